import PyProof.Rows.All
import Wide.All
import OpenK.AllK
import Wide.FinOn
import Lean
import PyProof.EqAt
import PyProof.EqKinds
import PyProof.TupleCall
import PyProof.ListNew
import PyProof.WalksMore
import PyProof.ListRange
import PyProof.RaisesMany
import PyProof.RulesTry
import PyProof.PassesOwn
import OpenK.KOwn
import PyProof.RulesAs
import PyProof.RulesDel
import PyProof.ExcArgsOwn
import PyProof.IsiBase
import KE.KIsAll
import KE.KDictOf
import PyProof.AttrMiss
import KE.KDictLaws
import PyProof.DictWalks
import PyProof.ZipIter
import PyProof.TupleIter
import KE.KPairComp
import PySem.Challenge.RW_kindspan_k41_machine
set_option Elab.async false
set_option linter.all false
set_option maxRecDepth 100000
set_option maxHeartbeats 16000000
set_option compiler.extract_closed false
noncomputable section
local macro_rules | `(term| nofun)=>`(term| ⟨rfl,rfl,rfl,by decide +kernel,rfl,by decide +kernel,by decide +kernel⟩)
local macro_rules | `(term| ())=>`(term| (by omega))
local macro_rules | `(term| ⟨⟩)=>`(term| (by decide))
theorem AR {α:Sort _}{β:α->Sort _}{γ:∀ a,β a->Sort _}{x:∀ a b,γ a b}:∀ a b,x a b=x a b:=λ_ _=>rfl
abbrev HE:List PySem.Str:=["_law_script","_law_k","_law_goal","_law_names","_law_deep"]
abbrev FD:List PySem.Str:=["_law_script","_law_k"]
inductive Dn {A0 A1:Type}(p:A0->A1->Prop):Prop
 | mk (a0:A0) (a1:A1) (h:p a0 a1):Dn p
inductive EM {A0 A1 A2:Type}(p:A0->A1->A2->Prop):Prop
 | mk (a0:A0) (a1:A1) (a2:A2) (h:p a0 a1 a2):EM p
inductive Lu {A0 A1 A2 A3:Type}(p:A0->A1->A2->A3->Prop):Prop
 | mk (a0:A0) (a1:A1) (a2:A2) (a3:A3) (h:p a0 a1 a2 a3):Lu p
inductive U0 {A0 A1 A2 A3 A4:Type}(p:A0->A1->A2->A3->A4->Prop):Prop
 | mk (a0:A0) (a1:A1) (a2:A2) (a3:A3) (a4:A4) (h:p a0 a1 a2 a3 a4):U0 p
inductive mY {A0 A1 A2 A3 A4 A5:Type}(p:A0->A1->A2->A3->A4->A5->Prop):Prop
 | mk (a0:A0) (a1:A1) (a2:A2) (a3:A3) (a4:A4) (a5:A5) (h:p a0 a1 a2 a3 a4 a5):mY p
inductive Iv7 {A0 A1 A2 A3 A4 A5 A6:Type}(p:A0->A1->A2->A3->A4->A5->A6->Prop):Prop
 | mk (a0:A0) (a1:A1) (a2:A2) (a3:A3) (a4:A4) (a5:A5) (a6:A6) (h:p a0 a1 a2 a3 a4 a5 a6):Iv7 p
inductive Iv8 {A0 A1 A2 A3 A4 A5 A6 A7:Type}(p:A0->A1->A2->A3->A4->A5->A6->A7->Prop):Prop
 | mk (a0:A0) (a1:A1) (a2:A2) (a3:A3) (a4:A4) (a5:A5) (a6:A6) (a7:A7) (h:p a0 a1 a2 a3 a4 a5 a6 a7):Iv8 p
inductive Iv9 {A0 A1 A2 A3 A4 A5 A6 A7 A8:Type}(p:A0->A1->A2->A3->A4->A5->A6->A7->A8->Prop):Prop
 | mk (a0:A0) (a1:A1) (a2:A2) (a3:A3) (a4:A4) (a5:A5) (a6:A6) (a7:A7) (a8:A8) (h:p a0 a1 a2 a3 a4 a5 a6 a7 a8):Iv9 p
inductive yJ {A0 A1 A2 A3 A4 A5 A6 A7 A8 A9:Type}(p:A0->A1->A2->A3->A4->A5->A6->A7->A8->A9->Prop):Prop
 | mk (a0:A0) (a1:A1) (a2:A2) (a3:A3) (a4:A4) (a5:A5) (a6:A6) (a7:A7) (a8:A8) (a9:A9) (h:p a0 a1 a2 a3 a4 a5 a6 a7 a8 a9):yJ p
inductive yK {A0 A1 A2 A3 A4 A5 A6 A7 A8 A9 Kb:Type}(p:A0->A1->A2->A3->A4->A5->A6->A7->A8->A9->Kb->Prop):Prop
 | mk (a0:A0) (a1:A1) (a2:A2) (a3:A3) (a4:A4) (a5:A5) (a6:A6) (a7:A7) (a8:A8) (a9:A9) (P':Kb) (h:p a0 a1 a2 a3 a4 a5 a6 a7 a8 a9 P'):yK p
inductive yL {A0 A1 A2 A3 A4 A5 A6 A7 A8 A9 Kb MP:Type}(p:A0->A1->A2->A3->A4->A5->A6->A7->A8->A9->Kb->MP->Prop):Prop
 | mk (a0:A0) (a1:A1) (a2:A2) (a3:A3) (a4:A4) (a5:A5) (a6:A6) (a7:A7) (a8:A8) (a9:A9) (P':Kb) (Q0:MP) (h:p a0 a1 a2 a3 a4 a5 a6 a7 a8 a9 P' Q0):yL p
inductive yM {A0 A1 A2 A3 A4 A5 A6 A7 A8 A9 Kb MP Q5:Type}(p:A0->A1->A2->A3->A4->A5->A6->A7->A8->A9->Kb->MP->Q5->Prop):Prop
 | mk (a0:A0) (a1:A1) (a2:A2) (a3:A3) (a4:A4) (a5:A5) (a6:A6) (a7:A7) (a8:A8) (a9:A9) (P':Kb) (Q0:MP) (U1:Q5) (h:p a0 a1 a2 a3 a4 a5 a6 a7 a8 a9 P' Q0 U1):yM p
inductive mZ {A0 A1 A2 A3 A4 A5 A6 A7 A8 A9 Kb MP Q5 Xa:Type}(p:A0->A1->A2->A3->A4->A5->A6->A7->A8->A9->Kb->MP->Q5->Xa->Prop):Prop
 | mk (a0:A0) (a1:A1) (a2:A2) (a3:A3) (a4:A4) (a5:A5) (a6:A6) (a7:A7) (a8:A8) (a9:A9) (P':Kb) (Q0:MP) (U1:Q5) (Z0:Xa) (h:p a0 a1 a2 a3 a4 a5 a6 a7 a8 a9 P' Q0 U1 Z0):mZ p
inductive yN {A0 A1 A2 A3 A4 A5 A6 A7 A8 A9 Kb MP Q5 Xa n4:Type}(p:A0->A1->A2->A3->A4->A5->A6->A7->A8->A9->Kb->MP->Q5->Xa->n4->Prop):Prop
 | mk (a0:A0) (a1:A1) (a2:A2) (a3:A3) (a4:A4) (a5:A5) (a6:A6) (a7:A7) (a8:A8) (a9:A9) (P':Kb) (Q0:MP) (U1:Q5) (Z0:Xa) (yO:n4) (h:p a0 a1 a2 a3 a4 a5 a6 a7 a8 a9 P' Q0 U1 Z0 yO):yN p
inductive n6 {A0 A1 A2 A3 A4 A5 A6 A7 A8 A9 Kb MP Q5 Xa n4 A15:Type}(p:A0->A1->A2->A3->A4->A5->A6->A7->A8->A9->Kb->MP->Q5->Xa->n4->A15->Prop):Prop
 | mk (a0:A0) (a1:A1) (a2:A2) (a3:A3) (a4:A4) (a5:A5) (a6:A6) (a7:A7) (a8:A8) (a9:A9) (P':Kb) (Q0:MP) (U1:Q5) (Z0:Xa) (yO:n4) (a15:A15) (h:p a0 a1 a2 a3 a4 a5 a6 a7 a8 a9 P' Q0 U1 Z0 yO a15):n6 p
namespace L2
open PySem PySem.Spec PyProof.Rows
abbrev Key:=Sum Int Str
noncomputable def IY:Key->Value->Bool
 | .inl k,v=>Value.isInt k v
 | .inr x,v=>Value.isStrOf x v
noncomputable def yP (w:World):Key->Int
 | .inl k=>hashInt k
 | .inr x=>hashStr w x
theorem BY:∀ {k:Key} {v:Value},IY k v=true->(∃ i t,k=Sum.inl i/\v=Value.int i t)\/(∃ x t,k=Sum.inr x/\v=Value.str x t)
 | .inl i,v,h=>by
  obtain ⟨t,e⟩:=Value.isInt_shape (k:=i) (v:=v) h
  exact .inl ⟨i,t,rfl,e⟩
 | .inr x,v,h=>by
  obtain ⟨t,e⟩:=Value.isStrOf_shape (x:=x) (v:=v) h
  exact .inr ⟨x,t,rfl,e⟩
theorem O2 (i:Int)(t:Tok):IY (.inl i) (.int i t)=true:=by simp [IY,Value.isInt]
theorem O3 (x:Str)(t:Tok):IY (.inr x) (.str x t)=true:=by simp [IY,Value.isStrOf]
theorem Z1 (a b:Int):decide ((Sum.inl a:Key)=Sum.inl b)=(a==b):=by
 by_cases e:a=b
 ·subst e;simp
 ·have h:¬ (Sum.inl a:Key)=Sum.inl b:=λq=>e (Sum.inl.inj q)
  rw [decide_eq_false h]
  exact (beq_eq_false_iff_ne.mpr e).symm
theorem Lv (a b:Str):decide ((Sum.inr a:Key)=Sum.inr b)=decide (a=b):=by
 by_cases e:a=b
 ·subst e;simp
 ·have h:¬ (Sum.inr a:Key)=Sum.inr b:=λq=>e (Sum.inr.inj q)
  rw [decide_eq_false h,decide_eq_false e]
theorem Z2 (a:Int)(b:Str):decide ((Sum.inl a:Key)=Sum.inr b)=false:=decide_eq_false (λq=>nomatch q)
theorem Z3 (a:Str)(b:Int):decide ((Sum.inr a:Key)=Sum.inl b)=false:=decide_eq_false (λq=>nomatch q)
noncomputable def Bm (prog:Program)(w:World):PySem.KeyKind prog w Key where
 is:=IY
 hash:=yP w
 inj:=λv a b ha hb=>by
  rcases BY ha with ⟨i,t,rfl,rfl⟩ | ⟨x,t,rfl,rfl⟩
  ·rcases BY hb with ⟨j,u,rfl,e⟩ | ⟨y,u,rfl,e⟩
   ·injection e with e1 _;rw [e1]
   ·exact nomatch e
  ·rcases BY hb with ⟨j,u,rfl,e⟩ | ⟨y,u,rfl,e⟩
   ·exact nomatch e
   ·injection e with e1 _;rw [e1]
 byValue:=λk v h=>by
  rcases BY h with ⟨i,t,rfl,rfl⟩ | ⟨x,t,rfl,rfl⟩ <;> rfl
 pyHash:=λhv h=>by
  rcases BY hv with ⟨i,t,rfl,rfl⟩ | ⟨x,t,rfl,rfl⟩
  ·exact wpAny_pyHash_int h
  ·exact wpAny_pyHash_str h
 eqBool:=λhu hv h=>by
  rcases BY hu with ⟨i,t,rfl,rfl⟩ | ⟨x,t,rfl,rfl⟩
  ·rcases BY hv with ⟨j,u,rfl,rfl⟩ | ⟨y,u,rfl,rfl⟩
   ·rw [Z1] at h;exact wpAny_eqBool_int h
   ·rw [Z2] at h;exact SeqAt.EqAt.int_str i t y u _ _ _ _ h
  ·rcases BY hv with ⟨j,u,rfl,rfl⟩ | ⟨y,u,rfl,rfl⟩
   ·rw [Z3] at h;exact SeqAt.EqAt.str_int x t j u _ _ _ _ h
   ·rw [Lv] at h;exact wpAny_eqBool_str h
 «strs»:=λk x t v h=>by
  rcases BY h with ⟨i,u,rfl,e⟩ | ⟨y,u,rfl,e⟩
  ·exact nomatch e
  ·injection e with e1 _
   subst e1
   cases v <;> rfl
theorem Kc (prog:Program)(w:World)(i:Int)(t:Tok):(Bm prog w).is (.inl i) (.int i t)=true:=O2 i t
theorem EU (prog:Program)(w:World)(x:Str)(t:Tok):(Bm prog w).is (.inr x) (.str x t)=true:=O3 x t
inductive V where
 | non | bl (b:Bool) | int (i:Int) | str (x:Str) | byt (b:Array UInt8) | flt (b:UInt64) | ref (a:Addr) | ty (n:String)
 deriving DecidableEq
noncomputable def RelV:V->Value->Prop
 | .non,u=>u=Value.none
 | .bl b,u=>u=Value.bool b
 | .int i,u=>∃ t,u=Value.int i t
 | .str x,u=>∃ t,u=Value.str x t
 | .byt b,u=>∃ t,u=Value.bytes b t
 | .flt b,u=>∃ t,u=Value.float b t
 | .ref a,u=>u=Value.ref a
 | .ty n,u=>u=Value.type n
abbrev Vals:List V->List Value->Prop:=Paired RelV
theorem Vals.length {xs:List V}{us:List Value}(r:Vals xs us):xs.length=us.length:=Paired.length r
theorem Vals.get:∀ {xs:List V} {us:List Value} {i:Nat} {x:V},Vals xs us->xs[i]?=some x->∃ u,us[i]?=some u/\RelV x u
 | _,_,_,_,.nil,e=>by simp at e
 | _,_,0,_,.cons r _,e=>by simp at e;subst e;exact ⟨_,rfl,r⟩
 | _,_,i+1,x,.cons _ t,e=>by
  obtain ⟨u,h1,h2⟩:=Vals.get (i:=i) (x:=x) t (by simpa using e)
  exact ⟨u,by simpa using h1,h2⟩
theorem Vals.append:∀ {xs ys:List V} {us ws:List Value},Vals xs us->Vals ys ws->Vals (xs++ys) (us++ws)
 | _,_,_,_,.nil,s=>s
 | _,_,_,_,.cons r t,s=>.cons r (Vals.append t s)
theorem Vals.take:∀ {xs:List V} {us:List Value} (n:Nat),Vals xs us->Vals (xs.take n) (us.take n)
 | _,_,0,_=>.nil
 | _,_,_+1,.nil=>.nil
 | _,_,n+1,.cons r t=>.cons r (Vals.take n t)
theorem Vals.drop:∀ {xs:List V} {us:List Value} (n:Nat),Vals xs us->Vals (xs.drop n) (us.drop n)
 | _,_,0,r=>r
 | _,_,_+1,.nil=>.nil
 | _,_,n+1,.cons _ t=>Vals.drop n t
noncomputable def ET:Option V->Option Value->Prop
 | some v,some u=>RelV v u
 | none,none=>True
 | _,_=>False
noncomputable def KV {κ:Type}:List (κ × V)->List (κ × Value)->Prop:=Paired λ(p:κ × V) (q:κ × Value)=>p.1=q.1/\RelV p.2 q.2
noncomputable def kV:Key->V
 | .inl i=>.int i
 | .inr x=>.str x
inductive HO where
 /-- a list -/
 | lst (xs:List V)
 /-- a tuple (never changes) -/
 | tup (xs:List V)
 /-- a dict whose keys are ints and texts;one whose keys are tuples of ints and texts (the empty one is both) -/
 | dK (AH:List (Key × V)) | dT (AH:List (List Key × V))
 /-- a set of ints: its members,its size -/
 | set (S:Int->Bool) (n:Nat)
 /-- an instance of the class at C,its dict at dx,its attributes -/
 | ins (C dx:Addr) (fs:List (Str × V))
 /-- the dict of the instance at x -/
 | own (x:Addr)
 /-- the dict of an exception -/
 | xd (fs:List (Str × V))
 /-- a bound method,f of x -/
 | met (f x:Addr)
 /-- a range object lo,lo+1,.. below hi -/
 | rng (lo hi:Int)
 /-- a n8 that is known to the object (the yQ;a dict while a loop walks it): read,never written while it is so -/
 | frz (o:Obj) (u:HO)
 /-- a code n9 table -/
 | tbl (ps:Array Value)
 /-- any other n8,by what is true of its one object (a def of Arz own: Av4 a S n:=HO.ext λh=>..) -/
 | ext (φ:Heap->Prop)
abbrev Hp:=Addr->Option HO
noncomputable def upd (H:Hp)(a:Addr)(o:HO):Hp:=λb=>if b=a then some o else H b
theorem Ap {H:Hp}{a:Addr}{o:HO}:upd H a o a=some o:=by unfold upd;rw [if_pos rfl]
theorem Aq {H:Hp}{a b:Addr}{o:HO}(h:b≠a):upd H a o b=H b:=by unfold upd;rw [if_neg h]
theorem E6 {H:Hp}{a:Addr}{o u:HO}:upd (upd H a o) a u=upd H a u:=by
 funext b;unfold upd;split <;> rfl
theorem E7 {H:Hp}{a b:Addr}{o u:HO}(h:H a=some o)(h':H b=some u)(d:o≠u):a≠b:=by
 intro e;subst e;rw [h] at h';exact d (Option.some.inj h')
theorem AF {H:Hp}{a b:Addr}{o:HO}(h:H a=some o)(h':H b=none):a≠b:=by
 intro e;subst e;rw [h] at h';cases h'
section
variable (P:Program)(w:World)
noncomputable def Bk (H:Hp)(h:Heap)(a:Addr):HO->Prop
 | .lst xs=>xs.length<=sizeLine/\∃ (its:List Value) (n:Nat),Vals xs its/\h.get? a=some { cls:=.type "list",data:=.seq its.toArray n }
 | .tup xs=>xs.length<=sizeLine/\∃ its:List Value,Vals xs its/\IsTup h a its.toArray
 | .dK AH=>AH.length<=sizeLine/\(a==sysModules)=false/\∃ vs,KV AH vs/\h.DictOf (Bm P w) a vs
 | .dT AH=>AH.length<=sizeLine/\(a==sysModules)=false/\∃ xs:List (List Key × Addr × Value),
   Paired (λ(p:List Key × V) (q:List Key × Addr × Value)=>p.1=q.1/\H q.2.1=some (.tup (p.1.map kV))/\RelV p.2 q.2.2) AH xs /\
   ∃ o es ep,h.get? a=some o/\o.ExactDict/\o.data=.dict es ep/\es.toList=xs.map (entryOfKey (tupleKind (Bm P w)))/\(xs.map (·.1)).Nodup
 | .set S n=>h.SetOf (intKind P w) a S n
 | .ins C dx fs=>H dx=some (.own a)/\fs.length<=1000/\dx≠a/\h.get? a=some (W.instObj C dx) /\
   ∃ mA,h.Ns1 dx mA/\(∀ f,ET (fs.lookup f) (mA f))/\PySem.Within mA (fs.map (·.1))
 | .own _=>∃ o,h.get? a=some o
 | .xd fs=>∃ mA,h.Ns1 a mA/\∀ f,ET (fs.lookup f) (mA f)
 | .rng lo hi=>∃ t u v,h.get? a=some { cls:=.type "range",data:=.fields #[.int lo t,.int hi u,.int 1 v] }
 | .frz o u=>h.get? a=some o/\Bk H h a u
 | .tbl ps=>h.get? a=some { cls:=.none,data:=.fields ps }
 | .met f x=>h.get? a=some (W.methodObj (.ref f) (.ref x))
 | .ext φ=>φ h/\(∃ o,h.get? a=some o)/\∀ h1 h2:Heap,φ h1->(∀ o,h1.get? a=some o->h2.get? a=some o)->φ h2
noncomputable def E8 (H:Hp)(h:Heap):Prop:=∀ a o,H a=some o->Bk P w H h a o
end
section
variable {P:Program}{w:World}{H H':Hp}{h h':Heap}{a:Addr}{o:HO}
theorem Bk.lt (x:Bk P w H h a o):a < h.objs.size:=by
 cases o with
 | lst xs=>obtain ⟨_,_,_,_,e⟩:=x;exact Heap.lt_size e
 | tup xs=>obtain ⟨_,_,_,p⟩:=x;exact p.lt
 | dK AH=>obtain ⟨_,_,_,_,o,_,_,e,_⟩:=x;exact Heap.lt_size e
 | dT AH=>obtain ⟨_,_,_,_,o,_,_,e,_⟩:=x;exact Heap.lt_size e
 | set S n=>obtain ⟨o,_,_,_,e,_⟩:=x;exact Heap.lt_size e
 | ins C dx fs=>obtain ⟨_,_,_,e,_⟩:=x;exact Heap.lt_size e
 | own y=>obtain ⟨_,e⟩:=x;exact Heap.lt_size e
 | xd fs=>obtain ⟨_,⟨_,_,_,e,_⟩,_⟩:=x;exact Heap.lt_size e
 | rng lo hi=>obtain ⟨_,_,_,e⟩:=x;exact Heap.lt_size e
 | frz ob u=>obtain ⟨e,_⟩:=x;exact Heap.lt_size e
 | tbl ps=>exact Heap.lt_size (show h.get? a=some _ from x)
 | met f y=>exact Heap.lt_size (show h.get? a=some _ from x)
 | ext φ=>obtain ⟨_,⟨_,e⟩,_⟩:=x;exact Heap.lt_size e
theorem Paired.mapP {α β:Type}{F G:α->β->Prop}:∀ {l₁:List α} {l₂:List β},Paired F l₁ l₂->(∀ a b,F a b->G a b)->Paired G l₁ l₂
 | _,_,.nil,_=>.nil
 | _,_,.cons r t,f=>.cons (f _ _ r) (Paired.mapP t f)
theorem Bk.stay (x:Bk P w H h a o)(k:∀ b u,(b=a\/H b=some (.own a))->h.get? b=some u->h'.get? b=some u)
  (ho:∀ b,H b=some (.own a)->H' b=some (.own a)) (ht:∀ b xs,H b=some (.tup xs)->H' b=some (.tup xs)):Bk P w H' h' a o:=by
 induction o with
 | lst xs=>obtain ⟨z,its,n,r,e⟩:=x;exact ⟨z,its,n,r,k _ _ (.inl rfl) e⟩
 | tup xs=>obtain ⟨z,its,r,ob,e,c⟩:=x;exact ⟨z,its,r,ob,k _ _ (.inl rfl) e,c⟩
 | dK AH=>obtain ⟨z,y,vs,r,ob,es,ep,e,c⟩:=x;exact ⟨z,y,vs,r,ob,es,ep,k _ _ (.inl rfl) e,c⟩
 | dT AH =>
  obtain ⟨z,y,xs,r,ob,es,ep,e,c⟩:=x
  exact ⟨z,y,xs,Paired.mapP r λp q z=>⟨z.1,ht _ _ z.2.1,z.2.2⟩,ob,es,ep,k _ _ (.inl rfl) e,c⟩
 | set S n=>obtain ⟨ob,es,ep,t,e,c⟩:=x;exact ⟨ob,es,ep,t,k _ _ (.inl rfl) e,c⟩
 | ins C dx fs =>
  obtain ⟨d,z,ne,e,mA,⟨od,es,ep,e2,c⟩,r⟩:=x
  exact ⟨ho _ d,z,ne,k _ _ (.inl rfl) e,mA,⟨od,es,ep,k _ _ (.inr d) e2,c⟩,r⟩
 | own y=>obtain ⟨ob,e⟩:=x;exact ⟨ob,k _ _ (.inl rfl) e⟩
 | xd fs=>obtain ⟨mA,⟨od,es,ep,e,c⟩,r⟩:=x;exact ⟨mA,⟨od,es,ep,k _ _ (.inl rfl) e,c⟩,r⟩
 | rng lo hi=>obtain ⟨t,u,v,e⟩:=x;exact ⟨t,u,v,k _ _ (.inl rfl) e⟩
 | frz ob u ih=>obtain ⟨e,q⟩:=x;exact ⟨k _ _ (.inl rfl) e,ih q⟩
 | tbl ps =>
  have e:h.get? a=some { cls:=.none,data:=.fields ps }:=x
  show h'.get? a=some { cls:=.none,data:=.fields ps }
  exact k a _ (.inl rfl) e
 | met f y =>
  have e:h.get? a=some (W.methodObj (.ref f) (.ref y)):=x
  show h'.get? a=some (W.methodObj (.ref f) (.ref y))
  exact k a _ (.inl rfl) e
 | ext φ=>obtain ⟨p,⟨o,e⟩,st⟩:=x;exact ⟨st _ _ p λo q=>k _ _ (.inl rfl) q,⟨o,k _ _ (.inl rfl) e⟩,st⟩
theorem E8.lt (x:E8 P w H h)(e:H a=some o):a < h.objs.size:=(x a o e).lt
theorem E8.fresh (x:E8 P w H h)(e:h.objs.size<=a):H a=none:=by
 cases q:H a with
 | none=>rfl
 | some u=>exact absurd (Nat.lt_of_lt_of_le (x.lt q) e) (Nat.lt_irrefl _)
theorem E8.kept (x:E8 P w H h)(k:∀ b u,h.get? b=some u->h'.get? b=some u):E8 P w H h':=λa o e =>
 (x a o e).stay (λb u _ q=>k b u q) (λ_ q=>q) λ_ _ q=>q
theorem E8.laid (x:E8 P w H h)(k:∀ b u,h.get? b=some u->h'.get? b=some u)(hp:h.objs.size<=a)(new:Bk P w (upd H a o) h' a o):E8 P w (upd H a o) h':=λb u e=>by
 have hn:=x.fresh hp
 by_cases hb:b=a
 ·subst hb;rw [Ap] at e;cases e;exact new
 ·rw [Aq hb] at e
  exact (x b u e).stay (λc v _ q=>k c v q) (λc q=>by rw [Aq (AF q hn)];exact q) λc xs q=>by rw [Aq (AF q hn)];exact q
end
noncomputable def Rd (H:Hp)(a:Addr)(u:HO):Prop:=H a=some u\/∃ o,H a=some (.frz o u)
theorem Rd.ok {P:Program}{w:World}{H:Hp}{h:Heap}{a:Addr}{u:HO}(r:Rd H a u)(x:E8 P w H h):Bk P w H h a u:=by
 rcases r with r | ⟨o,r⟩
 ·exact x a u r
 ·obtain ⟨_,q⟩:=x a _ r
  exact q
noncomputable def nc:Option HO->Prop
 | some (.lst _)=>True
 | some (.dK _)=>True
 | some (.dT _)=>True
 | some (.set _ _)=>True
 | some (.ins _ _ _)=>True
 | some (.ext _)=>True
 | _=>False
section
variable {P:Program}{w:World}{H:Hp}{h h':Heap}{x e:Addr}{o':HO}
theorem E8.write (ok:E8 P w H h)(mu:nc (H x))(he:e=x\/H e=some (.own x))(k:∀ b u,b≠e->h.get? b=some u->h'.get? b=some u)(lK:∃ u,h'.get? e=some u)
  (new:Bk P w (upd H x o') h' x o'):E8 P w (upd H x o') h':=λb u q=>by
 have ng:∀ c y,H c=some (.own y)->c≠x:=λc y r z=>by subst z;rw [r] at mu;exact mu
 have yR:∀ c xs,H c=some (.tup xs)->c≠x:=λc xs r z=>by subst z;rw [r] at mu;exact mu
 by_cases hb:b=x
 ·subst hb;rw [Ap] at q;cases q;exact new
 ·rw [Aq hb] at q
  by_cases Z4:b=e
  ·have q':H b=some (.own x):=by
    rcases he with z | z
    ·exact absurd (Z4.trans z) hb
    ·rw [Z4];exact z
   rw [q] at q';cases q'
   obtain ⟨v,hv⟩:=lK
   exact ⟨v,by rw [Z4];exact hv⟩
  ·refine (ok b u q).stay (λc v hc r=>k c v ?_ r) (λc r=>by rw [Aq (ng c b r)];exact r) λc xs r=>by rw [Aq (yR c xs r)];exact r
   rcases hc with rfl | hc
   ·exact Z4
   ·rintro rfl
    rcases he with z | z
    ·exact ng c b hc z
    ·rw [hc] at z;cases z;exact hb rfl
end
structure Un (fs ex:List Addr)(H H':Hp)(h h':Heap):Prop where
 keep:∀ b o,h.get? b=some o->H b=none->b∉fs->b∉ex->h'.get? b=some o
 slot:∀ b o,h.get? b=some o->H b=none->b∈fs->b∉ex->∃ sl,h'.get? b=some { o with slots:=sl }
 free:∀ b o,h.get? b=some o->H b=none->b∉ex->H' b=none
 there:∀ b o,h.get? b=some o->b∉ex->∃ o',h'.get? b=some o'
 tups:∀ b xs,H b=some (.tup xs)->H' b=some (.tup xs)
 frzs:∀ b o u,H b=some (.frz o u)->H' b=some (.frz o u)
 tbls:∀ b ps,H b=some (.tbl ps)->∃ more,H' b=some (.tbl (ps++more))
section
variable {fs IB ex ex':List Addr}{H H1 H2:Hp}{h h1 h2 h':Heap}{a x e:Addr}{o:HO}
theorem Un.any (u:Un fs ex H H1 h h1){b:Addr}{ob:Obj}(q:h.get? b=some ob)(n:H b=none)(hx:b∉ex):∃ sl,h1.get? b=some { ob with slots:=sl }:=by
 by_cases hb:b∈fs
 ·exact u.slot b ob q n hb hx
 ·exact ⟨ob.slots,u.keep b ob q n hb hx⟩
theorem Un.kept (k:∀ b u,h.get? b=some u->h'.get? b=some u):Un fs ex H H h h' :=
 ⟨λb ob q _ _ _=>k b ob q,λb ob q _ _ _=>⟨ob.slots,k b ob q⟩,λ_ _ _ n _=>n,λb ob q _=>⟨ob,k b ob q⟩,λ_ _ q=>q,λ_ _ _ q=>q,λ_ ps q=>⟨#[],by rw [q];simp⟩⟩
theorem Un.refl:Un fs ex H H h h:=Un.kept λ_ _ q=>q
theorem Un.laid (k:∀ b u,h.get? b=some u->h'.get? b=some u)(hp:h.objs.size<=a)(hn:H a=none):Un fs ex H (upd H a o) h h' where
 keep:=λb u q _ _ _=>k b u q
 slot:=λb u q _ _ _=>⟨u.slots,k b u q⟩
 free:=λb u q n _=>by rw [Aq (Nat.ne_of_lt (Nat.lt_of_lt_of_le (Heap.lt_size q) hp))];exact n
 there:=λb u q _=>⟨u,k b u q⟩
 tups:=λb xs q=>by rw [Aq (AF q hn)];exact q
 frzs:=λb u xs q=>by rw [Aq (AF q hn)];exact q
 tbls:=λb ps q=>⟨#[],by rw [Aq (AF q hn),q];simp⟩
theorem Un.write (mu:nc (H x))(he:e=x\/H e=some (.own x))(k:∀ b u,b≠e->h.get? b=some u->h'.get? b=some u)(lK:∃ u,h'.get? e=some u):Un fs ex H (upd H x o) h h':=by
 have hx:∀ b,H b=none->b≠x:=λb n z=>by subst z;rw [n] at mu;exact mu
 have hb:∀ b,H b=none->b≠e:=λb n z=>by
  subst z
  rcases he with r | r
  ·exact hx b n r
  ·rw [n] at r;cases r
 have hm:∀ b u,H b=some u->¬ nc (some u)->b≠x:=λb u q nm z=>by subst z;rw [q] at mu;exact nm mu
 refine ⟨λb u q n _ _=>k b u (hb b n) q,λb u q n _ _=>⟨u.slots,k b u (hb b n) q⟩,λb u q n _=>by rw [Aq (hx b n)];exact n,λb u q _=>?_,
  λb xs q=>by rw [Aq (hm b _ q λz=>z)];exact q,λb u xs q=>by rw [Aq (hm b _ q λz=>z)];exact q,λb ps q=>⟨#[],by rw [Aq (hm b _ q λz=>z),q];simp⟩⟩
 by_cases Z4:b=e
 ·subst Z4;exact lK
 ·exact ⟨u,k b u Z4 q⟩
end
noncomputable def TM (h:Heap)(H:Hp):List Addr:=(List.range h.objs.size).filter λa=>(H a).isSome
noncomputable def IG (h:Heap)(H:Hp):Heap:=W.hideAll h (TM h H)
theorem O4 (h:Heap)(H:Hp):(IG h H).objs.size=h.objs.size:=W.hideAll_size _ _
theorem Q6 {h:Heap}{H:Hp}{b:Addr}{o:Obj}(e:h.get? b=some o)(n:H b=none):(IG h H).get? b=some o :=
 W.hideAll_get _ e λhm=>by
  have q:(H b).isSome=true:=(List.mem_filter.mp hm).2
  rw [n] at q;simp at q
theorem U2 {h:Heap}{H:Hp}{b:Addr}{o:Obj}(e:(IG h H).get? b=some o):h.get? b=some o/\H b=none:=by
 have e':h.get? b=some o:=W.of_hideAll (TM h H) e
 refine ⟨e',?_⟩
 cases q:H b with
 | none=>rfl
 | some x =>
  have hm:b∈TM h H:=List.mem_filter.mpr ⟨List.mem_range.mpr (Heap.lt_size e'),by simp [q]⟩
  have z:(IG h H).get? b=none:=W.hideAll_none (TM h H) hm
  rw [z] at e;cases e
structure Mod (K:W.Frag)(mg:Str->Option Value)(base:Heap):Prop where
 kin:K.In base
 glob:base.Ns mainGlobals mg
 blt:∃ mb,base.Ns builtinsNs mb/\∀ x:Str,x≠"__name__"->mb x=bootBuiltins x
 nolimit:base.NoLimit
structure Cx where
 prog:Program
 w:World
 K:W.Frag
 mg:Str->Option Value
 base:Heap
 A:Around
 N:List Str
 s₀:Shared
 H₀:Hp
 env:Env
 outer:List Env
 stack:List Env
 ex:List Addr
 fn:Str->Bool
 calm:Bool
 pn:List (Addr × Obj)
 xe:Value->Shared->Prop
noncomputable def frs (l:List Env):List Addr:=l.filterMap (·.frame)
abbrev Cx.fs (X:Cx):List Addr:=frs X.outer
noncomputable def Xb (sc:Scope)(x:Str):Prop:=sc.names.lookup x=some .local\/sc.names.lookup x=some .cell\/sc.names.lookup x=some .free
noncomputable def Loc (sc:Scope)(x:Str):Prop:=sc.names.lookup x=some .local\/sc.names.lookup x=some .cell
noncomputable def Look (env:Env)(h:Heap)(m:Str->Option Value)(x:Str)(u:Value):Prop :=
 (env.kindOf x=some .local/\m x=some u)\/((env.kindOf x=some .cell\/env.kindOf x=some .free)/\∃ c,env.cells.lookup x=some c/\h.IsCell c (some u))
structure Cx.Ok (X:Cx):Prop where
 mod:Mod X.K X.mg X.base
 kind:X.env.scope.kind=.function
 glob:X.env.globals=mainGlobals
 blt:X.env.builtins=builtinsNs
 above:X.s₀.heap.objs.size<=X.env.locals
 inj:∀ x y c,X.env.cells.lookup x=some c->X.env.cells.lookup y=some c->x=y
 has:∀ x,(X.env.kindOf x=some .cell\/X.env.kindOf x=some .free)->∃ c,X.env.cells.lookup x=some c
 cab:∀ x c,X.fn x=true->X.env.cells.lookup x=some c->X.s₀.heap.objs.size<=c
 hd:X.calm=true->X.A.handled=none
 frames:X.A.frames=some X.stack
 stk:X.stack=X.outer\/(X.stack=X.env::X.outer/\X.env.frame=some X.env.locals)
 exf:∀ b∈X.ex,b≠X.env.locals/\∀ x c,X.env.cells.lookup x=some c->c≠b
 bs:∀ b o,X.base.get? b=some o->X.s₀.heap.get? b=some o/\X.H₀ b=none
 bsz:X.base.objs.size<=X.s₀.heap.objs.size
 noex:∀ b o,X.base.get? b=some o->b∉X.ex
 exfs:∀ b∈X.ex,b∉X.fs
 funs:X.s₀.heap.FunFrames X.base X.outer
 frf:∀ b∈X.fs,X.H₀ b=none
structure Inv (X:Cx)(pins:List (Addr × Obj))(σ:List (Option V))(H:Hp)(s:Shared):Prop where
 ok:X.Ok
 os:s.os=X.s₀.os
 bare:AllBare s.gens
 base:Un X.fs X.ex X.H₀ H X.s₀.heap s.heap
 loc:∃ m,s.heap.Ns X.env.locals m/\∀ (i:Nat) (x:Str) (v:V),X.N[i]?=some x->σ[i]?=some (some v)->Xb X.env.scope x->∃ u,RelV v u/\Look X.env s.heap m x u
 cell:∀ x c,X.env.cells.lookup x=some c->∃ v,s.heap.IsCell c v
 free:H X.env.locals=none
 freeC:∀ x c,X.env.cells.lookup x=some c->H c=none
 pin:∀ p∈X.pn++pins,s.heap.get? p.1=some p.2/\H p.1=none/\p.1≠X.env.locals/\p.1∉X.fs/\∀ v,p.2.data≠.cell v
 hok:E8 X.prog X.w H s.heap
 len:σ.length=X.N.length
section
variable {X:Cx}{pins:List (Addr × Obj)}{σ:List (Option V)}{H H':Hp}{s:Shared}{h':Heap}
theorem Cx.Ok.nofr (ok:X.Ok){b:Addr}{o:Obj}(e:X.base.get? b=some o):b∉X.fs:=λhb=>by
 have:=(ok.funs.mem hb).1
 rw [e] at this;cases this
theorem Inv.bs (I:Inv X pins σ H s):∀ b o,X.base.get? b=some o->s.heap.get? b=some o/\H b=none:=λb o e =>
 ⟨I.base.keep b o (I.ok.bs b o e).1 (I.ok.bs b o e).2 (I.ok.nofr e) (I.ok.noex b o e),I.base.free b o (I.ok.bs b o e).1 (I.ok.bs b o e).2 (I.ok.noex b o e)⟩
theorem Inv.bk (I:Inv X pins σ H s):∀ b o,X.base.get? b=some o->s.heap.get? b=some o:=λb o e=>(I.bs b o e).1
theorem Inv.mod (I:Inv X pins σ H s):Mod X.K X.mg X.base:=I.ok.mod
theorem Inv.kIn (I:Inv X pins σ H s):X.K.In s.heap:=I.ok.mod.kin.keeps I.bk
theorem Inv.fr (I:Inv X pins σ H s):∃ m,Fr X.base X.env.locals s.heap m :=
 let ⟨m,hn,_⟩:=I.loc
 ⟨m,hn,I.bk,Nat.le_trans I.ok.bsz I.ok.above⟩
theorem Inv.lt (I:Inv X pins σ H s):X.env.locals < s.heap.objs.size:=let ⟨_,hn,_⟩:=I.loc;hn.lt
theorem Inv.sz (I:Inv X pins σ H s):X.s₀.heap.objs.size<=s.heap.objs.size:=Nat.le_trans I.ok.above (Nat.le_of_lt I.lt)
theorem Inv.nofs (I:Inv X pins σ H s){a:Addr}(h:s.heap.objs.size<=a):a∉X.fs:=λhb=>by
 obtain ⟨_,o,ho,_⟩:=I.ok.funs.mem hb
 exact absurd (Nat.lt_of_lt_of_le (Heap.lt_size ho) (Nat.le_trans I.sz h)) (Nat.lt_irrefl _)
theorem Inv.cne (I:Inv X pins σ H s):∀ x c,X.env.cells.lookup x=some c->c≠X.env.locals:=λx c e z=>by
 obtain ⟨v,o,ho,hd⟩:=I.cell x c e
 obtain ⟨m,⟨o',es,ep,Z5,PL,_⟩,_⟩:=I.loc
 rw [z,Z5] at ho;cases ho;rw [PL] at hd;cases hd
theorem Inv.funs (I:Inv X pins σ H s):s.heap.FunFrames X.base X.outer:=by
 have all:∀ (l:List Env),(∀ b∈frs l,b∈X.fs)->X.s₀.heap.FunFrames X.base l->s.heap.FunFrames X.base l:=by
  intro l
  induction l with
  | nil=>intro _ _;trivial
  | cons env r ih =>
   intro hs hl
   obtain ⟨hk,⟨L,o,hf,hn,ho,hd⟩,hr⟩:=hl
   have hL:L∈X.fs:=hs L (by unfold frs;rw [List.filterMap_cons,hf];exact List.mem_cons_self)
   obtain ⟨sl,e⟩:=I.base.slot L o ho (I.ok.frf L hL) hL λz=>I.ok.exfs L z hL
   exact ⟨hk,⟨L,_,hf,hn,e,hd⟩,ih (λb hb=>hs b (by unfold frs;rw [List.filterMap_cons,hf];exact List.mem_cons_of_mem _ hb)) hr⟩
 exact all X.outer (λ_ hb=>hb) I.ok.funs
theorem Inv.stack (I:Inv X pins σ H s):s.heap.FunFrames X.base X.stack:=by
 rcases I.ok.stk with e | ⟨e,hf⟩
 ·rw [e];exact I.funs
 ·rw [e]
  obtain ⟨m,hn,_⟩:=I.loc
  refine .cons (by rw [I.ok.kind];decide) hf hn ?_ I.funs
  exact Heap.get?_none_of_le (Nat.le_trans I.ok.bsz I.ok.above)
theorem Inv.stkSub (I:Inv X pins σ H s):∀ b∈frs X.stack,b∈X.env.locals::X.fs:=λb hb=>by
 rcases I.ok.stk with e | ⟨e,hf⟩
 ·rw [e] at hb;exact List.mem_cons_of_mem _ hb
 ·rw [e] at hb
  unfold frs at hb
  rw [List.filterMap_cons,hf] at hb
  exact hb
theorem Inv.stkFree (I:Inv X pins σ H s):∀ b∈frs X.stack,H b=none:=λb hb=>by
 rcases List.mem_cons.mp (I.stkSub b hb) with e | hb
 ·rw [e];exact I.free
 ·obtain ⟨_,o,ho,_⟩:=I.ok.funs.mem hb
  exact I.base.free b o ho (I.ok.frf b hb) λz=>I.ok.exfs b z hb
theorem Inv.step {g':Array GenState}{t':Nat}{d':Drawn}{ch:List Addr}(I:Inv X pins σ H s)
  (Lq:∀ b∈ch,(b∈X.ex\/X.s₀.heap.objs.size<=b)/\b≠X.env.locals/\(∀ x c,X.env.cells.lookup x=some c->c≠b)/\∀ p∈X.pn++pins,p.1≠b)
  (keep:∀ b o,b≠X.env.locals->b∉X.fs->b∉ch->s.heap.get? b=some o->H b=none->h'.get? b=some o)
  (slot:∀ b o,b≠X.env.locals->b∈X.fs->b∉ch->s.heap.get? b=some o->H b=none->∃ sl,h'.get? b=some { o with slots:=sl }) (free:∀ b o,b∉ch->s.heap.get? b=some o->H b=none->H' b=none)
  (there:∀ b o,b∉ch->s.heap.get? b=some o->∃ o',h'.get? b=some o')
  (tups:∀ b xs,H b=some (.tup xs)->H' b=some (.tup xs)) (frzs:∀ b o u,H b=some (.frz o u)->H' b=some (.frz o u)) (tbls:∀ b ps,H b=some (.tbl ps)->∃ more,H' b=some (.tbl (ps++more)))
  (ns:∀ m,s.heap.Ns X.env.locals m->h'.Ns X.env.locals m) (hok:E8 X.prog X.w H' h') (hg:AllBare g') :
  Inv X pins σ H' { s with heap:=h',gens:=g',drawn:=d',toks:=t' }:=by
 have ni:∀ b o,X.s₀.heap.get? b=some o->b≠X.env.locals:=λb o e=>Nat.ne_of_lt (Nat.lt_of_lt_of_le (Heap.lt_size e) I.ok.above)
 have U3:∀ b o,X.s₀.heap.get? b=some o->b∉X.ex->b∉ch:=λb o e hx hb=>by
  rcases (Lq b hb).1 with z | z
  ·exact hx z
  ·exact absurd (Nat.lt_of_lt_of_le (Heap.lt_size e) z) (Nat.lt_irrefl _)
 have cellK:∀ x c,X.env.cells.lookup x=some c->∀ v,s.heap.IsCell c v->h'.IsCell c v:=λx c e v ⟨o,ho,hd⟩=>by
  have Q7:c∉ch:=λz=>(Lq c z).2.2.1 x c e rfl
  by_cases hc:c∈X.fs
  ·obtain ⟨sl,q⟩:=slot c o (I.cne x c e) hc Q7 ho (I.freeC x c e)
   exact ⟨_,q,hd⟩
  ·exact ⟨o,keep c o (I.cne x c e) hc Q7 ho (I.freeC x c e),hd⟩
 refine ⟨I.ok,I.os,hg,⟨λb o e n hb hx=>?_,λb o e n hb hx=>?_,λb o e n hx=>?_,λb o e hx=>?_,λb xs e=>tups b xs (I.base.tups b xs e),λb o xs e=>frzs b o xs (I.base.frzs b o xs e),λb ps e=>?_⟩,?_,λx c e=>?_,?_,λx c e=>?_,λp hp=>?_,hok,I.len⟩
 ·exact keep b o (ni b o e) hb (U3 b o e hx) (I.base.keep b o e n hb hx) (I.base.free b o e n hx)
 ·obtain ⟨sl,e1⟩:=I.base.slot b o e n hb hx
  obtain ⟨yS,e2⟩:=slot b _ (ni b o e) hb (U3 b o e hx) e1 (I.base.free b o e n hx)
  exact ⟨yS,e2⟩
 ·obtain ⟨o',e1⟩:=I.base.there b o e hx
  exact free b o' (U3 b o e hx) e1 (I.base.free b o e n hx)
 ·obtain ⟨o',e1⟩:=I.base.there b o e hx
  exact there b o' (U3 b o e hx) e1
 ·obtain ⟨m1,e1⟩:=I.base.tbls b ps e
  obtain ⟨m2,e2⟩:=tbls b _ e1
  exact ⟨m1++m2,by rw [e2,Array.append_assoc]⟩
 ·obtain ⟨m,hn,hl⟩:=I.loc
  refine ⟨m,ns m hn,λi x v e1 e2 e3=>?_⟩
  obtain ⟨u,r,l⟩:=hl i x v e1 e2 e3
  refine ⟨u,r,?_⟩
  rcases l with l | ⟨k,c,e,z⟩
  ·exact .inl l
  ·exact .inr ⟨k,c,e,cellK x c e _ z⟩
 ·obtain ⟨v,z⟩:=I.cell x c e
  exact ⟨v,cellK x c e v z⟩
 ·obtain ⟨m,⟨o,_,_,ho,_⟩,_⟩:=I.loc
  exact free _ o (λz=>(Lq _ z).2.1 rfl) ho I.free
 ·obtain ⟨v,o,ho,hd⟩:=I.cell x c e
  exact free c o (λz=>(Lq c z).2.2.1 x c e rfl) ho (I.freeC x c e)
 ·obtain ⟨e,n,ne,nf,d⟩:=I.pin p hp
  have Q7:p.1∉ch:=λz=>(Lq p.1 z).2.2.2 p hp rfl
  exact ⟨keep p.1 p.2 ne nf Q7 e n,free p.1 p.2 Q7 e n,ne,nf,d⟩
theorem Inv.un {t':Nat}(I:Inv X pins σ H s)(u:Un X.fs [] H H' s.heap h')(hok:E8 X.prog X.w H' h'):Inv X pins σ H' { s with heap:=h',toks:=t' }:=by
 obtain ⟨m,⟨o,es,ep,ho,r⟩,_⟩:=id I.loc
 obtain ⟨sl,hL⟩:=u.any ho I.free (by simp)
 exact I.step (g':=s.gens) (d':=s.drawn) (ch:=[]) (λ_ z=>nomatch z) (λb o _ hb _ e n=>u.keep b o e n hb (by simp)) (λb o _ hb _ e n=>u.slot b o e n hb (by simp)) (λb o _ e n=>u.free b o e n (by simp)) (λb o _ e=>u.there b o e (by simp)) u.tups u.frzs u.tbls (λm' hm=>by
  obtain ⟨o',yT,yU,Z5,r'⟩:=hm
  rw [ho] at Z5;cases Z5
  exact ⟨_,yT,yU,hL,r'⟩) hok I.bare
theorem Inv.call {g':Array GenState}{t':Nat}{d':Drawn}{ch:List Addr}(I:Inv X pins σ H s)(u:Un (frs X.stack) ch H H' s.heap h')(hok:E8 X.prog X.w H' h')(hg:AllBare g')
  (Lq:∀ b∈ch,(b∈X.ex\/X.s₀.heap.objs.size<=b)/\b≠X.env.locals/\(∀ x c,X.env.cells.lookup x=some c->c≠b)/\∀ p∈X.pn++pins,p.1≠b) :
  Inv X pins σ H' { s with heap:=h',gens:=g',drawn:=d',toks:=t' }:=by
 obtain ⟨m,⟨o,es,ep,ho,r⟩,_⟩:=id I.loc
 obtain ⟨sl,hL⟩:=u.any ho I.free λz=>(Lq _ z).2.1 rfl
 exact I.step (ch:=ch) Lq (λb o hL hb hc e n=>u.keep b o e n (λz=>(List.mem_cons.mp (I.stkSub b z)).elim hL hb) hc) (λb o _ _ hc e n=>u.any e n hc) (λb o hc e n=>u.free b o e n hc) (λb o hc e=>u.there b o e hc) u.tups u.frzs u.tbls (λm' hm=>by
  obtain ⟨o',yT,yU,Z5,r'⟩:=hm
  rw [ho] at Z5;cases Z5
  exact ⟨_,yT,yU,hL,r'⟩) hok hg
theorem Inv.turned {t':Nat}{it:Addr}(I:Inv X pins σ H s)(k:∀ b o,b≠it->s.heap.get? b=some o->h'.get? b=some o)(hn:H it=none)(hL:it≠X.env.locals)
  (h1:it∈X.ex\/X.s₀.heap.objs.size<=it) (h2:∀ x c,X.env.cells.lookup x=some c->c≠it) (h3:∀ p∈X.pn++pins,p.1≠it):Inv X pins σ H { s with heap:=h',toks:=t' }:=by
 have nit:∀ b u,H b=some u->b≠it:=λb u e z=>by rw [z,hn] at e;cases e
 refine I.step (g':=s.gens) (d':=s.drawn) (ch:=[it]) (λb hb=>?_) (λb o _ _ hc e _=>k b o (λz=>hc (by simp [z])) e) (λb o _ _ hc e _=>⟨o.slots,k b o (λz=>hc (by simp [z])) e⟩) (λ_ _ _ _ n=>n)
  (λb o hc e=>⟨o,k b o (λz=>hc (by simp [z])) e⟩) (λ_ _ e=>e) (λ_ _ _ e=>e) (λb ps e=>⟨#[],by rw [e];simp⟩) (λm hm=>?_) (λb u e=>?_) I.bare
 ·have e:b=it:=by simpa using hb
  subst e
  exact ⟨h1,hL,h2,h3⟩
 ·obtain ⟨o,es,ep,ho,r⟩:=hm
  exact ⟨o,es,ep,k _ o (Ne.symm hL) ho,r⟩
 ·refine (I.hok b u e).stay (λc v hc q=>k c v ?_ q) (λ_ q=>q) λ_ _ q=>q
  rcases hc with z | z
  ·rw [z];exact nit b u e
  ·exact nit c _ z
theorem Inv.tok (I:Inv X pins σ H s)(t:Nat):Inv X pins σ H { s with toks:=t }:=I.un (h':=s.heap) (t':=t) Un.refl I.hok
theorem Inv.kept {t':Nat}(I:Inv X pins σ H s)(k:∀ b u,s.heap.get? b=some u->h'.get? b=some u):Inv X pins σ H { s with heap:=h',toks:=t' }:=I.un (Un.kept k) (I.hok.kept k)
theorem Inv.laid {a:Addr}{o:HO}{t':Nat}(I:Inv X pins σ H s)(k:∀ b u,s.heap.get? b=some u->h'.get? b=some u)(hp:s.heap.objs.size<=a)(new:Bk X.prog X.w (upd H a o) h' a o):
  Inv X pins σ (upd H a o) { s with heap:=h',toks:=t' }:=I.un (Un.laid k hp (I.hok.fresh hp)) (I.hok.laid k hp new)
theorem Inv.write {x e:Addr}{o:HO}{t':Nat}(I:Inv X pins σ H s)(mu:nc (H x))(he:e=x\/H e=some (.own x))(k:∀ b u,b≠e->s.heap.get? b=some u->h'.get? b=some u)(lK:∃ u,h'.get? e=some u)
  (new:Bk X.prog X.w (upd H x o) h' x o):Inv X pins σ (upd H x o) { s with heap:=h',toks:=t' }:=I.un (Un.write mu he k lK) (I.hok.write mu he k lK new)
theorem Inv.weak {σ':List (Option V)}(I:Inv X pins σ H s)(hl:σ'.length=σ.length)(w:∀ (i:Nat) v,σ'[i]?=some (some v)->σ[i]?=some (some v)):Inv X pins σ' H s :=
 ⟨I.ok,I.os,I.bare,I.base,let ⟨m,hn,hl'⟩:=I.loc;⟨m,hn,λi x v e1 e2 e3=>hl' i x v e1 (w i v e2) e3⟩,I.cell,I.free,I.freeC,I.pin,I.hok,hl.trans I.len⟩
theorem Inv.pins_of {pins':List (Addr × Obj)}(I:Inv X pins σ H s)(h:∀ p∈pins',s.heap.get? p.1=some p.2/\H p.1=none/\p.1≠X.env.locals/\p.1∉X.fs/\∀ v,p.2.data≠.cell v):Inv X pins' σ H s :=
 ⟨I.ok,I.os,I.bare,I.base,I.loc,I.cell,I.free,I.freeC,λp hp=>(List.mem_append.mp hp).elim (λz=>I.pin p (List.mem_append_left _ z)) (h p),I.hok,I.len⟩
theorem HF {N:List Str}(hN:N.Nodup){i j:Nat}{x:Str}(a:N[i]?=some x)(b:N[j]?=some x):i=j:=by
 obtain ⟨h1,e1⟩:=List.getElem?_eq_some_iff.mp a
 obtain ⟨h2,e2⟩:=List.getElem?_eq_some_iff.mp b
 exact (List.getElem_inj hN).mp (e1.trans e2.symm)
theorem IZ {M:Model}{A:Around}{E:Value->Shared->Prop}{i:Nat}{x:Str}{v:V}{u:Value}{Q:Unit->Shared->Prop}(I:Inv X pins σ H s)(hN:X.N.Nodup)(hi:X.N[i]?=some x)(hx:Loc X.env.scope x)(r:RelV v u)
  (h:∀ s',Inv X pins (σ.set i (some v)) H s'->(∃ a,Heap.SameBut a s.heap s'.heap/\(a=X.env.locals\/X.env.cells.lookup x=some a))->Q .unit s') (hf:X.fn x=true\/X.env.scope.names.lookup x=some .local:=by first | exact .inl rfl | exact .inr rfl | assumption):wpAny M A (storeName X.env x u) Q E s:=by
 obtain ⟨m,hn,hl⟩:=id I.loc
 have Q8:(X.env.scope.kind==.class || (X.env.scope.kind==.module && X.env.locals != X.env.globals))=false:=by rw [I.ok.kind];rfl
 have hiσ:i < σ.length:=by rw [I.len];exact (List.getElem?_eq_some_iff.mp hi).1
 have cne:=I.cne
 have tracked:∀ {a:Addr} {h':Heap},(∃ o,s.heap.get? a=some o/\H a=none)->Heap.SameBut a s.heap h'->E8 X.prog X.w H h':=λ{a h'} ha hs b ob e=>by
  obtain ⟨_,_,Xc⟩:=ha
  refine (I.hok b ob e).stay (λc w' hc q=>(hs.2 c ?_).trans q) (λ_ q=>q) λ_ _ q=>q
  rintro rfl
  rcases hc with rfl | hc
  ·rw [Xc] at e;cases e
  ·rw [Xc] at hc;cases hc
 rcases hx with hk | hk
 ·refine wpAny_storeName_local hk hn (λh' lL hs=>?_) Q8
  obtain ⟨oL,_,_,hoL,_⟩:=id hn
  refine h _ ⟨I.ok,I.os,I.bare,⟨λb o e n hb hx=>?_,λb o e n hb hx=>?_,I.base.free,λb o e hx=>?_,I.base.tups,I.base.frzs,I.base.tbls⟩,⟨_,lL,λj y v' e1 e2 e3=>?_⟩,λy c e=>?_,I.free,I.freeC,λp hp=>?_,tracked ⟨oL,hoL,I.free⟩ hs,by simpa using I.len⟩ ⟨_,hs,.inl rfl⟩
  ·exact (hs.2 b (Nat.ne_of_lt (Nat.lt_of_lt_of_le (Heap.lt_size e) I.ok.above))).trans (I.base.keep b o e n hb hx)
  ·obtain ⟨sl,e1⟩:=I.base.slot b o e n hb hx
   exact ⟨sl,(hs.2 b (Nat.ne_of_lt (Nat.lt_of_lt_of_le (Heap.lt_size e) I.ok.above))).trans e1⟩
  ·obtain ⟨o',e1⟩:=I.base.there b o e hx
   exact ⟨o',(hs.2 b (Nat.ne_of_lt (Nat.lt_of_lt_of_le (Heap.lt_size e) I.ok.above))).trans e1⟩
  ·by_cases hj:j=i
   ·subst hj
    rw [hi] at e1;cases e1
    rw [List.getElem?_set_self hiσ] at e2
    cases e2
    exact ⟨u,r,.inl ⟨hk,by simp⟩⟩
   ·rw [List.getElem?_set_ne (Ne.symm hj)] at e2
    obtain ⟨u',r',q⟩:=hl j y v' e1 e2 e3
    refine ⟨u',r',?_⟩
    rcases q with ⟨k,e⟩ | ⟨k,c,e,z⟩
    ·refine .inl ⟨k,?_⟩
     have:y≠x:=λe=>hj (HF hN e1 (e▸hi))
     simp [this,e]
    ·exact .inr ⟨k,c,e,z.sameBut hs (cne y c e)⟩
  ·obtain ⟨w',z⟩:=I.cell y c e
   exact ⟨w',z.sameBut hs (cne y c e)⟩
  ·obtain ⟨e,n,ne,nf,d⟩:=I.pin p hp
   exact ⟨(hs.2 p.1 ne).trans e,n,ne,nf,d⟩
 ·have yV:X.fn x=true:=by
   rcases hf with z | z
   ·exact z
   ·rw [z] at hk;cases hk
  obtain ⟨c,hc⟩:=I.ok.has x (.inl hk)
  obtain ⟨w',z⟩:=I.cell x c hc
  refine wpAny_storeName_cell I.ok.kind hk hc z (λh' U4 hs=>?_)
  obtain ⟨oc,hoc,yW⟩:=id z
  refine h { s with heap:=h' } ⟨I.ok,I.os,I.bare,⟨λb o e n hb hx=>?_,λb o e n hb hx=>?_,I.base.free,λb o e hx=>?_,I.base.tups,I.base.frzs,I.base.tbls⟩,⟨m,hn.sameBut hs (Ne.symm (cne x c hc)),λj y v' e1 e2 e3=>?_⟩,λy c' e=>?_,I.free,I.freeC,λp hp=>?_,tracked ⟨oc,hoc,I.freeC x c hc⟩ hs,by simpa using I.len⟩ ⟨c,hs,.inr hc⟩
  ·exact (hs.2 b (Nat.ne_of_lt (Nat.lt_of_lt_of_le (Heap.lt_size e) (I.ok.cab x c yV hc)))).trans (I.base.keep b o e n hb hx)
  ·obtain ⟨sl,e1⟩:=I.base.slot b o e n hb hx
   exact ⟨sl,(hs.2 b (Nat.ne_of_lt (Nat.lt_of_lt_of_le (Heap.lt_size e) (I.ok.cab x c yV hc)))).trans e1⟩
  ·obtain ⟨o',e1⟩:=I.base.there b o e hx
   exact ⟨o',(hs.2 b (Nat.ne_of_lt (Nat.lt_of_lt_of_le (Heap.lt_size e) (I.ok.cab x c yV hc)))).trans e1⟩
  ·by_cases hj:j=i
   ·subst hj
    rw [hi] at e1;cases e1
    rw [List.getElem?_set_self hiσ] at e2
    cases e2
    exact ⟨u,r,.inr ⟨.inl hk,c,hc,U4⟩⟩
   ·rw [List.getElem?_set_ne (Ne.symm hj)] at e2
    obtain ⟨u',r',q⟩:=hl j y v' e1 e2 e3
    refine ⟨u',r',?_⟩
    rcases q with q | ⟨k,c',e,z'⟩
    ·exact .inl q
    ·refine .inr ⟨k,c',e,z'.sameBut hs ?_⟩
     rintro rfl
     exact hj (HF hN e1 (I.ok.inj _ _ _ e hc▸hi))
  ·by_cases hcc:c'=c
   ·subst hcc;exact ⟨_,U4⟩
   ·obtain ⟨w2,z2⟩:=I.cell y c' e
    exact ⟨w2,z2.sameBut hs hcc⟩
  ·obtain ⟨e,n,ne,nf,d⟩:=I.pin p hp
   refine ⟨(hs.2 p.1 ?_).trans e,n,ne,nf,d⟩
   intro q
   rw [q,hoc] at e
   have q':oc=p.2:=Option.some.inj e
   exact d w' (by rw [<- q'];exact yW)
theorem Ej {M:Model}{A:Around}{E:Value->Shared->Prop}{i:Nat}{x:Str}{v:V}{u:Value}{Q:Unit->Shared->Prop}(I:Inv X pins σ H s)(hN:X.N.Nodup)(hi:X.N[i]?=some x)(hx:Loc X.env.scope x)(r:RelV v u)
  (h:∀ s',Inv X pins (σ.set i (some v)) H s'->Q .unit s') (hf:X.fn x=true\/X.env.scope.names.lookup x=some .local:=by first | exact .inl rfl | exact .inr rfl | assumption):wpAny M A (storeName X.env x u) Q E s :=
 IZ I hN hi hx r (λs' I' _=>h s' I') hf
theorem Inv.call' {s':Shared}{ch:List Addr}(I:Inv X pins σ H s)(ho:s'.os=s.os)(u:Un (frs X.stack) ch H H' s.heap s'.heap)(hok:E8 X.prog X.w H' s'.heap)(hg:AllBare s'.gens)
  (Lq:∀ b∈ch,(b∈X.ex\/X.s₀.heap.objs.size<=b)/\b≠X.env.locals/\(∀ x c,X.env.cells.lookup x=some c->c≠b)/\∀ p∈X.pn++pins,p.1≠b):Inv X pins σ H' s':=by
 obtain ⟨h',g',d',t',o'⟩:=s'
 have e:o'=s.os:=ho
 subst e
 exact I.call (g':=g') (t':=t') (d':=d') u hok hg Lq
end
abbrev XK:=Value->Option Addr->Hp->Prop
abbrev St:=List (Option V)
abbrev VK:=V->Hp->Prop
abbrev TE:=St->Hp->VK->Prop
abbrev TT:=St->Hp->(Bool->Hp->Prop)->Prop
abbrev TA:=St->Hp->(List V->Hp->Prop)->Prop
structure Ends where
 nx:St->Hp->Prop
 rt:VK
 bk:St->Hp->Prop:=λ_ _=>False
 ct:St->Hp->Prop:=λ_ _=>False
abbrev TS:=Ends->St->Hp->Prop
inductive EP (X:Cx)(pins:List (Addr × Obj))(σ:St)(Q:VK)(u:Value)(s':Shared):Prop
 | mk (v:_) (H':_) (h1:Inv X pins σ H' s') (h2:RelV v u) (h3:Q v H'):EP X pins σ Q u s'
noncomputable def TP (X:Cx)(pins:List (Addr × Obj))(σ:St)(Q:Bool->Hp->Prop)(b:Bool)(s':Shared):Prop:=∃ H',Inv X pins σ H' s'/\Q b H'
inductive AP (X:Cx)(pins:List (Addr × Obj))(σ:St)(Q:List V->Hp->Prop)(us:List Value)(s':Shared):Prop
 | mk (vs:_) (H':_) (h1:Inv X pins σ H' s') (h2:Vals vs us) (h3:Q vs H'):AP X pins σ Q us s'
noncomputable def SP (X:Cx)(pins:List (Addr × Obj))(D:Ends)(f:Flow)(s':Shared):Prop :=
 match f with
 | .next=>∃ σ' H',Inv X pins σ' H' s'/\D.nx σ' H'
 | .brk=>∃ σ' H',Inv X pins σ' H' s'/\D.bk σ' H'
 | .cont=>∃ σ' H',Inv X pins σ' H' s'/\D.ct σ' H'
 | .ret u=>∃ v σ' H',Inv X pins σ' H' s'/\RelV v u/\D.rt v H'
noncomputable def PE (X:Cx)(e:Expr)(t:TE):Prop :=
 ∀ (pins:List (Addr × Obj)) (s:Shared) (σ:St) (H:Hp) (Q:VK),Inv X pins σ H s->t σ H Q->wpAny (model X.prog X.w) X.A (eval e X.env) (EP X pins σ Q) X.xe s
noncomputable def PT (X:Cx)(e:Expr)(t:TT):Prop :=
 ∀ (pins:List (Addr × Obj)) (s:Shared) (σ:St) (H:Hp) (Q:Bool->Hp->Prop),Inv X pins σ H s->t σ H Q->wpAny (model X.prog X.w) X.A (isTrue e X.env (eval e X.env)) (TP X pins σ Q) X.xe s
noncomputable def PW (X:Cx)(e:Expr)(t:TT):Prop :=
 ∀ (whole:Sem Value) (pins:List (Addr × Obj)) (s:Shared) (σ:St) (H:Hp) (Q:Bool->Hp->Prop),Inv X pins σ H s->t σ H Q->wpAny (model X.prog X.w) X.A (isTrue e X.env whole) (TP X pins σ Q) X.xe s
theorem PW.pt {X:Cx}{e:Expr}{t:TT}(h:PW X e t):PT X e t:=h _
noncomputable def PA (X:Cx)(es:List Expr)(t:TA):Prop :=
 ∀ (pos:Pos) (pins:List (Addr × Obj)) (s:Shared) (σ:St) (H:Hp) (Q:List V->Hp->Prop),Inv X pins σ H s->t σ H Q->wpAny (model X.prog X.w) X.A (spliced (backTo pos (starEach es X.env))) (AP X pins σ Q) X.xe s
noncomputable def PS (X:Cx)(st:Stmt)(t:TS):Prop :=
 ∀ (pins:List (Addr × Obj)) (s:Shared) (σ:St) (H:Hp) (D:Ends),Inv X pins σ H s->t D σ H->wpAny (model X.prog X.w) X.A (exec st X.env) (SP X pins D) X.xe s
noncomputable def Lw (X:Cx)(st:List Stmt)(t:TS):Prop :=
 ∀ (pins:List (Addr × Obj)) (s:Shared) (σ:St) (H:Hp) (D:Ends),Inv X pins σ H s->t D σ H->wpAny (model X.prog X.w) X.A (execs st X.env) (SP X pins D) X.xe s
theorem BA {α:Type}{t:Sem α}{Q Q':α->Shared->Prop}{M:Model}{A:Around}{E:Value->Shared->Prop}{s:Shared}(h:wpAny M A t Q E s)(hQ:∀ a s,Q a s->Q' a s):wpAny M A t Q' E s:=wpAny_mono h hQ λ_ _ x=>x
section
variable {X:Cx}
theorem bin {a b:Expr}{ta tb:TE}(ha:PE X a ta)(hb:PE X b tb){pins:List (Addr × Obj)}{s:Shared}{σ:St}{H:Hp}{R:V->V->Hp->Prop}(I:Inv X pins σ H s)(h:ta σ H λx H1=>tb σ H1 λy H2=>R x y H2)
  {α:Type} {Q:α->Shared->Prop} {f:Value->Value->Sem α}
  (hf:∀ v u s2 x y H2,Inv X pins σ H2 s2->RelV x v->RelV y u->R x y H2->wpAny (model X.prog X.w) X.A (f v u) Q X.xe s2) :
  wpAny (model X.prog X.w) X.A (eval a X.env) (λv s₁=>wpAny (model X.prog X.w) X.A (eval b X.env) (λu s₂=>wpAny (model X.prog X.w) X.A (f v u) Q X.xe s₂) X.xe s₁) X.xe s:=by
 refine BA (ha pins s σ H _ I h) λv s1 ⟨x,H1,I1,r1,q1⟩=>?_
 refine BA (hb pins s1 σ H1 _ I1 q1) λu s2 ⟨y,H2,I2,r2,q2⟩=>?_
 exact hf v u s2 x y H2 I2 r1 r2 q2
inductive Bw (i:Nat)(σ:St)(H:Hp)(Q:VK):Prop
 | mk (v:_) (h1:σ[i]?=some (some v)) (h2:Q v H):Bw i σ H Q
noncomputable def tC (v:V):TE:=λ_ H Q=>Q v H
theorem Lx {i:Nat}{x:Str}{pos:Pos}(hN:X.N[i]?=some x)(hv:Xb X.env.scope x)(hd:(x==("__debug__":Str))=false:=by decide)(JD:(x==("__classdict__":Str))=false:=by decide):PE X (.Name x pos) (Bw i):=by
 intro pins s σ H Q I h
 obtain ⟨v,e,h⟩:=h
 obtain ⟨m,hn,hl⟩:=I.loc
 obtain ⟨u,r,l⟩:=hl i x v hN e hv
 have fin:EP X pins σ Q u s:=⟨v,H,I,r,h⟩
 rcases l with ⟨hk,hm⟩ | ⟨hk,c,hc,MQ⟩
 ·exact wpAny_Name (wpAny_loadName_local I.ok.kind hk hn hm fin) hd
 ·rcases hk with hk | hk
  ·exact wpAny_Name (wpAny_loadName_cell I.ok.kind hk hc MQ fin) hd
  ·exact wpAny_Name (wpAny_loadName_free I.ok.kind hk hc MQ fin JD) hd
theorem Ee {i j pos}:PE X (.Constant (.int i) j pos) (tC (.int i)):=λ_ _ _ H _ I h=>wpAny_Constant_int ⟨.int i,H,I.tok _,⟨_,rfl⟩,h⟩
theorem nj {b j pos}:PE X (.Constant (.bool b) j pos) (tC (.bl b)):=λ_ _ _ H _ I h=>Constant_bool ⟨.bl b,H,I,rfl,h⟩
theorem Z6 {j pos}:PE X (.Constant .none j pos) (tC .non):=λ_ _ _ H _ I h=>Constant_none ⟨.non,H,I,rfl,h⟩
theorem Z7 {x j pos}:PE X (.Constant (.str x) j pos) (tC (.str x)):=λ_ _ _ H _ I h=>Calls.Constant_str ⟨.str x,H,I.tok _,⟨_,rfl⟩,h⟩
noncomputable def Gl (X:Cx)(x:Str):Prop:=X.env.kindOf x=some .globalImplicit
theorem Fe {E:Value->Shared->Prop}{pins:List (Addr × Obj)}{s:Shared}{σ:St}{H:Hp}{x:Str}{u:Value}{pos:Pos}{Q:Value->Shared->Prop}(I:Inv X pins σ H s)(hg:Gl X x)(hm:X.mg x=some u)(h:Q u s)
  (hd:(x==("__debug__":Str))=false:=by decide):wpAny (model X.prog X.w) X.A (eval (.Name x pos) X.env) Q E s :=
 Calls.Name_function_global I.ok.kind hg (Calls.loadGlobal_global (by rw [I.ok.glob];exact I.mod.glob.keeps I.bk) hm h) hd
theorem EV {E:Value->Shared->Prop}{pins:List (Addr × Obj)}{s:Shared}{σ:St}{H:Hp}{x:Str}{u:Value}{pos:Pos}{Q:Value->Shared->Prop}(I:Inv X pins σ H s)(hg:Gl X x)(hm:X.mg x=none)(hv:bootBuiltins x=some u)(h:Q u s)
  (hn:x≠"__name__":=by decide) (hd:(x==("__debug__":Str))=false:=by decide):wpAny (model X.prog X.w) X.A (eval (.Name x pos) X.env) Q E s:=by
 obtain ⟨mb,h1,h2⟩:=I.mod.blt
 exact Calls.Name_function_global I.ok.kind hg (Calls.loadGlobal_builtin (by rw [I.ok.glob];exact I.mod.glob.keeps I.bk) hm (by rw [I.ok.blt];exact h1.keeps I.bk) ((h2 x hn).trans hv) h) hd
theorem Hr {x:Str}{v:V}{u:Value}{pos:Pos}(hg:Gl X x)(hm:X.mg x=some u)(r:RelV v u)(hd:(x==("__debug__":Str))=false:=by decide):PE X (.Name x pos) (tC v) :=
 λ_ _ _ H _ I h=>Fe I hg hm ⟨v,H,I,r,h⟩ hd
theorem U5 {x:Str}{v:V}{u:Value}{pos:Pos}(hg:Gl X x)(hm:X.mg x=none)(hv:bootBuiltins x=some u)(r:RelV v u)(hn:x≠"__name__":=by decide)(hd:(x==("__debug__":Str))=false:=by decide):PE X (.Name x pos) (tC v) :=
 λ_ _ _ H _ I h=>EV I hg hm hv ⟨v,H,I,r,h⟩ hn hd
variable {a b:Expr}{ta tb:TE}{pos:Pos}
noncomputable def PC (X:Cx)(op:CmpOp)(a b:Expr)(t:TE):Prop :=
 ∀ (pins:List (Addr × Obj)) (s:Shared) (σ:St) (H:Hp) (Q:VK),Inv X pins σ H s->t σ H Q ->
  wpAny (model X.prog X.w) X.A (eval a X.env) (λv s₁=>wpAny (model X.prog X.w) X.A (eval b X.env) (λu s₂=>wpAny (model X.prog X.w) X.A (compareOp op v u) (EP X pins σ Q) X.xe s₂) X.xe s₁) X.xe s
theorem Q9 (b:Expr){op:CmpOp}(h:op≠.In)(h2:op≠.NotIn):behindInMarks op b=false:=by
 have e1:(op==CmpOp.In)=false:=by cases op <;> first | rfl | exact absurd rfl h
 have e2:(op==CmpOp.NotIn)=false:=by cases op <;> first | rfl | exact absurd rfl h2
 cases b <;> simp [behindInMarks,e1,e2]
inductive lM (Q:(Bool->Hp->Prop))(x:V)(H1:Hp):Prop
 | mk (c:_) (h1:x=.bl c) (h2:Q c H1):lM Q x H1
noncomputable def tB (t:TE):TT:=fun σ H Q=>t σ H λx H1=>lM Q x H1
theorem Z8 {op:CmpOp}{t:TE}(h:PC X op a b t)(h1:behindInMarks op b=false:=by first | exact Q9 _ ⟨⟩ ⟨⟩ | rfl):PT X (.Compare a [op] [b] pos) (tB t):=by
 intro pins s σ H Q I hw
 refine wpAny_isTrue_Compare1 (BA (h pins s σ H _ I hw) λv s1 h1=>BA h1 λu s2 h2=>BA h2 λc s3 ⟨x,H1,I1,r1,q1⟩=>?_) h1
 obtain ⟨d,rfl,q⟩:=q1
 cases r1
 exact wpAny_truthy_bool ⟨H1,I1,q⟩
theorem Z9 {e:Expr}{t:TE}(h:PE X e t)(he:∀ whole,isTrue e X.env whole=(do let v <- whole;standAt e.pos;holding [v] (truthy v)):=by intro _;rfl):PT X e (tB t):=by
 intro pins s σ H Q I hw
 refine isTrue_plain (BA (h pins s σ H _ I hw) λv s1 ⟨x,H1,I1,r1,q1⟩=>?_) (he _)
 obtain ⟨d,rfl,q⟩:=q1
 cases r1
 exact wpAny_truthy_bool ⟨H1,I1,q⟩
variable {tA U6:TT}{rest:List Expr}
noncomputable def Za (t u:TT):TT:=fun σ H Q=>t σ H λc H1=>if c=true then u σ H1 Q else Q false H1
noncomputable def yX (t u:TT):TT:=fun σ H Q=>t σ H λc H1=>if c=true then Q true H1 else u σ H1 Q
noncomputable def Zb (t:TT):TT:=fun σ H Q=>t σ H λc H1=>Q (!c) H1
theorem U7 (ha:PT X a tA):PW X (.BoolOp .And [a] pos) tA:=by
 intro wh pins s σ H Q I h
 refine isTrue_and (BA (ha pins s σ H Q I h) λc s1 e=>?_)
 cases c with
 | true=>exact isTrue_and_nil e
 | false=>exact e
theorem Zc (ha:PT X a tA):PW X (.BoolOp .Or [a] pos) tA:=by
 intro wh pins s σ H Q I h
 refine isTrue_or (BA (ha pins s σ H Q I h) λc s1 e=>?_)
 cases c with
 | false=>exact isTrue_or_nil e
 | true=>exact e
theorem Zd (ha:PT X a tA)(hb:PW X (.BoolOp .And (b::rest) pos) U6):PW X (.BoolOp .And (a::b::rest) pos) (Za tA U6):=by
 intro wh pins s σ H Q I h
 refine isTrue_and (BA (ha pins s σ H _ I h) λc s1 ⟨H1,I1,q1⟩=>?_)
 cases c with
 | true=>exact hb wh pins s1 σ H1 Q I1 q1
 | false=>exact ⟨H1,I1,q1⟩
theorem nr (ha:PT X a tA)(hb:PW X (.BoolOp .Or (b::rest) pos) U6):PW X (.BoolOp .Or (a::b::rest) pos) (yX tA U6):=by
 intro wh pins s σ H Q I h
 refine isTrue_or (BA (ha pins s σ H _ I h) λc s1 ⟨H1,I1,q1⟩=>?_)
 cases c with
 | true=>exact ⟨H1,I1,q1⟩
 | false=>exact hb wh pins s1 σ H1 Q I1 q1
theorem Ze (ha:PT X a tA):PT X (.UnaryOp .Not a pos) (Zb tA):=by
 intro pins s σ H Q I h
 exact isTrue_not (ha pins s σ H (λc H1=>Q (!c) H1) I h)
noncomputable def Qa (ta tb:TE):TE:=fun σ H Q=>ta σ H λx H1=>∃ c,x=.bl c/\if c=true then tb σ H1 Q else Q (.bl false) H1
noncomputable def Zf (ta tb:TE):TE:=fun σ H Q=>ta σ H λx H1=>∃ c,x=.bl c/\if c=true then Q (.bl true) H1 else tb σ H1 Q
theorem Zg {op}{t:TE}(h:PE X a t):PE X (.BoolOp op [a] pos) t:=λpins s σ H Q I hw=>BoolOp_one (h pins s σ H Q I hw)
theorem Zh (ha:PE X a ta)(hb:PE X (.BoolOp .And (b::rest) pos) tb):PE X (.BoolOp .And (a::b::rest) pos) (Qa ta tb):=by
 intro pins s σ H Q I h
 refine BoolOp_and (BA (ha pins s σ H _ I h) λv s1 ⟨x,H1,I1,r1,q1⟩=>?_)
 obtain ⟨c,rfl,q1⟩:=q1
 cases r1
 refine wpAny_truthy_bool ?_
 cases c with
 | true=>exact hb pins s1 σ H1 Q I1 q1
 | false=>exact ⟨.bl false,H1,I1,rfl,q1⟩
theorem nt (ha:PE X a ta)(hb:PE X (.BoolOp .Or (b::rest) pos) tb):PE X (.BoolOp .Or (a::b::rest) pos) (Zf ta tb):=by
 intro pins s σ H Q I h
 refine BoolOp_or (BA (ha pins s σ H _ I h) λv s1 ⟨x,H1,I1,r1,q1⟩=>?_)
 obtain ⟨c,rfl,q1⟩:=q1
 cases r1
 refine wpAny_truthy_bool ?_
 cases c with
 | false=>exact hb pins s1 σ H1 Q I1 q1
 | true=>exact ⟨.bl true,H1,I1,rfl,q1⟩
noncomputable def yY (t:TT)(ta tb:TE):TE:=fun σ H Q=>t σ H λc H1=>if c=true then ta σ H1 Q else tb σ H1 Q
theorem Qb {c:Expr}(hc:PT X c tA)(ha:PE X a ta)(hb:PE X b tb):PE X (.IfExp c a b pos) (yY tA ta tb):=by
 intro pins s σ H Q I h
 refine wpAny_IfExp (BA (hc pins s σ H _ I h) λd s1 ⟨H1,I1,q1⟩=>?_)
 cases d with
 | true=>exact ha pins s1 σ H1 Q I1 q1
 | false=>exact hb pins s1 σ H1 Q I1 q1
end
noncomputable def AZ (K:W.Frag)(H:Hp)(a:Addr)(xs:List V):Prop :=
 Rd H a (.lst xs) \/
  ∃ (o:Obj) (its:Array Value) (n:Nat),K.lookup a=some o/\o.cls=.type "list"/\o.dict=none/\o.data=.seq its n/\its.size<=sizeLine/\Vals xs its.toList
noncomputable def AJ (K:W.Frag)(H:Hp)(a:Addr)(xs:List V):Prop :=
 Rd H a (.tup xs) \/
  ∃ (o:Obj) (its:Array Value) (n:Nat),K.lookup a=some o/\o.cls=.type "tuple"/\o.data=.seq its n/\its.size<=sizeLine/\Vals xs its.toList
noncomputable def yZ:Value->Option V
 | .none=>some .non
 | .bool b=>some (.bl b)
 | .int i _=>some (.int i)
 | .str x _=>some (.str x)
 | .bytes b _=>some (.byt b)
 | .float b _=>some (.flt b)
 | .ref a=>some (.ref a)
 | .type n=>some (.ty n)
 | _=>none
theorem RelV.abs {x:V}{u:Value}(r:RelV x u):yZ u=some x:=by
 cases x with
 | non=>cases r;rfl
 | bl _=>cases r;rfl
 | int _=>obtain ⟨t,rfl⟩:=r;rfl
 | str _=>obtain ⟨t,rfl⟩:=r;rfl
 | byt _=>obtain ⟨t,rfl⟩:=r;rfl
 | flt _=>obtain ⟨t,rfl⟩:=r;rfl
 | ref _=>cases r;rfl
 | ty _=>cases r;rfl
theorem RelV.inj {x y:V}{u:Value}(r:RelV x u)(q:RelV y u):x=y:=Option.some.inj (r.abs.symm.trans q.abs)
theorem Vals.inj:∀ {xs ys:List V} {us:List Value},Vals xs us->Vals ys us->xs=ys
 | _,_,_,.nil,.nil=>rfl
 | _,_,_,.cons r t,.cons r' t'=>by rw [r.inj r',Vals.inj t t']
section
variable {X:Cx}{pins:List (Addr × Obj)}{σ:St}{H:Hp}{s:Shared}{a:Addr}{xs ys:List V}
theorem AZ.of {K:W.Frag}(h:H a=some (.lst xs)):AZ K H a xs:=.inl (.inl h)
theorem AJ.of {K:W.Frag}(h:H a=some (.tup xs)):AJ K H a xs:=.inl (.inl h)
theorem Inv.list (I:Inv X pins σ H s)(h:AZ X.K H a xs):∃ its:List Value,Vals xs its/\PlainL s.heap a its.toArray/\xs.length<=sizeLine:=by
 rcases h with h | ⟨o,its,n,hk,hc,hd,hs,hz,r⟩
 ·obtain ⟨z,its,n,r,e⟩:=h.ok I.hok
  exact ⟨its,r,⟨_,n,e,rfl,rfl,rfl⟩,z⟩
 ·refine ⟨its.toList,r,⟨o,n,I.kIn a o hk,hc,hd,by simpa using hs⟩,?_⟩
  have e:=r.length
  simp only [Array.length_toList] at e
  omega
theorem Inv.tuple (I:Inv X pins σ H s)(h:AJ X.K H a xs):∃ its:List Value,Vals xs its/\IsTup s.heap a its.toArray/\xs.length<=sizeLine:=by
 rcases h with h | ⟨o,its,n,hk,hc,hs,hz,r⟩
 ·obtain ⟨z,its,r,p⟩:=h.ok I.hok
  exact ⟨its,r,p,z⟩
 ·refine ⟨its.toList,r,⟨o,I.kIn a o hk,hc,n,by simpa using hs⟩,?_⟩
  have e:=r.length
  simp only [Array.length_toList] at e
  omega
theorem Inv.list_inj (I:Inv X pins σ H s)(h:AZ X.K H a xs)(h':AZ X.K H a ys):xs=ys:=by
 obtain ⟨its,r,⟨o,n,e,_,_,d⟩,_⟩:=I.list h
 obtain ⟨its',r',⟨o',n',e',_,_,d'⟩,_⟩:=I.list h'
 rw [e] at e';cases e'
 rw [d] at d'
 injection d' with d1 _
 have:its=its':=by simpa using congrArg Array.toList d1
 subst this
 exact r.inj r'
theorem Inv.tuple_inj (I:Inv X pins σ H s)(h:AJ X.K H a xs)(h':AJ X.K H a ys):xs=ys:=by
 obtain ⟨its,r,⟨o,e,_,n,d⟩,_⟩:=I.tuple h
 obtain ⟨its',r',⟨o',e',_,n',d'⟩,_⟩:=I.tuple h'
 rw [e] at e';cases e'
 rw [d] at d'
 injection d' with d1 _
 have:its=its':=by simpa using congrArg Array.toList d1
 subst this
 exact r.inj r'
end
abbrev Cx.wish (X:Cx)(E:Value->Shared->Prop):Cx:={ X with xe:=E }
abbrev Cx.nox (X:Cx):Cx:=X.wish λ_ _=>False
theorem Cx.Ok.wish {X:Cx}(ok:X.Ok)(E:Value->Shared->Prop):(X.wish E).Ok :=
 ⟨ok.mod,ok.kind,ok.glob,ok.blt,ok.above,ok.inj,ok.has,ok.cab,ok.hd,ok.frames,ok.stk,ok.exf,ok.bs,ok.bsz,ok.noex,ok.exfs,ok.funs,ok.frf⟩
theorem Cx.Ok.unwish {X:Cx}{E:Value->Shared->Prop}(ok:(X.wish E).Ok):X.Ok :=
 ⟨ok.mod,ok.kind,ok.glob,ok.blt,ok.above,ok.inj,ok.has,ok.cab,ok.hd,ok.frames,ok.stk,ok.exf,ok.bs,ok.bsz,ok.noex,ok.exfs,ok.funs,ok.frf⟩
section
variable {X:Cx}{pins:List (Addr × Obj)}{σ:St}{H:Hp}{s:Shared}{E:Value->Shared->Prop}
theorem Inv.wish (I:Inv X pins σ H s)(E:Value->Shared->Prop):Inv (X.wish E) pins σ H s:=⟨I.ok.wish E,I.os,I.bare,I.base,I.loc,I.cell,I.free,I.freeC,I.pin,I.hok,I.len⟩
theorem Inv.unwish (I:Inv (X.wish E) pins σ H s):Inv X pins σ H s:=⟨I.ok.unwish,I.os,I.bare,I.base,I.loc,I.cell,I.free,I.freeC,I.pin,I.hok,I.len⟩
theorem SP.unwish {D:Ends}{f:Flow}{s':Shared}(h:SP (X.wish E) pins D f s'):SP X pins D f s':=by
 cases f with
 | next=>obtain ⟨σ',H',I,q⟩:=h;exact ⟨σ',H',I.unwish,q⟩
 | brk=>obtain ⟨σ',H',I,q⟩:=h;exact ⟨σ',H',I.unwish,q⟩
 | cont=>obtain ⟨σ',H',I,q⟩:=h;exact ⟨σ',H',I.unwish,q⟩
 | ret u=>obtain ⟨v,σ',H',I,r,q⟩:=h;exact ⟨v,σ',H',I.unwish,r,q⟩
theorem Lw.nox {st:List Stmt}{t:TS}(h:Lw X.nox st t):Lw X st t:=λpins s σ H D I hw =>
 wpAny_mono (h pins s σ H D (I.wish _) hw) (λ_ _ q=>q.unwish) λ_ _ z=>False.elim z
end
section
variable {X:Cx}{st:Stmt}{rest:List Stmt}{t u:TS}{e:Expr}{te:TE}{pos:Pos}
noncomputable def J0:TS:=λD σ H=>D.nx σ H
noncomputable def B8 (t u:TS):TS:=λD σ H=>t { D with nx:=u D } σ H
theorem MR:Lw X [] J0:=λ_ _ σ H _ I h=>wpAny_execs_nil ⟨σ,H,I,h⟩
theorem G0 (h1:PS X st t)(h2:Lw X rest u):Lw X (st::rest) (B8 t u):=by
 intro pins s σ H D I h
 refine wpAny_execs_cons (BA (h1 pins s σ H { D with nx:=u D } I h) λf s1 q=>?_)
 cases f with
 | next =>
  obtain ⟨σ',H',I',q⟩:=q
  exact h2 pins s1 σ' H' D I' q
 | ret v=>exact q
 | brk=>exact q
 | cont=>exact q
theorem Hs (h1:PS X st t):Lw X [st] t:=by
 intro pins s σ H D I h
 refine wpAny_execs_cons (BA (h1 pins s σ H D I h) λf s1 q=>?_)
 cases f with
 | next=>exact wpAny_execs_nil q
 | ret v=>exact q
 | brk=>exact q
 | cont=>exact q
theorem Inv.quiet {pins:List (Addr × Obj)}{σ:St}{H:Hp}{s:Shared}(I:Inv X pins σ H s):interactive X.env=false:=by simp [interactive,I.ok.kind]
noncomputable def MT (te:TE):TS:=λD σ H=>te σ H λ_ H1=>D.nx σ H1
theorem U8 (he:PE X e te)(hs:swapsWith e none pos.line X.env=pure false:=by rfl):PS X (.Expr e pos) (MT te):=by
 intro pins s σ H D I h
 exact wpAny_Expr_any (BA (he pins s σ H _ I h) λv s1 ⟨x,H1,I1,r1,q1⟩=>⟨σ,H1,I1,q1⟩) I.quiet hs
noncomputable def Ly (te:TE):TS:=λD σ H=>te σ H D.rt
theorem JE (he:PE X e te):PS X (.Return (some e) pos) (Ly te):=by
 intro pins s σ H D I h
 exact wpAny_Return_some (BA (he pins s σ H _ I h) λv s1 ⟨x,H1,I1,r1,q1⟩=>⟨x,σ,H1,I1,r1,q1⟩)
noncomputable def Lz (c:TT)(t u:TS):TS:=λD σ H=>c σ H λb H1=>if b=true then t D σ H1 else u D σ H1
theorem Xd {c:Expr}{a b:List Stmt}{tc:TT}(hc:PT X c tc)(ha:Lw X a t)(hb:Lw X b u):PS X (.If c a b pos) (Lz tc t u):=by
 intro pins s σ H D I h
 refine wpAny_If (BA (hc pins s σ H _ I h) λd s1 ⟨H1,I1,q1⟩=>?_)
 cases d with
 | true=>exact ha pins s1 σ H1 D I1 q1
 | false=>exact hb pins s1 σ H1 D I1 q1
end
abbrev TG:=V->St->Hp->(St->Hp->Prop)->Prop
abbrev U9:=List V->St->Hp->(St->Hp->Prop)->Prop
noncomputable def PG (X:Cx)(target:Expr)(t:TG):Prop :=
 ∀ (pins:List (Addr × Obj)) (s:Shared) (σ:St) (H:Hp) (v:V) (u:Value) (Q:St->Hp->Prop),Inv X pins σ H s->RelV v u->t v σ H Q ->
  wpAny (model X.prog X.w) X.A (assign target X.env u) (λ_ s'=>∃ σ' H',Inv X pins σ' H' s'/\Q σ' H') X.xe s
noncomputable def nu (X:Cx)(ts:List Expr)(t:U9):Prop :=
 ∀ (pins:List (Addr × Obj)) (s:Shared) (σ:St) (H:Hp) (vs:List V) (us:List Value) (Q:St->Hp->Prop),Inv X pins σ H s->Vals vs us->t vs σ H Q ->
  wpAny (model X.prog X.w) X.A (assignInOrder ((assignEach ts X.env).map (·.2)) us) (λ_ s'=>∃ σ' H',Inv X pins σ' H' s'/\Q σ' H') X.xe s
abbrev nv:=V->V->Hp->VK->Prop
noncomputable def z0 (X:Cx)(op:Operator)(t:nv):Prop :=
 ∀ (pins:List (Addr × Obj)) (s:Shared) (σ:St) (H:Hp) (x y:V) (v u:Value) (Q:VK),Inv X pins σ H s->RelV x v->RelV y u->t x y H Q ->
  wpAny (model X.prog X.w) X.A (inplaceOp op v u) (EP X pins σ Q) X.xe s
section
variable {X:Cx}{pos:Pos}
noncomputable def Dg (i:Nat):TG:=λv σ H Q=>Q (σ.set i (some v)) H
theorem Ua {i:Nat}{x:Str}(hN:X.N.Nodup)(hi:X.N[i]?=some x)(hx:Loc X.env.scope x)(hf:X.fn x=true\/X.env.scope.names.lookup x=some .local:=by first | exact .inl rfl | exact .inr rfl | assumption):PG X (.Name x pos) (Dg i):=by
 intro pins s σ H v u Q I r h
 exact wpAny_assign_Name (Ej I hN hi hx r (λs' I'=>⟨_,H,I',h⟩) hf)
noncomputable def O5:U9:=λvs σ H Q=>vs=[]/\Q σ H
inductive EW (t:TG)(u:U9)(vs:(List V))(σ:St)(H:Hp)(Q:(St->Hp->Prop)):Prop
 | mk (v:_) (r:_) (h1:vs=v::r) (h2:t v σ H fun σ' H'=>u r σ' H' Q):EW t u vs σ H Q
theorem Ub:nu X [] O5:=by
 intro pins s σ H vs us Q I r h
 obtain ⟨e,h⟩:=h
 subst e
 cases r
 exact assignInOrder_nil ⟨σ,H,I,h⟩
theorem Qc {e:Expr}{es:List Expr}{t:TG}{u:U9}(h1:PG X e t)(h2:nu X es u)
  (hs:(assignEach (e::es) X.env).map (·.2)=assign e X.env::(assignEach es X.env).map (·.2):=by rfl):nu X (e::es) (EW t u):=by
 intro pins s σ H vs us Q I r h
 obtain ⟨v,vr,e1,h⟩:=h
 subst e1
 cases r with
 | cons r rr =>
  rw [hs]
  refine assignInOrder_cons (BA (h1 pins s σ H _ _ _ I r h) λ_ s1 ⟨σ1,H1,I1,q1⟩=>?_)
  exact h2 pins s1 σ1 H1 _ _ Q I1 rr q1
inductive LA (K:W.Frag)(n:Nat)(t:U9)(v:V)(σ:St)(H:Hp)(Q:(St->Hp->Prop)):Prop
 | mk (a:_) (xs:_) (h1:v=.ref a) (h2:AJ K H a xs) (h3:xs.length=n) (h4:t xs σ H Q):LA K n t v σ H Q
theorem Zi {es:List Expr}{k:Nat}{t:U9}{n:Nat}(hc:X.calm=true)(h:nu X es t)
  (hn:(assignEach es X.env).length=n:=by rfl) (DM:(assignEach es X.env).findIdx? (·.1)=none:=by rfl):PG X (.Tuple es k pos) (LA X.K n t):=by
 intro pins s σ H v u Q I r hw
 obtain ⟨a,xs,e1,hq,hl,hw⟩:=hw
 subst e1
 cases r
 obtain ⟨its,rv,ht,hz⟩:=I.tuple hq
 refine assign_Tuple_tuple (I.ok.hd hc) ht (by simp [hn,<- hl,rv.length]) DM λh' hx=>?_
 have I1:Inv X pins σ H { s with heap:=h' }:=I.kept (t':=s.toks) λb o e=>hx b o (Nat.ne_of_lt (Heap.lt_size e)) e
 exact h pins _ σ H xs _ Q I1 (by simpa using rv) hw
noncomputable def O6 (te:TE)(g:TG):TS:=λD σ H=>te σ H λx H1=>g x σ H1 D.nx
theorem Zj {tg e:Expr}{te:TE}{g:TG}(he:PE X e te)(hg:PG X tg g)(hs:swapsWithSole [tg] e pos.line X.env=pure false:=by rfl)(hw:swappedStores [tg] e X.env=pure none:=by rfl)
  (h1:(assignEach [tg] X.env).map (·.2)=[assign tg X.env]:=by rfl):PS X (.Assign [tg] e pos) (O6 te g):=by
 intro pins s σ H D I h
 refine wpAny_Assign_stores (BA (he pins s σ H _ I h) λv s1 ⟨x,H1,I1,r1,q1⟩=>?_) hs hw
 rw [h1]
 exact BA (hg pins s1 σ H1 x v _ I1 r1 q1) λ_ s2 q=>q
theorem LB {i:Nat}{x:Str}{e:Expr}{te:TE}{pos':Pos}(hN:X.N.Nodup)(hi:X.N[i]?=some x)(hx:Loc X.env.scope x)(he:PE X e te)(hs:swapsWith e (some (.Name x pos')) pos.line X.env=pure false:=by rfl)(hf:X.fn x=true\/X.env.scope.names.lookup x=some .local:=by first | exact .inl rfl | exact .inr rfl | assumption):
  PS X (.Assign [.Name x pos'] e pos) (O6 te (Dg i)):=by
 intro pins s σ H D I h
 refine wpAny_Assign_Name (BA (he pins s σ H _ I h) λv s1 ⟨y,H1,I1,r1,q1⟩=>?_) hs
 exact Ej I1 hN hi hx r1 (λs2 I2=>⟨_,H1,I2,q1⟩) hf
noncomputable def Zk (i:Nat)(te:TE)(ti:nv):TS:=λD σ H=>∃ x,σ[i]?=some (some x)/\te σ H λy H1=>ti x y H1 λz H2=>D.nx (σ.set i (some z)) H2
theorem Zl {i:Nat}{x:Str}{e:Expr}{te:TE}{op:Operator}{ti:nv}{pos':Pos}(hN:X.N.Nodup)(hi:X.N[i]?=some x)(hx:Loc X.env.scope x)(he:PE X e te)(ho:z0 X op ti)(hf:X.fn x=true\/X.env.scope.names.lookup x=some .local:=by first | exact .inl rfl | exact .inr rfl | assumption):
  PS X (.AugAssign (.Name x pos') op e pos) (Zk i te ti):=by
 intro pins s σ H D I h
 obtain ⟨v,e1,h⟩:=h
 obtain ⟨m,hn,hl⟩:=I.loc
 have za:Xb X.env.scope x:=by rcases hx with k | k;exact .inl k;exact .inr (.inl k)
 obtain ⟨u,r,l⟩:=hl i x v hi e1 za
 refine wpAny_AugAssign_Name ?_
 have go:wpAny (model X.prog X.w) X.A (eval e X.env) (λw s₂=>wpAny (model X.prog X.w) X.A (inplaceOp op u w) (λr s₃=>wpAny (model X.prog X.w) X.A (storeName X.env x r) (λ_=>SP X pins D .next) X.xe s₃) X.xe s₂) X.xe s:=by
  refine BA (he pins s σ H _ I h) λw s1 ⟨y,H1,I1,r1,q1⟩=>?_
  refine BA (ho pins s1 σ H1 v y u w _ I1 r r1 q1) λz s2 ⟨zv,H2,I2,r2,q2⟩=>?_
  exact Ej I2 hN hi hx r2 (λs3 I3=>⟨_,H2,I3,q2⟩) hf
 rcases l with ⟨hk,hm⟩ | ⟨hk,c,hc,MQ⟩
 ·exact wpAny_loadName_local I.ok.kind hk hn hm go
 ·rcases hk with hk | hk
  ·exact wpAny_loadName_cell I.ok.kind hk hc MQ go
  ·rcases hx with k | k
   ·have:X.env.scope.names.lookup x=some .free:=hk
    rw [k] at this;cases this
   ·have:X.env.scope.names.lookup x=some .free:=hk
    rw [k] at this;cases this
noncomputable def ipI (f:Int->Int->Int):nv:=λx y H Q=>∃ i j,x=.int i/\y=.int j/\Q (.int (f i j)) H
theorem Zm:z0 X .Add (ipI λi j=>i+j):=by
 intro pins s σ H x y v u Q I r1 r2 h
 obtain ⟨i,j,e1,e2,q⟩:=h
 subst e1;subst e2
 obtain ⟨t,rfl⟩:=r1
 obtain ⟨t',rfl⟩:=r2
 exact iadd_int ⟨.int _,H,I.tok _,⟨_,rfl⟩,q⟩
noncomputable def Qd (c:TT)(tb:TS):TS:=λD σ H=>∃ W:Nat->St->Hp->Prop,(∃ m,W m σ H)/\∀ m σ H,W m σ H ->
 c σ H λb H1=>if b=true then ∃ N:St->Hp->Prop,(∀ σ' H',N σ' H'->∃ m',m' < m/\W m' σ' H')/\tb { D with nx:=N,ct:=N,bk:=D.nx } σ H1 else D.nx σ H1
theorem Qe {c:Expr}{body:List Stmt}{tc:TT}{tb:TS}(hp:PassesOwn (model X.prog X.w) X.A X.env X.xe)(hc:PT X c tc)(hb:Lw X body tb):PS X (.While c body [] pos) (Qd tc tb):=by
 intro pins s σ H D I h
 obtain ⟨W,⟨m0,w0⟩,turn⟩:=h
 refine wpAny_While (codeAny_whileLoop (λn s'=>∃ σ' H',Inv X pins σ' H' s'/\W n σ' H') ?_ m0 ⟨σ,H,I,w0⟩)
 rintro n s1 ⟨σ1,H1,I1,w1⟩
 refine wpAny_passesOwn hp (BA (hc pins s1 σ1 H1 _ I1 (turn n σ1 H1 w1)) λb s2 ⟨H2,I2,q2⟩=>?_)
 cases b with
 | true =>
  obtain ⟨N,hN,q2⟩:=q2
  rw [if_pos rfl]
  refine wpAny_passesOwn hp (BA (hb pins s2 σ1 H2 _ I2 q2) λf s3 q3=>?_)
  cases f with
  | next =>
   obtain ⟨σ3,H3,I3,n3⟩:=q3
   obtain ⟨m',hm,w3⟩:=hN σ3 H3 n3
   exact ⟨m',hm,σ3,H3,I3,w3⟩
  | cont =>
   obtain ⟨σ3,H3,I3,n3⟩:=q3
   obtain ⟨m',hm,w3⟩:=hN σ3 H3 n3
   exact ⟨m',hm,σ3,H3,I3,w3⟩
  | brk=>exact q3
  | ret v=>exact q3
 | false =>
  rw [if_neg Bool.false_ne_true]
  exact wpAny_execs_nil ⟨σ1,H2,I2,q2⟩
end
structure It where
 go:Nat->Hp->Prop
 yld:Nat->Hp->V->Hp->Prop
 stop:Nat->Hp->Prop
noncomputable def IH (X:Cx)(pins:List (Addr × Obj))(H:Hp)(b:Addr):Prop :=
 H b=none/\b≠X.env.locals/\b∉X.fs/\(b∈X.ex\/X.s₀.heap.objs.size<=b)/\(∀ x c,X.env.cells.lookup x=some c->c≠b)/\∀ p∈X.pn++pins,p.1≠b
theorem Inv.fpOk {X:Cx}{pins:List (Addr × Obj)}{σ:St}{H H':Hp}{s:Shared}{b:Addr}(I:Inv X pins σ H s)(hb:s.heap.objs.size<=b)(hn:H' b=none):IH X pins H' b:=by
 refine ⟨hn,Nat.ne_of_gt (Nat.lt_of_lt_of_le I.lt hb),I.nofs hb,.inr (Nat.le_trans I.sz hb),λx c e z=>?_,λp hp z=>?_⟩
 ·obtain ⟨v,q⟩:=I.cell x c e
  exact absurd (Nat.lt_of_lt_of_le q.lt (by rw [z];exact hb)) (Nat.lt_irrefl _)
 ·exact absurd (Nat.lt_of_lt_of_le (Heap.lt_size (I.pin p hp).1) (by rw [z];exact hb)) (Nat.lt_irrefl _)
structure Turn (P:Program)(w:World)(K:W.Frag)(tg:Expr)(J:It)(fp:List Addr)(it:Addr)(tn:Nat->Heap->Prop):Prop where
 mem:it∈fp
 obj:∀ i h,tn i h->∀ b∈fp,∃ o,h.get? b=some o/\∀ v,o.data≠.cell v
 keep:∀ i h h',tn i h->(∀ b∈fp,∀ o,h.get? b=some o->h'.get? b=some o)->tn i h'
 item:∀ (X:Cx),X.prog=P->X.w=w->X.K=K->X.calm=true->∀ (i:Nat) (pins:List (Addr × Obj)) (s:Shared) (σ:St) (H:Hp) (E:Value->Shared->Prop),Inv X pins σ H s->(∀ b∈fp,IH X pins H b)->tn i s.heap->J.go i H ->
  wpAny (model P w) X.A (pyNext (.ref it)) (λr s1=>∃ u,r=some u /\
   wpAny (model P w) X.A (letOwnedTupleGo tg (.ref it) u) (λ_ s2=>∃ x H',Inv X pins σ H' s2/\RelV x u/\J.yld i H x H'/\tn (i+1) s2.heap/\∀ b∈fp,H' b=none) E s1) E s
 done:∀ (X:Cx),X.prog=P->X.w=w->X.K=K->X.calm=true->∀ (i:Nat) (pins:List (Addr × Obj)) (s:Shared) (σ:St) (H:Hp) (E:Value->Shared->Prop),Inv X pins σ H s->(∀ b∈fp,IH X pins H b)->tn i s.heap->J.stop i H ->
  wpAny (model P w) X.A (pyNext (.ref it)) (λr s1=>r=none/\Inv X pins σ H s1) E s
 self:∀ (A:Around) (i:Nat) (s:Shared) (Q:Value->Shared->Prop) (E:Value->Shared->Prop),tn i s.heap->Q (.ref it) s->wpAny (model P w) A (pyIter (.ref it)) Q E s
abbrev TI:=St->Hp->(It->Hp->Prop)->Prop
noncomputable def PIE (X:Cx)(pins:List (Addr × Obj))(σ:St)(tg:Expr)(R:It->Hp->Prop)(xq:Value)(s2:Shared):Prop :=
 ∃ (it:Addr) (fp:List Addr) (tn:Nat->Heap->Prop) (J:It) (H':Hp),xq=.ref it/\Inv X pins σ H' s2/\Turn X.prog X.w X.K tg J fp it tn/\tn 0 s2.heap/\(∀ b∈fp,IH X pins H' b)/\R J H'
noncomputable def PI (X:Cx)(tg iter:Expr)(wi:TI):Prop :=
 ∀ (pins:List (Addr × Obj)) (s:Shared) (σ:St) (H:Hp) (R:It->Hp->Prop),Inv X pins σ H s->wi σ H R ->
  wpAny (model X.prog X.w) X.A (eval iter X.env) (λv s1=>wpAny (model X.prog X.w) X.A (pyIter v) (PIE X pins σ tg R) X.xe s1) X.xe s
theorem MU {M:Model}{A:Around}{E:Value->Shared->Prop}{s:Shared}{tg:Expr}{it:Addr}{u:Value}{o:Obj}{n:String}{vs:Array Value}{Q:Unit->Shared->Prop}(ho:s.heap.get? it=some o)(hc:o.cls=.type n)(hd:o.data=.fields vs)
    (hn:["enumerate","zip","dict_itemiterator","dict_reverseitemiterator","odict_iterator","itertools.zip_longest","itertools.pairwise"].contains n=false) (hQ:Q .unit s):wpAny M A (letOwnedTupleGo tg (.ref it) u) Q E s:=by
  unfold letOwnedTupleGo
  cases tg <;> first
    | exact wpAny_pure hQ
    | (cases u <;> first
        | exact wpAny_pure hQ
        | (refine wpAny_bind (wpAny_load ho ?_)
           rw [hc,hd]
           show wpAny M A (if (["enumerate","zip","dict_itemiterator","dict_reverseitemiterator","odict_iterator","itertools.zip_longest","itertools.pairwise"].contains n && vs[0]?==some (rawInt _))=true then _ else _) Q E s
           rw [if_neg (by intro h;rw [hn,Bool.false_and] at h;cases h)]
           exact wpAny_pure hQ))
noncomputable def Zn (K:W.Frag)(a:Addr):It :=
 ⟨λi H=>∃ xs x,AZ K H a xs/\xs[i]?=some x,λi H x H'=>H'=H/\∀ xs,AZ K H a xs->xs[i]?=some x,λi H=>∃ xs,AZ K H a xs/\xs.length<=i⟩
noncomputable def lN (K:W.Frag)(a:Addr):It :=
 ⟨λi H=>∃ xs x,AJ K H a xs/\xs[i]?=some x,λi H x H'=>H'=H/\∀ xs,AJ K H a xs->xs[i]?=some x,λi H=>∃ xs,AJ K H a xs/\xs.length<=i⟩
noncomputable def Xe (lo:Int)(n:Nat):It:=⟨λi _=>i < n,λi H x H'=>H'=H/\x=.int (lo+i),λi _=>n<=i⟩
theorem O7 {P:Program}{w:World}{K:W.Frag}{tg:Expr}(a it:Addr):Turn P w K tg (Zn K a) [it] it (λi h=>h.IsListIter it a i) where
 mem:=by simp
 obj:=λi h st b hb=>by
  have e:b=it:=by simpa using hb
  subst e
  obtain ⟨o,e,c,d⟩:=st
  exact ⟨o,e,λv z=>by rw [d] at z;cases z⟩
 keep:=λi h h' st k=>st.at λo e=>k it (by simp) o e
 item:=by
  intro X hP hw hK hc i pins s σ H E I hf st hg
  subst hP hw hK
  obtain ⟨xs,x,hq,hx⟩:=hg
  obtain ⟨its,rv,p,hz⟩:=I.list hq
  obtain ⟨u,hu,ru⟩:=rv.get hx
  obtain ⟨f0,f1,f2,f3,f4,f5⟩:=hf it (by simp)
  refine wpAny_pyNext_list_item st p.isList (x:=u) (by simpa using hu) λh' HG sb=>?_
  have I1:Inv X pins σ H { s with heap:=h' }:=I.turned (t':=s.toks) (λb o hb e=>(sb.2 b hb).trans e) f0 f1 f3 f4 f5
  obtain ⟨o,e,c,d⟩:=id HG
  exact ⟨u,rfl,MU (s:={ s with heap:=h' }) e c d ⟨⟩ ⟨x,H,I1,ru,⟨rfl,λys hy=>by rw [I.list_inj hy hq];exact hx⟩,HG,λb hb=>(hf b hb).1⟩⟩
 done:=by
  intro X hP hw hK hc i pins s σ H E I hf st hg
  subst hP hw hK
  obtain ⟨xs,hq,hx⟩:=hg
  obtain ⟨its,rv,p,hz⟩:=I.list hq
  obtain ⟨f0,f1,f2,f3,f4,f5⟩:=hf it (by simp)
  have hl:=rv.length
  exact wpAny_pyNext_list_end (I.ok.hd hc) st p.isList (by simp;omega) λh' eb=>⟨rfl,I.turned (t':=s.toks) (λb o hb e=>eb b o hb e) f0 f1 f3 f4 f5⟩
 self:=λ_ _ _ _ _ st h=>wpAny_pyIter_listiter st h
theorem LC {P:Program}{w:World}{K:W.Frag}{tg:Expr}(a it:Addr):Turn P w K tg (lN K a) [it] it (λi h=>h.IsTupleIter it a i) where
 mem:=by simp
 obj:=λi h st b hb=>by
  have e:b=it:=by simpa using hb
  subst e
  obtain ⟨o,e,c,d⟩:=st
  exact ⟨o,e,λv z=>by rw [d] at z;cases z⟩
 keep:=λi h h' st k=>st.at λo e=>k it (by simp) o e
 item:=by
  intro X hP hw hK hc i pins s σ H E I hf st hg
  subst hP hw hK
  obtain ⟨xs,x,hq,hx⟩:=hg
  obtain ⟨its,rv,p,hz⟩:=I.tuple hq
  obtain ⟨u,hu,ru⟩:=rv.get hx
  obtain ⟨f0,f1,f2,f3,f4,f5⟩:=hf it (by simp)
  refine wpAny_pyNext_tuple_item st (show s.heap.IsTuple a its.toArray from p) (x:=u) (by simpa using hu) λh' HG sb=>?_
  have I1:Inv X pins σ H { s with heap:=h' }:=I.turned (t':=s.toks) (λb o hb e=>(sb.2 b hb).trans e) f0 f1 f3 f4 f5
  obtain ⟨o,e,c,d⟩:=id HG
  exact ⟨u,rfl,MU (s:={ s with heap:=h' }) e c d ⟨⟩ ⟨x,H,I1,ru,⟨rfl,λys hy=>by rw [I.tuple_inj hy hq];exact hx⟩,HG,λb hb=>(hf b hb).1⟩⟩
 done:=by
  intro X hP hw hK hc i pins s σ H E I hf st hg
  subst hP hw hK
  obtain ⟨xs,hq,hx⟩:=hg
  obtain ⟨its,rv,p,hz⟩:=I.tuple hq
  obtain ⟨f0,f1,f2,f3,f4,f5⟩:=hf it (by simp)
  have hl:=rv.length
  exact wpAny_pyNext_tuple_end (I.ok.hd hc) st (show s.heap.IsTuple a its.toArray from p) (by simp;omega) λh' eb=>⟨rfl,I.turned (t':=s.toks) (λb o hb e=>eb b o hb e) f0 f1 f3 f4 f5⟩
 self:=λ_ _ _ _ _ st h=>wpAny_pyIter_tupleiter st h
theorem LD {P:Program}{w:World}{K:W.Frag}{tg:Expr}(it:Addr)(lo:Int)(n:Nat):Turn P w K tg (Xe lo n) [it] it (λi h=>IsRangeIter h it (lo+(i:Nat) * 1) ((n:Int) - (i:Nat)) 1) where
 mem:=by simp
 obj:=λi h st b hb=>by
  have e:b=it:=by simpa using hb
  subst e
  exact ⟨_,st,λv z=>by
   have z':Data.fields _=Data.cell v:=z
   cases z'⟩
 keep:=λi h h' st k=>k it (by simp) _ st
 item:=by
  intro X hP hw hK hc i pins s σ H E I hf st hg
  subst hP hw hK
  obtain ⟨f0,f1,f2,f3,f4,f5⟩:=hf it (by simp)
  have W:=Walks.range (prog:=X.prog) (w:=X.w) (I.ok.hd hc) it lo 1 n
  refine W.item i s _ _ hg st λv h' tk hv HG kk=>?_
  obtain ⟨t,rfl⟩:=hv
  have I1:Inv X pins σ H { s with heap:=h',toks:=tk }:=I.turned (λb o hb e=>kk b o (by simpa using hb) e) f0 f1 f3 f4 f5
  refine ⟨_,rfl,MU (s:={ s with heap:=h',toks:=tk }) (n:="range_iterator") HG rfl rfl ⟨⟩ ⟨.int (lo+i),H,I1,⟨t,?_⟩,⟨rfl,rfl⟩,HG,λb hb=>(hf b hb).1⟩⟩
  rw [Int.mul_one]
 done:=by
  intro X hP hw hK hc i pins s σ H E I hf st hg
  subst hP hw hK
  obtain ⟨f0,f1,f2,f3,f4,f5⟩:=hf it (by simp)
  exact wpAny_pyNext_range_end (I.ok.hd hc) st (by have:n<=i:=hg;omega) λh' eb=>⟨rfl,I.turned (t':=s.toks) (λb o hb e=>eb b o hb e) f0 f1 f3 f4 f5⟩
 self:=λ_ _ _ _ _ st h=>wpAny_pyIter_rangeiter st h
section
variable {X:Cx}{tg:Expr}
inductive LF (K:W.Frag)(R:(It->Hp->Prop))(x:V)(H1:Hp):Prop
 | mk (a:_) (h1:x=.ref a) (h2:(∃ xs,AZ K H1 a xs)) (h3:R (Zn K a) H1):LF K R x H1
noncomputable def MW (K:W.Frag)(tl:TE):TI:=fun σ H R=>tl σ H λx H1=>LF K R x H1
inductive Qf (K:W.Frag)(R:(It->Hp->Prop))(x:V)(H1:Hp):Prop
 | mk (a:_) (h1:x=.ref a) (h2:(∃ xs,AJ K H1 a xs)) (h3:R (lN K a) H1):Qf K R x H1
noncomputable def Zo (K:W.Frag)(tl:TE):TI:=fun σ H R=>tl σ H λx H1=>Qf K R x H1
theorem Uc {l:Expr}{tl:TE}(hl:PE X l tl):PI X tg l (MW X.K tl):=by
 intro pins s σ H R I h
 refine BA (hl pins s σ H _ I h) λv s1 ⟨x,H1,I1,r1,q1⟩=>?_
 obtain ⟨a,e,⟨xs,hq⟩,q⟩:=q1
 subst e
 cases r1
 obtain ⟨its,rv,p,hz⟩:=I1.list hq
 refine wpAny_pyIter_list p.isList ?_
 refine ⟨s1.heap.objs.size,[s1.heap.objs.size],_,_,H1,rfl,I1.kept (t':=s1.toks) λb o e=>Heap.get?_push_of_some _ e,O7 a _,⟨_,Heap.get?_push_size _ rfl,rfl,rfl⟩,λb hb=>?_,q⟩
 have e:b=s1.heap.objs.size:=by simpa using hb
 subst e
 exact I1.fpOk (Nat.le_refl _) (I1.hok.fresh (Nat.le_refl _))
theorem Zp {l:Expr}{tl:TE}(hl:PE X l tl):PI X tg l (Zo X.K tl):=by
 intro pins s σ H R I h
 refine BA (hl pins s σ H _ I h) λv s1 ⟨x,H1,I1,r1,q1⟩=>?_
 obtain ⟨a,e,⟨xs,hq⟩,q⟩:=q1
 subst e
 cases r1
 obtain ⟨its,rv,p,hz⟩:=I1.tuple hq
 refine wpAny_pyIter_tuple (show s1.heap.IsTuple a its.toArray from p) ?_
 refine ⟨s1.heap.objs.size,[s1.heap.objs.size],_,_,H1,rfl,I1.kept (t':=s1.toks) λb o e=>Heap.get?_push_of_some _ e,LC a _,⟨_,Heap.get?_push_size _ rfl,rfl,rfl⟩,λb hb=>?_,q⟩
 have e:b=s1.heap.objs.size:=by simpa using hb
 subst e
 exact I1.fpOk (Nat.le_refl _) (I1.hok.fresh (Nat.le_refl _))
theorem Ke {pins:List (Addr × Obj)}{σ:St}{H:Hp}{s:Shared}{R:It->Hp->Prop}{E:Value->Shared->Prop}{lo hi:Int}{t u v:Tok}{tk:Nat}(I:Inv X pins σ H s)(h1:-(2 ^ 62)<=lo)(h2:lo < 2 ^ 62)(h3:-(2 ^ 62)<=hi)(h4:hi < 2 ^ 62)
  (q:R (Xe lo (hi - lo).toNat) H):wpAny (model X.prog X.w) X.A (pyIter (.ref s.heap.objs.size)) (PIE X pins σ tg R) E { s with heap:=s.heap.push { cls:=.type "range",data:=.fields #[.int lo t,.int hi u,.int 1 v] },toks:=tk }:=by
 refine wpAny_pyIter_range (IsRange.new ..) (small_one h1 h2 h3 h4) ?_
 have I1:Inv X pins σ H { s with heap:=s.heap.push { cls:=.type "range",data:=.fields #[.int lo t,.int hi u,.int 1 v] },toks:=tk }:=I.kept λb o e=>Heap.get?_push_of_some _ e
 refine ⟨(s.heap.push { cls:=.type "range",data:=.fields #[.int lo t,.int hi u,.int 1 v] }).objs.size,[(s.heap.push { cls:=.type "range",data:=.fields #[.int lo t,.int hi u,.int 1 v] }).objs.size],_,_,H,rfl,
  I1.kept (t':=tk) λb o e=>Heap.get?_push_of_some _ e,LD _ lo (hi - lo).toNat,?_,λb hb=>?_,q⟩
 ·have e1:lo+((0:Nat):Int) * 1=lo:=by simp
  have e2:(((hi - lo).toNat:Nat):Int) - ((0:Nat):Int)=Builtin.Range.rangeSize lo hi 1:=by rw [rangeSize_one];split <;> omega
  show IsRangeIter _ _ (lo+((0:Nat):Int) * 1) ((((hi - lo).toNat:Nat):Int) - ((0:Nat):Int)) 1
  rw [e1,e2]
  exact Heap.get?_push_size _ rfl
 ·have e:b=(s.heap.push { cls:=.type "range",data:=.fields #[.int lo t,.int hi u,.int 1 v] }).objs.size:=by simpa using hb
  subst e
  exact I1.fpOk (Nat.le_refl _) (I1.hok.fresh (Nat.le_refl _))
inductive LG (R:(It->Hp->Prop))(vs:(List V))(H1:Hp):Prop
 | mk (j:Int) (h1:vs=[.int j]) (h2:-(2 ^ 62)<=j) (h3:j < 2 ^ 62) (h4:R (Xe 0 j.toNat) H1):LG R vs H1
noncomputable def Qg (ta:TA):TI:=fun σ H R=>ta σ H λvs H1=>LG R vs H1
noncomputable def Xf (ta:TA):TI:=fun σ H R=>ta σ H λvs H1=>∃ i j:Int,vs=[.int i,.int j]/\(-(2 ^ 62)<=i/\i < 2 ^ 62/\-(2 ^ 62)<=j/\j < 2 ^ 62)/\R (Xe i (j - i).toNat) H1
theorem O8 {a:Expr}{ta:TA}{p pos:Pos}(hg:Gl X "range")(hm:X.mg "range"=none)(ha:PA X [a] ta)(hs:starEach [a] X.env=[(false,eval a X.env)]:=by rfl):PI X tg (.Call (.Name "range" p) [a] [] pos) (Qg ta):=by
 intro pins s σ H R I h
 refine Call_ (EV I hg hm boot_range (PyProof.Rows.callWith_type1 (BA (ha pos pins s σ H _ I h) λus s1 ⟨vs,H1,I1,r1,q1⟩=>?_) hs rfl))
 obtain ⟨j,e,q1,q2,q⟩:=q1
 subst e
 cases r1 with
 | cons r rr =>
  cases rr
  obtain ⟨t,rfl⟩:=r
  exact call_range_1 (Ke I1 () () q1 q2 (by simpa using q))
theorem O9 {a b:Expr}{ta:TA}{p pos:Pos}(hg:Gl X "range")(hm:X.mg "range"=none)(ha:PA X [a,b] ta)(hs:starEach [a,b] X.env=[(false,eval a X.env),(false,eval b X.env)]:=by rfl)(Qh:starEach [b] X.env=[(false,eval b X.env)]:=by rfl):
  PI X tg (.Call (.Name "range" p) [a,b] [] pos) (Xf ta):=by
 intro pins s σ H R I h
 refine Call_ (EV I hg hm boot_range (PyProof.Rows.callWith_type1 (BA (ha pos pins s σ H _ I h) λus s1 ⟨vs,H1,I1,r1,q1⟩=>?_) (by rw [hs,Qh]) (by rw [Qh];rfl)))
 obtain ⟨i,j,e,⟨q1,q2,q3,q4⟩,q⟩:=q1
 subst e
 cases r1 with
 | cons r rr =>
  cases rr with
  | cons r' rr =>
   cases rr
   obtain ⟨t,rfl⟩:=r
   obtain ⟨t',rfl⟩:=r'
   exact call_range_2 (Ke I1 q1 q2 q3 q4 q)
noncomputable def Zq (wi:TI)(g:TG)(tb:TS):TS:=λD σ H=>wi σ H λJ H1=>∃ W:Nat->Nat->St->Hp->Prop,(∃ m,W 0 m σ H1)/\∀ i m σ H,W i m σ H ->
 (J.stop i H/\D.nx σ H)\/(J.go i H/\∃ N:St->Hp->Prop,(∀ σ' H',N σ' H'->∃ m',m' < m/\W (i+1) m' σ' H')/\∀ x H',J.yld i H x H'->g x σ H' fun σ2 H2=>tb { D with nx:=N,ct:=N,bk:=D.nx } σ2 H2)
noncomputable def HH (fp:List Addr)(h:Heap):List (Addr × Obj):=fp.filterMap λb=>(h.get? b).map λo=>(b,o)
theorem Ey {fp:List Addr}{h:Heap}{b:Addr}{o:Obj}(hb:b∈fp)(e:h.get? b=some o):(b,o)∈HH fp h:=List.mem_filterMap.mpr ⟨b,hb,by rw [e];rfl⟩
theorem Oa {fp:List Addr}{h:Heap}{p:Addr × Obj}(hp:p∈HH fp h):p.1∈fp/\h.get? p.1=some p.2:=by
 obtain ⟨b,hb,e⟩:=List.mem_filterMap.mp hp
 cases q:h.get? b with
 | none=>rw [q] at e;cases e
 | some o =>
  rw [q] at e
  have e':(b,o)=p:=Option.some.inj e
  subst e'
  exact ⟨hb,q⟩
theorem Inv.pinned {pins:List (Addr × Obj)}{σ:St}{H:Hp}{s:Shared}{fp:List Addr}(I:Inv X pins σ H s)(hf:∀ b∈fp,IH X pins H b)(ho:∀ b∈fp,∃ o,s.heap.get? b=some o/\∀ v,o.data≠.cell v):Inv X (pins++HH fp s.heap) σ H s :=
 I.pins_of λp hp=>(List.mem_append.mp hp).elim (λz=>I.pin p (List.mem_append_right _ z)) λz=>by
  obtain ⟨hb,e⟩:=Oa z
  obtain ⟨f0,f1,f2,_⟩:=hf p.1 hb
  obtain ⟨o,e',d⟩:=ho p.1 hb
  rw [e] at e';cases e'
  exact ⟨e,f0,f1,f2,d⟩
theorem Inv.unpinned {pins pl:List (Addr × Obj)}{σ:St}{H:Hp}{s:Shared}(I:Inv X (pins++pl) σ H s):Inv X pins σ H s:=I.pins_of λp hp=>I.pin p (List.mem_append_right _ (List.mem_append_left _ hp))
theorem Zr {iter:Expr}{body:List Stmt}{wi:TI}{g:TG}{tb:TS}{pos:Pos}(hp:PassesOwn (model X.prog X.w) X.A X.env X.xe)(hc:X.calm=true)(hi:PI X tg iter wi)(hg:PG X tg g)(hb:Lw X body tb)
  (hs:∀ x,foldedSetIterable iter X.env x=pure x:=by intro _;rfl):PS X (.For tg iter body [] pos) (Zq wi g tb):=by
 intro pins s σ H D I h
 refine wpAny_For (BA (hi pins s σ H _ I h) λv s1 h1=>BA h1 λxq s2 h2=>?_) hs
 obtain ⟨it,fp,tn,J,H2,e,I2,T,ny,f2,W,⟨m0,w0⟩,turn⟩:=h2
 subst e
 have Zs:∀ {H':Hp},(∀ b∈fp,H' b=none)->∀ b∈fp,IH X pins H' b:=λhn b hb=>⟨hn b hb,(f2 b hb).2⟩
 refine codeAny_forLoop_any (λn s'=>∃ i σ' H',Inv X pins σ' H' s'/\tn i s'.heap/\(∀ b∈fp,H' b=none)/\W i n σ' H') ?_ m0 ⟨0,σ,H2,I2,ny,λb hb=>(f2 b hb).1,w0⟩
 rintro n s3 ⟨i,σ3,H3,I3,nz,nA,w3⟩
 rcases turn i n σ3 H3 w3 with ⟨stop,qn⟩ | ⟨go,N,hN,step⟩
 ·refine wpAny_passesOwn hp (BA (T.done X rfl rfl rfl hc i pins s3 σ3 H3 X.xe I3 (Zs nA) nz stop) λr s4 ⟨hr,I4⟩=>?_)
  subst hr
  exact wpAny_execs_nil ⟨σ3,H3,I4,qn⟩
 ·refine wpAny_passesOwn hp (BA (T.item X rfl rfl rfl hc i pins s3 σ3 H3 X.xe I3 (Zs nA) nz go) λr s4 ⟨u,hr,h4⟩=>?_)
  subst hr
  refine wpAny_passesOwn hp (BA h4 λ_ s5 ⟨x,H5,I5,r5,y5,Zt,zb⟩=>?_)
  have zc:=I5.pinned (Zs zb) (T.obj _ _ Zt)
  refine wpAny_passesOwn hp (BA (hg _ s5 σ3 H5 x u _ zc r5 (step x H5 y5)) λ_ s6 ⟨σ6,H6,I6,q6⟩=>?_)
  refine wpAny_passesOwn hp (BA (hb _ s6 σ6 H6 _ I6 q6) λf s7 q7=>?_)
  have again:∀ {σ7:St} {H7:Hp},Inv X (pins++HH fp s5.heap) σ7 H7 s7->N σ7 H7->∃ m,m < n/\∃ i σ' H',Inv X pins σ' H' s7/\tn i s7.heap/\(∀ b∈fp,H' b=none)/\W i m σ' H':=λ{σ7 H7} I7 n7=>by
   obtain ⟨m',hm,w7⟩:=hN σ7 H7 n7
   refine ⟨m',hm,i+1,σ7,H7,I7.unpinned,T.keep _ _ _ Zt λb hb o e=>(I7.pin (b,o) (List.mem_append_right _ (List.mem_append_right _ (Ey hb e)))).1,λb hb=>?_,w7⟩
   obtain ⟨o,e,d⟩:=T.obj _ _ Zt b hb
   exact (I7.pin (b,o) (List.mem_append_right _ (List.mem_append_right _ (Ey hb e)))).2.1
  cases f with
  | next=>obtain ⟨σ7,H7,I7,n7⟩:=q7;exact again I7 n7
  | cont=>obtain ⟨σ7,H7,I7,n7⟩:=q7;exact again I7 n7
  | brk=>obtain ⟨σ7,H7,I7,q7⟩:=q7;exact ⟨σ7,H7,I7.unpinned,q7⟩
  | ret v=>obtain ⟨x7,σ7,H7,I7,r7,q7⟩:=q7;exact ⟨x7,σ7,H7,I7.unpinned,r7,q7⟩
end
theorem nE {K:W.Frag}{a:Addr}{xs:List V}{g:TG}{tb:TS}{D:Ends}{σ:St}{H:Hp}(Pv:Nat->St->Hp->Prop)(h0:Pv 0 σ H)(hl:∀ i σ H,i<=xs.length->Pv i σ H->AZ K H a xs)
  (hs:∀ i x σ H,xs[i]?=some x->Pv i σ H->g x σ H fun σ2 H2=>tb { D with nx:=Pv (i+1),ct:=Pv (i+1),bk:=D.nx } σ2 H2) (hd:∀ σ H,Pv xs.length σ H->D.nx σ H) :
  ∃ W:Nat->Nat->St->Hp->Prop,(∃ m,W 0 m σ H)/\∀ i m σ H,W i m σ H ->
   ((Zn K a).stop i H/\D.nx σ H)\/((Zn K a).go i H/\∃ N:St->Hp->Prop,(∀ σ' H',N σ' H'->∃ m',m' < m/\W (i+1) m' σ' H')/\∀ x H',(Zn K a).yld i H x H'->g x σ H' fun σ2 H2=>tb { D with nx:=N,ct:=N,bk:=D.nx } σ2 H2):=by
 refine ⟨λi m σ H=>m=xs.length - i/\i<=xs.length/\Pv i σ H,⟨xs.length,by simp,Nat.zero_le _,h0⟩,?_⟩
 rintro i m σ H ⟨rfl,hi,p⟩
 have q:=hl i σ H hi p
 by_cases Ef:i < xs.length
 ·refine .inr ⟨⟨xs,xs[i],q,by simp [Ef]⟩,Pv (i+1),fun σ' H' p'=>⟨xs.length - (i+1),(),rfl,Ef,p'⟩,λx H' y=>?_⟩
  obtain ⟨e,y⟩:=y
  subst e
  exact hs i x σ _ (y xs q) p
 ·have e:i=xs.length:=by omega
  subst e
  exact .inl ⟨⟨xs,q,Nat.le_refl _⟩,hd σ H p⟩
theorem Ud {K:W.Frag}{a:Addr}{xs:List V}{g:TG}{tb:TS}{D:Ends}{σ:St}{H:Hp}(Pv:Nat->St->Hp->Prop)(h0:Pv 0 σ H)(hl:∀ i σ H,i<=xs.length->Pv i σ H->AJ K H a xs)
  (hs:∀ i x σ H,xs[i]?=some x->Pv i σ H->g x σ H fun σ2 H2=>tb { D with nx:=Pv (i+1),ct:=Pv (i+1),bk:=D.nx } σ2 H2) (hd:∀ σ H,Pv xs.length σ H->D.nx σ H) :
  ∃ W:Nat->Nat->St->Hp->Prop,(∃ m,W 0 m σ H)/\∀ i m σ H,W i m σ H ->
   ((lN K a).stop i H/\D.nx σ H)\/((lN K a).go i H/\∃ N:St->Hp->Prop,(∀ σ' H',N σ' H'->∃ m',m' < m/\W (i+1) m' σ' H')/\∀ x H',(lN K a).yld i H x H'->g x σ H' fun σ2 H2=>tb { D with nx:=N,ct:=N,bk:=D.nx } σ2 H2):=by
 refine ⟨λi m σ H=>m=xs.length - i/\i<=xs.length/\Pv i σ H,⟨xs.length,by simp,Nat.zero_le _,h0⟩,?_⟩
 rintro i m σ H ⟨rfl,hi,p⟩
 have q:=hl i σ H hi p
 by_cases Ef:i < xs.length
 ·refine .inr ⟨⟨xs,xs[i],q,by simp [Ef]⟩,Pv (i+1),fun σ' H' p'=>⟨xs.length - (i+1),(),rfl,Ef,p'⟩,λx H' y=>?_⟩
  obtain ⟨e,y⟩:=y
  subst e
  exact hs i x σ _ (y xs q) p
 ·have e:i=xs.length:=by omega
  subst e
  exact .inl ⟨⟨xs,q,Nat.le_refl _⟩,hd σ H p⟩
theorem Ob {lo:Int}{n:Nat}{g:TG}{tb:TS}{D:Ends}{σ:St}{H:Hp}(Pv:Nat->St->Hp->Prop)(h0:Pv 0 σ H)
  (hs:∀ i σ H,i < n->Pv i σ H->g (.int (lo+i)) σ H fun σ2 H2=>tb { D with nx:=Pv (i+1),ct:=Pv (i+1),bk:=D.nx } σ2 H2) (hd:∀ σ H,Pv n σ H->D.nx σ H) :
  ∃ W:Nat->Nat->St->Hp->Prop,(∃ m,W 0 m σ H)/\∀ i m σ H,W i m σ H ->
   ((Xe lo n).stop i H/\D.nx σ H)\/((Xe lo n).go i H/\∃ N:St->Hp->Prop,(∀ σ' H',N σ' H'->∃ m',m' < m/\W (i+1) m' σ' H')/\∀ x H',(Xe lo n).yld i H x H'->g x σ H' fun σ2 H2=>tb { D with nx:=N,ct:=N,bk:=D.nx } σ2 H2):=by
 refine ⟨λi m σ H=>m=n - i/\i<=n/\Pv i σ H,⟨n,by simp,Nat.zero_le _,h0⟩,?_⟩
 rintro i m σ H ⟨rfl,hi,p⟩
 by_cases Ef:i < n
 ·refine .inr ⟨Ef,Pv (i+1),fun σ' H' p'=>⟨n - (i+1),(),rfl,Ef,p'⟩,λx H' y=>?_⟩
  obtain ⟨e,y⟩:=y
  subst e y
  exact hs i σ _ Ef p
 ·have e:i=n:=by omega
  subst e
  exact .inl ⟨Nat.le_refl _,hd σ H p⟩
abbrev R2:=V->V->Hp->VK->Prop
noncomputable def EN (X:Cx)(f:Value->Value->Sem Value)(r:R2):Prop :=
 ∀ (pins:List (Addr × Obj)) (s:Shared) (σ:St) (H:Hp) (x y:V) (v u:Value) (Q:VK),Inv X pins σ H s->RelV x v->RelV y u->r x y H Q ->
  wpAny (model X.prog X.w) X.A (f v u) (EP X pins σ Q) X.xe s
noncomputable def xr (X:Cx)(f:Value->Sem Value)(r:V->Hp->VK->Prop):Prop :=
 ∀ (pins:List (Addr × Obj)) (s:Shared) (σ:St) (H:Hp) (x:V) (v:Value) (Q:VK),Inv X pins σ H s->RelV x v->r x H Q ->
  wpAny (model X.prog X.w) X.A (f v) (EP X pins σ Q) X.xe s
noncomputable def DO (X:Cx)(f:Value)(r:List V->Hp->VK->Prop):Prop :=
 ∀ (pins:List (Addr × Obj)) (s:Shared) (σ:St) (H:Hp) (xs:List V) (us:List Value) (Q:VK),Inv X pins σ H s->Vals xs us->r xs H Q ->
  wpAny (model X.prog X.w) X.A (call f us) (EP X pins σ Q) X.xe s
noncomputable def zd (X:Cx)(r:V->Hp->(Bool->Hp->Prop)->Prop):Prop :=
 ∀ (pins:List (Addr × Obj)) (s:Shared) (σ:St) (H:Hp) (x:V) (v:Value) (Q:Bool->Hp->Prop),Inv X pins σ H s->RelV x v->r x H Q ->
  wpAny (model X.prog X.w) X.A (truthy v) (TP X pins σ Q) X.xe s
noncomputable def Ft (r:R2)(ta tb:TE):TE:=fun σ H Q=>ta σ H λx H1=>tb σ H1 λy H2=>r x y H2 Q
noncomputable def ze (r:V->Hp->VK->Prop)(ta:TE):TE:=fun σ H Q=>ta σ H λx H1=>r x H1 Q
inductive rI (C:Int->Int->Prop)(g:Int->Int->V)(x:V)(y:V)(H:Hp)(Q:VK):Prop
 | mk (i:_) (j:_) (h1:x=.int i) (h2:y=.int j) (h3:C i j) (h4:Q (g i j) H):rI C g x y H Q
inductive LH (g:Int->Int->V)(x:V)(y:V)(H:Hp)(Q:VK):Prop
 | mk (i:_) (j:_) (h1:x=.int i) (h2:y=.int j) (h3:Q (g i j) H):LH g x y H Q
noncomputable def rU (g:Int->V):V->Hp->VK->Prop:=λx H Q=>∃ i,x=.int i/\Q (g i) H
section
variable {X:Cx}{a b c:Expr}{ta tb tc:TE}{pos:Pos}
theorem Zu (ha:PE X a ta)(hb:PE X b tb){pins:List (Addr × Obj)}{s:Shared}{σ:St}{H:Hp}{R:V->V->Hp->Prop}(I:Inv X pins σ H s)
  (h:ta σ H λx H1=>tb σ H1 λy H2=>R x y H2) {Q:Value->Shared->Prop} {f:Value->Value->Sem Value}
  (hf:∀ v u s2 x y H2,Inv X pins σ H2 s2->RelV x v->RelV y u->R x y H2->wpAny (model X.prog X.w) X.A (f v u) Q X.xe s2) :
  wpAny (model X.prog X.w) X.A (eval a X.env) (λv s₁=>wpAny (model X.prog X.w) X.A (eval b X.env) (λu s₂=>wpAny (model X.prog X.w) X.A (f v u) Q X.xe s₂) X.xe s₁) X.xe s:=by
 refine BA (ha pins s σ H _ I h) λv s1 ⟨x,H1,I1,r1,q1⟩=>?_
 refine BA (hb pins s1 σ H1 _ I1 q1) λu s2 ⟨y,H2,I2,r2,q2⟩=>?_
 exact hf v u s2 x y H2 I2 r1 r2 q2
theorem EO {op:Operator}{r:R2}(ho:EN X (binaryOp op) r)(ha:PE X a ta)(hb:PE X b tb):PE X (.BinOp a op b pos) (Ft r ta tb):=by
 intro pins s σ H Q I h
 exact wpAny_BinOp (Zu ha hb I h λv u s2 x y H2 I2 rx ry q=>ho pins s2 σ H2 x y v u Q I2 rx ry q)
theorem nF {op:UnaryOp}{r:V->Hp->VK->Prop}(ho:xr X (unaryOp op) r)(ha:PE X a ta):PE X (.UnaryOp op a pos) (ze r ta):=by
 intro pins s σ H Q I h
 exact UnaryOp_ (BA (ha pins s σ H _ I h) λv s1 ⟨x,H1,I1,r1,q1⟩=>ho pins s1 σ H1 x v Q I1 r1 q1)
theorem xt {f:Value->Value->Sem Value}{C:Int->Int->Prop}{g:Int->Int->Int}
  (rule:∀ (i j:Int) (t u:Tok) (s:Shared) (Q:Value->Shared->Prop) (E:Value->Shared->Prop),C i j->Q (.int (g i j) s.toks) { s with toks:=s.toks+1 }->wpAny (model X.prog X.w) X.A (f (.int i t) (.int j u)) Q E s) :
  EN X f (rI C λi j=>.int (g i j)):=by
 intro pins s σ H x y v u Q I rx ry h
 obtain ⟨i,j,rfl,rfl,hc,q⟩:=h
 obtain ⟨t,rfl⟩:=rx
 obtain ⟨t',rfl⟩:=ry
 exact rule i j t t' s _ _ hc ⟨.int (g i j),H,I.tok _,⟨_,rfl⟩,q⟩
theorem nG {f:Value->Value->Sem Value}{g:Int->Int->Int}
  (rule:∀ (i j:Int) (t u:Tok) (s:Shared) (Q:Value->Shared->Prop) (E:Value->Shared->Prop),Q (.int (g i j) s.toks) { s with toks:=s.toks+1 }->wpAny (model X.prog X.w) X.A (f (.int i t) (.int j u)) Q E s) :
  EN X f (LH λi j=>.int (g i j)):=by
 intro pins s σ H x y v u Q I rx ry h
 obtain ⟨i,j,rfl,rfl,q⟩:=h
 obtain ⟨t,rfl⟩:=rx
 obtain ⟨t',rfl⟩:=ry
 exact rule i j t t' s _ _ ⟨.int (g i j),H,I.tok _,⟨_,rfl⟩,q⟩
theorem Ue {f:Value->Value->Sem Value}{g:Int->Int->Bool}
  (rule:∀ (i j:Int) (t u:Tok) (s:Shared) (Q:Value->Shared->Prop) (E:Value->Shared->Prop),Q (.bool (g i j)) s->wpAny (model X.prog X.w) X.A (f (.int i t) (.int j u)) Q E s) :
  EN X f (LH λi j=>.bl (g i j)):=by
 intro pins s σ H x y v u Q I rx ry h
 obtain ⟨i,j,rfl,rfl,q⟩:=h
 obtain ⟨t,rfl⟩:=rx
 obtain ⟨t',rfl⟩:=ry
 exact rule i j t t' s _ _ ⟨.bl (g i j),H,I,rfl,q⟩
noncomputable def zf (i j:Int):Prop:=0 < j/\j < 1073741824
noncomputable def zg (i j:Int):Prop:=0<=j/\j<=1000000/\i.natAbs < 2 ^ 64
noncomputable def Ug (i j:Int):Prop:=(-(2 ^ 64) < i/\i < 2 ^ 64)\/(-(2 ^ 64) < j/\j < 2 ^ 64)
theorem Ug.ok {i j:Int}(h:Ug i j):IntMulOk i j:=by
 rcases h with ⟨h1,h2⟩ | ⟨h1,h2⟩
 ·exact .of_left (intBits_le_64 h1 h2)
 ·exact .of_right (intBits_le_64 h1 h2)
theorem AW:EN X (binaryOp .Add) (LH λi j=>.int (i+j)):=nG λ_ _ _ _ _ _ _ q=>add_int q
theorem Bx:EN X (binaryOp .Sub) (LH λi j=>.int (i - j)):=nG λ_ _ _ _ _ _ _ q=>sub_int q
theorem Bh:EN X (binaryOp .Mult) (rI Ug λi j=>.int (i * j)):=xt λ_ _ _ _ _ _ _ hc q=>mul_int q hc.ok
theorem B9:EN X (binaryOp .FloorDiv) (rI zf λi j=>.int (i / j)):=xt λi j _ _ _ _ _ hc q=>by
 have h1:(0:Int) < j:=hc.1
 have h2:j < 1073741824:=hc.2
 exact floordiv_int () (by rw [Int.fdiv_eq_ediv_of_nonneg i ()];exact q) (.inl (PyProof.noPylong_small ()))
theorem AQ:EN X (binaryOp .Mod) (rI (λ_ j=>0 < j) λi j=>.int (i % j)):=xt λi j _ _ _ _ _ hc q=>by
 have h1:(0:Int) < j:=hc
 exact mod_int' () (by rw [Int.fmod_eq_emod_of_nonneg i ()];exact q)
theorem Qi:EN X (binaryOp .Pow) (rI zg λi j=>.int (i ^ j.toNat)):=xt λ_ _ _ _ _ _ _ hc q=>pow_int_small hc.1 hc.2.1 hc.2.2 q
theorem unI {f:Value->Sem Value}{g:Int->Int}
  (rule:∀ (i:Int) (t:Tok) (s:Shared) (Q:Value->Shared->Prop) (E:Value->Shared->Prop),Q (.int (g i) s.toks) { s with toks:=s.toks+1 }->wpAny (model X.prog X.w) X.A (f (.int i t)) Q E s) :
  xr X f (rU λi=>.int (g i)):=by
 intro pins s σ H x v Q I rx h
 obtain ⟨i,rfl,q⟩:=h
 obtain ⟨t,rfl⟩:=rx
 exact rule i t s _ _ ⟨.int (g i),H,I.tok _,⟨_,rfl⟩,q⟩
theorem JF:xr X (unaryOp .USub) (rU λi=>.int (-i)):=unI λ_ _ _ _ _ q=>neg_int q
end
noncomputable def Qj:V->V->Bool
 | .non,.non=>true | .non,.int _=>true | .int _,.non=>true | .non,.bl _=>true | .bl _,.non=>true | .non,.str _=>true | .str _,.non=>true
 | .int _,.int _=>true | .bl _,.bl _=>true | .str _,.str _=>true | .byt _,.byt _=>true
 | .int _,.str _=>true | .str _,.int _=>true | .bl _,.str _=>true | .str _,.bl _=>true
 | _,_=>false
noncomputable def rEq:R2:=λx y H Q=>Qj x y=true/\Q (.bl (decide (x=y))) H
noncomputable def rNe:R2:=λx y H Q=>Qj x y=true/\Q (.bl (!decide (x=y))) H
theorem MX {i j:Int}:decide (V.int i=V.int j)=(i==j):=by
 rw [Bool.eq_iff_iff]
 simp
theorem Qk {i j:Bool}:decide (V.bl i=V.bl j)=(i==j):=by
 rw [Bool.eq_iff_iff]
 simp
theorem MY {i j:Str}:decide (V.str i=V.str j)=(i==j):=by
 rw [Bool.eq_iff_iff]
 simp
theorem MZ {i j:Array UInt8}:decide (V.byt i=V.byt j)=(i.toList==j.toList):=by
 rw [Bool.eq_iff_iff]
 cases i
 cases j
 simp
section
variable {X:Cx}{a b c:Expr}{ta tb tc:TE}{pos:Pos}
theorem B6 {pins:List (Addr × Obj)}{σ:St}{H:Hp}{s:Shared}{Q:VK}{k k':Bool}(I:Inv X pins σ H s)(q:Q (.bl k) H)(e:k=k'):EP X pins σ Q (.bool k') s:=by
 subst e
 exact ⟨.bl k,H,I,rfl,q⟩
theorem AO:EN X (compareOp .Eq) rEq:=by
 intro pins s σ H x y v u Q I rx ry h
 obtain ⟨hs,q⟩:=h
 cases x with
 | non =>
  cases rx
  cases y with
  | non=>cases ry;exact PySem.EqNone.eq_none_none (B6 I q (by simp))
  | bl j=>cases ry;exact PySem.EqNone.eq_none_bool (B6 I q (by simp))
  | int j=>obtain ⟨t',rfl⟩:=ry;exact PySem.EqNone.eq_none_int (B6 I q (by simp))
  | str j=>obtain ⟨t',rfl⟩:=ry;exact PySem.EqNone.eq_none_str (B6 I q (by simp))
  | _=>exact absurd (show false=true from hs) Bool.false_ne_true
 | bl i =>
  cases rx
  cases y with
  | non=>cases ry;exact PySem.EqNone.eq_bool_none (B6 I q (by simp))
  | bl j=>cases ry;exact eq_bool (B6 I q Qk)
  | str j=>obtain ⟨t',rfl⟩:=ry;exact PySem.EqMixed.eq_bool_str (B6 I q (by simp))
  | _=>exact absurd (show false=true from hs) Bool.false_ne_true
 | int i =>
  obtain ⟨t,rfl⟩:=rx
  cases y with
  | non=>cases ry;exact PySem.EqNone.eq_int_none (B6 I q (by simp))
  | int j=>obtain ⟨t',rfl⟩:=ry;exact eq_int (B6 I q MX)
  | str j=>obtain ⟨t',rfl⟩:=ry;exact PySem.EqMixed.eq_int_str (B6 I q (by simp))
  | _=>exact absurd (show false=true from hs) Bool.false_ne_true
 | str i =>
  obtain ⟨t,rfl⟩:=rx
  cases y with
  | non=>cases ry;exact PySem.EqNone.eq_str_none (B6 I q (by simp))
  | bl j=>cases ry;exact PySem.EqMixed.eq_str_bool (B6 I q (by simp))
  | int j=>obtain ⟨t',rfl⟩:=ry;exact PySem.EqMixed.eq_str_int (B6 I q (by simp))
  | str j=>obtain ⟨t',rfl⟩:=ry;exact eq_str (B6 I q MY)
  | _=>exact absurd (show false=true from hs) Bool.false_ne_true
 | byt i =>
  obtain ⟨t,rfl⟩:=rx
  cases y with
  | byt j=>obtain ⟨t',rfl⟩:=ry;exact W.eq_bytes (B6 I q MZ)
  | _=>exact absurd (show false=true from hs) Bool.false_ne_true
 | _=>cases y <;> exact absurd (show false=true from hs) Bool.false_ne_true
theorem N0:EN X (compareOp .NotEq) rNe:=by
 intro pins s σ H x y v u Q I rx ry h
 obtain ⟨hs,q⟩:=h
 cases x with
 | non =>
  cases rx
  cases y with
  | non=>cases ry;exact PySem.EqNone.ne_none_none (B6 I q (by simp))
  | bl j=>cases ry;exact PySem.EqNone.ne_none_bool (B6 I q (by simp))
  | int j=>obtain ⟨t',rfl⟩:=ry;exact PySem.EqNone.ne_none_int (B6 I q (by simp))
  | str j=>obtain ⟨t',rfl⟩:=ry;exact PySem.EqNone.ne_none_str (B6 I q (by simp))
  | _=>exact absurd (show false=true from hs) Bool.false_ne_true
 | bl i =>
  cases rx
  cases y with
  | non=>cases ry;exact PySem.EqNone.ne_bool_none (B6 I q (by simp))
  | bl j=>cases ry;exact ne_bool (B6 I q (congrArg not Qk))
  | str j=>obtain ⟨t',rfl⟩:=ry;exact PySem.EqMixed.ne_bool_str (B6 I q (by simp))
  | _=>exact absurd (show false=true from hs) Bool.false_ne_true
 | int i =>
  obtain ⟨t,rfl⟩:=rx
  cases y with
  | non=>cases ry;exact PySem.EqNone.ne_int_none (B6 I q (by simp))
  | int j=>obtain ⟨t',rfl⟩:=ry;exact ne_int (B6 I q (congrArg not MX))
  | str j=>obtain ⟨t',rfl⟩:=ry;exact PySem.EqMixed.ne_int_str (B6 I q (by simp))
  | _=>exact absurd (show false=true from hs) Bool.false_ne_true
 | str i =>
  obtain ⟨t,rfl⟩:=rx
  cases y with
  | non=>cases ry;exact PySem.EqNone.ne_str_none (B6 I q (by simp))
  | bl j=>cases ry;exact PySem.EqMixed.ne_str_bool (B6 I q (by simp))
  | int j=>obtain ⟨t',rfl⟩:=ry;exact PySem.EqMixed.ne_str_int (B6 I q (by simp))
  | str j=>obtain ⟨t',rfl⟩:=ry;exact ne_str (B6 I q (congrArg not MY))
  | _=>exact absurd (show false=true from hs) Bool.false_ne_true
 | byt i =>
  obtain ⟨t,rfl⟩:=rx
  cases y with
  | byt j=>obtain ⟨t',rfl⟩:=ry;exact W.ne_bytes (B6 I q (congrArg not MZ))
  | _=>exact absurd (show false=true from hs) Bool.false_ne_true
 | _=>cases y <;> exact absurd (show false=true from hs) Bool.false_ne_true
theorem DD:EN X (compareOp .Lt) (LH λi j=>.bl (decide (i < j))):=Ue λ_ _ _ _ _ _ _ q=>lt_int q
theorem nJ:EN X (compareOp .LtE) (LH λi j=>.bl (decide (i<=j))):=Ue λ_ _ _ _ _ _ _ q=>le_int q
theorem N1:EN X (compareOp .Gt) (LH λi j=>.bl (decide (j < i))):=Ue λ_ _ _ _ _ _ _ q=>gt_int q
theorem Xg:EN X (compareOp .GtE) (LH λi j=>.bl (decide (j<=i))):=Ue λ_ _ _ _ _ _ _ q=>ge_int q
theorem LI:EN X (compareOp .Is) (λx y H Q=>y=.non/\Q (.bl (decide (x=.non))) H):=by
 intro pins s σ H x y v u Q I rx ry h
 obtain ⟨rfl,q⟩:=h
 cases ry
 refine is_none_gen (B6 I q ?_)
 cases x <;> first
  | (cases rx;rfl)
  | (obtain ⟨t,rfl⟩:=rx;rfl)
theorem Uh:EN X (compareOp .IsNot) (λx y H Q=>y=.non/\Q (.bl (!decide (x=.non))) H):=by
 intro pins s σ H x y v u Q I rx ry h
 obtain ⟨rfl,q⟩:=h
 cases ry
 refine isnot_none_gen (B6 I q ?_)
 cases x <;> first
  | (cases rx;rfl)
  | (obtain ⟨t,rfl⟩:=rx;rfl)
theorem EN.or {f:Value->Value->Sem Value}{r r':R2}(h:EN X f r)(h':EN X f r'):EN X f (λx y H Q=>r x y H Q\/r' x y H Q):=by
 intro pins s σ H x y v u Q I rx ry q
 rcases q with q | q
 ·exact h pins s σ H x y v u Q I rx ry q
 ·exact h' pins s σ H x y v u Q I rx ry q
theorem Ak (b:Expr){op:CmpOp}(h:op≠.In:=by decide)(h2:op≠.NotIn:=by decide):behindInMarks op b=false:=by
 have e1:(op==CmpOp.In)=false:=by cases op <;> first | rfl | exact absurd rfl h
 have e2:(op==CmpOp.NotIn)=false:=by cases op <;> first | rfl | exact absurd rfl h2
 cases b <;> simp [behindInMarks,e1,e2]
theorem Ui {op:CmpOp}{r:R2}(ho:EN X (compareOp op) r)(ha:PE X a ta)(hb:PE X b tb)(hm:behindInMarks op b=false):PE X (.Compare a [op] [b] pos) (Ft r ta tb):=by
 intro pins s σ H Q I h
 exact wpAny_Compare1 (Zu ha hb I h λv u s2 x y H2 I2 rx ry q=>ho pins s2 σ H2 x y v u Q I2 rx ry q) hm
noncomputable def J1 (t:TE):TT:=fun σ H Q=>t σ H λx H'=>lM Q x H'
theorem Uj {op:CmpOp}{r:R2}(ho:EN X (compareOp op) r)(ha:PE X a ta)(hb:PE X b tb)(hm:behindInMarks op b=false):PT X (.Compare a [op] [b] pos) (J1 (Ft r ta tb)):=by
 intro pins s σ H Q I h
 refine wpAny_isTrue_Compare1 (BA (ha pins s σ H _ I h) λv s1 ⟨x,H1,I1,r1,q1⟩=>BA (hb pins s1 σ H1 _ I1 q1) λu s2 ⟨y,H2,I2,r2,q2⟩ =>
  BA (ho pins s2 σ H2 x y v u _ I2 r1 r2 q2) λc s3 ⟨z,H3,I3,r3,k,e,q3⟩=>?_) hm
 subst e
 cases r3
 exact wpAny_truthy_bool ⟨H3,I3,q3⟩
noncomputable def Zv (K:W.Frag)(x:V)(H:Hp)(k:Bool):Prop :=
 match x with
 | .non=>k=false
 | .bl b=>k=b
 | .int i=>k=(i != 0)
 | .str y=>y.length<=sizeLine/\k=((y.length:Int) != 0)
 | .byt y=>y.size<=sizeLine/\k=((y.size:Int) != 0)
 | .ref p=>(∃ xs,AZ K H p xs/\k=!xs.isEmpty)\/(∃ xs,AJ K H p xs/\k=!xs.isEmpty)\/∃ AH,H p=some (.dK AH)/\k=!AH.isEmpty
 | _=>False
theorem LJ {κ:Type}{AH:List (κ × V)}{vs:List (κ × Value)}(r:KV AH vs):(!vs.isEmpty)=!AH.isEmpty:=by
 cases r <;> rfl
theorem HI {xs:List V}{its:List Value}(r:Vals xs its):(!its.toArray.isEmpty)=!xs.isEmpty:=by
 cases r <;> simp
theorem JG:(sizeLine:Nat) < 2 ^ 63:=by rw [sizeLine_eq];decide
theorem Zw:zd X (λx H Q=>∃ k,Zv X.K x H k/\Q k H):=by
 intro pins s σ H x v Q I rx h
 obtain ⟨k,e,q⟩:=h
 have hl:=JG
 have hs:sizeLine=16777216:=sizeLine_eq
 cases x with
 | non =>
  cases rx
  have e':k=false:=e
  subst e'
  exact truthy_none ⟨H,I,q⟩
 | bl b =>
  cases rx
  have e':k=b:=e
  subst e'
  exact wpAny_truthy_bool ⟨H,I,q⟩
 | int i =>
  obtain ⟨t,rfl⟩:=rx
  have e':k=(i != 0):=e
  subst e'
  exact PySem.P.truthy_int ⟨H,I,q⟩
 | str y =>
  obtain ⟨t,rfl⟩:=rx
  obtain ⟨hy,e'⟩:y.length<=sizeLine/\k=((y.length:Int) != 0):=e
  subst e'
  exact PySem.P.truthy_str () ⟨H,I.tok _,q⟩
 | byt y =>
  obtain ⟨t,rfl⟩:=rx
  obtain ⟨hy,e'⟩:y.size<=sizeLine/\k=((y.size:Int) != 0):=e
  subst e'
  exact W.truthy_bytes () ⟨H,I.tok _,q⟩
 | ref p =>
  cases rx
  have e':(∃ xs,AZ X.K H p xs/\k=!xs.isEmpty)\/(∃ xs,AJ X.K H p xs/\k=!xs.isEmpty)\/∃ AH,H p=some (.dK AH)/\k=!AH.isEmpty:=e
  rcases e' with ⟨xs,hx,e'⟩ | ⟨xs,hx,e'⟩ | ⟨AH,hx,e'⟩
  ·subst e'
   obtain ⟨its,r,pl,hz⟩:=I.list hx
   have hlen:=r.length
   exact wpAny_truthy_list pl.isList (by simp only [List.size_toArray];omega) ⟨H,I.tok _,by rw [HI r];exact q⟩
  ·subst e'
   obtain ⟨its,r,pl,hz⟩:=I.tuple hx
   have hlen:=r.length
   exact truthy_tuple pl (by simp only [List.size_toArray];omega) ⟨H,I.tok _,by rw [HI r];exact q⟩
  ·subst e'
   obtain ⟨hz,hS,vs,r,m⟩:AH.length<=sizeLine/\(p==sysModules)=false/\∃ vs,KV AH vs/\s.heap.DictOf (Bm X.prog X.w) p vs:=I.hok p _ hx
   have hlen:AH.length=vs.length:=Paired.length r
   exact wpAny_truthy_dict hS m () ⟨H,I.tok _,by rw [LJ r];exact q⟩
 | _=>exact (show False from e).elim
theorem Kf (ha:PE X a ta)(he:∀ whole,isTrue a X.env whole=(do let v <- whole;standAt a.pos;holding [v] (truthy v))):
  PT X a (fun σ H Q=>ta σ H λx H'=>∃ k,Zv X.K x H' k/\Q k H'):=by
 intro pins s σ H Q I h
 exact isTrue_plain (BA (ha pins s σ H _ I h) λv s1 ⟨x,H1,I1,r1,q1⟩=>Zw pins s1 σ H1 x v Q I1 r1 q1) (he _)
theorem vals1 {x:V}{us:List Value}(r:Vals [x] us):∃ u,us=[u]/\RelV x u:=by
 cases r with
 | cons r1 r2=>cases r2;exact ⟨_,rfl,r1⟩
theorem vals2 {x y:V}{us:List Value}(r:Vals [x,y] us):∃ u w',us=[u,w']/\RelV x u/\RelV y w':=by
 cases r with
 | cons r1 r2 =>
  cases r2 with
  | cons r3 r4=>cases r4;exact ⟨_,_,rfl,r1,r3⟩
theorem J2 (hc:X.calm=true):DO X (.builtin "max") (λxs H Q=>∃ i j,xs=[.int i,.int j]/\Q (.int (if j > i then j else i)) H):=by
 intro pins s σ H xs us Q I r h
 obtain ⟨i,j,rfl,q⟩:=h
 obtain ⟨u,w',rfl,⟨t,rfl⟩,⟨t',rfl⟩⟩:=vals2 r
 refine max_two_ints (I.ok.hd hc) λh' tk k=>⟨_,H,I.kept k,?_,q⟩
 by_cases hj:j > i
 ·rw [if_pos hj,if_pos hj];exact ⟨_,rfl⟩
 ·rw [if_neg hj,if_neg hj];exact ⟨_,rfl⟩
theorem Oc (hc:X.calm=true):DO X (.builtin "min") (λxs H Q=>∃ i j,xs=[.int i,.int j]/\Q (.int (if j < i then j else i)) H):=by
 intro pins s σ H xs us Q I r h
 obtain ⟨i,j,rfl,q⟩:=h
 obtain ⟨u,w',rfl,⟨t,rfl⟩,⟨t',rfl⟩⟩:=vals2 r
 refine min_two_ints (I.ok.hd hc) λh' tk k=>⟨_,H,I.kept k,?_,q⟩
 by_cases hj:j < i
 ·rw [if_pos hj,if_pos hj];exact ⟨_,rfl⟩
 ·rw [if_neg hj,if_neg hj];exact ⟨_,rfl⟩
theorem J3:DO X (.type "int") (λxs H Q=>(∃ i,xs=[.int i]/\Q (.int i) H)\/∃ k,xs=[.bl k]/\Q (.int (if k then 1 else 0)) H):=by
 intro pins s σ H xs us Q I r h
 rcases h with ⟨i,rfl,q⟩ | ⟨k,rfl,q⟩
 ·obtain ⟨u,rfl,t,rfl⟩:=vals1 r
  exact call_int_int ⟨.int i,H,I,⟨_,rfl⟩,q⟩
 ·obtain ⟨u,rfl,r1⟩:=vals1 r
  cases r1
  exact call_int_bool ⟨.int (if k then 1 else 0),H,I.tok _,⟨_,rfl⟩,q⟩
end
structure LK (h:Heap)(x dx C:Addr)(mA:Str->Option Value):Prop where
 obj:h.get? x=some (W.instObj C dx)
 ns:h.Ns1 dx mA
 ne:dx≠x
theorem Od {h:Heap}{dx:Addr}{mA:Str->Option Value}(n:h.Ns1 dx mA):∃ od,h.get? dx=some od/\∀ name,W.lookIn name od=some (mA name):=by
 obtain ⟨o,es,ep,ho,hd,hk,_,hm⟩:=n
 refine ⟨o,ho,λname=>?_⟩
 have e:=hm name
 unfold nsFind findBy at e
 rw [<- Array.find?_toList] at e
 unfold W.lookIn
 rw [hd]
 dsimp only
 split
 ·rename_i y q
  rw [q] at e
  exact congrArg some e
 ·rename_i q
  rw [q] at e
  have a:es.toList.any (·.refKey)=false:=by
   rw [List.any_eq_false]
   intro y hy
   obtain ⟨z,t,Uk⟩:=hk y (Array.mem_toList_iff.mp hy)
   simp [DictEntry.refKey,Uk]
  have a':¬ es.toList.any (·.refKey)=true:=by rw [a];exact Bool.false_ne_true
  rw [if_neg a']
  exact congrArg some e
theorem LK.look {h:Heap}{x dx C:Addr}{mA:Str->Option Value}(I:LK h x dx C mA):∃ od,W.InstAt h x (W.instObj C dx) C (some od)/\∀ name,W.lookIn name od=some (mA name) :=
 let ⟨od,ho,hl⟩:=Od I.ns
 ⟨od,⟨I.obj,rfl,rfl,ho⟩,hl⟩
section
variable {prog:Program}{w:World}{A:Around}{E:Value->Shared->Prop}{s:Shared}{K:W.Frag}{x dx C f:Addr}{mA:Str->Option Value}{name:Str}{v:Value}
theorem get_map {expr:Bool}{Q:Value->Shared->Prop}(X:K.In s.heap)(I:LK s.heap x dx C mA)(hg:W.plainGet K C name=true)(hh:W.hasDictIn K C=true)
  (ha:W.findIn K (.ref C) name=some none) (hv:mA name=some v) (Ul:W.handedIn v=true) (h:Q v { s with toks:=s.toks+1 }) :
  wpAny (model prog w) A (getAttr (.ref x) name expr) Q E s:=by
 obtain ⟨od,J,hl⟩:=I.look
 exact W.get_value X J (W.plainGet_of hg).1 (W.findObj_own hh ha rfl (by rw [hl,hv])) Ul h
theorem Ql {pl:Sem Bool}{Q:Value × List Value->Shared->Prop}(X:K.In s.heap)(I:LK s.heap x dx C mA)(hg:W.plainGet K C name=true)
  (hf:W.findIn K (.ref C) name=some (some (.ref f))) (ht:W.isFn K (.ref f)=true) (hv:mA name=none) (h:Q (.ref f,[.ref x]) s) :
  wpAny (model prog w) A (getMethod (.ref x) name pl) Q E s:=by
 obtain ⟨od,J,hl⟩:=I.look
 exact W.method_fn X J (W.plainGet_of hg).1 (W.plainGet_of hg).2 hf (beq_iff_eq.mp ht) (by show (W.lookIn name od).map (·.isSome)=some false;rw [hl,hv];rfl) h
theorem Um {ns:List Str}{Q:Unit->Shared->Prop}(X:K.In s.heap)(I:LK s.heap x dx C mA)
  (hs:W.findIn K (.ref C) "__setattr__"=some (some (.builtin "object.__setattr__"))) (hp:W.plainOver K C=true) (ht:W.takerIn K C name=some none) (hh:W.hasDictIn K C=true)
  (hw:PySem.Within mA ns) (hsz:ns.length<=sizeLine)
  (h:∀ h',LK h' x dx C (λy=>if y=name then some v else mA y)->Heap.SameBut dx s.heap h'->Q .unit { s with heap:=h',toks:=s.toks+2 }) :
  wpAny (model prog w) A (setAttr (.ref x) name v) Q E s:=by
 obtain ⟨od,J,hl⟩:=I.look
 refine W.set_plain X J hs (W.osa_open (s:={ s with toks:=s.toks+1 }) (r:=none) X J hp ht λb=>?_)
 obtain ⟨cd,hc,PL⟩:=W.any_some hh
 have hx:s.heap.get? x=some ⟨.ref C,some dx,.plain,#[]⟩:=I.obj
 refine wpAny_bind (wpAny_pure (wpAny_bind (wpAny_bind (wpAny_loadPart hx (wpAny_bind (W.Looks.here (s:={ s with toks:=s.toks+1 }) (W.looks_clsIn X hc) ?_))))))
 rw [PL]
 refine wpAny_pure (a:=some dx) (wpAny_bind (wpAny_pure (wpAny_bind ?_)))
 refine wpAny_nsSet1 (s:={ s with toks:=s.toks+1 }) I.ns λh' lO Qh=>?_
 obtain ⟨oD,esD,epD,hoD,hdD,hcD⟩:=lO.count (PySem.Within.cons name v hw)
 refine wpAny_bind (wpAny_lookBehind hoD (by rw [hdD];exact pastItsLine_dict (Nat.le_trans hcD (by rw [List.length_cons];omega))) ?_)
 exact wpAny_pure (h _ ⟨(Qh.2 _ (Ne.symm I.ne)).trans I.obj,lO,I.ne⟩ Qh)
theorem Qm {R:Result->Shared->Prop}{vs:List Value}{kw:List (Str × Value)}(X:K.In s.heap)(hm:W.makesIn K C=true)
  (hi:W.findIn K (.ref C) "__init__"=some (some (.ref f))) (hf:W.typeIn K (.ref f)=some (.type "function"))
  (h:codeAny (model prog w) (A.under (.builtin "type.__call__" ⟨.ref C::vs,kw⟩)) (.call (.ref f) ⟨.ref (s.heap.objs.size+1)::vs,kw⟩) (W.InitBack (s.heap.objs.size+1) R)
   { s with heap:=(s.heap.push W.emptyDict).push (W.instObj C s.heap.objs.size) }) :
  codeAny (model prog w) A (.call (.ref C) ⟨vs,kw⟩) R s:=by
 obtain ⟨hh,g,d,t,os⟩:=s
 exact W.make_core (W.makes_of X hm) (W.looks_findIn X hi) (λself=>W.bind_fn X self hf) (.inl rfl) h
end
noncomputable def Ci (f:Str)(v:V):List (Str × V)->List (Str × V)
 | []=>[(f,v)]
 | (g,x)::r=>if g=f then (g,v)::r else (g,x)::Ci f v r
theorem Hb (f g:Str)(v:V):∀ fs:List (Str × V),(Ci f v fs).lookup g=if g=f then some v else fs.lookup g
 | []=>by
  show List.lookup g [(f,v)]=_
  by_cases h:g=f
  ·have hb:(g==f)=true:=beq_iff_eq.mpr h
   simp only [List.lookup,hb,if_pos h]
  ·have hb:(g==f)=false:=beq_eq_false_iff_ne.mpr h
   simp only [List.lookup,hb,if_neg h]
 | (k,x)::r=>by
  have ih:=Hb f g v r
  rw [show Ci f v ((k,x)::r)=(if k=f then (k,v)::r else (k,x)::Ci f v r) from rfl]
  by_cases hk:k=f
  ·rw [if_pos hk]
   by_cases h:g=k
   ·have hb:(g==k)=true:=beq_iff_eq.mpr h
    simp only [List.lookup,hb,if_pos (h.trans hk)]
   ·have hb:(g==k)=false:=beq_eq_false_iff_ne.mpr h
    simp only [List.lookup,hb,if_neg (λe:g=f=>h (e.trans hk.symm))]
  ·rw [if_neg hk]
   by_cases h:g=k
   ·have hb:(g==k)=true:=beq_iff_eq.mpr h
    simp only [List.lookup,hb,if_neg (λe:g=f=>hk (h.symm.trans e))]
   ·have hb:(g==k)=false:=beq_eq_false_iff_ne.mpr h
    simp only [List.lookup,hb]
    exact ih
theorem GC (f:Str)(v:V):∀ fs:List (Str × V),f∈(Ci f v fs).map (·.1)/\∀ g,g∈fs.map (·.1)->g∈(Ci f v fs).map (·.1)
 | []=>⟨by simp [Ci],λg h=>by simp at h⟩
 | (k,x)::r=>by
  obtain ⟨i1,i2⟩:=GC f v r
  rw [show Ci f v ((k,x)::r)=(if k=f then (k,v)::r else (k,x)::Ci f v r) from rfl]
  by_cases hk:k=f
  ·rw [if_pos hk]
   subst hk
   exact ⟨by simp,λg h=>by simpa using h⟩
  ·rw [if_neg hk]
   refine ⟨?_,λg h=>?_⟩
   ·rw [List.map_cons]
    exact List.mem_cons_of_mem _ i1
   ·rw [List.map_cons] at h ⊢
    rcases List.mem_cons.mp h with e | e
    ·exact List.mem_cons.mpr (.inl e)
    ·exact List.mem_cons_of_mem _ (i2 g e)
theorem Hc (f:Str)(v:V):∀ fs:List (Str × V),(Ci f v fs).length<=fs.length+1
 | []=>by simp [Ci]
 | (k,x)::r=>by
  have ih:=Hc f v r
  rw [show Ci f v ((k,x)::r)=(if k=f then (k,v)::r else (k,x)::Ci f v r) from rfl]
  by_cases hk:k=f
  ·rw [if_pos hk,List.length_cons,List.length_cons];omega
  ·rw [if_neg hk,List.length_cons,List.length_cons];omega
theorem ET.some_of {v:V}{o:Option Value}(r:ET (some v) o):∃ u,o=some u/\RelV v u:=by
 cases o with
 | none=>exact (show False from r).elim
 | some u=>exact ⟨u,rfl,r⟩
theorem ET.none_of {o:Option Value}(r:ET none o):o=none:=by
 cases o with
 | none=>rfl
 | some u=>exact (show False from r).elim
theorem Oe {v:V}{u:Value}(r:RelV v u):W.handedIn u=true:=by
 cases v with
 | non=>cases (show u=Value.none from r);rfl
 | bl b=>cases (show u=Value.bool b from r);rfl
 | int i=>obtain ⟨t,e⟩:=(show ∃ t,u=Value.int i t from r);cases e;rfl
 | str x=>obtain ⟨t,e⟩:=(show ∃ t,u=Value.str x t from r);cases e;rfl
 | byt b=>obtain ⟨t,e⟩:=(show ∃ t,u=Value.bytes b t from r);cases e;rfl
 | flt b=>obtain ⟨t,e⟩:=(show ∃ t,u=Value.float b t from r);cases e;rfl
 | ref a=>cases (show u=Value.ref a from r);rfl
 | ty n=>cases (show u=Value.type n from r);rfl
section
variable {P:Program}{w:World}{H H':Hp}{h h':Heap}{a C dx:Addr}{fs IB:List (Str × V)}
theorem Ht (hok:E8 P w H h)(e:H a=some (.ins C dx fs)):∃ mA,LK h a dx C mA/\(∀ f,ET (fs.lookup f) (mA f))/\PySem.Within mA (fs.map (·.1))/\fs.length<=1000/\H dx=some (.own a):=by
 obtain ⟨d,z,ne,ob,mA,n,r,q⟩:=(show Bk P w H h a (.ins C dx fs) from hok a _ e)
 exact ⟨mA,⟨ob,n,ne⟩,r,q,z,d⟩
end
structure IC (K:W.Frag)(C:Addr):Prop where
 pg:W.plainGet K C Str.empty=true
 hd:W.hasDictIn K C=true
 po:W.plainOver K C=true
 sa:W.findIn K (.ref C) "__setattr__"=some (some (.builtin "object.__setattr__"))
theorem IC.get {K:W.Frag}{C:Addr}(c:IC K C)(f:Str):W.plainGet K C f=true:=c.pg
noncomputable def Ct (K:W.Frag)(C:Addr)(f:Str):Prop:=W.findIn K (.ref C) f=some none
theorem Ct.taker {K:W.Frag}{C:Addr}{f:Str}(n:Ct K C f):W.takerIn K C f=some none:=by
 unfold W.takerIn
 rw [show W.findIn K (.ref C) f=some none from n]
 rfl
structure Meth (K:W.Frag)(C:Addr)(m:Str)(f:Addr):Prop where
 at_:W.findIn K (.ref C) m=some (some (.ref f))
 fn:W.isFn K (.ref f)=true
 kp:W.keepIn K (.ref f)=true
section
variable {X:Cx}{pins:List (Addr × Obj)}{σ:St}{H:Hp}{s:Shared}{a C dx:Addr}{fs:List (Str × V)}{f:Str}{v:V}{A:Around}{E:Value->Shared->Prop}
theorem HJ {b:Bool}{Q:Value->Shared->Prop}(I:Inv X pins σ H s)(e:H a=some (.ins C dx fs))(c:IC X.K C)(n:Ct X.K C f)(l:fs.lookup f=some v)
  (h:∀ u s',Inv X pins σ H s'->RelV v u->Q u s'):wpAny (model X.prog X.w) A (getAttr (.ref a) f b) Q E s:=by
 obtain ⟨mA,O,r,_,_,_⟩:=Ht I.hok e
 obtain ⟨u,hu,ru⟩:=ET.some_of (v:=v) (o:=mA f) (by rw [<- l];exact r f)
 exact get_map I.kIn O (c.get f) c.hd n hu (Oe ru) (h u _ (I.tok _) ru)
theorem FE {m:Str}{g:Addr}{pl:Sem Bool}{Q:Value × List Value->Shared->Prop}(I:Inv X pins σ H s)(e:H a=some (.ins C dx fs))(c:IC X.K C)(k:Meth X.K C m g)(l:fs.lookup m=none)
  (h:Q (.ref g,[.ref a]) s):wpAny (model X.prog X.w) A (getMethod (.ref a) m pl) Q E s:=by
 obtain ⟨mA,O,r,_,_,_⟩:=Ht I.hok e
 have hn:mA m=none:=ET.none_of (by rw [<- l];exact r m)
 exact Ql I.kIn O (c.get m) k.at_ k.fn hn h
theorem HK {y:V}{u:Value}{Q:Unit->Shared->Prop}(I:Inv X pins σ H s)(e:H a=some (.ins C dx fs))(c:IC X.K C)(n:Ct X.K C f)(hl:fs.length < 1000)(ry:RelV y u)
  (h:∀ s',Inv X pins σ (upd H a (.ins C dx (Ci f y fs))) s'->Q .unit s'):wpAny (model X.prog X.w) A (setAttr (.ref a) f u) Q E s:=by
 obtain ⟨mA,O,r,wi,_,ho⟩:=Ht I.hok e
 have hz:(fs.map (·.1)).length<=sizeLine:=by rw [List.length_map,sizeLine_eq];omega
 refine Um I.kIn O c.sa c.po n.taker c.hd wi hz λh' O' sb=>h _ ?_
 have hd:∃ o,h'.get? dx=some o:=let ⟨o,_,_,e',_⟩:=O'.ns;⟨o,e'⟩
 refine I.write (x:=a) (e:=dx) (by rw [e];exact True.intro) (.inr ho) (λb q hb z=>(sb.2 b hb).trans z) hd ?_
 refine ⟨by rw [Aq O.ne];exact ho,?_,O.ne,O'.obj,_,O'.ns,λg=>?_,λg hg=>?_⟩
 ·have:=Hc f y fs;omega
 ·show ET ((Ci f y fs).lookup g) (if g=f then some u else mA g)
  rw [Hb]
  by_cases q:g=f
  ·rw [if_pos q,if_pos q];exact ry
  ·rw [if_neg q,if_neg q];exact r g
 ·by_cases q:g=f
  ·rw [q];exact (GC f y fs).1
  ·refine (GC f y fs).2 g (wi g λz=>hg ?_)
   show (if g=f then some u else mA g)=none
   rw [if_neg q];exact z
theorem Inv.made (I:Inv X pins σ H s):Inv X pins σ (upd (upd H s.heap.objs.size (.own (s.heap.objs.size+1))) (s.heap.objs.size+1) (.ins C s.heap.objs.size []))
  { s with heap:=(s.heap.push W.emptyDict).push (W.instObj C s.heap.objs.size) }:=by
 have e1:(s.heap.push W.emptyDict).get? s.heap.objs.size=some W.emptyDict:=Heap.get?_push_size s.heap rfl
 have e2:((s.heap.push W.emptyDict).push (W.instObj C s.heap.objs.size)).get? (s.heap.objs.size+1)=some (W.instObj C s.heap.objs.size):=by
  have:=Heap.get?_push_size (s.heap.push W.emptyDict) (o:=W.instObj C s.heap.objs.size) rfl
  rwa [Heap.size_push] at this
 have e3:(s.heap.push W.emptyDict).Ns s.heap.objs.size (λ_=>none):=⟨W.emptyDict,#[],_,e1,rfl,(λe he=>absurd he (by simp)),λ_=>rfl⟩
 have I1:=I.laid (a:=s.heap.objs.size) (o:=.own (s.heap.objs.size+1)) (h':=s.heap.push W.emptyDict) (t':=s.toks) (λb u q=>Heap.get?_push_of_some _ q) (Nat.le_refl _) ⟨_,e1⟩
 refine I1.laid (a:=s.heap.objs.size+1) (o:=.ins C s.heap.objs.size []) (t':=s.toks) (λb u q=>Heap.get?_push_of_some _ q) (Nat.le_of_eq (Heap.size_push _ _)) ?_
 have ne:s.heap.objs.size≠s.heap.objs.size+1:=Nat.ne_of_lt (Nat.lt_succ_self _)
 refine ⟨by rw [Aq ne,Ap],Nat.zero_le _,ne,e2,λ_=>none,(Heap.Ns1.of_empty e3).at λo q=>Heap.get?_push_of_some _ q,λ_=>True.intro,λy hy=>absurd rfl hy⟩
theorem Uo {prog:Program}{w:World}{env:Env}{e:Expr}{f:Str}{pos:Pos}{s:Shared}{Q:Value->Shared->Prop}(hb:attributeBase e f env (eval e env)=eval e env)
  (h:wpAny (model prog w) A (eval e env) (λo s₁=>wpAny (model prog w) A (getAttr o f true) Q E s₁) E s):wpAny (model prog w) A (eval (.Attribute e f pos) env) Q E s :=
 Attribute_any_ h (by rw [arm_eval_Attribute,hb])
end
inductive Qn (K:W.Frag)(f:Str)(Q:VK)(x:V)(H1:Hp):Prop
 | mk (a:_) (C:_) (dx:_) (fs:_) (v:_) (h1:x=.ref a) (h2:H1 a=some (.ins C dx fs)) (h3:IC K C) (h4:Ct K C f) (h5:fs.lookup f=some v) (h6:Q v H1):Qn K f Q x H1
noncomputable def Zx (K:W.Frag)(ta:TE)(f:Str):TE:=fun σ H Q=>ta σ H λx H1=>Qn K f Q x H1
inductive N3 (K:W.Frag)(f:Str)(N:St->Hp->Prop)(σ:St)(y:V)(x:V)(H2:Hp):Prop
 | mk (a:_) (C:_) (dx:_) (fs:_) (h1:x=.ref a) (h2:H2 a=some (.ins C dx fs)) (h3:IC K C) (h4:Ct K C f) (h5:fs.length < 1000) (h6:N σ (upd H2 a (.ins C dx (Ci f y fs)))):N3 K f N σ y x H2
noncomputable def Up (K:W.Frag)(ta tv:TE)(f:Str):TS:=λD σ H=>tv σ H λy H1=>ta σ H1 λx H2=>N3 K f D.nx σ y x H2
noncomputable def Zy (X:Cx)(op:Operator)(left:V->V->Hp->VK->Prop):Prop :=
 ∀ (pins:List (Addr × Obj)) (s:Shared) (σ:St) (H:Hp) (x y:V) (u v:Value) (Q:VK),Inv X pins σ H s->RelV x u->RelV y v->left x y H Q->wpAny (model X.prog X.w) X.A (inplaceOp op u v) (EP X pins σ Q) X.xe s
noncomputable def Hu (K:W.Frag)(ta tv:TE)(left:V->V->Hp->VK->Prop)(f:Str):TS:=λD σ H=>ta σ H λx H1=>∃ a C dx fs v,x=.ref a/\H1 a=some (.ins C dx fs)/\IC K C/\Ct K C f/\fs.lookup f=some v /\
 tv σ H1 λy H2=>left v y H2 λz H3=>∃ Uq IB,H3 a=some (.ins C Uq IB)/\IB.length < 1000/\D.nx σ (upd H3 a (.ins C Uq (Ci f z IB)))
section
variable {X:Cx}{o e value:Expr}{f:Str}{pos pos' Ur:Pos}{ta tv:TE}
theorem Zz (he:PE X e ta)(hb:attributeBase e f X.env (eval e X.env)=eval e X.env):PE X (.Attribute e f pos) (Zx X.K ta f):=by
 intro pins s σ H Q I h
 refine Uo hb (BA (he pins s σ H _ I h) λu s1 ⟨x,H1,I1,rx,a,C,dx,fs,v,ex,ea,c,n,l,q⟩=>?_)
 subst ex
 obtain rfl:u=Value.ref a:=rx
 exact HJ I1 ea c n l λu' s2 I2 ru=>⟨v,H1,I2,ru,q⟩
theorem ZA (ha:PE X o ta)(hv:PE X value tv)(hs:swapsWith value (some (.Attribute o f pos')) pos.line X.env=pure false):PS X (.Assign [.Attribute o f pos'] value pos) (Up X.K ta tv f):=by
 intro pins s σ H D I h
 refine plainObj_wpAny_Assign_Attribute (BA (hv pins s σ H _ I h) λu s1 ⟨y,H1,I1,ry,q⟩=>BA (ha pins s1 σ H1 _ I1 q) λov s2 ⟨x,H2,I2,rx,a,C,dx,fs,ex,ea,c,n,l,q2⟩=>?_) hs
 subst ex
 obtain rfl:ov=Value.ref a:=rx
 exact HK I2 ea c n l ry λs3 I3=>⟨σ,_,I3,q2⟩
theorem Og {op:Operator}{left:V->V->Hp->VK->Prop}(ha:PE X o ta)(hv:PE X value tv)(zh:Zy X op left):PS X (.AugAssign (.Attribute o f Ur) op value pos) (Hu X.K ta tv left f):=by
 intro pins s σ H D I h
 refine wpAny_AugAssign_AttributeAny (BA (ha pins s σ H _ I h) λov s1 ⟨x,H1,I1,rx,a,C,dx,fs,v,ex,ea,c,n,l,q⟩=>?_)
 subst ex
 obtain rfl:ov=Value.ref a:=rx
 refine HJ I1 ea c n l λu s2 I2 ru=>BA (hv pins s2 σ H1 _ I2 q) λw3 s3 ⟨y,H2,I3,ry,q3⟩=>BA (zh pins s3 σ H2 v y u w3 _ I3 ru ry q3) λw4 s4 ⟨z,H3,I4,rz,Uq,IB,ea',l',q4⟩=>?_
 exact HK I4 ea' c n l' rz λs5 I5=>⟨σ,_,I5,q4⟩
noncomputable def zi:V->V->Hp->VK->Prop:=λx y H Q=>∃ i j,x=.int i/\y=.int j/\Q (.int (i+j)) H
theorem LL:Zy X .Add zi:=by
 rintro pins s σ H x y u v Q I rx ry ⟨i,j,rfl,rfl,q⟩
 obtain ⟨t,rfl⟩:=(show ∃ t,u=Value.int i t from rx)
 obtain ⟨t',rfl⟩:=(show ∃ t',v=Value.int j t' from ry)
 exact PyProof.Rows.iadd_int ⟨.int (i+j),H,I.tok _,⟨_,rfl⟩,q⟩
theorem Xh {pl:Sem Bool}{m:Str}{apos:Pos}{args:List Expr}{pins:List (Addr × Obj)}{s:Shared}{σ:St}{H:Hp}{Q:Value->Shared->Prop}{te:TE}(he:PE X e te)(I:Inv X pins σ H s)
  (h:te σ H λx H1=>∃ a C dx fs g,x=.ref a/\H1 a=some (.ins C dx fs)/\IC X.K C/\Meth X.K C m g/\fs.lookup m=none /\
   ∀ s1,Inv X pins σ H1 s1->wpAny (model X.prog X.w) X.A (callWith pos (.ref g) [.ref a] (backTo pos (starEach args X.env)) (backToKw pos (keywordEach [] X.env))) Q X.xe s1)
  (ht:eval (.Call (.Attribute e m apos) args [] pos) X.env=(do
   let ov <- eval e X.env
   standAt apos.atName
   let (f,first) <- holding [ov] (getMethod ov m pl)
   callWith pos f first (backTo pos (starEach args X.env)) (backToKw pos (keywordEach [] X.env)))) :
  wpAny (model X.prog X.w) X.A (eval (.Call (.Attribute e m apos) args [] pos) X.env) Q X.xe s:=by
 refine W.methodCall_KW (pl:=pl) (BA (he pins s σ H _ I h) λu s1 ⟨x,H1,I1,rx,a,C,dx,fs,g,ex,ea,c,k,l,q⟩=>?_) ht
 subst ex
 obtain rfl:u=Value.ref a:=rx
 exact FE I1 ea c k l (q s1 I1)
end
section
variable {X:Cx}{pins:List (Addr × Obj)}{σ:St}{H:Hp}{s:Shared}{A:Around}{E:Value->Shared->Prop}{Q:Value->Shared->Prop}{c:Value}{b:Bool}
inductive Ek (K:W.Frag)(H:Hp):V->Value->Prop where
 | non:Ek K H .non (.type "NoneType")
 | bl (x:Bool):Ek K H (.bl x) (.type "bool")
 | int (i:Int):Ek K H (.int i) (.type "int")
 | str (x:Str):Ek K H (.str x) (.type "str")
 | flt (x:UInt64):Ek K H (.flt x) (.type "float")
 | lst {a:Addr} {xs:List V} (e:H a=some (.lst xs)):Ek K H (.ref a) (.type "list")
 | frz {a:Addr} {o:Obj} {xs:List V} (e:H a=some (.frz o (.lst xs))):Ek K H (.ref a) (.type "list")
 | tup {a:Addr} {xs:List V} (e:H a=some (.tup xs)):Ek K H (.ref a) (.type "tuple")
 | dK {a:Addr} {AH:List (Key × V)} (e:H a=some (.dK AH)):Ek K H (.ref a) (.type "dict")
 | dT {a:Addr} {AH:List (List Key × V)} (e:H a=some (.dT AH)):Ek K H (.ref a) (.type "dict")
 | ins {a C dx:Addr} {fs:List (Str × V)} (e:H a=some (.ins C dx fs)) (cl:IC K C) (ha:W.findIn K (.ref C) "__class__"=some (some (.builtin "object.__class__")))
   (hn:W.specialIn K (.builtin "object.__class__") "__get__"=some (some (.builtin "getset_descriptor.__get__"))) (PN:W.takesIn K (.builtin "object.__class__")=some true)
   (hm:W.mroIn K C (.type "object")=some true):Ek K H (.ref a) (.ref C)
theorem Oh {x:V}{u t:Value}(I:Inv X pins σ H s)(rx:RelV x u)(ty:Ek X.K H x t)(e:W.kitOne X.K t c=some b)(h:∀ tk,Q (.bool b) { s with toks:=tk }):
  wpAny (model X.prog X.w) A (call (.builtin "isinstance") [u,c]) Q E s:=by
 cases ty with
 | non=>cases (show u=Value.none from rx);exact W.kia_one W.kitx_none I.kIn True.intro e (λz=>nomatch z) h
 | bl y=>cases (show u=Value.bool y from rx);exact W.kia_one W.kitx_bool I.kIn True.intro e (λz=>nomatch z) h
 | int i=>obtain ⟨t,q⟩:=(show ∃ t,u=Value.int i t from rx);cases q;exact W.kia_one W.kitx_int I.kIn True.intro e (λz=>nomatch z) h
 | str y=>obtain ⟨t,q⟩:=(show ∃ t,u=Value.str y t from rx);cases q;exact W.kia_one W.kitx_str I.kIn True.intro e (λz=>nomatch z) h
 | flt y=>obtain ⟨t,q⟩:=(show ∃ t,u=Value.float y t from rx);cases q;exact W.kia_one W.kitx_float I.kIn True.intro e (λz=>nomatch z) h
 | @lst a xs ea =>
  cases (show u=Value.ref a from rx)
  obtain ⟨_,_,n,_,h1⟩:=(show Bk X.prog X.w H s.heap a (.lst xs) from I.hok a _ ea)
  exact W.kia_one W.kitx_list I.kIn ⟨_,h1,rfl⟩ e (λz=>nomatch z) h
 | @frz a ob xs ea =>
  cases (show u=Value.ref a from rx)
  obtain ⟨_,_,_,n,_,h1⟩:=(show Bk X.prog X.w H s.heap a (.frz ob (.lst xs)) from I.hok a _ ea)
  exact W.kia_one W.kitx_list I.kIn ⟨_,h1,rfl⟩ e (λz=>nomatch z) h
 | @tup a xs ea =>
  cases (show u=Value.ref a from rx)
  obtain ⟨_,_,_,p⟩:=(show Bk X.prog X.w H s.heap a (.tup xs) from I.hok a _ ea)
  obtain ⟨o,h1,h2,_⟩:=p
  exact W.kia_one W.kitx_tuple I.kIn ⟨o,h1,h2⟩ e (λz=>nomatch z) h
 | @dK a AH ea =>
  cases (show u=Value.ref a from rx)
  obtain ⟨_,_,vs,_,p⟩:=(show Bk X.prog X.w H s.heap a (.dK AH) from I.hok a _ ea)
  obtain ⟨o,es,ep,h1,h2,_⟩:=p
  exact W.kia_one W.kitx_dict I.kIn ⟨o,h1,h2.1⟩ e (λz=>nomatch z) h
 | @dT a AH ea =>
  cases (show u=Value.ref a from rx)
  obtain ⟨_,_,xs,_,o,es,ep,h1,h2,_⟩:=(show Bk X.prog X.w H s.heap a (.dT AH) from I.hok a _ ea)
  exact W.kia_one W.kitx_dict I.kIn ⟨o,h1,h2.1⟩ e (λz=>nomatch z) h
 | @ins a C dx fs ea cl ha hn PN hm =>
  cases (show u=Value.ref a from rx)
  obtain ⟨mA,O,_⟩:=Ht I.hok ea
  obtain ⟨od,J,_⟩:=O.look
  exact W.kia_one (W.kitx_own (cl.get _) cl.hd ha hn PN hm) I.kIn J e (λz=>nomatch z) h
end
structure AY (k:Nat)(A:Around):Prop where
 hd:A.handled=none
 dp:A.depth+2 * k+5 < recursionLimit
 un:A.units+16 * k+200 < cLine
theorem AY.mono {j k:Nat}{A:Around}(r:AY k A)(h:j<=k):AY j A:=⟨r.hd,by have:=r.dp;omega,by have:=r.un;omega⟩
theorem AY.deeper {k:Nat}{A:Around}(r:AY (k+1) A)(env:Env):AY k (A.deeper env) :=
 ⟨r.hd,by have:=r.dp;show A.depth+1+2 * k+5 < _;omega,by have:=r.un;show A.units+3+16 * k+200 < _;omega⟩
theorem LM {A:Around}{C:Addr}{us:List Value}{kw:List (Str × Value)}:(A.under (.builtin "type.__call__" ⟨.ref C::us,kw⟩)).depth=A.depth+1:=by
 first | rfl | simp [Around.under,Code.weight,Code.isCreation,Code.isGuard,Code.isCaller,Code.frames,Code.isFrame,guardIds]
theorem LN {A:Around}{C:Addr}{us:List Value}{kw:List (Str × Value)}:(A.under (.builtin "type.__call__" ⟨.ref C::us,kw⟩)).units=A.units+1:=by
 first | rfl | simp [Around.under,Code.cUnits,Code.frames,Code.isFrame]
theorem AY.make {k:Nat}{A:Around}(r:AY (k+1) A)(C:Addr)(us:List Value)(kw:List (Str × Value)):AY k (A.under (.builtin "type.__call__" ⟨.ref C::us,kw⟩)) :=
 ⟨r.hd,by have:=r.dp;rw [LM];omega,by have:=r.un;rw [LN];omega⟩
theorem AY.depth {k:Nat}{A:Around}(r:AY k A):A.depth < recursionLimit:=by have:=r.dp;omega
theorem AY.units {k:Nat}{A:Around}(r:AY k A):A.units+64 < cLine:=by have:=r.un;omega
noncomputable def Ez:TA:=λ_ H Q=>Q [] H
noncomputable def BM (ta:TE)(tr:TA):TA:=fun σ H Q=>ta σ H λx H1=>tr σ H1 λxs H2=>Q (x::xs) H2
section
variable {X:Cx}{e:Expr}{es:List Expr}{te:TE}{t:TA}{pos:Pos}
theorem LO:PA X [] Ez:=λ_ _ _ _ H Q I h=>Calls.spliced_nil ⟨[],H,I,.nil,h⟩
theorem Hv (ha:PE X e te)(hr:PA X es t)(hs:starEach (e::es) X.env=(false,eval e X.env)::starEach es X.env:=by rfl):PA X (e::es) (BM te t):=by
 intro pos pins s σ H Q I h
 rw [hs]
 show wpAny _ _ (spliced ((false,eval e X.env)::backTo pos (starEach es X.env))) _ _ s
 refine Calls.spliced_cons (BA (ha pins s σ H _ I h) λu s1 ⟨x,H1,I1,r1,q1⟩=>?_)
 exact BA (hr pos pins s1 σ H1 _ I1 q1) λus s2 ⟨xs,H2,I2,r2,q2⟩=>⟨x::xs,H2,I2,.cons r1 r2,q2⟩
noncomputable def Us (t:TA):TE:=fun σ H Q=>t σ H λxs H1=>xs.length<=sizeLine/\∀ p,H1 p=none->Q (.ref p) (upd H1 p (.tup xs))
noncomputable def Ut (t:TA):TE:=fun σ H Q=>t σ H λxs H1=>xs.length<=sizeLine/\∀ p,H1 p=none->Q (.ref p) (upd H1 p (.lst xs))
theorem ZC {x1}(h:PA X es t):PE X (.Tuple es x1 pos) (Us t):=by
 intro pins s σ H Q I hq
 refine wpAny_Tuple_spliced (BA (h pos pins s σ H _ I hq) λus s1 ⟨xs,H1,I1,r,z,q⟩=>⟨by rw [<- r.length];exact z,?_⟩)
 have hf:H1 s1.heap.objs.size=none:=I1.hok.fresh (Nat.le_refl _)
 refine ⟨.ref s1.heap.objs.size,upd H1 s1.heap.objs.size (.tup xs),I1.laid (t':=s1.toks) (λb u e=>Heap.get?_push_of_some _ e) (Nat.le_refl _) ?_,rfl,q _ hf⟩
 exact ⟨z,us,r,⟨_,Heap.get?_push_size _ rfl,rfl,_,rfl⟩⟩
theorem ZD (h:PA X es t):PE X (.List es pos) (Ut t):=by
 intro pins s σ H Q I hq
 refine wpAny_List_spliced (BA (h pos pins s σ H _ I hq) λus s1 ⟨xs,H1,I1,r,z,q⟩=>⟨by rw [<- r.length];exact z,?_⟩)
 have hf:H1 s1.heap.objs.size=none:=I1.hok.fresh (Nat.le_refl _)
 refine ⟨.ref s1.heap.objs.size,upd H1 s1.heap.objs.size (.lst xs),I1.laid (t':=s1.toks) (λb u e=>Heap.get?_push_of_some _ e) (Nat.le_refl _) ?_,rfl,q _ hf⟩
 exact ⟨z,us,0,r,Heap.get?_push_size _ rfl⟩
end
abbrev Sp:=List V->Hp->VK->XK->Prop
abbrev Kg:=List Env->Hp->Shared->XK->Value->Shared->Prop
structure LP (P:Program)(w:World)(K:W.Frag)(mg:Str->Option Value)(base:Heap)(A:Around)(outer:List Env)(s:Shared)(H:Hp):Prop where
 frames:A.frames=some outer
 mod:Mod K mg base
 bs:∀ b o,base.get? b=some o->s.heap.get? b=some o/\H b=none
 bsz:base.objs.size<=s.heap.objs.size
 funs:s.heap.FunFrames base outer
 frf:∀ b∈frs outer,H b=none
 hok:E8 P w H s.heap
 bare:AllBare s.gens
noncomputable def CE (outer:List Env)(P:Program)(w:World)(H:Hp)(s:Shared)(Q:VK)(u:Value)(s':Shared):Prop :=
 ∃ v H',s'.os=s.os/\AllBare s'.gens/\Un (frs outer) [] H H' s.heap s'.heap/\E8 P w H' s'.heap/\RelV v u/\Q v H'
noncomputable def CR (CX:Kg)(outer:List Env)(P:Program)(w:World)(H:Hp)(s:Shared)(Q:VK)(E:XK)(r:Result)(s':Shared):Prop :=
 match r with
 | .ok (.ret u)=>CE outer P w H s Q u s'
 | .ok _=>False
 | .error e=>CX outer H s E e s'
structure AI (P:Program)(w:World)(K:W.Frag)(mg:Str->Option Value)(base:Heap)(CX:Kg)(k:Nat)(f:Addr)(fd:FuncData)(ps:List Str)(sp:Sp):Prop where
 len:∀ vs H Q E,sp vs H Q E->vs.length=ps.length
 run:∀ (A:Around) (outer:List Env) (s:Shared) (H:Hp) (args:Args) (us:List Value) (vs:List V) (Q:VK) (E:XK),AY k A->LP P w K mg base A outer s H->BindsTo s fd args (ps.zip us)->Vals vs us->sp vs H Q E ->
  codeAny (model P w) A (.call (.ref f) args) (CR CX outer P w H s Q E) s
theorem AI.mono {P:Program}{w:World}{K:W.Frag}{mg:Str->Option Value}{base:Heap}{CX:Kg}{j k:Nat}{f:Addr}{fd:FuncData}{ps:List Str}{sp:Sp}(F:AI P w K mg base CX j f fd ps sp)(h:j<=k):
  AI P w K mg base CX k f fd ps sp:=⟨F.len,λA outer s H args us vs Q E hr=>F.run A outer s H args us vs Q E (hr.mono h)⟩
theorem LP.make {P:Program}{w:World}{K:W.Frag}{mg:Str->Option Value}{base:Heap}{A:Around}{outer:List Env}{s:Shared}{H:Hp}(e:LP P w K mg base A outer s H)(C:Addr)(us:List Value)(kw:List (Str × Value)):
  LP P w K mg base (A.under (.builtin "type.__call__" ⟨.ref C::us,kw⟩)) outer s H:=⟨by first | exact e.frames | (simpa [Around.under,Code.envs,Code.isFrame,pushEnvs] using e.frames),e.mod,e.bs,e.bsz,e.funs,e.frf,e.hok,e.bare⟩
section
variable {X:Cx}{pins:List (Addr × Obj)}{σ:St}{H:Hp}{s s':Shared}
theorem Inv.env0 (I:Inv X pins σ H s):LP X.prog X.w X.K X.mg X.base X.A X.stack s H :=
 ⟨I.ok.frames,I.ok.mod,I.bs,Nat.le_trans I.ok.bsz I.sz,I.stack,I.stkFree,I.hok,I.bare⟩
theorem Inv.after {Q:VK}{u:Value}(I:Inv X pins σ H s)(h:CE X.stack X.prog X.w H s Q u s'):EP X pins σ Q u s':=by
 obtain ⟨v,H',os,bare,un,hok,r,q⟩:=h
 obtain ⟨hh,g,d,t,ZE⟩:=s'
 obtain rfl:ZE=s.os:=os
 exact ⟨v,H',I.call (h':=hh) (g':=g) (d':=d) (t':=t) (ch:=[]) un hok bare (λb z=>absurd z (by simp)),r,q⟩
end
noncomputable def DW (sp:Sp)(dvs:List V)(E:XK)(t:TA):TE:=fun σ H Q=>t σ H λvs H1=>sp (vs++dvs) H1 Q E
inductive LQ (C:Addr)(m:Str)(sp:Sp)(dvs:List V)(E:XK)(t:TA)(σ:St)(Q:VK)(x:V)(H1:Hp):Prop
 | mk (a:_) (dx:_) (fs:_) (h1:x=.ref a) (h2:H1 a=some (.ins C dx fs)) (h3:fs.lookup m=none) (h4:t σ H1 λvs H2=>sp (x::(vs++dvs)) H2 Q E):LQ C m sp dvs E t σ Q x H1
noncomputable def G3 (C:Addr)(m:Str)(sp:Sp)(dvs:List V)(E:XK)(ta:TE)(t:TA):TE:=fun σ H Q=>ta σ H λx H1=>LQ C m sp dvs E t σ Q x H1
noncomputable def Qo (C:Addr)(sp:Sp)(dvs:List V)(E:XK)(t:TA):TE:=fun σ H Q=>t σ H λvs H1=>∀ x dx,H1 x=none->H1 dx=none->dx≠x ->
 sp (.ref x::(vs++dvs)) (upd (upd H1 dx (.own x)) x (.ins C dx [])) (λv H2=>v=.non/\Q (.ref x) H2) E
noncomputable def Binds (K:W.Frag)(fd:FuncData)(ps:List Str)(ds:List Value):Prop :=
 ∀ (s:Shared) (us:List Value),K.In s.heap->(us++ds).length=ps.length->BindsTo s fd ⟨us,[]⟩ (ps.zip (us++ds))
theorem Binds.all {K:W.Frag}{fd:FuncData}{ps:List Str}(h:∀ us:List Value,us.length=ps.length->bindArgs fd ⟨us,[]⟩=pure (ps.zip us)):Binds K fd ps []:=λs us _ hl=>by
 rw [List.append_nil] at hl ⊢
 exact .of_eq (h us hl)
noncomputable def Passes (CX:Kg)(X:Cx)(E:XK):Prop:=∀ (pins:List (Addr × Obj)) (σ:St) (H:Hp) (s:Shared) (e:Value) (s':Shared),Inv X pins σ H s->CX X.stack H s E e s'->X.xe e s'
section
variable {X:Cx}{CX:Kg}{k:Nat}{f C:Addr}{fd:FuncData}{ps:List Str}{sp:Sp}{dvs:List V}{ds:List Value}{E:XK}{x m:Str}{p pos apos:Pos}{e o:Expr}{es:List Expr}{ta:TE}{t:TA}
theorem FF {pins:List (Addr × Obj)}{σ:St}{H:Hp}{s:Shared}{Q:VK}{us:List Value}{vs:List V}(F:AI X.prog X.w X.K X.mg X.base CX k f fd ps sp)(hr:AY k X.A)(hb:Binds X.K fd ps ds)(hd:Vals dvs ds)(hx:Passes CX X E)
  (I:Inv X pins σ H s) (r:Vals vs us) (h:sp (vs++dvs) H Q E):wpAny (model X.prog X.w) X.A (call (.ref f) us) (EP X pins σ Q) X.xe s:=by
 have r2:Vals (vs++dvs) (us++ds):=r.append hd
 have hl:(us++ds).length=ps.length:=by rw [<- r2.length];exact F.len _ _ _ _ h
 refine wpAny_call (codeAny_mono (F.run X.A X.stack s H ⟨us,[]⟩ (us++ds) (vs++dvs) Q E hr I.env0 (hb s us I.kIn hl) r2 h) λr s' hq=>?_)
 cases r with
 | error e=>exact hx pins σ H s e s' I hq
 | ok fl =>
  cases fl with
  | ret u=>exact I.after hq
  | next=>exact False.elim hq
  | brk=>exact False.elim hq
  | cont=>exact False.elim hq
theorem JH (F:AI X.prog X.w X.K X.mg X.base CX k f fd ps sp)(hr:AY k X.A)(hg:Gl X x)(hm:X.mg x=some (.ref f))(hk:W.keepIn X.K (.ref f)=true)(hb:Binds X.K fd ps ds)(hd:Vals dvs ds)(hx:Passes CX X E)
  (ha:PA X (e::es) t) (E9:(x==("__debug__":Str))=false:=by decide) (he:starEach (e::es) X.env=(false,eval e X.env)::starEach es X.env:=by rfl) (Dc:(backTo pos (starEach es X.env)).any (·.1)=false:=by rfl) :
  PE X (.Call (.Name x p) (e::es) [] pos) (DW sp dvs E t):=by
 intro pins s σ H Q I h
 refine wpAny_Call_Name_kw (Fe I hg hm ?_ E9)
 refine W.callWith_K (h₀:=X.base) I.ok.mod.kin hk (BA (ha pos pins s σ H _ I h) λus s1 ⟨vs,H1,I1,r,q⟩=>⟨I1.kIn,?_⟩) he Dc
 exact FF F hr hb hd hx I1 r q
theorem N4 {pl:Sem Bool}(he:PE X o ta)(c:IC X.K C)(hm:Meth X.K C m f)(F:AI X.prog X.w X.K X.mg X.base CX k f fd ps sp)(hr:AY k X.A)(hb:Binds X.K fd ps ds)(hd:Vals dvs ds)(hx:Passes CX X E)(ha:PA X (e::es) t)
  (DM:starEach (e::es) X.env=(false,eval e X.env)::starEach es X.env:=by rfl) (Dc:(backTo pos (starEach es X.env)).any (·.1)=false:=by rfl)
  (ht:eval (.Call (.Attribute o m apos) (e::es) [] pos) X.env=(do
   let ov <- eval o X.env
   standAt apos.atName
   let (f,first) <- holding [ov] (getMethod ov m pl)
   callWith pos f first (backTo pos (starEach (e::es) X.env)) (backToKw pos (keywordEach [] X.env))):=by rfl) :
  PE X (.Call (.Attribute o m apos) (e::es) [] pos) (G3 C m sp dvs E ta t):=by
 intro pins s σ H Q I h
 refine W.methodCall_KW (pl:=pl) (BA (he pins s σ H _ I h) λu s1 ⟨x,H1,I1,rx,a,dx,fs,ex,ea,l,q⟩=>?_) ht
 subst ex
 obtain rfl:u=Value.ref a:=rx
 refine FE I1 ea c hm l ?_
 refine W.callWith_K (first:=[.ref a]) (h₀:=X.base) I.ok.mod.kin hm.kp (BA (ha pos pins s1 σ H1 _ I1 q) λus s2 ⟨vs,H2,I2,r,q2⟩=>⟨I2.kIn,?_⟩) DM Dc
 exact FF (us:=.ref a::us) (vs:=.ref a::vs) F hr hb hd hx I2 (.cons rfl r) q2
theorem Qp {pl:Sem Bool}(he:PE X o ta)(c:IC X.K C)(hm:Meth X.K C m f)(F:AI X.prog X.w X.K X.mg X.base CX k f fd ps sp)(hr:AY k X.A)(hb:Binds X.K fd ps ds)(hd:Vals dvs ds)(hx:Passes CX X E)
  (ht:eval (.Call (.Attribute o m apos) [] [] pos) X.env=(do
   let ov <- eval o X.env
   standAt apos.atName
   let (f,first) <- holding [ov] (getMethod ov m pl)
   callWith pos f first (backTo pos (starEach [] X.env)) (backToKw pos (keywordEach [] X.env))):=by rfl) :
  PE X (.Call (.Attribute o m apos) [] [] pos) (G3 C m sp dvs E ta Ez):=by
 intro pins s σ H Q I h
 refine W.methodCall_KW (pl:=pl) (BA (he pins s σ H _ I h) λu s1 ⟨x,H1,I1,rx,a,dx,fs,ex,ea,l,q⟩=>?_) ht
 subst ex
 obtain rfl:u=Value.ref a:=rx
 refine FE I1 ea c hm l ?_
 exact W.callWith_K0 (first:=[.ref a]) I1.kIn hm.kp (FF (us:=[.ref a]) (vs:=[.ref a]) F hr hb hd hx I1 (.cons rfl .nil) q)
structure Mk (K:W.Frag)(C f:Addr):Prop where
 makes:W.makesIn K C=true
 init:W.findIn K (.ref C) "__init__"=some (some (.ref f))
 fn:W.isFn K (.ref f)=true
 kp:W.keepIn K (.ref C)=true
theorem Qq {pins:List (Addr × Obj)}{σ:St}{H:Hp}{s:Shared}{Q:VK}{us:List Value}{vs:List V}(M:Mk X.K C f)(F:AI X.prog X.w X.K X.mg X.base CX k f fd ps sp)(hr:AY (k+1) X.A)(hb:Binds X.K fd ps ds)(hd:Vals dvs ds)
  (hx:Passes CX X E) (I:Inv X pins σ H s) (r:Vals vs us)
  (h:∀ x dx,H x=none->H dx=none->dx≠x->sp (.ref x::(vs++dvs)) (upd (upd H dx (.own x)) x (.ins C dx [])) (λv H2=>v=.non/\Q (.ref x) H2) E) :
  wpAny (model X.prog X.w) X.A (call (.ref C) us) (EP X pins σ Q) X.xe s:=by
 have hq:=h (s.heap.objs.size+1) s.heap.objs.size (I.hok.fresh (Nat.le_succ _)) (I.hok.fresh (Nat.le_refl _)) (Nat.ne_of_lt (Nat.lt_succ_self _))
 have I2:=Inv.made (C:=C) I
 have r2:Vals (V.ref (s.heap.objs.size+1)::(vs++dvs)) (Value.ref (s.heap.objs.size+1)::(us++ds)):=.cons rfl (r.append hd)
 have hl:(Value.ref (s.heap.objs.size+1)::us++ds).length=ps.length:=by
  have e:=r2.length
  rw [F.len _ _ _ _ hq] at e
  exact e.symm
 refine wpAny_call (Qm (f:=f) I.kIn M.makes M.init (beq_iff_eq.mp M.fn) (codeAny_mono (F.run _ X.stack _ _ ⟨Value.ref (s.heap.objs.size+1)::us,[]⟩ (Value.ref (s.heap.objs.size+1)::(us++ds)) _ _ E (hr.make C us [])
  (I2.env0.make C us []) (hb _ (Value.ref (s.heap.objs.size+1)::us) I2.kIn hl) r2 hq) λr s' nM=>?_))
 cases r with
 | error e=>exact hx pins σ _ _ e s' I2 nM
 | ok fl =>
  cases fl with
  | ret u =>
   obtain ⟨v,H',I3,rv,ev,q3⟩:=I2.after nM
   subst ev
   exact ⟨rv,⟨V.ref (s.heap.objs.size+1),H',I3,rfl,q3⟩⟩
  | next=>exact False.elim nM
  | brk=>exact False.elim nM
  | cont=>exact False.elim nM
theorem Uu (M:Mk X.K C f)(F:AI X.prog X.w X.K X.mg X.base CX k f fd ps sp)(hr:AY (k+1) X.A)(hg:Gl X x)(hm:X.mg x=some (.ref C))(hb:Binds X.K fd ps ds)(hd:Vals dvs ds)(hx:Passes CX X E)
  (ha:PA X (e::es) t) (E9:(x==("__debug__":Str))=false:=by decide) (he:starEach (e::es) X.env=(false,eval e X.env)::starEach es X.env:=by rfl) (Dc:(backTo pos (starEach es X.env)).any (·.1)=false:=by rfl) :
  PE X (.Call (.Name x p) (e::es) [] pos) (Qo C sp dvs E t):=by
 intro pins s σ H Q I h
 refine wpAny_Call_Name_kw (Fe I hg hm ?_ E9)
 refine W.callWith_K (h₀:=X.base) I.ok.mod.kin M.kp (BA (ha pos pins s σ H _ I h) λus s1 ⟨vs,H1,I1,r,q⟩=>⟨I1.kIn,?_⟩) he Dc
 exact Qq M F hr hb hd hx I1 r q
end
structure Ar (N P:List Str)(sc:Scope):Prop where
 kind:sc.kind=.function
 co:sc.isCoroutine=false
 gen:sc.isGenerator=false
 nd:N.Nodup
 pre:N.take P.length=P
 par:∀ x∈P,sc.names.lookup x=some .local\/sc.names.lookup x=some .cell
 nofree:∀ y∈sc.names,y.2≠.free
theorem J4 {kindOf:Str->Option NameKind}{x:Str}:∀ {binds:List (Str × Value)} {m:Str->Option Value},(∀ v,(x,v)∉binds)->bindL kindOf binds m x=m x
 | [],_,_=>rfl
 | (n,v)::r,m,h=>by
  unfold bindL
  rw [J4 λw hw=>h w (List.mem_cons_of_mem _ hw)]
  split
  ·have:x≠n:=by rintro rfl;exact h v List.mem_cons_self
   simp [this]
  ·rfl
theorem J5 {kindOf:Str->Option NameKind}{x:Str}:∀ {binds:List (Str × Value)} {m:Str->Option Value},(∀ v,(x,v)∉binds)->bindC kindOf binds m x=m x
 | [],_,_=>rfl
 | (n,v)::r,m,h=>by
  unfold bindC
  rw [J5 λw hw=>h w (List.mem_cons_of_mem _ hw)]
  split
  ·rfl
  ·have:x≠n:=by rintro rfl;exact h v List.mem_cons_self
   simp [this]
theorem J6 {kindOf:Str->Option NameKind}{x:Str}{v:Value}:∀ {P:List Str} {vs:List Value} {i:Nat} {m:Str->Option Value},P.Nodup->P[i]?=some x->vs[i]?=some v->kindOf x=some .local ->
  bindL kindOf (P.zip vs) m x=some v
 | [],_,_,_,_,h,_,_=>by simp at h
 | _::_,[],_,_,_,_,h,_=>by simp at h
 | p::P,w::vs,0,m,nd,h1,h2,hk=>by
  simp at h1 h2;subst h1;subst h2
  show bindL kindOf ((p,w)::P.zip vs) m p=_
  unfold bindL
  rw [J4 λv hv=>(List.nodup_cons.mp nd).1 (List.of_mem_zip hv).1,if_pos hk]
  simp
 | p::P,w::vs,i+1,m,nd,h1,h2,hk=>by
  show bindL kindOf ((p,w)::P.zip vs) m x=_
  unfold bindL
  exact J6 (i:=i) (List.nodup_cons.mp nd).2 (by simpa using h1) (by simpa using h2) hk
theorem J7 {kindOf:Str->Option NameKind}{x:Str}{v:Value}:∀ {P:List Str} {vs:List Value} {i:Nat} {m:Str->Option Value},P.Nodup->P[i]?=some x->vs[i]?=some v->kindOf x≠some .local ->
  bindC kindOf (P.zip vs) m x=some v
 | [],_,_,_,_,h,_,_=>by simp at h
 | _::_,[],_,_,_,_,h,_=>by simp at h
 | p::P,w::vs,0,m,nd,h1,h2,hk=>by
  simp at h1 h2;subst h1;subst h2
  show bindC kindOf ((p,w)::P.zip vs) m p=_
  unfold bindC
  rw [J5 λv hv=>(List.nodup_cons.mp nd).1 (List.of_mem_zip hv).1,if_neg hk]
  simp
 | p::P,w::vs,i+1,m,nd,h1,h2,hk=>by
  show bindC kindOf ((p,w)::P.zip vs) m x=_
  unfold bindC
  exact J7 (i:=i) (List.nodup_cons.mp nd).2 (by simpa using h1) (by simpa using h2) hk
noncomputable def start (N:List Str)(vs:List V):St:=vs.map some++List.replicate (N.length - vs.length) none
noncomputable def DE (CX:Kg)(P:Program)(w:World)(K:W.Frag)(mg:Str->Option Value)(base:Heap)(N:List Str)(qual:Str)(scope:Scope)(f:Addr)(cd:Value)(A:Around)(outer:List Env)(s:Shared)(H:Hp)(E:XK):Cx where
 prog:=P
 w:=w
 K:=K
 mg:=mg
 base:=base
 A:=A.deeper (envOfC qual scope s.heap.objs.size f cd)
 N:=N
 s₀:=s
 H₀:=H
 env:=envOfC qual scope s.heap.objs.size f cd
 outer:=outer
 stack:=envOfC qual scope s.heap.objs.size f cd::outer
 ex:=[]
 calm:=true
 fn:=λ_=>true
 pn:=[]
 xe:=λe s'=>wpAny (model P w) (A.deeper (envOfC qual scope s.heap.objs.size f cd)) (leaving (envOfC qual scope s.heap.objs.size f cd) e) (λ_ ZF=>CX outer H s E e ZF) (λe' ZF=>CX outer H s E e' ZF) s'
theorem Kh {sc:Scope}{n:Nat}{x:Str}(h:sc.names.lookup x=some .cell):∃ c,(cellsFrom n sc.names []).lookup x=some c:=by
 have q:=W.cellsFrom_some sc.names n [] (.inl h)
 exact Option.isSome_iff_exists.mp q
theorem Oi {CX:Kg}{P:Program}{w:World}{K:W.Frag}{mg:Str->Option Value}{base:Heap}{N ps:List Str}{qual:Str}{scope:Scope}{f:Addr}{cd:Value}{A:Around}{outer:List Env}{s s1:Shared}{H:Hp}{E:XK}{us:List Value}{vs:List V}
  (S:Ar N ps scope) (hd:A.handled=none) (e0:LP P w K mg base A outer s H) (hl:vs.length=ps.length) (r:Vals vs us)
  (x:InCallC s s.heap.objs.size (bindL (envOfC qual scope s.heap.objs.size f cd).kindOf (ps.zip us) λ_=>none) (cellsFrom (s.heap.objs.size+1) scope.names []) (bindC (envOfC qual scope s.heap.objs.size f cd).kindOf (ps.zip us) λ_=>none) s1) :
  Inv (DE CX P w K mg base N qual scope f cd A outer s H E) [] (start N vs) H s1:=by
 have Dc:ps.length<=N.length:=by have:=congrArg List.length S.pre;rw [List.length_take] at this;omega
 obtain ⟨h1,tk,rfl,hk⟩:=x.done
 have ZG:∀ b:Addr,b∉(DE CX P w K mg base N qual scope f cd A outer s H E).ex:=λb z=>absurd (show b∈([]:List Addr) from z) (by simp)
 refine ⟨⟨e0.mod,S.kind,rfl,rfl,Nat.le_refl _,λy z c h1 h2=>?_,λy hy=>?_,λy c _ h=>?_,λ_=>hd,Around.frames_deeper e0.frames,.inr ⟨rfl,rfl⟩,λb z=>absurd z (ZG b),e0.bs,e0.bsz,λb _ _=>ZG b,λb z=>absurd z (ZG b),e0.funs,e0.frf⟩,
  rfl,e0.bare,Un.kept hk,⟨_,x.toInCall.ns,λi y v h1 h2 h3=>?_⟩,λy c h=>⟨_,x.cell y c h⟩,e0.hok.fresh (Nat.le_refl _),λy c h=>?_,λp hp=>absurd (show p∈([]:List (Addr × Obj)) from hp) (by simp),e0.hok.kept hk,?_⟩
 ·exact name_of_addr x.apart (PySem.mem_of_lookup h1) (PySem.mem_of_lookup h2)
 ·have hy:scope.names.lookup y=some .cell\/scope.names.lookup y=some .free:=hy
  rcases hy with hy | hy
  ·exact Kh hy
  ·exact absurd rfl (S.nofree _ (PySem.mem_of_lookup hy))
 ·exact Nat.le_of_lt (x.above y c (PySem.mem_of_lookup h))
 ·have hi:i < vs.length:=by
   unfold start at h2
   by_cases hi:i < vs.length
   ·exact hi
   ·rw [List.getElem?_append_right (by simpa using hi)] at h2
    rw [List.getElem?_replicate] at h2
    split at h2 <;> cases h2
  have ha:vs[i]?=some v:=by
   unfold start at h2
   rw [List.getElem?_append_left (by simpa using hi),List.getElem?_map] at h2
   cases e:vs[i]? with
   | none=>rw [e] at h2;cases h2
   | some a=>rw [e] at h2;cases h2;rfl
  obtain ⟨u,hu,rv⟩:=r.get ha
  have hp:ps[i]?=some y:=by
   rw [<- S.pre,List.getElem?_take_of_lt ()];exact h1
  have ndP:ps.Nodup:=by rw [<- S.pre];exact S.nd.sublist (List.take_sublist _ _)
  refine ⟨u,rv,?_⟩
  rcases S.par y (List.mem_of_getElem? hp) with k | k
  ·exact .inl ⟨k,J6 ndP hp hu k⟩
  ·obtain ⟨c,e⟩:=Kh (n:=s.heap.objs.size+1) k
   refine .inr ⟨.inl k,c,e,?_⟩
   have q:=x.cell y c e
   rw [J7 ndP hp hu (by show scope.names.lookup y≠_;rw [k];decide)] at q
   exact q
 ·exact e0.hok.fresh (Nat.le_of_lt (x.above y c (PySem.mem_of_lookup h)))
 ·unfold start
  show _=N.length
  rw [List.length_append,List.length_map,List.length_replicate]
  omega
theorem Xi {CX:Kg}{P:Program}{w:World}{K:W.Frag}{mg:Str->Option Value}{base:Heap}{k:Nat}{f:Addr}{name qual:Str}{params:Arguments}{body:List Stmt}{scope:Scope}{dV kV doc pm Bo ct oc:Value}{an od:Option Addr}
  {TN:Array (Option Value)} {N ps:List Str} {sp:Sp} (lk:K.lookup f=some ⟨oc,od,.func (W.fnOf name qual params body scope dV kV doc pm an Bo ct),TN⟩) (JD:W.codeIn K Bo qual=true) (S:Ar N ps scope)
  (len:∀ vs H Q E,sp vs H Q E->vs.length=ps.length)
  (HL:∀ (A:Around) (outer:List Env) (s:Shared) (H:Hp) (vs:List V) (Q:VK) (E:XK),AY k (A.deeper (envOfC qual scope s.heap.objs.size f Bo))->sp vs H Q E ->
   ∃ t,Lw (DE CX P w K mg base N qual scope f Bo A outer s H E) body t/\t { nx:=λ_ H'=>Q .non H',rt:=Q } (start N vs) H) :
  AI P w K mg base CX (k+1) f (W.fnOf name qual params body scope dV kV doc pm an Bo ct) ps sp:=by
 refine ⟨len,λA outer s H args us vs Q E hr e0 hb r Xj=>?_⟩
 have hl:=len _ _ _ _ Xj
 have KX:K.In s.heap:=e0.mod.kin.keeps λb o e=>(e0.bs b o e).1
 have lim:s.heap.NoLimit:=e0.mod.nolimit.keeps λb o e=>(e0.bs b o e).1
 have nN:∀ y∈ps.zip us,scope.names.lookup y.1=some .local\/(scope.names.lookup y.1=some .cell/\((cellsFrom (s.heap.objs.size+1) scope.names []).lookup y.1).isSome=true):=λ⟨n,v⟩ hy=>by
  rcases S.par n (List.of_mem_zip hy).1 with q | q
  ·exact .inl q
  ·exact .inr ⟨q,W.cellsFrom_some _ _ _ (.inl q)⟩
 refine codeAny_call_function hr.depth (KX _ _ lk) rfl S.co S.gen rfl (W.codeRec_of KX JD) (hb _ _ _ _ ?_)
 refine wpAny_newFunctionEnv_cells S.kind nN λenv he s1 x=>?_
 subst he
 refine ⟨lim.keeps x.toInCall.keep,codeAny_func ?_⟩
 obtain ⟨t,ht,hq⟩:=HL A outer s H vs Q E (hr.deeper _) Xj
 have I:Inv (DE CX P w K mg base N qual scope f Bo A outer s H E) [] (start N vs) H s1:=Oi S hr.hd e0 hl r x
 refine wpAny_mono (ht [] s1 (start N vs) H _ I hq) (λfl s' hs=>?_) λe s' hs=>hs
 have fin:∀ {σ':St} {H':Hp} {v:V} {u:Value},Inv (DE CX P w K mg base N qual scope f Bo A outer s H E) [] σ' H' s'->RelV v u->Q v H'->CE outer P w H s Q u s' :=
  λ{σ' H' v u} J rv q=>⟨v,H',J.os,J.bare,J.base,J.hok,rv,q⟩
 cases fl with
 | ret u =>
  obtain ⟨v,σ',H',J,rv,q⟩:=hs
  exact fin J rv q
 | next =>
  obtain ⟨σ',H',J,q⟩:=hs
  exact fin (v:=V.non) (u:=Value.none) J rfl q
 | brk =>
  obtain ⟨_,_,_,q⟩:=hs
  exact False.elim q
 | cont =>
  obtain ⟨_,_,_,q⟩:=hs
  exact False.elim q
section
variable {X:Cx}{x:Str}{p pos:Pos}{e:Expr}{es:List Expr}{t:TA}{id T:String}{r:List V->Hp->VK->Prop}
noncomputable def Xk (r:List V->Hp->VK->Prop)(t:TA):TE:=fun σ H Q=>t σ H λvs H1=>r vs H1 Q
theorem Ki (hc:DO X (.builtin id) r)(hg:Gl X x)(hm:X.mg x=none)(hv:bootBuiltins x=some (.builtin id))(ha:PA X (e::es) t)(hn:x≠"__name__":=by decide)(E9:(x==("__debug__":Str))=false:=by decide)
  (he:starEach (e::es) X.env=(false,eval e X.env)::starEach es X.env:=by rfl) (Dc:(backTo pos (starEach es X.env)).any (·.1)=false:=by rfl):PE X (.Call (.Name x p) (e::es) [] pos) (Xk r t):=by
 intro pins s σ H Q I h
 refine wpAny_Call_Name_kw (EV I hg hm hv ?_ hn E9)
 exact PyProof.Rows.callWith_builtin1 (BA (ha pos pins s σ H _ I h) λus s1 ⟨vs,H1,I1,r1,q1⟩=>hc pins s1 σ H1 vs us Q I1 r1 q1) he Dc
theorem Oj (hc:DO X (.type T) r)(hg:Gl X x)(hm:X.mg x=none)(hv:bootBuiltins x=some (.type T))(ha:PA X (e::es) t)(hn:x≠"__name__":=by decide)(E9:(x==("__debug__":Str))=false:=by decide)
  (he:starEach (e::es) X.env=(false,eval e X.env)::starEach es X.env:=by rfl) (Dc:(backTo pos (starEach es X.env)).any (·.1)=false:=by rfl):PE X (.Call (.Name x p) (e::es) [] pos) (Xk r t):=by
 intro pins s σ H Q I h
 refine wpAny_Call_Name_kw (EV I hg hm hv ?_ hn E9)
 exact PyProof.Rows.callWith_type1 (BA (ha pos pins s σ H _ I h) λus s1 ⟨vs,H1,I1,r1,q1⟩=>hc pins s1 σ H1 vs us Q I1 r1 q1) he Dc
end
end L2
namespace HT
open PySem PyProof.Rows
section
variable {prog:Program}{w:World}{A:Around}{E:Value->Shared->Prop}{s:Shared}
theorem cat_tup {t b:Addr}{vs ws:List Value}{Q:Value->Shared->Prop}(ht:IsTup s.heap t vs.toArray)(hb:IsTup s.heap b ws.toArray)(hv:vs≠[])
  (h1:ws=[]->Q (.ref t) s) (h2:ws≠[]->Q (.ref s.heap.objs.size) { s with heap:=s.heap.push { cls:=.type "tuple",data:=.seq (vs++ws).toArray } })
  (hsz:vs.length+ws.length<=sizeLine):wpAny (model prog w) A (binaryOp .Add (.ref t) (.ref b)) Q E s:=by
 obtain ⟨⟨cls,dd,data,sl⟩,ho,hc,n,hd⟩:=id ht
 obtain ⟨⟨zj,lP,data2,lQ⟩,ZH,Hk,n2,hd2⟩:=id hb
 simp only at hc hd Hk hd2
 subst hc hd Hk hd2
 have e:vs.toArray++ws.toArray=(vs++ws).toArray:=by simp
 by_cases hw:ws=[]
 ·exact concat_meets ⟨_,ho,rfl⟩ ⟨_,ZH,rfl⟩ noFill_tuple_add seq_tuple_add PySem.F.slot_tuple_add PySem.F.entry_tuple_add (PySem.F.args_tuple_add_2 _ _)
   (tuple_addW1 t b vs.toArray ws.toArray n n2 dd lP sl lQ (by simpa using hv) (by simp [hw])) ⟨ho,ZH,h1 hw⟩
 ·refine concat_meets ⟨_,ho,rfl⟩ ⟨_,ZH,rfl⟩ noFill_tuple_add seq_tuple_add PySem.F.slot_tuple_add PySem.F.entry_tuple_add (PySem.F.args_tuple_add_2 _ _)
   (tuple_addW2 t b vs.toArray ws.toArray n n2 dd lP sl lQ (by simpa using hv) (by simpa using hw) (by rw [List.size_toArray,List.size_toArray];exact hsz)) ⟨ho,ZH,?_⟩
  rw [e]
  exact h2 hw
noncomputable def sIx (n d:Nat):Option Int->Nat
 | none=>d
 | some v=>if v < 0 then (v+(n:Int)).toNat else min v.toNat n
theorem sIx_none (n d:Nat):sIx n d none=d:=rfl
theorem sIx_nat (n d k:Nat):sIx n d (some (k:Int))=min k n:=by
 show (if (k:Int) < 0 then ((k:Int)+(n:Int)).toNat else min (k:Int).toNat n)=min k n
 rw [if_neg (),Int.toNat_natCast]
theorem ZI (n d:Nat)(hd:d<=n)(o:Option Int):sIx n d o<=n:=by
 cases o with
 | none=>exact hd
 | some v =>
  show (if v < 0 then (v+(n:Int)).toNat else min v.toNat n)<=n
  by_cases hv:v < 0
  ·rw [if_pos hv];omega
  ·rw [if_neg hv];exact Nat.min_le_right _ _
theorem N5 (v:Int)(n d:Nat):(if v < 0 then max (v+(n:Int)) 0 else min v (n:Int))=((sIx n d (some v):Nat):Int):=by
 show (if v < 0 then max (v+(n:Int)) 0 else min v (n:Int))=(((if v < 0 then (v+(n:Int)).toNat else min v.toNat n):Nat):Int)
 by_cases hv:v < 0
 ·simp only [if_pos hv];omega
 ·simp only [if_neg hv];omega
theorem LR (lo hi:Option Int)(n:Nat):Builtin.Slice.sliceAdjust lo hi 1 (n:Int)=(((sIx n 0 lo:Nat):Int),((sIx n n hi:Nat):Int)):=by
 have h1:¬ ((1:Int) < 0):=by omega
 unfold Builtin.Slice.sliceAdjust
 simp only [h1,if_false]
 refine Prod.ext ?_ ?_
 ·cases lo with
  | none=>rfl
  | some v=>exact N5 v n 0
 ·cases hi with
  | none=>rfl
  | some v=>exact N5 v n n
theorem LS (i j:Nat):Builtin.Slice.slicePlaces (i:Int) (j:Int) 1=j - i:=by
 unfold Builtin.Slice.slicePlaces
 have h1:(1:Int) > 0:=by omega
 simp only [h1,if_true,Int.ediv_one]
 split <;> omega
theorem HM {v:Value}{o:Option Int}{Q:Option Int->Shared->Prop}(p:IsPart v o)(h:Q o s):wpAny (model prog w) A (Builtin.Slice.slicePartIndex v) Q E s:=by
 cases p with
 | none=>exact slicePart_none h
 | int i t=>exact slicePart_int h
theorem El {sl:Addr}{vl vu:Value}{lo hi:Option Int}{n:Nat}{Q:Int × Int × Nat->Shared->Prop}(hs:s.heap.IsSliceOf sl vl vu .none)(pl:IsPart vl lo)(pu:IsPart vu hi)
  (h:Q (((sIx n 0 lo:Nat):Int),1,sIx n n hi - sIx n 0 lo) s):wpAny (model prog w) A (Builtin.Slice.sliceApplied (.ref sl) (pure (n:Int))) Q E s:=by
 obtain ⟨os,Uv,xu,nO⟩:=id hs
 unfold Builtin.Slice.sliceApplied Builtin.Slice.sliceFields
 refine wpAny_bind (wpAny_bind (wpAny_field Uv nO (x:=vl) rfl (wpAny_bind (wpAny_field Uv nO (x:=vu) rfl (wpAny_bind (wpAny_field Uv nO (x:=.none) rfl (wpAny_pure ?_)))))))
 refine wpAny_bind (slicePart_none ?_)
 show wpAny _ _ (if ((1:Int)==0)=true then _ else _) _ _ s
 rw [if_neg ⟨⟩]
 refine wpAny_bind (HM pl (wpAny_bind (HM pu (wpAny_bind (wpAny_pure ?_)))))
 show wpAny _ _ (match Builtin.Slice.sliceAdjust lo hi 1 (n:Int) with | (lo,hi)=>pure (lo,(1:Int),Builtin.Slice.slicePlaces lo hi 1)) _ _ s
 rw [LR lo hi n]
 show wpAny _ _ (pure (((sIx n 0 lo:Nat):Int),(1:Int),Builtin.Slice.slicePlaces ((sIx n 0 lo:Nat):Int) ((sIx n n hi:Nat):Int) 1)) _ _ s
 rw [LS]
 exact wpAny_pure h
theorem Qr (xs:Array Value)(i k:Nat):((List.range k).filterMap λ(m:Nat)=>xs[((i:Int)+(m:Int) * 1).toNat]?).toArray=((xs.toList.drop i).take k).toArray:=by
 have e:(λ(m:Nat)=>xs[((i:Int)+(m:Int) * 1).toNat]?)=λm=>xs[i+m]?:=by
  funext m
  have:((i:Int)+(m:Int) * 1).toNat=i+m:=by omega
  rw [this]
 rw [e]
 have:=pick_run xs i k
 rw [List.filterMap_map] at this
 have e2:((λx=>xs[x]?) ∘ λx=>i+x)=λm=>xs[i+m]?:=rfl
 rw [e2] at this
 rw [this]
theorem getItem_tuple_cut {t sl:Addr}{items:Array Value}{vl vu:Value}{lo hi:Option Int}{Q:Value->Shared->Prop}(ht:IsTup s.heap t items)(hs:s.heap.IsSliceOf sl vl vu .none)(pl:IsPart vl lo)(pu:IsPart vu hi)
  (hw:¬ (sIx items.size 0 lo=0/\sIx items.size items.size hi=items.size))
  (h:Q (.ref s.heap.objs.size) { s with heap:=s.heap.push { cls:=.type "tuple",data:=.seq ((items.toList.drop (sIx items.size 0 lo)).take (sIx items.size items.size hi - sIx items.size 0 lo)).toArray } })
  (hsz:items.size<=sizeLine):wpAny (model prog w) A (getItem (.ref t) (.ref sl)) Q E s:=by
 have N6:sizeOk (.seq ((items.toList.drop (sIx items.size 0 lo)).take (sIx items.size items.size hi - sIx items.size 0 lo)).toArray):=by
  show ((items.toList.drop (sIx items.size 0 lo)).take (sIx items.size items.size hi - sIx items.size 0 lo)).toArray.size<=sizeLine
  rw [List.size_toArray,List.length_take,List.length_drop,Array.length_toList]
  omega
 have hj:sIx items.size items.size hi<=items.size:=ZI _ _ (Nat.le_refl _) hi
 obtain ⟨os,Uv,xu,nO⟩:=id hs
 have lR:s.TypeIs (.ref sl) "slice":=⟨os,Uv,xu⟩
 unfold getItem
 try with_reducible refine wpAny_holding ?_
 first | refine wpAny_bind (wpAny_pure ?_) | skip
 refine wpAny_bind (wpAny_sequenceKey ht.typeIs ⟨⟩ ?_)
 refine wpAny_bind (wpAny_callSpecial?_slot (name:=Str.ofString "__getitem__") ht.typeIs PyProof.Rows.slot_tuple_getitem
  (wpAny_call_entry PyProof.Rows.slot_tuple_getitem ht.typeIs entry_tuple_getitem ?_ (args_tuple_getitem _ _)))
 show wpAny _ _ (Builtin.Tuple.tupleItemsOf (.ref t) >>= _) _ _ s
 refine wpAny_bind (tupleItemsOf_ ht ?_)
 refine wpAny_bind (wpAny_typeOf lR ?_)
 rw [if_pos ⟨⟩]
 refine wpAny_bind (El hs pl pu ?_)
 have hno:¬ ((((sIx items.size 0 lo:Nat):Int)==0 && (1:Int)==1 && (sIx items.size items.size hi - sIx items.size 0 lo)==items.size)=true):=by
  intro q
  rw [Bool.and_eq_true,Bool.and_eq_true] at q
  have q1:((sIx items.size 0 lo:Nat):Int)=0:=eq_of_beq q.1.1
  have q2:sIx items.size items.size hi - sIx items.size 0 lo=items.size:=eq_of_beq q.2
  exact hw ⟨(),()⟩
 show wpAny _ _ (if (((sIx items.size 0 lo:Nat):Int)==0 && (1:Int)==1 && (sIx items.size items.size hi - sIx items.size 0 lo)==items.size)=true then _ else _) _ _ s
 rw [if_neg hno,Qr]
 first
  | exact wpAny_bind (m:=Builtin.Tuple.tupleExact _) (wpAny_newObj_type (wpAny_pure ⟨_,rfl,wpAny_pure h⟩) N6)
  | exact wpAny_bind (m:=Builtin.Tuple.tupleExact _) (wpAny_newObj_type (wpAny_bind (wpAny_pure (wpAny_pure ⟨_,rfl,wpAny_pure h⟩))) N6)
  | exact wpAny_bind (wpAny_bind (m:=Builtin.Tuple.tupleExact _) (wpAny_newObj_type (wpAny_pure (wpAny_pure ⟨_,rfl,wpAny_pure h⟩)) N6))
  | exact wpAny_bind (wpAny_bind (m:=Builtin.Tuple.tupleExact _) (wpAny_newObj_type (wpAny_pure ⟨_,rfl,wpAny_pure h⟩) N6))
end
end HT
namespace L2
open PySem PySem.Spec PyProof.Rows
abbrev TO:=St->Hp->(Option Int->Hp->Prop)->Prop
noncomputable def PO (X:Cx)(e:Option Expr)(t:TO):Prop :=
 ∀ (pins:List (Addr × Obj)) (s:Shared) (σ:St) (H:Hp) (Q:Option Int->Hp->Prop),Inv X pins σ H s->t σ H Q ->
  wpAny (model X.prog X.w) X.A (evalPart e X.env) (λu s'=>∃ o H',Inv X pins σ H' s'/\IsPart u o/\Q o H') X.xe s
noncomputable def Hw:TO:=λ_ H Q=>Q none H
noncomputable def N7 (t:TE):TO:=fun σ H Q=>t σ H λx H1=>∃ i,x=.int i/\Q (some i) H1
section
variable {X:Cx}{e:Expr}{te:TE}{lo hi:Option Expr}{tl th:TO}{pos p2:Pos}
theorem Uw:PO X none Hw:=by
 intro pins s σ H Q I h
 rw [evalPart_none]
 exact wpAny_pure ⟨none,H,I,.none,h⟩
theorem Ux (h:PE X e te):PO X (some e) (N7 te):=by
 intro pins s σ H Q I hw
 rw [evalPart_some]
 refine BA (h pins s σ H _ I hw) λu s1 ⟨x,H1,I1,r1,q1⟩=>?_
 obtain ⟨i,rfl,q⟩:=q1
 obtain ⟨t,rfl⟩:=r1
 exact ⟨some i,H1,I1,.int i t,q⟩
noncomputable def nQ (X:Cx)(r:V->Option Int->Option Int->Hp->VK->Prop):Prop :=
 ∀ (pins:List (Addr × Obj)) (s:Shared) (σ:St) (H:Hp) (x:V) (v vl vu:Value) (lo hi:Option Int) (sl:Addr) (Q:VK),Inv X pins σ H s->RelV x v->s.heap.IsSliceOf sl vl vu .none->IsPart vl lo->IsPart vu hi->r x lo hi H Q ->
  ∃ T id,typeLookup (.type T) "__getitem__"=pure (some (.builtin id))/\s.TypeIs v T/\wpAny (model X.prog X.w) X.A (getItem v (.ref sl)) (EP X pins σ Q) X.xe s
noncomputable def xv (r:V->Option Int->Option Int->Hp->VK->Prop)(te:TE)(tl th:TO):TE:=fun σ H Q=>te σ H λx H1=>tl σ H1 λl H2=>th σ H2 λu H3=>r x l u H3 Q
theorem Qs {r:V->Option Int->Option Int->Hp->VK->Prop}(hr:nQ X r)(he:PE X e te)(hl:PO X lo tl)(hu:PO X hi th):PE X (.Subscript e (.Slice lo hi none p2) pos) (xv r te tl th):=by
 intro pins s σ H Q I h
 refine Subscript_ (BA (he pins s σ H _ I h) λv s1 ⟨x,H1,I1,r1,q1⟩=>?_)
 refine wpAny_Slice (BA (hl pins s1 σ H1 _ I1 q1) λvl s2 ⟨l,H2,I2,pl,q2⟩=>BA (hu pins s2 σ H2 _ I2 q2) λvu s3 ⟨u,H3,I3,pu,q3⟩=>?_)
 rw [evalPart_none]
 refine wpAny_pure ?_
 have I4:Inv X pins σ H3 { s3 with heap:=s3.heap.push { cls:=.type "slice",data:=.fields #[vl,vu,.none] } }:=I3.kept (t':=s3.toks) λb ob q=>Heap.get?_push_of_some _ q
 obtain ⟨T,id,hT,ht,hg⟩:=hr pins { s3 with heap:=s3.heap.push { cls:=.type "slice",data:=.fields #[vl,vu,.none] } } σ H3 x v vl vu l u s3.heap.objs.size Q I4 r1 (Heap.IsSliceOf.new ..) pl pu q3
 show wpAny (model X.prog X.w) X.A (subscriptTail e (.Slice lo hi none p2) v (.ref s3.heap.objs.size)) (EP X pins σ Q) X.xe { s3 with heap:=s3.heap.push { cls:=.type "slice",data:=.fields #[vl,vu,.none] } }
 exact tail_any (ops:=[.ref s3.heap.objs.size,v]) ht hT hg (by with_unfolding_all rfl)
noncomputable def D2 (xs:List V)(lo hi:Option Int):List V:=(xs.drop (HT.sIx xs.length 0 lo)).take (HT.sIx xs.length xs.length hi - HT.sIx xs.length 0 lo)
theorem Hd (xs:List V)(lo hi:Option Int):(D2 xs lo hi).length<=xs.length:=by
 unfold D2
 rw [List.length_take,List.length_drop]
 omega
inductive Uy (K:W.Frag)(x:V)(lo:(Option Int))(hi:(Option Int))(H:Hp)(Q:VK):Prop
 | mk (a:_) (xs:_) (h1:x=.ref a) (h2:AJ K H a xs) (h3:¬ (HT.sIx xs.length 0 lo=0/\HT.sIx xs.length xs.length hi=xs.length)) (h4:∀ p,H p=none->Q (.ref p) (upd H p (.tup (D2 xs lo hi)))):Uy K x lo hi H Q
theorem LU:nQ X (Uy X.K):=by
 intro pins s σ H x v vl vu lo hi sl Q I rx hs pl pu h
 obtain ⟨a,xs,rfl,hx,hw,q⟩:=h
 cases rx
 obtain ⟨its,r,ht,hz⟩:=I.tuple hx
 have hlen:its.toArray.size=xs.length:=by rw [List.size_toArray];exact r.length.symm
 refine ⟨"tuple",_,PyProof.Rows.slot_tuple_getitem.lookup,ht.typeIs,?_⟩
 refine HT.getItem_tuple_cut ht hs pl pu (by rw [hlen];exact hw) ?_ (by rw [hlen];exact hz)
 rw [hlen]
 refine ⟨.ref s.heap.objs.size,_,I.laid (t':=s.toks) (o:=.tup (D2 xs lo hi)) (λb ob q=>Heap.get?_push_of_some _ q) (Nat.le_refl _) ?_,rfl,q _ (I.hok.fresh (Nat.le_refl _))⟩
 exact ⟨Nat.le_trans (Hd xs lo hi) hz,_,(r.drop (HT.sIx xs.length 0 lo)).take (HT.sIx xs.length xs.length hi - HT.sIx xs.length 0 lo),IsTup.new _ _⟩
inductive N8 (K:W.Frag)(x:V)(y:V)(H:Hp)(Q:VK):Prop
 | mk (a:_) (b:_) (xs:_) (ys:_) (h1:x=.ref a) (h2:y=.ref b) (h3:AJ K H a xs) (h4:AJ K H b ys) (h5:xs≠[]) (h6:xs.length+ys.length<=sizeLine) (h7:(ys=[]->Q (.ref a) H)) (h8:(ys≠[]->∀ p,H p=none->Q (.ref p) (upd H p (.tup (xs++ys))))):N8 K x y H Q
theorem Vals.nil_iff {xs:List V}{us:List Value}(r:Vals xs us):us=[]↔xs=[]:=by
 cases r with
 | nil=>simp
 | cons _ _=>simp
theorem N9:EN X (binaryOp .Add) (N8 X.K):=by
 intro pins s σ H x y v u Q I rx ry h
 obtain ⟨a,b,xs,ys,rfl,rfl,ha,hb,hx,hz,q1,q2⟩:=h
 cases rx
 cases ry
 obtain ⟨its,r1,p1,_⟩:=I.tuple ha
 obtain ⟨II,r2,p2,_⟩:=I.tuple hb
 refine HT.cat_tup p1 p2 (λz=>hx (r1.nil_iff.mp z)) (λz=>⟨.ref a,H,I,rfl,q1 (r2.nil_iff.mp z)⟩) (λz=>?_) (by rw [<- r1.length,<- r2.length];exact hz)
 refine ⟨.ref s.heap.objs.size,_,I.laid (t':=s.toks) (o:=.tup (xs++ys)) (λb ob q=>Heap.get?_push_of_some _ q) (Nat.le_refl _) ?_,rfl,q2 (λw=>z (r2.nil_iff.mpr w)) _ (I.hok.fresh (Nat.le_refl _))⟩
 exact ⟨by rw [List.length_append];exact hz,_,r1.append r2,IsTup.new _ _⟩
end
noncomputable def ZJ (n:Nat)(i:Int):Option Nat:=if 0<=i then (if i < n then some i.toNat else none) else if -(n:Int)<=i then some (i+n).toNat else none
noncomputable def Na {α:Type}(xs:List α)(i:Int):Option α:=(ZJ xs.length i).bind λj=>xs[j]?
theorem Uz {n:Nat}{i:Int}{j:Nat}(h:ZJ n i=some j):seqIndex? i n=some j/\j < n/\-(n:Int)<=i/\i < n:=by
 unfold ZJ at h
 by_cases h0:0<=i
 ·rw [if_pos h0] at h
  by_cases h1:i < n
  ·rw [if_pos h1] at h
   have e:i.toNat=j:=Option.some.inj h
   exact ⟨by rw [seqIndex_of h0 h1,e],(),(),h1⟩
  ·rw [if_neg h1] at h;cases h
 ·rw [if_neg h0] at h
  by_cases h1:-(n:Int)<=i
  ·rw [if_pos h1] at h
   have e:(i+n).toNat=j:=Option.some.inj h
   exact ⟨by rw [seqIndex_neg () h1,e],(),h1,()⟩
  ·rw [if_neg h1] at h;cases h
theorem Nb {α:Type}{xs:List α}{i:Int}{v:α}(h:Na xs i=some v):∃ j,seqIndex? i xs.length=some j/\xs[j]?=some v/\j < xs.length/\-(xs.length:Int)<=i/\i < xs.length:=by
 unfold Na at h
 cases e:ZJ xs.length i with
 | none=>rw [e] at h;cases h
 | some j =>
  rw [e] at h
  obtain ⟨h1,h2,h3,h4⟩:=Uz e
  exact ⟨j,h1,h,h2,h3,h4⟩
theorem Au {α:Type}{xs:List α}{j:Nat}{v:α}(h:xs[j]?=some v):Na xs (j:Int)=some v:=by
 have hj:j < xs.length:=(List.getElem?_eq_some_iff.mp h).1
 have e:ZJ xs.length (j:Int)=some j:=by
  unfold ZJ
  rw [if_pos (),if_pos ()];simp
 unfold Na;rw [e];exact h
noncomputable def Nc (b:Expr):Prop:=∀ o i,subscripted b false o i=operate [o,i] (getItem o i)
noncomputable def xw (X:Cx)(r:R2):Prop :=
 ∀ (value slice:Expr) (pins:List (Addr × Obj)) (s:Shared) (σ:St) (H:Hp) (x y:V) (v u:Value) (Q:VK),Inv X pins σ H s->RelV x v->RelV y u->r x y H Q ->
  subscripted slice false v u=operate [v,u] (getItem v u)->wpAny (model X.prog X.w) X.A (subscriptTail value slice v u) (EP X pins σ Q) X.xe s
noncomputable def xx (X:Cx)(id:String)(r:V->List V->Hp->VK->Prop):Prop :=
 ∀ (pins:List (Addr × Obj)) (s:Shared) (σ:St) (H:Hp) (x:V) (xs:List V) (v:Value) (us:List Value) (Q:VK),Inv X pins σ H s->RelV x v->Vals xs us->r x xs H Q ->
  wpAny (model X.prog X.w) X.A (call (.builtin id) (v::us)) (EP X pins σ Q) X.xe s
section
variable {X:Cx}{a b:Expr}{ta tb:TE}{pos:Pos}
theorem Xl {r:R2}(hr:xw X r)(ha:PE X a ta)(hb:PE X b tb)(hs:Nc b):PE X (.Subscript a b pos) (Ft r ta tb):=by
 intro pins s σ H Q I h
 exact Subscript_ (Zu ha hb I h λv u s2 x y H2 I2 rx ry q=>hr a b pins s2 σ H2 x y v u Q I2 rx ry q (hs _ _))
inductive LV (K:W.Frag)(x:V)(y:V)(H:Hp)(Q:VK):Prop
 | mk (p:_) (xs:_) (i:_) (v:_) (h1:x=.ref p) (h2:y=.int i) (h3:AZ K H p xs) (h4:Na xs i=some v) (h5:Q v H):LV K x y H Q
inductive GF (K:W.Frag)(x:V)(y:V)(H:Hp)(Q:VK):Prop
 | mk (p:_) (xs:_) (i:_) (v:_) (h1:x=.ref p) (h2:y=.int i) (h3:AJ K H p xs) (h4:Na xs i=some v) (h5:Q v H):GF K x y H Q
theorem AA:xw X (LV X.K):=by
 intro value slice pins s σ H x y v u Q I rx ry h hs
 obtain ⟨p,xs,i,z,rfl,rfl,hq,he,q⟩:=h
 cases rx
 obtain ⟨t,rfl⟩:=ry
 obtain ⟨its,r,pl,hz⟩:=I.list hq
 obtain ⟨j,h1,h2,h3,h4,h5⟩:=Nb he
 obtain ⟨w,ew,Qt⟩:=r.get h2
 have hl:=r.length
 have hn:=JG
 have fin:EP X pins σ Q w s:=⟨z,H,I,Qt,q⟩
 by_cases h0:0<=i
 ·have hj:i.toNat=j:=by
   rw [seqIndex_of h0 h5] at h1
   exact Option.some.inj h1
  exact item_listR pl.isList h0 () (by rw [hj];simpa using ew) fin hs
 ·have hj:(i+(its.toArray.size:Int)).toNat=j:=by
   rw [seqIndex_neg () h4] at h1
   rw [List.size_toArray,<- hl]
   exact Option.some.inj h1
  exact subscriptTail_builtinR (x:=w) pl.isList.typeIs slot_list_getitem.lookup
   (wpAny_getItem_list_neg (Q:=λr s'=>r=w/\EP X pins σ Q r s') pl.isList () (by rw [List.size_toArray] <;> omega) () (by rw [hj];simpa using ew) ⟨rfl,fin⟩) hs
theorem Al:xw X (GF X.K):=by
 intro value slice pins s σ H x y v u Q I rx ry h hs
 obtain ⟨p,xs,i,z,rfl,rfl,hq,he,q⟩:=h
 cases rx
 obtain ⟨t,rfl⟩:=ry
 obtain ⟨its,r,pl,hz⟩:=I.tuple hq
 obtain ⟨j,h1,h2,h3,h4,h5⟩:=Nb he
 obtain ⟨w,ew,Qt⟩:=r.get h2
 have hl:=r.length
 have hn:=JG
 have fin:EP X pins σ Q w s:=⟨z,H,I,Qt,q⟩
 exact subscriptTail_builtinR (x:=w) pl.typeIs slot_tuple_getitem.lookup
  (getItem_tuple (j:=j) (Q:=λr s'=>r=w/\EP X pins σ Q r s') pl () () (by rw [List.size_toArray,<- hl];exact h1) (by simpa using ew) ⟨rfl,fin⟩) hs
theorem JI (lo hi:Option Int)(n:Nat):(sliceBounds lo hi none n).1=((HT.sIx n 0 lo:Nat):Int)/\(sliceBounds lo hi none n).2.1=((HT.sIx n n hi:Nat):Int)/\(sliceBounds lo hi none n).2.2=1:=by
 refine ⟨?_,?_,rfl⟩
 ·cases lo with
  | none=>simp [sliceBounds,HT.sIx]
  | some i =>
   simp only [sliceBounds,HT.sIx,Option.getD_none,show (1:Int) > 0 by decide,if_true]
   by_cases h:i < 0
   ·simp only [h,if_true] <;> omega
   ·simp only [h,if_false] <;> omega
 ·cases hi with
  | none=>simp [sliceBounds,HT.sIx]
  | some i =>
   simp only [sliceBounds,HT.sIx,Option.getD_none,show (1:Int) > 0 by decide,if_true]
   by_cases h:i < 0
   ·simp only [h,if_true] <;> omega
   ·simp only [h,if_false] <;> omega
theorem IJ (its:List Value)(lo hi:Option Int):slicePick its.toArray lo hi none=((its.drop (HT.sIx its.length 0 lo)).take (HT.sIx its.length its.length hi - HT.sIx its.length 0 lo)).toArray:=by
 obtain ⟨h1,h2,h3⟩:=JI lo hi its.toArray.size
 unfold slicePick
 rw [h1,h2,h3]
 simp only [sliceRange_one,pick_run,List.size_toArray] <;> rfl
noncomputable def nR (K:W.Frag):V->Option Int->Option Int->Hp->VK->Prop:=λx lo hi H Q=>∃ a xs,x=.ref a/\AZ K H a xs/\∀ p,H p=none->Q (.ref p) (upd H p (.lst (D2 xs lo hi)))
theorem Ff:nQ X (nR X.K):=by
 intro pins s σ H x v vl vu lo hi sl Q I rx hs pl pu h
 obtain ⟨a,xs,rfl,hx,q⟩:=h
 cases rx
 obtain ⟨its,r,ht,hz⟩:=I.list hx
 have hlen:=r.length
 refine ⟨"list",_,slot_list_getitem.lookup,ht.isList.typeIs,?_⟩
 refine wpAny_getItem_list_slice ht.isList hs pl pu .none (by simp) ?_ (by rw [List.size_toArray] <;> omega)
 rw [IJ,<- hlen]
 refine ⟨.ref s.heap.objs.size,_,I.laid (t':=s.toks) (o:=.lst (D2 xs lo hi)) (λb ob q=>Heap.get?_push_of_some _ q) (Nat.le_refl _) ?_,rfl,q _ (I.hok.fresh (Nat.le_refl _))⟩
 exact ⟨Nat.le_trans (Hd xs lo hi) hz,_,0,(r.drop (HT.sIx xs.length 0 lo)).take (HT.sIx xs.length xs.length hi - HT.sIx xs.length 0 lo),Heap.get?_push_size _ rfl⟩
noncomputable def EX:V->Bool
 | .non=>true
 | .bl _=>true
 | .int _=>true
 | .str _=>true
 | _=>false
noncomputable def Qu:V->V->Bool
 | .non,.non=>true
 | .bl a,.bl b=>a==b
 | .bl a,.int b=>(if a then 1 else 0)==b
 | .int a,.bl b=>a==(if b then 1 else 0)
 | .int a,.int b=>a==b
 | .str a,.str b=>a==b
 | _,_=>false
theorem ZK {A:Around}{s:Shared}{y x:V}{u v:Value}(ry:RelV y u)(rx:RelV x v)(fy:EX y=true)(fx:EX x=true):SeqAt.EqAt A s u v (Qu y x):=by
 cases y with
 | non =>
  cases ry
  cases x with
  | non=>cases rx;exact SeqAt.EqAt.same _
  | bl b=>cases rx;exact SeqAt.EqAt.none_bool b
  | int b=>obtain ⟨t,rfl⟩:=rx;exact SeqAt.EqAt.none_int b t
  | str b=>obtain ⟨t,rfl⟩:=rx;exact SeqAt.EqAt.none_str b t
  | _=>exact absurd (show false=true from fx) Bool.false_ne_true
 | bl a =>
  cases ry
  cases x with
  | non=>cases rx;exact SeqAt.EqAt.bool_none a
  | bl b=>cases rx;exact SeqAt.EqAt.bool_bool a b
  | int b=>obtain ⟨t,rfl⟩:=rx;exact SeqAt.EqAt.bool_int a b t
  | str b=>obtain ⟨t,rfl⟩:=rx;exact SeqAt.EqAt.bool_str a b t
  | _=>exact absurd (show false=true from fx) Bool.false_ne_true
 | int a =>
  obtain ⟨t',rfl⟩:=ry
  cases x with
  | non=>cases rx;exact SeqAt.EqAt.int_none a t'
  | bl b=>cases rx;exact SeqAt.EqAt.int_bool a t' b
  | int b=>obtain ⟨t,rfl⟩:=rx;exact SeqAt.EqAt.int_int a t' b t
  | str b=>obtain ⟨t,rfl⟩:=rx;exact SeqAt.EqAt.int_str a t' b t
  | _=>exact absurd (show false=true from fx) Bool.false_ne_true
 | str a =>
  obtain ⟨t',rfl⟩:=ry
  cases x with
  | non=>cases rx;exact SeqAt.EqAt.str_none a t'
  | bl b=>cases rx;exact SeqAt.EqAt.str_bool a t' b
  | int b=>obtain ⟨t,rfl⟩:=rx;exact SeqAt.EqAt.str_int a t' b t
  | str b=>obtain ⟨t,rfl⟩:=rx;exact SeqAt.EqAt.str_str a t' b t
  | _=>exact absurd (show false=true from fx) Bool.false_ne_true
 | _=>exact absurd (show false=true from fy) Bool.false_ne_true
noncomputable def LW (x:V)(u:Value):Bool:=match u with
 | .none=>Qu .non x
 | .bool b=>Qu (.bl b) x
 | .int i _=>Qu (.int i) x
 | .str z _=>Qu (.str z) x
 | _=>false
theorem Qv {x y:V}{u:Value}(r:RelV y u)(f:EX y=true):LW x u=Qu y x:=by
 cases y with
 | non=>cases r;rfl
 | bl b=>cases r;rfl
 | int i=>obtain ⟨t,rfl⟩:=r;rfl
 | str z=>obtain ⟨t,rfl⟩:=r;rfl
 | _=>exact absurd (show false=true from f) Bool.false_ne_true
theorem G4 {x:V}:∀ {xs:List V} {us:List Value},Vals xs us->xs.all EX=true->us.any (LW x)=xs.any λy=>Qu y x
 | _,_,.nil,_=>rfl
 | y::xs,u::us,.cons r t,f=>by
  rw [List.all_cons,Bool.and_eq_true] at f
  rw [List.any_cons,List.any_cons,Qv r f.1,G4 t f.2]
theorem EY {A:Around}{s:Shared}{x:V}{v:Value}(rx:RelV x v)(fx:EX x=true):∀ {xs:List V} {us:List Value},Vals xs us->xs.all EX=true->∀ u∈us,SeqAt.EqAt A s u v (LW x u)
 | _,_,.nil,_=>λu hu=>by cases hu
 | y::xs,u::us,.cons r t,f=>λu' hu=>by
  rw [List.all_cons,Bool.and_eq_true] at f
  rcases List.mem_cons.mp hu with rfl | hu
  ·rw [Qv r f.1];exact ZK r rx f.1 fx
  ·exact EY rx fx t f.2 u' hu
noncomputable def Dh (x:V)(xs:List V):Bool:=xs.any λy=>Qu y x
noncomputable def xy (K:W.Frag)(neg:Bool):R2:=λx y H Q=>∃ p xs,y=.ref p/\(AZ K H p xs\/AJ K H p xs)/\EX x=true/\xs.all EX=true/\Q (.bl (if neg then !Dh x xs else Dh x xs)) H
theorem Cr:EN X (compareOp .In) (xy X.K false):=by
 intro pins s σ H x y v u Q I rx ry h
 obtain ⟨p,xs,rfl,hq,fx,fs,q⟩:=h
 cases ry
 rcases hq with hq | hq
 ·obtain ⟨its,r,pl,hz⟩:=I.list hq
  refine SeqAt.in_listAt (LW x) pl.isList (λw hw=>EY rx fx r fs w (by simpa using hw)) ⟨.bl _,H,I,rfl,?_⟩
  rw [show its.toArray.any (LW x)=its.any (LW x) by simp,G4 r fs]
  exact q
 ·obtain ⟨its,r,pl,hz⟩:=I.tuple hq
  refine SeqAt.in_tupleAt (LW x) pl (λw hw=>EY rx fx r fs w (by simpa using hw)) ⟨.bl _,H,I,rfl,?_⟩
  rw [show its.toArray.any (LW x)=its.any (LW x) by simp,G4 r fs]
  exact q
theorem EA:EN X (compareOp .NotIn) (xy X.K true):=by
 intro pins s σ H x y v u Q I rx ry h
 obtain ⟨p,xs,rfl,hq,fx,fs,q⟩:=h
 cases ry
 rcases hq with hq | hq
 ·obtain ⟨its,r,pl,hz⟩:=I.list hq
  refine SeqAt.notIn_listAt (LW x) pl.isList (λw hw=>EY rx fx r fs w (by simpa using hw)) ⟨.bl _,H,I,rfl,?_⟩
  rw [show its.toArray.any (LW x)=its.any (LW x) by simp,G4 r fs]
  exact q
 ·obtain ⟨its,r,pl,hz⟩:=I.tuple hq
  refine SeqAt.notIn_tupleAt (LW x) pl (λw hw=>EY rx fx r fs w (by simpa using hw)) ⟨.bl _,H,I,rfl,?_⟩
  rw [show its.toArray.any (LW x)=its.any (LW x) by simp,G4 r fs]
  exact q
theorem AG:DO X (.builtin "len") (λxs H Q=>∃ p ys,xs=[.ref p]/\(AZ X.K H p ys\/AJ X.K H p ys)/\Q (.int ys.length) H):=by
 intro pins s σ H xs us Q I r h
 obtain ⟨p,ys,rfl,hq,q⟩:=h
 obtain ⟨u,rfl,rx⟩:=vals1 r
 cases rx
 have hn:=JG
 rcases hq with hq | hq
 ·obtain ⟨its,r',pl,hz⟩:=I.list hq
  have hlen:=r'.length
  exact Calls.call_len_list pl.isList (by simp only [List.size_toArray] <;> omega) ⟨.int ys.length,H,I.tok _,⟨s.toks+1,by rw [List.size_toArray,hlen]⟩,q⟩
 ·obtain ⟨its,r',pl,hz⟩:=I.tuple hq
  have hlen:=r'.length
  exact len_tuple pl (by simp only [List.size_toArray] <;> omega) ⟨.int ys.length,H,I.tok _,⟨s.toks+1,by rw [List.size_toArray,hlen]⟩,q⟩
theorem EB:DO X (.type "list") (λxs H Q=>∃ p ys,xs=[.ref p]/\(AZ X.K H p ys\/AJ X.K H p ys)/\∀ l,H l=none->Q (.ref l) (upd H l (.lst ys))):=by
 intro pins s σ H xs us Q I r h
 obtain ⟨p,ys,rfl,hq,q⟩:=h
 obtain ⟨u,rfl,rx⟩:=vals1 r
 cases rx
 have fin:∀ (its:List Value),Vals ys its->ys.length<=sizeLine->∀ (h':Heap) (c':Nat),(∀ b o',s.heap.get? b=some o'->h'.get? b=some o') ->
   h'.get? s.heap.objs.size=some { cls:=.type "list",dict:=none,data:=.seq its.toArray c',slots:=#[] }->EP X pins σ Q (.ref s.heap.objs.size) { s with heap:=h' }:=λits r' hz h' c' kp e =>
  ⟨.ref s.heap.objs.size,_,I.laid (t':=s.toks) kp (Nat.le_refl _) (show Bk X.prog X.w _ h' _ (.lst ys) from ⟨hz,its,c',r',e⟩),rfl,q _ (I.hok.fresh (Nat.le_refl _))⟩
 rcases hq with hq | hq
 ·obtain ⟨its,r',pl,hz⟩:=I.list hq
  have hlen:=r'.length
  obtain ⟨o,ho,hc,n,hd⟩:=pl.isList
  exact call_list_seq p (.inl rfl) ho hc hd (λh' c' kp e=>fin its r' hz h' c' kp e) (by simp only [List.size_toArray] <;> omega)
 ·obtain ⟨its,r',pl,hz⟩:=I.tuple hq
  have hlen:=r'.length
  obtain ⟨o,ho,hc,n,hd⟩:=pl
  exact call_list_seq p (.inr rfl) ho hc hd (λh' c' kp e=>fin its r' hz h' c' kp e) (by simp only [List.size_toArray] <;> omega)
theorem Fu:DO X (.type "tuple") (λxs H Q=>∃ p ys,xs=[.ref p]/\((AZ X.K H p ys/\∀ l,H l=none->Q (.ref l) (upd H l (.tup ys)))\/(AJ X.K H p ys/\Q (.ref p) H))):=by
 intro pins s σ H xs us Q I r h
 obtain ⟨p,ys,rfl,h⟩:=h
 obtain ⟨u,rfl,rx⟩:=vals1 r
 cases rx
 rcases h with ⟨hq,q⟩ | ⟨hq,q⟩
 ·obtain ⟨its,r',pl,hz⟩:=I.list hq
  have hlen:=r'.length
  refine call_tuple_list pl.isList (λh' kp=>?_) (by simp only [List.size_toArray] <;> omega)
  have I1:Inv X pins σ H { s with heap:=h' }:=I.kept (t':=s.toks) kp
  have I2:Inv X pins σ (upd H h'.objs.size (.tup ys)) { s with heap:=h'.push { cls:=.type "tuple",data:=.seq its.toArray } } :=
   I1.laid (t':=s.toks) (λb o e=>Heap.get?_push_of_some _ e) (Nat.le_refl _) (show Bk X.prog X.w _ _ _ (.tup ys) from ⟨hz,its,r',IsTup.new _ _⟩)
  exact ⟨.ref h'.objs.size,_,I2,rfl,q _ (I1.hok.fresh (Nat.le_refl _))⟩
 ·obtain ⟨its,r',pl,hz⟩:=I.tuple hq
  exact call_tuple_same pl ⟨.ref p,H,I,rfl,q⟩
noncomputable def nU (K:W.Frag)(T:String)(x:V)(H:Hp):Prop:=match x with
 | .str _=>T="str"
 | .int _=>T="int"
 | .ref p=>(T="list"/\∃ xs,AZ K H p xs)\/(T="tuple"/\∃ o,K.lookup p=some o/\o.cls=.type "tuple"/\o.dict=none) \/
   (T="dict"/\((∃ AH,H p=some (.dK AH))\/∃ AH,H p=some (.dT AH)))\/(T="set"/\∃ S n,H p=some (.set S n))
 | _=>False
theorem Qw {pins:List (Addr × Obj)}{σ:St}{H:Hp}{s:Shared}{T:String}{x:V}{v:Value}(I:Inv X pins σ H s)(r:RelV x v)(ty:nU X.K T x H):
  s.TypeIs v T/\∀ a,v=.ref a->∃ ob,s.heap.get? a=some ob/\ob.dict=none:=by
 cases x with
 | str z =>
  obtain ⟨t,rfl⟩:=r
  cases (show T="str" from ty)
  exact ⟨typeIs_str s z t,λ_ e=>nomatch e⟩
 | int i =>
  obtain ⟨t,rfl⟩:=r
  cases (show T="int" from ty)
  exact ⟨typeIs_int s i t,λ_ e=>nomatch e⟩
 | ref p =>
  cases r
  rcases ty with ⟨rfl,xs,hq⟩ | ⟨rfl,o,hk,hc,hd⟩ | ⟨rfl,hk⟩ | ⟨rfl,S,n,hk⟩
  ·obtain ⟨its,_,pl,_⟩:=I.list hq
   refine ⟨pl.isList.typeIs,λa e=>?_⟩
   cases e
   obtain ⟨o,n,e,c,hd,_⟩:=pl
   exact ⟨o,e,hd⟩
  ·refine ⟨⟨o,I.kIn p o hk,hc⟩,λa e=>?_⟩
   cases e
   exact ⟨o,I.kIn _ o hk,hd⟩
  ·have z:∃ o,s.heap.get? p=some o/\o.ExactDict:=by
    rcases hk with ⟨AH,hk⟩ | ⟨AH,hk⟩
    ·obtain ⟨_,_,_,_,o,_,_,e,ex,_⟩:=I.hok p _ hk
     exact ⟨o,e,ex⟩
    ·obtain ⟨_,_,_,_,o,_,_,e,ex,_⟩:=I.hok p _ hk
     exact ⟨o,e,ex⟩
   obtain ⟨o,e,ex⟩:=z
   refine ⟨⟨o,e,ex.1⟩,λa e2=>?_⟩
   cases e2
   exact ⟨o,e,ex.2.1⟩
  ·obtain ⟨o,_,_,_,e,ex,_⟩:=I.hok p _ hk
   refine ⟨⟨o,e,ex.1⟩,λa e2=>?_⟩
   cases e2
   exact ⟨o,e,ex.2.1⟩
 | _=>exact False.elim ty
noncomputable def UA (K:W.Frag)(T:String)(r:V->List V->Hp->VK->Prop)(to:TE):TE:=fun σ H Q=>to σ H λx H1=>nU K T x H1/\r x [] H1 Q
noncomputable def zk (K:W.Frag)(T:String)(r:V->List V->Hp->VK->Prop)(to:TE)(t:TA):TE:=fun σ H Q=>to σ H λx H1=>nU K T x H1/\t σ H1 λxs H2=>r x xs H2 Q
variable {o e:Expr}{es:List Expr}{to:TE}{t:TA}{name:Str}{apos Cw:Pos}{T id:String}{r:V->List V->Hp->VK->Prop}
theorem ZL (pa:PlainAttrs T)(slot:Slot T name id)(ZM:typeOf (.builtin id)=pure (.type "method_descriptor"))(hm:xx X id r)(ho:PE X o to)
  (F0:attributeBase o name X.env (eval o X.env)=eval o X.env:=by rfl) (HN:(apos.endLine==Cw.line)=true:=by rfl):PE X (.Call (.Attribute o name apos) [] [] Cw) (UA X.K T r to):=by
 intro pins s σ H Q I h
 refine wpAny_Call_method0_late F0 HN (BA (ho pins s σ H _ I h) λv s1 ⟨x,H1,I1,r1,ty,q1⟩=>?_)
 obtain ⟨h1,h2⟩:=Qw I1 r1 ty
 exact ⟨T,id,pa,slot,ZM,h1,h2,Calls.callWith_builtin rfl (PySem.evalArgs_none (hm pins s1 σ H1 x [] v [] Q I1 r1 .nil q1))⟩
theorem nV (pa:PlainAttrs T)(slot:Slot T name id)(ZM:typeOf (.builtin id)=pure (.type "method_descriptor"))(hm:xx X id r)(ho:PE X o to)(ha:PA X (e::es) t)
  (F0:attributeBase o name X.env (eval o X.env)=eval o X.env:=by rfl)
  (ZN:((backTo Cw (starEach (e::es) X.env)).all (λx=>!x.1) && (backToKw Cw (keywordEach [] X.env)).all (λx=>x.1.isSome)
   && decide ((e::es).length+([]:List Keyword).length+(if ([]:List Keyword).isEmpty then 0 else 1) < 30))=true:=by rfl)
  (HN:(apos.endLine==Cw.line)=true:=by rfl) (hs:starEach (e::es) X.env=(false,eval e X.env)::starEach es X.env:=by rfl) (LX:(backTo Cw (starEach es X.env)).any (·.1)=false:=by rfl) :
  PE X (.Call (.Attribute o name apos) (e::es) [] Cw) (zk X.K T r to t):=by
 intro pins s σ H Q I h
 refine wpAny_Call_method_late F0 ZN HN rfl (BA (ho pins s σ H _ I h) λv s1 ⟨x,H1,I1,r1,ty,q1⟩=>?_)
 obtain ⟨h1,h2⟩:=Qw I1 r1 ty
 refine ⟨T,id,pa,slot,ZM,h1,h2,?_⟩
 have hA:=ha Cw pins s1 σ H1 _ I1 q1
 rw [hs] at hA ⊢
 refine Calls.callWith_builtin (by show (false || (backTo Cw (starEach es X.env)).any (·.1))=false;rw [LX] <;> rfl) (Calls.evalArgs_plain ?_)
 exact BA hA λus s2 ⟨vs,H2,I2,r2,q2⟩=>hm pins s2 σ H2 x vs v us Q I2 r1 r2 q2
end
noncomputable def zl (X:Cx)(id:String)(r:V->List V->Hp->VK->Prop):Prop :=
 ∀ (pins:List (Addr × Obj)) (s:Shared) (σ:St) (H:Hp) (x:V) (xs:List V) (v:Value) (us:List Value) (Q:VK),Inv X pins σ H s->RelV x v->Vals xs us->r x xs H Q ->
  wpAny (model X.prog X.w) X.A (call (.builtin id) (v::us)) (EP X pins σ Q) X.xe s
theorem Vals.one:∀ {x:V} {us:List Value},Vals [x] us->∃ u,us=[u]/\RelV x u
 | _,_,.cons r .nil=>⟨_,rfl,r⟩
theorem Vals.zero:∀ {us:List Value},Vals [] us->us=[]
 | _,.nil=>rfl
theorem Vals.dropLast {xs:List V}{us:List Value}(h:Vals xs us):Vals xs.dropLast us.dropLast:=by
 induction h with
 | nil=>exact .nil
 | cons r t ih =>
  cases t with
  | nil=>exact .nil
  | cons q t'=>exact .cons r ih
theorem Vals.reverse {xs:List V}{us:List Value}(h:Vals xs us):Vals xs.reverse us.reverse:=by
 induction h with
 | nil=>exact .nil
 | cons r t ih=>rw [List.reverse_cons,List.reverse_cons];exact Vals.append ih (.cons r .nil)
theorem Vals.rep {xs:List V}{us:List Value}(h:Vals xs us):∀ k:Nat,Vals (List.replicate k xs).flatten (List.replicate k us).flatten
 | 0=>.nil
 | k+1=>by
  rw [List.replicate_succ,List.replicate_succ,List.flatten_cons,List.flatten_cons]
  exact Vals.append h (Vals.rep h k)
theorem LY {α:Type}(l:List α):l.eraseIdx (l.length - 1)=l.dropLast:=by
 induction l with
 | nil=>rfl
 | cons a r ih =>
  cases r with
  | nil=>rfl
  | cons b r =>
   have e:(a::b::r).length - 1=((b::r).length - 1)+1:=by
    have h1:(a::b::r).length=r.length+2:=rfl
    have h2:(b::r).length=r.length+1:=rfl
    omega
   rw [e,List.eraseIdx_cons_succ,ih]
   all_goals rfl
theorem foldl_rep (its:List Value):∀ (k:Nat) (acc:List Value),
  List.foldl (λx1 x2=>x1++x2) acc.toArray (List.replicate k its.toArray)=(acc++(List.replicate k its).flatten).toArray
 | 0,acc=>by simp
 | k+1,acc=>by
  have e:acc.toArray++its.toArray=(acc++its).toArray:=by simp
  have e2:(acc++its)++(List.replicate k its).flatten=acc++(List.replicate (k+1) its).flatten:=by
   rw [List.replicate_succ,List.flatten_cons,List.append_assoc]
  rw [<- e2,<- foldl_rep its k (acc++its),<- e,List.replicate_succ,List.foldl_cons]
section
variable {X:Cx}{pins:List (Addr × Obj)}{σ:St}{H:Hp}{s:Shared}{l b:Addr}{xs ys zs:List V}
theorem Inv.lset {its its':List Value}{n:Nat}{f:Array Value->Array Value}{t':Nat}(I:Inv X pins σ H s)(hH:H l=some (.lst xs))
  (e:s.heap.get? l=some { cls:=.type "list",data:=.seq its.toArray n }) (hf:f its.toArray=its'.toArray) (hv:Vals ys its') (hz:ys.length<=sizeLine) :
  Inv X pins σ (upd H l (.lst ys)) { s with heap:=s.heap.update l (Obj.mapSeq f),toks:=t' }:=by
 have q:=PySem.IsL.update e f
 rw [hf] at q
 refine I.write (x:=l) (e:=l) (by rw [hH];exact trivial) (.inl rfl) (λb' u hb hu=>(Heap.get?_update_other s.heap (Obj.mapSeq f) (Ne.symm hb)).trans hu) ⟨_,q⟩ ?_
 exact ⟨hz,its',_,hv,q⟩
theorem Inv.lnew {its:List Value}{t':Nat}(I:Inv X pins σ H s)(hv:Vals ys its)(hz:ys.length<=sizeLine):
  Inv X pins σ (upd H s.heap.objs.size (.lst ys)) { s with heap:=s.heap.push { cls:=.type "list",data:=.seq its.toArray },toks:=t' } :=
 I.laid (λ_ _ q=>Heap.get?_push_of_some _ q) (Nat.le_refl _) ⟨hz,its,0,hv,Heap.get?_push_size _ rfl⟩
theorem Inv.fresh (I:Inv X pins σ H s):H s.heap.objs.size=none:=I.hok.fresh (Nat.le_refl _)
theorem Inv.lstM (I:Inv X pins σ H s)(hH:H l=some (.lst xs)):xs.length<=sizeLine/\∃ (its:List Value) (n:Nat),Vals xs its/\xs.length=its.length/\s.heap.get? l=some { cls:=.type "list",data:=.seq its.toArray n }:=by
 obtain ⟨z,its,n,r,e⟩:=I.hok l _ hH
 exact ⟨z,its,n,r,r.length,e⟩
theorem Kj {n:Nat}(h:n<=sizeLine):Builtin.List.listTooLong n=false:=by
 unfold Builtin.List.listTooLong
 exact decide_eq_false ()
end
section
variable {X:Cx}
inductive Nd (x:V)(vs:(List V))(H:Hp)(Q:VK):Prop
 | mk (l:_) (xs:_) (y:_) (h1:x=.ref l) (h2:vs=[y]) (h3:H l=some (.lst xs)) (h4:xs.length < sizeLine) (h5:Q .non (upd H l (.lst (xs++[y])))):Nd x vs H Q
theorem Em:zl X "list.append" Nd:=by
 intro pins s σ H x vs v us Q I rx rv h
 obtain ⟨l,xs,y,rfl,rfl,hH,hz,q⟩:=h
 cases rx
 obtain ⟨u,rfl,ru⟩:=rv.one
 obtain ⟨z,its,n,r,hl,e⟩:=I.lstM hH
 refine call_meets F.slot_list_append ⟨_,e,rfl⟩ F.entry_list_append (F.args_list_append_2 _ _) (PySem.list_append l its.toArray n u (by rw [List.size_toArray];omega)) ⟨e,?_⟩
 refine ⟨.non,_,I.lset (its':=its++[u]) hH e (by simp) (r.append (.cons ru .nil)) ?_,rfl,q⟩
 rw [List.length_append,List.length_singleton]
 omega
inductive Nf (x:V)(vs:(List V))(H:Hp)(Q:VK):Prop
 | mk (l:_) (b:_) (xs:_) (zs:_) (h1:x=.ref l) (h2:vs=[.ref b]) (h3:H l=some (.lst xs)) (h4:H b=some (.lst zs)) (h5:xs.length+zs.length<=sizeLine) (h6:Q .non (upd H l (.lst (xs++zs)))):Nf x vs H Q
theorem Ol:zl X "list.extend" Nf:=by
 intro pins s σ H x vs v us Q I rx rv h
 obtain ⟨l,b,xs,zs,rfl,rfl,hH,hB,hz,q⟩:=h
 cases rx
 obtain ⟨u,rfl,ru⟩:=rv.one
 cases ru
 obtain ⟨z,its,n,r,hl,e⟩:=I.lstM hH
 obtain ⟨z2,II,n2,r2,Hl,e2⟩:=I.lstM hB
 have hsz:its.toArray.size+II.toArray.size<=sizeLine:=by rw [List.size_toArray,List.size_toArray];omega
 have Qx:¬ (!its.toArray.isEmpty && Builtin.List.listTooLong (its.toArray.size+II.toArray.size))=true:=by
  rw [Kj hsz,Bool.and_false]
  exact Bool.false_ne_true
 refine call_meets F.slot_list_extend ⟨_,e,rfl⟩ F.entry_list_extend (F.args_list_extend_2 _ _)
  (AutoSeq1.list_extend_list_list_0 l its.toArray n b II.toArray n2 Qx (by rw [List.size_toArray];omega) ()) ⟨e,e2,?_⟩
 refine ⟨.non,_,I.lset (its':=its++II) hH e (by simp) (r.append r2) ?_,rfl,q⟩
 rw [List.length_append]
 omega
inductive ZO (x:V)(vs:(List V))(H:Hp)(Q:VK):Prop
 | mk (l:_) (xs:_) (y:_) (h1:x=.ref l) (h2:vs=[]) (h3:H l=some (.lst xs)) (h4:xs[xs.length - 1]?=some y) (h5:Q y (upd H l (.lst xs.dropLast))):ZO x vs H Q
theorem GG:zl X "list.pop" ZO:=by
 intro pins s σ H x vs v us Q I rx rv h
 obtain ⟨l,xs,y,rfl,rfl,hH,hy,q⟩:=h
 cases rx
 have lS:=rv.zero
 subst lS
 obtain ⟨z,its,n,r,hl,e⟩:=I.lstM hH
 obtain ⟨u,hu,ru⟩:=r.get hy
 have xA:its.toArray[its.toArray.size - 1]?=some u:=by
  show its.toArray[its.length - 1]?=some u
  rw [<- Array.getElem?_toList,<- hl]
  exact hu
 refine call_meets F.slot_list_pop ⟨_,e,rfl⟩ F.entry_list_pop (F.args_list_pop_1 _) (MeetsSeq.list_pop_last l its.toArray n u xA (by rw [List.size_toArray];omega)) ⟨e,?_⟩
 refine ⟨y,_,I.lset (its':=its.dropLast) hH e ?_ r.dropLast ?_,ru,q⟩
 ·show its.toArray.eraseIdxIfInBounds (its.toArray.size - 1)=its.dropLast.toArray
  rw [List.size_toArray,List.eraseIdxIfInBounds_toArray,LY]
 ·rw [List.length_dropLast]
  omega
inductive LZ (x:V)(y:V)(H:Hp)(Q:VK):Prop
 | mk (l:_) (b:_) (xs:_) (zs:_) (h1:x=.ref l) (h2:y=.ref b) (h3:H l=some (.lst xs)) (h4:H b=some (.lst zs)) (h5:xs.length+zs.length<=sizeLine) (h6:∀ p,H p=none->Q (.ref p) (upd H p (.lst (xs++zs)))):LZ x y H Q
theorem B7:EN X (binaryOp .Add) LZ:=by
 intro pins s σ H x y v u Q I rx ry h
 obtain ⟨l,b,xs,zs,rfl,rfl,hH,hB,hz,q⟩:=h
 cases rx
 cases ry
 obtain ⟨z,its,n,r,hl,e⟩:=I.lstM hH
 obtain ⟨z2,II,n2,r2,Hl,e2⟩:=I.lstM hB
 refine PySem.P.add_list e e2 ?_ (by rw [List.size_toArray,List.size_toArray];omega)
 have ea:its.toArray++II.toArray=(its++II).toArray:=by simp
 rw [ea]
 exact ⟨.ref _,_,I.lnew (t':=s.toks) (r.append r2) (by rw [List.length_append];omega),rfl,q _ I.fresh⟩
noncomputable def zo:R2:=λx y H Q=>∃ l k xs,x=.ref l/\y=.int k/\H l=some (.lst xs)/\-(2 ^ 63)<=k/\k < 2 ^ 63/\xs.length * k.toNat<=sizeLine /\
 ∀ p,H p=none->Q (.ref p) (upd H p (.lst (List.replicate k.toNat xs).flatten))
theorem len_rep {α:Type}(xs:List α)(k:Nat):(List.replicate k xs).flatten.length=k * xs.length:=by
 induction k with
 | zero=>simp
 | succ k ih=>rw [List.replicate_succ,List.flatten_cons,List.length_append,ih,Nat.succ_mul,Nat.add_comm]
theorem ZP:EN X (binaryOp .Mult) zo:=by
 intro pins s σ H x y v u Q I rx ry h
 obtain ⟨l,k,xs,rfl,rfl,hH,h1,h2,hz,q⟩:=h
 cases rx
 obtain ⟨t,rfl⟩:=ry
 obtain ⟨z,its,n,r,hl,e⟩:=I.lstM hH
 have hlen:its.toArray.size * k.toNat<=sizeLine:=by rw [List.size_toArray,<- hl];exact hz
 have zp:¬ its.toArray.size * k.toNat > (2 ^ 63 - 1) / 8:=by
  have:(sizeLine:Nat)<=(2 ^ 63 - 1) / 8:=by decide
  omega
 have G5:¬ (!Builtin.List.listFitsIndex k)=true:=by
  rw [fitsIndex_both h1 h2]
  exact Bool.false_ne_true
 have Qx:¬ Builtin.List.listTooLong (its.toArray.size * k.toNat)=true:=by
  rw [Kj hlen]
  exact Bool.false_ne_true
 have Qy:List.foldl (λx1 x2=>x1++x2) #[] (List.replicate (if its.toArray.isEmpty=true then 0 else k.toNat) its.toArray)=(List.replicate k.toNat its).flatten.toArray:=by
  have f0:∀ m:Nat,List.foldl (λx1 x2=>x1++x2) #[] (List.replicate m its.toArray)=(List.replicate m its).flatten.toArray:=λm=>by
   have:=foldl_rep its m []
   rw [List.nil_append] at this
   exact this
  rw [f0]
  cases its with
  | nil=>simp
  | cons a r'=>rw [if_neg (by simp)]
 refine wpAny_binaryOp_repeat_ref (T:="list") (U:="int") ⟨⟩ ⟨_,e,rfl⟩ (λs'=>typeIs_int s' k t) noFill_list_mul F.fills_int_mul F.slot_int_rmul repeat_list F.slot_int_index.lookup
  (call_meets F.slot_int_rmul (typeIs_int s k t) F.entry_int_rmul (F.args_int_rmul_2 _ _) (int___rmul___int_list k t l its.toArray n)
   ⟨e,rfl,⟨_,e,rfl⟩,call_meets F.slot_list_mul ⟨_,e,rfl⟩ F.entry_list_mul (F.args_list_mul_2 _ _) (AutoListH.list___mul___list_int_3 l its.toArray n k t G5 zp Qx) ⟨e,?_⟩⟩)
 rw [Qy]
 exact ⟨.ref _,_,I.lnew (t':=s.toks) (r.rep k.toNat) (by rw [len_rep,Nat.mul_comm];exact hz),rfl,q _ I.fresh⟩
end
section
variable {κ:Type}[DecidableEq κ]
noncomputable def Cy (AH:List (κ × V))(k:κ):Option V:=(AH.find? λkv=>decide (kv.1=k)).map (·.2)
noncomputable def putK (AH:List (κ × V))(k:κ)(v:V):List (κ × V) :=
 if (AH.any λkv=>decide (kv.1=k))=true then AH.map (λkv=>if kv.1=k then (kv.1,v) else kv) else AH++[(k,v)]
theorem Cz {p:κ × V}{r:List (κ × V)}{k:κ}(e:p.1=k):Cy (p::r) k=some p.2:=by simp [Cy,List.find?_cons,e]
theorem Cc {p:κ × V}{r:List (κ × V)}{k:κ}(e:¬ p.1=k):Cy (p::r) k=Cy r k:=by simp [Cy,List.find?_cons,e]
theorem En (k:κ):∀ AH:List (κ × V),(AH.any λkv=>decide (kv.1=k))=(Cy AH k).isSome
 | []=>rfl
 | p::r=>by
  rw [List.any_cons]
  by_cases e:p.1=k
  ·simp only [Cz e,decide_eq_true e,Bool.true_or,Option.isSome_some]
  ·rw [Cc e,decide_eq_false e,Bool.false_or];exact En k r
theorem Kk (k j:κ)(y:V):∀ AH:List (κ × V),Cy (AH.map λkv=>if kv.1=k then (kv.1,y) else kv) j=(Cy AH j).map λx=>if j=k then y else x
 | []=>rfl
 | p::r=>by
  have ih:=Kk k j y r
  rw [List.map_cons]
  by_cases h:p.1=k
  ·rw [if_pos h]
   by_cases e:p.1=j
   ·rw [Cz (p:=(p.1,y)) e,Cz e,Option.map_some,if_pos (e.symm.trans h)]
   ·rw [Cc (p:=(p.1,y)) e,Cc e,ih]
  ·rw [if_neg h]
   by_cases e:p.1=j
   ·rw [Cz (p:=p) e,Cz e,Option.map_some,if_neg (λz=>h (e.trans z))]
   ·rw [Cc (p:=p) e,Cc e,ih]
theorem J8 (k j:κ)(y:V):∀ AH:List (κ × V),Cy AH k=none->Cy (AH++[(k,y)]) j=if j=k then some y else Cy AH j
 | [],_=>by
  by_cases e:k=j
  ·rw [if_pos e.symm];exact Cz (p:=(k,y)) e
  ·rw [if_neg (λz=>e z.symm)];exact Cc (p:=(k,y)) e
 | p::r,hn=>by
  rw [List.cons_append]
  have hk:¬ p.1=k:=λz=>by rw [Cz z] at hn;cases hn
  rw [Cc hk] at hn
  have ih:=J8 k j y r hn
  by_cases e:p.1=j
  ·rw [Cz e,Cz e,if_neg (λz=>hk (e.trans z))]
  ·rw [Cc e,Cc e,ih]
theorem Kl (AH:List (κ × V))(k j:κ)(y:V):Cy (putK AH k y) j=if j=k then some y else Cy AH j:=by
 unfold putK
 by_cases a:(AH.any λkv=>decide (kv.1=k))=true
 ·rw [if_pos a,Kk]
  rw [En] at a
  by_cases e:j=k
  ·obtain ⟨x,hx⟩:=Option.isSome_iff_exists.mp a
   rw [if_pos e,e,hx,Option.map_some,if_pos rfl]
  ·rw [if_neg e]
   cases Cy AH j with
   | none=>rfl
   | some x=>rw [Option.map_some,if_neg e]
 ·rw [if_neg a]
  refine J8 k j y AH ?_
  rw [En] at a
  cases q:Cy AH k with
  | none=>rfl
  | some x=>rw [q] at a;exact (a rfl).elim
theorem F1 (AH:List (κ × V))(k:κ)(v:V):(putK AH k v).length<=AH.length+1:=by
 unfold putK
 split
 ·rw [List.length_map];omega
 ·rw [List.length_append,List.length_cons,List.length_nil];omega
theorem Qz {AH:List (κ × V)}{k:κ}(v:V)(h:Cy AH k=none):putK AH k v=AH++[(k,v)]:=by
 unfold putK
 rw [En,h]
 exact if_neg ⟨⟩
theorem ET.isSome_eq {o:Option V}{u:Option Value}(r:ET o u):o.isSome=u.isSome:=by
 cases o with
 | none=>cases u with
  | none=>rfl
  | some _=>exact (show False from r).elim
 | some _=>cases u with
  | none=>exact (show False from r).elim
  | some _=>rfl
theorem ET.getD {o:Option V}{u:Option Value}{d:V}{d':Value}(r:ET o u)(left:RelV d d'):RelV (o.getD d) (u.getD d'):=by
 cases o with
 | none=>cases u with
  | none=>exact left
  | some _=>exact (show False from r).elim
 | some _=>cases u with
  | none=>exact (show False from r).elim
  | some _=>exact r
theorem KV.val {AH:List (κ × V)}{vs:List (κ × Value)}(r:KV AH vs)(k:κ):ET (Cy AH k) (valueAt vs k):=by
 unfold KV at r
 induction r with
 | nil=>exact True.intro
 | @cons p q ps qs h t ih =>
  obtain ⟨h1,h2⟩:=h
  by_cases e:p.1=k
  ·have e':q.1=k:=h1.symm.trans e
   have b:valueAt (q::qs) k=some q.2:=by simp [valueAt,List.find?_cons,e']
   rw [Cz e,b];exact h2
  ·have e':¬ q.1=k:=λz=>e (h1.trans z)
   have b:valueAt (q::qs) k=valueAt qs k:=by simp [valueAt,List.find?_cons,e']
   rw [Cc e,b];exact ih
theorem KV.any {AH:List (κ × V)}{vs:List (κ × Value)}(r:KV AH vs)(k:κ):(AH.any λkv=>decide (kv.1=k))=vs.any λkv=>decide (kv.1=k):=by
 unfold KV at r
 induction r with
 | nil=>rfl
 | cons h t ih=>rw [List.any_cons,List.any_cons,ih,h.1]
theorem KV.repl {AH:List (κ × V)}{vs:List (κ × Value)}(r:KV AH vs)(k:κ){y:V}{u:Value}(ry:RelV y u):
  KV (AH.map λkv=>if kv.1=k then (kv.1,y) else kv) (vs.map λkv=>if kv.1=k then (kv.1,u) else kv):=by
 unfold KV at r ⊢
 induction r with
 | nil=>exact .nil
 | @cons p q ps qs h t ih =>
  rw [List.map_cons,List.map_cons]
  refine .cons ?_ ih
  obtain ⟨h1,h2⟩:=h
  by_cases e:p.1=k
  ·rw [if_pos e,if_pos (h1.symm.trans e)];exact ⟨h1,ry⟩
  ·rw [if_neg e,if_neg (λz=>e (h1.trans z))];exact ⟨h1,h2⟩
theorem KV.put {AH:List (κ × V)}{vs:List (κ × Value)}(r:KV AH vs)(k:κ){y:V}{u:Value}(ry:RelV y u):KV (putK AH k y) (stored vs k u):=by
 unfold putK stored
 rw [r.any k]
 by_cases e:(vs.any λkv=>decide (kv.1=k))=true
 ·rw [if_pos e,if_pos e];exact r.repl k ry
 ·rw [if_neg e,if_neg e];exact Paired.snoc r ⟨rfl,ry⟩
theorem KV.length {AH:List (κ × V)}{vs:List (κ × Value)}(r:KV AH vs):AH.length=vs.length:=Paired.length r
end
theorem G6 {P:Program}{w:World}{k:Key}{u:Value}(r:RelV (kV k) u):(Bm P w).is k u=true:=by
 cases k with
 | inl i=>obtain ⟨t,e⟩:=(show ∃ t,u=Value.int i t from r);subst e;exact Kc P w i t
 | inr x=>obtain ⟨t,e⟩:=(show ∃ t,u=Value.str x t from r);subst e;exact EU P w x t
theorem J9 {P:Program}{w:World}:∀ {ks:List Key} {us:List Value},Vals (ks.map kV) us->ItemsAre (Bm P w) ks us
 | [],_,r=>by rw [List.map_nil] at r;cases r;exact .nil
 | k::ks,_,r=>by
  rw [List.map_cons] at r
  cases r with
  | cons h t=>exact .cons (G6 h) (J9 t)
abbrev KT (H:Hp):List (List Key × V)->List (List Key × Addr × Value)->Prop:=Paired λp q=>p.1=q.1/\H q.2.1=some (.tup (p.1.map kV))/\RelV p.2 q.2.2
theorem KT.val {H:Hp}{AH:List (List Key × V)}{xs:List (List Key × Addr × Value)}(r:KT H AH xs)(k:List Key):ET (Cy AH k) ((atKey xs k).map (·.2)):=by
 induction r with
 | nil=>exact True.intro
 | @cons p q ps qs h t ih =>
  obtain ⟨h1,_,h2⟩:=h
  by_cases e:p.1=k
  ·have e':q.1=k:=h1.symm.trans e
   have b:atKey (q::qs) k=some q.2:=by simp [atKey,List.find?_cons,e']
   rw [Cz e,b];exact h2
  ·have e':¬ q.1=k:=λz=>e (h1.trans z)
   have b:atKey (q::qs) k=atKey qs k:=by simp [atKey,List.find?_cons,e']
   rw [Cc e,b];exact ih
theorem KT.repl {H:Hp}{AH:List (List Key × V)}{xs:List (List Key × Addr × Value)}(r:KT H AH xs)(k:List Key){y:V}{u:Value}(ry:RelV y u):
  KT H (AH.map λkv=>if kv.1=k then (kv.1,y) else kv) (xs.map (putAt k u)):=by
 induction r with
 | nil=>exact .nil
 | @cons p q ps qs h t ih =>
  rw [List.map_cons,List.map_cons]
  refine .cons ?_ ih
  obtain ⟨h1,h2,h3⟩:=h
  unfold putAt
  by_cases e:p.1=k
  ·rw [if_pos e,if_pos (h1.symm.trans e)];exact ⟨h1,h2,ry⟩
  ·rw [if_neg e,if_neg (λz=>e (h1.trans z))];exact ⟨h1,h2,h3⟩
theorem KT.put {H:Hp}{AH:List (List Key × V)}{xs:List (List Key × Addr × Value)}(r:KT H AH xs)(k:List Key){b:Addr}{y:V}{u:Value}(hb:H b=some (.tup (k.map kV)))(ry:RelV y u):
  KT H (putK AH k y) (storedH xs k b u):=by
 have e:(AH.any λkv=>decide (kv.1=k))=(atKey xs k).isSome:=by
  rw [En,(r.val k).isSome_eq,Option.isSome_map]
 unfold putK storedH
 rw [e]
 by_cases q:(atKey xs k).isSome=true
 ·rw [if_pos q,if_pos q];exact r.repl k ry
 ·rw [if_neg q,if_neg q];exact Paired.snoc r ⟨rfl,hb,ry⟩
theorem KT.keeps {H H':Hp}{AH:List (List Key × V)}{xs:List (List Key × Addr × Value)}(r:KT H AH xs)(ht:∀ b ys,H b=some (.tup ys)->H' b=some (.tup ys)):KT H' AH xs :=
 Paired.mapP r λ_ _ z=>⟨z.1,ht _ _ z.2.1,z.2.2⟩
section
variable {P:Program}{w:World}{H:Hp}{h:Heap}{a:Addr}
theorem Xm {u:HO}(ok:E8 P w H h)(e:Rd H a u):Bk P w H h a u:=e.ok ok
theorem HP {AH:List (Key × V)}(ok:E8 P w H h)(e:Rd H a (.dK AH)):AH.length<=sizeLine/\(a==sysModules)=false/\∃ vs,KV AH vs/\h.DictOf (Bm P w) a vs :=
 show Bk P w H h a (.dK AH) from Xm ok e
theorem Xn {AH:List (Key × V)}(ok:E8 P w H h)(e:H a=some (.dK AH)):AH.length<=sizeLine/\(a==sysModules)=false/\∃ vs,KV AH vs/\h.DictOf (Bm P w) a vs:=HP ok (.inl e)
theorem HQ {ks:List Key}(ok:E8 P w H h)(e:H a=some (.tup (ks.map kV))):(tupleKind (Bm P w)).is h ks a:=by
 obtain ⟨_,its,r,o,h1,h2,n,h3⟩:=(show Bk P w H h a (.tup (ks.map kV)) from ok a _ e)
 exact ⟨o,its.toArray,n,h1,h2,h3,by simpa using J9 r⟩
theorem Ja {AH:List (List Key × V)}(ok:E8 P w H h)(e:Rd H a (.dT AH)):AH.length<=sizeLine/\(a==sysModules)=false /\
  ∃ xs,KT H AH xs/\h.DictOfH (tupleKind (Bm P w)) a xs:=by
 obtain ⟨z,y,xs,r,o,es,ep,h1,h2,h3,h4,h5⟩:=(show Bk P w H h a (.dT AH) from Xm ok e)
 refine ⟨z,y,xs,r,o,es,ep,h1,h2,h3,h4,λx hx=>?_,h5⟩
 have all:∀ {l:List (List Key × V)} {m:List (List Key × Addr × Value)},KT H l m->∀ x∈m,(tupleKind (Bm P w)).is h x.1 x.2.1:=by
  intro l m q
  induction q with
  | nil=>intro x hx;exact nomatch hx
  | @cons p q ps qs hq t ih =>
   intro x hx
   rcases List.mem_cons.mp hx with e | hx
   ·subst e
    exact HQ ok (by rw [<- hq.1];exact hq.2.1)
   ·exact ih x hx
 exact all r x hx
theorem nW {AH:List (List Key × V)}(ok:E8 P w H h)(e:H a=some (.dT AH)):AH.length<=sizeLine/\(a==sysModules)=false /\
  ∃ xs,KT H AH xs/\h.DictOfH (tupleKind (Bm P w)) a xs:=Ja ok (.inl e)
end
noncomputable def Eg (H:Hp)(a:Addr)(y:V)(r:Option V):Prop :=
 (∃ AH k,Rd H a (.dK AH)/\y=kV k/\r=Cy AH k)\/∃ AH k b,Rd H a (.dT AH)/\y=.ref b/\H b=some (.tup (k.map kV))/\r=Cy AH k
noncomputable def QA (H:Hp)(a:Addr)(y v:V)(H':Hp):Prop :=
 (∃ AH k,H a=some (.dK AH)/\y=kV k/\AH.length < sizeLine/\H'=upd H a (.dK (putK AH k v))) \/
 ∃ AH k b,H a=some (.dT AH)/\y=.ref b/\H b=some (.tup (k.map kV))/\AH.length < sizeLine/\H'=upd H a (.dT (putK AH k v))
theorem Eg.k {H:Hp}{a:Addr}{AH:List (Key × V)}{k:Key}(e:H a=some (.dK AH)):Eg H a (kV k) (Cy AH k):=.inl ⟨AH,k,.inl e,rfl,rfl⟩
theorem QA.k {H:Hp}{a:Addr}{AH:List (Key × V)}{k:Key}{v:V}(e:H a=some (.dK AH))(hl:AH.length < sizeLine):QA H a (kV k) v (upd H a (.dK (putK AH k v))):=.inl ⟨AH,k,e,rfl,hl,rfl⟩
section
variable {X:Cx}{pins:List (Addr × Obj)}{σ:St}{H:Hp}{s:Shared}{a:Addr}{y v:V}{u r:Value}{o:Option V}{A:Around}{E:Value->Shared->Prop}
theorem Inv.big (I:Inv X pins σ H s):sysModules < s.heap.objs.size:=by
 have h:mainGlobals < s.heap.objs.size:=(I.mod.glob.keeps I.bk).lt
 exact Nat.lt_trans ⟨⟩ h
theorem Om {Q:Value->Shared->Prop}(hu:A.units+1 < cLine)(I:Inv X pins σ H s)(g:Eg H a y (some v))(ry:RelV y u)(h:∀ w' s',Inv X pins σ H s'->RelV v w'->Q w' s'):
  wpAny (model X.prog X.w) A (getItem (.ref a) u) Q E s:=by
 rcases g with ⟨AH,k,e,ey,l⟩ | ⟨AH,k,b,e,ey,eb,l⟩
 ·subst ey
  obtain ⟨z,hd,vs,rel,dd⟩:=HP I.hok e
  obtain ⟨w',hw,Qt⟩:=ET.some_of (v:=v) (o:=valueAt vs k) (by rw [l];exact rel.val k)
  exact wpAny_getItem_of (G6 ry) dd.mapOf hw (h w' _ (I.tok _) Qt)
 ·subst ey
  cases (show u=Value.ref b from ry)
  obtain ⟨z,hd,xs,rel,dd⟩:=Ja I.hok e
  obtain ⟨w',hw,Qt⟩:=ET.some_of (v:=v) (o:=(atKey xs k).map (·.2)) (by rw [l];exact rel.val k)
  obtain ⟨p,hp,L'⟩:=Option.map_eq_some_iff.mp hw
  refine wpAny_getItem_heap (tupleKind_room_in1 hu) (HQ I.hok eb) dd hp ?_
  rw [L']
  exact h w' _ (I.tok _) Qt
theorem zq {Q:Value->Shared->Prop}(hu:A.units+1 < cLine)(I:Inv X pins σ H s)(g:Eg H a y o)(ry:RelV y u)(h:∀ s',Inv X pins σ H s'->Q (.bool o.isSome) s'):
  wpAny (model X.prog X.w) A (compareOp .In u (.ref a)) Q E s:=by
 rcases g with ⟨AH,k,e,ey,l⟩ | ⟨AH,k,b,e,ey,eb,l⟩
 ·subst ey
  obtain ⟨z,hd,vs,rel,dd⟩:=HP I.hok e
  refine wpAny_in_of (G6 ry) hd dd.mapOf ?_
  rw [<- (rel.val k).isSome_eq,<- l]
  exact h _ (I.tok _)
 ·subst ey
  cases (show u=Value.ref b from ry)
  obtain ⟨z,hd,xs,rel,dd⟩:=Ja I.hok e
  refine wpAny_in_heap (tupleKind_room_in1 hu) (HQ I.hok eb) hd dd ?_
  have q:=(rel.val k).isSome_eq
  rw [Option.isSome_map] at q
  rw [<- q,<- l]
  exact h _ (I.tok _)
theorem JJ {h':Heap}{t':Nat}{ob:HO}(I:Inv X pins σ H s)(mu:nc (H a))(hs:Heap.SameBut a s.heap h')(he:∃ q,h'.get? a=some q)(new:Bk X.prog X.w (upd H a ob) h' a ob):
  Inv X pins σ (upd H a ob) { s with heap:=h',toks:=t' } :=
 I.write (x:=a) (e:=a) mu (.inl rfl) (λb q hb z=>(hs.2 b hb).trans z) he new
theorem JK {P:Program}{w:World}{H':Hp}{h':Heap}{AH:List (Key × V)}{vs:List (Key × Value)}(z:AH.length<=sizeLine)(hd:(a==sysModules)=false)(rel:KV AH vs)(dd:h'.DictOf (Bm P w) a vs):
  Bk P w H' h' a (.dK AH):=⟨z,hd,vs,rel,dd⟩
theorem Oo {H':Hp}{Q:Unit->Shared->Prop}(hu:A.units+1 < cLine)(I:Inv X pins σ H s)(g:QA H a y v H')(ry:RelV y u)(rv:RelV v r)(h:∀ s',Inv X pins σ H' s'->Q .unit s'):
  wpAny (model X.prog X.w) A (setItem (.ref a) u r) Q E s:=by
 rcases g with ⟨AH,k,e,ey,l,eH⟩ | ⟨AH,k,b,e,ey,eb,l,eH⟩
 ·subst ey eH
  obtain ⟨z,hd,vs,rel,dd⟩:=Xn I.hok e
  have hz:vs.length<=sizeLine:=by rw [<- rel.length];exact z
  have hl:(putK AH k v).length<=sizeLine:=by have:=F1 AH k v;omega
  refine wpAny_setItem_pairs (hsz:=hz) (G6 ry) dd λh' PQ hs=>h _ ?_
  have he:∃ q,h'.get? a=some q:=let ⟨q,_,_,hq,_⟩:=PQ;⟨q,hq⟩
  exact JJ I (by rw [e];exact True.intro) hs he (JK hl hd (rel.put k rv) PQ)
 ·subst ey eH
  cases (show u=Value.ref b from ry)
  obtain ⟨z,hd,xs,rel,dd⟩:=nW I.hok e
  have hz:xs.length<=sizeLine:=by rw [<- Paired.length rel];exact z
  have hl:(putK AH k v).length<=sizeLine:=by have:=F1 AH k v;omega
  refine wpAny_setItem_heap (hsz:=hz) (tupleKind_room_in1 hu) (HQ I.hok eb) dd λh' PQ hs=>h _ ?_
  obtain ⟨q,es,ep,hq,h2,h3,h4,_,h5⟩:=PQ
  refine JJ I (by rw [e];exact True.intro) hs ⟨q,hq⟩ ⟨hl,hd,_,(rel.put k eb rv).keeps λc ys ec=>?_,q,es,ep,hq,h2,h3,h4,h5⟩
  rw [Aq (E7 ec e (λz=>nomatch z))]
  exact ec
end
noncomputable def M0 (i:Expr):Prop:=∀ ov iv,subscripted i false ov iv=operate [ov,iv] (getItem ov iv)
theorem JL {prog:Program}{w:World}{A:Around}{E:Value->Shared->Prop}{s:Shared}{env:Env}{value slice:Expr}{pos:Pos}{T id:String}{Q:Value->Shared->Prop}
  (hl:typeLookup (.type T) "__getitem__"=pure (some (.builtin id))) (hs:M0 slice)
  (h:wpAny (model prog w) A (eval value env) (λo s₁=>wpAny (model prog w) A (eval slice env) (λi s₂=>s₂.TypeIs o T/\wpAny (model prog w) A (getItem o i) Q E s₂) E s₁) E s) :
  wpAny (model prog w) A (eval (.Subscript value slice pos) env) Q E s:=by
 refine Subscript_ (wpAny_mono h (λo s₁ h₁=>wpAny_mono h₁ (λi s₂ h₂=>?_) λ_ _ x=>x) λ_ _ x=>x)
 obtain ⟨hT,h₂⟩:=h₂
 unfold subscriptTail
 refine wpAny_bind ?_
 rw [getitemInPython_of_ne hT.not_modules]
 refine wpAny_bind (wpAny_specialOf hT hl ?_)
 have fin:wpAny (model prog w) A (subscripted slice false o i) (λr s₃=>wpAny (model prog w) A (letTemporaryGo value o r >>= λ_=>pure r) Q E s₃) E s₂:=by
  rw [hs o i]
  exact wpAny_operating (wpAny_mono h₂ (λr s₃ h₃=>wpAny_bind (wpAny_letTemporaryGo (wpAny_pure h₃))) λ_ _ x=>x)
 first
  | exact wpAny_pure (wpAny_bind fin)
  | exact wpAny_bind (wpAny_pure (wpAny_bind fin))
  | exact wpAny_bind fin
theorem Km {X:Cx}{pins:List (Addr × Obj)}{σ:St}{H:Hp}{s:Shared}{a:Addr}{y:V}{o:Option V}(I:Inv X pins σ H s)(g:Eg H a y o):s.TypeIs (.ref a) "dict":=by
 rcases g with ⟨AH,k,e,_,_⟩ | ⟨AH,k,b,e,_,_,_⟩
 ·obtain ⟨_,_,vs,_,dd⟩:=HP I.hok e
  exact dd.typeIs
 ·obtain ⟨_,_,xs,_,dd⟩:=Ja I.hok e
  exact dd.typeIs
inductive M6 (Q:VK)(x:V)(y:V)(H2:Hp):Prop
 | mk (a:_) (v:_) (h1:x=.ref a) (h2:Eg H2 a y (some v)) (h3:Q v H2):M6 Q x y H2
noncomputable def Ng (td ty:TE):TE:=fun σ H Q=>td σ H λx H1=>ty σ H1 λy H2=>M6 Q x y H2
inductive QC (Q:VK)(y:V)(x:V)(H2:Hp):Prop
 | mk (a:_) (o:_) (h1:x=.ref a) (h2:Eg H2 a y o) (h3:Q (.bl o.isSome) H2):QC Q y x H2
noncomputable def ZQ (ty td:TE):TE:=fun σ H Q=>ty σ H λy H1=>td σ H1 λx H2=>QC Q y x H2
inductive M7 (N:St->Hp->Prop)(σ:St)(v:V)(x:V)(y:V)(H3:Hp):Prop
 | mk (a:_) (H4:_) (h1:x=.ref a) (h2:QA H3 a y v H4) (h3:N σ H4):M7 N σ v x y H3
noncomputable def QD (td ty tv:TE):TS:=λD σ H=>tv σ H λv H1=>td σ H1 λx H2=>ty σ H2 λy H3=>M7 D.nx σ v x y H3
section
variable {X:Cx}{o i e value:Expr}{pos pos' Ur:Pos}{td ty tv:TE}
theorem UB (hu:X.A.units+1 < cLine)(ho:PE X o td)(hi:PE X i ty)(hs:M0 i):PE X (.Subscript o i pos) (Ng td ty):=by
 intro pins s σ H Q I h
 refine JL PySem.F.slot_dict_getitem.lookup hs (BA (ho pins s σ H _ I h) λu s1 ⟨x,H1,I1,rx,q1⟩=>BA (hi pins s1 σ H1 _ I1 q1) λiv s2 ⟨y,H2,I2,ry,a,v,ex,g,q2⟩=>?_)
 subst ex
 obtain rfl:u=Value.ref a:=rx
 exact ⟨Km I2 g,Om hu I2 g ry λw' s3 I3 Qt=>⟨v,H2,I3,Qt,q2⟩⟩
theorem ZR (hu:X.A.units+1 < cLine)(hi:PE X i ty)(ho:PE X o td):PC X .In i o (ZQ ty td):=by
 intro pins s σ H Q I h
 refine BA (hi pins s σ H _ I h) λiv s1 ⟨y,H1,I1,ry,q1⟩=>BA (ho pins s1 σ H1 _ I1 q1) λu s2 ⟨x,H2,I2,rx,a,ov,ex,g,q2⟩=>?_
 subst ex
 obtain rfl:u=Value.ref a:=rx
 exact zq hu I2 g ry λs3 I3=>⟨.bl ov.isSome,H2,I3,rfl,q2⟩
theorem UC (hu:X.A.units+1 < cLine)(ho:PE X o td)(hi:PE X i ty)(hv:PE X value tv)(hs:swapsWith value (some (.Subscript o i pos')) pos.line X.env=pure false):
  PS X (.Assign [.Subscript o i pos'] value pos) (QD td ty tv):=by
 intro pins s σ H D I h
 refine wpAny_Assign_Subscript (BA (hv pins s σ H _ I h) λr s1 ⟨v,H1,I1,rv,q1⟩=>BA (ho pins s1 σ H1 _ I1 q1) λu s2 ⟨x,H2,I2,rx,q2⟩=>BA (hi pins s2 σ H2 _ I2 q2) λiv s3 ⟨y,H3,I3,ry,a,H4,ex,g,q3⟩=>?_) hs
 subst ex
 obtain rfl:u=Value.ref a:=rx
 exact Oo hu I3 g ry rv λs4 I4=>⟨σ,H4,I4,q3⟩
end
theorem Kn {P:Program}{w:World}{H:Hp}(h:Heap)(hb:sysModules < h.objs.size):Bk P w H (h.push { cls:=.type "dict",data:=.dict #[] }) h.objs.size (.dK []) :=
 ⟨Nat.zero_le _,beq_eq_false_iff_ne.mpr (Ne.symm (Nat.ne_of_lt hb)),[],.nil,Heap.DictOf.new h⟩
noncomputable def QE:TE:=λ_ H Q=>∀ p,H p=none->Q (.ref p) (upd H p (.dK []))
section
variable {X:Cx}{pos:Pos}
theorem QF:PE X (.Dict [] [] pos) QE:=λpins s σ H Q I h =>
 wpAny_Dict_empty ⟨.ref s.heap.objs.size,_,I.laid (a:=s.heap.objs.size) (o:=.dK []) (t':=s.toks) (λ_ _ q=>Heap.get?_push_of_some _ q) (Nat.le_refl _) (Kn s.heap I.big),rfl,h _ (I.hok.fresh (Nat.le_refl _))⟩
end
noncomputable def FG:List (TE × TE)->St->Hp->(List (V × V)->Hp->Prop)->Prop
 | [],_,H,Q=>Q [] H
 | (tk,tv)::r,σ,H,Q=>tk σ H λx H1=>tv σ H1 λy H2=>FG r σ H2 λps H3=>Q ((x,y)::ps) H3
abbrev VV:List (V × V)->List (Value × Value)->Prop:=Paired λp q=>RelV p.1 q.1/\RelV p.2 q.2
noncomputable def nX (X:Cx)(pos:Pos)(keys:List (Option Expr))(values:List Expr)(Jb:List (TE × TE)):Prop :=
 ∀ (pins:List (Addr × Obj)) (s:Shared) (σ:St) (H:Hp) (Q:List (V × V)->Hp->Prop),Inv X pins σ H s->FG Jb σ H Q ->
  wpAny (model X.prog X.w) X.A (evalPairs (pairTrees keys values X.env pos)) (λvs s'=>∃ ps H',Inv X pins σ H' s'/\VV ps vs/\Q ps H') X.xe s
theorem UD {X:Cx}{pos:Pos}:nX X pos [] [] []:=λpins s σ H Q I h=>pairTrees_nil_walk ⟨[],H,I,.nil,h⟩
theorem QG {X:Cx}{pos:Pos}{k v:Expr}{ks:List (Option Expr)}{vs:List Expr}{tk tv:TE}{Jb:List (TE × TE)}(hk:PE X k tk)(hv:PE X v tv)(hr:nX X pos ks vs Jb):
  nX X pos (some k::ks) (v::vs) ((tk,tv)::Jb):=λpins s σ H Q I h =>
 pairTrees_cons_walk (BA (hk pins s σ H _ I h) λu s1 ⟨x,H1,I1,rx,q1⟩=>BA (hv pins s1 σ H1 _ I1 q1) λw2 s2 ⟨y,H2,I2,ry,q2⟩ =>
  BA (hr pins s2 σ H2 _ I2 q2) λws s3 ⟨ps,H3,I3,rel,q3⟩=>⟨(x,y)::ps,H3,I3,.cons ⟨rx,ry⟩ rel,q3⟩)
noncomputable def Di (AH more:List (Key × V)):List (Key × V):=more.foldl (λacc kv=>putK acc kv.1 kv.2) AH
theorem KV.merge:∀ {more:List (Key × V)} {rs:List (Key × Value)} {AH:List (Key × V)} {vs:List (Key × Value)},KV more rs->KV AH vs->KV (Di AH more) (merged vs rs):=by
 intro more rs AH vs r
 unfold KV at r
 induction r generalizing AH vs with
 | nil=>intro q;exact q
 | @cons p q ps qs h t ih =>
  intro r0
  have e:KV (putK AH p.1 p.2) (stored vs q.1 q.2):=by
   have:=r0.put p.1 h.2
   rw [<- h.1];exact this
  exact ih e
theorem Fv:∀ (more AH:List (Key × V)),(Di AH more).length<=AH.length+more.length
 | [],AH=>by show AH.length<=AH.length+0;omega
 | p::r,AH=>by
  have h1:=Fv r (putK AH p.1 p.2)
  have h2:=F1 AH p.1 p.2
  show (Di (putK AH p.1 p.2) r).length<=_
  rw [List.length_cons];omega
theorem HR {P:Program}{w:World}:∀ {AH:List (Key × V)} {ws:List (Value × Value)},VV (AH.map λkv=>(kV kv.1,kv.2)) ws->∃ rs,Carries (Bm P w) ws rs/\KV AH rs
 | [],_,r=>by rw [List.map_nil] at r;cases r;exact ⟨[],True.intro,.nil⟩
 | p::AH,_,r=>by
  rw [List.map_cons] at r
  cases r with
  | @cons a b as bs h t =>
   obtain ⟨rs,c,q⟩:=HR (P:=P) (w:=w) t
   obtain ⟨b1,b2⟩:=b
   exact ⟨(p.1,b2)::rs,⟨G6 h.1,rfl,c⟩,.cons ⟨rfl,h.2⟩ q⟩
noncomputable def QH (Jb:List (TE × TE)):TE:=fun σ H Q=>∀ p,H p=none->FG Jb σ (upd H p (.dK [])) λps H2=>H2 p=some (.dK [])/\∃ AH:List (Key × V),ps=AH.map (λkv=>(kV kv.1,kv.2))/\AH.length<=15/\Q (.ref p) (upd H2 p (.dK (Di [] AH)))
theorem UE {X:Cx}{pos:Pos}{keys:List (Option Expr)}{values:List Expr}{Jb:List (TE × TE)}(h:nX X pos keys values Jb)(QI:keys.all (·.isSome)=true)(hl:keys.length=values.length)(h0:keys≠[])
  (zr:keys.length<=15):PE X (.Dict keys values pos) (QH Jb):=by
 intro pins s σ H Q I q
 have hn:=I.hok.fresh (Nat.le_refl s.heap.objs.size)
 have I1:=I.laid (a:=s.heap.objs.size) (o:=.dK []) (h':=s.heap.push { cls:=.type "dict",data:=.dict #[] }) (t':=s.toks) (λ_ _ q=>Heap.get?_push_of_some _ q) (Nat.le_refl _) (Kn s.heap I.big)
 refine wpAny_Dict_walk (knd:=Bm X.prog X.w) QI hl h0 zr (BA (h pins _ σ _ _ I1 (q _ hn)) λws s2 ⟨ps,H2,I2,rel,e,AH,ep,lk,q2⟩=>?_)
 subst ep
 obtain ⟨rs,c,rk⟩:=HR (P:=X.prog) (w:=X.w) rel
 obtain ⟨z,hd,vs0,r0,dd⟩:=Xn I2.hok e
 cases r0
 refine ⟨rs,c,dd,λh' PQ hs=>⟨.ref s.heap.objs.size,_,?_,rfl,q2⟩⟩
 have hz:(Di [] AH).length<=sizeLine:=by
  have h1:=Fv AH []
  rw [List.length_nil] at h1
  rw [sizeLine_eq];omega
 have he:∃ q,h'.get? s.heap.objs.size=some q:=let ⟨q,_,_,hq,_⟩:=PQ;⟨q,hq⟩
 exact JJ I2 (by rw [e];exact True.intro) hs he (JK hz hd (rk.merge .nil) PQ)
structure M2 (X:Cx)(o:Expr)(m:Str)(apos:Pos)(e f:Expr)(Cw:Pos):Prop where
 base:attributeBase o m X.env (eval o X.env)=eval o X.env
 few:((backTo Cw (starEach [e,f] X.env)).all (λx=>!x.1) && (backToKw Cw (keywordEach [] X.env)).all (λx=>x.1.isSome)
  && decide (([e,f]:List Expr).length+([]:List Keyword).length+(if ([]:List Keyword).isEmpty then 0 else 1) < 30))=true
 line:(apos.endLine==Cw.line)=true
 trees:backTo Cw (starEach [e,f] X.env)=[(false,eval e X.env),(false,eval f X.env)]
noncomputable def zt (H:Hp)(a:Addr):Prop:=(∃ AH,Rd H a (.dK AH))\/∃ AH,Rd H a (.dT AH)
theorem ZS {X:Cx}{pins:List (Addr × Obj)}{σ:St}{H:Hp}{s:Shared}{a:Addr}(I:Inv X pins σ H s)(d:zt H a):
  s.TypeIs (.ref a) "dict"/\(∀ b,Value.ref a=.ref b->∃ ob,s.heap.get? b=some ob/\ob.dict=none)/\(a==sysModules)=false:=by
 rcases d with ⟨AH,e⟩ | ⟨AH,e⟩
 ·obtain ⟨_,hd,vs,_,dd⟩:=HP I.hok e
  refine ⟨dd.typeIs,λb q=>?_,hd⟩
  cases q
  obtain ⟨ob,_,_,h1,h2,_⟩:=dd
  exact ⟨ob,h1,h2.2.1⟩
 ·obtain ⟨_,hd,xs,_,dd⟩:=Ja I.hok e
  refine ⟨dd.typeIs,λb q=>?_,hd⟩
  cases q
  obtain ⟨ob,_,_,h1,h2,_⟩:=dd
  exact ⟨ob,h1,h2.2.1⟩
section
variable {X:Cx}{pins:List (Addr × Obj)}{σ:St}{H:Hp}{s:Shared}{a:Addr}{y d:V}{u r:Value}{o:Option V}{A:Around}{E:Value->Shared->Prop}
theorem ZT {Q:Value->Shared->Prop}(hu:A.units+1 < cLine)(I:Inv X pins σ H s)(g:Eg H a y o)(ry:RelV y u)(left:RelV d r)(h:∀ w' s',Inv X pins σ H s'->RelV (o.getD d) w'->Q w' s'):
  wpAny (model X.prog X.w) A (call (.builtin "dict.get") [.ref a,u,r]) Q E s:=by
 rcases g with ⟨AH,k,e,ey,l⟩ | ⟨AH,k,b,e,ey,eb,l⟩
 ·subst ey
  obtain ⟨z,hd,vs,rel,dd⟩:=HP I.hok e
  refine call_meetsIn PySem.F.slot_dict_get dd.typeIs PySem.F.entry_dict_get (PySem.F.args_dict_get_3 _ _ _) (meets_dict_get_default (Bm X.prog X.w) a (G6 ry) hd r) ⟨_,dd.mapOf,h _ _ (I.tok _) ?_⟩
  rw [l]
  exact (rel.val k).getD left
 ·subst ey
  cases (show u=Value.ref b from ry)
  obtain ⟨z,hd,xs,rel,dd⟩:=Ja I.hok e
  refine call_meetsIn PySem.F.slot_dict_get dd.typeIs PySem.F.entry_dict_get (PySem.F.args_dict_get_3 _ _ _) (meetsH_dict_get_default (tupleKind (Bm X.prog X.w)) a b hd r) ⟨tupleKind_room_in1 hu,k,xs,HQ I.hok eb,dd,h _ _ (I.tok _) ?_⟩
  rw [l]
  exact (rel.val k).getD left
end
noncomputable def M8 (td ty tx:TE):TE:=fun σ H Q=>td σ H λx H1=>∃ a,x=.ref a/\zt H1 a/\ty σ H1 λy H2=>tx σ H2 λz H3=>∃ o,Eg H3 a y o/\Q (o.getD z) H3
section
variable {X:Cx}{o e f:Expr}{apos Cw:Pos}{td ty tx:TE}
theorem QJ (hu:X.A.units+1 < cLine)(ho:PE X o td)(he:PE X e ty)(hf:PE X f tx)(m:M2 X o "get" apos e f Cw):PE X (.Call (.Attribute o "get" apos) [e,f] [] Cw) (M8 td ty tx):=by
 intro pins s σ H Q I h
 refine wpAny_Call_method m.base m.few m.line PySem.F.plainAttrs_dict PySem.F.slot_dict_get PySem.F.type_dict_get (BA (ho pins s σ H _ I h) λu s1 ⟨x,H1,I1,rx,a,ex,d,q1⟩=>?_)
 subst ex
 obtain rfl:u=Value.ref a:=rx
 obtain ⟨t1,t2,_⟩:=ZS I1 d
 refine ⟨t1,t2,?_⟩
 rw [m.trees]
 refine Calls.callWith_builtin rfl (Calls.evalArgs_plain (Calls.spliced_cons (BA (he pins s1 σ H1 _ I1 q1) λiv s2 ⟨y,H2,I2,ry,q2⟩ =>
  Calls.spliced_cons (BA (hf pins s2 σ H2 _ I2 q2) λfv s3 ⟨z,H3,I3,rz,ov,g,q3⟩=>Calls.spliced_nil ?_))))
 exact ZT hu I3 g ry rz λw' s4 I4 Qt=>⟨_,H3,I4,Qt,q3⟩
end
section
variable {X:Cx}{pins:List (Addr × Obj)}{σ:St}{H:Hp}{s:Shared}{a:Addr}{AH:List (Key × V)}{A:Around}{E:Value->Shared->Prop}
theorem QK {Q:Value->Shared->Prop}(I:Inv X pins σ H s)(e:Rd H a (.dK AH))(h:∀ p s',H p=none->Inv X pins σ (upd H p (.dK AH)) s'->Q (.ref p) s'):wpAny (model X.prog X.w) A (call (.type "dict") [.ref a]) Q E s:=by
 obtain ⟨z,hd,vs,rel,dd⟩:=HP I.hok e
 refine kt_call_dict hd dd (by rw [<- rel.length];exact z) λh' PQ hs=>?_
 refine h _ _ (I.hok.fresh (Nat.le_refl _)) (I.laid (a:=s.heap.objs.size) (o:=.dK AH) (t':=s.toks) (λb q hq=>?_) (Nat.le_refl _) (JK z (beq_eq_false_iff_ne.mpr (Ne.symm (Nat.ne_of_lt I.big))) rel PQ))
 exact (hs.2 b (Nat.ne_of_lt (Heap.lt_size hq))).trans (Heap.get?_push_of_some _ hq)
end
end L2
namespace Att
open PySem PySem.W PySem.Calls PyProof.Rows
theorem Hn {P:Params}{h:Heap}:∀ (ns:List Int) (vs:List Value),WellAll P h vs (ns.map WData.int)->IntsAre vs ns:=by
 intro ns
 induction ns with
 | nil =>
  intro vs w
  rw [List.map_nil] at w
  cases w
  exact .nil
 | cons n ns ih =>
  intro vs w
  rw [List.map_cons] at w
  cases w with
  | cons a b =>
   cases a
   exact .cons _ _ (ih _ b)
theorem Oq {l:OpenLaw}{n:Nat}(hn:l.most=some n){P:Params}{h:Heap}{args:List WData}{vals:List Value}
  (UG:l.row.toRowW.claim.pre args=true) (xB:WellAll P h vals args) :
  ∃ a vs ns,vals=[Value.ref a]/\args=[WData.list (ns.map WData.int)]/\h.get? a=some { cls:=.type "list",data:=.seq vs.toArray }/\IntsAre vs ns/\ns.length<=n:=by
 have zu:WShape.hasAll [] args [.list .int]=true:=(pre_splitW UG).1
 have hc:l.pre.holds [] { args:=args }=true:=(pre_splitW UG).2
 obtain ⟨d,r,rfl,h1,h2⟩:=hasAllW_cons zu
 obtain rfl:=hasAllW_nil h2
 obtain ⟨xs,rfl,h3⟩:=hasW_list h1
 obtain ⟨ns,rfl⟩:=items_int h3
 have hlen:ns.length<=n:=by
  unfold OpenLaw.pre at hc
  have h4:(WTm.not (.lt (.lit (.int (n:Int))) (.len (.arg 0)))).holds [] { args:=[.list (ns.map .int)] }=true:=by
   have h4:=(holds_andW hc).1
   rw [hn] at h4
   exact h4
  have h5:=condW_of h4 (w_not (w_lt w_lit (w_len_list (w_arg rfl))))
  rw [List.length_map] at h5
  refine Nat.le_of_not_lt λq=>?_
  have q':(n:Int) < ((ns.length:Nat):Int):=by omega
  first
   | (rw [decide_eq_true q'] at h5;exact absurd h5 ⟨⟩)
   | (simp at h5;omega)
 cases xB with
 | cons w1 w2 =>
  cases w2
  cases w1 with
  | list ho QI=>exact ⟨_,_,ns,rfl,rfl,ho,Hn ns _ QI,hlen⟩
theorem Ot (l:OpenLaw)(args:List WData):l.row.toRowW.claim.post args (.bool true) args=true :=
 postW_of (r:=l.row.toRowW) (X:=(true==true))
  (show WShape.has [] (.bool true) .bool=true by first | rfl | decide | simp [WShape.has,WShape.arms,WShape.armsAll])
  (show (WTm.eq .res (.lit (.bool true))).value [] { args:=args,res:=some (.bool true),after:=args }=some (.bool (true==true)) from w_eq_bool (w_res rfl) w_lit) rfl
theorem attach_call {l:OpenLaw}{n:Nat}{q:Program}{loose:List Str}{XP:(Str->Option Value)->Heap->Prop}{YP:World->Heap->Prop}{d:DefRec}
  (hn:l.most=some n) (zw:d.params.defaults=[])
  (call:∀ (w:World) (s₀ s₁:Shared) (mg mb:Str->Option Value) (fa:Addr) (o:Obj) (pm cd doc:Value) (a:Addr) (vs:List Value) (ns:List Int),
   Ground q loose [] XP w s₀ mg mb s₁.heap->YP w s₁.heap ->
   s₁.heap.get? fa=some o->o.data=.func (docDef d.name d.params d.body d.scope pm cd doc)->s₁.heap.CodeRec cd d.name->mg d.name=some (.ref fa) ->
   s₁.heap.get? a=some { cls:=.type "list",data:=.seq vs.toArray }->IntsAre vs ns->ns.length<=n->s₁.gens=#[] ->
   codeAny (model l.prog w) callerA (.call (.ref fa) ⟨[.ref a],[]⟩) (λr s'=>r=.ok (.ret (.bool true))/\OldK s₁.heap s'.heap/\s'.os=s₁.os/\AllBare s'.gens) s₁) :
  WalkO q loose XP YP l.row.toRowW d [] (λf vs=>PySem.call f vs):=by
 intro w s₀ s₁ mg mb G Y fa o pm cd doc dV kV ho hd JD hD nY hg args vals as UG hlay hrd xB hlo
 obtain rfl:dV=.none:=Dflts.none hD zw
 obtain rfl:kV=.none:=Dflts.noKw hD
 obtain ⟨a,vs,ns,rfl,rfl,ZU,hints,hlen⟩:=Oq hn UG xB
 refine enter_call (codeAny_mono (call w s₀ s₁ mg mb fa o pm cd doc a vs ns G Y ho (fd_plain hd) JD nY ZU hints hlen hg) λr s' hq=>?_)
 obtain ⟨rfl,h2,h3,h4⟩:=hq
 exact ⟨.inl ⟨.bool true,.bool true,[],rfl,λ_=>rfl,.bool true,Ot l _,λ_=>⟨List.Pairwise.nil,λ_ hm=>(nomatch hm)⟩⟩,h2,h3,h4⟩
end Att
namespace L2
open PySem PySem.Spec PyProof.Rows
theorem Jc:∀ {vs:List Value} {ns:List Int},IntsAre vs ns->Vals (ns.map V.int) vs
 | _,_,.nil=>.nil
 | _,_,.cons n t h=>.cons ⟨t,rfl⟩ (Jc h)
noncomputable def inClass (s:Stmt)(j:Nat):Stmt:=match s with
 | .ClassDef _ _ _ body _ _ _ _ _ _ _=>body.getD j (.Pass ⟨0,0,0,0⟩)
 | _=>.Pass ⟨0,0,0,0⟩
noncomputable def As (s:Stmt):Arguments:=match s with
 | .FunctionDef _ a _ _ _ _ _ _ _ _=>a
 | _=>{ posonlyargs:=[],args:=[],vararg:=none,kwonlyargs:=[],kw_defaults:=[],kwarg:=none,defaults:=[] }
noncomputable def Ao (s:Stmt):List Stmt:=match s with
 | .FunctionDef _ _ b _ _ _ _ _ _ _=>b
 | _=>[]
noncomputable def Ad (s:Stmt):Scope:=match s with
 | .FunctionDef _ _ _ _ _ _ sc _ _ _=>sc
 | _=>{ kind:=.function,names:=[],isGenerator:=false,isCoroutine:=false }
abbrev BR:Kg:=λ_ _ _ _ _ _=>False
abbrev E0:XK:=λ_ _ _=>False
theorem He {X:Cx}:Passes BR X E0:=λ_ _ _ _ _ _ _ h=>h.elim
structure Ck (K:W.Frag)(x qual:Str)(st:Stmt)(f:Addr)(fd:FuncData):Prop where
 ex:∃ (oc:Value) (od:Option Addr) (kV doc pm:Value) (an:Option Addr) (Bo ct:Value) (TN:Array (Option Value)),
  fd=W.fnOf x qual (As st) (Ao st) (Ad st) .none kV doc pm an Bo ct/\K.lookup f=some ⟨oc,od,.func fd,TN⟩/\W.codeIn K Bo qual=true
 kp:W.keepIn K (.ref f)=true
section
variable {P:Program}{w:World}{K:W.Frag}{mg:Str->Option Value}{base:Heap}
theorem Ck.ok {x qual:Str}{st:Stmt}{f:Addr}{fd:FuncData}{N ps:List Str}{k:Nat}{sp:Sp}(F:Ck K x qual st f fd)(S:Ar N ps (Ad st))(len:∀ vs H Q E,sp vs H Q E->vs.length=ps.length)
  (HL:∀ (Bo:Value) (A:Around) (outer:List Env) (s:Shared) (H:Hp) (vs:List V) (Q:VK) (E:XK),AY k (A.deeper (envOfC qual (Ad st) s.heap.objs.size f Bo))->sp vs H Q E ->
   ∃ t,Lw (DE BR P w K mg base N qual (Ad st) f Bo A outer s H E).nox (Ao st) t/\t { nx:=λ_ H'=>Q .non H',rt:=Q } (start N vs) H):AI P w K mg base BR (k+1) f fd ps sp:=by
 obtain ⟨oc,od,kV,doc,pm,an,Bo,ct,TN,rfl,lk,JD⟩:=F.ex
 refine Xi lk JD S len λA outer s H vs Q E hr Xj=>?_
 obtain ⟨t,h,q⟩:=HL Bo A outer s H vs Q E hr Xj
 exact ⟨t,h.nox,q⟩
theorem Ck.binds {x qual:Str}{st:Stmt}{f:Addr}{fd:FuncData}{ps:List Str}(F:Ck K x qual st f fd)
  (h:∀ (kV doc pm:Value) (an:Option Addr) (Bo ct:Value) (us:List Value),us.length=ps.length->bindArgs (W.fnOf x qual (As st) (Ao st) (Ad st) .none kV doc pm an Bo ct) ⟨us,[]⟩=pure (ps.zip us)):Binds K fd ps []:=by
 obtain ⟨oc,od,kV,doc,pm,an,Bo,ct,TN,rfl,lk,JD⟩:=F.ex
 exact .all (h kV doc pm an Bo ct)
theorem AE {x qual:Str}{st:Stmt}{f:Addr}{oc:Value}{od an:Option Addr}{TN:Array (Option Value)}{kV doc pm Bo ct:Value}(l:K.lookup f=some ⟨oc,od,.func (W.fnOf x qual (As st) (Ao st) (Ad st) .none kV doc pm an Bo ct),TN⟩)
  (c:W.codeIn K Bo qual=true) (k:W.keepIn K (.ref f)=true):Ck K x qual st f (W.fnOf x qual (As st) (Ao st) (Ad st) .none kV doc pm an Bo ct):=⟨⟨oc,od,kV,doc,pm,an,Bo,ct,TN,rfl,l,c⟩,k⟩
end
theorem Jd {A:Around}{k:Nat}(hr:AY k A):A.units+1 < cLine:=Nat.lt_of_le_of_lt (Nat.add_le_add_left (by decide:1<=64) _) hr.units
section
variable {X:Cx}
theorem pv (i:Nat){x:Str}{pos:Pos}(hN:X.N[i]?=some x:=by rfl)(hv:Xb X.env.scope x:=by first | exact Or.inl rfl | exact Or.inr (.inl rfl) | exact Or.inr (.inr rfl))(hd:(x==("__debug__":Str))=false:=by decide)
  (JD:(x==("__classdict__":Str))=false:=by decide):PE X (.Name x pos) (Bw i):=Lx hN hv hd JD
end
theorem DH {A B:Prop}(h:B):if false=true then A else B:=by
 rw [if_neg Bool.false_ne_true]
 exact h
theorem Dm {A B:Prop}(h:A):if true=true then A else B:=by
 rw [if_pos rfl]
 exact h
theorem Cu {c A B:Prop}[Decidable c](h1:c->A)(h2:¬ c->B):if c then A else B:=by
 by_cases h:c
 ·rw [if_pos h]
  exact h1 h
 ·rw [if_neg h]
  exact h2 h
noncomputable def An (H H':Hp):Prop:=∀ b o,H b=some o->H' b=some o
theorem An.refl (H:Hp):An H H:=λ_ _ h=>h
theorem An.trans {H H1 H2:Hp}(a:An H H1)(b:An H1 H2):An H H2:=λc o h=>b c o (a c o h)
theorem An.free {H H':Hp}(e:An H H'){l:Addr}(h:H' l=Option.none):H l=Option.none:=by
 cases q:H l with
 | none=>rfl
 | some o =>
  rw [e l o q] at h
  cases h
theorem An.seq {K:W.Frag}{H H':Hp}{a:Addr}{xs:List V}(e:An H H')(h:AZ K H a xs):AZ K H' a xs:=by
 rcases h with (h | ⟨o,h⟩) | h
 ·exact .inl (.inl (e _ _ h))
 ·exact .inl (.inr ⟨o,e _ _ h⟩)
 ·exact .inr h
section
variable {P:Program}{w:World}{H H1:Hp}{h h1:Heap}{a:Addr}{o:HO}{fs ex:List Addr}
theorem E8.track (x:E8 P w H h)(hn:H a=none)(new:Bk P w (upd H a o) h a o):E8 P w (upd H a o) h:=by
 intro b u e
 by_cases hb:b=a
 ·subst hb
  rw [Ap] at e
  cases e
  exact new
 ·rw [Aq hb] at e
  refine (x b u e).stay (λc v _ q=>q) (λc q=>?_) (λc xs q=>?_)
  ·rw [Aq (AF q hn)];exact q
  ·rw [Aq (AF q hn)];exact q
theorem Un.track (u:Un fs ex H H1 h h1)(hn:H1 a=none)(ha:h.get? a=none):Un fs ex H (upd H1 a o) h h1 where
 keep:=u.keep
 slot:=u.slot
 free:=λb ob q n hx=>by
  have hb:b≠a:=λz=>by rw [z,ha] at q;cases q
  rw [Aq hb]
  exact u.free b ob q n hx
 there:=u.there
 tups:=λb xs q=>by
  have z:=u.tups b xs q
  rw [Aq (AF z hn)]
  exact z
 frzs:=λb ob xs q=>by
  have z:=u.frzs b ob xs q
  rw [Aq (AF z hn)]
  exact z
 tbls:=λb ps q=>by
  obtain ⟨more,z⟩:=u.tbls b ps q
  exact ⟨more,by rw [Aq (AF z hn)];exact z⟩
end
section
variable {prog:Program}{w:World}{A:Around}{R:Result->Shared->Prop}{s:Shared}
abbrev UH:Value->Shared->Prop:=λ_ _=>False
theorem M9 {elt target iter:Expr}{ifs:List Expr}{scope:Scope}{pos:Pos}{it acc:Value}{env:Env}(J:Nat->Shared->Prop)
  (turn:∀ n s,J n s->wpAny (model prog w) A (pyNext it) (λr s1=>match r with
   | none=>R (.ok .next) s1
   | some v=>wpAny (model prog w) A (letOwnedTupleGo target it v) (λ_ s2=>wpAny (model prog w) A (assign target env v) (λ_ s3 =>
     wpAny (model prog w) A (forIn ifs true λc r=>if r=true then do let ok <- isTrue c env (eval c env);pure (ForInStep.yield ok) else pure (ForInStep.yield r)) (λok s4 =>
      if ok=true then wpAny (model prog w) A (eval elt env) (λx s5=>wpAny (model prog w) A (call (.builtin "list.append") [acc,x]) (λ_ s6=>∃ m,m < n/\J m s6) UH s5) UH s4
      else ∃ m,m < n/\J m s4) UH s3) UH s2) UH s1) UH s)
  (n:Nat) (h:J n s):codeAny (model prog w) A (.compLoop (.ListComp elt [⟨target,iter,ifs,0⟩] scope pos) 0 it acc env) R s:=by
 refine codeAny_loop rfl J (λn s hJ=>?_) n h
 show wpAny _ A ((compTurn (.ListComp elt [⟨target,iter,ifs,0⟩] scope pos) 0 it acc env).onRaise (λx=>do noteFrame x env;theTreesLotGoes x)) _ _ s
 refine wpAny_noted ?_
 rw [compTurn_list]
 refine wpAny_bind (wpAny_standAt (wpAny_bind (wpAny_mono (turn n s hJ) (λr s1 q1=>?_) λ_ _ z=>z.elim)))
 cases r with
 | none=>exact wpAny_pure q1
 | some v =>
  refine wpAny_bind (wpAny_mono q1 (λ_ s2 q2=>?_) λ_ _ z=>z.elim)
  refine wpAny_bind (wpAny_mono q2 (λ_ s3 q3=>?_) λ_ _ z=>z.elim)
  refine wpAny_bind (wpAny_mono q3 (λok s4 q4=>?_) λ_ _ z=>z.elim)
  cases ok with
  | false=>exact wpAny_pure ⟨rfl,q4⟩
  | true =>
   refine wpAny_bind (wpAny_bind (wpAny_mono q4 (λx s5 q5=>?_) λ_ _ z=>z.elim))
   refine wpAny_bind (wpAny_mono q5 (λ_ s6 q6=>?_) λ_ _ z=>z.elim)
   exact wpAny_pure (wpAny_pure ⟨rfl,q6⟩)
end
noncomputable def Cx.blk (X:Cx)(N:List Str)(env:Env)(s0:Shared)(H0:Hp)(ex:List Addr):Cx :=
 { X with N:=N,s₀:=s0,H₀:=H0,env:=env,outer:=X.stack,stack:=X.stack,ex:=ex,fn:=λ_=>false,pn:=[],xe:=UH }
structure BG (X:Cx)(scope:Scope)(cl:List (Str × Addr))(own fr:List Str)(js:List Nat):Prop where
 clos:closureFor scope X.env=pure cl
 cell:∀ y∈scope.names,y.2≠.cell
 kind:scope.kind=.function
 names:∀ y∈scope.names,y.2=.local->scope.names.lookup y.1=some .local
 sub:cl.map (λp=>X.env.cells.lookup p.1)=cl.map (λp=>some p.2)
 has:((relabel scope X.env).names.all λy=>!(y.2==.cell || y.2==.free) || (cl.lookup y.1).isSome)=true
 fre:(fr.all λy=>(X.env.kindOf y==some .cell || X.env.kindOf y==some .free) && ((relabel scope X.env).names.lookup y==some .cell || (relabel scope X.env).names.lookup y==some .free))=true
 here:js.map (λj=>X.N[j]?)=fr.map some
noncomputable def DX (own:List Str)(js:List Nat)(σ:St):St:=own.map (λ_=>none)++js.map (λj=>(σ[j]?).join)
noncomputable def nZ (X:Cx)(scope:Scope)(cl:List (Str × Addr))(C:Addr):Env:=compEnvC scope cl C X.env
abbrev Cx.cmp (X:Cx)(scope:Scope)(cl:List (Str × Addr))(own fr:List Str)(C:Addr)(s0:Shared)(H0:Hp)(ex:List Addr):Cx:=X.blk (own++fr) (nZ X scope cl C) s0 H0 ex
theorem lookup_mem {α:Type}:∀ {l:List (Str × α)} {y:Str} {c:α},l.lookup y=some c->(y,c)∈l
 | [],_,_,h=>by simp at h
 | (z,d)::r,y,c,h=>by
  rw [List.lookup_cons] at h
  cases e:y==z with
  | true=>rw [e] at h;cases h;rw [eq_of_beq e];exact .head _
  | false=>rw [e] at h;exact .tail _ (lookup_mem h)
section
variable {X:Cx}{scope:Scope}{cl:List (Str × Addr)}{own fr:List Str}{js:List Nat}{pins:List (Addr × Obj)}{σ:St}{H:Hp}{s s':Shared}{fp:List Addr}{C:Addr}{m:Str->Option Value}
theorem BG.cells (S:BG X scope cl own fr js){y:Str}{c:Addr}(h:cl.lookup y=some c):X.env.cells.lookup y=some c:=by
 have hm:=lookup_mem h
 have e:∀ (l:List (Str × Addr)),l.map (λp=>X.env.cells.lookup p.1)=l.map (λp=>some p.2)->∀ p∈l,X.env.cells.lookup p.1=some p.2:=by
  intro l
  induction l with
  | nil=>intro _ p hp;cases hp
  | cons q r ih =>
   intro h p hp
   have h1:=(List.cons.inj h).1
   have h2:=(List.cons.inj h).2
   rcases List.mem_cons.mp hp with rfl | hp
   ·exact h1
   ·exact ih h2 p hp
 exact e cl S.sub _ hm
theorem BG.hasC (S:BG X scope cl own fr js){y:Str}(h:(relabel scope X.env).names.lookup y=some .cell\/(relabel scope X.env).names.lookup y=some .free):∃ c,cl.lookup y=some c:=by
 have key:∀ k:NameKind,(k=.cell\/k=.free)->(relabel scope X.env).names.lookup y=some k->∃ c,cl.lookup y=some c:=by
  intro k hk hl
  have q:=List.all_eq_true.mp S.has _ (lookup_mem hl)
  have kk:(k==NameKind.cell || k==NameKind.free)=true:=by
   rcases hk with rfl | rfl <;> rfl
  simp only [kk,Bool.not_true,Bool.false_or] at q
  exact Option.isSome_iff_exists.mp q
 rcases h with h | h
 ·exact key _ (.inl rfl) h
 ·exact key _ (.inr rfl) h
theorem BG.free (S:BG X scope cl own fr js){y:Str}(h:y∈fr):(X.env.kindOf y=some .cell\/X.env.kindOf y=some .free)/\((relabel scope X.env).names.lookup y=some .cell\/(relabel scope X.env).names.lookup y=some .free):=by
 have q:=List.all_eq_true.mp S.fre y h
 simpa [Bool.and_eq_true,Bool.or_eq_true] using q
theorem UI {α β:Type}{f:α->β}{l:List α}{i:Nat}{b:β}(h:(l.map f)[i]?=some b):∃ a,l[i]?=some a/\f a=b:=by
 rw [List.getElem?_map] at h
 cases e:l[i]? with
 | none=>rw [e] at h;cases h
 | some a=>rw [e] at h;exact ⟨a,rfl,Option.some.inj h⟩
theorem UJ (S:BG X scope cl own fr js)(I:Inv X pins σ H s)(hf:∀ b∈fp,IH X pins H b)(hC:s.heap.objs.size<=C)(JM:s'.heap.Ns C m)(UK:∀ b∈fp,b < s.heap.objs.size)
  (Uv:s'.os=s.os) (hg:s'.gens=s.gens) (k:∀ b o,s.heap.get? b=some o->s'.heap.get? b=some o) :
  Inv (X.cmp scope cl own fr C s H fp) [] (DX own js σ) H s':=by
 have cells:∀ x c,cl.lookup x=some c->X.env.cells.lookup x=some c:=λx c h=>S.cells h
 refine ⟨⟨I.ok.mod,S.kind,I.ok.glob,I.ok.blt,hC,?_,?_,?_,I.ok.hd,I.ok.frames,.inl rfl,?_,I.bs,Nat.le_trans I.ok.bsz I.sz,?_,?_,I.stack,I.stkFree⟩,Uv,?_,Un.kept k,⟨m,JM,?_⟩,?_,?_,?_,?_,I.hok.kept k,?_⟩
 ·intro x y c h1 h2
  exact I.ok.inj x y c (cells x c h1) (cells y c h2)
 ·intro x hx
  exact S.hasC hx
 ·intro x c h
  exact absurd (show false=true from h) Bool.false_ne_true
 ·intro b hb
  refine ⟨Nat.ne_of_lt (Nat.lt_of_lt_of_le (UK b hb) hC),λx c h=>?_⟩
  exact (hf b hb).2.2.2.2.1 x c (cells x c h)
 ·intro b o e hb
  rcases (hf b hb).2.2.2.1 with z | z
  ·exact I.ok.noex b o e z
  ·exact absurd (Nat.lt_of_lt_of_le (Nat.lt_of_lt_of_le (Heap.lt_size e) I.ok.bsz) z) (Nat.lt_irrefl _)
 ·intro b hb z
  rcases List.mem_cons.mp (I.stkSub b z) with e | e
  ·exact (hf b hb).2.1 e
  ·exact (hf b hb).2.2.1 e
 ·rw [hg];exact I.bare
 ·intro i x v h1 h2 _
  have hN:(X.cmp scope cl own fr C s H fp).N=own++fr:=rfl
  rw [hN] at h1
  by_cases hi:i < own.length
  ·have:(DX own js σ)[i]?=some none:=by
    unfold DX
    rw [List.getElem?_append_left (by simpa using hi),List.getElem?_map]
    simp [hi]
   rw [this] at h2
   cases h2
  ·have hi:own.length<=i:=Nat.not_lt.mp hi
   rw [List.getElem?_append_right hi] at h1
   unfold DX at h2
   rw [List.getElem?_append_right (by simpa using hi),List.length_map] at h2
   obtain ⟨j,hj,ej⟩:=UI h2
   have hXN:X.N[j]?=some x:=by
    have e1:(js.map (λj=>X.N[j]?))[i - own.length]?=some (X.N[j]?):=by rw [List.getElem?_map,hj];rfl
    rw [S.here,List.getElem?_map,h1] at e1
    exact (Option.some.inj e1).symm
   have hσ:σ[j]?=some (some v):=by
    cases e:σ[j]? with
    | none=>rw [e] at ej;cases ej
    | some o=>rw [e] at ej;cases o with
     | none=>cases ej
     | some u=>cases ej;rfl
   obtain ⟨kx,xC⟩:=S.free (List.mem_of_getElem? h1)
   obtain ⟨m0,_,hl⟩:=I.loc
   have za:Xb X.env.scope x:=by
    rcases kx with z | z
    ·exact .inr (.inl z)
    ·exact .inr (.inr z)
   obtain ⟨u,r,lk⟩:=hl j x v hXN hσ za
   refine ⟨u,r,.inr ⟨xC,?_⟩⟩
   obtain ⟨c,hc⟩:=S.hasC xC
   rcases lk with ⟨z,_⟩ | ⟨_,c',e',q⟩
   ·rcases kx with y | y <;> (rw [y] at z;cases z)
   ·rw [S.cells hc] at e'
    cases e'
    obtain ⟨o,ho,hd⟩:=q
    exact ⟨c,hc,o,k _ _ ho,hd⟩
 ·intro x c h
  obtain ⟨v,o,ho,hd⟩:=I.cell x c (cells x c h)
  exact ⟨v,o,k _ _ ho,hd⟩
 ·exact I.hok.fresh hC
 ·intro x c h
  exact I.freeC x c (cells x c h)
 ·intro p hp
  exact absurd (show p∈([]:List (Addr × Obj)) from hp) (by simp)
 ·have e:js.length=fr.length:=by
   have:=congrArg List.length S.here
   simpa using this
  show (DX own js σ).length=(own++fr).length
  unfold DX
  simp [e]
end
noncomputable def lT (X:Cx)(ifs:List Expr)(t:TT):Prop :=
 ∀ (pins:List (Addr × Obj)) (s:Shared) (σ:St) (H:Hp) (Q:Bool->Hp->Prop),Inv X pins σ H s->t σ H Q ->
  wpAny (model X.prog X.w) X.A (forIn ifs true λc r=>if r=true then do let ok <- isTrue c X.env (eval c X.env);pure (ForInStep.yield ok) else pure (ForInStep.yield r)) (TP X pins σ Q) X.xe s
noncomputable def IK:TT:=λ_ H Q=>Q true H
theorem UL {X:Cx}:lT X [] IK:=λ_ _ _ H _ I h=>wpAny_tests_nil ⟨H,I,h⟩
theorem UM {X:Cx}{c:Expr}{t:TT}(h:PT X c t):lT X [c] t:=λpins s σ H Q I q=>wpAny_tests_one (h pins s σ H Q I q)
noncomputable def Ext (σ σ':St):Prop:=σ'.length=σ.length/\∀ (i:Nat) v,σ[i]?=some (some v)->σ'[i]?=some (some v)
theorem Ext.set {σ:St}{i:Nat}{v:V}(h:σ[i]?=some none):Ext σ (σ.set i (some v)):=by
 refine ⟨by simp,λj u e=>?_⟩
 by_cases hj:i=j
 ·subst hj;rw [h] at e;cases e
 ·rw [List.getElem?_set_ne hj];exact e
noncomputable def F2 (J:It)(H1:Hp)(σ:St)(g:TG)(tt:TT)(te:TE)(Fin:List V->Hp->Prop):Prop :=
  ∃ W:Nat->Nat->List V->Hp->Prop,(∃ m,W 0 m [] H1)/\∀ i m ys H,W i m ys H->ys.length<=sizeLine /\
    ((J.stop i H/\Fin ys H)\/(J.go i H/\ys.length < sizeLine/\∀ x H',J.yld i H x H'->g x σ H' fun σ2 H2=>Ext σ σ2/\tt σ2 H2 λb H3 =>
      if b=true then te σ2 H3 λy H4=>∃ m',m' < m/\W (i+1) m' (ys++[y]) H4 else ∃ m',m' < m/\W (i+1) m' ys H3))
section
variable {X:Cx}{scope:Scope}{cl:List (Str × Addr)}{own fr:List Str}{js:List Nat}{elt iter tg:Expr}{ifs:List Expr}{pos:Pos}{g:TG}{tt:TT}{te:TE}
 {pins:List (Addr × Obj)} {σ:St} {H2:Hp} {s2:Shared} {fp:List Addr} {it:Addr} {tn:Nat->Heap->Prop} {J:It} {Fin:List V->Hp->Prop} {E:Value->Shared->Prop}
theorem Ou {ys:List V}{us:List Value}{y:V}{u:Value}(r:Vals ys us)(q:RelV y u):Vals (ys++[y]) (us++[u]):=r.append (.cons q .nil)
theorem Je (S:BG X scope cl own fr js)(Fw:X.calm=true)
  (hg:∀ C s0 H0 ex,PG (X.cmp scope cl own fr C s0 H0 ex) tg g) (ht:∀ C s0 H0 ex,lT (X.cmp scope cl own fr C s0 H0 ex) ifs tt) (he:∀ C s0 H0 ex,PE (X.cmp scope cl own fr C s0 H0 ex) elt te)
  (I2:Inv X pins σ H2 s2) (T:Turn X.prog X.w X.K tg J fp it tn) (zx:tn 0 s2.heap) (hf:∀ b∈fp,IH X pins H2 b) (L:F2 J H2 (DX own js σ) g tt te Fin)
  {RR:Value->Addr->Result->Shared->Prop}
  (hRR:∀ (D C:Addr) (s':Shared) (ys:List V) (its:List Value) (n:Nat) (H':Hp) (m':Str->Option Value),s2.heap.objs.size<=D->s2.heap.objs.size<=C->D≠C->s'.os=s2.os->AllBare s'.gens ->
   Un (frs X.stack) fp H2 H' s2.heap s'.heap->E8 X.prog X.w H' s'.heap->H' D=none->H' C=none->s'.heap.Ns C m'->Vals ys its->s'.heap.get? D=some { cls:=.type "list",data:=.seq its.toArray n }->ys.length<=sizeLine ->
   Fin ys H'->RR (.ref D) C (.ok .next) s') :
  wpAny (model X.prog X.w) X.A (newList []) (λacc s3=>wpAny (model X.prog X.w) X.A (newFunctionEnv scope X.env.globals cl [] X.env.qual none .none (some X.env)) (λo7 s4 =>
   codeAny (model X.prog X.w) X.A (.compStart (.ListComp elt [⟨tg,iter,ifs,0⟩] scope pos) 0 (.ref it) acc { o7 with scope:=relabel scope X.env }) (RR acc o7.locals) s4) E s3) E s2:=by
 refine wpAny_newObj_type (wpAny_newFunctionEnv S.cell (by intro y hy;simp at hy) (λh1 JM xD=>?_) S.kind)
 dsimp only at JM xD ⊢
 generalize hG:s2.heap.push { cls:=.type "list",dict:=none,data:=.seq ([]:List Value).toArray }=G at JM xD ⊢
 have hC:G.objs.size=s2.heap.objs.size+1:=by rw [<- hG,Heap.size_push]
 have Xo:s2.heap.objs.size≠G.objs.size:=by omega
 have UN:s2.heap.objs.size<=G.objs.size:=by omega
 have old:∀ b o,s2.heap.get? b=some o->h1.get? b=some o:=λb o e=>by
  have hb:=Heap.lt_size e
  exact xD.extBut b o (Nat.ne_of_lt (Nat.lt_of_lt_of_le hb UN)) (Heap.get?_push_of_some _ (hG▸Heap.get?_push_of_some _ e))
 have HS:h1.get? s2.heap.objs.size=some { cls:=.type "list",data:=.seq ([]:List Value).toArray 0 } :=
  xD.extBut _ _ Xo (Heap.get?_push_of_some _ (hG▸Heap.get?_push_size _ rfl))
 have UK:∀ b∈fp,b < s2.heap.objs.size:=λb hb=>by
  obtain ⟨o,e,_⟩:=T.obj 0 _ zx b hb
  exact Heap.lt_size e
 have o8:∀ t:Nat,Inv (X.cmp scope cl own fr G.objs.size s2 H2 fp) [] (DX own js σ) H2 { s2 with heap:=h1,toks:=t }:=λt =>
  UJ S I2 hf UN JM UK rfl rfl old
 obtain ⟨W,⟨m0,w0⟩,turn⟩:=L
 have hDs:s2.heap.objs.size∉frs X.stack:=λz=>by
  rcases List.mem_cons.mp (I2.stkSub _ z) with e | e
  ·exact absurd I2.lt (by rw [<- e];exact Nat.lt_irrefl _)
  ·exact I2.nofs (Nat.le_refl _) e
 have ZV:∀ {H:Hp} {s:Shared} {σ':St} {its:List Value} {n:Nat},Inv (X.cmp scope cl own fr G.objs.size s2 H2 fp) [] σ' H s->s.heap.get? s2.heap.objs.size=some { cls:=.type "list",data:=.seq its.toArray n }->H s2.heap.objs.size=none ->
   Inv (X.cmp scope cl own fr G.objs.size s2 H2 fp) [(s2.heap.objs.size,{ cls:=.type "list",data:=.seq its.toArray n })] σ' H s:=λ{H s σ' its n} I e hn=>I.pins_of λp hp=>by
  obtain rfl:=List.mem_singleton.mp hp
  exact ⟨e,hn,Xo,hDs,λv z=>by cases z⟩
 have ZW:∀ {H:Hp} {its:List Value} {n:Nat},(∀ b∈fp,H b=none)->∀ b∈fp,IH (X.cmp scope cl own fr G.objs.size s2 H2 fp) [(s2.heap.objs.size,{ cls:=.type "list",data:=.seq its.toArray n })] H b:=λ{H its n} hn b hb=>by
  have Ef:=UK b hb
  refine ⟨hn b hb,?_,?_,.inl hb,?_,?_⟩
  ·exact Nat.ne_of_lt (Nat.lt_of_lt_of_le Ef UN)
  ·intro z
   rcases List.mem_cons.mp (I2.stkSub b z) with e | e
   ·exact (hf b hb).2.1 e
   ·exact (hf b hb).2.2.1 e
  ·intro x c h
   exact (hf b hb).2.2.2.2.1 x c (S.cells h)
  ·intro p hp
   obtain rfl:=List.mem_singleton.mp (show p∈[(s2.heap.objs.size,_)] from hp)
   exact Ne.symm (Nat.ne_of_lt Ef)
 have loop:∀ t:Nat,codeAny (model X.prog X.w) X.A (.compLoop (.ListComp elt [⟨tg,iter,ifs,0⟩] scope pos) 0 (.ref it) (.ref s2.heap.objs.size) (nZ X scope cl G.objs.size))
   (RR (.ref s2.heap.objs.size) G.objs.size) { s2 with heap:=h1,toks:=t }:=by
  intro t
  refine M9 (λk s'=>U0 λi ys its n H'=>Inv (X.cmp scope cl own fr G.objs.size s2 H2 fp) [(s2.heap.objs.size,{ cls:=.type "list",data:=.seq its.toArray n })] (DX own js σ) H' s'/\tn i s'.heap/\(∀ b∈fp,H' b=none) /\
   Vals ys its/\W i k ys H') ?_ m0 ⟨0,[],[],0,H2,ZV (o8 t) HS (I2.hok.fresh (Nat.le_refl _)),T.keep _ _ _ zx λb _ o e=>old b o e,λb hb=>(hf b hb).1,.nil,w0⟩
  rintro n s3 ⟨i,ys,its,nn,H3,I3,nz,nA,rv,w3⟩
  obtain ⟨hlen,w3⟩:=turn i n ys H3 w3
  have Xp:=rv.length
  rcases w3 with ⟨stop,fin⟩ | ⟨go,Ef,step⟩
  ·refine BA (T.done (X.cmp scope cl own fr G.objs.size s2 H2 fp) rfl rfl rfl Fw i _ s3 _ H3 UH I3 (ZW nA) nz stop) λr s4 q4=>?_
   obtain ⟨hr,I4⟩:=q4
   subst hr
   obtain ⟨eD,nD,_⟩:=I4.pin _ (List.mem_append_right _ (.head _))
   obtain ⟨m4,ns4,_⟩:=I4.loc
   exact hRR _ _ s4 ys its nn H3 m4 (Nat.le_refl _) UN Xo I4.os I4.bare I4.base I4.hok nD I4.free ns4 rv eD hlen fin
  ·refine BA (T.item (X.cmp scope cl own fr G.objs.size s2 H2 fp) rfl rfl rfl Fw i _ s3 _ H3 UH I3 (ZW nA) nz go) λr s4 q4=>?_
   obtain ⟨u,hr,q4⟩:=q4
   subst hr
   refine BA q4 λ_ s5 q5=>?_
   obtain ⟨x,H5,I5,r5,y5,Zt,zb⟩:=q5
   have zc:=I5.pinned (ZW zb) (T.obj _ _ Zt)
   refine BA (hg G.objs.size s2 H2 fp _ s5 _ H5 x u _ zc r5 (step x H5 y5)) λ_ s6 q6=>?_
   obtain ⟨σ6,H6,I6,oa,q6⟩:=q6
   have fin:∀ {s7:Shared} {H7:Hp},Inv (X.cmp scope cl own fr G.objs.size s2 H2 fp) ([(s2.heap.objs.size,{ cls:=.type "list",data:=.seq its.toArray nn })]++HH fp s5.heap) σ6 H7 s7 ->
     tn (i+1) s7.heap/\(∀ b∈fp,H7 b=none)/\s7.heap.get? s2.heap.objs.size=some { cls:=.type "list",data:=.seq its.toArray nn }/\H7 s2.heap.objs.size=none/\Inv (X.cmp scope cl own fr G.objs.size s2 H2 fp) [] (DX own js σ) H7 s7:=λ{s7 H7} I7=>by
    have pd:=I7.pin _ (List.mem_append_right _ (List.mem_append_left _ (.head _)))
    refine ⟨T.keep _ _ _ Zt λb hb o e=>(I7.pin (b,o) (List.mem_append_right _ (List.mem_append_right _ (Ey hb e)))).1,λb hb=>?_,pd.1,pd.2.1,?_⟩
    ·obtain ⟨o,e,d⟩:=T.obj _ _ Zt b hb
     exact (I7.pin (b,o) (List.mem_append_right _ (List.mem_append_right _ (Ey hb e)))).2.1
    ·exact (I7.pins_of (pins':=[]) λp hp=>absurd hp (by simp)).weak oa.1.symm oa.2
   refine BA (ht G.objs.size s2 H2 fp _ s6 σ6 H6 _ I6 q6) λok s7 q7=>?_
   obtain ⟨H7,I7,q7⟩:=q7
   cases ok with
   | false =>
    obtain ⟨m',hm,w7⟩:=q7
    obtain ⟨a1,a2,a3,a4,a5⟩:=fin I7
    exact ⟨m',hm,i+1,ys,its,nn,H7,ZV a5 a3 a4,a1,a2,rv,w7⟩
   | true =>
    refine BA (he G.objs.size s2 H2 fp _ s7 σ6 H7 _ I7 q7) λv s8 q8=>?_
    obtain ⟨y,H8,I8,r8,m',hm,w8⟩:=q8
    obtain ⟨a1,a2,a3,a4,a5⟩:=fin I8
    refine append_at (its:=its.toArray) (n:=nn) a3 (λh9 hs9 e9=>?_) (by rw [List.size_toArray,<- Xp];exact hlen)
    have kp:∀ b o,b≠s2.heap.objs.size->s8.heap.get? b=some o->h9.get? b=some o:=λb o hb e=>(hs9.2 b hb).trans e
    have I9:Inv (X.cmp scope cl own fr G.objs.size s2 H2 fp) [] (DX own js σ) H8 { s8 with heap:=h9,toks:=s8.toks }:=by
     refine a5.turned kp a4 Xo (.inr (Nat.le_refl _)) (λx c h z=>?_) (λp hp=>absurd (show p∈([]:List (Addr × Obj)) from hp) (by simp))
     obtain ⟨v,o,ho,_⟩:=I2.cell x c (S.cells h)
     exact absurd z (Nat.ne_of_lt (Heap.lt_size ho))
    have zy:h9.get? s2.heap.objs.size=some { cls:=.type "list",data:=.seq (its++[v]).toArray (nn+1) }:=by
     rw [e9]
     simp
    refine ⟨m',hm,i+1,ys++[y],its++[v],nn+1,H8,ZV I9 zy a4,T.keep _ _ _ a1 λb hb o e=>kp b o ?_ e,a2,Ou rv r8,w8⟩
    exact Nat.ne_of_lt (UK b hb)
 exact codeAny_compStart_list (loop _) (T.self _ 0 _ _ _ (T.keep _ _ _ zx λb _ o e=>old b o e) (loop _))
theorem Nh {H':Hp}{s':Shared}{D:Addr}{ys:List V}{its:List Value}{n:Nat}(I2:Inv X pins σ H2 s2)(hf:∀ b∈fp,IH X pins H2 b)(hD:s2.heap.objs.size<=D)(os:s'.os=s2.os)(bare:AllBare s'.gens)
  (un:Un (frs X.stack) fp H2 H' s2.heap s'.heap) (hok:E8 X.prog X.w H' s'.heap) (nD:H' D=none) (rv:Vals ys its) (e:s'.heap.get? D=some { cls:=.type "list",data:=.seq its.toArray n }) (hz:ys.length<=sizeLine) :
  Inv X pins σ (upd H' D (.lst ys)) s':=by
 refine I2.call' (ch:=fp) os (un.track nD (Heap.get?_none_of_le hD)) (hok.track nD ⟨hz,its,n,rv,e⟩) bare λb hb=>?_
 obtain ⟨_,f1,_,f3,f4,f5⟩:=hf b hb
 exact ⟨f3,f1,f4,f5⟩
noncomputable def Ni (own:List Str)(js:List Nat)(wi:TI)(g:TG)(tt:TT)(te:TE):TE:=fun σ H Q=>wi σ H λJ H1 =>
 F2 J H1 (DX own js σ) g tt te λys H2=>∀ D,H2 D=none->Q (.ref D) (upd H2 D (.lst ys))
theorem UO {wi:TI}(S:BG X scope cl own fr js)(Fw:X.calm=true)(hi:PI X tg iter wi)
  (hg:∀ C s0 H0 ex,PG (X.cmp scope cl own fr C s0 H0 ex) tg g) (ht:∀ C s0 H0 ex,lT (X.cmp scope cl own fr C s0 H0 ex) ifs tt) (he:∀ C s0 H0 ex,PE (X.cmp scope cl own fr C s0 H0 ex) elt te)
  (hs:∀ x,foldedSetIterable iter X.env x=pure x:=by intro _;rfl):PE X (.ListComp elt [⟨tg,iter,ifs,0⟩] scope pos) (Ni own js wi g tt te):=by
 intro pins s σ H Q I h
 rw [eval_ListComp]
 refine wpAny_comprehension_free (use:=none) rfl hs S.clos S.kind S.names (BA (hi pins s σ H _ I h) λv s1 q1=>BA q1 λxq s2 q2=>?_)
 obtain ⟨it,fp,tn,J,H2,rfl,I2,T,st,hf,L⟩:=q2
 refine Je (RR:=λacc C=>compPost (model X.prog X.w) X.A X.xe none (EP X pins σ Q) acc C) S Fw hg ht he I2 T st hf L ?_
 intro D C s' ys its n H' m' hD hC Xo os bare un hok nD nC ns rv e hz fin
 refine ⟨m',ns,λog Ko=>?_⟩
 have I3:=Nh I2 hf hD os bare un hok nD rv e hz
 have zz:(upd H' D (.lst ys)) C=none:=by rw [Aq (Ne.symm Xo)];exact nC
 obtain ⟨f0,f1,_,f3,f4,f5⟩:=I2.fpOk hC zz
 have I4:Inv X pins σ (upd H' D (.lst ys)) { s' with heap:=og,toks:=s'.toks }:=I3.turned (λb o hb q=>(Ko.2 b hb).trans q) f0 f1 f3 f4 f5
 exact ⟨.ref D,_,I4,rfl,fin D nD⟩
noncomputable def Mb (i:Nat)(own:List Str)(js:List Nat)(wi:TI)(g:TG)(tt:TT)(te:TE):TS:=λD σ H=>wi σ H λJ H1 =>
 F2 J H1 (DX own js σ) g tt te λys H2=>∀ a,H2 a=none->D.nx (σ.set i (some (.ref a))) (upd H2 a (.lst ys))
theorem UP {wi:TI}{i:Nat}{y:Str}{py QL:Pos}(hN:X.N.Nodup)(hy:X.N[i]?=some y)(hx:Loc X.env.scope y)(S:BG X scope cl own fr js)(Fw:X.calm=true)(hi:PI X tg iter wi)
  (hg:∀ C s0 H0 ex,PG (X.cmp scope cl own fr C s0 H0 ex) tg g) (ht:∀ C s0 H0 ex,lT (X.cmp scope cl own fr C s0 H0 ex) ifs tt) (he:∀ C s0 H0 ex,PE (X.cmp scope cl own fr C s0 H0 ex) elt te)
  (QM:swapsWith (.ListComp elt [⟨tg,iter,ifs,0⟩] scope pos) (some (.Name y py)) QL.line X.env=pure true:=by rfl)
  (hf:X.fn y=true\/X.env.scope.names.lookup y=some .local:=by first | exact .inl rfl | exact .inr rfl | assumption)
  (hs:∀ x,foldedSetIterable iter X.env x=pure x:=by intro _;rfl):PS X (.Assign [.Name y py] (.ListComp elt [⟨tg,iter,ifs,0⟩] scope pos) QL) (Mb i own js wi g tt te):=by
 intro pins s σ H D I h
 rw [exec_Assign_Name_used _ _ _ _ QM]
 refine wpAny_bind (wpAny_standAt (wpAny_bind ?_))
 show wpAny _ X.A (do let _ <- comprehension (.ListComp elt [⟨tg,iter,ifs,0⟩] scope pos) scope X.env _ (newList []) false (eval iter X.env) (some (assign (.Name y py) X.env))) _ _ s
 refine wpAny_bind (BA (Q:=λ_ s'=>SP X pins D .next s') ?_ λ_ s' q=>wpAny_pure (wpAny_pure q))
 refine wpAny_comprehension_free (use:=some (assign (.Name y py) X.env)) rfl hs S.clos S.kind S.names (BA (hi pins s σ H _ I h) λv s1 q1=>BA q1 λxq s2 q2=>?_)
 obtain ⟨it,fp,tn,J,H2,rfl,I2,T,st,xE,L⟩:=q2
 refine Je (RR:=λacc C=>compPost (model X.prog X.w) X.A X.xe (some (assign (.Name y py) X.env)) (λ_ s'=>SP X pins D .next s') acc C) S Fw hg ht he I2 T st xE L ?_
 intro d C s' ys its n H' m' hD hC Xo os bare un hok nD nC ns rv e hz fin
 have I3:=Nh I2 xE hD os bare un hok nD rv e hz
 have zz:(upd H' d (.lst ys)) C=none:=by rw [Aq (Ne.symm Xo)];exact nC
 obtain ⟨f0,f1,_,f3,f4,f5⟩:=I2.fpOk hC zz
 show wpAny _ X.A (assign (.Name y py) X.env (.ref d)) _ _ s'
 refine wpAny_assign_Name (IZ I3 hN hy hx (v:=.ref d) rfl (λs4 I4 ch=>?_) hf)
 obtain ⟨a,sb,ha⟩:=ch
 have hCa:C≠a:=by
  rcases ha with rfl | ha
  ·exact f1
  ·exact λz=>f4 y a ha z.symm
 refine ⟨m',ns.sameBut sb hCa,λh5 zA=>?_⟩
 exact ⟨_,_,I4.turned (t':=s4.toks) (λb o hb q=>(zA.2 b hb).trans q) f0 f1 f3 f4 f5,fin d nD⟩
end
noncomputable def Kp (K:W.Frag)(a:Addr)(n:Nat):It :=
 ⟨λi H=>∃ xs,AZ K H a xs/\xs.length=n/\i < n,λi H x H'=>H'=H/\∀ xs,AZ K H a xs->xs.reverse[i]?=some x,λi _=>n<=i⟩
theorem QN {P:Program}{w:World}{K:W.Frag}{tg:Expr}(a it:Addr)(n:Nat):Turn P w K tg (Kp K a n) [it] it (λi h=>i<=n/\h.IsRevIter it a ((n:Int) - 1 - (i:Int))) where
 mem:=by simp
 obj:=by
  intro i h st b hb
  obtain rfl:b=it:=by simpa using hb
  obtain ⟨_,o,e,c,d⟩:=st
  exact ⟨o,e,λv z=>by rw [d] at z;cases z⟩
 keep:=λi h h' st k=>⟨st.1,st.2.at λo e=>k it (by simp) o e⟩
 item:=by
  intro X hP hw hK hc i pins s σ H E I hf st hg
  subst hP hw hK
  obtain ⟨xs,hq,hn,hi⟩:=hg
  obtain ⟨its,rv,p,hz⟩:=I.list hq
  have hlen:=rv.length
  obtain ⟨f0,f1,f2,f3,f4,f5⟩:=hf it (by simp)
  have ix:n - 1 - i < xs.length:=by omega
  have hx:xs[n - 1 - i]?=some (xs[n - 1 - i]'ix):=List.getElem?_eq_getElem ix
  obtain ⟨u,hu,ru⟩:=rv.get hx
  have ei:(n:Int) - 1 - (i:Int)=((n - 1 - i:Nat):Int):=by omega
  have HG:=st.2
  rw [ei] at HG
  refine wpAny_pyNext_rev_item HG p.isList (x:=u) (by simpa using hu) λh' ny sb=>?_
  have I1:Inv X pins σ H { s with heap:=h' }:=I.turned (t':=s.toks) (λb o hb e=>(sb.2 b hb).trans e) f0 f1 f3 f4 f5
  have e2:((n - 1 - i:Nat):Int) - 1=(n:Int) - 1 - ((i+1:Nat):Int):=by omega
  rw [e2] at ny
  obtain ⟨o,e,c,d⟩:=id ny
  refine ⟨u,rfl,MU (s:={ s with heap:=h' }) e c d ⟨⟩ ⟨xs[n - 1 - i]'ix,H,I1,ru,⟨rfl,λys hy=>?_⟩,⟨hi,ny⟩,λb hb=>(hf b hb).1⟩⟩
  rw [I.list_inj hy hq,List.getElem?_reverse (),<- hx]
  congr 1
  omega
 done:=by
  intro X hP hw hK hc i pins s σ H E I hf st hg
  subst hP hw hK
  obtain ⟨f0,f1,f2,f3,f4,f5⟩:=hf it (by simp)
  have hg':n<=i:=hg
  have e1:(n:Int) - 1 - (i:Int)=-1:=by have:=st.1;omega
  have HG:=st.2
  rw [e1] at HG
  exact wpAny_pyNext_rev_end (I.ok.hd hc) HG λh' eb=>⟨rfl,I.turned (t':=s.toks) (λb o hb e=>eb b o hb e) f0 f1 f3 f4 f5⟩
 self:=λ_ _ _ _ _ st h=>wpAny_pyIter_revIter st.2 h
section
variable {X:Cx}{tg:Expr}
inductive QO (K:W.Frag)(R:(It->Hp->Prop))(vs:(List V))(H1:Hp):Prop
 | mk (a:_) (xs:_) (h1:vs=[.ref a]) (h2:AZ K H1 a xs) (h3:R (Kp K a xs.length) H1):QO K R vs H1
noncomputable def ZX (K:W.Frag)(ta:TA):TI:=fun σ H R=>ta σ H λvs H1=>QO K R vs H1
theorem ZY {a:Expr}{ta:TA}{p pos:Pos}(hg:Gl X "reversed")(hm:X.mg "reversed"=none)(ha:PA X [a] ta)(hs:starEach [a] X.env=[(false,eval a X.env)]:=by rfl):PI X tg (.Call (.Name "reversed" p) [a] [] pos) (ZX X.K ta):=by
 intro pins s σ H R I h
 refine Call_ (EV I hg hm boot_reversed (PyProof.Rows.callWith_type1 (BA (ha pos pins s σ H _ I h) λus s1 q1=>?_) hs rfl))
 obtain ⟨vs,H1,I1,r1,l,xs,rfl,hq,q⟩:=q1
 obtain ⟨u,rfl,ru⟩:=vals1 r1
 cases ru
 obtain ⟨its,rv,pl,hz⟩:=I1.list hq
 have hlen:=rv.length
 refine call_reversed_list pl.isList ?_
 have gr:(s1.heap.push (revObj l ((its.toArray.size:Int) - 1))).IsRevIter s1.heap.objs.size l ((xs.length:Int) - 1 - ((0:Nat):Int)):=by
  refine ⟨_,Heap.get?_push_size _ rfl,rfl,?_⟩
  show Data.fields #[.ref l,rawInt ((its.toArray.size:Int) - 1)]=_
  rw [List.size_toArray,<- hlen]
  simp
 refine wpAny_pyIter_revIter gr ?_
 refine ⟨s1.heap.objs.size,[s1.heap.objs.size],_,_,H1,rfl,I1.kept (t':=s1.toks) λb o e=>Heap.get?_push_of_some _ e,QN l _ xs.length,⟨Nat.zero_le _,gr⟩,λb hb=>?_,q⟩
 obtain rfl:b=s1.heap.objs.size:=by simpa using hb
 exact I1.fpOk (Nat.le_refl _) (I1.hok.fresh (Nat.le_refl _))
end
theorem UQ {K:W.Frag}{a:Addr}{xs:List V}{g:TG}{tb:TS}{D:Ends}{σ:St}{H:Hp}(Pv:Nat->St->Hp->Prop)(h0:Pv 0 σ H)(hl:∀ i σ H,i<=xs.length->Pv i σ H->AZ K H a xs)
  (hs:∀ i x σ H,xs.reverse[i]?=some x->Pv i σ H->g x σ H fun σ2 H2=>tb { D with nx:=Pv (i+1),ct:=Pv (i+1),bk:=D.nx } σ2 H2) (hd:∀ σ H,Pv xs.length σ H->D.nx σ H) :
  ∃ W:Nat->Nat->St->Hp->Prop,(∃ m,W 0 m σ H)/\∀ i m σ H,W i m σ H ->
   ((Kp K a xs.length).stop i H/\D.nx σ H)\/((Kp K a xs.length).go i H/\∃ N:St->Hp->Prop,(∀ σ' H',N σ' H'->∃ m',m' < m/\W (i+1) m' σ' H')/\∀ x H',(Kp K a xs.length).yld i H x H'->g x σ H' fun σ2 H2=>tb { D with nx:=N,ct:=N,bk:=D.nx } σ2 H2):=by
 refine ⟨λi m σ H=>m=xs.length - i/\i<=xs.length/\Pv i σ H,⟨xs.length,by simp,Nat.zero_le _,h0⟩,?_⟩
 rintro i m σ H ⟨rfl,hi,p⟩
 have q:=hl i σ H hi p
 by_cases Ef:i < xs.length
 ·refine .inr ⟨⟨xs,q,rfl,Ef⟩,Pv (i+1),fun σ' H' p'=>⟨xs.length - (i+1),(),rfl,Ef,p'⟩,λx H' y=>?_⟩
  obtain ⟨e,y⟩:=y
  subst e
  exact hs i x σ _ (y xs q) p
 ·obtain rfl:i=xs.length:=by omega
  exact .inl ⟨Nat.le_refl _,hd σ H p⟩
open PySem.W (fnMade fnX envX CodeHd tabObj makeFunction_K makeFunction_hit nestDef_K FnAt callWith_F)
noncomputable def xF (a:Addr)(o:Obj):HO:=.ext λh=>h.get? a=some o
section
variable {P:Program}{w:World}{H H':Hp}{h h':Heap}{a b:Addr}{o:Obj}{fs:List Addr}
theorem xF.get (x:E8 P w H h)(e:H a=some (xF a o)):h.get? a=some o:=(x a _ e).1
end
structure Nj (base:Heap)(mg:Str->Option Value)(c P:Addr):Prop where
 hd:CodeHd base c P
 bm:∃ bm ob,mg "__builtins__"=some (.ref bm)/\bm≠builtinsNs/\base.get? bm=some ob/\ob.cls=.type "module"/\ob.dict=some builtinsNs/\ob.data=.plain
end L2
namespace KM
inductive Kd where
 | num | tru | gap (k:Int) | fn (a b:Kd) | pr (a b:Kd) | ls (a:Kd)
 deriving DecidableEq
noncomputable def ER:Kd->Bool
 | .gap _=>true
 | _=>false
noncomputable def parts:Kd->List Kd
 | .fn a b=>[a,b]
 | .pr a b=>[a,b]
 | .ls a=>[a]
 | _=>[]
noncomputable def sz:Kd->Nat
 | .fn a b=>sz a+sz b+1
 | .pr a b=>sz a+sz b+1
 | .ls a=>sz a+1
 | _=>1
noncomputable def dp:Kd->Nat
 | .fn a b=>max (dp a) (dp b)+1
 | .pr a b=>max (dp a) (dp b)+1
 | .ls a=>dp a+1
 | _=>0
noncomputable def szs:List Kd->Nat
 | []=>0
 | t::ts=>sz t+szs ts
theorem FH (a b:List Kd):szs (a++b)=szs a+szs b:=by
 induction a with
 | nil=>simp [szs]
 | cons t ts ih=>simp only [List.cons_append,szs,ih];omega
theorem Ov (t:Kd):szs (parts t)+1=sz t:=by cases t <;> simp [szs,parts,sz]
theorem Ow (t:Kd):(parts t).length<=2:=by cases t <;> simp [parts]
end KM
namespace KS
open PySem PySem.Spec PyProof.Rows L2 KM
noncomputable def word:Kd->Str
 | .num=>"number"
 | .tru=>"truth"
 | .gap _=>"any"
 | .fn _ _=>"fun"
 | .pr _ _=>"pair"
 | .ls _=>"list"
noncomputable def BU (H:Hp):Kd->V->Prop
 | .num,v=>∃ a,v=.ref a/\H a=some (.tup [.str "number"])
 | .tru,v=>∃ a,v=.ref a/\H a=some (.tup [.str "truth"])
 | .gap k,v=>∃ a,v=.ref a/\H a=some (.tup [.str "any",.int k])
 | .ls x,v=>Dn λa u=>v=.ref a/\H a=some (.tup [.str "list",u])/\BU H x u
 | .fn x y,v=>EM λa u w=>v=.ref a/\H a=some (.tup [.str "fun",u,w])/\BU H x u/\BU H y w
 | .pr x y,v=>EM λa u w=>v=.ref a/\H a=some (.tup [.str "pair",u,w])/\BU H x u/\BU H y w
abbrev zB (H:Hp):List Kd->List V->Prop:=Paired (BU H)
noncomputable def Ay (H H':Hp):Prop:=∀ a xs,H a=some (.tup xs)->H' a=some (.tup xs)
theorem Ay.trans {H H1 H2:Hp}(a:Ay H H1)(b:Ay H1 H2):Ay H H2:=λc xs h=>b c xs (a c xs h)
theorem Ay.of_same {H H':Hp}(s:An H H'):Ay H H':=λa xs h=>s a _ h
theorem Ay.put {H:Hp}{a:Addr}{o:HO}(h:∀ xs,H a≠some (.tup xs)):Ay H (upd H a o):=λb xs e=>by
 rw [Aq]
 ·exact e
 ·intro z;subst z;exact h xs e
theorem Ay.new {H:Hp}{a:Addr}{o:HO}(h:H a=none):Ay H (upd H a o):=Ay.put λxs e=>by rw [h] at e;cases e
theorem BU.mono {H H':Hp}(s:Ay H H'):∀ {t:Kd} {v:V},BU H t v->BU H' t v
 | .num,_,⟨a,e,h⟩=>⟨a,e,s _ _ h⟩
 | .tru,_,⟨a,e,h⟩=>⟨a,e,s _ _ h⟩
 | .gap _,_,⟨a,e,h⟩=>⟨a,e,s _ _ h⟩
 | .ls _,_,⟨a,u,e,h,p⟩=>⟨a,u,e,s _ _ h,BU.mono s p⟩
 | .fn _ _,_,⟨a,u,w,e,h,p,q⟩=>⟨a,u,w,e,s _ _ h,BU.mono s p,BU.mono s q⟩
 | .pr _ _,_,⟨a,u,w,e,h,p,q⟩=>⟨a,u,w,e,s _ _ h,BU.mono s p,BU.mono s q⟩
theorem BU.look {H:Hp}:∀ {t:Kd} {v:V},BU H t v->Dn λa us=>v=.ref a/\H a=some (.tup (.str (word t)::us))/\(ER t=false->zB H (parts t) us)/\(∀ k,t=.gap k->us=[.int k])/\us.length<=2
 | .num,_,⟨a,e,h⟩=>⟨a,[],e,h,λ_=>.nil,λ_ z=>(by cases z),by simp⟩
 | .tru,_,⟨a,e,h⟩=>⟨a,[],e,h,λ_=>.nil,λ_ z=>(by cases z),by simp⟩
 | .gap k,_,⟨a,e,h⟩=>⟨a,[.int k],e,h,λz=>(by simp [ER] at z),λ_ z=>(by cases z;rfl),by simp⟩
 | .ls _,_,⟨a,u,e,h,p⟩=>⟨a,[u],e,h,λ_=>.cons p .nil,λ_ z=>(by cases z),by simp⟩
 | .fn _ _,_,⟨a,u,w,e,h,p,q⟩=>⟨a,[u,w],e,h,λ_=>.cons p (.cons q .nil),λ_ z=>(by cases z),by simp⟩
 | .pr _ _,_,⟨a,u,w,e,h,p,q⟩=>⟨a,[u,w],e,h,λ_=>.cons p (.cons q .nil),λ_ z=>(by cases z),by simp⟩
theorem QP {t:Kd}:(word t=("any":Str))↔ER t=true:=by
 cases t <;> simp [word,ER] <;> decide
noncomputable def pd:Kd->PyData
 | .num=>.tuple [.str "number"]
 | .tru=>.tuple [.str "truth"]
 | .gap k=>.tuple [.str "any",.int k]
 | .ls x=>.tuple [.str "list",pd x]
 | .fn x y=>.tuple [.str "fun",pd x,pd y]
 | .pr x y=>.tuple [.str "pair",pd x,pd y]
theorem Eo:PyData.strOk (Str.ofString "number")=true/\PyData.strOk (Str.ofString "truth")=true/\PyData.strOk (Str.ofString "any")=true/\PyData.strOk (Str.ofString "list")=true/\PyData.strOk (Str.ofString "fun")=true/\PyData.strOk (Str.ofString "pair")=true:=by decide +kernel
theorem GH:∀ t:Kd,(pd t).canLay0=true
 | .num=>by simp [pd,PyData.canLay0,PyData.canLayAll0,Eo]
 | .tru=>by simp [pd,PyData.canLay0,PyData.canLayAll0,Eo]
 | .gap k=>by simp [pd,PyData.canLay0,PyData.canLayAll0,Eo]
 | .ls x=>by simp [pd,PyData.canLay0,PyData.canLayAll0,GH x,Eo]
 | .fn x y=>by simp [pd,PyData.canLay0,PyData.canLayAll0,GH x,GH y,Eo]
 | .pr x y=>by simp [pd,PyData.canLay0,PyData.canLayAll0,GH x,GH y,Eo]
theorem Ep:∀ t:Kd,(pd t).depth=dp t+1
 | .num=>by simp [pd,PyData.depth,PyData.depthAll,dp]
 | .tru=>by simp [pd,PyData.depth,PyData.depthAll,dp]
 | .gap k=>by simp [pd,PyData.depth,PyData.depthAll,dp]
 | .ls x=>by simp [pd,PyData.depth,PyData.depthAll,dp,Ep x]
 | .fn x y=>by simp [pd,PyData.depth,PyData.depthAll,dp,Ep x,Ep y]
 | .pr x y=>by simp [pd,PyData.depth,PyData.depthAll,dp,Ep x,Ep y]
theorem Jf {t:Kd}(h:dp t<=60):SeqAt.shaped (pd t)=true:=by
 unfold SeqAt.shaped
 rw [GH,Ep]
 simp
 omega
noncomputable def tag:Kd->Nat
 | .num=>0
 | .tru=>1
 | .gap _=>2
 | .fn _ _=>3
 | .pr _ _=>4
 | .ls _=>5
noncomputable def QQ:Nat->Str
 | 0=>"number"
 | 1=>"truth"
 | 2=>"any"
 | 3=>"fun"
 | 4=>"pair"
 | _=>"list"
theorem Kq:∀ i,i < 6->∀ j,j < 6->(QQ i==QQ j)=(i==j):=by decide +kernel
theorem Hx (t:Kd):word t=QQ (tag t):=by cases t <;> rfl
theorem QR (t:Kd):tag t < 6:=by cases t <;> simp [tag]
theorem QS (t t':Kd):(word t==word t')=(tag t==tag t'):=by
 rw [Hx,Hx,Kq _ (QR t) _ (QR t')]
theorem UR (xs ys:List PyData):PyData.eqv (.tuple xs) (.tuple ys)=PyData.eqvAll xs ys:=by rw [PyData.eqv]
theorem DY (x y:PyData)(xs ys:List PyData):PyData.eqvAll (x::xs) (y::ys)=(PyData.eqv x y && PyData.eqvAll xs ys):=by rw [PyData.eqvAll]
theorem Fg:PyData.eqvAll [] []=true:=by rw [PyData.eqvAll]
theorem US (x y:Str):PyData.eqv (.str x) (.str y)=(x==y):=by rw [PyData.eqv]
theorem UT (x y:Int):PyData.eqv (.int x) (.int y)=(x==y):=by rw [PyData.eqv]
noncomputable def UU:Kd->List PyData
 | .num=>[]
 | .tru=>[]
 | .gap k=>[.int k]
 | .ls x=>[pd x]
 | .fn x y=>[pd x,pd y]
 | .pr x y=>[pd x,pd y]
theorem Xq (t:Kd):pd t=.tuple (.str (word t)::UU t):=by cases t <;> rfl
theorem GJ (t t':Kd):PyData.eqv (pd t) (pd t')=((tag t==tag t') && PyData.eqvAll (UU t) (UU t')):=by
 rw [Xq,Xq,UR,DY,US,QS]
theorem ZZ:∀ t t':Kd,PyData.eqv (pd t) (pd t')=decide (t=t'):=by
 intro t
 induction t with
 | num=>intro t';rw [GJ];cases t' <;> simp [tag,UU,Fg]
 | tru=>intro t';rw [GJ];cases t' <;> simp [tag,UU,Fg]
 | gap k =>
  intro t';rw [GJ]
  cases t' <;> simp only [tag,UU] <;> try (simp;done)
  rw [DY,UT,Fg,Bool.eq_iff_iff]
  simp
 | ls x ih =>
  intro t';rw [GJ]
  cases t' <;> simp only [tag,UU] <;> try (simp;done)
  rw [DY,Fg,ih,Bool.eq_iff_iff]
  simp
 | fn x y zC zD =>
  intro t';rw [GJ]
  cases t' <;> simp only [tag,UU] <;> try (simp;done)
  rw [DY,DY,Fg,zC,zD,Bool.eq_iff_iff]
  simp
 | pr x y zC zD =>
  intro t';rw [GJ]
  cases t' <;> simp only [tag,UU] <;> try (simp;done)
  rw [DY,DY,Fg,zC,zD,Bool.eq_iff_iff]
  simp
theorem Fh {P:Program}{w:World}{H:Hp}{h:Heap}{a:Addr}{xs:List V}(x:E8 P w H h)(e:H a=some (.tup xs)):EM λo its n=>Vals xs its/\h.get? a=some o/\o.cls=.type "tuple"/\o.data=.seq its.toArray n:=by
 obtain ⟨_,its,r,o,h1,h2,n,h3⟩:=(show Bk P w H h a (.tup xs) from x a _ e)
 exact ⟨o,its,n,r,h1,h2,h3⟩
theorem BU.reads {P:Program}{w:World}{H:Hp}{h:Heap}(x:E8 P w H h):∀ {t:Kd} {v:V} {u:Value},BU H t v->RelV v u->∃ as,Reads h u (pd t) as
 | .num,_,_,⟨a,e,q⟩,r=>by
  subst e;cases r
  obtain ⟨o,its,n,rv,h1,h2,h3⟩:=Fh x q
  cases rv with | cons r1 rv=>cases rv;obtain ⟨t1,rfl⟩:=r1;exact ⟨_,.tuple h1 h2 h3 (.cons (.str _ _) .nil)⟩
 | .tru,_,_,⟨a,e,q⟩,r=>by
  subst e;cases r
  obtain ⟨o,its,n,rv,h1,h2,h3⟩:=Fh x q
  cases rv with | cons r1 rv=>cases rv;obtain ⟨t1,rfl⟩:=r1;exact ⟨_,.tuple h1 h2 h3 (.cons (.str _ _) .nil)⟩
 | .gap k,_,_,⟨a,e,q⟩,r=>by
  subst e;cases r
  obtain ⟨o,its,n,rv,h1,h2,h3⟩:=Fh x q
  cases rv with | cons r1 rv=>cases rv with | cons r2 rv=>cases rv;obtain ⟨t1,rfl⟩:=r1;obtain ⟨t2,rfl⟩:=r2;exact ⟨_,.tuple h1 h2 h3 (.cons (.str _ _) (.cons (.int _ _) .nil))⟩
 | .ls y,_,_,⟨a,u,e,q,p⟩,r=>by
  subst e;cases r
  obtain ⟨o,its,n,rv,h1,h2,h3⟩:=Fh x q
  cases rv with | cons r1 rv=>cases rv with | cons r2 rv =>
   cases rv;obtain ⟨t1,rfl⟩:=r1
   obtain ⟨as,ra⟩:=BU.reads x p r2
   exact ⟨_,.tuple h1 h2 h3 (.cons (.str _ _) (.cons ra .nil))⟩
 | .fn y z,_,_,⟨a,u,u',e,q,p,p'⟩,r=>by
  subst e;cases r
  obtain ⟨o,its,n,rv,h1,h2,h3⟩:=Fh x q
  cases rv with | cons r1 rv=>cases rv with | cons r2 rv=>cases rv with | cons r3 rv =>
   cases rv;obtain ⟨t1,rfl⟩:=r1
   obtain ⟨as,ra⟩:=BU.reads x p r2
   obtain ⟨bs,rb⟩:=BU.reads x p' r3
   exact ⟨_,.tuple h1 h2 h3 (.cons (.str _ _) (.cons ra (.cons rb .nil)))⟩
 | .pr y z,_,_,⟨a,u,u',e,q,p,p'⟩,r=>by
  subst e;cases r
  obtain ⟨o,its,n,rv,h1,h2,h3⟩:=Fh x q
  cases rv with | cons r1 rv=>cases rv with | cons r2 rv=>cases rv with | cons r3 rv =>
   cases rv;obtain ⟨t1,rfl⟩:=r1
   obtain ⟨as,ra⟩:=BU.reads x p r2
   obtain ⟨bs,rb⟩:=BU.reads x p' r3
   exact ⟨_,.tuple h1 h2 h3 (.cons (.str _ _) (.cons ra (.cons rb .nil)))⟩
section
variable {X:Cx}
inductive Z' (x:V)(y:V)(H:Hp)(Q:VK):Prop
 | mk (t:_) (t':_) (h1:BU H t x) (h2:BU H t' y) (h3:dp t<=60) (h4:dp t'<=60) (h5:Q (.bl (decide (t=t'))) H):Z' x y H Q
theorem af (hu:X.A.units+64 < cLine):EN X (compareOp .Eq) Z':=by
 intro pins s σ H x y v u Q I rx ry h
 obtain ⟨t,t',k1,k2,d1,d2,q⟩:=h
 obtain ⟨as,ra⟩:=BU.reads I.hok k1 rx
 obtain ⟨bs,rb⟩:=BU.reads I.hok k2 ry
 exact eq_dataH ra rb (Jf d1) (Jf d2) hu (B6 I q (ZZ t t').symm)
theorem F3:DO X (.builtin "isinstance") (λxs H Q=>∃ x t T b,xs=[x,.ty T]/\Ek X.K H x t/\W.kitOne X.K t (.type T)=some b/\Q (.bl b) H):=by
 intro pins s σ H xs us Q I r h
 obtain ⟨x,t,T,b,rfl,ty,e,q⟩:=h
 obtain ⟨u,u',rfl,ru,oh⟩:=vals2 r
 obtain rfl:u'=Value.type T:=oh
 exact Oh I ru ty e λtk=>⟨.bl b,H,I.tok tk,rfl,q⟩
theorem all_bools:∀ (bs:List Bool),((List.range bs.length).all λi=>bs.getD i true)=bs.all id:=by
 intro bs
 rw [Bool.eq_iff_iff]
 simp only [List.all_eq_true,List.mem_range,id]
 constructor
 ·intro h b hb
  obtain ⟨i,hi,e⟩:=List.mem_iff_getElem.mp hb
  have:=h i hi
  simpa [List.getD,List.getElem?_eq_getElem hi,e] using this
 ·intro h i hi
  have:=h bs[i] (List.getElem_mem hi)
  simpa [List.getD,List.getElem?_eq_getElem hi] using this
theorem Jg (hc:X.calm=true):DO X (.builtin "all") (λxs H Q=>∃ (l:Addr) (bs:List Bool),xs=[.ref l]/\H l=some (.lst (bs.map V.bl))/\Q (.bl (bs.all id)) H):=by
 intro pins s σ H xs us Q I r h
 obtain ⟨l,bs,rfl,hl,q⟩:=h
 obtain ⟨u,rfl,ru⟩:=vals1 r
 obtain rfl:u=Value.ref l:=ru
 obtain ⟨hz,its,n,rv,e⟩:=(show Bk X.prog X.w H s.heap l (.lst (bs.map V.bl)) from I.hok l _ hl)
 have hlen:=rv.length
 rw [List.length_map] at hlen
 have hL:s.heap.IsList l its.toArray:=⟨_,e,rfl,n,rfl⟩
 have Ef:l < s.heap.objs.size:=Heap.lt_size e
 have hh:X.A.in1.handled=none:=I.ok.hd hc
 refine call_all_walk (wpAny_pyIter_list hL ?_)
 refine ⟨s.heap.objs.size,_,_,its.toArray.size,_,_,λi=>bs.getD i true,rfl,Walks.list hh s.heap.objs.size l (Nat.ne_of_lt Ef) its.toArray,⟨⟨_,Heap.get?_push_size _ rfl,rfl,rfl⟩,⟨_,Heap.get?_push_of_some _ e,rfl,n,rfl⟩⟩,?_,λh' tk hk=>?_⟩
 ·intro i v s' Q' E' hv hq
  have Ul:its[i]?=some v:=by simpa using hv
  have hi:i < its.length:=(List.getElem?_eq_some_iff.mp Ul).1
  have hb:(bs.map V.bl)[i]?=some (V.bl (bs[i]'())):=by rw [List.getElem?_map,List.getElem?_eq_getElem ()];rfl
  obtain ⟨u,hu,ru⟩:=rv.get hb
  rw [Ul] at hu
  cases hu
  obtain rfl:v=Value.bool (bs[i]'()):=ru
  refine wpAny_truthy_bool ?_
  have e1:bs.getD i true=bs[i]'():=by simp [List.getD,List.getElem?_eq_getElem (show i < bs.length by omega)]
  rw [<- e1]
  exact hq
 ·have I1:Inv X pins σ H { s with heap:=h',toks:=tk }:=I.kept λb o z=>hk b o (λy=>absurd (List.mem_singleton.mp y) (Nat.ne_of_lt (Heap.lt_size z))) (Heap.get?_push_of_some _ z)
  refine B6 I1 q ?_
  rw [List.size_toArray,<- hlen]
  exact (all_bools bs).symm
theorem Ox {xs:List V}{its:List Value}{acc:Array Value}(rv:Vals xs its)(hA:ItemsOf (λi v=>its.toArray[its.toArray.size - 1 - i]?=some v) acc its.toArray.size):Vals xs.reverse acc.toList:=by
 have hl:=rv.length
 have e:acc.toList=its.reverse:=by
  have hs:acc.size=its.length:=hA.1.trans (by simp)
  have hA:=hA.2
  refine List.ext_getElem? λj=>?_
  by_cases hj:j < its.length
  ·have h1:acc[j]?=some (acc[j]'()):=Array.getElem?_eq_getElem ()
   have h2:=hA j _ h1
   rw [List.getElem?_reverse hj]
   simp only [List.size_toArray,List.getElem?_toArray] at h2
   rw [h2]
   simpa using h1
  ·have h1:acc.toList[j]?=none:=List.getElem?_eq_none (by simp;omega)
   have h2:its.reverse[j]?=none:=List.getElem?_eq_none (by simp;omega)
   rw [h1,h2]
 rw [e]
 exact rv.reverse
end
end KS
namespace L2
open PySem PySem.Spec PyProof.Rows
open PySem.W (CodeHd tabObj TabsAt noTabs mem_of_lookupK)
noncomputable def oi (tabs:List (Addr × Addr))(H:Hp):Prop:=∀ b,H b=none\/(∃ o xs,H b=some (.frz o (.lst xs)))\/(H b=some (.tbl #[])/\b∈tabs.map (·.2))
theorem UW {K:W.Frag}(hK:noTabs K=true){b:Addr}{o:Obj}(e:K.lookup b=some o){ps:Array Value}:o≠tabObj ps:=by
 intro q
 have h2:=List.all_eq_true.mp hK (b,o) (mem_of_lookupK e)
 subst q
 exact absurd (show false=true from h2) Bool.false_ne_true
theorem Oy {P:Program}{w:World}{K:W.Frag}{mg mb:Str->Option Value}{CX:Kg}{k:Nat}{fa a:Addr}{fd:FuncData}{x:Str}{sp:Sp}{s₁:Shared}{vs:List Value}{ns:List Int}{tabs:List (Addr × Addr)}
  (KX:K.In s₁.heap) (JM:s₁.heap.Ns mainGlobals mg) (hb:s₁.heap.Ns builtinsNs mb) (hbb:∀ x:Str,x≠"__name__"->mb x=bootBuiltins x) (zE:s₁.heap.NoLimit) (hg:s₁.gens=#[])
  (hbm:∃ bm ob,mg "__builtins__"=some (.ref bm)/\bm≠builtinsNs/\s₁.heap.get? bm=some ob/\ob.cls=.type "module"/\ob.dict=some builtinsNs/\ob.data=.plain)
  (hT:TabsAt tabs s₁.heap) (hK:noTabs K=true)
  (ha:s₁.heap.get? a=some { cls:=.type "list",data:=.seq vs.toArray }) (hi:IntsAre vs ns) (hl:ns.length<=sizeLine) (hr:AY k callerA)
  (F:∀ base:Heap,K.In base->base.Ns mainGlobals mg->(∀ q∈tabs,Nj base mg q.1 q.2)->AI P w K mg base CX k fa fd [x] sp) (Nk:∀ (s:Shared) (u:Value),BindsTo s fd ⟨[u],[]⟩ [(x,u)])
  (Xj:∀ H:Hp,(∀ q∈tabs,H q.2=some (.tbl #[]))->AZ K H a (ns.map V.int)->sp [.ref a] H (λv _=>v=.bl true) λ_ _ _=>False)
  (hCX:∀ H e s',CX [] H s₁ (λ_ _ _=>False) e s'->False) :
  codeAny (model P w) callerA (.call (.ref fa) ⟨[.ref a],[]⟩) (λr s'=>r=.ok (.ret (.bool true))/\OldK s₁.heap s'.heap/\s'.os=s₁.os/\AllBare s'.gens) s₁:=by
 have rv:=Jc hi
 have zF:=hi.length
 have tabOf:∀ {b:Addr},b∈tabs.map (·.2)->s₁.heap.get? b=some (tabObj #[]):=λ{b} hm=>by
  obtain ⟨q,hq,e⟩:=List.mem_map.mp hm
  rw [<- e]
  exact (hT q hq).2
 have core:∀ H:Hp,oi tabs H->(∀ q∈tabs,H q.2=some (.tbl #[]))->AZ K H a (ns.map V.int)->E8 P w H s₁.heap->(∀ b,H b≠none->b=a\/b∈tabs.map (·.2))->(H a≠none->K.lookup a=none) ->
   codeAny (model P w) callerA (.call (.ref fa) ⟨[.ref a],[]⟩) (λr s'=>r=.ok (.ret (.bool true))/\OldK s₁.heap s'.heap/\s'.os=s₁.os/\AllBare s'.gens) s₁:=by
  intro H hO zG hS hok hA hKa
  have Hy:∀ {b:Addr} {o:Obj},s₁.heap.get? b=some o->H b=none->(IG s₁.heap H).get? b=some o:=λe n=>Q6 e n
  have ZG:∀ {b:Addr} {o:Obj},s₁.heap.get? b=some o->o≠{ cls:=.type "list",data:=.seq vs.toArray }->o≠tabObj #[]->H b=none:=λ{b o} e d1 d2=>by
   cases q:H b with
   | none=>rfl
   | some u =>
    rcases hA b (by rw [q];simp) with e' | e'
    ·subst e'
     rw [ha] at e;cases e
     exact absurd rfl d1
    ·rw [tabOf e'] at e;cases e
     exact absurd rfl d2
  have xG:∀ {b:Addr} {m:Str->Option Value},s₁.heap.Ns b m->(IG s₁.heap H).Ns b m:=λ{b m} ⟨o,es,ep,e,d,r⟩=>⟨o,es,ep,Hy e (ZG e (λz=>by rw [z] at d;cases d) (λz=>by rw [z] at d;cases d)),d,r⟩
  have hKb:K.In (IG s₁.heap H):=λb o e=>Hy (KX b o e) (by
   cases q:H b with
   | none=>rfl
   | some u =>
    rcases hA b (by rw [q];simp) with e' | e'
    ·subst e'
     rw [hKa (by rw [q];simp)] at e;cases e
    ·have z:=KX b o e
     rw [tabOf e'] at z
     exact absurd (Option.some.inj z).symm (UW hK e))
  have hM:Mod K mg (IG s₁.heap H):=⟨hKb,xG JM,⟨mb,xG hb,hbb⟩,let ⟨mc,h1,h2⟩:=zE;⟨mc,xG h1,h2⟩⟩
  have e0:LP P w K mg (IG s₁.heap H) callerA [] s₁ H:=⟨rfl,hM,λb o e=>U2 e,Nat.le_of_eq (O4 _ _),trivial,λb hb=>absurd (show b∈([]:List Addr) from hb) (by simp),hok,.of_eq hg⟩
  have hN:∀ q∈tabs,Nj (IG s₁.heap H) mg q.1 q.2:=λq hq=>by
   refine ⟨?_,?_⟩
   ·obtain ⟨o,Gy,file,tf,flags,tg,inF,text,tt,e1,c1,r⟩:=(hT q hq).1
    exact ⟨o,Gy,file,tf,flags,tg,inF,text,tt,Hy e1 (ZG e1 (λz=>by rw [z] at c1;exact absurd (show Value.type "list"=Value.type "code" from c1) ⟨⟩) (λz=>by rw [z] at c1;cases c1)),c1,r⟩
   ·obtain ⟨bm,ob,b1,b2,b3,b4,b5⟩:=hbm
    exact ⟨bm,ob,b1,b2,Hy b3 (ZG b3 (λz=>by rw [z] at b4;exact absurd (show Value.type "list"=Value.type "module" from b4) ⟨⟩) (λz=>by rw [z] at b4;cases b4)),b4,b5⟩
  refine codeAny_mono ((F _ hKb (xG JM) hN).run callerA [] s₁ H ⟨[.ref a],[]⟩ [.ref a] [.ref a] _ _ hr e0 (Nk s₁ (.ref a)) (.cons rfl .nil) (Xj H zG hS)) λr s' h=>?_
  cases r with
  | error e=>exact (hCX H e s' h).elim
  | ok fl =>
   cases fl with
   | next=>exact False.elim h
   | brk=>exact False.elim h
   | cont=>exact False.elim h
   | ret u =>
    obtain ⟨v,H',os,bare,un,oj,r',q⟩:=h
    have q':v=.bl true:=q
    subst q'
    obtain rfl:u=Value.bool true:=r'
    have key:∀ b o,s₁.heap.get? b=some o->s'.heap.get? b=some o\/(b∈tabs.map (·.2)/\o=tabObj #[]/\∃ more,s'.heap.get? b=some (tabObj (#[]++more))):=λb o e=>by
     cases q:H b with
     | none=>exact .inl (un.keep b o e q (by intro z;exact absurd (show b∈([]:List Addr) from z) (by simp)) (by simp))
     | some u =>
      rcases hO b with z | ⟨ob,xs,z⟩ | ⟨z,zm⟩
      ·rw [q] at z;cases z
      ·have z2:=un.frzs b ob _ z
       obtain ⟨e1,_⟩:=hok b _ z
       obtain ⟨e2,_⟩:=oj b _ z2
       rw [e] at e1;cases e1
       exact .inl e2
      ·obtain ⟨more,z2⟩:=un.tbls b _ z
       have e2:s'.heap.get? b=some _:=oj b _ z2
       have e1:=tabOf zm
       rw [e] at e1;cases e1
       exact .inr ⟨zm,rfl,more,e2⟩
    refine ⟨rfl,⟨λb o e=>?_,λb o e=>?_⟩,os,bare⟩
    ·rcases key b o e with z | ⟨zm,rfl,more,z⟩
     ·exact .inl z
     ·obtain ⟨q,hq,e'⟩:=List.mem_map.mp zm
      subst e'
      exact .inr (.inl ⟨((hT q hq).1.tab (hT q hq).2).isCodeTable,rfl,#[],more,rfl,z⟩)
    ·rcases key b o e with z | ⟨_,_,more,z⟩
     ·exact ⟨_,z⟩
     ·exact ⟨_,z⟩
 have om:∀ q∈tabs,q.2≠a:=λq hq z=>by
  have:=(hT q hq).2
  rw [z,ha] at this
  cases this
 cases hk:K.lookup a with
 | some o =>
  have e:=KX a o hk
  rw [ha] at e
  cases e
  refine core (λb=>if b∈tabs.map (·.2) then some (.tbl #[]) else none) (λb=>?_) (λq hq=>if_pos (List.mem_map_of_mem hq)) (.inr ⟨_,vs.toArray,_,hk,rfl,rfl,rfl,by rw [List.size_toArray,zF];exact hl,by simpa using rv⟩) (λb u z=>?_) (λb z=>?_) λz=>?_
  ·by_cases hb:b∈tabs.map (·.2)
   ·exact .inr (.inr ⟨if_pos hb,hb⟩)
   ·exact .inl (if_neg hb)
  ·by_cases hb:b∈tabs.map (·.2)
   ·have z':=(if_pos hb).symm.trans z
    cases z'
    exact tabOf hb
   ·have z':=(if_neg hb).symm.trans z
    cases z'
  ·by_cases hb:b∈tabs.map (·.2)
   ·exact .inr hb
   ·exact absurd (if_neg hb) z
  ·by_cases hb:a∈tabs.map (·.2)
   ·obtain ⟨q,hq,e'⟩:=List.mem_map.mp hb
    exact absurd e' (om q hq)
   ·exact absurd (if_neg hb) z
 | none =>
  refine core (λb=>if b=a then some (.frz { cls:=.type "list",data:=.seq vs.toArray } (.lst (ns.map V.int))) else if b∈tabs.map (·.2) then some (.tbl #[]) else none) (λb=>?_) (λq hq=>?_)
   (.inl (.inr ⟨{ cls:=.type "list",data:=.seq vs.toArray },if_pos rfl⟩)) (λb u z=>?_) (λb z=>?_) λ_=>hk
  ·by_cases hb:b=a
   ·exact .inr (.inl ⟨_,_,if_pos hb⟩)
   ·by_cases TQ:b∈tabs.map (·.2)
    ·exact .inr (.inr ⟨(if_neg hb).trans (if_pos TQ),TQ⟩)
    ·exact .inl ((if_neg hb).trans (if_neg TQ))
  ·exact (if_neg (om q hq)).trans (if_pos (List.mem_map_of_mem hq))
  ·by_cases hb:b=a
   ·have z':=(if_pos hb).symm.trans z
    cases z'
    subst hb
    exact ⟨ha,by rw [List.length_map];exact hl,vs,_,rv,ha⟩
   ·by_cases TQ:b∈tabs.map (·.2)
    ·have z':=((if_neg hb).trans (if_pos TQ)).symm.trans z
     cases z'
     exact tabOf TQ
    ·have z':=((if_neg hb).trans (if_neg TQ)).symm.trans z
     cases z'
  ·by_cases hb:b=a
   ·exact .inl hb
   ·by_cases TQ:b∈tabs.map (·.2)
    ·exact .inr TQ
    ·exact absurd ((if_neg hb).trans (if_neg TQ)) z
noncomputable def QT (K:W.Frag)(n:Nat)(ps:List Addr):Sp:=λvs H Q _=>∃ (a:Addr) (ns:List Int),vs=[.ref a]/\AZ K H a (ns.map V.int)/\ns.length<=n/\(∀ p∈ps,H p=some (.tbl #[]))/\∀ H',Q (.bl true) H'
theorem oo {l:W.OpenLaw}{n k:Nat}{q:Program}{loose:List Str}{XP:(Str->Option Value)->Heap->Prop}{YP:World->Heap->Prop}{d:DefRec}{K:Params->W.Frag}{x:Str}
  (hn:l.most=some n) (lO:n<=sizeLine) (zw:d.params.defaults=[]) (hr:AY k callerA)
  (hY:∀ (w:World) (h:Heap),YP w h->(K w.params).In h)
  (F:∀ (w:World) (mg mb:Str->Option Value) (UX:ExcName->Option Value) (fa:Addr) (h:Heap),(K w.params).In h->Top q (W.looseW q loose) UX mg mb h->mg d.name=some (.ref fa) ->
   ∃ (fd:FuncData) (tabs:List (Addr × Addr)),noTabs (K w.params)=true/\TabsAt tabs h/\(∀ (s:Shared) (u:Value),BindsTo s fd ⟨[u],[]⟩ [(x,u)]) /\
    ∀ base:Heap,(K w.params).In base->base.Ns mainGlobals mg->(∀ q∈tabs,Nj base mg q.1 q.2)->AI l.prog w (K w.params) mg base BR k fa fd [x] (QT (K w.params) n (tabs.map (·.2)))) :
  W.WalkO q loose XP YP l.row.toRowW d [] (λf vs=>PySem.call f vs):=by
 refine Att.attach_call hn zw λw s₀ s₁ mg mb fa o pm cd doc a vs ns G Y ho hd JD nY ZU hints hlen hg=>?_
 have KX:=hY w _ Y
 obtain ⟨fd,tabs,hK,hT,hb,hF⟩:=F w mg mb _ fa _ KX G.T nY
 refine Oy KX G.T.g G.T.b G.T.builtins G.T.nolimit hg G.T.bmain hT hK ZU hints (Nat.le_trans hlen lO) hr hF hb (λH zG hS=>⟨a,ns,rfl,hS,hlen,λp hp=>?_,λ_=>rfl⟩) λH e s' z=>z
 obtain ⟨q,hq,e'⟩:=List.mem_map.mp hp
 rw [<- e']
 exact zG q hq
end L2
namespace L2
open PySem PySem.Spec PyProof.Rows
noncomputable def EC (n0:Heap)(H:Hp)(h:Heap)(b:Addr):Prop:=n0.get? b=none/\H b=none/\Dn λo vs=>h.get? b=some o/\o.data=.fields vs
structure NK (fr:List Addr)(n0:Heap)(H:Hp)(h h':Heap):Prop where
 keep:∀ b o,h.get? b=some o->b∉fr->¬ EC n0 H h b->h'.get? b=some o
 slot:∀ b o,h.get? b=some o->(∀ vs,o.data≠.fields vs)->∃ sl,h'.get? b=some { o with slots:=sl }
 there:∀ b o,h.get? b=some o->∃ o',h'.get? b=some o'
 size:h.objs.size<=h'.objs.size
structure Fl (n0:Heap)(H:Hp)(a:Addr)(cls:Value)(h:Heap)(z:Option Value):Prop where
 new:n0.get? a=none
 un:H a=none
 ob:Dn λoe vs=>h.get? a=some oe/\oe.cls=cls/\oe.data=.fields vs/\1 < vs.size/\match z with
  | none=>vs[1]?=some .none
  | some z=>EM λT oT ts=>vs[1]?=some (.ref T)/\n0.get? T=none/\H T=none/\T≠a/\h.get? T=some oT/\oT.data=.fields ts/\ts[3]?=some z
section
variable {fr:List Addr}{n0:Heap}{H:Hp}{h h1 h2:Heap}{a:Addr}{cls:Value}{z:Option Value}
theorem NK.refl:NK fr n0 H h h:=⟨λ_ _ e _ _=>e,λ_ o e _=>⟨o.slots,e⟩,λ_ o e=>⟨o,e⟩,Nat.le_refl _⟩
theorem NK.trans (x:NK fr n0 H h h1)(y:NK fr n0 H h1 h2)(hr:∀ b o,h.get? b=some o->b∉fr->¬ EC n0 H h b->¬ EC n0 H h1 b):NK fr n0 H h h2 :=
 ⟨λb o e n m=>y.keep b o (x.keep b o e n m) n (hr b o e n m),λb o e d=>by
  obtain ⟨sl,e1⟩:=x.slot b o e d
  obtain ⟨lQ,e2⟩:=y.slot b _ e1 d
  exact ⟨lQ,e2⟩,λb o e=>let ⟨o1,e1⟩:=x.there b o e;y.there b o1 e1,Nat.le_trans x.size y.size⟩
theorem NK.trans' (x:NK fr n0 H h h1)(y:NK fr n0 H h1 h2):NK fr n0 H h h2:=x.trans y λb o e n m z=>by
 have e1:=x.keep b o e n m
 obtain ⟨z1,z2,o',vs,e2,d⟩:=z
 rw [e1] at e2
 cases e2
 exact m ⟨z1,z2,o,vs,e,d⟩
end
section
variable {M:Model}{A:Around}{E:Value->Shared->Prop}{s:Shared}{env:Env}{outer:List Env}{L a:Addr}{cls:Value}{n0:Heap}{H:Hp}{base:Heap}{Q:Unit->Shared->Prop}
theorem HU {head:Value}{UY:Bool}{oe:Obj}{vs:Array Value}(PR:A.frames=some (env::outer))(hl:s.heap.FunFrames base (env::outer))(hf:env.frame=some L)(hn:∀ b,s.heap.objs.size<=b->n0.get? b=none)(hH:∀ b,s.heap.objs.size<=b->H b=none)
  (ha:n0.get? a=none) (Xr:H a=none) (he:s.heap.get? a=some oe) (hc:oe.cls=cls) (hd:oe.data=.fields vs) (hsz:1 < vs.size)
  (h:∀ h',NK (frs (env::outer)) n0 H s.heap h'->Fl n0 H a cls h' (some (rawInt L))->Q .unit { s with heap:=h' }) :
  wpAny M A (do let f <- frameOf env;let pl <- entryPlaceOf L UY;let b <- EntryCells.newEntry head f .none (rawInt L) .none pl;setField (.ref a) 1 b) Q E s:=by
 have zH:a∉(env::outer).filterMap (·.frame):=λhm=>by
  obtain ⟨_,o,ho,ag⟩:=hl.mem hm
  rw [he] at ho;cases ho;exact ag vs hd
 refine wpAny_bind (wpAny_frameOf_fun PR hl hf λh₁ hs₁=>?_)
 refine wpAny_bind (wpAny_entryPlaceOf λpl Dc=>?_)
 unfold EntryCells.newEntry newFields
 refine wpAny_bind (wpAny_newObj_type ?_ (Dc.sizeOk5 _ _ _ _ _))
 have he₁:h₁.get? a=some oe:=(hs₁.2.1 a zH).trans he
 have he₂:=Heap.get?_push_of_some (h:=h₁) { cls:=.type "traceback",dict:=none,data:=.fields ([head,.ref L,.none,rawInt L,.none]++(if pl.isEmpty then List.replicate 6 Value.none else pl)).toArray } he₁
 refine wpAny_setField he₂ hd hsz ?_
 have Xs:h₁.objs.size≠a:=Nat.ne_of_gt (Heap.lt_size he₁)
 have hd₃:=Obj.data_mapFields hd (·.setIfInBounds 1 (Value.ref h₁.objs.size))
 have he₃:=Heap.get?_update_self (Obj.mapFields (·.setIfInBounds 1 (Value.ref h₁.objs.size))) he₂ (Obj.isFreed_of_fields hd₃)
 have hT₃:=(Heap.get?_update_other (h₁.push { cls:=.type "traceback",dict:=none,data:=.fields ([head,.ref L,.none,rawInt L,.none]++(if pl.isEmpty then List.replicate 6 Value.none else pl)).toArray })
  (Obj.mapFields (·.setIfInBounds 1 (Value.ref h₁.objs.size))) (Ne.symm Xs)).trans (Heap.get?_push_size h₁ rfl)
 have keep:∀ b o,b≠a->h₁.get? b=some o->((h₁.push { cls:=.type "traceback",dict:=none,data:=.fields ([head,.ref L,.none,rawInt L,.none]++(if pl.isEmpty then List.replicate 6 Value.none else pl)).toArray }).update a (Obj.mapFields (·.setIfInBounds 1 (Value.ref h₁.objs.size)))).get? b=some o:=λb o hb e=>by
  rw [Heap.get?_update_other _ _ (Ne.symm hb)]
  exact Heap.get?_push_of_some _ e
 refine h _ ⟨λb o e n m=>?_,λb o e d=>?_,λb o e=>?_,?_⟩ ⟨ha,Xr,_,_,he₃,(Obj.cls_mapFields ..).trans hc,hd₃,by simpa using hsz,h₁.objs.size,_,_,by simp [hsz],hn _ (by rw [hs₁.1];exact Nat.le_refl _),hH _ (by rw [hs₁.1];exact Nat.le_refl _),Xs,hT₃,rfl,by simp⟩
 ·refine keep b o (λz=>m ?_) ((hs₁.2.1 b n).trans e)
  subst z
  exact ⟨ha,Xr,oe,vs,he,hd⟩
 ·obtain ⟨sl,e1⟩:=hs₁.2.2 b o e
  refine ⟨sl,keep b _ (λz=>?_) e1⟩
  subst z
  rw [he] at e
  cases e
  exact d vs hd
 ·obtain ⟨sl,e1⟩:=hs₁.2.2 b o e
  by_cases z:b=a
  ·subst z;exact ⟨_,he₃⟩
  ·exact ⟨_,keep b _ z e1⟩
 ·rw [Heap.size_after_update,Heap.size_push,hs₁.1]
  omega
theorem Nl {z:Option Value}(PR:A.frames=some (env::outer))(hl:s.heap.FunFrames base (env::outer))(hf:env.frame=some L)(hn:∀ b,s.heap.objs.size<=b->n0.get? b=none)(hH:∀ b,s.heap.objs.size<=b->H b=none)(x:Fl n0 H a cls s.heap z)
  (h:∀ h',NK (frs (env::outer)) n0 H s.heap h'->Fl n0 H a cls h' (some (rawInt L))->Q .unit { s with heap:=h' }):wpAny M A (noteFrame (.ref a) env) Q E s:=by
 obtain ⟨ha,Xr,oe,vs,he,hc,hd,hsz,hz⟩:=x
 unfold noteFrame
 simp only [hf]
 cases z with
 | none =>
  refine wpAny_bind (wpAny_field he hd hz ?_)
  rw [if_neg ⟨⟩]
  exact HU PR hl hf hn hH ha Xr he hc hd hsz h
 | some z =>
  obtain ⟨T,oT,ts,h1,oq,ot,Xs,hT,PU,h3⟩:=hz
  refine wpAny_bind (wpAny_field he hd h1 ?_)
  rw [if_pos (show (Value.ref T != Value.none)=true from by simp)]
  refine wpAny_bind (wpAny_field hT PU h3 ?_)
  by_cases zI:(z==rawInt L)=true
  ·rw [if_pos zI]
   have e:z=rawInt L:=eq_of_beq zI
   subst e
   exact wpAny_pure (h _ .refl ⟨ha,Xr,oe,vs,he,hc,hd,hsz,T,oT,ts,h1,oq,ot,Xs,hT,PU,h3⟩)
  ·rw [if_neg zI]
   refine wpAny_bind (wpAny_setField hT PU (Array.getElem?_eq_some_iff.mp h3).1 ?_)
   have other:∀ b,b≠T->(s.heap.update T (Obj.mapFields (·.setIfInBounds 3 Value.none))).get? b=s.heap.get? b:=λb hb=>Heap.get?_update_other _ _ (Ne.symm hb)
   have G7:∀ b o,s.heap.get? b=some o->(∀ vs,o.data≠.fields vs)->b≠T:=λb o hb ag q=>by
    rw [q,hT] at hb;cases hb;exact ag ts PU
   have hs:(s.heap.update T (Obj.mapFields (·.setIfInBounds 3 Value.none))).objs.size=s.heap.objs.size:=Heap.size_after_update ..
   refine HU (s:={ s with heap:=s.heap.update T (Obj.mapFields (·.setIfInBounds 3 Value.none)) }) (base:=base) PR (hl.of_keeps λb o hb ag=>⟨o,(other b (G7 b o hb ag)).trans hb,rfl⟩) hf (λb hb=>hn b (by rw [hs] at hb;exact hb)) (λb hb=>hH b (by rw [hs] at hb;exact hb)) ha Xr ((other a (Ne.symm Xs)).trans he) hc hd hsz λh' nk fl=>?_
   have nk0:NK (frs (env::outer)) n0 H s.heap (s.heap.update T (Obj.mapFields (·.setIfInBounds 3 Value.none))):=by
    refine ⟨λb o e n m=>(other b λz=>m ?_).trans e,λb o e d=>⟨o.slots,(other b (G7 b o e d)).trans e⟩,λb o e=>?_,Nat.le_of_eq hs.symm⟩
    ·subst z;exact ⟨oq,ot,oT,ts,hT,PU⟩
    ·by_cases z:b=T
     ·subst z;exact ⟨_,Heap.get?_update_self _ hT (Obj.isFreed_of_fields (Obj.data_mapFields PU _))⟩
     ·exact ⟨o,(other b z).trans e⟩
   exact h h' (nk0.trans' nk) fl
theorem Fi {z:Value}{w:Option Addr}(x:Fl n0 H a cls s.heap (some z))(h:∀ h',NK (frs (env::outer)) n0 H s.heap h'->Fl n0 H a cls h' (some (w.elim .none λf=>rawInt f))->Q .unit { s with heap:=h' }):wpAny M A (setFlight (.ref a) w) Q E s:=by
 obtain ⟨ha,Xr,oe,vs,he,hc,hd,hsz,T,oT,ts,h1,oq,ot,Xs,hT,PU,h3⟩:=x
 have hts:=(Array.getElem?_eq_some_iff.mp h3).1
 unfold setFlight
 refine wpAny_bind (wpAny_field he hd h1 ?_)
 rw [if_pos (show (Value.ref T != Value.none)=true from by simp)]
 refine wpAny_setField hT PU hts ?_
 have other:∀ b,b≠T->(s.heap.update T (Obj.mapFields (·.setIfInBounds 3 (w.elim .none λf=>rawInt f)))).get? b=s.heap.get? b:=λb hb=>Heap.get?_update_other _ _ (Ne.symm hb)
 have G7:∀ b o,s.heap.get? b=some o->(∀ vs,o.data≠.fields vs)->b≠T:=λb o hb ag q=>by
  rw [q,hT] at hb;cases hb;exact ag ts PU
 have lR:=Heap.get?_update_self (Obj.mapFields (·.setIfInBounds 3 (w.elim .none λf=>rawInt f))) hT (Obj.isFreed_of_fields (Obj.data_mapFields PU _))
 refine h _ ⟨λb o e n m=>(other b λz=>m ?_).trans e,λb o e d=>⟨o.slots,(other b (G7 b o e d)).trans e⟩,λb o e=>?_,Nat.le_of_eq (Heap.size_after_update ..).symm⟩ ⟨ha,Xr,oe,vs,(other a (Ne.symm Xs)).trans he,hc,hd,hsz,T,_,_,h1,oq,ot,Xs,lR,Obj.data_mapFields PU _,by simp [hts]⟩
 ·subst z;exact ⟨oq,ot,oT,ts,hT,PU⟩
 ·by_cases z:b=T
  ·subst z;exact ⟨_,lR⟩
  ·exact ⟨o,(other b z).trans e⟩
end
open KS
structure SE (X:Cx)(e:Expr)(t:TE):Prop where out:PE X e t
structure ST (X:Cx)(e:Expr)(t:TT):Prop where out:PT X e t
structure SW (X:Cx)(e:Expr)(t:TT):Prop where out:PW X e t
structure SA (X:Cx)(es:List Expr)(t:TA):Prop where out:PA X es t
structure SS (X:Cx)(st:Stmt)(t:TS):Prop where out:PS X st t
structure SB (X:Cx)(st:List Stmt)(t:TS):Prop where out:Lw X st t
structure SG (X:Cx)(tg:Expr)(g:TG):Prop where out:PG X tg g
structure SI (X:Cx)(tg iter:Expr)(wi:TI):Prop where out:PI X tg iter wi
structure SF (X:Cx)(ifs:List Expr)(t:TT):Prop where out:lT X ifs t
structure SO (X:Cx)(e:Option Expr)(t:TO):Prop where out:PO X e t
structure SD (X:Cx)(pos:Pos)(keys:List (Option Expr))(values:List Expr)(Jb:List (TE × TE)):Prop where out:nX X pos keys values Jb
section
variable {env:Env}{es:List Expr}
theorem CQ {c k p}:starEach (.Constant c k p::es) env=(false,eval (.Constant c k p) env)::starEach es env:=rfl
theorem CT {a o b p}:starEach (.BinOp a o b p::es) env=(false,eval (.BinOp a o b p) env)::starEach es env:=rfl
theorem CU {a k p}:starEach (.Tuple a k p::es) env=(false,eval (.Tuple a k p) env)::starEach es env:=rfl
theorem C9 {a b c p}:starEach (.Call a b c p::es) env=(false,eval (.Call a b c p) env)::starEach es env:=rfl
theorem Ca {a p}:starEach (.Name a p::es) env=(false,eval (.Name a p) env)::starEach es env:=rfl
theorem CV {a b p}:starEach (.Subscript a b p::es) env=(false,eval (.Subscript a b p) env)::starEach es env:=rfl
theorem DP {a b c p}:starEach (.ListComp a b c p::es) env=(false,eval (.ListComp a b c p) env)::starEach es env:=rfl
end
section
variable {X:Cx}
theorem Af (i:Nat){x:Str}{pos:Pos}(hN:X.N[i]?=some x:=by rfl)(hv:Xb X.env.scope x:=by first | exact Or.inl rfl | exact Or.inr (.inl rfl) | exact Or.inr (.inr rfl))(hd:(x==("__debug__":Str))=false:=by decide)
  (JD:(x==("__classdict__":Str))=false:=by decide):SE X (.Name x pos) (Bw i):=⟨Lx hN hv hd JD⟩
theorem Ac {i j pos}:SE X (.Constant (.int i) j pos) (tC (.int i)):=⟨Ee⟩
theorem ah {b j pos}:SE X (.Constant (.bool b) j pos) (tC (.bl b)):=⟨nj⟩
theorem Fx {j pos}:SE X (.Constant .none j pos) (tC .non):=⟨Z6⟩
theorem Ag {x j pos}:SE X (.Constant (.str x) j pos) (tC (.str x)):=⟨Z7⟩
theorem GK {x:Str}{v:V}{u:Value}{pos:Pos}(hg:Gl X x)(hm:X.mg x=none)(hv:bootBuiltins x=some u)(r:RelV v u)(hn:x≠"__name__":=by decide)(hd:(x==("__debug__":Str))=false:=by decide):SE X (.Name x pos) (tC v):=⟨U5 hg hm hv r hn hd⟩
variable {a b c e o:Expr}{es:List Expr}{ta tb te to ti tx:TE}{tA U6:TT}{t:TA}{pos apos Cw p:Pos}{rest:List Expr}
theorem Av {r:R2}(hr:xw X r)(ha:SE X a ta)(hb:SE X b tb)(hs:Nc b):SE X (.Subscript a b pos) (Ft r ta tb):=⟨Xl hr ha.out hb.out hs⟩
theorem ED:SO X none Hw:=⟨Uw⟩
theorem EE (h:SE X e te):SO X (some e) (N7 te):=⟨Ux h.out⟩
theorem DT {lo hi:Option Expr}{tl th:TO}{p2:Pos}{r:V->Option Int->Option Int->Hp->VK->Prop}(hr:nQ X r)(he:SE X e te)(hl:SO X lo tl)(hu:SO X hi th):SE X (.Subscript e (.Slice lo hi none p2) pos) (xv r te tl th):=⟨Qs hr he.out hl.out hu.out⟩
theorem CP {op:CmpOp}{r:R2}(ho:EN X (compareOp op) r)(ha:SE X a ta)(hb:SE X b tb)(hm:behindInMarks op b=false):SE X (.Compare a [op] [b] pos) (Ft r ta tb):=⟨Ui ho ha.out hb.out hm⟩
theorem Az {op:CmpOp}{r:R2}(ho:EN X (compareOp op) r)(ha:SE X a ta)(hb:SE X b tb)(hm:behindInMarks op b=false):ST X (.Compare a [op] [b] pos) (J1 (Ft r ta tb)):=⟨Uj ho ha.out hb.out hm⟩
theorem Hf (h:SE X e te)(he:∀ whole,isTrue e X.env whole=(do let v <- whole;standAt e.pos;holding [v] (truthy v)):=by intro _;rfl):ST X e (tB te):=⟨Z9 h.out he⟩
theorem Ea (ha:SE X a ta)(he:∀ whole,isTrue a X.env whole=(do let v <- whole;standAt a.pos;holding [v] (truthy v)):=by intro _;rfl):ST X a (fun σ H Q=>ta σ H λx H'=>∃ k,Zv X.K x H' k/\Q k H'):=⟨Kf ha.out he⟩
theorem HV (ha:ST X a tA):ST X (.UnaryOp .Not a pos) (Zb tA):=⟨Ze ha.out⟩
theorem DN (ha:ST X a tA):SW X (.BoolOp .And [a] pos) tA:=⟨U7 ha.out⟩
theorem Fy (ha:ST X a tA):SW X (.BoolOp .Or [a] pos) tA:=⟨Zc ha.out⟩
theorem w_and (ha:ST X a tA)(hb:SW X (.BoolOp .And (b::rest) pos) U6):SW X (.BoolOp .And (a::b::rest) pos) (Za tA U6):=⟨Zd ha.out hb.out⟩
theorem w_or (ha:ST X a tA)(hb:SW X (.BoolOp .Or (b::rest) pos) U6):SW X (.BoolOp .Or (a::b::rest) pos) (yX tA U6):=⟨nr ha.out hb.out⟩
theorem ID (h:SW X e tA):ST X e tA:=⟨PW.pt h.out⟩
theorem Kr {op}(h:SE X a ta):SE X (.BoolOp op [a] pos) ta:=⟨Zg h.out⟩
theorem Nm (ha:SE X a ta)(hb:SE X (.BoolOp .And (b::rest) pos) tb):SE X (.BoolOp .And (a::b::rest) pos) (Qa ta tb):=⟨Zh ha.out hb.out⟩
theorem zJ (ha:SE X a ta)(hb:SE X (.BoolOp .Or (b::rest) pos) tb):SE X (.BoolOp .Or (a::b::rest) pos) (Zf ta tb):=⟨nt ha.out hb.out⟩
theorem Ks (hc:ST X c tA)(ha:SE X a ta)(hb:SE X b tb):SE X (.IfExp c a b pos) (yY tA ta tb):=⟨Qb hc.out ha.out hb.out⟩
theorem Aj {op:Operator}{r:R2}(ho:EN X (binaryOp op) r)(ha:SE X a ta)(hb:SE X b tb):SE X (.BinOp a op b pos) (Ft r ta tb):=⟨EO ho ha.out hb.out⟩
theorem Ab:SA X [] Ez:=⟨LO⟩
theorem Aa (ha:SE X e te)(hr:SA X es t)(hs:starEach (e::es) X.env=(false,eval e X.env)::starEach es X.env:=by first | exact CQ | exact Ca | exact C9 | exact CT | exact CU | exact CV | exact DP | rfl):SA X (e::es) (BM te t):=⟨Hv ha.out hr.out hs⟩
theorem Am {x1}(h:SA X es t):SE X (.Tuple es x1 pos) (Us t):=⟨ZC h.out⟩
theorem AS (h:SA X es t):SE X (.List es pos) (Ut t):=⟨ZD h.out⟩
variable {k:Nat}{f:Addr}{fd:FuncData}{ps:List Str}{sp:Sp}{x:Str}
theorem Md (F:AI X.prog X.w X.K X.mg X.base BR k f fd ps sp)(hr:AY k X.A)(hg:Gl X x)(hm:X.mg x=some (.ref f))(hk:W.keepIn X.K (.ref f)=true)(hb:Binds X.K fd ps [])(ha:SA X (e::es) t)(E9:(x==("__debug__":Str))=false:=by decide)
  (he:starEach (e::es) X.env=(false,eval e X.env)::starEach es X.env:=by first | exact CQ | exact Ca | exact C9 | exact CT | exact CU | exact CV | exact DP | rfl) (Dc:(backTo pos (starEach es X.env)).any (·.1)=false:=by rfl) :
  SE X (.Call (.Name x p) (e::es) [] pos) (DW sp [] E0 t):=⟨JH F hr hg hm hk hb .nil He ha.out E9 he Dc⟩
theorem AU {id:String}{r:List V->Hp->VK->Prop}(hc:DO X (.builtin id) r)(hg:Gl X x)(hm:X.mg x=none)(hv:bootBuiltins x=some (.builtin id))(ha:SA X (e::es) t)(hn:x≠"__name__":=by decide)(E9:(x==("__debug__":Str))=false:=by decide)
  (he:starEach (e::es) X.env=(false,eval e X.env)::starEach es X.env:=by first | exact CQ | exact Ca | exact C9 | exact CT | exact CU | exact CV | exact DP | rfl) (Dc:(backTo pos (starEach es X.env)).any (·.1)=false:=by rfl):SE X (.Call (.Name x p) (e::es) [] pos) (Xk r t):=⟨Ki hc hg hm hv ha.out hn E9 he Dc⟩
theorem Dj {T:String}{r:List V->Hp->VK->Prop}(hc:DO X (.type T) r)(hg:Gl X x)(hm:X.mg x=none)(hv:bootBuiltins x=some (.type T))(ha:SA X (e::es) t)(hn:x≠"__name__":=by decide)(E9:(x==("__debug__":Str))=false:=by decide)
  (he:starEach (e::es) X.env=(false,eval e X.env)::starEach es X.env:=by first | exact CQ | exact Ca | exact C9 | exact CT | exact CU | exact CV | exact DP | rfl) (Dc:(backTo pos (starEach es X.env)).any (·.1)=false:=by rfl):SE X (.Call (.Name x p) (e::es) [] pos) (Xk r t):=⟨Oj hc hg hm hv ha.out hn E9 he Dc⟩
theorem Jh {T id:String}{name:Str}{r:V->List V->Hp->VK->Prop}(pa:PlainAttrs T)(slot:Slot T name id)(ZM:typeOf (.builtin id)=pure (.type "method_descriptor"))(hm:xx X id r)(ho:SE X o to)
  (F0:attributeBase o name X.env (eval o X.env)=eval o X.env:=by rfl) (HN:(apos.endLine==Cw.line)=true:=by rfl):SE X (.Call (.Attribute o name apos) [] [] Cw) (UA X.K T r to):=⟨ZL pa slot ZM hm ho.out F0 HN⟩
theorem Oz {T id:String}{name:Str}{r:V->List V->Hp->VK->Prop}(pa:PlainAttrs T)(slot:Slot T name id)(ZM:typeOf (.builtin id)=pure (.type "method_descriptor"))(hm:xx X id r)(ho:SE X o to)(ha:SA X (e::es) t)
  (F0:attributeBase o name X.env (eval o X.env)=eval o X.env:=by rfl)
  (ZN:((backTo Cw (starEach (e::es) X.env)).all (λx=>!x.1) && (backToKw Cw (keywordEach [] X.env)).all (λx=>x.1.isSome)
   && decide ((e::es).length+([]:List Keyword).length+(if ([]:List Keyword).isEmpty then 0 else 1) < 30))=true:=by rfl)
  (HN:(apos.endLine==Cw.line)=true:=by rfl) (hs:starEach (e::es) X.env=(false,eval e X.env)::starEach es X.env:=by first | exact CQ | exact Ca | exact C9 | exact CT | exact CU | exact CV | exact DP | rfl) (LX:(backTo Cw (starEach es X.env)).any (·.1)=false:=by rfl) :
  SE X (.Call (.Attribute o name apos) (e::es) [] Cw) (zk X.K T r to t):=⟨nV pa slot ZM hm ho.out ha.out F0 ZN HN hs LX⟩
theorem G8 {f:Expr}(hu:X.A.units+1 < cLine)(ho:SE X o to)(he:SE X e te)(hf:SE X f tx)(m:M2 X o "get" apos e f Cw):SE X (.Call (.Attribute o "get" apos) [e,f] [] Cw) (M8 to te tx):=⟨QJ hu ho.out he.out hf.out m⟩
theorem QU {i:Expr}(hu:X.A.units+1 < cLine)(ho:SE X o to)(hi:SE X i ti)(hs:M0 i):SE X (.Subscript o i pos) (Ng to ti):=⟨UB hu ho.out hi.out hs⟩
theorem ai:SE X (.Dict [] [] pos) QE:=⟨QF⟩
theorem Nn:SD X pos [] [] []:=⟨UD⟩
theorem Dk {k v:Expr}{ks:List (Option Expr)}{vs:List Expr}{tk tv:TE}{Jb:List (TE × TE)}(hk:SE X k tk)(hv:SE X v tv)(hr:SD X pos ks vs Jb):SD X pos (some k::ks) (v::vs) ((tk,tv)::Jb):=⟨QG hk.out hv.out hr.out⟩
theorem JN {keys:List (Option Expr)}{values:List Expr}{Jb:List (TE × TE)}(h:SD X pos keys values Jb)(QI:keys.all (·.isSome)=true)(hl:keys.length=values.length)(h0:keys≠[])(zr:keys.length<=15):SE X (.Dict keys values pos) (QH Jb):=⟨UE h.out QI hl h0 zr⟩
theorem AK:SB X [] J0:=⟨MR⟩
variable {st:Stmt}{sts:List Stmt}{ts tu:TS}
theorem Ae (h1:SS X st ts)(h2:SB X sts tu):SB X (st::sts) (B8 ts tu):=⟨G0 h1.out h2.out⟩
theorem Ai (h1:SS X st ts):SB X [st] ts:=⟨Hs h1.out⟩
theorem BS (he:SE X e te)(hs:swapsWith e none pos.line X.env=pure false:=by rfl):SS X (.Expr e pos) (MT te):=⟨U8 he.out hs⟩
theorem Aw (he:SE X e te):SS X (.Return (some e) pos) (Ly te):=⟨JE he.out⟩
theorem B4 {a b:List Stmt}(hc:ST X c tA)(ha:SB X a ts)(hb:SB X b tu):SS X (.If c a b pos) (Lz tA ts tu):=⟨Xd hc.out ha.out hb.out⟩
theorem Ax {i:Nat}{pos':Pos}(hN:X.N.Nodup)(hi:X.N[i]?=some x)(hx:Loc X.env.scope x)(he:SE X e te)(hs:swapsWith e (some (.Name x pos')) pos.line X.env=pure false:=by rfl)(hf:X.fn x=true\/X.env.scope.names.lookup x=some .local:=by first | exact .inl rfl | exact .inr rfl | assumption):
  SS X (.Assign [.Name x pos'] e pos) (O6 te (Dg i)):=⟨LB hN hi hx he.out hs hf⟩
theorem aj {i value:Expr}{tv:TE}{pos':Pos}(hu:X.A.units+1 < cLine)(ho:SE X o to)(hi:SE X i ti)(hv:SE X value tv)(hs:swapsWith value (some (.Subscript o i pos')) pos.line X.env=pure false):SS X (.Assign [.Subscript o i pos'] value pos) (QD to ti tv):=⟨UC hu ho.out hi.out hv.out hs⟩
theorem JO {body:List Stmt}(hp:PassesOwn (model X.prog X.w) X.A X.env X.xe)(hc:ST X c tA)(hb:SB X body ts):SS X (.While c body [] pos) (Qd tA ts):=⟨Qe hp hc.out hb.out⟩
variable {tg iter:Expr}{wi:TI}{g:TG}
theorem QV {body:List Stmt}(hp:PassesOwn (model X.prog X.w) X.A X.env X.xe)(hc:X.calm=true)(hi:SI X tg iter wi)(hg:SG X tg g)(hb:SB X body ts)(hs:∀ x,foldedSetIterable iter X.env x=pure x:=by intro _;rfl):SS X (.For tg iter body [] pos) (Zq wi g ts):=⟨Zr hp hc hi.out hg.out hb.out hs⟩
theorem FI (hl:SE X e te):SI X tg e (MW X.K te):=⟨Uc hl.out⟩
theorem QW (hl:SE X e te):SI X tg e (Zo X.K te):=⟨Zp hl.out⟩
theorem HW {ta:TA}(hg:Gl X "range")(hm:X.mg "range"=none)(ha:SA X [a] ta)(hs:starEach [a] X.env=[(false,eval a X.env)]:=by rfl):SI X tg (.Call (.Name "range" p) [a] [] pos) (Qg ta):=⟨O8 hg hm ha.out hs⟩
theorem QX {ta:TA}(hg:Gl X "range")(hm:X.mg "range"=none)(ha:SA X [a,b] ta)(hs:starEach [a,b] X.env=[(false,eval a X.env),(false,eval b X.env)]:=by rfl)(Qh:starEach [b] X.env=[(false,eval b X.env)]:=by rfl):SI X tg (.Call (.Name "range" p) [a,b] [] pos) (Xf ta):=⟨O9 hg hm ha.out hs Qh⟩
theorem ou {ta:TA}(hg:Gl X "reversed")(hm:X.mg "reversed"=none)(ha:SA X [a] ta)(hs:starEach [a] X.env=[(false,eval a X.env)]:=by rfl):SI X tg (.Call (.Name "reversed" p) [a] [] pos) (ZX X.K ta):=⟨ZY hg hm ha.out hs⟩
theorem C1 {i:Nat}(hN:X.N.Nodup)(hi:X.N[i]?=some x)(hx:Loc X.env.scope x)(hf:X.fn x=true\/X.env.scope.names.lookup x=some .local:=by first | exact .inl rfl | exact .inr rfl | assumption):SG X (.Name x pos) (Dg i):=⟨Ua hN hi hx hf⟩
theorem Fz:SF X [] IK:=⟨UL⟩
theorem Xt (h:ST X c tA):SF X [c] tA:=⟨UM h.out⟩
variable {scope:Scope}{cl:List (Str × Addr)}{own fr:List Str}{js:List Nat}{elt:Expr}{ifs:List Expr}{tt:TT}
theorem GL (S:BG X scope cl own fr js)(Fw:X.calm=true)(hi:SI X tg iter wi)(hg:∀ C s0 H0 ex,SG (X.cmp scope cl own fr C s0 H0 ex) tg g)(ht:∀ C s0 H0 ex,SF (X.cmp scope cl own fr C s0 H0 ex) ifs tt)(he:∀ C s0 H0 ex,SE (X.cmp scope cl own fr C s0 H0 ex) elt te)
  (hs:∀ x,foldedSetIterable iter X.env x=pure x:=by intro _;rfl):SE X (.ListComp elt [⟨tg,iter,ifs,0⟩] scope pos) (Ni own js wi g tt te):=⟨UO S Fw hi.out (λC s0 H0 ex=>(hg C s0 H0 ex).out) (λC s0 H0 ex=>(ht C s0 H0 ex).out) (λC s0 H0 ex=>(he C s0 H0 ex).out) hs⟩
end
section
variable {P:Program}{w:World}{K:W.Frag}{mg:Str->Option Value}{base:Heap}
theorem Ck.okS {x qual:Str}{st:Stmt}{f:Addr}{fd:FuncData}{N ps:List Str}{k:Nat}{sp:Sp}(F:Ck K x qual st f fd)(S:Ar N ps (Ad st))(len:∀ vs H Q E,sp vs H Q E->vs.length=ps.length)
  (HL:∀ (Bo:Value) (A:Around) (outer:List Env) (s:Shared) (H:Hp) (vs:List V) (Q:VK) (E:XK),AY k (A.deeper (envOfC qual (Ad st) s.heap.objs.size f Bo))->sp vs H Q E ->
   ∃ t,SB (DE BR P w K mg base N qual (Ad st) f Bo A outer s H E).nox (Ao st) t/\t { nx:=λ_ H'=>Q .non H',rt:=Q } (start N vs) H):AI P w K mg base BR (k+1) f fd ps sp :=
 F.ok S len λBo A outer s H vs Q E hr h=>let ⟨t,h1,h2⟩:=HL Bo A outer s H vs Q E hr h;⟨t,h1.out,h2⟩
end
end L2
namespace L2
open PySem PySem.Spec PyProof.Rows
section
variable {X:Cx}{pins:List (Addr × Obj)}{σ:List (Option V)}{H H':Hp}{s:Shared}{h':Heap}
theorem Inv.stepN {g':Array GenState}{t':Nat}{d':Drawn}{ch:List Addr}(I:Inv X pins σ H s)
  (Lq:∀ b∈ch,(b∈X.ex\/X.s₀.heap.get? b=none)/\b≠X.env.locals/\(∀ x c,X.env.cells.lookup x=some c->c≠b)/\∀ p∈X.pn++pins,p.1≠b)
  (keep:∀ b o,b≠X.env.locals->b∉X.fs->b∉ch->s.heap.get? b=some o->H b=none->h'.get? b=some o)
  (slot:∀ b o,b≠X.env.locals->b∈X.fs->b∉ch->s.heap.get? b=some o->H b=none->∃ sl,h'.get? b=some { o with slots:=sl }) (free:∀ b o,b∉ch->s.heap.get? b=some o->H b=none->H' b=none)
  (there:∀ b o,b∉ch->s.heap.get? b=some o->∃ o',h'.get? b=some o')
  (tups:∀ b xs,H b=some (.tup xs)->H' b=some (.tup xs)) (frzs:∀ b o u,H b=some (.frz o u)->H' b=some (.frz o u)) (tbls:∀ b ps,H b=some (.tbl ps)->∃ more,H' b=some (.tbl (ps++more)))
  (ns:∀ m,s.heap.Ns X.env.locals m->h'.Ns X.env.locals m) (hok:E8 X.prog X.w H' h') (hg:AllBare g') :
  Inv X pins σ H' { s with heap:=h',gens:=g',drawn:=d',toks:=t' }:=by
 have ni:∀ b o,X.s₀.heap.get? b=some o->b≠X.env.locals:=λb o e=>Nat.ne_of_lt (Nat.lt_of_lt_of_le (Heap.lt_size e) I.ok.above)
 have U3:∀ b o,X.s₀.heap.get? b=some o->b∉X.ex->b∉ch:=λb o e hx hb=>by
  rcases (Lq b hb).1 with z | z
  ·exact hx z
  ·rw [e] at z;cases z
 have cellK:∀ x c,X.env.cells.lookup x=some c->∀ v,s.heap.IsCell c v->h'.IsCell c v:=λx c e v ⟨o,ho,hd⟩=>by
  have Q7:c∉ch:=λz=>(Lq c z).2.2.1 x c e rfl
  by_cases hc:c∈X.fs
  ·obtain ⟨sl,q⟩:=slot c o (I.cne x c e) hc Q7 ho (I.freeC x c e)
   exact ⟨_,q,hd⟩
  ·exact ⟨o,keep c o (I.cne x c e) hc Q7 ho (I.freeC x c e),hd⟩
 refine ⟨I.ok,I.os,hg,⟨λb o e n hb hx=>?_,λb o e n hb hx=>?_,λb o e n hx=>?_,λb o e hx=>?_,λb xs e=>tups b xs (I.base.tups b xs e),λb o xs e=>frzs b o xs (I.base.frzs b o xs e),λb ps e=>?_⟩,?_,λx c e=>?_,?_,λx c e=>?_,λp hp=>?_,hok,I.len⟩
 ·exact keep b o (ni b o e) hb (U3 b o e hx) (I.base.keep b o e n hb hx) (I.base.free b o e n hx)
 ·obtain ⟨sl,e1⟩:=I.base.slot b o e n hb hx
  obtain ⟨yS,e2⟩:=slot b _ (ni b o e) hb (U3 b o e hx) e1 (I.base.free b o e n hx)
  exact ⟨yS,e2⟩
 ·obtain ⟨o',e1⟩:=I.base.there b o e hx
  exact free b o' (U3 b o e hx) e1 (I.base.free b o e n hx)
 ·obtain ⟨o',e1⟩:=I.base.there b o e hx
  exact there b o' (U3 b o e hx) e1
 ·obtain ⟨m1,e1⟩:=I.base.tbls b ps e
  obtain ⟨m2,e2⟩:=tbls b _ e1
  exact ⟨m1++m2,by rw [e2,Array.append_assoc]⟩
 ·obtain ⟨m,hn,hl⟩:=I.loc
  refine ⟨m,ns m hn,λi x v e1 e2 e3=>?_⟩
  obtain ⟨u,r,l⟩:=hl i x v e1 e2 e3
  refine ⟨u,r,?_⟩
  rcases l with l | ⟨k,c,e,z⟩
  ·exact .inl l
  ·exact .inr ⟨k,c,e,cellK x c e _ z⟩
 ·obtain ⟨v,z⟩:=I.cell x c e
  exact ⟨v,cellK x c e v z⟩
 ·obtain ⟨m,⟨o,_,_,ho,_⟩,_⟩:=I.loc
  exact free _ o (λz=>(Lq _ z).2.1 rfl) ho I.free
 ·obtain ⟨v,o,ho,hd⟩:=I.cell x c e
  exact free c o (λz=>(Lq c z).2.2.1 x c e rfl) ho (I.freeC x c e)
 ·obtain ⟨e,n,ne,nf,d⟩:=I.pin p hp
  have Q7:p.1∉ch:=λz=>(Lq p.1 z).2.2.2 p hp rfl
  exact ⟨keep p.1 p.2 ne nf Q7 e n,free p.1 p.2 Q7 e n,ne,nf,d⟩
end
open Classical in
theorem Inv.noted {X:Cx}{σ:St}{H:Hp}{s:Shared}{h':Heap}{t':Nat}(hpn:X.pn=[])(I:Inv X [] σ H s)(nk:NK (frs X.stack) X.s₀.heap H s.heap h'):Inv X [] σ H { s with heap:=h',toks:=t' }:=by
 have mem:∀ b,b∈(List.range s.heap.objs.size).filter (λb=>decide (EC X.s₀.heap H s.heap b))↔EC X.s₀.heap H s.heap b:=λb=>by
  rw [List.mem_filter,List.mem_range,decide_eq_true_iff]
  exact ⟨λz=>z.2,λz=>⟨let ⟨_,_,o,_,e,_⟩:=z;Heap.lt_size e,z⟩⟩
 have sub:=I.stkSub
 have TM:∀ b u,H b=some u->∀ o,s.heap.get? b=some o->h'.get? b=some o:=λb u e o q=>nk.keep b o q (λz=>by rw [I.stkFree b z] at e;cases e) (λz=>by rw [z.2.1] at e;cases e)
 refine I.stepN (g':=s.gens) (d':=s.drawn) (ch:=(List.range s.heap.objs.size).filter (λb=>decide (EC X.s₀.heap H s.heap b))) (λb hb=>?_) (λb o hL hb hc e n=>?_) (λb o hL hb hc e n=>?_) (λ_ _ _ _ n=>n) (λb o _ e=>nk.there b o e) (λ_ _ e=>e) (λ_ _ _ e=>e) (λb ps e=>⟨#[],by rw [e];simp⟩) (λm hm=>?_) (λb u e=>?_) I.bare
 ·obtain ⟨z1,z2,o,vs,e,d⟩:=(mem b).mp hb
  refine ⟨.inr z1,λz=>?_,λx c hx z=>?_,λp hp=>by rw [hpn] at hp;cases hp⟩
  ·obtain ⟨m,⟨o',es,ep,e',d',_⟩,_⟩:=I.loc
   rw [<- z,e] at e'
   cases e'
   rw [d] at d'
   cases d'
  ·obtain ⟨v,o',e',d'⟩:=I.cell x c hx
   rw [z,e] at e'
   cases e'
   rw [d] at d'
   cases d'
 ·refine nk.keep b o e (λz=>?_) λz=>hc ((mem b).mpr z)
  rcases List.mem_cons.mp (sub b z) with z | z
  ·exact hL z
  ·exact hb z
 ·by_cases z:∃ vs,o.data=.fields vs
  ·obtain ⟨vs,d⟩:=z
   obtain ⟨_,o',e',nd⟩:=I.funs.mem hb
   rw [e] at e'
   cases e'
   exact absurd d (nd vs)
  ·exact nk.slot b o e λvs d=>z ⟨vs,d⟩
 ·obtain ⟨o,es,ep,e,d,r⟩:=hm
  obtain ⟨sl,e'⟩:=nk.slot _ o e λvs z=>by rw [d] at z;cases z
  exact ⟨_,es,ep,e',d,r⟩
 ·refine (I.hok b u e).stay (λc v hc q=>?_) (λ_ q=>q) λ_ _ q=>q
  rcases hc with z | z
  ·subst z;exact TM c u e v q
  ·exact TM c _ z v q
structure Body (X:Cx):Prop where
 stk:X.stack=X.env::X.outer
 frm:X.env.frame=some X.env.locals
 pn:X.pn=[]
 ex:X.ex=[]
inductive HX (X:Cx)(E:XK)(e:Value)(s':Shared):Prop
 | mk (σ:_) (H':_) (a:_) (cls:_) (z:_) (h1:e=.ref a) (h2:Inv X [] σ H' s') (h3:Fl X.s₀.heap H' a cls s'.heap z) (h4:E cls none H'):HX X E e s'
section
variable {X:Cx}{E:XK}
theorem Ji (B:Body X){σ:St}{H:Hp}{s:Shared}{a:Addr}{cls:Value}{z:Option Value}{Q:Unit->Shared->Prop}{E':Value->Shared->Prop}{M:Model}{A:Around}(hA:A.frames=some X.stack)(I:Inv X [] σ H s)(fl:Fl X.s₀.heap H a cls s.heap z)
  (h:∀ h',Inv X [] σ H { s with heap:=h',toks:=s.toks }->NK (frs X.stack) X.s₀.heap H s.heap h'->Fl X.s₀.heap H a cls h' (some (rawInt X.env.locals))->Q .unit { s with heap:=h' }):wpAny M A (noteFrame (.ref a) X.env) Q E' s:=by
 have fr:=I.stack
 rw [B.stk] at fr hA
 refine Nl hA fr B.frm (λb hb=>Heap.get?_none_of_le (Nat.le_trans I.sz hb)) (λb hb=>I.hok.fresh hb) fl λh' nk fl'=>?_
 rw [<- B.stk] at nk
 exact h h' (I.noted B.pn nk) nk fl'
theorem OB (B:Body X):PassesOwn (model X.prog X.w) X.A X.env (HX X E):=by
 rintro e s' ⟨σ,H',a,cls,z,rfl,I,fl,q⟩
 refine Ji B I.ok.frames I fl λh1 I1 xH lU=>?_
 unfold cameBackBy
 obtain ⟨_,_,oe,vs,he,_,hd,_,T,oT,ts,hz1,_⟩:=id lU
 refine wpAny_bind (wpAny_field (s:={ s' with heap:=h1 }) he hd hz1 ?_)
 rw [if_neg (by intro z;simp at z)]
 refine Fi (s:={ s' with heap:=h1 }) (env:=X.env) (outer:=X.outer) lU λh2 ak lV=>?_
 rw [<- B.stk] at ak
 exact ⟨σ,H',a,cls,_,rfl,I1.noted (t':=s'.toks) B.pn ak,lV,q⟩
end
inductive DK (P:Program)(w:World)(outer:(List Env))(H:Hp)(s:Shared)(E:XK)(e:Value)(s':Shared):Prop
 | mk (H':_) (a:_) (cls:_) (z:_) (h1:e=.ref a) (h2:s'.os=s.os) (h3:AllBare s'.gens) (h4:Un (frs outer) [] H H' s.heap s'.heap) (h5:E8 P w H' s'.heap) (h6:Fl s.heap H' a cls s'.heap z) (h7:E cls none H'):DK P w outer H s E e s'
theorem Fl.mono {n0 n1:Heap}{H:Hp}{a:Addr}{cls:Value}{h:Heap}{z:Option Value}(hn:∀ b,n0.get? b=none->n1.get? b=none)(x:Fl n0 H a cls h z):Fl n1 H a cls h z:=by
 obtain ⟨h1,h2,oe,vs,e1,e2,e3,e4,h3⟩:=x
 refine ⟨hn _ h1,h2,oe,vs,e1,e2,e3,e4,?_⟩
 cases z with
 | none=>exact h3
 | some z =>
  obtain ⟨T,oT,ts,g1,g2,g3⟩:=h3
  exact ⟨T,oT,ts,g1,hn _ g2,g3⟩
theorem ox {X:Cx}{E:XK}{E':Value->Shared->Prop}(B:Body X)(h:∀ e s',HX X E e s'->E' e s'):Passes (DK X.prog X.w) (X.wish E') E:=by
 intro pins σ H s e s' I q
 obtain ⟨H',a,cls,z,rfl,os,bare,un,hok,fl,q⟩:=q
 have I0:Inv X pins σ H s:=I.unwish
 refine h _ _ ⟨σ,H',a,cls,z,rfl,?_,fl.mono (λb z=>?_),q⟩
 rotate_left
 ·cases e:X.s₀.heap.get? b with
  | none=>rfl
  | some o =>
   obtain ⟨o',e'⟩:=I0.base.there b o e (by rw [B.ex];simp)
   rw [z] at e'
   cases e'
 obtain ⟨hh,g,d,t,ZE⟩:=s'
 obtain rfl:ZE=s.os:=os
 have I1:Inv X pins σ H' { s with heap:=hh,gens:=g,drawn:=d,toks:=t }:=I0.call (ch:=[]) un hok bare (λb z=>absurd z (by simp))
 exact I1.pins_of λp hp=>absurd hp (by simp)
theorem DU {CX:Kg}{P:Program}{w:World}{K:W.Frag}{mg:Str->Option Value}{base:Heap}{N:List Str}{qual:Str}{scope:Scope}{f:Addr}{cd:Value}{A:Around}{outer:List Env}{s:Shared}{H:Hp}{E:XK}:Body (DE CX P w K mg base N qual scope f cd A outer s H E):=⟨rfl,rfl,rfl,rfl⟩
theorem Me {P:Program}{w:World}{K:W.Frag}{mg:Str->Option Value}{base:Heap}{N:List Str}{qual:Str}{scope:Scope}{f:Addr}{cd:Value}{A:Around}{outer:List Env}{s:Shared}{H:Hp}{E:XK}{e:Value}{s':Shared}
  (h:HX (DE (DK P w) P w K mg base N qual scope f cd A outer s H E) E e s'):(DE (DK P w) P w K mg base N qual scope f cd A outer s H E).xe e s':=by
 obtain ⟨σ,H',a,cls,z,rfl,I,fl,q⟩:=h
 show wpAny _ _ (leaving _ (.ref a)) _ _ s'
 unfold leaving
 refine wpAny_bind (Ji (X:=DE (DK P w) P w K mg base N qual scope f cd A outer s H E) DU I.ok.frames I fl λh1 I1 xH lU=>?_)
 refine Fi (s:={ s' with heap:=h1 }) (env:=envOfC qual scope s.heap.objs.size f cd) (outer:=outer) lU λh2 ak lV=>?_
 have I2:=I1.noted (t':=s'.toks) rfl ak
 exact ⟨H',a,cls,_,rfl,I2.os,I2.bare,I2.base,I2.hok,lV,q⟩
section
variable {P:Program}{w:World}{K:W.Frag}{mg:Str->Option Value}{base:Heap}
abbrev oy (P:Program)(w:World)(K:W.Frag)(mg:Str->Option Value)(base:Heap)(N:List Str)(qual:Str)(scope:Scope)(f:Addr)(cd:Value)(A:Around)(outer:List Env)(s:Shared)(H:Hp)(E:XK):Cx :=
 (DE (DK P w) P w K mg base N qual scope f cd A outer s H E).wish (HX (DE (DK P w) P w K mg base N qual scope f cd A outer s H E) E)
theorem Ck.okX {x qual:Str}{st:Stmt}{f:Addr}{fd:FuncData}{N ps:List Str}{k:Nat}{sp:Sp}(F:Ck K x qual st f fd)(S:Ar N ps (Ad st))(len:∀ vs H Q E,sp vs H Q E->vs.length=ps.length)
  (HL:∀ (Bo:Value) (A:Around) (outer:List Env) (s:Shared) (H:Hp) (vs:List V) (Q:VK) (E:XK),AY k (A.deeper (envOfC qual (Ad st) s.heap.objs.size f Bo))->sp vs H Q E ->
   ∃ t,SB (oy P w K mg base N qual (Ad st) f Bo A outer s H E) (Ao st) t/\t { nx:=λ_ H'=>Q .non H',rt:=Q } (start N vs) H):AI P w K mg base (DK P w) (k+1) f fd ps sp:=by
 obtain ⟨oc,od,kV,doc,pm,an,Bo,ct,TN,rfl,lk,JD⟩:=F.ex
 refine Xi lk JD S len λA outer s H vs Q E hr Xj=>?_
 obtain ⟨t,h,q⟩:=HL Bo A outer s H vs Q E hr Xj
 refine ⟨t,λpins s1 σ H1 D I hw=>?_,q⟩
 exact wpAny_mono (h.out pins s1 σ H1 D (I.wish _) hw) (λ_ _ q=>q.unwish) λe s' z=>Me z
end
section
variable {X:Cx}{k:Nat}{f C:Addr}{fd:FuncData}{ps:List Str}{sp:Sp}{x m:Str}{E:XK}{e o:Expr}{es:List Expr}{t:TA}{ta:TE}{p pos apos:Pos}
theorem UZ (F:AI X.prog X.w X.K X.mg X.base (DK X.prog X.w) k f fd ps sp)(hx:Passes (DK X.prog X.w) X E)(hr:AY k X.A)(hg:Gl X x)(hm:X.mg x=some (.ref f))(hk:W.keepIn X.K (.ref f)=true)(hb:Binds X.K fd ps [])(ha:SA X (e::es) t)(E9:(x==("__debug__":Str))=false:=by decide)
  (he:starEach (e::es) X.env=(false,eval e X.env)::starEach es X.env:=by first | exact CQ | exact Ca | exact C9 | exact CT | exact CU | exact CV | exact DP | rfl) (Dc:(backTo pos (starEach es X.env)).any (·.1)=false:=by rfl) :
  SE X (.Call (.Name x p) (e::es) [] pos) (DW sp [] E t):=⟨JH F hr hg hm hk hb .nil hx ha.out E9 he Dc⟩
theorem U' {pl:Sem Bool}(he:SE X o ta)(c:IC X.K C)(hm:Meth X.K C m f)(F:AI X.prog X.w X.K X.mg X.base (DK X.prog X.w) k f fd ps sp)(hx:Passes (DK X.prog X.w) X E)(hr:AY k X.A)(hb:Binds X.K fd ps [])(ha:SA X (e::es) t)
  (DM:starEach (e::es) X.env=(false,eval e X.env)::starEach es X.env:=by first | exact CQ | exact Ca | exact C9 | exact CT | exact CU | exact CV | exact DP | rfl) (Dc:(backTo pos (starEach es X.env)).any (·.1)=false:=by rfl)
  (ht:eval (.Call (.Attribute o m apos) (e::es) [] pos) X.env=(do
   let ov <- eval o X.env
   standAt apos.atName
   let (f,first) <- holding [ov] (getMethod ov m pl)
   callWith pos f first (backTo pos (starEach (e::es) X.env)) (backToKw pos (keywordEach [] X.env))):=by rfl) :
  SE X (.Call (.Attribute o m apos) (e::es) [] pos) (G3 C m sp [] E ta t):=⟨N4 he.out c hm F hr hb .nil hx ha.out DM Dc ht⟩
theorem ao {pl:Sem Bool}(he:SE X o ta)(c:IC X.K C)(hm:Meth X.K C m f)(F:AI X.prog X.w X.K X.mg X.base BR k f fd ps sp)(hr:AY k X.A)(hb:Binds X.K fd ps [])(ha:SA X (e::es) t)
  (DM:starEach (e::es) X.env=(false,eval e X.env)::starEach es X.env:=by first | exact CQ | exact Ca | exact C9 | exact CT | exact CU | exact CV | exact DP | rfl) (Dc:(backTo pos (starEach es X.env)).any (·.1)=false:=by rfl)
  (ht:eval (.Call (.Attribute o m apos) (e::es) [] pos) X.env=(do
   let ov <- eval o X.env
   standAt apos.atName
   let (f,first) <- holding [ov] (getMethod ov m pl)
   callWith pos f first (backTo pos (starEach (e::es) X.env)) (backToKw pos (keywordEach [] X.env))):=by rfl) :
  SE X (.Call (.Attribute o m apos) (e::es) [] pos) (G3 C m sp [] E0 ta t):=⟨N4 he.out c hm F hr hb .nil He ha.out DM Dc ht⟩
end
open PySem.W (excIn tailIn nsOkIn isNs_of_in nsMap_none_of_in tail_of_in)
theorem OD {K:W.Frag}{h:Heap}{C:Addr}{Gz:List Value}{newId:String}(X:K.In h)(q:excIn K C Gz newId=true):
  ∃ (nm qn:Str) (N:Addr) (bs bm:List Value) (hdct:Bool) (sn:List Str) (sub:List Value) (ab:Bool) (col:Option Bool) (dd:Option Addr) (k0 k1 k2 k3 k5:Option Value) (mN:Str->Option Value),
   h.get? C=some (excClassObj nm qn C N bs bm hdct sn sub ab col dd k0 k1 k2 k3 k5 newId)/\h.Ns N mN/\mN "__init__"=none/\OwnTail h Gz bm:=by
 unfold excIn at q
 split at q
 ·rename_i dd cd sl ho
  split at q
  ·rename_i C' bm k0 k1 k2 k3 n k5 hm hs
   simp only [Bool.and_eq_true,beq_iff_eq,Bool.not_eq_true'] at q
   obtain ⟨⟨⟨⟨⟨rfl,rfl⟩,QY⟩,ht⟩,hok⟩,lW⟩:=q
   obtain ⟨nm,bs,mro,ns,qn,hd,sn,sub,ab,col,del⟩:=cd
   dsimp only at hm QY hok lW
   subst hm QY
   have zL:sl=#[k0,k1,k2,k3,some (.builtin n),k5]:=by
    obtain ⟨l⟩:=sl
    simp only at hs
    rw [hs]
   subst zL
   exact ⟨nm,qn,ns,bs,bm,hd,sn,sub,ab,col,dd,k0,k1,k2,k3,k5,_,X _ _ ho,.of_isNs (isNs_of_in X hok),nsMap_none_of_in X hok lW,tail_of_in X ht⟩
  ·cases q
 ·cases q
theorem Kt {P:Program}{w:World}{H:Hp}{h:Heap}{a:Addr}{o:HO}(x:Bk P w H h a o):∃ ob,h.get? a=some ob:=by
 cases o with
 | lst xs=>obtain ⟨_,_,_,_,e⟩:=x;exact ⟨_,e⟩
 | tup xs=>obtain ⟨_,_,_,o,e,_⟩:=x;exact ⟨o,e⟩
 | dK AH=>obtain ⟨_,_,_,_,o,_,_,e,_⟩:=x;exact ⟨o,e⟩
 | dT AH=>obtain ⟨_,_,_,_,o,_,_,e,_⟩:=x;exact ⟨o,e⟩
 | set S n=>obtain ⟨o,_,_,_,e,_⟩:=x;exact ⟨o,e⟩
 | ins C dx fs=>obtain ⟨_,_,_,e,_⟩:=x;exact ⟨_,e⟩
 | own y=>obtain ⟨o,e⟩:=x;exact ⟨o,e⟩
 | xd fs=>obtain ⟨_,⟨o,_,_,e,_⟩,_⟩:=x;exact ⟨o,e⟩
 | rng lo hi=>obtain ⟨_,_,_,e⟩:=x;exact ⟨_,e⟩
 | frz ob u=>obtain ⟨e,_⟩:=x;exact ⟨_,e⟩
 | tbl ps=>exact ⟨_,(show h.get? a=some _ from x)⟩
 | met f y=>exact ⟨_,(show h.get? a=some _ from x)⟩
 | ext φ=>obtain ⟨_,⟨o,e⟩,_⟩:=x;exact ⟨o,e⟩
noncomputable def Mf (C:Addr)(E:XK)(t:TA):TS:=λ_ σ H=>t σ H λvs H1=>vs.length<=1000/\E (.ref C) none H1
section
variable {X:Cx}{E:XK}{E':Value->Shared->Prop}
theorem QZ {C:Addr}{Gz:List Value}{newId DZ Bn:String}{x:Str}{np Cw pos:Pos}{e:Expr}{es:List Expr}{t:TA}(B:Body X)(hE:∀ e s',HX X E e s'->E' e s')(hg:Gl X x)(hm:X.mg x=some (.ref C))(hq:excIn X.K C Gz newId=true)(F:ExcBaseFacts Bn newId DZ Gz)(hc:X.calm=true)
  (ha:PA (X.wish E') (e::es) t) (E9:(x==("__debug__":Str))=false:=by decide) (he:starEach (e::es) X.env=(false,eval e X.env)::starEach es X.env:=by rfl) (Dc:(backTo Cw (starEach (e::es) X.env)).any (·.1)=false:=by rfl) :
  PS (X.wish E') (.Raise (some (.Call (.Name x np) (e::es) [] Cw)) none pos) (Mf C E t):=by
 intro pins s σ H D I h
 obtain ⟨nm,qn,N,bs,bm,hdct,sn,sub,ab,col,dd,k0,k1,k2,k3,k5,mN,hC,hN,lW,hT⟩:=OD I.ok.mod.kin hq
 refine wpAny_Raise_call_subT (C:=C) (nm:=nm) (q:=qn) (N:=N) (bs:=bs) (bm:=bm) (hdct:=hdct) (sn:=sn) (sub:=sub) (ab:=ab) (col:=col) (dd:=dd) (k0:=k0) (k1:=k1) (k2:=k2) (k3:=k3) (k5:=k5) F (mN:=mN) (hT.hasType F.hasBase) (I.ok.hd hc) Dc lW
  (Fe I hg hm ⟨rfl,?_⟩ E9)
 have h0:=ha Cw pins s σ H _ I h
 have e0:backTo Cw (starEach (e::es) X.env)=(false,eval e X.env)::backTo Cw (starEach es X.env):=by rw [he];rfl
 rw [show (X.wish E').env=X.env from rfl,e0] at h0
 rw [show (X.wish E').env=X.env from rfl,e0]
 refine Calls.evalArgs_plain (BA h0 λus s1 q1=>?_)
 obtain ⟨vs,H1,I1,r1,hlen,q⟩:=q1
 have hl:=r1.length
 have hb:=sizeLine_eq
 have kIn:∀ b o,X.base.get? b=some o->s1.heap.get? b=some o:=I1.bk
 refine ⟨rfl,by show us.length<=sizeLine;omega,kIn _ _ hC,hN.keeps kIn,hT.keeps kIn,λh' a hx=>hE _ _ ?_⟩
 obtain ⟨t0,xI,xJ,hx3⟩:=hx.there
 have I2:Inv (X.wish E') pins σ H1 { s1 with heap:=h',toks:=s1.toks }:=I1.kept hx.keeps
 have I3:Inv X [] σ H1 { s1 with heap:=h',toks:=s1.toks }:=I2.unwish.pins_of λp hp=>absurd hp (by simp)
 have un:H1 a=none:=by
  cases z:H1 a with
  | none=>rfl
  | some u =>
   obtain ⟨ob,eo⟩:∃ ob,s1.heap.get? a=some ob:=by
    have lt:=(I1.hok a u z)
    exact Kt lt
   rw [hx.new] at eo
   cases eo
 refine ⟨σ,H1,a,.ref C,none,rfl,I3,⟨?_,un,_,_,xI,rfl,rfl,by simp,rfl⟩,q⟩
 cases e0:X.s₀.heap.get? a with
 | none=>rfl
 | some o =>
  obtain ⟨o',e1⟩:=I1.unwish.base.there a o e0 (by rw [B.ex];simp)
  rw [hx.new] at e1
  cases e1
end
end L2
namespace L2
open PySem PySem.Spec PyProof.Rows
open PySem.W (excIn)
structure aq (X:Cx)(pins:List (Addr × Obj))(h0:Heap):Prop where
 pin:∀ p∈X.pn++pins,∃ o,h0.get? p.1=some o
 ent:∀ b,h0.get? b=none->X.s₀.heap.get? b=none
theorem Inv.refH {X:Cx}{pins:List (Addr × Obj)}{σ:St}{H:Hp}{s:Shared}(hx:X.ex=[])(I:Inv X pins σ H s):aq X pins s.heap:=⟨λp hp=>⟨_,(I.pin p hp).1⟩,λb z=>by
 cases e:X.s₀.heap.get? b with
 | none=>rfl
 | some o =>
  obtain ⟨o',e'⟩:=I.base.there b o e (by rw [hx];simp)
  rw [z] at e'
  cases e'⟩
inductive XP (X:Cx)(pins:List (Addr × Obj))(σ:St)(E:XK)(ex:Value)(s':Shared):Prop
 | mk (h0:_) (H':_) (a:_) (cls:_) (z:_) (h1:ex=.ref a) (h2:Inv X pins σ H' s') (h3:aq X pins h0) (h4:Fl h0 H' a cls s'.heap z) (h5:(∀ b o,h0.get? b=some o->∃ o',s'.heap.get? b=some o')) (h6:E cls none H'):XP X pins σ E ex s'
noncomputable def zM (X:Cx)(e:Expr)(t:XK->TE):Prop :=
 ∀ (E:XK) (pins:List (Addr × Obj)) (s:Shared) (σ:St) (H:Hp) (Q:VK),Inv X pins σ H s->t E σ H Q->wpAny (model X.prog X.w) X.A (eval e X.env) (EP X pins σ Q) (XP X pins σ E) s
structure SEx (X:Cx)(e:Expr)(t:XK->TE):Prop where out:zM X e t
section
variable {X:Cx}{k:Nat}{f:Addr}{fd:FuncData}{ps:List Str}{sp:Sp}{x:Str}{e:Expr}{es:List Expr}{t:TA}{p pos:Pos}
theorem R0 (hex:X.ex=[])(F:AI X.prog X.w X.K X.mg X.base (DK X.prog X.w) k f fd ps sp)(hr:AY k X.A)(hg:Gl X x)(hm:X.mg x=some (.ref f))(hk:W.keepIn X.K (.ref f)=true)(hb:Binds X.K fd ps [])
  (ha:PA X.nox (e::es) t) (E9:(x==("__debug__":Str))=false:=by decide) (he:starEach (e::es) X.env=(false,eval e X.env)::starEach es X.env:=by rfl) (Dc:(backTo pos (starEach es X.env)).any (·.1)=false:=by rfl) :
  zM X (.Call (.Name x p) (e::es) [] pos) (λE=>DW sp [] E t):=by
 intro E pins s σ H Q I h
 refine wpAny_Call_Name_kw (Fe I hg hm ?_ E9)
 have h0:=ha pos pins s σ H _ (I.wish _) h
 refine W.callWith_K (h₀:=X.base) I.ok.mod.kin hk (wpAny_mono h0 (λus s1 q1=>?_) λ_ _ z=>z.elim) he Dc
 obtain ⟨vs,H1,I1,r1,q⟩:=q1
 have I1:=I1.unwish
 refine ⟨I1.kIn,?_⟩
 have hl:us.length=ps.length:=by rw [<- r1.length];have:=F.len _ _ _ _ q;simpa using this
 have hz:us++[]=us:=List.append_nil us
 have Nk:=hb s1 us I1.kIn (by rw [hz];exact hl)
 rw [hz] at Nk
 rw [show vs++[]=vs from List.append_nil vs] at q
 show wpAny _ _ (call (.ref f) ([]++us)) _ _ _
 refine wpAny_call (codeAny_mono (F.run X.A X.stack s1 H1 ⟨us,[]⟩ us vs Q E hr I1.env0 Nk r1 q) λr s' hq=>?_)
 cases r with
 | ok fl =>
  cases fl with
  | ret u=>exact I1.after hq
  | next=>exact False.elim hq
  | brk=>exact False.elim hq
  | cont=>exact False.elim hq
 | error ex =>
  obtain ⟨H',a,cls,z,rfl,os,bare,un,hok,fl,qq⟩:=hq
  obtain ⟨hh,g,d,t',ZE⟩:=s'
  obtain rfl:ZE=s1.os:=os
  exact ⟨s1.heap,H',a,cls,z,rfl,I1.call (ch:=[]) un hok bare (λb z=>absurd z (by simp)),I1.refH hex,fl,λb o e=>un.there b o e (by simp),qq⟩
theorem JP (hex:X.ex=[])(F:AI X.prog X.w X.K X.mg X.base (DK X.prog X.w) k f fd ps sp)(hr:AY k X.A)(hg:Gl X x)(hm:X.mg x=some (.ref f))(hk:W.keepIn X.K (.ref f)=true)(hb:Binds X.K fd ps [])
  (ha:SA X.nox (e::es) t) (E9:(x==("__debug__":Str))=false:=by decide) (he:starEach (e::es) X.env=(false,eval e X.env)::starEach es X.env:=by first | exact CQ | exact Ca | exact C9 | exact CT | exact CU | exact CV | exact DP | rfl) (Dc:(backTo pos (starEach es X.env)).any (·.1)=false:=by rfl) :
  SEx X (.Call (.Name x p) (e::es) [] pos) (λE=>DW sp [] E t):=⟨R0 hex F hr hg hm hk hb ha.out E9 he Dc⟩
end
open Classical in
theorem Inv.notedP {X:Cx}{pins:List (Addr × Obj)}{σ:St}{H:Hp}{s:Shared}{h0 h':Heap}{t':Nat}(R:aq X pins h0)(I:Inv X pins σ H s)(nk:NK (frs X.stack) h0 H s.heap h'):Inv X pins σ H { s with heap:=h',toks:=t' }:=by
 have mem:∀ b,b∈(List.range s.heap.objs.size).filter (λb=>decide (EC h0 H s.heap b))↔EC h0 H s.heap b:=λb=>by
  rw [List.mem_filter,List.mem_range,decide_eq_true_iff]
  exact ⟨λz=>z.2,λz=>⟨let ⟨_,_,o,_,e,_⟩:=z;Heap.lt_size e,z⟩⟩
 have sub:=I.stkSub
 have TM:∀ b u,H b=some u->∀ o,s.heap.get? b=some o->h'.get? b=some o:=λb u e o q=>nk.keep b o q (λz=>by rw [I.stkFree b z] at e;cases e) (λz=>by rw [z.2.1] at e;cases e)
 refine I.stepN (g':=s.gens) (d':=s.drawn) (ch:=(List.range s.heap.objs.size).filter (λb=>decide (EC h0 H s.heap b))) (λb hb=>?_) (λb o hL hb hc e n=>?_) (λb o hL hb hc e n=>?_) (λ_ _ _ _ n=>n) (λb o _ e=>nk.there b o e) (λ_ _ e=>e) (λ_ _ _ e=>e) (λb ps e=>⟨#[],by rw [e];simp⟩) (λm hm=>?_) (λb u e=>?_) I.bare
 ·obtain ⟨z1,z2,o,vs,e,d⟩:=(mem b).mp hb
  refine ⟨.inr (R.ent b z1),λz=>?_,λx c hx z=>?_,λp hp z=>?_⟩
  ·obtain ⟨m,⟨o',es,ep,e',d',_⟩,_⟩:=I.loc
   rw [<- z,e] at e'
   cases e'
   rw [d] at d'
   cases d'
  ·obtain ⟨v,o',e',d'⟩:=I.cell x c hx
   rw [z,e] at e'
   cases e'
   rw [d] at d'
   cases d'
  ·obtain ⟨o',e'⟩:=R.pin p hp
   rw [z,z1] at e'
   cases e'
 ·refine nk.keep b o e (λz=>?_) λz=>hc ((mem b).mpr z)
  rcases List.mem_cons.mp (sub b z) with z | z
  ·exact hL z
  ·exact hb z
 ·by_cases z:∃ vs,o.data=.fields vs
  ·obtain ⟨vs,d⟩:=z
   obtain ⟨_,o',e',nd⟩:=I.funs.mem hb
   rw [e] at e'
   cases e'
   exact absurd d (nd vs)
  ·exact nk.slot b o e λvs d=>z ⟨vs,d⟩
 ·obtain ⟨o,es,ep,e,d,r⟩:=hm
  obtain ⟨sl,e'⟩:=nk.slot _ o e λvs z=>by rw [d] at z;cases z
  exact ⟨_,es,ep,e',d,r⟩
 ·refine (I.hok b u e).stay (λc v hc q=>?_) (λ_ q=>q) λ_ _ q=>q
  rcases hc with z | z
  ·subst z;exact TM c u e v q
  ·exact TM c _ z v q
noncomputable def GN (a:Addr)(cls:Value):HO:=.ext λh=>∃ o,h.get? a=some o/\o.cls=cls
theorem GN.ok {P:Program}{w:World}{H:Hp}{h:Heap}{a:Addr}{cls:Value}{o:Obj}(e:h.get? a=some o)(hc:o.cls=cls):Bk P w H h a (GN a cls):=⟨⟨o,e,hc⟩,⟨o,e⟩,λh1 h2 ⟨o',e',c'⟩ k=>⟨o',k o' e',c'⟩⟩
theorem GN.get {P:Program}{w:World}{H:Hp}{h:Heap}{a:Addr}{cls:Value}(x:E8 P w H h)(e:H a=some (GN a cls)):∃ o,h.get? a=some o/\o.cls=cls:=(x a _ e).1
theorem Inv.track {X:Cx}{pins:List (Addr × Obj)}{σ:St}{H:Hp}{s:Shared}{a:Addr}{o:HO}(I:Inv X pins σ H s)(hn:H a=none)(h0:X.s₀.heap.get? a=none)(hL:a≠X.env.locals)(hc:∀ x c,X.env.cells.lookup x=some c->c≠a)(hp:∀ p∈X.pn++pins,p.1≠a)
  (new:Bk X.prog X.w (upd H a o) s.heap a o):Inv X pins σ (upd H a o) s:=by
 refine ⟨I.ok,I.os,I.bare,?_,I.loc,I.cell,by rw [Aq (Ne.symm hL)];exact I.free,λx c e=>by rw [Aq (hc x c e)];exact I.freeC x c e,λp q=>?_,I.hok.track hn new,I.len⟩
 ·have u:=I.base
  exact ⟨u.keep,u.slot,λb ob q n hx=>by
   have hb:b≠a:=λz=>by rw [z,h0] at q;cases q
   rw [Aq hb]
   exact u.free b ob q n hx,u.there,λb xs q=>by
   have z:=u.tups b xs q
   rw [Aq (AF z hn)];exact z,λb ob xs q=>by
   have z:=u.frzs b ob xs q
   rw [Aq (AF z hn)];exact z,λb ps q=>by
   obtain ⟨more,z⟩:=u.tbls b ps q
   exact ⟨more,by rw [Aq (AF z hn)];exact z⟩⟩
 ·obtain ⟨e,n,r⟩:=I.pin p q
  exact ⟨e,by rw [Aq (hp p q)];exact n,r⟩
theorem OG {X:Cx}{pins:List (Addr × Obj)}{σ:St}{H:Hp}{s:Shared}{M:Model}{A:Around}{E:Value->Shared->Prop}{i:Nat}{x:Str}{v:V}{Q:Unit->Shared->Prop}(I:Inv X pins σ H s)(hN:X.N.Nodup)(hi:X.N[i]?=some x)(hk:X.env.scope.names.lookup x=some .local)(hσ:σ[i]?=some (some v))
  (h:∀ s',Inv X pins (σ.set i none) H s'->Q .unit s'):wpAny M A (unbindName X.env x) Q E s:=by
 obtain ⟨m,hn,hl⟩:=id I.loc
 have Q8:(X.env.scope.kind==.class || (X.env.scope.kind==.module && X.env.locals != X.env.globals))=false:=by rw [I.ok.kind];rfl
 have hiσ:i < σ.length:=by rw [I.len];exact (List.getElem?_eq_some_iff.mp hi).1
 obtain ⟨u0,_,lk⟩:=hl i x v hi hσ (.inl hk)
 have hv:m x=some u0:=by
  rcases lk with ⟨_,z⟩ | ⟨z,_⟩
  ·exact z
  ·have z':X.env.scope.names.lookup x=some .cell\/X.env.scope.names.lookup x=some .free:=z
   rw [hk] at z'
   rcases z' with z' | z' <;> cases z'
 refine wpAny_unbindName_local hk hn hv Q8 λh' u lL hs=>?_
 obtain ⟨oL,_,_,hoL,_⟩:=id hn
 have tracked:E8 X.prog X.w H h':=λb ob e=>by
  refine (I.hok b ob e).stay (λc w' hc q=>(hs.2 c ?_).trans q) (λ_ q=>q) λ_ _ q=>q
  rintro rfl
  rcases hc with rfl | hc
  ·rw [I.free] at e;cases e
  ·rw [I.free] at hc;cases hc
 refine h _ ⟨I.ok,I.os,I.bare,⟨λb o e n hb hx=>?_,λb o e n hb hx=>?_,I.base.free,λb o e hx=>?_,I.base.tups,I.base.frzs,I.base.tbls⟩,⟨_,lL,λj y v' e1 e2 e3=>?_⟩,λy c e=>?_,I.free,I.freeC,λp hp=>?_,tracked,by simpa using I.len⟩
 ·exact (hs.2 b (Nat.ne_of_lt (Nat.lt_of_lt_of_le (Heap.lt_size e) I.ok.above))).trans (I.base.keep b o e n hb hx)
 ·obtain ⟨sl,e1⟩:=I.base.slot b o e n hb hx
  exact ⟨sl,(hs.2 b (Nat.ne_of_lt (Nat.lt_of_lt_of_le (Heap.lt_size e) I.ok.above))).trans e1⟩
 ·obtain ⟨o',e1⟩:=I.base.there b o e hx
  exact ⟨o',(hs.2 b (Nat.ne_of_lt (Nat.lt_of_lt_of_le (Heap.lt_size e) I.ok.above))).trans e1⟩
 ·by_cases hj:j=i
  ·subst hj
   rw [List.getElem?_set_self hiσ] at e2
   cases e2
  ·rw [List.getElem?_set_ne (Ne.symm hj)] at e2
   obtain ⟨u',r',q⟩:=hl j y v' e1 e2 e3
   refine ⟨u',r',?_⟩
   rcases q with ⟨k,e⟩ | ⟨k,c,e,z⟩
   ·refine .inl ⟨k,?_⟩
    have:y≠x:=λe=>hj (HF hN e1 (e▸hi))
    simp [this,e]
   ·exact .inr ⟨k,c,e,z.sameBut hs (I.cne y c e)⟩
 ·obtain ⟨w',z⟩:=I.cell y c e
  exact ⟨w',z.sameBut hs (I.cne y c e)⟩
 ·obtain ⟨e,n,ne,nf,d⟩:=I.pin p hp
  exact ⟨(hs.2 p.1 ne).trans e,n,ne,nf,d⟩
end L2
namespace PySem
section
variable {M:Model}{A:Around}{E:Value->Shared->Prop}{nm q:Str}{C N:Addr}{bs bm:List Value}{hdct:Bool}{sn:List Str}{sub:List Value}{ab:Bool}{col:Option Bool}{dd:Option Addr}{k0 k1 k2 k3 k5:Option Value}{newId:String}
 {nm2 q2:Str} {C2 N2:Addr} {bs2 bm2:List Value} {oz:Bool} {sn2:List Str} {zN:List Value} {ab2:Bool} {zO:Option Bool} {lP:Option Addr} {j0 j1 j2 j3 j5:Option Value} {ar:String}
theorem HY {h:Heap}{g:Array GenState}{d:Drawn}{t:Nat}{os:OsState}{e:Addr}{oe:Obj}{Q:Bool->Shared->Prop}
  (hC:h.get? C=some (excClassObj nm q C N bs bm hdct sn sub ab col dd k0 k1 k2 k3 k5 newId)) (F0:bm.contains (.type "BaseException")=true)
  (zP:h.get? C2=some (excClassObj nm2 q2 C2 N2 bs2 bm2 oz sn2 zN ab2 zO lP j0 j1 j2 j3 j5 ar)) (he:h.get? e=some oe) (Q8:oe.cls=.ref C2) (hin:(Value.ref C2::bm2).contains (.ref C)=true)
  (hq:Q true ⟨h,g,d,t,os⟩):wpAny M A (excMatches (.ref e) (.ref C)) Q E ⟨h,g,d,t,os⟩:=by
 have oA:(Value.ref C::bm).contains (.type "BaseException")=true:=by rw [List.contains_cons,F0,Bool.or_true]
 have f:=tc_notTuple
 unfold excMatches
 repeat (first | (with_reducible refine wpAny_loadPart_at he ?_;rw [Q8]) | with_reducible refine wpAny_loadPart_at hC ?_ | (with_reducible refine wpAny_isSubtype_exc hC ?_;first | rw [oA]) | (with_reducible refine wpAny_isSubtype_exc zP ?_;first | rw [hin]) | wp_step)
 exact hq
end
end PySem
namespace L2
open PySem PySem.Spec PyProof.Rows
open PySem.W (excIn tailIn nsOkIn isNs_of_in nsMap_none_of_in tail_of_in)
noncomputable def R1 (K:W.Frag)(C:Addr):List Value:=match K.lookup C with
 | some ⟨_,_,.cls cd,_⟩=>cd.mro
 | _=>[]
theorem D' {K:W.Frag}{h:Heap}{C:Addr}{Gz:List Value}{newId:String}(X:K.In h)(q:excIn K C Gz newId=true):
  n6 λ(nm qn:Str) (N:Addr) (bs bm:List Value) (hdct:Bool) (sn:List Str) (sub:List Value) (ab:Bool) (col:Option Bool) (dd:Option Addr) (k0 k1 k2 k3 k5:Option Value)=>      h.get? C=some (excClassObj nm qn C N bs bm hdct sn sub ab col dd k0 k1 k2 k3 k5 newId)/\OwnTail h Gz bm/\R1 K C=Value.ref C::bm:=by
 unfold excIn at q
 split at q
 ·rename_i dd cd sl ho
  split at q
  ·rename_i C' bm k0 k1 k2 k3 n k5 hm hs
   simp only [Bool.and_eq_true,beq_iff_eq,Bool.not_eq_true'] at q
   obtain ⟨⟨⟨⟨⟨rfl,rfl⟩,QY⟩,ht⟩,hok⟩,lW⟩:=q
   obtain ⟨nm,bs,mro,ns,qn,hd,sn,sub,ab,col,del⟩:=cd
   dsimp only at hm QY hok lW
   subst hm QY
   have zL:sl=#[k0,k1,k2,k3,some (.builtin n),k5]:=by
    obtain ⟨l⟩:=sl
    simp only at hs
    rw [hs]
   subst zL
   exact ⟨nm,qn,ns,bs,bm,hd,sn,sub,ab,col,dd,k0,k1,k2,k3,k5,X _ _ ho,tail_of_in X ht,by unfold R1;rw [ho]⟩
  ·cases q
 ·cases q
abbrev Cx.inExc (X:Cx)(a:Addr):Cx:={ X with A:=X.A.mark (some (.ref a)),calm:=false,xe:=λ_ _=>False }
section
variable {X:Cx}{pins:List (Addr × Obj)}{σ:St}{H:Hp}{s:Shared}{a:Addr}
theorem Inv.inExc (I:Inv X pins σ H s)(a:Addr):Inv (X.inExc a) pins σ H s:=by
 obtain ⟨ok,r1,r2,r3,r4,r5,r6,r7,r8,r9,zQ⟩:=I
 exact ⟨⟨ok.mod,ok.kind,ok.glob,ok.blt,ok.above,ok.inj,ok.has,ok.cab,(λz=>by cases z),ok.frames,ok.stk,ok.exf,ok.bs,ok.bsz,ok.noex,ok.exfs,ok.funs,ok.frf⟩,r1,r2,r3,r4,r5,r6,r7,r8,r9,zQ⟩
theorem Inv.outExc (ok:X.Ok)(I:Inv (X.inExc a) pins σ H s):Inv X pins σ H s:=by
 obtain ⟨_,r1,r2,r3,r4,r5,r6,r7,r8,r9,zQ⟩:=I
 exact ⟨ok,r1,r2,r3,r4,r5,r6,r7,r8,r9,zQ⟩
end
noncomputable def oB (i j:Nat)(K:W.Frag)(C:Addr)(t:XK->TE)(ts:TS):TS:=λD σ H =>
 t (λcls _ H'=>EM λC2 bm newId=>cls=.ref C2/\excIn K C2 bm newId=true/\(R1 K C2).contains (.ref C)=true/\∀ a,H' a=none ->
   ts { nx:=fun σ' au=>∃ v,σ'[j]?=some (some v)/\D.nx (σ'.set j none) au,rt:=λ_ _=>False } (σ.set j (some (.ref a))) (upd H' a (GN a cls))) σ H
  (λv H'=>D.nx (σ.set i (some v)) H')
section
variable {X:Cx}{i j:Nat}{x y n:Str}{C:Addr}{Gz:List Value}{newId:String}{e:Expr}{t:XK->TE}{b₀:Stmt}{Ku:List Stmt}{ts:TS}{py apos np GO pos:Pos}
theorem aw (B:Body X)(hN:X.N.Nodup)(hi:X.N[i]?=some y)(hy:Loc X.env.scope y)(hj:X.N[j]?=some n)(hn:X.env.scope.names.lookup n=some .local)(hg:Gl X x)(hm:X.mg x=some (.ref C))(hq:excIn X.K C Gz newId=true)(F0:Gz.contains (.type "BaseException")=true)
  (he:zM X e t) (zR:∀ a,Lw (X.inExc a) (b₀::Ku) ts) (hs:swapsWith e (some (.Name y py)) apos.line X.env=pure false:=by rfl) (hf:X.fn y=true\/X.env.scope.names.lookup y=some .local:=by first | exact .inl rfl | exact .inr rfl | assumption) (E9:(x==("__debug__":Str))=false:=by decide) :
  PS X (.Try [.Assign [.Name y py] e apos] [.ExceptHandler (some (.Name x np)) (some n) (b₀::Ku) GO] [] [] pos) (oB i j X.K C t ts):=by
 intro pins s σ H D I h
 refine wpAny_Try_except ?_
 refine wpAny_execs_cons ?_
 refine wpAny_Assign_Name (wpAny_mono (he _ pins s σ H _ I h) (λv s1 q1=>?_) λex s1 q1=>?_) hs
 ·obtain ⟨v',H1,I1,r1,q⟩:=q1
  refine Ej I1 hN hi hy r1 (λs2 I2=>?_) hf
  refine wpAny_execs_nil ?_
  exact wpAny_execs_nil ⟨_,H1,I2,q⟩
 ·obtain ⟨h0,H1,a,cls,z,rfl,I1,R,fl,th,C2,bm,nid,rfl,q2,q3,q4⟩:=q1
  have fr:=I1.stack
  have frs:=I1.ok.frames
  rw [B.stk] at fr frs
  refine Nl frs fr B.frm (λb hb=>?_) (λb hb=>I1.hok.fresh hb) fl λh1 xH lU=>?_
  ·cases eb:h0.get? b with
   | none=>rfl
   | some o =>
    obtain ⟨o',e'⟩:=th b o eb
    exact absurd (Nat.lt_of_lt_of_le (Heap.lt_size e') hb) (Nat.lt_irrefl _)
  rw [<- B.stk] at xH
  have I2:=I1.notedP (t':=s1.toks) R xH
  refine Fi (s:={ s1 with heap:=h1 }) (env:=X.env) (outer:=X.outer) lU λh2 ak lV=>?_
  rw [<- B.stk] at ak
  have I3:=I2.notedP (t':=s1.toks) R ak
  refine wpAny_handleBy_cons (codeAny_handlers_test (Fe (I3.inExc a) hg hm ?_ E9)) (by intro q;cases q)
  obtain ⟨nm,qn,N,bs,bmk,hdct,sn,sub,ab,col,dd,k0,k1,k2,k3,k5,hC,hT,hmC⟩:=D' I3.kIn hq
  obtain ⟨nm',qn',N',OI,bm',Asg,sn',Awv,ab',Aww,PQ,j0,j1,j2,j3,j5,zP,xK,zT⟩:=D' I3.kIn q2
  obtain ⟨_,_,oe,vs,hoe,zU,Awy,_⟩:=id lV
  refine HY hC (hT.hasType F0) zP hoe zU (by rw [<- zT];exact q3) ?_
  refine codeAny_handlers_suite_as ?_
  refine Fi (s:={ s1 with heap:=h2 }) (env:=X.env) (outer:=X.outer) lV λh3 nk3 fl3=>?_
  rw [<- B.stk] at nk3
  have I4:=I3.notedP (t':=s1.toks) R nk3
  obtain ⟨_,_,oe3,zV,az,zW,Xu,_⟩:=id fl3
  have I5:Inv X pins σ (upd H1 a (GN a (.ref C2))) { s1 with heap:=h3,toks:=s1.toks }:=by
   refine I4.track fl.un (R.ent a fl.new) (λz=>?_) (λx c hx z=>?_) (λp hp z=>?_) (GN.ok az zW)
   ·obtain ⟨m,⟨o',es,ep,e',d',_⟩,_⟩:=I4.loc
    rw [<- z,az] at e'
    cases e'
    rw [Xu] at d'
    cases d'
   ·obtain ⟨v,o',e',d'⟩:=I4.cell x c hx
    rw [z,az] at e'
    cases e'
    rw [Xu] at d'
    cases d'
   ·obtain ⟨o',e'⟩:=R.pin p hp
    rw [z,fl.new] at e'
    cases e'
  refine Ej (X:=X.inExc a) (I5.inExc a) hN hj (Or.inl hn) (v:=.ref a) rfl (λs6 I6=>?_) (.inr hn)
  refine wpAny_mono (zR a pins s6 _ _ _ I6 (q4 a fl.un)) (λf s7 q7=>?_) λ_ _ z=>z.elim
  cases f with
  | next =>
   obtain ⟨σ7,H7,I7,v7,e7,n7⟩:=q7
   have I8:=I7.outExc I1.ok
   have Ef:j < σ7.length:=(List.getElem?_eq_some_iff.mp e7).1
   refine wpAny_bind (wpAny_bindName (Ej I8 hN hj (Or.inl hn) (v:=.non) rfl (λs9 I9=>?_) (.inr hn)))
   unfold unbindBehindTheSuite
   refine wpAny_onRaise (OG I9 hN hj hn (v:=.non) (by rw [List.getElem?_set_self Ef]) λDe I10=>?_)
   rw [List.set_set] at I10
   exact ⟨_,H7,I10,n7⟩
  | brk=>obtain ⟨_,_,_,z⟩:=q7;exact z.elim
  | cont=>obtain ⟨_,_,_,z⟩:=q7;exact z.elim
  | ret u=>obtain ⟨_,_,_,_,_,z⟩:=q7;exact z.elim
end
end L2
namespace PySem
open PySem.W (Looks looks_findIn findIn Frag)
section
variable {prog:Program}{w:World}{A:Around}{E:Value->Shared->Prop}{h:Heap}{g:Array GenState}{d:Drawn}{t:Nat}{os:OsState}{a:Addr}{o:Obj}{K:Frag}
 {nm q:Str} {C N:Addr} {bs bm Gz:List Value} {hdct:Bool} {sn:List Str} {sub:List Value} {ab:Bool} {col:Option Bool} {dd:Option Addr} {k0 k1 k2 k3 k5:Option Value} {newId:String}
theorem aA {R:Result->Shared->Prop}(hC:h.get? C=some (excClassObj nm q C N bs bm hdct sn sub ab col dd k0 k1 k2 k3 k5 newId))(ho:bm.contains (.type "object")=true)
  (hx:h.get? a=some o) (hc:o.cls=.ref C) (hq:R (.ok (.ret (.ref C))) ⟨h,g,d,t,os⟩) :
  codeAny (model prog w) A (.call (.builtin "getset_descriptor.__get__") ⟨[.builtin "object.__class__",.ref a,.ref C],[]⟩) R ⟨h,g,d,t,os⟩:=by
 have hT5:(⟨h,g,d,t,os⟩:Shared).TypeIs (.builtin "object.__class__") "getset_descriptor":=F.typeOf_object_class
 have oA:(Value.ref C::bm).contains (.type (".".intercalate ("object.__class__".cutAt '.').dropLast))=true:=by
  rw [F.owner_object_class,List.contains_cons,ho];rfl
 refine codeAny_call_builtin F.slot_gs_get.plain F.entry_gs_get (F.slot_gs_get.check _ _ _ _ _ _ _ _ hT5 (F.args_gs_get _ _ _) ?_)
 repeat (any_goals (first | assumption | (with_reducible refine wpAny_loadPart_at hx ?_;rw [hc]) | (with_reducible refine wpAny_isSubtype_exc hC ?_;rw [oA]) | wp_step))
 refine ⟨Code.quiet_builtin _ (by decide +kernel),codeAny_builtin F.entry_object_class ?_⟩
 repeat (any_goals (first | assumption | (with_reducible refine wpAny_loadPart_at hx ?_;rw [hc]) | wp_step))
theorem R3 {tk:Tok}{Q:Fin->Shared->Prop}(X:K.In h)(hC:h.get? C=some (excClassObj nm q C N bs bm hdct sn sub ab col dd k0 k1 k2 k3 k5 newId))(ho:bm.contains (.type "object")=true)
  (ec:findIn K (.ref C) "__class__"=some (some (.builtin "object.__class__"))) (hx:h.get? a=some o) (hc:o.cls=.ref C) (hq:Q (.done (.ret (.ref C))) ⟨h,g,d,t,os⟩) :
  wpAny (model prog w) A (Builtin.«object.__getattribute__» ⟨[.ref a,.str "__class__" tk],[]⟩) Q E ⟨h,g,d,t,os⟩:=by
 have hT5:(⟨h,g,d,t,os⟩:Shared).TypeIs (.builtin "object.__class__") "getset_descriptor":=F.typeOf_object_class
 have f5:=F.typeOf_object_class
 have f6:=F.slot_gs_get.lookup
 have f7:=F.slot_gs_set.lookup
 have L:=looks_findIn (M:=model prog w) X ec
 repeat (any_goals (first | assumption | (with_reducible refine wpAny_loadPart_at hx ?_;rw [hc]) | with_reducible refine W.Looks.at L ?_ | wp_step))
 refine aA hC ho hx hc ?_
 repeat (any_goals (first | assumption | wp_step))
theorem V0 {Q:Option Value->Shared->Prop}(X:K.In h)(hC:h.get? C=some (excClassObj nm q C N bs bm hdct sn sub ab col dd k0 k1 k2 k3 k5 newId))(ho:bm.contains (.type "object")=true)(hB:bm.contains (.type "BaseException")=true)
  (ec:findIn K (.ref C) "__class__"=some (some (.builtin "object.__class__"))) (eg:findIn K (.ref C) "__getattribute__"=some (some (.builtin "BaseException.__getattribute__"))) (ea:findIn K (.ref C) "__getattr__"=some none)
  (hx:h.get? a=some o) (hc:o.cls=.ref C) (hq:Q (some (.ref C)) ⟨h,g,d,t+1,os⟩):wpAny (model prog w) A (getAttr? (.ref a) "__class__") Q E ⟨h,g,d,t,os⟩:=by
 have L1:=looks_findIn (M:=model prog w) X eg
 have L2:=looks_findIn (M:=model prog w) X ea
 have f3:=F.attrBase_ValueError.ga.bind (.ref a)
 have xJ:(Value.builtin "BaseException.__getattribute__"==Value.builtin "object.__getattribute__")=false:=by decide +kernel
 have xI:(onTheHeap (Value.ref C) && Value.builtin "BaseException.__getattribute__"==Value.builtin "object.__getattribute__")=false:=by rw [xJ];rfl
 have lX:(false && onTheHeap (Value.builtin "BaseException.__getattribute__"))=false:=rfl
 have hk:builtinKind "BaseException.__getattribute__"=some .slot:=by decide +kernel
 have aB:splitId "BaseException.__getattribute__"=some ("BaseException","__getattribute__"):=by decide +kernel
 have oA:(Value.ref C::bm).contains (.type "BaseException")=true:=by rw [List.contains_cons,hB];rfl
 have chk:∀ (R4:Value) {Q:Unit->Shared->Prop} {E:Value->Shared->Prop} {A:Around} {t:Nat},Q .unit ⟨h,g,d,t,os⟩->wpAny (model prog w) A (checkBuiltinCall "BaseException.__getattribute__" ⟨[.ref a,R4],[]⟩) Q E ⟨h,g,d,t,os⟩:=by
  intro R4 Q E A t hq
  have ha:=F.args_bexc_ga (.ref a) R4
  simp only [checkBuiltinCall,hk,aB]
  refine wpAny_bind ?_
  ·unfold isInstance
   repeat (first | (with_reducible refine wpAny_loadPart_at hx ?_;rw [hc]) | (with_reducible refine wpAny_isSubtype_exc hC ?_;rw [oA]) | wp_step)
   exact hq
 unfold getAttr? getAttrBy? getAttrBy
 repeat (any_goals (first | assumption | (with_reducible refine wpAny_loadPart_at hx ?_;rw [hc]) | with_reducible refine W.Looks.at L1 ?_ | with_reducible refine W.Looks.at L2 ?_ | wp_step))
 refine codeAny_call_builtin F.attrBase_ValueError.ga.plain F.entry_bexc_ga (chk _ (R3 X hC ho ec hx hc ?_))
 repeat (any_goals (first | assumption | wp_step))
end
end PySem
namespace L2
open PySem PySem.Spec PyProof.Rows
open PySem.W (excIn findIn kitOne kitAny KitX)
structure OJ (K:W.Frag)(C:Addr)(Gz:List Value)(newId:String):Prop where
 ex:excIn K C Gz newId=true
 ob:Gz.contains (.type "object")=true
 be:Gz.contains (.type "BaseException")=true
 ec:findIn K (.ref C) "__class__"=some (some (.builtin "object.__class__"))
 eg:findIn K (.ref C) "__getattribute__"=some (some (.builtin "BaseException.__getattribute__"))
 ea:findIn K (.ref C) "__getattr__"=some none
theorem Kv {K:W.Frag}{C a:Addr}{Gz:List Value}{newId:String}(Z:OJ K C Gz newId):KitX K (.ref a) (.ref C) (λh=>∃ o,h.get? a=some o/\o.cls=.ref C) where
 ty:=λM h _ ⟨o,h1,h2⟩=>by
  exact h2▸(W.Looks.ld h1).andThen .now
 it:=λM h X _=>by
  obtain ⟨nm,qn,N,bs,bm,hdct,sn,sub,ab,col,dd,k0,k1,k2,k3,k5,hC,hT,hm⟩:=D' X Z.ex
  intro A' Q' E' s' k q
  unfold isType loadHead
  exact wpAny_bind (wpAny_loadPart (k _ _ hC) (wpAny_pure q))
 ne:=λh tp dd its n sl X htp=>by
  obtain ⟨nm,qn,N,bs,bm,hdct,sn,sub,ab,col,PQ,k0,k1,k2,k3,k5,hC,hT,hm⟩:=D' X Z.ex
  refine Bool.eq_false_iff.mpr λq=>?_
  have e:C=tp:=Value.ref.inj (beq_iff_eq.mp q)
  subst e
  rw [hC] at htp
  have z:=congrArg Obj.data (Option.some.inj htp)
  cases z
 ca:=λ{prog w A E Q s} X ⟨o,h1,h2⟩ k=>by
  obtain ⟨nm,qn,N,bs,bm,hdct,sn,sub,ab,col,PQ,k0,k1,k2,k3,k5,hC,hT,hm⟩:=D' X Z.ex
  obtain ⟨hh,g,d,t,os⟩:=s
  exact V0 X hC (hT.hasType Z.ob) (hT.hasType Z.be) Z.ec Z.eg Z.ea h1 h2 k
theorem Jj:∀ {ds:List Addr} {us:List Value},Vals (ds.map V.ref) us->us=ds.map Value.ref
 | [],_,.nil=>rfl
 | d::ds,_,.cons r1 r2=>by
  obtain rfl:_=Value.ref d:=r1
  rw [List.map_cons,Jj r2]
section
variable {X:Cx}
noncomputable def oC:V->Option Value
 | .ref D=>some (.ref D)
 | .ty T=>some (.type T)
 | _=>none
theorem HZ:DO X (.builtin "isinstance") (λxs H Q=>∃ a C Gz newId v c b,xs=[.ref a,v]/\oC v=some c/\H a=some (GN a (.ref C))/\OJ X.K C Gz newId/\kitOne X.K (.ref C) c=some b/\Q (.bl b) H):=by
 intro pins s σ H xs us Q I r h
 obtain ⟨a,C,Gz,newId,v,c,b,rfl,hv,ha,Z,e,q⟩:=h
 obtain ⟨u,u',rfl,ru,oh⟩:=vals2 r
 obtain rfl:u=Value.ref a:=ru
 have hc:u'=c:=by
  cases v <;> simp only [oC] at hv <;> cases hv <;> exact oh
 subst hc
 exact W.kia_one (Kv Z) I.kIn (GN.get I.hok ha) e (λz=>nomatch z) λtk=>⟨.bl b,H,I.tok tk,rfl,q⟩
theorem Kw:DO X (.builtin "isinstance") (λxs H Q=>∃ (a C:Addr) (Gz:List Value) (newId:String) (p:Addr) (ds:List Addr) (b:Bool),xs=[.ref a,.ref p]/\H p=some (.tup (ds.map V.ref))/\H a=some (GN a (.ref C))/\OJ X.K C Gz newId/\kitAny X.K (.ref C) (ds.map Value.ref)=some b/\Q (.bl b) H):=by
 intro pins s σ H xs us Q I r h
 obtain ⟨a,C,Gz,newId,p,ds,b,rfl,hp,ha,Z,e,q⟩:=h
 obtain ⟨u,u',rfl,ru,oh⟩:=vals2 r
 obtain rfl:u=Value.ref a:=ru
 obtain rfl:u'=Value.ref p:=oh
 obtain ⟨_,its,rv,o,h1,h2,n,h3⟩:=(show Bk X.prog X.w H s.heap p (.tup (ds.map V.ref)) from I.hok p _ hp)
 obtain ⟨oc,od,da,TN⟩:=o
 simp only at h2 h3
 subst h2 h3
 have ei:its=ds.map Value.ref:=Jj rv
 subst ei
 exact W.kia_tup (Kv Z) I.kIn (GN.get I.hok ha) h1 e (λz=>nomatch z) λtk=>⟨.bl b,H,I.tok tk,rfl,q⟩
end
section
variable {X:Cx}{i j:Nat}{x y n:Str}{C:Addr}{Gz:List Value}{newId DZ Bn:String}{e:Expr}{es:List Expr}{t:XK->TE}{ta:TA}{b₀:Stmt}{Ku:List Stmt}{ts:TS}{py apos np GO Cw pos:Pos}{E:XK}{E':Value->Shared->Prop}
theorem oE (B:Body X)(hN:X.N.Nodup)(hi:X.N[i]?=some y)(hy:Loc X.env.scope y)(hj:X.N[j]?=some n)(hn:X.env.scope.names.lookup n=some .local)(hg:Gl X x)(hm:X.mg x=some (.ref C))(Z:OJ X.K C Gz newId)
  (he:SEx X e t) (zR:∀ a,SB (X.inExc a) (b₀::Ku) ts) (hs:swapsWith e (some (.Name y py)) apos.line X.env=pure false:=by rfl) (hf:X.fn y=true\/X.env.scope.names.lookup y=some .local:=by first | exact .inl rfl | exact .inr rfl | assumption) (E9:(x==("__debug__":Str))=false:=by decide) :
  SS X (.Try [.Assign [.Name y py] e apos] [.ExceptHandler (some (.Name x np)) (some n) (b₀::Ku) GO] [] [] pos) (oB i j X.K C t ts):=⟨aw B hN hi hy hj hn hg hm Z.ex Z.be he.out (λa=>(zR a).out) hs hf E9⟩
theorem Fj (B:Body X)(hE:∀ e s',HX X E e s'->E' e s')(hg:Gl X x)(hm:X.mg x=some (.ref C))(hq:excIn X.K C Gz newId=true)(F:ExcBaseFacts Bn newId DZ Gz)(hc:X.calm=true)
  (ha:SA (X.wish E') (e::es) ta) (E9:(x==("__debug__":Str))=false:=by decide) (he:starEach (e::es) X.env=(false,eval e X.env)::starEach es X.env:=by first | exact CQ | exact Ca | exact C9 | exact CT | exact CU | exact CV | exact DP | rfl) (Dc:(backTo Cw (starEach (e::es) X.env)).any (·.1)=false:=by rfl) :
  SS (X.wish E') (.Raise (some (.Call (.Name x np) (e::es) [] Cw)) none pos) (Mf C E ta):=⟨QZ B hE hg hm hq F hc ha.out E9 he Dc⟩
theorem JQ {v:V}{u:Value}(hg:Gl X x)(hm:X.mg x=some u)(r:RelV v u)(hd:(x==("__debug__":Str))=false:=by decide):SE X (.Name x pos) (tC v):=⟨Hr hg hm r hd⟩
end
end L2
namespace KS
open PySem L2 KM
theorem V1 (t:Kd):decide (V.str (word t)=V.str "any")=ER t:=by
 rw [Bool.eq_iff_iff,decide_eq_true_iff,V.str.injEq]
 exact QP
theorem An.put {H H':Hp}{a:Addr}{o:HO}(s:An H H')(h:H a=none):An H (upd H' a o):=λb u e=>by
 rw [Aq (AF e h)]
 exact s b u e
theorem An.new {H:Hp}{a:Addr}{o:HO}(h:H a=none):An H (upd H a o):=An.put (An.refl H) h
theorem Paired.app {α β:Type}{F:α->β->Prop}:∀ {a b:List α} {c d:List β},Paired F a c->Paired F b d->Paired F (a++b) (c++d)
 | _,_,_,_,.nil,q=>q
 | _,_,_,_,.cons h t,q=>.cons h (Paired.app t q)
theorem Paired.split {α β:Type}{F:α->β->Prop}:∀ {a b:List α} {c:List β},Paired F (a++b) c->Dn λc1 c2=>c=c1++c2/\Paired F a c1/\Paired F b c2
 | [],_,c,q=>⟨[],c,rfl,.nil,q⟩
 | x::a,b,_,.cons h t=>by
  obtain ⟨c1,c2,e,p1,p2⟩:=Paired.split (a:=a) (b:=b) t
  exact ⟨_::c1,c2,by rw [e];rfl,.cons h p1,p2⟩
theorem Paired.at {α β:Type}{F:α->β->Prop}:∀ {a:List α} {c:List β} {i:Nat} {y:β},Paired F a c->c[i]?=some y->∃ x,a[i]?=some x/\F x y
 | _,_,_,_,.nil,e=>by simp at e
 | _,_,0,_,.cons h _,e=>by simp at e;subst e;exact ⟨_,rfl,h⟩
 | _,_,i+1,y,.cons _ t,e=>by
  obtain ⟨x,h1,h2⟩:=Paired.at (i:=i) t (by simpa using e)
  exact ⟨x,by simpa using h1,h2⟩
theorem Er:16777216=sizeLine:=sizeLine_eq.symm
noncomputable def Mg:Stmt:=.Pass ⟨0,0,0,0⟩
noncomputable def inDef (s:Stmt)(j:Nat):Stmt:=(Ao s).getD j Mg
noncomputable def oF (s:Stmt)(j:Nat):Stmt:=match s with
 | .For _ _ b _ _=>b.getD j Mg
 | _=>Mg
noncomputable def valueOf (s:Stmt):Expr:=match s with
 | .Assign _ v _=>v
 | .Return (some v) _=>v
 | .Expr v _=>v
 | _=>.Constant .none 0 ⟨0,0,0,0⟩
noncomputable def CH (e:Expr):Scope:=match e with
 | .ListComp _ _ sc _=>sc
 | _=>{ kind:=.function,names:=[],isGenerator:=false,isCoroutine:=false }
theorem rev_last (y:V)(c:List V):(y::c).reverse[(y::c).reverse.length - 1]?=some y:=by simp
theorem R5 {σ:St}{H:Hp}{A B:Hp->Prop}(h:A H):IK σ H (λb H1=>if b=true then A H1 else B H1):=by
 unfold IK
 exact Dm h
noncomputable def Eb (H:Hp)(AH:List (Key × V))(m:Int->Option Kd):Prop:=∀ k:Int,(Cy AH (Sum.inl k:Key)=none/\m k=none)\/Dn λv t=>Cy AH (Sum.inl k:Key)=some v/\m k=some t/\BU H t v
theorem Eb.mono {H H':Hp}{AH:List (Key × V)}{m:Int->Option Kd}(s:Ay H H')(h:Eb H AH m):Eb H' AH m:=λk=>by
 rcases h k with z | ⟨v,t,h1,h2,h3⟩
 ·exact .inl z
 ·exact .inr ⟨v,t,h1,h2,BU.mono s h3⟩
theorem R6 {α:Type}{xs:List α}{i:Int}(h0:0<=i)(h1:i < xs.length):∃ v,Na xs i=some v/\v∈xs:=by
 obtain ⟨j,rfl⟩:=Int.eq_ofNat_of_zero_le h0
 have hj:j < xs.length:=by omega
 exact ⟨xs[j],Au (List.getElem?_eq_getElem hj),List.getElem_mem hj⟩
noncomputable def Mh:Sp:=λ_ _ _ _=>False
section
variable {Pr:Program}{w:World}{K:W.Frag}{mg:Str->Option Value}{base:Heap}
theorem Ia {k:Nat}{f:Addr}{fd:FuncData}{ps:List Str}:AI Pr w K mg base BR k f fd ps Mh:=⟨λ_ _ _ _ h=>h.elim,λ_ _ _ _ _ _ _ _ _ _ _ _ _ h=>h.elim⟩
end
theorem V2 {t s:Kd}(h:s∈parts t):dp s < dp t:=by
 cases t <;> simp [parts] at h
 ·rcases h with rfl | rfl <;> simp only [dp] <;> omega
 ·rcases h with rfl | rfl <;> simp only [dp] <;> omega
 ·subst h;simp only [dp];omega
theorem Bc {c A B:Prop}[Decidable c](hc:c)(h:A):if c then A else B:=by
 rw [if_pos hc]
 exact h
theorem AN {c A B:Prop}[Decidable c](hc:¬ c)(h:B):if c then A else B:=by
 rw [if_neg hc]
 exact h
section
variable {X:Cx}
theorem JR:DO X (.type "dict") (λxs H Q=>∃ a AH,xs=[.ref a]/\Rd H a (.dK AH)/\∀ p,H p=none->Q (.ref p) (upd H p (.dK AH))):=by
 intro pins s σ H xs us Q I r h
 obtain ⟨a,AH,rfl,e,q⟩:=h
 obtain ⟨u,rfl,ru⟩:=vals1 r
 obtain rfl:u=Value.ref a:=ru
 exact QK I e λp s' hp I'=>⟨.ref p,_,I',rfl,q p hp⟩
end
theorem R7 {κ:Type}[DecidableEq κ](AH:List (κ × V))(k:κ)(v:V):(putK AH k v).length<=AH.length+1:=by
 unfold putK
 split
 ·rw [List.length_map];omega
 ·simp
theorem Eb.put {H:Hp}{AH:List (Key × V)}{m:Int->Option Kd}{k:Int}{t:Kd}{v:V}(h:Eb H AH m)(hv:BU H t v):Eb H (putK AH (Sum.inl k:Key) v) (λj=>if j=k then some t else m j):=λj=>by
 rw [Kl]
 by_cases e:j=k
 ·subst e
  rw [if_pos rfl]
  exact .inr ⟨v,t,rfl,if_pos rfl,hv⟩
 ·rw [if_neg (λz=>e (Sum.inl.inj z))]
  show (_/\(if j=k then some t else m j)=none)\/Dn λv' t'=>_/\(if j=k then some t else m j)=some t'/\_
  rw [if_neg e]
  exact h j
theorem Eb.nil {H:Hp}:Eb H [] (λ_=>none):=λ_=>.inl ⟨rfl,rfl⟩
end KS
namespace KM
noncomputable def prs:Kd->Kd->Option (List (Int × Kd))
 | .gap k,b=>some [(k,b)]
 | .num,.num=>some []
 | .tru,.tru=>some []
 | .ls a,.ls b=>prs a b
 | .fn a a',.fn b b'=>(prs a b).bind λx=>(prs a' b').map λy=>x++y
 | .pr a a',.pr b b'=>(prs a b).bind λx=>(prs a' b').map λy=>x++y
 | _,_=>none
noncomputable def Jk (l:List (Int × Kd))(k:Int):Option Kd:=l.foldl (λm p=>if p.1=k then some p.2 else m) none
noncomputable def wd (a b:Kd):Bool:=match prs a b with
 | none=>false
 | some l=>l.all λp=>decide (Jk l p.1=some p.2)
theorem F4 {α:Type}{x y:Option (List α)}{l:List α}(h:(x.bind λu=>y.map λv=>u++v)=some l):∃ u v,x=some u/\y=some v/\l=u++v:=by
 cases x with
 | none=>cases h
 | some u =>
  cases y with
  | none=>cases h
  | some v=>exact ⟨u,v,rfl,rfl,(Option.some.inj h).symm⟩
theorem Kx (k:Int):∀ (l:List (Int × Kd)) (m:Option Kd),l.foldl (λm p=>if p.1=k then some p.2 else m) m=m/\(∀ p∈l,p.1≠k)\/∃ p∈l,p.1=k/\l.foldl (λm p=>if p.1=k then some p.2 else m) m=some p.2
 | [],m=>.inl ⟨rfl,λp hp=>by cases hp⟩
 | q::l,m=>by
  rw [List.foldl_cons]
  rcases Kx k l (if q.1=k then some q.2 else m) with ⟨h1,h2⟩ | ⟨p,hp,h1,h2⟩
  ·by_cases e:q.1=k
   ·refine .inr ⟨q,List.mem_cons_self,e,?_⟩
    rw [h1,if_pos e]
   ·refine .inl ⟨by rw [h1,if_neg e],λp hp=>?_⟩
    rcases List.mem_cons.mp hp with rfl | hp
    ·exact e
    ·exact h2 p hp
  ·exact .inr ⟨p,List.mem_cons_of_mem _ hp,h1,h2⟩
theorem OL {l:List (Int × Kd)}{p:Int × Kd}(h:p∈l):∃ q∈l,q.1=p.1/\Jk l p.1=some q.2:=by
 rcases Kx p.1 l none with ⟨_,h2⟩ | ⟨q,hq,h1,h2⟩
 ·exact absurd rfl (h2 p h)
 ·exact ⟨q,hq,h1,h2⟩
theorem Ec:∀ (a b:Kd) (l:List (Int × Kd)),prs a b=some l->l.length<=sz a
 | .gap k,b,l,h=>by cases h;simp [sz]
 | .num,b,l,h=>by cases b <;> first | (cases h;simp [sz]) | cases h
 | .tru,b,l,h=>by cases b <;> first | (cases h;simp [sz]) | cases h
 | .ls a,b,l,h=>by
  cases b with
  | ls b=>have:=Ec a b l h;simp only [sz];omega
  | _=>cases h
 | .fn a a',b,l,h=>by
  cases b with
  | fn b b' =>
   obtain ⟨u,v,h1,h2,rfl⟩:=F4 h
   have i1:=Ec a b u h1
   have i2:=Ec a' b' v h2
   simp only [sz,List.length_append];omega
  | _=>cases h
 | .pr a a',b,l,h=>by
  cases b with
  | pr b b' =>
   obtain ⟨u,v,h1,h2,rfl⟩:=F4 h
   have i1:=Ec a b u h1
   have i2:=Ec a' b' v h2
   simp only [sz,List.length_append];omega
  | _=>cases h
theorem FJ:∀ (a b:Kd) (l:List (Int × Kd)),prs a b=some l->∀ p∈l,dp p.2<=dp b
 | .gap k,b,l,h,p,hp=>by cases h;rw [List.mem_singleton.mp hp];exact Nat.le_refl _
 | .num,b,l,h,p,hp=>by cases b <;> first | (cases h;cases hp) | cases h
 | .tru,b,l,h,p,hp=>by cases b <;> first | (cases h;cases hp) | cases h
 | .ls a,b,l,h,p,hp=>by
  cases b with
  | ls b=>have:=FJ a b l h p hp;simp only [dp];omega
  | _=>cases h
 | .fn a a',b,l,h,p,hp=>by
  cases b with
  | fn b b' =>
   obtain ⟨u,v,h1,h2,rfl⟩:=F4 h
   rcases List.mem_append.mp hp with hp | hp
   ·have:=FJ a b u h1 p hp;simp only [dp];omega
   ·have:=FJ a' b' v h2 p hp;simp only [dp];omega
  | _=>cases h
 | .pr a a',b,l,h,p,hp=>by
  cases b with
  | pr b b' =>
   obtain ⟨u,v,h1,h2,rfl⟩:=F4 h
   rcases List.mem_append.mp hp with hp | hp
   ·have:=FJ a b u h1 p hp;simp only [dp];omega
   ·have:=FJ a' b' v h2 p hp;simp only [dp];omega
  | _=>cases h
end KM
namespace PySem
namespace F
theorem dp_entry_list_ga:entryFor table "list.__getattribute__"=some Builtin.«object.__getattribute__» :=
 entryFor_alias (id':="object.__getattribute__") (by kernel_rfl) (by decide +kernel) (by decide +kernel) (by kernel_rfl)
theorem dp_list_getattr_none:typeLookup (.type "list") "__getattr__"=pure none:=by rw [typeLookup_type,builtinLookup_eq_fast];kernel_rfl
theorem dp_list_keys:typeLookup (.type "list") "keys"=pure none:=by rw [typeLookup_type,builtinLookup_eq_fast];kernel_rfl
theorem dp_entry_loop:entryFor table "dict.update.loop"=some Builtin.«dict.update.loop»:=entryFor_of_tree (by kernel_rfl)
theorem dp_plain_loop:plainId "dict.update.loop"=true:=by decide +kernel
end F
theorem V3 (a:Addr)(items:Array Value)(n:Nat)(sl:Array (Option Value))(u:Tok)(hsz:("keys":Str).length+100<=sizeLine:=by size_fits):
  Meets (Builtin.«object.__getattribute__» ⟨[.ref a,.str "keys" u],[]⟩) (λA R s=>s.heap.get? a=some ⟨.type "list",none,.seq items n,sl⟩/\raisesAttr (.ref a) "keys" A R s) :=
 Meets.of_wp λprog w A R s hs=>by
  obtain ⟨hp,g,d,tk,os⟩:=s
  obtain ⟨hl,hs⟩:=hs
  have hT:(⟨hp,g,d,tk,os⟩:Shared).TypeIs (.ref a) "list":=⟨_,hl,rfl⟩
  have f1:=F.dp_list_keys
  unfold Builtin.«object.__getattribute__»
  repeat (any_goals (first | assumption | wp_step))
  exact wpAny_raiseAttrError hs.1 hs.2 (attrMsg_fits (by decide +kernel) hsz)
section
variable {prog:Program}{w:World}{A:Around}{E:Value->Shared->Prop}{s:Shared}
theorem OM {a:Addr}{items:Array Value}{n:Nat}{sl:Array (Option Value)}{Q:Option Value->Shared->Prop}(hA:A.handled=none)(hl:s.heap.get? a=some ⟨.type "list",none,.seq items n,sl⟩)
  (h:∀ h' tk,(∀ b o,s.heap.get? b=some o->h'.get? b=some o)->Q none { s with heap:=h',toks:=tk }):wpAny (model prog w) A (getAttr? (.ref a) "keys") Q E s:=by
 obtain ⟨hp,g,d,tk,os⟩:=s
 have hT:(⟨hp,g,d,tk,os⟩:Shared).TypeIs (.ref a) "list":=⟨_,hl,rfl⟩
 have f1:=sub_AttributeError
 have f3:=F.slot_list_getattribute.lookup
 have f4:=F.slot_list_getattribute.bind (.ref a)
 have f5:=F.dp_list_getattr_none
 unfold getAttr? getAttrBy? getAttrBy
 repeat (any_goals (first | assumption | ((with_reducible show wpAny _ _ (call (Value.builtin "list.__getattribute__") _ _) _ _ _);refine call_meets F.slot_list_getattribute ⟨_,hl,rfl⟩ F.dp_entry_list_ga (F.args_list_getattribute_2 _ _) (V3 a items n sl _) ⟨hl,hA,λh' tk' e hx=>?_⟩) | wp_step))
 obtain ⟨t',u',he⟩:=hx.there
 show wpAny _ _ (getattributeRaised _ _ _ _ _ _ _) _ _ _
 unfold getattributeRaised
 repeat (any_goals (first | assumption | wp_step))
 all_goals exact h _ _ hx.keeps
noncomputable def Mi {K:Type}[DecidableEq K](key:Nat->K)(vu:Nat->Value):Nat->List (K × Value)
 | 0=>[]
 | i+1=>stored (Mi key vu i) (key i) (vu i)
theorem Ky {K:Type}[DecidableEq K](key:Nat->K)(vu:Nat->Value):∀ i,(Mi key vu i).length<=i
 | 0=>Nat.le_refl _
 | i+1=>by
  have ih:=Ky key vu i
  show (stored _ _ _).length<=_
  unfold stored
  split
  ·rw [List.length_map];omega
  ·rw [List.length_append,List.length_singleton];omega
theorem V4 {K:Type}[DecidableEq K]{knd:KeyKind prog w K}{R:Result->Shared->Prop}{I:Addr}{fp wr:List Addr}{G:Array GenState->Array GenState->Prop}{n:Nat}{P:Nat->Value->Prop}{St:Nat->Shared->Prop}
  (W:WalksS prog w A.in1 I fp wr G n P St) (D:Addr) (hDf:D∉fp) (ps:Nat->Addr) (key:Nat->K) (ku vu:Nat->Value) (hP:∀ i v,P i v->v=.ref (ps i)) (hk:∀ i,i < n->knd.is (key i) (ku i)=true)
  (hD:∀ i,i < n->ps i≠D) (hw:∀ i,i < n->ps i∉wr) (hz:n<=sizeLine) :
  ∀ (k i:Nat) (s:Shared) (z:Int) (tz:Tok),n - i=k->i<=n->St i s->(∀ j,j < n->PyProof.Rows.IsTup s.heap (ps j) #[ku j,vu j])->s.heap.DictOf knd D (Mi key vu i) ->
   (∀ s',Moved (D::wr) G s s'->s'.heap.DictOf knd D (Mi key vu n)->R (.ok (.ret .none)) s') ->
   codeAny (model prog w) A (.builtin "dict.update.loop" ⟨[.ref D,.ref I,.int z tz,.none],[]⟩) R s:=by
 have hDw:D∉wr:=λh=>hDf (W.sub _ h)
 have oG:∀ b∈wr,b∈D::wr:=λb hb=>List.mem_cons_of_mem _ hb
 have dmv:∀ {s s':Shared} {AH:List (K × Value)},Moved wr G s s'->s.heap.DictOf knd D AH->s'.heap.DictOf knd D AH:=λ{s s' AH} hm hd=>by
  obtain ⟨o,es,ep,ho,r⟩:=hd
  exact ⟨o,es,ep,hm.heap D _ hDw ho,r⟩
 intro k
 induction k with
 | zero =>
  intro i s z tz hk' hi DM hT hS hR
  obtain rfl:i=n:=by omega
  refine codeAny_builtin F.dp_entry_loop ?_
  rw [Around.under_plainId F.dp_plain_loop _]
  show wpAny _ A.in1 (pyNext (.ref I) >>= _) _ _ s
  refine wpAny_bind (W.done s _ _ DM λs' hm=>?_)
  show wpAny _ A.in1 (Builtin.Dict.addKeywords D [] >>= λ_=>ret Value.none) _ _ s'
  exact wpAny_bind (wpAny_pure (wpAny_pure (hR s' (hm.mono oG) (dmv hm hS))))
 | succ k ih =>
  intro i s z tz hk' hi DM hT hS hR
  have Ef:i < n:=by omega
  refine codeAny_builtin F.dp_entry_loop ?_
  rw [Around.under_plainId F.dp_plain_loop _]
  show wpAny _ A.in1 (pyNext (.ref I) >>= _) _ _ s
  refine wpAny_bind (W.item i s _ _ Ef DM λv s' hv zX hm=>?_)
  obtain rfl:=hP i v hv
  have oI:=dmv hm hS
  have hT':∀ j,j < n->PyProof.Rows.IsTup s'.heap (ps j) #[ku j,vu j]:=λj hj=>by
   obtain ⟨o,ho,r⟩:=hT j hj
   exact ⟨o,hm.heap _ _ (hw j hj) ho,r⟩
  show wpAny _ A.in1 (holding [Value.ref (ps i)] _ >>= λ_=>again _) _ _ s'
  refine wpAny_bind (wpAny_holding (wpAny_bind (wpAny_tryCatch ?_)))
  obtain ⟨o,ho,hc,m,hd⟩:=hT' i Ef
  unfold Builtin.Dict.pairItems
  refine wpAny_bind (wpAny_typeOf (T:="tuple") ⟨o,ho,hc⟩ ?_)
  rw [if_pos ⟨⟩]
  refine wpAny_bind (wpAny_seqItems ho hd (wpAny_pure ?_))
  show wpAny _ A.in1 (holding [ku i,vu i] (dictSet D (ku i) (vu i))) _ _ s'
  refine wpAny_holding (wpAny_dictSet_pairs (hk i Ef) oI (λh' PL FK=>?_) (Nat.le_trans (Ky key vu i) ()))
  refine wpAny_pure ⟨plainId_quiet F.dp_plain_loop _,ih (i+1) _ _ _ () Ef (W.frame _ s' _ _ zX (Nat.le_succ _) λb hb o e=>?_) (λj hj=>?_) PL λZF zY zZ=>?_⟩
  ·exact (FK.2 b (λq:b=D=>hDf (by rw [<- q];exact hb))).trans e
  ·obtain ⟨o,ho,r⟩:=hT' j hj
   exact ⟨o,(FK.2 _ (hD j hj)).trans ho,r⟩
  ·refine hR ZF (Moved.trans W.gtrans ((hm.mono oG).then_heap (Nat.le_succ _) λb o hb e=>?_) zY) zZ
   exact (FK.2 b (λq:b=D=>hb (by rw [q];exact List.mem_cons_self))).trans e
theorem V5 {K:Type}[DecidableEq K]{knd:KeyKind prog w K}{l:Addr}{items:Array Value}{n0:Nat}{sl:Array (Option Value)}{Q:Value->Shared->Prop}(hh:A.handled=none)(hl:s.heap.get? l=some ⟨.type "list",none,.seq items n0,sl⟩)
  (ps:Nat->Addr) (key:Nat->K) (ku vu:Nat->Value) (hP:∀ (i:Nat) (v:Value),items[i]?=some v->v=Value.ref (ps i)) (hk:∀ i,i < items.size->knd.is (key i) (ku i)=true) (hT:∀ j,j < items.size->PyProof.Rows.IsTup s.heap (ps j) #[ku j,vu j]) (hz:items.size<=sizeLine)
  (h:∀ h' tk,h'.DictOf knd s.heap.objs.size (Mi key vu items.size)->(∀ b o,s.heap.get? b=some o->h'.get? b=some o)->Q (.ref s.heap.objs.size) { s with heap:=h',toks:=tk }) :
  wpAny (model prog w) A (call (.type "dict") [.ref l]) Q E s:=by
 refine callType_codes (Q₁:=λobj s₁=>obj=.ref s.heap.objs.size/\s₁={ s with heap:=s.heap.push { cls:=.type "dict",data:=.dict #[] } }) F.kt_called_dict (F.kt_typeCall_dict_1 _) F.entry_dict_init (kt_code_dict_new _ ⟨rfl,rfl⟩) ?_
 rintro obj s₁ ⟨rfl,rfl⟩
 have Qy:(s.heap.push { cls:=.type "dict",data:=.dict #[] }).DictOf knd s.heap.objs.size []:=Heap.DictOf.new s.heap
 have ON:(s.heap.push { cls:=.type "dict",data:=.dict #[] }).get? l=some ⟨.type "list",none,.seq items n0,sl⟩:=Heap.get?_push_of_some _ hl
 refine ⟨Qy.typeIs,F.args_dict_init_2 _ _,?_⟩
 unfold Builtin.«dict.__init__»
 refine wpAny_bind ?_
 unfold Builtin.Dict.selfAndRest
 refine wpAny_bind (wpAny_notOrdered_dict Qy.typeIs ?_)
 show wpAny _ _ (pure (s.heap.objs.size,[Value.ref l])) _ _ _
 refine wpAny_pure ?_
 show wpAny _ _ (Builtin.Dict.updateFrom "dict.__init__" s.heap.objs.size (.ref l) [] .none) _ _ _
 unfold Builtin.Dict.updateFrom
 refine wpAny_bind (wpAny_typeOf (T:="list") ⟨_,ON,rfl⟩ ?_)
 rw [if_pos ⟨⟩]
 refine wpAny_bind (OM hh ON λh2 tk2 k2=>?_)
 rw [if_pos ⟨⟩]
 refine wpAny_bind (wpAny_rule ?_)
 have Hl:h2.IsList l items:=⟨_,k2 _ _ ON,rfl,n0,rfl⟩
 refine wpAny_bind (wpAny_pyIter_list (s:={ s with heap:=h2,toks:=tk2 }) Hl ?_)
 have big:s.heap.objs.size < h2.objs.size:=Heap.lt_size (k2 s.heap.objs.size _ (Heap.get?_push_size _ rfl))
 have Ef:l < s.heap.objs.size:=Heap.lt_size hl
 have Dc:∀ j,j < items.size->ps j < s.heap.objs.size:=λj hj=>let ⟨o,ho,_⟩:=hT j hj;Heap.lt_size ho
 have W0:=(Walks.list (prog:=prog) (w:=w) (A:=A.in1.in1) (show A.in1.in1.handled=none from hh) h2.objs.size l (Nat.ne_of_lt (Nat.lt_trans Ef big)) items).toS
 refine wpAny_pure ⟨plainId_quiet F.dp_plain_loop _,V4 (knd:=knd) W0 s.heap.objs.size ?_ ps key ku vu hP hk (λj hj=>Nat.ne_of_lt (Dc j hj)) (λj hj=>?_) hz
  items.size 0 _ _ _ rfl (Nat.zero_le _) ⟨⟨_,Heap.get?_push_size _ rfl,rfl,rfl⟩,Hl.push _⟩ (λj hj=>?_) ?_ λs' hm hd=>?_⟩
 ·simp only [List.mem_cons,List.not_mem_nil,or_false,not_or]
  exact ⟨Nat.ne_of_lt big,Nat.ne_of_gt Ef⟩
 ·simp only [List.mem_cons,List.not_mem_nil,or_false]
  exact Nat.ne_of_lt (Nat.lt_trans (Dc j hj) big)
 ·obtain ⟨o,ho,r⟩:=hT j hj
  exact ⟨o,Heap.get?_push_of_some _ (k2 _ _ (Heap.get?_push_of_some _ ho)),r⟩
 ·obtain ⟨o,es,ep,ho,r⟩:=Qy
  exact ⟨o,es,ep,Heap.get?_push_of_some _ (k2 _ _ ho),r⟩
 ·obtain ⟨h',g',d',tk',ZE⟩:=s'
  have eg:g'=s.gens:=hm.gens
  have ed:d'=s.drawn:=hm.drawn
  have eo:ZE=s.os:=hm.os
  subst eg ed eo
  refine ⟨rfl,h h' tk' hd λb o e=>?_⟩
  have hb:=Heap.lt_size e
  refine hm.heap b o ?_ (Heap.get?_push_of_some _ (k2 _ _ (Heap.get?_push_of_some _ e)))
  simp only [List.mem_cons,List.not_mem_nil,or_false,not_or]
  exact ⟨Nat.ne_of_lt hb,Nat.ne_of_lt (Nat.lt_trans hb big)⟩
end
end PySem
namespace KS
open PySem PySem.Spec PyProof.Rows L2 KM
noncomputable def putAll (prs:List (Addr × Key × V)):List (Key × V):=prs.foldl (λm p=>putK m p.2.1 p.2.2) []
theorem putAll_snoc (a:List (Addr × Key × V))(p:Addr × Key × V):putAll (a++[p])=putK (putAll a) p.2.1 p.2.2:=by
 unfold putAll
 rw [List.foldl_append]
 rfl
theorem Mj (prs:List (Addr × Key × V)):(putAll prs).length<=prs.length:=by
 have:∀ (prs:List (Addr × Key × V)) (m:List (Key × V)),(prs.foldl (λm p=>putK m p.2.1 p.2.2) m).length<=m.length+prs.length:=by
  intro prs
  induction prs with
  | nil=>intro m;simp
  | cons p r ih =>
   intro m
   have h1:=ih (putK m p.2.1 p.2.2)
   have h2:=R7 m p.2.1 p.2.2
   simp only [List.foldl_cons,List.length_cons]
   omega
 have:=this prs []
 simpa [putAll] using this
theorem Xv {prs:List (Addr × Key × V)}{vu:Nat->Value}(hv:∀ (j:Nat) p,prs[j]?=some p->RelV p.2.2 (vu j)){key:Nat->Key}(hk:∀ (j:Nat) p,prs[j]?=some p->p.2.1=key j):
  ∀ i,i<=prs.length->KV (putAll (prs.take i)) (Mi key vu i)
 | 0,_=>.nil
 | i+1,h=>by
  have ih:=Xv hv hk i ()
  have e:prs[i]?=some (prs[i]'()):=List.getElem?_eq_getElem ()
  rw [List.take_add_one,e]
  show KV (putAll (prs.take i++[prs[i]])) (stored (Mi key vu i) (key i) (vu i))
  rw [putAll_snoc,<- hk i _ e]
  exact ih.put _ (hv i _ e)
section
variable {X:Cx}
theorem IL (hc:X.calm=true):DO X (.type "dict") (λxs H Q=>∃ (l:Addr) (prs:List (Addr × Key × V)),xs=[.ref l]/\H l=some (.lst (prs.map λp=>V.ref p.1))/\(∀ p∈prs,H p.1=some (.tup [kV p.2.1,p.2.2]))/\∀ d,H d=none->Q (.ref d) (upd H d (.dK (putAll prs)))):=by
 intro pins s σ H xs us Q I r h
 obtain ⟨l,prs,rfl,hl,hp,q⟩:=h
 obtain ⟨u,rfl,ru⟩:=vals1 r
 obtain rfl:u=Value.ref l:=ru
 obtain ⟨hz,its,n0,rv,e⟩:=(show Bk X.prog X.w H s.heap l (.lst (prs.map λp=>V.ref p.1)) from I.hok l _ hl)
 rw [List.length_map] at hz
 have hlen:=rv.length
 rw [List.length_map] at hlen
 have hT:∀ j,j < prs.length->∃ ku vu,∀ p,prs[j]?=some p->IsTup s.heap p.1 #[ku,vu]/\RelV (kV p.2.1) ku/\RelV p.2.2 vu:=λj hj=>by
  have e1:prs[j]?=some (prs[j]'hj):=List.getElem?_eq_getElem hj
  obtain ⟨_,II,r2,o,h1,h2,m,h3⟩:=(show Bk X.prog X.w H s.heap (prs[j]'hj).1 (.tup [kV (prs[j]'hj).2.1,(prs[j]'hj).2.2]) from I.hok _ _ (hp _ (List.getElem_mem hj)))
  obtain ⟨ku,vu,rfl,rk,rvv⟩:=vals2 r2
  refine ⟨ku,vu,λp ep=>?_⟩
  rw [e1] at ep
  cases ep
  exact ⟨⟨o,h1,h2,m,h3⟩,rk,rvv⟩
 let ku:Nat->Value:=λj=>if h:j < prs.length then Classical.choose (hT j h) else .none
 let vu:Nat->Value:=λj=>if h:j < prs.length then Classical.choose (Classical.choose_spec (hT j h)) else .none
 have xK:∀ (j:Nat) p,prs[j]?=some p->IsTup s.heap p.1 #[ku j,vu j]/\RelV (kV p.2.1) (ku j)/\RelV p.2.2 (vu j):=λj p ep=>by
  have hj:j < prs.length:=(List.getElem?_eq_some_iff.mp ep).1
  have z:=Classical.choose_spec (Classical.choose_spec (hT j hj)) p ep
  have e1:ku j=Classical.choose (hT j hj):=dif_pos hj
  have e2:vu j=Classical.choose (Classical.choose_spec (hT j hj)):=dif_pos hj
  rw [e1,e2]
  exact z
 let ps:Nat->Addr:=λj=>(prs[j]?.map (·.1)).getD 0
 let key:Nat->Key:=λj=>(prs[j]?.map (·.2.1)).getD (Sum.inl 0)
 have Xw:∀ (j:Nat) p,prs[j]?=some p->ps j=p.1:=λj p ep=>by
  show (prs[j]?.map (·.1)).getD 0=_
  rw [ep];rfl
 have Uk:∀ (j:Nat) p,prs[j]?=some p->key j=p.2.1:=λj p ep=>by
  show (prs[j]?.map (·.2.1)).getD _=_
  rw [ep];rfl
 have szE:its.toArray.size=prs.length:=by rw [List.size_toArray,hlen]
 refine V5 (knd:=Bm X.prog X.w) (I.ok.hd hc) e ps key ku vu (λi v hv=>?_) (λi hi=>?_) (λi hi=>?_) () λh' tk hd hk=>?_
 ·have Ul:its[i]?=some v:=by simpa using hv
  have hi:i < its.length:=(List.getElem?_eq_some_iff.mp Ul).1
  have e1:prs[i]?=some (prs[i]'()):=List.getElem?_eq_getElem ()
  have e2:(prs.map λp=>V.ref p.1)[i]?=some (V.ref (prs[i]'()).1):=by rw [List.getElem?_map,e1];rfl
  obtain ⟨u,hu,ru⟩:=rv.get e2
  rw [Ul] at hu
  cases hu
  rw [Xw i _ e1]
  exact ru
 ·have Xx:i < prs.length:=by omega
  have e1:prs[i]?=some (prs[i]'Xx):=List.getElem?_eq_getElem Xx
  rw [Uk i _ e1]
  exact G6 (xK i _ e1).2.1
 ·have Xx:i < prs.length:=by omega
  have e1:prs[i]?=some (prs[i]'Xx):=List.getElem?_eq_getElem Xx
  rw [Xw i _ e1]
  exact (xK i _ e1).1
 ·rw [szE] at hd
  have kv:=Xv (prs:=prs) (vu:=vu) (λj p ep=>(xK j p ep).2.2) (key:=key) (λj p ep=>(Uk j p ep).symm) prs.length (Nat.le_refl _)
  rw [List.take_length] at kv
  have hn:H s.heap.objs.size=none:=I.hok.fresh (Nat.le_refl _)
  exact ⟨.ref _,_,I.laid (a:=s.heap.objs.size) (o:=.dK (putAll prs)) (t':=tk) hk (Nat.le_refl _) (JK (Nat.le_trans (Mj prs) hz) (beq_eq_false_iff_ne.mpr (Ne.symm (Nat.ne_of_lt I.big))) kv hd),rfl,q _ hn⟩
end
end KS
namespace L2
open PySem PySem.Spec PyProof.Rows
section
variable {g:TG}{tt:TT}{te:TE}{σ:St}{Fin:List V->Hp->Prop}
theorem OO {K:W.Frag}{a:Addr}{xs:List V}{H:Hp}(Pv:Nat->List V->Hp->Prop)(h0:Pv 0 [] H)(hl:∀ i ys H,Pv i ys H->AZ K H a xs)(hn:xs.length < sizeLine)
  (hy:∀ i ys H,Pv i ys H->ys.length<=i)
  (hs:∀ i x ys H,xs[i]?=some x->Pv i ys H->g x σ H fun σ2 H2=>Ext σ σ2/\tt σ2 H2 λb H3=>if b=true then te σ2 H3 λy H4=>Pv (i+1) (ys++[y]) H4 else Pv (i+1) ys H3)
  (mg:∀ x σ H Q Q',(∀ σ' H',Q σ' H'->Q' σ' H')->g x σ H Q->g x σ H Q') (mt:∀ σ H Q Q',(∀ b H',Q b H'->Q' b H')->tt σ H Q->tt σ H Q') (me:∀ σ H Q Q',(∀ v H',Q v H'->Q' v H')->te σ H Q->te σ H Q')
  (hd:∀ ys H,Pv xs.length ys H->Fin ys H):F2 (Zn K a) H σ g tt te Fin:=by
 refine ⟨λi m ys H=>m=xs.length - i/\i<=xs.length/\Pv i ys H,⟨xs.length,by simp,Nat.zero_le _,h0⟩,?_⟩
 rintro i m ys H ⟨rfl,hi,p⟩
 have q:=hl i ys H p
 have hyl:=hy i ys H p
 refine ⟨(),?_⟩
 by_cases Ef:i < xs.length
 ·refine .inr ⟨⟨xs,xs[i],q,by simp [Ef]⟩,(),λx H' y=>?_⟩
  obtain ⟨e,y⟩:=y
  subst e
  refine mg _ _ _ _ _ (fun σ2 H2 z=>⟨z.1,mt _ _ _ _ (λb H3 z=>?_) z.2⟩) (hs i x ys _ (y xs q) p)
  cases b with
  | true=>exact me _ _ _ _ (λy H4 z=>⟨xs.length - (i+1),(),rfl,Ef,z⟩) z
  | false=>exact ⟨xs.length - (i+1),(),rfl,Ef,z⟩
 ·have e:i=xs.length:=by omega
  subst e
  exact .inl ⟨⟨xs,q,Nat.le_refl _⟩,hd ys H p⟩
end
mutual
inductive IE (H:Hp):PyData->V->Prop
 | non:IE H .none .non
 | bl (b:Bool):IE H (.bool b) (.bl b)
 | int (i:Int):IE H (.int i) (.int i)
 | str (x:Str):IE H (.str x) (.str x)
 | tup {a:Addr} {us:List V} {ds:List PyData}:H a=some (.tup us)->Ib H ds us->IE H (.tuple ds) (.ref a)
 | lst {a:Addr} {us:List V} {ds:List PyData}:H a=some (.lst us)->Ib H ds us->IE H (.list ds) (.ref a)
inductive Ib (H:Hp):List PyData->List V->Prop
 | nil:Ib H [] []
 | cons {d:PyData} {v:V} {ds:List PyData} {us:List V}:IE H d v->Ib H ds us->Ib H (d::ds) (v::us)
end
mutual
theorem IE.reads {P:Program}{w:World}{H:Hp}{h:Heap}(x:E8 P w H h):∀ {d:PyData} {v:V} {u:Value},IE H d v->RelV v u->∃ as,Reads h u d as
 | _,_,_,.non,r=>by cases r;exact ⟨_,.none⟩
 | _,_,_,.bl b,r=>by cases r;exact ⟨_,.bool b⟩
 | _,_,_,.int i,r=>by obtain ⟨t,rfl⟩:=r;exact ⟨_,.int i t⟩
 | _,_,_,.str s,r=>by obtain ⟨t,rfl⟩:=r;exact ⟨_,.str s t⟩
 | _,_,_,.tup e q,r=>by
  cases r
  obtain ⟨_,its,rv,o,h1,h2,n,h3⟩:=(show Bk P w H h _ (.tup _) from x _ _ e)
  obtain ⟨as,ra⟩:=Ib.reads x q rv
  exact ⟨_,.tuple h1 h2 h3 ra⟩
 | _,_,_,.lst e q,r=>by
  cases r
  obtain ⟨_,its,n,rv,h1⟩:=(show Bk P w H h _ (.lst _) from x _ _ e)
  obtain ⟨as,ra⟩:=Ib.reads x q rv
  exact ⟨_,.list h1 rfl rfl ra⟩
theorem Ib.reads {P:Program}{w:World}{H:Hp}{h:Heap}(x:E8 P w H h):∀ {ds:List PyData} {vs:List V} {us:List Value},Ib H ds vs->Vals vs us->∃ as,ReadsAll h us ds as
 | _,_,_,.nil,.nil=>⟨_,.nil⟩
 | _,_,_,.cons q qs,.cons r rs=>by
  obtain ⟨as,ra⟩:=IE.reads x q r
  obtain ⟨bs,rb⟩:=Ib.reads x qs rs
  exact ⟨_,.cons ra rb⟩
end
section
variable {X:Cx}
noncomputable def Aaa:R2:=λx y H Q=>Dn λd d'=>IE H d x/\IE H d' y/\SeqAt.shaped d=true/\SeqAt.shaped d'=true/\Q (.bl (PyData.eqv d d')) H
noncomputable def Xy:R2:=λx y H Q=>Dn λd d'=>IE H d x/\IE H d' y/\SeqAt.shaped d=true/\SeqAt.shaped d'=true/\Q (.bl (!PyData.eqv d d')) H
theorem GQ (hu:X.A.units+64 < cLine):EN X (compareOp .Eq) Aaa:=by
 intro pins s σ H x y v u Q I rx ry h
 obtain ⟨t,t',k1,k2,d1,d2,q⟩:=h
 obtain ⟨as,ra⟩:=IE.reads I.hok k1 rx
 obtain ⟨bs,rb⟩:=IE.reads I.hok k2 ry
 exact eq_dataH ra rb d1 d2 hu (B6 I q rfl)
theorem OQ (hu:X.A.units+64 < cLine):EN X (compareOp .NotEq) Xy:=by
 intro pins s σ H x y v u Q I rx ry h
 obtain ⟨t,t',k1,k2,d1,d2,q⟩:=h
 obtain ⟨as,ra⟩:=IE.reads I.hok k1 rx
 obtain ⟨bs,rb⟩:=IE.reads I.hok k2 ry
 exact ne_dataH ra rb d1 d2 hu (B6 I q rfl)
end
structure xM (X:Cx)(tg:List Expr)(g:U9):Prop where out:nu X tg g
section
variable {X:Cx}{a b e:Expr}{es:List Expr}{ta tb:TE}{p1 p2 pos R8 IP:Pos}
theorem oJ (hu:X.A.units+1 < cLine)(ha:SE X a ta)(hb:SE X b tb)(hm:behindInMarks .In b=false:=by rfl):ST X (.Compare a [.In] [b] pos) (tB (ZQ ta tb)):=⟨Z8 (ZR hu ha.out hb.out) hm⟩
theorem Ic:xM X [] O5:=⟨Ub⟩
theorem Dz {t:TG}{u:U9}(h1:SG X e t)(h2:xM X es u)(hs:(assignEach (e::es) X.env).map (·.2)=assign e X.env::(assignEach es X.env).map (·.2):=by rfl):xM X (e::es) (EW t u):=⟨Qc h1.out h2.out hs⟩
theorem Kz {k:Nat}{t:U9}{n:Nat}(hc:X.calm=true)(h:xM X es t)(hn:(assignEach es X.env).length=n:=by rfl)(DM:(assignEach es X.env).findIdx? (·.1)=none:=by rfl):SG X (.Tuple es k pos) (LA X.K n t):=⟨Zi hc h.out hn DM⟩
theorem GR {scope:Scope}{cl:List (Str × Addr)}{own fr:List Str}{js:List Nat}{elt iter tg:Expr}{ifs:List Expr}{g:TG}{tt:TT}{te:TE}{wi:TI}{i:Nat}{y:Str}{py QL:Pos}(hN:X.N.Nodup)(hy:X.N[i]?=some y)(hx:Loc X.env.scope y)(S:BG X scope cl own fr js)(Fw:X.calm=true)(hi:SI X tg iter wi)
  (hg:∀ C s0 H0 ex,SG (X.cmp scope cl own fr C s0 H0 ex) tg g) (ht:∀ C s0 H0 ex,SF (X.cmp scope cl own fr C s0 H0 ex) ifs tt) (he:∀ C s0 H0 ex,SE (X.cmp scope cl own fr C s0 H0 ex) elt te)
  (QM:swapsWith (.ListComp elt [⟨tg,iter,ifs,0⟩] scope pos) (some (.Name y py)) QL.line X.env=pure true:=by rfl)
  (hf:X.fn y=true\/X.env.scope.names.lookup y=some .local:=by first | exact .inl rfl | exact .inr rfl | assumption)
  (hs:∀ x,foldedSetIterable iter X.env x=pure x:=by intro _;rfl):SS X (.Assign [.Name y py] (.ListComp elt [⟨tg,iter,ifs,0⟩] scope pos) QL) (Mb i own js wi g tt te) :=
 ⟨UP hN hy hx S Fw hi.out (λC s0 H0 ex=>(hg C s0 H0 ex).out) (λC s0 H0 ex=>(ht C s0 H0 ex).out) (λC s0 H0 ex=>(he C s0 H0 ex).out) QM hf hs⟩
end
section
variable {X:Cx}
variable {a b o i value e:Expr}{ta tb td ty tv:TE}{pos pos':Pos}{f:Str}
theorem By (he:SE X e ta)(hb:attributeBase e f X.env (eval e X.env)=eval e X.env:=by rfl):SE X (.Attribute e f pos) (Zx X.K ta f):=⟨Zz he.out hb⟩
theorem E1 (ha:SE X o ta)(hv:SE X value tv)(hs:swapsWith value (some (.Attribute o f pos')) pos.line X.env=pure false:=by rfl):SS X (.Assign [.Attribute o f pos'] value pos) (Up X.K ta tv f):=⟨ZA ha.out hv.out hs⟩
end
theorem R9 {AH:List (Key × V)}{k:Key}{v u:V}(h:Cy AH k=some u):(putK AH k v).map (·.1)=AH.map (·.1):=by
 unfold putK
 rw [En,h]
 rw [if_pos (show (some u).isSome=true from rfl),List.map_map]
 refine List.map_congr_left λp _=>?_
 show (if p.1=k then (p.1,v) else p).1=p.1
 by_cases e:p.1=k
 ·rw [if_pos e]
 ·rw [if_neg e]
theorem Ra (AH:List (Key × V))(k:Key)(v:V):(putK AH k v).length<=AH.length+1/\AH.length<=(putK AH k v).length:=by
 cases e:Cy AH k with
 | none=>rw [Qz _ e,List.length_append];simp
 | some u =>
  have:=congrArg List.length (R9 (v:=v) e)
  simp at this
  omega
section
variable {X:Cx}{pos:Pos}{tg e o i:Expr}{te to ti:TE}{g:TG}{t:Aw6}
theorem oK (he:SE X e te)(hg:SG X tg g)(hs:swapsWithSole [tg] e pos.line X.env=pure false:=by rfl)(hw:swappedStores [tg] e X.env=pure none:=by rfl)
  (h1:(assignEach [tg] X.env).map (·.2)=[assign tg X.env]:=by rfl):SS X (.Assign [tg] e pos) (O6 te g):=⟨Zj he.out hg.out hs hw h1⟩
end
end L2
namespace KG
variable {α:Type}
noncomputable def szs (sz:α->Nat):List α->Nat
 | []=>0
 | t::ts=>sz t+szs sz ts
theorem FH (sz:α->Nat)(a b:List α):szs sz (a++b)=szs sz a+szs sz b:=by
 induction a with
 | nil=>simp [szs]
 | cons t ts ih=>simp only [List.cons_append,szs,ih];omega
variable {kids:α->List α}{sz:α->Nat}
noncomputable def nxt (kids:α->List α):List α->List α
 | []=>[]
 | t::ts=>kids t++ts
noncomputable def oM (kids:α->List α):Nat->List α->List α
 | 0,_=>[]
 | _+1,[]=>[]
 | n+1,t::ts=>t::oM kids n (kids t++ts)
noncomputable def P (kids:α->List α)(sz:α->Nat)(l:List α):List α:=oM kids (szs sz l) l
theorem P_nil:P kids sz []=[]:=rfl
noncomputable def Fo (kids:α->List α):List α->Nat->List α
 | l,0=>l
 | l,j+1=>Fo kids (nxt kids l) j
theorem Np:∀ (j:Nat) (l:List α),Fo kids l (j+1)=nxt kids (Fo kids l j)
 | 0,_=>rfl
 | j+1,l=>by show Fo kids (nxt kids l) (j+1)=_;rw [Np j (nxt kids l)];rfl
theorem Ml:∀ j,Fo kids [] j=[]
 | 0=>rfl
 | j+1=>Ml j
section
variable (hs:∀ t,szs sz (kids t)+1=sz t)
include hs
theorem sz_pos (t:α):0 < sz t:=by have:=hs t;omega
theorem szs_nxt (t:α)(ts:List α):szs sz (nxt kids (t::ts))+1=szs sz (t::ts):=by
 simp only [nxt,FH,szs]
 have:=hs t
 omega
theorem P_cons (t:α)(ts:List α):P kids sz (t::ts)=t::P kids sz (kids t++ts):=by
 have e:=szs_nxt hs t ts
 unfold P
 rw [<- e]
 rfl
theorem P_len:∀ (n:Nat) (l:List α),szs sz l=n->(P kids sz l).length=n
 | 0,[],_=>rfl
 | 0,t::ts,h=>by have:=sz_pos hs t;simp only [szs] at h;omega
 | n+1,[],h=>by simp [szs] at h
 | n+1,t::ts,h=>by
  have e:=szs_nxt hs t ts
  rw [P_cons hs,List.length_cons,P_len n (kids t++ts) (by show szs sz (nxt kids (t::ts))=n;omega)]
theorem P_one (t:α):(P kids sz [t]).length=sz t:=by
 have:=P_len hs _ [t] rfl
 simpa [szs] using this
theorem Xz:∀ (j:Nat) (l:List α),(P kids sz l)[j]?=(Fo kids l j).head?
 | 0,[]=>rfl
 | 0,t::ts=>by rw [P_cons hs];rfl
 | j+1,[]=>by show (P kids sz [])[j+1]?=(Fo kids [] j).head?;rw [Ml,P_nil];rfl
 | j+1,t::ts=>by
  rw [P_cons hs]
  show (P kids sz (kids t++ts))[j]?=(Fo kids (nxt kids (t::ts)) j).head?
  exact Xz j _
theorem Fo_size:∀ (j:Nat) (l:List α),szs sz (Fo kids l j)=szs sz l - j
 | 0,_=>rfl
 | j+1,[]=>by rw [Ml];simp [szs]
 | j+1,t::ts=>by
  show szs sz (Fo kids (nxt kids (t::ts)) j)=_
  rw [Fo_size j]
  have:=szs_nxt hs t ts
  omega
theorem Rb {l:List α}(h:szs sz l=0):l=[]:=by
 cases l with
 | nil=>rfl
 | cons t ts=>have:=sz_pos hs t;simp only [szs] at h;omega
theorem Fo_step {l:List α}{j:Nat}{x:α}(h:(P kids sz l)[j]?=some x):∃ r,Fo kids l j=x::r/\Fo kids l (j+1)=kids x++r:=by
 rw [Xz hs] at h
 cases e:Fo kids l j with
 | nil=>rw [e] at h;cases h
 | cons y r =>
  rw [e] at h
  cases h
  exact ⟨r,rfl,by rw [Np,e];rfl⟩
theorem Fo_end (l:List α):Fo kids l (szs sz l)=[]:=Rb hs (by rw [Fo_size hs];omega)
theorem szs_len (l:List α):l.length<=szs sz l:=by
 induction l with
 | nil=>simp [szs]
 | cons t ts ih=>have:=sz_pos hs t;simp only [szs,List.length_cons];omega
theorem kids_len (t:α):(kids t).length < sz t:=by
 have h1:=szs_len hs (kids t)
 have h2:=hs t
 omega
theorem P_mem_sz:∀ (n:Nat) (l:List α) (d:α),szs sz l=n->d∈P kids sz l->sz d<=szs sz l
 | 0,[],d,_,h=>by cases h
 | 0,t::ts,d,h,_=>by have:=sz_pos hs t;simp only [szs] at h;omega
 | n+1,[],d,h,_=>by simp [szs] at h
 | n+1,t::ts,d,h,hm=>by
  have e:=szs_nxt hs t ts
  rw [P_cons hs] at hm
  rcases List.mem_cons.mp hm with z | z
  ·rw [z];simp only [szs];omega
  ·have:=P_mem_sz n (kids t++ts) d (by show szs sz (nxt kids (t::ts))=n;omega) z
   have e2:szs sz (kids t++ts)=szs sz (nxt kids (t::ts)):=rfl
   omega
end
end KG
namespace L2
open PySem PySem.Spec PyProof.Rows KS
open PySem.W (fnMade fnX envX CodeHd tabObj makeFunction_K makeFunction_hit nestDef_K FnAt callWith_F)
noncomputable def Cal (K:W.Frag)(fd:FuncData)(f:Addr)(H:Hp):Prop:=W.keepIn K (.ref f)=true\/∃ fo:Obj,fo.data=.func fd/\H f=some (xF f fo)
section
variable {X:Cx}{k:Nat}{f:Addr}{fd:FuncData}{ps:List Str}{sp:Sp}{x:Str}{p pos:Pos}{e:Expr}{es:List Expr}{t:TA}{i:Nat}
noncomputable def Rc (K:W.Frag)(fd:FuncData)(sp:Sp)(i:Nat)(f:Addr)(t:TA):TE:=fun σ H Q=>σ[i]?=some (some (.ref f))/\Cal K fd f H/\t σ H λvs H1=>Cal K fd f H1/\sp vs H1 Q E0
theorem Rf (F:AI X.prog X.w X.K X.mg X.base BR k f fd ps sp)(hr:AY k X.A)(hb:Binds X.K fd ps [])(hN:X.N[i]?=some x)(hv:Xb X.env.scope x)(ha:PA X (e::es) t)
  (hd:(x==("__debug__":Str))=false:=by decide) (JD:(x==("__classdict__":Str))=false:=by decide)
  (he:starEach (e::es) X.env=(false,eval e X.env)::starEach es X.env:=by rfl) (Dc:(backTo pos (starEach es X.env)).any (·.1)=false:=by rfl) :
  PE X (.Call (.Name x p) (e::es) [] pos) (Rc X.K fd sp i f t):=by
 intro pins s σ H Q I h
 obtain ⟨V6,hf1,h⟩:=h
 refine wpAny_Call_Name_kw (BA ((Lx (pos:=p) hN hv hd JD) pins s σ H (λw G=>w=.ref f/\G=H) I ⟨_,V6,rfl,rfl⟩) λu s1 q1=>?_)
 obtain ⟨y,H1,I1,r1,ey,eH⟩:=q1
 subst ey eH
 obtain rfl:u=Value.ref f:=r1
 have hz:∀ us:List Value,us++[]=us:=λus=>List.append_nil us
 rcases hf1 with hk | ⟨fo,UK,hf1⟩
 ·refine W.callWith_K (h₀:=X.base) I.ok.mod.kin hk (BA (ha pos pins s1 σ H1 _ I1 h) λus s2 q2=>?_) he Dc
  obtain ⟨vs,H2,I2,r2,hf2,q2⟩:=q2
  refine ⟨I2.kIn,?_⟩
  exact FF (us:=us) (dvs:=[]) (ds:=[]) F hr hb .nil He I2 r2 (by rw [List.append_nil];exact q2)
 ·have at':∀ {s:Shared} {H:Hp},Inv X pins σ H s->Cal X.K fd f H->FnAt f s.heap\/W.keepIn X.K (.ref f)=true:=λ{s H} J z=>by
   rcases z with z | ⟨fo,UK,z⟩
   ·exact .inr z
   ·have g:=xF.get J.hok z
    obtain ⟨oc,od,da,sl⟩:=fo
    have Aae:da=.func fd:=UK
    subst Aae
    exact .inl ⟨oc,od,fd,sl,g⟩
  by_cases hk:W.keepIn X.K (.ref f)=true
  ·refine W.callWith_K (h₀:=X.base) I.ok.mod.kin hk (BA (ha pos pins s1 σ H1 _ I1 h) λus s2 q2=>?_) he Dc
   obtain ⟨vs,H2,I2,r2,hf2,q2⟩:=q2
   exact ⟨I2.kIn,FF (us:=us) (dvs:=[]) (ds:=[]) F hr hb .nil He I2 r2 (by rw [List.append_nil];exact q2)⟩
  ·refine callWith_F ((at' I1 (.inr ⟨fo,UK,hf1⟩)).resolve_right hk) (BA (ha pos pins s1 σ H1 _ I1 h) λus s2 q2=>?_) he Dc
   obtain ⟨vs,H2,I2,r2,hf2,q2⟩:=q2
   exact ⟨(at' I2 hf2).resolve_right hk,FF (us:=us) (dvs:=[]) (ds:=[]) F hr hb .nil He I2 r2 (by rw [List.append_nil];exact q2)⟩
theorem Nq (F:AI X.prog X.w X.K X.mg X.base BR k f fd ps sp)(hr:AY k X.A)(hb:Binds X.K fd ps [])(hN:X.N[i]?=some x)(hv:Xb X.env.scope x)(ha:SA X (e::es) t)
  (hd:(x==("__debug__":Str))=false:=by decide) (JD:(x==("__classdict__":Str))=false:=by decide)
  (he:starEach (e::es) X.env=(false,eval e X.env)::starEach es X.env:=by first | exact CQ | exact Ca | exact C9 | exact CT | exact CU | exact CV | exact DP | rfl) (Dc:(backTo pos (starEach es X.env)).any (·.1)=false:=by rfl) :
  SE X (.Call (.Name x p) (e::es) [] pos) (Rc X.K fd sp i f t):=⟨Rf F hr hb hN hv ha.out hd JD he Dc⟩
theorem Rg (hg:Gl X x)(hm:X.mg x=some (.ref f))(hd:(x==("__debug__":Str))=false:=by decide):SE X (.Name x pos) (tC (.ref f)):=⟨Hr (v:=.ref f) hg hm rfl hd⟩
end
theorem JS {R:List Value->Prop}(h:∀ a0,R [a0]):∀ us:List Value,us.length=1->R us
 | [a0],_=>h a0
theorem Cd {R:List Value->Prop}(h:∀ a0 a1,R [a0,a1]):∀ us:List Value,us.length=2->R us
 | [a0,a1],_=>h a0 a1
theorem KA {R:List Value->Prop}(h:∀ a0 a1 a2,R [a0,a1,a2]):∀ us:List Value,us.length=3->R us
 | [a0,a1,a2],_=>h a0 a1 a2
theorem V7 {R:List Value->Prop}(h:∀ a0 a1 a2 a3,R [a0,a1,a2,a3]):∀ us:List Value,us.length=4->R us
 | [a0,a1,a2,a3],_=>h a0 a1 a2 a3
theorem V8 {R:List Value->Prop}(h:∀ a0 a1 a2 a3 a4,R [a0,a1,a2,a3,a4]):∀ us:List Value,us.length=5->R us
 | [a0,a1,a2,a3,a4],_=>h a0 a1 a2 a3 a4
theorem aE {R:List Value->Prop}(h:∀ a0 a1 a2 a3 a4 a5 a6,R [a0,a1,a2,a3,a4,a5,a6]):∀ us:List Value,us.length=7->R us
 | [a0,a1,a2,a3,a4,a5,a6],_=>h a0 a1 a2 a3 a4 a5 a6
end L2
namespace L2
open PySem PySem.Spec PyProof.Rows KS
noncomputable def Mm (n:Nat)(o:HO)(H1:Hp)(Q:VK):Prop:=n<=sizeLine/\∀ p,H1 p=none->Q (.ref p) (upd H1 p o)
section
variable {σ:St}{H:Hp}{Q:VK}{QB:Bool->Hp->Prop}{D:Ends}
theorem JT {i:Nat}{v:V}(h:σ[i]?=some (some v))(q:Q v H):Bw i σ H Q:=⟨v,h,q⟩
theorem Mn {v:V}(q:Q v H):tC v σ H Q:=q
theorem oN {r:R2}{ta tb:TE}(q:ta σ H λx H1=>tb σ H1 λy H2=>r x y H2 Q):Ft r ta tb σ H Q:=q
theorem Asq {r:V->Hp->VK->Prop}{ta:TE}(q:ta σ H λx H1=>r x H1 Q):ze r ta σ H Q:=q
theorem KC {C:Int->Int->Prop}{g:Int->Int->V}{i j:Int}(c:C i j)(q:Q (g i j) H):rI C g (.int i) (.int j) H Q:=⟨i,j,rfl,rfl,c,q⟩
theorem Aaf {g:Int->Int->V}{i j:Int}(q:Q (g i j) H):LH g (.int i) (.int j) H Q:=⟨i,j,rfl,rfl,q⟩
theorem Asr {g:Int->V}{i:Int}(q:Q (g i) H):rU g (.int i) H Q:=⟨i,rfl,q⟩
theorem Ie {x y:V}(h:Qj x y=true)(q:Q (.bl (decide (x=y))) H):rEq x y H Q:=⟨h,q⟩
theorem Aag {x y:V}(h:Qj x y=true)(q:Q (.bl (!decide (x=y))) H):rNe x y H Q:=⟨h,q⟩
theorem xN {t:TE}(q:t σ H λx H'=>lM QB x H'):J1 t σ H QB:=q
theorem Ass {t:TE}(q:t σ H λx H'=>lM QB x H'):tB t σ H QB:=q
theorem Ast {b:Bool}{P:Bool->Prop}(q:P b):∃ k,V.bl b=V.bl k/\P k:=⟨b,rfl,q⟩
theorem Asu {b:Bool}(q:QB b H):lM QB (.bl b) H:=⟨b,rfl,q⟩
theorem Aah {t:TT}(q:t σ H λc H1=>QB (!c) H1):Zb t σ H QB:=q
theorem Aai {t u:TT}(q:t σ H λc H1=>if c=true then u σ H1 QB else QB false H1):Za t u σ H QB:=q
theorem Asv {t u:TT}(q:t σ H λc H1=>if c=true then QB true H1 else u σ H1 QB):yX t u σ H QB:=q
theorem Asw {t:TT}{ta tb:TE}(q:t σ H λc H1=>if c=true then ta σ H1 Q else tb σ H1 Q):yY t ta tb σ H Q:=q
theorem xO {ta tb:TE}(q:ta σ H λx H1=>∃ c,x=.bl c/\if c=true then tb σ H1 Q else Q (.bl false) H1):Qa ta tb σ H Q:=q
theorem lY {te:TE}{i:Nat}{u:TS}(q:te σ H λx H1=>u D (σ.set i (some x)) H1):B8 (O6 te (Dg i)) u D σ H:=q
theorem Rh {te:TE}{i:Nat}(q:te σ H λx H1=>D.nx (σ.set i (some x)) H1):O6 te (Dg i) D σ H:=q
theorem lZ {c:TT}{t u:TS}(q:c σ H λb H1=>if b=true then t { D with nx:=u D } σ H1 else u D σ H1):B8 (Lz c t J0) u D σ H:=q
theorem Aaj {c:TT}{t u:TS}(q:c σ H λb H1=>if b=true then t D σ H1 else u D σ H1):Lz c t u D σ H:=q
theorem aF {te:TE}{u:TS}(q:te σ H λ_ H1=>u D σ H1):B8 (MT te) u D σ H:=q
theorem xP {te:TE}(q:te σ H λ_ H1=>D.nx σ H1):MT te D σ H:=q
theorem Aak {te:TE}(q:te σ H D.rt):Ly te D σ H:=q
theorem xQ (q:D.nx σ H):J0 D σ H:=q
theorem Aal {Q:List V->Hp->Prop}(q:Q [] H):Ez σ H Q:=q
theorem xR {te:TE}{t:TA}{Q:List V->Hp->Prop}(q:te σ H λx H1=>t σ H1 λxs H2=>Q (x::xs) H2):BM te t σ H Q:=q
theorem Aam {t:TA}(q:t σ H λxs H1=>Mm xs.length (.tup xs) H1 Q):Us t σ H Q:=q
theorem Aan {t:TA}(q:t σ H λxs H1=>Mm xs.length (.lst xs) H1 Q):Ut t σ H Q:=q
theorem xS {sp:Sp}{E:XK}{t:TA}(q:t σ H λvs H1=>sp vs H1 Q E):DW sp [] E t σ H Q:=by
 have e:(λvs H1=>sp (vs++[]) H1 Q E)=λvs H1=>sp vs H1 Q E:=by funext vs H1;rw [List.append_nil]
 show t σ H λvs H1=>sp (vs++[]) H1 Q E
 rw [e];exact q
theorem Asx {r:List V->Hp->VK->Prop}{t:TA}(q:t σ H λvs H1=>r vs H1 Q):Xk r t σ H Q:=q
theorem AX {K:W.Frag}{p:Addr}{xs:List V}{i:Int}{v:V}(h:AZ K H p xs)(e:Na xs i=some v)(q:Q v H):LV K (.ref p) (.int i) H Q:=⟨p,xs,i,v,rfl,rfl,h,e,q⟩
theorem Ah {K:W.Frag}{p:Addr}{xs:List V}{i:Int}{v:V}(h:AJ K H p xs)(e:Na xs i=some v)(q:Q v H):GF K (.ref p) (.int i) H Q:=⟨p,xs,i,v,rfl,rfl,h,e,q⟩
theorem BH {K:W.Frag}{p:Addr}{xs:List V}{i:Int}(h:AZ K H p xs)(h0:0<=i)(h1:i < xs.length)(q:∀ v,v∈xs->Q v H):LV K (.ref p) (.int i) H Q:=by
 obtain ⟨v,hv,hm⟩:=R6 h0 h1
 exact ⟨p,xs,i,v,rfl,rfl,h,hv,q v hm⟩
end
theorem aG {c:Prop}[Decidable c]{A T R:Prop}(hR:R)(hA:c->R->A):if c then A else (if false=true then T else R):=by
 by_cases h:c
 ·rw [if_pos h];exact hA h hR
 ·rw [if_neg h];exact DH hR
theorem m6 {c:Prop}[Decidable c]{A T R:Prop}(hT:T)(hA:¬ c->T->A):if c then (if true=true then T else R) else A:=by
 by_cases h:c
 ·rw [if_pos h];exact Dm hT
 ·rw [if_neg h];exact hA h hT
theorem KD (n:Nat):((n+1:Nat):Int) - 1=(n:Int):=by omega
theorem BB {n:Nat}(h:n<=16777216):n<=sizeLine:=Er▸h
theorem DI {n:Nat}(h:n < 16777216):n < sizeLine:=Er▸h
end L2
local macro_rules | `(tactic| fail)=>`(tactic| first
 | ((with_reducible refine L2.JT (v:=?v) ?h ?q);(case h=>rfl))
 | with_reducible refine L2.Mn ?_
 | with_reducible refine L2.oN ?_
 | with_reducible refine L2.Asq ?_
 | with_reducible refine L2.Aaf ?_
 | with_reducible refine L2.Asr ?_
 | ((with_reducible refine L2.KC ?c ?q);(case c=>first | exact ⟨⟨⟩,⟨⟩⟩ | decide | exact .inl ⟨⟨⟩,⟨⟩⟩ | exact .inr ⟨⟨⟩,⟨⟩⟩ | exact ⟨⟨⟩,⟨⟩,⟨⟩⟩))
 | ((with_reducible refine L2.Ie ?h ?q);(case h=>rfl))
 | ((with_reducible refine L2.Aag ?h ?q);(case h=>rfl))
 | with_reducible refine L2.xN ?_
 | with_reducible refine L2.Ass ?_
 | with_reducible refine L2.Asu ?_
 | with_reducible refine L2.Ast ?_
 | with_reducible refine L2.Aah ?_
 | with_reducible refine L2.Aai ?_
 | with_reducible refine L2.Asv ?_
 | with_reducible refine L2.Asw ?_
 | with_reducible refine xT ?_
 | with_reducible refine L2.xO ?_
 | with_reducible refine L2.lY ?_
 | with_reducible refine L2.Rh ?_
 | with_reducible refine L2.lZ ?_
 | with_reducible refine L2.Aaj ?_
 | with_reducible refine L2.aF ?_
 | with_reducible refine L2.xP ?_
 | with_reducible refine L2.Aak ?_
 | with_reducible refine xU ?_
 | ((with_reducible refine L2.xQ ?_);dsimp only)
 | with_reducible refine L2.Aal ?_
 | with_reducible refine L2.xR ?_
 | with_reducible refine L2.Aam ?_
 | with_reducible refine L2.Aan ?_
 | with_reducible refine L2.xS ?_
 | with_reducible refine L2.Asx ?_)
local macro_rules | `(tactic| left)=>`(tactic| repeat fail)
namespace L2
open PySem PySem.Spec PyProof.Rows KS
theorem Bz {n:Nat}{H1:Hp}{o:HO}{R:VK}(h:n<=sizeLine)(q:∀ p H2,H1 p=none->An H1 H2->H2 p=some o->R (.ref p) H2):Mm n o H1 R :=
 ⟨h,λp hp=>q p _ hp (An.new hp) Ap⟩
end L2
local macro_rules | `(tactic| intros $p:ident $h:ident $s:ident $e:ident)=>`(tactic| ((refine L2.Bz ?hh fun $p $h hn $s $e=>?qq);(case hh=>first | exact L2.BB (by decide) | (simp only [List.length_cons,List.length_nil];exact L2.BB (by decide)))))
namespace L2
open PySem PySem.Spec PyProof.Rows KS
theorem CI {H:Hp}{Q:VK}{l b:Addr}{xs zs:List V}(hl:H l=some (.lst xs))(hb:H b=some (.lst zs))(hn:xs.length+zs.length<=sizeLine)(q:∀ p H2,H p=none->An H H2->H2 p=some (.lst (xs++zs))->Q (.ref p) H2):LZ (.ref l) (.ref b) H Q :=
 ⟨l,b,xs,zs,rfl,rfl,hl,hb,hn,λp hp=>q p _ hp (An.new hp) Ap⟩
noncomputable def Cl (Pr:Program)(w:World)(K:W.Frag)(mg:Str->Option Value)(base:Heap)(k:Nat)(x:Str)(ps:List Str)(sp:Sp):Prop:=∃ f fd,AI Pr w K mg base BR k f fd ps sp/\W.keepIn K (.ref f)=true/\Binds K fd ps []/\mg x=some (.ref f)
section
variable {X:Cx}{k:Nat}{ps:List Str}{sp:Sp}{x:Str}{p pos:Pos}{e:Expr}{es:List Expr}{t:TA}
theorem B3 (F:Cl X.prog X.w X.K X.mg X.base k x ps sp)(hr:AY k X.A)(hg:Gl X x)(ha:SA X (e::es) t)(E9:(x==("__debug__":Str))=false:=by decide)
  (he:starEach (e::es) X.env=(false,eval e X.env)::starEach es X.env:=by first | exact CQ | exact Ca | exact C9 | exact CT | exact CU | exact CV | exact DP | rfl) (Dc:(backTo pos (starEach es X.env)).any (·.1)=false:=by rfl) :
  SE X (.Call (.Name x p) (e::es) [] pos) (DW sp [] E0 t):=by
 obtain ⟨f,fd,h1,h2,h3,h4⟩:=F
 exact Md h1 hr hg h4 h2 h3 ha E9 he Dc
end
theorem Cl.mono {Pr:Program}{w:World}{K:W.Frag}{mg:Str->Option Value}{base:Heap}{j k:Nat}{x:Str}{ps:List Str}{sp:Sp}(h:j<=k)(F:Cl Pr w K mg base j x ps sp):Cl Pr w K mg base k x ps sp:=by
 obtain ⟨f,fd,h1,h2⟩:=F
 exact ⟨f,fd,h1.mono h,h2⟩
structure Df (K:W.Frag)(mg:Str->Option Value)(x:Str)(st:Stmt)(ps:List Str)(f:Addr)(fd:FuncData):Prop where
 F:Ck K x x st f fd
 b:Binds K fd ps []
 m:mg x=some (.ref f)
theorem Df.cl {Pr:Program}{w:World}{K:W.Frag}{mg:Str->Option Value}{base:Heap}{k:Nat}{x:Str}{st:Stmt}{ps:List Str}{f:Addr}{fd:FuncData}{sp:Sp}(D:Df K mg x st ps f fd)(G:AI Pr w K mg base BR k f fd ps sp):Cl Pr w K mg base k x ps sp:=⟨f,fd,G,D.F.kp,D.b,D.m⟩
noncomputable def Nx (n i:Nat)(Pv:Nat->List V->Hp->Prop)(ys:List V)(H:Hp):Prop:=∃ m,m < n - i/\m=n - (i+1)/\i+1<=n/\Pv (i+1) ys H
theorem Nx.mk {n i:Nat}{Pv:Nat->List V->Hp->Prop}{ys:List V}{H:Hp}(hi:i < n)(h:Pv (i+1) ys H):Nx n i Pv ys H:=⟨n - (i+1),(),rfl,hi,h⟩
section
variable {g:TG}{tt:TT}{te:TE}{σ:St}{Fin:List V->Hp->Prop}{K:W.Frag}{a:Addr}{xs:List V}{H:Hp}
theorem G9 {J:It}{n:Nat}(Pv:Nat->List V->Hp->Prop)(h0:Pv 0 [] H)(hn:n < sizeLine)(hy:∀ i ys H,Pv i ys H->ys.length<=i)
  (hgo:∀ i ys H,i < n->Pv i ys H->J.go i H) (DM:∀ ys H,Pv n ys H->J.stop n H)
  (hs:∀ i ys H x H',i < n->Pv i ys H->J.yld i H x H'->g x σ H' fun σ2 H2=>Ext σ σ2/\tt σ2 H2 λb H3=>if b=true then te σ2 H3 λy H4=>Nx n i Pv (ys++[y]) H4 else Nx n i Pv ys H3)
  (hd:∀ ys H,Pv n ys H->Fin ys H):F2 J H σ g tt te Fin:=by
 refine ⟨λi m ys H=>m=n - i/\i<=n/\Pv i ys H,⟨n,by simp,Nat.zero_le _,h0⟩,?_⟩
 rintro i m ys H ⟨rfl,hi,p⟩
 have hyl:=hy i ys H p
 refine ⟨(),?_⟩
 by_cases Ef:i < n
 ·exact .inr ⟨hgo i ys H Ef p,(),λx H' y=>hs i ys H x H' Ef p y⟩
 ·have e:i=n:=by omega
  subst e
  exact .inl ⟨DM ys H p,hd ys H p⟩
theorem Ga (Pv:Nat->List V->Hp->Prop)(h0:Pv 0 [] H)(hl:∀ i ys H,Pv i ys H->AZ K H a xs)(hn:xs.length < sizeLine)(hy:∀ i ys H,Pv i ys H->ys.length<=i)(e0:σ[0]?=some none)
  (hs:∀ i x ys H,xs[i]?=some x->Pv i ys H->tt (σ.set 0 (some x)) H λb H3=>if b=true then te (σ.set 0 (some x)) H3 λy H4=>Nx xs.length i Pv (ys++[y]) H4 else Nx xs.length i Pv ys H3)
  (hd:∀ ys H,Pv xs.length ys H->Fin ys H):F2 (Zn K a) H σ (Dg 0) tt te Fin :=
 G9 Pv h0 hn hy (λi ys H hi p=>⟨xs,xs[i],hl i ys H p,by simp [hi]⟩) (λys H p=>⟨xs,hl _ ys H p,Nat.le_refl _⟩)
  (λi ys H x H' hi p y=>by
   obtain ⟨rfl,y⟩:=y
   exact ⟨Ext.set e0,hs i x ys _ (y xs (hl i ys _ p)) p⟩) hd
theorem Ri (Pv:Nat->List V->Hp->Prop)(h0:Pv 0 [] H)(hl:∀ i ys H,Pv i ys H->AJ K H a xs)(hn:xs.length < sizeLine)(hy:∀ i ys H,Pv i ys H->ys.length<=i)(e0:σ[0]?=some none)
  (hs:∀ i x ys H,xs[i]?=some x->Pv i ys H->tt (σ.set 0 (some x)) H λb H3=>if b=true then te (σ.set 0 (some x)) H3 λy H4=>Nx xs.length i Pv (ys++[y]) H4 else Nx xs.length i Pv ys H3)
  (hd:∀ ys H,Pv xs.length ys H->Fin ys H):F2 (lN K a) H σ (Dg 0) tt te Fin :=
 G9 Pv h0 hn hy (λi ys H hi p=>⟨xs,xs[i],hl i ys H p,by simp [hi]⟩) (λys H p=>⟨xs,hl _ ys H p,Nat.le_refl _⟩)
  (λi ys H x H' hi p y=>by
   obtain ⟨rfl,y⟩:=y
   exact ⟨Ext.set e0,hs i x ys _ (y xs (hl i ys _ p)) p⟩) hd
theorem Ig {lo:Int}{n:Nat}(Pv:Nat->List V->Hp->Prop)(h0:Pv 0 [] H)(hn:n < sizeLine)(hy:∀ i ys H,Pv i ys H->ys.length<=i)(e0:σ[0]?=some none)
  (hs:∀ i ys H,i < n->Pv i ys H->tt (σ.set 0 (some (.int (lo+i)))) H λb H3=>if b=true then te (σ.set 0 (some (.int (lo+i)))) H3 λy H4=>Nx n i Pv (ys++[y]) H4 else Nx n i Pv ys H3)
  (hd:∀ ys H,Pv n ys H->Fin ys H):F2 (Xe lo n) H σ (Dg 0) tt te Fin :=
 G9 Pv h0 hn hy (λi ys H hi p=>hi) (λys H p=>Nat.le_refl _)
  (λi ys H x H' hi p y=>by
   obtain ⟨rfl,rfl⟩:=y
   exact ⟨Ext.set e0,hs i ys _ hi p⟩) hd
theorem KH {L:It}{n:Nat}(Pv:Nat->List V->Hp->Prop)(h0:Pv 0 [] H)(hn:n < sizeLine)(hy:∀ i ys H,Pv i ys H->ys.length<=i)(e0:σ[0]?=some none)(e1:σ[1]?=some none)
  (hgo:∀ i ys H,i < n->Pv i ys H->L.go i H) (DM:∀ ys H,Pv n ys H->L.stop n H)
  (hs:∀ i ys H x H',i < n->Pv i ys H->L.yld i H x H'->∃ q u v,x=.ref q/\AJ K H' q [u,v]/\tt ((σ.set 0 (some u)).set 1 (some v)) H' λb H3=>if b=true then te ((σ.set 0 (some u)).set 1 (some v)) H3 λy H4=>Nx n i Pv (ys++[y]) H4 else Nx n i Pv ys H3)
  (hd:∀ ys H,Pv n ys H->Fin ys H):F2 L H σ (LA K 2 (EW (Dg 0) (EW (Dg 1) O5))) tt te Fin :=
 G9 Pv h0 hn hy hgo DM (λi ys H x H' hi p y=>by
   obtain ⟨q,u,v,rfl,h1,h2⟩:=hs i ys H x H' hi p y
   refine ⟨q,[u,v],rfl,h1,rfl,u,[v],rfl,v,[],rfl,rfl,⟨by simp,λj z hj=>?_⟩,h2⟩
   cases j with
   | zero=>rw [e0] at hj;cases hj
   | succ j=>cases j with
    | zero=>rw [e1] at hj;cases hj
    | succ j=>simpa using hj) hd
theorem Hz {t u:TS}{D:Ends}(Jn:St->Hp->Prop)(fin:∀ σ' H',Jn σ' H'->u D σ' H')(q:(∀ σ' H',Jn σ' H'->u D σ' H')->B8 t u D σ H):B8 t u D σ H:=q fin
theorem OR {t0 t1 t2 t3 t4 t5 t6 t7 t8 t9 u:TS}{D:Ends}(Jn:St->Hp->Prop)(fin:∀ σ' H',Jn σ' H'->u D σ' H')(q:(∀ σ' H',Jn σ' H'->u D σ' H')->B8 t0 (B8 t1 (B8 t2 (B8 t3 (B8 t4 (B8 t5 (B8 t6 (B8 t7 (B8 t8 (B8 t9 u))))))))) D σ H):B8 t0 (B8 t1 (B8 t2 (B8 t3 (B8 t4 (B8 t5 (B8 t6 (B8 t7 (B8 t8 (B8 t9 u))))))))) D σ H:=q fin
theorem Rj {t0 t1 t2 u:TS}{D:Ends}(Jn:St->Hp->Prop)(fin:∀ σ' H',Jn σ' H'->u D σ' H')(q:(∀ σ' H',Jn σ' H'->u D σ' H')->B8 t0 (B8 t1 (B8 t2 u)) D σ H):B8 t0 (B8 t1 (B8 t2 u)) D σ H:=q fin
theorem Gb {c:TT}{t e u:TS}{D:Ends}(q:c σ H λb H1=>if b=true then t { D with nx:=u D } σ H1 else e { D with nx:=u D } σ H1):B8 (Lz c t e) u D σ H:=q
theorem Aap {QB:Bool->Hp->Prop}(q:QB true H):IK σ H QB:=q
theorem xV {own:List Str}{js:List Nat}{wi:TI}{Q:VK}(q:wi σ H λJ H1=>F2 J H1 (DX own js σ) g tt te λys H2=>Mm 0 (.lst ys) H2 Q):Ni own js wi g tt te σ H Q:=by
 have e:(λys (H2:Hp)=>Mm 0 (.lst ys) H2 Q)=λys H2=>∀ D,H2 D=none->Q (.ref D) (upd H2 D (.lst ys)):=by funext ys H2;exact propext ⟨λh=>h.2,λh=>⟨Nat.zero_le _,h⟩⟩
 rw [e] at q
 exact q
theorem XA {own:List Str}{js:List Nat}{wi:TI}{i:Nat}{u:TS}{D:Ends}(q:wi σ H λJ H1=>F2 J H1 (DX own js σ) g tt te λys H2=>Mm 0 (.lst ys) H2 λv H3=>u D (σ.set i (some v)) H3):B8 (Mb i own js wi g tt te) u D σ H:=by
 have e:(λys (H2:Hp)=>Mm 0 (.lst ys) H2 λv H3=>u D (σ.set i (some v)) H3)=λys H2=>∀ a,H2 a=none->u D (σ.set i (some (.ref a))) (upd H2 a (.lst ys)):=by funext ys H2;exact propext ⟨λh=>h.2,λh=>⟨Nat.zero_le _,h⟩⟩
 rw [e] at q
 exact q
theorem oO {tl:TE}{R:It->Hp->Prop}(q:tl σ H λx H1=>LF K R x H1):MW K tl σ H R:=q
theorem xW {tl:TE}{R:It->Hp->Prop}(q:tl σ H λx H1=>Qf K R x H1):Zo K tl σ H R:=q
theorem C8 {neg:Bool}{x:V}{p:Addr}{ys:List V}{Q:VK}(h:AZ K H p ys\/AJ K H p ys)(fx:EX x=true)(fy:ys.all EX=true)(q:Q (.bl (if neg then !Dh x ys else Dh x ys)) H):xy K neg x (.ref p) H Q:=⟨p,ys,rfl,h,fx,fy,q⟩
end
section
variable {σ:St}{H:Hp}{Q:VK}{K:W.Frag}
theorem oP {td ty tx:TE}(q:td σ H λx H1=>∃ a,x=.ref a/\zt H1 a/\ty σ H1 λy H2=>tx σ H2 λz H3=>∃ o,Eg H3 a y o/\Q (o.getD z) H3):M8 td ty tx σ H Q:=q
theorem xX {td ty:TE}(q:td σ H λx H1=>ty σ H1 λy H2=>M6 Q x y H2):Ng td ty σ H Q:=q
theorem Aaq {td ty:TE}(q:ty σ H λy H1=>td σ H1 λx H2=>QC Q y x H2):ZQ ty td σ H Q:=q
theorem xY {R:List (V × V)->Hp->Prop}(q:R [] H):FG [] σ H R:=q
theorem Aar {tk tv:TE}{r:List (TE × TE)}{R:List (V × V)->Hp->Prop}(q:tk σ H λk H1=>tv σ H1 λv H2=>FG r σ H2 λps H3=>R ((k,v)::ps) H3):FG ((tk,tv)::r) σ H R:=q
theorem HA {Jb:List (TE × TE)}(q:∀ p H1,H p=none->An H H1->H1 p=some (.dK [])->FG Jb σ H1 λps H2=>H2 p=some (.dK [])/\∃ AH:List (Key × V),ps=AH.map (λkv=>(kV kv.1,kv.2))/\AH.length<=15/\∀ H3,(∀ b,b≠p->H3 b=H2 b)->H3 p=some (.dK (Di [] AH))->Q (.ref p) H3):QH Jb σ H Q:=λp hp=>by
 have h:=q p _ hp (An.new hp) Ap
 have e:(λps (H2:Hp)=>H2 p=some (.dK [])/\∃ AH:List (Key × V),ps=AH.map (λkv=>(kV kv.1,kv.2))/\AH.length<=15/\∀ H3,(∀ b,b≠p->H3 b=H2 b)->H3 p=some (.dK (Di [] AH))->Q (.ref p) H3) =
  λps (H2:Hp)=>H2 p=some (.dK [])/\∃ AH:List (Key × V),ps=AH.map (λkv=>(kV kv.1,kv.2))/\AH.length<=15/\Q (.ref p) (upd H2 p (.dK (Di [] AH))):=by
  funext ps H2
  refine propext ⟨?_,?_⟩
  ·rintro ⟨h1,AH,h2,h3,h4⟩
   exact ⟨h1,AH,h2,h3,h4 _ (λb hb=>Aq hb) Ap⟩
  ·rintro ⟨h1,AH,h2,h3,h4⟩
   refine ⟨h1,AH,h2,h3,λH3 a b=>?_⟩
   have:H3=upd H2 p (.dK (Di [] AH)):=by
    funext c
    by_cases hc:c=p
    ·subst hc;rw [b,Ap]
    ·rw [a c hc,Aq hc]
   rw [this];exact h4
 rw [e] at h
 exact h
theorem Asy {r:V->Option Int->Option Int->Hp->VK->Prop}{te:TE}{tl th:TO}(q:te σ H λx H1=>tl σ H1 λl H2=>th σ H2 λu H3=>r x l u H3 Q):xv r te tl th σ H Q:=q
theorem m7 {R:Option Int->Hp->Prop}(q:R none H):Hw σ H R:=q
theorem xZ {t:TE}{R:Option Int->Hp->Prop}(q:t σ H λx H1=>∃ i,x=.int i/\R (some i) H1):N7 t σ H R:=q
theorem Aas {i:Int}{P:Int->Prop}(q:P i):∃ k,V.int i=V.int k/\P k:=⟨i,rfl,q⟩
theorem JU {a:Addr}{xs:List V}{lo hi:Option Int}(h:AJ K H a xs)(n:¬ (HT.sIx xs.length 0 lo=0/\HT.sIx xs.length xs.length hi=xs.length))(q:∀ p H2,H p=none->An H H2->H2 p=some (.tup (D2 xs lo hi))->Q (.ref p) H2):Uy K (.ref a) lo hi H Q:=⟨a,xs,rfl,h,n,λp hp=>q p _ hp (An.new hp) Ap⟩
theorem FL {a:Addr}{xs:List V}{lo hi:Option Int}(h:AZ K H a xs)(q:∀ p H2,H p=none->An H H2->H2 p=some (.lst (D2 xs lo hi))->Q (.ref p) H2):nR K (.ref a) lo hi H Q:=⟨a,xs,rfl,h,λp hp=>q p _ hp (An.new hp) Ap⟩
theorem V9 {a b:Addr}{xs ys:List V}(ha:AJ K H a xs)(hb:AJ K H b ys)(n:xs≠[])(hn:xs.length+ys.length<=sizeLine)(h1:ys=[]->Q (.ref a) H)(h2:∀ p H2,H p=none->An H H2->H2 p=some (.tup (xs++ys))->Q (.ref p) H2):N8 K (.ref a) (.ref b) H Q:=⟨a,b,xs,ys,rfl,rfl,ha,hb,n,hn,h1,λ_ p hp=>h2 p _ hp (An.new hp) Ap⟩
end
end L2
local macro_rules | `(tactic| fail)=>`(tactic| first
 | with_reducible refine L2.oP ?_
 | with_reducible refine L2.xX ?_
 | with_reducible refine L2.Aaq ?_
 | with_reducible refine L2.xY ?_
 | with_reducible refine L2.Aar ?_
 | with_reducible refine L2.Asy ?_
 | with_reducible refine L2.m7 ?_
 | with_reducible refine L2.xZ ?_
 | with_reducible refine L2.Aas ?_)
local macro_rules | `(tactic| fail)=>`(tactic| first
 | with_reducible refine L2.Aap ?_
 | with_reducible refine L2.xV ?_
 | with_reducible refine L2.XA ?_
 | with_reducible refine L2.oO ?_
 | with_reducible refine L2.xW ?_)
namespace L2
open PySem PySem.Spec PyProof.Rows KS
theorem Paired.len {α β:Type}{F:α->β->Prop}{a:List α}{b:List β}(h:Paired F a b):a.length=b.length:=Paired.length h
theorem Paired.at1 {α β:Type}{F:α->β->Prop}:∀ {a:List α} {b:List β} {i:Nat} {x:α},Paired F a b->a[i]?=some x->∃ y,b[i]?=some y/\F x y
 | _,_,_,_,.nil,e=>by simp at e
 | _,_,0,_,.cons r _,e=>by simp at e;subst e;exact ⟨_,rfl,r⟩
 | _,_,i+1,_,.cons _ rs,e=>by
  obtain ⟨y,h1,h2⟩:=Paired.at1 (i:=i) rs (by simpa using e)
  exact ⟨y,by simpa using h1,h2⟩
noncomputable def strOf:Value->Str
 | .str x _=>x
 | _=>Str.empty
noncomputable def Ih:Value->Bool
 | .str _ _=>true
 | _=>false
noncomputable def JV (w:World)(e:DictEntry):DictEntry:=⟨hashStr w (strOf e.key),e.key,e.val⟩
noncomputable def Va (es:List DictEntry):List (Str × Value):=es.map λe=>(strOf e.key,e.val)
structure F5 (w:World)(K:W.Frag)(a:Addr)(rows:List (Str × Value)):Prop where
 ex:∃ es ep,K.lookup a=some ⟨.type "dict",none,.dict es ep,#[]⟩/\es.toList=es.toList.map (JV w)/\(es.toList.all λe=>Ih e.key)=true/\Va es.toList=rows
 nd:(rows.map (·.1)).Nodup
theorem XB {P:Program}{w:World}{K:W.Frag}{a:Addr}{rows:List (Str × Value)}(d:F5 w K a rows){h:Heap}(hk:∀ o,K.lookup a=some o->h.get? a=some o):h.DictOf (Bm P w) a (rows.map λr=>(.inr r.1,r.2)):=by
 obtain ⟨⟨es,ep,hl,hh,ha,rfl⟩,nd⟩:=d
 refine ⟨_,es,ep,hk _ hl,⟨rfl,rfl,rfl⟩,rfl,λe he=>?_,?_,?_⟩
 ·have he':e∈es.toList:=by simpa using he
  have hs:=List.all_eq_true.mp ha e he'
  rw [hh] at he'
  obtain ⟨e0,h0,rfl⟩:=List.mem_map.mp he'
  have FK:Ih e0.key=true:=hs
  obtain ⟨zu,key,val⟩:=e0
  cases key with
  | str x t=>exact ⟨.inr x,EU P w x t,rfl⟩
  | _=>cases FK
 ·generalize es.toList=l at ha
  clear hh hl nd
  induction l with
  | nil=>exact .nil
  | cons e r ih =>
   rw [List.all_cons,Bool.and_eq_true] at ha
   refine .cons ?_ rfl (ih ha.2)
   obtain ⟨zu,key,val⟩:=e
   cases key with
   | str x t=>exact EU P w x t
   | _=>exact (show false=true from ha.1) |> λz=>by cases z
 ·rw [List.map_map]
  have e:(Va es.toList).map (λr=>(Sum.inr r.1:Key))=((Va es.toList).map (·.1)).map Sum.inr:=by rw [List.map_map];rfl
  show ((Va es.toList).map (λr=>(Sum.inr r.1:Key))).Nodup
  rw [e]
  have inj:∀ (l:List Str),l.Nodup->(l.map (Sum.inr:Str->Key)).Nodup:=λl hl=>by
   induction hl with
   | nil=>exact .nil
   | cons h1 h2 ih =>
    refine List.nodup_cons.mpr ⟨λz=>?_,ih⟩
    obtain ⟨y,hy,e⟩:=List.mem_map.mp z
    cases e
    exact h1 _ hy rfl
  exact inj _ nd
noncomputable def rowAt (rows:List (Str × Value))(x:Str):Option Value:=(rows.find? λr=>decide (r.1=x)).map (·.2)
theorem KI (rows:List (Str × Value))(x:Str):valueAt (rows.map λr=>((.inr r.1:Key),r.2)) (.inr x)=rowAt rows x:=by
 unfold valueAt rowAt
 induction rows with
 | nil=>rfl
 | cons r l ih =>
  rw [List.map_cons,List.find?_cons,List.find?_cons]
  by_cases e:r.1=x
  ·have h1:decide ((Sum.inr r.1:Key)=Sum.inr x)=true:=by rw [Lv];exact decide_eq_true e
   rw [h1,decide_eq_true e]
   rfl
  ·have h1:decide ((Sum.inr r.1:Key)=Sum.inr x)=false:=by rw [Lv];exact decide_eq_false e
   rw [h1,decide_eq_false e]
   exact ih
section
variable {X:Cx}{x:Str}{a:Addr}{rows:List (Str × Value)}{i:Expr}{ty:TE}{p pos:Pos}
noncomputable def Rk (rows:List (Str × Value))(ty:TE):TE:=fun σ H Q=>ty σ H λy H1=>∃ (k:Str) (u:Value) (v:V),y=.str k/\rowAt rows k=some u/\RelV v u/\Q v H1
theorem Vb (d:F5 X.w X.K a rows)(hg:Gl X x)(hm:X.mg x=some (.ref a))(hi:PE X i ty)(hs:M0 i)(E9:(x==("__debug__":Str))=false:=by decide):PE X (.Subscript (.Name x p) i pos) (Rk rows ty):=by
 intro pins s σ H Q I h
 refine JL PySem.F.slot_dict_getitem.lookup hs (BA (Hr (v:=.ref a) hg hm rfl E9 pins s σ H (λy H1=>y=.ref a/\H1=H) I ⟨rfl,rfl⟩) λu s1 ⟨x',H1,I1,rx,e1,e2⟩=>?_)
 subst e1 e2
 obtain rfl:u=Value.ref a:=rx
 refine BA (hi pins s1 σ H1 _ I1 h) λiv s2 ⟨y,H2,I2,ry,k,u,v,ey,hk,rv,q⟩=>?_
 subst ey
 have dd:s2.heap.DictOf (Bm X.prog X.w) a (rows.map λr=>(.inr r.1,r.2)):=XB d λo ho=>I2.kIn a o ho
 refine ⟨dd.typeIs,wpAny_getItem_of (G6 (k:=.inr k) ry) dd.mapOf (v:=u) (by rw [KI];exact hk) ⟨v,H2,I2.tok _,rv,q⟩⟩
theorem aH (d:F5 X.w X.K a rows)(hg:Gl X x)(hm:X.mg x=some (.ref a))(hi:SE X i ty)(hs:M0 i)(E9:(x==("__debug__":Str))=false:=by decide):SE X (.Subscript (.Name x p) i pos) (Rk rows ty):=⟨Vb d hg hm hi.out hs E9⟩
variable {CX:Kg}{k:Nat}{ps:List Str}{E:XK}{e:Expr}{es:List Expr}{t:TA}{Nr:List (Str × Sp)}{pn:Pos}
noncomputable def FN (P:Program)(w:World)(K:W.Frag)(mg:Str->Option Value)(base:Heap)(CX:Kg)(k:Nat)(ps:List Str)(rows:List (Str × Value))(Nr:List (Str × Sp)):Prop :=
 ∀ x sp,(x,sp)∈Nr->∃ f fd,rowAt rows x=some (.ref f)/\AI P w K mg base CX k f fd ps sp/\W.keepIn K (.ref f)=true/\Binds K fd ps []
noncomputable def Mp (Nr:List (Str × Sp))(E:XK)(ty:TE)(t:TA):TE:=fun σ H Q=>ty σ H λy H1=>∃ (x:Str) (sp:Sp),y=.str x/\(x,sp)∈Nr/\t σ H1 λvs H2=>sp vs H2 Q E
theorem Rl (d:F5 X.w X.K a rows)(R:FN X.prog X.w X.K X.mg X.base CX k ps rows Nr)(hx:Passes CX X E)(hr:AY k X.A)(hg:Gl X x)(hm:X.mg x=some (.ref a))(hi:PE X i ty)(hs:M0 i)(ha:PA X (e::es) t)(E9:(x==("__debug__":Str))=false:=by decide)
  (he:starEach (e::es) X.env=(false,eval e X.env)::starEach es X.env:=by rfl) (Dc:(backTo pos (starEach es X.env)).any (·.1)=false:=by rfl):PE X (.Call (.Subscript (.Name x pn) i p) (e::es) [] pos) (Mp Nr E ty t):=by
 intro pins s σ H Q I h
 have arm:eval (.Call (.Subscript (.Name x pn) i p) (e::es) [] pos) X.env=(eval (.Subscript (.Name x pn) i p) X.env >>= λf=>callWith pos f [] (backTo pos (starEach (e::es) X.env)) (backToKw pos (keywordEach [] X.env))):=rfl
 rw [arm]
 refine wpAny_bind ?_
 refine JL PySem.F.slot_dict_getitem.lookup hs (BA (Hr (v:=.ref a) hg hm rfl E9 pins s σ H (λy H1=>y=.ref a/\H1=H) I ⟨rfl,rfl⟩) λu s1 ⟨x',H1,I1,rx,e1,e2⟩=>?_)
 subst e1 e2
 obtain rfl:u=Value.ref a:=rx
 refine BA (hi pins s1 σ H1 _ I1 h) λiv s2 ⟨y,H2,I2,ry,x',sp,ey,KJ,q⟩=>?_
 subst ey
 obtain ⟨f,fd,aI,F,hk,hb⟩:=R x' sp KJ
 have dd:s2.heap.DictOf (Bm X.prog X.w) a (rows.map λr=>(.inr r.1,r.2)):=XB d λo ho=>I2.kIn a o ho
 refine ⟨dd.typeIs,wpAny_getItem_of (G6 (k:=.inr x') ry) dd.mapOf (v:=.ref f) (by rw [KI];exact aI) ?_⟩
 have I3:=I2.tok (s2.toks+1)
 refine W.callWith_K (h₀:=X.base) I3.ok.mod.kin hk (BA (ha pos pins _ σ H2 _ I3 q) λus s4 ⟨vs,H4,I4,r,q⟩=>⟨I4.kIn,?_⟩) he Dc
 exact FF F hr hb .nil hx I4 r (by rw [List.append_nil];exact q)
theorem Nt (d:F5 X.w X.K a rows)(R:FN X.prog X.w X.K X.mg X.base CX k ps rows Nr)(hx:Passes CX X E)(hr:AY k X.A)(hg:Gl X x)(hm:X.mg x=some (.ref a))(hi:SE X i ty)(hs:M0 i)(ha:SA X (e::es) t)(E9:(x==("__debug__":Str))=false:=by decide)
  (he:starEach (e::es) X.env=(false,eval e X.env)::starEach es X.env:=by rfl) (Dc:(backTo pos (starEach es X.env)).any (·.1)=false:=by rfl):SE X (.Call (.Subscript (.Name x pn) i p) (e::es) [] pos) (Mp Nr E ty t):=⟨Rl d R hx hr hg hm hi.out hs ha.out E9 he Dc⟩
end
end L2
namespace PySem
open AutoSeq1 (wpAny_loadPart')
namespace F
theorem lri_nolen:typeLookup (.type "list_reverseiterator") "__len__"=pure none:=by rw [typeLookup_type,builtinLookup_eq_fast];kernel_rfl
theorem lri_hint:Slot "list_reverseiterator" "__length_hint__" "list_reverseiterator.__length_hint__" :=
 .of (owner:="list_reverseiterator") (n:="__length_hint__") (by rw [typeLookup_type,builtinLookup_eq_fast];kernel_rfl) (by decide +kernel) (by decide +kernel) (by decide +kernel) (by first | exact .inl (by decide +kernel) | exact .inr (by decide +kernel)) (by rw [isSubtype_type];kernel_rfl)
theorem lri_sub:isSubtype (.type "list_reverseiterator") (.type "list_reverseiterator")=pure true:=by rw [isSubtype_type];kernel_rfl
end F
section
variable {prog:Program}{w:World}{A:Around}{E:Value->Shared->Prop}{s:Shared}
theorem Ii {it l:Addr}{i:Int}{Q:Bool->Shared->Prop}(hit:s.heap.IsRevIter it l i)(h:∀ b tk,Q b { s with toks:=tk }):
  wpAny (model prog w) A (Builtin.List.listLengthHint (.ref it)) Q E s:=by
 obtain ⟨o,ho,hc,hd⟩:=id hit
 unfold Builtin.List.listLengthHint
 refine wpAny_bind (wpAny_specialOf hit.typeIs F.lri_nolen ?_)
 show wpAny _ A (specialOf (Value.ref it) (Str.ofString "__length_hint__") >>= _) _ _ _
 refine wpAny_bind (wpAny_specialOf hit.typeIs F.lri_hint.lookup ?_)
 generalize hid:("list_reverseiterator.__length_hint__":String)=id0
 wp_delta
 rw [show splitId id0=some ("list_reverseiterator","__length_hint__") from by subst hid;decide +kernel]
 subst hid
 refine wpAny_bind (wpAny_isInstance (T:="list_reverseiterator") (b:=true) hit.typeIs F.lri_sub ?_)
 refine wpAny_ite_split (λVc=>absurd Vc ⟨⟩) (λ_=>?_)
 refine wpAny_ite_split (λ_=>?_) (λVc=>absurd (by decide +kernel) Vc)
 refine wpAny_ite_split (λVc=>absurd Vc (by decide +kernel)) (λ_=>?_)
 exact wpAny_pure (h _ _)
theorem Mq {R:Result->Shared->Prop}{I l:Addr}{items:Array Value}(hh:A.handled=none)(hI:s.heap.IsRevIter I l ((items.size:Int) - 1))(hl:s.heap.IsList l items)(KL:l≠I)(hlen:items.size < 2 ^ 20)(S:Addr)(res:Value)(c0:Nat)(hS:s.heap.get? S=some { cls:=.type "list",data:=.seq #[] c0 })(hSI:S≠I)(hSl:S≠l)
  (hR:∀ h' tk JW c',(∀ b o,b≠S->b≠I->s.heap.get? b=some o->h'.get? b=some o)->h'.get? S=some { cls:=.type "list",dict:=none,data:=.seq JW c',slots:=#[] } ->
   ItemsOf (λi v=>items[items.size - 1 - i]?=some v) JW items.size->R (.ok (.ret res)) { s with heap:=h',toks:=tk }) :
  wpAny (model prog w) A.in1 (Builtin.List.listExtendWith (.ref S) (.ref I) res)
   (λfin s'=>match fin with | .done f=>R (.ok f) s' | .again c'=>c'.quiet=true/\codeAny (model prog w) A c' R s') (λe s'=>R (.error e) s') s:=by
 have W:=(Walks.listRev (prog:=prog) (w:=w) (A:=A.in1) hh I l KL items).toS
 have hSf:S∉[I,l]:=by simp [hSI,hSl]
 have hT:s.TypeIs (.ref I) "list_reverseiterator":=hI.typeIs
 have key:∀ (h:Heap) (c1 tk:Nat),h.IsRevIter I l ((items.size:Int) - 1)->h.IsList l items->(∀ b o,b≠S->s.heap.get? b=some o->h.get? b=some o)->h.get? S=some { cls:=.type "list",data:=.seq #[] c1 } ->
   codeAny (model prog w) A (.builtin "list.extend.loop" ⟨[.ref S,.ref I,res],[]⟩) R { s with heap:=h,toks:=tk }:=by
  intro h c1 tk hit htu hk y1
  refine codeAny_extend_loopS W (by rw [sizeLine_eq];omega) S hSf res items.size 0 _ #[] c1 rfl (Nat.zero_le _) ⟨Nat.zero_le _,by simpa using hit,htu⟩ y1 (ItemsOf.nil _) λs' JW c' hm oI HS=>?_
  rw [Moved.eq_with hm]
  refine hR s'.heap s'.toks JW c' (λb o hb hbI e=>hm.heap b o (λKJ=>?_) (hk b o hb e)) oI HS
  rcases List.mem_cons.mp KJ with e' | KJ
  ·exact hb e'
  ·exact hbI (List.mem_singleton.mp KJ)
 unfold Builtin.List.listExtendWith
 refine wpAny_bind (wpAny_typeOf hT ?_)
 have h1:Builtin.List.listSameRef (.ref S) (.ref I)=false:=by simp [Builtin.List.listSameRef,hSI]
 have h2:(Value.type "list_reverseiterator"==Value.type "list")=false:=by decide
 have h3:(Value.type "list_reverseiterator"==Value.type "tuple")=false:=by decide
 simp only [h1,h2,h3,Bool.or_false,Bool.false_eq_true,if_false]
 refine wpAny_bind (wpAny_pyIter_revIter hI ?_)
 refine wpAny_bind (wpAny_holding (Ii hI λb tk=>?_))
 have y1:({ s with toks:=tk }:Shared).heap.get? S=some { cls:=.type "list",data:=.seq #[] c0 }:=hS
 refine wpAny_ite_split (λ_=>?_) (λ_=>wpAny_pure ⟨plainId_quiet F.plain_extend_loop _,key _ c0 _ hI hl (λb o _ e=>e) hS⟩)
 refine wpAny_bind (wpAny_rule ?_)
 refine wpAny_bind ?_
 show wpAny _ _ (updateSeq S (·.push .none) >>= λ_=>updateSeq S (·.pop)) _ _ _
 refine wpAny_bind (wpAny_updateSeq y1 rfl ?_)
 have m8:=Heap.get?_update_self (Obj.mapSeq (·.push Value.none)) y1 rfl
 refine wpAny_updateSeq (hz:=by seq_fits) m8 rfl ?_
 have hS3:=Heap.get?_update_self (Obj.mapSeq (·.pop)) m8 rfl
 have aL:∀ b o,b≠S->s.heap.get? b=some o->((s.heap.update S (Obj.mapSeq (·.push Value.none))).update S (Obj.mapSeq (·.pop))).get? b=some o:=λb o hb e =>
  (Heap.get?_update_other _ _ (Ne.symm hb)).trans ((Heap.get?_update_other _ _ (Ne.symm hb)).trans e)
 exact wpAny_pure ⟨plainId_quiet F.plain_extend_loop _,key _ _ _ (hI.at λo e=>aL I o (Ne.symm hSI) e) (hl.at λo e=>aL l o (Ne.symm hSl) e) aL hS3⟩
theorem IQ {Q:Value->Shared->Prop}{I l:Addr}{items:Array Value}(hh:A.handled=none)(hI:s.heap.IsRevIter I l ((items.size:Int) - 1))(hl:s.heap.IsList l items)(KL:l≠I)(hlen:items.size < 2 ^ 20)
  (hQ:∀ h' tk JW c',(∀ b o,b≠I->s.heap.get? b=some o->h'.get? b=some o)->h'.get? s.heap.objs.size=some { cls:=.type "list",dict:=none,data:=.seq JW c',slots:=#[] } ->
   ItemsOf (λi v=>items[items.size - 1 - i]?=some v) JW items.size->Q (.ref s.heap.objs.size) { s with heap:=h',toks:=tk }):wpAny (model prog w) A (call (.type "list") [.ref I]) Q E s:=by
 have oQ:I < s.heap.objs.size:=by obtain ⟨o,ho,_⟩:=hI;exact Heap.lt_size ho
 have oR:l < s.heap.objs.size:=by obtain ⟨o,ho,_⟩:=hl;exact Heap.lt_size ho
 refine callType_codes (Q₁:=λobj s1=>obj=.ref s.heap.objs.size/\s1={ s with heap:=s.heap.push { cls:=.type "list",data:=.seq #[] } }) F.called_list (F.typeCall_list_1 _) F.entry_list_init (code_list_new _ ⟨rfl,rfl⟩) λobj s1 q1=>?_
 obtain ⟨rfl,rfl⟩:=q1
 have hS:(s.heap.push { cls:=.type "list",data:=.seq #[] }).get? s.heap.objs.size=some { cls:=.type "list",data:=.seq #[] }:=Heap.get?_push_size _ rfl
 refine ⟨⟨_,hS,rfl⟩,F.args_list_init_2 _ _,?_⟩
 show wpAny _ _ (do let old <- Builtin.List.listItems (.ref s.heap.objs.size);Builtin.List.listUpdate (.ref s.heap.objs.size) (λ_=>#[]);letGo old.toList.reverse;Builtin.List.listExtendWith (.ref s.heap.objs.size) (.ref I) .none) _ _ _
 refine wpAny_bind ?_
 unfold Builtin.List.listItems
 refine wpAny_bind (wpAny_seqItems hS rfl (wpAny_pure ?_))
 show wpAny _ _ (updateSeq s.heap.objs.size (λ_=>#[]) >>= λ_=>letGo (#[]:Array Value).toList.reverse >>= λ_=>Builtin.List.listExtendWith (.ref s.heap.objs.size) (.ref I) .none) _ _ _
 refine wpAny_bind (wpAny_updateSeq hS rfl ?_)
 have m8:=Heap.get?_update_self (Obj.mapSeq (λ_=>(#[]:Array Value))) hS rfl
 have aL:∀ b o,b≠s.heap.objs.size->s.heap.get? b=some o->((s.heap.push { cls:=.type "list",data:=.seq #[] }).update s.heap.objs.size (Obj.mapSeq (λ_=>(#[]:Array Value)))).get? b=some o :=
  λb o hb e=>(Heap.get?_update_other _ _ (Ne.symm hb)).trans (Heap.get?_push_of_some _ e)
 refine wpAny_bind (wpAny_letGo ?_)
 refine Mq (A:=A.in1) (I:=I) (l:=l) (items:=items) hh (hI.at λo e=>aL I o (Nat.ne_of_lt oQ) e) (hl.at λo e=>aL l o (Nat.ne_of_lt oR) e) KL hlen _ .none _ m8 (Ne.symm (Nat.ne_of_lt oQ)) (Ne.symm (Nat.ne_of_lt oR)) λh' tk JW c' hk oI HS=>?_
 exact ⟨rfl,hQ h' tk JW c' (λb o hb e=>hk b o (Nat.ne_of_lt (Heap.lt_size e)) hb (aL b o (Nat.ne_of_lt (Heap.lt_size e)) e)) oI HS⟩
end
end PySem
namespace L2
open PySem PySem.Spec PyProof.Rows KS
section
variable {X:Cx}
noncomputable def GS (K:W.Frag)(ta:TA):TE:=fun σ H Q=>ta σ H λvs H1=>∃ a xs,vs=[.ref a]/\AZ K H1 a xs/\xs.length < 1000000/\∀ l,H1 l=none->Q (.ref l) (upd H1 l (.lst xs.reverse))
theorem KN {a:Expr}{ta:TA}{p1 p2 R8 IP:Pos}(hc:X.calm=true)(hgL:Gl X "list")(hmL:X.mg "list"=none)(hgR:Gl X "reversed")(hmR:X.mg "reversed"=none)(ha:PA X [a] ta)
  (hs:starEach [a] X.env=[(false,eval a X.env)]:=by rfl)
  (he:starEach [.Call (.Name "reversed" p2) [a] [] IP] X.env=(false,eval (.Call (.Name "reversed" p2) [a] [] IP) X.env)::starEach [] X.env:=by rfl) :
  PE X (.Call (.Name "list" p1) [.Call (.Name "reversed" p2) [a] [] IP] [] R8) (GS X.K ta):=by
 intro pins s σ H Q I h
 refine wpAny_Call_Name_kw (EV I hgL hmL boot_list ?_)
 refine PyProof.Rows.callWith_type1 ?_ he rfl
 rw [he]
 show wpAny _ _ (spliced ((false,eval (.Call (.Name "reversed" p2) [a] [] IP) X.env)::backTo R8 (starEach [] X.env))) _ _ s
 refine Calls.spliced_cons ?_
 refine Call_ (EV I hgR hmR boot_reversed (PyProof.Rows.callWith_type1 (BA (ha IP pins s σ H _ I h) λus s1 q1=>?_) hs rfl))
 obtain ⟨vs,H1,I1,r1,t,xs,rfl,hq,hx,q⟩:=q1
 obtain ⟨u,rfl,ru⟩:=vals1 r1
 obtain rfl:u=Value.ref t:=ru
 obtain ⟨its,rv,pl,hz⟩:=I1.list hq
 have hlen:=rv.length
 refine call_reversed_list pl.isList ?_
 refine Calls.spliced_nil ?_
 have ltt:t < s1.heap.objs.size:=by obtain ⟨o,n,e,_⟩:=pl;exact Heap.lt_size e
 have hT:s1.heap.objs.size≠t:=Ne.symm (Nat.ne_of_lt ltt)
 have I2:Inv X pins σ H1 { s1 with heap:=s1.heap.push (revObj t ((its.toArray.size:Int) - 1)) }:=I1.kept (t':=s1.toks) λb o z=>Heap.get?_push_of_some _ z
 refine IQ (I:=s1.heap.objs.size) (l:=t) (items:=its.toArray) (I.ok.hd hc) ⟨_,Heap.get?_push_size _ rfl,rfl,rfl⟩ (pl.isList.at λo z=>Heap.get?_push_of_some _ z) (Ne.symm hT) (by rw [List.size_toArray];omega) λh' tk acc c' hk hS hA=>?_
 have nI:H1 s1.heap.objs.size=none:=I1.hok.fresh (Nat.le_refl _)
 obtain ⟨f0,f1,_,f3,f4,f5⟩:=I1.fpOk (H':=H1) (Nat.le_refl _) nI
 have I3:Inv X pins σ H1 { s1 with heap:=h',toks:=tk }:=I2.turned (t':=tk) hk f0 f1 f3 f4 f5
 have nS:H1 (s1.heap.push (revObj t ((its.toArray.size:Int) - 1))).objs.size=none:=I2.hok.fresh (Nat.le_refl _)
 have rv2:=Ox rv hA
 have I4:Inv X pins σ (upd H1 (s1.heap.push (revObj t ((its.toArray.size:Int) - 1))).objs.size (.lst xs.reverse)) { s1 with heap:=h',toks:=tk }:=by
  refine I2.call' (ch:=[s1.heap.objs.size]) rfl ?_ (I3.hok.track nS ⟨by rw [List.length_reverse];exact hz,acc.toList,c',rv2,by simpa using hS⟩) I2.bare ?_
  ·have u0:Un (frs X.stack) [s1.heap.objs.size] H1 H1 (s1.heap.push (revObj t ((its.toArray.size:Int) - 1))) h':=by
    have kk:∀ b o,b∉[s1.heap.objs.size]->(s1.heap.push (revObj t ((its.toArray.size:Int) - 1))).get? b=some o->h'.get? b=some o:=λb o hb z=>hk b o (λy=>hb (by simp [y])) z
    exact ⟨λb o z _ _ hx=>kk b o hx z,λb o z _ _ hx=>⟨o.slots,kk b o hx z⟩,λb o z n _=>n,λb o z hx=>⟨o,kk b o hx z⟩,λ_ _ z=>z,λ_ _ _ z=>z,λb ps z=>⟨#[],by rw [z];simp⟩⟩
   exact u0.track nS (Heap.get?_none_of_le (Nat.le_refl _))
  ·intro b hb
   obtain rfl:=List.mem_singleton.mp hb
   exact ⟨f3,f1,f4,f5⟩
 exact ⟨.ref _,_,I4,rfl,q _ nS⟩
theorem Mr {a:Expr}{ta:TA}{p1 p2 R8 IP:Pos}(hc:X.calm=true)(hgL:Gl X "list")(hmL:X.mg "list"=none)(hgR:Gl X "reversed")(hmR:X.mg "reversed"=none)(ha:SA X [a] ta)
  (hs:starEach [a] X.env=[(false,eval a X.env)]:=by rfl)
  (he:starEach [.Call (.Name "reversed" p2) [a] [] IP] X.env=(false,eval (.Call (.Name "reversed" p2) [a] [] IP) X.env)::starEach [] X.env:=by rfl) :
  SE X (.Call (.Name "list" p1) [.Call (.Name "reversed" p2) [a] [] IP] [] R8) (GS X.K ta):=⟨KN hc hgL hmL hgR hmR ha.out hs he⟩
end
end L2
namespace KX
open PySem
inductive Ex where
 | nm (x:Str) | num (i:Int) | tru (b:Bool) | emp
 | fn (x:Str) (b:Ex) | rc (f x:Str) (b:Ex) | cal (a b:Ex) | lt (x:Str) (a b:Ex) | wh (a b c:Ex) | pr (a b:Ex)
 | opn (a:Ex) (x y:Str) (b:Ex) | lk (a b:Ex) | spl (a b:Ex) (x y:Str) (c:Ex) | op (o:Str) (a b:Ex)
namespace Ex
noncomputable def np:Ex->Nat
 | nm _ | num _ | tru _ | emp=>0
 | fn _ b=>np b | rc _ _ b=>np b | cal a b=>np a+np b | lt _ a b=>np a+np b | wh a b c=>np a+np b+np c | pr a b=>1+np a+np b
 | opn a _ _ b=>np a+np b | lk a b=>1+np a+np b | spl a b _ _ c=>np a+np b+np c | op _ a b=>np a+np b
noncomputable def sz:Ex->Nat
 | nm _ | num _ | tru _ | emp=>1
 | fn _ b=>1+sz b | rc _ _ b=>1+sz b | cal a b=>1+sz a+sz b | lt _ a b=>1+sz a+sz b | wh a b c=>1+sz a+sz b+sz c | pr a b=>1+sz a+sz b
 | opn a _ _ b=>1+sz a+sz b | lk a b=>1+sz a+sz b | spl a b _ _ c=>1+sz a+sz b+sz c | op _ a b=>1+sz a+sz b
noncomputable def cl (xs:List Str):Ex->Prop
 | nm x=>x∈xs
 | num _ | tru _ | emp=>True
 | fn x b=>cl (x::xs) b | rc f x b=>cl (x::f::xs) b | cal a b=>cl xs a/\cl xs b | lt x a b=>cl xs a/\cl (x::xs) b | wh a b c=>cl xs a/\cl xs b/\cl xs c | pr a b=>cl xs a/\cl xs b
 | opn a x y b=>cl xs a/\cl (y::x::xs) b | lk a b=>cl xs a/\cl xs b | spl a b x y c=>cl xs a/\cl xs b/\cl (y::x::xs) c | op _ a b=>cl xs a/\cl xs b
theorem cl.mono {e:Ex}:∀ {xs ys:List Str},(∀ x∈xs,x∈ys)->cl xs e->cl ys e:=by
 have c1:∀ {xs ys:List Str} (x:Str),(∀ x∈xs,x∈ys)->∀ z∈x::xs,z∈x::ys:=λx h z hz=>by
  rcases List.mem_cons.mp hz with rfl | hz
  ·exact .head _
  ·exact .tail _ (h _ hz)
 induction e with
 | nm x=>exact λh q=>h _ q
 | num _ | tru _ | emp=>exact λ_ _=>trivial
 | fn x b ih=>exact λh q=>ih (c1 x h) q
 | rc f x b ih=>exact λh q=>ih (c1 x (c1 f h)) q
 | cal a b ia ib=>exact λh q=>⟨ia h q.1,ib h q.2⟩
 | lt x a b ia ib=>exact λh q=>⟨ia h q.1,ib (c1 x h) q.2⟩
 | wh a b c ia ib ic=>exact λh q=>⟨ia h q.1,ib h q.2.1,ic h q.2.2⟩
 | pr a b ia ib=>exact λh q=>⟨ia h q.1,ib h q.2⟩
 | opn a x y b ia ib=>exact λh q=>⟨ia h q.1,ib (c1 y (c1 x h)) q.2⟩
 | lk a b ia ib=>exact λh q=>⟨ia h q.1,ib h q.2⟩
 | spl a b x y c ia ib ic=>exact λh q=>⟨ia h q.1,ib h q.2.1,ic (c1 y (c1 x h)) q.2.2⟩
 | op o a b ia ib=>exact λh q=>⟨ia h q.1,ib h q.2⟩
noncomputable def isOp (o:Str):Prop:=o="plus"\/o="minus"\/o="less"\/o="same"
noncomputable def opk:Ex->Prop
 | nm _ | num _ | tru _ | emp=>True
 | fn _ b=>opk b | rc _ _ b=>opk b | cal a b=>opk a/\opk b | lt _ a b=>opk a/\opk b | wh a b c=>opk a/\opk b/\opk c | pr a b=>opk a/\opk b
 | opn a _ _ b=>opk a/\opk b | lk a b=>opk a/\opk b | spl a b _ _ c=>opk a/\opk b/\opk c | op o a b=>isOp o/\opk a/\opk b
end Ex
end KX
namespace L2
open PySem PySem.Spec PyProof.Rows KS KX
noncomputable def Br (H:Hp):Ex->V->Prop
 | .nm x,r=>∃ p,r=.ref p/\H p=some (.tup [.str "name",.str x])
 | .num i,r=>∃ p,r=.ref p/\H p=some (.tup [.str "number",.int i])
 | .tru b,r=>∃ p,r=.ref p/\H p=some (.tup [.str "truth",.bl b])
 | .emp,r=>∃ p,r=.ref p/\H p=some (.tup [.str "empty"])
 | .fn x b,r=>∃ p rb,r=.ref p/\H p=some (.tup [.str "fun",.str x,rb])/\Br H b rb
 | .rc f x b,r=>∃ p rb,r=.ref p/\H p=some (.tup [.str "rec",.str f,.str x,rb])/\Br H b rb
 | .cal a b,r=>∃ p ra rb,r=.ref p/\H p=some (.tup [.str "call",ra,rb])/\Br H a ra/\Br H b rb
 | .lt x a b,r=>∃ p ra rb,r=.ref p/\H p=some (.tup [.str "let",.str x,ra,rb])/\Br H a ra/\Br H b rb
 | .wh a b c,r=>∃ p ra rb rc,r=.ref p/\H p=some (.tup [.str "when",ra,rb,rc])/\Br H a ra/\Br H b rb/\Br H c rc
 | .pr a b,r=>∃ p ra rb,r=.ref p/\H p=some (.tup [.str "pair",ra,rb])/\Br H a ra/\Br H b rb
 | .opn a x y b,r=>∃ p ra rb,r=.ref p/\H p=some (.tup [.str "open",ra,.str x,.str y,rb])/\Br H a ra/\Br H b rb
 | .lk a b,r=>∃ p ra rb,r=.ref p/\H p=some (.tup [.str "link",ra,rb])/\Br H a ra/\Br H b rb
 | .spl a b x y c,r=>∃ p ra rb rc,r=.ref p/\H p=some (.tup [.str "split",ra,rb,.str x,.str y,rc])/\Br H a ra/\Br H b rb/\Br H c rc
 | .op o a b,r=>∃ p ra rb,r=.ref p/\H p=some (.tup [.str "op",.str o,ra,rb])/\Br H a ra/\Br H b rb
theorem Br.mono {H H':Hp}(s:Ay H H'):∀ {e:Ex} {r:V},Br H e r->Br H' e r
 | .nm _,_,⟨p,h1,h2⟩=>⟨p,h1,s _ _ h2⟩
 | .num _,_,⟨p,h1,h2⟩=>⟨p,h1,s _ _ h2⟩
 | .tru _,_,⟨p,h1,h2⟩=>⟨p,h1,s _ _ h2⟩
 | .emp,_,⟨p,h1,h2⟩=>⟨p,h1,s _ _ h2⟩
 | .fn _ _,_,⟨p,rb,h1,h2,h3⟩=>⟨p,rb,h1,s _ _ h2,Br.mono s h3⟩
 | .rc _ _ _,_,⟨p,rb,h1,h2,h3⟩=>⟨p,rb,h1,s _ _ h2,Br.mono s h3⟩
 | .cal _ _,_,⟨p,ra,rb,h1,h2,h3,h4⟩=>⟨p,ra,rb,h1,s _ _ h2,Br.mono s h3,Br.mono s h4⟩
 | .lt _ _ _,_,⟨p,ra,rb,h1,h2,h3,h4⟩=>⟨p,ra,rb,h1,s _ _ h2,Br.mono s h3,Br.mono s h4⟩
 | .wh _ _ _,_,⟨p,ra,rb,rc,h1,h2,h3,h4,h5⟩=>⟨p,ra,rb,rc,h1,s _ _ h2,Br.mono s h3,Br.mono s h4,Br.mono s h5⟩
 | .pr _ _,_,⟨p,ra,rb,h1,h2,h3,h4⟩=>⟨p,ra,rb,h1,s _ _ h2,Br.mono s h3,Br.mono s h4⟩
 | .opn _ _ _ _,_,⟨p,ra,rb,h1,h2,h3,h4⟩=>⟨p,ra,rb,h1,s _ _ h2,Br.mono s h3,Br.mono s h4⟩
 | .lk _ _,_,⟨p,ra,rb,h1,h2,h3,h4⟩=>⟨p,ra,rb,h1,s _ _ h2,Br.mono s h3,Br.mono s h4⟩
 | .spl _ _ _ _ _,_,⟨p,ra,rb,rc,h1,h2,h3,h4,h5⟩=>⟨p,ra,rb,rc,h1,s _ _ h2,Br.mono s h3,Br.mono s h4,Br.mono s h5⟩
 | .op _ _ _,_,⟨p,ra,rb,h1,h2,h3,h4⟩=>⟨p,ra,rb,h1,s _ _ h2,Br.mono s h3,Br.mono s h4⟩
structure Lr (xs:List Str)(b c:Nat)(e:Ex):Prop where
 cl:e.cl xs
 op:e.opk
 np:e.np<=b
 sz:e.sz<=c
section
variable {X:Cx}{a:Expr}{pos:Pos}{ta:TE}
theorem Vd {op:UnaryOp}{r:V->Hp->VK->Prop}(ho:xr X (unaryOp op) r)(ha:SE X a ta):SE X (.UnaryOp op a pos) (ze r ta):=⟨nF ho ha.out⟩
end
end L2
namespace L2
open PySem PySem.Spec PyProof.Rows KS
section
variable {X:Cx}{o e value:Expr}{f x:Str}{pos Ur p pos':Pos}{ta tv te:TE}{es:List Expr}{t:TA}
theorem oS {i:Nat}{op:Operator}{ti:nv}(hN:X.N.Nodup)(hi:X.N[i]?=some x)(hx:Loc X.env.scope x)(ho:z0 X op ti)(he:SE X e te)(hf:X.fn x=true\/X.env.scope.names.lookup x=some .local:=by first | exact .inl rfl | exact .inr rfl | assumption):
  SS X (.AugAssign (.Name x pos') op e pos) (Zk i te ti):=⟨Zl hN hi hx he.out ho hf⟩
theorem Ij {op:Operator}{left:V->V->Hp->VK->Prop}(zh:Zy X op left)(ha:SE X o ta)(hv:SE X value tv):SS X (.AugAssign (.Attribute o f Ur) op value pos) (Hu X.K ta tv left f):=⟨Og ha.out hv.out zh⟩
theorem JX {C fi:Addr}{k:Nat}{fd:FuncData}{ps:List Str}{sp:Sp}(M:Mk X.K C fi)(F:AI X.prog X.w X.K X.mg X.base BR k fi fd ps sp)(hb:Binds X.K fd ps [])(hm:X.mg x=some (.ref C))(hr:AY (k+1) X.A)(hg:Gl X x)(ha:SA X (e::es) t)(E9:(x==("__debug__":Str))=false:=by decide)
  (he:starEach (e::es) X.env=(false,eval e X.env)::starEach es X.env:=by first | exact CQ | exact Ca | exact C9 | exact CT | exact CU | exact CV | exact DP | rfl) (Dc:(backTo pos (starEach es X.env)).any (·.1)=false:=by rfl) :
  SE X (.Call (.Name x p) (e::es) [] pos) (Qo C sp [] E0 t):=⟨Uu M F hr hg hm hb .nil He ha.out E9 he Dc⟩
end
section
variable {K:W.Frag}{σ:St}{H:Hp}{Q:VK}{D:Ends}{ta tv te:TE}{f:Str}{t:TA}{C:Addr}{sp:Sp}{E:XK}{u:TS}
theorem Aaz (q:ta σ H λx H1=>Qn K f Q x H1):Zx K ta f σ H Q:=q
theorem y2 (q:t σ H λvs H1=>∀ x dx,H1 x=none->H1 dx=none->dx≠x->sp (.ref x::(vs++[])) (upd (upd H1 dx (.own x)) x (.ins C dx [])) (λv H2=>v=.non/\Q (.ref x) H2) E):Qo C sp [] E t σ H Q:=q
theorem y3 (q:tv σ H λy H1=>ta σ H1 λx H2=>N3 K f D.nx σ y x H2):Up K ta tv f D σ H:=q
theorem aO (q:tv σ H λy H1=>ta σ H1 λx H2=>N3 K f (u D) σ y x H2):B8 (Up K ta tv f) u D σ H:=q
theorem aP {td ty:TE}(q:tv σ H λv H1=>td σ H1 λx H2=>ty σ H2 λy H3=>M7 (u D) σ v x y H3):B8 (QD td ty tv) u D σ H:=q
theorem Aa0 {i:Nat}{x:V}{g:Int->Int->Int}(h:σ[i]?=some (some x))(q:te σ H λy H1=>∃ a b,x=.int a/\y=.int b/\D.nx (σ.set i (some (.int (g a b)))) H1):Zk i te (ipI g) D σ H:=⟨x,h,q⟩
noncomputable def Aa1 (J:It)(g:TG)(tb:TS)(D:Ends)(σ:St)(H:Hp):Prop:=∃ W:Nat->Nat->St->Hp->Prop,(∃ m,W 0 m σ H)/\∀ i m σ H,W i m σ H ->
 (J.stop i H/\D.nx σ H)\/(J.go i H/\∃ N:St->Hp->Prop,(∀ σ' H',N σ' H'->∃ m',m' < m/\W (i+1) m' σ' H')/\∀ x H',J.yld i H x H'->g x σ H' fun σ2 H2=>tb { D with nx:=N,ct:=N,bk:=D.nx } σ2 H2)
theorem m9 {wi:TI}{g:TG}{tb:TS}(q:wi σ H λJ H1=>Aa1 J g tb { D with nx:=u D } σ H1):B8 (Zq wi g tb) u D σ H:=q
theorem y4 {R:It->Hp->Prop}(q:t σ H λvs H1=>QO K R vs H1):ZX K t σ H R:=q
theorem oU {i:Nat}{x:V}{R:St->Hp->Prop}(q:R (σ.set i (some x)) H):Dg i x σ H R:=q
theorem ma {left:V->V->Hp->VK->Prop}(q:ta σ H λx H1=>∃ a C dx fs v,x=.ref a/\H1 a=some (.ins C dx fs)/\IC K C/\Ct K C f/\fs.lookup f=some v/\tv σ H1 λy H2=>left v y H2 λz H3=>∃ Uq IB,H3 a=some (.ins C Uq IB)/\IB.length < 1000/\D.nx σ (upd H3 a (.ins C Uq (Ci f z IB)))):Hu K ta tv left f D σ H:=q
theorem Ve {left:V->V->Hp->VK->Prop}(q:ta σ H λx H1=>∃ a C dx fs v,x=.ref a/\H1 a=some (.ins C dx fs)/\IC K C/\Ct K C f/\fs.lookup f=some v/\tv σ H1 λy H2=>left v y H2 λz H3=>∃ Uq IB,H3 a=some (.ins C Uq IB)/\IB.length < 1000/\u D σ (upd H3 a (.ins C Uq (Ci f z IB)))):B8 (Hu K ta tv left f) u D σ H:=q
theorem y6 {rows:List (Str × Value)}(q:ta σ H λy H1=>∃ (k:Str) (u:Value) (v:V),y=.str k/\rowAt rows k=some u/\RelV v u/\Q v H1):Rk rows ta σ H Q:=q
theorem oV {Nr:List (Str × Sp)}(q:ta σ H λy H1=>∃ (x:Str) (sp:Sp),y=.str x/\(x,sp)∈Nr/\t σ H1 λvs H2=>sp vs H2 Q E):Mp Nr E ta t σ H Q:=q
theorem aQ {T:String}{r:V->List V->Hp->VK->Prop}(q:ta σ H λx H1=>nU K T x H1/\r x [] H1 Q):UA K T r ta σ H Q:=q
theorem As1 {T:String}{r:V->List V->Hp->VK->Prop}(q:ta σ H λx H1=>nU K T x H1/\t σ H1 λxs H2=>r x xs H2 Q):zk K T r ta t σ H Q:=q
theorem y7 {m:Str}(q:ta σ H λx H1=>LQ C m sp [] E t σ Q x H1):G3 C m sp [] E ta t σ H Q:=q
theorem XC (q:t σ H λvs H1=>∃ a xs,vs=[.ref a]/\AZ K H1 a xs/\xs.length < 1000000/\∀ l,H1 l=none->Q (.ref l) (upd H1 l (.lst xs.reverse))):GS K t σ H Q:=q
end
end L2
local macro_rules | `(tactic| fail)=>`(tactic| first
 | with_reducible refine L2.Aaz ?_
 | with_reducible refine L2.y2 ?_
 | with_reducible refine L2.aO ?_
 | with_reducible refine L2.y3 ?_
 | with_reducible refine L2.aP ?_
 | with_reducible refine L2.Ve ?_
 | with_reducible refine L2.ma ?_
 | with_reducible refine L2.y6 ?_
 | with_reducible refine L2.m9 ?_
 | with_reducible refine L2.oU ?_
 | with_reducible refine L2.y4 ?_
 | with_reducible refine L2.oV ?_
 | with_reducible refine L2.aQ ?_
 | with_reducible refine L2.As1 ?_
 | with_reducible refine L2.y7 ?_
 | with_reducible refine L2.XC ?_
 | ((with_reducible refine L2.Aa0 (x:=?v) ?h ?q);(case h=>rfl)))
namespace L2
open PySem PySem.Spec PyProof.Rows KS
noncomputable def KO (K:W.Frag)(a:Addr)(xs:List V):Prop:=∃ (o:Obj) (its:Array Value) (n:Nat),K.lookup a=some o/\o.cls=.type "tuple"/\o.data=.seq its n/\its.size<=sizeLine/\Vals xs its.toList
theorem KO.sq {K:W.Frag}{a:Addr}{xs:List V}(h:KO K a xs)(H:Hp):AJ K H a xs:=.inr h
end L2
namespace KX
open PySem
namespace Ex
noncomputable def wd:Ex->Str
 | nm _=>"name" | num _=>"number" | tru _=>"truth" | emp=>"empty" | fn _ _=>"fun" | rc _ _ _=>"rec" | cal _ _=>"call" | lt _ _ _=>"let" | wh _ _ _=>"when" | pr _ _=>"pair"
 | opn _ _ _ _=>"open" | lk _ _=>"link" | spl _ _ _ _ _=>"split" | op _ _ _=>"op"
noncomputable def prt:Ex->List (Ex × List Str)
 | nm _ | num _ | tru _ | emp=>[]
 | fn x b=>[(b,[x])] | rc f x b=>[(b,[f,x])] | cal a b=>[(a,[]),(b,[])] | lt x a b=>[(a,[]),(b,[x])] | wh a b c=>[(a,[]),(b,[]),(c,[])] | pr a b=>[(a,[]),(b,[])]
 | opn a x y b=>[(a,[]),(b,[x,y])] | lk a b=>[(a,[]),(b,[])] | spl a b x y c=>[(a,[]),(b,[]),(c,[x,y])] | op _ a b=>[(a,[]),(b,[])]
noncomputable def plc:Ex->List (Nat × List Nat)
 | nm _ | num _ | tru _ | emp=>[]
 | fn _ _=>[(2,[1])] | rc _ _ _=>[(3,[1,2])] | cal _ _=>[(1,[]),(2,[])] | lt _ _ _=>[(2,[]),(3,[1])] | wh _ _ _=>[(1,[]),(2,[]),(3,[])] | pr _ _=>[(1,[]),(2,[])]
 | opn _ _ _ _=>[(1,[]),(4,[2,3])] | lk _ _=>[(1,[]),(2,[])] | spl _ _ _ _ _=>[(1,[]),(2,[]),(5,[3,4])] | op _ _ _=>[(2,[]),(3,[])]
end Ex
end KX
namespace L2
open PySem PySem.Spec PyProof.Rows KS KX
noncomputable def Aa2 (H:Hp)(us:List V)(row:Nat × List Nat)(pt:Ex × List Str):Prop:=(∃ re,us[row.1]?=some re/\Br H pt.1 re)/\Paired (λn x=>us[n]?=some (V.str x)) row.2 pt.2
theorem Br.look {H:Hp}:∀ {e:Ex} {r:V},Br H e r->∃ p us,r=.ref p/\H p=some (.tup (.str e.wd::us))/\Paired (Aa2 H (.str e.wd::us)) e.plc e.prt/\us.length<=5
 | .nm _,_,⟨p,h1,h2⟩=>⟨p,_,h1,h2,.nil,by simp⟩
 | .num _,_,⟨p,h1,h2⟩=>⟨p,_,h1,h2,.nil,by simp⟩
 | .tru _,_,⟨p,h1,h2⟩=>⟨p,_,h1,h2,.nil,by simp⟩
 | .emp,_,⟨p,h1,h2⟩=>⟨p,_,h1,h2,.nil,by simp⟩
 | .fn _ _,_,⟨p,rb,h1,h2,h3⟩=>⟨p,_,h1,h2,.cons ⟨⟨rb,rfl,h3⟩,.cons rfl .nil⟩ .nil,by simp⟩
 | .rc _ _ _,_,⟨p,rb,h1,h2,h3⟩=>⟨p,_,h1,h2,.cons ⟨⟨rb,rfl,h3⟩,.cons rfl (.cons rfl .nil)⟩ .nil,by simp⟩
 | .cal _ _,_,⟨p,ra,rb,h1,h2,h3,h4⟩=>⟨p,_,h1,h2,.cons ⟨⟨ra,rfl,h3⟩,.nil⟩ (.cons ⟨⟨rb,rfl,h4⟩,.nil⟩ .nil),by simp⟩
 | .lt _ _ _,_,⟨p,ra,rb,h1,h2,h3,h4⟩=>⟨p,_,h1,h2,.cons ⟨⟨ra,rfl,h3⟩,.nil⟩ (.cons ⟨⟨rb,rfl,h4⟩,.cons rfl .nil⟩ .nil),by simp⟩
 | .wh _ _ _,_,⟨p,ra,rb,rc,h1,h2,h3,h4,h5⟩=>⟨p,_,h1,h2,.cons ⟨⟨ra,rfl,h3⟩,.nil⟩ (.cons ⟨⟨rb,rfl,h4⟩,.nil⟩ (.cons ⟨⟨rc,rfl,h5⟩,.nil⟩ .nil)),by simp⟩
 | .pr _ _,_,⟨p,ra,rb,h1,h2,h3,h4⟩=>⟨p,_,h1,h2,.cons ⟨⟨ra,rfl,h3⟩,.nil⟩ (.cons ⟨⟨rb,rfl,h4⟩,.nil⟩ .nil),by simp⟩
 | .opn _ _ _ _,_,⟨p,ra,rb,h1,h2,h3,h4⟩=>⟨p,_,h1,h2,.cons ⟨⟨ra,rfl,h3⟩,.nil⟩ (.cons ⟨⟨rb,rfl,h4⟩,.cons rfl (.cons rfl .nil)⟩ .nil),by simp⟩
 | .lk _ _,_,⟨p,ra,rb,h1,h2,h3,h4⟩=>⟨p,_,h1,h2,.cons ⟨⟨ra,rfl,h3⟩,.nil⟩ (.cons ⟨⟨rb,rfl,h4⟩,.nil⟩ .nil),by simp⟩
 | .spl _ _ _ _ _,_,⟨p,ra,rb,rc,h1,h2,h3,h4,h5⟩=>⟨p,_,h1,h2,.cons ⟨⟨ra,rfl,h3⟩,.nil⟩ (.cons ⟨⟨rb,rfl,h4⟩,.nil⟩ (.cons ⟨⟨rc,rfl,h5⟩,.cons rfl (.cons rfl .nil)⟩ .nil)),by simp⟩
 | .op _ _ _,_,⟨p,ra,rb,h1,h2,h3,h4⟩=>⟨p,_,h1,h2,.cons ⟨⟨ra,rfl,h3⟩,.nil⟩ (.cons ⟨⟨rb,rfl,h4⟩,.nil⟩ .nil),by simp⟩
noncomputable def Vf (K:W.Frag)(row:Nat × List Nat)(u:V):Prop:=∃ b c,u=.ref b/\KO K b [.int row.1,.ref c]/\KO K c (row.2.map λn:Nat=>V.int n)
noncomputable def KPl (K:W.Frag)(rows:List (Str × Value)):Prop:=∀ e:Ex,∃ a us,rowAt rows e.wd=some (.ref a)/\KO K a us/\Paired (Vf K) e.plc us
end L2
namespace KX
open PySem L2
inductive MS where
 | num (i:Int) | tru (b:Bool) | emp | nm (n:Nat) | fn (n:Nat) | rc (n:Nat) | pr | lk | op (o:Str) | call | back | lt | opn | drop (n:Nat) | jump (n:Nat) | wh (n:Nat) | spl (n:Nat) | fin
namespace MS
noncomputable def cnt:MS->List V
 | num i=>[.str "number",.int i] | tru b=>[.str "truth",.bl b] | emp=>[.str "empty"] | nm n=>[.str "name",.int n] | fn n=>[.str "fun",.int n] | rc n=>[.str "rec",.int n]
 | pr=>[.str "pair"] | lk=>[.str "link"] | op o=>[.str "op",.str o] | call=>[.str "call"] | back=>[.str "back"] | lt=>[.str "let"] | opn=>[.str "open"]
 | drop n=>[.str "drop",.int n] | jump n=>[.str "jump",.int n] | wh n=>[.str "when",.int n] | spl n=>[.str "split",.int n] | fin=>[.str "end"]
noncomputable def ok:MS->Prop
 | op o=>Ex.isOp o
 | _=>True
noncomputable def pl:MS->Nat
 | pr | lk=>1
 | _=>0
end MS
noncomputable def Dp:List MS->Nat
 | []=>0
 | s::r=>s.pl+Dp r
theorem Ba (a b:List MS):Dp (a++b)=Dp a+Dp b:=by
 induction a with
 | nil=>simp [Dp]
 | cons s r ih=>simp only [List.cons_append,Dp,ih];omega
end KX
namespace L2
open PySem PySem.Spec PyProof.Rows KS KX
noncomputable def JY (H:Hp)(s:MS)(r:V):Prop:=∃ p,r=.ref p/\H p=some (.tup s.cnt)
theorem JY.mono {H H':Hp}(t:Ay H H'){s:MS}{r:V}(h:JY H s r):JY H' s r:=by
 obtain ⟨p,h1,h2⟩:=h
 exact ⟨p,h1,t _ _ h2⟩
noncomputable def FZ (H:Hp)(l:Addr)(code:List MS):Prop:=∃ vs,H l=some (.lst vs)/\Paired (JY H) code vs
theorem FZ.mono {H H':Hp}(s:An H H'){l:Addr}{c:List MS}(h:FZ H l c):FZ H' l c:=by
 obtain ⟨vs,h1,h2⟩:=h
 exact ⟨vs,s _ _ h1,Paired.mapP h2 λ_ _ z=>z.mono (Ay.of_same s)⟩
structure oW (code:List MS)(n z:Nat):Prop where
 ok:∀ s∈code,s.ok
 np:Dp code<=n
 len:code.length<=3 * z
theorem Be {H:Hp}{Q:VK}{a b:Addr}{c d:List MS}(ha:FZ H a c)(hb:FZ H b d)(hn:c.length+d.length<=100000)(q:∀ p H2,H p=none->An H H2->FZ H2 p (c++d)->Q (.ref p) H2):LZ (.ref a) (.ref b) H Q:=by
 obtain ⟨xs,h1,h2⟩:=ha
 obtain ⟨ys,h3,h4⟩:=hb
 have l1:=Paired.len h2
 have l2:=Paired.len h4
 refine CI h1 h3 (BB ()) λp H2 hp s2 e2=>q p H2 hp s2 ⟨_,e2,Paired.app (Paired.mapP h2 λ_ _ z=>z.mono (Ay.of_same s2)) (Paired.mapP h4 λ_ _ z=>z.mono (Ay.of_same s2))⟩
theorem Dl {H:Hp}{p q:Addr}{s:MS}(h1:H p=some (.tup s.cnt))(h2:H q=some (.lst [.ref p])):FZ H q [s]:=⟨_,h2,.cons ⟨p,rfl,h1⟩ .nil⟩
theorem JZ {α β:Type}{F:α->β->Prop}{ms:List β}(h:Paired F [] ms):ms=[]:=by cases h;rfl
theorem DV {α β:Type}{F:α->β->Prop}{a:α}{ms:List β}(h:Paired F [a] ms):∃ x,ms=[x]/\F a x:=by
 cases h with
 | cons r t=>cases t;exact ⟨_,rfl,r⟩
theorem DB {α β:Type}{F:α->β->Prop}{a b:α}{ms:List β}(h:Paired F [a,b] ms):Dn λx y=>ms=[x,y]/\F a x/\F b y:=by
 cases h with
 | cons r t=>obtain ⟨y,rfl,h⟩:=DV t;exact ⟨_,y,rfl,r,h⟩
theorem Nu {α β:Type}{F:α->β->Prop}{a b c:α}{ms:List β}(h:Paired F [a,b,c] ms):EM λx y z=>ms=[x,y,z]/\F a x/\F b y/\F c z:=by
 cases h with
 | cons r t=>obtain ⟨y,z,rfl,h⟩:=DB t;exact ⟨_,y,z,rfl,r,h⟩
end L2
namespace HT
open PySem PySem.Spec PyProof.Rows
section
variable {prog:Program}{w:World}{A:Around}{E:Value->Shared->Prop}{s:Shared}
theorem cat_tup0 {t b:Addr}{vs ws:List Value}{Q:Value->Shared->Prop}(ht:IsTup s.heap t vs.toArray)(hb:IsTup s.heap b ws.toArray)(hv:vs=[])(h1:Q (.ref b) s):wpAny (model prog w) A (binaryOp .Add (.ref t) (.ref b)) Q E s:=by
 obtain ⟨⟨cls,dd,data,sl⟩,ho,hc,n,hd⟩:=id ht
 obtain ⟨⟨zj,lP,data2,lQ⟩,ZH,Hk,n2,hd2⟩:=id hb
 simp only at hc hd Hk hd2
 subst hc hd Hk hd2
 exact concat_meets ⟨_,ho,rfl⟩ ⟨_,ZH,rfl⟩ noFill_tuple_add seq_tuple_add PySem.F.slot_tuple_add PySem.F.entry_tuple_add (PySem.F.args_tuple_add_2 _ _)
   (tuple_addW0 t b vs.toArray ws.toArray n n2 dd lP sl lQ (by simp [hv])) ⟨ho,ZH,h1⟩
theorem getItem_tuple_whole {t sl:Addr}{items:Array Value}{vl vu:Value}{lo hi:Option Int}{Q:Value->Shared->Prop}(ht:IsTup s.heap t items)(hs:s.heap.IsSliceOf sl vl vu .none)(pl:IsPart vl lo)(pu:IsPart vu hi)
  (hw:sIx items.size 0 lo=0/\sIx items.size items.size hi=items.size) (h:Q (.ref t) s):wpAny (model prog w) A (getItem (.ref t) (.ref sl)) Q E s:=by
 obtain ⟨os,Uv,xu,nO⟩:=id hs
 have lR:s.TypeIs (.ref sl) "slice":=⟨os,Uv,xu⟩
 unfold getItem
 try with_reducible refine wpAny_holding ?_
 first | refine wpAny_bind (wpAny_pure ?_) | skip
 refine wpAny_bind (wpAny_sequenceKey ht.typeIs ⟨⟩ ?_)
 refine wpAny_bind (wpAny_callSpecial?_slot (name:=Str.ofString "__getitem__") ht.typeIs PyProof.Rows.slot_tuple_getitem
  (wpAny_call_entry PyProof.Rows.slot_tuple_getitem ht.typeIs entry_tuple_getitem ?_ (args_tuple_getitem _ _)))
 show wpAny _ _ (Builtin.Tuple.tupleItemsOf (.ref t) >>= _) _ _ s
 refine wpAny_bind (tupleItemsOf_ ht ?_)
 refine wpAny_bind (wpAny_typeOf lR ?_)
 rw [if_pos ⟨⟩]
 refine wpAny_bind (El hs pl pu ?_)
 have Aa3:(((sIx items.size 0 lo:Nat):Int)==0 && (1:Int)==1 && (sIx items.size items.size hi - sIx items.size 0 lo)==items.size)=true:=by
  rw [hw.1,hw.2];simp
 show wpAny _ _ (if (((sIx items.size 0 lo:Nat):Int)==0 && (1:Int)==1 && (sIx items.size items.size hi - sIx items.size 0 lo)==items.size)=true then _ else _) _ _ s
 rw [if_pos Aa3]
 refine wpAny_bind (m:=Builtin.Tuple.tupleIsExact (.ref t)) ?_
 unfold Builtin.Tuple.tupleIsExact
 refine wpAny_bind (wpAny_typeOf ht.typeIs (wpAny_pure ?_))
 refine wpAny_ite_split (λ_=>?_) (λVc=>absurd ⟨⟩ Vc)
 refine wpAny_bind (wpAny_rule ?_)
 first
  | exact wpAny_bind (wpAny_pure ⟨_,rfl,wpAny_pure h⟩)
  | exact wpAny_pure ⟨_,rfl,wpAny_pure h⟩
  | exact wpAny_bind (wpAny_pure (wpAny_pure ⟨_,rfl,wpAny_pure h⟩))
  | exact wpAny_pure (wpAny_pure ⟨_,rfl,wpAny_pure h⟩)
end
end HT
namespace L2
open PySem PySem.Spec PyProof.Rows KS KX
section
variable {X:Cx}
noncomputable def Rm:R2:=λx y H Q=>Lu λa b xs ys=>x=.ref a/\y=.ref b/\H a=some (.tup xs)/\H b=some (.tup ys)/\xs.length+ys.length<=sizeLine/\∀ p H',An H H'->H' p=some (.tup (xs++ys))->Q (.ref p) H'
theorem KP:EN X (binaryOp .Add) Rm:=by
 intro pins s σ H x y v u Q I rx ry h
 obtain ⟨a,b,xs,ys,rfl,rfl,ha,hb,hz,q⟩:=h
 cases xs with
 | nil =>
  cases rx
  cases ry
  obtain ⟨its,r1,p1,_⟩:=I.tuple (AJ.of (K:=X.K) ha)
  obtain ⟨II,r2,p2,_⟩:=I.tuple (AJ.of (K:=X.K) hb)
  exact HT.cat_tup0 p1 p2 (r1.nil_iff.mpr rfl) ⟨.ref b,H,I,rfl,q b H (An.refl _) hb⟩
 | cons z zs=>exact N9 pins s σ H _ _ v u Q I rx ry ⟨a,b,z::zs,ys,rfl,rfl,AJ.of ha,AJ.of hb,by simp,hz,λe=>by subst e;exact q a H (An.refl _) (by rw [List.append_nil];exact ha),λ_ p hp=>q p _ (An.new hp) Ap⟩
noncomputable def oX:V->Option Int->Option Int->Hp->VK->Prop:=λx lo hi H Q=>Dn λa xs=>x=.ref a/\H a=some (.tup xs)/\∀ p H',An H H'->H' p=some (.tup (D2 xs lo hi))->Q (.ref p) H'
theorem Vg:nQ X oX:=by
 intro pins s σ H x v vl vu lo hi sl Q I rx hs pl pu h
 obtain ⟨a,xs,rfl,hx,q⟩:=h
 by_cases hw:HT.sIx xs.length 0 lo=0/\HT.sIx xs.length xs.length hi=xs.length
 ·cases rx
  obtain ⟨its,r,ht,hz⟩:=I.tuple (AJ.of (K:=X.K) hx)
  have hlen:its.toArray.size=xs.length:=by rw [List.size_toArray];exact r.length.symm
  refine ⟨"tuple",_,PyProof.Rows.slot_tuple_getitem.lookup,ht.typeIs,?_⟩
  refine HT.getItem_tuple_whole ht hs pl pu (by rw [hlen];exact hw) ⟨.ref a,H,I,rfl,q a H (An.refl _) ?_⟩
  have:D2 xs lo hi=xs:=by unfold D2;rw [hw.1,hw.2];simp
  rw [this];exact hx
 ·exact LU pins s σ H _ v vl vu lo hi sl Q I rx hs pl pu ⟨a,xs,rfl,AJ.of hx,hw,λp hp=>q p _ (An.new hp) Ap⟩
noncomputable def Aa4:R2:=λx y H Q=>Iv8 λ(p r:Addr) (a b:Str) (q:Addr) (us ts:List V) (c:Bool)=>x=.ref p/\y=.ref r/\H p=some (.tup (.str a::.ref q::us))/\H q=some (.tup ts)/\H r=some (.tup [.str b,.bl c])/\a≠b/\Q (.bl false) H
theorem aR (hu:X.A.units+64 < cLine):EN X (compareOp .Eq) Aa4:=by
 intro pins s σ H x y v u Q I rx ry h
 obtain ⟨p,r,a,b,q,us,ts,c,rfl,rfl,hp,hq,hr,Vc,k⟩:=h
 cases rx
 cases ry
 obtain ⟨i1,r1,p1,_⟩:=I.tuple (AJ.of (K:=X.K) hp)
 obtain ⟨i2,r2,p2,_⟩:=I.tuple (AJ.of (K:=X.K) hr)
 obtain ⟨i3,r3,p3,_⟩:=I.tuple (AJ.of (K:=X.K) hq)
 cases r1 with | cons ra r1=>cases r1 with | cons rq r1 =>
 cases r2 with | cons rb r2=>cases r2 with | cons rc r2 =>
 cases r2
 obtain ⟨ta,rfl⟩:=ra
 obtain ⟨tb,rfl⟩:=rb
 cases rq
 cases rc
 have hb:(a==b)=false:=by simpa using Vc
 have hu1:X.A.in1.units < cLine:=by
  simp only [Around.in1_units];omega
 refine PySem.SeqAt.eq_tupleAt (e:=λ_=>false) p1 p2 () (λj h1 h2=>?_) (B6 I k ?_)
 ·cases j with
  | zero =>
   have:=PySem.SeqAt.EqAt.str_str (A:=X.A.in1) (s:=s) a ta b tb
   rw [hb] at this
   exact this
  | succ j=>cases j with
   | zero=>exact PySem.SeqAt.EqAt.tuple_bool c p3 hu1
   | succ j=>simp at h2;omega
 ·have e2:∀ (l:List Value) (x y z t:Value),min (x::y::l).toArray.size [z,t].toArray.size=2:=λl x y z t=>by simp
  rw [e2]
  rfl
end
end L2
section
local macro_rules | `(tactic| omega)=>`(tactic| lia)
namespace KX
open PySem L2
inductive MV where
 | num (i:Int) | tru (b:Bool) | emp | fn (r:Bool) (p:Nat) (h:List MV) | two (l:Bool) (a b:MV)
mutual
noncomputable def Gd:MV->Nat
 | .num _ | .tru _ | .emp=>0
 | .fn _ _ h=>OS h
 | .two _ a b=>1+max (Gd a) (Gd b)
noncomputable def OS:List MV->Nat
 | []=>0
 | v::r=>max (Gd v) (OS r)
end
mutual
noncomputable def F':MV->Nat
 | .num _ | .tru _ | .emp=>0
 | .fn _ _ h=>max h.length (OU h)
 | .two _ a b=>max (F' a) (F' b)
noncomputable def OU:List MV->Nat
 | []=>0
 | v::r=>max (F' v) (OU r)
end
theorem J' {h:List MV}{n:Nat}:OS h<=n↔∀ v∈h,Gd v<=n:=by
 induction h with
 | nil=>simp [OS]
 | cons v r ih=>simp only [OS,List.mem_cons,forall_eq_or_imp,<- ih];omega
theorem K0 {h:List MV}{n:Nat}:OU h<=n↔∀ v∈h,F' v<=n:=by
 induction h with
 | nil=>simp [OU]
 | cons v r ih=>simp only [OU,List.mem_cons,forall_eq_or_imp,<- ih];omega
structure Ma where
 at':Nat
 calls:Nat
 pile:List MV
 held:List MV
 frs:List (Nat × List MV)
inductive Rs where
 | go (s:Ma) | stuck | told (v:MV)
noncomputable def DQ (o:Str)(i j:Int):MV :=
 if o="plus" then .num (i+j) else if o="minus" then .num (i - j) else if o="less" then .tru (decide (i < j)) else .tru (decide (i=j))
noncomputable def exec:MS->Ma->Rs
 | .num i,s=>.go { s with at':=s.at'+1,pile:=.num i::s.pile }
 | .tru b,s=>.go { s with at':=s.at'+1,pile:=.tru b::s.pile }
 | .emp,s=>.go { s with at':=s.at'+1,pile:=.emp::s.pile }
 | .nm n,s=>match (if n < s.held.length then s.held[s.held.length - 1 - n]? else none) with
  | some v=>.go { s with at':=s.at'+1,pile:=v::s.pile }
  | none=>.stuck
 | .fn n,s=>.go { s with at':=s.at'+1+n,pile:=.fn false (s.at'+1) s.held::s.pile }
 | .rc n,s=>.go { s with at':=s.at'+1+n,pile:=.fn true (s.at'+1) s.held::s.pile }
 | .pr,s=>match s.pile with
  | b::a::r=>.go { s with at':=s.at'+1,pile:=.two false a b::r }
  | _=>.stuck
 | .lk,s=>match s.pile with
  | b::a::r=>.go { s with at':=s.at'+1,pile:=.two true a b::r }
  | _=>.stuck
 | .op o,s=>match s.pile with
  | .num j::.num i::r=>.go { s with at':=s.at'+1,pile:=DQ o i j::r }
  | _=>.stuck
 | .call,s=>match s.pile with
  | v::.fn r a h::p=>.go ⟨a,s.calls+1,p,h++(if r then [.fn r a h,v] else [v]),(s.at'+1,s.held)::s.frs⟩
  | _=>.stuck
 | .back,s=>match s.frs with
  | (a,h)::r=>.go ⟨a,s.calls,s.pile,h,r⟩
  | []=>.stuck
 | .lt,s=>match s.pile with
  | v::p=>.go { s with at':=s.at'+1,pile:=p,held:=s.held++[v] }
  | []=>.stuck
 | .opn,s=>match s.pile with
  | .two false a b::p=>.go { s with at':=s.at'+1,pile:=p,held:=s.held++[a,b] }
  | _=>.stuck
 | .drop n,s=>if n<=s.held.length then .go { s with at':=s.at'+1,held:=s.held.take (s.held.length - n) } else .stuck
 | .jump n,s=>.go { s with at':=s.at'+1+n }
 | .wh n,s=>match s.pile with
  | .tru b::p=>.go { s with at':=if b then s.at'+1 else s.at'+1+n,pile:=p }
  | _=>.stuck
 | .spl n,s=>match s.pile with
  | .emp::p=>.go { s with at':=s.at'+1,pile:=p }
  | .two true a b::p=>.go { s with at':=s.at'+1+n,pile:=p,held:=s.held++[a,b] }
  | _=>.stuck
 | .fin,s=>match s.pile with
  | v::_=>.told v
  | []=>.stuck
noncomputable def step (code:List MS)(s:Ma):Rs:=match code[s.at']? with
 | some st=>exec st s
 | none=>.stuck
inductive Out where
 | none | stuck | told (v:MV) (c:Nat)
inductive Ends (code:List MS)(most:Nat):Nat->Ma->Out->Prop
 | over {s:Ma}:most < s.calls->Ends code most 0 s .none
 | stuck {s:Ma}:s.calls<=most->step code s=.stuck->Ends code most 0 s .stuck
 | told {s:Ma} {v:MV}:s.calls<=most->step code s=.told v->Ends code most 0 s (.told v s.calls)
 | go {n:Nat} {s s':Ma} {o:Out}:s.calls<=most->step code s=.go s'->Ends code most n s' o->Ends code most (n+1) s o
noncomputable def oY (L:Nat):List (Nat × List MV)->Nat
 | []=>0
 | f::r=>(L - f.1+1)+oY L r
noncomputable def Ma.mu (L most:Nat)(s:Ma):Nat:=(most+1 - s.calls) * (L+2)+(L - s.at')+oY L s.frs
noncomputable def oZ (code:List MS):List (Nat × List MV)->Nat
 | []=>0
 | f::r=>Dp (code.drop f.1)+oZ code r
noncomputable def Ma.pot (code:List MS)(most:Nat)(s:Ma):Nat:=(most - s.calls) * Dp code+Dp (code.drop s.at')+oZ code s.frs
theorem KQ (code:List MS)(n:Nat):Dp (code.drop n)<=Dp code:=by
 have:=Ba (code.take n) (code.drop n)
 rw [List.take_append_drop] at this
 omega
theorem Hg (code:List MS){n m:Nat}(h:n<=m):Dp (code.drop m)<=Dp (code.drop n):=by
 have:code.drop m=(code.drop n).drop (m - n):=by rw [List.drop_drop];congr 1;omega
 rw [this]
 exact KQ _ _
theorem aT {code:List MS}{n:Nat}{st:MS}(h:code[n]?=some st):Dp (code.drop n)=st.pl+Dp (code.drop (n+1)):=by
 obtain ⟨hl,e⟩:=List.getElem?_eq_some_iff.mp h
 rw [List.drop_eq_getElem_cons hl,e]
 rfl
structure Good (code:List MS)(most B B2:Nat)(s:Ma):Prop where
 ex:Dn λD Hm=>(∀ v∈s.pile,Gd v<=D/\F' v<=Hm)/\(∀ v∈s.held,Gd v<=D/\F' v<=Hm)/\(∀ f∈s.frs,f.2.length<=Hm/\∀ v∈f.2,Gd v<=D/\F' v<=Hm)/\s.held.length<=Hm /\
  D+s.pot code most<=B/\Hm+2 * s.mu code.length most<=B2
 pl:s.pile.length+s.mu code.length most<=B2
 fr:s.frs.length<=s.calls
theorem Good.loc {code:List MS}{most B B2:Nat}{s s':Ma}(G:Good code most B B2 s)(k:Nat)(Rn:s.at' < code.length)(h1:s.at' < s'.at')(hc:s'.calls=s.calls)(hf:s'.frs=s.frs)
  (hn:Dp (code.drop s'.at')+k<=Dp (code.drop s.at')) (hp:s'.pile.length<=s.pile.length+1) (hh:s'.held.length<=s.held.length+2)
  (hv:∀ D Hm,(∀ v∈s.pile,Gd v<=D/\F' v<=Hm)->(∀ v∈s.held,Gd v<=D/\F' v<=Hm)->s.held.length<=Hm->(∀ v∈s'.pile,Gd v<=D+k/\F' v<=Hm)/\∀ v∈s'.held,Gd v<=D+k/\F' v<=Hm) :
  Good code most B B2 s'/\s'.mu code.length most < s.mu code.length most:=by
 obtain ⟨⟨D,Hm,g1,g2,g3,g4,g5,g6⟩,g7,g8⟩:=G
 have mu:s'.mu code.length most < s.mu code.length most:=by
  unfold Ma.mu
  rw [hc,hf]
  omega
 obtain ⟨v1,v2⟩:=hv D Hm g1 g2 g4
 refine ⟨⟨⟨D+k,Hm+2,λv h=>⟨(v1 v h).1,by have:=(v1 v h).2;omega⟩,λv h=>⟨(v2 v h).1,by have:=(v2 v h).2;omega⟩,λf h=>?_,(),?_,()⟩,(),by rw [hc,hf];exact g8⟩,mu⟩
 ·rw [hf] at h
  obtain ⟨a,b⟩:=g3 f h
  exact ⟨(),λv hv=>⟨by have:=(b v hv).1;omega,by have:=(b v hv).2;omega⟩⟩
 ·have e:s'.pot code most+k<=s.pot code most:=by
   unfold Ma.pot
   rw [hc,hf]
   omega
  omega
theorem Good.step {code:List MS}{most B B2:Nat}{s s':Ma}(G:Good code most B B2 s)(hc:s.calls<=most)(h:step code s=.go s'):(s'.calls<=most->Good code most B B2 s')/\s'.mu code.length most < s.mu code.length most:=by
 unfold KX.step at h
 cases e:code[s.at']? with
 | none=>rw [e] at h;cases h
 | some st =>
  rw [e] at h
  have Rn:=(List.getElem?_eq_some_iff.mp e).1
  have np:=aT e
  have h:exec st s=.go s':=h
  have nd:∀ n,Dp (code.drop (s.at'+1+n))<=Dp (code.drop (s.at'+1)):=λn=>Hg code ()
  have loc:=λ(k:Nat)=>Good.loc (s':=s') G k Rn
  cases st with
  | num i =>
   cases h
   have:=loc 0 (by simp) rfl rfl (by simp only;omega) (by simp) (by simp) λD Hm a b c=>⟨λv hv=>by
    rcases List.mem_cons.mp hv with rfl | hv
    ·simp [Gd,F']
    ·exact a v hv,b⟩
   exact ⟨λ_=>this.1,this.2⟩
  | tru i =>
   cases h
   have:=loc 0 (by simp) rfl rfl (by simp only;omega) (by simp) (by simp) λD Hm a b c=>⟨λv hv=>by
    rcases List.mem_cons.mp hv with rfl | hv
    ·simp [Gd,F']
    ·exact a v hv,b⟩
   exact ⟨λ_=>this.1,this.2⟩
  | emp =>
   cases h
   have:=loc 0 (by simp) rfl rfl (by simp only;omega) (by simp) (by simp) λD Hm a b c=>⟨λv hv=>by
    rcases List.mem_cons.mp hv with rfl | hv
    ·simp [Gd,F']
    ·exact a v hv,b⟩
   exact ⟨λ_=>this.1,this.2⟩
  | nm n =>
   simp only [exec] at h
   split at h
   ·rename_i v0 e0
    cases h
    split at e0
    ·have hm:=List.mem_of_getElem? e0
     have:=loc 0 (by simp) rfl rfl (by simp only;omega) (by simp) (by simp) λD Hm a b c=>⟨λv hv=>by
      rcases List.mem_cons.mp hv with rfl | hv
      ·exact b _ hm
      ·exact a v hv,b⟩
     exact ⟨λ_=>this.1,this.2⟩
    ·cases e0
   ·cases h
  | fn n =>
   cases h
   have:=loc 0 (by simp only;omega) rfl rfl (by simp only;have:=nd n;omega) (by simp) (by simp) λD Hm a b c=>⟨λv hv=>by
    rcases List.mem_cons.mp hv with rfl | hv
    ·simp only [Gd,F',Nat.add_zero]
     exact ⟨J'.mpr λv hv=>(b v hv).1,Nat.max_le.mpr ⟨c,K0.mpr λv hv=>(b v hv).2⟩⟩
    ·exact a v hv,b⟩
   exact ⟨λ_=>this.1,this.2⟩
  | rc n =>
   cases h
   have:=loc 0 (by simp only;omega) rfl rfl (by simp only;have:=nd n;omega) (by simp) (by simp) λD Hm a b c=>⟨λv hv=>by
    rcases List.mem_cons.mp hv with rfl | hv
    ·simp only [Gd,F',Nat.add_zero]
     exact ⟨J'.mpr λv hv=>(b v hv).1,Nat.max_le.mpr ⟨c,K0.mpr λv hv=>(b v hv).2⟩⟩
    ·exact a v hv,b⟩
   exact ⟨λ_=>this.1,this.2⟩
  | pr =>
   simp only [exec] at h
   split at h
   ·rename_i b0 a0 r0 e0
    cases h
    have:=loc 1 (by simp) rfl rfl (by simp only [MS.pl] at np;simp only;omega) (by rw [e0];simp <;> omega) (by simp) λD Hm a b c=>⟨λv hv=>by
     rw [e0] at a
     rcases List.mem_cons.mp hv with rfl | hv
     ·have h1:=a b0 (.head _)
      have h2:=a a0 (.tail _ (.head _))
      simp only [Gd,F'];omega
     ·have:=a v (.tail _ (.tail _ hv));omega,λv hv=>by have:=b v hv;omega⟩
    exact ⟨λ_=>this.1,this.2⟩
   ·cases h
  | lk =>
   simp only [exec] at h
   split at h
   ·rename_i b0 a0 r0 e0
    cases h
    have:=loc 1 (by simp) rfl rfl (by simp only [MS.pl] at np;simp only;omega) (by rw [e0];simp <;> omega) (by simp) λD Hm a b c=>⟨λv hv=>by
     rw [e0] at a
     rcases List.mem_cons.mp hv with rfl | hv
     ·have h1:=a b0 (.head _)
      have h2:=a a0 (.tail _ (.head _))
      simp only [Gd,F'];omega
     ·have:=a v (.tail _ (.tail _ hv));omega,λv hv=>by have:=b v hv;omega⟩
    exact ⟨λ_=>this.1,this.2⟩
   ·cases h
  | op o =>
   simp only [exec] at h
   split at h
   ·rename_i j0 i0 r0 e0
    cases h
    have:=loc 0 (by simp) rfl rfl (by simp only;omega) (by rw [e0];simp <;> omega) (by simp) λD Hm a b c=>⟨λv hv=>by
     rw [e0] at a
     rcases List.mem_cons.mp hv with rfl | hv
     ·have:Gd (DQ o i0 j0)=0/\F' (DQ o i0 j0)=0:=by
       unfold DQ
       split
       ·exact ⟨rfl,rfl⟩
       ·split
        ·exact ⟨rfl,rfl⟩
        ·split <;> exact ⟨rfl,rfl⟩
      omega
     ·have:=a v (.tail _ (.tail _ hv));omega,λv hv=>by have:=b v hv;omega⟩
    exact ⟨λ_=>this.1,this.2⟩
   ·cases h
  | call =>
   simp only [exec] at h
   split at h
   ·rename_i v0 r0 a0 h0 p0 e0
    cases h
    obtain ⟨⟨D,Hm,g1,g2,g3,g4,g5,g6⟩,g7,g8⟩:=G
    have mu:Ma.mu code.length most ⟨a0,s.calls+1,p0,h0++(if r0=true then [.fn r0 a0 h0,v0] else [v0]),(s.at'+1,s.held)::s.frs⟩ < s.mu code.length most:=by
     unfold Ma.mu
     simp only [oY]
     have e1:(most+1 - s.calls)=(most+1 - (s.calls+1))+1:=by omega
     rw [e1,Nat.add_mul]
     omega
    refine ⟨λU4=>?_,mu⟩
    rw [e0] at g1
    have gv:=g1 v0 (.head _)
    have gf:=g1 (.fn r0 a0 h0) (.tail _ (.head _))
    have gf1:OS h0<=D:=gf.1
    have gf2:max h0.length (OU h0)<=Hm:=gf.2
    have hl:(h0++(if r0=true then [MV.fn r0 a0 h0,v0] else [v0])).length<=Hm+2:=by
     rw [List.length_append]
     split <;> simp <;> omega
    refine ⟨⟨D,Hm+2,λv hv=>?_,λv hv=>?_,λf hf=>?_,hl,?_,()⟩,?_,?_⟩
    ·have:=g1 v (.tail _ (.tail _ hv));omega
    ·rcases List.mem_append.mp hv with hv | hv
     ·exact ⟨J'.mp gf1 v hv,Nat.le_trans (K0.mp (Nat.le_trans (Nat.le_max_right _ _) gf2) v hv) ()⟩
     ·split at hv
      ·simp only [List.mem_cons,List.not_mem_nil,or_false] at hv
       rcases hv with rfl | rfl
       ·exact ⟨gf.1,by have:=gf.2;omega⟩
       ·exact ⟨gv.1,by have:=gv.2;omega⟩
      ·rw [List.mem_singleton.mp hv]
       exact ⟨gv.1,by have:=gv.2;omega⟩
    ·rcases List.mem_cons.mp hf with rfl | hf
     ·exact ⟨by simp only;omega,λv hv=>by have:=g2 v hv;omega⟩
     ·obtain ⟨a,b⟩:=g3 f hf
      exact ⟨(),λv hv=>by have:=b v hv;omega⟩
    ·have e:Ma.pot code most ⟨a0,s.calls+1,p0,h0++(if r0=true then [.fn r0 a0 h0,v0] else [v0]),(s.at'+1,s.held)::s.frs⟩<=s.pot code most:=by
      unfold Ma.pot
      simp only [oZ]
      have Hk:s.calls+1<=most:=U4
      have e1:(most - s.calls)=(most - (s.calls+1))+1:=by omega
      have e2:=KQ code a0
      have e3:=nd 0
      rw [e1,Nat.add_mul]
      simp only [Nat.add_zero] at e3
      omega
     omega
    ·rw [e0] at g7;simp at g7;simp only;omega
    ·simp;omega
   ·cases h
  | back =>
   simp only [exec] at h
   split at h
   ·rename_i a0 h0 r0 e0
    cases h
    obtain ⟨⟨D,Hm,g1,g2,g3,g4,g5,g6⟩,g7,g8⟩:=G
    have mu:Ma.mu code.length most ⟨a0,s.calls,s.pile,h0,r0⟩ < s.mu code.length most:=by
     unfold Ma.mu
     rw [e0]
     simp only [oY]
     omega
    refine ⟨λU4=>?_,mu⟩
    rw [e0] at g3
    obtain ⟨f1,f2⟩:=g3 (a0,h0) (.head _)
    refine ⟨⟨D,Hm,g1,f2,λf hf=>g3 f (.tail _ hf),f1,?_,()⟩,by simp only;omega,by rw [e0] at g8;simp at g8;simp only;omega⟩
    have e:Ma.pot code most ⟨a0,s.calls,s.pile,h0,r0⟩<=s.pot code most:=by
     unfold Ma.pot
     rw [e0]
     simp only [oZ]
     omega
    omega
   ·cases h
  | lt =>
   simp only [exec] at h
   split at h
   ·rename_i v0 p0 e0
    cases h
    have:=loc 0 (by simp) rfl rfl (by simp only;omega) (by rw [e0];simp <;> omega) (by simp) λD Hm a b c=>⟨λv hv=>by rw [e0] at a;exact a v (.tail _ hv),λv hv=>by
     rw [e0] at a
     rcases List.mem_append.mp hv with hv | hv
     ·exact b v hv
     ·rw [List.mem_singleton.mp hv];exact a v0 (.head _)⟩
    exact ⟨λ_=>this.1,this.2⟩
   ·cases h
  | opn =>
   simp only [exec] at h
   split at h
   ·rename_i a0 b0 p0 e0
    cases h
    have:=loc 0 (by simp) rfl rfl (by simp only;omega) (by rw [e0];simp <;> omega) (by simp) λD Hm a b c=>⟨λv hv=>by rw [e0] at a;exact a v (.tail _ hv),λv hv=>by
     rw [e0] at a
     have:=a _ (.head _)
     simp only [Gd,F'] at this
     rcases List.mem_append.mp hv with hv | hv
     ·exact b v hv
     ·simp only [List.mem_cons,List.not_mem_nil,or_false] at hv
      rcases hv with rfl | rfl <;> omega⟩
    exact ⟨λ_=>this.1,this.2⟩
   ·cases h
  | drop n =>
   simp only [exec] at h
   split at h
   ·cases h
    have:=loc 0 (by simp) rfl rfl (by simp only;omega) (by simp) (by simp;omega) λD Hm a b c=>⟨a,λv hv=>b v (List.mem_of_mem_take hv)⟩
    exact ⟨λ_=>this.1,this.2⟩
   ·cases h
  | jump n =>
   cases h
   have:=loc 0 (by simp only;omega) rfl rfl (by simp only;have:=nd n;omega) (by simp) (by simp) λD Hm a b c=>⟨a,b⟩
   exact ⟨λ_=>this.1,this.2⟩
  | wh n =>
   simp only [exec] at h
   split at h
   ·rename_i b0 p0 e0
    cases h
    have:=loc 0 (by simp only;split <;> omega) rfl rfl (by simp only;have:=nd n;split <;> omega) (by rw [e0];simp <;> omega) (by simp) λD Hm a b c=>⟨λv hv=>by rw [e0] at a;exact a v (.tail _ hv),b⟩
    exact ⟨λ_=>this.1,this.2⟩
   ·cases h
  | spl n =>
   simp only [exec] at h
   split at h
   ·rename_i p0 e0
    cases h
    have:=loc 0 (by simp) rfl rfl (by simp only;omega) (by rw [e0];simp <;> omega) (by simp) λD Hm a b c=>⟨λv hv=>by rw [e0] at a;exact a v (.tail _ hv),b⟩
    exact ⟨λ_=>this.1,this.2⟩
   ·rename_i a0 b0 p0 e0
    cases h
    have:=loc 0 (by simp only;omega) rfl rfl (by simp only;have:=nd n;omega) (by rw [e0];simp <;> omega) (by simp) λD Hm a b c=>⟨λv hv=>by rw [e0] at a;exact a v (.tail _ hv),λv hv=>by
     rw [e0] at a
     have:=a _ (.head _)
     simp only [Gd,F'] at this
     rcases List.mem_append.mp hv with hv | hv
     ·exact b v hv
     ·simp only [List.mem_cons,List.not_mem_nil,or_false] at hv
      rcases hv with rfl | rfl <;> omega⟩
    exact ⟨λ_=>this.1,this.2⟩
   ·cases h
  | fin =>
   simp only [exec] at h
   split at h <;> cases h
theorem ends (code:List MS)(most B B2:Nat):∀ (m:Nat) (s:Ma),s.mu code.length most<=m->(s.calls<=most->Good code most B B2 s)->Dn λn o=>Ends code most n s o/\∀ v c,o=.told v c->Gd v<=B:=by
 intro m
 induction m with
 | zero =>
  intro s hm hG
  by_cases hc:most < s.calls
  ·exact ⟨0,.none,.over hc,λv c e=>by cases e⟩
  ·exfalso
   have:s.mu code.length most ≥ 1:=by
    unfold Ma.mu
    have:1 * 1<=(most+1 - s.calls) * (code.length+2):=Nat.mul_le_mul () ()
    omega
   omega
 | succ m ih =>
  intro s hm hG
  by_cases hc:most < s.calls
  ·exact ⟨0,.none,.over hc,λv c e=>by cases e⟩
  ·have hc:s.calls<=most:=by omega
   have G:=hG hc
   cases e:step code s with
   | stuck=>exact ⟨0,.stuck,.stuck hc e,λv c e=>by cases e⟩
   | told v =>
    refine ⟨0,.told v s.calls,.told hc e,λv' c' e'=>?_⟩
    cases e'
    obtain ⟨⟨D,Hm,g1,_,_,_,g5,_⟩,_⟩:=G
    have hv:v∈s.pile:=by
     unfold KX.step at e
     split at e
     ·rename_i st _
      cases st <;> simp only [exec] at e <;> (try cases e) <;> (try (split at e <;> (try cases e)))
      rename_i e0
      rw [e0];exact .head _
     ·cases e
    have:=(g1 v hv).1
    omega
   | go s' =>
    obtain ⟨h1,h2⟩:=G.step hc e
    obtain ⟨n,o,h3,h4⟩:=ih s' () h1
    exact ⟨n+1,o,.go hc e h3,h4⟩
noncomputable def tw:Bool->Str
 | false=>"pair"
 | true=>"link"
noncomputable def fw:Bool->Str
 | false=>"fun"
 | true=>"rec"
noncomputable def Ms:MV->Str
 | .num _=>"number" | .tru _=>"truth" | .emp=>"empty" | .fn _ _ _=>"fun" | .two l _ _=>tw l
end KX
namespace L2
open PySem PySem.Spec PyProof.Rows KS KX
noncomputable def D3 (H:Hp):MV->V->Prop
 | .num i,r=>∃ p,r=.ref p/\H p=some (.tup [.str "number",.int i])
 | .tru b,r=>∃ p,r=.ref p/\H p=some (.tup [.str "truth",.bl b])
 | .emp,r=>∃ p,r=.ref p/\H p=some (.tup [.str "empty"])
 | .fn _ _ _,r=>∃ p,r=.ref p/\H p=some (.tup [.str "fun"])
 | .two l a b,r=>EM λp ra rb=>r=.ref p/\H p=some (.tup [.str (tw l),ra,rb])/\D3 H a ra/\D3 H b rb
theorem D3.mono {H H':Hp}(s:Ay H H'):∀ {v:MV} {r:V},D3 H v r->D3 H' v r
 | .num _,_,⟨p,h1,h2⟩=>⟨p,h1,s _ _ h2⟩
 | .tru _,_,⟨p,h1,h2⟩=>⟨p,h1,s _ _ h2⟩
 | .emp,_,⟨p,h1,h2⟩=>⟨p,h1,s _ _ h2⟩
 | .fn _ _ _,_,⟨p,h1,h2⟩=>⟨p,h1,s _ _ h2⟩
 | .two _ _ _,_,⟨p,ra,rb,h1,h2,h3,h4⟩=>⟨p,ra,rb,h1,s _ _ h2,D3.mono s h3,D3.mono s h4⟩
theorem D3.look {H:Hp}:∀ {v:MV} {r:V},D3 H v r->Dn λp us=>r=.ref p/\H p=some (.tup (.str (Ms v)::us))/\us.length<=2
 | .num _,_,⟨p,h1,h2⟩=>⟨p,_,h1,h2,by simp⟩
 | .tru _,_,⟨p,h1,h2⟩=>⟨p,_,h1,h2,by simp⟩
 | .emp,_,⟨p,h1,h2⟩=>⟨p,_,h1,h2,by simp⟩
 | .fn _ _ _,_,⟨p,h1,h2⟩=>⟨p,_,h1,h2,by simp⟩
 | .two _ _ _,_,⟨p,ra,rb,h1,h2,h3,h4⟩=>⟨p,_,h1,h2,by simp⟩
mutual
noncomputable def GA (H:Hp):MV->V->Prop
 | .num i,r=>EM λp s q=>r=.ref p/\H p=some (.tup [s,.ref q])/\D3 H (.num i) s/\H q=some (.tup [])
 | .tru b,r=>EM λp s q=>r=.ref p/\H p=some (.tup [s,.ref q])/\D3 H (.tru b) s/\H q=some (.tup [])
 | .emp,r=>EM λp s q=>r=.ref p/\H p=some (.tup [s,.ref q])/\D3 H .emp s/\H q=some (.tup [])
 | .fn c a h,r=>U0 λp s q k us=>r=.ref p/\H p=some (.tup [s,.ref q])/\D3 H (.fn c a h) s/\H q=some (.tup [.int a,.ref k,.bl c])/\H k=some (.tup us)/\KU H h us
 | .two l a b,r=>U0 λp s q ra rb=>r=.ref p/\H p=some (.tup [s,.ref q])/\D3 H (.two l a b) s/\H q=some (.tup [ra,rb])/\GA H a ra/\GA H b rb
noncomputable def KU (H:Hp):List MV->List V->Prop
 | [],[]=>True
 | v::vs,r::rs=>GA H v r/\KU H vs rs
 | _,_=>False
end
theorem Ge {H:Hp}:∀ {vs:List MV} {rs:List V},KU H vs rs↔Paired (GA H) vs rs
 | [],[]=>⟨λ_=>.nil,λ_=>trivial⟩
 | [],_::_=>⟨λh=>h.elim,λh=>by cases h⟩
 | _::_,[]=>⟨λh=>h.elim,λh=>by cases h⟩
 | v::vs,r::rs=>⟨λh=>.cons h.1 (Ge.mp h.2),λh=>by cases h with | cons a b=>exact ⟨a,Ge.mpr b⟩⟩
mutual
theorem GA.mono {H H':Hp}(s:Ay H H'):∀ {v:MV} {r:V},GA H v r->GA H' v r
 | .num _,_,⟨p,z,q,h1,h2,h3,h4⟩=>⟨p,z,q,h1,s _ _ h2,D3.mono s h3,s _ _ h4⟩
 | .tru _,_,⟨p,z,q,h1,h2,h3,h4⟩=>⟨p,z,q,h1,s _ _ h2,D3.mono s h3,s _ _ h4⟩
 | .emp,_,⟨p,z,q,h1,h2,h3,h4⟩=>⟨p,z,q,h1,s _ _ h2,D3.mono s h3,s _ _ h4⟩
 | .fn _ _ _,_,⟨p,z,q,k,us,h1,h2,h3,h4,h5,h6⟩=>⟨p,z,q,k,us,h1,s _ _ h2,D3.mono s h3,s _ _ h4,s _ _ h5,KU.mono s h6⟩
 | .two _ _ _,_,⟨p,z,q,ra,rb,h1,h2,h3,h4,h5,h6⟩=>⟨p,z,q,ra,rb,h1,s _ _ h2,D3.mono s h3,s _ _ h4,GA.mono s h5,GA.mono s h6⟩
theorem KU.mono {H H':Hp}(s:Ay H H'):∀ {vs:List MV} {rs:List V},KU H vs rs->KU H' vs rs
 | [],[],_=>trivial
 | [],_::_,h=>h.elim
 | _::_,[],h=>h.elim
 | _::_,_::_,h=>⟨GA.mono s h.1,KU.mono s h.2⟩
end
theorem GA.look {H:Hp}:∀ {v:MV} {r:V},GA H v r->Lu λp s q us=>r=.ref p/\H p=some (.tup [s,.ref q])/\D3 H v s/\H q=some (.tup us)
 | .num _,_,⟨p,z,q,h1,h2,h3,h4⟩=>⟨p,z,q,_,h1,h2,h3,h4⟩
 | .tru _,_,⟨p,z,q,h1,h2,h3,h4⟩=>⟨p,z,q,_,h1,h2,h3,h4⟩
 | .emp,_,⟨p,z,q,h1,h2,h3,h4⟩=>⟨p,z,q,_,h1,h2,h3,h4⟩
 | .fn _ _ _,_,⟨p,z,q,k,us,h1,h2,h3,h4,h5,h6⟩=>⟨p,z,q,_,h1,h2,h3,h4⟩
 | .two _ _ _,_,⟨p,z,q,ra,rb,h1,h2,h3,h4,h5,h6⟩=>⟨p,z,q,_,h1,h2,h3,h4⟩
mutual
noncomputable def CG (H:Hp):MV->V->Prop
 | .num i,r=>∃ p,r=.ref p/\H p=some (.tup [.str "number",.int i])
 | .tru b,r=>∃ p,r=.ref p/\H p=some (.tup [.str "truth",.bl b])
 | .emp,r=>∃ p,r=.ref p/\H p=some (.tup [.str "empty"])
 | .fn c a h,r=>EM λp k us=>r=.ref p/\H p=some (.tup [.str (fw c),.int a,.ref k])/\H k=some (.lst us)/\Gf H h us
 | .two l a b,r=>EM λp ra rb=>r=.ref p/\H p=some (.tup [.str (tw l),ra,rb])/\CG H a ra/\CG H b rb
noncomputable def Gf (H:Hp):List MV->List V->Prop
 | [],[]=>True
 | v::vs,r::rs=>CG H v r/\Gf H vs rs
 | _,_=>False
end
theorem Es {H:Hp}:∀ {vs:List MV} {rs:List V},Gf H vs rs↔Paired (CG H) vs rs
 | [],[]=>⟨λ_=>.nil,λ_=>trivial⟩
 | [],_::_=>⟨λh=>h.elim,λh=>by cases h⟩
 | _::_,[]=>⟨λh=>h.elim,λh=>by cases h⟩
 | v::vs,r::rs=>⟨λh=>.cons h.1 (Es.mp h.2),λh=>by cases h with | cons a b=>exact ⟨a,Es.mpr b⟩⟩
mutual
theorem CG.mono {H H':Hp}(s:An H H'):∀ {v:MV} {r:V},CG H v r->CG H' v r
 | .num _,_,⟨p,h1,h2⟩=>⟨p,h1,s _ _ h2⟩
 | .tru _,_,⟨p,h1,h2⟩=>⟨p,h1,s _ _ h2⟩
 | .emp,_,⟨p,h1,h2⟩=>⟨p,h1,s _ _ h2⟩
 | .fn _ _ _,_,⟨p,k,us,h1,h2,h3,h4⟩=>⟨p,k,us,h1,s _ _ h2,s _ _ h3,Gf.mono s h4⟩
 | .two _ _ _,_,⟨p,ra,rb,h1,h2,h3,h4⟩=>⟨p,ra,rb,h1,s _ _ h2,CG.mono s h3,CG.mono s h4⟩
theorem Gf.mono {H H':Hp}(s:An H H'):∀ {vs:List MV} {rs:List V},Gf H vs rs->Gf H' vs rs
 | [],[],_=>trivial
 | [],_::_,h=>h.elim
 | _::_,[],h=>h.elim
 | _::_,_::_,h=>⟨CG.mono s h.1,Gf.mono s h.2⟩
end
theorem Paired.last {α β:Type}{F:α->β->Prop}{v:α}{r:List α}{vs:List β}(h:Paired F (v::r).reverse vs):Dn λus x=>vs=us++[x]/\Paired F r.reverse us/\F v x:=by
 rw [List.reverse_cons] at h
 obtain ⟨us,rest,rfl,h1,h2⟩:=Paired.split h
 obtain ⟨x,rfl,hx⟩:=DV h2
 exact ⟨us,x,rfl,h1,hx⟩
theorem Paired.take {α β:Type}{F:α->β->Prop}:∀ (n:Nat) {a:List α} {b:List β},Paired F a b->Paired F (a.take n) (b.take n)
 | 0,_,_,_=>by simp;exact .nil
 | n+1,_,_,.nil=>by simp;exact .nil
 | n+1,_,_,.cons r t=>.cons r (Paired.take n t)
section
variable {X:Cx}{k:Nat}{f C:Addr}{fd:FuncData}{ps:List Str}{sp:Sp}{m:Str}{E:XK}{o:Expr}{ta:TE}{pos apos:Pos}
theorem KW {pl:Sem Bool}(he:SE X o ta)(c:IC X.K C)(hm:Meth X.K C m f)(F:AI X.prog X.w X.K X.mg X.base (DK X.prog X.w) k f fd ps sp)(hx:Passes (DK X.prog X.w) X E)(hr:AY k X.A)(hb:Binds X.K fd ps [])
  (ht:eval (.Call (.Attribute o m apos) [] [] pos) X.env=(do
   let ov <- eval o X.env
   standAt apos.atName
   let (f,first) <- holding [ov] (getMethod ov m pl)
   callWith pos f first (backTo pos (starEach [] X.env)) (backToKw pos (keywordEach [] X.env))):=by rfl) :
  SE X (.Call (.Attribute o m apos) [] [] pos) (G3 C m sp [] E ta Ez):=⟨Qp he.out c hm F hr hb .nil hx ht⟩
end
theorem pe {C:Addr}{E:XK}{t:TA}{D:Ends}{σ:St}{H:Hp}(q:t σ H λvs H1=>vs.length<=1000/\E (.ref C) none H1):Mf C E t D σ H:=q
local macro_rules | `(tactic| fail)=>`(tactic| with_reducible refine L2.pe ?_)
structure MA where
 p:Addr
 dx:Addr
 lc:Addr
 lp:Addr
 lb:Addr
noncomputable def mF (A:MA)(a:Int)(h:Addr)(c:Int):List (Str × V):=[("code",.ref A.lc),("place",.int a),("pile",.ref A.lp),("held",.ref h),("behind",.ref A.lb),("calls",.int c)]
theorem Gg (A:MA)(a:Int)(h:Addr)(c b:Int):Ci "place" (.int b) (mF A a h c)=mF A b h c:=rfl
theorem HB (A:MA)(a:Int)(h k:Addr)(c:Int):Ci "held" (.ref k) (mF A a h c)=mF A a k c:=rfl
theorem Ro (A:MA)(a:Int)(h:Addr)(c b:Int):Ci "calls" (.int b) (mF A a h c)=mF A a h b:=rfl
noncomputable def Rp (H:Hp)(f:Nat × List MV)(r:V):Prop:=EM λq h hs=>r=.ref q/\H q=some (.tup [.int f.1,.ref h])/\H h=some (.tup hs)/\Paired (GA H) f.2 hs
theorem Rp.mono {H H':Hp}(t:Ay H H'){f:Nat × List MV}{r:V}(h:Rp H f r):Rp H' f r:=by
 obtain ⟨q,h',hs,h1,h2,h3,h4⟩:=h
 exact ⟨q,h',hs,h1,t _ _ h2,t _ _ h3,Paired.mapP h4 λ_ _ z=>z.mono t⟩
structure B0 (C:Addr)(A:MA)(code:List MS)(H:Hp)(s:Ma):Prop where
 ex:Lu λh vs hs bs=>H A.p=some (.ins C A.dx (mF A s.at' h s.calls))/\H A.lp=some (.lst vs)/\Paired (GA H) s.pile.reverse vs/\H h=some (.tup hs)/\Paired (GA H) s.held hs/\H A.lb=some (.lst bs)/\Paired (Rp H) s.frs.reverse bs
 cd:FZ H A.lc code
 d1:A.lp≠A.lb
 d2:A.lc≠A.lp
 d3:A.lc≠A.lb
noncomputable def Off (A:MA)(H H':Hp):Prop:=∀ b o,H b=some o->b≠A.p->b≠A.lp->b≠A.lb->H' b=some o
theorem Off.of_same {A:MA}{H H':Hp}(s:An H H'):Off A H H':=λb o e _ _ _=>s b o e
theorem Off.trans {A:MA}{H1 H2 H3:Hp}(a:Off A H1 H2)(b:Off A H2 H3):Off A H1 H3:=λc o e x y z=>b c o (a c o e x y z) x y z
theorem Off.p {A:MA}{H:Hp}{o:HO}:Off A H (upd H A.p o):=λb u e x _ _=>by rw [Aq x];exact e
theorem Off.lp {A:MA}{H:Hp}{o:HO}:Off A H (upd H A.lp o):=λb u e _ x _=>by rw [Aq x];exact e
theorem Off.lb {A:MA}{H:Hp}{o:HO}:Off A H (upd H A.lb o):=λb u e _ _ x=>by rw [Aq x];exact e
section
variable {C:Addr}{A:MA}{code:List MS}{H H':Hp}{s:Ma}
theorem B0.tsub (M:B0 C A code H s)(o:Off A H H'):Ay H H':=λb xs e=>by
 obtain ⟨h,vs,hs,bs,h1,h2,_,_,_,h6,_⟩:=M.ex
 exact o b _ e (λz=>by rw [z,h1] at e;cases e) (λz=>by rw [z,h2] at e;cases e) (λz=>by rw [z,h6] at e;cases e)
theorem B0.mono (M:B0 C A code H s)(t:An H H'):B0 C A code H' s:=by
 obtain ⟨⟨h,vs,hs,bs,h1,h2,h3,h4,h5,h6,h7⟩,cd,d1,d2,d3⟩:=M
 have ts:=Ay.of_same t
 exact ⟨⟨h,vs,hs,bs,t _ _ h1,t _ _ h2,Paired.mapP h3 λ_ _ z=>z.mono ts,t _ _ h4,Paired.mapP h5 λ_ _ z=>z.mono ts,t _ _ h6,Paired.mapP h7 λ_ _ z=>z.mono ts⟩,cd.mono t,d1,d2,d3⟩
theorem FZ.off {H H':Hp}{l:Addr}{c:List MS}(t:Ay H H')(h:FZ H l c)(hl:∀ o,H l=some o->H' l=some o):FZ H' l c:=by
 obtain ⟨vs,h1,h2⟩:=h
 exact ⟨vs,hl _ h1,Paired.mapP h2 λ_ _ z=>z.mono t⟩
theorem B0.setF (M:B0 C A code H s){h':Addr}{FK:List V}{XD:List MV}(hh:H h'=some (.tup FK))(hp:Paired (GA H) XD FK)(a c:Nat):B0 C A code (upd H A.p (.ins C A.dx (mF A a h' c))) { s with at':=a,held:=XD,calls:=c }:=by
 have ts:=M.tsub (H':=upd H A.p (.ins C A.dx (mF A a h' c))) Off.p
 obtain ⟨⟨h,vs,hs,bs,h1,h2,h3,h4,h5,h6,h7⟩,cd,d1,d2,d3⟩:=M
 have aU:∀ l xs,H l=some (.lst xs)->l≠A.p:=λl xs e z=>by rw [z,h1] at e;cases e
 obtain ⟨cs,KY,Hk⟩:=id cd
 exact ⟨⟨h',vs,FK,bs,Ap,by rw [Aq (aU _ _ h2)];exact h2,Paired.mapP h3 λ_ _ z=>z.mono ts,ts _ _ hh,Paired.mapP hp λ_ _ z=>z.mono ts,by rw [Aq (aU _ _ h6)];exact h6,Paired.mapP h7 λ_ _ z=>z.mono ts⟩,cd.off ts (λo e=>by rw [Aq (aU _ _ KY)];exact e),d1,d2,d3⟩
theorem B0.setP (M:B0 C A code H s){Gy:List V}{XE:List MV}(hp:Paired (GA H) XE.reverse Gy):B0 C A code (upd H A.lp (.lst Gy)) { s with pile:=XE }:=by
 have ts:=M.tsub (H':=upd H A.lp (.lst Gy)) Off.lp
 obtain ⟨⟨h,vs,hs,bs,h1,h2,h3,h4,h5,h6,h7⟩,cd,d1,d2,d3⟩:=M
 exact ⟨⟨h,Gy,hs,bs,by rw [Aq (E7 h1 h2 (by intro z;cases z))];exact h1,Ap,Paired.mapP hp λ_ _ z=>z.mono ts,ts _ _ h4,Paired.mapP h5 λ_ _ z=>z.mono ts,by rw [Aq (Ne.symm d1)];exact h6,Paired.mapP h7 λ_ _ z=>z.mono ts⟩,cd.off ts (λo e=>by rw [Aq d2];exact e),d1,d2,d3⟩
theorem B0.setB (M:B0 C A code H s){OI:List V}{pf:List (Nat × List MV)}(hp:Paired (Rp H) pf.reverse OI):B0 C A code (upd H A.lb (.lst OI)) { s with frs:=pf }:=by
 have ts:=M.tsub (H':=upd H A.lb (.lst OI)) Off.lb
 obtain ⟨⟨h,vs,hs,bs,h1,h2,h3,h4,h5,h6,h7⟩,cd,d1,d2,d3⟩:=M
 exact ⟨⟨h,vs,hs,OI,by rw [Aq (E7 h1 h6 (by intro z;cases z))];exact h1,by rw [Aq d1];exact h2,Paired.mapP h3 λ_ _ z=>z.mono ts,ts _ _ h4,Paired.mapP h5 λ_ _ z=>z.mono ts,Ap,Paired.mapP hp λ_ _ z=>z.mono ts⟩,cd.off ts (λo e=>by rw [Aq d3];exact e),d1,d2,d3⟩
end
theorem K8 {P:Program}{w:World}{K:W.Frag}{mg:Str->Option Value}{base:Heap}{N:List Str}{qual:Str}{scope:Scope}{f:Addr}{cd:Value}{A:Around}{outer:List Env}{s:Shared}{H:Hp}{E:XK}:Passes (DK P w) (oy P w K mg base N qual scope f cd A outer s H E) E:=ox (X:=DE (DK P w) P w K mg base N qual scope f cd A outer s H E) DU λ_ _ h=>h
noncomputable def Mc (Pr:Program)(w:World)(K:W.Frag)(mg:Str->Option Value)(base:Heap)(CX:Kg)(C:Addr)(k:Nat)(m:Str)(ps:List Str)(sp:Sp):Prop:=Dn λf fd=>AI Pr w K mg base CX k f fd ps sp/\Binds K fd ps []/\Meth K C m f
section
variable {X:Cx}{k:Nat}{C:Addr}{ps:List Str}{sp:Sp}{m:Str}{E:XK}{o e:Expr}{es:List Expr}{ta:TE}{t:TA}{pos apos:Pos}
theorem Jl {pl:Sem Bool}(he:SE X o ta)(c:IC X.K C)(M:Mc X.prog X.w X.K X.mg X.base (DK X.prog X.w) C k m ps sp)(hx:Passes (DK X.prog X.w) X E)(hr:AY k X.A)(ha:SA X (e::es) t)
  (DM:starEach (e::es) X.env=(false,eval e X.env)::starEach es X.env:=by first | exact CQ | exact Ca | exact C9 | exact CT | exact CU | exact CV | exact DP | rfl) (Dc:(backTo pos (starEach es X.env)).any (·.1)=false:=by rfl)
  (ht:eval (.Call (.Attribute o m apos) (e::es) [] pos) X.env=(do
   let ov <- eval o X.env
   standAt apos.atName
   let (f,first) <- holding [ov] (getMethod ov m pl)
   callWith pos f first (backTo pos (starEach (e::es) X.env)) (backToKw pos (keywordEach [] X.env))):=by rfl) :
  SE X (.Call (.Attribute o m apos) (e::es) [] pos) (G3 C m sp [] E ta t):=by
 obtain ⟨f,fd,F,hb,hm⟩:=M
 exact U' he c hm F hx hr hb ha DM Dc ht
theorem Ho {pl:Sem Bool}(he:SE X o ta)(c:IC X.K C)(M:Mc X.prog X.w X.K X.mg X.base BR C k m ps sp)(hr:AY k X.A)(ha:SA X (e::es) t)
  (DM:starEach (e::es) X.env=(false,eval e X.env)::starEach es X.env:=by first | exact CQ | exact Ca | exact C9 | exact CT | exact CU | exact CV | exact DP | rfl) (Dc:(backTo pos (starEach es X.env)).any (·.1)=false:=by rfl)
  (ht:eval (.Call (.Attribute o m apos) (e::es) [] pos) X.env=(do
   let ov <- eval o X.env
   standAt apos.atName
   let (f,first) <- holding [ov] (getMethod ov m pl)
   callWith pos f first (backTo pos (starEach (e::es) X.env)) (backToKw pos (keywordEach [] X.env))):=by rfl) :
  SE X (.Call (.Attribute o m apos) (e::es) [] pos) (G3 C m sp [] E0 ta t):=by
 obtain ⟨f,fd,F,hb,hm⟩:=M
 exact ao he c hm F hr hb ha DM Dc ht
theorem EF {pl:Sem Bool}(he:SE X o ta)(c:IC X.K C)(M:Mc X.prog X.w X.K X.mg X.base (DK X.prog X.w) C k m ps sp)(hx:Passes (DK X.prog X.w) X E)(hr:AY k X.A)
  (ht:eval (.Call (.Attribute o m apos) [] [] pos) X.env=(do
   let ov <- eval o X.env
   standAt apos.atName
   let (f,first) <- holding [ov] (getMethod ov m pl)
   callWith pos f first (backTo pos (starEach [] X.env)) (backToKw pos (keywordEach [] X.env))):=by rfl) :
  SE X (.Call (.Attribute o m apos) [] [] pos) (G3 C m sp [] E ta Ez):=by
 obtain ⟨f,fd,F,hb,hm⟩:=M
 exact KW he c hm F hx hr hb ht
end
noncomputable def ClX (Pr:Program)(w:World)(K:W.Frag)(mg:Str->Option Value)(base:Heap)(k:Nat)(x:Str)(ps:List Str)(sp:Sp):Prop:=Dn λf fd=>AI Pr w K mg base (DK Pr w) k f fd ps sp/\W.keepIn K (.ref f)=true/\Binds K fd ps []/\mg x=some (.ref f)
section
variable {X:Cx}{k:Nat}{ps:List Str}{sp:Sp}{x:Str}{E:XK}{e:Expr}{es:List Expr}{t:TA}{p pos:Pos}
theorem pj (F:ClX X.prog X.w X.K X.mg X.base k x ps sp)(hx:Passes (DK X.prog X.w) X E)(hr:AY k X.A)(hg:Gl X x)(ha:SA X (e::es) t)(E9:(x==("__debug__":Str))=false:=by decide)
  (he:starEach (e::es) X.env=(false,eval e X.env)::starEach es X.env:=by first | exact CQ | exact Ca | exact C9 | exact CT | exact CU | exact CV | exact DP | rfl) (Dc:(backTo pos (starEach es X.env)).any (·.1)=false:=by rfl) :
  SE X (.Call (.Name x p) (e::es) [] pos) (DW sp [] E t):=by
 obtain ⟨f,fd,h1,h2,h3,h4⟩:=F
 exact UZ h1 hx hr hg h4 h2 h3 ha E9 he Dc
end
end L2
namespace KX
open PySem L2
noncomputable def AV:MS->Nat
 | .pr | .lk | .op _ | .call=>2
 | .lt | .opn | .wh _ | .spl _ | .fin=>1
 | _=>0
noncomputable def fit:MS->List MV->Bool
 | .op _,tk=>match tk with
  | [.num _,.num _]=>true
  | _=>false
 | .call,tk=>match tk with
  | .fn _ _ _::_=>true
  | _=>false
 | .spl _,tk=>match tk with
  | .emp::_=>true
  | .two true _ _::_=>true
  | _=>false
 | .wh _,tk=>match tk with
  | [.tru _]=>true
  | _=>false
 | .opn,tk=>match tk with
  | [.two false _ _]=>true
  | _=>false
 | _,_=>true
noncomputable def leap:MS->List MV->Bool
 | .jump _,_ | .fn _,_ | .rc _,_=>true
 | .wh _,tk=>match tk with
  | [.tru b]=>!b
  | _=>false
 | .spl _,tk=>match tk with
  | [.two true _ _]=>true
  | _=>false
 | _,_=>false
noncomputable def ln:MS->Nat
 | .nm n | .fn n | .rc n | .drop n | .jump n | .wh n | .spl n=>n
 | _=>0
noncomputable def XF:MS->List MV->List MV->List MV
 | .drop n,_,h=>h.take (h.length - n)
 | .lt,tk,h=>h++tk
 | .opn,tk,h=>match tk with
  | [.two _ a b]=>h++[a,b]
  | _=>h
 | .spl _,tk,h=>match tk with
  | [.two _ a b]=>h++[a,b]
  | _=>h
 | .call,tk,h=>match tk with
  | [.fn r a k,v]=>k++(if r then [.fn r a k] else [])++[v]
  | _=>h
 | _,_,h=>h
noncomputable def XG:MS->List MV->Nat->List MV->Option MV
 | .num i,_,_,_=>some (.num i)
 | .tru b,_,_,_=>some (.tru b)
 | .emp,_,_,_=>some .emp
 | .nm n,_,_,h=>if n < h.length then h[h.length - 1 - n]? else none
 | .fn _,_,a,h=>some (.fn false a h)
 | .rc _,_,a,h=>some (.fn true a h)
 | .op o,tk,_,_=>match tk with
  | [.num i,.num j]=>some (DQ o i j)
  | _=>none
 | .pr,tk,_,_=>match tk with
  | [a,b]=>some (.two false a b)
  | _=>none
 | .lk,tk,_,_=>match tk with
  | [a,b]=>some (.two true a b)
  | _=>none
 | _,_,_,_=>none
noncomputable def DL (st:MS)(s:Ma):List MV:=(s.pile.take (AV st)).reverse
theorem aV {st:MS}{s:Ma}(h:s.pile.length < AV st):exec st s=.stuck:=by
 cases st <;> simp only [AV] at h <;> try omega
 all_goals
  simp only [exec]
  split
  all_goals first
   | rfl
   | (rename_i e;rw [e] at h;simp only [List.length_cons] at h;omega)
theorem aW {st:MS}{s:Ma}(h:fit st (DL st s)=false):exec st s=.stuck:=by
 cases st <;> simp only [fit,DL,AV] at h <;> try (exact absurd h ⟨⟩)
 all_goals
  simp only [exec]
  split
  all_goals first
   | rfl
   | (rename_i e;rw [e] at h;simp at h)
theorem Vh {s:Ma}(h:s.frs=[]):exec .back s=.stuck:=by simp only [exec];rw [h]
theorem Vi {n:Nat}{s:Ma}(h:s.held.length < n):exec (.drop n) s=.stuck:=by simp only [exec];rw [if_neg ()]
theorem px {n:Nat}{s:Ma}(h:s.held.length<=n):exec (.nm n) s=.stuck:=by simp only [exec];rw [if_neg ()]
theorem K1 {s:Ma}(h:2<=s.pile.length):EM λb a r=>s.pile=b::a::r:=by
 rcases e:s.pile with _ | ⟨b,_ | ⟨a,r⟩⟩
 ·rw [e] at h;simp at h
 ·rw [e] at h;simp at h
 ·exact ⟨b,a,r,rfl⟩
theorem FO {s:Ma}(h:1<=s.pile.length):Dn λa r=>s.pile=a::r:=by
 rcases e:s.pile with _ | ⟨a,r⟩
 ·rw [e] at h;simp at h
 ·exact ⟨a,r,rfl⟩
theorem aX {s:Ma}(h:1<=s.pile.length):∃ v,DL .fin s=[v]/\exec .fin s=.told v:=by
 obtain ⟨a,r,e⟩:=FO h
 exact ⟨a,by simp only [DL,AV,e];rfl,by simp only [exec];rw [e]⟩
theorem JP {s:Ma}(h:2<=s.pile.length)(hf:fit .call (DL .call s)=true):Lu λr a k v=>DL .call s=[.fn r a k,v]/\exec .call s=.go ⟨a,s.calls+1,s.pile.drop 2,XF .call (DL .call s) s.held,(s.at'+1,s.held)::s.frs⟩:=by
 obtain ⟨b,a,p,e⟩:=K1 h
 have et:DL .call s=[a,b]:=by simp only [DL,AV,e];rfl
 rw [et] at hf ⊢
 cases a with
 | fn r q k =>
  refine ⟨r,q,k,b,rfl,?_⟩
  simp only [exec,e]
  cases r <;> simp [XF]
 | _=>simp [fit] at hf
theorem aY {st:MS}{s:Ma}(hg:st=.lt\/st=.opn\/(∃ n,st=.spl n)\/∃ n,st=.drop n)(hl:AV st<=s.pile.length)(hf:fit st (DL st s)=true)(hd:∀ n,st=.drop n->n<=s.held.length):
  exec st s=.go { s with at':=s.at'+1+(if leap st (DL st s) then ln st else 0),pile:=s.pile.drop (AV st),held:=XF st (DL st s) s.held }:=by
 rcases hg with rfl | rfl | ⟨n,rfl⟩ | ⟨n,rfl⟩
 ·obtain ⟨a,r,e⟩:=FO hl
  simp only [exec,DL,AV,e];rfl
 ·obtain ⟨a,r,e⟩:=FO hl
  have et:DL .opn s=[a]:=by simp only [DL,AV,e];rfl
  rw [et] at hf ⊢
  cases a with
  | two l x y=>cases l <;> simp [fit] at hf;simp only [exec,AV,e];rfl
  | _=>simp [fit] at hf
 ·obtain ⟨a,r,e⟩:=FO hl
  have et:DL (.spl n) s=[a]:=by simp only [DL,AV,e];rfl
  rw [et] at hf ⊢
  cases a with
  | two l x y=>cases l <;> simp [fit] at hf;simp only [exec,AV,e];rfl
  | emp=>simp only [exec,AV,e];rfl
  | _=>simp [fit] at hf
 ·have h:=hd n rfl
  simp only [exec]
  rw [if_pos h]
  rfl
theorem pz {st:MS}{s:Ma}(hg:(∃ n,st=.jump n)\/∃ n,st=.wh n)(hl:AV st<=s.pile.length)(hf:fit st (DL st s)=true):
  exec st s=.go { s with at':=s.at'+1+(if leap st (DL st s) then ln st else 0),pile:=s.pile.drop (AV st) }:=by
 rcases hg with ⟨n,rfl⟩ | ⟨n,rfl⟩
 ·simp only [exec];rfl
 ·obtain ⟨a,r,e⟩:=FO hl
  have et:DL (.wh n) s=[a]:=by simp only [DL,AV,e];rfl
  rw [et] at hf ⊢
  cases a with
  | tru b=>simp only [exec,AV,e];cases b <;> rfl
  | _=>simp [fit] at hf
noncomputable def HC:MS->Bool
 | .num _ | .tru _ | .emp | .nm _ | .fn _ | .rc _ | .op _ | .pr | .lk=>true
 | _=>false
theorem aZ {st:MS}{s:Ma}(hb:HC st=true)(hl:AV st<=s.pile.length)(hf:fit st (DL st s)=true)(hn:∀ n,st=.nm n->n < s.held.length):
  ∃ v,XG st (DL st s) (s.at'+1) s.held=some v/\exec st s=.go { s with at':=s.at'+1+(if leap st (DL st s) then ln st else 0),pile:=v::s.pile.drop (AV st) }:=by
 cases st with
 | num i=>exact ⟨_,rfl,rfl⟩
 | tru i=>exact ⟨_,rfl,rfl⟩
 | emp=>exact ⟨_,rfl,rfl⟩
 | nm n =>
  have h:=hn n rfl
  have e:s.held[s.held.length - 1 - n]?=some (s.held[s.held.length - 1 - n]'()):=by rw [List.getElem?_eq_getElem]
  refine ⟨s.held[s.held.length - 1 - n]'(),?_,?_⟩
  ·simp only [XG];rw [if_pos h];exact e
  ·simp only [exec];rw [if_pos h,e];rfl
 | fn n=>exact ⟨_,rfl,rfl⟩
 | rc n=>exact ⟨_,rfl,rfl⟩
 | op o =>
  obtain ⟨b,a,r,e⟩:=K1 hl
  have et:DL (.op o) s=[a,b]:=by simp only [DL,AV,e];rfl
  rw [et] at hf ⊢
  cases a with
  | num i=>cases b with
   | num j=>exact ⟨_,rfl,by simp only [exec,AV,e];rfl⟩
   | _=>simp [fit] at hf
  | _=>simp [fit] at hf
 | pr =>
  obtain ⟨b,a,r,e⟩:=K1 hl
  have et:DL .pr s=[a,b]:=by simp only [DL,AV,e];rfl
  rw [et]
  exact ⟨_,rfl,by simp only [exec,AV,e];rfl⟩
 | lk =>
  obtain ⟨b,a,r,e⟩:=K1 hl
  have et:DL .lk s=[a,b]:=by simp only [DL,AV,e];rfl
  rw [et]
  exact ⟨_,rfl,by simp only [exec,AV,e];rfl⟩
 | _=>cases hb
end KX
namespace K
open PySem L2
noncomputable def top (i:Nat):Stmt:=PySem.Challenge.pw_kindspan_k41_machine.main.body.getD i (.Pass ⟨0,0,0,0⟩)
abbrev D4:Stmt:=top 7
abbrev Bp:Stmt:=inClass (top 9) 0
abbrev BV:Stmt:=inClass (top 9) 1
abbrev Ce:Stmt:=inClass (top 9) 2
abbrev Bj:Stmt:=inClass (top 9) 3
abbrev Cs:Stmt:=inClass (top 9) 4
abbrev Cf:Stmt:=inClass (top 9) 5
abbrev Bg:Stmt:=inClass (top 9) 6
abbrev Cg:Stmt:=inClass (top 9) 7
abbrev BW:Stmt:=inClass (top 9) 8
abbrev BD:Stmt:=inClass (top 9) 9
abbrev CA:Stmt:=top 10
abbrev Dq:Stmt:=top 11
abbrev C3:Stmt:=top 12
abbrev E2:Stmt:=top 13
abbrev EG:Stmt:=top 14
abbrev Dr:Stmt:=top 15
abbrev Ds:Stmt:=top 16
abbrev E3:Stmt:=top 17
abbrev Dt:Stmt:=top 18
abbrev Du:Stmt:=top 19
abbrev Dv:Stmt:=top 20
abbrev Dw:Stmt:=top 21
abbrev D5:Stmt:=top 22
abbrev FP:Stmt:=top 24
abbrev Mt:Stmt:=top 26
abbrev EH:Stmt:=top 27
abbrev Cm:Stmt:=top 30
abbrev B5:Stmt:=top 31
abbrev BL:Stmt:=inClass (top 33) 0
abbrev C4:Stmt:=top 34
abbrev Bi:Stmt:=top 35
abbrev BN:Stmt:=top 36
abbrev Bq:Stmt:=top 37
abbrev Bf:Stmt:=top 38
abbrev C5:Stmt:=top 39
abbrev Cn:Stmt:=top 40
abbrev C6:Stmt:=top 41
abbrev BO:Stmt:=top 42
abbrev BP:Stmt:=top 43
abbrev BE:Stmt:=top 44
abbrev Dx:Stmt:=top 46
abbrev D6:Stmt:=top 47
abbrev Ik:Stmt:=top 49
abbrev Mu:Stmt:=top 50
abbrev F6:Stmt:=top 53
abbrev EI:Stmt:=top 54
abbrev D7:Stmt:=top 55
abbrev CB:Stmt:=top 56
abbrev Co:Stmt:=top 57
abbrev BZ:Stmt:=top 58
abbrev BI:Stmt:=top 59
abbrev BJ:Stmt:=top 60
abbrev BK:Stmt:=top 61
abbrev Bt:Stmt:=top 62
abbrev B':Stmt:=top 63
abbrev CC:Stmt:=top 64
abbrev Cj:Stmt:=top 65
abbrev Bu:Stmt:=top 66
abbrev C7:Stmt:=top 67
abbrev C0:Stmt:=top 68
abbrev BF:Stmt:=top 69
abbrev CD:Stmt:=top 70
abbrev CF:Stmt:=top 71
abbrev BQ:Stmt:=top 72
abbrev Bd:Stmt:=top 73
abbrev D8:Stmt:=top 74
abbrev Il:Stmt:=top 75
end K
namespace KX
open PySem
noncomputable def GU:MV->Str
 | .num _=>"number" | .tru _=>"truth" | .emp=>"empty" | .fn r _ _=>fw r | .two l _ _=>tw l
end KX
namespace L2
open PySem KX
theorem pA {t:TA}{σ:St}{H:Hp}{R:It->Hp->Prop}(q:t σ H λvs H1=>LG R vs H1):Qg t σ H R:=q
end L2
local macro_rules | `(tactic| fail)=>`(tactic| with_reducible refine L2.pA ?_)
namespace K
open PySem L2 KM KS KX
section
variable {Pr:Program}{w:World}{K:W.Frag}{mg:Str->Option Value}{base:Heap}
theorem CG.look {H:Hp}:∀ {v:MV} {r:V},CG H v r->Dn λp us=>r=.ref p/\H p=some (.tup (.str (GU v)::us))/\us.length<=2
 | .num _,_,⟨p,h1,h2⟩=>⟨p,_,h1,h2,by simp⟩
 | .tru _,_,⟨p,h1,h2⟩=>⟨p,_,h1,h2,by simp⟩
 | .emp,_,⟨p,h1,h2⟩=>⟨p,_,h1,h2,by simp⟩
 | .fn _ _ _,_,⟨p,k,us,h1,h2,_⟩=>⟨p,_,h1,h2,by simp⟩
 | .two _ _ _,_,⟨p,ra,rb,h1,h2,_⟩=>⟨p,_,h1,h2,by simp⟩
inductive Rq (n:Nat)(vs:(List V))(H:Hp)(Q:VK)(z3:XK):Prop
 | mk (v:MV) (r:V) (h1:vs=[r]) (h2:CG H v r) (h3:Gd v<=n) (h4:∀ r' H',An H H'->D3 H' v r'->Q r' H'):Rq n vs H Q z3
noncomputable def pB:Nat->Sp
 | 0=>Mh
 | n+1=>Rq n
theorem CZ (a b:Str):([V.str a,V.str b]:List V).all EX=true:=rfl
theorem Aa6:Ar ["_law_value"] ["_law_value"] (Ad Cj):=nofun
theorem Rr {n:Nat}{f:Addr}{fd:FuncData}(F:Ck K "_law_show" "_law_show" Cj f fd)(cS:Cl Pr w K mg base n "_law_show" ["_law_value"] (pB n)):AI Pr w K mg base BR (n+1) f fd ["_law_value"] (Rq n):=by
 refine F.okS Aa6 (λvs H Q E h=>?_) (λBo A outer s H vs Q E hr h=>?_)
 ·obtain ⟨v,r,rfl,_⟩:=h;rfl
 ·obtain ⟨v,r,rfl,hv,hd,q⟩:=h
  refine ⟨_,(Ae (B4 (Az Cr (Av Al (Af 0) Ac AR) (Am (Aa Ag (Aa Ag Ab))) rfl) (Ai (Aw (Am (Aa Ag Ab)))) AK)
   (Ae (B4 (Az Cr (Av Al (Af 0) Ac AR) (Am (Aa Ag (Aa Ag Ab))) rfl) (Ai (Aw (Am (Aa (Av Al (Af 0) Ac AR) (Aa (B3 cS hr rfl (Aa (Av Al (Af 0) Ac AR) Ab)) (Aa (B3 cS hr rfl (Aa (Av Al (Af 0) Ac AR) Ab)) Ab)))))) AK)
   (Ai (Aw (Af 0))))),?_⟩
  obtain ⟨p,us,rfl,hp,_⟩:=CG.look hv
  left
  refine Ah (AJ.of hp) (v:=.str (GU v)) (Au (j:=0) rfl) ?_
  left
  intros t1 H1 s1 e1
  refine C8 (.inr (AJ.of e1)) rfl (CZ _ _) ?_
  left
  cases v with
  | fn c a h =>
   refine Bc (show Dh (.str (fw c)) [.str "fun",.str "rec"]=true by cases c <;> decide) ?_
   left
   intros t2 H2 s2 e2
   exact q _ H2 (s1.trans s2) ⟨t2,rfl,e2⟩
  | two l a b =>
   obtain ⟨_,ra,rb,e0,hp,ha,hb⟩:=hv
   cases e0
   refine AN (show ¬ Dh (.str (tw l)) [.str "fun",.str "rec"]=true by cases l <;> decide) ?_
   left
   refine Ah (AJ.of (s1 _ _ hp)) (v:=.str (tw l)) rfl ?_
   left
   intros t2 H2 s2 e2
   refine C8 (.inr (AJ.of e2)) rfl (CZ _ _) ?_
   left
   refine Bc (by cases l <;> decide) ?_
   left
   have Cq:=s1.trans s2
   refine Ah (AJ.of (Cq _ _ hp)) (v:=.str (tw l)) rfl ?_
   left
   refine Ah (AJ.of (Cq _ _ hp)) (v:=ra) rfl ?_
   left
   cases n with
   | zero=>simp only [Gd] at hd;omega
   | succ n =>
    simp only [Gd] at hd
    refine ⟨a,ra,rfl,ha.mono Cq,(),λr1 H3 s3 a3=>?_⟩
    left
    refine Ah (AJ.of (s3 _ _ (Cq _ _ hp))) (v:=rb) rfl ?_
    left
    refine ⟨b,rb,rfl,(hb.mono Cq).mono s3,(),λr2 H4 s4 a4=>?_⟩
    left
    intros t5 H5 s5 e5
    exact q _ H5 (Cq.trans (s3.trans (s4.trans s5))) ⟨t5,r1,r2,rfl,e5,a3.mono (Ay.of_same (s4.trans s5)),a4.mono (Ay.of_same s5)⟩
  | num i =>
   obtain ⟨_,e0,hp⟩:=hv
   cases e0
   refine AN (show ¬ Dh (.str "number") [.str "fun",.str "rec"]=true by decide) ?_
   left
   refine Ah (AJ.of (s1 _ _ hp)) (v:=.str "number") rfl ?_
   left
   intros t2 H2 s2 e2
   refine C8 (.inr (AJ.of e2)) rfl (CZ _ _) ?_
   left
   refine AN ⟨⟩ ?_
   left
   exact q _ H2 (s1.trans s2) ⟨p,rfl,s2 _ _ (s1 _ _ hp)⟩
  | tru b =>
   obtain ⟨_,e0,hp⟩:=hv
   cases e0
   refine AN (show ¬ Dh (.str "truth") [.str "fun",.str "rec"]=true by decide) ?_
   left
   refine Ah (AJ.of (s1 _ _ hp)) (v:=.str "truth") rfl ?_
   left
   intros t2 H2 s2 e2
   refine C8 (.inr (AJ.of e2)) rfl (CZ _ _) ?_
   left
   refine AN ⟨⟩ ?_
   left
   exact q _ H2 (s1.trans s2) ⟨p,rfl,s2 _ _ (s1 _ _ hp)⟩
  | emp =>
   obtain ⟨_,e0,hp⟩:=hv
   cases e0
   refine AN (show ¬ Dh (.str "empty") [.str "fun",.str "rec"]=true by decide) ?_
   left
   refine Ah (AJ.of (s1 _ _ hp)) (v:=.str "empty") rfl ?_
   left
   intros t2 H2 s2 e2
   refine C8 (.inr (AJ.of e2)) rfl (CZ _ _) ?_
   left
   refine AN ⟨⟩ ?_
   left
   exact q _ H2 (s1.trans s2) ⟨p,rfl,s2 _ _ (s1 _ _ hp)⟩
theorem XH {f:Addr}{fd:FuncData}(D:Df K mg "_law_show" Cj ["_law_value"] f fd):∀ n,Cl Pr w K mg base (n+1) "_law_show" ["_law_value"] (Rq n)
 | 0=>D.cl (Rr (n:=0) D.F (D.cl Ia))
 | n+1=>D.cl (Rr (n:=n+1) D.F (XH D n))
noncomputable def y8:V->Bool
 | .str _ | .int _ | .bl _=>true
 | _=>false
noncomputable def AL (H:Hp):Nat->V->V->Prop
 | 0,x,y=>y8 x=true/\x=y
 | n+1,x,y=>(y8 x=true/\x=y)\/Lu λp q us vs=>x=.ref p/\y=.ref q/\H p=some (.tup us)/\H q=some (.tup vs)/\us.length<=3/\Paired (AL H n) us vs
theorem AL.up {H:Hp}:∀ {n:Nat} {x y:V},AL H n x y->AL H (n+1) x y
 | 0,_,_,h=>.inl h
 | n+1,_,_,.inl h=>.inl h
 | n+1,_,_,.inr ⟨p,q,us,vs,h1,h2,h3,h4,h5,h6⟩=>.inr ⟨p,q,us,vs,h1,h2,h3,h4,h5,Paired.mapP h6 λ_ _ z=>z.up⟩
theorem AL.le {H:Hp}{n m:Nat}{x y:V}(h:AL H n x y)(hm:n<=m):AL H m x y:=by
 induction hm with
 | refl=>exact h
 | step _ ih=>exact ih.up
theorem AL.sc {H:Hp}{n:Nat}{x:V}(h:y8 x=true):AL H n x x:=by
 cases n with
 | zero=>exact ⟨h,rfl⟩
 | succ n=>exact .inl ⟨h,rfl⟩
theorem AL.mono {H H':Hp}(s:Ay H H'):∀ {n:Nat} {x y:V},AL H n x y->AL H' n x y
 | 0,_,_,h=>h
 | n+1,_,_,.inl h=>.inl h
 | n+1,_,_,.inr ⟨p,q,us,vs,h1,h2,h3,h4,h5,h6⟩=>.inr ⟨p,q,us,vs,h1,h2,s _ _ h3,s _ _ h4,h5,Paired.mapP h6 λ_ _ z=>z.mono s⟩
theorem AL.of {H:Hp}:∀ {v:MV} {x y:V},D3 H v x->D3 H v y->AL H (Gd v+1) x y
 | .num i,_,_,⟨p,e1,h1⟩,⟨q,e2,h2⟩=>.inr ⟨p,q,_,_,e1,e2,h1,h2,by simp,.cons (.sc rfl) (.cons (.sc rfl) .nil)⟩
 | .tru i,_,_,⟨p,e1,h1⟩,⟨q,e2,h2⟩=>.inr ⟨p,q,_,_,e1,e2,h1,h2,by simp,.cons (.sc rfl) (.cons (.sc rfl) .nil)⟩
 | .emp,_,_,⟨p,e1,h1⟩,⟨q,e2,h2⟩=>.inr ⟨p,q,_,_,e1,e2,h1,h2,by simp,.cons (.sc rfl) .nil⟩
 | .fn _ _ _,_,_,⟨p,e1,h1⟩,⟨q,e2,h2⟩=>.inr ⟨p,q,_,_,e1,e2,h1,h2,by simp,.cons (.sc rfl) .nil⟩
 | .two l a b,_,_,⟨p,ra,rb,e1,h1,ha,hb⟩,⟨q,sa,sb,e2,h2,ha',y9⟩=>by
  refine .inr ⟨p,q,_,_,e1,e2,h1,h2,by simp,.cons (.sc rfl) (.cons ((AL.of ha ha').le ?_) (.cons ((AL.of hb y9).le ?_) .nil))⟩ <;> (simp only [Gd];omega)
inductive Rt (n:Nat)(vs:(List V))(H:Hp)(Q:VK)(z3:XK):Prop
 | mk (x y:V) (h1:vs=[x,y]) (h2:AL H n x y) (h3:∀ H',An H H'->Q (.bl true) H'):Rt n vs H Q z3
noncomputable def XI:Nat->Sp
 | 0=>Mh
 | n+1=>Rt n
theorem pC:Ar ["_law_one_here","_law_other","_law_same"] ["_law_one_here","_law_other"] (Ad Bu):=nofun
theorem Ru {n:Nat}{f:Addr}{fd:FuncData}(F:Ck K "_law_alike" "_law_alike" Bu f fd)(Bv:mg "isinstance"=none)(Cp:mg "tuple"=none)(GV:mg "bool"=none)(KZ:mg "all"=none)(B1:mg "len"=none)(K':mg "min"=none)(D1:mg "range"=none)
  (cA:Cl Pr w K mg base n "_law_alike" ["_law_one_here","_law_other"] (XI n)):AI Pr w K mg base BR (n+1) f fd ["_law_one_here","_law_other"] (Rt n):=by
 refine F.okS pC (λvs H Q E h=>?_) (λBo A outer s H vs Q E hr h=>?_)
 ·obtain ⟨x,y,rfl,_⟩:=h;rfl
 ·obtain ⟨x,y,rfl,ha,q⟩:=h
  have S:BG (DE BR Pr w K mg base ["_law_one_here","_law_other","_law_same"] "_law_alike" (Ad Bu) f Bo A outer s H E).nox (CH (match inDef Bu 0 with | .If _ (.Assign _ v _::_) _ _=>v | _=>.Constant .none 0 ⟨0,0,0,0⟩)) [("_law_other",s.heap.objs.size+2),("_law_one_here",s.heap.objs.size+1)] ["_law_k"] ["_law_other","_law_one_here"] [1,0] :=
   ⟨rfl,by decide +kernel,rfl,by decide +kernel,rfl,rfl,rfl,rfl⟩
  have IS:(["_law_k","_law_other","_law_one_here"]:List Str).Nodup:=by decide +kernel
  refine ⟨_,(Ae (B4 (ID (w_and (Hf (AU F3 (by rfl) Bv PyProof.Rows.boot_isinstance (Aa (Af 0) (Aa (GK (v:=.ty "tuple") rfl Cp PyProof.Rows.boot_tuple rfl) Ab)))) (DN (Hf (AU F3 (by rfl) Bv PyProof.Rows.boot_isinstance (Aa (Af 1) (Aa (GK (v:=.ty "tuple") rfl Cp PyProof.Rows.boot_tuple rfl) Ab))))))) (Ae (GR (i:=2) pC.nd rfl (.inl rfl) (tt:=IK) (te:=DW (XI n) [] E0 (BM (Ft (GF K) (Bw 2) (Bw 0)) (BM (Ft (GF K) (Bw 1) (Bw 0)) Ez))) S rfl (HW rfl D1 (Aa (AU (Oc rfl) rfl K' PyProof.Rows.boot_min (Aa (AU AG rfl B1 PySem.boot_len (Aa (Af 0) Ab)) (Aa (AU AG rfl B1 PySem.boot_len (Aa (Af 1) Ab)) Ab))) Ab)) (λC s0 H0 ex=>C1 (i:=0) IS rfl (.inl rfl)) (λ_ _ _ _=>Fz) (λC s0 H0 ex=>B3 cA hr rfl (Aa (Av Al (Af 2) (Af 0) AR) (Aa (Av Al (Af 1) (Af 0) AR) Ab))))
   (Ai (Aw (Nm (CP AO (AU AG (by rfl) B1 PySem.boot_len (Aa (Af 0) Ab)) (AU AG (by rfl) B1 PySem.boot_len (Aa (Af 1) Ab)) (Ak _)) (Kr (AU (Jg rfl) (by rfl) KZ PyProof.Rows.boot_all (Aa (Af 2) Ab))))))) AK)
   (Ai (Aw (Nm (CP AO (AU F3 (by rfl) Bv PyProof.Rows.boot_isinstance (Aa (Af 0) (Aa (GK (v:=.ty "bool") rfl GV PyProof.Rows.boot_bool rfl) Ab))) (AU F3 (by rfl) Bv PyProof.Rows.boot_isinstance (Aa (Af 1) (Aa (GK (v:=.ty "bool") rfl GV PyProof.Rows.boot_bool rfl) Ab))) (Ak _)) (Kr (CP AO (Af 0) (Af 1) (Ak _))))))),?_⟩
  have cs:(y8 x=true/\x=y)\/U0 λm p r us vs=>n=m+1/\x=.ref p/\y=.ref r/\H p=some (.tup us)/\H r=some (.tup vs)/\us.length<=3/\Paired (AL H m) us vs:=by
   cases n with
   | zero=>exact .inl ha
   | succ m =>
    rcases ha with h | ⟨p,r,us,vs,h⟩
    ·exact .inl h
    ·exact .inr ⟨m,p,r,us,vs,rfl,h⟩
  rcases cs with ⟨hf,rfl⟩ | ⟨m,p,r,us,vs,rfl,rfl,rfl,h3,h4,h5,h6⟩
  ·have ty:Dn λt b=>Ek K H x t/\W.kitOne K t (.type "tuple")=some false/\W.kitOne K t (.type "bool")=some b/\Qj x x=true:=by
    cases x with
    | str z=>exact ⟨_,false,Ek.str z,rfl,rfl,rfl⟩
    | int z=>exact ⟨_,false,Ek.int z,rfl,rfl,rfl⟩
    | bl z=>exact ⟨_,true,Ek.bl z,rfl,rfl,rfl⟩
    | _=>cases hf
   obtain ⟨t,b,t1,t2,t3,t4⟩:=ty
   left
   refine ⟨x,t,_,false,rfl,t1,t2,?_⟩
   left
   refine DH (DH ?_)
   left
   refine ⟨x,t,_,b,rfl,t1,t3,?_⟩
   left
   refine ⟨x,t,_,b,rfl,t1,t3,?_⟩
   left
   refine Bc (decide_eq_true rfl) ?_
   left
   refine Ie t4 ?_
   rw [decide_eq_true rfl]
   exact q H (An.refl _)
  ·have l6:=Paired.len h6
   left
   refine ⟨.ref p,_,_,true,rfl,Ek.tup h3,rfl,?_⟩
   left
   refine Dm ?_
   left
   refine ⟨.ref r,_,_,true,rfl,Ek.tup h4,rfl,?_⟩
   left
   refine Dm ?_
   left
   refine ⟨p,us,rfl,.inr (AJ.of h3),?_⟩
   left
   refine ⟨r,vs,rfl,.inr (AJ.of h4),?_⟩
   left
   refine ⟨_,_,rfl,?_⟩
   left
   have ej:(if (vs.length:Int) < (us.length:Int) then (vs.length:Int) else (us.length:Int))=(us.length:Int):=by split <;> omega
   rw [ej]
   refine ⟨_,rfl,(),(),?_⟩
   rw [Int.toNat_natCast]
   refine Ig (n:=us.length) (λi ys H'=>An H H'/\ys=(List.replicate i true).map V.bl) ⟨An.refl _,rfl⟩ (by exact DI ()) (λi ys H' z=>by rw [z.2];simp) rfl (λi ys H1 hi z=>?_) (λys H1 z=>?_)
   ·obtain ⟨s1,rfl⟩:=z
    have hx:us[i]?=some us[i]:=by simp [hi]
    obtain ⟨y,hy,ay⟩:=Paired.at1 h6 hx
    left
    refine Dm ?_
    left
    rw [show (0:Int)+(i:Int)=(i:Int) by omega]
    refine Ah (AJ.of (s1 _ _ h3)) (Au hx) ?_
    left
    refine Ah (AJ.of (s1 _ _ h4)) (Au hy) ?_
    left
    refine ⟨_,_,rfl,ay.mono (Ay.of_same s1),λH2 s2=>?_⟩
    refine Nx.mk hi ⟨s1.trans s2,?_⟩
    rw [List.replicate_succ']
    simp
   ·obtain ⟨s1,rfl⟩:=z
    intros l H2 s2 e2
    left
    have Cq:=s1.trans s2
    refine ⟨p,us,rfl,.inr (AJ.of (Cq _ _ h3)),?_⟩
    left
    refine ⟨r,vs,rfl,.inr (AJ.of (Cq _ _ h4)),?_⟩
    left
    refine Bc (decide_eq_true (by rw [l6])) ?_
    left
    refine ⟨l,_,rfl,e2,?_⟩
    have Aa7:(List.replicate us.length true).all id=true:=by simp
    rw [Aa7]
    exact q H2 Cq
theorem XJ {f:Addr}{fd:FuncData}(D:Df K mg "_law_alike" Bu ["_law_one_here","_law_other"] f fd)(Bv:mg "isinstance"=none)(Cp:mg "tuple"=none)(GV:mg "bool"=none)(KZ:mg "all"=none)(B1:mg "len"=none)(K':mg "min"=none)(D1:mg "range"=none):
  ∀ n,Cl Pr w K mg base (n+1) "_law_alike" ["_law_one_here","_law_other"] (Rt n)
 | 0=>D.cl (Ru (n:=0) D.F Bv Cp GV KZ B1 K' D1 (D.cl Ia))
 | n+1=>D.cl (Ru (n:=n+1) D.F Bv Cp GV KZ B1 K' D1 (XJ D Bv Cp GV KZ B1 K' D1 n))
end
structure Hq (K:W.Frag)(mg:Str->Option Value)(C:Addr):Prop where
 cl:IC K C
 nC:Ct K C "code"
 nP:Ct K C "place"
 nL:Ct K C "pile"
 nH:Ct K C "held"
 nB:Ct K C "behind"
 nK:Ct K C "calls"
 mC:mg "Machine"=some (.ref C)
section
variable {Pr:Program}{w:World}{K:W.Frag}{mg:Str->Option Value}{base:Heap}{C CS:Addr}{bS:List Value}{nS DZ Bn:String}{code:List MS}
inductive Rv (C CS:Addr)(code:List MS)(vs:(List V))(H:Hp)(Q:VK)(E:XK):Prop
 | mk (A:MA) (s:Ma) (h1:vs=[.ref A.p]) (h2:B0 C A code H s) (h3:(∀ st,code[s.at']?=some st->∀ r H',Off A H H'->B0 C A code H' { s with at':=s.at'+1 }->JY H' st r->Q r H')) (h4:(code[s.at']?=none->∀ H',Off A H H'->E (.ref CS) none H')):Rv C CS code vs H Q E
theorem pD:Ar ["self"] ["self"] (Ad BV):=nofun
theorem b6 {f:Addr}{fd:FuncData}(F:Ck K "fetch" "Machine.fetch" BV f fd)(T:Hq K mg C)(B1:mg "len"=none)(mS:mg "Stuck"=some (.ref CS))(qS:W.excIn K CS bS nS=true)(FS:ExcBaseFacts Bn nS DZ bS):
  AI Pr w K mg base (DK Pr w) 1 f fd ["self"] (Rv C CS code):=by
 refine F.okX pD (λvs H Q E h=>?_) (λBo A0 outer s0 H vs Q E hr h=>?_)
 ·obtain ⟨A,s,rfl,_⟩:=h;rfl
 ·obtain ⟨A,s,rfl,M,q1,q2⟩:=h
  refine ⟨_,(Ae (B4 (Az Xg (By (Af 0)) (AU AG (by rfl) B1 PySem.boot_len (Aa (By (Af 0)) Ab)) (Ak _)) (Ai (Fj DU (λ_ _ h=>h) rfl mS qS FS rfl (Aa Ag Ab))) AK)
   (Ae (Ij LL (Af 0) Ac)
   (Ai (Aw (Av AA (By (Af 0)) (Aj Bx (By (Af 0)) Ac) AR))))),?_⟩
  obtain ⟨h,vs,hs,bs,h1,h2,h3,h4,h5,h6,h7⟩:=M.ex
  obtain ⟨cs,c1,c2⟩:=M.cd
  have lc:=Paired.len c2
  left
  refine ⟨A.p,C,A.dx,_,_,rfl,h1,T.cl,T.nP,rfl,?_⟩
  left
  refine ⟨A.p,C,A.dx,_,_,rfl,h1,T.cl,T.nC,rfl,?_⟩
  left
  refine ⟨A.lc,cs,rfl,.inl (AZ.of c1),?_⟩
  left
  refine Cu (λhc=>?_) λhc=>?_
  ·left
   have U4:(cs.length:Int)<=s.at':=of_decide_eq_true hc
   exact ⟨by simp,q2 (List.getElem?_eq_none ()) H (Off.of_same (An.refl _))⟩
  ·have U4:¬ (cs.length:Int)<=s.at':=λz=>hc (decide_eq_true z)
   have Ef:s.at' < code.length:=by omega
   left
   refine ⟨A.p,C,A.dx,_,_,rfl,h1,T.cl,T.nP,rfl,?_⟩
   left
   refine ⟨_,_,rfl,rfl,A.dx,_,h1,by simp [mF],?_⟩
   rw [Gg]
   have e1:(s.at':Int)+1=((s.at'+1:Nat):Int):=by omega
   rw [e1]
   have M':=M.setF h4 h5 (s.at'+1) s.calls
   have ts:=M.tsub (H':=upd H A.p (.ins C A.dx (mF A ((s.at'+1:Nat):Int) h s.calls))) Off.p
   obtain ⟨r,Dd,FA⟩:=Paired.at1 c2 (show code[s.at']?=some code[s.at'] by simp [Ef])
   have nl:A.lc≠A.p:=E7 c1 h1 (by intro z;cases z)
   left
   refine ⟨A.p,C,A.dx,_,_,rfl,Ap,T.cl,T.nC,rfl,?_⟩
   left
   refine ⟨A.p,C,A.dx,_,_,rfl,Ap,T.cl,T.nP,rfl,?_⟩
   left
   rw [KD]
   refine AX (AZ.of (show _=some (HO.lst cs) by rw [Aq nl];exact c1)) (Au Dd) ?_
   exact q1 _ (by simp [Ef]) r _ Off.p M' (FA.mono ts)
inductive Nv (C CS:Addr)(code:List MS)(vs:(List V))(H:Hp)(Q:VK)(E:XK):Prop
 | mk (A:MA) (s:Ma) (h1:vs=[.ref A.p]) (h2:B0 C A code H s) (h3:(∀ v p,s.pile=v::p->∀ r H',Off A H H'->B0 C A code H' { s with pile:=p }->GA H' v r->Q r H')) (h4:(s.pile=[]->∀ H',Off A H H'->E (.ref CS) none H')):Nv C CS code vs H Q E
theorem pE:Ar ["self"] ["self"] (Ad Ce):=nofun
theorem b7 {f:Addr}{fd:FuncData}(F:Ck K "take" "Machine.take" Ce f fd)(T:Hq K mg C)(mS:mg "Stuck"=some (.ref CS))(qS:W.excIn K CS bS nS=true)(FS:ExcBaseFacts Bn nS DZ bS):
  AI Pr w K mg base (DK Pr w) 1 f fd ["self"] (Nv C CS code):=by
 refine F.okX pE (λvs H Q E h=>?_) (λBo A0 outer s0 H vs Q E hr h=>?_)
 ·obtain ⟨A,s,rfl,_⟩:=h;rfl
 ·obtain ⟨A,s,rfl,M,q1,q2⟩:=h
  refine ⟨_,(Ae (B4 (HV (Ea (By (Af 0)))) (Ai (Fj DU (λ_ _ h=>h) rfl mS qS FS rfl (Aa Ag Ab))) AK)
   (Ai (Aw (Jh PySem.F.plainAttrs_list PySem.F.slot_list_pop PySem.F.type_list_pop GG (By (Af 0)))))),?_⟩
  obtain ⟨h,vs,hs,bs,h1,h2,h3,h4,h5,h6,h7⟩:=M.ex
  left
  refine ⟨A.p,C,A.dx,_,_,rfl,h1,T.cl,T.nL,rfl,?_⟩
  refine ⟨!vs.isEmpty,.inl ⟨vs,AZ.of h2,rfl⟩,?_⟩
  rcases e:s.pile with _ | ⟨v,p⟩
  ·rw [e] at h3
   obtain rfl:=JZ h3
   refine Bc rfl ?_
   left
   exact ⟨by simp,q2 e H (Off.of_same (An.refl _))⟩
  ·rw [e] at h3
   obtain ⟨us,x,rfl,h3,hx⟩:=Paired.last h3
   refine AN (by simp) ?_
   left
   refine ⟨A.p,C,A.dx,_,_,rfl,h1,T.cl,T.nL,rfl,?_⟩
   refine ⟨.inl ⟨rfl,_,AZ.of h2⟩,A.lp,_,x,rfl,rfl,h2,by simp,?_⟩
   rw [List.dropLast_concat]
   have ts:=M.tsub (H':=upd H A.lp (.lst us)) Off.lp
   exact q1 v p e x _ Off.lp (M.setP h3) (hx.mono ts)
inductive Rw (C CS:Addr)(code:List MS)(vs:(List V))(H:Hp)(Q:VK)(E:XK):Prop
 | mk (A:MA) (s:Ma) (t:Addr) (ws:List Str) (h1:vs=[.ref A.p,.ref t]) (h2:B0 C A code H s) (h3:H t=some (.tup (ws.map V.str))) (h4:(∀ v p,s.pile=v::p->Ms v∈ws->∀ r H',Off A H H'->B0 C A code H' { s with pile:=p }->GA H' v r->Q r H')) (h5:((s.pile=[]\/Dn λv p=>s.pile=v::p/\Ms v∉ws)->∀ H',Off A H H'->E (.ref CS) none H')):Rw C CS code vs H Q E
theorem Vj (x:Str)(ws:List Str):Dh (.str x) (ws.map V.str)=decide (x∈ws):=by
 unfold Dh
 induction ws with
 | nil=>rfl
 | cons y r ih =>
  rw [List.map_cons,List.any_cons,ih]
  have e:Qu (.str y) (.str x)=decide (x=y):=by
   by_cases h:x=y
   ·subst h;simp [Qu]
   ·have h':¬ y=x:=λz=>h z.symm
    simp [Qu,h,h']
  rw [e]
  simp
theorem XM:Ar ["self","words","value"] ["self","words"] (Ad Bj):=nofun
theorem b8 {f fT:Addr}{fd fdT:FuncData}(F:Ck K "take_sort" "Machine.take_sort" Bj f fd)(T:Hq K mg C)(mS:mg "Stuck"=some (.ref CS))(qS:W.excIn K CS bS nS=true)(FS:ExcBaseFacts Bn nS DZ bS)
  (GT:AI Pr w K mg base (DK Pr w) 1 fT fdT ["self"] (Nv C CS code)) (bT:Binds K fdT ["self"] []) (mT:Meth K C "take" fT) :
  AI Pr w K mg base (DK Pr w) 2 f fd ["self","words"] (Rw C CS code):=by
 refine F.okX XM (λvs H Q E h=>?_) (λBo A0 outer s0 H vs Q E hr h=>?_)
 ·obtain ⟨A,s,t,ws,rfl,_⟩:=h;rfl
 ·obtain ⟨A,s,t,ws,rfl,M,ht,q1,q2⟩:=h
  refine ⟨_,(Ae (Ax (i:=2) XM.nd rfl (.inl rfl) (KW (Af 0) T.cl mT GT K8 hr bT))
   (Ae (B4 (Az EA (Av Al (Av Al (Af 2) Ac AR) Ac AR) (Af 1) rfl) (Ai (Fj DU (λ_ _ h=>h) rfl mS qS FS rfl (Aa Ag Ab))) AK)
   (Ai (Aw (Af 2))))),?_⟩
  obtain ⟨h,vs,hs,bs,h1,_⟩:=M.ex
  left
  refine ⟨A.p,A.dx,_,rfl,h1,rfl,A,s,rfl,M,λv p e r H1 o1 M1 a1=>?_,λe H1 o1=>?_⟩
  ·have ht1:=M.tsub o1 _ _ ht
   obtain ⟨pv,sh,qv,us,rfl,V6,ya,hv3⟩:=a1.look
   obtain ⟨ps,TR,rfl,mh,_⟩:=ya.look
   left
   refine Ah (AJ.of V6) (v:=.ref ps) rfl ?_
   left
   refine Ah (AJ.of mh) (v:=.str (Ms v)) (Au (j:=0) rfl) ?_
   left
   refine C8 (.inr (AJ.of ht1)) rfl (by rw [List.all_eq_true];intro v hv;obtain ⟨_,_,rfl⟩:=List.mem_map.mp hv;rfl) ?_
   left
   rw [Vj]
   by_cases hm:Ms v∈ws
   ·refine AN (by simp [hm]) ?_
    left
    exact q1 v p e hm _ H1 o1 M1 a1
   ·refine Bc (by simp [hm]) ?_
    left
    exact ⟨by simp,q2 (.inr ⟨v,p,e,hm⟩) H1 o1⟩
  ·exact q2 (.inl e) H1 o1
inductive Nw (C:Addr)(code:List MS)(vs:(List V))(H:Hp)(Q:VK)(z3:XK):Prop
 | mk (A:MA) (s:Ma) (v:MV) (r1 r2:V) (h1:vs=[.ref A.p,r1,r2]) (h2:B0 C A code H s) (h3:s.pile.length<=100000) (h4:(∀ H' q,An H H'->H' q=some (.tup [r1,r2])->GA H' v (.ref q))) (h5:∀ H',Off A H H'->B0 C A code H' { s with pile:=v::s.pile }->Q .non H'):Nw C code vs H Q z3
theorem B0.push {A:MA}{H:Hp}{s:Ma}(M:B0 C A code H s){v:MV}{r:V}(a:GA H v r){vs:List V}(h2:H A.lp=some (.lst vs)):B0 C A code (upd H A.lp (.lst (vs++[r]))) { s with pile:=v::s.pile }:=by
 refine M.setP ?_
 obtain ⟨h,Gy,hs,bs,_,yb,h3,_⟩:=M.ex
 rw [h2] at yb;cases yb
 rw [List.reverse_cons]
 exact Paired.app h3 (.cons a .nil)
theorem pF:Ar ["self","value","inner"] ["self","value","inner"] (Ad Cs):=nofun
theorem b9 {f:Addr}{fd:FuncData}(F:Ck K "put" "Machine.put" Cs f fd)(T:Hq K mg C):AI Pr w K mg base BR 1 f fd ["self","value","inner"] (Nw C code):=by
 refine F.okS pF (λvs H Q E h=>?_) (λBo A0 outer s0 H vs Q E hr h=>?_)
 ·obtain ⟨A,s,v,r1,r2,rfl,_⟩:=h;rfl
 ·obtain ⟨A,s,v,r1,r2,rfl,M,hl,hv,q⟩:=h
  refine ⟨_,(Ai (BS (Oz PySem.F.plainAttrs_list PySem.F.slot_list_append PySem.F.type_list_append Em (By (Af 0)) (Aa (Am (Aa (Af 1) (Aa (Af 2) Ab))) Ab)))),?_⟩
  obtain ⟨h,vs,hs,bs,h1,h2,h3,h4,h5,h6,h7⟩:=M.ex
  have lp:=Paired.len h3
  rw [List.length_reverse] at lp
  left
  refine ⟨A.p,C,A.dx,_,_,rfl,h1,T.cl,T.nL,rfl,?_⟩
  refine ⟨.inl ⟨rfl,_,AZ.of h2⟩,?_⟩
  left
  intros t H1 s1 e1
  have M1:=M.mono s1
  have h21:=s1 _ _ h2
  refine ⟨A.lp,vs,.ref t,rfl,rfl,h21,DI (),?_⟩
  exact q _ ((Off.of_same s1).trans Off.lp) (B0.push M1 (hv H1 t s1 e1) h21)
inductive Rx (C:Addr)(code:List MS)(vs:(List V))(H:Hp)(Q:VK)(z3:XK):Prop
 | mk (A:MA) (s:Ma) (t:Addr) (us:List V) (ms:List MV) (h1:vs=[.ref A.p,.ref t]) (h2:B0 C A code H s) (h3:H t=some (.tup us)) (h4:Paired (GA H) ms us) (h5:s.held.length+ms.length<=100000) (h6:∀ H',Off A H H'->B0 C A code H' { s with held:=s.held++ms }->Q .non H'):Rx C code vs H Q z3
theorem pG:Ar ["self","values"] ["self","values"] (Ad Cf):=nofun
theorem bb {f:Addr}{fd:FuncData}(F:Ck K "hold" "Machine.hold" Cf f fd)(T:Hq K mg C):AI Pr w K mg base BR 1 f fd ["self","values"] (Rx C code):=by
 refine F.okS pG (λvs H Q E h=>?_) (λBo A0 outer s0 H vs Q E hr h=>?_)
 ·obtain ⟨A,s,t,us,ms,rfl,_⟩:=h;rfl
 ·obtain ⟨A,s,t,us,ms,rfl,M,ht,hp,hl,q⟩:=h
  refine ⟨_,(Ai (E1 (Af 0) (Aj KP (By (Af 0)) (Af 1)))),?_⟩
  obtain ⟨h,vs,hs,bs,h1,h2,h3,h4,h5,h6,h7⟩:=M.ex
  have l1:=Paired.len h5
  have l2:=Paired.len hp
  left
  refine ⟨A.p,C,A.dx,_,_,rfl,h1,T.cl,T.nH,rfl,?_⟩
  left
  refine ⟨h,t,hs,us,rfl,rfl,h4,ht,BB (),λp H1 s1 e1=>?_⟩
  left
  refine ⟨A.p,C,A.dx,_,rfl,s1 _ _ h1,T.cl,T.nH,by simp [mF],?_⟩
  rw [HB]
  have ts:=Ay.of_same s1
  exact q _ ((Off.of_same s1).trans Off.p) ((M.mono s1).setF e1 (Paired.app (Paired.mapP h5 λ_ _ z=>z.mono ts) (Paired.mapP hp λ_ _ z=>z.mono ts)) s.at' s.calls)
inductive Ry (C CS:Addr)(code:List MS)(vs:(List V))(H:Hp)(Q:VK)(E:XK):Prop
 | mk (A:MA) (s:Ma) (n:Nat) (h1:vs=[.ref A.p,.int n]) (h2:B0 C A code H s) (h3:(n<=s.held.length->Q .non H)) (h4:(s.held.length < n->E (.ref CS) none H)):Ry C CS code vs H Q E
theorem pH:Ar ["self","least"] ["self","least"] (Ad Bg):=nofun
theorem bc {f:Addr}{fd:FuncData}(F:Ck K "check_held" "Machine.check_held" Bg f fd)(T:Hq K mg C)(B1:mg "len"=none)(mS:mg "Stuck"=some (.ref CS))(qS:W.excIn K CS bS nS=true)(FS:ExcBaseFacts Bn nS DZ bS):
  AI Pr w K mg base (DK Pr w) 1 f fd ["self","least"] (Ry C CS code):=by
 refine F.okX pH (λvs H Q E h=>?_) (λBo A0 outer s0 H vs Q E hr h=>?_)
 ·obtain ⟨A,s,n,rfl,_⟩:=h;rfl
 ·obtain ⟨A,s,n,rfl,M,q1,q2⟩:=h
  refine ⟨_,(Ai (B4 (Az DD (AU AG (by rfl) B1 PySem.boot_len (Aa (By (Af 0)) Ab)) (Af 1) (Ak _)) (Ai (Fj DU (λ_ _ h=>h) rfl mS qS FS rfl (Aa Ag Ab))) AK)),?_⟩
  obtain ⟨h,vs,hs,bs,h1,h2,h3,h4,h5,h6,h7⟩:=M.ex
  have l1:=Paired.len h5
  left
  refine ⟨A.p,C,A.dx,_,_,rfl,h1,T.cl,T.nH,rfl,?_⟩
  left
  refine ⟨h,hs,rfl,.inr (AJ.of h4),?_⟩
  left
  refine Cu (λhc=>?_) λhc=>?_
  ·have U4:(hs.length:Int) < n:=of_decide_eq_true hc
   left
   exact ⟨by simp,q2 ()⟩
  ·have U4:¬ (hs.length:Int) < n:=λz=>hc (decide_eq_true z)
   left
   exact q1 ()
inductive Rz (C:Addr)(code:List MS)(vs:(List V))(H:Hp)(Q:VK)(z3:XK):Prop
 | mk (A:MA) (s:Ma) (n:Nat) (h1:vs=[.ref A.p,.int n]) (h2:B0 C A code H s) (h3:∀ H',Off A H H'->B0 C A code H' { s with at':=s.at'+n }->Q .non H'):Rz C code vs H Q z3
theorem pI:Ar ["self","further"] ["self","further"] (Ad Cg):=nofun
theorem bg {f:Addr}{fd:FuncData}(F:Ck K "skip" "Machine.skip" Cg f fd)(T:Hq K mg C):AI Pr w K mg base BR 1 f fd ["self","further"] (Rz C code):=by
 refine F.okS pI (λvs H Q E h=>?_) (λBo A0 outer s0 H vs Q E hr h=>?_)
 ·obtain ⟨A,s,n,rfl,_⟩:=h;rfl
 ·obtain ⟨A,s,n,rfl,M,q⟩:=h
  refine ⟨_,(Ai (Ij LL (Af 0) (Af 1))),?_⟩
  obtain ⟨h,vs,hs,bs,h1,h2,h3,h4,h5,h6,h7⟩:=M.ex
  left
  refine ⟨A.p,C,A.dx,_,_,rfl,h1,T.cl,T.nP,rfl,?_⟩
  left
  refine ⟨_,_,rfl,rfl,A.dx,_,h1,by simp [mF],?_⟩
  rw [Gg]
  have e1:(s.at':Int)+(n:Int)=((s.at'+n:Nat):Int):=by omega
  rw [e1]
  exact q _ Off.p (M.setF h4 h5 (s.at'+n) s.calls)
inductive Ny (C:Addr)(code:List MS)(vs:(List V))(H:Hp)(Q:VK)(z3:XK):Prop
 | mk (A:MA) (s:Ma) (a:Nat) (t:Addr) (us:List V) (ms:List MV) (h1:vs=[.ref A.p,.int a,.ref t]) (h2:B0 C A code H s) (h3:H t=some (.tup us)) (h4:Paired (GA H) ms us) (h5:s.frs.length<=100000) (h6:∀ H',Off A H H'->B0 C A code H' ⟨a,s.calls+1,s.pile,ms,(s.at',s.held)::s.frs⟩->Q .non H'):Ny C code vs H Q z3
theorem pJ:Ar ["self","begin","held"] ["self","begin","held"] (Ad BW):=nofun
theorem bj {f:Addr}{fd:FuncData}(F:Ck K "enter" "Machine.enter" BW f fd)(T:Hq K mg C):AI Pr w K mg base BR 1 f fd ["self","begin","held"] (Ny C code):=by
 refine F.okS pJ (λvs H Q E h=>?_) (λBo A0 outer s0 H vs Q E hr h=>?_)
 ·obtain ⟨A,s,a,t,us,ms,rfl,_⟩:=h;rfl
 ·obtain ⟨A,s,a,t,us,ms,rfl,M,ht,hp,hl,q⟩:=h
  refine ⟨_,(Ae (BS (Oz PySem.F.plainAttrs_list PySem.F.slot_list_append PySem.F.type_list_append Em (By (Af 0)) (Aa (Am (Aa (By (Af 0)) (Aa (By (Af 0)) Ab))) Ab)))
   (Ae (E1 (Af 0) (Af 1))
   (Ae (E1 (Af 0) (Af 2))
   (Ai (Ij LL (Af 0) Ac))))),?_⟩
  obtain ⟨h,vs,hs,bs,h1,h2,h3,h4,h5,h6,h7⟩:=M.ex
  have lb:=Paired.len h7
  rw [List.length_reverse] at lb
  left
  refine ⟨A.p,C,A.dx,_,_,rfl,h1,T.cl,T.nB,rfl,?_⟩
  refine ⟨.inl ⟨rfl,_,AZ.of h6⟩,?_⟩
  left
  refine ⟨A.p,C,A.dx,_,_,rfl,h1,T.cl,T.nP,rfl,?_⟩
  left
  refine ⟨A.p,C,A.dx,_,_,rfl,h1,T.cl,T.nH,rfl,?_⟩
  left
  intros e H1 s1 e1
  have M1:=M.mono s1
  have ts:=Ay.of_same s1
  refine ⟨A.lb,bs,.ref e,rfl,rfl,s1 _ _ h6,DI (),?_⟩
  have M2:B0 C A code (upd H1 A.lb (.lst (bs++[.ref e]))) { s with frs:=(s.at',s.held)::s.frs }:=by
   refine M1.setB ?_
   rw [List.reverse_cons]
   exact Paired.app (Paired.mapP h7 λ_ _ z=>z.mono ts) (.cons ⟨e,h,hs,rfl,e1,s1 _ _ h4,Paired.mapP h5 λ_ _ z=>z.mono ts⟩ .nil)
  have o2:Off A H (upd H1 A.lb (.lst (bs++[.ref e]))):=(Off.of_same s1).trans Off.lb
  generalize upd H1 A.lb (.lst (bs++[.ref e]))=H2 at M2 o2 ⊢
  have t2:=M.tsub o2
  obtain ⟨h',Gy,FK,OI,g1,g2,g3,g4,g5,g6,g7⟩:=M2.ex
  left
  refine ⟨A.p,C,A.dx,_,rfl,g1,T.cl,T.nP,by simp [mF],?_⟩
  rw [Gg]
  left
  refine ⟨A.p,C,A.dx,_,rfl,Ap,T.cl,T.nH,by simp [mF],?_⟩
  rw [HB,E6]
  left
  refine ⟨A.p,C,A.dx,_,_,rfl,Ap,T.cl,T.nK,rfl,?_⟩
  left
  refine ⟨_,_,rfl,rfl,A.dx,_,Ap,by simp [mF],?_⟩
  rw [Ro,E6]
  have e1:(s.calls:Int)+1=((s.calls+1:Nat):Int):=by omega
  show Q _ (upd H2 A.p (.ins C A.dx (mF A a t ((s.calls:Int)+1))))
  rw [e1]
  exact q _ (o2.trans Off.p) (M2.setF (t2 _ _ ht) (Paired.mapP hp λ_ _ z=>z.mono t2) a (s.calls+1))
inductive RA (C CS:Addr)(code:List MS)(vs:(List V))(H:Hp)(Q:VK)(E:XK):Prop
 | mk (A:MA) (s:Ma) (h1:vs=[.ref A.p]) (h2:B0 C A code H s) (h3:(∀ a h r,s.frs=(a,h)::r->∀ H',Off A H H'->B0 C A code H' ⟨a,s.calls,s.pile,h,r⟩->Q .non H')) (h4:(s.frs=[]->∀ H',Off A H H'->E (.ref CS) none H')):RA C CS code vs H Q E
theorem XN:Ar ["self","entry"] ["self"] (Ad BD):=nofun
theorem bo {f:Addr}{fd:FuncData}(F:Ck K "go_back" "Machine.go_back" BD f fd)(T:Hq K mg C)(mS:mg "Stuck"=some (.ref CS))(qS:W.excIn K CS bS nS=true)(FS:ExcBaseFacts Bn nS DZ bS):
  AI Pr w K mg base (DK Pr w) 1 f fd ["self"] (RA C CS code):=by
 refine F.okX XN (λvs H Q E h=>?_) (λBo A0 outer s0 H vs Q E hr h=>?_)
 ·obtain ⟨A,s,rfl,_⟩:=h;rfl
 ·obtain ⟨A,s,rfl,M,q1,q2⟩:=h
  refine ⟨_,(Ae (B4 (HV (Ea (By (Af 0)))) (Ai (Fj DU (λ_ _ h=>h) rfl mS qS FS rfl (Aa Ag Ab))) AK)
   (Ae (Ax (i:=1) XN.nd rfl (.inl rfl) (Jh PySem.F.plainAttrs_list PySem.F.slot_list_pop PySem.F.type_list_pop GG (By (Af 0))))
   (Ae (E1 (Af 0) (Av Al (Af 1) Ac AR))
   (Ai (E1 (Af 0) (Av Al (Af 1) Ac AR)))))),?_⟩
  obtain ⟨h,vs,hs,bs,h1,h2,h3,h4,h5,h6,h7⟩:=M.ex
  left
  refine ⟨A.p,C,A.dx,_,_,rfl,h1,T.cl,T.nB,rfl,?_⟩
  refine ⟨!bs.isEmpty,.inl ⟨bs,AZ.of h6,rfl⟩,?_⟩
  rcases e:s.frs with _ | ⟨⟨a,hd⟩,r⟩
  ·rw [e] at h7
   obtain rfl:=JZ h7
   refine Bc rfl ?_
   left
   exact ⟨by simp,q2 e H (Off.of_same (An.refl _))⟩
  ·rw [e] at h7
   obtain ⟨us,x,rfl,h8,q',k,ks,rfl,hq,hk,bq⟩:=Paired.last h7
   refine AN (by simp) ?_
   left
   refine ⟨A.p,C,A.dx,_,_,rfl,h1,T.cl,T.nB,rfl,?_⟩
   refine ⟨.inl ⟨rfl,_,AZ.of h6⟩,A.lb,_,.ref q',rfl,rfl,h6,by simp,?_⟩
   rw [List.dropLast_concat]
   have M1:B0 C A code (upd H A.lb (.lst us)) { s with frs:=r }:=M.setB h8
   have o1:Off A H (upd H A.lb (.lst us)):=Off.lb
   generalize upd H A.lb (.lst us)=H1 at M1 o1 ⊢
   have t1:=M.tsub o1
   obtain ⟨h',Gy,FK,OI,g1,g2,g3,g4,g5,g6,g7⟩:=M1.ex
   left
   refine Ah (AJ.of (t1 _ _ hq)) (v:=.int a) rfl ?_
   left
   refine ⟨A.p,C,A.dx,_,rfl,g1,T.cl,T.nP,by simp [mF],?_⟩
   rw [Gg]
   left
   have nq:q'≠A.p:=E7 (t1 _ _ hq) g1 (by intro z;cases z)
   refine Ah (AJ.of (show _=some (HO.tup [.int a,.ref k]) by rw [Aq nq];exact t1 _ _ hq)) (v:=.ref k) rfl ?_
   left
   refine ⟨A.p,C,A.dx,_,rfl,Ap,T.cl,T.nH,by simp [mF],?_⟩
   rw [HB,E6]
   exact q1 a hd r e _ (o1.trans Off.p) (M1.setF (t1 _ _ hk) (Paired.mapP bq λ_ _ z=>z.mono t1) a s.calls)
inductive Vk (CS:Addr)(vs:(List V))(H:Hp)(Q:VK)(E:XK):Prop
 | mk (o:Str) (a b:MV) (r1 r2:V) (h1:vs=[.str o,r1,r2]) (h2:D3 H a r1) (h3:D3 H b r2) (h4:Ex.isOp o) (h5:(∀ i j,a=.num i->b=.num j->∀ r H',An H H'->D3 H' (DQ o i j) r->(∀ q,r=.ref q->∀ au,An H' au->∀ p e,au p=some (.tup [r,.ref e])->au e=some (.tup [])->GA au (DQ o i j) (.ref p))->Q r H')) (h6:((∀ i j,¬ (a=.num i/\b=.num j))->E (.ref CS) none H)):Vk CS vs H Q E
theorem OV {o:Str}{i j:Int}{H:Hp}{p e:Addr}{r:V}(s:D3 H (DQ o i j) r)(h1:H p=some (.tup [r,.ref e]))(h2:H e=some (.tup [])):GA H (DQ o i j) (.ref p):=by
 unfold DQ at s ⊢
 split at s
 ·rename_i h;rw [if_pos h];exact ⟨p,r,e,rfl,h1,s,h2⟩
 ·rename_i h;rw [if_neg h]
  split at s
  ·rename_i h;rw [if_pos h];exact ⟨p,r,e,rfl,h1,s,h2⟩
  ·rename_i h;rw [if_neg h]
   split at s
   ·rename_i h;rw [if_pos h];exact ⟨p,r,e,rfl,h1,s,h2⟩
   ·rename_i h;rw [if_neg h];exact ⟨p,r,e,rfl,h1,s,h2⟩
theorem Nz {v:MV}(h:Ms v="number"):∃ i,v=.num i:=by
 cases v with
 | num i=>exact ⟨i,rfl⟩
 | tru b=>exact absurd h (show ¬ Str.ofString "truth"=Str.ofString "number" by decide)
 | emp=>exact absurd h (show ¬ Str.ofString "empty"=Str.ofString "number" by decide)
 | fn _ _ _=>exact absurd h (show ¬ Str.ofString "fun"=Str.ofString "number" by decide)
 | two l _ _ =>
  cases l
  ·exact absurd h (show ¬ Str.ofString "pair"=Str.ofString "number" by decide)
  ·exact absurd h (show ¬ Str.ofString "link"=Str.ofString "number" by decide)
theorem Aa8:Ar ["word","one","other"] ["word","one","other"] (Ad D4):=nofun
theorem pK {f:Addr}{fd:FuncData}(F:Ck K "reckoned" "reckoned" D4 f fd)(mS:mg "Stuck"=some (.ref CS))(qS:W.excIn K CS bS nS=true)(FS:ExcBaseFacts Bn nS DZ bS):
  AI Pr w K mg base (DK Pr w) 1 f fd ["word","one","other"] (Vk CS):=by
 refine F.okX Aa8 (λvs H Q E h=>?_) (λBo A0 outer s0 H vs Q E hr h=>?_)
 ·obtain ⟨o,a,b,r1,r2,rfl,_⟩:=h;rfl
 ·obtain ⟨o,a,b,r1,r2,rfl,ha,hb,io,q1,q2⟩:=h
  refine ⟨_,(Ae (B4 (ID (w_or (Az N0 (Av Al (Af 1) Ac AR) Ag (Ak _)) (Fy (Az N0 (Av Al (Af 2) Ac AR) Ag (Ak _))))) (Ai (Fj DU (λ_ _ h=>h) rfl mS qS FS rfl (Aa Ag Ab))) AK)
   (Ae (B4 (Az AO (Af 0) Ag (Ak _)) (Ai (Aw (Am (Aa Ag (Aa (Aj AW (Av Al (Af 1) Ac AR) (Av Al (Af 2) Ac AR)) Ab))))) AK)
   (Ae (B4 (Az AO (Af 0) Ag (Ak _)) (Ai (Aw (Am (Aa Ag (Aa (Aj Bx (Av Al (Af 1) Ac AR) (Av Al (Af 2) Ac AR)) Ab))))) AK)
   (Ae (B4 (Az AO (Af 0) Ag (Ak _)) (Ai (Aw (Am (Aa Ag (Aa (CP DD (Av Al (Af 1) Ac AR) (Av Al (Af 2) Ac AR) (Ak _)) Ab))))) AK)
   (Ai (Aw (Am (Aa Ag (Aa (CP AO (Av Al (Af 1) Ac AR) (Av Al (Af 2) Ac AR) (Ak _)) Ab))))))))),?_⟩
  obtain ⟨p1,us1,rfl,h1,_⟩:=ha.look
  obtain ⟨p2,RB,rfl,h2,_⟩:=hb.look
  left
  refine Ah (AJ.of h1) (v:=.str (Ms a)) (Au (j:=0) rfl) ?_
  left
  by_cases c1:Ms a="number"
  ·refine AN (by simp [c1]) ?_
   left
   refine Ah (AJ.of h2) (v:=.str (Ms b)) (Au (j:=0) rfl) ?_
   left
   by_cases c2:Ms b="number"
   ·refine AN (by simp [c2]) ?_
    obtain ⟨i,rfl⟩:=Nz c1
    obtain ⟨j,rfl⟩:=Nz c2
    obtain ⟨_,e1,h1⟩:=ha
    obtain ⟨_,e2,h2⟩:=hb
    cases e1;cases e2
    have fin:∀ (H':Hp) (p:Addr),An H H'->D3 H' (DQ o i j) (.ref p)->Q (.ref p) H':=λH' p s' sh=>q1 i j rfl rfl _ H' s' sh λq e au ZF p' e' g1 g2=>OV (sh.mono (Ay.of_same ZF)) g1 g2
    left
    rcases io with rfl | rfl | rfl | rfl
    ·refine Bc (decide_eq_true rfl) ?_
     left
     refine Ah (AJ.of h1) (v:=.int i) rfl ?_
     left
     refine Ah (AJ.of h2) (v:=.int j) rfl ?_
     left
     intros p H1 s1 e1
     exact fin H1 p s1 ⟨p,rfl,e1⟩
    ·refine AN ⟨⟩ ?_
     left
     refine Bc (decide_eq_true rfl) ?_
     left
     refine Ah (AJ.of h1) (v:=.int i) rfl ?_
     left
     refine Ah (AJ.of h2) (v:=.int j) rfl ?_
     left
     intros p H1 s1 e1
     exact fin H1 p s1 ⟨p,rfl,e1⟩
    ·refine AN ⟨⟩ ?_
     left
     refine AN ⟨⟩ ?_
     left
     refine Bc (decide_eq_true rfl) ?_
     left
     refine Ah (AJ.of h1) (v:=.int i) rfl ?_
     left
     refine Ah (AJ.of h2) (v:=.int j) rfl ?_
     left
     intros p H1 s1 e1
     exact fin H1 p s1 ⟨p,rfl,e1⟩
    ·refine AN ⟨⟩ ?_
     left
     refine AN ⟨⟩ ?_
     left
     refine AN ⟨⟩ ?_
     left
     refine Ah (AJ.of h1) (v:=.int i) rfl ?_
     left
     refine Ah (AJ.of h2) (v:=.int j) rfl ?_
     left
     intros p H1 s1 e1
     have Vl:H1 p=some (.tup [.str "truth",.bl (decide (i=j))]):=by
      rw [e1]
      congr 5
      simp
     exact fin H1 p s1 ⟨p,rfl,Vl⟩
   ·refine Bc (by simp [c2]) ?_
    left
    exact ⟨by simp,q2 λi j z=>c2 (by rw [z.2];rfl)⟩
  ·refine Bc (by simp [c1]) (Dm ?_)
   left
   exact ⟨by simp,q2 λi j z=>c1 (by rw [z.1];rfl)⟩
structure Bs (s:Ma):Prop where
 p:s.pile.length<=90000
 h:s.held.length<=90000
 f:s.frs.length<=90000
 v:∀ v∈s.pile,F' v<=90000
inductive D0 (C CS:Addr)(code:List MS)(W:MS->Prop)(vs:(List V))(H:Hp)(Q:VK)(E:XK):Prop
 | mk (A:MA) (s:Ma) (st:MS) (r:V) (h1:vs=[.ref A.p,r]) (h2:B0 C A code H { s with at':=s.at'+1 }) (h3:JY H st r) (h4:W st) (h5:st.ok) (h6:Bs s) (h7:(∀ s',exec st s=.go s'->∀ v H',Off A H H'->B0 C A code H' s'->Q v H')) (h8:(exec st s=.stuck->∀ H',Off A H H'->E (.ref CS) none H')):D0 C CS code W vs H Q E
structure MM (Pr:Program)(w:World)(K:W.Frag)(mg:Str->Option Value)(base:Heap)(C CS:Addr)(code:List MS):Prop where
 T:Hq K mg C
 tak:Mc Pr w K mg base (DK Pr w) C 1 "take" ["self"] (Nv C CS code)
 tks:Mc Pr w K mg base (DK Pr w) C 2 "take_sort" ["self","words"] (Rw C CS code)
 put:Mc Pr w K mg base BR C 1 "put" ["self","value","inner"] (Nw C code)
 hol:Mc Pr w K mg base BR C 1 "hold" ["self","values"] (Rx C code)
 chk:Mc Pr w K mg base (DK Pr w) C 1 "check_held" ["self","least"] (Ry C CS code)
 ski:Mc Pr w K mg base BR C 1 "skip" ["self","further"] (Rz C code)
 ent:Mc Pr w K mg base BR C 1 "enter" ["self","begin","held"] (Ny C code)
 gob:Mc Pr w K mg base (DK Pr w) C 1 "go_back" ["self"] (RA C CS code)
theorem pL:Ar ["machine","step"] ["machine","step"] (Ad CA):=nofun
theorem br {f:Addr}{fd:FuncData}(F:Ck K "do_itself" "do_itself" CA f fd)(N:MM Pr w K mg base C CS code):AI Pr w K mg base (DK Pr w) 3 f fd ["machine","step"] (D0 C CS code λst=>(∃ i,st=.num i)\/(∃ b,st=.tru b)\/st=.emp):=by
 refine F.okX pL (λvs H Q E h=>?_) (λBo A0 outer s0 H vs Q E hr h=>?_)
 ·obtain ⟨A,s,st,r,rfl,_⟩:=h;rfl
 ·obtain ⟨A,s,st,r,rfl,M,DM,hW,ok,B,q1,q2⟩:=h
  have Dd:AY 1 _:=hr.mono ⟨⟩
  have T:=N.T
  refine ⟨_,(Ai (BS (Ho (Af 0) T.cl N.put Dd (Aa (Af 1) (Aa (Am Ab) Ab))))),?_⟩
  obtain ⟨h,vs,hs,bs,h1,_⟩:=M.ex
  obtain ⟨p,rfl,hp⟩:=DM
  left
  refine ⟨A.p,A.dx,_,rfl,h1,rfl,?_⟩
  left
  intros e H1 s1 e1
  have key:∀ v:MV,(exec st s=.go { s with at':=s.at'+1,pile:=v::s.pile })->(∀ H' q,An H H'->H' q=some (.tup [.ref p,.ref e])->H' e=some (.tup [])->GA H' v (.ref q))->Nw C code (.ref A.p::([.ref p,.ref e]++[])) H1 (λ_ H1=>{ nx:=λx H'=>Q V.non H',rt:=Q:Ends }.nx [some (.ref A.p),some (.ref p)] H1) E0:=by
   intro v he TU
   exact ⟨A,_,v,.ref p,.ref e,rfl,M.mono s1,by have:=B.p;simp only;omega,λH2 q s2 e2=>TU H2 q (s1.trans s2) e2 (s2 _ _ e1),λH2 o2 M2=>q1 _ he _ H2 ((Off.of_same s1).trans o2) M2⟩
  rcases hW with ⟨i,rfl⟩ | ⟨b,rfl⟩ | rfl
  ·exact key (.num i) rfl λH' q s' e' g=>⟨q,.ref p,e,rfl,e',⟨p,rfl,s' _ _ hp⟩,g⟩
  ·exact key (.tru b) rfl λH' q s' e' g=>⟨q,.ref p,e,rfl,e',⟨p,rfl,s' _ _ hp⟩,g⟩
  ·exact key .emp rfl λH' q s' e' g=>⟨q,.ref p,e,rfl,e',⟨p,rfl,s' _ _ hp⟩,g⟩
theorem Vm {α:Type}{xs:List α}{n:Nat}(h:n < xs.length):Na xs (-1 - (n:Int))=xs[xs.length - 1 - n]?:=by
 unfold Na ZJ
 rw [if_neg (),if_pos ()]
 show xs[_]?=_
 congr 1
 omega
theorem pM:Ar ["machine","step"] ["machine","step"] (Ad Dq):=nofun
theorem bt {f:Addr}{fd:FuncData}(F:Ck K "do_name" "do_name" Dq f fd)(N:MM Pr w K mg base C CS code)(B1:mg "len"=none):AI Pr w K mg base (DK Pr w) 3 f fd ["machine","step"] (D0 C CS code λst=>∃ n,st=.nm n):=by
 refine F.okX pM (λvs H Q E h=>?_) (λBo A0 outer s0 H vs Q E hr h=>?_)
 ·obtain ⟨A,s,st,r,rfl,_⟩:=h;rfl
 ·obtain ⟨A,s,st,r,rfl,M,DM,hW,ok,B,q1,q2⟩:=h
  have Dd:AY 1 _:=hr.mono ⟨⟩
  have T:=N.T
  refine ⟨_,(Ae (BS (Jl (Af 0) T.cl N.chk K8 Dd (Aa (Aj AW (Av Al (Af 1) Ac AR) Ac) Ab)))
   (Ai (BS (Oz PySem.F.plainAttrs_list PySem.F.slot_list_append PySem.F.type_list_append Em (By (Af 0)) (Aa (Av Al (By (Af 0)) (Aj Bx (Vd JF Ac) (Av Al (Af 1) Ac AR)) AR) Ab))))),?_⟩
  obtain ⟨h,vs,hs,bs,h1,h2,h3,h4,h5,h6,h7⟩:=M.ex
  obtain ⟨p,rfl,hp⟩:=DM
  obtain ⟨n,rfl⟩:=hW
  have l5:=Paired.len h5
  have l3:=Paired.len h3
  rw [List.length_reverse] at l3
  have l3:s.pile.length=vs.length:=l3
  have bp:s.pile.length<=90000:=B.p
  have l5':s.held.length=hs.length:=l5
  left
  refine ⟨A.p,A.dx,_,rfl,h1,rfl,?_⟩
  left
  refine Ah (AJ.of hp) (v:=.int n) rfl ?_
  left
  rw [show (n:Int)+1=((n+1:Nat):Int) by omega]
  refine ⟨A,_,n+1,rfl,M,λhn=>?_,λhn=>?_⟩
  ·have hn:n+1<=s.held.length:=hn
   left
   refine ⟨A.p,C,A.dx,_,_,rfl,h1,T.cl,T.nL,rfl,?_⟩
   refine ⟨.inl ⟨rfl,_,AZ.of h2⟩,?_⟩
   left
   refine ⟨A.p,C,A.dx,_,_,rfl,h1,T.cl,T.nH,rfl,?_⟩
   left
   refine Ah (AJ.of hp) (v:=.int n) rfl ?_
   left
   have hx:s.held[s.held.length - 1 - n]?=some (s.held[s.held.length - 1 - n]'()):=by rw [List.getElem?_eq_getElem]
   obtain ⟨x,xI,xJ⟩:=Paired.at1 h5 hx
   refine Ah (AJ.of h4) (v:=x) (by show Na hs (-1 - (n:Int))=some x;rw [Vm (),<- l5'];exact xI) ?_
   left
   refine ⟨A.lp,vs,x,rfl,rfl,h2,DI (),?_⟩
   refine q1 { s with at':=s.at'+1,pile:=(s.held[s.held.length - 1 - n]'())::s.pile } ?_ _ _ Off.lp (B0.push M xJ h2)
   show (match (if n < s.held.length then s.held[s.held.length - 1 - n]? else none) with | some v=>Rs.go { s with at':=s.at'+1,pile:=v::s.pile } | none=>.stuck)=_
   rw [if_pos (),hx]
  ·have hn:s.held.length < n+1:=hn
   refine q2 ?_ H (Off.of_same (An.refl _))
   show (match (if n < s.held.length then s.held[s.held.length - 1 - n]? else none) with | some v=>Rs.go { s with at':=s.at'+1,pile:=v::s.pile } | none=>.stuck)=_
   rw [if_neg ()]
theorem pN:Ar ["machine","step"] ["machine","step"] (Ad C3):=nofun
theorem bu {f:Addr}{fd:FuncData}(F:Ck K "do_function" "do_function" C3 f fd)(N:MM Pr w K mg base C CS code):AI Pr w K mg base (DK Pr w) 3 f fd ["machine","step"] (D0 C CS code λst=>(∃ n,st=.fn n)\/∃ n,st=.rc n):=by
 refine F.okX pN (λvs H Q E h=>?_) (λBo A0 outer s0 H vs Q E hr h=>?_)
 ·obtain ⟨A,s,st,r,rfl,_⟩:=h;rfl
 ·obtain ⟨A,s,st,r,rfl,M,DM,hW,ok,B,q1,q2⟩:=h
  have Dd:AY 1 _:=hr.mono ⟨⟩
  have T:=N.T
  refine ⟨_,(Ae (BS (Ho (Af 0) T.cl N.put Dd (Aa (Am (Aa Ag Ab)) (Aa (Am (Aa (By (Af 0)) (Aa (By (Af 0)) (Aa (CP AO (Av Al (Af 1) Ac AR) Ag (Ak _)) Ab)))) Ab))))
   (Ai (BS (Ho (Af 0) T.cl N.ski Dd (Aa (Av Al (Af 1) Ac AR) Ab))))),?_⟩
  obtain ⟨h,vs,hs,bs,h1,h2,h3,h4,h5,h6,h7⟩:=M.ex
  obtain ⟨p,rfl,hp⟩:=DM
  have bp:s.pile.length<=90000:=B.p
  have cs:Dn λ(b:Bool) (n:Nat)=>st.cnt=[.str (fw b),.int n]/\exec st s=.go { s with at':=s.at'+1+n,pile:=.fn b (s.at'+1) s.held::s.pile }:=by
   rcases hW with ⟨n,rfl⟩ | ⟨n,rfl⟩
   ·exact ⟨false,n,rfl,rfl⟩
   ·exact ⟨true,n,rfl,rfl⟩
  obtain ⟨b,n,bw,hex⟩:=cs
  rw [bw] at hp
  left
  refine ⟨A.p,A.dx,_,rfl,h1,rfl,?_⟩
  left
  intros p1 H1 s1 e1
  left
  refine ⟨A.p,C,A.dx,_,_,rfl,s1 _ _ h1,T.cl,T.nP,rfl,?_⟩
  left
  refine ⟨A.p,C,A.dx,_,_,rfl,s1 _ _ h1,T.cl,T.nH,rfl,?_⟩
  left
  refine Ah (AJ.of (s1 _ _ hp)) (v:=.str (fw b)) rfl ?_
  left
  intros p2 H2 s2 e2
  left
  have Cq:=s1.trans s2
  have eb:decide (V.str (fw b)=V.str "rec")=b:=by cases b <;> decide
  rw [eb] at e2
  refine ⟨A,_,.fn b (s.at'+1) s.held,.ref p1,.ref p2,rfl,M.mono Cq,by simp only;omega,λH3 q s3 e3=>?_,λH3 o3 M3=>?_⟩
  ·have ts:=Ay.of_same (Cq.trans s3)
   exact ⟨q,.ref p1,p2,h,hs,rfl,e3,⟨p1,rfl,s3 _ _ (s2 _ _ e1)⟩,s3 _ _ e2,ts _ _ h4,Ge.mpr (Paired.mapP h5 λ_ _ z=>z.mono ts)⟩
  ·have t3:=(M.mono Cq).tsub o3
   obtain ⟨h',Gy,FK,OI,g1,_⟩:=M3.ex
   left
   refine ⟨A.p,A.dx,_,rfl,g1,rfl,?_⟩
   left
   refine Ah (AJ.of (t3 _ _ (Cq _ _ hp))) (v:=.int n) rfl ?_
   left
   refine ⟨A,_,n,rfl,M3,λH4 o4 M4=>?_⟩
   exact q1 _ hex _ H4 ((Off.of_same Cq).trans (o3.trans o4)) M4
theorem RC:Ar ["machine","step","other","one"] ["machine","step"] (Ad E2):=nofun
theorem bx {f:Addr}{fd:FuncData}(F:Ck K "do_two" "do_two" E2 f fd)(N:MM Pr w K mg base C CS code):AI Pr w K mg base (DK Pr w) 3 f fd ["machine","step"] (D0 C CS code λst=>st=.pr\/st=.lk):=by
 refine F.okX RC (λvs H Q E h=>?_) (λBo A0 outer s0 H vs Q E hr h=>?_)
 ·obtain ⟨A,s,st,r,rfl,_⟩:=h;rfl
 ·obtain ⟨A,s,st,r,rfl,M,DM,hW,ok,B,q1,q2⟩:=h
  have Dd:AY 1 _:=hr.mono ⟨⟩
  have T:=N.T
  refine ⟨_,(Ae (Ax (i:=2) RC.nd rfl (.inl rfl) (EF (Af 0) T.cl N.tak K8 Dd))
   (Ae (Ax (i:=3) RC.nd rfl (.inl rfl) (EF (Af 0) T.cl N.tak K8 Dd))
   (Ai (BS (Ho (Af 0) T.cl N.put Dd (Aa (Am (Aa (Av Al (Af 1) Ac AR) (Aa (Av Al (Af 3) Ac AR) (Aa (Av Al (Af 2) Ac AR) Ab)))) (Aa (Am (Aa (Af 3) (Aa (Af 2) Ab))) Ab))))))),?_⟩
  obtain ⟨h,vs,hs,bs,h1,h2,h3,h4,h5,h6,h7⟩:=M.ex
  obtain ⟨p,rfl,hp⟩:=DM
  have bp:s.pile.length<=90000:=B.p
  have cs:∃ l:Bool,st.cnt=[.str (tw l)]/\exec st s=(match s.pile with | b::a::r=>.go { s with at':=s.at'+1,pile:=.two l a b::r } | _=>.stuck):=by
   rcases hW with rfl | rfl
   ·exact ⟨false,rfl,rfl⟩
   ·exact ⟨true,rfl,rfl⟩
  obtain ⟨l,bw,hex⟩:=cs
  rw [bw] at hp
  left
  refine ⟨A.p,A.dx,_,rfl,h1,rfl,A,_,rfl,M,λv2 p2 e r2 H1 o1 M1 a2=>?_,λe H1 o1=>?_⟩
  ·have e:s.pile=v2::p2:=e
   have t1:=M.tsub o1
   obtain ⟨h',Gy,FK,OI,g1,_⟩:=M1.ex
   left
   refine ⟨A.p,A.dx,_,rfl,g1,rfl,A,_,rfl,M1,λv1 p1 e1 r1 H2 o2 M2 a1=>?_,λe1 H2 o2=>?_⟩
   ·have e1:p2=v1::p1:=e1
    subst e1
    have t2:=M1.tsub o2
    obtain ⟨og,bA,Ko,bB,g2,_⟩:=M2.ex
    have a2:=a2.mono t2
    obtain ⟨q1',pO,w1,us1,rfl,k1,k2,k3⟩:=a1.look
    obtain ⟨q2',pP,w2,RB,rfl,k4,k5,k6⟩:=a2.look
    left
    refine ⟨A.p,A.dx,_,rfl,g2,rfl,?_⟩
    left
    refine Ah (AJ.of (t2 _ _ (t1 _ _ hp))) (v:=.str (tw l)) rfl ?_
    left
    refine Ah (AJ.of k1) (v:=pO) rfl ?_
    left
    refine Ah (AJ.of k4) (v:=pP) rfl ?_
    left
    intros p3 H3 s3 e3
    left
    intros p4 H4 s4 e4
    left
    have K9:=s3.trans s4
    refine ⟨A,_,.two l v1 v2,.ref p3,.ref p4,rfl,M2.mono K9,?_,λH5 q s5 e5=>?_,λH5 o5 M5=>?_⟩
    ·rw [e] at bp;simp at bp;simp only;omega
    ·have ts:=Ay.of_same (K9.trans s5)
     exact ⟨q,.ref p3,p4,_,_,rfl,e5,⟨p3,pO,pP,rfl,s5 _ _ (s4 _ _ e3),k2.mono ts,k5.mono ts⟩,s5 _ _ e4,a1.mono ts,a2.mono ts⟩
    ·refine q1 { s with at':=s.at'+1,pile:=.two l v1 v2::p1 } ?_ _ H5 (o1.trans (o2.trans ((Off.of_same K9).trans o5))) M5
     rw [hex,e]
   ·have e1:p2=[]:=e1
    refine q2 ?_ H2 (o1.trans o2)
    rw [hex,e,e1]
  ·have e:s.pile=[]:=e
   refine q2 ?_ H1 o1
   rw [hex,e]
theorem RD:Ar ["machine","step","other","one"] ["machine","step"] (Ad EG):=nofun
theorem bD {f:Addr}{fd:FuncData}(F:Ck K "do_op" "do_op" EG f fd)(N:MM Pr w K mg base C CS code)(cRk:ClX Pr w K mg base 1 "reckoned" ["word","one","other"] (Vk CS)):AI Pr w K mg base (DK Pr w) 3 f fd ["machine","step"] (D0 C CS code λst=>∃ o,st=.op o):=by
 refine F.okX RD (λvs H Q E h=>?_) (λBo A0 outer s0 H vs Q E hr h=>?_)
 ·obtain ⟨A,s,st,r,rfl,_⟩:=h;rfl
 ·obtain ⟨A,s,st,r,rfl,M,DM,hW,ok,B,q1,q2⟩:=h
  have Dd:AY 1 _:=hr.mono ⟨⟩
  have T:=N.T
  refine ⟨_,(Ae (Ax (i:=2) RD.nd rfl (.inl rfl) (EF (Af 0) T.cl N.tak K8 Dd))
   (Ae (Ax (i:=3) RD.nd rfl (.inl rfl) (EF (Af 0) T.cl N.tak K8 Dd))
   (Ai (BS (Ho (Af 0) T.cl N.put Dd (Aa (pj cRk K8 Dd rfl (Aa (Av Al (Af 1) Ac AR) (Aa (Av Al (Af 3) Ac AR) (Aa (Av Al (Af 2) Ac AR) Ab)))) (Aa (Am Ab) Ab))))))),?_⟩
  obtain ⟨h,vs,hs,bs,h1,h2,h3,h4,h5,h6,h7⟩:=M.ex
  obtain ⟨p,rfl,hp⟩:=DM
  have bp:s.pile.length<=90000:=B.p
  obtain ⟨o,rfl⟩:=hW
  have stk:(∀ i j r,¬ s.pile=.num j::.num i::r)->exec (.op o) s=.stuck:=λhn=>by
   show (match s.pile with | .num j::.num i::r=>Rs.go { s with at':=s.at'+1,pile:=DQ o i j::r } | _=>.stuck)=_
   split
   ·rename_i j i r e;exact absurd e (hn i j r)
   ·rfl
  left
  refine ⟨A.p,A.dx,_,rfl,h1,rfl,A,_,rfl,M,λv2 p2 e r2 H1 o1 M1 a2=>?_,λe H1 o1=>?_⟩
  ·have e:s.pile=v2::p2:=e
   have t1:=M.tsub o1
   obtain ⟨h',Gy,FK,OI,g1,_⟩:=M1.ex
   left
   refine ⟨A.p,A.dx,_,rfl,g1,rfl,A,_,rfl,M1,λv1 p1 e1 r1 H2 o2 M2 a1=>?_,λe1 H2 o2=>?_⟩
   ·have e1:p2=v1::p1:=e1
    subst e1
    have t2:=M1.tsub o2
    obtain ⟨og,bA,Ko,bB,g2,_⟩:=M2.ex
    have a2:=a2.mono t2
    obtain ⟨q1',pO,w1,us1,rfl,k1,k2,k3⟩:=a1.look
    obtain ⟨q2',pP,w2,RB,rfl,k4,k5,k6⟩:=a2.look
    left
    refine ⟨A.p,A.dx,_,rfl,g2,rfl,?_⟩
    left
    refine Ah (AJ.of (t2 _ _ (t1 _ _ hp))) (v:=.str o) rfl ?_
    left
    refine Ah (AJ.of k1) (v:=pO) rfl ?_
    left
    refine Ah (AJ.of k4) (v:=pP) rfl ?_
    left
    refine ⟨o,v1,v2,pO,pP,rfl,k2,k5,ok,λi j ei ej r H3 s3 sh pt=>?_,λhn=>?_⟩
    ·subst ei ej
     left
     intros p4 H4 s4 e4
     left
     have K9:=s3.trans s4
     obtain ⟨qr,TR,rfl,_,_⟩:=sh.look
     refine ⟨A,_,DQ o i j,.ref qr,.ref p4,rfl,M2.mono K9,?_,λH5 q s5 e5=>pt qr rfl H5 (s4.trans s5) q p4 e5 (s5 _ _ e4),λH5 o5 M5=>?_⟩
     ·rw [e] at bp;simp at bp;simp only;omega
     ·refine q1 { s with at':=s.at'+1,pile:=DQ o i j::p1 } ?_ _ H5 (o1.trans (o2.trans ((Off.of_same K9).trans o5))) M5
      show (match s.pile with | .num j::.num i::r=>Rs.go { s with at':=s.at'+1,pile:=DQ o i j::r } | _=>.stuck)=_
      rw [e]
    ·refine q2 (stk λi j r z=>?_) H2 (o1.trans o2)
     rw [e] at z
     injection z with z1 z2
     injection z2 with z2 z3
     exact hn i j ⟨z2,z1⟩
   ·have e1:p2=[]:=e1
    refine q2 (stk λi j r z=>?_) H2 (o1.trans o2)
    rw [e,e1] at z;cases z
  ·have e:s.pile=[]:=e
   refine q2 (stk λi j r z=>?_) H1 o1
   rw [e] at z;cases z
theorem bE {v:MV}(h:Ms v∈[Str.ofString "fun"]):EM λr a h=>v=.fn r a h:=by
 have h:=List.mem_singleton.mp h
 cases v with
 | fn r a hh=>exact ⟨r,a,hh,rfl⟩
 | num _=>exact absurd h (show ¬ Str.ofString "number"=Str.ofString "fun" by decide)
 | tru b=>exact absurd h (show ¬ Str.ofString "truth"=Str.ofString "fun" by decide)
 | emp=>exact absurd h (show ¬ Str.ofString "empty"=Str.ofString "fun" by decide)
 | two l _ _ =>
  cases l
  ·exact absurd h (show ¬ Str.ofString "pair"=Str.ofString "fun" by decide)
  ·exact absurd h (show ¬ Str.ofString "link"=Str.ofString "fun" by decide)
theorem RE {v:MV}(h:Ms v∈[Str.ofString "pair"]):Dn λa b=>v=.two false a b:=by
 have h:=List.mem_singleton.mp h
 cases v with
 | fn r a b=>exact absurd h (show ¬ Str.ofString "fun"=Str.ofString "pair" by decide)
 | num _=>exact absurd h (show ¬ Str.ofString "number"=Str.ofString "pair" by decide)
 | tru b=>exact absurd h (show ¬ Str.ofString "truth"=Str.ofString "pair" by decide)
 | emp=>exact absurd h (show ¬ Str.ofString "empty"=Str.ofString "pair" by decide)
 | two l a b =>
  cases l
  ·exact ⟨a,b,rfl⟩
  ·exact absurd h (show ¬ Str.ofString "link"=Str.ofString "pair" by decide)
theorem Vn {v:MV}(h:Ms v∈[Str.ofString "truth"]):∃ b,v=.tru b:=by
 have h:=List.mem_singleton.mp h
 cases v with
 | fn r a b=>exact absurd h (show ¬ Str.ofString "fun"=Str.ofString "truth" by decide)
 | num _=>exact absurd h (show ¬ Str.ofString "number"=Str.ofString "truth" by decide)
 | tru b=>exact ⟨b,rfl⟩
 | emp=>exact absurd h (show ¬ Str.ofString "empty"=Str.ofString "truth" by decide)
 | two l a b =>
  cases l
  ·exact absurd h (show ¬ Str.ofString "pair"=Str.ofString "truth" by decide)
  ·exact absurd h (show ¬ Str.ofString "link"=Str.ofString "truth" by decide)
theorem RF {v:MV}(h:Ms v∈[Str.ofString "empty",Str.ofString "link"]):v=.emp\/Dn λa b=>v=.two true a b:=by
 cases v with
 | fn r a b=>exact absurd h (show ¬ Str.ofString "fun"∈[Str.ofString "empty",Str.ofString "link"] by decide)
 | num _=>exact absurd h (show ¬ Str.ofString "number"∈[Str.ofString "empty",Str.ofString "link"] by decide)
 | tru b=>exact absurd h (show ¬ Str.ofString "truth"∈[Str.ofString "empty",Str.ofString "link"] by decide)
 | emp=>exact .inl rfl
 | two l a b =>
  cases l
  ·exact absurd h (show ¬ Str.ofString "pair"∈[Str.ofString "empty",Str.ofString "link"] by decide)
  ·exact .inr ⟨a,b,rfl⟩
theorem NA:Ar ["machine","step","value","function","inner"] ["machine","step"] (Ad Dr):=nofun
theorem bF {f:Addr}{fd:FuncData}(F:Ck K "do_call" "do_call" Dr f fd)(N:MM Pr w K mg base C CS code):AI Pr w K mg base (DK Pr w) 3 f fd ["machine","step"] (D0 C CS code λst=>st=.call):=by
 refine F.okX NA (λvs H Q E h=>?_) (λBo A0 outer s0 H vs Q E hr h=>?_)
 ·obtain ⟨A,s,st,r,rfl,_⟩:=h;rfl
 ·obtain ⟨A,s,st,r,rfl,M,DM,hW,ok,B,q1,q2⟩:=h
  have Dd:AY 1 _:=hr.mono ⟨⟩
  have T:=N.T
  refine ⟨_,(Ae (Ax (i:=2) NA.nd rfl (.inl rfl) (EF (Af 0) T.cl N.tak K8 Dd))
   (Ae (Ax (i:=3) NA.nd rfl (.inl rfl) (Jl (Af 0) T.cl N.tks K8 hr (Aa (Am (Aa Ag Ab)) Ab)))
   (Ae (Ax (i:=4) NA.nd rfl (.inl rfl) (Av Al (Af 3) Ac AR))
   (Ai (BS (Ho (Af 0) T.cl N.ent Dd (Aa (Av Al (Af 4) Ac AR) (Aa (Aj KP (Av Al (Af 4) Ac AR) (Ks (Hf (Av Al (Af 4) Ac AR)) (Am (Aa (Af 3) (Aa (Af 2) Ab))) (Am (Aa (Af 2) Ab)))) Ab)))))))),?_⟩
  obtain ⟨h,vs,hs,bs,h1,h2,h3,h4,h5,h6,h7⟩:=M.ex
  obtain ⟨p,rfl,hp⟩:=DM
  have bp:s.pile.length<=90000:=B.p
  have bv:=B.v
  have bf:s.frs.length<=90000:=B.f
  subst hW
  have stk:(∀ v r a h p,¬ s.pile=v::.fn r a h::p)->exec .call s=.stuck:=λhn=>by
   show (match s.pile with | v::.fn r a h::p=>Rs.go ⟨a,s.calls+1,p,h++(if r then [MV.fn r a h,v] else [v]),(s.at'+1,s.held)::s.frs⟩ | _=>.stuck)=_
   split
   ·rename_i v r a h p e;exact absurd e (hn v r a h p)
   ·rfl
  left
  refine ⟨A.p,A.dx,_,rfl,h1,rfl,A,_,rfl,M,λv2 p2 e r2 H1 o1 M1 a2=>?_,λe H1 o1=>?_⟩
  ·have e:s.pile=v2::p2:=e
   obtain ⟨h',Gy,FK,OI,g1,_⟩:=M1.ex
   left
   refine ⟨A.p,A.dx,_,rfl,g1,rfl,?_⟩
   left
   intros tf H1' s1 e1f
   refine ⟨A,_,tf,["fun"],rfl,M1.mono s1,e1f,λv1 p1 e1 QM r1 H2 o2 M2 a1=>?_,λe1 H2 o2=>?_⟩
   ·have e1:p2=v1::p1:=e1
    subst e1
    obtain ⟨c,a,hh,rfl⟩:=bE QM
    have t2:=(M1.mono s1).tsub o2
    have a2:=(a2.mono (Ay.of_same s1)).mono t2
    obtain ⟨q,sh,qi,k,us,rfl,k1,k2,k3,k4,k5⟩:=id a1
    have k5':=Ge.mp k5
    have F':F' (.fn c a hh)<=90000:=bv _ (by rw [e];exact .tail _ (.head _))
    have yc:hh.length<=90000:=Nat.le_trans (Nat.le_max_left _ _) F'
    have luh:=Paired.len k5'
    obtain ⟨og,bA,Ko,bB,g2,_⟩:=M2.ex
    left
    refine Ah (AJ.of k1) (v:=.ref qi) rfl ?_
    left
    refine ⟨A.p,A.dx,_,rfl,g2,rfl,?_⟩
    left
    refine Ah (AJ.of k3) (v:=.int a) rfl ?_
    left
    refine Ah (AJ.of k3) (v:=.ref k) rfl ?_
    left
    refine Ah (AJ.of k3) (v:=.bl c) rfl ?_
    left
    have fin:∀ (H3:Hp) (pt:Addr) (more:List V) (ms:List MV),An H2 H3->H3 pt=some (.tup more)->Paired (GA H3) ms more->ms=(if c then [.fn c a hh,v2] else [v2]) ->
      Rm (.ref k) (.ref pt) H3 λx H4=>Ez [some (.ref A.p),some (.ref p),some r2,some (.ref q),some (.ref qi)] H4 λxs H5=>Ny C code (.ref A.p::(.int a::x::xs++[])) H5 (λv H6=>Q .non H6) E0:=by
     intro H3 pt more ms s3 E4 Vo bG
     have lm:=Paired.len Vo
     have lms:ms.length<=2:=by rw [bG];split <;> simp
     refine ⟨k,pt,us,more,rfl,rfl,s3 _ _ k4,E4,BB (),λpn H4 s4 e4=>?_⟩
     have ts4:=Ay.of_same s4
     refine ⟨A,_,a,pn,us++more,hh++ms,rfl,M2.mono (s3.trans s4),e4,Paired.app (Paired.mapP k5' λ_ _ z=>(z.mono (Ay.of_same s3)).mono ts4) (Paired.mapP Vo λ_ _ z=>z.mono ts4),by simp only;omega,λH5 o5 M5=>?_⟩
     refine q1 ⟨a,s.calls+1,p1,hh++ms,(s.at'+1,s.held)::s.frs⟩ ?_ _ H5 (o1.trans ((Off.of_same s1).trans (o2.trans ((Off.of_same (s3.trans s4)).trans o5)))) M5
     show (match s.pile with | v::.fn r a h::p=>Rs.go ⟨a,s.calls+1,p,h++(if r then [MV.fn r a h,v] else [v]),(s.at'+1,s.held)::s.frs⟩ | _=>.stuck)=_
     rw [e,bG]
    cases c with
    | true =>
     refine Dm ?_
     left
     intros pt H3 s3 e3
     exact fin H3 pt _ _ s3 e3 (.cons (a1.mono (Ay.of_same s3)) (.cons (a2.mono (Ay.of_same s3)) .nil)) rfl
    | false =>
     refine DH ?_
     left
     intros pt H3 s3 e3
     exact fin H3 pt _ _ s3 e3 (.cons (a2.mono (Ay.of_same s3)) .nil) rfl
   ·refine q2 (stk λv r a h' p' z=>?_) H2 (o1.trans ((Off.of_same s1).trans o2))
    rw [e] at z
    injection z with z1 z2
    rcases e1 with e1 | ⟨v',bH,e1,JM⟩
    ·have e1:p2=[]:=e1
     rw [e1] at z2;cases z2
    ·have e1:p2=v'::bH:=e1
     rw [e1] at z2
     injection z2 with z3 z4
     rw [z3] at JM
     exact JM (.head _)
  ·have e:s.pile=[]:=e
   refine q2 (stk λv r a h p z=>?_) H1 o1
   rw [e] at z;cases z
theorem pQ:Ar ["machine","step"] ["machine","step"] (Ad Ds):=nofun
theorem bJ {f:Addr}{fd:FuncData}(F:Ck K "do_back" "do_back" Ds f fd)(N:MM Pr w K mg base C CS code):AI Pr w K mg base (DK Pr w) 3 f fd ["machine","step"] (D0 C CS code λst=>st=.back):=by
 refine F.okX pQ (λvs H Q E h=>?_) (λBo A0 outer s0 H vs Q E hr h=>?_)
 ·obtain ⟨A,s,st,r,rfl,_⟩:=h;rfl
 ·obtain ⟨A,s,st,r,rfl,M,DM,hW,ok,B,q1,q2⟩:=h
  have Dd:AY 1 _:=hr.mono ⟨⟩
  have T:=N.T
  refine ⟨_,(Ai (BS (EF (Af 0) T.cl N.gob K8 Dd))),?_⟩
  obtain ⟨h,vs,hs,bs,h1,h2,h3,h4,h5,h6,h7⟩:=M.ex
  obtain ⟨p,rfl,hp⟩:=DM
  subst hW
  left
  refine ⟨A.p,A.dx,_,rfl,h1,rfl,A,_,rfl,M,λa hd r e H1 o1 M1=>?_,λe H1 o1=>?_⟩
  ·have e:s.frs=(a,hd)::r:=e
   refine q1 ⟨a,s.calls,s.pile,hd,r⟩ ?_ _ H1 o1 M1
   show (match s.frs with | (a,h)::r=>Rs.go ⟨a,s.calls,s.pile,h,r⟩ | []=>.stuck)=_
   rw [e]
  ·have e:s.frs=[]:=e
   refine q2 ?_ H1 o1
   show (match s.frs with | (a,h)::r=>Rs.go ⟨a,s.calls,s.pile,h,r⟩ | []=>.stuck)=_
   rw [e]
theorem pR:Ar ["machine","step"] ["machine","step"] (Ad E3):=nofun
theorem bL {f:Addr}{fd:FuncData}(F:Ck K "do_let" "do_let" E3 f fd)(N:MM Pr w K mg base C CS code):AI Pr w K mg base (DK Pr w) 3 f fd ["machine","step"] (D0 C CS code λst=>st=.lt):=by
 refine F.okX pR (λvs H Q E h=>?_) (λBo A0 outer s0 H vs Q E hr h=>?_)
 ·obtain ⟨A,s,st,r,rfl,_⟩:=h;rfl
 ·obtain ⟨A,s,st,r,rfl,M,DM,hW,ok,B,q1,q2⟩:=h
  have Dd:AY 1 _:=hr.mono ⟨⟩
  have T:=N.T
  refine ⟨_,(Ai (BS (Ho (Af 0) T.cl N.hol Dd (Aa (Am (Aa (EF (Af 0) T.cl N.tak K8 Dd) Ab)) Ab)))),?_⟩
  obtain ⟨h,vs,hs,bs,h1,h2,h3,h4,h5,h6,h7⟩:=M.ex
  obtain ⟨p,rfl,hp⟩:=DM
  subst hW
  have bh:s.held.length<=90000:=B.h
  left
  refine ⟨A.p,A.dx,_,rfl,h1,rfl,?_⟩
  left
  refine ⟨A.p,A.dx,_,rfl,h1,rfl,A,_,rfl,M,λv2 p2 e r2 H1 o1 M1 a2=>?_,λe H1 o1=>?_⟩
  ·have e:s.pile=v2::p2:=e
   left
   intros pt H2 s2 e2
   refine ⟨A,_,pt,_,[v2],rfl,M1.mono s2,e2,.cons (a2.mono (Ay.of_same s2)) .nil,by simp;omega,λH3 o3 M3=>?_⟩
   refine q1 { s with at':=s.at'+1,pile:=p2,held:=s.held++[v2] } ?_ _ H3 (o1.trans ((Off.of_same s2).trans o3)) M3
   show (match s.pile with | v::p=>Rs.go { s with at':=s.at'+1,pile:=p,held:=s.held++[v] } | []=>.stuck)=_
   rw [e]
  ·have e:s.pile=[]:=e
   refine q2 ?_ H1 o1
   show (match s.pile with | v::p=>Rs.go { s with at':=s.at'+1,pile:=p,held:=s.held++[v] } | []=>.stuck)=_
   rw [e]
theorem pS:Ar ["machine","step"] ["machine","step"] (Ad Dt):=nofun
theorem bN {f:Addr}{fd:FuncData}(F:Ck K "do_open" "do_open" Dt f fd)(N:MM Pr w K mg base C CS code):AI Pr w K mg base (DK Pr w) 3 f fd ["machine","step"] (D0 C CS code λst=>st=.opn):=by
 refine F.okX pS (λvs H Q E h=>?_) (λBo A0 outer s0 H vs Q E hr h=>?_)
 ·obtain ⟨A,s,st,r,rfl,_⟩:=h;rfl
 ·obtain ⟨A,s,st,r,rfl,M,DM,hW,ok,B,q1,q2⟩:=h
  have Dd:AY 1 _:=hr.mono ⟨⟩
  have T:=N.T
  refine ⟨_,(Ai (BS (Ho (Af 0) T.cl N.hol Dd (Aa (Av Al (Jl (Af 0) T.cl N.tks K8 hr (Aa (Am (Aa Ag Ab)) Ab)) Ac AR) Ab)))),?_⟩
  obtain ⟨h,vs,hs,bs,h1,h2,h3,h4,h5,h6,h7⟩:=M.ex
  obtain ⟨p,rfl,hp⟩:=DM
  subst hW
  have bh:s.held.length<=90000:=B.h
  have stk:(∀ a b p,¬ s.pile=.two false a b::p)->exec .opn s=.stuck:=λhn=>by
   show (match s.pile with | .two false a b::p=>Rs.go { s with at':=s.at'+1,pile:=p,held:=s.held++[a,b] } | _=>.stuck)=_
   split
   ·rename_i a b p e;exact absurd e (hn a b p)
   ·rfl
  left
  refine ⟨A.p,A.dx,_,rfl,h1,rfl,?_⟩
  left
  refine ⟨A.p,A.dx,_,rfl,h1,rfl,?_⟩
  left
  intros tf H0 IT pT
  refine ⟨A,_,tf,["pair"],rfl,M.mono IT,pT,λv2 p2 e QM r2 H1 o1 M1 a2=>?_,λe H1 o1=>?_⟩
  ·have e:s.pile=v2::p2:=e
   obtain ⟨a,b,rfl⟩:=RE QM
   obtain ⟨q,sh,qi,ra,rb,rfl,k1,k2,k3,k4,k5⟩:=a2
   left
   refine Ah (AJ.of k1) (v:=.ref qi) rfl ?_
   left
   refine ⟨A,_,qi,_,[a,b],rfl,M1,k3,.cons k4 (.cons k5 .nil),by simp;omega,λH3 o3 M3=>?_⟩
   refine q1 { s with at':=s.at'+1,pile:=p2,held:=s.held++[a,b] } ?_ _ H3 ((Off.of_same IT).trans (o1.trans o3)) M3
   show (match s.pile with | .two false a b::p=>Rs.go { s with at':=s.at'+1,pile:=p,held:=s.held++[a,b] } | _=>.stuck)=_
   rw [e]
  ·refine q2 (stk λa b p z=>?_) H1 ((Off.of_same IT).trans o1)
   rcases e with e | ⟨v',bH,e,JM⟩
   ·have e:s.pile=[]:=e
    rw [e] at z;cases z
   ·have e:s.pile=v'::bH:=e
    rw [e] at z;cases z
    exact JM (.head _)
theorem pU:Ar ["machine","step"] ["machine","step"] (Ad Du):=nofun
theorem bO {f:Addr}{fd:FuncData}(F:Ck K "do_drop" "do_drop" Du f fd)(N:MM Pr w K mg base C CS code)(B1:mg "len"=none):AI Pr w K mg base (DK Pr w) 3 f fd ["machine","step"] (D0 C CS code λst=>∃ n,st=.drop n):=by
 refine F.okX pU (λvs H Q E h=>?_) (λBo A0 outer s0 H vs Q E hr h=>?_)
 ·obtain ⟨A,s,st,r,rfl,_⟩:=h;rfl
 ·obtain ⟨A,s,st,r,rfl,M,DM,hW,ok,B,q1,q2⟩:=h
  have Dd:AY 1 _:=hr.mono ⟨⟩
  have T:=N.T
  refine ⟨_,(Ae (BS (Jl (Af 0) T.cl N.chk K8 Dd (Aa (Av Al (Af 1) Ac AR) Ab)))
   (Ai (E1 (Af 0) (DT Vg (By (Af 0)) ED (EE (Aj Bx (AU AG (by rfl) B1 PySem.boot_len (Aa (By (Af 0)) Ab)) (Av Al (Af 1) Ac AR))))))),?_⟩
  obtain ⟨h,vs,hs,bs,h1,h2,h3,h4,h5,h6,h7⟩:=M.ex
  obtain ⟨p,rfl,hp⟩:=DM
  obtain ⟨n,rfl⟩:=hW
  have l5:s.held.length=hs.length:=Paired.len h5
  left
  refine ⟨A.p,A.dx,_,rfl,h1,rfl,?_⟩
  left
  refine Ah (AJ.of hp) (v:=.int n) rfl ?_
  left
  refine ⟨A,_,n,rfl,M,λhn=>?_,λhn=>?_⟩
  ·have hn:n<=s.held.length:=hn
   left
   refine ⟨A.p,C,A.dx,_,_,rfl,h1,T.cl,T.nH,rfl,?_⟩
   left
   refine ⟨A.p,C,A.dx,_,_,rfl,h1,T.cl,T.nH,rfl,?_⟩
   left
   refine ⟨h,hs,rfl,.inr (AJ.of h4),?_⟩
   left
   refine Ah (AJ.of hp) (v:=.int n) rfl ?_
   left
   refine ⟨h,hs,rfl,h4,λpn H1 s1 e1=>?_⟩
   left
   refine ⟨A.p,C,A.dx,_,rfl,s1 _ _ h1,T.cl,T.nH,by simp [mF],?_⟩
   rw [HB]
   have ts:=Ay.of_same s1
   have ec:D2 hs none (some ((hs.length:Int) - n))=hs.take (hs.length - n):=by
    unfold D2
    rw [show (hs.length:Int) - n=((hs.length - n:Nat):Int) by omega,HT.sIx_none,HT.sIx_nat]
    simp
   rw [ec] at e1
   have TU:Paired (GA H1) (s.held.take (s.held.length - n)) (hs.take (hs.length - n)):=by
    rw [<- l5]
    exact Paired.take _ (Paired.mapP h5 λ_ _ z=>z.mono ts)
   refine q1 { s with at':=s.at'+1,held:=s.held.take (s.held.length - n) } ?_ _ _ ((Off.of_same s1).trans Off.p) ((M.mono s1).setF e1 TU (s.at'+1) s.calls)
   show (if n<=s.held.length then _ else _)=_
   rw [if_pos hn]
  ·have hn:s.held.length < n:=hn
   refine q2 ?_ H (Off.of_same (An.refl _))
   show (if n<=s.held.length then _ else _)=_
   rw [if_neg ()]
theorem pV:Ar ["machine","step"] ["machine","step"] (Ad Dv):=nofun
theorem bQ {f:Addr}{fd:FuncData}(F:Ck K "do_jump" "do_jump" Dv f fd)(N:MM Pr w K mg base C CS code):AI Pr w K mg base (DK Pr w) 3 f fd ["machine","step"] (D0 C CS code λst=>∃ n,st=.jump n):=by
 refine F.okX pV (λvs H Q E h=>?_) (λBo A0 outer s0 H vs Q E hr h=>?_)
 ·obtain ⟨A,s,st,r,rfl,_⟩:=h;rfl
 ·obtain ⟨A,s,st,r,rfl,M,DM,hW,ok,B,q1,q2⟩:=h
  have Dd:AY 1 _:=hr.mono ⟨⟩
  have T:=N.T
  refine ⟨_,(Ai (BS (Ho (Af 0) T.cl N.ski Dd (Aa (Av Al (Af 1) Ac AR) Ab)))),?_⟩
  obtain ⟨h,vs,hs,bs,h1,h2,h3,h4,h5,h6,h7⟩:=M.ex
  obtain ⟨p,rfl,hp⟩:=DM
  obtain ⟨n,rfl⟩:=hW
  left
  refine ⟨A.p,A.dx,_,rfl,h1,rfl,?_⟩
  left
  refine Ah (AJ.of hp) (v:=.int n) rfl ?_
  left
  exact ⟨A,_,n,rfl,M,λH1 o1 M1=>q1 _ rfl _ H1 o1 M1⟩
theorem pW:Ar ["machine","step"] ["machine","step"] (Ad Dw):=nofun
theorem bR {f:Addr}{fd:FuncData}(F:Ck K "do_when" "do_when" Dw f fd)(N:MM Pr w K mg base C CS code):AI Pr w K mg base (DK Pr w) 3 f fd ["machine","step"] (D0 C CS code λst=>∃ n,st=.wh n):=by
 refine F.okX pW (λvs H Q E h=>?_) (λBo A0 outer s0 H vs Q E hr h=>?_)
 ·obtain ⟨A,s,st,r,rfl,_⟩:=h;rfl
 ·obtain ⟨A,s,st,r,rfl,M,DM,hW,ok,B,q1,q2⟩:=h
  have Dd:AY 1 _:=hr.mono ⟨⟩
  have T:=N.T
  refine ⟨_,(Ai (B4 (HV (Hf (Av Al (Av Al (Jl (Af 0) T.cl N.tks K8 hr (Aa (Am (Aa Ag Ab)) Ab)) Ac AR) Ac AR))) (Ai (BS (Ho (Af 0) T.cl N.ski Dd (Aa (Av Al (Af 1) Ac AR) Ab)))) AK)),?_⟩
  obtain ⟨h,vs,hs,bs,h1,h2,h3,h4,h5,h6,h7⟩:=M.ex
  obtain ⟨p,rfl,hp⟩:=DM
  obtain ⟨n,rfl⟩:=hW
  have stk:(∀ b p,¬ s.pile=.tru b::p)->exec (.wh n) s=.stuck:=λhn=>by
   show (match s.pile with | .tru b::p=>Rs.go { s with at':=if b then s.at'+1 else s.at'+1+n,pile:=p } | _=>.stuck)=_
   split
   ·rename_i b p e;exact absurd e (hn b p)
   ·rfl
  left
  refine ⟨A.p,A.dx,_,rfl,h1,rfl,?_⟩
  left
  intros tf H0 IT pT
  refine ⟨A,_,tf,["truth"],rfl,M.mono IT,pT,λv2 p2 e QM r2 H1 o1 M1 a2=>?_,λe H1 o1=>?_⟩
  ·have e:s.pile=v2::p2:=e
   obtain ⟨b,rfl⟩:=Vn QM
   obtain ⟨q,sh,qi,rfl,k1,⟨ps,rfl,k2⟩,k3⟩:=a2
   have t1:=(M.mono IT).tsub o1
   left
   refine Ah (AJ.of k1) (v:=.ref ps) rfl ?_
   left
   refine Ah (AJ.of k2) (v:=.bl b) rfl ?_
   left
   have hex:exec (.wh n) s=.go { s with at':=if b then s.at'+1 else s.at'+1+n,pile:=p2 }:=by
    show (match s.pile with | .tru b::p=>Rs.go { s with at':=if b then s.at'+1 else s.at'+1+n,pile:=p } | _=>.stuck)=_
    rw [e]
   cases b with
   | true =>
    refine AN ⟨⟩ ?_
    left
    exact q1 _ hex _ H1 ((Off.of_same IT).trans o1) M1
   | false =>
    refine Bc rfl ?_
    obtain ⟨h',Gy,FK,OI,g1,_⟩:=M1.ex
    left
    refine ⟨A.p,A.dx,_,rfl,g1,rfl,?_⟩
    left
    refine Ah (AJ.of (t1 _ _ (IT _ _ hp))) (v:=.int n) rfl ?_
    left
    exact ⟨A,_,n,rfl,M1,λH2 o2 M2=>q1 _ hex _ H2 ((Off.of_same IT).trans (o1.trans o2)) M2⟩
  ·refine q2 (stk λb p z=>?_) H1 ((Off.of_same IT).trans o1)
   rcases e with e | ⟨v',bH,e,JM⟩
   ·have e:s.pile=[]:=e
    rw [e] at z;cases z
   ·have e:s.pile=v'::bH:=e
    rw [e] at z;cases z
    exact JM (.head _)
theorem XO:Ar ["machine","step","whole"] ["machine","step"] (Ad D5):=nofun
theorem bU {f:Addr}{fd:FuncData}(F:Ck K "do_split" "do_split" D5 f fd)(N:MM Pr w K mg base C CS code):AI Pr w K mg base (DK Pr w) 3 f fd ["machine","step"] (D0 C CS code λst=>∃ n,st=.spl n):=by
 refine F.okX XO (λvs H Q E h=>?_) (λBo A0 outer s0 H vs Q E hr h=>?_)
 ·obtain ⟨A,s,st,r,rfl,_⟩:=h;rfl
 ·obtain ⟨A,s,st,r,rfl,M,DM,hW,ok,B,q1,q2⟩:=h
  have Dd:AY 1 _:=hr.mono ⟨⟩
  have T:=N.T
  refine ⟨_,(Ae (Ax (i:=2) XO.nd rfl (.inl rfl) (Jl (Af 0) T.cl N.tks K8 hr (Aa (Am (Aa Ag (Aa Ag Ab))) Ab)))
   (Ai (B4 (Az AO (Av Al (Av Al (Af 2) Ac AR) Ac AR) Ag (Ak _)) (Ae (BS (Ho (Af 0) T.cl N.hol Dd (Aa (Av Al (Af 2) Ac AR) Ab)))
   (Ai (BS (Ho (Af 0) T.cl N.ski Dd (Aa (Av Al (Af 1) Ac AR) Ab))))) AK))),?_⟩
  obtain ⟨h,vs,hs,bs,h1,h2,h3,h4,h5,h6,h7⟩:=M.ex
  obtain ⟨p,rfl,hp⟩:=DM
  obtain ⟨n,rfl⟩:=hW
  have bh:s.held.length<=90000:=B.h
  have stk:(∀ p,¬ s.pile=.emp::p)->(∀ a b p,¬ s.pile=.two true a b::p)->exec (.spl n) s=.stuck:=λhn1 lO=>by
   show (match s.pile with | .emp::p=>Rs.go { s with at':=s.at'+1,pile:=p } | .two true a b::p=>.go { s with at':=s.at'+1+n,pile:=p,held:=s.held++[a,b] } | _=>.stuck)=_
   split
   ·rename_i p e;exact absurd e (hn1 p)
   ·rename_i a b p e;exact absurd e (lO a b p)
   ·rfl
  left
  refine ⟨A.p,A.dx,_,rfl,h1,rfl,?_⟩
  left
  intros tf H0 IT pT
  refine ⟨A,_,tf,["empty","link"],rfl,M.mono IT,pT,λv2 p2 e QM r2 H1 o1 M1 a2=>?_,λe H1 o1=>?_⟩
  ·have e:s.pile=v2::p2:=e
   have t1:=(M.mono IT).tsub o1
   rcases RF QM with rfl | ⟨a,b,rfl⟩
   ·obtain ⟨q,sh,qi,rfl,k1,⟨ps,rfl,k2⟩,k3⟩:=a2
    left
    refine Ah (AJ.of k1) (v:=.ref ps) rfl ?_
    left
    refine Ah (AJ.of k2) (v:=.str "empty") rfl ?_
    left
    refine AN ⟨⟩ ?_
    left
    refine q1 { s with at':=s.at'+1,pile:=p2 } ?_ _ H1 ((Off.of_same IT).trans o1) M1
    show (match s.pile with | .emp::p=>Rs.go { s with at':=s.at'+1,pile:=p } | .two true a b::p=>.go { s with at':=s.at'+1+n,pile:=p,held:=s.held++[a,b] } | _=>.stuck)=_
    rw [e]
   ·obtain ⟨q,sh,qi,ra,rb,rfl,k1,⟨ps,sa,sb,rfl,k2,k2a,k2b⟩,k3,k4,k5⟩:=a2
    left
    refine Ah (AJ.of k1) (v:=.ref ps) rfl ?_
    left
    refine Ah (AJ.of k2) (v:=.str "link") rfl ?_
    left
    refine Bc (decide_eq_true rfl) ?_
    obtain ⟨h',Gy,FK,OI,g1,_⟩:=M1.ex
    left
    refine ⟨A.p,A.dx,_,rfl,g1,rfl,?_⟩
    left
    refine Ah (AJ.of k1) (v:=.ref qi) rfl ?_
    left
    refine ⟨A,_,qi,_,[a,b],rfl,M1,k3,.cons k4 (.cons k5 .nil),by simp;omega,λH3 o3 M3=>?_⟩
    have t3:=M1.tsub o3
    obtain ⟨og,bA,Ko,bB,g3,_⟩:=M3.ex
    left
    refine ⟨A.p,A.dx,_,rfl,g3,rfl,?_⟩
    left
    refine Ah (AJ.of (t3 _ _ (t1 _ _ (IT _ _ hp)))) (v:=.int n) rfl ?_
    left
    refine ⟨A,_,n,rfl,M3,λH4 o4 M4=>?_⟩
    refine q1 { s with at':=s.at'+1+n,pile:=p2,held:=s.held++[a,b] } ?_ _ H4 ((Off.of_same IT).trans (o1.trans (o3.trans o4))) M4
    show (match s.pile with | .emp::p=>Rs.go { s with at':=s.at'+1,pile:=p } | .two true a b::p=>.go { s with at':=s.at'+1+n,pile:=p,held:=s.held++[a,b] } | _=>.stuck)=_
    rw [e]
  ·have no:∀ v p,s.pile=v::p->Ms v∈[Str.ofString "empty",Str.ofString "link"]->False:=λv p z hm=>by
    rcases e with e | ⟨v',bH,e,JM⟩
    ·have e:s.pile=[]:=e
     rw [e] at z;cases z
    ·have e:s.pile=v'::bH:=e
     rw [e] at z;cases z
     exact JM hm
   exact q2 (stk (λp z=>no _ _ z (.head _)) λa b p z=>no _ _ z (.tail _ (.head _))) H1 ((Off.of_same IT).trans o1)
end
end K
namespace KX
open PySem L2
noncomputable def MS.wd:MS->Str
 | num _=>"number" | tru _=>"truth" | emp=>"empty" | nm _=>"name" | fn _=>"fun" | rc _=>"rec" | pr=>"pair" | lk=>"link" | op _=>"op" | call=>"call" | back=>"back" | lt=>"let" | opn=>"open" | drop _=>"drop" | jump _=>"jump" | wh _=>"when" | spl _=>"split" | fin=>"end"
theorem MS.cnt_wd (s:MS):∃ us,s.cnt=.str s.wd::us:=by cases s <;> exact ⟨_,rfl⟩
theorem MS.not_end {s:MS}(h:s.wd="end"):s=.fin:=by
 cases s with
 | fin=>rfl
 | _=>simp only [MS.wd] at h;exact absurd h ⟨⟩
end KX
namespace K
open PySem L2 KM KS KX
section
variable {Pr:Program}{w:World}{K:W.Frag}{mg:Str->Option Value}{base:Heap}{C CS:Addr}{bS:List Value}{nS DZ Bn:String}{code:List MS}
abbrev PV:Ma:=⟨0,0,[],[],[]⟩
inductive Mv (C:Addr)(code:List MS)(vs:(List V))(H:Hp)(Q:VK)(z3:XK):Prop
 | mk (p dx lc:Addr) (h1:vs=[.ref p,.ref lc]) (h2:H p=some (.ins C dx [])) (h3:FZ H lc code) (h4:∀ (A:MA) H',A.p=p->A.lc=lc->B0 C A code H' PV->(∀ b o,H b=some o->b≠p->H' b=some o)->H A.lp=none->H A.lb=none->Q .non H'):Mv C code vs H Q z3
theorem pX:Ar ["self","code"] ["self","code"] (Ad Bp):=nofun
theorem Vp {f:Addr}{fd:FuncData}(F:Ck K "__init__" "Machine.__init__" Bp f fd)(T:Hq K mg C):AI Pr w K mg base BR 1 f fd ["self","code"] (Mv C code):=by
 refine F.okS pX (λvs H Q E h=>?_) (λBo A0 outer s0 H vs Q E hr h=>?_)
 ·obtain ⟨p,dx,lc,rfl,_⟩:=h;rfl
 ·obtain ⟨p,dx,lc,rfl,hp,hc,q⟩:=h
  refine ⟨_,(Ae (E1 (Af 0) (Af 1))
   (Ae (E1 (Af 0) Ac)
   (Ae (E1 (Af 0) (AS Ab))
   (Ae (E1 (Af 0) (Am Ab))
   (Ae (E1 (Af 0) (AS Ab))
   (Ai (E1 (Af 0) Ac))))))),?_⟩
  left
  refine ⟨p,C,dx,[],rfl,hp,T.cl,T.nC,by simp,?_⟩
  left
  refine ⟨p,C,dx,_,rfl,Ap,T.cl,T.nP,(show ([("code",.ref lc)]:List (Str × V)).length < 1000 by simp),?_⟩
  rw [E6]
  left
  refine Bz (BB ⟨⟩) λlp H1 pY s1 e1=>?_
  have F7:(upd H p (.ins C dx (Ci "place" (.int 0) (Ci "code" (.ref lc) [])))) p=some (.ins C dx [("code",.ref lc),("place",.int 0)]):=Ap
  have k0:∀ b o,H b=some o->b≠p->(upd H p (.ins C dx (Ci "place" (.int 0) (Ci "code" (.ref lc) [])))) b=some o:=λb o e n=>by rw [Aq n];exact e
  have f0:∀ b,(upd H p (.ins C dx (Ci "place" (.int 0) (Ci "code" (.ref lc) [])))) b=none->H b=none:=λb e=>by
   by_cases z:b=p
   ·rw [z,F7] at e;cases e
   ·rw [Aq z] at e;exact e
  generalize (upd H p (.ins C dx (Ci "place" (.int 0) (Ci "code" (.ref lc) []))))=H0 at *
  left
  refine ⟨p,C,dx,_,rfl,s1 _ _ F7,T.cl,T.nL,by simp,?_⟩
  have nlp:lp≠p:=λz=>by rw [z,F7] at pY;cases pY
  have TV:(upd H1 p (.ins C dx (Ci "pile" (.ref lp) [("code",.ref lc),("place",.int 0)]))) p=some (.ins C dx [("code",.ref lc),("place",.int 0),("pile",.ref lp)]):=Ap
  have k1:∀ b o,H1 b=some o->b≠p->(upd H1 p (.ins C dx (Ci "pile" (.ref lp) [("code",.ref lc),("place",.int 0)]))) b=some o:=λb o e n=>by rw [Aq n];exact e
  have f1:∀ b,(upd H1 p (.ins C dx (Ci "pile" (.ref lp) [("code",.ref lc),("place",.int 0)]))) b=none->H1 b=none:=λb e=>by
   by_cases z:b=p
   ·rw [z,TV] at e;cases e
   ·rw [Aq z] at e;exact e
  generalize (upd H1 p (.ins C dx (Ci "pile" (.ref lp) [("code",.ref lc),("place",.int 0)])))=H2 at *
  left
  refine Bz (BB ⟨⟩) λh H3 hh s3 e3=>?_
  left
  refine ⟨p,C,dx,_,rfl,s3 _ _ TV,T.cl,T.nH,by simp,?_⟩
  have nh:h≠p:=λz=>by rw [z,TV] at hh;cases hh
  have PX:(upd H3 p (.ins C dx (Ci "held" (.ref h) [("code",.ref lc),("place",.int 0),("pile",.ref lp)]))) p=some (.ins C dx [("code",.ref lc),("place",.int 0),("pile",.ref lp),("held",.ref h)]):=Ap
  have k3:∀ b o,H3 b=some o->b≠p->(upd H3 p (.ins C dx (Ci "held" (.ref h) [("code",.ref lc),("place",.int 0),("pile",.ref lp)]))) b=some o:=λb o e n=>by rw [Aq n];exact e
  have f3:∀ b,(upd H3 p (.ins C dx (Ci "held" (.ref h) [("code",.ref lc),("place",.int 0),("pile",.ref lp)]))) b=none->H3 b=none:=λb e=>by
   by_cases z:b=p
   ·rw [z,PX] at e;cases e
   ·rw [Aq z] at e;exact e
  generalize (upd H3 p (.ins C dx (Ci "held" (.ref h) [("code",.ref lc),("place",.int 0),("pile",.ref lp)])))=H4 at *
  left
  refine Bz (BB ⟨⟩) λlb H5 yd s5 e5=>?_
  left
  refine ⟨p,C,dx,_,rfl,s5 _ _ PX,T.cl,T.nB,by simp,?_⟩
  have nlb:lb≠p:=λz=>by rw [z,PX] at yd;cases yd
  left
  refine ⟨p,C,dx,_,rfl,Ap,T.cl,T.nK,(show ([("code",.ref lc),("place",.int 0),("pile",.ref lp),("held",.ref h),("behind",.ref lb)]:List (Str × V)).length < 1000 by simp),?_⟩
  rw [E6]
  have keep:∀ b o,H b=some o->b≠p->H5 b=some o:=λb o e n=>s5 _ _ (k3 _ _ (s3 _ _ (k1 _ _ (s1 _ _ (k0 b o e n)) n)) n)
  have pZ:H4 lp=some (.lst []):=k3 _ _ (s3 _ _ (k1 _ _ e1 nlp)) nlp
  have hh4:H4 h=some (.tup []):=k3 _ _ e3 nh
  have Abd:lp≠lb:=AF pZ yd
  obtain ⟨cs,c1,c2⟩:=hc
  have nlc:lc≠p:=E7 c1 hp (by intro z;cases z)
  have mj:H lp=none:=f0 _ pY
  have flb:H lb=none:=f0 _ (s1.free (f1 _ (s3.free (f3 _ yd))))
  refine q ⟨p,dx,lc,lp,lb⟩ _ rfl rfl ⟨⟨h,[],[],[],Ap,?_,.nil,?_,.nil,?_,.nil⟩,⟨cs,?_,Paired.mapP c2 λ_ _ z=>z.mono λb xs e=>?_⟩,Abd,AF c1 mj,AF c1 flb⟩ (λb o e n=>by rw [Aq n];exact keep b o e n) mj flb
  ·rw [Aq nlp];exact s5 _ _ pZ
  ·rw [Aq nh];exact s5 _ _ hh4
  ·rw [Aq nlb];exact e5
  ·rw [Aq nlc];exact keep _ _ c1 nlc
  ·have nb:b≠p:=E7 e hp (by intro z;cases z)
   rw [Aq nb];exact keep _ _ e nb
structure DSp (CS:Addr)(H:Hp)(Q:VK)(E:XK)(o:Out):Prop where
 n:o=.none->∀ H',An H H'->Q .non H'
 s:o=.stuck->∀ H',An H H'->E (.ref CS) none H'
 t:∀ v c,o=.told v c->∀ p r H',An H H'->H' p=some (.tup [r,.int c])->D3 H' v r->Q (.ref p) H'
inductive Mw (CS:Addr)(code:List MS)(vs:(List V))(H:Hp)(Q:VK)(E:XK):Prop
 | mk (lc:Addr) (most n B:Nat) (o:Out) (h1:vs=[.ref lc,.int most]) (h2:FZ H lc code) (h3:(∀ s∈code,s.ok)) (h4:Ends code most n PV o) (h5:most<=90000) (h6:Good code most B 90000 PV) (h7:DSp CS H Q E o):Mw CS code vs H Q E
noncomputable def q9 (C CS:Addr)(code:List MS):List (Str × Sp) :=
 [("number",D0 C CS code λst=>(∃ i,st=.num i)\/(∃ b,st=.tru b)\/st=.emp),("truth",D0 C CS code λst=>(∃ i,st=.num i)\/(∃ b,st=.tru b)\/st=.emp),("empty",D0 C CS code λst=>(∃ i,st=.num i)\/(∃ b,st=.tru b)\/st=.emp),
  ("name",D0 C CS code λst=>∃ n,st=.nm n),("fun",D0 C CS code λst=>(∃ n,st=.fn n)\/∃ n,st=.rc n),("rec",D0 C CS code λst=>(∃ n,st=.fn n)\/∃ n,st=.rc n),("pair",D0 C CS code λst=>st=.pr\/st=.lk),("link",D0 C CS code λst=>st=.pr\/st=.lk),
  ("op",D0 C CS code λst=>∃ o,st=.op o),("call",D0 C CS code λst=>st=.call),("back",D0 C CS code λst=>st=.back),("let",D0 C CS code λst=>st=.lt),("open",D0 C CS code λst=>st=.opn),("drop",D0 C CS code λst=>∃ n,st=.drop n),
  ("jump",D0 C CS code λst=>∃ n,st=.jump n),("when",D0 C CS code λst=>∃ n,st=.wh n),("split",D0 C CS code λst=>∃ n,st=.spl n)]
theorem F8 {α:Type}{l:List α}{x:α}(i:Nat)(h:l[i]?=some x):x∈l:=List.mem_of_getElem? h
theorem Abe (C CS:Addr)(code:List MS):∀ st:MS,st≠.fin->∃ W:MS->Prop,(st.wd,D0 C CS code W)∈q9 C CS code/\W st
 | .num i,_=>⟨_,F8 0 rfl,.inl ⟨i,rfl⟩⟩
 | .tru b,_=>⟨_,F8 1 rfl,.inr (.inl ⟨b,rfl⟩)⟩
 | .emp,_=>⟨_,F8 2 rfl,.inr (.inr rfl)⟩
 | .nm n,_=>⟨_,F8 3 rfl,n,rfl⟩
 | .fn n,_=>⟨_,F8 4 rfl,.inl ⟨n,rfl⟩⟩
 | .rc n,_=>⟨_,F8 5 rfl,.inr ⟨n,rfl⟩⟩
 | .pr,_=>⟨_,F8 6 rfl,.inl rfl⟩
 | .lk,_=>⟨_,F8 7 rfl,.inr rfl⟩
 | .op o,_=>⟨_,F8 8 rfl,o,rfl⟩
 | .call,_=>⟨_,F8 9 rfl,rfl⟩
 | .back,_=>⟨_,F8 10 rfl,rfl⟩
 | .lt,_=>⟨_,F8 11 rfl,rfl⟩
 | .opn,_=>⟨_,F8 12 rfl,rfl⟩
 | .drop n,_=>⟨_,F8 13 rfl,n,rfl⟩
 | .jump n,_=>⟨_,F8 14 rfl,n,rfl⟩
 | .wh n,_=>⟨_,F8 15 rfl,n,rfl⟩
 | .spl n,_=>⟨_,F8 16 rfl,n,rfl⟩
 | .fin,h=>absurd rfl h
theorem NB {most B:Nat}{s:Ma}(G:Good code most B 90000 s)(hm:most<=90000)(hc:s.calls<=most):Bs s:=by
 obtain ⟨⟨D,Hm,g1,g2,g3,g4,g5,g6⟩,g7,g8⟩:=G
 exact ⟨(),(),(),λv hv=>by have:=(g1 v hv).2;omega⟩
theorem bV:Ar ["code","most","machine","step"] ["code","most"] (Ad FP):=nofun
theorem Vq {f fi ml:Addr}{fd XQ:FuncData}{rows:List (Str × Value)}(F:Ck K "done" "done" FP f fd)(N:MM Pr w K mg base C CS code)(MK:Mk K C fi)(GI:AI Pr w K mg base BR 1 fi XQ ["self","code"] (Mv C code))(bI:Binds K XQ ["self","code"] [])
  (Abf:Mc Pr w K mg base (DK Pr w) C 1 "fetch" ["self"] (Rv C CS code)) (kd:F5 w K ml rows) (mRM:mg "RULES_machine"=some (.ref ml)) (KR:FN Pr w K mg base (DK Pr w) 3 ["machine","step"] rows (q9 C CS code)) :
  AI Pr w K mg base (DK Pr w) 4 f fd ["code","most"] (Mw CS code):=by
 refine F.okX bV (λvs H Q E h=>?_) (λBo A0 outer s0 H vs Q E hr h=>?_)
 ·obtain ⟨lc,most,n,B,o,rfl,_⟩:=h;rfl
 ·obtain ⟨lc,most,n,B,o,rfl,hc,hok,hE,RG,hG,hD⟩:=h
  have Dd:AY 1 _:=hr.mono ⟨⟩
  have FA:AY 2 _:=hr.mono ⟨⟩
  have T:=N.T
  have Abh:=N.tak
  refine ⟨_,(Ae (Ax (i:=2) bV.nd rfl (.inl rfl) (JX MK GI bI T.mC FA rfl (Aa (Af 0) Ab)))
   (Ae (JO (OB DU) (Az nJ (By (Af 2)) (Af 1) (Ak _)) (Ae (Ax (i:=3) bV.nd rfl (.inl rfl) (EF (Af 2) T.cl Abf K8 Dd))
   (Ae (B4 (Az AO (Av Al (Af 3) Ac AR) Ag (Ak _)) (Ai (Aw (Am (Aa (Av Al (EF (Af 2) T.cl Abh K8 Dd) Ac AR) (Aa (By (Af 2)) Ab))))) AK)
   (Ai (BS (Nt kd KR K8 hr rfl mRM (Av Al (Af 3) Ac AR) AR (Aa (Af 2) (Aa (Af 3) Ab))))))))
   (Ai (Aw Fx)))),?_⟩
  left
  intro x dx hx qa KL
  refine ⟨x,dx,lc,rfl,Ap,?_,λA H1 eA eL M1 k1 mj flb=>⟨rfl,?_⟩⟩
  ·have sm:An H (upd (upd H dx (.own x)) x (.ins C dx [])):=λb o e=>by
    rw [Aq (AF e hx),Aq (AF e qa)];exact e
   exact hc.mono sm
  have bW:An H H1:=λb o e=>k1 b o (by rw [Aq (AF e hx),Aq (AF e qa)];exact e) (AF e hx)
  have fp:H A.p=none:=by rw [eA];exact hx
  have f':∀ b,(upd (upd H dx (.own x)) x (.ins C dx [])) b=none->H b=none:=λb e=>by
   cases z:H b with
   | none=>rfl
   | some o=>rw [Aq (AF z hx),Aq (AF z qa),z] at e;cases e
  have mj:=f' _ mj
  have flb:=f' _ flb
  have off:∀ {H'},Off A H1 H'->An H H':=λ{H'} o b u e=>o b u (bW b u e) (AF e fp) (AF e mj) (AF e flb)
  rw [<- eA]
  refine ⟨λm σ' H'=>Dn λs st=>Ends code most m s o/\(s.calls<=most->Good code most B 90000 s)/\σ'=[some (.ref lc),some (.int most),some (.ref A.p),st]/\Off A H1 H'/\B0 C A code H' s,⟨n,PV,none,hE,λ_=>hG,rfl,Off.of_same (An.refl _),M1⟩,?_⟩
  rintro m σ' H' ⟨s,st,hE,hG,rfl,oH,M⟩
  obtain ⟨h,vs,hs,bs,h1,h2,h3,h4,h5,h6,h7⟩:=M.ex
  left
  refine ⟨A.p,C,A.dx,_,_,rfl,h1,T.cl,T.nK,rfl,?_⟩
  left
  by_cases hc:s.calls<=most
  ·have G:=hG hc
   refine Bc (decide_eq_true ()) ⟨fun σ' H'=>∃ m',m' < m/\Dn λs st=>Ends code most m' s o/\(s.calls<=most->Good code most B 90000 s)/\σ'=[some (.ref lc),some (.int most),some (.ref A.p),st]/\Off A H1 H'/\B0 C A code H' s,fun σ' H' q=>q,?_⟩
   left
   refine ⟨A.p,A.dx,_,rfl,h1,rfl,A,s,rfl,M,λHG ye r H2 o2 M2 a2=>?_,λye H2 o2=>?_⟩
   ·have IU:KX.step code s=exec HG s:=by unfold KX.step;rw [ye]
    have sok:=hok HG (List.mem_of_getElem? ye)
    obtain ⟨us,qb⟩:=HG.cnt_wd
    obtain ⟨p,rfl,hp⟩:=id a2
    obtain ⟨g,gvs,ghs,gbs,g1,_⟩:=M2.ex
    rw [qb] at hp
    left
    refine Ah (AJ.of hp) (v:=.str HG.wd) (Au (j:=0) rfl) ?_
    left
    by_cases hf:HG=.fin
    ·subst hf
     refine Bc (decide_eq_true rfl) ?_
     left
     refine ⟨A.p,A.dx,_,rfl,g1,rfl,A,_,rfl,M2,λv pl e r3 H3 o3 M3 a3=>?_,λe H3 o3=>?_⟩
     ·have e:s.pile=v::pl:=e
      have ex:exec .fin s=.told v:=by
       show (match s.pile with | v::_=>Rs.told v | []=>.stuck)=_
       rw [e]
      obtain ⟨q3,sh,qi,yf,rfl,k1,k2,k3⟩:=a3.look
      obtain ⟨g',Axs,Axt,Axu,g1',_⟩:=M3.ex
      left
      refine Ah (AJ.of k1) (v:=sh) rfl ?_
      left
      refine ⟨A.p,C,A.dx,_,_,rfl,g1',T.cl,T.nK,rfl,?_⟩
      left
      intros pt H4 s4 e4
      have ho:o=.told v s.calls:=by
       cases hE with
       | over z=>omega
       | stuck _ z=>rw [IU,ex] at z;cases z
       | told _ z=>rw [IU,ex] at z;cases z;rfl
       | go _ z _=>rw [IU,ex] at z;cases z
      exact hD.t v s.calls ho pt sh H4 (off (oH.trans (o2.trans (o3.trans (Off.of_same s4))))) e4 (k2.mono (Ay.of_same s4))
     ·have e:s.pile=[]:=e
      have ex:exec .fin s=.stuck:=by
       show (match s.pile with | v::_=>Rs.told v | []=>.stuck)=_
       rw [e]
      have ho:o=.stuck:=by
       cases hE with
       | over z=>omega
       | stuck _ z=>rfl
       | told _ z=>rw [IU,ex] at z;cases z
       | go _ z _=>rw [IU,ex] at z;cases z
      exact hD.s ho H3 (off (oH.trans (o2.trans o3)))
    ·refine AN (by simpa using λz=>hf (MS.not_end z)) ?_
     obtain ⟨W,hW,hw⟩:=Abe C CS code HG hf
     left
     refine Ah (AJ.of hp) (v:=.str HG.wd) (Au (j:=0) rfl) ?_
     refine ⟨_,_,rfl,hW,?_⟩
     left
     refine ⟨A,s,HG,.ref p,rfl,M2,a2,hw,sok,NB G RG hc,λs' ex v H3 o3 M3=>?_,λex H3 o3=>?_⟩
     ·cases hE with
      | over z=>omega
      | stuck _ z=>rw [IU,ex] at z;cases z
      | told _ z=>rw [IU,ex] at z;cases z
      | go _ z mn =>
       have e0:=z
       rw [IU,ex] at z;cases z
       exact ⟨_,Nat.lt_succ_self _,s',_,mn,(G.step hc e0).1,rfl,oH.trans (o2.trans o3),M3⟩
     ·have ho:o=.stuck:=by
       cases hE with
       | over z=>omega
       | stuck _ z=>rfl
       | told _ z=>rw [IU,ex] at z;cases z
       | go _ z _=>rw [IU,ex] at z;cases z
      exact hD.s ho H3 (off (oH.trans (o2.trans o3)))
   ·have IU:KX.step code s=.stuck:=by unfold KX.step;rw [ye]
    have ho:o=.stuck:=by
     cases hE with
     | over z=>omega
     | stuck _ z=>rfl
     | told _ z=>rw [IU] at z;cases z
     | go _ z _=>rw [IU] at z;cases z
    exact hD.s ho H2 (off (oH.trans o2))
  ·refine AN (λz=>hc (by have:=of_decide_eq_true z;omega)) ?_
   left
   have ho:o=.none:=by
    cases hE with
    | over z=>rfl
    | stuck z _=>omega
    | told z _=>omega
    | go z _ _=>omega
   exact hD.n ho H' (off oH)
end
section
variable {Pr:Program}{w:World}{K:W.Frag}{mg:Str->Option Value}{base:Heap}
inductive NC (vs:(List V))(H:Hp)(Q:VK)(z3:XK):Prop
 | mk (st:MS) (lt:Addr) (us:List V) (tk:List MV) (h1:vs=[.str st.wd,.ref lt]) (h2:H lt=some (.lst us)) (h3:Paired (CG H) tk us) (h4:tk.length=AV st) (h5:∀ H',An H H'->Q (.bl (fit st tk)) H'):NC vs H Q z3
noncomputable def Gh (tk:List MV):PyData:=.list (tk.map λv=>.str (GU v))
theorem Gi {H:Hp}{l:Addr}{tk:List MV}(h:H l=some (.lst (tk.map λv=>V.str (GU v)))):IE H (Gh tk) (.ref l):=by
 refine .lst h ?_
 clear h
 induction tk with
 | nil=>exact .nil
 | cons v r ih=>exact .cons (.str _) ih
theorem L0:∀ xs:List Str,xs.all PyData.strOk=true->PyData.canLayAll0 (xs.map PyData.str)=true
 | [],_=>by simp [PyData.canLayAll0]
 | x::xs,h=>by
  rw [List.all_cons,Bool.and_eq_true] at h
  simp [PyData.canLayAll0,PyData.canLay0,L0 xs h.2,h.1]
theorem Im:∀ xs:List Str,PyData.depthAll (xs.map PyData.str)=0
 | []=>by simp [PyData.depthAll]
 | x::xs=>by simp [PyData.depthAll,PyData.depth,Im xs]
theorem Ed {xs:List Str}(h:xs.all PyData.strOk=true):SeqAt.shaped (.list (xs.map PyData.str))=true:=by
 unfold SeqAt.shaped
 simp [PyData.canLay0,PyData.depth,L0 xs h,Im]
theorem bX (v:MV):PyData.strOk (GU v)=true:=by
 cases v with
 | num _=>exact (show PyData.strOk (Str.ofString "number")=true by decide +kernel)
 | tru _=>exact (show PyData.strOk (Str.ofString "truth")=true by decide +kernel)
 | emp=>exact (show PyData.strOk (Str.ofString "empty")=true by decide +kernel)
 | fn r _ _=>cases r;exact (show PyData.strOk (Str.ofString "fun")=true by decide +kernel);exact (show PyData.strOk (Str.ofString "rec")=true by decide +kernel)
 | two r _ _=>cases r;exact (show PyData.strOk (Str.ofString "pair")=true by decide +kernel);exact (show PyData.strOk (Str.ofString "link")=true by decide +kernel)
theorem HD (tk:List MV):SeqAt.shaped (Gh tk)=true:=by
 have e:Gh tk=.list ((tk.map GU).map PyData.str):=by unfold Gh;rw [List.map_map];rfl
 rw [e]
 refine Ed ?_
 rw [List.all_eq_true]
 intro x hx
 obtain ⟨v,_,rfl⟩:=List.mem_map.mp hx
 exact bX v
noncomputable def XR:MV->Bool
 | .fn _ _ _=>true
 | _=>false
noncomputable def XS:MV->Bool
 | .emp=>true
 | .two true _ _=>true
 | _=>false
theorem NF (v:MV):(GU v==Str.ofString "number")=(match v with | .num _=>true | _=>false):=by
 cases v with
 | num _=>rfl
 | tru _=>exact (show (Str.ofString "truth"==Str.ofString "number")=false by decide)
 | emp=>exact (show (Str.ofString "empty"==Str.ofString "number")=false by decide)
 | fn r _ _=>cases r;exact (show (Str.ofString "fun"==Str.ofString "number")=false by decide);exact (show (Str.ofString "rec"==Str.ofString "number")=false by decide)
 | two r _ _=>cases r;exact (show (Str.ofString "pair"==Str.ofString "number")=false by decide);exact (show (Str.ofString "link"==Str.ofString "number")=false by decide)
theorem Vr (v:MV):(GU v==Str.ofString "truth")=(match v with | .tru _=>true | _=>false):=by
 cases v with
 | num _=>exact (show (Str.ofString "number"==Str.ofString "truth")=false by decide)
 | tru _=>rfl
 | emp=>exact (show (Str.ofString "empty"==Str.ofString "truth")=false by decide)
 | fn r _ _=>cases r;exact (show (Str.ofString "fun"==Str.ofString "truth")=false by decide);exact (show (Str.ofString "rec"==Str.ofString "truth")=false by decide)
 | two r _ _=>cases r;exact (show (Str.ofString "pair"==Str.ofString "truth")=false by decide);exact (show (Str.ofString "link"==Str.ofString "truth")=false by decide)
theorem RH (v:MV):(GU v==Str.ofString "pair")=(match v with | .two false _ _=>true | _=>false):=by
 cases v with
 | num _=>exact (show (Str.ofString "number"==Str.ofString "pair")=false by decide)
 | tru _=>exact (show (Str.ofString "truth"==Str.ofString "pair")=false by decide)
 | emp=>exact (show (Str.ofString "empty"==Str.ofString "pair")=false by decide)
 | fn r _ _=>cases r;exact (show (Str.ofString "fun"==Str.ofString "pair")=false by decide);exact (show (Str.ofString "rec"==Str.ofString "pair")=false by decide)
 | two r _ _=>cases r;rfl;exact (show (Str.ofString "link"==Str.ofString "pair")=false by decide)
theorem bY (v:MV):Dh (.str (GU v)) [.str "fun",.str "rec"]=XR v:=by
 cases v with
 | num _=>exact (show Dh (.str "number") [.str "fun",.str "rec"]=false by decide)
 | tru _=>exact (show Dh (.str "truth") [.str "fun",.str "rec"]=false by decide)
 | emp=>exact (show Dh (.str "empty") [.str "fun",.str "rec"]=false by decide)
 | fn r _ _=>cases r;exact (show Dh (.str "fun") [.str "fun",.str "rec"]=true by decide);exact (show Dh (.str "rec") [.str "fun",.str "rec"]=true by decide)
 | two r _ _=>cases r;exact (show Dh (.str "pair") [.str "fun",.str "rec"]=false by decide);exact (show Dh (.str "link") [.str "fun",.str "rec"]=false by decide)
theorem bZ (v:MV):Dh (.str (GU v)) [.str "empty",.str "link"]=XS v:=by
 cases v with
 | num _=>exact (show Dh (.str "number") [.str "empty",.str "link"]=false by decide)
 | tru _=>exact (show Dh (.str "truth") [.str "empty",.str "link"]=false by decide)
 | emp=>exact (show Dh (.str "empty") [.str "empty",.str "link"]=true by decide)
 | fn r _ _=>cases r;exact (show Dh (.str "fun") [.str "empty",.str "link"]=false by decide);exact (show Dh (.str "rec") [.str "empty",.str "link"]=false by decide)
 | two r _ _=>cases r;exact (show Dh (.str "pair") [.str "empty",.str "link"]=false by decide);exact (show Dh (.str "link") [.str "empty",.str "link"]=true by decide)
theorem L3:∀ tk:List MV,PyData.eqv (Gh tk) (Gh tk)=true
 | []=>rfl
 | v::r=>by
  show (PyData.eqv (.str (GU v)) (.str (GU v)) && PyData.eqvAll (r.map λv=>.str (GU v)) (r.map λv=>.str (GU v)))=true
  rw [Bool.and_eq_true]
  exact ⟨by show (GU v==GU v)=true;simp,L3 r⟩
theorem qc:Ar ["_law_word","_law_taken_here","_law_kinds"] ["_law_word","_law_taken_here"] (Ad C0):=nofun
theorem cb {f:Addr}{fd:FuncData}(F:Ck K "_law_fits" "_law_fits" C0 f fd):AI Pr w K mg base BR 1 f fd ["_law_word","_law_taken_here"] NC:=by
 refine F.okS qc (λvs H Q E h=>?_) (λBo A outer s H vs Q E hr h=>?_)
 ·obtain ⟨st,lt,us,tk,rfl,_⟩:=h;rfl
 ·obtain ⟨st,lt,us,tk,rfl,hl,hp,hn,q⟩:=h
  have hu:=Jd hr
  have Io:=hr.units
  have S:BG (DE BR Pr w K mg base ["_law_word","_law_taken_here","_law_kinds"] "_law_fits" (Ad C0) f Bo A outer s H E).nox (CH (valueOf (inDef C0 0))) [] ["_law_one_here"] [] [] :=
   ⟨rfl,by decide +kernel,rfl,by decide +kernel,rfl,rfl,rfl,rfl⟩
  have IS:(["_law_one_here"]:List Str).Nodup:=by decide +kernel
  refine ⟨_,(Ae (GR (i:=2) qc.nd rfl (.inl rfl) (tt:=IK) (te:=Ft (GF K) (Bw 0) (tC (.int 0))) S rfl (FI (Af 1)) (λC s0 H0 ex=>C1 (i:=0) IS rfl (.inl rfl)) (λ_ _ _ _=>Fz) (λC s0 H0 ex=>Av Al (Af 0) Ac AR))
   (Ae (B4 (Az AO (Af 0) Ag (Ak _)) (Ai (Aw (CP (GQ Io) (Af 2) (AS (Aa Ag (Aa Ag Ab))) (Ak _)))) AK)
   (Ae (B4 (Az AO (Af 0) Ag (Ak _)) (Ai (Aw (CP Cr (Av AA (Af 2) Ac AR) (Am (Aa Ag (Aa Ag Ab))) rfl))) AK)
   (Ae (B4 (Az AO (Af 0) Ag (Ak _)) (Ai (Aw (CP Cr (Av AA (Af 2) Ac AR) (Am (Aa Ag (Aa Ag Ab))) rfl))) AK)
   (Ai (Aw (CP (GQ Io) (Af 2) (G8 hu (JN (Dk Ag (AS (Aa Ag Ab)) (Dk Ag (AS (Aa Ag Ab)) Nn)) rfl rfl (by simp) ⟨⟩) (Af 0) (Af 2) ⟨rfl,rfl,rfl,rfl⟩) (Ak _)))))))),?_⟩
  have l1:=Paired.len hp
  have n2:AV st<=2:=by cases st <;> simp [AV]
  left
  refine ⟨lt,rfl,⟨_,AZ.of hl⟩,?_⟩
  refine Ga (K:=K) (a:=lt) (xs:=us) (λi ys H'=>H'=H/\ys=(tk.take i).map λv=>V.str (GU v)) ⟨rfl,rfl⟩ (λi ys H' z=>AZ.of (by rw [z.1];exact hl)) (by exact DI ()) (λi ys H' z=>by rw [z.2,List.length_map,List.length_take];omega) rfl (λi x ys H1 hx z=>?_) (λys H1 z=>?_)
  ·obtain ⟨rfl,rfl⟩:=z
   obtain ⟨v,hv,av⟩:=Paired.at hp hx
   obtain ⟨p,TR,rfl,TU,_⟩:=CG.look av
   left
   refine Dm ?_
   left
   refine Ah (AJ.of TU) (v:=.str (GU v)) (Au (j:=0) rfl) ?_
   refine Nx.mk (List.getElem?_eq_some_iff.mp hx).1 ⟨rfl,?_⟩
   rw [List.take_succ,hv]
   simp
  ·obtain ⟨rfl,rfl⟩:=z
   rw [<- l1,List.take_length]
   intros kl H2 s2 e2
   left
   by_cases w1:st.wd="op"
   ·obtain ⟨o,rfl⟩:∃ o,st=.op o:=by cases st <;> first | exact ⟨_,rfl⟩ | (simp only [MS.wd] at w1;exact absurd w1 ⟨⟩)
    refine Bc (decide_eq_true rfl) ?_
    left
    intros l3 H3 s3 e3
    refine ⟨Gh tk,.list [.str "number",.str "number"],Gi (s3 _ _ e2),.lst e3 (.cons (.str _) (.cons (.str _) .nil)),HD tk,Ed (xs:=["number","number"]) (by decide +kernel),?_⟩
    ·have e:PyData.eqv (Gh tk) (.list [.str "number",.str "number"])=fit (.op o) tk:=by
      rcases tk with _ | ⟨a,_ | ⟨b,_ | ⟨c,r⟩⟩⟩ <;> (try (simp [AV] at hn;done))
      show ((GU a==Str.ofString "number") && ((GU b==Str.ofString "number") && true))=_
      rw [NF,NF]
      cases a <;> cases b <;> rfl
     rw [e]
     exact q H3 (s2.trans s3)
   ·refine AN (by simpa using w1) ?_
    left
    by_cases w2:st.wd="call"
    ·obtain rfl:st=.call:=by cases st <;> first | rfl | (simp only [MS.wd] at w2;exact absurd w2 ⟨⟩)
     refine Bc (decide_eq_true rfl) ?_
     left
     rcases tk with _ | ⟨a,r⟩
     ·simp [AV] at hn
     refine AX (AZ.of e2) (v:=.str (GU a)) (Au (j:=0) rfl) ?_
     left
     intros t3 H3 s3 e3
     refine C8 (.inr (AJ.of e3)) rfl (CZ _ _) ?_
     show Q (.bl (Dh (.str (GU a)) [.str "fun",.str "rec"])) H3
     rw [bY]
     have e:XR a=fit .call (a::r):=by cases a <;> rfl
     rw [e]
     exact q H3 (s2.trans s3)
    ·refine AN (by simpa using w2) ?_
     left
     by_cases w3:st.wd="split"
     ·obtain ⟨n,rfl⟩:∃ n,st=.spl n:=by cases st <;> first | exact ⟨_,rfl⟩ | (simp only [MS.wd] at w3;exact absurd w3 ⟨⟩)
      refine Bc (decide_eq_true rfl) ?_
      left
      rcases tk with _ | ⟨a,r⟩
      ·simp [AV] at hn
      refine AX (AZ.of e2) (v:=.str (GU a)) (Au (j:=0) rfl) ?_
      left
      intros t3 H3 s3 e3
      refine C8 (.inr (AJ.of e3)) rfl (CZ _ _) ?_
      show Q (.bl (Dh (.str (GU a)) [.str "empty",.str "link"])) H3
      rw [bZ]
      have e:XS a=fit (.spl n) (a::r):=by
       cases a with
       | two l _ _=>cases l <;> rfl
       | _=>rfl
      rw [e]
      exact q H3 (s2.trans s3)
     ·refine AN (by simpa using w3) ?_
      left
      refine HA λp4 H4 qd s4 e4=>?_
      left
      intros l5 H5 s5 e5
      left
      intros l6 H6 s6 e6
      left
      have TX:=s5.trans s6
      refine ⟨TX _ _ e4,[(.inr "when",.ref l5),(.inr "open",.ref l6)],rfl,Nat.le_of_ble_eq_true rfl,λH9 o9 e9=>?_⟩
      have s29:An H2 H9:=λb o hb=>by
       have cc:b≠p4:=λz=>by rw [z,qd] at hb;cases hb
       rw [o9 b cc];exact TX _ _ (s4 _ _ hb)
      have ow:∀ b o,H6 b=some o->b≠p4->H9 b=some o:=λb o hb KL=>by rw [o9 b KL];exact hb
      have h5:H9 l5=some (.lst [.str "truth"]):=ow _ _ (s6 _ _ e5) (λz=>by have h1:=s6 _ _ e5;have h2:=TX _ _ e4;rw [z,h2] at h1;cases h1)
      have h6:H9 l6=some (.lst [.str "pair"]):=ow _ _ e6 (λz=>by have h1:=e6;have h2:=TX _ _ e4;rw [z,h2] at h1;cases h1)
      have yg:=s29 _ _ e2
      refine ⟨p4,rfl,.inl ⟨_,.inl e9⟩,?_⟩
      left
      refine ⟨_,Eg.k (k:=.inr st.wd) e9,?_⟩
      have XT:=s2.trans s29
      by_cases w4:st.wd="when"
      ·obtain ⟨n,rfl⟩:∃ n,st=.wh n:=by cases st <;> first | exact ⟨_,rfl⟩ | (simp only [MS.wd] at w4;exact absurd w4 ⟨⟩)
       refine ⟨Gh tk,.list [.str "truth"],Gi yg,show IE H9 _ (.ref l5) from .lst h5 (.cons (.str _) .nil),HD tk,Ed (xs:=["truth"]) (by decide +kernel),?_⟩
       ·have e:PyData.eqv (Gh tk) (.list [.str "truth"])=fit (.wh n) tk:=by
         rcases tk with _ | ⟨a,_ | ⟨b,r⟩⟩ <;> (try (simp [AV] at hn;done))
         show ((GU a==Str.ofString "truth") && true)=_
         rw [Vr]
         cases a <;> rfl
        rw [e]
        exact q H9 XT
      ·by_cases w5:st.wd="open"
       ·obtain rfl:st=.opn:=by cases st <;> first | rfl | (simp only [MS.wd] at w5;exact absurd w5 ⟨⟩)
        refine ⟨Gh tk,.list [.str "pair"],Gi yg,show IE H9 _ (.ref l6) from .lst h6 (.cons (.str _) .nil),HD tk,Ed (xs:=["pair"]) (by decide +kernel),?_⟩
        ·have e:PyData.eqv (Gh tk) (.list [.str "pair"])=fit .opn tk:=by
          rcases tk with _ | ⟨a,_ | ⟨b,r⟩⟩ <;> (try (simp [AV] at hn;done))
          show ((GU a==Str.ofString "pair") && true)=_
          rw [RH]
          cases a with
          | two l _ _=>cases l <;> rfl
          | _=>rfl
         rw [e]
         exact q H9 XT
       ·have hv:Cy (Di [] [(Sum.inr "when",V.ref l5),(Sum.inr "open",V.ref l6)]) (Sum.inr st.wd:Key)=none:=by
         show Cy [(Sum.inr (Str.ofString "when"),V.ref l5),(Sum.inr (Str.ofString "open"),V.ref l6)] (Sum.inr st.wd:Key)=none
         rw [Cc (by intro z;exact w4 (Sum.inr.inj z).symm),Cc (by intro z;exact w5 (Sum.inr.inj z).symm)]
         rfl
        rw [hv]
        have sh:=HD tk
        refine ⟨Gh tk,Gh tk,Gi yg,Gi yg,sh,sh,?_⟩
        have ef:fit st tk=true:=by
         cases st <;> first | rfl | exact absurd rfl w1 | exact absurd rfl w2 | exact absurd rfl w3 | exact absurd rfl w4 | exact absurd rfl w5
        rw [L3,<- ef]
        exact q H9 XT
inductive NG (vs:(List V))(H:Hp)(Q:VK)(z3:XK):Prop
 | mk (o:Str) (i j:Int) (r1 r2:V) (h1:vs=[.str o,r1,r2]) (h2:Ex.isOp o) (h3:CG H (.num i) r1) (h4:CG H (.num j) r2) (h5:∀ r H',An H H'->CG H' (DQ o i j) r->Q r H'):NG vs H Q z3
theorem qe:Ar ["_law_op","_law_one_here","_law_other"] ["_law_op","_law_one_here","_law_other"] (Ad BF):=nofun
theorem cf {f:Addr}{fd:FuncData}(F:Ck K "_law_reckoned" "_law_reckoned" BF f fd)(Jm:mg "int"=none):AI Pr w K mg base BR 1 f fd ["_law_op","_law_one_here","_law_other"] NG:=by
 refine F.okS qe (λvs H Q E h=>?_) (λBo A outer s H vs Q E hr h=>?_)
 ·obtain ⟨o,i,j,r1,r2,rfl,_⟩:=h;rfl
 ·obtain ⟨o,i,j,r1,r2,rfl,io,⟨p1,rfl,h1⟩,⟨p2,rfl,h2⟩,q⟩:=h
  refine ⟨_,(Ae (B4 (Az Cr (Af 0) (Am (Aa Ag (Aa Ag Ab))) rfl) (Ai (Aw (Am (Aa Ag (Aa (Aj AW (Av Al (Af 1) Ac AR) (Aj Bh (Av Al (Af 2) Ac AR) (Av AA (AS (Aa Ac (Aa (Vd JF Ac) Ab))) (Dj J3 (by rfl) Jm PyProof.Rows.boot_int (Aa (CP AO (Af 0) Ag (Ak _)) Ab)) AR))) Ab))))) AK)
   (Ai (Aw (Am (Aa Ag (Aa (Ks (Az AO (Af 0) Ag (Ak _)) (CP DD (Av Al (Af 1) Ac AR) (Av Al (Af 2) Ac AR) (Ak _)) (CP AO (Av Al (Af 1) Ac AR) (Av Al (Af 2) Ac AR) (Ak _))) Ab)))))),?_⟩
  left
  intros t1 H1 s1 e1
  refine C8 (.inr (AJ.of e1)) rfl (CZ _ _) ?_
  left
  have g1:=s1 _ _ h1
  have g2:=s1 _ _ h2
  rcases io with rfl | rfl | rfl | rfl
  ·refine Bc ⟨⟩ ?_
   left
   refine Ah (AJ.of g1) (v:=.int i) rfl ?_
   left
   refine Ah (AJ.of g2) (v:=.int j) rfl ?_
   left
   intros l2 H2 s2 e2
   left
   refine .inr ⟨_,rfl,?_⟩
   refine AX (AZ.of e2) (v:=.int 1) rfl ?_
   refine KC (.inr ⟨⟨⟩,⟨⟩⟩) ?_
   left
   intros t3 H3 s3 e3
   refine q _ H3 (s1.trans (s2.trans s3)) ⟨t3,rfl,?_⟩
   rw [e3,Int.mul_one]
  ·refine Bc ⟨⟩ ?_
   left
   refine Ah (AJ.of g1) (v:=.int i) rfl ?_
   left
   refine Ah (AJ.of g2) (v:=.int j) rfl ?_
   left
   intros l2 H2 s2 e2
   left
   refine .inr ⟨_,rfl,?_⟩
   refine AX (AZ.of e2) (v:=.int (-1)) rfl ?_
   refine KC (.inr ⟨⟨⟩,⟨⟩⟩) ?_
   left
   intros t3 H3 s3 e3
   refine q _ H3 (s1.trans (s2.trans s3)) ⟨t3,rfl,?_⟩
   rw [e3,show i+j * -1=i - j by omega]
  ·refine AN ⟨⟩ ?_
   left
   refine Bc (decide_eq_true rfl) ?_
   left
   refine Ah (AJ.of g1) (v:=.int i) rfl ?_
   left
   refine Ah (AJ.of g2) (v:=.int j) rfl ?_
   left
   intros t3 H3 s3 e3
   exact q _ H3 (s1.trans s3) ⟨t3,rfl,e3⟩
  ·refine AN ⟨⟩ ?_
   left
   refine AN ⟨⟩ ?_
   left
   refine Ah (AJ.of g1) (v:=.int i) rfl ?_
   left
   refine Ah (AJ.of g2) (v:=.int j) rfl ?_
   left
   intros t3 H3 s3 e3
   refine q _ H3 (s1.trans s3) ⟨t3,rfl,?_⟩
   rw [e3]
   congr 5
   simp
noncomputable def Vs (st:MS):Prop:=st=.call\/st=.lt\/st=.opn\/(∃ n,st=.spl n)\/∃ n,st=.drop n
inductive NH (vs:(List V))(H:Hp)(Q:VK)(z3:XK):Prop
 | mk (st:MS) (lv:V) (lt lh:Addr) (us hs:List V) (tk held:List MV) (h1:vs=[.str st.wd,lv,.ref lt,.ref lh]) (h2:Vs st) (h3:(∀ n,st=.drop n->lv=.int n/\n<=held.length)) (h4:H lt=some (.lst us)) (h5:Paired (CG H) tk us) (h6:tk.length=AV st) (h7:fit st tk=true) (h8:H lh=some (.lst hs)) (h9:Paired (CG H) held hs) (h10:held.length<=90000) (h11:(∀ v∈tk,F' v<=90000)) (h12:∀ p FK H',An H H'->H p=none->H' p=some (.lst FK)->Paired (CG H') (XF st tk held) FK->Q (.ref p) H'):NH vs H Q z3
theorem XU:Ar ["_law_word","_law_last","_law_taken_here","_law_held_here","_law_deed"] ["_law_word","_law_last","_law_taken_here","_law_held_here"] (Ad CF):=nofun
theorem cg {f:Addr}{fd:FuncData}(F:Ck K "_law_held" "_law_held" CF f fd)(Eh:mg "list"=none)(B1:mg "len"=none):AI Pr w K mg base BR 1 f fd ["_law_word","_law_last","_law_taken_here","_law_held_here"] NH:=by
 refine F.okS XU (λvs H Q E h=>?_) (λBo A outer s H vs Q E hr h=>?_)
 ·obtain ⟨st,lv,lt,lh,us,hs,tk,held,rfl,_⟩:=h;rfl
 ·obtain ⟨st,lv,lt,lh,us,hs,tk,held,rfl,hg,hd,hl,hp,hn,hf,hh,RI,b1,b2,q⟩:=h
  refine ⟨_,(Ae (B4 (Az AO (Af 0) Ag (Ak _)) (Ai (Aw (DT Ff (Af 3) ED (EE (Aj Bx (AU AG (by rfl) B1 PySem.boot_len (Aa (Af 3) Ab)) (Af 1)))))) AK)
   (Ae (B4 (Az AO (Af 0) Ag (Ak _)) (Ai (Aw (Aj B7 (Af 3) (Af 2)))) AK)
   (Ae (B4 (Az AO (Af 0) Ag (Ak _)) (Ae (Ax (i:=4) XU.nd rfl (.inl rfl) (Av AA (Af 2) Ac AR))
   (Ai (Aw (Aj B7 (Aj B7 (Av Al (Af 4) Ac AR) (Ks (Az AO (Av Al (Af 4) Ac AR) Ag (Ak _)) (AS (Aa (Af 4) Ab)) (AS Ab))) (AS (Aa (Av AA (Af 2) Ac AR) Ab)))))) AK)
   (Ai (Aw (Aj B7 (Af 3) (Dj EB (by rfl) Eh PyProof.Rows.boot_list (Aa (DT LU (Av AA (Af 2) Ac AR) (EE Ac) ED) Ab)))))))),?_⟩
  have lu:=Paired.len hp
  have lh':=Paired.len RI
  have tail:∀ (D:Ends),D.rt=Q->(Lu λ(p:Addr) (w:Str) (rs:List V) (ms:List MV)=>us=[.ref p]/\H p=some (.tup (.str w::rs))/\rs.length<=2/\Paired (CG H) ms rs/\XF st tk held=held++ms) ->
    Ly (Ft LZ (Bw 3) (Xk (λxs H Q=>∃ p ys,xs=[.ref p]/\(AZ K H p ys\/AJ K H p ys)/\∀ l,H l=none->Q (.ref l) (upd H l (.lst ys))) (BM (xv (Uy K) (Ft (LV K) (Bw 2) (tC (.int 0))) (N7 (tC (.int 1))) Hw) Ez))) D [some (.str st.wd),some lv,some (.ref lt),some (.ref lh),none] H:=by
   rintro D hD ⟨p,w,rs,ms,rfl,E4,hrs,bG,hhl⟩
   left
   refine AX (AZ.of hl) (v:=.ref p) rfl ?_
   left
   refine JU (AJ.of E4) (λz=>absurd (show min 1 (rs.length+1)=0 from z.1) ()) λp2 H2 L' s2 e2=>?_
   left
   refine ⟨p2,_,rfl,.inr (AJ.of e2),λl3 qf=>?_⟩
   have ec:D2 (.str w::rs) (some 1) none=rs:=by
    rcases rs with _ | ⟨a,_ | ⟨b,_ | ⟨c,r⟩⟩⟩ <;> first | rfl | (exfalso;simp only [List.length_cons] at hrs;omega)
   rw [ec]
   have s3:An H2 (upd H2 l3 (.lst rs)):=An.new qf
   have e3:(upd H2 l3 (.lst rs)) l3=some (.lst rs):=Ap
   generalize upd H2 l3 (.lst rs)=H3 at s3 e3 ⊢
   have Et:=s2.trans s3
   left
   refine CI (Et _ _ hh) e3 (BB ()) λp4 H4 OW s4 e4=>?_
   rw [hD]
   have Mx:=Et.trans s4
   refine q p4 _ H4 Mx (Et.free OW) e4 ?_
   rw [hhl]
   exact Paired.app (Paired.mapP RI λ_ _ z=>z.mono Mx) (Paired.mapP bG λ_ _ z=>z.mono Mx)
  left
  rcases hg with rfl | rfl | rfl | ⟨n,rfl⟩ | ⟨n,rfl⟩
  ·refine AN (show ¬ decide (V.str "call"=V.str "drop")=true by decide) ?_
   left
   refine AN (show ¬ decide (V.str "call"=V.str "let")=true by decide) ?_
   left
   refine Bc (decide_eq_true rfl) ?_
   left
   rcases tk with _ | ⟨a,_ | ⟨v,_ | ⟨c,r⟩⟩⟩ <;> (try (simp [AV] at hn;done))
   cases a with
   | fn b a k =>
    obtain ⟨x,y,rfl,⟨p,kl,ks,rfl,E4,hk,bq⟩,hv⟩:=DB hp
    have qg:=Es.mp bq
    have lk:=Paired.len qg
    have F':F' (.fn b a k)<=90000:=b2 _ (.head _)
    have hlk:k.length<=90000:=Nat.le_trans (Nat.le_max_left _ _) F'
    refine AX (AZ.of hl) (v:=.ref p) rfl ?_
    left
    refine Ah (AJ.of E4) (v:=.ref kl) rfl ?_
    left
    refine Ah (AJ.of E4) (v:=.str (fw b)) rfl ?_
    left
    have fin:∀ (H2:Hp) (pm:Addr) (more:List V) (ms:List MV),An H H2->H2 pm=some (.lst more)->Paired (CG H2) ms more->ms=(if b then [MV.fn b a k] else []) ->
      LZ (.ref kl) (.ref pm) H2 λx H3=>Ut (BM (Ft (LV K) (Bw 2) (tC (.int 1))) Ez) [some (.str "call"),some lv,some (.ref lt),some (.ref lh),some (.ref p)] H3 λy H4=>LZ x y H4 Q:=by
     intro H2 pm more ms s2 Vo hm bG
     have lm:=Paired.len hm
     have lms:ms.length<=1:=by rw [bG];split <;> simp
     refine CI (s2 _ _ hk) Vo (BB ()) λp3 H3 PX s3 e3=>?_
     left
     have Et:=s2.trans s3
     refine AX (AZ.of (Et _ _ hl)) (v:=y) rfl ?_
     left
     refine Bz (BB (Nat.le_of_ble_eq_true rfl)) λp4 H4 OW s4 e4=>?_
     refine CI (s4 _ _ e3) e4 (BB (by simp;omega)) λp5 H5 TY s5 e5=>?_
     have Mx:=Et.trans s4
     have Fs:=Mx.trans s5
     refine q p5 _ H5 Fs (Mx.free TY) e5 ?_
     show Paired (CG H5) (k++(if b then [MV.fn b a k] else [])++[v]) _
     rw [<- bG]
     exact Paired.app (Paired.app (Paired.mapP qg λ_ _ z=>z.mono Fs) (Paired.mapP hm λ_ _ z=>z.mono (s3.trans (s4.trans s5)))) (.cons (hv.mono Fs) .nil)
    cases b with
    | true =>
     refine Bc ⟨⟩ ?_
     left
     refine Bz (BB (Nat.le_of_ble_eq_true rfl)) λpm H2 Vo s2 e2=>?_
     exact fin H2 pm _ [.fn true a k] s2 e2 (.cons (show CG H2 (.fn true a k) (.ref p) from ⟨p,kl,ks,rfl,s2 _ _ E4,s2 _ _ hk,Gf.mono s2 bq⟩) .nil) rfl
    | false =>
     refine AN ⟨⟩ ?_
     left
     refine Bz (BB ⟨⟩) λpm H2 Vo s2 e2=>?_
     exact fin H2 pm _ _ s2 e2 .nil rfl
   | _=>simp [fit] at hf
  ·refine AN (show ¬ decide (V.str "let"=V.str "drop")=true by decide) ?_
   left
   refine Bc (decide_eq_true rfl) ?_
   left
   have l1:tk.length=1:=hn
   refine CI hh hl (BB ()) λp4 H4 OW s4 e4=>?_
   exact q p4 _ H4 s4 OW e4 (Paired.app (Paired.mapP RI λ_ _ z=>z.mono s4) (Paired.mapP hp λ_ _ z=>z.mono s4))
  ·refine AN (show ¬ decide (V.str "open"=V.str "drop")=true by decide) ?_
   left
   refine AN (show ¬ decide (V.str "open"=V.str "let")=true by decide) ?_
   left
   refine AN (show ¬ decide (V.str "open"=V.str "call")=true by decide) ?_
   refine tail _ rfl ?_
   rcases tk with _ | ⟨a,_ | ⟨c,r⟩⟩ <;> (try (simp [AV] at hn;done))
   obtain ⟨x,rfl,hx⟩:=DV hp
   cases a with
   | two l a b =>
    obtain ⟨p,ra,rb,rfl,E4,ha,hb⟩:=hx
    exact ⟨p,tw l,_,[a,b],rfl,E4,by simp,.cons ha (.cons hb .nil),rfl⟩
   | _=>simp [fit] at hf
  ·refine AN (show ¬ decide (V.str "split"=V.str "drop")=true by decide) ?_
   left
   refine AN (show ¬ decide (V.str "split"=V.str "let")=true by decide) ?_
   left
   refine AN (show ¬ decide (V.str "split"=V.str "call")=true by decide) ?_
   refine tail _ rfl ?_
   rcases tk with _ | ⟨a,_ | ⟨c,r⟩⟩ <;> (try (simp [AV] at hn;done))
   obtain ⟨x,rfl,hx⟩:=DV hp
   cases a with
   | two l a b =>
    obtain ⟨p,ra,rb,rfl,E4,ha,hb⟩:=hx
    exact ⟨p,tw l,_,[a,b],rfl,E4,by simp,.cons ha (.cons hb .nil),rfl⟩
   | emp =>
    obtain ⟨p,rfl,E4⟩:=hx
    exact ⟨p,"empty",[],[],rfl,E4,by simp,.nil,by simp [XF]⟩
   | _=>simp [fit] at hf
  ·refine Bc (decide_eq_true rfl) ?_
   obtain ⟨rfl,hle⟩:=hd n rfl
   left
   refine ⟨lh,hs,rfl,.inl (AZ.of hh),?_⟩
   left
   refine FL (AZ.of hh) λp4 H4 OW s4 e4=>?_
   have ec:D2 hs none (some ((hs.length:Int) - n))=hs.take (hs.length - n):=by
    unfold D2
    rw [show (hs.length:Int) - n=((hs.length - n:Nat):Int) by omega,HT.sIx_none,HT.sIx_nat]
    simp
   rw [ec] at e4
   refine q p4 _ H4 s4 OW e4 ?_
   show Paired (CG H4) (held.take (held.length - n)) _
   rw [lh']
   exact Paired.take _ (Paired.mapP RI λ_ _ z=>z.mono s4)
inductive NI (vs:(List V))(H:Hp)(Q:VK)(z3:XK):Prop
 | mk (st:MS) (r:V) (lt lh:Addr) (us hs:List V) (tk held:List MV) (a:Nat) (v:MV) (h1:vs=[r,.ref lt,.int a,.ref lh]) (h2:JY H st r) (h3:st.ok) (h4:H lt=some (.lst us)) (h5:Paired (CG H) tk us) (h6:H lh=some (.lst hs)) (h7:Paired (CG H) held hs) (h8:XG st tk a held=some v) (h9:∀ r' H',An H H'->CG H' v r'->Q r' H'):NI vs H Q z3
theorem Abk:Ar ["_law_one_here","_law_taken_here","_law_at","_law_held_here"] ["_law_one_here","_law_taken_here","_law_at","_law_held_here"] (Ad BQ):=nofun
theorem cj {f:Addr}{fd:FuncData}(F:Ck K "_law_brought" "_law_brought" BQ f fd)(B1:mg "len"=none)(cR:Cl Pr w K mg base 1 "_law_reckoned" ["_law_op","_law_one_here","_law_other"] NG):AI Pr w K mg base BR 2 f fd ["_law_one_here","_law_taken_here","_law_at","_law_held_here"] NI:=by
 refine F.okS Abk (λvs H Q E h=>?_) (λBo A outer s H vs Q E hr h=>?_)
 ·obtain ⟨st,r,lt,lh,us,hs,tk,held,a,v,rfl,_⟩:=h;rfl
 ·obtain ⟨st,r,lt,lh,us,hs,tk,held,a,v,rfl,⟨p,rfl,hp⟩,ok,hl,PN,hh,RI,hb,q⟩:=h
  refine ⟨_,(Ae (B4 (Az AO (Av Al (Af 0) Ac AR) Ag (Ak _)) (Ai (Aw (Av AA (Af 3) (Aj Bx (Aj Bx (AU AG (by rfl) B1 PySem.boot_len (Aa (Af 3) Ab)) Ac) (Av Al (Af 0) Ac AR)) AR))) AK)
   (Ae (B4 (Az Cr (Av Al (Af 0) Ac AR) (Am (Aa Ag (Aa Ag Ab))) rfl) (Ai (Aw (Am (Aa (Av Al (Af 0) Ac AR) (Aa (Af 2) (Aa (Af 3) Ab)))))) AK)
   (Ae (B4 (Az AO (Av Al (Af 0) Ac AR) Ag (Ak _)) (Ai (Aw (B3 cR hr rfl (Aa (Av Al (Af 0) Ac AR) (Aa (Av AA (Af 1) Ac AR) (Aa (Av AA (Af 1) Ac AR) Ab)))))) AK)
   (Ae (B4 (Az Cr (Av Al (Af 0) Ac AR) (Am (Aa Ag (Aa Ag Ab))) rfl) (Ai (Aw (Am (Aa (Av Al (Af 0) Ac AR) (Aa (Av AA (Af 1) Ac AR) (Aa (Av AA (Af 1) Ac AR) Ab)))))) AK)
   (Ai (Aw (Af 0))))))),?_⟩
  obtain ⟨cs,qb⟩:=st.cnt_wd
  have F7:=hp
  rw [qb] at F7
  have lh':=Paired.len RI
  left
  refine Ah (AJ.of F7) (v:=.str st.wd) (Au (j:=0) rfl) ?_
  left
  cases st with
  | nm n =>
   refine Bc (decide_eq_true rfl) ?_
   left
   refine ⟨lh,hs,rfl,.inl (AZ.of hh),?_⟩
   left
   refine Ah (AJ.of hp) (v:=.int n) rfl ?_
   left
   simp only [XG] at hb
   split at hb
   ·rename_i Ef
    obtain ⟨x,hx,ax⟩:=Paired.at1 RI hb
    rw [show (hs.length:Int) - 1 - (n:Int)=((hs.length - 1 - n:Nat):Int) by omega]
    refine AX (AZ.of hh) (v:=x) (Au (by rw [<- lh'];exact hx)) ?_
    exact q x H (An.refl _) ax
   ·cases hb
  | fn n =>
   refine AN (show ¬ decide (V.str "fun"=V.str "name")=true by decide) ?_
   left
   refine Ah (AJ.of F7) (v:=.str "fun") (Au (j:=0) rfl) ?_
   left
   intros t1 H1 s1 e1
   refine C8 (.inr (AJ.of e1)) rfl (CZ _ _) ?_
   left
   refine Bc (show Dh (.str "fun") [.str "fun",.str "rec"]=true by decide) ?_
   left
   refine Ah (AJ.of (s1 _ _ F7)) (v:=.str "fun") (Au (j:=0) rfl) ?_
   left
   intros t2 H2 s2 e2
   have Cq:=s1.trans s2
   cases hb
   exact q _ H2 Cq ⟨t2,lh,hs,rfl,e2,Cq _ _ hh,Es.mpr (Paired.mapP RI λ_ _ z=>z.mono Cq)⟩
  | rc n =>
   refine AN (show ¬ decide (V.str "rec"=V.str "name")=true by decide) ?_
   left
   refine Ah (AJ.of F7) (v:=.str "rec") (Au (j:=0) rfl) ?_
   left
   intros t1 H1 s1 e1
   refine C8 (.inr (AJ.of e1)) rfl (CZ _ _) ?_
   left
   refine Bc (show Dh (.str "rec") [.str "fun",.str "rec"]=true by decide) ?_
   left
   refine Ah (AJ.of (s1 _ _ F7)) (v:=.str "rec") (Au (j:=0) rfl) ?_
   left
   intros t2 H2 s2 e2
   have Cq:=s1.trans s2
   cases hb
   exact q _ H2 Cq ⟨t2,lh,hs,rfl,e2,Cq _ _ hh,Es.mpr (Paired.mapP RI λ_ _ z=>z.mono Cq)⟩
  | op o =>
   refine AN (show ¬ decide (V.str "op"=V.str "name")=true by decide) ?_
   left
   refine Ah (AJ.of F7) (v:=.str "op") (Au (j:=0) rfl) ?_
   left
   intros t1 H1 s1 e1
   refine C8 (.inr (AJ.of e1)) rfl (CZ _ _) ?_
   left
   refine AN (show ¬ Dh (.str "op") [.str "fun",.str "rec"]=true by decide) ?_
   left
   refine Ah (AJ.of (s1 _ _ F7)) (v:=.str "op") (Au (j:=0) rfl) ?_
   left
   refine Bc (decide_eq_true rfl) ?_
   left
   simp only [XG] at hb
   split at hb
   ·rename_i i j
    cases hb
    obtain ⟨x,y,rfl,ax,ay⟩:=DB PN
    refine Ah (AJ.of (s1 _ _ hp)) (v:=.str o) rfl ?_
    left
    refine AX (AZ.of (s1 _ _ hl)) (v:=x) rfl ?_
    left
    refine AX (AZ.of (s1 _ _ hl)) (v:=y) rfl ?_
    left
    exact ⟨o,i,j,x,y,rfl,ok,ax.mono s1,ay.mono s1,λr' H' s' a'=>q r' H' (s1.trans s') a'⟩
   ·cases hb
  | pr =>
   refine AN (show ¬ decide (V.str "pair"=V.str "name")=true by decide) ?_
   left
   refine Ah (AJ.of F7) (v:=.str "pair") (Au (j:=0) rfl) ?_
   left
   intros t1 H1 s1 e1
   refine C8 (.inr (AJ.of e1)) rfl (CZ _ _) ?_
   left
   refine AN (show ¬ Dh (.str "pair") [.str "fun",.str "rec"]=true by decide) ?_
   left
   refine Ah (AJ.of (s1 _ _ F7)) (v:=.str "pair") (Au (j:=0) rfl) ?_
   left
   refine AN (show ¬ decide (V.str "pair"=V.str "op")=true by decide) ?_
   left
   refine Ah (AJ.of (s1 _ _ F7)) (v:=.str "pair") (Au (j:=0) rfl) ?_
   left
   intros t2 H2 s2 e2
   refine C8 (.inr (AJ.of e2)) rfl (CZ _ _) ?_
   left
   refine Bc (show Dh (.str "pair") [.str "pair",.str "link"]=true by decide) ?_
   left
   have Cq:=s1.trans s2
   refine Ah (AJ.of (Cq _ _ F7)) (v:=.str "pair") (Au (j:=0) rfl) ?_
   left
   simp only [XG] at hb
   split at hb
   ·rename_i b c
    cases hb
    obtain ⟨x,y,rfl,ax,ay⟩:=DB PN
    refine AX (AZ.of (Cq _ _ hl)) (v:=x) rfl ?_
    left
    refine AX (AZ.of (Cq _ _ hl)) (v:=y) rfl ?_
    left
    intros t3 H3 s3 e3
    have Et:=Cq.trans s3
    exact q _ H3 Et ⟨t3,x,y,rfl,e3,ax.mono Et,ay.mono Et⟩
   ·cases hb
  | lk =>
   refine AN (show ¬ decide (V.str "link"=V.str "name")=true by decide) ?_
   left
   refine Ah (AJ.of F7) (v:=.str "link") (Au (j:=0) rfl) ?_
   left
   intros t1 H1 s1 e1
   refine C8 (.inr (AJ.of e1)) rfl (CZ _ _) ?_
   left
   refine AN (show ¬ Dh (.str "link") [.str "fun",.str "rec"]=true by decide) ?_
   left
   refine Ah (AJ.of (s1 _ _ F7)) (v:=.str "link") (Au (j:=0) rfl) ?_
   left
   refine AN (show ¬ decide (V.str "link"=V.str "op")=true by decide) ?_
   left
   refine Ah (AJ.of (s1 _ _ F7)) (v:=.str "link") (Au (j:=0) rfl) ?_
   left
   intros t2 H2 s2 e2
   refine C8 (.inr (AJ.of e2)) rfl (CZ _ _) ?_
   left
   refine Bc (show Dh (.str "link") [.str "pair",.str "link"]=true by decide) ?_
   left
   have Cq:=s1.trans s2
   refine Ah (AJ.of (Cq _ _ F7)) (v:=.str "link") (Au (j:=0) rfl) ?_
   left
   simp only [XG] at hb
   split at hb
   ·rename_i b c
    cases hb
    obtain ⟨x,y,rfl,ax,ay⟩:=DB PN
    refine AX (AZ.of (Cq _ _ hl)) (v:=x) rfl ?_
    left
    refine AX (AZ.of (Cq _ _ hl)) (v:=y) rfl ?_
    left
    intros t3 H3 s3 e3
    have Et:=Cq.trans s3
    exact q _ H3 Et ⟨t3,x,y,rfl,e3,ax.mono Et,ay.mono Et⟩
   ·cases hb
  | num i =>
   refine AN (show ¬ decide (V.str "number"=V.str "name")=true by decide) ?_
   left
   refine Ah (AJ.of F7) (v:=.str "number") (Au (j:=0) rfl) ?_
   left
   intros t1 H1 s1 e1
   refine C8 (.inr (AJ.of e1)) rfl (CZ _ _) ?_
   left
   refine AN (show ¬ Dh (.str "number") [.str "fun",.str "rec"]=true by decide) ?_
   left
   refine Ah (AJ.of (s1 _ _ F7)) (v:=.str "number") (Au (j:=0) rfl) ?_
   left
   refine AN (show ¬ decide (V.str "number"=V.str "op")=true by decide) ?_
   left
   refine Ah (AJ.of (s1 _ _ F7)) (v:=.str "number") (Au (j:=0) rfl) ?_
   left
   intros t2 H2 s2 e2
   refine C8 (.inr (AJ.of e2)) rfl (CZ _ _) ?_
   left
   refine AN (show ¬ Dh (.str "number") [.str "pair",.str "link"]=true by decide) ?_
   left
   cases hb
   exact q _ H2 (s1.trans s2) ⟨p,rfl,s2 _ _ (s1 _ _ hp)⟩
  | tru i =>
   refine AN (show ¬ decide (V.str "truth"=V.str "name")=true by decide) ?_
   left
   refine Ah (AJ.of F7) (v:=.str "truth") (Au (j:=0) rfl) ?_
   left
   intros t1 H1 s1 e1
   refine C8 (.inr (AJ.of e1)) rfl (CZ _ _) ?_
   left
   refine AN (show ¬ Dh (.str "truth") [.str "fun",.str "rec"]=true by decide) ?_
   left
   refine Ah (AJ.of (s1 _ _ F7)) (v:=.str "truth") (Au (j:=0) rfl) ?_
   left
   refine AN (show ¬ decide (V.str "truth"=V.str "op")=true by decide) ?_
   left
   refine Ah (AJ.of (s1 _ _ F7)) (v:=.str "truth") (Au (j:=0) rfl) ?_
   left
   intros t2 H2 s2 e2
   refine C8 (.inr (AJ.of e2)) rfl (CZ _ _) ?_
   left
   refine AN (show ¬ Dh (.str "truth") [.str "pair",.str "link"]=true by decide) ?_
   left
   cases hb
   exact q _ H2 (s1.trans s2) ⟨p,rfl,s2 _ _ (s1 _ _ hp)⟩
  | emp =>
   refine AN (show ¬ decide (V.str "empty"=V.str "name")=true by decide) ?_
   left
   refine Ah (AJ.of F7) (v:=.str "empty") (Au (j:=0) rfl) ?_
   left
   intros t1 H1 s1 e1
   refine C8 (.inr (AJ.of e1)) rfl (CZ _ _) ?_
   left
   refine AN (show ¬ Dh (.str "empty") [.str "fun",.str "rec"]=true by decide) ?_
   left
   refine Ah (AJ.of (s1 _ _ F7)) (v:=.str "empty") (Au (j:=0) rfl) ?_
   left
   refine AN (show ¬ decide (V.str "empty"=V.str "op")=true by decide) ?_
   left
   refine Ah (AJ.of (s1 _ _ F7)) (v:=.str "empty") (Au (j:=0) rfl) ?_
   left
   intros t2 H2 s2 e2
   refine C8 (.inr (AJ.of e2)) rfl (CZ _ _) ?_
   left
   refine AN (show ¬ Dh (.str "empty") [.str "pair",.str "link"]=true by decide) ?_
   left
   cases hb
   exact q _ H2 (s1.trans s2) ⟨p,rfl,s2 _ _ (s1 _ _ hp)⟩
  | _=>simp [XG] at hb
end
end K
namespace L2
open PySem KX
section
variable {σ:St}{H:Hp}{Q:VK}{D:Ends}{ta tb:TE}
theorem Abl (q:ta σ H λx H1=>∃ c,x=.bl c/\if c=true then Q (.bl true) H1 else tb σ H1 Q):Zf ta tb σ H Q:=q
theorem OX {t0 t1 t2 t3 t4 t5 t6 t7 t8 t9 t10 Vt t12 u:TS}(Jn:St->Hp->Prop)(fin:∀ σ' H',Jn σ' H'->u D σ' H')
  (q:(∀ σ' H',Jn σ' H'->u D σ' H')->B8 t0 (B8 t1 (B8 t2 (B8 t3 (B8 t4 (B8 t5 (B8 t6 (B8 t7 (B8 t8 (B8 t9 (B8 t10 (B8 Vt (B8 t12 u)))))))))))) D σ H) :
  B8 t0 (B8 t1 (B8 t2 (B8 t3 (B8 t4 (B8 t5 (B8 t6 (B8 t7 (B8 t8 (B8 t9 (B8 t10 (B8 Vt (B8 t12 u)))))))))))) D σ H:=q fin
theorem RJ {t0 t1 u:TS}(Jn:St->Hp->Prop)(fin:∀ σ' H',Jn σ' H'->u D σ' H')(q:(∀ σ' H',Jn σ' H'->u D σ' H')->B8 t0 (B8 t1 u) D σ H):B8 t0 (B8 t1 u) D σ H:=q fin
end
end L2
local macro_rules | `(tactic| fail)=>`(tactic| with_reducible refine L2.Abl ?_)
namespace L2
open PySem KX
theorem Paired.drop {α β:Type}{F:α->β->Prop}:∀ (n:Nat) {a:List α} {b:List β},Paired F a b->Paired F (a.drop n) (b.drop n)
 | 0,_,_,h=>by simpa using h
 | n+1,_,_,.nil=>by simp;exact .nil
 | n+1,_,_,.cons r t=>by simpa using Paired.drop n t
end L2
namespace K
open PySem L2 KM KS KX
noncomputable def PY (H:Hp)(f:Nat × List MV)(r:V):Prop:=EM λq h hs=>r=.ref q/\H q=some (.tup [.int f.1,.ref h])/\H h=some (.lst hs)/\Paired (CG H) f.2 hs
theorem PY.mono {H H':Hp}(t:An H H'){f:Nat × List MV}{r:V}(h:PY H f r):PY H' f r:=by
 obtain ⟨q,h',hs,h1,h2,h3,h4⟩:=h
 exact ⟨q,h',hs,h1,t _ _ h2,t _ _ h3,Paired.mapP h4 λ_ _ z=>z.mono t⟩
section
variable {H:Hp}{lf:Addr}{e:V}{es:List V}{o:HO}
theorem Vu (FQ:H lf=some (.lst (e::es)))(he:EM λq x us=>e=.ref q/\H q=some (.tup (.int x::us))){k:Addr}{h:List MV}{us:List V}(hk:H k=some (.lst us))(lS:Paired (CG H) h us):k≠lf:=by
 intro z
 subst z
 rw [hk] at FQ
 cases FQ
 cases lS with
 | cons a b =>
  obtain ⟨q,x,us,rfl,h1⟩:=he
  obtain ⟨p,TR,e',h2,_⟩:=CG.look a
  cases e'
  rw [h1] at h2
  cases h2
mutual
theorem CG.put (FQ:H lf=some (.lst (e::es)))(he:EM λq x us=>e=.ref q/\H q=some (.tup (.int x::us))):∀ {v:MV} {r:V},CG H v r->CG (upd H lf o) v r
 | .num _,_,⟨p,h1,h2⟩=>⟨p,h1,by rw [Aq (E7 h2 FQ (by intro z;cases z))];exact h2⟩
 | .tru _,_,⟨p,h1,h2⟩=>⟨p,h1,by rw [Aq (E7 h2 FQ (by intro z;cases z))];exact h2⟩
 | .emp,_,⟨p,h1,h2⟩=>⟨p,h1,by rw [Aq (E7 h2 FQ (by intro z;cases z))];exact h2⟩
 | .fn _ _ _,_,⟨p,k,us,h1,h2,h3,h4⟩=>⟨p,k,us,h1,by rw [Aq (E7 h2 FQ (by intro z;cases z))];exact h2,by rw [Aq (Vu FQ he h3 (Es.mp h4))];exact h3,Gf.put FQ he h4⟩
 | .two _ _ _,_,⟨p,ra,rb,h1,h2,h3,h4⟩=>⟨p,ra,rb,h1,by rw [Aq (E7 h2 FQ (by intro z;cases z))];exact h2,CG.put FQ he h3,CG.put FQ he h4⟩
theorem Gf.put (FQ:H lf=some (.lst (e::es)))(he:EM λq x us=>e=.ref q/\H q=some (.tup (.int x::us))):∀ {vs:List MV} {rs:List V},Gf H vs rs->Gf (upd H lf o) vs rs
 | [],[],_=>trivial
 | [],_::_,h=>h.elim
 | _::_,[],h=>h.elim
 | _::_,_::_,h=>⟨CG.put FQ he h.1,Gf.put FQ he h.2⟩
end
end
structure ck (H:Hp)(s:Ma)(lp lh lf:Addr):Prop where
 p:∃ vs,H lp=some (.lst vs)/\Paired (CG H) s.pile.reverse vs
 h:∃ hs,H lh=some (.lst hs)/\Paired (CG H) s.held hs
 f:∃ fs,H lf=some (.lst fs)/\Paired (PY H) s.frs.reverse fs
theorem ck.mono {H H':Hp}(t:An H H'){s:Ma}{lp lh lf:Addr}(L:ck H s lp lh lf):ck H' s lp lh lf:=by
 obtain ⟨⟨vs,h1,h2⟩,⟨hs,h3,h4⟩,⟨fs,h5,h6⟩⟩:=L
 exact ⟨⟨vs,t _ _ h1,Paired.mapP h2 λ_ _ z=>z.mono t⟩,⟨hs,t _ _ h3,Paired.mapP h4 λ_ _ z=>z.mono t⟩,⟨fs,t _ _ h5,Paired.mapP h6 λ_ _ z=>z.mono t⟩⟩
noncomputable def yh:List (Key × V):=[(.inr "pair",.int 2),(.inr "link",.int 2),(.inr "op",.int 2),(.inr "call",.int 2),(.inr "let",.int 1),(.inr "open",.int 1),(.inr "when",.int 1),(.inr "split",.int 1),(.inr "end",.int 1)]
theorem RK (st:MS):(Cy (Di [] yh) (Sum.inr st.wd:Key)).getD (.int 0)=.int (AV st):=by
 cases st <;> simp only [MS.wd] <;> first | rfl | decide +kernel
noncomputable def lastOf:MS->V
 | .num i=>.int i | .tru b=>.bl b | .emp=>.str "empty" | .nm n=>.int n | .fn n=>.int n | .rc n=>.int n | .pr=>.str "pair" | .lk=>.str "link" | .op o=>.str o | .call=>.str "call" | .back=>.str "back" | .lt=>.str "let" | .opn=>.str "open"
 | .drop n=>.int n | .jump n=>.int n | .wh n=>.int n | .spl n=>.int n | .fin=>.str "end"
theorem Vv (st:MS):Na st.cnt (-1)=some (lastOf st):=by cases st <;> rfl
theorem GW {st:MS}{tk:List MV}(h:leap st tk=true):lastOf st=.int (ln st):=by
 cases st <;> first | rfl | (simp [leap] at h)
section
variable {Pr:Program}{w:World}{K:W.Frag}{mg:Str->Option Value}{base:Heap}{code:List MS}
theorem mq {x y:Str}(h:x≠y):¬ decide (V.str x=V.str y)=true:=by simpa using h
abbrev RL:List V:=[.str "call",.str "let",.str "open",.str "split",.str "drop"]
theorem L4 {st:MS}(h:HC st=true):st.wd≠"end"/\st.wd≠"call"/\Dh (.str st.wd) RL=false/\st.wd≠"back"/\Dh (.str st.wd) [.str "jump",.str "when"]=false:=by
 cases st <;> simp only [HC,Bool.false_eq_true] at h <;> simp only [MS.wd] <;> decide
theorem My {st:MS}(h:st=.lt\/st=.opn\/(∃ n,st=.spl n)\/∃ n,st=.drop n):st.wd≠"end"/\st.wd≠"call"/\Dh (.str st.wd) RL=true:=by
 rcases h with rfl | rfl | ⟨n,rfl⟩ | ⟨n,rfl⟩ <;> simp only [MS.wd] <;> decide
theorem RM {st:MS}{tk:List MV}(h1:∀ n,st≠.wh n)(h2:∀ n,st≠.spl n):Dh (.str st.wd) [.str "jump",.str "fun",.str "rec"]=leap st tk/\Dh (.str st.wd) [.str "when",.str "split"]=false:=by
 cases st with
 | wh n=>exact absurd rfl (h1 n)
 | spl n=>exact absurd rfl (h2 n)
 | _=>simp only [MS.wd,leap] <;> decide
structure LSp (H:Hp)(Q:VK)(o:Out)(ND:Nat):Prop where
 n:o=.none->∀ H',An H H'->Q .non H'
 s:o=.stuck->∀ H',An H H'->Q (.str "stuck") H'
 t:∀ v c,o=.told v c->Gd v<=ND/\∀ p r H',An H H'->H' p=some (.tup [r,.int c])->D3 H' v r->Q (.ref p) H'
inductive Iv (code:List MS)(most B:Nat)(o:Out)(H:Hp)(lc nd:Addr)(m:Nat)(σ':St)(H':Hp):Prop
 | mk (s:Ma) (lp lh lf:Addr) (w8 w9 yi PZ:Option V) (h0:Ends code most m s o) (h1:s.calls<=most) (h2:Good code most B 90000 s) (h3:σ'=[some (.ref lc),some (.int most),some (.ref nd),some (.int s.at'),some (.int s.calls),some (.ref lp),some (.ref lh),some (.ref lf),w8,w9,yi,PZ]) (h4:An H H') (h5:ck H' s lp lh lf) (h6:H lf=none) (h7:H' nd=some (.dK (Di [] yh))):Iv code most B o H lc nd m σ' H'
inductive Jv (most:Nat)(H:Hp)(lc nd:Addr)(st:MS)(s:Ma)(σ':St)(H':Hp):Prop
 | mk (a2:Nat) (s2:Ma) (qh qj mr:Addr) (b:Bool) (tv:V) (h0:σ'=[some (.ref lc),some (.int most),some (.ref nd),some (.int a2),some (.int s2.calls),some (.ref qh),some (.ref qj),some (.ref mr),some (.str st.wd),some (lastOf st),some tv,some (.bl b)]) (h1:An H H') (h2:(b=true->lastOf st=.int (ln st))) (h3:exec st s=.go { s2 with at':=a2+(if b then ln st else 0) }) (h4:ck H' s2 qh qj mr) (h5:H mr=none) (h6:H' nd=some (.dK (Di [] yh))):Jv most H lc nd st s σ' H'
inductive Jw (most:Nat)(lc nd:Addr)(st:MS)(s:Ma)(lp lh lf lt:Addr)(PZ:Option V)(H7:Hp)(σ':St)(H':Hp):Prop
 | mk (h0:σ'=[some (.ref lc),some (.int most),some (.ref nd),some (.int ((s.at'+1:Nat):Int)),some (.int s.calls),some (.ref lp),some (.ref lh),some (.ref lf),some (.str st.wd),some (lastOf st),some (.ref lt),PZ]) (h1:H'=H7) (h2:(st=.back->s.frs≠[])) (h3:(∀ n,st=.drop n->n<=s.held.length)) (h4:(∀ n,st=.nm n->n < s.held.length)):Jw most lc nd st s lp lh lf lt PZ H7 σ' H'
inductive Jx (most:Nat)(lc nd:Addr)(st:MS)(s:Ma)(lp lh lf lt:Addr)(H9:Hp)(σ':St)(H':Hp):Prop
 | mk (h0:σ'=[some (.ref lc),some (.int most),some (.ref nd),some (.int ((s.at'+1:Nat):Int)),some (.int s.calls),some (.ref lp),some (.ref lh),some (.ref lf),some (.str st.wd),some (lastOf st),some (.ref lt),some (.bl (leap st (DL st s)))]) (h1:An H9 H'):Jx most lc nd st s lp lh lf lt H9 σ' H'
inductive Ju (most:Nat)(lc nd:Addr)(st:MS)(s:Ma)(lp lh lf lt:Addr)(PZ:Option V)(H7:Hp)(σ':St)(H':Hp):Prop
 | mk (h0:σ'=[some (.ref lc),some (.int most),some (.ref nd),some (.int ((s.at'+1:Nat):Int)),some (.int s.calls),some (.ref lp),some (.ref lh),some (.ref lf),some (.str st.wd),some (lastOf st),some (.ref lt),PZ]) (h1:H'=H7) (h2:(st=.back->s.frs≠[])) (h3:(∀ n,st=.drop n->n<=s.held.length)):Ju most lc nd st s lp lh lf lt PZ H7 σ' H'
inductive cm (code:List MS)(ND:Nat)(vs:(List V))(H:Hp)(Q:VK)(z3:XK):Prop
 | mk (lc:Addr) (most n B:Nat) (o:Out) (h1:vs=[.ref lc,.int most]) (h2:FZ H lc code) (h3:(∀ s∈code,s.ok)) (h4:Ends code most n PV o) (h5:Good code most B 90000 PV) (h6:most<=1000) (h7:LSp H Q o ND):cm code ND vs H Q z3
theorem E5:Ar ["_law_code","_law_most","_law_needs","_law_at","_law_calls","_law_pile","_law_held_here","_law_froms","_law_word","_law_last","_law_taken_here","_law_leaps"] ["_law_code","_law_most"] (Ad CD):=nofun
theorem qk {ND:Nat}{f:Addr}{fd:FuncData}(F:Ck K "_law_done" "_law_done" CD f fd)(B1:mg "len"=none)(Jo:mg "max"=none)(hND:2<=ND)
  (cF:Cl Pr w K mg base 1 "_law_fits" ["_law_word","_law_taken_here"] NC) (cS:Cl Pr w K mg base (ND+1) "_law_show" ["_law_value"] (Rq ND))
  (cH:Cl Pr w K mg base 1 "_law_held" ["_law_word","_law_last","_law_taken_here","_law_held_here"] NH) (cB:Cl Pr w K mg base 2 "_law_brought" ["_law_one_here","_law_taken_here","_law_at","_law_held_here"] NI) :
  AI Pr w K mg base BR (ND+2) f fd ["_law_code","_law_most"] (cm code ND):=by
 refine F.okS E5 (λvs H Q E h=>?_) (λBo A outer s0 H vs Q E hr h=>?_)
 ·obtain ⟨lc,most,n,B,o,rfl,_⟩:=h;rfl
 ·obtain ⟨lc,most,n,B,o,rfl,hc,hok,hE,hG,hm,hD⟩:=h
  have Dd:AY 1 _:=hr.mono ()
  have FA:AY 2 _:=hr.mono ()
  have hu:=Jd hr
  have Io:=hr.units
  refine ⟨_,(Ae (Ax (i:=2) E5.nd rfl (.inl rfl) (JN (Dk Ag Ac (Dk Ag Ac (Dk Ag Ac (Dk Ag Ac (Dk Ag Ac (Dk Ag Ac (Dk Ag Ac (Dk Ag Ac (Dk Ag Ac Nn))))))))) rfl rfl (by simp) ⟨⟩))
   (Ae (Ax (i:=3) E5.nd rfl (.inl rfl) Ac)
   (Ae (Ax (i:=4) E5.nd rfl (.inl rfl) Ac)
   (Ae (Ax (i:=5) E5.nd rfl (.inl rfl) (AS Ab))
   (Ae (Ax (i:=6) E5.nd rfl (.inl rfl) (AS Ab))
   (Ae (Ax (i:=7) E5.nd rfl (.inl rfl) (AS Ab))
   (Ae (JO PassesOwn.never (Az DD (Af 3) (AU AG (by rfl) B1 PySem.boot_len (Aa (Af 0) Ab)) (Ak _)) (Ae (Ax (i:=8) E5.nd rfl (.inl rfl) (Av Al (Av AA (Af 0) (Af 3) AR) Ac AR))
   (Ae (Ax (i:=9) E5.nd rfl (.inl rfl) (Av Al (Av AA (Af 0) (Af 3) AR) (Vd JF Ac) AR))
   (Ae (Ax (i:=3) E5.nd rfl (.inl rfl) (Aj AW (Af 3) Ac))
   (Ae (Ax (i:=10) E5.nd rfl (.inl rfl) (DT Ff (Af 5) (EE (AU (J2 rfl) (by rfl) Jo PyProof.Rows.boot_max (Aa Ac (Aa (Aj Bx (AU AG (by rfl) B1 PySem.boot_len (Aa (Af 5) Ab)) (G8 hu (Af 2) (Af 8) Ac ⟨rfl,rfl,rfl,rfl⟩)) Ab)))) ED))
   (Ae (B4 (ID (w_or (Az DD (AU AG (by rfl) B1 PySem.boot_len (Aa (Af 10) Ab)) (G8 hu (Af 2) (Af 8) Ac ⟨rfl,rfl,rfl,rfl⟩) (Ak _)) (Fy (HV (Hf (B3 cF Dd rfl (Aa (Af 8) (Aa (Af 10) Ab)))))))) (Ai (Aw Ag)) AK)
   (Ae (B4 (ID (w_or (ID (w_and (Az AO (Af 8) Ag (Ak _)) (DN (HV (Ea (Af 7)))))) (Fy (ID (w_and (Az AO (Af 8) Ag (Ak _)) (DN (Az N1 (Af 9) (AU AG (by rfl) B1 PySem.boot_len (Aa (Af 6) Ab)) (Ak _)))))))) (Ai (Aw Ag)) AK)
   (Ae (B4 (ID (w_and (Az AO (Af 8) Ag (Ak _)) (DN (Az Xg (Af 9) (AU AG (by rfl) B1 PySem.boot_len (Aa (Af 6) Ab)) (Ak _))))) (Ai (Aw Ag)) AK)
   (Ae (Ax (i:=5) E5.nd rfl (.inl rfl) (DT Ff (Af 5) ED (EE (Aj Bx (AU AG (by rfl) B1 PySem.boot_len (Aa (Af 5) Ab)) (AU AG (by rfl) B1 PySem.boot_len (Aa (Af 10) Ab))))))
   (Ae (Ax (i:=11) E5.nd rfl (.inl rfl) (CP Cr (Af 8) (Am (Aa Ag (Aa Ag (Aa Ag Ab)))) rfl))
   (Ae (B4 (Az Cr (Af 8) (Am (Aa Ag (Aa Ag Ab))) rfl) (Ai (Ax (i:=11) E5.nd rfl (.inl rfl) (zJ (CP ((GQ Io).or (aR Io)) (Av AA (Af 10) Ac AR) (Am (Aa Ag (Aa ah Ab))) (Ak _)) (Kr (CP AO (Av Al (Av AA (Af 10) Ac AR) Ac AR) Ag (Ak _)))))) AK)
   (Ae (B4 (Az AO (Af 8) Ag (Ak _)) (Ai (Aw (Am (Aa (B3 cS hr rfl (Aa (Av AA (Af 10) Ac AR) Ab)) (Aa (Af 4) Ab))))) AK)
   (Ae (B4 (Az AO (Af 8) Ag (Ak _)) (Ae (Ax (i:=4) E5.nd rfl (.inl rfl) (Aj AW (Af 4) Ac))
   (Ae (Ax (i:=7) E5.nd rfl (.inl rfl) (Aj B7 (Af 7) (AS (Aa (Am (Aa (Af 3) (Aa (Af 6) Ab))) Ab))))
   (Ai (Ax (i:=3) E5.nd rfl (.inl rfl) (Av Al (Av AA (Af 10) Ac AR) Ac AR))))) AK)
   (Ae (B4 (Az Cr (Af 8) (Am (Aa Ag (Aa Ag (Aa Ag (Aa Ag (Aa Ag Ab)))))) rfl) (Ai (Ax (i:=6) E5.nd rfl (.inl rfl) (B3 cH Dd rfl (Aa (Af 8) (Aa (Af 9) (Aa (Af 10) (Aa (Af 6) Ab))))))) (Ai (B4 (Az AO (Af 8) Ag (Ak _)) (Ai (oK (Jh PySem.F.plainAttrs_list PySem.F.slot_list_pop PySem.F.type_list_pop GG (Af 7)) (Kz rfl (Dz (C1 (i:=3) E5.nd rfl (.inl rfl)) (Dz (C1 (i:=6) E5.nd rfl (.inl rfl)) Ic))))) (Ai (B4 (Az EA (Af 8) (Am (Aa Ag (Aa Ag Ab))) rfl) (Ai (Ax (i:=5) E5.nd rfl (.inl rfl) (Aj B7 (Af 5) (AS (Aa (B3 cB FA rfl (Aa (Av AA (Af 0) (Aj Bx (Af 3) Ac) AR) (Aa (Af 10) (Aa (Af 3) (Aa (Af 6) Ab))))) Ab))))) AK)))))
   (Ae (B4 (Ea (Af 11)) (Ai (Ax (i:=3) E5.nd rfl (.inl rfl) (Aj AW (Af 3) (Af 9)))) AK)
   (Ai (B4 (Az N1 (Af 4) (Af 1) (Ak _)) (Ai (Aw Fx)) AK)))))))))))))))))
   (Ai (Aw Ag))))))))),?_⟩
  left
  refine HA λnd H0 hnd IT e0=>?_
  left
  refine ⟨e0,yh,rfl,⟨⟩,λH1 o1 e1=>?_⟩
  have yj:An H H1:=λb o hb=>by
   have cc:b≠nd:=λz=>by rw [z,hnd] at hb;cases hb
   rw [o1 b cc];exact IT _ _ hb
  left
  refine Bz (BB ⟨⟩) λlp H2 pY s2 e2=>?_
  left
  refine Bz (BB ⟨⟩) λlh H3 yc s3 e3=>?_
  left
  refine Bz (BB ⟨⟩) λlf H4 FQ s4 e4=>?_
  left
  have FR:=s2.trans (s3.trans s4)
  have Mx:=yj.trans FR
  refine ⟨Iv code most B o H lc nd,
   ⟨n,PV,lp,lh,lf,none,none,none,none,hE,Nat.zero_le _,hG,rfl,Mx,⟨⟨[],s4 _ _ (s3 _ _ e2),.nil⟩,⟨[],s4 _ _ e3,.nil⟩,⟨[],e4,.nil⟩⟩,yj.free (s2.free (s3.free FQ)),FR _ _ e1⟩,?_⟩
  clear hE hG e4 e3 e2 pY yc FQ s2 s3 s4 FR Mx
  rintro m σ' H5 ⟨s,lp,lh,lf,w8,w9,yi,PZ,hE,hcm,hG,rfl,sH,L,FQ,cn⟩
  obtain ⟨cs,c1,c2⟩:=hc.mono sH
  have lcs:=Paired.len c2
  left
  refine ⟨lc,cs,rfl,.inl (AZ.of c1),?_⟩
  left
  have stuck:KX.step code s=.stuck->o=.stuck:=λz=>by
   cases hE with
   | over z'=>omega
   | stuck _ _=>rfl
   | told _ z'=>rw [z] at z';cases z'
   | go _ z' _=>rw [z] at z';cases z'
  by_cases Rn:s.at' < code.length
  ·refine Bc (decide_eq_true ()) ⟨fun σ' H'=>∃ m',m' < m/\Iv code most B o H lc nd m' σ' H',fun σ' H' q=>q,?_⟩
   obtain ⟨st,DM⟩:∃ st,code[s.at']?=some st:=⟨code[s.at'],by simp [Rn]⟩
   have IU:KX.step code s=exec st s:=by unfold KX.step;rw [DM]
   rw [IU] at stuck
   have sok:=hok st (List.mem_of_getElem? DM)
   obtain ⟨r,hr',p,rfl,hp⟩:=Paired.at1 c2 DM
   obtain ⟨us0,qb⟩:=st.cnt_wd
   have F7:=hp
   rw [qb] at F7
   have bs:=NB hG () hcm
   refine OX (Jv most H lc nd st s) ?_ λfin=>?_
   ·rintro σ' H6 ⟨a2,s2,qh,qj,mr,b,tv,rfl,ql,hbl,hex,L2,Abp,OY⟩
    have XW:∀ (a3:Nat),exec st s=.go { s2 with at':=a3 }->Lz (J1 (Ft (LH λi j=>.bl (decide (j < i))) (Bw 4) (Bw 1))) (Ly (tC .non)) J0 { nx:=fun σ' H'=>∃ m',m' < m/\Iv code most B o H lc nd m' σ' H',rt:=Q }
      [some (.ref lc),some (.int most),some (.ref nd),some (.int a3),some (.int s2.calls),some (.ref qh),some (.ref qj),some (.ref mr),some (.str st.wd),some (lastOf st),some tv,some (.bl b)] H6:=by
     intro a3 hex
     have e0:KX.step code s=.go { s2 with at':=a3 }:=by rw [IU];exact hex
     obtain ⟨m',hm',mn⟩:∃ m',m' < m/\Ends code most m' { s2 with at':=a3 } o:=by
      cases hE with
      | over z'=>omega
      | stuck _ z'=>rw [e0] at z';cases z'
      | told _ z'=>rw [e0] at z';cases z'
      | go _ z' mn=>rw [e0] at z';cases z';exact ⟨_,Nat.lt_succ_self _,mn⟩
     left
     by_cases Hk:s2.calls<=most
     ·refine AN (λz=>by have:=of_decide_eq_true z;omega) ?_
      left
      exact ⟨m',hm',{ s2 with at':=a3 },qh,qj,mr,_,_,_,_,mn,Hk,(hG.step hcm e0).1 Hk,rfl,ql,⟨L2.p,L2.h,L2.f⟩,Abp,OY⟩
     ·refine Bc (decide_eq_true ()) ?_
      left
      have ho:o=.none:=by
       cases mn with
       | over z'=>rfl
       | stuck z' _=>exact absurd z' Hk
       | told z' _=>exact absurd z' Hk
       | go z' _ _=>exact absurd z' Hk
      exact hD.n ho H6 ql
    left
    refine ⟨b,rfl,?_⟩
    cases b with
    | true =>
     refine Dm ?_
     refine Rh (oN (JT (v:=.int a2) rfl (JT (v:=lastOf st) rfl ?_)))
     refine ⟨a2,ln st,rfl,hbl rfl,?_⟩
     have e3:(a2:Int)+(ln st:Int)=((a2+ln st:Nat):Int):=by omega
     have NJ:=XW (a2+ln st) hex
     rw [<- e3] at NJ
     exact NJ
    | false =>
     refine DH ?_
     exact XW a2 hex
   ·obtain ⟨⟨vs,hpv,hpp⟩,⟨hs,hhv,RI⟩,⟨fs,hfv,xE⟩⟩:=id L
    have yk:=Paired.len hpp
    rw [List.length_reverse] at yk
    have lhs:=Paired.len RI
    have lfs:=Paired.len xE
    rw [List.length_reverse] at lfs
    left
    refine AX (AZ.of c1) (v:=.ref p) (Au hr') ?_
    left
    refine Ah (AJ.of F7) (v:=.str st.wd) (Au (j:=0) rfl) ?_
    left
    refine AX (AZ.of c1) (v:=.ref p) (Au hr') ?_
    left
    refine Ah (AJ.of hp) (v:=lastOf st) (Vv st) ?_
    left
    refine ⟨lp,vs,rfl,.inl (AZ.of hpv),?_⟩
    left
    refine ⟨nd,rfl,.inl ⟨_,.inl cn⟩,?_⟩
    left
    refine ⟨_,Eg.k (k:=.inr st.wd) cn,?_⟩
    rw [RK]
    left
    refine ⟨_,_,rfl,?_⟩
    left
    have elo:(if (vs.length:Int) - (AV st:Int) > 0 then (vs.length:Int) - (AV st:Int) else 0)=((vs.length - AV st:Nat):Int):=by split <;> omega
    rw [elo]
    refine FL (AZ.of hpv) λlt H6 Ef s6 e6=>?_
    have cp:D2 vs (some ((vs.length - AV st:Nat):Int)) none=vs.drop (vs.length - AV st):=by
     unfold D2
     rw [HT.sIx_none,HT.sIx_nat,Nat.min_eq_left ()]
     rw [List.take_of_length_le (by rw [List.length_drop];omega)]
    rw [cp] at e6
    have PN:Paired (CG H6) (DL st s) (vs.drop (vs.length - AV st)):=by
     have h1:=Paired.drop (vs.length - AV st) (Paired.mapP hpp λ_ _ z=>CG.mono s6 z)
     have e:s.pile.reverse.drop (vs.length - AV st)=DL st s:=by
      unfold DL
      rw [<- yk,List.reverse_take]
     rw [e] at h1
     exact h1
    generalize lS:vs.drop (vs.length - AV st)=us at e6 PN
    have lus:us.length=min vs.length (AV st):=by rw [<- lS,List.length_drop];omega
    have ltk:=Paired.len PN
    have L6:=L.mono s6
    have ql:=sH.trans s6
    have OY:=s6 _ _ cn
    left
    refine ⟨lt,us,rfl,.inl (AZ.of e6),?_⟩
    left
    refine ⟨nd,rfl,.inl ⟨_,.inl OY⟩,?_⟩
    left
    refine ⟨_,Eg.k (k:=.inr st.wd) OY,?_⟩
    rw [RK]
    left
    by_cases few:vs.length < AV st
    ·refine Bc (decide_eq_true ()) (Dm ?_)
     left
     exact hD.s (stuck (aV ())) H6 ql
    refine AN (λz=>by have:=of_decide_eq_true z;omega) ?_
    left
    have cq:(DL st s).length=AV st:=by omega
    refine ⟨st,lt,us,DL st s,rfl,e6,PN,cq,λH7 s7=>?_⟩
    have qm:=ql.trans s7
    left
    cases G5:fit st (DL st s) with
    | false =>
     refine Bc rfl ?_
     left
     exact hD.s (stuck (aW G5)) H7 qm
    | true =>
    refine AN ⟨⟩ ?_
    have e7:=s7 _ _ e6
    have qo:=Paired.mapP PN λ_ _ z=>CG.mono s7 z
    have L7:=L6.mono s7
    have Abs:=s7 _ _ OY
    have qp:=s6.trans s7
    clear e6 PN L6 OY
    obtain ⟨⟨Gy,Vw,Abt⟩,⟨FK,RN,Abu⟩,⟨IB,Vx,cu⟩⟩:=id L7
    have ev:Gy=vs:=by rw [qp _ _ hpv] at Vw;cases Vw;rfl
    have eh:FK=hs:=by rw [qp _ _ hhv] at RN;cases RN;rfl
    have ef:IB=fs:=by rw [qp _ _ hfv] at Vx;cases Vx;rfl
    subst ev eh ef
    clear lS
    have cv:AV st<=s.pile.length:=by omega
    refine RJ (Jw most lc nd st s lp lh lf lt PZ H7) ?_ λqt=>?_
    ·rintro σ' H' ⟨rfl,rfl,k1,k2,k3⟩
     left
     refine ⟨lp,Gy,rfl,.inl (AZ.of Vw),?_⟩
     left
     refine ⟨lt,us,rfl,.inl (AZ.of e7),?_⟩
     left
     refine FL (AZ.of Vw) λlq H8 hlq s8 e8=>?_
     have cp:D2 Gy none (some ((Gy.length:Int) - (us.length:Int)))=Gy.take (Gy.length - AV st):=by
      unfold D2
      rw [show (Gy.length:Int) - (us.length:Int)=((Gy.length - AV st:Nat):Int) by omega,HT.sIx_none,HT.sIx_nat,Nat.min_eq_left ()]
      simp
     rw [cp] at e8
     have hq8:Paired (CG H8) (s.pile.drop (AV st)).reverse (Gy.take (Gy.length - AV st)):=by
      have h1:=Paired.take (Gy.length - AV st) (Paired.mapP Abt λ_ _ z=>CG.mono s8 z)
      have e:s.pile.reverse.take (Gy.length - AV st)=(s.pile.drop (AV st)).reverse:=by
       rw [<- yk,List.reverse_drop]
      rw [e] at h1
      exact h1
     left
     intros t9 H9 s9 e9
     refine C8 (.inr (AJ.of e9)) rfl rfl ?_
     have yl:=s8.trans s9
     have sH9:=qm.trans yl
     have mv:=yl _ _ e7
     have Vy:=Paired.mapP qo λ_ _ z=>CG.mono yl z
     refine Hz (Jx most lc nd st s lq lh lf lt H9) ?_ λL5=>?_
     ·rintro σ' IF ⟨rfl,De⟩
      have K2:=yl.trans De
      have Mz:=sH9.trans De
      have RO:=s9.trans De
      have RP:=RO _ _ e8
      have L8:=Paired.mapP hq8 λ_ _ z=>CG.mono RO z
      have RQ:=K2 _ _ e7
      have Jp:=Paired.mapP qo λ_ _ z=>CG.mono K2 z
      have RS:=K2 _ _ RN
      have L9:=Paired.mapP Abu λ_ _ z=>CG.mono K2 z
      have Vz:=K2 _ _ Vx
      have NM:=Paired.mapP cu λ_ _ z=>PY.mono K2 z
      have Jq:=K2 _ _ Abs
      have qu:IF lc=some (.lst cs):=(qp.trans K2) _ _ c1
      have qw:=(qp.trans K2) _ _ hp
      left
      have Lp:∀ {H':Hp} (s':An IF H') {pl:List MV} {qx:Addr} {xs:List V},H' qx=some (.lst xs)->Paired (CG H') pl.reverse xs->∀ (a c:Nat),ck H' ⟨a,c,pl,s.held,s.frs⟩ qx lh lf:=λ{H'} s' {pl qx xs} h1 h2 a c =>
       ⟨⟨xs,h1,h2⟩,⟨FK,s' _ _ RS,Paired.mapP L9 λ_ _ z=>CG.mono s' z⟩,⟨IB,s' _ _ Vz,Paired.mapP NM λ_ _ z=>PY.mono s' z⟩⟩
      have Lh:∀ {H':Hp} (s':An IF H') {hl:List MV} {lhn:Addr} {xs:List V},H' lhn=some (.lst xs)->Paired (CG H') hl xs->∀ (a c:Nat),ck H' ⟨a,c,s.pile.drop (AV st),hl,s.frs⟩ lq lhn lf:=λ{H'} s' {hl lhn xs} h1 h2 a c =>
       ⟨⟨_,s' _ _ RP,Paired.mapP L8 λ_ _ z=>CG.mono s' z⟩,⟨xs,h1,h2⟩,⟨IB,s' _ _ Vz,Paired.mapP NM λ_ _ z=>PY.mono s' z⟩⟩
      have tkb:∀ v∈DL st s,F' v<=90000:=λv hv=>bs.v v (by unfold DL at hv;exact List.mem_of_mem_take (List.mem_reverse.mp hv))
      by_cases wf:st=.fin
      ·subst wf
       refine Bc (decide_eq_true rfl) ?_
       left
       obtain ⟨v,ev,hex⟩:=aX cv
       rw [ev] at Jp
       obtain ⟨x,rfl,hx⟩:=DV Jp
       have ho:o=.told v s.calls:=by
        cases hE with
        | over z'=>omega
        | stuck _ z'=>rw [IU,hex] at z';cases z'
        | told _ z'=>rw [IU,hex] at z';cases z';rfl
        | go _ z' _=>rw [IU,hex] at z';cases z'
       obtain ⟨hdv,hDt⟩:=hD.t v s.calls ho
       refine AX (AZ.of RQ) (v:=x) rfl ?_
       left
       refine ⟨v,x,rfl,hx,hdv,λr' FT CL Q0=>?_⟩
       left
       intros pt RT Ew K3
       exact hDt pt r' RT (Mz.trans (CL.trans Ew)) K3 (Q0.mono (Ay.of_same Ew))
      refine AN (mq λz=>wf (MS.not_end z)) ?_
      left
      by_cases wc:st=.call
      ·subst wc
       refine Bc (decide_eq_true rfl) ?_
       obtain ⟨c,a,k,v,et,hex⟩:=JP cv G5
       have XX:=Jp
       rw [et] at XX
       obtain ⟨x,y,rfl,⟨q,kl,ks,rfl,hq,hk,bq⟩,hy⟩:=DB XX
       left
       intros Vt FT CL GX
       left
       refine Bz (BB (Nat.le_of_ble_eq_true rfl)) λl12 RT Abw Ew K3=>?_
       have D9:=CL.trans Ew
       have bf:=bs.f
       refine CI (D9 _ _ Vz) K3 (BB (by simp;omega)) λlfn mw Abx F9 qy=>?_
       left
       have RU:=D9.trans F9
       refine AX (AZ.of (RU _ _ RQ)) (v:=.ref q) rfl ?_
       left
       refine Ah (AJ.of (RU _ _ hq)) (v:=.int a) rfl ?_
       dsimp only
       refine Gb ?_
       left
       intros t14 qz FR NJ
       refine C8 (.inr (AJ.of NJ)) rfl rfl ?_
       left
       refine Bc (show Dh (.str "call") RL=true by decide) ?_
       left
       have Hh:=RU.trans FR
       refine ⟨.call,lastOf .call,lt,lh,_,FK,DL .call s,s.held,rfl,.inl rfl,(λn e=>by cases e),Hh _ _ RQ,Paired.mapP Jp (λ_ _ z=>CG.mono Hh z),cq,G5,Hh _ _ RS,Paired.mapP L9 (λ_ _ z=>CG.mono Hh z),bs.h,tkb,λph hsn H15 VA hph e15 p15=>?_⟩
       have ES:=Hh.trans VA
       have XY:=FR.trans VA
       refine fin _ _ ⟨a,⟨a,s.calls+1,s.pile.drop 2,XF .call (DL .call s) s.held,(s.at'+1,s.held)::s.frs⟩,lq,ph,lfn,false,.ref lt,?_,Mz.trans ES,(λz=>by cases z),hex,⟨⟨_,ES _ _ RP,Paired.mapP L8 λ_ _ z=>CG.mono ES z⟩,⟨hsn,e15,p15⟩,⟨_,XY _ _ qy,?_⟩⟩,(Mz.trans D9).free Abx,ES _ _ Jq⟩
       ·rw [show ((s.calls+1:Nat):Int)=(s.calls:Int)+1 by omega]
        rfl
       ·rw [List.reverse_cons]
        have qA:=F9.trans XY
        exact Paired.app (Paired.mapP NM λ_ _ z=>PY.mono ES z) (.cons ⟨Vt,lh,FK,rfl,qA _ _ (Ew _ _ GX),ES _ _ RS,Paired.mapP L9 λ_ _ z=>CG.mono ES z⟩ .nil)
      refine AN (mq λz=>wc (by cases st <;> first | rfl | (simp only [MS.wd] at z;exact absurd z ⟨⟩))) ?_
      refine Gb ?_
      left
      intros Vt FT CL GX
      refine C8 (.inr (AJ.of GX)) rfl rfl ?_
      left
      by_cases wh:st=.lt\/st=.opn\/(∃ n,st=.spl n)\/∃ n,st=.drop n
      ·refine Bc (My wh).2.2 ?_
       left
       refine ⟨st,lastOf st,lt,lh,us,FK,DL st s,s.held,rfl,.inr wh,(λn e=>by subst e;exact ⟨rfl,k2 n rfl⟩),CL _ _ RQ,Paired.mapP Jp (λ_ _ z=>CG.mono CL z),cq,G5,CL _ _ RS,Paired.mapP L9 (λ_ _ z=>CG.mono CL z),bs.h,tkb,λph hsn RT Ew hph K3 ym=>?_⟩
       have D9:=CL.trans Ew
       exact fin _ _ ⟨s.at'+1,⟨0,s.calls,s.pile.drop (AV st),XF st (DL st s) s.held,s.frs⟩,lq,ph,lf,leap st (DL st s),.ref lt,rfl,Mz.trans D9,λz=>GW z,aY wh cv G5 k2,Lh D9 K3 ym 0 s.calls,FQ,D9 _ _ Jq⟩
      have whf:Dh (.str st.wd) RL=false:=by
       cases st <;> first | exact absurd rfl wc | exact absurd (.inl rfl) wh | exact absurd (.inr (.inl rfl)) wh | exact absurd (.inr (.inr (.inl ⟨_,rfl⟩))) wh | exact absurd (.inr (.inr (.inr ⟨_,rfl⟩))) wh | (simp only [MS.wd];decide)
      refine AN (show ¬ Dh (.str st.wd) RL=true by rw [whf];decide) ?_
      left
      have Abz:=Mz.trans CL
      by_cases wb:st=.back
      ·subst wb
       refine Bc (decide_eq_true rfl) ?_
       rcases efr:s.frs with _ | ⟨⟨a,hd⟩,rf⟩
       ·exact absurd efr (k1 rfl)
       have XZ:=Paired.mapP NM λ_ _ z=>PY.mono CL z
       rw [efr] at XZ
       obtain ⟨mx,x,rfl,PR,q,hk,bq,rfl,hq,hhk,qB⟩:=Paired.last XZ
       have cw:=CL _ _ Vz
       obtain ⟨e0,es0,eq0,yn⟩:Dn λe0 es0=>mx++[V.ref q]=e0::es0/\EM λq x us=>e0=.ref q/\FT q=some (.tup (.int x::us)):=by
        cases mx with
        | nil=>exact ⟨_,_,rfl,q,_,_,rfl,hq⟩
        | cons u r =>
         refine ⟨u,r++[.ref q],rfl,?_⟩
         have hm:∀ {fr:List (Nat × List MV)} {us:List V},Paired (PY FT) fr us->∀ u∈us,EM λq x us=>u=.ref q/\FT q=some (.tup (.int x::us)):=by
          intro fr us h
          induction h with
          | nil=>intro u hu;cases hu
          | cons z _ ih =>
           intro u hu
           rcases List.mem_cons.mp hu with rfl | hu
           ·obtain ⟨q',h',Ko,z1,z2,_⟩:=z
            exact ⟨q',_,_,z1,z2⟩
           ·exact ih u hu
         exact hm PR u (.head _)
       have Jr:FT lf=some (.lst (e0::es0)):=by rw [<- eq0];exact cw
       have put:∀ {v:MV} {r:V},CG FT v r->CG (upd FT lf (.lst mx)) v r:=λz=>CG.put Jr yn z
       have Ip:=CL _ _ RP
       have X':=Paired.mapP L8 λ_ _ z=>CG.mono CL z
       have qC:∀ (b:Addr) (xs:List V),FT b=some (.tup xs)->(upd FT lf (.lst mx)) b=some (.tup xs):=λb xs e=>by rw [Aq (E7 e Jr (by intro z;cases z))];exact e
       have Ci:∀ {f:Nat × List MV} {r:V},PY FT f r->PY (upd FT lf (.lst mx)) f r:=λ{f r} z=>by
        obtain ⟨q',h',Ko,z1,z2,z3,z4⟩:=z
        exact ⟨q',h',Ko,z1,qC _ _ z2,by rw [Aq (Vu Jr yn z3 z4)];exact z3,Paired.mapP z4 λ_ _ y=>put y⟩
       refine aQ (JT (v:=.ref lf) rfl ⟨.inl ⟨rfl,_,AZ.of cw⟩,lf,_,.ref q,rfl,rfl,cw,by simp,?_⟩)
       rw [List.dropLast_concat]
       refine ⟨q,_,rfl,AJ.of (qC _ _ hq),rfl,_,_,rfl,_,_,rfl,rfl,?_⟩
       have hnn:nd≠lf:=E7 (CL _ _ Jq) Jr (by intro z;cases z)
       refine fin _ _ ⟨a,⟨a,s.calls,s.pile,hd,rf⟩,lq,hk,lf,false,.ref lt,rfl,An.put Abz FQ,(λz=>by cases z),?_,⟨⟨_,?_,Paired.mapP X' λ_ _ z=>put z⟩,⟨bq,?_,Paired.mapP qB λ_ _ z=>put z⟩,⟨mx,Ap,Paired.mapP PR λ_ _ z=>Ci z⟩⟩,FQ,?_⟩
       ·simp only [KX.exec];rw [efr];rfl
       ·rw [Aq (Vu Jr yn Ip X')];exact Ip
       ·rw [Aq (Vu Jr yn hhk qB)];exact hhk
       ·rw [Aq hnn];exact CL _ _ Jq
      refine AN (mq λz=>wb (by cases st <;> first | rfl | (simp only [MS.wd] at z;exact absurd z ⟨⟩))) ?_
      left
      intros t12 RT Ew K3
      refine C8 (.inr (AJ.of K3)) rfl rfl ?_
      left
      have D9:=CL.trans Ew
      by_cases wj:(∃ n,st=.jump n)\/∃ n,st=.wh n
      ·have wjt:Dh (.str st.wd) [.str "jump",.str "when"]=true:=by
        rcases wj with ⟨n,rfl⟩ | ⟨n,rfl⟩ <;> simp only [MS.wd] <;> decide
       refine AN (show ¬ (!Dh (.str st.wd) [.str "jump",.str "when"])=true by rw [wjt];decide) ?_
       exact fin _ _ ⟨s.at'+1,⟨0,s.calls,s.pile.drop (AV st),s.held,s.frs⟩,lq,lh,lf,leap st (DL st s),.ref lt,rfl,Mz.trans D9,λz=>GW z,pz wj cv G5,Lp D9 (D9 _ _ RP) (Paired.mapP L8 λ_ _ z=>CG.mono D9 z) 0 s.calls,FQ,D9 _ _ Jq⟩
      have wbr:HC st=true:=by
       cases st <;> first | rfl | exact absurd rfl wf | exact absurd rfl wc | exact absurd rfl wb | exact absurd (.inl rfl) wh | exact absurd (.inr (.inl rfl)) wh | exact absurd (.inr (.inr (.inl ⟨_,rfl⟩))) wh | exact absurd (.inr (.inr (.inr ⟨_,rfl⟩))) wh | exact absurd (.inl ⟨_,rfl⟩) wj | exact absurd (.inr ⟨_,rfl⟩) wj
      have wjf:=(L4 wbr).2.2.2.2
      refine Bc (show (!Dh (.str st.wd) [.str "jump",.str "when"])=true by rw [wjf];rfl) ?_
      left
      rw [KD]
      obtain ⟨v,hb,hex⟩:=aZ wbr cv G5 k3
      refine AX (AZ.of (D9 _ _ qu)) (v:=.ref p) (Au hr') ?_
      left
      refine ⟨st,.ref p,lt,lh,us,FK,DL st s,s.held,s.at'+1,v,rfl,⟨p,rfl,D9 _ _ qw⟩,sok,D9 _ _ RQ,Paired.mapP Jp (λ_ _ z=>CG.mono D9 z),D9 _ _ RS,Paired.mapP L9 (λ_ _ z=>CG.mono D9 z),hb,λr' mw F9 Z0=>?_⟩
      left
      refine Bz (BB (Nat.le_of_ble_eq_true rfl)) λl14 qz Ayh FR NJ=>?_
      have Hh:=D9.trans (F9.trans FR)
      have bp:=bs.p
      refine CI (Hh _ _ RP) NJ (BB (by simp;omega)) λqx H15 Ayi VA e15=>?_
      have ES:=Hh.trans VA
      refine fin _ _ ⟨s.at'+1,⟨0,s.calls,v::s.pile.drop (AV st),s.held,s.frs⟩,qx,lh,lf,leap st (DL st s),.ref lt,rfl,Mz.trans ES,λz=>GW z,hex,Lp ES e15 ?_ 0 s.calls,FQ,ES _ _ Jq⟩
      rw [List.reverse_cons]
      exact Paired.app (Paired.mapP L8 λ_ _ z=>CG.mono ES z) (.cons (CG.mono (FR.trans VA) Z0) .nil)
     ·left
      intros t10 IF De La
      refine C8 (.inr (AJ.of La)) rfl rfl ?_
      left
      by_cases ww:∃ n,st=.wh n
      ·obtain ⟨n,rfl⟩:=ww
       refine Bc (show Dh (.str "when") [.str "when",.str "split"]=true by decide) ?_
       left
       obtain ⟨a,r0,ea⟩:=FO cv
       have et:DL (.wh n) s=[a]:=by unfold DL;rw [ea];rfl
       rw [et] at G5 Vy
       obtain ⟨x,rfl,hx⟩:=DV Vy
       cases a with
       | tru b =>
        obtain ⟨q,rfl,hq⟩:=hx
        refine AX (AZ.of (De _ _ mv)) (v:=.ref q) rfl ?_
        left
        intros Vt FT CL GX
        have Ip:=CL _ _ (De _ _ hq)
        refine .inl ⟨.tuple [.str "truth",.bool b],.tuple [.str "truth",.bool false],.tup Ip (.cons (.str _) (.cons (.bl _) .nil)),.tup GX (.cons (.str _) (.cons (.bl _) .nil)),by cases b <;> decide +kernel,by decide +kernel,?_⟩
        have eqb:PyData.eqv (.tuple [.str "truth",.bool b]) (.tuple [.str "truth",.bool false])=!b:=by cases b <;> decide +kernel
        rw [eqb]
        left
        cases b with
        | false =>
         refine Bc rfl ?_
         exact L5 _ _ ⟨by rw [et];rfl,De.trans CL⟩
        | true =>
         refine AN ⟨⟩ ?_
         left
         refine AX (AZ.of (CL _ _ (De _ _ mv))) (v:=.ref q) rfl ?_
         left
         refine Ah (AJ.of Ip) (v:=.str "truth") rfl ?_
         refine Mn (Ie rfl ?_)
         exact L5 _ _ ⟨by rw [et];rfl,De.trans CL⟩
       | _=>simp [fit] at G5
      by_cases ws:∃ n,st=.spl n
      ·obtain ⟨n,rfl⟩:=ws
       refine Bc (show Dh (.str "split") [.str "when",.str "split"]=true by decide) ?_
       left
       obtain ⟨a,r0,ea⟩:=FO cv
       have et:DL (.spl n) s=[a]:=by unfold DL;rw [ea];rfl
       rw [et] at G5 Vy
       obtain ⟨x,rfl,hx⟩:=DV Vy
       cases a with
       | emp =>
        obtain ⟨q,rfl,hq⟩:=hx
        refine AX (AZ.of (De _ _ mv)) (v:=.ref q) rfl ?_
        left
        intros Vt FT CL GX
        have Ip:=CL _ _ (De _ _ hq)
        refine .inl ⟨.tuple [.str "empty"],.tuple [.str "truth",.bool false],.tup Ip (.cons (.str _) .nil),.tup GX (.cons (.str _) (.cons (.bl _) .nil)),by decide +kernel,by decide +kernel,?_⟩
        have eqb:PyData.eqv (.tuple [.str "empty"]) (.tuple [.str "truth",.bool false])=false:=by decide +kernel
        rw [eqb]
        left
        refine AN ⟨⟩ ?_
        left
        refine AX (AZ.of (CL _ _ (De _ _ mv))) (v:=.ref q) rfl ?_
        left
        refine Ah (AJ.of Ip) (v:=.str "empty") rfl ?_
        refine Mn (Ie rfl ?_)
        exact L5 _ _ ⟨by rw [et];rfl,De.trans CL⟩
       | two l a b =>
        cases l with
        | false=>simp [fit] at G5
        | true =>
        obtain ⟨q,ra,rb,rfl,hq,ha,hb⟩:=hx
        obtain ⟨pa,usa,rfl,hpa,_⟩:=CG.look ha
        refine AX (AZ.of (De _ _ mv)) (v:=.ref q) rfl ?_
        left
        intros Vt FT CL GX
        have Ip:=CL _ _ (De _ _ hq)
        refine .inr ⟨q,Vt,"link","truth",pa,_,_,false,rfl,rfl,Ip,CL _ _ (De _ _ hpa),GX,⟨⟩,?_⟩
        left
        refine AN ⟨⟩ ?_
        left
        refine AX (AZ.of (CL _ _ (De _ _ mv))) (v:=.ref q) rfl ?_
        left
        refine Ah (AJ.of Ip) (v:=.str "link") rfl ?_
        refine Mn (Ie rfl ?_)
        exact L5 _ _ ⟨by rw [et];rfl,De.trans CL⟩
       | _=>simp [fit] at G5
      have pl:=RM (st:=st) (tk:=DL st s) (λn e=>ww ⟨n,e⟩) (λn e=>ws ⟨n,e⟩)
      refine AN (show ¬ Dh (.str st.wd) [.str "when",.str "split"]=true by rw [pl.2];decide) ?_
      refine L5 _ _ ⟨?_,De⟩
      rw [<- pl.1]
      rfl
    ·rw [show (s.at':Int)+1=((s.at'+1:Nat):Int) by omega]
     refine Hz (Ju most lc nd st s lp lh lf lt PZ H7) ?_ λcx=>?_
     ·rintro σ' H' ⟨rfl,rfl,k1,k2⟩
      left
      by_cases wn:∃ n,st=.nm n
      ·obtain ⟨n,rfl⟩:=wn
       refine Bc (decide_eq_true rfl) ?_
       left
       refine ⟨lh,FK,rfl,.inl (AZ.of RN),n,_,rfl,rfl,?_⟩
       left
       by_cases hn:FK.length<=n
       ·refine Bc (decide_eq_true ()) ?_
        left
        exact hD.s (stuck (px ())) _ qm
       ·refine AN (λz=>hn (by have:=of_decide_eq_true z;omega)) ?_
        exact qt _ _ ⟨rfl,rfl,k1,k2,λn' e=>by cases e;omega⟩
      ·refine AN (mq λz=>wn (by cases st <;> first | exact ⟨_,rfl⟩ | (simp only [MS.wd] at z;exact absurd z ⟨⟩))) (DH ?_)
       exact qt _ _ ⟨rfl,rfl,k1,k2,λn' e=>absurd ⟨n',e⟩ wn⟩
     ·left
      by_cases wb:st=.back
      ·subst wb
       refine Bc (decide_eq_true rfl) ?_
       left
       refine ⟨!IB.isEmpty,.inl ⟨IB,AZ.of Vx,rfl⟩,?_⟩
       by_cases PR:s.frs=[]
       ·rw [PR] at cu
        obtain rfl:=JZ cu
        refine Bc rfl (Dm ?_)
        left
        exact hD.s (stuck (Vh PR)) _ qm
       ·have KL:IB.isEmpty=false:=by
         cases IB with
         | nil=>rw [List.length_nil] at lfs;exact absurd (List.length_eq_zero_iff.mp lfs) PR
         | cons=>rfl
        rw [KL]
        refine AN ⟨⟩ ?_
        left
        refine AN (show ¬ decide (V.str "back"=V.str "drop")=true by decide) (DH ?_)
        exact cx _ _ ⟨rfl,rfl,λ_=>PR,λn e=>by cases e⟩
      ·refine AN (mq λz=>wb (by cases st <;> first | rfl | (simp only [MS.wd] at z;exact absurd z ⟨⟩))) (DH ?_)
       left
       by_cases wd:∃ n,st=.drop n
       ·obtain ⟨n,rfl⟩:=wd
        refine Bc (decide_eq_true rfl) ?_
        left
        refine ⟨lh,FK,rfl,.inl (AZ.of RN),n,_,rfl,rfl,?_⟩
        left
        by_cases hn:FK.length < n
        ·refine Bc (decide_eq_true ()) ?_
         left
         exact hD.s (stuck (Vi ())) _ qm
        ·refine AN (λz=>hn (by have:=of_decide_eq_true z;omega)) ?_
         exact cx _ _ ⟨rfl,rfl,λe=>absurd e wb,λn' e=>by cases e;omega⟩
       ·refine AN (mq λz=>wd (by cases st <;> first | exact ⟨_,rfl⟩ | (simp only [MS.wd] at z;exact absurd z ⟨⟩))) (DH ?_)
        exact cx _ _ ⟨rfl,rfl,λe=>absurd e wb,λn' e=>absurd ⟨n',e⟩ wd⟩
  ·refine AN (λz=>Rn (by have:=of_decide_eq_true z;omega)) ?_
   left
   have IU:KX.step code s=.stuck:=by unfold KX.step;rw [List.getElem?_eq_none ()]
   exact hD.s (stuck IU) H5 sH
end
end K
namespace K
open PySem L2 KM KS
section
variable {Pr:Program}{w:World}{K:W.Frag}{mg:Str->Option Value}{base:Heap}
inductive MB (K:W.Frag)(vs:(List V))(H:Hp)(Q:VK)(z3:XK):Prop
 | mk (a:Addr) (ns:List Int) (k:Int) (h1:vs=[.ref a,.int k]) (h2:AZ K H a (ns.map V.int)) (h3:∀ n,Q (.int n) H):MB K vs H Q z3
theorem cy:Ar FD FD (Ad Ik):=nofun
theorem VB {f:Addr}{fd:FuncData}(F:Ck K "_law_cell" "_law_cell" Ik f fd)(MC:mg "len"=none):AI Pr w K mg base BR 1 f fd FD (MB K):=by
 refine F.ok cy (λvs H Q E h=>?_) (λBo A outer s H vs Q E hr h=>?_)
 ·obtain ⟨a,ns,k,rfl,_⟩:=h
  rfl
 ·obtain ⟨a,ns,k,rfl,hs,q⟩:=h
  refine ⟨_,G0 (Xd (Kf (pv 0) (λ_=>rfl)) (Hs (JE (Xl AA (pv 0) (EO AQ (pv 1) (Ki AG (by rfl) MC PySem.boot_len (Hv (pv 0) LO))) AR))) MR) (Hs (JE Ee)),?_⟩
  refine ⟨_,rfl,!(ns.map V.int).isEmpty,.inl ⟨_,hs,rfl⟩,?_⟩
  cases ns with
  | nil=>exact DH (q _)
  | cons n ns =>
   refine Dm ?_
   have GO:(0:Int) < (((n::ns).map V.int).length:Nat):=by simp
   refine ⟨_,rfl,_,rfl,_,rfl,a,_,rfl,.inl hs,_,_,rfl,rfl,GO,?_⟩
   obtain ⟨v,hv,hm⟩:=R6 (xs:=(n::ns).map V.int) (i:=k % (((n::ns).map V.int).length:Int)) (Int.emod_nonneg _ ()) (Int.emod_lt_of_pos _ GO)
   obtain ⟨z,_,rfl⟩:=List.mem_map.mp hm
   exact ⟨a,_,_,_,rfl,rfl,hs,hv,q z⟩
inductive DR (K:W.Frag)(vs:(List V))(H:Hp)(Q:VK)(z3:XK):Prop
 | mk (a:Addr) (ns:List Int) (k:Int) (h1:vs=[.ref a,.int k]) (h2:AZ K H a (ns.map V.int)) (h3:∀ n,0<=n->Q (.int n) H):DR K vs H Q z3
theorem RV:Ar ["_law_script","_law_k","_law_number"] FD (Ad Mu):=nofun
theorem cz {f fC:Addr}{fd fdC:FuncData}(F:Ck K "_law_mix" "_law_mix" Mu f fd)(G:AI Pr w K mg base BR 1 fC fdC FD (MB K))(kC:W.keepIn K (.ref fC)=true)(bC:Binds K fdC FD [])(mC:mg "_law_cell"=some (.ref fC)):AI Pr w K mg base BR 2 f fd FD (DR K):=by
 refine F.ok RV (λvs H Q E h=>?_) (λBo A outer s H vs Q E hr h=>?_)
 ·obtain ⟨a,ns,k,rfl,_⟩:=h
  rfl
 ·obtain ⟨a,ns,k,rfl,hs,q⟩:=h
  refine ⟨_,G0 (LB (i:=2) RV.nd rfl (.inl rfl) (EO AQ (EO AW (JH G hr rfl mC kC bC .nil He (Hv (pv 0) (Hv (pv 1) LO))) (EO Bh Ee (EO AW (pv 1) Ee))) Ee))
   (G0 (LB (i:=2) RV.nd rfl (.inl rfl) (EO AQ (EO Bh (pv 2) Ee) Ee))
   (Hs (JE (EO AQ (EO AW (EO Bh (EO B9 (pv 2) Ee) Ee) (pv 2)) Ee)))),?_⟩
  refine ⟨_,rfl,_,rfl,a,ns,k,rfl,hs,λn=>⟨_,rfl,_,_,rfl,rfl,_,_,rfl,rfl,.inl ⟨⟨⟩,⟨⟩⟩,_,_,rfl,rfl,_,_,rfl,rfl,(by show (0:Int) < 4294967291;decide),?_⟩⟩
  refine ⟨_,rfl,_,_,rfl,rfl,.inr ⟨⟨⟩,⟨⟩⟩,_,_,rfl,rfl,(by show (0:Int) < 4294967279;decide),?_⟩
  refine ⟨_,rfl,_,_,rfl,rfl,⟨⟨⟩,⟨⟩⟩,_,_,rfl,rfl,.inr ⟨⟨⟩,⟨⟩⟩,_,rfl,_,_,rfl,rfl,_,_,rfl,rfl,(by show (0:Int) < 4294967231;decide),?_⟩
  exact q _ (Int.emod_nonneg _ ⟨⟩)
end
open KX
section
variable {Pr:Program}{w:World}{K:W.Frag}{mg:Str->Option Value}{base:Heap}
inductive Gj (vs:(List V))(H:Hp)(Q:VK)(z3:XK):Prop
 | mk (m:Int) (h1:vs=[.int m]) (h2:∀ i H',An H H'->Q (.int i) H'):Gj vs H Q z3
theorem Y0:Ar ["_law_number","_law_some"] ["_law_number"] (Ad D7):=nofun
theorem cJ {f:Addr}{fd:FuncData}(F:Ck K "_law_int" "_law_int" D7 f fd):AI Pr w K mg base BR 1 f fd ["_law_number"] Gj:=by
 refine F.okS Y0 (λvs H Q E h=>?_) (λBo A outer s H vs Q E hr h=>?_)
 ·obtain ⟨m,rfl,_⟩:=h;rfl
 ·obtain ⟨m,rfl,q⟩:=h
  refine ⟨_,(Ae (Ax (i:=1) Y0.nd rfl (.inl rfl) (AS (Aa Ac (Aa Ac (Aa (Vd JF Ac) (Aa Ac (Aa Ac (Aa (Aj Bx (Aj Qi Ac Ac) Ac) (Aa (Aj Bx Ac (Aj Qi Ac Ac)) (Aa (Aj AQ (Af 0) Ac) Ab))))))))))
   (Ai (Aw (Av AA (Af 1) (Aj AQ (Aj B9 (Af 0) Ac) Ac) AR)))),?_⟩
  left
  intros l H2 s2 e2
  left
  refine BH (AZ.of e2) (Int.emod_nonneg _ ⟨⟩) (Int.emod_lt_of_pos _ ⟨⟩) λv hv=>?_
  simp only [List.mem_cons,List.not_mem_nil,or_false] at hv
  rcases hv with rfl | rfl | rfl | rfl | rfl | rfl | rfl | rfl <;> exact q _ _ s2
inductive EJ (vs:(List V))(H:Hp)(Q:VK)(z3:XK):Prop
 | mk (m:Int) (h1:vs=[.int m]) (h2:∀ x H',An H H'->Q (.str x) H'):EJ vs H Q z3
theorem cK:Ar ["_law_number"] ["_law_number"] (Ad CB):=nofun
theorem VC {f:Addr}{fd:FuncData}(F:Ck K "_law_name" "_law_name" CB f fd):AI Pr w K mg base BR 1 f fd ["_law_number"] EJ:=by
 refine F.okS cK (λvs H Q E h=>?_) (λBo A outer s H vs Q E hr h=>?_)
 ·obtain ⟨m,rfl,_⟩:=h;rfl
 ·obtain ⟨m,rfl,q⟩:=h
  refine ⟨_,(Ai (Aw (Av AA (AS (Aa Ag (Aa Ag (Aa Ag (Aa Ag (Aa Ag Ab)))))) (Aj AQ (Af 0) Ac) AR))),?_⟩
  left
  intros l H2 s2 e2
  left
  refine BH (AZ.of e2) (Int.emod_nonneg _ ⟨⟩) (Int.emod_lt_of_pos _ ⟨⟩) λv hv=>?_
  simp only [List.mem_cons,List.not_mem_nil,or_false] at hv
  rcases hv with rfl | rfl | rfl | rfl | rfl <;> exact q _ _ s2
end
structure qD (K:W.Frag)(mg:Str->Option Value)(CK CJ CN CM CS:Addr)(bK bS:List Value)(nK nS:String):Prop where
 mK:mg "KindError"=some (.ref CK)
 mJ:mg "NoJoin"=some (.ref CJ)
 mN:mg "NoKind"=some (.ref CN)
 mM:mg "NoName"=some (.ref CM)
 mS:mg "Stuck"=some (.ref CS)
 mV:mg "ValueError"=none
 mI:mg "isinstance"=none
 zK:OJ K CK bK nK
 zS:OJ K CS bS nS
 sub:(R1 K CS).contains (.ref CK)=true
 iS:W.kitOne K (.ref CS) (.ref CS)=some true
 iV:W.kitOne K (.ref CS) (.type "ValueError")=some true
 iN:W.kitAny K (.ref CS) [.ref CN,.ref CM,.ref CJ]=some false
section
variable {Pr:Program}{w:World}{K:W.Frag}{mg:Str->Option Value}{base:Heap}
structure TSp (H:Hp)(Q:VK)(o:Out):Prop where
 n:o=.none->∀ H',An H H'->Q .non H'
 s:o=.stuck->∀ H',An H H'->Q (.str "stuck") H'
 t:∀ v c,o=.told v c->∀ p r H',An H H'->H' p=some (.tup [r,.int c])->D3 H' v r->Q (.ref p) H'
inductive cQ (code:List MS)(vs:(List V))(H:Hp)(Q:VK)(z3:XK):Prop
 | mk (lc:Addr) (most n B:Nat) (o:Out) (h1:vs=[.ref lc,.int most]) (h2:FZ H lc code) (h3:(∀ s∈code,s.ok)) (h4:Ends code most n PV o) (h5:most<=90000) (h6:Good code most B 90000 PV) (h7:TSp H Q o):cQ code vs H Q z3
theorem OZ:Ar ["_law_code","_law_most","_law_kept","_law_found","e","_law_good"] ["_law_code","_law_most"] (Ad Bd):=nofun
theorem qE {f fJ CK CJ CN CM CS:Addr}{fd fdJ:FuncData}{bK bS:List Value}{nK nS:String}{code:List MS}(F:Ck K "_law_machine_told" "_law_machine_told" Bd f fd)(Z:qD K mg CK CJ CN CM CS bK bS nK nS)
  (G:AI Pr w K mg base (DK Pr w) 4 fJ fdJ ["code","most"] (Mw CS code)) (kJ:W.keepIn K (.ref fJ)=true) (bi:Binds K fdJ ["code","most"] []) (mJ:mg "done"=some (.ref fJ)) :
  AI Pr w K mg base BR 5 f fd ["_law_code","_law_most"] (cQ code):=by
 refine F.okS OZ (λvs H Q E h=>?_) (λBo A outer s H vs Q E hr h=>?_)
 ·obtain ⟨lc,most,n,B,o,rfl,_⟩:=h
  rfl
 ·obtain ⟨lc,most,n,B,o,rfl,hc,hok,hE,hm,hG,hT⟩:=h
  have hb:=Er
  refine ⟨_,Ae (Ax (i:=2) OZ.nd rfl (.inl rfl) Fx)
   (Ae (Ax (i:=3) OZ.nd rfl (.inl rfl) Fx)
   (Ae (oE (i:=3) (j:=4) ⟨rfl,rfl,rfl,rfl⟩ OZ.nd rfl (.inl rfl) rfl rfl rfl Z.mK Z.zK (JP rfl G hr rfl mJ kJ bi (Aa (Af 0) (Aa (Af 1) Ab)))
    (λa=>Ai (Ax (i:=2) OZ.nd rfl (.inl rfl) (Af 4))))
   (Ae (B4 (Az Uh (Af 2) Fx rfl)
    (Ae (Ax (i:=5) OZ.nd rfl (.inl rfl) (Nm (AU HZ rfl Z.mI PyProof.Rows.boot_isinstance (Aa (Af 2) (Aa (JQ (v:=.ref CS) rfl Z.mS rfl) Ab)))
     (Kr (AU HZ rfl Z.mI PyProof.Rows.boot_isinstance (Aa (Af 2) (Aa (GK (v:=.ty "ValueError") rfl Z.mV rfl rfl) Ab))))))
    (Ai (Aw (Ks (ID (w_and (Hf (Af 5)) (DN (HV (Hf (AU Kw rfl Z.mI PyProof.Rows.boot_isinstance (Aa (Af 2) (Aa (Am (Aa (JQ (v:=.ref CN) rfl Z.mN rfl) (Aa (JQ (v:=.ref CM) rfl Z.mM rfl) (Aa (JQ (v:=.ref CJ) rfl Z.mJ rfl) Ab)))) Ab)))))))) Ag Ag)))) AK)
   (Ai (Aw (Af 3)))))),?_⟩
  left
  refine ⟨_,rfl,_,rfl,lc,most,n,B,o,rfl,hc,hok,hE,hm,hG,⟨λho H' s'=>?_,λho H' s'=>?_,λv c ho p r H' s' hp sh=>?_⟩⟩
  ·refine ⟨_,rfl,rfl,_,rfl,DH ?_⟩
   exact ⟨_,rfl,hT.n ho H' s'⟩
  ·refine ⟨CS,bS,nS,rfl,Z.zS.ex,Z.sub,λx hx=>?_⟩
   refine ⟨_,rfl,_,rfl,?_⟩
   have sm:An H' (upd H' x (GN x (.ref CS))):=An.new hx
   refine ⟨_,rfl,rfl,_,rfl,Dm ?_⟩
   refine ⟨_,rfl,x,CS,bS,nS,.ref CS,.ref CS,true,rfl,rfl,Ap,Z.zS,Z.iS,_,rfl,Dm ?_⟩
   refine ⟨_,rfl,x,CS,bS,nS,.ty "ValueError",.type "ValueError",true,rfl,rfl,Ap,Z.zS,Z.iV,?_⟩
   refine ⟨_,rfl,_,rfl,Dm ?_⟩
   refine ⟨_,rfl,by show 3<=sizeLine;omega,λp hp=>?_⟩
   have npx:x≠p:=λz=>by rw [<- z,Ap] at hp;cases hp
   refine ⟨x,CS,bS,nS,p,[CN,CM,CJ],false,rfl,Ap,by rw [Aq npx,Ap],Z.zS,Z.iN,_,rfl,Dm ?_⟩
   have sm2:An H' (upd (upd H' x (GN x (.ref CS))) p (.tup [.ref CN,.ref CM,.ref CJ])):=An.put sm (sm.free hp)
   exact hT.s ho _ (s'.trans sm2)
  ·refine ⟨_,rfl,rfl,_,rfl,DH ?_⟩
   exact ⟨_,rfl,hT.t v c ho p r H' s' hp sh⟩
inductive Lb (K:W.Frag)(vs:(List V))(H:Hp)(Q:VK)(z3:XK):Prop
 | mk (a:Addr) (ns:List Int) (k:Int) (h1:vs=[.ref a,.int k]) (h2:AZ K H a (ns.map V.int)) (h3:∀ st r H',An H H'->JY H' st r->st.ok->Q r H'):Lb K vs H Q z3
theorem NN:Ar ["_law_script","_law_k","_law_number","_law_way","_law_n"] FD (Ad D8):=nofun
theorem cU {f:Addr}{fd:FuncData}(F:Ck K "_law_one" "_law_one" D8 f fd)(cM:Cl Pr w K mg base 2 "_law_mix" FD (DR K))(cI:Cl Pr w K mg base 1 "_law_int" ["_law_number"] Gj):AI Pr w K mg base BR 3 f fd FD (Lb K):=by
 refine F.okS NN (λvs H Q E h=>?_) (λBo A outer s H vs Q E hr h=>?_)
 ·obtain ⟨a,ns,k,rfl,_⟩:=h;rfl
 ·obtain ⟨a,ns,k,rfl,hs,q⟩:=h
  have Dd:AY 1 _:=hr.mono ()
  refine ⟨_,(Ae (Ax (i:=2) NN.nd rfl (.inl rfl) (B3 cM hr rfl (Aa (Af 0) (Aa (Af 1) Ab))))
   (Ae (Ax (i:=3) NN.nd rfl (.inl rfl) (Aj AQ (Af 2) Ac))
   (Ae (Ax (i:=4) NN.nd rfl (.inl rfl) (Aj AQ (Aj B9 (Af 2) Ac) Ac))
   (Ae (B4 (Az DD (Af 3) Ac (Ak _)) (Ai (Aw (Av AA (AS (Aa (Am (Aa Ag (Aa (B3 cI Dd rfl (Aa (Aj B9 (Af 2) Ac) Ab)) Ab))) (Aa (Am (Aa Ag (Aa (CP AO (Aj AQ (Af 4) Ac) Ac (Ak _)) Ab))) (Aa (Am (Aa Ag Ab)) Ab)))) (Af 3) AR))) AK)
   (Ae (B4 (Az DD (Af 3) Ac (Ak _)) (Ai (Aw (Am (Aa Ag (Aa (Aj AQ (Aj B9 (Af 2) Ac) Ac) Ab))))) AK)
   (Ae (B4 (Az DD (Af 3) Ac (Ak _)) (Ai (Aw (Av AA (AS (Aa (Am (Aa Ag Ab)) (Aa (Am (Aa Ag Ab)) (Aa (Am (Aa Ag Ab)) Ab)))) (Aj Bx (Af 3) Ac) AR))) AK)
   (Ae (B4 (Az DD (Af 3) Ac (Ak _)) (Ai (Aw (Am (Aa (Av AA (AS (Aa Ag (Aa Ag Ab))) (Aj Bx (Af 3) Ac) AR) (Aa (Af 4) Ab))))) AK)
   (Ae (B4 (Az DD (Af 3) Ac (Ak _)) (Ai (Aw (Av AA (AS (Aa (Am (Aa Ag Ab)) (Aa (Am (Aa Ag Ab)) Ab))) (Aj Bx (Af 3) Ac) AR))) AK)
   (Ae (B4 (Az DD (Af 3) Ac (Ak _)) (Ai (Aw (Am (Aa (Av AA (AS (Aa Ag (Aa Ag (Aa Ag (Aa Ag Ab))))) (Aj AQ (Aj B9 (Af 2) Ac) Ac) AR) (Aa (Af 4) Ab))))) AK)
   (Ai (Aw (Av AA (AS (Aa (Am (Aa Ag (Aa (Av AA (AS (Aa Ag (Aa Ag (Aa Ag (Aa Ag Ab))))) (Aj AQ (Af 4) Ac) AR) Ab))) (Aa (Am (Aa Ag Ab)) (Aa (Am (Aa Ag Ab)) Ab)))) (Aj AQ (Aj B9 (Af 2) Ac) Ac) AR)))))))))))),?_⟩
  left
  refine ⟨a,ns,k,rfl,hs,λm hm=>?_⟩
  left
  have lo:=Int.emod_nonneg m (b:=16) ⟨⟩
  have hi:=Int.emod_lt_of_pos m (b:=16) ⟨⟩
  have lo5:=Int.emod_nonneg (m / 16) (b:=5) ⟨⟩
  have hi5:=Int.emod_lt_of_pos (m / 16) (b:=5) ⟨⟩
  obtain ⟨n5,hn5⟩:=Int.eq_ofNat_of_zero_le lo5
  refine Cu (λw1=>?_) λw1=>?_
  ·have w1':=of_decide_eq_true w1
   left
   refine ⟨_,rfl,λi H1 s1=>?_⟩
   left
   intros p1 H2 s2 e2
   left
   intros p2 H3 s3 e3
   left
   intros p3 H4 s4 e4
   left
   intros l5 H5 s5 e5
   left
   have Fs:=s1.trans (s2.trans (s3.trans (s4.trans s5)))
   refine BH (AZ.of e5) () (by simp;omega) λv hv=>?_
   simp only [List.mem_cons,List.not_mem_nil,or_false] at hv
   rcases hv with rfl | rfl | rfl
   ·exact q (.num i) _ _ Fs ⟨p1,rfl,s5 _ _ (s4 _ _ (s3 _ _ e2))⟩ trivial
   ·exact q (.tru _) _ _ Fs ⟨p2,rfl,s5 _ _ (s4 _ _ e3)⟩ trivial
   ·exact q .emp _ _ Fs ⟨p3,rfl,s5 _ _ e4⟩ trivial
  have w1':¬ m % 16 < 3:=λz=>w1 (decide_eq_true z)
  left
  refine Cu (λw2=>?_) λw2=>?_
  ·left
   obtain ⟨n3,hn3⟩:=Int.eq_ofNat_of_zero_le (Int.emod_nonneg (m / 16) (b:=3) ⟨⟩)
   rw [hn3]
   intros p1 H1 s1 e1
   exact q (.nm n3) _ _ s1 ⟨p1,rfl,e1⟩ trivial
  have w2':¬ m % 16 < 6:=λz=>w2 (decide_eq_true z)
  left
  refine Cu (λw3=>?_) λw3=>?_
  ·have w3':=of_decide_eq_true w3
   left
   intros p1 H2 s2 e2
   left
   intros p2 H3 s3 e3
   left
   intros p3 H4 s4 e4
   left
   intros l5 H5 s5 e5
   left
   have Fs:=s2.trans (s3.trans (s4.trans s5))
   refine BH (AZ.of e5) () (by simp;omega) λv hv=>?_
   simp only [List.mem_cons,List.not_mem_nil,or_false] at hv
   rcases hv with rfl | rfl | rfl
   ·exact q .pr _ _ Fs ⟨p1,rfl,s5 _ _ (s4 _ _ (s3 _ _ e2))⟩ trivial
   ·exact q .lk _ _ Fs ⟨p2,rfl,s5 _ _ (s4 _ _ e3)⟩ trivial
   ·exact q .lt _ _ Fs ⟨p3,rfl,s5 _ _ e4⟩ trivial
  have w3':¬ m % 16 < 9:=λz=>w3 (decide_eq_true z)
  left
  refine Cu (λw4=>?_) λw4=>?_
  ·have w4':=of_decide_eq_true w4
   left
   intros l1 H1 s1 e1
   left
   refine BH (AZ.of e1) () (by simp;omega) λv hv=>?_
   left
   rw [hn5]
   intros p2 H2 s2 e2
   simp only [List.mem_cons,List.not_mem_nil,or_false] at hv
   rcases hv with rfl | rfl
   ·exact q (.fn n5) _ _ (s1.trans s2) ⟨p2,rfl,e2⟩ trivial
   ·exact q (.rc n5) _ _ (s1.trans s2) ⟨p2,rfl,e2⟩ trivial
  have w4':¬ m % 16 < 11:=λz=>w4 (decide_eq_true z)
  left
  refine Cu (λw5=>?_) λw5=>?_
  ·have w5':=of_decide_eq_true w5
   left
   intros p1 H2 s2 e2
   left
   intros p2 H3 s3 e3
   left
   intros l5 H5 s5 e5
   left
   have Fs:=s2.trans (s3.trans s5)
   refine BH (AZ.of e5) () (by simp;omega) λv hv=>?_
   simp only [List.mem_cons,List.not_mem_nil,or_false] at hv
   rcases hv with rfl | rfl
   ·exact q .call _ _ Fs ⟨p1,rfl,s5 _ _ (s3 _ _ e2)⟩ trivial
   ·exact q .back _ _ Fs ⟨p2,rfl,s5 _ _ e3⟩ trivial
  left
  refine Cu (λw6=>?_) λw6=>?_
  ·left
   intros l1 H1 s1 e1
   left
   refine BH (AZ.of e1) (Int.emod_nonneg _ ⟨⟩) (Int.emod_lt_of_pos _ ⟨⟩) λv hv=>?_
   left
   rw [hn5]
   intros p2 H2 s2 e2
   simp only [List.mem_cons,List.not_mem_nil,or_false] at hv
   rcases hv with rfl | rfl | rfl | rfl
   ·exact q (.wh n5) _ _ (s1.trans s2) ⟨p2,rfl,e2⟩ trivial
   ·exact q (.spl n5) _ _ (s1.trans s2) ⟨p2,rfl,e2⟩ trivial
   ·exact q (.jump n5) _ _ (s1.trans s2) ⟨p2,rfl,e2⟩ trivial
   ·exact q (.drop n5) _ _ (s1.trans s2) ⟨p2,rfl,e2⟩ trivial
  left
  intros l1 H1 s1 e1
  left
  refine BH (AZ.of e1) (Int.emod_nonneg _ ⟨⟩) (Int.emod_lt_of_pos _ ⟨⟩) λv hv=>?_
  obtain ⟨o,rfl,io⟩:∃ o,v=.str o/\Ex.isOp o:=by
   simp only [List.mem_cons,List.not_mem_nil,or_false] at hv
   rcases hv with rfl | rfl | rfl | rfl
   ·exact ⟨_,rfl,.inl rfl⟩
   ·exact ⟨_,rfl,.inr (.inl rfl)⟩
   ·exact ⟨_,rfl,.inr (.inr (.inl rfl))⟩
   ·exact ⟨_,rfl,.inr (.inr (.inr rfl))⟩
  left
  intros p1 H2 s2 e2
  left
  intros p2 H3 s3 e3
  left
  intros p3 H4 s4 e4
  left
  intros l5 H5 s5 e5
  left
  have Fs:=s1.trans (s2.trans (s3.trans (s4.trans s5)))
  refine BH (AZ.of e5) (Int.emod_nonneg _ ⟨⟩) (Int.emod_lt_of_pos _ ⟨⟩) λv hv=>?_
  simp only [List.mem_cons,List.not_mem_nil,or_false] at hv
  rcases hv with rfl | rfl | rfl
  ·exact q (.op o) _ _ Fs ⟨p1,rfl,s5 _ _ (s4 _ _ (s3 _ _ e2))⟩ io
  ·exact q .opn _ _ Fs ⟨p2,rfl,s5 _ _ (s4 _ _ e3)⟩ trivial
  ·exact q .fin _ _ Fs ⟨p3,rfl,s5 _ _ e4⟩ trivial
structure FU (K:W.Frag)(mg:Str->Option Value)(C:Addr):Prop where
 cl:IC K C
 nT:Ct K C "tree"
 nP:Ct K C "places"
 nH:Ct K C "held"
 mC:mg "Scope"=some (.ref C)
noncomputable def scF (t p:V)(h:V):List (Str × V):=[("tree",t),("places",p),("held",h)]
inductive Fm (C:Addr)(vs:(List V))(H:Hp)(Q:VK)(z3:XK):Prop
 | mk (p dx:Addr) (v1 v2 v3:V) (h1:vs=[.ref p,v1,v2,v3]) (h2:H p=some (.ins C dx [])) (h3:Q .non (upd H p (.ins C dx (scF v1 v2 v3)))):Fm C vs H Q z3
theorem VD:Ar ["self","tree","places","held"] ["self","tree","places","held"] (Ad BL):=nofun
theorem RW {f C:Addr}{fd:FuncData}(F:Ck K "__init__" "Scope.__init__" BL f fd)(T:FU K mg C):AI Pr w K mg base BR 1 f fd ["self","tree","places","held"] (Fm C):=by
 refine F.okS VD (λvs H Q E h=>?_) (λBo A outer s H vs Q E hr h=>?_)
 ·obtain ⟨p,dx,v1,v2,v3,rfl,_⟩:=h;rfl
 ·obtain ⟨p,dx,v1,v2,v3,rfl,hp,q⟩:=h
  refine ⟨_,(Ae (E1 (Af 0) (Af 1))
   (Ae (E1 (Af 0) (Af 2))
   (Ai (E1 (Af 0) (Af 3))))),?_⟩
  left
  refine ⟨p,C,dx,[],rfl,hp,T.cl,T.nT,by simp,?_⟩
  left
  refine ⟨p,C,dx,_,rfl,Ap,T.cl,T.nP,(show ([("tree",v1)]:List (Str × V)).length < 1000 by simp),?_⟩
  left
  refine ⟨p,C,dx,_,rfl,Ap,T.cl,T.nH,(show ([("tree",v1),("places",v2)]:List (Str × V)).length < 1000 by simp),?_⟩
  rw [E6,E6]
  exact q
theorem GY {C:Addr}{H1:Hp}{Q:Addr->Hp->Prop}{v1 v2 v3:V}(q:∀ p dx H2,H1 p=none->An H1 H2->H2 p=some (.ins C dx (scF v1 v2 v3))->Q p H2):
  ∀ x dx,H1 x=none->H1 dx=none->dx≠x->Fm C (.ref x::([v1,v2,v3]++[])) (upd (upd H1 dx (.own x)) x (.ins C dx [])) (λv H2=>v=.non/\Q x H2) E0:=by
 intro x dx hx qa KL
 refine ⟨x,dx,v1,v2,v3,rfl,Ap,rfl,q x dx _ hx ?_ Ap⟩
 intro b o hb
 rw [E6,Aq (AF hb hx),Aq (AF hb qa)]
 exact hb
inductive Lc (K:W.Frag)(vs:(List V))(H:Hp)(Q:VK)(z3:XK):Prop
 | mk (p c:Addr) (us:List V) (ns:List Nat) (xs:List Str) (h1:vs=[.ref p,.ref c]) (h2:H p=some (.tup us)) (h3:KO K c (ns.map λn:Nat=>V.int n)) (h4:Paired (λn x=>us[n]?=some (V.str x)) ns xs) (h5:ns.length<=10) (h6:∀ q H',An H H'->H' q=some (.tup (xs.map V.str))->Q (.ref q) H'):Lc K vs H Q z3
noncomputable def Ab8:Expr:=match valueOf (inDef Cm 0) with
 | .Call _ [e] _ _=>e
 | _=>.Constant .none 0 ⟨0,0,0,0⟩
theorem qF:Ar ["tree","places"] ["tree","places"] (Ad Cm):=nofun
theorem cX {f:Addr}{fd:FuncData}(F:Ck K "names_at" "names_at" Cm f fd)(Cp:mg "tuple"=none):AI Pr w K mg base BR 1 f fd ["tree","places"] (Lc K):=by
 refine F.okS qF (λvs H Q E h=>?_) (λBo A outer s H vs Q E hr h=>?_)
 ·obtain ⟨p,c,us,ns,xs,rfl,_⟩:=h;rfl
 ·obtain ⟨p,c,us,ns,xs,rfl,hp,hc,hx,hn,q⟩:=h
  have S:BG (DE BR Pr w K mg base ["tree","places"] "names_at" (Ad Cm) f Bo A outer s H E).nox (CH Ab8) [("tree",s.heap.objs.size+1)] ["place"] ["tree"] [0] :=
   ⟨rfl,by decide +kernel,rfl,by decide +kernel,rfl,rfl,rfl,rfl⟩
  have IS:(["place","tree"]:List Str).Nodup:=by decide +kernel
  refine ⟨_,(Ai (Aw (Dj Fu rfl Cp PyProof.Rows.boot_tuple (Aa (GL (te:=Ft (GF K) (Bw 1) (Bw 0)) S rfl (QW (Af 1)) (λC s0 H0 ex=>C1 (i:=0) IS rfl (.inl rfl)) (λ_ _ _ _=>Fz) (λC s0 H0 ex=>Av Al (Af 1) (Af 0) AR)) Ab)))),?_⟩
  left
  refine ⟨c,rfl,⟨_,hc.sq H⟩,?_⟩
  refine Ri (K:=K) (a:=c) (xs:=ns.map λn:Nat=>V.int n) (λi ys H'=>H'=H/\ys=(xs.take i).map V.str) ⟨rfl,rfl⟩ (λi ys H' z=>hc.sq H') (by rw [List.length_map];exact DI ()) (λi ys H' z=>?_) rfl (λi x ys H1 VE z=>?_) (λys H1 z=>?_)
  ·rw [z.2,List.length_map,List.length_take];omega
  ·obtain ⟨rfl,rfl⟩:=z
   obtain ⟨n,lL,rfl⟩:∃ n,ns[i]?=some n/\V.int (n:Nat)=x:=by
    rw [List.getElem?_map] at VE
    exact Option.map_eq_some_iff.mp VE
   obtain ⟨x,my,hxx⟩:=Paired.at1 hx lL
   have hi:=(List.getElem?_eq_some_iff.mp lL).1
   left
   refine Dm ?_
   left
   refine Ah (AJ.of hp) (Au hxx) ?_
   refine Nx.mk (by rw [List.length_map];exact hi) ⟨rfl,?_⟩
   rw [List.take_succ,my]
   simp
  ·obtain ⟨rfl,rfl⟩:=z
   intros d H2 s2 e2
   refine ⟨d,_,rfl,.inl ⟨AZ.of e2,λl hl=>?_⟩⟩
   have e5:xs.take (ns.map λn:Nat=>V.int n).length=xs:=by rw [List.length_map,Paired.len hx,List.take_length]
   rw [e5]
   exact q l _ (s2.trans (An.new hl)) Ap
noncomputable def MD (H:Hp)(r:V)(pt:Ex × List Str):Prop:=EM λp q re=>r=.ref p/\H p=some (.tup [re,.ref q])/\Br H pt.1 re/\H q=some (.tup (pt.2.map V.str))
theorem MD.mono {H H':Hp}(s:Ay H H'){r:V}{pt:Ex × List Str}(h:MD H r pt):MD H' r pt:=by
 obtain ⟨p,q,re,h1,h2,h3,h4⟩:=h
 exact ⟨p,q,re,h1,s _ _ h2,Br.mono s h3,s _ _ h4⟩
inductive NO (vs:(List V))(H:Hp)(Q:VK)(z3:XK):Prop
 | mk (e:Ex) (re:V) (h1:vs=[re]) (h2:Br H e re) (h3:∀ l rs H',An H H'->H' l=some (.lst rs)->Paired (MD H') rs e.prt->Q (.ref l) H'):NO vs H Q z3
theorem qG:Ar ["tree"] ["tree"] (Ad B5):=nofun
theorem P0 (e:Ex):e.plc.length<=3/\∀ r∈e.plc,r.2.length<=2:=by
 cases e <;> simp [Ex.plc]
theorem cY {f mz:Addr}{fd:FuncData}{rows:List (Str × Value)}(F:Ck K "parts_with_names" "parts_with_names" B5 f fd)(kd:F5 w K mz rows)(mPL:mg "PLACES"=some (.ref mz))(kp:KPl K rows)
  (cN:Cl Pr w K mg base 1 "names_at" ["tree","places"] (Lc K)):AI Pr w K mg base BR 2 f fd ["tree"] NO:=by
 refine F.okS qG (λvs H Q E h=>?_) (λBo A outer s H vs Q E hr h=>?_)
 ·obtain ⟨e,re,rfl,_⟩:=h;rfl
 ·obtain ⟨e,re,rfl,he,q⟩:=h
  have S:BG (DE BR Pr w K mg base ["tree"] "parts_with_names" (Ad B5) f Bo A outer s H E).nox (CH (valueOf (inDef B5 0))) [("tree",s.heap.objs.size+1)] ["place","names"] ["tree"] [0] :=
   ⟨rfl,by decide +kernel,rfl,by decide +kernel,rfl,rfl,rfl,rfl⟩
  have IS:(["place","names","tree"]:List Str).Nodup:=by decide +kernel
  refine ⟨_,(Ai (Aw (GL (g:=LA K 2 (EW (Dg 0) (EW (Dg 1) O5))) (te:=Us (BM (Ft (GF K) (Bw 2) (Bw 0)) (BM (DW (Lc K) [] E0 (BM (Bw 2) (BM (Bw 1) Ez))) Ez))) S rfl (QW (aH kd rfl mPL (Av Al (Af 0) Ac AR) AR)) (λC s0 H0 ex=>Kz rfl (Dz (C1 (i:=0) IS rfl (.inl rfl)) (Dz (C1 (i:=1) IS rfl (.inl rfl)) Ic))) (λ_ _ _ _=>Fz) (λC s0 H0 ex=>Am (Aa (Av Al (Af 2) (Af 0) AR) (Aa (B3 cN hr rfl (Aa (Af 2) (Aa (Af 1) Ab))) Ab)))))),?_⟩
  obtain ⟨p,us,rfl,hp,E4,_⟩:=he.look
  obtain ⟨a,rs,aI,yo,hkr⟩:=kp e
  obtain ⟨bW,sm2⟩:=P0 e
  have lr:=Paired.len hkr
  have lp:=Paired.len E4
  left
  refine Ah (AJ.of hp) (v:=.str e.wd) (Au (j:=0) rfl) ?_
  refine ⟨e.wd,.ref a,.ref a,rfl,aI,rfl,a,rfl,⟨_,yo.sq H⟩,?_⟩
  refine KH (K:=K) (n:=rs.length) (λi ys H'=>An H H'/\Paired (MD H') ys (e.prt.take i)) ⟨An.refl _,.nil⟩ (by exact DI ()) (λi ys H' z=>?_) rfl rfl (λi ys H' hi z=>⟨rs,rs[i],yo.sq H',by simp [hi]⟩) (λys H' z=>⟨rs,yo.sq H',Nat.le_refl _⟩) (λi ys H1 x H1' hi z hy=>?_) (λys H1 z=>?_)
  ·rw [Paired.len z.2,List.length_take];omega
  ·obtain ⟨rfl,hy⟩:=hy
   obtain ⟨s1,z⟩:=z
   have my:=hy rs (yo.sq _)
   have hil:i < e.plc.length:=by omega
   have Y1:e.plc[i]?=some e.plc[i]:=by simp [hil]
   obtain ⟨x',VE,b,c,rfl,kb,kc⟩:=Paired.at1 hkr Y1
   rw [VE] at my;cases my
   obtain ⟨pt,hpi,⟨re',hre,ae⟩,JM⟩:=Paired.at1 E4 Y1
   refine ⟨b,_,_,rfl,kb.sq _,?_⟩
   left
   refine Dm ?_
   left
   refine Ah (AJ.of (s1 _ _ hp)) (Au hre) ?_
   left
   refine ⟨p,c,_,_,pt.2,rfl,s1 _ _ hp,kc,JM,Nat.le_trans (sm2 _ (List.getElem_mem hil)) ⟨⟩,λq' H2 s2 e2=>?_⟩
   left
   intros t H3 s3 e3
   refine Nx.mk hi ⟨s1.trans (s2.trans s3),?_⟩
   rw [List.take_succ,hpi]
   refine Paired.app (Paired.mapP z λ_ _ y=>MD.mono (Ay.of_same (s2.trans s3)) y) (.cons ⟨t,q',re',rfl,e3,Br.mono (Ay.of_same (s1.trans (s2.trans s3))) ae,s3 _ _ e2⟩ .nil)
  ·obtain ⟨s1,z⟩:=z
   intros l H2 s2 e2
   rw [show rs.length=e.prt.length by omega,List.take_length] at z
   exact q l _ H2 (s1.trans s2) e2 (Paired.mapP z λ_ _ y=>MD.mono (Ay.of_same s2) y)
end
structure Sc where
 e:Ex
 xs:List Str
 ps:List (Key × V)
 h:Nat
namespace Sc
structure Ok (s:Sc):Prop where
 cl:s.e.cl s.xs
 op:s.e.opk
 at':∀ x∈s.xs,∃ n:Nat,Cy s.ps (.inr x)=some (.int n)/\n < s.h
 len:s.ps.length<=s.h
 small:s.h+2 * s.e.sz<=3000
noncomputable def bnd:List (Key × V)->Nat->List Str->List (Key × V)
 | ps,_,[]=>ps
 | ps,h,x::r=>bnd (putK ps (.inr x) (.int h)) (h+1) r
theorem RX:∀ (ns:List Str) (ps:List (Key × V)) (h:Nat) (xs:List Str),(∀ x∈xs,∃ n:Nat,Cy ps (.inr x)=some (.int n)/\n < h)->∀ x∈ns.reverse++xs,∃ n:Nat,Cy (bnd ps h ns) (.inr x)=some (.int n)/\n < h+ns.length
 | [],ps,h,xs,H=>by simpa [bnd] using H
 | z::r,ps,h,xs,H=>by
  intro x hx
  have h1:∀ x∈z::xs,∃ n:Nat,Cy (putK ps (.inr z) (.int h)) (.inr x)=some (.int n)/\n < h+1:=λx hx=>by
   rw [Kl]
   by_cases e:x=z
   ·subst e;rw [if_pos rfl];exact ⟨h,rfl,()⟩
   ·rw [if_neg (λq=>e (Sum.inr.inj q))]
    obtain ⟨n,h1,h2⟩:=H x ((List.mem_cons.mp hx).resolve_left e)
    exact ⟨n,h1,()⟩
  obtain ⟨n,h2,h3⟩:=RX r _ (h+1) (z::xs) h1 x (by simp at hx ⊢;rcases hx with h | h | h <;> simp [h])
  exact ⟨n,h2,by simp only [List.length_cons];omega⟩
theorem bnd_len:∀ (ns:List Str) (ps:List (Key × V)) (h:Nat),ps.length<=h->(bnd ps h ns).length<=h+ns.length
 | [],ps,h,H=>by simpa [bnd] using H
 | z::r,ps,h,H=>by
  have h1:=(Ra ps (.inr z) (.int h)).1
  have:=bnd_len r (putK ps (.inr z) (.int h)) (h+1) ()
  simp only [bnd,List.length_cons];omega
theorem bnd_app:∀ (ns:List Str) (ps:List (Key × V)) (h:Nat) (x:Str),bnd ps h (ns++[x])=putK (bnd ps h ns) (.inr x) (.int (h+ns.length:Nat))
 | [],ps,h,x=>rfl
 | z::r,ps,h,x=>by
  show bnd (putK ps (.inr z) (.int h)) (h+1) (r++[x])=_
  rw [bnd_app r]
  simp only [bnd,List.length_cons]
  congr 3
  omega
noncomputable def inn (s:Sc)(p:Ex × List Str):Sc:=⟨p.1,p.2.reverse++s.xs,bnd s.ps s.h p.2,s.h+p.2.length⟩
noncomputable def kids (s:Sc):List Sc:=s.e.prt.map s.inn
noncomputable def sz (s:Sc):Nat:=s.e.sz
theorem kids_sz (s:Sc):KG.szs sz (kids s)+1=s.sz:=by
 obtain ⟨e,xs,ps,h⟩:=s
 cases e <;> simp [kids,sz,Ex.prt,KG.szs,inn,Ex.sz] <;> omega
theorem cZ {s:Sc}(O:s.Ok){p:Ex × List Str}(hc:p.1.cl (p.2.reverse++s.xs))(ho:p.1.opk)(hs:p.2.length<=2)(hz:p.1.sz < s.e.sz):(s.inn p).Ok :=
 ⟨hc,ho,RX p.2 s.ps s.h s.xs O.at',bnd_len p.2 s.ps s.h O.len,by have:=O.small;simp only [inn];omega⟩
theorem kids_ok {s:Sc}(O:s.Ok):∀ p∈s.e.prt,(s.inn p).Ok:=by
 have key:∀ p∈s.e.prt,p.1.cl (p.2.reverse++s.xs)/\p.1.opk/\p.2.length<=2/\p.1.sz < s.e.sz:=by
  have h1:=O.cl
  have h2:=O.op
  generalize s.e=e at h1 h2
  cases e <;> simp only [Ex.prt,List.mem_cons,List.not_mem_nil,or_false,forall_eq_or_imp,forall_eq,Ex.sz,false_imp_iff,implies_true] <;> simp only [Ex.cl,Ex.opk] at h1 h2
  ·exact ⟨h1,h2,by simp,()⟩
  ·exact ⟨h1,h2,by simp,()⟩
  ·exact ⟨⟨h1.1,h2.1,by simp,()⟩,h1.2,h2.2,by simp,()⟩
  ·exact ⟨⟨h1.1,h2.1,by simp,()⟩,h1.2,h2.2,by simp,()⟩
  ·exact ⟨⟨h1.1,h2.1,by simp,()⟩,⟨h1.2.1,h2.2.1,by simp,()⟩,h1.2.2,h2.2.2,by simp,()⟩
  ·exact ⟨⟨h1.1,h2.1,by simp,()⟩,h1.2,h2.2,by simp,()⟩
  ·exact ⟨⟨h1.1,h2.1,by simp,()⟩,h1.2,h2.2,by simp,()⟩
  ·exact ⟨⟨h1.1,h2.1,by simp,()⟩,h1.2,h2.2,by simp,()⟩
  ·exact ⟨⟨h1.1,h2.1,by simp,()⟩,⟨h1.2.1,h2.2.1,by simp,()⟩,h1.2.2,h2.2.2,by simp,()⟩
  ·exact ⟨⟨h1.1,h2.2.1,by simp,()⟩,h1.2,h2.2.2,by simp,()⟩
 intro p hp
 obtain ⟨h1,h2,h3,h4⟩:=key p hp
 exact cZ O h1 h2 h3 h4
end Sc
section
variable {Pr:Program}{w:World}{K:W.Frag}{mg:Str->Option Value}{base:Heap}
noncomputable def Eu (C:Addr)(H:Hp)(s:Sc)(r:V):Prop:=s.Ok/\Lu λp dx d re=>r=.ref p/\H p=some (.ins C dx (scF re (.ref d) (.int s.h)))/\Br H s.e re/\H d=some (.dK s.ps)
noncomputable def NL (H H':Hp):Prop:=∀ b o,H b=some o->(∀ xs,o≠.lst xs)->H' b=some o
theorem NL.of_same {H H':Hp}(s:An H H'):NL H H':=λb o e _=>s b o e
theorem NL.trans {H1 H2 H3:Hp}(a:NL H1 H2)(b:NL H2 H3):NL H1 H3:=λc o e n=>b c o (a c o e n) n
theorem NL.put {H:Hp}{a:Addr}{xs ys:List V}(h:H a=some (.lst xs)):NL H (upd H a (.lst ys)):=λb o e n=>by
 rw [Aq]
 ·exact e
 ·intro z;subst z;rw [h] at e;exact n xs (Option.some.inj e).symm
theorem NL.tsub {H H':Hp}(s:NL H H'):Ay H H':=λb xs e=>s b _ e (by intro _ z;cases z)
theorem Eu.mono {C:Addr}{H H':Hp}(s:NL H H'){sc:Sc}{r:V}(h:Eu C H sc r):Eu C H' sc r:=by
 obtain ⟨ok,p,dx,d,re,h1,h2,h3,h4⟩:=h
 exact ⟨ok,p,dx,d,re,h1,s _ _ h2 (by intro _ z;cases z),Br.mono s.tsub h3,s _ _ h4 (by intro _ z;cases z)⟩
inductive Gk (C:Addr)(vs:(List V))(H:Hp)(Q:VK)(z3:XK):Prop
 | mk (sc:Sc) (r re:V) (q:Addr) (p:Ex × List Str) (h1:vs=[r,re,.ref q]) (h2:Eu C H sc r) (h3:(sc.inn p).Ok) (h4:Br H p.1 re) (h5:H q=some (.tup (p.2.map V.str))) (h6:p.2.length<=2) (h7:∀ r' H',An H H'->Eu C H' (sc.inn p) r'->Q r' H'):Gk C vs H Q z3
theorem Ld:Ar ["scope","part","names","places","held","name"] ["scope","part","names"] (Ad C4):=nofun
theorem d4 {f fi C:Addr}{fd XQ:FuncData}(F:Ck K "inner_scope" "inner_scope" C4 f fd)(T:FU K mg C)(d5:mg "dict"=none)(MS:Mk K C fi)(GI:AI Pr w K mg base BR 1 fi XQ ["self","tree","places","held"] (Fm C))(bI:Binds K XQ ["self","tree","places","held"] []):
  AI Pr w K mg base BR 3 f fd ["scope","part","names"] (Gk C):=by
 refine F.okS Ld (λvs H Q E h=>?_) (λBo A outer s H vs Q E hr h=>?_)
 ·obtain ⟨sc,r,re,q,p,rfl,_⟩:=h;rfl
 ·obtain ⟨sc,r,re,q,p,rfl,⟨ok,pr,dx,d,rt,rfl,h1,h2,h3⟩,yp,he,hq,hl,k⟩:=h
  have hu:=Jd hr
  refine ⟨_,(Ae (B4 (HV (Ea (Af 2))) (Ai (Aw (JX MS GI bI T.mC hr rfl (Aa (Af 1) (Aa (By (Af 0)) (Aa (By (Af 0)) Ab)))))) AK)
   (Ae (Ax (i:=3) Ld.nd rfl (.inl rfl) (Dj JR (by rfl) d5 PyProof.Rows.boot_dict (Aa (By (Af 0)) Ab)))
   (Ae (Ax (i:=4) Ld.nd rfl (.inl rfl) (By (Af 0)))
   (Ae (QV PassesOwn.never rfl (QW (Af 2)) (C1 (i:=5) Ld.nd rfl (.inl rfl)) (Ae (aj hu (Af 3) (Af 5) (Af 4) rfl)
   (Ai (oS (i:=4) Ld.nd rfl (.inl rfl) Zm Ac))))
   (Ai (Aw (JX MS GI bI T.mC hr rfl (Aa (Af 1) (Aa (Af 3) (Aa (Af 4) Ab)))))))))),?_⟩
  left
  refine ⟨!(p.2.map V.str).isEmpty,.inr (.inl ⟨_,AJ.of hq,rfl⟩),?_⟩
  left
  obtain ⟨e',ns⟩:=p
  cases ns with
  | nil =>
   refine Bc rfl ?_
   left
   refine ⟨pr,C,dx,_,.ref d,rfl,h1,T.cl,T.nP,rfl,?_⟩
   left
   refine ⟨pr,C,dx,_,.int sc.h,rfl,h1,T.cl,T.nH,rfl,?_⟩
   left
   exact GY λp2 dx2 H2 L' s2 e2=>k _ H2 s2 ⟨yp,p2,dx2,d,re,rfl,e2,Br.mono (Ay.of_same s2) he,s2 _ _ h3⟩
  | cons x ns =>
   refine AN (by show ¬ (false=true);decide) ?_
   left
   refine ⟨pr,C,dx,_,.ref d,rfl,h1,T.cl,T.nP,rfl,?_⟩
   left
   refine ⟨d,_,rfl,.inl h3,λpd yq=>?_⟩
   have s1:An H (upd H pd (.dK sc.ps)):=An.new yq
   have e1:(upd H pd (.dK sc.ps)) pd=some (.dK sc.ps):=Ap
   generalize upd H pd (.dK sc.ps)=H1 at s1 e1 ⊢
   left
   refine ⟨pr,C,dx,_,.int sc.h,rfl,s1 _ _ h1,T.cl,T.nH,rfl,?_⟩
   left
   refine ⟨q,rfl,⟨_,AJ.of (s1 _ _ hq)⟩,?_⟩
   have hb:=Er
   have Acd:=ok.len
   have NP:=ok.small
   refine Ud (K:=K) (a:=q) (xs:=(x::ns).map V.str) (λi σ' H'=>∃ o,σ'=[some (.ref pr),some re,some (.ref q),some (.ref pd),some (.int (sc.h+i:Nat)),o]/\An H H'/\H' pd=some (.dK (Sc.bnd sc.ps sc.h ((x::ns).take i)))) ⟨none,rfl,s1,e1⟩ (λi σ' H' _ z=>?_) (λi y σ' H' hy z=>?_) (fun σ' H' z=>?_)
   ·obtain ⟨o,rfl,sm,_⟩:=z
    exact AJ.of (sm _ _ hq)
   ·obtain ⟨o,rfl,sm,PL⟩:=z
    obtain ⟨y',xA,rfl⟩:∃ z,(x::ns)[i]?=some z/\V.str z=y:=by
     rw [List.getElem?_map] at hy
     exact Option.map_eq_some_iff.mp hy
    have hil:=(List.getElem?_eq_some_iff.mp xA).1
    have Hl:(x::ns).length<=2:=hl
    have lb:=Sc.bnd_len ((x::ns).take i) sc.ps sc.h Acd
    have ltk:((x::ns).take i).length=i:=by rw [List.length_take];omega
    left
    refine ⟨pd,_,rfl,QA.k (k:=.inr y') PL (DI ()),?_⟩
    left
    refine ⟨_,_,rfl,rfl,some (.str y'),?_,?_,?_⟩
    ·have e3:((sc.h+i:Nat):Int)+1=((sc.h+(i+1):Nat):Int):=by omega
     rw [e3];rfl
    ·exact An.put sm yq
    ·rw [Ap,List.take_succ,xA]
     show _=some (HO.dK (Sc.bnd sc.ps sc.h ((x::ns).take i++[y'])))
     rw [Sc.bnd_app,ltk]
   ·obtain ⟨o,rfl,sm,PL⟩:=z
    rw [List.length_map,List.take_length] at PL
    left
    refine GY λp2 dx2 H2 L' s2 e2=>k _ H2 (sm.trans s2) ⟨yp,p2,dx2,pd,re,rfl,?_,Br.mono (Ay.of_same (sm.trans s2)) he,s2 _ _ PL⟩
    rw [List.length_map] at e2
    exact e2
inductive NQ (C:Addr)(vs:(List V))(H:Hp)(Q:VK)(z3:XK):Prop
 | mk (sc:Sc) (r:V) (h1:vs=[r]) (h2:Eu C H sc r) (h3:∀ l us H',An H H'->H l=none->H' l=some (.lst us)->Paired (Eu C H') sc.kids us->Q (.ref l) H'):NQ C vs H Q z3
theorem qH:Ar ["scope"] ["scope"] (Ad Bi):=nofun
theorem d7 {f C:Addr}{fd:FuncData}(F:Ck K "inner_scopes" "inner_scopes" Bi f fd)(T:FU K mg C)(cP:Cl Pr w K mg base 2 "parts_with_names" ["tree"] NO)(cI:Cl Pr w K mg base 3 "inner_scope" ["scope","part","names"] (Gk C)):
  AI Pr w K mg base BR 4 f fd ["scope"] (NQ C):=by
 refine F.okS qH (λvs H Q E h=>?_) (λBo A outer s H vs Q E hr h=>?_)
 ·obtain ⟨sc,r,rfl,_⟩:=h;rfl
 ·obtain ⟨sc,r,rfl,⟨ok,pr,dx,d,rt,rfl,h1,h2,h3⟩,k⟩:=h
  have FA:AY 2 _:=hr.mono ()
  have S:BG (DE BR Pr w K mg base ["scope"] "inner_scopes" (Ad Bi) f Bo A outer s H E).nox (CH (valueOf (inDef Bi 0))) [("scope",s.heap.objs.size+1)] ["part","names"] ["scope"] [0] :=
   ⟨rfl,by decide +kernel,rfl,by decide +kernel,rfl,rfl,rfl,rfl⟩
  have IS:(["part","names","scope"]:List Str).Nodup:=by decide +kernel
  refine ⟨_,(Ai (Aw (GL (g:=LA K 2 (EW (Dg 0) (EW (Dg 1) O5))) (te:=DW (Gk C) [] E0 (BM (Bw 2) (BM (Bw 0) (BM (Bw 1) Ez)))) S rfl (FI (B3 cP FA rfl (Aa (By (Af 0)) Ab))) (λC s0 H0 ex=>Kz rfl (Dz (C1 (i:=0) IS rfl (.inl rfl)) (Dz (C1 (i:=1) IS rfl (.inl rfl)) Ic))) (λ_ _ _ _=>Fz) (λC s0 H0 ex=>B3 cI hr rfl (Aa (Af 2) (Aa (Af 0) (Aa (Af 1) Ab))))))),?_⟩
  left
  refine ⟨pr,C,dx,_,rt,rfl,h1,T.cl,T.nT,rfl,?_⟩
  left
  refine ⟨sc.e,rt,rfl,h2,λl rs H1 s1 e1 pp=>?_⟩
  have lp:=Paired.len pp
  have l3:sc.e.prt.length<=3:=by cases sc.e <;> simp [Ex.prt]
  refine ⟨l,rfl,⟨_,AZ.of e1⟩,?_⟩
  refine KH (K:=K) (n:=rs.length) (λi ys H'=>An H1 H'/\Paired (Eu C H') (sc.kids.take i) ys) ⟨An.refl _,.nil⟩ (by exact DI ()) (λi ys H' z=>?_) rfl rfl (λi ys H' hi z=>⟨rs,rs[i],AZ.of (z.1 _ _ e1),by simp [hi]⟩) (λys H' z=>⟨rs,AZ.of (z.1 _ _ e1),Nat.le_refl _⟩) (λi ys H2 x H2' hi z hy=>?_) (λys H2 z=>?_)
  ·rw [<- Paired.len z.2,List.length_take];omega
  ·obtain ⟨rfl,hy⟩:=hy
   obtain ⟨s2,z⟩:=z
   have my:=hy rs (AZ.of (s2 _ _ e1))
   obtain ⟨pt,E4,b,c,re,rfl,hb,he,hc⟩:=Paired.at1 pp my
   have Vo:=List.mem_of_getElem? E4
   have yp:=Sc.kids_ok ok pt Vo
   have l2:pt.2.length<=2:=by
    revert Vo
    generalize sc.e=e
    cases e <;> simp only [Ex.prt,List.mem_cons,List.not_mem_nil,or_false,false_imp_iff] <;> (intro hh;rcases hh with rfl | rfl | rfl <;> simp) <;> skip
   refine ⟨b,_,_,rfl,AJ.of (s2 _ _ hb),?_⟩
   left
   refine Dm ?_
   left
   refine ⟨sc,.ref pr,re,c,pt,rfl,Eu.mono (NL.of_same (s1.trans s2)) ⟨ok,pr,dx,d,rt,rfl,h1,h2,h3⟩,yp,Br.mono (Ay.of_same s2) he,s2 _ _ hc,l2,λr' H3 s3 a3=>?_⟩
   refine Nx.mk hi ⟨s2.trans s3,?_⟩
   rw [List.take_succ,show sc.kids[i]?=some (sc.inn pt) by rw [Sc.kids,List.getElem?_map,E4];rfl]
   exact Paired.app (Paired.mapP z λ_ _ y=>Eu.mono (NL.of_same s3) y) (.cons a3 .nil)
  ·obtain ⟨s2,z⟩:=z
   refine Bz (Nat.zero_le _) λl2 H3 hn s3 e3=>?_
   rw [show rs.length=sc.kids.length by rw [Sc.kids,List.length_map];exact lp,List.take_length] at z
   exact k l2 _ H3 (s1.trans (s2.trans s3)) ((s1.trans s2).free hn) e3 (Paired.mapP z λ_ _ y=>Eu.mono (NL.of_same s3) y)
noncomputable def ME (C:Addr)(ls:List Addr)(H0 H:Hp)(s:Sc)(u:V):Prop:=Lu λp q x ws=>u=.ref p/\H p=some (.tup [x,.ref q])/\Eu C H s x/\H q=some (.lst ws)/\Paired (Eu C H) s.kids ws/\q∉ls/\H0 q=none
noncomputable def Hi (ls:List Addr)(H H':Hp):Prop:=∀ b o,H b=some o->b∉ls->H' b=some o
theorem Hi.of_same {ls:List Addr}{H H':Hp}(s:An H H'):Hi ls H H':=λb o e _=>s b o e
theorem Hi.trans {ls:List Addr}{H1 H2 H3:Hp}(a:Hi ls H1 H2)(b:Hi ls H2 H3):Hi ls H1 H3:=λc o e n=>b c o (a c o e n) n
theorem Hi.put {ls:List Addr}{H:Hp}{a:Addr}{o:HO}(h:a∈ls):Hi ls H (upd H a o):=λb o e n=>by
 rw [Aq]
 ·exact e
 ·intro z;subst z;exact n h
theorem ME.mono {C:Addr}{ls:List Addr}{H0 H H':Hp}(s:NL H H')(b:Hi ls H H'){sc:Sc}{u:V}(h:ME C ls H0 H sc u):ME C ls H0 H' sc u:=by
 obtain ⟨p,q,x,ws,h1,h2,h3,h4,h5,h6,h7⟩:=h
 exact ⟨p,q,x,ws,h1,s _ _ h2 (by intro _ z;cases z),h3.mono s,b _ _ h4 h6,Paired.mapP h5 λ_ _ z=>z.mono s,h6,h7⟩
inductive K4 (C fP:Addr)(vs:(List V))(H:Hp)(Q:VK)(z3:XK):Prop
 | mk (sc:Sc) (v:V) (h1:vs=[v,.ref fP]) (h2:Eu C H sc v) (h3:∀ l us H',An H H'->H l=none->H' l=some (.lst us)->Paired (ME C [l] H H') (KG.P Sc.kids Sc.sz [sc]) us->Q (.ref l) H'):K4 C fP vs H Q z3
theorem Le:Ar ["top","parts_of","found","waiting","one","parts"] ["top","parts_of"] (Ad Mt):=nofun
theorem VF {f fP C:Addr}{fd qI:FuncData}(F:Ck K "all_within" "all_within" Mt f fd)(Eh:mg "list"=none)(FV:mg "reversed"=none)(GP:AI Pr w K mg base BR 4 fP qI ["scope"] (NQ C))(bP:Binds K qI ["scope"] [])(kP:W.keepIn K (.ref fP)=true):
  AI Pr w K mg base BR 5 f fd ["top","parts_of"] (K4 C fP):=by
 refine F.okS Le (λvs H Q E h=>?_) (λBo A outer s H vs Q E hr h=>?_)
 ·obtain ⟨sc,v,rfl,_⟩:=h;rfl
 ·obtain ⟨sc,v,rfl,ht,k⟩:=h
  refine ⟨_,(Ae (Ax (i:=2) Le.nd rfl (.inl rfl) (AS Ab))
   (Ae (Ax (i:=3) Le.nd rfl (.inl rfl) (AS (Aa (Af 0) Ab)))
   (Ae (JO PassesOwn.never (Ea (Af 3)) (Ae (Ax (i:=4) Le.nd rfl (.inl rfl) (Jh PySem.F.plainAttrs_list PySem.F.slot_list_pop PySem.F.type_list_pop GG (Af 3)))
   (Ae (Ax (i:=5) Le.nd rfl (.inl rfl) (Nq GP hr bP (i:=1) rfl (.inl rfl) (Aa (Af 4) Ab)))
   (Ae (BS (Oz PySem.F.plainAttrs_list PySem.F.slot_list_append PySem.F.type_list_append Em (Af 2) (Aa (Am (Aa (Af 4) (Aa (Af 5) Ab))) Ab)))
   (Ai (BS (Oz PySem.F.plainAttrs_list PySem.F.slot_list_extend PySem.F.type_list_extend Ol (Af 3) (Aa (Mr rfl rfl Eh rfl FV (Aa (Af 5) Ab)) Ab))))))))
   (Ai (Aw (Af 2)))))),?_⟩
  have hs:=Sc.kids_sz
  have hPl:=KG.P_one hs sc
  have NP:sc.sz<=1500:=by have:=ht.1.small;show sc.e.sz<=1500;omega
  left
  refine Bz (BB (Nat.le_of_ble_eq_true rfl)) λlf H1 FQ s1 e1=>?_
  left
  refine Bz (BB (Nat.le_of_ble_eq_true rfl)) λlw H2 mB s2 e2=>?_
  left
  have Cq:=s1.trans s2
  have nfw:lf≠lw:=AF e1 mB
  have hw0:H lw=none:=s1.free mB
  refine ⟨λm σ' H'=>mY λfs ws pt pp ts ds=>σ'=[some v,some (.ref fP),some (.ref lf),some (.ref lw),pt,pp]/\m=KG.szs Sc.sz ds/\An H H'/\H' lf=some (.lst fs)/\H' lw=some (.lst ws)/\Paired (ME C [lf,lw] H H') ts fs/\Paired (Eu C H') ds ws.reverse/\ts++KG.P Sc.kids Sc.sz ds=KG.P Sc.kids Sc.sz [sc],
   ⟨KG.szs Sc.sz [sc],[],[v],none,none,[],[sc],rfl,rfl,Cq,s2 _ _ e1,e2,.nil,.cons (ht.mono (NL.of_same Cq)) .nil,rfl⟩,?_⟩
  rintro m σ' H' ⟨fs,ws,pt,pp,ts,ds,rfl,rfl,sm,hf,hw,kf,kw,e⟩
  left
  refine ⟨!ws.isEmpty,.inl ⟨ws,AZ.of hw,rfl⟩,?_⟩
  cases ds with
  | nil =>
   have qJ:ws=[]:=by
    have:=Paired.length kw
    simpa using this.symm
   subst qJ
   refine DH ?_
   left
   rw [KG.P_nil,List.append_nil] at e
   rw [e] at kf
   exact k lf fs H' sm FQ hf (Paired.mapP kf λ_ _ z=>by
    obtain ⟨p,q,x,ws,z1,z2,z3,z4,z5,z6,z7⟩:=z
    exact ⟨p,q,x,ws,z1,z2,z3,z4,z5,λy=>z6 (by rw [List.mem_singleton.mp y];exact .head _),z7⟩)
  | cons d ds =>
   have hlen:fs.length=ts.length:=(Paired.length kf).symm
   have Ays:ts.length+KG.szs Sc.sz (d::ds)=sc.sz:=by
    have h1:=congrArg List.length e
    rw [List.length_append,hPl,KG.P_len hs _ (d::ds) rfl] at h1
    exact h1
   obtain ⟨x,xs,hx,kx,kxs⟩:Dn λx xs=>ws.reverse=x::xs/\Eu C H' d x/\Paired (Eu C H') ds xs:=by
    generalize ws.reverse=rs at kw
    cases kw with
    | cons k1 k2=>exact ⟨_,_,rfl,k1,k2⟩
   have qJ:ws=xs.reverse++[x]:=by
    have:=congrArg List.reverse hx
    simpa using this
   have xB:ws.length<=KG.szs Sc.sz (d::ds):=by
    have h1:=KG.szs_len hs (d::ds)
    have h2:ws.length=(d::ds).length:=by
     have:=Paired.length kw
     simpa using this.symm
    omega
   have ne:(!ws.isEmpty)=true:=by rw [qJ];simp
   rw [ne]
   refine Dm ⟨fun σ' H'=>∃ m',m' < KG.szs Sc.sz (d::ds)/\mY λfs ws pt pp ts ds=>σ'=[some v,some (.ref fP),some (.ref lf),some (.ref lw),pt,pp]/\m'=KG.szs Sc.sz ds/\An H H'/\H' lf=some (.lst fs)/\H' lw=some (.lst ws)/\Paired (ME C [lf,lw] H H') ts fs/\Paired (Eu C H') ds ws.reverse/\ts++KG.P Sc.kids Sc.sz ds=KG.P Sc.kids Sc.sz [sc],fun σ' H' q=>q,?_⟩
   left
   refine ⟨.inl ⟨rfl,_,AZ.of hw⟩,lw,ws,x,rfl,rfl,hw,by rw [qJ];simp,?_⟩
   have nl3:NL H' (upd H' lw (.lst ws.dropLast)):=NL.put hw
   have bt3:Hi [lf,lw] H' (upd H' lw (.lst ws.dropLast)):=Hi.put (by simp)
   have Y2:An H (upd H' lw (.lst ws.dropLast)):=An.put sm hw0
   have hf3:(upd H' lw (.lst ws.dropLast)) lf=some (.lst fs):=by rw [Aq nfw];exact hf
   have qK:(upd H' lw (.lst ws.dropLast)) lw=some (.lst ws.dropLast):=Ap
   generalize upd H' lw (.lst ws.dropLast)=H3 at *
   left
   refine ⟨rfl,.inl kP,_,rfl,.inl kP,d,x,rfl,kx.mono nl3,λq us H4 s4 qL hq kq=>?_⟩
   have hf4:=s4 _ _ hf3
   have hw4:=s4 _ _ qK
   have sm4:An H H4:=Y2.trans s4
   have yr:us.length=(Sc.kids d).length:=(Paired.length kq).symm
   have hkl:=KG.kids_len hs d
   have hdz:Sc.sz d<=KG.szs Sc.sz (d::ds):=by simp only [KG.szs];omega
   left
   refine ⟨.inl ⟨rfl,_,AZ.of hf4⟩,?_⟩
   left
   refine Bz (BB (Nat.le_of_ble_eq_true rfl)) λp H5 TY s5 e5=>?_
   have hf5:=s5 _ _ hf4
   have hw5:=s5 _ _ hw4
   have sm5:=sm4.trans s5
   refine ⟨lf,fs,.ref p,rfl,rfl,hf5,DI (),?_⟩
   have nl6:NL H5 (upd H5 lf (.lst (fs++[.ref p]))):=NL.put hf5
   have bt6:Hi [lf,lw] H5 (upd H5 lf (.lst (fs++[.ref p]))):=Hi.put (by simp)
   have sm6:An H (upd H5 lf (.lst (fs++[.ref p]))):=An.put sm5 FQ
   have hw6:(upd H5 lf (.lst (fs++[.ref p]))) lw=some (.lst ws.dropLast):=by rw [Aq (Ne.symm nfw)];exact hw5
   have hf6:(upd H5 lf (.lst (fs++[.ref p]))) lf=some (.lst (fs++[.ref p])):=Ap
   generalize upd H5 lf (.lst (fs++[.ref p]))=H6 at *
   have nqf:q∉[lf,lw]:=λz=>by
    simp only [List.mem_cons,List.not_mem_nil,or_false] at z
    rcases z with z | z
    ·rw [z,hf3] at qL;cases qL
    ·rw [z,qK] at qL;cases qL
   have hq6:H6 q=some (.lst us):=bt6 _ _ (s5 _ _ hq) nqf
   left
   refine ⟨.inl ⟨rfl,_,AZ.of hw6⟩,?_⟩
   left
   refine ⟨q,us,rfl,AZ.of hq6,(),λl hl=>?_⟩
   have s7:An H6 (upd H6 l (.lst us.reverse)):=An.new hl
   have e7:(upd H6 l (.lst us.reverse)) l=some (.lst us.reverse):=Ap
   have sm7:=sm6.trans s7
   generalize upd H6 l (.lst us.reverse)=H7 at *
   have hw7:=s7 _ _ hw6
   have hf7:=s7 _ _ hf6
   refine ⟨lw,l,ws.dropLast,us.reverse,rfl,rfl,hw7,e7,by rw [List.length_dropLast,List.length_reverse];exact BB (),?_⟩
   have nl8:NL H7 (upd H7 lw (.lst (ws.dropLast++us.reverse))):=NL.put hw7
   have bt8:Hi [lf,lw] H7 (upd H7 lw (.lst (ws.dropLast++us.reverse))):=Hi.put (by simp)
   have d8:NL H4 (upd H7 lw (.lst (ws.dropLast++us.reverse))):=(NL.of_same s5).trans (nl6.trans ((NL.of_same s7).trans nl8))
   have qM:Hi [lf,lw] H4 (upd H7 lw (.lst (ws.dropLast++us.reverse))):=(Hi.of_same s5).trans (bt6.trans ((Hi.of_same s7).trans bt8))
   have nlA:NL H' (upd H7 lw (.lst (ws.dropLast++us.reverse))):=nl3.trans ((NL.of_same s4).trans d8)
   have btA:Hi [lf,lw] H' (upd H7 lw (.lst (ws.dropLast++us.reverse))):=bt3.trans ((Hi.of_same s4).trans qM)
   refine ⟨KG.szs Sc.sz (Sc.kids d++ds),?_,fs++[.ref p],ws.dropLast++us.reverse,_,_,ts++[d],Sc.kids d++ds,rfl,rfl,An.put sm7 hw0,?_,Ap,?_,?_,?_⟩
   ·have:=KG.szs_nxt hs d ds
    show KG.szs Sc.sz (KG.nxt Sc.kids (d::ds)) < _
    omega
   ·rw [Aq nfw];exact hf7
   ·refine Paired.app (Paired.mapP kf λ_ _ z=>z.mono nlA btA) (.cons ⟨p,q,x,us,rfl,nl8 _ _ (s7 _ _ (nl6 _ _ e5 (by intro _ z;cases z))) (by intro _ z;cases z),kx.mono nlA,qM _ _ hq nqf,Paired.mapP kq λ_ _ z=>z.mono d8,nqf,Y2.free qL⟩ .nil)
   ·have e1:(ws.dropLast++us.reverse).reverse=us++xs:=by rw [qJ];simp
    rw [e1]
    exact Paired.app (Paired.mapP kq λ_ _ z=>z.mono d8) (Paired.mapP kxs λ_ _ z=>z.mono nlA)
   ·rw [<- e,KG.P_cons hs]
    simp
noncomputable def Aci (H:Hp)(s:Sc)(m:V):Prop:=Dn λl code=>m=.ref l/\FZ H l code/\oW code s.e.np s.e.sz
inductive Bl (C:Addr)(W:Ex->Prop)(vs:(List V))(H:Hp)(Q:VK)(z3:XK):Prop
 | mk (sc:Sc) (r:V) (l:Addr) (ms:List V) (h1:vs=[r,.ref l]) (h2:W sc.e) (h3:Eu C H sc r) (h4:H l=some (.lst ms)) (h5:Paired (Aci H) sc.kids ms) (h6:∀ lr code H',An H H'->H lr=none->FZ H' lr code->oW code sc.e.np sc.e.sz->Q (.ref lr) H'):Bl C W vs H Q z3
theorem Acj:Ar ["scope","codes"] ["scope","codes"] (Ad BN):=nofun
theorem d9 {f C:Addr}{fd:FuncData}(F:Ck K "code_of_name" "code_of_name" BN f fd)(T:FU K mg C):AI Pr w K mg base BR 1 f fd ["scope","codes"] (Bl C λe=>∃ x,e=.nm x):=by
 refine F.okS Acj (λvs H Q E h=>?_) (λBo A outer s H vs Q E hr h=>?_)
 ·obtain ⟨sc,r,l,ms,rfl,_⟩:=h;rfl
 ·obtain ⟨sc,r,l,ms,rfl,hw,⟨ok,pr,dx,d,rt,rfl,h1,h2,h3⟩,hl,hm,q⟩:=h
  have hu:=Jd hr
  refine ⟨_,(Ai (Aw (AS (Aa (Am (Aa Ag (Aa (Aj Bx (Aj Bx (By (Af 0)) Ac) (QU hu (By (Af 0)) (Av Al (By (Af 0)) Ac AR) AR)) Ab))) Ab)))),?_⟩
  obtain ⟨e,xs,ps,h⟩:=sc
  have hw:∃ x,e=.nm x:=hw
  obtain ⟨x,rfl⟩:=hw
  obtain ⟨pt,rfl,E4⟩:=h2
  obtain ⟨n,hn,Ef⟩:=ok.at' x ok.cl
  left
  refine ⟨pr,C,dx,_,_,rfl,h1,T.cl,T.nH,rfl,?_⟩
  left
  refine ⟨pr,C,dx,_,_,rfl,h1,T.cl,T.nP,rfl,?_⟩
  left
  refine ⟨pr,C,dx,_,_,rfl,h1,T.cl,T.nT,rfl,?_⟩
  left
  refine Ah (AJ.of E4) (v:=.str x) rfl ?_
  refine ⟨d,.int n,rfl,by rw [<- hn];exact Eg.k (k:=.inr x) h3,?_⟩
  left
  intros p1 H1 s1 e1
  left
  refine Bz (BB (Nat.le_of_ble_eq_true rfl)) λp2 H2 L' s2 e2=>?_
  have Ay6:n < h:=Ef
  have en:(h:Int) - 1 - (n:Int)=((h - 1 - n:Nat):Int):=by omega
  have Vl:H1 p1=some (.tup (MS.nm (h - 1 - n)).cnt):=by
   show H1 p1=some (.tup [.str "name",.int ((h - 1 - n:Nat):Int)])
   rw [<- en];exact e1
  exact q p2 [.nm (h - 1 - n)] H2 (s1.trans s2) (s1.free L') (Dl (s2 _ _ Vl) e2) ⟨by simp [MS.ok],Nat.zero_le _,by simp [Ex.sz]⟩
theorem Ack:Ar ["scope","codes"] ["scope","codes"] (Ad Bq):=nofun
theorem dc {f C:Addr}{fd:FuncData}(F:Ck K "code_of_itself" "code_of_itself" Bq f fd)(T:FU K mg C):AI Pr w K mg base BR 1 f fd ["scope","codes"] (Bl C λe=>(∃ i,e=.num i)\/(∃ b,e=.tru b)\/e=.emp):=by
 refine F.okS Ack (λvs H Q E h=>?_) (λBo A outer s H vs Q E hr h=>?_)
 ·obtain ⟨sc,r,l,ms,rfl,_⟩:=h;rfl
 ·obtain ⟨sc,r,l,ms,rfl,hw,⟨ok,pr,dx,d,rt,rfl,h1,h2,h3⟩,hl,hm,q⟩:=h
  refine ⟨_,(Ai (Aw (AS (Aa (By (Af 0)) Ab)))),?_⟩
  obtain ⟨e,xs,ps,h⟩:=sc
  left
  refine ⟨pr,C,dx,_,_,rfl,h1,T.cl,T.nT,rfl,?_⟩
  left
  refine Bz (BB (Nat.le_of_ble_eq_true rfl)) λp2 H2 L' s2 e2=>?_
  have hw:(∃ i,e=.num i)\/(∃ b,e=.tru b)\/e=.emp:=hw
  rcases hw with ⟨i,rfl⟩ | ⟨b,rfl⟩ | rfl
  ·obtain ⟨pt,rfl,E4⟩:=h2
   exact q p2 [.num _] H2 s2 L' (Dl (s2 _ _ E4) e2) ⟨by simp [MS.ok],Nat.zero_le _,by simp [Ex.sz]⟩
  ·obtain ⟨pt,rfl,E4⟩:=h2
   exact q p2 [.tru _] H2 s2 L' (Dl (s2 _ _ E4) e2) ⟨by simp [MS.ok],Nat.zero_le _,by simp [Ex.sz]⟩
  ·obtain ⟨pt,rfl,E4⟩:=h2
   exact q p2 [.emp] H2 s2 L' (Dl (s2 _ _ E4) e2) ⟨by simp [MS.ok],Nat.zero_le _,by simp [Ex.sz]⟩
theorem Acl:Ar ["scope","codes"] ["scope","codes"] (Ad Bf):=nofun
theorem de {f C:Addr}{fd:FuncData}(F:Ck K "code_of_function" "code_of_function" Bf f fd)(T:FU K mg C)(B1:mg "len"=none):AI Pr w K mg base BR 1 f fd ["scope","codes"] (Bl C λe=>(Dn λx b=>e=.fn x b)\/EM λf x b=>e=.rc f x b):=by
 refine F.okS Acl (λvs H Q E h=>?_) (λBo A outer s H vs Q E hr h=>?_)
 ·obtain ⟨sc,r,l,ms,rfl,_⟩:=h;rfl
 ·obtain ⟨sc,r,l,ms,rfl,hw,⟨ok,pr,dx,d,rt,rfl,h1,h2,h3⟩,hl,hm,q⟩:=h
  refine ⟨_,(Ai (Aw (Aj B7 (Aj B7 (AS (Aa (Am (Aa (Av Al (By (Af 0)) Ac AR) (Aa (Aj AW (AU AG (by rfl) B1 PySem.boot_len (Aa (Av AA (Af 1) Ac AR) Ab)) Ac) Ab))) Ab)) (Av AA (Af 1) Ac AR)) (AS (Aa (Am (Aa Ag Ab)) Ab))))),?_⟩
  have cs:mY λ(b:Ex) (wd:Str) (us:List V) (pt:Addr) (mk:Nat->MS) (k:Sc)=>rt=.ref pt/\H pt=some (.tup (.str wd::us))/\(∀ n:Nat,(mk n).cnt=[.str wd,.int n]/\(mk n).ok/\(mk n).pl=0)/\k.e=b/\sc.kids=[k]/\sc.e.np=b.np/\sc.e.sz=1+b.sz:=by
   obtain ⟨e,xs,ps,h⟩:=sc
   have hw:(Dn λx b=>e=.fn x b)\/EM λf x b=>e=.rc f x b:=hw
   rcases hw with ⟨x,b,rfl⟩ | ⟨f',x,b,rfl⟩
   ·obtain ⟨pt,rb,rfl,E4,_⟩:=h2
    exact ⟨_,_,_,pt,MS.fn,_,rfl,E4,λn=>⟨rfl,trivial,rfl⟩,rfl,rfl,rfl,rfl⟩
   ·obtain ⟨pt,rb,rfl,E4,_⟩:=h2
    exact ⟨_,_,_,pt,MS.rc,_,rfl,E4,λn=>⟨rfl,trivial,rfl⟩,rfl,rfl,rfl,rfl⟩
  obtain ⟨b,wd,us,pt,mkS,k,rfl,E4,hS,rfl,hk,yt,hsz⟩:=cs
  rw [hk] at hm
  obtain ⟨m1,rfl,l1,c1,rfl,KY,GZ⟩:=DV hm
  have NP:=ok.small
  have o1:=GZ.len
  obtain ⟨mG,V6,TV⟩:=KY
  have lv:=Paired.len TV
  left
  refine ⟨pr,C,dx,_,_,rfl,h1,T.cl,T.nT,rfl,?_⟩
  left
  refine Ah (AJ.of E4) (v:=.str wd) (Au (j:=0) rfl) ?_
  left
  refine AX (AZ.of hl) (v:=.ref l1) rfl ?_
  left
  refine ⟨l1,mG,rfl,.inl (AZ.of V6),?_⟩
  left
  intros p1 H1 s1 e1
  left
  refine Bz (BB (Nat.le_of_ble_eq_true rfl)) λp2 H2 L' s2 e2=>?_
  left
  have Cq:=s1.trans s2
  refine AX (AZ.of (Cq _ _ hl)) (v:=.ref l1) rfl ?_
  have KY:FZ H l1 c1:=⟨mG,V6,TV⟩
  have Vl:H1 p1=some (.tup (mkS (mG.length+1)).cnt):=by
   rw [(hS _).1]
   rw [show ((mG.length+1:Nat):Int)=(mG.length:Int)+1 by omega]
   exact e1
  refine Be (Dl (s2 _ _ Vl) e2) (KY.mono Cq) (by simp;omega) λp3 H3 PX s3 c3=>?_
  left
  intros p4 H4 s4 e4
  left
  refine Bz (BB (Nat.le_of_ble_eq_true rfl)) λp5 H5 TY s5 e5=>?_
  refine Be (c3.mono (s4.trans s5)) (Dl (s:=.back) (s5 _ _ e4) e5) (by simp;omega) λp6 H6 mH s6 c6=>?_
  have sA:=Cq.trans (s3.trans (s4.trans s5))
  refine q p6 _ H6 (sA.trans s6) (sA.free mH) c6 ⟨λz hz=>?_,?_,?_⟩
  ·simp only [List.mem_append,List.mem_singleton] at hz
   rcases hz with (rfl | hz) | rfl
   ·exact (hS _).2.1
   ·exact GZ.ok z hz
   ·trivial
  ·have:=GZ.np
   have h0:=(hS (mG.length+1)).2.2
   rw [Ba,Ba]
   simp only [Dp]
   rw [h0]
   show 0+0+Dp c1+(0+0)<=_
   omega
  ·simp;omega
theorem qN:Ar ["scope","codes"] ["scope","codes"] (Ad C5):=nofun
theorem VG {f C:Addr}{fd:FuncData}(F:Ck K "code_of_two" "code_of_two" C5 f fd)(T:FU K mg C):AI Pr w K mg base BR 1 f fd ["scope","codes"] (Bl C λe=>(Dn λa b=>e=.cal a b)\/(Dn λa b=>e=.pr a b)\/Dn λa b=>e=.lk a b):=by
 refine F.okS qN (λvs H Q E h=>?_) (λBo A outer s H vs Q E hr h=>?_)
 ·obtain ⟨sc,r,l,ms,rfl,_⟩:=h;rfl
 ·obtain ⟨sc,r,l,ms,rfl,hw,⟨ok,pr,dx,d,rt,rfl,h1,h2,h3⟩,hl,hm,q⟩:=h
  refine ⟨_,(Ai (Aw (Aj B7 (Aj B7 (Av AA (Af 1) Ac AR) (Av AA (Af 1) Ac AR)) (AS (Aa (Am (Aa (Av Al (By (Af 0)) Ac AR) Ab)) Ab))))),?_⟩
  have NP:=ok.small
  have cs:mY λ(wd:Str) (us:List V) (pt:Addr) (st:MS) (k1 k2:Sc)=>rt=.ref pt/\H pt=some (.tup (.str wd::us))/\st.cnt=[.str wd]/\st.ok/\sc.kids=[k1,k2]/\sc.e.np=st.pl+k1.e.np+k2.e.np/\sc.e.sz=1+k1.e.sz+k2.e.sz:=by
   obtain ⟨e,xs,ps,h⟩:=sc
   have hw:(Dn λa b=>e=.cal a b)\/(Dn λa b=>e=.pr a b)\/Dn λa b=>e=.lk a b:=hw
   rcases hw with ⟨a,b,rfl⟩ | ⟨a,b,rfl⟩ | ⟨a,b,rfl⟩
   ·obtain ⟨pt,ra,rb,rfl,E4,_⟩:=h2
    exact ⟨_,_,pt,.call,_,_,rfl,E4,rfl,trivial,rfl,(Nat.zero_add _▸rfl),rfl⟩
   ·obtain ⟨pt,ra,rb,rfl,E4,_⟩:=h2
    exact ⟨_,_,pt,.pr,_,_,rfl,E4,rfl,trivial,rfl,rfl,rfl⟩
   ·obtain ⟨pt,ra,rb,rfl,E4,_⟩:=h2
    exact ⟨_,_,pt,.lk,_,_,rfl,E4,rfl,trivial,rfl,rfl,rfl⟩
  obtain ⟨wd,us,pt,st,k1,k2,rfl,E4,hS,m8,hk,yt,hsz⟩:=cs
  rw [hk] at hm
  obtain ⟨m1,m2,rfl,⟨l1,c1,rfl,KY,GZ⟩,⟨l2,c2,rfl,Hk,Iq⟩⟩:=DB hm
  have o1:=GZ.len
  have o2:=Iq.len
  left
  refine AX (AZ.of hl) (v:=.ref l1) rfl ?_
  left
  refine AX (AZ.of hl) (v:=.ref l2) rfl ?_
  refine Be KY Hk () λp1 H1 TV s1 c3=>?_
  left
  refine ⟨pr,C,dx,_,_,rfl,s1 _ _ h1,T.cl,T.nT,rfl,?_⟩
  left
  refine Ah (AJ.of (s1 _ _ E4)) (v:=.str wd) (Au (j:=0) rfl) ?_
  left
  intros p2 H2 s2 e2
  left
  refine Bz (BB (Nat.le_of_ble_eq_true rfl)) λp3 H3 PX s3 e3=>?_
  have Y3:H2 p2=some (.tup st.cnt):=by rw [hS];exact e2
  refine Be (c3.mono (s2.trans s3)) (Dl (s3 _ _ Y3) e3) (by simp;omega) λp4 H4 OW s4 c4=>?_
  have sA:=s1.trans (s2.trans s3)
  refine q p4 _ H4 (sA.trans s4) (sA.free OW) c4 ⟨λz hz=>?_,?_,?_⟩
  ·simp only [List.mem_append,List.mem_singleton] at hz
   rcases hz with (hz | hz) | rfl
   ·exact GZ.ok z hz
   ·exact Iq.ok z hz
   ·exact m8
  ·have n1:=GZ.np
   have n2:=Iq.np
   rw [Ba,Ba]
   simp only [Dp];omega
  ·simp;omega
theorem Acm:Ar ["scope","codes"] ["scope","codes"] (Ad Cn):=nofun
theorem df {f C:Addr}{fd:FuncData}(F:Ck K "code_of_op" "code_of_op" Cn f fd)(T:FU K mg C):AI Pr w K mg base BR 1 f fd ["scope","codes"] (Bl C λe=>EM λo a b=>e=.op o a b):=by
 refine F.okS Acm (λvs H Q E h=>?_) (λBo A outer s H vs Q E hr h=>?_)
 ·obtain ⟨sc,r,l,ms,rfl,_⟩:=h;rfl
 ·obtain ⟨sc,r,l,ms,rfl,hw,⟨ok,pr,dx,d,rt,rfl,h1,h2,h3⟩,hl,hm,q⟩:=h
  refine ⟨_,(Ai (Aw (Aj B7 (Aj B7 (Av AA (Af 1) Ac AR) (Av AA (Af 1) Ac AR)) (AS (Aa (Am (Aa Ag (Aa (Av Al (By (Af 0)) Ac AR) Ab))) Ab))))),?_⟩
  have NP:=ok.small
  obtain ⟨e,xs,ps,h⟩:=sc
  have hw:EM λo a b=>e=.op o a b:=hw
  obtain ⟨o,a,b,rfl⟩:=hw
  obtain ⟨pt,ra,rb,rfl,E4,_⟩:=h2
  obtain ⟨m1,m2,rfl,⟨l1,c1,rfl,KY,GZ⟩,⟨l2,c2,rfl,Hk,Iq⟩⟩:=DB hm
  have o1:c1.length<=3 * a.sz:=GZ.len
  have o2:c2.length<=3 * b.sz:=Iq.len
  simp only [Ex.sz] at NP
  left
  refine AX (AZ.of hl) (v:=.ref l1) rfl ?_
  left
  refine AX (AZ.of hl) (v:=.ref l2) rfl ?_
  refine Be KY Hk () λp1 H1 TV s1 c3=>?_
  left
  refine ⟨pr,C,dx,_,_,rfl,s1 _ _ h1,T.cl,T.nT,rfl,?_⟩
  left
  refine Ah (AJ.of (s1 _ _ E4)) (v:=.str o) rfl ?_
  left
  intros p2 H2 s2 e2
  left
  refine Bz (BB (Nat.le_of_ble_eq_true rfl)) λp3 H3 PX s3 e3=>?_
  refine Be (c3.mono (s2.trans s3)) (Dl (s:=.op o) (s3 _ _ e2) e3) (by simp;omega) λp4 H4 OW s4 c4=>?_
  have sA:=s1.trans (s2.trans s3)
  refine q p4 _ H4 (sA.trans s4) (sA.free OW) c4 ⟨λz hz=>?_,?_,?_⟩
  ·simp only [List.mem_append,List.mem_singleton] at hz
   rcases hz with (hz | hz) | rfl
   ·exact GZ.ok z hz
   ·exact Iq.ok z hz
   ·exact ok.op.1
  ·have n1:Dp c1<=a.np:=GZ.np
   have n2:Dp c2<=b.np:=Iq.np
   rw [Ba,Ba]
   simp only [Dp,MS.pl,Ex.np];omega
  ·simp [Ex.sz];omega
theorem Acn:Ar ["scope","codes"] ["scope","codes"] (Ad C6):=nofun
theorem dg {f C:Addr}{fd:FuncData}(F:Ck K "code_of_let" "code_of_let" C6 f fd)(T:FU K mg C):AI Pr w K mg base BR 1 f fd ["scope","codes"] (Bl C λe=>EM λx a b=>e=.lt x a b):=by
 refine F.okS Acn (λvs H Q E h=>?_) (λBo A outer s H vs Q E hr h=>?_)
 ·obtain ⟨sc,r,l,ms,rfl,_⟩:=h;rfl
 ·obtain ⟨sc,r,l,ms,rfl,hw,⟨ok,pr,dx,d,rt,rfl,h1,h2,h3⟩,hl,hm,q⟩:=h
  refine ⟨_,(Ai (Aw (Aj B7 (Aj B7 (Aj B7 (Av AA (Af 1) Ac AR) (AS (Aa (Am (Aa Ag Ab)) Ab))) (Av AA (Af 1) Ac AR)) (AS (Aa (Am (Aa Ag (Aa Ac Ab))) Ab))))),?_⟩
  have NP:=ok.small
  obtain ⟨e,xs,ps,h⟩:=sc
  have hw:EM λx a b=>e=.lt x a b:=hw
  obtain ⟨x,a,b,rfl⟩:=hw
  obtain ⟨m1,m2,rfl,⟨l1,c1,rfl,KY,GZ⟩,⟨l2,c2,rfl,Hk,Iq⟩⟩:=DB hm
  have o1:c1.length<=3 * a.sz:=GZ.len
  have o2:c2.length<=3 * b.sz:=Iq.len
  simp only [Ex.sz] at NP
  left
  refine AX (AZ.of hl) (v:=.ref l1) rfl ?_
  left
  intros p1 H1 s1 e1
  left
  refine Bz (BB (Nat.le_of_ble_eq_true rfl)) λp2 H2 L' s2 e2=>?_
  have Cq:=s1.trans s2
  refine Be (KY.mono Cq) (Dl (s:=.lt) (s2 _ _ e1) e2) (by simp;omega) λp3 H3 PX s3 c3=>?_
  left
  have Et:=Cq.trans s3
  refine AX (AZ.of (Et _ _ hl)) (v:=.ref l2) rfl ?_
  refine Be c3 (Hk.mono Et) (by simp;omega) λp4 H4 OW s4 c4=>?_
  left
  intros p5 H5 s5 e5
  left
  refine Bz (BB (Nat.le_of_ble_eq_true rfl)) λp6 H6 mH s6 e6=>?_
  refine Be (c4.mono (s5.trans s6)) (Dl (s:=.drop 1) (s6 _ _ e5) e6) (by simp;omega) λp7 H7 yu s7 c7=>?_
  have sA:=Et.trans (s4.trans (s5.trans s6))
  refine q p7 _ H7 (sA.trans s7) (sA.free yu) c7 ⟨λz hz=>?_,?_,?_⟩
  ·simp only [List.mem_append,List.mem_singleton] at hz
   rcases hz with ((hz | rfl) | hz) | rfl
   ·exact GZ.ok z hz
   ·trivial
   ·exact Iq.ok z hz
   ·trivial
  ·have n1:Dp c1<=a.np:=GZ.np
   have n2:Dp c2<=b.np:=Iq.np
   rw [Ba,Ba,Ba]
   simp only [Dp,MS.pl,Ex.np];omega
  ·simp [Ex.sz];omega
theorem qO:Ar ["scope","codes"] ["scope","codes"] (Ad BO):=nofun
theorem VH {f C:Addr}{fd:FuncData}(F:Ck K "code_of_open" "code_of_open" BO f fd)(T:FU K mg C):AI Pr w K mg base BR 1 f fd ["scope","codes"] (Bl C λe=>Lu λa x y b=>e=.opn a x y b):=by
 refine F.okS qO (λvs H Q E h=>?_) (λBo A outer s H vs Q E hr h=>?_)
 ·obtain ⟨sc,r,l,ms,rfl,_⟩:=h;rfl
 ·obtain ⟨sc,r,l,ms,rfl,hw,⟨ok,pr,dx,d,rt,rfl,h1,h2,h3⟩,hl,hm,q⟩:=h
  refine ⟨_,(Ai (Aw (Aj B7 (Aj B7 (Aj B7 (Av AA (Af 1) Ac AR) (AS (Aa (Am (Aa Ag Ab)) Ab))) (Av AA (Af 1) Ac AR)) (AS (Aa (Am (Aa Ag (Aa Ac Ab))) Ab))))),?_⟩
  have NP:=ok.small
  obtain ⟨e,xs,ps,h⟩:=sc
  have hw:Lu λa x y b=>e=.opn a x y b:=hw
  obtain ⟨a,x,y,b,rfl⟩:=hw
  obtain ⟨m1,m2,rfl,⟨l1,c1,rfl,KY,GZ⟩,⟨l2,c2,rfl,Hk,Iq⟩⟩:=DB hm
  have o1:c1.length<=3 * a.sz:=GZ.len
  have o2:c2.length<=3 * b.sz:=Iq.len
  simp only [Ex.sz] at NP
  left
  refine AX (AZ.of hl) (v:=.ref l1) rfl ?_
  left
  intros p1 H1 s1 e1
  left
  refine Bz (BB (Nat.le_of_ble_eq_true rfl)) λp2 H2 L' s2 e2=>?_
  have Cq:=s1.trans s2
  refine Be (KY.mono Cq) (Dl (s:=.opn) (s2 _ _ e1) e2) (by simp;omega) λp3 H3 PX s3 c3=>?_
  left
  have Et:=Cq.trans s3
  refine AX (AZ.of (Et _ _ hl)) (v:=.ref l2) rfl ?_
  refine Be c3 (Hk.mono Et) (by simp;omega) λp4 H4 OW s4 c4=>?_
  left
  intros p5 H5 s5 e5
  left
  refine Bz (BB (Nat.le_of_ble_eq_true rfl)) λp6 H6 mH s6 e6=>?_
  refine Be (c4.mono (s5.trans s6)) (Dl (s:=.drop 2) (s6 _ _ e5) e6) (by simp;omega) λp7 H7 yu s7 c7=>?_
  have sA:=Et.trans (s4.trans (s5.trans s6))
  refine q p7 _ H7 (sA.trans s7) (sA.free yu) c7 ⟨λz hz=>?_,?_,?_⟩
  ·simp only [List.mem_append,List.mem_singleton] at hz
   rcases hz with ((hz | rfl) | hz) | rfl
   ·exact GZ.ok z hz
   ·trivial
   ·exact Iq.ok z hz
   ·trivial
  ·have n1:Dp c1<=a.np:=GZ.np
   have n2:Dp c2<=b.np:=Iq.np
   rw [Ba,Ba,Ba]
   simp only [Dp,MS.pl,Ex.np];omega
  ·simp [Ex.sz];omega
theorem qP:Ar ["scope","codes","second"] ["scope","codes"] (Ad BP):=nofun
theorem dh {f C:Addr}{fd:FuncData}(F:Ck K "code_of_when" "code_of_when" BP f fd)(T:FU K mg C)(B1:mg "len"=none):AI Pr w K mg base BR 1 f fd ["scope","codes"] (Bl C λe=>EM λa b c=>e=.wh a b c):=by
 refine F.okS qP (λvs H Q E h=>?_) (λBo A outer s H vs Q E hr h=>?_)
 ·obtain ⟨sc,r,l,ms,rfl,_⟩:=h;rfl
 ·obtain ⟨sc,r,l,ms,rfl,hw,⟨ok,pr,dx,d,rt,rfl,h1,h2,h3⟩,hl,hm,q⟩:=h
  refine ⟨_,(Ae (Ax (i:=2) qP.nd rfl (.inl rfl) (Aj B7 (Av AA (Af 1) Ac AR) (AS (Aa (Am (Aa Ag (Aa (AU AG (by rfl) B1 PySem.boot_len (Aa (Av AA (Af 1) Ac AR) Ab)) Ab))) Ab))))
   (Ai (Aw (Aj B7 (Aj B7 (Aj B7 (Av AA (Af 1) Ac AR) (AS (Aa (Am (Aa Ag (Aa (AU AG (by rfl) B1 PySem.boot_len (Aa (Af 2) Ab)) Ab))) Ab))) (Af 2)) (Av AA (Af 1) Ac AR))))),?_⟩
  have NP:=ok.small
  obtain ⟨e,xs,ps,h⟩:=sc
  have hw:EM λa b c=>e=.wh a b c:=hw
  obtain ⟨a,b,c,rfl⟩:=hw
  obtain ⟨m1,m2,m3,rfl,⟨l1,c1,rfl,KY,GZ⟩,⟨l2,c2,rfl,Hk,Iq⟩,⟨l3,c3,rfl,yv,di⟩⟩:=Nu hm
  have o1:c1.length<=3 * a.sz:=GZ.len
  have o2:c2.length<=3 * b.sz:=Iq.len
  have o3:c3.length<=3 * c.sz:=di.len
  simp only [Ex.sz] at NP
  obtain ⟨zV,hv3,PX⟩:=id yv
  left
  refine AX (AZ.of hl) (v:=.ref l2) rfl ?_
  left
  refine AX (AZ.of hl) (v:=.ref l3) rfl ?_
  left
  refine ⟨l3,zV,rfl,.inl (AZ.of hv3),?_⟩
  left
  intros p1 H1 s1 e1
  left
  refine Bz (BB (Nat.le_of_ble_eq_true rfl)) λp2 H2 L' s2 e2=>?_
  have Cq:=s1.trans s2
  refine Be (Hk.mono Cq) (Dl (s:=.jump zV.length) (s2 _ _ e1) e2) (by simp;omega) λp3 H3 PX s3 c4=>?_
  left
  have Et:=Cq.trans s3
  refine AX (AZ.of (Et _ _ hl)) (v:=.ref l1) rfl ?_
  left
  obtain ⟨vs4,hv4,OW⟩:=id c4
  refine ⟨p3,vs4,rfl,.inl (AZ.of hv4),?_⟩
  left
  intros p4 H4 s4 e4
  left
  refine Bz (BB (Nat.le_of_ble_eq_true rfl)) λp5 H5 TY s5 e5=>?_
  have Y4:=s4.trans s5
  have Fs:=Et.trans Y4
  refine Be (KY.mono Fs) (Dl (s:=.wh vs4.length) (s5 _ _ e4) e5) (by simp;omega) λp6 H6 mH s6 c6=>?_
  left
  refine Be c6 (c4.mono (Y4.trans s6)) (by simp;omega) λp7 H7 yu s7 c7=>?_
  left
  have T':=Fs.trans (s6.trans s7)
  refine AX (AZ.of (T' _ _ hl)) (v:=.ref l3) rfl ?_
  refine Be c7 (yv.mono T') (by simp;omega) λp8 H8 hp8 s8 c8=>?_
  refine q p8 _ H8 (T'.trans s8) (T'.free hp8) c8 ⟨λz hz=>?_,?_,?_⟩
  ·simp only [List.mem_append,List.mem_singleton] at hz
   rcases hz with ((hz | rfl) | (hz | rfl)) | hz
   ·exact GZ.ok z hz
   ·trivial
   ·exact Iq.ok z hz
   ·trivial
   ·exact di.ok z hz
  ·have n1:Dp c1<=a.np:=GZ.np
   have n2:Dp c2<=b.np:=Iq.np
   have n3:Dp c3<=c.np:=di.np
   rw [Ba,Ba,Ba,Ba]
   simp only [Dp,MS.pl,Ex.np];omega
  ·simp [Ex.sz];omega
theorem RY:Ar ["scope","codes","last","second"] ["scope","codes"] (Ad BE):=nofun
theorem VI {f C:Addr}{fd:FuncData}(F:Ck K "code_of_split" "code_of_split" BE f fd)(T:FU K mg C)(B1:mg "len"=none):AI Pr w K mg base BR 1 f fd ["scope","codes"] (Bl C λe=>U0 λa b x y c=>e=.spl a b x y c):=by
 refine F.okS RY (λvs H Q E h=>?_) (λBo A outer s H vs Q E hr h=>?_)
 ·obtain ⟨sc,r,l,ms,rfl,_⟩:=h;rfl
 ·obtain ⟨sc,r,l,ms,rfl,hw,⟨ok,pr,dx,d,rt,rfl,h1,h2,h3⟩,hl,hm,q⟩:=h
  refine ⟨_,(Ae (Ax (i:=2) RY.nd rfl (.inl rfl) (Aj B7 (Av AA (Af 1) Ac AR) (AS (Aa (Am (Aa Ag (Aa Ac Ab))) Ab))))
   (Ae (Ax (i:=3) RY.nd rfl (.inl rfl) (Aj B7 (Av AA (Af 1) Ac AR) (AS (Aa (Am (Aa Ag (Aa (AU AG (by rfl) B1 PySem.boot_len (Aa (Af 2) Ab)) Ab))) Ab))))
   (Ai (Aw (Aj B7 (Aj B7 (Aj B7 (Av AA (Af 1) Ac AR) (AS (Aa (Am (Aa Ag (Aa (AU AG (by rfl) B1 PySem.boot_len (Aa (Af 3) Ab)) Ab))) Ab))) (Af 3)) (Af 2)))))),?_⟩
  have NP:=ok.small
  obtain ⟨e,xs,ps,h⟩:=sc
  have hw:U0 λa b x y c=>e=.spl a b x y c:=hw
  obtain ⟨a,b,x,y,c,rfl⟩:=hw
  obtain ⟨m1,m2,m3,rfl,⟨l1,c1,rfl,KY,GZ⟩,⟨l2,c2,rfl,Hk,Iq⟩,⟨l3,c3,rfl,yv,di⟩⟩:=Nu hm
  have o1:c1.length<=3 * a.sz:=GZ.len
  have o2:c2.length<=3 * b.sz:=Iq.len
  have o3:c3.length<=3 * c.sz:=di.len
  simp only [Ex.sz] at NP
  left
  refine AX (AZ.of hl) (v:=.ref l3) rfl ?_
  left
  intros p1 H1 s1 e1
  left
  refine Bz (BB (Nat.le_of_ble_eq_true rfl)) λp2 H2 L' s2 e2=>?_
  have Cq:=s1.trans s2
  refine Be (yv.mono Cq) (Dl (s:=.drop 2) (s2 _ _ e1) e2) (by simp;omega) λp3 H3 PX s3 c5=>?_
  left
  have Et:=Cq.trans s3
  refine AX (AZ.of (Et _ _ hl)) (v:=.ref l2) rfl ?_
  left
  obtain ⟨vs5,hv5,TY⟩:=id c5
  refine ⟨p3,vs5,rfl,.inl (AZ.of hv5),?_⟩
  left
  intros p4 H4 s4 e4
  left
  refine Bz (BB (Nat.le_of_ble_eq_true rfl)) λp5 H5 TY s5 e5=>?_
  have Y4:=s4.trans s5
  have Fs:=Et.trans Y4
  refine Be (Hk.mono Fs) (Dl (s:=.jump vs5.length) (s5 _ _ e4) e5) (by simp;omega) λp6 H6 mH s6 c6=>?_
  left
  have yw:=Fs.trans s6
  refine AX (AZ.of (yw _ _ hl)) (v:=.ref l1) rfl ?_
  left
  obtain ⟨vs6,hv6,Azb⟩:=id c6
  refine ⟨p6,vs6,rfl,.inl (AZ.of hv6),?_⟩
  left
  intros p7 H7 s7 e7
  left
  refine Bz (BB (Nat.le_of_ble_eq_true rfl)) λp8 H8 hp8 s8 e8=>?_
  have s68:=s7.trans s8
  have s08:=yw.trans s68
  refine Be (KY.mono s08) (Dl (s:=.spl vs6.length) (s8 _ _ e7) e8) (by simp;omega) λp9 H9 hp9 s9 c9=>?_
  left
  refine Be c9 (c6.mono (s68.trans s9)) (by simp;omega) λp10 IF qw De qu=>?_
  left
  refine Be qu (c5.mono (Y4.trans (s6.trans (s68.trans (s9.trans De))))) (by simp;omega) λyx FT Acr CL c11=>?_
  have qQ:=s08.trans (s9.trans De)
  refine q yx _ FT (qQ.trans CL) (qQ.free Acr) c11 ⟨λz hz=>?_,?_,?_⟩
  ·simp only [List.mem_append,List.mem_singleton] at hz
   rcases hz with ((hz | rfl) | (hz | rfl)) | (hz | rfl)
   ·exact GZ.ok z hz
   ·trivial
   ·exact Iq.ok z hz
   ·trivial
   ·exact di.ok z hz
   ·trivial
  ·have n1:Dp c1<=a.np:=GZ.np
   have n2:Dp c2<=b.np:=Iq.np
   have n3:Dp c3<=c.np:=di.np
   rw [Ba,Ba,Ba,Ba,Ba]
   simp only [Dp,MS.pl,Ex.np];omega
  ·simp [Ex.sz];omega
noncomputable def qR (C:Addr):List (Str × Sp) :=
 [("name",Bl C λe=>∃ x,e=.nm x),("number",Bl C λe=>(∃ i,e=.num i)\/(∃ b,e=.tru b)\/e=.emp),("truth",Bl C λe=>(∃ i,e=.num i)\/(∃ b,e=.tru b)\/e=.emp),("empty",Bl C λe=>(∃ i,e=.num i)\/(∃ b,e=.tru b)\/e=.emp),
  ("fun",Bl C λe=>(Dn λx b=>e=.fn x b)\/EM λf x b=>e=.rc f x b),("rec",Bl C λe=>(Dn λx b=>e=.fn x b)\/EM λf x b=>e=.rc f x b),("call",Bl C λe=>(Dn λa b=>e=.cal a b)\/(Dn λa b=>e=.pr a b)\/Dn λa b=>e=.lk a b),("let",Bl C λe=>EM λx a b=>e=.lt x a b),
  ("when",Bl C λe=>EM λa b c=>e=.wh a b c),("pair",Bl C λe=>(Dn λa b=>e=.cal a b)\/(Dn λa b=>e=.pr a b)\/Dn λa b=>e=.lk a b),("open",Bl C λe=>Lu λa x y b=>e=.opn a x y b),("link",Bl C λe=>(Dn λa b=>e=.cal a b)\/(Dn λa b=>e=.pr a b)\/Dn λa b=>e=.lk a b),
  ("split",Bl C λe=>U0 λa b x y c=>e=.spl a b x y c),("op",Bl C λe=>EM λo a b=>e=.op o a b)]
theorem memC {α:Type}{l:List α}{x:α}(i:Nat)(h:l[i]?=some x):x∈l:=List.mem_of_getElem? h
theorem Acu (C:Addr):∀ e:Ex,∃ W:Ex->Prop,(e.wd,Bl C W)∈qR C/\W e
 | .nm x=>⟨_,memC 0 rfl,x,rfl⟩
 | .num i=>⟨_,memC 1 rfl,.inl ⟨i,rfl⟩⟩
 | .tru b=>⟨_,memC 2 rfl,.inr (.inl ⟨b,rfl⟩)⟩
 | .emp=>⟨_,memC 3 rfl,.inr (.inr rfl)⟩
 | .fn x b=>⟨_,memC 4 rfl,.inl ⟨x,b,rfl⟩⟩
 | .rc f x b=>⟨_,memC 5 rfl,.inr ⟨f,x,b,rfl⟩⟩
 | .cal a b=>⟨_,memC 6 rfl,.inl ⟨a,b,rfl⟩⟩
 | .lt x a b=>⟨_,memC 7 rfl,x,a,b,rfl⟩
 | .wh a b c=>⟨_,memC 8 rfl,a,b,c,rfl⟩
 | .pr a b=>⟨_,memC 9 rfl,.inr (.inl ⟨a,b,rfl⟩)⟩
 | .opn a x y b=>⟨_,memC 10 rfl,a,x,y,b,rfl⟩
 | .lk a b=>⟨_,memC 11 rfl,.inr (.inr ⟨a,b,rfl⟩)⟩
 | .spl a b x y c=>⟨_,memC 12 rfl,a,b,x,y,c,rfl⟩
 | .op o a b=>⟨_,memC 13 rfl,o,a,b,rfl⟩
theorem Acv:Ar ["scope","codes"] ["scope","codes"] (Ad Dx):=nofun
theorem qT {f C mL:Addr}{fd:FuncData}{rows:List (Str × Value)}(F:Ck K "code_of" "code_of" Dx f fd)(T:FU K mg C)(kd:F5 w K mL rows)(mRC:mg "RULES_compiling"=some (.ref mL))(KR:FN Pr w K mg base BR 1 ["scope","codes"] rows (qR C)):
  AI Pr w K mg base BR 2 f fd ["scope","codes"] (Bl C λ_=>True):=by
 refine F.okS Acv (λvs H Q E h=>?_) (λBo A outer s H vs Q E hr h=>?_)
 ·obtain ⟨sc,r,l,ms,rfl,_⟩:=h;rfl
 ·obtain ⟨sc,r,l,ms,rfl,_,hs,hl,hm,q⟩:=h
  refine ⟨_,(Ai (Aw (Nt kd KR He hr rfl mRC (Av Al (By (Af 0)) Ac AR) AR (Aa (Af 0) (Aa (Af 1) Ab))))),?_⟩
  obtain ⟨ok,pr,dx,d,rt,rfl,h1,h2,h3⟩:=id hs
  obtain ⟨pt,us,rfl,E4,_⟩:=h2.look
  obtain ⟨W,hW,hw⟩:=Acu C sc.e
  left
  refine ⟨pr,C,dx,_,_,rfl,h1,T.cl,T.nT,rfl,?_⟩
  left
  refine Ah (AJ.of E4) (v:=.str sc.e.wd) (Au (j:=0) rfl) ?_
  refine ⟨_,_,rfl,hW,?_⟩
  left
  exact ⟨sc,.ref pr,l,ms,rfl,hw,hs,hl,hm,q⟩
noncomputable def dj (pl:Addr)(H:Hp)(s:Sc)(m:V):Prop:=Dn λl code=>m=.ref l/\l≠pl/\FZ H l code/\oW code s.e.np s.e.sz
theorem dj.mono {pl:Addr}{H H':Hp}(t:NL H H')(b:Hi [pl] H H'){s:Sc}{m:V}(h:dj pl H s m):dj pl H' s m:=by
 obtain ⟨l,code,h1,h2,⟨vs,h3,h4⟩,h5⟩:=h
 exact ⟨l,code,h1,h2,⟨vs,b _ _ h3 (by simpa using h2),Paired.mapP h4 λ_ _ z=>z.mono t.tsub⟩,h5⟩
inductive Gm (C fP fm:Addr)(vs:(List V))(H:Hp)(Q:VK)(z3:XK):Prop
 | mk (sc:Sc) (v:V) (h1:vs=[v,.ref fP,.ref fm]) (h2:Eu C H sc v) (h3:∀ l code H',An H H'->FZ H' l code->oW code sc.e.np sc.e.sz->Q (.ref l) H'):Gm C fP fm vs H Q z3
theorem RZ:Ar ["top","parts_of","make","pile","one","parts","made"] ["top","parts_of","make"] (Ad EH):=nofun
theorem qU {f fP fm C:Addr}{fd fdM:FuncData}(F:Ck K "built" "built" EH f fd)(FV:mg "reversed"=none)(cA:Cl Pr w K mg base 5 "all_within" ["top","parts_of"] (K4 C fP))
  (GM:AI Pr w K mg base BR 2 fm fdM ["scope","codes"] (Bl C λ_=>True)) (bM:Binds K fdM ["scope","codes"] []) (kM:W.keepIn K (.ref fm)=true) :
  AI Pr w K mg base BR 6 f fd ["top","parts_of","make"] (Gm C fP fm):=by
 refine F.okS RZ (λvs H Q E h=>?_) (λBo A outer s H vs Q E hr h=>?_)
 ·obtain ⟨sc,v,rfl,_⟩:=h;rfl
 ·obtain ⟨sc,v,rfl,ht,k⟩:=h
  have FA:AY 2 _:=hr.mono ()
  have Sc0:BG (DE BR Pr w K mg base ["top","parts_of","make","pile","one","parts","made"] "built" (Ad EH) f Bo A outer s H E).nox (CH (valueOf (oF (inDef EH 1) 0))) [("pile",s.heap.objs.size+1)] ["part"] ["pile"] [3] :=
   ⟨rfl,by decide +kernel,rfl,by decide +kernel,rfl,rfl,rfl,rfl⟩
  have IS:(["part","pile"]:List Str).Nodup:=by decide +kernel
  refine ⟨_,(Ae (Ax (i:=3) RZ.nd rfl (.inr rfl) (AS Ab))
   (Ae (QV PassesOwn.never rfl (ou rfl FV (Aa (B3 cA hr rfl (Aa (Af 0) (Aa (Af 1) Ab))) Ab)) (Kz rfl (Dz (C1 (i:=4) RZ.nd rfl (.inl rfl)) (Dz (C1 (i:=5) RZ.nd rfl (.inl rfl)) Ic))) (Ae (GR (i:=6) RZ.nd rfl (.inl rfl) (tt:=IK) (te:=UA K "list" ZO (Bw 1)) Sc0 rfl (FI (Af 5)) (λC s0 H0 ex=>C1 (i:=0) IS rfl (.inl rfl)) (λ_ _ _ _=>Fz) (λC s0 H0 ex=>Jh PySem.F.plainAttrs_list PySem.F.slot_list_pop PySem.F.type_list_pop GG (Af 1))) (Ai (BS (Oz PySem.F.plainAttrs_list PySem.F.slot_list_append PySem.F.type_list_append Em (Af 3) (Aa (Nq GM FA bM (i:=2) rfl (.inl rfl) (Aa (Af 4) (Aa (Af 6) Ab))) Ab))))))
   (Ai (Aw (Jh PySem.F.plainAttrs_list PySem.F.slot_list_pop PySem.F.type_list_pop GG (Af 3)))))),?_⟩
  have hs:=Sc.kids_sz
  have NP:sc.sz<=1500:=by have:=ht.1.small;show sc.e.sz<=1500;omega
  left
  refine Bz (BB ⟨⟩) λpl H1 Dc s1 e1=>?_
  left
  refine ⟨sc,v,rfl,ht.mono (NL.of_same s1),λla us H2 s2 qV hla kus=>?_⟩
  refine ⟨la,us,rfl,AZ.of hla,?_⟩
  have hP:=KG.P_one hs sc
  have hn:us.length=sc.sz:=by rw [<- hP];exact (Paired.length kus).symm
  have GO:=KG.sz_pos hs sc
  have yy:la≠pl:=λz=>by rw [z,e1] at qV;cases qV
  have Cq:=s1.trans s2
  have hFo:KG.Fo Sc.kids [sc] us.length=[]:=by
   have:=KG.Fo_end hs [sc]
   rw [show KG.szs Sc.sz [sc]=us.length by rw [hn];simp [KG.szs]] at this
   exact this
  refine UQ (K:=K) (a:=la) (xs:=us) (λi σ H2=>Lu λps pt pp md=>σ=[some v,some (.ref fP),some (.ref fm),some (.ref pl),pt,pp,md]/\An H H2/\H2 la=some (.lst us)/\Paired (ME C [pl] H1 H2) (KG.P Sc.kids Sc.sz [sc]) us/\H2 pl=some (.lst ps)/\Paired (dj pl H2) (KG.Fo Sc.kids [sc] (us.length - i)) ps.reverse)
   ⟨[],none,none,none,rfl,Cq,hla,Paired.mapP kus (λ_ _ z=>by
    obtain ⟨p,q,x,ws,z1,z2,z3,z4,z5,z6,z7⟩:=z
    exact ⟨p,q,x,ws,z1,z2,z3,z4,z5,(λy=>by rw [List.mem_singleton.mp y,e1] at z7;cases z7),z7⟩),s2 _ _ e1,by rw [Nat.sub_zero,hFo];exact .nil⟩ (λi σ H2 _ q=>?_) (λi x σ H2 hx q=>?_) (fun σ H2 q=>?_)
  ·obtain ⟨ps,pt,pp,md,rfl,_,VJ,_⟩:=q
   exact AZ.of VJ
  ·obtain ⟨ps,pt,pp,md,rfl,sm,VJ,dm,hp,pr⟩:=q
   have hi:i < us.length:=by
    have:=(List.getElem?_eq_some_iff.mp hx).1
    simpa using this
   rw [List.getElem?_reverse hi] at hx
   obtain ⟨d,hd,kx⟩:=Paired.at dm hx
   obtain ⟨r,f1,f2⟩:=KG.Fo_step hs hd
   have ej:us.length - 1 - i+1=us.length - i:=by omega
   rw [ej] at f2
   rw [f2] at pr
   obtain ⟨ms,rest,Xw,pm,Y5⟩:=Paired.split pr
   have qW:ms.length=(Sc.kids d).length:=(Paired.length pm).symm
   have hdz:(Sc.kids d).length < sc.sz:=by
    have h1:=KG.kids_len hs d
    have h2:=KG.P_mem_sz hs _ [sc] d rfl (List.mem_of_getElem? hd)
    simp [KG.szs] at h2
    omega
   obtain ⟨p,q,x,TR,rfl,TU,kx,hq,kq,hqp,_⟩:=kx
   have hqp:q≠pl:=by simpa using hqp
   have yr:TR.length=ms.length:=by rw [qW];exact (Paired.length kq).symm
   refine ⟨p,_,rfl,AJ.of TU,rfl,_,_,rfl,_,_,rfl,rfl,?_⟩
   left
   refine ⟨q,rfl,⟨_,AZ.of hq⟩,?_⟩
   refine Ga (K:=K) (a:=q) (xs:=TR) (λj ys H3=>ys=ms.take j/\H3 pl=some (.lst ((ms.drop j++rest).reverse))/\∀ b,b≠pl->H3 b=H2 b) ⟨rfl,?_,λ_ _=>rfl⟩ (λj ys H3 z=>?_) (by exact DI ()) (λj ys H3 z=>?_) rfl (λj x' ys H3 VE z=>?_) (λys H3 z=>?_)
   ·rw [hp,List.drop_zero,<- Xw,List.reverse_reverse]
   ·refine AZ.of ?_
    rw [z.2.2 _ hqp];exact hq
   ·rw [z.1];exact List.length_take_le _ _
   ·obtain ⟨Vl,Y3,yz⟩:=z
    have Xx:j < ms.length:=by
     have:=(List.getElem?_eq_some_iff.mp VE).1
     omega
    have Y6:ms.drop j++rest=ms[j]::(ms.drop (j+1)++rest):=by rw [List.drop_eq_getElem_cons Xx];rfl
    left
    refine Dm ?_
    left
    refine ⟨.inl ⟨rfl,_,AZ.of Y3⟩,pl,_,ms[j],rfl,rfl,Y3,by rw [Y6];exact rev_last _ _,?_⟩
    refine Nx.mk () ⟨?_,?_,λb hb=>?_⟩
    ·rw [Vl,List.take_succ,List.getElem?_eq_getElem Xx];rfl
    ·rw [Ap,Y6];simp
    ·rw [Aq hb];exact yz b hb
   ·obtain ⟨Vl,Y3,yz⟩:=z
    have ety:ys=ms:=by rw [Vl,yr,List.take_length]
    have ed:ms.drop TR.length=[]:=by rw [yr,List.drop_length]
    rw [ed,List.nil_append] at Y3
    refine Bz (Nat.zero_le _) λa H4 ha s4 e4=>?_
    have dn:Hi [pl] H2 H4:=λb o e n=>s4 _ _ (by rw [yz b (by simpa using n)];exact e)
    have dq:NL H2 H4:=λb o e n=>by
     by_cases hb:b=pl
     ·subst hb;rw [hp] at e;exact absurd (Option.some.inj e).symm (n _)
     ·exact s4 _ _ (by rw [yz b hb];exact e)
    have sm4:An H H4:=λb o e=>dn b o (sm b o e) (by simp;exact AF e Dc)
    have dr:=s4 _ _ Y3
    have npa:pl≠a:=AF Y3 ha
    left
    refine ⟨.inl ⟨rfl,_,AZ.of dr⟩,?_⟩
    left
    subst ety
    refine ⟨rfl,.inl kM,_,rfl,_,rfl,.inl kM,d,x,a,_,rfl,trivial,kx.mono dq,e4,Paired.mapP pm (λ_ _ z=>by
     obtain ⟨l,code,z1,z2,z3,z4⟩:=z.mono dq dn
     exact ⟨l,code,z1,z3,z4⟩),λlr code H5 s5 hlr c5 ok5=>?_⟩
    have hrl:rest.length<=sc.sz:=by
     have h1:=KG.Fo_size hs (us.length - 1 - i) [sc]
     have h2:=KG.szs_len hs (KG.Fo Sc.kids [sc] (us.length - 1 - i))
     rw [f1] at h1 h2
     have h3:rest.length=r.length:=(Paired.length Y5).symm
     simp [KG.szs] at h1 h2
     omega
    have TY:H5 pl=some (.lst rest.reverse):=s5 _ _ dr
    refine ⟨pl,rest.reverse,.ref lr,rfl,rfl,TY,by rw [List.length_reverse];exact DI (),?_⟩
    have qX:NL H5 (upd H5 pl (.lst (rest.reverse++[.ref lr]))):=NL.put TY
    have qY:Hi [pl] H5 (upd H5 pl (.lst (rest.reverse++[.ref lr]))):=Hi.put (by simp)
    have qZ:=dq.trans ((NL.of_same s5).trans qX)
    have du:=dn.trans ((Hi.of_same s5).trans qY)
    have nlr:lr≠pl:=λz=>by rw [z,dr] at hlr;cases hlr
    refine ⟨rest.reverse++[.ref lr],_,_,_,rfl,An.put (sm4.trans s5) Dc,?_,Paired.mapP dm λ_ _ z=>z.mono qZ du,Ap,?_⟩
    ·exact du _ _ VJ (by simpa using yy)
    ·have e5:us.length - (i+1)=us.length - 1 - i:=by omega
     rw [e5,f1]
     have e6:(rest.reverse++[V.ref lr]).reverse=.ref lr::rest:=by simp
     rw [e6]
     refine .cons (dj.mono qX qY ⟨lr,code,rfl,nlr,c5,ok5⟩) (Paired.mapP Y5 λ_ _ z=>z.mono qZ du)
  ·obtain ⟨ps,pt,pp,md,rfl,sm,VJ,dm,hp,pr⟩:=q
   rw [Nat.sub_self] at pr
   have pr:Paired (dj pl H2) [sc] ps.reverse:=pr
   obtain ⟨r,Xw,l,code,rfl,nl,c1,o1⟩:=DV pr
   have Xw:ps=[.ref l]:=by
    have:=congrArg List.reverse Xw
    simpa using this
   subst Xw
   left
   refine ⟨.inl ⟨rfl,_,AZ.of hp⟩,pl,_,.ref l,rfl,rfl,hp,rfl,?_⟩
   obtain ⟨l',rd,e',_,c2,o2⟩:=dj.mono (NL.put (ys:=([V.ref l]:List V).dropLast) hp) (Hi.put (by simp)) ⟨l,code,rfl,nl,c1,o1⟩
   cases e'
   exact k l rd _ (An.put sm Dc) c2 o2
inductive EK (vs:(List V))(H:Hp)(Q:VK)(z3:XK):Prop
 | mk (e:Ex) (re:V) (h1:vs=[re]) (h2:Br H e re) (h3:e.cl []) (h4:e.opk) (h5:e.sz<=1500) (h6:∀ l code H',An H H'->FZ H' l (code++[.fin])->oW code e.np e.sz->Q (.ref l) H'):EK vs H Q z3
theorem Acy:Ar ["tree"] ["tree"] (Ad D6):=nofun
theorem rh {f C fi fP fm:Addr}{fd XQ:FuncData}(F:Ck K "compiled" "compiled" D6 f fd)(T:FU K mg C)(MS:Mk K C fi)(GI:AI Pr w K mg base BR 1 fi XQ ["self","tree","places","held"] (Fm C))(bI:Binds K XQ ["self","tree","places","held"] [])
  (cB:Cl Pr w K mg base 6 "built" ["top","parts_of","make"] (Gm C fP fm)) (mIS:mg "inner_scopes"=some (.ref fP)) (mCO:mg "code_of"=some (.ref fm)):AI Pr w K mg base BR 7 f fd ["tree"] EK:=by
 refine F.okS Acy (λvs H Q E h=>?_) (λBo A outer s H vs Q E hr h=>?_)
 ·obtain ⟨e,re,rfl,_⟩:=h;rfl
 ·obtain ⟨e,re,rfl,he,hc,ho,hz,q⟩:=h
  have FA:AY 2 _:=hr.mono ()
  refine ⟨_,(Ai (Aw (Aj B7 (B3 cB hr rfl (Aa (JX MS GI bI T.mC FA rfl (Aa (Af 0) (Aa ai (Aa Ac Ab)))) (Aa (Rg rfl mIS) (Aa (Rg rfl mCO) Ab)))) (AS (Aa (Am (Aa Ag Ab)) Ab))))),?_⟩
  left
  refine λpd yq=>?_
  have s1:An H (upd H pd (.dK [])):=An.new yq
  have e1:(upd H pd (.dK [])) pd=some (.dK []):=Ap
  generalize upd H pd (.dK [])=H1 at s1 e1 ⊢
  left
  refine GY λp dx H2 hp s2 e2=>?_
  left
  refine ⟨⟨e,[],[],0⟩,.ref p,rfl,⟨⟨hc,ho,(λx hx=>by cases hx),Nat.le_refl _,(by show 0+2 * e.sz<=3000;omega)⟩,p,dx,pd,re,rfl,e2,Br.mono (Ay.of_same (s1.trans s2)) he,s2 _ _ e1⟩,λl code H3 s3 c3 o3=>?_⟩
  left
  intros p4 H4 s4 e4
  left
  refine Bz (BB (Nat.le_of_ble_eq_true rfl)) λp5 H5 TY s5 e5=>?_
  have l3:code.length<=3 * e.sz:=o3.len
  refine Be (c3.mono (s4.trans s5)) (Dl (s:=.fin) (s5 _ _ e4) e5) (by simp;omega) λp6 H6 mH s6 c6=>?_
  exact q p6 code H6 (s1.trans (s2.trans (s3.trans (s4.trans (s5.trans s6))))) c6 o3
noncomputable def R':Kd->Prop
 | .num | .tru=>True
 | .gap _=>False
 | .ls a=>R' a
 | .fn a b=>R' a/\R' b
 | .pr a b=>R' a/\R' b
inductive DJ (K:W.Frag)(n:Nat)(vs:(List V))(H:Hp)(Q:VK)(z3:XK):Prop
 | mk (a:Addr) (ns:List Int) (k:Int) (j:Nat) (h1:vs=[.ref a,.int k,.int j]) (h2:j<=n) (h3:AZ K H a (ns.map V.int)) (h4:∀ t r H',An H H'->BU H' t r->R' t->dp t<=j->Q r H'):DJ K n vs H Q z3
noncomputable def P1 (K:W.Frag):Nat->Sp
 | 0=>Mh
 | n+1=>DJ K n
theorem Ir:Ar ["_law_script","_law_k","_law_deep","_law_number","_law_word"] ["_law_script","_law_k","_law_deep"] (Ad BI):=nofun
theorem Iu {n:Nat}{f:Addr}{fd:FuncData}(F:Ck K "_law_ground" "_law_ground" BI f fd)
  (cM:Cl Pr w K mg base 2 "_law_mix" FD (DR K)) (cG:Cl Pr w K mg base (n+2) "_law_ground" ["_law_script","_law_k","_law_deep"] (P1 K n)) :
  AI Pr w K mg base BR (n+3) f fd ["_law_script","_law_k","_law_deep"] (DJ K n):=by
 refine F.okS Ir (λvs H Q E h=>?_) (λBo A outer s H vs Q E hr h=>?_)
 ·obtain ⟨a,ns,k,j,rfl,_⟩:=h;rfl
 ·obtain ⟨a,ns,k,j,rfl,hj,hs,q⟩:=h
  have FA:AY 2 _:=hr.mono ()
  refine ⟨_,(Ae (Ax (i:=3) Ir.nd rfl (.inl rfl) (B3 cM FA rfl (Aa (Af 0) (Aa (Af 1) Ab))))
   (Ae (B4 (ID (w_or (Az AO (Af 2) Ac (Ak _)) (Fy (Az DD (Aj AQ (Af 3) Ac) Ac (Ak _))))) (Ai (Aw (Av AA (AS (Aa (Am (Aa Ag Ab)) (Aa (Am (Aa Ag Ab)) Ab))) (Aj AQ (Aj B9 (Af 3) Ac) Ac) AR))) AK)
   (Ae (B4 (Az AO (Aj AQ (Af 3) Ac) Ac (Ak _)) (Ai (Aw (Am (Aa Ag (Aa (B3 cG hr rfl (Aa (Af 0) (Aa (Aj AW (Aj Bh Ac (Af 1)) Ac) (Aa (Aj Bx (Af 2) Ac) Ab)))) Ab))))) AK)
   (Ae (Ax (i:=4) Ir.nd rfl (.inl rfl) (Av AA (AS (Aa Ag (Aa Ag Ab))) (Aj AQ (Af 3) Ac) AR))
   (Ai (Aw (Am (Aa (Af 4) (Aa (B3 cG hr rfl (Aa (Af 0) (Aa (Aj AW (Aj Bh Ac (Af 1)) Ac) (Aa (Aj Bx (Af 2) Ac) Ab)))) (Aa (B3 cG hr rfl (Aa (Af 0) (Aa (Aj AW (Aj Bh Ac (Af 1)) Ac) (Aa (Aj Bx (Af 2) Ac) Ab)))) Ab)))))))))),?_⟩
  left
  refine ⟨a,ns,k,rfl,hs,λm hm=>?_⟩
  left
  refine m6 ?_ λh0 leaf=>?_
  ·left
   intros p1 H2 s2 e1
   left
   intros p2 H3 s3 e2
   left
   intros p3 H4 s4 e3
   left
   refine BH (AZ.of e3) (Int.emod_nonneg _ ⟨⟩) (Int.emod_lt_of_pos _ ⟨⟩) λv hv=>?_
   have st:=s2.trans (s3.trans s4)
   simp only [List.mem_cons,List.not_mem_nil,or_false] at hv
   rcases hv with rfl | rfl
   ·exact q .num _ _ st ⟨p1,rfl,s4 _ _ (s3 _ _ e1)⟩ trivial (Nat.zero_le _)
   ·exact q .tru _ _ st ⟨p2,rfl,s4 _ _ e2⟩ trivial (Nat.zero_le _)
  ·left
   refine Cu (λ_=>leaf) λ_=>?_
   cases j with
   | zero=>exact absurd (decide_eq_true rfl) h0
   | succ j =>
    obtain ⟨n,rfl⟩:∃ m,n=m+1:=⟨n - 1,()⟩
    left
    refine Cu (λ_=>?_) λ_=>?_
    ·left
     refine ⟨a,ns,_,j,by rw [KD],(),hs,λt r H1 s1 ha hg hd=>?_⟩
     left
     intros p H2 s2 e2
     exact q (.ls t) _ _ (s1.trans s2) ⟨p,r,rfl,e2,BU.mono (Ay.of_same s2) ha⟩ hg (by simp only [dp];omega)
    ·left
     intros l H1 s1 e1
     left
     refine BH (AZ.of e1) (Int.emod_nonneg _ ⟨⟩) (Int.emod_lt_of_pos _ ⟨⟩) λv hv=>?_
     left
     refine ⟨a,ns,_,j,by rw [KD],(),s1.seq hs,λt1 r1 H2 s2 ha1 hg1 dv=>?_⟩
     left
     refine ⟨a,ns,_,j,by rw [KD],(),(s1.trans s2).seq hs,λt2 r2 H3 s3 ha2 hg2 hd2=>?_⟩
     left
     intros p H4 s4 e4
     have st:=s1.trans (s2.trans (s3.trans s4))
     have k1:=BU.mono (Ay.of_same (s3.trans s4)) ha1
     have k2:=BU.mono (Ay.of_same s4) ha2
     simp only [List.mem_cons,List.not_mem_nil,or_false] at hv
     rcases hv with rfl | rfl
     ·exact q (.fn t1 t2) _ _ st ⟨p,r1,r2,rfl,e4,k1,k2⟩ ⟨hg1,hg2⟩ (by simp only [dp];omega)
     ·exact q (.pr t1 t2) _ _ st ⟨p,r1,r2,rfl,e4,k1,k2⟩ ⟨hg1,hg2⟩ (by simp only [dp];omega)
theorem Js {f:Addr}{fd:FuncData}(DG:Df K mg "_law_ground" BI ["_law_script","_law_k","_law_deep"] f fd)(cM:Cl Pr w K mg base 2 "_law_mix" FD (DR K)):
  ∀ n,Cl Pr w K mg base (n+3) "_law_ground" ["_law_script","_law_k","_law_deep"] (DJ K n)
 | 0=>DG.cl (Iu (n:=0) DG.F cM (DG.cl Ia))
 | n+1=>DG.cl (Iu (n:=n+1) DG.F cM (Js DG cM n))
noncomputable def VL (H:Hp)(r:V)(x:Str × Kd):Prop:=Dn λp rk=>r=.ref p/\H p=some (.tup [.str x.1,rk])/\BU H x.2 rk
theorem VL.mono {H H':Hp}(s:Ay H H'){r:V}{x:Str × Kd}(h:VL H r x):VL H' r x:=by
 obtain ⟨p,rk,h1,h2,h3⟩:=h
 exact ⟨p,rk,h1,s _ _ h2,BU.mono s h3⟩
noncomputable def dy (H:Hp)(rs:List V)(xs:List (Str × Kd)):Prop:=Paired (VL H) rs xs
theorem dy.mono {H H':Hp}(s:Ay H H'){rs:List V}{xs:List (Str × Kd)}(h:dy H rs xs):dy H' rs xs:=Paired.mapP h λ_ _ z=>VL.mono s z
noncomputable def Iw (H:Hp)(l:Addr)(xs:List (Str × Kd)):Prop:=∃ rs,H l=some (.lst rs)/\dy H rs xs
theorem Iw.mono {H H':Hp}(s:An H H'){l:Addr}{xs:List (Str × Kd)}(h:Iw H l xs):Iw H' l xs:=by
 obtain ⟨rs,h1,h2⟩:=h
 exact ⟨rs,s _ _ h1,h2.mono (Ay.of_same s)⟩
noncomputable def Hj (more:List (Str × Kd))(x:Str × Kd):Bool:=!Dh (.str x.1) (more.map λm=>V.str m.1)
noncomputable def ri (xs more:List (Str × Kd)):List (Str × Kd):=xs.filter (Hj more)++more
theorem Fn {xs more:List (Str × Kd)}{z:Str × Kd}(h:z∈ri xs more):z∈more\/z∈xs:=by
 rcases List.mem_append.mp h with h | h
 ·exact .inr (List.mem_filter.mp h).1
 ·exact .inl h
theorem Gn (xs more:List (Str × Kd)):(ri xs more).length<=xs.length+more.length:=by
 unfold ri
 rw [List.length_append]
 have:=List.length_filter_le (Hj more) xs
 omega
inductive FW (vs:(List V))(H:Hp)(Q:VK)(z3:XK):Prop
 | mk (l m:Addr) (xs more:List (Str × Kd)) (h1:vs=[.ref l,.ref m]) (h2:Iw H l xs) (h3:Iw H m more) (h4:xs.length+more.length<=10000) (h5:∀ p H',An H H'->Iw H' p (ri xs more)->Q (.ref p) H'):FW vs H Q z3
theorem S0:Ar ["_law_names","_law_more","_law_kept"] ["_law_names","_law_more"] (Ad BJ):=nofun
noncomputable def MF:Expr:=valueOf (inDef BJ 0)
noncomputable def dz:Expr:=match MF with
 | .ListComp _ [⟨_,_,[.Compare _ _ [e] _],_⟩] _ _=>e
 | _=>.Constant .none 0 ⟨0,0,0,0⟩
theorem VM {f:Addr}{fd:FuncData}(F:Ck K "_law_with" "_law_with" BJ f fd):AI Pr w K mg base BR 1 f fd ["_law_names","_law_more"] FW:=by
 refine F.okS S0 (λvs H Q E h=>?_) (λBo A outer s H vs Q E hr h=>?_)
 ·obtain ⟨l,m,xs,more,rfl,_⟩:=h;rfl
 ·obtain ⟨l,m,xs,more,rfl,hl,hm,hn,q⟩:=h
  have S:BG (DE BR Pr w K mg base ["_law_names","_law_more","_law_kept"] "_law_with" (Ad BJ) f Bo A outer s H E).nox (CH MF) [("_law_more",s.heap.objs.size+1)] ["_law_one_here"] ["_law_more"] [1] :=
   ⟨rfl,by decide +kernel,rfl,by decide +kernel,rfl,rfl,rfl,rfl⟩
  have S2:∀ C s0 H0 ex,BG ((DE BR Pr w K mg base ["_law_names","_law_more","_law_kept"] "_law_with" (Ad BJ) f Bo A outer s H E).nox.cmp (CH MF) [("_law_more",s.heap.objs.size+1)] ["_law_one_here"] ["_law_more"] C s0 H0 ex) (CH dz) [] ["_law_new"] [] [] :=
   λC s0 H0 ex=>⟨rfl,by decide +kernel,rfl,by decide +kernel,rfl,rfl,rfl,rfl⟩
  have IS:(["_law_one_here","_law_more"]:List Str).Nodup:=by decide +kernel
  have nd2:(["_law_new"]:List Str).Nodup:=by decide +kernel
  refine ⟨_,Ae (GR (i:=2) S0.nd rfl (.inl rfl) (tt:=J1 (Ft (xy K true) (Ft (GF K) (Bw 0) (tC (.int 0))) (Ni ["_law_new"] [] (MW K (Bw 1)) (Dg 0) IK (Ft (GF K) (Bw 0) (tC (.int 0)))))) (te:=Bw 0) S rfl (FI (Af 0)) (λC s0 H0 ex=>C1 (i:=0) IS rfl (.inl rfl))
    (λC s0 H0 ex=>Xt (Az EA (Av Al (Af 0) Ac AR) (GL (te:=Ft (GF K) (Bw 0) (tC (.int 0))) (S2 C s0 H0 ex) rfl (FI (Af 1)) (λC' IT H0' ex'=>C1 (i:=0) nd2 rfl (.inl rfl)) (λ_ _ _ _=>Fz) (λC' IT H0' ex'=>Av Al (Af 0) Ac AR)) rfl))
    (λC s0 H0 ex=>Af 0))
   (Ai (Aw (Aj B7 (Af 2) (Af 1)))),?_⟩
  obtain ⟨rs,ON,Hl⟩:=hl
  obtain ⟨ms,VN,mO⟩:=hm
  have lr:=Paired.len Hl
  have lm:=Paired.len mO
  left
  refine ⟨l,rfl,⟨_,AZ.of ON⟩,?_⟩
  refine Ga (K:=K) (a:=l) (xs:=rs) (λi ys H'=>An H H'/\dy H' ys ((xs.take i).filter (Hj more))) ⟨An.refl _,.nil⟩ (λi ys H' z=>AZ.of (z.1 _ _ ON)) (by exact DI ()) (λi ys H' z=>?_) rfl (λi x ys H1 hx z=>?_) (λys H1 z=>?_)
  ·rw [Paired.len z.2]
   exact Nat.le_trans (List.length_filter_le _ _) (by rw [List.length_take];omega)
  ·obtain ⟨s1,z⟩:=z
   obtain ⟨x0,lX,p,rk,rfl,h2,h3⟩:=Paired.at1 Hl hx
   left
   refine Ah (AJ.of (s1 _ _ h2)) rfl ?_
   left
   refine ⟨m,rfl,⟨_,AZ.of (s1 _ _ VN)⟩,?_⟩
   refine Ga (K:=K) (a:=m) (xs:=ms) (λj zs H'=>H'=H1/\zs=(more.take j).map λm=>V.str m.1) ⟨rfl,rfl⟩ (λj zs H' z=>AZ.of (by rw [z.1];exact s1 _ _ VN)) (by exact DI ()) (λj zs H' z=>?_) rfl (λj y zs H2 hy z=>?_) (λzs H2 z=>?_)
   ·rw [z.2,List.length_map,List.length_take];omega
   ·obtain ⟨rfl,rfl⟩:=z
    obtain ⟨y0,hy0,p',rk',rfl,yb,h3'⟩:=Paired.at1 mO hy
    have hj:=(List.getElem?_eq_some_iff.mp hy0).1
    left
    refine Dm ?_
    left
    refine Ah (AJ.of (s1 _ _ yb)) rfl ?_
    refine Nx.mk () ⟨rfl,?_⟩
    rw [List.take_succ,hy0]
    simp
   ·obtain ⟨rfl,rfl⟩:=z
    intros d H3 s3 e3
    refine C8 (.inl (AZ.of e3)) rfl (by rw [List.all_eq_true];intro v hv;obtain ⟨_,_,rfl⟩:=List.mem_map.mp hv;rfl) ?_
    left
    have hi:=(List.getElem?_eq_some_iff.mp lX).1
    have e5:(more.take ms.length)=more:=by rw [lm,List.take_length]
    rw [e5]
    have hk:(if true=true then !Dh (.str x0.1) (more.map λm=>V.str m.1) else Dh (.str x0.1) (more.map λm=>V.str m.1))=Hj more x0:=rfl
    rw [hk]
    cases ek:Hj more x0 with
    | true =>
     refine Dm ?_
     left
     refine Nx.mk () ⟨s1.trans s3,?_⟩
     rw [List.take_succ,lX,List.filter_append]
     refine Paired.app (z.mono (Ay.of_same s3)) ?_
     show dy H3 [.ref p] (List.filter (Hj more) [x0])
     rw [List.filter_cons,ek]
     exact .cons ⟨p,rk,rfl,s3 _ _ (s1 _ _ h2),BU.mono (Ay.of_same (s1.trans s3)) h3⟩ .nil
    | false =>
     refine DH (Nx.mk () ⟨s1.trans s3,?_⟩)
     rw [List.take_succ,lX,List.filter_append]
     show dy H3 ys (_++List.filter (Hj more) [x0])
     rw [List.filter_cons,ek]
     simp only [Bool.false_eq_true,↓reduceIte,List.filter_nil,List.append_nil]
     exact z.mono (Ay.of_same s3)
  ·obtain ⟨s1,z⟩:=z
   rw [lr,List.take_length] at z
   intros d H2 s2 e2
   left
   have ly:=Paired.len z
   have lf:=List.length_filter_le (Hj more) xs
   refine CI e2 (s2 _ _ (s1 _ _ VN)) (BB ()) λp H3 _ s3 e3=>?_
   exact q p H3 (s1.trans (s2.trans s3)) ⟨_,e3,Paired.app (z.mono (Ay.of_same (s2.trans s3))) (mO.mono (Ay.of_same (s1.trans (s2.trans s3))))⟩
end
end K
namespace K
open PySem L2 KM KS
noncomputable def Pa:List Kd->List Kd->Option (List (Int × Kd))
 | a::as,b::bs=>(prs a b).bind λx=>(Pa as bs).map λy=>x++y
 | [],[]=>some []
 | _,_=>none
theorem Pb {a b:Kd}(g:ER a=false)(h:word a=word b):prs a b=Pa (parts a) (parts b)/\(parts a).length=(parts b).length/\ER b=false:=by
 have ht:tag a=tag b:=by
  rw [Hx,Hx] at h
  have:=Kq (tag a) (by cases a <;> simp [tag]) (tag b) (by cases b <;> simp [tag])
  rw [h] at this
  simpa using this
 cases a <;> cases b <;> simp [ER,tag] at g ht
 ·exact ⟨rfl,rfl,rfl⟩
 ·exact ⟨rfl,rfl,rfl⟩
 ·rename_i a1 a2 b1 b2
  refine ⟨?_,rfl,rfl⟩
  show (prs a1 b1).bind _=(prs a1 b1).bind λx=>((prs a2 b2).bind λy=>some (y++[])).map λy=>x++y
  cases prs a1 b1 <;> cases prs a2 b2 <;> simp
 ·rename_i a1 a2 b1 b2
  refine ⟨?_,rfl,rfl⟩
  show (prs a1 b1).bind _=(prs a1 b1).bind λx=>((prs a2 b2).bind λy=>some (y++[])).map λy=>x++y
  cases prs a1 b1 <;> cases prs a2 b2 <;> simp
 ·rename_i a1 b1
  refine ⟨?_,rfl,rfl⟩
  show prs a1 b1=(prs a1 b1).bind λx=>some (x++[])
  cases prs a1 b1 <;> simp
theorem MG {a b:Kd}(g:ER a=false)(h:word a≠word b):prs a b=none:=by
 cases a <;> cases b <;> first | rfl | (simp [ER] at g;done) | exact absurd rfl h
theorem FX:∀ {as bs cs ds:List Kd},as.length=bs.length->Pa (as++cs) (bs++ds)=(Pa as bs).bind λx=>(Pa cs ds).map λy=>x++y
 | [],[],cs,ds,_=>by simp [Pa]
 | a::as,b::bs,cs,ds,h=>by
  have ih:=FX (cs:=cs) (ds:=ds) (show as.length=bs.length by simpa using h)
  simp only [List.cons_append,Pa,ih]
  cases prs a b <;> cases Pa as bs <;> cases Pa cs ds <;> simp
abbrev Fb (H:Hp):List (Int × Kd)->List V->Prop:=Paired (λp v=>Dn λa u=>v=.ref a/\H a=some (.tup [.int p.1,u])/\BU H p.2 u)
theorem Fb.mono {H H':Hp}(s:Ay H H'){ps:List (Int × Kd)}{us:List V}(h:Fb H ps us):Fb H' ps us :=
 Paired.mapP h λp v ⟨a,u,e,h1,h2⟩=>⟨a,u,e,s _ _ h1,BU.mono s h2⟩
section
variable {Pr:Program}{w:World}{K:W.Frag}{mg:Str->Option Value}{base:Heap}
inductive Gp (n:Nat)(vs:(List V))(H:Hp)(Q:VK)(z3:XK):Prop
 | mk (a b:Kd) (v u:V) (h1:vs=[v,u]) (h2:BU H a v) (h3:BU H b u) (h4:dp a<=n) (h5:sz a<=1000) (h6:(prs a b=none->∀ H',An H H'->Q .non H')) (h7:∀ ps,prs a b=some ps->∀ l us H',An H H'->H l=none->H' l=some (.lst us)->Fb H' ps us->Q (.ref l) H'):Gp n vs H Q z3
noncomputable def S1:Nat->Sp
 | 0=>Mh
 | n+1=>Gp n
theorem Gq:Ar ["_law_wide","_law_kind","_law_found","_law_k","_law_more"] ["_law_wide","_law_kind"] (Ad F6):=nofun
theorem S3 {t s:Kd}(h:s∈parts t):sz s < sz t:=by
 cases t <;> simp [parts] at h
 ·rcases h with rfl | rfl <;> simp only [sz] <;> omega
 ·rcases h with rfl | rfl <;> simp only [sz] <;> omega
 ·subst h;simp only [sz];omega
theorem NR:∀ (as bs:List Kd) (l:List (Int × Kd)),Pa as bs=some l->l.length<=szs as
 | [],[],l,h=>by cases h;simp
 | [],_::_,l,h=>by cases h
 | _::_,[],l,h=>by cases h
 | a::as,b::bs,l,h=>by
  obtain ⟨u,v,h1,h2,rfl⟩:=F4 h
  have i1:=Ec a b u h1
  have i2:=NR as bs v h2
  simp only [List.length_append,szs]
  omega
theorem Pc (ts:List Kd)(i:Nat):szs (ts.take i)<=szs ts:=by
 conv=>rhs;rw [<- List.take_append_drop i ts]
 rw [FH]
 omega
theorem NS {x:V}{us:List V}{i:Nat}{v:V}(h:us[i]?=some v):Na (x::us) (1+(i:Int))=some v:=by
 rw [show (1:Int)+(i:Int)=((i+1:Nat):Int) by omega]
 exact Au (by simpa using h)
theorem Jt {f:Addr}{fd:FuncData}{n:Nat}(F:Ck K "_law_pairs" "_law_pairs" F6 f fd)(bi:Binds K fd ["_law_wide","_law_kind"] [])(mf:mg "_law_pairs"=some (.ref f))(mR:mg "range"=none)(MC:mg "len"=none)
  (G:AI Pr w K mg base BR (n+1) f fd ["_law_wide","_law_kind"] (S1 n)):AI Pr w K mg base BR (n+2) f fd ["_law_wide","_law_kind"] (Gp n):=by
 refine F.okS Gq (λvs H Q E h=>?_) (λBo A outer s H vs Q E hr h=>?_)
 ·obtain ⟨a,b,v,u,rfl,_⟩:=h
  rfl
 ·obtain ⟨a,b,v,u,rfl,kv,ku,hdp,hsz,qn,qs⟩:=h
  have hb:=Er
  obtain ⟨pa,us,ea,ha,hpa,rj,yr⟩:=kv.look
  subst ea
  obtain ⟨pb,TR,eb,y9,hpb,hgb,Azn⟩:=ku.look
  subst eb
  refine ⟨_,Ae (B4 (Az AO (Av Al (Af 0) Ac AR) Ag (Ak _)) (Ai (Aw (AS (Aa (Am (Aa (Av Al (Af 0) Ac AR) (Aa (Af 1) Ab))) Ab)))) AK)
   (Ae (B4 (Az N0 (Av Al (Af 0) Ac AR) (Av Al (Af 1) Ac AR) (Ak _)) (Ai (Aw Fx)) AK)
   (Ae (Ax (i:=2) Gq.nd rfl (.inl rfl) (AS Ab))
   (Ae (QV PassesOwn.never rfl (QX rfl mR (Aa Ac (Aa (AU AG rfl MC PySem.boot_len (Aa (Af 0) Ab)) Ab))) (C1 (i:=3) Gq.nd rfl (.inl rfl))
    (Ae (Ax (i:=4) Gq.nd rfl (.inl rfl) (Md G hr rfl mf F.kp bi (Aa (Av Al (Af 0) (Af 3) AR) (Aa (Av Al (Af 1) (Af 3) AR) Ab))))
    (Ae (B4 (Az LI (Af 4) Fx rfl) (Ai (Aw Fx)) AK)
    (Ai (Ax (i:=2) Gq.nd rfl (.inl rfl) (Aj B7 (Af 2) (Af 4)))))))
   (Ai (Aw (Af 2)))))),?_⟩
  refine ⟨_,rfl,pa,_,_,_,rfl,rfl,AJ.of ha,Au (j:=0) rfl,rfl,_,rfl,?_⟩
  rw [V1]
  cases e:ER a with
  | true =>
   obtain ⟨k,rfl⟩:∃ k,a=.gap k:=by cases a <;> simp [ER] at e;exact ⟨_,rfl⟩
   obtain rfl:=rj k rfl
   refine Dm ⟨_,rfl,pa,_,_,_,rfl,rfl,AJ.of ha,Au (j:=1) rfl,_,rfl,by show 2<=sizeLine;omega,λp hp=>⟨by show 1<=sizeLine;omega,λl hl=>?_⟩⟩
   have yy:p≠l:=λz=>by rw [<- z,Ap] at hl;cases hl
   have hl0:H l=none:=by rw [Aq (Ne.symm yy)] at hl;exact hl
   have sm:An H (upd (upd H p (.tup [.int k,.ref pb])) l (.lst [.ref p])):=An.put (An.new hp) hl0
   exact qs _ rfl l _ _ sm hl0 Ap (.cons ⟨p,_,rfl,by rw [Aq yy,Ap],BU.mono (Ay.of_same sm) ku⟩ .nil)
  | false =>
   refine DH ⟨_,rfl,pa,_,_,_,rfl,rfl,AJ.of ha,Au (j:=0) rfl,_,rfl,pb,_,_,_,rfl,rfl,AJ.of y9,Au (j:=0) rfl,rfl,_,rfl,?_⟩
   by_cases hw:word a=word b
   ·refine AN (by simp [hw]) ?_
    obtain ⟨ep,rl,egb⟩:=Pb e hw
    have pk:=hpa e
    have pk':=hpb egb
    have hlen:us.length=(parts a).length:=(Paired.length pk).symm
    have Xp:TR.length=(parts b).length:=(Paired.length pk').symm
    have Dc:=Ow a
    have Azp:=Ov a
    refine ⟨by simp,λlf FQ=>?_⟩
    have ha1:(upd H lf (.lst [])) pa=some (.tup (.str (word a)::us)):=by rw [Aq (AF ha FQ)];exact ha
    have Aul:(((us.length+1:Nat):Int) - 1).toNat=us.length:=by omega
    refine ⟨_,rfl,pa,_,rfl,.inr (AJ.of ha1),1,_,rfl,⟨(),(),by show -(2 ^ 62)<=((us.length+1:Nat):Int);omega,by show ((us.length+1:Nat):Int) < 2 ^ 62;omega⟩,?_⟩
    show ∃ W:Nat->Nat->St->Hp->Prop,_
    have rm:(((V.str (word a)::us).length:Int) - 1).toNat=us.length:=by simp
    rw [rm]
    refine Ob (λi σ H2=>U0 λlg kk mm acc RB=>σ=[some (.ref pa),some (.ref pb),some (.ref lg),kk,mm]/\An H H2/\Pa ((parts a).take i) ((parts b).take i)=some acc/\H lg=none/\H2 lg=some (.lst RB)/\Fb H2 acc RB)
     ⟨lf,none,none,[],[],rfl,An.new FQ,rfl,FQ,Ap,.nil⟩ (λi σ H2 hi z=>?_) (fun σ H2 z=>?_)
    ·obtain ⟨lg,kk,mm,acc,RB,rfl,sm,HS,rn,hlg,VO⟩:=z
     obtain ⟨x,hx⟩:∃ x,us[i]?=some x:=⟨_,List.getElem?_eq_getElem ()⟩
     obtain ⟨x',VE⟩:∃ x',TR[i]?=some x':=⟨_,List.getElem?_eq_getElem ()⟩
     obtain ⟨s1,mh,kx⟩:=Paired.at pk hx
     obtain ⟨s2,Qh,xC⟩:=Paired.at pk' VE
     have KJ:=List.mem_of_getElem? mh
     have Ef:=V2 KJ
     have Azq:=S3 KJ
     have hal:=NR _ _ _ HS
     have Azr:=Pc (parts a) i
     have taken:((parts a).take i).length=((parts b).take i).length:=by rw [List.length_take,List.length_take,rl]
     have Y7:Pa ((parts a).take (i+1)) ((parts b).take (i+1))=(prs s1 s2).map λy=>acc++y:=by
      rw [List.take_add_one,List.take_add_one,mh,Qh]
      show Pa (_++[s1]) (_++[s2])=_
      rw [FX taken,HS]
      show (((prs s1 s2).bind λx=>some (x++[])).map λy=>acc++y)=_
      cases prs s1 s2 <;> simp
     refine ⟨_,rfl,_,rfl,pa,_,_,_,rfl,rfl,AJ.of (sm pa _ ha),NS hx,_,rfl,_,rfl,pb,_,_,_,rfl,rfl,AJ.of (sm pb _ y9),NS VE,?_⟩
     cases n with
     | zero=>omega
     | succ n =>
      refine ⟨s1,s2,x,x',rfl,BU.mono (Ay.of_same sm) kx,BU.mono (Ay.of_same sm) xC,(),(),λen H3 Y2=>?_,λps dA l3 yf H3 Y2 Azs qf p3=>?_⟩
      ·refine ⟨_,rfl,rfl,_,rfl,Bc rfl ?_⟩
       refine qn ?_ H3 (An.trans sm Y2)
       rw [ep,<- List.take_append_drop (i+1) (parts a),<- List.take_append_drop (i+1) (parts b),FX (by rw [List.length_take,List.length_take,rl]),Y7,en]
       rfl
      ·refine ⟨_,rfl,rfl,_,rfl,AN (by simp) ?_⟩
       have hg3:=Y2 lg _ hlg
       have qW:=Ec _ _ _ dA
       have h2l:RB.length=acc.length:=(Paired.length VO).symm
       have h3l:yf.length=ps.length:=(Paired.length p3).symm
       refine ⟨_,rfl,_,rfl,lg,l3,RB,yf,rfl,rfl,hg3,qf,(),λr hr0=>?_⟩
       have sm':=An.trans sm Y2
       have ro:H r=none:=sm'.free hr0
       refine ⟨r,_,_,acc++ps,RB++yf,rfl,An.put sm' ro,?_,ro,Ap,?_⟩
       ·rw [Y7,dA];rfl
       ·exact Paired.app (Fb.mono (Ay.trans (Ay.of_same Y2) (Ay.new hr0)) VO) (Fb.mono (Ay.new hr0) p3)
    ·obtain ⟨lg,kk,mm,acc,RB,rfl,sm,HS,rn,hlg,VO⟩:=z
     refine ⟨_,rfl,?_⟩
     have h1:(parts a).take us.length=parts a:=List.take_of_length_le ()
     have h2:(parts b).take us.length=parts b:=List.take_of_length_le ()
     rw [h1,h2] at HS
     exact qs acc (by rw [ep];exact HS) lg RB H2 sm rn hlg VO
   ·refine Bc (by simp [hw]) ?_
    exact qn (MG e hw) H (An.refl H)
theorem Lf {f:Addr}{fd:FuncData}(F:Ck K "_law_pairs" "_law_pairs" F6 f fd)(bi:Binds K fd ["_law_wide","_law_kind"] [])(mf:mg "_law_pairs"=some (.ref f))(mR:mg "range"=none)(MC:mg "len"=none):
  ∀ n,AI Pr w K mg base BR (n+2) f fd ["_law_wide","_law_kind"] (Gp n)
 | 0=>Jt F bi mf mR MC Ia
 | n+1=>Jt F bi mf mR MC (Lf F bi mf mR MC n)
theorem Fb.list {H:Hp}:∀ {ps:List (Int × Kd)} {us:List V},Fb H ps us->∃ qs:List (Addr × Key × V),us=qs.map (λq=>V.ref q.1)/\(∀ q∈qs,H q.1=some (.tup [kV q.2.1,q.2.2]))/\Paired (λp q=>q.2.1=(Sum.inl p.1:Key)/\BU H p.2 q.2.2) ps qs
 | _,_,.nil=>⟨[],rfl,(λq hq=>by cases hq),.nil⟩
 | _,_,.cons (a:=p) ⟨a,u,e,h1,h2⟩ t=>by
  obtain ⟨qs,e2,h3,h4⟩:=Fb.list t
  subst e
  refine ⟨(a,Sum.inl p.1,u)::qs,by rw [e2];rfl,λq hq=>?_,.cons ⟨rfl,h2⟩ h4⟩
  rcases List.mem_cons.mp hq with rfl | hq
  ·exact h1
  ·exact h3 q hq
theorem Jy {H:Hp}:∀ {ps:List (Int × Kd)} {qs:List (Addr × Key × V)} (AH:List (Key × V)) (m:Int->Option Kd),Paired (λp q=>q.2.1=(Sum.inl p.1:Key)/\BU H p.2 q.2.2) ps qs->Eb H AH m ->
  Eb H (qs.foldl (λm p=>putK m p.2.1 p.2.2) AH) (λk=>ps.foldl (λm p=>if p.1=k then some p.2 else m) (m k))
 | _,_,AH,m,.nil,h=>h
 | _,_,AH,m,.cons (a:=p) (b:=q) ⟨e,kq⟩ t,h=>by
  have ih:=Jy (putK AH q.2.1 q.2.2) (λj=>if j=p.1 then some p.2 else m j) t (by rw [e];exact Eb.put h kq)
  have e2:∀ k,(if p.1=k then some p.2 else m k)=(if k=p.1 then some p.2 else m k):=λk=>by
   by_cases z:p.1=k
   ·rw [if_pos z,if_pos z.symm]
   ·rw [if_neg z,if_neg (λy=>z y.symm)]
  simp only [List.foldl_cons,e2]
  exact ih
inductive Fp (n:Nat)(vs:(List V))(H:Hp)(Q:VK)(z3:XK):Prop
 | mk (a b:Kd) (v u:V) (h1:vs=[v,u]) (h2:BU H a v) (h3:BU H b u) (h4:dp a<=n) (h5:sz a<=1000) (h6:dp b<=60) (h7:∀ H',An H H'->Q (.bl (wd a b)) H'):Fp n vs H Q z3
theorem K5:Ar ["_law_wide","_law_kind","_law_pairs_here","_law_told"] ["_law_wide","_law_kind"] (Ad EI):=nofun
theorem S4 {f fP:Addr}{fd qI:FuncData}{n:Nat}(F:Ck K "_law_wider" "_law_wider" EI f fd)(mD:mg "dict"=none)(mA:mg "all"=none)
  (GP:AI Pr w K mg base BR (n+2) fP qI ["_law_wide","_law_kind"] (Gp n)) (kP:W.keepIn K (.ref fP)=true) (bP:Binds K qI ["_law_wide","_law_kind"] []) (mP:mg "_law_pairs"=some (.ref fP)) :
  AI Pr w K mg base BR (n+3) f fd ["_law_wide","_law_kind"] (Fp n):=by
 refine F.okS K5 (λvs H Q E h=>?_) (λBo A outer s H vs Q E hr h=>?_)
 ·obtain ⟨a,b,v,u,rfl,_⟩:=h
  rfl
 ·obtain ⟨a,b,v,u,rfl,kv,ku,hdp,hsz,E9,q⟩:=h
  have hb:=Er
  have hu:=Jd hr
  have Io:=hr.units
  have S:BG (DE BR Pr w K mg base ["_law_wide","_law_kind","_law_pairs_here","_law_told"] "_law_wider" (Ad EI) f Bo A outer s H E).nox (CH (match valueOf (inDef EI 3) with | .Call _ [e] _ _=>e | _=>.Constant .none 0 ⟨0,0,0,0⟩)) [("_law_told",s.heap.objs.size+1)] ["_law_gap","_law_part"] ["_law_told"] [3] :=
   ⟨rfl,by decide +kernel,rfl,by decide +kernel,rfl,rfl,rfl,rfl⟩
  refine ⟨_,Ae (Ax (i:=2) K5.nd rfl (.inl rfl) (Md GP hr rfl mP kP bP (Aa (Af 0) (Aa (Af 1) Ab))))
   (Ae (B4 (Az LI (Af 2) Fx rfl) (Ai (Aw ah)) AK)
   (Ae (Ax (i:=3) K5.nd rfl (.inr rfl) (Dj (IL rfl) rfl mD PyProof.Rows.boot_dict (Aa (Af 2) Ab)))
   (Ai (Aw (AU (Jg rfl) rfl mA PyProof.Rows.boot_all (Aa (GL (g:=LA K 2 (EW (Dg 0) (EW (Dg 1) O5))) (te:=Ft Z' (Ng (Bw 2) (Bw 0)) (Bw 1)) S rfl (FI (Af 2))
    (λC s0 H0 ex=>Kz rfl (Dz (C1 (i:=0) (show (["_law_gap","_law_part","_law_told"]:List Str).Nodup by decide +kernel) rfl (.inl rfl)) (Dz (C1 (i:=1) (show (["_law_gap","_law_part","_law_told"]:List Str).Nodup by decide +kernel) rfl (.inl rfl)) Ic)))
    (λ_ _ _ _=>Fz) (λC s0 H0 ex=>CP (af Io) (QU hu (Af 2) (Af 0) AR) (Af 1) (Ak _))) Ab)))))),?_⟩
  refine ⟨_,rfl,_,rfl,a,b,v,u,rfl,kv,ku,hdp,hsz,λen H1 bW=>?_,λps dA l us H1 bW hl0 ON pu=>?_⟩
  ·refine ⟨_,rfl,rfl,_,rfl,Bc rfl ?_⟩
   have e1:wd a b=false:=by unfold wd;rw [en]
   have:=q H1 bW
   rw [e1] at this
   exact this
  ·refine ⟨_,rfl,rfl,_,rfl,AN (by simp) ?_⟩
   obtain ⟨qs,eu,hq,pq⟩:=Fb.list pu
   subst eu
   have hql:qs.length=ps.length:=(Paired.length pq).symm
   have Dc:=Ec _ _ _ dA
   refine ⟨_,rfl,l,qs,rfl,ON,hq,λd hd=>?_⟩
   have dk0:Eb H1 (putAll qs) (Jk ps):=Jy [] (λ_=>none) pq Eb.nil
   have sd:An H1 (upd H1 d (.dK (putAll qs))):=An.new hd
   have Hl:(upd H1 d (.dK (putAll qs))) l=some (.lst (qs.map λq=>V.ref q.1)):=sd l _ ON
   generalize hH2:upd H1 d (.dK (putAll qs))=H2 at sd Hl ⊢
   have hd2:H2 d=some (.dK (putAll qs)):=by rw [<- hH2,Ap]
   have dk:=Eb.mono (Ay.of_same sd) dk0
   refine ⟨_,rfl,l,rfl,⟨_,AZ.of Hl⟩,?_⟩
   refine OO (K:=K) (a:=l) (xs:=qs.map λq=>V.ref q.1) (λi ys H3=>H3=H2/\ys=((ps.take i).map λp=>decide (Jk ps p.1=some p.2)).map V.bl) ⟨rfl,rfl⟩ (λi ys H3 z=>by rw [z.1];exact AZ.of Hl) (by rw [List.length_map];omega)
    (λi ys H3 z=>?_) (λi x ys H3 hx z=>?_) (λx σ H Q Q' h z=>?_) (fun σ H Q Q' h z=>h _ _ z) (fun σ H Q Q' h z=>?_) (λys H3 z=>?_)
   ·rw [z.2,List.length_map,List.length_map,List.length_take];omega
   ·obtain ⟨rfl,rfl⟩:=z
    rw [List.getElem?_map] at hx
    cases eq:qs[i]? with
    | none=>rw [eq] at hx;cases hx
    | some q0 =>
     rw [eq] at hx
     cases hx
     obtain ⟨p0,F7,ek,kq⟩:=Paired.at pq eq
     have ht:=sd _ _ (hq q0 (List.mem_of_getElem? eq))
     refine ⟨q0.1,_,rfl,AJ.of ht,rfl,_,_,rfl,_,_,rfl,rfl,⟨rfl,?_⟩,R5 ?_⟩
     ·intro j v hj
      cases j with
      | zero=>cases hj
      | succ j=>cases j with
       | zero=>cases hj
       | succ j=>exact hj
     ·have hmp:=List.mem_of_getElem? F7
      obtain ⟨p1,TV,GX,K3⟩:=OL hmp
      rcases dk p0.1 with ⟨_,z2⟩ | ⟨v',t',z1,z2,z3⟩
      ·rw [K3] at z2;cases z2
      refine ⟨_,rfl,_,rfl,d,v',rfl,?_,_,rfl,t',p0.2,z3,BU.mono (Ay.of_same sd) kq,?_,?_,?_⟩
      ·have:=Eg.k (k:=q0.2.1) hd2
       rw [ek,z1] at this
       rw [ek]
       exact this
      ·rw [K3] at z2
       cases z2
       exact Nat.le_trans (FJ _ _ _ dA p1 TV) E9
      ·exact Nat.le_trans (FJ _ _ _ dA p0 hmp) E9
      ·refine ⟨rfl,?_⟩
       rw [List.take_add_one,F7,List.map_append,List.map_append]
       show _=_++[V.bl (decide (Jk ps p0.1=some p0.2))]
       have e3:decide (some t'=some p0.2)=decide (t'=p0.2):=by simp
       rw [z2,e3]
   ·obtain ⟨a1,x1,z1,z2,z3,v1,r1,z4,v2,r2,z5,z6,z7⟩:=z
    exact ⟨a1,x1,z1,z2,z3,v1,r1,z4,v2,r2,z5,z6,h _ _ z7⟩
   ·obtain ⟨v1,z1,v2,z2,a1,v3,z3,z4,v4,z5,t1,t2,z6,z7,z8,z9,z10⟩:=z
    exact ⟨v1,z1,v2,z2,a1,v3,z3,z4,v4,z5,t1,t2,z6,z7,z8,z9,h _ _ z10⟩
   ·obtain ⟨rfl,rfl⟩:=z
    intro D hD
    refine ⟨D,_,rfl,Ap,?_⟩
    rw [List.length_map,hql,List.take_length]
    have e1:((ps.map λp=>decide (Jk ps p.1=some p.2)).all id)=wd a b:=by
     unfold wd
     rw [dA,List.all_map]
     rfl
    rw [e1]
    exact q _ (An.put (An.trans bW sd) ((An.trans bW sd).free hD))
end
open KX
section
variable {Pr:Program}{w:World}{K:W.Frag}{mg:Str->Option Value}{base:Heap}
noncomputable def pk:Kd->Nat
 | .num | .tru | .gap _=>0
 | .ls a=>pk a
 | .fn _ b=>pk b
 | .pr a b=>1+pk a+pk b
noncomputable def sk:Kd->Nat
 | .num | .tru | .gap _=>1
 | .ls a=>1+sk a
 | .fn _ b=>1+sk b
 | .pr a b=>1+sk a+sk b
theorem dB (t:Kd):1<=sk t:=by cases t <;> simp [sk] <;> omega
noncomputable def B:Nat->Nat->Nat
 | 0,p=>p
 | d+1,p=>max (B d 3+2 * B d p) (B d 5+B d p)
noncomputable def C:Nat->Nat->Nat
 | 0,s=>s
 | d+1,s=>1+C d 11+C d (1+s)+2 * C d s
theorem Ei:∀ (d:Nat) {p q:Nat},p<=q->B d p<=B d q
 | 0,_,_,h=>h
 | d+1,p,q,h=>by have:=Ei d h;simp only [B];omega
theorem dC:∀ (d p:Nat),p<=B d p
 | 0,_=>Nat.le_refl _
 | d+1,p=>by have:=dC d p;simp only [B];omega
theorem Dy:∀ (d:Nat) {p q:Nat},p<=q->C d p<=C d q
 | 0,_,_,h=>h
 | d+1,p,q,h=>by have:=Dy d h;have:=Dy d (Nat.add_le_add_left h 1);simp only [C];omega
theorem rp:∀ (d p:Nat),p<=C d p
 | 0,_=>Nat.le_refl _
 | d+1,p=>by have:=rp d p;simp only [C];omega
theorem Jz:∀ t,pk t+1<=2 ^ dp t
 | .num | .tru | .gap _=>by simp [pk,dp]
 | .ls a=>by have:=Jz a;simp only [pk,dp,Nat.pow_succ];omega
 | .fn a b=>by
  have:=Jz b
  have h:=Nat.pow_le_pow_right (n:=2) ⟨⟩ (Nat.le_max_right (dp a) (dp b))
  simp only [pk,dp,Nat.pow_succ];omega
 | .pr a b=>by
  have h1:=Jz a
  have h2:=Jz b
  have h3:=Nat.pow_le_pow_right (n:=2) ⟨⟩ (Nat.le_max_left (dp a) (dp b))
  have h4:=Nat.pow_le_pow_right (n:=2) ⟨⟩ (Nat.le_max_right (dp a) (dp b))
  simp only [pk,dp,Nat.pow_succ];omega
theorem JA:∀ t,sk t+1<=2 ^ (dp t+1)
 | .num | .tru | .gap _=>by simp [sk,dp]
 | .ls a=>by have:=JA a;simp only [sk,dp,Nat.pow_succ] at *;omega
 | .fn a b=>by
  have:=JA b
  have h:=Nat.pow_le_pow_right (n:=2) ⟨⟩ (Nat.le_max_right (dp a) (dp b))
  simp only [sk,dp,Nat.pow_succ] at *;omega
 | .pr a b=>by
  have h1:=JA a
  have h2:=JA b
  have h3:=Nat.pow_le_pow_right (n:=2) ⟨⟩ (Nat.le_max_left (dp a) (dp b))
  have h4:=Nat.pow_le_pow_right (n:=2) ⟨⟩ (Nat.le_max_right (dp a) (dp b))
  simp only [sk,dp,Nat.pow_succ] at *;omega
theorem JB:∀ t,sz t+1<=2 ^ (dp t+1)
 | .num | .tru | .gap _=>by simp [sz,dp]
 | .ls a=>by have:=JB a;simp only [sz,dp,Nat.pow_succ] at *;omega
 | .fn a b=>by
  have h1:=JB a
  have h2:=JB b
  have h3:=Nat.pow_le_pow_right (n:=2) ⟨⟩ (Nat.le_max_left (dp a) (dp b))
  have h4:=Nat.pow_le_pow_right (n:=2) ⟨⟩ (Nat.le_max_right (dp a) (dp b))
  simp only [sz,dp,Nat.pow_succ] at *;omega
 | .pr a b=>by
  have h1:=JB a
  have h2:=JB b
  have h3:=Nat.pow_le_pow_right (n:=2) ⟨⟩ (Nat.le_max_left (dp a) (dp b))
  have h4:=Nat.pow_le_pow_right (n:=2) ⟨⟩ (Nat.le_max_right (dp a) (dp b))
  simp only [sz,dp,Nat.pow_succ] at *;omega
theorem sz8 {t:Kd}(h:dp t<=8):sz t<=1000:=by
 have h1:=JB t
 have h2:2 ^ (dp t+1)<=2 ^ 9:=Nat.pow_le_pow_right ⟨⟩ ()
 have h3:2 ^ 9=512:=rfl
 omega
theorem pk2 {t:Kd}(h:dp t<=2):pk t<=3/\sk t<=7:=by
 have h1:=Jz t
 have h2:=JA t
 have h3:2 ^ dp t<=2 ^ 2:=Nat.pow_le_pow_right ⟨⟩ h
 have h4:2 ^ (dp t+1)<=2 ^ 3:=Nat.pow_le_pow_right ⟨⟩ ()
 have h5:2 ^ 2=4:=rfl
 have h6:2 ^ 3=8:=rfl
 omega
theorem pk1 {t:Kd}(h:dp t<=1):pk t<=1/\sk t<=3:=by
 have h1:=Jz t
 have h2:=JA t
 have h3:2 ^ dp t<=2 ^ 1:=Nat.pow_le_pow_right ⟨⟩ h
 have h4:2 ^ (dp t+1)<=2 ^ 2:=Nat.pow_le_pow_right ⟨⟩ ()
 have h5:2 ^ 2=4:=rfl
 have h6:2 ^ 1=2:=rfl
 omega
noncomputable def mu:Nat->Kd->Nat
 | 0,g=>dp g
 | d+1,g=>max 3 (dp g)+2 * (d+1)
structure G' (K:W.Frag)(H:Hp)(a:Addr)(ns:List Int)(g:Kd)(rg:V)(l:Addr)(xs:List (Str × Kd)):Prop where
 hs:AZ K H a (ns.map V.int)
 hg:BU H g rg
 gd:R' g
 hl:Iw H l xs
 hx:∀ x∈xs,dp x.2<=8
theorem G'.mono {K:W.Frag}{H H':Hp}{a:Addr}{ns:List Int}{g:Kd}{rg:V}{l:Addr}{xs:List (Str × Kd)}(s:An H H')(h:G' K H a ns g rg l xs):G' K H' a ns g rg l xs :=
 ⟨s.seq h.hs,BU.mono (Ay.of_same s) h.hg,h.gd,h.hl.mono s,h.hx⟩
abbrev Ls (xs:List (Str × Kd)):List Str:=xs.map (·.1)
inductive Iy (K:W.Frag)(n:Nat)(vs:(List V))(H:Hp)(Q:VK)(z3:XK):Prop
 | mk (a:Addr) (ns:List Int) (k:Int) (g:Kd) (rg:V) (l:Addr) (xs:List (Str × Kd)) (d:Nat) (h1:vs=[.ref a,.int k,rg,.ref l,.int d]) (h2:G' K H a ns g rg l xs) (h3:mu d g<=n) (h4:max 3 (dp g)+d<=8) (h5:xs.length+2 * n<=1000) (h6:∀ e r H',An H H'->Br H' e r->Lr (Ls xs) (B d (pk g)) (C d (sk g)) e->Q r H'):Iy K n vs H Q z3
noncomputable def EL (K:W.Frag):Nat->Sp
 | 0=>Mh
 | n+1=>Iy K n
noncomputable def Bb:Nat->Nat->Nat
 | 0,p=>p
 | d+1,p=>1+2 * B (d+1) p
noncomputable def Cb:Nat->Nat->Nat
 | 0,s=>s
 | d+1,s=>1+2 * C (d+1) s
inductive Fc (K:W.Frag)(n:Nat)(vs:(List V))(H:Hp)(Q:VK)(z3:XK):Prop
 | mk (a:Addr) (ns:List Int) (k:Int) (g:Kd) (rg:V) (l:Addr) (xs:List (Str × Kd)) (d:Nat) (h1:vs=[.ref a,.int k,rg,.ref l,.int d]) (h2:G' K H a ns g rg l xs) (h3:(d=0->dp g<=n)) (h4:(0 < d->max 3 (dp g)+2 * d+1<=n)) (h5:max 3 (dp g)+d<=8) (h6:xs.length+2 * n<=1000) (h7:∀ e r H',An H H'->Br H' e r->Lr (Ls xs) (Bb d (pk g)) (Cb d (sk g)) e->Q r H'):Fc K n vs H Q z3
inductive K6 (K:W.Frag)(n:Nat)(vs:(List V))(H:Hp)(Q:VK)(z3:XK):Prop
 | mk (a:Addr) (ns:List Int) (k:Int) (g:Kd) (rg:V) (l:Addr) (xs:List (Str × Kd)) (d:Nat) (h1:vs=[.ref a,.int k,rg,.ref l,.int d]) (h2:G' K H a ns g rg l xs) (h3:max 3 (dp g)+2 * d+2<=n) (h4:max 3 (dp g)+d+1<=8) (h5:xs.length+2 * n<=1000) (h6:∀ e r H',An H H'->Br H' e r->Lr (Ls xs) (B (d+1) (pk g)) (C (d+1) (sk g)) e->Q r H'):K6 K n vs H Q z3
theorem rA (d p:Nat):Bb d p<=B (d+1) p:=by
 have h3:=dC d 3
 cases d with
 | zero=>simp only [Bb,B];omega
 | succ d=>simp only [Bb];show 1+2 * B (d+1) p<=max (B (d+1) 3+2 * B (d+1) p) (B (d+1) 5+B (d+1) p);omega
theorem rB (d p:Nat):Cb d p<=C (d+1) p:=by
 cases d with
 | zero=>simp only [Cb,C];omega
 | succ d=>simp only [Cb];show 1+2 * C (d+1) p<=1+C (d+1) 11+C (d+1) (1+p)+2 * C (d+1) p;omega
theorem MH:Ar ["_law_script","_law_k","_law_goal","_law_names","_law_deep","_law_number","_law_good"] HE (Ad BK):=nofun
theorem S5 {n r:Nat}{f:Addr}{fd:FuncData}(F:Ck K "_law_made" "_law_made" BK f fd)(B1:mg "len"=none)(Jo:mg "max"=none)(dD:11<=r)
  (cM:Cl Pr w K mg base 2 "_law_mix" FD (DR K)) (cW:Cl Pr w K mg base 11 "_law_wider" ["_law_wide","_law_kind"] (Fp 8))
  (cB:Cl Pr w K mg base r "_law_built" HE (Fc K n)) (cT:Cl Pr w K mg base r "_law_taken" HE (K6 K n)) :
  AI Pr w K mg base BR (r+1) f fd HE (Iy K n):=by
 refine F.okS MH (λvs H Q E h=>?_) (λBo A outer s H vs Q E hr h=>?_)
 ·obtain ⟨a,ns,k,g,rg,l,xs,d,rfl,_⟩:=h;rfl
 ·obtain ⟨a,ns,k,g,rg,l,xs,d,rfl,P,dE,h8,hx,q⟩:=h
  have FA:AY 2 _:=hr.mono ()
  have Ac4:AY 11 _:=hr.mono ()
  have S:BG (DE BR Pr w K mg base ["_law_script","_law_k","_law_goal","_law_names","_law_deep","_law_number","_law_good"] "_law_made" (Ad BK) f Bo A outer s H E).nox (CH (valueOf (inDef BK 1))) [("_law_goal",s.heap.objs.size+1)] ["_law_one_here"] ["_law_goal"] [2] :=
   ⟨rfl,by decide +kernel,rfl,by decide +kernel,rfl,rfl,rfl,rfl⟩
  have IS:(["_law_one_here","_law_goal"]:List Str).Nodup:=by decide +kernel
  refine ⟨_,(Ae (Ax (i:=5) MH.nd rfl (.inl rfl) (B3 cM FA rfl (Aa (Af 0) (Aa (Af 1) Ab))))
   (Ae (GR (i:=6) MH.nd rfl (.inl rfl) (tt:=tB (DW (Fp 8) [] E0 (BM (Ft (GF K) (Bw 0) (tC (.int 1))) (BM (Bw 1) Ez)))) (te:=Ft (GF K) (Bw 0) (tC (.int 0))) S rfl (FI (Af 3)) (λC s0 H0 ex=>C1 (i:=0) IS rfl (.inl rfl)) (λC s0 H0 ex=>Xt (Hf (B3 cW Ac4 rfl (Aa (Av Al (Af 0) Ac AR) (Aa (Af 1) Ab))))) (λC s0 H0 ex=>Av Al (Af 0) Ac AR))
   (Ae (B4 (ID (w_and (Ea (Af 6)) (DN (Az AO (Aj AQ (Af 5) Ac) Ac (Ak _))))) (Ai (Aw (Am (Aa Ag (Aa (Av AA (Af 6) (Aj AQ (Aj B9 (Af 5) Ac) (AU AG (by rfl) B1 PySem.boot_len (Aa (Af 6) Ab))) AR) Ab))))) AK)
   (Ae (B4 (ID (w_and (Az N1 (Af 4) Ac (Ak _)) (DN (Az DD (Aj AQ (Af 5) Ac) Ac (Ak _))))) (Ai (Aw (B3 cT hr rfl (Aa (Af 0) (Aa (Af 1) (Aa (Af 2) (Aa (Af 3) (Aa (Aj Bx (Af 4) Ac) Ab)))))))) AK)
   (Ai (Aw (B3 cB hr rfl (Aa (Af 0) (Aa (Af 1) (Aa (Af 2) (Aa (Af 3) (Aa (AU (J2 rfl) (by rfl) Jo PyProof.Rows.boot_max (Aa Ac (Aa (Aj Bx (Af 4) Ac) Ab))) Ab)))))))))))),?_⟩
  left
  refine ⟨a,ns,k,rfl,P.hs,λm hm=>?_⟩
  left
  obtain ⟨rs,ON,Hl⟩:=P.hl
  have lr:=Paired.len Hl
  refine ⟨l,rfl,⟨_,AZ.of ON⟩,?_⟩
  refine Ga (K:=K) (a:=l) (xs:=rs) (λi ys H'=>An H H'/\ys.length<=i/\∀ y∈ys,∃ x∈xs,y=.str x.1) ⟨An.refl _,Nat.zero_le _,λy hy=>by cases hy⟩ (λi ys H' z=>AZ.of (z.1 _ _ ON)) (by exact DI ()) (λi ys H' z=>z.2.1) rfl (λi x ys H1 hx z=>?_) (λys H1 z=>?_)
  ·obtain ⟨s1,z1,z2⟩:=z
   obtain ⟨x0,lX,p,rk,rfl,h2,h3⟩:=Paired.at1 Hl hx
   have hi:=(List.getElem?_eq_some_iff.mp hx).1
   have rC:=List.mem_of_getElem? lX
   left
   refine Ah (AJ.of (s1 _ _ h2)) rfl ?_
   left
   have mQ:=P.hx x0 rC
   refine ⟨x0.2,g,rk,rg,rfl,BU.mono (Ay.of_same s1) h3,BU.mono (Ay.of_same s1) P.hg,mQ,sz8 mQ,(),λH2 s2=>?_⟩
   left
   refine Cu (λ_=>?_) λ_=>?_
   ·left
    refine Ah (AJ.of (s2 _ _ (s1 _ _ h2))) rfl ?_
    refine Nx.mk hi ⟨s1.trans s2,by rw [List.length_append];simp;omega,λy hy=>?_⟩
    rcases List.mem_append.mp hy with hy | hy
    ·exact z2 y hy
    ·rw [List.mem_singleton.mp hy]
     exact ⟨x0,rC,rfl⟩
   ·exact Nx.mk hi ⟨s1.trans s2,(),z2⟩
  ·obtain ⟨s1,z1,z2⟩:=z
   intros gl H2 s2 e2
   left
   refine ⟨!ys.isEmpty,.inl ⟨_,AZ.of e2,rfl⟩,?_⟩
   have Cq:=s1.trans s2
   have P2:=P.mono Cq
   refine aG ?_ λhc rest=>?_
   ·left
    have tk:∀ d',d=d'+1->∀ r,Lr (Ls xs) (B (d'+1) (pk g)) (C (d'+1) (sk g)) r->Lr (Ls xs) (B d (pk g)) (C d (sk g)) r:=λd' e r h=>e▸h
    have blt:∀ d':Nat,(d=0/\d'=0)\/d=d'+1->Fc K n [.ref a,.int k,rg,.ref l,.int d'] H2 Q E0:=λd' hd=>by
     refine ⟨a,ns,k,g,rg,l,xs,d',rfl,P2,λz=>?_,λz=>?_,(),(),λe r H3 s3 ha ho=>q e r H3 (Cq.trans s3) ha ?_⟩
     ·rcases hd with ⟨h1,h2⟩ | hd
      ·subst h1;exact dE
      ·subst hd;subst z;have:max 3 (dp g)+2 * (0+1)<=n:=dE;omega
     ·rcases hd with ⟨h1,h2⟩ | hd
      ·omega
      ·subst hd;have:max 3 (dp g)+2 * (d'+1)<=n:=dE;omega
     ·rcases hd with ⟨h1,h2⟩ | hd
      ·subst h1 h2;exact ho
      ·subst hd
       exact ⟨ho.cl,ho.op,Nat.le_trans ho.np (rA d' _),Nat.le_trans ho.sz (rB d' _)⟩
    have built:∀ D:Ends,D.rt=Q->Ly (DW (Fc K n) [] E0 (BM (Bw 0) (BM (Bw 1) (BM (Bw 2) (BM (Bw 3) (BM (Xk (λxs H Q=>∃ i j,xs=[.int i,.int j]/\Q (.int (if j > i then j else i)) H) (BM (tC (.int 0)) (BM (Ft (LH λi j=>.int (i - j)) (Bw 4) (tC (.int 1))) Ez))) Ez)))))) D [some (.ref a),some (.int k),some rg,some (.ref l),some (.int d),some (.int m),some (.ref gl)] H2:=by
     intro D hD
     left
     refine ⟨_,_,rfl,?_⟩
     left
     rw [hD]
     cases d with
     | zero=>exact blt 0 (.inl ⟨rfl,rfl⟩)
     | succ d' =>
      rw [KD]
      have e:(if (d':Int) > 0 then (d':Int) else 0)=(d':Int):=by split <;> omega
      rw [e]
      exact blt d' (.inr rfl)
    refine Cu (λc1=>?_) λ_=>DH (built _ rfl)
    left
    refine Cu (λ_=>?_) λ_=>built _ rfl
    left
    cases d with
    | zero=>exact absurd (of_decide_eq_true c1) ⟨⟩
    | succ d' =>
     refine ⟨a,ns,k,g,rg,l,xs,d',by rw [KD],P2,?_,?_,(),λe r H3 s3 ha ho=>q e r H3 (Cq.trans s3) ha ho⟩
     ·have:max 3 (dp g)+2 * (d'+1)<=n:=dE
      omega
     ·omega
   ·left
    refine Cu (λ_=>?_) λ_=>rest
    left
    refine ⟨gl,_,rfl,.inl (AZ.of e2),?_⟩
    have GO:(0:Int) < (ys.length:Nat):=by
     cases ys with
     | nil=>simp at hc
     | cons x xs=>simp
    refine KC GO (BH (AZ.of e2) (Int.emod_nonneg _ ()) (Int.emod_lt_of_pos _ GO) λv hv=>?_)
    left
    intros p H3 s3 e3
    obtain ⟨x,hx,rfl⟩:=z2 v hv
    exact q (.nm x.1) _ _ (Cq.trans s3) ⟨p,rfl,e3⟩ ⟨List.mem_map.mpr ⟨x,hx,rfl⟩,trivial,Nat.zero_le _,Nat.le_trans (dB g) (rp d _)⟩
theorem B35:∀ d,B d 3+1<=B d 5
 | 0=>by simp [B]
 | d+1=>by have:=B35 d;simp only [B];omega
theorem rD:∀ d,C d 7+4<=C d 11
 | 0=>by simp [C]
 | d+1=>by have:=rD d;have:=Dy d (show 1+7<=1+11 by omega);simp only [C];omega
inductive S6 (K:W.Frag)(n:Nat)(vs:(List V))(H:Hp)(Q:VK)(z3:XK):Prop
 | mk (a:Addr) (ns:List Int) (k:Int) (g:Kd) (rg:V) (l:Addr) (xs:List (Str × Kd)) (d:Nat) (x:Str) (kd:Kd) (rk:V) (h1:vs=[.ref a,.int k,rg,.ref l,.int d,.str x,rk]) (h2:G' K H a ns g rg l xs) (h3:BU H kd rk) (h4:R' kd) (h5:dp kd<=2) (h6:max 3 (dp g)+2 * d+2<=n) (h7:max 3 (dp g)+d+1<=8) (h8:xs.length+2 * n<=1000) (h9:∀ e r H',An H H'->Br H' e r->Lr (Ls xs) (B (d+1) (pk g)) (C (d+1) (sk g)) e->Q r H'):S6 K n vs H Q z3
theorem BX {K:W.Frag}{n d:Nat}{H:Hp}{Q:VK}{E:XK}{a:Addr}{ns:List Int}{k:Int}{g:Kd}{rg:V}{l:Addr}{xs:List (Str × Kd)}{left:V}(P:G' K H a ns g rg l xs)(hd:left=.int d)(h3:dp g<=max 3 (n - 1 - 2 * d))(hn:2 * d+4<=n)(h8:max 3 (dp g)+d<=8)(hx:xs.length+2 * n<=1002)
  (q:∀ e r H',An H H'->Br H' e r->Lr (Ls xs) (B d (pk g)) (C d (sk g)) e->Q r H'):EL K n [.ref a,.int k,rg,.ref l,left] H Q E:=by
 subst hd
 cases n with
 | zero=>omega
 | succ n =>
  refine ⟨a,ns,k,g,rg,l,xs,d,rfl,P,?_,h8,(),q⟩
  cases d with
  | zero=>simp only [mu];omega
  | succ d=>simp only [mu];omega
theorem G'.with {K:W.Frag}{H:Hp}{a:Addr}{ns:List Int}{g g':Kd}{rg rg':V}{l l':Addr}{xs xs':List (Str × Kd)}(P:G' K H a ns g rg l xs)(hg:BU H g' rg')(gd:R' g')(hl:Iw H l' xs')(hx:∀ x∈xs',dp x.2<=8):G' K H a ns g' rg' l' xs':=⟨P.hs,hg,gd,hl,hx⟩
theorem Gr {xs more:List (Str × Kd)}{e:Ex}{ys:List Str}(h:e.cl (Ls (ri xs more)))(hm:∀ m∈more,m.1∈ys)(hx:∀ x∈Ls xs,x∈ys):e.cl ys:=by
 refine Ex.cl.mono (λz hz=>?_) h
 obtain ⟨y,hy,rfl⟩:=List.mem_map.mp hz
 rcases Fn hy with hy | hy
 ·exact hm y hy
 ·exact hx _ (List.mem_map.mpr ⟨y,hy,rfl⟩)
theorem FC:Ar ["_law_script","_law_k","_law_goal","_law_names","_law_deep","_law_a","_law_kind","_law_number","_law_one_here","_law_wide"] ["_law_script","_law_k","_law_goal","_law_names","_law_deep","_law_a","_law_kind"] (Ad CC):=nofun
theorem dF {n r:Nat}{f:Addr}{fd:FuncData}(F:Ck K "_law_let" "_law_let" CC f fd)(dD:11<=r)
  (cM:Cl Pr w K mg base 2 "_law_mix" FD (DR K)) (cV:Cl Pr w K mg base 1 "_law_with" ["_law_names","_law_more"] FW)
  (cD:Cl Pr w K mg base r "_law_made" HE (EL K n)) :
  AI Pr w K mg base BR (r+1) f fd ["_law_script","_law_k","_law_goal","_law_names","_law_deep","_law_a","_law_kind"] (S6 K n):=by
 refine F.okS FC (λvs H Q E h=>?_) (λBo A outer s H vs Q E hr h=>?_)
 ·obtain ⟨a,ns,k,g,rg,l,xs,d,x,kd,rk,rfl,_⟩:=h;rfl
 ·obtain ⟨a,ns,k,g,rg,l,xs,d,x,kd,rk,rfl,P,hk,gk,dk,dE,h8,hx,q⟩:=h
  have FA:AY 2 _:=hr.mono ()
  have Dd:AY 1 _:=hr.mono ()
  refine ⟨_,(Ae (Ax (i:=7) FC.nd rfl (.inl rfl) (B3 cM FA rfl (Aa (Af 0) (Aa (Aj AW (Af 1) Ac) Ab))))
   (Ae (Ax (i:=8) FC.nd rfl (.inl rfl) (Am (Aa Ag Ab)))
   (Ae (Ax (i:=9) FC.nd rfl (.inl rfl) (Am (Aa Ag (Aa (Am (Aa Ag (Aa Ac Ab))) Ab))))
   (Ae (B4 (Az AO (Aj AQ (Af 7) Ac) Ac (Ak _)) (Ae (Ax (i:=8) FC.nd rfl (.inl rfl) (Am (Aa Ag (Aa Ag (Aa (Am (Aa Ag (Aa Ag Ab))) Ab)))))
   (Ai (Ax (i:=9) FC.nd rfl (.inl rfl) (Am (Aa Ag (Aa (Am (Aa Ag (Aa Ac Ab))) (Aa (Am (Aa Ag (Aa Ac Ab))) Ab))))))) (Ai (B4 (Az AO (Aj AQ (Af 7) Ac) Ac (Ak _)) (Ae (Ax (i:=8) FC.nd rfl (.inl rfl) (Am (Aa Ag (Aa Ag (Aa (Am (Aa Ag (Aa (Am (Aa Ag (Aa Ag Ab))) (Aa (Am (Aa Ag (Aa Ag Ab))) Ab)))) Ab)))))
   (Ai (Ax (i:=9) FC.nd rfl (.inl rfl) (Am (Aa Ag (Aa (Am (Aa Ag (Aa Ac Ab))) (Aa (Am (Aa Ag (Aa (Am (Aa Ag (Aa Ac Ab))) (Aa (Am (Aa Ag (Aa Ac Ab))) Ab)))) Ab))))))) (Ai (B4 (Az AO (Aj AQ (Af 7) Ac) Ac (Ak _)) (Ae (Ax (i:=8) FC.nd rfl (.inl rfl) (B3 cD hr rfl (Aa (Af 0) (Aa (Aj AW (Aj Bh Ac (Af 1)) Ac) (Aa (Af 6) (Aa (Af 3) (Aa (Af 4) Ab)))))))
   (Ai (Ax (i:=9) FC.nd rfl (.inl rfl) (Af 6)))) AK)))))
   (Ai (Aw (Am (Aa Ag (Aa (Af 5) (Aa (Af 8) (Aa (B3 cD hr rfl (Aa (Af 0) (Aa (Aj AW (Aj Bh Ac (Af 1)) Ac) (Aa (Af 2) (Aa (B3 cV Dd rfl (Aa (Af 3) (Aa (AS (Aa (Am (Aa (Af 5) (Aa (Af 9) Ab))) Ab)) Ab))) (Aa (Af 4) Ab)))))) Ab))))))))))),?_⟩
  left
  refine ⟨a,ns,_,rfl,P.hs,λm hm=>?_⟩
  left
  intros p1 H1 s1 e1
  left
  intros p2 H2 s2 e2
  left
  intros p3 H3 s3 e3
  left
  have Et:=s1.trans (s2.trans s3)
  refine Hz (fun σ' H'=>Lu λe1 r1 wk rw=>σ'=[some (.ref a),some (.int k),some rg,some (.ref l),some (.int d),some (.str x),some rk,some (.int m),some r1,some rw]/\An H3 H'/\Br H' e1 r1/\e1.cl (Ls xs)/\e1.opk/\e1.np<=B d 3+1/\e1.sz<=C d 7+4/\BU H' wk rw/\dp wk<=8) ?_ λfin=>?_
  ·rintro σ' H' ⟨e1,r1,wk,rw,rfl,s4,a1,c1,o1,n1,z1,kw,dw⟩
   have Mx:=Et.trans s4
   left
   intros p4 H5 s5 e5
   left
   intros p5 H6 s6 e6
   left
   have TX:=s5.trans s6
   have nm1:Iw H6 p5 [(x,wk)]:=⟨_,e6,.cons ⟨p4,rw,rfl,s6 _ _ e5,BU.mono (Ay.of_same TX) kw⟩ .nil⟩
   refine ⟨l,p5,xs,[(x,wk)],rfl,P.hl.mono (Mx.trans TX),nm1,by simp;omega,λl2 H7 s7 Hl=>?_⟩
   left
   have P7:=P.mono (Mx.trans (TX.trans s7))
   refine BX (P7.with P7.hg P.gd Hl λy hy=>?_) rfl () () () ?_ λe2 r2 H8 s8 a2 o2=>?_
   ·rcases Fn hy with hy | hy
    ·rw [List.mem_singleton.mp hy];exact dw
    ·exact P.hx y hy
   ·have:=Gn xs [(x,wk)]
    simp at this;omega
   left
   intros p6 H9 s9 e9
   refine q (.lt x e1 e2) _ _ (Mx.trans (TX.trans (s7.trans (s8.trans s9)))) ⟨p6,r1,r2,rfl,e9,Br.mono (Ay.of_same (TX.trans (s7.trans (s8.trans s9)))) a1,Br.mono (Ay.of_same s9) a2⟩ ⟨⟨c1,?_⟩,⟨o1,o2.op⟩,?_,?_⟩
   ·exact Gr o2.cl (λm hm=>by rw [List.mem_singleton.mp hm];exact .head _) (λz hz=>.tail _ hz)
   ·have h1:=o2.np
    have h2:=Ei d (show 3<=5 by omega)
    have h3:=dC d 5
    have h4:=B35 d
    simp only [Ex.np,B];omega
   ·have h1:=o2.sz
    have h2:=rD d
    simp only [Ex.sz,C];omega
  ·refine Gb ?_
   left
   refine Cu (λ_=>?_) λ_=>?_
   ·left
    intros p4 H4 s4 e4
    left
    intros p5 H5 s5 e5
    left
    intros p6 H6 s6 e6
    left
    intros p7 H7 s7 e7
    left
    intros p8 H8 s8 e8
    exact fin _ _ ⟨.fn "y" (.nm "y"),.ref p5,.fn (.gap 0) (.gap 0),.ref p8,rfl,s4.trans (s5.trans (s6.trans (s7.trans s8))),⟨p5,.ref p4,rfl,s8 _ _ (s7 _ _ (s6 _ _ e5)),p4,rfl,s8 _ _ (s7 _ _ (s6 _ _ (s5 _ _ e4)))⟩,by simp [Ex.cl],trivial,by simp [Ex.np],by simp [Ex.sz],⟨p8,.ref p6,.ref p7,rfl,e8,⟨p6,rfl,s8 _ _ (s7 _ _ e6)⟩,⟨p7,rfl,s8 _ _ e7⟩⟩,by simp [dp]⟩
   left
   refine Cu (λ_=>?_) λ_=>?_
   ·left
    intros p4 H4 s4 e4
    left
    intros p5 H5 s5 e5
    left
    intros p6 H6 s6 e6
    left
    intros p7 H7 s7 e7
    left
    intros p8 H8 s8 e8
    left
    intros p9 H9 s9 e9
    left
    intros p10 IF De La
    left
    intros yx FT CL GX
    left
    intros ym RT Ew K3
    have t7:=s8.trans (s9.trans (De.trans (CL.trans Ew)))
    exact fin _ _ ⟨.fn "y" (.pr (.nm "y") (.nm "y")),.ref p7,.fn (.gap 0) (.pr (.gap 0) (.gap 0)),.ref ym,rfl,s4.trans (s5.trans (s6.trans (s7.trans t7))),⟨p7,.ref p6,rfl,t7 _ _ e7,p6,.ref p4,.ref p5,rfl,t7 _ _ (s7 _ _ e6),⟨p4,rfl,t7 _ _ (s7 _ _ (s6 _ _ (s5 _ _ e4)))⟩,⟨p5,rfl,t7 _ _ (s7 _ _ (s6 _ _ e5))⟩⟩,by simp [Ex.cl],⟨trivial,trivial⟩,by simp [Ex.np],by simp [Ex.sz],⟨ym,.ref p8,.ref yx,rfl,K3,⟨p8,rfl,Ew _ _ (CL _ _ (De _ _ (s9 _ _ e8)))⟩,yx,.ref p9,.ref p10,rfl,Ew _ _ GX,⟨p9,rfl,Ew _ _ (CL _ _ (De _ _ e9))⟩,⟨p10,rfl,Ew _ _ (CL _ _ La)⟩⟩,by simp [dp]⟩
   left
   have hk3:=BU.mono (Ay.of_same Et) hk
   refine Cu (λ_=>?_) λ_=>?_
   ·left
    have P3:=P.mono Et
    refine BX (P3.with hk3 gk P3.hl P.hx) rfl () () () () λe1 r1 H4 s4 a1 o1=>?_
    have hp:=pk2 dk
    refine Rh (JT (v:=rk) rfl ?_)
    exact fin _ _ ⟨e1,r1,kd,rk,rfl,s4,a1,o1.cl,o1.op,Nat.le_trans o1.np (Nat.le_trans (Ei d hp.1) ()),Nat.le_trans o1.sz (Nat.le_trans (Dy d hp.2) ()),BU.mono (Ay.of_same s4) hk3,()⟩
   ·exact fin _ _ ⟨.emp,.ref p1,.ls (.gap 0),.ref p3,rfl,An.refl _,⟨p1,rfl,s3 _ _ (s2 _ _ e1)⟩,trivial,trivial,by simp [Ex.np],by simp [Ex.sz],⟨p3,.ref p2,rfl,e3,p2,rfl,s3 _ _ e2⟩,by simp [dp]⟩
theorem CO:Ar ["_law_script","_law_k","_law_goal","_law_names","_law_deep","_law_number","_law_a","_law_b","_law_kind","_law_one_here","_law_other","_law_second","_law_word","_law_given","_law_last"] HE (Ad B'):=nofun
theorem S7 {n r:Nat}{f:Addr}{fd:FuncData}(F:Ck K "_law_taken" "_law_taken" B' f fd)(Jm:mg "int"=none)(dD:11<=r)
  (cM:Cl Pr w K mg base 2 "_law_mix" FD (DR K)) (cN:Cl Pr w K mg base 1 "_law_name" ["_law_number"] EJ) (cV:Cl Pr w K mg base 1 "_law_with" ["_law_names","_law_more"] FW)
  (cG:Cl Pr w K mg base 5 "_law_ground" ["_law_script","_law_k","_law_deep"] (DJ K 2))
  (cD:Cl Pr w K mg base r "_law_made" HE (EL K n)) (cL:Cl Pr w K mg base (r+1) "_law_let" ["_law_script","_law_k","_law_goal","_law_names","_law_deep","_law_a","_law_kind"] (S6 K n)) :
  AI Pr w K mg base BR (r+2) f fd HE (K6 K n):=by
 refine F.okS CO (λvs H Q E h=>?_) (λBo A outer s H vs Q E hr h=>?_)
 ·obtain ⟨a,ns,k,g,rg,l,xs,d,rfl,_⟩:=h;rfl
 ·obtain ⟨a,ns,k,g,rg,l,xs,d,rfl,P,dE,h8,hx,q⟩:=h
  have FA:AY 2 _:=hr.mono ()
  have Dd:AY 1 _:=hr.mono ()
  have hr4:AY 4 _:=hr.mono ()
  have mU:AY 5 _:=hr.mono ()
  have Y8:AY r _:=hr.mono ()
  refine ⟨_,(Ae (Ax (i:=5) CO.nd rfl (.inl rfl) (B3 cM FA rfl (Aa (Af 0) (Aa (Aj AW (Af 1) Ac) Ab))))
   (Ae (Ax (i:=6) CO.nd rfl (.inl rfl) (B3 cN Dd rfl (Aa (Aj B9 (Af 5) Ac) Ab)))
   (Ae (Ax (i:=7) CO.nd rfl (.inl rfl) (B3 cN Dd rfl (Aa (Aj B9 (Af 5) Ac) Ab)))
   (Ae (Ax (i:=8) CO.nd rfl (.inl rfl) (B3 cG mU rfl (Aa (Af 0) (Aa (Aj AW (Aj Bh Ac (Af 1)) Ac) (Aa (Aj AW Ac (Aj AQ (Aj B9 (Af 5) Ac) Ac)) Ab)))))
   (Ae (B4 (Az DD (Aj AQ (Af 5) Ac) Ac (Ak _)) (Ai (Aw (B3 cL hr rfl (Aa (Af 0) (Aa (Af 1) (Aa (Af 2) (Aa (Af 3) (Aa (Af 4) (Aa (Af 6) (Aa (Af 8) Ab)))))))))) AK)
   (Ae (B4 (Az AO (Aj AQ (Af 5) Ac) Ac (Ak _)) (Ae (Ax (i:=9) CO.nd rfl (.inl rfl) (B3 cD Y8 rfl (Aa (Af 0) (Aa (Aj AW (Aj Bh Ac (Af 1)) Ac) (Aa (Am (Aa Ag Ab)) (Aa (Af 3) (Aa (Af 4) Ab)))))))
   (Ae (Ax (i:=10) CO.nd rfl (.inl rfl) (B3 cD Y8 rfl (Aa (Af 0) (Aa (Aj AW (Aj Bh Ac (Af 1)) Ac) (Aa (Af 2) (Aa (Af 3) (Aa (Af 4) Ab)))))))
   (Ai (Aw (Am (Aa Ag (Aa (Af 9) (Aa (Af 10) (Aa (B3 cD Y8 rfl (Aa (Af 0) (Aa (Aj AW (Aj Bh Ac (Af 1)) Ac) (Aa (Af 2) (Aa (Af 3) (Aa (Af 4) Ab)))))) Ab))))))))) AK)
   (Ae (B4 (Az DD (Aj AQ (Af 5) Ac) Ac (Ak _)) (Ae (Ax (i:=9) CO.nd rfl (.inl rfl) (B3 cD Y8 rfl (Aa (Af 0) (Aa (Aj AW (Aj Bh Ac (Af 1)) Ac) (Aa (Am (Aa Ag (Aa (Af 8) (Aa (Af 2) Ab)))) (Aa (Af 3) (Aa (Af 4) Ab)))))))
   (Ai (Aw (Am (Aa Ag (Aa (Af 9) (Aa (B3 cD Y8 rfl (Aa (Af 0) (Aa (Aj AW (Aj Bh Ac (Af 1)) Ac) (Aa (Af 8) (Aa (Af 3) (Aa (Af 4) Ab)))))) Ab))))))) AK)
   (Ae (Ax (i:=11) CO.nd rfl (.inl rfl) (B3 cG mU rfl (Aa (Af 0) (Aa (Aj AW (Aj Bh Ac (Af 1)) Ac) (Aa Ac Ab)))))
   (Ae (Ax (i:=12) CO.nd rfl (.inl rfl) (Av AA (AS (Aa Ag (Aa Ag Ab))) (Aj Bx (Aj AQ (Af 5) Ac) Ac) AR))
   (Ae (Ax (i:=9) CO.nd rfl (.inl rfl) (B3 cD Y8 rfl (Aa (Af 0) (Aa (Aj AW (Aj Bh Ac (Af 1)) Ac) (Aa (Ks (Az AO (Af 12) Ag (Ak _)) (Am (Aa Ag (Aa (Af 8) (Aa (Af 11) Ab)))) (Am (Aa Ag (Aa (Af 8) Ab)))) (Aa (Af 3) (Aa (Af 4) Ab)))))))
   (Ae (Ax (i:=13) CO.nd rfl (.inl rfl) (DT Ff (AS (Aa (Am (Aa (Af 6) (Aa (Af 8) Ab))) (Aa (Am (Aa (Af 7) (Aa (Ks (Az AO (Af 12) Ag (Ak _)) (Af 11) (Am (Aa Ag (Aa (Af 8) Ab)))) Ab))) Ab))) (EE (Dj J3 (by rfl) Jm PyProof.Rows.boot_int (Aa (CP AO (Af 6) (Af 7) (Ak _)) Ab))) ED))
   (Ae (Ax (i:=14) CO.nd rfl (.inl rfl) (B3 cD Y8 rfl (Aa (Af 0) (Aa (Aj AW (Aj Bh Ac (Af 1)) Ac) (Aa (Af 2) (Aa (B3 cV Dd rfl (Aa (Af 3) (Aa (Af 13) Ab))) (Aa (Af 4) Ab)))))))
   (Ae (B4 (Az AO (Af 12) Ag (Ak _)) (Ai (Aw (Am (Aa Ag (Aa (Af 9) (Aa (Af 6) (Aa (Af 7) (Aa (Af 14) Ab)))))))) AK)
   (Ai (Aw (Am (Aa Ag (Aa (Af 9) (Aa (B3 cD Y8 rfl (Aa (Af 0) (Aa (Aj AW (Aj Bh Ac (Af 1)) Ac) (Aa (Af 2) (Aa (Af 3) (Aa (Af 4) Ab)))))) (Aa (Af 6) (Aa (Af 7) (Aa (Af 14) Ab)))))))))))))))))))))),?_⟩
  left
  refine ⟨a,ns,_,rfl,P.hs,λm hm=>?_⟩
  left
  refine ⟨_,rfl,λx H1 s1=>?_⟩
  left
  refine ⟨_,rfl,λy H2 s2=>?_⟩
  left
  have Cq:=s1.trans s2
  have lo:=Int.emod_nonneg (m / 200) (b:=2) ⟨⟩
  have hi:=Int.emod_lt_of_pos (m / 200) (b:=2) ⟨⟩
  refine ⟨a,ns,3 * k+7,(1+m / 200 % 2).toNat,?_,(),Cq.seq P.hs,λkd rk H3 s3 hk gk dk=>?_⟩
  ·rw [Int.toNat_of_nonneg ()]
  have dk2:dp kd<=2:=by omega
  have pk3:=pk2 dk2
  have Et:=Cq.trans s3
  have P3:=P.mono Et
  left
  refine Cu (λ_=>?_) λw1=>?_
  ·left
   exact ⟨a,ns,k,g,rg,l,xs,d,x,kd,rk,rfl,P3,hk,gk,dk2,dE,h8,hx,λe r H' s' ha ho=>q e r H' (Et.trans s') ha ho⟩
  left
  refine Cu (λ_=>?_) λw2=>?_
  ·left
   intros p1 H4 s4 e4
   left
   have P4:=P3.mono s4
   refine BX (P4.with (g':=.tru) ⟨p1,rfl,e4⟩ trivial P4.hl P.hx) rfl (by simp only [dp];omega) () (by simp only [dp];omega) () λe1 r1 H5 s5 a1 o1=>?_
   left
   have P5:=P4.mono s5
   refine BX P5 rfl () () () () λe2 r2 H6 s6 a2 o2=>?_
   left
   have P6:=P5.mono s6
   refine BX P6 rfl () () () () λe3 r3 H7 s7 a3 o3=>?_
   left
   intros p2 H8 s8 e8
   have n1:=o1.np
   have n2:=o2.np
   have n3:=o3.np
   have z1:=o1.sz
   have z2:=o2.sz
   have z3:=o3.sz
   have b3:=Ei d (show pk .tru<=3 by simp [pk])
   have c3:=Dy d (show sk .tru<=11 by simp [sk])
   refine q (.wh e1 e2 e3) _ _ (Et.trans (s4.trans (s5.trans (s6.trans (s7.trans s8))))) ⟨p2,r1,r2,r3,rfl,e8,Br.mono (Ay.of_same (s6.trans (s7.trans s8))) a1,Br.mono (Ay.of_same (s7.trans s8)) a2,Br.mono (Ay.of_same s8) a3⟩ ⟨⟨o1.cl,o2.cl,o3.cl⟩,⟨o1.op,o2.op,o3.op⟩,?_,?_⟩
   ·simp only [Ex.np,B];omega
   ·simp only [Ex.sz,C];omega
  left
  refine Cu (λ_=>?_) λw3=>?_
  ·left
   intros p1 H4 s4 e4
   left
   have P4:=P3.mono s4
   have yA:=BU.mono (Ay.of_same s4) hk
   refine BX (P4.with (g':=.fn kd g) ⟨p1,rk,rg,rfl,e4,yA,P4.hg⟩ ⟨gk,P.gd⟩ P4.hl P.hx) rfl (by simp only [dp];omega) () (by simp only [dp];omega) () λe1 r1 H5 s5 a1 o1=>?_
   left
   have P5:=P4.mono s5
   refine BX (P5.with (BU.mono (Ay.of_same s5) yA) gk P5.hl P.hx) rfl () () () () λe2 r2 H6 s6 a2 o2=>?_
   left
   intros p2 H8 s8 e8
   have n1:=o1.np
   have n2:=o2.np
   have z1:=o1.sz
   have z2:=o2.sz
   have b3:=Ei d pk3.1
   have c3:=Dy d (show sk kd<=11 by omega)
   refine q (.cal e1 e2) _ _ (Et.trans (s4.trans (s5.trans (s6.trans s8)))) ⟨p2,r1,r2,rfl,e8,Br.mono (Ay.of_same (s6.trans s8)) a1,Br.mono (Ay.of_same s8) a2⟩ ⟨⟨o1.cl,o2.cl⟩,⟨o1.op,o2.op⟩,?_,?_⟩
   ·simp only [pk] at n1
    simp only [Ex.np,B];omega
   ·simp only [sk] at z1
    simp only [Ex.sz,C];omega
  left
  refine ⟨a,ns,_,1,rfl,(),P3.hs,λsd rs H4 s4 Qh gs ds=>?_⟩
  have ps:=pk1 ds
  have P4:=P3.mono s4
  have yA:=BU.mono (Ay.of_same s4) hk
  left
  intros pw H5 s5 e5
  left
  have ne:∀ j:Int,¬ decide (V.int (m % 7)=V.int j)=true->m % 7≠j:=λj h z=>h (decide_eq_true (by rw [z]))
  have w2':=ne _ w2
  have w1':¬ m % 7 < 2:=λz=>w1 (decide_eq_true z)
  have w3':¬ m % 7 < 5:=λz=>w3 (decide_eq_true z)
  have lo7:=Int.emod_nonneg m (b:=7) ⟨⟩
  have hi7:=Int.emod_lt_of_pos m (b:=7) ⟨⟩
  have P5:=P4.mono s5
  have hk5:=BU.mono (Ay.of_same s5) yA
  have zA:=BU.mono (Ay.of_same s5) Qh
  have Fs:=Et.trans (s4.trans s5)
  have two:∀ z∈(if x=y then [y] else [x,y]),z=y\/z=x:=by
   intro z hz
   split at hz
   ·exact .inl (List.mem_singleton.mp hz)
   ·simp only [List.mem_cons,List.not_mem_nil,or_false] at hz
    exact hz.symm
  refine BH (AZ.of e5) () (by simp;omega) λv hv=>?_
  left
  have Ul:v=.str "open"\/v=.str "split":=by simpa using hv
  rcases Ul with rfl | rfl
  ·left
   refine Bc (decide_eq_true rfl) ?_
   left
   intros p1 H6 s6 e6
   left
   have P6:=P5.mono s6
   have rE:=BU.mono (Ay.of_same s6) hk5
   have hs6:=BU.mono (Ay.of_same s6) zA
   refine BX (P6.with (g':=.pr kd sd) ⟨p1,rk,rs,rfl,e6,rE,hs6⟩ ⟨gk,gs⟩ P6.hl P.hx) rfl (by simp only [dp];omega) () (by simp only [dp];omega) () λe1 r1 H7 s7 a1 o1=>?_
   left
   intros q1 H8 s8 e8
   left
   refine Bc (decide_eq_true rfl) ?_
   left
   intros q2 H9 s9 e9
   left
   intros q3 IF De La
   left
   refine .inr ⟨_,rfl,?_⟩
   left
   have Lg:=s7.trans (s8.trans (s9.trans De))
   have VP:=BU.mono (Ay.of_same Lg) rE
   have Ac6:=BU.mono (Ay.of_same Lg) hs6
   refine FL (AZ.of La) λq4 FT _ CL GX=>?_
   left
   have rF:=P6.mono (Lg.trans CL)
   have ent:∃ more:List (Str × Kd),Iw FT q4 more/\more.length<=2/\(∀ z∈more,z.1=y\/z.1=x)/\∀ z∈more,dp z.2<=8:=by
    have n1:VL FT (.ref q1) (x,kd):=⟨q1,rk,rfl,CL _ _ (De _ _ (s9 _ _ e8)),BU.mono (Ay.of_same CL) VP⟩
    have n2:VL FT (.ref q2) (y,sd):=⟨q2,rs,rfl,CL _ _ (De _ _ e9),BU.mono (Ay.of_same CL) Ac6⟩
    by_cases rG:x=y
    ·subst rG
     simp only [decide_true,↓reduceIte] at GX
     exact ⟨[(x,sd)],⟨_,GX,.cons n2 .nil⟩,by simp,by simp,by simp;omega⟩
    ·have ed:decide (V.str x=V.str y)=false:=by simp [rG]
     rw [ed] at GX
     exact ⟨[(x,kd),(y,sd)],⟨_,GX,.cons n1 (.cons n2 .nil)⟩,by simp,by simp,by simp;omega⟩
   obtain ⟨more,rH,qW,hmn,hmd⟩:=ent
   refine ⟨l,q4,xs,more,rfl,rF.hl,rH,(),λl2 RT Ew Hl=>?_⟩
   left
   have mW:=rF.mono Ew
   refine BX (mW.with mW.hg P.gd Hl λz hz=>?_) rfl () () () ?_ λe2 r2 mw F9 a2 o2=>?_
   ·rcases Fn hz with hz | hz
    ·exact hmd z hz
    ·exact P.hx z hz
   ·have:=Gn xs more
    omega
   left
   refine Bc (decide_eq_true rfl) ?_
   left
   intros p2 qz FR NJ
   have n1:=o1.np
   have n2:=o2.np
   have z1:=o1.sz
   have z2:=o2.sz
   have b3:=Ei d (show pk (.pr kd sd)<=5 by simp only [pk];omega)
   have c3:=Dy d (show sk (.pr kd sd)<=11 by simp only [sk];omega)
   refine q (.opn e1 x y e2) _ _ (Fs.trans (s6.trans (Lg.trans (CL.trans (Ew.trans (F9.trans FR)))))) ⟨p2,r1,r2,rfl,NJ,Br.mono (Ay.of_same (s8.trans (s9.trans (De.trans (CL.trans (Ew.trans (F9.trans FR))))))) a1,Br.mono (Ay.of_same FR) a2⟩ ⟨⟨o1.cl,?_⟩,⟨o1.op,o2.op⟩,?_,?_⟩
   ·refine Gr o2.cl (λm hm=>?_) (λz hz=>.tail _ (.tail _ hz))
    rcases hmn m hm with h | h
    ·rw [h];exact .head _
    ·rw [h];exact .tail _ (.head _)
   ·simp only [Ex.np,B];omega
   ·simp only [Ex.sz,C];omega
  ·left
   refine AN ⟨⟩ ?_
   left
   intros p1 H6 s6 e6
   left
   have P6:=P5.mono s6
   have rE:=BU.mono (Ay.of_same s6) hk5
   refine BX (P6.with (g':=.ls kd) ⟨p1,rk,rfl,e6,rE⟩ gk P6.hl P.hx) rfl (by simp only [dp];omega) () (by simp only [dp];omega) () λe1 r1 H7 s7 a1 o1=>?_
   left
   intros q1 H8 s8 e8
   left
   refine AN ⟨⟩ ?_
   left
   intros q0 H9' s9' zy
   left
   intros q2 H9 s9 e9
   left
   intros q3 IF De La
   left
   refine .inr ⟨_,rfl,?_⟩
   left
   have Lg:=s7.trans (s8.trans (s9'.trans (s9.trans De)))
   have VP:=BU.mono (Ay.of_same Lg) rE
   refine FL (AZ.of La) λq4 FT _ CL GX=>?_
   left
   have rF:=P6.mono (Lg.trans CL)
   have ent:∃ more:List (Str × Kd),Iw FT q4 more/\more.length<=2/\(∀ z∈more,z.1=y\/z.1=x)/\∀ z∈more,dp z.2<=8:=by
    have n1:VL FT (.ref q1) (x,kd):=⟨q1,rk,rfl,CL _ _ (De _ _ (s9 _ _ (s9' _ _ e8))),BU.mono (Ay.of_same CL) VP⟩
    have n2:VL FT (.ref q2) (y,.ls kd):=⟨q2,.ref q0,rfl,CL _ _ (De _ _ e9),q0,rk,rfl,CL _ _ (De _ _ (s9 _ _ zy)),BU.mono (Ay.of_same CL) VP⟩
    by_cases rG:x=y
    ·subst rG
     simp only [decide_true,↓reduceIte] at GX
     exact ⟨[(x,.ls kd)],⟨_,GX,.cons n2 .nil⟩,by simp,by simp,by simp [dp];omega⟩
    ·have ed:decide (V.str x=V.str y)=false:=by simp [rG]
     rw [ed] at GX
     exact ⟨[(x,kd),(y,.ls kd)],⟨_,GX,.cons n1 (.cons n2 .nil)⟩,by simp,by simp,by simp [dp];omega⟩
   obtain ⟨more,rH,qW,hmn,hmd⟩:=ent
   refine ⟨l,q4,xs,more,rfl,rF.hl,rH,(),λl2 RT Ew Hl=>?_⟩
   left
   have mW:=rF.mono Ew
   refine BX (mW.with mW.hg P.gd Hl λz hz=>?_) rfl () () () ?_ λe2 r2 mw F9 a2 o2=>?_
   ·rcases Fn hz with hz | hz
    ·exact hmd z hz
    ·exact P.hx z hz
   ·have:=Gn xs more
    omega
   left
   refine AN ⟨⟩ ?_
   left
   have P13:=mW.mono F9
   refine BX P13 rfl () () () () λe3 r3 H15 VA a3 o3=>?_
   left
   intros p2 qz FR NJ
   have n1:=o1.np
   have n2:=o2.np
   have z1:=o1.sz
   have z2:=o2.sz
   have n3:=o3.np
   have z3:=o3.sz
   have b3:=Ei d (show pk (.ls kd)<=3 by simp only [pk];omega)
   have c3:=Dy d (show sk (.ls kd)<=11 by simp only [sk];omega)
   refine q (.spl e1 e3 x y e2) _ _ (Fs.trans (s6.trans (Lg.trans (CL.trans (Ew.trans (F9.trans (VA.trans FR))))))) ⟨p2,r1,r3,r2,rfl,NJ,Br.mono (Ay.of_same (s8.trans (s9'.trans (s9.trans (De.trans (CL.trans (Ew.trans (F9.trans (VA.trans FR))))))))) a1,Br.mono (Ay.of_same FR) a3,Br.mono (Ay.of_same (VA.trans FR)) a2⟩ ⟨⟨o1.cl,o3.cl,?_⟩,⟨o1.op,o3.op,o2.op⟩,?_,?_⟩
   ·refine Gr o2.cl (λm hm=>?_) (λz hz=>.tail _ (.tail _ hz))
    rcases hmn m hm with h | h
    ·rw [h];exact .head _
    ·rw [h];exact .tail _ (.head _)
   ·simp only [Ex.np,B];omega
   ·simp only [Ex.sz,C];omega
noncomputable def PB (H1:Hp)(dG:List Str)(d:Nat)(ka kb:Kd):Nat->List V->Hp->Prop
 | 0,ys,H'=>ys=[]/\An H1 H'
 | 1,ys,H'=>An H1 H'/\Dn λe1 r1=>ys=[r1]/\Br H' e1 r1/\Lr dG (B d (pk ka)) (C d (sk ka)) e1
 | 2,ys,H'=>An H1 H'/\Lu λe1 r1 e2 r2=>ys=[r1,r2]/\Br H' e1 r1/\Lr dG (B d (pk ka)) (C d (sk ka)) e1/\Br H' e2 r2/\Lr dG (B d (pk kb)) (C d (sk kb)) e2
 | _,_,_=>False
theorem PB.same {H1:Hp}{dG:List Str}{d:Nat}{ka kb:Kd}:∀ {i:Nat} {ys:List V} {H':Hp},PB H1 dG d ka kb i ys H'->An H1 H'
 | 0,_,_,h=>h.2
 | 1,_,_,h=>h.1
 | 2,_,_,h=>h.1
 | _+3,_,_,h=>h.elim
theorem PB.len {H1:Hp}{dG:List Str}{d:Nat}{ka kb:Kd}:∀ {i:Nat} {ys:List V} {H':Hp},PB H1 dG d ka kb i ys H'->ys.length<=i
 | 0,_,_,h=>by rw [h.1];exact Nat.le_refl _
 | 1,_,_,⟨_,e1,r1,h,_⟩=>by rw [h];exact Nat.le_refl _
 | 2,_,_,⟨_,e1,r1,e2,r2,h,_⟩=>by rw [h];exact Nat.le_refl _
 | _+3,_,_,h=>h.elim
structure BSt (K:W.Frag)(H:Hp)(a:Addr)(ns:List Int)(g:Kd)(rg:V)(l:Addr)(xs:List (Str × Kd))(d n:Nat)(wl kl w1 w2:Addr)(o1 o2:Str)(ka kb:Kd)(ra rb:V):Prop where
 P:G' K H a ns g rg l xs
 hw:H wl=some (.dK [(.inr "number",.ref w1),(.inr "truth",.ref w2)])
 h1:H w1=some (.tup [.str "op",.str o1])
 h2:H w2=some (.tup [.str "op",.str o2])
 i1:Ex.isOp o1
 i2:Ex.isOp o2
 hk:H kl=some (.lst [ra,rb])
 h3:BU H ka ra
 h4:BU H kb rb
 g1:R' ka
 g2:R' kb
 m1:max 3 (dp ka)+d<=8
 m2:max 3 (dp kb)+d<=8
 u1:mu d ka+1<=n
 u2:mu d kb+1<=n
 c:(g=.pr ka kb)\/(0 < d/\(g=.num\/g=.tru)/\ka=.num/\kb=.num)\/(0 < d/\g=.ls ka/\kb=g)
theorem yB {K:W.Frag}{n d:Nat}{H:Hp}{Q:VK}{E:XK}{a:Addr}{ns:List Int}{k:Int}{g:Kd}{rg:V}{l:Addr}{xs:List (Str × Kd)}(P:G' K H a ns g rg l xs)(hu:mu d g+1<=n)(h8:max 3 (dp g)+d<=8)(hx:xs.length+2 * n<=1002)
  (q:∀ e r H',An H H'->Br H' e r->Lr (Ls xs) (B d (pk g)) (C d (sk g)) e->Q r H'):EL K n [.ref a,.int k,rg,.ref l,.int d] H Q E:=by
 cases n with
 | zero=>omega
 | succ n=>exact ⟨a,ns,k,g,rg,l,xs,d,rfl,P,(),h8,(),q⟩
theorem DC:Ar ["_law_script","_law_k","_law_goal","_law_names","_law_deep","_law_number","_law_a","_law_b","_law_inner","_law_words","_law_kinds","_law_pieces"] HE (Ad Bt):=nofun
theorem Pd {n r:Nat}{f:Addr}{fd:FuncData}(F:Ck K "_law_built" "_law_built" Bt f fd)(Eh:mg "list"=none)(Cp:mg "tuple"=none)(D1:mg "range"=none)(dD:11<=r)
  (cM:Cl Pr w K mg base 2 "_law_mix" FD (DR K)) (cN:Cl Pr w K mg base 1 "_law_name" ["_law_number"] EJ) (cV:Cl Pr w K mg base 1 "_law_with" ["_law_names","_law_more"] FW) (cI:Cl Pr w K mg base 1 "_law_int" ["_law_number"] Gj)
  (cD:Cl Pr w K mg base r "_law_made" HE (EL K n)) :
  AI Pr w K mg base BR (r+1) f fd HE (Fc K n):=by
 refine F.okS DC (λvs H Q E h=>?_) (λBo A outer s H vs Q E hr h=>?_)
 ·obtain ⟨a,ns,k,g,rg,l,xs,d,rfl,_⟩:=h;rfl
 ·obtain ⟨a,ns,k,g,rg,l,xs,d,rfl,P,mQ,dv,h8,hx,q⟩:=h
  have FA:AY 2 _:=hr.mono ()
  have Dd:AY 1 _:=hr.mono ()
  have Io:=hr.units
  have hu:=Jd hr
  have S:BG (DE BR Pr w K mg base ["_law_script","_law_k","_law_goal","_law_names","_law_deep","_law_number","_law_a","_law_b","_law_inner","_law_words","_law_kinds","_law_pieces"] "_law_built" (Ad Bt) f Bo A outer s H E).nox (CH (valueOf (inDef Bt 10))) [("_law_script",s.heap.objs.size+1),("_law_names",s.heap.objs.size+3),("_law_kinds",s.heap.objs.size+5),("_law_k",s.heap.objs.size+2),("_law_deep",s.heap.objs.size+4)] ["_law_j"] ["_law_script","_law_names","_law_kinds","_law_k","_law_deep"] [0,3,10,1,4] :=
   ⟨rfl,by decide +kernel,rfl,by decide +kernel,rfl,rfl,rfl,rfl⟩
  have IS:(["_law_j","_law_script","_law_names","_law_kinds","_law_k","_law_deep"]:List Str).Nodup:=by decide +kernel
  refine ⟨_,(Ae (Ax (i:=5) DC.nd rfl (.inl rfl) (B3 cM FA rfl (Aa (Af 0) (Aa (Aj AW (Af 1) Ac) Ab))))
   (Ae (Ax (i:=6) DC.nd rfl (.inl rfl) (B3 cN Dd rfl (Aa (Aj B9 (Af 5) Ac) Ab)))
   (Ae (Ax (i:=7) DC.nd rfl (.inl rfl) (B3 cN Dd rfl (Aa (Aj B9 (Af 5) Ac) Ab)))
   (Ae (B4 (Az AO (Av Al (Af 2) Ac AR) Ag (Ak _)) (Ae (Ax (i:=8) DC.nd rfl (.inl rfl) (B3 cV Dd rfl (Aa (Af 3) (Aa (AS (Aa (Am (Aa (Af 6) (Aa (Av Al (Af 2) Ac AR) Ab))) Ab)) Ab))))
   (Ae (B4 (ID (w_and (Az N0 (Af 6) (Af 7) (Ak _)) (DN (Az AO (Aj AQ (Af 5) Ac) Ac (Ak _))))) (Ae (Ax (i:=8) DC.nd rfl (.inl rfl) (B3 cV Dd rfl (Aa (Af 3) (Aa (AS (Aa (Am (Aa (Af 7) (Aa (Af 2) Ab))) (Aa (Am (Aa (Af 6) (Aa (Av Al (Af 2) Ac AR) Ab))) Ab))) Ab))))
   (Ai (Aw (Am (Aa Ag (Aa (Af 7) (Aa (Af 6) (Aa (B3 cD hr rfl (Aa (Af 0) (Aa (Aj AW (Aj Bh Ac (Af 1)) Ac) (Aa (Av Al (Af 2) Ac AR) (Aa (Af 8) (Aa (Af 4) Ab)))))) Ab)))))))) AK)
   (Ai (Aw (Am (Aa Ag (Aa (Af 6) (Aa (B3 cD hr rfl (Aa (Af 0) (Aa (Aj AW (Aj Bh Ac (Af 1)) Ac) (Aa (Av Al (Af 2) Ac AR) (Aa (Af 8) (Aa (Af 4) Ab)))))) Ab)))))))) AK)
   (Ae (B4 (ID (w_and (Az AO (Av Al (Af 2) Ac AR) Ag (Ak _)) (DN (ID (w_or (Az AO (Af 4) Ac (Ak _)) (Fy (Az AO (Aj AQ (Af 5) Ac) Ac (Ak _)))))))) (Ai (Aw (Am (Aa Ag Ab)))) AK)
   (Ae (B4 (ID (w_and (Az AO (Av Al (Af 2) Ac AR) Ag (Ak _)) (DN (ID (w_or (Az AO (Af 4) Ac (Ak _)) (Fy (Az AO (Aj AQ (Af 5) Ac) Ac (Ak _)))))))) (Ai (Aw (Am (Aa Ag (Aa (B3 cI Dd rfl (Aa (Aj B9 (Af 5) Ac) Ab)) Ab))))) AK)
   (Ae (B4 (ID (w_and (Az AO (Av Al (Af 2) Ac AR) Ag (Ak _)) (DN (ID (w_or (Az AO (Af 4) Ac (Ak _)) (Fy (Az AO (Aj AQ (Af 5) Ac) Ac (Ak _)))))))) (Ai (Aw (Am (Aa Ag (Aa (CP AO (Aj AQ (Aj B9 (Af 5) Ac) Ac) Ac (Ak _)) Ab))))) AK)
   (Ae (Ax (i:=9) DC.nd rfl (.inl rfl) (JN (Dk Ag (Am (Aa Ag (Aa (Av AA (AS (Aa Ag (Aa Ag Ab))) (Aj AQ (Aj B9 (Af 5) Ac) Ac) AR) Ab))) (Dk Ag (Am (Aa Ag (Aa (Av AA (AS (Aa Ag (Aa Ag Ab))) (Aj AQ (Aj B9 (Af 5) Ac) Ac) AR) Ab))) Nn)) rfl rfl (by simp) ⟨⟩))
   (Ae (Ax (i:=10) DC.nd rfl (.inr rfl) (Ks (Az AO (Av Al (Af 2) Ac AR) Ag (Ak _)) (AS (Aa (Av Al (Af 2) Ac AR) (Aa (Af 2) Ab))) (Dj EB (by rfl) Eh PyProof.Rows.boot_list (Aa (DT LU (Af 2) (EE Ac) ED) Ab))))
   (Ae (B4 (oJ hu (Av Al (Af 2) Ac AR) (Af 9)) (Ai (Ax (i:=10) DC.nd rfl (.inr rfl) (AS (Aa (Am (Aa Ag Ab)) (Aa (Am (Aa Ag Ab)) Ab))))) AK)
   (Ae (GR (i:=11) DC.nd rfl (.inl rfl) (tt:=IK) (te:=DW (EL K n) [] E0 (BM (Bw 1) (BM (Ft (LH λi j=>.int (i+j)) (Ft (LH λi j=>.int (i+j)) (Ft (rI Ug λi j=>.int (i * j)) (tC (.int 3)) (Bw 4)) (tC (.int 1))) (Bw 0)) (BM (Ft (LV K) (Bw 3) (Bw 0)) (BM (Bw 2) (BM (Bw 5) Ez)))))) S rfl (HW rfl D1 (Aa Ac Ab)) (λC s0 H0 ex=>C1 (i:=0) IS rfl (.inl rfl)) (λC s0 H0 ex=>Fz) (λC s0 H0 ex=>B3 cD hr rfl (Aa (Af 1) (Aa (Aj AW (Aj AW (Aj Bh Ac (Af 4)) Ac) (Af 0)) (Aa (Av AA (Af 3) (Af 0) AR) (Aa (Af 2) (Aa (Af 5) Ab)))))))
   (Ai (Aw (Aj N9 (G8 hu (Af 9) (Av Al (Af 2) Ac AR) (Am (Aa (G8 hu (JN (Dk Ag Ag Nn) rfl rfl (by simp) ⟨⟩) (Av Al (Af 2) Ac AR) Ag ⟨rfl,rfl,rfl,rfl⟩) Ab)) ⟨rfl,rfl,rfl,rfl⟩) (Dj Fu (by rfl) Cp PyProof.Rows.boot_tuple (Aa (Af 11) Ab)))))))))))))))),?_⟩
  refine OR (fun σ' H'=>mZ λ(m:Int) (x y:V) (o:Option V) (wl kl w1 w2:Addr) (o1 o2:Str) (ka kb:Kd) (ra rb:V)=>σ'=[some (.ref a),some (.int k),some rg,some (.ref l),some (.int d),some (.int m),some x,some y,o,some (.ref wl),some (.ref kl),none]/\An H H'/\BSt K H' a ns g rg l xs d n wl kl w1 w2 o1 o2 ka kb ra rb) ?_ λfin=>?_
  ·rintro σ' H1 ⟨m,x,y,o,wl,kl,w1,w2,o1,o2,ka,kb,ra,rb,rfl,yj,T⟩
   left
   refine ⟨2,rfl,⟨⟩,⟨⟩,?_⟩
   refine Ig (n:=2) (PB H1 (Ls xs) d ka kb) ⟨rfl,An.refl _⟩ (by exact DI ⟨⟩) (λi ys H' z=>z.len) rfl (λi ys H2 hi z=>?_) (λys H2 z=>?_)
   ·have s2:=z.same
    have P2:=T.P.mono s2
    have yC:=s2 _ _ T.hk
    have t2:=Ay.of_same s2
    left
    refine Dm ?_
    left
    cases i with
    | zero =>
     refine AX (AZ.of yC) (v:=ra) rfl ?_
     left
     refine yB (P2.with (BU.mono t2 T.h3) T.g1 P2.hl P2.hx) T.u1 T.m1 () λe r H3 s3 ha ho=>?_
     refine Nx.mk ⟨⟩ ⟨s2.trans s3,e,r,by rw [z.1];rfl,ha,ho⟩
    | succ i=>cases i with
     | zero =>
      obtain ⟨_,e1,r1,rfl,z2,z3⟩:=z
      refine AX (AZ.of yC) (v:=rb) rfl ?_
      left
      refine yB (P2.with (BU.mono t2 T.h4) T.g2 P2.hl P2.hx) T.u2 T.m2 () λe r H3 s3 ha ho=>?_
      refine Nx.mk ⟨⟩ ⟨s2.trans s3,e1,r1,e,r,rfl,Br.mono (Ay.of_same s3) z2,z3,ha,ho⟩
     | succ i=>omega
   ·obtain ⟨Ew,e1,r1,e2,r2,rfl,a1,k1,a2,k2⟩:=z
    intros pl H3 s3 e3
    left
    have F9:=Ew.trans s3
    have qK:=F9 _ _ T.hw
    have cO:=k1.op
    have n1:=k1.np
    have n2:=k2.np
    have z1:=k1.sz
    have z2:=k2.sz
    refine ⟨wl,rfl,.inl ⟨_,.inl qK⟩,?_⟩
    have pkb:B d (pk ka)<=B d (pk g)/\B d (pk kb)<=B d (pk g)/\C d (sk ka)<=C d (sk g)/\C d (sk kb)<=C d (sk g):=by
     rcases T.c with h | ⟨_,h | h,h1,h2⟩ | ⟨_,h,h1⟩
     ·subst h;exact ⟨Ei d (by simp only [pk];omega),Ei d (by simp only [pk];omega),Dy d (by simp only [sk];omega),Dy d (by simp only [sk];omega)⟩
     ·subst h h1 h2;exact ⟨Nat.le_refl _,Nat.le_refl _,Nat.le_refl _,Nat.le_refl _⟩
     ·subst h h1 h2;exact ⟨Nat.le_refl _,Nat.le_refl _,Nat.le_refl _,Nat.le_refl _⟩
     ·subst h1 h;exact ⟨Nat.le_refl _,Nat.le_refl _,Dy d (by simp only [sk];omega),Nat.le_refl _⟩
    have bnd:(0 < d\/g=.pr ka kb)->∀ e:Ex,e.np<=1+e1.np+e2.np->e.sz<=1+e1.sz+e2.sz->e.np<=Bb d (pk g)/\e.sz<=Cb d (sk g):=by
     intro hd e h1 h2
     cases d with
     | zero =>
      rcases hd with hd | hd
      ·omega
      ·subst hd
       simp only [B,C] at n1 n2 z1 z2
       simp only [Bb,Cb,pk,sk]
       omega
     | succ d=>simp only [Bb,Cb];omega
    have PL:0 < d\/g=.pr ka kb:=by
     rcases T.c with h | ⟨h,_⟩ | ⟨h,_⟩
     ·exact .inr h
     ·exact .inl h
     ·exact .inl h
    have last:∀ (H4:Hp) (pw:Addr) (ws:List V) (e:Ex),An H3 H4->H4 pw=some (.tup ws)->ws≠[]->ws.length<=2->(∀ H5 p,An H4 H5->H5 p=some (.tup (ws++[r1,r2]))->Br H5 e (.ref p))->Lr (Ls xs) (Bb d (pk g)) (Cb d (sk g)) e ->
      Xk (λxs H Q=>∃ p ys,xs=[.ref p]/\((AZ K H p ys/\∀ l,H l=none->Q (.ref l) (upd H l (.tup ys)))\/(AJ K H p ys/\Q (.ref p) H))) (BM (Bw 11) Ez) [some (.ref a),some (.int k),some rg,some (.ref l),some (.int d),some (.int m),some x,some y,o,some (.ref wl),some (.ref kl),some (.ref pl)] H4 λy' H5=>N8 K (.ref pw) y' H5 Q:=by
     intro H4 pw ws e s4 hw KL mB he hok
     left
     refine ⟨pl,_,rfl,.inl ⟨AZ.of (s4 _ _ e3),λp hp=>?_⟩⟩
     have s5:An H4 (upd H4 p (.tup [r1,r2])):=An.new hp
     refine V9 (AJ.of (s5 _ _ hw)) (AJ.of Ap) KL (BB (by simp;omega)) (λz=>by cases z) λp6 H6 _ s6 e6=>?_
     exact q e _ H6 (yj.trans (F9.trans (s4.trans (s5.trans s6)))) (he H6 p6 (s5.trans s6) e6) hok
    have mE:∀ {H5:Hp},An H3 H5->Br H5 e1 r1/\Br H5 e2 r2:=λh=>⟨Br.mono (Ay.of_same (s3.trans h)) a1,Br.mono (Ay.of_same (s3.trans h)) a2⟩
    have cs:Iv7 λ(pg:Addr) (wd:Str) (us:List V) (z1:V) (o2:Option Addr) (ws:List V) (e:Ex)=>rg=.ref pg/\H3 pg=some (.tup (.str wd::us))/\(Cy [(.inr "pair",V.str "pair")] (Sum.inr wd:Key)).getD (.str "link")=z1/\Cy [(.inr "number",V.ref w1),(.inr "truth",V.ref w2)] (Sum.inr wd:Key)=o2.map V.ref /\
      (o2=none->ws=[z1])/\(∀ p,o2=some p->H3 p=some (.tup ws))/\ws≠[]/\ws.length<=2/\(∀ H5 p,An H3 H5->H5 p=some (.tup (ws++[r1,r2]))->Br H5 e (.ref p))/\Lr (Ls xs) (Bb d (pk g)) (Cb d (sk g)) e:=by
     have hG:=BU.mono (Ay.of_same F9) T.P.hg
     have b:=bnd PL
     rcases T.c with h | ⟨_,h | h,h1,h2⟩ | ⟨_,h,h1⟩
     ·subst h
      obtain ⟨pg,ga,gb,rfl,hg,_⟩:=hG
      have b:=b (.pr e1 e2) (by simp only [Ex.np];omega) (by simp only [Ex.sz];omega)
      exact ⟨pg,_,_,.str "pair",none,[.str "pair"],.pr e1 e2,rfl,hg,rfl,rfl,λ_=>rfl,λp z=>(by cases z),by simp,by simp,λH5 p s5 h5=>⟨p,r1,r2,rfl,h5,mE s5⟩,⟨⟨k1.cl,k2.cl⟩,⟨k1.op,k2.op⟩,b.1,b.2⟩⟩
     ·subst h
      obtain ⟨pg,rfl,hg⟩:=hG
      have b:=b (.op o1 e1 e2) (by simp only [Ex.np];omega) (by simp only [Ex.sz];omega)
      exact ⟨pg,_,_,.str "link",some w1,[.str "op",.str o1],.op o1 e1 e2,rfl,hg,rfl,rfl,λz=>(by cases z),λp z=>(by cases z;exact F9 _ _ T.h1),by simp,by simp,λH5 p s5 h5=>⟨p,r1,r2,rfl,h5,mE s5⟩,⟨⟨k1.cl,k2.cl⟩,⟨T.i1,k1.op,k2.op⟩,b.1,b.2⟩⟩
     ·subst h
      obtain ⟨pg,rfl,hg⟩:=hG
      have b:=b (.op o2 e1 e2) (by simp only [Ex.np];omega) (by simp only [Ex.sz];omega)
      exact ⟨pg,_,_,.str "link",some w2,[.str "op",.str o2],.op o2 e1 e2,rfl,hg,rfl,rfl,λz=>(by cases z),λp z=>(by cases z;exact F9 _ _ T.h2),by simp,by simp,λH5 p s5 h5=>⟨p,r1,r2,rfl,h5,mE s5⟩,⟨⟨k1.cl,k2.cl⟩,⟨T.i2,k1.op,k2.op⟩,b.1,b.2⟩⟩
     ·subst h
      obtain ⟨pg,ga,rfl,hg,_⟩:=hG
      have b:=b (.lk e1 e2) (by simp only [Ex.np];omega) (by simp only [Ex.sz];omega)
      exact ⟨pg,_,_,.str "link",none,[.str "link"],.lk e1 e2,rfl,hg,rfl,rfl,λ_=>rfl,λp z=>(by cases z),by simp,by simp,λH5 p s5 h5=>⟨p,r1,r2,rfl,h5,mE s5⟩,⟨⟨k1.cl,k2.cl⟩,⟨k1.op,k2.op⟩,b.1,b.2⟩⟩
    obtain ⟨pg,wd,us,z1,o2',ws,e,rfl,hg,hz,ho,hn1,mh,KL,mB,Rn,hok⟩:=cs
    left
    refine Ah (AJ.of hg) (v:=.str wd) (Au (j:=0) rfl) ?_
    left
    refine HA λp4 H4 qd s4 e4=>?_
    left
    refine ⟨e4,[(.inr "pair",.str "pair")],rfl,⟨⟩,λH5 o5 e5=>?_⟩
    have Y4:An H3 H5:=λb o hb=>by
     have cc:b≠p4:=λz=>by rw [z,qd] at hb;cases hb
     rw [o5 b cc];exact s4 _ _ hb
    refine ⟨p4,rfl,.inl ⟨_,.inl e5⟩,?_⟩
    left
    refine Ah (AJ.of (Y4 _ _ hg)) (v:=.str wd) (Au (j:=0) rfl) ?_
    left
    refine ⟨_,Eg.k (k:=.inr wd) e5,?_⟩
    have hz':(Cy (Di [] [(Sum.inr "pair",V.str "pair")]) (Sum.inr wd:Key)).getD (.str "link")=z1:=hz
    left
    rw [hz']
    intros p6 H6 s6 e6
    have mX:=Y4.trans s6
    refine ⟨_,Eg.k (k:=.inr wd) (mX _ _ qK),?_⟩
    rw [ho]
    cases o2' with
    | none=>exact last H6 p6 ws e mX (by rw [hn1 rfl];exact e6) KL mB (λH5 p s5 h5=>Rn H5 p (mX.trans s5) h5) hok
    | some p7=>exact last H6 p7 ws e mX (mX _ _ (mh p7 rfl)) KL mB (λH5 p s5 h5=>Rn H5 p (mX.trans s5) h5) hok
  ·left
   refine ⟨a,ns,_,rfl,P.hs,λm hm=>?_⟩
   left
   refine ⟨_,rfl,λx H1 s1=>?_⟩
   left
   refine ⟨_,rfl,λy H2 s2=>?_⟩
   left
   have Cq:=s1.trans s2
   have P2:=P.mono Cq
   obtain ⟨pg,us,rfl,hg,_⟩:=BU.look P2.hg
   refine Ah (AJ.of hg) (v:=.str (word g)) (Au (j:=0) rfl) ?_
   left
   have rest:(Dn λg1 g2=>g=.fn g1 g2)\/word g="number"\/word g="truth"\/word g="pair"\/word g="list":=by
    have:=P.gd
    cases g with
    | num=>exact .inr (.inl rfl)
    | tru=>exact .inr (.inr (.inl rfl))
    | gap i=>exact this.elim
    | fn a b=>exact .inl ⟨a,b,rfl⟩
    | pr a b=>exact .inr (.inr (.inr (.inl rfl)))
    | ls a=>exact .inr (.inr (.inr (.inr rfl)))
   rcases rest with ⟨g1,g2,rfl⟩ | rest
   ·refine Bc (decide_eq_true rfl) ?_
    obtain ⟨p0,r1,r2,e0,Ka,hk1,yC⟩:=P2.hg
    cases e0
    left
    refine Ah (AJ.of Ka) (v:=r1) rfl ?_
    left
    intros q1 H3 s3 e3
    left
    intros q2 H4 s4 e4
    left
    have K9:=s3.trans s4
    have P4:=P2.mono K9
    have dk:dp (Kd.fn g1 g2)=max (dp g1) (dp g2)+1:=rfl
    have VN:mu d g2+1<=n:=by
     cases d with
     | zero=>have:=mQ rfl;simp only [mu];omega
     | succ d=>have:=dv (Nat.succ_pos _);simp only [mu];omega
    have bnd:∀ (e0 e:Ex),e0.np<=B d (pk g2)->e0.sz<=C d (sk g2)->e.np=e0.np->e.sz=1+e0.sz->e.np<=Bb d (pk (.fn g1 g2))/\e.sz<=Cb d (sk (.fn g1 g2)):=by
     intro e0 e h1 h2 h3 h4
     cases d with
     | zero=>simp only [B,C] at h1 h2;simp only [Bb,Cb,pk,sk];omega
     | succ d =>
      have:=Dy (d+1) (show sk g2<=1+sk g2 by omega)
      simp only [Bb,Cb,pk,sk];omega
    refine ⟨l,q2,xs,[(x,g1)],rfl,P4.hl,⟨_,e4,.cons ⟨q1,r1,rfl,s4 _ _ e3,BU.mono (Ay.of_same K9) hk1⟩ .nil⟩,by simp;omega,λl2 H5 s5 Hl=>?_⟩
    left
    have P5:=P4.mono s5
    have rJ:=BU.mono (Ay.of_same (K9.trans s5)) yC
    have Ada:=BU.mono (Ay.of_same (K9.trans s5)) hk1
    have hg5:=s5 _ _ (K9 _ _ Ka)
    refine aG ?_ λKL other=>?_
    ·left
     refine Ah (AJ.of hg5) (v:=r2) rfl ?_
     left
     refine yB (P5.with rJ P.gd.2 Hl λz hz=>?_) VN () ?_ λe2 r2' H6 s6 a2 o2=>?_
     ·rcases Fn hz with hz | hz
      ·rw [List.mem_singleton.mp hz];show dp g1<=8;omega
      ·exact P.hx z hz
     ·have:=Gn xs [(x,g1)];simp at this;omega
     left
     intros p7 H7 s7 e7
     have b:=bnd e2 (.fn x e2) o2.np o2.sz rfl rfl
     refine q (.fn x e2) _ _ (Cq.trans (K9.trans (s5.trans (s6.trans s7)))) ⟨p7,r2',rfl,e7,Br.mono (Ay.of_same s7) a2⟩ ⟨?_,o2.op,b.1,b.2⟩
     exact show e2.cl (x::Ls xs) from Gr o2.cl (λm hm=>by rw [List.mem_singleton.mp hm];exact .head _) (λz hz=>.tail _ hz)
    ·left
     refine Cu (λ_=>?_) λ_=>other
     left
     intros q3 H6 s6 e6
     left
     refine Ah (AJ.of (s6 _ _ hg5)) (v:=r1) rfl ?_
     left
     intros q4 H7 s7 e7
     left
     intros q5 H8 s8 e8
     left
     have rK:=s6.trans (s7.trans s8)
     have P8:=P5.mono rK
     refine ⟨l,q5,xs,[(y,.fn g1 g2),(x,g1)],rfl,P8.hl,⟨_,e8,.cons ⟨q3,.ref pg,rfl,s8 _ _ (s7 _ _ e6),P8.hg⟩ (.cons ⟨q4,r1,rfl,s8 _ _ e7,BU.mono (Ay.of_same rK) Ada⟩ .nil)⟩,by simp;omega,λl3 H9 s9 qf=>?_⟩
     left
     have P9:=P8.mono s9
     refine Ah (AJ.of (s9 _ _ (rK _ _ hg5))) (v:=r2) rfl ?_
     left
     refine yB (P9.with (BU.mono (Ay.of_same (rK.trans s9)) rJ) P.gd.2 qf λz hz=>?_) VN () ?_ λe2 r2' IF De a2 o2=>?_
     ·rcases Fn hz with hz | hz
      ·simp only [List.mem_cons,List.not_mem_nil,or_false] at hz
       rcases hz with rfl | rfl
       ·show dp (Kd.fn g1 g2)<=8;omega
       ·show dp g1<=8;omega
      ·exact P.hx z hz
     ·have:=Gn xs [(y,.fn g1 g2),(x,g1)];simp at this;omega
     left
     intros p7 FT CL GX
     have b:=bnd e2 (.rc y x e2) o2.np o2.sz rfl rfl
     refine q (.rc y x e2) _ _ (Cq.trans (K9.trans (s5.trans (rK.trans (s9.trans (De.trans CL)))))) ⟨p7,r2',rfl,GX,Br.mono (Ay.of_same CL) a2⟩ ⟨?_,o2.op,b.1,b.2⟩
     refine show e2.cl (x::y::Ls xs) from Gr o2.cl (λm hm=>?_) (λz hz=>.tail _ (.tail _ hz))
     simp only [List.mem_cons,List.not_mem_nil,or_false] at hm
     rcases hm with rfl | rfl
     ·exact .tail _ (.head _)
     ·exact .head _
   ·refine AN (by rcases rest with h | h | h | h <;> rw [h] <;> decide) ?_
    refine Rj (fun σ' H'=>σ'=[some (.ref a),some (.int k),some (.ref pg),some (.ref l),some (.int d),some (.int m),some (.str x),some (.str y),none,none,none,none]/\An H H'/\(d=0->Dn λa b=>g=.pr a b)) ?_ λfin2=>?_
    ·rintro σ' H3 ⟨rfl,Et,hd⟩
     left
     refine HA λp4 H4 qd s4 e4=>?_
     left
     intros l1 H5 s5 e5
     left
     refine BH (AZ.of e5) (Int.emod_nonneg _ ⟨⟩) (Int.emod_lt_of_pos _ ⟨⟩) λv1 V6=>?_
     left
     intros w1 H6 s6 e6
     left
     intros l2 H7 s7 e7
     left
     refine BH (AZ.of e7) (Int.emod_nonneg _ ⟨⟩) (Int.emod_lt_of_pos _ ⟨⟩) λv2 ya=>?_
     left
     intros w2 H8 s8 e8
     left
     have yD:=s5.trans (s6.trans (s7.trans s8))
     refine ⟨yD _ _ e4,[(.inr "number",.ref w1),(.inr "truth",.ref w2)],rfl,Nat.le_of_ble_eq_true rfl,λH9 o9 e9=>?_⟩
     have s39:An H3 H9:=λb o hb=>by
      have cc:b≠p4:=λz=>by rw [z,qd] at hb;cases hb
      rw [o9 b cc];exact yD _ _ (s4 _ _ hb)
     have ow:∀ b o,H8 b=some o->b≠p4->H9 b=some o:=λb o hb KL=>by rw [o9 b KL];exact hb
     have yE:H9 w1=some (.tup [.str "op",v1]):=ow _ _ (s8 _ _ (s7 _ _ e6)) (λz=>by have h1:=s8 _ _ (s7 _ _ e6);have h2:=yD _ _ e4;rw [z,h2] at h1;cases h1)
     have yF:H9 w2=some (.tup [.str "op",v2]):=ow _ _ e8 (λz=>by have h1:=e8;have h2:=yD _ _ e4;rw [z,h2] at h1;cases h1)
     obtain ⟨o1,rfl,yG⟩:∃ o1,v1=.str o1/\Ex.isOp o1:=by
      simp only [List.mem_cons,List.not_mem_nil,or_false] at V6
      rcases V6 with rfl | rfl
      ·exact ⟨_,rfl,.inl rfl⟩
      ·exact ⟨_,rfl,.inr (.inl rfl)⟩
     obtain ⟨o2,rfl,yH⟩:∃ o2,v2=.str o2/\Ex.isOp o2:=by
      simp only [List.mem_cons,List.not_mem_nil,or_false] at ya
      rcases ya with rfl | rfl
      ·exact ⟨_,rfl,.inr (.inr (.inl rfl))⟩
      ·exact ⟨_,rfl,.inr (.inr (.inr rfl))⟩
     left
     have P9:=P.mono (Et.trans s39)
     have XT:=Et.trans s39
     cases g with
     | gap i=>exact P.gd.elim
     | fn a b=>exact (by rcases rest with h | h | h | h <;> exact absurd (show (Str.ofString "fun")=_ from h) ⟨⟩)
     | ls ka =>
      obtain ⟨p0,ga,e0,Ka,rj⟩:=P9.hg
      cases e0
      refine Ah (AJ.of Ka) (v:=.str "list") rfl ?_
      left
      refine Bc (decide_eq_true rfl) ?_
      left
      refine Ah (AJ.of Ka) (v:=ga) rfl ?_
      left
      intros kl IF De La
      left
      refine Ah (AJ.of (De _ _ Ka)) (v:=.str "list") rfl ?_
      left
      refine ⟨p4,_,rfl,Eg.k (k:=.inr "list") (De _ _ e9),?_⟩
      left
      refine AN (by show ¬ (false=true);decide) ?_
      have d0:0 < d:=Nat.pos_of_ne_zero λz=>by obtain ⟨_,_,h⟩:=hd z;cases h
      have h1:=dv d0
      have dk:dp (Kd.ls ka)=dp ka+1:=rfl
      refine fin _ _ ⟨m,.str x,.str y,none,p4,kl,w1,w2,o1,o2,ka,.ls ka,ga,.ref pg,rfl,XT.trans De,P9.mono De,De _ _ e9,De _ _ yE,De _ _ yF,yG,yH,La,BU.mono (Ay.of_same De) rj,BU.mono (Ay.of_same De) P9.hg,P.gd,P.gd,(),(),?_,?_,.inr (.inr ⟨d0,rfl,rfl⟩)⟩
      ·cases d with
       | zero=>omega
       | succ d=>simp only [mu];omega
      ·cases d with
       | zero=>omega
       | succ d=>simp only [mu];omega
     | pr ka kb =>
      obtain ⟨p0,ga,gb,e0,Ka,rj,hgb⟩:=P9.hg
      cases e0
      refine Ah (AJ.of Ka) (v:=.str "pair") rfl ?_
      left
      refine AN ⟨⟩ ?_
      left
      refine JU (AJ.of Ka) (λz=>absurd (show (1:Nat)=0 from z.1) ⟨⟩) λp5 IF _ De La=>?_
      left
      refine ⟨p5,_,rfl,.inr (AJ.of La),λkl hl=>?_⟩
      have CL:An IF (upd IF kl (.lst (D2 [.str "pair",ga,gb] (some 1) none))):=An.new hl
      have GX:(upd IF kl (.lst (D2 [.str "pair",ga,gb] (some 1) none))) kl=some (.lst [ga,gb]):=Ap
      generalize (upd IF kl (.lst (D2 [.str "pair",ga,gb] (some 1) none)))=FT at CL GX ⊢
      have Fd:=De.trans CL
      left
      refine Ah (AJ.of (Fd _ _ Ka)) (v:=.str "pair") rfl ?_
      left
      refine ⟨p4,_,rfl,Eg.k (k:=.inr "pair") (Fd _ _ e9),?_⟩
      left
      refine AN (by show ¬ (false=true);decide) ?_
      have dk:dp (Kd.pr ka kb)=max (dp ka) (dp kb)+1:=rfl
      refine fin _ _ ⟨m,.str x,.str y,none,p4,kl,w1,w2,o1,o2,ka,kb,ga,gb,rfl,XT.trans Fd,P9.mono Fd,Fd _ _ e9,Fd _ _ yE,Fd _ _ yF,yG,yH,GX,BU.mono (Ay.of_same Fd) rj,BU.mono (Ay.of_same Fd) hgb,P.gd.1,P.gd.2,(),(),?_,?_,.inl rfl⟩
      ·cases d with
       | zero=>have:=mQ rfl;simp only [mu];omega
       | succ d=>have:=dv (Nat.succ_pos _);simp only [mu];omega
      ·cases d with
       | zero=>have:=mQ rfl;simp only [mu];omega
       | succ d=>have:=dv (Nat.succ_pos _);simp only [mu];omega
     | num =>
      obtain ⟨p0,e0,Ka⟩:=P9.hg
      cases e0
      refine Ah (AJ.of Ka) (v:=.str "number") rfl ?_
      left
      refine AN ⟨⟩ ?_
      left
      refine JU (AJ.of Ka) (λz=>absurd (show (1:Nat)=0 from z.1) ⟨⟩) λp5 IF _ De La=>?_
      left
      refine ⟨p5,_,rfl,.inr (AJ.of La),λkl hl=>?_⟩
      have CL:=An.new (o:=.lst (D2 [.str "number"] (some 1) none)) hl
      generalize upd IF kl (.lst (D2 [.str "number"] (some 1) none))=FT at CL ⊢
      have Fd:=De.trans CL
      left
      refine Ah (AJ.of (Fd _ _ Ka)) (v:=.str "number") rfl ?_
      left
      refine ⟨p4,_,rfl,Eg.k (k:=.inr "number") (Fd _ _ e9),?_⟩
      left
      refine Bc rfl ?_
      left
      intros q1 RT Ew K3
      left
      intros q2 mw F9 qy
      left
      intros q3 qz FR NJ
      have Iz:=Fd.trans (Ew.trans (F9.trans FR))
      have d0:0 < d:=Nat.pos_of_ne_zero λz=>by obtain ⟨_,_,h⟩:=hd z;cases h
      have h1:=dv d0
      have dk:dp Kd.num=0:=rfl
      refine fin _ _ ⟨m,.str x,.str y,none,p4,q3,w1,w2,o1,o2,.num,.num,.ref q1,.ref q2,rfl,XT.trans Iz,P9.mono Iz,Iz _ _ e9,Iz _ _ yE,Iz _ _ yF,yG,yH,NJ,⟨q1,rfl,FR _ _ (F9 _ _ K3)⟩,⟨q2,rfl,FR _ _ qy⟩,P.gd,P.gd,(),(),?_,?_,.inr (.inl ⟨d0,.inl rfl,rfl,rfl⟩)⟩
      ·cases d with
       | zero=>omega
       | succ d=>simp only [mu];omega
      ·cases d with
       | zero=>omega
       | succ d=>simp only [mu];omega
     | tru =>
      obtain ⟨p0,e0,Ka⟩:=P9.hg
      cases e0
      refine Ah (AJ.of Ka) (v:=.str "truth") rfl ?_
      left
      refine AN ⟨⟩ ?_
      left
      refine JU (AJ.of Ka) (λz=>absurd (show (1:Nat)=0 from z.1) ⟨⟩) λp5 IF _ De La=>?_
      left
      refine ⟨p5,_,rfl,.inr (AJ.of La),λkl hl=>?_⟩
      have CL:=An.new (o:=.lst (D2 [.str "truth"] (some 1) none)) hl
      generalize upd IF kl (.lst (D2 [.str "truth"] (some 1) none))=FT at CL ⊢
      have Fd:=De.trans CL
      left
      refine Ah (AJ.of (Fd _ _ Ka)) (v:=.str "truth") rfl ?_
      left
      refine ⟨p4,_,rfl,Eg.k (k:=.inr "truth") (Fd _ _ e9),?_⟩
      left
      refine Bc rfl ?_
      left
      intros q1 RT Ew K3
      left
      intros q2 mw F9 qy
      left
      intros q3 qz FR NJ
      have Iz:=Fd.trans (Ew.trans (F9.trans FR))
      have d0:0 < d:=Nat.pos_of_ne_zero λz=>by obtain ⟨_,_,h⟩:=hd z;cases h
      have h1:=dv d0
      have dk:dp Kd.num=0:=rfl
      have dk':dp Kd.tru=0:=rfl
      refine fin _ _ ⟨m,.str x,.str y,none,p4,q3,w1,w2,o1,o2,.num,.num,.ref q1,.ref q2,rfl,XT.trans Iz,P9.mono Iz,Iz _ _ e9,Iz _ _ yE,Iz _ _ yF,yG,yH,NJ,⟨q1,rfl,FR _ _ (F9 _ _ K3)⟩,⟨q2,rfl,FR _ _ qy⟩,P.gd,P.gd,(),(),?_,?_,.inr (.inl ⟨d0,.inr rfl,rfl,rfl⟩)⟩
      ·cases d with
       | zero=>omega
       | succ d=>simp only [mu];omega
      ·cases d with
       | zero=>omega
       | succ d=>simp only [mu];omega
    ·left
     refine Ah (AJ.of hg) (v:=.str (word g)) (Au (j:=0) rfl) ?_
     left
     have ne:∀ j:Int,¬ decide (V.int d=V.int j)=true->(d:Int)≠j:=λj h z=>h (decide_eq_true (by rw [z]))
     have Auw:word g="number"\/word g="truth"\/word g="pair"->∀ {A B:Prop},B->if decide (V.str (word g)=V.str "list")=true then A else B:=λh A B hB=>AN (by rcases h with h | h | h <;> rw [h] <;> decide) hB
     cases g with
     | gap i=>exact P.gd.elim
     | fn a b=>exact (by rcases rest with h | h | h | h <;> exact absurd (show (Str.ofString "fun")=_ from h) ⟨⟩)
     | ls ka =>
      refine Bc (decide_eq_true rfl) ?_
      left
      refine m6 ?_ λh1 emp=>?_
      ·left
       intros p3 H3 s3 e3
       exact q .emp _ _ (Cq.trans s3) ⟨p3,rfl,e3⟩ ⟨trivial,trivial,Nat.zero_le _,by cases d <;> simp only [Cb,Ex.sz,sk] <;> omega⟩
      ·left
       refine Cu (λ_=>emp) λ_=>?_
       left
       refine Ah (AJ.of hg) (v:=.str "list") (Au (j:=0) rfl) ?_
       left
       refine AN ⟨⟩ (DH ?_)
       left
       refine Ah (AJ.of hg) (v:=.str "list") (Au (j:=0) rfl) ?_
       left
       refine AN ⟨⟩ (DH ?_)
       exact fin2 _ _ ⟨rfl,Cq,λz=>absurd (ne 0 h1) (by simp [z])⟩
     | pr ka kb =>
      refine AN (show ¬ decide (V.str "pair"=V.str "list")=true by decide) (DH ?_)
      left
      refine Ah (AJ.of hg) (v:=.str "pair") (Au (j:=0) rfl) ?_
      left
      refine AN ⟨⟩ (DH ?_)
      left
      refine Ah (AJ.of hg) (v:=.str "pair") (Au (j:=0) rfl) ?_
      left
      refine AN ⟨⟩ (DH ?_)
      exact fin2 _ _ ⟨rfl,Cq,λz=>⟨_,_,rfl⟩⟩
     | num =>
      refine AN ⟨⟩ (DH ?_)
      left
      refine Ah (AJ.of hg) (v:=.str "number") (Au (j:=0) rfl) ?_
      left
      refine Bc (decide_eq_true rfl) ?_
      left
      refine m6 ?_ λh1 emp=>?_
      ·left
       refine ⟨_,rfl,λi H3 s3=>?_⟩
       left
       intros p3 H4 s4 e4
       exact q (.num i) _ _ (Cq.trans (s3.trans s4)) ⟨p3,rfl,e4⟩ ⟨trivial,trivial,Nat.zero_le _,by cases d <;> simp only [Cb,Ex.sz,sk] <;> omega⟩
      ·left
       refine Cu (λ_=>emp) λ_=>?_
       left
       refine Ah (AJ.of hg) (v:=.str "number") (Au (j:=0) rfl) ?_
       left
       refine AN ⟨⟩ (DH ?_)
       exact fin2 _ _ ⟨rfl,Cq,λz=>absurd (ne 0 h1) (by simp [z])⟩
     | tru =>
      refine AN ⟨⟩ (DH ?_)
      left
      refine Ah (AJ.of hg) (v:=.str "truth") (Au (j:=0) rfl) ?_
      left
      refine AN ⟨⟩ (DH ?_)
      left
      refine Ah (AJ.of hg) (v:=.str "truth") (Au (j:=0) rfl) ?_
      left
      refine Bc (decide_eq_true rfl) ?_
      left
      refine m6 ?_ λh1 emp=>?_
      ·left
       intros p3 H4 s4 e4
       exact q (.tru _) _ _ (Cq.trans s4) ⟨p3,rfl,e4⟩ ⟨trivial,trivial,Nat.zero_le _,by cases d <;> simp only [Cb,Ex.sz,sk] <;> omega⟩
      ·left
       refine Cu (λ_=>emp) λ_=>?_
       exact fin2 _ _ ⟨rfl,Cq,λz=>absurd (ne 0 h1) (by simp [z])⟩
theorem rL {x:Str}{xs:List Str}:∀ z∈xs++[x],z∈x::xs:=λz hz=>by
 simp only [List.mem_append,List.mem_cons,List.not_mem_nil,or_false] at hz ⊢
 exact hz.symm
theorem dH {x y:Str}{xs:List Str}:∀ z∈xs++[x,y],z∈y::x::xs:=λz hz=>by
 simp only [List.mem_append,List.mem_cons,List.not_mem_nil,or_false] at hz ⊢
 rcases hz with hz | hz | hz
 ·exact .inr (.inr hz)
 ·exact .inr (.inl hz)
 ·exact .inl hz
noncomputable def ba:Nat->Nat
 | 0=>0
 | n+1=>1+3 * ba n
noncomputable def bz:Nat->Nat
 | 0=>1
 | n+1=>1+3 * bz n
theorem S8 (n:Nat):1<=bz n:=by cases n <;> simp [bz] <;> omega
inductive Gs (K:W.Frag)(n:Nat)(vs:(List V))(H:Hp)(Q:VK)(z3:XK):Prop
 | mk (a:Addr) (ns:List Int) (k:Int) (l:Addr) (xs:List Str) (h1:vs=[.ref a,.int k,.ref l,.int n]) (h2:AZ K H a (ns.map V.int)) (h3:H l=some (.lst (xs.map V.str))) (h4:xs.length+2 * n<=1000) (h5:∀ e r H',An H H'->Br H' e r->Lr xs (ba n) (bz n) e->Q r H'):Gs K n vs H Q z3
inductive MI (K:W.Frag)(n:Nat)(vs:(List V))(H:Hp)(Q:VK)(z3:XK):Prop
 | mk (a:Addr) (ns:List Int) (k:Int) (l:Addr) (xs:List Str) (m:Int) (h1:vs=[.ref a,.int k,.ref l,.int n,.int m]) (h2:AZ K H a (ns.map V.int)) (h3:H l=some (.lst (xs.map V.str))) (h4:xs.length+2 * (n+1)<=1000) (h5:m % 12≠0) (h6:∀ e r H',An H H'->Br H' e r->Lr xs (ba (n+1)) (bz (n+1)) e->Q r H'):MI K n vs H Q z3
noncomputable def VQ (K:W.Frag):Nat->Sp
 | 0=>Mh
 | n+1=>MI K n
theorem S9:Ar ["_law_script","_law_k","_law_names","_law_deep","_law_number","_law_some"] ["_law_script","_law_k","_law_names","_law_deep"] (Ad Co):=nofun
theorem Fq {n:Nat}{f:Addr}{fd:FuncData}(F:Ck K "_law_any" "_law_any" Co f fd)(B1:mg "len"=none)
  (cM:Cl Pr w K mg base 2 "_law_mix" FD (DR K)) (cI:Cl Pr w K mg base 1 "_law_int" ["_law_number"] Gj) (cF:Cl Pr w K mg base (2 * n+2) "_law_form" ["_law_script","_law_k","_law_names","_law_deep","_law_number"] (VQ K n)) :
  AI Pr w K mg base BR (2 * n+3) f fd ["_law_script","_law_k","_law_names","_law_deep"] (Gs K n):=by
 refine F.okS S9 (λvs H Q E h=>?_) (λBo A outer s H vs Q E hr h=>?_)
 ·obtain ⟨a,ns,k,l,xs,rfl,_⟩:=h;rfl
 ·obtain ⟨a,ns,k,l,xs,rfl,hs,hl,hx,q⟩:=h
  have FA:AY 2 _:=hr.mono ()
  have Dd:AY 1 _:=hr.mono ()
  refine ⟨_,(Ae (Ax (i:=4) S9.nd rfl (.inl rfl) (B3 cM FA rfl (Aa (Af 0) (Aa (Af 1) Ab))))
   (Ae (B4 (ID (w_and (Ea (Af 2)) (w_and (Az DD (Aj AQ (Af 4) Ac) Ac (Ak _)) (DN (ID (w_or (Az AO (Af 3) Ac (Ak _)) (Fy (Az AO (Aj AQ (Af 4) Ac) Ac (Ak _))))))))) (Ai (Aw (Am (Aa Ag (Aa (Av AA (Af 2) (Aj AQ (Aj B9 (Af 4) Ac) (AU AG (by rfl) B1 PySem.boot_len (Aa (Af 2) Ab))) AR) Ab))))) AK)
   (Ae (B4 (ID (w_or (Az AO (Af 3) Ac (Ak _)) (Fy (Az AO (Aj AQ (Aj B9 (Af 4) Ac) Ac) Ac (Ak _))))) (Ae (Ax (i:=5) S9.nd rfl (.inl rfl) (AS (Aa (Am (Aa Ag (Aa (B3 cI Dd rfl (Aa (Aj B9 (Af 4) Ac) Ab)) Ab))) (Aa (Am (Aa Ag (Aa (CP AO (Aj AQ (Aj B9 (Af 4) Ac) Ac) Ac (Ak _)) Ab))) (Aa (Am (Aa Ag Ab)) Ab)))))
   (Ai (Aw (Av AA (Af 5) (Aj AQ (Aj B9 (Af 4) Ac) Ac) AR)))) AK)
   (Ai (Aw (B3 cF hr rfl (Aa (Af 0) (Aa (Af 1) (Aa (Af 2) (Aa (Aj Bx (Af 3) Ac) (Aa (Aj B9 (Af 4) Ac) Ab))))))))))),?_⟩
  left
  refine ⟨a,ns,k,rfl,hs,λm hm=>?_⟩
  left
  refine ⟨!(xs.map V.str).isEmpty,.inl ⟨_,AZ.of hl,rfl⟩,?_⟩
  refine aG ?_ λhc rest=>?_
  ·left
   refine m6 ?_ λh0 leaf=>?_
   ·left
    refine ⟨_,rfl,λi H1 s1=>?_⟩
    left
    intros p1 H2 s2 e1
    left
    intros p2 H3 s3 e2
    left
    intros p3 H4 s4 e3
    left
    intros p4 H5 s5 e4
    left
    refine BH (AZ.of e4) (Int.emod_nonneg _ ⟨⟩) (Int.emod_lt_of_pos _ ⟨⟩) λv hv=>?_
    have st:=s1.trans (s2.trans (s3.trans (s4.trans s5)))
    have hz:=S8 n
    simp only [List.mem_cons,List.not_mem_nil,or_false] at hv
    rcases hv with rfl | rfl | rfl
    ·exact q (.num i) _ _ st ⟨p1,rfl,s5 _ _ (s4 _ _ (s3 _ _ e1))⟩ ⟨trivial,trivial,Nat.zero_le _,hz⟩
    ·exact q (.tru _) _ _ st ⟨p2,rfl,s5 _ _ (s4 _ _ e2)⟩ ⟨trivial,trivial,Nat.zero_le _,hz⟩
    ·exact q .emp _ _ st ⟨p3,rfl,s5 _ _ e3⟩ ⟨trivial,trivial,Nat.zero_le _,hz⟩
   ·left
    refine Cu (λ_=>leaf) λh1=>?_
    cases n with
    | zero=>exact absurd (decide_eq_true rfl) h0
    | succ n =>
     left
     refine ⟨a,ns,k,l,xs,m / 4,by rw [KD],hs,hl,(),?_,λe r H' sm ha ho=>q e r H' sm ha ho⟩
     intro z
     exact h1 (decide_eq_true (by rw [z]))
  ·left
   refine Cu (λ_=>?_) (λ_=>DH rest)
   left
   refine m6 ?_ λ_ named=>?_
   ·left
    refine ⟨l,_,rfl,.inl (AZ.of hl),?_⟩
    have GO:(0:Int) < ((xs.map V.str).length:Nat):=by
     cases xs with
     | nil=>simp at hc
     | cons x xs=>simp
    refine KC GO (BH (AZ.of hl) (Int.emod_nonneg _ ()) (Int.emod_lt_of_pos _ GO) λv hv=>?_)
    left
    intros p H2 s2 e2
    obtain ⟨y,hy,rfl⟩:=List.mem_map.mp hv
    exact q (.nm y) _ _ s2 ⟨p,rfl,e2⟩ ⟨hy,trivial,Nat.zero_le _,S8 n⟩
   ·left
    exact Cu (λ_=>named) λ_=>rest
theorem FY:Ar ["_law_script","_law_k","_law_names","_law_deep","_law_number","_law_way","_law_a","_law_b","_law_one_here","_law_other","_law_third"] ["_law_script","_law_k","_law_names","_law_deep","_law_number"] (Ad BZ):=nofun
theorem Gu {n:Nat}{f:Addr}{fd:FuncData}(F:Ck K "_law_form" "_law_form" BZ f fd)(cN:Cl Pr w K mg base 1 "_law_name" ["_law_number"] EJ)
  (cA:Cl Pr w K mg base (2 * n+3) "_law_any" ["_law_script","_law_k","_law_names","_law_deep"] (Gs K n)) :
  AI Pr w K mg base BR (2 * n+4) f fd ["_law_script","_law_k","_law_names","_law_deep","_law_number"] (MI K n):=by
 refine F.okS FY (λvs H Q E h=>?_) (λBo A outer s H vs Q E hr h=>?_)
 ·obtain ⟨a,ns,k,l,xs,m,rfl,_⟩:=h;rfl
 ·obtain ⟨a,ns,k,l,xs,m,rfl,hs,hl,hx,hm,q⟩:=h
  have Dd:AY 1 _:=hr.mono ()
  refine ⟨_,(Ae (Ax (i:=5) FY.nd rfl (.inl rfl) (Aj AQ (Af 4) Ac))
   (Ae (Ax (i:=6) FY.nd rfl (.inl rfl) (B3 cN Dd rfl (Aa (Aj B9 (Af 4) Ac) Ab)))
   (Ae (Ax (i:=7) FY.nd rfl (.inl rfl) (B3 cN Dd rfl (Aa (Aj B9 (Af 4) Ac) Ab)))
   (Ae (B4 (Az AO (Af 5) Ac (Ak _)) (Ai (Aw (Am (Aa Ag (Aa (Af 6) (Aa (B3 cA hr rfl (Aa (Af 0) (Aa (Aj AW (Aj Bh Ac (Af 1)) Ac) (Aa (Aj B7 (Af 2) (AS (Aa (Af 6) Ab))) (Aa (Af 3) Ab))))) Ab)))))) AK)
   (Ae (B4 (Az AO (Af 5) Ac (Ak _)) (Ai (Aw (Am (Aa Ag (Aa (Af 6) (Aa (Af 7) (Aa (B3 cA hr rfl (Aa (Af 0) (Aa (Aj AW (Aj Bh Ac (Af 1)) Ac) (Aa (Aj B7 (Af 2) (AS (Aa (Af 6) (Aa (Af 7) Ab)))) (Aa (Af 3) Ab))))) Ab))))))) AK)
   (Ae (Ax (i:=8) FY.nd rfl (.inl rfl) (B3 cA hr rfl (Aa (Af 0) (Aa (Aj AW (Aj Bh Ac (Af 1)) Ac) (Aa (Af 2) (Aa (Af 3) Ab))))))
   (Ae (B4 (Az AO (Af 5) Ac (Ak _)) (Ai (Aw (Am (Aa Ag (Aa (Af 6) (Aa (Af 8) (Aa (B3 cA hr rfl (Aa (Af 0) (Aa (Aj AW (Aj Bh Ac (Af 1)) Ac) (Aa (Aj B7 (Af 2) (AS (Aa (Af 6) Ab))) (Aa (Af 3) Ab))))) Ab))))))) AK)
   (Ae (B4 (Az AO (Af 5) Ac (Ak _)) (Ai (Aw (Am (Aa Ag (Aa (Af 8) (Aa (Af 6) (Aa (Af 7) (Aa (B3 cA hr rfl (Aa (Af 0) (Aa (Aj AW (Aj Bh Ac (Af 1)) Ac) (Aa (Aj B7 (Af 2) (AS (Aa (Af 6) (Aa (Af 7) Ab)))) (Aa (Af 3) Ab))))) Ab)))))))) AK)
   (Ae (Ax (i:=9) FY.nd rfl (.inl rfl) (B3 cA hr rfl (Aa (Af 0) (Aa (Aj AW (Aj Bh Ac (Af 1)) Ac) (Aa (Af 2) (Aa (Af 3) Ab))))))
   (Ae (B4 (Az DD (Af 5) Ac (Ak _)) (Ai (Aw (Am (Aa (Av AA (AS (Aa Ag (Aa Ag (Aa Ag (Aa Ag Ab))))) (Aj Bx (Af 5) Ac) AR) (Aa (Af 8) (Aa (Af 9) Ab)))))) AK)
   (Ae (B4 (Az AO (Af 5) Ac (Ak _)) (Ai (Aw (Am (Aa Ag (Aa (Av AA (AS (Aa Ag (Aa Ag (Aa Ag (Aa Ag Ab))))) (Aj AQ (Aj B9 (Af 4) Ac) Ac) AR) (Aa (Af 8) (Aa (Af 9) Ab))))))) AK)
   (Ae (Ax (i:=10) FY.nd rfl (.inl rfl) (B3 cA hr rfl (Aa (Af 0) (Aa (Aj AW (Aj Bh Ac (Af 1)) Ac) (Aa (Aj B7 (Af 2) (Aj ZP (AS (Aa (Af 6) (Aa (Af 7) Ab))) (Aj Bx (Af 5) Ac))) (Aa (Af 3) Ab))))))
   (Ai (Aw (Ks (Az AO (Af 5) Ac (Ak _)) (Am (Aa Ag (Aa (Af 8) (Aa (Af 9) (Aa (Af 10) Ab))))) (Am (Aa Ag (Aa (Af 8) (Aa (Af 9) (Aa (Af 6) (Aa (Af 7) (Aa (Af 10) Ab)))))))))))))))))))))),?_⟩
  have lo:=Int.emod_nonneg m (b:=12) ⟨⟩
  have hi:=Int.emod_lt_of_pos m (b:=12) ⟨⟩
  left
  refine ⟨_,rfl,λx H1 s1=>?_⟩
  left
  refine ⟨_,rfl,λy H2 s2=>?_⟩
  left
  have Ew:=s1.trans s2
  refine Cu (λ_=>?_) λw1=>?_
  ·left
   intros l1 H3 s3 e3
   left
   refine CI (s3 _ _ (Ew _ _ hl)) e3 ?_ λl2 H4 _ s4 e4=>?_
   ·simp;exact BB ()
   left
   have st:=Ew.trans (s3.trans s4)
   refine ⟨a,ns,_,l2,xs++[x],rfl,st.seq hs,by rw [e4];simp,by simp;omega,λe r H5 s5 ha ho=>?_⟩
   left
   intros p H6 s6 e6
   refine q (.fn x e) _ _ (st.trans (s5.trans s6)) ⟨p,r,rfl,e6,Br.mono (Ay.of_same s6) ha⟩ ⟨?_,ho.op,?_,?_⟩
   ·exact Ex.cl.mono (e:=e) rL ho.cl
   ·have:=ho.np;simp only [Ex.np,ba];omega
   ·have:=ho.sz;simp only [Ex.sz,bz];omega
  left
  refine Cu (λ_=>?_) λw2=>?_
  ·left
   intros l1 H3 s3 e3
   left
   refine CI (s3 _ _ (Ew _ _ hl)) e3 ?_ λl2 H4 _ s4 e4=>?_
   ·simp;exact BB ()
   left
   have st:=Ew.trans (s3.trans s4)
   refine ⟨a,ns,_,l2,xs++[x,y],rfl,st.seq hs,by rw [e4];simp,by simp;omega,λe r H5 s5 ha ho=>?_⟩
   left
   intros p H6 s6 e6
   refine q (.rc x y e) _ _ (st.trans (s5.trans s6)) ⟨p,r,rfl,e6,Br.mono (Ay.of_same s6) ha⟩ ⟨?_,ho.op,?_,?_⟩
   ·exact Ex.cl.mono (e:=e) dH ho.cl
   ·have:=ho.np;simp only [Ex.np,ba];omega
   ·have:=ho.sz;simp only [Ex.sz,bz];omega
  left
  refine ⟨a,ns,_,l,xs,rfl,Ew.seq hs,Ew _ _ hl,(),λe1 r1 H3 s3 a1 o1=>?_⟩
  have F9:=Ew.trans s3
  have n1:=o1.np
  have z1:=o1.sz
  left
  refine Cu (λ_=>?_) λw3=>?_
  ·left
   intros l1 H4 s4 e4
   left
   refine CI (s4 _ _ (F9 _ _ hl)) e4 ?_ λl2 H5 _ s5 e5=>?_
   ·simp;exact BB ()
   left
   have st:=F9.trans (s4.trans s5)
   refine ⟨a,ns,_,l2,xs++[x],rfl,st.seq hs,by rw [e5];simp,by simp;omega,λe r H6 s6 ha ho=>?_⟩
   left
   intros p H7 s7 e7
   refine q (.lt x e1 e) _ _ (st.trans (s6.trans s7)) ⟨p,r1,r,rfl,e7,Br.mono (Ay.of_same (s4.trans (s5.trans (s6.trans s7)))) a1,Br.mono (Ay.of_same s7) ha⟩ ⟨⟨o1.cl,?_⟩,⟨o1.op,ho.op⟩,?_,?_⟩
   ·exact Ex.cl.mono (e:=e) rL ho.cl
   ·have:=ho.np;simp only [Ex.np,ba];omega
   ·have:=ho.sz;simp only [Ex.sz,bz];omega
  left
  refine Cu (λ_=>?_) λw4=>?_
  ·left
   intros l1 H4 s4 e4
   left
   refine CI (s4 _ _ (F9 _ _ hl)) e4 ?_ λl2 H5 _ s5 e5=>?_
   ·simp;exact BB ()
   left
   have st:=F9.trans (s4.trans s5)
   refine ⟨a,ns,_,l2,xs++[x,y],rfl,st.seq hs,by rw [e5];simp,by simp;omega,λe r H6 s6 ha ho=>?_⟩
   left
   intros p H7 s7 e7
   refine q (.opn e1 x y e) _ _ (st.trans (s6.trans s7)) ⟨p,r1,r,rfl,e7,Br.mono (Ay.of_same (s4.trans (s5.trans (s6.trans s7)))) a1,Br.mono (Ay.of_same s7) ha⟩ ⟨⟨o1.cl,Ex.cl.mono dH ho.cl⟩,⟨o1.op,ho.op⟩,?_,?_⟩
   ·have:=ho.np;simp only [Ex.np,ba];omega
   ·have:=ho.sz;simp only [Ex.sz,bz];omega
  left
  refine ⟨a,ns,_,l,xs,rfl,F9.seq hs,F9 _ _ hl,(),λe2 r2 H4 s4 a2 o2=>?_⟩
  have FR:=F9.trans s4
  have n2:=o2.np
  have z2:=o2.sz
  left
  have ne:∀ j:Int,¬ decide (V.int (m % 12)=V.int j)=true->m % 12≠j:=λj h z=>h (decide_eq_true (by rw [z]))
  have w1':=ne _ w1
  have w2':=ne _ w2
  have w3':=ne _ w3
  have w4':=ne _ w4
  refine Cu (λw5=>?_) λw5=>?_
  ·have w5':=of_decide_eq_true w5
   left
   intros l1 H5 s5 e5
   left
   refine BH (AZ.of e5) () (by simp;omega) λv hv=>?_
   left
   intros p H6 s6 e6
   have VR:=Br.mono (Ay.of_same (s4.trans (s5.trans s6))) a1
   have VS:=Br.mono (Ay.of_same (s5.trans s6)) a2
   have st:=FR.trans (s5.trans s6)
   simp only [List.mem_cons,List.not_mem_nil,or_false] at hv
   rcases hv with rfl | rfl | rfl | rfl
   ·exact q (.cal e1 e2) _ _ st ⟨p,r1,r2,rfl,e6,VR,VS⟩ ⟨⟨o1.cl,o2.cl⟩,⟨o1.op,o2.op⟩,by simp only [Ex.np,ba];omega,by simp only [Ex.sz,bz];omega⟩
   ·exact q (.pr e1 e2) _ _ st ⟨p,r1,r2,rfl,e6,VR,VS⟩ ⟨⟨o1.cl,o2.cl⟩,⟨o1.op,o2.op⟩,by simp only [Ex.np,ba];omega,by simp only [Ex.sz,bz];omega⟩
   ·exact q (.lk e1 e2) _ _ st ⟨p,r1,r2,rfl,e6,VR,VS⟩ ⟨⟨o1.cl,o2.cl⟩,⟨o1.op,o2.op⟩,by simp only [Ex.np,ba];omega,by simp only [Ex.sz,bz];omega⟩
   ·exact q (.cal e1 e2) _ _ st ⟨p,r1,r2,rfl,e6,VR,VS⟩ ⟨⟨o1.cl,o2.cl⟩,⟨o1.op,o2.op⟩,by simp only [Ex.np,ba];omega,by simp only [Ex.sz,bz];omega⟩
  have w5':¬ m % 12 < 9:=λz=>w5 (decide_eq_true z)
  left
  refine Cu (λ_=>?_) λw6=>?_
  ·left
   intros l1 H5 s5 e5
   left
   refine BH (AZ.of e5) (Int.emod_nonneg _ ⟨⟩) (Int.emod_lt_of_pos _ ⟨⟩) λv hv=>?_
   left
   intros p H6 s6 e6
   have VR:=Br.mono (Ay.of_same (s4.trans (s5.trans s6))) a1
   have VS:=Br.mono (Ay.of_same (s5.trans s6)) a2
   have st:=FR.trans (s5.trans s6)
   have fin:∀ o:Str,v=.str o->Ex.isOp o->Q (.ref p) H6:=λo ho hi=>q (.op o e1 e2) _ _ st ⟨p,r1,r2,rfl,ho▸e6,VR,VS⟩ ⟨⟨o1.cl,o2.cl⟩,⟨hi,o1.op,o2.op⟩,by simp only [Ex.np,ba];omega,by simp only [Ex.sz,bz];omega⟩
   simp only [List.mem_cons,List.not_mem_nil,or_false] at hv
   rcases hv with rfl | rfl | rfl | rfl
   ·exact fin _ rfl (.inl rfl)
   ·exact fin _ rfl (.inr (.inl rfl))
   ·exact fin _ rfl (.inr (.inr (.inl rfl)))
   ·exact fin _ rfl (.inr (.inr (.inr rfl)))
  have w6':=ne _ w6
  left
  intros l1 H5 s5 e5
  left
  have lr:((m % 12 - 10).toNat=0/\m % 12=10)\/((m % 12 - 10).toNat=1/\m % 12≠10):=by omega
  refine ⟨l1,_,_,rfl,rfl,e5,(),(),?_,λl2 Hl=>?_⟩
  ·refine BB ?_
   simp;omega
  have s6:=An.new (o:=.lst (List.replicate (m % 12 - 10).toNat [V.str x,V.str y]).flatten) Hl
  have e6:upd H5 l2 (.lst (List.replicate (m % 12 - 10).toNat [V.str x,V.str y]).flatten) l2=_:=Ap
  generalize upd H5 l2 (.lst (List.replicate (m % 12 - 10).toNat [V.str x,V.str y]).flatten)=H6 at s6 e6 ⊢
  have hc:∃ more:List Str,(List.replicate (m % 12 - 10).toNat [V.str x,V.str y]).flatten=more.map V.str/\more.length<=2/\(m % 12=10->more=[])/\(m % 12≠10->more=[x,y]):=by
   rcases lr with ⟨e,h⟩ | ⟨e,h⟩
   ·exact ⟨[],by rw [e];rfl,by simp,λ_=>rfl,λz=>absurd h z⟩
   ·exact ⟨[x,y],by rw [e];rfl,by simp,λz=>absurd z h,λ_=>rfl⟩
  obtain ⟨more,rH,qW,rC,VN⟩:=hc
  rw [rH] at e6
  refine CI (s6 _ _ (s5 _ _ (FR _ _ hl))) e6 ?_ λl3 H7 _ s7 e7=>?_
  ·simp;exact BB ()
  left
  have st:=FR.trans (s5.trans (s6.trans s7))
  refine ⟨a,ns,_,l3,xs++more,rfl,st.seq hs,by rw [e7];simp,by simp;omega,λe3 r3 H8 s8 a3 o3=>?_⟩
  have n3:=o3.np
  have z3:=o3.sz
  have VR:=Br.mono (Ay.of_same (s4.trans (s5.trans (s6.trans (s7.trans s8))))) a1
  have VS:=Br.mono (Ay.of_same (s5.trans (s6.trans (s7.trans s8)))) a2
  left
  refine Cu (λw7=>?_) λw7=>?_
  ·left
   intros p H9 s9 e9
   have w7':m % 12=10:=by simpa using w7
   have c3:=o3.cl
   rw [rC w7',List.append_nil] at c3
   exact q (.wh e1 e2 e3) _ _ (st.trans (s8.trans s9)) ⟨p,r1,r2,r3,rfl,e9,Br.mono (Ay.of_same s9) VR,Br.mono (Ay.of_same s9) VS,Br.mono (Ay.of_same s9) a3⟩ ⟨⟨o1.cl,o2.cl,c3⟩,⟨o1.op,o2.op,o3.op⟩,by simp only [Ex.np,ba];omega,by simp only [Ex.sz,bz];omega⟩
  ·left
   intros p H9 s9 e9
   have c3:=o3.cl
   rw [VN (ne _ w7)] at c3
   exact q (.spl e1 e2 x y e3) _ _ (st.trans (s8.trans s9)) ⟨p,r1,r2,r3,rfl,e9,Br.mono (Ay.of_same s9) VR,Br.mono (Ay.of_same s9) VS,Br.mono (Ay.of_same s9) a3⟩ ⟨⟨o1.cl,o2.cl,Ex.cl.mono dH c3⟩,⟨o1.op,o2.op,o3.op⟩,by simp only [Ex.np,ba];omega,by simp only [Ex.sz,bz];omega⟩
theorem K7 {f f2:Addr}{fd fd2:FuncData}(DA:Df K mg "_law_any" Co ["_law_script","_law_k","_law_names","_law_deep"] f fd)(DF:Df K mg "_law_form" BZ ["_law_script","_law_k","_law_names","_law_deep","_law_number"] f2 fd2)(B1:mg "len"=none)
  (cM:Cl Pr w K mg base 2 "_law_mix" FD (DR K)) (cI:Cl Pr w K mg base 1 "_law_int" ["_law_number"] Gj) (cN:Cl Pr w K mg base 1 "_law_name" ["_law_number"] EJ) :
  ∀ n,Cl Pr w K mg base (2 * n+3) "_law_any" ["_law_script","_law_k","_law_names","_law_deep"] (Gs K n)
 | 0=>DA.cl (Fq (n:=0) DA.F B1 cM cI (DF.cl Ia))
 | n+1=>DA.cl (Fq (n:=n+1) DA.F B1 cM cI (DF.cl (Gu DF.F cN (K7 DA DF B1 cM cI cN n))))
structure Tie (K:W.Frag)(mg:Str->Option Value)(fd ft fb fl:Addr)(dd dt db dl:FuncData):Prop where
 D:Df K mg "_law_made" BK HE fd dd
 T:Df K mg "_law_taken" B' HE ft dt
 B:Df K mg "_law_built" Bt HE fb db
 L:Df K mg "_law_let" CC ["_law_script","_law_k","_law_goal","_law_names","_law_deep","_law_a","_law_kind"] fl dl
theorem Li {fd ft fb fl:Addr}{dd dt db dl:FuncData}(T:Tie K mg fd ft fb fl dd dt db dl)(B1:mg "len"=none)(Jo:mg "max"=none)(Jm:mg "int"=none)(Eh:mg "list"=none)(Cp:mg "tuple"=none)(D1:mg "range"=none)
  (cM:Cl Pr w K mg base 2 "_law_mix" FD (DR K)) (cN:Cl Pr w K mg base 1 "_law_name" ["_law_number"] EJ) (cV:Cl Pr w K mg base 1 "_law_with" ["_law_names","_law_more"] FW) (cI:Cl Pr w K mg base 1 "_law_int" ["_law_number"] Gj)
  (cG:Cl Pr w K mg base 5 "_law_ground" ["_law_script","_law_k","_law_deep"] (DJ K 2)) (cW:Cl Pr w K mg base 11 "_law_wider" ["_law_wide","_law_kind"] (Fp 8)) :
  ∀ n,Cl Pr w K mg base (12+3 * n) "_law_made" HE (EL K n)
 | 0=>T.D.cl Ia
 | n+1=>by
  have c:=Li T B1 Jo Jm Eh Cp D1 cM cN cV cI cG cW n
  have cL:=T.L.cl (dF T.L.F () cM cV c)
  have cT:=T.T.cl (S7 T.T.F Jm () cM cN cV cG c cL)
  have cB:=T.B.cl (Pd T.B.F Eh Cp D1 () cM cN cV cI c)
  exact T.D.cl (S5 (r:=12+3 * n+2) T.D.F B1 Jo () cM cW (cB.mono ()) cT)
noncomputable def Sb (K:W.Frag):Sp:=λvs H Q E=>Gs K 0 vs H Q E\/Gs K 1 vs H Q E\/Gs K 2 vs H Q E\/Gs K 3 vs H Q E
theorem VT {f f2:Addr}{fd fd2:FuncData}(DA:Df K mg "_law_any" Co ["_law_script","_law_k","_law_names","_law_deep"] f fd)(DF:Df K mg "_law_form" BZ ["_law_script","_law_k","_law_names","_law_deep","_law_number"] f2 fd2)(B1:mg "len"=none)
  (cM:Cl Pr w K mg base 2 "_law_mix" FD (DR K)) (cI:Cl Pr w K mg base 1 "_law_int" ["_law_number"] Gj) (cN:Cl Pr w K mg base 1 "_law_name" ["_law_number"] EJ):Cl Pr w K mg base 9 "_law_any" ["_law_script","_law_k","_law_names","_law_deep"] (Sb K):=by
 have a0:=(Fq (n:=0) DA.F B1 cM cI (DF.cl Ia)).mono (show 3<=9 by omega)
 have a1:=(Fq (n:=1) DA.F B1 cM cI (DF.cl (Gu DF.F cN (K7 DA DF B1 cM cI cN 0)))).mono (show 5<=9 by omega)
 have a2:=(Fq (n:=2) DA.F B1 cM cI (DF.cl (Gu DF.F cN (K7 DA DF B1 cM cI cN 1)))).mono (show 7<=9 by omega)
 have a3:=Fq (n:=3) DA.F B1 cM cI (DF.cl (Gu DF.F cN (K7 DA DF B1 cM cI cN 2)))
 refine DA.cl ⟨λvs H Q E h=>?_,λA outer s H args us vs Q E hr he hb hv h=>?_⟩
 ·rcases h with h | h | h | h
  ·exact a0.len _ _ _ _ h
  ·exact a1.len _ _ _ _ h
  ·exact a2.len _ _ _ _ h
  ·exact a3.len _ _ _ _ h
 ·rcases h with h | h | h | h
  ·exact a0.run A outer s H args us vs Q E hr he hb hv h
  ·exact a1.run A outer s H args us vs Q E hr he hb hv h
  ·exact a2.run A outer s H args us vs Q E hr he hb hv h
  ·exact a3.run A outer s H args us vs Q E hr he hb hv h
inductive Gv (K:W.Frag)(vs:(List V))(H:Hp)(Q:VK)(z3:XK):Prop
 | mk (a:Addr) (ns:List Int) (k:Int) (d:Nat) (h1:vs=[.ref a,.int k,.int d]) (h2:d<=3) (h3:AZ K H a (ns.map V.int)) (h4:∀ e r H',An H H'->Br H' e r->Lr [] (B 3 3) (C 3 7) e->Q r H'):Gv K vs H Q z3
theorem rM {d:Nat}(h:d<=3):ba d<=B 3 3/\bz d<=C 3 7:=by
 rcases d with _ | _ | _ | _ | d <;> first | decide | omega
theorem rN {d p:Nat}(h:d<=3)(hp:p<=3):B d p<=B 3 3/\∀ {s},s<=7->C d s<=C 3 7:=by
 have h1:B d p<=B d 3:=Ei d hp
 refine ⟨?_,λ{s} hs=>?_⟩
 ·rcases d with _ | _ | _ | _ | d
  ·exact Nat.le_trans h1 ⟨⟩
  ·exact Nat.le_trans h1 ⟨⟩
  ·exact Nat.le_trans h1 ⟨⟩
  ·exact h1
  ·omega
 ·have h2:C d s<=C d 7:=Dy d hs
  rcases d with _ | _ | _ | _ | d
  ·exact Nat.le_trans h2 ⟨⟩
  ·exact Nat.le_trans h2 ⟨⟩
  ·exact Nat.le_trans h2 ⟨⟩
  ·exact h2
  ·omega
theorem BC3:B 3 3=81/\C 3 7=654:=by decide
theorem Sd:Ar ["_law_script","_law_base","_law_deep"] ["_law_script","_law_base","_law_deep"] (Ad C7):=nofun
theorem Pe {f:Addr}{fd:FuncData}(F:Ck K "_law_either" "_law_either" C7 f fd)
  (cM:Cl Pr w K mg base 2 "_law_mix" FD (DR K)) (cG:Cl Pr w K mg base 5 "_law_ground" ["_law_script","_law_k","_law_deep"] (DJ K 2))
  (cA:Cl Pr w K mg base 9 "_law_any" ["_law_script","_law_k","_law_names","_law_deep"] (Sb K)) (cD:Cl Pr w K mg base 42 "_law_made" HE (Iy K 9)) :
  AI Pr w K mg base BR 43 f fd ["_law_script","_law_base","_law_deep"] (Gv K):=by
 refine F.okS Sd (λvs H Q E h=>?_) (λBo A outer s H vs Q E hr h=>?_)
 ·obtain ⟨a,ns,k,d,rfl,_⟩:=h;rfl
 ·obtain ⟨a,ns,k,d,rfl,hd,hs,q⟩:=h
  have FA:AY 2 _:=hr.mono ()
  have mU:AY 5 _:=hr.mono ()
  have hr9:AY 9 _:=hr.mono ()
  refine ⟨_,(Ae (B4 (Az AO (Aj AQ (B3 cM FA rfl (Aa (Af 0) (Aa (Af 1) Ab))) Ac) Ac (Ak _)) (Ai (Aw (B3 cA hr9 rfl (Aa (Af 0) (Aa (Aj AW (Af 1) Ac) (Aa (AS Ab) (Aa (Af 2) Ab))))))) AK)
   (Ai (Aw (B3 cD hr rfl (Aa (Af 0) (Aa (Aj AW (Af 1) Ac) (Aa (B3 cG mU rfl (Aa (Af 0) (Aa (Aj AW (Af 1) Ac) (Aa Ac Ab)))) (Aa (AS Ab) (Aa (Af 2) Ab))))))))),?_⟩
  left
  refine ⟨a,ns,k,rfl,hs,λm hm=>?_⟩
  left
  refine Cu (λ_=>?_) λ_=>?_
  ·left
   intros l H1 s1 e1
   left
   have one:Gs K d [.ref a,.int (k+1),.ref l,.int d] H1 Q E0:=by
    refine ⟨a,ns,_,l,[],rfl,s1.seq hs,e1,by simp;omega,λe r H2 s2 ha ho=>?_⟩
    have b:=rM hd
    exact q e r H2 (s1.trans s2) ha ⟨ho.cl,ho.op,Nat.le_trans ho.np b.1,Nat.le_trans ho.sz b.2⟩
   rcases d with _ | _ | _ | _ | d
   ·exact .inl one
   ·exact .inr (.inl one)
   ·exact .inr (.inr (.inl one))
   ·exact .inr (.inr (.inr one))
   ·omega
  ·left
   refine ⟨a,ns,_,2,rfl,Nat.le_refl _,hs,λt r H1 s1 kt gt dt=>?_⟩
   left
   intros l H2 s2 e2
   left
   refine ⟨a,ns,_,t,r,l,[],d,rfl,⟨(s1.trans s2).seq hs,BU.mono (Ay.of_same s2) kt,gt,⟨[],e2,.nil⟩,λx hx=>by cases hx⟩,?_,(),by simp,λe r H3 s3 ha ho=>?_⟩
   ·cases d <;> simp only [mu] <;> omega
   ·have p:=pk2 dt
    have b:=rN hd p.1
    exact q e r H3 (s1.trans (s2.trans s3)) ha ⟨ho.cl,ho.op,Nat.le_trans ho.np b.1,Nat.le_trans ho.sz (b.2 p.2)⟩
end
end K
namespace L2
open PySem PySem.Spec PyProof.Rows KS KX
noncomputable def rO:R2:=λx y H Q=>EM λ(p:Addr) (xs:List V) (z:Str)=>x=.ref p/\H p=some (.tup xs)/\y=.str z/\Q (.bl false) H
theorem VU {X:Cx}(hu:X.A.units+64 < cLine):EN X (compareOp .Eq) rO:=by
 intro pins s σ H x y v u Q I rx ry h
 obtain ⟨p,xs,z,rfl,hp,rfl,k⟩:=h
 cases rx
 obtain ⟨t,rfl⟩:=ry
 obtain ⟨its,r,p1,_⟩:=I.tuple (AJ.of (K:=X.K) hp)
 exact PySem.SeqAt.RcAt.tuple_str z t p1 () X.prog X.w X.xe _ (B6 I k rfl)
theorem AI.exi {α:Type}{P:Program}{w:World}{K:W.Frag}{mg:Str->Option Value}{base:Heap}{CX:Kg}{k:Nat}{f:Addr}{fd:FuncData}{ps:List Str}{sp:α->Sp}(F:∀ a,AI P w K mg base CX k f fd ps (sp a)):AI P w K mg base CX k f fd ps (λvs H Q E=>∃ a,sp a vs H Q E) :=
 ⟨λvs H Q E ⟨a,h⟩=>(F a).len vs H Q E h,λA outer s H args us vs Q E hr he hb hv ⟨a,h⟩=>(F a).run A outer s H args us vs Q E hr he hb hv h⟩
theorem IA {P:Program}{w:World}{K:W.Frag}{mg:Str->Option Value}{base:Heap}{CX:Kg}{k:Nat}{ps:List Str}{rows:List (Str × Value)}:FN P w K mg base CX k ps rows []:=λ_ _ h=>by cases h
theorem AB {P:Program}{w:World}{K:W.Frag}{mg:Str->Option Value}{base:Heap}{CX:Kg}{k:Nat}{ps:List Str}{rows:List (Str × Value)}{x:Str}{sp:Sp}{Nr:List (Str × Sp)}(h:∃ f fd,rowAt rows x=some (.ref f)/\AI P w K mg base CX k f fd ps sp/\W.keepIn K (.ref f)=true/\Binds K fd ps [])
  (t:FN P w K mg base CX k ps rows Nr):FN P w K mg base CX k ps rows ((x,sp)::Nr):=λy sp' hm=>by
 rcases List.mem_cons.mp hm with e | hm
 ·cases e;exact h
 ·exact t y sp' hm
end L2
namespace K
open PySem L2 KM KS KX
noncomputable def Gw:MS->List PyData
 | .num i=>[.str "number",.int i] | .tru b=>[.str "truth",.bool b] | .emp=>[.str "empty"] | .nm n=>[.str "name",.int n] | .fn n=>[.str "fun",.int n] | .rc n=>[.str "rec",.int n]
 | .pr=>[.str "pair"] | .lk=>[.str "link"] | .op o=>[.str "op",.str o] | .call=>[.str "call"] | .back=>[.str "back"] | .lt=>[.str "let"] | .opn=>[.str "open"]
 | .drop n=>[.str "drop",.int n] | .jump n=>[.str "jump",.int n] | .wh n=>[.str "when",.int n] | .spl n=>[.str "split",.int n] | .fin=>[.str "end"]
noncomputable def Lj (code:List MS):PyData:=.list (code.map λs=>.tuple (Gw s))
theorem VW (H:Hp)(s:MS):Ib H (Gw s) s.cnt:=by
 cases s <;> first | exact .cons (.str _) (.cons (.int _) .nil) | exact .cons (.str _) (.cons (.bl _) .nil) | exact .cons (.str _) (.cons (.str _) .nil) | exact .cons (.str _) .nil
theorem NT {H:Hp}{l:Addr}{code:List MS}(h:FZ H l code):IE H (Lj code) (.ref l):=by
 obtain ⟨vs,h1,h2⟩:=h
 refine .lst h1 ?_
 clear h1
 induction h2 with
 | nil=>exact .nil
 | cons a _ ih =>
  obtain ⟨p,rfl,hp⟩:=a
  exact .cons (.tup hp (VW H _)) ih
theorem Se:∀ x∈["number","truth","empty","name","fun","rec","pair","link","op","call","back","let","open","drop","jump","when","split","end","plus","minus","less","same"],PyData.strOk (Str.ofString x)=true:=by decide +kernel
theorem Sf {s:MS}(ok:s.ok):PyData.canLayAll0 (Gw s)=true:=by
 have W:=Se
 simp only [List.mem_cons,List.not_mem_nil,or_false,forall_eq_or_imp,forall_eq] at W
 obtain ⟨w1,w2,w3,w4,w5,w6,w7,w8,w9,yi,PZ,w12,w13,w14,w15,w16,w17,w18,w19,w20,w21,w22⟩:=W
 cases s with
 | op o =>
  rcases ok with rfl | rfl | rfl | rfl <;> simp [Gw,PyData.canLayAll0,PyData.canLay0,w9,w19,w20,w21,w22]
 | _=>simp [Gw,PyData.canLayAll0,PyData.canLay0,w1,w2,w3,w4,w5,w6,w7,w8,yi,PZ,w12,w13,w14,w15,w16,w17,w18]
theorem MJ (s:MS):PyData.depthAll (Gw s)=0:=by cases s <;> simp [Gw,PyData.depthAll,PyData.depth]
theorem NU {code:List MS}(ok:∀ s∈code,s.ok):SeqAt.shaped (Lj code)=true:=by
 have h1:PyData.canLayAll0 (code.map λs=>PyData.tuple (Gw s))=true:=by
  induction code with
  | nil=>simp [PyData.canLayAll0]
  | cons s r ih=>simp [PyData.canLayAll0,PyData.canLay0,Sf (ok s (.head _)),ih λs h=>ok s (.tail _ h)]
 have h2:PyData.depthAll (code.map λs=>PyData.tuple (Gw s))<=1:=by
  clear h1 ok
  induction code with
  | nil=>simp [PyData.depthAll]
  | cons s r ih=>simp [PyData.depthAll,PyData.depth,MJ];exact Nat.max_le.mpr ⟨Nat.le_refl _,ih⟩
 unfold SeqAt.shaped Lj
 simp [PyData.canLay0,PyData.depth,h1]
 omega
theorem Sg (s:MS):PyData.eqvAll (Gw s) (Gw s)=true:=by cases s <;> simp [Gw,PyData.eqvAll,PyData.eqv]
theorem Sh (code:List MS):PyData.eqv (Lj code) (Lj code)=true:=by
 unfold Lj
 show PyData.eqvAll _ _=true
 induction code with
 | nil=>simp [PyData.eqvAll]
 | cons s r ih =>
  rw [List.map_cons]
  show (PyData.eqvAll (Gw s) (Gw s) && PyData.eqvAll _ _)=true
  rw [Sg,ih];rfl
theorem Si:∀ code:List MS,Dp code<=code.length
 | []=>by simp [Dp]
 | s::r=>by
  have:=Si r
  have:s.pl<=1:=by cases s <;> simp [MS.pl]
  simp only [Dp,List.length_cons];omega
theorem good0 {code:List MS}{most B:Nat}(hm:most<=2)(hl:code.length<=2000)(hB:3 * Dp code<=B):Good code most B 90000 PV:=by
 have h1:(most+1 - 0) * (code.length+2)<=3 * (2000+2):=Nat.mul_le_mul () ()
 have h2:(most - 0) * Dp code<=2 * Dp code:=Nat.mul_le_mul () (Nat.le_refl _)
 have mu:Ma.mu code.length most PV<=8006:=by
  unfold Ma.mu
  simp only [oY]
  omega
 refine ⟨⟨0,0,(λv h=>by cases h),(λv h=>by cases h),(λf h=>by cases h),Nat.le_refl _,?_,()⟩,by show 0+_<=_;omega,Nat.le_refl _⟩
 unfold Ma.pot
 simp only [oZ,List.drop_zero]
 omega
section
variable {Pr:Program}{w:World}{K:W.Frag}{mg:Str->Option Value}{base:Heap}
noncomputable def Y9:Sp:=λvs H Q E=>∃ code,cQ code vs H Q E
noncomputable def Ya:Sp:=λvs H Q E=>∃ code,cm code 246 vs H Q E
theorem Gx:Ar ["_law_script","_law_code","_law_at","_law_most","_law_handed","_law_found","_law_due"] ["_law_script"] (Ad Il):=nofun
theorem dI {f:Addr}{fd:FuncData}(F:Ck K "law" "law" Il f fd)(Eh:mg "list"=none)(Bv:mg "isinstance"=none)(Cp:mg "tuple"=none)(D1:mg "range"=none)(B1:mg "len"=none)
  (cM:Cl Pr w K mg base 2 "_law_mix" FD (DR K)) (cC:Cl Pr w K mg base 7 "compiled" ["tree"] EK) (cE:Cl Pr w K mg base 43 "_law_either" ["_law_script","_law_base","_law_deep"] (Gv K)) (cO:Cl Pr w K mg base 3 "_law_one" FD (Lb K))
  (cT:Cl Pr w K mg base 5 "_law_machine_told" ["_law_code","_law_most"] Y9) (cL:Cl Pr w K mg base 248 "_law_done" ["_law_code","_law_most"] Ya) (cA:Cl Pr w K mg base 249 "_law_alike" ["_law_one_here","_law_other"] (Rt 248)) :
  AI Pr w K mg base BR 262 f fd ["_law_script"] (QT K 63 []):=by
 refine F.okS Gx (λvs H Q E h=>?_) (λBo A outer s H vs Q E hr h=>?_)
 ·obtain ⟨a,ns,rfl,_⟩:=h;rfl
 ·obtain ⟨a,ns,rfl,hs,hlen,_,q⟩:=h
  have FA:AY 2 _:=hr.mono ()
  have hr3:AY 3 _:=hr.mono ()
  have mU:AY 5 _:=hr.mono ()
  have hr7:AY 7 _:=hr.mono ()
  have Adf:AY 43 _:=hr.mono ()
  have rP:AY 248 _:=hr.mono ()
  have rQ:AY 249 _:=hr.mono ()
  have Io:=hr.units
  have S:BG (DE BR Pr w K mg base ["_law_script","_law_code","_law_at","_law_most","_law_handed","_law_found","_law_due"] "law" (Ad Il) f Bo A outer s H E).nox (CH (match valueOf (inDef Il 0) with | .BinOp _ _ e _=>e | _=>.Constant .none 0 ⟨0,0,0,0⟩)) [("_law_script",s.heap.objs.size+1)] ["_law_k"] ["_law_script"] [0] :=
   ⟨rfl,by decide +kernel,rfl,by decide +kernel,rfl,rfl,rfl,rfl⟩
  have IS:(["_law_k","_law_script"]:List Str).Nodup:=by decide +kernel
  refine ⟨_,(Ae (Ax (i:=1) Gx.nd rfl (.inl rfl) (Aj B7 (AS (Aa (Am (Aa Ag Ab)) Ab)) (GL (te:=DW (Lb K) [] E0 (BM (Bw 1) (BM (Ft (LH λi j=>.int (i+j)) (tC (.int 1)) (Bw 0)) Ez))) S rfl (HW rfl D1 (Aa (Aj AQ (B3 cM FA rfl (Aa (Af 0) (Aa Ac Ab))) Ac) Ab)) (λC s0 H0 ex=>C1 (i:=0) IS rfl (.inl rfl)) (λ_ _ _ _=>Fz) (λC s0 H0 ex=>B3 cO hr3 rfl (Aa (Af 1) (Aa (Aj AW Ac (Af 0)) Ab))))))
   (Ae (B4 (Az N1 (Aj AQ (B3 cM FA rfl (Aa (Af 0) (Aa Ac Ab))) Ac) Ac (Ak _)) (Ae (Ax (i:=1) Gx.nd rfl (.inl rfl) (B3 cC hr7 rfl (Aa (B3 cE Adf rfl (Aa (Af 0) (Aa Ac (Aa (Aj AW Ac (Aj AQ (B3 cM FA rfl (Aa (Af 0) (Aa Ac Ab))) Ac)) Ab)))) Ab)))
   (Ai (B4 (Az AO (Aj AQ (B3 cM FA rfl (Aa (Af 0) (Aa Ac Ab))) Ac) Ac (Ak _)) (Ae (Ax (i:=2) Gx.nd rfl (.inl rfl) (Aj AQ (B3 cM FA rfl (Aa (Af 0) (Aa Ac Ab))) (AU AG (by rfl) B1 PySem.boot_len (Aa (Af 1) Ab))))
   (Ai (Ax (i:=1) Gx.nd rfl (.inl rfl) (Aj B7 (Aj B7 (DT Ff (Af 1) ED (EE (Af 2))) (AS (Aa (B3 cO hr3 rfl (Aa (Af 0) (Aa Ac Ab))) Ab))) (DT Ff (Af 1) (EE (Aj AW (Af 2) Ac)) ED))))) AK))) AK)
   (Ae (Ax (i:=3) Gx.nd rfl (.inl rfl) (Aj AQ (B3 cM FA rfl (Aa (Af 0) (Aa Ac Ab))) Ac))
   (Ae (Ax (i:=4) Gx.nd rfl (.inl rfl) (Dj EB (by rfl) Eh PyProof.Rows.boot_list (Aa (Af 1) Ab)))
   (Ae (Ax (i:=5) Gx.nd rfl (.inl rfl) (B3 cT mU rfl (Aa (Af 4) (Aa (Af 3) Ab))))
   (Ae (Ax (i:=6) Gx.nd rfl (.inl rfl) (B3 cL rP rfl (Aa (Af 1) (Aa (Af 3) Ab))))
   (Ae (B4 (Az (OQ Io) (Af 4) (Af 1) (Ak _)) (Ai (Aw ah)) AK)
   (Ae (B4 (ID (w_or (Az LI (Af 6) Fx (Ak _)) (Fy (Az (AO.or (VU Io)) (Af 6) Ag (Ak _))))) (Ai (Aw (CP AO (Af 5) (Af 6) (Ak _)))) AK)
   (Ai (Aw (Nm (AU F3 (by rfl) Bv PyProof.Rows.boot_isinstance (Aa (Af 5) (Aa (GK (v:=.ty "tuple") rfl Cp PyProof.Rows.boot_tuple rfl) Ab))) (Kr (B3 cA rQ rfl (Aa (Af 5) (Aa (Af 6) Ab))))))))))))))),?_⟩
  left
  intros p1 H1 s1 e1
  left
  refine Bz (BB (Nat.le_of_ble_eq_true rfl)) λl1 H2 ON s2 e2=>?_
  left
  have Cq:=s1.trans s2
  refine ⟨a,ns,_,rfl,Cq.seq hs,λm0 rC=>?_⟩
  left
  refine ⟨_,rfl,?_,?_,?_⟩
  ·have:=Int.emod_nonneg m0 (b:=14) ⟨⟩;omega
  ·have:=Int.emod_lt_of_pos m0 (b:=14) ⟨⟩;omega
  have A0n:=Int.emod_lt_of_pos m0 (b:=14) ⟨⟩
  have A0o:=Int.emod_nonneg m0 (b:=14) ⟨⟩
  refine Ig (n:=(m0 % 14).toNat) (λi ys H'=>An H2 H'/\∃ code,code.length=i/\Paired (JY H') code ys/\∀ s∈code,s.ok) ⟨An.refl _,[],rfl,.nil,λs h=>by cases h⟩ (by exact DI ()) (λi ys H' z=>by obtain ⟨_,code,z1,z2,_⟩:=z;rw [<- Paired.len z2];omega) rfl (λi ys H3 hi z=>?_) (λys H3 z=>?_)
  ·obtain ⟨s3,code,z1,z2,z3⟩:=z
   left
   refine Dm ?_
   left
   refine ⟨a,ns,_,rfl,(Cq.trans s3).seq hs,λst r H4 s4 a4 ok4=>?_⟩
   refine Nx.mk hi ⟨s3.trans s4,code++[st],by simp [z1],Paired.app (Paired.mapP z2 λ_ _ z=>z.mono (Ay.of_same s4)) (.cons a4 .nil),λs hs=>?_⟩
   rcases List.mem_append.mp hs with h | h
   ·exact z3 s h
   ·rw [List.mem_singleton.mp h];exact ok4
  ·obtain ⟨s3,code,z1,z2,z3⟩:=z
   intros l4 H4 s4 e4
   left
   have K9:=s3.trans s4
   have Mx:=Cq.trans K9
   have c1:FZ H4 l1 [.emp]:=Dl (K9 _ _ (s2 _ _ e1)) (K9 _ _ e2)
   have c2:FZ H4 l4 code:=⟨_,e4,Paired.mapP z2 λ_ _ z=>z.mono (Ay.of_same s4)⟩
   refine Be c1 c2 (by simp;omega) λl5 H5 hl5 s5 c5=>?_
   have Fs:=Mx.trans s5
   refine Hz (fun σ' H'=>EM λlc code o2=>σ'=[some (.ref a),some (.ref lc),o2,none,none,none,none]/\An H H'/\FZ H' lc code/\(∀ s∈code,s.ok)/\Dp code<=82/\code.length<=2000) ?_ λfin=>?_
   ·rintro σ' H6 ⟨lc,code,o2,rfl,yw,hc,hok,yt,zU⟩
    left
    refine ⟨a,ns,_,rfl,yw.seq hs,λm1 VN=>?_⟩
    left
    obtain ⟨most,RG⟩:=Int.eq_ofNat_of_zero_le (Int.emod_nonneg m1 (b:=3) ⟨⟩)
    have hm3:=Int.emod_lt_of_pos m1 (b:=3) ⟨⟩
    rw [RG]
    have mO:most<=2:=by omega
    obtain ⟨vs,h1,h2⟩:=hc
    refine ⟨lc,vs,rfl,.inl (AZ.of h1),λlh yc=>?_⟩
    have s7:An H6 (upd H6 lh (.lst vs)):=An.new yc
    have e7:(upd H6 lh (.lst vs)) lh=some (.lst vs):=Ap
    generalize upd H6 lh (.lst vs)=H7 at s7 e7 ⊢
    have yI:FZ H7 lc code:=⟨vs,s7 _ _ h1,Paired.mapP h2 λ_ _ z=>z.mono (Ay.of_same s7)⟩
    have hh7:FZ H7 lh code:=⟨vs,e7,Paired.mapP h2 λ_ _ z=>z.mono (Ay.of_same s7)⟩
    have G:=good0 (B:=246) mO zU ()
    obtain ⟨n,o,hE,rR⟩:=ends code most 246 90000 _ PV (Nat.le_refl _) (λ_=>G)
    left
    have same:∀ (H8:Hp) (D:Ends) (found due:V) (u:TS),An H7 H8->u D [some (.ref a),some (.ref lc),o2,some (.int most),some (.ref lh),some found,some due] H8 ->
      B8 (Lz (J1 (Ft Xy (Bw 4) (Bw 1))) (Ly (tC (.bl false))) J0) u D [some (.ref a),some (.ref lc),o2,some (.int most),some (.ref lh),some found,some due] H8:=by
     intro H8 D found due u s8 hu
     left
     refine ⟨Lj code,Lj code,NT (hh7.mono s8),NT (yI.mono s8),NU hok,NU hok,?_⟩
     rw [Sh]
     left
     refine AN ⟨⟩ hu
    refine ⟨code,lh,most,n,246,o,rfl,hh7,hok,hE,(),G,⟨λho H8 s8=>?_,λho H8 s8=>?_,λv c ho p r H8 s8 hp sh=>?_⟩⟩
    ·left
     refine ⟨code,lc,most,n,246,o,rfl,yI.mono s8,hok,hE,G,(),⟨λ_ H9 s9=>?_,(λh=>by rw [ho] at h;cases h),(λv c h=>by rw [ho] at h;cases h)⟩⟩
     refine same H9 _ .non .non _ (s8.trans s9) ?_
     left
     refine ⟨rfl,?_⟩
     left
     refine Bc (decide_eq_true rfl) (Dm ?_)
     left
     exact q _
    ·left
     refine ⟨code,lc,most,n,246,o,rfl,yI.mono s8,hok,hE,G,(),⟨(λh=>by rw [ho] at h;cases h),λ_ H9 s9=>?_,(λv c h=>by rw [ho] at h;cases h)⟩⟩
     refine same H9 _ (.str "stuck") (.str "stuck") _ (s8.trans s9) ?_
     left
     refine ⟨rfl,?_⟩
     left
     refine AN ⟨⟩ ?_
     left
     refine .inl (Ie rfl ?_)
     left
     refine Bc (decide_eq_true rfl) ?_
     left
     exact q _
    ·left
     refine ⟨code,lc,most,n,246,o,rfl,yI.mono s8,hok,hE,G,(),⟨(λh=>by rw [ho] at h;cases h),(λh=>by rw [ho] at h;cases h),λv' c' h=>?_⟩⟩
     rw [ho] at h;cases h
     refine ⟨rR v c ho,λp' r' H9 s9 TU sh'=>?_⟩
     refine same H9 _ (.ref p) (.ref p') _ (s8.trans s9) ?_
     left
     refine ⟨rfl,?_⟩
     left
     refine AN (by simp) ?_
     left
     refine .inr ⟨p',_,_,rfl,TU,rfl,?_⟩
     left
     refine AN ⟨⟩ ?_
     left
     have hp9:=s9 _ _ hp
     refine ⟨.ref p,_,_,true,rfl,Ek.tup hp9,rfl,?_⟩
     left
     refine Dm ?_
     left
     have hd:=rR v c ho
     refine ⟨.ref p,.ref p',rfl,?_,λIF De=>q _⟩
     exact show AL H9 (247+1) (.ref p) (.ref p') from .inr ⟨p,p',_,_,rfl,rfl,hp9,TU,by simp,.cons ((AL.of (sh.mono (Ay.of_same s9)) sh').le (show Gd v+1<=247 by omega)) (.cons (.sc rfl) .nil)⟩
   ·have Adg:∀ s∈[MS.emp]++code,s.ok:=λs hs=>by
     rcases List.mem_append.mp hs with h | h
     ·rw [List.mem_singleton.mp h];trivial
     ·exact z3 s h
    have np1:Dp ([MS.emp]++code)<=82:=by
     have:=Si code
     rw [Ba]
     simp only [Dp,MS.pl]
     omega
    refine Gb ?_
    left
    refine ⟨a,ns,_,rfl,Fs.seq hs,λm2 mO=>?_⟩
    left
    refine Cu (λw1=>?_) λw1=>?_
    ·left
     refine ⟨a,ns,_,rfl,Fs.seq hs,λm3 hm3=>?_⟩
     left
     obtain ⟨d3,hd3⟩:=Int.eq_ofNat_of_zero_le (Int.emod_nonneg m3 (b:=3) ⟨⟩)
     have A0u:=Int.emod_lt_of_pos m3 (b:=3) ⟨⟩
     refine ⟨a,ns,1,d3+1,by rw [hd3,show (1:Int)+(d3:Int)=((d3+1:Nat):Int) by omega],(),Fs.seq hs,λe r H6 s6 a6 o6=>?_⟩
     have b3:=BC3
     have yt:=o6.np
     have hsz:=o6.sz
     rw [b3.1] at yt
     rw [b3.2] at hsz
     left
     refine ⟨e,r,rfl,a6,o6.cl,o6.op,(),λl7 Lk H7 s7 c7 k7=>?_⟩
     have T':=Fs.trans (s6.trans s7)
     have n7:=k7.np
     have l7':=k7.len
     have VX:∀ s∈Lk++[MS.fin],s.ok:=λs hs=>by
      rcases List.mem_append.mp hs with h | h
      ·exact k7.ok s h
      ·rw [List.mem_singleton.mp h];trivial
     have np7:Dp (Lk++[MS.fin])<=81:=by rw [Ba];simp only [Dp,MS.pl];omega
     have aE:(Lk++[MS.fin]).length<=1963:=by simp;omega
     have Adh:0 < (Lk++[MS.fin]).length:=by simp
     generalize Lk++[MS.fin]=cd at c7 VX np7 aE Adh
     left
     refine ⟨a,ns,_,rfl,T'.seq hs,λm4 hm4=>?_⟩
     left
     obtain ⟨vs,h1,h2⟩:=id c7
     have yk:=Paired.len h2
     refine Cu (λw2=>?_) λw2=>?_
     ·left
      refine ⟨a,ns,_,rfl,T'.seq hs,λm5 hm5=>?_⟩
      left
      refine ⟨l7,vs,rfl,.inl (AZ.of h1),?_⟩
      refine KC (show (0:Int) < (vs.length:Int) by omega) ?_
      obtain ⟨at',Rn⟩:=Int.eq_ofNat_of_zero_le (Int.emod_nonneg m5 (b:=(vs.length:Int)) ())
      have Adi:=Int.emod_lt_of_pos m5 (b:=(vs.length:Int)) ()
      rw [Rn] at Adi
      rw [Rn]
      left
      refine FL (AZ.of h1) λl8 H8 hl8 s8 e8=>?_
      have ec8:D2 vs none (some (at':Int))=vs.take at':=by
       unfold D2
       rw [HT.sIx_none,HT.sIx_nat,Nat.min_eq_left ()]
       simp
      rw [ec8] at e8
      have c8:FZ H8 l8 (cd.take at'):=⟨_,e8,Paired.take _ (Paired.mapP h2 λ_ _ z=>z.mono (Ay.of_same s8))⟩
      left
      refine ⟨a,ns,_,rfl,(T'.trans s8).seq hs,λst r9 H9 s9 a9 ok9=>?_⟩
      left
      refine Bz (BB (Nat.le_of_ble_eq_true rfl)) λl10 IF A0z De La=>?_
      have RO:=s9.trans De
      have qu:FZ IF l10 [st]:=⟨_,La,.cons (a9.mono (Ay.of_same De)) .nil⟩
      refine Be (c8.mono RO) qu (by simp;omega) λl11 FT A00 CL c11=>?_
      left
      have rS:=s8.trans (RO.trans CL)
      refine FL (AZ.of (rS _ _ h1)) λl12 RT Abw Ew K3=>?_
      have Adj:D2 vs (some ((at':Int)+1)) none=vs.drop (at'+1):=by
       unfold D2
       rw [show (at':Int)+1=((at'+1:Nat):Int) by omega,HT.sIx_none,HT.sIx_nat,Nat.min_eq_left ()]
       rw [List.take_of_length_le (by rw [List.length_drop];omega)]
      rw [Adj] at K3
      have rT:=rS.trans Ew
      have c12:FZ RT l12 (cd.drop (at'+1)):=⟨_,K3,Paired.drop _ (Paired.mapP h2 λ_ _ z=>z.mono (Ay.of_same rT))⟩
      refine Be (c11.mono Ew) c12 (by simp;omega) λl13 mw A03 F9 c13=>?_
      refine fin _ _ ⟨l13,_,_,rfl,T'.trans (rT.trans F9),c13,λs hs=>?_,?_,?_⟩
      ·simp only [List.mem_append,List.mem_singleton] at hs
       rcases hs with (h | rfl) | h
       ·exact VX s (List.mem_of_mem_take h)
       ·exact ok9
       ·exact VX s (List.mem_of_mem_drop h)
      ·have t1:Dp (cd.take at')+Dp (cd.drop at')=Dp cd:=by rw [<- Ba,List.take_append_drop]
       have t2:=Hg cd (show at'<=at'+1 by omega)
       have t3:st.pl<=1:=by cases st <;> simp [MS.pl]
       rw [Ba,Ba]
       simp only [Dp]
       omega
      ·simp;omega
     ·exact fin _ _ ⟨l7,cd,none,rfl,T',c7,VX,(),()⟩
    ·exact fin _ _ ⟨l5,_,none,rfl,Fs,c5,Adg,np1,by simp;omega⟩
end
end K
end
namespace L2
open PySem PySem.Spec PyProof.Rows KS KX
noncomputable def JC (K:W.Frag):Value->Option (List Value)
 | .ref a=>match K.lookup a with
  | some ⟨.type "tuple",_,.seq its _,_⟩=>some its.toList
  | _=>none
 | _=>none
noncomputable def CW:List Value->List Nat->Bool
 | [],[]=>true
 | .int i _::r,n::ns=>decide (i=(n:Int)) && CW r ns
 | _,_=>false
noncomputable def Sj (K:W.Frag)(v:Value)(row:Nat × List Nat):Bool:=match JC K v with
 | some [.int i _,.ref c]=>decide (i=(row.1:Int)) && (match JC K (.ref c) with
  | some xs=>CW xs row.2
  | none=>false)
 | _=>false
noncomputable def Ha (K:W.Frag):List Value->List (Nat × List Nat)->Bool
 | [],[]=>true
 | v::vs,r::rs=>Sj K v r && Ha K vs rs
 | _,_=>false
noncomputable def CY (K:W.Frag)(rows:List (Str × Value))(w:Str)(prs:List (Nat × List Nat)):Bool:=match rowAt rows w with
 | some (.ref a)=>(match JC K (.ref a) with
  | some xs=>Ha K xs prs
  | none=>false)
 | _=>false
noncomputable def Sk (K:W.Frag)(rows:List (Str × Value)):Bool :=
 CY K rows "name" [] && CY K rows "number" [] && CY K rows "truth" [] && CY K rows "empty" [] && CY K rows "fun" [(2,[1])] && CY K rows "rec" [(3,[1,2])] && CY K rows "call" [(1,[]),(2,[])] && CY K rows "let" [(2,[]),(3,[1])] && CY K rows "when" [(1,[]),(2,[]),(3,[])]
 && CY K rows "pair" [(1,[]),(2,[])] && CY K rows "open" [(1,[]),(4,[2,3])] && CY K rows "link" [(1,[]),(2,[])] && CY K rows "split" [(1,[]),(2,[]),(5,[3,4])] && CY K rows "op" [(2,[]),(3,[])]
theorem ML {K:W.Frag}{a:Addr}{xs:List Value}(h:JC K (.ref a)=some xs){vs:List V}(r:Vals vs xs)(hl:vs.length<=1000):KO K a vs:=by
 simp only [JC] at h
 split at h
 ·rename_i od its n sl e
  cases h
  have:=r.length
  exact ⟨_,its,n,e,rfl,rfl,BB (by simp at this;omega),r⟩
 ·cases h
theorem ints_of:∀ {xs:List Value} {ns:List Nat},CW xs ns=true->Vals (ns.map λn:Nat=>V.int n) xs
 | [],[],_=>.nil
 | .int i t::r,n::ns,h=>by
  simp only [CW,Bool.and_eq_true,decide_eq_true_eq] at h
  obtain ⟨rfl,h⟩:=h
  exact .cons ⟨t,rfl⟩ (ints_of h)
 | [],_::_,h=>by simp [CW] at h
 | v::_,[],h=>by cases v <;> simp [CW] at h
 | .none::_,_::_,h=>by simp [CW] at h
 | .ellipsis::_,_::_,h=>by simp [CW] at h
 | .notImplemented::_,_::_,h=>by simp [CW] at h
 | .bool _::_,_::_,h=>by simp [CW] at h
 | .float _ _::_,_::_,h=>by simp [CW] at h
 | .str _ _::_,_::_,h=>by simp [CW] at h
 | .bytes _ _::_,_::_,h=>by simp [CW] at h
 | .type _::_,_::_,h=>by simp [CW] at h
 | .builtin _::_,_::_,h=>by simp [CW] at h
 | .ref _::_,_::_,h=>by simp [CW] at h
theorem dJ {K:W.Frag}{v:Value}{row:Nat × List Nat}(hr:row.2.length<=10)(h:Sj K v row=true):∃ b,v=.ref b/\Vf K row (.ref b):=by
 unfold Sj at h
 split at h
 ·rename_i i t c e
  rw [Bool.and_eq_true,decide_eq_true_eq] at h
  obtain ⟨rfl,h⟩:=h
  split at h
  ·rename_i xs e2
   cases v with
   | ref b=>exact ⟨b,rfl,b,c,rfl,ML e (.cons ⟨t,rfl⟩ (.cons rfl .nil)) (by simp),ML e2 (ints_of h) (by simp;omega)⟩
   | _=>simp [JC] at e
  ·cases h
 ·cases h
theorem NV {K:W.Frag}:∀ {vs:List Value} {rs:List (Nat × List Nat)},(∀ r∈rs,r.2.length<=10)->Ha K vs rs=true->∃ us,Vals us vs/\Paired (Vf K) rs us
 | [],[],_,_=>⟨[],.nil,.nil⟩
 | [],_::_,_,h=>by simp [Ha] at h
 | _::_,[],_,h=>by simp [Ha] at h
 | v::vs,r::rs,hr,h=>by
  simp only [Ha,Bool.and_eq_true] at h
  obtain ⟨b,rfl,kb⟩:=dJ (hr r (.head _)) h.1
  obtain ⟨us,h1,h2⟩:=NV (λr' h'=>hr r' (.tail _ h')) h.2
  exact ⟨.ref b::us,.cons rfl h1,.cons kb h2⟩
theorem Cv {K:W.Frag}{rows:List (Str × Value)}{w:Str}{prs:List (Nat × List Nat)}(hr:∀ r∈prs,r.2.length<=10)(hl:prs.length<=10)(h:CY K rows w prs=true):∃ a us,rowAt rows w=some (.ref a)/\KO K a us/\Paired (Vf K) prs us:=by
 unfold CY at h
 split at h
 ·rename_i a e
  split at h
  ·rename_i xs e2
   obtain ⟨us,h1,h2⟩:=NV hr h
   have:=Paired.len h2
   exact ⟨a,us,e,ML e2 h1 (),h2⟩
  ·cases h
 ·cases h
theorem dM {K:W.Frag}{rows:List (Str × Value)}(h:Sk K rows=true):KPl K rows:=by
 simp only [Sk,Bool.and_eq_true] at h
 obtain ⟨⟨⟨⟨⟨⟨⟨⟨⟨⟨⟨⟨⟨h1,h2⟩,h3⟩,h4⟩,h5⟩,h6⟩,h7⟩,h8⟩,h9⟩,h10⟩,h11⟩,h12⟩,h13⟩,h14⟩:=h
 intro e
 cases e with
 | nm _=>exact Cv (by simp [Ex.plc]) (by simp [Ex.plc]) h1
 | num _=>exact Cv (by simp [Ex.plc]) (by simp [Ex.plc]) h2
 | tru _=>exact Cv (by simp [Ex.plc]) (by simp [Ex.plc]) h3
 | emp=>exact Cv (by simp [Ex.plc]) (by simp [Ex.plc]) h4
 | fn _ _=>exact Cv (by simp [Ex.plc]) (by simp [Ex.plc]) h5
 | rc _ _ _=>exact Cv (by simp [Ex.plc]) (by simp [Ex.plc]) h6
 | cal _ _=>exact Cv (by simp [Ex.plc]) (by simp [Ex.plc]) h7
 | lt _ _ _=>exact Cv (by simp [Ex.plc]) (by simp [Ex.plc]) h8
 | wh _ _ _=>exact Cv (by simp [Ex.plc]) (by simp [Ex.plc]) h9
 | pr _ _=>exact Cv (by simp [Ex.plc]) (by simp [Ex.plc]) h10
 | opn _ _ _ _=>exact Cv (by simp [Ex.plc]) (by simp [Ex.plc]) h11
 | lk _ _=>exact Cv (by simp [Ex.plc]) (by simp [Ex.plc]) h12
 | spl _ _ _ _ _=>exact Cv (by simp [Ex.plc]) (by simp [Ex.plc]) h13
 | op _ _ _=>exact Cv (by simp [Ex.plc]) (by simp [Ex.plc]) h14
end L2
namespace K
open PySem L2 KM KS KX
theorem all_mk {l:W.OpenLaw}{q:Program}{loose:List Str}{w:World}{K:W.Frag}{h:Heap}{mg mb:Str->Option Value}{UX:ExcName->Option Value}{fa:Addr}(X:K.In h)(T0:PyProof.Rows.Top q loose UX mg mb h)(hfa:mg "law"=some (.ref fa))
  {C:Addr}
  {f0:Addr} {o1 a2:Option Addr} {s3:Array (Option Value)} {o4 k5 d6 p7 c8 c9:Value}
  {rV:Addr} {o11 U1:Option Addr} {F9:Array (Option Value)} {o14 k15 d16 p17 c18 c19:Value}
  {rW:Addr} {o21 a22:Option Addr} {s23:Array (Option Value)} {o24 k25 d26 p27 c28 c29:Value}
  {rX:Addr} {o31 a32:Option Addr} {s33:Array (Option Value)} {o34 k35 d36 p37 c38 c39:Value}
  {rY:Addr} {o41 a42:Option Addr} {s43:Array (Option Value)} {o44 k45 d46 p47 c48 c49:Value}
  {rZ:Addr} {o51 a52:Option Addr} {s53:Array (Option Value)} {o54 k55 d56 p57 c58 c59:Value}
  {se:Addr} {o61 a62:Option Addr} {s63:Array (Option Value)} {o64 k65 d66 p67 c68 c69:Value}
  {sf:Addr} {o71 a72:Option Addr} {s73:Array (Option Value)} {o74 k75 d76 p77 c78 c79:Value}
  {sg:Addr} {o81 a82:Option Addr} {s83:Array (Option Value)} {o84 k85 d86 p87 c88 c89:Value}
  {si:Addr} {o91 a92:Option Addr} {s93:Array (Option Value)} {o94 k95 d96 p97 c98 c99:Value}
  {D:Addr}
  {MN:Addr} {Adk Adl:Option Addr} {Adm:Array (Option Value)} {Adn Ado Adp Adq Adr sj:Value}
  {Sl:Addr} {Ads Adt:Option Addr} {Adu:Array (Option Value)} {Adv Adw Adx Ady Adz sr:Value}
  {IV:Addr} {Ad0 Ad1:Option Addr} {Ad2:Array (Option Value)} {Ad3 Ad4 Ad5 Ad6 Ad7 su:Value}
  {Pf:Addr} {Ad8 Ad9:Option Addr} {Aea:Array (Option Value)} {Aeb Aec Aed Aee Aef sv:Value}
  {Ll:Addr} {Aeg Aeh:Option Addr} {Aei:Array (Option Value)} {Aej Aek Ael Aem Aen sx:Value}
  {Lm:Addr} {Aeo Aep:Option Addr} {Aeq:Array (Option Value)} {Aer Aes Aet Aeu Aev sy:Value}
  {Pg:Addr} {Aew Aex:Option Addr} {Aey:Array (Option Value)} {Aez Ae0 Ae1 Ae2 Ae3 sC:Value}
  {Ph:Addr} {Ae4 Ae5:Option Addr} {Ae6:Array (Option Value)} {Ae7 Ae8 Ae9 Afa Afb sD:Value}
  {Pj:Addr} {Afc Afd:Option Addr} {Afe:Array (Option Value)} {Afg Afh Afi Afj Afk sE:Value}
  {Pk:Addr} {Afl Afm:Option Addr} {Afn:Array (Option Value)} {Afo Afp Afq Afr Afs sF:Value}
  {Pl:Addr} {Aft Afu:Option Addr} {Afv:Array (Option Value)} {Afw Afx Afy Afz Af0 sG:Value}
  {Pm:Addr} {Af1 Af2:Option Addr} {Af3:Array (Option Value)} {Af4 Af5 Af6 Af7 Af8 sI:Value}
  {Pn:Addr} {Af9 Aga:Option Addr} {Agb:Array (Option Value)} {Agc Agd Age Agf Agg sJ:Value}
  {Po:Addr} {Agh Agi:Option Addr} {Agj:Array (Option Value)} {Agk Agl Agm Agn Ago sL:Value}
  {Pp:Addr} {Agp Agq:Option Addr} {Agr:Array (Option Value)} {Ags Agt Agu Agv Agw sM:Value}
  {VY:Addr} {Agx Agy:Option Addr} {Agz:Array (Option Value)} {Ag0 Ag1 Ag2 Ag3 Ag4 sN:Value}
  {VZ:Addr} {Ag5 Ag6:Option Addr} {Ag7:Array (Option Value)} {Ag8 Ag9 Aha Ahb Ahc sO:Value}
  {V':Addr} {Ahd Ahe:Option Addr} {Ahf:Array (Option Value)} {Ahg Ahh Ahi Ahj Ahk sP:Value}
  {W2:Addr} {Ahl Ahm:Option Addr} {Ahn:Array (Option Value)} {Aho Ahp Ahq Ahr Ahs sQ:Value}
  {W3:Addr} {Aht Ahu:Option Addr} {Ahv:Array (Option Value)} {Ahw Ahx Ahy Ahz Ah0 sR:Value}
  {W4:Addr} {Ah1 Ah2:Option Addr} {Ah3:Array (Option Value)} {Ah4 Ah5 Ah6 Ah7 Ah8 sS:Value}
  {MO:Addr} {Ah9 Aia:Option Addr} {Aib:Array (Option Value)} {Aic Aid Aie Aif Aig sT:Value}
  {Pq:Addr} {Aih Aii:Option Addr} {Aij:Array (Option Value)} {Aik Ail Aim Ain Aio sU:Value}
  {IW:Addr} {Aip Aiq:Option Addr} {Air:Array (Option Value)} {Ais Ait Aiu Aiv Aiw sV:Value}
  {Ln:Addr} {Aix Aiy:Option Addr} {Aiz:Array (Option Value)} {Ai0 Ai1 Ai2 Ai3 Ai4 sW:Value}
  {IX:Addr} {Ai5 Ai6:Option Addr} {Ai7:Array (Option Value)} {Ai8 Ai9 Aja Ajb Ajc sX:Value}
  {Pt:Addr} {Ajd Aje:Option Addr} {Ajf:Array (Option Value)} {Ajg Ajh Aji Ajj Ajk sY:Value}
  {Pu:Addr} {Ajl Ajm:Option Addr} {Ajn:Array (Option Value)} {Ajo Ajp Ajq Ajr Ajs sZ:Value}
  {Pw:Addr} {Ajt Aju:Option Addr} {Ajv:Array (Option Value)} {Ajw Ajx Ajy Ajz Aj0 tj:Value}
  {Px:Addr} {Aj1 Aj2:Option Addr} {Aj3:Array (Option Value)} {Aj4 Aj5 Aj6 Aj7 Aj8 tm:Value}
  {Py:Addr} {Aj9 Aka:Option Addr} {Akb:Array (Option Value)} {Akc Akd Ake Akf Akg tq:Value}
  {Pz:Addr} {Akh Aki:Option Addr} {Akj:Array (Option Value)} {Akk Akl Akm Akn Ako tD:Value}
  {W5:Addr} {Akp Akq:Option Addr} {Akr:Array (Option Value)} {Aks Akt Aku Akv Akw tE:Value}
  {W6:Addr} {Akx Aky:Option Addr} {Akz:Array (Option Value)} {Ak0 Ak1 Ak2 Ak3 Ak4 tF:Value}
  {W7:Addr} {Ak5 Ak6:Option Addr} {Ak7:Array (Option Value)} {Ak8 Ak9 Ala Alb Alc tG:Value}
  {W8:Addr} {Ald Ale:Option Addr} {Alf:Array (Option Value)} {Alh Ali Alj Alk Alm tH:Value}
  {W9:Addr} {Aln Alo:Option Addr} {Alp:Array (Option Value)} {Alq Alr Als Alu Alv tI:Value}
  {Wa:Addr} {Alw Alx:Option Addr} {Aly:Array (Option Value)} {Alz Al0 Al1 Al2 Al3 tJ:Value}
  {Wb:Addr} {Al4 Al5:Option Addr} {Al6:Array (Option Value)} {Al7 Al8 Al9 Ama Amb tK:Value}
  {Wc:Addr} {Amc Amd:Option Addr} {Ame:Array (Option Value)} {Amf Amg Amh Ami Amj tL:Value}
  {Wd:Addr} {Amk Aml:Option Addr} {Amm:Array (Option Value)} {Amn Amo Amp Amq Amr tM:Value}
  {Wf:Addr} {Ams Amt:Option Addr} {Amu:Array (Option Value)} {Amv Amw Amx Amy Amz tN:Value}
  {Wg:Addr} {Am0 Am1:Option Addr} {Am2:Array (Option Value)} {Am3 Am4 Am5 Am6 Am7 tO:Value}
  {Wh:Addr} {Am8 Am9:Option Addr} {Ana:Array (Option Value)} {Anb Anc Ane Anf Ang tP:Value}
  {Wi:Addr} {Anh Ani:Option Addr} {Anj:Array (Option Value)} {Ank Anl Anm Ann Ano tQ:Value}
  {Wj:Addr} {Anp Anq:Option Addr} {Anr:Array (Option Value)} {Ans Ant Anu Anv Anw tR:Value}
  {Wk:Addr} {Anx Anz:Option Addr} {An0:Array (Option Value)} {An1 An2 An3 An4 An5 tS:Value}
  {Wl:Addr} {An6 An7:Option Addr} {An8:Array (Option Value)} {An9 Aoa Aob Aoc Aod tT:Value}
  {Wm:Addr} {Aoe Aof:Option Addr} {Aog:Array (Option Value)} {Aoh Aoi Aoj Aok Aol tU:Value}
  {Wn:Addr} {Aom Aon:Option Addr} {Aoo:Array (Option Value)} {Aop Aoq Aor Aos Aot tV:Value}
  {Wo:Addr} {Aou Aov:Option Addr} {Aow:Array (Option Value)} {Aox Aoy Aoz Ao0 Ao1 tW:Value}
  {Wq:Addr} {Ao2 Ao3:Option Addr} {Ao4:Array (Option Value)} {Ao5 Ao6 Ao7 Ao8 Ao9 tX:Value}
  {Wr:Addr} {Apa Apb:Option Addr} {Apc:Array (Option Value)} {Apd Ape Apf Apg Aph tY:Value}
  {Ws:Addr} {Api Apj:Option Addr} {Apk:Array (Option Value)} {Apl Apm Apn Apo Apq tZ:Value}
  {Wt:Addr} {Aps Apt:Option Addr} {Apu:Array (Option Value)} {Apv Apw Apx Apy Apz u3:Value}
  {Wu:Addr} {Ap0 Ap1:Option Addr} {Ap2:Array (Option Value)} {Ap3 Ap4 Ap5 Ap6 Ap7 u4:Value}
  {Wv:Addr} {Ap8 Ap9:Option Addr} {Aqa:Array (Option Value)} {Aqb Aqc Aqd Aqe Aqf u5:Value}
  {dN:Addr} {Aqg u6:Option Addr} {Aqh:Array (Option Value)} {Aqi u7 u9 ua ub dO:Value}
  {CK CJ CN CM CS mz ml mL:Addr} {Lo PD PF:Array DictEntry} {uc ud ue:Nat}
  (aC:W.nsIn K mainGlobals "Machine"=some (some (.ref C)))
  (Ww:W.findIn K (.ref C) "__init__"=some (some (.ref f0)))
  (Wx:W.isFn K (.ref f0)=true)
  (dP:K.lookup f0=some ⟨o4,o1,.func (W.fnOf "__init__" "Machine.__init__" (As Bp) (Ao Bp) (Ad Bp) .none k5 d6 p7 a2 c9 c8),s3⟩)
  (dQ:W.codeIn K c9 "Machine.__init__"=true)
  (Wy:W.keepIn K (.ref f0)=true)
  (dR:W.findIn K (.ref C) "fetch"=some (some (.ref rV)))
  (dS:W.isFn K (.ref rV)=true)
  (dU:K.lookup rV=some ⟨o14,o11,.func (W.fnOf "fetch" "Machine.fetch" (As BV) (Ao BV) (Ad BV) .none k15 d16 p17 U1 c19 c18),F9⟩)
  (dW:W.codeIn K c19 "Machine.fetch"=true)
  (Wz:W.keepIn K (.ref rV)=true)
  (dX:W.findIn K (.ref C) "take"=some (some (.ref rW)))
  (dY:W.isFn K (.ref rW)=true)
  (dZ:K.lookup rW=some ⟨o24,o21,.func (W.fnOf "take" "Machine.take" (As Ce) (Ao Ce) (Ad Ce) .none k25 d26 p27 a22 c29 c28),s23⟩)
  (el:W.codeIn K c29 "Machine.take"=true)
  (WA:W.keepIn K (.ref rW)=true)
  (er:W.findIn K (.ref C) "take_sort"=some (some (.ref rX)))
  (ez:W.isFn K (.ref rX)=true)
  (eB:K.lookup rX=some ⟨o34,o31,.func (W.fnOf "take_sort" "Machine.take_sort" (As Bj) (Ao Bj) (Ad Bj) .none k35 d36 p37 a32 c39 c38),s33⟩)
  (eC:W.codeIn K c39 "Machine.take_sort"=true)
  (WB:W.keepIn K (.ref rX)=true)
  (eE:W.findIn K (.ref C) "put"=some (some (.ref rY)))
  (eF:W.isFn K (.ref rY)=true)
  (eG:K.lookup rY=some ⟨o44,o41,.func (W.fnOf "put" "Machine.put" (As Cs) (Ao Cs) (Ad Cs) .none k45 d46 p47 a42 c49 c48),s43⟩)
  (eI:W.codeIn K c49 "Machine.put"=true)
  (WC:W.keepIn K (.ref rY)=true)
  (eJ:W.findIn K (.ref C) "hold"=some (some (.ref rZ)))
  (eK:W.isFn K (.ref rZ)=true)
  (eM:K.lookup rZ=some ⟨o54,o51,.func (W.fnOf "hold" "Machine.hold" (As Cf) (Ao Cf) (Ad Cf) .none k55 d56 p57 a52 c59 c58),s53⟩)
  (eN:W.codeIn K c59 "Machine.hold"=true)
  (WD:W.keepIn K (.ref rZ)=true)
  (eO:W.findIn K (.ref C) "check_held"=some (some (.ref se)))
  (eP:W.isFn K (.ref se)=true)
  (eQ:K.lookup se=some ⟨o64,o61,.func (W.fnOf "check_held" "Machine.check_held" (As Bg) (Ao Bg) (Ad Bg) .none k65 d66 p67 a62 c69 c68),s63⟩)
  (eR:W.codeIn K c69 "Machine.check_held"=true)
  (WE:W.keepIn K (.ref se)=true)
  (eS:W.findIn K (.ref C) "skip"=some (some (.ref sf)))
  (eT:W.isFn K (.ref sf)=true)
  (eU:K.lookup sf=some ⟨o74,o71,.func (W.fnOf "skip" "Machine.skip" (As Cg) (Ao Cg) (Ad Cg) .none k75 d76 p77 a72 c79 c78),s73⟩)
  (eV:W.codeIn K c79 "Machine.skip"=true)
  (WG:W.keepIn K (.ref sf)=true)
  (eW:W.findIn K (.ref C) "enter"=some (some (.ref sg)))
  (eX:W.isFn K (.ref sg)=true)
  (eY:K.lookup sg=some ⟨o84,o81,.func (W.fnOf "enter" "Machine.enter" (As BW) (Ao BW) (Ad BW) .none k85 d86 p87 a82 c89 c88),s83⟩)
  (eZ:W.codeIn K c89 "Machine.enter"=true)
  (WH:W.keepIn K (.ref sg)=true)
  (f9:W.findIn K (.ref C) "go_back"=some (some (.ref si)))
  (fc:W.isFn K (.ref si)=true)
  (fe:K.lookup si=some ⟨o94,o91,.func (W.fnOf "go_back" "Machine.go_back" (As BD) (Ao BD) (Ad BD) .none k95 d96 p97 a92 c99 c98),s93⟩)
  (ff:W.codeIn K c99 "Machine.go_back"=true)
  (WI:W.keepIn K (.ref si)=true)
  (pgC:W.plainGet K C Str.empty=true)
  (hdC:W.hasDictIn K C=true)
  (poC:W.plainOver K C=true)
  (saC:W.findIn K (.ref C) "__setattr__"=some (some (.builtin "object.__setattr__")))
  (mkC:W.makesIn K C=true)
  (kcC:W.keepIn K (.ref C)=true)
  (nCC:W.findIn K (.ref C) "code"=some none)
  (nCP:W.findIn K (.ref C) "place"=some none)
  (nCL:W.findIn K (.ref C) "pile"=some none)
  (nCH:W.findIn K (.ref C) "held"=some none)
  (nCB:W.findIn K (.ref C) "behind"=some none)
  (nCK:W.findIn K (.ref C) "calls"=some none)
  (aD:W.nsIn K mainGlobals "Scope"=some (some (.ref D)))
  (WJ:W.findIn K (.ref D) "__init__"=some (some (.ref MN)))
  (WK:W.isFn K (.ref MN)=true)
  (fg:K.lookup MN=some ⟨Adn,Adk,.func (W.fnOf "__init__" "Scope.__init__" (As BL) (Ao BL) (Ad BL) .none Ado Adp Adq Adl sj Adr),Adm⟩)
  (fh:W.codeIn K sj "Scope.__init__"=true)
  (WL:W.keepIn K (.ref MN)=true)
  (pgD:W.plainGet K D Str.empty=true)
  (hdD:W.hasDictIn K D=true)
  (poD:W.plainOver K D=true)
  (saD:W.findIn K (.ref D) "__setattr__"=some (some (.builtin "object.__setattr__")))
  (mkD:W.makesIn K D=true)
  (kcD:W.keepIn K (.ref D)=true)
  (nDT:W.findIn K (.ref D) "tree"=some none)
  (nDP:W.findIn K (.ref D) "places"=some none)
  (nDH:W.findIn K (.ref D) "held"=some none)
  (fj:W.nsIn K mainGlobals "reckoned"=some (some (.ref Sl)))
  (fk:K.lookup Sl=some ⟨Adv,Ads,.func (W.fnOf "reckoned" "reckoned" (As D4) (Ao D4) (Ad D4) .none Adw Adx Ady Adt sr Adz),Adu⟩)
  (fq:W.codeIn K sr "reckoned"=true)
  (WM:W.keepIn K (.ref Sl)=true)
  (fu:W.nsIn K mainGlobals "do_itself"=some (some (.ref IV)))
  (fz:K.lookup IV=some ⟨Ad3,Ad0,.func (W.fnOf "do_itself" "do_itself" (As CA) (Ao CA) (Ad CA) .none Ad4 Ad5 Ad6 Ad1 su Ad7),Ad2⟩)
  (fA:W.codeIn K su "do_itself"=true)
  (PH:W.keepIn K (.ref IV)=true)
  (fB:W.nsIn K mainGlobals "do_name"=some (some (.ref Pf)))
  (fD:K.lookup Pf=some ⟨Aeb,Ad8,.func (W.fnOf "do_name" "do_name" (As Dq) (Ao Dq) (Ad Dq) .none Aec Aed Aee Ad9 sv Aef),Aea⟩)
  (fE:W.codeIn K sv "do_name"=true)
  (WN:W.keepIn K (.ref Pf)=true)
  (fF:W.nsIn K mainGlobals "do_function"=some (some (.ref Ll)))
  (fG:K.lookup Ll=some ⟨Aej,Aeg,.func (W.fnOf "do_function" "do_function" (As C3) (Ao C3) (Ad C3) .none Aek Ael Aem Aeh sx Aen),Aei⟩)
  (fH:W.codeIn K sx "do_function"=true)
  (Sm:W.keepIn K (.ref Ll)=true)
  (fI:W.nsIn K mainGlobals "do_two"=some (some (.ref Lm)))
  (fK:K.lookup Lm=some ⟨Aer,Aeo,.func (W.fnOf "do_two" "do_two" (As E2) (Ao E2) (Ad E2) .none Aes Aet Aeu Aep sy Aev),Aeq⟩)
  (fL:W.codeIn K sy "do_two"=true)
  (Sn:W.keepIn K (.ref Lm)=true)
  (fM:W.nsIn K mainGlobals "do_op"=some (some (.ref Pg)))
  (fN:K.lookup Pg=some ⟨Aez,Aew,.func (W.fnOf "do_op" "do_op" (As EG) (Ao EG) (Ad EG) .none Ae0 Ae1 Ae2 Aex sC Ae3),Aey⟩)
  (fO:W.codeIn K sC "do_op"=true)
  (WO:W.keepIn K (.ref Pg)=true)
  (fQ:W.nsIn K mainGlobals "do_call"=some (some (.ref Ph)))
  (fR:K.lookup Ph=some ⟨Ae7,Ae4,.func (W.fnOf "do_call" "do_call" (As Dr) (Ao Dr) (Ad Dr) .none Ae8 Ae9 Afa Ae5 sD Afb),Ae6⟩)
  (fS:W.codeIn K sD "do_call"=true)
  (WQ:W.keepIn K (.ref Ph)=true)
  (fU:W.nsIn K mainGlobals "do_back"=some (some (.ref Pj)))
  (fV:K.lookup Pj=some ⟨Afg,Afc,.func (W.fnOf "do_back" "do_back" (As Ds) (Ao Ds) (Ad Ds) .none Afh Afi Afj Afd sE Afk),Afe⟩)
  (fW:W.codeIn K sE "do_back"=true)
  (WR:W.keepIn K (.ref Pj)=true)
  (fX:W.nsIn K mainGlobals "do_let"=some (some (.ref Pk)))
  (fY:K.lookup Pk=some ⟨Afo,Afl,.func (W.fnOf "do_let" "do_let" (As E3) (Ao E3) (Ad E3) .none Afp Afq Afr Afm sF Afs),Afn⟩)
  (fZ:W.codeIn K sF "do_let"=true)
  (WS:W.keepIn K (.ref Pk)=true)
  (g0:W.nsIn K mainGlobals "do_open"=some (some (.ref Pl)))
  (g9:K.lookup Pl=some ⟨Afw,Aft,.func (W.fnOf "do_open" "do_open" (As Dt) (Ao Dt) (Ad Dt) .none Afx Afy Afz Afu sG Af0),Afv⟩)
  (gc:W.codeIn K sG "do_open"=true)
  (WT:W.keepIn K (.ref Pl)=true)
  (gg:W.nsIn K mainGlobals "do_drop"=some (some (.ref Pm)))
  (gh:K.lookup Pm=some ⟨Af4,Af1,.func (W.fnOf "do_drop" "do_drop" (As Du) (Ao Du) (Ad Du) .none Af5 Af6 Af7 Af2 sI Af8),Af3⟩)
  (gi:W.codeIn K sI "do_drop"=true)
  (WU:W.keepIn K (.ref Pm)=true)
  (gj:W.nsIn K mainGlobals "do_jump"=some (some (.ref Pn)))
  (gm:K.lookup Pn=some ⟨Agc,Af9,.func (W.fnOf "do_jump" "do_jump" (As Dv) (Ao Dv) (Ad Dv) .none Agd Age Agf Aga sJ Agg),Agb⟩)
  (gn:W.codeIn K sJ "do_jump"=true)
  (WV:W.keepIn K (.ref Pn)=true)
  (gp:W.nsIn K mainGlobals "do_when"=some (some (.ref Po)))
  (gq:K.lookup Po=some ⟨Agk,Agh,.func (W.fnOf "do_when" "do_when" (As Dw) (Ao Dw) (Ad Dw) .none Agl Agm Agn Agi sL Ago),Agj⟩)
  (gu:W.codeIn K sL "do_when"=true)
  (WW:W.keepIn K (.ref Po)=true)
  (gw:W.nsIn K mainGlobals "do_split"=some (some (.ref Pp)))
  (gx:K.lookup Pp=some ⟨Ags,Agp,.func (W.fnOf "do_split" "do_split" (As D5) (Ao D5) (Ad D5) .none Agt Agu Agv Agq sM Agw),Agr⟩)
  (gy:W.codeIn K sM "do_split"=true)
  (WX:W.keepIn K (.ref Pp)=true)
  (gA:W.nsIn K mainGlobals "done"=some (some (.ref VY)))
  (gB:K.lookup VY=some ⟨Ag0,Agx,.func (W.fnOf "done" "done" (As FP) (Ao FP) (Ad FP) .none Ag1 Ag2 Ag3 Agy sN Ag4),Agz⟩)
  (gC:W.codeIn K sN "done"=true)
  (WY:W.keepIn K (.ref VY)=true)
  (gD:W.nsIn K mainGlobals "all_within"=some (some (.ref VZ)))
  (gE:K.lookup VZ=some ⟨Ag8,Ag5,.func (W.fnOf "all_within" "all_within" (As Mt) (Ao Mt) (Ad Mt) .none Ag9 Aha Ahb Ag6 sO Ahc),Ag7⟩)
  (gF:W.codeIn K sO "all_within"=true)
  (gG:W.keepIn K (.ref VZ)=true)
  (gH:W.nsIn K mainGlobals "built"=some (some (.ref V')))
  (gI:K.lookup V'=some ⟨Ahg,Ahd,.func (W.fnOf "built" "built" (As EH) (Ao EH) (Ad EH) .none Ahh Ahi Ahj Ahe sP Ahk),Ahf⟩)
  (gJ:W.codeIn K sP "built"=true)
  (gK:W.keepIn K (.ref V')=true)
  (gL:W.nsIn K mainGlobals "names_at"=some (some (.ref W2)))
  (gM:K.lookup W2=some ⟨Aho,Ahl,.func (W.fnOf "names_at" "names_at" (As Cm) (Ao Cm) (Ad Cm) .none Ahp Ahq Ahr Ahm sQ Ahs),Ahn⟩)
  (gN:W.codeIn K sQ "names_at"=true)
  (gO:W.keepIn K (.ref W2)=true)
  (gP:W.nsIn K mainGlobals "parts_with_names"=some (some (.ref W3)))
  (gQ:K.lookup W3=some ⟨Ahw,Aht,.func (W.fnOf "parts_with_names" "parts_with_names" (As B5) (Ao B5) (Ad B5) .none Ahx Ahy Ahz Ahu sR Ah0),Ahv⟩)
  (gR:W.codeIn K sR "parts_with_names"=true)
  (gS:W.keepIn K (.ref W3)=true)
  (gT:W.nsIn K mainGlobals "inner_scope"=some (some (.ref W4)))
  (gU:K.lookup W4=some ⟨Ah4,Ah1,.func (W.fnOf "inner_scope" "inner_scope" (As C4) (Ao C4) (Ad C4) .none Ah5 Ah6 Ah7 Ah2 sS Ah8),Ah3⟩)
  (gV:W.codeIn K sS "inner_scope"=true)
  (gW:W.keepIn K (.ref W4)=true)
  (gX:W.nsIn K mainGlobals "inner_scopes"=some (some (.ref MO)))
  (gY:K.lookup MO=some ⟨Aic,Ah9,.func (W.fnOf "inner_scopes" "inner_scopes" (As Bi) (Ao Bi) (Ad Bi) .none Aid Aie Aif Aia sT Aig),Aib⟩)
  (gZ:W.codeIn K sT "inner_scopes"=true)
  (WZ:W.keepIn K (.ref MO)=true)
  (hU:W.nsIn K mainGlobals "code_of_name"=some (some (.ref Pq)))
  (hV:K.lookup Pq=some ⟨Aik,Aih,.func (W.fnOf "code_of_name" "code_of_name" (As BN) (Ao BN) (Ad BN) .none Ail Aim Ain Aii sU Aio),Aij⟩)
  (hX:W.codeIn K sU "code_of_name"=true)
  (W':W.keepIn K (.ref Pq)=true)
  (hZ:W.nsIn K mainGlobals "code_of_itself"=some (some (.ref IW)))
  (i4:K.lookup IW=some ⟨Ais,Aip,.func (W.fnOf "code_of_itself" "code_of_itself" (As Bq) (Ao Bq) (Ad Bq) .none Ait Aiu Aiv Aiq sV Aiw),Air⟩)
  (i5:W.codeIn K sV "code_of_itself"=true)
  (PJ:W.keepIn K (.ref IW)=true)
  (i6:W.nsIn K mainGlobals "code_of_function"=some (some (.ref Ln)))
  (i7:K.lookup Ln=some ⟨Ai0,Aix,.func (W.fnOf "code_of_function" "code_of_function" (As Bf) (Ao Bf) (Ad Bf) .none Ai1 Ai2 Ai3 Aiy sW Ai4),Aiz⟩)
  (i8:W.codeIn K sW "code_of_function"=true)
  (So:W.keepIn K (.ref Ln)=true)
  (i9:W.nsIn K mainGlobals "code_of_two"=some (some (.ref IX)))
  (ie:K.lookup IX=some ⟨Ai8,Ai5,.func (W.fnOf "code_of_two" "code_of_two" (As C5) (Ao C5) (Ad C5) .none Ai9 Aja Ajb Ai6 sX Ajc),Ai7⟩)
  (ig:W.codeIn K sX "code_of_two"=true)
  (PK:W.keepIn K (.ref IX)=true)
  (ij:W.nsIn K mainGlobals "code_of_op"=some (some (.ref Pt)))
  (ik:K.lookup Pt=some ⟨Ajg,Ajd,.func (W.fnOf "code_of_op" "code_of_op" (As Cn) (Ao Cn) (Ad Cn) .none Ajh Aji Ajj Aje sY Ajk),Ajf⟩)
  (il:W.codeIn K sY "code_of_op"=true)
  (X1:W.keepIn K (.ref Pt)=true)
  (ip:W.nsIn K mainGlobals "code_of_let"=some (some (.ref Pu)))
  (iq:K.lookup Pu=some ⟨Ajo,Ajl,.func (W.fnOf "code_of_let" "code_of_let" (As C6) (Ao C6) (Ad C6) .none Ajp Ajq Ajr Ajm sZ Ajs),Ajn⟩)
  (iu:W.codeIn K sZ "code_of_let"=true)
  (X2:W.keepIn K (.ref Pu)=true)
  (iw:W.nsIn K mainGlobals "code_of_open"=some (some (.ref Pw)))
  (iy:K.lookup Pw=some ⟨Ajw,Ajt,.func (W.fnOf "code_of_open" "code_of_open" (As BO) (Ao BO) (Ad BO) .none Ajx Ajy Ajz Aju tj Aj0),Ajv⟩)
  (iz:W.codeIn K tj "code_of_open"=true)
  (X3:W.keepIn K (.ref Pw)=true)
  (iA:W.nsIn K mainGlobals "code_of_when"=some (some (.ref Px)))
  (iB:K.lookup Px=some ⟨Aj4,Aj1,.func (W.fnOf "code_of_when" "code_of_when" (As BP) (Ao BP) (Ad BP) .none Aj5 Aj6 Aj7 Aj2 tm Aj8),Aj3⟩)
  (iC:W.codeIn K tm "code_of_when"=true)
  (X4:W.keepIn K (.ref Px)=true)
  (iD:W.nsIn K mainGlobals "code_of_split"=some (some (.ref Py)))
  (iE:K.lookup Py=some ⟨Akc,Aj9,.func (W.fnOf "code_of_split" "code_of_split" (As BE) (Ao BE) (Ad BE) .none Akd Ake Akf Aka tq Akg),Akb⟩)
  (iF:W.codeIn K tq "code_of_split"=true)
  (X5:W.keepIn K (.ref Py)=true)
  (iG:W.nsIn K mainGlobals "code_of"=some (some (.ref Pz)))
  (iH:K.lookup Pz=some ⟨Akk,Akh,.func (W.fnOf "code_of" "code_of" (As Dx) (Ao Dx) (Ad Dx) .none Akl Akm Akn Aki tD Ako),Akj⟩)
  (iI:W.codeIn K tD "code_of"=true)
  (X6:W.keepIn K (.ref Pz)=true)
  (iJ:W.nsIn K mainGlobals "compiled"=some (some (.ref W5)))
  (iK:K.lookup W5=some ⟨Aks,Akp,.func (W.fnOf "compiled" "compiled" (As D6) (Ao D6) (Ad D6) .none Akt Aku Akv Akq tE Akw),Akr⟩)
  (iL:W.codeIn K tE "compiled"=true)
  (iM:W.keepIn K (.ref W5)=true)
  (iO:W.nsIn K mainGlobals "_law_cell"=some (some (.ref W6)))
  (iP:K.lookup W6=some ⟨Ak0,Akx,.func (W.fnOf "_law_cell" "_law_cell" (As Ik) (Ao Ik) (Ad Ik) .none Ak1 Ak2 Ak3 Aky tF Ak4),Akz⟩)
  (iQ:W.codeIn K tF "_law_cell"=true)
  (X7:W.keepIn K (.ref W6)=true)
  (iR:W.nsIn K mainGlobals "_law_mix"=some (some (.ref W7)))
  (iT:K.lookup W7=some ⟨Ak8,Ak5,.func (W.fnOf "_law_mix" "_law_mix" (As Mu) (Ao Mu) (Ad Mu) .none Ak9 Ala Alb Ak6 tG Alc),Ak7⟩)
  (iU:W.codeIn K tG "_law_mix"=true)
  (iW:W.keepIn K (.ref W7)=true)
  (iX:W.nsIn K mainGlobals "_law_pairs"=some (some (.ref W8)))
  (iY:K.lookup W8=some ⟨Alh,Ald,.func (W.fnOf "_law_pairs" "_law_pairs" (As F6) (Ao F6) (Ad F6) .none Ali Alj Alk Ale tH Alm),Alf⟩)
  (iZ:W.codeIn K tH "_law_pairs"=true)
  (X8:W.keepIn K (.ref W8)=true)
  (i':W.nsIn K mainGlobals "_law_wider"=some (some (.ref W9)))
  (j4:K.lookup W9=some ⟨Alq,Aln,.func (W.fnOf "_law_wider" "_law_wider" (As EI) (Ao EI) (Ad EI) .none Alr Als Alu Alo tI Alv),Alp⟩)
  (j6:W.codeIn K tI "_law_wider"=true)
  (j7:W.keepIn K (.ref W9)=true)
  (j8:W.nsIn K mainGlobals "_law_int"=some (some (.ref Wa)))
  (j9:K.lookup Wa=some ⟨Alz,Alw,.func (W.fnOf "_law_int" "_law_int" (As D7) (Ao D7) (Ad D7) .none Al0 Al1 Al2 Alx tJ Al3),Aly⟩)
  (ja:W.codeIn K tJ "_law_int"=true)
  (jb:W.keepIn K (.ref Wa)=true)
  (jc:W.nsIn K mainGlobals "_law_name"=some (some (.ref Wb)))
  (jd:K.lookup Wb=some ⟨Al7,Al4,.func (W.fnOf "_law_name" "_law_name" (As CB) (Ao CB) (Ad CB) .none Al8 Al9 Ama Al5 tK Amb),Al6⟩)
  (je:W.codeIn K tK "_law_name"=true)
  (jf:W.keepIn K (.ref Wb)=true)
  (jg:W.nsIn K mainGlobals "_law_any"=some (some (.ref Wc)))
  (jh:K.lookup Wc=some ⟨Amf,Amc,.func (W.fnOf "_law_any" "_law_any" (As Co) (Ao Co) (Ad Co) .none Amg Amh Ami Amd tL Amj),Ame⟩)
  (ji:W.codeIn K tL "_law_any"=true)
  (jj:W.keepIn K (.ref Wc)=true)
  (jk:W.nsIn K mainGlobals "_law_form"=some (some (.ref Wd)))
  (jl:K.lookup Wd=some ⟨Amn,Amk,.func (W.fnOf "_law_form" "_law_form" (As BZ) (Ao BZ) (Ad BZ) .none Amo Amp Amq Aml tM Amr),Amm⟩)
  (jm:W.codeIn K tM "_law_form"=true)
  (jn:W.keepIn K (.ref Wd)=true)
  (jo:W.nsIn K mainGlobals "_law_ground"=some (some (.ref Wf)))
  (jq:K.lookup Wf=some ⟨Amv,Ams,.func (W.fnOf "_law_ground" "_law_ground" (As BI) (Ao BI) (Ad BI) .none Amw Amx Amy Amt tN Amz),Amu⟩)
  (jr:W.codeIn K tN "_law_ground"=true)
  (jt:W.keepIn K (.ref Wf)=true)
  (ju:W.nsIn K mainGlobals "_law_with"=some (some (.ref Wg)))
  (jv:K.lookup Wg=some ⟨Am3,Am0,.func (W.fnOf "_law_with" "_law_with" (As BJ) (Ao BJ) (Ad BJ) .none Am4 Am5 Am6 Am1 tO Am7),Am2⟩)
  (jw:W.codeIn K tO "_law_with"=true)
  (jx:W.keepIn K (.ref Wg)=true)
  (jy:W.nsIn K mainGlobals "_law_made"=some (some (.ref Wh)))
  (jz:K.lookup Wh=some ⟨Anb,Am8,.func (W.fnOf "_law_made" "_law_made" (As BK) (Ao BK) (Ad BK) .none Anc Ane Anf Am9 tP Ang),Ana⟩)
  (jA:W.codeIn K tP "_law_made"=true)
  (jB:W.keepIn K (.ref Wh)=true)
  (jC:W.nsIn K mainGlobals "_law_built"=some (some (.ref Wi)))
  (jD:K.lookup Wi=some ⟨Ank,Anh,.func (W.fnOf "_law_built" "_law_built" (As Bt) (Ao Bt) (Ad Bt) .none Anl Anm Ann Ani tQ Ano),Anj⟩)
  (jE:W.codeIn K tQ "_law_built"=true)
  (jF:W.keepIn K (.ref Wi)=true)
  (jG:W.nsIn K mainGlobals "_law_taken"=some (some (.ref Wj)))
  (jH:K.lookup Wj=some ⟨Ans,Anp,.func (W.fnOf "_law_taken" "_law_taken" (As B') (Ao B') (Ad B') .none Ant Anu Anv Anq tR Anw),Anr⟩)
  (jI:W.codeIn K tR "_law_taken"=true)
  (jJ:W.keepIn K (.ref Wj)=true)
  (jK:W.nsIn K mainGlobals "_law_let"=some (some (.ref Wk)))
  (jL:K.lookup Wk=some ⟨An1,Anx,.func (W.fnOf "_law_let" "_law_let" (As CC) (Ao CC) (Ad CC) .none An2 An3 An4 Anz tS An5),An0⟩)
  (jM:W.codeIn K tS "_law_let"=true)
  (jN:W.keepIn K (.ref Wk)=true)
  (jO:W.nsIn K mainGlobals "_law_show"=some (some (.ref Wl)))
  (jP:K.lookup Wl=some ⟨An9,An6,.func (W.fnOf "_law_show" "_law_show" (As Cj) (Ao Cj) (Ad Cj) .none Aoa Aob Aoc An7 tT Aod),An8⟩)
  (jQ:W.codeIn K tT "_law_show"=true)
  (jR:W.keepIn K (.ref Wl)=true)
  (jS:W.nsIn K mainGlobals "_law_alike"=some (some (.ref Wm)))
  (jT:K.lookup Wm=some ⟨Aoh,Aoe,.func (W.fnOf "_law_alike" "_law_alike" (As Bu) (Ao Bu) (Ad Bu) .none Aoi Aoj Aok Aof tU Aol),Aog⟩)
  (jU:W.codeIn K tU "_law_alike"=true)
  (jV:W.keepIn K (.ref Wm)=true)
  (jW:W.nsIn K mainGlobals "_law_either"=some (some (.ref Wn)))
  (jX:K.lookup Wn=some ⟨Aop,Aom,.func (W.fnOf "_law_either" "_law_either" (As C7) (Ao C7) (Ad C7) .none Aoq Aor Aos Aon tV Aot),Aoo⟩)
  (jY:W.codeIn K tV "_law_either"=true)
  (jZ:W.keepIn K (.ref Wn)=true)
  (j':W.nsIn K mainGlobals "_law_fits"=some (some (.ref Wo)))
  (k8:K.lookup Wo=some ⟨Aox,Aou,.func (W.fnOf "_law_fits" "_law_fits" (As C0) (Ao C0) (Ad C0) .none Aoy Aoz Ao0 Aov tW Ao1),Aow⟩)
  (k9:W.codeIn K tW "_law_fits"=true)
  (ke:W.keepIn K (.ref Wo)=true)
  (kg:W.nsIn K mainGlobals "_law_reckoned"=some (some (.ref Wq)))
  (kh:K.lookup Wq=some ⟨Ao5,Ao2,.func (W.fnOf "_law_reckoned" "_law_reckoned" (As BF) (Ao BF) (Ad BF) .none Ao6 Ao7 Ao8 Ao3 tX Ao9),Ao4⟩)
  (ki:W.codeIn K tX "_law_reckoned"=true)
  (kj:W.keepIn K (.ref Wq)=true)
  (km:W.nsIn K mainGlobals "_law_done"=some (some (.ref Wr)))
  (kn:K.lookup Wr=some ⟨Apd,Apa,.func (W.fnOf "_law_done" "_law_done" (As CD) (Ao CD) (Ad CD) .none Ape Apf Apg Apb tY Aph),Apc⟩)
  (ko:W.codeIn K tY "_law_done"=true)
  (kr:W.keepIn K (.ref Wr)=true)
  (ky:W.nsIn K mainGlobals "_law_held"=some (some (.ref Ws)))
  (kz:K.lookup Ws=some ⟨Apl,Api,.func (W.fnOf "_law_held" "_law_held" (As CF) (Ao CF) (Ad CF) .none Apm Apn Apo Apj tZ Apq),Apk⟩)
  (kA:W.codeIn K tZ "_law_held"=true)
  (kB:W.keepIn K (.ref Ws)=true)
  (kD:W.nsIn K mainGlobals "_law_brought"=some (some (.ref Wt)))
  (kE:K.lookup Wt=some ⟨Apv,Aps,.func (W.fnOf "_law_brought" "_law_brought" (As BQ) (Ao BQ) (Ad BQ) .none Apw Apx Apy Apt u3 Apz),Apu⟩)
  (kF:W.codeIn K u3 "_law_brought"=true)
  (kG:W.keepIn K (.ref Wt)=true)
  (kH:W.nsIn K mainGlobals "_law_machine_told"=some (some (.ref Wu)))
  (kI:K.lookup Wu=some ⟨Ap3,Ap0,.func (W.fnOf "_law_machine_told" "_law_machine_told" (As Bd) (Ao Bd) (Ad Bd) .none Ap4 Ap5 Ap6 Ap1 u4 Ap7),Ap2⟩)
  (kK:W.codeIn K u4 "_law_machine_told"=true)
  (kL:W.keepIn K (.ref Wu)=true)
  (kN:W.nsIn K mainGlobals "_law_one"=some (some (.ref Wv)))
  (kO:K.lookup Wv=some ⟨Aqb,Ap8,.func (W.fnOf "_law_one" "_law_one" (As D8) (Ao D8) (Ad D8) .none Aqc Aqd Aqe Ap9 u5 Aqf),Aqa⟩)
  (kQ:W.codeIn K u5 "_law_one"=true)
  (kR:W.keepIn K (.ref Wv)=true)
  (X9:W.nsIn K mainGlobals "law"=some (some (.ref dN)))
  (kS:K.lookup dN=some ⟨Aqi,Aqg,.func (W.fnOf "law" "law" (As Il) (Ao Il) (Ad Il) .none u7 u9 ua u6 dO ub),Aqh⟩)
  (kT:W.codeIn K dO "law"=true)
  (kU:W.keepIn K (.ref dN)=true)
  (kW:W.nsIn K mainGlobals "range"=some none)
  (kX:W.nsIn K mainGlobals "dict"=some none)
  (kY:W.nsIn K mainGlobals "list"=some none)
  (kZ:W.nsIn K mainGlobals "reversed"=some none)
  (l0:W.nsIn K mainGlobals "tuple"=some none)
  (l9:W.nsIn K mainGlobals "len"=some none)
  (lj:W.nsIn K mainGlobals "isinstance"=some none)
  (ll:W.nsIn K mainGlobals "int"=some none)
  (lx:W.nsIn K mainGlobals "bool"=some none)
  (lz:W.nsIn K mainGlobals "all"=some none)
  (lA:W.nsIn K mainGlobals "max"=some none)
  (lB:W.nsIn K mainGlobals "min"=some none)
  (lC:W.nsIn K mainGlobals "ValueError"=some none)
  (aK:W.nsIn K mainGlobals "KindError"=some (some (.ref CK)))
  (aJ:W.nsIn K mainGlobals "NoJoin"=some (some (.ref CJ)))
  (aN:W.nsIn K mainGlobals "NoKind"=some (some (.ref CN)))
  (aM:W.nsIn K mainGlobals "NoName"=some (some (.ref CM)))
  (aS:W.nsIn K mainGlobals "Stuck"=some (some (.ref CS)))
  (lD:W.excIn K CK [.type "ValueError",.type "Exception",.type "BaseException",.type "object"] "ValueError.__new__"=true)
  (lE:W.findIn K (.ref CK) "__class__"=some (some (.builtin "object.__class__")))
  (lF:W.findIn K (.ref CK) "__getattribute__"=some (some (.builtin "BaseException.__getattribute__")))
  (lG:W.findIn K (.ref CK) "__getattr__"=some none)
  (x980:W.excIn K CS [.type "ValueError",.type "Exception",.type "BaseException",.type "object"] "ValueError.__new__"=true)
  (x981:W.findIn K (.ref CS) "__class__"=some (some (.builtin "object.__class__")))
  (x982:W.findIn K (.ref CS) "__getattribute__"=some (some (.builtin "BaseException.__getattribute__")))
  (x983:W.findIn K (.ref CS) "__getattr__"=some none)
  (lH:(R1 K CS).contains (.ref CK)=true)
  (x985:W.kitOne K (.ref CS) (.ref CS)=some true)
  (lI:W.kitOne K (.ref CS) (.type "ValueError")=some true)
  (lJ:W.kitAny K (.ref CS) [.ref CN,.ref CM,.ref CJ]=some false)
  (gPL:W.nsIn K mainGlobals "PLACES"=some (some (.ref mz)))
  (dPL:K.lookup mz=some ⟨.type "dict",none,.dict Lo uc,#[]⟩)
  (hPL:Lo.toList=Lo.toList.map (JV w))
  (sPL:(Lo.toList.all λe=>Ih e.key)=true)
  (gRM:W.nsIn K mainGlobals "RULES_machine"=some (some (.ref ml)))
  (dRM:K.lookup ml=some ⟨.type "dict",none,.dict PD ud,#[]⟩)
  (hRM:PD.toList=PD.toList.map (JV w))
  (sRM:(PD.toList.all λe=>Ih e.key)=true)
  (gRC:W.nsIn K mainGlobals "RULES_compiling"=some (some (.ref mL)))
  (dRC:K.lookup mL=some ⟨.type "dict",none,.dict PF ue,#[]⟩)
  (hRC:PF.toList=PF.toList.map (JV w))
  (sRC:(PF.toList.all λe=>Ih e.key)=true)
  (vPL:(Va Lo.toList).map (·.1)=(["name","number","truth","empty","fun","rec","call","let","when","pair","open","link","split","op"]:List Str))
  (pPL:Sk K (Va Lo.toList)=true)
  (vRM:Va PD.toList=([("number",.ref IV),("truth",.ref IV),("empty",.ref IV),("name",.ref Pf),("fun",.ref Ll),("rec",.ref Ll),("pair",.ref Lm),("link",.ref Lm),("op",.ref Pg),("call",.ref Ph),("back",.ref Pj),("let",.ref Pk),("open",.ref Pl),("drop",.ref Pm),("jump",.ref Pn),("when",.ref Po),("split",.ref Pp)]:List (Str × Value)))
  (vRC:Va PF.toList=([("name",.ref Pq),("number",.ref IW),("truth",.ref IW),("empty",.ref IW),("fun",.ref Ln),("rec",.ref Ln),("call",.ref IX),("let",.ref Pu),("when",.ref Px),("pair",.ref IX),("open",.ref Pw),("link",.ref IX),("split",.ref Py),("op",.ref Pt)]:List (Str × Value)))
  (hK:W.noTabs K=true) :
  ∃ (fd:FuncData) (tabs:List (Addr × Addr)),W.noTabs K=true/\W.TabsAt tabs h/\(∀ (s:Shared) (u:Value),BindsTo s fd ⟨[u],[]⟩ [("_law_script",u)]) /\
    ∀ base:Heap,K.In base->base.Ns mainGlobals mg->(∀ q∈tabs,Nj base mg q.1 q.2)->AI l.prog w K mg base BR 262 fa fd ["_law_script"] (QT K 63 (tabs.map (·.2))):=by
 have G:=T0.g
 have e0:=hfa.symm.trans (W.mg_of X G X9)
 cases e0
 have mgC:=W.mg_of X G aC
 have uf:=AE (st:=Bp) dP dQ Wy
 have Ark:=uf.binds (ps:=["self","code"]) λ_ _ _ _ _ _=>Cd AR
 have A3d:Meth K C "__init__" f0:=⟨Ww,Wx,Wy⟩
 have ug:=AE (st:=BV) dU dW Wz
 have Arl:=ug.binds (ps:=["self"]) λ_ _ _ _ _ _=>JS (λ_=>rfl)
 have Arm:Meth K C "fetch" rV:=⟨dR,dS,Wz⟩
 have uh:=AE (st:=Ce) dZ el WA
 have ui:=uh.binds (ps:=["self"]) λ_ _ _ _ _ _=>JS (λ_=>rfl)
 have uj:Meth K C "take" rW:=⟨dX,dY,WA⟩
 have uk:=AE (st:=Bj) eB eC WB
 have Arn:=uk.binds (ps:=["self","words"]) λ_ _ _ _ _ _=>Cd AR
 have Aro:Meth K C "take_sort" rX:=⟨er,ez,WB⟩
 have Yb:=AE (st:=Cs) eG eI WC
 have um:=Yb.binds (ps:=["self","value","inner"]) λ_ _ _ _ _ _=>KA (λ_ _ _=>rfl)
 have uo:Meth K C "put" rY:=⟨eE,eF,WC⟩
 have Yc:=AE (st:=Cf) eM eN WD
 have uq:=Yc.binds (ps:=["self","values"]) λ_ _ _ _ _ _=>Cd AR
 have ur:Meth K C "hold" rZ:=⟨eJ,eK,WD⟩
 have Yd:=AE (st:=Bg) eQ eR WE
 have uu:=Yd.binds (ps:=["self","least"]) λ_ _ _ _ _ _=>Cd AR
 have uv:Meth K C "check_held" se:=⟨eO,eP,WE⟩
 have Ye:=AE (st:=Cg) eU eV WG
 have uw:=Ye.binds (ps:=["self","further"]) λ_ _ _ _ _ _=>Cd AR
 have ux:Meth K C "skip" sf:=⟨eS,eT,WG⟩
 have Yf:=AE (st:=BW) eY eZ WH
 have uy:=Yf.binds (ps:=["self","begin","held"]) λ_ _ _ _ _ _=>KA (λ_ _ _=>rfl)
 have uz:Meth K C "enter" sg:=⟨eW,eX,WH⟩
 have Yg:=AE (st:=BD) fe ff WI
 have uA:=Yg.binds (ps:=["self"]) λ_ _ _ _ _ _=>JS (λ_=>rfl)
 have uB:Meth K C "go_back" si:=⟨f9,fc,WI⟩
 have mgD:=W.mg_of X G aD
 have Yh:=AE (st:=BL) fg fh WL
 have Yi:=Yh.binds (ps:=["self","tree","places","held"]) λ_ _ _ _ _ _=>V7 (λ_ _ _ _=>rfl)
 have Au8:Meth K D "__init__" MN:=⟨WJ,WK,WL⟩
 have Sq:=AE (st:=D4) fk fq WM
 have Yj:=W.mg_of X G fj
 have Yk:=Sq.binds (ps:=["word","one","other"]) λ_ _ _ _ _ _=>KA (λ_ _ _=>rfl)
 have Au9:Df K mg "reckoned" D4 ["word","one","other"] Sl _:=⟨Sq,Yk,Yj⟩
 have Sr:=AE (st:=CA) fz fA PH
 have uC:=W.mg_of X G fu
 have NW:=Sr.binds (ps:=["machine","step"]) λ_ _ _ _ _ _=>Cd AR
 have Ava:Df K mg "do_itself" CA ["machine","step"] IV _:=⟨Sr,NW,uC⟩
 have Ss:=AE (st:=Dq) fD fE WN
 have uD:=W.mg_of X G fB
 have Yl:=Ss.binds (ps:=["machine","step"]) λ_ _ _ _ _ _=>Cd AR
 have Avb:Df K mg "do_name" Dq ["machine","step"] Pf _:=⟨Ss,Yl,uD⟩
 have Sv:=AE (st:=C3) fG fH Sm
 have uE:=W.mg_of X G fF
 have Sw:=Sv.binds (ps:=["machine","step"]) λ_ _ _ _ _ _=>Cd AR
 have Avc:Df K mg "do_function" C3 ["machine","step"] Ll _:=⟨Sv,Sw,uE⟩
 have Sx:=AE (st:=E2) fK fL Sn
 have uF:=W.mg_of X G fI
 have Sy:=Sx.binds (ps:=["machine","step"]) λ_ _ _ _ _ _=>Cd AR
 have Avd:Df K mg "do_two" E2 ["machine","step"] Lm _:=⟨Sx,Sy,uF⟩
 have Sz:=AE (st:=EG) fN fO WO
 have uG:=W.mg_of X G fM
 have Ym:=Sz.binds (ps:=["machine","step"]) λ_ _ _ _ _ _=>Cd AR
 have Ave:Df K mg "do_op" EG ["machine","step"] Pg _:=⟨Sz,Ym,uG⟩
 have SH:=AE (st:=Dr) fR fS WQ
 have uH:=W.mg_of X G fQ
 have Yn:=SH.binds (ps:=["machine","step"]) λ_ _ _ _ _ _=>Cd AR
 have Avf:Df K mg "do_call" Dr ["machine","step"] Ph _:=⟨SH,Yn,uH⟩
 have SJ:=AE (st:=Ds) fV fW WR
 have uI:=W.mg_of X G fU
 have Yo:=SJ.binds (ps:=["machine","step"]) λ_ _ _ _ _ _=>Cd AR
 have Avg:Df K mg "do_back" Ds ["machine","step"] Pj _:=⟨SJ,Yo,uI⟩
 have SK:=AE (st:=E3) fY fZ WS
 have uJ:=W.mg_of X G fX
 have Yp:=SK.binds (ps:=["machine","step"]) λ_ _ _ _ _ _=>Cd AR
 have Avh:Df K mg "do_let" E3 ["machine","step"] Pk _:=⟨SK,Yp,uJ⟩
 have SM:=AE (st:=Dt) g9 gc WT
 have uK:=W.mg_of X G g0
 have Yq:=SM.binds (ps:=["machine","step"]) λ_ _ _ _ _ _=>Cd AR
 have Avi:Df K mg "do_open" Dt ["machine","step"] Pl _:=⟨SM,Yq,uK⟩
 have SN:=AE (st:=Du) gh gi WU
 have uL:=W.mg_of X G gg
 have Yr:=SN.binds (ps:=["machine","step"]) λ_ _ _ _ _ _=>Cd AR
 have Avj:Df K mg "do_drop" Du ["machine","step"] Pm _:=⟨SN,Yr,uL⟩
 have SQ:=AE (st:=Dv) gm gn WV
 have uM:=W.mg_of X G gj
 have Ys:=SQ.binds (ps:=["machine","step"]) λ_ _ _ _ _ _=>Cd AR
 have Avk:Df K mg "do_jump" Dv ["machine","step"] Pn _:=⟨SQ,Ys,uM⟩
 have SR:=AE (st:=Dw) gq gu WW
 have uN:=W.mg_of X G gp
 have Yt:=SR.binds (ps:=["machine","step"]) λ_ _ _ _ _ _=>Cd AR
 have Avl:Df K mg "do_when" Dw ["machine","step"] Po _:=⟨SR,Yt,uN⟩
 have SU:=AE (st:=D5) gx gy WX
 have uO:=W.mg_of X G gw
 have Yu:=SU.binds (ps:=["machine","step"]) λ_ _ _ _ _ _=>Cd AR
 have Avm:Df K mg "do_split" D5 ["machine","step"] Pp _:=⟨SU,Yu,uO⟩
 have SV:=AE (st:=FP) gB gC WY
 have Yv:=W.mg_of X G gA
 have Yw:=SV.binds (ps:=["code","most"]) λ_ _ _ _ _ _=>Cd AR
 have Avn:Df K mg "done" FP ["code","most"] VY _:=⟨SV,Yw,Yv⟩
 have SX:=AE (st:=Mt) gE gF gG
 have uP:=W.mg_of X G gD
 have uQ:=SX.binds (ps:=["top","parts_of"]) λ_ _ _ _ _ _=>Cd AR
 have uR:Df K mg "all_within" Mt ["top","parts_of"] VZ _:=⟨SX,uQ,uP⟩
 have SY:=AE (st:=EH) gI gJ gK
 have uS:=W.mg_of X G gH
 have uT:=SY.binds (ps:=["top","parts_of","make"]) λ_ _ _ _ _ _=>KA (λ_ _ _=>rfl)
 have uU:Df K mg "built" EH ["top","parts_of","make"] V' _:=⟨SY,uT,uS⟩
 have S':=AE (st:=Cm) gM gN gO
 have uV:=W.mg_of X G gL
 have uW:=S'.binds (ps:=["tree","places"]) λ_ _ _ _ _ _=>Cd AR
 have uX:Df K mg "names_at" Cm ["tree","places"] W2 _:=⟨S',uW,uV⟩
 have T1:=AE (st:=B5) gQ gR gS
 have uY:=W.mg_of X G gP
 have uZ:=T1.binds (ps:=["tree"]) λ_ _ _ _ _ _=>JS (λ_=>rfl)
 have v5:Df K mg "parts_with_names" B5 ["tree"] W3 _:=⟨T1,uZ,uY⟩
 have T2:=AE (st:=C4) gU gV gW
 have v8:=W.mg_of X G gT
 have v9:=T2.binds (ps:=["scope","part","names"]) λ_ _ _ _ _ _=>KA (λ_ _ _=>rfl)
 have va:Df K mg "inner_scope" C4 ["scope","part","names"] W4 _:=⟨T2,v9,v8⟩
 have T3:=AE (st:=Bi) gY gZ WZ
 have Yx:=W.mg_of X G gX
 have Yy:=T3.binds (ps:=["scope"]) λ_ _ _ _ _ _=>JS (λ_=>rfl)
 have Avo:Df K mg "inner_scopes" Bi ["scope"] MO _:=⟨T3,Yy,Yx⟩
 have T4:=AE (st:=BN) hV hX W'
 have vb:=W.mg_of X G hU
 have Yz:=T4.binds (ps:=["scope","codes"]) λ_ _ _ _ _ _=>Cd AR
 have Avp:Df K mg "code_of_name" BN ["scope","codes"] Pq _:=⟨T4,Yz,vb⟩
 have T5:=AE (st:=Bq) i4 i5 PJ
 have vd:=W.mg_of X G hZ
 have NX:=T5.binds (ps:=["scope","codes"]) λ_ _ _ _ _ _=>Cd AR
 have Avq:Df K mg "code_of_itself" Bq ["scope","codes"] IW _:=⟨T5,NX,vd⟩
 have T6:=AE (st:=Bf) i7 i8 So
 have ve:=W.mg_of X G i6
 have T7:=T6.binds (ps:=["scope","codes"]) λ_ _ _ _ _ _=>Cd AR
 have Avr:Df K mg "code_of_function" Bf ["scope","codes"] Ln _:=⟨T6,T7,ve⟩
 have T8:=AE (st:=C5) ie ig PK
 have vf:=W.mg_of X G i9
 have NY:=T8.binds (ps:=["scope","codes"]) λ_ _ _ _ _ _=>Cd AR
 have Avs:Df K mg "code_of_two" C5 ["scope","codes"] IX _:=⟨T8,NY,vf⟩
 have T9:=AE (st:=Cn) ik il X1
 have vg:=W.mg_of X G ij
 have YA:=T9.binds (ps:=["scope","codes"]) λ_ _ _ _ _ _=>Cd AR
 have Avt:Df K mg "code_of_op" Cn ["scope","codes"] Pt _:=⟨T9,YA,vg⟩
 have Ta:=AE (st:=C6) iq iu X2
 have vh:=W.mg_of X G ip
 have YB:=Ta.binds (ps:=["scope","codes"]) λ_ _ _ _ _ _=>Cd AR
 have Avu:Df K mg "code_of_let" C6 ["scope","codes"] Pu _:=⟨Ta,YB,vh⟩
 have Tb:=AE (st:=BO) iy iz X3
 have vi:=W.mg_of X G iw
 have YC:=Tb.binds (ps:=["scope","codes"]) λ_ _ _ _ _ _=>Cd AR
 have Avv:Df K mg "code_of_open" BO ["scope","codes"] Pw _:=⟨Tb,YC,vi⟩
 have Tc:=AE (st:=BP) iB iC X4
 have vj:=W.mg_of X G iA
 have YD:=Tc.binds (ps:=["scope","codes"]) λ_ _ _ _ _ _=>Cd AR
 have Avw:Df K mg "code_of_when" BP ["scope","codes"] Px _:=⟨Tc,YD,vj⟩
 have Td:=AE (st:=BE) iE iF X5
 have vk:=W.mg_of X G iD
 have YE:=Td.binds (ps:=["scope","codes"]) λ_ _ _ _ _ _=>Cd AR
 have Avx:Df K mg "code_of_split" BE ["scope","codes"] Py _:=⟨Td,YE,vk⟩
 have Te:=AE (st:=Dx) iH iI X6
 have YF:=W.mg_of X G iG
 have YG:=Te.binds (ps:=["scope","codes"]) λ_ _ _ _ _ _=>Cd AR
 have Avy:Df K mg "code_of" Dx ["scope","codes"] Pz _:=⟨Te,YG,YF⟩
 have Tf:=AE (st:=D6) iK iL iM
 have vm:=W.mg_of X G iJ
 have vn:=Tf.binds (ps:=["tree"]) λ_ _ _ _ _ _=>JS (λ_=>rfl)
 have vo:Df K mg "compiled" D6 ["tree"] W5 _:=⟨Tf,vn,vm⟩
 have Tg:=AE (st:=Ik) iP iQ X7
 have YH:=W.mg_of X G iO
 have YI:=Tg.binds (ps:=FD) λ_ _ _ _ _ _=>Cd AR
 have Avz:Df K mg "_law_cell" Ik FD W6 _:=⟨Tg,YI,YH⟩
 have Ti:=AE (st:=Mu) iT iU iW
 have vp:=W.mg_of X G iR
 have vq:=Ti.binds (ps:=FD) λ_ _ _ _ _ _=>Cd AR
 have vt:Df K mg "_law_mix" Mu FD W7 _:=⟨Ti,vq,vp⟩
 have Tj:=AE (st:=F6) iY iZ X8
 have Tn:=W.mg_of X G iX
 have To:=Tj.binds (ps:=["_law_wide","_law_kind"]) λ_ _ _ _ _ _=>Cd AR
 have Av0:Df K mg "_law_pairs" F6 ["_law_wide","_law_kind"] W8 _:=⟨Tj,To,Tn⟩
 have Tp:=AE (st:=EI) j4 j6 j7
 have vv:=W.mg_of X G i'
 have vw:=Tp.binds (ps:=["_law_wide","_law_kind"]) λ_ _ _ _ _ _=>Cd AR
 have vx:Df K mg "_law_wider" EI ["_law_wide","_law_kind"] W9 _:=⟨Tp,vw,vv⟩
 have Tq:=AE (st:=D7) j9 ja jb
 have vy:=W.mg_of X G j8
 have vz:=Tq.binds (ps:=["_law_number"]) λ_ _ _ _ _ _=>JS (λ_=>rfl)
 have vA:Df K mg "_law_int" D7 ["_law_number"] Wa _:=⟨Tq,vz,vy⟩
 have Tr:=AE (st:=CB) jd je jf
 have vB:=W.mg_of X G jc
 have vC:=Tr.binds (ps:=["_law_number"]) λ_ _ _ _ _ _=>JS (λ_=>rfl)
 have vD:Df K mg "_law_name" CB ["_law_number"] Wb _:=⟨Tr,vC,vB⟩
 have YJ:=AE (st:=Co) jh ji jj
 have vE:=W.mg_of X G jg
 have vF:=YJ.binds (ps:=["_law_script","_law_k","_law_names","_law_deep"]) λ_ _ _ _ _ _=>V7 (λ_ _ _ _=>rfl)
 have vG:Df K mg "_law_any" Co ["_law_script","_law_k","_law_names","_law_deep"] Wc _:=⟨YJ,vF,vE⟩
 have YK:=AE (st:=BZ) jl jm jn
 have vH:=W.mg_of X G jk
 have vI:=YK.binds (ps:=["_law_script","_law_k","_law_names","_law_deep","_law_number"]) λ_ _ _ _ _ _=>V8 (λ_ _ _ _ _=>rfl)
 have vJ:Df K mg "_law_form" BZ ["_law_script","_law_k","_law_names","_law_deep","_law_number"] Wd _:=⟨YK,vI,vH⟩
 have YL:=AE (st:=BI) jq jr jt
 have vK:=W.mg_of X G jo
 have vL:=YL.binds (ps:=["_law_script","_law_k","_law_deep"]) λ_ _ _ _ _ _=>KA (λ_ _ _=>rfl)
 have vM:Df K mg "_law_ground" BI ["_law_script","_law_k","_law_deep"] Wf _:=⟨YL,vL,vK⟩
 have Ts:=AE (st:=BJ) jv jw jx
 have vN:=W.mg_of X G ju
 have vO:=Ts.binds (ps:=["_law_names","_law_more"]) λ_ _ _ _ _ _=>Cd AR
 have vP:Df K mg "_law_with" BJ ["_law_names","_law_more"] Wg _:=⟨Ts,vO,vN⟩
 have YM:=AE (st:=BK) jz jA jB
 have vQ:=W.mg_of X G jy
 have vR:=YM.binds (ps:=HE) λ_ _ _ _ _ _=>V8 (λ_ _ _ _ _=>rfl)
 have vS:Df K mg "_law_made" BK HE Wh _:=⟨YM,vR,vQ⟩
 have YN:=AE (st:=Bt) jD jE jF
 have vT:=W.mg_of X G jC
 have vU:=YN.binds (ps:=HE) λ_ _ _ _ _ _=>V8 (λ_ _ _ _ _=>rfl)
 have vV:Df K mg "_law_built" Bt HE Wi _:=⟨YN,vU,vT⟩
 have YO:=AE (st:=B') jH jI jJ
 have vW:=W.mg_of X G jG
 have vX:=YO.binds (ps:=HE) λ_ _ _ _ _ _=>V8 (λ_ _ _ _ _=>rfl)
 have vY:Df K mg "_law_taken" B' HE Wj _:=⟨YO,vX,vW⟩
 have YQ:=AE (st:=CC) jL jM jN
 have vZ:=W.mg_of X G jK
 have wa:=YQ.binds (ps:=["_law_script","_law_k","_law_goal","_law_names","_law_deep","_law_a","_law_kind"]) λ_ _ _ _ _ _=>aE (λ_ _ _ _ _ _ _=>rfl)
 have we:Df K mg "_law_let" CC ["_law_script","_law_k","_law_goal","_law_names","_law_deep","_law_a","_law_kind"] Wk _:=⟨YQ,wa,vZ⟩
 have YR:=AE (st:=Cj) jP jQ jR
 have wg:=W.mg_of X G jO
 have wm:=YR.binds (ps:=["_law_value"]) λ_ _ _ _ _ _=>JS (λ_=>rfl)
 have wo:Df K mg "_law_show" Cj ["_law_value"] Wl _:=⟨YR,wm,wg⟩
 have YS:=AE (st:=Bu) jT jU jV
 have wq:=W.mg_of X G jS
 have wt:=YS.binds (ps:=["_law_one_here","_law_other"]) λ_ _ _ _ _ _=>Cd AR
 have wu:Df K mg "_law_alike" Bu ["_law_one_here","_law_other"] Wm _:=⟨YS,wt,wq⟩
 have Tt:=AE (st:=C7) jX jY jZ
 have wx:=W.mg_of X G jW
 have wy:=Tt.binds (ps:=["_law_script","_law_base","_law_deep"]) λ_ _ _ _ _ _=>KA (λ_ _ _=>rfl)
 have wz:Df K mg "_law_either" C7 ["_law_script","_law_base","_law_deep"] Wn _:=⟨Tt,wy,wx⟩
 have Tv:=AE (st:=C0) k8 k9 ke
 have wA:=W.mg_of X G j'
 have wB:=Tv.binds (ps:=["_law_word","_law_taken_here"]) λ_ _ _ _ _ _=>Cd AR
 have wC:Df K mg "_law_fits" C0 ["_law_word","_law_taken_here"] Wo _:=⟨Tv,wB,wA⟩
 have Tw:=AE (st:=BF) kh ki kj
 have wD:=W.mg_of X G kg
 have wF:=Tw.binds (ps:=["_law_op","_law_one_here","_law_other"]) λ_ _ _ _ _ _=>KA (λ_ _ _=>rfl)
 have wG:Df K mg "_law_reckoned" BF ["_law_op","_law_one_here","_law_other"] Wq _:=⟨Tw,wF,wD⟩
 have Tx:=AE (st:=CD) kn ko kr
 have wH:=W.mg_of X G km
 have wI:=Tx.binds (ps:=["_law_code","_law_most"]) λ_ _ _ _ _ _=>Cd AR
 have wJ:Df K mg "_law_done" CD ["_law_code","_law_most"] Wr _:=⟨Tx,wI,wH⟩
 have Tz:=AE (st:=CF) kz kA kB
 have wK:=W.mg_of X G ky
 have wL:=Tz.binds (ps:=["_law_word","_law_last","_law_taken_here","_law_held_here"]) λ_ _ _ _ _ _=>V7 (λ_ _ _ _=>rfl)
 have wM:Df K mg "_law_held" CF ["_law_word","_law_last","_law_taken_here","_law_held_here"] Ws _:=⟨Tz,wL,wK⟩
 have TB:=AE (st:=BQ) kE kF kG
 have wN:=W.mg_of X G kD
 have wO:=TB.binds (ps:=["_law_one_here","_law_taken_here","_law_at","_law_held_here"]) λ_ _ _ _ _ _=>V7 (λ_ _ _ _=>rfl)
 have wQ:Df K mg "_law_brought" BQ ["_law_one_here","_law_taken_here","_law_at","_law_held_here"] Wt _:=⟨TB,wO,wN⟩
 have TC:=AE (st:=Bd) kI kK kL
 have wR:=W.mg_of X G kH
 have wU:=TC.binds (ps:=["_law_code","_law_most"]) λ_ _ _ _ _ _=>Cd AR
 have wV:Df K mg "_law_machine_told" Bd ["_law_code","_law_most"] Wu _:=⟨TC,wU,wR⟩
 have TF:=AE (st:=D8) kO kQ kR
 have wW:=W.mg_of X G kN
 have wX:=TF.binds (ps:=FD) λ_ _ _ _ _ _=>Cd AR
 have wY:Df K mg "_law_one" D8 FD Wv _:=⟨TF,wX,wW⟩
 have wZ:=AE (st:=Il) kS kT kU
 have Av1:=W.mg_of X G X9
 have NZ:=W.mg_none_of X G kW
 have YT:=W.mg_none_of X G kX
 have O0:=W.mg_none_of X G kY
 have YU:=W.mg_none_of X G kZ
 have O1:=W.mg_none_of X G l0
 have DS:=W.mg_none_of X G l9
 have TH:=W.mg_none_of X G lj
 have YV:=W.mg_none_of X G ll
 have x3:=W.mg_none_of X G lx
 have YW:=W.mg_none_of X G lz
 have YX:=W.mg_none_of X G lA
 have x4:=W.mg_none_of X G lB
 have x5:=W.mg_none_of X G lC
 refine ⟨_,[],hK,?_,λs v=>(.of_eq rfl:BindsTo s (W.fnOf "law" "law" (As Il) (Ao Il) (Ad Il) .none u7 u9 ua u6 dO ub) ⟨[v],[]⟩ [("_law_script",v)]),λbase KB GB hN=>?_⟩
 ·intro q hq
  cases hq
 ·skip
  have T:Hq K mg C:=⟨⟨pgC,hdC,poC,saC⟩,nCC,nCP,nCL,nCH,nCB,nCK,mgC⟩
  have TS:FU K mg D:=⟨⟨pgD,hdD,poD,saD⟩,nDT,nDP,nDH,mgD⟩
  have mS:=W.mg_of X G aS
  have EZ:qD K mg CK CJ CN CM CS _ _ _ _:=⟨W.mg_of X G aK,W.mg_of X G aJ,W.mg_of X G aN,W.mg_of X G aM,mS,x5,TH,⟨lD,rfl,rfl,lE,lF,lG⟩,⟨x980,rfl,rfl,x981,x982,x983⟩,lH,x985,lI,lJ⟩
  have FS:=PySem.F.excBase_ValueError
  have mPL:=W.mg_of X G gPL
  have mRM:=W.mg_of X G gRM
  have mRC:=W.mg_of X G gRC
  have Arp:F5 w K mz (Va Lo.toList):=⟨⟨Lo,uc,dPL,hPL,sPL,rfl⟩,by rw [vPL];decide +kernel⟩
  have Arq:F5 w K ml _:=⟨⟨PD,ud,dRM,hRM,sRM,vRM⟩,by simp only [List.map_cons,List.map_nil];decide +kernel⟩
  have Ars:F5 w K mL _:=⟨⟨PF,ue,dRC,hRC,sRC,vRC⟩,by simp only [List.map_cons,List.map_nil];decide +kernel⟩
  have x6:=λcode=>b7 (Pr:=l.prog) (w:=w) (base:=base) (code:=code) uh T mS x980 FS
  have N:∀ code,MM l.prog w K mg base C CS code:=λcode=>⟨T,⟨_,_,x6 code,ui,uj⟩,⟨_,_,b8 uk T mS x980 FS (x6 code) ui uj,Arn,Aro⟩,⟨_,_,b9 Yb T,um,uo⟩,⟨_,_,bb Yc T,uq,ur⟩,
   ⟨_,_,bc Yd T DS mS x980 FS,uu,uv⟩,⟨_,_,bg Ye T,uw,ux⟩,⟨_,_,bj Yf T,uy,uz⟩,⟨_,_,bo Yg T mS x980 FS,uA,uB⟩⟩
  have cRk:ClX l.prog w K mg base 1 "reckoned" ["word","one","other"] (Vk CS):=⟨Sl,_,pK Sq mS x980 FS,WM,Yk,Yj⟩
  have TJ:=λcode=>br Sr (N code)
  have x8:=λcode=>bt Ss (N code) DS
  have YY:=λcode=>bu Sv (N code)
  have YZ:=λcode=>bx Sx (N code)
  have x9:=λcode=>bD Sz (N code) cRk
  have xa:=λcode=>bF SH (N code)
  have xb:=λcode=>bJ SJ (N code)
  have xc:=λcode=>bL SK (N code)
  have xf:=λcode=>bN SM (N code)
  have xg:=λcode=>bO SN (N code) DS
  have xh:=λcode=>bQ SQ (N code)
  have xi:=λcode=>bR SR (N code)
  have xj:=λcode=>bU SU (N code)
  have GD:=λcode=>Vq SV (N code) ⟨mkC,Ww,Wx,kcC⟩ (Vp uf T) Ark ⟨_,_,b6 ug T DS mS x980 FS,Arl,Arm⟩ Arq mRM (AB ⟨IV,_,rfl,TJ code,PH,NW⟩ (AB ⟨IV,_,rfl,TJ code,PH,NW⟩ (AB ⟨IV,_,rfl,TJ code,PH,NW⟩ (AB ⟨Pf,_,rfl,x8 code,WN,Yl⟩ (AB ⟨Ll,_,rfl,YY code,Sm,Sw⟩ (AB ⟨Ll,_,rfl,YY code,Sm,Sw⟩ (AB ⟨Lm,_,rfl,YZ code,Sn,Sy⟩ (AB ⟨Lm,_,rfl,YZ code,Sn,Sy⟩ (AB ⟨Pg,_,rfl,x9 code,WO,Ym⟩ (AB ⟨Ph,_,rfl,xa code,WQ,Yn⟩ (AB ⟨Pj,_,rfl,xb code,WR,Yo⟩ (AB ⟨Pk,_,rfl,xc code,WS,Yp⟩ (AB ⟨Pl,_,rfl,xf code,WT,Yq⟩ (AB ⟨Pm,_,rfl,xg code,WU,Yr⟩ (AB ⟨Pn,_,rfl,xh code,WV,Ys⟩ (AB ⟨Po,_,rfl,xi code,WW,Yt⟩ (AB ⟨Pp,_,rfl,xj code,WX,Yu⟩ IA)))))))))))))))))
  have cT:Cl l.prog w K mg base 5 "_law_machine_told" ["_law_code","_law_most"] Y9:=wV.cl (AI.exi λcode=>qE TC EZ (GD code) WY Yw Yv)
  have cM:Cl l.prog w K mg base 2 "_law_mix" FD (DR K):=vt.cl (cz Ti (VB Tg DS) X7 YI YH)
  have cI:Cl l.prog w K mg base 1 "_law_int" ["_law_number"] Gj:=vA.cl (cJ Tq)
  have cN:Cl l.prog w K mg base 1 "_law_name" ["_law_number"] EJ:=vD.cl (VC Tr)
  have cV:Cl l.prog w K mg base 1 "_law_with" ["_law_names","_law_more"] FW:=vP.cl (VM Ts)
  have cG:Cl l.prog w K mg base 5 "_law_ground" ["_law_script","_law_k","_law_deep"] (DJ K 2):=Js vM cM 2
  have GP:=λn=>Lf (Pr:=l.prog) (w:=w) (base:=base) Tj To Tn NZ DS n
  have cW:Cl l.prog w K mg base 11 "_law_wider" ["_law_wide","_law_kind"] (Fp 8):=vx.cl (S4 (n:=8) Tp YT YW (GP 8) X8 To Tn)
  have cMd:Cl l.prog w K mg base 42 "_law_made" HE (Iy K 9):=Li ⟨vS,vY,vV,we⟩ DS YX YV O0 O1 NZ cM cN cV cI cG cW 10
  have Art:=VT vG vJ DS cM cI cN
  have cE:Cl l.prog w K mg base 43 "_law_either" ["_law_script","_law_base","_law_deep"] (Gv K):=wz.cl (Pe Tt cM cG Art cMd)
  have GI:AI l.prog w K mg base BR 1 MN _ ["self","tree","places","held"] (Fm D):=RW Yh TS
  have MS:Mk K D MN:=⟨mkD,WJ,WK,kcD⟩
  have Aru:Cl l.prog w K mg base 1 "names_at" ["tree","places"] (Lc K):=uX.cl (cX S' O1)
  have cP:Cl l.prog w K mg base 2 "parts_with_names" ["tree"] NO:=v5.cl (cY T1 Arp mPL (dM pPL) Aru)
  have cIn:Cl l.prog w K mg base 3 "inner_scope" ["scope","part","names"] (Gk D):=va.cl (d4 T2 TS YT MS GI Yi)
  have GIs:AI l.prog w K mg base BR 4 MO _ ["scope"] (NQ D):=d7 T3 TS cP cIn
  have Arv:Cl l.prog w K mg base 5 "all_within" ["top","parts_of"] (K4 D MO):=uR.cl (VF SX O0 YU GIs Yy WZ)
  have xk:=d9 (Pr:=l.prog) (w:=w) (base:=base) T4 TS
  have TK:=dc (Pr:=l.prog) (w:=w) (base:=base) T5 TS
  have Y':=de (Pr:=l.prog) (w:=w) (base:=base) T6 TS DS
  have TL:=VG (Pr:=l.prog) (w:=w) (base:=base) T8 TS
  have xl:=df (Pr:=l.prog) (w:=w) (base:=base) T9 TS
  have xm:=dg (Pr:=l.prog) (w:=w) (base:=base) Ta TS
  have xn:=VH (Pr:=l.prog) (w:=w) (base:=base) Tb TS
  have xo:=dh (Pr:=l.prog) (w:=w) (base:=base) Tc TS DS
  have xp:=VI (Pr:=l.prog) (w:=w) (base:=base) Td TS DS
  have GCo:AI l.prog w K mg base BR 2 Pz _ ["scope","codes"] (Bl D λ_=>True):=qT Te TS Ars mRC (AB ⟨Pq,_,rfl,xk,W',Yz⟩ (AB ⟨IW,_,rfl,TK,PJ,NX⟩ (AB ⟨IW,_,rfl,TK,PJ,NX⟩ (AB ⟨IW,_,rfl,TK,PJ,NX⟩ (AB ⟨Ln,_,rfl,Y',So,T7⟩ (AB ⟨Ln,_,rfl,Y',So,T7⟩ (AB ⟨IX,_,rfl,TL,PK,NY⟩ (AB ⟨Pu,_,rfl,xm,X2,YB⟩ (AB ⟨Px,_,rfl,xo,X4,YD⟩ (AB ⟨IX,_,rfl,TL,PK,NY⟩ (AB ⟨Pw,_,rfl,xn,X3,YC⟩ (AB ⟨IX,_,rfl,TL,PK,NY⟩ (AB ⟨Py,_,rfl,xp,X5,YE⟩ (AB ⟨Pt,_,rfl,xl,X1,YA⟩ IA))))))))))))))
  have cBu:Cl l.prog w K mg base 6 "built" ["top","parts_of","make"] (Gm D MO Pz):=uU.cl (qU SY YU Arv GCo YG X6)
  have cC:Cl l.prog w K mg base 7 "compiled" ["tree"] EK:=vo.cl (rh Tf TS MS GI Yi cBu Yx YF)
  have cS:=XH (Pr:=l.prog) (w:=w) (base:=base) wo 246
  have cF:Cl l.prog w K mg base 1 "_law_fits" ["_law_word","_law_taken_here"] NC:=wC.cl (cb Tv)
  have cR:Cl l.prog w K mg base 1 "_law_reckoned" ["_law_op","_law_one_here","_law_other"] NG:=wG.cl (cf Tw YV)
  have cH:Cl l.prog w K mg base 1 "_law_held" ["_law_word","_law_last","_law_taken_here","_law_held_here"] NH:=wM.cl (cg Tz O0 DS)
  have cB:Cl l.prog w K mg base 2 "_law_brought" ["_law_one_here","_law_taken_here","_law_at","_law_held_here"] NI:=wQ.cl (cj TB DS cR)
  have cL:Cl l.prog w K mg base 248 "_law_done" ["_law_code","_law_most"] Ya:=wJ.cl (AI.exi λcode=>qk Tx DS YX ⟨⟩ cF cS cH cB)
  have cO:Cl l.prog w K mg base 3 "_law_one" FD (Lb K):=wY.cl (cU TF cM cI)
  have cA:=XJ (Pr:=l.prog) (w:=w) (base:=base) wu TH O1 x3 YW DS x4 NZ 248
  exact dI wZ O0 TH O1 NZ DS cM cC cE cO cT cL cA
end K
namespace PySem.W.Fast
def tw9876888896159076395:=0
def tw14483295274133348867:=0
def tw15165635765474931072:=0
def tw17189920118266286137:=0
def tw13059172729875516230:=0
def tw7064444892752854687:=0
def tw15639682459937789729:=0
def tw12459889765086501722:=0
def tw12588541779691566949:=0
def tw11258670631602063646:=0
def tw17366923841381586003:=0
def tw947574821073788012:=0
def tw2854096829732047103:=0
def tw8333875791366609692:=0
def tw15879738575160272753:=0
def tw12575759864118543948:=0
def tw16169626389912819392:=0
def tw16130994390213312971:=0
def tw13480744064592740442:=0
def tw8780987489664874665:=0
def tw1156087028103203835:=0
def tw4028567476668556523:=0
def tw6903497603664363192:=0
def tw16878379371479210089:=0
def tw17849249466026644934:=0
def tw10672827607245462533:=0
def tw351304930209081377:=0
def tw6220856415808528361:=0
def tw8600577829108888484:=0
def tw10548323409510340160:=0
def tw11318861377392164954:=0
def tw17195092803698546186:=0
def tw4009353800602175796:=0
def tw8293393800475157132:=0
def tw15016879299884011312:=0
def tw4432702085708130976:=0
def tw13726430866374108794:=0
def tw9634327958248534190:=0
def tw9826070302829244130:=0
def tw3581359670357033394:=0
def tw17438673454411920782:=0
def tw5053625338549532271:=0
def tw10880030716042431798:=0
def tw15090897608566151091:=0
def tw16890155797258450973:=0
def tw2696512769226549062:=0
def tw3170533205364408658:=0
def tw11823613022499254267:=0
def tw15788940790411401850:=0
def tw17890008933090140385:=0
def tw11594470477138787941:=0
def tw36689565656434028:=0
def tw7159235796305119540:=0
def tw5217945179392301636:=0
def tw5032518840419291058:=0
def tw12965403412686187537:=0
def tw6220882013290155072:=0
def tw18420336337676002100:=0
def tw4182237829351150485:=0
def tw4043679511767662362:=0
def tw9961811664800358819:=0
def tw7563518108911694576:=0
def tw5239550599349698678:=0
def tw10002697033773331118:=0
def tw13448520733801336445:=0
def tw6396210997810261274:=0
def tw6545701440595325043:=0
def tw15158691714877564487:=0
def tw9238625429400616037:=0
def tw733267178936070080:=0
def tw10052023403383120131:=0
def tw2426908305060704849:=0
def tw4150695517000427425:=0
def tw180024499379943988:=0
def tw16923382052538897931:=0
def tw11072633297175698370:=0
def tw15067949043632310329:=0
def tw18230477980395301950:=0
def tw9938954673031674817:=0
def tw6609837657876949133:=0
def tw16107761639063918947:=0
def tw17325611652030191728:=0
def tw13207424107706715049:=0
def tw8244262881319693361:=0
def tw4364135306817209860:=0
def tw7882320504345959055:=0
def tw1204268177217685:=0
def tw13092296707216064827:=0
def tw4693426730469886149:=0
def tw18017048993499748204:=0
def tw17778873315298310194:=0
def tw7567542627013241529:=0
def tw1916527014671494807:=0
def tw16087834265373117498:=0
def tw2701605907465621114:=0
def tw15570337412384392889:=0
def tw17529981411965848599:=0
def tw417324468556255616:=0
def tw15566990999908730164:=0
def tw11764501956113974268:=0
def tw114960031874817982:=0
def tw3063297507678496993:=0
def tw12666887391464579434:=0
def tw2306701205963954325:=0
def tw7625459840428729997:=0
def tw431026044537943101:=0
def tw13174882332061977802:=0
def tw6528167309432907798:=0
def tw7251128370735546895:=0
def tw14663877823571836712:=0
def tw6875478655101184657:=0
def tw5683389713775784928:=0
def tw331179081126359067:=0
def tw7711009468390984868:=0
def tw15129450663787911388:=0
def tw6783060454948033394:=0
def tw14271237936246739975:=0
def tw4505029757967652414:=0
def tw7462042703580538483:=0
def tw3794867100110291235:=0
def tw7539260872191716704:=0
def tw16641712841915523317:=0
def tw4595539181466662900:=0
def tw1536134349121502750:=0
def tw691337731161522045:=0
def tw8512730162589143163:=0
def tw4975164010093877253:=0
def tw4305112945187805422:=0
def tw95576114787271310:=0
def tw10226517824900965212:=0
def tw11588343819757920328:=0
def tw136975417654006074:=0
def tw10341457455926188963:=0
def tw15892640055963608370:=0
def tw9121032369182574869:=0
def tw16725447826650546387:=0
def tw380524652656163534:=0
def tw7603296323548363087:=0
def tw17354714207755790621:=0
def tw5808442582644652719:=0
def tw9797937794822604970:=0
def tw17727161145300874660:=0
def tw6805368552930484716:=0
def tw13528094719635929845:=0
def tw7519056630985876122:=0
def tw10019834729250047612:=0
end PySem.W.Fast
open PySem PySem.W PyProof.Rows
set_option maxRecDepth 100000 in
set_option maxHeartbeats 0 in
theorem PySem.Challenge.cw_kindspan_k41_machine_holds : PySem.Challenge.rw_kindspan_k41_machine.Holds := by
 w_on;o_law;k_head;(case hw=>w_witness2)
 k_fill
 refine L2.oo (l:=PySem.Challenge.rw_kindspan_k41_machine) (n:=63) (k:=262) (x:="_law_script") rfl (by decide) rfl ⟨rfl,by decide,by decide⟩ (fun w h Y=>PySem.W.kIn_of Y) ?F
 case F =>
  intro w mg mb UX fa h KX T nY
  refine' K.all_mk KX T nY ?aCz_ ?Wwz_ ?Wxz_ ?dPz_ ?dQz_ ?Wyz_ ?dRz_ ?dSz_ ?dUz_ ?dWz_ ?Wzz_ ?dXz_ ?dYz_ ?dZz_ ?elz_ ?WAz_ ?erz_ ?ezz_ ?eBz_ ?eCz_ ?WBz_ ?eEz_ ?eFz_ ?eGz_ ?eIz_ ?WCz_ ?eJz_ ?eKz_ ?eMz_ ?eNz_ ?WDz_ ?eOz_ ?ePz_ ?eQz_ ?eRz_ ?WEz_ ?eSz_ ?eTz_ ?eUz_ ?eVz_ ?WGz_ ?eWz_ ?eXz_ ?eYz_ ?eZz_ ?WHz_ ?f9z_ ?fcz_ ?fez_ ?ffz_ ?WIz_ ?pgCz_ ?hdCz_ ?poCz_ ?saCz_ ?mkCz_ ?kcCz_ ?nCCz_ ?nCPz_ ?nCLz_ ?nCHz_ ?nCBz_ ?nCKz_ ?aDz_ ?WJz_ ?WKz_ ?fgz_ ?fhz_ ?WLz_ ?pgDz_ ?hdDz_ ?poDz_ ?saDz_ ?mkDz_ ?kcDz_ ?nDTz_ ?nDPz_ ?nDHz_ ?fjz_ ?fkz_ ?fqz_ ?WMz_ ?fuz_ ?fzz_ ?fAz_ ?PHz_ ?fBz_ ?fDz_ ?fEz_ ?WNz_ ?fFz_ ?fGz_ ?fHz_ ?Smz_ ?fIz_ ?fKz_ ?fLz_ ?Snz_ ?fMz_ ?fNz_ ?fOz_ ?WOz_ ?fQz_ ?fRz_ ?fSz_ ?WQz_ ?fUz_ ?fVz_ ?fWz_ ?WRz_ ?fXz_ ?fYz_ ?fZz_ ?WSz_ ?g0z_ ?g9z_ ?gcz_ ?WTz_ ?ggz_ ?ghz_ ?giz_ ?WUz_ ?gjz_ ?gmz_ ?gnz_ ?WVz_ ?gpz_ ?gqz_ ?guz_ ?WWz_ ?gwz_ ?gxz_ ?gyz_ ?WXz_ ?gAz_ ?gBz_ ?gCz_ ?WYz_ ?gDz_ ?gEz_ ?gFz_ ?gGz_ ?gHz_ ?gIz_ ?gJz_ ?gKz_ ?gLz_ ?gMz_ ?gNz_ ?gOz_ ?gPz_ ?gQz_ ?gRz_ ?gSz_ ?gTz_ ?gUz_ ?gVz_ ?gWz_ ?gXz_ ?gYz_ ?gZz_ ?WZz_ ?hUz_ ?hVz_ ?hXz_ ?W'z_ ?hZz_ ?i4z_ ?i5z_ ?PJz_ ?i6z_ ?i7z_ ?i8z_ ?Soz_ ?i9z_ ?iez_ ?igz_ ?PKz_ ?ijz_ ?ikz_ ?ilz_ ?X1z_ ?ipz_ ?iqz_ ?iuz_ ?X2z_ ?iwz_ ?iyz_ ?izz_ ?X3z_ ?iAz_ ?iBz_ ?iCz_ ?X4z_ ?iDz_ ?iEz_ ?iFz_ ?X5z_ ?iGz_ ?iHz_ ?iIz_ ?X6z_ ?iJz_ ?iKz_ ?iLz_ ?iMz_ ?iOz_ ?iPz_ ?iQz_ ?X7z_ ?iRz_ ?iTz_ ?iUz_ ?iWz_ ?iXz_ ?iYz_ ?iZz_ ?X8z_ ?i'z_ ?j4z_ ?j6z_ ?j7z_ ?j8z_ ?j9z_ ?jaz_ ?jbz_ ?jcz_ ?jdz_ ?jez_ ?jfz_ ?jgz_ ?jhz_ ?jiz_ ?jjz_ ?jkz_ ?jlz_ ?jmz_ ?jnz_ ?joz_ ?jqz_ ?jrz_ ?jtz_ ?juz_ ?jvz_ ?jwz_ ?jxz_ ?jyz_ ?jzz_ ?jAz_ ?jBz_ ?jCz_ ?jDz_ ?jEz_ ?jFz_ ?jGz_ ?jHz_ ?jIz_ ?jJz_ ?jKz_ ?jLz_ ?jMz_ ?jNz_ ?jOz_ ?jPz_ ?jQz_ ?jRz_ ?jSz_ ?jTz_ ?jUz_ ?jVz_ ?jWz_ ?jXz_ ?jYz_ ?jZz_ ?j'z_ ?k8z_ ?k9z_ ?kez_ ?kgz_ ?khz_ ?kiz_ ?kjz_ ?kmz_ ?knz_ ?koz_ ?krz_ ?kyz_ ?kzz_ ?kAz_ ?kBz_ ?kDz_ ?kEz_ ?kFz_ ?kGz_ ?kHz_ ?kIz_ ?kKz_ ?kLz_ ?kNz_ ?kOz_ ?kQz_ ?kRz_ ?X9z_ ?kSz_ ?kTz_ ?kUz_ ?kWz_ ?kXz_ ?kYz_ ?kZz_ ?l0z_ ?l9z_ ?ljz_ ?llz_ ?lxz_ ?lzz_ ?lAz_ ?lBz_ ?lCz_ ?aKz_ ?aJz_ ?aNz_ ?aMz_ ?aSz_ ?lDz_ ?lEz_ ?lFz_ ?lGz_ ?x980z_ ?x981z_ ?x982z_ ?x983z_ ?lHz_ ?x985z_ ?lIz_ ?lJz_ ?gPLz_ ?dPLz_ ?hPLz_ ?sPLz_ ?gRMz_ ?dRMz_ ?hRMz_ ?sRMz_ ?gRCz_ ?dRCz_ ?hRCz_ ?sRCz_ ?vPLz_ ?pPLz_ ?vRMz_ ?vRCz_ ?hKz_
  (case aCz_|Wwz_|Wxz_|dPz_|dQz_|Wyz_|dRz_|dSz_|dUz_|dWz_|Wzz_|dXz_|dYz_|dZz_|elz_|WAz_|erz_|ezz_|eBz_|eCz_|WBz_|eEz_|eFz_|eGz_|eIz_|WCz_|eJz_|eKz_|eMz_|eNz_|WDz_|eOz_|ePz_|eQz_|eRz_|WEz_|eSz_|eTz_|eUz_|eVz_|WGz_|eWz_|eXz_|eYz_|eZz_|WHz_|f9z_|fcz_|fez_|ffz_|WIz_|pgCz_|hdCz_|poCz_|saCz_|mkCz_|kcCz_|nCCz_|nCPz_|nCLz_|nCHz_|nCBz_|nCKz_|aDz_|WJz_|WKz_|fgz_|fhz_|WLz_|pgDz_|hdDz_|poDz_|saDz_|mkDz_|kcDz_|nDTz_|nDPz_|nDHz_|fjz_|fkz_|fqz_|WMz_|fuz_|fzz_|fAz_|PHz_|fBz_|fDz_|fEz_|WNz_|fFz_|fGz_|fHz_|Smz_|fIz_|fKz_|fLz_|Snz_|fMz_|fNz_|fOz_|WOz_|fQz_|fRz_|fSz_|WQz_|fUz_|fVz_|fWz_|WRz_|fXz_|fYz_|fZz_|WSz_|g0z_|g9z_|gcz_|WTz_|ggz_|ghz_|giz_|WUz_|gjz_|gmz_|gnz_|WVz_|gpz_|gqz_|guz_|WWz_|gwz_|gxz_|gyz_|WXz_|gAz_|gBz_|gCz_|WYz_|gDz_|gEz_|gFz_|gGz_|gHz_|gIz_|gJz_|gKz_|gLz_|gMz_|gNz_|gOz_|gPz_|gQz_|gRz_|gSz_|gTz_|gUz_|gVz_|gWz_|gXz_|gYz_|gZz_|WZz_|hUz_|hVz_|hXz_|W'z_|hZz_|i4z_|i5z_|PJz_|i6z_|i7z_|i8z_|Soz_|i9z_|iez_|igz_|PKz_|ijz_|ikz_|ilz_|X1z_|ipz_|iqz_|iuz_|X2z_|iwz_|iyz_|izz_|X3z_|iAz_|iBz_|iCz_|X4z_|iDz_|iEz_|iFz_|X5z_|iGz_|iHz_|iIz_|X6z_|iJz_|iKz_|iLz_|iMz_|iOz_|iPz_|iQz_|X7z_|iRz_|iTz_|iUz_|iWz_|iXz_|iYz_|iZz_|X8z_|i'z_|j4z_|j6z_|j7z_|j8z_|j9z_|jaz_|jbz_|jcz_|jdz_|jez_|jfz_|jgz_|jhz_|jiz_|jjz_|jkz_|jlz_|jmz_|jnz_|joz_|jqz_|jrz_|jtz_|juz_|jvz_|jwz_|jxz_|jyz_|jzz_|jAz_|jBz_|jCz_|jDz_|jEz_|jFz_|jGz_|jHz_|jIz_|jJz_|jKz_|jLz_|jMz_|jNz_|jOz_|jPz_|jQz_|jRz_|jSz_|jTz_|jUz_|jVz_|jWz_|jXz_|jYz_|jZz_|j'z_|k8z_|k9z_|kez_|kgz_|khz_|kiz_|kjz_|kmz_|knz_|koz_|krz_|kyz_|kzz_|kAz_|kBz_|kDz_|kEz_|kFz_|kGz_|kHz_|kIz_|kKz_|kLz_|kNz_|kOz_|kQz_|kRz_|X9z_|kSz_|kTz_|kUz_|kWz_|kXz_|kYz_|kZz_|l0z_|l9z_|ljz_|llz_|lxz_|lzz_|lAz_|lBz_|lCz_|aKz_|aJz_|aNz_|aMz_|aSz_=>k_is)
  (case lDz_=>first | k_is | kernel_rfl)
  (case lEz_=>first | k_is | kernel_rfl)
  (case lFz_=>first | k_is | kernel_rfl)
  (case lGz_=>first | k_is | kernel_rfl)
  (case x980z_=>first | k_is | kernel_rfl)
  (case x981z_=>first | k_is | kernel_rfl)
  (case x982z_=>first | k_is | kernel_rfl)
  (case x983z_=>first | k_is | kernel_rfl)
  (case lHz_=>first | k_is | kernel_rfl)
  (case x985z_=>first | k_is | kernel_rfl)
  (case lIz_=>first | k_is | kernel_rfl)
  (case lJz_=>first | k_is | kernel_rfl)
  (case gPLz_|dPLz_=>k_is)
  (case hPLz_=>rfl)
  (case sPLz_=>rfl)
  (case gRMz_|dRMz_=>k_is)
  (case hRMz_=>rfl)
  (case sRMz_=>rfl)
  (case gRCz_|dRCz_=>k_is)
  (case hRCz_=>rfl)
  (case sRCz_=>rfl)
  (case vPLz_=>rfl)
  (case pPLz_=>first | rfl | kernel_rfl)
  (case vRMz_=>rfl)
  (case vRCz_=>rfl)
  (case hKz_=>kernel_rfl)

import PyProof.Rows.All
import Wide.All
import OpenK.AllK
import Wide.FinOn
import Lean
import PyProof.EqAt
import PyProof.EqKinds
import PyProof.TupleCall
import PyProof.ListNew
import PyProof.WalksMore
import PyProof.ListRange
import PyProof.RaisesMany
import PyProof.RulesTry
import PyProof.PassesOwn
import OpenK.KOwn
import PyProof.RulesAs
import PyProof.RulesDel
import PyProof.ExcArgsOwn
import PyProof.IsiBase
import KE.KIsAll
import KE.KDictOf
import PyProof.AttrMiss
import KE.KDictLaws
import PyProof.DictWalks
import PyProof.ZipIter
import PyProof.TupleIter
import KE.KPairComp
import KE.KNestM
import PySem.Challenge.RW_kindspan_k33_whole_results
set_option Elab.async false
set_option linter.all false
set_option maxRecDepth 100000
set_option maxHeartbeats 16000000
set_option compiler.extract_closed false
noncomputable section
set_option hygiene false
local macro_rules | `(tactic| exfalso)=>`(tactic| first | exact .inl rfl | exact .inr rfl | exact .inr (.inl rfl) | exact .inr (.inr rfl) | exact L2.GI _ ⟨⟩ ⟨⟩ | exact L2.CH | exact L2.BU | exact L2.BS | exact L2.CI | exact L2.CJ | exact L2.CK | exact L2.DN | rfl | assumption)
set_option hygiene true
open Lean Parser.Tactic in
local macro_rules | `(fun $[$xs:term]* => $b)=>do
 let k:=fun (s:Syntax)=>s.isOfKind ``Lean.Parser.Term.anonymousCtor
 if !xs.any (k ·.raw) || (b.raw.find? (·.isOfKind ``Lean.Parser.Term.syntheticHole)).isSome then Macro.throwUnsupported
 let mut r:=b
 for x in xs.reverse do
  if k x.raw then
   let p<- x.raw.rewriteBottomUpM (m:=MacroM) fun
    | `(⟨$ys,*⟩)=>do
     let zs<- ys.getElems.mapM fun y=>`(rcasesPatLo| $(⟨y.raw⟩):rcasesPat)
     return (<- `(rcasesPat| ⟨$zs,*⟩)).raw
    | `($x:ident)=>return (<- `(rcasesPat| $x:ident)).raw
    | `(_)=>return (<- `(rcasesPat| _)).raw
    | s=>return s
   r<- `(by rintro $(⟨p⟩):rcasesPat; exact $r)
  else r<- `(fun $x=>$r)
 return r
local macro_rules | `(term| nofun)=>`(term| ⟨rfl,rfl,rfl,by decide +kernel,rfl,by decide +kernel,by decide +kernel⟩)
local macro_rules | `(term| ())=>`(term| (by omega))
local macro_rules | `(term| ⟨⟩)=>`(term| (by decide))
theorem Cm {α:Sort _}{β:α->Sort _}{γ:∀ a,β a->Sort _}{x:∀ a b,γ a b}:∀ a b,x a b=x a b:=λ_ _=>rfl
abbrev Ii:List PySem.Str:=["_law_script","_law_k","_law_goal","_law_names","_law_deep"]
abbrev Ij:List PySem.Str:=["_law_script","_law_k"]
namespace L2
open PySem PySem.Spec PyProof.Rows
abbrev Key:=Sum Int Str
noncomputable def GH:Key->Value->Bool
 | .inl k,v=>Value.isInt k v
 | .inr x,v=>Value.isStrOf x v
noncomputable def nB (w:World):Key->Int
 | .inl k=>hashInt k
 | .inr x=>hashStr w x
theorem B4:∀ {k:Key} {v:Value},GH k v=true->(∃ i t,k=Sum.inl i/\v=Value.int i t)\/(∃ x t,k=Sum.inr x/\v=Value.str x t)
 | .inl i,v,h=>by
  obtain ⟨t,e⟩:=Value.isInt_shape (k:=i) (v:=v) h;exact .inl ⟨i,t,rfl,e⟩
 | .inr x,v,h=>by
  obtain ⟨t,e⟩:=Value.isStrOf_shape (x:=x) (v:=v) h;exact .inr ⟨x,t,rfl,e⟩
theorem OG (i:Int)(t:Tok):GH (.inl i) (.int i t)=true:=by simp [GH,Value.isInt]
theorem OI (x:Str)(t:Tok):GH (.inr x) (.str x t)=true:=by simp [GH,Value.isStrOf]
theorem Y5 (a b:Int):decide ((Sum.inl a:Key)=Sum.inl b)=(a==b):=by
 by_cases e:a=b
 ·subst e;simp
 ·have h:¬ (Sum.inl a:Key)=Sum.inl b:=λq=>e (Sum.inl.inj q);rw [decide_eq_false h];exact (beq_eq_false_iff_ne.mpr e).symm
theorem LD (a b:Str):decide ((Sum.inr a:Key)=Sum.inr b)=decide (a=b):=by
 by_cases e:a=b
 ·subst e;simp
 ·have h:¬ (Sum.inr a:Key)=Sum.inr b:=λq=>e (Sum.inr.inj q);rw [decide_eq_false h,decide_eq_false e]
theorem Y6 (a:Int)(b:Str):decide ((Sum.inl a:Key)=Sum.inr b)=false:=decide_eq_false (λq=>nomatch q)
theorem Y7 (a:Str)(b:Int):decide ((Sum.inr a:Key)=Sum.inl b)=false:=decide_eq_false (λq=>nomatch q)
noncomputable def Ap (prog:Program)(w:World):PySem.KeyKind prog w Key where
 is:=GH
 hash:=nB w
 inj:=λv a b ha hb=>by
  rcases B4 ha with ⟨i,t,rfl,rfl⟩ | ⟨x,t,rfl,rfl⟩
  ·rcases B4 hb with ⟨j,u,rfl,e⟩ | ⟨y,u,rfl,e⟩
   ·injection e with e1 _;rw [e1]
   ·exact nomatch e
  ·rcases B4 hb with ⟨j,u,rfl,e⟩ | ⟨y,u,rfl,e⟩
   ·exact nomatch e
   ·injection e with e1 _;rw [e1]
 byValue:=λk v h=>by
  rcases B4 h with ⟨i,t,rfl,rfl⟩ | ⟨x,t,rfl,rfl⟩ <;> rfl
 pyHash:=λhv h=>by
  rcases B4 hv with ⟨i,t,rfl,rfl⟩ | ⟨x,t,rfl,rfl⟩
  ·exact wpAny_pyHash_int h
  ·exact wpAny_pyHash_str h
 eqBool:=λhu hv h=>by
  rcases B4 hu with ⟨i,t,rfl,rfl⟩ | ⟨x,t,rfl,rfl⟩
  ·rcases B4 hv with ⟨j,u,rfl,rfl⟩ | ⟨y,u,rfl,rfl⟩
   ·rw [Y5] at h;exact wpAny_eqBool_int h
   ·rw [Y6] at h;exact SeqAt.EqAt.int_str i t y u _ _ _ _ h
  ·rcases B4 hv with ⟨j,u,rfl,rfl⟩ | ⟨y,u,rfl,rfl⟩
   ·rw [Y7] at h;exact SeqAt.EqAt.str_int x t j u _ _ _ _ h
   ·rw [LD] at h;exact wpAny_eqBool_str h
 «strs»:=λk x t v h=>by
  rcases B4 h with ⟨i,u,rfl,e⟩ | ⟨y,u,rfl,e⟩
  ·exact nomatch e
  ·injection e with e1 _;subst e1;cases v <;> rfl
theorem JW (prog:Program)(w:World)(i:Int)(t:Tok):(Ap prog w).is (.inl i) (.int i t)=true:=OG i t
theorem DB (prog:Program)(w:World)(x:Str)(t:Tok):(Ap prog w).is (.inr x) (.str x t)=true:=OI x t
inductive V where
 | non | bl (b:Bool) | int (i:Int) | str (x:Str) | byt (b:Array UInt8) | flt (b:UInt64) | ref (a:Addr) | ty (n:String)
 deriving DecidableEq
noncomputable def RelV:V->Value->Prop
 | .non,u=>u=Value.none
 | .bl b,u=>u=Value.bool b
 | .int i,u=>∃ t,u=Value.int i t
 | .str x,u=>∃ t,u=Value.str x t
 | .byt b,u=>∃ t,u=Value.bytes b t
 | .flt b,u=>∃ t,u=Value.float b t
 | .ref a,u=>u=Value.ref a
 | .ty n,u=>u=Value.type n
abbrev Vals:List V->List Value->Prop:=Paired RelV
theorem Vals.length (r:Vals xs us):xs.length=us.length:=Paired.length r
theorem Vals.get:∀ {xs:List V} {us:List Value} {i:Nat} {x:V},Vals xs us->xs[i]?=some x->∃ u,us[i]?=some u/\RelV x u
 | _,_,_,_,.nil,e=>by simp at e
 | _,_,0,_,.cons r _,e=>by simp at e;subst e;exact ⟨_,rfl,r⟩
 | _,_,i+1,x,.cons _ t,e=>by
  obtain ⟨u,h1,h2⟩:=Vals.get (i:=i) (x:=x) t (by simpa using e);exact ⟨u,by simpa using h1,h2⟩
theorem Vals.set {x:V}{u:Value}(r:RelV x u):∀ {xs:List V} {us:List Value} (i:Nat),Vals xs us->Vals (xs.set i x) (us.set i u)
 | _,_,_,.nil=>.nil
 | _,_,0,.cons _ t=>.cons r t
 | _,_,i+1,.cons q t=>.cons q (Vals.set r i t)
theorem Vals.append:∀ {xs ys:List V} {us ws:List Value},Vals xs us->Vals ys ws->Vals (xs++ys) (us++ws):=by
 intro xs ys us ws h s
 induction h with
 | nil=>exact s
 | cons r _ ih=>exact .cons r ih
theorem Vals.take:∀ {xs:List V} {us:List Value} (n:Nat),Vals xs us->Vals (xs.take n) (us.take n)
 | _,_,0,_=>.nil
 | _,_,_+1,.nil=>.nil
 | _,_,n+1,.cons r t=>.cons r (Vals.take n t)
theorem Vals.drop:∀ {xs:List V} {us:List Value} (n:Nat),Vals xs us->Vals (xs.drop n) (us.drop n)
 | _,_,0,r=>r
 | _,_,_+1,.nil=>.nil
 | _,_,n+1,.cons _ t=>Vals.drop n t
noncomputable def Dd:Option V->Option Value->Prop
 | some v,some u=>RelV v u
 | none,none=>True
 | _,_=>False
noncomputable def KV {κ:Type}:List (κ × V)->List (κ × Value)->Prop:=Paired λ(p:κ × V) (q:κ × Value)=>p.1=q.1/\RelV p.2 q.2
noncomputable def kV:Key->V
 | .inl i=>.int i
 | .inr x=>.str x
inductive HO where
 /-- a list -/
 | lst (xs:List V)
 /-- a tuple (never changes) -/
 | tup (xs:List V)
 /-- a dict whose keys are ints and texts;one whose keys are tuples of ints and texts (the empty one is both) -/
 | dK (kvs:List (Key × V)) | dT (kvs:List (List Key × V))
 /-- a set of ints: its members,its size -/
 | set (S:Int->Bool) (n:Nat)
 /-- an instance of the class at C,its dict at dx,its attributes -/
 | ins (C dx:Addr) (fs:List (Str × V))
 /-- the dict of the instance at x -/
 | own (x:Addr)
 /-- the dict of an exception -/
 | xd (fs:List (Str × V))
 /-- a bound method,f of x -/
 | met (f x:Addr)
 /-- a range object lo,lo+1,.. below hi -/
 | rng (lo hi:Int)
 /-- a et that is known to the object (the nE;a dict while a loop walks it): read,never written while it is so -/
 | frz (o:Obj) (u:HO)
 /-- a code eB table -/
 | tbl (ps:Array Value)
 /-- any other et,by what is true of its one object (a def of uY own: yo a S n:=HO.ext λh=>..) -/
 | ext (φ:Heap->Prop)
abbrev Hp:=Addr->Option HO
noncomputable def upd (H:Hp)(a:Addr)(o:HO):Hp:=λb=>if b=a then some o else H b
theorem A6:upd H a o a=some o:=by unfold upd;rw [if_pos rfl]
theorem A8 (h:b≠a):upd H a o b=H b:=by unfold upd;rw [if_neg h]
theorem Gf:upd (upd H a o) a u=upd H a u:=by
 funext b;unfold upd;split <;> rfl
theorem eC {H:Hp}{a b:Addr}{o u:HO}(h:H a=some o)(h':H b=some u)(d:o≠u):a≠b:=by
 intro e;subst e;rw [h] at h';exact d (Option.some.inj h')
theorem Af {H:Hp}{a b:Addr}{o:HO}(h:H a=some o)(h':H b=none):a≠b:=by
 intro e;subst e;rw [h] at h';cases h'
section
variable (P:Program)(w:World)
noncomputable def AJ (H:Hp)(h:Heap)(a:Addr):HO->Prop
 | .lst xs=>xs.length<=sizeLine/\∃ (its:List Value) (n:Nat),Vals xs its/\h.get? a=some { cls:=.type "list",data:=.seq its.toArray n }
 | .tup xs=>xs.length<=sizeLine/\∃ its:List Value,Vals xs its/\IsTup h a its.toArray
 | .dK kvs=>kvs.length<=sizeLine/\(a==sysModules)=false/\∃ vs,KV kvs vs/\h.DictOf (Ap P w) a vs
 | .dT kvs=>kvs.length<=sizeLine/\(a==sysModules)=false/\∃ xs:List (List Key × Addr × Value),
   Paired (λ(p:List Key × V) (q:List Key × Addr × Value)=>p.1=q.1/\H q.2.1=some (.tup (p.1.map kV))/\RelV p.2 q.2.2) kvs xs /\
   ∃ o es ep,h.get? a=some o/\o.ExactDict/\o.data=.dict es ep/\es.toList=xs.map (entryOfKey (tupleKind (Ap P w)))/\(xs.map (·.1)).Nodup
 | .set S n=>h.SetOf (intKind P w) a S n
 | .ins C dx fs=>H dx=some (.own a)/\fs.length<=1000/\dx≠a/\h.get? a=some (W.instObj C dx) /\
   ∃ mA,h.Ns1 dx mA/\(∀ f,Dd (fs.lookup f) (mA f))/\PySem.Within mA (fs.map (·.1))
 | .own _=>∃ o,h.get? a=some o
 | .xd fs=>∃ mA,h.Ns1 a mA/\∀ f,Dd (fs.lookup f) (mA f)
 | .rng lo hi=>∃ t u v,h.get? a=some { cls:=.type "range",data:=.fields #[.int lo t,.int hi u,.int 1 v] }
 | .frz o u=>h.get? a=some o/\AJ H h a u
 | .tbl ps=>h.get? a=some { cls:=.none,data:=.fields ps }
 | .met f x=>h.get? a=some (W.methodObj (.ref f) (.ref x))
 | .ext φ=>φ h/\(∃ o,h.get? a=some o)/\∀ h1 h2:Heap,φ h1->(∀ o,h1.get? a=some o->h2.get? a=some o)->φ h2
noncomputable def De (H:Hp)(h:Heap):Prop:=∀ a o,H a=some o->AJ P w H h a o
end
section
variable {P:Program}{w:World}{H H':Hp}{h h':Heap}{a:Addr}{o:HO}
theorem AJ.lt (x:AJ P w H h a o):a < h.objs.size:=by
 cases o with
 | lst xs=>obtain ⟨_,_,_,_,e⟩:=x;exact Heap.lt_size e
 | tup xs=>obtain ⟨_,_,_,p⟩:=x;exact p.lt
 | dK kvs=>obtain ⟨_,_,_,_,o,_,_,e,_⟩:=x;exact Heap.lt_size e
 | dT kvs=>obtain ⟨_,_,_,_,o,_,_,e,_⟩:=x;exact Heap.lt_size e
 | set S n=>obtain ⟨o,_,_,_,e,_⟩:=x;exact Heap.lt_size e
 | ins C dx fs=>obtain ⟨_,_,_,e,_⟩:=x;exact Heap.lt_size e
 | own y=>obtain ⟨_,e⟩:=x;exact Heap.lt_size e
 | xd fs=>obtain ⟨_,⟨_,_,_,e,_⟩,_⟩:=x;exact Heap.lt_size e
 | rng lo hi=>obtain ⟨_,_,_,e⟩:=x;exact Heap.lt_size e
 | frz ob u=>obtain ⟨e,_⟩:=x;exact Heap.lt_size e
 | tbl ps=>exact Heap.lt_size (show h.get? a=some _ from x)
 | met f y=>exact Heap.lt_size (show h.get? a=some _ from x)
 | ext φ=>obtain ⟨_,⟨_,e⟩,_⟩:=x;exact Heap.lt_size e
theorem Paired.aag {α β:Type}{F G:α->β->Prop}:∀ {l₁:List α} {l₂:List β},Paired F l₁ l₂->(∀ a b,F a b->G a b)->Paired G l₁ l₂
 | _,_,.nil,_=>.nil
 | _,_,.cons r t,f=>.cons (f _ _ r) (Paired.aag t f)
theorem AJ.abq (x:AJ P w H h a o)(k:∀ b u,(b=a\/H b=some (.own a))->h.get? b=some u->h'.get? b=some u)(ho:∀ b,H b=some (.own a)->H' b=some (.own a))(ht:∀ b xs,H b=some (.tup xs)->H' b=some (.tup xs)):AJ P w H' h' a o:=by
 induction o with
 | lst xs=>obtain ⟨z,its,n,r,e⟩:=x;exact ⟨z,its,n,r,k _ _ (.inl rfl) e⟩
 | tup xs=>obtain ⟨z,its,r,ob,e,c⟩:=x;exact ⟨z,its,r,ob,k _ _ (.inl rfl) e,c⟩
 | dK kvs=>obtain ⟨z,y,vs,r,ob,es,ep,e,c⟩:=x;exact ⟨z,y,vs,r,ob,es,ep,k _ _ (.inl rfl) e,c⟩
 | dT kvs =>
  obtain ⟨z,y,xs,r,ob,es,ep,e,c⟩:=x;exact ⟨z,y,xs,Paired.aag r λp q z=>⟨z.1,ht _ _ z.2.1,z.2.2⟩,ob,es,ep,k _ _ (.inl rfl) e,c⟩
 | set S n=>obtain ⟨ob,es,ep,t,e,c⟩:=x;exact ⟨ob,es,ep,t,k _ _ (.inl rfl) e,c⟩
 | ins C dx fs =>
  obtain ⟨d,z,ne,e,mA,⟨od,es,ep,e2,c⟩,r⟩:=x;exact ⟨ho _ d,z,ne,k _ _ (.inl rfl) e,mA,⟨od,es,ep,k _ _ (.inr d) e2,c⟩,r⟩
 | own y=>obtain ⟨ob,e⟩:=x;exact ⟨ob,k _ _ (.inl rfl) e⟩
 | xd fs=>obtain ⟨mA,⟨od,es,ep,e,c⟩,r⟩:=x;exact ⟨mA,⟨od,es,ep,k _ _ (.inl rfl) e,c⟩,r⟩
 | rng lo hi=>obtain ⟨t,u,v,e⟩:=x;exact ⟨t,u,v,k _ _ (.inl rfl) e⟩
 | frz ob u ih=>obtain ⟨e,q⟩:=x;exact ⟨k _ _ (.inl rfl) e,ih q⟩
 | tbl ps =>
  have e:h.get? a=some { cls:=.none,data:=.fields ps }:=x;show h'.get? a=some { cls:=.none,data:=.fields ps };exact k a _ (.inl rfl) e
 | met f y =>
  have e:h.get? a=some (W.methodObj (.ref f) (.ref y)):=x;show h'.get? a=some (W.methodObj (.ref f) (.ref y));exact k a _ (.inl rfl) e
 | ext φ=>obtain ⟨p,⟨o,e⟩,st⟩:=x;exact ⟨st _ _ p λo q=>k _ _ (.inl rfl) q,⟨o,k _ _ (.inl rfl) e⟩,st⟩
theorem De.lt (x:De P w H h)(e:H a=some o):a < h.objs.size:=(x a o e).lt
theorem De.fresh (x:De P w H h)(e:h.objs.size<=a):H a=none:=by
 cases q:H a with
 | none=>rfl
 | some u=>exact absurd (Nat.lt_of_lt_of_le (x.lt q) e) (Nat.lt_irrefl _)
theorem De.kept (x:De P w H h)(k:∀ b u,h.get? b=some u->h'.get? b=some u):De P w H h':=λa o e =>
 (x a o e).abq (λb u _ q=>k b u q) (λ_ q=>q) λ_ _ q=>q
theorem De.laid (x:De P w H h)(k:∀ b u,h.get? b=some u->h'.get? b=some u)(hp:h.objs.size<=a)(new:AJ P w (upd H a o) h' a o):De P w (upd H a o) h':=λb u e=>by
 have hn:=x.fresh hp;by_cases hb:b=a
 ·subst hb;rw [A6] at e;cases e;exact new
 ·rw [A8 hb] at e;exact (x b u e).abq (λc v _ q=>k c v q) (λc q=>by rw [A8 (Af q hn)];exact q) λc xs q=>by rw [A8 (Af q hn)];exact q
end
noncomputable def Rd (H:Hp)(a:Addr)(u:HO):Prop:=H a=some u\/∃ o,H a=some (.frz o u)
theorem Rd.ok (r:Rd H a u)(x:De P w H h):AJ P w H h a u:=by
 rcases r with r | ⟨o,r⟩
 ·exact x a u r
 ·obtain ⟨_,q⟩:=x a _ r;exact q
noncomputable def eF:Option HO->Prop
 | some (.lst _)=>True
 | some (.dK _)=>True
 | some (.dT _)=>True
 | some (.set _ _)=>True
 | some (.ins _ _ _)=>True
 | some (.ext _)=>True
 | _=>False
section
variable {P:Program}{w:World}{H:Hp}{h h':Heap}{x e:Addr}{o':HO}
theorem De.write (ok:De P w H h)(mu:eF (H x))(he:e=x\/H e=some (.own x))(k:∀ b u,b≠e->h.get? b=some u->h'.get? b=some u)(cC:∃ u,h'.get? e=some u)(new:AJ P w (upd H x o') h' x o'):De P w (upd H x o') h':=λb u q=>by
 have eG:∀ c y,H c=some (.own y)->c≠x:=λc y r z=>by subst z;rw [r] at mu;exact mu
 have nH:∀ c xs,H c=some (.tup xs)->c≠x:=λc xs r z=>by subst z;rw [r] at mu;exact mu
 by_cases hb:b=x
 ·subst hb;rw [A6] at q;cases q;exact new
 ·rw [A8 hb] at q;by_cases Y8:b=e
  ·have q':H b=some (.own x):=by
    rcases he with z | z
    ·exact absurd (Y8.trans z) hb
    ·rw [Y8];exact z
   rw [q] at q';cases q';obtain ⟨v,hv⟩:=cC;exact ⟨v,by rw [Y8];exact hv⟩
  ·refine (ok b u q).abq (λc v hc r=>k c v ?_ r) (λc r=>by rw [A8 (eG c b r)];exact r) λc xs r=>(by rw [A8 (nH c xs r)];exact r);rcases hc with rfl | hc
   ·exact Y8
   ·rintro rfl;rcases he with z | z
    ·exact eG c b hc z
    ·rw [hc] at z;cases z;exact hb rfl
end
structure Un (fs ex:List Addr)(H H':Hp)(h h':Heap):Prop where
 keep:∀ b o,h.get? b=some o->H b=none->b∉fs->b∉ex->h'.get? b=some o
 slot:∀ b o,h.get? b=some o->H b=none->b∈fs->b∉ex->∃ sl,h'.get? b=some { o with slots:=sl }
 free:∀ b o,h.get? b=some o->H b=none->b∉ex->H' b=none
 there:∀ b o,h.get? b=some o->b∉ex->∃ o',h'.get? b=some o'
 abi:∀ b xs,H b=some (.tup xs)->H' b=some (.tup xs)
 abe:∀ b o u,H b=some (.frz o u)->H' b=some (.frz o u)
 abf:∀ b ps,H b=some (.tbl ps)->∃ more,H' b=some (.tbl (ps++more))
section
variable {fs U5 ex uZ:List Addr}{H H1 H2:Hp}{h h1 h2 h':Heap}{a x e:Addr}{o:HO}
theorem Un.any (u:Un fs ex H H1 h h1)(q:h.get? b=some ob)(n:H b=none)(hx:b∉ex):∃ sl,h1.get? b=some { ob with slots:=sl }:=by
 by_cases hb:b∈fs
 ·exact u.slot b ob q n hb hx
 ·exact ⟨ob.slots,u.keep b ob q n hb hx⟩
theorem Un.kept (k:∀ b u,h.get? b=some u->h'.get? b=some u):Un fs ex H H h h' :=
 ⟨λb ob q _ _ _=>k b ob q,λb ob q _ _ _=>⟨ob.slots,k b ob q⟩,λ_ _ _ n _=>n,λb ob q _=>⟨ob,k b ob q⟩,λ_ _ q=>q,λ_ _ _ q=>q,λ_ ps q=>⟨#[],by rw [q];simp⟩⟩
theorem Un.refl:Un fs ex H H h h:=Un.kept λ_ _ q=>q
theorem Un.laid (k:∀ b u,h.get? b=some u->h'.get? b=some u)(hp:h.objs.size<=a)(hn:H a=none):Un fs ex H (upd H a o) h h' where
 keep:=λb u q _ _ _=>k b u q
 slot:=λb u q _ _ _=>⟨u.slots,k b u q⟩
 free:=λb u q n _=>by rw [A8 (Nat.ne_of_lt (Nat.lt_of_lt_of_le (Heap.lt_size q) hp))];exact n
 there:=λb u q _=>⟨u,k b u q⟩
 abi:=λb xs q=>by rw [A8 (Af q hn)];exact q
 abe:=λb u xs q=>by rw [A8 (Af q hn)];exact q
 abf:=λb ps q=>⟨#[],by rw [A8 (Af q hn),q];simp⟩
theorem Un.write (mu:eF (H x))(he:e=x\/H e=some (.own x))(k:∀ b u,b≠e->h.get? b=some u->h'.get? b=some u)(cC:∃ u,h'.get? e=some u):Un fs ex H (upd H x o) h h':=by
 have hx:∀ b,H b=none->b≠x:=λb n z=>by subst z;rw [n] at mu;exact mu
 have hb:∀ b,H b=none->b≠e:=λb n z=>by
  subst z;rcases he with r | r
  ·exact hx b n r
  ·rw [n] at r;cases r
 have hm:∀ b u,H b=some u->¬ eF (some u)->b≠x:=λb u q nm z=>by subst z;rw [q] at mu;exact nm mu
 refine ⟨λb u q n _ _=>k b u (hb b n) q,λb u q n _ _=>⟨u.slots,k b u (hb b n) q⟩,λb u q n _=>by rw [A8 (hx b n)];exact n,λb u q _=>?_,
  λb xs q=>by rw [A8 (hm b _ q λz=>z)];exact q,λb u xs q=>by rw [A8 (hm b _ q λz=>z)];exact q,λb ps q=>⟨#[],by rw [A8 (hm b _ q λz=>z),q];simp⟩⟩
 by_cases Y8:b=e
 ·subst Y8;exact cC
 ·exact ⟨u,k b u Y8 q⟩
end
noncomputable def kL (h:Heap)(H:Hp):List Addr:=(List.range h.objs.size).filter λa=>(H a).isSome
noncomputable def HX (h:Heap)(H:Hp):Heap:=W.hideAll h (kL h H)
theorem OJ (h:Heap)(H:Hp):(HX h H).objs.size=h.objs.size:=W.hideAll_size _ _
theorem Qs (e:h.get? b=some o)(n:H b=none):(HX h H).get? b=some o :=
 W.hideAll_get _ e λhm=>by
  have q:(H b).isSome=true:=(List.mem_filter.mp hm).2;rw [n] at q;simp at q
theorem Uu (e:(HX h H).get? b=some o):h.get? b=some o/\H b=none:=by
 have e':h.get? b=some o:=W.of_hideAll (kL h H) e;refine ⟨e',?_⟩;cases q:H b with
 | none=>rfl
 | some x =>
  have hm:b∈kL h H:=List.mem_filter.mpr ⟨List.mem_range.mpr (Heap.lt_size e'),by simp [q]⟩;have z:(HX h H).get? b=none:=W.hideAll_none (kL h H) hm;rw [z] at e;cases e
structure Mod (K:W.Frag)(mg:Str->Option Value)(base:Heap):Prop where
 kin:K.In base
 glob:base.Ns mainGlobals mg
 blt:∃ mb,base.Ns builtinsNs mb/\∀ x:Str,x≠"__name__"->mb x=bootBuiltins x
 nolimit:base.NoLimit
structure Cx where
 prog:Program
 w:World
 K:W.Frag
 mg:Str->Option Value
 base:Heap
 A:Around
 N:List Str
 s₀:Shared
 H₀:Hp
 env:Env
 outer:List Env
 stack:List Env
 ex:List Addr
 fn:Str->Bool
 calm:Bool
 pn:List (Addr × Obj)
 xe:Value->Shared->Prop
noncomputable def Lw (l:List Env):List Addr:=l.filterMap (·.frame)
abbrev Cx.fs (X:Cx):List Addr:=Lw X.outer
noncomputable def X2 (sc:Scope)(x:Str):Prop:=sc.names.lookup x=some .local\/sc.names.lookup x=some .cell\/sc.names.lookup x=some .free
noncomputable def Loc (sc:Scope)(x:Str):Prop:=sc.names.lookup x=some .local\/sc.names.lookup x=some .cell
noncomputable def Look (env:Env)(h:Heap)(m:Str->Option Value)(x:Str)(u:Value):Prop :=
 (env.kindOf x=some .local/\m x=some u)\/((env.kindOf x=some .cell\/env.kindOf x=some .free)/\∃ c,env.cells.lookup x=some c/\h.IsCell c (some u))
structure Cx.Ok (X:Cx):Prop where
 mod:Mod X.K X.mg X.base
 kind:X.env.scope.kind=.function
 glob:X.env.globals=mainGlobals
 blt:X.env.builtins=builtinsNs
 above:X.s₀.heap.objs.size<=X.env.locals
 inj:∀ x y c,X.env.cells.lookup x=some c->X.env.cells.lookup y=some c->x=y
 has:∀ x,(X.env.kindOf x=some .cell\/X.env.kindOf x=some .free)->∃ c,X.env.cells.lookup x=some c
 cab:∀ x c,X.fn x=true->X.env.cells.lookup x=some c->X.s₀.heap.objs.size<=c
 hd:X.calm=true->X.A.handled=none
 frames:X.A.frames=some X.stack
 stk:X.stack=X.outer\/(X.stack=X.env::X.outer/\X.env.frame=some X.env.locals)
 exf:∀ b∈X.ex,b≠X.env.locals/\∀ x c,X.env.cells.lookup x=some c->c≠b
 bs:∀ b o,X.base.get? b=some o->X.s₀.heap.get? b=some o/\X.H₀ b=none
 bsz:X.base.objs.size<=X.s₀.heap.objs.size
 ab1:∀ b o,X.base.get? b=some o->b∉X.ex
 ab7:∀ b∈X.ex,b∉X.fs
 abh:X.s₀.heap.FunFrames X.base X.outer
 frf:∀ b∈X.fs,X.H₀ b=none
structure Inv (X:Cx)(pins:List (Addr × Obj))(σ:List (Option V))(H:Hp)(s:Shared):Prop where
 ok:X.Ok
 os:s.os=X.s₀.os
 bare:AllBare s.gens
 base:Un X.fs X.ex X.H₀ H X.s₀.heap s.heap
 loc:∃ m,s.heap.Ns X.env.locals m/\∀ (i:Nat) (x:Str) (v:V),X.N[i]?=some x->σ[i]?=some (some v)->X2 X.env.scope x->∃ u,RelV v u/\Look X.env s.heap m x u
 cell:∀ x c,X.env.cells.lookup x=some c->∃ v,s.heap.IsCell c v
 free:H X.env.locals=none
 aaj:∀ x c,X.env.cells.lookup x=some c->H c=none
 pin:∀ p∈X.pn++pins,s.heap.get? p.1=some p.2/\H p.1=none/\p.1≠X.env.locals/\p.1∉X.fs/\∀ v,p.2.data≠.cell v
 hok:De X.prog X.w H s.heap
 len:σ.length=X.N.length
section
variable {X:Cx}{pins:List (Addr × Obj)}{σ:List (Option V)}{H H':Hp}{s:Shared}{h':Heap}
theorem Cx.Ok.acm (ok:X.Ok)(e:X.base.get? b=some o):b∉X.fs:=λhb=>by
 have:=(ok.abh.mem hb).1;rw [e] at this;cases this
theorem Inv.bs (I:Inv X pins σ H s):∀ b o,X.base.get? b=some o->s.heap.get? b=some o/\H b=none:=λb o e =>
 ⟨I.base.keep b o (I.ok.bs b o e).1 (I.ok.bs b o e).2 (I.ok.acm e) (I.ok.ab1 b o e),I.base.free b o (I.ok.bs b o e).1 (I.ok.bs b o e).2 (I.ok.ab1 b o e)⟩
theorem Inv.bk (I:Inv X pins σ H s):∀ b o,X.base.get? b=some o->s.heap.get? b=some o:=λb o e=>(I.bs b o e).1
theorem Inv.mod (I:Inv X pins σ H s):Mod X.K X.mg X.base:=I.ok.mod
theorem Inv.kIn (I:Inv X pins σ H s):X.K.In s.heap:=I.ok.mod.kin.keeps I.bk
theorem Inv.fr (I:Inv X pins σ H s):∃ m,Fr X.base X.env.locals s.heap m :=
 let ⟨m,hn,_⟩:=I.loc
 ⟨m,hn,I.bk,Nat.le_trans I.ok.bsz I.ok.above⟩
theorem Inv.lt (I:Inv X pins σ H s):X.env.locals < s.heap.objs.size:=let ⟨_,hn,_⟩:=I.loc;hn.lt
theorem Inv.sz (I:Inv X pins σ H s):X.s₀.heap.objs.size<=s.heap.objs.size:=Nat.le_trans I.ok.above (Nat.le_of_lt I.lt)
theorem Inv.acg (I:Inv X pins σ H s)(h:s.heap.objs.size<=a):a∉X.fs:=λhb=>by
 obtain ⟨_,o,ho,_⟩:=I.ok.abh.mem hb;exact absurd (Nat.lt_of_lt_of_le (Heap.lt_size ho) (Nat.le_trans I.sz h)) (Nat.lt_irrefl _)
theorem Inv.cne (I:Inv X pins σ H s):∀ x c,X.env.cells.lookup x=some c->c≠X.env.locals:=λx c e z=>by
 obtain ⟨v,o,ho,hd⟩:=I.cell x c e;obtain ⟨m,⟨o',es,ep,Uv,IW,_⟩,_⟩:=I.loc;rw [z,Uv] at ho;cases ho;rw [IW] at hd;cases hd
theorem Inv.abh (I:Inv X pins σ H s):s.heap.FunFrames X.base X.outer:=by
 have all:∀ (l:List Env),(∀ b∈Lw l,b∈X.fs)->X.s₀.heap.FunFrames X.base l->s.heap.FunFrames X.base l:=by
  intro l
  induction l with
  | nil=>intro _ _;trivial
  | cons env r ih =>
   intro hs hl;obtain ⟨hk,⟨L,o,hf,hn,ho,hd⟩,hr⟩:=hl;have hL:L∈X.fs:=hs L (by unfold Lw;rw [List.filterMap_cons,hf];exact List.mem_cons_self);obtain ⟨sl,e⟩:=I.base.slot L o ho (I.ok.frf L hL) hL λz=>I.ok.ab7 L z hL;exact ⟨hk,⟨L,_,hf,hn,e,hd⟩,ih (λb hb=>hs b (by unfold Lw;rw [List.filterMap_cons,hf];exact List.mem_cons_of_mem _ hb)) hr⟩
 exact all X.outer (λ_ hb=>hb) I.ok.abh
theorem Inv.stack (I:Inv X pins σ H s):s.heap.FunFrames X.base X.stack:=by
 rcases I.ok.stk with e | ⟨e,hf⟩
 ·rw [e];exact I.abh
 ·rw [e];obtain ⟨m,hn,_⟩:=I.loc;refine .cons (by rw [I.ok.kind];decide) hf hn ?_ I.abh;exact Heap.get?_none_of_le (Nat.le_trans I.ok.bsz I.ok.above)
theorem Inv.aaz (I:Inv X pins σ H s):∀ b∈Lw X.stack,b∈X.env.locals::X.fs:=λb hb=>by
 rcases I.ok.stk with e | ⟨e,hf⟩
 ·rw [e] at hb;exact List.mem_cons_of_mem _ hb
 ·rw [e] at hb;unfold Lw at hb;rw [List.filterMap_cons,hf] at hb;exact hb
theorem Inv.abk (I:Inv X pins σ H s):∀ b∈Lw X.stack,H b=none:=λb hb=>by
 rcases List.mem_cons.mp (I.aaz b hb) with e | hb
 ·rw [e];exact I.free
 ·obtain ⟨_,o,ho,_⟩:=I.ok.abh.mem hb;exact I.base.free b o ho (I.ok.frf b hb) λz=>I.ok.ab7 b z hb
theorem Inv.step {g':Array GenState}{t':Nat}{d':Drawn}{ch:List Addr}(I:Inv X pins σ H s)
  (U6:∀ b∈ch,(b∈X.ex\/X.s₀.heap.objs.size<=b)/\b≠X.env.locals/\(∀ x c,X.env.cells.lookup x=some c->c≠b)/\∀ p∈X.pn++pins,p.1≠b)
  (keep:∀ b o,b≠X.env.locals->b∉X.fs->b∉ch->s.heap.get? b=some o->H b=none->h'.get? b=some o)
  (slot:∀ b o,b≠X.env.locals->b∈X.fs->b∉ch->s.heap.get? b=some o->H b=none->∃ sl,h'.get? b=some { o with slots:=sl }) (free:∀ b o,b∉ch->s.heap.get? b=some o->H b=none->H' b=none)
  (there:∀ b o,b∉ch->s.heap.get? b=some o->∃ o',h'.get? b=some o')
  (abi:∀ b xs,H b=some (.tup xs)->H' b=some (.tup xs)) (abe:∀ b o u,H b=some (.frz o u)->H' b=some (.frz o u)) (abf:∀ b ps,H b=some (.tbl ps)->∃ more,H' b=some (.tbl (ps++more)))
  (ns:∀ m,s.heap.Ns X.env.locals m->h'.Ns X.env.locals m) (hok:De X.prog X.w H' h') (hg:AllBare g') :
  Inv X pins σ H' { s with heap:=h',gens:=g',drawn:=d',toks:=t' }:=by
 have v5:∀ b o,X.s₀.heap.get? b=some o->b≠X.env.locals:=λb o e=>Nat.ne_of_lt (Nat.lt_of_lt_of_le (Heap.lt_size e) I.ok.above);have kM:∀ b o,X.s₀.heap.get? b=some o->b∉X.ex->b∉ch:=λb o e hx hb=>by
  rcases (U6 b hb).1 with z | z
  ·exact hx z
  ·exact absurd (Nat.lt_of_lt_of_le (Heap.lt_size e) z) (Nat.lt_irrefl _)
 have cellK:∀ x c,X.env.cells.lookup x=some c->∀ v,s.heap.IsCell c v->h'.IsCell c v:=λx c e v ⟨o,ho,hd⟩=>by
  have eJ:c∉ch:=λz=>(U6 c z).2.2.1 x c e rfl;by_cases hc:c∈X.fs
  ·obtain ⟨sl,q⟩:=slot c o (I.cne x c e) hc eJ ho (I.aaj x c e);exact ⟨_,q,hd⟩
  ·exact ⟨o,keep c o (I.cne x c e) hc eJ ho (I.aaj x c e),hd⟩
 refine ⟨I.ok,I.os,hg,⟨λb o e n hb hx=>?_,λb o e n hb hx=>?_,λb o e n hx=>?_,λb o e hx=>?_,λb xs e=>abi b xs (I.base.abi b xs e),λb o xs e=>abe b o xs (I.base.abe b o xs e),λb ps e=>?_⟩,?_,λx c e=>?_,?_,λx c e=>?_,λp hp=>?_,hok,I.len⟩
 ·exact keep b o (v5 b o e) hb (kM b o e hx) (I.base.keep b o e n hb hx) (I.base.free b o e n hx)
 ·obtain ⟨sl,e1⟩:=I.base.slot b o e n hb hx;obtain ⟨yp,e2⟩:=slot b _ (v5 b o e) hb (kM b o e hx) e1 (I.base.free b o e n hx);exact ⟨yp,e2⟩
 ·obtain ⟨o',e1⟩:=I.base.there b o e hx;exact free b o' (kM b o e hx) e1 (I.base.free b o e n hx)
 ·obtain ⟨o',e1⟩:=I.base.there b o e hx;exact there b o' (kM b o e hx) e1
 ·obtain ⟨m1,e1⟩:=I.base.abf b ps e;obtain ⟨m2,e2⟩:=abf b _ e1;exact ⟨m1++m2,by rw [e2,Array.append_assoc]⟩
 ·obtain ⟨m,hn,hl⟩:=I.loc;refine ⟨m,ns m hn,λi x v e1 e2 e3=>?_⟩;obtain ⟨u,r,l⟩:=hl i x v e1 e2 e3;refine ⟨u,r,?_⟩;rcases l with l | ⟨k,c,e,z⟩
  ·exact .inl l
  ·exact .inr ⟨k,c,e,cellK x c e _ z⟩
 ·obtain ⟨v,z⟩:=I.cell x c e;exact ⟨v,cellK x c e v z⟩
 ·obtain ⟨m,⟨o,_,_,ho,_⟩,_⟩:=I.loc;exact free _ o (λz=>(U6 _ z).2.1 rfl) ho I.free
 ·obtain ⟨v,o,ho,hd⟩:=I.cell x c e;exact free c o (λz=>(U6 c z).2.2.1 x c e rfl) ho (I.aaj x c e)
 ·obtain ⟨e,n,ne,nf,d⟩:=I.pin p hp;have eJ:p.1∉ch:=λz=>(U6 p.1 z).2.2.2 p hp rfl;exact ⟨keep p.1 p.2 ne nf eJ e n,free p.1 p.2 eJ e n,ne,nf,d⟩
theorem Inv.un (I:Inv X pins σ H s)(u:Un X.fs [] H H' s.heap h')(hok:De X.prog X.w H' h'):Inv X pins σ H' { s with heap:=h',toks:=t' }:=by
 obtain ⟨m,⟨o,es,ep,ho,r⟩,_⟩:=id I.loc;obtain ⟨sl,hL⟩:=u.any ho I.free (by simp);exact I.step (g':=s.gens) (d':=s.drawn) (ch:=[]) (λ_ z=>nomatch z) (λb o _ hb _ e n=>u.keep b o e n hb (by simp)) (λb o _ hb _ e n=>u.slot b o e n hb (by simp)) (λb o _ e n=>u.free b o e n (by simp)) (λb o _ e=>u.there b o e (by simp)) u.abi u.abe u.abf (λm' hm=>by
  obtain ⟨o',kN,kO,Uv,r'⟩:=hm;rw [ho] at Uv;cases Uv;exact ⟨_,kN,kO,hL,r'⟩) hok I.bare
theorem Inv.call (I:Inv X pins σ H s)(u:Un (Lw X.stack) ch H H' s.heap h')(hok:De X.prog X.w H' h')(hg:AllBare g')(U6:∀ b∈ch,(b∈X.ex\/X.s₀.heap.objs.size<=b)/\b≠X.env.locals/\(∀ x c,X.env.cells.lookup x=some c->c≠b)/\∀ p∈X.pn++pins,p.1≠b) :
  Inv X pins σ H' { s with heap:=h',gens:=g',drawn:=d',toks:=t' }:=by
 obtain ⟨m,⟨o,es,ep,ho,r⟩,_⟩:=id I.loc;obtain ⟨sl,hL⟩:=u.any ho I.free λz=>(U6 _ z).2.1 rfl;exact I.step (ch:=ch) U6 (λb o hL hb hc e n=>u.keep b o e n (λz=>(List.mem_cons.mp (I.aaz b z)).elim hL hb) hc) (λb o _ _ hc e n=>u.any e n hc) (λb o hc e n=>u.free b o e n hc) (λb o hc e=>u.there b o e hc) u.abi u.abe u.abf (λm' hm=>by
  obtain ⟨o',kN,kO,Uv,r'⟩:=hm;rw [ho] at Uv;cases Uv;exact ⟨_,kN,kO,hL,r'⟩) hok hg
theorem Inv.turned (I:Inv X pins σ H s)(k:∀ b o,b≠it->s.heap.get? b=some o->h'.get? b=some o)(hn:H it=none)(hL:it≠X.env.locals)(h1:it∈X.ex\/X.s₀.heap.objs.size<=it)(h2:∀ x c,X.env.cells.lookup x=some c->c≠it)(h3:∀ p∈X.pn++pins,p.1≠it):Inv X pins σ H { s with heap:=h',toks:=t' }:=by
 have v8:∀ b u,H b=some u->b≠it:=λb u e z=>by rw [z,hn] at e;cases e
 refine I.step (g':=s.gens) (d':=s.drawn) (ch:=[it]) (λb hb=>?_) (λb o _ _ hc e _=>k b o (λz=>hc (by simp [z])) e) (λb o _ _ hc e _=>⟨o.slots,k b o (λz=>hc (by simp [z])) e⟩) (λ_ _ _ _ n=>n)
  (λb o hc e=>⟨o,k b o (λz=>hc (by simp [z])) e⟩) (λ_ _ e=>e) (λ_ _ _ e=>e) (λb ps e=>⟨#[],by rw [e];simp⟩) (λm hm=>?_) (λb u e=>?_) I.bare
 ·have e:b=it:=by simpa using hb
  subst e;exact ⟨h1,hL,h2,h3⟩
 ·obtain ⟨o,es,ep,ho,r⟩:=hm;exact ⟨o,es,ep,k _ o (Ne.symm hL) ho,r⟩
 ·refine (I.hok b u e).abq (λc v hc q=>k c v ?_ q) (λ_ q=>q) λ_ _ q=>q;rcases hc with z | z
  ·rw [z];exact v8 b u e
  ·exact v8 c _ z
theorem Inv.tok (I:Inv X pins σ H s)(t:Nat):Inv X pins σ H { s with toks:=t }:=I.un (h':=s.heap) (t':=t) Un.refl I.hok
theorem Inv.kept (I:Inv X pins σ H s)(k:∀ b u,s.heap.get? b=some u->h'.get? b=some u):Inv X pins σ H { s with heap:=h',toks:=t' }:=I.un (Un.kept k) (I.hok.kept k)
theorem Inv.laid (I:Inv X pins σ H s)(k:∀ b u,s.heap.get? b=some u->h'.get? b=some u)(hp:s.heap.objs.size<=a)(new:AJ X.prog X.w (upd H a o) h' a o):
  Inv X pins σ (upd H a o) { s with heap:=h',toks:=t' }:=I.un (Un.laid k hp (I.hok.fresh hp)) (I.hok.laid k hp new)
theorem Inv.write (I:Inv X pins σ H s)(mu:eF (H x))(he:e=x\/H e=some (.own x))(k:∀ b u,b≠e->s.heap.get? b=some u->h'.get? b=some u)(cC:∃ u,h'.get? e=some u)(new:AJ X.prog X.w (upd H x o) h' x o):Inv X pins σ (upd H x o) { s with heap:=h',toks:=t' }:=I.un (Un.write mu he k cC) (I.hok.write mu he k cC new)
theorem Inv.weak (I:Inv X pins σ H s)(hl:σ'.length=σ.length)(w:∀ (i:Nat) v,σ'[i]?=some (some v)->σ[i]?=some (some v)):Inv X pins σ' H s :=
 ⟨I.ok,I.os,I.bare,I.base,let ⟨m,hn,yq⟩:=I.loc;⟨m,hn,λi x v e1 e2 e3=>yq i x v e1 (w i v e2) e3⟩,I.cell,I.free,I.aaj,I.pin,I.hok,hl.trans I.len⟩
theorem Inv.aau (I:Inv X pins σ H s)(h:∀ p∈pins',s.heap.get? p.1=some p.2/\H p.1=none/\p.1≠X.env.locals/\p.1∉X.fs/\∀ v,p.2.data≠.cell v):Inv X pins' σ H s :=
 ⟨I.ok,I.os,I.bare,I.base,I.loc,I.cell,I.free,I.aaj,λp hp=>(List.mem_append.mp hp).elim (λz=>I.pin p (List.mem_append_left _ z)) (h p),I.hok,I.len⟩
theorem JX {N:List Str}(hN:N.Nodup){i j:Nat}{x:Str}(a:N[i]?=some x)(b:N[j]?=some x):i=j:=by
 obtain ⟨h1,e1⟩:=List.getElem?_eq_some_iff.mp a;obtain ⟨h2,e2⟩:=List.getElem?_eq_some_iff.mp b;exact (List.getElem_inj hN).mp (e1.trans e2.symm)
theorem Ik (I:Inv X pins σ H s)(hN:X.N.Nodup)(hi:X.N[i]?=some x)(hx:Loc X.env.scope x)(r:RelV v u)(h:∀ s',Inv X pins (σ.set i (some v)) H s'->(∃ a,Heap.SameBut a s.heap s'.heap/\(a=X.env.locals\/X.env.cells.lookup x=some a))->Q .unit s')(hf:X.fn x=true\/X.env.scope.names.lookup x=some .local:=by exfalso):wpAny M A (storeName X.env x u) Q E s:=by
 obtain ⟨m,hn,hl⟩:=id I.loc;have nJ:(X.env.scope.kind==.class || (X.env.scope.kind==.module && X.env.locals != X.env.globals))=false:=by rw [I.ok.kind];rfl
 have hiσ:i < σ.length:=by rw [I.len];exact (List.getElem?_eq_some_iff.mp hi).1
 have cne:=I.cne;have tracked:∀ {a:Addr} {h':Heap},(∃ o,s.heap.get? a=some o/\H a=none)->Heap.SameBut a s.heap h'->De X.prog X.w H h':=λ{a h'} ha hs b ob e=>by
  obtain ⟨_,_,X3⟩:=ha;refine (I.hok b ob e).abq (λc w' hc q=>(hs.2 c ?_).trans q) (λ_ q=>q) λ_ _ q=>q;rintro rfl;rcases hc with rfl | hc
  ·rw [X3] at e;cases e
  ·rw [X3] at hc;cases hc
 rcases hx with hk | hk
 ·refine wpAny_storeName_local hk hn (λh' eK hs=>?_) nJ;obtain ⟨oL,_,_,yr,_⟩:=id hn;refine h _ ⟨I.ok,I.os,I.bare,⟨λb o e n hb hx=>?_,λb o e n hb hx=>?_,I.base.free,λb o e hx=>?_,I.base.abi,I.base.abe,I.base.abf⟩,⟨_,eK,λj y v' e1 e2 e3=>?_⟩,λy c e=>?_,I.free,I.aaj,λp hp=>?_,tracked ⟨oL,yr,I.free⟩ hs,by simpa using I.len⟩ ⟨_,hs,.inl rfl⟩
  ·exact (hs.2 b (Nat.ne_of_lt (Nat.lt_of_lt_of_le (Heap.lt_size e) I.ok.above))).trans (I.base.keep b o e n hb hx)
  ·obtain ⟨sl,e1⟩:=I.base.slot b o e n hb hx;exact ⟨sl,(hs.2 b (Nat.ne_of_lt (Nat.lt_of_lt_of_le (Heap.lt_size e) I.ok.above))).trans e1⟩
  ·obtain ⟨o',e1⟩:=I.base.there b o e hx;exact ⟨o',(hs.2 b (Nat.ne_of_lt (Nat.lt_of_lt_of_le (Heap.lt_size e) I.ok.above))).trans e1⟩
  ·by_cases hj:j=i
   ·subst hj;rw [hi] at e1;cases e1;rw [List.getElem?_set_self hiσ] at e2;cases e2;exact ⟨u,r,.inl ⟨hk,by simp⟩⟩
   ·rw [List.getElem?_set_ne (Ne.symm hj)] at e2;obtain ⟨u',r',q⟩:=hl j y v' e1 e2 e3;refine ⟨u',r',?_⟩;rcases q with ⟨k,e⟩ | ⟨k,c,e,z⟩
    ·refine .inl ⟨k,?_⟩;have:y≠x:=λe=>hj (JX hN e1 (e▸hi));simp [this,e]
    ·exact .inr ⟨k,c,e,z.sameBut hs (cne y c e)⟩
  ·obtain ⟨w',z⟩:=I.cell y c e;exact ⟨w',z.sameBut hs (cne y c e)⟩
  ·obtain ⟨e,n,ne,nf,d⟩:=I.pin p hp;exact ⟨(hs.2 p.1 ne).trans e,n,ne,nf,d⟩
 ·have nK:X.fn x=true:=by
   rcases hf with z | z
   ·exact z
   ·rw [z] at hk;cases hk
  obtain ⟨c,hc⟩:=I.ok.has x (.inl hk);obtain ⟨w',z⟩:=I.cell x c hc;refine wpAny_storeName_cell I.ok.kind hk hc z (λh' kQ hs=>?_);obtain ⟨oc,U7,nL⟩:=id z;refine h { s with heap:=h' } ⟨I.ok,I.os,I.bare,⟨λb o e n hb hx=>?_,λb o e n hb hx=>?_,I.base.free,λb o e hx=>?_,I.base.abi,I.base.abe,I.base.abf⟩,⟨m,hn.sameBut hs (Ne.symm (cne x c hc)),λj y v' e1 e2 e3=>?_⟩,λy c' e=>?_,I.free,I.aaj,λp hp=>?_,tracked ⟨oc,U7,I.aaj x c hc⟩ hs,by simpa using I.len⟩ ⟨c,hs,.inr hc⟩
  ·exact (hs.2 b (Nat.ne_of_lt (Nat.lt_of_lt_of_le (Heap.lt_size e) (I.ok.cab x c nK hc)))).trans (I.base.keep b o e n hb hx)
  ·obtain ⟨sl,e1⟩:=I.base.slot b o e n hb hx;exact ⟨sl,(hs.2 b (Nat.ne_of_lt (Nat.lt_of_lt_of_le (Heap.lt_size e) (I.ok.cab x c nK hc)))).trans e1⟩
  ·obtain ⟨o',e1⟩:=I.base.there b o e hx;exact ⟨o',(hs.2 b (Nat.ne_of_lt (Nat.lt_of_lt_of_le (Heap.lt_size e) (I.ok.cab x c nK hc)))).trans e1⟩
  ·by_cases hj:j=i
   ·subst hj;rw [hi] at e1;cases e1;rw [List.getElem?_set_self hiσ] at e2;cases e2;exact ⟨u,r,.inr ⟨.inl hk,c,hc,kQ⟩⟩
   ·rw [List.getElem?_set_ne (Ne.symm hj)] at e2;obtain ⟨u',r',q⟩:=hl j y v' e1 e2 e3;refine ⟨u',r',?_⟩;rcases q with q | ⟨k,c',e,z'⟩
    ·exact .inl q
    ·refine .inr ⟨k,c',e,z'.sameBut hs ?_⟩;rintro rfl;exact hj (JX hN e1 (I.ok.inj _ _ _ e hc▸hi))
  ·by_cases nM:c'=c
   ·subst nM;exact ⟨_,kQ⟩
   ·obtain ⟨w2,z2⟩:=I.cell y c' e;exact ⟨w2,z2.sameBut hs nM⟩
  ·obtain ⟨e,n,ne,nf,d⟩:=I.pin p hp;refine ⟨(hs.2 p.1 ?_).trans e,n,ne,nf,d⟩;intro q;rw [q,U7] at e;have q':oc=p.2:=Option.some.inj e;exact d w' (by rw [<- q'];exact nL)
theorem DC (I:Inv X pins σ H s)(hN:X.N.Nodup)(hi:X.N[i]?=some x)(hx:Loc X.env.scope x)(r:RelV v u)(h:∀ s',Inv X pins (σ.set i (some v)) H s'->Q .unit s')(hf:X.fn x=true\/X.env.scope.names.lookup x=some .local:=by exfalso):wpAny M A (storeName X.env x u) Q E s :=
 Ik I hN hi hx r (λs' I' _=>h s' I') hf
theorem Inv.abv (I:Inv X pins σ H s)(ho:s'.os=s.os)(u:Un (Lw X.stack) ch H H' s.heap s'.heap)(hok:De X.prog X.w H' s'.heap)(hg:AllBare s'.gens)(U6:∀ b∈ch,(b∈X.ex\/X.s₀.heap.objs.size<=b)/\b≠X.env.locals/\(∀ x c,X.env.cells.lookup x=some c->c≠b)/\∀ p∈X.pn++pins,p.1≠b):Inv X pins σ H' s':=by
 obtain ⟨h',g',d',t',o'⟩:=s';have e:o'=s.os:=ho;subst e;exact I.call (g':=g') (t':=t') (d':=d') u hok hg U6
end
abbrev XK:=Value->Option Addr->Hp->Prop
abbrev St:=List (Option V)
abbrev VK:=V->Hp->Prop
abbrev TE:=St->Hp->VK->Prop
abbrev TT:=St->Hp->(Bool->Hp->Prop)->Prop
abbrev TA:=St->Hp->(List V->Hp->Prop)->Prop
structure Ends where
 nx:St->Hp->Prop
 rt:VK
 bk:St->Hp->Prop:=λ_ _=>False
 ct:St->Hp->Prop:=λ_ _=>False
abbrev TS:=Ends->St->Hp->Prop
noncomputable def EP (X:Cx)(pins:List (Addr × Obj))(σ:St)(Q:VK)(u:Value)(s':Shared):Prop:=∃ v H',Inv X pins σ H' s'/\RelV v u/\Q v H'
noncomputable def TP (X:Cx)(pins:List (Addr × Obj))(σ:St)(Q:Bool->Hp->Prop)(b:Bool)(s':Shared):Prop:=∃ H',Inv X pins σ H' s'/\Q b H'
noncomputable def AP (X:Cx)(pins:List (Addr × Obj))(σ:St)(Q:List V->Hp->Prop)(us:List Value)(s':Shared):Prop:=∃ vs H',Inv X pins σ H' s'/\Vals vs us/\Q vs H'
noncomputable def SP (X:Cx)(pins:List (Addr × Obj))(D:Ends)(f:Flow)(s':Shared):Prop :=
 match f with
 | .next=>∃ σ' H',Inv X pins σ' H' s'/\D.nx σ' H'
 | .brk=>∃ σ' H',Inv X pins σ' H' s'/\D.bk σ' H'
 | .cont=>∃ σ' H',Inv X pins σ' H' s'/\D.ct σ' H'
 | .ret u=>∃ v σ' H',Inv X pins σ' H' s'/\RelV v u/\D.rt v H'
noncomputable def PE (X:Cx)(e:Expr)(t:TE):Prop :=
 ∀ (pins:List (Addr × Obj)) (s:Shared) (σ:St) (H:Hp) (Q:VK),Inv X pins σ H s->t σ H Q->wpAny (model X.prog X.w) X.A (eval e X.env) (EP X pins σ Q) X.xe s
noncomputable def PT (X:Cx)(e:Expr)(t:TT):Prop :=
 ∀ (pins:List (Addr × Obj)) (s:Shared) (σ:St) (H:Hp) (Q:Bool->Hp->Prop),Inv X pins σ H s->t σ H Q->wpAny (model X.prog X.w) X.A (isTrue e X.env (eval e X.env)) (TP X pins σ Q) X.xe s
noncomputable def PW (X:Cx)(e:Expr)(t:TT):Prop :=
 ∀ (whole:Sem Value) (pins:List (Addr × Obj)) (s:Shared) (σ:St) (H:Hp) (Q:Bool->Hp->Prop),Inv X pins σ H s->t σ H Q->wpAny (model X.prog X.w) X.A (isTrue e X.env whole) (TP X pins σ Q) X.xe s
theorem PW.pt (h:PW X e t):PT X e t:=h _
noncomputable def PA (X:Cx)(es:List Expr)(t:TA):Prop :=
 ∀ (pos:Pos) (pins:List (Addr × Obj)) (s:Shared) (σ:St) (H:Hp) (Q:List V->Hp->Prop),Inv X pins σ H s->t σ H Q->wpAny (model X.prog X.w) X.A (spliced (backTo pos (starEach es X.env))) (AP X pins σ Q) X.xe s
noncomputable def PS (X:Cx)(st:Stmt)(t:TS):Prop :=
 ∀ (pins:List (Addr × Obj)) (s:Shared) (σ:St) (H:Hp) (D:Ends),Inv X pins σ H s->t D σ H->wpAny (model X.prog X.w) X.A (exec st X.env) (SP X pins D) X.xe s
noncomputable def Nm (X:Cx)(st:List Stmt)(t:TS):Prop :=
 ∀ (pins:List (Addr × Obj)) (s:Shared) (σ:St) (H:Hp) (D:Ends),Inv X pins σ H s->t D σ H->wpAny (model X.prog X.w) X.A (execs st X.env) (SP X pins D) X.xe s
theorem AK (h:wpAny M A t Q E s)(hQ:∀ a s,Q a s->Q' a s):wpAny M A t Q' E s:=wpAny_mono h hQ λ_ _ x=>x
section
variable {X:Cx}
theorem bin {a b:Expr}{ta tb:TE}(ha:PE X a ta)(hb:PE X b tb){pins:List (Addr × Obj)}{s:Shared}{σ:St}{H:Hp}{R:V->V->Hp->Prop}(I:Inv X pins σ H s)(h:ta σ H λx H1=>tb σ H1 λy H2=>R x y H2)
  {α:Type} {Q:α->Shared->Prop} {f:Value->Value->Sem α}
  (hf:∀ v u s2 x y H2,Inv X pins σ H2 s2->RelV x v->RelV y u->R x y H2->wpAny (model X.prog X.w) X.A (f v u) Q X.xe s2) :
  wpAny (model X.prog X.w) X.A (eval a X.env) (λv s₁=>wpAny (model X.prog X.w) X.A (eval b X.env) (λu s₂=>wpAny (model X.prog X.w) X.A (f v u) Q X.xe s₂) X.xe s₁) X.xe s:=by
 refine AK (ha pins s σ H _ I h) λv s1 Au=>?_;obtain ⟨x,H1,I1,r1,q1⟩:=Au;refine AK (hb pins s1 σ H1 _ I1 q1) λu s2 Au=>?_;obtain ⟨y,H2,I2,r2,q2⟩:=Au;exact hf v u s2 x y H2 I2 r1 r2 q2
noncomputable def B9 (i:Nat):TE:=fun σ H Q=>∃ v,σ[i]?=some (some v)/\Q v H
noncomputable def tC (v:V):TE:=λ_ H Q=>Q v H
theorem LF (hN:X.N[i]?=some x)(hv:X2 X.env.scope x)(hd:(x==("__debug__":Str))=false:=by decide)(HY:(x==("__classdict__":Str))=false:=by decide):PE X (.Name x pos) (B9 i):=by
 intro pins s σ H Q I h;obtain ⟨v,e,h⟩:=h;obtain ⟨m,hn,hl⟩:=I.loc;obtain ⟨u,r,l⟩:=hl i x v hN e hv;have fin:EP X pins σ Q u s:=⟨v,H,I,r,h⟩;rcases l with ⟨hk,hm⟩ | ⟨hk,c,hc,X4⟩
 ·exact wpAny_Name (wpAny_loadName_local I.ok.kind hk hn hm fin) hd
 ·rcases hk with hk | hk
  ·exact wpAny_Name (wpAny_loadName_cell I.ok.kind hk hc X4 fin) hd
  ·exact wpAny_Name (wpAny_loadName_free I.ok.kind hk hc X4 fin HY) hd
theorem D5 {i j pos}:PE X (.Constant (.int i) j pos) (tC (.int i)):=λ_ _ _ H _ I h=>wpAny_Constant_int ⟨.int i,H,I.tok _,⟨_,rfl⟩,h⟩
theorem eM {b j pos}:PE X (.Constant (.bool b) j pos) (tC (.bl b)):=λ_ _ _ H _ I h=>Constant_bool ⟨.bl b,H,I,rfl,h⟩
theorem Y9 {j pos}:PE X (.Constant .none j pos) (tC .non):=λ_ _ _ H _ I h=>Constant_none ⟨.non,H,I,rfl,h⟩
theorem Ya {x j pos}:PE X (.Constant (.str x) j pos) (tC (.str x)):=λ_ _ _ H _ I h=>Calls.Constant_str ⟨.str x,H,I.tok _,⟨_,rfl⟩,h⟩
noncomputable def Gl (X:Cx)(x:Str):Prop:=X.env.kindOf x=some .globalImplicit
theorem IX (I:Inv X pins σ H s)(hg:Gl X x)(hm:X.mg x=some u)(h:Q u s)(hd:(x==("__debug__":Str))=false:=by decide):wpAny (model X.prog X.w) X.A (eval (.Name x pos) X.env) Q E s :=
 Calls.Name_function_global I.ok.kind hg (Calls.loadGlobal_global (by rw [I.ok.glob];exact I.mod.glob.keeps I.bk) hm h) hd
theorem D6 (I:Inv X pins σ H s)(hg:Gl X x)(hm:X.mg x=none)(hv:bootBuiltins x=some u)(h:Q u s)(hn:x≠"__name__":=by decide)(hd:(x==("__debug__":Str))=false:=by decide):wpAny (model X.prog X.w) X.A (eval (.Name x pos) X.env) Q E s:=by
 obtain ⟨mb,h1,h2⟩:=I.mod.blt;exact Calls.Name_function_global I.ok.kind hg (Calls.loadGlobal_builtin (by rw [I.ok.glob];exact I.mod.glob.keeps I.bk) hm (by rw [I.ok.blt];exact h1.keeps I.bk) ((h2 x hn).trans hv) h) hd
theorem IY (hg:Gl X x)(hm:X.mg x=some u)(r:RelV v u)(hd:(x==("__debug__":Str))=false:=by decide):PE X (.Name x pos) (tC v) :=
 λ_ _ _ H _ I h=>IX I hg hm ⟨v,H,I,r,h⟩ hd
theorem Uw (hg:Gl X x)(hm:X.mg x=none)(hv:bootBuiltins x=some u)(r:RelV v u)(hn:x≠"__name__":=by decide)(hd:(x==("__debug__":Str))=false:=by decide):PE X (.Name x pos) (tC v) :=
 λ_ _ _ H _ I h=>D6 I hg hm hv ⟨v,H,I,r,h⟩ hn hd
variable {a b:Expr}{ta tb:TE}{pos:Pos}
noncomputable def PC (X:Cx)(op:CmpOp)(a b:Expr)(t:TE):Prop :=
 ∀ (pins:List (Addr × Obj)) (s:Shared) (σ:St) (H:Hp) (Q:VK),Inv X pins σ H s->t σ H Q ->
  wpAny (model X.prog X.w) X.A (eval a X.env) (λv s₁=>wpAny (model X.prog X.w) X.A (eval b X.env) (λu s₂=>wpAny (model X.prog X.w) X.A (compareOp op v u) (EP X pins σ Q) X.xe s₂) X.xe s₁) X.xe s
theorem GI (b:Expr)(h:op≠.In)(h2:op≠.NotIn):behindInMarks op b=false:=by
 have e1:(op==CmpOp.In)=false:=by cases op <;> first | rfl | exact absurd rfl h
 have e2:(op==CmpOp.NotIn)=false:=by cases op <;> first | rfl | exact absurd rfl h2
 cases b <;> simp [behindInMarks,e1,e2]
noncomputable def tB (t:TE):TT:=fun σ H Q=>t σ H λx H1=>∃ c,x=.bl c/\Q c H1
theorem Yb (h:PC X op a b t)(h1:behindInMarks op b=false:=by exfalso):PE X (.Compare a [op] [b] pos) t:=λpins s σ H Q I hw=>wpAny_Compare1 (h pins s σ H Q I hw) h1
theorem Qt (h:PC X op a b t)(h1:behindInMarks op b=false:=by exfalso):PT X (.Compare a [op] [b] pos) (tB t):=by
 intro pins s σ H Q I hw;refine wpAny_isTrue_Compare1 (AK (h pins s σ H _ I hw) λv s1 h1=>AK h1 λu s2 h2=>AK h2 λc s3 Au=>?_) h1;obtain ⟨x,H1,I1,r1,q1⟩:=Au;obtain ⟨d,rfl,q⟩:=q1;cases r1;exact wpAny_truthy_bool ⟨H1,I1,q⟩
theorem Yc (h:PE X e t)(he:∀ whole,isTrue e X.env whole=(do let v <- whole;standAt e.pos;holding [v] (truthy v)):=by intro _;rfl):PT X e (tB t):=by
 intro pins s σ H Q I hw;refine isTrue_plain (AK (h pins s σ H _ I hw) λv s1 Au=>?_) (he _);obtain ⟨x,H1,I1,r1,q1⟩:=Au;obtain ⟨d,rfl,q⟩:=q1;cases r1;exact wpAny_truthy_bool ⟨H1,I1,q⟩
variable {tA Ux:TT}{rest:List Expr}
noncomputable def Yd (t u:TT):TT:=fun σ H Q=>t σ H λc H1=>if c=true then u σ H1 Q else Q false H1
noncomputable def nN (t u:TT):TT:=fun σ H Q=>t σ H λc H1=>if c=true then Q true H1 else u σ H1 Q
noncomputable def Ye (t:TT):TT:=fun σ H Q=>t σ H λc H1=>Q (!c) H1
theorem Uy (ha:PT X a tA):PW X (.BoolOp .And [a] pos) tA:=by
 intro wh pins s σ H Q I h;refine isTrue_and (AK (ha pins s σ H Q I h) λc s1 e=>?_);cases c with
 | true=>exact isTrue_and_nil e
 | false=>exact e
theorem Yf (ha:PT X a tA):PW X (.BoolOp .Or [a] pos) tA:=by
 intro wh pins s σ H Q I h;refine isTrue_or (AK (ha pins s σ H Q I h) λc s1 e=>?_);cases c with
 | false=>exact isTrue_or_nil e
 | true=>exact e
theorem Yg (ha:PT X a tA)(hb:PW X (.BoolOp .And (b::rest) pos) Ux):PW X (.BoolOp .And (a::b::rest) pos) (Yd tA Ux):=by
 intro wh pins s σ H Q I h;refine isTrue_and (AK (ha pins s σ H _ I h) λc s1 Au=>?_);obtain ⟨H1,I1,q1⟩:=Au;cases c with
 | true=>exact hb wh pins s1 σ H1 Q I1 q1
 | false=>exact ⟨H1,I1,q1⟩
theorem eN (ha:PT X a tA)(hb:PW X (.BoolOp .Or (b::rest) pos) Ux):PW X (.BoolOp .Or (a::b::rest) pos) (nN tA Ux):=by
 intro wh pins s σ H Q I h;refine isTrue_or (AK (ha pins s σ H _ I h) λc s1 Au=>?_);obtain ⟨H1,I1,q1⟩:=Au;cases c with
 | true=>exact ⟨H1,I1,q1⟩
 | false=>exact hb wh pins s1 σ H1 Q I1 q1
theorem Yh (ha:PT X a tA):PT X (.UnaryOp .Not a pos) (Ye tA):=by
 intro pins s σ H Q I h;exact isTrue_not (ha pins s σ H (λc H1=>Q (!c) H1) I h)
noncomputable def Qu (ta tb:TE):TE:=fun σ H Q=>ta σ H λx H1=>∃ c,x=.bl c/\if c=true then tb σ H1 Q else Q (.bl false) H1
noncomputable def Qv (ta:TE):TE:=fun σ H Q=>ta σ H λx H1=>∃ c,x=.bl c/\Q (.bl (!c)) H1
theorem Yi {op}(h:PE X a t):PE X (.BoolOp op [a] pos) t:=λpins s σ H Q I hw=>BoolOp_one (h pins s σ H Q I hw)
theorem Yj (ha:PE X a ta)(hb:PE X (.BoolOp .And (b::rest) pos) tb):PE X (.BoolOp .And (a::b::rest) pos) (Qu ta tb):=by
 intro pins s σ H Q I h;refine BoolOp_and (AK (ha pins s σ H _ I h) λv s1 Au=>?_);obtain ⟨x,H1,I1,r1,q1⟩:=Au;obtain ⟨c,rfl,q1⟩:=q1;cases r1;refine wpAny_truthy_bool ?_;cases c with
 | true=>exact hb pins s1 σ H1 Q I1 q1
 | false=>exact ⟨.bl false,H1,I1,rfl,q1⟩
theorem Yk (ha:PE X a ta):PE X (.UnaryOp .Not a pos) (Qv ta):=by
 intro pins s σ H Q I h;refine UnaryOp_ (AK (ha pins s σ H _ I h) λv s1 Au=>?_);obtain ⟨x,H1,I1,r1,q1⟩:=Au;obtain ⟨c,rfl,q1⟩:=q1;cases r1;exact not_of (wpAny_truthy_bool ⟨.bl (!c),H1,I1,rfl,q1⟩)
noncomputable def nO (t:TT)(ta tb:TE):TE:=fun σ H Q=>t σ H λc H1=>if c=true then ta σ H1 Q else tb σ H1 Q
theorem Qw (hc:PT X c tA)(ha:PE X a ta)(hb:PE X b tb):PE X (.IfExp c a b pos) (nO tA ta tb):=by
 intro pins s σ H Q I h;refine wpAny_IfExp (AK (hc pins s σ H _ I h) λd s1 Au=>?_);obtain ⟨H1,I1,q1⟩:=Au;cases d with
 | true=>exact ha pins s1 σ H1 Q I1 q1
 | false=>exact hb pins s1 σ H1 Q I1 q1
end
noncomputable def AG (K:W.Frag)(H:Hp)(a:Addr)(xs:List V):Prop :=
 Rd H a (.lst xs) \/
  ∃ (o:Obj) (its:Array Value) (n:Nat),K.lookup a=some o/\o.cls=.type "list"/\o.dict=none/\o.data=.seq its n/\its.size<=sizeLine/\Vals xs its.toList
noncomputable def Ba (K:W.Frag)(H:Hp)(a:Addr)(xs:List V):Prop :=
 Rd H a (.tup xs) \/
  ∃ (o:Obj) (its:Array Value) (n:Nat),K.lookup a=some o/\o.cls=.type "tuple"/\o.data=.seq its n/\its.size<=sizeLine/\Vals xs its.toList
noncomputable def nQ:Value->Option V
 | .none=>some .non
 | .bool b=>some (.bl b)
 | .int i _=>some (.int i)
 | .str x _=>some (.str x)
 | .bytes b _=>some (.byt b)
 | .float b _=>some (.flt b)
 | .ref a=>some (.ref a)
 | .type n=>some (.ty n)
 | _=>none
theorem RelV.abs (r:RelV x u):nQ u=some x:=by
 cases x with
 | non=>cases r;rfl
 | bl _=>cases r;rfl
 | int _=>obtain ⟨t,rfl⟩:=r;rfl
 | str _=>obtain ⟨t,rfl⟩:=r;rfl
 | byt _=>obtain ⟨t,rfl⟩:=r;rfl
 | flt _=>obtain ⟨t,rfl⟩:=r;rfl
 | ref _=>cases r;rfl
 | ty _=>cases r;rfl
theorem RelV.inj (r:RelV x u)(q:RelV y u):x=y:=Option.some.inj (r.abs.symm.trans q.abs)
theorem Vals.inj:∀ {xs ys:List V} {us:List Value},Vals xs us->Vals ys us->xs=ys:=by
 intro xs ys us h
 revert ys
 induction h with
 | nil=>intro ys k;cases k;rfl
 | cons r _ ih =>
  intro ys k;cases k with
  | cons r' t'=>rw [r.inj r',ih t']
section
variable {X:Cx}{pins:List (Addr × Obj)}{σ:St}{H:Hp}{s:Shared}{a:Addr}{xs ys:List V}
theorem AG.of {K:W.Frag}(h:H a=some (.lst xs)):AG K H a xs:=.inl (.inl h)
theorem Ba.of {K:W.Frag}(h:H a=some (.tup xs)):Ba K H a xs:=.inl (.inl h)
theorem Inv.list (I:Inv X pins σ H s)(h:AG X.K H a xs):∃ its:List Value,Vals xs its/\PlainL s.heap a its.toArray/\xs.length<=sizeLine:=by
 rcases h with h | ⟨o,its,n,hk,hc,hd,hs,hz,r⟩
 ·obtain ⟨z,its,n,r,e⟩:=h.ok I.hok;exact ⟨its,r,⟨_,n,e,rfl,rfl,rfl⟩,z⟩
 ·refine ⟨its.toList,r,⟨o,n,I.kIn a o hk,hc,hd,by simpa using hs⟩,?_⟩;have e:=r.length;simp only [Array.length_toList] at e;omega
theorem Inv.tuple (I:Inv X pins σ H s)(h:Ba X.K H a xs):∃ its:List Value,Vals xs its/\IsTup s.heap a its.toArray/\xs.length<=sizeLine:=by
 rcases h with h | ⟨o,its,n,hk,hc,hs,hz,r⟩
 ·obtain ⟨z,its,r,p⟩:=h.ok I.hok;exact ⟨its,r,p,z⟩
 ·refine ⟨its.toList,r,⟨o,I.kIn a o hk,hc,n,by simpa using hs⟩,?_⟩;have e:=r.length;simp only [Array.length_toList] at e;omega
theorem Inv.abb (I:Inv X pins σ H s)(h:AG X.K H a xs)(h':AG X.K H a ys):xs=ys:=by
 obtain ⟨its,r,⟨o,n,e,_,_,d⟩,_⟩:=I.list h;obtain ⟨its',r',⟨o',n',e',_,_,d'⟩,_⟩:=I.list h';rw [e] at e';cases e';rw [d] at d';injection d' with d1 _;have:its=its':=by simpa using congrArg Array.toList d1
 subst this;exact r.inj r'
theorem Inv.aar (I:Inv X pins σ H s)(h:Ba X.K H a xs)(h':Ba X.K H a ys):xs=ys:=by
 obtain ⟨its,r,⟨o,e,_,n,d⟩,_⟩:=I.tuple h;obtain ⟨its',r',⟨o',e',_,n',d'⟩,_⟩:=I.tuple h';rw [e] at e';cases e';rw [d] at d';injection d' with d1 _;have:its=its':=by simpa using congrArg Array.toList d1
 subst this;exact r.inj r'
end
abbrev Cx.abp (X:Cx)(E:Value->Shared->Prop):Cx:={ X with xe:=E }
abbrev Cx.nox (X:Cx):Cx:=X.abp λ_ _=>False
theorem Cx.Ok.abp {X:Cx}(ok:X.Ok)(E:Value->Shared->Prop):(X.abp E).Ok :=
 ⟨ok.mod,ok.kind,ok.glob,ok.blt,ok.above,ok.inj,ok.has,ok.cab,ok.hd,ok.frames,ok.stk,ok.exf,ok.bs,ok.bsz,ok.ab1,ok.ab7,ok.abh,ok.frf⟩
theorem Cx.Ok.aao {X:Cx}{E:Value->Shared->Prop}(ok:(X.abp E).Ok):X.Ok :=
 ⟨ok.mod,ok.kind,ok.glob,ok.blt,ok.above,ok.inj,ok.has,ok.cab,ok.hd,ok.frames,ok.stk,ok.exf,ok.bs,ok.bsz,ok.ab1,ok.ab7,ok.abh,ok.frf⟩
section
variable {X:Cx}{pins:List (Addr × Obj)}{σ:St}{H:Hp}{s:Shared}{E:Value->Shared->Prop}
theorem Inv.abp (I:Inv X pins σ H s)(E:Value->Shared->Prop):Inv (X.abp E) pins σ H s:=⟨I.ok.abp E,I.os,I.bare,I.base,I.loc,I.cell,I.free,I.aaj,I.pin,I.hok,I.len⟩
theorem Inv.aao (I:Inv (X.abp E) pins σ H s):Inv X pins σ H s:=⟨I.ok.aao,I.os,I.bare,I.base,I.loc,I.cell,I.free,I.aaj,I.pin,I.hok,I.len⟩
theorem SP.aao (h:SP (X.abp E) pins D f s'):SP X pins D f s':=by
 cases f with
 | next=>obtain ⟨σ',H',I,q⟩:=h;exact ⟨σ',H',I.aao,q⟩
 | brk=>obtain ⟨σ',H',I,q⟩:=h;exact ⟨σ',H',I.aao,q⟩
 | cont=>obtain ⟨σ',H',I,q⟩:=h;exact ⟨σ',H',I.aao,q⟩
 | ret u=>obtain ⟨v,σ',H',I,r,q⟩:=h;exact ⟨v,σ',H',I.aao,r,q⟩
theorem Nm.nox {st:List Stmt}{t:TS}(h:Nm X.nox st t):Nm X st t:=λpins s σ H D I hw =>
 wpAny_mono (h pins s σ H D (I.abp _) hw) (λ_ _ q=>q.aao) λ_ _ z=>False.elim z
end
section
variable {X:Cx}{st:Stmt}{rest:List Stmt}{t u:TS}{e:Expr}{te:TE}{pos:Pos}
noncomputable def Np:TS:=λD σ H=>D.nx σ H
noncomputable def Bh (t u:TS):TS:=λD σ H=>t { D with nx:=u D } σ H
theorem Nq:Nm X [] Np:=λ_ _ σ H _ I h=>wpAny_execs_nil ⟨σ,H,I,h⟩
theorem EV (h1:PS X st t)(h2:Nm X rest u):Nm X (st::rest) (Bh t u):=by
 intro pins s σ H D I h;refine wpAny_execs_cons (AK (h1 pins s σ H { D with nx:=u D } I h) λf s1 q=>?_);cases f with
 | next =>
  obtain ⟨σ',H',I',q⟩:=q;exact h2 pins s1 σ' H' D I' q
 | ret v=>exact q
 | brk=>exact q
 | cont=>exact q
theorem Gg (h1:PS X st t):Nm X [st] t:=by
 intro pins s σ H D I h;refine wpAny_execs_cons (AK (h1 pins s σ H D I h) λf s1 q=>?_);cases f with
 | next=>exact wpAny_execs_nil q
 | ret v=>exact q
 | brk=>exact q
 | cont=>exact q
noncomputable def Qx:TS:=λD σ H=>D.ct σ H
theorem JY:PS X (.Continue pos) Qx:=λ_ _ σ H _ I h=>wpAny_Continue ⟨σ,H,I,h⟩
theorem Inv.quiet (I:Inv X pins σ H s):interactive X.env=false:=by simp [interactive,I.ok.kind]
noncomputable def Nr (te:TE):TS:=λD σ H=>te σ H λ_ H1=>D.nx σ H1
theorem Uz (he:PE X e te)(hs:swapsWith e none pos.line X.env=pure false:=by rfl):PS X (.Expr e pos) (Nr te):=by
 intro pins s σ H D I h;exact wpAny_Expr_any (AK (he pins s σ H _ I h) λv s1 ⟨x,H1,I1,r1,q1⟩=>⟨σ,H1,I1,q1⟩) I.quiet hs
noncomputable def UA (te:TE):TS:=λD σ H=>te σ H D.rt
theorem IZ (he:PE X e te):PS X (.Return (some e) pos) (UA te):=by
 intro pins s σ H D I h;exact wpAny_Return_some (AK (he pins s σ H _ I h) λv s1 ⟨x,H1,I1,r1,q1⟩=>⟨x,σ,H1,I1,r1,q1⟩)
noncomputable def Qy:TS:=λD _ H=>D.rt .non H
theorem UB:PS X (.Return none pos) Qy:=λ_ _ σ H _ I h=>wpAny_Return_none ⟨.non,σ,H,I,rfl,h⟩
noncomputable def Qz (c:TT)(t u:TS):TS:=λD σ H=>c σ H λb H1=>if b=true then t D σ H1 else u D σ H1
theorem X5 (hc:PT X c tc)(ha:Nm X a t)(hb:Nm X b u):PS X (.If c a b pos) (Qz tc t u):=by
 intro pins s σ H D I h;refine wpAny_If (AK (hc pins s σ H _ I h) λd s1 Au=>?_);obtain ⟨H1,I1,q1⟩:=Au;cases d with
 | true=>exact ha pins s1 σ H1 D I1 q1
 | false=>exact hb pins s1 σ H1 D I1 q1
end
abbrev TG:=V->St->Hp->(St->Hp->Prop)->Prop
abbrev U8:=List V->St->Hp->(St->Hp->Prop)->Prop
noncomputable def PG (X:Cx)(target:Expr)(t:TG):Prop :=
 ∀ (pins:List (Addr × Obj)) (s:Shared) (σ:St) (H:Hp) (v:V) (u:Value) (Q:St->Hp->Prop),Inv X pins σ H s->RelV v u->t v σ H Q ->
  wpAny (model X.prog X.w) X.A (assign target X.env u) (λ_ s'=>∃ σ' H',Inv X pins σ' H' s'/\Q σ' H') X.xe s
noncomputable def eO (X:Cx)(ts:List Expr)(t:U8):Prop :=
 ∀ (pins:List (Addr × Obj)) (s:Shared) (σ:St) (H:Hp) (vs:List V) (us:List Value) (Q:St->Hp->Prop),Inv X pins σ H s->Vals vs us->t vs σ H Q ->
  wpAny (model X.prog X.w) X.A (assignInOrder ((assignEach ts X.env).map (·.2)) us) (λ_ s'=>∃ σ' H',Inv X pins σ' H' s'/\Q σ' H') X.xe s
abbrev QA:=V->V->V->Hp->(Hp->Prop)->Prop
noncomputable def Yl (X:Cx)(t:QA):Prop :=
 ∀ (pins:List (Addr × Obj)) (s:Shared) (σ:St) (H:Hp) (o i v:V) (ov iv u:Value) (Q:Hp->Prop),Inv X pins σ H s->RelV o ov->RelV i iv->RelV v u->t o i v H Q ->
  wpAny (model X.prog X.w) X.A (setItem ov iv u) (λ_ s'=>∃ H',Inv X pins σ H' s'/\Q H') X.xe s
section
variable {X:Cx}{pos:Pos}
noncomputable def BN (i:Nat):TG:=λv σ H Q=>Q (σ.set i (some v)) H
theorem UC (hN:X.N.Nodup)(hi:X.N[i]?=some x)(hx:Loc X.env.scope x)(hf:X.fn x=true\/X.env.scope.names.lookup x=some .local:=by exfalso):PG X (.Name x pos) (BN i):=by
 intro pins s σ H v u Q I r h;exact wpAny_assign_Name (DC I hN hi hx r (λs' I'=>⟨_,H,I',h⟩) hf)
noncomputable def OL:U8:=λvs σ H Q=>vs=[]/\Q σ H
noncomputable def Eg (t:TG)(u:U8):U8:=λvs σ H Q=>∃ v r,vs=v::r/\t v σ H fun σ' H'=>u r σ' H' Q
theorem UD:eO X [] OL:=by
 intro pins s σ H vs us Q I r h;obtain ⟨e,h⟩:=h;subst e;cases r;exact assignInOrder_nil ⟨σ,H,I,h⟩
theorem QC (h1:PG X e t)(h2:eO X es u)(hs:(assignEach (e::es) X.env).map (·.2)=assign e X.env::(assignEach es X.env).map (·.2):=by rfl):eO X (e::es) (Eg t u):=by
 intro pins s σ H vs us Q I r h;obtain ⟨v,vr,e1,h⟩:=h;subst e1;cases r with
 | cons r rr =>
  rw [hs];refine assignInOrder_cons (AK (h1 pins s σ H _ _ _ I r h) λ_ s1 Au=>?_);obtain ⟨σ1,H1,I1,q1⟩:=Au;exact h2 pins s1 σ1 H1 _ _ Q I1 rr q1
noncomputable def OM (K:W.Frag)(n:Nat)(t:U8):TG:=λv σ H Q=>∃ a xs,v=.ref a/\Ba K H a xs/\xs.length=n/\t xs σ H Q
theorem Ym (hc:X.calm=true)(h:eO X es t)(hn:(assignEach es X.env).length=n:=by rfl)(FP:(assignEach es X.env).findIdx? (·.1)=none:=by rfl):PG X (.Tuple es k pos) (OM X.K n t):=by
 intro pins s σ H v u Q I r hw;obtain ⟨a,xs,e1,hq,hl,hw⟩:=hw;subst e1;cases r;obtain ⟨its,rv,ht,hz⟩:=I.tuple hq;refine assign_Tuple_tuple (I.ok.hd hc) ht (by simp [hn,<- hl,rv.length]) FP λh' hx=>?_;have I1:Inv X pins σ H { s with heap:=h' }:=I.kept (t':=s.toks) λb o e=>hx b o (Nat.ne_of_lt (Heap.lt_size e)) e;exact h pins _ σ H xs _ Q I1 (by simpa using rv) hw
noncomputable def Yn (to ti:TE)(t:QA):TG:=λv σ H Q=>to σ H λo H1=>ti σ H1 λi H2=>t o i v H2 λH3=>Q σ H3
theorem Yo (ho:PE X o to)(hi:PE X i ti)(hs:Yl X t)(ha:∀ v,assign (.Subscript o i pos) X.env v=(do
   let ov <- holding [v] (eval o X.env)
   let iv <- holding [v,ov] (eval i X.env)
   standAt pos
   holding [v,ov,iv] (setItem ov iv v)
   release [v,ov,iv] []):=by intro _;rfl):PG X (.Subscript o i pos) (Yn to ti t):=by
 intro pins s σ H v u Q I r h;rw [ha];refine wpAny_bind (wpAny_holding (AK (ho pins s σ H _ I h) λov s1 Au=>?_));obtain ⟨x,H1,I1,r1,q1⟩:=Au;refine wpAny_bind (wpAny_holding (AK (hi pins s1 σ H1 _ I1 q1) λiv s2 Au=>?_));obtain ⟨y,H2,I2,r2,q2⟩:=Au;refine wpAny_bind (wpAny_standAt (wpAny_bind (wpAny_holding (AK (hs pins s2 σ H2 x y v ov iv u _ I2 r1 r2 r q2) λ_ s3 Au=>?_))));obtain ⟨H3,I3,q3⟩:=Au;exact wpAny_release ⟨σ,H3,I3,q3⟩
noncomputable def LG (te:TE)(g:TG):TS:=λD σ H=>te σ H λx H1=>g x σ H1 D.nx
theorem Yp (he:PE X e te)(hg:PG X tg g)(hs:swapsWithSole [tg] e pos.line X.env=pure false:=by rfl)(hw:swappedStores [tg] e X.env=pure none:=by rfl)(h1:(assignEach [tg] X.env).map (·.2)=[assign tg X.env]:=by rfl):PS X (.Assign [tg] e pos) (LG te g):=by
 intro pins s σ H D I h;refine wpAny_Assign_stores (AK (he pins s σ H _ I h) λv s1 Au=>?_) hs hw;obtain ⟨x,H1,I1,r1,q1⟩:=Au;rw [h1];exact AK (hg pins s1 σ H1 x v _ I1 r1 q1) λ_ s2 q=>q
theorem LH (hN:X.N.Nodup)(hi:X.N[i]?=some x)(hx:Loc X.env.scope x)(he:PE X e te)(hs:swapsWith e (some (.Name x pos')) pos.line X.env=pure false:=by rfl)(hf:X.fn x=true\/X.env.scope.names.lookup x=some .local:=by exfalso):
  PS X (.Assign [.Name x pos'] e pos) (LG te (BN i)):=by
 intro pins s σ H D I h;refine wpAny_Assign_Name (AK (he pins s σ H _ I h) λv s1 Au=>?_) hs;obtain ⟨y,H1,I1,r1,q1⟩:=Au;exact DC I1 hN hi hx r1 (λs2 I2=>⟨_,H1,I2,q1⟩) hf
noncomputable def QD (c:TT)(tb:TS):TS:=λD σ H=>∃ W:Nat->St->Hp->Prop,(∃ m,W m σ H)/\∀ m σ H,W m σ H ->
 c σ H λb H1=>if b=true then ∃ N:St->Hp->Prop,(∀ σ' H',N σ' H'->∃ m',m' < m/\W m' σ' H')/\tb { D with nx:=N,ct:=N,bk:=D.nx } σ H1 else D.nx σ H1
theorem QE (hp:PassesOwn (model X.prog X.w) X.A X.env X.xe)(hc:PT X c tc)(hb:Nm X body tb):PS X (.While c body [] pos) (QD tc tb):=by
 intro pins s σ H D I h;obtain ⟨W,⟨m0,w0⟩,turn⟩:=h;refine wpAny_While (codeAny_whileLoop (λn s'=>∃ σ' H',Inv X pins σ' H' s'/\W n σ' H') ?_ m0 ⟨σ,H,I,w0⟩);rintro n s1 ⟨σ1,H1,I1,w1⟩;refine wpAny_passesOwn hp (AK (hc pins s1 σ1 H1 _ I1 (turn n σ1 H1 w1)) λb s2 Au=>?_);obtain ⟨H2,I2,q2⟩:=Au;cases b with
 | true =>
  obtain ⟨N,hN,q2⟩:=q2;rw [if_pos rfl];refine wpAny_passesOwn hp (AK (hb pins s2 σ1 H2 _ I2 q2) λf s3 q3=>?_);cases f with
  | next =>
   obtain ⟨σ3,H3,I3,n3⟩:=q3;obtain ⟨m',hm,w3⟩:=hN σ3 H3 n3;exact ⟨m',hm,σ3,H3,I3,w3⟩
  | cont =>
   obtain ⟨σ3,H3,I3,n3⟩:=q3;obtain ⟨m',hm,w3⟩:=hN σ3 H3 n3;exact ⟨m',hm,σ3,H3,I3,w3⟩
  | brk=>exact q3
  | ret v=>exact q3
 | false =>
  rw [if_neg Bool.false_ne_true];exact wpAny_execs_nil ⟨σ1,H2,I2,q2⟩
end
structure It where
 go:Nat->Hp->Prop
 yld:Nat->Hp->V->Hp->Prop
 stop:Nat->Hp->Prop
noncomputable def GJ (X:Cx)(pins:List (Addr × Obj))(H:Hp)(b:Addr):Prop :=
 H b=none/\b≠X.env.locals/\b∉X.fs/\(b∈X.ex\/X.s₀.heap.objs.size<=b)/\(∀ x c,X.env.cells.lookup x=some c->c≠b)/\∀ p∈X.pn++pins,p.1≠b
theorem Inv.abj (I:Inv X pins σ H s)(hb:s.heap.objs.size<=b)(hn:H' b=none):GJ X pins H' b:=by
 refine ⟨hn,Nat.ne_of_gt (Nat.lt_of_lt_of_le I.lt hb),I.acg hb,.inr (Nat.le_trans I.sz hb),λx c e z=>?_,λp hp z=>?_⟩
 ·obtain ⟨v,q⟩:=I.cell x c e;exact absurd (Nat.lt_of_lt_of_le q.lt (by rw [z];exact hb)) (Nat.lt_irrefl _)
 ·exact absurd (Nat.lt_of_lt_of_le (Heap.lt_size (I.pin p hp).1) (by rw [z];exact hb)) (Nat.lt_irrefl _)
structure Turn (P:Program)(w:World)(K:W.Frag)(tg:Expr)(J:It)(fp:List Addr)(it:Addr)(tn:Nat->Heap->Prop):Prop where
 mem:it∈fp
 obj:∀ i h,tn i h->∀ b∈fp,∃ o,h.get? b=some o/\∀ v,o.data≠.cell v
 keep:∀ i h h',tn i h->(∀ b∈fp,∀ o,h.get? b=some o->h'.get? b=some o)->tn i h'
 item:∀ (X:Cx),X.prog=P->X.w=w->X.K=K->X.calm=true->∀ (i:Nat) (pins:List (Addr × Obj)) (s:Shared) (σ:St) (H:Hp) (E:Value->Shared->Prop),Inv X pins σ H s->(∀ b∈fp,GJ X pins H b)->tn i s.heap->J.go i H ->
  wpAny (model P w) X.A (pyNext (.ref it)) (λr s1=>∃ u,r=some u /\
   wpAny (model P w) X.A (letOwnedTupleGo tg (.ref it) u) (λ_ s2=>∃ x H',Inv X pins σ H' s2/\RelV x u/\J.yld i H x H'/\tn (i+1) s2.heap/\∀ b∈fp,H' b=none) E s1) E s
 done:∀ (X:Cx),X.prog=P->X.w=w->X.K=K->X.calm=true->∀ (i:Nat) (pins:List (Addr × Obj)) (s:Shared) (σ:St) (H:Hp) (E:Value->Shared->Prop),Inv X pins σ H s->(∀ b∈fp,GJ X pins H b)->tn i s.heap->J.stop i H ->
  wpAny (model P w) X.A (pyNext (.ref it)) (λr s1=>r=none/\Inv X pins σ H s1) E s
 self:∀ (A:Around) (i:Nat) (s:Shared) (Q:Value->Shared->Prop) (E:Value->Shared->Prop),tn i s.heap->Q (.ref it) s->wpAny (model P w) A (pyIter (.ref it)) Q E s
abbrev TI:=St->Hp->(It->Hp->Prop)->Prop
noncomputable def v9 (X:Cx)(pins:List (Addr × Obj))(σ:St)(tg:Expr)(R:It->Hp->Prop)(kR:Value)(s2:Shared):Prop :=
 ∃ (it:Addr) (fp:List Addr) (tn:Nat->Heap->Prop) (J:It) (H':Hp),kR=.ref it/\Inv X pins σ H' s2/\Turn X.prog X.w X.K tg J fp it tn/\tn 0 s2.heap/\(∀ b∈fp,GJ X pins H' b)/\R J H'
noncomputable def PI (X:Cx)(tg iter:Expr)(wi:TI):Prop :=
 ∀ (pins:List (Addr × Obj)) (s:Shared) (σ:St) (H:Hp) (R:It->Hp->Prop),Inv X pins σ H s->wi σ H R ->
  wpAny (model X.prog X.w) X.A (eval iter X.env) (λv s1=>wpAny (model X.prog X.w) X.A (pyIter v) (v9 X pins σ tg R) X.xe s1) X.xe s
theorem JZ (ho:s.heap.get? it=some o)(hc:o.cls=.type n)(hd:o.data=.fields vs)(hn:["enumerate","zip","dict_itemiterator","dict_reverseitemiterator","odict_iterator","itertools.zip_longest","itertools.pairwise"].contains n=false)(hQ:Q .unit s):wpAny M A (letOwnedTupleGo tg (.ref it) u) Q E s:=by
  unfold letOwnedTupleGo;cases tg <;> first
    | exact wpAny_pure hQ
    | (cases u <;> first
        | exact wpAny_pure hQ
        | (refine wpAny_bind (wpAny_load ho ?_)
           rw [hc,hd];show wpAny M A (if (["enumerate","zip","dict_itemiterator","dict_reverseitemiterator","odict_iterator","itertools.zip_longest","itertools.pairwise"].contains n && vs[0]?==some (rawInt _))=true then _ else _) Q E s
           rw [if_neg (by intro h;rw [hn,Bool.false_and] at h;cases h)];exact wpAny_pure hQ))
noncomputable def X6 (K:W.Frag)(a:Addr):It :=
 ⟨λi H=>∃ xs x,AG K H a xs/\xs[i]?=some x,λi H x H'=>H'=H/\∀ xs,AG K H a xs->xs[i]?=some x,λi H=>∃ xs,AG K H a xs/\xs.length<=i⟩
noncomputable def Yq (K:W.Frag)(a:Addr):It :=
 ⟨λi H=>∃ xs x,Ba K H a xs/\xs[i]?=some x,λi H x H'=>H'=H/\∀ xs,Ba K H a xs->xs[i]?=some x,λi H=>∃ xs,Ba K H a xs/\xs.length<=i⟩
noncomputable def X7 (lo:Int)(n:Nat):It:=⟨λi _=>i < n,λi H x H'=>H'=H/\x=.int (lo+i),λi _=>n<=i⟩
theorem ON {P:Program}{w:World}{K:W.Frag}{tg:Expr}(a it:Addr):Turn P w K tg (X6 K a) [it] it (λi h=>h.IsListIter it a i) where
 mem:=by simp
 obj:=λi h st b hb=>by
  have e:b=it:=by simpa using hb
  subst e;obtain ⟨o,e,c,d⟩:=st;exact ⟨o,e,λv z=>by rw [d] at z;cases z⟩
 keep:=λi h h' st k=>st.at λo e=>k it (by simp) o e
 item:=by
  intro X hP hw hK hc i pins s σ H E I hf st hg;subst hP hw hK;obtain ⟨xs,x,hq,hx⟩:=hg;obtain ⟨its,rv,p,hz⟩:=I.list hq;obtain ⟨u,hu,ru⟩:=rv.get hx;obtain ⟨f0,f1,f2,f3,f4,f5⟩:=hf it (by simp);refine wpAny_pyNext_list_item st p.isList (x:=u) (by simpa using hu) λh' HU sb=>?_;have I1:Inv X pins σ H { s with heap:=h' }:=I.turned (t':=s.toks) (λb o hb e=>(sb.2 b hb).trans e) f0 f1 f3 f4 f5;obtain ⟨o,e,c,d⟩:=id HU;exact ⟨u,rfl,JZ (s:={ s with heap:=h' }) e c d ⟨⟩ ⟨x,H,I1,ru,⟨rfl,λys hy=>by rw [I.abb hy hq];exact hx⟩,HU,λb hb=>(hf b hb).1⟩⟩
 done:=by
  intro X hP hw hK hc i pins s σ H E I hf st hg;subst hP hw hK;obtain ⟨xs,hq,hx⟩:=hg;obtain ⟨its,rv,p,hz⟩:=I.list hq;obtain ⟨f0,f1,f2,f3,f4,f5⟩:=hf it (by simp);have hl:=rv.length;exact wpAny_pyNext_list_end (I.ok.hd hc) st p.isList (by simp;omega) λh' eb=>⟨rfl,I.turned (t':=s.toks) (λb o hb e=>eb b o hb e) f0 f1 f3 f4 f5⟩
 self:=λ_ _ _ _ _ st h=>wpAny_pyIter_listiter st h
theorem LI {P:Program}{w:World}{K:W.Frag}{tg:Expr}(a it:Addr):Turn P w K tg (Yq K a) [it] it (λi h=>h.IsTupleIter it a i) where
 mem:=by simp
 obj:=λi h st b hb=>by
  have e:b=it:=by simpa using hb
  subst e;obtain ⟨o,e,c,d⟩:=st;exact ⟨o,e,λv z=>by rw [d] at z;cases z⟩
 keep:=λi h h' st k=>st.at λo e=>k it (by simp) o e
 item:=by
  intro X hP hw hK hc i pins s σ H E I hf st hg;subst hP hw hK;obtain ⟨xs,x,hq,hx⟩:=hg;obtain ⟨its,rv,p,hz⟩:=I.tuple hq;obtain ⟨u,hu,ru⟩:=rv.get hx;obtain ⟨f0,f1,f2,f3,f4,f5⟩:=hf it (by simp);refine wpAny_pyNext_tuple_item st (show s.heap.IsTuple a its.toArray from p) (x:=u) (by simpa using hu) λh' HU sb=>?_;have I1:Inv X pins σ H { s with heap:=h' }:=I.turned (t':=s.toks) (λb o hb e=>(sb.2 b hb).trans e) f0 f1 f3 f4 f5;obtain ⟨o,e,c,d⟩:=id HU;exact ⟨u,rfl,JZ (s:={ s with heap:=h' }) e c d ⟨⟩ ⟨x,H,I1,ru,⟨rfl,λys hy=>by rw [I.aar hy hq];exact hx⟩,HU,λb hb=>(hf b hb).1⟩⟩
 done:=by
  intro X hP hw hK hc i pins s σ H E I hf st hg;subst hP hw hK;obtain ⟨xs,hq,hx⟩:=hg;obtain ⟨its,rv,p,hz⟩:=I.tuple hq;obtain ⟨f0,f1,f2,f3,f4,f5⟩:=hf it (by simp);have hl:=rv.length;exact wpAny_pyNext_tuple_end (I.ok.hd hc) st (show s.heap.IsTuple a its.toArray from p) (by simp;omega) λh' eb=>⟨rfl,I.turned (t':=s.toks) (λb o hb e=>eb b o hb e) f0 f1 f3 f4 f5⟩
 self:=λ_ _ _ _ _ st h=>wpAny_pyIter_tupleiter st h
theorem LJ {P:Program}{w:World}{K:W.Frag}{tg:Expr}(it:Addr)(lo:Int)(n:Nat):Turn P w K tg (X7 lo n) [it] it (λi h=>IsRangeIter h it (lo+(i:Nat) * 1) ((n:Int) - (i:Nat)) 1) where
 mem:=by simp
 obj:=λi h st b hb=>by
  have e:b=it:=by simpa using hb
  subst e;exact ⟨_,st,λv z=>by
   have z':Data.fields _=Data.cell v:=z;cases z'⟩
 keep:=λi h h' st k=>k it (by simp) _ st
 item:=by
  intro X hP hw hK hc i pins s σ H E I hf st hg;subst hP hw hK;obtain ⟨f0,f1,f2,f3,f4,f5⟩:=hf it (by simp);have W:=Walks.range (prog:=X.prog) (w:=X.w) (I.ok.hd hc) it lo 1 n;refine W.item i s _ _ hg st λv h' tk hv HU kk=>?_;obtain ⟨t,rfl⟩:=hv;have I1:Inv X pins σ H { s with heap:=h',toks:=tk }:=I.turned (λb o hb e=>kk b o (by simpa using hb) e) f0 f1 f3 f4 f5;refine ⟨_,rfl,JZ (s:={ s with heap:=h',toks:=tk }) (n:="range_iterator") HU rfl rfl ⟨⟩ ⟨.int (lo+i),H,I1,⟨t,?_⟩,⟨rfl,rfl⟩,HU,λb hb=>(hf b hb).1⟩⟩;rw [Int.mul_one]
 done:=by
  intro X hP hw hK hc i pins s σ H E I hf st hg;subst hP hw hK;obtain ⟨f0,f1,f2,f3,f4,f5⟩:=hf it (by simp);exact wpAny_pyNext_range_end (I.ok.hd hc) st (by have:n<=i:=hg;omega) λh' eb=>⟨rfl,I.turned (t':=s.toks) (λb o hb e=>eb b o hb e) f0 f1 f3 f4 f5⟩
 self:=λ_ _ _ _ _ st h=>wpAny_pyIter_rangeiter st h
section
variable {X:Cx}{tg:Expr}
noncomputable def Nu (K:W.Frag)(tl:TE):TI:=fun σ H R=>tl σ H λx H1=>∃ a,x=.ref a/\(∃ xs,AG K H1 a xs)/\R (X6 K a) H1
noncomputable def Yr (K:W.Frag)(tl:TE):TI:=fun σ H R=>tl σ H λx H1=>∃ a,x=.ref a/\(∃ xs,Ba K H1 a xs)/\R (Yq K a) H1
theorem UE (hl:PE X l tl):PI X tg l (Nu X.K tl):=by
 intro pins s σ H R I h;refine AK (hl pins s σ H _ I h) λv s1 Au=>?_;obtain ⟨x,H1,I1,r1,q1⟩:=Au;obtain ⟨a,e,⟨xs,hq⟩,q⟩:=q1;subst e;cases r1;obtain ⟨its,rv,p,hz⟩:=I1.list hq;refine wpAny_pyIter_list p.isList ?_;refine ⟨s1.heap.objs.size,[s1.heap.objs.size],_,_,H1,rfl,I1.kept (t':=s1.toks) λb o e=>Heap.get?_push_of_some _ e,ON a _,⟨_,Heap.get?_push_size _ rfl,rfl,rfl⟩,λb hb=>?_,q⟩;have e:b=s1.heap.objs.size:=by simpa using hb
 subst e;exact I1.abj (Nat.le_refl _) (I1.hok.fresh (Nat.le_refl _))
theorem Ys (hl:PE X l tl):PI X tg l (Yr X.K tl):=by
 intro pins s σ H R I h;refine AK (hl pins s σ H _ I h) λv s1 Au=>?_;obtain ⟨x,H1,I1,r1,q1⟩:=Au;obtain ⟨a,e,⟨xs,hq⟩,q⟩:=q1;subst e;cases r1;obtain ⟨its,rv,p,hz⟩:=I1.tuple hq;refine wpAny_pyIter_tuple (show s1.heap.IsTuple a its.toArray from p) ?_;refine ⟨s1.heap.objs.size,[s1.heap.objs.size],_,_,H1,rfl,I1.kept (t':=s1.toks) λb o e=>Heap.get?_push_of_some _ e,LI a _,⟨_,Heap.get?_push_size _ rfl,rfl,rfl⟩,λb hb=>?_,q⟩;have e:b=s1.heap.objs.size:=by simpa using hb
 subst e;exact I1.abj (Nat.le_refl _) (I1.hok.fresh (Nat.le_refl _))
theorem J' {pins:List (Addr × Obj)}{σ:St}{H:Hp}{s:Shared}{R:It->Hp->Prop}{E:Value->Shared->Prop}{lo hi:Int}{t u v:Tok}{tk:Nat}(I:Inv X pins σ H s)(h1:-(2 ^ 62)<=lo)(h2:lo < 2 ^ 62)(h3:-(2 ^ 62)<=hi)(h4:hi < 2 ^ 62)
  (q:R (X7 lo (hi - lo).toNat) H):wpAny (model X.prog X.w) X.A (pyIter (.ref s.heap.objs.size)) (v9 X pins σ tg R) E { s with heap:=s.heap.push { cls:=.type "range",data:=.fields #[.int lo t,.int hi u,.int 1 v] },toks:=tk }:=by
 refine wpAny_pyIter_range (IsRange.new ..) (small_one h1 h2 h3 h4) ?_;have I1:Inv X pins σ H { s with heap:=s.heap.push { cls:=.type "range",data:=.fields #[.int lo t,.int hi u,.int 1 v] },toks:=tk }:=I.kept λb o e=>Heap.get?_push_of_some _ e;refine ⟨(s.heap.push { cls:=.type "range",data:=.fields #[.int lo t,.int hi u,.int 1 v] }).objs.size,[(s.heap.push { cls:=.type "range",data:=.fields #[.int lo t,.int hi u,.int 1 v] }).objs.size],_,_,H,rfl,
  I1.kept (t':=tk) λb o e=>Heap.get?_push_of_some _ e,LJ _ lo (hi - lo).toNat,?_,λb hb=>?_,q⟩
 ·have e1:lo+((0:Nat):Int) * 1=lo:=by simp
  have e2:(((hi - lo).toNat:Nat):Int) - ((0:Nat):Int)=Builtin.Range.rangeSize lo hi 1:=by rw [rangeSize_one];split <;> omega
  show IsRangeIter _ _ (lo+((0:Nat):Int) * 1) ((((hi - lo).toNat:Nat):Int) - ((0:Nat):Int)) 1;rw [e1,e2];exact Heap.get?_push_size _ rfl
 ·have e:b=(s.heap.push { cls:=.type "range",data:=.fields #[.int lo t,.int hi u,.int 1 v] }).objs.size:=by simpa using hb
  subst e;exact I1.abj (Nat.le_refl _) (I1.hok.fresh (Nat.le_refl _))
noncomputable def X8 (ta:TA):TI:=fun σ H R=>ta σ H λvs H1=>∃ j:Int,vs=[.int j]/\-(2 ^ 62)<=j/\j < 2 ^ 62/\R (X7 0 j.toNat) H1
noncomputable def X9 (ta:TA):TI:=fun σ H R=>ta σ H λvs H1=>∃ i j:Int,vs=[.int i,.int j]/\(-(2 ^ 62)<=i/\i < 2 ^ 62/\-(2 ^ 62)<=j/\j < 2 ^ 62)/\R (X7 i (j - i).toNat) H1
theorem OO (hg:Gl X "range")(hm:X.mg "range"=none)(ha:PA X [a] ta)(hs:starEach [a] X.env=[(false,eval a X.env)]:=by rfl):PI X tg (.Call (.Name "range" p) [a] [] pos) (X8 ta):=by
 intro pins s σ H R I h;refine Call_ (D6 I hg hm boot_range (PyProof.Rows.callWith_type1 (AK (ha pos pins s σ H _ I h) λus s1 Au=>?_) hs rfl));obtain ⟨vs,H1,I1,r1,q1⟩:=Au;obtain ⟨j,e,q1,q2,q⟩:=q1;subst e;cases r1 with
 | cons r rr =>
  cases rr;obtain ⟨t,rfl⟩:=r;exact call_range_1 (J' I1 () () q1 q2 (by simpa using q))
theorem OQ (hg:Gl X "range")(hm:X.mg "range"=none)(ha:PA X [a,b] ta)(hs:starEach [a,b] X.env=[(false,eval a X.env),(false,eval b X.env)]:=by rfl)(QF:starEach [b] X.env=[(false,eval b X.env)]:=by rfl):
  PI X tg (.Call (.Name "range" p) [a,b] [] pos) (X9 ta):=by
 intro pins s σ H R I h;refine Call_ (D6 I hg hm boot_range (PyProof.Rows.callWith_type1 (AK (ha pos pins s σ H _ I h) λus s1 Au=>?_) (by rw [hs,QF]) (by rw [QF];rfl)));obtain ⟨vs,H1,I1,r1,q1⟩:=Au;obtain ⟨i,j,e,⟨q1,q2,q3,q4⟩,q⟩:=q1;subst e;cases r1 with
 | cons r rr =>
  cases rr with
  | cons r' rr =>
   cases rr;obtain ⟨t,rfl⟩:=r;obtain ⟨t',rfl⟩:=r';exact call_range_2 (J' I1 q1 q2 q3 q4 q)
noncomputable def QG (wi:TI)(g:TG)(tb:TS):TS:=λD σ H=>wi σ H λJ H1=>∃ W:Nat->Nat->St->Hp->Prop,(∃ m,W 0 m σ H1)/\∀ i m σ H,W i m σ H ->
 (J.stop i H/\D.nx σ H)\/(J.go i H/\∃ N:St->Hp->Prop,(∀ σ' H',N σ' H'->∃ m',m' < m/\W (i+1) m' σ' H')/\∀ x H',J.yld i H x H'->g x σ H' fun σ2 H2=>tb { D with nx:=N,ct:=N,bk:=D.nx } σ2 H2)
noncomputable def GK (fp:List Addr)(h:Heap):List (Addr × Obj):=fp.filterMap λb=>(h.get? b).map λo=>(b,o)
theorem Dj (hb:b∈fp)(e:h.get? b=some o):(b,o)∈GK fp h:=List.mem_filterMap.mpr ⟨b,hb,by rw [e];rfl⟩
theorem OR (hp:p∈GK fp h):p.1∈fp/\h.get? p.1=some p.2:=by
 obtain ⟨b,hb,e⟩:=List.mem_filterMap.mp hp;cases q:h.get? b with
 | none=>rw [q] at e;cases e
 | some o =>
  rw [q] at e;have e':(b,o)=p:=Option.some.inj e;subst e';exact ⟨hb,q⟩
theorem Inv.pinned (I:Inv X pins σ H s)(hf:∀ b∈fp,GJ X pins H b)(ho:∀ b∈fp,∃ o,s.heap.get? b=some o/\∀ v,o.data≠.cell v):Inv X (pins++GK fp s.heap) σ H s :=
 I.aau λp hp=>(List.mem_append.mp hp).elim (λz=>I.pin p (List.mem_append_right _ z)) λz=>by
  obtain ⟨hb,e⟩:=OR z;obtain ⟨f0,f1,f2,_⟩:=hf p.1 hb;obtain ⟨o,e',d⟩:=ho p.1 hb;rw [e] at e';cases e';exact ⟨e,f0,f1,f2,d⟩
theorem Inv.aav (I:Inv X (pins++pl) σ H s):Inv X pins σ H s:=I.aau λp hp=>I.pin p (List.mem_append_right _ (List.mem_append_left _ hp))
theorem Yt (hp:PassesOwn (model X.prog X.w) X.A X.env X.xe)(hc:X.calm=true)(hi:PI X tg iter wi)(hg:PG X tg g)(hb:Nm X body tb)(hs:∀ x,foldedSetIterable iter X.env x=pure x:=by intro _;rfl):PS X (.For tg iter body [] pos) (QG wi g tb):=by
 intro pins s σ H D I h;refine wpAny_For (AK (hi pins s σ H _ I h) λv s1 h1=>AK h1 λkR s2 h2=>?_) hs;obtain ⟨it,fp,tn,J,H2,e,I2,T,K0,f2,W,⟨m0,w0⟩,turn⟩:=h2;subst e;have Yu:∀ {H':Hp},(∀ b∈fp,H' b=none)->∀ b∈fp,GJ X pins H' b:=λhn b hb=>⟨hn b hb,(f2 b hb).2⟩;refine codeAny_forLoop_any (λn s'=>∃ i σ' H',Inv X pins σ' H' s'/\tn i s'.heap/\(∀ b∈fp,H' b=none)/\W i n σ' H') ?_ m0 ⟨0,σ,H2,I2,K0,λb hb=>(f2 b hb).1,w0⟩;rintro n s3 ⟨i,σ3,H3,I3,eP,eQ,w3⟩;rcases turn i n σ3 H3 w3 with ⟨stop,qn⟩ | ⟨go,N,hN,step⟩
 ·refine wpAny_passesOwn hp (AK (T.done X rfl rfl rfl hc i pins s3 σ3 H3 X.xe I3 (Yu eQ) eP stop) λr s4 Au=>?_);obtain ⟨hr,I4⟩:=Au;subst hr;exact wpAny_execs_nil ⟨σ3,H3,I4,qn⟩
 ·refine wpAny_passesOwn hp (AK (T.item X rfl rfl rfl hc i pins s3 σ3 H3 X.xe I3 (Yu eQ) eP go) λr s4 Au=>?_);obtain ⟨u,hr,h4⟩:=Au;subst hr;refine wpAny_passesOwn hp (AK h4 λ_ s5 Au=>?_);obtain ⟨x,H5,I5,r5,y5,Yv,nR⟩:=Au;have nU:=I5.pinned (Yu nR) (T.obj _ _ Yv);refine wpAny_passesOwn hp (AK (hg _ s5 σ3 H5 x u _ nU r5 (step x H5 y5)) λ_ s6 Au=>?_);obtain ⟨σ6,H6,I6,q6⟩:=Au;refine wpAny_passesOwn hp (AK (hb _ s6 σ6 H6 _ I6 q6) λf s7 q7=>?_);have again:∀ {σ7:St} {H7:Hp},Inv X (pins++GK fp s5.heap) σ7 H7 s7->N σ7 H7->∃ m,m < n/\∃ i σ' H',Inv X pins σ' H' s7/\tn i s7.heap/\(∀ b∈fp,H' b=none)/\W i m σ' H':=λ{σ7 H7} I7 n7=>by
   obtain ⟨m',hm,w7⟩:=hN σ7 H7 n7;refine ⟨m',hm,i+1,σ7,H7,I7.aav,T.keep _ _ _ Yv λb hb o e=>(I7.pin (b,o) (List.mem_append_right _ (List.mem_append_right _ (Dj hb e)))).1,λb hb=>?_,w7⟩;obtain ⟨o,e,d⟩:=T.obj _ _ Yv b hb;exact (I7.pin (b,o) (List.mem_append_right _ (List.mem_append_right _ (Dj hb e)))).2.1
  cases f with
  | next=>obtain ⟨σ7,H7,I7,n7⟩:=q7;exact again I7 n7
  | cont=>obtain ⟨σ7,H7,I7,n7⟩:=q7;exact again I7 n7
  | brk=>obtain ⟨σ7,H7,I7,q7⟩:=q7;exact ⟨σ7,H7,I7.aav,q7⟩
  | ret v=>obtain ⟨x7,σ7,H7,I7,r7,q7⟩:=q7;exact ⟨x7,σ7,H7,I7.aav,r7,q7⟩
end
theorem QH {K:W.Frag}{a:Addr}{xs:List V}{g:TG}{tb:TS}{D:Ends}{σ:St}{H:Hp}(Pv:Nat->St->Hp->Prop)(h0:Pv 0 σ H)(hl:∀ i σ H,i<=xs.length->Pv i σ H->AG K H a xs)
  (hs:∀ i x σ H,xs[i]?=some x->Pv i σ H->g x σ H fun σ2 H2=>tb { D with nx:=Pv (i+1),ct:=Pv (i+1),bk:=D.nx } σ2 H2) (hd:∀ σ H,Pv xs.length σ H->D.nx σ H) :
  ∃ W:Nat->Nat->St->Hp->Prop,(∃ m,W 0 m σ H)/\∀ i m σ H,W i m σ H ->
   ((X6 K a).stop i H/\D.nx σ H)\/((X6 K a).go i H/\∃ N:St->Hp->Prop,(∀ σ' H',N σ' H'->∃ m',m' < m/\W (i+1) m' σ' H')/\∀ x H',(X6 K a).yld i H x H'->g x σ H' fun σ2 H2=>tb { D with nx:=N,ct:=N,bk:=D.nx } σ2 H2):=by
 refine ⟨λi m σ H=>m=xs.length - i/\i<=xs.length/\Pv i σ H,⟨xs.length,by simp,Nat.zero_le _,h0⟩,?_⟩;rintro i m σ H ⟨rfl,hi,p⟩;have q:=hl i σ H hi p;by_cases CT:i < xs.length
 ·refine .inr ⟨⟨xs,xs[i],q,by simp [CT]⟩,Pv (i+1),fun σ' H' p'=>⟨xs.length - (i+1),(),rfl,CT,p'⟩,λx H' y=>?_⟩;obtain ⟨e,y⟩:=y;subst e;exact hs i x σ _ (y xs q) p
 ·have e:i=xs.length:=by omega
  subst e;exact .inl ⟨⟨xs,q,Nat.le_refl _⟩,hd σ H p⟩
theorem Nv {K:W.Frag}{a:Addr}{xs:List V}{g:TG}{tb:TS}{D:Ends}{σ:St}{H:Hp}(Pv:Nat->St->Hp->Prop)(h0:Pv 0 σ H)(hl:∀ i σ H,i<=xs.length->Pv i σ H->Ba K H a xs)
  (hs:∀ i x σ H,xs[i]?=some x->Pv i σ H->g x σ H fun σ2 H2=>tb { D with nx:=Pv (i+1),ct:=Pv (i+1),bk:=D.nx } σ2 H2) (hd:∀ σ H,Pv xs.length σ H->D.nx σ H) :
  ∃ W:Nat->Nat->St->Hp->Prop,(∃ m,W 0 m σ H)/\∀ i m σ H,W i m σ H ->
   ((Yq K a).stop i H/\D.nx σ H)\/((Yq K a).go i H/\∃ N:St->Hp->Prop,(∀ σ' H',N σ' H'->∃ m',m' < m/\W (i+1) m' σ' H')/\∀ x H',(Yq K a).yld i H x H'->g x σ H' fun σ2 H2=>tb { D with nx:=N,ct:=N,bk:=D.nx } σ2 H2):=by
 refine ⟨λi m σ H=>m=xs.length - i/\i<=xs.length/\Pv i σ H,⟨xs.length,by simp,Nat.zero_le _,h0⟩,?_⟩;rintro i m σ H ⟨rfl,hi,p⟩;have q:=hl i σ H hi p;by_cases CT:i < xs.length
 ·refine .inr ⟨⟨xs,xs[i],q,by simp [CT]⟩,Pv (i+1),fun σ' H' p'=>⟨xs.length - (i+1),(),rfl,CT,p'⟩,λx H' y=>?_⟩;obtain ⟨e,y⟩:=y;subst e;exact hs i x σ _ (y xs q) p
 ·have e:i=xs.length:=by omega
  subst e;exact .inl ⟨⟨xs,q,Nat.le_refl _⟩,hd σ H p⟩
theorem OS {lo:Int}{n:Nat}{g:TG}{tb:TS}{D:Ends}{σ:St}{H:Hp}(Pv:Nat->St->Hp->Prop)(h0:Pv 0 σ H)
  (hs:∀ i σ H,i < n->Pv i σ H->g (.int (lo+i)) σ H fun σ2 H2=>tb { D with nx:=Pv (i+1),ct:=Pv (i+1),bk:=D.nx } σ2 H2) (hd:∀ σ H,Pv n σ H->D.nx σ H) :
  ∃ W:Nat->Nat->St->Hp->Prop,(∃ m,W 0 m σ H)/\∀ i m σ H,W i m σ H ->
   ((X7 lo n).stop i H/\D.nx σ H)\/((X7 lo n).go i H/\∃ N:St->Hp->Prop,(∀ σ' H',N σ' H'->∃ m',m' < m/\W (i+1) m' σ' H')/\∀ x H',(X7 lo n).yld i H x H'->g x σ H' fun σ2 H2=>tb { D with nx:=N,ct:=N,bk:=D.nx } σ2 H2):=by
 refine ⟨λi m σ H=>m=n - i/\i<=n/\Pv i σ H,⟨n,by simp,Nat.zero_le _,h0⟩,?_⟩;rintro i m σ H ⟨rfl,hi,p⟩;by_cases CT:i < n
 ·refine .inr ⟨CT,Pv (i+1),fun σ' H' p'=>⟨n - (i+1),(),rfl,CT,p'⟩,λx H' y=>?_⟩;obtain ⟨e,y⟩:=y;subst e y;exact hs i σ _ CT p
 ·have e:i=n:=by omega
  subst e;exact .inl ⟨Nat.le_refl _,hd σ H p⟩
abbrev R2:=V->V->Hp->VK->Prop
noncomputable def Ee (X:Cx)(f:Value->Value->Sem Value)(r:R2):Prop :=
 ∀ (pins:List (Addr × Obj)) (s:Shared) (σ:St) (H:Hp) (x y:V) (v u:Value) (Q:VK),Inv X pins σ H s->RelV x v->RelV y u->r x y H Q ->
  wpAny (model X.prog X.w) X.A (f v u) (EP X pins σ Q) X.xe s
noncomputable def kS (X:Cx)(f:Value->Sem Value)(r:V->Hp->VK->Prop):Prop :=
 ∀ (pins:List (Addr × Obj)) (s:Shared) (σ:St) (H:Hp) (x:V) (v:Value) (Q:VK),Inv X pins σ H s->RelV x v->r x H Q ->
  wpAny (model X.prog X.w) X.A (f v) (EP X pins σ Q) X.xe s
noncomputable def CB (X:Cx)(f:Value)(r:List V->Hp->VK->Prop):Prop :=
 ∀ (pins:List (Addr × Obj)) (s:Shared) (σ:St) (H:Hp) (xs:List V) (us:List Value) (Q:VK),Inv X pins σ H s->Vals xs us->r xs H Q ->
  wpAny (model X.prog X.w) X.A (call f us) (EP X pins σ Q) X.xe s
noncomputable def nV (X:Cx)(r:V->Hp->(Bool->Hp->Prop)->Prop):Prop :=
 ∀ (pins:List (Addr × Obj)) (s:Shared) (σ:St) (H:Hp) (x:V) (v:Value) (Q:Bool->Hp->Prop),Inv X pins σ H s->RelV x v->r x H Q ->
  wpAny (model X.prog X.w) X.A (truthy v) (TP X pins σ Q) X.xe s
noncomputable def FQ (r:R2)(ta tb:TE):TE:=fun σ H Q=>ta σ H λx H1=>tb σ H1 λy H2=>r x y H2 Q
noncomputable def nX (r:V->Hp->VK->Prop)(ta:TE):TE:=fun σ H Q=>ta σ H λx H1=>r x H1 Q
noncomputable def rI (C:Int->Int->Prop)(g:Int->Int->V):R2:=λx y H Q=>∃ i j,x=.int i/\y=.int j/\C i j/\Q (g i j) H
noncomputable def QI (g:Int->Int->V):R2:=λx y H Q=>∃ i j,x=.int i/\y=.int j/\Q (g i j) H
noncomputable def rU (g:Int->V):V->Hp->VK->Prop:=λx H Q=>∃ i,x=.int i/\Q (g i) H
section
variable {X:Cx}{a b c:Expr}{ta tb tc:TE}{pos:Pos}
theorem Yw (ha:PE X a ta)(hb:PE X b tb){pins:List (Addr × Obj)}{s:Shared}{σ:St}{H:Hp}{R:V->V->Hp->Prop}(I:Inv X pins σ H s)
  (h:ta σ H λx H1=>tb σ H1 λy H2=>R x y H2) {Q:Value->Shared->Prop} {f:Value->Value->Sem Value}
  (hf:∀ v u s2 x y H2,Inv X pins σ H2 s2->RelV x v->RelV y u->R x y H2->wpAny (model X.prog X.w) X.A (f v u) Q X.xe s2) :
  wpAny (model X.prog X.w) X.A (eval a X.env) (λv s₁=>wpAny (model X.prog X.w) X.A (eval b X.env) (λu s₂=>wpAny (model X.prog X.w) X.A (f v u) Q X.xe s₂) X.xe s₁) X.xe s:=by
 refine AK (ha pins s σ H _ I h) λv s1 Au=>?_;obtain ⟨x,H1,I1,r1,q1⟩:=Au;refine AK (hb pins s1 σ H1 _ I1 q1) λu s2 Au=>?_;obtain ⟨y,H2,I2,r2,q2⟩:=Au;exact hf v u s2 x y H2 I2 r1 r2 q2
theorem Dv (ho:Ee X (binaryOp op) r)(ha:PE X a ta)(hb:PE X b tb):PE X (.BinOp a op b pos) (FQ r ta tb):=by
 intro pins s σ H Q I h;exact wpAny_BinOp (Yw ha hb I h λv u s2 x y H2 I2 rx ry q=>ho pins s2 σ H2 x y v u Q I2 rx ry q)
theorem eR (ho:kS X (unaryOp op) r)(ha:PE X a ta):PE X (.UnaryOp op a pos) (nX r ta):=by
 intro pins s σ H Q I h;exact UnaryOp_ (AK (ha pins s σ H _ I h) λv s1 ⟨x,H1,I1,r1,q1⟩=>ho pins s1 σ H1 x v Q I1 r1 q1)
theorem kT {f:Value->Value->Sem Value}{C:Int->Int->Prop}{g:Int->Int->Int}
  (rule:∀ (i j:Int) (t u:Tok) (s:Shared) (Q:Value->Shared->Prop) (E:Value->Shared->Prop),C i j->Q (.int (g i j) s.toks) { s with toks:=s.toks+1 }->wpAny (model X.prog X.w) X.A (f (.int i t) (.int j u)) Q E s) :
  Ee X f (rI C λi j=>.int (g i j)):=by
 intro pins s σ H x y v u Q I rx ry h;obtain ⟨i,j,rfl,rfl,hc,q⟩:=h;obtain ⟨t,rfl⟩:=rx;obtain ⟨t',rfl⟩:=ry;exact rule i j t t' s _ _ hc ⟨.int (g i j),H,I.tok _,⟨_,rfl⟩,q⟩
theorem eS {f:Value->Value->Sem Value}{g:Int->Int->Int}
  (rule:∀ (i j:Int) (t u:Tok) (s:Shared) (Q:Value->Shared->Prop) (E:Value->Shared->Prop),Q (.int (g i j) s.toks) { s with toks:=s.toks+1 }->wpAny (model X.prog X.w) X.A (f (.int i t) (.int j u)) Q E s) :
  Ee X f (QI λi j=>.int (g i j)):=by
 intro pins s σ H x y v u Q I rx ry h;obtain ⟨i,j,rfl,rfl,q⟩:=h;obtain ⟨t,rfl⟩:=rx;obtain ⟨t',rfl⟩:=ry;exact rule i j t t' s _ _ ⟨.int (g i j),H,I.tok _,⟨_,rfl⟩,q⟩
theorem Yx {f:Value->Value->Sem Value}{g:Int->Int->Bool}
  (rule:∀ (i j:Int) (t u:Tok) (s:Shared) (Q:Value->Shared->Prop) (E:Value->Shared->Prop),Q (.bool (g i j)) s->wpAny (model X.prog X.w) X.A (f (.int i t) (.int j u)) Q E s) :
  Ee X f (QI λi j=>.bl (g i j)):=by
 intro pins s σ H x y v u Q I rx ry h;obtain ⟨i,j,rfl,rfl,q⟩:=h;obtain ⟨t,rfl⟩:=rx;obtain ⟨t',rfl⟩:=ry;exact rule i j t t' s _ _ ⟨.bl (g i j),H,I,rfl,q⟩
noncomputable def nY (i j:Int):Prop:=0 < j/\j < 1073741824
noncomputable def nZ (i j:Int):Prop:=0<=j/\j<=1000000/\i.natAbs < 2 ^ 64
noncomputable def UG (i j:Int):Prop:=(-(2 ^ 64) < i/\i < 2 ^ 64)\/(-(2 ^ 64) < j/\j < 2 ^ 64)
theorem UG.ok (h:UG i j):IntMulOk i j:=by
 rcases h with ⟨h1,h2⟩ | ⟨h1,h2⟩
 ·exact .of_left (intBits_le_64 h1 h2)
 ·exact .of_right (intBits_le_64 h1 h2)
theorem AH:Ee X (binaryOp .Add) (QI λi j=>.int (i+j)):=eS λ_ _ _ _ _ _ _ q=>add_int q
theorem Cn:Ee X (binaryOp .Sub) (QI λi j=>.int (i - j)):=eS λ_ _ _ _ _ _ _ q=>sub_int q
theorem B1:Ee X (binaryOp .Mult) (rI UG λi j=>.int (i * j)):=kT λ_ _ _ _ _ _ _ hc q=>mul_int q hc.ok
theorem Br:Ee X (binaryOp .FloorDiv) (rI nY λi j=>.int (i / j)):=kT λi j _ _ _ _ _ hc q=>by
 have h1:(0:Int) < j:=hc.1;have h2:j < 1073741824:=hc.2;exact floordiv_int () (by rw [Int.fdiv_eq_ediv_of_nonneg i ()];exact q) (.inl (PyProof.noPylong_small ()))
theorem AB:Ee X (binaryOp .Mod) (rI (λ_ j=>0 < j) λi j=>.int (i % j)):=kT λi j _ _ _ _ _ hc q=>by
 have h1:(0:Int) < j:=hc;exact mod_int' () (by rw [Int.fmod_eq_emod_of_nonneg i ()];exact q)
theorem QJ:Ee X (binaryOp .Pow) (rI nZ λi j=>.int (i ^ j.toNat)):=kT λ_ _ _ _ _ _ _ hc q=>pow_int_small hc.1 hc.2.1 hc.2.2 q
theorem yt {f:Value->Sem Value}{g:Int->Int}
  (rule:∀ (i:Int) (t:Tok) (s:Shared) (Q:Value->Shared->Prop) (E:Value->Shared->Prop),Q (.int (g i) s.toks) { s with toks:=s.toks+1 }->wpAny (model X.prog X.w) X.A (f (.int i t)) Q E s) :
  kS X f (rU λi=>.int (g i)):=by
 intro pins s σ H x v Q I rx h;obtain ⟨i,rfl,q⟩:=h;obtain ⟨t,rfl⟩:=rx;exact rule i t s _ _ ⟨.int (g i),H,I.tok _,⟨_,rfl⟩,q⟩
theorem DD:kS X (unaryOp .USub) (rU λi=>.int (-i)):=yt λ_ _ _ _ _ q=>neg_int q
end
noncomputable def UH:V->V->Bool
 | .non,.non=>true | .non,.int _=>true | .int _,.non=>true | .non,.bl _=>true | .bl _,.non=>true | .non,.str _=>true | .str _,.non=>true
 | .int _,.int _=>true | .bl _,.bl _=>true | .str _,.str _=>true | .byt _,.byt _=>true
 | .int _,.str _=>true | .str _,.int _=>true | .bl _,.str _=>true | .str _,.bl _=>true
 | _,_=>false
noncomputable def vd:R2:=λx y H Q=>UH x y=true/\Q (.bl (decide (x=y))) H
noncomputable def ve:R2:=λx y H Q=>UH x y=true/\Q (.bl (!decide (x=y))) H
theorem Nw:decide (V.int i=V.int j)=(i==j):=by
 rw [Bool.eq_iff_iff];simp
theorem QK:decide (V.bl i=V.bl j)=(i==j):=by
 rw [Bool.eq_iff_iff];simp
theorem Ny:decide (V.str i=V.str j)=(i==j):=by
 rw [Bool.eq_iff_iff];simp
theorem Nz:decide (V.byt i=V.byt j)=(i.toList==j.toList):=by
 rw [Bool.eq_iff_iff];cases i;cases j;simp
section
variable {X:Cx}{a b c:Expr}{ta tb tc:TE}{pos:Pos}
theorem Aw (I:Inv X pins σ H s)(q:Q (.bl k) H)(e:k=k'):EP X pins σ Q (.bool k') s:=by
 subst e;exact ⟨.bl k,H,I,rfl,q⟩
theorem AA:Ee X (compareOp .Eq) vd:=by
 intro pins s σ H x y v u Q I rx ry h;obtain ⟨hs,q⟩:=h;cases x with
 | non =>
  cases rx;cases y with
  | non=>cases ry;exact PySem.EqNone.eq_none_none (Aw I q (by simp))
  | bl j=>cases ry;exact PySem.EqNone.eq_none_bool (Aw I q (by simp))
  | int j=>obtain ⟨t',rfl⟩:=ry;exact PySem.EqNone.eq_none_int (Aw I q (by simp))
  | str j=>obtain ⟨t',rfl⟩:=ry;exact PySem.EqNone.eq_none_str (Aw I q (by simp))
  | _=>exact absurd (show false=true from hs) Bool.false_ne_true
 | bl i =>
  cases rx;cases y with
  | non=>cases ry;exact PySem.EqNone.eq_bool_none (Aw I q (by simp))
  | bl j=>cases ry;exact eq_bool (Aw I q QK)
  | str j=>obtain ⟨t',rfl⟩:=ry;exact PySem.EqMixed.eq_bool_str (Aw I q (by simp))
  | _=>exact absurd (show false=true from hs) Bool.false_ne_true
 | int i =>
  obtain ⟨t,rfl⟩:=rx;cases y with
  | non=>cases ry;exact PySem.EqNone.eq_int_none (Aw I q (by simp))
  | int j=>obtain ⟨t',rfl⟩:=ry;exact eq_int (Aw I q Nw)
  | str j=>obtain ⟨t',rfl⟩:=ry;exact PySem.EqMixed.eq_int_str (Aw I q (by simp))
  | _=>exact absurd (show false=true from hs) Bool.false_ne_true
 | str i =>
  obtain ⟨t,rfl⟩:=rx;cases y with
  | non=>cases ry;exact PySem.EqNone.eq_str_none (Aw I q (by simp))
  | bl j=>cases ry;exact PySem.EqMixed.eq_str_bool (Aw I q (by simp))
  | int j=>obtain ⟨t',rfl⟩:=ry;exact PySem.EqMixed.eq_str_int (Aw I q (by simp))
  | str j=>obtain ⟨t',rfl⟩:=ry;exact eq_str (Aw I q Ny)
  | _=>exact absurd (show false=true from hs) Bool.false_ne_true
 | byt i =>
  obtain ⟨t,rfl⟩:=rx;cases y with
  | byt j=>obtain ⟨t',rfl⟩:=ry;exact W.eq_bytes (Aw I q Nz)
  | _=>exact absurd (show false=true from hs) Bool.false_ne_true
 | _=>cases y <;> exact absurd (show false=true from hs) Bool.false_ne_true
theorem FR:Ee X (compareOp .NotEq) ve:=by
 intro pins s σ H x y v u Q I rx ry h;obtain ⟨hs,q⟩:=h;cases x with
 | non =>
  cases rx;cases y with
  | non=>cases ry;exact PySem.EqNone.ne_none_none (Aw I q (by simp))
  | bl j=>cases ry;exact PySem.EqNone.ne_none_bool (Aw I q (by simp))
  | int j=>obtain ⟨t',rfl⟩:=ry;exact PySem.EqNone.ne_none_int (Aw I q (by simp))
  | str j=>obtain ⟨t',rfl⟩:=ry;exact PySem.EqNone.ne_none_str (Aw I q (by simp))
  | _=>exact absurd (show false=true from hs) Bool.false_ne_true
 | bl i =>
  cases rx;cases y with
  | non=>cases ry;exact PySem.EqNone.ne_bool_none (Aw I q (by simp))
  | bl j=>cases ry;exact ne_bool (Aw I q (congrArg not QK))
  | str j=>obtain ⟨t',rfl⟩:=ry;exact PySem.EqMixed.ne_bool_str (Aw I q (by simp))
  | _=>exact absurd (show false=true from hs) Bool.false_ne_true
 | int i =>
  obtain ⟨t,rfl⟩:=rx;cases y with
  | non=>cases ry;exact PySem.EqNone.ne_int_none (Aw I q (by simp))
  | int j=>obtain ⟨t',rfl⟩:=ry;exact ne_int (Aw I q (congrArg not Nw))
  | str j=>obtain ⟨t',rfl⟩:=ry;exact PySem.EqMixed.ne_int_str (Aw I q (by simp))
  | _=>exact absurd (show false=true from hs) Bool.false_ne_true
 | str i =>
  obtain ⟨t,rfl⟩:=rx;cases y with
  | non=>cases ry;exact PySem.EqNone.ne_str_none (Aw I q (by simp))
  | bl j=>cases ry;exact PySem.EqMixed.ne_str_bool (Aw I q (by simp))
  | int j=>obtain ⟨t',rfl⟩:=ry;exact PySem.EqMixed.ne_str_int (Aw I q (by simp))
  | str j=>obtain ⟨t',rfl⟩:=ry;exact ne_str (Aw I q (congrArg not Ny))
  | _=>exact absurd (show false=true from hs) Bool.false_ne_true
 | byt i =>
  obtain ⟨t,rfl⟩:=rx;cases y with
  | byt j=>obtain ⟨t',rfl⟩:=ry;exact W.ne_bytes (Aw I q (congrArg not Nz))
  | _=>exact absurd (show false=true from hs) Bool.false_ne_true
 | _=>cases y <;> exact absurd (show false=true from hs) Bool.false_ne_true
theorem GL:Ee X (compareOp .Lt) (QI λi j=>.bl (decide (i < j))):=Yx λ_ _ _ _ _ _ _ q=>lt_int q
theorem eU:Ee X (compareOp .LtE) (QI λi j=>.bl (decide (i<=j))):=Yx λ_ _ _ _ _ _ _ q=>le_int q
theorem Xa:Ee X (compareOp .Gt) (QI λi j=>.bl (decide (j < i))):=Yx λ_ _ _ _ _ _ _ q=>gt_int q
theorem J0:Ee X (compareOp .Is) (λx y H Q=>y=.non/\Q (.bl (decide (x=.non))) H):=by
 intro pins s σ H x y v u Q I rx ry h;obtain ⟨rfl,q⟩:=h;cases ry;refine is_none_gen (Aw I q ?_);cases x <;> first
  | (cases rx;rfl)
  | (obtain ⟨t,rfl⟩:=rx;rfl)
theorem UI:Ee X (compareOp .IsNot) (λx y H Q=>y=.non/\Q (.bl (!decide (x=.non))) H):=by
 intro pins s σ H x y v u Q I rx ry h;obtain ⟨rfl,q⟩:=h;cases ry;refine isnot_none_gen (Aw I q ?_);cases x <;> first
  | (cases rx;rfl)
  | (obtain ⟨t,rfl⟩:=rx;rfl)
theorem Ee.or (h:Ee X f r)(h':Ee X f r'):Ee X f (λx y H Q=>r x y H Q\/r' x y H Q):=by
 intro pins s σ H x y v u Q I rx ry q;rcases q with q | q
 ·exact h pins s σ H x y v u Q I rx ry q
 ·exact h' pins s σ H x y v u Q I rx ry q
theorem Ag (b:Expr)(h:op≠.In:=by decide)(h2:op≠.NotIn:=by decide):behindInMarks op b=false:=by
 have e1:(op==CmpOp.In)=false:=by cases op <;> first | rfl | exact absurd rfl h
 have e2:(op==CmpOp.NotIn)=false:=by cases op <;> first | rfl | exact absurd rfl h2
 cases b <;> simp [behindInMarks,e1,e2]
theorem UJ (ho:Ee X (compareOp op) r)(ha:PE X a ta)(hb:PE X b tb)(hm:behindInMarks op b=false):PE X (.Compare a [op] [b] pos) (FQ r ta tb):=by
 intro pins s σ H Q I h;exact wpAny_Compare1 (Yw ha hb I h λv u s2 x y H2 I2 rx ry q=>ho pins s2 σ H2 x y v u Q I2 rx ry q) hm
noncomputable def NA (t:TE):TT:=fun σ H Q=>t σ H λx H'=>∃ k,x=.bl k/\Q k H'
theorem UK (ho:Ee X (compareOp op) r)(ha:PE X a ta)(hb:PE X b tb)(hm:behindInMarks op b=false):PT X (.Compare a [op] [b] pos) (NA (FQ r ta tb)):=by
 intro pins s σ H Q I h;refine wpAny_isTrue_Compare1 (AK (ha pins s σ H _ I h) λv s1 Au=>?_) hm;obtain ⟨x,H1,I1,r1,q1⟩:=Au;refine AK (hb pins s1 σ H1 _ I1 q1) λu s2 Au=>?_;obtain ⟨y,H2,I2,r2,q2⟩:=Au;refine AK (ho pins s2 σ H2 x y v u _ I2 r1 r2 q2) λc s3 Au=>?_;obtain ⟨z,H3,I3,r3,k,e,q3⟩:=Au;subst e;cases r3;exact wpAny_truthy_bool ⟨H3,I3,q3⟩
noncomputable def Yy (K:W.Frag)(x:V)(H:Hp)(k:Bool):Prop :=
 match x with
 | .non=>k=false
 | .bl b=>k=b
 | .int i=>k=(i != 0)
 | .str y=>y.length<=sizeLine/\k=((y.length:Int) != 0)
 | .byt y=>y.size<=sizeLine/\k=((y.size:Int) != 0)
 | .ref p=>(∃ xs,AG K H p xs/\k=!xs.isEmpty)\/(∃ xs,Ba K H p xs/\k=!xs.isEmpty)\/∃ kvs,H p=some (.dK kvs)/\k=!kvs.isEmpty
 | _=>False
theorem LK (r:KV kvs vs):(!vs.isEmpty)=!kvs.isEmpty:=by
 cases r <;> rfl
theorem GO (r:Vals xs its):(!its.toArray.isEmpty)=!xs.isEmpty:=by
 cases r <;> simp
theorem GQ:(sizeLine:Nat) < 2 ^ 63:=by rw [sizeLine_eq];decide
theorem Yz:nV X (λx H Q=>∃ k,Yy X.K x H k/\Q k H):=by
 intro pins s σ H x v Q I rx h;obtain ⟨k,e,q⟩:=h;have hl:=GQ;have hs:sizeLine=16777216:=sizeLine_eq;cases x with
 | non =>
  cases rx;have e':k=false:=e;subst e';exact truthy_none ⟨H,I,q⟩
 | bl b =>
  cases rx;have e':k=b:=e;subst e';exact wpAny_truthy_bool ⟨H,I,q⟩
 | int i =>
  obtain ⟨t,rfl⟩:=rx;have e':k=(i != 0):=e;subst e';exact PySem.P.truthy_int ⟨H,I,q⟩
 | str y =>
  obtain ⟨t,rfl⟩:=rx;obtain ⟨hy,e'⟩:y.length<=sizeLine/\k=((y.length:Int) != 0):=e;subst e';exact PySem.P.truthy_str () ⟨H,I.tok _,q⟩
 | byt y =>
  obtain ⟨t,rfl⟩:=rx;obtain ⟨hy,e'⟩:y.size<=sizeLine/\k=((y.size:Int) != 0):=e;subst e';exact W.truthy_bytes () ⟨H,I.tok _,q⟩
 | ref p =>
  cases rx;have e':(∃ xs,AG X.K H p xs/\k=!xs.isEmpty)\/(∃ xs,Ba X.K H p xs/\k=!xs.isEmpty)\/∃ kvs,H p=some (.dK kvs)/\k=!kvs.isEmpty:=e;rcases e' with ⟨xs,hx,e'⟩ | ⟨xs,hx,e'⟩ | ⟨kvs,hx,e'⟩
  ·subst e';obtain ⟨its,r,pl,hz⟩:=I.list hx;have hlen:=r.length;exact wpAny_truthy_list pl.isList (by simp only [List.size_toArray];omega) ⟨H,I.tok _,by rw [GO r];exact q⟩
  ·subst e';obtain ⟨its,r,pl,hz⟩:=I.tuple hx;have hlen:=r.length;exact truthy_tuple pl (by simp only [List.size_toArray];omega) ⟨H,I.tok _,by rw [GO r];exact q⟩
  ·subst e';obtain ⟨hz,hS,vs,r,m⟩:kvs.length<=sizeLine/\(p==sysModules)=false/\∃ vs,KV kvs vs/\s.heap.DictOf (Ap X.prog X.w) p vs:=I.hok p _ hx;have hlen:kvs.length=vs.length:=Paired.length r;exact wpAny_truthy_dict hS m () ⟨H,I.tok _,by rw [LK r];exact q⟩
 | _=>exact (show False from e).elim
theorem K5 (ha:PE X a ta)(he:∀ whole,isTrue a X.env whole=(do let v <- whole;standAt a.pos;holding [v] (truthy v))):
  PT X a (fun σ H Q=>ta σ H λx H'=>∃ k,Yy X.K x H' k/\Q k H'):=by
 intro pins s σ H Q I h;exact isTrue_plain (AK (ha pins s σ H _ I h) λv s1 ⟨x,H1,I1,r1,q1⟩=>Yz pins s1 σ H1 x v Q I1 r1 q1) (he _)
theorem vals1 (r:Vals [x] us):∃ u,us=[u]/\RelV x u:=by
 cases r with
 | cons r1 r2=>cases r2;exact ⟨_,rfl,r1⟩
theorem vals2 (r:Vals [x,y] us):∃ u w',us=[u,w']/\RelV x u/\RelV y w':=by
 cases r with
 | cons r1 r2 =>
  cases r2 with
  | cons r3 r4=>cases r4;exact ⟨_,_,rfl,r1,r3⟩
theorem OU (hc:X.calm=true):CB X (.builtin "max") (λxs H Q=>∃ i j,xs=[.int i,.int j]/\Q (.int (if j > i then j else i)) H):=by
 intro pins s σ H xs us Q I r h;obtain ⟨i,j,rfl,q⟩:=h;obtain ⟨u,w',rfl,⟨t,rfl⟩,⟨t',rfl⟩⟩:=vals2 r;refine max_two_ints (I.ok.hd hc) λh' tk k=>⟨_,H,I.kept k,?_,q⟩;by_cases hj:j > i
 ·rw [if_pos hj,if_pos hj];exact ⟨_,rfl⟩
 ·rw [if_neg hj,if_neg hj];exact ⟨_,rfl⟩
theorem OV:CB X (.type "int") (λxs H Q=>(∃ i,xs=[.int i]/\Q (.int i) H)\/∃ k,xs=[.bl k]/\Q (.int (if k then 1 else 0)) H):=by
 intro pins s σ H xs us Q I r h;rcases h with ⟨i,rfl,q⟩ | ⟨k,rfl,q⟩
 ·obtain ⟨u,rfl,t,rfl⟩:=vals1 r;exact call_int_int ⟨.int i,H,I,⟨_,rfl⟩,q⟩
 ·obtain ⟨u,rfl,r1⟩:=vals1 r;cases r1;exact call_int_bool ⟨.int (if k then 1 else 0),H,I.tok _,⟨_,rfl⟩,q⟩
end
structure LL (h:Heap)(x dx C:Addr)(mA:Str->Option Value):Prop where
 obj:h.get? x=some (W.instObj C dx)
 ns:h.Ns1 dx mA
 ne:dx≠x
theorem OW {h:Heap}{dx:Addr}{mA:Str->Option Value}(n:h.Ns1 dx mA):∃ od,h.get? dx=some od/\∀ name,W.lookIn name od=some (mA name):=by
 obtain ⟨o,es,ep,ho,hd,hk,_,hm⟩:=n;refine ⟨o,ho,λname=>?_⟩;have e:=hm name;unfold nsFind findBy at e;rw [<- Array.find?_toList] at e;unfold W.lookIn;rw [hd];dsimp only;split
 ·rename_i y q;rw [q] at e;exact congrArg some e
 ·rename_i q;rw [q] at e;have a:es.toList.any (·.refKey)=false:=by
   rw [List.any_eq_false];intro y hy;obtain ⟨z,t,UL⟩:=hk y (Array.mem_toList_iff.mp hy);simp [DictEntry.refKey,UL]
  have a':¬ es.toList.any (·.refKey)=true:=by rw [a];exact Bool.false_ne_true
  rw [if_neg a'];exact congrArg some e
theorem LL.look (I:LL h x dx C mA):∃ od,W.InstAt h x (W.instObj C dx) C (some od)/\∀ name,W.lookIn name od=some (mA name) :=
 let ⟨od,ho,hl⟩:=OW I.ns
 ⟨od,⟨I.obj,rfl,rfl,ho⟩,hl⟩
section
variable {prog:Program}{w:World}{A:Around}{E:Value->Shared->Prop}{s:Shared}{K:W.Frag}{x dx C f:Addr}{mA:Str->Option Value}{name:Str}{v:Value}
theorem get_map (X:K.In s.heap)(I:LL s.heap x dx C mA)(hg:W.plainGet K C name=true)(hh:W.hasDictIn K C=true)(ha:W.findIn K (.ref C) name=some none)(hv:mA name=some v)(LM:W.handedIn v=true)(h:Q v { s with toks:=s.toks+1 }) :
  wpAny (model prog w) A (getAttr (.ref x) name expr) Q E s:=by
 obtain ⟨od,J,hl⟩:=I.look;exact W.get_value X J (W.plainGet_of hg).1 (W.findObj_own hh ha rfl (by rw [hl,hv])) LM h
theorem QL (X:K.In s.heap)(I:LL s.heap x dx C mA)(hg:W.plainGet K C name=true)(hf:W.findIn K (.ref C) name=some (some (.ref f)))(ht:W.isFn K (.ref f)=true)(hv:mA name=none)(h:Q (.ref f,[.ref x]) s) :
  wpAny (model prog w) A (getMethod (.ref x) name pl) Q E s:=by
 obtain ⟨od,J,hl⟩:=I.look;exact W.method_fn X J (W.plainGet_of hg).1 (W.plainGet_of hg).2 hf (beq_iff_eq.mp ht) (by show (W.lookIn name od).map (·.isSome)=some false;rw [hl,hv];rfl) h
theorem UM (X:K.In s.heap)(I:LL s.heap x dx C mA)(hs:W.findIn K (.ref C) "__setattr__"=some (some (.builtin "object.__setattr__")))(hp:W.plainOver K C=true)(ht:W.takerIn K C name=some none)(hh:W.hasDictIn K C=true)(hw:PySem.Within mA ns)(hsz:ns.length<=sizeLine)(h:∀ h',LL h' x dx C (λy=>if y=name then some v else mA y)->Heap.SameBut dx s.heap h'->Q .unit { s with heap:=h',toks:=s.toks+2 }) :
  wpAny (model prog w) A (setAttr (.ref x) name v) Q E s:=by
 obtain ⟨od,J,hl⟩:=I.look;refine W.set_plain X J hs (W.osa_open (s:={ s with toks:=s.toks+1 }) (r:=none) X J hp ht λb=>?_);obtain ⟨cd,hc,IW⟩:=W.any_some hh;have hx:s.heap.get? x=some ⟨.ref C,some dx,.plain,#[]⟩:=I.obj;refine wpAny_bind (wpAny_pure (wpAny_bind (wpAny_bind (wpAny_loadPart hx (wpAny_bind (W.Looks.here (s:={ s with toks:=s.toks+1 }) (W.looks_clsIn X hc) ?_))))));rw [IW];refine wpAny_pure (a:=some dx) (wpAny_bind (wpAny_pure (wpAny_bind ?_)));refine wpAny_nsSet1 (s:={ s with toks:=s.toks+1 }) I.ns λh' kU QF=>?_;obtain ⟨oD,esD,epD,yu,yv,yw⟩:=kU.count (PySem.Within.cons name v hw);refine wpAny_bind (wpAny_lookBehind yu (by rw [yv];exact pastItsLine_dict (Nat.le_trans yw (by rw [List.length_cons];omega))) ?_);exact wpAny_pure (h _ ⟨(QF.2 _ (Ne.symm I.ne)).trans I.obj,kU,I.ne⟩ QF)
theorem QM (X:K.In s.heap)(hm:W.makesIn K C=true)(hi:W.findIn K (.ref C) "__init__"=some (some (.ref f)))(hf:W.typeIn K (.ref f)=some (.type "function"))(h:codeAny (model prog w) (A.under (.builtin "type.__call__" ⟨.ref C::vs,kw⟩)) (.call (.ref f) ⟨.ref (s.heap.objs.size+1)::vs,kw⟩) (W.InitBack (s.heap.objs.size+1) R)
   { s with heap:=(s.heap.push W.emptyDict).push (W.instObj C s.heap.objs.size) }) :
  codeAny (model prog w) A (.call (.ref C) ⟨vs,kw⟩) R s:=by
 obtain ⟨hh,g,d,t,os⟩:=s;exact W.make_core (W.makes_of X hm) (W.looks_findIn X hi) (λself=>W.bind_fn X self hf) (.inl rfl) h
end
noncomputable def CU (f:Str)(v:V):List (Str × V)->List (Str × V)
 | []=>[(f,v)]
 | (g,x)::r=>if g=f then (g,v)::r else (g,x)::CU f v r
theorem FT (f g:Str)(v:V):∀ fs:List (Str × V),(CU f v fs).lookup g=if g=f then some v else fs.lookup g
 | []=>by
  show List.lookup g [(f,v)]=_;by_cases h:g=f
  ·have hb:(g==f)=true:=beq_iff_eq.mpr h;simp only [List.lookup,hb,if_pos h]
  ·have hb:(g==f)=false:=beq_eq_false_iff_ne.mpr h;simp only [List.lookup,hb,if_neg h]
 | (k,x)::r=>by
  have ih:=FT f g v r;rw [show CU f v ((k,x)::r)=(if k=f then (k,v)::r else (k,x)::CU f v r) from rfl]
  by_cases hk:k=f
  ·rw [if_pos hk];by_cases h:g=k
   ·have hb:(g==k)=true:=beq_iff_eq.mpr h;simp only [List.lookup,hb,if_pos (h.trans hk)]
   ·have hb:(g==k)=false:=beq_eq_false_iff_ne.mpr h;simp only [List.lookup,hb,if_neg (λe:g=f=>h (e.trans hk.symm))]
  ·rw [if_neg hk];by_cases h:g=k
   ·have hb:(g==k)=true:=beq_iff_eq.mpr h;simp only [List.lookup,hb,if_neg (λe:g=f=>hk (h.symm.trans e))]
   ·have hb:(g==k)=false:=beq_eq_false_iff_ne.mpr h;simp only [List.lookup,hb];exact ih
theorem Fm (f:Str)(v:V):∀ fs:List (Str × V),f∈(CU f v fs).map (·.1)/\∀ g,g∈fs.map (·.1)->g∈(CU f v fs).map (·.1)
 | []=>⟨by simp [CU],λg h=>by simp at h⟩
 | (k,x)::r=>by
  obtain ⟨i1,i2⟩:=Fm f v r;rw [show CU f v ((k,x)::r)=(if k=f then (k,v)::r else (k,x)::CU f v r) from rfl]
  by_cases hk:k=f
  ·rw [if_pos hk];subst hk;exact ⟨by simp,λg h=>by simpa using h⟩
  ·rw [if_neg hk];refine ⟨?_,λg h=>?_⟩
   ·rw [List.map_cons];exact List.mem_cons_of_mem _ i1
   ·rw [List.map_cons] at h ⊢;rcases List.mem_cons.mp h with e | e
    ·exact List.mem_cons.mpr (.inl e)
    ·exact List.mem_cons_of_mem _ (i2 g e)
theorem FU (f:Str)(v:V):∀ fs:List (Str × V),(CU f v fs).length<=fs.length+1
 | []=>by simp [CU]
 | (k,x)::r=>by
  have ih:=FU f v r;rw [show CU f v ((k,x)::r)=(if k=f then (k,v)::r else (k,x)::CU f v r) from rfl]
  by_cases hk:k=f
  ·rw [if_pos hk,List.length_cons,List.length_cons];omega
  ·rw [if_neg hk,List.length_cons,List.length_cons];omega
theorem Dd.some_of (r:Dd (some v) o):∃ u,o=some u/\RelV v u:=by
 cases o with
 | none=>exact (show False from r).elim
 | some u=>exact ⟨u,rfl,r⟩
theorem Dd.none_of (r:Dd none o):o=none:=by
 cases o with
 | none=>rfl
 | some u=>exact (show False from r).elim
theorem OX (r:RelV v u):W.handedIn u=true:=by
 cases v with
 | non=>cases (show u=Value.none from r);rfl
 | bl b=>cases (show u=Value.bool b from r);rfl
 | int i=>obtain ⟨t,e⟩:=(show ∃ t,u=Value.int i t from r);cases e;rfl
 | str x=>obtain ⟨t,e⟩:=(show ∃ t,u=Value.str x t from r);cases e;rfl
 | byt b=>obtain ⟨t,e⟩:=(show ∃ t,u=Value.bytes b t from r);cases e;rfl
 | flt b=>obtain ⟨t,e⟩:=(show ∃ t,u=Value.float b t from r);cases e;rfl
 | ref a=>cases (show u=Value.ref a from r);rfl
 | ty n=>cases (show u=Value.type n from r);rfl
section
variable {P:Program}{w:World}{H H':Hp}{h h':Heap}{a C dx:Addr}{fs U5:List (Str × V)}
theorem Gh (hok:De P w H h)(e:H a=some (.ins C dx fs)):∃ mA,LL h a dx C mA/\(∀ f,Dd (fs.lookup f) (mA f))/\PySem.Within mA (fs.map (·.1))/\fs.length<=1000/\H dx=some (.own a):=by
 obtain ⟨d,z,ne,ob,mA,n,r,q⟩:=(show AJ P w H h a (.ins C dx fs) from hok a _ e);exact ⟨mA,⟨ob,n,ne⟩,r,q,z,d⟩
end
structure Gi (K:W.Frag)(C:Addr):Prop where
 pg:W.plainGet K C Str.empty=true
 hd:W.hasDictIn K C=true
 po:W.plainOver K C=true
 sa:W.findIn K (.ref C) "__setattr__"=some (some (.builtin "object.__setattr__"))
theorem Gi.get {K:W.Frag}{C:Addr}(c:Gi K C)(f:Str):W.plainGet K C f=true:=c.pg
noncomputable def BD (K:W.Frag)(C:Addr)(f:Str):Prop:=W.findIn K (.ref C) f=some none
theorem BD.ab9 {K:W.Frag}{C:Addr}{f:Str}(n:BD K C f):W.takerIn K C f=some none:=by
 unfold W.takerIn;rw [show W.findIn K (.ref C) f=some none from n];rfl
structure Meth (K:W.Frag)(C:Addr)(m:Str)(f:Addr):Prop where
 at_:W.findIn K (.ref C) m=some (some (.ref f))
 fn:W.isFn K (.ref f)=true
 kp:W.keepIn K (.ref f)=true
section
variable {X:Cx}{pins:List (Addr × Obj)}{σ:St}{H:Hp}{s:Shared}{a C dx:Addr}{fs:List (Str × V)}{f:Str}{v:V}{A:Around}{E:Value->Shared->Prop}
theorem GS (I:Inv X pins σ H s)(e:H a=some (.ins C dx fs))(c:Gi X.K C)(n:BD X.K C f)(l:fs.lookup f=some v)(h:∀ u s',Inv X pins σ H s'->RelV v u->Q u s'):wpAny (model X.prog X.w) A (getAttr (.ref a) f b) Q E s:=by
 obtain ⟨mA,O,r,_,_,_⟩:=Gh I.hok e;obtain ⟨u,hu,ru⟩:=Dd.some_of (v:=v) (o:=mA f) (by rw [<- l];exact r f);exact get_map I.kIn O (c.get f) c.hd n hu (OX ru) (h u _ (I.tok _) ru)
theorem Eu (I:Inv X pins σ H s)(e:H a=some (.ins C dx fs))(c:Gi X.K C)(k:Meth X.K C m g)(l:fs.lookup m=none)(h:Q (.ref g,[.ref a]) s):wpAny (model X.prog X.w) A (getMethod (.ref a) m pl) Q E s:=by
 obtain ⟨mA,O,r,_,_,_⟩:=Gh I.hok e;have hn:mA m=none:=Dd.none_of (by rw [<- l];exact r m);exact QL I.kIn O (c.get m) k.at_ k.fn hn h
theorem GU (I:Inv X pins σ H s)(e:H a=some (.ins C dx fs))(c:Gi X.K C)(n:BD X.K C f)(hl:fs.length < 1000)(ry:RelV y u)(h:∀ s',Inv X pins σ (upd H a (.ins C dx (CU f y fs))) s'->Q .unit s'):wpAny (model X.prog X.w) A (setAttr (.ref a) f u) Q E s:=by
 obtain ⟨mA,O,r,wi,_,ho⟩:=Gh I.hok e;have hz:(fs.map (·.1)).length<=sizeLine:=by rw [List.length_map,sizeLine_eq];omega
 refine UM I.kIn O c.sa c.po n.ab9 c.hd wi hz λh' O' sb=>h _ ?_;have hd:∃ o,h'.get? dx=some o:=let ⟨o,_,_,e',_⟩:=O'.ns;⟨o,e'⟩;refine I.write (x:=a) (e:=dx) (by rw [e];exact True.intro) (.inr ho) (λb q hb z=>(sb.2 b hb).trans z) hd ?_;refine ⟨by rw [A8 O.ne];exact ho,?_,O.ne,O'.obj,_,O'.ns,λg=>?_,λg hg=>?_⟩
 ·have:=FU f y fs;omega
 ·show Dd ((CU f y fs).lookup g) (if g=f then some u else mA g)
  rw [FT];by_cases q:g=f
  ·rw [if_pos q,if_pos q];exact ry
  ·rw [if_neg q,if_neg q];exact r g
 ·by_cases q:g=f
  ·rw [q];exact (Fm f y fs).1
  ·refine (Fm f y fs).2 g (wi g λz=>hg ?_);show (if g=f then some u else mA g)=none
   rw [if_neg q];exact z
theorem Inv.made (I:Inv X pins σ H s):Inv X pins σ (upd (upd H s.heap.objs.size (.own (s.heap.objs.size+1))) (s.heap.objs.size+1) (.ins C s.heap.objs.size []))
  { s with heap:=(s.heap.push W.emptyDict).push (W.instObj C s.heap.objs.size) }:=by
 have e1:(s.heap.push W.emptyDict).get? s.heap.objs.size=some W.emptyDict:=Heap.get?_push_size s.heap rfl;have e2:((s.heap.push W.emptyDict).push (W.instObj C s.heap.objs.size)).get? (s.heap.objs.size+1)=some (W.instObj C s.heap.objs.size):=by
  have:=Heap.get?_push_size (s.heap.push W.emptyDict) (o:=W.instObj C s.heap.objs.size) rfl
  rwa [Heap.size_push] at this
 have e3:(s.heap.push W.emptyDict).Ns s.heap.objs.size (λ_=>none):=⟨W.emptyDict,#[],_,e1,rfl,(λe he=>absurd he (by simp)),λ_=>rfl⟩;have I1:=I.laid (a:=s.heap.objs.size) (o:=.own (s.heap.objs.size+1)) (h':=s.heap.push W.emptyDict) (t':=s.toks) (λb u q=>Heap.get?_push_of_some _ q) (Nat.le_refl _) ⟨_,e1⟩;refine I1.laid (a:=s.heap.objs.size+1) (o:=.ins C s.heap.objs.size []) (t':=s.toks) (λb u q=>Heap.get?_push_of_some _ q) (Nat.le_of_eq (Heap.size_push _ _)) ?_;have ne:s.heap.objs.size≠s.heap.objs.size+1:=Nat.ne_of_lt (Nat.lt_succ_self _);refine ⟨by rw [A8 ne,A6],Nat.zero_le _,ne,e2,λ_=>none,(Heap.Ns1.of_empty e3).at λo q=>Heap.get?_push_of_some _ q,λ_=>True.intro,λy hy=>absurd rfl hy⟩
theorem UN {f:Str}{s:Shared}(hb:attributeBase e f env (eval e env)=eval e env)(h:wpAny (model prog w) A (eval e env) (λo s₁=>wpAny (model prog w) A (getAttr o f true) Q E s₁) E s):wpAny (model prog w) A (eval (.Attribute e f pos) env) Q E s :=
 Attribute_any_ h (by rw [arm_eval_Attribute,hb])
end
noncomputable def UO (K:W.Frag)(ta:TE)(f:Str):TE:=fun σ H Q=>ta σ H λx H1=>∃ a C dx fs v,x=.ref a/\H1 a=some (.ins C dx fs)/\Gi K C/\BD K C f/\fs.lookup f=some v/\Q v H1
noncomputable def UP (K:W.Frag)(ta tv:TE)(f:Str):TS:=λD σ H=>tv σ H λy H1=>ta σ H1 λx H2=>∃ a C dx fs,x=.ref a/\H2 a=some (.ins C dx fs)/\Gi K C/\BD K C f/\fs.length < 1000 /\
 D.nx σ (upd H2 a (.ins C dx (CU f y fs)))
noncomputable def YA (X:Cx)(op:Operator)(left:V->V->Hp->VK->Prop):Prop :=
 ∀ (pins:List (Addr × Obj)) (s:Shared) (σ:St) (H:Hp) (x y:V) (u v:Value) (Q:VK),Inv X pins σ H s->RelV x u->RelV y v->left x y H Q->wpAny (model X.prog X.w) X.A (inplaceOp op u v) (EP X pins σ Q) X.xe s
noncomputable def J1 (K:W.Frag)(ta tv:TE)(left:V->V->Hp->VK->Prop)(f:Str):TS:=λD σ H=>ta σ H λx H1=>∃ a C dx fs v,x=.ref a/\H1 a=some (.ins C dx fs)/\Gi K C/\BD K C f/\fs.lookup f=some v /\
 tv σ H1 λy H2=>left v y H2 λz H3=>∃ OY U5,H3 a=some (.ins C OY U5)/\U5.length < 1000/\D.nx σ (upd H3 a (.ins C OY (CU f z U5)))
section
variable {X:Cx}{o e value:Expr}{f:Str}{pos pos' K6:Pos}{ta tv:TE}
theorem YB (he:PE X e ta)(hb:attributeBase e f X.env (eval e X.env)=eval e X.env):PE X (.Attribute e f pos) (UO X.K ta f):=by
 intro pins s σ H Q I h;refine UN hb (AK (he pins s σ H _ I h) λu s1 Au=>?_);obtain ⟨x,H1,I1,rx,a,C,dx,fs,v,ex,ea,c,n,l,q⟩:=Au;subst ex;obtain rfl:u=Value.ref a:=rx;exact GS I1 ea c n l λu' s2 I2 ru=>⟨v,H1,I2,ru,q⟩
theorem YC (ha:PE X o ta)(hv:PE X value tv)(hs:swapsWith value (some (.Attribute o f pos')) pos.line X.env=pure false):PS X (.Assign [.Attribute o f pos'] value pos) (UP X.K ta tv f):=by
 intro pins s σ H D I h;refine plainObj_wpAny_Assign_Attribute (AK (hv pins s σ H _ I h) λu s1 Au=>?_) hs;obtain ⟨y,H1,I1,ry,q⟩:=Au;refine AK (ha pins s1 σ H1 _ I1 q) λov s2 Au=>?_;obtain ⟨x,H2,I2,rx,a,C,dx,fs,ex,ea,c,n,l,q2⟩:=Au;subst ex;obtain rfl:ov=Value.ref a:=rx;exact GU I2 ea c n l ry λs3 I3=>⟨σ,_,I3,q2⟩
theorem OZ (ha:PE X o ta)(hv:PE X value tv)(o8:YA X op left):PS X (.AugAssign (.Attribute o f K6) op value pos) (J1 X.K ta tv left f):=by
 intro pins s σ H D I h;refine wpAny_AugAssign_AttributeAny (AK (ha pins s σ H _ I h) λov s1 Au=>?_);obtain ⟨x,H1,I1,rx,a,C,dx,fs,v,ex,ea,c,n,l,q⟩:=Au;subst ex;obtain rfl:ov=Value.ref a:=rx;refine GS I1 ea c n l λu s2 I2 ru=>AK (hv pins s2 σ H1 _ I2 q) λw3 s3 Au=>?_;obtain ⟨y,H2,I3,ry,q3⟩:=Au;refine AK (o8 pins s3 σ H2 v y u w3 _ I3 ru ry q3) λw4 s4 Au=>?_;obtain ⟨z,H3,I4,rz,OY,U5,yx,l',q4⟩:=Au;exact GU I4 yx c n l' rz λs5 I5=>⟨σ,_,I5,q4⟩
noncomputable def oh:V->V->Hp->VK->Prop:=λx y H Q=>∃ i j,x=.int i/\y=.int j/\Q (.int (i+j)) H
theorem YD:YA X .Add oh:=by
 rintro pins s σ H x y u v Q I rx ry ⟨i,j,rfl,rfl,q⟩;obtain ⟨t,rfl⟩:=(show ∃ t,u=Value.int i t from rx);obtain ⟨t',rfl⟩:=(show ∃ t',v=Value.int j t' from ry);exact PyProof.Rows.iadd_int ⟨.int (i+j),H,I.tok _,⟨_,rfl⟩,q⟩
theorem Xb (he:PE X e te)(I:Inv X pins σ H s)(h:te σ H λx H1=>∃ a C dx fs g,x=.ref a/\H1 a=some (.ins C dx fs)/\Gi X.K C/\Meth X.K C m g/\fs.lookup m=none /\
   ∀ s1,Inv X pins σ H1 s1->wpAny (model X.prog X.w) X.A (callWith pos (.ref g) [.ref a] (backTo pos (starEach args X.env)) (backToKw pos (keywordEach [] X.env))) Q X.xe s1)(ht:eval (.Call (.Attribute e m apos) args [] pos) X.env=(do
   let ov <- eval e X.env
   standAt apos.atName
   let (f,first) <- holding [ov] (getMethod ov m pl)
   callWith pos f first (backTo pos (starEach args X.env)) (backToKw pos (keywordEach [] X.env)))) :
  wpAny (model X.prog X.w) X.A (eval (.Call (.Attribute e m apos) args [] pos) X.env) Q X.xe s:=by
 refine W.methodCall_KW (pl:=pl) (AK (he pins s σ H _ I h) λu s1 Au=>?_) ht;obtain ⟨x,H1,I1,rx,a,C,dx,fs,g,ex,ea,c,k,l,q⟩:=Au;subst ex;obtain rfl:u=Value.ref a:=rx;exact Eu I1 ea c k l (q s1 I1)
end
section
variable {X:Cx}{pins:List (Addr × Obj)}{σ:St}{H:Hp}{s:Shared}{A:Around}{E:Value->Shared->Prop}{Q:Value->Shared->Prop}{c:Value}{b:Bool}
inductive Dy (K:W.Frag)(H:Hp):V->Value->Prop where
 | non:Dy K H .non (.type "NoneType")
 | bl (x:Bool):Dy K H (.bl x) (.type "bool")
 | int (i:Int):Dy K H (.int i) (.type "int")
 | str (x:Str):Dy K H (.str x) (.type "str")
 | flt (x:UInt64):Dy K H (.flt x) (.type "float")
 | lst {a:Addr} {xs:List V} (e:H a=some (.lst xs)):Dy K H (.ref a) (.type "list")
 | frz {a:Addr} {o:Obj} {xs:List V} (e:H a=some (.frz o (.lst xs))):Dy K H (.ref a) (.type "list")
 | tup {a:Addr} {xs:List V} (e:H a=some (.tup xs)):Dy K H (.ref a) (.type "tuple")
 | dK {a:Addr} {kvs:List (Key × V)} (e:H a=some (.dK kvs)):Dy K H (.ref a) (.type "dict")
 | dT {a:Addr} {kvs:List (List Key × V)} (e:H a=some (.dT kvs)):Dy K H (.ref a) (.type "dict")
 | ins {a C dx:Addr} {fs:List (Str × V)} (e:H a=some (.ins C dx fs)) (cl:Gi K C) (ha:W.findIn K (.ref C) "__class__"=some (some (.builtin "object.__class__")))
   (hn:W.specialIn K (.builtin "object.__class__") "__get__"=some (some (.builtin "getset_descriptor.__get__"))) (vg:W.takesIn K (.builtin "object.__class__")=some true)
   (hm:W.mroIn K C (.type "object")=some true):Dy K H (.ref a) (.ref C)
theorem Pa (I:Inv X pins σ H s)(rx:RelV x u)(ty:Dy X.K H x t)(e:W.kitOne X.K t c=some b)(h:∀ tk,Q (.bool b) { s with toks:=tk }):
  wpAny (model X.prog X.w) A (call (.builtin "isinstance") [u,c]) Q E s:=by
 cases ty with
 | non=>cases (show u=Value.none from rx);exact W.kia_one W.kitx_none I.kIn True.intro e (λz=>nomatch z) h
 | bl y=>cases (show u=Value.bool y from rx);exact W.kia_one W.kitx_bool I.kIn True.intro e (λz=>nomatch z) h
 | int i=>obtain ⟨t,q⟩:=(show ∃ t,u=Value.int i t from rx);cases q;exact W.kia_one W.kitx_int I.kIn True.intro e (λz=>nomatch z) h
 | str y=>obtain ⟨t,q⟩:=(show ∃ t,u=Value.str y t from rx);cases q;exact W.kia_one W.kitx_str I.kIn True.intro e (λz=>nomatch z) h
 | flt y=>obtain ⟨t,q⟩:=(show ∃ t,u=Value.float y t from rx);cases q;exact W.kia_one W.kitx_float I.kIn True.intro e (λz=>nomatch z) h
 | @lst a xs ea =>
  cases (show u=Value.ref a from rx);obtain ⟨_,_,n,_,h1⟩:=(show AJ X.prog X.w H s.heap a (.lst xs) from I.hok a _ ea);exact W.kia_one W.kitx_list I.kIn ⟨_,h1,rfl⟩ e (λz=>nomatch z) h
 | @frz a ob xs ea =>
  cases (show u=Value.ref a from rx);obtain ⟨_,_,_,n,_,h1⟩:=(show AJ X.prog X.w H s.heap a (.frz ob (.lst xs)) from I.hok a _ ea);exact W.kia_one W.kitx_list I.kIn ⟨_,h1,rfl⟩ e (λz=>nomatch z) h
 | @tup a xs ea =>
  cases (show u=Value.ref a from rx);obtain ⟨_,_,_,p⟩:=(show AJ X.prog X.w H s.heap a (.tup xs) from I.hok a _ ea);obtain ⟨o,h1,h2,_⟩:=p;exact W.kia_one W.kitx_tuple I.kIn ⟨o,h1,h2⟩ e (λz=>nomatch z) h
 | @dK a kvs ea =>
  cases (show u=Value.ref a from rx);obtain ⟨_,_,vs,_,p⟩:=(show AJ X.prog X.w H s.heap a (.dK kvs) from I.hok a _ ea);obtain ⟨o,es,ep,h1,h2,_⟩:=p;exact W.kia_one W.kitx_dict I.kIn ⟨o,h1,h2.1⟩ e (λz=>nomatch z) h
 | @dT a kvs ea =>
  cases (show u=Value.ref a from rx);obtain ⟨_,_,xs,_,o,es,ep,h1,h2,_⟩:=(show AJ X.prog X.w H s.heap a (.dT kvs) from I.hok a _ ea);exact W.kia_one W.kitx_dict I.kIn ⟨o,h1,h2.1⟩ e (λz=>nomatch z) h
 | @ins a C dx fs ea cl ha hn vg hm =>
  cases (show u=Value.ref a from rx);obtain ⟨mA,O,_⟩:=Gh I.hok ea;obtain ⟨od,J,_⟩:=O.look;exact W.kia_one (W.kitx_own (cl.get _) cl.hd ha hn vg hm) I.kIn J e (λz=>nomatch z) h
end
structure Ar (k:Nat)(A:Around):Prop where
 hd:A.handled=none
 dp:A.depth+2 * k+5 < recursionLimit
 un:A.units+16 * k+200 < cLine
theorem Ar.mono (r:Ar k A)(h:j<=k):Ar j A:=⟨r.hd,by have:=r.dp;omega,by have:=r.un;omega⟩
theorem Ar.deeper (r:Ar (k+1) A)(env:Env):Ar k (A.deeper env) :=
 ⟨r.hd,by have:=r.dp;show A.depth+1+2 * k+5 < _;omega,by have:=r.un;show A.units+3+16 * k+200 < _;omega⟩
theorem LN {A:Around}{C:Addr}{us:List Value}{kw:List (Str × Value)}:(A.under (.builtin "type.__call__" ⟨.ref C::us,kw⟩)).depth=A.depth+1:=by
 first | rfl | simp [Around.under,Code.weight,Code.isCreation,Code.isGuard,Code.isCaller,Code.frames,Code.isFrame,guardIds]
theorem LP {A:Around}{C:Addr}{us:List Value}{kw:List (Str × Value)}:(A.under (.builtin "type.__call__" ⟨.ref C::us,kw⟩)).units=A.units+1:=by
 first | rfl | simp [Around.under,Code.cUnits,Code.frames,Code.isFrame]
theorem Ar.make (r:Ar (k+1) A)(C:Addr)(us:List Value)(kw:List (Str × Value)):Ar k (A.under (.builtin "type.__call__" ⟨.ref C::us,kw⟩)) :=
 ⟨r.hd,by have:=r.dp;rw [LN];omega,by have:=r.un;rw [LP];omega⟩
theorem Ar.depth (r:Ar k A):A.depth < recursionLimit:=by have:=r.dp;omega
theorem Ar.units (r:Ar k A):A.units+64 < cLine:=by have:=r.un;omega
noncomputable def DE:TA:=λ_ H Q=>Q [] H
noncomputable def Be (ta:TE)(tr:TA):TA:=fun σ H Q=>ta σ H λx H1=>tr σ H1 λxs H2=>Q (x::xs) H2
section
variable {X:Cx}{e:Expr}{es:List Expr}{te:TE}{t:TA}{pos:Pos}
theorem LQ:PA X [] DE:=λ_ _ _ _ H Q I h=>Calls.spliced_nil ⟨[],H,I,.nil,h⟩
theorem Gj (ha:PE X e te)(hr:PA X es t)(hs:starEach (e::es) X.env=(false,eval e X.env)::starEach es X.env:=by rfl):PA X (e::es) (Be te t):=by
 intro pos pins s σ H Q I h;rw [hs];show wpAny _ _ (spliced ((false,eval e X.env)::backTo pos (starEach es X.env))) _ _ s;refine Calls.spliced_cons (AK (ha pins s σ H _ I h) λu s1 Au=>?_);obtain ⟨x,H1,I1,r1,q1⟩:=Au;exact AK (hr pos pins s1 σ H1 _ I1 q1) λus s2 ⟨xs,H2,I2,r2,q2⟩=>⟨x::xs,H2,I2,.cons r1 r2,q2⟩
noncomputable def Pc (t:TA):TE:=fun σ H Q=>t σ H λxs H1=>xs.length<=sizeLine/\∀ p,H1 p=none->Q (.ref p) (upd H1 p (.tup xs))
noncomputable def YE (t:TA):TE:=fun σ H Q=>t σ H λxs H1=>xs.length<=sizeLine/\∀ p,H1 p=none->Q (.ref p) (upd H1 p (.lst xs))
theorem YF {x1}(h:PA X es t):PE X (.Tuple es x1 pos) (Pc t):=by
 intro pins s σ H Q I hq;refine wpAny_Tuple_spliced (AK (h pos pins s σ H _ I hq) λus s1 Au=>?_);obtain ⟨xs,H1,I1,r,z,q⟩:=Au;refine ⟨by rw [<- r.length];exact z,?_⟩;have hf:H1 s1.heap.objs.size=none:=I1.hok.fresh (Nat.le_refl _);refine ⟨.ref s1.heap.objs.size,upd H1 s1.heap.objs.size (.tup xs),I1.laid (t':=s1.toks) (λb u e=>Heap.get?_push_of_some _ e) (Nat.le_refl _) ?_,rfl,q _ hf⟩;exact ⟨z,us,r,⟨_,Heap.get?_push_size _ rfl,rfl,_,rfl⟩⟩
theorem YG (h:PA X es t):PE X (.List es pos) (YE t):=by
 intro pins s σ H Q I hq;refine wpAny_List_spliced (AK (h pos pins s σ H _ I hq) λus s1 Au=>?_);obtain ⟨xs,H1,I1,r,z,q⟩:=Au;refine ⟨by rw [<- r.length];exact z,?_⟩;have hf:H1 s1.heap.objs.size=none:=I1.hok.fresh (Nat.le_refl _);refine ⟨.ref s1.heap.objs.size,upd H1 s1.heap.objs.size (.lst xs),I1.laid (t':=s1.toks) (λb u e=>Heap.get?_push_of_some _ e) (Nat.le_refl _) ?_,rfl,q _ hf⟩;exact ⟨z,us,0,r,Heap.get?_push_size _ rfl⟩
end
abbrev Sp:=List V->Hp->VK->XK->Prop
abbrev K7:=List Env->Hp->Shared->XK->Value->Shared->Prop
structure LR (P:Program)(w:World)(K:W.Frag)(mg:Str->Option Value)(base:Heap)(A:Around)(outer:List Env)(s:Shared)(H:Hp):Prop where
 frames:A.frames=some outer
 mod:Mod K mg base
 bs:∀ b o,base.get? b=some o->s.heap.get? b=some o/\H b=none
 bsz:base.objs.size<=s.heap.objs.size
 abh:s.heap.FunFrames base outer
 frf:∀ b∈Lw outer,H b=none
 hok:De P w H s.heap
 bare:AllBare s.gens
noncomputable def CE (outer:List Env)(P:Program)(w:World)(H:Hp)(s:Shared)(Q:VK)(u:Value)(s':Shared):Prop :=
 ∃ v H',s'.os=s.os/\AllBare s'.gens/\Un (Lw outer) [] H H' s.heap s'.heap/\De P w H' s'.heap/\RelV v u/\Q v H'
noncomputable def CR (CX:K7)(outer:List Env)(P:Program)(w:World)(H:Hp)(s:Shared)(Q:VK)(E:XK)(r:Result)(s':Shared):Prop :=
 match r with
 | .ok (.ret u)=>CE outer P w H s Q u s'
 | .ok _=>False
 | .error e=>CX outer H s E e s'
structure Aq (P:Program)(w:World)(K:W.Frag)(mg:Str->Option Value)(base:Heap)(CX:K7)(k:Nat)(f:Addr)(fd:FuncData)(ps:List Str)(sp:Sp):Prop where
 len:∀ vs H Q E,sp vs H Q E->vs.length=ps.length
 run:∀ (A:Around) (outer:List Env) (s:Shared) (H:Hp) (args:Args) (us:List Value) (vs:List V) (Q:VK) (E:XK),Ar k A->LR P w K mg base A outer s H->BindsTo s fd args (ps.zip us)->Vals vs us->sp vs H Q E ->
  codeAny (model P w) A (.call (.ref f) args) (CR CX outer P w H s Q E) s
theorem Aq.mono {P:Program}{w:World}{K:W.Frag}{mg:Str->Option Value}{base:Heap}{CX:K7}{j k:Nat}{f:Addr}{fd:FuncData}{ps:List Str}{sp:Sp}(F:Aq P w K mg base CX j f fd ps sp)(h:j<=k):
  Aq P w K mg base CX k f fd ps sp:=⟨F.len,λA outer s H args us vs Q E hr=>F.run A outer s H args us vs Q E (hr.mono h)⟩
theorem LR.make {P:Program}{w:World}{K:W.Frag}{mg:Str->Option Value}{base:Heap}{A:Around}{outer:List Env}{s:Shared}{H:Hp}(e:LR P w K mg base A outer s H)(C:Addr)(us:List Value)(kw:List (Str × Value)):
  LR P w K mg base (A.under (.builtin "type.__call__" ⟨.ref C::us,kw⟩)) outer s H:=⟨by first | exact e.frames | (simpa [Around.under,Code.envs,Code.isFrame,pushEnvs] using e.frames),e.mod,e.bs,e.bsz,e.abh,e.frf,e.hok,e.bare⟩
section
variable {X:Cx}{pins:List (Addr × Obj)}{σ:St}{H:Hp}{s s':Shared}
theorem Inv.ach (I:Inv X pins σ H s):LR X.prog X.w X.K X.mg X.base X.A X.stack s H :=
 ⟨I.ok.frames,I.ok.mod,I.bs,Nat.le_trans I.ok.bsz I.sz,I.stack,I.abk,I.hok,I.bare⟩
theorem Inv.after (I:Inv X pins σ H s)(h:CE X.stack X.prog X.w H s Q u s'):EP X pins σ Q u s':=by
 obtain ⟨v,H',os,bare,un,hok,r,q⟩:=h;obtain ⟨hh,g,d,t,oj⟩:=s';obtain rfl:oj=s.os:=os;exact ⟨v,H',I.call (h':=hh) (g':=g) (d':=d) (t':=t) (ch:=[]) un hok bare (λb z=>absurd z (by simp)),r,q⟩
end
noncomputable def EW (sp:Sp)(dvs:List V)(E:XK)(t:TA):TE:=fun σ H Q=>t σ H λvs H1=>sp (vs++dvs) H1 Q E
noncomputable def EX (C:Addr)(m:Str)(sp:Sp)(dvs:List V)(E:XK)(ta:TE)(t:TA):TE:=fun σ H Q=>ta σ H λx H1=>∃ a dx fs,x=.ref a/\H1 a=some (.ins C dx fs)/\fs.lookup m=none /\
 t σ H1 λvs H2=>sp (x::(vs++dvs)) H2 Q E
noncomputable def QN (C:Addr)(sp:Sp)(dvs:List V)(E:XK)(t:TA):TE:=fun σ H Q=>t σ H λvs H1=>∀ x dx,H1 x=none->H1 dx=none->dx≠x ->
 sp (.ref x::(vs++dvs)) (upd (upd H1 dx (.own x)) x (.ins C dx [])) (λv H2=>v=.non/\Q (.ref x) H2) E
noncomputable def Binds (K:W.Frag)(fd:FuncData)(ps:List Str)(ds:List Value):Prop :=
 ∀ (s:Shared) (us:List Value),K.In s.heap->(us++ds).length=ps.length->BindsTo s fd ⟨us,[]⟩ (ps.zip (us++ds))
theorem Binds.all {K:W.Frag}{fd:FuncData}{ps:List Str}(h:∀ us:List Value,us.length=ps.length->bindArgs fd ⟨us,[]⟩=pure (ps.zip us)):Binds K fd ps []:=λs us _ hl=>by
 rw [List.append_nil] at hl ⊢;exact .of_eq (h us hl)
noncomputable def Passes (CX:K7)(X:Cx)(E:XK):Prop:=∀ (pins:List (Addr × Obj)) (σ:St) (H:Hp) (s:Shared) (e:Value) (s':Shared),Inv X pins σ H s->CX X.stack H s E e s'->X.xe e s'
section
variable {X:Cx}{CX:K7}{k:Nat}{f C:Addr}{fd:FuncData}{ps:List Str}{sp:Sp}{dvs:List V}{ds:List Value}{E:XK}{x m:Str}{p pos apos:Pos}{e o:Expr}{es:List Expr}{ta:TE}{t:TA}
theorem Ew (F:Aq X.prog X.w X.K X.mg X.base CX k f fd ps sp)(hr:Ar k X.A)(hb:Binds X.K fd ps ds)(hd:Vals dvs ds)(hx:Passes CX X E)(I:Inv X pins σ H s)(r:Vals vs us)(h:sp (vs++dvs) H Q E):wpAny (model X.prog X.w) X.A (call (.ref f) us) (EP X pins σ Q) X.xe s:=by
 have r2:Vals (vs++dvs) (us++ds):=r.append hd;have hl:(us++ds).length=ps.length:=by rw [<- r2.length];exact F.len _ _ _ _ h
 refine wpAny_call (codeAny_mono (F.run X.A X.stack s H ⟨us,[]⟩ (us++ds) (vs++dvs) Q E hr I.ach (hb s us I.kIn hl) r2 h) λr s' hq=>?_);cases r with
 | error e=>exact hx pins σ H s e s' I hq
 | ok fl =>
  cases fl with
  | ret u=>exact I.after hq
  | next=>exact False.elim hq
  | brk=>exact False.elim hq
  | cont=>exact False.elim hq
theorem NB (F:Aq X.prog X.w X.K X.mg X.base CX k f fd ps sp)(hr:Ar k X.A)(hg:Gl X x)(hm:X.mg x=some (.ref f))(hk:W.keepIn X.K (.ref f)=true)(hb:Binds X.K fd ps ds)(hd:Vals dvs ds)(hx:Passes CX X E)(ha:PA X (e::es) t)(Eh:(x==("__debug__":Str))=false:=by decide)(he:starEach (e::es) X.env=(false,eval e X.env)::starEach es X.env:=by rfl)(Ck:(backTo pos (starEach es X.env)).any (·.1)=false:=by rfl) :
  PE X (.Call (.Name x p) (e::es) [] pos) (EW sp dvs E t):=by
 intro pins s σ H Q I h;refine wpAny_Call_Name_kw (IX I hg hm ?_ Eh);refine W.callWith_K (h₀:=X.base) I.ok.mod.kin hk (AK (ha pos pins s σ H _ I h) λus s1 Au=>?_) he Ck;obtain ⟨vs,H1,I1,r,q⟩:=Au;refine ⟨I1.kIn,?_⟩;exact Ew F hr hb hd hx I1 r q
theorem ND (he:PE X o ta)(c:Gi X.K C)(hm:Meth X.K C m f)(F:Aq X.prog X.w X.K X.mg X.base CX k f fd ps sp)(hr:Ar k X.A)(hb:Binds X.K fd ps ds)(hd:Vals dvs ds)(hx:Passes CX X E)(ha:PA X (e::es) t)(FP:starEach (e::es) X.env=(false,eval e X.env)::starEach es X.env:=by rfl)(Ck:(backTo pos (starEach es X.env)).any (·.1)=false:=by rfl)(ht:eval (.Call (.Attribute o m apos) (e::es) [] pos) X.env=(do
   let ov <- eval o X.env
   standAt apos.atName
   let (f,first) <- holding [ov] (getMethod ov m pl)
   callWith pos f first (backTo pos (starEach (e::es) X.env)) (backToKw pos (keywordEach [] X.env))):=by rfl) :
  PE X (.Call (.Attribute o m apos) (e::es) [] pos) (EX C m sp dvs E ta t):=by
 intro pins s σ H Q I h;refine W.methodCall_KW (pl:=pl) (AK (he pins s σ H _ I h) λu s1 Au=>?_) ht;obtain ⟨x,H1,I1,rx,a,dx,fs,ex,ea,l,q⟩:=Au;subst ex;obtain rfl:u=Value.ref a:=rx;refine Eu I1 ea c hm l ?_;refine W.callWith_K (first:=[.ref a]) (h₀:=X.base) I.ok.mod.kin hm.kp (AK (ha pos pins s1 σ H1 _ I1 q) λus s2 Au=>?_) FP Ck
 obtain ⟨vs,H2,I2,r,q2⟩:=Au;refine ⟨I2.kIn,?_⟩;exact Ew (us:=.ref a::us) (vs:=.ref a::vs) F hr hb hd hx I2 (.cons rfl r) q2
theorem K8 (he:PE X o ta)(c:Gi X.K C)(hm:Meth X.K C m f)(F:Aq X.prog X.w X.K X.mg X.base CX k f fd ps sp)(hr:Ar k X.A)(hb:Binds X.K fd ps ds)(hd:Vals dvs ds)(hx:Passes CX X E)(ht:eval (.Call (.Attribute o m apos) [] [] pos) X.env=(do
   let ov <- eval o X.env
   standAt apos.atName
   let (f,first) <- holding [ov] (getMethod ov m pl)
   callWith pos f first (backTo pos (starEach [] X.env)) (backToKw pos (keywordEach [] X.env))):=by rfl) :
  PE X (.Call (.Attribute o m apos) [] [] pos) (EX C m sp dvs E ta DE):=by
 intro pins s σ H Q I h;refine W.methodCall_KW (pl:=pl) (AK (he pins s σ H _ I h) λu s1 Au=>?_) ht;obtain ⟨x,H1,I1,rx,a,dx,fs,ex,ea,l,q⟩:=Au;subst ex;obtain rfl:u=Value.ref a:=rx;refine Eu I1 ea c hm l ?_;exact W.callWith_K0 (first:=[.ref a]) I1.kIn hm.kp (Ew (us:=[.ref a]) (vs:=[.ref a]) F hr hb hd hx I1 (.cons rfl .nil) q)
structure Mk (K:W.Frag)(C f:Addr):Prop where
 makes:W.makesIn K C=true
 init:W.findIn K (.ref C) "__init__"=some (some (.ref f))
 fn:W.isFn K (.ref f)=true
 kp:W.keepIn K (.ref C)=true
theorem QO (M:Mk X.K C f)(F:Aq X.prog X.w X.K X.mg X.base CX k f fd ps sp)(hr:Ar (k+1) X.A)(hb:Binds X.K fd ps ds)(hd:Vals dvs ds)(hx:Passes CX X E)(I:Inv X pins σ H s)(r:Vals vs us)(h:∀ x dx,H x=none->H dx=none->dx≠x->sp (.ref x::(vs++dvs)) (upd (upd H dx (.own x)) x (.ins C dx [])) (λv H2=>v=.non/\Q (.ref x) H2) E) :
  wpAny (model X.prog X.w) X.A (call (.ref C) us) (EP X pins σ Q) X.xe s:=by
 have hq:=h (s.heap.objs.size+1) s.heap.objs.size (I.hok.fresh (Nat.le_succ _)) (I.hok.fresh (Nat.le_refl _)) (Nat.ne_of_lt (Nat.lt_succ_self _));have I2:=Inv.made (C:=C) I;have r2:Vals (V.ref (s.heap.objs.size+1)::(vs++dvs)) (Value.ref (s.heap.objs.size+1)::(us++ds)):=.cons rfl (r.append hd);have hl:(Value.ref (s.heap.objs.size+1)::us++ds).length=ps.length:=by
  have e:=r2.length;rw [F.len _ _ _ _ hq] at e;exact e.symm
 refine wpAny_call (QM (f:=f) I.kIn M.makes M.init (beq_iff_eq.mp M.fn) (codeAny_mono (F.run _ X.stack _ _ ⟨Value.ref (s.heap.objs.size+1)::us,[]⟩ (Value.ref (s.heap.objs.size+1)::(us++ds)) _ _ E (hr.make C us [])
  (I2.ach.make C us []) (hb _ (Value.ref (s.heap.objs.size+1)::us) I2.kIn hl) r2 hq) λr s' eV=>?_))
 cases r with
 | error e=>exact hx pins σ _ _ e s' I2 eV
 | ok fl =>
  cases fl with
  | ret u =>
   obtain ⟨v,H',I3,rv,ev,q3⟩:=I2.after eV;subst ev;exact ⟨rv,⟨V.ref (s.heap.objs.size+1),H',I3,rfl,q3⟩⟩
  | next=>exact False.elim eV
  | brk=>exact False.elim eV
  | cont=>exact False.elim eV
theorem UQ (M:Mk X.K C f)(F:Aq X.prog X.w X.K X.mg X.base CX k f fd ps sp)(hr:Ar (k+1) X.A)(hg:Gl X x)(hm:X.mg x=some (.ref C))(hb:Binds X.K fd ps ds)(hd:Vals dvs ds)(hx:Passes CX X E)(ha:PA X (e::es) t)(Eh:(x==("__debug__":Str))=false:=by decide)(he:starEach (e::es) X.env=(false,eval e X.env)::starEach es X.env:=by rfl)(Ck:(backTo pos (starEach es X.env)).any (·.1)=false:=by rfl) :
  PE X (.Call (.Name x p) (e::es) [] pos) (QN C sp dvs E t):=by
 intro pins s σ H Q I h;refine wpAny_Call_Name_kw (IX I hg hm ?_ Eh);refine W.callWith_K (h₀:=X.base) I.ok.mod.kin M.kp (AK (ha pos pins s σ H _ I h) λus s1 Au=>?_) he Ck;obtain ⟨vs,H1,I1,r,q⟩:=Au;refine ⟨I1.kIn,?_⟩;exact QO M F hr hb hd hx I1 r q
end
structure Ai (N P:List Str)(sc:Scope):Prop where
 kind:sc.kind=.function
 co:sc.isCoroutine=false
 gen:sc.isGenerator=false
 nd:N.Nodup
 pre:N.take P.length=P
 par:∀ x∈P,sc.names.lookup x=some .local\/sc.names.lookup x=some .cell
 ab3:∀ y∈sc.names,y.2≠.free
theorem Il {kindOf:Str->Option NameKind}{x:Str}:∀ {binds:List (Str × Value)} {m:Str->Option Value},(∀ v,(x,v)∉binds)->bindL kindOf binds m x=m x
 | [],_,_=>rfl
 | (n,v)::r,m,h=>by
  unfold bindL;rw [Il λw hw=>h w (List.mem_cons_of_mem _ hw)];split
  ·have:x≠n:=(by rintro rfl;exact h v List.mem_cons_self);simp [this]
  ·rfl
theorem Im {kindOf:Str->Option NameKind}{x:Str}:∀ {binds:List (Str × Value)} {m:Str->Option Value},(∀ v,(x,v)∉binds)->bindC kindOf binds m x=m x
 | [],_,_=>rfl
 | (n,v)::r,m,h=>by
  unfold bindC;rw [Im λw hw=>h w (List.mem_cons_of_mem _ hw)];split
  ·rfl
  ·have:x≠n:=(by rintro rfl;exact h v List.mem_cons_self);simp [this]
theorem Io {kindOf:Str->Option NameKind}{x:Str}{v:Value}:∀ {P:List Str} {vs:List Value} {i:Nat} {m:Str->Option Value},P.Nodup->P[i]?=some x->vs[i]?=some v->kindOf x=some .local ->
  bindL kindOf (P.zip vs) m x=some v
 | [],_,_,_,_,h,_,_=>by simp at h
 | _::_,[],_,_,_,_,h,_=>by simp at h
 | p::P,w::vs,0,m,nd,h1,h2,hk=>by
  simp at h1 h2;subst h1;subst h2;show bindL kindOf ((p,w)::P.zip vs) m p=_;unfold bindL;rw [Il λv hv=>(List.nodup_cons.mp nd).1 (List.of_mem_zip hv).1,if_pos hk];simp
 | p::P,w::vs,i+1,m,nd,h1,h2,hk=>by
  show bindL kindOf ((p,w)::P.zip vs) m x=_;unfold bindL;exact Io (i:=i) (List.nodup_cons.mp nd).2 (by simpa using h1) (by simpa using h2) hk
theorem Ip {kindOf:Str->Option NameKind}{x:Str}{v:Value}:∀ {P:List Str} {vs:List Value} {i:Nat} {m:Str->Option Value},P.Nodup->P[i]?=some x->vs[i]?=some v->kindOf x≠some .local ->
  bindC kindOf (P.zip vs) m x=some v
 | [],_,_,_,_,h,_,_=>by simp at h
 | _::_,[],_,_,_,_,h,_=>by simp at h
 | p::P,w::vs,0,m,nd,h1,h2,hk=>by
  simp at h1 h2;subst h1;subst h2;show bindC kindOf ((p,w)::P.zip vs) m p=_;unfold bindC;rw [Im λv hv=>(List.nodup_cons.mp nd).1 (List.of_mem_zip hv).1,if_neg hk];simp
 | p::P,w::vs,i+1,m,nd,h1,h2,hk=>by
  show bindC kindOf ((p,w)::P.zip vs) m x=_;unfold bindC;exact Ip (i:=i) (List.nodup_cons.mp nd).2 (by simpa using h1) (by simpa using h2) hk
noncomputable def start (N:List Str)(vs:List V):St:=vs.map some++List.replicate (N.length - vs.length) none
noncomputable def Cr (CX:K7)(P:Program)(w:World)(K:W.Frag)(mg:Str->Option Value)(base:Heap)(N:List Str)(qual:Str)(scope:Scope)(f:Addr)(cd:Value)(A:Around)(outer:List Env)(s:Shared)(H:Hp)(E:XK):Cx where
 prog:=P
 w:=w
 K:=K
 mg:=mg
 base:=base
 A:=A.deeper (envOfC qual scope s.heap.objs.size f cd)
 N:=N
 s₀:=s
 H₀:=H
 env:=envOfC qual scope s.heap.objs.size f cd
 outer:=outer
 stack:=envOfC qual scope s.heap.objs.size f cd::outer
 ex:=[]
 calm:=true
 fn:=λ_=>true
 pn:=[]
 xe:=λe s'=>wpAny (model P w) (A.deeper (envOfC qual scope s.heap.objs.size f cd)) (leaving (envOfC qual scope s.heap.objs.size f cd) e) (λ_ Qo=>CX outer H s E e Qo) (λe' Qo=>CX outer H s E e' Qo) s'
theorem K9 {sc:Scope}{n:Nat}{x:Str}(h:sc.names.lookup x=some .cell):∃ c,(cellsFrom n sc.names []).lookup x=some c:=by
 have q:=W.cellsFrom_some sc.names n [] (.inl h);exact Option.isSome_iff_exists.mp q
theorem Iq {CX:K7}{P:Program}{w:World}{K:W.Frag}{mg:Str->Option Value}{base:Heap}{N ps:List Str}{qual:Str}{scope:Scope}{f:Addr}{cd:Value}{A:Around}{outer:List Env}{s s1:Shared}{H:Hp}{E:XK}{us:List Value}{vs:List V}
  (S:Ai N ps scope) (hd:A.handled=none) (e0:LR P w K mg base A outer s H) (hl:vs.length=ps.length) (r:Vals vs us)
  (x:InCallC s s.heap.objs.size (bindL (envOfC qual scope s.heap.objs.size f cd).kindOf (ps.zip us) λ_=>none) (cellsFrom (s.heap.objs.size+1) scope.names []) (bindC (envOfC qual scope s.heap.objs.size f cd).kindOf (ps.zip us) λ_=>none) s1) :
  Inv (Cr CX P w K mg base N qual scope f cd A outer s H E) [] (start N vs) H s1:=by
 have Ck:ps.length<=N.length:=by have:=congrArg List.length S.pre;rw [List.length_take] at this;omega
 obtain ⟨h1,tk,rfl,hk⟩:=x.done;have YH:∀ b:Addr,b∉(Cr CX P w K mg base N qual scope f cd A outer s H E).ex:=λb z=>absurd (show b∈([]:List Addr) from z) (by simp);refine ⟨⟨e0.mod,S.kind,rfl,rfl,Nat.le_refl _,λy z c h1 h2=>?_,λy hy=>?_,λy c _ h=>?_,λ_=>hd,Around.frames_deeper e0.frames,.inr ⟨rfl,rfl⟩,λb z=>absurd z (YH b),e0.bs,e0.bsz,λb _ _=>YH b,λb z=>absurd z (YH b),e0.abh,e0.frf⟩,
  rfl,e0.bare,Un.kept hk,⟨_,x.toInCall.ns,λi y v h1 h2 h3=>?_⟩,λy c h=>⟨_,x.cell y c h⟩,e0.hok.fresh (Nat.le_refl _),λy c h=>?_,λp hp=>absurd (show p∈([]:List (Addr × Obj)) from hp) (by simp),e0.hok.kept hk,?_⟩
 ·exact name_of_addr x.apart (PySem.mem_of_lookup h1) (PySem.mem_of_lookup h2)
 ·have hy:scope.names.lookup y=some .cell\/scope.names.lookup y=some .free:=hy;rcases hy with hy | hy
  ·exact K9 hy
  ·exact absurd rfl (S.ab3 _ (PySem.mem_of_lookup hy))
 ·exact Nat.le_of_lt (x.above y c (PySem.mem_of_lookup h))
 ·have hi:i < vs.length:=by
   unfold start at h2;by_cases hi:i < vs.length
   ·exact hi
   ·rw [List.getElem?_append_right (by simpa using hi)] at h2;rw [List.getElem?_replicate] at h2;split at h2 <;> cases h2
  have ha:vs[i]?=some v:=by
   unfold start at h2;rw [List.getElem?_append_left (by simpa using hi),List.getElem?_map] at h2;cases e:vs[i]? with
   | none=>rw [e] at h2;cases h2
   | some a=>rw [e] at h2;cases h2;rfl
  obtain ⟨u,hu,rv⟩:=r.get ha;have hp:ps[i]?=some y:=by
   rw [<- S.pre,List.getElem?_take_of_lt ()];exact h1
  have vh:ps.Nodup:=by rw [<- S.pre];exact S.nd.sublist (List.take_sublist _ _)
  refine ⟨u,rv,?_⟩;rcases S.par y (List.mem_of_getElem? hp) with k | k
  ·exact .inl ⟨k,Io vh hp hu k⟩
  ·obtain ⟨c,e⟩:=K9 (n:=s.heap.objs.size+1) k;refine .inr ⟨.inl k,c,e,?_⟩;have q:=x.cell y c e;rw [Ip vh hp hu (by show scope.names.lookup y≠_;rw [k];decide)] at q;exact q
 ·exact e0.hok.fresh (Nat.le_of_lt (x.above y c (PySem.mem_of_lookup h)))
 ·unfold start;show _=N.length;rw [List.length_append,List.length_map,List.length_replicate];omega
theorem Xc {CX:K7}{P:Program}{w:World}{K:W.Frag}{mg:Str->Option Value}{base:Heap}{k:Nat}{f:Addr}{name qual:Str}{params:Arguments}{body:List Stmt}{scope:Scope}{dV kV doc pm Bf ct oc:Value}{an od:Option Addr}
  {U9:Array (Option Value)} {N ps:List Str} {sp:Sp} (lk:K.lookup f=some ⟨oc,od,.func (W.fnOf name qual params body scope dV kV doc pm an Bf ct),U9⟩) (HY:W.codeIn K Bf qual=true) (S:Ai N ps scope)
  (len:∀ vs H Q E,sp vs H Q E->vs.length=ps.length)
  (GV:∀ (A:Around) (outer:List Env) (s:Shared) (H:Hp) (vs:List V) (Q:VK) (E:XK),Ar k (A.deeper (envOfC qual scope s.heap.objs.size f Bf))->sp vs H Q E ->
   ∃ t,Nm (Cr CX P w K mg base N qual scope f Bf A outer s H E) body t/\t { nx:=λ_ H'=>Q .non H',rt:=Q } (start N vs) H) :
  Aq P w K mg base CX (k+1) f (W.fnOf name qual params body scope dV kV doc pm an Bf ct) ps sp:=by
 refine ⟨len,λA outer s H args us vs Q E hr e0 hb r Ua=>?_⟩;have hl:=len _ _ _ _ Ua;have KX:K.In s.heap:=e0.mod.kin.keeps λb o e=>(e0.bs b o e).1;have lim:s.heap.NoLimit:=e0.mod.nolimit.keeps λb o e=>(e0.bs b o e).1;have QP:∀ y∈ps.zip us,scope.names.lookup y.1=some .local\/(scope.names.lookup y.1=some .cell/\((cellsFrom (s.heap.objs.size+1) scope.names []).lookup y.1).isSome=true):=λ⟨n,v⟩ hy=>by
  rcases S.par n (List.of_mem_zip hy).1 with q | q
  ·exact .inl q
  ·exact .inr ⟨q,W.cellsFrom_some _ _ _ (.inl q)⟩
 refine codeAny_call_function hr.depth (KX _ _ lk) rfl S.co S.gen rfl (W.codeRec_of KX HY) (hb _ _ _ _ ?_);refine wpAny_newFunctionEnv_cells S.kind QP λenv he s1 x=>?_;subst he;refine ⟨lim.keeps x.toInCall.keep,codeAny_func ?_⟩;obtain ⟨t,ht,hq⟩:=GV A outer s H vs Q E (hr.deeper _) Ua;have I:Inv (Cr CX P w K mg base N qual scope f Bf A outer s H E) [] (start N vs) H s1:=Iq S hr.hd e0 hl r x;refine wpAny_mono (ht [] s1 (start N vs) H _ I hq) (λfl s' hs=>?_) λe s' hs=>hs;have fin:∀ {σ':St} {H':Hp} {v:V} {u:Value},Inv (Cr CX P w K mg base N qual scope f Bf A outer s H E) [] σ' H' s'->RelV v u->Q v H'->CE outer P w H s Q u s' :=
  λ{σ' H' v u} J rv q=>⟨v,H',J.os,J.bare,J.base,J.hok,rv,q⟩
 cases fl with
 | ret u =>
  obtain ⟨v,σ',H',J,rv,q⟩:=hs;exact fin J rv q
 | next =>
  obtain ⟨σ',H',J,q⟩:=hs;exact fin (v:=V.non) (u:=Value.none) J rfl q
 | brk =>
  obtain ⟨_,_,_,q⟩:=hs;exact False.elim q
 | cont =>
  obtain ⟨_,_,_,q⟩:=hs;exact False.elim q
section
variable {X:Cx}{x:Str}{p pos:Pos}{e:Expr}{es:List Expr}{t:TA}{id T:String}{r:List V->Hp->VK->Prop}
noncomputable def YI (r:List V->Hp->VK->Prop)(t:TA):TE:=fun σ H Q=>t σ H λvs H1=>r vs H1 Q
theorem Ka (hc:CB X (.builtin id) r)(hg:Gl X x)(hm:X.mg x=none)(hv:bootBuiltins x=some (.builtin id))(ha:PA X (e::es) t)(hn:x≠"__name__":=by decide)(Eh:(x==("__debug__":Str))=false:=by decide)(he:starEach (e::es) X.env=(false,eval e X.env)::starEach es X.env:=by rfl)(Ck:(backTo pos (starEach es X.env)).any (·.1)=false:=by rfl):PE X (.Call (.Name x p) (e::es) [] pos) (YI r t):=by
 intro pins s σ H Q I h;refine wpAny_Call_Name_kw (D6 I hg hm hv ?_ hn Eh);exact PyProof.Rows.callWith_builtin1 (AK (ha pos pins s σ H _ I h) λus s1 ⟨vs,H1,I1,r1,q1⟩=>hc pins s1 σ H1 vs us Q I1 r1 q1) he Ck
theorem Pd (hc:CB X (.type T) r)(hg:Gl X x)(hm:X.mg x=none)(hv:bootBuiltins x=some (.type T))(ha:PA X (e::es) t)(hn:x≠"__name__":=by decide)(Eh:(x==("__debug__":Str))=false:=by decide)(he:starEach (e::es) X.env=(false,eval e X.env)::starEach es X.env:=by rfl)(Ck:(backTo pos (starEach es X.env)).any (·.1)=false:=by rfl):PE X (.Call (.Name x p) (e::es) [] pos) (YI r t):=by
 intro pins s σ H Q I h;refine wpAny_Call_Name_kw (D6 I hg hm hv ?_ hn Eh);exact PyProof.Rows.callWith_type1 (AK (ha pos pins s σ H _ I h) λus s1 ⟨vs,H1,I1,r1,q1⟩=>hc pins s1 σ H1 vs us Q I1 r1 q1) he Ck
end
end L2
namespace HT
open PySem PyProof.Rows
section
variable {prog:Program}{w:World}{A:Around}{E:Value->Shared->Prop}{s:Shared}
theorem abw (ht:IsTup s.heap t vs.toArray)(hb:IsTup s.heap b ws.toArray)(hv:vs≠[])(h1:ws=[]->Q (.ref t) s)(h2:ws≠[]->Q (.ref s.heap.objs.size) { s with heap:=s.heap.push { cls:=.type "tuple",data:=.seq (vs++ws).toArray } })(hsz:vs.length+ws.length<=sizeLine):wpAny (model prog w) A (binaryOp .Add (.ref t) (.ref b)) Q E s:=by
 obtain ⟨⟨cls,dd,data,sl⟩,ho,hc,n,hd⟩:=id ht;obtain ⟨⟨yy,om,data2,vi⟩,Ub,vj,n2,hd2⟩:=id hb;simp only at hc hd vj hd2;subst hc hd vj hd2;have e:vs.toArray++ws.toArray=(vs++ws).toArray:=by simp
 by_cases hw:ws=[]
 ·exact concat_meets ⟨_,ho,rfl⟩ ⟨_,Ub,rfl⟩ noFill_tuple_add seq_tuple_add PySem.F.slot_tuple_add PySem.F.entry_tuple_add (PySem.F.args_tuple_add_2 _ _)
   (tuple_addW1 t b vs.toArray ws.toArray n n2 dd om sl vi (by simpa using hv) (by simp [hw])) ⟨ho,Ub,h1 hw⟩
 ·refine concat_meets ⟨_,ho,rfl⟩ ⟨_,Ub,rfl⟩ noFill_tuple_add seq_tuple_add PySem.F.slot_tuple_add PySem.F.entry_tuple_add (PySem.F.args_tuple_add_2 _ _)
   (tuple_addW2 t b vs.toArray ws.toArray n n2 dd om sl vi (by simpa using hv) (by simpa using hw) (by rw [List.size_toArray,List.size_toArray];exact hsz)) ⟨ho,Ub,?_⟩
  rw [e];exact h2 hw
noncomputable def sIx (n d:Nat):Option Int->Nat
 | none=>d
 | some v=>if v < 0 then (v+(n:Int)).toNat else min v.toNat n
theorem YJ (n d:Nat)(hd:d<=n)(o:Option Int):sIx n d o<=n:=by
 cases o with
 | none=>exact hd
 | some v =>
  show (if v < 0 then (v+(n:Int)).toNat else min v.toNat n)<=n
  by_cases hv:v < 0
  ·rw [if_pos hv];omega
  ·rw [if_neg hv];exact Nat.min_le_right _ _
theorem NF (v:Int)(n d:Nat):(if v < 0 then max (v+(n:Int)) 0 else min v (n:Int))=((sIx n d (some v):Nat):Int):=by
 show (if v < 0 then max (v+(n:Int)) 0 else min v (n:Int))=(((if v < 0 then (v+(n:Int)).toNat else min v.toNat n):Nat):Int)
 by_cases hv:v < 0
 ·simp only [if_pos hv];omega
 ·simp only [if_neg hv];omega
theorem LS (lo hi:Option Int)(n:Nat):Builtin.Slice.sliceAdjust lo hi 1 (n:Int)=(((sIx n 0 lo:Nat):Int),((sIx n n hi:Nat):Int)):=by
 have h1:¬ ((1:Int) < 0):=by omega
 unfold Builtin.Slice.sliceAdjust;simp only [h1,if_false];refine Prod.ext ?_ ?_
 ·cases lo with
  | none=>rfl
  | some v=>exact NF v n 0
 ·cases hi with
  | none=>rfl
  | some v=>exact NF v n n
theorem LU (i j:Nat):Builtin.Slice.slicePlaces (i:Int) (j:Int) 1=j - i:=by
 unfold Builtin.Slice.slicePlaces;have h1:(1:Int) > 0:=by omega
 simp only [h1,if_true,Int.ediv_one];split <;> omega
theorem GW (p:IsPart v o)(h:Q o s):wpAny (model prog w) A (Builtin.Slice.slicePartIndex v) Q E s:=by
 cases p with
 | none=>exact slicePart_none h
 | int i t=>exact slicePart_int h
theorem Fn {sl:Addr}{vl vu:Value}{lo hi:Option Int}{n:Nat}{Q:Int × Int × Nat->Shared->Prop}(hs:s.heap.IsSliceOf sl vl vu .none)(pl:IsPart vl lo)(pu:IsPart vu hi)
  (h:Q (((sIx n 0 lo:Nat):Int),1,sIx n n hi - sIx n 0 lo) s):wpAny (model prog w) A (Builtin.Slice.sliceApplied (.ref sl) (pure (n:Int))) Q E s:=by
 obtain ⟨os,YK,vk,kW⟩:=id hs;unfold Builtin.Slice.sliceApplied Builtin.Slice.sliceFields;refine wpAny_bind (wpAny_bind (wpAny_field YK kW (x:=vl) rfl (wpAny_bind (wpAny_field YK kW (x:=vu) rfl (wpAny_bind (wpAny_field YK kW (x:=.none) rfl (wpAny_pure ?_)))))));refine wpAny_bind (slicePart_none ?_);show wpAny _ _ (if ((1:Int)==0)=true then _ else _) _ _ s
 rw [if_neg ⟨⟩];refine wpAny_bind (GW pl (wpAny_bind (GW pu (wpAny_bind (wpAny_pure ?_)))));show wpAny _ _ (match Builtin.Slice.sliceAdjust lo hi 1 (n:Int) with | (lo,hi)=>pure (lo,(1:Int),Builtin.Slice.slicePlaces lo hi 1)) _ _ s
 rw [LS lo hi n];show wpAny _ _ (pure (((sIx n 0 lo:Nat):Int),(1:Int),Builtin.Slice.slicePlaces ((sIx n 0 lo:Nat):Int) ((sIx n n hi:Nat):Int) 1)) _ _ s;rw [LU];exact wpAny_pure h
theorem QQ (xs:Array Value)(i k:Nat):((List.range k).filterMap λ(m:Nat)=>xs[((i:Int)+(m:Int) * 1).toNat]?).toArray=((xs.toList.drop i).take k).toArray:=by
 have e:(λ(m:Nat)=>xs[((i:Int)+(m:Int) * 1).toNat]?)=λm=>xs[i+m]?:=by
  funext m
  have:((i:Int)+(m:Int) * 1).toNat=i+m:=by omega
  rw [this]
 rw [e];have:=pick_run xs i k;rw [List.filterMap_map] at this;have e2:((λx=>xs[x]?) ∘ λx=>i+x)=λm=>xs[i+m]?:=rfl;rw [e2] at this;rw [this]
theorem aam {t sl:Addr}{items:Array Value}{vl vu:Value}{lo hi:Option Int}{Q:Value->Shared->Prop}(ht:IsTup s.heap t items)(hs:s.heap.IsSliceOf sl vl vu .none)(pl:IsPart vl lo)(pu:IsPart vu hi)
  (hw:¬ (sIx items.size 0 lo=0/\sIx items.size items.size hi=items.size))
  (h:Q (.ref s.heap.objs.size) { s with heap:=s.heap.push { cls:=.type "tuple",data:=.seq ((items.toList.drop (sIx items.size 0 lo)).take (sIx items.size items.size hi - sIx items.size 0 lo)).toArray } })
  (hsz:items.size<=sizeLine):wpAny (model prog w) A (getItem (.ref t) (.ref sl)) Q E s:=by
 have NG:sizeOk (.seq ((items.toList.drop (sIx items.size 0 lo)).take (sIx items.size items.size hi - sIx items.size 0 lo)).toArray):=by
  show ((items.toList.drop (sIx items.size 0 lo)).take (sIx items.size items.size hi - sIx items.size 0 lo)).toArray.size<=sizeLine;rw [List.size_toArray,List.length_take,List.length_drop,Array.length_toList];omega
 have hj:sIx items.size items.size hi<=items.size:=YJ _ _ (Nat.le_refl _) hi;obtain ⟨os,YK,vk,kW⟩:=id hs;have yz:s.TypeIs (.ref sl) "slice":=⟨os,YK,vk⟩;unfold getItem
 try with_reducible refine wpAny_holding ?_
 first | refine wpAny_bind (wpAny_pure ?_) | skip
 refine wpAny_bind (wpAny_sequenceKey ht.typeIs ⟨⟩ ?_);refine wpAny_bind (wpAny_callSpecial?_slot (name:=Str.ofString "__getitem__") ht.typeIs PyProof.Rows.slot_tuple_getitem
  (wpAny_call_entry PyProof.Rows.slot_tuple_getitem ht.typeIs entry_tuple_getitem ?_ (args_tuple_getitem _ _)))
 show wpAny _ _ (Builtin.Tuple.tupleItemsOf (.ref t) >>= _) _ _ s;refine wpAny_bind (tupleItemsOf_ ht ?_);refine wpAny_bind (wpAny_typeOf yz ?_);rw [if_pos ⟨⟩];refine wpAny_bind (Fn hs pl pu ?_);have kX:¬ ((((sIx items.size 0 lo:Nat):Int)==0 && (1:Int)==1 && (sIx items.size items.size hi - sIx items.size 0 lo)==items.size)=true):=by
  intro q;rw [Bool.and_eq_true,Bool.and_eq_true] at q;have q1:((sIx items.size 0 lo:Nat):Int)=0:=eq_of_beq q.1.1;have q2:sIx items.size items.size hi - sIx items.size 0 lo=items.size:=eq_of_beq q.2;exact hw ⟨(),()⟩
 show wpAny _ _ (if (((sIx items.size 0 lo:Nat):Int)==0 && (1:Int)==1 && (sIx items.size items.size hi - sIx items.size 0 lo)==items.size)=true then _ else _) _ _ s
 rw [if_neg kX,QQ]
 first
  | exact wpAny_bind (m:=Builtin.Tuple.tupleExact _) (wpAny_newObj_type (wpAny_pure ⟨_,rfl,wpAny_pure h⟩) NG)
  | exact wpAny_bind (m:=Builtin.Tuple.tupleExact _) (wpAny_newObj_type (wpAny_bind (wpAny_pure (wpAny_pure ⟨_,rfl,wpAny_pure h⟩))) NG)
  | exact wpAny_bind (wpAny_bind (m:=Builtin.Tuple.tupleExact _) (wpAny_newObj_type (wpAny_pure (wpAny_pure ⟨_,rfl,wpAny_pure h⟩)) NG))
  | exact wpAny_bind (wpAny_bind (m:=Builtin.Tuple.tupleExact _) (wpAny_newObj_type (wpAny_pure ⟨_,rfl,wpAny_pure h⟩) NG))
end
end HT
namespace L2
open PySem PySem.Spec PyProof.Rows
abbrev TO:=St->Hp->(Option Int->Hp->Prop)->Prop
noncomputable def PO (X:Cx)(e:Option Expr)(t:TO):Prop :=
 ∀ (pins:List (Addr × Obj)) (s:Shared) (σ:St) (H:Hp) (Q:Option Int->Hp->Prop),Inv X pins σ H s->t σ H Q ->
  wpAny (model X.prog X.w) X.A (evalPart e X.env) (λu s'=>∃ o H',Inv X pins σ H' s'/\IsPart u o/\Q o H') X.xe s
noncomputable def J2:TO:=λ_ H Q=>Q none H
noncomputable def QR (t:TE):TO:=fun σ H Q=>t σ H λx H1=>∃ i,x=.int i/\Q (some i) H1
section
variable {X:Cx}{e:Expr}{te:TE}{lo hi:Option Expr}{tl th:TO}{pos p2:Pos}
theorem UR:PO X none J2:=by
 intro pins s σ H Q I h;rw [evalPart_none];exact wpAny_pure ⟨none,H,I,.none,h⟩
theorem US (h:PE X e te):PO X (some e) (QR te):=by
 intro pins s σ H Q I hw;rw [evalPart_some];refine AK (h pins s σ H _ I hw) λu s1 Au=>?_;obtain ⟨x,H1,I1,r1,q1⟩:=Au;obtain ⟨i,rfl,q⟩:=q1;obtain ⟨t,rfl⟩:=r1;exact ⟨some i,H1,I1,.int i t,q⟩
noncomputable def kY (X:Cx)(r:V->Option Int->Option Int->Hp->VK->Prop):Prop :=
 ∀ (pins:List (Addr × Obj)) (s:Shared) (σ:St) (H:Hp) (x:V) (v vl vu:Value) (lo hi:Option Int) (sl:Addr) (Q:VK),Inv X pins σ H s->RelV x v->s.heap.IsSliceOf sl vl vu .none->IsPart vl lo->IsPart vu hi->r x lo hi H Q ->
  ∃ T id,typeLookup (.type T) "__getitem__"=pure (some (.builtin id))/\s.TypeIs v T/\wpAny (model X.prog X.w) X.A (getItem v (.ref sl)) (EP X pins σ Q) X.xe s
noncomputable def oo (r:V->Option Int->Option Int->Hp->VK->Prop)(te:TE)(tl th:TO):TE:=fun σ H Q=>te σ H λx H1=>tl σ H1 λl H2=>th σ H2 λu H3=>r x l u H3 Q
theorem QS (hr:kY X r)(he:PE X e te)(hl:PO X lo tl)(hu:PO X hi th):PE X (.Subscript e (.Slice lo hi none p2) pos) (oo r te tl th):=by
 intro pins s σ H Q I h;refine Subscript_ (AK (he pins s σ H _ I h) λv s1 Au=>?_);obtain ⟨x,H1,I1,r1,q1⟩:=Au;refine wpAny_Slice (AK (hl pins s1 σ H1 _ I1 q1) λvl s2 Au=>?_);obtain ⟨l,H2,I2,pl,q2⟩:=Au;refine AK (hu pins s2 σ H2 _ I2 q2) λvu s3 Au=>?_;obtain ⟨u,H3,I3,pu,q3⟩:=Au;rw [evalPart_none];refine wpAny_pure ?_;have I4:Inv X pins σ H3 { s3 with heap:=s3.heap.push { cls:=.type "slice",data:=.fields #[vl,vu,.none] } }:=I3.kept (t':=s3.toks) λb ob q=>Heap.get?_push_of_some _ q;obtain ⟨T,id,hT,ht,hg⟩:=hr pins { s3 with heap:=s3.heap.push { cls:=.type "slice",data:=.fields #[vl,vu,.none] } } σ H3 x v vl vu l u s3.heap.objs.size Q I4 r1 (Heap.IsSliceOf.new ..) pl pu q3;show wpAny (model X.prog X.w) X.A (subscriptTail e (.Slice lo hi none p2) v (.ref s3.heap.objs.size)) (EP X pins σ Q) X.xe { s3 with heap:=s3.heap.push { cls:=.type "slice",data:=.fields #[vl,vu,.none] } };exact tail_any (ops:=[.ref s3.heap.objs.size,v]) ht hT hg (by with_unfolding_all rfl)
noncomputable def DF (xs:List V)(lo hi:Option Int):List V:=(xs.drop (HT.sIx xs.length 0 lo)).take (HT.sIx xs.length xs.length hi - HT.sIx xs.length 0 lo)
theorem FV (xs:List V)(lo hi:Option Int):(DF xs lo hi).length<=xs.length:=by
 unfold DF;rw [List.length_take,List.length_drop];omega
noncomputable def QT (K:W.Frag):V->Option Int->Option Int->Hp->VK->Prop:=λx lo hi H Q=>∃ a xs,x=.ref a/\Ba K H a xs /\
 ¬ (HT.sIx xs.length 0 lo=0/\HT.sIx xs.length xs.length hi=xs.length)/\∀ p,H p=none->Q (.ref p) (upd H p (.tup (DF xs lo hi)))
theorem LV:kY X (QT X.K):=by
 intro pins s σ H x v vl vu lo hi sl Q I rx hs pl pu h;obtain ⟨a,xs,rfl,hx,hw,q⟩:=h;cases rx;obtain ⟨its,r,ht,hz⟩:=I.tuple hx;have hlen:its.toArray.size=xs.length:=by rw [List.size_toArray];exact r.length.symm
 refine ⟨"tuple",_,PyProof.Rows.slot_tuple_getitem.lookup,ht.typeIs,?_⟩;refine HT.aam ht hs pl pu (by rw [hlen];exact hw) ?_ (by rw [hlen];exact hz);rw [hlen];refine ⟨.ref s.heap.objs.size,_,I.laid (t':=s.toks) (o:=.tup (DF xs lo hi)) (λb ob q=>Heap.get?_push_of_some _ q) (Nat.le_refl _) ?_,rfl,q _ (I.hok.fresh (Nat.le_refl _))⟩;exact ⟨Nat.le_trans (FV xs lo hi) hz,_,(r.drop (HT.sIx xs.length 0 lo)).take (HT.sIx xs.length xs.length hi - HT.sIx xs.length 0 lo),IsTup.new _ _⟩
noncomputable def Kc (K:W.Frag):R2:=λx y H Q=>∃ a b xs ys,x=.ref a/\y=.ref b/\Ba K H a xs/\Ba K H b ys/\xs≠[]/\xs.length+ys.length<=sizeLine /\
 (ys=[]->Q (.ref a) H)/\(ys≠[]->∀ p,H p=none->Q (.ref p) (upd H p (.tup (xs++ys))))
theorem Vals.aa6 (r:Vals xs us):us=[]↔xs=[]:=by
 cases r with
 | nil=>simp
 | cons _ _=>simp
theorem NH:Ee X (binaryOp .Add) (Kc X.K):=by
 intro pins s σ H x y v u Q I rx ry h;obtain ⟨a,b,xs,ys,rfl,rfl,ha,hb,hx,hz,q1,q2⟩:=h;cases rx;cases ry;obtain ⟨its,r1,p1,_⟩:=I.tuple ha;obtain ⟨J3,r2,p2,_⟩:=I.tuple hb;refine HT.abw p1 p2 (λz=>hx (r1.aa6.mp z)) (λz=>⟨.ref a,H,I,rfl,q1 (r2.aa6.mp z)⟩) (λz=>?_) (by rw [<- r1.length,<- r2.length];exact hz);refine ⟨.ref s.heap.objs.size,_,I.laid (t':=s.toks) (o:=.tup (xs++ys)) (λb ob q=>Heap.get?_push_of_some _ q) (Nat.le_refl _) ?_,rfl,q2 (λw=>z (r2.aa6.mpr w)) _ (I.hok.fresh (Nat.le_refl _))⟩;exact ⟨by rw [List.length_append];exact hz,_,r1.append r2,IsTup.new _ _⟩
end
noncomputable def Qp (n:Nat)(i:Int):Option Nat:=if 0<=i then (if i < n then some i.toNat else none) else if -(n:Int)<=i then some (i+n).toNat else none
noncomputable def Lx {α:Type}(xs:List α)(i:Int):Option α:=(Qp xs.length i).bind λj=>xs[j]?
theorem NI (h:Qp n i=some j):seqIndex? i n=some j/\j < n/\-(n:Int)<=i/\i < n:=by
 unfold Qp at h;by_cases h0:0<=i
 ·rw [if_pos h0] at h;by_cases h1:i < n
  ·rw [if_pos h1] at h;have e:i.toNat=j:=Option.some.inj h;exact ⟨by rw [seqIndex_of h0 h1,e],(),(),h1⟩
  ·rw [if_neg h1] at h;cases h
 ·rw [if_neg h0] at h;by_cases h1:-(n:Int)<=i
  ·rw [if_pos h1] at h;have e:(i+n).toNat=j:=Option.some.inj h;exact ⟨by rw [seqIndex_neg () h1,e],(),h1,()⟩
  ·rw [if_neg h1] at h;cases h
theorem NJ (h:Lx xs i=some v):∃ j,seqIndex? i xs.length=some j/\xs[j]?=some v/\j < xs.length/\-(xs.length:Int)<=i/\i < xs.length:=by
 unfold Lx at h;cases e:Qp xs.length i with
 | none=>rw [e] at h;cases h
 | some j =>
  rw [e] at h;obtain ⟨h1,h2,h3,h4⟩:=NI e;exact ⟨j,h1,h,h2,h3,h4⟩
theorem Aj {α:Type}{xs:List α}{j:Nat}{v:α}(h:xs[j]?=some v):Lx xs (j:Int)=some v:=by
 have hj:j < xs.length:=(List.getElem?_eq_some_iff.mp h).1;have e:Qp xs.length (j:Int)=some j:=by
  unfold Qp;rw [if_pos (),if_pos ()];simp
 unfold Lx;rw [e];exact h
theorem Ke (xs:List α)(v:α):Lx (xs++[v]) (-1)=some v:=by
 have hl:(xs++[v]).length=xs.length+1:=by simp
 have e:Qp (xs++[v]).length (-1)=some xs.length:=by
  unfold Qp;rw [hl,if_neg ⟨⟩,if_pos ()]
  congr 1
  omega
 unfold Lx;rw [e];show (xs++[v])[xs.length]?=some v;simp
noncomputable def NK (b:Expr):Prop:=∀ o i,subscripted b false o i=operate [o,i] (getItem o i)
noncomputable def kZ (X:Cx)(r:R2):Prop :=
 ∀ (value slice:Expr) (pins:List (Addr × Obj)) (s:Shared) (σ:St) (H:Hp) (x y:V) (v u:Value) (Q:VK),Inv X pins σ H s->RelV x v->RelV y u->r x y H Q ->
  subscripted slice false v u=operate [v,u] (getItem v u)->wpAny (model X.prog X.w) X.A (subscriptTail value slice v u) (EP X pins σ Q) X.xe s
noncomputable def l8 (X:Cx)(id:String)(r:V->List V->Hp->VK->Prop):Prop :=
 ∀ (pins:List (Addr × Obj)) (s:Shared) (σ:St) (H:Hp) (x:V) (xs:List V) (v:Value) (us:List Value) (Q:VK),Inv X pins σ H s->RelV x v->Vals xs us->r x xs H Q ->
  wpAny (model X.prog X.w) X.A (call (.builtin id) (v::us)) (EP X pins σ Q) X.xe s
section
variable {X:Cx}{a b:Expr}{ta tb:TE}{pos:Pos}
theorem Xd (hr:kZ X r)(ha:PE X a ta)(hb:PE X b tb)(hs:NK b):PE X (.Subscript a b pos) (FQ r ta tb):=by
 intro pins s σ H Q I h;exact Subscript_ (Yw ha hb I h λv u s2 x y H2 I2 rx ry q=>hr a b pins s2 σ H2 x y v u Q I2 rx ry q (hs _ _))
noncomputable def C4 (K:W.Frag):R2:=λx y H Q=>∃ p xs i v,x=.ref p/\y=.int i/\AG K H p xs/\Lx xs i=some v/\Q v H
noncomputable def D7 (K:W.Frag):R2:=λx y H Q=>∃ p xs i v,x=.ref p/\y=.int i/\Ba K H p xs/\Lx xs i=some v/\Q v H
theorem AE:kZ X (C4 X.K):=by
 intro value slice pins s σ H x y v u Q I rx ry h hs;obtain ⟨p,xs,i,z,rfl,rfl,hq,he,q⟩:=h;cases rx;obtain ⟨t,rfl⟩:=ry;obtain ⟨its,r,pl,hz⟩:=I.list hq;obtain ⟨j,h1,h2,h3,h4,h5⟩:=NJ he;obtain ⟨w,ew,LW⟩:=r.get h2;have hl:=r.length;have hn:=GQ;have fin:EP X pins σ Q w s:=⟨z,H,I,LW,q⟩;by_cases h0:0<=i
 ·have hj:i.toNat=j:=by
   rw [seqIndex_of h0 h5] at h1;exact Option.some.inj h1
  exact item_listR pl.isList h0 () (by rw [hj];simpa using ew) fin hs
 ·have hj:(i+(its.toArray.size:Int)).toNat=j:=by
   rw [seqIndex_neg () h4] at h1;rw [List.size_toArray,<- hl];exact Option.some.inj h1
  exact subscriptTail_builtinR (x:=w) pl.isList.typeIs slot_list_getitem.lookup
   (wpAny_getItem_list_neg (Q:=λr s'=>r=w/\EP X pins σ Q r s') pl.isList () (by rw [List.size_toArray] <;> omega) () (by rw [hj];simpa using ew) ⟨rfl,fin⟩) hs
theorem BE:kZ X (D7 X.K):=by
 intro value slice pins s σ H x y v u Q I rx ry h hs;obtain ⟨p,xs,i,z,rfl,rfl,hq,he,q⟩:=h;cases rx;obtain ⟨t,rfl⟩:=ry;obtain ⟨its,r,pl,hz⟩:=I.tuple hq;obtain ⟨j,h1,h2,h3,h4,h5⟩:=NJ he;obtain ⟨w,ew,LW⟩:=r.get h2;have hl:=r.length;have hn:=GQ;have fin:EP X pins σ Q w s:=⟨z,H,I,LW,q⟩;exact subscriptTail_builtinR (x:=w) pl.typeIs slot_tuple_getitem.lookup
  (getItem_tuple (j:=j) (Q:=λr s'=>r=w/\EP X pins σ Q r s') pl () () (by rw [List.size_toArray,<- hl];exact h1) (by simpa using ew) ⟨rfl,fin⟩) hs
theorem LX (its:List Value)(n j:Nat)(u:Value):Obj.mapSeq (·.setIfInBounds j u) { cls:=.type "list",data:=.seq its.toArray n }={ cls:=.type "list",data:=.seq (its.set j u).toArray n }:=by
 simp [Obj.mapSeq]
theorem Inv.lst {pins:List (Addr × Obj)}{σ:St}{H:Hp}{s:Shared}{p:Addr}{xs:List V}(I:Inv X pins σ H s)(h:H p=some (.lst xs)):
  ∃ (its:List Value) (n:Nat),Vals xs its/\s.heap.get? p=some { cls:=.type "list",data:=.seq its.toArray n }/\xs.length<=sizeLine:=by
 obtain ⟨z,its,n,r,e⟩:=I.hok p _ h;exact ⟨its,n,r,e,z⟩
theorem Inv.ab4 {pins:List (Addr × Obj)}{σ:St}{H:Hp}{s:Shared}{p:Addr}{xs ys:List V}{its its':List Value}{n n':Nat}{f:Obj->Obj}(I:Inv X pins σ H s)(h:H p=some (.lst xs))
  (ho:s.heap.get? p=some { cls:=.type "list",data:=.seq its.toArray n }) (hf:f { cls:=.type "list",data:=.seq its.toArray n }={ cls:=.type "list",data:=.seq its'.toArray n' }) (r:Vals ys its') (hz:ys.length<=sizeLine) (t:Nat) :
  Inv X pins σ (upd H p (.lst ys)) { s with heap:=s.heap.update p f,toks:=t }:=by
 have e:(s.heap.update p f).get? p=some { cls:=.type "list",data:=.seq its'.toArray n' }:=by
  rw [Heap.get?_update_self f ho (by rw [hf] <;> rfl),hf]
 refine I.write (x:=p) (e:=p) (by rw [h];trivial) (.inl rfl) (λb u hb q=>(Heap.get?_update_other _ _ (Ne.symm hb)).trans q) ⟨_,e⟩ ?_;exact ⟨hz,its',n',r,e⟩
noncomputable def eW:V->V->V->Hp->(Hp->Prop)->Prop:=λo i v H Q=>∃ p xs k j,o=.ref p/\i=.int k/\H p=some (.lst xs)/\Qp xs.length k=some j/\Q (upd H p (.lst (xs.set j v)))
theorem set_list:Yl X eW:=by
 intro pins s σ H o i v ov iv u Q I ro ri rv h;obtain ⟨p,xs,k,j,rfl,rfl,hp,hj,q⟩:=h;cases ro;obtain ⟨t,rfl⟩:=ri;obtain ⟨its,n,r,ho,hz⟩:=I.lst hp;obtain ⟨h1,h2,h3,h4⟩:=NI hj;have hl:=r.length;have hn:=GQ;have I':Inv X pins σ (upd H p (.lst (xs.set j v))) { s with heap:=s.heap.update p (Obj.mapSeq (·.setIfInBounds j u)) } :=
  I.ab4 hp ho (LX its n j u) (r.set rv j) (by rw [List.length_set];exact hz) s.toks
 by_cases h0:0<=k
 ·have hk:k.toNat=j:=by
   rw [seqIndex_of h0 h4] at h1;exact Option.some.inj h1
  exact W.ki_setAt ho h0 () (by rw [List.size_toArray,<- hl];exact h4) (by rw [hk];exact ⟨_,I',q⟩)
 ·have hk:(k+(its.toArray.size:Int)).toNat=j:=by
   rw [seqIndex_neg () h3] at h1;rw [List.size_toArray,<- hl];exact Option.some.inj h1
  exact W.ki_setBack ho () (by rw [List.size_toArray,<- hl];exact h3) () (by rw [hk];exact ⟨_,I',q⟩)
theorem J4 (lo hi:Option Int)(n:Nat):(sliceBounds lo hi none n).1=((HT.sIx n 0 lo:Nat):Int)/\(sliceBounds lo hi none n).2.1=((HT.sIx n n hi:Nat):Int)/\(sliceBounds lo hi none n).2.2=1:=by
 refine ⟨?_,?_,rfl⟩
 ·cases lo with
  | none=>simp [sliceBounds,HT.sIx]
  | some i =>
   simp only [sliceBounds,HT.sIx,Option.getD_none,show (1:Int) > 0 by decide,if_true];by_cases h:i < 0
   ·simp only [h,if_true] <;> omega
   ·simp only [h,if_false] <;> omega
 ·cases hi with
  | none=>simp [sliceBounds,HT.sIx]
  | some i =>
   simp only [sliceBounds,HT.sIx,Option.getD_none,show (1:Int) > 0 by decide,if_true];by_cases h:i < 0
   ·simp only [h,if_true] <;> omega
   ·simp only [h,if_false] <;> omega
theorem HZ (its:List Value)(lo hi:Option Int):slicePick its.toArray lo hi none=((its.drop (HT.sIx its.length 0 lo)).take (HT.sIx its.length its.length hi - HT.sIx its.length 0 lo)).toArray:=by
 obtain ⟨h1,h2,h3⟩:=J4 lo hi its.toArray.size;unfold slicePick;rw [h1,h2,h3];simp only [sliceRange_one,pick_run,List.size_toArray] <;> rfl
noncomputable def YL (K:W.Frag):V->Option Int->Option Int->Hp->VK->Prop:=λx lo hi H Q=>∃ a xs,x=.ref a/\AG K H a xs/\∀ p,H p=none->Q (.ref p) (upd H p (.lst (DF xs lo hi)))
theorem UT:kY X (YL X.K):=by
 intro pins s σ H x v vl vu lo hi sl Q I rx hs pl pu h;obtain ⟨a,xs,rfl,hx,q⟩:=h;cases rx;obtain ⟨its,r,ht,hz⟩:=I.list hx;have hlen:=r.length;refine ⟨"list",_,slot_list_getitem.lookup,ht.isList.typeIs,?_⟩;refine wpAny_getItem_list_slice ht.isList hs pl pu .none (by simp) ?_ (by rw [List.size_toArray] <;> omega);rw [HZ,<- hlen];refine ⟨.ref s.heap.objs.size,_,I.laid (t':=s.toks) (o:=.lst (DF xs lo hi)) (λb ob q=>Heap.get?_push_of_some _ q) (Nat.le_refl _) ?_,rfl,q _ (I.hok.fresh (Nat.le_refl _))⟩;exact ⟨Nat.le_trans (FV xs lo hi) hz,_,0,(r.drop (HT.sIx xs.length 0 lo)).take (HT.sIx xs.length xs.length hi - HT.sIx xs.length 0 lo),Heap.get?_push_size _ rfl⟩
noncomputable def Ei:V->Bool
 | .non=>true
 | .bl _=>true
 | .int _=>true
 | .str _=>true
 | _=>false
noncomputable def Xe:V->V->Bool
 | .non,.non=>true
 | .bl a,.bl b=>a==b
 | .bl a,.int b=>(if a then 1 else 0)==b
 | .int a,.bl b=>a==(if b then 1 else 0)
 | .int a,.int b=>a==b
 | .str a,.str b=>a==b
 | _,_=>false
theorem YM (ry:RelV y u)(rx:RelV x v)(fy:Ei y=true)(fx:Ei x=true):SeqAt.EqAt A s u v (Xe y x):=by
 cases y with
 | non =>
  cases ry;cases x with
  | non=>cases rx;exact SeqAt.EqAt.same _
  | bl b=>cases rx;exact SeqAt.EqAt.none_bool b
  | int b=>obtain ⟨t,rfl⟩:=rx;exact SeqAt.EqAt.none_int b t
  | str b=>obtain ⟨t,rfl⟩:=rx;exact SeqAt.EqAt.none_str b t
  | _=>exact absurd (show false=true from fx) Bool.false_ne_true
 | bl a =>
  cases ry;cases x with
  | non=>cases rx;exact SeqAt.EqAt.bool_none a
  | bl b=>cases rx;exact SeqAt.EqAt.bool_bool a b
  | int b=>obtain ⟨t,rfl⟩:=rx;exact SeqAt.EqAt.bool_int a b t
  | str b=>obtain ⟨t,rfl⟩:=rx;exact SeqAt.EqAt.bool_str a b t
  | _=>exact absurd (show false=true from fx) Bool.false_ne_true
 | int a =>
  obtain ⟨t',rfl⟩:=ry;cases x with
  | non=>cases rx;exact SeqAt.EqAt.int_none a t'
  | bl b=>cases rx;exact SeqAt.EqAt.int_bool a t' b
  | int b=>obtain ⟨t,rfl⟩:=rx;exact SeqAt.EqAt.int_int a t' b t
  | str b=>obtain ⟨t,rfl⟩:=rx;exact SeqAt.EqAt.int_str a t' b t
  | _=>exact absurd (show false=true from fx) Bool.false_ne_true
 | str a =>
  obtain ⟨t',rfl⟩:=ry;cases x with
  | non=>cases rx;exact SeqAt.EqAt.str_none a t'
  | bl b=>cases rx;exact SeqAt.EqAt.str_bool a t' b
  | int b=>obtain ⟨t,rfl⟩:=rx;exact SeqAt.EqAt.str_int a t' b t
  | str b=>obtain ⟨t,rfl⟩:=rx;exact SeqAt.EqAt.str_str a t' b t
  | _=>exact absurd (show false=true from fx) Bool.false_ne_true
 | _=>exact absurd (show false=true from fy) Bool.false_ne_true
noncomputable def LY (x:V)(u:Value):Bool:=match u with
 | .none=>Xe .non x
 | .bool b=>Xe (.bl b) x
 | .int i _=>Xe (.int i) x
 | .str z _=>Xe (.str z) x
 | _=>false
theorem QU (r:RelV y u)(f:Ei y=true):LY x u=Xe y x:=by
 cases y with
 | non=>cases r;rfl
 | bl b=>cases r;rfl
 | int i=>obtain ⟨t,rfl⟩:=r;rfl
 | str z=>obtain ⟨t,rfl⟩:=r;rfl
 | _=>exact absurd (show false=true from f) Bool.false_ne_true
theorem Gk:∀ {xs:List V} {us:List Value},Vals xs us->xs.all Ei=true->us.any (LY x)=xs.any λy=>Xe y x:=by
 intro xs us h
 induction h with
 | nil=>exact λ_=>rfl
 | cons r t ih =>
  intro f;rw [List.all_cons,Bool.and_eq_true] at f;rw [List.any_cons,List.any_cons,QU r f.1,ih f.2]
theorem DH {A:Around}{s:Shared}{x:V}{v:Value}(rx:RelV x v)(fx:Ei x=true):∀ {xs:List V} {us:List Value},Vals xs us->xs.all Ei=true->∀ u∈us,SeqAt.EqAt A s u v (LY x u)
 | _,_,.nil,_=>λu hu=>by cases hu
 | y::xs,u::us,.cons r t,f=>λu' hu=>by
  rw [List.all_cons,Bool.and_eq_true] at f;rcases List.mem_cons.mp hu with rfl | hu
  ·rw [QU r f.1];exact YM r rx f.1 fx
  ·exact DH rx fx t f.2 u' hu
noncomputable def Ir (x:V)(xs:List V):Bool:=xs.any λy=>Xe y x
noncomputable def Uc (K:W.Frag)(neg:Bool):R2:=λx y H Q=>∃ p xs,y=.ref p/\(AG K H p xs\/Ba K H p xs)/\Ei x=true/\xs.all Ei=true/\Q (.bl (if neg then !Ir x xs else Ir x xs)) H
theorem CA:Ee X (compareOp .In) (Uc X.K false):=by
 intro pins s σ H x y v u Q I rx ry h;obtain ⟨p,xs,rfl,hq,fx,fs,q⟩:=h;cases ry;rcases hq with hq | hq
 ·obtain ⟨its,r,pl,hz⟩:=I.list hq;refine SeqAt.in_listAt (LY x) pl.isList (λw hw=>DH rx fx r fs w (by simpa using hw)) ⟨.bl _,H,I,rfl,?_⟩;rw [show its.toArray.any (LY x)=its.any (LY x) by simp,Gk r fs];exact q
 ·obtain ⟨its,r,pl,hz⟩:=I.tuple hq;refine SeqAt.in_tupleAt (LY x) pl (λw hw=>DH rx fx r fs w (by simpa using hw)) ⟨.bl _,H,I,rfl,?_⟩;rw [show its.toArray.any (LY x)=its.any (LY x) by simp,Gk r fs];exact q
theorem J5:Ee X (compareOp .NotIn) (Uc X.K true):=by
 intro pins s σ H x y v u Q I rx ry h;obtain ⟨p,xs,rfl,hq,fx,fs,q⟩:=h;cases ry;rcases hq with hq | hq
 ·obtain ⟨its,r,pl,hz⟩:=I.list hq;refine SeqAt.notIn_listAt (LY x) pl.isList (λw hw=>DH rx fx r fs w (by simpa using hw)) ⟨.bl _,H,I,rfl,?_⟩;rw [show its.toArray.any (LY x)=its.any (LY x) by simp,Gk r fs];exact q
 ·obtain ⟨its,r,pl,hz⟩:=I.tuple hq;refine SeqAt.notIn_tupleAt (LY x) pl (λw hw=>DH rx fx r fs w (by simpa using hw)) ⟨.bl _,H,I,rfl,?_⟩;rw [show its.toArray.any (LY x)=its.any (LY x) by simp,Gk r fs];exact q
theorem Bl:CB X (.builtin "len") (λxs H Q=>∃ p ys,xs=[.ref p]/\(AG X.K H p ys\/Ba X.K H p ys)/\Q (.int ys.length) H):=by
 intro pins s σ H xs us Q I r h;obtain ⟨p,ys,rfl,hq,q⟩:=h;obtain ⟨u,rfl,rx⟩:=vals1 r;cases rx;have hn:=GQ;rcases hq with hq | hq
 ·obtain ⟨its,r',pl,hz⟩:=I.list hq;have hlen:=r'.length;exact Calls.call_len_list pl.isList (by simp only [List.size_toArray] <;> omega) ⟨.int ys.length,H,I.tok _,⟨s.toks+1,by rw [List.size_toArray,hlen]⟩,q⟩
 ·obtain ⟨its,r',pl,hz⟩:=I.tuple hq;have hlen:=r'.length;exact len_tuple pl (by simp only [List.size_toArray] <;> omega) ⟨.int ys.length,H,I.tok _,⟨s.toks+1,by rw [List.size_toArray,hlen]⟩,q⟩
theorem EY:CB X (.type "list") (λxs H Q=>∃ p ys,xs=[.ref p]/\(AG X.K H p ys\/Ba X.K H p ys)/\∀ l,H l=none->Q (.ref l) (upd H l (.lst ys))):=by
 intro pins s σ H xs us Q I r h;obtain ⟨p,ys,rfl,hq,q⟩:=h;obtain ⟨u,rfl,rx⟩:=vals1 r;cases rx;have fin:∀ (its:List Value),Vals ys its->ys.length<=sizeLine->∀ (h':Heap) (c':Nat),(∀ b o',s.heap.get? b=some o'->h'.get? b=some o') ->
   h'.get? s.heap.objs.size=some { cls:=.type "list",dict:=none,data:=.seq its.toArray c',slots:=#[] }->EP X pins σ Q (.ref s.heap.objs.size) { s with heap:=h' }:=λits r' hz h' c' kp e =>
  ⟨.ref s.heap.objs.size,_,I.laid (t':=s.toks) kp (Nat.le_refl _) (show AJ X.prog X.w _ h' _ (.lst ys) from ⟨hz,its,c',r',e⟩),rfl,q _ (I.hok.fresh (Nat.le_refl _))⟩
 rcases hq with hq | hq
 ·obtain ⟨its,r',pl,hz⟩:=I.list hq;have hlen:=r'.length;obtain ⟨o,ho,hc,n,hd⟩:=pl.isList;exact call_list_seq p (.inl rfl) ho hc hd (λh' c' kp e=>fin its r' hz h' c' kp e) (by simp only [List.size_toArray] <;> omega)
 ·obtain ⟨its,r',pl,hz⟩:=I.tuple hq;have hlen:=r'.length;obtain ⟨o,ho,hc,n,hd⟩:=pl;exact call_list_seq p (.inr rfl) ho hc hd (λh' c' kp e=>fin its r' hz h' c' kp e) (by simp only [List.size_toArray] <;> omega)
theorem D8:CB X (.type "tuple") (λxs H Q=>∃ p ys,xs=[.ref p]/\((AG X.K H p ys/\∀ l,H l=none->Q (.ref l) (upd H l (.tup ys)))\/(Ba X.K H p ys/\Q (.ref p) H))):=by
 intro pins s σ H xs us Q I r h;obtain ⟨p,ys,rfl,h⟩:=h;obtain ⟨u,rfl,rx⟩:=vals1 r;cases rx;rcases h with ⟨hq,q⟩ | ⟨hq,q⟩
 ·obtain ⟨its,r',pl,hz⟩:=I.list hq;have hlen:=r'.length;refine call_tuple_list pl.isList (λh' kp=>?_) (by simp only [List.size_toArray] <;> omega);have I1:Inv X pins σ H { s with heap:=h' }:=I.kept (t':=s.toks) kp;have I2:Inv X pins σ (upd H h'.objs.size (.tup ys)) { s with heap:=h'.push { cls:=.type "tuple",data:=.seq its.toArray } } :=
   I1.laid (t':=s.toks) (λb o e=>Heap.get?_push_of_some _ e) (Nat.le_refl _) (show AJ X.prog X.w _ _ _ (.tup ys) from ⟨hz,its,r',IsTup.new _ _⟩)
  exact ⟨.ref h'.objs.size,_,I2,rfl,q _ (I1.hok.fresh (Nat.le_refl _))⟩
 ·obtain ⟨its,r',pl,hz⟩:=I.tuple hq;exact call_tuple_same pl ⟨.ref p,H,I,rfl,q⟩
noncomputable def eX (K:W.Frag)(T:String)(x:V)(H:Hp):Prop:=match x with
 | .str _=>T="str"
 | .int _=>T="int"
 | .ref p=>(T="list"/\∃ xs,AG K H p xs)\/(T="tuple"/\∃ o,K.lookup p=some o/\o.cls=.type "tuple"/\o.dict=none) \/
   (T="dict"/\((∃ kvs,H p=some (.dK kvs))\/∃ kvs,H p=some (.dT kvs)))\/(T="set"/\∃ S n,H p=some (.set S n))
 | _=>False
theorem QV (I:Inv X pins σ H s)(r:RelV x v)(ty:eX X.K T x H):
  s.TypeIs v T/\∀ a,v=.ref a->∃ ob,s.heap.get? a=some ob/\ob.dict=none:=by
 cases x with
 | str z =>
  obtain ⟨t,rfl⟩:=r;cases (show T="str" from ty);exact ⟨typeIs_str s z t,λ_ e=>nomatch e⟩
 | int i =>
  obtain ⟨t,rfl⟩:=r;cases (show T="int" from ty);exact ⟨typeIs_int s i t,λ_ e=>nomatch e⟩
 | ref p =>
  cases r;rcases ty with ⟨rfl,xs,hq⟩ | ⟨rfl,o,hk,hc,hd⟩ | ⟨rfl,hk⟩ | ⟨rfl,S,n,hk⟩
  ·obtain ⟨its,_,pl,_⟩:=I.list hq;refine ⟨pl.isList.typeIs,λa e=>?_⟩;cases e;obtain ⟨o,n,e,c,hd,_⟩:=pl;exact ⟨o,e,hd⟩
  ·refine ⟨⟨o,I.kIn p o hk,hc⟩,λa e=>?_⟩;cases e;exact ⟨o,I.kIn _ o hk,hd⟩
  ·have z:∃ o,s.heap.get? p=some o/\o.ExactDict:=by
    rcases hk with ⟨kvs,hk⟩ | ⟨kvs,hk⟩
    ·obtain ⟨_,_,_,_,o,_,_,e,ex,_⟩:=I.hok p _ hk;exact ⟨o,e,ex⟩
    ·obtain ⟨_,_,_,_,o,_,_,e,ex,_⟩:=I.hok p _ hk;exact ⟨o,e,ex⟩
   obtain ⟨o,e,ex⟩:=z;refine ⟨⟨o,e,ex.1⟩,λa e2=>?_⟩;cases e2;exact ⟨o,e,ex.2.1⟩
  ·obtain ⟨o,_,_,_,e,ex,_⟩:=I.hok p _ hk;refine ⟨⟨o,e,ex.1⟩,λa e2=>?_⟩;cases e2;exact ⟨o,e,ex.2.1⟩
 | _=>exact False.elim ty
noncomputable def QW (K:W.Frag)(T:String)(r:V->List V->Hp->VK->Prop)(to:TE):TE:=fun σ H Q=>to σ H λx H1=>eX K T x H1/\r x [] H1 Q
noncomputable def oq (K:W.Frag)(T:String)(r:V->List V->Hp->VK->Prop)(to:TE)(t:TA):TE:=fun σ H Q=>to σ H λx H1=>eX K T x H1/\t σ H1 λxs H2=>r x xs H2 Q
variable {o e:Expr}{es:List Expr}{to:TE}{t:TA}{name:Str}{apos B8:Pos}{T id:String}{r:V->List V->Hp->VK->Prop}
theorem YN (pa:PlainAttrs T)(slot:Slot T name id)(YO:typeOf (.builtin id)=pure (.type "method_descriptor"))(hm:l8 X id r)(ho:PE X o to)(GX:attributeBase o name X.env (eval o X.env)=eval o X.env:=by rfl)(GY:(apos.endLine==B8.line)=true:=by rfl):PE X (.Call (.Attribute o name apos) [] [] B8) (QW X.K T r to):=by
 intro pins s σ H Q I h;refine wpAny_Call_method0_late GX GY (AK (ho pins s σ H _ I h) λv s1 Au=>?_);obtain ⟨x,H1,I1,r1,ty,q1⟩:=Au;obtain ⟨h1,h2⟩:=QV I1 r1 ty;exact ⟨T,id,pa,slot,YO,h1,h2,Calls.callWith_builtin rfl (PySem.evalArgs_none (hm pins s1 σ H1 x [] v [] Q I1 r1 .nil q1))⟩
theorem eY (pa:PlainAttrs T)(slot:Slot T name id)(YO:typeOf (.builtin id)=pure (.type "method_descriptor"))(hm:l8 X id r)(ho:PE X o to)(ha:PA X (e::es) t)(GX:attributeBase o name X.env (eval o X.env)=eval o X.env:=by rfl)(YQ:((backTo B8 (starEach (e::es) X.env)).all (λx=>!x.1) && (backToKw B8 (keywordEach [] X.env)).all (λx=>x.1.isSome)
   && decide ((e::es).length+([]:List Keyword).length+(if ([]:List Keyword).isEmpty then 0 else 1) < 30))=true:=by rfl)(GY:(apos.endLine==B8.line)=true:=by rfl)(hs:starEach (e::es) X.env=(false,eval e X.env)::starEach es X.env:=by rfl)(LZ:(backTo B8 (starEach es X.env)).any (·.1)=false:=by rfl) :
  PE X (.Call (.Attribute o name apos) (e::es) [] B8) (oq X.K T r to t):=by
 intro pins s σ H Q I h;refine wpAny_Call_method_late GX YQ GY rfl (AK (ho pins s σ H _ I h) λv s1 Au=>?_);obtain ⟨x,H1,I1,r1,ty,q1⟩:=Au;obtain ⟨h1,h2⟩:=QV I1 r1 ty;refine ⟨T,id,pa,slot,YO,h1,h2,?_⟩;have hA:=ha B8 pins s1 σ H1 _ I1 q1;rw [hs] at hA ⊢;refine Calls.callWith_builtin (by show (false || (backTo B8 (starEach es X.env)).any (·.1))=false;rw [LZ] <;> rfl) (Calls.evalArgs_plain ?_);exact AK hA λus s2 ⟨vs,H2,I2,r2,q2⟩=>hm pins s2 σ H2 x vs v us Q I2 r1 r2 q2
end
noncomputable def cE (X:Cx)(id:String)(r:V->List V->Hp->VK->Prop):Prop :=
 ∀ (pins:List (Addr × Obj)) (s:Shared) (σ:St) (H:Hp) (x:V) (xs:List V) (v:Value) (us:List Value) (Q:VK),Inv X pins σ H s->RelV x v->Vals xs us->r x xs H Q ->
  wpAny (model X.prog X.w) X.A (call (.builtin id) (v::us)) (EP X pins σ Q) X.xe s
theorem Vals.one:∀ {x:V} {us:List Value},Vals [x] us->∃ u,us=[u]/\RelV x u:=by
 intro x us h;cases h with
 | cons r t=>cases t;exact ⟨_,rfl,r⟩
theorem Vals.zero:∀ {us:List Value},Vals [] us->us=[]
 | _,.nil=>rfl
theorem Vals.dropLast (h:Vals xs us):Vals xs.dropLast us.dropLast:=by
 induction h with
 | nil=>exact .nil
 | cons r t ih =>
  cases t with
  | nil=>exact .nil
  | cons q t'=>exact .cons r ih
theorem Vals.reverse (h:Vals xs us):Vals xs.reverse us.reverse:=by
 induction h with
 | nil=>exact .nil
 | cons r t ih=>rw [List.reverse_cons,List.reverse_cons];exact Vals.append ih (.cons r .nil)
theorem M0 (l:List α):l.eraseIdx (l.length - 1)=l.dropLast:=by
 induction l with
 | nil=>rfl
 | cons a r ih =>
  cases r with
  | nil=>rfl
  | cons b r =>
   have e:(a::b::r).length - 1=((b::r).length - 1)+1:=by
    have h1:(a::b::r).length=r.length+2:=rfl;have h2:(b::r).length=r.length+1:=rfl;omega
   rw [e,List.eraseIdx_cons_succ,ih]
   all_goals rfl
section
variable {X:Cx}{pins:List (Addr × Obj)}{σ:St}{H:Hp}{s:Shared}{l b:Addr}{xs ys zs:List V}
theorem Inv.ab8 {its its':List Value}{n:Nat}{f:Array Value->Array Value}{t':Nat}(I:Inv X pins σ H s)(hH:H l=some (.lst xs))
  (e:s.heap.get? l=some { cls:=.type "list",data:=.seq its.toArray n }) (hf:f its.toArray=its'.toArray) (hv:Vals ys its') (hz:ys.length<=sizeLine) :
  Inv X pins σ (upd H l (.lst ys)) { s with heap:=s.heap.update l (Obj.mapSeq f),toks:=t' }:=by
 have q:=PySem.IsL.update e f;rw [hf] at q;refine I.write (x:=l) (e:=l) (by rw [hH];exact trivial) (.inl rfl) (λb' u hb hu=>(Heap.get?_update_other s.heap (Obj.mapSeq f) (Ne.symm hb)).trans hu) ⟨_,q⟩ ?_;exact ⟨hz,its',_,hv,q⟩
theorem Inv.acn (I:Inv X pins σ H s)(hv:Vals ys its)(hz:ys.length<=sizeLine):
  Inv X pins σ (upd H s.heap.objs.size (.lst ys)) { s with heap:=s.heap.push { cls:=.type "list",data:=.seq its.toArray },toks:=t' } :=
 I.laid (λ_ _ q=>Heap.get?_push_of_some _ q) (Nat.le_refl _) ⟨hz,its,0,hv,Heap.get?_push_size _ rfl⟩
theorem Inv.fresh (I:Inv X pins σ H s):H s.heap.objs.size=none:=I.hok.fresh (Nat.le_refl _)
theorem Inv.abx (I:Inv X pins σ H s)(hH:H l=some (.lst xs)):xs.length<=sizeLine/\∃ (its:List Value) (n:Nat),Vals xs its/\xs.length=its.length/\s.heap.get? l=some { cls:=.type "list",data:=.seq its.toArray n }:=by
 obtain ⟨z,its,n,r,e⟩:=I.hok l _ hH;exact ⟨z,its,n,r,r.length,e⟩
theorem QX (h:n<=sizeLine):Builtin.List.listTooLong n=false:=by
 unfold Builtin.List.listTooLong;exact decide_eq_false ()
end
section
variable {X:Cx}
noncomputable def J6:V->List V->Hp->VK->Prop:=λx vs H Q=>∃ l xs y,x=.ref l/\vs=[y]/\H l=some (.lst xs)/\xs.length < sizeLine/\Q .non (upd H l (.lst (xs++[y])))
theorem Bp:cE X "list.append" J6:=by
 intro pins s σ H x vs v us Q I rx rv h;obtain ⟨l,xs,y,rfl,rfl,hH,hz,q⟩:=h;cases rx;obtain ⟨u,rfl,ru⟩:=rv.one;obtain ⟨z,its,n,r,hl,e⟩:=I.abx hH;refine call_meets F.slot_list_append ⟨_,e,rfl⟩ F.entry_list_append (F.args_list_append_2 _ _) (PySem.list_append l its.toArray n u (by rw [List.size_toArray];omega)) ⟨e,?_⟩;refine ⟨.non,_,I.ab8 (its':=its++[u]) hH e (by simp) (r.append (.cons ru .nil)) ?_,rfl,q⟩;rw [List.length_append,List.length_singleton];omega
noncomputable def UU:V->List V->Hp->VK->Prop:=λx vs H Q=>∃ l b xs zs,x=.ref l/\vs=[.ref b]/\H l=some (.lst xs)/\H b=some (.lst zs)/\xs.length+zs.length<=sizeLine/\Q .non (upd H l (.lst (xs++zs)))
theorem Fp:cE X "list.extend" UU:=by
 intro pins s σ H x vs v us Q I rx rv h;obtain ⟨l,b,xs,zs,rfl,rfl,hH,hB,hz,q⟩:=h;cases rx;obtain ⟨u,rfl,ru⟩:=rv.one;cases ru;obtain ⟨z,its,n,r,hl,e⟩:=I.abx hH;obtain ⟨z2,J3,n2,r2,Ej,e2⟩:=I.abx hB;have hsz:its.toArray.size+J3.toArray.size<=sizeLine:=by rw [List.size_toArray,List.size_toArray];omega
 have eZ:¬ (!its.toArray.isEmpty && Builtin.List.listTooLong (its.toArray.size+J3.toArray.size))=true:=by
  rw [QX hsz,Bool.and_false];exact Bool.false_ne_true
 refine call_meets F.slot_list_extend ⟨_,e,rfl⟩ F.entry_list_extend (F.args_list_extend_2 _ _)
  (AutoSeq1.list_extend_list_list_0 l its.toArray n b J3.toArray n2 eZ (by rw [List.size_toArray];omega) ()) ⟨e,e2,?_⟩
 refine ⟨.non,_,I.ab8 (its':=its++J3) hH e (by simp) (r.append r2) ?_,rfl,q⟩;rw [List.length_append];omega
noncomputable def YR:V->List V->Hp->VK->Prop:=λx vs H Q=>∃ l xs y,x=.ref l/\vs=[]/\H l=some (.lst xs)/\xs[xs.length - 1]?=some y/\Q y (upd H l (.lst xs.dropLast))
theorem DJ:cE X "list.pop" YR:=by
 intro pins s σ H x vs v us Q I rx rv h;obtain ⟨l,xs,y,rfl,rfl,hH,hy,q⟩:=h;cases rx;have YS:=rv.zero;subst YS;obtain ⟨z,its,n,r,hl,e⟩:=I.abx hH;obtain ⟨u,hu,ru⟩:=r.get hy;have f6:its.toArray[its.toArray.size - 1]?=some u:=by
  show its.toArray[its.length - 1]?=some u;rw [<- Array.getElem?_toList,<- hl];exact hu
 refine call_meets F.slot_list_pop ⟨_,e,rfl⟩ F.entry_list_pop (F.args_list_pop_1 _) (MeetsSeq.list_pop_last l its.toArray n u f6 (by rw [List.size_toArray];omega)) ⟨e,?_⟩;refine ⟨y,_,I.ab8 (its':=its.dropLast) hH e ?_ r.dropLast ?_,ru,q⟩
 ·show its.toArray.eraseIdxIfInBounds (its.toArray.size - 1)=its.dropLast.toArray;rw [List.size_toArray,List.eraseIdxIfInBounds_toArray,M0]
 ·rw [List.length_dropLast];omega
noncomputable def QY:V->List V->Hp->VK->Prop:=λx vs H Q=>∃ l xs,x=.ref l/\vs=[]/\H l=some (.lst xs)/\Q .non (upd H l (.lst xs.reverse))
theorem Ma:cE X "list.reverse" QY:=by
 intro pins s σ H x vs v us Q I rx rv h;obtain ⟨l,xs,rfl,rfl,hH,q⟩:=h;cases rx;have YS:=rv.zero;subst YS;obtain ⟨z,its,n,r,hl,e⟩:=I.abx hH;refine call_meets F.slot_list_reverse ⟨_,e,rfl⟩ F.entry_list_reverse (F.args_list_reverse_1 _) (AutoSeq1.list_reverse_list_0 l its.toArray n (by rw [List.size_toArray];omega)) ⟨e,?_⟩;refine ⟨.non,_,I.ab8 (its':=its.reverse) hH e (by simp) r.reverse ?_,rfl,q⟩;rw [List.length_reverse];omega
noncomputable def f7:R2:=λx y H Q=>∃ l b xs zs,x=.ref l/\y=.ref b/\H l=some (.lst xs)/\H b=some (.lst zs)/\xs.length+zs.length<=sizeLine/\∀ p,H p=none->Q (.ref p) (upd H p (.lst (xs++zs)))
theorem QZ:Ee X (binaryOp .Add) f7:=by
 intro pins s σ H x y v u Q I rx ry h;obtain ⟨l,b,xs,zs,rfl,rfl,hH,hB,hz,q⟩:=h;cases rx;cases ry;obtain ⟨z,its,n,r,hl,e⟩:=I.abx hH;obtain ⟨z2,J3,n2,r2,Ej,e2⟩:=I.abx hB;refine PySem.P.add_list e e2 ?_ (by rw [List.size_toArray,List.size_toArray];omega);have ea:its.toArray++J3.toArray=(its++J3).toArray:=by simp
 rw [ea];exact ⟨.ref _,_,I.acn (t':=s.toks) (r.append r2) (by rw [List.length_append];omega),rfl,q _ I.fresh⟩
end
section
variable {κ:Type}[DecidableEq κ]
noncomputable def AN (kvs:List (κ × V))(k:κ):Option V:=(kvs.find? λkv=>decide (kv.1=k)).map (·.2)
noncomputable def putK (kvs:List (κ × V))(k:κ)(v:V):List (κ × V) :=
 if (kvs.any λkv=>decide (kv.1=k))=true then kvs.map (λkv=>if kv.1=k then (kv.1,v) else kv) else kvs++[(k,v)]
noncomputable def C0 (kvs:List (κ × V))(k:κ):List (κ × V):=kvs.filter λkv=>decide (kv.1≠k)
theorem AZ {p:κ × V}{r:List (κ × V)}{k:κ}(e:p.1=k):AN (p::r) k=some p.2:=by simp [AN,List.find?_cons,e]
theorem A' {p:κ × V}{r:List (κ × V)}{k:κ}(e:¬ p.1=k):AN (p::r) k=AN r k:=by simp [AN,List.find?_cons,e]
theorem CC (k:κ):∀ kvs:List (κ × V),(kvs.any λkv=>decide (kv.1=k))=(AN kvs k).isSome
 | []=>rfl
 | p::r=>by
  rw [List.any_cons];by_cases e:p.1=k
  ·simp only [AZ e,decide_eq_true e,Bool.true_or,Option.isSome_some]
  ·rw [A' e,decide_eq_false e,Bool.false_or];exact CC k r
theorem Kf (k j:κ)(y:V):∀ kvs:List (κ × V),AN (kvs.map λkv=>if kv.1=k then (kv.1,y) else kv) j=(AN kvs j).map λx=>if j=k then y else x
 | []=>rfl
 | p::r=>by
  have ih:=Kf k j y r;rw [List.map_cons];by_cases h:p.1=k
  ·rw [if_pos h];by_cases e:p.1=j
   ·rw [AZ (p:=(p.1,y)) e,AZ e,Option.map_some,if_pos (e.symm.trans h)]
   ·rw [A' (p:=(p.1,y)) e,A' e,ih]
  ·rw [if_neg h];by_cases e:p.1=j
   ·rw [AZ (p:=p) e,AZ e,Option.map_some,if_neg (λz=>h (e.trans z))]
   ·rw [A' (p:=p) e,A' e,ih]
theorem Iu (k j:κ)(y:V):∀ kvs:List (κ × V),AN kvs k=none->AN (kvs++[(k,y)]) j=if j=k then some y else AN kvs j
 | [],_=>by
  by_cases e:k=j
  ·rw [if_pos e.symm];exact AZ (p:=(k,y)) e
  ·rw [if_neg (λz=>e z.symm)];exact A' (p:=(k,y)) e
 | p::r,hn=>by
  rw [List.cons_append];have hk:¬ p.1=k:=λz=>by rw [AZ z] at hn;cases hn
  rw [A' hk] at hn;have ih:=Iu k j y r hn;by_cases e:p.1=j
  ·rw [AZ e,AZ e,if_neg (λz=>hk (e.trans z))]
  ·rw [A' e,A' e,ih]
theorem EZ (kvs:List (κ × V))(k j:κ)(y:V):AN (putK kvs k y) j=if j=k then some y else AN kvs j:=by
 unfold putK;by_cases a:(kvs.any λkv=>decide (kv.1=k))=true
 ·rw [if_pos a,Kf];rw [CC] at a;by_cases e:j=k
  ·obtain ⟨x,hx⟩:=Option.isSome_iff_exists.mp a;rw [if_pos e,e,hx,Option.map_some,if_pos rfl]
  ·rw [if_neg e];cases AN kvs j with
   | none=>rfl
   | some x=>rw [Option.map_some,if_neg e]
 ·rw [if_neg a];refine Iu k j y kvs ?_;rw [CC] at a;cases q:AN kvs k with
  | none=>rfl
  | some x=>rw [q] at a;exact (a rfl).elim
theorem DK (kvs:List (κ × V))(k:κ)(v:V):(putK kvs k v).length<=kvs.length+1:=by
 unfold putK;split
 ·rw [List.length_map];omega
 ·rw [List.length_append,List.length_cons,List.length_nil];omega
theorem R0 {kvs:List (κ × V)}{k:κ}(v:V)(h:AN kvs k=none):putK kvs k v=kvs++[(k,v)]:=by
 unfold putK;rw [CC,h];exact if_neg ⟨⟩
theorem Dd.aae (r:Dd o u):o.isSome=u.isSome:=by
 cases o with
 | none=>cases u with
  | none=>rfl
  | some _=>exact (show False from r).elim
 | some _=>cases u with
  | none=>exact (show False from r).elim
  | some _=>rfl
theorem Dd.getD (r:Dd o u)(left:RelV d d'):RelV (o.getD d) (u.getD d'):=by
 cases o with
 | none=>cases u with
  | none=>exact left
  | some _=>exact (show False from r).elim
 | some _=>cases u with
  | none=>exact (show False from r).elim
  | some _=>exact r
theorem KV.val {kvs:List (κ × V)}{vs:List (κ × Value)}(r:KV kvs vs)(k:κ):Dd (AN kvs k) (valueAt vs k):=by
 unfold KV at r
 induction r with
 | nil=>exact True.intro
 | @cons p q ps qs h t ih =>
  obtain ⟨h1,h2⟩:=h;by_cases e:p.1=k
  ·have e':q.1=k:=h1.symm.trans e;have b:valueAt (q::qs) k=some q.2:=(by simp [valueAt,List.find?_cons,e']);rw [AZ e,b];exact h2
  ·have e':¬ q.1=k:=λz=>e (h1.trans z);have b:valueAt (q::qs) k=valueAt qs k:=(by simp [valueAt,List.find?_cons,e']);rw [A' e,b];exact ih
theorem KV.any (r:KV kvs vs)(k:κ):(kvs.any λkv=>decide (kv.1=k))=vs.any λkv=>decide (kv.1=k):=by
 unfold KV at r
 induction r with
 | nil=>rfl
 | cons h t ih=>rw [List.any_cons,List.any_cons,ih,h.1]
theorem KV.aca (r:KV kvs vs)(k:κ)(ry:RelV y u):
  KV (kvs.map λkv=>if kv.1=k then (kv.1,y) else kv) (vs.map λkv=>if kv.1=k then (kv.1,u) else kv):=by
 unfold KV at r ⊢
 induction r with
 | nil=>exact .nil
 | @cons p q ps qs h t ih =>
  rw [List.map_cons,List.map_cons];refine .cons ?_ ih;obtain ⟨h1,h2⟩:=h;by_cases e:p.1=k
  ·rw [if_pos e,if_pos (h1.symm.trans e)];exact ⟨h1,ry⟩
  ·rw [if_neg e,if_neg (λz=>e (h1.trans z))];exact ⟨h1,h2⟩
theorem KV.put (r:KV kvs vs)(k:κ)(ry:RelV y u):KV (putK kvs k y) (stored vs k u):=by
 unfold putK stored;rw [r.any k];by_cases e:(vs.any λkv=>decide (kv.1=k))=true
 ·rw [if_pos e,if_pos e];exact r.aca k ry
 ·rw [if_neg e,if_neg e];exact Paired.snoc r ⟨rfl,ry⟩
theorem KV.drop (r:KV kvs vs)(k:κ):KV (C0 kvs k) (without vs k):=by
 unfold KV at r ⊢;unfold C0 without
 induction r with
 | nil=>exact .nil
 | @cons p q ps qs h t ih =>
  obtain ⟨h1,h2⟩:=h;rw [List.filter_cons,List.filter_cons];by_cases e:p.1=k
  ·have a:¬ decide (p.1≠k)=true:=(by simp [e]);have b:¬ decide (q.1≠k)=true:=(by simp [h1.symm.trans e]);rw [if_neg a,if_neg b];exact ih
  ·have e':¬ q.1=k:=λz=>e (h1.trans z);have a:decide (p.1≠k)=true:=(by simp [e]);have b:decide (q.1≠k)=true:=(by simp [e']);rw [if_pos a,if_pos b];exact .cons ⟨h1,h2⟩ ih
theorem KV.length (r:KV kvs vs):kvs.length=vs.length:=Paired.length r
theorem GZ (kvs:List (κ × V))(k:κ):(C0 kvs k).length<=kvs.length:=List.length_filter_le _ _
end
theorem CV (r:RelV (kV k) u):(Ap P w).is k u=true:=by
 cases k with
 | inl i=>obtain ⟨t,e⟩:=(show ∃ t,u=Value.int i t from r);subst e;exact JW P w i t
 | inr x=>obtain ⟨t,e⟩:=(show ∃ t,u=Value.str x t from r);subst e;exact DB P w x t
theorem Iv {P:Program}{w:World}:∀ {ks:List Key} {us:List Value},Vals (ks.map kV) us->ItemsAre (Ap P w) ks us
 | [],_,r=>by rw [List.map_nil] at r;cases r;exact .nil
 | k::ks,_,r=>by
  rw [List.map_cons] at r;cases r with
  | cons h t=>exact .cons (CV h) (Iv t)
abbrev KT (H:Hp):List (List Key × V)->List (List Key × Addr × Value)->Prop:=Paired λp q=>p.1=q.1/\H q.2.1=some (.tup (p.1.map kV))/\RelV p.2 q.2.2
theorem KT.val {H:Hp}{kvs:List (List Key × V)}{xs:List (List Key × Addr × Value)}(r:KT H kvs xs)(k:List Key):Dd (AN kvs k) ((atKey xs k).map (·.2)):=by
 induction r with
 | nil=>exact True.intro
 | @cons p q ps qs h t ih =>
  obtain ⟨h1,_,h2⟩:=h;by_cases e:p.1=k
  ·have e':q.1=k:=h1.symm.trans e;have b:atKey (q::qs) k=some q.2:=(by simp [atKey,List.find?_cons,e']);rw [AZ e,b];exact h2
  ·have e':¬ q.1=k:=λz=>e (h1.trans z);have b:atKey (q::qs) k=atKey qs k:=(by simp [atKey,List.find?_cons,e']);rw [A' e,b];exact ih
theorem KT.aca (r:KT H kvs xs)(k:List Key)(ry:RelV y u):
  KT H (kvs.map λkv=>if kv.1=k then (kv.1,y) else kv) (xs.map (putAt k u)):=by
 induction r with
 | nil=>exact .nil
 | @cons p q ps qs h t ih =>
  rw [List.map_cons,List.map_cons];refine .cons ?_ ih;obtain ⟨h1,h2,h3⟩:=h;unfold putAt;by_cases e:p.1=k
  ·rw [if_pos e,if_pos (h1.symm.trans e)];exact ⟨h1,h2,ry⟩
  ·rw [if_neg e,if_neg (λz=>e (h1.trans z))];exact ⟨h1,h2,h3⟩
theorem KT.put (r:KT H kvs xs)(k:List Key)(hb:H b=some (.tup (k.map kV)))(ry:RelV y u):
  KT H (putK kvs k y) (storedH xs k b u):=by
 have e:(kvs.any λkv=>decide (kv.1=k))=(atKey xs k).isSome:=by
  rw [CC,(r.val k).aae,Option.isSome_map]
 unfold putK storedH;rw [e];by_cases q:(atKey xs k).isSome=true
 ·rw [if_pos q,if_pos q];exact r.aca k ry
 ·rw [if_neg q,if_neg q];exact Paired.snoc r ⟨rfl,hb,ry⟩
theorem KT.keeps (r:KT H kvs xs)(ht:∀ b ys,H b=some (.tup ys)->H' b=some (.tup ys)):KT H' kvs xs :=
 Paired.aag r λ_ _ z=>⟨z.1,ht _ _ z.2.1,z.2.2⟩
section
variable {P:Program}{w:World}{H:Hp}{h:Heap}{a:Addr}
theorem Xf (ok:De P w H h)(e:Rd H a u):AJ P w H h a u:=e.ok ok
theorem FW (ok:De P w H h)(e:Rd H a (.dK kvs)):kvs.length<=sizeLine/\(a==sysModules)=false/\∃ vs,KV kvs vs/\h.DictOf (Ap P w) a vs :=
 show AJ P w H h a (.dK kvs) from Xf ok e
theorem G' (ok:De P w H h)(e:H a=some (.dK kvs)):kvs.length<=sizeLine/\(a==sysModules)=false/\∃ vs,KV kvs vs/\h.DictOf (Ap P w) a vs:=FW ok (.inl e)
theorem Fq (ok:De P w H h)(e:H a=some (.tup (ks.map kV))):(tupleKind (Ap P w)).is h ks a:=by
 obtain ⟨_,its,r,o,h1,h2,n,h3⟩:=(show AJ P w H h a (.tup (ks.map kV)) from ok a _ e);exact ⟨o,its.toArray,n,h1,h2,h3,by simpa using Iv r⟩
theorem Hb (ok:De P w H h)(e:Rd H a (.dT kvs)):kvs.length<=sizeLine/\(a==sysModules)=false /\
  ∃ xs,KT H kvs xs/\h.DictOfH (tupleKind (Ap P w)) a xs:=by
 obtain ⟨z,y,xs,r,o,es,ep,h1,h2,h3,h4,h5⟩:=(show AJ P w H h a (.dT kvs) from Xf ok e);refine ⟨z,y,xs,r,o,es,ep,h1,h2,h3,h4,λx hx=>?_,h5⟩;have all:∀ {l:List (List Key × V)} {m:List (List Key × Addr × Value)},KT H l m->∀ x∈m,(tupleKind (Ap P w)).is h x.1 x.2.1:=by
  intro l m q
  induction q with
  | nil=>intro x hx;exact nomatch hx
  | @cons p q ps qs hq t ih =>
   intro x hx;rcases List.mem_cons.mp hx with e | hx
   ·subst e;exact Fq ok (by rw [<- hq.1];exact hq.2.1)
   ·exact ih x hx
 exact all r x hx
theorem f9 (ok:De P w H h)(e:H a=some (.dT kvs)):kvs.length<=sizeLine/\(a==sysModules)=false /\
  ∃ xs,KT H kvs xs/\h.DictOfH (tupleKind (Ap P w)) a xs:=Hb ok (.inl e)
end
noncomputable def BJ (H:Hp)(a:Addr)(y:V)(r:Option V):Prop :=
 (∃ kvs k,Rd H a (.dK kvs)/\y=kV k/\r=AN kvs k)\/∃ kvs k b,Rd H a (.dT kvs)/\y=.ref b/\H b=some (.tup (k.map kV))/\r=AN kvs k
noncomputable def YT (H:Hp)(a:Addr)(y v:V)(H':Hp):Prop :=
 (∃ kvs k,H a=some (.dK kvs)/\y=kV k/\kvs.length < sizeLine/\H'=upd H a (.dK (putK kvs k v))) \/
 ∃ kvs k b,H a=some (.dT kvs)/\y=.ref b/\H b=some (.tup (k.map kV))/\kvs.length < sizeLine/\H'=upd H a (.dT (putK kvs k v))
theorem BJ.k {H:Hp}{a:Addr}{kvs:List (Key × V)}{k:Key}(e:H a=some (.dK kvs)):BJ H a (kV k) (AN kvs k):=.inl ⟨kvs,k,.inl e,rfl,rfl⟩
section
variable {X:Cx}{pins:List (Addr × Obj)}{σ:St}{H:Hp}{s:Shared}{a:Addr}{y v:V}{u r:Value}{o:Option V}{A:Around}{E:Value->Shared->Prop}
theorem Inv.big (I:Inv X pins σ H s):sysModules < s.heap.objs.size:=by
 have h:mainGlobals < s.heap.objs.size:=(I.mod.glob.keeps I.bk).lt;exact Nat.lt_trans ⟨⟩ h
theorem Pe (hu:A.units+1 < cLine)(I:Inv X pins σ H s)(g:BJ H a y (some v))(ry:RelV y u)(h:∀ w' s',Inv X pins σ H s'->RelV v w'->Q w' s'):
  wpAny (model X.prog X.w) A (getItem (.ref a) u) Q E s:=by
 rcases g with ⟨kvs,k,e,ey,l⟩ | ⟨kvs,k,b,e,ey,eb,l⟩
 ·subst ey;obtain ⟨z,hd,vs,rel,dd⟩:=FW I.hok e;obtain ⟨w',hw,LW⟩:=Dd.some_of (v:=v) (o:=valueAt vs k) (by rw [l];exact rel.val k);exact wpAny_getItem_of (CV ry) dd.mapOf hw (h w' _ (I.tok _) LW)
 ·subst ey;cases (show u=Value.ref b from ry);obtain ⟨z,hd,xs,rel,dd⟩:=Hb I.hok e;obtain ⟨w',hw,LW⟩:=Dd.some_of (v:=v) (o:=(atKey xs k).map (·.2)) (by rw [l];exact rel.val k);obtain ⟨p,hp,yA⟩:=Option.map_eq_some_iff.mp hw;refine wpAny_getItem_heap (tupleKind_room_in1 hu) (Fq I.hok eb) dd hp ?_;rw [yA];exact h w' _ (I.tok _) LW
theorem ou (hu:A.units+1 < cLine)(I:Inv X pins σ H s)(g:BJ H a y o)(ry:RelV y u)(h:∀ s',Inv X pins σ H s'->Q (.bool o.isSome) s'):
  wpAny (model X.prog X.w) A (compareOp .In u (.ref a)) Q E s:=by
 rcases g with ⟨kvs,k,e,ey,l⟩ | ⟨kvs,k,b,e,ey,eb,l⟩
 ·subst ey;obtain ⟨z,hd,vs,rel,dd⟩:=FW I.hok e;refine wpAny_in_of (CV ry) hd dd.mapOf ?_;rw [<- (rel.val k).aae,<- l];exact h _ (I.tok _)
 ·subst ey;cases (show u=Value.ref b from ry);obtain ⟨z,hd,xs,rel,dd⟩:=Hb I.hok e;refine wpAny_in_heap (tupleKind_room_in1 hu) (Fq I.hok eb) hd dd ?_;have q:=(rel.val k).aae;rw [Option.isSome_map] at q;rw [<- q,<- l];exact h _ (I.tok _)
theorem UW (hu:A.units+1 < cLine)(I:Inv X pins σ H s)(g:BJ H a y o)(ry:RelV y u)(h:∀ s',Inv X pins σ H s'->Q (.bool (!o.isSome)) s'):
  wpAny (model X.prog X.w) A (compareOp .NotIn u (.ref a)) Q E s:=by
 rcases g with ⟨kvs,k,e,ey,l⟩ | ⟨kvs,k,b,e,ey,eb,l⟩
 ·subst ey;obtain ⟨z,hd,vs,rel,dd⟩:=FW I.hok e;refine wpAny_notIn_of (CV ry) hd dd.mapOf ?_;rw [<- (rel.val k).aae,<- l];exact h _ (I.tok _)
 ·subst ey;cases (show u=Value.ref b from ry);obtain ⟨z,hd,xs,rel,dd⟩:=Hb I.hok e;refine wpAny_notIn_heap (tupleKind_room_in1 hu) (Fq I.hok eb) hd dd ?_;have q:=(rel.val k).aae;rw [Option.isSome_map] at q;rw [<- q,<- l];exact h _ (I.tok _)
theorem E7 (I:Inv X pins σ H s)(mu:eF (H a))(hs:Heap.SameBut a s.heap h')(he:∃ q,h'.get? a=some q)(new:AJ X.prog X.w (upd H a ob) h' a ob):
  Inv X pins σ (upd H a ob) { s with heap:=h',toks:=t' } :=
 I.write (x:=a) (e:=a) mu (.inl rfl) (λb q hb z=>(hs.2 b hb).trans z) he new
theorem Ey (z:kvs.length<=sizeLine)(hd:(a==sysModules)=false)(rel:KV kvs vs)(dd:h'.DictOf (Ap P w) a vs):
  AJ P w H' h' a (.dK kvs):=⟨z,hd,vs,rel,dd⟩
theorem Pf (hu:A.units+1 < cLine)(I:Inv X pins σ H s)(g:YT H a y v H')(ry:RelV y u)(rv:RelV v r)(h:∀ s',Inv X pins σ H' s'->Q .unit s'):
  wpAny (model X.prog X.w) A (setItem (.ref a) u r) Q E s:=by
 rcases g with ⟨kvs,k,e,ey,l,eH⟩ | ⟨kvs,k,b,e,ey,eb,l,eH⟩
 ·subst ey eH;obtain ⟨z,hd,vs,rel,dd⟩:=G' I.hok e;have hz:vs.length<=sizeLine:=by rw [<- rel.length];exact z
  have hl:(putK kvs k v).length<=sizeLine:=by have:=DK kvs k v;omega
  refine wpAny_setItem_pairs (hsz:=hz) (CV ry) dd λh' Kg hs=>h _ ?_;have he:∃ q,h'.get? a=some q:=let ⟨q,_,_,hq,_⟩:=Kg;⟨q,hq⟩;exact E7 I (by rw [e];exact True.intro) hs he (Ey hl hd (rel.put k rv) Kg)
 ·subst ey eH;cases (show u=Value.ref b from ry);obtain ⟨z,hd,xs,rel,dd⟩:=f9 I.hok e;have hz:xs.length<=sizeLine:=by rw [<- Paired.length rel];exact z
  have hl:(putK kvs k v).length<=sizeLine:=by have:=DK kvs k v;omega
  refine wpAny_setItem_heap (hsz:=hz) (tupleKind_room_in1 hu) (Fq I.hok eb) dd λh' Kg hs=>h _ ?_;obtain ⟨q,es,ep,hq,h2,h3,h4,_,h5⟩:=Kg;refine E7 I (by rw [e];exact True.intro) hs ⟨q,hq⟩ ⟨hl,hd,_,(rel.put k eb rv).keeps λc ys ec=>?_,q,es,ep,hq,h2,h3,h4,h5⟩;rw [A8 (eC ec e (λz=>nomatch z))];exact ec
end
section
variable {X:Cx}{pins:List (Addr × Obj)}{σ:St}{H:Hp}{s:Shared}{a:Addr}{kvs:List (Key × V)}{k:Key}{u:Value}{A:Around}{E:Value->Shared->Prop}
theorem cF (I:Inv X pins σ H s)(e:H a=some (.dK kvs))(ry:RelV (kV k) u)(l:(AN kvs k).isSome=true)(h:∀ s',Inv X pins σ (upd H a (.dK (C0 kvs k))) s'->Q .unit s'):
  wpAny (model X.prog X.w) A (delItem (.ref a) u) Q E s:=by
 obtain ⟨z,hd,vs,rel,dd⟩:=G' I.hok e;refine wpAny_delItem_slot dd.typeIs ⟨⟩ PySem.F.slot_dict_delitem
  (call_meetsIn PySem.F.slot_dict_delitem dd.typeIs PySem.F.entry_dict_delitem (PySem.F.args_dict_delitem_2 _ _) (meets_dict_delitem_pairs (Ap X.prog X.w) a (CV ry)) ⟨vs,dd,by rw [<- rel.length];exact z,by rw [<- (rel.val k).aae];exact l,λh' Kg hs=>h _ ?_⟩)
 have he:∃ q,h'.get? a=some q:=let ⟨q,_,_,hq,_⟩:=Kg;⟨q,hq⟩;exact E7 I (by rw [e];exact True.intro) hs he (Ey (Nat.le_trans (GZ kvs k) z) hd (rel.drop k) Kg)
theorem ff (I:Inv X pins σ H s)(e:H a=some (.dK kvs))(ry:RelV (kV k) u)(l:AN kvs k=some v)(hm:more=[]\/∃ x,more=[x])(h:∀ w' s',Inv X pins σ (upd H a (.dK (C0 kvs k))) s'->RelV v w'->Q w' s'):wpAny (model X.prog X.w) A (call (.builtin "dict.pop") (.ref a::u::more)) Q E s:=by
 obtain ⟨z,hd,vs,rel,dd⟩:=G' I.hok e;obtain ⟨w',hw,LW⟩:=Dd.some_of (v:=v) (o:=valueAt vs k) (by rw [<- l];exact rel.val k);have hp:(keyPart u).isSome=true:=by
  cases k with
  | inl i=>obtain ⟨t,q⟩:=(show ∃ t,u=Value.int i t from ry);subst q;rfl
  | inr x=>obtain ⟨t,q⟩:=(show ∃ t,u=Value.str x t from ry);subst q;rfl
 have ha:argsOk "dict.pop" ⟨.ref a::u::more,[]⟩:=by
  rcases hm with q | ⟨x,q⟩
  ·subst q;exact PySem.F.args_dict_pop_2 _ _
  ·subst q;exact PySem.F.args_dict_pop_3 _ _ _
 refine call_meetsIn PySem.F.slot_dict_pop dd.typeIs PySem.F.entry_dict_pop ha (meets_dict_pop_there (Ap X.prog X.w) a (CV ry) more hm hp)
  ⟨vs,w',dd,by rw [<- rel.length];exact z,hw,λh' Kg hs=>h w' _ ?_ LW⟩
 have he:∃ q,h'.get? a=some q:=let ⟨q,_,_,hq,_⟩:=Kg;⟨q,hq⟩;exact E7 I (by rw [e];exact True.intro) hs he (Ey (Nat.le_trans (GZ kvs k) z) hd (rel.drop k) Kg)
theorem YU (I:Inv X pins σ H s)(e:H a=some (.dK kvs))(ry:RelV (kV k) u)(l:AN kvs k=none)(h:∀ s',Inv X pins σ H s'->Q r s'):
  wpAny (model X.prog X.w) A (call (.builtin "dict.pop") [.ref a,u,r]) Q E s:=by
 obtain ⟨z,hd,vs,rel,dd⟩:=G' I.hok e;have hn:valueAt vs k=none:=Dd.none_of (by rw [<- l];exact rel.val k);have hp:(keyPart u).isSome=true:=by
  cases k with
  | inl i=>obtain ⟨t,q⟩:=(show ∃ t,u=Value.int i t from ry);subst q;rfl
  | inr x=>obtain ⟨t,q⟩:=(show ∃ t,u=Value.str x t from ry);subst q;rfl
 exact call_meetsIn PySem.F.slot_dict_pop dd.typeIs PySem.F.entry_dict_pop (PySem.F.args_dict_pop_3 _ _ _) (meets_dict_pop_default (Ap X.prog X.w) a (CV ry) hd hp r) ⟨vs,dd,hn,h _ (I.tok _)⟩
end
noncomputable def Mb (i:Expr):Prop:=∀ ov iv,subscripted i false ov iv=operate [ov,iv] (getItem ov iv)
theorem J7 {prog:Program}{w:World}{A:Around}{E:Value->Shared->Prop}{s:Shared}{env:Env}{value slice:Expr}{pos:Pos}{T id:String}{Q:Value->Shared->Prop}
  (hl:typeLookup (.type T) "__getitem__"=pure (some (.builtin id))) (hs:Mb slice)
  (h:wpAny (model prog w) A (eval value env) (λo s₁=>wpAny (model prog w) A (eval slice env) (λi s₂=>s₂.TypeIs o T/\wpAny (model prog w) A (getItem o i) Q E s₂) E s₁) E s) :
  wpAny (model prog w) A (eval (.Subscript value slice pos) env) Q E s:=by
 refine Subscript_ (wpAny_mono h (λo s₁ h₁=>wpAny_mono h₁ (λi s₂ h₂=>?_) λ_ _ x=>x) λ_ _ x=>x);obtain ⟨hT,h₂⟩:=h₂;unfold subscriptTail;refine wpAny_bind ?_;rw [getitemInPython_of_ne hT.not_modules];refine wpAny_bind (wpAny_specialOf hT hl ?_);have fin:wpAny (model prog w) A (subscripted slice false o i) (λr s₃=>wpAny (model prog w) A (letTemporaryGo value o r >>= λ_=>pure r) Q E s₃) E s₂:=by
  rw [hs o i];exact wpAny_operating (wpAny_mono h₂ (λr s₃ h₃=>wpAny_bind (wpAny_letTemporaryGo (wpAny_pure h₃))) λ_ _ x=>x)
 first
  | exact wpAny_pure (wpAny_bind fin)
  | exact wpAny_bind (wpAny_pure (wpAny_bind fin))
  | exact wpAny_bind fin
theorem Kh (I:Inv X pins σ H s)(g:BJ H a y o):s.TypeIs (.ref a) "dict":=by
 rcases g with ⟨kvs,k,e,_,_⟩ | ⟨kvs,k,b,e,_,_,_⟩
 ·obtain ⟨_,_,vs,_,dd⟩:=FW I.hok e;exact dd.typeIs
 ·obtain ⟨_,_,xs,_,dd⟩:=Hb I.hok e;exact dd.typeIs
noncomputable def NM (td ty:TE):TE:=fun σ H Q=>td σ H λx H1=>ty σ H1 λy H2=>∃ a v,x=.ref a/\BJ H2 a y (some v)/\Q v H2
noncomputable def R1 (ty td:TE):TE:=fun σ H Q=>ty σ H λy H1=>td σ H1 λx H2=>∃ a o,x=.ref a/\BJ H2 a y o/\Q (.bl o.isSome) H2
noncomputable def J8 (ty td:TE):TE:=fun σ H Q=>ty σ H λy H1=>td σ H1 λx H2=>∃ a o,x=.ref a/\BJ H2 a y o/\Q (.bl (!o.isSome)) H2
noncomputable def R3 (td ty tv:TE):TS:=λD σ H=>tv σ H λv H1=>td σ H1 λx H2=>ty σ H2 λy H3=>∃ a H4,x=.ref a/\YT H3 a y v H4/\D.nx σ H4
section
variable {X:Cx}{o i e value:Expr}{pos pos' K6:Pos}{td ty tv:TE}
theorem UX (hu:X.A.units+1 < cLine)(ho:PE X o td)(hi:PE X i ty)(hs:Mb i):PE X (.Subscript o i pos) (NM td ty):=by
 intro pins s σ H Q I h;refine J7 PySem.F.slot_dict_getitem.lookup hs (AK (ho pins s σ H _ I h) λu s1 Au=>?_);obtain ⟨x,H1,I1,rx,q1⟩:=Au;refine AK (hi pins s1 σ H1 _ I1 q1) λiv s2 Au=>?_;obtain ⟨y,H2,I2,ry,a,v,ex,g,q2⟩:=Au;subst ex;obtain rfl:u=Value.ref a:=rx;exact ⟨Kh I2 g,Pe hu I2 g ry λw' s3 I3 LW=>⟨v,H2,I3,LW,q2⟩⟩
theorem R4 (hu:X.A.units+1 < cLine)(hi:PE X i ty)(ho:PE X o td):PC X .In i o (R1 ty td):=by
 intro pins s σ H Q I h;refine AK (hi pins s σ H _ I h) λiv s1 Au=>?_;obtain ⟨y,H1,I1,ry,q1⟩:=Au;refine AK (ho pins s1 σ H1 _ I1 q1) λu s2 Au=>?_;obtain ⟨x,H2,I2,rx,a,ov,ex,g,q2⟩:=Au;subst ex;obtain rfl:u=Value.ref a:=rx;exact ou hu I2 g ry λs3 I3=>⟨.bl ov.isSome,H2,I3,rfl,q2⟩
theorem Pg (hu:X.A.units+1 < cLine)(hi:PE X i ty)(ho:PE X o td):PC X .NotIn i o (J8 ty td):=by
 intro pins s σ H Q I h;refine AK (hi pins s σ H _ I h) λiv s1 Au=>?_;obtain ⟨y,H1,I1,ry,q1⟩:=Au;refine AK (ho pins s1 σ H1 _ I1 q1) λu s2 Au=>?_;obtain ⟨x,H2,I2,rx,a,ov,ex,g,q2⟩:=Au;subst ex;obtain rfl:u=Value.ref a:=rx;exact UW hu I2 g ry λs3 I3=>⟨.bl (!ov.isSome),H2,I3,rfl,q2⟩
theorem UY (hu:X.A.units+1 < cLine)(ho:PE X o td)(hi:PE X i ty)(hv:PE X value tv)(hs:swapsWith value (some (.Subscript o i pos')) pos.line X.env=pure false):
  PS X (.Assign [.Subscript o i pos'] value pos) (R3 td ty tv):=by
 intro pins s σ H D I h;refine wpAny_Assign_Subscript (AK (hv pins s σ H _ I h) λr s1 Au=>?_) hs;obtain ⟨v,H1,I1,rv,q1⟩:=Au;refine AK (ho pins s1 σ H1 _ I1 q1) λu s2 Au=>?_;obtain ⟨x,H2,I2,rx,q2⟩:=Au;refine AK (hi pins s2 σ H2 _ I2 q2) λiv s3 Au=>?_;obtain ⟨y,H3,I3,ry,a,H4,ex,g,q3⟩:=Au;subst ex;obtain rfl:u=Value.ref a:=rx;exact Pf hu I3 g ry rv λs4 I4=>⟨σ,H4,I4,q3⟩
end
theorem Ki (h:Heap)(hb:sysModules < h.objs.size):AJ P w H (h.push { cls:=.type "dict",data:=.dict #[] }) h.objs.size (.dK []) :=
 ⟨Nat.zero_le _,beq_eq_false_iff_ne.mpr (Ne.symm (Nat.ne_of_lt hb)),[],.nil,Heap.DictOf.new h⟩
noncomputable def R5:TE:=λ_ H Q=>∀ p,H p=none->Q (.ref p) (upd H p (.dK []))
section
variable {X:Cx}{pos:Pos}
theorem R6:PE X (.Dict [] [] pos) R5:=λpins s σ H Q I h =>
 wpAny_Dict_empty ⟨.ref s.heap.objs.size,_,I.laid (a:=s.heap.objs.size) (o:=.dK []) (t':=s.toks) (λ_ _ q=>Heap.get?_push_of_some _ q) (Nat.le_refl _) (Ki s.heap I.big),rfl,h _ (I.hok.fresh (Nat.le_refl _))⟩
end
noncomputable def Ez:List (TE × TE)->St->Hp->(List (V × V)->Hp->Prop)->Prop
 | [],_,H,Q=>Q [] H
 | (tk,tv)::r,σ,H,Q=>tk σ H λx H1=>tv σ H1 λy H2=>Ez r σ H2 λps H3=>Q ((x,y)::ps) H3
abbrev VV:List (V × V)->List (Value × Value)->Prop:=Paired λp q=>RelV p.1 q.1/\RelV p.2 q.2
noncomputable def fg (X:Cx)(pos:Pos)(keys:List (Option Expr))(values:List Expr)(Iw:List (TE × TE)):Prop :=
 ∀ (pins:List (Addr × Obj)) (s:Shared) (σ:St) (H:Hp) (Q:List (V × V)->Hp->Prop),Inv X pins σ H s->Ez Iw σ H Q ->
  wpAny (model X.prog X.w) X.A (evalPairs (pairTrees keys values X.env pos)) (λvs s'=>∃ ps H',Inv X pins σ H' s'/\VV ps vs/\Q ps H') X.xe s
theorem UZ:fg X pos [] [] []:=λpins s σ H Q I h=>pairTrees_nil_walk ⟨[],H,I,.nil,h⟩
theorem R7 (hk:PE X k tk)(hv:PE X v tv)(hr:fg X pos ks vs Iw):
  fg X pos (some k::ks) (v::vs) ((tk,tv)::Iw):=λpins s σ H Q I h =>
 pairTrees_cons_walk (AK (hk pins s σ H _ I h) λu s1 ⟨x,H1,I1,rx,q1⟩=>AK (hv pins s1 σ H1 _ I1 q1) λw2 s2 ⟨y,H2,I2,ry,q2⟩ =>
  AK (hr pins s2 σ H2 _ I2 q2) λws s3 ⟨ps,H3,I3,rel,q3⟩=>⟨(x,y)::ps,H3,I3,.cons ⟨rx,ry⟩ rel,q3⟩)
noncomputable def Bq (kvs more:List (Key × V)):List (Key × V):=more.foldl (λacc kv=>putK acc kv.1 kv.2) kvs
theorem KV.merge:∀ {more:List (Key × V)} {rs:List (Key × Value)} {kvs:List (Key × V)} {vs:List (Key × Value)},KV more rs->KV kvs vs->KV (Bq kvs more) (merged vs rs):=by
 intro more rs kvs vs r;unfold KV at r
 induction r generalizing kvs vs with
 | nil=>intro q;exact q
 | @cons p q ps qs h t ih =>
  intro r0;have e:KV (putK kvs p.1 p.2) (stored vs q.1 q.2):=by
   have:=r0.put p.1 h.2;rw [<- h.1];exact this
  exact ih e
theorem D9:∀ (more kvs:List (Key × V)),(Bq kvs more).length<=kvs.length+more.length
 | [],kvs=>by show kvs.length<=kvs.length+0;omega
 | p::r,kvs=>by
  have h1:=D9 r (putK kvs p.1 p.2);have h2:=DK kvs p.1 p.2;show (Bq (putK kvs p.1 p.2) r).length<=_;rw [List.length_cons];omega
theorem Hc {P:Program}{w:World}:∀ {kvs:List (Key × V)} {ws:List (Value × Value)},VV (kvs.map λkv=>(kV kv.1,kv.2)) ws->∃ rs,Carries (Ap P w) ws rs/\KV kvs rs
 | [],_,r=>by rw [List.map_nil] at r;cases r;exact ⟨[],True.intro,.nil⟩
 | p::kvs,_,r=>by
  rw [List.map_cons] at r;cases r with
  | @cons a b as bs h t =>
   obtain ⟨rs,c,q⟩:=Hc (P:=P) (w:=w) t;obtain ⟨b1,b2⟩:=b;exact ⟨(p.1,b2)::rs,⟨CV h.1,rfl,c⟩,.cons ⟨rfl,h.2⟩ q⟩
noncomputable def R8 (Iw:List (TE × TE)):TE:=fun σ H Q=>∀ p,H p=none->Ez Iw σ (upd H p (.dK [])) λps H2=>H2 p=some (.dK [])/\∃ kvs:List (Key × V),ps=kvs.map (λkv=>(kV kv.1,kv.2))/\kvs.length<=15/\Q (.ref p) (upd H2 p (.dK (Bq [] kvs)))
theorem U' (h:fg X pos keys values Iw)(R9:keys.all (·.isSome)=true)(hl:keys.length=values.length)(h0:keys≠[])(ox:keys.length<=15):PE X (.Dict keys values pos) (R8 Iw):=by
 intro pins s σ H Q I q;have hn:=I.hok.fresh (Nat.le_refl s.heap.objs.size);have I1:=I.laid (a:=s.heap.objs.size) (o:=.dK []) (h':=s.heap.push { cls:=.type "dict",data:=.dict #[] }) (t':=s.toks) (λ_ _ q=>Heap.get?_push_of_some _ q) (Nat.le_refl _) (Ki s.heap I.big);refine wpAny_Dict_walk (knd:=Ap X.prog X.w) R9 hl h0 ox (AK (h pins _ σ _ _ I1 (q _ hn)) λws s2 Au=>?_);obtain ⟨ps,H2,I2,rel,e,kvs,ep,lk,q2⟩:=Au;subst ep;obtain ⟨rs,c,rk⟩:=Hc (P:=X.prog) (w:=X.w) rel;obtain ⟨z,hd,vs0,r0,dd⟩:=G' I2.hok e;cases r0;refine ⟨rs,c,dd,λh' Kg hs=>⟨.ref s.heap.objs.size,_,?_,rfl,q2⟩⟩;have hz:(Bq [] kvs).length<=sizeLine:=by
  have h1:=D9 kvs [];rw [List.length_nil] at h1;rw [sizeLine_eq];omega
 have he:∃ q,h'.get? s.heap.objs.size=some q:=let ⟨q,_,_,hq,_⟩:=Kg;⟨q,hq⟩;exact E7 I2 (by rw [e];exact True.intro) hs he (Ey hz hd (rk.merge .nil) Kg)
structure M1 (X:Cx)(o:Expr)(m:Str)(apos:Pos)(e:Expr)(B8:Pos):Prop where
 base:attributeBase o m X.env (eval o X.env)=eval o X.env
 few:((backTo B8 (starEach [e] X.env)).all (λx=>!x.1) && (backToKw B8 (keywordEach [] X.env)).all (λx=>x.1.isSome)
  && decide (([e]:List Expr).length+([]:List Keyword).length+(if ([]:List Keyword).isEmpty then 0 else 1) < 30))=true
 line:(apos.endLine==B8.line)=true
 trees:backTo B8 (starEach [e] X.env)=[(false,eval e X.env)]
structure M2 (X:Cx)(o:Expr)(m:Str)(apos:Pos)(e f:Expr)(B8:Pos):Prop where
 base:attributeBase o m X.env (eval o X.env)=eval o X.env
 few:((backTo B8 (starEach [e,f] X.env)).all (λx=>!x.1) && (backToKw B8 (keywordEach [] X.env)).all (λx=>x.1.isSome)
  && decide (([e,f]:List Expr).length+([]:List Keyword).length+(if ([]:List Keyword).isEmpty then 0 else 1) < 30))=true
 line:(apos.endLine==B8.line)=true
 trees:backTo B8 (starEach [e,f] X.env)=[(false,eval e X.env),(false,eval f X.env)]
noncomputable def YV (H:Hp)(a:Addr):Prop:=(∃ kvs,Rd H a (.dK kvs))\/∃ kvs,Rd H a (.dT kvs)
theorem Md (I:Inv X pins σ H s)(d:YV H a):
  s.TypeIs (.ref a) "dict"/\(∀ b,Value.ref a=.ref b->∃ ob,s.heap.get? b=some ob/\ob.dict=none)/\(a==sysModules)=false:=by
 rcases d with ⟨kvs,e⟩ | ⟨kvs,e⟩
 ·obtain ⟨_,hd,vs,_,dd⟩:=FW I.hok e;refine ⟨dd.typeIs,λb q=>?_,hd⟩;cases q;obtain ⟨ob,_,_,h1,h2,_⟩:=dd;exact ⟨ob,h1,h2.2.1⟩
 ·obtain ⟨_,hd,xs,_,dd⟩:=Hb I.hok e;refine ⟨dd.typeIs,λb q=>?_,hd⟩;cases q;obtain ⟨ob,_,_,h1,h2,_⟩:=dd;exact ⟨ob,h1,h2.2.1⟩
section
variable {X:Cx}{pins:List (Addr × Obj)}{σ:St}{H:Hp}{s:Shared}{a:Addr}{y d:V}{u r:Value}{o:Option V}{A:Around}{E:Value->Shared->Prop}
theorem YW (hu:A.units+1 < cLine)(I:Inv X pins σ H s)(g:BJ H a y o)(ry:RelV y u)(left:RelV d r)(h:∀ w' s',Inv X pins σ H s'->RelV (o.getD d) w'->Q w' s'):
  wpAny (model X.prog X.w) A (call (.builtin "dict.get") [.ref a,u,r]) Q E s:=by
 rcases g with ⟨kvs,k,e,ey,l⟩ | ⟨kvs,k,b,e,ey,eb,l⟩
 ·subst ey;obtain ⟨z,hd,vs,rel,dd⟩:=FW I.hok e;refine call_meetsIn PySem.F.slot_dict_get dd.typeIs PySem.F.entry_dict_get (PySem.F.args_dict_get_3 _ _ _) (meets_dict_get_default (Ap X.prog X.w) a (CV ry) hd r) ⟨_,dd.mapOf,h _ _ (I.tok _) ?_⟩;rw [l];exact (rel.val k).getD left
 ·subst ey;cases (show u=Value.ref b from ry);obtain ⟨z,hd,xs,rel,dd⟩:=Hb I.hok e;refine call_meetsIn PySem.F.slot_dict_get dd.typeIs PySem.F.entry_dict_get (PySem.F.args_dict_get_3 _ _ _) (meetsH_dict_get_default (tupleKind (Ap X.prog X.w)) a b hd r) ⟨tupleKind_room_in1 hu,k,xs,Fq I.hok eb,dd,h _ _ (I.tok _) ?_⟩;rw [l];exact (rel.val k).getD left
end
noncomputable def Me (td ty tx:TE):TE:=fun σ H Q=>td σ H λx H1=>∃ a,x=.ref a/\YV H1 a/\ty σ H1 λy H2=>tx σ H2 λz H3=>∃ o,BJ H3 a y o/\Q (o.getD z) H3
noncomputable def Mf (td ty tx:TE):TE:=fun σ H Q=>td σ H λx H1=>∃ a,x=.ref a/\YV H1 a/\ty σ H1 λy H2=>tx σ H2 λz H3=>∃ kvs k,H3 a=some (.dK kvs)/\y=kV k /\
 (∀ v,AN kvs k=some v->Q v (upd H3 a (.dK (C0 kvs k))))/\(AN kvs k=none->Q z H3)
section
variable {X:Cx}{o e f:Expr}{apos B8:Pos}{td ty tx:TE}
theorem Ra (hu:X.A.units+1 < cLine)(ho:PE X o td)(he:PE X e ty)(hf:PE X f tx)(m:M2 X o "get" apos e f B8):PE X (.Call (.Attribute o "get" apos) [e,f] [] B8) (Me td ty tx):=by
 intro pins s σ H Q I h;refine wpAny_Call_method m.base m.few m.line PySem.F.plainAttrs_dict PySem.F.slot_dict_get PySem.F.type_dict_get (AK (ho pins s σ H _ I h) λu s1 Au=>?_);obtain ⟨x,H1,I1,rx,a,ex,d,q1⟩:=Au;subst ex;obtain rfl:u=Value.ref a:=rx;obtain ⟨t1,t2,_⟩:=Md I1 d;refine ⟨t1,t2,?_⟩;rw [m.trees];refine Calls.callWith_builtin rfl (Calls.evalArgs_plain (Calls.spliced_cons (AK (he pins s1 σ H1 _ I1 q1) λiv s2 Au=>?_)));obtain ⟨y,H2,I2,ry,q2⟩:=Au;refine Calls.spliced_cons (AK (hf pins s2 σ H2 _ I2 q2) λfv s3 Au=>?_);obtain ⟨z,H3,I3,rz,ov,g,q3⟩:=Au;refine Calls.spliced_nil ?_;exact YW hu I3 g ry rz λw' s4 I4 LW=>⟨_,H3,I4,LW,q3⟩
theorem Rb (ho:PE X o td)(he:PE X e ty)(hf:PE X f tx)(m:M2 X o "pop" apos e f B8):PE X (.Call (.Attribute o "pop" apos) [e,f] [] B8) (Mf td ty tx):=by
 intro pins s σ H Q I h;refine wpAny_Call_method m.base m.few m.line PySem.F.plainAttrs_dict PySem.F.slot_dict_pop PySem.F.type_dict_pop (AK (ho pins s σ H _ I h) λu s1 Au=>?_);obtain ⟨x,H1,I1,rx,a,ex,d,q1⟩:=Au;subst ex;obtain rfl:u=Value.ref a:=rx;obtain ⟨t1,t2,_⟩:=Md I1 d;refine ⟨t1,t2,?_⟩;rw [m.trees];refine Calls.callWith_builtin rfl (Calls.evalArgs_plain (Calls.spliced_cons (AK (he pins s1 σ H1 _ I1 q1) λiv s2 Au=>?_)));obtain ⟨y,H2,I2,ry,q2⟩:=Au;refine Calls.spliced_cons (AK (hf pins s2 σ H2 _ I2 q2) λfv s3 Au=>?_);obtain ⟨z,H3,I3,rz,kvs,k,ea,ey,q3,q4⟩:=Au;refine Calls.spliced_nil ?_;subst ey;cases l:AN kvs k with
 | some v=>exact ff I3 ea ry l (.inr ⟨fv,rfl⟩) λw' s4 I4 LW=>⟨v,_,I4,LW,q3 v l⟩
 | none=>exact YU I3 ea ry l λs4 I4=>⟨z,H3,I4,rz,q4 l⟩
end
section
variable {X:Cx}{pins:List (Addr × Obj)}{σ:St}{H:Hp}{s:Shared}{a:Addr}{kvs:List (Key × V)}{A:Around}{E:Value->Shared->Prop}
theorem Rc (I:Inv X pins σ H s)(e:Rd H a (.dK kvs))(h:∀ p s',H p=none->Inv X pins σ (upd H p (.dK kvs)) s'->Q (.ref p) s'):wpAny (model X.prog X.w) A (call (.type "dict") [.ref a]) Q E s:=by
 obtain ⟨z,hd,vs,rel,dd⟩:=FW I.hok e;refine kt_call_dict hd dd (by rw [<- rel.length];exact z) λh' Kg hs=>?_;refine h _ _ (I.hok.fresh (Nat.le_refl _)) (I.laid (a:=s.heap.objs.size) (o:=.dK kvs) (t':=s.toks) (λb q hq=>?_) (Nat.le_refl _) (Ey z (beq_eq_false_iff_ne.mpr (Ne.symm (Nat.ne_of_lt I.big))) rel Kg));exact (hs.2 b (Nat.ne_of_lt (Heap.lt_size hq))).trans (Heap.get?_push_of_some _ hq)
end
end L2
namespace vm
open PySem PySem.W PySem.Calls PyProof.Rows
theorem G6:∀ (ns:List Int) (vs:List Value),WellAll P h vs (ns.map WData.int)->IntsAre vs ns:=by
 intro ns
 induction ns with
 | nil =>
  intro vs w;rw [List.map_nil] at w;cases w;exact .nil
 | cons n ns ih =>
  intro vs w;rw [List.map_cons] at w;cases w with
  | cons a b =>
   cases a;exact .cons _ _ (ih _ b)
theorem Ph {l:OpenLaw}{n:Nat}(hn:l.most=some n){P:Params}{h:Heap}{args:List WData}{vals:List Value}
  (V0:l.row.toRowW.claim.pre args=true) (l9:WellAll P h vals args) :
  ∃ a vs ns,vals=[Value.ref a]/\args=[WData.list (ns.map WData.int)]/\h.get? a=some { cls:=.type "list",data:=.seq vs.toArray }/\IntsAre vs ns/\ns.length<=n:=by
 have oy:WShape.hasAll [] args [.list .int]=true:=(pre_splitW V0).1;have hc:l.pre.holds [] { args:=args }=true:=(pre_splitW V0).2;obtain ⟨d,r,rfl,h1,h2⟩:=hasAllW_cons oy;obtain rfl:=hasAllW_nil h2;obtain ⟨xs,rfl,h3⟩:=hasW_list h1;obtain ⟨ns,rfl⟩:=items_int h3;have hlen:ns.length<=n:=by
  unfold OpenLaw.pre at hc;have h4:(WTm.not (.lt (.lit (.int (n:Int))) (.len (.arg 0)))).holds [] { args:=[.list (ns.map .int)] }=true:=by
   have h4:=(holds_andW hc).1;rw [hn] at h4;exact h4
  have h5:=condW_of h4 (w_not (w_lt w_lit (w_len_list (w_arg rfl))));rw [List.length_map] at h5;refine Nat.le_of_not_lt λq=>?_;have q':(n:Int) < ((ns.length:Nat):Int):=by omega
  first
   | (rw [decide_eq_true q'] at h5;exact absurd h5 ⟨⟩)
   | (simp at h5;omega)
 cases l9 with
 | cons w1 w2 =>
  cases w2;cases w1 with
  | list ho R9=>exact ⟨_,_,ns,rfl,rfl,ho,G6 ns _ R9,hlen⟩
theorem Pj (l:OpenLaw)(args:List WData):l.row.toRowW.claim.post args (.bool true) args=true :=
 postW_of (r:=l.row.toRowW) (X:=(true==true))
  (show WShape.has [] (.bool true) .bool=true by first | rfl | decide | simp [WShape.has,WShape.arms,WShape.armsAll])
  (show (WTm.eq .res (.lit (.bool true))).value [] { args:=args,res:=some (.bool true),after:=args }=some (.bool (true==true)) from w_eq_bool (w_res rfl) w_lit) rfl
theorem aa9 {l:OpenLaw}{n:Nat}{q:Program}{loose:List Str}{XP:(Str->Option Value)->Heap->Prop}{YP:World->Heap->Prop}{d:DefRec}
  (hn:l.most=some n) (oz:d.params.defaults=[])
  (call:∀ (w:World) (s₀ s₁:Shared) (mg mb:Str->Option Value) (fa:Addr) (o:Obj) (pm cd doc:Value) (a:Addr) (vs:List Value) (ns:List Int),
   Ground q loose [] XP w s₀ mg mb s₁.heap->YP w s₁.heap ->
   s₁.heap.get? fa=some o->o.data=.func (docDef d.name d.params d.body d.scope pm cd doc)->s₁.heap.CodeRec cd d.name->mg d.name=some (.ref fa) ->
   s₁.heap.get? a=some { cls:=.type "list",data:=.seq vs.toArray }->IntsAre vs ns->ns.length<=n->s₁.gens=#[] ->
   codeAny (model l.prog w) callerA (.call (.ref fa) ⟨[.ref a],[]⟩) (λr s'=>r=.ok (.ret (.bool true))/\OldK s₁.heap s'.heap/\s'.os=s₁.os/\AllBare s'.gens) s₁) :
  WalkO q loose XP YP l.row.toRowW d [] (λf vs=>PySem.call f vs):=by
 intro w s₀ s₁ mg mb G Y fa o pm cd doc dV kV ho hd HY hD fj hg args vals as V0 hlay hrd l9 hlo;obtain rfl:dV=.none:=Dflts.none hD oz;obtain rfl:kV=.none:=Dflts.noKw hD;obtain ⟨a,vs,ns,rfl,rfl,YX,hints,hlen⟩:=Ph hn V0 l9;refine enter_call (codeAny_mono (call w s₀ s₁ mg mb fa o pm cd doc a vs ns G Y ho (fd_plain hd) HY fj YX hints hlen hg) λr s' hq=>?_);obtain ⟨rfl,h2,h3,h4⟩:=hq;exact ⟨.inl ⟨.bool true,.bool true,[],rfl,λ_=>rfl,.bool true,Pj l _,λ_=>⟨List.Pairwise.nil,λ_ hm=>(nomatch hm)⟩⟩,h2,h3,h4⟩
end vm
namespace L2
open PySem PySem.Spec PyProof.Rows
theorem Iy:∀ {vs:List Value} {ns:List Int},IntsAre vs ns->Vals (ns.map V.int) vs
 | _,_,.nil=>.nil
 | _,_,.cons n t h=>.cons ⟨t,rfl⟩ (Iy h)
noncomputable def inClass (s:Stmt)(j:Nat):Stmt:=match s with
 | .ClassDef _ _ _ body _ _ _ _ _ _ _=>body.getD j (.Pass ⟨0,0,0,0⟩)
 | _=>.Pass ⟨0,0,0,0⟩
noncomputable def AW (s:Stmt):Arguments:=match s with
 | .FunctionDef _ a _ _ _ _ _ _ _ _=>a
 | _=>{ posonlyargs:=[],args:=[],vararg:=none,kwonlyargs:=[],kw_defaults:=[],kwarg:=none,defaults:=[] }
noncomputable def AF (s:Stmt):List Stmt:=match s with
 | .FunctionDef _ _ b _ _ _ _ _ _ _=>b
 | _=>[]
noncomputable def A5 (s:Stmt):Scope:=match s with
 | .FunctionDef _ _ _ _ _ _ sc _ _ _=>sc
 | _=>{ kind:=.function,names:=[],isGenerator:=false,isCoroutine:=false }
abbrev B5:K7:=λ_ _ _ _ _ _=>False
abbrev E0:XK:=λ_ _ _=>False
theorem F0:Passes B5 X E0:=λ_ _ _ _ _ _ _ h=>h.elim
structure Cd (K:W.Frag)(x qual:Str)(st:Stmt)(f:Addr)(fd:FuncData):Prop where
 ex:∃ (oc:Value) (od:Option Addr) (kV doc pm:Value) (an:Option Addr) (Bf ct:Value) (U9:Array (Option Value)),
  fd=W.fnOf x qual (AW st) (AF st) (A5 st) .none kV doc pm an Bf ct/\K.lookup f=some ⟨oc,od,.func fd,U9⟩/\W.codeIn K Bf qual=true
 kp:W.keepIn K (.ref f)=true
section
variable {P:Program}{w:World}{K:W.Frag}{mg:Str->Option Value}{base:Heap}
theorem Cd.ok {x qual:Str}{st:Stmt}{f:Addr}{fd:FuncData}{N ps:List Str}{k:Nat}{sp:Sp}(F:Cd K x qual st f fd)(S:Ai N ps (A5 st))(len:∀ vs H Q E,sp vs H Q E->vs.length=ps.length)
  (GV:∀ (Bf:Value) (A:Around) (outer:List Env) (s:Shared) (H:Hp) (vs:List V) (Q:VK) (E:XK),Ar k (A.deeper (envOfC qual (A5 st) s.heap.objs.size f Bf))->sp vs H Q E ->
   ∃ t,Nm (Cr B5 P w K mg base N qual (A5 st) f Bf A outer s H E).nox (AF st) t/\t { nx:=λ_ H'=>Q .non H',rt:=Q } (start N vs) H):Aq P w K mg base B5 (k+1) f fd ps sp:=by
 obtain ⟨oc,od,kV,doc,pm,an,Bf,ct,U9,rfl,lk,HY⟩:=F.ex;refine Xc lk HY S len λA outer s H vs Q E hr Ua=>?_;obtain ⟨t,h,q⟩:=GV Bf A outer s H vs Q E hr Ua;exact ⟨t,h.nox,q⟩
theorem Cd.binds {x qual:Str}{st:Stmt}{f:Addr}{fd:FuncData}{ps:List Str}(F:Cd K x qual st f fd)
  (h:∀ (kV doc pm:Value) (an:Option Addr) (Bf ct:Value) (us:List Value),us.length=ps.length->bindArgs (W.fnOf x qual (AW st) (AF st) (A5 st) .none kV doc pm an Bf ct) ⟨us,[]⟩=pure (ps.zip us)):Binds K fd ps []:=by
 obtain ⟨oc,od,kV,doc,pm,an,Bf,ct,U9,rfl,lk,HY⟩:=F.ex;exact .all (h kV doc pm an Bf ct)
theorem Fs {x qual:Str}{st:Stmt}{f:Addr}{oc:Value}{od an:Option Addr}{U9:Array (Option Value)}{kV doc pm Bf ct:Value}(l:K.lookup f=some ⟨oc,od,.func (W.fnOf x qual (AW st) (AF st) (A5 st) .none kV doc pm an Bf ct),U9⟩)
  (c:W.codeIn K Bf qual=true) (k:W.keepIn K (.ref f)=true):Cd K x qual st f (W.fnOf x qual (AW st) (AF st) (A5 st) .none kV doc pm an Bf ct):=⟨⟨oc,od,kV,doc,pm,an,Bf,ct,U9,rfl,l,c⟩,k⟩
end
theorem Ek (hr:Ar k A):A.units+1 < cLine:=Nat.lt_of_le_of_lt (Nat.add_le_add_left (by decide:1<=64) _) hr.units
section
variable {X:Cx}
theorem pv (i:Nat)(hN:X.N[i]?=some x:=by rfl)(hv:X2 X.env.scope x:=by exfalso)(hd:(x==("__debug__":Str))=false:=by decide)(HY:(x==("__classdict__":Str))=false:=by decide):PE X (.Name x pos) (B9 i):=LF hN hv hd HY
end
theorem Ce {A B:Prop}(h:B):if false=true then A else B:=by
 rw [if_neg Bool.false_ne_true];exact h
theorem C5 {A B:Prop}(h:A):if true=true then A else B:=by
 rw [if_pos rfl];exact h
theorem Dz {c A B:Prop}[Decidable c](h1:c->A)(h2:¬ c->B):if c then A else B:=by
 by_cases h:c
 ·rw [if_pos h];exact h1 h
 ·rw [if_neg h];exact h2 h
noncomputable def A9 (H H':Hp):Prop:=∀ b o,H b=some o->H' b=some o
theorem A9.refl (H:Hp):A9 H H:=λ_ _ h=>h
theorem A9.trans (a:A9 H H1)(b:A9 H1 H2):A9 H H2:=λc o h=>b c o (a c o h)
theorem A9.free (e:A9 H H')(h:H' l=Option.none):H l=Option.none:=by
 cases q:H l with
 | none=>rfl
 | some o =>
  rw [e l o q] at h;cases h
theorem A9.seq {K:W.Frag}{H H':Hp}{a:Addr}{xs:List V}(e:A9 H H')(h:AG K H a xs):AG K H' a xs:=by
 rcases h with (h | ⟨o,h⟩) | h
 ·exact .inl (.inl (e _ _ h))
 ·exact .inl (.inr ⟨o,e _ _ h⟩)
 ·exact .inr h
section
variable {κ:Type}[DecidableEq κ]
theorem Pk {p:κ × V}{r:List (κ × V)}{k:κ}(e:p.1=k):C0 (p::r) k=C0 r k:=by
 unfold C0;rw [List.filter_cons,if_neg (by simp [e])]
theorem Pl {p:κ × V}{r:List (κ × V)}{k:κ}(e:¬ p.1=k):C0 (p::r) k=p::C0 r k:=by
 unfold C0;rw [List.filter_cons,if_pos (by simp [e])]
theorem Pn {kvs:List (κ × V)}{k:κ}{p:κ × V}(h:p∈C0 kvs k):p∈kvs:=(List.mem_filter.mp h).1
end
section
variable {P:Program}{w:World}{H H1:Hp}{h h1:Heap}{a:Addr}{o:HO}{fs ex:List Addr}
theorem De.aaw (x:De P w H h)(hn:H a=none)(new:AJ P w (upd H a o) h a o):De P w (upd H a o) h:=by
 intro b u e;by_cases hb:b=a
 ·subst hb;rw [A6] at e;cases e;exact new
 ·rw [A8 hb] at e;refine (x b u e).abq (λc v _ q=>q) (λc q=>?_) (λc xs q=>?_)
  ·rw [A8 (Af q hn)];exact q
  ·rw [A8 (Af q hn)];exact q
theorem Un.aaw (u:Un fs ex H H1 h h1)(hn:H1 a=none)(ha:h.get? a=none):Un fs ex H (upd H1 a o) h h1 where
 keep:=u.keep
 slot:=u.slot
 free:=λb ob q n hx=>by
  have hb:b≠a:=λz=>by rw [z,ha] at q;cases q
  rw [A8 hb];exact u.free b ob q n hx
 there:=u.there
 abi:=λb xs q=>by
  have z:=u.abi b xs q;rw [A8 (Af z hn)];exact z
 abe:=λb ob xs q=>by
  have z:=u.abe b ob xs q;rw [A8 (Af z hn)];exact z
 abf:=λb ps q=>by
  obtain ⟨more,z⟩:=u.abf b ps q;exact ⟨more,by rw [A8 (Af z hn)];exact z⟩
end
section
variable {prog:Program}{w:World}{A:Around}{R:Result->Shared->Prop}{s:Shared}
abbrev V1:Value->Shared->Prop:=λ_ _=>False
theorem Mh (J:Nat->Shared->Prop)(turn:∀ n s,J n s->wpAny (model prog w) A (pyNext it) (λr s1=>match r with
   | none=>R (.ok .next) s1
   | some v=>wpAny (model prog w) A (letOwnedTupleGo target it v) (λ_ s2=>wpAny (model prog w) A (assign target env v) (λ_ s3 =>
     wpAny (model prog w) A (forIn ifs true λc r=>if r=true then do let ok <- isTrue c env (eval c env);pure (ForInStep.yield ok) else pure (ForInStep.yield r)) (λok s4 =>
      if ok=true then wpAny (model prog w) A (eval elt env) (λx s5=>wpAny (model prog w) A (call (.builtin "list.append") [acc,x]) (λ_ s6=>∃ m,m < n/\J m s6) V1 s5) V1 s4
      else ∃ m,m < n/\J m s4) V1 s3) V1 s2) V1 s1) V1 s)(n:Nat)(h:J n s):codeAny (model prog w) A (.compLoop (.ListComp elt [⟨target,iter,ifs,0⟩] scope pos) 0 it acc env) R s:=by
 refine codeAny_loop rfl J (λn s hJ=>?_) n h;show wpAny _ A ((compTurn (.ListComp elt [⟨target,iter,ifs,0⟩] scope pos) 0 it acc env).onRaise (λx=>do noteFrame x env;theTreesLotGoes x)) _ _ s
 refine wpAny_noted ?_;rw [compTurn_list];refine wpAny_bind (wpAny_standAt (wpAny_bind (wpAny_mono (turn n s hJ) (λr s1 q1=>?_) λ_ _ z=>z.elim)));cases r with
 | none=>exact wpAny_pure q1
 | some v =>
  refine wpAny_bind (wpAny_mono q1 (λ_ s2 q2=>?_) λ_ _ z=>z.elim);refine wpAny_bind (wpAny_mono q2 (λ_ s3 q3=>?_) λ_ _ z=>z.elim);refine wpAny_bind (wpAny_mono q3 (λok s4 q4=>?_) λ_ _ z=>z.elim);cases ok with
  | false=>exact wpAny_pure ⟨rfl,q4⟩
  | true =>
   refine wpAny_bind (wpAny_bind (wpAny_mono q4 (λx s5 q5=>?_) λ_ _ z=>z.elim));refine wpAny_bind (wpAny_mono q5 (λ_ s6 q6=>?_) λ_ _ z=>z.elim);exact wpAny_pure (wpAny_pure ⟨rfl,q6⟩)
end
noncomputable def Cx.blk (X:Cx)(N:List Str)(env:Env)(s0:Shared)(H0:Hp)(ex:List Addr):Cx :=
 { X with N:=N,s₀:=s0,H₀:=H0,env:=env,outer:=X.stack,stack:=X.stack,ex:=ex,fn:=λ_=>false,pn:=[],xe:=V1 }
structure AY (X:Cx)(scope:Scope)(cl:List (Str × Addr))(own fr:List Str)(js:List Nat):Prop where
 aa7:closureFor scope X.env=pure cl
 cell:∀ y∈scope.names,y.2≠.cell
 kind:scope.kind=.function
 names:∀ y∈scope.names,y.2=.local->scope.names.lookup y.1=some .local
 sub:cl.map (λp=>X.env.cells.lookup p.1)=cl.map (λp=>some p.2)
 has:((relabel scope X.env).names.all λy=>!(y.2==.cell || y.2==.free) || (cl.lookup y.1).isSome)=true
 fre:(fr.all λy=>(X.env.kindOf y==some .cell || X.env.kindOf y==some .free) && ((relabel scope X.env).names.lookup y==some .cell || (relabel scope X.env).names.lookup y==some .free))=true
 here:js.map (λj=>X.N[j]?)=fr.map some
noncomputable def CD (own:List Str)(js:List Nat)(σ:St):St:=own.map (λ_=>none)++js.map (λj=>(σ[j]?).join)
noncomputable def fk (X:Cx)(scope:Scope)(cl:List (Str × Addr))(C:Addr):Env:=compEnvC scope cl C X.env
abbrev Cx.cmp (X:Cx)(scope:Scope)(cl:List (Str × Addr))(own fr:List Str)(C:Addr)(s0:Shared)(H0:Hp)(ex:List Addr):Cx:=X.blk (own++fr) (fk X scope cl C) s0 H0 ex
theorem lookup_mem {α:Type}:∀ {l:List (Str × α)} {y:Str} {c:α},l.lookup y=some c->(y,c)∈l
 | [],_,_,h=>by simp at h
 | (z,d)::r,y,c,h=>by
  rw [List.lookup_cons] at h;cases e:y==z with
  | true=>rw [e] at h;cases h;rw [eq_of_beq e];exact .head _
  | false=>rw [e] at h;exact .tail _ (lookup_mem h)
section
variable {X:Cx}{scope:Scope}{cl:List (Str × Addr)}{own fr:List Str}{js:List Nat}{pins:List (Addr × Obj)}{σ:St}{H:Hp}{s s':Shared}{fp:List Addr}{C:Addr}{m:Str->Option Value}
theorem AY.cells (S:AY X scope cl own fr js)(h:cl.lookup y=some c):X.env.cells.lookup y=some c:=by
 have hm:=lookup_mem h;have e:∀ (l:List (Str × Addr)),l.map (λp=>X.env.cells.lookup p.1)=l.map (λp=>some p.2)->∀ p∈l,X.env.cells.lookup p.1=some p.2:=by
  intro l
  induction l with
  | nil=>intro _ p hp;cases hp
  | cons q r ih =>
   intro h p hp;have h1:=(List.cons.inj h).1;have h2:=(List.cons.inj h).2;rcases List.mem_cons.mp hp with rfl | hp
   ·exact h1
   ·exact ih h2 p hp
 exact e cl S.sub _ hm
theorem AY.aci (S:AY X scope cl own fr js)(h:(relabel scope X.env).names.lookup y=some .cell\/(relabel scope X.env).names.lookup y=some .free):∃ c,cl.lookup y=some c:=by
 have key:∀ k:NameKind,(k=.cell\/k=.free)->(relabel scope X.env).names.lookup y=some k->∃ c,cl.lookup y=some c:=by
  intro k hk hl;have q:=List.all_eq_true.mp S.has _ (lookup_mem hl);have kk:(k==NameKind.cell || k==NameKind.free)=true:=by
   rcases hk with rfl | rfl <;> rfl
  simp only [kk,Bool.not_true,Bool.false_or] at q;exact Option.isSome_iff_exists.mp q
 rcases h with h | h
 ·exact key _ (.inl rfl) h
 ·exact key _ (.inr rfl) h
theorem AY.free (S:AY X scope cl own fr js)(h:y∈fr):(X.env.kindOf y=some .cell\/X.env.kindOf y=some .free)/\((relabel scope X.env).names.lookup y=some .cell\/(relabel scope X.env).names.lookup y=some .free):=by
 have q:=List.all_eq_true.mp S.fre y h;simpa [Bool.and_eq_true,Bool.or_eq_true] using q
theorem V2 {α β:Type}{f:α->β}{l:List α}{i:Nat}{b:β}(h:(l.map f)[i]?=some b):∃ a,l[i]?=some a/\f a=b:=by
 rw [List.getElem?_map] at h;cases e:l[i]? with
 | none=>rw [e] at h;cases h
 | some a=>rw [e] at h;exact ⟨a,rfl,Option.some.inj h⟩
theorem V3 (S:AY X scope cl own fr js)(I:Inv X pins σ H s)(hf:∀ b∈fp,GJ X pins H b)(hC:s.heap.objs.size<=C)(Ud:s'.heap.Ns C m)(V4:∀ b∈fp,b < s.heap.objs.size)(YK:s'.os=s.os)(hg:s'.gens=s.gens)(k:∀ b o,s.heap.get? b=some o->s'.heap.get? b=some o) :
  Inv (X.cmp scope cl own fr C s H fp) [] (CD own js σ) H s':=by
 have cells:∀ x c,cl.lookup x=some c->X.env.cells.lookup x=some c:=λx c h=>S.cells h;refine ⟨⟨I.ok.mod,S.kind,I.ok.glob,I.ok.blt,hC,?_,?_,?_,I.ok.hd,I.ok.frames,.inl rfl,?_,I.bs,Nat.le_trans I.ok.bsz I.sz,?_,?_,I.stack,I.abk⟩,YK,?_,Un.kept k,⟨m,Ud,?_⟩,?_,?_,?_,?_,I.hok.kept k,?_⟩
 ·intro x y c h1 h2;exact I.ok.inj x y c (cells x c h1) (cells y c h2)
 ·intro x hx;exact S.aci hx
 ·intro x c h;exact absurd (show false=true from h) Bool.false_ne_true
 ·intro b hb;refine ⟨Nat.ne_of_lt (Nat.lt_of_lt_of_le (V4 b hb) hC),λx c h=>?_⟩;exact (hf b hb).2.2.2.2.1 x c (cells x c h)
 ·intro b o e hb;rcases (hf b hb).2.2.2.1 with z | z
  ·exact I.ok.ab1 b o e z
  ·exact absurd (Nat.lt_of_lt_of_le (Nat.lt_of_lt_of_le (Heap.lt_size e) I.ok.bsz) z) (Nat.lt_irrefl _)
 ·intro b hb z;rcases List.mem_cons.mp (I.aaz b z) with e | e
  ·exact (hf b hb).2.1 e
  ·exact (hf b hb).2.2.1 e
 ·rw [hg];exact I.bare
 ·intro i x v h1 h2 _;have hN:(X.cmp scope cl own fr C s H fp).N=own++fr:=rfl;rw [hN] at h1;by_cases hi:i < own.length
  ·have:(CD own js σ)[i]?=some none:=by
    unfold CD;rw [List.getElem?_append_left (by simpa using hi),List.getElem?_map];simp [hi]
   rw [this] at h2;cases h2
  ·have hi:own.length<=i:=Nat.not_lt.mp hi;rw [List.getElem?_append_right hi] at h1;unfold CD at h2;rw [List.getElem?_append_right (by simpa using hi),List.length_map] at h2;obtain ⟨j,hj,ej⟩:=V2 h2;have yB:X.N[j]?=some x:=by
    have e1:(js.map (λj=>X.N[j]?))[i - own.length]?=some (X.N[j]?):=(by rw [List.getElem?_map,hj];rfl);rw [S.here,List.getElem?_map,h1] at e1;exact (Option.some.inj e1).symm
   have hσ:σ[j]?=some (some v):=by
    cases e:σ[j]? with
    | none=>rw [e] at ej;cases ej
    | some o=>rw [e] at ej;cases o with
     | none=>cases ej
     | some u=>cases ej;rfl
   obtain ⟨kx,lh⟩:=S.free (List.mem_of_getElem? h1);obtain ⟨m0,_,hl⟩:=I.loc;have yC:X2 X.env.scope x:=by
    rcases kx with z | z
    ·exact .inr (.inl z)
    ·exact .inr (.inr z)
   obtain ⟨u,r,lk⟩:=hl j x v yB hσ yC;refine ⟨u,r,.inr ⟨lh,?_⟩⟩;obtain ⟨c,hc⟩:=S.aci lh;rcases lk with ⟨z,_⟩ | ⟨_,c',e',q⟩
   ·rcases kx with y | y <;> (rw [y] at z;cases z)
   ·rw [S.cells hc] at e';cases e';obtain ⟨o,ho,hd⟩:=q;exact ⟨c,hc,o,k _ _ ho,hd⟩
 ·intro x c h;obtain ⟨v,o,ho,hd⟩:=I.cell x c (cells x c h);exact ⟨v,o,k _ _ ho,hd⟩
 ·exact I.hok.fresh hC
 ·intro x c h;exact I.aaj x c (cells x c h)
 ·intro p hp;exact absurd (show p∈([]:List (Addr × Obj)) from hp) (by simp)
 ·have e:js.length=fr.length:=by
   have:=congrArg List.length S.here;simpa using this
  show (CD own js σ).length=(own++fr).length;unfold CD;simp [e]
end
noncomputable def cH (X:Cx)(ifs:List Expr)(t:TT):Prop :=
 ∀ (pins:List (Addr × Obj)) (s:Shared) (σ:St) (H:Hp) (Q:Bool->Hp->Prop),Inv X pins σ H s->t σ H Q ->
  wpAny (model X.prog X.w) X.A (forIn ifs true λc r=>if r=true then do let ok <- isTrue c X.env (eval c X.env);pure (ForInStep.yield ok) else pure (ForInStep.yield r)) (TP X pins σ Q) X.xe s
noncomputable def G7:TT:=λ_ H Q=>Q true H
theorem V5:cH X [] G7:=λ_ _ _ H _ I h=>wpAny_tests_nil ⟨H,I,h⟩
theorem V6 (h:PT X c t):cH X [c] t:=λpins s σ H Q I q=>wpAny_tests_one (h pins s σ H Q I q)
noncomputable def Ext (σ σ':St):Prop:=σ'.length=σ.length/\∀ (i:Nat) v,σ[i]?=some (some v)->σ'[i]?=some (some v)
theorem Ext.set (h:σ[i]?=some none):Ext σ (σ.set i (some v)):=by
 refine ⟨by simp,λj u e=>?_⟩;by_cases hj:i=j
 ·subst hj;rw [h] at e;cases e
 ·rw [List.getElem?_set_ne hj];exact e
noncomputable def Dw (J:It)(H1:Hp)(σ:St)(g:TG)(tt:TT)(te:TE)(Fin:List V->Hp->Prop):Prop :=
  ∃ W:Nat->Nat->List V->Hp->Prop,(∃ m,W 0 m [] H1)/\∀ i m ys H,W i m ys H->ys.length<=sizeLine /\
    ((J.stop i H/\Fin ys H)\/(J.go i H/\ys.length < sizeLine/\∀ x H',J.yld i H x H'->g x σ H' fun σ2 H2=>Ext σ σ2/\tt σ2 H2 λb H3 =>
      if b=true then te σ2 H3 λy H4=>∃ m',m' < m/\W (i+1) m' (ys++[y]) H4 else ∃ m',m' < m/\W (i+1) m' ys H3))
section
variable {X:Cx}{scope:Scope}{cl:List (Str × Addr)}{own fr:List Str}{js:List Nat}{elt iter tg:Expr}{ifs:List Expr}{pos:Pos}{g:TG}{tt:TT}{te:TE}
 {pins:List (Addr × Obj)} {σ:St} {H2:Hp} {s2:Shared} {fp:List Addr} {it:Addr} {tn:Nat->Heap->Prop} {J:It} {Fin:List V->Hp->Prop} {E:Value->Shared->Prop}
theorem Po (r:Vals ys us)(q:RelV y u):Vals (ys++[y]) (us++[u]):=r.append (.cons q .nil)
theorem Iz (S:AY X scope cl own fr js)(El:X.calm=true)
  (hg:∀ C s0 H0 ex,PG (X.cmp scope cl own fr C s0 H0 ex) tg g) (ht:∀ C s0 H0 ex,cH (X.cmp scope cl own fr C s0 H0 ex) ifs tt) (he:∀ C s0 H0 ex,PE (X.cmp scope cl own fr C s0 H0 ex) elt te)
  (I2:Inv X pins σ H2 s2) (T:Turn X.prog X.w X.K tg J fp it tn) (oA:tn 0 s2.heap) (hf:∀ b∈fp,GJ X pins H2 b) (L:Dw J H2 (CD own js σ) g tt te Fin)
  {RR:Value->Addr->Result->Shared->Prop}
  (yD:∀ (D C:Addr) (s':Shared) (ys:List V) (its:List Value) (n:Nat) (H':Hp) (m':Str->Option Value),s2.heap.objs.size<=D->s2.heap.objs.size<=C->D≠C->s'.os=s2.os->AllBare s'.gens ->
   Un (Lw X.stack) fp H2 H' s2.heap s'.heap->De X.prog X.w H' s'.heap->H' D=none->H' C=none->s'.heap.Ns C m'->Vals ys its->s'.heap.get? D=some { cls:=.type "list",data:=.seq its.toArray n }->ys.length<=sizeLine ->
   Fin ys H'->RR (.ref D) C (.ok .next) s') :
  wpAny (model X.prog X.w) X.A (newList []) (λacc s3=>wpAny (model X.prog X.w) X.A (newFunctionEnv scope X.env.globals cl [] X.env.qual none .none (some X.env)) (λfq s4 =>
   codeAny (model X.prog X.w) X.A (.compStart (.ListComp elt [⟨tg,iter,ifs,0⟩] scope pos) 0 (.ref it) acc { fq with scope:=relabel scope X.env }) (RR acc fq.locals) s4) E s3) E s2:=by
 refine wpAny_newObj_type (wpAny_newFunctionEnv S.cell (by intro y hy;simp at hy) (λh1 Ud lj=>?_) S.kind);dsimp only at Ud lj ⊢;generalize hG:s2.heap.push { cls:=.type "list",dict:=none,data:=.seq ([]:List Value).toArray }=G at Ud lj ⊢;have hC:G.objs.size=s2.heap.objs.size+1:=by rw [<- hG,Heap.size_push]
 have Xg:s2.heap.objs.size≠G.objs.size:=by omega
 have V7:s2.heap.objs.size<=G.objs.size:=by omega
 have old:∀ b o,s2.heap.get? b=some o->h1.get? b=some o:=λb o e=>by
  have hb:=Heap.lt_size e;exact lj.extBut b o (Nat.ne_of_lt (Nat.lt_of_lt_of_le hb V7)) (Heap.get?_push_of_some _ (hG▸Heap.get?_push_of_some _ e))
 have EA:h1.get? s2.heap.objs.size=some { cls:=.type "list",data:=.seq ([]:List Value).toArray 0 } :=
  lj.extBut _ _ Xg (Heap.get?_push_of_some _ (hG▸Heap.get?_push_size _ rfl))
 have V4:∀ b∈fp,b < s2.heap.objs.size:=λb hb=>by
  obtain ⟨o,e,_⟩:=T.obj 0 _ oA b hb;exact Heap.lt_size e
 have fu:∀ t:Nat,Inv (X.cmp scope cl own fr G.objs.size s2 H2 fp) [] (CD own js σ) H2 { s2 with heap:=h1,toks:=t }:=λt =>
  V3 S I2 hf V7 Ud V4 rfl rfl old
 obtain ⟨W,⟨m0,w0⟩,turn⟩:=L;have yE:s2.heap.objs.size∉Lw X.stack:=λz=>by
  rcases List.mem_cons.mp (I2.aaz _ z) with e | e
  ·exact absurd I2.lt (by rw [<- e];exact Nat.lt_irrefl _)
  ·exact I2.acg (Nat.le_refl _) e
 have YY:∀ {H:Hp} {s:Shared} {σ':St} {its:List Value} {n:Nat},Inv (X.cmp scope cl own fr G.objs.size s2 H2 fp) [] σ' H s->s.heap.get? s2.heap.objs.size=some { cls:=.type "list",data:=.seq its.toArray n }->H s2.heap.objs.size=none ->
   Inv (X.cmp scope cl own fr G.objs.size s2 H2 fp) [(s2.heap.objs.size,{ cls:=.type "list",data:=.seq its.toArray n })] σ' H s:=λ{H s σ' its n} I e hn=>I.aau λp hp=>by
  obtain rfl:=List.mem_singleton.mp hp;exact ⟨e,hn,Xg,yE,λv z=>by cases z⟩
 have YZ:∀ {H:Hp} {its:List Value} {n:Nat},(∀ b∈fp,H b=none)->∀ b∈fp,GJ (X.cmp scope cl own fr G.objs.size s2 H2 fp) [(s2.heap.objs.size,{ cls:=.type "list",data:=.seq its.toArray n })] H b:=λ{H its n} hn b hb=>by
  have CT:=V4 b hb;refine ⟨hn b hb,?_,?_,.inl hb,?_,?_⟩
  ·exact Nat.ne_of_lt (Nat.lt_of_lt_of_le CT V7)
  ·intro z;rcases List.mem_cons.mp (I2.aaz b z) with e | e
   ·exact (hf b hb).2.1 e
   ·exact (hf b hb).2.2.1 e
  ·intro x c h;exact (hf b hb).2.2.2.2.1 x c (S.cells h)
  ·intro p hp;obtain rfl:=List.mem_singleton.mp (show p∈[(s2.heap.objs.size,_)] from hp);exact Ne.symm (Nat.ne_of_lt CT)
 have loop:∀ t:Nat,codeAny (model X.prog X.w) X.A (.compLoop (.ListComp elt [⟨tg,iter,ifs,0⟩] scope pos) 0 (.ref it) (.ref s2.heap.objs.size) (fk X scope cl G.objs.size))
   (RR (.ref s2.heap.objs.size) G.objs.size) { s2 with heap:=h1,toks:=t }:=by
  intro t;refine Mh (λk s'=>∃ i ys its n H',Inv (X.cmp scope cl own fr G.objs.size s2 H2 fp) [(s2.heap.objs.size,{ cls:=.type "list",data:=.seq its.toArray n })] (CD own js σ) H' s'/\tn i s'.heap/\(∀ b∈fp,H' b=none) /\
   Vals ys its/\W i k ys H') ?_ m0 ⟨0,[],[],0,H2,YY (fu t) EA (I2.hok.fresh (Nat.le_refl _)),T.keep _ _ _ oA λb _ o e=>old b o e,λb hb=>(hf b hb).1,.nil,w0⟩
  rintro n s3 ⟨i,ys,its,nn,H3,I3,eP,eQ,rv,w3⟩;obtain ⟨hlen,w3⟩:=turn i n ys H3 w3;have Xh:=rv.length;rcases w3 with ⟨stop,fin⟩ | ⟨go,CT,step⟩
  ·refine AK (T.done (X.cmp scope cl own fr G.objs.size s2 H2 fp) rfl rfl rfl El i _ s3 _ H3 V1 I3 (YZ eQ) eP stop) λr s4 q4=>?_;obtain ⟨hr,I4⟩:=q4;subst hr;obtain ⟨eD,nD,_⟩:=I4.pin _ (List.mem_append_right _ (.head _));obtain ⟨m4,yF,_⟩:=I4.loc;exact yD _ _ s4 ys its nn H3 m4 (Nat.le_refl _) V7 Xg I4.os I4.bare I4.base I4.hok nD I4.free yF rv eD hlen fin
  ·refine AK (T.item (X.cmp scope cl own fr G.objs.size s2 H2 fp) rfl rfl rfl El i _ s3 _ H3 V1 I3 (YZ eQ) eP go) λr s4 q4=>?_;obtain ⟨u,hr,q4⟩:=q4;subst hr;refine AK q4 λ_ s5 q5=>?_;obtain ⟨x,H5,I5,r5,y5,Yv,nR⟩:=q5;have nU:=I5.pinned (YZ nR) (T.obj _ _ Yv);refine AK (hg G.objs.size s2 H2 fp _ s5 _ H5 x u _ nU r5 (step x H5 y5)) λ_ s6 q6=>?_;obtain ⟨σ6,H6,I6,fw,q6⟩:=q6;have fin:∀ {s7:Shared} {H7:Hp},Inv (X.cmp scope cl own fr G.objs.size s2 H2 fp) ([(s2.heap.objs.size,{ cls:=.type "list",data:=.seq its.toArray nn })]++GK fp s5.heap) σ6 H7 s7 ->
     tn (i+1) s7.heap/\(∀ b∈fp,H7 b=none)/\s7.heap.get? s2.heap.objs.size=some { cls:=.type "list",data:=.seq its.toArray nn }/\H7 s2.heap.objs.size=none/\Inv (X.cmp scope cl own fr G.objs.size s2 H2 fp) [] (CD own js σ) H7 s7:=λ{s7 H7} I7=>by
    have pd:=I7.pin _ (List.mem_append_right _ (List.mem_append_left _ (.head _)));refine ⟨T.keep _ _ _ Yv λb hb o e=>(I7.pin (b,o) (List.mem_append_right _ (List.mem_append_right _ (Dj hb e)))).1,λb hb=>?_,pd.1,pd.2.1,?_⟩
    ·obtain ⟨o,e,d⟩:=T.obj _ _ Yv b hb;exact (I7.pin (b,o) (List.mem_append_right _ (List.mem_append_right _ (Dj hb e)))).2.1
    ·exact (I7.aau (pins':=[]) λp hp=>absurd hp (by simp)).weak fw.1.symm fw.2
   refine AK (ht G.objs.size s2 H2 fp _ s6 σ6 H6 _ I6 q6) λok s7 q7=>?_;obtain ⟨H7,I7,q7⟩:=q7;cases ok with
   | false =>
    obtain ⟨m',hm,w7⟩:=q7;obtain ⟨a1,a2,a3,a4,a5⟩:=fin I7;exact ⟨m',hm,i+1,ys,its,nn,H7,YY a5 a3 a4,a1,a2,rv,w7⟩
   | true =>
    refine AK (he G.objs.size s2 H2 fp _ s7 σ6 H7 _ I7 q7) λv s8 q8=>?_;obtain ⟨y,H8,I8,r8,m',hm,w8⟩:=q8;obtain ⟨a1,a2,a3,a4,a5⟩:=fin I8;refine append_at (its:=its.toArray) (n:=nn) a3 (λh9 yG e9=>?_) (by rw [List.size_toArray,<- Xh];exact hlen);have kp:∀ b o,b≠s2.heap.objs.size->s8.heap.get? b=some o->h9.get? b=some o:=λb o hb e=>(yG.2 b hb).trans e;have I9:Inv (X.cmp scope cl own fr G.objs.size s2 H2 fp) [] (CD own js σ) H8 { s8 with heap:=h9,toks:=s8.toks }:=by
     refine a5.turned kp a4 Xg (.inr (Nat.le_refl _)) (λx c h z=>?_) (λp hp=>absurd (show p∈([]:List (Addr × Obj)) from hp) (by simp));obtain ⟨v,o,ho,_⟩:=I2.cell x c (S.cells h);exact absurd z (Nat.ne_of_lt (Heap.lt_size ho))
    have oB:h9.get? s2.heap.objs.size=some { cls:=.type "list",data:=.seq (its++[v]).toArray (nn+1) }:=by
     rw [e9];simp
    refine ⟨m',hm,i+1,ys++[y],its++[v],nn+1,H8,YY I9 oB a4,T.keep _ _ _ a1 λb hb o e=>kp b o ?_ e,a2,Po rv r8,w8⟩;exact Nat.ne_of_lt (V4 b hb)
 exact codeAny_compStart_list (loop _) (T.self _ 0 _ _ _ (T.keep _ _ _ oA λb _ o e=>old b o e) (loop _))
theorem NN (I2:Inv X pins σ H2 s2)(hf:∀ b∈fp,GJ X pins H2 b)(hD:s2.heap.objs.size<=D)(os:s'.os=s2.os)(bare:AllBare s'.gens)(un:Un (Lw X.stack) fp H2 H' s2.heap s'.heap)(hok:De X.prog X.w H' s'.heap)(nD:H' D=none)(rv:Vals ys its)(e:s'.heap.get? D=some { cls:=.type "list",data:=.seq its.toArray n })(hz:ys.length<=sizeLine) :
  Inv X pins σ (upd H' D (.lst ys)) s':=by
 refine I2.abv (ch:=fp) os (un.aaw nD (Heap.get?_none_of_le hD)) (hok.aaw nD ⟨hz,its,n,rv,e⟩) bare λb hb=>?_;obtain ⟨_,f1,_,f3,f4,f5⟩:=hf b hb;exact ⟨f3,f1,f4,f5⟩
noncomputable def NO (own:List Str)(js:List Nat)(wi:TI)(g:TG)(tt:TT)(te:TE):TE:=fun σ H Q=>wi σ H λJ H1 =>
 Dw J H1 (CD own js σ) g tt te λys H2=>∀ D,H2 D=none->Q (.ref D) (upd H2 D (.lst ys))
theorem V8 (S:AY X scope cl own fr js)(El:X.calm=true)(hi:PI X tg iter wi)(hg:∀ C s0 H0 ex,PG (X.cmp scope cl own fr C s0 H0 ex) tg g)(ht:∀ C s0 H0 ex,cH (X.cmp scope cl own fr C s0 H0 ex) ifs tt)(he:∀ C s0 H0 ex,PE (X.cmp scope cl own fr C s0 H0 ex) elt te)(hs:∀ x,foldedSetIterable iter X.env x=pure x:=by intro _;rfl):PE X (.ListComp elt [⟨tg,iter,ifs,0⟩] scope pos) (NO own js wi g tt te):=by
 intro pins s σ H Q I h;rw [eval_ListComp];refine wpAny_comprehension_free (use:=none) rfl hs S.aa7 S.kind S.names (AK (hi pins s σ H _ I h) λv s1 q1=>AK q1 λkR s2 q2=>?_);obtain ⟨it,fp,tn,J,H2,rfl,I2,T,st,hf,L⟩:=q2;refine Iz (RR:=λacc C=>compPost (model X.prog X.w) X.A X.xe none (EP X pins σ Q) acc C) S El hg ht he I2 T st hf L ?_;intro D C s' ys its n H' m' hD hC Xg os bare un hok nD nC ns rv e hz fin;refine ⟨m',ns,λyH oC=>?_⟩;have I3:=NN I2 hf hD os bare un hok nD rv e hz;have oE:(upd H' D (.lst ys)) C=none:=by rw [A8 (Ne.symm Xg)];exact nC
 obtain ⟨f0,f1,_,f3,f4,f5⟩:=I2.abj hC oE;have I4:Inv X pins σ (upd H' D (.lst ys)) { s' with heap:=yH,toks:=s'.toks }:=I3.turned (λb o hb q=>(oC.2 b hb).trans q) f0 f1 f3 f4 f5;exact ⟨.ref D,_,I4,rfl,fin D nD⟩
noncomputable def Mm (i:Nat)(own:List Str)(js:List Nat)(wi:TI)(g:TG)(tt:TT)(te:TE):TS:=λD σ H=>wi σ H λJ H1 =>
 Dw J H1 (CD own js σ) g tt te λys H2=>∀ a,H2 a=none->D.nx (σ.set i (some (.ref a))) (upd H2 a (.lst ys))
theorem V9 (hN:X.N.Nodup)(hy:X.N[i]?=some y)(hx:Loc X.env.scope y)(S:AY X scope cl own fr js)(El:X.calm=true)(hi:PI X tg iter wi)(hg:∀ C s0 H0 ex,PG (X.cmp scope cl own fr C s0 H0 ex) tg g)(ht:∀ C s0 H0 ex,cH (X.cmp scope cl own fr C s0 H0 ex) ifs tt)(he:∀ C s0 H0 ex,PE (X.cmp scope cl own fr C s0 H0 ex) elt te)(oF:swapsWith (.ListComp elt [⟨tg,iter,ifs,0⟩] scope pos) (some (.Name y py)) Rf.line X.env=pure true:=by rfl)(hf:X.fn y=true\/X.env.scope.names.lookup y=some .local:=by exfalso)(hs:∀ x,foldedSetIterable iter X.env x=pure x:=by intro _;rfl):PS X (.Assign [.Name y py] (.ListComp elt [⟨tg,iter,ifs,0⟩] scope pos) Rf) (Mm i own js wi g tt te):=by
 intro pins s σ H D I h;rw [exec_Assign_Name_used _ _ _ _ oF];refine wpAny_bind (wpAny_standAt (wpAny_bind ?_));show wpAny _ X.A (do let _ <- comprehension (.ListComp elt [⟨tg,iter,ifs,0⟩] scope pos) scope X.env _ (newList []) false (eval iter X.env) (some (assign (.Name y py) X.env))) _ _ s
 refine wpAny_bind (AK (Q:=λ_ s'=>SP X pins D .next s') ?_ λ_ s' q=>wpAny_pure (wpAny_pure q))
 refine wpAny_comprehension_free (use:=some (assign (.Name y py) X.env)) rfl hs S.aa7 S.kind S.names (AK (hi pins s σ H _ I h) λv s1 q1=>AK q1 λkR s2 q2=>?_);obtain ⟨it,fp,tn,J,H2,rfl,I2,T,st,vn,L⟩:=q2;refine Iz (RR:=λacc C=>compPost (model X.prog X.w) X.A X.xe (some (assign (.Name y py) X.env)) (λ_ s'=>SP X pins D .next s') acc C) S El hg ht he I2 T st vn L ?_
 intro d C s' ys its n H' m' hD hC Xg os bare un hok nD nC ns rv e hz fin;have I3:=NN I2 vn hD os bare un hok nD rv e hz;have oE:(upd H' d (.lst ys)) C=none:=by rw [A8 (Ne.symm Xg)];exact nC
 obtain ⟨f0,f1,_,f3,f4,f5⟩:=I2.abj hC oE;show wpAny _ X.A (assign (.Name y py) X.env (.ref d)) _ _ s';refine wpAny_assign_Name (Ik I3 hN hy hx (v:=.ref d) rfl (λs4 I4 ch=>?_) hf);obtain ⟨a,sb,ha⟩:=ch;have yI:C≠a:=by
  rcases ha with rfl | ha
  ·exact f1
  ·exact λz=>f4 y a ha z.symm
 refine ⟨m',ns.sameBut sb yI,λh5 oG=>?_⟩;exact ⟨_,_,I4.turned (t':=s4.toks) (λb o hb q=>(oG.2 b hb).trans q) f0 f1 f3 f4 f5,fin d nD⟩
end
noncomputable def IA (K:W.Frag)(a:Addr)(n:Nat):It :=
 ⟨λi H=>∃ xs,AG K H a xs/\xs.length=n/\i < n,λi H x H'=>H'=H/\∀ xs,AG K H a xs->xs.reverse[i]?=some x,λi _=>n<=i⟩
theorem Rg {P:Program}{w:World}{K:W.Frag}{tg:Expr}(a it:Addr)(n:Nat):Turn P w K tg (IA K a n) [it] it (λi h=>i<=n/\h.IsRevIter it a ((n:Int) - 1 - (i:Int))) where
 mem:=by simp
 obj:=by
  intro i h st b hb;obtain rfl:b=it:=by simpa using hb
  obtain ⟨_,o,e,c,d⟩:=st;exact ⟨o,e,λv z=>by rw [d] at z;cases z⟩
 keep:=λi h h' st k=>⟨st.1,st.2.at λo e=>k it (by simp) o e⟩
 item:=by
  intro X hP hw hK hc i pins s σ H E I hf st hg;subst hP hw hK;obtain ⟨xs,hq,hn,hi⟩:=hg;obtain ⟨its,rv,p,hz⟩:=I.list hq;have hlen:=rv.length;obtain ⟨f0,f1,f2,f3,f4,f5⟩:=hf it (by simp);have ix:n - 1 - i < xs.length:=by omega
  have hx:xs[n - 1 - i]?=some (xs[n - 1 - i]'ix):=List.getElem?_eq_getElem ix;obtain ⟨u,hu,ru⟩:=rv.get hx;have ei:(n:Int) - 1 - (i:Int)=((n - 1 - i:Nat):Int):=by omega
  have HU:=st.2;rw [ei] at HU;refine wpAny_pyNext_rev_item HU p.isList (x:=u) (by simpa using hu) λh' K0 sb=>?_;have I1:Inv X pins σ H { s with heap:=h' }:=I.turned (t':=s.toks) (λb o hb e=>(sb.2 b hb).trans e) f0 f1 f3 f4 f5;have e2:((n - 1 - i:Nat):Int) - 1=(n:Int) - 1 - ((i+1:Nat):Int):=by omega
  rw [e2] at K0;obtain ⟨o,e,c,d⟩:=id K0;refine ⟨u,rfl,JZ (s:={ s with heap:=h' }) e c d ⟨⟩ ⟨xs[n - 1 - i]'ix,H,I1,ru,⟨rfl,λys hy=>?_⟩,⟨hi,K0⟩,λb hb=>(hf b hb).1⟩⟩;rw [I.abb hy hq,List.getElem?_reverse (),<- hx]
  congr 1
  omega
 done:=by
  intro X hP hw hK hc i pins s σ H E I hf st hg;subst hP hw hK;obtain ⟨f0,f1,f2,f3,f4,f5⟩:=hf it (by simp);have yJ:n<=i:=hg;have e1:(n:Int) - 1 - (i:Int)=-1:=by have:=st.1;omega
  have HU:=st.2;rw [e1] at HU;exact wpAny_pyNext_rev_end (I.ok.hd hc) HU λh' eb=>⟨rfl,I.turned (t':=s.toks) (λb o hb e=>eb b o hb e) f0 f1 f3 f4 f5⟩
 self:=λ_ _ _ _ _ st h=>wpAny_pyIter_revIter st.2 h
section
variable {X:Cx}{tg:Expr}
noncomputable def Y' (K:W.Frag)(ta:TA):TI:=fun σ H R=>ta σ H λvs H1=>∃ a xs,vs=[.ref a]/\AG K H1 a xs/\R (IA K a xs.length) H1
theorem Z0 (hg:Gl X "reversed")(hm:X.mg "reversed"=none)(ha:PA X [a] ta)(hs:starEach [a] X.env=[(false,eval a X.env)]:=by rfl):PI X tg (.Call (.Name "reversed" p) [a] [] pos) (Y' X.K ta):=by
 intro pins s σ H R I h;refine Call_ (D6 I hg hm boot_reversed (PyProof.Rows.callWith_type1 (AK (ha pos pins s σ H _ I h) λus s1 q1=>?_) hs rfl));obtain ⟨vs,H1,I1,r1,l,xs,rfl,hq,q⟩:=q1;obtain ⟨u,rfl,ru⟩:=vals1 r1;cases ru;obtain ⟨its,rv,pl,hz⟩:=I1.list hq;have hlen:=rv.length;refine call_reversed_list pl.isList ?_;have gr:(s1.heap.push (revObj l ((its.toArray.size:Int) - 1))).IsRevIter s1.heap.objs.size l ((xs.length:Int) - 1 - ((0:Nat):Int)):=by
  refine ⟨_,Heap.get?_push_size _ rfl,rfl,?_⟩;show Data.fields #[.ref l,rawInt ((its.toArray.size:Int) - 1)]=_;rw [List.size_toArray,<- hlen];simp
 refine wpAny_pyIter_revIter gr ?_;refine ⟨s1.heap.objs.size,[s1.heap.objs.size],_,_,H1,rfl,I1.kept (t':=s1.toks) λb o e=>Heap.get?_push_of_some _ e,Rg l _ xs.length,⟨Nat.zero_le _,gr⟩,λb hb=>?_,q⟩;obtain rfl:b=s1.heap.objs.size:=by simpa using hb
 exact I1.abj (Nat.le_refl _) (I1.hok.fresh (Nat.le_refl _))
end
theorem NP {K:W.Frag}{a:Addr}{xs:List V}{g:TG}{tb:TS}{D:Ends}{σ:St}{H:Hp}(Pv:Nat->St->Hp->Prop)(h0:Pv 0 σ H)(hl:∀ i σ H,i<=xs.length->Pv i σ H->AG K H a xs)
  (hs:∀ i x σ H,xs.reverse[i]?=some x->Pv i σ H->g x σ H fun σ2 H2=>tb { D with nx:=Pv (i+1),ct:=Pv (i+1),bk:=D.nx } σ2 H2) (hd:∀ σ H,Pv xs.length σ H->D.nx σ H) :
  ∃ W:Nat->Nat->St->Hp->Prop,(∃ m,W 0 m σ H)/\∀ i m σ H,W i m σ H ->
   ((IA K a xs.length).stop i H/\D.nx σ H)\/((IA K a xs.length).go i H/\∃ N:St->Hp->Prop,(∀ σ' H',N σ' H'->∃ m',m' < m/\W (i+1) m' σ' H')/\∀ x H',(IA K a xs.length).yld i H x H'->g x σ H' fun σ2 H2=>tb { D with nx:=N,ct:=N,bk:=D.nx } σ2 H2):=by
 refine ⟨λi m σ H=>m=xs.length - i/\i<=xs.length/\Pv i σ H,⟨xs.length,by simp,Nat.zero_le _,h0⟩,?_⟩;rintro i m σ H ⟨rfl,hi,p⟩;have q:=hl i σ H hi p;by_cases CT:i < xs.length
 ·refine .inr ⟨⟨xs,q,rfl,CT⟩,Pv (i+1),fun σ' H' p'=>⟨xs.length - (i+1),(),rfl,CT,p'⟩,λx H' y=>?_⟩;obtain ⟨e,y⟩:=y;subst e;exact hs i x σ _ (y xs q) p
 ·obtain rfl:i=xs.length:=by omega
  exact .inl ⟨Nat.le_refl _,hd σ H p⟩
open PySem.W (fnMade fnX envX CodeHd tabObj makeFunction_K makeFunction_hit nestDef_K FnAt callWith_F)
noncomputable def C9 (a:Addr)(o:Obj):HO:=.ext λh=>h.get? a=some o
section
variable {P:Program}{w:World}{H H':Hp}{h h':Heap}{a b:Addr}{o:Obj}{fs:List Addr}
theorem C9.ok (e:h.get? a=some o):AJ P w H h a (C9 a o):=⟨e,⟨o,e⟩,λh1 h2 p k=>k o p⟩
theorem C9.get (x:De P w H h)(e:H a=some (C9 a o)):h.get? a=some o:=(x a _ e).1
end
structure FX (base:Heap)(mg:Str->Option Value)(c P:Addr):Prop where
 hd:CodeHd base c P
 bm:∃ bm ob,mg "__builtins__"=some (.ref bm)/\bm≠builtinsNs/\base.get? bm=some ob/\ob.cls=.type "module"/\ob.dict=some builtinsNs/\ob.data=.plain
noncomputable def CW (q:Str)(oc:Obj):Prop:=∃ vs t,oc.data=.fields vs/\vs[1]?=some (.str q t)
end L2
namespace KM
inductive Kd where
 | num | tru | gap (k:Int) | fn (a b:Kd) | pr (a b:Kd) | ls (a:Kd)
 deriving DecidableEq
noncomputable def DL:Kd->Bool
 | .gap _=>true
 | _=>false
noncomputable def parts:Kd->List Kd
 | .fn a b=>[a,b]
 | .pr a b=>[a,b]
 | .ls a=>[a]
 | _=>[]
noncomputable def sz:Kd->Nat
 | .fn a b=>sz a+sz b+1
 | .pr a b=>sz a+sz b+1
 | .ls a=>sz a+1
 | _=>1
noncomputable def dp:Kd->Nat
 | .fn a b=>max (dp a) (dp b)+1
 | .pr a b=>max (dp a) (dp b)+1
 | .ls a=>dp a+1
 | _=>0
noncomputable def szs:List Kd->Nat
 | []=>0
 | t::ts=>sz t+szs ts
theorem EC (a b:List Kd):szs (a++b)=szs a+szs b:=by
 induction a with
 | nil=>simp [szs]
 | cons t ts ih=>simp only [List.cons_append,szs,ih];omega
theorem Pp (t:Kd):szs (parts t)+1=sz t:=by cases t <;> rfl
theorem Pq (t:Kd):(parts t).length<=2:=by cases t <;> first | exact Nat.le_refl _ | exact Nat.zero_le _ | exact Nat.le_succ _
noncomputable def fill (m:Int->Option Kd):Kd->Kd
 | .gap k=>(m k).getD (.gap k)
 | .fn a b=>.fn (fill m a) (fill m b)
 | .pr a b=>.pr (fill m a) (fill m b)
 | .ls a=>.ls (fill m a)
 | .num=>.num
 | .tru=>.tru
end KM
namespace KS
open PySem PySem.Spec PyProof.Rows L2 KM
noncomputable def word:Kd->Str
 | .num=>"number"
 | .tru=>"truth"
 | .gap _=>"any"
 | .fn _ _=>"fun"
 | .pr _ _=>"pair"
 | .ls _=>"list"
noncomputable def B7 (H:Hp):Kd->V->Prop
 | .num,v=>∃ a,v=.ref a/\H a=some (.tup [.str "number"])
 | .tru,v=>∃ a,v=.ref a/\H a=some (.tup [.str "truth"])
 | .gap k,v=>∃ a,v=.ref a/\H a=some (.tup [.str "any",.int k])
 | .ls x,v=>∃ a u,v=.ref a/\H a=some (.tup [.str "list",u])/\B7 H x u
 | .fn x y,v=>∃ a u w,v=.ref a/\H a=some (.tup [.str "fun",u,w])/\B7 H x u/\B7 H y w
 | .pr x y,v=>∃ a u w,v=.ref a/\H a=some (.tup [.str "pair",u,w])/\B7 H x u/\B7 H y w
abbrev oH (H:Hp):List Kd->List V->Prop:=Paired (B7 H)
noncomputable def Ae (H H':Hp):Prop:=∀ a xs,H a=some (.tup xs)->H' a=some (.tup xs)
theorem Ae.trans (a:Ae H H1)(b:Ae H1 H2):Ae H H2:=λc xs h=>b c xs (a c xs h)
theorem Ae.of_same (s:A9 H H'):Ae H H':=λa xs h=>s a _ h
theorem Ae.put (h:∀ xs,H a≠some (.tup xs)):Ae H (upd H a o):=λb xs e=>by
 rw [A8]
 ·exact e
 ·intro z;subst z;exact h xs e
theorem Ae.new (h:H a=none):Ae H (upd H a o):=Ae.put λxs e=>by rw [h] at e;cases e
theorem B7.mono (s:Ae H H'):∀ {t:Kd} {v:V},B7 H t v->B7 H' t v:=by
 intro t
 induction t with
 | num | tru | gap _=>rintro v ⟨a,e,h⟩;exact ⟨a,e,s _ _ h⟩
 | ls _ ih=>rintro v ⟨a,u,e,h,p⟩;exact ⟨a,u,e,s _ _ h,ih p⟩
 | fn _ _ ih ij | pr _ _ ih ij=>rintro v ⟨a,u,w,e,h,p,q⟩;exact ⟨a,u,w,e,s _ _ h,ih p,ij q⟩
theorem B7.look:∀ {t:Kd} {v:V},B7 H t v->∃ a us,v=.ref a/\H a=some (.tup (.str (word t)::us))/\(DL t=false->oH H (parts t) us)/\(∀ k,t=.gap k->us=[.int k])/\us.length<=2:=by
 intro t;cases t with
 | num | tru=>rintro v ⟨a,e,h⟩;exact ⟨a,[],e,h,λ_=>.nil,λ_ z=>(by cases z),Nat.zero_le _⟩
 | gap k=>rintro v ⟨a,e,h⟩;exact ⟨a,[.int k],e,h,λz=>(by cases z),λ_ z=>(by cases z;rfl),Nat.le_succ _⟩
 | ls _=>rintro v ⟨a,u,e,h,p⟩;exact ⟨a,[u],e,h,λ_=>.cons p .nil,λ_ z=>(by cases z),Nat.le_succ _⟩
 | fn _ _ | pr _ _=>rintro v ⟨a,u,w,e,h,p,q⟩;exact ⟨a,[u,w],e,h,λ_=>.cons p (.cons q .nil),λ_ z=>(by cases z),Nat.le_refl _⟩
theorem Rh:(word t=("any":Str))↔DL t=true:=by
 cases t <;> simp [word,DL] <;> decide
noncomputable def pd:Kd->PyData
 | .num=>.tuple [.str "number"]
 | .tru=>.tuple [.str "truth"]
 | .gap k=>.tuple [.str "any",.int k]
 | .ls x=>.tuple [.str "list",pd x]
 | .fn x y=>.tuple [.str "fun",pd x,pd y]
 | .pr x y=>.tuple [.str "pair",pd x,pd y]
theorem Dg:PyData.strOk (Str.ofString "number")=true/\PyData.strOk (Str.ofString "truth")=true/\PyData.strOk (Str.ofString "any")=true/\PyData.strOk (Str.ofString "list")=true/\PyData.strOk (Str.ofString "fun")=true/\PyData.strOk (Str.ofString "pair")=true:=by decide +kernel
theorem Ft:∀ t:Kd,(pd t).canLay0=true
 | .num=>by simp [pd,PyData.canLay0,PyData.canLayAll0,Dg]
 | .tru=>by simp [pd,PyData.canLay0,PyData.canLayAll0,Dg]
 | .gap k=>by simp [pd,PyData.canLay0,PyData.canLayAll0,Dg]
 | .ls x=>by simp [pd,PyData.canLay0,PyData.canLayAll0,Ft x,Dg]
 | .fn x y=>by simp [pd,PyData.canLay0,PyData.canLayAll0,Ft x,Ft y,Dg]
 | .pr x y=>by simp [pd,PyData.canLay0,PyData.canLayAll0,Ft x,Ft y,Dg]
theorem Dh:∀ t:Kd,(pd t).depth=dp t+1
 | .num=>by simp [pd,PyData.depth,PyData.depthAll,dp]
 | .tru=>by simp [pd,PyData.depth,PyData.depthAll,dp]
 | .gap k=>by simp [pd,PyData.depth,PyData.depthAll,dp]
 | .ls x=>by simp [pd,PyData.depth,PyData.depthAll,dp,Dh x]
 | .fn x y=>by simp [pd,PyData.depth,PyData.depthAll,dp,Dh x,Dh y]
 | .pr x y=>by simp [pd,PyData.depth,PyData.depthAll,dp,Dh x,Dh y]
theorem IB (h:dp t<=60):SeqAt.shaped (pd t)=true:=by
 unfold SeqAt.shaped;rw [Ft,Dh];simp;omega
noncomputable def tag:Kd->Nat
 | .num=>0
 | .tru=>1
 | .gap _=>2
 | .fn _ _=>3
 | .pr _ _=>4
 | .ls _=>5
noncomputable def Ri:Nat->Str
 | 0=>"number"
 | 1=>"truth"
 | 2=>"any"
 | 3=>"fun"
 | 4=>"pair"
 | _=>"list"
theorem Kj:∀ i,i < 6->∀ j,j < 6->(Ri i==Ri j)=(i==j):=by decide +kernel
theorem Gn (t:Kd):word t=Ri (tag t):=by cases t <;> rfl
theorem Rj (t:Kd):tag t < 6:=by cases t <;> simp [tag]
theorem Rk (t t':Kd):(word t==word t')=(tag t==tag t'):=by
 rw [Gn,Gn,Kj _ (Rj t) _ (Rj t')]
theorem Va (xs ys:List PyData):PyData.eqv (.tuple xs) (.tuple ys)=PyData.eqvAll xs ys:=by rw [PyData.eqv]
theorem CG (x y:PyData)(xs ys:List PyData):PyData.eqvAll (x::xs) (y::ys)=(PyData.eqv x y && PyData.eqvAll xs ys):=by rw [PyData.eqvAll]
theorem E8:PyData.eqvAll [] []=true:=by rw [PyData.eqvAll]
theorem Vb (x y:Str):PyData.eqv (.str x) (.str y)=(x==y):=by rw [PyData.eqv]
theorem Vc (x y:Int):PyData.eqv (.int x) (.int y)=(x==y):=by rw [PyData.eqv]
noncomputable def Vd:Kd->List PyData
 | .num=>[]
 | .tru=>[]
 | .gap k=>[.int k]
 | .ls x=>[pd x]
 | .fn x y=>[pd x,pd y]
 | .pr x y=>[pd x,pd y]
theorem Xi (t:Kd):pd t=.tuple (.str (word t)::Vd t):=by cases t <;> rfl
theorem Fu (t t':Kd):PyData.eqv (pd t) (pd t')=((tag t==tag t') && PyData.eqvAll (Vd t) (Vd t')):=by
 rw [Xi,Xi,Va,CG,Vb,Rk]
theorem Z1:∀ t t':Kd,PyData.eqv (pd t) (pd t')=decide (t=t'):=by
 intro t
 induction t with
 | num=>intro t';rw [Fu];cases t' <;> simp [tag,Vd,E8]
 | tru=>intro t';rw [Fu];cases t' <;> simp [tag,Vd,E8]
 | gap k =>
  intro t';rw [Fu];cases t' <;> simp only [tag,Vd] <;> try (simp;done)
  rw [CG,Vc,E8,Bool.eq_iff_iff];simp
 | ls x ih =>
  intro t';rw [Fu];cases t' <;> simp only [tag,Vd] <;> try (simp;done)
  rw [CG,E8,ih,Bool.eq_iff_iff];simp
 | fn x y oI oJ =>
  intro t';rw [Fu];cases t' <;> simp only [tag,Vd] <;> try (simp;done)
  rw [CG,CG,E8,oI,oJ,Bool.eq_iff_iff];simp
 | pr x y oI oJ =>
  intro t';rw [Fu];cases t' <;> simp only [tag,Vd] <;> try (simp;done)
  rw [CG,CG,E8,oI,oJ,Bool.eq_iff_iff];simp
end KS
namespace PySem
open AutoSeq1 (wpAny_loadPart')
namespace F
theorem Kk:Manifest.owners.lookup (String.ofList ['d','e','s','r','e','v','e','r'].reverse)=some Manifest.sig_reversed:=by kernel_rfl
theorem Ve:Slot "reversed" "__init__" "object.__init__" :=
 .of (owner:="object") (n:="__init__") (by rw [typeLookup_type,builtinLookup_eq_fast];kernel_rfl) (by decide +kernel) (by decide +kernel) (by decide +kernel) (by first | exact .inl (by decide +kernel) | exact .inr (by decide +kernel)) (by rw [isSubtype_type];kernel_rfl)
theorem abl:Slot "reversed" "__iter__" "reversed.__iter__" :=
 .of (owner:="reversed") (n:="__iter__") (by rw [typeLookup_type,builtinLookup_eq_fast];kernel_rfl) (by decide +kernel) (by decide +kernel) (by decide +kernel) (by first | exact .inl (by decide +kernel) | exact .inr (by decide +kernel)) (by rw [isSubtype_type];kernel_rfl)
theorem aas:Slot "reversed" "__next__" "reversed.__next__" :=
 .of (owner:="reversed") (n:="__next__") (by rw [typeLookup_type,builtinLookup_eq_fast];kernel_rfl) (by decide +kernel) (by decide +kernel) (by decide +kernel) (by first | exact .inl (by decide +kernel) | exact .inr (by decide +kernel)) (by rw [isSubtype_type];kernel_rfl)
theorem aa1:typeLookup (.type "tuple") "__reversed__"=pure none:=by rw [typeLookup_type,builtinLookup_eq_fast];kernel_rfl
theorem aak:entryFor table "reversed.__next__"=some Builtin.«reversed.__next__»:=entryFor_of_tree (by kernel_rfl)
theorem aay:entryFor table "reversed.__iter__"=some Builtin.«dict_keyiterator.__iter__» :=
 entryFor_alias (id':="dict_keyiterator.__iter__") (by kernel_rfl) (by first | rfl | decide +kernel | (unfold String.splitOn;simp +decide [String.splitOnAux])) (by decide +kernel) (by kernel_rfl)
theorem aap (a:Value):argsOk "reversed.__next__" ⟨[a],[]⟩:=by
 unfold argsOk;rw [signature?_of (id:="reversed.__next__") (n:=['_','_','t','x','e','n','_','_']) (o:=['d','e','s','r','e','v','e','r']) (by kernel_rfl) Kk];kernel_rfl
theorem aa3 (a:Value):argsOk "reversed.__iter__" ⟨[a],[]⟩:=by
 unfold argsOk;rw [signature?_of (id:="reversed.__iter__") (n:=['_','_','r','e','t','i','_','_']) (o:=['d','e','s','r','e','v','e','r']) (by kernel_rfl) Kk];kernel_rfl
theorem Rl:mroOf (.type "reversed")=pure [.type "reversed",.type "object"]:=by rw [mroOf_type];kernel_rfl
theorem Vf:typeLookup (.type "reversed") "__new__"=pure (some (.builtin "reversed.__new__")):=by rw [typeLookup_type,builtinLookup_eq_fast];kernel_rfl
theorem Vg:Bind.madeBy (.type "reversed")=pure (some "reversed.__new__"):=madeBy_type Rl Vf (by decide +kernel)
theorem abr (a:Value):checkTypeCall "reversed" ⟨[a],[]⟩=pure Unit.unit:=by kernel_rfl
theorem aby (a:Value):checkBuiltinCall "reversed.__new__" ⟨[.type "reversed",a],[]⟩=pure Unit.unit:=by kernel_rfl
theorem aa2:entryFor table "reversed.__new__"=some Builtin.«reversed.__new__»:=entryFor_of_tree (by kernel_rfl)
theorem aa0:TypeCalled "reversed" "reversed.__new__" "object.__init__" :=
 ⟨by decide +kernel,by decide +kernel,⟨_,_,Rl⟩,Vg,by decide +kernel,by rw [isSubtype_type];kernel_rfl,Ve⟩
theorem aax:isSubtype (.type "tuple") (.type "dict")=pure false:=by rw [isSubtype_type];kernel_rfl
end F
abbrev Rm (t:Addr)(i:Int):Obj:={ cls:=.type "reversed",data:=.fields #[.ref t,rawInt i] }
theorem J9 (l:Addr)(items:Array Value)(n:Nat)(dd:Option Addr)(sl:Array (Option Value)):
  Meets (Builtin.«reversed.__new__» ⟨[.type "reversed",.ref l],[]⟩) (λA R s=>s.heap.get? l=some { cls:=.type "tuple",dict:=dd,data:=.seq items n,slots:=sl }/\¬ (items.size:Int) ≥ 2 ^ 63 /\
   R (.ok (.ret (.ref s.heap.objs.size))) { s with heap:=s.heap.push (Rm l ((items.size:Int) - 1)),toks:=s.toks+1+1 }) :=
 .of_wp λprog w A R s h=>by
  obtain ⟨hp,g,d,tk,os⟩:=s;obtain ⟨hl,hf,h⟩:=h;have Vh:=F.aa0.sub;have vo:=F.aax;have fz:=F.slot_tuple_getitem.lookup
  wp_walk using wpAny_loadPart' hl
  refine wpAny_of_eq (show typeLookup _ _=pure none from F.aa1) ?_;dsimp only;have hT:PyProof.Rows.IsTup (Shared.heap ⟨hp,g,d,tk,os⟩) l items:=⟨_,hl,rfl,n,rfl⟩;have yK:((items.size:Nat):Int) < 2 ^ 63:=by omega
  wp_walk using wpAny_loadPart' hl,PyProof.Rows.len_tuple hT yK
  exact ⟨_,rfl,h⟩
section
variable {prog:Program}{w:World}{A:Around}{E:Value->Shared->Prop}{s:Shared}
theorem Vi (hl:PyProof.Rows.IsTup s.heap l items)(hf:¬ (items.size:Int) ≥ 2 ^ 63)(h:Q (.ref s.heap.objs.size) { s with heap:=s.heap.push (Rm l ((items.size:Int) - 1)),toks:=s.toks+1+1 }):wpAny (model prog w) A (call (.type "reversed") [.ref l]) Q E s:=by
 obtain ⟨⟨cls,dd,da,sl⟩,ho,hc,n,hd⟩:=hl;simp only at hc hd;subst hc hd;refine callType_new F.aa0 ⟨⟩ (F.abr _) (F.aby _) (λobj=>F.args_object_init_2 obj _) F.aa2 (J9 l items n dd sl) ⟨ho,hf,?_⟩;exact ⟨⟨_,Heap.get?_push_size _ rfl,rfl⟩,h⟩
noncomputable def Heap.IsRt (h:Heap)(a l:Addr)(i:Int):Prop:=∃ o,h.get? a=some o/\o.cls=.type "reversed"/\o.data=.fields #[.ref l,rawInt i]
theorem Heap.IsRt.typeIs (x:s.heap.IsRt a l i):s.TypeIs (.ref a) "reversed":=let ⟨o,ho,hc,_⟩:=x;⟨o,ho,hc⟩
theorem Heap.IsRt.at {h h':Heap}{a l:Addr}{i:Int}(x:h.IsRt a l i)(e:∀ o,h.get? a=some o->h'.get? a=some o):h'.IsRt a l i:=let ⟨o,ho,r⟩:=x;⟨o,e _ ho,r⟩
theorem IC (hit:s.heap.IsRt it l i)(h:Q (.ref it) s):wpAny (model prog w) A (pyIter (.ref it)) Q E s:=by
 refine wpAny_pyIter_slot hit.typeIs F.abl (wpAny_call_entry F.abl hit.typeIs F.aay ?_ (F.aa3 _));show wpAny _ _ (ret (.ref it)) _ _ s;exact wpAny_pure ⟨_,rfl,"reversed",_,hit.typeIs,F.aas.lookup,h⟩
theorem Vj {it l:Addr}{i:Nat}{items:Array Value}{x:Value}{Q:Option Value->Shared->Prop}(hit:s.heap.IsRt it l (i:Int))(hl:PyProof.Rows.IsTup s.heap l items)(hx:items[i]?=some x)(hf:items.size < 2 ^ 40)
  (hQ:∀ h' tk,h'.IsRt it l ((i:Int) - 1)->Heap.SameBut it s.heap h'->Q (some x) { s with heap:=h',toks:=tk }):wpAny (model prog w) A (pyNext (.ref it)) Q E s:=by
 obtain ⟨o,ho,hc,hd⟩:=id hit;have fz:=F.slot_tuple_getitem.lookup;have yL:i < items.size:=(Array.getElem?_eq_some_iff.mp hx).1;unfold pyNext;refine wpAny_bind (wpAny_attempt (wpAny_callSpecial?_slot (name:=Str.ofString "__next__") hit.typeIs F.aas
  (wpAny_call_entry F.aas hit.typeIs F.aak ?_ (F.aap _))))
 unfold Builtin.«reversed.__next__»;refine wpAny_bind (wpAny_of_eq (a:=(Value.ref it,[])) rfl ?_)
 try dsimp only
 refine wpAny_bind (wpAny_field ho hd (x:=.ref l) rfl ?_);refine wpAny_bind (wpAny_field ho hd (x:=rawInt (i:Int)) rfl ?_);show wpAny _ _ (if (i:Int) < 0 then _ else _) _ _ s
 rw [if_neg ()];refine wpAny_bind (wpAny_specialOf hl.typeIs fz ?_);rw [if_neg (show ¬ ((some (Value.builtin "tuple.__getitem__")).isNone=true) from Bool.false_ne_true)];refine wpAny_bind (wpAny_mkInt ?_);refine wpAny_bind (wpAny_attempt (PyProof.Rows.getItem_tuple (s:={ s with toks:=s.toks+1 }) hl () () (j:=i) (by simp [seqIndex?];omega) hx ?_))
 try dsimp only
 refine wpAny_bind (wpAny_field (s:={ s with toks:=s.toks+1 }) ho hd (x:=rawInt (i:Int)) rfl ?_);show wpAny _ _ (setField (.ref it) 1 (rawInt ((i:Int) - 1)) >>= λ_=>ret x) _ _ _;refine wpAny_bind (wpAny_setField (s:={ s with toks:=s.toks+1 }) ho hd (by simp) ?_);refine wpAny_pure ⟨x,rfl,wpAny_pure (hQ _ _ ?_ (Heap.SameBut.update ..))⟩;exact ⟨_,Heap.get?_update_self _ ho (Obj.isFreed_of_fields (Obj.data_mapFields hd _)),(Obj.cls_mapFields ..).trans hc,by rw [Obj.data_mapFields hd];simp⟩
theorem Vk (hh:A.handled=none)(hit:s.heap.IsRt it l (-1))(hQ:∀ h',Heap.ExtBut it s.heap h'->Q none { s with heap:=h' }):wpAny (model prog w) A (pyNext (.ref it)) Q E s:=by
 obtain ⟨o,ho,hc,hd⟩:=id hit;unfold pyNext;refine wpAny_bind (wpAny_attempt (wpAny_callSpecial?_slot (name:=Str.ofString "__next__") hit.typeIs F.aas
  (wpAny_call_entry F.aas hit.typeIs F.aak ?_ (F.aap _))))
 unfold Builtin.«reversed.__next__»;refine wpAny_bind (wpAny_of_eq (a:=(Value.ref it,[])) rfl ?_)
 try dsimp only
 refine wpAny_bind (wpAny_field ho hd (x:=.ref l) rfl ?_);refine wpAny_bind (wpAny_field ho hd (x:=rawInt (-1)) rfl ?_);show wpAny _ _ (if (-1:Int) < 0 then _ else _) _ _ s
 rw [if_pos ⟨⟩];refine wpAny_bind (wpAny_rule ?_);refine wpAny_bind ?_;show wpAny _ _ (setField (.ref it) 1 (rawInt (-1)) >>= λ_=>setField (.ref it) 0 .none) _ _ s;refine wpAny_bind (wpAny_setField ho hd (by simp) ?_);have Ub:=Heap.get?_update_self (Obj.mapFields λvs=>vs.set! 1 (rawInt (-1))) ho (Obj.isFreed_of_fields (Obj.data_mapFields hd _));refine wpAny_setField Ub (Obj.data_mapFields hd _) (by simp) ?_;have ext2:Heap.ExtBut it s.heap ((s.heap.update it (Obj.mapFields λvs=>vs.set! 1 (rawInt (-1)))).update it (Obj.mapFields λvs=>vs.set! 0 Value.none)):=λb o' hb e =>
  (Heap.get?_update_other _ _ (Ne.symm hb)).trans ((Heap.get?_update_other _ _ (Ne.symm hb)).trans e)
 refine wpAny_bind ?_;show wpAny _ _ (newExc (.type "StopIteration") [] >>= _) _ _ _;refine wpAny_bind ?_;simp only [newExc,newTuple];refine wpAny_bind (wpAny_newObj_type ?_ (by size_fits));refine wpAny_bind (m:=firstArgMember _ _) (wpAny_of_eq (a:=Value.none) (by first | rfl | (simp only [firstArgMember];rfl)) ?_)
 refine wpAny_newObj_type ?_ (by size_fits);simp only [raiseNew];refine wpAny_bind (wpAny_handled ?_)
 first | rw [show A.in1.handled=none from hh] | rw [hh]
 refine wpAny_bind (wpAny_pure (wpAny_throw ?_));refine wpAny_bind (wpAny_isInstance (T:="StopIteration") (b:=true) ⟨_,Heap.get?_push_size _ rfl,rfl⟩ isSubtype_stop ?_);exact wpAny_pure (hQ _ ((ext2.push _).push _))
end
end PySem
namespace L2
open PySem PySem.Spec PyProof.Rows
mutual
inductive Ly (H:Hp):PyData->V->Prop
 | non:Ly H .none .non
 | bl (b:Bool):Ly H (.bool b) (.bl b)
 | int (i:Int):Ly H (.int i) (.int i)
 | str (x:Str):Ly H (.str x) (.str x)
 | tup {a:Addr} {us:List V} {ds:List PyData}:H a=some (.tup us)->Ro H ds us->Ly H (.tuple ds) (.ref a)
 | lst {a:Addr} {us:List V} {ds:List PyData}:H a=some (.lst us)->Ro H ds us->Ly H (.list ds) (.ref a)
inductive Ro (H:Hp):List PyData->List V->Prop
 | nil:Ro H [] []
 | cons {d:PyData} {v:V} {ds:List PyData} {us:List V}:Ly H d v->Ro H ds us->Ro H (d::ds) (v::us)
end
theorem Ly.reads (x:De P w H h)(k:Ly H d v):RelV v u->∃ as,Reads h u d as:=by
 revert u
 refine Ly.rec (motive_1:=λd v _=>∀ {u},RelV v u->∃ as,Reads h u d as) (motive_2:=λds vs _=>∀ {us},Vals vs us->∃ as,ReadsAll h us ds as) ?_ ?_ ?_ ?_ ?_ ?_ ?_ ?_ k
 ·intro u r;cases r;exact ⟨_,.none⟩
 ·intro b u r;cases r;exact ⟨_,.bool b⟩
 ·intro i u r;obtain ⟨t,rfl⟩:=r;exact ⟨_,.int i t⟩
 ·intro s u r;obtain ⟨t,rfl⟩:=r;exact ⟨_,.str s t⟩
 ·intro a us ds e _ ih u r;cases r;obtain ⟨_,its,rv,o,h1,h2,n,h3⟩:=(show AJ P w H h _ (.tup _) from x _ _ e);obtain ⟨as,ra⟩:=ih rv;exact ⟨_,.tuple h1 h2 h3 ra⟩
 ·intro a us ds e _ ih u r;cases r;obtain ⟨_,its,n,rv,h1⟩:=(show AJ P w H h _ (.lst _) from x _ _ e);obtain ⟨as,ra⟩:=ih rv;exact ⟨_,.list h1 rfl rfl ra⟩
 ·intro us r;cases r;exact ⟨_,.nil⟩
 ·intro d v ds us _ _ ih ij ws r;cases r with
  | cons r rs =>
   obtain ⟨as,ra⟩:=ih r;obtain ⟨bs,rb⟩:=ij rs;exact ⟨_,.cons ra rb⟩
end L2
namespace KS
open PySem PySem.Spec PyProof.Rows L2 KM
theorem B7.dat:∀ {v:V},B7 H t v->Ly H (pd t) v:=by
 induction t with
 | num | tru=>rintro v ⟨a,rfl,q⟩;exact .tup q (.cons (.str _) .nil)
 | gap k=>rintro v ⟨a,rfl,q⟩;exact .tup q (.cons (.str _) (.cons (.int _) .nil))
 | ls _ ih=>rintro v ⟨a,u,rfl,q,p⟩;exact .tup q (.cons (.str _) (.cons (ih p) .nil))
 | fn _ _ ih ij | pr _ _ ih ij=>rintro v ⟨a,u,w,rfl,q,p,p'⟩;exact .tup q (.cons (.str _) (.cons (ih p) (.cons (ij p') .nil)))
theorem B7.reads (x:De P w H h)(k:B7 H t v)(r:RelV v u):∃ as,Reads h u (pd t) as:=Ly.reads x (B7.dat k) r
section
variable {X:Cx}
noncomputable def fA:R2:=λx y H Q=>∃ t t',B7 H t x/\B7 H t' y/\dp t<=60/\dp t'<=60/\Q (.bl (decide (t=t'))) H
theorem Z2 (hu:X.A.units+64 < cLine):Ee X (compareOp .Eq) fA:=by
 intro pins s σ H x y v u Q I rx ry h;obtain ⟨t,t',k1,k2,d1,d2,q⟩:=h;obtain ⟨as,ra⟩:=B7.reads I.hok k1 rx;obtain ⟨bs,rb⟩:=B7.reads I.hok k2 ry;exact eq_dataH ra rb (IB d1) (IB d2) hu (Aw I q (Z1 t t').symm)
theorem DM:CB X (.builtin "isinstance") (λxs H Q=>∃ x t T b,xs=[x,.ty T]/\Dy X.K H x t/\W.kitOne X.K t (.type T)=some b/\Q (.bl b) H):=by
 intro pins s σ H xs us Q I r h;obtain ⟨x,t,T,b,rfl,ty,e,q⟩:=h;obtain ⟨u,u',rfl,ru,NQ⟩:=vals2 r;obtain rfl:u'=Value.type T:=NQ;exact Pa I ru ty e λtk=>⟨.bl b,H,I.tok tk,rfl,q⟩
theorem all_bools:∀ (bs:List Bool),((List.range bs.length).all λi=>bs.getD i true)=bs.all id:=by
 intro bs;rw [Bool.eq_iff_iff];simp only [List.all_eq_true,List.mem_range,id]
 constructor
 ·intro h b hb;obtain ⟨i,hi,e⟩:=List.mem_iff_getElem.mp hb;have:=h i hi;simpa [List.getD,List.getElem?_eq_getElem hi,e] using this
 ·intro h i hi;have:=h bs[i] (List.getElem_mem hi);simpa [List.getD,List.getElem?_eq_getElem hi] using this
theorem Pu (hc:X.calm=true):CB X (.builtin "all") (λxs H Q=>∃ (l:Addr) (bs:List Bool),xs=[.ref l]/\H l=some (.lst (bs.map V.bl))/\Q (.bl (bs.all id)) H):=by
 intro pins s σ H xs us Q I r h;obtain ⟨l,bs,rfl,hl,q⟩:=h;obtain ⟨u,rfl,ru⟩:=vals1 r;obtain rfl:u=Value.ref l:=ru;obtain ⟨hz,its,n,rv,e⟩:=(show AJ X.prog X.w H s.heap l (.lst (bs.map V.bl)) from I.hok l _ hl);have hlen:=rv.length;rw [List.length_map] at hlen;have hL:s.heap.IsList l its.toArray:=⟨_,e,rfl,n,rfl⟩;have CT:l < s.heap.objs.size:=Heap.lt_size e;have hh:X.A.in1.handled=none:=I.ok.hd hc;refine call_all_walk (wpAny_pyIter_list hL ?_);refine ⟨s.heap.objs.size,_,_,its.toArray.size,_,_,λi=>bs.getD i true,rfl,Walks.list hh s.heap.objs.size l (Nat.ne_of_lt CT) its.toArray,⟨⟨_,Heap.get?_push_size _ rfl,rfl,rfl⟩,⟨_,Heap.get?_push_of_some _ e,rfl,n,rfl⟩⟩,?_,λh' tk hk=>?_⟩
 ·intro i v s' Q' E' hv hq;have LM:its[i]?=some v:=by simpa using hv
  have hi:i < its.length:=(List.getElem?_eq_some_iff.mp LM).1;have hb:(bs.map V.bl)[i]?=some (V.bl (bs[i]'())):=by rw [List.getElem?_map,List.getElem?_eq_getElem ()];rfl
  obtain ⟨u,hu,ru⟩:=rv.get hb;rw [LM] at hu;cases hu;obtain rfl:v=Value.bool (bs[i]'()):=ru;refine wpAny_truthy_bool ?_;have e1:bs.getD i true=bs[i]'():=by simp [List.getD,List.getElem?_eq_getElem (show i < bs.length by omega)]
  rw [<- e1];exact hq
 ·have I1:Inv X pins σ H { s with heap:=h',toks:=tk }:=I.kept λb o z=>hk b o (λy=>absurd (List.mem_singleton.mp y) (Nat.ne_of_lt (Heap.lt_size z))) (Heap.get?_push_of_some _ z);refine Aw I1 q ?_;rw [List.size_toArray,<- hlen];exact (all_bools bs).symm
theorem Pw (rv:Vals xs its)(hA:ItemsOf (λi v=>its.toArray[its.toArray.size - 1 - i]?=some v) acc its.toArray.size):Vals xs.reverse acc.toList:=by
 have hl:=rv.length;have e:acc.toList=its.reverse:=by
  have hs:acc.size=its.length:=hA.1.trans (by simp);have hA:=hA.2;refine List.ext_getElem? λj=>?_;by_cases hj:j < its.length
  ·have h1:acc[j]?=some (acc[j]'()):=Array.getElem?_eq_getElem ();have h2:=hA j _ h1;rw [List.getElem?_reverse hj];simp only [List.size_toArray,List.getElem?_toArray] at h2;rw [h2];simpa using h1
  ·have h1:acc.toList[j]?=none:=List.getElem?_eq_none (by simp;omega);have h2:its.reverse[j]?=none:=List.getElem?_eq_none (by simp;omega);rw [h1,h2]
 rw [e];exact rv.reverse
end
end KS
namespace L2
open PySem PySem.Spec PyProof.Rows
open PySem.W (CodeHd tabObj TabsAt noTabs mem_of_lookupK)
noncomputable def fB (tabs:List (Addr × Addr))(H:Hp):Prop:=∀ b,H b=none\/(∃ o xs,H b=some (.frz o (.lst xs)))\/(H b=some (.tbl #[])/\b∈tabs.map (·.2))
theorem Vl {K:W.Frag}(hK:noTabs K=true){b:Addr}{o:Obj}(e:K.lookup b=some o){ps:Array Value}:o≠tabObj ps:=by
 intro q;have h2:=List.all_eq_true.mp hK (b,o) (mem_of_lookupK e);subst q;exact absurd (show false=true from h2) Bool.false_ne_true
theorem Px {P:Program}{w:World}{K:W.Frag}{mg mb:Str->Option Value}{CX:K7}{k:Nat}{fa a:Addr}{fd:FuncData}{x:Str}{sp:Sp}{s₁:Shared}{vs:List Value}{ns:List Int}{tabs:List (Addr × Addr)}
  (KX:K.In s₁.heap) (Ud:s₁.heap.Ns mainGlobals mg) (hb:s₁.heap.Ns builtinsNs mb) (yM:∀ x:Str,x≠"__name__"->mb x=bootBuiltins x) (oK:s₁.heap.NoLimit) (hg:s₁.gens=#[])
  (yN:∃ bm ob,mg "__builtins__"=some (.ref bm)/\bm≠builtinsNs/\s₁.heap.get? bm=some ob/\ob.cls=.type "module"/\ob.dict=some builtinsNs/\ob.data=.plain)
  (hT:TabsAt tabs s₁.heap) (hK:noTabs K=true)
  (ha:s₁.heap.get? a=some { cls:=.type "list",data:=.seq vs.toArray }) (hi:IntsAre vs ns) (hl:ns.length<=sizeLine) (hr:Ar k callerA)
  (F:∀ base:Heap,K.In base->base.Ns mainGlobals mg->(∀ q∈tabs,FX base mg q.1 q.2)->Aq P w K mg base CX k fa fd [x] sp) (fD:∀ (s:Shared) (u:Value),BindsTo s fd ⟨[u],[]⟩ [(x,u)])
  (Ua:∀ H:Hp,(∀ q∈tabs,H q.2=some (.tbl #[]))->AG K H a (ns.map V.int)->sp [.ref a] H (λv _=>v=.bl true) λ_ _ _=>False)
  (yO:∀ H e s',CX [] H s₁ (λ_ _ _=>False) e s'->False) :
  codeAny (model P w) callerA (.call (.ref fa) ⟨[.ref a],[]⟩) (λr s'=>r=.ok (.ret (.bool true))/\OldK s₁.heap s'.heap/\s'.os=s₁.os/\AllBare s'.gens) s₁:=by
 have rv:=Iy hi;have oM:=hi.length;have tabOf:∀ {b:Addr},b∈tabs.map (·.2)->s₁.heap.get? b=some (tabObj #[]):=λ{b} hm=>by
  obtain ⟨q,hq,e⟩:=List.mem_map.mp hm;rw [<- e];exact (hT q hq).2
 have core:∀ H:Hp,fB tabs H->(∀ q∈tabs,H q.2=some (.tbl #[]))->AG K H a (ns.map V.int)->De P w H s₁.heap->(∀ b,H b≠none->b=a\/b∈tabs.map (·.2))->(H a≠none->K.lookup a=none) ->
   codeAny (model P w) callerA (.call (.ref fa) ⟨[.ref a],[]⟩) (λr s'=>r=.ok (.ret (.bool true))/\OldK s₁.heap s'.heap/\s'.os=s₁.os/\AllBare s'.gens) s₁:=by
  intro H hO oN hS hok hA yP;have Gp:∀ {b:Addr} {o:Obj},s₁.heap.get? b=some o->H b=none->(HX s₁.heap H).get? b=some o:=λe n=>Qs e n;have YH:∀ {b:Addr} {o:Obj},s₁.heap.get? b=some o->o≠{ cls:=.type "list",data:=.seq vs.toArray }->o≠tabObj #[]->H b=none:=λ{b o} e d1 d2=>by
   cases q:H b with
   | none=>rfl
   | some u =>
    rcases hA b (by rw [q];simp) with e' | e'
    ·subst e';rw [ha] at e;cases e;exact absurd rfl d1
    ·rw [tabOf e'] at e;cases e;exact absurd rfl d2
  have ll:∀ {b:Addr} {m:Str->Option Value},s₁.heap.Ns b m->(HX s₁.heap H).Ns b m:=λ{b m} ⟨o,es,ep,e,d,r⟩=>⟨o,es,ep,Gp e (YH e (λz=>by rw [z] at d;cases d) (λz=>by rw [z] at d;cases d)),d,r⟩;have vp:K.In (HX s₁.heap H):=λb o e=>Gp (KX b o e) (by
   cases q:H b with
   | none=>rfl
   | some u =>
    rcases hA b (by rw [q];simp) with e' | e'
    ·subst e';rw [yP (by rw [q];simp)] at e;cases e
    ·have z:=KX b o e;rw [tabOf e'] at z;exact absurd (Option.some.inj z).symm (Vl hK e))
  have hM:Mod K mg (HX s₁.heap H):=⟨vp,ll Ud,⟨mb,ll hb,yM⟩,let ⟨mc,h1,h2⟩:=oK;⟨mc,ll h1,h2⟩⟩;have e0:LR P w K mg (HX s₁.heap H) callerA [] s₁ H:=⟨rfl,hM,λb o e=>Uu e,Nat.le_of_eq (OJ _ _),trivial,λb hb=>absurd (show b∈([]:List Addr) from hb) (by simp),hok,.of_eq hg⟩;have hN:∀ q∈tabs,FX (HX s₁.heap H) mg q.1 q.2:=λq hq=>by
   refine ⟨?_,?_⟩
   ·obtain ⟨o,cJ,file,tf,flags,tg,yQ,text,tt,e1,c1,r⟩:=(hT q hq).1;exact ⟨o,cJ,file,tf,flags,tg,yQ,text,tt,Gp e1 (YH e1 (λz=>by rw [z] at c1;exact absurd (show Value.type "list"=Value.type "code" from c1) ⟨⟩) (λz=>by rw [z] at c1;cases c1)),c1,r⟩
   ·obtain ⟨bm,ob,b1,b2,b3,b4,b5⟩:=yN;exact ⟨bm,ob,b1,b2,Gp b3 (YH b3 (λz=>by rw [z] at b4;exact absurd (show Value.type "list"=Value.type "module" from b4) ⟨⟩) (λz=>by rw [z] at b4;cases b4)),b4,b5⟩
  refine codeAny_mono ((F _ vp (ll Ud) hN).run callerA [] s₁ H ⟨[.ref a],[]⟩ [.ref a] [.ref a] _ _ hr e0 (fD s₁ (.ref a)) (.cons rfl .nil) (Ua H oN hS)) λr s' h=>?_;cases r with
  | error e=>exact (yO H e s' h).elim
  | ok fl =>
   cases fl with
   | next=>exact False.elim h
   | brk=>exact False.elim h
   | cont=>exact False.elim h
   | ret u =>
    obtain ⟨v,H',os,bare,un,fE,r',q⟩:=h;have q':v=.bl true:=q;subst q';obtain rfl:u=Value.bool true:=r';have key:∀ b o,s₁.heap.get? b=some o->s'.heap.get? b=some o\/(b∈tabs.map (·.2)/\o=tabObj #[]/\∃ more,s'.heap.get? b=some (tabObj (#[]++more))):=λb o e=>by
     cases q:H b with
     | none=>exact .inl (un.keep b o e q (by intro z;exact absurd (show b∈([]:List Addr) from z) (by simp)) (by simp))
     | some u =>
      rcases hO b with z | ⟨ob,xs,z⟩ | ⟨z,zm⟩
      ·rw [q] at z;cases z
      ·have z2:=un.abe b ob _ z;obtain ⟨e1,_⟩:=hok b _ z;obtain ⟨e2,_⟩:=fE b _ z2;rw [e] at e1;cases e1;exact .inl e2
      ·obtain ⟨more,z2⟩:=un.abf b _ z;have e2:s'.heap.get? b=some _:=fE b _ z2;have e1:=tabOf zm;rw [e] at e1;cases e1;exact .inr ⟨zm,rfl,more,e2⟩
    refine ⟨rfl,⟨λb o e=>?_,λb o e=>?_⟩,os,bare⟩
    ·rcases key b o e with z | ⟨zm,rfl,more,z⟩
     ·exact .inl z
     ·obtain ⟨q,hq,e'⟩:=List.mem_map.mp zm;subst e';exact .inr (.inl ⟨((hT q hq).1.tab (hT q hq).2).isCodeTable,rfl,#[],more,rfl,z⟩)
    ·rcases key b o e with z | ⟨_,_,more,z⟩
     ·exact ⟨_,z⟩
     ·exact ⟨_,z⟩
 have fF:∀ q∈tabs,q.2≠a:=λq hq z=>by
  have:=(hT q hq).2;rw [z,ha] at this;cases this
 cases hk:K.lookup a with
 | some o =>
  have e:=KX a o hk;rw [ha] at e;cases e;refine core (λb=>if b∈tabs.map (·.2) then some (.tbl #[]) else none) (λb=>?_) (λq hq=>if_pos (List.mem_map_of_mem hq)) (.inr ⟨_,vs.toArray,_,hk,rfl,rfl,rfl,by rw [List.size_toArray,oM];exact hl,by simpa using rv⟩) (λb u z=>?_) (λb z=>?_) λz=>?_
  ·by_cases hb:b∈tabs.map (·.2)
   ·exact .inr (.inr ⟨if_pos hb,hb⟩)
   ·exact .inl (if_neg hb)
  ·by_cases hb:b∈tabs.map (·.2)
   ·have z':=(if_pos hb).symm.trans z;cases z';exact tabOf hb
   ·have z':=(if_neg hb).symm.trans z;cases z'
  ·by_cases hb:b∈tabs.map (·.2)
   ·exact .inr hb
   ·exact absurd (if_neg hb) z
  ·by_cases hb:a∈tabs.map (·.2)
   ·obtain ⟨q,hq,e'⟩:=List.mem_map.mp hb;exact absurd e' (fF q hq)
   ·exact absurd (if_neg hb) z
 | none =>
  refine core (λb=>if b=a then some (.frz { cls:=.type "list",data:=.seq vs.toArray } (.lst (ns.map V.int))) else if b∈tabs.map (·.2) then some (.tbl #[]) else none) (λb=>?_) (λq hq=>?_)
   (.inl (.inr ⟨{ cls:=.type "list",data:=.seq vs.toArray },if_pos rfl⟩)) (λb u z=>?_) (λb z=>?_) λ_=>hk
  ·by_cases hb:b=a
   ·exact .inr (.inl ⟨_,_,if_pos hb⟩)
   ·by_cases Ue:b∈tabs.map (·.2)
    ·exact .inr (.inr ⟨(if_neg hb).trans (if_pos Ue),Ue⟩)
    ·exact .inl ((if_neg hb).trans (if_neg Ue))
  ·exact (if_neg (fF q hq)).trans (if_pos (List.mem_map_of_mem hq))
  ·by_cases hb:b=a
   ·have z':=(if_pos hb).symm.trans z;cases z';subst hb;exact ⟨ha,by rw [List.length_map];exact hl,vs,_,rv,ha⟩
   ·by_cases Ue:b∈tabs.map (·.2)
    ·have z':=((if_neg hb).trans (if_pos Ue)).symm.trans z;cases z';exact tabOf Ue
    ·have z':=((if_neg hb).trans (if_neg Ue)).symm.trans z;cases z'
  ·by_cases hb:b=a
   ·exact .inl hb
   ·by_cases Ue:b∈tabs.map (·.2)
    ·exact .inr Ue
    ·exact absurd ((if_neg hb).trans (if_neg Ue)) z
noncomputable def Rp (K:W.Frag)(n:Nat)(ps:List Addr):Sp:=λvs H Q _=>∃ (a:Addr) (ns:List Int),vs=[.ref a]/\AG K H a (ns.map V.int)/\ns.length<=n/\(∀ p∈ps,H p=some (.tbl #[]))/\∀ H',Q (.bl true) H'
end L2
namespace L2
open PySem PySem.Spec PyProof.Rows
structure Fl (n0:Heap)(H:Hp)(a:Addr)(cls:Value)(h:Heap)(z:Option Value):Prop where
 new:n0.get? a=none
 un:H a=none
 ob:∃ oe vs,h.get? a=some oe/\oe.cls=cls/\oe.data=.fields vs/\1 < vs.size/\match z with
  | none=>vs[1]?=some .none
  | some z=>∃ T oT ts,vs[1]?=some (.ref T)/\n0.get? T=none/\H T=none/\T≠a/\h.get? T=some oT/\oT.data=.fields ts/\ts[3]?=some z
open KS
structure SE (X:Cx)(e:Expr)(t:TE):Prop where out:PE X e t
structure ST (X:Cx)(e:Expr)(t:TT):Prop where out:PT X e t
structure SW (X:Cx)(e:Expr)(t:TT):Prop where out:PW X e t
structure SA (X:Cx)(es:List Expr)(t:TA):Prop where out:PA X es t
structure SS (X:Cx)(st:Stmt)(t:TS):Prop where out:PS X st t
structure SB (X:Cx)(st:List Stmt)(t:TS):Prop where out:Nm X st t
structure SG (X:Cx)(tg:Expr)(g:TG):Prop where out:PG X tg g
structure SI (X:Cx)(tg iter:Expr)(wi:TI):Prop where out:PI X tg iter wi
structure SF (X:Cx)(ifs:List Expr)(t:TT):Prop where out:cH X ifs t
structure SO (X:Cx)(e:Option Expr)(t:TO):Prop where out:PO X e t
structure SD (X:Cx)(pos:Pos)(keys:List (Option Expr))(values:List Expr)(Iw:List (TE × TE)):Prop where out:fg X pos keys values Iw
section
variable {env:Env}{es:List Expr}
theorem CH {c k p}:starEach (.Constant c k p::es) env=(false,eval (.Constant c k p) env)::starEach es env:=rfl
theorem CI {a o b p}:starEach (.BinOp a o b p::es) env=(false,eval (.BinOp a o b p) env)::starEach es env:=rfl
theorem CJ {a k p}:starEach (.Tuple a k p::es) env=(false,eval (.Tuple a k p) env)::starEach es env:=rfl
theorem BS {a b c p}:starEach (.Call a b c p::es) env=(false,eval (.Call a b c p) env)::starEach es env:=rfl
theorem BU {a p}:starEach (.Name a p::es) env=(false,eval (.Name a p) env)::starEach es env:=rfl
theorem CK {a b p}:starEach (.Subscript a b p::es) env=(false,eval (.Subscript a b p) env)::starEach es env:=rfl
theorem DN {a b c p}:starEach (.ListComp a b c p::es) env=(false,eval (.ListComp a b c p) env)::starEach es env:=rfl
end
section
variable {X:Cx}
theorem Aa (i:Nat)(hN:X.N[i]?=some x:=by rfl)(hv:X2 X.env.scope x:=by exfalso)(hd:(x==("__debug__":Str))=false:=by decide)(HY:(x==("__classdict__":Str))=false:=by decide):SE X (.Name x pos) (B9 i):=⟨LF hN hv hd HY⟩
theorem A7 {i j pos}:SE X (.Constant (.int i) j pos) (tC (.int i)):=⟨D5⟩
theorem G8 {b j pos}:SE X (.Constant (.bool b) j pos) (tC (.bl b)):=⟨eM⟩
theorem DO {j pos}:SE X (.Constant .none j pos) (tC .non):=⟨Y9⟩
theorem Ab {x j pos}:SE X (.Constant (.str x) j pos) (tC (.str x)):=⟨Ya⟩
theorem Hd (hg:Gl X x)(hm:X.mg x=none)(hv:bootBuiltins x=some u)(r:RelV v u)(hn:x≠"__name__":=by decide)(hd:(x==("__debug__":Str))=false:=by decide):SE X (.Name x pos) (tC v):=⟨Uw hg hm hv r hn hd⟩
variable {a b c e o:Expr}{es:List Expr}{ta tb te to ti tx:TE}{tA Ux:TT}{t:TA}{pos apos B8 p:Pos}{rest:List Expr}
theorem Bj (hr:kZ X r)(ha:SE X a ta)(hb:SE X b tb)(hs:NK b):SE X (.Subscript a b pos) (FQ r ta tb):=⟨Xd hr ha.out hb.out hs⟩
theorem eI (i:Nat){p p2:Pos}{k}(hN:X.N[i]?=some x:=by rfl)(hv:X2 X.env.scope x:=by exfalso)(hd:(x==("__debug__":Str))=false:=by decide)(HY:(x==("__classdict__":Str))=false:=by decide):SE X (.Subscript (.Name x p) (.Constant (.int j) k p2) pos) (FQ (D7 X.K) (B9 i) (tC (.int j))):=Bj BE (Aa i hN hv hd HY) A7 Cm
theorem Ja:SO X none J2:=⟨UR⟩
theorem Jb (h:SE X e te):SO X (some e) (QR te):=⟨US h.out⟩
theorem Gq {lo hi:Option Expr}{tl th:TO}{p2:Pos}{r:V->Option Int->Option Int->Hp->VK->Prop}(hr:kY X r)(he:SE X e te)(hl:SO X lo tl)(hu:SO X hi th):SE X (.Subscript e (.Slice lo hi none p2) pos) (oo r te tl th):=⟨QS hr he.out hl.out hu.out⟩
theorem Em (ho:Ee X (compareOp op) r)(ha:SE X a ta)(hb:SE X b tb)(hm:behindInMarks op b=false):SE X (.Compare a [op] [b] pos) (FQ r ta tb):=⟨UJ ho ha.out hb.out hm⟩
theorem Ao (ho:Ee X (compareOp op) r)(ha:SE X a ta)(hb:SE X b tb)(hm:behindInMarks op b=false):ST X (.Compare a [op] [b] pos) (NA (FQ r ta tb)):=⟨UK ho ha.out hb.out hm⟩
theorem Kl (h:SE X e te)(he:∀ whole,isTrue e X.env whole=(do let v <- whole;standAt e.pos;holding [v] (truthy v)):=by intro _;rfl):ST X e (tB te):=⟨Yc h.out he⟩
theorem Bz (ha:SE X a ta)(he:∀ whole,isTrue a X.env whole=(do let v <- whole;standAt a.pos;holding [v] (truthy v)):=by intro _;rfl):ST X a (fun σ H Q=>ta σ H λx H'=>∃ k,Yy X.K x H' k/\Q k H'):=⟨K5 ha.out he⟩
theorem Km (ha:ST X a tA):ST X (.UnaryOp .Not a pos) (Ye tA):=⟨Yh ha.out⟩
theorem Dk (ha:ST X a tA):SW X (.BoolOp .And [a] pos) tA:=⟨Uy ha.out⟩
theorem FY (ha:ST X a tA):SW X (.BoolOp .Or [a] pos) tA:=⟨Yf ha.out⟩
theorem w_and (ha:ST X a tA)(hb:SW X (.BoolOp .And (b::rest) pos) Ux):SW X (.BoolOp .And (a::b::rest) pos) (Yd tA Ux):=⟨Yg ha.out hb.out⟩
theorem w_or (ha:ST X a tA)(hb:SW X (.BoolOp .Or (b::rest) pos) Ux):SW X (.BoolOp .Or (a::b::rest) pos) (nN tA Ux):=⟨eN ha.out hb.out⟩
theorem Kn (h:SW X e tA):ST X e tA:=⟨PW.pt h.out⟩
theorem Ko {op}(h:SE X a ta):SE X (.BoolOp op [a] pos) ta:=⟨Yi h.out⟩
theorem F1 (ha:SE X a ta)(hb:SE X (.BoolOp .And (b::rest) pos) tb):SE X (.BoolOp .And (a::b::rest) pos) (Qu ta tb):=⟨Yj ha.out hb.out⟩
theorem fG (ha:SE X a ta):SE X (.UnaryOp .Not a pos) (Qv ta):=⟨Yk ha.out⟩
theorem Jc (hc:ST X c tA)(ha:SE X a ta)(hb:SE X b tb):SE X (.IfExp c a b pos) (nO tA ta tb):=⟨Qw hc.out ha.out hb.out⟩
theorem Am (ho:Ee X (binaryOp op) r)(ha:SE X a ta)(hb:SE X b tb):SE X (.BinOp a op b pos) (FQ r ta tb):=⟨Dv ho ha.out hb.out⟩
theorem A2:SA X [] DE:=⟨LQ⟩
theorem A1 (ha:SE X e te)(hr:SA X es t)(hs:starEach (e::es) X.env=(false,eval e X.env)::starEach es X.env:=by exfalso):SA X (e::es) (Be te t):=⟨Gj ha.out hr.out hs⟩
theorem Ah {x1}(h:SA X es t):SE X (.Tuple es x1 pos) (Pc t):=⟨YF h.out⟩
theorem Bi (h:SA X es t):SE X (.List es pos) (YE t):=⟨YG h.out⟩
variable {k:Nat}{f:Addr}{fd:FuncData}{ps:List Str}{sp:Sp}{x:Str}
theorem Mn (F:Aq X.prog X.w X.K X.mg X.base B5 k f fd ps sp)(hr:Ar k X.A)(hg:Gl X x)(hm:X.mg x=some (.ref f))(hk:W.keepIn X.K (.ref f)=true)(hb:Binds X.K fd ps [])(ha:SA X (e::es) t)(Eh:(x==("__debug__":Str))=false:=by decide)(he:starEach (e::es) X.env=(false,eval e X.env)::starEach es X.env:=by exfalso)(Ck:(backTo pos (starEach es X.env)).any (·.1)=false:=by rfl) :
  SE X (.Call (.Name x p) (e::es) [] pos) (EW sp [] E0 t):=⟨NB F hr hg hm hk hb .nil F0 ha.out Eh he Ck⟩
theorem Bs {id:String}{r:List V->Hp->VK->Prop}(hc:CB X (.builtin id) r)(hg:Gl X x)(hm:X.mg x=none)(hv:bootBuiltins x=some (.builtin id))(ha:SA X (e::es) t)(hn:x≠"__name__":=by decide)(Eh:(x==("__debug__":Str))=false:=by decide)
  (he:starEach (e::es) X.env=(false,eval e X.env)::starEach es X.env:=by exfalso) (Ck:(backTo pos (starEach es X.env)).any (·.1)=false:=by rfl):SE X (.Call (.Name x p) (e::es) [] pos) (YI r t):=⟨Ka hc hg hm hv ha.out hn Eh he Ck⟩
theorem Bw (hc:CB X (.type T) r)(hg:Gl X x)(hm:X.mg x=none)(hv:bootBuiltins x=some (.type T))(ha:SA X (e::es) t)(hn:x≠"__name__":=by decide)(Eh:(x==("__debug__":Str))=false:=by decide)(he:starEach (e::es) X.env=(false,eval e X.env)::starEach es X.env:=by exfalso)(Ck:(backTo pos (starEach es X.env)).any (·.1)=false:=by rfl):SE X (.Call (.Name x p) (e::es) [] pos) (YI r t):=⟨Pd hc hg hm hv ha.out hn Eh he Ck⟩
theorem DP {T id:String}{name:Str}{r:V->List V->Hp->VK->Prop}(pa:PlainAttrs T)(slot:Slot T name id)(YO:typeOf (.builtin id)=pure (.type "method_descriptor"))(hm:l8 X id r)(ho:SE X o to)
  (GX:attributeBase o name X.env (eval o X.env)=eval o X.env:=by rfl) (GY:(apos.endLine==B8.line)=true:=by rfl):SE X (.Call (.Attribute o name apos) [] [] B8) (QW X.K T r to):=⟨YN pa slot YO hm ho.out GX GY⟩
theorem Fv {T id:String}{name:Str}{r:V->List V->Hp->VK->Prop}(pa:PlainAttrs T)(slot:Slot T name id)(YO:typeOf (.builtin id)=pure (.type "method_descriptor"))(hm:l8 X id r)(ho:SE X o to)(ha:SA X (e::es) t)
  (GX:attributeBase o name X.env (eval o X.env)=eval o X.env:=by rfl)
  (YQ:((backTo B8 (starEach (e::es) X.env)).all (λx=>!x.1) && (backToKw B8 (keywordEach [] X.env)).all (λx=>x.1.isSome)
   && decide ((e::es).length+([]:List Keyword).length+(if ([]:List Keyword).isEmpty then 0 else 1) < 30))=true:=by rfl)
  (GY:(apos.endLine==B8.line)=true:=by rfl) (hs:starEach (e::es) X.env=(false,eval e X.env)::starEach es X.env:=by exfalso) (LZ:(backTo B8 (starEach es X.env)).any (·.1)=false:=by rfl) :
  SE X (.Call (.Attribute o name apos) (e::es) [] B8) (oq X.K T r to t):=⟨eY pa slot YO hm ho.out ha.out GX YQ GY hs LZ⟩
theorem Jd {f:Expr}(hu:X.A.units+1 < cLine)(ho:SE X o to)(he:SE X e te)(hf:SE X f tx)(m:M2 X o "get" apos e f B8):SE X (.Call (.Attribute o "get" apos) [e,f] [] B8) (Me to te tx):=⟨Ra hu ho.out he.out hf.out m⟩
theorem Je (hu:X.A.units+1 < cLine)(ho:SE X o to)(hi:SE X i ti)(hs:Mb i):SE X (.Subscript o i pos) (NM to ti):=⟨UX hu ho.out hi.out hs⟩
theorem DQ:SE X (.Dict [] [] pos) R5:=⟨R6⟩
theorem FZ:SD X pos [] [] []:=⟨UZ⟩
theorem C6 {k v:Expr}(hk:SE X k tk)(hv:SE X v tv)(hr:SD X pos ks vs Iw):SD X pos (some k::ks) (v::vs) ((tk,tv)::Iw):=⟨R7 hk.out hv.out hr.out⟩
theorem DR (h:SD X pos keys values Iw)(R9:keys.all (·.isSome)=true)(hl:keys.length=values.length)(h0:keys≠[])(ox:keys.length<=15):SE X (.Dict keys values pos) (R8 Iw):=⟨U' h.out R9 hl h0 ox⟩
theorem Ax:SB X [] Np:=⟨Nq⟩
variable {st:Stmt}{vq:List Stmt}{ts tu:TS}
theorem A3 (h1:SS X st ts)(h2:SB X vq tu):SB X (st::vq) (Bh ts tu):=⟨EV h1.out h2.out⟩
theorem Ac (h1:SS X st ts):SB X [st] ts:=⟨Gg h1.out⟩
theorem Bm (he:SE X e te)(hs:swapsWith e none pos.line X.env=pure false:=by rfl):SS X (.Expr e pos) (Nr te):=⟨Uz he.out hs⟩
theorem Ak (he:SE X e te):SS X (.Return (some e) pos) (UA te):=⟨IZ he.out⟩
theorem AS {a b:List Stmt}(hc:ST X c tA)(ha:SB X a ts)(hb:SB X b tu):SS X (.If c a b pos) (Qz tA ts tu):=⟨X5 hc.out ha.out hb.out⟩
theorem Al (hN:X.N.Nodup)(hi:X.N[i]?=some x)(hx:Loc X.env.scope x)(he:SE X e te)(hs:swapsWith e (some (.Name x pos')) pos.line X.env=pure false:=by rfl)(hf:X.fn x=true\/X.env.scope.names.lookup x=some .local:=by exfalso):
  SS X (.Assign [.Name x pos'] e pos) (LG te (BN i)):=⟨LH hN hi hx he.out hs hf⟩
theorem Mp (hu:X.A.units+1 < cLine)(ho:SE X o to)(hi:SE X i ti)(hv:SE X value tv)(hs:swapsWith value (some (.Subscript o i pos')) pos.line X.env=pure false):SS X (.Assign [.Subscript o i pos'] value pos) (R3 to ti tv):=⟨UY hu ho.out hi.out hv.out hs⟩
theorem Gr (hp:PassesOwn (model X.prog X.w) X.A X.env X.xe)(hc:ST X c tA)(hb:SB X body ts):SS X (.While c body [] pos) (QD tA ts):=⟨QE hp hc.out hb.out⟩
variable {tg iter:Expr}{wi:TI}{g:TG}
theorem F' (hp:PassesOwn (model X.prog X.w) X.A X.env X.xe)(hc:X.calm=true)(hi:SI X tg iter wi)(hg:SG X tg g)(hb:SB X body ts)(hs:∀ x,foldedSetIterable iter X.env x=pure x:=by intro _;rfl):SS X (.For tg iter body [] pos) (QG wi g ts):=⟨Yt hp hc hi.out hg.out hb.out hs⟩
theorem DS (hl:SE X e te):SI X tg e (Nu X.K te):=⟨UE hl.out⟩
theorem ID (hl:SE X e te):SI X tg e (Yr X.K te):=⟨Ys hl.out⟩
theorem Rq {ta:TA}(hg:Gl X "range")(hm:X.mg "range"=none)(ha:SA X [a] ta)(hs:starEach [a] X.env=[(false,eval a X.env)]:=by rfl):SI X tg (.Call (.Name "range" p) [a] [] pos) (X8 ta):=⟨OO hg hm ha.out hs⟩
theorem Rr {ta:TA}(hg:Gl X "range")(hm:X.mg "range"=none)(ha:SA X [a,b] ta)(hs:starEach [a,b] X.env=[(false,eval a X.env),(false,eval b X.env)]:=by rfl)(QF:starEach [b] X.env=[(false,eval b X.env)]:=by rfl):SI X tg (.Call (.Name "range" p) [a,b] [] pos) (X9 ta):=⟨OQ hg hm ha.out hs QF⟩
theorem Xj {ta:TA}(hg:Gl X "reversed")(hm:X.mg "reversed"=none)(ha:SA X [a] ta)(hs:starEach [a] X.env=[(false,eval a X.env)]:=by rfl):SI X tg (.Call (.Name "reversed" p) [a] [] pos) (Y' X.K ta):=⟨Z0 hg hm ha.out hs⟩
theorem AQ (hN:X.N.Nodup)(hi:X.N[i]?=some x)(hx:Loc X.env.scope x)(hf:X.fn x=true\/X.env.scope.names.lookup x=some .local:=by exfalso):SG X (.Name x pos) (BN i):=⟨UC hN hi hx hf⟩
theorem En:SF X [] G7:=⟨V5⟩
theorem Rt (h:ST X c tA):SF X [c] tA:=⟨V6 h.out⟩
variable {scope:Scope}{cl:List (Str × Addr)}{own fr:List Str}{js:List Nat}{elt:Expr}{ifs:List Expr}{tt:TT}
theorem ED (S:AY X scope cl own fr js)(El:X.calm=true)(hi:SI X tg iter wi)(hg:∀ C s0 H0 ex,SG (X.cmp scope cl own fr C s0 H0 ex) tg g)(ht:∀ C s0 H0 ex,SF (X.cmp scope cl own fr C s0 H0 ex) ifs tt)(he:∀ C s0 H0 ex,SE (X.cmp scope cl own fr C s0 H0 ex) elt te)(hs:∀ x,foldedSetIterable iter X.env x=pure x:=by intro _;rfl):SE X (.ListComp elt [⟨tg,iter,ifs,0⟩] scope pos) (NO own js wi g tt te):=⟨V8 S El hi.out (λC s0 H0 ex=>(hg C s0 H0 ex).out) (λC s0 H0 ex=>(ht C s0 H0 ex).out) (λC s0 H0 ex=>(he C s0 H0 ex).out) hs⟩
end
section
variable {P:Program}{w:World}{K:W.Frag}{mg:Str->Option Value}{base:Heap}
theorem Cd.okS {x qual:Str}{st:Stmt}{f:Addr}{fd:FuncData}{N ps:List Str}{k:Nat}{sp:Sp}(F:Cd K x qual st f fd)(S:Ai N ps (A5 st))(len:∀ vs H Q E,sp vs H Q E->vs.length=ps.length)
  (GV:∀ (Bf:Value) (A:Around) (outer:List Env) (s:Shared) (H:Hp) (vs:List V) (Q:VK) (E:XK),Ar k (A.deeper (envOfC qual (A5 st) s.heap.objs.size f Bf))->sp vs H Q E ->
   ∃ t,SB (Cr B5 P w K mg base N qual (A5 st) f Bf A outer s H E).nox (AF st) t/\t { nx:=λ_ H'=>Q .non H',rt:=Q } (start N vs) H):Aq P w K mg base B5 (k+1) f fd ps sp :=
 F.ok S len λBf A outer s H vs Q E hr h=>let ⟨t,h1,h2⟩:=GV Bf A outer s H vs Q E hr h;⟨t,h1.out,h2⟩
end
end L2
namespace L2
open PySem PySem.Spec PyProof.Rows
noncomputable def lq (P:Program)(w:World):K7:=λouter H s E e s'=>∃ H' a cls z,e=.ref a/\s'.os=s.os/\AllBare s'.gens/\Un (Lw outer) [] H H' s.heap s'.heap/\De P w H' s'.heap/\Fl s.heap H' a cls s'.heap z/\E cls none H'
section
variable {X:Cx}{k:Nat}{f C:Addr}{fd:FuncData}{ps:List Str}{sp:Sp}{x m:Str}{E:XK}{e o:Expr}{es:List Expr}{t:TA}{ta:TE}{p pos apos:Pos}
theorem lu (he:SE X o ta)(c:Gi X.K C)(hm:Meth X.K C m f)(F:Aq X.prog X.w X.K X.mg X.base (lq X.prog X.w) k f fd ps sp)(hx:Passes (lq X.prog X.w) X E)(hr:Ar k X.A)(hb:Binds X.K fd ps [])(ha:SA X (e::es) t)(FP:starEach (e::es) X.env=(false,eval e X.env)::starEach es X.env:=by exfalso)(Ck:(backTo pos (starEach es X.env)).any (·.1)=false:=by rfl)(ht:eval (.Call (.Attribute o m apos) (e::es) [] pos) X.env=(do
   let ov <- eval o X.env
   standAt apos.atName
   let (f,first) <- holding [ov] (getMethod ov m pl)
   callWith pos f first (backTo pos (starEach (e::es) X.env)) (backToKw pos (keywordEach [] X.env))):=by rfl) :
  SE X (.Call (.Attribute o m apos) (e::es) [] pos) (EX C m sp [] E ta t):=⟨ND he.out c hm F hr hb .nil hx ha.out FP Ck ht⟩
theorem Z3 (he:SE X o ta)(c:Gi X.K C)(hm:Meth X.K C m f)(F:Aq X.prog X.w X.K X.mg X.base B5 k f fd ps sp)(hr:Ar k X.A)(hb:Binds X.K fd ps [])(ha:SA X (e::es) t)(FP:starEach (e::es) X.env=(false,eval e X.env)::starEach es X.env:=by exfalso)(Ck:(backTo pos (starEach es X.env)).any (·.1)=false:=by rfl)(ht:eval (.Call (.Attribute o m apos) (e::es) [] pos) X.env=(do
   let ov <- eval o X.env
   standAt apos.atName
   let (f,first) <- holding [ov] (getMethod ov m pl)
   callWith pos f first (backTo pos (starEach (e::es) X.env)) (backToKw pos (keywordEach [] X.env))):=by rfl) :
  SE X (.Call (.Attribute o m apos) (e::es) [] pos) (EX C m sp [] E0 ta t):=⟨ND he.out c hm F hr hb .nil F0 ha.out FP Ck ht⟩
end
open PySem.W (excIn)
theorem Inv.aaw (I:Inv X pins σ H s)(hn:H a=none)(h0:X.s₀.heap.get? a=none)(hL:a≠X.env.locals)(hc:∀ x c,X.env.cells.lookup x=some c->c≠a)(hp:∀ p∈X.pn++pins,p.1≠a)(new:AJ X.prog X.w (upd H a o) s.heap a o):Inv X pins σ (upd H a o) s:=by
 refine ⟨I.ok,I.os,I.bare,?_,I.loc,I.cell,by rw [A8 (Ne.symm hL)];exact I.free,λx c e=>by rw [A8 (hc x c e)];exact I.aaj x c e,λp q=>?_,I.hok.aaw hn new,I.len⟩
 ·have u:=I.base;exact ⟨u.keep,u.slot,λb ob q n hx=>by
   have hb:b≠a:=λz=>(by rw [z,h0] at q;cases q);rw [A8 hb];exact u.free b ob q n hx,u.there,λb xs q=>by
   have z:=u.abi b xs q;rw [A8 (Af z hn)];exact z,λb ob xs q=>by
   have z:=u.abe b ob xs q;rw [A8 (Af z hn)];exact z,λb ps q=>by
   obtain ⟨more,z⟩:=u.abf b ps q;exact ⟨more,by rw [A8 (Af z hn)];exact z⟩⟩
 ·obtain ⟨e,n,r⟩:=I.pin p q;exact ⟨e,by rw [A8 (hp p q)];exact n,r⟩
end L2
namespace PySem
section
variable {M:Model}{A:Around}{E:Value->Shared->Prop}{nm q:Str}{C N:Addr}{bs bm:List Value}{oO:Bool}{sn:List Str}{sub:List Value}{ab:Bool}{col:Option Bool}{dd:Option Addr}{k0 k1 k2 k3 k5:Option Value}{newId:String}
 {nm2 q2:Str} {C2 N2:Addr} {bs2 bm2:List Value} {vt:Bool} {sn2:List Str} {yR:List Value} {ab2:Bool} {yS:Option Bool} {om:Option Addr} {j0 j1 j2 j3 j5:Option Value} {oP:String}
end
open PySem.W (Looks looks_findIn findIn Frag)
section
variable {prog:Program}{w:World}{A:Around}{E:Value->Shared->Prop}{h:Heap}{g:Array GenState}{d:Drawn}{t:Nat}{os:OsState}{a:Addr}{o:Obj}{K:Frag}
 {nm q:Str} {C N:Addr} {bs bm bmB:List Value} {oO:Bool} {sn:List Str} {sub:List Value} {ab:Bool} {col:Option Bool} {dd:Option Addr} {k0 k1 k2 k3 k5:Option Value} {newId:String}
end
end PySem
namespace KS
open PySem L2 KM
theorem Vm (t:Kd):decide (V.str (word t)=V.str "any")=DL t:=by
 rw [Bool.eq_iff_iff,decide_eq_true_iff,V.str.injEq];exact Rh
theorem A9.put (s:A9 H H')(h:H a=none):A9 H (upd H' a o):=λb u e=>by
 rw [A8 (Af e h)];exact s b u e
theorem A9.new (h:H a=none):A9 H (upd H a o):=A9.put (A9.refl H) h
theorem Paired.app:∀ {a b:List α} {c d:List β},Paired F a c->Paired F b d->Paired F (a++b) (c++d):=by
 intro a b c d p q
 induction p with
 | nil=>exact q
 | cons h _ ih=>exact .cons h ih
theorem Paired.split:∀ {a b:List α} {c:List β},Paired F (a++b) c->∃ c1 c2,c=c1++c2/\Paired F a c1/\Paired F b c2:=by
 intro a b
 induction a with
 | nil=>exact λ{c} q=>⟨[],c,rfl,.nil,q⟩
 | cons x a ih =>
  intro c q;cases q with
  | cons h t =>
   obtain ⟨c1,c2,rfl,p1,p2⟩:=ih t;exact ⟨_::c1,c2,rfl,.cons h p1,p2⟩
theorem Paired.at {α β:Type}{F:α->β->Prop}:∀ {a:List α} {c:List β} {i:Nat} {y:β},Paired F a c->c[i]?=some y->∃ x,a[i]?=some x/\F x y
 | _,_,_,_,.nil,e=>by simp at e
 | _,_,0,_,.cons h _,e=>by simp at e;subst e;exact ⟨_,rfl,h⟩
 | _,_,i+1,y,.cons _ t,e=>by
  obtain ⟨x,h1,h2⟩:=Paired.at (i:=i) t (by simpa using e);exact ⟨x,by simpa using h1,h2⟩
theorem F2:16777216=sizeLine:=sizeLine_eq.symm
noncomputable def He:Stmt:=.Pass ⟨0,0,0,0⟩
noncomputable def inDef (s:Stmt)(j:Nat):Stmt:=(AF s).getD j He
noncomputable def fH (s:Stmt)(j:Nat):Stmt:=match s with
 | .For _ _ b _ _=>b.getD j He
 | _=>He
noncomputable def valueOf (s:Stmt):Expr:=match s with
 | .Assign _ v _=>v
 | .Return (some v) _=>v
 | .Expr v _=>v
 | _=>.Constant .none 0 ⟨0,0,0,0⟩
noncomputable def Bt (e:Expr):Scope:=match e with
 | .ListComp _ _ sc _=>sc
 | _=>{ kind:=.function,names:=[],isGenerator:=false,isCoroutine:=false }
theorem rev_last (y:V)(c:List V):(y::c).reverse[(y::c).reverse.length - 1]?=some y:=by simp
theorem Ru {σ:St}{H:Hp}{A B:Hp->Prop}(h:A H):G7 σ H (λb H1=>if b=true then A H1 else B H1):=by
 unfold G7;exact C5 h
noncomputable def CY (H:Hp)(kvs:List (Key × V))(m:Int->Option Kd):Prop:=∀ k:Int,(AN kvs (Sum.inl k:Key)=none/\m k=none)\/∃ v t,AN kvs (Sum.inl k:Key)=some v/\m k=some t/\B7 H t v
theorem CY.mono (s:Ae H H')(h:CY H kvs m):CY H' kvs m:=λk=>by
 rcases h k with z | ⟨v,t,h1,h2,h3⟩
 ·exact .inl z
 ·exact .inr ⟨v,t,h1,h2,B7.mono s h3⟩
noncomputable def BV (Pt:Addr)(H H':Hp):Prop:=∀ b o,H b=some o->b≠Pt->H' b=some o
theorem BV.of (s:A9 H H'):BV Pt H H':=λb o e _=>s b o e
theorem BV.trans (a:BV Pt H H1)(b:BV Pt H1 H2):BV Pt H H2:=λc o e n=>b c o (a c o e n) n
theorem Rv (h0:0<=i)(h1:i < xs.length):∃ v,Lx xs i=some v/\v∈xs:=by
 obtain ⟨j,rfl⟩:=Int.eq_ofNat_of_zero_le h0;have hj:j < xs.length:=by omega
 exact ⟨xs[j],Aj (List.getElem?_eq_getElem hj),List.getElem_mem hj⟩
noncomputable def Py:Sp:=λ_ _ _ _=>False
section
variable {Pr:Program}{w:World}{K:W.Frag}{mg:Str->Option Value}{base:Heap}
theorem Kp:Aq Pr w K mg base B5 k f fd ps Py:=⟨λ_ _ _ _ h=>h.elim,λ_ _ _ _ _ _ _ _ _ _ _ _ _ h=>h.elim⟩
end
theorem Vn (h:s∈parts t):dp s < dp t:=by
 cases t with
 | fn a b | pr a b =>
  cases h with
  | head=>simp only [dp];omega
  | tail _ h =>
   cases h with
   | head=>simp only [dp];omega
   | tail _ h=>cases h
 | ls a =>
  cases h with
  | head=>simp only [dp];omega
  | tail _ h=>cases h
 | _=>cases h
theorem AR {c A B:Prop}[Decidable c](hc:c)(h:A):if c then A else B:=by
 rw [if_pos hc];exact h
theorem Az {c A B:Prop}[Decidable c](hc:¬ c)(h:B):if c then A else B:=by
 rw [if_neg hc];exact h
section
variable {X:Cx}
theorem Dl:CB X (.type "dict") (λxs H Q=>∃ a kvs,xs=[.ref a]/\Rd H a (.dK kvs)/\∀ p,H p=none->Q (.ref p) (upd H p (.dK kvs))):=by
 intro pins s σ H xs us Q I r h;obtain ⟨a,kvs,rfl,e,q⟩:=h;obtain ⟨u,rfl,ru⟩:=vals1 r;obtain rfl:u=Value.ref a:=ru;exact Rc I e λp s' hp I'=>⟨.ref p,_,I',rfl,q p hp⟩
end
theorem Rw [DecidableEq κ](kvs:List (κ × V))(k:κ)(v:V):(putK kvs k v).length<=kvs.length+1:=by
 unfold putK;split
 ·rw [List.length_map];omega
 ·simp
theorem CY.put (h:CY H kvs m)(hv:B7 H t v):CY H (putK kvs (Sum.inl k:Key) v) (λj=>if j=k then some t else m j):=λj=>by
 rw [EZ];by_cases e:j=k
 ·subst e;rw [if_pos rfl];exact .inr ⟨v,t,rfl,if_pos rfl,hv⟩
 ·rw [if_neg (λz=>e (Sum.inl.inj z))];show (_/\(if j=k then some t else m j)=none)\/∃ v' t',_/\(if j=k then some t else m j)=some t'/\_
  rw [if_neg e];exact h j
theorem CY.nil:CY H [] (λ_=>none):=λ_=>.inl ⟨rfl,rfl⟩
theorem BV.sub (s:BV Pt H H')(h:H Pt=some (.tbl ps)):Ae H H':=λb xs e=>s b _ e (λz=>by rw [z,h] at e;cases e)
end KS
namespace KM
noncomputable def prs:Kd->Kd->Option (List (Int × Kd))
 | .gap k,b=>some [(k,b)]
 | .num,.num=>some []
 | .tru,.tru=>some []
 | .ls a,.ls b=>prs a b
 | .fn a a',.fn b b'=>(prs a b).bind λx=>(prs a' b').map λy=>x++y
 | .pr a a',.pr b b'=>(prs a b).bind λx=>(prs a' b').map λy=>x++y
 | _,_=>none
noncomputable def Hf (l:List (Int × Kd))(k:Int):Option Kd:=l.foldl (λm p=>if p.1=k then some p.2 else m) none
noncomputable def wd (a b:Kd):Bool:=match prs a b with
 | none=>false
 | some l=>l.all λp=>decide (Hf l p.1=some p.2)
theorem Rx {α:Type}{x y:Option (List α)}{u v:List α}(h1:x=some u)(h2:y=some v):(x.bind λu=>y.map λv=>u++v)=some (u++v):=by
 rw [h1,h2];rfl
theorem BO {m:Int->Option Kd}:∀ (a:Kd),∃ l,prs a (fill m a)=some l/\∀ p∈l,p.2=(m p.1).getD (.gap p.1)
 | .gap k=>⟨_,rfl,λp hp=>by rw [List.mem_singleton.mp hp];rfl⟩
 | .num=>⟨[],rfl,λp hp=>by cases hp⟩
 | .tru=>⟨[],rfl,λp hp=>by cases hp⟩
 | .ls a=>BO a
 | .fn a b=>by
  obtain ⟨x,h1,h2⟩:=BO (m:=m) a;obtain ⟨y,h3,h4⟩:=BO (m:=m) b;refine ⟨x++y,Rx h1 h3,λp hp=>?_⟩;rcases List.mem_append.mp hp with hp | hp
  ·exact h2 p hp
  ·exact h4 p hp
 | .pr a b=>by
  obtain ⟨x,h1,h2⟩:=BO (m:=m) a;obtain ⟨y,h3,h4⟩:=BO (m:=m) b;refine ⟨x++y,Rx h1 h3,λp hp=>?_⟩;rcases List.mem_append.mp hp with hp | hp
  ·exact h2 p hp
  ·exact h4 p hp
theorem Hg {α:Type}{x y:Option (List α)}{l:List α}(h:(x.bind λu=>y.map λv=>u++v)=some l):∃ u v,x=some u/\y=some v/\l=u++v:=by
 cases x with
 | none=>cases h
 | some u =>
  cases y with
  | none=>cases h
  | some v=>exact ⟨u,v,rfl,rfl,(Option.some.inj h).symm⟩
inductive Lz:Kd->Kd->List (Int × Kd)->Prop
 | gap (k:Int) (b:Kd):Lz (.gap k) b [(k,b)]
 | num:Lz .num .num []
 | tru:Lz .tru .tru []
 | ls {a b:Kd} {l:List (Int × Kd)}:Lz a b l->Lz (.ls a) (.ls b) l
 | fn {a a' b b':Kd} {u v:List (Int × Kd)}:Lz a b u->Lz a' b' v->Lz (.fn a a') (.fn b b') (u++v)
 | pr {a a' b b':Kd} {u v:List (Int × Kd)}:Lz a b u->Lz a' b' v->Lz (.pr a a') (.pr b b') (u++v)
theorem Lz.of:∀ {b:Kd} {l:List (Int × Kd)},prs a b=some l->Lz a b l:=by
 induction a with
 | gap k=>intro b l h;cases h;exact .gap k b
 | num=>intro b l h;cases b <;> cases h;exact .num
 | tru=>intro b l h;cases b <;> cases h;exact .tru
 | ls a ih =>
  intro b l h;cases b with
  | ls b=>exact .ls (ih h)
  | _=>cases h
 | fn a a' ih Pz =>
  intro b l h;cases b with
  | fn b b' =>
   obtain ⟨u,v,h1,h2,rfl⟩:=Hg h;exact .fn (ih h1) (Pz h2)
  | _=>cases h
 | pr a a' ih Pz =>
  intro b l h;cases b with
  | pr b b' =>
   obtain ⟨u,v,h1,h2,rfl⟩:=Hg h;exact .pr (ih h1) (Pz h2)
  | _=>cases h
theorem Kq (a b:Kd)(l:List (Int × Kd))(h:prs a b=some l)(hm:∀ p∈l,(m p.1).getD (.gap p.1)=p.2):fill m a=b:=by
 replace h:=Lz.of h
 induction h with
 | gap k b=>exact hm (k,b) (List.mem_singleton.mpr rfl)
 | num | tru=>rfl
 | ls _ ih=>exact congrArg Kd.ls (ih hm)
 | fn _ _ ih Pz=>show Kd.fn _ _=_;exact congr (congrArg Kd.fn (ih λp hp=>hm p (List.mem_append_left _ hp))) (Pz λp hp=>hm p (List.mem_append_right _ hp))
 | pr _ _ ih Pz=>show Kd.pr _ _=_;exact congr (congrArg Kd.pr (ih λp hp=>hm p (List.mem_append_left _ hp))) (Pz λp hp=>hm p (List.mem_append_right _ hp))
theorem Kr (k:Int):∀ (l:List (Int × Kd)) (m:Option Kd),l.foldl (λm p=>if p.1=k then some p.2 else m) m=m/\(∀ p∈l,p.1≠k)\/∃ p∈l,p.1=k/\l.foldl (λm p=>if p.1=k then some p.2 else m) m=some p.2
 | [],m=>.inl ⟨rfl,λp hp=>by cases hp⟩
 | q::l,m=>by
  rw [List.foldl_cons];rcases Kr k l (if q.1=k then some q.2 else m) with ⟨h1,h2⟩ | ⟨p,hp,h1,h2⟩
  ·by_cases e:q.1=k
   ·refine .inr ⟨q,List.mem_cons_self,e,?_⟩;rw [h1,if_pos e]
   ·refine .inl ⟨by rw [h1,if_neg e],λp hp=>?_⟩;rcases List.mem_cons.mp hp with rfl | hp
    ·exact e
    ·exact h2 p hp
  ·exact .inr ⟨p,List.mem_cons_of_mem _ hp,h1,h2⟩
theorem IE (h:p∈l):∃ q∈l,q.1=p.1/\Hf l p.1=some q.2:=by
 rcases Kr p.1 l none with ⟨_,h2⟩ | ⟨q,hq,h1,h2⟩
 ·exact absurd rfl (h2 p h)
 ·exact ⟨q,hq,h1,h2⟩
theorem Z4 (a b:Kd):wd a b=true↔∃ m:Int->Option Kd,fill m a=b:=by
 unfold wd
 constructor
 ·intro h;cases e:prs a b with
  | none=>rw [e] at h;cases h
  | some l =>
   rw [e] at h;refine ⟨Hf l,Kq a b l e λp hp=>?_⟩;have:=of_decide_eq_true (List.all_eq_true.mp h p hp);rw [this];rfl
 ·rintro ⟨m,rfl⟩;obtain ⟨l,e,hl⟩:=BO (m:=m) a;rw [e];refine List.all_eq_true.mpr λp hp=>decide_eq_true ?_;obtain ⟨q,hq,h1,h2⟩:=IE hp;rw [h2,hl q hq,hl p hp,h1]
theorem Jf (a b:Kd)(l:List (Int × Kd))(h:prs a b=some l):l.length<=sz a:=by
 replace h:=Lz.of h
 induction h with
 | gap k b=>exact Nat.le_refl _
 | num | tru=>exact Nat.zero_le _
 | ls _ ih=>exact Nat.le_succ_of_le ih
 | fn _ _ ih Pz | pr _ _ ih Pz=>rw [List.length_append];exact Nat.le_succ_of_le (Nat.add_le_add ih Pz)
theorem Ry (a b:Kd)(l:List (Int × Kd))(h:prs a b=some l):∀ p∈l,dp p.2<=dp b:=by
 replace h:=Lz.of h
 induction h with
 | gap k b=>intro p hp;rw [List.mem_singleton.mp hp];exact Nat.le_refl _
 | num | tru=>intro p hp;cases hp
 | ls _ ih=>exact λp hp=>Nat.le_succ_of_le (ih p hp)
 | fn _ _ ih Pz | pr _ _ ih Pz =>
  intro p hp;rcases List.mem_append.mp hp with hp | hp
  ·have:=ih p hp;simp only [dp];omega
  ·have:=Pz p hp;simp only [dp];omega
end KM
namespace PySem
namespace F
theorem aaq:entryFor table "list.__getattribute__"=some Builtin.«object.__getattribute__» :=
 entryFor_alias (id':="object.__getattribute__") (by kernel_rfl) (by decide +kernel) (by decide +kernel) (by kernel_rfl)
theorem aai:typeLookup (.type "list") "__getattr__"=pure none:=by rw [typeLookup_type,builtinLookup_eq_fast];kernel_rfl
theorem aa4:typeLookup (.type "list") "keys"=pure none:=by rw [typeLookup_type,builtinLookup_eq_fast];kernel_rfl
theorem aal:entryFor table "dict.update.loop"=some Builtin.«dict.update.loop»:=entryFor_of_tree (by kernel_rfl)
theorem aad:plainId "dict.update.loop"=true:=by decide +kernel
end F
theorem Vo (a:Addr)(items:Array Value)(n:Nat)(sl:Array (Option Value))(u:Tok)(hsz:("keys":Str).length+100<=sizeLine:=by size_fits):
  Meets (Builtin.«object.__getattribute__» ⟨[.ref a,.str "keys" u],[]⟩) (λA R s=>s.heap.get? a=some ⟨.type "list",none,.seq items n,sl⟩/\raisesAttr (.ref a) "keys" A R s) :=
 Meets.of_wp λprog w A R s hs=>by
  obtain ⟨hp,g,d,tk,os⟩:=s;obtain ⟨hl,hs⟩:=hs;have hT:(⟨hp,g,d,tk,os⟩:Shared).TypeIs (.ref a) "list":=⟨_,hl,rfl⟩;have f1:=F.aa4;unfold Builtin.«object.__getattribute__»
  repeat (any_goals (first | assumption | wp_step))
  exact wpAny_raiseAttrError hs.1 hs.2 (attrMsg_fits (by decide +kernel) hsz)
section
variable {prog:Program}{w:World}{A:Around}{E:Value->Shared->Prop}{s:Shared}
theorem PD (hA:A.handled=none)(hl:s.heap.get? a=some ⟨.type "list",none,.seq items n,sl⟩)(h:∀ h' tk,(∀ b o,s.heap.get? b=some o->h'.get? b=some o)->Q none { s with heap:=h',toks:=tk }):wpAny (model prog w) A (getAttr? (.ref a) "keys") Q E s:=by
 obtain ⟨hp,g,d,tk,os⟩:=s;have hT:(⟨hp,g,d,tk,os⟩:Shared).TypeIs (.ref a) "list":=⟨_,hl,rfl⟩;have f1:=sub_AttributeError;have f3:=F.slot_list_getattribute.lookup;have f4:=F.slot_list_getattribute.bind (.ref a);have f5:=F.aai;unfold getAttr? getAttrBy? getAttrBy
 repeat (any_goals (first | assumption | ((with_reducible show wpAny _ _ (call (Value.builtin "list.__getattribute__") _ _) _ _ _);refine call_meets F.slot_list_getattribute ⟨_,hl,rfl⟩ F.aaq (F.args_list_getattribute_2 _ _) (Vo a items n sl _) ⟨hl,hA,λh' vv e hx=>?_⟩) | wp_step))
 obtain ⟨t',u',he⟩:=hx.there;show wpAny _ _ (getattributeRaised _ _ _ _ _ _ _) _ _ _;unfold getattributeRaised
 repeat (any_goals (first | assumption | wp_step))
 all_goals exact h _ _ hx.keeps
noncomputable def Mq {K:Type}[DecidableEq K](key:Nat->K)(vu:Nat->Value):Nat->List (K × Value)
 | 0=>[]
 | i+1=>stored (Mq key vu i) (key i) (vu i)
theorem Ks {K:Type}[DecidableEq K](key:Nat->K)(vu:Nat->Value):∀ i,(Mq key vu i).length<=i
 | 0=>Nat.le_refl _
 | i+1=>by
  have ih:=Ks key vu i;show (stored _ _ _).length<=_;unfold stored;split
  ·rw [List.length_map];omega
  ·rw [List.length_append,List.length_singleton];omega
theorem Vp {K:Type}[DecidableEq K]{knd:KeyKind prog w K}{R:Result->Shared->Prop}{I:Addr}{fp wr:List Addr}{G:Array GenState->Array GenState->Prop}{n:Nat}{P:Nat->Value->Prop}{St:Nat->Shared->Prop}
  (W:WalksS prog w A.in1 I fp wr G n P St) (D:Addr) (vz:D∉fp) (ps:Nat->Addr) (key:Nat->K) (ku vu:Nat->Value) (hP:∀ i v,P i v->v=.ref (ps i)) (hk:∀ i,i < n->knd.is (key i) (ku i)=true)
  (hD:∀ i,i < n->ps i≠D) (hw:∀ i,i < n->ps i∉wr) (hz:n<=sizeLine) :
  ∀ (k i:Nat) (s:Shared) (z:Int) (tz:Tok),n - i=k->i<=n->St i s->(∀ j,j < n->PyProof.Rows.IsTup s.heap (ps j) #[ku j,vu j])->s.heap.DictOf knd D (Mq key vu i) ->
   (∀ s',Moved (D::wr) G s s'->s'.heap.DictOf knd D (Mq key vu n)->R (.ok (.ret .none)) s') ->
   codeAny (model prog w) A (.builtin "dict.update.loop" ⟨[.ref D,.ref I,.int z tz,.none],[]⟩) R s:=by
 have yT:D∉wr:=λh=>vz (W.sub _ h);have Vh:∀ b∈wr,b∈D::wr:=λb hb=>List.mem_cons_of_mem _ hb;have vA:∀ {s s':Shared} {kvs:List (K × Value)},Moved wr G s s'->s.heap.DictOf knd D kvs->s'.heap.DictOf knd D kvs:=λ{s s' kvs} hm hd=>by
  obtain ⟨o,es,ep,ho,r⟩:=hd;exact ⟨o,es,ep,hm.heap D _ yT ho,r⟩
 intro k
 induction k with
 | zero =>
  intro i s z tz yU hi FP hT hS hR;obtain rfl:i=n:=by omega
  refine codeAny_builtin F.aal ?_;rw [Around.under_plainId F.aad _];show wpAny _ A.in1 (pyNext (.ref I) >>= _) _ _ s;refine wpAny_bind (W.done s _ _ FP λs' hm=>?_);show wpAny _ A.in1 (Builtin.Dict.addKeywords D [] >>= λ_=>ret Value.none) _ _ s';exact wpAny_bind (wpAny_pure (wpAny_pure (hR s' (hm.mono Vh) (vA hm hS))))
 | succ k ih =>
  intro i s z tz yU hi FP hT hS hR;have CT:i < n:=by omega
  refine codeAny_builtin F.aal ?_;rw [Around.under_plainId F.aad _];show wpAny _ A.in1 (pyNext (.ref I) >>= _) _ _ s;refine wpAny_bind (W.item i s _ _ CT FP λv s' hv oQ hm=>?_);obtain rfl:=hP i v hv;have Vq:=vA hm hS;have vB:∀ j,j < n->PyProof.Rows.IsTup s'.heap (ps j) #[ku j,vu j]:=λj hj=>by
   obtain ⟨o,ho,r⟩:=hT j hj;exact ⟨o,hm.heap _ _ (hw j hj) ho,r⟩
  show wpAny _ A.in1 (holding [Value.ref (ps i)] _ >>= λ_=>again _) _ _ s';refine wpAny_bind (wpAny_holding (wpAny_bind (wpAny_tryCatch ?_)));obtain ⟨o,ho,hc,m,hd⟩:=vB i CT;unfold Builtin.Dict.pairItems;refine wpAny_bind (wpAny_typeOf (T:="tuple") ⟨o,ho,hc⟩ ?_);rw [if_pos ⟨⟩];refine wpAny_bind (wpAny_seqItems ho hd (wpAny_pure ?_));show wpAny _ A.in1 (holding [ku i,vu i] (dictSet D (ku i) (vu i))) _ _ s';refine wpAny_holding (wpAny_dictSet_pairs (hk i CT) Vq (λh' IW Z5=>?_) (Nat.le_trans (Ks key vu i) ()));refine wpAny_pure ⟨plainId_quiet F.aad _,ih (i+1) _ _ _ () CT (W.frame _ s' _ _ oQ (Nat.le_succ _) λb hb o e=>?_) (λj hj=>?_) IW λQo oR oS=>?_⟩
  ·exact (Z5.2 b (λq:b=D=>vz (by rw [<- q];exact hb))).trans e
  ·obtain ⟨o,ho,r⟩:=vB j hj;exact ⟨o,(Z5.2 _ (hD j hj)).trans ho,r⟩
  ·refine hR Qo (Moved.trans W.gtrans ((hm.mono Vh).then_heap (Nat.le_succ _) λb o hb e=>?_) oR) oS;exact (Z5.2 b (λq:b=D=>hb (by rw [q];exact List.mem_cons_self))).trans e
theorem Vr {K:Type}[DecidableEq K]{knd:KeyKind prog w K}{l:Addr}{items:Array Value}{n0:Nat}{sl:Array (Option Value)}{Q:Value->Shared->Prop}(hh:A.handled=none)(hl:s.heap.get? l=some ⟨.type "list",none,.seq items n0,sl⟩)
  (ps:Nat->Addr) (key:Nat->K) (ku vu:Nat->Value) (hP:∀ (i:Nat) (v:Value),items[i]?=some v->v=Value.ref (ps i)) (hk:∀ i,i < items.size->knd.is (key i) (ku i)=true) (hT:∀ j,j < items.size->PyProof.Rows.IsTup s.heap (ps j) #[ku j,vu j]) (hz:items.size<=sizeLine)
  (h:∀ h' tk,h'.DictOf knd s.heap.objs.size (Mq key vu items.size)->(∀ b o,s.heap.get? b=some o->h'.get? b=some o)->Q (.ref s.heap.objs.size) { s with heap:=h',toks:=tk }) :
  wpAny (model prog w) A (call (.type "dict") [.ref l]) Q E s:=by
 refine callType_codes (Q₁:=λobj s₁=>obj=.ref s.heap.objs.size/\s₁={ s with heap:=s.heap.push { cls:=.type "dict",data:=.dict #[] } }) F.kt_called_dict (F.kt_typeCall_dict_1 _) F.entry_dict_init (kt_code_dict_new _ ⟨rfl,rfl⟩) ?_;rintro obj s₁ ⟨rfl,rfl⟩;have Z6:(s.heap.push { cls:=.type "dict",data:=.dict #[] }).DictOf knd s.heap.objs.size []:=Heap.DictOf.new s.heap;have Fw:(s.heap.push { cls:=.type "dict",data:=.dict #[] }).get? l=some ⟨.type "list",none,.seq items n0,sl⟩:=Heap.get?_push_of_some _ hl;refine ⟨Z6.typeIs,F.args_dict_init_2 _ _,?_⟩;unfold Builtin.«dict.__init__»;refine wpAny_bind ?_;unfold Builtin.Dict.selfAndRest;refine wpAny_bind (wpAny_notOrdered_dict Z6.typeIs ?_);show wpAny _ _ (pure (s.heap.objs.size,[Value.ref l])) _ _ _;refine wpAny_pure ?_;show wpAny _ _ (Builtin.Dict.updateFrom "dict.__init__" s.heap.objs.size (.ref l) [] .none) _ _ _;unfold Builtin.Dict.updateFrom;refine wpAny_bind (wpAny_typeOf (T:="list") ⟨_,Fw,rfl⟩ ?_);rw [if_pos ⟨⟩];refine wpAny_bind (PD hh Fw λh2 yV k2=>?_);rw [if_pos ⟨⟩];refine wpAny_bind (wpAny_rule ?_);have Ej:h2.IsList l items:=⟨_,k2 _ _ Fw,rfl,n0,rfl⟩;refine wpAny_bind (wpAny_pyIter_list (s:={ s with heap:=h2,toks:=yV }) Ej ?_);have big:s.heap.objs.size < h2.objs.size:=Heap.lt_size (k2 s.heap.objs.size _ (Heap.get?_push_size _ rfl));have CT:l < s.heap.objs.size:=Heap.lt_size hl;have Ck:∀ j,j < items.size->ps j < s.heap.objs.size:=λj hj=>let ⟨o,ho,_⟩:=hT j hj;Heap.lt_size ho;have W0:=(Walks.list (prog:=prog) (w:=w) (A:=A.in1.in1) (show A.in1.in1.handled=none from hh) h2.objs.size l (Nat.ne_of_lt (Nat.lt_trans CT big)) items).toS;refine wpAny_pure ⟨plainId_quiet F.aad _,Vp (knd:=knd) W0 s.heap.objs.size ?_ ps key ku vu hP hk (λj hj=>Nat.ne_of_lt (Ck j hj)) (λj hj=>?_) hz
  items.size 0 _ _ _ rfl (Nat.zero_le _) ⟨⟨_,Heap.get?_push_size _ rfl,rfl,rfl⟩,Ej.push _⟩ (λj hj=>?_) ?_ λs' hm hd=>?_⟩
 ·simp only [List.mem_cons,List.not_mem_nil,or_false,not_or];exact ⟨Nat.ne_of_lt big,Nat.ne_of_gt CT⟩
 ·simp only [List.mem_cons,List.not_mem_nil,or_false];exact Nat.ne_of_lt (Nat.lt_trans (Ck j hj) big)
 ·obtain ⟨o,ho,r⟩:=hT j hj;exact ⟨o,Heap.get?_push_of_some _ (k2 _ _ (Heap.get?_push_of_some _ ho)),r⟩
 ·obtain ⟨o,es,ep,ho,r⟩:=Z6;exact ⟨o,es,ep,Heap.get?_push_of_some _ (k2 _ _ ho),r⟩
 ·obtain ⟨h',g',d',vv,oj⟩:=s';have eg:g'=s.gens:=hm.gens;have ed:d'=s.drawn:=hm.drawn;have eo:oj=s.os:=hm.os;subst eg ed eo;refine ⟨rfl,h h' vv hd λb o e=>?_⟩;have hb:=Heap.lt_size e;refine hm.heap b o ?_ (Heap.get?_push_of_some _ (k2 _ _ (Heap.get?_push_of_some _ e)));simp only [List.mem_cons,List.not_mem_nil,or_false,not_or];exact ⟨Nat.ne_of_lt hb,Nat.ne_of_lt (Nat.lt_trans hb big)⟩
end
end PySem
namespace KS
open PySem PySem.Spec PyProof.Rows L2 KM
noncomputable def putAll (prs:List (Addr × Key × V)):List (Key × V):=prs.foldl (λm p=>putK m p.2.1 p.2.2) []
theorem putAll_snoc (a:List (Addr × Key × V))(p:Addr × Key × V):putAll (a++[p])=putK (putAll a) p.2.1 p.2.2:=by
 unfold putAll;rw [List.foldl_append];rfl
theorem Mr (prs:List (Addr × Key × V)):(putAll prs).length<=prs.length:=by
 have:∀ (prs:List (Addr × Key × V)) (m:List (Key × V)),(prs.foldl (λm p=>putK m p.2.1 p.2.2) m).length<=m.length+prs.length:=by
  intro prs
  induction prs with
  | nil=>intro m;simp
  | cons p r ih =>
   intro m;have h1:=ih (putK m p.2.1 p.2.2);have h2:=Rw m p.2.1 p.2.2;simp only [List.foldl_cons,List.length_cons];omega
 have:=this prs [];simpa [putAll] using this
theorem Xk {prs:List (Addr × Key × V)}{vu:Nat->Value}(hv:∀ (j:Nat) p,prs[j]?=some p->RelV p.2.2 (vu j)){key:Nat->Key}(hk:∀ (j:Nat) p,prs[j]?=some p->p.2.1=key j):
  ∀ i,i<=prs.length->KV (putAll (prs.take i)) (Mq key vu i)
 | 0,_=>.nil
 | i+1,h=>by
  have ih:=Xk hv hk i ();have e:prs[i]?=some (prs[i]'()):=List.getElem?_eq_getElem ();rw [List.take_add_one,e];show KV (putAll (prs.take i++[prs[i]])) (stored (Mq key vu i) (key i) (vu i));rw [putAll_snoc,<- hk i _ e];exact ih.put _ (hv i _ e)
section
variable {X:Cx}
theorem I0 (hc:X.calm=true):CB X (.type "dict") (λxs H Q=>∃ (l:Addr) (prs:List (Addr × Key × V)),xs=[.ref l]/\H l=some (.lst (prs.map λp=>V.ref p.1))/\(∀ p∈prs,H p.1=some (.tup [kV p.2.1,p.2.2]))/\∀ d,H d=none->Q (.ref d) (upd H d (.dK (putAll prs)))):=by
 intro pins s σ H xs us Q I r h;obtain ⟨l,prs,rfl,hl,hp,q⟩:=h;obtain ⟨u,rfl,ru⟩:=vals1 r;obtain rfl:u=Value.ref l:=ru;obtain ⟨hz,its,n0,rv,e⟩:=(show AJ X.prog X.w H s.heap l (.lst (prs.map λp=>V.ref p.1)) from I.hok l _ hl);rw [List.length_map] at hz;have hlen:=rv.length;rw [List.length_map] at hlen;have hT:∀ j,j < prs.length->∃ ku vu,∀ p,prs[j]?=some p->IsTup s.heap p.1 #[ku,vu]/\RelV (kV p.2.1) ku/\RelV p.2.2 vu:=λj hj=>by
  have e1:prs[j]?=some (prs[j]'hj):=List.getElem?_eq_getElem hj;obtain ⟨_,J3,r2,o,h1,h2,m,h3⟩:=(show AJ X.prog X.w H s.heap (prs[j]'hj).1 (.tup [kV (prs[j]'hj).2.1,(prs[j]'hj).2.2]) from I.hok _ _ (hp _ (List.getElem_mem hj)));obtain ⟨ku,vu,rfl,rk,yW⟩:=vals2 r2;refine ⟨ku,vu,λp ep=>?_⟩;rw [e1] at ep;cases ep;exact ⟨⟨o,h1,h2,m,h3⟩,rk,yW⟩
 let ku:Nat->Value:=λj=>if h:j < prs.length then Classical.choose (hT j h) else .none
 let vu:Nat->Value:=λj=>if h:j < prs.length then Classical.choose (Classical.choose_spec (hT j h)) else .none
 have oU:∀ (j:Nat) p,prs[j]?=some p->IsTup s.heap p.1 #[ku j,vu j]/\RelV (kV p.2.1) (ku j)/\RelV p.2.2 (vu j):=λj p ep=>by
  have hj:j < prs.length:=(List.getElem?_eq_some_iff.mp ep).1;have z:=Classical.choose_spec (Classical.choose_spec (hT j hj)) p ep;have e1:ku j=Classical.choose (hT j hj):=dif_pos hj;have e2:vu j=Classical.choose (Classical.choose_spec (hT j hj)):=dif_pos hj;rw [e1,e2];exact z
 let ps:Nat->Addr:=λj=>(prs[j]?.map (·.1)).getD 0
 let key:Nat->Key:=λj=>(prs[j]?.map (·.2.1)).getD (Sum.inl 0)
 have NR:∀ (j:Nat) p,prs[j]?=some p->ps j=p.1:=λj p ep=>by
  show (prs[j]?.map (·.1)).getD 0=_;rw [ep];rfl
 have UL:∀ (j:Nat) p,prs[j]?=some p->key j=p.2.1:=λj p ep=>by
  show (prs[j]?.map (·.2.1)).getD _=_;rw [ep];rfl
 have yX:its.toArray.size=prs.length:=by rw [List.size_toArray,hlen]
 refine Vr (knd:=Ap X.prog X.w) (I.ok.hd hc) e ps key ku vu (λi v hv=>?_) (λi hi=>?_) (λi hi=>?_) () λh' tk hd hk=>?_
 ·have LM:its[i]?=some v:=by simpa using hv
  have hi:i < its.length:=(List.getElem?_eq_some_iff.mp LM).1;have e1:prs[i]?=some (prs[i]'()):=List.getElem?_eq_getElem ();have e2:(prs.map λp=>V.ref p.1)[i]?=some (V.ref (prs[i]'()).1):=by rw [List.getElem?_map,e1];rfl
  obtain ⟨u,hu,ru⟩:=rv.get e2;rw [LM] at hu;cases hu;rw [NR i _ e1];exact ru
 ·have Xl:i < prs.length:=by omega
  have e1:prs[i]?=some (prs[i]'Xl):=List.getElem?_eq_getElem Xl;rw [UL i _ e1];exact CV (oU i _ e1).2.1
 ·have Xl:i < prs.length:=by omega
  have e1:prs[i]?=some (prs[i]'Xl):=List.getElem?_eq_getElem Xl;rw [NR i _ e1];exact (oU i _ e1).1
 ·rw [yX] at hd;have kv:=Xk (prs:=prs) (vu:=vu) (λj p ep=>(oU j p ep).2.2) (key:=key) (λj p ep=>(UL j p ep).symm) prs.length (Nat.le_refl _);rw [List.take_length] at kv;have hn:H s.heap.objs.size=none:=I.hok.fresh (Nat.le_refl _);exact ⟨.ref _,_,I.laid (a:=s.heap.objs.size) (o:=.dK (putAll prs)) (t':=tk) hk (Nat.le_refl _) (Ey (Nat.le_trans (Mr prs) hz) (beq_eq_false_iff_ne.mpr (Ne.symm (Nat.ne_of_lt I.big))) kv hd),rfl,q _ hn⟩
end
end KS
namespace L2
open PySem PySem.Spec PyProof.Rows
section
variable {g:TG}{tt:TT}{te:TE}{σ:St}{Fin:List V->Hp->Prop}
theorem PF {K:W.Frag}{a:Addr}{xs:List V}{H:Hp}(Pv:Nat->List V->Hp->Prop)(h0:Pv 0 [] H)(hl:∀ i ys H,Pv i ys H->AG K H a xs)(hn:xs.length < sizeLine)
  (hy:∀ i ys H,Pv i ys H->ys.length<=i)
  (hs:∀ i x ys H,xs[i]?=some x->Pv i ys H->g x σ H fun σ2 H2=>Ext σ σ2/\tt σ2 H2 λb H3=>if b=true then te σ2 H3 λy H4=>Pv (i+1) (ys++[y]) H4 else Pv (i+1) ys H3)
  (mg:∀ x σ H Q Q',(∀ σ' H',Q σ' H'->Q' σ' H')->g x σ H Q->g x σ H Q') (mt:∀ σ H Q Q',(∀ b H',Q b H'->Q' b H')->tt σ H Q->tt σ H Q') (me:∀ σ H Q Q',(∀ v H',Q v H'->Q' v H')->te σ H Q->te σ H Q')
  (hd:∀ ys H,Pv xs.length ys H->Fin ys H):Dw (X6 K a) H σ g tt te Fin:=by
 refine ⟨λi m ys H=>m=xs.length - i/\i<=xs.length/\Pv i ys H,⟨xs.length,by simp,Nat.zero_le _,h0⟩,?_⟩;rintro i m ys H ⟨rfl,hi,p⟩;have q:=hl i ys H p;have yY:=hy i ys H p;refine ⟨(),?_⟩;by_cases CT:i < xs.length
 ·refine .inr ⟨⟨xs,xs[i],q,by simp [CT]⟩,(),λx H' y=>?_⟩;obtain ⟨e,y⟩:=y;subst e;refine mg _ _ _ _ _ (fun σ2 H2 z=>⟨z.1,mt _ _ _ _ (λb H3 z=>?_) z.2⟩) (hs i x ys _ (y xs q) p);cases b with
  | true=>exact me _ _ _ _ (λy H4 z=>⟨xs.length - (i+1),(),rfl,CT,z⟩) z
  | false=>exact ⟨xs.length - (i+1),(),rfl,CT,z⟩
 ·have e:i=xs.length:=by omega
  subst e;exact .inl ⟨⟨xs,q,Nat.le_refl _⟩,hd ys H p⟩
end
section
variable {X:Cx}
noncomputable def oV:R2:=λx y H Q=>∃ d d',Ly H d x/\Ly H d' y/\SeqAt.shaped d=true/\SeqAt.shaped d'=true/\Q (.bl (PyData.eqv d d')) H
theorem PH (hu:X.A.units+64 < cLine):Ee X (compareOp .Eq) oV:=by
 intro pins s σ H x y v u Q I rx ry h;obtain ⟨t,t',k1,k2,d1,d2,q⟩:=h;obtain ⟨as,ra⟩:=Ly.reads I.hok k1 rx;obtain ⟨bs,rb⟩:=Ly.reads I.hok k2 ry;exact eq_dataH ra rb d1 d2 hu (Aw I q rfl)
end
structure lx (X:Cx)(tg:List Expr)(g:U8):Prop where out:eO X tg g
section
variable {X:Cx}{a b e:Expr}{es:List Expr}{ta tb:TE}{p1 p2 pos Rz Ia:Pos}
theorem RC (hu:X.A.units+1 < cLine)(ha:SE X a ta)(hb:SE X b tb)(hm:behindInMarks .NotIn b=false:=by rfl):ST X (.Compare a [.NotIn] [b] pos) (tB (J8 ta tb)):=⟨Qt (Pg hu ha.out hb.out) hm⟩
theorem fI (hu:X.A.units+1 < cLine)(ha:SE X a ta)(hb:SE X b tb)(hm:behindInMarks .In b=false:=by rfl):ST X (.Compare a [.In] [b] pos) (tB (R1 ta tb)):=⟨Qt (R4 hu ha.out hb.out) hm⟩
theorem EF:lx X [] OL:=⟨UD⟩
theorem Bu (h1:SG X e t)(h2:lx X es u)(hs:(assignEach (e::es) X.env).map (·.2)=assign e X.env::(assignEach es X.env).map (·.2):=by rfl):lx X (e::es) (Eg t u):=⟨QC h1.out h2.out hs⟩
theorem Hh (hc:X.calm=true)(h:lx X es t)(hn:(assignEach es X.env).length=n:=by rfl)(FP:(assignEach es X.env).findIdx? (·.1)=none:=by rfl):SG X (.Tuple es k pos) (OM X.K n t):=⟨Ym hc h.out hn FP⟩
theorem Fx (hN:X.N.Nodup)(hy:X.N[i]?=some y)(hx:Loc X.env.scope y)(S:AY X scope cl own fr js)(El:X.calm=true)(hi:SI X tg iter wi)(hg:∀ C s0 H0 ex,SG (X.cmp scope cl own fr C s0 H0 ex) tg g)(ht:∀ C s0 H0 ex,SF (X.cmp scope cl own fr C s0 H0 ex) ifs tt)(he:∀ C s0 H0 ex,SE (X.cmp scope cl own fr C s0 H0 ex) elt te)(oF:swapsWith (.ListComp elt [⟨tg,iter,ifs,0⟩] scope pos) (some (.Name y py)) Rf.line X.env=pure true:=by rfl)(hf:X.fn y=true\/X.env.scope.names.lookup y=some .local:=by exfalso)(hs:∀ x,foldedSetIterable iter X.env x=pure x:=by intro _;rfl):SS X (.Assign [.Name y py] (.ListComp elt [⟨tg,iter,ifs,0⟩] scope pos) Rf) (Mm i own js wi g tt te) :=
 ⟨V9 hN hy hx S El hi.out (λC s0 H0 ex=>(hg C s0 H0 ex).out) (λC s0 H0 ex=>(ht C s0 H0 ex).out) (λC s0 H0 ex=>(he C s0 H0 ex).out) oF hf hs⟩
end
section
variable {X:Cx}{pins:List (Addr × Obj)}{σ:St}{H:Hp}{s:Shared}{d:Addr}{o:Obj}{kvs:List (Key × V)}
theorem Kt (x:De P w H h)(hd:H d=some u)(hm:∀ xs,u≠.tup xs)(ho:∀ y,u≠.own y)(IW:AJ P w (upd H d u') h d u'):De P w (upd H d u') h:=λb v e=>by
 by_cases hb:b=d
 ·subst hb;rw [A6] at e;cases e;exact IW
 ·rw [A8 hb] at e;refine (x b v e).abq (λ_ _ _ q=>q) (λc q=>?_) λc xs q=>?_
  ·rw [A8 (λz=>by rw [z,hd] at q;exact ho _ (Option.some.inj q))];exact q
  ·rw [A8 (λz=>by rw [z,hd] at q;exact hm _ (Option.some.inj q))];exact q
theorem Inv.freeze (I:Inv X pins σ H s)(hd:H d=some (.dK kvs))(ho:s.heap.get? d=some o):Inv X pins σ (upd H d (.frz o (.dK kvs))) s:=by
 have ne:∀ b u,H b=some u->(u≠.dK kvs)->b≠d:=λb u q n z=>by rw [z,hd] at q;exact n (Option.some.inj q).symm
 have:=I.un (t':=s.toks) (H':=upd H d (.frz o (.dK kvs))) (h':=s.heap) ⟨λb v e _ _ _=>e,λb v e _ _ _=>⟨v.slots,e⟩,λb v e n _=>?_,λb v e _=>⟨v,e⟩,λb xs q=>?_,λb v u q=>?_,λb ps q=>⟨#[],?_⟩⟩ (Kt I.hok hd (λ_ z=>by cases z) (λ_ z=>by cases z) ⟨ho,?_⟩)
 ·exact this
 ·rw [A8 (λz=>by rw [z,hd] at n;cases n)];exact n
 ·rw [A8 (ne b _ q (λz=>by cases z))];exact q
 ·rw [A8 (ne b _ q (λz=>by cases z))];exact q
 ·rw [A8 (ne b _ q (λz=>by cases z)),q];simp
 ·exact I.hok d _ hd
theorem Inv.aco (I:Inv X pins σ H s)(hd:H d=some (.frz o (.dK kvs)))(h0:∀ o' u,X.H₀ d≠some (.frz o' u)):Inv X pins σ (upd H d (.dK kvs)) s:=by
 have ne:∀ b u,H b=some u->(u≠.frz o (.dK kvs))->b≠d:=λb u q n z=>by rw [z,hd] at q;exact n (Option.some.inj q).symm
 have nn:∀ b,H b=none->b≠d:=λb n z=>by rw [z,hd] at n;cases n
 obtain ⟨ok,os,bare,base,loc,cell,free,aaj,pin,hok,len⟩:=I;refine ⟨ok,os,bare,⟨base.keep,base.slot,λb v e n hx=>?_,base.there,λb xs q=>?_,λb v u q=>?_,λb ps q=>?_⟩,loc,cell,?_,λx c e=>?_,λp hp=>?_,Kt hok hd (λ_ z=>by cases z) (λ_ z=>by cases z) (hok d _ hd).2,len⟩
 ·have:=base.free b v e n hx;rw [A8 (nn b this)];exact this
 ·have:=base.abi b xs q;rw [A8 (ne b _ this (λz=>by cases z))];exact this
 ·have:=base.abe b v u q;rw [A8 (λz=>h0 v u (by rw [<- z];exact q))];exact this
 ·obtain ⟨more,this⟩:=base.abf b ps q;exact ⟨more,by rw [A8 (ne b _ this (λz=>by cases z))];exact this⟩
 ·rw [A8 (nn _ free)];exact free
 ·rw [A8 (nn _ (aaj x c e))];exact aaj x c e
 ·obtain ⟨e,n,r⟩:=pin p hp;exact ⟨e,by rw [A8 (nn _ n)];exact n,r⟩
theorem Inv.dictAt (I:Inv X pins σ H s)(hd:H d=some (.frz o (.dK kvs)))(he:o.data=.dict es ep):∃ vs,KV kvs vs/\s.heap.DictAt (Ap X.prog X.w) d vs ep:=by
 obtain ⟨h1,_,_,vs,r,o',kN,kO,e1,e2,e3,e4⟩:=I.hok d _ hd;rw [h1] at e1;cases e1;rw [he] at e3;cases e3;exact ⟨vs,r,o,es,h1,e2,he,e4⟩
end
theorem RD (h:(Ap P w).is k v=true):RelV (kV k) v:=by
 rcases B4 (show GH k v=true from h) with ⟨i,t,rfl,rfl⟩ | ⟨x,t,rfl,rfl⟩
 ·exact ⟨t,rfl⟩
 ·exact ⟨t,rfl⟩
theorem KV.at {kvs:List (Key × V)}{vs:List (Key × Value)}(r:KV kvs vs){i:Nat}{p:Key × V}(h:kvs[i]?=some p):∃ v,vs[i]?=some (p.1,v)/\RelV p.2 v:=by
 induction r generalizing i with
 | nil=>simp at h
 | cons h1 h2 ih =>
  cases i with
  | zero =>
   simp at h;subst h;rename_i b _ _;obtain ⟨b1,b2⟩:=b;obtain ⟨e,q⟩:=h1;exact ⟨b2,by simp at e ⊢;exact e.symm,q⟩
  | succ i =>
   simp at h;obtain ⟨v,e,q⟩:=ih h;exact ⟨v,by simpa using e,q⟩
section
variable {X:Cx}
theorem any_bools:∀ (bs:List Bool),((List.range bs.length).any λi=>bs.getD i true)=bs.any id:=by
 intro bs;rw [Bool.eq_iff_iff];simp only [List.any_eq_true,List.mem_range,id]
 constructor
 ·rintro ⟨i,hi,h⟩;refine ⟨bs[i],List.getElem_mem hi,?_⟩;simpa [List.getD,List.getElem?_eq_getElem hi] using h
 ·rintro ⟨b,hb,h⟩;obtain ⟨i,hi,e⟩:=List.mem_iff_getElem.mp hb;exact ⟨i,hi,by simpa [List.getD,List.getElem?_eq_getElem hi,e] using h⟩
theorem PJ (hc:X.calm=true):CB X (.builtin "any") (λxs H Q=>∃ (l:Addr) (bs:List Bool),xs=[.ref l]/\H l=some (.lst (bs.map V.bl))/\Q (.bl (bs.any id)) H):=by
 intro pins s σ H xs us Q I r h;obtain ⟨l,bs,rfl,hl,q⟩:=h;obtain ⟨u,rfl,ru⟩:=vals1 r;obtain rfl:u=Value.ref l:=ru;obtain ⟨hz,its,n,rv,e⟩:=(show AJ X.prog X.w H s.heap l (.lst (bs.map V.bl)) from I.hok l _ hl);have hlen:=rv.length;rw [List.length_map] at hlen;have hL:s.heap.IsList l its.toArray:=⟨_,e,rfl,n,rfl⟩;have CT:l < s.heap.objs.size:=Heap.lt_size e;have hh:X.A.in1.handled=none:=I.ok.hd hc;refine call_any_walk (wpAny_pyIter_list hL ?_);refine ⟨s.heap.objs.size,_,_,its.toArray.size,_,_,λi=>bs.getD i true,rfl,Walks.list hh s.heap.objs.size l (Nat.ne_of_lt CT) its.toArray,⟨⟨_,Heap.get?_push_size _ rfl,rfl,rfl⟩,⟨_,Heap.get?_push_of_some _ e,rfl,n,rfl⟩⟩,?_,λh' tk hk=>?_⟩
 ·intro i v s' Q' E' hv hq;have LM:its[i]?=some v:=by simpa using hv
  have hi:i < its.length:=(List.getElem?_eq_some_iff.mp LM).1;have hb:(bs.map V.bl)[i]?=some (V.bl (bs[i]'())):=by rw [List.getElem?_map,List.getElem?_eq_getElem ()];rfl
  obtain ⟨u,hu,ru⟩:=rv.get hb;rw [LM] at hu;cases hu;obtain rfl:v=Value.bool (bs[i]'()):=ru;refine wpAny_truthy_bool ?_;have e1:bs.getD i true=bs[i]'():=by simp [List.getD,List.getElem?_eq_getElem (show i < bs.length by omega)]
  rw [<- e1];exact hq
 ·have I1:Inv X pins σ H { s with heap:=h',toks:=tk }:=I.kept λb o z=>hk b o (λy=>absurd (List.mem_singleton.mp y) (Nat.ne_of_lt (Heap.lt_size z))) (Heap.get?_push_of_some _ z);refine Aw I1 q ?_;rw [List.size_toArray,<- hlen];exact (any_bools bs).symm
variable {a b o i value e:Expr}{ta tb td ty tv:TE}{pos pos':Pos}{f:Str}
theorem fJ (hu:X.A.units+1 < cLine)(hi:SE X i ty)(ho:SE X o td)(h1:behindInMarks .In o=false:=by exfalso):SE X (.Compare i [.In] [o] pos) (R1 ty td):=⟨Yb (R4 hu hi.out ho.out) h1⟩
theorem Cf (he:SE X e ta)(hb:attributeBase e f X.env (eval e X.env)=eval e X.env:=by rfl):SE X (.Attribute e f pos) (UO X.K ta f):=⟨YB he.out hb⟩
theorem IF (ha:SE X o ta)(hv:SE X value tv)(hs:swapsWith value (some (.Attribute o f pos')) pos.line X.env=pure false:=by rfl):SS X (.Assign [.Attribute o f pos'] value pos) (UP X.K ta tv f):=⟨YC ha.out hv.out hs⟩
end
noncomputable def Z7 (H₀:Hp)(Q:Hp->Prop)(H:Hp):Prop:=Q H\/∃ d o kvs,H d=some (.frz o (.dK kvs))/\(∀ o' u,H₀ d≠some (.frz o' u))/\Q (upd H d (.dK kvs))
section
variable {X:Cx}{e:Expr}{te:TE}{st:Stmt}{ts:TS}
theorem Z8 (h:SS X st ts):SS X st (λD σ H=>ts { D with nx:=fun σ' H'=>Z7 X.H₀ (D.nx σ') H' } σ H):=⟨λpins s σ H D I hw=>AK (h.out pins s σ H _ I hw) λf s1 q=>by
 cases f with
 | next =>
  obtain ⟨σ1,H1,I1,q⟩:=q;rcases q with q | ⟨d,o,kvs,hd,h0,q⟩
  ·exact ⟨σ1,H1,I1,q⟩
  ·exact ⟨σ1,_,I1.aco hd h0,q⟩
 | brk=>exact q
 | cont=>exact q
 | ret u=>exact q⟩
end
theorem RE {kvs:List (Key × V)}{k:Key}{v u:V}(h:AN kvs k=some u):(putK kvs k v).map (·.1)=kvs.map (·.1):=by
 unfold putK;rw [CC,h];rw [if_pos (show (some u).isSome=true from rfl),List.map_map];refine List.map_congr_left λp _=>?_;show (if p.1=k then (p.1,v) else p).1=p.1
 by_cases e:p.1=k
 ·rw [if_pos e]
 ·rw [if_neg e]
theorem Ku (kvs:List (Key × V))(k:Key)(v:V):(putK kvs k v).length<=kvs.length+1/\kvs.length<=(putK kvs k v).length:=by
 cases e:AN kvs k with
 | none=>rw [R0 _ e,List.length_append];simp
 | some u =>
  have:=congrArg List.length (RE (v:=v) e);simp at this;omega
section
variable {X:Cx}{pos:Pos}{tg e o i:Expr}{te to ti:TE}{g:TG}{t:QA}
theorem fK (he:SE X e te)(hg:SG X tg g)(hs:swapsWithSole [tg] e pos.line X.env=pure false:=by rfl)(hw:swappedStores [tg] e X.env=pure none:=by rfl)(h1:(assignEach [tg] X.env).map (·.2)=[assign tg X.env]:=by rfl):SS X (.Assign [tg] e pos) (LG te g):=⟨Yp he.out hg.out hs hw h1⟩
theorem fL (ho:SE X o to)(hi:SE X i ti)(hs:Yl X t)(ha:∀ v,assign (.Subscript o i pos) X.env v=(do
   let ov <- holding [v] (eval o X.env)
   let iv <- holding [v,ov] (eval i X.env)
   standAt pos
   holding [v,ov,iv] (setItem ov iv v)
   release [v,ov,iv] []):=by intro _;rfl):SG X (.Subscript o i pos) (Yn to ti t):=⟨Yo ho.out hi.out hs ha⟩
theorem Ms:SS X (.Continue pos) Qx:=⟨JY⟩
end
theorem Vs (h:j < n):Qp n (j:Int)=some j:=by
 have:=Aj (xs:=List.range n) (j:=j) (v:=j) (by simp [h]);unfold Lx at this;rw [List.length_range] at this;cases e:Qp n (j:Int) with
 | none=>rw [e] at this;cases this
 | some i =>
  rw [e] at this;have this:(List.range n)[i]?=some j:=this;obtain ⟨h1,h2⟩:=List.getElem?_eq_some_iff.mp this;rw [List.getElem_range] at h2;rw [h2]
end L2
namespace PySem
noncomputable def F3 (tu:Bool)(h:Heap)(i l:Addr)(k:Nat):Prop:=if tu=true then h.IsTupleIter i l k else h.IsListIter i l k
noncomputable def F4 (tu:Bool)(h:Heap)(l:Addr)(xs:Array Value):Prop:=if tu=true then h.IsTuple l xs else h.IsList l xs
section
variable {tu:Bool}{h h':Heap}{i l c:Addr}{k:Nat}{xs:Array Value}
theorem F3.at (x:F3 tu h i l k)(e:∀ o,h.get? i=some o->h'.get? i=some o):F3 tu h' i l k:=by
 cases tu with
 | false=>exact Heap.IsListIter.at (h:=h) x e
 | true=>exact Heap.IsTupleIter.at (h:=h) x e
theorem F4.at (x:F4 tu h l xs)(e:∀ o,h.get? l=some o->h'.get? l=some o):F4 tu h' l xs:=by
 cases tu with
 | false=>exact Heap.IsList.at (h:=h) x e
 | true =>
  have x:h.IsTuple l xs:=x;obtain ⟨o,ho,r⟩:=x;exact (show h'.IsTuple l xs from ⟨o,e o ho,r⟩)
theorem F3.extBut (x:F3 tu h i l k)(hs:Heap.ExtBut c h h')(n:i≠c):F3 tu h' i l k:=x.at λo e=>hs i o n e
theorem F4.extBut (x:F4 tu h l xs)(hs:Heap.ExtBut c h h')(n:l≠c):F4 tu h' l xs:=x.at λo e=>hs l o n e
theorem F3.ex (x:F3 tu h i l k):∃ o,h.get? i=some o:=by
 cases tu with
 | false =>
  have x:h.IsListIter i l k:=x;obtain ⟨o,e,_⟩:=x;exact ⟨o,e⟩
 | true =>
  have x:h.IsTupleIter i l k:=x;obtain ⟨o,e,_⟩:=x;exact ⟨o,e⟩
theorem F4.ex (x:F4 tu h l xs):∃ o,h.get? l=some o:=by
 cases tu with
 | false =>
  have x:h.IsList l xs:=x;obtain ⟨o,e,_⟩:=x;exact ⟨o,e⟩
 | true =>
  have x:h.IsTuple l xs:=x;obtain ⟨o,e,_⟩:=x;exact ⟨o,e⟩
end
section
variable {prog:Program}{w:World}{A:Around}{E:Value->Shared->Prop}{s:Shared}{tu:Bool}{it l:Addr}{i:Nat}{xs:Array Value}
theorem NS (hit:F3 tu s.heap it l i)(hl:F4 tu s.heap l xs)(hx:xs[i]?=some x)(hQ:∀ h',F3 tu h' it l (i+1)->Heap.SameBut it s.heap h'->Q x { s with heap:=h' }):wpAny (model prog w) A (Builtin.SmallTypes.nextOf (.ref it)) Q E s:=by
 cases tu with
 | false=>exact wpAny_nextOf_list_item hit hl hx hQ
 | true =>
  have hit:s.heap.IsTupleIter it l i:=hit;have hl:s.heap.IsTuple l xs:=hl;have ty:=hit.typeIs;obtain ⟨o,ho,hc,hd⟩:=hit;obtain ⟨ol,oW,_,nl,oX⟩:=hl;unfold Builtin.SmallTypes.nextOf;refine wpAny_bind (wpAny_callSpecial?_slot (name:=Str.ofString "__next__") ty F.slot_tuple_iterator_next (wpAny_call_entry F.slot_tuple_iterator_next ty F.entry_tuple_iterator_next ?_ (F.args_tuple_iterator_next_1 _)));show wpAny (model prog w) _ (field (Value.ref it) 0 >>= _) _ _ _;refine wpAny_bind (wpAny_field ho hd (x:=.ref l) rfl ?_);show wpAny (model prog w) _ (if (Value.ref l==.none)=true then _ else _) _ _ _
  rw [if_neg (show ¬ (Value.ref l==.none)=true from Bool.false_ne_true)];show wpAny (model prog w) _ (field (Value.ref it) 1 >>= _) _ _ _;refine wpAny_bind (wpAny_field ho hd (x:=.int i 0) rfl ?_);show wpAny (model prog w) _ (seqItems? (Value.ref l) >>= _) _ _ _;refine wpAny_bind (wpAny_seqItems oW oX ?_);simp only [Int.toNat_natCast,hx];refine wpAny_bind (wpAny_setField ho hd (by simp) (wpAny_pure ⟨x,rfl,wpAny_pure (hQ _ (show Heap.IsTupleIter _ it l (i+1) from ?_) (Heap.SameBut.update ..))⟩));refine ⟨_,Heap.get?_update_self _ ho (Obj.isFreed_of_fields (Obj.data_mapFields hd _)),(Obj.cls_mapFields ..).trans hc,?_⟩;rw [Obj.data_mapFields hd];simp [rawInt]
theorem Z9 (hh:A.handled=none)(hit:F3 tu s.heap it l i)(hl:F4 tu s.heap l xs)(hx:xs[i]?=none)(hE:∀ h' e,Heap.ExtBut it s.heap h'->(∃ o,h'.get? e=some o/\o.cls=.type "StopIteration")->E (.ref e) { s with heap:=h' }):wpAny (model prog w) A (Builtin.SmallTypes.nextOf (.ref it)) Q E s:=by
 cases tu with
 | false=>exact wpAny_nextOf_list_end hh hit hl hx hE
 | true =>
  have hit:s.heap.IsTupleIter it l i:=hit;have hl:s.heap.IsTuple l xs:=hl;have ty:=hit.typeIs;obtain ⟨o,ho,hc,hd⟩:=hit;obtain ⟨ol,oW,_,nl,oX⟩:=hl;unfold Builtin.SmallTypes.nextOf;refine wpAny_bind (wpAny_callSpecial?_slot (name:=Str.ofString "__next__") ty F.slot_tuple_iterator_next (wpAny_call_entry F.slot_tuple_iterator_next ty F.entry_tuple_iterator_next ?_ (F.args_tuple_iterator_next_1 _)));show wpAny (model prog w) _ (field (Value.ref it) 0 >>= _) _ _ _;refine wpAny_bind (wpAny_field ho hd (x:=.ref l) rfl ?_);show wpAny (model prog w) _ (if (Value.ref l==.none)=true then _ else _) _ _ _
  rw [if_neg (show ¬ (Value.ref l==.none)=true from Bool.false_ne_true)];show wpAny (model prog w) _ (field (Value.ref it) 1 >>= _) _ _ _;refine wpAny_bind (wpAny_field ho hd (x:=.int i 0) rfl ?_);show wpAny (model prog w) _ (seqItems? (Value.ref l) >>= _) _ _ _;refine wpAny_bind (wpAny_seqItems oW oX ?_);simp only [Int.toNat_natCast,hx];refine wpAny_bind (wpAny_rule (wpAny_bind (wpAny_setField ho hd (by simp) ?_)));show wpAny (model prog w) _ (newExc (.type "StopIteration") [] >>= _) _ _ _;refine wpAny_bind ?_;simp only [newExc,newTuple];refine wpAny_bind (wpAny_newObj_type ?_ (by size_fits));refine wpAny_bind (m:=firstArgMember _ _) (wpAny_of_eq (a:=Value.none) (by first | rfl | (simp only [firstArgMember];rfl)) ?_)
  refine wpAny_newObj_type ?_ (by size_fits);simp only [raiseNew];refine wpAny_bind (wpAny_handled ?_)
  first | rw [show A.in1.handled=none from hh] | rw [hh]
  refine wpAny_bind (wpAny_pure (wpAny_throw ?_));exact hE _ _ (((Heap.SameBut.update ..).extBut.push _).push _) ⟨_,Heap.get?_push_size _ rfl,rfl⟩
end
section
variable {prog:Program}{w:World}{A:Around}{E:Value->Shared->Prop}{s:Shared}
theorem Za (hh:A.handled=none)(D:ZipApart z TI TO i1 i2 l1 l2)(hz:IsZip s.heap z TI TO .none)(Zb:IsPair s.heap TI (.ref i1) (.ref i2))(cK:IsPair s.heap TO a b)(h1:F3 tu s.heap i1 l1 k1)(Fw:F4 tu s.heap l1 xs)(hx:xs[k1]?=none)(hE:∀ h' e,(∀ c o,c≠z->c≠TO->c≠i1->c≠i2->s.heap.get? c=some o->h'.get? c=some o)->(∃ o,h'.get? e=some o/\o.cls=.type "StopIteration")->E (.ref e) { s with heap:=h' }) :
  wpAny (model prog w) A (Builtin.«zip.__next__» ⟨[.ref z],[]⟩) Q E s:=by
 show wpAny (model prog w) _ (field (Value.ref z) 2 >>= _) _ _ _;refine wpAny_bind (wpAny_field hz rfl (x:=.bool false) rfl ?_);show wpAny (model prog w) _ (field (Value.ref z) 3 >>= _) _ _ _;refine wpAny_bind (wpAny_field hz rfl (x:=.ref TI) rfl ?_);refine wpAny_bind (wpAny_seqItems Zb rfl ?_);show wpAny (model prog w) _ (Builtin.SmallTypes.ownedTupleIsFree (Value.ref z) >>= _) _ _ _;refine wpAny_bind ?_;unfold Builtin.SmallTypes.ownedTupleIsFree;refine wpAny_bind (wpAny_field hz rfl (x:=.none) rfl (wpAny_pure ?_));simp only [if_true];refine wpAny_bind (wpAny_rule ?_);refine wpAny_bind (wpAny_field hz rfl (x:=.ref TO) rfl ?_);refine wpAny_bind (wpAny_setField_rec hz (by simp) λha (oY:IsZip ha z TI TO .ellipsis) sa=>?_);refine wpAny_bind ?_;simp only [List.zipIdx_cons,List.zipIdx_nil,List.forIn_cons,List.forIn_nil];refine wpAny_bind (wpAny_bind (wpAny_onRaise ?_));show wpAny _ _ (Builtin.SmallTypes.nextOf (.ref i1) >>= _) _ _ _;refine wpAny_bind (Z9 hh (h1.extBut sa.extBut D.i1z) (Fw.extBut sa.extBut D.l1z) hx λhb e sb he=>?_);obtain ⟨oe,oZ,vC⟩:=he;have vD:IsZip hb z TI TO .ellipsis:=sb _ _ D.i1z.symm oY;have yZ:e≠z:=λq=>by
  subst q;rw [vD] at oZ;cases oZ;simp at vC
 exact wpAny_setField_rec vD (by simp) λhc _ sc=>hE hc e (λc o n1 _ n3 _ q=>sc.extBut _ _ n1 (sb _ _ n3 (sa.extBut _ _ n1 q))) ⟨oe,sc.extBut _ _ yZ oZ,vC⟩
theorem Kv (hh:A.handled=none)(D:ZipApart z TI TO i1 i2 l1 l2)(hz:IsZip s.heap z TI TO .none)(Zb:IsPair s.heap TI (.ref i1) (.ref i2))(cK:IsPair s.heap TO a b)(h1:F3 tu s.heap i1 l1 k1)(Fw:F4 tu s.heap l1 xs)(hx:xs[k1]?=none)(hQ:∀ h',(∀ c o,c≠z->c≠TO->c≠i1->c≠i2->s.heap.get? c=some o->h'.get? c=some o)->Q none { s with heap:=h' }):wpAny (model prog w) A (pyNext (.ref z)) Q E s:=by
 have ty:s.TypeIs (.ref z) "zip":=⟨_,hz,rfl⟩;unfold pyNext;refine wpAny_bind (wpAny_attempt (wpAny_callSpecial?_slot (name:=Str.ofString "__next__") ty F.slot_zip_next (wpAny_call_entry F.slot_zip_next ty F.entry_zip_next (Za hh D hz Zb cK h1 Fw hx λh' e hk he=>?_) (F.args_zip_next_1 _))));obtain ⟨o,ho,hc⟩:=he;exact wpAny_bind (wpAny_isInstance (T:="StopIteration") (b:=true) ⟨o,ho,hc⟩ isSubtype_stop (wpAny_pure (hQ _ hk)))
noncomputable def Zc (tu:Bool)(l:Addr):Obj:={ cls:=.type (if tu=true then "tuple_iterator" else "list_iterator"),data:=.fields #[.ref l,.int 0 0] }
theorem RF (e:h.get? i=some (Zc tu l)):F3 tu h i l 0:=by
 cases tu with
 | false=>exact (show h.IsListIter i l 0 from ⟨_,e,rfl,rfl⟩)
 | true=>exact (show h.IsTupleIter i l 0 from ⟨_,e,rfl,rfl⟩)
theorem RG (hl:F4 tu s.heap l xs)(hQ:Q (.ref s.heap.objs.size) { s with heap:=s.heap.push (Zc tu l) }):wpAny (model prog w) A (pyIter (.ref l)) Q E s:=by
 cases tu with
 | false=>exact wpAny_pyIter_list hl hQ
 | true=>exact wpAny_pyIter_tuple hl hQ
end
end PySem
namespace L2
open PySem PySem.Spec PyProof.Rows KS
theorem Zd (n p q:Nat)(h1:p < n)(h2:q < n):ZipApart (n+4) (n+2) (n+3) n (n+1) p q:=by
 constructor <;> (intro z;have z':((_:Nat)=_):=z;omega)
noncomputable def Hi (v d:Addr):HO:=.ext λh=>h.IsItemsView v d
theorem Hi.ok (e:h.IsItemsView v d):AJ P w H h v (Hi v d):=by
 obtain ⟨o,h1,h2⟩:=id e;exact ⟨e,⟨o,h1⟩,λa b ⟨o',e1,e2⟩ k=>⟨o',k o' e1,e2⟩⟩
noncomputable def Ze:V->List V->Hp->VK->Prop:=λx vs H Q=>∃ d kvs,x=.ref d/\vs=[]/\H d=some (.dK kvs)/\∀ v,H v=none->Q (.ref v) (upd H v (Hi v d))
section
variable {X:Cx}
theorem RH:cE X "dict.items" Ze:=by
 intro pins s σ H x vs v us Q I rx rv h;obtain ⟨d,kvs,rfl,rfl,hH,q⟩:=h;cases rx;have YS:=rv.zero;subst YS;obtain ⟨_,hs,ws,r,hd⟩:=I.hok d _ hH;refine call_meetsIn F.slot_dict_items hd.typeIs F.entry_dict_items (F.args_dict_items_1 _) (meets_dict_items (Ap X.prog X.w) d hs) ⟨⟨_,hd⟩,?_⟩;have hn:H s.heap.objs.size=none:=I.fresh;exact ⟨.ref _,_,I.laid (λ_ _ q=>Heap.get?_push_of_some _ q) (Nat.le_refl _) (Hi.ok ⟨_,Heap.get?_push_size _ rfl,rfl,rfl⟩),rfl,q _ hn⟩
end
noncomputable def cQ (o:Obj)(d:Addr)(kvs:List (Key × V)):It :=
 ⟨λi H=>H d=some (.frz o (.dK kvs))/\i < kvs.length,λi H x H'=>∃ T p,H T=none/\kvs[i]?=some p/\x=.ref T/\H'=upd H T (.tup [kV p.1,p.2]),λi H=>H d=some (.frz o (.dK kvs))/\kvs.length<=i⟩
theorem Mt {P:Program}{w:World}{K:W.Frag}{elts:List Expr}{x1}{pos:Pos}{o:Obj}{d it:Addr}{kvs:List (Key × V)}{es:Array DictEntry}{ep:Nat}(he:o.data=.dict es ep):Turn P w K (.Tuple elts x1 pos) (cQ o d kvs) [it] it (λi h=>∃ ok ov,IsItemIter h it d i kvs.length ep ok ov) where
 mem:=by simp
 obj:=λi h st b hb=>by
  have e:b=it:=by simpa using hb
  subst e;obtain ⟨ok,ov,st⟩:=st;exact ⟨_,st,λv z=>by
   have z':Data.fields _=Data.cell v:=z;cases z'⟩
 keep:=λi h h' ⟨ok,ov,st⟩ k=>⟨ok,ov,k it (by simp) _ st⟩
 item:=by
  intro X hP hw hK hc i pins s σ H E I hf st hg;subst hP hw hK;obtain ⟨hd,hi⟩:=hg;obtain ⟨ok,ov,st⟩:=st;obtain ⟨vs,r,ha⟩:=I.dictAt hd he;obtain ⟨f0,f1,f2,f3,f4,f5⟩:=hf it (by simp);have hl:=r.length;have hx:kvs[i]?=some kvs[i]:=List.getElem?_eq_getElem hi;obtain ⟨v,hv,rv⟩:=r.at hx;rw [hl] at st;refine wpAny_pyNext_items_item st ha hv λkey h' hk HU hT hsz kk=>⟨_,rfl,?_⟩;refine wpAny_letOwnedTupleGo_items (s:={ s with heap:=h' }) HU λh2 K0 sb=>?_;rw [<- hl] at K0;have I1:Inv X pins σ H { s with heap:=h' }:=I.turned (t':=s.toks) (λb o hb e=>kk b o hb e) f0 f1 f3 f4 f5;have I2:Inv X pins σ H { s with heap:=h2 }:=I1.turned (t':=s.toks) (λb o hb e=>(sb.2 b hb).trans e) f0 f1 f3 f4 f5;have lit:it≠s.heap.objs.size:=Nat.ne_of_lt (Heap.lt_size st);have hn:H s.heap.objs.size=none:=I.hok.fresh (Nat.le_refl _);obtain ⟨_,g1,_,_,g4,g5⟩:=I.abj (H':=H) (Nat.le_refl _) hn;have ph:h2.get? s.heap.objs.size=some { cls:=.type "tuple",data:=.seq #[key,v] }:=(sb.2 _ (Ne.symm lit)).trans hT;have I3:Inv X pins σ (upd H s.heap.objs.size (.tup [kV kvs[i].1,kvs[i].2])) { s with heap:=h2 } :=
   I2.aaw hn (Heap.get?_none_of_le I.sz) g1 g4 g5 ⟨by show 2<=sizeLine;rw [sizeLine_eq];decide,[key,v],.cons (RD hk) (.cons rv .nil),⟨_,ph,rfl,_,rfl⟩⟩
  refine ⟨.ref s.heap.objs.size,_,I3,rfl,⟨_,_,hn,hx,rfl,rfl⟩,⟨_,_,K0⟩,λb hb=>?_⟩;have e:b=it:=by simpa using hb
  rw [e,A8 lit];exact f0
 done:=by
  intro X hP hw hK hc i pins s σ H E I hf st hg;subst hP hw hK;obtain ⟨hd,hi⟩:=hg;obtain ⟨ok,ov,st⟩:=st;obtain ⟨vs,r,ha⟩:=I.dictAt hd he;obtain ⟨f0,f1,f2,f3,f4,f5⟩:=hf it (by simp);have hl:=r.length;rw [hl] at st;exact wpAny_pyNext_items_end (I.ok.hd hc) st ha (by rw [List.getElem?_eq_none_iff];omega) λh' eb=>⟨rfl,I.turned (t':=s.toks) (λb o hb e=>eb b o hb e) f0 f1 f3 f4 f5⟩
 self:=λ_ _ _ _ _ ⟨_,_,st⟩ h=>W.kcp_self st h
section
variable {X:Cx}{elts:List Expr}{x1}{K6:Pos}
noncomputable def RI (te:TE):TI:=fun σ H R=>te σ H λx H1=>∃ v d kvs,x=.ref v/\H1 v=some (Hi v d)/\H1 d=some (.dK kvs)/\∀ o,R (cQ o d kvs) (upd H1 d (.frz o (.dK kvs)))
theorem Vt (hl:SE X l te):SI X (.Tuple elts x1 K6) l (RI te):=⟨by
 intro pins s σ H R I h;refine AK (hl.out pins s σ H _ I h) λv s1 Au=>?_;obtain ⟨x,H1,I1,r1,q1⟩:=Au;obtain ⟨vw,d,kvs,e,hv,hd,q⟩:=q1;subst e;cases r1;obtain ⟨_,hs,vs,r,o,es,ep,e1,e2,e3,e4⟩:=id (I1.hok d _ hd);have I2:=I1.freeze hd e1;obtain ⟨vs,r,ha⟩:=I2.dictAt A6 e3;have view:s1.heap.IsItemsView vw d:=(I1.hok vw _ hv).1;refine wpAny_pyIter_items view ha ?_;refine ⟨s1.heap.objs.size,[s1.heap.objs.size],_,_,_,rfl,I2.kept (t':=s1.toks) λb o e=>Heap.get?_push_of_some _ e,Mt e3,⟨.none,.none,?_⟩,λb hb=>?_,q o⟩
 ·show (s1.heap.push _).get? s1.heap.objs.size=_;rw [Heap.get?_push_size _ rfl,r.length];rfl
 ·have e:b=s1.heap.objs.size:=by simpa using hb
  subst e;exact I2.abj (Nat.le_refl _) (I2.hok.fresh (Nat.le_refl _))⟩
end
theorem PK {o:Obj}{d:Addr}{kvs:List (Key × V)}{g:TG}{tb:TS}{D:Ends}{σ:St}{H:Hp}(Pv:Nat->St->Hp->Prop)(h0:Pv 0 σ H)(hl:∀ i σ H,i<=kvs.length->Pv i σ H->H d=some (.frz o (.dK kvs)))
  (hs:∀ i p σ H T,kvs[i]?=some p->Pv i σ H->H T=none->g (.ref T) σ (upd H T (.tup [kV p.1,p.2])) fun σ2 H2=>tb { D with nx:=Pv (i+1),ct:=Pv (i+1),bk:=D.nx } σ2 H2) (hd:∀ σ H,Pv kvs.length σ H->D.nx σ H) :
  ∃ W:Nat->Nat->St->Hp->Prop,(∃ m,W 0 m σ H)/\∀ i m σ H,W i m σ H ->
   ((cQ o d kvs).stop i H/\D.nx σ H)\/((cQ o d kvs).go i H/\∃ N:St->Hp->Prop,(∀ σ' H',N σ' H'->∃ m',m' < m/\W (i+1) m' σ' H')/\∀ x H',(cQ o d kvs).yld i H x H'->g x σ H' fun σ2 H2=>tb { D with nx:=N,ct:=N,bk:=D.nx } σ2 H2):=by
 refine ⟨λi m σ H=>m=kvs.length - i/\i<=kvs.length/\Pv i σ H,⟨kvs.length,by simp,Nat.zero_le _,h0⟩,?_⟩;rintro i m σ H ⟨rfl,hi,p⟩;have q:=hl i σ H hi p;by_cases CT:i < kvs.length
 ·refine .inr ⟨⟨q,CT⟩,Pv (i+1),fun σ' H' p'=>⟨kvs.length - (i+1),(),rfl,CT,p'⟩,λx H' y=>?_⟩;obtain ⟨T,p',hT,hp,e,e2⟩:=y;subst e e2;exact hs i p' σ H T hp p hT
 ·obtain rfl:i=kvs.length:=by omega
  exact .inl ⟨⟨q,Nat.le_refl _⟩,hd σ H p⟩
end L2
namespace KG
variable {α:Type}
noncomputable def szs (sz:α->Nat):List α->Nat
 | []=>0
 | t::ts=>sz t+szs sz ts
theorem EC (sz:α->Nat)(a b:List α):szs sz (a++b)=szs sz a+szs sz b:=by
 induction a with
 | nil=>simp [szs]
 | cons t ts ih=>simp only [List.cons_append,szs,ih];omega
variable {kids:α->List α}{sz:α->Nat}
noncomputable def nxt (kids:α->List α):List α->List α
 | []=>[]
 | t::ts=>kids t++ts
noncomputable def fM (kids:α->List α):Nat->List α->List α
 | 0,_=>[]
 | _+1,[]=>[]
 | n+1,t::ts=>t::fM kids n (kids t++ts)
noncomputable def P (kids:α->List α)(sz:α->Nat)(l:List α):List α:=fM kids (szs sz l) l
theorem P_nil:P kids sz []=[]:=rfl
noncomputable def Fo (kids:α->List α):List α->Nat->List α
 | l,0=>l
 | l,j+1=>Fo kids (nxt kids l) j
theorem NT:∀ (j:Nat) (l:List α),Fo kids l (j+1)=nxt kids (Fo kids l j)
 | 0,_=>rfl
 | j+1,l=>by show Fo kids (nxt kids l) (j+1)=_;rw [NT j (nxt kids l)];rfl
theorem Mu:∀ j,Fo kids [] j=[]
 | 0=>rfl
 | j+1=>Mu j
section
variable (hs:∀ t,szs sz (kids t)+1=sz t)
include hs
theorem aa5 (t:α):0 < sz t:=by have:=hs t;omega
theorem aat (t:α)(ts:List α):szs sz (nxt kids (t::ts))+1=szs sz (t::ts):=by
 simp only [nxt,EC,szs];have:=hs t;omega
theorem P_cons (t:α)(ts:List α):P kids sz (t::ts)=t::P kids sz (kids t++ts):=by
 have e:=aat hs t ts;unfold P;rw [<- e];rfl
theorem P_len:∀ (n:Nat) (l:List α),szs sz l=n->(P kids sz l).length=n
 | 0,[],_=>rfl
 | 0,t::ts,h=>by have:=aa5 hs t;simp only [szs] at h;omega
 | n+1,[],h=>by simp [szs] at h
 | n+1,t::ts,h=>by
  have e:=aat hs t ts;rw [P_cons hs,List.length_cons,P_len n (kids t++ts) (by show szs sz (nxt kids (t::ts))=n;omega)]
theorem P_one (t:α):(P kids sz [t]).length=sz t:=by
 have:=P_len hs _ [t] rfl;simpa [szs] using this
theorem Xm:∀ (j:Nat) (l:List α),(P kids sz l)[j]?=(Fo kids l j).head?
 | 0,[]=>rfl
 | 0,t::ts=>by rw [P_cons hs];rfl
 | j+1,[]=>by show (P kids sz [])[j+1]?=(Fo kids [] j).head?;rw [Mu,P_nil];rfl
 | j+1,t::ts=>by
  rw [P_cons hs];show (P kids sz (kids t++ts))[j]?=(Fo kids (nxt kids (t::ts)) j).head?;exact Xm j _
theorem Fo_size:∀ (j:Nat) (l:List α),szs sz (Fo kids l j)=szs sz l - j
 | 0,_=>rfl
 | j+1,[]=>by rw [Mu];simp [szs]
 | j+1,t::ts=>by
  show szs sz (Fo kids (nxt kids (t::ts)) j)=_;rw [Fo_size j];have:=aat hs t ts;omega
theorem RJ (h:szs sz l=0):l=[]:=by
 cases l with
 | nil=>rfl
 | cons t ts=>have:=aa5 hs t;simp only [szs] at h;omega
theorem Fo_step (h:(P kids sz l)[j]?=some x):∃ r,Fo kids l j=x::r/\Fo kids l (j+1)=kids x++r:=by
 rw [Xm hs] at h;cases e:Fo kids l j with
 | nil=>rw [e] at h;cases h
 | cons y r =>
  rw [e] at h;cases h;exact ⟨r,rfl,by rw [NT,e];rfl⟩
theorem Fo_end (l:List α):Fo kids l (szs sz l)=[]:=RJ hs (by rw [Fo_size hs];omega)
theorem aa8 (l:List α):l.length<=szs sz l:=by
 induction l with
 | nil=>simp [szs]
 | cons t ts ih=>have:=aa5 hs t;simp only [szs,List.length_cons];omega
theorem abd (t:α):(kids t).length < sz t:=by
 have h1:=aa8 hs (kids t);have h2:=hs t;omega
theorem P_mem_sz:∀ (n:Nat) (l:List α) (d:α),szs sz l=n->d∈P kids sz l->sz d<=szs sz l
 | 0,[],d,_,h=>by cases h
 | 0,t::ts,d,h,_=>by have:=aa5 hs t;simp only [szs] at h;omega
 | n+1,[],d,h,_=>by simp [szs] at h
 | n+1,t::ts,d,h,hm=>by
  have e:=aat hs t ts;rw [P_cons hs] at hm;rcases List.mem_cons.mp hm with z | z
  ·rw [z];simp only [szs];omega
  ·have:=P_mem_sz n (kids t++ts) d (by show szs sz (nxt kids (t::ts))=n;omega) z;have e2:szs sz (kids t++ts)=szs sz (nxt kids (t::ts)):=rfl;omega
end
end KG
namespace L2
open PySem PySem.Spec PyProof.Rows KS
open PySem.W (fnMade fnX envX CodeHd tabObj makeFunction_K makeFunction_hit nestDef_K FnAt callWith_F)
noncomputable def Ug (K:W.Frag)(fd:FuncData)(f:Addr)(H:Hp):Prop:=W.keepIn K (.ref f)=true\/∃ fo:Obj,fo.data=.func fd/\H f=some (C9 f fo)
theorem Ug.mono {K:W.Frag}{fd:FuncData}{f:Addr}{H H':Hp}(h:∀ b φ,H b=some (.ext φ)->H' b=some (.ext φ))(c:Ug K fd f H):Ug K fd f H':=by
 rcases c with c | ⟨fo,e,c⟩
 ·exact .inl c
 ·exact .inr ⟨fo,e,h _ _ c⟩
section
variable {X:Cx}{k:Nat}{f:Addr}{fd:FuncData}{ps:List Str}{sp:Sp}{x:Str}{p pos:Pos}{e:Expr}{es:List Expr}{t:TA}{i:Nat}
noncomputable def RK (K:W.Frag)(fd:FuncData)(sp:Sp)(i:Nat)(f:Addr)(t:TA):TE:=fun σ H Q=>σ[i]?=some (some (.ref f))/\Ug K fd f H/\t σ H λvs H1=>Ug K fd f H1/\sp vs H1 Q E0
theorem RL (F:Aq X.prog X.w X.K X.mg X.base B5 k f fd ps sp)(hr:Ar k X.A)(hb:Binds X.K fd ps [])(hN:X.N[i]?=some x)(hv:X2 X.env.scope x)(ha:PA X (e::es) t)(hd:(x==("__debug__":Str))=false:=by decide)(HY:(x==("__classdict__":Str))=false:=by decide)(he:starEach (e::es) X.env=(false,eval e X.env)::starEach es X.env:=by rfl)(Ck:(backTo pos (starEach es X.env)).any (·.1)=false:=by rfl) :
  PE X (.Call (.Name x p) (e::es) [] pos) (RK X.K fd sp i f t):=by
 intro pins s σ H Q I h;obtain ⟨lz,cU,h⟩:=h;refine wpAny_Call_Name_kw (AK ((LF (pos:=p) hN hv hd HY) pins s σ H (λw G=>w=.ref f/\G=H) I ⟨_,lz,rfl,rfl⟩) λu s1 q1=>?_);obtain ⟨y,H1,I1,r1,ey,eH⟩:=q1;subst ey eH;obtain rfl:u=Value.ref f:=r1;have hz:∀ us:List Value,us++[]=us:=λus=>List.append_nil us;rcases cU with hk | ⟨fo,V4,cU⟩
 ·refine W.callWith_K (h₀:=X.base) I.ok.mod.kin hk (AK (ha pos pins s1 σ H1 _ I1 h) λus s2 q2=>?_) he Ck;obtain ⟨vs,H2,I2,r2,cX,q2⟩:=q2;refine ⟨I2.kIn,?_⟩;exact Ew (us:=us) (dvs:=[]) (ds:=[]) F hr hb .nil F0 I2 r2 (by rw [List.append_nil];exact q2)
 ·have at':∀ {s:Shared} {H:Hp},Inv X pins σ H s->Ug X.K fd f H->FnAt f s.heap\/W.keepIn X.K (.ref f)=true:=λ{s H} J z=>by
   rcases z with z | ⟨fo,V4,z⟩
   ·exact .inr z
   ·have g:=C9.get J.hok z;obtain ⟨oc,od,da,sl⟩:=fo;have pj:da=.func fd:=V4;subst pj;exact .inl ⟨oc,od,fd,sl,g⟩
  by_cases hk:W.keepIn X.K (.ref f)=true
  ·refine W.callWith_K (h₀:=X.base) I.ok.mod.kin hk (AK (ha pos pins s1 σ H1 _ I1 h) λus s2 q2=>?_) he Ck;obtain ⟨vs,H2,I2,r2,cX,q2⟩:=q2;exact ⟨I2.kIn,Ew (us:=us) (dvs:=[]) (ds:=[]) F hr hb .nil F0 I2 r2 (by rw [List.append_nil];exact q2)⟩
  ·refine callWith_F ((at' I1 (.inr ⟨fo,V4,cU⟩)).resolve_right hk) (AK (ha pos pins s1 σ H1 _ I1 h) λus s2 q2=>?_) he Ck;obtain ⟨vs,H2,I2,r2,cX,q2⟩:=q2;exact ⟨(at' I2 cX).resolve_right hk,Ew (us:=us) (dvs:=[]) (ds:=[]) F hr hb .nil F0 I2 r2 (by rw [List.append_nil];exact q2)⟩
theorem NU (F:Aq X.prog X.w X.K X.mg X.base B5 k f fd ps sp)(hr:Ar k X.A)(hb:Binds X.K fd ps [])(hN:X.N[i]?=some x)(hv:X2 X.env.scope x)(ha:SA X (e::es) t)(hd:(x==("__debug__":Str))=false:=by decide)(HY:(x==("__classdict__":Str))=false:=by decide)(he:starEach (e::es) X.env=(false,eval e X.env)::starEach es X.env:=by exfalso)(Ck:(backTo pos (starEach es X.env)).any (·.1)=false:=by rfl) :
  SE X (.Call (.Name x p) (e::es) [] pos) (RK X.K fd sp i f t):=⟨RL F hr hb hN hv ha.out hd HY he Ck⟩
end
theorem Zf {R:List Value->Prop}(h:∀ a0,R [a0]):∀ us:List Value,us.length=1->R us:=by
 intro us e;cases us with
 | nil=>cases e
 | cons a t=>cases List.eq_nil_of_length_eq_zero (Nat.succ.inj e);exact h a
theorem RM {R:List Value->Prop}(h:∀ a0 a1,R [a0,a1]):∀ us:List Value,us.length=2->R us:=by
 intro us e;cases us with
 | nil=>cases e
 | cons a t=>exact Zf (R:=λt=>R (a::t)) (h a) t (Nat.succ.inj e)
theorem px {R:List Value->Prop}(h:∀ a0 a1 a2,R [a0,a1,a2]):∀ us:List Value,us.length=3->R us:=by
 intro us e;cases us with
 | nil=>cases e
 | cons a t=>exact RM (R:=λt=>R (a::t)) (h a) t (Nat.succ.inj e)
end L2
namespace L2
open PySem PySem.Spec PyProof.Rows KS
section
variable {X:Cx}{k:Nat}{f C:Addr}{fd:FuncData}{ps:List Str}{sp:Sp}{m:Str}{o:Expr}{ta:TE}{pos apos:Pos}
theorem Vu (he:SE X o ta)(c:Gi X.K C)(hm:Meth X.K C m f)(F:Aq X.prog X.w X.K X.mg X.base B5 k f fd ps sp)(hr:Ar k X.A)(hb:Binds X.K fd ps [])(ht:eval (.Call (.Attribute o m apos) [] [] pos) X.env=(do
   let ov <- eval o X.env
   standAt apos.atName
   let (f,first) <- holding [ov] (getMethod ov m pl)
   callWith pos f first (backTo pos (starEach [] X.env)) (backToKw pos (keywordEach [] X.env))):=by rfl) :
  SE X (.Call (.Attribute o m apos) [] [] pos) (EX C m sp [] E0 ta DE):=⟨K8 he.out c hm F hr hb .nil F0 ht⟩
end
noncomputable def Kw (n:Nat)(o:HO)(H1:Hp)(Q:VK):Prop:=n<=sizeLine/\∀ p,H1 p=none->Q (.ref p) (upd H1 p o)
section
variable {σ:St}{H:Hp}{Q:VK}{QB:Bool->Hp->Prop}{D:Ends}
theorem Zg (h:σ[i]?=some (some v))(q:Q v H):B9 i σ H Q:=⟨v,h,q⟩
theorem pz (q:Q v H):tC v σ H Q:=q
theorem vE (q:ta σ H λx H1=>tb σ H1 λy H2=>r x y H2 Q):FQ r ta tb σ H Q:=q
theorem vF (q:ta σ H λx H1=>r x H1 Q):nX r ta σ H Q:=q
theorem fO (c:C i j)(q:Q (g i j) H):rI C g (.int i) (.int j) H Q:=⟨i,j,rfl,rfl,c,q⟩
theorem pA (q:Q (g i j) H):QI g (.int i) (.int j) H Q:=⟨i,j,rfl,rfl,q⟩
theorem vG (q:Q (g i) H):rU g (.int i) H Q:=⟨i,rfl,q⟩
theorem pB (h:UH x y=true)(q:Q (.bl (decide (x=y))) H):vd x y H Q:=⟨h,q⟩
theorem pC (h:UH x y=true)(q:Q (.bl (!decide (x=y))) H):ve x y H Q:=⟨h,q⟩
theorem lA (q:t σ H λx H'=>∃ k,x=.bl k/\QB k H'):NA t σ H QB:=q
theorem vH (q:t σ H λx H'=>∃ k,x=.bl k/\QB k H'):tB t σ H QB:=q
theorem vI {b:Bool}{P:Bool->Prop}(q:P b):∃ k,V.bl b=V.bl k/\P k:=⟨b,rfl,q⟩
theorem pD (q:t σ H λc H1=>QB (!c) H1):Ye t σ H QB:=q
theorem pE (q:t σ H λc H1=>if c=true then u σ H1 QB else QB false H1):Yd t u σ H QB:=q
theorem vJ (q:t σ H λc H1=>if c=true then QB true H1 else u σ H1 QB):nN t u σ H QB:=q
theorem vK (q:t σ H λc H1=>if c=true then ta σ H1 Q else tb σ H1 Q):nO t ta tb σ H Q:=q
theorem lC (q:ta σ H λx H1=>∃ c,x=.bl c/\Q (.bl (!c)) H1):Qv ta σ H Q:=q
theorem lD (q:ta σ H λx H1=>∃ c,x=.bl c/\if c=true then tb σ H1 Q else Q (.bl false) H1):Qu ta tb σ H Q:=q
theorem cY (q:te σ H λx H1=>u D (σ.set i (some x)) H1):Bh (LG te (BN i)) u D σ H:=q
theorem Zh (q:te σ H λx H1=>D.nx (σ.set i (some x)) H1):LG te (BN i) D σ H:=q
theorem cZ (q:c σ H λb H1=>if b=true then t { D with nx:=u D } σ H1 else u D σ H1):Bh (Qz c t Np) u D σ H:=q
theorem pF (q:c σ H λb H1=>if b=true then t D σ H1 else u D σ H1):Qz c t u D σ H:=q
theorem Zi (q:te σ H λ_ H1=>u D σ H1):Bh (Nr te) u D σ H:=q
theorem lF (q:te σ H λ_ H1=>D.nx σ H1):Nr te D σ H:=q
theorem pG (q:te σ H D.rt):UA te D σ H:=q
theorem lG (q:D.rt .non H):Qy D σ H:=q
theorem lH (q:D.nx σ H):Np D σ H:=q
theorem pH {Q:List V->Hp->Prop}(q:Q [] H):DE σ H Q:=q
theorem lI {Q:List V->Hp->Prop}(q:te σ H λx H1=>t σ H1 λxs H2=>Q (x::xs) H2):Be te t σ H Q:=q
theorem pI (q:t σ H λxs H1=>Kw xs.length (.tup xs) H1 Q):Pc t σ H Q:=q
theorem pJ (q:t σ H λxs H1=>Kw xs.length (.lst xs) H1 Q):YE t σ H Q:=q
theorem lJ (q:t σ H λvs H1=>sp vs H1 Q E):EW sp [] E t σ H Q:=by
 have e:(λvs H1=>sp (vs++[]) H1 Q E)=λvs H1=>sp vs H1 Q E:=by funext vs H1;rw [List.append_nil]
 show t σ H λvs H1=>sp (vs++[]) H1 Q E;rw [e];exact q
theorem vL (q:t σ H λvs H1=>r vs H1 Q):YI r t σ H Q:=q
theorem BF {K:W.Frag}{p:Addr}{xs:List V}{i:Int}{v:V}(h:AG K H p xs)(e:Lx xs i=some v)(q:Q v H):C4 K (.ref p) (.int i) H Q:=⟨p,xs,i,v,rfl,rfl,h,e,q⟩
theorem RN {K:W.Frag}{p:Addr}{xs:List V}{i:Int}{v:V}(h:Ba K H p xs)(e:Lx xs i=some v)(q:Q v H):D7 K (.ref p) (.int i) H Q:=⟨p,xs,i,v,rfl,rfl,h,e,q⟩
theorem A4 {K:W.Frag}{p:Addr}{xs:List V}{i:Int}{v:V}(h:H p=some (.tup xs))(e:Lx xs i=some v)(q:Q v H):D7 K (.ref p) (.int i) H Q:=RN (Ba.of h) e q
theorem Cs {K:W.Frag}{p:Addr}{xs:List V}{i:Int}(h:AG K H p xs)(h0:0<=i)(h1:i < xs.length)(q:∀ v,v∈xs->Q v H):C4 K (.ref p) (.int i) H Q:=by
 obtain ⟨v,hv,hm⟩:=Rv h0 h1;exact ⟨p,xs,i,v,rfl,rfl,h,hv,q v hm⟩
end
theorem fQ {c:Prop}[Decidable c]{A T R:Prop}(hR:R)(hA:c->R->A):if c then A else (if false=true then T else R):=by
 by_cases h:c
 ·rw [if_pos h];exact hA h hR
 ·rw [if_neg h];exact Ce hR
theorem fS {c:Prop}[Decidable c]{A T R:Prop}(hT:T)(hA:¬ c->T->A):if c then (if true=true then T else R) else A:=by
 by_cases h:c
 ·rw [if_pos h];exact C5 hT
 ·rw [if_neg h];exact hA h hT
theorem Kx (n:Nat):((n+1:Nat):Int) - 1=(n:Int):=by omega
theorem Dm (h:n<=16777216):n<=sizeLine:=F2▸h
theorem Bx (h:n < 16777216):n < sizeLine:=F2▸h
end L2
local macro_rules | `(tactic| fail)=>do
 let mut r<- `(tactic| with_reducible refine L2.vL ?_)
 for s in "L2.lJ L2.pJ L2.pI L2.lI L2.pH L2.lG L2.pG L2.lF L2.Zi L2.pF L2.cZ L2.Zh L2.cY L2.lD L2.lC L2.vK L2.vJ L2.pE L2.pD L2.vI L2.vH L2.lA L2.vG L2.pA L2.vF L2.vE L2.pz".splitOn " " do r<- `(tactic| first | with_reducible refine $(Lean.mkIdent s.toName) ?_ | $r:tactic)
 `(tactic| first
 | ((with_reducible refine L2.Zg (v:=?v) ?h ?q);(case h=>rfl))
 | ((with_reducible refine L2.fO ?c ?q);(case c=>first | exact ⟨⟨⟩,⟨⟩⟩ | decide | exact .inl ⟨⟨⟩,⟨⟩⟩ | exact .inr ⟨⟨⟩,⟨⟩⟩ | exact ⟨⟨⟩,⟨⟩,⟨⟩⟩))
 | ((with_reducible refine L2.pB ?h ?q);(case h=>rfl))
 | ((with_reducible refine L2.pC ?h ?q);(case h=>rfl))
 | ((with_reducible refine L2.lH ?_);dsimp only)
 | $r:tactic)
local macro_rules | `(tactic| left)=>`(tactic| repeat fail)
namespace L2
open PySem PySem.Spec PyProof.Rows KS
theorem C1 (h:n<=sizeLine)(q:∀ p H2,H1 p=none->A9 H1 H2->H2 p=some o->R (.ref p) H2):Kw n o H1 R :=
 ⟨h,λp hp=>q p _ hp (A9.new hp) A6⟩
end L2
local macro_rules | `(tactic| intros $p:ident $h:ident $s:ident $e:ident)=>`(tactic| ((refine L2.C1 ?hh fun $p $h hn $s $e=>?qq);(case hh=>first | exact L2.Dm (by decide) | (simp only [List.length_cons,List.length_nil];exact L2.Dm (by decide)))))
namespace L2
open PySem PySem.Spec PyProof.Rows KS
theorem Vv (hl:H l=some (.lst xs))(hb:H b=some (.lst zs))(hn:xs.length+zs.length<=sizeLine)(q:∀ p H2,H p=none->A9 H H2->H2 p=some (.lst (xs++zs))->Q (.ref p) H2):f7 (.ref l) (.ref b) H Q :=
 ⟨l,b,xs,zs,rfl,rfl,hl,hb,hn,λp hp=>q p _ hp (A9.new hp) A6⟩
noncomputable def Cl (Pr:Program)(w:World)(K:W.Frag)(mg:Str->Option Value)(base:Heap)(k:Nat)(x:Str)(ps:List Str)(sp:Sp):Prop:=∃ f fd,Aq Pr w K mg base B5 k f fd ps sp/\W.keepIn K (.ref f)=true/\Binds K fd ps []/\mg x=some (.ref f)
section
variable {X:Cx}{k:Nat}{ps:List Str}{sp:Sp}{x:Str}{p pos:Pos}{e:Expr}{es:List Expr}{t:TA}
theorem Ay (F:Cl X.prog X.w X.K X.mg X.base k x ps sp)(hr:Ar k X.A)(hg:Gl X x)(ha:SA X (e::es) t)(Eh:(x==("__debug__":Str))=false:=by decide)(he:starEach (e::es) X.env=(false,eval e X.env)::starEach es X.env:=by exfalso)(Ck:(backTo pos (starEach es X.env)).any (·.1)=false:=by rfl) :
  SE X (.Call (.Name x p) (e::es) [] pos) (EW sp [] E0 t):=by
 obtain ⟨f,fd,h1,h2,h3,h4⟩:=F;exact Mn h1 hr hg h4 h2 h3 ha Eh he Ck
end
theorem Cl.mono {Pr:Program}{w:World}{K:W.Frag}{mg:Str->Option Value}{base:Heap}{j k:Nat}{x:Str}{ps:List Str}{sp:Sp}(h:j<=k)(F:Cl Pr w K mg base j x ps sp):Cl Pr w K mg base k x ps sp:=by
 obtain ⟨f,fd,h1,h2⟩:=F;exact ⟨f,fd,h1.mono h,h2⟩
structure Df (K:W.Frag)(mg:Str->Option Value)(x:Str)(st:Stmt)(ps:List Str)(f:Addr)(fd:FuncData):Prop where
 F:Cd K x x st f fd
 b:Binds K fd ps []
 m:mg x=some (.ref f)
theorem Df.cl {Pr:Program}{w:World}{K:W.Frag}{mg:Str->Option Value}{base:Heap}{k:Nat}{x:Str}{st:Stmt}{ps:List Str}{f:Addr}{fd:FuncData}{sp:Sp}(D:Df K mg x st ps f fd)(G:Aq Pr w K mg base B5 k f fd ps sp):Cl Pr w K mg base k x ps sp:=⟨f,fd,G,D.F.kp,D.b,D.m⟩
end L2
section
local macro_rules | `(tactic| omega)=>`(tactic| lia)
local macro_rules | `(tactic| apply $t)=>`(tactic| (left;refine $t))
namespace KX
open PySem
inductive Ex where
 | nm (x:Str) | num (i:Int) | tru (b:Bool) | emp
 | fn (x:Str) (b:Ex) | rc (f x:Str) (b:Ex) | cal (a b:Ex) | lt (x:Str) (a b:Ex) | wh (a b c:Ex) | pr (a b:Ex)
 | opn (a:Ex) (x y:Str) (b:Ex) | lk (a b:Ex) | spl (a b:Ex) (x y:Str) (c:Ex) | op (o:Str) (a b:Ex)
namespace Ex
noncomputable def np:Ex->Nat
 | nm _ | num _ | tru _ | emp=>0
 | fn _ b=>np b | rc _ _ b=>np b | cal a b=>np a+np b | lt _ a b=>np a+np b | wh a b c=>np a+np b+np c | pr a b=>1+np a+np b
 | opn a _ _ b=>np a+np b | lk a b=>1+np a+np b | spl a b _ _ c=>np a+np b+np c | op _ a b=>np a+np b
noncomputable def sz:Ex->Nat
 | nm _ | num _ | tru _ | emp=>1
 | fn _ b=>1+sz b | rc _ _ b=>1+sz b | cal a b=>1+sz a+sz b | lt _ a b=>1+sz a+sz b | wh a b c=>1+sz a+sz b+sz c | pr a b=>1+sz a+sz b
 | opn a _ _ b=>1+sz a+sz b | lk a b=>1+sz a+sz b | spl a b _ _ c=>1+sz a+sz b+sz c | op _ a b=>1+sz a+sz b
noncomputable def cl (xs:List Str):Ex->Prop
 | nm x=>x∈xs
 | num _ | tru _ | emp=>True
 | fn x b=>cl (x::xs) b | rc f x b=>cl (x::f::xs) b | cal a b=>cl xs a/\cl xs b | lt x a b=>cl xs a/\cl (x::xs) b | wh a b c=>cl xs a/\cl xs b/\cl xs c | pr a b=>cl xs a/\cl xs b
 | opn a x y b=>cl xs a/\cl (y::x::xs) b | lk a b=>cl xs a/\cl xs b | spl a b x y c=>cl xs a/\cl xs b/\cl (y::x::xs) c | op _ a b=>cl xs a/\cl xs b
theorem cl.mono:∀ {xs ys:List Str},(∀ x∈xs,x∈ys)->cl xs e->cl ys e:=by
 have c1:∀ {xs ys:List Str} (x:Str),(∀ x∈xs,x∈ys)->∀ z∈x::xs,z∈x::ys:=λx h z hz=>by
  rcases List.mem_cons.mp hz with rfl | hz
  ·exact .head _
  ·exact .tail _ (h _ hz)
 induction e with
 | nm x=>exact λh q=>h _ q
 | num _ | tru _ | emp=>exact λ_ _=>trivial
 | fn x b ih=>exact λh q=>ih (c1 x h) q
 | rc f x b ih=>exact λh q=>ih (c1 x (c1 f h)) q
 | cal a b ia ib=>exact λh q=>⟨ia h q.1,ib h q.2⟩
 | lt x a b ia ib=>exact λh q=>⟨ia h q.1,ib (c1 x h) q.2⟩
 | wh a b c ia ib ic=>exact λh q=>⟨ia h q.1,ib h q.2.1,ic h q.2.2⟩
 | pr a b ia ib=>exact λh q=>⟨ia h q.1,ib h q.2⟩
 | opn a x y b ia ib=>exact λh q=>⟨ia h q.1,ib (c1 y (c1 x h)) q.2⟩
 | lk a b ia ib=>exact λh q=>⟨ia h q.1,ib h q.2⟩
 | spl a b x y c ia ib ic=>exact λh q=>⟨ia h q.1,ib h q.2.1,ic (c1 y (c1 x h)) q.2.2⟩
 | op o a b ia ib=>exact λh q=>⟨ia h q.1,ib h q.2⟩
noncomputable def ab0 (o:Str):Prop:=o="plus"\/o="minus"\/o="less"\/o="same"
noncomputable def opk:Ex->Prop
 | nm _ | num _ | tru _ | emp=>True
 | fn _ b=>opk b | rc _ _ b=>opk b | cal a b=>opk a/\opk b | lt _ a b=>opk a/\opk b | wh a b c=>opk a/\opk b/\opk c | pr a b=>opk a/\opk b
 | opn a _ _ b=>opk a/\opk b | lk a b=>opk a/\opk b | spl a b _ _ c=>opk a/\opk b/\opk c | op o a b=>ab0 o/\opk a/\opk b
end Ex
end KX
namespace L2
open PySem PySem.Spec PyProof.Rows KS KX
noncomputable def As (H:Hp):Ex->V->Prop
 | .nm x,r=>∃ p,r=.ref p/\H p=some (.tup [.str "name",.str x])
 | .num i,r=>∃ p,r=.ref p/\H p=some (.tup [.str "number",.int i])
 | .tru b,r=>∃ p,r=.ref p/\H p=some (.tup [.str "truth",.bl b])
 | .emp,r=>∃ p,r=.ref p/\H p=some (.tup [.str "empty"])
 | .fn x b,r=>∃ p rb,r=.ref p/\H p=some (.tup [.str "fun",.str x,rb])/\As H b rb
 | .rc f x b,r=>∃ p rb,r=.ref p/\H p=some (.tup [.str "rec",.str f,.str x,rb])/\As H b rb
 | .cal a b,r=>∃ p ra rb,r=.ref p/\H p=some (.tup [.str "call",ra,rb])/\As H a ra/\As H b rb
 | .lt x a b,r=>∃ p ra rb,r=.ref p/\H p=some (.tup [.str "let",.str x,ra,rb])/\As H a ra/\As H b rb
 | .wh a b c,r=>∃ p ra rb rc,r=.ref p/\H p=some (.tup [.str "when",ra,rb,rc])/\As H a ra/\As H b rb/\As H c rc
 | .pr a b,r=>∃ p ra rb,r=.ref p/\H p=some (.tup [.str "pair",ra,rb])/\As H a ra/\As H b rb
 | .opn a x y b,r=>∃ p ra rb,r=.ref p/\H p=some (.tup [.str "open",ra,.str x,.str y,rb])/\As H a ra/\As H b rb
 | .lk a b,r=>∃ p ra rb,r=.ref p/\H p=some (.tup [.str "link",ra,rb])/\As H a ra/\As H b rb
 | .spl a b x y c,r=>∃ p ra rb rc,r=.ref p/\H p=some (.tup [.str "split",ra,rb,.str x,.str y,rc])/\As H a ra/\As H b rb/\As H c rc
 | .op o a b,r=>∃ p ra rb,r=.ref p/\H p=some (.tup [.str "op",.str o,ra,rb])/\As H a ra/\As H b rb
theorem As.mono (s:Ae H H'):∀ {r:V},As H e r->As H' e r:=by
 induction e with
 | nm _=>intro r h;obtain ⟨p,h1,h2⟩:=h;exact ⟨p,h1,s _ _ h2⟩
 | num _=>intro r h;obtain ⟨p,h1,h2⟩:=h;exact ⟨p,h1,s _ _ h2⟩
 | tru _=>intro r h;obtain ⟨p,h1,h2⟩:=h;exact ⟨p,h1,s _ _ h2⟩
 | emp=>intro r h;obtain ⟨p,h1,h2⟩:=h;exact ⟨p,h1,s _ _ h2⟩
 | fn _ _ ib=>intro r h;obtain ⟨p,rb,h1,h2,h3⟩:=h;exact ⟨p,rb,h1,s _ _ h2,ib h3⟩
 | rc _ _ _ ib=>intro r h;obtain ⟨p,rb,h1,h2,h3⟩:=h;exact ⟨p,rb,h1,s _ _ h2,ib h3⟩
 | cal _ _ ia ib=>intro r h;obtain ⟨p,ra,rb,h1,h2,h3,h4⟩:=h;exact ⟨p,ra,rb,h1,s _ _ h2,ia h3,ib h4⟩
 | lt _ _ _ ia ib=>intro r h;obtain ⟨p,ra,rb,h1,h2,h3,h4⟩:=h;exact ⟨p,ra,rb,h1,s _ _ h2,ia h3,ib h4⟩
 | wh _ _ _ ia ib ic=>intro r h;obtain ⟨p,ra,rb,rc,h1,h2,h3,h4,h5⟩:=h;exact ⟨p,ra,rb,rc,h1,s _ _ h2,ia h3,ib h4,ic h5⟩
 | pr _ _ ia ib=>intro r h;obtain ⟨p,ra,rb,h1,h2,h3,h4⟩:=h;exact ⟨p,ra,rb,h1,s _ _ h2,ia h3,ib h4⟩
 | opn _ _ _ _ ia ib=>intro r h;obtain ⟨p,ra,rb,h1,h2,h3,h4⟩:=h;exact ⟨p,ra,rb,h1,s _ _ h2,ia h3,ib h4⟩
 | lk _ _ ia ib=>intro r h;obtain ⟨p,ra,rb,h1,h2,h3,h4⟩:=h;exact ⟨p,ra,rb,h1,s _ _ h2,ia h3,ib h4⟩
 | spl _ _ _ _ _ ia ib ic=>intro r h;obtain ⟨p,ra,rb,rc,h1,h2,h3,h4,h5⟩:=h;exact ⟨p,ra,rb,rc,h1,s _ _ h2,ia h3,ib h4,ic h5⟩
 | op _ _ _ ia ib=>intro r h;obtain ⟨p,ra,rb,h1,h2,h3,h4⟩:=h;exact ⟨p,ra,rb,h1,s _ _ h2,ia h3,ib h4⟩
section
variable {X:Cx}{a:Expr}{pos:Pos}{ta:TE}
theorem Ky (ho:kS X (unaryOp op) r)(ha:SE X a ta):SE X (.UnaryOp op a pos) (nX r ta):=⟨eR ho ha.out⟩
end
end L2
namespace KS
theorem Paired.rev:∀ {a:List α} {c:List β},PySem.Paired F a c->PySem.Paired F a.reverse c.reverse:=by
 intro a c p
 induction p with
 | nil=>exact .nil
 | cons h _ ih =>
  rw [List.reverse_cons,List.reverse_cons];exact Paired.app ih (.cons h .nil)
end KS
namespace K
open PySem L2
noncomputable def top (i:Nat):Stmt:=PySem.Challenge.pw_kindspan_k33_whole_results.main.body.getD i (.Pass ⟨0,0,0,0⟩)
abbrev EH:Stmt:=top 4
abbrev EI:Stmt:=top 6
abbrev Fy:Stmt:=top 7
abbrev EJ:Stmt:=top 8
abbrev EK:Stmt:=top 9
abbrev DT:Stmt:=top 10
abbrev Hj:Stmt:=top 11
abbrev EL:Stmt:=top 13
abbrev Zj:Stmt:=top 15
abbrev Hk:Stmt:=top 16
abbrev CL:Stmt:=top 20
abbrev CM:Stmt:=top 21
abbrev B6:Stmt:=top 22
abbrev Dp:Stmt:=top 23
abbrev Dq:Stmt:=top 24
abbrev Co:Stmt:=top 25
abbrev Bo:Stmt:=top 26
abbrev B0:Stmt:=top 27
abbrev Bc:Stmt:=inClass (top 29) 0
abbrev CN:Stmt:=top 30
abbrev EM:Stmt:=top 31
abbrev Cp:Stmt:=top 32
abbrev BW:Stmt:=top 33
abbrev DU:Stmt:=top 34
abbrev AX:Stmt:=inClass (top 35) 0
abbrev AU:Stmt:=inClass (top 35) 1
abbrev AO:Stmt:=inClass (top 35) 2
abbrev RP:Stmt:=top 37
abbrev RQ:Stmt:=top 39
abbrev Zk:Stmt:=top 40
abbrev Jg:Stmt:=top 43
abbrev Hl:Stmt:=top 44
abbrev EN:Stmt:=top 45
abbrev DV:Stmt:=top 46
abbrev Ca:Stmt:=top 49
abbrev BP:Stmt:=top 50
abbrev BQ:Stmt:=top 51
abbrev BA:Stmt:=top 52
abbrev Ct:Stmt:=top 53
abbrev Dr:Stmt:=top 54
abbrev Mv:Stmt:=top 55
abbrev CZ:Stmt:=top 56
abbrev Cu:Stmt:=top 57
abbrev Jh:Stmt:=top 58
open KM
open KS
section
variable {Pr:Program}{w:World}{K:W.Frag}{mg:Str->Option Value}{base:Heap}
noncomputable def RT (K:W.Frag):Sp:=λvs H Q _=>∃ (a:Addr) (ns:List Int) (k:Int),vs=[.ref a,.int k]/\AG K H a (ns.map V.int)/\∀ n,Q (.int n) H
theorem Zl:Ai Ij Ij (A5 RQ):=nofun
theorem Vw (F:Cd K "_law_cell" "_law_cell" RQ f fd)(Mw:mg "len"=none):Aq Pr w K mg base B5 1 f fd Ij (RT K):=by
 refine F.ok Zl (λvs H Q E h=>?_) (λBf A outer s H vs Q E hr h=>?_)
 ·obtain ⟨a,ns,k,rfl,_⟩:=h;rfl
 ·obtain ⟨a,ns,k,rfl,hs,q⟩:=h;refine ⟨_,EV (X5 (K5 (pv 0) (λ_=>rfl)) (Gg (IZ (Xd AE (pv 0) (Dv AB (pv 1) (Ka Bl (by rfl) Mw PySem.boot_len (Gj (pv 0) LQ))) Cm))) Nq) (Gg (IZ D5)),?_⟩;refine ⟨_,rfl,!(ns.map V.int).isEmpty,.inl ⟨_,hs,rfl⟩,?_⟩;cases ns with
  | nil=>exact Ce (q _)
  | cons n ns =>
   refine C5 ?_;have Ji:(0:Int) < (((n::ns).map V.int).length:Nat):=(by simp);refine ⟨_,rfl,_,rfl,_,rfl,a,_,rfl,.inl hs,_,_,rfl,rfl,Ji,?_⟩;obtain ⟨v,hv,hm⟩:=Rv (xs:=(n::ns).map V.int) (i:=k % (((n::ns).map V.int).length:Int)) (Int.emod_nonneg _ ()) (Int.emod_lt_of_pos _ Ji);obtain ⟨z,_,rfl⟩:=List.mem_map.mp hm;exact ⟨a,_,_,_,rfl,rfl,hs,hv,q z⟩
noncomputable def Dx (K:W.Frag):Sp:=λvs H Q _=>∃ (a:Addr) (ns:List Int) (k:Int),vs=[.ref a,.int k]/\AG K H a (ns.map V.int)/\∀ n,0<=n->Q (.int n) H
theorem RU:Ai ["_law_script","_law_k","_law_number"] Ij (A5 Zk):=nofun
theorem Zm (F:Cd K "_law_mix" "_law_mix" Zk f fd)(G:Aq Pr w K mg base B5 1 fC vM Ij (RT K))(kC:W.keepIn K (.ref fC)=true)(bC:Binds K vM Ij [])(mC:mg "_law_cell"=some (.ref fC)):Aq Pr w K mg base B5 2 f fd Ij (Dx K):=by
 refine F.ok RU (λvs H Q E h=>?_) (λBf A outer s H vs Q E hr h=>?_)
 ·obtain ⟨a,ns,k,rfl,_⟩:=h;rfl
 ·obtain ⟨a,ns,k,rfl,hs,q⟩:=h;refine ⟨_,EV (LH (i:=2) RU.nd rfl (.inl rfl) (Dv AB (Dv AH (NB G hr rfl mC kC bC .nil F0 (Gj (pv 0) (Gj (pv 1) LQ))) (Dv B1 D5 (Dv AH (pv 1) D5))) D5))
   (EV (LH (i:=2) RU.nd rfl (.inl rfl) (Dv AB (Dv B1 (pv 2) D5) D5))
   (Gg (IZ (Dv AB (Dv AH (Dv B1 (Dv Br (pv 2) D5) D5) (pv 2)) D5)))),?_⟩
  refine ⟨_,rfl,_,rfl,a,ns,k,rfl,hs,λn=>⟨_,rfl,_,_,rfl,rfl,_,_,rfl,rfl,.inl ⟨⟨⟩,⟨⟩⟩,_,_,rfl,rfl,_,_,rfl,rfl,(by show (0:Int) < 4294967291;decide),?_⟩⟩;refine ⟨_,rfl,_,_,rfl,rfl,.inr ⟨⟨⟩,⟨⟩⟩,_,_,rfl,rfl,(by show (0:Int) < 4294967279;decide),?_⟩;refine ⟨_,rfl,_,_,rfl,rfl,⟨⟨⟩,⟨⟩⟩,_,_,rfl,rfl,.inr ⟨⟨⟩,⟨⟩⟩,_,rfl,_,_,rfl,rfl,_,_,rfl,rfl,(by show (0:Int) < 4294967231;decide),?_⟩;exact q _ (Int.emod_nonneg _ ⟨⟩)
end
open KX
section
variable {Pr:Program}{w:World}{K:W.Frag}{mg:Str->Option Value}{base:Heap}
noncomputable def NV:Sp:=λvs H Q _=>∃ m:Int,vs=[.int m]/\∀ i H',A9 H H'->Q (.int i) H'
theorem Xn:Ai ["_law_number","_law_some"] ["_law_number"] (A5 EN):=nofun
theorem Zn (F:Cd K "_law_int" "_law_int" EN f fd):Aq Pr w K mg base B5 1 f fd ["_law_number"] NV:=by
 refine F.okS Xn (λvs H Q E h=>?_) (λBf A outer s H vs Q E hr h=>?_)
 ·obtain ⟨m,rfl,_⟩:=h;rfl
 ·obtain ⟨m,rfl,q⟩:=h;refine ⟨_,(A3 (Al (i:=1) Xn.nd rfl (.inl rfl) (Bi (A1 A7 (A1 A7 (A1 (Ky DD A7) (A1 A7 (A1 A7 (A1 (Am Cn (Am QJ A7 A7) A7) (A1 (Am Cn A7 (Am QJ A7 A7)) (A1 (Am AB (Aa 0) A7) A2))))))))))
   (Ac (Ak (Bj (r:=C4 K) AE (Aa 1) (Am AB (Am Br (Aa 0) A7) A7) Cm)))),?_⟩
  left;intros l H2 s2 e2;apply Cs (AG.of e2) (Int.emod_nonneg _ ⟨⟩) (Int.emod_lt_of_pos _ ⟨⟩) λv hv=>?_;simp only [List.mem_cons,List.not_mem_nil,or_false] at hv;rcases hv with rfl | rfl | rfl | rfl | rfl | rfl | rfl | rfl <;> exact q _ _ s2
noncomputable def Hn:Sp:=λvs H Q _=>∃ m:Int,vs=[.int m]/\∀ x H',A9 H H'->Q (.str x) H'
theorem Zo:Ai ["_law_number"] ["_law_number"] (A5 DV):=nofun
theorem Vx (F:Cd K "_law_name" "_law_name" DV f fd):Aq Pr w K mg base B5 1 f fd ["_law_number"] Hn:=by
 refine F.okS Zo (λvs H Q E h=>?_) (λBf A outer s H vs Q E hr h=>?_)
 ·obtain ⟨m,rfl,_⟩:=h;rfl
 ·obtain ⟨m,rfl,q⟩:=h;refine ⟨_,(Ac (Ak (Bj (r:=C4 K) AE (Bi (A1 Ab (A1 Ab (A1 Ab (A1 Ab (A1 Ab A2)))))) (Am AB (Aa 0) A7) Cm))),?_⟩;left;intros l H2 s2 e2;apply Cs (AG.of e2) (Int.emod_nonneg _ ⟨⟩) (Int.emod_lt_of_pos _ ⟨⟩) λv hv=>?_;simp only [List.mem_cons,List.not_mem_nil,or_false] at hv;rcases hv with rfl | rfl | rfl | rfl | rfl <;> exact q _ _ s2
noncomputable def Kz:Kd->Prop
 | .num | .tru=>True
 | .gap _=>False
 | .ls a=>Kz a
 | .fn a b=>Kz a/\Kz b
 | .pr a b=>Kz a/\Kz b
noncomputable def Di (K:W.Frag)(n:Nat):Sp:=λvs H Q _=>∃ (a:Addr) (ns:List Int) (k:Int) (j:Nat),vs=[.ref a,.int k,.int j]/\j<=n/\AG K H a (ns.map V.int)/\∀ t r H',A9 H H'->B7 H' t r->Kz t->dp t<=j->Q r H'
noncomputable def PL (K:W.Frag):Nat->Sp
 | 0=>Py
 | n+1=>Di K n
theorem Ho:Ai ["_law_script","_law_k","_law_deep","_law_number","_law_word"] ["_law_script","_law_k","_law_deep"] (A5 Ca):=nofun
theorem Hq (F:Cd K "_law_ground" "_law_ground" Ca f fd)(cM:Cl Pr w K mg base 2 "_law_mix" Ij (Dx K))(cG:Cl Pr w K mg base (n+2) "_law_ground" ["_law_script","_law_k","_law_deep"] (PL K n)) :
  Aq Pr w K mg base B5 (n+3) f fd ["_law_script","_law_k","_law_deep"] (Di K n):=by
 refine F.okS Ho (λvs H Q E h=>?_) (λBf A outer s H vs Q E hr h=>?_)
 ·obtain ⟨a,ns,k,j,rfl,_⟩:=h;rfl
 ·obtain ⟨a,ns,k,j,rfl,hj,hs,q⟩:=h;have G0:Ar 2 _:=hr.mono ();refine ⟨_,(A3 (Al (i:=3) Ho.nd rfl (.inl rfl) (Ay cM G0 rfl (A1 (Aa 0) (A1 (Aa 1) A2))))
   (A3 (AS (Kn (w_or (Ao AA (Aa 2) A7 (Ag _)) (FY (Ao GL (Am AB (Aa 3) A7) A7 (Ag _))))) (Ac (Ak (Bj (r:=C4 K) AE (Bi (A1 (Ah (A1 Ab A2)) (A1 (Ah (A1 Ab A2)) A2))) (Am AB (Am Br (Aa 3) A7) A7) Cm))) Ax)
   (A3 (AS (Ao AA (Am AB (Aa 3) A7) A7 (Ag _)) (Ac (Ak (Ah (A1 Ab (A1 (Ay cG hr rfl (A1 (Aa 0) (A1 (Am AH (Am B1 A7 (Aa 1)) A7) (A1 (Am Cn (Aa 2) A7) A2)))) A2))))) Ax)
   (A3 (Al (i:=4) Ho.nd rfl (.inl rfl) (Bj (r:=C4 K) AE (Bi (A1 Ab (A1 Ab A2))) (Am AB (Aa 3) A7) Cm))
   (Ac (Ak (Ah (A1 (Aa 4) (A1 (Ay cG hr rfl (A1 (Aa 0) (A1 (Am AH (Am B1 A7 (Aa 1)) A7) (A1 (Am Cn (Aa 2) A7) A2)))) (A1 (Ay cG hr rfl (A1 (Aa 0) (A1 (Am AH (Am B1 A7 (Aa 1)) A7) (A1 (Am Cn (Aa 2) A7) A2)))) A2)))))))))),?_⟩
  apply ⟨a,ns,k,rfl,hs,λm hm=>?_⟩;apply fS ?_ λh0 leaf=>?_
  ·left;intros p1 H2 s2 e1;left;intros p2 H3 s3 e2;left;intros p3 H4 s4 e3;apply Cs (AG.of e3) (Int.emod_nonneg _ ⟨⟩) (Int.emod_lt_of_pos _ ⟨⟩) λv hv=>?_;have st:=s2.trans (s3.trans s4);simp only [List.mem_cons,List.not_mem_nil,or_false] at hv;rcases hv with rfl | rfl
   ·exact q .num _ _ st ⟨p1,rfl,s4 _ _ (s3 _ _ e1)⟩ trivial (Nat.zero_le _)
   ·exact q .tru _ _ st ⟨p2,rfl,s4 _ _ e2⟩ trivial (Nat.zero_le _)
  ·apply Dz (λ_=>leaf) λ_=>?_;cases j with
   | zero=>exact absurd (decide_eq_true rfl) h0
   | succ j =>
    obtain ⟨n,rfl⟩:∃ m,n=m+1:=⟨n - 1,()⟩;apply Dz (λ_=>?_) λ_=>?_
    ·apply ⟨a,ns,_,j,by rw [Kx],(),hs,λt r H1 s1 ha hg hd=>?_⟩;left;intros p H2 s2 e2;exact q (.ls t) _ _ (s1.trans s2) ⟨p,r,rfl,e2,B7.mono (Ae.of_same s2) ha⟩ hg (by simp only [dp];omega)
    ·left;intros l H1 s1 e1;apply Cs (AG.of e1) (Int.emod_nonneg _ ⟨⟩) (Int.emod_lt_of_pos _ ⟨⟩) λv hv=>?_;apply ⟨a,ns,_,j,by rw [Kx],(),s1.seq hs,λt1 r1 H2 s2 Zp lK Xo=>?_⟩;apply ⟨a,ns,_,j,by rw [Kx],(),(s1.trans s2).seq hs,λt2 r2 H3 s3 fT lM hd2=>?_⟩;left;intros p H4 s4 e4;have st:=s1.trans (s2.trans (s3.trans s4));have k1:=B7.mono (Ae.of_same (s3.trans s4)) Zp;have k2:=B7.mono (Ae.of_same s4) fT;simp only [List.mem_cons,List.not_mem_nil,or_false] at hv;rcases hv with rfl | rfl
     ·exact q (.fn t1 t2) _ _ st ⟨p,r1,r2,rfl,e4,k1,k2⟩ ⟨lK,lM⟩ (by simp only [dp];omega)
     ·exact q (.pr t1 t2) _ _ st ⟨p,r1,r2,rfl,e4,k1,k2⟩ ⟨lK,lM⟩ (by simp only [dp];omega)
theorem IG {f:Addr}{fd:FuncData}(DG:Df K mg "_law_ground" Ca ["_law_script","_law_k","_law_deep"] f fd)(cM:Cl Pr w K mg base 2 "_law_mix" Ij (Dx K)):
  ∀ n,Cl Pr w K mg base (n+3) "_law_ground" ["_law_script","_law_k","_law_deep"] (Di K n)
 | 0=>DG.cl (Hq (n:=0) DG.F cM (DG.cl Kp))
 | n+1=>DG.cl (Hq (n:=n+1) DG.F cM (IG DG cM n))
end
end K
namespace KX
open PySem
abbrev Su:=Str->Option Ex
noncomputable def Su.rm (σ:Su)(x:Str):Su:=λy=>if y=x then none else σ y
noncomputable def Su.one (x:Str)(v:Ex):Su:=λy=>if y=x then some v else none
noncomputable def Su.or (σ τ:Su):Su:=λy=>match σ y with | some v=>some v | none=>τ y
namespace Ex
noncomputable def sub (σ:Su):Ex->Ex
 | nm x=>(σ x).getD (nm x)
 | num i=>num i | tru b=>tru b | emp=>emp
 | fn x b=>fn x (sub (σ.rm x) b) | rc f x b=>rc f x (sub ((σ.rm f).rm x) b) | cal a b=>cal (sub σ a) (sub σ b) | lt x a b=>lt x (sub σ a) (sub (σ.rm x) b)
 | wh a b c=>wh (sub σ a) (sub σ b) (sub σ c) | pr a b=>pr (sub σ a) (sub σ b) | opn a x y b=>opn (sub σ a) x y (sub ((σ.rm x).rm y) b) | lk a b=>lk (sub σ a) (sub σ b)
 | spl a b x y c=>spl (sub σ a) (sub σ b) x y (sub ((σ.rm x).rm y) c) | op o a b=>op o (sub σ a) (sub σ b)
noncomputable def isV:Ex->Bool
 | num _ | tru _ | emp | fn _ _ | rc _ _ _=>true
 | pr a b | lk a b=>isV a && isV b
 | _=>false
end Ex
open Ex
theorem KA (σ τ:Su)(x:Str):(σ.or τ).rm x=(σ.rm x).or (τ.rm x):=by
 funext y
 simp only [Su.or,Su.rm];by_cases h:y=x <;> simp [h]
theorem BX {σ:Su}{xs:List Str}(x:Str)(h:∀ y∈xs,σ y=none):∀ y∈x::xs,σ.rm x y=none:=by
 intro y hy;simp only [Su.rm];by_cases e:y=x
 ·simp [e]
 ·simp only [e,if_false];exact h y ((List.mem_cons.mp hy).resolve_left e)
theorem Zq:∀ {xs:List Str} {σ:Su},e.cl xs->(∀ x∈xs,σ x=none)->sub σ e=e:=by
 induction e with
 | nm x=>intro xs σ h q;simp [sub,q x h]
 | num _ | tru _ | emp=>intros;rfl
 | fn x b ih=>intro xs σ h q;simp only [sub];rw [ih h (BX x q)]
 | rc f x b ih=>intro xs σ h q;simp only [sub];rw [ih h (BX x (BX f q))]
 | cal a b ia ib | pr a b ia ib | lk a b ia ib=>intro xs σ h q;simp only [sub];rw [ia h.1 q,ib h.2 q]
 | op o a b ia ib=>intro xs σ h q;simp only [sub];rw [ia h.1 q,ib h.2 q]
 | lt x a b ia ib=>intro xs σ h q;simp only [sub];rw [ia h.1 q,ib h.2 (BX x q)]
 | wh a b c ia ib ic=>intro xs σ h q;simp only [sub];rw [ia h.1 q,ib h.2.1 q,ic h.2.2 q]
 | opn a x y b ia ib=>intro xs σ h q;simp only [sub];rw [ia h.1 q,ib h.2 (BX y (BX x q))]
 | spl a b x y c ia ib ic=>intro xs σ h q;simp only [sub];rw [ia h.1 q,ib h.2.1 q,ic h.2.2 (BX y (BX x q))]
theorem NW (h:v.cl [])(σ:Su):sub σ v=v:=Zq h λ_ z=>by cases z
noncomputable def Su.Cl (σ:Su):Prop:=∀ x v,σ x=some v->v.cl []
theorem Su.Cl.rm {σ:Su}(h:σ.Cl)(x:Str):(σ.rm x).Cl:=by
 intro y v e;simp only [Su.rm] at e;by_cases q:y=x
 ·simp [q] at e
 ·simp only [q,if_false] at e;exact h y v e
theorem sub_sub:∀ {σ τ:Su},σ.Cl->sub τ (sub σ e)=sub (σ.or τ) e:=by
 induction e with
 | nm x =>
  intro σ τ h;simp only [sub,Su.or];cases q:σ x with
  | none=>simp [sub]
  | some v=>simp only [Option.getD_some];exact NW (h x v q) τ
 | num _ | tru _ | emp=>intros;rfl
 | fn x b ih=>intro σ τ h;simp only [sub,KA];rw [ih (h.rm x)]
 | rc f x b ih=>intro σ τ h;simp only [sub,KA];rw [ih ((h.rm f).rm x)]
 | cal a b ia ib | pr a b ia ib | lk a b ia ib=>intro σ τ h;simp only [sub];rw [ia h,ib h]
 | op o a b ia ib=>intro σ τ h;simp only [sub];rw [ia h,ib h]
 | lt x a b ia ib=>intro σ τ h;simp only [sub,KA];rw [ia h,ib (h.rm x)]
 | wh a b c ia ib ic=>intro σ τ h;simp only [sub];rw [ia h,ib h,ic h]
 | opn a x y b ia ib=>intro σ τ h;simp only [sub,KA];rw [ia h,ib ((h.rm x).rm y)]
 | spl a b x y c ia ib ic=>intro σ τ h;simp only [sub,KA];rw [ia h,ib h,ic ((h.rm x).rm y)]
theorem Mx:∀ {xs ys:List Str} {σ:Su},σ.Cl->(∀ x∈xs,(σ x).isSome\/x∈ys)->e.cl xs->(sub σ e).cl ys:=by
 have c1:∀ {xs ys:List Str} {σ:Su} (z:Str),(∀ x∈xs,(σ x).isSome\/x∈ys)->∀ x∈z::xs,((σ.rm z) x).isSome\/x∈z::ys:=by
  intro xs ys σ z h x hx;by_cases e:x=z
  ·exact .inr (e▸List.mem_cons_self ..)
  ·rcases h x ((List.mem_cons.mp hx).resolve_left e) with a | a
   ·refine .inl ?_;simp only [Su.rm,e,if_false];exact a
   ·exact .inr (List.mem_cons_of_mem _ a)
 induction e with
 | nm x =>
  intro xs ys σ h q c;simp only [sub];cases e:σ x with
  | none =>
   rcases q x c with a | a
   ·simp [e] at a
   ·exact a
  | some v=>simp only [Option.getD_some];exact cl.mono (λ_ z=>by cases z) (h x v e)
 | num _ | tru _ | emp=>intros;trivial
 | fn x b ih=>intro xs ys σ h q c;exact ih (h.rm x) (c1 x q) c
 | rc f x b ih=>intro xs ys σ h q c;exact ih ((h.rm f).rm x) (c1 x (c1 f q)) c
 | cal a b ia ib | pr a b ia ib | lk a b ia ib=>intro xs ys σ h q c;exact ⟨ia h q c.1,ib h q c.2⟩
 | op o a b ia ib=>intro xs ys σ h q c;exact ⟨ia h q c.1,ib h q c.2⟩
 | lt x a b ia ib=>intro xs ys σ h q c;exact ⟨ia h q c.1,ib (h.rm x) (c1 x q) c.2⟩
 | wh a b c ia ib ic=>intro xs ys σ h q c;exact ⟨ia h q c.1,ib h q c.2.1,ic h q c.2.2⟩
 | opn a x y b ia ib=>intro xs ys σ h q c;exact ⟨ia h q c.1,ib ((h.rm x).rm y) (c1 y (c1 x q)) c.2⟩
 | spl a b x y c ia ib ic=>intro xs ys σ h q c;exact ⟨ia h q c.1,ib h q c.2.1,ic ((h.rm x).rm y) (c1 y (c1 x q)) c.2.2⟩
theorem Vy:∀ {σ:Su},(∀ x v,σ x=some v->v.opk)->e.opk->(sub σ e).opk:=by
 have r1:∀ {σ:Su} (z:Str),(∀ x v,σ x=some v->v.opk)->∀ x v,σ.rm z x=some v->v.opk:=by
  intro σ z h x v e;simp only [Su.rm] at e;by_cases q:x=z
  ·simp [q] at e
  ·simp only [q,if_false] at e;exact h x v e
 induction e with
 | nm x=>intro σ h c;simp only [sub];cases e:σ x with
  | none=>trivial
  | some v=>exact h x v e
 | num _ | tru _ | emp=>intros;trivial
 | fn x b ih=>intro σ h c;exact ih (r1 x h) c
 | rc f x b ih=>intro σ h c;exact ih (r1 x (r1 f h)) c
 | cal a b ia ib | pr a b ia ib | lk a b ia ib=>intro σ h c;exact ⟨ia h c.1,ib h c.2⟩
 | op o a b ia ib=>intro σ h c;exact ⟨c.1,ia h c.2.1,ib h c.2.2⟩
 | lt x a b ia ib=>intro σ h c;exact ⟨ia h c.1,ib (r1 x h) c.2⟩
 | wh a b c ia ib ic=>intro σ h c;exact ⟨ia h c.1,ib h c.2.1,ic h c.2.2⟩
 | opn a x y b ia ib=>intro σ h c;exact ⟨ia h c.1,ib (r1 y (r1 x h)) c.2⟩
 | spl a b x y c ia ib ic=>intro σ h c;exact ⟨ia h c.1,ib h c.2.1,ic (r1 y (r1 x h)) c.2.2⟩
noncomputable def give (x:Str)(v e:Ex):Ex:=sub (Su.one x v) e
noncomputable def aaf (x y:Str)(v w e:Ex):Ex:=give x v (give y w e)
noncomputable def opV (o:Str)(i j:Int):Ex :=
 if o="plus" then .num (i+j) else if o="minus" then .num (i - j) else if o="less" then .tru (decide (i < j)) else .tru (decide (i=j))
noncomputable def red:Ex->Option (Ex × Bool)
 | cal (fn x b) v=>some (give x v b,true)
 | cal (rc f x b) v=>some (aaf f x (rc f x b) v b,true)
 | lt x v b=>some (give x v b,false)
 | wh (tru c) a b=>some (if c then a else b,false)
 | opn (pr v w) x y b=>some (aaf x y v w b,false)
 | spl emp a _ _ _=>some (a,false)
 | spl (lk v w) _ x y c=>some (aaf x y v w c,false)
 | op o (num i) (num j)=>some (opV o i j,false)
 | _=>none
noncomputable def II (C:Ex->Ex):Option (Ex × Bool)->Option (Ex × Bool)
 | some (e,b)=>some (C e,b)
 | none=>none
noncomputable def stp:Ex->Option (Ex × Bool)
 | cal a b=>if isV a then (if isV b then red (cal a b) else II (cal a) (stp b)) else II (λz=>cal z b) (stp a)
 | pr a b=>if isV a then (if isV b then none else II (pr a) (stp b)) else II (λz=>pr z b) (stp a)
 | lk a b=>if isV a then (if isV b then none else II (lk a) (stp b)) else II (λz=>lk z b) (stp a)
 | op o a b=>if isV a then (if isV b then red (op o a b) else II (op o a) (stp b)) else II (λz=>op o z b) (stp a)
 | lt x a b=>if isV a then red (lt x a b) else II (λz=>lt x z b) (stp a)
 | wh a b c=>if isV a then red (wh a b c) else II (λz=>wh z b c) (stp a)
 | opn a x y b=>if isV a then red (opn a x y b) else II (λz=>opn z x y b) (stp a)
 | spl a b x y c=>if isV a then red (spl a b x y c) else II (λz=>spl z b x y c) (stp a)
 | _=>none
abbrev Dn:=Str->Nat
noncomputable def Dn.up (ρ:Dn)(x:Str)(n:Nat):Dn:=λy=>if y=x then n else ρ y
noncomputable def dz:Dn:=λ_=>0
noncomputable def dep (ρ:Dn):Ex->Nat
 | nm x=>ρ x
 | num _ | tru _ | emp=>0
 | fn x b=>1+dep (ρ.up x 0) b | rc f x b=>1+dep ((ρ.up f 0).up x 0) b | cal a b=>1+max (dep ρ a) (dep ρ b) | lt x a b=>1+max (dep ρ a) (dep (ρ.up x (dep ρ a)) b)
 | wh a b c=>1+max (dep ρ a) (max (dep ρ b) (dep ρ c)) | pr a b=>1+max (dep ρ a) (dep ρ b) | opn a x y b=>1+max (dep ρ a) (dep ((ρ.up x (dep ρ a)).up y (dep ρ a)) b) | lk a b=>1+max (dep ρ a) (dep ρ b)
 | spl a b x y c=>1+max (dep ρ a) (max (dep ρ b) (dep ((ρ.up x (dep ρ a)).up y (dep ρ a)) c)) | op o a b=>1+max (dep ρ a) (dep ρ b)
theorem By {ρ ρ':Dn}{d n n':Nat}(x:Str)(h:∀ y,ρ' y<=ρ y+d)(hn:n'<=n+d):∀ y,ρ'.up x n' y<=ρ.up x n y+d:=by
 intro y;simp only [Dn.up];by_cases e:y=x
 ·simp only [e,if_true];exact hn
 ·simp only [e,if_false];exact h y
theorem m1 (h:x'<=x+d):1+x'<=1+x+d:=by omega
theorem m2 (h1:x'<=x+d)(h2:y'<=y+d):1+max x' y'<=1+max x y+d:=by omega
theorem m3 (h1:x'<=x+d)(h2:y'<=y+d)(h3:z'<=z+d):1+max x' (max y' z')<=1+max x (max y z)+d:=by omega
theorem m4 (h1:a<=n+d)(h2:b<=m+(n+d)):1+max a b<=1+n+m+d:=by omega
theorem m5 (h1:a<=n+d)(h2:b<=m+d)(h3:c<=l+(n+d)):1+max a (max b c)<=1+max m (n+l)+d:=by omega
theorem l1 (h:1+a<=m):a<=m:=by omega
theorem l2 (h:1+max a b<=m):a<=m/\b<=m:=by omega
theorem l3 (h:1+max a (max b c)<=m):a<=m/\b<=m/\c<=m:=by omega
theorem E9:∀ {ρ ρ':Dn} {d:Nat},(∀ y,ρ' y<=ρ y+d)->dep ρ' e<=dep ρ e+d:=by
 induction e with
 | nm x=>intro ρ ρ' d h;exact h x
 | num _ | tru _ | emp=>intros;exact Nat.zero_le _
 | fn x b ih=>intro ρ ρ' d h;exact m1 (ih (By (n:=0) (n':=0) x h (Nat.zero_le _)))
 | rc f x b ih=>intro ρ ρ' d h;exact m1 (ih (By (n:=0) (n':=0) x (By (n:=0) (n':=0) f h (Nat.zero_le _)) (Nat.zero_le _)))
 | cal a b ia ib | pr a b ia ib | lk a b ia ib=>intro ρ ρ' d h;exact m2 (ia h) (ib h)
 | op o a b ia ib=>intro ρ ρ' d h;exact m2 (ia h) (ib h)
 | lt x a b ia ib=>intro ρ ρ' d h;exact m2 (ia h) (ib (By x h (ia h)))
 | wh a b c ia ib ic=>intro ρ ρ' d h;exact m3 (ia h) (ib h) (ic h)
 | opn a x y b ia ib=>intro ρ ρ' d h;exact m2 (ia h) (ib (By y (By x h (ia h)) (ia h)))
 | spl a b x y c ia ib ic=>intro ρ ρ' d h;exact m3 (ia h) (ib h) (ic (By y (By x h (ia h)) (ia h)))
theorem RW (h:∀ y,ρ' y<=ρ y):dep ρ' e<=dep ρ e:=E9 (d:=0) h
theorem up_eq {ρ ρ':Dn}{xs:List Str}{n:Nat}(x:Str)(h:∀ y∈xs,ρ y=ρ' y):∀ y∈x::xs,ρ.up x n y=ρ'.up x n y:=by
 intro y hy;simp only [Dn.up];by_cases e:y=x
 ·simp [e]
 ·simp only [e,if_false];exact h y ((List.mem_cons.mp hy).resolve_left e)
theorem Zr:∀ {xs:List Str} {ρ ρ':Dn},e.cl xs->(∀ y∈xs,ρ y=ρ' y)->dep ρ e=dep ρ' e:=by
 induction e with
 | nm x=>intro xs ρ ρ' c h;exact h x c
 | num _ | tru _ | emp=>intros;rfl
 | fn x b ih=>intro xs ρ ρ' c h;simp only [dep];rw [ih c (up_eq x h)]
 | rc f x b ih=>intro xs ρ ρ' c h;simp only [dep];rw [ih c (up_eq x (up_eq f h))]
 | cal a b ia ib | pr a b ia ib | lk a b ia ib=>intro xs ρ ρ' c h;simp only [dep];rw [ia c.1 h,ib c.2 h]
 | op o a b ia ib=>intro xs ρ ρ' c h;simp only [dep];rw [ia c.1 h,ib c.2 h]
 | lt x a b ia ib=>intro xs ρ ρ' c h;simp only [dep];rw [ia c.1 h,ib c.2 (up_eq x h)]
 | wh a b c ia ib ic=>intro xs ρ ρ' c h;simp only [dep];rw [ia c.1 h,ib c.2.1 h,ic c.2.2 h]
 | opn a x y b ia ib=>intro xs ρ ρ' c h;simp only [dep];rw [ia c.1 h,ib c.2 (up_eq y (up_eq x h))]
 | spl a b x y c ia ib ic=>intro xs ρ ρ' c h;simp only [dep];rw [ia c.1 h,ib c.2.1 h,ic c.2.2 (up_eq y (up_eq x h))]
theorem NX (h:e.cl [])(ρ:Dn):dep ρ e=dep dz e:=Zr h λ_ z=>by cases z
noncomputable def Su.dn (σ:Su)(ρ:Dn):Dn:=λy=>match σ y with | some v=>dep dz v | none=>ρ y
theorem G3 (σ:Su)(ρ:Dn)(x:Str)(n:Nat):(σ.rm x).dn (ρ.up x n)=(σ.dn ρ).up x n:=by
 funext y
 simp only [Su.dn,Su.rm,Dn.up];by_cases e:y=x <;> simp [e]
theorem Jj:∀ {σ:Su} {ρ:Dn},σ.Cl->dep ρ (sub σ e)=dep (σ.dn ρ) e:=by
 induction e with
 | nm x =>
  intro σ ρ h;simp only [sub,dep,Su.dn];cases q:σ x with
  | none=>simp [dep]
  | some v=>simp only [Option.getD_some];exact NX (h x v q) ρ
 | num _ | tru _ | emp=>intros;rfl
 | fn x b ih=>intro σ ρ h;simp only [sub,dep];rw [ih (h.rm x),G3]
 | rc f x b ih=>intro σ ρ h;simp only [sub,dep];rw [ih ((h.rm f).rm x),G3,G3]
 | cal a b ia ib | pr a b ia ib | lk a b ia ib=>intro σ ρ h;simp only [sub,dep];rw [ia h,ib h]
 | op o a b ia ib=>intro σ ρ h;simp only [sub,dep];rw [ia h,ib h]
 | lt x a b ia ib=>intro σ ρ h;simp only [sub,dep];rw [ia h,ib (h.rm x),G3]
 | wh a b c ia ib ic=>intro σ ρ h;simp only [sub,dep];rw [ia h,ib h,ic h]
 | opn a x y b ia ib=>intro σ ρ h;simp only [sub,dep];rw [ia h,ib ((h.rm x).rm y),G3,G3]
 | spl a b x y c ia ib ic=>intro σ ρ h;simp only [sub,dep];rw [ia h,ib h,ic ((h.rm x).rm y),G3,G3]
inductive Kb (k:Nat):Ex->Nat->Prop
 | nm (x:Str):Kb k (.nm x) 0
 | num (i:Int):Kb k (.num i) 0
 | tru (b:Bool):Kb k (.tru b) 0
 | emp:Kb k .emp 0
 | fn {x:Str} {b:Ex} {n:Nat}:Kb k b n->n<=k->Kb k (.fn x b) (1+n)
 | rc {f x:Str} {b:Ex} {n:Nat}:Kb k b n->n<=k->Kb k (.rc f x b) (1+n)
 | cal {a b:Ex} {n m:Nat}:Kb k a n->Kb k b m->Kb k (.cal a b) (1+max n m)
 | lt {x:Str} {a b:Ex} {n m:Nat}:Kb k a n->Kb k b m->Kb k (.lt x a b) (1+n+m)
 | wh {a b c:Ex} {n m l:Nat}:Kb k a n->Kb k b m->Kb k c l->Kb k (.wh a b c) (1+max n (max m l))
 | pr {a b:Ex} {n m:Nat}:Kb k a n->Kb k b m->Kb k (.pr a b) (1+max n m)
 | opn {x y:Str} {a b:Ex} {n m:Nat}:Kb k a n->Kb k b m->Kb k (.opn a x y b) (1+n+m)
 | lk {a b:Ex} {n m:Nat}:Kb k a n->Kb k b m->Kb k (.lk a b) (1+max n m)
 | spl {x y:Str} {a b c:Ex} {n m l:Nat}:Kb k a n->Kb k b m->Kb k c l->Kb k (.spl a b x y c) (1+max m (n+l))
 | op {o:Str} {a b:Ex} {n m:Nat}:Kb k a n->Kb k b m->Kb k (.op o a b) (1+max n m)
 | zero {v:Ex} {n:Nat}:v.cl []->isV v=true->Kb k v n->Kb k v 0
theorem BY {ρ:Dn}{m n:Nat}(x:Str)(h:∀ y,ρ y<=m)(hn:n<=m):∀ y,ρ.up x n y<=m:=by
 intro y;simp only [Dn.up];by_cases e:y=x
 ·simp only [e,if_true];exact hn
 ·simp only [e,if_false];exact h y
theorem NY (x:Str):dz.up x 0=dz:=by funext y;simp [Dn.up,dz]
theorem fU (ρ:Dn):∀ y,dz y<=ρ y:=λ_=>Nat.zero_le _
theorem RX (h:KX.dep ρ b<=m):KX.dep dz b<=m:=Nat.le_trans (RW (fU _)) h
theorem Kb.dep (K:Kb k e n):∀ {ρ:Dn} {m:Nat},(∀ y,ρ y<=m)->dep dz e<=m->KX.dep ρ e<=n+m:=by
 have up:∀ {ρ:Dn} {m:Nat} (n:Nat),(∀ y,ρ y<=m)->∀ y,ρ y<=n+m:=λn h y=>Nat.le_trans (h y) (Nat.le_add_left _ _);have pK:∀ {a m:Nat} (n:Nat),a<=m->a<=n+m:=λn h=>Nat.le_trans h (Nat.le_add_left _ _)
 induction K with
 | nm x=>intro ρ m h _;exact Nat.le_trans (h x) (Nat.le_add_left _ _)
 | num _ | tru _ | emp=>intros;simp only [KX.dep];exact Nat.zero_le _
 | @fn x _ _ _ _ ih=>intro ρ m h q;simp only [KX.dep,NY] at q ⊢;exact m1 (ih (BY x h (Nat.zero_le m)) (l1 q))
 | @rc f x _ _ _ _ ih=>intro ρ m h q;simp only [KX.dep,NY] at q ⊢;exact m1 (ih (BY x (BY f h (Nat.zero_le m)) (Nat.zero_le m)) (l1 q))
 | cal _ _ ia ib | pr _ _ ia ib | lk _ _ ia ib | op _ _ ia ib=>intro ρ m h q;simp only [KX.dep] at q ⊢;exact m2 (ia h (l2 q).1) (ib h (l2 q).2)
 | @lt x a b n m' _ _ ia ib =>
  intro ρ m h q;simp only [KX.dep] at q ⊢;have h1:=ia h (l2 q).1;exact m4 h1 (ib (ρ:=ρ.up x (KX.dep ρ a)) (m:=n+m) (BY _ (up n h) h1) (pK n (RX (l2 q).2)))
 | wh _ _ _ ia ib ic=>intro ρ m h q;simp only [KX.dep] at q ⊢;exact m3 (ia h (l3 q).1) (ib h (l3 q).2.1) (ic h (l3 q).2.2)
 | @opn x y a b n m' _ _ ia ib =>
  intro ρ m h q;simp only [KX.dep] at q ⊢;have h1:=ia h (l2 q).1;exact m4 h1 (ib (ρ:=(ρ.up x (KX.dep ρ a)).up y (KX.dep ρ a)) (m:=n+m) (BY _ (BY _ (up n h) h1) h1) (pK n (RX (l2 q).2)))
 | @spl x y a b c n m' l _ _ _ ia ib ic =>
  intro ρ m h q;simp only [KX.dep] at q ⊢;have h1:=ia h (l3 q).1;exact m5 h1 (ib h (l3 q).2.1) (ic (ρ:=(ρ.up x (KX.dep ρ a)).up y (KX.dep ρ a)) (m:=n+m) (BY _ (BY _ (up n h) h1) h1) (pK n (RX (l3 q).2.2)))
 | zero hc _ _ _=>intro ρ m h q;rw [NX hc];exact Nat.le_trans q (Nat.le_add_left _ _)
noncomputable def Zs (k:Nat)(v:Ex):Prop:=v.cl []/\isV v=true/\∃ n,Kb k v n
noncomputable def Su.Ok (k:Nat)(σ:Su):Prop:=∀ x v,σ x=some v->Zs k v
theorem Su.Ok.rm {k:Nat}{σ:Su}(h:σ.Ok k)(x:Str):(σ.rm x).Ok k:=by
 intro y v e;simp only [Su.rm] at e;by_cases q:y=x
 ·simp [q] at e
 ·simp only [q,if_false] at e;exact h y v e
theorem Su.Ok.cl {k:Nat}{σ:Su}(h:σ.Ok k):σ.Cl:=λx v e=>(h x v e).1
theorem Kb.sub (K:Kb k e n):∀ {σ:Su},σ.Ok k->Kb k (sub σ e) n:=by
 induction K with
 | nm x =>
  intro σ h;simp only [Ex.sub];cases q:σ x with
  | none=>exact .nm x
  | some v=>obtain ⟨a,b,n,c⟩:=h x v q;exact .zero a b c
 | num _=>intros;exact .num _
 | tru _=>intros;exact .tru _
 | emp=>intros;exact .emp
 | fn _ hk ih=>intro σ h;exact .fn (ih (h.rm _)) hk
 | rc _ hk ih=>intro σ h;exact .rc (ih ((h.rm _).rm _)) hk
 | cal _ _ ia ib=>intro σ h;exact .cal (ia h) (ib h)
 | pr _ _ ia ib=>intro σ h;exact .pr (ia h) (ib h)
 | lk _ _ ia ib=>intro σ h;exact .lk (ia h) (ib h)
 | op _ _ ia ib=>intro σ h;exact .op (ia h) (ib h)
 | lt _ _ ia ib=>intro σ h;exact .lt (ia h) (ib (h.rm _))
 | wh _ _ _ ia ib ic=>intro σ h;exact .wh (ia h) (ib h) (ic h)
 | opn _ _ ia ib=>intro σ h;exact .opn (ia h) (ib ((h.rm _).rm _))
 | spl _ _ _ ia ib ic=>intro σ h;exact .spl (ia h) (ib h) (ic ((h.rm _).rm _))
 | zero hc hv K _=>intro σ h;rw [NW hc];exact .zero hc hv K
noncomputable def Ex.kds:Ex->List Ex
 | cal a b | pr a b | lk a b | op _ a b | lt _ a b | opn a _ _ b=>[a,b]
 | wh a b c | spl a b _ _ c=>[a,b,c]
 | _=>[]
theorem Kb.kds (K:Kb k e n):∀ a∈e.kds,∃ n,Kb k a n:=by
 have n2:∀ {a b:Ex} {n m:Nat},Kb k a n->Kb k b m->∀ x∈[a,b],∃ n,Kb k x n:=λ{a b n m} h1 h2 x hx=>by
  rcases List.mem_cons.mp hx with rfl | hx
  ·exact ⟨n,h1⟩
  ·rw [List.mem_singleton.mp hx];exact ⟨m,h2⟩
 have n3:∀ {a b c:Ex} {n m l:Nat},Kb k a n->Kb k b m->Kb k c l->∀ x∈[a,b,c],∃ n,Kb k x n:=λ{a b c n m l} h1 h2 h3 x hx=>by
  rcases List.mem_cons.mp hx with rfl | hx
  ·exact ⟨n,h1⟩
  ·exact n2 h2 h3 x hx
 have n0:∀ x∈([]:List Ex),∃ n,Kb k x n:=λx hx=>by cases hx
 induction K with
 | zero _ _ _ ih=>exact ih
 | cal h1 h2=>exact n2 h1 h2
 | pr h1 h2=>exact n2 h1 h2
 | lk h1 h2=>exact n2 h1 h2
 | op h1 h2=>exact n2 h1 h2
 | lt h1 h2=>exact n2 h1 h2
 | opn h1 h2=>exact n2 h1 h2
 | wh h1 h2 h3=>exact n3 h1 h2 h3
 | spl h1 h2 h3=>exact n3 h1 h2 h3
 | nm _=>exact n0
 | num _=>exact n0
 | tru _=>exact n0
 | emp=>exact n0
 | fn _ _=>exact n0
 | rc _ _=>exact n0
theorem Kb.two {k:Nat}{a b e:Ex}{n:Nat}(K:Kb k e n)(h:e.kds=[a,b]):(∃ n,Kb k a n)/\∃ n,Kb k b n:=⟨K.kds a (h▸.head _),K.kds b (h▸.tail _ (.head _))⟩
theorem Kb.three (K:Kb k e n)(h:e.kds=[a,b,c]):(∃ n,Kb k a n)/\(∃ n,Kb k b n)/\∃ n,Kb k c n:=⟨K.kds a (h▸.head _),K.kds b (h▸.tail _ (.head _)),K.kds c (h▸.tail _ (.tail _ (.head _)))⟩
theorem Kb.body (K:Kb k e n):((∃ x,e=.fn x b)\/∃ f x,e=.rc f x b)->∃ n,n<=k/\Kb k b n:=by
 induction K with
 | zero _ _ _ ih=>exact ih
 | fn h1 hk=>rintro (⟨_,h⟩ | ⟨_,_,h⟩) <;> cases h <;> exact ⟨_,hk,h1⟩
 | rc h1 hk=>rintro (⟨_,h⟩ | ⟨_,_,h⟩) <;> cases h <;> exact ⟨_,hk,h1⟩
 | _=>rintro (⟨_,h⟩ | ⟨_,_,h⟩) <;> cases h
structure Tr (k:Nat)(e:Ex):Prop where
 cl:e.cl []
 op:e.opk
 kb:∃ n,Kb k e n
theorem My (x:Str)(h:Zs k v):(Su.one x v).Ok k:=by
 intro y w e;simp only [Su.one] at e;by_cases q:y=x
 ·simp only [q,if_true,Option.some.injEq] at e;exact e▸h
 ·simp [q] at e
theorem Xp {k:Nat}{σ τ:Su}(h:σ.Ok k)(g:τ.Ok k):(σ.or τ).Ok k:=by
 intro y w e;simp only [Su.or] at e;cases q:σ y with
 | none=>rw [q] at e;exact g y w e
 | some v=>rw [q] at e;simp only [Option.some.injEq] at e;exact h y w (by rw [q,e])
theorem Mz (x:Str)(v:Ex)(ρ:Dn):(Su.one x v).dn ρ=ρ.up x (dep dz v):=by
 funext y
 simp only [Su.dn,Su.one,Dn.up];by_cases e:y=x <;> simp [e]
theorem fV (σ τ:Su)(ρ:Dn):(σ.or τ).dn ρ=σ.dn (τ.dn ρ):=by
 funext y
 simp only [Su.dn,Su.or];cases σ y <;> rfl
theorem KC (h:w.cl []):aaf x y v w e=sub ((Su.one y w).or (Su.one x v)) e:=by
 unfold aaf give;refine sub_sub λz u e=>?_;simp only [Su.one] at e;by_cases q:z=y
 ·simp only [q,if_true,Option.some.injEq] at e;exact e▸h
 ·simp [q] at e
theorem RY (h:σ.Ok k)(ho:∀ x v,σ x=some v->v.opk)(hx:∀ x∈xs,(σ x).isSome)(c:e.cl xs)(o:e.opk)(K:∃ n,Kb k e n):Tr k (sub σ e) :=
 ⟨Mx h.cl (λx HV=>.inl (hx x HV)) c,Vy ho o,K.elim λn K=>⟨n,K.sub h⟩⟩
theorem MA (x:Str)(h:v.opk):∀ y w,Su.one x v y=some w->w.opk:=by
 intro y w e;simp only [Su.one] at e;by_cases q:y=x
 ·simp only [q,if_true,Option.some.injEq] at e;exact e▸h
 ·simp [q] at e
theorem fW {σ τ:Su}(h:∀ x v,σ x=some v->v.opk)(g:∀ x v,τ x=some v->v.opk):∀ x v,σ.or τ x=some v->v.opk:=by
 intro y w e;simp only [Su.or] at e;cases q:σ y with
 | none=>rw [q] at e;exact g y w e
 | some v=>rw [q] at e;simp only [Option.some.injEq] at e;exact h y w (by rw [q,e])
theorem Hr (x:Str)(v:Ex):(Su.one x v x).isSome:=by simp [Su.one]
theorem pL {σ τ:Su}{x:Str}(h:(σ x).isSome):(σ.or τ x).isSome:=by
 simp only [Su.or];cases q:σ x with
 | none=>simp [q] at h
 | some v=>rfl
theorem pM {σ τ:Su}{x:Str}(h:(τ x).isSome):(σ.or τ x).isSome:=by
 simp only [Su.or];cases q:σ x with
 | none=>exact h
 | some v=>rfl
theorem Zs.of (T:Tr k v)(h:isV v=true):Zs k v:=⟨T.cl,h,T.kb⟩
theorem NZ (T:Tr k v)(hv:isV v=true)(c:b.cl [x])(o:b.opk)(K:∃ n,Kb k b n):Tr k (give x v b)/\dep dz (give x v b)=dep (dz.up x (dep dz v)) b:=by
 have h:=My x (Zs.of T hv);refine ⟨RY h (MA x T.op) (λy hy=>?_) c o K,?_⟩
 ·rw [List.mem_singleton.mp hy];exact Hr x v
 ·unfold give;rw [Jj h.cl,Mz]
theorem Hs (T:Tr k v)(hv:isV v=true)(U:Tr k w)(hw:isV w=true)(c:b.cl [y,x])(o:b.opk)(K:∃ n,Kb k b n):
  Tr k (aaf x y v w b)/\dep dz (aaf x y v w b)=dep ((dz.up x (dep dz v)).up y (dep dz w)) b:=by
 have h1:=My x (Zs.of T hv);have h2:=My y (Zs.of U hw);rw [KC U.cl];refine ⟨RY (Xp h2 h1) (fW (MA y U.op) (MA x T.op)) (λz hz=>?_) c o K,?_⟩
 ·rcases List.mem_cons.mp hz with rfl | hz
  ·exact pL (Hr _ w)
  ·rw [List.mem_singleton.mp hz];exact pM (Hr x v)
 ·rw [Jj (Xp h2 h1).cl,fV,Mz,Mz]
noncomputable def grow (k:Nat)(c:Bool):Nat:=if c then k else 0
inductive Ib:Ex->Ex->Bool->Prop
 | fn (x:Str) (b v:Ex):Ib (.cal (.fn x b) v) (give x v b) true
 | rc (f x:Str) (b v:Ex):Ib (.cal (.rc f x b) v) (aaf f x (.rc f x b) v b) true
 | lt (x:Str) (v b:Ex):Ib (.lt x v b) (give x v b) false
 | wh (d:Bool) (a b:Ex):Ib (.wh (.tru d) a b) (if d=true then a else b) false
 | opn (v w:Ex) (x y:Str) (b:Ex):Ib (.opn (.pr v w) x y b) (aaf x y v w b) false
 | emp (a:Ex) (x y:Str) (b:Ex):Ib (.spl .emp a x y b) a false
 | lk (v w a:Ex) (x y:Str) (b:Ex):Ib (.spl (.lk v w) a x y b) (aaf x y v w b) false
 | op (o:Str) (i j:Int):Ib (.op o (.num i) (.num j)) (opV o i j) false
noncomputable def pN (e:Ex):Option (Ex × Bool)->Prop
 | some p=>Ib e p.1 p.2
 | none=>True
theorem fX (e:Ex):pN e (red e):=by
 cases e with
 | cal a v =>
  cases a with
  | fn x b=>exact .fn x b v
  | rc f x b=>exact .rc f x b v
  | _=>trivial
 | lt x v b=>exact .lt x v b
 | wh a b d =>
  cases a with
  | tru t=>exact .wh t b d
  | _=>trivial
 | opn a x y b =>
  cases a with
  | pr v w=>exact .opn v w x y b
  | _=>trivial
 | spl a b x y d =>
  cases a with
  | emp=>exact .emp _ x y d
  | lk v w=>exact .lk v w b x y d
  | _=>trivial
 | op o a b =>
  cases a with
  | num i =>
   cases b with
   | num j=>exact .op o i j
   | _=>trivial
  | _=>trivial
 | _=>trivial
theorem O0 (h:red e=some (e',c)):Ib e e' c:=by
 have:=fX e;rw [h] at this;exact this
theorem Fz (T:Tr k e)(h:red e=some (e',c))(hr:∀ a b,(e=.cal a b->isV b=true)/\(∀ x,e=.lt x a b->isV a=true)/\(∀ x y,e=.opn a x y b->isV a=true)/\∀ x y d,e=.spl a b x y d->isV a=true):
  Tr k e'/\dep dz e'<=dep dz e+grow k c:=by
 obtain ⟨hc,ho,n,K⟩:=T;cases O0 h with
 | fn x b v =>
  obtain ⟨⟨n1,K1⟩,K2⟩:=K.two rfl;obtain ⟨nb,hn,fY⟩:=K1.body (.inl ⟨x,rfl⟩);have hv:=(hr _ _).1 rfl;obtain ⟨t1,t2⟩:=NZ (x:=x) (b:=b) ⟨hc.2,ho.2,K2⟩ hv hc.1 ho.1 ⟨_,fY⟩;refine ⟨t1,?_⟩;rw [t2];simp only [dep,NY,grow,if_true];have:=fY.dep (ρ:=dz.up x (dep dz v)) (m:=max (1+dep dz b) (dep dz v)) (BY x (λy=>by simp [dz]) ()) ();omega
 | rc f x b v =>
  obtain ⟨K1,K2⟩:=K.two rfl;obtain ⟨n1,z0⟩:=id K1;obtain ⟨nb,hn,fY⟩:=z0.body (.inr ⟨f,x,rfl⟩);have hv:=(hr _ _).1 rfl;obtain ⟨t1,t2⟩:=Hs (x:=f) (y:=x) (v:=.rc f x b) (w:=v) (b:=b) ⟨hc.1,ho.1,K1⟩ rfl ⟨hc.2,ho.2,K2⟩ hv hc.1 ho.1 ⟨_,fY⟩;refine ⟨t1,?_⟩;rw [t2];simp only [dep,NY,grow,if_true];have:=fY.dep (ρ:=(dz.up f (1+dep dz b)).up x (dep dz v)) (m:=max (1+dep dz b) (dep dz v)) (BY x (BY f (λy=>by simp [dz]) ()) ()) ();omega
 | lt x v b =>
  obtain ⟨K1,K2⟩:=K.two rfl;obtain ⟨t1,t2⟩:=NZ (x:=x) (b:=b) ⟨hc.1,ho.1,K1⟩ ((hr _ _).2.1 _ rfl) hc.2 ho.2 K2;refine ⟨t1,?_⟩;rw [t2];simp only [dep];omega
 | wh d a b =>
  obtain ⟨_,K2,K3⟩:=K.three rfl;simp only [dep];cases d
  ·exact ⟨⟨hc.2.2,ho.2.2,K3⟩,by simp;omega⟩
  ·exact ⟨⟨hc.2.1,ho.2.1,K2⟩,by simp;omega⟩
 | opn v w x y b =>
  obtain ⟨K1,K2⟩:=K.two rfl;obtain ⟨n1,K1⟩:=K1;obtain ⟨K3,K4⟩:=K1.two rfl;have hv:=(hr _ _).2.2.1 _ _ rfl;replace hv:=(Bool.and_eq_true _ _).mp hv;obtain ⟨t1,t2⟩:=Hs (x:=x) (y:=y) (b:=b) ⟨hc.1.1,ho.1.1,K3⟩ hv.1 ⟨hc.1.2,ho.1.2,K4⟩ hv.2 hc.2 ho.2 K2;refine ⟨t1,?_⟩;rw [t2];have:dep ((dz.up x (dep dz v)).up y (dep dz w)) b<=dep ((dz.up x (1+max (dep dz v) (dep dz w))).up y (1+max (dep dz v) (dep dz w))) b :=
   E9 (d:=0) (By y (By x (λ_=>Nat.le_refl _) ()) ())
  simp only [dep];omega
 | emp a x y b =>
  obtain ⟨_,K2,_⟩:=K.three rfl;simp only [dep];exact ⟨⟨hc.2.1,ho.2.1,K2⟩,()⟩
 | lk v w a x y b =>
  obtain ⟨K1,_,K2⟩:=K.three rfl;obtain ⟨n1,K1⟩:=K1;obtain ⟨K3,K4⟩:=K1.two rfl;have hv:=(hr _ _).2.2.2 _ _ _ rfl;replace hv:=(Bool.and_eq_true _ _).mp hv;obtain ⟨t1,t2⟩:=Hs (x:=x) (y:=y) (b:=b) ⟨hc.1.1,ho.1.1,K3⟩ hv.1 ⟨hc.1.2,ho.1.2,K4⟩ hv.2 hc.2.2 ho.2.2 K2;refine ⟨t1,?_⟩;rw [t2];have:dep ((dz.up x (dep dz v)).up y (dep dz w)) b<=dep ((dz.up x (1+max (dep dz v) (dep dz w))).up y (1+max (dep dz v) (dep dz w))) b :=
   E9 (d:=0) (By y (By x (λ_=>Nat.le_refl _) ()) ())
  simp only [dep];omega
 | op o i j =>
  simp only [opV];split
  ·exact ⟨⟨trivial,trivial,_,.num _⟩,Nat.zero_le _⟩
  ·split
   ·exact ⟨⟨trivial,trivial,_,.num _⟩,Nat.zero_le _⟩
   ·split <;> exact ⟨⟨trivial,trivial,_,.tru _⟩,Nat.zero_le _⟩
theorem RZ (h:II C o=some (e,c)):∃ a,o=some (a,c)/\e=C a:=by
 cases o with
 | none=>cases h
 | some p=>simp only [II,Option.some.injEq,Prod.mk.injEq] at h;exact ⟨p.1,by rw [<- h.2],h.1.symm⟩
theorem Ic (s:(if isV a=true then X else II C (stp a))=some (e,c)):(isV a=true/\X=some (e,c))\/∃ z,stp a=some (z,c)/\e=C z:=by
 split at s
 ·exact .inl ⟨‹_›,s⟩
 ·exact .inr (RZ s)
theorem KD (s:(if isV a=true then (if isV b=true then X else II D (stp b)) else II C (stp a))=some (e,c)):(isV b=true/\X=some (e,c))\/(∃ z,stp b=some (z,c)/\e=D z)\/∃ z,stp a=some (z,c)/\e=C z:=by
 rcases Ic s with ⟨_,s⟩ | s
 ·rcases Ic s with s | s
  ·exact .inl s
  ·exact .inr (.inl s)
 ·exact .inr (.inr s)
theorem Zt:∀ {e':Ex} {c:Bool},Tr k e->stp e=some (e',c)->Tr k e'/\dep dz e'<=dep dz e+grow k c:=by
 induction e with
 | nm _ | num _ | tru _ | emp | fn _ _ _ | rc _ _ _ _=>intro e' c _ h;cases h
 | cal a b ia ib =>
  intro e' c T h;obtain ⟨hc,ho,n,K⟩:=id T;obtain ⟨K1,K2⟩:=K.two rfl;rcases KD h with ⟨hw,h⟩ | ⟨b',e1,rfl⟩ | ⟨a',e1,rfl⟩
  ·exact Fz T h λa b=>⟨λz=>(by cases z;exact hw),λ_ z=>(by cases z),λ_ _ z=>(by cases z),λ_ _ _ z=>(by cases z)⟩
  ·obtain ⟨⟨t1,t2,n2,t3⟩,t4⟩:=ib ⟨hc.2,ho.2,K2⟩ e1;obtain ⟨n1,K1⟩:=K1;exact ⟨⟨⟨hc.1,t1⟩,⟨ho.1,t2⟩,_,.cal K1 t3⟩,by simp only [dep];omega⟩
  ·obtain ⟨⟨t1,t2,n2,t3⟩,t4⟩:=ia ⟨hc.1,ho.1,K1⟩ e1;obtain ⟨n1,K2⟩:=K2;exact ⟨⟨⟨t1,hc.2⟩,⟨t2,ho.2⟩,_,.cal t3 K2⟩,by simp only [dep];omega⟩
 | pr a b ia ib =>
  intro e' c T h;obtain ⟨hc,ho,n,K⟩:=id T;obtain ⟨K1,K2⟩:=K.two rfl;rcases KD h with ⟨hw,h⟩ | ⟨b',e1,rfl⟩ | ⟨a',e1,rfl⟩
  ·cases h
  ·obtain ⟨⟨t1,t2,n2,t3⟩,t4⟩:=ib ⟨hc.2,ho.2,K2⟩ e1;obtain ⟨n1,K1⟩:=K1;exact ⟨⟨⟨hc.1,t1⟩,⟨ho.1,t2⟩,_,.pr K1 t3⟩,by simp only [dep];omega⟩
  ·obtain ⟨⟨t1,t2,n2,t3⟩,t4⟩:=ia ⟨hc.1,ho.1,K1⟩ e1;obtain ⟨n1,K2⟩:=K2;exact ⟨⟨⟨t1,hc.2⟩,⟨t2,ho.2⟩,_,.pr t3 K2⟩,by simp only [dep];omega⟩
 | lk a b ia ib =>
  intro e' c T h;obtain ⟨hc,ho,n,K⟩:=id T;obtain ⟨K1,K2⟩:=K.two rfl;rcases KD h with ⟨hw,h⟩ | ⟨b',e1,rfl⟩ | ⟨a',e1,rfl⟩
  ·cases h
  ·obtain ⟨⟨t1,t2,n2,t3⟩,t4⟩:=ib ⟨hc.2,ho.2,K2⟩ e1;obtain ⟨n1,K1⟩:=K1;exact ⟨⟨⟨hc.1,t1⟩,⟨ho.1,t2⟩,_,.lk K1 t3⟩,by simp only [dep];omega⟩
  ·obtain ⟨⟨t1,t2,n2,t3⟩,t4⟩:=ia ⟨hc.1,ho.1,K1⟩ e1;obtain ⟨n1,K2⟩:=K2;exact ⟨⟨⟨t1,hc.2⟩,⟨t2,ho.2⟩,_,.lk t3 K2⟩,by simp only [dep];omega⟩
 | op o a b ia ib =>
  intro e' c T h;obtain ⟨hc,ho,n,K⟩:=id T;obtain ⟨K1,K2⟩:=K.two rfl;rcases KD h with ⟨hw,h⟩ | ⟨b',e1,rfl⟩ | ⟨a',e1,rfl⟩
  ·exact Fz T h λa b=>⟨λz=>(by cases z),λ_ z=>(by cases z),λ_ _ z=>(by cases z),λ_ _ _ z=>(by cases z)⟩
  ·obtain ⟨⟨t1,t2,n2,t3⟩,t4⟩:=ib ⟨hc.2,ho.2.2,K2⟩ e1;obtain ⟨n1,K1⟩:=K1;exact ⟨⟨⟨hc.1,t1⟩,⟨ho.1,ho.2.1,t2⟩,_,.op K1 t3⟩,by simp only [dep];omega⟩
  ·obtain ⟨⟨t1,t2,n2,t3⟩,t4⟩:=ia ⟨hc.1,ho.2.1,K1⟩ e1;obtain ⟨n1,K2⟩:=K2;exact ⟨⟨⟨t1,hc.2⟩,⟨ho.1,t2,ho.2.2⟩,_,.op t3 K2⟩,by simp only [dep];omega⟩
 | lt x a b ia ib =>
  intro e' c T h;obtain ⟨hc,ho,n,K⟩:=id T;obtain ⟨K1,K2⟩:=K.two rfl;rcases Ic h with ⟨hv,h⟩ | ⟨a',e1,rfl⟩
  ·exact Fz T h λa b=>⟨λz=>(by cases z),λ_ z=>(by cases z;exact hv),λ_ _ z=>(by cases z),λ_ _ _ z=>(by cases z)⟩
  ·obtain ⟨⟨t1,t2,n2,t3⟩,t4⟩:=ia ⟨hc.1,ho.1,K1⟩ e1;obtain ⟨n1,K2⟩:=K2;refine ⟨⟨⟨t1,hc.2⟩,⟨t2,ho.2⟩,_,.lt t3 K2⟩,?_⟩;have:=E9 (e:=b) (By (ρ:=dz) (ρ':=dz) x (λy=>Nat.le_add_right _ _) t4);simp only [dep];omega
 | wh a b d ia ib ic =>
  intro e' c T h;obtain ⟨hc,ho,n,K⟩:=id T;obtain ⟨K1,⟨n1,K2⟩,⟨n3,K3⟩⟩:=K.three rfl;rcases Ic h with ⟨hv,h⟩ | ⟨a',e1,rfl⟩
  ·exact Fz T h λa b=>⟨λz=>(by cases z),λ_ z=>(by cases z),λ_ _ z=>(by cases z),λ_ _ _ z=>(by cases z)⟩
  ·obtain ⟨⟨t1,t2,n2,t3⟩,t4⟩:=ia ⟨hc.1,ho.1,K1⟩ e1;exact ⟨⟨⟨t1,hc.2⟩,⟨t2,ho.2⟩,_,.wh t3 K2 K3⟩,by simp only [dep];omega⟩
 | opn a x y b ia ib =>
  intro e' c T h;obtain ⟨hc,ho,n,K⟩:=id T;obtain ⟨K1,K2⟩:=K.two rfl;rcases Ic h with ⟨hv,h⟩ | ⟨a',e1,rfl⟩
  ·exact Fz T h λa b=>⟨λz=>(by cases z),λ_ z=>(by cases z),λ_ _ z=>(by cases z;exact hv),λ_ _ _ z=>(by cases z)⟩
  ·obtain ⟨⟨t1,t2,n2,t3⟩,t4⟩:=ia ⟨hc.1,ho.1,K1⟩ e1;obtain ⟨n1,K2⟩:=K2;refine ⟨⟨⟨t1,hc.2⟩,⟨t2,ho.2⟩,_,.opn t3 K2⟩,?_⟩;have:=E9 (e:=b) (By y (By (ρ:=dz) (ρ':=dz) x (λy=>Nat.le_add_right _ _) t4) t4);simp only [dep];omega
 | spl a b x y d ia ib ic =>
  intro e' c T h;obtain ⟨hc,ho,n,K⟩:=id T;obtain ⟨K1,⟨n1,K2⟩,⟨n3,K3⟩⟩:=K.three rfl;rcases Ic h with ⟨hv,h⟩ | ⟨a',e1,rfl⟩
  ·exact Fz T h λa b=>⟨λz=>(by cases z),λ_ z=>(by cases z),λ_ _ z=>(by cases z),λ_ _ _ z=>(by cases z;exact hv)⟩
  ·obtain ⟨⟨t1,t2,n2,t3⟩,t4⟩:=ia ⟨hc.1,ho.1,K1⟩ e1;refine ⟨⟨⟨t1,hc.2⟩,⟨t2,ho.2⟩,_,.spl t3 K2 K3⟩,?_⟩;have:=E9 (e:=d) (By y (By (ρ:=dz) (ρ':=dz) x (λy=>Nat.le_add_right _ _) t4) t4);simp only [dep];omega
end KX
namespace KX
open PySem
namespace Ex
noncomputable def kn:Ex->Nat
 | nm _ | num _ | tru _ | emp=>0
 | fn _ b=>1+kn b | rc _ _ b=>1+kn b | cal a b=>1+max (kn a) (kn b) | lt _ a b=>1+kn a+kn b | wh a b c=>1+max (kn a) (max (kn b) (kn c)) | pr a b=>1+max (kn a) (kn b)
 | opn a _ _ b=>1+kn a+kn b | lk a b=>1+max (kn a) (kn b) | spl a b _ _ c=>1+max (kn b) (kn a+kn c) | op _ a b=>1+max (kn a) (kn b)
noncomputable def opj (k:Nat):Ex->Prop
 | nm _ | num _ | tru _ | emp=>True
 | fn _ b=>opj k b/\kn b<=k | rc _ _ b=>opj k b/\kn b<=k | cal a b=>opj k a/\opj k b | lt _ a b=>opj k a/\opj k b | wh a b c=>opj k a/\opj k b/\opj k c | pr a b=>opj k a/\opj k b
 | opn a _ _ b=>opj k a/\opj k b | lk a b=>opj k a/\opj k b | spl a b _ _ c=>opj k a/\opj k b/\opj k c | op o a b=>ab0 o/\opj k a/\opj k b
end Ex
open Ex
theorem Vz {k:Nat}{e:Ex}:e.opj k->e.opk:=by
 induction e with
 | nm _ | num _ | tru _ | emp=>exact λ_=>trivial
 | fn x b ih=>exact λh=>ih h.1
 | rc f x b ih=>exact λh=>ih h.1
 | cal a b ia ib | pr a b ia ib | lk a b ia ib=>exact λh=>⟨ia h.1,ib h.2⟩
 | lt x a b ia ib=>exact λh=>⟨ia h.1,ib h.2⟩
 | opn a x y b ia ib=>exact λh=>⟨ia h.1,ib h.2⟩
 | op o a b ia ib=>exact λh=>⟨h.1,ia h.2.1,ib h.2.2⟩
 | wh a b c ia ib ic=>exact λh=>⟨ia h.1,ib h.2.1,ic h.2.2⟩
 | spl a b x y c ia ib ic=>exact λh=>⟨ia h.1,ib h.2.1,ic h.2.2⟩
theorem Zu:e.opj k->Kb k e e.kn:=by
 induction e with
 | nm x=>exact λ_=>.nm x
 | num i=>exact λ_=>.num i
 | tru b=>exact λ_=>.tru b
 | emp=>exact λ_=>.emp
 | fn x b ih=>exact λh=>.fn (ih h.1) h.2
 | rc f x b ih=>exact λh=>.rc (ih h.1) h.2
 | cal a b ia ib=>exact λh=>.cal (ia h.1) (ib h.2)
 | pr a b ia ib=>exact λh=>.pr (ia h.1) (ib h.2)
 | lk a b ia ib=>exact λh=>.lk (ia h.1) (ib h.2)
 | lt x a b ia ib=>exact λh=>.lt (ia h.1) (ib h.2)
 | opn a x y b ia ib=>exact λh=>.opn (ia h.1) (ib h.2)
 | op o a b ia ib=>exact λh=>.op (ia h.2.1) (ib h.2.2)
 | wh a b c ia ib ic=>exact λh=>.wh (ia h.1) (ib h.2.1) (ic h.2.2)
 | spl a b x y c ia ib ic=>exact λh=>.spl (ia h.1) (ib h.2.1) (ic h.2.2)
theorem Zv:∀ {ρ:Dn} {m:Nat},(∀ y,ρ y<=m)->dep ρ e<=e.kn+m:=by
 have up:∀ {ρ:Dn} {m:Nat} (n:Nat),(∀ y,ρ y<=m)->∀ y,ρ y<=n+m:=λn h y=>Nat.le_trans (h y) (Nat.le_add_left _ _)
 induction e with
 | nm x=>intro ρ m h;exact Nat.le_trans (h x) (Nat.le_add_left _ _)
 | num _ | tru _ | emp=>intros;exact Nat.zero_le _
 | fn x b ih=>intro ρ m h;exact m1 (ih (BY x h (Nat.zero_le m)))
 | rc f x b ih=>intro ρ m h;exact m1 (ih (BY x (BY f h (Nat.zero_le m)) (Nat.zero_le m)))
 | cal a b ia ib | pr a b ia ib | lk a b ia ib=>intro ρ m h;exact m2 (ia h) (ib h)
 | op o a b ia ib=>intro ρ m h;exact m2 (ia h) (ib h)
 | wh a b c ia ib ic=>intro ρ m h;exact m3 (ia h) (ib h) (ic h)
 | lt x a b ia ib=>intro ρ m h;exact m4 (ia h) (ib (ρ:=ρ.up x (dep ρ a)) (m:=a.kn+m) (BY x (up _ h) (ia h)))
 | opn a x y b ia ib=>intro ρ m h;exact m4 (ia h) (ib (ρ:=(ρ.up x (dep ρ a)).up y (dep ρ a)) (m:=a.kn+m) (BY y (BY x (up _ h) (ia h)) (ia h)))
 | spl a b x y c ia ib ic=>intro ρ m h;exact m5 (ia h) (ib h) (ic (ρ:=(ρ.up x (dep ρ a)).up y (dep ρ a)) (m:=a.kn+m) (BY y (BY x (up _ h) (ia h)) (ia h)))
end KX
namespace L2
open PySem PySem.Spec PyProof.Rows KS
noncomputable def Nx (n i:Nat)(Pv:Nat->List V->Hp->Prop)(ys:List V)(H:Hp):Prop:=∃ m,m < n - i/\m=n - (i+1)/\i+1<=n/\Pv (i+1) ys H
theorem Nx.mk (hi:i < n)(h:Pv (i+1) ys H):Nx n i Pv ys H:=⟨n - (i+1),(),rfl,hi,h⟩
section
variable {g:TG}{tt:TT}{te:TE}{σ:St}{Fin:List V->Hp->Prop}{K:W.Frag}{a:Addr}{xs:List V}{H:Hp}
theorem DW (Pv:Nat->List V->Hp->Prop)(h0:Pv 0 [] H)(hn:n < sizeLine)(hy:∀ i ys H,Pv i ys H->ys.length<=i)(pO:∀ i ys H,i < n->Pv i ys H->J.go i H)(FP:∀ ys H,Pv n ys H->J.stop n H)(hs:∀ i ys H x H',i < n->Pv i ys H->J.yld i H x H'->g x σ H' fun σ2 H2=>Ext σ σ2/\tt σ2 H2 λb H3=>if b=true then te σ2 H3 λy H4=>Nx n i Pv (ys++[y]) H4 else Nx n i Pv ys H3)(hd:∀ ys H,Pv n ys H->Fin ys H):Dw J H σ g tt te Fin:=by
 refine ⟨λi m ys H=>m=n - i/\i<=n/\Pv i ys H,⟨n,by simp,Nat.zero_le _,h0⟩,?_⟩;rintro i m ys H ⟨rfl,hi,p⟩;have yY:=hy i ys H p;refine ⟨(),?_⟩;by_cases CT:i < n
 ·exact .inr ⟨pO i ys H CT p,(),λx H' y=>hs i ys H x H' CT p y⟩
 ·have e:i=n:=by omega
  subst e;exact .inl ⟨FP ys H p,hd ys H p⟩
theorem F5 (Pv:Nat->List V->Hp->Prop)(h0:Pv 0 [] H)(hl:∀ i ys H,Pv i ys H->AG K H a xs)(hn:xs.length < sizeLine)(hy:∀ i ys H,Pv i ys H->ys.length<=i)(e0:σ[0]?=some none)(hs:∀ i x ys H,xs[i]?=some x->Pv i ys H->tt (σ.set 0 (some x)) H λb H3=>if b=true then te (σ.set 0 (some x)) H3 λy H4=>Nx xs.length i Pv (ys++[y]) H4 else Nx xs.length i Pv ys H3)(hd:∀ ys H,Pv xs.length ys H->Fin ys H):Dw (X6 K a) H σ (BN 0) tt te Fin :=
 DW Pv h0 hn hy (λi ys H hi p=>⟨xs,xs[i],hl i ys H p,by simp [hi]⟩) (λys H p=>⟨xs,hl _ ys H p,Nat.le_refl _⟩)
  (λi ys H x H' hi p y=>by
   obtain ⟨rfl,y⟩:=y;exact ⟨Ext.set e0,hs i x ys _ (y xs (hl i ys _ p)) p⟩) hd
theorem Ht (Pv:Nat->List V->Hp->Prop)(h0:Pv 0 [] H)(hl:∀ i ys H,Pv i ys H->Ba K H a xs)(hn:xs.length < sizeLine)(hy:∀ i ys H,Pv i ys H->ys.length<=i)(e0:σ[0]?=some none)(hs:∀ i x ys H,xs[i]?=some x->Pv i ys H->tt (σ.set 0 (some x)) H λb H3=>if b=true then te (σ.set 0 (some x)) H3 λy H4=>Nx xs.length i Pv (ys++[y]) H4 else Nx xs.length i Pv ys H3)(hd:∀ ys H,Pv xs.length ys H->Fin ys H):Dw (Yq K a) H σ (BN 0) tt te Fin :=
 DW Pv h0 hn hy (λi ys H hi p=>⟨xs,xs[i],hl i ys H p,by simp [hi]⟩) (λys H p=>⟨xs,hl _ ys H p,Nat.le_refl _⟩)
  (λi ys H x H' hi p y=>by
   obtain ⟨rfl,y⟩:=y;exact ⟨Ext.set e0,hs i x ys _ (y xs (hl i ys _ p)) p⟩) hd
theorem S1 {lo:Int}{n:Nat}(Pv:Nat->List V->Hp->Prop)(h0:Pv 0 [] H)(hn:n < sizeLine)(hy:∀ i ys H,Pv i ys H->ys.length<=i)(e0:σ[0]?=some none)
  (hs:∀ i ys H,i < n->Pv i ys H->tt (σ.set 0 (some (.int (lo+i)))) H λb H3=>if b=true then te (σ.set 0 (some (.int (lo+i)))) H3 λy H4=>Nx n i Pv (ys++[y]) H4 else Nx n i Pv ys H3)
  (hd:∀ ys H,Pv n ys H->Fin ys H):Dw (X7 lo n) H σ (BN 0) tt te Fin :=
 DW Pv h0 hn hy (λi ys H hi p=>hi) (λys H p=>Nat.le_refl _)
  (λi ys H x H' hi p y=>by
   obtain ⟨rfl,rfl⟩:=y;exact ⟨Ext.set e0,hs i ys _ hi p⟩) hd
theorem KH (Pv:Nat->List V->Hp->Prop)(h0:Pv 0 [] H)(hn:n < sizeLine)(hy:∀ i ys H,Pv i ys H->ys.length<=i)(e0:σ[0]?=some none)(e1:σ[1]?=some none)(pO:∀ i ys H,i < n->Pv i ys H->L.go i H)(FP:∀ ys H,Pv n ys H->L.stop n H)(hs:∀ i ys H x H',i < n->Pv i ys H->L.yld i H x H'->∃ q u v,x=.ref q/\Ba K H' q [u,v]/\tt ((σ.set 0 (some u)).set 1 (some v)) H' λb H3=>if b=true then te ((σ.set 0 (some u)).set 1 (some v)) H3 λy H4=>Nx n i Pv (ys++[y]) H4 else Nx n i Pv ys H3)(hd:∀ ys H,Pv n ys H->Fin ys H):Dw L H σ (OM K 2 (Eg (BN 0) (Eg (BN 1) OL))) tt te Fin :=
 DW Pv h0 hn hy pO FP (λi ys H x H' hi p y=>by
   obtain ⟨q,u,v,rfl,h1,h2⟩:=hs i ys H x H' hi p y;refine ⟨q,[u,v],rfl,h1,rfl,u,[v],rfl,v,[],rfl,rfl,⟨by simp,λj z hj=>?_⟩,h2⟩;cases j with
   | zero=>rw [e0] at hj;cases hj
   | succ j=>cases j with
    | zero=>rw [e1] at hj;cases hj
    | succ j=>simpa using hj) hd
theorem VA (Jn:St->Hp->Prop)(fin:∀ σ' H',Jn σ' H'->u D σ' H')(q:(∀ σ' H',Jn σ' H'->u D σ' H')->Bh t u D σ H):Bh t u D σ H:=q fin
theorem Gs (Jn:St->Hp->Prop)(fin:∀ σ' H',Jn σ' H'->u D σ' H')(q:∀ N:St->Hp->Prop,(∀ σ' H',Jn σ' H'->N σ' H')->t { D with nx:=N } σ H):Bh t u D σ H:=q (u D) fin
theorem S3 (q:c σ H λb H1=>if b=true then t { D with nx:=u D } σ H1 else e { D with nx:=u D } σ H1):Bh (Qz c t e) u D σ H:=q
theorem MB (q:QB true H):G7 σ H QB:=q
theorem lN (q:wi σ H λJ H1=>Dw J H1 (CD own js σ) g tt te λys H2=>Kw 0 (.lst ys) H2 Q):NO own js wi g tt te σ H Q:=by
 have e:(λys (H2:Hp)=>Kw 0 (.lst ys) H2 Q)=λys H2=>∀ D,H2 D=none->Q (.ref D) (upd H2 D (.lst ys)):=by funext ys H2;exact propext ⟨λh=>h.2,λh=>⟨Nat.zero_le _,h⟩⟩
 rw [e] at q;exact q
theorem Xq (q:wi σ H λJ H1=>Dw J H1 (CD own js σ) g tt te λys H2=>Kw 0 (.lst ys) H2 λv H3=>u D (σ.set i (some v)) H3):Bh (Mm i own js wi g tt te) u D σ H:=by
 have e:(λys (H2:Hp)=>Kw 0 (.lst ys) H2 λv H3=>u D (σ.set i (some v)) H3)=λys H2=>∀ a,H2 a=none->u D (σ.set i (some (.ref a))) (upd H2 a (.lst ys)):=by funext ys H2;exact propext ⟨λh=>h.2,λh=>⟨Nat.zero_le _,h⟩⟩
 rw [e] at q;exact q
theorem fZ (q:tl σ H λx H1=>∃ a,x=.ref a/\(∃ xs,AG K H1 a xs)/\R (X6 K a) H1):Nu K tl σ H R:=q
theorem lO (q:tl σ H λx H1=>∃ a,x=.ref a/\(∃ xs,Ba K H1 a xs)/\R (Yq K a) H1):Yr K tl σ H R:=q
theorem Hu (h:AG K H p ys\/Ba K H p ys)(fx:Ei x=true)(fy:ys.all Ei=true)(q:Q (.bl (if neg then !Ir x ys else Ir x ys)) H):Uc K neg x (.ref p) H Q:=⟨p,ys,rfl,h,fx,fy,q⟩
end
section
variable {σ:St}{H:Hp}{Q:VK}{K:W.Frag}
theorem f' (q:td σ H λx H1=>∃ a,x=.ref a/\YV H1 a/\ty σ H1 λy H2=>tx σ H2 λz H3=>∃ o,BJ H3 a y o/\Q (o.getD z) H3):Me td ty tx σ H Q:=q
theorem lP (q:td σ H λx H1=>ty σ H1 λy H2=>∃ a v,x=.ref a/\BJ H2 a y (some v)/\Q v H2):NM td ty σ H Q:=q
theorem pQ (q:ty σ H λy H1=>td σ H1 λx H2=>∃ a o,x=.ref a/\BJ H2 a y o/\Q (.bl o.isSome) H2):R1 ty td σ H Q:=q
theorem lQ (q:R [] H):Ez [] σ H R:=q
theorem pR (q:tk σ H λk H1=>tv σ H1 λv H2=>Ez r σ H2 λps H3=>R ((k,v)::ps) H3):Ez ((tk,tv)::r) σ H R:=q
theorem Cv (q:∀ p H1,H p=none->A9 H H1->H1 p=some (.dK [])->Ez Iw σ H1 λps H2=>H2 p=some (.dK [])/\∃ kvs:List (Key × V),ps=kvs.map (λkv=>(kV kv.1,kv.2))/\kvs.length<=15/\∀ H3,(∀ b,b≠p->H3 b=H2 b)->H3 p=some (.dK (Bq [] kvs))->Q (.ref p) H3):R8 Iw σ H Q:=λp hp=>by
 have h:=q p _ hp (A9.new hp) A6;have e:(λps (H2:Hp)=>H2 p=some (.dK [])/\∃ kvs:List (Key × V),ps=kvs.map (λkv=>(kV kv.1,kv.2))/\kvs.length<=15/\∀ H3,(∀ b,b≠p->H3 b=H2 b)->H3 p=some (.dK (Bq [] kvs))->Q (.ref p) H3) =
  λps (H2:Hp)=>H2 p=some (.dK [])/\∃ kvs:List (Key × V),ps=kvs.map (λkv=>(kV kv.1,kv.2))/\kvs.length<=15/\Q (.ref p) (upd H2 p (.dK (Bq [] kvs))):=by
  funext ps H2
  refine propext ⟨?_,?_⟩
  ·rintro ⟨h1,kvs,h2,h3,h4⟩;exact ⟨h1,kvs,h2,h3,h4 _ (λb hb=>A8 hb) A6⟩
  ·rintro ⟨h1,kvs,h2,h3,h4⟩;refine ⟨h1,kvs,h2,h3,λH3 a b=>?_⟩;have:H3=upd H2 p (.dK (Bq [] kvs)):=by
    funext c
    by_cases hc:c=p
    ·subst hc;rw [b,A6]
    ·rw [a c hc,A8 hc]
   rw [this];exact h4
 rw [e] at h;exact h
theorem vN (q:te σ H λx H1=>tl σ H1 λl H2=>th σ H2 λu H3=>r x l u H3 Q):oo r te tl th σ H Q:=q
theorem d9 (q:R none H):J2 σ H R:=q
theorem lR (q:t σ H λx H1=>∃ i,x=.int i/\R (some i) H1):QR t σ H R:=q
theorem pS {i:Int}{P:Int->Prop}(q:P i):∃ k,V.int i=V.int k/\P k:=⟨i,rfl,q⟩
theorem Hv {a:Addr}{xs:List V}{lo hi:Option Int}(h:Ba K H a xs)(n:¬ (HT.sIx xs.length 0 lo=0/\HT.sIx xs.length xs.length hi=xs.length))(q:∀ p H2,H p=none->A9 H H2->H2 p=some (.tup (DF xs lo hi))->Q (.ref p) H2):QT K (.ref a) lo hi H Q:=⟨a,xs,rfl,h,n,λp hp=>q p _ hp (A9.new hp) A6⟩
theorem S4 {a:Addr}{xs:List V}{lo hi:Option Int}(h:AG K H a xs)(q:∀ p H2,H p=none->A9 H H2->H2 p=some (.lst (DF xs lo hi))->Q (.ref p) H2):YL K (.ref a) lo hi H Q:=⟨a,xs,rfl,h,λp hp=>q p _ hp (A9.new hp) A6⟩
theorem O1 (ha:Ba K H a xs)(hb:Ba K H b ys)(n:xs≠[])(hn:xs.length+ys.length<=sizeLine)(h1:ys=[]->Q (.ref a) H)(h2:∀ p H2,H p=none->A9 H H2->H2 p=some (.tup (xs++ys))->Q (.ref p) H2):Kc K (.ref a) (.ref b) H Q:=⟨a,b,xs,ys,rfl,rfl,ha,hb,n,hn,h1,λ_ p hp=>h2 p _ hp (A9.new hp) A6⟩
end
end L2
local macro_rules | `(tactic| fail)=>do
 let mut r<- `(tactic| with_reducible refine L2.pS ?_)
 for s in "L2.lR L2.d9 L2.vN L2.pR L2.lQ L2.pQ L2.lP".splitOn " " do r<- `(tactic| first | with_reducible refine $(Lean.mkIdent s.toName) ?_ | $r:tactic)
 `(tactic| first
 | with_reducible refine L2.f' ?_
 | $r:tactic)
local macro_rules | `(tactic| fail)=>do
 let mut r<- `(tactic| with_reducible refine L2.lO ?_)
 for s in "L2.fZ L2.Xq L2.lN L2.MB".splitOn " " do r<- `(tactic| first | with_reducible refine $(Lean.mkIdent s.toName) ?_ | $r:tactic)
 return r
namespace L2
open PySem PySem.Spec PyProof.Rows KS
theorem Paired.len (h:Paired F a b):a.length=b.length:=Paired.length h
theorem Paired.at1:∀ {a:List α} {b:List β} {i:Nat} {x:α},Paired F a b->a[i]?=some x->∃ y,b[i]?=some y/\F x y:=by
 intro a b i x p
 revert i
 induction p with
 | nil=>intro i e;simp at e
 | cons r _ ih =>
  intro i e;cases i with
  | zero=>cases e;exact ⟨_,rfl,r⟩
  | succ i=>exact ih (i:=i) e
noncomputable def strOf:Value->Str
 | .str x _=>x
 | _=>Str.empty
noncomputable def Hw:Value->Bool
 | .str _ _=>true
 | _=>false
noncomputable def Jk (w:World)(e:DictEntry):DictEntry:=⟨hashStr w (strOf e.key),e.key,e.val⟩
noncomputable def S5 (es:List DictEntry):List (Str × Value):=es.map λe=>(strOf e.key,e.val)
structure D1 (w:World)(K:W.Frag)(a:Addr)(rows:List (Str × Value)):Prop where
 ex:∃ es ep,K.lookup a=some ⟨.type "dict",none,.dict es ep,#[]⟩/\es.toList=es.toList.map (Jk w)/\(es.toList.all λe=>Hw e.key)=true/\S5 es.toList=rows
 nd:(rows.map (·.1)).Nodup
theorem O2 {P:Program}{w:World}{K:W.Frag}{a:Addr}{rows:List (Str × Value)}(d:D1 w K a rows){h:Heap}(hk:∀ o,K.lookup a=some o->h.get? a=some o):h.DictOf (Ap P w) a (rows.map λr=>(.inr r.1,r.2)):=by
 obtain ⟨⟨es,ep,hl,hh,ha,rfl⟩,nd⟩:=d;refine ⟨_,es,ep,hk _ hl,⟨rfl,rfl,rfl⟩,rfl,λe he=>?_,?_,?_⟩
 ·have pT:e∈es.toList:=by simpa using he
  have hs:=List.all_eq_true.mp ha e pT;rw [hh] at pT;obtain ⟨e0,h0,rfl⟩:=List.mem_map.mp pT;have Z5:Hw e0.key=true:=hs;obtain ⟨oy,key,val⟩:=e0;cases key with
  | str x t=>exact ⟨.inr x,DB P w x t,rfl⟩
  | _=>cases Z5
 ·generalize es.toList=l at ha;clear hh hl nd
  induction l with
  | nil=>exact .nil
  | cons e r ih =>
   rw [List.all_cons,Bool.and_eq_true] at ha;refine .cons ?_ rfl (ih ha.2);obtain ⟨oy,key,val⟩:=e;cases key with
   | str x t=>exact DB P w x t
   | _=>exact (show false=true from ha.1) |> λz=>by cases z
 ·rw [List.map_map];have e:(S5 es.toList).map (λr=>(Sum.inr r.1:Key))=((S5 es.toList).map (·.1)).map Sum.inr:=by rw [List.map_map];rfl
  show ((S5 es.toList).map (λr=>(Sum.inr r.1:Key))).Nodup;rw [e];have inj:∀ (l:List Str),l.Nodup->(l.map (Sum.inr:Str->Key)).Nodup:=λl hl=>by
   induction hl with
   | nil=>exact .nil
   | cons h1 h2 ih =>
    refine List.nodup_cons.mpr ⟨λz=>?_,ih⟩;obtain ⟨y,hy,e⟩:=List.mem_map.mp z;cases e;exact h1 _ hy rfl
  exact inj _ nd
noncomputable def rowAt (rows:List (Str × Value))(x:Str):Option Value:=(rows.find? λr=>decide (r.1=x)).map (·.2)
theorem Hx (rows:List (Str × Value))(x:Str):valueAt (rows.map λr=>((.inr r.1:Key),r.2)) (.inr x)=rowAt rows x:=by
 unfold valueAt rowAt
 induction rows with
 | nil=>rfl
 | cons r l ih =>
  rw [List.map_cons,List.find?_cons,List.find?_cons];by_cases e:r.1=x
  ·have h1:decide ((Sum.inr r.1:Key)=Sum.inr x)=true:=(by rw [LD];exact decide_eq_true e);rw [h1,decide_eq_true e];rfl
  ·have h1:decide ((Sum.inr r.1:Key)=Sum.inr x)=false:=(by rw [LD];exact decide_eq_false e);rw [h1,decide_eq_false e];exact ih
section
variable {X:Cx}{x:Str}{a:Addr}{rows:List (Str × Value)}{i:Expr}{ty:TE}{p pos:Pos}
noncomputable def S6 (rows:List (Str × Value))(ty:TE):TE:=fun σ H Q=>ty σ H λy H1=>∃ (k:Str) (u:Value) (v:V),y=.str k/\rowAt rows k=some u/\RelV v u/\Q v H1
theorem VB (d:D1 X.w X.K a rows)(hg:Gl X x)(hm:X.mg x=some (.ref a))(hi:PE X i ty)(hs:Mb i)(Eh:(x==("__debug__":Str))=false:=by decide):PE X (.Subscript (.Name x p) i pos) (S6 rows ty):=by
 intro pins s σ H Q I h;refine J7 PySem.F.slot_dict_getitem.lookup hs (AK (IY (v:=.ref a) hg hm rfl Eh pins s σ H (λy H1=>y=.ref a/\H1=H) I ⟨rfl,rfl⟩) λu s1 Au=>?_);obtain ⟨x',H1,I1,rx,e1,e2⟩:=Au;subst e1 e2;obtain rfl:u=Value.ref a:=rx;refine AK (hi pins s1 σ H1 _ I1 h) λiv s2 Au=>?_;obtain ⟨y,H2,I2,ry,k,u,v,ey,hk,rv,q⟩:=Au;subst ey;have dd:s2.heap.DictOf (Ap X.prog X.w) a (rows.map λr=>(.inr r.1,r.2)):=O2 d λo ho=>I2.kIn a o ho;refine ⟨dd.typeIs,wpAny_getItem_of (CV (k:=.inr k) ry) dd.mapOf (v:=u) (by rw [Hx];exact hk) ⟨v,H2,I2.tok _,rv,q⟩⟩
theorem S7 (d:D1 X.w X.K a rows)(hg:Gl X x)(hm:X.mg x=some (.ref a))(hi:SE X i ty)(hs:Mb i)(Eh:(x==("__debug__":Str))=false:=by decide):SE X (.Subscript (.Name x p) i pos) (S6 rows ty):=⟨VB d hg hm hi.out hs Eh⟩
variable {CX:K7}{k:Nat}{ps:List Str}{E:XK}{e:Expr}{es:List Expr}{t:TA}{O3:List (Str × Sp)}{pn:Pos}
noncomputable def FA (P:Program)(w:World)(K:W.Frag)(mg:Str->Option Value)(base:Heap)(CX:K7)(k:Nat)(ps:List Str)(rows:List (Str × Value))(O3:List (Str × Sp)):Prop :=
 ∀ x sp,(x,sp)∈O3->∃ f fd,rowAt rows x=some (.ref f)/\Aq P w K mg base CX k f fd ps sp/\W.keepIn K (.ref f)=true/\Binds K fd ps []
noncomputable def MC (O3:List (Str × Sp))(E:XK)(ty:TE)(t:TA):TE:=fun σ H Q=>ty σ H λy H1=>∃ (x:Str) (sp:Sp),y=.str x/\(x,sp)∈O3/\t σ H1 λvs H2=>sp vs H2 Q E
theorem S8 (d:D1 X.w X.K a rows)(R:FA X.prog X.w X.K X.mg X.base CX k ps rows O3)(hx:Passes CX X E)(hr:Ar k X.A)(hg:Gl X x)(hm:X.mg x=some (.ref a))(hi:PE X i ty)(hs:Mb i)(ha:PA X (e::es) t)(Eh:(x==("__debug__":Str))=false:=by decide)(he:starEach (e::es) X.env=(false,eval e X.env)::starEach es X.env:=by rfl)(Ck:(backTo pos (starEach es X.env)).any (·.1)=false:=by rfl):PE X (.Call (.Subscript (.Name x pn) i p) (e::es) [] pos) (MC O3 E ty t):=by
 intro pins s σ H Q I h;have arm:eval (.Call (.Subscript (.Name x pn) i p) (e::es) [] pos) X.env=(eval (.Subscript (.Name x pn) i p) X.env >>= λf=>callWith pos f [] (backTo pos (starEach (e::es) X.env)) (backToKw pos (keywordEach [] X.env))):=rfl;rw [arm];refine wpAny_bind ?_;refine J7 PySem.F.slot_dict_getitem.lookup hs (AK (IY (v:=.ref a) hg hm rfl Eh pins s σ H (λy H1=>y=.ref a/\H1=H) I ⟨rfl,rfl⟩) λu s1 Au=>?_);obtain ⟨x',H1,I1,rx,e1,e2⟩:=Au;subst e1 e2;obtain rfl:u=Value.ref a:=rx;refine AK (hi pins s1 σ H1 _ I1 h) λiv s2 Au=>?_;obtain ⟨y,H2,I2,ry,x',sp,ey,G9,q⟩:=Au;subst ey;obtain ⟨f,fd,S9,F,hk,hb⟩:=R x' sp G9;have dd:s2.heap.DictOf (Ap X.prog X.w) a (rows.map λr=>(.inr r.1,r.2)):=O2 d λo ho=>I2.kIn a o ho;refine ⟨dd.typeIs,wpAny_getItem_of (CV (k:=.inr x') ry) dd.mapOf (v:=.ref f) (by rw [Hx];exact S9) ?_⟩;have I3:=I2.tok (s2.toks+1);refine W.callWith_K (h₀:=X.base) I3.ok.mod.kin hk (AK (ha pos pins _ σ H2 _ I3 q) λus s4 Au=>?_) he Ck;obtain ⟨vs,H4,I4,r,q⟩:=Au;refine ⟨I4.kIn,?_⟩;exact Ew F hr hb .nil hx I4 r (by rw [List.append_nil];exact q)
theorem VC (d:D1 X.w X.K a rows)(R:FA X.prog X.w X.K X.mg X.base CX k ps rows O3)(hx:Passes CX X E)(hr:Ar k X.A)(hg:Gl X x)(hm:X.mg x=some (.ref a))(hi:SE X i ty)(hs:Mb i)(ha:SA X (e::es) t)(Eh:(x==("__debug__":Str))=false:=by decide)(he:starEach (e::es) X.env=(false,eval e X.env)::starEach es X.env:=by rfl)(Ck:(backTo pos (starEach es X.env)).any (·.1)=false:=by rfl):SE X (.Call (.Subscript (.Name x pn) i p) (e::es) [] pos) (MC O3 E ty t):=⟨S8 d R hx hr hg hm hi.out hs ha.out Eh he Ck⟩
end
end L2
namespace PySem
open AutoSeq1 (wpAny_loadPart')
namespace F
theorem abm:typeLookup (.type "list_reverseiterator") "__len__"=pure none:=by rw [typeLookup_type,builtinLookup_eq_fast];kernel_rfl
theorem abt:Slot "list_reverseiterator" "__length_hint__" "list_reverseiterator.__length_hint__" :=
 .of (owner:="list_reverseiterator") (n:="__length_hint__") (by rw [typeLookup_type,builtinLookup_eq_fast];kernel_rfl) (by decide +kernel) (by decide +kernel) (by decide +kernel) (by first | exact .inl (by decide +kernel) | exact .inr (by decide +kernel)) (by rw [isSubtype_type];kernel_rfl)
theorem abz:isSubtype (.type "list_reverseiterator") (.type "list_reverseiterator")=pure true:=by rw [isSubtype_type];kernel_rfl
end F
section
variable {prog:Program}{w:World}{A:Around}{E:Value->Shared->Prop}{s:Shared}
theorem Hy (hit:s.heap.IsRevIter it l i)(h:∀ b tk,Q b { s with toks:=tk }):
  wpAny (model prog w) A (Builtin.List.listLengthHint (.ref it)) Q E s:=by
 obtain ⟨o,ho,hc,hd⟩:=id hit;unfold Builtin.List.listLengthHint;refine wpAny_bind (wpAny_specialOf hit.typeIs F.abm ?_);show wpAny _ A (specialOf (Value.ref it) (Str.ofString "__length_hint__") >>= _) _ _ _;refine wpAny_bind (wpAny_specialOf hit.typeIs F.abt.lookup ?_);generalize g7:("list_reverseiterator.__length_hint__":String)=pU
 wp_delta
 rw [show splitId pU=some ("list_reverseiterator","__length_hint__") from by subst g7;decide +kernel];subst g7;refine wpAny_bind (wpAny_isInstance (T:="list_reverseiterator") (b:=true) hit.typeIs F.abz ?_);refine wpAny_ite_split (λSb=>absurd Sb ⟨⟩) (λ_=>?_);refine wpAny_ite_split (λ_=>?_) (λSb=>absurd (by decide +kernel) Sb);refine wpAny_ite_split (λSb=>absurd Sb (by decide +kernel)) (λ_=>?_);exact wpAny_pure (h _ _)
theorem MD (hh:A.handled=none)(hI:s.heap.IsRevIter I l ((items.size:Int) - 1))(hl:s.heap.IsList l items)(ME:l≠I)(hlen:items.size < 2 ^ 20)(S:Addr)(res:Value)(c0:Nat)(hS:s.heap.get? S=some { cls:=.type "list",data:=.seq #[] c0 })(pV:S≠I)(vO:S≠l)(hR:∀ h' tk Ds c',(∀ b o,b≠S->b≠I->s.heap.get? b=some o->h'.get? b=some o)->h'.get? S=some { cls:=.type "list",dict:=none,data:=.seq Ds c',slots:=#[] } ->
   ItemsOf (λi v=>items[items.size - 1 - i]?=some v) Ds items.size->R (.ok (.ret res)) { s with heap:=h',toks:=tk }) :
  wpAny (model prog w) A.in1 (Builtin.List.listExtendWith (.ref S) (.ref I) res)
   (λfin s'=>match fin with | .done f=>R (.ok f) s' | .again c'=>c'.quiet=true/\codeAny (model prog w) A c' R s') (λe s'=>R (.error e) s') s:=by
 have W:=(Walks.listRev (prog:=prog) (w:=w) (A:=A.in1) hh I l ME items).toS;have pW:S∉[I,l]:=by simp [pV,vO]
 have hT:s.TypeIs (.ref I) "list_reverseiterator":=hI.typeIs;have key:∀ (h:Heap) (c1 tk:Nat),h.IsRevIter I l ((items.size:Int) - 1)->h.IsList l items->(∀ b o,b≠S->s.heap.get? b=some o->h.get? b=some o)->h.get? S=some { cls:=.type "list",data:=.seq #[] c1 } ->
   codeAny (model prog w) A (.builtin "list.extend.loop" ⟨[.ref S,.ref I,res],[]⟩) R { s with heap:=h,toks:=tk }:=by
  intro h c1 tk hit za hk Sd;refine codeAny_extend_loopS W (by rw [sizeLine_eq];omega) S pW res items.size 0 _ #[] c1 rfl (Nat.zero_le _) ⟨Nat.zero_le _,by simpa using hit,za⟩ Sd (ItemsOf.nil _) λs' Ds c' hm Vq EA=>?_;rw [Moved.eq_with hm];refine hR s'.heap s'.toks Ds c' (λb o hb zb e=>hm.heap b o (λG9=>?_) (hk b o hb e)) Vq EA;rcases List.mem_cons.mp G9 with e' | G9
  ·exact hb e'
  ·exact zb (List.mem_singleton.mp G9)
 unfold Builtin.List.listExtendWith;refine wpAny_bind (wpAny_typeOf hT ?_);have h1:Builtin.List.listSameRef (.ref S) (.ref I)=false:=by simp [Builtin.List.listSameRef,pV]
 have h2:(Value.type "list_reverseiterator"==Value.type "list")=false:=by decide
 have h3:(Value.type "list_reverseiterator"==Value.type "tuple")=false:=by decide
 simp only [h1,h2,h3,Bool.or_false,Bool.false_eq_true,if_false];refine wpAny_bind (wpAny_pyIter_revIter hI ?_);refine wpAny_bind (wpAny_holding (Hy hI λb tk=>?_));have Sd:({ s with toks:=tk }:Shared).heap.get? S=some { cls:=.type "list",data:=.seq #[] c0 }:=hS;refine wpAny_ite_split (λ_=>?_) (λ_=>wpAny_pure ⟨plainId_quiet F.plain_extend_loop _,key _ c0 _ hI hl (λb o _ e=>e) hS⟩);refine wpAny_bind (wpAny_rule ?_);refine wpAny_bind ?_;show wpAny _ _ (updateSeq S (·.push .none) >>= λ_=>updateSeq S (·.pop)) _ _ _;refine wpAny_bind (wpAny_updateSeq Sd rfl ?_);have VD:=Heap.get?_update_self (Obj.mapSeq (·.push Value.none)) Sd rfl;refine wpAny_updateSeq (hz:=by seq_fits) VD rfl ?_;have pX:=Heap.get?_update_self (Obj.mapSeq (·.pop)) VD rfl;have MF:∀ b o,b≠S->s.heap.get? b=some o->((s.heap.update S (Obj.mapSeq (·.push Value.none))).update S (Obj.mapSeq (·.pop))).get? b=some o:=λb o hb e =>
  (Heap.get?_update_other _ _ (Ne.symm hb)).trans ((Heap.get?_update_other _ _ (Ne.symm hb)).trans e)
 exact wpAny_pure ⟨plainId_quiet F.plain_extend_loop _,key _ _ _ (hI.at λo e=>MF I o (Ne.symm pV) e) (hl.at λo e=>MF l o (Ne.symm vO) e) MF pX⟩
theorem Ie (hh:A.handled=none)(hI:s.heap.IsRevIter I l ((items.size:Int) - 1))(hl:s.heap.IsList l items)(ME:l≠I)(hlen:items.size < 2 ^ 20)(hQ:∀ h' tk Ds c',(∀ b o,b≠I->s.heap.get? b=some o->h'.get? b=some o)->h'.get? s.heap.objs.size=some { cls:=.type "list",dict:=none,data:=.seq Ds c',slots:=#[] } ->
   ItemsOf (λi v=>items[items.size - 1 - i]?=some v) Ds items.size->Q (.ref s.heap.objs.size) { s with heap:=h',toks:=tk }):wpAny (model prog w) A (call (.type "list") [.ref I]) Q E s:=by
 have g9:I < s.heap.objs.size:=by obtain ⟨o,ho,_⟩:=hI;exact Heap.lt_size ho
 have gc:l < s.heap.objs.size:=by obtain ⟨o,ho,_⟩:=hl;exact Heap.lt_size ho
 refine callType_codes (Q₁:=λobj s1=>obj=.ref s.heap.objs.size/\s1={ s with heap:=s.heap.push { cls:=.type "list",data:=.seq #[] } }) F.called_list (F.typeCall_list_1 _) F.entry_list_init (code_list_new _ ⟨rfl,rfl⟩) λobj s1 q1=>?_;obtain ⟨rfl,rfl⟩:=q1;have hS:(s.heap.push { cls:=.type "list",data:=.seq #[] }).get? s.heap.objs.size=some { cls:=.type "list",data:=.seq #[] }:=Heap.get?_push_size _ rfl;refine ⟨⟨_,hS,rfl⟩,F.args_list_init_2 _ _,?_⟩;show wpAny _ _ (do let old <- Builtin.List.listItems (.ref s.heap.objs.size);Builtin.List.listUpdate (.ref s.heap.objs.size) (λ_=>#[]);letGo old.toList.reverse;Builtin.List.listExtendWith (.ref s.heap.objs.size) (.ref I) .none) _ _ _
 refine wpAny_bind ?_;unfold Builtin.List.listItems;refine wpAny_bind (wpAny_seqItems hS rfl (wpAny_pure ?_));show wpAny _ _ (updateSeq s.heap.objs.size (λ_=>#[]) >>= λ_=>letGo (#[]:Array Value).toList.reverse >>= λ_=>Builtin.List.listExtendWith (.ref s.heap.objs.size) (.ref I) .none) _ _ _;refine wpAny_bind (wpAny_updateSeq hS rfl ?_);have VD:=Heap.get?_update_self (Obj.mapSeq (λ_=>(#[]:Array Value))) hS rfl;have MF:∀ b o,b≠s.heap.objs.size->s.heap.get? b=some o->((s.heap.push { cls:=.type "list",data:=.seq #[] }).update s.heap.objs.size (Obj.mapSeq (λ_=>(#[]:Array Value)))).get? b=some o :=
  λb o hb e=>(Heap.get?_update_other _ _ (Ne.symm hb)).trans (Heap.get?_push_of_some _ e)
 refine wpAny_bind (wpAny_letGo ?_);refine MD (A:=A.in1) (I:=I) (l:=l) (items:=items) hh (hI.at λo e=>MF I o (Nat.ne_of_lt g9) e) (hl.at λo e=>MF l o (Nat.ne_of_lt gc) e) ME hlen _ .none _ VD (Ne.symm (Nat.ne_of_lt g9)) (Ne.symm (Nat.ne_of_lt gc)) λh' tk Ds c' hk Vq EA=>?_;exact ⟨rfl,hQ h' tk Ds c' (λb o hb e=>hk b o (Nat.ne_of_lt (Heap.lt_size e)) hb (MF b o (Nat.ne_of_lt (Heap.lt_size e)) e)) Vq EA⟩
end
end PySem
namespace L2
open PySem PySem.Spec PyProof.Rows KS
section
variable {X:Cx}
noncomputable def FC (K:W.Frag)(ta:TA):TE:=fun σ H Q=>ta σ H λvs H1=>∃ a xs,vs=[.ref a]/\AG K H1 a xs/\xs.length < 1000000/\∀ l,H1 l=none->Q (.ref l) (upd H1 l (.lst xs.reverse))
theorem KI (hc:X.calm=true)(pY:Gl X "list")(pZ:X.mg "list"=none)(q9:Gl X "reversed")(qb:X.mg "reversed"=none)(ha:PA X [a] ta)(hs:starEach [a] X.env=[(false,eval a X.env)]:=by rfl)(he:starEach [.Call (.Name "reversed" p2) [a] [] Ia] X.env=(false,eval (.Call (.Name "reversed" p2) [a] [] Ia) X.env)::starEach [] X.env:=by rfl) :
  PE X (.Call (.Name "list" p1) [.Call (.Name "reversed" p2) [a] [] Ia] [] Rz) (FC X.K ta):=by
 intro pins s σ H Q I h;refine wpAny_Call_Name_kw (D6 I pY pZ boot_list ?_);refine PyProof.Rows.callWith_type1 ?_ he rfl;rw [he];show wpAny _ _ (spliced ((false,eval (.Call (.Name "reversed" p2) [a] [] Ia) X.env)::backTo Rz (starEach [] X.env))) _ _ s;refine Calls.spliced_cons ?_;refine Call_ (D6 I q9 qb boot_reversed (PyProof.Rows.callWith_type1 (AK (ha Ia pins s σ H _ I h) λus s1 q1=>?_) hs rfl));obtain ⟨vs,H1,I1,r1,t,xs,rfl,hq,hx,q⟩:=q1;obtain ⟨u,rfl,ru⟩:=vals1 r1;obtain rfl:u=Value.ref t:=ru;obtain ⟨its,rv,pl,hz⟩:=I1.list hq;have hlen:=rv.length;refine call_reversed_list pl.isList ?_;refine Calls.spliced_nil ?_;have zc:t < s1.heap.objs.size:=by obtain ⟨o,n,e,_⟩:=pl;exact Heap.lt_size e
 have hT:s1.heap.objs.size≠t:=Ne.symm (Nat.ne_of_lt zc);have I2:Inv X pins σ H1 { s1 with heap:=s1.heap.push (revObj t ((its.toArray.size:Int) - 1)) }:=I1.kept (t':=s1.toks) λb o z=>Heap.get?_push_of_some _ z;refine Ie (I:=s1.heap.objs.size) (l:=t) (items:=its.toArray) (I.ok.hd hc) ⟨_,Heap.get?_push_size _ rfl,rfl,rfl⟩ (pl.isList.at λo z=>Heap.get?_push_of_some _ z) (Ne.symm hT) (by rw [List.size_toArray];omega) λh' tk acc c' hk hS hA=>?_;have nI:H1 s1.heap.objs.size=none:=I1.hok.fresh (Nat.le_refl _);obtain ⟨f0,f1,_,f3,f4,f5⟩:=I1.abj (H':=H1) (Nat.le_refl _) nI;have I3:Inv X pins σ H1 { s1 with heap:=h',toks:=tk }:=I2.turned (t':=tk) hk f0 f1 f3 f4 f5;have nS:H1 (s1.heap.push (revObj t ((its.toArray.size:Int) - 1))).objs.size=none:=I2.hok.fresh (Nat.le_refl _);have zd:=Pw rv hA;have I4:Inv X pins σ (upd H1 (s1.heap.push (revObj t ((its.toArray.size:Int) - 1))).objs.size (.lst xs.reverse)) { s1 with heap:=h',toks:=tk }:=by
  refine I2.abv (ch:=[s1.heap.objs.size]) rfl ?_ (I3.hok.aaw nS ⟨by rw [List.length_reverse];exact hz,acc.toList,c',zd,by simpa using hS⟩) I2.bare ?_
  ·have u0:Un (Lw X.stack) [s1.heap.objs.size] H1 H1 (s1.heap.push (revObj t ((its.toArray.size:Int) - 1))) h':=by
    have kk:∀ b o,b∉[s1.heap.objs.size]->(s1.heap.push (revObj t ((its.toArray.size:Int) - 1))).get? b=some o->h'.get? b=some o:=λb o hb z=>hk b o (λy=>hb (by simp [y])) z;exact ⟨λb o z _ _ hx=>kk b o hx z,λb o z _ _ hx=>⟨o.slots,kk b o hx z⟩,λb o z n _=>n,λb o z hx=>⟨o,kk b o hx z⟩,λ_ _ z=>z,λ_ _ _ z=>z,λb ps z=>⟨#[],by rw [z];simp⟩⟩
   exact u0.aaw nS (Heap.get?_none_of_le (Nat.le_refl _))
  ·intro b hb;obtain rfl:=List.mem_singleton.mp hb;exact ⟨f3,f1,f4,f5⟩
 exact ⟨.ref _,_,I4,rfl,q _ nS⟩
theorem MG (hc:X.calm=true)(pY:Gl X "list")(pZ:X.mg "list"=none)(q9:Gl X "reversed")(qb:X.mg "reversed"=none)(ha:SA X [a] ta)(hs:starEach [a] X.env=[(false,eval a X.env)]:=by rfl)(he:starEach [.Call (.Name "reversed" p2) [a] [] Ia] X.env=(false,eval (.Call (.Name "reversed" p2) [a] [] Ia) X.env)::starEach [] X.env:=by rfl) :
  SE X (.Call (.Name "list" p1) [.Call (.Name "reversed" p2) [a] [] Ia] [] Rz) (FC X.K ta):=⟨KI hc pY pZ q9 qb ha.out hs he⟩
end
section
variable {X:Cx}{o e value:Expr}{f x:Str}{pos K6 p pos':Pos}{ta tv te:TE}{es:List Expr}{t:TA}
theorem Se (o8:YA X op left)(ha:SE X o ta)(hv:SE X value tv):SS X (.AugAssign (.Attribute o f K6) op value pos) (J1 X.K ta tv left f):=⟨OZ ha.out hv.out o8⟩
theorem MH (M:Mk X.K C fi)(F:Aq X.prog X.w X.K X.mg X.base B5 k fi fd ps sp)(hb:Binds X.K fd ps [])(hm:X.mg x=some (.ref C))(hr:Ar (k+1) X.A)(hg:Gl X x)(ha:SA X (e::es) t)(Eh:(x==("__debug__":Str))=false:=by decide)(he:starEach (e::es) X.env=(false,eval e X.env)::starEach es X.env:=by exfalso)(Ck:(backTo pos (starEach es X.env)).any (·.1)=false:=by rfl) :
  SE X (.Call (.Name x p) (e::es) [] pos) (QN C sp [] E0 t):=⟨UQ M F hr hg hm hb .nil F0 ha.out Eh he Ck⟩
end
section
variable {K:W.Frag}{σ:St}{H:Hp}{Q:VK}{D:Ends}{ta tv te:TE}{f:Str}{t:TA}{C:Addr}{sp:Sp}{E:XK}{u:TS}
theorem qc (q:ta σ H λx H1=>∃ a C dx fs v,x=.ref a/\H1 a=some (.ins C dx fs)/\Gi K C/\BD K C f/\fs.lookup f=some v/\Q v H1):UO K ta f σ H Q:=q
theorem lS (q:t σ H λvs H1=>∀ x dx,H1 x=none->H1 dx=none->dx≠x->sp (.ref x::(vs++[])) (upd (upd H1 dx (.own x)) x (.ins C dx [])) (λv H2=>v=.non/\Q (.ref x) H2) E):QN C sp [] E t σ H Q:=q
theorem lT (q:tv σ H λy H1=>ta σ H1 λx H2=>∃ a C dx fs,x=.ref a/\H2 a=some (.ins C dx fs)/\Gi K C/\BD K C f/\fs.length < 1000/\D.nx σ (upd H2 a (.ins C dx (CU f y fs)))):UP K ta tv f D σ H:=q
theorem Zw (q:tv σ H λy H1=>ta σ H1 λx H2=>∃ a C dx fs,x=.ref a/\H2 a=some (.ins C dx fs)/\Gi K C/\BD K C f/\fs.length < 1000/\u D σ (upd H2 a (.ins C dx (CU f y fs)))):Bh (UP K ta tv f) u D σ H:=q
noncomputable def Zx (J:It)(g:TG)(tb:TS)(D:Ends)(σ:St)(H:Hp):Prop:=∃ W:Nat->Nat->St->Hp->Prop,(∃ m,W 0 m σ H)/\∀ i m σ H,W i m σ H ->
 (J.stop i H/\D.nx σ H)\/(J.go i H/\∃ N:St->Hp->Prop,(∀ σ' H',N σ' H'->∃ m',m' < m/\W (i+1) m' σ' H')/\∀ x H',J.yld i H x H'->g x σ H' fun σ2 H2=>tb { D with nx:=N,ct:=N,bk:=D.nx } σ2 H2)
theorem dc (q:wi σ H λJ H1=>Zx J g tb { D with nx:=u D } σ H1):Bh (QG wi g tb) u D σ H:=q
theorem lU (q:t σ H λvs H1=>∃ a xs,vs=[.ref a]/\AG K H1 a xs/\R (IA K a xs.length) H1):Y' K t σ H R:=q
theorem Hz (q:R (σ.set i (some x)) H):BN i x σ H R:=q
theorem VE (q:ta σ H λx H1=>∃ a C dx fs v,x=.ref a/\H1 a=some (.ins C dx fs)/\Gi K C/\BD K C f/\fs.lookup f=some v/\tv σ H1 λy H2=>left v y H2 λz H3=>∃ OY U5,H3 a=some (.ins C OY U5)/\U5.length < 1000/\u D σ (upd H3 a (.ins C OY (CU f z U5)))):Bh (J1 K ta tv left f) u D σ H:=q
theorem lV (q:ta σ H λy H1=>∃ (k:Str) (u:Value) (v:V),y=.str k/\rowAt rows k=some u/\RelV v u/\Q v H1):S6 rows ta σ H Q:=q
theorem gh (q:ta σ H λy H1=>∃ (x:Str) (sp:Sp),y=.str x/\(x,sp)∈O3/\t σ H1 λvs H2=>sp vs H2 Q E):MC O3 E ta t σ H Q:=q
theorem qd (q:ta σ H λx H1=>eX K T x H1/\r x [] H1 Q):QW K T r ta σ H Q:=q
theorem vP (q:ta σ H λx H1=>eX K T x H1/\t σ H1 λxs H2=>r x xs H2 Q):oq K T r ta t σ H Q:=q
theorem lW (q:ta σ H λx H1=>∃ a dx fs,x=.ref a/\H1 a=some (.ins C dx fs)/\fs.lookup m=none/\t σ H1 λvs H2=>sp (x::(vs++[])) H2 Q E):EX C m sp [] E ta t σ H Q:=q
theorem Xr (q:t σ H λvs H1=>∃ a xs,vs=[.ref a]/\AG K H1 a xs/\xs.length < 1000000/\∀ l,H1 l=none->Q (.ref l) (upd H1 l (.lst xs.reverse))):FC K t σ H Q:=q
end
end L2
local macro_rules | `(tactic| fail)=>do
 let mut r<- `(tactic| with_reducible refine L2.Xr ?_)
 for s in "L2.lW L2.vP L2.qd L2.gh L2.lU L2.Hz L2.dc L2.lV de L2.VE Zy L2.lT L2.Zw L2.lS L2.qc".splitOn " " do r<- `(tactic| first | with_reducible refine $(Lean.mkIdent s.toName) ?_ | $r:tactic)
 `(tactic| first
 | ((with_reducible refine qe (x:=?v) ?h ?q);(case h=>rfl))
 | $r:tactic)
namespace L2
open PySem PySem.Spec PyProof.Rows KS
noncomputable def HA (K:W.Frag)(a:Addr)(xs:List V):Prop:=∃ (o:Obj) (its:Array Value) (n:Nat),K.lookup a=some o/\o.cls=.type "tuple"/\o.data=.seq its n/\its.size<=sizeLine/\Vals xs its.toList
theorem HA.sq {K:W.Frag}{a:Addr}{xs:List V}(h:HA K a xs)(H:Hp):Ba K H a xs:=.inr h
end L2
namespace KX
open PySem
namespace Ex
noncomputable def wd:Ex->Str
 | nm _=>"name" | num _=>"number" | tru _=>"truth" | emp=>"empty" | fn _ _=>"fun" | rc _ _ _=>"rec" | cal _ _=>"call" | lt _ _ _=>"let" | wh _ _ _=>"when" | pr _ _=>"pair"
 | opn _ _ _ _=>"open" | lk _ _=>"link" | spl _ _ _ _ _=>"split" | op _ _ _=>"op"
noncomputable def prt:Ex->List (Ex × List Str)
 | nm _ | num _ | tru _ | emp=>[]
 | fn x b=>[(b,[x])] | rc f x b=>[(b,[f,x])] | cal a b=>[(a,[]),(b,[])] | lt x a b=>[(a,[]),(b,[x])] | wh a b c=>[(a,[]),(b,[]),(c,[])] | pr a b=>[(a,[]),(b,[])]
 | opn a x y b=>[(a,[]),(b,[x,y])] | lk a b=>[(a,[]),(b,[])] | spl a b x y c=>[(a,[]),(b,[]),(c,[x,y])] | op _ a b=>[(a,[]),(b,[])]
noncomputable def plc:Ex->List (Nat × List Nat)
 | nm _ | num _ | tru _ | emp=>[]
 | fn _ _=>[(2,[1])] | rc _ _ _=>[(3,[1,2])] | cal _ _=>[(1,[]),(2,[])] | lt _ _ _=>[(2,[]),(3,[1])] | wh _ _ _=>[(1,[]),(2,[]),(3,[])] | pr _ _=>[(1,[]),(2,[])]
 | opn _ _ _ _=>[(1,[]),(4,[2,3])] | lk _ _=>[(1,[]),(2,[])] | spl _ _ _ _ _=>[(1,[]),(2,[]),(5,[3,4])] | op _ _ _=>[(2,[]),(3,[])]
end Ex
end KX
namespace L2
open PySem PySem.Spec PyProof.Rows KS KX
noncomputable def qf (H:Hp)(us:List V)(row:Nat × List Nat)(pt:Ex × List Str):Prop:=(∃ re,us[row.1]?=some re/\As H pt.1 re)/\Paired (λn x=>us[n]?=some (V.str x)) row.2 pt.2
theorem As.look (h:As H e r):∃ p us,r=.ref p/\H p=some (.tup (.str e.wd::us))/\Paired (qf H (.str e.wd::us)) e.plc e.prt/\us.length<=5:=by
 cases e with
 | nm _=>obtain ⟨p,h1,h2⟩:=h;exact ⟨p,_,h1,h2,.nil,by simp⟩
 | num _=>obtain ⟨p,h1,h2⟩:=h;exact ⟨p,_,h1,h2,.nil,by simp⟩
 | tru _=>obtain ⟨p,h1,h2⟩:=h;exact ⟨p,_,h1,h2,.nil,by simp⟩
 | emp=>obtain ⟨p,h1,h2⟩:=h;exact ⟨p,_,h1,h2,.nil,by simp⟩
 | fn _ _=>obtain ⟨p,rb,h1,h2,h3⟩:=h;exact ⟨p,_,h1,h2,.cons ⟨⟨rb,rfl,h3⟩,.cons rfl .nil⟩ .nil,by simp⟩
 | rc _ _ _=>obtain ⟨p,rb,h1,h2,h3⟩:=h;exact ⟨p,_,h1,h2,.cons ⟨⟨rb,rfl,h3⟩,.cons rfl (.cons rfl .nil)⟩ .nil,by simp⟩
 | cal _ _=>obtain ⟨p,ra,rb,h1,h2,h3,h4⟩:=h;exact ⟨p,_,h1,h2,.cons ⟨⟨ra,rfl,h3⟩,.nil⟩ (.cons ⟨⟨rb,rfl,h4⟩,.nil⟩ .nil),by simp⟩
 | lt _ _ _=>obtain ⟨p,ra,rb,h1,h2,h3,h4⟩:=h;exact ⟨p,_,h1,h2,.cons ⟨⟨ra,rfl,h3⟩,.nil⟩ (.cons ⟨⟨rb,rfl,h4⟩,.cons rfl .nil⟩ .nil),by simp⟩
 | wh _ _ _=>obtain ⟨p,ra,rb,rc,h1,h2,h3,h4,h5⟩:=h;exact ⟨p,_,h1,h2,.cons ⟨⟨ra,rfl,h3⟩,.nil⟩ (.cons ⟨⟨rb,rfl,h4⟩,.nil⟩ (.cons ⟨⟨rc,rfl,h5⟩,.nil⟩ .nil)),by simp⟩
 | pr _ _=>obtain ⟨p,ra,rb,h1,h2,h3,h4⟩:=h;exact ⟨p,_,h1,h2,.cons ⟨⟨ra,rfl,h3⟩,.nil⟩ (.cons ⟨⟨rb,rfl,h4⟩,.nil⟩ .nil),by simp⟩
 | opn _ _ _ _=>obtain ⟨p,ra,rb,h1,h2,h3,h4⟩:=h;exact ⟨p,_,h1,h2,.cons ⟨⟨ra,rfl,h3⟩,.nil⟩ (.cons ⟨⟨rb,rfl,h4⟩,.cons rfl (.cons rfl .nil)⟩ .nil),by simp⟩
 | lk _ _=>obtain ⟨p,ra,rb,h1,h2,h3,h4⟩:=h;exact ⟨p,_,h1,h2,.cons ⟨⟨ra,rfl,h3⟩,.nil⟩ (.cons ⟨⟨rb,rfl,h4⟩,.nil⟩ .nil),by simp⟩
 | spl _ _ _ _ _=>obtain ⟨p,ra,rb,rc,h1,h2,h3,h4,h5⟩:=h;exact ⟨p,_,h1,h2,.cons ⟨⟨ra,rfl,h3⟩,.nil⟩ (.cons ⟨⟨rb,rfl,h4⟩,.nil⟩ (.cons ⟨⟨rc,rfl,h5⟩,.cons rfl (.cons rfl .nil)⟩ .nil)),by simp⟩
 | op _ _ _=>obtain ⟨p,ra,rb,h1,h2,h3,h4⟩:=h;exact ⟨p,_,h1,h2,.cons ⟨⟨ra,rfl,h3⟩,.nil⟩ (.cons ⟨⟨rb,rfl,h4⟩,.nil⟩ .nil),by simp⟩
noncomputable def VF (K:W.Frag)(row:Nat × List Nat)(u:V):Prop:=∃ b c,u=.ref b/\HA K b [.int row.1,.ref c]/\HA K c (row.2.map λn:Nat=>V.int n)
noncomputable def qg (K:W.Frag)(rows:List (Str × Value)):Prop:=∀ e:Ex,∃ a us,rowAt rows e.wd=some (.ref a)/\HA K a us/\Paired (VF K) e.plc us
theorem Cw (h:Paired F [a] ms):∃ x,ms=[x]/\F a x:=by
 cases h with
 | cons r t=>cases t;exact ⟨_,rfl,r⟩
theorem D2 (h:Paired F [a,b] ms):∃ x y,ms=[x,y]/\F a x/\F b y:=by
 cases h with
 | cons r t=>obtain ⟨y,rfl,h⟩:=Cw t;exact ⟨_,y,rfl,r,h⟩
theorem O4 (h:Paired F [a,b,c] ms):∃ x y z,ms=[x,y,z]/\F a x/\F b y/\F c z:=by
 cases h with
 | cons r t=>obtain ⟨y,z,rfl,h⟩:=D2 t;exact ⟨_,y,z,rfl,r,h⟩
end L2
namespace KX
open PySem Ex
theorem KJ (h:c=false):(if c=true then a else b)=b:=by rw [h];rfl
theorem VG (h:c=true):(if c=true then a else b)=a:=by rw [h];rfl
theorem O5 (h:c=true)(h':d=false):(if c=true then (if d=true then a else b) else e)=b:=by rw [h,h'];rfl
theorem Xs (h:c=true)(h':d=true):(if c=true then (if d=true then a else b) else e)=a:=by rw [h,h'];rfl
theorem gj (h:c=false):(c && d)=false:=by rw [h];rfl
theorem gm (h:d=false):(c && d)=false:=by rw [h];cases c <;> rfl
theorem qh (h:c=true)(h':d=true):(c && d)=true:=by rw [h,h'];rfl
theorem Zz (x:Str)(w:Ex):(σ.rm x).or (Su.one x w)=(Su.one x w).or σ:=by
 funext y
 simp only [Su.or,Su.one,Su.rm];by_cases e:y=x
 ·simp [e]
 ·simp only [e,if_false];cases σ y <;> rfl
theorem ZA (x y:Str)(v w:Ex):((σ.rm x).rm y).or ((Su.one y w).or (Su.one x v))=(Su.one y w).or ((Su.one x v).or σ):=by
 funext z
 simp only [Su.or,Su.one,Su.rm];by_cases e:z=y
 ·simp [e]
 ·by_cases e':z=x
  ·simp [e,e']
  ·simp only [e,e',if_false];cases σ z <;> rfl
theorem KL (h:σ.Cl)(x:Str)(w b:Ex):give x w (sub (σ.rm x) b)=sub ((Su.one x w).or σ) b:=by
 unfold give;rw [sub_sub (h.rm x),Zz]
theorem FE (h:σ.Cl)(x y:Str)(v:Ex)(hw:w.cl [])(b:Ex):aaf x y v w (sub ((σ.rm x).rm y) b)=sub ((Su.one y w).or ((Su.one x v).or σ)) b:=by
 rw [KC hw,sub_sub ((h.rm x).rm y),ZA]
section
variable {most:Nat}{code:List MS}
inductive JQ (most:Nat):Ex->Nat->Ex->Nat->Prop
 | refl (e:Ex) (c:Nat):JQ most e c e c
 | go {e e' Xt:Ex} {b:Bool} {c gn:Nat}:isV e=false->stp e=some (e',b)->c+b.toNat<=most->JQ most e' (c+b.toNat) Xt gn->JQ most e c Xt gn
noncomputable def ZC (most:Nat)(e:Ex)(c:Nat):Prop:=∃ e' c',JQ most e c e' c'/\isV e'=false/\stp e'=none
noncomputable def ZD (most:Nat)(e:Ex)(c:Nat):Prop:=∃ e' c' Xt b,JQ most e c e' c'/\isV e'=false/\stp e'=some (Xt,b)/\most < c'+b.toNat
theorem JQ.trans (h:JQ most e c e' c')(g:JQ most e' c' Xt gn):JQ most e c Xt gn:=by
 induction h with
 | refl=>exact g
 | go h1 h2 h3 _ ih=>exact .go h1 h2 h3 (ih g)
theorem ZC.pre (h:JQ most e c e' c')(g:ZC most e' c'):ZC most e c:=by
 obtain ⟨a,b,g1,g2⟩:=g;exact ⟨a,b,h.trans g1,g2⟩
theorem ZD.pre (h:JQ most e c e' c')(g:ZD most e' c'):ZD most e c:=by
 obtain ⟨a,b,d,f,g1,g2⟩:=g;exact ⟨a,b,d,f,h.trans g1,g2⟩
structure Fr (C:Ex->Ex):Prop where
 nv:∀ e,isV e=false->isV (C e)=false
 st:∀ e,isV e=false->stp (C e)=II C (stp e)
theorem JQ.fr (F:Fr C)(h:JQ most e c e' c'):JQ most (C e) c (C e') c':=by
 induction h with
 | refl=>exact .refl _ _
 | go h1 h2 h3 _ ih=>exact .go (F.nv _ h1) (by rw [F.st _ h1,h2];rfl) h3 ih
theorem ZC.fr (F:Fr C)(h:ZC most e c):ZC most (C e) c:=by
 obtain ⟨a,b,g1,g2,g3⟩:=h;exact ⟨C a,b,g1.fr F,F.nv _ g2,by rw [F.st _ g2,g3];rfl⟩
theorem ZD.fr (F:Fr C)(h:ZD most e c):ZD most (C e) c:=by
 obtain ⟨a,b,d,f,g1,g2,g3,g4⟩:=h;exact ⟨C a,b,C d,f,g1.fr F,F.nv _ g2,by rw [F.st _ g2,g3];rfl,g4⟩
end
theorem VH (b:Ex):Fr λz=>cal z b:=⟨λ_ _=>rfl,λe h=>KJ h⟩
theorem VI (h:isV a=true):Fr (cal a):=⟨λ_ _=>rfl,λe h'=>O5 h h'⟩
theorem ZE (b:Ex):Fr λz=>pr z b:=⟨λ_ h=>gj h,λe h=>KJ h⟩
theorem ZF (h:isV a=true):Fr (pr a):=⟨λ_ h=>gm h,λe h'=>O5 h h'⟩
theorem ZG (b:Ex):Fr λz=>lk z b:=⟨λ_ h=>gj h,λe h=>KJ h⟩
theorem ZH (h:isV a=true):Fr (lk a):=⟨λ_ h=>gm h,λe h'=>O5 h h'⟩
theorem ZI (o:Str)(b:Ex):Fr λz=>op o z b:=⟨λ_ _=>rfl,λe h=>KJ h⟩
theorem ZJ (o:Str)(h:isV a=true):Fr (op o a):=⟨λ_ _=>rfl,λe h'=>O5 h h'⟩
theorem gp (x:Str)(b:Ex):Fr λz=>lt x z b:=⟨λ_ _=>rfl,λe h=>KJ h⟩
theorem gq (b c:Ex):Fr λz=>wh z b c:=⟨λ_ _=>rfl,λe h=>KJ h⟩
theorem ZK (x y:Str)(b:Ex):Fr λz=>opn z x y b:=⟨λ_ _=>rfl,λe h=>KJ h⟩
theorem ZL (b:Ex)(x y:Str)(c:Ex):Fr λz=>spl z b x y c:=⟨λ_ _=>rfl,λe h=>KJ h⟩
end KX
namespace KX
open PySem L2
inductive Itm where
 | sc (v:V) | pt (e:Ex)
namespace Ex
noncomputable def its:Ex->List Itm
 | nm x=>[.sc (.str x)] | num i=>[.sc (.int i)] | tru b=>[.sc (.bl b)] | emp=>[]
 | fn x b=>[.sc (.str x),.pt b] | rc f x b=>[.sc (.str f),.sc (.str x),.pt b] | cal a b=>[.pt a,.pt b] | lt x a b=>[.sc (.str x),.pt a,.pt b] | wh a b c=>[.pt a,.pt b,.pt c] | pr a b=>[.pt a,.pt b]
 | opn a x y b=>[.pt a,.sc (.str x),.sc (.str y),.pt b] | lk a b=>[.pt a,.pt b] | spl a b x y c=>[.pt a,.pt b,.sc (.str x),.sc (.str y),.pt c] | op o a b=>[.sc (.str o),.pt a,.pt b]
noncomputable def fst:Ex->Nat
 | cal a b | pr a b | lk a b=>if isV a then (if isV b then 0 else 2) else 1
 | op _ a b=>if isV a then (if isV b then 0 else 3) else 2
 | lt _ a _=>if isV a then 0 else 2
 | wh a _ _ | opn a _ _ _ | spl a _ _ _ _=>if isV a then 0 else 1
 | _=>0
end Ex
open Ex
theorem KN (e:Ex):sub (λ_=>none) e=e:=by
 have rm:∀ x:Str,Su.rm (λ_=>none) x=λ_=>none:=λx=>by funext y;simp [Su.rm]
 induction e with
 | nm _ | num _ | tru _ | emp=>rfl
 | fn x b ih=>simp only [sub,rm,ih]
 | rc f x b ih=>simp only [sub,rm,ih]
 | cal a b ia ib | pr a b ia ib | lk a b ia ib=>simp only [sub,ia,ib]
 | op o a b ia ib=>simp only [sub,ia,ib]
 | lt x a b ia ib=>simp only [sub,rm,ia,ib]
 | wh a b c ia ib ic=>simp only [sub,ia,ib,ic]
 | opn a x y b ia ib=>simp only [sub,rm,ia,ib]
 | spl a b x y c ia ib ic=>simp only [sub,rm,ia,ib,ic]
end KX
namespace L2
open PySem PySem.Spec PyProof.Rows KS KX
noncomputable def qi (H:Hp):Itm->V->Prop
 | .sc v,u=>u=v
 | .pt e,u=>As H e u
theorem As.its (h:As H e r):∃ p us,r=.ref p/\H p=some (.tup (.str e.wd::us))/\Paired (qi H) e.its us:=by
 cases e with
 | nm _=>obtain ⟨p,h1,h2⟩:=h;exact ⟨p,_,h1,h2,.cons rfl .nil⟩
 | num _=>obtain ⟨p,h1,h2⟩:=h;exact ⟨p,_,h1,h2,.cons rfl .nil⟩
 | tru _=>obtain ⟨p,h1,h2⟩:=h;exact ⟨p,_,h1,h2,.cons rfl .nil⟩
 | emp=>obtain ⟨p,h1,h2⟩:=h;exact ⟨p,_,h1,h2,.nil⟩
 | fn _ _=>obtain ⟨p,rb,h1,h2,h3⟩:=h;exact ⟨p,_,h1,h2,.cons rfl (.cons h3 .nil)⟩
 | rc _ _ _=>obtain ⟨p,rb,h1,h2,h3⟩:=h;exact ⟨p,_,h1,h2,.cons rfl (.cons rfl (.cons h3 .nil))⟩
 | cal _ _=>obtain ⟨p,ra,rb,h1,h2,h3,h4⟩:=h;exact ⟨p,_,h1,h2,.cons h3 (.cons h4 .nil)⟩
 | lt _ _ _=>obtain ⟨p,ra,rb,h1,h2,h3,h4⟩:=h;exact ⟨p,_,h1,h2,.cons rfl (.cons h3 (.cons h4 .nil))⟩
 | wh _ _ _=>obtain ⟨p,ra,rb,rc,h1,h2,h3,h4,h5⟩:=h;exact ⟨p,_,h1,h2,.cons h3 (.cons h4 (.cons h5 .nil))⟩
 | pr _ _=>obtain ⟨p,ra,rb,h1,h2,h3,h4⟩:=h;exact ⟨p,_,h1,h2,.cons h3 (.cons h4 .nil)⟩
 | opn _ _ _ _=>obtain ⟨p,ra,rb,h1,h2,h3,h4⟩:=h;exact ⟨p,_,h1,h2,.cons h3 (.cons rfl (.cons rfl (.cons h4 .nil)))⟩
 | lk _ _=>obtain ⟨p,ra,rb,h1,h2,h3,h4⟩:=h;exact ⟨p,_,h1,h2,.cons h3 (.cons h4 .nil)⟩
 | spl _ _ _ _ _=>obtain ⟨p,ra,rb,rc,h1,h2,h3,h4,h5⟩:=h;exact ⟨p,_,h1,h2,.cons h3 (.cons h4 (.cons rfl (.cons rfl (.cons h5 .nil))))⟩
 | op _ _ _=>obtain ⟨p,ra,rb,h1,h2,h3,h4⟩:=h;exact ⟨p,_,h1,h2,.cons rfl (.cons h3 (.cons h4 .nil))⟩
end L2
namespace KX
open PySem Ex L2
theorem VJ (e:Ex):e.its.length<=5:=by cases e <;> simp [its]
end KX
namespace KX
open PySem Ex
noncomputable def Ex.pls:Ex->List Nat
 | cal _ _ | pr _ _ | lk _ _=>[1,2]
 | op _ _ _=>[2,3]
 | lt _ _ _=>[2]
 | wh _ _ _ | opn _ _ _ _ | spl _ _ _ _ _=>[1]
 | _=>[]
open L2
inductive LO where
 | val (e:Ex) (c:Nat) | stuck | over
inductive Sf (most:Nat):Nat->Ex->Nat->LO->Prop
 | val {e:Ex} (c:Nat):isV e=true->Sf most 0 e c (.val e c)
 | stuck {e:Ex} (c:Nat):isV e=false->stp e=none->Sf most 0 e c .stuck
 | over {e e':Ex} {b:Bool} {c:Nat}:isV e=false->stp e=some (e',b)->most < c+b.toNat->Sf most 0 e c .over
 | go {e e':Ex} {b:Bool} {c m:Nat} {o:LO}:isV e=false->stp e=some (e',b)->c+b.toNat<=most->Sf most m e' (c+b.toNat) o->Sf most (m+1) e c o
theorem JQ.en (h:JQ most e c w c')(g:Sf most m w c' o):∃ m,Sf most m e c o:=by
 induction h with
 | refl=>exact ⟨m,g⟩
 | go h1 h2 h3 _ ih=>obtain ⟨k,h⟩:=ih g;exact ⟨k+1,.go h1 h2 h3 h⟩
end KX
namespace KX
open PySem Ex
inductive RV where
 | num (i:Int) | tru (b:Bool) | emp | fn (x:Str) (b:Ex) (E:List (Str × RV)) | rc (f x:Str) (b:Ex) (E:List (Str × RV)) | two (l:Bool) (a b:RV)
abbrev Ev:=List (Str × RV)
noncomputable def Bk (E:Ev)(y:Str):Option RV:=(E.find? λp=>decide (p.1=y)).map (·.2)
noncomputable def BK (E:Ev)(y:Str)(v:RV):Ev:=if (E.any λp=>decide (p.1=y))=true then E.map (λp=>if p.1=y then (p.1,v) else p) else E++[(y,v)]
noncomputable def AI (E l:Ev):Ev:=l.foldl (λa p=>BK a p.1 p.2) E
theorem BZ (p:Str × RV)(E:Ev)(y:Str):Bk (p::E) y=if p.1=y then some p.2 else Bk E y:=by
 simp only [Bk,List.find?_cons];by_cases h:p.1=y <;> simp [h]
theorem Ea:∀ (E:Ev) (y:Str),(E.any λp=>decide (p.1=y))=(Bk E y).isSome
 | [],_=>rfl
 | p::E,y=>by
  rw [List.any_cons,BZ,Ea E y];by_cases h:p.1=y <;> simp [h]
theorem O6 (y z:Str)(v:RV):∀ E:Ev,Bk (E.map λp=>if p.1=y then (p.1,v) else p) z=(Bk E z).map λu=>if z=y then v else u
 | []=>rfl
 | p::E=>by
  rw [List.map_cons,BZ,BZ,O6 y z v E];by_cases h:p.1=y
  ·simp only [h,if_true];by_cases h2:y=z
   ·simp [h2]
   ·simp only [h2,if_false]
  ·simp only [h,if_false];by_cases h2:p.1=z
   ·have:¬ z=y:=λq=>h (h2.trans q);simp [h2,this]
   ·simp only [h2,if_false]
theorem O7 (y z:Str)(v:RV):∀ E:Ev,Bk E y=none->Bk (E++[(y,v)]) z=if z=y then some v else Bk E z
 | [],_=>by
  rw [List.nil_append,BZ];by_cases h:y=z
  ·simp [h]
  ·have:¬ z=y:=λq=>h q.symm;simp [h,this,Bk]
 | p::E,h=>by
  rw [BZ] at h;by_cases h1:p.1=y
  ·simp [h1] at h
  ·simp only [h1,if_false] at h;rw [List.cons_append,BZ,BZ,O7 y z v E h];by_cases h2:p.1=z
   ·have:¬ z=y:=λq=>h1 (h2.trans q);simp [h2,this]
   ·simp only [h2,if_false]
theorem D3 (E:Ev)(y z:Str)(v:RV):Bk (BK E y v) z=if z=y then some v else Bk E z:=by
 unfold BK;by_cases h:(E.any λp=>decide (p.1=y))=true
 ·rw [if_pos h,O6];rw [Ea] at h;by_cases h2:z=y
  ·subst h2;cases hl:Bk E z with
   | none=>rw [hl] at h;cases h
   | some u=>simp
  ·simp only [h2,if_false];cases Bk E z <;> rfl
 ·rw [if_neg h];rw [Ea,Bool.not_eq_true] at h;exact O7 y z v E (by cases hl:Bk E y with | none=>rfl | some u=>rw [hl] at h;cases h)
inductive RR:RV->Ex->Prop
 | num (i:Int):RR (.num i) (.num i)
 | tru (b:Bool):RR (.tru b) (.tru b)
 | emp:RR .emp .emp
 | pr {a b:RV} {v w:Ex}:RR a v->RR b w->RR (.two false a b) (.pr v w)
 | lk {a b:RV} {v w:Ex}:RR a v->RR b w->RR (.two true a b) (.lk v w)
 | fn {x:Str} {b:Ex} {E:Ev} {σ:Su} {wv:Str->Ex}:(∀ y,Bk E y=none->σ y=none)->(∀ y v,Bk E y=some v->σ y=some (wv y))->(∀ y v,Bk E y=some v->RR v (wv y))->b.cl (x::E.map (·.1))->RR (.fn x b E) (.fn x (sub (σ.rm x) b))
 | rc {f x:Str} {b:Ex} {E:Ev} {σ:Su} {wv:Str->Ex}:(∀ y,Bk E y=none->σ y=none)->(∀ y v,Bk E y=some v->σ y=some (wv y))->(∀ y v,Bk E y=some v->RR v (wv y))->b.cl (x::f::E.map (·.1))->RR (.rc f x b E) (.rc f x (sub ((σ.rm f).rm x) b))
structure HB (E:Ev)(σ:Su):Prop where
 no:∀ y,Bk E y=none->σ y=none
 at':∃ wv:Str->Ex,(∀ y v,Bk E y=some v->σ y=some (wv y))/\∀ y v,Bk E y=some v->RR v (wv y)
theorem Cy:y∈E.map (·.1)↔(Bk E y).isSome:=by
 rw [<- Ea,List.any_eq_true];simp only [List.mem_map,decide_eq_true_eq]
theorem Jl {E:Ev}{σ:Su}{wv:Str->Ex}(h1:∀ y,Bk E y=none->σ y=none)(h2:∀ y v,Bk E y=some v->σ y=some (wv y))(h3:∀ y v,Bk E y=some v->(wv y).cl []):σ.Cl:=by
 intro y v e;cases q:Bk E y with
 | none=>rw [h1 y q] at e;cases e
 | some u=>rw [h2 y u q] at e;cases e;exact h3 y u q
theorem RR.cl (h:RR v w):w.cl []:=by
 induction h with
 | num _ | tru _ | emp=>trivial
 | pr _ _ ia ib | lk _ _ ia ib=>exact ⟨ia,ib⟩
 | @fn x b E σ wv h1 h2 h3 h4 ih =>
  refine Mx (xs:=x::E.map (·.1)) ((Jl h1 h2 ih).rm x) (λy hy=>?_) h4;by_cases e:y=x
  ·exact .inr (by simp [e])
  ·have:=Cy.mp ((List.mem_cons.mp hy).resolve_left e);cases q:Bk E y with
   | none=>rw [q] at this;cases this
   | some u=>refine .inl ?_;simp only [Su.rm,e,if_false];rw [h2 y u q];rfl
 | @rc f x b E σ wv h1 h2 h3 h4 ih =>
  refine Mx (xs:=x::f::E.map (·.1)) (((Jl h1 h2 ih).rm f).rm x) (λy hy=>?_) h4;by_cases e:y=x
  ·exact .inr (by simp [e])
  ·by_cases e':y=f
   ·exact .inr (by simp [e'])
   ·have:=Cy.mp ((List.mem_cons.mp ((List.mem_cons.mp hy).resolve_left e)).resolve_left e');cases q:Bk E y with
    | none=>rw [q] at this;cases this
    | some u=>refine .inl ?_;simp only [Su.rm,e,e',if_false];rw [h2 y u q];rfl
theorem RR.isV (h:RR v w):w.isV=true:=by
 induction h with
 | num _ | tru _ | emp=>rfl
 | pr _ _ ia ib | lk _ _ ia ib=>exact qh ia ib
 | fn | rc=>rfl
theorem HB.cl (h:HB E σ):σ.Cl:=by
 obtain ⟨wv,h1,h2⟩:=h.at';exact Jl h.no h1 λy v q=>(h2 y v q).cl
theorem HB.add (h:HB E σ)(x:Str)(r:RR v w):HB (BK E x v) ((Su.one x w).or σ):=by
 obtain ⟨wv,h1,h2⟩:=h.at';refine ⟨λy hy=>?_,λy=>if y=x then w else wv y,λy u hy=>?_,λy u hy=>?_⟩
 ·rw [D3] at hy;by_cases e:y=x
  ·simp [e] at hy
  ·simp only [e,if_false] at hy;simp only [Su.or,Su.one,e,if_false];exact h.no y hy
 ·rw [D3] at hy;by_cases e:y=x
  ·simp [Su.or,Su.one,e]
  ·simp only [e,if_false] at hy;simp only [Su.or,Su.one,e,if_false];exact h1 y u hy
 ·rw [D3] at hy;by_cases e:y=x
  ·simp only [e,if_true,Option.some.injEq] at hy;simp only [e,if_true];exact hy▸r
  ·simp only [e,if_false] at hy ⊢;exact h2 y u hy
theorem HB.look (h:HB E σ)(q:∀ y,Bk E' y=Bk E y):HB E' σ:=by
 obtain ⟨wv,h1,h2⟩:=h.at';exact ⟨λy hy=>h.no y (q y▸hy),wv,λy v hy=>h1 y v (q y▸hy),λy v hy=>h2 y v (q y▸hy)⟩
theorem O8 (E:Ev)(x:Str)(v:RV):∀ y,Bk (AI E (AI [] [(x,v)])) y=Bk (BK E x v) y:=λy=>rfl
theorem Gu (E:Ev)(x y:Str)(v u:RV)(z:Str):Bk (AI E (AI [] [(x,v),(y,u)])) z=Bk (BK (BK E x v) y u) z:=by
 have e:AI [] [(x,v),(y,u)]=if x=y then [(x,u)] else [(x,v),(y,u)]:=by
  by_cases h:x=y <;> simp [AI,BK,h]
 rw [e];by_cases h:x=y
 ·subst h;simp only [if_true];show Bk (BK E x u) z=_;rw [D3,D3,D3];by_cases q:z=x <;> simp [q]
 ·simp only [h,if_false];rfl
theorem Jm:y∈(BK E x v).map (·.1)↔y=x\/y∈E.map (·.1):=by
 rw [Cy,Cy,D3];by_cases e:y=x <;> simp [e]
structure Rn where
 wait:List (Ex × Ev × Bool)
 aac:List RV
 calls:Nat
inductive RS where
 | go (s:Rn) | stuck
noncomputable def Ig:Ex->Ev->List (Ex × Ev × Bool)->List RV->Nat->RS
 | .pr _ _,_,W,b::a::P,c=>.go ⟨W,.two false a b::P,c⟩
 | .lk _ _,_,W,b::a::P,c=>.go ⟨W,.two true a b::P,c⟩
 | .cal _ _,_,W,v::.fn x b E'::P,c=>.go ⟨(b,AI E' (AI [] [(x,v)]),false)::W,P,c+1⟩
 | .cal _ _,_,W,v::.rc f x b E'::P,c=>.go ⟨(b,AI E' (AI [] [(f,.rc f x b E'),(x,v)]),false)::W,P,c+1⟩
 | .lt x _ b,E,W,v::P,c=>.go ⟨(b,AI E (AI [] [(x,v)]),false)::W,P,c⟩
 | .wh _ a b,E,W,.tru t::P,c=>.go ⟨(if t then a else b,E,false)::W,P,c⟩
 | .opn _ x y b,E,W,.two false v u::P,c=>.go ⟨(b,AI E (AI [] [(x,v),(y,u)]),false)::W,P,c⟩
 | .spl _ a _ _ _,E,W,.emp::P,c=>.go ⟨(a,E,false)::W,P,c⟩
 | .spl _ _ x y b,E,W,.two true v u::P,c=>.go ⟨(b,AI E (AI [] [(x,v),(y,u)]),false)::W,P,c⟩
 | .op o _ _,E,W,.num j::.num i::P,c=>.go ⟨(opV o i j,E,false)::W,P,c⟩
 | _,_,_,_,_=>.stuck
inductive O9 (E:Ev)(W:List (Ex × Ev × Bool))(c:Nat):Ex->List RV->Rn->Prop
 | pr (a b:Ex) (u v:RV) (P:List RV):O9 E W c (.pr a b) (u::v::P) ⟨W,.two false v u::P,c⟩
 | lk (a b:Ex) (u v:RV) (P:List RV):O9 E W c (.lk a b) (u::v::P) ⟨W,.two true v u::P,c⟩
 | fn (a b:Ex) (v:RV) (x:Str) (d:Ex) (F:Ev) (P:List RV):O9 E W c (.cal a b) (v::.fn x d F::P) ⟨(d,AI F (AI [] [(x,v)]),false)::W,P,c+1⟩
 | rc (a b:Ex) (v:RV) (f x:Str) (d:Ex) (F:Ev) (P:List RV):O9 E W c (.cal a b) (v::.rc f x d F::P) ⟨(d,AI F (AI [] [(f,.rc f x d F),(x,v)]),false)::W,P,c+1⟩
 | lt (x:Str) (a b:Ex) (v:RV) (P:List RV):O9 E W c (.lt x a b) (v::P) ⟨(b,AI E (AI [] [(x,v)]),false)::W,P,c⟩
 | wh (d a b:Ex) (t:Bool) (P:List RV):O9 E W c (.wh d a b) (.tru t::P) ⟨(if t then a else b,E,false)::W,P,c⟩
 | opn (a b:Ex) (x y:Str) (v u:RV) (P:List RV):O9 E W c (.opn a x y b) (.two false v u::P) ⟨(b,AI E (AI [] [(x,v),(y,u)]),false)::W,P,c⟩
 | emp (a b d:Ex) (x y:Str) (P:List RV):O9 E W c (.spl a b x y d) (.emp::P) ⟨(b,E,false)::W,P,c⟩
 | two (a b d:Ex) (x y:Str) (v u:RV) (P:List RV):O9 E W c (.spl a b x y d) (.two true v u::P) ⟨(d,AI E (AI [] [(x,v),(y,u)]),false)::W,P,c⟩
 | op (o:Str) (a b:Ex) (i j:Int) (P:List RV):O9 E W c (.op o a b) (.num j::.num i::P) ⟨(opV o i j,E,false)::W,P,c⟩
noncomputable def ze (E:Ev)(W:List (Ex × Ev × Bool))(c:Nat)(e:Ex)(P:List RV):RS->Prop
 | .go s=>O9 E W c e P s
 | _=>True
theorem ZM (E:Ev)(W:List (Ex × Ev × Bool))(c:Nat)(e:Ex)(P:List RV):ze E W c e P (Ig e E W P c):=by
 cases e with
 | pr a b=>rcases P with _ | ⟨_,_ | _⟩;trivial;trivial;constructor
 | lk a b=>rcases P with _ | ⟨_,_ | _⟩;trivial;trivial;constructor
 | lt x a b=>rcases P with _ | _;trivial;constructor
 | wh a b d =>
  rcases P with _ | ⟨v,_⟩
  ·trivial
  ·cases v with
   | tru _=>constructor
   | _=>trivial
 | opn a x y b =>
  rcases P with _ | ⟨v,_⟩
  ·trivial
  ·cases v with
   | two l _ _=>cases l;constructor;trivial
   | _=>trivial
 | spl a b x y d =>
  rcases P with _ | ⟨v,_⟩
  ·trivial
  ·cases v with
   | two l _ _=>cases l;trivial;constructor
   | emp=>constructor
   | _=>trivial
 | cal a b =>
  rcases P with _ | ⟨_,_ | ⟨v,_⟩⟩
  ·trivial
  ·trivial
  ·cases v with
   | fn _ _ _=>constructor
   | rc _ _ _ _=>constructor
   | _=>trivial
 | op o a b =>
  rcases P with _ | ⟨v,_ | ⟨u,_⟩⟩
  ·trivial
  ·cases v <;> trivial
  ·cases v with
   | num _ =>
    cases u with
    | num _=>constructor
    | _=>trivial
   | _=>trivial
 | _=>trivial
theorem KP (h:Ig e E W P c=.go s):O9 E W c e P s:=by
 have:=ZM E W c e P;rw [h] at this;exact this
noncomputable def gu (W:List (Ex × Ev × Bool))(P:List RV)(c:Nat):Option RV->RS
 | some v=>.go ⟨W,v::P,c⟩
 | none=>.stuck
noncomputable def opens:Ex->Ev->List (Ex × Ev × Bool)->List RV->Nat->RS
 | .nm x,E,W,P,c=>gu W P c (Bk E x)
 | .num i,_,W,P,c=>.go ⟨W,.num i::P,c⟩
 | .tru b,_,W,P,c=>.go ⟨W,.tru b::P,c⟩
 | .emp,_,W,P,c=>.go ⟨W,.emp::P,c⟩
 | .fn x b,E,W,P,c=>.go ⟨W,.fn x b E::P,c⟩
 | .rc f x b,E,W,P,c=>.go ⟨W,.rc f x b E::P,c⟩
 | .cal a b,E,W,P,c=>.go ⟨(a,E,false)::(b,E,false)::(.cal a b,E,true)::W,P,c⟩
 | .pr a b,E,W,P,c=>.go ⟨(a,E,false)::(b,E,false)::(.pr a b,E,true)::W,P,c⟩
 | .lk a b,E,W,P,c=>.go ⟨(a,E,false)::(b,E,false)::(.lk a b,E,true)::W,P,c⟩
 | .op o a b,E,W,P,c=>.go ⟨(a,E,false)::(b,E,false)::(.op o a b,E,true)::W,P,c⟩
 | .lt x a b,E,W,P,c=>.go ⟨(a,E,false)::(.lt x a b,E,true)::W,P,c⟩
 | .wh a b d,E,W,P,c=>.go ⟨(a,E,false)::(.wh a b d,E,true)::W,P,c⟩
 | .opn a x y b,E,W,P,c=>.go ⟨(a,E,false)::(.opn a x y b,E,true)::W,P,c⟩
 | .spl a b x y d,E,W,P,c=>.go ⟨(a,E,false)::(.spl a b x y d,E,true)::W,P,c⟩
noncomputable def Cg (s:Rn):RS:=match s.wait with
 | []=>.stuck
 | (e,E,true)::W=>Ig e E W s.aac s.calls
 | (e,E,false)::W=>opens e E W s.aac s.calls
inductive PN (most:Nat):Rn->Rn->Prop
 | refl (s:Rn):PN most s s
 | go {s s' Qo:Rn}:s.calls<=most->Cg s=.go s'->PN most s' Qo->PN most s Qo
theorem PN.trans (h:PN most s s')(g:PN most s' Qo):PN most s Qo:=by
 induction h with
 | refl=>exact g
 | go h1 h2 _ ih=>exact .go h1 h2 (ih g)
noncomputable def qj (s:Rn):Prop:=∃ e E W,s.wait=(e,E,true)::W/\e.pls≠[]/\e.pls.length<=s.aac.length
noncomputable def zf (most:Nat)(s:Rn):Prop:=∃ s',PN most s s'/\s'.calls<=most/\qj s'/\Cg s'=.stuck
noncomputable def zg (most:Nat)(s:Rn):Prop:=∃ s',PN most s s'/\most < s'.calls
noncomputable def Av (most:Nat)(e:Ex)(c:Nat)(s:Rn)(fin:Nat->RV->Rn):Prop :=
 (∃ w c' v,JQ most e c w c'/\RR v w/\PN most s (fin c' v)/\c<=c'/\c'<=most)\/(ZC most e c/\zf most s)\/(ZD most e c/\zg most s)
section
variable {most:Nat}
theorem Av.seq (h:Av most A c s f1)(F:Fr C)(g:∀ w c' v,RR v w->c<=c'->c'<=most->Av most (C w) c' (f1 c' v) f2):Av most (C A) c s f2:=by
 rcases h with ⟨w,c',v,h1,h2,h3,h4,h5⟩ | ⟨h1,h2⟩ | ⟨h1,h2⟩
 ·rcases g w c' v h2 h4 h5 with ⟨w2,c2,v2,g1,g2,g3,g4,g5⟩ | ⟨g1,g2⟩ | ⟨g1,g2⟩
  ·exact .inl ⟨w2,c2,v2,(h1.fr F).trans g1,g2,h3.trans g3,(),g5⟩
  ·obtain ⟨s',k1,k2⟩:=g2;exact .inr (.inl ⟨g1.pre (h1.fr F),s',h3.trans k1,k2⟩)
  ·obtain ⟨s',k1,k2⟩:=g2;exact .inr (.inr ⟨g1.pre (h1.fr F),s',h3.trans k1,k2⟩)
 ·exact .inr (.inl ⟨h1.fr F,h2⟩)
 ·exact .inr (.inr ⟨h1.fr F,h2⟩)
theorem Av.mst (h1:s.calls<=most)(h2:Cg s=.go s')(h:Av most e c s' f):Av most e c s f:=by
 have k:PN most s s':=.go h1 h2 (.refl _);rcases h with ⟨w,c',v,g1,g2,g3,g4⟩ | ⟨g1,s2,g2,g3⟩ | ⟨g1,s2,g2,g3⟩
 ·exact .inl ⟨w,c',v,g1,g2,k.trans g3,g4⟩
 ·exact .inr (.inl ⟨g1,s2,k.trans g2,g3⟩)
 ·exact .inr (.inr ⟨g1,s2,k.trans g2,g3⟩)
theorem Av.lst {e e':Ex}{b:Bool}{c:Nat}{s:Rn}{f:Nat->RV->Rn}(h1:isV e=false)(h2:stp e=some (e',b))(h3:c+b.toNat<=most)(h:Av most e' (c+b.toNat) s f):Av most e c s f:=by
 have k:JQ most e c e' (c+b.toNat):=.go h1 h2 h3 (.refl _ _);rcases h with ⟨w,c',v,g1,g2,g3,g4,g5⟩ | ⟨g1,g2⟩ | ⟨g1,g2⟩
 ·exact .inl ⟨w,c',v,k.trans g1,g2,g3,(),g5⟩
 ·exact .inr (.inl ⟨g1.pre k,g2⟩)
 ·exact .inr (.inr ⟨g1.pre k,g2⟩)
theorem Av.stuck (h1:isV e=false)(h2:stp e=none)(h3:s.calls<=most)(h5:qj s)(h4:Cg s=.stuck):Av most e c s f :=
 .inr (.inl ⟨⟨e,c,.refl _ _,h1,h2⟩,s,.refl _,h3,h5,h4⟩)
theorem Av.val {w:Ex}{v:RV}{c:Nat}{s:Rn}{f:Nat->RV->Rn}(h:RR v w)(hc:c<=most)(e:s=f c v):Av most w c s f:=.inl ⟨w,c,v,.refl _ _,h,e▸.refl _,Nat.le_refl _,hc⟩
end
theorem RR.op (o:Str)(i j:Int):∃ v,RR v (opV o i j)/\∀ E W P c,opens (opV o i j) E W P c=.go ⟨W,v::P,c⟩:=by
 unfold opV;split
 ·exact ⟨_,.num _,λ_ _ _ _=>rfl⟩
 ·split
  ·exact ⟨_,.num _,λ_ _ _ _=>rfl⟩
  ·split
   ·exact ⟨_,.tru _,λ_ _ _ _=>rfl⟩
   ·exact ⟨_,.tru _,λ_ _ _ _=>rfl⟩
abbrev fR (W:List (Ex × Ev × Bool))(P:List RV):Nat->RV->Rn:=λc v=>⟨W,v::P,c⟩
theorem gw:∀ (m:Nat) (e:Ex) (E:Ev) (σ:Su) (c:Nat) (W:List (Ex × Ev × Bool)) (P:List RV),most+1 - c<=m->c<=most->HB E σ->e.cl (E.map (·.1))->Av most (sub σ e) c ⟨(e,E,false)::W,P,c⟩ (fR W P):=by
 intro m
 induction m with
 | zero=>intros;omega
 | succ m IH =>
 have one:∀ {b:Ex} {E:Ev} {x:Str} {v:RV},b.cl (x::E.map (·.1))->b.cl ((AI E (AI [] [(x,v)])).map (·.1)):=λ{b E x v} h=>Ex.cl.mono (λy hy=>Jm.mpr (List.mem_cons.mp hy)) h;have two:∀ {b:Ex} {E:Ev} {x y:Str} {v u:RV},b.cl (y::x::E.map (·.1))->b.cl ((AI E (AI [] [(x,v),(y,u)])).map (·.1)):=λ{b E x y v u} h=>Ex.cl.mono (λz hz=>by
  rw [Cy,Gu,<- Cy,Jm,Jm];simpa using hz) h
 intro e
 induction e with
 | nm x =>
  intro E σ c W P hm hc EE cl;obtain ⟨wv,h1,h2⟩:=EE.at';obtain ⟨v,hv⟩:=Option.isSome_iff_exists.mp (Cy.mp cl);have e1:sub σ (.nm x)=wv x:=by simp [sub,h1 x v hv]
  rw [e1];exact Av.mst (s':=⟨W,v::P,c⟩) hc (congrArg (gu _ _ _) hv) (Av.val (h2 x v hv) hc rfl)
 | num i=>intro E σ c W P hm hc EE cl;exact Av.mst (s':=⟨W,.num i::P,c⟩) hc rfl (Av.val (.num i) hc rfl)
 | tru i=>intro E σ c W P hm hc EE cl;exact Av.mst (s':=⟨W,.tru i::P,c⟩) hc rfl (Av.val (.tru i) hc rfl)
 | emp=>intro E σ c W P hm hc EE cl;exact Av.mst (s':=⟨W,.emp::P,c⟩) hc rfl (Av.val .emp hc rfl)
 | fn x b _ =>
  intro E σ c W P hm hc EE cl;obtain ⟨wv,h1,h2⟩:=EE.at';exact Av.mst (s':=⟨W,.fn x b E::P,c⟩) hc rfl (Av.val (.fn EE.no h1 h2 cl) hc rfl)
 | rc f x b _ =>
  intro E σ c W P hm hc EE cl;obtain ⟨wv,h1,h2⟩:=EE.at';exact Av.mst (s':=⟨W,.rc f x b E::P,c⟩) hc rfl (Av.val (.rc EE.no h1 h2 cl) hc rfl)
 | pr a b ia ib =>
  intro E σ c W P hm hc EE cl;refine Av.mst (s':=⟨(a,E,false)::(b,E,false)::(.pr a b,E,true)::W,P,c⟩) hc rfl ?_;refine Av.seq (C:=λz=>.pr z (sub σ b)) (A:=sub σ a) (ia E σ c _ P hm hc EE cl.1) (ZE _) λw1 c1 v1 r1 k1 Eo=>?_;refine Av.seq (C:=.pr w1) (A:=sub σ b) (ib E σ c1 _ (v1::P) () Eo EE cl.2) (ZF r1.isV) λw2 c2 v2 r2 k2 JR=>?_;exact Av.mst (s':=⟨W,.two false v1 v2::P,c2⟩) JR rfl (Av.val (.pr r1 r2) JR rfl)
 | lk a b ia ib =>
  intro E σ c W P hm hc EE cl;refine Av.mst (s':=⟨(a,E,false)::(b,E,false)::(.lk a b,E,true)::W,P,c⟩) hc rfl ?_;refine Av.seq (C:=λz=>.lk z (sub σ b)) (A:=sub σ a) (ia E σ c _ P hm hc EE cl.1) (ZG _) λw1 c1 v1 r1 k1 Eo=>?_;refine Av.seq (C:=.lk w1) (A:=sub σ b) (ib E σ c1 _ (v1::P) () Eo EE cl.2) (ZH r1.isV) λw2 c2 v2 r2 k2 JR=>?_;exact Av.mst (s':=⟨W,.two true v1 v2::P,c2⟩) JR rfl (Av.val (.lk r1 r2) JR rfl)
 | op o a b ia ib =>
  intro E σ c W P hm hc EE cl;refine Av.mst (s':=⟨(a,E,false)::(b,E,false)::(.op o a b,E,true)::W,P,c⟩) hc rfl ?_;refine Av.seq (C:=λz=>.op o z (sub σ b)) (A:=sub σ a) (ia E σ c _ P hm hc EE cl.1) (ZI o _) λw1 c1 v1 r1 k1 Eo=>?_;refine Av.seq (C:=.op o w1) (A:=sub σ b) (ib E σ c1 _ (v1::P) () Eo EE cl.2) (ZJ o r1.isV) λw2 c2 v2 r2 k2 JR=>?_;have i1:=r1.isV;have i2:=r2.isV;have st:stp (.op o w1 w2)=red (.op o w1 w2):=Xs i1 i2;cases r1 with
  | num i =>
   cases r2 with
   | num j =>
    obtain ⟨v,hv,ho⟩:=RR.op o i j;refine Av.mst (s':=⟨(opV o i j,E,false)::W,P,c2⟩) JR rfl ?_;refine Av.mst (s':=⟨W,v::P,c2⟩) JR (by simp only [Cg];exact ho _ _ _ _) ?_;exact Av.lst (e':=opV o i j) (b:=false) rfl (by rw [st];rfl) JR (Av.val hv JR rfl)
   | _=>exact Av.stuck rfl (by rw [st];rfl) JR ⟨_,_,_,rfl,by simp [Ex.pls],by simp [Ex.pls]⟩ rfl
  | _=>cases r2 <;> exact Av.stuck rfl (by rw [st];rfl) JR ⟨_,_,_,rfl,by simp [Ex.pls],by simp [Ex.pls]⟩ rfl
 | lt x a b ia ib =>
  intro E σ c W P hm hc EE cl;refine Av.mst (s':=⟨(a,E,false)::(.lt x a b,E,true)::W,P,c⟩) hc rfl ?_;refine Av.seq (C:=λz=>.lt x z (sub (σ.rm x) b)) (A:=sub σ a) (ia E σ c _ P hm hc EE cl.1) (gp x _) λw1 c1 v1 r1 k1 Eo=>?_;refine Av.mst (s':=⟨(b,AI E (AI [] [(x,v1)]),false)::W,P,c1⟩) Eo rfl ?_;refine Av.lst (e':=give x w1 (sub (σ.rm x) b)) (b:=false) rfl (VG r1.isV) Eo ?_;rw [KL EE.cl];exact ib _ _ c1 W P () Eo ((EE.add x r1).look (O8 E x v1)) (one cl.2)
 | wh a b d ia ib ic =>
  intro E σ c W P hm hc EE cl;refine Av.mst (s':=⟨(a,E,false)::(.wh a b d,E,true)::W,P,c⟩) hc rfl ?_;refine Av.seq (C:=λz=>.wh z (sub σ b) (sub σ d)) (A:=sub σ a) (ia E σ c _ P hm hc EE cl.1) (gq _ _) λw1 c1 v1 r1 k1 Eo=>?_;have i1:=r1.isV;have st:stp (.wh w1 (sub σ b) (sub σ d))=red (.wh w1 (sub σ b) (sub σ d)):=VG i1;cases r1 with
  | tru t =>
   cases t with
   | true =>
    refine Av.mst (s':=⟨(b,E,false)::W,P,c1⟩) Eo rfl ?_;exact Av.lst (e':=sub σ b) (b:=false) rfl (by rw [st];rfl) Eo (ib E σ c1 W P () Eo EE cl.2.1)
   | false =>
    refine Av.mst (s':=⟨(d,E,false)::W,P,c1⟩) Eo rfl ?_;exact Av.lst (e':=sub σ d) (b:=false) rfl (by rw [st];rfl) Eo (ic E σ c1 W P () Eo EE cl.2.2)
  | _=>exact Av.stuck rfl (by rw [st];rfl) Eo ⟨_,_,_,rfl,by simp [Ex.pls],by simp [Ex.pls]⟩ rfl
 | opn a x y b ia ib =>
  intro E σ c W P hm hc EE cl;refine Av.mst (s':=⟨(a,E,false)::(.opn a x y b,E,true)::W,P,c⟩) hc rfl ?_;refine Av.seq (C:=λz=>.opn z x y (sub ((σ.rm x).rm y) b)) (A:=sub σ a) (ia E σ c _ P hm hc EE cl.1) (ZK x y _) λw1 c1 v1 r1 k1 Eo=>?_;have i1:=r1.isV;have st:stp (.opn w1 x y (sub ((σ.rm x).rm y) b))=red (.opn w1 x y (sub ((σ.rm x).rm y) b)):=VG i1;cases r1 with
  | @pr va vb wa wb ra rb =>
   refine Av.mst (s':=⟨(b,AI E (AI [] [(x,va),(y,vb)]),false)::W,P,c1⟩) Eo rfl ?_;refine Av.lst (e':=aaf x y wa wb (sub ((σ.rm x).rm y) b)) (b:=false) rfl (by rw [st];rfl) Eo ?_;rw [FE EE.cl x y wa rb.cl];exact ib _ _ c1 W P () Eo (((EE.add x ra).add y rb).look (Gu E x y va vb)) (two cl.2)
  | _=>exact Av.stuck rfl (by rw [st];rfl) Eo ⟨_,_,_,rfl,by simp [Ex.pls],by simp [Ex.pls]⟩ rfl
 | spl a b x y d ia ib ic =>
  intro E σ c W P hm hc EE cl;refine Av.mst (s':=⟨(a,E,false)::(.spl a b x y d,E,true)::W,P,c⟩) hc rfl ?_;refine Av.seq (C:=λz=>.spl z (sub σ b) x y (sub ((σ.rm x).rm y) d)) (A:=sub σ a) (ia E σ c _ P hm hc EE cl.1) (ZL _ x y _) λw1 c1 v1 r1 k1 Eo=>?_;have i1:=r1.isV;have st:stp (.spl w1 (sub σ b) x y (sub ((σ.rm x).rm y) d))=red (.spl w1 (sub σ b) x y (sub ((σ.rm x).rm y) d)):=VG i1;cases r1 with
  | emp =>
   refine Av.mst (s':=⟨(b,E,false)::W,P,c1⟩) Eo rfl ?_;exact Av.lst (e':=sub σ b) (b:=false) rfl (by rw [st];rfl) Eo (ib E σ c1 W P () Eo EE cl.2.1)
  | @lk va vb wa wb ra rb =>
   refine Av.mst (s':=⟨(d,AI E (AI [] [(x,va),(y,vb)]),false)::W,P,c1⟩) Eo rfl ?_;refine Av.lst (e':=aaf x y wa wb (sub ((σ.rm x).rm y) d)) (b:=false) rfl (by rw [st];rfl) Eo ?_;rw [FE EE.cl x y wa rb.cl];exact ic _ _ c1 W P () Eo (((EE.add x ra).add y rb).look (Gu E x y va vb)) (two cl.2.2)
  | _=>exact Av.stuck rfl (by rw [st];rfl) Eo ⟨_,_,_,rfl,by simp [Ex.pls],by simp [Ex.pls]⟩ rfl
 | cal a b ia ib =>
  intro E σ c W P hm hc EE cl;refine Av.mst (s':=⟨(a,E,false)::(b,E,false)::(.cal a b,E,true)::W,P,c⟩) hc rfl ?_;refine Av.seq (C:=λz=>.cal z (sub σ b)) (A:=sub σ a) (ia E σ c _ P hm hc EE cl.1) (VH _) λw1 c1 v1 r1 k1 Eo=>?_;refine Av.seq (C:=.cal w1) (A:=sub σ b) (ib E σ c1 _ (v1::P) () Eo EE cl.2) (VI r1.isV) λw2 c2 v2 r2 k2 JR=>?_;have i1:=r1.isV;have i2:=r2.isV;have st:stp (.cal w1 w2)=red (.cal w1 w2):=Xs i1 i2;cases r1 with
  | @fn x b' E' σ' wv g1 g2 g3 g4 =>
   have gy:HB E' σ':=⟨g1,wv,g2,g3⟩;by_cases ov:c2+1<=most
   ·refine Av.mst (s':=⟨(b',AI E' (AI [] [(x,v2)]),false)::W,P,c2+1⟩) JR rfl ?_;refine Av.lst (e':=give x w2 (sub (σ'.rm x) b')) (b:=true) rfl (by rw [st];rfl) ov ?_;rw [KL gy.cl];exact IH b' _ _ (c2+1) W P () ov ((gy.add x r2).look (O8 E' x v2)) (one g4)
   ·exact .inr (.inr ⟨⟨_,c2,_,true,.refl _ _,rfl,st,by simp;omega⟩,⟨(b',AI E' (AI [] [(x,v2)]),false)::W,P,c2+1⟩,.go JR rfl (.refl _),by simp;omega⟩)
  | @rc f x b' E' σ' wv g1 g2 g3 g4 =>
   have gy:HB E' σ':=⟨g1,wv,g2,g3⟩;have R':RR (.rc f x b' E') (.rc f x (sub ((σ'.rm f).rm x) b')):=.rc g1 g2 g3 g4;by_cases ov:c2+1<=most
   ·refine Av.mst (s':=⟨(b',AI E' (AI [] [(f,.rc f x b' E'),(x,v2)]),false)::W,P,c2+1⟩) JR rfl ?_;refine Av.lst (e':=aaf f x (.rc f x (sub ((σ'.rm f).rm x) b')) w2 (sub ((σ'.rm f).rm x) b')) (b:=true) rfl (by rw [st];rfl) ov ?_;rw [FE gy.cl f x _ r2.cl];exact IH b' _ _ (c2+1) W P () ov (((gy.add f R').add x r2).look (Gu E' f x _ v2)) (two g4)
   ·exact .inr (.inr ⟨⟨_,c2,_,true,.refl _ _,rfl,st,by simp;omega⟩,⟨(b',AI E' (AI [] [(f,.rc f x b' E'),(x,v2)]),false)::W,P,c2+1⟩,.go JR rfl (.refl _),by simp;omega⟩)
  | _=>exact Av.stuck rfl (by rw [st];rfl) JR ⟨_,_,_,rfl,by simp [Ex.pls],by simp [Ex.pls]⟩ rfl
inductive RB (S Hm:Nat):RV->Prop
 | num (i:Int):RB S Hm (.num i)
 | tru (b:Bool):RB S Hm (.tru b)
 | emp:RB S Hm .emp
 | two (l:Bool) {a b:RV}:RB S Hm a->RB S Hm b->RB S Hm (.two l a b)
 | fn (x:Str) {b:Ex} {E:Ev}:b.sz<=S->b.opk->E.length<=Hm->(∀ p∈E,RB S Hm p.2)->RB S Hm (.fn x b E)
 | rc (f x:Str) {b:Ex} {E:Ev}:b.sz<=S->b.opk->E.length<=Hm->(∀ p∈E,RB S Hm p.2)->RB S Hm (.rc f x b E)
theorem RB.mono (h:RB S Hm v)(q:Hm<=gA):RB S gA v:=by
 induction h with
 | num i=>exact .num i
 | tru b=>exact .tru b
 | emp=>exact .emp
 | two l _ _ ia ib=>exact .two l ia ib
 | fn x h1 h0 h2 _ ih=>exact .fn x h1 h0 () ih
 | rc f x h1 h0 h2 _ ih=>exact .rc f x h1 h0 () ih
structure EB (S Hm:Nat)(E:Ev):Prop where
 len:E.length<=Hm
 at':∀ p∈E,RB S Hm p.2
theorem EB.mono (h:EB S Hm E)(q:Hm<=gA):EB S gA E:=⟨Nat.le_trans h.len q,λp hp=>(h.at' p hp).mono q⟩
theorem F6 (E:Ev)(y:Str)(v:RV):(BK E y v).length<=E.length+1:=by
 unfold BK;split
 ·simp
 ·simp
theorem Sg (h:p∈BK E y v):p.2=v\/p∈E:=by
 unfold BK at h;split at h
 ·obtain ⟨q,hq,rfl⟩:=List.mem_map.mp h;by_cases e:q.1=y
  ·simp [e]
  ·simp only [e,if_false];exact .inr hq
 ·rcases List.mem_append.mp h with h | h
  ·exact .inr h
  ·rw [List.mem_singleton.mp h];exact .inl rfl
theorem EB.put (h:EB S Hm E)(hv:RB S Hm v)(y:Str):EB S (Hm+1) (BK E y v) :=
 ⟨by have:=F6 E y v;have:=h.len;omega,λp hp=>(Sg hp).elim (λe=>e▸hv.mono ()) λe=>(h.at' p e).mono ()⟩
theorem EB.one (h:EB S Hm E)(hv:RB S Hm v)(x:Str):EB S (Hm+2) (AI E (AI [] [(x,v)])):=(h.put hv x).mono ()
theorem EB.two {S Hm:Nat}{E:Ev}(h:EB S Hm E){v u:RV}(hv:RB S Hm v)(hu:RB S Hm u)(x y:Str):EB S (Hm+2) (AI E (AI [] [(x,v),(y,u)])):=by
 have e:AI [] [(x,v),(y,u)]=if x=y then [(x,u)] else [(x,v),(y,u)]:=by
  by_cases h:x=y <;> simp [AI,BK,h]
 rw [e];by_cases q:x=y
 ·simp only [q,if_true];exact (h.put hu y).mono ()
 ·simp only [q,if_false];exact (h.put hv x).put (hu.mono ()) y
namespace Ex
noncomputable def ws:Ex->Nat
 | nm _ | num _ | tru _ | emp | fn _ _ | rc _ _ _=>1
 | cal a b=>2+ws a+ws b | lt _ a b=>2+ws a+ws b | wh a b c=>2+ws a+ws b+ws c | pr a b=>2+ws a+ws b
 | opn a _ _ b=>2+ws a+ws b | lk a b=>2+ws a+ws b | spl a b _ _ c=>2+ws a+ws b+ws c | op _ a b=>3+ws a+ws b
noncomputable def wf:Ex->Nat
 | nm _ | num _ | tru _ | emp | fn _ _ | rc _ _ _ | cal _ _=>1 | lt _ _ b=>1+ws b | wh _ b c=>1+ws b+ws c | pr _ _=>1
 | opn _ _ _ b=>1+ws b | lk _ _=>1 | spl _ b _ _ c=>1+ws b+ws c | op _ _ _=>2
theorem aah:∀ e:Ex,ws e<=3 * sz e
 | nm _ | num _ | tru _ | emp=>by simp [ws,sz]
 | fn _ b=>by simp only [ws,sz];omega
 | rc _ _ b=>by simp only [ws,sz];omega
 | cal a b | pr a b | lk a b=>by have:=aah a;have:=aah b;simp only [ws,sz];omega
 | op _ a b=>by have:=aah a;have:=aah b;simp only [ws,sz];omega
 | lt _ a b=>by have:=aah a;have:=aah b;simp only [ws,sz];omega
 | wh a b c=>by have:=aah a;have:=aah b;have:=aah c;simp only [ws,sz];omega
 | opn a _ _ b=>by have:=aah a;have:=aah b;simp only [ws,sz];omega
 | spl a b _ _ c=>by have:=aah a;have:=aah b;have:=aah c;simp only [ws,sz];omega
end Ex
noncomputable def G4:Ex × Ev × Bool->Nat
 | (e,_,true)=>e.wf
 | (e,_,false)=>e.ws
noncomputable def FF:List (Ex × Ev × Bool)->Nat
 | []=>0
 | p::r=>G4 p+FF r
theorem ZN (p:Ex × Ev × Bool):1<=G4 p:=by
 obtain ⟨e,E,b⟩:=p;cases b
 ·cases e <;> simp only [G4,Ex.ws] <;> omega
 ·cases e <;> simp only [G4,Ex.wf] <;> omega
theorem Sh:∀ W:List (Ex × Ev × Bool),W.length<=FF W
 | []=>Nat.le_refl _
 | p::r=>by have:=Sh r;have:=ZN p;simp only [FF,List.length_cons];omega
noncomputable def Rn.mu (S most:Nat)(s:Rn):Nat:=FF s.wait+(most+1 - s.calls) * (3 * S)
structure GoodR (S most B:Nat)(s:Rn):Prop where
 ex:∃ Hm,(∀ p∈s.wait,p.1.sz<=S/\p.1.opk/\EB S Hm p.2.1)/\(∀ v∈s.aac,RB S Hm v)/\Hm+2 * s.mu S most<=B
 pl:s.aac.length+s.mu S most<=B
theorem Si (x:a)(y:b)(z:c):a/\b/\c:=⟨x,y,z⟩
noncomputable def lX (S Hm:Nat)(W:List (Ex × Ev × Bool)):Prop:=∀ p∈W,p.1.sz<=S/\p.1.opk/\EB S Hm p.2.1
theorem Ci (q1:b.sz<=S)(q2:b.opk)(q3:EB S Hm E')(q4:lX S Hm W'):lX S Hm ((b,E',zh)::W'):=by
 intro p hp;rcases List.mem_cons.mp hp with rfl | hp
 ·exact ⟨q1,q2,q3⟩
 ·exact q4 p hp
theorem push (q1:RB S Hm v)(q2:∀ v∈P,RB S Hm v):∀ u∈v::P,RB S (Hm+0) u:=by
 intro u hu;rcases List.mem_cons.mp hu with rfl | hu
 ·exact q1
 ·exact q2 u hu
theorem O9.good (h:O9 E W c e P s')(hz:e.sz<=S)(ho:e.opk)(hE:EB S Hm E)(gW:∀ k,lX S (Hm+k) W)(g2:∀ v∈P,RB S Hm v)(hc:c<=most):(∃ k,k<=2/\lX S (Hm+k) s'.wait/\∀ v∈s'.aac,RB S (Hm+k) v)/\s'.aac.length<=P.length+1/\s'.mu S most < Rn.mu S most ⟨(e,E,true)::W,P,c⟩:=by
 cases h with
 | pr a b u v P =>
  exact Si ⟨0,(),gW 0,push (.two false (g2 _ (.tail _ (.head _))) (g2 _ (.head _))) λv hv=>g2 v (.tail _ (.tail _ hv))⟩ (by simp only [List.length_cons];omega) (by simp only [Rn.mu,FF,G4,Ex.wf];omega)
 | lk a b u v P =>
  exact Si ⟨0,(),gW 0,push (.two true (g2 _ (.tail _ (.head _))) (g2 _ (.head _))) λv hv=>g2 v (.tail _ (.tail _ hv))⟩ (by simp only [List.length_cons];omega) (by simp only [Rn.mu,FF,G4,Ex.wf];omega)
 | fn a' b' v x b E' P =>
  have hv:=g2 _ (.head _);cases g2 _ (.tail _ (.head _)) with
  | fn _ q1 q2 q3 q4 =>
  have hb:=Ex.aah b;refine Si ⟨2,(),Ci q1 q2 (EB.one ⟨q3,q4⟩ hv x) (gW 2),λu hu=>(g2 u (.tail _ (.tail _ hu))).mono ()⟩ (by simp only [List.length_cons];omega) ?_;simp only [Rn.mu,FF,G4,Ex.wf];rw [show most+1 - c=(most+1 - (c+1))+1 by omega,Nat.add_mul];omega
 | rc a' b' v f x b E' P =>
  have hv:=g2 _ (.head _);have hr:=g2 _ (.tail _ (.head _));cases hr with
  | rc _ _ q1 q2 q3 q4 =>
  have hb:=Ex.aah b;refine Si ⟨2,(),Ci q1 q2 (EB.two ⟨q3,q4⟩ (.rc f x q1 q2 q3 q4) hv f x) (gW 2),λu hu=>(g2 u (.tail _ (.tail _ hu))).mono ()⟩ (by simp only [List.length_cons];omega) ?_;simp only [Rn.mu,FF,G4,Ex.wf];rw [show most+1 - c=(most+1 - (c+1))+1 by omega,Nat.add_mul];omega
 | lt x a b v P =>
  have Gv:=hz;simp only [Ex.sz] at Gv;exact Si ⟨2,(),Ci () ho.2 (EB.one hE (g2 _ (.head _)) _) (gW 2),λu hu=>(g2 u (.tail _ hu)).mono ()⟩ (by simp only [List.length_cons];omega) (by simp only [Rn.mu,FF,G4,Ex.wf];omega)
 | wh d a b t P =>
  have Gv:=hz;simp only [Ex.sz] at Gv;cases t
  ·exact Si ⟨0,(),Ci (by simp;omega) ho.2.2 hE (gW 0),λu hu=>g2 u (.tail _ hu)⟩ (by simp only [List.length_cons];omega) (by simp only [Rn.mu,FF,G4,Ex.wf];simp;omega)
  ·exact Si ⟨0,(),Ci (by simp;omega) ho.2.1 hE (gW 0),λu hu=>g2 u (.tail _ hu)⟩ (by simp only [List.length_cons];omega) (by simp only [Rn.mu,FF,G4,Ex.wf];simp;omega)
 | opn a b x y v u P =>
  have Gv:=hz;simp only [Ex.sz] at Gv;cases g2 _ (.head _) with
  | two _ ha hb =>
  exact Si ⟨2,(),Ci () ho.2 (EB.two hE ha hb _ _) (gW 2),λu hu=>(g2 u (.tail _ hu)).mono ()⟩ (by simp only [List.length_cons];omega) (by simp only [Rn.mu,FF,G4,Ex.wf];omega)
 | emp a b d x y P =>
  have Gv:=hz;simp only [Ex.sz] at Gv;exact Si ⟨0,(),Ci () ho.2.1 hE (gW 0),λu hu=>g2 u (.tail _ hu)⟩ (by simp only [List.length_cons];omega) (by simp only [Rn.mu,FF,G4,Ex.wf];omega)
 | two a b d x y v u P =>
  have Gv:=hz;simp only [Ex.sz] at Gv;cases g2 _ (.head _) with
  | two _ ha hb =>
  exact Si ⟨2,(),Ci () ho.2.2 (EB.two hE ha hb _ _) (gW 2),λu hu=>(g2 u (.tail _ hu)).mono ()⟩ (by simp only [List.length_cons];omega) (by simp only [Rn.mu,FF,G4,Ex.wf];omega)
 | op o a b i j P =>
  have hs:(opV o i j).sz=1/\(opV o i j).opk/\(opV o i j).ws=1:=by
   unfold opV;split
   ·exact ⟨rfl,trivial,rfl⟩
   ·split
    ·exact ⟨rfl,trivial,rfl⟩
    ·split <;> exact ⟨rfl,trivial,rfl⟩
  have Gv:=hz;simp only [Ex.sz] at Gv;exact Si ⟨0,(),Ci () hs.2.1 hE (gW 0),λu hu=>g2 u (.tail _ (.tail _ hu))⟩ (by simp only [List.length_cons];omega) (by simp only [Rn.mu,FF,G4,Ex.wf,hs.2.2];omega)
theorem GoodR.step (G:GoodR S most B s)(hc:s.calls<=most)(h:Cg s=.go s'):GoodR S most B s'/\s'.mu S most < s.mu S most:=by
 obtain ⟨⟨Hm,g1,g2,g3⟩,g4⟩:=G;obtain ⟨wait,aac,c⟩:=s;simp only at g1 g2 hc g4;have fin:∀ (s':Rn),(∃ k,k<=2/\(∀ p∈s'.wait,p.1.sz<=S/\p.1.opk/\EB S (Hm+k) p.2.1)/\(∀ v∈s'.aac,RB S (Hm+k) v))->s'.aac.length<=aac.length+1->s'.mu S most < Rn.mu S most ⟨wait,aac,c⟩->GoodR S most B s'/\s'.mu S most < Rn.mu S most ⟨wait,aac,c⟩:=by
  rintro s' ⟨k,hk,k1,k2⟩ k3 k4;refine ⟨⟨⟨Hm+k,k1,k2,?_⟩,?_⟩,k4⟩
  ·omega
  ·omega
 cases wait with
 | nil=>cases h
 | cons p W =>
 obtain ⟨e,E,fl⟩:=p;obtain ⟨hz,ho,hE⟩:=g1 (e,E,fl) (.head _);have gW:∀ k,∀ p∈W,p.1.sz<=S/\p.1.opk/\EB S (Hm+k) p.2.1:=λk p hp=>by
  obtain ⟨a,b,d⟩:=g1 p (.tail _ hp);exact ⟨a,b,d.mono ()⟩
 simp only at hz ho hE;cases fl with
 | false =>
  simp only [Cg] at h;cases e with
  | nm x =>
   change gu _ _ _ (Bk E x)=_ at h;cases q:Bk E x with
   | none=>rw [q] at h;cases h
   | some v =>
    rw [q] at h;cases h;have hv:RB S Hm v:=by
     simp only [Bk,Option.map_eq_some_iff] at q;obtain ⟨p,hp,rfl⟩:=q;exact hE.at' p (List.mem_of_find?_eq_some hp)
    exact fin _ ⟨0,(),gW 0,push hv g2⟩ (by simp) (by simp only [Rn.mu,FF,G4,Ex.ws];omega)
  | num i=>cases h;exact fin _ ⟨0,(),gW 0,push (.num i) g2⟩ (by simp) (by simp only [Rn.mu,FF,G4,Ex.ws];omega)
  | tru i=>cases h;exact fin _ ⟨0,(),gW 0,push (.tru i) g2⟩ (by simp) (by simp only [Rn.mu,FF,G4,Ex.ws];omega)
  | emp=>cases h;exact fin _ ⟨0,(),gW 0,push .emp g2⟩ (by simp) (by simp only [Rn.mu,FF,G4,Ex.ws];omega)
  | fn x b=>cases h;exact fin _ ⟨0,(),gW 0,push (.fn x (by simp only [Ex.sz] at hz;omega) ho hE.len hE.at') g2⟩ (by simp) (by simp only [Rn.mu,FF,G4,Ex.ws];omega)
  | rc f x b=>cases h;exact fin _ ⟨0,(),gW 0,push (.rc f x (by simp only [Ex.sz] at hz;omega) ho hE.len hE.at') g2⟩ (by simp) (by simp only [Rn.mu,FF,G4,Ex.ws];omega)
  | cal a b | pr a b | lk a b =>
   cases h;have Gv:=hz;simp only [Ex.sz] at Gv;exact fin _ ⟨0,(),Ci () ho.1 hE (Ci () ho.2 hE (Ci hz ho hE (gW 0))),g2⟩ (by simp) (by simp only [Rn.mu,FF,G4,Ex.ws,Ex.wf];omega)
  | op o a b =>
   cases h;have Gv:=hz;simp only [Ex.sz] at Gv;exact fin _ ⟨0,(),Ci () ho.2.1 hE (Ci () ho.2.2 hE (Ci hz ho hE (gW 0))),g2⟩ (by simp) (by simp only [Rn.mu,FF,G4,Ex.ws,Ex.wf];omega)
  | lt x a b | wh a b d | opn a x y b | spl a b x y d =>
   cases h;have Gv:=hz;simp only [Ex.sz] at Gv;exact fin _ ⟨0,(),Ci () ho.1 hE (Ci hz ho hE (gW 0)),g2⟩ (by simp) (by simp only [Rn.mu,FF,G4,Ex.ws,Ex.wf];omega)
 | true =>
  simp only [Cg] at h;obtain ⟨a,b,c⟩:=(KP h).good hz ho hE gW g2 hc;exact fin _ a b c
inductive RO where
 | val (v:RV) (c:Nat) | stuck | over
inductive Sj (most:Nat):Nat->Rn->RO->Prop
 | val {s:Rn} {v:RV} {P:List RV}:s.wait=[]->s.calls<=most->s.aac=v::P->Sj most 0 s (.val v s.calls)
 | over {s:Rn}:most < s.calls->Sj most 0 s .over
 | stuck {s:Rn}:s.calls<=most->qj s->Cg s=.stuck->Sj most 0 s .stuck
 | go {s s':Rn} {m:Nat} {o:RO}:s.calls<=most->s.wait≠[]->Cg s=.go s'->Sj most m s' o->Sj most (m+1) s o
theorem PN.en (h:PN most s s')(g:Sj most m s' o):∃ m,Sj most m s o:=by
 induction h with
 | refl=>exact ⟨m,g⟩
 | @go s s' Qo h1 h2 _ ih =>
  obtain ⟨k,h⟩:=ih g;exact ⟨k+1,.go h1 (λz=>by simp only [Cg,z] at h2;cases h2) h2 h⟩
inductive lY:RO->LO->Prop
 | val {v:RV} {w:Ex} (c:Nat):RR v w->lY (.val v c) (.val w c)
 | stuck:lY .stuck .stuck
 | over:lY .over .over
theorem ZO (hc:e.cl []):∃ n m O o,Sj most n ⟨[(e,[],false)],[],0⟩ O/\Sf most m e 0 o/\lY O o:=by
 have B:=gw (most:=most) (most+1) e [] (λ_=>none) 0 [] [] () (Nat.zero_le _) ⟨λ_ _=>rfl,λ_=>.emp,λ_ _ h=>(by cases h),λ_ _ h=>(by cases h)⟩ hc;rw [KN] at B;rcases B with ⟨w,c,v,g1,g2,g3,g4,g5⟩ | ⟨⟨e',c',g1,g2,g3⟩,s',k1,k2,k3,k4⟩ | ⟨⟨e',c',Xt,b,g1,g2,g3,g4⟩,s',k1,k2⟩
 ·obtain ⟨m,h⟩:=g1.en (.val c g2.isV);obtain ⟨n,hn⟩:=g3.en (.val (s:=⟨[],[v],c⟩) rfl g5 rfl);exact ⟨n,m,_,_,hn,h,.val c g2⟩
 ·obtain ⟨m,h⟩:=g1.en (.stuck c' g2 g3);obtain ⟨n,hn⟩:=k1.en (.stuck k2 k3 k4);exact ⟨n,m,_,_,hn,h,.stuck⟩
 ·obtain ⟨m,h⟩:=g1.en (.over g2 g3 g4);obtain ⟨n,hn⟩:=k1.en (.over k2);exact ⟨n,m,_,_,hn,h,.over⟩
open KM
abbrev Gm:=Str->Kd->Prop
noncomputable def Gm.put (Γ:Gm)(x:Str)(T:Kd->Prop):Gm:=λy t=>if y=x then T t else Γ y t
noncomputable def g0:Gm:=λ_ _=>False
noncomputable def Xu (o:Str):Kd:=if o="plus" then .num else if o="minus" then .num else .tru
inductive HK:Gm->Ex->Kd->Prop
 | nm {Γ:Gm} {x:Str} {g:Kd}:Γ x g->HK Γ (.nm x) g
 | num {Γ:Gm} (i:Int):HK Γ (.num i) .num
 | tru {Γ:Gm} (b:Bool):HK Γ (.tru b) .tru
 | emp {Γ:Gm} (a:Kd):HK Γ .emp (.ls a)
 | fn {Γ:Gm} {x:Str} {b:Ex} {a r:Kd}:HK (Γ.put x (·=a)) b r->HK Γ (.fn x b) (.fn a r)
 | rc {Γ:Gm} {f x:Str} {b:Ex} {a r:Kd}:HK ((Γ.put f (·=.fn a r)).put x (·=a)) b r->HK Γ (.rc f x b) (.fn a r)
 | cal {Γ:Gm} {e e':Ex} {a r:Kd}:HK Γ e (.fn a r)->HK Γ e' a->HK Γ (.cal e e') r
 | lt {Γ:Gm} {x:Str} {e e':Ex} {g t0:Kd} (T:Kd->Prop):HK Γ e t0->(∀ t,T t->HK Γ e t)->HK (Γ.put x T) e' g->HK Γ (.lt x e e') g
 | wh {Γ:Gm} {e e1 e2:Ex} {g:Kd}:HK Γ e .tru->HK Γ e1 g->HK Γ e2 g->HK Γ (.wh e e1 e2) g
 | pr {Γ:Gm} {e e':Ex} {a b:Kd}:HK Γ e a->HK Γ e' b->HK Γ (.pr e e') (.pr a b)
 | lk {Γ:Gm} {e e':Ex} {a:Kd}:HK Γ e a->HK Γ e' (.ls a)->HK Γ (.lk e e') (.ls a)
 | opn {Γ:Gm} {x y:Str} {e e':Ex} {a b g:Kd}:HK Γ e (.pr a b)->HK ((Γ.put x (·=a)).put y (·=b)) e' g->HK Γ (.opn e x y e') g
 | spl {Γ:Gm} {x y:Str} {e e1 e2:Ex} {a g:Kd}:HK Γ e (.ls a)->HK Γ e1 g->HK ((Γ.put x (·=a)).put y (·=.ls a)) e2 g->HK Γ (.spl e e1 x y e2) g
 | op {Γ:Gm} {o:Str} {e e':Ex} {g:Kd}:g=Xu o->HK Γ e .num->HK Γ e' .num->HK Γ (.op o e e') g
noncomputable def zi (Γ:Gm):Ex->Kd->Prop
 | .nm x,g=>Γ x g
 | .num _,g=>g=.num
 | .tru _,g=>g=.tru
 | .emp,g=>∃ a,g=.ls a
 | .fn x b,g=>∃ a r,g=.fn a r/\HK (Γ.put x (·=a)) b r
 | .rc f x b,g=>∃ a r,g=.fn a r/\HK ((Γ.put f (·=.fn a r)).put x (·=a)) b r
 | .cal e e',r=>∃ a,HK Γ e (.fn a r)/\HK Γ e' a
 | .lt x e e',g=>∃ T t0,HK Γ e t0/\(∀ t,T t->HK Γ e t)/\HK (Γ.put x T) e' g
 | .wh e a b,g=>HK Γ e .tru/\HK Γ a g/\HK Γ b g
 | .pr e e',g=>∃ a b,g=.pr a b/\HK Γ e a/\HK Γ e' b
 | .lk e e',g=>∃ a,g=.ls a/\HK Γ e a/\HK Γ e' (.ls a)
 | .opn e x y e',g=>∃ a b,HK Γ e (.pr a b)/\HK ((Γ.put x (·=a)).put y (·=b)) e' g
 | .spl e e1 x y e2,g=>∃ a,HK Γ e (.ls a)/\HK Γ e1 g/\HK ((Γ.put x (·=a)).put y (·=.ls a)) e2 g
 | .op o e e',g=>g=Xu o/\HK Γ e .num/\HK Γ e' .num
theorem HK.inv (h:HK Γ e g):zi Γ e g:=by
 cases h with
 | nm h=>exact h
 | num _=>exact rfl
 | tru _=>exact rfl
 | emp a=>exact ⟨a,rfl⟩
 | fn h=>exact ⟨_,_,rfl,h⟩
 | rc h=>exact ⟨_,_,rfl,h⟩
 | cal h1 h2=>exact ⟨_,h1,h2⟩
 | lt T h0 h1 h2=>exact ⟨T,_,h0,h1,h2⟩
 | wh h1 h2 h3=>exact ⟨h1,h2,h3⟩
 | pr h1 h2=>exact ⟨_,_,rfl,h1,h2⟩
 | lk h1 h2=>exact ⟨_,rfl,h1,h2⟩
 | opn h1 h2=>exact ⟨_,_,h1,h2⟩
 | spl h1 h2 h3=>exact ⟨_,h1,h2,h3⟩
 | op h h1 h2=>exact ⟨h,h1,h2⟩
noncomputable def Gm.Le (Γ Δ:Gm):Prop:=∀ y t,Γ y t->Δ y t
theorem Gm.Le.put {Γ Δ:Gm}(h:Γ.Le Δ)(x:Str)(T:Kd->Prop):(Γ.put x T).Le (Δ.put x T):=λy t z=>by
 simp only [Gm.put] at z ⊢;split
 ·rename_i e;rw [if_pos e] at z;exact z
 ·rename_i e;rw [if_neg e] at z;exact h y t z
theorem HK.mono (h:HK Γ e g):∀ {Δ:Gm},Γ.Le Δ->HK Δ e g:=by
 induction h with
 | nm h=>exact λl=>.nm (l _ _ h)
 | num i=>exact λ_=>.num i
 | tru b=>exact λ_=>.tru b
 | emp a=>exact λ_=>.emp a
 | fn _ ih=>exact λl=>.fn (ih (l.put _ _))
 | rc _ ih=>exact λl=>.rc (ih ((l.put _ _).put _ _))
 | cal _ _ ia ib=>exact λl=>.cal (ia l) (ib l)
 | lt T _ _ _ i0 i1 i2=>exact λl=>.lt T (i0 l) (λt z=>i1 t z l) (i2 (l.put _ _))
 | wh _ _ _ ia ib ic=>exact λl=>.wh (ia l) (ib l) (ic l)
 | pr _ _ ia ib=>exact λl=>.pr (ia l) (ib l)
 | lk _ _ ia ib=>exact λl=>.lk (ia l) (ib l)
 | opn _ _ ia ib=>exact λl=>.opn (ia l) (ib ((l.put _ _).put _ _))
 | spl _ _ _ ia ib ic=>exact λl=>.spl (ia l) (ib l) (ic ((l.put _ _).put _ _))
 | op q _ _ ia ib=>exact λl=>.op q (ia l) (ib l)
structure SK (σ:Su)(Γ Δ:Gm):Prop where
 s:∀ x v t,σ x=some v->Γ x t->HK g0 v t
 n:∀ x t,σ x=none->Γ x t->Δ x t
theorem SK.put (h:SK σ Γ Δ)(x:Str)(T:Kd->Prop):SK (σ.rm x) (Γ.put x T) (Δ.put x T):=by
 refine ⟨λy v t e z=>?_,λy t e z=>?_⟩
 ·simp only [Su.rm] at e;simp only [Gm.put] at z;by_cases q:y=x
  ·rw [if_pos q] at e;cases e
  ·rw [if_neg q] at e z;exact h.s y v t e z
 ·simp only [Su.rm] at e;simp only [Gm.put] at z ⊢;by_cases q:y=x
  ·rw [if_pos q] at z ⊢;exact z
  ·rw [if_neg q] at e z ⊢;exact h.n y t e z
theorem HK.sub (h:HK Γ e g):∀ {σ:Su} {Δ:Gm},SK σ Γ Δ->HK Δ (Ex.sub σ e) g:=by
 induction h with
 | @nm Γ x g h =>
  intro σ Δ k;cases q:σ x with
  | none=>simp only [Ex.sub,q,Option.getD_none];exact .nm (k.n _ _ q h)
  | some v=>simp only [Ex.sub,q,Option.getD_some];exact (k.s _ _ _ q h).mono λ_ _ z=>z.elim
 | num i=>exact λ_=>.num i
 | tru b=>exact λ_=>.tru b
 | emp a=>exact λ_=>.emp a
 | fn _ ih=>exact λk=>.fn (ih (k.put _ _))
 | rc _ ih=>exact λk=>.rc (ih ((k.put _ _).put _ _))
 | cal _ _ ia ib=>exact λk=>.cal (ia k) (ib k)
 | lt T _ _ _ i0 i1 i2=>exact λk=>.lt T (i0 k) (λt z=>i1 t z k) (i2 (k.put _ _))
 | wh _ _ _ ia ib ic=>exact λk=>.wh (ia k) (ib k) (ic k)
 | pr _ _ ia ib=>exact λk=>.pr (ia k) (ib k)
 | lk _ _ ia ib=>exact λk=>.lk (ia k) (ib k)
 | opn _ _ ia ib=>exact λk=>.opn (ia k) (ib ((k.put _ _).put _ _))
 | spl _ _ _ ia ib ic=>exact λk=>.spl (ia k) (ib k) (ic ((k.put _ _).put _ _))
 | op q _ _ ia ib=>exact λk=>.op q (ia k) (ib k)
theorem HK.give (h:HK (Γ.put x T) e g)(hv:∀ t,T t->HK g0 v t):HK Γ (KX.give x v e) g:=by
 refine h.sub ⟨λy u t e z=>?_,λy t e z=>?_⟩
 ·simp only [Su.one] at e;simp only [Gm.put] at z;by_cases q:y=x
  ·rw [if_pos q] at e z;cases e;exact hv t z
  ·rw [if_neg q] at e;cases e
 ·simp only [Su.one] at e;simp only [Gm.put] at z;by_cases q:y=x
  ·rw [if_pos q] at e;cases e
  ·rw [if_neg q] at z;exact z
theorem HK.aaf (h:HK ((g0.put x (·=a)).put y (·=b)) e g)(hv:HK g0 v a)(hw:HK g0 w b):HK g0 (KX.aaf x y v w e) g :=
 (h.give (v:=w) λt z=>z▸hw).give (v:=v) λt z=>z▸hv
theorem HK.opV (o:Str)(i j:Int):HK g0 (KX.opV o i j) (Xu o):=by
 unfold KX.opV Xu;split
 ·exact .num _
 ·split
  ·exact .num _
  ·split <;> exact .tru _
noncomputable def CF:Kd->Ex->Prop
 | .num,e=>∃ i,e=.num i
 | .tru,e=>∃ b,e=.tru b
 | .ls _,e=>e=.emp\/∃ a b,e=.lk a b
 | .fn _ _,e=>(∃ x b,e=.fn x b)\/∃ f x b,e=.rc f x b
 | .pr _ _,e=>∃ a b,e=.pr a b
 | _,_=>True
theorem HK.cf (h:HK g0 e g)(v:isV e=true):CF g e:=by
 cases e with
 | nm _=>exact False.elim h.inv
 | num i=>obtain rfl:=h.inv;exact ⟨i,rfl⟩
 | tru i=>obtain rfl:=h.inv;exact ⟨i,rfl⟩
 | emp=>obtain ⟨_,rfl⟩:=h.inv;exact .inl rfl
 | fn _ _=>obtain ⟨_,_,rfl,_⟩:=h.inv;exact .inl ⟨_,_,rfl⟩
 | rc _ _ _=>obtain ⟨_,_,rfl,_⟩:=h.inv;exact .inr ⟨_,_,_,rfl⟩
 | pr _ _=>obtain ⟨_,_,rfl,_⟩:=h.inv;exact ⟨_,_,rfl⟩
 | lk _ _=>obtain ⟨_,rfl,_⟩:=h.inv;exact .inr ⟨_,_,rfl⟩
 | _=>cases v
theorem Xv (v:isV a=false)(s:stp a=some (e',c)):(if isV a=true then X else II C (stp a))=some (C e',c):=by rw [v,s];rfl
theorem lZ (v:isV a=true)(w:isV b=false)(s:stp b=some (e',c)):(if isV a=true then (if isV b=true then X else II C (stp b)) else Y)=some (C e',c):=by rw [v,w,s];rfl
theorem m6 (v:isV a=true)(w:isV b=true):(if isV a=true then (if isV b=true then X else Y) else Z)=X:=by rw [v,w];rfl
theorem vQ (v:isV a=false):(isV a && isV b)=false:=by rw [v];rfl
theorem vR (v:isV b=false):(isV a && isV b)=false:=by rw [v];cases isV a <;> rfl
theorem An (v:isV a=true)(w:isV b=true):(isV a && isV b)=true:=by rw [v,w];rfl
theorem HK.step:∀ {g:Kd},HK g0 e g->(e.isV=true/\stp e=none)\/(e.isV=false/\∃ e' c,stp e=some (e',c)):=by
 induction e with
 | nm x=>intro g h;exact False.elim h.inv
 | num i=>intro g h;exact .inl ⟨rfl,rfl⟩
 | tru i=>intro g h;exact .inl ⟨rfl,rfl⟩
 | emp=>intro g h;exact .inl ⟨rfl,rfl⟩
 | fn x b _=>intro g h;exact .inl ⟨rfl,rfl⟩
 | rc f x b _=>intro g h;exact .inl ⟨rfl,rfl⟩
 | pr a b ia ib =>
  intro g h;obtain ⟨_,_,rfl,h1,h2⟩:=h.inv;rcases ia h1 with ⟨v1,_⟩ | ⟨v1,_,_,s1⟩
  ·rcases ib h2 with ⟨v2,_⟩ | ⟨v2,_,_,s2⟩
   ·exact .inl ⟨An v1 v2,m6 v1 v2⟩
   ·exact .inr ⟨vR v2,_,_,lZ v1 v2 s2⟩
  ·exact .inr ⟨vQ v1,_,_,Xv v1 s1⟩
 | lk a b ia ib =>
  intro g h;obtain ⟨_,rfl,h1,h2⟩:=h.inv;rcases ia h1 with ⟨v1,_⟩ | ⟨v1,_,_,s1⟩
  ·rcases ib h2 with ⟨v2,_⟩ | ⟨v2,_,_,s2⟩
   ·exact .inl ⟨An v1 v2,m6 v1 v2⟩
   ·exact .inr ⟨vR v2,_,_,lZ v1 v2 s2⟩
  ·exact .inr ⟨vQ v1,_,_,Xv v1 s1⟩
 | op o a b ia ib =>
  intro g h;refine .inr ⟨rfl,?_⟩;obtain ⟨_,h1,h2⟩:=h.inv;rcases ia h1 with ⟨v1,_⟩ | ⟨v1,_,_,s1⟩
  ·rcases ib h2 with ⟨v2,_⟩ | ⟨v2,_,_,s2⟩
   ·obtain ⟨i,rfl⟩:=h1.cf v1;obtain ⟨j,rfl⟩:=h2.cf v2;exact ⟨_,_,m6 v1 v2⟩
   ·exact ⟨_,_,lZ v1 v2 s2⟩
  ·exact ⟨_,_,Xv v1 s1⟩
 | cal a b ia ib =>
  intro g h;refine .inr ⟨rfl,?_⟩;obtain ⟨_,h1,h2⟩:=h.inv;rcases ia h1 with ⟨v1,_⟩ | ⟨v1,_,_,s1⟩
  ·rcases ib h2 with ⟨v2,_⟩ | ⟨v2,_,_,s2⟩
   ·rcases h1.cf v1 with ⟨_,_,rfl⟩ | ⟨_,_,_,rfl⟩ <;> exact ⟨_,_,m6 v1 v2⟩
   ·exact ⟨_,_,lZ v1 v2 s2⟩
  ·exact ⟨_,_,Xv v1 s1⟩
 | lt x a b ia ib =>
  intro g h;refine .inr ⟨rfl,?_⟩;obtain ⟨_,_,h0,_,_⟩:=h.inv;rcases ia h0 with ⟨v1,_⟩ | ⟨v1,_,_,s1⟩
  ·exact ⟨_,_,if_pos v1⟩
  ·exact ⟨_,_,Xv v1 s1⟩
 | wh a b d ia ib ic =>
  intro g h;refine .inr ⟨rfl,?_⟩;obtain ⟨h1,_,_⟩:=h.inv;rcases ia h1 with ⟨v1,_⟩ | ⟨v1,_,_,s1⟩
  ·rcases h1.cf v1 with ⟨_,rfl⟩ <;> exact ⟨_,_,if_pos v1⟩
  ·exact ⟨_,_,Xv v1 s1⟩
 | opn a x y b ia ib =>
  intro g h;refine .inr ⟨rfl,?_⟩;obtain ⟨_,_,h1,_⟩:=h.inv;rcases ia h1 with ⟨v1,_⟩ | ⟨v1,_,_,s1⟩
  ·rcases h1.cf v1 with ⟨_,_,rfl⟩ <;> exact ⟨_,_,if_pos v1⟩
  ·exact ⟨_,_,Xv v1 s1⟩
 | spl a b x y d ia ib ic =>
  intro g h;refine .inr ⟨rfl,?_⟩;obtain ⟨_,h1,_,_⟩:=h.inv;rcases ia h1 with ⟨v1,_⟩ | ⟨v1,_,_,s1⟩
  ·rcases h1.cf v1 with rfl | ⟨_,_,rfl⟩ <;> exact ⟨_,_,if_pos v1⟩
  ·exact ⟨_,_,Xv v1 s1⟩
theorem HK.red (h:HK g0 e g)(r:KX.red e=some (e',c)):HK g0 e' g:=by
 cases O0 r with
 | fn x b v=>obtain ⟨_,h1,h2⟩:=h.inv;obtain ⟨_,_,q,h1⟩:=h1.inv;cases q;exact h1.give λt z=>z▸h2
 | rc f x b v=>obtain ⟨_,h1,h2⟩:=h.inv;obtain ⟨_,_,q,h1⟩:=h1.inv;cases q;exact h1.aaf (.rc h1) h2
 | lt x v b=>obtain ⟨_,_,_,h1,h2⟩:=h.inv;exact h2.give h1
 | wh d a b=>obtain ⟨_,h2,h3⟩:=h.inv;cases d;exact h3;exact h2
 | opn v w x y b=>obtain ⟨_,_,h1,h2⟩:=h.inv;obtain ⟨_,_,q,a,b⟩:=h1.inv;cases q;exact h2.aaf a b
 | emp a x y b=>obtain ⟨_,_,h2,_⟩:=h.inv;exact h2
 | lk v w a x y b=>obtain ⟨_,h1,_,h3⟩:=h.inv;obtain ⟨_,q,a,b⟩:=h1.inv;cases q;exact h3.aaf a b
 | op o i j=>obtain ⟨hg,_⟩:=h.inv;rw [hg];exact HK.opV o i j
theorem HK.stp:∀ {e':Ex} {c:Bool} {g:Kd},HK g0 e g->KX.stp e=some (e',c)->HK g0 e' g:=by
 induction e with
 | nm _ | num _ | tru _ | emp | fn _ _ _ | rc _ _ _ _=>intro e' c g _ h;cases h
 | cal a b ia ib =>
  intro e' c g h s;obtain ⟨_,h1,h2⟩:=h.inv;rcases KD s with ⟨_,s⟩ | ⟨z,r,rfl⟩ | ⟨z,r,rfl⟩
  ·exact h.red s
  ·exact .cal h1 (ib h2 r)
  ·exact .cal (ia h1 r) h2
 | pr a b ia ib =>
  intro e' c g h s;obtain ⟨_,_,rfl,h1,h2⟩:=h.inv;rcases KD s with ⟨_,s⟩ | ⟨z,r,rfl⟩ | ⟨z,r,rfl⟩
  ·cases s
  ·exact .pr h1 (ib h2 r)
  ·exact .pr (ia h1 r) h2
 | lk a b ia ib =>
  intro e' c g h s;obtain ⟨_,rfl,h1,h2⟩:=h.inv;rcases KD s with ⟨_,s⟩ | ⟨z,r,rfl⟩ | ⟨z,r,rfl⟩
  ·cases s
  ·exact .lk h1 (ib h2 r)
  ·exact .lk (ia h1 r) h2
 | op o a b ia ib =>
  intro e' c g h s;obtain ⟨hg,h1,h2⟩:=h.inv;rcases KD s with ⟨_,s⟩ | ⟨z,r,rfl⟩ | ⟨z,r,rfl⟩
  ·exact h.red s
  ·exact .op hg h1 (ib h2 r)
  ·exact .op hg (ia h1 r) h2
 | lt x a b ia ib =>
  intro e' c g h s;obtain ⟨T,_,h0,h1,h2⟩:=h.inv;rcases Ic s with ⟨_,s⟩ | ⟨z,r,rfl⟩
  ·exact h.red s
  ·exact .lt T (ia h0 r) (λt q=>ia (h1 t q) r) h2
 | wh a b d ia ib ic =>
  intro e' c g h s;obtain ⟨h1,h2,h3⟩:=h.inv;rcases Ic s with ⟨_,s⟩ | ⟨z,r,rfl⟩
  ·exact h.red s
  ·exact .wh (ia h1 r) h2 h3
 | opn a x y b ia ib =>
  intro e' c g h s;obtain ⟨_,_,h1,h2⟩:=h.inv;rcases Ic s with ⟨_,s⟩ | ⟨z,r,rfl⟩
  ·exact h.red s
  ·exact .opn (ia h1 r) h2
 | spl a b x y d ia ib ic =>
  intro e' c g h s;obtain ⟨_,h1,h2,h3⟩:=h.inv;rcases Ic s with ⟨_,s⟩ | ⟨z,r,rfl⟩
  ·exact h.red s
  ·exact .spl (ia h1 r) h2 h3
theorem HK.run (h:Sf most m e c o):∀ {g:Kd},HK g0 e g->o≠.stuck/\∀ w c',o=.val w c'->HK g0 w g/\w.isV=true:=by
 induction h with
 | val c v=>intro g h;exact ⟨by simp,λw c' z=>by cases z;exact ⟨h,v⟩⟩
 | stuck c v s =>
  intro g h;rcases h.step with ⟨z,_⟩ | ⟨_,e',c',z⟩
  ·rw [v] at z;cases z
  ·rw [s] at z;cases z
 | over _ _ _=>intro g h;exact ⟨by simp,λw c' z=>by cases z⟩
 | go v s _ _ ih=>intro g h;exact ih (h.stp s)
noncomputable def Xw (xs:List (Str × Kd)):Gm:=λy g=>∃ k,(y,k)∈xs/\∃ m,fill m k=g
structure PQ (xs:List (Str × Kd))(g:Kd)(b c:Nat)(e:Ex):Prop where
 cl:e.cl (xs.map (·.1))
 op:e.opj 29
 np:e.kn<=b
 sz:e.sz<=c
 ty:HK (Xw xs) e g
end KX
namespace K
open PySem L2 KM KS KX
section
variable {Pr:Program}{w:World}{K:W.Frag}{mg:Str->Option Value}{base:Heap}
noncomputable def VL (H:Hp)(r:V)(x:Str × Kd):Prop:=∃ p rk,r=.ref p/\H p=some (.tup [.str x.1,rk])/\B7 H x.2 rk
theorem VL.mono (s:Ae H H')(h:VL H r x):VL H' r x:=by
 obtain ⟨p,rk,h1,h2,h3⟩:=h;exact ⟨p,rk,h1,s _ _ h2,B7.mono s h3⟩
noncomputable def ZP (H:Hp)(rs:List V)(xs:List (Str × Kd)):Prop:=Paired (VL H) rs xs
theorem ZP.mono (s:Ae H H')(h:ZP H rs xs):ZP H' rs xs:=Paired.aag h λ_ _ z=>VL.mono s z
noncomputable def HC (H:Hp)(l:Addr)(xs:List (Str × Kd)):Prop:=∃ rs,H l=some (.lst rs)/\ZP H rs xs
theorem HC.mono (s:A9 H H')(h:HC H l xs):HC H' l xs:=by
 obtain ⟨rs,h1,h2⟩:=h;exact ⟨rs,s _ _ h1,h2.mono (Ae.of_same s)⟩
noncomputable def Ep (more:List (Str × Kd))(x:Str × Kd):Bool:=!Ir (.str x.1) (more.map λm=>V.str m.1)
noncomputable def Xx (xs more:List (Str × Kd)):List (Str × Kd):=xs.filter (Ep more)++more
theorem Eb (h:z∈Xx xs more):z∈more\/z∈xs:=by
 rcases List.mem_append.mp h with h | h
 ·exact .inr (List.mem_filter.mp h).1
 ·exact .inl h
theorem F7 (xs more:List (Str × Kd)):(Xx xs more).length<=xs.length+more.length:=by
 unfold Xx;rw [List.length_append];have:=List.length_filter_le (Ep more) xs;omega
noncomputable def FG:Sp:=λvs H Q _=>∃ (l m:Addr) (xs more:List (Str × Kd)),vs=[.ref l,.ref m]/\HC H l xs/\HC H m more/\xs.length+more.length<=10000/\∀ p H',A9 H H'->HC H' p (Xx xs more)->Q (.ref p) H'
theorem Sk:Ai ["_law_names","_law_more","_law_kept"] ["_law_names","_law_more"] (A5 BP):=nofun
noncomputable def MI:Expr:=valueOf (inDef BP 0)
noncomputable def ZQ:Expr:=match MI with
 | .ListComp _ [⟨_,_,[.Compare _ _ [e] _],_⟩] _ _=>e
 | _=>.Constant .none 0 ⟨0,0,0,0⟩
theorem VM (F:Cd K "_law_with" "_law_with" BP f fd):Aq Pr w K mg base B5 1 f fd ["_law_names","_law_more"] FG:=by
 refine F.okS Sk (λvs H Q E h=>?_) (λBf A outer s H vs Q E hr h=>?_)
 ·obtain ⟨l,m,xs,more,rfl,_⟩:=h;rfl
 ·obtain ⟨l,m,xs,more,rfl,hl,hm,hn,q⟩:=h;have S:AY (Cr B5 Pr w K mg base ["_law_names","_law_more","_law_kept"] "_law_with" (A5 BP) f Bf A outer s H E).nox (Bt MI) [("_law_more",s.heap.objs.size+1)] ["_law_one"] ["_law_more"] [1] :=
   ⟨rfl,by decide +kernel,rfl,by decide +kernel,rfl,rfl,rfl,rfl⟩
  have S2:∀ C s0 H0 ex,AY ((Cr B5 Pr w K mg base ["_law_names","_law_more","_law_kept"] "_law_with" (A5 BP) f Bf A outer s H E).nox.cmp (Bt MI) [("_law_more",s.heap.objs.size+1)] ["_law_one"] ["_law_more"] C s0 H0 ex) (Bt ZQ) [] ["_law_new"] [] [] :=
   λC s0 H0 ex=>⟨rfl,by decide +kernel,rfl,by decide +kernel,rfl,rfl,rfl,rfl⟩
  have HD:(["_law_one","_law_more"]:List Str).Nodup:=by decide +kernel
  have zj:(["_law_new"]:List Str).Nodup:=by decide +kernel
  refine ⟨_,A3 (Fx (i:=2) Sk.nd rfl (.inl rfl) (tt:=NA (FQ (Uc K true) (FQ (D7 K) (B9 0) (tC (.int 0))) (NO ["_law_new"] [] (Nu K (B9 1)) (BN 0) G7 (FQ (D7 K) (B9 0) (tC (.int 0)))))) (te:=B9 0) S rfl (DS (Aa 0)) (λC s0 H0 ex=>AQ (i:=0) HD rfl (.inl rfl))
    (λC s0 H0 ex=>Rt (Ao J5 (eI 0) (ED (te:=FQ (D7 K) (B9 0) (tC (.int 0))) (S2 C s0 H0 ex) rfl (DS (Aa 1)) (λC' zl zo uZ=>AQ (i:=0) zj rfl (.inl rfl)) (λ_ _ _ _=>En) (λC' zl zo uZ=>Bj BE (Aa 0) A7 Cm)) rfl))
    (λC s0 H0 ex=>Aa 0))
   (Ac (Ak (Am QZ (Aa 2) (Aa 1)))),?_⟩
  obtain ⟨rs,Fw,Ej⟩:=hl;obtain ⟨ms,dh,m7⟩:=hm;have lr:=Paired.len Ej;have lm:=Paired.len m7;apply ⟨l,rfl,⟨_,AG.of Fw⟩,?_⟩;refine F5 (K:=K) (a:=l) (xs:=rs) (λi ys H'=>A9 H H'/\ZP H' ys ((xs.take i).filter (Ep more))) ⟨A9.refl _,.nil⟩ (λi ys H' z=>AG.of (z.1 _ _ Fw)) (by exact Bx ()) (λi ys H' z=>?_) rfl (λi x ys H1 hx z=>?_) (λys H1 z=>?_)
  ·rw [Paired.len z.2];exact Nat.le_trans (List.length_filter_le _ _) (by rw [List.length_take];omega)
  ·obtain ⟨s1,z⟩:=z;obtain ⟨x0,gB,p,rk,rfl,h2,h3⟩:=Paired.at1 Ej hx;apply A4 (s1 _ _ h2) rfl ?_;apply ⟨m,rfl,⟨_,AG.of (s1 _ _ dh)⟩,?_⟩;refine F5 (K:=K) (a:=m) (xs:=ms) (λj zs H'=>H'=H1/\zs=(more.take j).map λm=>V.str m.1) ⟨rfl,rfl⟩ (λj zs H' z=>AG.of (by rw [z.1];exact s1 _ _ dh)) (by exact Bx ()) (λj zs H' z=>?_) rfl (λj y zs H2 hy z=>?_) (λzs H2 z=>?_)
   ·rw [z.2,List.length_map,List.length_take];omega
   ·obtain ⟨rfl,rfl⟩:=z;obtain ⟨y0,vS,p',rk',rfl,di,h3'⟩:=Paired.at1 m7 hy;have hj:=(List.getElem?_eq_some_iff.mp vS).1;apply C5 ?_;apply A4 (s1 _ _ di) rfl ?_;refine Nx.mk () ⟨rfl,?_⟩;rw [List.take_succ,vS];simp
   ·obtain ⟨rfl,rfl⟩:=z;intros d H3 s3 e3;refine Hu (.inl (AG.of e3)) rfl (by rw [List.all_eq_true];intro v hv;obtain ⟨_,_,rfl⟩:=List.mem_map.mp hv;rfl) ?_;left;have hi:=(List.getElem?_eq_some_iff.mp gB).1;have e5:(more.take ms.length)=more:=(by rw [lm,List.take_length]);rw [e5];have hk:(if true=true then !Ir (.str x0.1) (more.map λm=>V.str m.1) else Ir (.str x0.1) (more.map λm=>V.str m.1))=Ep more x0:=rfl
    rw [hk];cases ek:Ep more x0 with
    | true =>
     refine C5 ?_;apply Nx.mk () ⟨s1.trans s3,?_⟩;rw [List.take_succ,gB,List.filter_append];refine Paired.app (z.mono (Ae.of_same s3)) ?_;show ZP H3 [.ref p] (List.filter (Ep more) [x0]);rw [List.filter_cons,ek];exact .cons ⟨p,rk,rfl,s3 _ _ (s1 _ _ h2),B7.mono (Ae.of_same (s1.trans s3)) h3⟩ .nil
    | false =>
     refine Ce (Nx.mk () ⟨s1.trans s3,?_⟩);rw [List.take_succ,gB,List.filter_append];show ZP H3 ys (_++List.filter (Ep more) [x0]);rw [List.filter_cons,ek];simp only [Bool.false_eq_true,↓reduceIte,List.filter_nil,List.append_nil];exact z.mono (Ae.of_same s3)
  ·obtain ⟨s1,z⟩:=z;rw [lr,List.take_length] at z;intros d H2 s2 e2;left;have ly:=Paired.len z;have lf:=List.length_filter_le (Ep more) xs;refine Vv e2 (s2 _ _ (s1 _ _ dh)) (Dm ()) λp H3 _ s3 e3=>?_;exact q p H3 (s1.trans (s2.trans s3)) ⟨_,e3,Paired.app (z.mono (Ae.of_same (s2.trans s3))) (m7.mono (Ae.of_same (s1.trans (s2.trans s3))))⟩
end
end K
namespace L2
open PySem
noncomputable def Sl:Expr:=.Constant .none 0 ⟨0,0,0,0⟩
noncomputable def ZR:Stmt->Expr
 | .If t _ _ _=>t
 | _=>Sl
noncomputable def qk:Expr->Expr
 | .UnaryOp _ e _=>e
 | _=>Sl
noncomputable def Jo:Expr->Expr
 | .Call _ es _ _=>es.getD 0 Sl
 | _=>Sl
end L2
namespace K
open PySem L2 KM KS
noncomputable def PR:List Kd->List Kd->Option (List (Int × Kd))
 | a::as,b::bs=>(prs a b).bind λx=>(PR as bs).map λy=>x++y
 | [],[]=>some []
 | _,_=>none
theorem PU (g:DL a=false)(h:word a=word b):prs a b=PR (parts a) (parts b)/\(parts a).length=(parts b).length/\DL b=false:=by
 have ht:tag a=tag b:=by
  rw [Gn,Gn] at h;have:=Kj (tag a) (by cases a <;> simp [tag]) (tag b) (by cases b <;> simp [tag]);rw [h] at this;simpa using this
 cases a <;> cases b <;> simp [DL,tag] at g ht
 ·exact ⟨rfl,rfl,rfl⟩
 ·exact ⟨rfl,rfl,rfl⟩
 ·rename_i a1 a2 b1 b2;refine ⟨?_,rfl,rfl⟩;show (prs a1 b1).bind _=(prs a1 b1).bind λx=>((prs a2 b2).bind λy=>some (y++[])).map λy=>x++y;cases prs a1 b1 <;> cases prs a2 b2 <;> simp
 ·rename_i a1 a2 b1 b2;refine ⟨?_,rfl,rfl⟩;show (prs a1 b1).bind _=(prs a1 b1).bind λx=>((prs a2 b2).bind λy=>some (y++[])).map λy=>x++y;cases prs a1 b1 <;> cases prs a2 b2 <;> simp
 ·rename_i a1 b1;refine ⟨?_,rfl,rfl⟩;show prs a1 b1=(prs a1 b1).bind λx=>some (x++[]);cases prs a1 b1 <;> simp
theorem MJ (g:DL a=false)(h:word a≠word b):prs a b=none:=by
 cases a <;> cases b <;> first | rfl | (simp [DL] at g;done) | exact absurd rfl h
theorem EO:∀ {as bs cs ds:List Kd},as.length=bs.length->PR (as++cs) (bs++ds)=(PR as bs).bind λx=>(PR cs ds).map λy=>x++y
 | [],[],cs,ds,_=>by simp [PR]
 | a::as,b::bs,cs,ds,h=>by
  have ih:=EO (cs:=cs) (ds:=ds) (show as.length=bs.length by simpa using h);simp only [List.cons_append,PR,ih];cases prs a b <;> cases PR as bs <;> cases PR cs ds <;> simp
abbrev Er (H:Hp):List (Int × Kd)->List V->Prop:=Paired (λp v=>∃ a u,v=.ref a/\H a=some (.tup [.int p.1,u])/\B7 H p.2 u)
theorem Er.mono (s:Ae H H')(h:Er H ps us):Er H' ps us :=
 Paired.aag h λp v ⟨a,u,e,h1,h2⟩=>⟨a,u,e,s _ _ h1,B7.mono s h2⟩
section
variable {Pr:Program}{w:World}{K:W.Frag}{mg:Str->Option Value}{base:Heap}
noncomputable def Gw (n:Nat):Sp:=λvs H Q _=>∃ (a b:Kd) (v u:V),vs=[v,u]/\B7 H a v/\B7 H b u/\dp a<=n/\sz a<=1000/\(prs a b=none->∀ H',A9 H H'->Q .non H') /\
 ∀ ps,prs a b=some ps->∀ l us H',A9 H H'->H l=none->H' l=some (.lst us)->Er H' ps us->Q (.ref l) H'
noncomputable def Sm:Nat->Sp
 | 0=>Py
 | n+1=>Gw n
theorem F8:Ai ["_law_wide","_law_kind","_law_found","_law_k","_law_more"] ["_law_wide","_law_kind"] (A5 Jg):=nofun
theorem Sn (h:s∈parts t):sz s < sz t:=by
 cases t with
 | fn a b | pr a b =>
  cases h with
  | head=>simp only [sz];omega
  | tail _ h =>
   cases h with
   | head=>simp only [sz];omega
   | tail _ h=>cases h
 | ls a =>
  cases h with
  | head=>simp only [sz];omega
  | tail _ h=>cases h
 | _=>cases h
theorem Oa:∀ (as bs:List Kd) (l:List (Int × Kd)),PR as bs=some l->l.length<=szs as
 | [],[],l,h=>by cases h;simp
 | [],_::_,l,h=>by cases h
 | _::_,[],l,h=>by cases h
 | a::as,b::bs,l,h=>by
  obtain ⟨u,v,h1,h2,rfl⟩:=Hg h;have i1:=Jf a b u h1;have i2:=Oa as bs v h2;simp only [List.length_append,szs];omega
theorem PV (ts:List Kd)(i:Nat):szs (ts.take i)<=szs ts:=by
 conv=>rhs;rw [<- List.take_append_drop i ts]
 rw [EC];omega
theorem Ob {x:V}{us:List V}{i:Nat}{v:V}(h:us[i]?=some v):Lx (x::us) (1+(i:Int))=some v:=by
 rw [show (1:Int)+(i:Int)=((i+1:Nat):Int) by omega];exact Aj (by simpa using h)
theorem IJ (F:Cd K "_law_pairs" "_law_pairs" Jg f fd)(bi:Binds K fd ["_law_wide","_law_kind"] [])(mf:mg "_law_pairs"=some (.ref f))(mR:mg "range"=none)(Mw:mg "len"=none)(G:Aq Pr w K mg base B5 (n+1) f fd ["_law_wide","_law_kind"] (Sm n)):Aq Pr w K mg base B5 (n+2) f fd ["_law_wide","_law_kind"] (Gw n):=by
 refine F.okS F8 (λvs H Q E h=>?_) (λBf A outer s H vs Q E hr h=>?_)
 ·obtain ⟨a,b,v,u,rfl,_⟩:=h;rfl
 ·obtain ⟨a,b,v,u,rfl,kv,ku,vT,hsz,qn,qs⟩:=h;have hb:=F2;obtain ⟨pa,us,ea,ha,zp,gC,gD⟩:=kv.look;subst ea;obtain ⟨pb,LA,eb,ZS,zq,vU,zr⟩:=ku.look;subst eb;refine ⟨_,A3 (AS (Ao AA (eI 0) Ab (Ag _)) (Ac (Ak (Bi (A1 (Ah (A1 (eI 0) (A1 (Aa 1) A2))) A2)))) Ax)
   (A3 (AS (Ao FR (eI 0) (eI 1) (Ag _)) (Ac (Ak DO)) Ax)
   (A3 (Al (i:=2) F8.nd rfl (.inl rfl) (Bi A2))
   (A3 (F' PassesOwn.never rfl (Rr rfl mR (A1 A7 (A1 (Bs Bl rfl Mw PySem.boot_len (A1 (Aa 0) A2)) A2))) (AQ (i:=3) F8.nd rfl (.inl rfl))
    (A3 (Al (i:=4) F8.nd rfl (.inl rfl) (Mn G hr rfl mf F.kp bi (A1 (Bj BE (Aa 0) (Aa 3) Cm) (A1 (Bj BE (Aa 1) (Aa 3) Cm) A2))))
    (A3 (AS (Ao J0 (Aa 4) DO rfl) (Ac (Ak DO)) Ax)
    (Ac (Al (i:=2) F8.nd rfl (.inl rfl) (Am QZ (Aa 2) (Aa 4)))))))
   (Ac (Ak (Aa 2)))))),?_⟩
  refine ⟨_,rfl,pa,_,_,_,rfl,rfl,Ba.of ha,Aj (j:=0) rfl,rfl,_,rfl,?_⟩;rw [Vm];cases e:DL a with
  | true =>
   obtain ⟨k,rfl⟩:∃ k,a=.gap k:=(by cases a <;> simp [DL] at e;exact ⟨_,rfl⟩);obtain rfl:=gC k rfl;refine C5 ⟨_,rfl,pa,_,_,_,rfl,rfl,Ba.of ha,Aj (j:=1) rfl,_,rfl,by show 2<=sizeLine;omega,λp hp=>⟨by show 1<=sizeLine;omega,λl hl=>?_⟩⟩;have m8:p≠l:=λz=>(by rw [<- z,A6] at hl;cases hl);have ql:H l=none:=(by rw [A8 (Ne.symm m8)] at hl;exact hl);have sm:A9 H (upd (upd H p (.tup [.int k,.ref pb])) l (.lst [.ref p])):=A9.put (A9.new hp) ql;exact qs _ rfl l _ _ sm ql A6 (.cons ⟨p,_,rfl,by rw [A8 m8,A6],B7.mono (Ae.of_same sm) ku⟩ .nil)
  | false =>
   refine Ce ⟨_,rfl,pa,_,_,_,rfl,rfl,Ba.of ha,Aj (j:=0) rfl,_,rfl,pb,_,_,_,rfl,rfl,Ba.of ZS,Aj (j:=0) rfl,rfl,_,rfl,?_⟩;by_cases hw:word a=word b
   ·refine Az (by simp [hw]) ?_;obtain ⟨ep,gE,zt⟩:=PU e hw;have pk:=zp e;have vV:=zq zt;have hlen:us.length=(parts a).length:=(Paired.length pk).symm;have Xh:LA.length=(parts b).length:=(Paired.length vV).symm;have Ck:=Pq a;have zu:=Pp a;refine ⟨by simp,λlf dj=>?_⟩;have Zp:(upd H lf (.lst [])) pa=some (.tup (.str (word a)::us)):=(by rw [A8 (Af ha dj)];exact ha);have vW:(((us.length+1:Nat):Int) - 1).toNat=us.length:=(by omega);refine ⟨_,rfl,pa,_,rfl,.inr (Ba.of Zp),1,_,rfl,⟨(),(),by show -(2 ^ 62)<=((us.length+1:Nat):Int);omega,by show ((us.length+1:Nat):Int) < 2 ^ 62;omega⟩,?_⟩;show ∃ W:Nat->Nat->St->Hp->Prop,_;have gF:(((V.str (word a)::us).length:Int) - 1).toNat=us.length:=(by simp);rw [gF];refine OS (λi σ H2=>∃ lg kk mm acc So,σ=[some (.ref pa),some (.ref pb),some (.ref lg),kk,mm]/\A9 H H2/\PR ((parts a).take i) ((parts b).take i)=some acc/\H lg=none/\H2 lg=some (.lst So)/\Er H2 acc So)
     ⟨lf,none,none,[],[],rfl,A9.new dj,rfl,dj,A6,.nil⟩ (λi σ H2 hi z=>?_) (fun σ H2 z=>?_)
    ·obtain ⟨lg,kk,mm,acc,So,rfl,sm,EA,gG,qm,VN⟩:=z;obtain ⟨x,hx⟩:∃ x,us[i]?=some x:=⟨_,List.getElem?_eq_getElem ()⟩;obtain ⟨x',HV⟩:∃ x',LA[i]?=some x':=⟨_,List.getElem?_eq_getElem ()⟩;obtain ⟨s1,dm,kx⟩:=Paired.at pk hx;obtain ⟨s2,QF,lh⟩:=Paired.at vV HV;have G9:=List.mem_of_getElem? dm;have CT:=Vn G9;have zv:=Sn G9;have hal:=Oa _ _ _ EA;have zw:=PV (parts a) i;have taken:((parts a).take i).length=((parts b).take i).length:=(by rw [List.length_take,List.length_take,gE]);have Xy:PR ((parts a).take (i+1)) ((parts b).take (i+1))=(prs s1 s2).map λy=>acc++y:=by
      rw [List.take_add_one,List.take_add_one,dm,QF];show PR (_++[s1]) (_++[s2])=_;rw [EO taken,EA];show (((prs s1 s2).bind λx=>some (x++[])).map λy=>acc++y)=_;cases prs s1 s2 <;> simp
     refine ⟨_,rfl,_,rfl,pa,_,_,_,rfl,rfl,Ba.of (sm pa _ ha),Ob hx,_,rfl,_,rfl,pb,_,_,_,rfl,rfl,Ba.of (sm pb _ ZS),Ob HV,?_⟩;cases n with
     | zero=>omega
     | succ n =>
      refine ⟨s1,s2,x,x',rfl,B7.mono (Ae.of_same sm) kx,B7.mono (Ae.of_same sm) lh,(),(),λen H3 Uh=>?_,λps ZT l3 qo H3 Uh zx Sq p3=>?_⟩
      ·refine ⟨_,rfl,rfl,_,rfl,AR rfl ?_⟩;refine qn ?_ H3 (A9.trans sm Uh);rw [ep,<- List.take_append_drop (i+1) (parts a),<- List.take_append_drop (i+1) (parts b),EO (by rw [List.length_take,List.length_take,gE]),Xy,en];rfl
      ·refine ⟨_,rfl,rfl,_,rfl,Az (by simp) ?_⟩;have zy:=Uh lg _ qm;have ZU:=Jf _ _ _ ZT;have h2l:So.length=acc.length:=(Paired.length VN).symm;have h3l:qo.length=ps.length:=(Paired.length p3).symm;refine ⟨_,rfl,_,rfl,lg,l3,So,qo,rfl,rfl,zy,Sq,(),λr qp=>?_⟩;have vX:=A9.trans sm Uh;have gH:H r=none:=vX.free qp;refine ⟨r,_,_,acc++ps,So++qo,rfl,A9.put vX gH,?_,gH,A6,?_⟩
       ·rw [Xy,ZT];rfl
       ·exact Paired.app (Er.mono (Ae.trans (Ae.of_same Uh) (Ae.new qp)) VN) (Er.mono (Ae.new qp) p3)
    ·obtain ⟨lg,kk,mm,acc,So,rfl,sm,EA,gG,qm,VN⟩:=z;refine ⟨_,rfl,?_⟩;have h1:(parts a).take us.length=parts a:=List.take_of_length_le ();have h2:(parts b).take us.length=parts b:=List.take_of_length_le ();rw [h1,h2] at EA;exact qs acc (by rw [ep];exact EA) lg So H2 sm gG qm VN
   ·refine AR (by simp [hw]) ?_;exact qn (MJ e hw) H (A9.refl H)
theorem KQ {f:Addr}{fd:FuncData}(F:Cd K "_law_pairs" "_law_pairs" Jg f fd)(bi:Binds K fd ["_law_wide","_law_kind"] [])(mf:mg "_law_pairs"=some (.ref f))(mR:mg "range"=none)(Mw:mg "len"=none):
  ∀ n,Aq Pr w K mg base B5 (n+2) f fd ["_law_wide","_law_kind"] (Gw n)
 | 0=>IJ F bi mf mR Mw Kp
 | n+1=>IJ F bi mf mR Mw (KQ F bi mf mR Mw n)
theorem Er.list:∀ {ps:List (Int × Kd)} {us:List V},Er H ps us->∃ qs:List (Addr × Key × V),us=qs.map (λq=>V.ref q.1)/\(∀ q∈qs,H q.1=some (.tup [kV q.2.1,q.2.2]))/\Paired (λp q=>q.2.1=(Sum.inl p.1:Key)/\B7 H p.2 q.2.2) ps qs:=by
 intro ps us h
 induction h with
 | nil=>exact ⟨[],rfl,(λq hq=>by cases hq),.nil⟩
 | @cons p _ _ _ c _ ih =>
  obtain ⟨a,u,rfl,h1,h2⟩:=c;obtain ⟨qs,rfl,h3,h4⟩:=ih;refine ⟨(a,Sum.inl p.1,u)::qs,rfl,λq hq=>?_,.cons ⟨rfl,h2⟩ h4⟩;rcases List.mem_cons.mp hq with rfl | hq
  ·exact h1
  ·exact h3 q hq
theorem PX:∀ {ps:List (Int × Kd)} {qs:List (Addr × Key × V)} (kvs:List (Key × V)) (m:Int->Option Kd),Paired (λp q=>q.2.1=(Sum.inl p.1:Key)/\B7 H p.2 q.2.2) ps qs->CY H kvs m ->
  CY H (qs.foldl (λm p=>putK m p.2.1 p.2.2) kvs) (λk=>ps.foldl (λm p=>if p.1=k then some p.2 else m) (m k)):=by
 intro ps qs kvs m c
 revert kvs m
 induction c with
 | nil=>exact λkvs m h=>h
 | @cons p q _ _ c t ih =>
  intro kvs m h;obtain ⟨e,kq⟩:=c;have ih:=ih (putK kvs q.2.1 q.2.2) (λj=>if j=p.1 then some p.2 else m j) (by rw [e];exact CY.put h kq)
  have e2:∀ k,(if p.1=k then some p.2 else m k)=(if k=p.1 then some p.2 else m k):=λk=>by
   by_cases z:p.1=k
   ·rw [if_pos z,if_pos z.symm]
   ·rw [if_neg z,if_neg (λy=>z y.symm)]
  simp only [List.foldl_cons,e2];exact ih
noncomputable def F9 (n:Nat):Sp:=λvs H Q _=>∃ (a b:Kd) (v u:V),vs=[v,u]/\B7 H a v/\B7 H b u/\dp a<=n/\sz a<=1000/\dp b<=60/\∀ H',A9 H H'->Q (.bl (wd a b)) H'
theorem Jp:Ai ["_law_wide","_law_kind","_law_pairs_here","_law_told"] ["_law_wide","_law_kind"] (A5 Hl):=nofun
theorem Sr (F:Cd K "_law_wider" "_law_wider" Hl f fd)(mD:mg "dict"=none)(mA:mg "all"=none)(GP:Aq Pr w K mg base B5 (n+2) fP dq ["_law_wide","_law_kind"] (Gw n))(kP:W.keepIn K (.ref fP)=true)(bP:Binds K dq ["_law_wide","_law_kind"] [])(mP:mg "_law_pairs"=some (.ref fP)) :
  Aq Pr w K mg base B5 (n+3) f fd ["_law_wide","_law_kind"] (F9 n):=by
 refine F.okS Jp (λvs H Q E h=>?_) (λBf A outer s H vs Q E hr h=>?_)
 ·obtain ⟨a,b,v,u,rfl,_⟩:=h;rfl
 ·obtain ⟨a,b,v,u,rfl,kv,ku,vT,hsz,Eh,q⟩:=h;have hb:=F2;have hu:=Ek hr;have Ss:=hr.units;have S:AY (Cr B5 Pr w K mg base ["_law_wide","_law_kind","_law_pairs_here","_law_told"] "_law_wider" (A5 Hl) f Bf A outer s H E).nox (Bt (Jo (valueOf (inDef Hl 3)))) [("_law_told",s.heap.objs.size+1)] ["_law_gap","_law_part"] ["_law_told"] [3] :=
   ⟨rfl,by decide +kernel,rfl,by decide +kernel,rfl,rfl,rfl,rfl⟩
  refine ⟨_,A3 (Al (i:=2) Jp.nd rfl (.inl rfl) (Mn GP hr rfl mP kP bP (A1 (Aa 0) (A1 (Aa 1) A2))))
   (A3 (AS (Ao J0 (Aa 2) DO rfl) (Ac (Ak G8)) Ax)
   (A3 (Al (i:=3) Jp.nd rfl (.inr rfl) (Bw (I0 rfl) rfl mD PyProof.Rows.boot_dict (A1 (Aa 2) A2)))
   (Ac (Ak (Bs (Pu rfl) rfl mA PyProof.Rows.boot_all (A1 (ED (g:=OM K 2 (Eg (BN 0) (Eg (BN 1) OL))) (te:=FQ fA (NM (B9 2) (B9 0)) (B9 1)) S rfl (DS (Aa 2))
    (λC s0 H0 ex=>Hh rfl (Bu (AQ (i:=0) (show (["_law_gap","_law_part","_law_told"]:List Str).Nodup by decide +kernel) rfl (.inl rfl)) (Bu (AQ (i:=1) (show (["_law_gap","_law_part","_law_told"]:List Str).Nodup by decide +kernel) rfl (.inl rfl)) EF)))
    (λ_ _ _ _=>En) (λC s0 H0 ex=>Em (Z2 Ss) (Je hu (Aa 2) (Aa 0) Cm) (Aa 1) (Ag _))) A2)))))),?_⟩
  refine ⟨_,rfl,_,rfl,a,b,v,u,rfl,kv,ku,vT,hsz,λen H1 Ui=>?_,λps ZT l us H1 Ui ql Fw pu=>?_⟩
  ·refine ⟨_,rfl,rfl,_,rfl,AR rfl ?_⟩;have e1:wd a b=false:=(by unfold wd;rw [en]);have:=q H1 Ui;rw [e1] at this;exact this
  ·refine ⟨_,rfl,rfl,_,rfl,Az (by simp) ?_⟩;obtain ⟨qs,eu,hq,pq⟩:=Er.list pu;subst eu;have zz:qs.length=ps.length:=(Paired.length pq).symm;have Ck:=Jf _ _ _ ZT;refine ⟨_,rfl,l,qs,rfl,Fw,hq,λd hd=>?_⟩;have zA:CY H1 (putAll qs) (Hf ps):=PX [] (λ_=>none) pq CY.nil;have sd:A9 H1 (upd H1 d (.dK (putAll qs))):=A9.new hd;have Ej:(upd H1 d (.dK (putAll qs))) l=some (.lst (qs.map λq=>V.ref q.1)):=sd l _ Fw;generalize zB:upd H1 d (.dK (putAll qs))=H2 at sd Ej ⊢;have hd2:H2 d=some (.dK (putAll qs)):=(by rw [<- zB,A6]);have dk:=CY.mono (Ae.of_same sd) zA;refine ⟨_,rfl,l,rfl,⟨_,AG.of Ej⟩,?_⟩;refine PF (K:=K) (a:=l) (xs:=qs.map λq=>V.ref q.1) (λi ys H3=>H3=H2/\ys=((ps.take i).map λp=>decide (Hf ps p.1=some p.2)).map V.bl) ⟨rfl,rfl⟩ (λi ys H3 z=>by rw [z.1];exact AG.of Ej) (by rw [List.length_map];omega)
    (λi ys H3 z=>?_) (λi x ys H3 hx z=>?_) (λx σ H Q Q' h z=>?_) (fun σ H Q Q' h z=>h _ _ z) (fun σ H Q Q' h z=>?_) (λys H3 z=>?_)
   ·rw [z.2,List.length_map,List.length_map,List.length_take];omega
   ·obtain ⟨rfl,rfl⟩:=z;rw [List.getElem?_map] at hx;cases eq:qs[i]? with
    | none=>rw [eq] at hx;cases hx
    | some q0 =>
     rw [eq] at hx;cases hx;obtain ⟨p0,Uj,ek,kq⟩:=Paired.at pq eq;have ht:=sd _ _ (hq q0 (List.mem_of_getElem? eq));refine ⟨q0.1,_,rfl,Ba.of ht,rfl,_,_,rfl,_,_,rfl,rfl,⟨rfl,?_⟩,Ru ?_⟩
     ·intro j v hj;cases j with
      | zero=>cases hj
      | succ j=>cases j with
       | zero=>cases hj
       | succ j=>exact hj
     ·have vY:=List.mem_of_getElem? Uj;obtain ⟨p1,Qq,KU,Xz⟩:=IE vY;rcases dk p0.1 with ⟨_,z2⟩ | ⟨v',t',z1,z2,z3⟩
      ·rw [Xz] at z2;cases z2
      refine ⟨_,rfl,_,rfl,d,v',rfl,?_,_,rfl,t',p0.2,z3,B7.mono (Ae.of_same sd) kq,?_,?_,?_⟩
      ·have:=BJ.k (k:=q0.2.1) hd2;rw [ek,z1] at this;rw [ek];exact this
      ·rw [Xz] at z2;cases z2;exact Nat.le_trans (Ry _ _ _ ZT p1 Qq) Eh
      ·exact Nat.le_trans (Ry _ _ _ ZT p0 vY) Eh
      ·refine ⟨rfl,?_⟩;rw [List.take_add_one,Uj,List.map_append,List.map_append];show _=_++[V.bl (decide (Hf ps p0.1=some p0.2))];have e3:decide (some t'=some p0.2)=decide (t'=p0.2):=(by simp);rw [z2,e3]
   ·obtain ⟨a1,x1,z1,z2,z3,v1,r1,z4,v2,r2,z5,z6,z7⟩:=z;exact ⟨a1,x1,z1,z2,z3,v1,r1,z4,v2,r2,z5,z6,h _ _ z7⟩
   ·obtain ⟨v1,z1,v2,z2,a1,v3,z3,z4,v4,z5,t1,t2,z6,z7,z8,z9,zC⟩:=z;exact ⟨v1,z1,v2,z2,a1,v3,z3,z4,v4,z5,t1,t2,z6,z7,z8,z9,h _ _ zC⟩
   ·obtain ⟨rfl,rfl⟩:=z;intro D hD;refine ⟨D,_,rfl,A6,?_⟩;rw [List.length_map,zz,List.take_length];have e1:((ps.map λp=>decide (Hf ps p.1=some p.2)).all id)=wd a b:=by
     unfold wd;rw [ZT,List.all_map];rfl
    rw [e1];exact q _ (A9.put (A9.trans Ui sd) ((A9.trans Ui sd).free hD))
end
open KX
section
variable {Pr:Program}{w:World}{K:W.Frag}{mg:Str->Option Value}{base:Heap}
noncomputable def sk:Kd->Nat
 | .num | .tru | .gap _=>1
 | .ls a=>1+sk a
 | .fn _ b=>1+sk b
 | .pr a b=>1+sk a+sk b
theorem ZV (t:Kd):1<=sk t:=by cases t <;> simp [sk] <;> omega
noncomputable def cc:Nat->Nat
 | 0=>0
 | d+1=>2 * cc d+4
noncomputable def B (d p:Nat):Nat:=p+cc d
noncomputable def C:Nat->Nat->Nat
 | 0,s=>s
 | d+1,s=>1+C d 11+C d (1+s)+2 * C d s
theorem Dt (d:Nat)(h:p<=q):B d p<=B d q:=Nat.add_le_add_right h _
theorem C7:∀ (d:Nat) {p q:Nat},p<=q->C d p<=C d q
 | 0,_,_,h=>h
 | d+1,p,q,h=>by have:=C7 d h;have:=C7 d (Nat.add_le_add_left h 1);simp only [C];omega
theorem gI:∀ (d p:Nat),p<=C d p
 | 0,_=>Nat.le_refl _
 | d+1,p=>by have:=gI d p;simp only [C];omega
theorem HE:∀ t,sk t+1<=2 ^ (dp t+1)
 | .num | .tru | .gap _=>by simp [sk,dp]
 | .ls a=>by have:=HE a;simp only [sk,dp,Nat.pow_succ] at *;omega
 | .fn a b=>by
  have:=HE b;have h:=Nat.pow_le_pow_right (n:=2) ⟨⟩ (Nat.le_max_right (dp a) (dp b));simp only [sk,dp,Nat.pow_succ] at *;omega
 | .pr a b=>by
  have h1:=HE a;have h2:=HE b;have h3:=Nat.pow_le_pow_right (n:=2) ⟨⟩ (Nat.le_max_left (dp a) (dp b));have h4:=Nat.pow_le_pow_right (n:=2) ⟨⟩ (Nat.le_max_right (dp a) (dp b));simp only [sk,dp,Nat.pow_succ] at *;omega
theorem IK:∀ t,sz t+1<=2 ^ (dp t+1)
 | .num | .tru | .gap _=>by simp [sz,dp]
 | .ls a=>by have:=IK a;simp only [sz,dp,Nat.pow_succ] at *;omega
 | .fn a b=>by
  have h1:=IK a;have h2:=IK b;have h3:=Nat.pow_le_pow_right (n:=2) ⟨⟩ (Nat.le_max_left (dp a) (dp b));have h4:=Nat.pow_le_pow_right (n:=2) ⟨⟩ (Nat.le_max_right (dp a) (dp b));simp only [sz,dp,Nat.pow_succ] at *;omega
 | .pr a b=>by
  have h1:=IK a;have h2:=IK b;have h3:=Nat.pow_le_pow_right (n:=2) ⟨⟩ (Nat.le_max_left (dp a) (dp b));have h4:=Nat.pow_le_pow_right (n:=2) ⟨⟩ (Nat.le_max_right (dp a) (dp b));simp only [sz,dp,Nat.pow_succ] at *;omega
theorem zD (h:dp t<=8):sz t<=1000:=by
 have h1:=IK t;have h2:2 ^ (dp t+1)<=2 ^ 9:=Nat.pow_le_pow_right ⟨⟩ ();have h3:2 ^ 9=512:=rfl;omega
theorem vZ (h:dp t<=2):dp t<=3/\sk t<=7:=by
 have h2:=HE t;have h4:2 ^ (dp t+1)<=2 ^ 3:=Nat.pow_le_pow_right ⟨⟩ ();have h6:2 ^ 3=8:=rfl;omega
theorem zE (h:dp t<=1):dp t<=1/\sk t<=3:=by
 have h2:=HE t;have h4:2 ^ (dp t+1)<=2 ^ 2:=Nat.pow_le_pow_right ⟨⟩ ();have h5:2 ^ 2=4:=rfl;omega
noncomputable def Pm (d:Nat)(g:Kd):Prop:=d<=3\/(d=4/\dp g<=2)
noncomputable def Pb (d:Nat)(g:Kd):Prop:=d<=2\/(d=3/\dp g<=2)
noncomputable def mu:Nat->Kd->Nat
 | 0,g=>dp g
 | d+1,g=>max 3 (dp g)+2 * (d+1)
structure FH (K:W.Frag)(H:Hp)(a:Addr)(ns:List Int)(g:Kd)(rg:V)(l:Addr)(xs:List (Str × Kd)):Prop where
 hs:AG K H a (ns.map V.int)
 hg:B7 H g rg
 gd:Kz g
 hl:HC H l xs
 hx:∀ x∈xs,dp x.2<=8
theorem FH.mono {K:W.Frag}(s:A9 H H')(h:FH K H a ns g rg l xs):FH K H' a ns g rg l xs :=
 ⟨s.seq h.hs,B7.mono (Ae.of_same s) h.hg,h.gd,h.hl.mono s,h.hx⟩
abbrev Jq (xs:List (Str × Kd)):List Str:=xs.map (·.1)
noncomputable def Sv (K:W.Frag)(n:Nat):Sp:=λvs H Q _=>∃ (a:Addr) (ns:List Int) (k:Int) (g:Kd) (rg:V) (l:Addr) (xs:List (Str × Kd)) (d:Nat),vs=[.ref a,.int k,rg,.ref l,.int d]/\FH K H a ns g rg l xs/\mu d g<=n/\max 3 (dp g)+d<=8/\Pm d g/\xs.length+2 * n<=1000 /\
 ∀ e r H',A9 H H'->As H' e r->PQ xs g (B d (dp g)) (C d (sk g)) e->Q r H'
noncomputable def Cz (K:W.Frag):Nat->Sp
 | 0=>Py
 | n+1=>Sv K n
noncomputable def Bb:Nat->Nat->Nat
 | 0,p=>p
 | d+1,p=>1+B (d+1) p
noncomputable def Cb:Nat->Nat->Nat
 | 0,s=>s
 | d+1,s=>1+2 * C (d+1) s
noncomputable def Fb (K:W.Frag)(n:Nat):Sp:=λvs H Q _=>∃ (a:Addr) (ns:List Int) (k:Int) (g:Kd) (rg:V) (l:Addr) (xs:List (Str × Kd)) (d:Nat),vs=[.ref a,.int k,rg,.ref l,.int d]/\FH K H a ns g rg l xs/\(d=0->dp g<=n)/\(0 < d->max 3 (dp g)+2 * d+1<=n)/\max 3 (dp g)+d<=8/\Pb d g/\xs.length+2 * n<=1000 /\
 ∀ e r H',A9 H H'->As H' e r->PQ xs g (Bb d (dp g)) (Cb d (sk g)) e->Q r H'
noncomputable def Oc (K:W.Frag)(n:Nat):Sp:=λvs H Q _=>∃ (a:Addr) (ns:List Int) (k:Int) (g:Kd) (rg:V) (l:Addr) (xs:List (Str × Kd)) (d:Nat),vs=[.ref a,.int k,rg,.ref l,.int d]/\FH K H a ns g rg l xs/\max 3 (dp g)+2 * d+2<=n/\max 3 (dp g)+d+1<=8/\d<=3/\xs.length+2 * n<=1000 /\
 ∀ e r H',A9 H H'->As H' e r->PQ xs g (B (d+1) (dp g)) (C (d+1) (sk g)) e->Q r H'
theorem gJ (d p:Nat):Bb d p<=B (d+1) p:=by
 cases d with
 | zero=>simp only [Bb,B,cc];omega
 | succ d=>simp only [Bb,B,cc];omega
theorem gK (d p:Nat):Cb d p<=C (d+1) p:=by
 cases d with
 | zero=>simp only [Cb,C];omega
 | succ d=>simp only [Cb];show 1+2 * C (d+1) p<=1+C (d+1) 11+C (d+1) (1+p)+2 * C (d+1) p;omega
theorem MK:Ai ["_law_script","_law_k","_law_goal","_law_names","_law_deep","_law_number","_law_good"] Ii (A5 BQ):=nofun
theorem Sw (F:Cd K "_law_made" "_law_made" BQ f fd)(D4:mg "len"=none)(Od:mg "max"=none)(ZW:11<=r)(cM:Cl Pr w K mg base 2 "_law_mix" Ij (Dx K))(cW:Cl Pr w K mg base 11 "_law_wider" ["_law_wide","_law_kind"] (F9 8))(cB:Cl Pr w K mg base r "_law_built" Ii (Fb K n))(cT:Cl Pr w K mg base r "_law_taken" Ii (Oc K n)) :
  Aq Pr w K mg base B5 (r+1) f fd Ii (Sv K n):=by
 refine F.okS MK (λvs H Q E h=>?_) (λBf A outer s H vs Q E hr h=>?_)
 ·obtain ⟨a,ns,k,g,rg,l,xs,d,rfl,_⟩:=h;rfl
 ·obtain ⟨a,ns,k,g,rg,l,xs,d,rfl,P,ZX,h8,w9,hx,q⟩:=h;have G0:Ar 2 _:=hr.mono ();have qr:Ar 11 _:=hr.mono ();have S:AY (Cr B5 Pr w K mg base ["_law_script","_law_k","_law_goal","_law_names","_law_deep","_law_number","_law_good"] "_law_made" (A5 BQ) f Bf A outer s H E).nox (Bt (valueOf (inDef BQ 1))) [("_law_goal",s.heap.objs.size+1)] ["_law_one"] ["_law_goal"] [2] :=
   ⟨rfl,by decide +kernel,rfl,by decide +kernel,rfl,rfl,rfl,rfl⟩
  have HD:(["_law_one","_law_goal"]:List Str).Nodup:=by decide +kernel
  refine ⟨_,(A3 (Al (i:=5) MK.nd rfl (.inl rfl) (Ay cM G0 rfl (A1 (Aa 0) (A1 (Aa 1) A2))))
   (A3 (Fx (i:=6) MK.nd rfl (.inl rfl) (tt:=tB (EW (F9 8) [] E0 (Be (FQ (D7 K) (B9 0) (tC (.int 1))) (Be (B9 1) DE)))) (te:=FQ (D7 K) (B9 0) (tC (.int 0))) S rfl (DS (Aa 3)) (λC s0 H0 ex=>AQ (i:=0) HD rfl (.inl rfl)) (λC s0 H0 ex=>Rt (Kl (Ay cW qr rfl (A1 (eI 0) (A1 (Aa 1) A2))))) (λC s0 H0 ex=>Bj BE (Aa 0) A7 Cm))
   (A3 (AS (Kn (w_and (Bz (Aa 6)) (Dk (Ao AA (Am AB (Aa 5) A7) A7 (Ag _))))) (Ac (Ak (Ah (A1 Ab (A1 (Bj (r:=C4 K) AE (Aa 6) (Am AB (Am Br (Aa 5) A7) (Bs Bl (by rfl) D4 PySem.boot_len (A1 (Aa 6) A2))) Cm) A2))))) Ax)
   (A3 (AS (Kn (w_and (Ao Xa (Aa 4) A7 (Ag _)) (Dk (Ao GL (Am AB (Aa 5) A7) A7 (Ag _))))) (Ac (Ak (Ay cT hr rfl (A1 (Aa 0) (A1 (Aa 1) (A1 (Aa 2) (A1 (Aa 3) (A1 (Am Cn (Aa 4) A7) A2)))))))) Ax)
   (Ac (Ak (Ay cB hr rfl (A1 (Aa 0) (A1 (Aa 1) (A1 (Aa 2) (A1 (Aa 3) (A1 (Bs (OU rfl) (by rfl) Od PyProof.Rows.boot_max (A1 A7 (A1 (Am Cn (Aa 4) A7) A2))) A2)))))))))))),?_⟩
  apply ⟨a,ns,k,rfl,P.hs,λm hm=>?_⟩;left;obtain ⟨rs,Fw,Ej⟩:=P.hl;have lr:=Paired.len Ej;refine ⟨l,rfl,⟨_,AG.of Fw⟩,?_⟩;refine F5 (K:=K) (a:=l) (xs:=rs) (λi ys H'=>A9 H H'/\ys.length<=i/\∀ y∈ys,∃ x∈xs,y=.str x.1/\wd x.2 g=true) ⟨A9.refl _,Nat.zero_le _,λy hy=>by cases hy⟩ (λi ys H' z=>AG.of (z.1 _ _ Fw)) (by exact Bx ()) (λi ys H' z=>z.2.1) rfl (λi x ys H1 hx z=>?_) (λys H1 z=>?_)
  ·obtain ⟨s1,z1,z2⟩:=z;obtain ⟨x0,gB,p,rk,rfl,h2,h3⟩:=Paired.at1 Ej hx;have hi:=(List.getElem?_eq_some_iff.mp hx).1;have qt:=List.mem_of_getElem? gB;apply A4 (s1 _ _ h2) rfl ?_;left;have Uk:=P.hx x0 qt;refine ⟨x0.2,g,rk,rg,rfl,B7.mono (Ae.of_same s1) h3,B7.mono (Ae.of_same s1) P.hg,Uk,zD Uk,(),λH2 s2=>?_⟩;apply Dz (λqu=>?_) λ_=>?_
   ·apply A4 (s2 _ _ (s1 _ _ h2)) rfl ?_;refine Nx.mk hi ⟨s1.trans s2,by rw [List.length_append];simp;omega,λy hy=>?_⟩;rcases List.mem_append.mp hy with hy | hy
    ·exact z2 y hy
    ·rw [List.mem_singleton.mp hy];exact ⟨x0,qt,rfl,qu⟩
   ·exact Nx.mk hi ⟨s1.trans s2,(),z2⟩
  ·obtain ⟨s1,z1,z2⟩:=z;intros gl H2 s2 e2;apply ⟨!ys.isEmpty,.inl ⟨_,AG.of e2,rfl⟩,?_⟩;have BG:=s1.trans s2;have P2:=P.mono BG;refine fQ ?_ λhc rest=>?_
   ·left;have tk:∀ d',d=d'+1->∀ r,PQ xs g (B (d'+1) (dp g)) (C (d'+1) (sk g)) r->PQ xs g (B d (dp g)) (C d (sk g)) r:=λd' e r h=>e▸h;have blt:∀ d':Nat,(d=0/\d'=0)\/d=d'+1->Fb K n [.ref a,.int k,rg,.ref l,.int d'] H2 Q E0:=λd' hd=>by
     refine ⟨a,ns,k,g,rg,l,xs,d',rfl,P2,λz=>?_,λz=>?_,(),(by unfold Pm at w9;unfold Pb;omega),(),λe r H3 s3 ha ho=>q e r H3 (BG.trans s3) ha ?_⟩
     ·rcases hd with ⟨h1,h2⟩ | hd
      ·subst h1;exact ZX
      ·subst hd;subst z;have:max 3 (dp g)+2 * (0+1)<=n:=ZX;omega
     ·rcases hd with ⟨h1,h2⟩ | hd
      ·omega
      ·subst hd;have:max 3 (dp g)+2 * (d'+1)<=n:=ZX;omega
     ·rcases hd with ⟨h1,h2⟩ | hd
      ·subst h1 h2;exact ho
      ·subst hd;exact ⟨ho.cl,ho.op,Nat.le_trans ho.np (gJ d' _),Nat.le_trans ho.sz (gK d' _),ho.ty⟩
    have built:∀ D:Ends,D.rt=Q->UA (EW (Fb K n) [] E0 (Be (B9 0) (Be (B9 1) (Be (B9 2) (Be (B9 3) (Be (YI (λxs H Q=>∃ i j,xs=[.int i,.int j]/\Q (.int (if j > i then j else i)) H) (Be (tC (.int 0)) (Be (FQ (QI λi j=>.int (i - j)) (B9 4) (tC (.int 1))) DE))) DE)))))) D [some (.ref a),some (.int k),some rg,some (.ref l),some (.int d),some (.int m),some (.ref gl)] H2:=by
     intro D hD;apply ⟨_,_,rfl,?_⟩;left;rw [hD];cases d with
     | zero=>exact blt 0 (.inl ⟨rfl,rfl⟩)
     | succ d' =>
      rw [Kx];have e:(if (d':Int) > 0 then (d':Int) else 0)=(d':Int):=by split <;> omega
      rw [e];exact blt d' (.inr rfl)
    refine Dz (λc1=>?_) λ_=>Ce (built _ rfl);apply Dz (λ_=>?_) λ_=>built _ rfl;left;cases d with
    | zero=>exact absurd (of_decide_eq_true c1) ⟨⟩
    | succ d' =>
     refine ⟨a,ns,k,g,rg,l,xs,d',by rw [Kx],P2,?_,?_,(by unfold Pm at w9;omega),(),λe r H3 s3 ha ho=>q e r H3 (BG.trans s3) ha ho⟩
     ·have:max 3 (dp g)+2 * (d'+1)<=n:=ZX;omega
     ·omega
   ·apply Dz (λ_=>?_) λ_=>rest;apply ⟨gl,_,rfl,.inl (AG.of e2),?_⟩;have Ji:(0:Int) < (ys.length:Nat):=by
     cases ys with
     | nil=>simp at hc
     | cons x xs=>simp
    refine fO Ji (Cs (AG.of e2) (Int.emod_nonneg _ ()) (Int.emod_lt_of_pos _ Ji) λv hv=>?_);left;intros p H3 s3 e3;obtain ⟨x,hx,rfl,qu⟩:=z2 v hv;exact q (.nm x.1) _ _ (BG.trans s3) ⟨p,rfl,e3⟩ ⟨List.mem_map.mpr ⟨x,hx,rfl⟩,trivial,Nat.zero_le _,Nat.le_trans (ZV g) (gI d _),.nm ⟨x.2,hx,(Z4 _ _).mp qu⟩⟩
theorem gL:∀ d,C d 7+4<=C d 11
 | 0=>by simp [C]
 | d+1=>by have:=gL d;have:=C7 d (show 1+7<=1+11 by omega);simp only [C];omega
theorem ZY (h1:a<=C d 7+4)(h2:b<=C d s):1+a+b<=C (d+1) s:=by have:=gL d;simp only [C];omega
theorem KW (h1:a<=C d 11)(h2:b<=C d s)(h3:c<=C d s):1+a+b+c<=C (d+1) s:=by simp only [C];omega
theorem ZZ (h1:a<=C d 11)(h2:b<=C d s):1+a+b<=C (d+1) s:=by simp only [C];omega
theorem Z' (h1:a<=C d (1+s))(h2:b<=C d 11):1+a+b<=C (d+1) s:=by simp only [C];omega
theorem Sx (h1:a<=B d 3)(h2:b<=B d p):1+a+b<=B (d+1) p:=by simp only [B,cc] at *;omega
theorem gM (h1:a<=B d 3)(h2:b<=B d p)(h3:c<=B d p):1+max a (max b c)<=B (d+1) p:=by simp only [B,cc] at *;omega
theorem a8 (hk:k<=2)(h1:a<=B d (max k p+1))(h2:b<=B d 3):1+max a b<=B (d+1) p:=by simp only [B,cc] at *;omega
theorem a9 (h1:a<=B d 3)(h2:b<=B d p)(h3:c<=B d p):1+max c (a+b)<=B (d+1) p:=by simp only [B,cc] at *;omega
noncomputable def XA (K:W.Frag)(n:Nat):Sp:=λvs H Q _=>∃ (a:Addr) (ns:List Int) (k:Int) (g:Kd) (rg:V) (l:Addr) (xs:List (Str × Kd)) (d:Nat) (x:Str) (kd:Kd) (rk:V),vs=[.ref a,.int k,rg,.ref l,.int d,.str x,rk]/\FH K H a ns g rg l xs/\B7 H kd rk/\Kz kd/\dp kd<=2/\max 3 (dp g)+2 * d+2<=n/\max 3 (dp g)+d+1<=8/\d<=3/\xs.length+2 * n<=1000 /\
 ∀ e r H',A9 H H'->As H' e r->PQ xs g (B (d+1) (dp g)) (C (d+1) (sk g)) e->Q r H'
theorem Bd {K:W.Frag}(P:FH K H a ns g rg l xs)(hd:left=.int d)(h3:dp g<=max 3 (n - 1 - 2 * d))(hn:2 * d+4<=n)(h8:max 3 (dp g)+d<=8)(Oe:d<=3)(hx:xs.length+2 * n<=1002)(q:∀ e r H',A9 H H'->As H' e r->PQ xs g (B d (dp g)) (C d (sk g)) e->Q r H'):Cz K n [.ref a,.int k,rg,.ref l,left] H Q E:=by
 subst hd;cases n with
 | zero=>omega
 | succ n =>
  refine ⟨a,ns,k,g,rg,l,xs,d,rfl,P,?_,h8,.inl Oe,(),q⟩;cases d with
  | zero=>simp only [mu];omega
  | succ d=>simp only [mu];omega
theorem FH.with {K:W.Frag}(P:FH K H a ns g rg l xs)(hg:B7 H g' wc)(gd:Kz g')(hl:HC H l' qv)(hx:∀ x∈qv,dp x.2<=8):FH K H a ns g' wc l' qv:=⟨P.hs,hg,gd,hl,hx⟩
theorem BI (m:Int->Option Kd):∀ {k:Kd},Kz k->fill m k=k
 | .num,_=>rfl
 | .tru,_=>rfl
 | .gap _,h=>h.elim
 | .ls a,h=>by show Kd.ls (fill m a)=_;rw [BI m (k:=a) h]
 | .fn a b,h=>by show Kd.fn (fill m a) (fill m b)=_;rw [BI m h.1,BI m h.2]
 | .pr a b,h=>by show Kd.pr (fill m a) (fill m b)=_;rw [BI m h.1,BI m h.2]
theorem Og (h:Ep more x=true):∀ m∈more,x.1≠m.1:=λm hm e=>by
 unfold Ep Ir at h;rw [Bool.not_eq_true'] at h;rw [List.any_eq_false] at h;exact h _ (List.mem_map.mpr ⟨m,hm,rfl⟩) (by rw [e];exact beq_self_eq_true _)
theorem KY:(Xw (Xx xs [(x,wk)])).Le ((Xw xs).put x λt=>∃ m,fill m wk=t):=by
 rintro y t ⟨k,hk,m,e⟩;simp only [Gm.put];rcases List.mem_append.mp hk with hk | hk
 ·obtain ⟨h1,h2⟩:=List.mem_filter.mp hk;have:=Og h2 (x,wk) (.head _);rw [if_neg this];exact ⟨k,h1,m,e⟩
 ·cases List.mem_singleton.mp hk;rw [if_pos rfl];exact ⟨m,e⟩
theorem PY (g:Kz wk):(Xw (Xx xs [(x,wk)])).Le ((Xw xs).put x (·=wk)):=λy t h=>by
 have:=KY y t h;simp only [Gm.put] at this ⊢;split
 ·rename_i e;rw [if_pos e] at this;obtain ⟨m,rfl⟩:=this;exact BI m g
 ·rename_i e;rw [if_neg e] at this;exact this
theorem HG (ga:Kz a)(gb:Kz b)(h:(x=y/\more=[(y,b)])\/(x≠y/\more=[(x,a),(y,b)])):(Xw (Xx xs more)).Le (((Xw xs).put x (·=a)).put y (·=b)):=by
 rintro z t ⟨k,hk,m,e⟩;simp only [Gm.put];rcases List.mem_append.mp hk with hk | hk
 ·obtain ⟨h1,h2⟩:=List.mem_filter.mp hk;have k1:=Og h2;have ny:z≠y:=by rcases h with ⟨_,rfl⟩ | ⟨_,rfl⟩ <;> exact k1 (y,b) (by simp)
  have nx:z≠x:=by
   rcases h with ⟨rfl,_⟩ | ⟨_,rfl⟩
   ·exact ny
   ·exact k1 (x,a) (by simp)
  rw [if_neg ny,if_neg nx];exact ⟨k,h1,m,e⟩
 ·rcases h with ⟨rfl,rfl⟩ | ⟨n,rfl⟩
  ·cases List.mem_singleton.mp hk;rw [if_pos rfl,<- e];exact BI m gb
  ·simp only [List.mem_cons,List.not_mem_nil,or_false,Prod.mk.injEq] at hk;rcases hk with ⟨rfl,rfl⟩ | ⟨rfl,rfl⟩
   ·rw [if_neg n,if_pos rfl,<- e];exact BI m ga
   ·rw [if_pos rfl,<- e];exact BI m gb
theorem Fc {xs more:List (Str × Kd)}{e:Ex}{ys:List Str}(h:e.cl (Jq (Xx xs more)))(hm:∀ m∈more,m.1∈ys)(hx:∀ x∈Jq xs,x∈ys):e.cl ys:=by
 refine Ex.cl.mono (λz hz=>?_) h;obtain ⟨y,hy,rfl⟩:=List.mem_map.mp hz;rcases Eb hy with hy | hy
 ·exact hm y hy
 ·exact hx _ (List.mem_map.mpr ⟨y,hy,rfl⟩)
theorem Es:Ai ["_law_script","_law_k","_law_goal","_law_names","_law_deep","_law_a","_law_kind","_law_number","_law_one","_law_wide"] ["_law_script","_law_k","_law_goal","_law_names","_law_deep","_law_a","_law_kind"] (A5 Dr):=nofun
theorem af (F:Cd K "_law_let" "_law_let" Dr f fd)(ZW:11<=r)(cM:Cl Pr w K mg base 2 "_law_mix" Ij (Dx K))(cV:Cl Pr w K mg base 1 "_law_with" ["_law_names","_law_more"] FG)(cD:Cl Pr w K mg base r "_law_made" Ii (Cz K n)) :
  Aq Pr w K mg base B5 (r+1) f fd ["_law_script","_law_k","_law_goal","_law_names","_law_deep","_law_a","_law_kind"] (XA K n):=by
 refine F.okS Es (λvs H Q E h=>?_) (λBf A outer s H vs Q E hr h=>?_)
 ·obtain ⟨a,ns,k,g,rg,l,xs,d,x,kd,rk,rfl,_⟩:=h;rfl
 ·obtain ⟨a,ns,k,g,rg,l,xs,d,x,kd,rk,rfl,P,hk,gk,dk,ZX,h8,h3,hx,q⟩:=h;have G0:Ar 2 _:=hr.mono ();have DA:Ar 1 _:=hr.mono ();refine ⟨_,(A3 (Al (i:=7) Es.nd rfl (.inl rfl) (Ay cM G0 rfl (A1 (Aa 0) (A1 (Am AH (Aa 1) A7) A2))))
   (A3 (Al (i:=8) Es.nd rfl (.inl rfl) (Ah (A1 Ab A2)))
   (A3 (Al (i:=9) Es.nd rfl (.inl rfl) (Ah (A1 Ab (A1 (Ah (A1 Ab (A1 A7 A2))) A2))))
   (A3 (AS (Ao AA (Am AB (Aa 7) A7) A7 (Ag _)) (A3 (Al (i:=8) Es.nd rfl (.inl rfl) (Ah (A1 Ab (A1 Ab (A1 (Ah (A1 Ab (A1 Ab A2))) A2)))))
   (Ac (Al (i:=9) Es.nd rfl (.inl rfl) (Ah (A1 Ab (A1 (Ah (A1 Ab (A1 A7 A2))) (A1 (Ah (A1 Ab (A1 A7 A2))) A2))))))) (Ac (AS (Ao AA (Am AB (Aa 7) A7) A7 (Ag _)) (A3 (Al (i:=8) Es.nd rfl (.inl rfl) (Ah (A1 Ab (A1 Ab (A1 (Ah (A1 Ab (A1 (Ah (A1 Ab (A1 Ab A2))) (A1 (Ah (A1 Ab (A1 Ab A2))) A2)))) A2)))))
   (Ac (Al (i:=9) Es.nd rfl (.inl rfl) (Ah (A1 Ab (A1 (Ah (A1 Ab (A1 A7 A2))) (A1 (Ah (A1 Ab (A1 (Ah (A1 Ab (A1 A7 A2))) (A1 (Ah (A1 Ab (A1 A7 A2))) A2)))) A2))))))) (Ac (AS (Ao AA (Am AB (Aa 7) A7) A7 (Ag _)) (A3 (Al (i:=8) Es.nd rfl (.inl rfl) (Ay cD hr rfl (A1 (Aa 0) (A1 (Am AH (Am B1 A7 (Aa 1)) A7) (A1 (Aa 6) (A1 (Aa 3) (A1 (Aa 4) A2)))))))
   (Ac (Al (i:=9) Es.nd rfl (.inl rfl) (Aa 6)))) Ax)))))
   (Ac (Ak (Ah (A1 Ab (A1 (Aa 5) (A1 (Aa 8) (A1 (Ay cD hr rfl (A1 (Aa 0) (A1 (Am AH (Am B1 A7 (Aa 1)) A7) (A1 (Aa 2) (A1 (Ay cV DA rfl (A1 (Aa 3) (A1 (Bi (A1 (Ah (A1 (Aa 5) (A1 (Aa 9) A2))) A2)) A2))) (A1 (Aa 4) A2)))))) A2))))))))))),?_⟩
  apply ⟨a,ns,_,rfl,P.hs,λm hm=>?_⟩;left;intros p1 H1 s1 e1;left;intros p2 H2 s2 e2;left;intros p3 H3 s3 e3;left;have HW:=s1.trans (s2.trans s3);refine VA (fun σ' H'=>∃ e1 r1 wk rw,σ'=[some (.ref a),some (.int k),some rg,some (.ref l),some (.int d),some (.str x),some rk,some (.int m),some r1,some rw]/\A9 H3 H'/\As H' e1 r1/\e1.cl (Jq xs)/\e1.opj 29/\e1.kn<=B d 3/\e1.sz<=C d 7+4/\B7 H' wk rw/\dp wk<=8/\∀ m',HK (Xw xs) e1 (fill m' wk)) ?_ λfin=>?_
  ·rintro σ' H' ⟨e1,r1,wk,rw,rfl,s4,a1,c1,o1,n1,z1,kw,dw,we⟩;have XB:=HW.trans s4;left;intros p4 H5 s5 e5;left;intros p5 H6 s6 e6;left;have gN:=s5.trans s6;have zF:HC H6 p5 [(x,wk)]:=⟨_,e6,.cons ⟨p4,rw,rfl,s6 _ _ e5,B7.mono (Ae.of_same gN) kw⟩ .nil⟩;refine ⟨l,p5,xs,[(x,wk)],rfl,P.hl.mono (XB.trans gN),zF,by simp;omega,λl2 H7 s7 Ej=>?_⟩;left;have P7:=P.mono (XB.trans (gN.trans s7));refine Bd (P7.with P7.hg P.gd Ej λy hy=>?_) rfl () () () h3 ?_ λe2 r2 H8 s8 a2 o2=>?_
   ·rcases Eb hy with hy | hy
    ·rw [List.mem_singleton.mp hy];exact dw
    ·exact P.hx y hy
   ·have:=F7 xs [(x,wk)];simp at this;omega
   left;intros p6 H9 s9 e9;refine q (.lt x e1 e2) _ _ (XB.trans (gN.trans (s7.trans (s8.trans s9)))) ⟨p6,r1,r2,rfl,e9,As.mono (Ae.of_same (gN.trans (s7.trans (s8.trans s9)))) a1,As.mono (Ae.of_same s9) a2⟩ ⟨⟨c1,?_⟩,⟨o1,o2.op⟩,?_,?_,.lt _ (we λ_=>none) (λt ⟨m',z⟩=>z▸we m') (o2.ty.mono KY)⟩
   ·exact Fc o2.cl (λm hm=>by rw [List.mem_singleton.mp hm];exact .head _) (λz hz=>.tail _ hz)
   ·have h1:=o2.np;exact Sx n1 h1
   ·exact ZY z1 o2.sz
  ·refine S3 ?_;apply Dz (λ_=>?_) λ_=>?_
   ·left;intros p4 H4 s4 e4;left;intros p5 H5 s5 e5;left;intros p6 H6 s6 e6;left;intros p7 H7 s7 e7;left;intros p8 H8 s8 e8;exact fin _ _ ⟨.fn "y" (.nm "y"),.ref p5,.fn (.gap 0) (.gap 0),.ref p8,rfl,s4.trans (s5.trans (s6.trans (s7.trans s8))),⟨p5,.ref p4,rfl,s8 _ _ (s7 _ _ (s6 _ _ e5)),p4,rfl,s8 _ _ (s7 _ _ (s6 _ _ (s5 _ _ e4)))⟩,List.mem_cons_self,⟨trivial,⟨⟩⟩,by show 1<=_;unfold B;omega,by simp [Ex.sz],⟨p8,.ref p6,.ref p7,rfl,e8,⟨p6,rfl,s8 _ _ (s7 _ _ e6)⟩,⟨p7,rfl,s8 _ _ e7⟩⟩,by simp [dp],λm'=>.fn (.nm (by simp [Gm.put]))⟩
   apply Dz (λ_=>?_) λ_=>?_
   ·left;intros p4 H4 s4 e4;left;intros p5 H5 s5 e5;left;intros p6 H6 s6 e6;left;intros p7 H7 s7 e7;left;intros p8 H8 s8 e8;left;intros p9 H9 s9 e9;left;intros wg PZ Et P';left;intros wj Qr Ef KU;left;intros wm m9 Fd Xz;have t7:=s8.trans (s9.trans (Et.trans (Ef.trans Fd)));exact fin _ _ ⟨.fn "y" (.pr (.nm "y") (.nm "y")),.ref p7,.fn (.gap 0) (.pr (.gap 0) (.gap 0)),.ref wm,rfl,s4.trans (s5.trans (s6.trans (s7.trans t7))),⟨p7,.ref p6,rfl,t7 _ _ e7,p6,.ref p4,.ref p5,rfl,t7 _ _ (s7 _ _ e6),⟨p4,rfl,t7 _ _ (s7 _ _ (s6 _ _ (s5 _ _ e4)))⟩,⟨p5,rfl,t7 _ _ (s7 _ _ (s6 _ _ e5))⟩⟩,⟨List.mem_cons_self,List.mem_cons_self⟩,⟨⟨trivial,trivial⟩,⟨⟩⟩,by show 2<=_;unfold B;omega,by simp [Ex.sz],⟨wm,.ref p8,.ref wj,rfl,Xz,⟨p8,rfl,Fd _ _ (Ef _ _ (Et _ _ (s9 _ _ e8)))⟩,wj,.ref p9,.ref wg,rfl,Fd _ _ KU,⟨p9,rfl,Fd _ _ (Ef _ _ (Et _ _ e9))⟩,⟨wg,rfl,Fd _ _ (Ef _ _ P')⟩⟩,by simp [dp],λm'=>.fn (.pr (.nm (by simp [Gm.put])) (.nm (by simp [Gm.put])))⟩
   left;have wo:=B7.mono (Ae.of_same HW) hk;refine Dz (λ_=>?_) λ_=>?_
   ·left;have P3:=P.mono HW;refine Bd (P3.with wo gk P3.hl P.hx) rfl () () () h3 () λe1 r1 H4 s4 a1 o1=>?_;have hp:=vZ dk;refine Zh (Zg (v:=rk) rfl ?_);exact fin _ _ ⟨e1,r1,kd,rk,rfl,s4,a1,o1.cl,o1.op,Nat.le_trans o1.np (Dt d hp.1),Nat.le_trans o1.sz (Nat.le_trans (C7 d hp.2) ()),B7.mono (Ae.of_same s4) wo,(),λm'=>by rw [BI m' gk];exact o1.ty⟩
   ·exact fin _ _ ⟨.emp,.ref p1,.ls (.gap 0),.ref p3,rfl,A9.refl _,⟨p1,rfl,s3 _ _ (s2 _ _ e1)⟩,trivial,trivial,Nat.zero_le _,by simp [Ex.sz],⟨p3,.ref p2,rfl,e3,p2,rfl,s3 _ _ e2⟩,by simp [dp],λm'=>.emp _⟩
theorem BB:Ai ["_law_script","_law_k","_law_goal","_law_names","_law_deep","_law_number","_law_a","_law_b","_law_kind","_law_one","_law_other","_law_second","_law_word","_law_given","_law_last"] Ii (A5 Ct):=nofun
theorem Sy (F:Cd K "_law_taken" "_law_taken" Ct f fd)(IL:mg "int"=none)(ZW:11<=r)(cM:Cl Pr w K mg base 2 "_law_mix" Ij (Dx K))(cN:Cl Pr w K mg base 1 "_law_name" ["_law_number"] Hn)(cV:Cl Pr w K mg base 1 "_law_with" ["_law_names","_law_more"] FG)(cG:Cl Pr w K mg base 5 "_law_ground" ["_law_script","_law_k","_law_deep"] (Di K 2))(cD:Cl Pr w K mg base r "_law_made" Ii (Cz K n))(cL:Cl Pr w K mg base (r+1) "_law_let" ["_law_script","_law_k","_law_goal","_law_names","_law_deep","_law_a","_law_kind"] (XA K n)) :
  Aq Pr w K mg base B5 (r+2) f fd Ii (Oc K n):=by
 refine F.okS BB (λvs H Q E h=>?_) (λBf A outer s H vs Q E hr h=>?_)
 ·obtain ⟨a,ns,k,g,rg,l,xs,d,rfl,_⟩:=h;rfl
 ·obtain ⟨a,ns,k,g,rg,l,xs,d,rfl,P,ZX,h8,h3,hx,q⟩:=h;have G0:Ar 2 _:=hr.mono ();have DA:Ar 1 _:=hr.mono ();have ma:Ar 4 _:=hr.mono ();have mh:Ar 5 _:=hr.mono ();have XC:Ar r _:=hr.mono ();refine ⟨_,(A3 (Al (i:=5) BB.nd rfl (.inl rfl) (Ay cM G0 rfl (A1 (Aa 0) (A1 (Am AH (Aa 1) A7) A2))))
   (A3 (Al (i:=6) BB.nd rfl (.inl rfl) (Ay cN DA rfl (A1 (Am Br (Aa 5) A7) A2)))
   (A3 (Al (i:=7) BB.nd rfl (.inl rfl) (Ay cN DA rfl (A1 (Am Br (Aa 5) A7) A2)))
   (A3 (Al (i:=8) BB.nd rfl (.inl rfl) (Ay cG mh rfl (A1 (Aa 0) (A1 (Am AH (Am B1 A7 (Aa 1)) A7) (A1 (Am AH A7 (Am AB (Am Br (Aa 5) A7) A7)) A2)))))
   (A3 (AS (Ao GL (Am AB (Aa 5) A7) A7 (Ag _)) (Ac (Ak (Ay cL hr rfl (A1 (Aa 0) (A1 (Aa 1) (A1 (Aa 2) (A1 (Aa 3) (A1 (Aa 4) (A1 (Aa 6) (A1 (Aa 8) A2)))))))))) Ax)
   (A3 (AS (Ao AA (Am AB (Aa 5) A7) A7 (Ag _)) (A3 (Al (i:=9) BB.nd rfl (.inl rfl) (Ay cD XC rfl (A1 (Aa 0) (A1 (Am AH (Am B1 A7 (Aa 1)) A7) (A1 (Ah (A1 Ab A2)) (A1 (Aa 3) (A1 (Aa 4) A2)))))))
   (A3 (Al (i:=10) BB.nd rfl (.inl rfl) (Ay cD XC rfl (A1 (Aa 0) (A1 (Am AH (Am B1 A7 (Aa 1)) A7) (A1 (Aa 2) (A1 (Aa 3) (A1 (Aa 4) A2)))))))
   (Ac (Ak (Ah (A1 Ab (A1 (Aa 9) (A1 (Aa 10) (A1 (Ay cD XC rfl (A1 (Aa 0) (A1 (Am AH (Am B1 A7 (Aa 1)) A7) (A1 (Aa 2) (A1 (Aa 3) (A1 (Aa 4) A2)))))) A2))))))))) Ax)
   (A3 (AS (Ao GL (Am AB (Aa 5) A7) A7 (Ag _)) (A3 (Al (i:=9) BB.nd rfl (.inl rfl) (Ay cD XC rfl (A1 (Aa 0) (A1 (Am AH (Am B1 A7 (Aa 1)) A7) (A1 (Ah (A1 Ab (A1 (Aa 8) (A1 (Aa 2) A2)))) (A1 (Aa 3) (A1 (Aa 4) A2)))))))
   (Ac (Ak (Ah (A1 Ab (A1 (Aa 9) (A1 (Ay cD XC rfl (A1 (Aa 0) (A1 (Am AH (Am B1 A7 (Aa 1)) A7) (A1 (Aa 8) (A1 (Aa 3) (A1 (Aa 4) A2)))))) A2))))))) Ax)
   (A3 (Al (i:=11) BB.nd rfl (.inl rfl) (Ay cG mh rfl (A1 (Aa 0) (A1 (Am AH (Am B1 A7 (Aa 1)) A7) (A1 A7 A2)))))
   (A3 (Al (i:=12) BB.nd rfl (.inl rfl) (Bj (r:=C4 K) AE (Bi (A1 Ab (A1 Ab A2))) (Am Cn (Am AB (Aa 5) A7) A7) Cm))
   (A3 (Al (i:=9) BB.nd rfl (.inl rfl) (Ay cD XC rfl (A1 (Aa 0) (A1 (Am AH (Am B1 A7 (Aa 1)) A7) (A1 (Jc (Ao AA (Aa 12) Ab (Ag _)) (Ah (A1 Ab (A1 (Aa 8) (A1 (Aa 11) A2)))) (Ah (A1 Ab (A1 (Aa 8) A2)))) (A1 (Aa 3) (A1 (Aa 4) A2)))))))
   (A3 (Al (i:=13) BB.nd rfl (.inl rfl) (Gq (r:=YL K) UT (Bi (A1 (Ah (A1 (Aa 6) (A1 (Aa 8) A2))) (A1 (Ah (A1 (Aa 7) (A1 (Jc (Ao AA (Aa 12) Ab (Ag _)) (Aa 11) (Ah (A1 Ab (A1 (Aa 8) A2)))) A2))) A2))) (Jb (Bw OV (by rfl) IL PyProof.Rows.boot_int (A1 (Em AA (Aa 6) (Aa 7) (Ag _)) A2))) Ja))
   (A3 (Al (i:=14) BB.nd rfl (.inl rfl) (Ay cD XC rfl (A1 (Aa 0) (A1 (Am AH (Am B1 A7 (Aa 1)) A7) (A1 (Aa 2) (A1 (Ay cV DA rfl (A1 (Aa 3) (A1 (Aa 13) A2))) (A1 (Aa 4) A2)))))))
   (A3 (AS (Ao AA (Aa 12) Ab (Ag _)) (Ac (Ak (Ah (A1 Ab (A1 (Aa 9) (A1 (Aa 6) (A1 (Aa 7) (A1 (Aa 14) A2)))))))) Ax)
   (Ac (Ak (Ah (A1 Ab (A1 (Aa 9) (A1 (Ay cD XC rfl (A1 (Aa 0) (A1 (Am AH (Am B1 A7 (Aa 1)) A7) (A1 (Aa 2) (A1 (Aa 3) (A1 (Aa 4) A2)))))) (A1 (Aa 6) (A1 (Aa 7) (A1 (Aa 14) A2)))))))))))))))))))))),?_⟩
  apply ⟨a,ns,_,rfl,P.hs,λm hm=>?_⟩;apply ⟨_,rfl,λx H1 s1=>?_⟩;apply ⟨_,rfl,λy H2 s2=>?_⟩;left;have BG:=s1.trans s2;have lo:=Int.emod_nonneg (m / 200) (b:=2) ⟨⟩;have hi:=Int.emod_lt_of_pos (m / 200) (b:=2) ⟨⟩;refine ⟨a,ns,3 * k+7,(1+m / 200 % 2).toNat,?_,(),BG.seq P.hs,λkd rk H3 s3 hk gk dk=>?_⟩
  ·rw [Int.toNat_of_nonneg ()]
  have wq:dp kd<=2:=by omega
  have zG:=vZ wq;have HW:=BG.trans s3;have P3:=P.mono HW;apply Dz (λ_=>?_) λw1=>?_
  ·left;exact ⟨a,ns,k,g,rg,l,xs,d,x,kd,rk,rfl,P3,hk,gk,wq,ZX,h8,h3,hx,λe r H' s' ha ho=>q e r H' (HW.trans s') ha ho⟩
  apply Dz (λ_=>?_) λw2=>?_
  ·left;intros p1 H4 s4 e4;left;have P4:=P3.mono s4;refine Bd (P4.with (g':=.tru) ⟨p1,rfl,e4⟩ trivial P4.hl P.hx) rfl (by simp only [dp];omega) () (by simp only [dp];omega) h3 () λe1 r1 H5 s5 a1 o1=>?_;left;have P5:=P4.mono s5;refine Bd P5 rfl () () () h3 () λe2 r2 H6 s6 a2 o2=>?_;left;have P6:=P5.mono s6;refine Bd P6 rfl () () () h3 () λe3 r3 H7 s7 a3 o3=>?_;left;intros p2 H8 s8 e8;have n1:=o1.np;have n2:=o2.np;have n3:=o3.np;have z1:=o1.sz;have z2:=o2.sz;have z3:=o3.sz;have b3:=Dt d (show dp .tru<=3 by simp [dp]);have c3:=C7 d (show sk .tru<=11 by simp [sk]);refine q (.wh e1 e2 e3) _ _ (HW.trans (s4.trans (s5.trans (s6.trans (s7.trans s8))))) ⟨p2,r1,r2,r3,rfl,e8,As.mono (Ae.of_same (s6.trans (s7.trans s8))) a1,As.mono (Ae.of_same (s7.trans s8)) a2,As.mono (Ae.of_same s8) a3⟩ ⟨⟨o1.cl,o2.cl,o3.cl⟩,⟨o1.op,o2.op,o3.op⟩,?_,?_,.wh o1.ty o2.ty o3.ty⟩
   ·exact gM (Nat.le_trans n1 b3) n2 n3
   ·exact KW (Nat.le_trans z1 c3) z2 z3
  apply Dz (λ_=>?_) λw3=>?_
  ·left;intros p1 H4 s4 e4;left;have P4:=P3.mono s4;have mj:=B7.mono (Ae.of_same s4) hk;refine Bd (P4.with (g':=.fn kd g) ⟨p1,rk,rg,rfl,e4,mj,P4.hg⟩ ⟨gk,P.gd⟩ P4.hl P.hx) rfl (by simp only [dp];omega) () (by simp only [dp];omega) h3 () λe1 r1 H5 s5 a1 o1=>?_;left;have P5:=P4.mono s5;refine Bd (P5.with (B7.mono (Ae.of_same s5) mj) gk P5.hl P.hx) rfl () () () h3 () λe2 r2 H6 s6 a2 o2=>?_;left;intros p2 H8 s8 e8;have n1:=o1.np;have n2:=o2.np;have z1:=o1.sz;have z2:=o2.sz;have b3:=Dt d zG.1;have c3:=C7 d (show sk kd<=11 by omega);refine q (.cal e1 e2) _ _ (HW.trans (s4.trans (s5.trans (s6.trans s8)))) ⟨p2,r1,r2,rfl,e8,As.mono (Ae.of_same (s6.trans s8)) a1,As.mono (Ae.of_same s8) a2⟩ ⟨⟨o1.cl,o2.cl⟩,⟨o1.op,o2.op⟩,?_,?_,.cal o1.ty o2.ty⟩
   ·exact a8 () n1 (Nat.le_trans n2 b3)
   ·exact Z' z1 (Nat.le_trans z2 c3)
  apply ⟨a,ns,_,1,rfl,(),P3.hs,λsd rs H4 s4 QF gs ds=>?_⟩;have ps:=zE ds;have P4:=P3.mono s4;have mj:=B7.mono (Ae.of_same s4) hk;left;intros pw H5 s5 e5;left;have ne:∀ j:Int,¬ decide (V.int (m % 7)=V.int j)=true->m % 7≠j:=λj h z=>h (decide_eq_true (by rw [z]));have w2':=ne _ w2;have w1':¬ m % 7 < 2:=λz=>w1 (decide_eq_true z);have w3':¬ m % 7 < 5:=λz=>w3 (decide_eq_true z);have lo7:=Int.emod_nonneg m (b:=7) ⟨⟩;have hi7:=Int.emod_lt_of_pos m (b:=7) ⟨⟩;have P5:=P4.mono s5;have wx:=B7.mono (Ae.of_same s5) mj;have oG:=B7.mono (Ae.of_same s5) QF;have IP:=HW.trans (s4.trans s5);have two:∀ z∈(if x=y then [y] else [x,y]),z=y\/z=x:=by
   intro z hz;split at hz
   ·exact .inl (List.mem_singleton.mp hz)
   ·simp only [List.mem_cons,List.not_mem_nil,or_false] at hz;exact hz.symm
  refine Cs (AG.of e5) () (by simp;omega) λv hv=>?_;left;have LM:v=.str "open"\/v=.str "split":=by simpa using hv
  rcases LM with rfl | rfl
  ·apply AR (decide_eq_true rfl) ?_;left;intros p1 H6 s6 e6;left;have P6:=P5.mono s6;have gO:=B7.mono (Ae.of_same s6) wx;have wy:=B7.mono (Ae.of_same s6) oG;refine Bd (P6.with (g':=.pr kd sd) ⟨p1,rk,rs,rfl,e6,gO,wy⟩ ⟨gk,gs⟩ P6.hl P.hx) rfl (by simp only [dp];omega) () (by simp only [dp];omega) h3 () λe1 r1 H7 s7 a1 o1=>?_;left;intros q1 H8 s8 e8;apply AR (decide_eq_true rfl) ?_;left;intros q2 H9 s9 e9;left;intros q3 PZ Et P';apply .inr ⟨_,rfl,?_⟩;left;have KZ:=s7.trans (s8.trans (s9.trans Et));have VO:=B7.mono (Ae.of_same KZ) gO;have qw:=B7.mono (Ae.of_same KZ) wy;refine S4 (AG.of P') λq4 Qr _ Ef KU=>?_;left;have gQ:=P6.mono (KZ.trans Ef);have ent:∃ more:List (Str × Kd),HC Qr q4 more/\more.length<=2/\(∀ z∈more,z.1=y\/z.1=x)/\(∀ z∈more,dp z.2<=8)/\((x=y/\more=[(y,sd)])\/(x≠y/\more=[(x,kd),(y,sd)])):=by
    have n1:VL Qr (.ref q1) (x,kd):=⟨q1,rk,rfl,Ef _ _ (Et _ _ (s9 _ _ e8)),B7.mono (Ae.of_same Ef) VO⟩;have n2:VL Qr (.ref q2) (y,sd):=⟨q2,rs,rfl,Ef _ _ (Et _ _ e9),B7.mono (Ae.of_same Ef) qw⟩;by_cases ag:x=y
    ·subst ag;simp only [decide_true,↓reduceIte] at KU;exact ⟨[(x,sd)],⟨_,KU,.cons n2 .nil⟩,by simp,by simp,by simp;omega,.inl ⟨rfl,rfl⟩⟩
    ·have ed:decide (V.str x=V.str y)=false:=(by simp [ag]);rw [ed] at KU;exact ⟨[(x,kd),(y,sd)],⟨_,KU,.cons n1 (.cons n2 .nil)⟩,by simp,by simp,by simp;omega,.inr ⟨ag,rfl⟩⟩
   obtain ⟨more,qx,ZU,qy,qz,qA⟩:=ent;refine ⟨l,q4,xs,more,rfl,gQ.hl,qx,(),λl2 m9 Fd Ej=>?_⟩;left;have dr:=gQ.mono Fd;refine Bd (dr.with dr.hg P.gd Ej λz hz=>?_) rfl () () () h3 ?_ λe2 r2 qB Gx a2 o2=>?_
   ·rcases Eb hz with hz | hz
    ·exact qz z hz
    ·exact P.hx z hz
   ·have:=F7 xs more;omega
   apply AR (decide_eq_true rfl) ?_;left;intros p2 qC Jr ah;have n1:=o1.np;have n2:=o2.np;have z1:=o1.sz;have z2:=o2.sz;have b3:=Dt d (show dp (.pr kd sd)<=3 by simp only [dp];omega);have c3:=C7 d (show sk (.pr kd sd)<=11 by simp only [sk];omega);refine q (.opn e1 x y e2) _ _ (IP.trans (s6.trans (KZ.trans (Ef.trans (Fd.trans (Gx.trans Jr)))))) ⟨p2,r1,r2,rfl,ah,As.mono (Ae.of_same (s8.trans (s9.trans (Et.trans (Ef.trans (Fd.trans (Gx.trans Jr))))))) a1,As.mono (Ae.of_same Jr) a2⟩ ⟨⟨o1.cl,?_⟩,⟨o1.op,o2.op⟩,?_,?_,.opn o1.ty (o2.ty.mono (HG gk gs qA))⟩
   ·refine Fc o2.cl (λm hm=>?_) (λz hz=>.tail _ (.tail _ hz));rcases qy m hm with h | h
    ·rw [h];exact .head _
    ·rw [h];exact .tail _ (.head _)
   ·exact Sx (Nat.le_trans n1 b3) n2
   ·exact ZZ (Nat.le_trans z1 c3) z2
  ·apply Az ⟨⟩ ?_;left;intros p1 H6 s6 e6;left;have P6:=P5.mono s6;have gO:=B7.mono (Ae.of_same s6) wx;refine Bd (P6.with (g':=.ls kd) ⟨p1,rk,rfl,e6,gO⟩ gk P6.hl P.hx) rfl (by simp only [dp];omega) () (by simp only [dp];omega) h3 () λe1 r1 H7 s7 a1 o1=>?_;left;intros q1 H8 s8 e8;apply Az ⟨⟩ ?_;left;intros q0 H9' qD oB;left;intros q2 H9 s9 e9;left;intros q3 PZ Et P';apply .inr ⟨_,rfl,?_⟩;left;have KZ:=s7.trans (s8.trans (qD.trans (s9.trans Et)));have VO:=B7.mono (Ae.of_same KZ) gO;refine S4 (AG.of P') λq4 Qr _ Ef KU=>?_;left;have gQ:=P6.mono (KZ.trans Ef);have ent:∃ more:List (Str × Kd),HC Qr q4 more/\more.length<=2/\(∀ z∈more,z.1=y\/z.1=x)/\(∀ z∈more,dp z.2<=8)/\((x=y/\more=[(y,.ls kd)])\/(x≠y/\more=[(x,kd),(y,.ls kd)])):=by
    have n1:VL Qr (.ref q1) (x,kd):=⟨q1,rk,rfl,Ef _ _ (Et _ _ (s9 _ _ (qD _ _ e8))),B7.mono (Ae.of_same Ef) VO⟩;have n2:VL Qr (.ref q2) (y,.ls kd):=⟨q2,.ref q0,rfl,Ef _ _ (Et _ _ e9),q0,rk,rfl,Ef _ _ (Et _ _ (s9 _ _ oB)),B7.mono (Ae.of_same Ef) VO⟩;by_cases ag:x=y
    ·subst ag;simp only [decide_true,↓reduceIte] at KU;exact ⟨[(x,.ls kd)],⟨_,KU,.cons n2 .nil⟩,by simp,by simp,by simp [dp];omega,.inl ⟨rfl,rfl⟩⟩
    ·have ed:decide (V.str x=V.str y)=false:=(by simp [ag]);rw [ed] at KU;exact ⟨[(x,kd),(y,.ls kd)],⟨_,KU,.cons n1 (.cons n2 .nil)⟩,by simp,by simp,by simp [dp];omega,.inr ⟨ag,rfl⟩⟩
   obtain ⟨more,qx,ZU,qy,qz,qA⟩:=ent;refine ⟨l,q4,xs,more,rfl,gQ.hl,qx,(),λl2 m9 Fd Ej=>?_⟩;left;have dr:=gQ.mono Fd;refine Bd (dr.with dr.hg P.gd Ej λz hz=>?_) rfl () () () h3 ?_ λe2 r2 qB Gx a2 o2=>?_
   ·rcases Eb hz with hz | hz
    ·exact qz z hz
    ·exact P.hx z hz
   ·have:=F7 xs more;omega
   apply Az ⟨⟩ ?_;left;have zH:=dr.mono Gx;refine Bd zH rfl () () () h3 () λe3 r3 H15 gR a3 o3=>?_;left;intros p2 qC Jr ah;have n1:=o1.np;have n2:=o2.np;have z1:=o1.sz;have z2:=o2.sz;have n3:=o3.np;have z3:=o3.sz;have b3:=Dt d (show dp (.ls kd)<=3 by simp only [dp];omega);have c3:=C7 d (show sk (.ls kd)<=11 by simp only [sk];omega);refine q (.spl e1 e3 x y e2) _ _ (IP.trans (s6.trans (KZ.trans (Ef.trans (Fd.trans (Gx.trans (gR.trans Jr))))))) ⟨p2,r1,r3,r2,rfl,ah,As.mono (Ae.of_same (s8.trans (qD.trans (s9.trans (Et.trans (Ef.trans (Fd.trans (Gx.trans (gR.trans Jr))))))))) a1,As.mono (Ae.of_same Jr) a3,As.mono (Ae.of_same (gR.trans Jr)) a2⟩ ⟨⟨o1.cl,o3.cl,?_⟩,⟨o1.op,o3.op,o2.op⟩,?_,?_,.spl o1.ty o3.ty (o2.ty.mono (HG gk (show Kz (.ls kd) from gk) qA))⟩
   ·refine Fc o2.cl (λm hm=>?_) (λz hz=>.tail _ (.tail _ hz));rcases qy m hm with h | h
    ·rw [h];exact .head _
    ·rw [h];exact .tail _ (.head _)
   ·exact a9 (Nat.le_trans n1 b3) n2 n3
   ·exact KW (Nat.le_trans z1 c3) z3 z2
end
end K
namespace KX
open PySem Ex KM
noncomputable def Q0:Kd->Prop
 | .num | .tru=>True
 | .ls a=>Q0 a
 | .pr a b=>Q0 a/\Q0 b
 | _=>False
theorem VP (h:HK g0 w .num)(v:w.isV=true):∃ i,w=.num i:=h.cf v
theorem VQ (h:HK g0 w .tru)(v:w.isV=true):∃ i,w=.tru i:=h.cf v
theorem ai (h:HK g0 w (.pr a b))(v:w.isV=true):∃ x y,w=.pr x y/\HK g0 x a/\HK g0 y b/\x.isV=true/\y.isV=true:=by
 obtain ⟨x,y,rfl⟩:=h.cf v;obtain ⟨_,_,q,h1,h2⟩:=h.inv;cases q;exact ⟨_,_,rfl,h1,h2,Bool.and_eq_true_iff.1 v⟩
theorem aj (h:HK g0 w (.ls a))(v:w.isV=true):w=.emp\/∃ x y,w=.lk x y/\HK g0 x a/\HK g0 y (.ls a)/\x.isV=true/\y.isV=true:=by
 rcases h.cf v with rfl | ⟨x,y,rfl⟩
 ·exact .inl rfl
 ·obtain ⟨_,q,h1,h2⟩:=h.inv;cases q;exact .inr ⟨_,_,rfl,h1,h2,Bool.and_eq_true_iff.1 v⟩
theorem Sf.dep (h:Sf most m e c o):∀ {d:Nat},Tr k e->KX.dep dz e<=d+k * c->c<=most->∀ w c',o=.val w c'->KX.dep dz w<=d+k * most/\c'<=most:=by
 induction h with
 | val c v=>intro d T hd hc w c' z;cases z;exact ⟨Nat.le_trans hd (Nat.add_le_add_left (Nat.mul_le_mul_left k hc) d),hc⟩
 | stuck _ _ _=>intro d _ _ _ w c' z;cases z
 | over _ _ _=>intro d _ _ _ w c' z;cases z
 | @go e e' b c m o v s hb _ ih =>
  intro d T hd hc;obtain ⟨T',IW⟩:=Zt T s;refine ih T' ?_ hb;cases b
  ·simp only [grow] at IW;simpa using Nat.le_trans IW (by simpa using hd)
  ·simp only [grow,if_true] at IW;simp only [Bool.toNat_true,Nat.mul_add,Nat.mul_one];omega
theorem good0 (hs:e.sz<=S)(ho:e.opk)(hB:2 * (3 * S+(most+1) * (3 * S))<=B):GoodR S most B ⟨[(e,[],false)],[],0⟩:=by
 have h1:=Ex.aah e;have h2:3 * e.sz<=3 * S:=by omega
 have h3:(most+1 - 0) * (3 * S)=(most+1) * (3 * S):=by simp
 refine ⟨⟨0,λp hp=>?_,λv hv=>(by cases hv),?_⟩,?_⟩
 ·rw [List.mem_singleton.mp hp];exact ⟨hs,ho,⟨Nat.le_refl _,λp hp=>by cases hp⟩⟩
 ·simp only [Rn.mu,FF,G4];omega
 ·simp only [Rn.mu,FF,G4,List.length_nil];omega
end KX
namespace L2
open PySem PySem.Spec PyProof.Rows KS KX
section
variable {X:Cx}
noncomputable def qE:R2:=λx y H Q=>∃ (p r:Addr) (a b:Str) (us:List V),x=.ref p/\y=.ref r/\H p=some (.tup (.str a::us))/\H r=some (.tup [.str b])/\a≠b/\Q (.bl false) H
theorem ak (hu:X.A.units+64 < cLine):Ee X (compareOp .Eq) qE:=by
 intro pins s σ H x y v u Q I rx ry h;obtain ⟨p,r,a,b,us,rfl,rfl,hp,hr,Sb,k⟩:=h;cases rx;cases ry;obtain ⟨i1,r1,p1,_⟩:=I.tuple (Ba.of (K:=X.K) hp);obtain ⟨i2,r2,p2,_⟩:=I.tuple (Ba.of (K:=X.K) hr);cases r1 with | cons ra r1 =>
 cases r2 with | cons rb r2 =>
 cases r2;obtain ⟨ta,rfl⟩:=ra;obtain ⟨tb,rfl⟩:=rb;have hb:(a==b)=false:=by simpa using Sb
 refine PySem.SeqAt.eq_tupleAt (e:=λ_=>false) p1 p2 () (λj h1 h2=>?_) (Aw I k ?_)
 ·cases j with
  | zero =>
   have:=PySem.SeqAt.EqAt.str_str (A:=X.A.in1) (s:=s) a ta b tb;rw [hb] at this;exact this
  | succ j=>simp at h2
 ·have e2:∀ (l:List Value) (x z:Value),min (x::l).toArray.size [z].toArray.size=1:=λl x z=>by simp
  rw [e2];rfl
variable {i:Nat}{y:Str}{e:Expr}{t:XK->TE}{b₀:Stmt}{XD:List Stmt}{py apos Ji pos:Pos}{hx:Option Expr}{n:Option Str}
end
theorem Aq.exi {α:Type}{P:Program}{w:World}{K:W.Frag}{mg:Str->Option Value}{base:Heap}{CX:K7}{k:Nat}{f:Addr}{fd:FuncData}{ps:List Str}{sp:α->Sp}(F:∀ a,Aq P w K mg base CX k f fd ps (sp a)):Aq P w K mg base CX k f fd ps (λvs H Q E=>∃ a,sp a vs H Q E) :=
 ⟨λvs H Q E ⟨a,h⟩=>(F a).len vs H Q E h,λA outer s H args us vs Q E hr he hb hv ⟨a,h⟩=>(F a).run A outer s H args us vs Q E hr he hb hv h⟩
theorem ML {P:Program}{w:World}{K:W.Frag}{mg:Str->Option Value}{base:Heap}{CX:K7}{k:Nat}{ps:List Str}{rows:List (Str × Value)}:FA P w K mg base CX k ps rows []:=λ_ _ h=>by cases h
theorem BR {P:Program}{w:World}{K:W.Frag}{mg:Str->Option Value}{base:Heap}{CX:K7}{k:Nat}{ps:List Str}{rows:List (Str × Value)}{x:Str}{sp:Sp}{O3:List (Str × Sp)}(h:∃ f fd,rowAt rows x=some (.ref f)/\Aq P w K mg base CX k f fd ps sp/\W.keepIn K (.ref f)=true/\Binds K fd ps [])
  (t:FA P w K mg base CX k ps rows O3):FA P w K mg base CX k ps rows ((x,sp)::O3):=λy zI hm=>by
 rcases List.mem_cons.mp hm with e | hm
 ·cases e;exact h
 ·exact t y zI hm
end L2
namespace K
open PySem L2 KM KS KX
section
variable {Pr:Program}{w:World}{K:W.Frag}{mg:Str->Option Value}{base:Heap}
theorem Gy:∀ {t:Kd},Q0 t->Kz t
 | .num,_=>trivial
 | .tru,_=>trivial
 | .ls a,h=>Gy (t:=a) h
 | .pr a b,h=>⟨Gy (t:=a) h.1,Gy (t:=b) h.2⟩
 | .fn _ _,h=>h.elim
 | .gap _,h=>h.elim
noncomputable def Js (K:W.Frag)(n:Nat):Sp:=λvs H Q _=>∃ (a:Addr) (ns:List Int) (k:Int) (j:Nat),vs=[.ref a,.int k,.int j]/\j<=n/\AG K H a (ns.map V.int)/\∀ t r H',A9 H H'->B7 H' t r->Q0 t->dp t<=j->Q r H'
noncomputable def VR (K:W.Frag):Nat->Sp
 | 0=>Py
 | n+1=>Js K n
theorem Sz:Ai ["_law_script","_law_k","_law_deep","_law_number"] ["_law_script","_law_k","_law_deep"] (A5 CZ):=nofun
theorem K' (F:Cd K "_law_data" "_law_data" CZ f fd)(cM:Cl Pr w K mg base 2 "_law_mix" Ij (Dx K))(cG:Cl Pr w K mg base (n+2) "_law_data" ["_law_script","_law_k","_law_deep"] (VR K n)) :
  Aq Pr w K mg base B5 (n+3) f fd ["_law_script","_law_k","_law_deep"] (Js K n):=by
 refine F.okS Sz (λvs H Q E h=>?_) (λBf A outer s H vs Q E hr h=>?_)
 ·obtain ⟨a,ns,k,j,rfl,_⟩:=h;rfl
 ·obtain ⟨a,ns,k,j,rfl,hj,hs,q⟩:=h;have G0:Ar 2 _:=hr.mono ();refine ⟨_,(A3 (Al (i:=3) Sz.nd rfl (.inl rfl) (Ay cM G0 rfl (A1 (Aa 0) (A1 (Aa 1) A2))))
   (A3 (AS (Kn (w_or (Ao AA (Aa 2) A7 (Ag _)) (FY (Ao GL (Am AB (Aa 3) A7) A7 (Ag _))))) (Ac (Ak (Bj (r:=C4 K) AE (Bi (A1 (Ah (A1 Ab A2)) (A1 (Ah (A1 Ab A2)) A2))) (Am AB (Am Br (Aa 3) A7) A7) Cm))) Ax)
   (A3 (AS (Ao GL (Am AB (Aa 3) A7) A7 (Ag _)) (Ac (Ak (Ah (A1 Ab (A1 (Ay cG hr rfl (A1 (Aa 0) (A1 (Am AH (Am B1 A7 (Aa 1)) A7) (A1 (Am Cn (Aa 2) A7) A2)))) A2))))) Ax)
   (Ac (Ak (Ah (A1 Ab (A1 (Ay cG hr rfl (A1 (Aa 0) (A1 (Am AH (Am B1 A7 (Aa 1)) A7) (A1 (Am Cn (Aa 2) A7) A2)))) (A1 (Ay cG hr rfl (A1 (Aa 0) (A1 (Am AH (Am B1 A7 (Aa 1)) A7) (A1 (Am Cn (Aa 2) A7) A2)))) A2))))))))),?_⟩
  apply ⟨a,ns,k,rfl,hs,λm hm=>?_⟩;apply fS ?_ λh0 leaf=>?_
  ·left;intros p1 H2 s2 e1;left;intros p2 H3 s3 e2;left;intros p3 H4 s4 e3;apply Cs (AG.of e3) (Int.emod_nonneg _ ⟨⟩) (Int.emod_lt_of_pos _ ⟨⟩) λv hv=>?_;have st:=s2.trans (s3.trans s4);simp only [List.mem_cons,List.not_mem_nil,or_false] at hv;rcases hv with rfl | rfl
   ·exact q .num _ _ st ⟨p1,rfl,s4 _ _ (s3 _ _ e1)⟩ trivial (Nat.zero_le _)
   ·exact q .tru _ _ st ⟨p2,rfl,s4 _ _ e2⟩ trivial (Nat.zero_le _)
  ·apply Dz (λ_=>leaf) λ_=>?_;cases j with
   | zero=>exact absurd (decide_eq_true rfl) h0
   | succ j =>
    obtain ⟨n,rfl⟩:∃ m,n=m+1:=⟨n - 1,()⟩;apply Dz (λ_=>?_) λ_=>?_
    ·apply ⟨a,ns,_,j,by rw [Kx],(),hs,λt r H1 s1 ha hg hd=>?_⟩;left;intros p H2 s2 e2;exact q (.ls t) _ _ (s1.trans s2) ⟨p,r,rfl,e2,B7.mono (Ae.of_same s2) ha⟩ hg (by simp only [dp];omega)
    ·apply ⟨a,ns,_,j,by rw [Kx],(),hs,λt1 r1 H2 s2 Zp lK Xo=>?_⟩;apply ⟨a,ns,_,j,by rw [Kx],(),s2.seq hs,λt2 r2 H3 s3 fT lM hd2=>?_⟩;left;intros p H4 s4 e4;exact q (.pr t1 t2) _ _ (s2.trans (s3.trans s4)) ⟨p,r1,r2,rfl,e4,B7.mono (Ae.of_same (s3.trans s4)) Zp,B7.mono (Ae.of_same s4) fT⟩ ⟨lK,lM⟩ (by simp only [dp];omega)
theorem Oh {f:Addr}{fd:FuncData}(DG:Df K mg "_law_data" CZ ["_law_script","_law_k","_law_deep"] f fd)(cM:Cl Pr w K mg base 2 "_law_mix" Ij (Dx K)):
  ∀ n,Cl Pr w K mg base (n+3) "_law_data" ["_law_script","_law_k","_law_deep"] (Js K n)
 | 0=>DG.cl (K' (n:=0) DG.F cM (DG.cl Kp))
 | n+1=>DG.cl (K' (n:=n+1) DG.F cM (Oh DG cM n))
noncomputable def L0:Sp:=λvs H Q _=>∃ i:Int,vs=[.int i]/\Q (.bl true) H
theorem gS:Ai ["_law_found"] ["_law_found"] (A5 Mv):=nofun
theorem ao (F:Cd K "_law_whole" "_law_whole" Mv f fd)(AL:mg "isinstance"=none)(IL:mg "int"=none)(ER:mg "bool"=none):Aq Pr w K mg base B5 1 f fd ["_law_found"] L0:=by
 refine F.okS gS (λvs H Q E h=>?_) (λBf A outer s H vs Q E hr h=>?_)
 ·obtain ⟨i,rfl,_⟩:=h;rfl
 ·obtain ⟨i,rfl,q⟩:=h;refine ⟨_,(Ac (Ak (F1 (Bs DM (by rfl) AL PyProof.Rows.boot_isinstance (A1 (Aa 0) (A1 (Hd (v:=.ty "int") rfl IL PyProof.Rows.boot_int rfl) A2))) (Ko (fG (Bs DM (by rfl) AL PyProof.Rows.boot_isinstance (A1 (Aa 0) (A1 (Hd (v:=.ty "bool") rfl ER PyProof.Rows.boot_bool rfl) A2)))))))),?_⟩;apply ⟨_,_,_,true,rfl,Dy.int i,rfl,?_⟩;apply C5 ?_;apply ⟨_,_,_,false,rfl,Dy.int i,rfl,?_⟩;left;exact q
noncomputable def VS (n:Nat):Sp:=λvs H Q _=>∃ (e:Ex) (t:Kd) (rv rk:V),vs=[rv,rk]/\As H e rv/\B7 H t rk/\HK g0 e t/\e.isV=true/\Q0 t/\dep dz e<=n/\∀ H',A9 H H'->Q (.bl true) H'
noncomputable def gT:Nat->Sp
 | 0=>Py
 | n+1=>VS n
theorem qF:Ai ["_law_value","_law_kind"] ["_law_value","_law_kind"] (A5 Cu):=nofun
theorem SH (F:Cd K "_law_is_of" "_law_is_of" Cu f fd)(AL:mg "isinstance"=none)(Bg:mg "tuple"=none)(ER:mg "bool"=none)(D4:mg "len"=none)(cW:Cl Pr w K mg base 1 "_law_whole" ["_law_found"] L0)(cS:Cl Pr w K mg base (n+1) "_law_is_of" ["_law_value","_law_kind"] (gT n)):Aq Pr w K mg base B5 (n+2) f fd ["_law_value","_law_kind"] (VS n):=by
 refine F.okS qF (λvs H Q E h=>?_) (λBf A outer s H vs Q E hr h=>?_)
 ·obtain ⟨e,t,rv,rk,rfl,_⟩:=h;rfl
 ·obtain ⟨e,t,rv,rk,rfl,he,hk,hy,hv,gU,hd,q⟩:=h;have DA:Ar 1 _:=hr.mono ();have Ss:=hr.units;have hu:=Ek hr;refine ⟨_,(A3 (AS (Kn (w_or (Km (Kl (Bs DM (by rfl) AL PyProof.Rows.boot_isinstance (A1 (Aa 0) (A1 (Hd (v:=.ty "tuple") rfl Bg PyProof.Rows.boot_tuple rfl) A2))))) (FY (Km (Bz (Aa 0)))))) (Ac (Ak G8)) Ax)
   (A3 (AS (Ao AA (eI 1) Ab (Ag _)) (Ac (Ak (F1 (Em AA (Bs Bl (by rfl) D4 PySem.boot_len (A1 (Aa 0) A2)) A7 (Ag _)) (F1 (Em AA (eI 0) Ab (Ag _)) (Ko (Ay cW DA rfl (A1 (eI 0) A2))))))) Ax)
   (A3 (AS (Ao AA (eI 1) Ab (Ag _)) (Ac (Ak (F1 (Em AA (Bs Bl (by rfl) D4 PySem.boot_len (A1 (Aa 0) A2)) A7 (Ag _)) (F1 (Em AA (eI 0) Ab (Ag _)) (Ko (Bs DM (by rfl) AL PyProof.Rows.boot_isinstance (A1 (eI 0) (A1 (Hd (v:=.ty "bool") rfl ER PyProof.Rows.boot_bool rfl) A2)))))))) Ax)
   (A3 (AS (Kn (w_and (Ao AA (eI 1) Ab (Ag _)) (Dk (Ao ((PH Ss).or (ak Ss)) (Aa 0) (Ah (A1 Ab A2)) (Ag _))))) (Ac (Ak G8)) Ax)
   (A3 (AS (Kn (w_or (Ao FR (Bs Bl (by rfl) D4 PySem.boot_len (A1 (Aa 0) A2)) A7 (Ag _)) (FY (Ao FR (eI 0) (Je hu (DR (C6 Ab Ab (C6 Ab Ab FZ)) rfl rfl (by simp) ⟨⟩) (eI 1) Cm) (Ag _))))) (Ac (Ak G8)) Ax)
   (Ac (Ak (F1 (Ay cS hr rfl (A1 (eI 0) (A1 (eI 1) A2))) (Ko (Ay cS hr rfl (A1 (eI 0) (A1 (Jc (Ao AA (eI 1) Ab (Ag _)) (Aa 1) (eI 1)) A2)))))))))))),?_⟩
  obtain ⟨p,us,rfl,hp,hi⟩:=he.its;apply ⟨_,_,_,true,rfl,Dy.tup hp,rfl,?_⟩;apply Ce ?_;apply ⟨true,.inr (.inl ⟨_,Ba.of hp,rfl⟩),?_⟩;refine Ce ?_;left;cases t with
  | gap _ | fn _ _=>exact gU.elim
  | num =>
   obtain ⟨pk,rfl,IQ⟩:=hk;obtain ⟨i,rfl⟩:=VP hy hv;obtain ⟨p',e1,Ec⟩:=he;cases e1;refine A4 IQ (v:=.str "number") rfl ?_;apply AR (decide_eq_true rfl) ?_;apply ⟨p,_,rfl,.inr (Ba.of Ec),?_⟩;apply C5 ?_;apply A4 Ec (v:=.str "number") rfl ?_;apply AR (decide_eq_true rfl) ?_;apply A4 Ec (v:=.int i) rfl ?_;left;exact ⟨i,rfl,q H (A9.refl _)⟩
  | tru =>
   obtain ⟨pk,rfl,IQ⟩:=hk;obtain ⟨i,rfl⟩:=VQ hy hv;obtain ⟨p',e1,Ec⟩:=he;cases e1;refine A4 IQ (v:=.str "truth") rfl ?_;apply Az ⟨⟩ ?_;apply A4 IQ (v:=.str "truth") rfl ?_;apply AR (decide_eq_true rfl) ?_;apply ⟨p,_,rfl,.inr (Ba.of Ec),?_⟩;apply C5 ?_;apply A4 Ec (v:=.str "truth") rfl ?_;apply AR (decide_eq_true rfl) ?_;apply A4 Ec (v:=.bl i) rfl ?_;left;exact ⟨_,_,_,true,rfl,Dy.bl i,rfl,q H (A9.refl _)⟩
  | ls a =>
   obtain ⟨pk,ra,rfl,IQ,Oi⟩:=hk;refine A4 IQ (v:=.str "list") rfl ?_;apply Az ⟨⟩ ?_;apply A4 IQ (v:=.str "list") rfl ?_;apply Az ⟨⟩ ?_;apply A4 IQ (v:=.str "list") rfl ?_;apply AR (decide_eq_true rfl) ?_;left;intros pe H1 s1 e1;rcases aj hy hv with rfl | ⟨x,y,rfl,hx,f6,vx,vy⟩
   ·obtain ⟨p',e2,Ec⟩:=he;cases e2;refine .inl ⟨.tuple [.str "empty"],.tuple [.str "empty"],.tup (s1 _ _ Ec) (.cons (.str _) .nil),.tup e1 (.cons (.str _) .nil),by decide +kernel,by decide +kernel,?_⟩;apply AR (by decide +kernel) ?_;left;exact q H1 s1
   ·obtain ⟨p',rx,ry,e2,Ec,hex,qG⟩:=he;cases e2;refine .inr ⟨p,pe,"link","empty",[rx,ry],rfl,rfl,s1 _ _ Ec,e1,⟨⟩,?_⟩;apply Ce ?_;apply ⟨p,_,rfl,.inr (Ba.of (s1 _ _ Ec)),?_⟩;apply Az (by simp) ?_;apply A4 (s1 _ _ Ec) (v:=.str "link") rfl ?_;apply Cv λp4 H4 Ul s4 e4=>?_;apply ⟨e4,[(.inr "pair",.str "pair"),(.inr "list",.str "link")],rfl,⟨⟩,λH5 o5 e5=>?_⟩;have gR:A9 H1 H5:=λb o hb=>by
     have aq:b≠p4:=λz=>(by rw [z,Ul] at hb;cases hb);rw [o5 b aq];exact s4 _ _ hb
    have IP:=s1.trans gR;apply A4 (IP _ _ IQ) (v:=.str "list") rfl ?_;refine ⟨p4,.str "link",rfl,(show BJ H5 p4 (.str "list") (AN (Bq [] [(.inr "pair",V.str "pair"),(.inr "list",V.str "link")]) (.inr "list":Key)) from BJ.k (k:=.inr "list") e5),?_⟩;apply Az ⟨⟩ ?_;apply A4 (IP _ _ Ec) (v:=rx) rfl ?_;apply A4 (IP _ _ IQ) (v:=ra) rfl ?_;left;have dx:dep dz x < dep dz (.lk x y):=(by simp only [dep];omega);have dy:dep dz y < dep dz (.lk x y):=(by simp only [dep];omega);cases n with
    | zero=>omega
    | succ n =>
    refine ⟨x,a,rx,ra,rfl,As.mono (Ae.of_same IP) hex,B7.mono (Ae.of_same IP) Oi,hx,vx,gU,(),λH6 s6=>?_⟩;have Q5:=IP.trans s6;apply C5 ?_;apply A4 (Q5 _ _ Ec) (v:=ry) rfl ?_;apply A4 (Q5 _ _ IQ) (v:=.str "list") rfl ?_;apply AR (decide_eq_true rfl) ?_;left;exact ⟨y,.ls a,ry,.ref pk,rfl,As.mono (Ae.of_same Q5) qG,⟨pk,ra,rfl,Q5 _ _ IQ,B7.mono (Ae.of_same Q5) Oi⟩,f6,vy,gU,(),λH7 s7=>q H7 (Q5.trans s7)⟩
  | pr a b =>
   obtain ⟨pk,ra,rb,rfl,IQ,Oi,zJ⟩:=hk;obtain ⟨x,y,rfl,hx,f6,vx,vy⟩:=ai hy hv;obtain ⟨p',rx,ry,e2,Ec,hex,qG⟩:=he;cases e2;refine A4 IQ (v:=.str "pair") rfl ?_;apply Az ⟨⟩ ?_;apply A4 IQ (v:=.str "pair") rfl ?_;apply Az ⟨⟩ ?_;apply A4 IQ (v:=.str "pair") rfl ?_;apply Az ⟨⟩ ?_;refine Ce ?_;apply ⟨p,_,rfl,.inr (Ba.of Ec),?_⟩;apply Az (by simp) ?_;apply A4 Ec (v:=.str "pair") rfl ?_;apply Cv λp4 H4 Ul s4 e4=>?_;apply ⟨e4,[(.inr "pair",.str "pair"),(.inr "list",.str "link")],rfl,⟨⟩,λH5 o5 e5=>?_⟩;have IP:A9 H H5:=λb o hb=>by
    have aq:b≠p4:=λz=>(by rw [z,Ul] at hb;cases hb);rw [o5 b aq];exact s4 _ _ hb
   apply A4 (IP _ _ IQ) (v:=.str "pair") rfl ?_;refine ⟨p4,.str "pair",rfl,(show BJ H5 p4 (.str "pair") (AN (Bq [] [(.inr "pair",V.str "pair"),(.inr "list",V.str "link")]) (.inr "pair":Key)) from BJ.k (k:=.inr "pair") e5),?_⟩;apply Az ⟨⟩ ?_;apply A4 (IP _ _ Ec) (v:=rx) rfl ?_;apply A4 (IP _ _ IQ) (v:=ra) rfl ?_;left;have dx:dep dz x < dep dz (.pr x y):=(by simp only [dep];omega);have dy:dep dz y < dep dz (.pr x y):=(by simp only [dep];omega);cases n with
   | zero=>omega
   | succ n =>
   refine ⟨x,a,rx,ra,rfl,As.mono (Ae.of_same IP) hex,B7.mono (Ae.of_same IP) Oi,hx,vx,gU.1,(),λH6 s6=>?_⟩;have Q5:=IP.trans s6;apply C5 ?_;apply A4 (Q5 _ _ Ec) (v:=ry) rfl ?_;apply A4 (Q5 _ _ IQ) (v:=.str "pair") rfl ?_;apply Az ⟨⟩ ?_;apply A4 (Q5 _ _ IQ) (v:=rb) rfl ?_;left;exact ⟨y,b,ry,rb,rfl,As.mono (Ae.of_same Q5) qG,B7.mono (Ae.of_same Q5) zJ,f6,vy,gU.2,(),λH7 s7=>q H7 (Q5.trans s7)⟩
theorem XE {f:Addr}{fd:FuncData}(DI:Df K mg "_law_is_of" Cu ["_law_value","_law_kind"] f fd)(AL:mg "isinstance"=none)(Bg:mg "tuple"=none)(ER:mg "bool"=none)(D4:mg "len"=none)(cW:Cl Pr w K mg base 1 "_law_whole" ["_law_found"] L0):
  ∀ n,Cl Pr w K mg base (n+2) "_law_is_of" ["_law_value","_law_kind"] (VS n)
 | 0=>DI.cl (SH (n:=0) DI.F AL Bg ER D4 cW (DI.cl Kp))
 | n+1=>DI.cl (SH (n:=n+1) DI.F AL Bg ER D4 cW (XE DI AL Bg ER D4 cW n))
end
end K
namespace L2
open PySem
section
variable {σ:St}{H:Hp}{D:Ends}
theorem Q6 (Jn:St->Hp->Prop)(fin:∀ σ' H',Jn σ' H'->u D σ' H')(q:∀ N:St->Hp->Prop,(∀ σ' H',Jn σ' H'->N σ' H')->Bh t0 (Bh t1 (Bh t2 (Bh t3 (Bh t4 (Bh t5 (Bh t6 (Bh t7 (Bh t8 t9)))))))) { D with nx:=N } σ H):Bh t0 (Bh t1 (Bh t2 (Bh t3 (Bh t4 (Bh t5 (Bh t6 (Bh t7 (Bh t8 (Bh t9 u))))))))) D σ H:=q (u D) fin
theorem SJ (Jn:St->Hp->Prop)(fin:∀ σ' H',Jn σ' H'->u D σ' H')(q:∀ N:St->Hp->Prop,(∀ σ' H',Jn σ' H'->N σ' H')->Bh t0 (Bh t1 t2) { D with nx:=N } σ H):Bh t0 (Bh t1 (Bh t2 u)) D σ H:=q (u D) fin
end
end L2
namespace K
open PySem L2 KM KS KX
section
variable {Pr:Program}{w:World}{K:W.Frag}{mg:Str->Option Value}{base:Heap}
noncomputable def PB (H1:Hp)(ar:List (Str × Kd))(d:Nat)(ka kb:Kd):Nat->List V->Hp->Prop
 | 0,ys,H'=>ys=[]/\A9 H1 H'
 | 1,ys,H'=>A9 H1 H'/\∃ e1 r1,ys=[r1]/\As H' e1 r1/\PQ ar ka (B d (dp ka)) (C d (sk ka)) e1
 | 2,ys,H'=>A9 H1 H'/\∃ e1 r1 e2 r2,ys=[r1,r2]/\As H' e1 r1/\PQ ar ka (B d (dp ka)) (C d (sk ka)) e1/\As H' e2 r2/\PQ ar kb (B d (dp kb)) (C d (sk kb)) e2
 | _,_,_=>False
theorem PB.same {H1:Hp}{ar:List (Str × Kd)}{d:Nat}{ka kb:Kd}:∀ {i:Nat} {ys:List V} {H':Hp},PB H1 ar d ka kb i ys H'->A9 H1 H'
 | 0,_,_,h=>h.2
 | 1,_,_,h=>h.1
 | 2,_,_,h=>h.1
 | _+3,_,_,h=>h.elim
theorem PB.len {H1:Hp}{ar:List (Str × Kd)}{d:Nat}{ka kb:Kd}:∀ {i:Nat} {ys:List V} {H':Hp},PB H1 ar d ka kb i ys H'->ys.length<=i
 | 0,_,_,h=>by rw [h.1];exact Nat.le_refl _
 | 1,_,_,⟨_,e1,r1,h,_⟩=>by rw [h];exact Nat.le_refl _
 | 2,_,_,⟨_,e1,r1,e2,r2,h,_⟩=>by rw [h];exact Nat.le_refl _
 | _+3,_,_,h=>h.elim
structure zK (K:W.Frag)(H:Hp)(a:Addr)(ns:List Int)(g:Kd)(rg:V)(l:Addr)(xs:List (Str × Kd))(d n:Nat)(wl kl w1 w2:Addr)(o1 o2:Str)(ka kb:Kd)(ra rb:V):Prop where
 P:FH K H a ns g rg l xs
 hw:H wl=some (.dK [(.inr "number",.ref w1),(.inr "truth",.ref w2)])
 h1:H w1=some (.tup [.str "op",.str o1])
 h2:H w2=some (.tup [.str "op",.str o2])
 i1:Ex.ab0 o1
 i2:Ex.ab0 o2
 j1:Xu o1=.num
 j2:Xu o2=.tru
 hk:H kl=some (.lst [ra,rb])
 h3:B7 H ka ra
 h4:B7 H kb rb
 g1:Kz ka
 g2:Kz kb
 m1:max 3 (dp ka)+d<=8
 m2:max 3 (dp kb)+d<=8
 u1:mu d ka+1<=n
 u2:mu d kb+1<=n
 c:(g=.pr ka kb)\/(0 < d/\(g=.num\/g=.tru)/\ka=.num/\kb=.num)\/(0 < d/\g=.ls ka/\kb=g)
theorem ml {K:W.Frag}(P:FH K H a ns g rg l xs)(hu:mu d g+1<=n)(h8:max 3 (dp g)+d<=8)(h3:d<=3)(hx:xs.length+2 * n<=1002)(q:∀ e r H',A9 H H'->As H' e r->PQ xs g (B d (dp g)) (C d (sk g)) e->Q r H'):Cz K n [.ref a,.int k,rg,.ref l,.int d] H Q E:=by
 cases n with
 | zero=>omega
 | succ n=>exact ⟨a,ns,k,g,rg,l,xs,d,rfl,P,(),h8,.inl h3,(),q⟩
theorem Cc:Ai ["_law_script","_law_k","_law_goal","_law_names","_law_deep","_law_number","_law_a","_law_b","_law_inner","_law_words","_law_kinds","_law_pieces"] Ii (A5 BA):=nofun
theorem Q7 (F:Cd K "_law_built" "_law_built" BA f fd)(Dc:mg "list"=none)(Bg:mg "tuple"=none)(Gz:mg "range"=none)(ZW:11<=r)(cM:Cl Pr w K mg base 2 "_law_mix" Ij (Dx K))(cN:Cl Pr w K mg base 1 "_law_name" ["_law_number"] Hn)(cV:Cl Pr w K mg base 1 "_law_with" ["_law_names","_law_more"] FG)(cI:Cl Pr w K mg base 1 "_law_int" ["_law_number"] NV)(cD:Cl Pr w K mg base r "_law_made" Ii (Cz K n)) :
  Aq Pr w K mg base B5 (r+1) f fd Ii (Fb K n):=by
 refine F.okS Cc (λvs H Q E h=>?_) (λBf A outer s H vs Q E hr h=>?_)
 ·obtain ⟨a,ns,k,g,rg,l,xs,d,rfl,_⟩:=h;rfl
 ·obtain ⟨a,ns,k,g,rg,l,xs,d,rfl,P,Uk,Xo,h8,qH,hx,q⟩:=h;have Oe:d<=3:=by unfold Pb at qH;omega
  have G0:Ar 2 _:=hr.mono ();have DA:Ar 1 _:=hr.mono ();have Ss:=hr.units;have hu:=Ek hr;have S:AY (Cr B5 Pr w K mg base ["_law_script","_law_k","_law_goal","_law_names","_law_deep","_law_number","_law_a","_law_b","_law_inner","_law_words","_law_kinds","_law_pieces"] "_law_built" (A5 BA) f Bf A outer s H E).nox (Bt (valueOf (inDef BA 10))) [("_law_script",s.heap.objs.size+1),("_law_names",s.heap.objs.size+3),("_law_kinds",s.heap.objs.size+5),("_law_k",s.heap.objs.size+2),("_law_deep",s.heap.objs.size+4)] ["_law_j"] ["_law_script","_law_names","_law_kinds","_law_k","_law_deep"] [0,3,10,1,4] :=
   ⟨rfl,by decide +kernel,rfl,by decide +kernel,rfl,rfl,rfl,rfl⟩
  have HD:(["_law_j","_law_script","_law_names","_law_kinds","_law_k","_law_deep"]:List Str).Nodup:=by decide +kernel
  refine ⟨_,(A3 (Al (i:=5) Cc.nd rfl (.inl rfl) (Ay cM G0 rfl (A1 (Aa 0) (A1 (Am AH (Aa 1) A7) A2))))
   (A3 (Al (i:=6) Cc.nd rfl (.inl rfl) (Ay cN DA rfl (A1 (Am Br (Aa 5) A7) A2)))
   (A3 (Al (i:=7) Cc.nd rfl (.inl rfl) (Ay cN DA rfl (A1 (Am Br (Aa 5) A7) A2)))
   (A3 (AS (Ao AA (eI 2) Ab (Ag _)) (A3 (Al (i:=8) Cc.nd rfl (.inl rfl) (Ay cV DA rfl (A1 (Aa 3) (A1 (Bi (A1 (Ah (A1 (Aa 6) (A1 (eI 2) A2))) A2)) A2))))
   (A3 (AS (Kn (w_and (Ao FR (Aa 6) (Aa 7) (Ag _)) (Dk (Ao AA (Am AB (Aa 5) A7) A7 (Ag _))))) (A3 (Al (i:=8) Cc.nd rfl (.inl rfl) (Ay cV DA rfl (A1 (Aa 3) (A1 (Bi (A1 (Ah (A1 (Aa 7) (A1 (Aa 2) A2))) (A1 (Ah (A1 (Aa 6) (A1 (eI 2) A2))) A2))) A2))))
   (Ac (Ak (Ah (A1 Ab (A1 (Aa 7) (A1 (Aa 6) (A1 (Ay cD hr rfl (A1 (Aa 0) (A1 (Am AH (Am B1 A7 (Aa 1)) A7) (A1 (eI 2) (A1 (Aa 8) (A1 (Aa 4) A2)))))) A2)))))))) Ax)
   (Ac (Ak (Ah (A1 Ab (A1 (Aa 6) (A1 (Ay cD hr rfl (A1 (Aa 0) (A1 (Am AH (Am B1 A7 (Aa 1)) A7) (A1 (eI 2) (A1 (Aa 8) (A1 (Aa 4) A2)))))) A2)))))))) Ax)
   (A3 (AS (Kn (w_and (Ao AA (eI 2) Ab (Ag _)) (Dk (Kn (w_or (Ao AA (Aa 4) A7 (Ag _)) (FY (Ao AA (Am AB (Aa 5) A7) A7 (Ag _)))))))) (Ac (Ak (Ah (A1 Ab A2)))) Ax)
   (A3 (AS (Kn (w_and (Ao AA (eI 2) Ab (Ag _)) (Dk (Kn (w_or (Ao AA (Aa 4) A7 (Ag _)) (FY (Ao AA (Am AB (Aa 5) A7) A7 (Ag _)))))))) (Ac (Ak (Ah (A1 Ab (A1 (Ay cI DA rfl (A1 (Am Br (Aa 5) A7) A2)) A2))))) Ax)
   (A3 (AS (Kn (w_and (Ao AA (eI 2) Ab (Ag _)) (Dk (Kn (w_or (Ao AA (Aa 4) A7 (Ag _)) (FY (Ao AA (Am AB (Aa 5) A7) A7 (Ag _)))))))) (Ac (Ak (Ah (A1 Ab (A1 (Em AA (Am AB (Am Br (Aa 5) A7) A7) A7 (Ag _)) A2))))) Ax)
   (A3 (Al (i:=9) Cc.nd rfl (.inl rfl) (DR (C6 Ab (Ah (A1 Ab (A1 (Bj (r:=C4 K) AE (Bi (A1 Ab (A1 Ab A2))) (Am AB (Am Br (Aa 5) A7) A7) Cm) A2))) (C6 Ab (Ah (A1 Ab (A1 (Bj (r:=C4 K) AE (Bi (A1 Ab (A1 Ab A2))) (Am AB (Am Br (Aa 5) A7) A7) Cm) A2))) FZ)) rfl rfl (by simp) ⟨⟩))
   (A3 (Al (i:=10) Cc.nd rfl (.inr rfl) (Jc (Ao AA (eI 2) Ab (Ag _)) (Bi (A1 (eI 2) (A1 (Aa 2) A2))) (Bw EY (by rfl) Dc PyProof.Rows.boot_list (A1 (Gq (r:=QT K) LV (Aa 2) (Jb A7) Ja) A2))))
   (A3 (AS (fI hu (eI 2) (Aa 9)) (Ac (Al (i:=10) Cc.nd rfl (.inr rfl) (Bi (A1 (Ah (A1 Ab A2)) (A1 (Ah (A1 Ab A2)) A2))))) Ax)
   (A3 (Fx (i:=11) Cc.nd rfl (.inl rfl) (tt:=G7) (te:=EW (Cz K n) [] E0 (Be (B9 1) (Be (FQ (QI λi j=>.int (i+j)) (FQ (QI λi j=>.int (i+j)) (FQ (rI UG λi j=>.int (i * j)) (tC (.int 3)) (B9 4)) (tC (.int 1))) (B9 0)) (Be (FQ (C4 K) (B9 3) (B9 0)) (Be (B9 2) (Be (B9 5) DE)))))) S rfl (Rq rfl Gz (A1 A7 A2)) (λC s0 H0 ex=>AQ (i:=0) HD rfl (.inl rfl)) (λC s0 H0 ex=>En) (λC s0 H0 ex=>Ay cD hr rfl (A1 (Aa 1) (A1 (Am AH (Am AH (Am B1 A7 (Aa 4)) A7) (Aa 0)) (A1 (Bj AE (Aa 3) (Aa 0) Cm) (A1 (Aa 2) (A1 (Aa 5) A2)))))))
   (Ac (Ak (Am (r:=Kc K) NH (Jd hu (Aa 9) (eI 2) (Ah (A1 (Jd hu (DR (C6 Ab Ab FZ) rfl rfl (by simp) ⟨⟩) (eI 2) Ab ⟨rfl,rfl,rfl,rfl⟩) A2)) ⟨rfl,rfl,rfl,rfl⟩) (Bw D8 (by rfl) Bg PyProof.Rows.boot_tuple (A1 (Aa 11) A2)))))))))))))))),?_⟩
  refine Q6 (fun σ' H'=>∃ (m:Int) (x y:V) (o:Option V) (wl kl w1 w2:Addr) (o1 o2:Str) (ka kb:Kd) (ra rb:V),σ'=[some (.ref a),some (.int k),some rg,some (.ref l),some (.int d),some (.int m),some x,some y,o,some (.ref wl),some (.ref kl),none]/\A9 H H'/\zK K H' a ns g rg l xs d n wl kl w1 w2 o1 o2 ka kb ra rb) ?_ λN10 fin=>?_
  ·rintro σ' H1 ⟨m,x,y,o,wl,kl,w1,w2,o1,o2,ka,kb,ra,rb,rfl,zL,T⟩;apply ⟨2,rfl,⟨⟩,⟨⟩,?_⟩;refine S1 (n:=2) (PB H1 xs d ka kb) ⟨rfl,A9.refl _⟩ (by exact Bx ⟨⟩) (λi ys H' z=>z.len) rfl (λi ys H2 hi z=>?_) (λys H2 z=>?_)
   ·have s2:=z.same;have P2:=T.P.mono s2;have mn:=s2 _ _ T.hk;have t2:=Ae.of_same s2;apply C5 ?_;left;cases i with
    | zero =>
     refine BF (AG.of mn) (v:=ra) rfl ?_;apply ml (P2.with (B7.mono t2 T.h3) T.g1 P2.hl P2.hx) T.u1 T.m1 Oe () λe r H3 s3 ha ho=>?_;refine Nx.mk ⟨⟩ ⟨s2.trans s3,e,r,by rw [z.1];rfl,ha,ho⟩
    | succ i=>cases i with
     | zero =>
      obtain ⟨_,e1,r1,rfl,z2,z3⟩:=z;refine BF (AG.of mn) (v:=rb) rfl ?_;apply ml (P2.with (B7.mono t2 T.h4) T.g2 P2.hl P2.hx) T.u2 T.m2 Oe () λe r H3 s3 ha ho=>?_;refine Nx.mk ⟨⟩ ⟨s2.trans s3,e1,r1,e,r,rfl,As.mono (Ae.of_same s3) z2,z3,ha,ho⟩
     | succ i=>omega
   ·obtain ⟨Fd,e1,r1,e2,r2,rfl,a1,k1,a2,k2⟩:=z;intros pl H3 s3 e3;left;have Gx:=Fd.trans s3;have gV:=Gx _ _ T.hw;have cO:=k1.op;have n1:=k1.np;have n2:=k2.np;have z1:=k1.sz;have z2:=k2.sz;refine ⟨wl,rfl,.inl ⟨_,.inl gV⟩,?_⟩;have pkb:B d (dp ka)<=B d (dp g)/\B d (dp kb)<=B d (dp g)/\C d (sk ka)<=C d (sk g)/\C d (sk kb)<=C d (sk g):=by
     rcases T.c with h | ⟨_,h | h,h1,h2⟩ | ⟨_,h,h1⟩
     ·subst h;exact ⟨Dt d (by simp only [dp];omega),Dt d (by simp only [dp];omega),C7 d (by simp only [sk];omega),C7 d (by simp only [sk];omega)⟩
     ·subst h h1 h2;exact ⟨Nat.le_refl _,Nat.le_refl _,Nat.le_refl _,Nat.le_refl _⟩
     ·subst h h1 h2;exact ⟨Nat.le_refl _,Nat.le_refl _,Nat.le_refl _,Nat.le_refl _⟩
     ·subst h1 h;exact ⟨Dt d (by simp only [dp];omega),Nat.le_refl _,C7 d (by simp only [sk];omega),Nat.le_refl _⟩
    have du:(0 < d\/g=.pr ka kb)->∀ e:Ex,e.kn<=1+max e1.kn e2.kn->e.sz<=1+e1.sz+e2.sz->e.kn<=Bb d (dp g)/\e.sz<=Cb d (sk g):=by
     intro hd e h1 h2;cases d with
     | zero =>
      rcases hd with hd | hd
      ·omega
      ·subst hd;simp only [B,C,cc] at n1 n2 z1 z2;simp only [Bb,Cb,dp,sk];omega
     | succ d=>simp only [Bb,Cb];omega
    have IW:0 < d\/g=.pr ka kb:=by
     rcases T.c with h | ⟨h,_⟩ | ⟨h,_⟩
     ·exact .inr h
     ·exact .inl h
     ·exact .inl h
    have last:∀ (H4:Hp) (pw:Addr) (ws:List V) (e:Ex),A9 H3 H4->H4 pw=some (.tup ws)->ws≠[]->ws.length<=2->(∀ H5 p,A9 H4 H5->H5 p=some (.tup (ws++[r1,r2]))->As H5 e (.ref p))->PQ xs g (Bb d (dp g)) (Cb d (sk g)) e ->
      YI (λxs H Q=>∃ p ys,xs=[.ref p]/\((AG K H p ys/\∀ l,H l=none->Q (.ref l) (upd H l (.tup ys)))\/(Ba K H p ys/\Q (.ref p) H))) (Be (B9 11) DE) [some (.ref a),some (.int k),some rg,some (.ref l),some (.int d),some (.int m),some x,some y,o,some (.ref wl),some (.ref kl),some (.ref pl)] H4 λy' H5=>Kc K (.ref pw) y' H5 Q:=by
     intro H4 pw ws e s4 hw ME L3 he hok;apply ⟨pl,_,rfl,.inl ⟨AG.of (s4 _ _ e3),λp hp=>?_⟩⟩;have s5:A9 H4 (upd H4 p (.tup [r1,r2])):=A9.new hp;refine O1 (Ba.of (s5 _ _ hw)) (Ba.of A6) ME (Dm (by simp;omega)) (λz=>by cases z) λp6 H6 _ s6 e6=>?_;exact q e _ H6 (zL.trans (Gx.trans (s4.trans (s5.trans s6)))) (he H6 p6 (s5.trans s6) e6) hok
    have mE:∀ {H5:Hp},A9 H3 H5->As H5 e1 r1/\As H5 e2 r2:=λh=>⟨As.mono (Ae.of_same (s3.trans h)) a1,As.mono (Ae.of_same (s3.trans h)) a2⟩;have cs:∃ (pg:Addr) (wd:Str) (us:List V) (z1:V) (o2:Option Addr) (ws:List V) (e:Ex),rg=.ref pg/\H3 pg=some (.tup (.str wd::us))/\(AN [(.inr "pair",V.str "pair")] (Sum.inr wd:Key)).getD (.str "link")=z1/\AN [(.inr "number",V.ref w1),(.inr "truth",V.ref w2)] (Sum.inr wd:Key)=o2.map V.ref /\
      (o2=none->ws=[z1])/\(∀ p,o2=some p->H3 p=some (.tup ws))/\ws≠[]/\ws.length<=2/\(∀ H5 p,A9 H3 H5->H5 p=some (.tup (ws++[r1,r2]))->As H5 e (.ref p))/\PQ xs g (Bb d (dp g)) (Cb d (sk g)) e:=by
     have hG:=B7.mono (Ae.of_same Gx) T.P.hg;have b:=du IW;rcases T.c with h | ⟨_,h | h,h1,h2⟩ | ⟨_,h,h1⟩
     ·subst h;obtain ⟨pg,ga,gb,rfl,hg,_⟩:=hG;have b:=b (.pr e1 e2) (by show 1+max e1.kn e2.kn<=_;omega) (by simp only [Ex.sz];omega);exact ⟨pg,_,_,.str "pair",none,[.str "pair"],.pr e1 e2,rfl,hg,rfl,rfl,λ_=>rfl,λp z=>(by cases z),by simp,by simp,λH5 p s5 h5=>⟨p,r1,r2,rfl,h5,mE s5⟩,⟨⟨k1.cl,k2.cl⟩,⟨k1.op,k2.op⟩,b.1,b.2,.pr k1.ty k2.ty⟩⟩
     ·subst h;obtain ⟨pg,rfl,hg⟩:=hG;have b:=b (.op o1 e1 e2) (by show 1+max e1.kn e2.kn<=_;omega) (by simp only [Ex.sz];omega);exact ⟨pg,_,_,.str "link",some w1,[.str "op",.str o1],.op o1 e1 e2,rfl,hg,rfl,rfl,λz=>(by cases z),λp z=>(by cases z;exact Gx _ _ T.h1),by simp,by simp,λH5 p s5 h5=>⟨p,r1,r2,rfl,h5,mE s5⟩,⟨⟨k1.cl,k2.cl⟩,⟨T.i1,k1.op,k2.op⟩,b.1,b.2,.op T.j1.symm (h1▸k1.ty) (h2▸k2.ty)⟩⟩
     ·subst h;obtain ⟨pg,rfl,hg⟩:=hG;have b:=b (.op o2 e1 e2) (by show 1+max e1.kn e2.kn<=_;omega) (by simp only [Ex.sz];omega);exact ⟨pg,_,_,.str "link",some w2,[.str "op",.str o2],.op o2 e1 e2,rfl,hg,rfl,rfl,λz=>(by cases z),λp z=>(by cases z;exact Gx _ _ T.h2),by simp,by simp,λH5 p s5 h5=>⟨p,r1,r2,rfl,h5,mE s5⟩,⟨⟨k1.cl,k2.cl⟩,⟨T.i2,k1.op,k2.op⟩,b.1,b.2,.op T.j2.symm (h1▸k1.ty) (h2▸k2.ty)⟩⟩
     ·subst h;obtain ⟨pg,ga,rfl,hg,_⟩:=hG;have b:=b (.lk e1 e2) (by show 1+max e1.kn e2.kn<=_;omega) (by simp only [Ex.sz];omega);exact ⟨pg,_,_,.str "link",none,[.str "link"],.lk e1 e2,rfl,hg,rfl,rfl,λ_=>rfl,λp z=>(by cases z),by simp,by simp,λH5 p s5 h5=>⟨p,r1,r2,rfl,h5,mE s5⟩,⟨⟨k1.cl,k2.cl⟩,⟨k1.op,k2.op⟩,b.1,b.2,.lk k1.ty (h1▸k2.ty)⟩⟩
    obtain ⟨pg,wd,us,z1,zM,ws,e,rfl,hg,hz,ho,zN,dm,ME,L3,wz,hok⟩:=cs;apply A4 hg (v:=.str wd) (Aj (j:=0) rfl) ?_;apply Cv λp4 H4 Ul s4 e4=>?_;apply ⟨e4,[(.inr "pair",.str "pair")],rfl,⟨⟩,λH5 o5 e5=>?_⟩;have wA:A9 H3 H5:=λb o hb=>by
     have aq:b≠p4:=λz=>(by rw [z,Ul] at hb;cases hb);rw [o5 b aq];exact s4 _ _ hb
    refine ⟨p4,rfl,.inl ⟨_,.inl e5⟩,?_⟩;apply A4 (wA _ _ hg) (v:=.str wd) (Aj (j:=0) rfl) ?_;apply ⟨_,BJ.k (k:=.inr wd) e5,?_⟩;have Gv:(AN (Bq [] [(Sum.inr "pair",V.str "pair")]) (Sum.inr wd:Key)).getD (.str "link")=z1:=hz;left;rw [Gv];intros p6 H6 s6 e6;have dv:=wA.trans s6;refine ⟨_,BJ.k (k:=.inr wd) (dv _ _ gV),?_⟩;rw [ho];cases zM with
    | none=>exact last H6 p6 ws e dv (by rw [zN rfl];exact e6) ME L3 (λH5 p s5 h5=>wz H5 p (dv.trans s5) h5) hok
    | some p7=>exact last H6 p7 ws e dv (dv _ _ (dm p7 rfl)) ME L3 (λH5 p s5 h5=>wz H5 p (dv.trans s5) h5) hok
  ·apply ⟨a,ns,_,rfl,P.hs,λm hm=>?_⟩;apply ⟨_,rfl,λx H1 s1=>?_⟩;apply ⟨_,rfl,λy H2 s2=>?_⟩;have BG:=s1.trans s2;have P2:=P.mono BG;obtain ⟨pg,us,rfl,hg,_⟩:=B7.look P2.hg;have rest:(∃ g1 g2,g=.fn g1 g2)\/word g="number"\/word g="truth"\/word g="pair"\/word g="list":=by
    have:=P.gd;cases g with
    | num=>exact .inr (.inl rfl)
    | tru=>exact .inr (.inr (.inl rfl))
    | gap i=>exact this.elim
    | fn a b=>exact .inl ⟨a,b,rfl⟩
    | pr a b=>exact .inr (.inr (.inr (.inl rfl)))
    | ls a=>exact .inr (.inr (.inr (.inr rfl)))
   refine Gs (fun σ' H'=>(word g="number"\/word g="truth"\/word g="pair"\/word g="list")/\σ'=[some (.ref a),some (.int k),some (.ref pg),some (.ref l),some (.int d),some (.int m),some (.str x),some (.str y),none,none,none,none]/\H'=H2) ?_ λN0 qI=>?_
   ·rintro _ _ ⟨rest,rfl,rfl⟩;refine SJ (fun σ' H'=>σ'=[some (.ref a),some (.int k),some (.ref pg),some (.ref l),some (.int d),some (.int m),some (.str x),some (.str y),none,none,none,none]/\A9 H H'/\(d=0->∃ a b,g=.pr a b)) ?_ λN3 fin2=>?_
    ·rintro σ' H3 ⟨rfl,HW,hd⟩;apply Cv λp4 H4 Ul s4 e4=>?_;left;intros l1 H5 s5 e5;apply Cs (AG.of e5) (Int.emod_nonneg _ ⟨⟩) (Int.emod_lt_of_pos _ ⟨⟩) λv1 lz=>?_;left;intros w1 H6 s6 e6;left;intros l2 H7 s7 e7;apply Cs (AG.of e7) (Int.emod_nonneg _ ⟨⟩) (Int.emod_lt_of_pos _ ⟨⟩) λv2 wB=>?_;left;intros w2 H8 s8 e8;left;have mq:=s5.trans (s6.trans (s7.trans s8));refine ⟨mq _ _ e4,[(.inr "number",.ref w1),(.inr "truth",.ref w2)],rfl,Nat.le_of_ble_eq_true rfl,λH9 o9 e9=>?_⟩;have mv:A9 H3 H9:=λb o hb=>by
      have aq:b≠p4:=λz=>(by rw [z,Ul] at hb;cases hb);rw [o9 b aq];exact mq _ _ (s4 _ _ hb)
     have ow:∀ b o,H8 b=some o->b≠p4->H9 b=some o:=λb o hb ME=>(by rw [o9 b ME];exact hb);have mw:H9 w1=some (.tup [.str "op",v1]):=ow _ _ (s8 _ _ (s7 _ _ e6)) (λz=>by have h1:=s8 _ _ (s7 _ _ e6);have h2:=mq _ _ e4;rw [z,h2] at h1;cases h1);have mx:H9 w2=some (.tup [.str "op",v2]):=ow _ _ e8 (λz=>by have h1:=e8;have h2:=mq _ _ e4;rw [z,h2] at h1;cases h1);obtain ⟨o1,rfl,my,mz⟩:∃ o1,v1=.str o1/\Ex.ab0 o1/\Xu o1=.num:=by
      simp only [List.mem_cons,List.not_mem_nil,or_false] at lz;rcases lz with rfl | rfl
      ·exact ⟨_,rfl,.inl rfl,⟨⟩⟩
      ·exact ⟨_,rfl,.inr (.inl rfl),⟨⟩⟩
     obtain ⟨o2,rfl,mB,mF⟩:∃ o2,v2=.str o2/\Ex.ab0 o2/\Xu o2=.tru:=by
      simp only [List.mem_cons,List.not_mem_nil,or_false] at wB;rcases wB with rfl | rfl
      ·exact ⟨_,rfl,.inr (.inr (.inl rfl)),⟨⟩⟩
      ·exact ⟨_,rfl,.inr (.inr (.inr rfl)),⟨⟩⟩
     left;have P9:=P.mono (HW.trans mv);have mG:=HW.trans mv;cases g with
     | gap i=>exact P.gd.elim
     | fn a b=>exact (by rcases rest with h | h | h | h <;> exact absurd (show (Str.ofString "fun")=_ from h) ⟨⟩)
     | ls ka =>
      obtain ⟨p0,ga,e0,JS,gC⟩:=P9.hg;cases e0;refine A4 JS (v:=.str "list") rfl ?_;apply AR (decide_eq_true rfl) ?_;apply A4 JS (v:=ga) rfl ?_;left;intros kl PZ Et P';apply A4 (Et _ _ JS) (v:=.str "list") rfl ?_;apply ⟨p4,_,rfl,BJ.k (k:=.inr "list") (Et _ _ e9),?_⟩;apply Az (by show ¬ (false=true);decide) ?_;have d0:0 < d:=Nat.pos_of_ne_zero λz=>(by obtain ⟨_,_,h⟩:=hd z;cases h);have h1:=Xo d0;have dk:dp (Kd.ls ka)=dp ka+1:=rfl;refine fin _ _ ⟨m,.str x,.str y,none,p4,kl,w1,w2,o1,o2,ka,.ls ka,ga,.ref pg,rfl,mG.trans Et,P9.mono Et,Et _ _ e9,Et _ _ mw,Et _ _ mx,my,mB,mz,mF,P',B7.mono (Ae.of_same Et) gC,B7.mono (Ae.of_same Et) P9.hg,P.gd,P.gd,(),(),?_,?_,.inr (.inr ⟨d0,rfl,rfl⟩)⟩
      ·cases d with
       | zero=>omega
       | succ d=>simp only [mu];omega
      ·cases d with
       | zero=>omega
       | succ d=>simp only [mu];omega
     | pr ka kb =>
      obtain ⟨p0,ga,gb,e0,JS,gC,vU⟩:=P9.hg;cases e0;refine A4 JS (v:=.str "pair") rfl ?_;apply Az ⟨⟩ ?_;apply Hv (Ba.of JS) (λz=>absurd (show (1:Nat)=0 from z.1) ⟨⟩) λp5 PZ _ Et P'=>?_;apply ⟨p5,_,rfl,.inr (Ba.of P'),λkl hl=>?_⟩;have Ef:A9 PZ (upd PZ kl (.lst (DF [.str "pair",ga,gb] (some 1) none))):=A9.new hl;have KU:(upd PZ kl (.lst (DF [.str "pair",ga,gb] (some 1) none))) kl=some (.lst [ga,gb]):=A6;generalize (upd PZ kl (.lst (DF [.str "pair",ga,gb] (some 1) none)))=Qr at Ef KU ⊢;have DX:=Et.trans Ef;apply A4 (DX _ _ JS) (v:=.str "pair") rfl ?_;apply ⟨p4,_,rfl,BJ.k (k:=.inr "pair") (DX _ _ e9),?_⟩;apply Az (by show ¬ (false=true);decide) ?_;have dk:dp (Kd.pr ka kb)=max (dp ka) (dp kb)+1:=rfl;refine fin _ _ ⟨m,.str x,.str y,none,p4,kl,w1,w2,o1,o2,ka,kb,ga,gb,rfl,mG.trans DX,P9.mono DX,DX _ _ e9,DX _ _ mw,DX _ _ mx,my,mB,mz,mF,KU,B7.mono (Ae.of_same DX) gC,B7.mono (Ae.of_same DX) vU,P.gd.1,P.gd.2,(),(),?_,?_,.inl rfl⟩
      ·cases d with
       | zero=>have:=Uk rfl;simp only [mu];omega
       | succ d=>have:=Xo (Nat.succ_pos _);simp only [mu];omega
      ·cases d with
       | zero=>have:=Uk rfl;simp only [mu];omega
       | succ d=>have:=Xo (Nat.succ_pos _);simp only [mu];omega
     | num =>
      obtain ⟨p0,e0,JS⟩:=P9.hg;cases e0;refine A4 JS (v:=.str "number") rfl ?_;apply Az ⟨⟩ ?_;apply Hv (Ba.of JS) (λz=>absurd (show (1:Nat)=0 from z.1) ⟨⟩) λp5 PZ _ Et P'=>?_;apply ⟨p5,_,rfl,.inr (Ba.of P'),λkl hl=>?_⟩;have Ef:=A9.new (o:=.lst (DF [.str "number"] (some 1) none)) hl;generalize upd PZ kl (.lst (DF [.str "number"] (some 1) none))=Qr at Ef ⊢;have DX:=Et.trans Ef;apply A4 (DX _ _ JS) (v:=.str "number") rfl ?_;apply ⟨p4,_,rfl,BJ.k (k:=.inr "number") (DX _ _ e9),?_⟩;apply AR rfl ?_;left;intros q1 m9 Fd Xz;left;intros q2 qB Gx qJ;left;intros q3 qC Jr ah;have HH:=DX.trans (Fd.trans (Gx.trans Jr));have d0:0 < d:=Nat.pos_of_ne_zero λz=>(by obtain ⟨_,_,h⟩:=hd z;cases h);have h1:=Xo d0;have dk:dp Kd.num=0:=rfl;refine fin _ _ ⟨m,.str x,.str y,none,p4,q3,w1,w2,o1,o2,.num,.num,.ref q1,.ref q2,rfl,mG.trans HH,P9.mono HH,HH _ _ e9,HH _ _ mw,HH _ _ mx,my,mB,mz,mF,ah,⟨q1,rfl,Jr _ _ (Gx _ _ Xz)⟩,⟨q2,rfl,Jr _ _ qJ⟩,P.gd,P.gd,(),(),?_,?_,.inr (.inl ⟨d0,.inl rfl,rfl,rfl⟩)⟩
      ·cases d with
       | zero=>omega
       | succ d=>simp only [mu];omega
      ·cases d with
       | zero=>omega
       | succ d=>simp only [mu];omega
     | tru =>
      obtain ⟨p0,e0,JS⟩:=P9.hg;cases e0;refine A4 JS (v:=.str "truth") rfl ?_;apply Az ⟨⟩ ?_;apply Hv (Ba.of JS) (λz=>absurd (show (1:Nat)=0 from z.1) ⟨⟩) λp5 PZ _ Et P'=>?_;apply ⟨p5,_,rfl,.inr (Ba.of P'),λkl hl=>?_⟩;have Ef:=A9.new (o:=.lst (DF [.str "truth"] (some 1) none)) hl;generalize upd PZ kl (.lst (DF [.str "truth"] (some 1) none))=Qr at Ef ⊢;have DX:=Et.trans Ef;apply A4 (DX _ _ JS) (v:=.str "truth") rfl ?_;apply ⟨p4,_,rfl,BJ.k (k:=.inr "truth") (DX _ _ e9),?_⟩;apply AR rfl ?_;left;intros q1 m9 Fd Xz;left;intros q2 qB Gx qJ;left;intros q3 qC Jr ah;have HH:=DX.trans (Fd.trans (Gx.trans Jr));have d0:0 < d:=Nat.pos_of_ne_zero λz=>(by obtain ⟨_,_,h⟩:=hd z;cases h);have h1:=Xo d0;have dk:dp Kd.num=0:=rfl;have dk':dp Kd.tru=0:=rfl;refine fin _ _ ⟨m,.str x,.str y,none,p4,q3,w1,w2,o1,o2,.num,.num,.ref q1,.ref q2,rfl,mG.trans HH,P9.mono HH,HH _ _ e9,HH _ _ mw,HH _ _ mx,my,mB,mz,mF,ah,⟨q1,rfl,Jr _ _ (Gx _ _ Xz)⟩,⟨q2,rfl,Jr _ _ qJ⟩,P.gd,P.gd,(),(),?_,?_,.inr (.inl ⟨d0,.inr rfl,rfl,rfl⟩)⟩
      ·cases d with
       | zero=>omega
       | succ d=>simp only [mu];omega
      ·cases d with
       | zero=>omega
       | succ d=>simp only [mu];omega
    ·apply A4 hg (v:=.str (word g)) (Aj (j:=0) rfl) ?_;left;have ne:∀ j:Int,¬ decide (V.int d=V.int j)=true->(d:Int)≠j:=λj h z=>h (decide_eq_true (by rw [z]));have wC:word g="number"\/word g="truth"\/word g="pair"->∀ {A B:Prop},B->if decide (V.str (word g)=V.str "list")=true then A else B:=λh A B hB=>Az (by rcases h with h | h | h <;> rw [h] <;> decide) hB
     cases g with
     | gap i=>exact P.gd.elim
     | fn a b=>exact (by rcases rest with h | h | h | h <;> exact absurd (show (Str.ofString "fun")=_ from h) ⟨⟩)
     | ls ka =>
      refine AR (decide_eq_true rfl) ?_;apply fS ?_ λh1 emp=>?_
      ·left;intros p3 H3 s3 e3;exact q .emp _ _ (BG.trans s3) ⟨p3,rfl,e3⟩ ⟨trivial,trivial,Nat.zero_le _,by cases d <;> simp only [Cb,Ex.sz,sk] <;> omega,.emp _⟩
      ·apply Dz (λ_=>emp) λ_=>?_;apply A4 hg (v:=.str "list") (Aj (j:=0) rfl) ?_;apply Az ⟨⟩ (Ce ?_);apply A4 hg (v:=.str "list") (Aj (j:=0) rfl) ?_;apply Az ⟨⟩ (Ce ?_);exact fin2 _ _ ⟨rfl,BG,λz=>absurd (ne 0 h1) (by simp [z])⟩
     | pr ka kb =>
      refine Az (show ¬ decide (V.str "pair"=V.str "list")=true by decide) (Ce ?_);apply A4 hg (v:=.str "pair") (Aj (j:=0) rfl) ?_;apply Az ⟨⟩ (Ce ?_);apply A4 hg (v:=.str "pair") (Aj (j:=0) rfl) ?_;apply Az ⟨⟩ (Ce ?_);exact fin2 _ _ ⟨rfl,BG,λz=>⟨_,_,rfl⟩⟩
     | num =>
      refine Az ⟨⟩ (Ce ?_);apply A4 hg (v:=.str "number") (Aj (j:=0) rfl) ?_;apply AR (decide_eq_true rfl) ?_;apply fS ?_ λh1 emp=>?_
      ·apply ⟨_,rfl,λi H3 s3=>?_⟩;left;intros p3 H4 s4 e4;exact q (.num i) _ _ (BG.trans (s3.trans s4)) ⟨p3,rfl,e4⟩ ⟨trivial,trivial,Nat.zero_le _,by cases d <;> simp only [Cb,Ex.sz,sk] <;> omega,.num _⟩
      ·apply Dz (λ_=>emp) λ_=>?_;apply A4 hg (v:=.str "number") (Aj (j:=0) rfl) ?_;apply Az ⟨⟩ (Ce ?_);exact fin2 _ _ ⟨rfl,BG,λz=>absurd (ne 0 h1) (by simp [z])⟩
     | tru =>
      refine Az ⟨⟩ (Ce ?_);apply A4 hg (v:=.str "truth") (Aj (j:=0) rfl) ?_;apply Az ⟨⟩ (Ce ?_);apply A4 hg (v:=.str "truth") (Aj (j:=0) rfl) ?_;apply AR (decide_eq_true rfl) ?_;apply fS ?_ λh1 emp=>?_
      ·left;intros p3 H4 s4 e4;exact q (.tru _) _ _ (BG.trans s4) ⟨p3,rfl,e4⟩ ⟨trivial,trivial,Nat.zero_le _,by cases d <;> simp only [Cb,Ex.sz,sk] <;> omega,.tru _⟩
      ·apply Dz (λ_=>emp) λ_=>?_;exact fin2 _ _ ⟨rfl,BG,λz=>absurd (ne 0 h1) (by simp [z])⟩
   ·apply A4 hg (v:=.str (word g)) (Aj (j:=0) rfl) ?_;left;rcases rest with ⟨g1,g2,rfl⟩ | rest
    ·refine AR (decide_eq_true rfl) ?_;obtain ⟨p0,r1,r2,e0,JS,wD,mn⟩:=P2.hg;cases e0;apply A4 JS (v:=r1) rfl ?_;left;intros q1 H3 s3 e3;left;intros q2 H4 s4 e4;left;have au:=s3.trans s4;have P4:=P2.mono au;have dk:dp (Kd.fn g1 g2)=max (dp g1) (dp g2)+1:=rfl;have dh:mu d g2+1<=n:=by
      cases d with
      | zero=>have:=Uk rfl;simp only [mu];omega
      | succ d=>have:=Xo (Nat.succ_pos _);simp only [mu];omega
     have wF:∀ e0:Ex,e0.kn<=B d (dp g2)->e0.kn<=29:=by
      intro e0 h0;unfold Pb at qH;rcases qH with h | ⟨h,h'⟩
      ·have nM:cc d<=12:=by
        rcases d with _ | _ | _ | d
        ·simp [cc]
        ·simp [cc]
        ·simp [cc]
        ·omega
       simp only [B] at h0;omega
      ·subst h;simp only [B,cc] at h0;omega
     have du:∀ (e0 e:Ex),e0.kn<=B d (dp g2)->e0.sz<=C d (sk g2)->e.kn=1+e0.kn->e.sz=1+e0.sz->e.kn<=Bb d (dp (.fn g1 g2))/\e.sz<=Cb d (sk (.fn g1 g2)):=by
      intro e0 e h1 h2 h3 h4;cases d with
      | zero=>simp only [B,C,cc] at h1 h2;simp only [Bb,Cb,dp,sk];omega
      | succ d =>
       have:=C7 (d+1) (show sk g2<=1+sk g2 by omega);simp only [Bb,Cb,B,dp,sk] at *;omega
     refine ⟨l,q2,xs,[(x,g1)],rfl,P4.hl,⟨_,e4,.cons ⟨q1,r1,rfl,s4 _ _ e3,B7.mono (Ae.of_same au) wD⟩ .nil⟩,by simp;omega,λl2 H5 s5 Ej=>?_⟩;left;have P5:=P4.mono s5;have gX:=B7.mono (Ae.of_same (au.trans s5)) mn;have qK:=B7.mono (Ae.of_same (au.trans s5)) wD;have qL:=s5 _ _ (au _ _ JS);refine fQ ?_ λME other=>?_
     ·apply A4 qL (v:=r2) rfl ?_;apply ml (P5.with gX P.gd.2 Ej λz hz=>?_) dh () Oe ?_ λe2 qM H6 s6 a2 o2=>?_
      ·rcases Eb hz with hz | hz
       ·rw [List.mem_singleton.mp hz];show dp g1<=8;omega
       ·exact P.hx z hz
      ·have:=F7 xs [(x,g1)];simp at this;omega
      left;intros p7 H7 s7 e7;have b:=du e2 (.fn x e2) o2.np o2.sz rfl rfl;refine q (.fn x e2) _ _ (BG.trans (au.trans (s5.trans (s6.trans s7)))) ⟨p7,qM,rfl,e7,As.mono (Ae.of_same s7) a2⟩ ⟨?_,⟨o2.op,wF e2 o2.np⟩,b.1,b.2,.fn (o2.ty.mono (PY P.gd.1))⟩;exact show e2.cl (x::Jq xs) from Fc o2.cl (λm hm=>by rw [List.mem_singleton.mp hm];exact .head _) (λz hz=>.tail _ hz)
     ·apply Dz (λ_=>?_) λ_=>other;left;intros q3 H6 s6 e6;apply A4 (s6 _ _ qL) (v:=r1) rfl ?_;left;intros q4 H7 s7 e7;left;intros q5 H8 s8 e8;left;have gY:=s6.trans (s7.trans s8);have P8:=P5.mono gY;refine ⟨l,q5,xs,[(y,.fn g1 g2),(x,g1)],rfl,P8.hl,⟨_,e8,.cons ⟨q3,.ref pg,rfl,s8 _ _ (s7 _ _ e6),P8.hg⟩ (.cons ⟨q4,r1,rfl,s8 _ _ e7,B7.mono (Ae.of_same gY) qK⟩ .nil)⟩,by simp;omega,λl3 H9 s9 Sq=>?_⟩;left;have P9:=P8.mono s9;refine A4 (s9 _ _ (gY _ _ qL)) (v:=r2) rfl ?_;apply ml (P9.with (B7.mono (Ae.of_same (gY.trans s9)) gX) P.gd.2 Sq λz hz=>?_) dh () Oe ?_ λe2 qM PZ Et a2 o2=>?_
      ·rcases Eb hz with hz | hz
       ·simp only [List.mem_cons,List.not_mem_nil,or_false] at hz;rcases hz with rfl | rfl
        ·show dp (Kd.fn g1 g2)<=8;omega
        ·show dp g1<=8;omega
       ·exact P.hx z hz
      ·have:=F7 xs [(y,.fn g1 g2),(x,g1)];simp at this;omega
      left;intros p7 Qr Ef KU;have b:=du e2 (.rc y x e2) o2.np o2.sz rfl rfl;refine q (.rc y x e2) _ _ (BG.trans (au.trans (s5.trans (gY.trans (s9.trans (Et.trans Ef)))))) ⟨p7,qM,rfl,KU,As.mono (Ae.of_same Ef) a2⟩ ⟨?_,⟨o2.op,wF e2 o2.np⟩,b.1,b.2,.rc (o2.ty.mono (HG P.gd P.gd.1 (.inr ⟨λz=>by subst z;simp at ME,rfl⟩)))⟩;refine show e2.cl (x::y::Jq xs) from Fc o2.cl (λm hm=>?_) (λz hz=>.tail _ (.tail _ hz));simp only [List.mem_cons,List.not_mem_nil,or_false] at hm;rcases hm with rfl | rfl
      ·exact .tail _ (.head _)
      ·exact .head _
    ·refine Az (by rcases rest with h | h | h | h <;> rw [h] <;> decide) ?_;exact qI _ _ ⟨rest,rfl,rfl⟩
noncomputable def Oj (K:W.Frag):Sp:=λvs H Q _=>∃ (p c:Addr) (us:List V) (ns:List Nat) (xs:List Str),vs=[.ref p,.ref c]/\H p=some (.tup us)/\HA K c (ns.map λn:Nat=>V.int n)/\Paired (λn x=>us[n]?=some (V.str x)) ns xs/\ns.length<=10 /\
 ∀ q H',A9 H H'->H' q=some (.tup (xs.map V.str))->Q (.ref q) H'
noncomputable def qN:Expr:=match valueOf (inDef CM 0) with
 | .Call _ [e] _ _=>e
 | _=>.Constant .none 0 ⟨0,0,0,0⟩
theorem gZ:Ai ["tree","places"] ["tree","places"] (A5 CM):=nofun
theorem av (F:Cd K "names_at" "names_at" CM f fd)(Bg:mg "tuple"=none):Aq Pr w K mg base B5 1 f fd ["tree","places"] (Oj K):=by
 refine F.okS gZ (λvs H Q E h=>?_) (λBf A outer s H vs Q E hr h=>?_)
 ·obtain ⟨p,c,us,ns,xs,rfl,_⟩:=h;rfl
 ·obtain ⟨p,c,us,ns,xs,rfl,hp,hc,hx,hn,q⟩:=h;have S:AY (Cr B5 Pr w K mg base ["tree","places"] "names_at" (A5 CM) f Bf A outer s H E).nox (Bt qN) [("tree",s.heap.objs.size+1)] ["place"] ["tree"] [0] :=
   ⟨rfl,by decide +kernel,rfl,by decide +kernel,rfl,rfl,rfl,rfl⟩
  have HD:(["place","tree"]:List Str).Nodup:=by decide +kernel
  refine ⟨_,(Ac (Ak (Bw D8 rfl Bg PyProof.Rows.boot_tuple (A1 (ED (te:=FQ (D7 K) (B9 1) (B9 0)) S rfl (ID (Aa 1)) (λC s0 H0 ex=>AQ (i:=0) HD rfl (.inl rfl)) (λ_ _ _ _=>En) (λC s0 H0 ex=>Bj BE (Aa 1) (Aa 0) Cm)) A2)))),?_⟩;apply ⟨c,rfl,⟨_,hc.sq H⟩,?_⟩;refine Ht (K:=K) (a:=c) (xs:=ns.map λn:Nat=>V.int n) (λi ys H'=>H'=H/\ys=(xs.take i).map V.str) ⟨rfl,rfl⟩ (λi ys H' z=>hc.sq H') (by rw [List.length_map];exact Bx ()) (λi ys H' z=>?_) rfl (λi x ys H1 HV z=>?_) (λys H1 z=>?_)
  ·rw [z.2,List.length_map,List.length_take];omega
  ·obtain ⟨rfl,rfl⟩:=z;obtain ⟨n,eK,rfl⟩:∃ n,ns[i]?=some n/\V.int (n:Nat)=x:=by
    rw [List.getElem?_map] at HV;exact Option.map_eq_some_iff.mp HV
   obtain ⟨x,dA,zO⟩:=Paired.at1 hx eK;have hi:=(List.getElem?_eq_some_iff.mp eK).1;apply C5 ?_;apply A4 hp (Aj zO) ?_;refine Nx.mk (by rw [List.length_map];exact hi) ⟨rfl,?_⟩;rw [List.take_succ,dA];simp
  ·obtain ⟨rfl,rfl⟩:=z;intros d H2 s2 e2;refine ⟨d,_,rfl,.inl ⟨AG.of e2,λl hl=>?_⟩⟩;have e5:xs.take (ns.map λn:Nat=>V.int n).length=xs:=(by rw [List.length_map,Paired.len hx,List.take_length]);rw [e5];exact q l _ (s2.trans (A9.new hl)) A6
noncomputable def MM (H:Hp)(r:V)(pt:Ex × List Str):Prop:=∃ p q re,r=.ref p/\H p=some (.tup [re,.ref q])/\As H pt.1 re/\H q=some (.tup (pt.2.map V.str))
theorem MM.mono (s:Ae H H')(h:MM H r pt):MM H' r pt:=by
 obtain ⟨p,q,re,h1,h2,h3,h4⟩:=h;exact ⟨p,q,re,h1,s _ _ h2,As.mono s h3,s _ _ h4⟩
noncomputable def L4:Sp:=λvs H Q _=>∃ (e:Ex) (re:V),vs=[re]/\As H e re/\∀ l rs H',A9 H H'->H l=none->H' l=some (.lst rs)->Paired (MM H') rs e.prt->Q (.ref l) H'
theorem hU:Ai ["tree"] ["tree"] (A5 B6):=nofun
theorem IS (e:Ex):e.plc.length<=3/\∀ r∈e.plc,r.2.length<=2:=by
 cases e <;> simp [Ex.plc]
theorem aw (F:Cd K "parts_with_names" "parts_with_names" B6 f fd)(kd:D1 w K VT rows)(dB:mg "PLACES"=some (.ref VT))(kp:qg K rows)(cN:Cl Pr w K mg base 1 "names_at" ["tree","places"] (Oj K)):Aq Pr w K mg base B5 2 f fd ["tree"] L4:=by
 refine F.okS hU (λvs H Q E h=>?_) (λBf A outer s H vs Q E hr h=>?_)
 ·obtain ⟨e,re,rfl,_⟩:=h;rfl
 ·obtain ⟨e,re,rfl,he,q⟩:=h;have S:AY (Cr B5 Pr w K mg base ["tree"] "parts_with_names" (A5 B6) f Bf A outer s H E).nox (Bt (valueOf (inDef B6 0))) [("tree",s.heap.objs.size+1)] ["place","names"] ["tree"] [0] :=
   ⟨rfl,by decide +kernel,rfl,by decide +kernel,rfl,rfl,rfl,rfl⟩
  have HD:(["place","names","tree"]:List Str).Nodup:=by decide +kernel
  refine ⟨_,(Ac (Ak (ED (g:=OM K 2 (Eg (BN 0) (Eg (BN 1) OL))) (te:=Pc (Be (FQ (D7 K) (B9 2) (B9 0)) (Be (EW (Oj K) [] E0 (Be (B9 2) (Be (B9 1) DE))) DE))) S rfl (ID (S7 kd rfl dB (eI 0) Cm)) (λC s0 H0 ex=>Hh rfl (Bu (AQ (i:=0) HD rfl (.inl rfl)) (Bu (AQ (i:=1) HD rfl (.inl rfl)) EF))) (λ_ _ _ _=>En) (λC s0 H0 ex=>Ah (A1 (Bj BE (Aa 2) (Aa 0) Cm) (A1 (Ay cN hr rfl (A1 (Aa 2) (A1 (Aa 1) A2))) A2)))))),?_⟩;obtain ⟨p,us,rfl,hp,SM,_⟩:=he.look;obtain ⟨a,rs,S9,Oi,hV⟩:=kp e;obtain ⟨Ui,wG⟩:=IS e;have lr:=Paired.len hV;have lp:=Paired.len SM;apply A4 hp (v:=.str e.wd) (Aj (j:=0) rfl) ?_;refine ⟨e.wd,.ref a,.ref a,rfl,S9,rfl,a,rfl,⟨_,Oi.sq H⟩,?_⟩;refine KH (K:=K) (n:=rs.length) (λi ys H'=>A9 H H'/\Paired (MM H') ys (e.prt.take i)) ⟨A9.refl _,.nil⟩ (by exact Bx ()) (λi ys H' z=>?_) rfl rfl (λi ys H' hi z=>⟨rs,rs[i],Oi.sq H',by simp [hi]⟩) (λys H' z=>⟨rs,Oi.sq H',Nat.le_refl _⟩) (λi ys H1 x H1' hi z hy=>?_) (λys H1 z=>?_)
  ·rw [Paired.len z.2,List.length_take];omega
  ·obtain ⟨rfl,hy⟩:=hy;obtain ⟨s1,z⟩:=z;have dA:=hy rs (Oi.sq _);have hX:i < e.plc.length:=(by omega);have XF:e.plc[i]?=some e.plc[i]:=(by simp [hX]);obtain ⟨x',HV,b,c,rfl,kb,kc⟩:=Paired.at1 hV XF;rw [HV] at dA;cases dA;obtain ⟨pt,VU,⟨wH,qO,ae⟩,Ud⟩:=Paired.at1 SM XF;refine ⟨b,_,_,rfl,kb.sq _,?_⟩;apply C5 ?_;apply A4 (s1 _ _ hp) (Aj qO) ?_;apply ⟨p,c,_,_,pt.2,rfl,s1 _ _ hp,kc,Ud,Nat.le_trans (wG _ (List.getElem_mem hX)) ⟨⟩,λq' H2 s2 e2=>?_⟩;left;intros t H3 s3 e3;refine Nx.mk hi ⟨s1.trans (s2.trans s3),?_⟩;rw [List.take_succ,VU];refine Paired.app (Paired.aag z λ_ _ y=>MM.mono (Ae.of_same (s2.trans s3)) y) (.cons ⟨t,q',wH,rfl,e3,As.mono (Ae.of_same (s1.trans (s2.trans s3))) ae,s3 _ _ e2⟩ .nil)
  ·obtain ⟨s1,z⟩:=z;refine C1 (Nat.zero_le _) λl H2 hl s2 e2=>?_;rw [show rs.length=e.prt.length by omega,List.take_length] at z;exact q l _ H2 (s1.trans s2) (s1.free hl) e2 (Paired.aag z λ_ _ y=>MM.mono (Ae.of_same s2) y)
end
end K
namespace L2
open PySem PySem.Spec PyProof.Rows KS
open PySem.W (fnMade fnX fnOf envX CodeHd tabObj makeFunction_K makeFunction_hit nestDef_K FnAt callWith_F)
section
variable {X:Cx}{c P:Addr}{name q:Str}{params:Arguments}{body:List Stmt}{scope:Scope}{pos:Pos}{aa7:List (Str × Addr)}{i:Nat}
noncomputable def Ol (i:Nat)(P:Addr)(pos:Pos)(mk:Value->Addr->Value->Obj)(q:Str):TS:=λD σ H =>
 (∃ ps,H P=some (.tbl ps)/\TriplesOk ps.toList/\codeAmong pos ps.toList=none/\∀ f c' oc Ga doc,CW q oc->H f=none->H c'=none->f≠c' ->
   D.nx (σ.set i (some (.ref f))) (upd (upd (upd H P (.tbl (ps++#[rawInt pos.line,rawInt pos.col,.ref c']))) c' (C9 c' oc)) f (C9 f (mk doc c' Ga)))) \/
 (∃ ps c',H P=some (.tbl ps)/\TriplesOk ps.toList/\codeAmong pos ps.toList=some (.ref c')/\∀ f Ga doc,H f=none->D.nx (σ.set i (some (.ref f))) (upd H f (C9 f (mk doc c' Ga))))
theorem VW (B:FX X.base X.mg c P)(Om:X.env.code=.ref c)(XG:closureFor scope X.env=pure aa7)(hq:qualnameIn X.env name name=q)(Uk:params.defaults=[])(qP:params.kw_defaults=[])(ha:annTrees params none X.env=[])(hN:X.N.Nodup)(hi:X.N[i]?=some name)(hx:Loc X.env.scope name)(hf:X.fn name=true\/X.env.scope.names.lookup name=some .local:=by exfalso) :
  PS X (.FunctionDef name params body [] none [] scope none name pos) (Ol i P pos (λdoc c' Ga=>fnMade name q params body scope aa7 doc ((X.mg "__name__").getD .none) c' Ga) q):=by
 intro pins s σ H D I h;have hg:s.heap.Ns mainGlobals X.mg:=I.mod.glob.keeps I.bk;have C:CodeHd s.heap c P:=B.hd.keeps I.bk;refine nestDef_K Uk qP ha ?_;rw [hq];have hP:∃ ps,H P=some (.tbl ps):=by
  rcases h with ⟨_,z,_⟩ | ⟨_,_,z,_⟩
  ·exact ⟨_,z⟩
  ·exact ⟨_,z⟩
 have nP:∀ b o,X.base.get? b=some o->b≠P:=λb o z w=>by
  obtain ⟨ps,hP⟩:=hP;have:=(I.bs b o z).2;rw [w,hP] at this;cases this
 have hb:s.heap.BuiltinsAt X.mg P:=by
  obtain ⟨bm,ob,b1,b2,b3,b4,b5,b6⟩:=B.bm;refine ⟨bm,ob,b1,b2,?_,nP _ _ b3,I.bk _ _ b3,b4,b5,b6⟩;intro z;obtain ⟨o,es,ep,e,hd,_⟩:=I.mod.glob;rw [z,e] at b3;cases b3;rw [hd] at b6;cases b6
 have zP:mainGlobals≠P:=by
  obtain ⟨o,es,ep,e,hd,_⟩:=I.mod.glob;exact nP _ _ e
 rcases h with ⟨ps,hP,ht,qQ,h⟩ | ⟨ps,c',hP,ht,qQ,h⟩
 ·have gP:s.heap.get? P=some (tabObj ps):=I.hok P _ hP;refine makeFunction_K (mg:=X.mg) XG I.ok.glob hg Om C gP ht qQ zP hb λc' Ga doc h' tk HV qR CT qS wI=>?_;obtain ⟨c2,oc,vs,t,e2,U7,qT,zQ⟩:=qS;cases e2;have nf:H h'.objs.size=none:=I.hok.fresh ();have nc:H c'=none:=I.hok.fresh qR;have fc:h'.objs.size≠c':=by omega
  have zR:=Heap.lt_size gP;have oldK:∀ b o,b≠P->s.heap.get? b=some o->(h'.push (fnMade name q params body scope aa7 doc ((X.mg "__name__").getD .none) c' Ga)).get? b=some o:=λb o ZS z=>Heap.get?_push_of_some _ (HV b o ZS z);have I1:Inv X pins σ (upd (upd (upd H P (.tbl (ps++#[rawInt pos.line,rawInt pos.col,.ref c']))) c' (C9 c' oc)) h'.objs.size (C9 h'.objs.size (fnMade name q params body scope aa7 doc ((X.mg "__name__").getD .none) c' Ga)))
    { s with heap:=h'.push (fnMade name q params body scope aa7 doc ((X.mg "__name__").getD .none) c' Ga),toks:=tk }:=by
   have look:∀ b,b≠P->b≠c'->b≠h'.objs.size->∀ o1 o2 o3,(upd (upd (upd H P o1) c' o2) h'.objs.size o3) b=H b:=λb b1 b2 b3 o1 o2 o3=>(by rw [A8 b3,A8 b2,A8 b1]);have Fe:∀ b u,H b=some u->(∀ ps,u≠.tbl ps)->b≠P/\b≠c'/\b≠h'.objs.size:=λb u z hu=>⟨λw=>by rw [w,hP] at z;exact hu _ (Option.some.inj z).symm,Af z nc,Af z nf⟩;have XH:∀ b o,s.heap.get? b=some o->b≠c'/\b≠h'.objs.size:=λb o z=>by
    have:=Heap.lt_size z;exact ⟨Nat.ne_of_lt (Nat.lt_of_lt_of_le this qR),Nat.ne_of_lt (Nat.lt_of_lt_of_le this (Nat.le_trans qR (Nat.le_of_lt CT)))⟩
   refine I.un ⟨λb o z n _ _=>?_,λb o z n _ _=>?_,λb o z n _=>?_,λb o z _=>?_,λb xs z=>?_,λb o u z=>?_,λb ps z=>?_⟩ (λb u z=>?_)
   ·exact oldK b o (λw=>by rw [w,hP] at n;cases n) z
   ·exact ⟨o.slots,oldK b o (λw=>by rw [w,hP] at n;cases n) z⟩
   ·rw [look b (λw=>by rw [w,hP] at n;cases n) (XH b o z).1 (XH b o z).2];exact n
   ·by_cases w:b=P
    ·subst w;exact ⟨_,Heap.get?_push_of_some _ wI⟩
    ·exact ⟨o,oldK b o w z⟩
   ·obtain ⟨n1,n2,n3⟩:=Fe b _ z (λ_ w=>by cases w);rw [look b n1 n2 n3];exact z
   ·obtain ⟨n1,n2,n3⟩:=Fe b _ z (λ_ w=>by cases w);rw [look b n1 n2 n3];exact z
   ·by_cases w:b=P
    ·subst w;rw [hP] at z;cases z;refine ⟨#[rawInt pos.line,rawInt pos.col,.ref c'],?_⟩;rw [A8 (Ne.symm (Af hP nf).symm),A8 (Ne.symm (Af hP nc).symm),A6]
    ·refine ⟨#[],?_⟩;rw [look b w (Af z nc) (Af z nf),z];simp
   ·by_cases w3:b=h'.objs.size
    ·subst w3;rw [A6] at z;cases z;exact C9.ok (Heap.get?_push_size _ rfl)
    ·rw [A8 w3] at z;by_cases w2:b=c'
     ·subst w2;rw [A6] at z;cases z;exact C9.ok (Heap.get?_push_of_some _ U7)
     ·rw [A8 w2] at z;by_cases w1:b=P
      ·subst w1;rw [A6] at z;cases z;show (h'.push _).get? b=some _;exact Heap.get?_push_of_some _ wI
      ·rw [A8 w1] at z;refine (I.hok b u z).abq (λd v IW y=>oldK d v ?_ y) (λd y=>?_) (λd xs y=>?_)
       ·rcases IW with rfl | IW
        ·exact w1
        ·exact (Fe d _ IW (λ_ w=>by cases w)).1
       ·obtain ⟨n1,n2,n3⟩:=Fe d _ y (λ_ w=>by cases w);rw [look d n1 n2 n3];exact y
       ·obtain ⟨n1,n2,n3⟩:=Fe d _ y (λ_ w=>by cases w);rw [look d n1 n2 n3];exact y
  refine DC (v:=.ref h'.objs.size) I1 hN hi hx rfl (λs2 I2=>?_) hf;exact ⟨_,_,I2,h h'.objs.size c' oc Ga doc ⟨vs,t,qT,zQ⟩ nf nc fc⟩
 ·have gP:s.heap.get? P=some (tabObj ps):=I.hok P _ hP;refine makeFunction_hit (mg:=X.mg) XG I.ok.glob hg Om C gP ht (cv:=.ref c') qQ hb λGa doc h' tk hk hsz=>?_;have nf:H h'.objs.size=none:=I.hok.fresh hsz;have I1:Inv X pins σ (upd H h'.objs.size (C9 h'.objs.size (fnMade name q params body scope aa7 doc ((X.mg "__name__").getD .none) c' Ga)))
    { s with heap:=h'.push (fnMade name q params body scope aa7 doc ((X.mg "__name__").getD .none) c' Ga),toks:=tk } :=
   I.laid (λb o z=>Heap.get?_push_of_some _ (hk b o z)) hsz (C9.ok (Heap.get?_push_size _ rfl))
  refine DC (v:=.ref h'.objs.size) I1 hN hi hx rfl (λs2 I2=>?_) hf;exact ⟨_,_,I2,h h'.objs.size Ga doc nf⟩
end
theorem SN (B:FX X.base X.mg c P)(Om:X.env.code=.ref c)(XG:closureFor scope X.env=pure aa7)(hq:qualnameIn X.env name name=q)(Uk:params.defaults=[])(qP:params.kw_defaults=[])(ha:annTrees params none X.env=[])(hN:X.N.Nodup)(hi:X.N[i]?=some name)(hx:Loc X.env.scope name)(hf:X.fn name=true\/X.env.scope.names.lookup name=some .local:=by exfalso) :
  SS X (.FunctionDef name params body [] none [] scope none name pos) (Ol i P pos (λdoc c' Ga=>fnMade name q params body scope aa7 doc ((X.mg "__name__").getD .none) c' Ga) q):=⟨VW B Om XG hq Uk qP ha hN hi hx hf⟩
theorem SQ {P:Program}{w:World}{K:W.Frag}{mg:Str->Option Value}{base:Heap}{k:Nat}{st:Stmt}{f c':Addr}{name qual:Str}{doc pm Ga:Value}{oc:Obj}{N ps:List Str}{sp:Sp}(S:Ai N ps (A5 st))(U7:CW qual oc)
  (len:∀ vs H Q E,sp vs H Q E->vs.length=ps.length)
  (tr:∀ vs H Q E,sp vs H Q E->H f=some (C9 f (fnMade name qual (AW st) (AF st) (A5 st) [] doc pm c' Ga))/\H c'=some (C9 c' oc))
  (GV:∀ (A:Around) (outer:List Env) (s:Shared) (H:Hp) (vs:List V) (Q:VK) (E:XK),Ar k (A.deeper (envOfC qual (A5 st) s.heap.objs.size f (.ref c')))->sp vs H Q E ->
   ∃ t,SB (Cr B5 P w K mg base N qual (A5 st) f (.ref c') A outer s H E).nox (AF st) t/\t { nx:=λ_ H'=>Q .non H',rt:=Q } (start N vs) H) :
  Aq P w K mg base B5 (k+1) f (fnX name qual (AW st) (AF st) (A5 st) [] .none .none doc pm none (.ref c') Ga) ps sp:=by
 refine ⟨len,λA outer s H args us vs Q E hr e0 hb r Ua=>?_⟩;have hl:=len _ _ _ _ Ua;obtain ⟨tf,zS⟩:=tr _ _ _ _ Ua;have gf:=C9.get e0.hok tf;have zT:=C9.get e0.hok zS;have lim:s.heap.NoLimit:=e0.mod.nolimit.keeps λb o e=>(e0.bs b o e).1;obtain ⟨zU,ot,od,ov⟩:=U7;have QP:∀ y∈ps.zip us,(A5 st).names.lookup y.1=some .local\/((A5 st).names.lookup y.1=some .cell/\((cellsFrom (s.heap.objs.size+1) (A5 st).names []).lookup y.1).isSome=true):=λ⟨n,v⟩ hy=>by
  rcases S.par n (List.of_mem_zip hy).1 with q | q
  ·exact .inl q
  ·exact .inr ⟨q,W.cellsFrom_some _ _ _ (.inl q)⟩
 refine codeAny_call_function hr.depth gf rfl S.co S.gen rfl ⟨c',oc,zU,ot,rfl,zT,od,ov⟩ (hb _ _ _ _ ?_);refine wpAny_newFunctionEnv_cells S.kind QP λenv he s1 x=>?_;subst he;refine ⟨lim.keeps x.toInCall.keep,codeAny_func ?_⟩;obtain ⟨t,ht,hq⟩:=GV A outer s H vs Q E (hr.deeper _) Ua;have I:Inv (Cr B5 P w K mg base N qual (A5 st) f (.ref c') A outer s H E) [] (start N vs) H s1:=Iq S hr.hd e0 hl r x;refine wpAny_mono (ht.out.nox [] s1 (start N vs) H _ I hq) (λfl s' hs=>?_) λe s' hs=>hs;have fin:∀ {σ':St} {H':Hp} {v:V} {u:Value},Inv (Cr B5 P w K mg base N qual (A5 st) f (.ref c') A outer s H E) [] σ' H' s'->RelV v u->Q v H'->CE outer P w H s Q u s' :=
  λ{σ' H' v u} J rv q=>⟨v,H',J.os,J.bare,J.base,J.hok,rv,q⟩
 cases fl with
 | ret u =>
  obtain ⟨v,σ',H',J,rv,q⟩:=hs;exact fin J rv q
 | next =>
  obtain ⟨σ',H',J,q⟩:=hs;exact fin (v:=V.non) (u:=Value.none) J rfl q
 | brk =>
  obtain ⟨_,_,_,q⟩:=hs;exact False.elim q
 | cont =>
  obtain ⟨_,_,_,q⟩:=hs;exact False.elim q
noncomputable def DY (P:Addr)(p1 p2:Pos)(q1 q2:Str)(H:Hp):Prop:=H P=some (.tbl #[])\/∃ a b oa ob,H P=some (.tbl #[rawInt p1.line,rawInt p1.col,.ref a,rawInt p2.line,rawInt p2.col,.ref b])/\H a=some (C9 a oa)/\CW q1 oa/\H b=some (C9 b ob)/\CW q2 ob
theorem DY.same (s:A9 H H')(h:DY P p1 p2 q1 q2 H):DY P p1 p2 q1 q2 H':=by
 rcases h with z | ⟨a,b,oa,ob,z1,z2,z3,z4,z5⟩
 ·exact .inl (s _ _ z)
 ·exact .inr ⟨a,b,oa,ob,s _ _ z1,s _ _ z2,z3,s _ _ z4,z5⟩
theorem DY.tab (h:DY P p1 p2 q1 q2 H):∃ ps,H P=some (.tbl ps):=by
 rcases h with z | ⟨a,b,oa,ob,z1,_⟩
 ·exact ⟨_,z⟩
 ·exact ⟨_,z1⟩
theorem SR (ne:(p1.line==p2.line && p1.col==p2.col)=false)(T:DY P p1 p2 q1 q2 H)(q:∀ f1 f2 a b oa ob LB Um d1 d2 H1,BV P H H1->DY P p1 p2 q1 q2 H1->H1 a=some (C9 a oa)->CW q1 oa->H1 b=some (C9 b ob)->CW q2 ob->H1 f1=some (C9 f1 (m1 d1 a LB))->H1 f2=some (C9 f2 (m2 d2 b Um))->u D ((σ.set i1 (some (.ref f1))).set i2 (some (.ref f2))) H1) :
  Bh (Ol i1 P p1 m1 q1) (Bh (Ol i2 P p2 m2 q2) u) D σ H:=by
 have ne':¬ (p1.line=p2.line/\p1.col=p2.col):=λz=>by simp [z.1,z.2] at ne
 rcases T with z | ⟨a,b,oa,ob,z1,z2,z3,z4,z5⟩
 ·refine .inl ⟨_,z,trivial,rfl,λf1 a oa LB d1 h1 h2 h3 h4=>?_⟩;have wJ:P≠a:=Af z h3;have wK:P≠f1:=Af z h2;have s1:BV P H (upd (upd (upd H P (.tbl (#[]++#[rawInt p1.line,rawInt p1.col,.ref a]))) a (C9 a oa)) f1 (C9 f1 (m1 d1 a LB))):=λb o e nb=>by
   rw [A8 (Af e h2),A8 (Af e h3),A8 nb];exact e
  have e1:(upd (upd (upd H P (.tbl (#[]++#[rawInt p1.line,rawInt p1.col,.ref a]))) a (C9 a oa)) f1 (C9 f1 (m1 d1 a LB))) P=some (.tbl #[rawInt p1.line,rawInt p1.col,.ref a]):=by
   rw [A8 wK,A8 wJ,A6];rfl
  have e2:(upd (upd (upd H P (.tbl (#[]++#[rawInt p1.line,rawInt p1.col,.ref a]))) a (C9 a oa)) f1 (C9 f1 (m1 d1 a LB))) a=some (C9 a oa):=by
   rw [A8 (Ne.symm h4),A6]
  have e3:(upd (upd (upd H P (.tbl (#[]++#[rawInt p1.line,rawInt p1.col,.ref a]))) a (C9 a oa)) f1 (C9 f1 (m1 d1 a LB))) f1=some (C9 f1 (m1 d1 a LB)):=A6;generalize upd (upd (upd H P (.tbl (#[]++#[rawInt p1.line,rawInt p1.col,.ref a]))) a (C9 a oa)) f1 (C9 f1 (m1 d1 a LB))=H1 at s1 e1 e2 e3 ⊢;refine .inl ⟨_,e1,trivial,?_,λf2 b ob Um d2 k1 k2 k3 k4=>?_⟩
  ·show codeAmong p2 [rawInt p1.line,rawInt p1.col,.ref a]=none;simp only [codeAmong,rawInt];rw [if_neg];intro z;simp only [Bool.and_eq_true,beq_iff_eq] at z;exact ne' ⟨(),()⟩
  have zV:P≠b:=Af e1 k3;have zW:P≠f2:=Af e1 k2;have s2:BV P H1 (upd (upd (upd H1 P (.tbl (#[rawInt p1.line,rawInt p1.col,.ref a]++#[rawInt p2.line,rawInt p2.col,.ref b]))) b (C9 b ob)) f2 (C9 f2 (m2 d2 b Um))):=λb o e nb=>by
   rw [A8 (Af e k2),A8 (Af e k3),A8 nb];exact e
  have g1:(upd (upd (upd H1 P (.tbl (#[rawInt p1.line,rawInt p1.col,.ref a]++#[rawInt p2.line,rawInt p2.col,.ref b]))) b (C9 b ob)) f2 (C9 f2 (m2 d2 b Um))) P=some (.tbl #[rawInt p1.line,rawInt p1.col,.ref a,rawInt p2.line,rawInt p2.col,.ref b]):=by
   rw [A8 zW,A8 zV,A6];rfl
  have g2:(upd (upd (upd H1 P (.tbl (#[rawInt p1.line,rawInt p1.col,.ref a]++#[rawInt p2.line,rawInt p2.col,.ref b]))) b (C9 b ob)) f2 (C9 f2 (m2 d2 b Um))) b=some (C9 b ob):=by
   rw [A8 (Ne.symm k4),A6]
  have g3:=s2 _ _ e2 (Ne.symm wJ);have g4:=s2 _ _ e3 (Ne.symm wK);exact q f1 f2 a b oa ob LB Um d1 d2 _ (s1.trans s2) (.inr ⟨a,b,oa,ob,g1,g3,h1,g2,k1⟩) g3 h1 g2 k1 g4 A6
 ·refine .inr ⟨_,a,z1,trivial,?_,λf1 LB d1 h1=>?_⟩
  ·show codeAmong p1 [rawInt p1.line,rawInt p1.col,.ref a,rawInt p2.line,rawInt p2.col,.ref b]=some (.ref a);simp [codeAmong,rawInt]
  have s1:A9 H (upd H f1 (C9 f1 (m1 d1 a LB))):=A9.new h1;have e1:(upd H f1 (C9 f1 (m1 d1 a LB))) f1=some (C9 f1 (m1 d1 a LB)):=A6;generalize upd H f1 (C9 f1 (m1 d1 a LB))=H1 at s1 e1 ⊢;refine .inr ⟨_,b,s1 _ _ z1,trivial,?_,λf2 Um d2 k1=>?_⟩
  ·show codeAmong p2 [rawInt p1.line,rawInt p1.col,.ref a,rawInt p2.line,rawInt p2.col,.ref b]=some (.ref b);simp only [codeAmong,rawInt];rw [if_neg,if_pos (by simp)];intro z;simp only [Bool.and_eq_true,beq_iff_eq] at z;exact ne' ⟨(),()⟩
  have s2:A9 H1 (upd H1 f2 (C9 f2 (m2 d2 b Um))):=A9.new k1;have Fd:=s1.trans s2;exact q f1 f2 a b oa ob LB Um d1 d2 _ (BV.of Fd) (.inr ⟨a,b,oa,ob,Fd _ _ z1,Fd _ _ z2,z3,Fd _ _ z4,z5⟩) (Fd _ _ z2) z3 (Fd _ _ z4) z5 (s2 _ _ e1) A6
end L2
namespace K
open PySem L2 KM KS KX
section
variable {Pr:Program}{w:World}{K:W.Frag}{mg:Str->Option Value}{base:Heap}
noncomputable def NL (H H':Hp):Prop:=∀ b o,H b=some o->(∀ xs,o≠.lst xs)->H' b=some o
theorem NL.of_same (s:A9 H H'):NL H H':=λb o e _=>s b o e
theorem NL.trans (a:NL H1 H2)(b:NL H2 H3):NL H1 H3:=λc o e n=>b c o (a c o e n) n
theorem NL.put (h:H a=some (.lst xs)):NL H (upd H a (.lst ys)):=λb o e n=>by
 rw [A8]
 ·exact e
 ·intro z;subst z;rw [h] at e;exact n xs (Option.some.inj e).symm
theorem NL.abu (s:NL H H'):Ae H H':=λb xs e=>s b _ e (by intro _ z;cases z)
noncomputable def GA (ls:List Addr)(H H':Hp):Prop:=∀ b o,H b=some o->b∉ls->H' b=some o
theorem GA.of_same (s:A9 H H'):GA ls H H':=λb o e _=>s b o e
theorem GA.trans (a:GA ls H1 H2)(b:GA ls H2 H3):GA ls H1 H3:=λc o e n=>b c o (a c o e n) n
theorem GA.put (h:a∈ls):GA ls H (upd H a o):=λb o e n=>by
 rw [A8]
 ·exact e
 ·intro z;subst z;exact n h
section
variable {α:Type}{kids:α->List α}{sz:α->Nat}{At:Hp->α->V->Prop}
noncomputable def MO (kids:α->List α)(At:Hp->α->V->Prop)(ls:List Addr)(H0 H:Hp)(s:α)(u:V):Prop:=∃ p q x ws,u=.ref p/\H p=some (.tup [x,.ref q])/\At H s x/\H q=some (.lst ws)/\Paired (At H) (kids s) ws/\q∉ls/\H0 q=none
noncomputable def XI (At:Hp->α->V->Prop):Prop:=∀ (H H':Hp) (d:α) (x:V),NL H H'->At H d x->At H' d x
theorem XI.at (mo:XI At)(s:NL H H')(h:At H d x):At H' d x:=mo _ _ _ _ s h
theorem MO.mono (mo:XI At)(s:NL H H')(b:GA ls H H')(h:MO kids At ls H0 H sc u):MO kids At ls H0 H' sc u:=by
 obtain ⟨p,q,x,ws,h1,h2,h3,h4,h5,h6,h7⟩:=h;exact ⟨p,q,x,ws,h1,s _ _ h2 (by intro _ z;cases z),mo.at s h3,b _ _ h4 h6,Paired.aag h5 λ_ _ z=>mo.at s z,h6,h7⟩
noncomputable def SU (Pr:Program)(w:World)(K:W.Frag)(mg:Str->Option Value)(base:Heap)(kids:α->List α)(At:Hp->α->V->Prop)(H:Hp)(f:Addr):Prop:=∃ fd p sp,Aq Pr w K mg base B5 4 f fd [p] sp/\Binds K fd [p] []/\Ug K fd f H /\
  ∀ H' d x Q',A9 H H'->At H' d x->(∀ q us XJ,A9 H' XJ->H' q=none->XJ q=some (.lst us)->Paired (At XJ) (kids d) us->Q' (.ref q) XJ)->sp [x] H' Q' E0
noncomputable def hZ (Pr:Program)(w:World)(K:W.Frag)(mg:Str->Option Value)(base:Heap)(kids:α->List α)(At R:Hp->α->V->Prop)(H:Hp)(f:Addr):Prop:=∃ fd p1 p2 sp,Aq Pr w K mg base B5 5 f fd [p1,p2] sp/\Binds K fd [p1,p2] []/\Ug K fd f H /\
  ∀ H' d x l ms Q',A9 H H'->At H' d x->H' l=some (.lst ms)->Paired (R H') (kids d) ms->(∀ r XJ,A9 H' XJ->R XJ d r->Q' r XJ)->sp [x,.ref l] H' Q' E0
end
noncomputable def MP (Pr:Program)(w:World)(K:W.Frag)(mg:Str->Option Value)(base:Heap):Sp:=λvs H Q _=>∃ (α:Type) (kids:α->List α) (sz:α->Nat) (At:Hp->α->V->Prop) (sc:α) (v:V) (fP:Addr),vs=[v,.ref fP]/\(∀ t,KG.szs sz (kids t)+1=sz t)/\XI At/\At H sc v/\sz sc<=500000/\SU Pr w K mg base kids At H fP/\∀ l us H',A9 H H'->H l=none->H' l=some (.lst us)->Paired (MO kids At [l] H H') (KG.P kids sz [sc]) us->Q (.ref l) H'
theorem L5:Ai ["top","parts_of","found","waiting","one","parts"] ["top","parts_of"] (A5 Zj):=nofun
theorem VX (F:Cd K "all_within" "all_within" Zj f fd)(Dc:mg "list"=none)(BL:mg "reversed"=none):
  Aq Pr w K mg base B5 5 f fd ["top","parts_of"] (MP Pr w K mg base):=by
 refine F.okS L5 (λvs H Q E h=>?_) (λBf A outer s H vs Q E hr h=>?_)
 ·obtain ⟨α,kids,sz,At,sc,v,fP,rfl,_⟩:=h;rfl
 ·obtain ⟨α,kids,sz,At,sc,v,fP,rfl,hs,mo,ht,wL,⟨dq,pP,wM,GP,bP,cP,hP⟩,k⟩:=h;refine ⟨_,(A3 (Al (i:=2) L5.nd rfl (.inl rfl) (Bi A2))
   (A3 (Al (i:=3) L5.nd rfl (.inl rfl) (Bi (A1 (Aa 0) A2)))
   (A3 (Gr PassesOwn.never (Bz (Aa 3)) (A3 (Al (i:=4) L5.nd rfl (.inl rfl) (DP PySem.F.plainAttrs_list PySem.F.slot_list_pop PySem.F.type_list_pop DJ (Aa 3)))
   (A3 (Al (i:=5) L5.nd rfl (.inl rfl) (NU GP hr bP (i:=1) rfl (.inl rfl) (A1 (Aa 4) A2)))
   (A3 (Bm (Fv PySem.F.plainAttrs_list PySem.F.slot_list_append PySem.F.type_list_append Bp (Aa 2) (A1 (Ah (A1 (Aa 4) (A1 (Aa 5) A2))) A2)))
   (Ac (Bm (Fv PySem.F.plainAttrs_list PySem.F.slot_list_extend PySem.F.type_list_extend Fp (Aa 3) (A1 (MG rfl rfl Dc rfl BL (A1 (Aa 5) A2)) A2))))))))
   (Ac (Ak (Aa 2)))))),?_⟩
  have zX:=KG.P_one hs sc;apply C1 (Dm (Nat.le_of_ble_eq_true rfl)) λlf H1 dj s1 e1=>?_;apply C1 (Dm (Nat.le_of_ble_eq_true rfl)) λlw H2 L3 s2 e2=>?_;left;have BG:=s1.trans s2;have qU:lf≠lw:=Af e1 L3;have wN:H lw=none:=s1.free L3;refine ⟨λm σ' H'=>∃ fs ws pt pp ts ds,σ'=[some v,some (.ref fP),some (.ref lf),some (.ref lw),pt,pp]/\m=KG.szs sz ds/\A9 H H'/\H' lf=some (.lst fs)/\H' lw=some (.lst ws)/\Paired (MO kids At [lf,lw] H H') ts fs/\Paired (At H') ds ws.reverse/\ts++KG.P kids sz ds=KG.P kids sz [sc],
   ⟨KG.szs sz [sc],[],[v],none,none,[],[sc],rfl,rfl,BG,s2 _ _ e1,e2,.nil,.cons (mo.at (NL.of_same BG) ht) .nil,rfl⟩,?_⟩
  rintro m σ' H' ⟨fs,ws,pt,pp,ts,ds,rfl,rfl,sm,hf,hw,kf,kw,e⟩;apply ⟨!ws.isEmpty,.inl ⟨ws,AG.of hw,rfl⟩,?_⟩;cases ds with
  | nil =>
   have MQ:ws=[]:=by
    have:=Paired.length kw;simpa using this.symm
   subst MQ;refine Ce ?_;left;rw [KG.P_nil,List.append_nil] at e;rw [e] at kf;exact k lf fs H' sm dj hf (Paired.aag kf λ_ _ z=>by
    obtain ⟨p,q,x,ws,z1,z2,z3,z4,z5,z6,z7⟩:=z;exact ⟨p,q,x,ws,z1,z2,z3,z4,z5,λy=>z6 (by rw [List.mem_singleton.mp y];exact .head _),z7⟩)
  | cons d ds =>
   have hlen:fs.length=ts.length:=(Paired.length kf).symm;have VY:ts.length+KG.szs sz (d::ds)=sz sc:=by
    have h1:=congrArg List.length e;rw [List.length_append,zX,KG.P_len hs _ (d::ds) rfl] at h1;exact h1
   obtain ⟨x,xs,hx,kx,mH⟩:∃ x xs,ws.reverse=x::xs/\At H' d x/\Paired (At H') ds xs:=by
    generalize ws.reverse=rs at kw;cases kw with
    | cons k1 k2=>exact ⟨_,_,rfl,k1,k2⟩
   have MQ:ws=xs.reverse++[x]:=by
    have:=congrArg List.reverse hx;simpa using this
   have l9:ws.length<=KG.szs sz (d::ds):=by
    have h1:=KG.aa8 hs (d::ds);have h2:ws.length=(d::ds).length:=by
     have:=Paired.length kw;simpa using this.symm
    omega
   have ne:(!ws.isEmpty)=true:=(by rw [MQ];simp);rw [ne];refine C5 ⟨fun σ' H'=>∃ m',m' < KG.szs sz (d::ds)/\∃ fs ws pt pp ts ds,σ'=[some v,some (.ref fP),some (.ref lf),some (.ref lw),pt,pp]/\m'=KG.szs sz ds/\A9 H H'/\H' lf=some (.lst fs)/\H' lw=some (.lst ws)/\Paired (MO kids At [lf,lw] H H') ts fs/\Paired (At H') ds ws.reverse/\ts++KG.P kids sz ds=KG.P kids sz [sc],fun σ' H' q=>q,?_⟩;apply ⟨.inl ⟨rfl,_,AG.of hw⟩,lw,ws,x,rfl,rfl,hw,by rw [MQ];simp,?_⟩;have wO:NL H' (upd H' lw (.lst ws.dropLast)):=NL.put hw;have zY:GA [lf,lw] H' (upd H' lw (.lst ws.dropLast)):=GA.put (by simp);have Uh:A9 H (upd H' lw (.lst ws.dropLast)):=A9.put sm wN;have wQ:(upd H' lw (.lst ws.dropLast)) lf=some (.lst fs):=(by rw [A8 qU];exact hf);have gV:(upd H' lw (.lst ws.dropLast)) lw=some (.lst ws.dropLast):=A6;generalize upd H' lw (.lst ws.dropLast)=H3 at *;left;have wR:Ug K dq fP H3:=cP.mono λb φ z=>Uh b _ z;refine ⟨rfl,wR,_,rfl,wR,hP H3 d x _ Uh (mo.at wO kx) λq us H4 s4 i3 hq kq=>?_⟩;have wU:=s4 _ _ wQ;have zZ:=s4 _ _ gV;have i4:A9 H H4:=Uh.trans s4;have gD:us.length=(kids d).length:=(Paired.length kq).symm;have hkl:=KG.abd hs d;have dC:sz d<=KG.szs sz (d::ds):=(by simp only [KG.szs];omega);apply ⟨.inl ⟨rfl,_,AG.of wU⟩,?_⟩;apply C1 (Dm (Nat.le_of_ble_eq_true rfl)) λp H5 dD s5 e5=>?_;have wV:=s5 _ _ wU;have hw5:=s5 _ _ zZ;have dE:=i4.trans s5;refine ⟨lf,fs,.ref p,rfl,rfl,wV,Bx (),?_⟩;have dF:NL H5 (upd H5 lf (.lst (fs++[.ref p]))):=NL.put wV;have wW:GA [lf,lw] H5 (upd H5 lf (.lst (fs++[.ref p]))):=GA.put (by simp);have qV:A9 H (upd H5 lf (.lst (fs++[.ref p]))):=A9.put dE dj;have wX:(upd H5 lf (.lst (fs++[.ref p]))) lw=some (.lst ws.dropLast):=(by rw [A8 (Ne.symm qU)];exact hw5);have hf6:(upd H5 lf (.lst (fs++[.ref p]))) lf=some (.lst (fs++[.ref p])):=A6;generalize upd H5 lf (.lst (fs++[.ref p]))=H6 at *;have qW:q∉[lf,lw]:=λz=>by
    simp only [List.mem_cons,List.not_mem_nil,or_false] at z;rcases z with z | z
    ·rw [z,wQ] at i3;cases i3
    ·rw [z,gV] at i3;cases i3
   have hq6:H6 q=some (.lst us):=wW _ _ (s5 _ _ hq) qW;apply ⟨.inl ⟨rfl,_,AG.of wX⟩,?_⟩;apply ⟨q,us,rfl,AG.of hq6,(),λl hl=>?_⟩;have s7:A9 H6 (upd H6 l (.lst us.reverse)):=A9.new hl;have e7:(upd H6 l (.lst us.reverse)) l=some (.lst us.reverse):=A6;have sm7:=qV.trans s7;generalize upd H6 l (.lst us.reverse)=H7 at *;have wY:=s7 _ _ wX;have qX:=s7 _ _ hf6;refine ⟨lw,l,ws.dropLast,us.reverse,rfl,rfl,wY,e7,by rw [List.length_dropLast,List.length_reverse];exact Dm (),?_⟩;have wZ:NL H7 (upd H7 lw (.lst (ws.dropLast++us.reverse))):=NL.put wY;have bt8:GA [lf,lw] H7 (upd H7 lw (.lst (ws.dropLast++us.reverse))):=GA.put (by simp);have ax:NL H4 (upd H7 lw (.lst (ws.dropLast++us.reverse))):=(NL.of_same s5).trans (dF.trans ((NL.of_same s7).trans wZ));have i5:GA [lf,lw] H4 (upd H7 lw (.lst (ws.dropLast++us.reverse))):=(GA.of_same s5).trans (wW.trans ((GA.of_same s7).trans bt8));have qY:NL H' (upd H7 lw (.lst (ws.dropLast++us.reverse))):=wO.trans ((NL.of_same s4).trans ax);have btA:GA [lf,lw] H' (upd H7 lw (.lst (ws.dropLast++us.reverse))):=zY.trans ((GA.of_same s4).trans i5);refine ⟨KG.szs sz (kids d++ds),?_,fs++[.ref p],ws.dropLast++us.reverse,_,_,ts++[d],kids d++ds,rfl,rfl,A9.put sm7 wN,?_,A6,?_,?_,?_⟩
   ·have:=KG.aat hs d ds;show KG.szs sz (KG.nxt kids (d::ds)) < _;omega
   ·rw [A8 qU];exact qX
   ·refine Paired.app (Paired.aag kf λ_ _ z=>z.mono mo qY btA) (.cons ⟨p,q,x,us,rfl,wZ _ _ (s7 _ _ (dF _ _ e5 (by intro _ z;cases z))) (by intro _ z;cases z),mo.at qY kx,i5 _ _ hq qW,Paired.aag kq λ_ _ z=>mo.at ax z,qW,Uh.free i3⟩ .nil)
   ·have e1:(ws.dropLast++us.reverse).reverse=us++xs:=(by rw [MQ];simp);rw [e1];exact Paired.app (Paired.aag kq λ_ _ z=>mo.at ax z) (Paired.aag mH λ_ _ z=>mo.at qY z)
   ·rw [<- e,KG.P_cons hs];simp
noncomputable def HI (Pr:Program)(w:World)(K:W.Frag)(mg:Str->Option Value)(base:Heap):Sp:=λvs H Q _=>∃ (α:Type) (kids:α->List α) (sz:α->Nat) (At R:Hp->α->V->Prop) (sc:α) (v:V) (fP fm:Addr),vs=[v,.ref fP,.ref fm]/\(∀ t,KG.szs sz (kids t)+1=sz t)/\XI At/\XI R/\At H sc v/\sz sc<=500000/\SU Pr w K mg base kids At H fP/\hZ Pr w K mg base kids At R H fm/\∀ r H',A9 H H'->R H' sc r->Q r H'
theorem SV:Ai ["top","parts_of","make","pile","one","parts","made"] ["top","parts_of","make"] (A5 Hk):=nofun
theorem ay (F:Cd K "built" "built" Hk f fd)(BL:mg "reversed"=none)(cA:Cl Pr w K mg base 5 "all_within" ["top","parts_of"] (MP Pr w K mg base)):
  Aq Pr w K mg base B5 6 f fd ["top","parts_of","make"] (HI Pr w K mg base):=by
 refine F.okS SV (λvs H Q E h=>?_) (λBf A outer s H vs Q E hr h=>?_)
 ·obtain ⟨α,kids,sz,At,R,sc,v,fP,fm,rfl,_⟩:=h;rfl
 ·obtain ⟨α,kids,sz,At,R,sc,v,fP,fm,rfl,hs,mo,dG,ht,wL,PO,⟨fdM,p1,p2,spM,GM,bM,cM,hM⟩,k⟩:=h;have G0:Ar 5 _:=hr;have Sc0:AY (Cr B5 Pr w K mg base ["top","parts_of","make","pile","one","parts","made"] "built" (A5 Hk) f Bf A outer s H E).nox (Bt (valueOf (fH (inDef Hk 1) 0))) [("pile",s.heap.objs.size+1)] ["part"] ["pile"] [3] :=
   ⟨rfl,by decide +kernel,rfl,by decide +kernel,rfl,rfl,rfl,rfl⟩
  have HD:(["part","pile"]:List Str).Nodup:=by decide +kernel
  refine ⟨_,(A3 (Al (i:=3) SV.nd rfl (.inr rfl) (Bi A2))
   (A3 (F' PassesOwn.never rfl (Xj rfl BL (A1 (Ay cA hr rfl (A1 (Aa 0) (A1 (Aa 1) A2))) A2)) (Hh rfl (Bu (AQ (i:=4) SV.nd rfl (.inl rfl)) (Bu (AQ (i:=5) SV.nd rfl (.inl rfl)) EF))) (A3 (Fx (i:=6) SV.nd rfl (.inl rfl) (tt:=G7) (te:=QW K "list" YR (B9 1)) Sc0 rfl (DS (Aa 5)) (λC s0 H0 ex=>AQ (i:=0) HD rfl (.inl rfl)) (λ_ _ _ _=>En) (λC s0 H0 ex=>DP PySem.F.plainAttrs_list PySem.F.slot_list_pop PySem.F.type_list_pop DJ (Aa 1))) (Ac (Bm (Fv PySem.F.plainAttrs_list PySem.F.slot_list_append PySem.F.type_list_append Bp (Aa 3) (A1 (NU GM G0 bM (i:=2) rfl (.inl rfl) (A1 (Aa 4) (A1 (Aa 6) A2))) A2))))))
   (Ac (Ak (DP PySem.F.plainAttrs_list PySem.F.slot_list_pop PySem.F.type_list_pop DJ (Aa 3)))))),?_⟩
  apply C1 (Dm ⟨⟩) λpl H1 Ck s1 e1=>?_;apply ⟨α,kids,sz,At,sc,v,fP,rfl,hs,mo,mo.at (NL.of_same s1) ht,wL,?_,λla us H2 s2 i6 x5 xa=>?_⟩
  ·obtain ⟨dq,pP,wM,GP,bP,cP,hP⟩:=PO;exact ⟨dq,pP,wM,GP,bP,cP.mono λb φ z=>s1 b _ z,λH' d x Q' z=>hP H' d x Q' (s1.trans z)⟩
  refine ⟨la,us,rfl,AG.of x5,?_⟩;have hP:=KG.P_one hs sc;have hn:us.length=sz sc:=by rw [<- hP];exact (Paired.length xa).symm
  have Ji:=KG.aa5 hs sc;have m8:la≠pl:=λz=>by rw [z,e1] at i6;cases i6
  have BG:=s1.trans s2;have hFo:KG.Fo kids [sc] us.length=[]:=by
   have:=KG.Fo_end hs [sc];rw [show KG.szs sz [sc]=us.length by rw [hn];simp [KG.szs]] at this;exact this
  refine NP (K:=K) (a:=la) (xs:=us) (λi σ H2=>∃ ps pt pp md,σ=[some v,some (.ref fP),some (.ref fm),some (.ref pl),pt,pp,md]/\A9 H H2/\H2 la=some (.lst us)/\Paired (MO kids At [pl] H1 H2) (KG.P kids sz [sc]) us/\H2 pl=some (.lst ps)/\Paired (R H2) (KG.Fo kids [sc] (us.length - i)) ps.reverse)
   ⟨[],none,none,none,rfl,BG,x5,Paired.aag xa (λ_ _ z=>by
    obtain ⟨p,q,x,ws,z1,z2,z3,z4,z5,z6,z7⟩:=z;exact ⟨p,q,x,ws,z1,z2,z3,z4,z5,(λy=>by rw [List.mem_singleton.mp y,e1] at z7;cases z7),z7⟩),s2 _ _ e1,by rw [Nat.sub_zero,hFo];exact .nil⟩ (λi σ H2 _ q=>?_) (λi x σ H2 hx q=>?_) (fun σ H2 q=>?_)
  ·obtain ⟨ps,pt,pp,md,rfl,_,VZ,_⟩:=q;exact AG.of VZ
  ·obtain ⟨ps,pt,pp,md,rfl,sm,VZ,az,hp,pr⟩:=q;have hi:i < us.length:=by
    have:=(List.getElem?_eq_some_iff.mp hx).1;simpa using this
   rw [List.getElem?_reverse hi] at hx;obtain ⟨d,hd,kx⟩:=Paired.at az hx;obtain ⟨r,f1,f2⟩:=KG.Fo_step hs hd;have ej:us.length - 1 - i+1=us.length - i:=(by omega);rw [ej] at f2;rw [f2] at pr;obtain ⟨ms,rest,NR,pm,XM⟩:=Paired.split pr;have ZU:ms.length=(kids d).length:=(Paired.length pm).symm;have dC:(kids d).length < sz sc:=by
    have h1:=KG.abd hs d;have h2:=KG.P_mem_sz hs _ [sc] d rfl (List.mem_of_getElem? hd);simp [KG.szs] at h2;omega
   obtain ⟨p,q,x,LA,rfl,Ec,kx,hq,kq,qZ,_⟩:=kx;have qZ:q≠pl:=(by simpa using qZ);have gD:LA.length=ms.length:=(by rw [ZU];exact (Paired.length kq).symm);refine ⟨p,_,rfl,Ba.of Ec,rfl,_,_,rfl,_,_,rfl,rfl,?_⟩;apply ⟨q,rfl,⟨_,AG.of hq⟩,?_⟩;refine F5 (K:=K) (a:=q) (xs:=LA) (λj ys H3=>ys=ms.take j/\H3 pl=some (.lst ((ms.drop j++rest).reverse))/\∀ b,b≠pl->H3 b=H2 b) ⟨rfl,?_,λ_ _=>rfl⟩ (λj ys H3 z=>?_) (by exact Bx ()) (λj ys H3 z=>?_) rfl (λj x' ys H3 HV z=>?_) (λys H3 z=>?_)
   ·rw [hp,List.drop_zero,<- NR,List.reverse_reverse]
   ·refine AG.of ?_;rw [z.2.2 _ qZ];exact hq
   ·rw [z.1];exact List.length_take_le _ _
   ·obtain ⟨i7,dH,mI⟩:=z;have Xl:j < ms.length:=by
     have:=(List.getElem?_eq_some_iff.mp HV).1;omega
    have XN:ms.drop j++rest=ms[j]::(ms.drop (j+1)++rest):=(by rw [List.drop_eq_getElem_cons Xl];rfl);apply C5 ?_;apply ⟨.inl ⟨rfl,_,AG.of dH⟩,pl,_,ms[j],rfl,rfl,dH,by rw [XN];exact rev_last _ _,?_⟩;refine Nx.mk () ⟨?_,?_,λb hb=>?_⟩
    ·rw [i7,List.take_succ,List.getElem?_eq_getElem Xl];rfl
    ·rw [A6,XN];simp
    ·rw [A8 hb];exact mI b hb
   ·obtain ⟨i7,dH,mI⟩:=z;have ety:ys=ms:=(by rw [i7,gD,List.take_length]);have ed:ms.drop LA.length=[]:=(by rw [gD,List.drop_length]);rw [ed,List.nil_append] at dH;refine C1 (Nat.zero_le _) λa H4 ha s4 e4=>?_;have i8:GA [pl] H2 H4:=λb o e n=>s4 _ _ (by rw [mI b (by simpa using n)];exact e);have aA:NL H2 H4:=λb o e n=>by
     by_cases hb:b=pl
     ·subst hb;rw [hp] at e;exact absurd (Option.some.inj e).symm (n _)
     ·exact s4 _ _ (by rw [mI b hb];exact e)
    have i4:A9 H H4:=λb o e=>i8 b o (sm b o e) (by simp;exact Af e Ck);have i9:=s4 _ _ dH;have npa:pl≠a:=Af dH ha;apply ⟨.inl ⟨rfl,_,AG.of i9⟩,?_⟩;left;subst ety;have xb:Ug K fdM fm H4:=cM.mono λb φ z=>i4 b _ z;refine ⟨rfl,xb,_,rfl,_,rfl,xb,hM H4 d x a _ _ i4 (mo.at aA kx) e4 (Paired.aag pm λ_ _ z=>dG.at aA z) λlr H5 s5 ok5=>?_⟩;have hrl:rest.length<=sz sc:=by
     have h1:=KG.Fo_size hs (us.length - 1 - i) [sc];have h2:=KG.aa8 hs (KG.Fo kids [sc] (us.length - 1 - i));rw [f1] at h1 h2;have h3:rest.length=r.length:=(Paired.length XM).symm;simp [KG.szs] at h1 h2;omega
    have dD:H5 pl=some (.lst rest.reverse):=s5 _ _ i9;refine ⟨pl,rest.reverse,lr,rfl,rfl,dD,by rw [List.length_reverse];exact Bx (),?_⟩;have ie:NL H5 (upd H5 pl (.lst (rest.reverse++[lr]))):=NL.put dD;have r6:GA [pl] H5 (upd H5 pl (.lst (rest.reverse++[lr]))):=GA.put (by simp);have ig:=aA.trans ((NL.of_same s5).trans ie);have ik:=i8.trans ((GA.of_same s5).trans r6);refine ⟨rest.reverse++[lr],_,_,_,rfl,A9.put (i4.trans s5) Ck,?_,Paired.aag az λ_ _ z=>z.mono mo ig ik,A6,?_⟩
    ·exact ik _ _ VZ (by simpa using m8)
    ·have e5:us.length - (i+1)=us.length - 1 - i:=(by omega);rw [e5,f1];have e6:(rest.reverse++[lr]).reverse=lr::rest:=(by simp);rw [e6];exact .cons (dG.at ie ok5) (Paired.aag XM λ_ _ z=>dG.at ig z)
  ·obtain ⟨ps,pt,pp,md,rfl,sm,VZ,az,hp,pr⟩:=q;rw [Nat.sub_self] at pr;have pr:Paired (R H2) [sc] ps.reverse:=pr;obtain ⟨r,NR,DA⟩:=Cw pr;have NR:ps=[r]:=by
    have:=congrArg List.reverse NR;simpa using this
   subst NR;apply ⟨.inl ⟨rfl,_,AG.of hp⟩,pl,_,r,rfl,rfl,hp,rfl,?_⟩;exact k r _ (A9.put sm Ck) (dG.at (NL.put hp) DA)
end
end K
namespace KX
open PySem Ex
namespace Ex
noncomputable def fv (xs:List Str):Ex->List Str
 | nm x=>if x∈xs then [] else [x]
 | num _ | tru _ | emp=>[]
 | fn x b=>fv (x::xs) b | rc f x b=>fv (x::f::xs) b | cal a b=>fv xs a++fv xs b | lt x a b=>fv xs a++fv (x::xs) b | wh a b c=>fv xs a++(fv xs b++fv xs c) | pr a b=>fv xs a++fv xs b
 | opn a x y b=>fv xs a++fv (y::x::xs) b | lk a b=>fv xs a++fv xs b | spl a b x y c=>fv xs a++(fv xs b++fv (y::x::xs) c) | op _ a b=>fv xs a++fv xs b
end Ex
theorem G5 {σ τ:Su}{xs:List Str}(x:Str)(h:∀ y∈xs,σ y=none/\τ y=none):∀ y∈x::xs,σ.rm x y=none/\τ.rm x y=none:=λy hy=>⟨BX x (λy hy=>(h y hy).1) y hy,BX x (λy hy=>(h y hy).2) y hy⟩
theorem BH {e:Ex}:∀ {xs:List Str} {y:Str},y∈e.fv xs->y∉xs:=by
 induction e with
 | nm x=>intro xs y h;simp only [fv] at h;split at h <;> simp at h;rename_i q;exact h▸q
 | num _ | tru _ | emp=>intro xs y h;simp [fv] at h
 | fn x b ih=>intro xs y h q;exact ih h (.tail _ q)
 | rc f x b ih=>intro xs y h q;exact ih h (.tail _ (.tail _ q))
 | cal a b ia ib | pr a b ia ib | lk a b ia ib=>intro xs y h;rcases List.mem_append.mp h with h | h;(exact ia h);(exact ib h)
 | op o a b ia ib=>intro xs y h;rcases List.mem_append.mp h with h | h;(exact ia h);(exact ib h)
 | lt x a b ia ib=>intro xs y h q;rcases List.mem_append.mp h with h | h;(exact ia h q);(exact ib h (.tail _ q))
 | opn a x z b ia ib=>intro xs y h q;rcases List.mem_append.mp h with h | h;(exact ia h q);(exact ib h (.tail _ (.tail _ q)))
 | wh a b c ia ib ic=>intro xs y h;rcases List.mem_append.mp h with h | h;exact ia h;rcases List.mem_append.mp h with h | h;(exact ib h);(exact ic h)
 | spl a b x z c ia ib ic=>intro xs y h q;rcases List.mem_append.mp h with h | h;exact ia h q;rcases List.mem_append.mp h with h | h;(exact ib h q);(exact ic h (.tail _ (.tail _ q)))
theorem aB:∀ {xs:List Str} {σ τ:Su},(∀ y∈xs,σ y=none/\τ y=none)->(∀ y∈e.fv xs,σ y=τ y)->sub σ e=sub τ e:=by
 have r1:∀ {b:Ex} {xs:List Str} {σ τ:Su} (x:Str),(∀ y∈b.fv (x::xs),σ y=τ y)->∀ y∈b.fv (x::xs),σ.rm x y=τ.rm x y:=by
  intro b xs σ τ x h y hy;simp only [Su.rm];split
  ·rfl
  ·exact h y hy
 induction e with
 | nm x =>
  intro xs σ τ h g;simp only [sub];by_cases q:x∈xs
  ·rw [(h x q).1,(h x q).2]
  ·rw [g x (by simp [fv,q])]
 | num _ | tru _ | emp=>intros;rfl
 | fn x b ih=>intro xs σ τ h g;simp only [sub];rw [ih (G5 x h) (r1 x g)]
 | rc f x b ih =>
  intro xs σ τ h g;simp only [sub];rw [ih (G5 x (G5 f h)) (r1 x λy hy=>?_)];simp only [Su.rm];split
  ·rfl
  ·exact g y hy
 | cal a b ia ib | pr a b ia ib | lk a b ia ib=>intro xs σ τ h g;simp only [sub];rw [ia h λy hy=>g y (List.mem_append_left _ hy),ib h λy hy=>g y (List.mem_append_right _ hy)]
 | op o a b ia ib=>intro xs σ τ h g;simp only [sub];rw [ia h λy hy=>g y (List.mem_append_left _ hy),ib h λy hy=>g y (List.mem_append_right _ hy)]
 | lt x a b ia ib=>intro xs σ τ h g;simp only [sub];rw [ia h λy hy=>g y (List.mem_append_left _ hy),ib (G5 x h) (r1 x λy hy=>g y (List.mem_append_right _ hy))]
 | wh a b c ia ib ic =>
  intro xs σ τ h g;simp only [sub];rw [ia h λy hy=>g y (List.mem_append_left _ hy),ib h λy hy=>g y (List.mem_append_right _ (List.mem_append_left _ hy)),ic h λy hy=>g y (List.mem_append_right _ (List.mem_append_right _ hy))]
 | opn a x z b ia ib =>
  intro xs σ τ h g;simp only [sub];rw [ia h λy hy=>g y (List.mem_append_left _ hy),ib (G5 z (G5 x h)) (r1 z λy hy=>?_)];simp only [Su.rm];split
  ·rfl
  ·exact g y (List.mem_append_right _ hy)
 | spl a b x z c ia ib ic =>
  intro xs σ τ h g;simp only [sub];rw [ia h λy hy=>g y (List.mem_append_left _ hy),ib h λy hy=>g y (List.mem_append_right _ (List.mem_append_left _ hy)),ic (G5 z (G5 x h)) (r1 z λy hy=>?_)];simp only [Su.rm];split
  ·rfl
  ·exact g y (List.mem_append_right _ (List.mem_append_right _ hy))
theorem il {e:Ex}:∀ {xs zs:List Str},e.cl zs->∀ y∈e.fv xs,y∈zs:=by
 have t1:∀ {x y:Str} {zs:List Str} {b:Ex} {xs:List Str},y∈b.fv (x::xs)->y∈x::zs->y∈zs:=λh g=>(List.mem_cons.mp g).resolve_left λq=>BH h (q▸.head _)
 induction e with
 | nm x=>intro xs zs c y h;simp only [fv] at h;split at h <;> simp at h;exact h▸c
 | num _ | tru _ | emp=>intro xs zs c y h;simp [fv] at h
 | fn x b ih=>intro xs zs c y h;exact t1 h (ih c y h)
 | rc f x b ih=>intro xs zs c y h;exact (List.mem_cons.mp (t1 h (ih c y h))).resolve_left λq=>BH (e:=b) (xs:=x::f::xs) h (by subst q;simp)
 | cal a b ia ib | pr a b ia ib | lk a b ia ib=>intro xs zs c y h;rcases List.mem_append.mp h with h | h;(exact ia c.1 y h);(exact ib c.2 y h)
 | op o a b ia ib=>intro xs zs c y h;rcases List.mem_append.mp h with h | h;(exact ia c.1 y h);(exact ib c.2 y h)
 | lt x a b ia ib=>intro xs zs c y h;rcases List.mem_append.mp h with h | h;(exact ia c.1 y h);(exact t1 h (ib c.2 y h))
 | wh a b d ia ib ic=>intro xs zs c y h;rcases List.mem_append.mp h with h | h;exact ia c.1 y h;rcases List.mem_append.mp h with h | h;(exact ib c.2.1 y h);(exact ic c.2.2 y h)
 | opn a x z b ia ib=>intro xs zs c y h;rcases List.mem_append.mp h with h | h;exact ia c.1 y h;exact (List.mem_cons.mp (t1 h (ib c.2 y h))).resolve_left λq=>BH h (by subst q;simp)
 | spl a b x z d ia ib ic=>intro xs zs c y h;rcases List.mem_append.mp h with h | h;exact ia c.1 y h;rcases List.mem_append.mp h with h | h;exact ib c.2.1 y h;exact (List.mem_cons.mp (t1 h (ic c.2.2 y h))).resolve_left λq=>BH h (by subst q;simp)
theorem XO {e:Ex}:∀ {xs:List Str},(e.fv xs).length<=e.sz:=by
 induction e with
 | nm x=>intro xs;simp only [fv,sz];split <;> simp
 | num _ | tru _ | emp=>intro xs;simp [fv]
 | fn x b ih=>intro xs;have:=@ih (x::xs);simp only [fv,sz];omega
 | rc f x b ih=>intro xs;have:=@ih (x::f::xs);simp only [fv,sz];omega
 | cal a b ia ib | pr a b ia ib | lk a b ia ib=>intro xs;have:=@ia xs;have:=@ib xs;simp only [fv,sz,List.length_append];omega
 | op o a b ia ib=>intro xs;have:=@ia xs;have:=@ib xs;simp only [fv,sz,List.length_append];omega
 | lt x a b ia ib=>intro xs;have:=@ia xs;have:=@ib (x::xs);simp only [fv,sz,List.length_append];omega
 | wh a b c ia ib ic=>intro xs;have:=@ia xs;have:=@ib xs;have:=@ic xs;simp only [fv,sz,List.length_append];omega
 | opn a x y b ia ib=>intro xs;have:=@ia xs;have:=@ib (y::x::xs);simp only [fv,sz,List.length_append];omega
 | spl a b x y c ia ib ic=>intro xs;have:=@ia xs;have:=@ib xs;have:=@ic (y::x::xs);simp only [fv,sz,List.length_append];omega
theorem aD:∀ {xs:List Str} {ρ:Dn} {y:Str},y∈e.fv xs->ρ y<=dep ρ e:=by
 have u1:∀ {ρ:Dn} {x y:Str} {n:Nat} {b:Ex} {xs:List Str},y∈b.fv (x::xs)->ρ.up x n y=ρ y:=λ{ρ x y n b xs} h=>by
  simp only [Dn.up];rw [if_neg λq:y=x=>BH h (q▸.head _)]
 have u2:∀ {ρ:Dn} {x z y:Str} {n m:Nat} {b:Ex} {xs:List Str},y∈b.fv (z::x::xs)->(ρ.up x n).up z m y=ρ y:=λ{ρ x z y n m b xs} h=>by
  simp only [Dn.up];rw [if_neg λq:y=z=>BH h (q▸.head _),if_neg λq:y=x=>BH h (q▸.tail _ (.head _))]
 induction e with
 | nm x=>intro xs ρ y h;simp only [fv] at h;split at h <;> simp at h;subst h;exact Nat.le_refl _
 | num _ | tru _ | emp=>intro xs ρ y h;simp [fv] at h
 | fn x b ih=>intro xs ρ y h;have:=ih (ρ:=ρ.up x 0) h;rw [u1 h] at this;simp only [dep];omega
 | rc f x b ih=>intro xs ρ y h;have:=ih (ρ:=(ρ.up f 0).up x 0) h;rw [u2 h] at this;simp only [dep];omega
 | cal a b ia ib | pr a b ia ib | lk a b ia ib=>intro xs ρ y h;simp only [dep];rcases List.mem_append.mp h with h | h;(have:=ia (ρ:=ρ) h;omega);(have:=ib (ρ:=ρ) h;omega)
 | op o a b ia ib=>intro xs ρ y h;simp only [dep];rcases List.mem_append.mp h with h | h;(have:=ia (ρ:=ρ) h;omega);(have:=ib (ρ:=ρ) h;omega)
 | lt x a b ia ib=>intro xs ρ y h;simp only [dep];rcases List.mem_append.mp h with h | h;(have:=ia (ρ:=ρ) h;omega);(have:=ib (ρ:=ρ.up x (dep ρ a)) h;rw [u1 h] at this;omega)
 | wh a b c ia ib ic=>intro xs ρ y h;simp only [dep];rcases List.mem_append.mp h with h | h;(have:=ia (ρ:=ρ) h;omega);rcases List.mem_append.mp h with h | h;(have:=ib (ρ:=ρ) h;omega);(have:=ic (ρ:=ρ) h;omega)
 | opn a x z b ia ib=>intro xs ρ y h;simp only [dep];rcases List.mem_append.mp h with h | h;(have:=ia (ρ:=ρ) h;omega);(have:=ib (ρ:=(ρ.up x (dep ρ a)).up z (dep ρ a)) h;rw [u2 h] at this;omega)
 | spl a b x z c ia ib ic=>intro xs ρ y h;simp only [dep];rcases List.mem_append.mp h with h | h;(have:=ia (ρ:=ρ) h;omega);rcases List.mem_append.mp h with h | h;(have:=ib (ρ:=ρ) h;omega);(have:=ic (ρ:=(ρ.up x (dep ρ a)).up z (dep ρ a)) h;rw [u2 h] at this;omega)
end KX
namespace KX
open PySem L2
noncomputable def tw:Bool->Str
 | false=>"pair"
 | true=>"link"
end KX
namespace L2
open PySem PySem.Spec PyProof.Rows KS KX
theorem Paired.last (h:Paired F (v::r).reverse vs):∃ us x,vs=us++[x]/\Paired F r.reverse us/\F v x:=by
 rw [List.reverse_cons] at h;obtain ⟨us,rest,rfl,h1,h2⟩:=Paired.split h;obtain ⟨x,rfl,hx⟩:=Cw h2;exact ⟨us,x,rfl,h1,hx⟩
section
variable {X:Cx}{k:Nat}{f C:Addr}{fd:FuncData}{ps:List Str}{sp:Sp}{m:Str}{E:XK}{o:Expr}{ta:TE}{pos apos:Pos}
theorem ip (he:SE X o ta)(c:Gi X.K C)(hm:Meth X.K C m f)(F:Aq X.prog X.w X.K X.mg X.base (lq X.prog X.w) k f fd ps sp)(hx:Passes (lq X.prog X.w) X E)(hr:Ar k X.A)(hb:Binds X.K fd ps [])(ht:eval (.Call (.Attribute o m apos) [] [] pos) X.env=(do
   let ov <- eval o X.env
   standAt apos.atName
   let (f,first) <- holding [ov] (getMethod ov m pl)
   callWith pos f first (backTo pos (starEach [] X.env)) (backToKw pos (keywordEach [] X.env))):=by rfl) :
  SE X (.Call (.Attribute o m apos) [] [] pos) (EX C m sp [] E ta DE):=⟨K8 he.out c hm F hr hb .nil hx ht⟩
end
end L2
local macro_rules | `(tactic| fail)=>`(tactic| with_reducible refine iq ?_)
namespace L2
open PySem PySem.Spec PyProof.Rows KS KX
noncomputable def Mc (Pr:Program)(w:World)(K:W.Frag)(mg:Str->Option Value)(base:Heap)(CX:K7)(C:Addr)(k:Nat)(m:Str)(ps:List Str)(sp:Sp):Prop:=∃ f fd,Aq Pr w K mg base CX k f fd ps sp/\Binds K fd ps []/\Meth K C m f
section
variable {X:Cx}{k:Nat}{C:Addr}{ps:List Str}{sp:Sp}{m:Str}{E:XK}{o e:Expr}{es:List Expr}{ta:TE}{t:TA}{pos apos:Pos}
theorem r9 (he:SE X o ta)(c:Gi X.K C)(M:Mc X.prog X.w X.K X.mg X.base B5 C k m ps sp)(hr:Ar k X.A)(ha:SA X (e::es) t)(FP:starEach (e::es) X.env=(false,eval e X.env)::starEach es X.env:=by exfalso)(Ck:(backTo pos (starEach es X.env)).any (·.1)=false:=by rfl)(ht:eval (.Call (.Attribute o m apos) (e::es) [] pos) X.env=(do
   let ov <- eval o X.env
   standAt apos.atName
   let (f,first) <- holding [ov] (getMethod ov m pl)
   callWith pos f first (backTo pos (starEach (e::es) X.env)) (backToKw pos (keywordEach [] X.env))):=by rfl) :
  SE X (.Call (.Attribute o m apos) (e::es) [] pos) (EX C m sp [] E0 ta t):=by
 obtain ⟨f,fd,F,hb,hm⟩:=M;exact Z3 he c hm F hr hb ha FP Ck ht
end
abbrev Nt:=Addr->Option RV
noncomputable def nF (d:Addr)(t:V):List (Str × V):=[("given",.ref d),("told",t)]
noncomputable def V' (H:Hp)(v:RV)(t:V):Prop:=t=.non\/∃ w,RR v w/\As H w t
inductive B' (C:Addr)(N:Nt)(H:Hp):RV->V->Prop
 | num {i:Int} {p:Addr}:H p=some (.tup [.str "number",.int i])->B' C N H (.num i) (.ref p)
 | tru {b:Bool} {p:Addr}:H p=some (.tup [.str "truth",.bl b])->B' C N H (.tru b) (.ref p)
 | emp {p:Addr}:H p=some (.tup [.str "empty"])->B' C N H .emp (.ref p)
 | fn {x:Str} {b:Ex} {E:Ev} {p n dx d:Addr} {rb t:V} {kvs:List (Key × V)}:H p=some (.tup [.str "fun",.str x,rb,.ref n])->As H b rb->H n=some (.ins C dx (nF d t))->N n=some (.fn x b E)->V' H (.fn x b E) t->H d=some (.dK kvs)->kvs.map (·.1)=E.map (λq=>(.inr q.1:Key))->(∀ (i:Nat) (q:Str × RV) (r:Key × V),E[i]?=some q->kvs[i]?=some r->B' C N H q.2 r.2)->B' C N H (.fn x b E) (.ref p)
 | rc {f x:Str} {b:Ex} {E:Ev} {p n dx d:Addr} {rb t:V} {kvs:List (Key × V)}:H p=some (.tup [.str "rec",.str f,.str x,rb,.ref n])->As H b rb->H n=some (.ins C dx (nF d t))->N n=some (.rc f x b E)->V' H (.rc f x b E) t->H d=some (.dK kvs)->kvs.map (·.1)=E.map (λq=>(.inr q.1:Key))->(∀ (i:Nat) (q:Str × RV) (r:Key × V),E[i]?=some q->kvs[i]?=some r->B' C N H q.2 r.2)->B' C N H (.rc f x b E) (.ref p)
 | two {l:Bool} {a b:RV} {p n dx d:Addr} {ra rb t:V}:H p=some (.tup [.str (tw l),ra,rb,.ref n])->H n=some (.ins C dx (nF d t))->N n=some (.two l a b)->V' H (.two l a b) t->B' C N H a ra->B' C N H b rb->B' C N H (.two l a b) (.ref p)
structure TK (C:Addr)(N:Nt)(H H':Hp):Prop where
 t:Ae H H'
 d:∀ b k,H b=some (.dK k)->H' b=some (.dK k)
 n:∀ n dx d t v,N n=some v->H n=some (.ins C dx (nF d t))->∃ t',H' n=some (.ins C dx (nF d t'))/\(t'=t\/∃ w,RR v w/\As H' w t')
noncomputable def W2 (N N':Nt):Prop:=∀ n v,N n=some v->N' n=some v
theorem V'.mono (s:Ae H H')(h:V' H v t):V' H' v t:=h.imp id λ⟨w,a,b⟩=>⟨w,a,As.mono s b⟩
theorem B'.mono (k:TK C N H H')(s:W2 N N')(h:B' C N H v r):B' C N' H' v r:=by
 have nt:∀ {n dx d:Addr} {t:V} {v:RV},H n=some (.ins C dx (nF d t))->N n=some v->V' H v t->∃ t',H' n=some (.ins C dx (nF d t'))/\V' H' v t':=by
  intro n dx d t v h1 h2 h3;obtain ⟨t',h4,h5⟩:=k.n n dx d t v h2 h1;refine ⟨t',h4,?_⟩;rcases h5 with rfl | h5
  ·exact h3.mono k.t
  ·exact .inr h5
 induction h with
 | num h=>exact .num (k.t _ _ h)
 | tru h=>exact .tru (k.t _ _ h)
 | emp h=>exact .emp (k.t _ _ h)
 | fn h1 h2 h3 h4 h5 h6 h7 _ ih=>obtain ⟨t',a,b⟩:=nt h3 h4 h5;exact .fn (k.t _ _ h1) (As.mono k.t h2) a (s _ _ h4) b (k.d _ _ h6) h7 ih
 | rc h1 h2 h3 h4 h5 h6 h7 _ ih=>obtain ⟨t',a,b⟩:=nt h3 h4 h5;exact .rc (k.t _ _ h1) (As.mono k.t h2) a (s _ _ h4) b (k.d _ _ h6) h7 ih
 | two h1 h2 h3 h4 _ _ ia ib=>obtain ⟨t',a,b⟩:=nt h2 h3 h4;exact .two (k.t _ _ h1) a (s _ _ h3) b ia ib
theorem TK.of_same (s:A9 H H'):TK C N H H':=⟨Ae.of_same s,λb k e=>s _ _ e,λn dx d t v _ e=>⟨t,s _ _ e,.inl rfl⟩⟩
theorem TK.put (h1:∀ xs,H a≠some (.tup xs))(h2:∀ k,H a≠some (.dK k))(h3:∀ dx fs,H a≠some (.ins C dx fs)):TK C N H (upd H a o):=by
 refine ⟨λb xs e=>?_,λb k e=>?_,λn dx d t v _ e=>⟨t,?_,.inl rfl⟩⟩
 ·rw [A8 (λz:b=a=>h1 xs (by rw [<- z];exact e))];exact e
 ·rw [A8 (λz:b=a=>h2 k (by rw [<- z];exact e))];exact e
 ·rw [A8 (λz:n=a=>h3 dx _ (by rw [<- z];exact e))];exact e
noncomputable def Cq (C:Addr)(N:Nt)(H:Hp)(E:Ev)(kvs:List (Key × V)):Prop:=Paired (λq r=>r.1=(.inr q.1:Key)/\B' C N H q.2 r.2) E kvs
theorem Cq.mono (k:TK C N H H')(s:W2 N N')(h:Cq C N H E kvs):Cq C N' H' E kvs:=Paired.aag h λ_ _ z=>⟨z.1,z.2.mono k s⟩
theorem Cq.keys (h:Cq C N H E kvs):kvs.map (·.1)=E.map (λq=>(.inr q.1:Key)):=by
 unfold Cq at h
 induction h with
 | nil=>rfl
 | cons a _ ih=>rw [List.map_cons,List.map_cons,ih,a.1]
theorem Cq.at' (h:Cq C N H E kvs)(i:Nat)(q:Str × RV)(r:Key × V)(h1:E[i]?=some q)(h2:kvs[i]?=some r):B' C N H q.2 r.2:=by
 obtain ⟨r',h3,h4⟩:=Paired.at1 h h1;rw [h2] at h3;cases h3;exact h4.2
theorem Cq.of {C:Addr}{N:Nt}{H:Hp}:∀ {E:Ev} {kvs:List (Key × V)},kvs.map (·.1)=E.map (λq=>(.inr q.1:Key))->(∀ (i:Nat) (q:Str × RV) (r:Key × V),E[i]?=some q->kvs[i]?=some r->B' C N H q.2 r.2)->Cq C N H E kvs
 | [],[],_,_=>.nil
 | [],_::_,h,_=>by simp at h
 | _::_,[],h,_=>by simp at h
 | q::E,r::kvs,h,g=>by
  rw [List.map_cons,List.map_cons] at h;injection h with h1 h2;exact .cons ⟨h1,g 0 q r rfl rfl⟩ (Cq.of h2 λi a b ha hb=>g (i+1) a b (by simpa using ha) (by simpa using hb))
theorem Cq.look (h:Cq C N H E kvs)(y:Str):(Bk E y=none/\AN kvs (.inr y:Key)=none)\/∃ v r,Bk E y=some v/\AN kvs (.inr y:Key)=some r/\B' C N H v r:=by
 unfold Cq at h
 induction h with
 | nil=>exact .inl ⟨rfl,rfl⟩
 | @cons q r E kvs a _ ih =>
  rw [BZ];by_cases e:q.1=y
  ·exact .inr ⟨q.2,r.2,by simp [e],AZ (by rw [a.1,e]),a.2⟩
  ·rw [A' (by rw [a.1];exact λz=>e (Sum.inr.inj z))];simp only [e,if_false];exact ih
theorem Cq.any (h:Cq C N H E kvs)(y:Str):(kvs.any λkv=>decide (kv.1=(.inr y:Key)))=(E.any λp=>decide (p.1=y)):=by
 rw [CC,Ea];rcases h.look y with ⟨a,b⟩ | ⟨v,r,a,b,_⟩ <;> rw [a,b] <;> rfl
theorem Cq.put (h:Cq C N H E kvs)(hv:B' C N H v r)(y:Str):Cq C N H (BK E y v) (putK kvs (.inr y) r):=by
 unfold BK putK;rw [h.any y];by_cases q:(E.any λp=>decide (p.1=y))=true
 ·rw [if_pos q,if_pos q];clear q;unfold Cq at h ⊢
  induction h with
  | nil=>exact .nil
  | @cons p r' E kvs a _ ih =>
   refine .cons ?_ ih;by_cases e:p.1=y
   ·simp only [e,if_true];rw [if_pos (by rw [a.1,e])];exact ⟨by rw [a.1,e],hv⟩
   ·simp only [e,if_false];rw [if_neg (by rw [a.1];exact λz=>e (Sum.inr.inj z))];exact a
 ·rw [if_neg q,if_neg q];exact Paired.app h (.cons ⟨rfl,hv⟩ .nil)
theorem Cq.mrg (g:Cq C N H l ls):∀ {E:Ev} {kvs:List (Key × V)},Cq C N H E kvs->Cq C N H (AI E l) (Bq kvs ls):=by
 unfold Cq at g
 induction g with
 | nil=>exact λh=>h
 | @cons q r l ls a _ ih =>
  intro E kvs h;have:=h.put a.2 q.1;rw [<- a.1] at this;exact ih this
section
variable {σ:St}{H:Hp}{D:Ends}
theorem SX (q:wi σ H λJ H1=>Zx J g tb D σ H1):QG wi g tb D σ H:=q
theorem Jt (q:tv σ H λv H1=>td σ H1 λx H2=>ty σ H2 λy H3=>∃ a H4,x=.ref a/\YT H3 a y v H4/\D.nx σ H4):R3 td ty tv D σ H:=q
theorem Q8 (q:ty σ H λy H1=>td σ H1 λx H2=>∃ a o,x=.ref a/\BJ H2 a y o/\Q (.bl (!o.isSome)) H2):J8 ty td σ H Q:=q
end
noncomputable def Q9 (H:Hp)(d:Addr)(xs:List Str):Prop:=∃ kvs:List (Key × V),H d=some (.dK kvs)/\kvs.length<=xs.length/\∀ y,(AN kvs (.inr y:Key)).isSome=true↔y∈xs
end L2
namespace KX
open PySem Ex
noncomputable def Ex.fh (xs:List Str):Ex->List Str
 | .nm x=>if x∈xs then [] else [x]
 | _=>[]
theorem SY (e:Ex)(xs:List Str):e.fv xs=e.fh xs++e.prt.flatMap λp=>p.1.fv (p.2.reverse++xs):=by
 cases e <;> simp [fv,fh,prt]
noncomputable def MT (L:List (Ex × List Str)):Nat:=(L.map λp=>p.1.sz).sum
theorem HJ (p:Ex × List Str)(L:List (Ex × List Str)):MT (p::L)=p.1.sz+MT L:=by simp [MT]
theorem Oo (L M:List (Ex × List Str)):MT (L++M)=MT L+MT M:=by simp [MT]
theorem S' (e:Ex):(e.prt.map λp=>p.1.sz).sum+1=e.sz:=by cases e <;> simp [prt,sz] <;> omega
theorem T1 (e:Ex):∀ p∈e.prt,p.1.sz+1<=e.sz/\p.2.length<=2:=by cases e <;> simp [prt,sz] <;> omega
theorem Oq (e:Ex):e.prt.length<=3:=by cases e <;> simp [prt]
end KX
namespace K
open PySem L2 KM KS KX
section
variable {Pr:Program}{w:World}{K:W.Frag}{mg:Str->Option Value}{base:Heap}
noncomputable def aE:Sp:=λvs H Q _=>∃ (d q:Addr) (xs ns:List Str),vs=[.ref d,.ref q]/\Q9 H d xs/\H q=some (.tup (ns.map V.str))/\ns.length<=2/\xs.length<=900000/\∀ d' H',A9 H H'->Q9 H' d' (ns.reverse++xs)->Q (.ref d') H'
theorem aF:Ai ["given","names","wider","name"] ["given","names"] (A5 Dq):=nofun
theorem iu (F:Cd K "with_names" "with_names" Dq f fd)(HL:mg "dict"=none):Aq Pr w K mg base B5 1 f fd ["given","names"] aE:=by
 refine F.okS aF (λvs H Q E h=>?_) (λBf A outer s H vs Q E hr h=>?_)
 ·obtain ⟨d,q,xs,ns,rfl,_⟩:=h;rfl
 ·obtain ⟨d,q,xs,ns,rfl,⟨kvs,hd,hl,hk⟩,hq,hn,hx,k⟩:=h;have hu:=Ek hr;refine ⟨_,(A3 (Al (i:=2) aF.nd rfl (.inl rfl) (Bw Dl (by rfl) HL PyProof.Rows.boot_dict (A1 (Aa 0) A2)))
   (A3 (F' PassesOwn.never rfl (ID (Aa 1)) (AQ (i:=3) aF.nd rfl (.inl rfl)) (Ac (Mp hu (Aa 2) (Aa 3) G8 rfl)))
   (Ac (Ak (Aa 2))))),?_⟩
  apply ⟨d,_,rfl,.inl hd,λp1 Qq=>?_⟩;have s1:A9 H (upd H p1 (.dK kvs)):=A9.new Qq;have e1:(upd H p1 (.dK kvs)) p1=some (.dK kvs):=A6;generalize upd H p1 (.dK kvs)=H1 at s1 e1 ⊢;apply ⟨q,rfl,⟨_,Ba.of (s1 _ _ hq)⟩,?_⟩;refine Nv (K:=K) (a:=q) (xs:=ns.map V.str) (λi σ H'=>∃ nm,σ=[some (.ref d),some (.ref q),some (.ref p1),nm]/\A9 H H'/\Q9 H' p1 ((ns.take i).reverse++xs)) ⟨none,rfl,s1,kvs,e1,hl,hk⟩ (λi σ H' _ z=>?_) (λi x σ H' HV z=>?_) fun σ H' z=>?_
  ·obtain ⟨nm,_,s,_⟩:=z;exact Ba.of (s _ _ hq)
  ·obtain ⟨nm,rfl,s,kv,g1,g2,g3⟩:=z;rw [List.getElem?_map] at HV;obtain ⟨y,hy,rfl⟩:=Option.map_eq_some_iff.mp HV;have hi:=(List.getElem?_eq_some_iff.mp hy).1;rw [List.length_append,List.length_reverse,List.length_take] at g2;refine Hz ?_;refine Jt ?_;apply ⟨p1,_,rfl,.inl ⟨kv,.inr y,g1,rfl,Bx (),rfl⟩,?_⟩;refine ⟨some (.str y),rfl,A9.put s Qq,_,A6,?_,λz=>?_⟩
   ·have:=Ku kv (.inr y) (.bl true);rw [List.length_append,List.length_reverse,List.length_take];omega
   ·rw [EZ,List.take_succ,hy];simp only [List.mem_append,List.mem_reverse,Option.toList_some,List.mem_singleton,Sum.inr.injEq];by_cases e:z=y
    ·simp [e]
    ·rw [if_neg e,g3 z];simp [e]
  ·obtain ⟨nm,rfl,s,g⟩:=z;rw [List.length_map,List.take_length] at g;left;exact k p1 H' s g
noncomputable def Uo (H:Hp)(t:Ex × List Str)(r:V):Prop:=∃ p re d,r=.ref p/\H p=some (.tup [re,.ref d])/\As H t.1 re/\Q9 H d t.2/\t.2.length+2 * t.1.sz<=900000
theorem Uo.mono (s:NL H H')(h:Uo H t r):Uo H' t r:=by
 obtain ⟨p,re,d,h1,h2,h3,⟨kv,h4,h5⟩,h6⟩:=h;exact ⟨p,re,d,h1,s _ _ h2 (by intro _ z;cases z),As.mono s.abu h3,⟨kv,s _ _ h4 (by intro _ z;cases z),h5⟩,h6⟩
noncomputable def aG:Sp:=λvs H Q _=>∃ (e:Ex) (rt:V),vs=[rt]/\As H e rt/\e.sz<=400000/\∀ l H',A9 H H'->H' l=some (.lst ((e.fv []).map V.str))->Q (.ref l) H'
theorem L6:Ai ["tree","missing","waiting","entry","part","given","inner","names"] ["tree"] (A5 Co):=nofun
theorem iw (F:Cd K "missing_names" "missing_names" Co f fd)(BL:mg "reversed"=none)(cW:Cl Pr w K mg base 1 "with_names" ["given","names"] aE)(cP:Cl Pr w K mg base 2 "parts_with_names" ["tree"] L4):Aq Pr w K mg base B5 3 f fd ["tree"] aG:=by
 refine F.okS L6 (λvs H Q E h=>?_) (λBf A outer s H vs Q E hr h=>?_)
 ·obtain ⟨e,rt,rfl,_⟩:=h;rfl
 ·obtain ⟨e,rt,rfl,he,hsz,k⟩:=h;have hu:=Ek hr;have DA:Ar 1 _:=hr.mono ⟨⟩;have G0:Ar 2 _:=hr;refine ⟨_,(A3 (Al (i:=1) L6.nd rfl (.inl rfl) (Bi A2))
   (A3 (Al (i:=2) L6.nd rfl (.inl rfl) (Bi (A1 (Ah (A1 (Aa 0) (A1 DQ A2))) A2)))
   (A3 (Gr PassesOwn.never (Bz (Aa 2)) (A3 (Al (i:=3) L6.nd rfl (.inl rfl) (DP PySem.F.plainAttrs_list PySem.F.slot_list_pop PySem.F.type_list_pop DJ (Aa 2)))
   (A3 (Al (i:=4) L6.nd rfl (.inl rfl) (eI 3))
   (A3 (Al (i:=5) L6.nd rfl (.inl rfl) (eI 3))
   (A3 (AS (Kn (w_and (Ao AA (eI 4) Ab (Ag _)) (Dk (RC hu (eI 4) (Aa 5))))) (Ac (Bm (Fv PySem.F.plainAttrs_list PySem.F.slot_list_append PySem.F.type_list_append Bp (Aa 1) (A1 (eI 4) A2)))) Ax)
   (Ac (F' PassesOwn.never rfl (Xj rfl BL (A1 (Ay cP G0 rfl (A1 (Aa 4) A2)) A2)) (Hh rfl (Bu (AQ (i:=6) L6.nd rfl (.inl rfl)) (Bu (AQ (i:=7) L6.nd rfl (.inl rfl)) EF))) (Ac (Bm (Fv PySem.F.plainAttrs_list PySem.F.slot_list_append PySem.F.type_list_append Bp (Aa 2) (A1 (Ah (A1 (Aa 6) (A1 (Jc (Bz (Aa 7)) (Ay cW DA rfl (A1 (Aa 5) (A1 (Aa 7) A2))) (Aa 5)) A2))) A2)))))))))))
   (Ac (Ak (Aa 1)))))),?_⟩
  apply C1 (Dm ⟨⟩) λlm H1 xc s1 e1=>?_;left;intro d hd;have s2:A9 H1 (upd H1 d (.dK [])):=A9.new hd;have e2:(upd H1 d (.dK [])) d=some (.dK []):=A6;generalize upd H1 d (.dK [])=H2 at s2 e2 ⊢;left;intros p3 H3 s3 e3;apply C1 (Dm (Nat.le_of_ble_eq_true rfl)) λlw H4 L3 s4 e4=>?_;left;have Jr:=s2.trans (s3.trans s4);have XB:=s1.trans Jr;have iy:H lw=none:=by
   cases z:H lw with
   | none=>rfl
   | some o=>rw [((s1.trans s2).trans s3) _ _ z] at L3;cases L3
  have rd:lm≠lw:=λz=>by rw [<- z,(s2.trans s3) _ _ e1] at L3;cases L3
  refine ⟨λm σ' H'=>∃ ms ws en pa gi inn Jq L,σ'=[some rt,some (.ref lm),some (.ref lw),en,pa,gi,inn,Jq]/\m=MT L/\m<=e.sz/\A9 H H'/\H' lm=some (.lst (ms.map V.str))/\H' lw=some (.lst ws)/\Paired (Uo H') L ws.reverse/\ms++(L.flatMap λp=>p.1.fv p.2)=e.fv [],
   ⟨e.sz,[],[.ref p3],none,none,none,none,none,[(e,[])],rfl,by simp [MT],Nat.le_refl _,XB,Jr _ _ e1,e4,.cons ⟨p3,rt,d,rfl,s4 _ _ e3,As.mono (Ae.of_same XB) he,⟨[],(s3.trans s4) _ _ e2,Nat.le_refl _,λy=>by simp [AN]⟩,by simp only [List.length_nil];omega⟩ .nil,by simp⟩,?_⟩
  rintro m σ' H' ⟨ms,ws,en,pa,gi,inn,Jq,L,rfl,rfl,hm,sm,aH,W3,kw,mJ⟩;apply ⟨!ws.isEmpty,.inl ⟨ws,AG.of W3,rfl⟩,?_⟩;have fvl:(e.fv []).length<=e.sz:=XO;cases L with
  | nil =>
   have MQ:ws=[]:=by
    have:=Paired.length kw;simpa using this.symm
   subst MQ;refine Ce ?_;left;rw [List.flatMap_nil,List.append_nil] at mJ;rw [mJ] at aH;exact k lm H' sm aH
  | cons t L =>
   obtain ⟨x,xs,hx,kx,mH⟩:∃ x xs,ws.reverse=x::xs/\Uo H' t x/\Paired (Uo H') L xs:=by
    generalize ws.reverse=rs at kw;cases kw with
    | cons k1 k2=>exact ⟨_,_,rfl,k1,k2⟩
   have MQ:ws=xs.reverse++[x]:=by
    have:=congrArg List.reverse hx;simpa using this
   have ne:(!ws.isEmpty)=true:=(by rw [MQ];simp);rw [ne];rw [HJ] at hm;have szl:L.length<=MT L:=by
    have:∀ L:List (Ex × List Str),L.length<=MT L:=λL=>by
     induction L with
     | nil=>exact Nat.le_refl _
     | cons a r ih=>rw [HJ,List.length_cons];have:=S' a.1;omega
    exact this L
   have lxs:=Paired.len mH;refine C5 ⟨fun σ' H'=>∃ m',m' < MT (t::L)/\∃ ms ws en pa gi inn Jq L,σ'=[some rt,some (.ref lm),some (.ref lw),en,pa,gi,inn,Jq]/\m'=MT L/\m'<=e.sz/\A9 H H'/\H' lm=some (.lst (ms.map V.str))/\H' lw=some (.lst ws)/\Paired (Uo H') L ws.reverse/\ms++(L.flatMap λp=>p.1.fv p.2)=e.fv [],fun σ' H' q=>q,?_⟩;apply ⟨.inl ⟨rfl,_,AG.of W3⟩,lw,ws,x,rfl,rfl,W3,by rw [MQ];simp,?_⟩;have dl:ws.dropLast=xs.reverse:=(by rw [MQ];simp);rw [dl];have dI:NL H' (upd H' lw (.lst xs.reverse)):=NL.put W3;have dE:A9 H (upd H' lw (.lst xs.reverse)):=A9.put sm iy;have dJ:(upd H' lw (.lst xs.reverse)) lm=some (.lst (ms.map V.str)):=(by rw [A8 rd];exact aH);have aI:(upd H' lw (.lst xs.reverse)) lw=some (.lst xs.reverse):=A6;generalize upd H' lw (.lst xs.reverse)=H5 at dI dE dJ aI ⊢;obtain ⟨p,re,d',rfl,hp,het,xf,hbd⟩:=kx.mono dI;have rh:=Paired.aag mH λ_ _ z=>z.mono dI;apply A4 hp (v:=re) rfl ?_;apply A4 hp (v:=.ref d') rfl ?_;refine Gs (fun σ6 H6=>σ6=[some rt,some (.ref lm),some (.ref lw),some (.ref p),some re,some (.ref d'),inn,Jq]/\A9 H H6/\NL H5 H6/\H6 lm=some (.lst ((ms++t.1.fh t.2).map V.str))/\H6 lw=some (.lst xs.reverse)) (fun σ6 H6 hj=>?_) λNn hN=>?_
   ·obtain ⟨rfl,qV,dF,xg,xh⟩:=hj;refine SX ?_;apply ⟨t.1,re,rfl,As.mono dF.abu het,λl rs H7 s7 mK e7 xi=>?_⟩;have lpr:=Paired.len xi;have lp3:=Oq t.1;refine ⟨l,rs,rfl,AG.of e7,?_⟩;have nlw:l≠lw:=λz=>(by rw [z,xh] at mK;cases mK);have nlm:l≠lm:=λz=>(by rw [z,xg] at mK;cases mK);refine NP (K:=K) (a:=l) (xs:=rs) (λi σ' H'=>∃ inn Jq JT,σ'=[some rt,some (.ref lm),some (.ref lw),some (.ref p),some re,some (.ref d'),inn,Jq]/\A9 H H'/\NL H7 H'/\H' l=some (.lst rs)/\H' lm=some (.lst ((ms++t.1.fh t.2).map V.str))/\H' lw=some (.lst JT)/\Paired (Uo H') (((t.1.prt.drop (rs.length - i)).map λp=>(p.1,p.2.reverse++t.2))++L) JT.reverse)
     ⟨inn,Jq,xs.reverse,rfl,qV.trans s7,NL.of_same (A9.refl _),e7,s7 _ _ xg,s7 _ _ xh,?_⟩ (λi σ' H' _ z=>?_) (λi x σ' H' HV z=>?_) fun σ' H' z=>?_
    ·rw [Nat.sub_zero,List.drop_eq_nil_of_le (),List.reverse_reverse];exact Paired.aag rh λ_ _ z=>z.mono (dF.trans (NL.of_same s7))
    ·obtain ⟨inn,Jq,JT,_,_,_,h,_⟩:=z;exact AG.of h
    ·obtain ⟨inn,Jq,JT,rfl,rj,dM,rl,rn,mL,iz⟩:=z;have hi:i < rs.length:=by
      have:=(List.getElem?_eq_some_iff.mp HV).1;simpa using this
     rw [List.getElem?_reverse hi] at HV;obtain ⟨pt,SM,pa,qa,ra,rfl,a1,a2,a3⟩:=Paired.at1 xi HV;have hdr:t.1.prt.drop (rs.length - (i+1))=pt::t.1.prt.drop (rs.length - i):=by
      rw [show rs.length - i=rs.length - (i+1)+1 by omega];exact List.drop_eq_getElem?_toList_append .. |>.trans (by rw [show rs.length - (i+1)=rs.length - 1 - i by omega,SM];rfl)
     obtain ⟨p1,p2⟩:=T1 t.1 pt (List.mem_of_getElem? SM);have rp:NL H5 H':=(dF.trans (NL.of_same s7)).trans dM;have fz:Q9 H' d' t.2:=by
      obtain ⟨kv,h4,h5⟩:=xf;exact ⟨kv,rp _ _ h4 (by intro _ z;cases z),h5⟩
     have lwl:=Paired.len iz;rw [List.length_append,List.length_map,List.length_drop,List.length_reverse] at lwl;refine ⟨pa,_,rfl,Ba.of (dM _ _ a1 (by intro _ z;cases z)),rfl,_,_,rfl,_,_,rfl,rfl,?_⟩;apply ⟨.inl ⟨rfl,_,AG.of mL⟩,?_⟩;left;have xj:=dM _ _ a3 (by intro _ z;cases z);refine ⟨!(pt.2.map V.str).isEmpty,.inr (.inl ⟨_,Ba.of xj,rfl⟩),?_⟩;have fin:∀ d2 H8,A9 H' H8->Q9 H8 d2 (pt.2.reverse++t.2)->Kw 2 (.tup [ra,.ref d2]) H8 λv H2=>J6 (.ref lw) [v] H2 λ_ H3=>∃ inn Jq JT,([some rt,some (.ref lm),some (.ref lw),some (.ref p),some re,some (.ref d'),some ra,some (.ref qa)]:St)=[some rt,some (.ref lm),some (.ref lw),some (.ref p),some re,some (.ref d'),inn,Jq]/\A9 H H3/\NL H7 H3/\H3 l=some (.lst rs)/\H3 lm=some (.lst ((ms++t.1.fh t.2).map V.str))/\H3 lw=some (.lst JT)/\Paired (Uo H3) (((t.1.prt.drop (rs.length - (i+1))).map λp=>(p.1,p.2.reverse++t.2))++L) JT.reverse:=by
      intro d2 H8 s8 g8;intros p9 H9 s9 e9;have dN:=s8.trans s9;have iA:=dN _ _ mL;refine ⟨lw,JT,.ref p9,rfl,rfl,iA,Bx (),?_⟩;have xk:NL H9 (upd H9 lw (.lst (JT++[.ref p9]))):=NL.put iA;have iB:NL H' (upd H9 lw (.lst (JT++[.ref p9]))):=(NL.of_same dN).trans xk;refine ⟨_,_,JT++[.ref p9],rfl,A9.put (rj.trans dN) iy,dM.trans iB,?_,?_,A6,?_⟩
      ·rw [A8 nlw];exact dN _ _ rl
      ·rw [A8 rd];exact dN _ _ rn
      ·rw [hdr,List.map_cons,List.cons_append,List.reverse_append];refine .cons (Uo.mono xk ⟨p9,ra,d2,rfl,e9,As.mono (dM.trans (NL.of_same dN)).abu a2,?_,?_⟩) (Paired.aag iz λ_ _ z=>z.mono iB)
       ·obtain ⟨kv,h4,h5⟩:=g8;exact ⟨kv,s9 _ _ h4,h5⟩
       ·simp only [List.length_append,List.length_reverse];omega
     rcases hpn:pt.2 with _ | ⟨n0,nr⟩
     ·refine Az (by simp) ?_;left;exact fin d' H' (A9.refl _) (by rw [hpn];exact fz)
     ·refine AR (by simp) ?_;apply ⟨d',qa,t.2,pt.2,rfl,fz,xj,p2,(),λd2 H8 s8 g8=>?_⟩;left;exact fin d2 H8 s8 g8
    ·obtain ⟨inn,Jq,JT,rfl,rj,dM,rl,rn,mL,iz⟩:=z;rw [Nat.sub_self,List.drop_zero] at iz;have VY:MT (t.1.prt.map λp=>(p.1,p.2.reverse++t.2))+1=t.1.sz:=by
      unfold MT;rw [List.map_map];exact S' t.1
     refine ⟨_,?_,_,JT,_,_,_,_,_,_,rfl,rfl,?_,rj,rn,mL,iz,?_⟩
     ·rw [Oo,HJ];omega
     ·rw [Oo];omega
     ·rw [<- mJ,List.flatMap_cons,List.flatMap_append,SY t.1 t.2,List.append_assoc,List.append_assoc,List.flatMap_map]
   ·left;have ZU:ms.length+(t.1.fh t.2).length<=e.sz:=by
     have:=congrArg List.length mJ;rw [List.flatMap_cons,SY t.1 t.2] at this;simp only [List.length_append] at this;omega
    obtain ⟨pt,ut,rfl,ht,hi⟩:=het.its;refine A4 ht (v:=.str t.1.wd) (Aj (j:=0) rfl) ?_;left;by_cases c1:t.1.wd="name"
    ·obtain ⟨y,hy⟩:∃ y,t.1=.nm y:=by
      cases XQ:t.1 <;> rw [XQ] at c1 <;> first | exact ⟨_,rfl⟩ | exact absurd c1 (by simp only [Ex.wd];decide)
     rw [hy] at het;obtain ⟨aJ,h1,L7⟩:=het;cases h1;refine AR (by simp [c1]) ?_;apply Q8 ?_;apply A4 L7 (v:=.str y) rfl ?_;obtain ⟨kv,h4,h5,h6⟩:=xf;apply ⟨d',_,rfl,BJ.k (k:=.inr y) h4,?_⟩;left;by_cases c2:y∈t.2
     ·refine Az (by rw [(h6 y).mpr c2];decide) ?_;apply hN _ _ ⟨rfl,dE,NL.of_same (A9.refl _),?_,aI⟩;rw [hy];simp only [Ex.fh,c2,if_true,List.append_nil];exact dJ
     ·refine AR ?_ ?_
      ·have:(AN kv (.inr y:Key)).isSome=false:=by
        cases z:(AN kv (.inr y:Key)).isSome with
        | false=>rfl
        | true=>exact absurd ((h6 y).mp z) c2
       rw [this];rfl
      apply ⟨.inl ⟨rfl,_,AG.of dJ⟩,?_⟩;apply A4 L7 (v:=.str y) rfl ?_;rw [hy] at ZU;simp only [Ex.fh,c2,if_false,List.length_singleton] at ZU;refine ⟨lm,_,.str y,rfl,rfl,dJ,by rw [List.length_map];exact Bx (),?_⟩;refine hN _ _ ⟨rfl,A9.put dE xc,NL.put dJ,?_,by rw [A8 (Ne.symm rd)];exact aI⟩;rw [A6,hy];simp only [Ex.fh,c2,if_false,List.map_append,List.map_cons,List.map_nil]
    ·refine Az (by simp [c1]) ?_;refine Ce ?_;apply hN _ _ ⟨rfl,dE,NL.of_same (A9.refl _),?_,aI⟩;have:t.1.fh t.2=[]:=by
      cases XQ:t.1 with
      | nm y=>rw [XQ] at c1;exact absurd rfl c1
      | _=>rfl
     rw [this,List.append_nil];exact dJ
end
end K
namespace KX
open PySem Ex
noncomputable def own:Ex->List RV->Option (Ex × Ev)
 | .cal _ _,[.fn x b _,v]=>some (b,AI [] [(x,v)])
 | .cal _ _,[.rc f x b E,v]=>some (b,AI [] [(f,.rc f x b E),(x,v)])
 | .lt x _ b,[v]=>some (b,AI [] [(x,v)])
 | .wh _ a b,[.tru t]=>some (if t=true then a else b,[])
 | .opn _ x y b,[.two false v u]=>some (b,AI [] [(x,v),(y,u)])
 | .spl _ a _ _ _,[.emp]=>some (a,[])
 | .spl _ _ x y b,[.two true v u]=>some (b,AI [] [(x,v),(y,u)])
 | .op o _ _,[.num i,.num j]=>some (opV o i j,[])
 | _,_=>none
noncomputable def C8:RV->Str
 | .num _=>"number" | .tru _=>"truth" | .emp=>"empty" | .fn _ _ _=>"fun" | .rc _ _ _ _=>"rec" | .two l _ _=>tw l
theorem aK (h:C8 v="truth"):∃ b,v=.tru b:=by
 cases v with
 | tru b=>exact ⟨b,rfl⟩
 | two l _ _=>cases l <;> exact absurd h (by simp only [C8,tw];decide)
 | _=>exact absurd h (by simp only [C8];decide)
theorem iC (h:C8 v="fun"):∃ x b E,v=.fn x b E:=by
 cases v with
 | fn x b E=>exact ⟨x,b,E,rfl⟩
 | two l _ _=>cases l <;> exact absurd h (by simp only [C8,tw];decide)
 | _=>exact absurd h (by simp only [C8];decide)
theorem iD (h:C8 v="rec"):∃ f x b E,v=.rc f x b E:=by
 cases v with
 | rc f x b E=>exact ⟨f,x,b,E,rfl⟩
 | two l _ _=>cases l <;> exact absurd h (by simp only [C8,tw];decide)
 | _=>exact absurd h (by simp only [C8];decide)
theorem aL (h:C8 v="empty"):v=.emp:=by
 cases v with
 | emp=>rfl
 | two l _ _=>cases l <;> exact absurd h (by simp only [C8,tw];decide)
 | _=>exact absurd h (by simp only [C8];decide)
theorem iE (h:C8 v="pair"):∃ a b,v=.two false a b:=by
 cases v with
 | two l a b =>
  cases l
  ·exact ⟨a,b,rfl⟩
  ·exact absurd h (by simp only [C8,tw];decide)
 | _=>exact absurd h (by simp only [C8];decide)
theorem iF (h:C8 v="link"):∃ a b,v=.two true a b:=by
 cases v with
 | two l a b =>
  cases l
  ·exact absurd h (by simp only [C8,tw];decide)
  ·exact ⟨a,b,rfl⟩
 | _=>exact absurd h (by simp only [C8];decide)
theorem aM (h:C8 v≠"truth"):own (.wh a b c) [v]=none:=by cases v <;> first | rfl | exact absurd rfl h
theorem W4 (h:C8 v≠"pair"):own (.opn a x y b) [v]=none:=by
 cases v with
 | two l _ _=>cases l <;> first | rfl | exact absurd rfl h
 | _=>rfl
theorem W5 (h:C8 v≠"empty")(g:C8 v≠"link"):own (.spl a b x y c) [v]=none:=by
 cases v with
 | two l _ _=>cases l <;> first | rfl | exact absurd rfl g
 | emp=>exact absurd rfl h
 | _=>rfl
theorem W6 (h:C8 v≠"fun")(g:C8 v≠"rec"):own (.cal a b) [v,u]=none:=by cases v <;> first | rfl | exact absurd rfl h | exact absurd rfl g
end KX
namespace L2
open PySem PySem.Spec PyProof.Rows KS KX
theorem B'.look (h:B' C N H v r):∃ p us,r=.ref p/\H p=some (.tup (.str (C8 v)::us)):=by
 cases h with
 | num h=>exact ⟨_,_,rfl,h⟩
 | tru h=>exact ⟨_,_,rfl,h⟩
 | emp h=>exact ⟨_,_,rfl,h⟩
 | fn h _ _ _ _ _ _ _=>exact ⟨_,_,rfl,h⟩
 | rc h _ _ _ _ _ _ _=>exact ⟨_,_,rfl,h⟩
 | two h _ _ _ _ _=>exact ⟨_,_,rfl,h⟩
end L2
namespace KX
open PySem PySem.Spec PyProof.Rows Ex
theorem RR.det (h:RR v w):∀ {w':Ex},RR v w'->w=w':=by
 induction h with
 | num i=>intro w' g;cases g;rfl
 | tru b=>intro w' g;cases g;rfl
 | emp=>intro w' g;cases g;rfl
 | pr _ _ ia ib=>intro w' g;cases g with | pr a b=>rw [ia a,ib b]
 | lk _ _ ia ib=>intro w' g;cases g with | lk a b=>rw [ia a,ib b]
 | @fn x b E σ wv h1 h2 h3 h4 ih =>
  intro w' g;cases g with
  | @fn _ _ _ σ' wv' g1 g2 g3 g4 =>
   have:σ=σ':=funext λy=>by
    cases q:Bk E y with
    | none=>rw [h1 y q,g1 y q]
    | some u=>rw [h2 y u q,g2 y u q,ih y u q (g3 y u q)]
   rw [this]
 | @rc f x b E σ wv h1 h2 h3 h4 ih =>
  intro w' g;cases g with
  | @rc _ _ _ _ σ' wv' g1 g2 g3 g4 =>
   have:σ=σ':=funext λy=>by
    cases q:Bk E y with
    | none=>rw [h1 y q,g1 y q]
    | some u=>rw [h2 y u q,g2 y u q,ih y u q (g3 y u q)]
   rw [this]
noncomputable def GC (E:Ev)(xs:List Str):Ev:=xs.foldl (λa x=>match Bk E x with | some v=>BK a x v | none=>a) []
theorem T2 (E:Ev)(xs:List Str)(h:Bk E x=some v):GC E (xs++[x])=BK (GC E xs) x v:=by
 simp only [GC,List.foldl_append,List.foldl_cons,List.foldl_nil,h]
theorem Ot (E:Ev)(y:Str):∀ (xs:List Str) (a:Ev),Bk (xs.foldl (λa x=>match Bk E x with | some v=>BK a x v | none=>a) a) y=if y∈xs/\(Bk E y).isSome=true then Bk E y else Bk a y
 | [],a=>by simp
 | x::xs,a=>by
  rw [List.foldl_cons,Ot E y xs];by_cases h1:y∈xs/\(Bk E y).isSome=true
  ·rw [if_pos h1,if_pos ⟨List.mem_cons_of_mem _ h1.1,h1.2⟩]
  ·rw [if_neg h1];cases q:Bk E x with
   | none =>
    simp only;by_cases h2:y∈x::xs/\(Bk E y).isSome=true
    ·rcases List.mem_cons.mp h2.1 with e | e
     ·rw [e,q] at h2;exact absurd h2.2 (by simp)
     ·exact absurd ⟨e,h2.2⟩ h1
    ·rw [if_neg h2]
   | some v =>
    simp only;rw [D3];by_cases e:y=x
    ·rw [if_pos e,if_pos ⟨by simp [e],by rw [e,q];rfl⟩,e,q]
    ·rw [if_neg e,if_neg];rintro ⟨z1,z2⟩;exact h1 ⟨(List.mem_cons.mp z1).resolve_left e,z2⟩
theorem FI (E:Ev)(xs:List Str)(y:Str):Bk (GC E xs) y=if y∈xs then Bk E y else none:=by
 unfold GC;rw [Ot];by_cases h:y∈xs
 ·cases q:Bk E y with
  | none=>simp [h,Bk]
  | some v=>simp [h]
 ·simp [h,Bk]
theorem T3 (h:(E.map (·.1)).Nodup):((BK E x v).map (·.1)).Nodup:=by
 unfold BK;split
 ·rename_i q;have e:(E.map λp=>if p.1=x then (p.1,v) else p).map (·.1)=E.map (·.1):=by
   rw [List.map_map];refine List.map_congr_left λp _=>?_;simp only [Function.comp];split <;> rfl
  rw [e];exact h
 ·rename_i q;rw [List.map_append,List.nodup_append];refine ⟨h,by simp,λa ha b hb=>?_⟩;simp only [List.map_cons,List.map_nil,List.mem_singleton] at hb;subst hb;intro z;subst z;rw [Ea] at q;exact q (Cy.mp ha)
theorem Du (E:Ev)(xs:List Str):((GC E xs).map (·.1)).Nodup:=by
 have:∀ (xs:List Str) (a:Ev),(a.map (·.1)).Nodup->((xs.foldl (λa x=>match Bk E x with | some v=>BK a x v | none=>a) a).map (·.1)).Nodup:=by
  intro xs
  induction xs with
  | nil=>exact λa h=>h
  | cons x xs ih =>
   intro a h;rw [List.foldl_cons];refine ih _ ?_;split
   ·exact T3 h
   ·exact h
 exact this xs [] List.nodup_nil
theorem CO (h:(E.map (·.1)).Nodup)(hp:p∈E):Bk E p.1=some p.2:=by
 induction E with
 | nil=>cases hp
 | cons q E ih =>
  rw [BZ];rw [List.map_cons,List.nodup_cons] at h;rcases List.mem_cons.mp hp with rfl | hp
  ·simp
  ·rw [if_neg,ih h.2 hp];intro z;exact h.1 (List.mem_map.mpr ⟨p,hp,z.symm⟩)
theorem MU (h:Bk E y=some v):(y,v)∈E:=by
 simp only [Bk,Option.map_eq_some_iff] at h;obtain ⟨p,hp,rfl⟩:=h;have h2:=List.find?_some hp;simp only [decide_eq_true_eq] at h2;rw [<- h2];exact List.mem_of_find?_eq_some hp
noncomputable def ES:RV->Bool
 | .num _ | .tru _ | .emp=>false
 | _=>true
noncomputable def fex:RV->Option (Ex × Ev)
 | .fn x b E=>some (.fn x b,E)
 | .rc f x b E=>some (.rc f x b,E)
 | _=>none
noncomputable def inn:RV->List RV
 | .two _ a b=>[a,b]
 | .fn x b E=>(GC E ((Ex.fn x b).fv [])).map (·.2)
 | .rc f x b E=>(GC E ((Ex.rc f x b).fv [])).map (·.2)
 | _=>[]
theorem RR.fex (h:RR v w)(g:KX.fex v=some (e,E)):e.cl (E.map (·.1))/\∃ (σ:Su) (wv:Str->Ex),w=sub σ e/\(∀ y,Bk E y=none->σ y=none)/\(∀ y u,Bk E y=some u->σ y=some (wv y))/\∀ y u,Bk E y=some u->RR u (wv y):=by
 cases h with
 | @fn x b E σ wv h1 h2 h3 h4=>cases g;exact ⟨h4,σ,wv,rfl,h1,h2,h3⟩
 | @rc f x b E σ wv h1 h2 h3 h4=>cases g;exact ⟨h4,σ,wv,rfl,h1,h2,h3⟩
 | _=>cases g
theorem MV:∀ {xs:List Str} {σ:Su},(∀ y∈xs,σ y=none)->((e.fv xs).map λy=>match σ y with | some v=>v.sz | none=>1).sum<=(sub σ e).sz:=by
 have r2:∀ {xs:List Str} {σ:Su} (x:Str),(∀ y∈xs,σ y=none)->∀ y∈x::xs,σ.rm x y=none:=λx h=>BX x h;have cg:∀ {b:Ex} {xs:List Str} {σ:Su} (x:Str),((b.fv (x::xs)).map λy=>match σ.rm x y with | some v=>v.sz | none=>1).sum=((b.fv (x::xs)).map λy=>match σ y with | some v=>v.sz | none=>1).sum:=λ{b xs σ} x=>by
  congr 1
  refine List.map_congr_left λy hy=>?_;have:y≠x:=λz=>BH hy (by simp [z]);simp only [Su.rm,this,if_false]
 have rq:∀ {b:Ex} {xs:List Str} {σ:Su} (x z:Str),((b.fv (z::x::xs)).map λy=>match (σ.rm x).rm z y with | some v=>v.sz | none=>1).sum=((b.fv (z::x::xs)).map λy=>match σ y with | some v=>v.sz | none=>1).sum:=λ{b xs σ} x z=>by
  congr 1
  refine List.map_congr_left λy hy=>?_;have h1:y≠z:=λq=>BH hy (by simp [q]);have h2:y≠x:=λq=>BH hy (by simp [q]);simp only [Su.rm,h1,h2,if_false]
 induction e with
 | nm x =>
  intro xs σ h;simp only [fv];split
  ·simp
  ·cases q:σ x with
   | none=>simp [sub,q,sz]
   | some v=>simp [sub,q]
 | num _ | tru _ | emp=>intro xs σ h;simp [fv]
 | fn x b ih=>intro xs σ h;have:=ih (r2 x h);rw [cg x] at this;simp only [fv,sub,sz];omega
 | rc f x b ih=>intro xs σ h;have:=ih (r2 x (r2 f h));rw [rq f x] at this;simp only [fv,sub,sz];omega
 | cal a b ia ib | pr a b ia ib | lk a b ia ib=>intro xs σ h;have:=ia h;have:=ib h;simp only [fv,sub,sz,List.map_append,List.sum_append];omega
 | op o a b ia ib=>intro xs σ h;have:=ia h;have:=ib h;simp only [fv,sub,sz,List.map_append,List.sum_append];omega
 | lt x a b ia ib=>intro xs σ h;have:=ia h;have:=ib (r2 x h);rw [cg x] at this;simp only [fv,sub,sz,List.map_append,List.sum_append];omega
 | wh a b c ia ib ic=>intro xs σ h;have:=ia h;have:=ib h;have:=ic h;simp only [fv,sub,sz,List.map_append,List.sum_append];omega
 | opn a x z b ia ib=>intro xs σ h;have:=ia h;have:=ib (r2 z (r2 x h));rw [rq x z] at this;simp only [fv,sub,sz,List.map_append,List.sum_append];omega
 | spl a b x z c ia ib ic=>intro xs σ h;have:=ia h;have:=ib h;have:=ic (r2 z (r2 x h));rw [rq x z] at this;simp only [fv,sub,sz,List.map_append,List.sum_append];omega
theorem W7 (g:Str->Nat)(E:Ev)(x:Str)(v:RV):((BK E x v).map λp=>g p.1).sum<=(E.map λp=>g p.1).sum+g x:=by
 unfold BK;split
 ·have e:((E.map λp=>if p.1=x then (p.1,v) else p).map λp=>g p.1)=E.map λp=>g p.1:=by
   rw [List.map_map];refine List.map_congr_left λp _=>?_;simp only [Function.comp];split <;> rfl
  rw [e];omega
 ·simp
theorem T4 (g:Str->Nat)(E:Ev)(xs:List Str):((GC E xs).map λp=>g p.1).sum<=(xs.map g).sum:=by
 have:∀ (xs:List Str) (a:Ev),((xs.foldl (λa x=>match Bk E x with | some v=>BK a x v | none=>a) a).map λp=>g p.1).sum<=(a.map λp=>g p.1).sum+(xs.map g).sum:=by
  intro xs
  induction xs with
  | nil=>exact λa=>by simp
  | cons x xs ih =>
   intro a;rw [List.foldl_cons];refine Nat.le_trans (ih _) ?_;rw [List.map_cons,List.sum_cons];split
   ·rename_i v _;have:=W7 g a x v;omega
   ·omega
 have h:=this xs [];rw [List.map_nil,List.sum_nil,Nat.zero_add] at h;exact h
theorem T5 (E:Ev)(xs:List Str):(GC E xs).length<=xs.length:=by
 have k:∀ {α:Type} (l:List α),(l.map λ_=>1).sum=l.length:=λl=>by
  induction l with
  | nil=>rfl
  | cons a l ih=>rw [List.map_cons,List.sum_cons,ih,List.length_cons,Nat.add_comm]
 have h:=T4 (λ_=>1) E xs;rw [k,k] at h;exact h
theorem Ff (e:Ex):1<=e.sz:=by cases e <;> simp [sz] <;> omega
theorem W8 (g:fex v=some (e,E))(σ:Su)(hc:σ.Cl)(hy:y∈e.fv [])(hs:σ y=some u):dep dz u < dep dz (sub σ e):=by
 rw [Jj hc];have k:∀ {b:Ex} {xs:List Str} {ρ:Dn},y∈b.fv xs->ρ y=dep dz u->dep dz u<=dep ρ b:=λh1 h2=>h2▸aD h1;have e0:(σ.dn dz) y=dep dz u:=by simp only [Su.dn,hs]
 cases v with
 | fn x b E =>
  cases g;simp only [dep];have:y≠x:=λz=>BH (e:=b) (xs:=[x]) hy (by simp [z]);have:=k (b:=b) (xs:=[x]) (ρ:=(σ.dn dz).up x 0) hy (by simp only [Dn.up,this,if_false];exact e0);omega
 | rc f x b E =>
  cases g;simp only [dep];have h1:y≠x:=λz=>BH (e:=b) (xs:=[x,f]) hy (by simp [z]);have h2:y≠f:=λz=>BH (e:=b) (xs:=[x,f]) hy (by simp [z]);have:=k (b:=b) (xs:=[x,f]) (ρ:=((σ.dn dz).up f 0).up x 0) hy (by simp only [Dn.up,h1,h2,if_false];exact e0);omega
 | _=>cases g
theorem aN (h:RR v w):∃ ws:List Ex,Paired RR (inn v) ws/\(ES v=true->(ws.map Ex.sz).sum+1<=w.sz)/\∀ u∈ws,dep dz u < dep dz w:=by
 have fn:∀ {v:RV} {w e:Ex} {E:Ev},RR v w->fex v=some (e,E)->∃ ws:List Ex,Paired RR ((GC E (e.fv [])).map (·.2)) ws/\(ws.map Ex.sz).sum+1<=w.sz/\∀ u∈ws,dep dz u < dep dz w:=by
  intro v w e E h g;have XG:=h.cl;obtain ⟨hc,σ,wv,rfl,h1,h2,h3⟩:=h.fex g;have cl:σ.Cl:=Jl h1 h2 λy u q=>(h3 y u q).cl;have lk:∀ p∈GC E (e.fv []),p.1∈e.fv []/\Bk E p.1=some p.2:=λp hp=>by
   have:=CO (Du E _) hp;rw [FI] at this;by_cases z:p.1∈e.fv []
   ·rw [if_pos z] at this;exact ⟨z,this⟩
   ·rw [if_neg z] at this;cases this
  refine ⟨(GC E (e.fv [])).map λp=>wv p.1,?_,?_,?_⟩
  ·have:∀ l:Ev,(∀ p∈l,p.1∈e.fv []/\Bk E p.1=some p.2)->Paired RR (l.map (·.2)) (l.map λp=>wv p.1):=by
    intro l
    induction l with
    | nil=>exact λ_=>.nil
    | cons p l ih=>exact λq=>.cons (h3 _ _ (q p (.head _)).2) (ih λr hr=>q r (.tail _ hr))
   exact this _ lk
  ·have s1:=MV (e:=e) (xs:=[]) (σ:=σ) (λy hy=>by cases hy);have s2:=T4 (λy=>match σ y with | some v=>v.sz | none=>1) E (e.fv [])
   have s3:((GC E (e.fv [])).map λp=>wv p.1).map Ex.sz=(GC E (e.fv [])).map λp=>match σ p.1 with | some v=>v.sz | none=>1:=by
    rw [List.map_map];refine List.map_congr_left λp hp=>?_;have:=h2 _ _ (lk p hp).2;simp only [Function.comp,this]
   rw [s3];cases v with
   | fn x b E' =>
    cases g;have s1:=MV (e:=b) (xs:=[x]) (σ:=σ.rm x) (λy hy=>by simp only [List.mem_singleton] at hy;simp [Su.rm,hy]);have s4:((b.fv [x]).map λy=>match σ.rm x y with | some v=>v.sz | none=>1)=(b.fv [x]).map λy=>match σ y with | some v=>v.sz | none=>1:=by
     refine List.map_congr_left λy hy=>?_;have:y≠x:=λz=>BH hy (by simp [z]);simp only [Su.rm,this,if_false]
    rw [s4] at s1;simp only [sub,sz];exact Nat.le_trans (Nat.add_le_add_right (Nat.le_trans s2 s1) 1) ()
   | rc f x b E' =>
    cases g;have s1:=MV (e:=b) (xs:=[x,f]) (σ:=(σ.rm f).rm x) (λy hy=>by
     simp only [List.mem_cons,List.not_mem_nil,or_false] at hy;rcases hy with rfl | rfl <;> simp [Su.rm])
    have s4:((b.fv [x,f]).map λy=>match (σ.rm f).rm x y with | some v=>v.sz | none=>1)=(b.fv [x,f]).map λy=>match σ y with | some v=>v.sz | none=>1:=by
     refine List.map_congr_left λy hy=>?_;have h1:y≠x:=λz=>BH hy (by simp [z]);have h2:y≠f:=λz=>BH hy (by simp [z]);simp only [Su.rm,h1,h2,if_false]
    rw [s4] at s1;simp only [sub,sz];exact Nat.le_trans (Nat.add_le_add_right (Nat.le_trans s2 s1) 1) ()
   | _=>cases g
  ·intro u hu;obtain ⟨p,hp,rfl⟩:=List.mem_map.mp hu;obtain ⟨q1,q2⟩:=lk p hp;exact W8 g σ cl q1 (h2 _ _ q2)
 cases h with
 | num i=>exact ⟨[],.nil,(λz=>by cases z),(λu hu=>by cases hu)⟩
 | tru i=>exact ⟨[],.nil,(λz=>by cases z),(λu hu=>by cases hu)⟩
 | emp=>exact ⟨[],.nil,(λz=>by cases z),(λu hu=>by cases hu)⟩
 | @pr a b x y ha hb=>exact ⟨[x,y],.cons ha (.cons hb .nil),(λ_=>by simp [sz];omega),(λu hu=>by simp only [List.mem_cons,List.not_mem_nil,or_false] at hu;simp only [dep];rcases hu with rfl | rfl <;> omega)⟩
 | @lk a b x y ha hb=>exact ⟨[x,y],.cons ha (.cons hb .nil),(λ_=>by simp [sz];omega),(λu hu=>by simp only [List.mem_cons,List.not_mem_nil,or_false] at hu;simp only [dep];rcases hu with rfl | rfl <;> omega)⟩
 | @fn x b E σ wv h1 h2 h3 h4 =>
  obtain ⟨ws,a,b',c⟩:=fn (.fn h1 h2 h3 h4) rfl;exact ⟨ws,a,λ_=>b',c⟩
 | @rc f x b E σ wv h1 h2 h3 h4 =>
  obtain ⟨ws,a,b',c⟩:=fn (.rc h1 h2 h3 h4) rfl;exact ⟨ws,a,λ_=>b',c⟩
noncomputable def IT (σ:Su)(ns:List Str):Su:=ns.foldl Su.rm σ
open Classical in
noncomputable def Cj (t:Ex × Su):List (Ex × Su):=if ∀ y,t.2 y=none then [] else t.1.prt.map λp=>(p.1,IT t.2 p.2)
noncomputable def MW:Nat->Ex × Su->Nat
 | 0,_=>1
 | n+1,t=>1+((Cj t).map (MW n)).sum
theorem MX {n:Nat}:∀ {l:List Nat},n∈l->n<=l.sum
 | a::l,h=>by
  rw [List.sum_cons];rcases List.mem_cons.mp h with rfl | h
  ·omega
  ·have:=MX h;omega
theorem Ou (e:Ex):(e.prt.map λp=>p.1.sz).sum+1=e.sz:=by cases e <;> simp [prt,sz] <;> omega
theorem L8 (h:u∈Cj t):u.1.sz < t.1.sz:=by
 unfold Cj at h;split at h
 ·cases h
 ·obtain ⟨p,hp,rfl⟩:=List.mem_map.mp h;have h1:=Ou t.1;have h2:p.1.sz<=(t.1.prt.map λp=>p.1.sz).sum:=MX (List.mem_map.mpr ⟨p,hp,rfl⟩);show p.1.sz < t.1.sz;omega
theorem Ju:∀ (n m:Nat) (t:Ex × Su),t.1.sz<=n->t.1.sz<=m->MW n t=MW m t
 | 0,_,t,h,_=>by have:=Ff t.1;omega
 | _+1,0,t,_,h=>by have:=Ff t.1;omega
 | n+1,m+1,t,h,g=>by
  simp only [MW]
  congr 2
  refine List.map_congr_left λu hu=>?_;have:=L8 hu;exact Ju n m u () ()
noncomputable def aO (t:Ex × Su):Nat:=MW t.1.sz t
theorem Jv {α:Type}(g:α->Nat):∀ l:List α,KG.szs g l=(l.map g).sum
 | []=>rfl
 | a::l=>by simp [KG.szs,Jv g l]
theorem T6 (t:Ex × Su):KG.szs aO (Cj t)+1=aO t:=by
 have e:aO t=MW (t.1.sz+1) t:=Ju _ _ t (Nat.le_refl _) ();rw [e,MW,Jv,Nat.add_comm]
 congr 2
 refine List.map_congr_left λu hu=>?_;have:=L8 hu;exact Ju _ _ u (Nat.le_refl _) ()
theorem T7:∀ (n:Nat) (t:Ex × Su),t.1.sz<=n->aO t<=t.1.sz
 | 0,t,h=>by have:=Ff t.1;omega
 | n+1,t,h=>by
  rw [<- T6 t,Jv];have h1:=Ou t.1;have h2:((Cj t).map aO).sum<=(t.1.prt.map λp=>p.1.sz).sum:=by
   unfold Cj;split
   ·simp
   ·rw [List.map_map];have:∀ l:List (Ex × List Str),(∀ p∈l,p.1.sz<=n)->(l.map (aO ∘ λp=>(p.1,IT t.2 p.2))).sum<=(l.map λp=>p.1.sz).sum:=by
     intro l
     induction l with
     | nil=>exact λ_=>Nat.le_refl _
     | cons p l ih =>
      intro q;have a:=T7 n (p.1,IT t.2 p.2) (q p (.head _));have b:=ih λr hr=>q r (.tail _ hr);simp only [List.map_cons,List.sum_cons,Function.comp] at a b ⊢;omega
    refine this _ λp hp=>?_;have:p.1.sz<=(t.1.prt.map λp=>p.1.sz).sum:=MX (List.mem_map.mpr ⟨p,hp,rfl⟩);omega
  omega
theorem aP (h:∀ y,σ y=none)(e:Ex):sub σ e=e:=by
 rw [show σ=λ_=>none from funext h,KN]
end KX
namespace PySem
section
variable {prog:Program}{w:World}{A:Around}{E:Value->Shared->Prop}{s:Shared}
theorem W9 {t1 t2:Bool}{z TI TO i1 i2 l1 l2:Addr}{k1 k2:Nat}{xs ys:Array Value}{x y a b:Value}{Q:Value->Shared->Prop}(D:ZipApart z TI TO i1 i2 l1 l2)
  (hz:IsZip s.heap z TI TO .none) (Zb:IsPair s.heap TI (.ref i1) (.ref i2)) (cK:IsPair s.heap TO a b)
  (h1:F3 t1 s.heap i1 l1 k1) (h2:F3 t2 s.heap i2 l2 k2) (Fw:F4 t1 s.heap l1 xs) (Ej:F4 t2 s.heap l2 ys) (hx:xs[k1]?=some x) (hy:ys[k2]?=some y)
  (hQ:∀ h',IsZip h' z TI TO (rawInt s.heap.objs.size)->IsPair h' TO x y->F3 t1 h' i1 l1 (k1+1)->F3 t2 h' i2 l2 (k2+1)->IsPair h' s.heap.objs.size x y->h'.objs.size=s.heap.objs.size+1 ->
   (∀ c o,c≠z->c≠TO->c≠i1->c≠i2->s.heap.get? c=some o->h'.get? c=some o)->Q (.ref s.heap.objs.size) { s with heap:=h' }) :
  wpAny (model prog w) A (Builtin.«zip.__next__» ⟨[.ref z],[]⟩) (λfin s'=>∃ v,fin=.done (.ret v)/\Q v s') E s:=by
 show wpAny (model prog w) _ (field (Value.ref z) 2 >>= _) _ _ _;refine wpAny_bind (wpAny_field hz rfl (x:=.bool false) rfl ?_);show wpAny (model prog w) _ (field (Value.ref z) 3 >>= _) _ _ _;refine wpAny_bind (wpAny_field hz rfl (x:=.ref TI) rfl ?_);refine wpAny_bind (wpAny_seqItems Zb rfl ?_);show wpAny (model prog w) _ (Builtin.SmallTypes.ownedTupleIsFree (Value.ref z) >>= _) _ _ _;refine wpAny_bind ?_;unfold Builtin.SmallTypes.ownedTupleIsFree;refine wpAny_bind (wpAny_field hz rfl (x:=.none) rfl (wpAny_pure ?_));simp only [if_true];refine wpAny_bind (wpAny_rule ?_);refine wpAny_bind (wpAny_field hz rfl (x:=.ref TO) rfl ?_);refine wpAny_bind (wpAny_setField_rec hz (by simp) λha (oY:IsZip ha z TI TO .ellipsis) sa=>?_);refine wpAny_bind ?_;simp only [List.zipIdx_cons,List.zipIdx_nil,List.forIn_cons,List.forIn_nil];refine wpAny_bind (wpAny_bind (wpAny_onRaise ?_));show wpAny _ _ (Builtin.SmallTypes.nextOf (.ref i1) >>= _) _ _ _;refine wpAny_bind (NS (h1.extBut sa.extBut D.i1z) (Fw.extBut sa.extBut D.l1z) hx λhb h1b sb=>wpAny_pure ?_);have xl:IsPair hb TO a b:=sb.extBut _ _ D.TOi1 (sa.extBut _ _ D.TOz cK);refine wpAny_bind (wpAny_seqItems xl rfl ?_);refine wpAny_bind (wpAny_updateSeq_pair xl λhc (TOc:IsPair hc TO x b) sc=>?_);refine wpAny_bind (wpAny_letGo (wpAny_pure ?_));refine wpAny_bind (wpAny_bind (wpAny_onRaise ?_));show wpAny _ _ (Builtin.SmallTypes.nextOf (.ref i2) >>= _) _ _ _;refine wpAny_bind (NS (((h2.extBut sa.extBut D.i2z).extBut sb.extBut D.i12.symm).extBut sc.extBut D.TOi2.symm) (((Ej.extBut sa.extBut D.l2z).extBut sb.extBut D.l2i1).extBut sc.extBut D.l2TO) hy λhd h2d sd=>wpAny_pure ?_);have xm:IsPair hd TO x b:=sd.extBut _ _ D.TOi2 TOc;refine wpAny_bind (wpAny_seqItems xm rfl ?_);refine wpAny_bind (wpAny_updateSeq_pair xm λhe (xn:IsPair he TO x y) se=>?_);refine wpAny_bind (wpAny_letGo (wpAny_pure (wpAny_pure ?_)));refine wpAny_bind (wpAny_seqItems xn rfl ?_);refine wpAny_bind (wpAny_newTuple ?_);have hsz:he.objs.size=s.heap.objs.size:=by rw [se.1,sd.1,sc.1,sb.1,sa.1]
 have xo:IsZip he z TI TO .ellipsis:=se.extBut _ _ D.TOz.symm (sd.extBut _ _ D.i2z.symm (sc.extBut _ _ D.TOz.symm (sb.extBut _ _ D.i1z.symm oY)));have ke:∀ c o,c≠z->c≠TO->c≠i1->c≠i2->s.heap.get? c=some o->he.get? c=some o:=λc o n1 n2 n3 n4 e=>se.extBut _ _ n2 (sd.extBut _ _ n4 (sc.extBut _ _ n2 (sb.extBut _ _ n3 (sa.extBut _ _ n1 e))));have h1e:F3 t1 he i1 l1 (k1+1):=((h1b.extBut sc.extBut D.TOi1.symm).extBut sd.extBut D.i12).extBut se.extBut D.TOi1.symm;have h2e:F3 t2 he i2 l2 (k2+1):=h2d.extBut se.extBut D.TOi2.symm;have xp:z < he.objs.size:=Heap.lt_size xo;show wpAny (model prog w) _ (Builtin.SmallTypes.ownedTupleHandOut (Value.ref z) (Value.ref he.objs.size) >>= _) _ _ _;refine wpAny_bind ?_;unfold Builtin.SmallTypes.ownedTupleHandOut;have hzf:IsZip (he.push { cls:=.type "tuple",data:=.seq #[x,y] }) z TI TO .ellipsis:=Heap.get?_push_of_some _ xo;refine wpAny_bind (wpAny_setField_rec hzf (by simp) λhg (hzg:IsZip hg z TI TO (rawInt he.objs.size)) sg=>?_);refine wpAny_setField_rec hzg (by simp) λhk (xq:IsZip hk z TI TO (rawInt he.objs.size)) sk=>?_;have up:∀ c o,c≠z->he.get? c=some o->hk.get? c=some o:=λc o n e=>sk.extBut _ _ n (sg.extBut _ _ n (Heap.get?_push_of_some _ e));have Tk:IsPair hk he.objs.size x y:=sk.extBut _ _ (Nat.ne_of_gt xp) (sg.extBut _ _ (Nat.ne_of_gt xp) (Heap.get?_push_size _ rfl));have zk:hk.objs.size=he.objs.size+1:=by rw [sk.1,sg.1,Heap.size_push]
 rw [hsz] at xq Tk zk;refine wpAny_pure ⟨_,rfl,?_⟩;show Q (.ref he.objs.size) _;rw [hsz];exact hQ hk xq (up _ _ D.TOz xn) (h1e.at λo e=>up _ o D.i1z e) (h2e.at λo e=>up _ o D.i2z e) Tk zk λc o n1 n2 n3 n4 e=>up c o n1 (ke c o n1 n2 n3 n4 e)
theorem Jw (D:ZipApart z TI TO i1 i2 l1 l2)(hz:IsZip s.heap z TI TO .none)(Zb:IsPair s.heap TI (.ref i1) (.ref i2))(cK:IsPair s.heap TO a b)(h1:F3 t1 s.heap i1 l1 k1)(h2:F3 t2 s.heap i2 l2 k2)(Fw:F4 t1 s.heap l1 xs)(Ej:F4 t2 s.heap l2 ys)(hx:xs[k1]?=some x)(hy:ys[k2]?=some y)(hQ:∀ h',IsZip h' z TI TO (rawInt s.heap.objs.size)->IsPair h' TO x y->F3 t1 h' i1 l1 (k1+1)->F3 t2 h' i2 l2 (k2+1)->IsPair h' s.heap.objs.size x y->h'.objs.size=s.heap.objs.size+1 ->
   (∀ c o,c≠z->c≠TO->c≠i1->c≠i2->s.heap.get? c=some o->h'.get? c=some o)->Q (some (.ref s.heap.objs.size)) { s with heap:=h' }):wpAny (model prog w) A (pyNext (.ref z)) Q E s:=by
 have ty:s.TypeIs (.ref z) "zip":=⟨_,hz,rfl⟩;unfold pyNext;exact wpAny_bind (wpAny_attempt (wpAny_callSpecial?_slot (name:=Str.ofString "__next__") ty F.slot_zip_next (wpAny_call_entry F.slot_zip_next ty F.entry_zip_next (W9 D hz Zb cK h1 h2 Fw Ej hx hy λh' a1 a2 a3 a4 a5 a6 a7=>wpAny_pure (hQ h' a1 a2 a3 a4 a5 a6 a7)) (F.args_zip_next_1 _))))
abbrev mM (t1 t2:Bool)(h:Heap)(l1:Addr):Heap:=h.push (Zc t1 l1)
abbrev mN (t1 t2:Bool)(h:Heap)(l1 l2:Addr):Heap:=(mM t1 t2 h l1).push (Zc t2 l2)
abbrev mO (t1 t2:Bool)(h:Heap)(l1 l2:Addr):Heap:=(mN t1 t2 h l1 l2).push { cls:=.type "tuple",data:=.seq #[.ref h.objs.size,.ref (mM t1 t2 h l1).objs.size] }
abbrev mQ (t1 t2:Bool)(h:Heap)(l1 l2:Addr):Heap:=(mO t1 t2 h l1 l2).push { cls:=.type "tuple",data:=.seq #[.none,.none] }
abbrev aQ (t1 t2:Bool)(h:Heap)(l1 l2:Addr):Heap:=(mQ t1 t2 h l1 l2).push { cls:=.type "zip",data:=.fields #[.none,.bool false,.bool false,.ref (mN t1 t2 h l1 l2).objs.size,.ref (mO t1 t2 h l1 l2).objs.size] }
theorem T8 (t1 t2:Bool)(l1 l2:Addr)(xs ys:Array Value):Meets (Builtin.«zip.__new__» ⟨[.type "zip",.ref l1,.ref l2],[]⟩) (λ_ R s=>F4 t1 s.heap l1 xs/\F4 t2 s.heap l2 ys/\R (.ok (.ret (.ref (mQ t1 t2 s.heap l1 l2).objs.size))) { s with heap:=aQ t1 t2 s.heap l1 l2 }) :=
 .of_wp λprog w A R s h=>by
  obtain ⟨hp,g,d,tk,os⟩:=s;obtain ⟨Fw,Ej,h⟩:=h;have Vh:=sub_zip;have L1:F4 t1 (Shared.heap ⟨hp,g,d,tk,os⟩) l1 xs:=Fw;have L2:F4 t2 (Shared.heap ⟨hp.push (Zc t1 l1),g,d,tk,os⟩) l2 ys:=F4.at Ej λo e=>Heap.get?_push_of_some _ e
  wp_walk using RG L1,RG L2
  exact ⟨_,rfl,h⟩
theorem Wa (Fw:F4 t1 s.heap l1 xs)(Ej:F4 t2 s.heap l2 ys)(h:∀ h',IsZip h' (s.heap.objs.size+4) (s.heap.objs.size+2) (s.heap.objs.size+3) .none->IsPair h' (s.heap.objs.size+2) (.ref s.heap.objs.size) (.ref (s.heap.objs.size+1)) ->
   IsPair h' (s.heap.objs.size+3) .none .none->F3 t1 h' s.heap.objs.size l1 0->F3 t2 h' (s.heap.objs.size+1) l2 0->h'.objs.size=s.heap.objs.size+5 ->
   (∀ c o,s.heap.get? c=some o->h'.get? c=some o)->Q (.ref (s.heap.objs.size+4)) { s with heap:=h' }):wpAny (model prog w) A (call (.type "zip") [.ref l1,.ref l2]) Q E s:=by
 refine callType_new F.called_zip ⟨⟩ (F.typeCall_zip_2 _ _) (F.newCall_zip_2 _ _) (λobj=>F.args_object_init_3 obj _ _) F.entry_zip_new (T8 t1 t2 l1 l2 xs ys) ⟨Fw,Ej,?_⟩;have z1:(mM t1 t2 s.heap l1).objs.size=s.heap.objs.size+1:=Heap.size_push ..;have z2:(mN t1 t2 s.heap l1 l2).objs.size=s.heap.objs.size+2:=by rw [Heap.size_push,z1]
 have z3:(mO t1 t2 s.heap l1 l2).objs.size=s.heap.objs.size+3:=by rw [Heap.size_push,z2]
 have z4:(mQ t1 t2 s.heap l1 l2).objs.size=s.heap.objs.size+4:=by rw [Heap.size_push,z3]
 have z5:(aQ t1 t2 s.heap l1 l2).objs.size=s.heap.objs.size+5:=by rw [Heap.size_push,z4]
 have g5:(aQ t1 t2 s.heap l1 l2).get? (mQ t1 t2 s.heap l1 l2).objs.size=some _:=Heap.get?_push_size _ rfl;have g4:(aQ t1 t2 s.heap l1 l2).get? (mO t1 t2 s.heap l1 l2).objs.size=some _:=Heap.get?_push_of_some _ (Heap.get?_push_size _ rfl);have g3:(aQ t1 t2 s.heap l1 l2).get? (mN t1 t2 s.heap l1 l2).objs.size=some _:=Heap.get?_push_of_some _ (Heap.get?_push_of_some _ (Heap.get?_push_size _ rfl));have g2:(aQ t1 t2 s.heap l1 l2).get? (mM t1 t2 s.heap l1).objs.size=some (Zc t2 l2):=Heap.get?_push_of_some _ (Heap.get?_push_of_some _ (Heap.get?_push_of_some _ (Heap.get?_push_size _ rfl)));have g1:(aQ t1 t2 s.heap l1 l2).get? s.heap.objs.size=some (Zc t1 l1):=Heap.get?_push_of_some _ (Heap.get?_push_of_some _ (Heap.get?_push_of_some _ (Heap.get?_push_of_some _ (Heap.get?_push_size _ rfl))));show _/\_;rw [z2,z3,z4] at g5;rw [z1,z2] at g3;rw [z3] at g4;rw [z1] at g2;rw [z4];exact ⟨⟨_,g5,rfl⟩,h _ g5 g3 g4 (RF g1) (RF g2) z5 λc o x=>Heap.get?_push_of_some _ (Heap.get?_push_of_some _ (Heap.get?_push_of_some _ (Heap.get?_push_of_some _ (Heap.get?_push_of_some _ x))))⟩
end
end PySem
namespace L2
open PySem PySem.Spec PyProof.Rows
theorem Inv.abn {X:Cx}{pins:List (Addr × Obj)}{σ:St}{H:Hp}{s:Shared}{h':Heap}{t':Nat}{fp:List Addr}(I:Inv X pins σ H s)(hf:∀ b∈fp,GJ X pins H b)(k:∀ b o,b∉fp->s.heap.get? b=some o->h'.get? b=some o):Inv X pins σ H { s with heap:=h',toks:=t' }:=by
 have nb:∀ b u,H b=some u->b∉fp:=λb u e z=>by rw [(hf b z).1] at e;cases e
 refine I.abv (s':={ s with heap:=h',toks:=t' }) (ch:=fp) rfl ⟨λb o e _ _ hb=>k b o hb e,λb o e _ _ hb=>⟨o.slots,k b o hb e⟩,λb o e n _=>n,λb o e hb=>⟨o,k b o hb e⟩,λ_ _ z=>z,λ_ _ _ z=>z,λb ps z=>⟨#[],by rw [z];simp⟩⟩ ?_ I.bare ?_
 ·intro b u e;exact (I.hok b u e).abq (λc v kQ q=>k c v (by
    rcases kQ with rfl | z
    ·exact nb _ _ e
    ·exact nb _ _ z) q) (λ_ q=>q) λ_ _ q=>q
 ·intro b hb;obtain ⟨_,f1,_,f3,f4,f5⟩:=hf b hb;exact ⟨f3,f1,f4,f5⟩
noncomputable def rA (K:W.Frag)(l1 l2:Addr):It :=
 ⟨λi H=>∃ xs ys,Ba K H l1 xs/\H l2=some (.lst ys)/\i < xs.length/\i < ys.length,λi H v H'=>∃ T x y,H T=none/\v=.ref T/\H'=upd H T (.tup [x,y])/\(∀ xs,Ba K H l1 xs->xs[i]?=some x)/\∀ ys,H l2=some (.lst ys)->ys[i]?=some y,λi H=>∃ xs,Ba K H l1 xs/\xs.length<=i⟩
structure rB (h:Heap)(z TI TO i1 i2 l1 l2:Addr)(i:Nat):Prop where
 hz:IsZip h z TI TO .none
 hI:IsPair h TI (.ref i1) (.ref i2)
 hO:∃ a b,IsPair h TO a b
 h1:F3 true h i1 l1 i
 h2:F3 false h i2 l2 i
theorem Ov (x:F3 tu h i l k):∃ o,h.get? i=some o/\∀ v,o.data≠.cell v:=by
 cases tu with
 | false =>
  have x:h.IsListIter i l k:=x;obtain ⟨o,e,c,d⟩:=x;exact ⟨o,e,λv z=>by rw [d] at z;cases z⟩
 | true =>
  have x:h.IsTupleIter i l k:=x;obtain ⟨o,e,c,d⟩:=x;exact ⟨o,e,λv z=>by rw [d] at z;cases z⟩
theorem Wb {P:Program}{w:World}{K:W.Frag}{elts:List Expr}{x1}{pos:Pos}{z TI TO i1 i2 l1 l2:Addr}(D:ZipApart z TI TO i1 i2 l1 l2):Turn P w K (.Tuple elts x1 pos) (rA K l1 l2) [z,TI,TO,i1,i2] z (λi h=>rB h z TI TO i1 i2 l1 l2 i) where
 mem:=by simp
 obj:=λi h st b hb=>by
  obtain ⟨hz,hI,⟨a,c,hO⟩,h1,h2⟩:=st;simp only [List.mem_cons,List.not_mem_nil,or_false] at hb;rcases hb with rfl | rfl | rfl | rfl | rfl
  ·exact ⟨_,hz,λv z=>by have z':Data.fields _=Data.cell v:=z;cases z'⟩
  ·exact ⟨_,hI,λv z=>by have z':Data.seq _ _=Data.cell v:=z;cases z'⟩
  ·exact ⟨_,hO,λv z=>by have z':Data.seq _ _=Data.cell v:=z;cases z'⟩
  ·exact Ov h1
  ·exact Ov h2
 keep:=λi h h' ⟨hz,hI,⟨a,c,hO⟩,h1,h2⟩ k=>⟨k z (by simp) _ hz,k TI (by simp) _ hI,⟨a,c,k TO (by simp) _ hO⟩,h1.at λo e=>k i1 (by simp) o e,h2.at λo e=>k i2 (by simp) o e⟩
 item:=by
  intro X hP hw hK hc i pins s σ H E I hf st hg;subst hP hw hK;obtain ⟨hz,hI,⟨a,c,hO⟩,h1,h2⟩:=st;obtain ⟨xs,ys,dO,mS,xr,hi2⟩:=hg;obtain ⟨its,rv,p1,_⟩:=I.tuple dO;obtain ⟨its',n2,xu,Ub,_⟩:=I.lst mS;have p2:s.heap.IsList l2 its'.toArray:=⟨_,Ub,rfl,n2,rfl⟩;have hx:xs[i]?=some xs[i]:=List.getElem?_eq_getElem xr;have hy:ys[i]?=some ys[i]:=List.getElem?_eq_getElem hi2;obtain ⟨u,hu,ru⟩:=rv.get hx;obtain ⟨u',hu',NQ⟩:=xu.get hy;refine Jw (t1:=true) (t2:=false) (x:=u) (y:=u') D hz hI hO h1 h2 (show F4 true s.heap l1 its.toArray from p1) (show F4 false s.heap l2 its'.toArray from p2) (by simpa using hu) (by simpa using hu') λh' a1 a2 a3 a4 a5 a6 a7=>⟨_,rfl,?_⟩;refine wpAny_letOwnedTupleGo_zip (s:={ s with heap:=h' }) a1 λdi K0 sb=>?_;have k2:∀ b o,b∉[z,TI,TO,i1,i2]->s.heap.get? b=some o->di.get? b=some o:=λb o hb e=>by
   simp only [List.mem_cons,List.not_mem_nil,or_false,not_or] at hb;exact (sb.2 b hb.1).trans (a7 b o hb.1 hb.2.2.1 hb.2.2.2.1 hb.2.2.2.2 e)
  have I2:Inv X pins σ H { s with heap:=di,toks:=s.toks }:=Inv.abn I hf k2;have lt:∀ b∈[z,TI,TO,i1,i2],b≠s.heap.objs.size:=λb hb z=>by
   obtain ⟨o1,e1,_⟩:∃ o,s.heap.get? b=some o/\True:=by
    simp only [List.mem_cons,List.not_mem_nil,or_false] at hb;rcases hb with rfl | rfl | rfl | rfl | rfl
    ·exact ⟨_,hz,trivial⟩
    ·exact ⟨_,hI,trivial⟩
    ·exact ⟨_,hO,trivial⟩
    ·obtain ⟨o,e⟩:=h1.ex;exact ⟨o,e,trivial⟩
    ·obtain ⟨o,e⟩:=h2.ex;exact ⟨o,e,trivial⟩
   have:=Heap.lt_size e1;rw [z] at this;exact Nat.lt_irrefl _ this
  have hn:H s.heap.objs.size=none:=I.hok.fresh (Nat.le_refl _);obtain ⟨_,g1,_,_,g4,g5⟩:=I.abj (H':=H) (Nat.le_refl _) hn;have ph:di.get? s.heap.objs.size=some { cls:=.type "tuple",data:=.seq #[u,u'] }:=(sb.2 _ (Ne.symm (lt z (by simp)))).trans a5;have I3:Inv X pins σ (upd H s.heap.objs.size (.tup [xs[i],ys[i]])) { s with heap:=di,toks:=s.toks } :=
   I2.aaw hn (Heap.get?_none_of_le I.sz) g1 g4 g5 ⟨by show 2<=sizeLine;rw [sizeLine_eq];decide,[u,u'],.cons ru (.cons NQ .nil),⟨_,ph,rfl,_,rfl⟩⟩
  refine ⟨.ref s.heap.objs.size,_,I3,rfl,⟨_,_,_,hn,rfl,rfl,λzs Gv=>by rw [I.aar Gv dO];exact hx,λzs Gv=>by rw [mS] at Gv;cases Gv;exact hy⟩,⟨K0,?_,⟨u,u',?_⟩,?_,?_⟩,λb hb=>?_⟩
  ·exact (sb.2 _ D.TIz).trans (a7 _ _ D.TIz D.TITO D.TIi1 D.TIi2 hI)
  ·exact (sb.2 _ D.TOz).trans a2
  ·exact a3.at λo e=>(sb.2 _ D.i1z).trans e
  ·exact a4.at λo e=>(sb.2 _ D.i2z).trans e
  ·rw [A8 (lt b hb)];exact (hf b hb).1
 done:=by
  intro X hP hw hK hc i pins s σ H E I hf st hg;subst hP hw hK;obtain ⟨hz,hI,⟨a,c,hO⟩,h1,h2⟩:=st;obtain ⟨xs,dO,xr⟩:=hg;obtain ⟨its,rv,p1,_⟩:=I.tuple dO;have hl:=rv.length;refine Kv (tu:=true) (I.ok.hd hc) D hz hI hO h1 (show F4 true s.heap l1 its.toArray from p1) (by rw [Array.getElem?_eq_none_iff,List.size_toArray];omega) λh' k=>⟨rfl,Inv.abn (t':=s.toks) I hf λb o hb e=>?_⟩;simp only [List.mem_cons,List.not_mem_nil,or_false,not_or] at hb;exact k b o hb.1 hb.2.2.1 hb.2.2.2.1 hb.2.2.2.2 e
 self:=λ_ _ _ _ _ st h=>wpAny_pyIter_zip st.hz h
section
variable {X:Cx}{elts:List Expr}{x1}{K6:Pos}
noncomputable def iG (K:W.Frag)(ta:TA):TI:=fun σ H R=>ta σ H λvs H1=>∃ l1 l2 xs ys,vs=[.ref l1,.ref l2]/\Ba K H1 l1 xs/\H1 l2=some (.lst ys)/\R (rA K l1 l2) H1
theorem iH (hg:Gl X "zip")(hm:X.mg "zip"=none)(ha:SA X [a,b] ta)(hs:starEach [a,b] X.env=(false,eval a X.env)::starEach [b] X.env:=by rfl)(Ck:(backTo pos (starEach [b] X.env)).any (·.1)=false:=by rfl):SI X (.Tuple elts x1 K6) (.Call (.Name "zip" p) [a,b] [] pos) (iG X.K ta):=⟨by
 intro pins s σ H R I h;refine Call_ (D6 I hg hm boot_zip (PyProof.Rows.callWith_type1 (AK (ha.out pos pins s σ H _ I h) λus s1 q1=>?_) hs Ck));obtain ⟨vs,H1,I1,r1,l1,l2,xs,ys,rfl,dO,mS,q⟩:=q1;obtain ⟨u,u',rfl,ru,NQ⟩:=vals2 r1;obtain rfl:u=Value.ref l1:=ru;obtain rfl:u'=Value.ref l2:=NQ;obtain ⟨its,rv,p1,_⟩:=I1.tuple dO;obtain ⟨its',n2,xu,Ub,_⟩:=I1.lst mS;have p2:s1.heap.IsList l2 its'.toArray:=⟨_,Ub,rfl,n2,rfl⟩;have P1:F4 true s1.heap l1 its.toArray:=p1;have P2:F4 false s1.heap l2 its'.toArray:=p2;obtain ⟨o1,ho⟩:=P1.ex;obtain ⟨o2,Uv⟩:=P2.ex;refine Wa P1 P2 λh1 a1 a2 a3 a4 a5 a6 a7=>?_;refine wpAny_pyIter_zip a1 ?_;refine ⟨s1.heap.objs.size+4,[s1.heap.objs.size+4,s1.heap.objs.size+2,s1.heap.objs.size+3,s1.heap.objs.size,s1.heap.objs.size+1],_,_,H1,rfl,I1.kept (t':=s1.toks) a7,Wb (Zd _ _ _ (Heap.lt_size ho) (Heap.lt_size Uv)),⟨a1,a2,⟨_,_,a3⟩,a4,a5⟩,λb hb=>?_,q⟩;have ZS:s1.heap.objs.size<=b:=by
  simp only [List.mem_cons,List.not_mem_nil,or_false] at hb;rcases hb with rfl | rfl | rfl | rfl | rfl
  ·exact Nat.le_add_right _ _
  ·exact Nat.le_add_right _ _
  ·exact Nat.le_add_right _ _
  ·exact Nat.le_refl _
  ·exact Nat.le_add_right _ _
 exact I1.abj ZS (I1.hok.fresh ZS)⟩
end
section
variable {K:W.Frag}{σ:St}{H:Hp}
theorem Wc (q:t σ H λvs H1=>∃ l1 l2 xs ys,vs=[.ref l1,.ref l2]/\Ba K H1 l1 xs/\H1 l2=some (.lst ys)/\R (rA K l1 l2) H1):iG K t σ H R:=q
end
open KS
open KX
section
variable {X:Cx}{o e f:Expr}{td ty tx:TE}{apos B8:Pos}
theorem Wf (ho:SE X o td)(he:SE X e ty)(hf:SE X f tx)(m:M2 X o "pop" apos e f B8):SE X (.Call (.Attribute o "pop" apos) [e,f] [] B8) (Mf td ty tx):=⟨Rb ho.out he.out hf.out m⟩
theorem T9 (q:td σ H λx H1=>∃ a,x=.ref a/\YV H1 a/\ty σ H1 λy H2=>tx σ H2 λz H3=>∃ kvs k,H3 a=some (.dK kvs)/\y=kV k/\(∀ v,AN kvs k=some v->Q v (upd H3 a (.dK (C0 kvs k))))/\(AN kvs k=none->Q z H3)):Mf td ty tx σ H Q:=q
theorem Wg (q:to σ H λo H1=>ti σ H1 λi H2=>t o i v H2 λH3=>Q σ H3):Yn to ti t v σ H Q:=q
theorem Wh (q:te σ H λx H1=>g x σ H1 D.nx):LG te g D σ H:=q
end
theorem FJ (k j:Key):∀ kvs:List (Key × V),AN (C0 kvs k) j=if j=k then none else AN kvs j
 | []=>by simp [C0,AN]
 | p::r=>by
  by_cases e:p.1=k
  ·rw [Pk e,FJ k j r];by_cases ej:j=k
   ·simp [ej]
   ·rw [if_neg ej,if_neg ej,A'];exact λz=>ej (z.symm.trans e)
  ·rw [Pl e];by_cases ep:p.1=j
   ·rw [AZ ep,AZ ep,if_neg λz=>e (ep.trans z)]
   ·rw [A' ep,A' ep,FJ k j r]
noncomputable def ET (H:Hp)(d:Addr)(σ:Su):Prop:=∃ kvs:List (Key × V),H d=some (.dK kvs)/\kvs.length<=900000/\(∀ p∈kvs,∃ y:Str,p.1=.inr y)/\∀ y,(σ y=none/\AN kvs (.inr y:Key)=none)\/∃ v r,σ y=some v/\AN kvs (.inr y:Key)=some r/\As H v r
theorem ET.mono (t:Ae H H')(k:∀ b kv,H b=some (.dK kv)->H' b=some (.dK kv))(h:ET H d σ):ET H' d σ:=by
 obtain ⟨kvs,h1,h2,h3,h4⟩:=h;exact ⟨kvs,k _ _ h1,h2,h3,λy=>(h4 y).imp id λ⟨v,r,a,b,c⟩=>⟨v,r,a,b,As.mono t c⟩⟩
theorem ET.same (s:A9 H H')(h:ET H d σ):ET H' d σ:=h.mono (Ae.of_same s) λb kv e=>s _ _ e
end L2
namespace KX
open PySem Ex
theorem Ta (y:Str):∀ (ns:List Str) (σ:Su),IT σ ns y=if y∈ns then none else σ y
 | [],σ=>by simp [IT]
 | n::ns,σ=>by
  show IT (σ.rm n) ns y=_;rw [Ta y ns];by_cases h:y∈ns
  ·simp [h]
  ·by_cases e:y=n
   ·simp [h,e,Su.rm]
   ·simp [h,e,Su.rm]
theorem Tb (σ:Su)(ns:List Str)(n:Str):IT σ (ns++[n])=(IT σ ns).rm n:=by simp [IT,List.foldl_append]
noncomputable def aan:List (Nat × List Nat)->List V->List V->List V
 | (k,_)::ps,m::ms,ws=>aan ps ms (ws.set k m)
 | _,_,ws=>ws
theorem HM:∀ {ps:List (Nat × List Nat)} {ms ws:List V} {p:Nat × List Nat} {m:V},ps.length=ms.length->aan (ps++[p]) (ms++[m]) ws=(aan ps ms ws).set p.1 m
 | [],[],ws,p,m,_=>rfl
 | a::ps,b::ms,ws,p,m,h=>by
  show aan (ps++[p]) (ms++[m]) (ws.set a.1 b)=_;rw [HM (by simpa using h)];rfl
 | [],_::_,_,_,_,h=>by simp at h
 | _::_,[],_,_,_,h=>by simp at h
theorem IU:∀ (ps:List (Nat × List Nat)) (ms ws:List V),(aan ps ms ws).length=ws.length
 | [],ms,ws=>by cases ms <;> rfl
 | a::ps,[],ws=>rfl
 | a::ps,b::ms,ws=>by
  show (aan ps ms (ws.set a.1 b)).length=_;rw [IU,List.length_set]
end KX
namespace L2
open PySem PySem.Spec PyProof.Rows KS KX
theorem As.aan (ne:∀ x,e≠.nm x)(hp:H p=some (.tup (.str e.wd::us)))(he:As H e (.ref p))(t:Ae H H')(hm:Paired (λ(q:Ex × List Str) m=>As H' (Ex.sub (IT σ q.2) q.1) m) e.prt ms)(Ec:H' p'=some (.tup (KX.aan e.plc ms (.str e.wd::us)))):As H' (Ex.sub σ e) (.ref p'):=by
 cases e with
 | nm x=>exact absurd rfl (ne x)
 | num i=>obtain ⟨q,h1,h2⟩:=he;cases h1;rw [hp] at h2;cases h2;exact ⟨p',rfl,Ec⟩
 | tru i=>obtain ⟨q,h1,h2⟩:=he;cases h1;rw [hp] at h2;cases h2;exact ⟨p',rfl,Ec⟩
 | emp=>obtain ⟨q,h1,h2⟩:=he;cases h1;rw [hp] at h2;cases h2;exact ⟨p',rfl,Ec⟩
 | fn x b =>
  obtain ⟨q,rb,h1,h2,h3⟩:=he;cases h1;rw [hp] at h2;cases h2;obtain ⟨a,rfl,ha⟩:=Cw hm;exact ⟨p',a,rfl,Ec,ha⟩
 | rc f x b =>
  obtain ⟨q,rb,h1,h2,h3⟩:=he;cases h1;rw [hp] at h2;cases h2;obtain ⟨a,rfl,ha⟩:=Cw hm;exact ⟨p',a,rfl,Ec,ha⟩
 | cal a b | pr a b | lk a b =>
  obtain ⟨q,ra,rb,h1,h2,h3,h4⟩:=he;cases h1;rw [hp] at h2;cases h2;obtain ⟨c,d,rfl,hc,hd⟩:=D2 hm;exact ⟨p',c,d,rfl,Ec,hc,hd⟩
 | lt x a b =>
  obtain ⟨q,ra,rb,h1,h2,h3,h4⟩:=he;cases h1;rw [hp] at h2;cases h2;obtain ⟨c,d,rfl,hc,hd⟩:=D2 hm;exact ⟨p',c,d,rfl,Ec,hc,hd⟩
 | opn a x y b =>
  obtain ⟨q,ra,rb,h1,h2,h3,h4⟩:=he;cases h1;rw [hp] at h2;cases h2;obtain ⟨c,d,rfl,hc,hd⟩:=D2 hm;exact ⟨p',c,d,rfl,Ec,hc,hd⟩
 | op o a b =>
  obtain ⟨q,ra,rb,h1,h2,h3,h4⟩:=he;cases h1;rw [hp] at h2;cases h2;obtain ⟨c,d,rfl,hc,hd⟩:=D2 hm;exact ⟨p',c,d,rfl,Ec,hc,hd⟩
 | wh a b c =>
  obtain ⟨q,ra,rb,rc,h1,h2,h3,h4,h5⟩:=he;cases h1;rw [hp] at h2;cases h2;obtain ⟨c,d,f,rfl,hc,hd,hf⟩:=O4 hm;exact ⟨p',c,d,f,rfl,Ec,hc,hd,hf⟩
 | spl a b x y c =>
  obtain ⟨q,ra,rb,rc,h1,h2,h3,h4,h5⟩:=he;cases h1;rw [hp] at h2;cases h2;obtain ⟨c,d,f,rfl,hc,hd,hf⟩:=O4 hm;exact ⟨p',c,d,f,rfl,Ec,hc,hd,hf⟩
end L2
namespace K
open PySem L2 KM KS KX
section
variable {Pr:Program}{w:World}{K:W.Frag}{mg:Str->Option Value}{base:Heap}
noncomputable def Tc:Sp:=λvs H Q _=>∃ (d q:Addr) (σ:Su) (ns:List Str),vs=[.ref d,.ref q]/\ET H d σ/\H q=some (.tup (ns.map V.str))/\ns.length<=2/\∀ d' H',A9 H H'->ET H' d' (IT σ ns)->Q (.ref d') H'
theorem aS:Ai ["told","names","fewer","name"] ["told","names"] (A5 Bo):=nofun
theorem iI (F:Cd K "without_names" "without_names" Bo f fd)(HL:mg "dict"=none)(iJ:mg "any"=none):Aq Pr w K mg base B5 1 f fd ["told","names"] Tc:=by
 refine F.okS aS (λvs H Q E h=>?_) (λBf A outer s H vs Q E hr h=>?_)
 ·obtain ⟨d,q,σ,ns,rfl,_⟩:=h;rfl
 ·obtain ⟨d,q,σ,ns,rfl,hs,hq,hn,k⟩:=h;have hu:=Ek hr;have hs0:=hs;obtain ⟨kvs,hd,hl,hk,hv⟩:=hs;have S:AY (Cr B5 Pr w K mg base ["told","names","fewer","name"] "without_names" (A5 Bo) f Bf A outer s H E).nox (Bt (Jo (qk (ZR (inDef Bo 0))))) [("told",s.heap.objs.size+1)] ["name"] ["told"] [0] :=
   ⟨rfl,by decide +kernel,rfl,by decide +kernel,rfl,rfl,rfl,rfl⟩
  have HD:(["name","told"]:List Str).Nodup:=by decide +kernel
  refine ⟨_,(A3 (AS (Km (Kl (Bs (PJ rfl) (by rfl) iJ PyProof.Rows.boot_any (A1 (ED (tt:=G7) (te:=R1 (B9 0) (B9 1)) S rfl (ID (Aa 1)) (λC s0 H0 ex=>AQ (i:=0) HD rfl (.inl rfl)) (λ_ _ _ _=>En) (λC s0 H0 ex=>fJ hu (Aa 0) (Aa 1))) A2)))) (Ac (Ak (Aa 0))) Ax)
   (A3 (Al (i:=2) aS.nd rfl (.inl rfl) (Bw Dl (by rfl) HL PyProof.Rows.boot_dict (A1 (Aa 0) A2)))
   (A3 (F' PassesOwn.never rfl (ID (Aa 1)) (AQ (i:=3) aS.nd rfl (.inl rfl)) (Ac (Bm (Wf (Aa 2) (Aa 3) DO ⟨rfl,rfl,rfl,rfl⟩))))
   (Ac (Ak (Aa 2)))))),?_⟩
  apply ⟨q,rfl,⟨_,Ba.of hq⟩,?_⟩;have lm:(ns.map V.str).length=ns.length:=List.length_map ..;refine Ht (K:=K) (a:=q) (xs:=ns.map V.str) (λi ys H'=>H=H'/\ys=((ns.take i).map λn=>(σ n).isSome).map V.bl) ⟨rfl,rfl⟩ (λi ys H' z=>by rw [<- z.1];exact Ba.of hq) (by rw [lm];exact Bx ()) (λi ys H' z=>by rw [z.2,List.length_map,List.length_map,List.length_take];omega) rfl (λi x ys H1 hx z=>?_) (λys H1 z=>?_)
  ·obtain ⟨rfl,rfl⟩:=z;rw [List.getElem?_map] at hx;obtain ⟨y,hy,rfl⟩:=Option.map_eq_some_iff.mp hx;have hi:=(List.getElem?_eq_some_iff.mp hy).1;refine MB ?_;refine C5 ?_;apply ⟨d,_,rfl,BJ.k (k:=.inr y) hd,?_⟩;refine Nx.mk (by rw [lm];exact hi) ⟨rfl,?_⟩;rw [List.take_succ,hy];have e:(AN kvs (.inr y:Key)).isSome=(σ y).isSome:=by
    rcases hv y with ⟨a,b⟩ | ⟨v,r,a,b,_⟩ <;> rw [a,b] <;> rfl
   simp [e]
  ·obtain ⟨rfl,rfl⟩:=z;rw [lm,List.take_length];refine C1 (Nat.zero_le _) λl1 H1 Fw s1 e1=>?_;refine ⟨l1,_,rfl,e1,?_⟩;left;have k1:=hs0.same s1;by_cases Wi:(ns.map λn=>(σ n).isSome).any id=true
   ·refine Az (by rw [Wi];decide) ?_;apply ⟨d,_,rfl,.inl (s1 _ _ hd),λp1 Qq=>?_⟩;have s2:A9 H1 (upd H1 p1 (.dK kvs)):=A9.new Qq;have e2:(upd H1 p1 (.dK kvs)) p1=some (.dK kvs):=A6;generalize upd H1 p1 (.dK kvs)=H2 at s2 e2 ⊢;have BG:=s1.trans s2;have Uj:H p1=none:=s1.free Qq;apply ⟨q,rfl,⟨_,Ba.of (BG _ _ hq)⟩,?_⟩;refine Nv (K:=K) (a:=q) (xs:=ns.map V.str) (λi σ' H'=>∃ nm,σ'=[some (.ref d),some (.ref q),some (.ref p1),nm]/\A9 H H'/\ET H' p1 (IT σ (ns.take i))) ⟨none,rfl,BG,kvs,e2,hl,hk,λy=>(hv y).imp id λ⟨v,r,a,b,c⟩=>⟨v,r,a,b,As.mono (Ae.of_same BG) c⟩⟩ (λi σ' H' _ z=>?_) (λi x σ' H' hx z=>?_) fun σ' H' z=>?_
    ·obtain ⟨nm,_,s3,_⟩:=z;exact Ba.of (s3 _ _ hq)
    ·obtain ⟨nm,rfl,s3,kv,g1,g2,g3,g4⟩:=z;rw [List.getElem?_map] at hx;obtain ⟨y,hy,rfl⟩:=Option.map_eq_some_iff.mp hx;refine Hz ?_;apply T9 ?_;apply ⟨p1,rfl,.inl ⟨_,.inl g1⟩,?_⟩;left;have e3:IT σ (ns.take (i+1))=(IT σ (ns.take i)).rm y:=(by rw [List.take_succ,hy];exact Tb _ _ _);refine ⟨kv,.inr y,g1,rfl,λv LM=>?_,λLM=>?_⟩
     ·refine ⟨_,rfl,A9.put s3 Uj,C0 kv (.inr y),A6,Nat.le_trans (GZ _ _) g2,λp hp=>g3 p (Pn hp),λz=>?_⟩;have t4:Ae H' (upd H' p1 (.dK (C0 kv (.inr y)))):=Ae.put λxs z=>(by rw [g1] at z;cases z);rw [e3,FJ];simp only [Su.rm,Sum.inr.injEq];by_cases ez:z=y
      ·simp [ez]
      ·simp only [ez,if_false];exact (g4 z).imp id λ⟨v,r,a,b,c⟩=>⟨v,r,a,b,As.mono t4 c⟩
     ·refine ⟨_,rfl,s3,kv,g1,g2,g3,λz=>?_⟩;rw [e3];simp only [Su.rm];by_cases ez:z=y
      ·subst ez;simp [LM]
      ·simp only [ez,if_false];exact g4 z
    ·obtain ⟨nm,rfl,s3,g⟩:=z;rw [lm,List.take_length] at g;left;exact k p1 H' s3 g
   ·refine AR (by rw [Bool.not_eq_true] at Wi;rw [Wi];rfl) ?_;left;have e3:IT σ ns=σ:=by
     funext y
     rw [Ta];by_cases hy:y∈ns
     ·rw [if_pos hy];cases q2:σ y with
      | none=>rfl
      | some v =>
       refine absurd ?_ Wi;rw [List.any_eq_true];exact ⟨true,List.mem_map.mpr ⟨y,hy,by rw [q2];rfl⟩,rfl⟩
     ·rw [if_neg hy]
    exact k d H1 s1 (by rw [e3];exact k1)
noncomputable def Wj:Sp:=λvs H Q _=>∃ (e:Ex) (r:V) (l:Addr) (ms:List V) (σ:Su),vs=[r,.ref l]/\As H e r/\(∀ x,e≠.nm x)/\H l=some (.lst ms)/\Paired (λ(q:Ex × List Str) m=>As H (Ex.sub (IT σ q.2) q.1) m) e.prt ms/\∀ r' H',A9 H H'->As H' (Ex.sub σ e) r'->Q r' H'
theorem Wk:Ai ["tree","parts","whole","entry","part"] ["tree","parts"] (A5 Dp):=nofun
theorem iK (F:Cd K "with_parts" "with_parts" Dp f fd)(kd:D1 w K VT rows)(dB:mg "PLACES"=some (.ref VT))(kp:qg K rows)(Dc:mg "list"=none)(Bg:mg "tuple"=none)(iL:mg "zip"=none):Aq Pr w K mg base B5 1 f fd ["tree","parts"] Wj:=by
 refine F.okS Wk (λvs H Q E h=>?_) (λBf A outer s H vs Q E hr h=>?_)
 ·obtain ⟨e,r,l,ms,σ,rfl,_⟩:=h;rfl
 ·obtain ⟨e,r,l,ms,σ,rfl,he,ne,hl,hm,k⟩:=h;refine ⟨_,(A3 (Al (i:=2) Wk.nd rfl (.inl rfl) (Bw EY (by rfl) Dc PyProof.Rows.boot_list (A1 (Aa 0) A2)))
   (A3 (F' PassesOwn.never rfl (iH rfl iL (A1 (S7 kd rfl dB (eI 0) Cm) (A1 (Aa 1) A2))) (Hh rfl (Bu (AQ (i:=3) Wk.nd rfl (.inl rfl)) (Bu (AQ (i:=4) Wk.nd rfl (.inl rfl)) EF))) (Ac (fK (Aa 4) (fL (Aa 2) (eI 3) set_list))))
   (Ac (Ak (Bw D8 (by rfl) Bg PyProof.Rows.boot_tuple (A1 (Aa 2) A2)))))),?_⟩
  obtain ⟨p,us,rfl,hp,SM,gD⟩:=he.look;obtain ⟨a,rs,S9,Oi,hV⟩:=kp e;obtain ⟨Ui,wG⟩:=IS e;have lr:=Paired.len hV;have lp:=Paired.len SM;have lms:=Paired.len hm;apply ⟨p,_,rfl,.inr (Ba.of hp),λlw L3=>?_⟩;have s1:A9 H (upd H lw (.lst (.str e.wd::us))):=A9.new L3;have e1:(upd H lw (.lst (.str e.wd::us))) lw=some (.lst (.str e.wd::us)):=A6;generalize upd H lw (.lst (.str e.wd::us))=H1 at s1 e1 ⊢;apply Wc ?_;apply A4 (s1 _ _ hp) (v:=.str e.wd) (Aj (j:=0) rfl) ?_;refine ⟨e.wd,.ref a,.ref a,rfl,S9,rfl,?_⟩;apply ⟨a,l,rs,ms,rfl,Oi.sq H1,s1 _ _ hl,?_⟩;refine ⟨λi m σ' H'=>m=rs.length - i/\i<=rs.length/\∃ en pa,σ'=[some (.ref p),some (.ref l),some (.ref lw),en,pa]/\A9 H H'/\H' lw=some (.lst (KX.aan (e.plc.take i) (ms.take i) (.str e.wd::us))),⟨rs.length,by simp,Nat.zero_le _,none,none,rfl,s1,e1⟩,?_⟩;rintro i m σ' H2 ⟨rfl,hi,en,pa,rfl,s2,e2⟩;by_cases CT:i < rs.length
  ·refine .inr ⟨⟨rs,ms,Oi.sq H2,s2 _ _ hl,CT,()⟩,fun σ' H'=>∃ en pa,σ'=[some (.ref p),some (.ref l),some (.ref lw),en,pa]/\A9 H H'/\H' lw=some (.lst (KX.aan (e.plc.take (i+1)) (ms.take (i+1)) (.str e.wd::us))),fun σ' H' z=>⟨rs.length - (i+1),(),rfl,CT,z⟩,λx H' y=>?_⟩;obtain ⟨T,x1,y1,hT,rfl,rfl,dP,Wl⟩:=y;have dP:=dP rs (Oi.sq H2);have Wl:=Wl ms (s2 _ _ hl);have s3:A9 H2 (upd H2 T (.tup [x1,y1])):=A9.new hT;have e3:(upd H2 T (.tup [x1,y1])) T=some (.tup [x1,y1]):=A6;generalize upd H2 T (.tup [x1,y1])=H3 at s3 e3 ⊢;obtain ⟨row,xv,b,c,rfl,kb,kc⟩:=Paired.at hV dP;refine ⟨T,_,rfl,Ba.of e3,rfl,_,_,rfl,_,_,rfl,rfl,?_⟩;refine Wh ?_;apply Wg ?_;apply RN (kb.sq H3) (v:=.int row.1) rfl ?_;have rC:=s3 _ _ e2;have du:row.1 < (KX.aan (e.plc.take i) (ms.take i) (.str e.wd::us)).length:=by
    rw [IU];obtain ⟨pt,_,⟨wH,qO,_⟩,_⟩:=Paired.at1 SM xv;exact (List.getElem?_eq_some_iff.mp qO).1
   refine ⟨lw,_,_,_,rfl,rfl,rC,Vs du,?_⟩;refine ⟨_,_,rfl,A9.put (s2.trans s3) L3,?_⟩;rw [A6,List.take_succ,List.take_succ,xv,Wl];simp only [Option.toList_some];rw [HM];rw [List.length_take,List.length_take];omega
  ·obtain rfl:i=rs.length:=(by omega);refine .inl ⟨⟨rs,Oi.sq H2,Nat.le_refl _⟩,?_⟩;rw [List.take_of_length_le (),List.take_of_length_le ()] at e2;apply ⟨lw,_,rfl,.inl ⟨AG.of e2,λl5 rD=>?_⟩⟩;have s5:A9 H2 (upd H2 l5 (.tup (KX.aan e.plc ms (.str e.wd::us)))):=A9.new rD;have IP:=s2.trans s5;refine k _ _ IP (As.aan (H:=H) ne hp he (Ae.of_same IP) (Paired.aag hm λ_ _ z=>As.mono (Ae.of_same IP) z) A6)
end
end K
namespace L2
open PySem PySem.Spec PyProof.Rows KS KX
noncomputable def Qa (H:Hp)(t:Ex × Su)(x:V):Prop:=∃ p re d,x=.ref p/\H p=some (.tup [re,.ref d])/\As H t.1 re/\ET H d t.2
theorem HP {α β γ:Type}{F:β->γ->Prop}{g:α->β}:∀ {l:List α} {ms:List γ},Paired F (l.map g) ms->Paired (λa m=>F (g a) m) l ms
 | [],_,h=>by cases h;exact .nil
 | a::l,_,h=>by cases h with | cons x y=>exact .cons x (HP y)
theorem ET.no (h:ET H d σ)(e:H d=some (.dK kvs)):kvs.isEmpty=true↔∀ y,σ y=none:=by
 obtain ⟨kv,h1,h2,h3,h4⟩:=h;rw [e] at h1;cases h1
 constructor
 ·intro z y;rw [List.isEmpty_iff] at z;subst z;rcases h4 y with ⟨a,_⟩ | ⟨v,r,_,b,_⟩
  ·exact a
  ·cases b
 ·intro z;cases kvs with
  | nil=>rfl
  | cons p r =>
   obtain ⟨y,hy⟩:=h3 p (.head _);rcases h4 y with ⟨_,b⟩ | ⟨v,r',a,_,_⟩
   ·rw [AZ hy] at b;cases b
   ·rw [z y] at a;cases a
end L2
namespace K
open PySem L2 KM KS KX
open PySem.W (fnMade fnX)
theorem rE:XI Qa:=λH H' t x s h=>by
 obtain ⟨p,re,d,h1,h2,h3,h4⟩:=h;exact ⟨p,re,d,h1,s _ _ h2 (by intro _ z;cases z),As.mono s.abu h3,h4.mono s.abu λb kv e=>s _ _ e (by intro _ z;cases z)⟩
noncomputable def aT (H:Hp)(t:Ex × Su)(r:V):Prop:=As H (Ex.sub t.2 t.1) r
theorem dG:XI aT:=λH H' t x s h=>As.mono s.abu h
abbrev Up:Stmt:=inDef B0 0
abbrev XR:Stmt:=inDef B0 1
abbrev dQ:Str:="put_in.<locals>.parts_of"
abbrev iM:Str:="put_in.<locals>.make"
section
variable {Pr:Program}{w:World}{K:W.Frag}{mg:Str->Option Value}{base:Heap}
noncomputable def rG (f c':Addr)(o oc:Obj):Sp:=λvs H Q _=>(H f=some (C9 f o)/\H c'=some (C9 c' oc))/\∃ (t:Ex × Su) (x:V),vs=[x]/\Qa H t x/\∀ q us H',A9 H H'->H q=none->H' q=some (.lst us)->Paired (Qa H') (Cj t) us->Q (.ref q) H'
theorem rH:Ai ["entry"] ["entry"] (A5 Up):=nofun
theorem iN (U7:CW dQ oc)(cP:Cl Pr w K mg base 2 "parts_with_names" ["tree"] L4)(iO:Cl Pr w K mg base 1 "without_names" ["told","names"] Tc):
  Aq Pr w K mg base B5 3 f (fnX "parts_of" dQ (AW Up) (AF Up) (A5 Up) [] .none .none doc pm none (.ref c') Ga) ["entry"] (rG f c' (fnMade "parts_of" dQ (AW Up) (AF Up) (A5 Up) [] doc pm c' Ga) oc):=by
 refine SQ rH U7 (λvs H Q E h=>?_) (λvs H Q E h=>h.1) (λA outer s H vs Q E hr h=>?_)
 ·obtain ⟨_,t,x,rfl,_⟩:=h;rfl
 ·obtain ⟨_,t,x,rfl,hx,q⟩:=h;have DA:Ar 1 _:=hr.mono ⟨⟩;have G0:Ar 2 _:=hr;have S:AY (Cr B5 Pr w K mg base ["entry"] dQ (A5 Up) f (.ref c') A outer s H E).nox (Bt (valueOf (inDef Up 1))) [("entry",s.heap.objs.size+1)] ["part","names"] ["entry"] [0] :=
   ⟨rfl,by decide +kernel,rfl,by decide +kernel,rfl,rfl,rfl,rfl⟩
  have HD:(["part","names","entry"]:List Str).Nodup:=by decide +kernel
  refine ⟨_,(A3 (AS (Km (Bz (eI 0))) (Ac (Ak (Bi A2))) Ax)
   (Ac (Ak (ED (g:=OM K 2 (Eg (BN 0) (Eg (BN 1) OL))) (tt:=G7) (te:=Pc (Be (B9 0) (Be (EW Tc [] E0 (Be (FQ (D7 K) (B9 2) (tC (.int 1))) (Be (B9 1) DE))) DE))) S rfl (DS (Ay cP G0 rfl (A1 (eI 0) A2))) (λC s0 H0 ex=>Hh rfl (Bu (AQ (i:=0) HD rfl (.inl rfl)) (Bu (AQ (i:=1) HD rfl (.inl rfl)) EF))) (λ_ _ _ _=>En) (λC s0 H0 ex=>Ah (A1 (Aa 0) (A1 (Ay iO DA rfl (A1 (eI 2) (A1 (Aa 1) A2))) A2))))))),?_⟩
  obtain ⟨p,re,d,rfl,hp,he,hs⟩:=hx;have Z5:=hs;obtain ⟨kvs,hd,_,_,_⟩:=Z5;have kX:=hs.no hd;apply A4 hp (v:=.ref d) rfl ?_;refine ⟨!kvs.isEmpty,.inr (.inr ⟨kvs,hd,rfl⟩),?_⟩;dsimp only;by_cases hz:∀ y,t.2 y=none
  ·refine AR (by rw [kX.mpr hz];rfl) ?_;apply C1 (Dm ⟨⟩) λl1 H1 Fw s1 e1=>?_;refine q l1 [] H1 s1 Fw e1 ?_;unfold Cj;rw [if_pos hz];exact .nil
  ·refine Az (λz=>hz (kX.mp (by simpa using z))) ?_;have hk:Cj t=t.1.prt.map λp=>(p.1,IT t.2 p.2):=(by unfold Cj;rw [if_neg hz]);rw [hk] at q;apply A4 hp (v:=re) rfl ?_;apply ⟨t.1,re,rfl,he,λl rs H1 s1 hl e1 pr=>?_⟩;refine ⟨l,rfl,⟨_,AG.of e1⟩,?_⟩;have lpr:=Paired.len pr;have lp3:=Oq t.1;refine KH (K:=K) (n:=rs.length) (λi ys H'=>A9 H1 H'/\Paired (Qa H') ((t.1.prt.take i).map λp=>(p.1,IT t.2 p.2)) ys) ⟨A9.refl _,.nil⟩ (by exact Bx ()) (λi ys H' z=>?_) rfl rfl (λi ys H' hi z=>⟨rs,rs[i],AG.of (z.1 _ _ e1),by simp [hi]⟩) (λys H' z=>⟨rs,AG.of (z.1 _ _ e1),Nat.le_refl _⟩) (λi ys H2 x H2' hi z hy=>?_) (λys H2 z=>?_)
   ·rw [<- Paired.len z.2,List.length_map,List.length_take];omega
   ·obtain ⟨rfl,hy⟩:=hy;obtain ⟨s2,z⟩:=z;have dA:=hy rs (AG.of (s2 _ _ e1));obtain ⟨pt,SM,pa,qa,ra,rfl,a1,a2,a3⟩:=Paired.at1 pr dA;refine ⟨pa,_,_,rfl,Ba.of (s2 _ _ a1),?_⟩;apply C5 ?_;left;have BG:=s1.trans s2;refine A4 (BG _ _ hp) (v:=.ref d) rfl ?_;apply ⟨d,qa,t.2,pt.2,rfl,hs.same BG,s2 _ _ a3,(T1 t.1 pt (List.mem_of_getElem? SM)).2,λd' H3 s3 hs3=>?_⟩;left;intros p4 H4 s4 e4;have dR:=s3.trans s4;refine Nx.mk hi ⟨s2.trans dR,?_⟩;rw [List.take_succ,SM,List.map_append];exact Paired.app (Paired.aag z λ_ _ y=>rE _ _ _ _ (NL.of_same dR) y) (.cons ⟨p4,ra,d',rfl,e4,As.mono (Ae.of_same (s2.trans dR)) a2,hs3.same s4⟩ .nil)
   ·obtain ⟨s2,z⟩:=z;refine C1 (Nat.zero_le _) λl3 H3 Sq s3 e3=>?_;rw [show rs.length=t.1.prt.length by omega,List.take_length] at z;have BG:=s1.trans s2;exact q l3 ys H3 (BG.trans s3) (BG.free Sq) e3 (Paired.aag z λ_ _ y=>rE _ _ _ _ (NL.of_same s3) y)
noncomputable def rJ (f c':Addr)(o oc:Obj):Sp:=λvs H Q _=>(H f=some (C9 f o)/\H c'=some (C9 c' oc))/\∃ (t:Ex × Su) (x:V) (l:Addr) (ms:List V),vs=[x,.ref l]/\Qa H t x/\H l=some (.lst ms)/\Paired (aT H) (Cj t) ms/\∀ r H',A9 H H'->aT H' t r->Q r H'
theorem rK:Ai ["entry","parts"] ["entry","parts"] (A5 XR):=nofun
theorem iP (U7:CW iM oc)(iQ:Cl Pr w K mg base 1 "with_parts" ["tree","parts"] Wj):
  Aq Pr w K mg base B5 2 f (fnX "make" iM (AW XR) (AF XR) (A5 XR) [] .none .none doc pm none (.ref c') Ga) ["entry","parts"] (rJ f c' (fnMade "make" iM (AW XR) (AF XR) (A5 XR) [] doc pm c' Ga) oc):=by
 refine SQ rK U7 (λvs H Q E h=>?_) (λvs H Q E h=>h.1) (λA outer s H vs Q E hr h=>?_)
 ·obtain ⟨_,t,x,l,ms,rfl,_⟩:=h;rfl
 ·obtain ⟨_,t,x,l,ms,rfl,hx,hl,hm,q⟩:=h;have DA:Ar 1 _:=hr;have hu:=Ek hr;refine ⟨_,(A3 (AS (Ao AA (Bj (r:=D7 K) BE (eI 0) A7 Cm) Ab (Ag _)) (Ac (Ak (Jd hu (eI 0) (Bj (r:=D7 K) BE (eI 0) A7 Cm) (eI 0) ⟨rfl,rfl,rfl,rfl⟩))) Ax)
   (Ac (Ak (Jc (Bz (Aa 1)) (Ay iQ DA rfl (A1 (eI 0) (A1 (Aa 1) A2))) (eI 0))))),?_⟩
  obtain ⟨p,re,d,rfl,hp,he,hs⟩:=hx;obtain ⟨pt,ut,rfl,ht,hi⟩:=he.its;apply A4 hp (v:=.ref pt) rfl ?_;apply A4 ht (v:=.str t.1.wd) (Aj (j:=0) rfl) ?_;left;by_cases c1:t.1.wd="name"
  ·obtain ⟨y,hy⟩:∃ y,t.1=.nm y:=by
    cases XQ:t.1 <;> rw [XQ] at c1 <;> first | exact ⟨_,rfl⟩ | exact absurd c1 (by simp only [Ex.wd];decide)
   rw [hy] at he;obtain ⟨aJ,h1,L7⟩:=he;cases h1;refine AR (by simp [c1]) ?_;apply A4 hp (v:=.ref d) rfl ?_;obtain ⟨kvs,hd,_,_,hv⟩:=hs;refine ⟨d,rfl,.inl ⟨_,.inl hd⟩,?_⟩;apply A4 hp (v:=.ref pt) rfl ?_;apply A4 L7 (v:=.str y) rfl ?_;apply A4 hp (v:=.ref pt) rfl ?_;refine ⟨_,BJ.k (k:=.inr y) hd,?_⟩;refine q _ H (A9.refl _) ?_;unfold aT;rw [hy];rcases hv y with ⟨a,b⟩ | ⟨v,r,a,b,c⟩
   ·simp only [Ex.sub,a,b,Option.getD_none];exact ⟨pt,rfl,L7⟩
   ·simp only [Ex.sub,a,b,Option.getD_some];exact c
  ·have ne:∀ y,t.1≠.nm y:=λy z=>c1 (by rw [z];rfl);refine Az (by simp [c1]) ?_;apply ⟨!ms.isEmpty,.inl ⟨ms,AG.of hl,rfl⟩,?_⟩;have lm:=Paired.len hm;cases ms with
   | nil =>
    refine Az (by simp) ?_;apply A4 hp (v:=.ref pt) rfl ?_;refine q _ H (A9.refl _) ?_;have e0:Ex.sub t.2 t.1=t.1:=by
     have:Cj t=[]:=List.eq_nil_of_length_eq_zero lm;unfold Cj at this;split at this
     ·rename_i z;exact aP z _
     ·have:=List.map_eq_nil_iff.mp this;cases XQ:t.1 with
      | nm y=>exact absurd XQ (ne y)
      | num _ | tru _ | emp=>rfl
      | _=>rw [XQ] at this;simp [Ex.prt] at this
    unfold aT;rw [e0];exact he
   | cons m ms =>
    refine AR (by simp) ?_;apply A4 hp (v:=.ref pt) rfl ?_;left;have hk:Cj t=t.1.prt.map λp=>(p.1,IT t.2 p.2):=by
     unfold Cj;split
     ·rename_i z;unfold Cj at lm;rw [if_pos z] at lm;simp at lm
     ·rfl
    rw [hk] at hm;exact ⟨t.1,.ref pt,l,m::ms,t.2,rfl,he,ne,hl,HP (F:=aT H) (g:=λp:Ex × List Str=>(p.1,IT t.2 p.2)) hm,λr' H' s' h'=>q r' H' s' h'⟩
noncomputable def DZ (Pt:Addr)(H:Hp):Prop:=DY Pt (Stmt.pos Up) (Stmt.pos XR) dQ iM H
noncomputable def Td (Pt:Addr):Sp:=λvs H Q _=>∃ (e:Ex) (r:V) (d:Addr) (σ:Su),vs=[r,.ref d]/\As H e r/\ET H d σ/\e.sz<=400000/\DZ Pt H/\∀ r' H',BV Pt H H'->As H' (Ex.sub σ e) r'->DZ Pt H'->Q r' H'
theorem aU:Ai ["tree","told","parts_of","make"] ["tree","told"] (A5 B0):=nofun
theorem iR {f c0 Pt:Addr}{oc kV doc pm ct:Value}{od an:Option Addr}{U9:Array (Option Value)}
  (lk:K.lookup f=some ⟨oc,od,.func (W.fnOf "put_in" "put_in" (AW B0) (AF B0) (A5 B0) .none kV doc pm an (.ref c0) ct),U9⟩) (HY:W.codeIn K (.ref c0) "put_in"=true)
  (B:FX base mg c0 Pt) (cP:Cl Pr w K mg base 2 "parts_with_names" ["tree"] L4) (iO:Cl Pr w K mg base 1 "without_names" ["told","names"] Tc) (iQ:Cl Pr w K mg base 1 "with_parts" ["tree","parts"] Wj)
  (cB:Cl Pr w K mg base 6 "built" ["top","parts_of","make"] (HI Pr w K mg base)) :
  Aq Pr w K mg base B5 7 f (W.fnOf "put_in" "put_in" (AW B0) (AF B0) (A5 B0) .none kV doc pm an (.ref c0) ct) ["tree","told"] (Td Pt):=by
 refine Xc lk HY aU (λvs H Q E h=>?_) (λA outer s H vs Q E hr h=>?_)
 ·obtain ⟨e,r,d,σ,rfl,_⟩:=h;rfl
 ·obtain ⟨e,r,d,σ,rfl,he,hs,hz,tab,k⟩:=h
  suffices hh:∃ tt,SB (Cr B5 Pr w K mg base ["tree","told","parts_of","make"] "put_in" (A5 B0) f (.ref c0) A outer s H E).nox (AF B0) tt/\tt { nx:=λ_ H'=>Q .non H',rt:=Q } (start ["tree","told","parts_of","make"] [r,.ref d]) H by
   obtain ⟨tt,h1,h2⟩:=hh;exact ⟨tt,h1.out.nox,h2⟩
  refine ⟨_,A3 (SN (i:=2) (q:=dQ) (aa7:=[]) B rfl rfl rfl rfl rfl rfl aU.nd rfl (.inl rfl)) (A3 (SN (i:=3) (q:=iM) (aa7:=[]) B rfl rfl rfl rfl rfl rfl aU.nd rfl (.inl rfl))
   (Ac (Ak (Ay cB hr rfl (A1 (Ah (A1 (Aa 0) (A1 (Aa 1) A2))) (A1 (Aa 2) (A1 (Aa 3) A2))))))),?_⟩
  refine SR ⟨⟩ tab λf1 f2 a b oa ob LB Um d1 d2 H1 sx Wm ha hoa hb hob cU cX=>?_;obtain ⟨ps0,iS⟩:=tab.tab;have t1:Ae H H1:=sx.sub iS;have he1:=As.mono t1 he;have dm:ET H1 d σ:=hs.mono t1 λb kv e=>sx _ _ e λz=>by rw [z,iS] at e;cases e
  left;intros p2 H2 s2 e2;apply ⟨Ex × Su,Cj,aO,Qa,aT,(e,σ),.ref p2,f1,f2,rfl,T6,rE,dG,⟨p2,r,d,rfl,e2,As.mono (Ae.of_same s2) he1,dm.same s2⟩,Nat.le_trans (T7 _ (e,σ) (Nat.le_refl _)) (show e.sz<=500000 by omega),?_,?_,λr' H3 s3 h3=>k r' H3 (sx.trans (BV.of (s2.trans s3))) h3 (Wm.same (s2.trans s3))⟩
  ·exact ⟨_,"entry",_,(iN (f:=f1) (c':=a) (oc:=oa) hoa cP iO).mono ⟨⟩,Binds.all (Zf λ_=>rfl),.inr ⟨_,rfl,s2 _ _ cU⟩,λH' t x Q' sm hx kk=>⟨⟨sm _ _ (s2 _ _ cU),sm _ _ (s2 _ _ ha)⟩,t,x,rfl,hx,kk⟩⟩
  ·exact ⟨_,"entry","parts",_,(iP (f:=f2) (c':=b) (oc:=ob) hob iQ).mono ⟨⟩,Binds.all (RM λ_ _=>rfl),.inr ⟨_,rfl,s2 _ _ cX⟩,λH' t x l ms Q' sm hx hl hm kk=>⟨⟨sm _ _ (s2 _ _ cX),sm _ _ (s2 _ _ hb)⟩,t,x,l,ms,rfl,hx,hl,hm,kk⟩⟩
end
end K
namespace L2
open PySem PySem.Spec PyProof.Rows KS KX
noncomputable def tNo:TS:=λ_ _ _=>False
section
variable {X:Cx}
theorem D':SS X (.Raise e c pos) tNo:=⟨λ_ _ _ _ _ _ h=>h.elim⟩
noncomputable def XT (i:Nat)(t:TE):TS:=λD σ H=>t σ H (λv H'=>D.nx (σ.set i (some v)) H')
variable {i:Nat}{y:Str}{e o:Expr}{t ta:TE}{b₀:Stmt}{XD:List Stmt}{py apos Ji pos:Pos}{hx:Option Expr}{n:Option Str}{C f:Addr}{m:Str}{k:Nat}{ps:List Str}{sp:Sp}
theorem aV (hN:X.N.Nodup)(hi:X.N[i]?=some y)(hy:Loc X.env.scope y)(he:SE X e t)(hxe:X.xe=λ_ _=>False:=by rfl)(hs:swapsWith e (some (.Name y py)) apos.line X.env=pure false:=by rfl)(hf:X.fn y=true\/X.env.scope.names.lookup y=some .local:=by exfalso):
  SS X (.Try [.Assign [.Name y py] e apos] [.ExceptHandler hx n (b₀::XD) Ji] [] [] pos) (XT i t):=⟨by
 intro pins s σ H D I h;refine wpAny_Try_except ?_;refine wpAny_execs_cons ?_;refine wpAny_Assign_Name (wpAny_mono (he.out pins s σ H _ I h) (λv s1 q1=>?_) λex s1 q1=>?_) hs
 ·obtain ⟨v',H1,I1,r1,q⟩:=q1;refine DC I1 hN hi hy r1 (λs2 I2=>?_) hf;refine wpAny_execs_nil ?_;exact wpAny_execs_nil ⟨_,H1,I2,q⟩
 ·rw [hxe] at q1;exact q1.elim⟩
theorem MY {t:TE}(q:t σ H (λv H'=>u D (σ.set i (some v)) H')):Bh (XT i t) u D σ H:=q
theorem iT (he:SE X o ta)(c:Gi X.K C)(M:Mc X.prog X.w X.K X.mg X.base B5 C k m ps sp)(hr:Ar k X.A)(ht:eval (.Call (.Attribute o m apos) [] [] pos) X.env=(do
   let ov <- eval o X.env
   standAt apos.atName
   let (f,first) <- holding [ov] (getMethod ov m pl)
   callWith pos f first (backTo pos (starEach [] X.env)) (backToKw pos (keywordEach [] X.env))):=by rfl) :
  SE X (.Call (.Attribute o m apos) [] [] pos) (EX C m sp [] E0 ta DE):=by
 obtain ⟨f,fd,F,hb,hm⟩:=M;exact Vu he c hm F hr hb ht
end
end L2
namespace K
open PySem L2 KM KS KX
section
variable {Pr:Program}{w:World}{K:W.Frag}{mg:Str->Option Value}{base:Heap}{C CS:Addr}{bS:List Value}{nS Jx Bn:String}{N:Nt}
noncomputable def aW (C:Addr)(N:Nt)(H:Hp)(e:Ex)(E:Ev)(p:Addr):Prop:=∃ re d kvs,H p=some (.tup [re,.ref d])/\As H e re/\H d=some (.dK kvs)/\Cq C N H E kvs
noncomputable def CP (C CS:Addr)(N:Nt)(W:Ex->Prop):Sp:=λvs H Q E=>∃ (e:Ex) (vals:List RV) (rt:V) (l:Addr) (us:List V),vs=[rt,.ref l]/\W e/\vals.length=e.pls.length/\As H e rt/\H l=some (.lst us)/\Paired (B' C N H) vals us /\
 (own e vals=none->∀ H',A9 H H'->False)/\∀ e' E',own e vals=some (e',E')->∀ p H',A9 H H'->aW C N H' e' E' p->Q (.ref p) H'
theorem E3 {kvs:List (Key × V)}(hp:H p=none)(s:A9 H H2)(h:∀ b,b≠p->H3 b=H2 b):A9 H H3:=λb o e=>by
 rw [h b λz=>by rw [z,hp] at e;cases e];exact s _ _ e
theorem iU:Ai ["tree","values"] ["tree","values"] (A5 Fy):=nofun
theorem aX (F:Cd K "own_let" "own_let" Fy f fd):Aq Pr w K mg base B5 1 f fd ["tree","values"] (CP C CS N λe=>∃ x a b,e=.lt x a b):=by
 refine F.okS iU (λvs H Q E h=>?_) (λBf A0 outer s0 H vs Q E hr h=>?_)
 ·obtain ⟨e,vals,rt,l,us,rfl,_⟩:=h;rfl
 ·obtain ⟨e,vals,rt,l,us,rfl,⟨x,a,b,rfl⟩,hl,he,L9,hv,q1,q2⟩:=h;refine ⟨_,(Ac (Ak (Ah (A1 (eI 0) (A1 (DR (C6 (eI 0) (Bj (r:=C4 K) AE (Aa 1) A7 Cm) FZ) rfl rfl (by simp) ⟨⟩) A2))))),?_⟩;obtain ⟨p,ra,rb,rfl,hp,ha,hb⟩:=he;rcases vals with _ | ⟨v,_ | ⟨v',vals⟩⟩
  ·simp [Ex.pls] at hl
  ·obtain ⟨rv,rfl,La⟩:=Cw hv;apply A4 hp (v:=rb) rfl ?_;apply Cv λd H1 hd s1 e1=>?_;apply A4 (s1 _ _ hp) (v:=.str x) rfl ?_;apply BF (AG.of (s1 _ _ L9)) (v:=rv) rfl ?_;apply ⟨e1,[(.inr x,rv)],rfl,Nat.le_of_ble_eq_true rfl,λH2 o2 e2=>?_⟩;have BG:A9 H H2:=E3 (kvs:=[]) hd s1 o2;left;intros p3 H3 s3 e3;refine q2 b _ rfl p3 H3 (BG.trans s3) ⟨rb,d,_,e3,As.mono (Ae.of_same (BG.trans s3)) hb,s3 _ _ e2,?_⟩;exact Cq.mrg (.cons ⟨rfl,La.mono (TK.of_same (BG.trans s3)) λ_ _ h=>h⟩ .nil) .nil
  ·simp [Ex.pls] at hl
theorem iV:Ai ["tree","values"] ["tree","values"] (A5 EJ):=nofun
theorem aY (F:Cd K "own_when" "own_when" EJ f fd):Aq Pr w K mg base B5 1 f fd ["tree","values"] (CP C CS N λe=>∃ a b c,e=.wh a b c):=by
 refine F.okS iV (λvs H Q E h=>?_) (λBf A0 outer s0 H vs Q E hr h=>?_)
 ·obtain ⟨e,vals,rt,l,us,rfl,_⟩:=h;rfl
 ·obtain ⟨e,vals,rt,l,us,rfl,⟨a,b,c,rfl⟩,hl,he,L9,hv,q1,q2⟩:=h;refine ⟨_,(A3 (AS (Ao FR (Bj (r:=D7 K) BE (Bj (r:=C4 K) AE (Aa 1) A7 Cm) A7 Cm) Ab (Ag _)) (Ac D') Ax)
   (Ac (Ak (Ah (A1 (Jc (Kl (Bj (r:=D7 K) BE (Bj (r:=C4 K) AE (Aa 1) A7 Cm) A7 Cm)) (eI 0) (eI 0)) (A1 DQ A2)))))),?_⟩
  obtain ⟨p,ra,rb,rc,rfl,hp,ha,hb,hc⟩:=he;rcases vals with _ | ⟨v,_ | ⟨v',vals⟩⟩
  ·simp [Ex.pls] at hl
  ·obtain ⟨rv,rfl,La⟩:=Cw hv;obtain ⟨pv,uv,rfl,GD⟩:=La.look;apply BF (AG.of L9) (v:=.ref pv) rfl ?_;apply A4 GD (v:=.str (C8 v)) (Aj (j:=0) rfl) ?_;left;by_cases w1:C8 v="truth"
   ·obtain ⟨t,rfl⟩:=aK w1;cases La with
    | tru GD =>
    refine Az (show ¬ (!decide (V.str "truth"=V.str "truth"))=true by decide) ?_;apply BF (AG.of L9) (v:=.ref pv) rfl ?_;apply A4 GD (v:=.bl t) rfl ?_;left;have fin:∀ (z:Ex) (rz:V),own (.wh a b c) [.tru t]=some (z,[])->As H z rz->∀ d,H d=none->∀ H2 p2,A9 (upd H d (.dK [])) H2->H2 p2=some (.tup [rz,.ref d])->Q (.ref p2) H2:=λz rz ho hz d hd H2 p2 s2 e2=>by
     have BG:A9 H H2:=(A9.new hd).trans s2;exact q2 z [] ho p2 H2 BG ⟨rz,d,[],e2,As.mono (Ae.of_same BG) hz,s2 _ _ A6,.nil⟩
    cases t with
    | true =>
     refine C5 ?_;apply A4 hp (v:=rb) rfl ?_;left;intro d hd;left;intros p2 H2 s2 e2;exact fin b rb rfl hb d hd H2 p2 s2 e2
    | false =>
     refine Ce ?_;apply A4 hp (v:=rc) rfl ?_;left;intro d hd;left;intros p2 H2 s2 e2;exact fin c rc rfl hc d hd H2 p2 s2 e2
   ·refine AR (by simpa using w1) ?_;exact q1 (aM w1) _ (A9.refl _)
  ·simp [Ex.pls] at hl
theorem XU:Ai ["tree","values","pair"] ["tree","values"] (A5 EK):=nofun
theorem aZ (F:Cd K "own_open" "own_open" EK f fd):Aq Pr w K mg base B5 1 f fd ["tree","values"] (CP C CS N λe=>∃ a x y b,e=.opn a x y b):=by
 refine F.okS XU (λvs H Q E h=>?_) (λBf A0 outer s0 H vs Q E hr h=>?_)
 ·obtain ⟨e,vals,rt,l,us,rfl,_⟩:=h;rfl
 ·obtain ⟨e,vals,rt,l,us,rfl,⟨a,x,y,b,rfl⟩,hl,he,L9,hv,q1,q2⟩:=h;refine ⟨_,(A3 (Al (i:=2) XU.nd rfl (.inl rfl) (Bj (r:=C4 K) AE (Aa 1) A7 Cm))
   (A3 (AS (Ao FR (eI 2) Ab (Ag _)) (Ac D') Ax)
   (Ac (Ak (Ah (A1 (eI 0) (A1 (DR (C6 (eI 0) (eI 2) (C6 (eI 0) (eI 2) FZ)) rfl rfl (by simp) ⟨⟩) A2))))))),?_⟩
  obtain ⟨p,ra,rb,rfl,hp,ha,hb⟩:=he;rcases vals with _ | ⟨v,_ | ⟨v',vals⟩⟩
  ·simp [Ex.pls] at hl
  ·obtain ⟨rv,rfl,La⟩:=Cw hv;obtain ⟨pv,uv,rfl,GD⟩:=La.look;apply BF (AG.of L9) (v:=.ref pv) rfl ?_;apply A4 GD (v:=.str (C8 v)) (Aj (j:=0) rfl) ?_;left;by_cases w1:C8 v="pair"
   ·obtain ⟨v1,v2,rfl⟩:=iE w1;cases La with
    | @two _ _ _ _ n dx d0 r1 r2 t0 GD _ _ _ h1 h2 =>
    refine Az (show ¬ (!decide (V.str "pair"=V.str "pair"))=true by decide) ?_;apply A4 hp (v:=rb) rfl ?_;apply Cv λd H1 hd s1 e1=>?_;apply A4 (s1 _ _ hp) (v:=.str x) rfl ?_;apply A4 (s1 _ _ GD) (v:=r1) rfl ?_;apply A4 (s1 _ _ hp) (v:=.str y) rfl ?_;apply A4 (s1 _ _ GD) (v:=r2) rfl ?_;apply ⟨e1,[(.inr x,r1),(.inr y,r2)],rfl,Nat.le_of_ble_eq_true rfl,λH2 o2 e2=>?_⟩;have BG:A9 H H2:=E3 (kvs:=[]) hd s1 o2;left;intros p3 H3 s3 e3;have k3:TK C N H H3:=TK.of_same (BG.trans s3);refine q2 b _ rfl p3 H3 (BG.trans s3) ⟨rb,d,_,e3,As.mono k3.t hb,s3 _ _ e2,?_⟩;exact Cq.mrg (.cons ⟨rfl,h1.mono k3 λ_ _ h=>h⟩ (.cons ⟨rfl,h2.mono k3 λ_ _ h=>h⟩ .nil)) .nil
   ·refine AR (by simpa using w1) ?_;exact q1 (W4 w1) _ (A9.refl _)
  ·simp [Ex.pls] at hl
theorem XW:Ai ["tree","values","whole"] ["tree","values"] (A5 DT):=nofun
theorem b7 (F:Cd K "own_split" "own_split" DT f fd):Aq Pr w K mg base B5 1 f fd ["tree","values"] (CP C CS N λe=>∃ a b x y c,e=.spl a b x y c):=by
 refine F.okS XW (λvs H Q E h=>?_) (λBf A0 outer s0 H vs Q E hr h=>?_)
 ·obtain ⟨e,vals,rt,l,us,rfl,_⟩:=h;rfl
 ·obtain ⟨e,vals,rt,l,us,rfl,⟨a,b,x,y,c,rfl⟩,hl,he,L9,hv,q1,q2⟩:=h;refine ⟨_,(A3 (Al (i:=2) XW.nd rfl (.inl rfl) (Bj (r:=C4 K) AE (Aa 1) A7 Cm))
   (A3 (AS (Ao AA (eI 2) Ab (Ag _)) (Ac (Ak (Ah (A1 (eI 0) (A1 DQ A2))))) Ax)
   (A3 (AS (Ao AA (eI 2) Ab (Ag _)) (Ac (Ak (Ah (A1 (eI 0) (A1 (DR (C6 (eI 0) (eI 2) (C6 (eI 0) (eI 2) FZ)) rfl rfl (by simp) ⟨⟩) A2))))) Ax)
   (Ac D')))),?_⟩
  obtain ⟨p,ra,rb,rc,rfl,hp,ha,hb,hc⟩:=he;rcases vals with _ | ⟨v,_ | ⟨v',vals⟩⟩
  ·simp [Ex.pls] at hl
  ·obtain ⟨rv,rfl,La⟩:=Cw hv;obtain ⟨pv,uv,rfl,GD⟩:=La.look;apply BF (AG.of L9) (v:=.ref pv) rfl ?_;apply A4 GD (v:=.str (C8 v)) (Aj (j:=0) rfl) ?_;left;by_cases w1:C8 v="empty"
   ·refine AR (decide_eq_true (by rw [w1])) ?_;obtain rfl:=aL w1;apply A4 hp (v:=rb) rfl ?_;left;intro d hd;left;intros p2 H2 s2 e2;have BG:A9 H H2:=(A9.new hd).trans s2;exact q2 b [] rfl p2 H2 BG ⟨rb,d,[],e2,As.mono (Ae.of_same BG) hb,s2 _ _ A6,.nil⟩
   ·refine Az (by simpa using w1) ?_;apply A4 GD (v:=.str (C8 v)) (Aj (j:=0) rfl) ?_;left;by_cases w2:C8 v="link"
    ·refine AR (decide_eq_true (by rw [w2])) ?_;obtain ⟨v1,v2,rfl⟩:=iF w2;cases La with
     | @two _ _ _ _ n dx d0 r1 r2 t0 GD _ _ _ h1 h2 =>
     apply A4 hp (v:=rc) rfl ?_;apply Cv λd H1 hd s1 e1=>?_;apply A4 (s1 _ _ hp) (v:=.str x) rfl ?_;apply A4 (s1 _ _ GD) (v:=r1) rfl ?_;apply A4 (s1 _ _ hp) (v:=.str y) rfl ?_;apply A4 (s1 _ _ GD) (v:=r2) rfl ?_;apply ⟨e1,[(.inr x,r1),(.inr y,r2)],rfl,Nat.le_of_ble_eq_true rfl,λH2 o2 e2=>?_⟩;have BG:A9 H H2:=E3 (kvs:=[]) hd s1 o2;left;intros p3 H3 s3 e3;have k3:TK C N H H3:=TK.of_same (BG.trans s3);refine q2 c _ rfl p3 H3 (BG.trans s3) ⟨rc,d,_,e3,As.mono k3.t hc,s3 _ _ e2,?_⟩;exact Cq.mrg (.cons ⟨rfl,h1.mono k3 λ_ _ h=>h⟩ (.cons ⟨rfl,h2.mono k3 λ_ _ h=>h⟩ .nil)) .nil
    ·refine Az (by simpa using w2) ?_;exact q1 (W5 w1 w2) _ (A9.refl _)
  ·simp [Ex.pls] at hl
theorem XX:Ai ["tree","values","function"] ["tree","values"] (A5 EI):=nofun
theorem b8 (F:Cd K "own_call" "own_call" EI f fd):Aq Pr w K mg base B5 1 f fd ["tree","values"] (CP C CS N λe=>∃ a b,e=.cal a b):=by
 refine F.okS XX (λvs H Q E h=>?_) (λBf A0 outer s0 H vs Q E hr h=>?_)
 ·obtain ⟨e,vals,rt,l,us,rfl,_⟩:=h;rfl
 ·obtain ⟨e,vals,rt,l,us,rfl,⟨a,b,rfl⟩,hl,he,L9,hv,q1,q2⟩:=h;refine ⟨_,(A3 (Al (i:=2) XX.nd rfl (.inl rfl) (Bj (r:=C4 K) AE (Aa 1) A7 Cm))
   (A3 (AS (Ao AA (eI 2) Ab (Ag _)) (Ac (Ak (Ah (A1 (eI 2) (A1 (DR (C6 (eI 2) (Bj (r:=C4 K) AE (Aa 1) A7 Cm) FZ) rfl rfl (by simp) ⟨⟩) A2))))) Ax)
   (A3 (AS (Ao AA (eI 2) Ab (Ag _)) (Ac (Ak (Ah (A1 (eI 2) (A1 (DR (C6 (eI 2) (Aa 2) (C6 (eI 2) (Bj (r:=C4 K) AE (Aa 1) A7 Cm) FZ)) rfl rfl (by simp) ⟨⟩) A2))))) Ax)
   (Ac D')))),?_⟩
  rcases vals with _ | ⟨v,_ | ⟨u,_ | ⟨v',vals⟩⟩⟩
  ·simp [Ex.pls] at hl
  ·simp [Ex.pls] at hl
  ·obtain ⟨rv,ru,rfl,La,iW⟩:=D2 hv;obtain ⟨pv,uv,rfl,GD⟩:=La.look;apply BF (AG.of L9) (v:=.ref pv) rfl ?_;apply A4 GD (v:=.str (C8 v)) (Aj (j:=0) rfl) ?_;left;by_cases w1:C8 v="fun"
   ·refine AR (decide_eq_true (by rw [w1])) ?_;obtain ⟨x,d0,E0,rfl⟩:=iC w1;cases La with
    | @fn _ _ _ _ n dx dd rb t0 kvs GD hb _ _ _ _ _ _ =>
    apply A4 GD (v:=rb) rfl ?_;apply Cv λd H1 hd s1 e1=>?_;apply A4 (s1 _ _ GD) (v:=.str x) rfl ?_;apply BF (AG.of (s1 _ _ L9)) (v:=ru) rfl ?_;apply ⟨e1,[(.inr x,ru)],rfl,Nat.le_of_ble_eq_true rfl,λH2 o2 e2=>?_⟩;have BG:A9 H H2:=E3 (kvs:=[]) hd s1 o2;left;intros p3 H3 s3 e3;have k3:TK C N H H3:=TK.of_same (BG.trans s3);refine q2 d0 _ rfl p3 H3 (BG.trans s3) ⟨rb,d,_,e3,As.mono k3.t hb,s3 _ _ e2,?_⟩;exact Cq.mrg (.cons ⟨rfl,iW.mono k3 λ_ _ h=>h⟩ .nil) .nil
   ·refine Az (by simpa using w1) ?_;apply A4 GD (v:=.str (C8 v)) (Aj (j:=0) rfl) ?_;left;by_cases w2:C8 v="rec"
    ·refine AR (decide_eq_true (by rw [w2])) ?_;obtain ⟨g,x,d0,E0,rfl⟩:=iD w2;have rL:=La;cases La with
     | @rc _ _ _ _ _ n dx dd rb t0 kvs GD hb _ _ _ _ _ _ =>
     apply A4 GD (v:=rb) rfl ?_;apply Cv λd H1 hd s1 e1=>?_;apply A4 (s1 _ _ GD) (v:=.str g) rfl ?_;apply A4 (s1 _ _ GD) (v:=.str x) rfl ?_;apply BF (AG.of (s1 _ _ L9)) (v:=ru) rfl ?_;apply ⟨e1,[(.inr g,.ref pv),(.inr x,ru)],rfl,Nat.le_of_ble_eq_true rfl,λH2 o2 e2=>?_⟩;have BG:A9 H H2:=E3 (kvs:=[]) hd s1 o2;left;intros p3 H3 s3 e3;have k3:TK C N H H3:=TK.of_same (BG.trans s3);refine q2 d0 _ rfl p3 H3 (BG.trans s3) ⟨rb,d,_,e3,As.mono k3.t hb,s3 _ _ e2,?_⟩;exact Cq.mrg (.cons ⟨rfl,rL.mono k3 λ_ _ h=>h⟩ (.cons ⟨rfl,iW.mono k3 λ_ _ h=>h⟩ .nil)) .nil
    ·refine Az (by simpa using w2) ?_;exact q1 (W6 w1 w2) _ (A9.refl _)
  ·simp [Ex.pls] at hl
end
end K
namespace L2
open PySem PySem.Spec PyProof.Rows KS
section
variable {X:Cx}{pins:List (Addr × Obj)}{σ:St}{H:Hp}{s:Shared}{a b:Addr}{kvs more:List (Key × V)}{A:Around}{E:Value->Shared->Prop}
theorem Te (I:Inv X pins σ H s)(ea:H a=some (.dK kvs))(eb:H b=some (.dK more))(hn:a≠b)(hl:kvs.length+more.length<=sizeLine)(h:∀ s',Inv X pins σ (upd H a (.dK (Bq kvs more))) s'->Q .none s'):wpAny (model X.prog X.w) A (call (.builtin "dict.update") [.ref a,.ref b]) Q E s:=by
 obtain ⟨z,hd,vs,rel,dd⟩:=G' I.hok ea;obtain ⟨z',IW,ws,iX,Kg⟩:=G' I.hok eb;refine call_meetsIn PySem.F.slot_dict_update dd.typeIs PySem.F.entry_dict_update (PySem.F.args_dict_update_2 _ _) (meets_dict_update (Ap X.prog X.w) a b hn IW)
  ⟨vs,ws,dd,Kg,by rw [<- rel.length,<- iX.length];exact hl,λh' d1 d2 hs=>h _ ?_⟩
 have he:∃ q,h'.get? a=some q:=let ⟨q,_,_,hq,_⟩:=d1;⟨q,hq⟩;have Ej:(Bq kvs more).length<=sizeLine:=Nat.le_trans (D9 more kvs) hl;exact E7 (t':=s.toks) I (by rw [ea];exact True.intro) hs he (Ey Ej hd (iX.merge rel) d1)
end
section
variable {X:Cx}{o e:Expr}{td ty:TE}{apos B8:Pos}
noncomputable def Tf (td ty:TE):TE:=fun σ H Q=>td σ H λx H1=>∃ a,x=.ref a/\YV H1 a/\ty σ H1 λy H2=>∃ b kvs more,y=.ref b/\a≠b/\H2 a=some (.dK kvs)/\H2 b=some (.dK more)/\kvs.length+more.length<=sizeLine/\Q .non (upd H2 a (.dK (Bq kvs more)))
theorem Wn (ho:PE X o td)(he:PE X e ty)(m:M1 X o "update" apos e B8):PE X (.Call (.Attribute o "update" apos) [e] [] B8) (Tf td ty):=by
 intro pins s σ H Q I h;refine wpAny_Call_method m.base m.few m.line PySem.F.plainAttrs_dict PySem.F.slot_dict_update PySem.F.type_dict_update (AK (ho pins s σ H _ I h) λu s1 Au=>?_);obtain ⟨x,H1,I1,rx,a,ex,d,q1⟩:=Au;subst ex;obtain rfl:u=Value.ref a:=rx;obtain ⟨t1,t2,_⟩:=Md I1 d;refine ⟨t1,t2,?_⟩;rw [m.trees];refine Calls.callWith_builtin rfl (Calls.evalArgs_plain (Calls.spliced_cons (AK (he pins s1 σ H1 _ I1 q1) λiv s2 Au=>?_)));obtain ⟨y,H2,I2,ry,b,kvs,more,ey,hn,ea,eb,hl,q2⟩:=Au;refine Calls.spliced_nil ?_;subst ey;obtain rfl:iv=Value.ref b:=ry;exact Te I2 ea eb hn hl λs3 I3=>⟨.non,_,I3,rfl,q2⟩
theorem b9 (ho:SE X o td)(he:SE X e ty)(m:M1 X o "update" apos e B8):SE X (.Call (.Attribute o "update" apos) [e] [] B8) (Tf td ty):=⟨Wn ho.out he.out m⟩
theorem Wo (q:td σ H λx H1=>∃ a,x=.ref a/\YV H1 a/\ty σ H1 λy H2=>∃ b kvs more,y=.ref b/\a≠b/\H2 a=some (.dK kvs)/\H2 b=some (.dK more)/\kvs.length+more.length<=sizeLine/\Q .non (upd H2 a (.dK (Bq kvs more)))):Tf td ty σ H Q:=q
variable {x:Str}{a:Addr}{rows:List (Str × Value)}{i f:Expr}{tx:TE}{p:Pos}
noncomputable def MZ (rows:List (Str × Value))(ty tx:TE):TE:=fun σ H Q=>ty σ H λy H1=>tx σ H1 λz H2=>∃ (k:Str),y=.str k/\(rowAt rows k=none->Q z H2)/\∀ u,rowAt rows k=some u->∃ v,RelV v u/\Q v H2
theorem Tg (d:D1 X.w X.K a rows)(iY:(a==sysModules)=false)(hg:Gl X x)(hm:X.mg x=some (.ref a))(hi:PE X i ty)(hf:PE X f tx)(m:M2 X (.Name x p) "get" apos i f B8)(Eh:(x==("__debug__":Str))=false:=by decide):PE X (.Call (.Attribute (.Name x p) "get" apos) [i,f] [] B8) (MZ rows ty tx):=by
 intro pins s σ H Q I h;refine wpAny_Call_method m.base m.few m.line PySem.F.plainAttrs_dict PySem.F.slot_dict_get PySem.F.type_dict_get (AK (IY (v:=.ref a) hg hm rfl Eh pins s σ H (λy H1=>y=.ref a/\H1=H) I ⟨rfl,rfl⟩) λu s1 Au=>?_);obtain ⟨x',H1,I1,rx,e1,e2⟩:=Au;subst e1 e2;obtain rfl:u=Value.ref a:=rx;have xw:s1.heap.DictOf (Ap X.prog X.w) a (rows.map λr=>(.inr r.1,r.2)):=O2 d λo ho=>I1.kIn a o ho;refine ⟨xw.typeIs,λb q=>?_,?_⟩
 ·cases q;obtain ⟨ob,_,_,h1,h2,_⟩:=xw;exact ⟨ob,h1,h2.2.1⟩
 rw [m.trees];refine Calls.callWith_builtin rfl (Calls.evalArgs_plain (Calls.spliced_cons (AK (hi pins s1 σ H1 _ I1 h) λiv s2 Au=>?_)));obtain ⟨y,H2,I2,ry,q2⟩:=Au;refine Calls.spliced_cons (AK (hf pins s2 σ H2 _ I2 q2) λfv s3 Au=>?_);obtain ⟨z,H3,I3,rz,k,ey,q3,q4⟩:=Au;refine Calls.spliced_nil ?_;subst ey;have dd:s3.heap.DictOf (Ap X.prog X.w) a (rows.map λr=>(.inr r.1,r.2)):=O2 d λo ho=>I3.kIn a o ho;refine call_meetsIn PySem.F.slot_dict_get dd.typeIs PySem.F.entry_dict_get (PySem.F.args_dict_get_3 _ _ _) (meets_dict_get_default (Ap X.prog X.w) a (CV (k:=.inr k) ry) iY fv) ⟨_,dd.mapOf,?_⟩;rw [Hx];cases hr:rowAt rows k with
 | none=>exact ⟨z,H3,I3.tok _,rz,q3 hr⟩
 | some u =>
  obtain ⟨v,rv,q5⟩:=q4 u hr;exact ⟨v,H3,I3.tok _,rv,q5⟩
theorem Wq (d:D1 X.w X.K a rows)(iY:(a==sysModules)=false)(hg:Gl X x)(hm:X.mg x=some (.ref a))(hi:SE X i ty)(hf:SE X f tx)(m:M2 X (.Name x p) "get" apos i f B8)(Eh:(x==("__debug__":Str))=false:=by decide):SE X (.Call (.Attribute (.Name x p) "get" apos) [i,f] [] B8) (MZ rows ty tx):=⟨Tg d iY hg hm hi.out hf.out m Eh⟩
theorem Ti (q:ty σ H λy H1=>tx σ H1 λz H2=>∃ (k:Str),y=.str k/\(rowAt rows k=none->Q z H2)/\∀ u,rowAt rows k=some u->∃ v,RelV v u/\Q v H2):MZ rows ty tx σ H Q:=q
end
end L2
namespace K
open PySem L2 KM KS KX
noncomputable def KFp (K:W.Frag)(rows:List (Str × Value)):Prop:=∀ e:Ex,(e.pls=[]/\rowAt rows e.wd=none)\/∃ a,rowAt rows e.wd=some (.ref a)/\HA K a (e.pls.map λk:Nat=>V.int k)
section
variable {Pr:Program}{w:World}{K:W.Frag}{mg:Str->Option Value}{base:Heap}{C:Addr}{N:Nt}
noncomputable def Wr (K:W.Frag):Sp:=λvs H Q _=>∃ (e:Ex) (r:V),vs=[r]/\As H e r/\∀ a H',A9 H H'->(∀ H2,Ae H' H2->Ba K H2 a (e.pls.map λk:Nat=>V.int k))->Q (.ref a) H'
theorem rM:Ai ["tree"] ["tree"] (A5 CL):=nofun
theorem iZ (F:Cd K "first_places" "first_places" CL f fd)(kdF:D1 w K XY rows)(iY:(XY==sysModules)=false)(rN:mg "FIRST_PLACES"=some (.ref XY))(hF:KFp K rows):Aq Pr w K mg base B5 1 f fd ["tree"] (Wr K):=by
 refine F.okS rM (λvs H Q E h=>?_) (λBf A outer s H vs Q E hr h=>?_)
 ·obtain ⟨e,r,rfl,_⟩:=h;rfl
 ·obtain ⟨e,r,rfl,he,q⟩:=h;refine ⟨_,(Ac (Ak (Wq kdF iY rfl rN (eI 0) (Ah A2) ⟨rfl,rfl,rfl,rfl⟩))),?_⟩;obtain ⟨p,us,rfl,hp,hi⟩:=he.its;apply Ti ?_;apply A4 hp (v:=.str e.wd) (Aj (j:=0) rfl) ?_;apply C1 (Dm ⟨⟩) λp0 H1 Uj s1 e1=>?_;refine ⟨e.wd,rfl,λhn=>?_,λu hu=>?_⟩
  ·rcases hF e with ⟨h1,_⟩ | ⟨a,h1,_⟩
   ·refine q p0 H1 s1 ?_;rw [h1];exact λH2 t=>Ba.of (t _ _ e1)
   ·rw [hn] at h1;cases h1
  ·rcases hF e with ⟨_,h1⟩ | ⟨a,h1,h2⟩
   ·rw [hu] at h1;cases h1
   ·rw [hu] at h1;cases h1;exact ⟨.ref a,rfl,q a H1 s1 λH2 _=>h2.sq H2⟩
noncomputable def j4 (C:Addr)(N:Nt):Sp:=λvs H Q _=>∃ (d l:Addr) (E E':Ev) (kvs ls:List (Key × V)),vs=[.ref d,.ref l]/\H d=some (.dK kvs)/\Cq C N H E kvs/\H l=some (.dK ls)/\Cq C N H E' ls/\E.length+E'.length<=1000000 /\
 ∀ d' N1 H',A9 H H'->H' d'=some (.dK N1)->Cq C N H' (AI E E') N1->Q (.ref d') H'
theorem j6:Ai ["given","names","wider"] ["given","names"] (A5 DU):=nofun
theorem j7 (F:Cd K "given_too" "given_too" DU f fd)(HL:mg "dict"=none):Aq Pr w K mg base B5 1 f fd ["given","names"] (j4 C N):=by
 refine F.okS j6 (λvs H Q E h=>?_) (λBf A outer s H vs Q E hr h=>?_)
 ·obtain ⟨d,l,E,E',kvs,ls,rfl,_⟩:=h;rfl
 ·obtain ⟨d,l,E',xx,kvs,ls,rfl,hd,hE,hl,xy,hlen,q⟩:=h;refine ⟨_,(A3 (AS (Km (Bz (Aa 1))) (Ac (Ak (Aa 0))) Ax)
   (A3 (Al (i:=2) j6.nd rfl (.inl rfl) (Bw Dl (by rfl) HL PyProof.Rows.boot_dict (A1 (Aa 0) A2)))
   (A3 (Bm (b9 (Aa 2) (Aa 1) ⟨rfl,rfl,rfl,rfl⟩))
   (Ac (Ak (Aa 2)))))),?_⟩
  have l1:=Paired.len hE;have l2:=Paired.len xy;apply ⟨!ls.isEmpty,.inr (.inr ⟨ls,hl,rfl⟩),?_⟩;dsimp only;cases ls with
  | nil =>
   refine AR rfl ?_;left;obtain rfl:xx=[]:=(by cases xx with | nil=>rfl | cons a b=>simp at l2);exact q d kvs H (A9.refl _) hd hE
  | cons r rs =>
   refine Az (by show ¬ (false=true);decide) ?_;apply ⟨d,_,rfl,.inl hd,λp1 Qq=>?_⟩;have s1:A9 H (upd H p1 (.dK kvs)):=A9.new Qq;have e1:(upd H p1 (.dK kvs)) p1=some (.dK kvs):=A6;generalize upd H p1 (.dK kvs)=H1 at s1 e1 ⊢;apply Wo ?_;apply ⟨p1,rfl,.inl ⟨_,.inl e1⟩,?_⟩;apply ⟨l,kvs,r::rs,rfl,(λz=>by rw [z,hl] at Qq;cases Qq),e1,s1 _ _ hl,Dm (),?_⟩;have s2:A9 H (upd H1 p1 (.dK (Bq kvs (r::rs)))):=A9.put s1 Qq;left;exact q p1 _ _ s2 A6 ((xy.mrg hE).mono (TK.of_same s2) λ_ _ h=>h)
noncomputable def Ws (C:Addr):Sp:=λvs H Q _=>∃ (p dx:Addr) (d:Addr),vs=[.ref p,.ref d]/\H p=some (.ins C dx [])/\Q .non (upd H p (.ins C dx (nF d .non)))
structure Lb (K:W.Frag)(mg:Str->Option Value)(C:Addr):Prop where
 cl:Gi K C
 nG:BD K C "given"
 nT:BD K C "told"
 mC:mg "Note"=some (.ref C)
theorem rO:Ai ["self","given"] ["self","given"] (A5 Bc):=nofun
theorem j8 (F:Cd K "__init__" "Note.__init__" Bc f fd)(T:Lb K mg C):Aq Pr w K mg base B5 1 f fd ["self","given"] (Ws C):=by
 refine F.okS rO (λvs H Q E h=>?_) (λBf A outer s H vs Q E hr h=>?_)
 ·obtain ⟨p,dx,d,rfl,_⟩:=h;rfl
 ·obtain ⟨p,dx,d,rfl,hp,q⟩:=h;refine ⟨_,(A3 (IF (Aa 0) (Aa 1))
   (Ac (IF (Aa 0) DO))),?_⟩
  apply ⟨p,C,dx,[],rfl,hp,T.cl,T.nG,by simp,?_⟩;apply ⟨p,C,dx,_,rfl,A6,T.cl,T.nT,(show ([("given",.ref d)]:List (Str × V)).length < 1000 by simp),?_⟩;rw [Gf];exact q
end
end K
namespace L2
open PySem PySem.Spec PyProof.Rows
noncomputable def Jy (K:W.Frag)(a:Addr)(n:Nat):It :=
 ⟨λi H=>∃ xs,Ba K H a xs/\xs.length=n/\i < n,λi H x H'=>H'=H/\∀ xs,Ba K H a xs->xs.reverse[i]?=some x,λi _=>n<=i⟩
theorem Qb {P:Program}{w:World}{K:W.Frag}{tg:Expr}(a it:Addr)(n:Nat)(hn:n < 2 ^ 40):Turn P w K tg (Jy K a n) [it] it (λi h=>i<=n/\h.IsRt it a ((n:Int) - 1 - (i:Int))) where
 mem:=by simp
 obj:=by
  intro i h st b hb;obtain rfl:b=it:=by simpa using hb
  obtain ⟨_,o,e,c,d⟩:=st;exact ⟨o,e,λv z=>by rw [d] at z;cases z⟩
 keep:=λi h h' st k=>⟨st.1,st.2.at λo e=>k it (by simp) o e⟩
 item:=by
  intro X hP hw hK hc i pins s σ H E I hf st hg;subst hP hw hK;obtain ⟨xs,hq,eK,hi⟩:=hg;obtain ⟨its,rv,p,hz⟩:=I.tuple hq;have hlen:=rv.length;obtain ⟨f0,f1,f2,f3,f4,f5⟩:=hf it (by simp);have ix:n - 1 - i < xs.length:=by omega
  have hx:xs[n - 1 - i]?=some (xs[n - 1 - i]'ix):=List.getElem?_eq_getElem ix;obtain ⟨u,hu,ru⟩:=rv.get hx;have ei:(n:Int) - 1 - (i:Int)=((n - 1 - i:Nat):Int):=by omega
  have HU:=st.2;rw [ei] at HU;refine Vj HU p (x:=u) (by simpa using hu) (by rw [List.size_toArray];omega) λh' tk K0 sb=>?_;have I1:Inv X pins σ H { s with heap:=h',toks:=tk }:=I.turned (t':=tk) (λb o hb e=>(sb.2 b hb).trans e) f0 f1 f3 f4 f5;have e2:((n - 1 - i:Nat):Int) - 1=(n:Int) - 1 - ((i+1:Nat):Int):=by omega
  rw [e2] at K0;obtain ⟨o,e,c,d⟩:=id K0;refine ⟨u,rfl,JZ (s:={ s with heap:=h',toks:=tk }) e c d ⟨⟩ ⟨xs[n - 1 - i]'ix,H,I1,ru,⟨rfl,λys hy=>?_⟩,⟨hi,K0⟩,λb hb=>(hf b hb).1⟩⟩;rw [I.aar hy hq,List.getElem?_reverse (),<- hx]
  congr 1
  omega
 done:=by
  intro X hP hw hK hc i pins s σ H E I hf st hg;subst hP hw hK;obtain ⟨f0,f1,f2,f3,f4,f5⟩:=hf it (by simp);have yJ:n<=i:=hg;have e1:(n:Int) - 1 - (i:Int)=-1:=by have:=st.1;omega
  have HU:=st.2;rw [e1] at HU;exact Vk (I.ok.hd hc) HU λh' eb=>⟨rfl,I.turned (t':=s.toks) (λb o hb e=>eb b o hb e) f0 f1 f3 f4 f5⟩
 self:=λ_ _ _ _ _ st h=>IC st.2 h
section
variable {X:Cx}{tg:Expr}
noncomputable def Tj (K:W.Frag)(ta:TA):TI:=fun σ H R=>ta σ H λvs H1=>∃ a xs,vs=[.ref a]/\Ba K H1 a xs/\xs.length < 1000000/\R (Jy K a xs.length) H1
theorem Wt (hg:Gl X "reversed")(hm:X.mg "reversed"=none)(ha:PA X [a] ta)(hs:starEach [a] X.env=[(false,eval a X.env)]:=by rfl):PI X tg (.Call (.Name "reversed" p) [a] [] pos) (Tj X.K ta):=by
 intro pins s σ H R I h;refine Call_ (D6 I hg hm boot_reversed (PyProof.Rows.callWith_type1 (AK (ha pos pins s σ H _ I h) λus s1 q1=>?_) hs rfl));obtain ⟨vs,H1,I1,r1,l,xs,rfl,hq,hx,q⟩:=q1;obtain ⟨u,rfl,ru⟩:=vals1 r1;cases ru;obtain ⟨its,rv,pl,hz⟩:=I1.tuple hq;have hlen:=rv.length;refine Vi pl (by rw [List.size_toArray];omega) ?_;have gr:(s1.heap.push (Rm l ((its.toArray.size:Int) - 1))).IsRt s1.heap.objs.size l ((xs.length:Int) - 1 - ((0:Nat):Int)):=by
  refine ⟨_,Heap.get?_push_size _ rfl,rfl,?_⟩;show Data.fields #[.ref l,rawInt ((its.toArray.size:Int) - 1)]=_;rw [List.size_toArray,<- hlen];simp
 refine IC gr ?_;refine ⟨s1.heap.objs.size,[s1.heap.objs.size],_,_,H1,rfl,I1.kept (t':=s1.toks+1+1) λb o e=>Heap.get?_push_of_some _ e,Qb l _ xs.length (),⟨Nat.zero_le _,gr⟩,λb hb=>?_,q⟩;obtain rfl:b=s1.heap.objs.size:=by simpa using hb
 exact I1.abj (Nat.le_refl _) (I1.hok.fresh (Nat.le_refl _))
theorem bb (hg:Gl X "reversed")(hm:X.mg "reversed"=none)(ha:SA X [a] ta)(hs:starEach [a] X.env=[(false,eval a X.env)]:=by rfl):SI X tg (.Call (.Name "reversed" p) [a] [] pos) (Tj X.K ta):=⟨Wt hg hm ha.out hs⟩
end
section
variable {K:W.Frag}{σ:St}{H:Hp}{a:Addr}{xs:List V}{tt:TT}{te:TE}{Fin:List V->Hp->Prop}
theorem Qc (Pv:Nat->List V->Hp->Prop)(h0:Pv 0 [] H)(hl:∀ i ys H,Pv i ys H->Ba K H a xs)(hn:xs.length < sizeLine)(hy:∀ i ys H,Pv i ys H->ys.length<=i)(e0:σ[0]?=some none)(hs:∀ i x ys H,xs.reverse[i]?=some x->Pv i ys H->tt (σ.set 0 (some x)) H λb H3=>if b=true then te (σ.set 0 (some x)) H3 λy H4=>Nx xs.length i Pv (ys++[y]) H4 else Nx xs.length i Pv ys H3)(hd:∀ ys H,Pv xs.length ys H->Fin ys H):Dw (Jy K a xs.length) H σ (BN 0) tt te Fin :=
 DW Pv h0 hn hy (λi ys H hi p=>⟨xs,hl i ys H p,rfl,hi⟩) (λys H p=>Nat.le_refl _)
  (λi ys H x H' hi p y=>by
   obtain ⟨rfl,y⟩:=y;exact ⟨Ext.set e0,hs i x ys _ (y xs (hl i ys _ p)) p⟩) hd
theorem Tn (q:t σ H λvs H1=>∃ a xs,vs=[.ref a]/\Ba K H1 a xs/\xs.length < 1000000/\R (Jy K a xs.length) H1):Tj K t σ H R:=q
end
end L2
namespace KX
open PySem Ex
noncomputable def Ed:Ex->Prop
 | .cal _ _ | .lt _ _ _ | .wh _ _ _ | .opn _ _ _ _ | .spl _ _ _ _ _ | .op _ _ _=>True
 | _=>False
noncomputable def XZ:Ex->List RV->Ev->Ev
 | .cal _ _,.fn _ _ E::_,_=>E
 | .cal _ _,.rc _ _ _ E::_,_=>E
 | _,_,E=>E
noncomputable def Wu:Ex->Nat
 | .cal _ _=>1
 | _=>0
noncomputable def FwO (E:Ev)(W:List (Ex × Ev × Bool))(P:List RV)(c:Nat)(e:Ex)(vals:List RV)(r:RS):Option (Ex × Ev)->Prop
 | some p=>r=.go ⟨(p.1,AI (XZ e vals E) p.2,false)::W,P,c+Wu e⟩
 | none=>r=.stuck
theorem bc (E:Ev)(W:List (Ex × Ev × Bool))(P:List RV)(c:Nat)(hs:Ed e)(hl:vals.length=e.pls.length):FwO E W P c e vals (Ig e E W (vals.reverse++P) c) (own e vals):=by
 cases e with
 | cal a b =>
  rcases vals with _ | ⟨v,_ | ⟨u,_ | ⟨v',vals⟩⟩⟩ <;> try cases hl
  cases v <;> rfl
 | lt x a b =>
  rcases vals with _ | ⟨v,_ | ⟨u,vals⟩⟩ <;> try cases hl
  rfl
 | wh a b d =>
  rcases vals with _ | ⟨v,_ | ⟨u,vals⟩⟩ <;> try cases hl
  cases v <;> rfl
 | opn a x y b =>
  rcases vals with _ | ⟨v,_ | ⟨u,vals⟩⟩ <;> try cases hl
  cases v with
  | two l _ _=>cases l <;> rfl
  | _=>rfl
 | spl a b x y d =>
  rcases vals with _ | ⟨v,_ | ⟨u,vals⟩⟩ <;> try cases hl
  cases v with
  | two l _ _=>cases l <;> rfl
  | _=>rfl
 | op o a b =>
  rcases vals with _ | ⟨v,_ | ⟨u,_ | ⟨v',vals⟩⟩⟩ <;> try cases hl
  cases v <;> cases u <;> rfl
 | _=>exact hs.elim
theorem Lc (hs:Ed e)(hl:vals.length=e.pls.length):(own e vals=none/\Ig e E W (vals.reverse++P) c=.stuck)\/∃ e' E',own e vals=some (e',E')/\Ig e E W (vals.reverse++P) c=.go ⟨(e',AI (XZ e vals E) E',false)::W,P,c+Wu e⟩:=by
 have h:=bc E W P c hs hl;cases q:own e vals with
 | none=>rw [q] at h;exact .inl ⟨rfl,h⟩
 | some p=>rw [q] at h;exact .inr ⟨p.1,p.2,rfl,h⟩
end KX
namespace L2
open PySem PySem.Spec PyProof.Rows KS KX
structure RA where
 p:Addr
 dx:Addr
 lw:Addr
 lp:Addr
noncomputable def rF (A:RA)(c:Int):List (Str × V):=[("waiting",.ref A.lw),("pile",.ref A.lp),("calls",.int c)]
theorem To (A:RA)(c b:Int):CU "calls" (.int b) (rF A c)=rF A b:=rfl
noncomputable def Ld (C:Addr)(N:Nt)(H:Hp)(t:Ex × Ev × Bool)(r:V):Prop:=∃ p re d kvs,r=.ref p/\H p=some (.tup [re,.ref d,.bl t.2.2])/\As H t.1 re/\H d=some (.dK kvs)/\Cq C N H t.2.1 kvs
theorem Ld.mono (k:TK C N H H')(s:W2 N N')(h:Ld C N H t r):Ld C N' H' t r:=by
 obtain ⟨p,re,d,kvs,h1,h2,h3,h4,h5⟩:=h;exact ⟨p,re,d,kvs,h1,k.t _ _ h2,As.mono k.t h3,k.d _ _ h4,h5.mono k s⟩
structure AV (C CR:Addr)(A:RA)(N:Nt)(H:Hp)(s:Rn):Prop where
 ex:∃ ws vs,H A.p=some (.ins CR A.dx (rF A s.calls))/\H A.lw=some (.lst ws)/\Paired (Ld C N H) s.wait.reverse ws/\H A.lp=some (.lst vs)/\Paired (B' C N H) s.aac.reverse vs
 nd:∀ n v,N n=some v->H n≠none
 ne:A.lw≠A.lp
 cc:CR≠C
noncomputable def B2 (A:RA)(H H':Hp):Prop:=∀ b o,H b=some o->b≠A.p->b≠A.lw->b≠A.lp->H' b=some o
theorem B2.of_same (s:A9 H H'):B2 A H H':=λb o e _ _ _=>s b o e
theorem B2.trans (a:B2 A H1 H2)(b:B2 A H2 H3):B2 A H1 H3:=λc o e x y z=>b c o (a c o e x y z) x y z
theorem B2.p:B2 A H (upd H A.p o):=λb u e x _ _=>by rw [A8 x];exact e
theorem B2.lw:B2 A H (upd H A.lw o):=λb u e _ x _=>by rw [A8 x];exact e
theorem B2.lp:B2 A H (upd H A.lp o):=λb u e _ _ x=>by rw [A8 x];exact e
theorem Ad (N:Nt):W2 N N:=λ_ _ h=>h
theorem Jz (h:H a≠none):(upd H b o) a≠none:=by
 by_cases e:a=b
 ·subst e;rw [A6];simp
 ·rw [A8 e];exact h
section
variable {C CR:Addr}{A:RA}{N N':Nt}{H H':Hp}{s:Rn}
theorem AV.mono (M:AV C CR A N H s)(t:A9 H H')(k:W2 N N')(hn:∀ n v,N' n=some v->H' n≠none):AV C CR A N' H' s:=by
 obtain ⟨⟨ws,vs,h1,h2,h3,h4,h5⟩,nd,ne,cc⟩:=M;have tk:TK C N H H':=TK.of_same t;exact ⟨⟨ws,vs,t _ _ h1,t _ _ h2,Paired.aag h3 λ_ _ z=>z.mono tk k,t _ _ h4,Paired.aag h5 λ_ _ z=>z.mono tk k⟩,hn,ne,cc⟩
theorem AV.same (M:AV C CR A N H s)(t:A9 H H'):AV C CR A N H' s:=M.mono t (Ad N) λn v h z=>by
 have:=M.nd n v h;cases e:H n with
 | none=>exact this e
 | some o=>rw [t n o e] at z;cases z
theorem AV.tkW (M:AV C CR A N H s):TK C N H (upd H A.lw o):=by
 obtain ⟨⟨ws,vs,h1,h2,h3,h4,h5⟩,nd,ne,cc⟩:=M;exact TK.put (λxs z=>by rw [h2] at z;cases z) (λk z=>by rw [h2] at z;cases z) λdx fs z=>by rw [h2] at z;cases z
theorem AV.tkP (M:AV C CR A N H s):TK C N H (upd H A.lp o):=by
 obtain ⟨⟨ws,vs,h1,h2,h3,h4,h5⟩,nd,ne,cc⟩:=M;exact TK.put (λxs z=>by rw [h4] at z;cases z) (λk z=>by rw [h4] at z;cases z) λdx fs z=>by rw [h4] at z;cases z
theorem AV.tkC (M:AV C CR A N H s):TK C N H (upd H A.p o):=by
 obtain ⟨⟨ws,vs,h1,h2,h3,h4,h5⟩,nd,ne,cc⟩:=M;exact TK.put (λxs z=>by rw [h1] at z;cases z) (λk z=>by rw [h1] at z;cases z) λdx fs z=>by rw [h1] at z;cases z;exact cc rfl
theorem AV.acb (M:AV C CR A N H s)(hp:Paired (Ld C N H) W.reverse JT):AV C CR A N (upd H A.lw (.lst JT)) { s with wait:=W }:=by
 have tk:TK C N H (upd H A.lw (.lst JT)):=M.tkW;obtain ⟨⟨ws,vs,h1,h2,h3,h4,h5⟩,nd,ne,cc⟩:=M;have n1:A.p≠A.lw:=λz=>by rw [z,h2] at h1;cases h1
 exact ⟨⟨JT,vs,by rw [A8 n1];exact h1,A6,Paired.aag hp λ_ _ z=>z.mono tk (Ad N),by rw [A8 (Ne.symm ne)];exact h4,Paired.aag h5 λ_ _ z=>z.mono tk (Ad N)⟩,λn v h=>Jz (nd n v h),ne,cc⟩
theorem AV.acj (M:AV C CR A N H s)(hp:Paired (B' C N H) P.reverse cJ):AV C CR A N (upd H A.lp (.lst cJ)) { s with aac:=P }:=by
 have tk:TK C N H (upd H A.lp (.lst cJ)):=M.tkP;obtain ⟨⟨ws,vs,h1,h2,h3,h4,h5⟩,nd,ne,cc⟩:=M;have n1:A.p≠A.lp:=λz=>by rw [z,h4] at h1;cases h1
 exact ⟨⟨ws,cJ,by rw [A8 n1];exact h1,by rw [A8 ne];exact h2,Paired.aag h3 λ_ _ z=>z.mono tk (Ad N),A6,Paired.aag hp λ_ _ z=>z.mono tk (Ad N)⟩,λn v h=>Jz (nd n v h),ne,cc⟩
theorem AV.setC (M:AV C CR A N H s)(c:Nat):AV C CR A N (upd H A.p (.ins CR A.dx (rF A c))) { s with calls:=c }:=by
 have tk:TK C N H (upd H A.p (.ins CR A.dx (rF A c))):=M.tkC;obtain ⟨⟨ws,vs,h1,h2,h3,h4,h5⟩,nd,ne,cc⟩:=M;have n1:A.lw≠A.p:=λz=>by rw [z,h1] at h2;cases h2
 have n2:A.lp≠A.p:=λz=>by rw [z,h1] at h4;cases h4
 exact ⟨⟨ws,vs,A6,by rw [A8 n1];exact h2,Paired.aag h3 λ_ _ z=>z.mono tk (Ad N),by rw [A8 n2];exact h4,Paired.aag h5 λ_ _ z=>z.mono tk (Ad N)⟩,λn v h=>Jz (nd n v h),ne,cc⟩
theorem AV.tk (M:AV C CR A N H s)(o:B2 A H H'):TK C N H H':=by
 obtain ⟨⟨ws,vs,h1,h2,h3,h4,h5⟩,nd,ne,cc⟩:=M;have k:∀ b u,H b=some u->(∀ fs,u≠.ins CR A.dx fs)->(∀ xs,u≠.lst xs)->H' b=some u:=λb u e x y=>by
  refine o b u e (λz=>?_) (λz=>?_) λz=>?_
  ·rw [z,h1] at e;cases e;exact x _ rfl
  ·rw [z,h2] at e;cases e;exact y _ rfl
  ·rw [z,h4] at e;cases e;exact y _ rfl
 refine ⟨λb xs e=>k b _ e (λ_ z=>by cases z) (λ_ z=>by cases z),λb kv e=>k b _ e (λ_ z=>by cases z) (λ_ z=>by cases z),λn dx d t v _ e=>⟨t,k n _ e (λ_ z=>by cases z;exact cc rfl) (λ_ z=>by cases z),.inl rfl⟩⟩
theorem AV.ack (M:AV C CR A N H s)(e:s.aac=v::P):∃ us x,H A.lp=some (.lst (us++[x]))/\B' C N (upd H A.lp (.lst us)) v x/\AV C CR A N (upd H A.lp (.lst us)) { s with aac:=P }:=by
 have M':=M;obtain ⟨⟨ws,vs,h1,h2,h3,h4,h5⟩,nd,ne,cc⟩:=M';rw [e] at h5;obtain ⟨us,x,rfl,h5,hx⟩:=Paired.last h5;exact ⟨us,x,h4,hx.mono M.tkP (Ad N),M.acj h5⟩
theorem AV.acp (M:AV C CR A N H s)(e:s.wait=v::W):∃ us x,H A.lw=some (.lst (us++[x]))/\Ld C N (upd H A.lw (.lst us)) v x/\AV C CR A N (upd H A.lw (.lst us)) { s with wait:=W }:=by
 have M':=M;obtain ⟨⟨ws,vs,h1,h2,h3,h4,h5⟩,nd,ne,cc⟩:=M';rw [e] at h3;obtain ⟨us,x,rfl,h3,hx⟩:=Paired.last h3;exact ⟨us,x,h2,hx.mono M.tkW (Ad N),M.acb h3⟩
theorem AV.ab5 (M:AV C CR A N H s)(hx:B' C N H v x):∃ vs,H A.lp=some (.lst vs)/\vs.length=s.aac.length/\AV C CR A N (upd H A.lp (.lst (vs++[x]))) { s with aac:=v::s.aac }:=by
 have M':=M;obtain ⟨⟨ws,vs,h1,h2,h3,h4,h5⟩,nd,ne,cc⟩:=M';refine ⟨vs,h4,?_,M.acj (by rw [List.reverse_cons];exact Paired.app h5 (.cons hx .nil))⟩;have:=Paired.len h5;rw [List.length_reverse] at this;exact this.symm
theorem AV.ab6 (M:AV C CR A N H s)(hx:Ld C N H v x):∃ vs,H A.lw=some (.lst vs)/\vs.length=s.wait.length/\AV C CR A N (upd H A.lw (.lst (vs++[x]))) { s with wait:=v::s.wait }:=by
 have M':=M;obtain ⟨⟨ws,vs,h1,h2,h3,h4,h5⟩,nd,ne,cc⟩:=M';refine ⟨ws,h2,?_,M.acb (by rw [List.reverse_cons];exact Paired.app h3 (.cons hx .nil))⟩;have:=Paired.len h3;rw [List.length_reverse] at this;exact this.symm
theorem AV.fp (M:AV C CR A N H s):H A.p=some (.ins CR A.dx (rF A s.calls)):=by
 obtain ⟨⟨ws,vs,h1,_⟩,_⟩:=M;exact h1
end
noncomputable def Nt.add (N:Nt)(n:Addr)(v:RV):Nt:=λa=>if a=n then some v else N a
theorem GF {N:Nt}{n:Addr}{v:RV}{H:Hp}(hn:∀ n v,N n=some v->H n≠none)(h:H n=none):W2 N (N.add n v):=λa u e=>by
 simp only [Nt.add];rw [if_neg λz:a=n=>hn a u e (by rw [z];exact h)];exact e
section
variable {C CR:Addr}{A:RA}{N:Nt}{H H':Hp}{s:Rn}
theorem AV.acd (M:AV C CR A N H s)(hn:H n=none)(t:A9 H H')(e:H' n≠none):AV C CR A (N.add n v) H' s :=
 M.mono t (GF M.nd hn) λm u hm=>by
  simp only [Nt.add] at hm;by_cases z:m=n
  ·rw [z];exact e
  ·rw [if_neg z] at hm;intro w;cases q:H m with
   | none=>exact M.nd m u hm q
   | some o=>rw [t m o q] at w;cases w
theorem add_same {N:Nt}:(N.add n v) n=some v:=if_pos rfl
end
end L2
namespace K
open PySem L2 KM KS KX
section
variable {Pr:Program}{w:World}{K:W.Frag}{mg:Str->Option Value}{base:Heap}{C CS:Addr}{bS:List Value}{nS Jx Bn:String}{N:Nt}
theorem Tp (h:C8 v="number"):∃ i,v=.num i:=by
 cases v with
 | num i=>exact ⟨i,rfl⟩
 | two l _ _=>cases l <;> exact absurd h (by simp only [C8,tw];decide)
 | _=>exact absurd h (by simp only [C8];decide)
noncomputable def X' (C CS:Addr)(N:Nt):Sp:=λvs H Q E=>∃ (o:Str) (a b:RV) (r1 r2:V),vs=[.str o,r1,r2]/\B' C N H a r1/\B' C N H b r2/\Ex.ab0 o/\(∀ i j,a=.num i->b=.num j->∀ r H',A9 H H'->As H' (opV o i j) r->Q r H')/\((∀ i j,¬ (a=.num i/\b=.num j))->False)
theorem rP:Ai ["word","one","other"] ["word","one","other"] (A5 EH):=nofun
theorem bf (F:Cd K "reckoned" "reckoned" EH f fd):Aq Pr w K mg base B5 1 f fd ["word","one","other"] (X' C CS N):=by
 refine F.okS rP (λvs H Q E h=>?_) (λBf A0 outer s0 H vs Q E hr h=>?_)
 ·obtain ⟨o,a,b,r1,r2,rfl,_⟩:=h;rfl
 ·obtain ⟨o,a,b,r1,r2,rfl,ha,hb,io,q1,q2⟩:=h;refine ⟨_,(A3 (AS (Kn (w_or (Ao FR (eI 1) Ab (Ag _)) (FY (Ao FR (eI 2) Ab (Ag _))))) (Ac D') Ax)
   (A3 (AS (Ao AA (Aa 0) Ab (Ag _)) (Ac (Ak (Ah (A1 Ab (A1 (Am AH (eI 1) (eI 2)) A2))))) Ax)
   (A3 (AS (Ao AA (Aa 0) Ab (Ag _)) (Ac (Ak (Ah (A1 Ab (A1 (Am Cn (eI 1) (eI 2)) A2))))) Ax)
   (A3 (AS (Ao AA (Aa 0) Ab (Ag _)) (Ac (Ak (Ah (A1 Ab (A1 (Em GL (eI 1) (eI 2) (Ag _)) A2))))) Ax)
   (Ac (Ak (Ah (A1 Ab (A1 (Em AA (eI 1) (eI 2) (Ag _)) A2))))))))),?_⟩
  obtain ⟨p1,us1,rfl,h1⟩:=ha.look;obtain ⟨p2,So,rfl,h2⟩:=hb.look;apply A4 h1 (v:=.str (C8 a)) (Aj (j:=0) rfl) ?_;left;by_cases c1:C8 a="number"
  ·refine Az (by simp [c1]) ?_;apply A4 h2 (v:=.str (C8 b)) (Aj (j:=0) rfl) ?_;left;by_cases c2:C8 b="number"
   ·refine Az (by simp [c2]) ?_;obtain ⟨i,rfl⟩:=Tp c1;obtain ⟨j,rfl⟩:=Tp c2;cases ha with
    | num h1 =>
    cases hb with
    | num h2 =>
    have fin:∀ (H':Hp) (p:Addr),A9 H H'->As H' (opV o i j) (.ref p)->Q (.ref p) H':=λH' p s' sh=>q1 i j rfl rfl _ H' s' sh;left;rcases io with rfl | rfl | rfl | rfl
    ·refine AR (decide_eq_true rfl) ?_;apply A4 h1 (v:=.int i) rfl ?_;apply A4 h2 (v:=.int j) rfl ?_;left;intros p H1 s1 e1;exact fin H1 p s1 ⟨p,rfl,e1⟩
    ·refine Az ⟨⟩ ?_;apply AR (decide_eq_true rfl) ?_;apply A4 h1 (v:=.int i) rfl ?_;apply A4 h2 (v:=.int j) rfl ?_;left;intros p H1 s1 e1;exact fin H1 p s1 ⟨p,rfl,e1⟩
    ·refine Az ⟨⟩ ?_;apply Az ⟨⟩ ?_;apply AR (decide_eq_true rfl) ?_;apply A4 h1 (v:=.int i) rfl ?_;apply A4 h2 (v:=.int j) rfl ?_;left;intros p H1 s1 e1;exact fin H1 p s1 ⟨p,rfl,e1⟩
    ·refine Az ⟨⟩ ?_;apply Az ⟨⟩ ?_;apply Az ⟨⟩ ?_;apply A4 h1 (v:=.int i) rfl ?_;apply A4 h2 (v:=.int j) rfl ?_;left;intros p H1 s1 e1;have i7:H1 p=some (.tup [.str "truth",.bl (decide (i=j))]):=by
      rw [e1]
      congr 5
      simp
     exact fin H1 p s1 ⟨p,rfl,i7⟩
   ·refine AR (by simp [c2]) ?_;exact q2 λi j z=>c2 (by rw [z.2];rfl)
  ·refine AR (by simp [c1]) (C5 ?_);exact q2 λi j z=>c1 (by rw [z.1];rfl)
theorem j9:Ai ["tree","values"] ["tree","values"] (A5 Hj):=nofun
theorem bg (F:Cd K "own_op" "own_op" Hj f fd)(cXR:Cl Pr w K mg base 1 "reckoned" ["word","one","other"] (X' C CS N)):Aq Pr w K mg base B5 2 f fd ["tree","values"] (CP C CS N λe=>(∃ o a b,e=.op o a b)/\e.opk):=by
 refine F.okS j9 (λvs H Q E h=>?_) (λBf A0 outer s0 H vs Q E hr h=>?_)
 ·obtain ⟨e,vals,rt,l,us,rfl,_⟩:=h;rfl
 ·obtain ⟨e,vals,rt,l,us,rfl,⟨⟨o,a,b,rfl⟩,ho⟩,hl,he,L9,hv,q1,q2⟩:=h;refine ⟨_,(Ac (Ak (Ah (A1 (Ay cXR hr rfl (A1 (eI 0) (A1 (Bj (r:=C4 K) AE (Aa 1) A7 Cm) (A1 (Bj (r:=C4 K) AE (Aa 1) A7 Cm) A2)))) (A1 DQ A2))))),?_⟩;obtain ⟨p,ra,rb,rfl,hp,ha,hb⟩:=he;rcases vals with _ | ⟨v,_ | ⟨u,_ | ⟨v',vals⟩⟩⟩
  ·simp [Ex.pls] at hl
  ·simp [Ex.pls] at hl
  ·obtain ⟨rv,ru,rfl,La,iW⟩:=D2 hv;apply A4 hp (v:=.str o) rfl ?_;apply BF (AG.of L9) (v:=rv) rfl ?_;apply BF (AG.of L9) (v:=ru) rfl ?_;apply ⟨o,v,u,rv,ru,rfl,La,iW,ho.1,λi j h1 h2 r H1 s1 e1=>?_,λhn=>?_⟩
   ·subst h1 h2;left;intro d hd;left;intros p2 H2 s2 e2;have Fd:A9 H1 H2:=(A9.new hd).trans s2;exact q2 (opV o i j) [] rfl p2 H2 (s1.trans Fd) ⟨r,d,[],e2,As.mono (Ae.of_same Fd) e1,s2 _ _ A6,.nil⟩
   ·refine q1 ?_ H (A9.refl _);cases v <;> cases u <;> first | rfl | exact absurd ⟨rfl,rfl⟩ (hn _ _)
  ·simp [Ex.pls] at hl
noncomputable def ja (C CS:Addr)(N:Nt):List (Str × Sp):=[("call",CP C CS N λe=>∃ a b,e=.cal a b),("let",CP C CS N λe=>∃ x a b,e=.lt x a b),("when",CP C CS N λe=>∃ a b c,e=.wh a b c),("open",CP C CS N λe=>∃ a x y b,e=.opn a x y b),("split",CP C CS N λe=>∃ a b x y c,e=.spl a b x y c),("op",CP C CS N λe=>(∃ o a b,e=.op o a b)/\e.opk)]
theorem rQ (h:Ed e)(ho:e.opk):∃ W:Ex->Prop,(e.wd,CP C CS N W)∈ja C CS N/\W e:=by
 cases e with
 | cal a b=>exact ⟨_,List.mem_of_getElem? (i:=0) rfl,a,b,rfl⟩
 | lt x a b=>exact ⟨_,List.mem_of_getElem? (i:=1) rfl,x,a,b,rfl⟩
 | wh a b c=>exact ⟨_,List.mem_of_getElem? (i:=2) rfl,a,b,c,rfl⟩
 | opn a x y b=>exact ⟨_,List.mem_of_getElem? (i:=3) rfl,a,x,y,b,rfl⟩
 | spl a b x y c=>exact ⟨_,List.mem_of_getElem? (i:=4) rfl,a,b,x,y,c,rfl⟩
 | op o a b=>exact ⟨_,List.mem_of_getElem? (i:=5) rfl,⟨o,a,b,rfl⟩,ho⟩
 | _=>exact h.elim
theorem jb:Ai ["tree","values"] ["tree","values"] (A5 EL):=nofun
theorem bh (F:Cd K "own_step" "own_step" EL f fd)(kd:D1 w K dS rows)(rR:mg "RULES"=some (.ref dS))(KR:FA Pr w K mg base B5 2 ["tree","values"] rows (ja C CS N)):Aq Pr w K mg base B5 3 f fd ["tree","values"] (CP C CS N λe=>Ed e/\e.opk):=by
 refine F.okS jb (λvs H Q E h=>?_) (λBf A0 outer s0 H vs Q E hr h=>?_)
 ·obtain ⟨e,vals,rt,l,us,rfl,_⟩:=h;rfl
 ·obtain ⟨e,vals,rt,l,us,rfl,⟨hs,ho⟩,hl,he,L9,hv,q1,q2⟩:=h;refine ⟨_,(Ac (Ak (VC kd KR F0 hr rfl rR (eI 0) Cm (A1 (Aa 0) (A1 (Aa 1) A2))))),?_⟩;obtain ⟨p,ut,rfl,hp,_⟩:=he.its;obtain ⟨W,hW,hw⟩:=rQ (C:=C) (CS:=CS) (N:=N) hs ho;apply A4 hp (v:=.str e.wd) (Aj (j:=0) rfl) ?_;refine ⟨_,_,rfl,hW,?_⟩;left;exact ⟨e,vals,.ref p,l,us,rfl,hw,hl,he,L9,hv,q1,q2⟩
end
end K
namespace L2
open PySem KX
theorem Wv:SS X (.Return none pos) Qy:=⟨UB⟩
end L2
namespace K
open PySem L2 KM KS KX
section
variable {Pr:Program}{w:World}{K:W.Frag}{mg:Str->Option Value}{base:Heap}{C CR CS:Addr}{bS:List Value}{nS Jx Bn:String}
structure Tq (K:W.Frag)(mg:Str->Option Value)(CR:Addr):Prop where
 cl:Gi K CR
 nW:BD K CR "waiting"
 nP:BD K CR "pile"
 nC:BD K CR "calls"
 mC:mg "Runner"=some (.ref CR)
noncomputable def Ts (C CS:Addr):Sp:=λvs H Q E=>∃ N,CP C CS N (λe=>Ed e/\e.opk) vs H Q E
noncomputable def Y0 (C:Addr):Sp:=λvs H Q E=>∃ N,j4 C N vs H Q E
structure rS (C CR:Addr)(A:RA)(N:Nt)(H:Hp)(s:Rn)(e:Ex)(E0:Ev)(rt:V)(d:Addr)(kvs:List (Key × V))(Hm S:Nat):Prop where
 M:AV C CR A N H s
 he:As H e rt
 hd:H d=some (.dK kvs)
 hE:Cq C N H E0 kvs
 op:e.opk
 pl:e.pls≠[]
 pp:e.pls.length<=s.aac.length
 rb:∀ v∈s.aac,RB S Hm v
 el:E0.length<=Hm
 hm:Hm<=900000
 lp:s.aac.length<=900000
 lw:s.wait.length<=900000
noncomputable def Tt (C CR CS:Addr):Sp:=λvs H Q E=>∃ (A:RA) (N:Nt) (s:Rn) (e:Ex) (E0:Ev) (rt:V) (d:Addr) (kvs:List (Key × V)) (Hm S:Nat),vs=[.ref A.p,rt,.ref d]/\rS C CR A N H s e E0 rt d kvs Hm S /\
 (∀ s',Ig e E0 s.wait s.aac s.calls=.go s'->∀ v N' H',W2 N N'->B2 A H H'->AV C CR A N' H' s'->Q v H')/\(Ig e E0 s.wait s.aac s.calls=.stuck->∀ H',B2 A H H'->False)
theorem Ow (e:Ex):e.pls.length<=2:=by cases e <;> simp [Ex.pls]
theorem Tv (h:e.pls≠[]):(∃ l:Bool,e.wd=tw l/\Ir (.str (tw l)) [.str "pair",.str "link"]=true/\e.pls.length=2/\∀ E W b a P c,Ig e E W (b::a::P) c=.go ⟨W,.two l a b::P,c⟩)\/(Ed e/\Ir (.str e.wd) [.str "pair",.str "link"]=false):=by
 cases e with
 | pr a b=>exact .inl ⟨false,rfl,⟨⟩,rfl,λ_ _ _ _ _ _=>rfl⟩
 | lk a b=>exact .inl ⟨true,rfl,⟨⟩,rfl,λ_ _ _ _ _ _=>rfl⟩
 | cal a b=>exact .inr ⟨trivial,show Ir (.str "call") _=false by decide⟩
 | lt x a b=>exact .inr ⟨trivial,show Ir (.str "let") _=false by decide⟩
 | wh a b c=>exact .inr ⟨trivial,show Ir (.str "when") _=false by decide⟩
 | opn a x y b=>exact .inr ⟨trivial,show Ir (.str "open") _=false by decide⟩
 | spl a b x y c=>exact .inr ⟨trivial,show Ir (.str "split") _=false by decide⟩
 | op o a b=>exact .inr ⟨trivial,show Ir (.str "op") _=false by decide⟩
 | _=>exact absurd rfl h
theorem bj {e:Ex}:(∃ a b,e=.cal a b)\/(e.wd≠"call"/\Wu e=0/\∀ vs E,XZ e vs E=E):=by
 cases e with
 | cal a b=>exact .inl ⟨a,b,rfl⟩
 | _=>exact .inr ⟨by simp only [Ex.wd];decide,rfl,λ_ _=>rfl⟩
theorem B'.acq {N:Nt}{H:Hp}{a b:Ex}{v:RV}{vals:List RV}{r:V}{E0:Ev}{u:Ex × Ev}(h:B' C N H v r)(ho:own (.cal a b) (v::vals)=some u):∃ p us n dx d t kvs,r=.ref p/\us.length < 1000/\H p=some (.tup (us++[.ref n]))/\H n=some (.ins C dx (nF d t))/\H d=some (.dK kvs)/\Cq C N H (XZ (.cal a b) (v::vals) E0) kvs:=by
 cases h with
 | fn h1 _ h3 _ _ h6 h7 h8=>exact ⟨_,[_,_,_],_,_,_,_,_,rfl,by simp,h1,h3,h6,Cq.of h7 h8⟩
 | rc h1 _ h3 _ _ h6 h7 h8=>exact ⟨_,[_,_,_,_],_,_,_,_,_,rfl,by simp,h1,h3,h6,Cq.of h7 h8⟩
 | num _=>rcases vals with _ | ⟨_,_ | ⟨_,_⟩⟩ <;> cases ho
 | tru _=>rcases vals with _ | ⟨_,_ | ⟨_,_⟩⟩ <;> cases ho
 | emp _=>rcases vals with _ | ⟨_,_ | ⟨_,_⟩⟩ <;> cases ho
 | two _ _ _ _ _ _=>rcases vals with _ | ⟨_,_ | ⟨_,_⟩⟩ <;> cases ho
theorem Ww (h:own e vals=some (e',E')):E'.length<=2:=by
 have m1:∀ (x:Str) (v:RV),(AI [] [(x,v)]).length<=2:=λx v=>by show (BK [] x v).length<=2;have:=F6 [] x v;simp only [List.length_nil] at this;omega
 have m2:∀ (x y:Str) (v u:RV),(AI [] [(x,v),(y,u)]).length<=2:=λx y v u=>by
  show (BK (BK [] x v) y u).length<=2;have:=F6 [] x v;have:=F6 (BK [] x v) y u;simp only [List.length_nil] at *;omega
 cases e <;> try (cases h;done)
 all_goals rcases vals with _ | ⟨v,_ | ⟨u,_ | _⟩⟩ <;> try (cases h;done)
 all_goals first | (cases h;exact m1 ..) | (cases v <;> first | (cases h;done) | (cases h;first | exact m1 .. | exact m2 .. | exact Nat.zero_le _) | (rename_i l _ _;cases l <;> first | (cases h;done) | (cases h;exact m2 ..)) | (cases u <;> first | (cases h;done) | (cases h;exact Nat.zero_le _)))
theorem bo (h:∀ v∈vals,RB S Hm v)(hE:E.length<=Hm):(XZ e vals E).length<=Hm:=by
 cases e with
 | cal _ _ =>
  rcases vals with _ | ⟨v,_⟩
  ·exact hE
  ·cases v with
   | fn _ _ _ =>
    cases h _ (.head _) with
    | fn _ _ _ h _=>exact h
   | rc _ _ _ _ =>
    cases h _ (.head _) with
    | rc _ _ _ _ h _=>exact h
   | _=>exact hE
 | _=>exact hE
theorem JA (h:xs.length < 1000):Lx (xs++[v]) (-1)=some v:=by
 unfold Lx Qp;rw [List.length_append,List.length_singleton];rw [if_neg ⟨⟩,if_pos ()];show (xs++[v])[_]?=_;have:((-1:Int)+((xs.length+1:Nat):Int)).toNat=xs.length:=by omega
 rw [this];simp
theorem Ox:Ai ["self","tree","given","values","went"] ["self","tree","given"] (A5 AO):=nofun
theorem bp (F:Cd K "finish" "Runner.finish" AO f fd)(T:Tq K mg CR)(TN:Lb K mg C)(MN:Mk K C fN)(GN:Aq Pr w K mg base B5 1 fN jc ["self","given"] (Ws C))(bN:Binds K jc ["self","given"] [])(dU:Cl Pr w K mg base 1 "first_places" ["tree"] (Wr K))(cXS:Cl Pr w K mg base 3 "own_step" ["tree","values"] (Ts C CS))(rT:Cl Pr w K mg base 1 "given_too" ["given","names"] (Y0 C)) :
  Aq Pr w K mg base B5 4 f fd ["self","tree","given"] (Tt C CR CS):=by
 refine F.okS Ox (λvs H Q E h=>?_) (λBf A0 outer s0 H vs Q E hr h=>?_)
 ·obtain ⟨A,N,s,e,E0,rt,d,kvs,Hm,S,rfl,_⟩:=h;rfl
 ·obtain ⟨A,N,s,e,E0,rt,d,kvs,Hm,S0,rfl,P,q1,q2⟩:=h;have DA:Ar 1 _:=hr.mono ⟨⟩;have G0:Ar 2 _:=hr.mono ⟨⟩;have rV:Ar 3 _:=hr;have S:AY (Cr B5 Pr w K mg base ["self","tree","given","values","went"] "Runner.finish" (A5 AO) f Bf A0 outer s0 H E).nox (Bt (valueOf (inDef AO 0))) [("self",s0.heap.objs.size+1)] ["place"] ["self"] [0] :=
   ⟨rfl,by decide +kernel,rfl,by decide +kernel,rfl,rfl,rfl,rfl⟩
  have HD:(["place","self"]:List Str).Nodup:=by decide +kernel
  refine ⟨_,(A3 (Fx (i:=3) Ox.nd rfl (.inl rfl) (tt:=G7) (te:=QW K "list" YR (UO K (B9 1) "pile")) S rfl (ID (Ay dU DA rfl (A1 (Aa 1) A2))) (λC s0 H0 ex=>AQ (i:=0) HD rfl (.inl rfl)) (λ_ _ _ _=>En) (λC s0 H0 ex=>DP PySem.F.plainAttrs_list PySem.F.slot_list_pop PySem.F.type_list_pop DJ (Cf (Aa 1))))
   (A3 (Bm (DP PySem.F.plainAttrs_list PySem.F.slot_list_reverse PySem.F.type_list_reverse Ma (Aa 3)))
   (A3 (AS (Ao (r:=Uc K false) CA (eI 1) (Ah (A1 Ab (A1 Ab A2))) rfl) (A3 (Bm (Fv PySem.F.plainAttrs_list PySem.F.slot_list_append PySem.F.type_list_append Bp (Cf (Aa 0)) (A1 (Ah (A1 (eI 1) (A1 (Bj (r:=C4 K) AE (Aa 3) A7 Cm) (A1 (Bj (r:=C4 K) AE (Aa 3) A7 Cm) (A1 (MH MN GN bN TN.mC G0 rfl (A1 DQ A2)) A2))))) A2)))
   (Ac Wv)) Ax)
   (A3 (Al (i:=4) Ox.nd rfl (.inl rfl) (Ay cXS rV rfl (A1 (Aa 1) (A1 (Aa 3) A2))))
   (A3 (AS (Ao AA (eI 1) Ab (Ag _)) (A3 (Se YD (Aa 0) A7)
   (Ac (Al (i:=2) Ox.nd rfl (.inl rfl) (Cf (Bj (r:=D7 K) BE (Bj (r:=C4 K) AE (Aa 3) A7 Cm) (Ky DD A7) Cm))))) Ax)
   (Ac (Bm (Fv PySem.F.plainAttrs_list PySem.F.slot_list_append PySem.F.type_list_append Bp (Cf (Aa 0)) (A1 (Ah (A1 (eI 4) (A1 (Ay rT DA rfl (A1 (Aa 2) (A1 (eI 4) A2))) (A1 G8 A2)))) A2))))))))),?_⟩
  apply ⟨e,rt,rfl,P.he,λa H1 s1 jd=>?_⟩;have M1:=P.M.same s1;refine ⟨a,rfl,⟨_,jd H1 (Ae.of_same (A9.refl _))⟩,?_⟩;have lm:(e.pls.map λk:Nat=>V.int k).length=e.pls.length:=List.length_map ..;have pp:=P.pp;have pl2:=Ow e;refine Ht (λi ys H'=>AV C CR A N H' { s with aac:=s.aac.drop i }/\Paired (B' C N H') (s.aac.take i) ys/\B2 A H1 H'/\ys.length=i) ⟨M1,.nil,B2.of_same (A9.refl _),rfl⟩ (λi ys H' h=>jd H' (M1.tk h.2.2.1).t) (Bx ()) (λi ys H' h=>Nat.le_of_eq h.2.2.2) rfl (λi x ys H' hx h=>?_) λys H2 h=>?_
  ·obtain ⟨Mi,pi,oi,li⟩:=h;obtain ⟨hi,_⟩:=List.getElem?_eq_some_iff.mp hx;rw [lm] at hi ⊢;have CT:i < s.aac.length:=(by omega);refine MB ?_;refine C5 ?_;apply ⟨A.p,CR,A.dx,_,_,rfl,Mi.fp,T.cl,T.nP,rfl,?_⟩;obtain ⟨us,x',h4,HV,Mj⟩:=Mi.ack (show s.aac.drop i=s.aac[i]::s.aac.drop (i+1) by simp);refine ⟨.inl ⟨rfl,_,AG.of h4⟩,A.lp,_,x',rfl,rfl,h4,by simp,?_⟩;rw [List.dropLast_concat];refine Nx.mk hi ⟨Mj,?_,oi.trans B2.lp,by simp [li]⟩;rw [List.take_succ_eq_append_getElem CT];exact Paired.app (Paired.aag pi λ_ _ z=>z.mono Mi.tkP (Ad N)) (.cons HV .nil)
  ·rw [lm] at h;obtain ⟨M2,p2,o2,l2⟩:=h;refine C1 (Nat.zero_le _) λl H3 Sq s3 e3=>?_;apply ⟨.inl ⟨rfl,_,AG.of e3⟩,l,ys,rfl,rfl,e3,?_⟩;have s4:A9 H2 (upd H3 l (.lst ys.reverse)):=A9.put s3 Sq;have e4:(upd H3 l (.lst ys.reverse)) l=some (.lst ys.reverse):=A6;generalize upd H3 l (.lst ys.reverse)=H4 at s4 e4 ⊢;have M4:=M2.same s4;have o4:B2 A H H4:=(B2.of_same s1).trans (o2.trans (B2.of_same s4));have tk:TK C N H H4:=P.M.tk o4;have hv:Paired (B' C N H4) (s.aac.take e.pls.length).reverse ys.reverse:=Paired.rev (Paired.aag p2 λ_ _ z=>z.mono (TK.of_same s4) (Ad N));have VU:s.aac=(s.aac.take e.pls.length).reverse.reverse++s.aac.drop e.pls.length:=(by rw [List.reverse_reverse,List.take_append_drop]);have Y1:(s.aac.take e.pls.length).reverse.length=e.pls.length:=(by rw [List.length_reverse,List.length_take];omega);generalize (s.aac.take e.pls.length).reverse=vals at hv VU Y1;generalize s.aac.drop e.pls.length=P0 at VU M4;generalize ys.reverse=us at e4 hv;have je:=As.mono tk.t P.he;obtain ⟨p,ut,rfl,hp,hi⟩:=je.its;apply A4 hp (v:=.str e.wd) (Aj (j:=0) rfl) ?_;left;intros p5 H5 s5 e5;refine Hu (.inr (Ba.of e5)) rfl rfl ?_;left;have M5:=M4.same s5;have o5:B2 A H H5:=o4.trans (B2.of_same s5);have rW:Paired (B' C N H5) vals us:=Paired.aag hv λ_ _ z=>z.mono (TK.of_same s5) (Ad N);have e6:=s5 _ _ e4;have dD:=s5 _ _ hp;have he5:=As.mono (Ae.of_same s5) je;have lp:=P.lp;have lpi:vals.length+P0.length=s.aac.length:=(by rw [VU];simp);clear s5 e5 e4 hp je hv o4 M4 s4 tk M2 p2 o2 e3 s3 Sq;rcases Tv P.pl with ⟨lb,w1,w2,w3,w4⟩ | ⟨w1,w2⟩
   ·refine AR (by rw [w1];exact w2) ?_;rcases vals with _ | ⟨va,_ | ⟨vb,_ | ⟨v',vals⟩⟩⟩
    ·simp [w3] at Y1
    ·simp [w3] at Y1
    ·obtain ⟨ra,rb,rfl,ha,hb⟩:=D2 rW;apply ⟨A.p,CR,A.dx,_,_,rfl,M5.fp,T.cl,T.nP,rfl,?_⟩;have M5':=M5;obtain ⟨⟨ws5,vs5,_,_,_,h4,_⟩,_⟩:=M5';refine ⟨.inl ⟨rfl,_,AG.of h4⟩,?_⟩;apply A4 dD (v:=.str e.wd) (Aj (j:=0) rfl) ?_;apply BF (AG.of e6) (v:=ra) rfl ?_;apply BF (AG.of e6) (v:=rb) rfl ?_;left;intro d7 hd7;have s7:A9 H5 (upd H5 d7 (.dK [])):=A9.new hd7;have e7:(upd H5 d7 (.dK [])) d7=some (.dK []):=A6;generalize upd H5 d7 (.dK [])=H7 at s7 e7 ⊢;left;intro x8 JU dW Wx ME;refine ⟨x8,JU,d7,rfl,A6,rfl,?_⟩;rw [Gf];have rX:H5 x8=none:=by
      cases z:H5 x8 with
      | none=>rfl
      | some o=>rw [s7 _ _ z] at dW;cases dW
     have s8:A9 H5 (upd (upd H7 JU (.own x8)) x8 (.ins C JU (nF d7 .non))):=A9.put (A9.put s7 (by
      cases z:H5 JU with
      | none=>rfl
      | some o=>rw [s7 _ _ z] at Wx;cases Wx)) rX
     have e8:(upd (upd H7 JU (.own x8)) x8 (.ins C JU (nF d7 .non))) x8=some (.ins C JU (nF d7 .non)):=A6;generalize upd (upd H7 JU (.own x8)) x8 (.ins C JU (nF d7 .non))=H8 at s8 e8 ⊢;left;intros p9 H9 s9 e9;have rY:=s8.trans s9;have nk:=GF (v:=.two lb va vb) M5.nd rX;have M9:AV C CR A (N.add x8 (.two lb va vb)) H9 _:=M5.acd rX rY (by rw [s9 _ _ e8];simp);have Lf:TK C N H5 H9:=TK.of_same rY;rw [w1] at e9;obtain ⟨vs9,g1,g2,g3⟩:=M9.ab5 (.two e9 (s9 _ _ e8) add_same (.inl rfl) (ha.mono Lf nk) (hb.mono Lf nk));refine ⟨A.lp,vs9,_,rfl,rfl,g1,Bx (by rw [g2];simp only;omega),?_⟩;apply q1 _ ?_ _ _ _ nk (o5.trans ((B2.of_same rY).trans B2.lp)) g3;rw [VU];exact w4 ..
    ·simp [w3] at Y1
   ·refine Az (by show ¬ Ir (.str e.wd) _=true;rw [w2];decide) ?_;apply ⟨N,e,vals,.ref p,l,us,rfl,⟨w1,P.op⟩,Y1,he5,e6,rW,λhn H6 s6=>?_,λe' E' ho p6 H6 s6 wn=>?_⟩
    ·refine q2 ?_ H6 (o5.trans (B2.of_same s6));rcases Lc (E:=E0) (W:=s.wait) (P:=P0) (c:=s.calls) w1 Y1 with ⟨_,g⟩ | ⟨e',E',g,_⟩
     ·rw [VU];exact g
     ·rw [hn] at g;cases g
    ·rcases Lc (E:=E0) (W:=s.wait) (P:=P0) (c:=s.calls) w1 Y1 with ⟨g,_⟩ | ⟨e2,E2,g,gf⟩
     ·rw [ho] at g;cases g
     ·rw [ho] at g;cases g;have M6:=M5.same s6;have o6:=o5.trans (B2.of_same s6);have xA:TK C N H H6:=P.M.tk o6;have lE:=Ww ho;have lB:(XZ e vals E0).length<=Hm:=bo (λv hv=>P.rb v (by rw [VU];simp [hv])) P.el;have hm:=P.hm;have lw:=P.lw;refine Gs (fun σ H'=>∃ d' N1,σ=[some (.ref A.p),some (.ref p),some (.ref d'),some (.ref l),some (.ref p6)]/\H' d'=some (.dK N1)/\Cq C N H' (XZ e vals E0) N1/\AV C CR A N H' { s with aac:=P0,calls:=s.calls+Wu e }/\B2 A H H'/\aW C N H' e' E' p6) (fun σ H' hj=>?_) λNn hN=>?_
      ·obtain ⟨d',N1,rfl,g1,g2,Mg,og,re,dn,kn,g3,g4,g5,g6⟩:=hj;apply ⟨A.p,CR,A.dx,_,_,rfl,Mg.fp,T.cl,T.nW,rfl,?_⟩;have Mg':=Mg;obtain ⟨⟨ws5,vs5,_,h4,_⟩,_⟩:=Mg';refine ⟨.inl ⟨rfl,_,AG.of h4⟩,?_⟩;apply A4 g3 (v:=re) rfl ?_;apply A4 g3 (v:=.ref dn) rfl ?_;apply ⟨N,d',dn,_,_,N1,kn,rfl,g1,g2,g5,g6,(),λd2 rZ H7 s7 e7 v7=>?_⟩;left;intros p8 H8 s8 e8;have M8:=(Mg.same s7).same s8;obtain ⟨ws8,k1,k2,k3⟩:=M8.ab6 (v:=(e',AI (XZ e vals E0) E',false)) ⟨p8,re,d2,rZ,rfl,e8,As.mono (Ae.of_same (s7.trans s8)) g4,s8 _ _ e7,v7.mono (TK.of_same s8) (Ad N)⟩;refine ⟨A.lw,ws8,_,rfl,rfl,k1,Bx (by rw [k2];simp only;omega),?_⟩;apply q1 _ (by rw [VU];exact gf) _ N _ (Ad N) (og.trans ((B2.of_same (s7.trans s8)).trans B2.lw)) k3
      ·apply A4 (s6 _ _ dD) (v:=.str e.wd) (Aj (j:=0) rfl) ?_;left;rcases bj (e:=e) with ⟨a0,b0,rfl⟩ | ⟨c1,c2,c3⟩
       ·refine AR (by simp [Ex.wd]) ?_;apply ⟨A.p,CR,A.dx,_,_,rfl,M6.fp,T.cl,T.nC,rfl,?_⟩;apply ⟨_,_,rfl,rfl,A.dx,_,M6.fp,by simp [rF],?_⟩;rw [To];have e1:((s.calls:Nat):Int)+1=((s.calls+1:Nat):Int):=(by omega);rw [e1];have M7:=M6.setC (s.calls+1);have dX:TK C N H6 _:=M6.tkC (o:=.ins CR A.dx (rF A ((s.calls+1:Nat):Int)));have o7:B2 A H6 (upd H6 A.p (.ins CR A.dx (rF A ((s.calls+1:Nat):Int)))):=B2.p;have l7:(upd H6 A.p (.ins CR A.dx (rF A ((s.calls+1:Nat):Int)))) l=some (.lst us):=by
         rw [A8 λz=>by have:=M6.fp;rw [<- z,s6 _ _ e6] at this;cases this];exact s6 _ _ e6
        generalize upd H6 A.p (.ins CR A.dx (rF A ((s.calls+1:Nat):Int)))=H7 at M7 dX o7 l7 ⊢;have w7:aW C N H7 e' E' p6:=by
         obtain ⟨re,dn,kn,g3,g4,g5,g6⟩:=wn;exact ⟨re,dn,kn,dX.t _ _ g3,As.mono dX.t g4,dX.d _ _ g5,g6.mono dX (Ad N)⟩
        rcases vals with _ | ⟨vf,vals⟩
        ·cases Y1
        cases rW with
        | @cons _ rf _ us hf xB =>
        have qX:B' C N H7 vf rf:=(hf.mono (TK.of_same s6) (Ad N)).mono dX (Ad N);obtain ⟨pf,uf,n,dx,df,tf,kf,rfl,f0,f1,f2,f3,f4⟩:=B'.acq (E0:=E0) qX ho;apply BF (AG.of l7) (v:=.ref pf) (Aj (j:=0) rfl) ?_;apply A4 f1 (v:=.ref n) (JA f0) ?_;refine ⟨n,C,dx,_,.ref df,rfl,f2,TN.cl,TN.nG,rfl,?_⟩;exact hN _ _ ⟨df,kf,rfl,f3,f4,M7,o6.trans o7,w7⟩
       ·refine Az (by simp [c1]) ?_;apply hN _ _ ⟨d,kvs,rfl,xA.d _ _ P.hd,?_,?_,o6,wn⟩
        ·rw [c3];exact P.hE.mono xA (Ad N)
        ·rw [c2];exact M6
end
end K
namespace L2
open PySem PySem.Spec PyProof.Rows KS KX
inductive FK (C:Addr)(H:Hp):RV->V->V->Prop
 | leaf {v:RV} {r:V}:ES v=false->FK C H v r r
 | note {v:RV} {p n dx d:Addr} {us:List V} {t:V}:ES v=true->H p=some (.tup (us++[.ref n]))->H n=some (.ins C dx (nF d t))->FK C H v (.ref p) t
theorem E4 (h:us++[n]=LA++[n']):us=LA/\n=n':=by
 have e:=List.append_inj' h rfl;exact ⟨e.1,by simpa using e.2⟩
theorem FN (h:HO.ins C dx (nF d t)=HO.ins C' OY (nF d' t')):C=C'/\dx=OY/\d=d'/\t=t':=by
 simp only [nF,HO.ins.injEq,List.cons.injEq,Prod.mk.injEq,and_true,true_and,V.ref.injEq] at h;exact ⟨h.1,h.2.1,h.2.2.1,h.2.2.2⟩
theorem FK.det (a:FK C H v r t)(b:FK C H v r t'):t=t':=by
 cases a with
 | leaf h=>cases b with
  | leaf _=>rfl
  | note g _ _=>rw [h] at g;cases g
 | note h h1 h2=>cases b with
  | leaf g=>rw [h] at g;cases g
  | note _ g1 g2 =>
   rw [h1] at g1;injection g1 with g1;injection g1 with g1;obtain ⟨_,e2⟩:=E4 g1;cases e2;rw [h2] at g2;injection g2 with z;exact (FN z).2.2.2
theorem FK.same (s:A9 H H')(h:FK C H v r t):FK C H' v r t:=by
 cases h with
 | leaf h=>exact .leaf h
 | note h h1 h2=>exact .note h (s _ _ h1) (s _ _ h2)
structure N4 (C:Addr)(N:Nt)(H:Hp)(v:RV)(p:Addr)(us:List V)(n dx d:Addr)(t:V):Prop where
 tup:H p=some (.tup (.str (C8 v)::(us++[.ref n])))
 len:us.length<=3
 ins:H n=some (.ins C dx (nF d t))
 nn:N n=some v
 tl:V' H v t
theorem B'.note (h:B' C N H v r)(hc:ES v=true):∃ p us n dx d t,r=.ref p/\N4 C N H v p us n dx d t:=by
 cases h with
 | num _ | tru _ | emp _=>cases hc
 | @fn x b E p n dx d rb t kvs h1 h2 h3 h4 h5 h6 h7 h8=>exact ⟨p,[.str x,rb],n,dx,d,t,rfl,h1,by simp,h3,h4,h5⟩
 | @rc f x b E p n dx d rb t kvs h1 h2 h3 h4 h5 h6 h7 h8=>exact ⟨p,[.str f,.str x,rb],n,dx,d,t,rfl,h1,by simp,h3,h4,h5⟩
 | @two l a b p n dx d ra rb t h1 h2 h3 h4 h5 h6=>exact ⟨p,[ra,rb],n,dx,d,t,rfl,h1,by simp,h2,h3,h4⟩
theorem N4.td (h:N4 C N H v p us n dx d t)(hc:ES v=true):FK C H v (.ref p) t:=.note (us:=.str (C8 v)::us) hc h.tup h.ins
theorem B'.leaf (h:B' C N H v r)(hc:ES v=false):∃ w,RR v w/\As H w r:=by
 cases h with
 | num h=>exact ⟨_,.num _,_,rfl,h⟩
 | tru h=>exact ⟨_,.tru _,_,rfl,h⟩
 | emp h=>exact ⟨_,.emp,_,rfl,h⟩
 | fn _ _ _ _ _ _ _ _ | rc _ _ _ _ _ _ _ _ | two _ _ _ _ _ _=>cases hc
theorem B'.td (h:B' C N H v r):∃ t,FK C H v r t/\(t=.non/\ES v=true\/∃ w,RR v w/\As H w t):=by
 cases hc:ES v with
 | false=>exact ⟨r,.leaf hc,.inr (h.leaf hc)⟩
 | true =>
  obtain ⟨p,us,n,dx,d,t,rfl,g⟩:=h.note hc;exact ⟨t,g.td hc,g.tl.imp (λz=>⟨z,rfl⟩) id⟩
noncomputable def TD (C:Addr)(H:Hp)(v:RV)(r:V):Prop:=∃ t,FK C H v r t/\t≠.non
theorem N5 (h:As H w t):t≠.non:=by
 obtain ⟨p,us,rfl,_⟩:=h.its;intro z;cases z
theorem TD.mono (k:TK C N H H')(hr:B' C N H v r)(h:TD C H v r):TD C H' v r:=by
 obtain ⟨t,h1,h2⟩:=h;cases hc:ES v with
 | false =>
  cases h1 with
  | leaf _=>exact ⟨r,.leaf hc,h2⟩
  | note g _ _=>rw [hc] at g;cases g
 | true =>
  obtain ⟨p,us,n,dx,d,t0,rfl,g⟩:=hr.note hc;obtain rfl:=h1.det (g.td hc);obtain ⟨t',g1,g2⟩:=k.n n dx d t v g.nn g.ins;refine ⟨t',.note (us:=.str (C8 v)::us) hc (k.t _ _ g.tup) g1,?_⟩;rcases g2 with rfl | ⟨w,_,g2⟩
  ·exact h2
  ·exact N5 g2
inductive LC (C:Addr)(H:Hp):RV->V->RV->V->Prop
 | l {l:Bool} {a b:RV} {p n:Addr} {ra rb:V}:H p=some (.tup [.str (tw l),ra,rb,.ref n])->LC C H (.two l a b) (.ref p) a ra
 | r {l:Bool} {a b:RV} {p n:Addr} {ra rb:V}:H p=some (.tup [.str (tw l),ra,rb,.ref n])->LC C H (.two l a b) (.ref p) b rb
 | f {v u:RV} {e:Ex} {E:Ev} {us:List V} {p n dx d:Addr} {t ru:V} {kg:List (Key × V)} {y:Str}:fex v=some (e,E)->H p=some (.tup (us++[.ref n]))->H n=some (.ins C dx (nF d t))->H d=some (.dK kg)->y∈e.fv []->Bk E y=some u->AN kg (.inr y:Key)=some ru->LC C H v (.ref p) u ru
theorem B'.env (h:B' C N H v r)(g:fex v=some (e,E)):∃ p us n dx d t kg,r=.ref p/\H p=some (.tup (us++[.ref n]))/\us.length<=4/\H n=some (.ins C dx (nF d t))/\H d=some (.dK kg)/\Cq C N H E kg/\∀ H' p',Ae H H'->H' p'=some (.tup us)->As H' e (.ref p'):=by
 cases h with
 | num _ | tru _ | emp _ | two _ _ _ _ _ _=>cases g
 | @fn x b E p n dx d rb t kvs h1 h2 h3 h4 h5 h6 h7 h8 =>
  cases g;exact ⟨p,[.str "fun",.str x,rb],n,dx,d,t,kvs,rfl,h1,by simp,h3,h6,Cq.of h7 h8,λH' p' s e=>⟨p',rb,rfl,e,As.mono s h2⟩⟩
 | @rc f x b E p n dx d rb t kvs h1 h2 h3 h4 h5 h6 h7 h8 =>
  cases g;exact ⟨p,[.str "rec",.str f,.str x,rb],n,dx,d,t,kvs,rfl,h1,by simp,h3,h6,Cq.of h7 h8,λH' p' s e=>⟨p',rb,rfl,e,As.mono s h2⟩⟩
noncomputable def Wy (C:Addr)(H:Hp)(r:V)(y:Str)(ru:V):Prop:=∃ p us n dx d t kg,r=.ref p/\H p=some (.tup (us++[.ref n]))/\H n=some (.ins C dx (nF d t))/\H d=some (.dK kg)/\AN kg (.inr y:Key)=some ru
theorem Wy.inr (h:Wy C H r y ru)(g:fex v=some (e,E))(hy:y∈e.fv [])(hl:Bk E y=some u):LC C H v r u ru:=by
 obtain ⟨p,us,n,dx,d,t,kg,rfl,h1,h2,h3,h4⟩:=h;exact .f g h1 h2 h3 hy hl h4
theorem E5 {kvs:List (Key × V)}(h:(kvs.map (·.1)).Nodup){p:Key × V}(hp:p∈kvs):AN kvs p.1=some p.2:=by
 induction kvs with
 | nil=>cases hp
 | cons q E ih =>
  rw [List.map_cons,List.nodup_cons] at h;rcases List.mem_cons.mp hp with rfl | hp
  ·exact AZ rfl
  ·rw [A',ih h.2 hp];intro z;exact h.1 (List.mem_map.mpr ⟨p,hp,z.symm⟩)
theorem LC.back {C:Addr}{N:Nt}{H H':Hp}(k:TK C N H H'){v u:RV}{r ru:V}(hr:B' C N H v r)(h:LC C H' v r u ru):LC C H v r u ru:=by
 cases h with
 | l h =>
  cases hr with
  | two h1 _ _ _ _ _=>have:=k.t _ _ h1;rw [h] at this;cases this;exact .l h1
 | r h =>
  cases hr with
  | two h1 _ _ _ _ _=>have:=k.t _ _ h1;rw [h] at this;cases this;exact .r h1
 | @f _ _ e E us p n dx d t ru kg y g h1 h2 h3 h4 h5 h6 =>
  cases hc:ES v with
  | false=>cases v <;> first | exact Bool.noConfusion hc | exact nomatch g
  | true =>
   obtain ⟨p',LA,n',OY,d',t',q,nt⟩:=hr.note hc;cases q;have e1:=k.t _ _ nt.tup;rw [h1] at e1;injection e1 with e1;injection e1 with e1;rw [<- List.cons_append] at e1;obtain ⟨e2,e3⟩:=E4 e1;cases e3;obtain ⟨t2,g1,_⟩:=k.n _ _ _ _ _ nt.nn nt.ins;rw [h2] at g1;injection g1 with g1;obtain ⟨_,rfl,rfl,_⟩:=FN g1;obtain ⟨p2,So,n2,dx2,d2,t2,kg2,q2,k1,_,k2,k3,k4,_⟩:=hr.env g;cases q2;rw [nt.tup] at k1;injection k1 with k1;injection k1 with k1;rw [<- List.cons_append] at k1;obtain ⟨_,k5⟩:=E4 k1;cases k5;rw [nt.ins] at k2;injection k2 with k2;obtain ⟨_,_,k6,_⟩:=FN k2;subst k6;have k7:=k.d _ _ k3;rw [h3] at k7;cases k7;refine .f (us:=.str (C8 v)::LA) g (by rw [List.cons_append];exact nt.tup) nt.ins k3 h4 h5 h6
theorem TD.same (s:A9 H H')(h:TD C H v r):TD C H' v r:=by
 obtain ⟨t,h1,h2⟩:=h;exact ⟨t,h1.same s,h2⟩
theorem LC.fn {C:Addr}{H:Hp}{v u:RV}{r ru:V}(h:LC C H v r u ru){e:Ex}{E:Ev}(g:fex v=some (e,E)):∃ y,y∈e.fv []/\Bk E y=some u/\Wy C H r y ru:=by
 cases h with
 | l _=>cases g
 | r _=>cases g
 | @f _ _ e' E' us p n dx d t ru kg y g' h1 h2 h3 h4 h5 h6 =>
  rw [g] at g';cases g';exact ⟨y,h4,h5,p,us,n,dx,d,t,kg,rfl,h1,h2,h3,h6⟩
theorem Wy.det (a:Wy C H r y ru)(b:Wy C H r y NQ):ru=NQ:=by
 obtain ⟨p,us,n,dx,d,t,kg,rfl,h1,h2,h3,h4⟩:=a;obtain ⟨p',LA,n',OY,d',t',kg',e,g1,g2,g3,g4⟩:=b;cases e;rw [h1] at g1;injection g1 with g1;injection g1 with g1;obtain ⟨_,e⟩:=E4 g1;cases e;rw [h2] at g2;injection g2 with g2;obtain ⟨_,_,rfl,_⟩:=FN g2;rw [h3] at g3;cases g3;rw [h4] at g4;cases g4;rfl
structure Ent where
 v:RV
 w:Ex
 r:V
 k:Nat
structure EG (C:Addr)(N:Nt)(S Hm:Nat)(H:Hp)(e:Ent):Prop where
 at':B' C N H e.v e.r
 rr:RR e.v e.w
 rb:RB S Hm e.v
inductive KO (C:Addr)(H:Hp)(e:Ent)(R:List Ent):Prop
 | done:e.k=1->TD C H e.v e.r->KO C H e R
 | opened:e.k=2->(∀ u ru,LC C H e.v e.r u ru->TD C H u ru\/∃ x∈R,x.v=u/\x.r=ru)->KO C H e R
 | abg:e.k=3 * e.w.sz->KO C H e R
section
variable {C:Addr}{N:Nt}{S Hm Wd D0:Nat}{H H':Hp}
noncomputable def Fg (C:Addr)(N:Nt)(S Hm Wd D0:Nat)(H:Hp):Nat->List Ent->Prop
 | _,[]=>True
 | i,e::R=>EG C N S Hm H e/\KO C H e R/\(i<=Wd * (D0 - dep dz e.w)/\dep dz e.w<=D0)/\Fg C N S Hm Wd D0 H (i+1) R
noncomputable def JV (L:List Ent):Nat:=(L.map (·.k)).sum
theorem JB (L M:List Ent):JV (L++M)=JV L+JV M:=by simp [JV]
theorem Oy (e:Ent):JV [e]=e.k:=by simp [JV]
theorem KO.pos (h:KO C H e R):1<=e.k:=by
 cases h with
 | done h _=>omega
 | opened h _=>omega
 | abg h=>have:=Ff e.w;omega
theorem B'.inr (h:B' C N H v r)(g:LC C H v r u ru):B' C N H u ru:=by
 cases g with
 | l g=>cases h with
  | two h1 _ _ _ h5 h6=>rw [g] at h1;cases h1;exact h5
 | r g=>cases h with
  | two h1 _ _ _ h5 h6=>rw [g] at h1;cases h1;exact h6
 | @f _ _ e E us p n dx d t ru kg y g h1 h2 h3 h4 h5 h6 =>
  obtain ⟨p2,So,n2,dx2,d2,t2,kg2,q2,k1,_,k2,k3,k4,_⟩:=h.env g;cases q2;rw [h1] at k1;injection k1 with k1;injection k1 with k1;obtain ⟨_,k5⟩:=E4 k1;cases k5;rw [h2] at k2;injection k2 with k2;obtain ⟨_,_,k6,_⟩:=FN k2;subst k6;rw [h3] at k3;cases k3;rcases k4.look y with ⟨a,b⟩ | ⟨v',r',a,b,c⟩
  ·rw [b] at h6;cases h6
  ·rw [b] at h6;cases h6;rw [a] at h5;cases h5;exact c
theorem Fg.mono (k:TK C N H H'):∀ {i:Nat} {L:List Ent},Fg C N S Hm Wd D0 H i L->Fg C N S Hm Wd D0 H' i L
 | _,[],_=>trivial
 | i,e::R,h=>by
  obtain ⟨h1,h2,h3,h4⟩:=h;refine ⟨⟨h1.at'.mono k (Ad N),h1.rr,h1.rb⟩,?_,h3,Fg.mono k h4⟩;cases h2 with
  | done a b=>exact .done a (b.mono k h1.at')
  | opened a b=>exact .opened a λu ru g=>(b u ru (g.back k h1.at')).imp (λz=>z.mono k (h1.at'.inr (g.back k h1.at'))) id
  | abg a=>exact .abg a
theorem Fg.push:∀ {i:Nat} {L M:List Ent},Fg C N S Hm Wd D0 H i L->Fg C N S Hm Wd D0 H (i+L.length) M->Fg C N S Hm Wd D0 H i (L++M)
 | _,[],M,_,g=>g
 | i,e::R,M,h,g=>by
  obtain ⟨h1,h2,h3,h4⟩:=h;refine ⟨h1,?_,h3,Fg.push h4 (by rw [List.length_cons] at g;rw [show i+1+R.length=i+(R.length+1) by omega];exact g)⟩;cases h2 with
  | done a b=>exact .done a b
  | opened a b=>exact .opened a λu ru g=>(b u ru g).imp id λ⟨x,hx,q⟩=>⟨x,List.mem_append_left _ hx,q⟩
  | abg a=>exact .abg a
theorem Fg.pop {x:Ent}(t:TD C H x.v x.r):∀ {i:Nat} {L:List Ent},Fg C N S Hm Wd D0 H i (L++[x])->Fg C N S Hm Wd D0 H i L
 | _,[],_=>trivial
 | i,e::R,h=>by
  obtain ⟨h1,h2,h3,h4⟩:=h;refine ⟨h1,?_,h3,Fg.pop t h4⟩;cases h2 with
  | done a b=>exact .done a b
  | opened a b =>
   refine .opened a λu ru g=>?_;rcases b u ru g with z | ⟨y,hy,q1,q2⟩
   ·exact .inl z
   ·rcases List.mem_append.mp hy with hy | hy
    ·exact .inr ⟨y,hy,q1,q2⟩
    ·rw [List.mem_singleton.mp hy] at q1 q2;exact .inl (q1▸q2▸t)
  | abg a=>exact .abg a
theorem Fg.last {x:Ent}:∀ {i:Nat} {L:List Ent},Fg C N S Hm Wd D0 H i (L++[x])->EG C N S Hm H x/\KO C H x []/\(i+L.length<=Wd * (D0 - dep dz x.w)/\dep dz x.w<=D0)
 | i,[],h=>⟨h.1,h.2.1,h.2.2.1⟩
 | i,e::R,h=>by
  have:=Fg.last h.2.2.2;rw [List.length_cons];rw [show i+(R.length+1)=i+1+R.length by omega];exact this
theorem Fg.swap {x x':Ent}(h1:x.v=x'.v)(h2:x.r=x'.r){M:List Ent}:∀ {i:Nat} {L:List Ent},Fg C N S Hm Wd D0 H i (L++[x])->Fg C N S Hm Wd D0 H (i+L.length) (x'::M)->Fg C N S Hm Wd D0 H i (L++x'::M)
 | i,[],_,g=>g
 | i,e::R,h,g=>by
  obtain ⟨a1,a2,a3,a4⟩:=h;refine ⟨a1,?_,a3,Fg.swap h1 h2 a4 (by rw [List.length_cons] at g;rw [show i+1+R.length=i+(R.length+1) by omega];exact g)⟩;cases a2 with
  | done a b=>exact .done a b
  | opened a b =>
   refine .opened a λu ru g=>(b u ru g).imp id λAu=>?_;obtain ⟨y,hy,q1,q2⟩:=Au;rcases List.mem_append.mp hy with hy | hy
   ·exact ⟨y,List.mem_append_left _ hy,q1,q2⟩
   ·rw [List.mem_singleton.mp hy] at q1 q2;exact ⟨x',List.mem_append_right _ (.head _),h1▸q1,h2▸q2⟩
  | abg a=>exact .abg a
theorem Fg.news (h:∀ e∈L,EG C N S Hm H e/\e.k=3 * e.w.sz/\dep dz e.w<=D0/\i+L.length<=Wd * (D0 - dep dz e.w)):Fg C N S Hm Wd D0 H i L:=by
 induction L generalizing i with
 | nil=>trivial
 | cons e R ih =>
  obtain ⟨a1,a2,a3,a4⟩:=h e (.head _);rw [List.length_cons] at a4;refine ⟨a1,.abg a2,⟨(),a3⟩,ih λx hx=>?_⟩;obtain ⟨b1,b2,b3,b4⟩:=h x (.tail _ hx);rw [List.length_cons] at b4;exact ⟨b1,b2,b3,()⟩
end
end L2
namespace PySem
open L2
section
variable {prog:Program}{w:World}{A:Around}{E:Value->Shared->Prop}{s:Shared}
theorem bq:typeLookup (.type "dict_values") "__len__"=pure (some (.builtin "dict_values.__len__")):=by rw [typeLookup_type,builtinLookup_eq_fast];kernel_rfl
theorem Wz (hT:s.TypeIs (.ref d) "dict_values")(h:Q false s):wpAny (model prog w) A (Builtin.List.listLengthHint (.ref d)) Q E s:=by
 unfold Builtin.List.listLengthHint;refine wpAny_bind (wpAny_specialOf hT bq ?_);generalize g7:("dict_values.__len__":String)=pU
 wp_delta
 rw [show splitId pU=some ("dict_values","__len__") from by subst g7;decide +kernel];subst g7;refine wpAny_bind (wpAny_isInstance (T:="dict_values") (b:=true) hT (by rw [isSubtype_type];kernel_rfl) ?_);refine wpAny_ite_split (λSb=>absurd Sb ⟨⟩) (λ_=>?_);refine wpAny_ite_split (λ_=>?_) (λSb=>absurd (by decide +kernel) Sb);refine wpAny_bind (wpAny_typeOf hT ?_);exact wpAny_pure h
theorem Qd (hh:A.handled=none)(hv:s.heap.IsValuesView r d)(hm:s.heap.DictAt (Ap prog w) d kvs ep)(hlen:kvs.length<=sizeLine)(S:Addr)(res:Value)(c0:Nat)(hS:s.heap.get? S=some { cls:=.type "list",data:=.seq #[] c0 })(xC:S≠d)(hSr:S≠r)(hR:∀ h' tk Ds c',(∀ b o,b≠S->s.heap.get? b=some o->h'.get? b=some o)->h'.get? S=some { cls:=.type "list",dict:=none,data:=.seq Ds c',slots:=#[] } ->
   ItemsOf (λi v=>∃ k,kvs[i]?=some (k,v)) Ds kvs.length->R (.ok (.ret res)) { s with heap:=h',toks:=tk }) :
  wpAny (model prog w) A.in1 (Builtin.List.listExtendWith (.ref S) (.ref r) res)
   (λfin s'=>match fin with | .done f=>R (.ok f) s' | .again c'=>c'.quiet=true/\codeAny (model prog w) A c' R s') (λe s'=>R (.error e) s') s:=by
 have hT:s.TypeIs (.ref r) "dict_values":=hv.typeIs;obtain ⟨od,qT⟩:∃ o,s.heap.get? d=some o:=by
  obtain ⟨o,e,_⟩:=hm.dictOf.typeIs (s:=s);exact ⟨o,e⟩
 have mT:=Heap.lt_size qT;have xD:=Heap.lt_size hS;have nI:d≠s.heap.objs.size:=Nat.ne_of_lt mT;have W:=(Walks.dictValues (prog:=prog) (w:=w) (knd:=Ap prog w) (A:=A.in1) hh s.heap.objs.size d nI kvs ep).toS;have pW:S∉[s.heap.objs.size,d]:=by
  intro z;rcases List.mem_cons.mp z with z | z
  ·exact absurd z (Nat.ne_of_lt xD)
  ·exact xC (List.mem_singleton.mp z)
 have key:∀ (h:Heap) (c1 tk:Nat),h.IsValIter s.heap.objs.size d 0 kvs.length ep->h.DictAt (Ap prog w) d kvs ep->(∀ b o,b≠S->s.heap.get? b=some o->h.get? b=some o)->h.get? S=some { cls:=.type "list",data:=.seq #[] c1 } ->
   codeAny (model prog w) A (.builtin "list.extend.loop" ⟨[.ref S,.ref s.heap.objs.size,res],[]⟩) R { s with heap:=h,toks:=tk }:=by
  intro h c1 tk hit hda hk Sd;refine codeAny_extend_loopS W hlen S pW res kvs.length 0 _ #[] c1 rfl (Nat.zero_le _) ⟨hit,hda⟩ Sd (ItemsOf.nil _) λs' Ds c' xE Vq EA=>?_;rw [Moved.eq_with xE];refine hR s'.heap s'.toks Ds c' (λb o hb e=>xE.heap b o (λG9=>?_) (hk b o hb e)) Vq EA;rcases List.mem_cons.mp G9 with e' | G9
  ·exact hb e'
  ·have e':=List.mem_singleton.mp G9;exact absurd e' (Nat.ne_of_lt (Heap.lt_size e))
 unfold Builtin.List.listExtendWith;refine wpAny_bind (wpAny_typeOf hT ?_);have h1:Builtin.List.listSameRef (.ref S) (.ref r)=false:=by simp [Builtin.List.listSameRef,hSr]
 have h2:(Value.type "dict_values"==Value.type "list")=false:=by decide
 have h3:(Value.type "dict_values"==Value.type "tuple")=false:=by decide
 simp only [h1,h2,h3,Bool.or_false,Bool.false_eq_true,if_false];refine wpAny_bind (wpAny_pyIter_values hv hm ?_);have up:∀ b o,s.heap.get? b=some o->(s.heap.push { cls:=.type "dict_valueiterator",data:=.fields #[.ref d,.int 0 0,.int kvs.length 0,.int ep 0] }).get? b=some o:=λb o e=>Heap.get?_push_of_some _ e;have sf:(s.heap.push { cls:=.type "dict_valueiterator",data:=.fields #[.ref d,.int 0 0,.int kvs.length 0,.int ep 0] }).IsValIter s.heap.objs.size d 0 kvs.length ep:=⟨_,Heap.get?_push_size _ rfl,rfl,rfl⟩;have sj:(s.heap.push { cls:=.type "dict_valueiterator",data:=.fields #[.ref d,.int 0 0,.int kvs.length 0,.int ep 0] }).DictAt (Ap prog w) d kvs ep:=hm.at' λo e=>up d o e;have Sd:=up S _ hS;generalize s.heap.push { cls:=.type "dict_valueiterator",data:=.fields #[.ref d,.int 0 0,.int kvs.length 0,.int ep 0] }=h1 at up sf sj Sd ⊢;refine wpAny_bind (wpAny_holding (Wz (s:={ s with heap:=h1 }) (by
  obtain ⟨o,e,c⟩:=hT;exact ⟨o,up r o e,c⟩) ?_))
 refine wpAny_ite_split (λ_=>?_) (λ_=>wpAny_pure ⟨plainId_quiet F.plain_extend_loop _,key h1 c0 s.toks sf sj (λb o _ e=>up b o e) Sd⟩);refine wpAny_bind (wpAny_rule ?_);refine wpAny_bind ?_;show wpAny (model prog w) _ (updateSeq S (·.push .none) >>= λ_=>updateSeq S (·.pop)) _ _ _;refine wpAny_bind (wpAny_updateSeq (s:={ s with heap:=h1 }) Sd rfl ?_);have VD:=Heap.get?_update_self (Obj.mapSeq (·.push Value.none)) Sd rfl;refine wpAny_updateSeq (hz:=by seq_fits) VD rfl ?_;have pX:=Heap.get?_update_self (Obj.mapSeq (·.pop)) VD rfl;have MF:∀ b o,b≠S->h1.get? b=some o->((h1.update S (Obj.mapSeq (·.push Value.none))).update S (Obj.mapSeq (·.pop))).get? b=some o:=λb o hb e =>
  (Heap.get?_update_other _ _ (Ne.symm hb)).trans ((Heap.get?_update_other _ _ (Ne.symm hb)).trans e)
 exact wpAny_pure ⟨plainId_quiet F.plain_extend_loop _,key _ _ s.toks (sf.at λo e=>MF _ o (Ne.symm (Nat.ne_of_lt xD)) e) (sj.at' λo e=>MF d o (Ne.symm xC) e) (λb o hb e=>MF b o hb (up b o e)) pX⟩
theorem HQ (hh:A.handled=none)(hv:s.heap.IsValuesView r d)(hm:s.heap.DictAt (Ap prog w) d kvs ep)(hlen:kvs.length<=sizeLine)(hQ:∀ h' tk Ds c',(∀ b o,s.heap.get? b=some o->h'.get? b=some o)->h'.get? s.heap.objs.size=some { cls:=.type "list",dict:=none,data:=.seq Ds c',slots:=#[] } ->
   ItemsOf (λi v=>∃ k,kvs[i]?=some (k,v)) Ds kvs.length->Q (.ref s.heap.objs.size) { s with heap:=h',toks:=tk }):wpAny (model prog w) A (call (.type "list") [.ref r]) Q E s:=by
 have mT:d < s.heap.objs.size:=by
  obtain ⟨o,e,_⟩:=hm.dictOf.typeIs (s:=s);exact Heap.lt_size e
 have xF:r < s.heap.objs.size:=by
  obtain ⟨o,e,_⟩:=hv.typeIs (s:=s);exact Heap.lt_size e
 refine callType_codes (Q₁:=λobj s1=>obj=.ref s.heap.objs.size/\s1={ s with heap:=s.heap.push { cls:=.type "list",data:=.seq #[] } }) F.called_list (F.typeCall_list_1 _) F.entry_list_init (code_list_new _ ⟨rfl,rfl⟩) λobj s1 q1=>?_;obtain ⟨rfl,rfl⟩:=q1;have hS:(s.heap.push { cls:=.type "list",data:=.seq #[] }).get? s.heap.objs.size=some { cls:=.type "list",data:=.seq #[] }:=Heap.get?_push_size _ rfl;refine ⟨⟨_,hS,rfl⟩,F.args_list_init_2 _ _,?_⟩;show wpAny (model prog w) _ (do let old <- Builtin.List.listItems (.ref s.heap.objs.size);Builtin.List.listUpdate (.ref s.heap.objs.size) (λ_=>#[]);letGo old.toList.reverse;Builtin.List.listExtendWith (.ref s.heap.objs.size) (.ref r) .none) _ _ _
 refine wpAny_bind ?_;unfold Builtin.List.listItems;refine wpAny_bind (wpAny_seqItems hS rfl (wpAny_pure ?_));show wpAny (model prog w) _ (updateSeq s.heap.objs.size (λ_=>#[]) >>= λ_=>letGo (#[]:Array Value).toList.reverse >>= λ_=>Builtin.List.listExtendWith (.ref s.heap.objs.size) (.ref r) .none) _ _ _;refine wpAny_bind (wpAny_updateSeq hS rfl ?_);have VD:=Heap.get?_update_self (Obj.mapSeq (λ_=>(#[]:Array Value))) hS rfl;have MF:∀ b o,b≠s.heap.objs.size->s.heap.get? b=some o->((s.heap.push { cls:=.type "list",data:=.seq #[] }).update s.heap.objs.size (Obj.mapSeq (λ_=>(#[]:Array Value)))).get? b=some o :=
  λb o hb e=>(Heap.get?_update_other _ _ (Ne.symm hb)).trans (Heap.get?_push_of_some _ e)
 refine wpAny_bind (wpAny_letGo ?_);refine Qd (A:=A.in1) (r:=r) (d:=d) (kvs:=kvs) (ep:=ep) hh (by obtain ⟨o,e,c⟩:=hv;exact ⟨o,MF r o (Nat.ne_of_lt xF) e,c⟩) (hm.at' λo e=>MF d o (Nat.ne_of_lt mT) e) hlen _ .none _ VD (Ne.symm (Nat.ne_of_lt mT)) (Ne.symm (Nat.ne_of_lt xF)) λh' tk Ds c' hk Vq EA=>?_;exact ⟨rfl,hQ h' tk Ds c' (λb o e=>hk b o (Nat.ne_of_lt (Heap.lt_size e)) (MF b o (Nat.ne_of_lt (Heap.lt_size e)) e)) Vq EA⟩
end
end PySem
namespace L2
open PySem PySem.Spec PyProof.Rows
section
variable {X:Cx}
noncomputable def Fh (v d:Addr):HO:=.ext λh=>h.IsValuesView v d
theorem Fh.ok (e:h.IsValuesView v d):AJ P w H h v (Fh v d):=by
 obtain ⟨o,h1,h2⟩:=id e;exact ⟨e,⟨o,h1⟩,λa b ⟨o',e1,e2⟩ k=>⟨o',k o' e1,e2⟩⟩
noncomputable def jf:V->List V->Hp->VK->Prop:=λx vs H Q=>∃ d kvs,x=.ref d/\vs=[]/\H d=some (.dK kvs)/\∀ v,H v=none->Q (.ref v) (upd H v (Fh v d))
theorem Qe:cE X "dict.values" jf:=by
 intro pins s σ H x vs v us Q I rx rv h;obtain ⟨d,kvs,rfl,rfl,hH,q⟩:=h;cases rx;have YS:=rv.zero;subst YS;obtain ⟨_,hs,ws,r,hd⟩:=I.hok d _ hH;refine call_meetsIn F.slot_dict_values hd.typeIs F.entry_dict_values (F.args_dict_values_1 _) (meets_dict_values (Ap X.prog X.w) d hs) ⟨⟨_,hd⟩,?_⟩;have hn:H s.heap.objs.size=none:=I.fresh;exact ⟨.ref _,_,I.laid (λ_ _ q=>Heap.get?_push_of_some _ q) (Nat.le_refl _) (Fh.ok ⟨_,Heap.get?_push_size _ rfl,rfl,rfl⟩),rfl,q _ hn⟩
theorem Qf {kvs:List (Key × V)}{vs:List (Key × Value)}(r:KV kvs vs){us:List Value}(hl:us.length=kvs.length)(h:∀ (i:Nat) (u:Value),us[i]?=some u->∃ k,vs[i]?=some (k,u)):Vals (kvs.map λp=>p.2) us:=by
 have key:∀ (ks:List V) (us:List Value),ks.length=us.length->(∀ (i:Nat) k u,ks[i]?=some k->us[i]?=some u->RelV k u)->Vals ks us:=by
  intro ks
  induction ks with
  | nil=>intro us h1 _;cases us with | nil=>exact .nil | cons _ _=>simp at h1
  | cons k ks ih =>
   intro us h1 h2;cases us with
   | nil=>simp at h1
   | cons u us=>exact .cons (h2 0 k u rfl rfl) (ih us (by simpa using h1) λi k' u' e1 e2=>h2 (i+1) k' u' (by simpa using e1) (by simpa using e2))
 refine key _ _ (by rw [List.length_map];exact hl.symm) λi k u e1 e2=>?_;rw [List.getElem?_map] at e1;cases e:kvs[i]? with
 | none=>rw [e] at e1;cases e1
 | some p =>
  rw [e] at e1;cases e1;obtain ⟨v,hv,rv⟩:=r.at e;obtain ⟨k',h1⟩:=h i u e2;rw [hv] at h1;cases h1;exact rv
theorem N6 (hc:X.calm=true):CB X (.type "list") (λxs H Q=>∃ v d kvs,xs=[.ref v]/\H v=some (Fh v d)/\H d=some (.dK kvs)/\∀ l,H l=none->Q (.ref l) (upd H l (.lst (kvs.map λp=>p.2)))):=by
 intro pins s σ H xs us Q I r h;obtain ⟨v,d,kvs,rfl,hv,hd,q⟩:=h;obtain ⟨u,rfl,rx⟩:=vals1 r;cases rx;obtain ⟨hz,hs,vs,rk,o,es,ep,e1,e2,e3,e4⟩:=(show AJ X.prog X.w H s.heap d (.dK kvs) from I.hok d _ hd);have hl:=rk.length;have view:s.heap.IsValuesView v d:=(I.hok v _ hv).1;refine HQ (d:=d) (kvs:=vs) (ep:=ep) (I.ok.hd hc) view ⟨o,es,e1,e2,e3,e4⟩ () λh' tk acc c hk hS hA=>?_;refine ⟨.ref _,_,I.laid (o:=.lst (kvs.map λp=>p.2)) (t':=tk) hk (Nat.le_refl _) ⟨by rw [List.length_map];omega,acc.toList,c,Qf rk (by rw [Array.length_toList,hA.1];exact hl.symm) (λi u hu=>hA.2 i u (by simpa using hu)),by simpa using hS⟩,rfl,q _ (I.hok.fresh (Nat.le_refl _))⟩
end
end L2
namespace KX
open PySem PySem.Spec PyProof.Rows Ex
noncomputable def Y2 (v:RV):Ev:=match fex v with
 | some (e,E)=>GC E (e.fv [])
 | none=>[]
theorem Oz (v:RV):L2.Ir (.str (C8 v)) [.str "fun",.str "rec",.str "pair",.str "link"]=ES v:=by
 cases v with
 | two l _ _=>cases l <;> rfl
 | _=>rfl
theorem OB (v:RV):L2.Ir (.str (C8 v)) [.str "fun",.str "rec"]=(fex v).isSome:=by
 cases v with
 | two l _ _=>cases l <;> rfl
 | _=>rfl
theorem GG (v:RV):L2.Ir (.str (C8 v)) [.str "pair",.str "link"]=(ES v && (fex v).isNone):=by
 cases v with
 | two l _ _=>cases l <;> rfl
 | _=>rfl
end KX
namespace L2
open PySem PySem.Spec PyProof.Rows KS KX
theorem N7 (q:wi σ H λJ H1=>Zx J g tb { D with nx:=fun σ' H'=>Z7 H₀ (u D σ') H' } σ H1):Bh (λD σ H=>QG wi g tb { D with nx:=fun σ' H'=>Z7 H₀ (D.nx σ') H' } σ H) u D σ H:=q
theorem Qg (q:te σ H λx H1=>∃ v d kvs,x=.ref v/\H1 v=some (Hi v d)/\H1 d=some (.dK kvs)/\∀ o,R (cQ o d kvs) (upd H1 d (.frz o (.dK kvs)))):RI te σ H R:=q
theorem JC:∀ {E:Ev},(E.map (·.1)).Nodup->(E.map λq=>(.inr q.1:Key)).Nodup
 | [],_=>List.nodup_nil
 | p::E,h=>by
  rw [List.map_cons,List.nodup_cons] at h ⊢;refine ⟨λz=>h.1 ?_,JC h.2⟩;obtain ⟨q,hq,e⟩:=List.mem_map.mp z;exact List.mem_map.mpr ⟨q,hq,Sum.inr.inj e⟩
theorem Tw {kvs:List (Key × V)}{k:Key}{v:V}{p:Key × V}(h:p∈putK kvs k v):p.1=k\/p∈kvs:=by
 unfold putK at h;split at h
 ·obtain ⟨q,hq,rfl⟩:=List.mem_map.mp h;by_cases e:q.1=k
  ·simp [e]
  ·simp only [e,if_false];exact .inr hq
 ·rcases List.mem_append.mp h with h | h
  ·exact .inr h
  ·rw [List.mem_singleton.mp h];exact .inl rfl
theorem Lg:DF (us++[n]) none (some (-1))=us:=by
 unfold DF;have h1:HT.sIx (us++[n]).length 0 none=0:=rfl;have h2:HT.sIx (us++[n]).length (us++[n]).length (some (-1))=us.length:=by
  show (if (-1:Int) < 0 then ((-1:Int)+((us++[n]).length:Int)).toNat else min (-1:Int).toNat (us++[n]).length)=_
  rw [if_pos ⟨⟩,List.length_append,List.length_singleton];omega
 rw [h1,h2,List.drop_zero,Nat.sub_zero,List.take_append_of_le_length (Nat.le_refl _),List.take_length]
theorem Tx:¬ (HT.sIx (us++[n]).length 0 none=0/\HT.sIx (us++[n]).length (us++[n]).length (some (-1))=(us++[n]).length):=by
 rintro ⟨_,h⟩;have h2:HT.sIx (us++[n]).length (us++[n]).length (some (-1))=us.length:=by
  show (if (-1:Int) < 0 then ((-1:Int)+((us++[n]).length:Int)).toNat else min (-1:Int).toNat (us++[n]).length)=_
  rw [if_pos ⟨⟩,List.length_append,List.length_singleton];omega
 rw [h2,List.length_append,List.length_singleton] at h;omega
end L2
namespace K
open PySem L2 KM KS KX
section
variable {Pr:Program}{w:World}{K:W.Frag}{mg:Str->Option Value}{base:Heap}{C:Addr}
noncomputable def WA (C:Addr):Sp:=λvs H Q _=>∃ (N:Nt) (v:RV) (r:V),vs=[r]/\B' C N H v r/\∀ t H',A9 H H'->FK C H v r t->Q t H'
theorem sr:Ai ["value"] ["value"] (A5 CN):=nofun
theorem jg (F:Cd K "told_or_none" "told_or_none" CN f fd)(TN:Lb K mg C):Aq Pr w K mg base B5 1 f fd ["value"] (WA C):=by
 refine F.okS sr (λvs H Q E h=>?_) (λBf A outer s H vs Q E hr h=>?_)
 ·obtain ⟨N,v,r,rfl,_⟩:=h;rfl
 ·obtain ⟨N,v,r,rfl,hv,q⟩:=h;refine ⟨_,(Ac (Ak (Jc (Ao (r:=Uc K false) CA (eI 0) (Ah (A1 Ab (A1 Ab (A1 Ab (A1 Ab A2))))) rfl) (Cf (Bj (r:=D7 K) BE (Aa 0) (Ky DD A7) Cm)) (Aa 0)))),?_⟩;obtain ⟨p,us,rfl,hp⟩:=hv.look;apply A4 hp (v:=.str (C8 v)) (Aj (j:=0) rfl) ?_;left;intros p1 H1 s1 e1;refine Hu (.inr (Ba.of e1)) rfl rfl ?_;left;cases hc:ES v with
  | false =>
   refine Az (by rw [Oz,hc];decide) ?_;left;exact q _ H1 s1 (.leaf hc)
  | true =>
   obtain ⟨p',LA,n,dx,d,t,e,nt⟩:=hv.note hc;cases e;refine AR (by rw [Oz,hc];rfl) ?_;left;have ht:=s1 _ _ nt.tup;rw [<- List.cons_append] at ht;refine A4 ht (v:=.ref n) (JA (by have:=nt.len;simp only [List.length_cons];omega)) ?_;refine ⟨n,C,dx,_,t,rfl,s1 _ _ nt.ins,TN.cl,TN.nT,rfl,?_⟩;exact q t H1 s1 (nt.td hc)
noncomputable def br (C:Addr):Sp:=λvs H Q _=>∃ (N:Nt) (v:RV) (wv:Ex) (r:V) (S Hm:Nat),vs=[r]/\B' C N H v r/\RR v wv/\RB S Hm v/\S<=300000/\∀ d kvs H',A9 H H'->H d=none->H' d=some (.dK kvs)->Cq C N H (Y2 v) kvs->kvs.length<=S+1->(∀ y r',AN kvs (.inr y:Key)=some r'->Wy C H r y r')->Q (.ref d) H'
theorem Tz (h:RB S Hm v)(g:fex v=some (e,E)):e.sz<=S+1:=by
 cases h with
 | fn x h1 _ _ _=>cases g;simp only [Ex.sz];omega
 | rc f x h1 _ _ _=>cases g;simp only [Ex.sz];omega
 | _=>cases g
theorem bt:Ai ["value","names","name"] ["value"] (A5 EM):=nofun
theorem jh (F:Cd K "names_in" "names_in" EM f fd)(TN:Lb K mg C)(sv:Cl Pr w K mg base 3 "missing_names" ["tree"] aG):Aq Pr w K mg base B5 4 f fd ["value"] (br C):=by
 refine F.okS bt (λvs H Q E h=>?_) (λBf A outer s H vs Q E hr h=>?_)
 ·obtain ⟨N,v,wv,r,S,Hm,rfl,_⟩:=h;rfl
 ·obtain ⟨N,v,wv,r,S,Hm,rfl,hv,hw,hb,hS,q⟩:=h;have hu:=Ek hr;have rV:Ar 3 _:=hr;refine ⟨_,(A3 (Al (i:=1) bt.nd rfl (.inl rfl) DQ)
   (A3 (AS (Ao (r:=Uc K false) CA (eI 0) (Ah (A1 Ab (A1 Ab A2))) rfl) (Ac (F' PassesOwn.never rfl (DS (Ay sv rV rfl (A1 (Gq (r:=QT K) LV (Aa 0) Ja (Jb (Ky DD A7))) A2))) (AQ (i:=2) bt.nd rfl (.inl rfl)) (Ac (Mp hu (Aa 1) (Aa 2) (Je hu (Cf (Bj (r:=D7 K) BE (Aa 0) (Ky DD A7) Cm)) (Aa 2) Cm) rfl)))) Ax)
   (Ac (Ak (Aa 1))))),?_⟩
  obtain ⟨p,us,rfl,hp⟩:=hv.look;left;intro d hd;have s1:A9 H (upd H d (.dK [])):=A9.new hd;have e1:(upd H d (.dK [])) d=some (.dK []):=A6;generalize upd H d (.dK [])=H1 at s1 e1 ⊢;apply A4 (s1 _ _ hp) (v:=.str (C8 v)) (Aj (j:=0) rfl) ?_;left;intros p2 H2 s2 e2;refine Hu (.inr (Ba.of e2)) rfl rfl ?_;left;have BG:=s1.trans s2;cases hf:fex v with
  | none =>
   refine Az (by rw [OB,hf];decide) ?_;left;exact q d [] H2 BG hd (s2 _ _ e1) (by unfold Y2;rw [hf];exact .nil) (Nat.zero_le _) (λy r' z=>by cases z)
  | some eE =>
   obtain ⟨e,E⟩:=eE;refine AR (by rw [OB,hf];rfl) ?_;obtain ⟨p',LA,n,dx,dg,t,kg,e0,g1,g0,g2,g3,g4,g5⟩:=hv.env hf;cases e0;have hsz:=Tz hb hf;obtain ⟨XG,_⟩:=hw.fex hf;refine SX ?_;apply Hv (Ba.of (BG _ _ g1)) Tx λp3 H3 mU s3 e3=>?_;rw [Lg] at e3;have HW:=BG.trans s3;apply ⟨e,.ref p3,rfl,g5 H3 p3 (Ae.of_same HW) e3,(),λl H4 s4 e4=>?_⟩;have XB:=HW.trans s4;have mV:=s4 _ _ (s3 _ _ (s2 _ _ e1));have nl:l≠d:=λz=>(by rw [z,mV] at e4;cases e4);have fvl:(e.fv []).length<=e.sz:=XO;refine ⟨l,rfl,⟨_,AG.of e4⟩,?_⟩;have lm:((e.fv []).map V.str).length=(e.fv []).length:=List.length_map ..;refine QH (K:=K) (a:=l) (xs:=(e.fv []).map V.str) (λi σ' H'=>∃ nm kvs,σ'=[some (.ref p),some (.ref d),nm]/\A9 H H'/\H' l=some (.lst ((e.fv []).map V.str))/\H' d=some (.dK kvs)/\Cq C N H (GC E ((e.fv []).take i)) kvs/\∀ y r',AN kvs (.inr y:Key)=some r'->Wy C H (.ref p) y r') ⟨none,[],rfl,XB,e4,mV,.nil,(λy r' z=>by cases z)⟩ (λi σ' H' _ z=>?_) (λi x σ' H' hx z=>?_) fun σ' H' z=>?_
   ·obtain ⟨nm,kvs,_,_,h,_⟩:=z;exact AG.of h
   ·obtain ⟨nm,kvs,rfl,s5,l5,d5,k5,sy⟩:=z;rw [List.getElem?_map] at hx;obtain ⟨y,hy,rfl⟩:=Option.map_eq_some_iff.mp hx;have hym:=List.mem_of_getElem? hy;have hi:=(List.getElem?_eq_some_iff.mp hy).1;have WB:=Cy.mp (il XG y hym);refine Hz ?_;refine Jt ?_;apply A4 (s5 _ _ g1) (v:=.ref n) (JA ()) ?_;refine ⟨n,C,dx,_,.ref dg,rfl,s5 _ _ g2,TN.cl,TN.nG,rfl,?_⟩;rcases g4.look y with ⟨a,_⟩ | ⟨u,ru,a,b,c⟩
    ·rw [a] at WB;cases WB
    apply ⟨dg,ru,rfl,b▸BJ.k (k:=.inr y) (s5 _ _ g3),?_⟩;left;have l5':=Paired.len k5;have dI:=T5 E ((e.fv []).take i);rw [List.length_take] at dI;refine ⟨d,_,rfl,.inl ⟨kvs,.inr y,d5,rfl,Bx (),rfl⟩,?_⟩;refine ⟨_,_,rfl,A9.put s5 hd,by rw [A8 nl];exact l5,A6,?_,λz r' hz=>?_⟩
    ·rw [List.take_succ,hy];simp only [Option.toList_some];rw [T2 E _ a];exact k5.put c y
    ·rw [EZ] at hz;by_cases ez:z=y
     ·subst ez;rw [if_pos rfl] at hz;cases hz;exact ⟨p,LA,n,dx,dg,t,kg,rfl,g1,g2,g3,b⟩
     ·rw [if_neg λq=>ez (Sum.inr.inj q)] at hz;exact sy z r' hz
   ·obtain ⟨nm,kvs,rfl,s5,l5,d5,k5,sy⟩:=z;rw [lm,List.take_length] at k5;left;have l5':=Paired.len k5;have dI:=T5 E (e.fv []);exact q d kvs H' s5 hd d5 (by unfold Y2;rw [hf];exact k5) () sy
structure ji (C:Addr)(N:Nt)(H0 H:Hp)(v:RV)(wv:Ex)(r:V)(d:Addr)(kvs:List (Key × V))(S Hm:Nat):Prop where
 s:A9 H0 H
 d0:H0 d=none
 at':B' C N H0 v r
 rr:RR v wv
 rb:RB S Hm v
 hS:S<=300000
 cm:ES v=true
 hd:H d=some (.dK kvs)
 ev:Cq C N H0 (Y2 v) kvs
 kl:kvs.length<=S+1
 gv:∀ y r',AN kvs (.inr y:Key)=some r'->Wy C H0 r y r'
 td:∀ u ru,LC C H0 v r u ru->TD C H0 u ru
noncomputable def bu (C Pt:Addr):Sp:=λvs H Q _=>∃ (N:Nt) (H0:Hp) (v:RV) (wv:Ex) (r:V) (d:Addr) (kvs:List (Key × V)) (S Hm:Nat),vs=[r,.ref d]/\ji C N H0 H v wv r d kvs S Hm/\DZ Pt H/\∀ t H',BV Pt H H'->DZ Pt H'->As H' wv t->Q t H'
theorem JD (h:B' C N H0 u ru)(td:TD C H0 u ru)(s:A9 H0 H)(g:FK C H u ru t)(hw:RR u wu):As H wu t:=by
 obtain ⟨t',h1,h2⟩:=td;obtain ⟨t0,k1,k2⟩:=h.td;obtain rfl:=h1.det k1;obtain rfl:=g.det (h1.same s);rcases k2 with ⟨k2,_⟩ | ⟨w',k2,k3⟩
 ·exact absurd k2 h2
 ·rw [hw.det k2];exact As.mono (Ae.of_same s) k3
theorem WC:Ai ["value","names","trees","name","inner"] ["value","names"] (A5 Cp):=nofun
theorem jj (F:Cd K "told_of_parts" "told_of_parts" Cp f fd)(TN:Lb K mg C)(Uq:Cl Pr w K mg base 1 "told_or_none" ["value"] (WA C))(sA:Cl Pr w K mg base 7 "put_in" ["tree","told"] (Td Pt)):Aq Pr w K mg base B5 8 f fd ["value","names"] (bu C Pt):=by
 refine F.okS WC (λvs H Q E h=>?_) (λBf A outer s H vs Q E hr h=>?_)
 ·obtain ⟨N,H0,v,wv,r,d,kvs,S,Hm,rfl,_⟩:=h;rfl
 ·obtain ⟨N,H0,v,wv,r,d,kvs,S,Hm,rfl,P,tab,q⟩:=h;have hu:=Ek hr;have DA:Ar 1 _:=hr.mono ⟨⟩;have hr7:Ar 7 _:=hr;refine ⟨_,(A3 (AS (Ao (r:=Uc K false) CA (eI 0) (Ah (A1 Ab (A1 Ab A2))) rfl) (Ac (Ak (Ah (A1 (eI 0) (A1 (Ay Uq DA rfl (A1 (eI 0) A2)) (A1 (Ay Uq DA rfl (A1 (eI 0) A2)) A2)))))) Ax)
   (A3 (Al (i:=2) WC.nd rfl (.inl rfl) DQ)
   (A3 (Z8 (F' PassesOwn.never rfl (Vt (DP PySem.F.plainAttrs_dict PySem.F.slot_dict_items PySem.F.type_dict_items RH (Aa 1))) (Hh rfl (Bu (AQ (i:=3) WC.nd rfl (.inl rfl)) (Bu (AQ (i:=4) WC.nd rfl (.inl rfl)) EF))) (Ac (Mp hu (Aa 2) (Aa 3) (Ay Uq DA rfl (A1 (Aa 4) A2)) rfl))))
   (Ac (Ak (Ay sA hr7 rfl (A1 (Gq (r:=QT K) LV (Aa 0) Ja (Jb (Ky DD A7))) (A1 (Aa 2) A2)))))))),?_⟩
  obtain ⟨p,us,er,Uj⟩:=P.at'.look;subst er;have hp:=P.s _ _ Uj;apply A4 hp (v:=.str (C8 v)) (Aj (j:=0) rfl) ?_;left;intros p2 H2 s2 e2;refine Hu (.inr (Ba.of e2)) rfl rfl ?_;left;have BG:=P.s.trans s2;cases hf:fex v with
  | none =>
   refine AR (by rw [GG,hf,P.cm];rfl) ?_;have at0:=P.at';have rr:=P.rr;have mW:=P.td;cases at0 with
   | num _ | tru _ | emp _=>exact nomatch P.cm
   | fn _ _ _ _ _ _ _ _ | rc _ _ _ _ _ _ _ _=>cases hf
   | @two l a b _ n dx d' ra rb t h1 h2 h3 h4 h5 h6 =>
    rw [Uj] at h1;cases h1;have ta:=mW a ra (.l Uj);have tb:=mW b rb (.r Uj);obtain ⟨wa,wb,jk,sC⟩:∃ wa wb,RR a wa/\RR b wb:=by
     cases rr with
     | pr x y=>exact ⟨_,_,x,y⟩
     | lk x y=>exact ⟨_,_,x,y⟩
    apply A4 (s2 _ _ hp) (v:=.str (tw l)) (Aj (j:=0) rfl) ?_;apply A4 (s2 _ _ hp) (v:=ra) (Aj (j:=1) rfl) ?_;apply ⟨N,a,ra,rfl,h5.mono (TK.of_same BG) (Ad N),λt1 H3 s3 d3=>?_⟩;apply A4 (s3 _ _ (s2 _ _ hp)) (v:=rb) (Aj (j:=2) rfl) ?_;left;have HW:=BG.trans s3;refine ⟨N,b,rb,rfl,h6.mono (TK.of_same HW) (Ad N),λt2 H4 s4 d4=>?_⟩;left;intros p5 H5 s5 e5;have x1:As H5 wa t1:=As.mono (Ae.of_same (s3.trans (s4.trans s5))) (JD h5 ta BG d3 jk);have x2:As H5 wb t2:=As.mono (Ae.of_same (s4.trans s5)) (JD h6 tb HW d4 sC);have xG:=s2.trans (s3.trans (s4.trans s5));refine q _ H5 (BV.of xG) (tab.same xG) ?_;cases rr with
    | pr x y=>rw [x.det jk,y.det sC];exact ⟨p5,t1,t2,rfl,e5,x1,x2⟩
    | lk x y=>rw [x.det jk,y.det sC];exact ⟨p5,t1,t2,rfl,e5,x1,x2⟩
  | some eE =>
   obtain ⟨e,E⟩:=eE;refine Az (by rw [GG,hf,P.cm];simp) ?_;have env:=P.at'.env hf;obtain ⟨p',LA,n,dx,dg,t,kg,e0,g1,g0,g2,g3,g4,g5⟩:=env;cases e0;have hsz:=Tz P.rb hf;obtain ⟨XG,σ,wn,rfl,w1,w2,w3⟩:=P.rr.fex hf;have ev:=P.ev;unfold Y2 at ev;rw [hf] at ev;simp only at ev;left;intro d3 Oe;have s3:A9 H2 (upd H2 d3 (.dK [])):=A9.new Oe;have e3:(upd H2 d3 (.dK [])) d3=some (.dK []):=A6;generalize upd H2 d3 (.dK [])=H3 at s3 e3 ⊢;have jl:=s2.trans s3;have hd:=P.hd;have TB:=jl _ _ hd;have bw:H d3=none:=s2.free Oe;refine N7 ?_;refine Qg ?_;apply ⟨.inr (.inr (.inl ⟨rfl,.inl ⟨_,TB⟩⟩)),d,kvs,rfl,rfl,TB,λvw WD=>⟨vw,d,kvs,rfl,A6,by rw [A8 (Af TB WD)];exact TB,λo=>?_⟩⟩;have kl:=P.kl;have hS:=P.hS;have lkv:=Paired.len ev;have sD:d3≠d:=λz=>(by rw [z,hd] at bw;cases bw);have hvd:vw≠d:=λz=>(by rw [z,TB] at WD;cases WD);have hv3:vw≠d3:=λz=>(by rw [z,e3] at WD;cases WD);have keep:∀ b u,H b=some u->b≠d->(upd (upd H3 vw (Hi vw d)) d (.frz o (.dK kvs))) b=some u:=λb u hb nb=>by
    rw [A8 nb,A8 (λz=>by rw [z] at hb;rw [jl _ _ hb] at WD;cases WD)];exact jl _ _ hb
   refine PK (o:=o) (d:=d) (kvs:=kvs) (λi σ' H'=>∃ nm inn kt,σ'=[some (.ref p),some (.ref d),some (.ref d3),nm,inn]/\(∀ b u,H b=some u->b≠d->H' b=some u)/\H' d=some (.frz o (.dK kvs))/\H' d3=some (.dK kt)/\kt.length<=i/\(∀ x∈kt,∃ y:Str,x.1=.inr y)/\∀ y,(y∉((GC E (e.fv [])).take i).map (·.1)/\AN kt (.inr y:Key)=none)\/∃ u r',(y,u)∈(GC E (e.fv [])).take i/\AN kt (.inr y:Key)=some r'/\As H' (wn y) r')
    ⟨none,none,[],rfl,keep,A6,by rw [A8 sD,A8 (Ne.symm hv3)];exact e3,Nat.zero_le _,(λx hx=>by cases hx),λy=>.inl ⟨by simp,rfl⟩⟩ (λi σ' H' _ z=>?_) (λi kv σ' H' T Y3 z hT=>?_) fun σ' H' z=>?_
   ·obtain ⟨_,_,_,_,_,z,_⟩:=z;exact z
   ·obtain ⟨nm,inn,kt,rfl,kp,dC,sE,klz,sF,mX⟩:=z;obtain ⟨x,hx,dP,bx⟩:=Paired.at ev Y3;have hi:=(List.getElem?_eq_some_iff.mp Y3).1;have sT:A9 H' (upd H' T (.tup [kV kv.1,kv.2])):=A9.new hT;have eT:(upd H' T (.tup [kV kv.1,kv.2])) T=some (.tup [kV kv.1,kv.2]):=A6;generalize upd H' T (.tup [kV kv.1,kv.2])=H5 at sT eT ⊢;have ek:kV kv.1=.str x.1:=(by rw [dP];rfl);rw [ek] at eT;refine ⟨T,_,rfl,Ba.of eT,rfl,_,_,rfl,_,_,rfl,rfl,?_⟩;refine Jt ?_;left;have xH:A9 H0 H5:=λb u hb=>sT _ _ (kp b u (P.s _ _ hb) λz=>by rw [z,P.d0] at hb;cases hb);have hxm:=List.mem_of_getElem? hx;have WB:=CO (Du E _) hxm;rw [FI] at WB;have xI:x.1∈e.fv []:=by
     by_cases z:x.1∈e.fv []
     ·exact z
     ·rw [if_neg z] at WB;cases WB
    rw [if_pos xI] at WB;have OD:(kvs.map (·.1)).Nodup:=by
     rw [Cq.keys ev];exact JC (Du E (e.fv []))
    have Lh:=E5 OD (List.mem_of_getElem? Y3);rw [dP] at Lh;have Ur:TD C H0 x.2 kv.2:=P.td _ _ ((P.gv _ _ Lh).inr hf xI WB);refine ⟨N,x.2,kv.2,rfl,bx.mono (TK.of_same xH) (Ad N),λt1 H6 s6 d6=>?_⟩;have x6:As H6 (wn x.1) t1:=As.mono (Ae.of_same s6) (JD bx Ur xH d6 (w3 _ _ WB));left;have mY:=sT.trans s6;have xJ:=mY _ _ sE;refine ⟨d3,_,rfl,.inl ⟨kt,.inr x.1,xJ,rfl,Bx (),rfl⟩,?_⟩;have xK:Ae H6 (upd H6 d3 (.dK (putK kt (.inr x.1) t1))):=Ae.put λxs z=>(by rw [xJ] at z;cases z);refine ⟨_,_,_,rfl,λb u hb nb=>?_,by rw [A8 (Ne.symm sD)];exact mY _ _ dC,A6,?_,λz hz=>?_,λy=>?_⟩
    ·rw [A8 (λz=>by rw [z,bw] at hb;cases hb)];exact mY _ _ (kp b u hb nb)
    ·have:=Ku kt (.inr x.1) t1;omega
    ·rcases Tw hz with e | e
     ·exact ⟨x.1,e⟩
     ·exact sF z e
    ·rw [EZ,List.take_succ,hx];simp only [Option.toList_some,List.map_append,List.map_cons,List.map_nil,List.mem_append,List.mem_singleton,Sum.inr.injEq];by_cases ey:y=x.1
     ·subst ey;rw [if_pos rfl];exact .inr ⟨x.2,t1,.inr rfl,rfl,As.mono xK x6⟩
     ·rw [if_neg ey];rcases mX y with ⟨a,b⟩ | ⟨u,r',a,b,c⟩
      ·exact .inl ⟨λz=>z.elim a ey,b⟩
      ·exact .inr ⟨u,r',.inl a,b,As.mono ((Ae.of_same mY).trans xK) c⟩
   ·obtain ⟨nm,inn,kt,rfl,kp,dC,sE,klz,sF,mX⟩:=z;rw [<- lkv,List.take_length] at mX;refine .inr ⟨d,o,kvs,dC,(λo' u (z:H d=some (.frz o' u))=>by rw [hd] at z;cases z),?_⟩;have s7:A9 H (upd H' d (.dK kvs)):=λb u hb=>by
     by_cases z:b=d
     ·subst z;rw [hd] at hb;cases hb;exact A6
     ·rw [A8 z];exact kp b u hb z
    have xM:(upd H' d (.dK kvs)) d3=some (.dK kt):=(by rw [A8 sD];exact sE);have t7:Ae H' (upd H' d (.dK kvs)):=Ae.put λxs z=>(by rw [dC] at z;cases z);have su:ET (upd H' d (.dK kvs)) d3 (λy=>if y∈e.fv [] then σ y else none):=by
     refine ⟨kt,xM,(),sF,λy=>?_⟩;show ((if y∈e.fv [] then σ y else none)=none/\_)\/∃ v r,(if y∈e.fv [] then σ y else none)=some v/\_
     have lk:=FI E (e.fv []) y;rcases mX y with ⟨a,b⟩ | ⟨u,r',a,b,c⟩
     ·refine .inl ⟨?_,b⟩;by_cases hy:y∈e.fv []
      ·rw [if_pos hy];rw [if_pos hy] at lk;cases hl:Bk E y with
       | none=>exact w1 y hl
       | some u=>rw [hl] at lk;exact absurd (List.mem_map.mpr ⟨_,MU lk,rfl⟩) a
      ·rw [if_neg hy]
     ·have l2:=CO (Du E _) a;rw [lk] at l2;by_cases hy:y∈e.fv []
      ·rw [if_pos hy] at l2 ⊢;exact .inr ⟨wn y,r',w2 _ _ l2,b,As.mono t7 c⟩
      ·rw [if_neg hy] at l2;cases l2
    generalize upd H' d (.dK kvs)=H7 at s7 xM su ⊢;apply Hv (Ba.of (s7 _ _ (P.s _ _ g1))) Tx λp8 H8 hp8 s8 e8=>?_;rw [Lg] at e8;left;have s08:=P.s.trans (s7.trans s8);refine ⟨e,.ref p8,d3,_,rfl,g5 H8 p8 (Ae.of_same s08) e8,su.same s8,(),tab.same (s7.trans s8),λr' H9 x9 e9 TC=>?_⟩;refine q r' H9 ((BV.of (s7.trans s8)).trans x9) TC ?_;have:Ex.sub σ e=Ex.sub (λy=>if y∈e.fv [] then σ y else none) e:=aB (xs:=[]) (λy hy=>by cases hy) λy hy=>(by rw [if_pos hy]);rw [this];exact e9
end
end K
namespace L2
open PySem PySem.Spec PyProof.Rows KS KX
theorem WE (q:D.ct σ H):Qx D σ H:=q
theorem DY.upd (h:DY P p1 p2 q1 q2 H)(hx:H x=some u)(n1:∀ ps,u≠.tbl ps)(n2:∀ a ob,u≠C9 a ob):DY P p1 p2 q1 q2 (L2.upd H x o):=by
 rcases h with z | ⟨a,b,oa,ob,z1,z2,z3,z4,z5⟩
 ·exact .inl (by rw [A8 (λq=>by rw [<- q,z] at hx;exact n1 _ (Option.some.inj hx).symm)];exact z)
 ·refine .inr ⟨a,b,oa,ob,?_,?_,z3,?_,z5⟩
  ·rw [A8 (λq=>by rw [<- q,z1] at hx;exact n1 _ (Option.some.inj hx).symm)];exact z1
  ·rw [A8 (λq=>by rw [<- q,z2] at hx;exact n2 _ _ (Option.some.inj hx).symm)];exact z2
  ·rw [A8 (λq=>by rw [<- q,z4] at hx;exact n2 _ _ (Option.some.inj hx).symm)];exact z4
theorem N8:∀ {l:List α} {m:List β},Paired F l m->(∀ a b,a∈l->b∈m->F a b->G a b)->Paired G l m:=by
 intro l m p
 induction p with
 | nil=>exact λ_=>.nil
 | cons x y ih=>exact λh=>.cons (h _ _ (.head _) (.head _) x) (ih λa b ha hb=>h a b (.tail _ ha) (.tail _ hb))
theorem Li:∀ {l:List α} {m:List β},Paired (λa b=>G (f a) (g b)) l m->Paired G (l.map f) (m.map g):=by
 intro l m p
 induction p with
 | nil=>exact .nil
 | cons x y ih=>exact .cons x ih
noncomputable def NC (C Pt:Addr)(H H':Hp):Prop:=∀ b o,H b=some o->(∀ dx fs,o≠.ins C dx fs)->b≠Pt->H' b=some o
theorem NC.of_same (s:A9 H H'):NC C Pt H H':=λb o e _ _=>s b o e
theorem NC.ace (s:BV Pt H H'):NC C Pt H H':=λb o e _ n=>s b o e n
theorem NC.trans (a:NC C Pt H1 H2)(b:NC C Pt H2 H3):NC C Pt H1 H3:=λc o e x n=>b c o (a c o e x n) x n
theorem NC.put (n:NC C Pt H H')(h:H a=none):NC C Pt H (upd H' a o):=λb u e x z=>by
 rw [A8 (Af e h)];exact n b u e x z
theorem TK.ace (hP:H Pt=some (.tbl ps))(s:BV Pt H H'):TK C N H H':=by
 have k:∀ b o,H b=some o->(∀ ps,o≠.tbl ps)->H' b=some o:=λb o e n=>s b o e λz=>by rw [z,hP] at e;exact n _ (Option.some.inj e).symm
 exact ⟨λb xs e=>k b _ e (by intro _ z;cases z),λb kv e=>k b _ e (by intro _ z;cases z),λn dx d t v _ e=>⟨t,k n _ e (by intro _ z;cases z),.inl rfl⟩⟩
theorem TK.tell {C:Addr}{N:Nt}{H:Hp}{n dx d:Addr}{t t':V}{v:RV}{wv:Ex}(hn:N n=some v)(h:H n=some (.ins C dx (nF d t)))(hr:RR v wv)(he:As H wv t'):TK C N H (upd H n (.ins C dx (nF d t'))):=by
 have ts:Ae H (upd H n (.ins C dx (nF d t'))):=Ae.put λxs z=>by rw [h] at z;cases z
 refine ⟨ts,λb kv e=>?_,λm OY d' t1 u hm e=>?_⟩
 ·rw [A8 (λz=>by rw [z,h] at e;cases e)];exact e
 ·by_cases z:m=n
  ·subst z;rw [h] at e;injection e with e;obtain ⟨_,rfl,rfl,rfl⟩:=FN e;rw [hn] at hm;cases hm;exact ⟨t',A6,.inr ⟨wv,hr,As.mono ts he⟩⟩
  ·exact ⟨t1,by rw [A8 z];exact e,.inl rfl⟩
end L2
namespace KX
open PySem PySem.Spec PyProof.Rows Ex
theorem WG (v:RV)(h:(fex v).isSome=true):inn v=(Y2 v).map (·.2):=by
 cases v <;> first | rfl | cases h
theorem RB.inn (h:RB S Hm v):∀ u∈KX.inn v,RB S Hm u:=by
 intro u hu;have f:∀ {E:Ev} {xs:List Str},(∀ p∈E,RB S Hm p.2)->u∈(GC E xs).map (·.2)->RB S Hm u:=λ{E xs} hE hu=>by
  obtain ⟨p,hp,rfl⟩:=List.mem_map.mp hu;have:=CO (Du E xs) hp;rw [FI] at this;split at this
  ·exact hE _ (MU this)
  ·cases this
 cases h with
 | num _ | tru _ | emp=>cases hu
 | two l ha hb =>
  change _∈[_,_] at hu;simp only [List.mem_cons,List.not_mem_nil,or_false] at hu;rcases hu with rfl | rfl
  ·exact ha
  ·exact hb
 | fn x h1 h2 h3 h4=>exact f h4 hu
 | rc g x h1 h2 h3 h4=>exact f h4 hu
end KX
namespace K
open PySem L2 KM KS KX
noncomputable def sG (s:Stmt)(j:Nat):Stmt:=match s with
 | .While _ b _ _=>b.getD j He
 | _=>He
theorem NC.note {C Pt n dx:Addr}{fs:List (Str × V)}{H H':Hp}{o:HO}(a:NC C Pt H H')(h:H' n=some (.ins C dx fs)):NC C Pt H (upd H' n o):=λb u e x z=>by
 have:=a b u e x z;rw [A8 (λq=>by rw [q,h] at this;exact x _ _ (Option.some.inj this).symm)];exact this
structure Mis (C:Addr)(N:Nt)(H:Hp)(x:Ent)(ws:List Ex)(rs:List V)(i:Nat)(M:List Ent):Prop where
 at':∀ e∈M,e.k=3 * e.w.sz/\¬ TD C H e.v e.r/\∃ j:Nat,(inn x.v)[j]?=some e.v/\ws[j]?=some e.w/\rs[j]?=some e.r
 sz:(M.map λe=>e.w.sz).sum<=((ws.take i).map Ex.sz).sum
 len:M.length<=i
 cov:∀ (j:Nat) u ru,j < i->(inn x.v)[j]?=some u->rs[j]?=some ru->TD C H u ru\/∃ e∈M,e.v=u/\e.r=ru
section
variable {Pr:Program}{w:World}{K:W.Frag}{mg:Str->Option Value}{base:Heap}{C:Addr}
noncomputable def bz (C Pt:Addr):Sp:=λvs H Q _=>∃ (N:Nt) (v:RV) (wv:Ex) (r:V) (S Hm:Nat),vs=[r]/\B' C N H v r/\RR v wv/\RB S Hm v/\S<=3000/\dep dz wv<=290/\DZ Pt H/\∀ t H',NC C Pt H H'->DZ Pt H'->As H' wv t->Q t H'
structure xN (C Pt:Addr)(N:Nt)(S Hm D0:Nat)(v0:RV)(r0:V)(H:Hp)(lw:Addr)(H':Hp)(L:List Ent):Prop where
 nc:NC C Pt H H'
 tab:DZ Pt H'
 lw':H' lw=some (.lst (L.map (·.r)))
 st:Fg C N S Hm (S+3) D0 H' 0 L
 at':B' C N H' v0 r0
 root:TD C H' v0 r0\/∃ x∈L,x.v=v0/\x.r=r0
theorem WH (h:Fg C N S Hm Wd D0 H 0 L):L.length<=Wd * D0+1:=by
 rcases List.eq_nil_or_concat L with rfl | ⟨L',x,rfl⟩
 ·simp
 ·rw [List.concat_eq_append] at h ⊢;have:=(h.last).2.2;have h2:Wd * (D0 - dep dz x.w)<=Wd * D0:=Nat.mul_le_mul_left _ ();simp only [List.length_append,List.length_singleton];omega
theorem N9:Ai ["value","waiting","at","names","inner","missing","note"] ["value"] (A5 BW):=nofun
theorem jm (F:Cd K "told_value" "told_value" BW f fd)(TN:Lb K mg C)(Dc:mg "list"=none)(Uq:Cl Pr w K mg base 1 "told_or_none" ["value"] (WA C))(sH:Cl Pr w K mg base 4 "names_in" ["value"] (br C))(sI:Cl Pr w K mg base 8 "told_of_parts" ["value","names"] (bu C Pt)):Aq Pr w K mg base B5 9 f fd ["value"] (bz C Pt):=by
 refine F.okS N9 (λvs H Q E h=>?_) (λBf A outer s H vs Q E hr h=>?_)
 ·obtain ⟨N,v,wv,r,S,Hm,rfl,_⟩:=h;rfl
 ·obtain ⟨N,v0,w0,r0,S0,Hm,rfl,hv,hw,hb,hS,hd,tab,q⟩:=h;have DA:Ar 1 _:=hr.mono ⟨⟩;have ma:Ar 4 _:=hr.mono ⟨⟩;have hr8:Ar 8 _:=hr;have S:AY (Cr B5 Pr w K mg base ["value","waiting","at","names","inner","missing","note"] "told_value" (A5 BW) f Bf A outer s H E).nox (Bt (valueOf (sG (inDef BW 1) 4))) [] ["one"] [] [] :=
   ⟨rfl,by decide +kernel,rfl,by decide +kernel,rfl,rfl,rfl,rfl⟩
  have HD:(["one"]:List Str).Nodup:=by decide +kernel
  refine ⟨_,(A3 (Al (i:=1) N9.nd rfl (.inl rfl) (Bi (A1 (Aa 0) A2)))
   (A3 (Gr PassesOwn.never (Bz (Aa 1)) (A3 (Al (i:=2) N9.nd rfl (.inl rfl) (Bj (r:=C4 K) AE (Aa 1) (Ky DD A7) Cm))
   (A3 (AS (Ao UI (Ay Uq DA rfl (A1 (Aa 2) A2)) DO (Ag _)) (A3 (Bm (DP PySem.F.plainAttrs_list PySem.F.slot_list_pop PySem.F.type_list_pop DJ (Aa 1)))
   (Ac Ms)) Ax)
   (A3 (Al (i:=3) N9.nd rfl (.inl rfl) (Ay sH ma rfl (A1 (Aa 2) A2)))
   (A3 (Al (i:=4) N9.nd rfl (.inl rfl) (Jc (Ao (r:=Uc K false) CA (eI 2) (Ah (A1 Ab (A1 Ab A2))) rfl) (Bi (A1 (eI 2) (A1 (eI 2) A2))) (Bw (N6 rfl) (by rfl) Dc PyProof.Rows.boot_list (A1 (DP PySem.F.plainAttrs_dict PySem.F.slot_dict_values PySem.F.type_dict_values Qe (Aa 3)) A2))))
   (A3 (Fx (i:=5) N9.nd rfl (.inl rfl) S rfl (DS (Aa 4)) (λC s0 H0 ex=>AQ (i:=0) HD rfl (.inl rfl)) (λ_ _ _ _=>Rt (Ao J0 (Ay Uq DA rfl (A1 (Aa 0) A2)) DO (Ag _))) (λC s0 H0 ex=>Aa 0))
   (Ac (AS (Bz (Aa 5)) (Ac (Bm (Fv PySem.F.plainAttrs_list PySem.F.slot_list_extend PySem.F.type_list_extend Fp (Aa 1) (A1 (Aa 5) A2)))) (A3 (Al (i:=6) N9.nd rfl (.inl rfl) (Bj (r:=D7 K) BE (Aa 2) (Ky DD A7) Cm))
   (Ac (IF (Aa 6) (Ay sI hr8 rfl (A1 (Aa 2) (A1 (Aa 3) A2))))))))))))))
   (Ac (Ak (Ay Uq DA rfl (A1 (Aa 0) A2)))))),?_⟩
  apply C1 (Dm (Nat.le_of_ble_eq_true rfl)) λlw H1 L3 s1 e1=>?_;apply ⟨λm σ' H'=>∃ L o2 o3 o4 o5 o6,σ'=[some r0,some (.ref lw),o2,o3,o4,o5,o6]/\m=JV L/\xN C Pt N S0 Hm (dep dz w0) v0 r0 H lw H' L,
   ⟨_,[⟨v0,w0,r0,3 * w0.sz⟩],none,none,none,none,none,rfl,rfl,⟨NC.of_same s1,tab.same s1,e1,⟨⟨hv.mono (TK.of_same s1) (Ad N),hw,hb⟩,.abg rfl,⟨Nat.zero_le _,Nat.le_refl _⟩,trivial⟩,hv.mono (TK.of_same s1) (Ad N),.inr ⟨_,.head _,rfl,rfl⟩⟩⟩,?_⟩
  rintro m σ' H' ⟨L,o2,o3,o4,o5,o6,rfl,rfl,I⟩;have lL:=WH I.st;have lb:(S0+3) * dep dz w0<=3003 * 290:=Nat.mul_le_mul () hd;apply ⟨!(L.map (·.r)).isEmpty,.inl ⟨_,AG.of I.lw',rfl⟩,?_⟩;rcases List.eq_nil_or_concat L with rfl | ⟨L',x,eL⟩
  ·refine Az (by simp) ?_;left;have mW:TD C H' v0 r0:=by
    rcases I.root with h | ⟨x,hx,_⟩
    ·exact h
    ·cases hx
   refine ⟨N,v0,r0,rfl,I.at',λt H2 s2 d2=>?_⟩;refine q t H2 (I.nc.trans (NC.of_same s2)) (I.tab.same s2) ?_;exact As.mono (Ae.of_same s2) (JD I.at' mW (A9.refl _) d2 hw)
  ·rw [List.concat_eq_append] at eL;subst eL;obtain ⟨x1,x2,x3,x4⟩:=I.st.last;rw [Nat.zero_add] at x3;refine AR (by simp) ⟨fun σ' H'=>∃ m',m' < JV (L'++[x])/\∃ L o2 o3 o4 o5 o6,σ'=[some r0,some (.ref lw),o2,o3,o4,o5,o6]/\m'=JV L/\xN C Pt N S0 Hm (dep dz w0) v0 r0 H lw H' L,fun σ' H' q=>q,?_⟩;have mr:(L'++[x]).map (·.r)=L'.map (·.r)++[x.r]:=(by rw [List.map_append];rfl);have sJ:=I.lw';rw [mr] at sJ;rw [JB,Oy];have Ab3:=x2.pos;have lLL:L'.length<=900000:=(by rw [List.length_append] at lL;omega);apply BF (AG.of sJ) (v:=x.r) (Ke _ _) ?_;apply ⟨N,x.v,x.r,rfl,x1.at',λt H2 s2 d2=>?_⟩;apply ⟨rfl,?_⟩;left;have bA:=s2 _ _ sJ;have K0:=I.st.mono (TK.of_same s2);have xO:=I.nc.trans (NC.of_same s2);have Qh:=I.tab.same s2;have at2:=I.at'.mono (TK.of_same s2) (Ad N);by_cases ht:t=.non
   ·refine Az (by simp [ht]) ?_;subst ht;have WI:ES x.v=true:=by
     obtain ⟨t0,k1,k2⟩:=x1.at'.td;obtain rfl:=d2.det k1;rcases k2 with ⟨_,k2⟩ | ⟨w',_,k2⟩
     ·exact k2
     ·exact absurd rfl (N5 k2)
    have WJ:=x1.at'.mono (TK.of_same s2) (Ad N);have xP:¬ TD C H2 x.v x.r:=λ⟨t',k1,k2⟩=>k2 ((d2.same s2).det k1).symm;obtain ⟨ws,MQ,VY,jn⟩:=aN x1.rr;have VY:=VY WI;have lws:=Paired.len MQ;have rbi:=x1.rb.inn;obtain ⟨p,us,n,dx,d',t',TF,nt⟩:=WJ.note WI;apply ⟨N,x.v,x.w,x.r,S0,Hm,rfl,WJ,x1.rr,x1.rb,(),λd kvs H3 s3 Oe e3 ev kl gv=>?_⟩;have mZ:=ev;refine Gs (fun σ6 H6=>∃ li rs,σ6=[some r0,some (.ref lw),some x.r,some (.ref d),some (.ref li),o5,o6]/\A9 H3 H6/\H3 li=none/\H6 li=some (.lst rs)/\Paired (λu ru=>B' C N H2 u ru/\LC C H2 x.v x.r u ru) (inn x.v) rs/\rs.length<=S0+2/\∀ u ru,LC C H2 x.v x.r u ru->∃ j:Nat,(inn x.v)[j]?=some u/\rs[j]?=some ru) (fun σ6 H6 hj=>?_) λNn hN=>?_
    ·obtain ⟨li,rs,rfl,s6,rl,e6,n5,lrs,jo⟩:=hj;have xQ:=s3.trans s6;have lp6:=Paired.len n5;apply ⟨li,rfl,⟨_,AG.of e6⟩,?_⟩;refine F5 (K:=K) (a:=li) (xs:=rs) (λi ys H'=>A9 H6 H'/\∃ M,ys=M.map (·.r)/\Mis C N H2 x ws rs i M) ⟨A9.refl _,[],rfl,(λe he=>by cases he),Nat.zero_le _,Nat.zero_le _,λj u ru hj=>absurd hj (Nat.not_lt_zero _)⟩ (λi ys H' z=>AG.of (z.1 _ _ e6)) (Bx ()) (λi ys H' z=>by obtain ⟨_,M,rfl,g⟩:=z;rw [List.length_map];exact g.len) rfl (λi ru ys H7 n6 z=>?_) (λys H7 z=>?_)
     ·obtain ⟨s7,M,rfl,g⟩:=z;have hi:=(List.getElem?_eq_some_iff.mp n6).1;obtain ⟨u,hu,xR,hiu⟩:=Paired.at n5 n6;obtain ⟨wu,xS,iW⟩:=Paired.at1 MQ hu;have sL:=xQ.trans s7;apply ⟨N,u,ru,rfl,xR.mono (TK.of_same sL) (Ad N),λt8 H8 s8 d8=>?_⟩;apply ⟨rfl,?_⟩;left;have xT:ws.take (i+1)=ws.take i++[wu]:=(by rw [List.take_succ,xS];rfl);have jq:∀ M':List Ent,(∀ e∈M,e∈M')->(TD C H2 u ru\/∃ e∈M',e.v=u/\e.r=ru)->∀ (j:Nat) u' NQ,j < i+1->(inn x.v)[j]?=some u'->rs[j]?=some NQ->TD C H2 u' NQ\/∃ e∈M',e.v=u'/\e.r=NQ:=λM' hM h j u' NQ hj h1 h2=>by
       by_cases ej:j=i
       ·subst ej;rw [hu] at h1;cases h1;rw [n6] at h2;cases h2;exact h
       ·exact (g.cov j u' NQ () h1 h2).imp id λ⟨e,he,q⟩=>⟨e,hM e he,q⟩
      by_cases h8:t8=.non
      ·refine AR (by simp [h8]) ?_;left;have ntd:¬ TD C H2 u ru:=λ⟨t',k1,k2⟩=>k2 (((k1.same sL).det d8).trans h8);refine Nx.mk hi ⟨s7.trans s8,M++[⟨u,wu,ru,3 * wu.sz⟩],by simp,λe he=>?_,?_,?_,jq _ (λe he=>List.mem_append_left _ he) (.inr ⟨_,List.mem_append_right _ (.head _),rfl,rfl⟩)⟩
       ·rcases List.mem_append.mp he with he | he
        ·exact g.at' e he
        ·rw [List.mem_singleton.mp he];exact ⟨rfl,ntd,i,hu,xS,n6⟩
       ·rw [xT,List.map_append,List.map_append,List.sum_append,List.sum_append];have:=g.sz;simp only [List.map_cons,List.map_nil,List.sum_cons,List.sum_nil];omega
       ·have:=g.len;simp only [List.length_append,List.length_singleton];omega
      ·refine Az (by simp [h8]) ?_;apply Nx.mk hi ⟨s7.trans s8,M,rfl,g.at',?_,by have:=g.len;omega,jq _ (λe he=>he) (.inl ?_)⟩
       ·rw [xT,List.map_append,List.sum_append];have:=g.sz;omega
       ·obtain ⟨t0,k1,_⟩:=xR.td;refine ⟨t0,k1,?_⟩;rw [(k1.same sL).det d8];exact h8
     ·obtain ⟨s7,M,rfl,g⟩:=z;refine C1 (Nat.zero_le _) λlm H8 xc s8 e8=>?_;have Lj:=xQ.trans (s7.trans s8);have TH:=Lj _ _ bA;have Ml:=g.len;have gsz:=g.sz;rw [<- lp6,lws,List.take_length] at gsz;apply ⟨!(M.map (·.r)).isEmpty,.inl ⟨_,AG.of e8,rfl⟩,?_⟩;have xU:=K0.mono (TK.of_same Lj);have xV:=xO.trans (NC.of_same Lj);have bB:=Qh.same Lj;have jr:=at2.mono (TK.of_same Lj) (Ad N);cases M with
      | cons m0 M =>
       refine AR (by simp) ?_;apply ⟨.inl ⟨rfl,_,AG.of TH⟩,?_⟩;apply ⟨lw,lm,_,_,rfl,rfl,TH,e8,Dm (by simp only [List.length_append,List.length_map,List.length_singleton];omega),?_⟩;have k3:x.k=3 * x.w.sz:=by
        cases x2 with
        | done a b=>exact absurd (b.same s2) xP
        | opened a b =>
         obtain ⟨_,h2,j,h3,_,h4⟩:=g.at' m0 (.head _);obtain ⟨y,Wl,xW,xX⟩:=Paired.at1 n5 h3;rw [h4] at Wl;cases Wl;rcases b _ _ (xX.back (TK.of_same s2) x1.at') with z | ⟨_,z,_⟩
         ·exact absurd (z.same s2) h2
         ·cases z
        | abg a=>exact a
       have Lf:TK C N H8 (upd H8 lw (.lst (L'.map (·.r)++[x.r]++(m0::M).map (·.r)))):=TK.put (λxs z=>by rw [TH] at z;cases z) (λk z=>by rw [TH] at z;cases z) λdx fs z=>(by rw [TH] at z;cases z);have nc9:NC C Pt H (upd H8 lw (.lst (L'.map (·.r)++[x.r]++(m0::M).map (·.r)))):=xV.put L3;have TC:DZ Pt (upd H8 lw (.lst (L'.map (·.r)++[x.r]++(m0::M).map (·.r)))):=by
        exact DY.upd bB TH (λ_ z=>by cases z) (λ_ _ z=>by cases z)
       refine ⟨_,?_,L'++{ x with k:=2 }::(m0::M),_,_,_,_,_,rfl,rfl,nc9,TC,?_,?_,jr.mono Lf (Ad N),?_⟩
       ·rw [JB];have e1:JV ({ x with k:=2 }::(m0::M))=2+JV (m0::M):=(by simp [JV]);have e2:JV (m0::M)=3 * ((m0::M).map λe=>e.w.sz).sum:=by
         have:∀ M:List Ent,(∀ e∈M,e.k=3 * e.w.sz)->JV M=3 * (M.map λe=>e.w.sz).sum:=λM=>by
          induction M with
          | nil=>exact λ_=>rfl
          | cons a r ih =>
           intro h;have h1:=h a (.head _);have h2:=ih λe he=>h e (.tail _ he);simp only [JV,List.map_cons,List.sum_cons] at h2 ⊢;omega
         exact this _ λe he=>(g.at' e he).1
        omega
       ·rw [A6];simp
       ·refine Fg.swap (x:=x) (x':={ x with k:=2 }) rfl rfl (xU.mono Lf) ⟨⟨(x1.at'.mono (TK.of_same (s2.trans Lj)) (Ad N)).mono Lf (Ad N),x1.rr,x1.rb⟩,.opened rfl λu ru Ur=>?_,⟨by rw [Nat.zero_add];exact x3,x4⟩,Fg.news λe he=>?_⟩
        ·have jt:LC C H2 x.v x.r u ru:=(Ur.back Lf (x1.at'.mono (TK.of_same (s2.trans Lj)) (Ad N))).back (TK.of_same Lj) WJ;obtain ⟨j,j1,j2⟩:=jo u ru jt;have hj:=(List.getElem?_eq_some_iff.mp j2).1;rcases g.cov j u ru hj j1 j2 with z | z
         ·exact .inl ((z.same Lj).mono Lf ((WJ.inr jt).mono (TK.of_same Lj) (Ad N)))
         ·exact .inr z
        ·obtain ⟨h1,h2,j,h3,h4,h5⟩:=g.at' e he;obtain ⟨y,Wl,xW,xX⟩:=Paired.at1 n5 h3;rw [h5] at Wl;cases Wl;obtain ⟨y,xY,hy5⟩:=Paired.at1 MQ h3;rw [h4] at xY;cases xY;have hdj:=jn _ (List.mem_of_getElem? h4);refine ⟨⟨(xW.mono (TK.of_same Lj) (Ad N)).mono Lf (Ad N),hy5,rbi _ (List.mem_of_getElem? h3)⟩,h1,(),?_⟩;have hmul:(S0+3) * (dep dz w0 - dep dz x.w)+(S0+3)<=(S0+3) * (dep dz w0 - dep dz e.w):=by
          rw [<- Nat.mul_succ];exact Nat.mul_le_mul_left _ ()
         rw [Nat.zero_add];omega
       ·rcases I.root with z | ⟨y,hy,q1,q2⟩
        ·exact .inl (((z.same s2).same Lj).mono Lf jr)
        ·rcases List.mem_append.mp hy with hy | hy
         ·exact .inr ⟨y,List.mem_append_left _ hy,q1,q2⟩
         ·rw [List.mem_singleton.mp hy] at q1 q2;exact .inr ⟨_,List.mem_append_right _ (.head _),q1,q2⟩
      | nil =>
       refine Az (by simp) ?_;have ju:∀ u ru,LC C H2 x.v x.r u ru->TD C H2 u ru:=λu ru Ur=>by
        obtain ⟨j,j1,j2⟩:=jo u ru Ur;rcases g.cov j u ru (List.getElem?_eq_some_iff.mp j2).1 j1 j2 with z | ⟨e,he,_⟩
        ·exact z
        ·cases he
       left;rw [TF];have sM:=Lj _ _ nt.tup;rw [<- List.cons_append] at sM;refine A4 sM (v:=.ref n) (Ke _ _) ?_;apply ⟨N,H2,x.v,x.w,.ref p,d,kvs,S0,Hm,rfl,⟨Lj,Oe,TF▸WJ,x1.rr,x1.rb,(),WI,(s6.trans (s7.trans s8)) _ _ e3,ev,kl,TF▸gv,TF▸ju⟩,bB,λt9 H9 x9 TC e9=>?_⟩;left;obtain ⟨ps,NR⟩:=bB.tab;have n8:=Lj _ _ nt.ins;have n9:=x9 _ _ n8 (λz=>by rw [z,NR] at n8;cases n8);refine ⟨n,C,dx,_,rfl,n9,TN.cl,TN.nT,(show (nF d' t').length < 1000 by simp [nF]),?_⟩;have Lf:TK C N H8 H9:=TK.ace NR x9;have TJ:TK C N H9 (upd H9 n (.ins C dx (nF d' t9))):=TK.tell nt.nn n9 x1.rr e9;have xZ:NC C Pt H (upd H9 n (.ins C dx (nF d' t9))):=NC.note (xV.trans (NC.ace x9)) n9;have jv:DZ Pt (upd H9 n (.ins C dx (nF d' t9))):=DY.upd TC n9 (λ_ z=>by cases z) (λ_ _ z=>by cases z);have iA:(upd H9 n (.ins C dx (nF d' t9))) lw=some (.lst (L'.map (·.r)++[x.r])):=by
        rw [A8 (λz=>by rw [z] at TH;rw [TH] at n8;cases n8)];exact x9 _ _ TH (λz=>by rw [z,NR] at TH;cases TH)
       have epf:CU "told" t9 (nF d' t')=nF d' t9:=rfl;rw [epf];have tpa:=TJ.t _ _ (Lf.t _ _ sM);have y2:TD C (upd H9 n (.ins C dx (nF d' t9))) x.v x.r:=⟨t9,by rw [TF];exact .note WI tpa A6,N5 e9⟩;generalize upd H9 n (.ins C dx (nF d' t9))=Ha at TJ xZ jv iA y2 ⊢;have sta:=(xU.mono Lf).mono TJ;have k2:2<=x.k:=by
        cases x2 with
        | done a b=>exact absurd (b.same s2) xP
        | opened a b=>omega
        | abg a=>have:=Ff x.w;omega
       refine ⟨_,?_,L'++[{ x with k:=1 }],_,_,_,_,_,rfl,rfl,xZ,jv,?_,Fg.swap (x:=x) (x':={ x with k:=1 }) (M:=[]) rfl rfl sta ⟨⟨((x1.at'.mono (TK.of_same (s2.trans Lj)) (Ad N)).mono Lf (Ad N)).mono TJ (Ad N),x1.rr,x1.rb⟩,.done rfl y2,⟨by rw [Nat.zero_add];exact x3,x4⟩,trivial⟩,(jr.mono Lf (Ad N)).mono TJ (Ad N),?_⟩
       ·rw [JB,Oy];show JV L'+1 < JV L'+x.k;omega
       ·rw [iA];simp
       ·rcases I.root with z | ⟨y,hy,q1,q2⟩
        ·exact .inl ((((z.same s2).same Lj).mono Lf jr).mono TJ (jr.mono Lf (Ad N)))
        ·rcases List.mem_append.mp hy with hy | hy
         ·exact .inr ⟨y,List.mem_append_left _ hy,q1,q2⟩
         ·rw [List.mem_singleton.mp hy] at q1 q2;exact .inr ⟨_,List.mem_append_right _ (.head _),q1,q2⟩
    ·left;have tp3:=s3 _ _ nt.tup;rw [TF];refine A4 tp3 (v:=.str (C8 x.v)) (Aj (j:=0) rfl) ?_;left;intros p4 H4 s4 e4;refine Hu (.inr (Ba.of e4)) rfl rfl ?_;left;cases hf:fex x.v with
     | none =>
      refine AR (by rw [GG,hf,WI];rfl) ?_;obtain ⟨l,a,b,ng⟩:∃ l a b,x.v=.two l a b:=by
       cases hq:x.v with
       | two l a b=>exact ⟨l,a,b,rfl⟩
       | num _ | tru _ | emp=>rw [hq] at WI;cases WI
       | fn _ _ _ | rc _ _ _ _=>rw [hq] at hf;cases hf
      have xt:B' C N H2 (.two l a b) (.ref p):=(by rw [<- ng,<- TF];exact WJ);cases xt with
      | @two _ _ _ _ n' OY d2 ra rb t2 h1 h2 h3 h4 h5 h6 =>
      have dR:=s3.trans s4;apply A4 (dR _ _ h1) (v:=ra) (Aj (j:=1) rfl) ?_;apply A4 (dR _ _ h1) (v:=rb) (Aj (j:=2) rfl) ?_;apply C1 (Dm (Nat.le_of_ble_eq_true rfl)) λl5 H5 rD s5 e5=>?_;refine hN _ _ ⟨l5,[ra,rb],by rw [TF];rfl,s4.trans s5,s4.free rD,e5,?_,by simp,λu ru Ur=>?_⟩
      ·rw [ng,TF];exact .cons ⟨h5,.l h1⟩ (.cons ⟨h6,.r h1⟩ .nil)
      ·rw [ng,TF] at Ur;rw [ng];cases Ur with
       | l g=>rw [h1] at g;cases g;exact ⟨0,rfl,rfl⟩
       | r g=>rw [h1] at g;cases g;exact ⟨1,rfl,rfl⟩
       | f g=>cases g
     | some eE =>
      obtain ⟨e,E'⟩:=eE;refine Az (by rw [GG,hf,WI];simp) ?_;left;have sN:=s4 _ _ e3;refine ⟨.inr (.inr (.inl ⟨rfl,.inl ⟨_,sN⟩⟩)),d,kvs,rfl,rfl,sN,λvw WD=>?_⟩;left;have s5:A9 H4 (upd H4 vw (Fh vw d)):=A9.new WD;have e5:(upd H4 vw (Fh vw d)) vw=some (Fh vw d):=A6;generalize upd H4 vw (Fh vw d)=H5 at s5 e5 ⊢;refine ⟨vw,d,kvs,rfl,e5,s5 _ _ sN,λl6 sO=>?_⟩;have s6:A9 H5 (upd H5 l6 (.lst (kvs.map λp=>p.2))):=A9.new sO;have e6:(upd H5 l6 (.lst (kvs.map λp=>p.2))) l6=some (.lst (kvs.map λp=>p.2)):=A6;generalize upd H5 l6 (.lst (kvs.map λp=>p.2))=H6 at s6 e6 ⊢;have env:Y2 x.v=GC E' (e.fv []):=(by unfold Y2;rw [hf]);have jw:inn x.v=(GC E' (e.fv [])).map (·.2):=(by rw [WG x.v (by rw [hf];rfl),env]);rw [env] at mZ;have OD:(kvs.map (·.1)).Nodup:=(by rw [Cq.keys mZ];exact JC (Du E' (e.fv [])));have y3:∀ q∈GC E' (e.fv []),q.1∈e.fv []/\Bk E' q.1=some q.2:=λq hq=>by
       have:=CO (Du E' _) hq;rw [FI] at this;by_cases z:q.1∈e.fv []
       ·rw [if_pos z] at this;exact ⟨z,this⟩
       ·rw [if_neg z] at this;cases this
      refine hN _ _ ⟨l6,kvs.map λp=>p.2,by rw [TF];rfl,s4.trans (s5.trans s6),(s4.trans s5).free sO,e6,?_,by rw [List.length_map];omega,λu ru Ur=>?_⟩
      ·rw [jw];refine Li (N8 mZ λq kv hq Y3 hh=>⟨hh.2,?_⟩);have Lh:=E5 OD Y3;rw [hh.1] at Lh;exact (gv _ _ Lh).inr hf (y3 q hq).1 (y3 q hq).2
      ·obtain ⟨y,h4,h5,gg⟩:=Ur.fn hf;have hm:(y,u)∈GC E' (e.fv []):=MU (by rw [FI,if_pos h4];exact h5);obtain ⟨j,hj⟩:=List.getElem?_of_mem hm;obtain ⟨kv,Y3,hh⟩:=Paired.at1 mZ hj;have Lh:=E5 OD (List.mem_of_getElem? Y3);rw [hh.1] at Lh;have:=(gv _ _ Lh).det gg;refine ⟨j,?_,?_⟩
       ·rw [jw,List.getElem?_map,hj];rfl
       ·rw [List.getElem?_map,Y3,<- this];rfl
   ·refine AR (by simp [ht]) ?_;apply ⟨.inl ⟨rfl,_,AG.of bA⟩,lw,_,x.r,rfl,rfl,bA,by simp,?_⟩;rw [List.dropLast_concat];have jx:TK C N H2 (upd H2 lw (.lst (L'.map (·.r)))):=TK.put (λxs z=>by rw [bA] at z;cases z) (λk z=>by rw [bA] at z;cases z) λdx fs z=>(by rw [bA] at z;cases z);have nh:NC C Pt H (upd H2 lw (.lst (L'.map (·.r)))):=xO.put L3;have TL:DZ Pt (upd H2 lw (.lst (L'.map (·.r)))):=DY.upd Qh bA (λ_ z=>by cases z) (λ_ _ z=>by cases z);have y4:TD C H2 x.v x.r:=⟨t,d2.same s2,ht⟩;have WJ:=x1.at'.mono (TK.of_same s2) (Ad N);refine WE ?_;refine ⟨JV L',(),L',_,_,_,_,_,rfl,rfl,nh,TL,A6,(K0.mono jx).pop (y4.mono jx WJ),at2.mono jx (Ad N),?_⟩;rcases I.root with z | ⟨y,hy,q1,q2⟩
    ·exact .inl ((z.same s2).mono jx at2)
    ·rcases List.mem_append.mp hy with hy | hy
     ·exact .inr ⟨y,hy,q1,q2⟩
     ·rw [List.mem_singleton.mp hy] at q1 q2;exact .inl (q1▸q2▸y4.mono jx WJ)
end
section
variable {Pr:Program}{w:World}{K:W.Frag}{mg:Str->Option Value}{base:Heap}{C CR CS:Addr}{bS:List Value}{nS Jx Bn:String}
noncomputable def jy (C CR:Addr):Sp:=λvs H Q _=>∃ (p dx:Addr) (e:Ex) (rt:V),vs=[.ref p,rt]/\H p=some (.ins CR dx [])/\As H e rt/\∀ A H',A.p=p->(∀ b o,H b=some o->b≠p->H' b=some o)->AV C CR A (λ_=>none) H' ⟨[(e,[],false)],[],0⟩->Q .non H'
theorem sP:Ai ["self","tree"] ["self","tree"] (A5 AX):=nofun
theorem jz (F:Cd K "__init__" "Runner.__init__" AX f fd)(T:Tq K mg CR)(cc:CR≠C):Aq Pr w K mg base B5 1 f fd ["self","tree"] (jy C CR):=by
 refine F.okS sP (λvs H Q E h=>?_) (λBf A outer s H vs Q E hr h=>?_)
 ·obtain ⟨p,dx,e,rt,rfl,_⟩:=h;rfl
 ·obtain ⟨p,dx,e,rt,rfl,hp,he,q⟩:=h;refine ⟨_,(A3 (IF (Aa 0) (Bi (A1 (Ah (A1 (Aa 1) (A1 DQ (A1 G8 A2)))) A2)))
   (A3 (IF (Aa 0) (Bi A2))
   (Ac (IF (Aa 0) A7)))),?_⟩
  left;intro d hd;have s1:A9 H (upd H d (.dK [])):=A9.new hd;have e1:(upd H d (.dK [])) d=some (.dK []):=A6;generalize upd H d (.dK [])=H1 at s1 e1 ⊢;left;intros t2 H2 s2 e2;left;intros l3 H3 s3 e3;left;have Gx:=s1.trans (s2.trans s3);have mU:=Gx _ _ hp;refine ⟨p,CR,dx,[],rfl,mU,T.cl,T.nW,by simp,?_⟩;left;have Sq:l3≠p:=λz=>by rw [z,mU] at e3;cases e3
  refine C1 (Dm ⟨⟩) λl4 H4 Ul s4 e4=>?_;apply ⟨p,CR,dx,_,rfl,s4 _ _ A6,T.cl,T.nP,(show ([("waiting",.ref l3)]:List (Str × V)).length < 1000 by simp),?_⟩;apply ⟨p,CR,dx,_,rfl,A6,T.cl,T.nC,(show ([("waiting",.ref l3),("pile",.ref l4)]:List (Str × V)).length < 1000 by simp),?_⟩;rw [Gf];have h4p:H4 p=some _:=s4 _ _ A6;have l4p:l4≠p:=λz=>by rw [z,h4p] at e4;cases e4
  have l34:l3≠l4:=λz=>by rw [<- z,A8 Sq,e3] at Ul;cases Ul
  have k:∀ b o,H3 b=some o->b≠p->(upd H4 p (.ins CR dx (rF ⟨p,dx,l3,l4⟩ (0:Nat)))) b=some o:=λb o e z=>by
   rw [A8 z];exact s4 _ _ (by rw [A8 z];exact e)
  have t:Ae H3 (upd H4 p (.ins CR dx (rF ⟨p,dx,l3,l4⟩ (0:Nat)))):=λb xs e=>k b _ e λz=>by rw [z,mU] at e;cases e
  refine q ⟨p,dx,l3,l4⟩ _ rfl (λb o e z=>k b o (Gx _ _ e) z) ⟨⟨[.ref t2],[],A6,k _ _ e3 Sq,.cons ⟨t2,rt,d,[],rfl,t _ _ (s3 _ _ e2),As.mono t (As.mono (Ae.of_same Gx) he),k _ _ (s3 _ _ (s2 _ _ e1)) (λz=>?_),.nil⟩ .nil,?_,.nil⟩,λ_ _ z=>(by cases z),l34,cc⟩
  ·rw [z,hp] at hd;cases hd
  ·rw [A8 l4p];exact e4
noncomputable def bD:Ex->List Ex
 | .cal a b | .pr a b | .lk a b | .op _ a b=>[a,b]
 | .lt _ a _ | .wh a _ _ | .opn a _ _ _ | .spl a _ _ _ _=>[a]
 | _=>[]
theorem Qi (h:e.pls≠[])(E:Ev)(W:List (Ex × Ev × Bool))(P:List RV)(c:Nat):opens e E W P c=.go ⟨(bD e).map (λa=>(a,E,false))++(e,E,true)::W,P,c⟩:=by
 cases e <;> first | rfl | exact absurd rfl h
theorem TM (e:Ex):Paired (λk a=>e.its[k - 1]?=some (.pt a)/\1<=k) e.pls (bD e):=by
 cases e <;> first | exact .nil | exact .cons ⟨rfl,⟨⟩⟩ .nil | exact .cons ⟨rfl,⟨⟩⟩ (.cons ⟨rfl,⟨⟩⟩ .nil)
structure jA (C CR:Addr)(A:RA)(N:Nt)(H:Hp)(s:Rn)(e:Ex)(E0:Ev)(b:Bool)(W:List (Ex × Ev × Bool))(Hm S:Nat):Prop where
 M:AV C CR A N H s
 wt:s.wait=(e,E0,b)::W
 op:e.opk
 tr:b=true->e.pls≠[]/\e.pls.length<=s.aac.length
 nm:b=false->∀ x,e=.nm x->(Bk E0 x).isSome=true
 rb:∀ v∈s.aac,RB S Hm v
 el:E0.length<=Hm
 hm:Hm<=900000
 lp:s.aac.length<=900000
 lw:s.wait.length<=900000
noncomputable def bE (C CR CS:Addr):Sp:=λvs H Q E=>∃ (A:RA) (N:Nt) (s:Rn) (e:Ex) (E0:Ev) (b:Bool) (W:List (Ex × Ev × Bool)) (Hm S:Nat),vs=[.ref A.p]/\jA C CR A N H s e E0 b W Hm S /\
 (∀ s',Cg s=.go s'->∀ v N' H',W2 N N'->B2 A H H'->AV C CR A N' H' s'->Q v H')/\(Cg s=.stuck->∀ H',B2 A H H'->False)
noncomputable def bF:Stmt->Stmt
 | .If _ _ (b::_) _=>b
 | s=>s
noncomputable def sQ (n:Nat):Stmt->Stmt
 | .If _ b _ _=>b.getD n (.Pass ⟨0,0,0,0⟩)
 | s=>s
noncomputable def sR:Stmt->Expr
 | .Expr e _=>e
 | _=>Sl
theorem TQ:Ai ["self","entry","tree","given","places"] ["self"] (A5 AU):=nofun
theorem jB (F:Cd K "go_on" "Runner.go_on" AU f fd)(T:Tq K mg CR)(TN:Lb K mg C)(MN:Mk K C fN)(GN:Aq Pr w K mg base B5 1 fN jc ["self","given"] (Ws C))(bN:Binds K jc ["self","given"] [])(dU:Cl Pr w K mg base 1 "first_places" ["tree"] (Wr K))(sS:Mc Pr w K mg base B5 CR 4 "finish" ["self","tree","given"] (Tt C CR CS))(BL:mg "reversed"=none) :
  Aq Pr w K mg base B5 5 f fd ["self"] (bE C CR CS):=by
 refine F.okS TQ (λvs H Q E h=>?_) (λBf A0 outer s0 H vs Q E hr h=>?_)
 ·obtain ⟨A,N,s,e,E0,b,W,Hm,S,rfl,_⟩:=h;rfl
 ·obtain ⟨A,N,s,e,E0,b,W,Hm,S0,rfl,P,q1,q2⟩:=h;have DA:Ar 1 _:=hr.mono ⟨⟩;have G0:Ar 2 _:=hr.mono ⟨⟩;have ma:Ar 4 _:=hr;have hu:=Ek hr;have S:AY (Cr B5 Pr w K mg base ["self","entry","tree","given","places"] "Runner.go_on" (A5 AU) f Bf A0 outer s0 H E).nox (Bt (Jo (sR (sQ 1 (bF (inDef AU 4)))))) [("tree",s0.heap.objs.size+1),("given",s0.heap.objs.size+2)] ["place"] ["tree","given"] [2,3] :=
   ⟨rfl,by decide +kernel,rfl,by decide +kernel,rfl,rfl,rfl,rfl⟩
  have HD:(["place","tree","given"]:List Str).Nodup:=by decide +kernel
  refine ⟨_,(A3 (Al (i:=1) TQ.nd rfl (.inl rfl) (DP PySem.F.plainAttrs_list PySem.F.slot_list_pop PySem.F.type_list_pop DJ (Cf (Aa 0))))
   (A3 (Al (i:=2) TQ.nd rfl (.inr rfl) (eI 1))
   (A3 (Al (i:=3) TQ.nd rfl (.inr rfl) (eI 1))
   (A3 (Al (i:=4) TQ.nd rfl (.inl rfl) (Ay dU DA rfl (A1 (Aa 2) A2)))
   (Ac (AS (Bz (eI 1)) (Ac (Bm (r9 (Aa 0) T.cl sS ma (A1 (Aa 2) (A1 (Aa 3) A2))))) (Ac (AS (Bz (Aa 4)) (A3 (Bm (Fv PySem.F.plainAttrs_list PySem.F.slot_list_append PySem.F.type_list_append Bp (Cf (Aa 0)) (A1 (Ah (A1 (Aa 2) (A1 (Aa 3) (A1 G8 A2)))) A2)))
   (Ac (Bm (Fv PySem.F.plainAttrs_list PySem.F.slot_list_extend PySem.F.type_list_extend Fp (Cf (Aa 0)) (A1 (ED (tt:=G7) (te:=Pc (Be (FQ (D7 K) (B9 1) (B9 0)) (Be (B9 2) (Be (tC (.bl false)) DE)))) S rfl (bb rfl BL (A1 (Aa 4) A2)) (λC s0 H0 ex=>AQ (i:=0) HD rfl (.inl rfl)) (λ_ _ _ _=>En) (λC s0 H0 ex=>Ah (A1 (Bj BE (Aa 1) (Aa 0) Cm) (A1 (Aa 2) (A1 G8 A2))))) A2))))) (Ac (AS (Ao AA (eI 2) Ab (Ag _)) (Ac (Bm (Fv PySem.F.plainAttrs_list PySem.F.slot_list_append PySem.F.type_list_append Bp (Cf (Aa 0)) (A1 (Je hu (Aa 3) (eI 2) Cm) A2)))) (Ac (AS (Ao (r:=Uc K false) CA (eI 2) (Ah (A1 Ab (A1 Ab A2))) rfl) (Ac (Bm (Fv PySem.F.plainAttrs_list PySem.F.slot_list_append PySem.F.type_list_append Bp (Cf (Aa 0)) (A1 (Am (r:=Kc K) NH (Aa 2) (Ah (A1 (MH MN GN bN TN.mC G0 rfl (A1 (Aa 3) A2)) A2))) A2)))) (Ac (Bm (Fv PySem.F.plainAttrs_list PySem.F.slot_list_append PySem.F.type_list_append Bp (Cf (Aa 0)) (A1 (Aa 2) A2)))))))))))))))),?_⟩
  left;obtain ⟨us,x,h4,hx,M1⟩:=P.M.acp P.wt;refine ⟨A.p,CR,A.dx,_,_,rfl,P.M.fp,T.cl,T.nW,rfl,?_⟩;refine ⟨.inl ⟨rfl,_,AG.of h4⟩,A.lw,_,x,rfl,rfl,h4,by simp,?_⟩;rw [List.dropLast_concat];have o1:B2 A H (upd H A.lw (.lst us)):=B2.lw;generalize upd H A.lw (.lst us)=H1 at hx M1 o1 ⊢;obtain ⟨p,re,d,kvs,rfl,hp,he,hd,hE⟩:=hx;simp only at hp he hE;apply A4 hp (v:=re) rfl ?_;apply A4 hp (v:=.ref d) rfl ?_;apply ⟨e,re,rfl,he,λa H2 s2 jd=>?_⟩;apply A4 (s2 _ _ hp) (v:=.bl b) rfl ?_;have M2:=M1.same s2;have o2:B2 A H H2:=o1.trans (B2.of_same s2);have Us:=As.mono (Ae.of_same s2) he;have hd2:=s2 _ _ hd;have Ut:Cq C N H2 E0 kvs:=hE.mono (TK.of_same s2) (Ad N);have hW:W.length<=900000:=by have:=P.lw;rw [P.wt] at this;simp only [List.length_cons] at this;omega
  have FP:Cg s=if b=true then Ig e E0 W s.aac s.calls else opens e E0 W s.aac s.calls:=by
   unfold Cg;rw [P.wt];cases b <;> rfl
  have lp:=P.lp;refine ⟨b,rfl,?_⟩;cases b with
  | true =>
   rw [if_pos rfl] at FP;refine C5 ?_;apply ⟨A.p,A.dx,_,rfl,M2.fp,rfl,?_⟩;apply ⟨A,N,_,e,E0,re,d,kvs,Hm,S0,rfl,⟨M2,Us,hd2,Ut,P.op,(P.tr rfl).1,(P.tr rfl).2,P.rb,P.el,P.hm,P.lp,hW⟩,λs' hs v N' H' k1 k2 k3=>?_,λhs H' k2=>?_⟩
   ·left;exact q1 s' (by rw [FP];exact hs) _ N' H' k1 (o2.trans k2) k3
   ·exact q2 (by rw [FP];exact hs) H' (o2.trans k2)
  | false =>
   rw [if_neg ⟨⟩] at FP;refine Az ⟨⟩ ?_;apply ⟨!(e.pls.map λk:Nat=>V.int k).isEmpty,.inr (.inl ⟨_,jd H2 (Ae.of_same (A9.refl _)),rfl⟩),?_⟩;by_cases Ck:e.pls=[]
   ·refine Az (by simp [Ck]) ?_;have fin:∀ {v:RV} {r:V} {N':Nt} {H':Hp},W2 N N'->A9 H2 H'->AV C CR A N' H' { s with wait:=W }->B' C N' H' v r->opens e E0 W s.aac s.calls=.go ⟨W,v::s.aac,s.calls⟩->J6 (.ref A.lp) [r] H' λ_ H3=>Q .non H3:=by
     intro v r N' H' nk s' M' hv ho;obtain ⟨vs,k1,k2,k3⟩:=M'.ab5 hv;exact ⟨A.lp,vs,r,rfl,rfl,k1,Bx (by rw [k2];simp only;omega),q1 _ (by rw [FP];exact ho) _ N' _ nk (o2.trans ((B2.of_same s').trans B2.lp)) k3⟩
    have sU:=M2;obtain ⟨⟨ws2,vs2,_,_,_,w4,_⟩,_⟩:=sU;obtain ⟨pt,ut,rfl,ht,hi⟩:=Us.its;apply A4 ht (v:=.str e.wd) (Aj (j:=0) rfl) ?_;left;by_cases c1:e.wd="name"
    ·obtain ⟨x,rfl⟩:∃ x,e=.nm x:=by cases e <;> first | exact ⟨_,rfl⟩ | exact absurd c1 (by simp only [Ex.wd];decide)
     refine AR (by simp [Ex.wd]) ?_;apply ⟨A.p,CR,A.dx,_,_,rfl,M2.fp,T.cl,T.nP,rfl,?_⟩;refine ⟨.inl ⟨rfl,_,AG.of w4⟩,?_⟩;left;obtain ⟨aJ,h1,ht⟩:=Us;cases h1;refine A4 ht (v:=.str x) rfl ?_;have hs:=P.nm rfl x rfl;rcases Ut.look x with ⟨g1,_⟩ | ⟨v,r,g1,g2,g3⟩
     ·rw [g1] at hs;cases hs
     refine ⟨d,r,rfl,g2▸BJ.k (k:=.inr x) hd2,?_⟩;apply fin (Ad N) (A9.refl _) M2 g3 ?_;exact congrArg (gu _ _ _) g1
    ·refine Az (by simp [c1]) ?_;apply A4 ht (v:=.str e.wd) (Aj (j:=0) rfl) ?_;left;intros p3 H3 s3 e3;refine Hu (.inr (Ba.of e3)) rfl rfl ?_;left;have M3:=M2.same s3;have y6:=s3 _ _ w4;by_cases c2:Ir (.str e.wd) [.str "fun",.str "rec"]=true
     ·refine AR c2 ?_;apply ⟨A.p,CR,A.dx,_,_,rfl,M3.fp,T.cl,T.nP,rfl,?_⟩;refine ⟨.inl ⟨rfl,_,AG.of y6⟩,?_⟩;left;intro x8 JU dW Wx ME;refine ⟨x8,JU,d,rfl,A6,rfl,?_⟩;rw [Gf];have s8:A9 H3 (upd (upd H3 JU (.own x8)) x8 (.ins C JU (nF d .non))):=A9.put (A9.new Wx) dW;have e8:(upd (upd H3 JU (.own x8)) x8 (.ins C JU (nF d .non))) x8=some (.ins C JU (nF d .non)):=A6;generalize upd (upd H3 JU (.own x8)) x8 (.ins C JU (nF d .non))=H8 at s8 e8 ⊢;left;intros p9 H9 s9 e9;have mv:=s8.trans s9;have y7:=s3.trans mv;refine O1 (Ba.of (y7 _ _ ht)) (Ba.of e9) (by simp) (Dm ?_) (λz=>by cases z) λpa Ha hna sa ea=>?_
      ·have:=Paired.len hi;have:=VJ e;simp only [List.length_cons,List.length_nil];omega
      have bG:=y7.trans sa;left;have bx:H2 x8=none:=by
       cases z:H2 x8 with
       | none=>rfl
       | some o=>rw [s3 _ _ z] at dW;cases dW
      have ni:Ha x8=some _:=(s9.trans sa) _ _ e8;have TJ:TK C N H2 Ha:=TK.of_same bG;cases e with
      | fn x b =>
       have nk:=GF (v:=.fn x b E0) M2.nd bx;obtain ⟨aJ,rb,h1,L7,hb⟩:=Us;cases h1;rw [ht] at L7;cases L7;refine fin nk bG (M2.acd bx bG (by rw [ni];simp)) (B'.fn ea (As.mono TJ.t hb) ni add_same (.inl rfl) (bG _ _ hd2) Ut.keys λi q r a b=>(Ut.mono TJ nk).at' i q r a b) rfl
      | rc f x b =>
       have nk:=GF (v:=.rc f x b E0) M2.nd bx;obtain ⟨aJ,rb,h1,L7,hb⟩:=Us;cases h1;rw [ht] at L7;cases L7;refine fin nk bG (M2.acd bx bG (by rw [ni];simp)) (B'.rc ea (As.mono TJ.t hb) ni add_same (.inl rfl) (bG _ _ hd2) Ut.keys λi q r a b=>(Ut.mono TJ nk).at' i q r a b) rfl
      | _=>exact absurd c2 (by simp only [Ex.wd];decide)
     ·refine Az c2 ?_;apply ⟨A.p,CR,A.dx,_,_,rfl,M3.fp,T.cl,T.nP,rfl,?_⟩;refine ⟨.inl ⟨rfl,_,AG.of y6⟩,?_⟩;left;cases e with
      | num i=>obtain ⟨aJ,h1,L7⟩:=Us;exact fin (Ad N) s3 M3 (.num (s3 _ _ (by cases h1;exact L7))) rfl
      | tru i=>obtain ⟨aJ,h1,L7⟩:=Us;exact fin (Ad N) s3 M3 (.tru (s3 _ _ (by cases h1;exact L7))) rfl
      | emp=>obtain ⟨aJ,h1,L7⟩:=Us;exact fin (Ad N) s3 M3 (.emp (s3 _ _ (by cases h1;exact L7))) rfl
      | nm x=>exact absurd rfl c1
      | fn x b=>exact absurd (show Ir (.str "fun") _=true by decide) c2
      | rc f x b=>exact absurd (show Ir (.str "rec") _=true by decide) c2
      | _=>cases Ck
   ·refine AR (by simp [Ck]) ?_;apply ⟨A.p,CR,A.dx,_,_,rfl,M2.fp,T.cl,T.nW,rfl,?_⟩;have sU:=M2;obtain ⟨⟨ws2,vs2,_,w4,_⟩,_⟩:=sU;refine ⟨.inl ⟨rfl,_,AG.of w4⟩,?_⟩;left;intros p3 H3 s3 e3;have M3:=M2.same s3;obtain ⟨sV,k1,k2,M4⟩:=M3.ab6 (v:=(e,E0,true)) ⟨p3,re,d,kvs,rfl,e3,As.mono (Ae.of_same s3) Us,s3 _ _ hd2,Ut.mono (TK.of_same s3) (Ad N)⟩;refine ⟨A.lw,sV,_,rfl,rfl,k1,Bx (by rw [k2];simp only;omega),?_⟩;have o4:B2 A H2 (upd H3 A.lw (.lst (sV++[.ref p3]))):=(B2.of_same s3).trans B2.lw;generalize upd H3 A.lw (.lst (sV++[.ref p3]))=H4 at M4 o4 ⊢;have nj:TK C N H2 H4:=M2.tk o4;have je:=As.mono nj.t Us;have mV:=nj.d _ _ hd2;have hE4:Cq C N H4 E0 kvs:=Ut.mono nj (Ad N);have jC:=λH' (t:Ae H4 H')=>jd H' (nj.t.trans t);obtain ⟨pt,ut,rfl,ht,hi⟩:=je.its;apply ⟨A.p,CR,A.dx,_,_,rfl,M4.fp,T.cl,T.nW,rfl,?_⟩;have M4':=M4;obtain ⟨⟨ws4,vs4,_,w4,w5,_⟩,_⟩:=M4';refine ⟨.inl ⟨rfl,_,AG.of w4⟩,?_⟩;apply Tn ?_;left;have lm:(e.pls.map λk:Nat=>V.int k).length=e.pls.length:=List.length_map ..;have pl2:=Ow e;have pf:=TM e;have lf:=Paired.len pf;refine ⟨a,_,rfl,jC H4 (Ae.of_same (A9.refl _)),(),?_⟩;refine Qc (λi ys H'=>A9 H4 H'/\Paired (Ld C N H') (((bD e).reverse.take i).map λa=>(a,E0,false)) ys/\ys.length=i) ⟨A9.refl _,.nil,rfl⟩ (λi ys H' h=>jC H' (Ae.of_same h.1)) (Bx ()) (λi ys H' h=>Nat.le_of_eq h.2.2) rfl (λi x ys H' hx h=>?_) λys H5 h=>?_
    ·obtain ⟨si,pi,li⟩:=h;obtain ⟨hX,_⟩:=List.getElem?_eq_some_iff.mp hx;rw [List.length_reverse,lm] at hX;rw [<- List.map_reverse,List.getElem?_map] at hx;obtain ⟨k,hk,rfl⟩:=Option.map_eq_some_iff.mp hx;obtain ⟨a1,Zp,fT,ha3⟩:=Paired.at1 (Paired.rev pf) hk;obtain ⟨ra,jk,hea⟩:=Paired.at1 hi fT;refine MB ?_;refine C5 ?_;apply A4 (si _ _ ht) (v:=ra) (Aj (j:=k) ?_) ?_
     ·obtain ⟨k,rfl⟩:∃ j,k=j+1:=⟨k - 1,()⟩;exact jk
     left;intros p6 H6 s6 e6;rw [lm];refine Nx.mk hX ⟨si.trans s6,?_,by simp [li]⟩;rw [List.take_succ,Zp,List.map_append];refine Paired.app (Paired.aag pi λ_ _ z=>z.mono (TK.of_same s6) (Ad N)) (.cons ⟨p6,ra,d,kvs,rfl,e6,As.mono (Ae.of_same (si.trans s6)) hea,(si.trans s6) _ _ mV,hE4.mono (TK.of_same (si.trans s6)) (Ad N)⟩ .nil)
    ·obtain ⟨s5,p5,l5⟩:=h;rw [lm] at p5 l5;rw [List.take_of_length_le (by rw [List.length_reverse];omega)] at p5;refine C1 (Nat.zero_le _) λl6 H6 sO s6 e6=>?_;left;have M6:=(M4.same s5).same s6;have aI:=Paired.len w5;rw [List.length_reverse] at aI;simp only [List.length_cons] at aI;refine ⟨A.lw,l6,ws4,ys,rfl,rfl,s6 _ _ (s5 _ _ w4),e6,Dm (),?_⟩;left;have w6:=Paired.aag w5 λ_ _ z=>z.mono (TK.of_same (s5.trans s6)) (Ad N);refine q1 _ (by rw [FP,Qi Ck]) _ N _ (Ad N) (o2.trans (o4.trans ((B2.of_same (s5.trans s6)).trans B2.lw))) (M6.acb ?_);rw [List.reverse_append,<- List.map_reverse];exact Paired.app w6 (Paired.aag p5 λ_ _ z=>z.mono (TK.of_same s6) (Ad N))
end
end K
namespace KX
open PySem PySem.Spec PyProof.Rows Ex
theorem bH (h:Cg s=.go s')(hw:s.wait=(e,E,b)::W):(b=true->e.pls≠[]/\e.pls.length<=s.aac.length)/\(b=false->∀ x,e=.nm x->(Bk E x).isSome=true):=by
 obtain ⟨wait,aac,c⟩:=s;simp only at hw;subst hw;cases b with
 | false =>
  refine ⟨(λz=>by cases z),λ_ x ex=>?_⟩;subst ex;change gu _ _ _ (Bk E x)=_ at h;cases q:Bk E x with
  | none=>rw [q] at h;cases h
  | some v=>rfl
 | true =>
  refine ⟨λ_=>?_,(λz=>by cases z)⟩;simp only [Cg] at h;cases KP h <;> exact ⟨by simp [pls],by simp [pls]⟩
end KX
namespace L2
open PySem PySem.Spec PyProof.Rows KS KX
noncomputable def KR (C CR Pt:Addr)(H H':Hp):Prop:=∀ b o,H b=some o->(∀ xs,o≠.lst xs)->(∀ dx fs,o≠.ins C dx fs)->(∀ dx fs,o≠.ins CR dx fs)->b≠Pt->H' b=some o
theorem KR.trans {C CR Pt:Addr}{H1 H2 H3:Hp}(a:KR C CR Pt H1 H2)(b:KR C CR Pt H2 H3):KR C CR Pt H1 H3:=λc o e x y z n=>b c o (a c o e x y z n) x y z n
theorem KR.of_same {C CR Pt:Addr}{H H':Hp}(s:A9 H H'):KR C CR Pt H H':=λb o e _ _ _ _=>s b o e
theorem KR.acf {C CR Pt:Addr}{H H':Hp}(s:NC C Pt H H'):KR C CR Pt H H':=λb o e _ x _ n=>s b o e x n
theorem KR.abo {C CR Pt:Addr}{A:RA}{N:Nt}{s:Rn}{H H':Hp}(M:AV C CR A N H s)(o:B2 A H H'):KR C CR Pt H H':=by
 obtain ⟨⟨ws,vs,h1,h2,h3,h4,h5⟩,nd,ne,cc⟩:=M;intro b u e x y z n;refine o b u e (λq=>?_) (λq=>?_) λq=>?_
 ·rw [q,h1] at e;exact z _ _ (Option.some.inj e).symm
 ·rw [q,h2] at e;exact x _ (Option.some.inj e).symm
 ·rw [q,h4] at e;exact x _ (Option.some.inj e).symm
theorem KR.abu {C CR Pt:Addr}{H H':Hp}{ps:Array Value}(k:KR C CR Pt H H')(h:H Pt=some (.tbl ps)):Ae H H':=λb xs e=>k b _ e (by intro _ z;cases z) (by intro _ _ z;cases z) (by intro _ _ z;cases z) λz=>by rw [z,h] at e;cases e
theorem DY.kr' {C CR Pt:Addr}{p1 p2:Pos}{q1 q2:Str}{A:RA}{N:Nt}{s:Rn}{H H':Hp}(M:AV C CR A N H s)(o:B2 A H H')(h:DY Pt p1 p2 q1 q2 H):DY Pt p1 p2 q1 q2 H':=by
 obtain ⟨⟨ws,vs,h1,h2,h3,h4,h5⟩,nd,ne,cc⟩:=M;have k:∀ b u,H b=some u->(∀ fs,u≠.ins CR A.dx fs)->(∀ xs,u≠.lst xs)->H' b=some u:=λb u e x y=>by
  refine o b u e (λz=>?_) (λz=>?_) λz=>?_
  ·rw [z,h1] at e;cases e;exact x _ rfl
  ·rw [z,h2] at e;cases e;exact y _ rfl
  ·rw [z,h4] at e;cases e;exact y _ rfl
 rcases h with z | ⟨a,b,oa,ob,z1,z2,z3,z4,z5⟩
 ·exact .inl (k _ _ z (by intro _ z;cases z) (by intro _ z;cases z))
 ·exact .inr ⟨a,b,oa,ob,k _ _ z1 (by intro _ z;cases z) (by intro _ z;cases z),k _ _ z2 (by intro _ z;cases z) (by intro _ z;cases z),z3,k _ _ z4 (by intro _ z;cases z) (by intro _ z;cases z),z5⟩
end L2
namespace K
open PySem L2 KM KS KX
section
variable {Pr:Program}{w:World}{K:W.Frag}{mg:Str->Option Value}{base:Heap}{C CR CS:Addr}{bS:List Value}{nS Jx Bn:String}
structure RSp (C CR CS Pt:Addr)(H:Hp)(Q:VK)(E:XK)(o:RO):Prop where
 n:o=.over->∀ H',KR C CR Pt H H'->DZ Pt H'->Q .non H'
 s:o=.stuck->∀ H',KR C CR Pt H H'->DZ Pt H'->False
 t:∀ v c,o=.val v c->∃ wv,RR v wv/\dep dz wv<=290/\∀ p r H',KR C CR Pt H H'->DZ Pt H'->H' p=some (.tup [r,.int c])->As H' wv r->Q (.ref p) H'
noncomputable def TU (C CR CS Pt:Addr):Sp:=λvs H Q E=>∃ (e:Ex) (r:V) (most n S B:Nat) (o:RO),vs=[r,.int most]/\As H e r/\Sj most n ⟨[(e,[],false)],[],0⟩ o/\GoodR S most B ⟨[(e,[],false)],[],0⟩/\B<=900000/\S<=3000/\DZ Pt H/\RSp C CR CS Pt H Q E o
theorem jD:Ai ["tree","most","runner"] ["tree","most"] (A5 RP):=nofun
theorem jE {f fR Pt:Addr}{fd y8:FuncData}(F:Cd K "run" "run" RP f fd)(T:Tq K mg CR)(MR:Mk K CR fR)(GR:Aq Pr w K mg base B5 1 fR y8 ["self","tree"] (jy C CR))(bR:Binds K y8 ["self","tree"] [])(cc:CR≠C)
  (sW:Mc Pr w K mg base B5 CR 5 "go_on" ["self"] (bE C CR CS)) (sX:Cl Pr w K mg base 9 "told_value" ["value"] (bz C Pt)) :
  Aq Pr w K mg base B5 10 f fd ["tree","most"] (TU C CR CS Pt):=by
 refine F.okS jD (λvs H Q E h=>?_) (λBf A0 outer s0 H vs Q E hr h=>?_)
 ·obtain ⟨e,r,most,n,S,B,o,rfl,_⟩:=h;rfl
 ·obtain ⟨e,r,most,n,S,B,o,rfl,he,hE,hG,hB,hS,tab,R⟩:=h;have G0:Ar 2 _:=hr.mono ⟨⟩;have mh:Ar 5 _:=hr.mono ⟨⟩;have hr9:Ar 9 _:=hr;refine ⟨_,(A3 (Al (i:=2) jD.nd rfl (.inl rfl) (MH MR GR bR T.mC G0 rfl (A1 (Aa 0) A2)))
   (A3 (Gr PassesOwn.never (Kn (w_and (Bz (Cf (Aa 2))) (Dk (Ao eU (Cf (Aa 2)) (Aa 1) (Ag _))))) (Ac (Bm (iT (Aa 2) T.cl sW mh))))
   (A3 (AS (Ao Xa (Cf (Aa 2)) (Aa 1) (Ag _)) (Ac (Ak DO)) Ax)
   (Ac (Ak (Ah (A1 (Ay sX hr9 rfl (A1 (DP PySem.F.plainAttrs_list PySem.F.slot_list_pop PySem.F.type_list_pop DJ (Cf (Aa 2))) A2)) (A1 (Cf (Aa 2)) A2)))))))),?_⟩
  left;intro x dx hx hdx ME;have sm:A9 H (upd (upd H dx (.own x)) x (.ins CR dx [])):=λb o e=>by
   rw [A8 (Af e hx),A8 (Af e hdx)];exact e
  refine ⟨x,dx,e,r,rfl,A6,As.mono (Ae.of_same sm) he,λA H1 eA k1 M1=>⟨rfl,?_⟩⟩;have Ui:A9 H H1:=λb o e=>k1 b o (sm b o e) (Af e hx);have Wm:=tab.same Ui;rw [<- eA];refine ⟨λm σ' H'=>∃ s N,Sj most m s o/\(s.calls<=most->GoodR S most B s)/\σ'=[some r,some (.int most),some (.ref A.p)]/\KR C CR Pt H H'/\DZ Pt H'/\AV C CR A N H' s,⟨n,_,_,hE,λ_=>hG,rfl,KR.of_same Ui,Wm,M1⟩,?_⟩;clear hE hG M1 k1 Ui Wm;rintro m σ' H' ⟨s,N,hE,hG,rfl,kr,TV,M⟩;have M':=M;obtain ⟨⟨ws,vs,h1,h2,h3,h4,h5⟩,nd,ne,_⟩:=M';have lw:=Paired.len h3;rw [List.length_reverse] at lw;apply ⟨A.p,CR,A.dx,_,_,rfl,h1,T.cl,T.nW,rfl,?_⟩;refine ⟨!ws.isEmpty,.inl ⟨ws,AG.of h2,rfl⟩,?_⟩;cases hw:s.wait with
  | nil =>
   have ew:ws=[]:=List.eq_nil_of_length_eq_zero (by rw [<- lw,hw];rfl);refine Az (by rw [ew];simp) ?_;refine Ce ?_;apply ⟨A.p,CR,A.dx,_,_,rfl,h1,T.cl,T.nC,rfl,?_⟩;left;by_cases hc:s.calls<=most
   ·refine Az (λz=>by have:=of_decide_eq_true z;omega) ?_;obtain ⟨v,P,hp,ho⟩:∃ v P,s.aac=v::P/\o=.val v s.calls:=by
     cases hE with
     | val _ _ z=>exact ⟨_,_,z,rfl⟩
     | over z=>omega
     | stuck _ z _=>obtain ⟨e,E,W,z,_⟩:=z;rw [hw] at z;cases z
     | go _ z _ _=>exact absurd hw z
    obtain ⟨wv,hrr,y9,hq⟩:=R.t v s.calls ho;obtain ⟨⟨Hm,_,g2,_⟩,_⟩:=hG hc;obtain ⟨us,x1,g4,gx,M1⟩:=M.ack hp;apply ⟨A.p,CR,A.dx,_,_,rfl,h1,T.cl,T.nP,rfl,?_⟩;refine ⟨.inl ⟨rfl,_,AG.of g4⟩,A.lp,_,x1,rfl,rfl,g4,by simp,?_⟩;rw [List.dropLast_concat];have o1:B2 A H' (upd H' A.lp (.lst us)):=B2.lp;have Qh:=TV.kr' M o1;have ya:KR C CR Pt H (upd H' A.lp (.lst us)):=kr.trans (KR.abo M o1);generalize upd H' A.lp (.lst us)=H2 at gx M1 Qh ya ⊢;apply ⟨N,v,wv,x1,S,Hm,rfl,gx,hrr,g2 v (by rw [hp];exact .head _),hS,y9,Qh,λt H3 nh TL he3=>?_⟩;left;obtain ⟨ps,NR⟩:=Qh.tab;have fp3:=nh _ _ M1.fp (λdx fs z=>by cases z;exact cc rfl) (λz=>by have:=M1.fp;rw [z,NR] at this;cases this);refine ⟨A.p,CR,A.dx,_,_,rfl,fp3,T.cl,T.nC,rfl,?_⟩;left;intros p4 H4 s4 e4;exact hq p4 t H4 ((ya.trans (KR.acf nh)).trans (KR.of_same s4)) (TL.same s4) e4 (As.mono (Ae.of_same s4) he3)
   ·refine AR (decide_eq_true ()) ?_;apply R.n ?_ H' kr TV;cases hE with
    | val _ z _=>omega
    | over z=>rfl
    | stuck z _ _=>omega
    | go z _ _ _=>omega
  | cons t W =>
   obtain ⟨e1,E1,b1⟩:=t;have ew:ws≠[]:=λz=>(by rw [z,hw] at lw;simp at lw);refine AR (by simpa using ew) ?_;apply ⟨A.p,CR,A.dx,_,_,rfl,h1,T.cl,T.nC,rfl,?_⟩;left;by_cases hc:s.calls<=most
   ·refine AR (decide_eq_true ()) ⟨fun σ' H'=>∃ m',m' < m/\∃ s N,Sj most m' s o/\(s.calls<=most->GoodR S most B s)/\σ'=[some r,some (.int most),some (.ref A.p)]/\KR C CR Pt H H'/\DZ Pt H'/\AV C CR A N H' s,fun σ' H' q=>q,?_⟩;have G:=hG hc;obtain ⟨⟨Hm,g1,g2,g3⟩,g4⟩:=id G;obtain ⟨w1,w2,w3⟩:=g1 (e1,E1,b1) (by rw [hw];exact .head _);have wl:=Sh s.wait;have mul:FF s.wait<=s.mu S most:=(by simp only [Rn.mu];omega);apply ⟨A.p,A.dx,_,rfl,h1,rfl,?_⟩;left;have pre:(b1=true->e1.pls≠[]/\e1.pls.length<=s.aac.length)/\(b1=false->∀ x,e1=.nm x->(Bk E1 x).isSome=true):=by
     cases hE with
     | val z _ _=>rw [hw] at z;cases z
     | over z=>omega
     | stuck _ z _ =>
      obtain ⟨e,E,W',z1,z2,z3⟩:=z;rw [hw] at z1;cases z1;exact ⟨λ_=>⟨z2,z3⟩,(λz=>by cases z)⟩
     | go _ _ z _=>exact bH z hw
    refine ⟨A,N,s,e1,E1,b1,W,Hm,S,rfl,⟨M,hw,w2,pre.1,pre.2,g2,w3.len,(),(),()⟩,λs' hs v N' H2 k1 k2 M2=>?_,λhs H2 k2=>?_⟩
    ·left;cases hE with
     | val z _ _=>rw [hw] at z;cases z
     | over z=>omega
     | stuck _ _ z=>rw [hs] at z;cases z
     | @go _ s2 m2 _ _ _ z Ut =>
      rw [hs] at z;cases z;have G2:=G.step hc hs;exact ⟨m2,Nat.lt_succ_self _,s',N',Ut,λ_=>G2.1,rfl,kr.trans (KR.abo M k2),TV.kr' M k2,M2⟩
    ·refine R.s ?_ H2 (kr.trans (KR.abo M k2)) (TV.kr' M k2);cases hE with
     | val z _ _=>rw [hw] at z;cases z
     | over z=>omega
     | stuck _ _ z=>rfl
     | go _ _ z _=>rw [hs] at z;cases z
   ·refine Az (λz=>by have:=of_decide_eq_true z;omega) ?_;apply ⟨A.p,CR,A.dx,_,_,rfl,h1,T.cl,T.nC,rfl,?_⟩;apply AR (decide_eq_true ()) ?_;apply R.n ?_ H' kr TV;cases hE with
    | val _ z _=>omega
    | over z=>rfl
    | stuck z _ _=>omega
    | go z _ _ _=>omega
end
section
variable {Pr:Program}{w:World}{K:W.Frag}{mg:Str->Option Value}{base:Heap}
structure Tie (K:W.Frag)(mg:Str->Option Value)(fd ft fb fl:Addr)(dd dt db dl:FuncData):Prop where
 D:Df K mg "_law_made" BQ Ii fd dd
 T:Df K mg "_law_taken" Ct Ii ft dt
 B:Df K mg "_law_built" BA Ii fb db
 L:Df K mg "_law_let" Dr ["_law_script","_law_k","_law_goal","_law_names","_law_deep","_law_a","_law_kind"] fl dl
theorem Lk {fd ft fb fl:Addr}{dd dt db dl:FuncData}(T:Tie K mg fd ft fb fl dd dt db dl)(D4:mg "len"=none)(Od:mg "max"=none)(IL:mg "int"=none)(Dc:mg "list"=none)(Bg:mg "tuple"=none)(Gz:mg "range"=none)
  (cM:Cl Pr w K mg base 2 "_law_mix" Ij (Dx K)) (cN:Cl Pr w K mg base 1 "_law_name" ["_law_number"] Hn) (cV:Cl Pr w K mg base 1 "_law_with" ["_law_names","_law_more"] FG) (cI:Cl Pr w K mg base 1 "_law_int" ["_law_number"] NV)
  (cG:Cl Pr w K mg base 5 "_law_ground" ["_law_script","_law_k","_law_deep"] (Di K 2)) (cW:Cl Pr w K mg base 11 "_law_wider" ["_law_wide","_law_kind"] (F9 8)) :
  ∀ n,Cl Pr w K mg base (12+3 * n) "_law_made" Ii (Cz K n)
 | 0=>T.D.cl Kp
 | n+1=>by
  have c:=Lk T D4 Od IL Dc Bg Gz cM cN cV cI cG cW n;have cL:=T.L.cl (af T.L.F () cM cV c);have cT:=T.T.cl (Sy T.T.F IL () cM cN cV cG c cL);have cB:=T.B.cl (Q7 T.B.F Dc Bg Gz () cM cN cV cI c);exact T.D.cl (Sw (r:=12+3 * n+2) T.D.F D4 Od () cM cW (cB.mono ()) cT)
theorem C3 (h:d<=3)(hs:s<=15):C d s<=870:=by
 have h1:=C7 d hs;rcases d with _ | _ | _ | _ | d
 ·exact Nat.le_trans h1 ⟨⟩
 ·exact Nat.le_trans h1 ⟨⟩
 ·exact Nat.le_trans h1 ⟨⟩
 ·exact Nat.le_trans h1 ⟨⟩
 ·omega
theorem B3 (h:d<=3)(hp:p<=3):B d p<=31:=by
 have h1:=Dt d hp;rcases d with _ | _ | _ | _ | d
 ·exact Nat.le_trans h1 ⟨⟩
 ·exact Nat.le_trans h1 ⟨⟩
 ·exact Nat.le_trans h1 ⟨⟩
 ·exact Nat.le_trans h1 ⟨⟩
 ·omega
theorem IV:Ai ["_law_script","_law_kind","_law_tree","_law_found","_law_stuck"] ["_law_script"] (A5 Jh):=nofun
theorem bI {f C CR CS Pt:Addr}{fd:FuncData}(F:Cd K "law" "law" Jh f fd)(AL:mg "isinstance"=none)(Bg:mg "tuple"=none)(D4:mg "len"=none)
  (cM:Cl Pr w K mg base 2 "_law_mix" Ij (Dx K)) (cT:Cl Pr w K mg base 6 "_law_data" ["_law_script","_law_k","_law_deep"] (Js K 3)) (cD:Cl Pr w K mg base 48 "_law_made" Ii (Cz K 12))
  (cR:Cl Pr w K mg base 10 "run" ["tree","most"] (TU C CR CS Pt))
  (cW:Cl Pr w K mg base 1 "_law_whole" ["_law_found"] L0) (cI:Cl Pr w K mg base 212 "_law_is_of" ["_law_value","_law_kind"] (VS 210)) :
  Aq Pr w K mg base B5 213 f fd ["_law_script"] (Rp K 63 [Pt]):=by
 refine F.okS IV (λvs H Q E h=>?_) (λBf A outer s H vs Q E hr h=>?_)
 ·obtain ⟨a,ns,rfl,_⟩:=h;rfl
 ·obtain ⟨a,ns,rfl,hs,hlen,hPt,q⟩:=h;have DA:Ar 1 _:=hr.mono ();have G0:Ar 2 _:=hr.mono ();have hr6:Ar 6 _:=hr.mono ();have sY:Ar 10 _:=hr.mono ();have sZ:Ar 48 _:=hr.mono ();have yb:H Pt=some (.tbl #[]):=hPt Pt (.head _);refine ⟨_,(A3 (Al (i:=1) IV.nd rfl (.inl rfl) (Ay cT hr6 rfl (A1 (Aa 0) (A1 A7 (A1 A7 A2)))))
   (A3 (Al (i:=2) IV.nd rfl (.inl rfl) (Ay cD sZ rfl (A1 (Aa 0) (A1 A7 (A1 (Aa 1) (A1 (Bi A2) (A1 (Am AH A7 (Am AB (Ay cM G0 rfl (A1 (Aa 0) (A1 A7 A2))) A7)) A2)))))))
   (A3 (Al (i:=3) IV.nd rfl (.inl rfl) DO)
   (A3 (Al (i:=4) IV.nd rfl (.inl rfl) G8)
   (A3 (aV (i:=3) IV.nd rfl (.inl rfl) (Ay cR sY rfl (A1 (Aa 2) (A1 (Am AB (Ay cM G0 rfl (A1 (Aa 0) (A1 A7 A2))) A7) A2))))
   (A3 (AS (Kl (Aa 4)) (Ac (Ak G8)) Ax)
   (A3 (AS (Ao J0 (Aa 3) DO (Ag _)) (Ac (Ak G8)) Ax)
   (Ac (Ak (F1 (Bs DM (by rfl) AL PyProof.Rows.boot_isinstance (A1 (Aa 3) (A1 (Hd (v:=.ty "tuple") rfl Bg PyProof.Rows.boot_tuple rfl) A2))) (F1 (Em AA (Bs Bl (by rfl) D4 PySem.boot_len (A1 (Aa 3) A2)) A7 (Ag _)) (F1 (Ay cW DA rfl (A1 (eI 3) A2)) (Ko (Ay cI hr rfl (A1 (eI 3) (A1 (Aa 1) A2)))))))))))))))),?_⟩
  apply ⟨a,ns,0,3,rfl,(),hs,λg rg H1 s1 hg gg dg=>?_⟩;left;intros l0 H2 s2 e2;left;have BG:=s1.trans s2;refine ⟨a,ns,_,rfl,BG.seq hs,λm0 qt=>?_⟩;left;obtain ⟨d,hd,Oe⟩:∃ d:Nat,1+m0 % 3=(d:Int)/\d<=3:=by
   have h1:=Int.emod_nonneg m0 (b:=3) ⟨⟩;have h2:=Int.emod_lt_of_pos m0 (b:=3) ⟨⟩;exact ⟨(1+m0 % 3).toNat,(),()⟩
  rw [hd];have skg:sk g<=15:=by
   have h2:=HE g;have h4:2 ^ (dp g+1)<=2 ^ 4:=Nat.pow_le_pow_right ⟨⟩ ();have h6:2 ^ 4=16:=rfl;omega
  refine ⟨a,ns,1,g,rg,l0,[],d,rfl,⟨BG.seq hs,B7.mono (Ae.of_same s2) hg,Gy gg,⟨_,e2,.nil⟩,λx hx=>(by cases hx)⟩,?_,(),?_,by simp,λe r H3 s3 he ho=>?_⟩
  ·rcases d with _ | d
   ·simp only [mu];omega
   ·simp only [mu];omega
  ·unfold Pm;omega
  have HW:=BG.trans s3;have hb:=B3 Oe dg;have hcz:=C3 Oe skg;have o1:=ho.np;have o2:=ho.sz;have yc:=Vz ho.op;have T:Tr 29 e:=⟨ho.cl,yc,_,Zu ho.op⟩;have jn:=Zv (e:=e) (ρ:=dz) (m:=0) (λ_=>Nat.le_refl _);have ty0:HK g0 e g:=ho.ty.mono λy t z=>by obtain ⟨k,hk,_⟩:=z;cases hk
  apply MY ?_;apply ⟨a,ns,_,rfl,HW.seq hs,λm2 m7=>?_⟩;obtain ⟨most,jF,hm6⟩:∃ most:Nat,m2 % 7=(most:Int)/\most<=6:=by
   have h1:=Int.emod_nonneg m2 (b:=7) ⟨⟩;have h2:=Int.emod_lt_of_pos m2 (b:=7) ⟨⟩;exact ⟨(m2 % 7).toNat,(),()⟩
  left;rw [jF];obtain ⟨n,m,O,o,hE,hL,hA⟩:=ZO (e:=e) (most:=most) ho.cl;obtain ⟨tj,tm⟩:=HK.run hL ty0;have TL:DZ Pt H3:=.inl (HW _ _ yb);have mul:(most+1) * (3 * 870)<=7 * (3 * 870):=Nat.mul_le_mul_right _ ();refine ⟨e,r,most,n,870,900000,O,rfl,he,hE,good0 () yc (),(),(),TL,⟨λhO H4 k4 t4=>?_,λhO H4 k4 t4=>?_,λv c hO=>?_⟩⟩
  ·apply Ce ?_;apply ⟨rfl,?_⟩;apply C5 ?_;left;exact q _
  ·subst hO;cases hA;exact tj rfl
  ·subst hO;cases hA with
   | @val v wv c hR =>
   obtain ⟨tyw,vw⟩:=tm wv c rfl;obtain ⟨y9,WI⟩:=hL.dep (k:=29) (d:=31) T () (Nat.zero_le _) wv c rfl;refine ⟨wv,hR,(),λp t H4 k4 t4 hp ht=>?_⟩;have ts4:Ae H3 H4:=k4.abu (HW _ _ yb);apply Ce ?_;apply ⟨rfl,?_⟩;apply Ce ?_;apply ⟨.ref p,_,_,true,rfl,Dy.tup hp,rfl,?_⟩;apply C5 ?_;apply ⟨p,_,rfl,.inr (Ba.of hp),?_⟩;apply AR (by simp) ?_;apply A4 hp (v:=.int c) rfl ?_;apply ⟨_,rfl,?_⟩;apply C5 ?_;apply A4 hp (v:=t) rfl ?_;left;exact ⟨wv,g,t,rg,rfl,ht,B7.mono ts4 (B7.mono (Ae.of_same (s2.trans s3)) hg),tyw,vw,gg,(),λH5 s5=>q _⟩
end
end K
namespace L2
open PySem PySem.Spec PyProof.Rows KS KX
noncomputable def tp:Value->Bool
 | .type s=>decide (s="tuple")
 | _=>false
noncomputable def tq (p:List Value->Bool):Data->Bool
 | .seq its _=>p its.toList
 | _=>false
noncomputable def tupP (K:W.Frag)(p:List Value->Bool):Value->Bool
 | .ref a=>(K.lookup a).any λo=>tp o.cls && tq p o.data
 | _=>false
noncomputable def all2 {α β:Type}(f:α->β->Bool):List α->List β->Bool
 | [],[]=>true
 | a::r,b::s=>f a b && all2 f r s
 | _,_=>false
noncomputable def Na (ns:List Nat)(xs:List Value):Bool:=all2 (λ(n:Nat) v=>Value.isInt n v) ns xs
noncomputable def TX (K:W.Frag)(row:Nat × List Nat)(v:Value):Bool:=tupP K (λl=>all2 (λf x=>f x) [Value.isInt row.1,tupP K (Na row.2)] l) v
noncomputable def Y4 (r:Nat × List Nat):Bool:=decide (r.2.length<=10)
noncomputable def BM (K:W.Frag)(rows:List (Str × Value))(w:Str)(prs:List (Nat × List Nat)):Bool:=(rowAt rows w).any (tupP K λxs=>all2 (λr v=>Y4 r && TX K r v) prs xs && decide (prs.length<=10))
noncomputable def TY (K:W.Frag)(rows:List (Str × Value)):Bool :=
 BM K rows "name" [] && BM K rows "number" [] && BM K rows "truth" [] && BM K rows "empty" [] && BM K rows "fun" [(2,[1])] && BM K rows "rec" [(3,[1,2])] && BM K rows "call" [(1,[]),(2,[])] && BM K rows "let" [(2,[]),(3,[1])] && BM K rows "when" [(1,[]),(2,[]),(3,[])]
 && BM K rows "pair" [(1,[]),(2,[])] && BM K rows "open" [(1,[]),(4,[2,3])] && BM K rows "link" [(1,[]),(2,[])] && BM K rows "split" [(1,[]),(2,[]),(5,[3,4])] && BM K rows "op" [(2,[]),(3,[])]
theorem Ll (h:(a && b)=true):a=true/\b=true:=by
 cases a
 ·cases h
 ·exact ⟨rfl,h⟩
theorem JE (h:o.any p=true):∃ a,o=some a/\p a=true:=by
 cases o
 ·cases h
 ·exact ⟨_,rfl,h⟩
theorem Fi {K:W.Frag}{p:List Value->Bool}{v:Value}(h:tupP K p v=true):∃ a,v=.ref a/\∃ its n o,K.lookup a=some o/\o.cls=.type "tuple"/\o.data=.seq its n/\p its.toList=true:=by
 cases v with
 | ref a =>
  obtain ⟨⟨c,x,d,y⟩,h1,h2⟩:=JE h;obtain ⟨h2,h3⟩:=Ll h2;cases c with
  | type s =>
   cases d with
   | seq its n=>exact ⟨a,rfl,its,n,_,h1,congrArg _ (of_decide_eq_true h2),rfl,h3⟩
   | _=>cases h3
  | _=>cases h2
 | _=>cases h
theorem JF {K:W.Frag}{a:Addr}{its:Array Value}{n:Nat}{o:Obj}(h1:K.lookup a=some o)(h2:o.cls=.type "tuple")(h3:o.data=.seq its n){vs:List V}(r:Vals vs its.toList)(hl:vs.length<=1000):HA K a vs :=
 ⟨o,its,n,h1,h2,h3,Dm (by have:=r.length;simp at this;omega),r⟩
theorem ints_of:∀ {xs:List Value},Na ns xs=true->Vals (ns.map λn:Nat=>V.int n) xs:=by
 induction ns with
 | nil =>
  intro xs h;cases xs
  ·exact .nil
  ·cases h
 | cons n ns ih =>
  intro xs h;cases xs with
  | nil=>cases h
  | cons x xs =>
   obtain ⟨h1,h2⟩:=Ll h;obtain ⟨t,rfl⟩:=Value.isInt_shape h1;exact .cons ⟨t,rfl⟩ (ih h2)
theorem bJ {K:W.Frag}{v:Value}{row:Nat × List Nat}(hr:row.2.length<=10)(h:TX K row v=true):∃ b,v=.ref b/\VF K row (.ref b):=by
 obtain ⟨b,rfl,its,n,o,h1,h2,h3,h4⟩:=Fi h;generalize e:its.toList=l at h4;cases l with
 | nil=>cases h4
 | cons x l =>
  obtain ⟨h5,h6⟩:=Ll h4;cases l with
  | nil=>cases h6
  | cons y l =>
   obtain ⟨h7,h8⟩:=Ll h6;cases l with
   | cons _ _=>cases h8
   | nil =>
    obtain ⟨t,rfl⟩:=Value.isInt_shape h5;obtain ⟨c,rfl,its',n',o',k1,k2,k3,k4⟩:=Fi h7;exact ⟨b,rfl,b,c,rfl,JF h1 h2 h3 (e▸.cons ⟨t,rfl⟩ (.cons rfl .nil)) (by simp),JF k1 k2 k3 (ints_of k4) (by simp;omega)⟩
theorem WK {K:W.Frag}{rs:List (Nat × List Nat)}:∀ {vs:List Value},all2 (λr v=>Y4 r && TX K r v) rs vs=true->∃ us,Vals us vs/\Paired (VF K) rs us:=by
 induction rs with
 | nil =>
  intro vs h;cases vs
  ·exact ⟨[],.nil,.nil⟩
  ·cases h
 | cons r rs ih =>
  intro vs h;cases vs with
  | nil=>cases h
  | cons v vs =>
   obtain ⟨h1,h2⟩:=Ll h;obtain ⟨h3,h1⟩:=Ll h1;obtain ⟨b,rfl,kb⟩:=bJ (of_decide_eq_true h3) h1;obtain ⟨us,h1,h2⟩:=ih h2;exact ⟨.ref b::us,.cons rfl h1,.cons kb h2⟩
theorem Bv {K:W.Frag}{rows:List (Str × Value)}{w:Str}{prs:List (Nat × List Nat)}(h:BM K rows w prs=true):∃ a us,rowAt rows w=some (.ref a)/\HA K a us/\Paired (VF K) prs us:=by
 obtain ⟨v,e,h⟩:=JE h;obtain ⟨a,rfl,its,n,o,h1,h2,h3,h4⟩:=Fi h;obtain ⟨h4,h5⟩:=Ll h4;obtain ⟨us,g1,g2⟩:=WK h4;have:=Paired.len g2;have:=of_decide_eq_true h5;exact ⟨a,us,e,JF h1 h2 h3 g1 (),g2⟩
theorem U0 {K:W.Frag}{rows:List (Str × Value)}(h:TY K rows=true):qg K rows:=by
 simp only [TY,Bool.and_eq_true] at h;obtain ⟨⟨⟨⟨⟨⟨⟨⟨⟨⟨⟨⟨⟨h1,h2⟩,h3⟩,h4⟩,h5⟩,h6⟩,h7⟩,h8⟩,h9⟩,tD⟩,tE⟩,tF⟩,tG⟩,tH⟩:=h;intro e;cases e
 ·exact Bv h1
 ·exact Bv h2
 ·exact Bv h3
 ·exact Bv h4
 ·exact Bv h5
 ·exact Bv h6
 ·exact Bv h7
 ·exact Bv h8
 ·exact Bv h9
 ·exact Bv tD
 ·exact Bv tE
 ·exact Bv tF
 ·exact Bv tG
 ·exact Bv tH
noncomputable def Fj (K:W.Frag)(rows:List (Str × Value))(w:Str)(ns:List Nat):Bool:=(rowAt rows w).any (tupP K λxs=>Na ns xs && decide (ns.length<=10))
noncomputable def bK (K:W.Frag)(rows:List (Str × Value)):Bool :=
 (rowAt rows "name").isNone && (rowAt rows "number").isNone && (rowAt rows "truth").isNone && (rowAt rows "empty").isNone && (rowAt rows "fun").isNone && (rowAt rows "rec").isNone && Fj K rows "call" [1,2] && Fj K rows "let" [2] && Fj K rows "when" [1] && Fj K rows "pair" [1,2] && Fj K rows "open" [1] && Fj K rows "link" [1,2] && Fj K rows "split" [1] && Fj K rows "op" [2,3]
theorem E6 {K:W.Frag}{rows:List (Str × Value)}{w:Str}{ns:List Nat}(h:Fj K rows w ns=true):∃ a,rowAt rows w=some (.ref a)/\HA K a (ns.map λk:Nat=>V.int k):=by
 obtain ⟨v,e,h⟩:=JE h;obtain ⟨a,rfl,its,n,o,h1,h2,h3,h4⟩:=Fi h;obtain ⟨h4,h5⟩:=Ll h4;have:=of_decide_eq_true h5;exact ⟨a,e,JF h1 h2 h3 (ints_of h4) (by rw [List.length_map];omega)⟩
theorem jG {K:W.Frag}{rows:List (Str × Value)}(h:bK K rows=true):∀ e:Ex,(e.pls=[]/\rowAt rows e.wd=none)\/∃ a,rowAt rows e.wd=some (.ref a)/\HA K a (e.pls.map λk:Nat=>V.int k):=by
 simp only [bK,Bool.and_eq_true,Option.isNone_iff_eq_none] at h;obtain ⟨⟨⟨⟨⟨⟨⟨⟨⟨⟨⟨⟨⟨h1,h2⟩,h3⟩,h4⟩,h5⟩,h6⟩,h7⟩,h8⟩,h9⟩,tD⟩,tE⟩,tF⟩,tG⟩,tH⟩:=h;intro e;cases e with
 | nm _=>exact .inl ⟨rfl,h1⟩
 | num _=>exact .inl ⟨rfl,h2⟩
 | tru _=>exact .inl ⟨rfl,h3⟩
 | emp=>exact .inl ⟨rfl,h4⟩
 | fn _ _=>exact .inl ⟨rfl,h5⟩
 | rc _ _ _=>exact .inl ⟨rfl,h6⟩
 | cal _ _=>exact .inr (E6 h7)
 | lt _ _ _=>exact .inr (E6 h8)
 | wh _ _ _=>exact .inr (E6 h9)
 | pr _ _=>exact .inr (E6 tD)
 | opn _ _ _ _=>exact .inr (E6 tE)
 | lk _ _=>exact .inr (E6 tF)
 | spl _ _ _ _ _=>exact .inr (E6 tG)
 | op _ _ _=>exact .inr (E6 tH)
end L2
namespace L2
open PySem PySem.Spec PyProof.Rows
open PySem.W (CodeHd tabObj TabsAt noTabs)
theorem dY {l:W.OpenLaw}{n k:Nat}{q:Program}{loose:List Str}{XP:(Str->Option Value)->Heap->Prop}{YP:World->Heap->Prop}{d:DefRec}{K:Params->W.Frag}{x:Str}{ts:List Addr}
  (hn:l.most=some n) (kU:n<=sizeLine) (oz:d.params.defaults=[]) (hr:Ar k callerA)
  (hY:∀ (w:World) (h:Heap),YP w h->(K w.params).In h/\∀ P∈ts,h.get? P=some (tabObj #[]))
  (F:∀ (w:World) (mg mb:Str->Option Value) (WL:ExcName->Option Value) (fa:Addr) (h:Heap),(K w.params).In h->(∀ P∈ts,h.get? P=some (tabObj #[]))->Top q (W.looseW q loose) WL mg mb h->mg d.name=some (.ref fa) ->
   ∃ (fd:FuncData) (tabs:List (Addr × Addr)),noTabs (K w.params)=true/\TabsAt tabs h/\(∀ (s:Shared) (u:Value),BindsTo s fd ⟨[u],[]⟩ [(x,u)]) /\
    ∀ base:Heap,(K w.params).In base->base.Ns mainGlobals mg->(∀ q∈tabs,FX base mg q.1 q.2)->Aq l.prog w (K w.params) mg base B5 k fa fd [x] (Rp (K w.params) n (tabs.map (·.2)))) :
  W.WalkO q loose XP YP l.row.toRowW d [] (λf vs=>PySem.call f vs):=by
 refine vm.aa9 hn oz λw s₀ s₁ mg mb fa o pm cd doc a vs ns G Y ho hd HY fj YX hints hlen hg=>?_;obtain ⟨KX,bL⟩:=hY w _ Y;obtain ⟨fd,tabs,hK,hT,hb,hF⟩:=F w mg mb _ fa _ KX bL G.T fj;refine Px KX G.T.g G.T.b G.T.builtins G.T.nolimit hg G.T.bmain hT hK YX hints (Nat.le_trans hlen kU) hr hF hb (λH oN hS=>⟨a,ns,rfl,hS,hlen,λp hp=>?_,λ_=>rfl⟩) λH e s' z=>z;obtain ⟨q,hq,e'⟩:=List.mem_map.mp hp;rw [<- e'];exact oN q hq
noncomputable def tabOf (K:W.Frag)(c:Addr):Option Addr:=match K.lookup c with
 | some ⟨_,_,.fields vs,_⟩=>match (vs[11]?:Option Value) with
  | some (.ref P)=>some P
  | _=>none
 | _=>none
noncomputable def tabIn (K:W.Frag)(ts:List Addr)(c:Addr):Bool:=match tabOf K c with
 | some P=>W.codeHdIn K c P && ts.contains P
 | none=>false
theorem U1 {K:W.Frag}{ts:List Addr}{c:Addr}{h:Heap}(X:K.In h)(bL:∀ P∈ts,h.get? P=some (tabObj #[]))(e:tabIn K ts c=true):∃ P,CodeHd h c P/\h.get? P=some (tabObj #[]):=by
 unfold tabIn at e;split at e
 ·rename_i P _;rw [Bool.and_eq_true] at e;exact ⟨P,W.codeHd_of_K X e.1,bL P (List.contains_iff_mem.mp e.2)⟩
 ·cases e
end L2
end
namespace L2
open PySem PySem.Spec PyProof.Rows KS
abbrev fe (n:Str)(st:Stmt)(ps:List Str)(f:Addr)(d:FuncData):Str × Stmt × List Str × Addr × FuncData:=(n,st,ps,f,d)
noncomputable def FL (K:W.Frag):List (Str × Stmt × List Str × Addr × FuncData)->Prop
 | []=>True
 | (n,st,ps,f,d)::r=>(W.nsIn K mainGlobals n=some (some (.ref f))/\Cd K n n st f d/\∀ (kV doc pm:Value) (an:Option Addr) (Bf ct:Value) (us:List Value),us.length=ps.length->bindArgs (W.fnOf n n (AW st) (AF st) (A5 st) .none kV doc pm an Bf ct) ⟨us,[]⟩=pure (ps.zip us))/\FL K r
noncomputable def FD (K:W.Frag)(mg:Str->Option Value):List (Str × Stmt × List Str × Addr × FuncData)->Prop
 | []=>True
 | (n,st,ps,f,d)::r=>Df K mg n st ps f d/\FD K mg r
theorem FL.get {K:W.Frag}{mg:Str->Option Value}{h:Heap}(X:K.In h)(G:h.Ns mainGlobals mg):∀ {l:List (Str × Stmt × List Str × Addr × FuncData)},FL K l->FD K mg l
 | [],_=>trivial
 | (_,_,_,_,_)::_,q=>⟨⟨q.1.2.1,q.1.2.1.binds q.1.2.2,W.mg_of X G q.1.1⟩,FL.get X G q.2⟩
noncomputable def dZ (K:W.Frag):List Str->Prop
 | []=>True
 | n::r=>W.nsIn K mainGlobals n=some none/\dZ K r
noncomputable def yd (mg:Str->Option Value):List Str->Prop
 | []=>True
 | n::r=>mg n=none/\yd mg r
theorem dZ.get {K:W.Frag}{mg:Str->Option Value}{h:Heap}(X:K.In h)(G:h.Ns mainGlobals mg):∀ {l:List Str},dZ K l->yd mg l
 | [],_=>trivial
 | _::_,q=>⟨W.mg_none_of X G q.1,dZ.get X G q.2⟩
theorem Ac3 {R:List Value->Prop}{n:Nat}(h:(n=1/\∀ a,R [a])\/(n=2/\∀ a b,R [a,b])\/(n=3/\∀ a b c,R [a,b,c])\/(n=5/\∀ a b c d e,R [a,b,c,d,e])\/(n=7/\∀ a b c d e f g,R [a,b,c,d,e,f,g]))(us:List Value)(hu:us.length=n):R us:=by
 rcases h with ⟨rfl,h⟩ | ⟨rfl,h⟩ | ⟨rfl,h⟩ | ⟨rfl,h⟩ | ⟨rfl,h⟩
 ·rcases us with _ | ⟨a,_ | ⟨b,us⟩⟩ <;> simp at hu;exact h a
 ·rcases us with _ | ⟨a,_ | ⟨b,_ | ⟨c,us⟩⟩⟩ <;> simp at hu;exact h a b
 ·rcases us with _ | ⟨a,_ | ⟨b,_ | ⟨c,_ | ⟨d,us⟩⟩⟩⟩ <;> simp at hu;exact h a b c
 ·rcases us with _ | ⟨a,_ | ⟨b,_ | ⟨c,_ | ⟨d,_ | ⟨e,_ | ⟨f,us⟩⟩⟩⟩⟩⟩ <;> simp at hu;exact h a b c d e
 ·rcases us with _ | ⟨a,_ | ⟨b,_ | ⟨c,_ | ⟨d,_ | ⟨e,_ | ⟨f,_ | ⟨g,_ | ⟨i,us⟩⟩⟩⟩⟩⟩⟩⟩ <;> simp at hu;exact h a b c d e f g
end L2
namespace K
open PySem L2 KM KS KX
theorem all_mk {l:W.OpenLaw}{q:Program}{loose:List Str}{w:World}{K:W.Frag}{h:Heap}{mg mb:Str->Option Value}{WL:ExcName->Option Value}{fa:Addr}{ts:List Addr}(X:K.In h)(bL:∀ P∈ts,h.get? P=some (W.tabObj #[]))(T0:PyProof.Rows.Top q loose WL mg mb h)(hfa:mg "law"=some (.ref fa))
  {C:Addr}
  {f0:Addr} {o1 a2:Option Addr} {s3:Array (Option Value)} {o4 k5 d6 p7 c8:Value}
  {c9:Value}
  {R:Addr}
  {ef:Addr} {o11 a12:Option Addr} {Gx:Array (Option Value)} {o14 k15 d16 p17 c18:Value}
  {ye:Value}
  {jH:Addr} {o21 a22:Option Addr} {jl:Array (Option Value)} {o24 k25 d26 p27 c28:Value}
  {yf:Value}
  {jI:Addr} {o31 a32:Option Addr} {s33:Array (Option Value)} {o34 k35 d36 p37 c38:Value}
  {yg:Value}
  {f40 tI tJ tK tL tM tN f47 f48 f49 f50 f51 f52 f53 f54 f55 f56 f57 f58 f59 f60 f61 f62 f63 f64 f65 f66 f67 f68 f69 f70 f71 f72 f73 f74 f75 f76 f77:Addr} {Nb Nc Qj Nd Nf Lm U2 Ng JG WM HR Nh EU JH JI Gb Gd HS Ni Ge JJ Ln jJ Lo Nj JK JL Nk Lp Ih Lq Lr JM JN Nl JO Ls JP:FuncData}
  {nq:Addr} {o79 a80:Option Addr} {s81:Array (Option Value)} {o82 k83 d84 p85 c86:Value}
  {eh:Addr}
  {tO:Addr} {o89 yh:Option Addr} {s91:Array (Option Value)} {o92 yi yj yk yl:Value}
  {tP:Value}
  {VT dS XY:Addr} {Lu Qk Lv:Array DictEntry} {jK jL jM:Nat}
  (aC:W.nsIn K mainGlobals "Note"=some (some (.ref C)))
  (nu:W.findIn K (.ref C) "__init__"=some (some (.ref f0)))
  (nz:W.isFn K (.ref f0)=true)
  (bO:K.lookup f0=some ⟨o4,o1,.func (W.fnOf "__init__" "Note.__init__" (AW Bc) (AF Bc) (A5 Bc) .none k5 d6 p7 a2 c9 c8),s3⟩)
  (bQ:W.codeIn K c9 "Note.__init__"=true)
  (WN:W.keepIn K (.ref f0)=true)
  (tQ:W.plainGet K C Str.empty=true)
  (tR:W.hasDictIn K C=true)
  (tS:W.plainOver K C=true)
  (tT:W.findIn K (.ref C) "__setattr__"=some (some (.builtin "object.__setattr__")))
  (tU:W.makesIn K C=true)
  (tV:W.keepIn K (.ref C)=true)
  (tW:W.findIn K (.ref C) "given"=some none)
  (tX:W.findIn K (.ref C) "told"=some none)
  (aR:W.nsIn K mainGlobals "Runner"=some (some (.ref R)))
  (WO:W.findIn K (.ref R) "__init__"=some (some (.ref ef)))
  (WQ:W.isFn K (.ref ef)=true)
  (bT:K.lookup ef=some ⟨o14,o11,.func (W.fnOf "__init__" "Runner.__init__" (AW AX) (AF AX) (A5 AX) .none k15 d16 p17 a12 ye c18),Gx⟩)
  (bU:W.codeIn K ye "Runner.__init__"=true)
  (WR:W.keepIn K (.ref ef)=true)
  (bV:W.findIn K (.ref R) "go_on"=some (some (.ref jH)))
  (bW:W.isFn K (.ref jH)=true)
  (bX:K.lookup jH=some ⟨o24,o21,.func (W.fnOf "go_on" "Runner.go_on" (AW AU) (AF AU) (A5 AU) .none k25 d26 p27 a22 yf c28),jl⟩)
  (bY:W.codeIn K yf "Runner.go_on"=true)
  (WS:W.keepIn K (.ref jH)=true)
  (bZ:W.findIn K (.ref R) "finish"=some (some (.ref jI)))
  (c4:W.isFn K (.ref jI)=true)
  (c5:K.lookup jI=some ⟨o34,o31,.func (W.fnOf "finish" "Runner.finish" (AW AO) (AF AO) (A5 AO) .none k35 d36 p37 a32 yg c38),s33⟩)
  (c6:W.codeIn K yg "Runner.finish"=true)
  (WT:W.keepIn K (.ref jI)=true)
  (tY:W.plainGet K R Str.empty=true)
  (tZ:W.hasDictIn K R=true)
  (u3:W.plainOver K R=true)
  (u4:W.findIn K (.ref R) "__setattr__"=some (some (.builtin "object.__setattr__")))
  (u5:W.makesIn K R=true)
  (u6:W.keepIn K (.ref R)=true)
  (u7:W.findIn K (.ref R) "waiting"=some none)
  (u9:W.findIn K (.ref R) "pile"=some none)
  (ua:W.findIn K (.ref R) "calls"=some none)
  (HF:FL K [fe "reckoned" EH ["word","one","other"] f40 Nb,fe "own_call" EI ["tree","values"] tI Nc,fe "own_let" Fy ["tree","values"] tJ Qj,fe "own_when" EJ ["tree","values"] tK Nd,fe "own_open" EK ["tree","values"] tL Nf,fe "own_split" DT ["tree","values"] tM Lm,fe "own_op" Hj ["tree","values"] tN U2,fe "own_step" EL ["tree","values"] f47 Ng,fe "all_within" Zj ["top","parts_of"] f48 JG,fe "built" Hk ["top","parts_of","make"] f49 WM,fe "first_places" CL ["tree"] f50 HR,fe "names_at" CM ["tree","places"] f51 Nh,fe "parts_with_names" B6 ["tree"] f52 EU,fe "with_parts" Dp ["tree","parts"] f53 JH,fe "with_names" Dq ["given","names"] f54 JI,fe "missing_names" Co ["tree"] f55 Gb,fe "without_names" Bo ["told","names"] f56 Gd,fe "told_or_none" CN ["value"] f57 HS,fe "names_in" EM ["value"] f58 Ni,fe "told_of_parts" Cp ["value","names"] f59 Ge,fe "told_value" BW ["value"] f60 JJ,fe "given_too" DU ["given","names"] f61 Ln,fe "run" RP ["tree","most"] f62 jJ,fe "_law_cell" RQ Ij f63 Lo,fe "_law_mix" Zk Ij f64 Nj,fe "_law_pairs" Jg ["_law_wide","_law_kind"] f65 JK,fe "_law_wider" Hl ["_law_wide","_law_kind"] f66 JL,fe "_law_int" EN ["_law_number"] f67 Nk,fe "_law_name" DV ["_law_number"] f68 Lp,fe "_law_ground" Ca ["_law_script","_law_k","_law_deep"] f69 Ih,fe "_law_with" BP ["_law_names","_law_more"] f70 Lq,fe "_law_made" BQ Ii f71 Lr,fe "_law_built" BA Ii f72 JM,fe "_law_taken" Ct Ii f73 JN,fe "_law_let" Dr ["_law_script","_law_k","_law_goal","_law_names","_law_deep","_law_a","_law_kind"] f74 Nl,fe "_law_whole" Mv ["_law_found"] f75 JO,fe "_law_data" CZ ["_law_script","_law_k","_law_deep"] f76 Ls,fe "_law_is_of" Cu ["_law_value","_law_kind"] f77 JP])
  (HN:dZ K ["range","dict","list","reversed","tuple","len","isinstance","int","bool","all","any","zip","max"])
  (c7:W.nsIn K mainGlobals "put_in"=some (some (.ref nq)))
  (WU:K.lookup nq=some ⟨o82,o79,.func (W.fnOf "put_in" "put_in" (AW B0) (AF B0) (A5 B0) .none k83 d84 p85 a80 (.ref eh) c86),s81⟩)
  (WV:W.codeIn K (.ref eh) "put_in"=true)
  (cb:W.keepIn K (.ref nq)=true)
  (WW:W.nsIn K mainGlobals "law"=some (some (.ref tO)))
  (cj:K.lookup tO=some ⟨o92,o89,.func (W.fnOf "law" "law" (AW Jh) (AF Jh) (A5 Jh) .none yi yj yk yh tP yl),s91⟩)
  (ck:W.codeIn K tP "law"=true)
  (cn:W.keepIn K (.ref tO)=true)
  (ub:(R==C)=false)
  (uc:W.nsIn K mainGlobals "PLACES"=some (some (.ref VT)))
  (ud:K.lookup VT=some ⟨.type "dict",none,.dict Lu jK,#[]⟩)
  (ue:Lu.toList=Lu.toList.map (Jk w))
  (ug:(Lu.toList.all λe=>Hw e.key)=true)
  (uh:W.nsIn K mainGlobals "RULES"=some (some (.ref dS)))
  (ui:K.lookup dS=some ⟨.type "dict",none,.dict Qk jL,#[]⟩)
  (uj:Qk.toList=Qk.toList.map (Jk w))
  (uk:(Qk.toList.all λe=>Hw e.key)=true)
  (um:W.nsIn K mainGlobals "FIRST_PLACES"=some (some (.ref XY)))
  (uo:K.lookup XY=some ⟨.type "dict",none,.dict Lv jM,#[]⟩)
  (uq:Lv.toList=Lv.toList.map (Jk w))
  (ur:(Lv.toList.all λe=>Hw e.key)=true)
  (uu:(S5 Lu.toList).map (·.1)=(["name","number","truth","empty","fun","rec","call","let","when","pair","open","link","split","op"]:List Str))
  (nA:TY K (S5 Lu.toList)=true)
  (uw:(S5 Lv.toList).map (·.1)=(["call","let","when","pair","open","link","split","op"]:List Str))
  (ux:bK K (S5 Lv.toList)=true)
  (uy:(XY==sysModules)=false)
  (uz:S5 Qk.toList=([("call",.ref tI),("let",.ref tJ),("when",.ref tK),("open",.ref tL),("split",.ref tM),("op",.ref tN)]:List (Str × Value)))
  (hK:W.noTabs K=true)
  (FO:tabIn K ts eh=true) :
  ∃ (fd:FuncData) (tabs:List (Addr × Addr)),W.noTabs K=true/\W.TabsAt tabs h/\(∀ (s:Shared) (u:Value),BindsTo s fd ⟨[u],[]⟩ [("_law_script",u)]) /\
    ∀ base:Heap,K.In base->base.Ns mainGlobals mg->(∀ q∈tabs,FX base mg q.1 q.2)->Aq l.prog w K mg base B5 213 fa fd ["_law_script"] (Rp K 63 (tabs.map (·.2))):=by
 have G:=T0.g;have e0:=hfa.symm.trans (W.mg_of X G WW);cases e0;have mgC:=W.mg_of X G aC;have jN:=Fs (st:=Bc) bO bQ WN;have jO:=jN.binds (ps:=["self","given"]) λ_ _ _ _ _ _=>RM Cm;have Ae0:Meth K C "__init__" f0:=⟨nu,nz,WN⟩;have mgR:=W.mg_of X G aR;have jP:=Fs (st:=AX) bT bU WR;have uA:=jP.binds (ps:=["self","tree"]) λ_ _ _ _ _ _=>RM Cm;have Ae2:Meth K R "__init__" ef:=⟨WO,WQ,WR⟩;have jQ:=Fs (st:=AU) bX bY WS;have uB:=jQ.binds (ps:=["self"]) λ_ _ _ _ _ _=>Zf (λ_=>rfl);have uC:Meth K R "go_on" jH:=⟨bV,bW,WS⟩;have jR:=Fs (st:=AO) c5 c6 WT;have uD:=jR.binds (ps:=["self","tree","given"]) λ_ _ _ _ _ _=>px (λ_ _ _=>rfl);have uE:Meth K R "finish" jI:=⟨bZ,c4,WT⟩;obtain ⟨jS,cp,cq,cu,cw,cx,cy,jT,jU,jV,jW,jX,jY,jZ,j',k8,k9,kh,ki,kj,km,ko,ky,WX,kz,Ql,kA,kB,kD,uF,kE,uG,uH,uI,uJ,kF,uK,uL,_⟩:=FL.get X G HF;obtain ⟨kG,WY,WZ,X1,U3,U4,cz,kH,kI,uM,uN,uO,uP,_⟩:=dZ.get X G HN;have kJ:=Fs (st:=B0) WU WV cb;have uQ:=W.mg_of X G c7;have uR:=kJ.binds (ps:=["tree","told"]) λ_ _ _ _ _ _=>RM Cm;have uS:Df K mg "put_in" B0 ["tree","told"] nq _:=⟨kJ,uR,uQ⟩;have uT:=Fs (st:=Jh) cj ck cn;have Ae3:=W.mg_of X G WW;obtain ⟨CQ,Qm,Qn⟩:=U1 X bL FO;refine ⟨_,[(eh,CQ)],hK,?_,λs v=>(.of_eq rfl:BindsTo s (W.fnOf "law" "law" (AW Jh) (AF Jh) (A5 Jh) .none yi yj yk yh tP yl) ⟨[v],[]⟩ [("_law_script",v)]),λbase KB GB hN=>?_⟩
 ·intro q hq;simp only [List.mem_cons,List.not_mem_nil,or_false] at hq;subst hq;exact ⟨Qm,Qn⟩
 ·skip
  have uU:FX base mg eh CQ:=hN (eh,CQ) (.head _);have cc:R≠C:=by simpa using ub
  have TN:Lb K mg C:=⟨⟨tQ,tR,tS,tT⟩,tW,tX,mgC⟩;have TR:Tq K mg R:=⟨⟨tY,tZ,u3,u4⟩,u7,u9,ua,mgR⟩;have dB:=W.mg_of X G uc;have rR:=W.mg_of X G uh;have rN:=W.mg_of X G um;have kK:D1 w K VT (S5 Lu.toList):=⟨⟨Lu,jK,ud,ue,ug,rfl⟩,by rw [uu];decide +kernel⟩;have uV:D1 w K XY (S5 Lv.toList):=⟨⟨Lv,jM,uo,uq,ur,rfl⟩,by rw [uw];decide +kernel⟩;have uW:D1 w K dS _:=⟨⟨Qk,jL,ui,uj,uk,uz⟩,by simp only [List.map_cons,List.map_nil];decide +kernel⟩;have GN:Aq l.prog w K mg base B5 1 f0 _ ["self","given"] (Ws C):=j8 jN TN;have MN:Mk K C f0:=⟨tU,nu,nz,tV⟩;have MRn:Mk K R ef:=⟨u5,WO,WQ,u6⟩;have dU:Cl l.prog w K mg base 1 "first_places" ["tree"] (Wr K):=jW.cl (iZ jW.F uV uy rN (jG ux));have rT:Cl l.prog w K mg base 1 "given_too" ["given","names"] (Y0 C):=ko.cl (Aq.exi λN=>j7 ko.F WY);have XS:Cl l.prog w K mg base 3 "own_step" ["tree","values"] (Ts C C):=jT.cl (Aq.exi λN=>bh jT.F uW rR (BR ⟨tI,_,rfl,(b8 cp.F).mono ⟨⟩,cp.F.kp,cp.b⟩ (BR ⟨tJ,_,rfl,(aX cq.F).mono ⟨⟩,cq.F.kp,cq.b⟩ (BR ⟨tK,_,rfl,(aY cu.F).mono ⟨⟩,cu.F.kp,cu.b⟩ (BR ⟨tL,_,rfl,(aZ cw.F).mono ⟨⟩,cw.F.kp,cw.b⟩ (BR ⟨tM,_,rfl,(b7 cx.F).mono ⟨⟩,cx.F.kp,cx.b⟩ (BR ⟨tN,_,rfl,bg cy.F (jS.cl (bf jS.F)),cy.F.kp,cy.b⟩ ML)))))));have sS:Mc l.prog w K mg base B5 R 4 "finish" ["self","tree","given"] (Tt C R C):=⟨_,_,bp jR TR TN MN GN jO dU XS rT,uD,uE⟩;have sW:Mc l.prog w K mg base B5 R 5 "go_on" ["self"] (bE C R C):=⟨_,_,jB jQ TR TN MN GN jO dU sS X1,uB,uC⟩;have uX:Cl l.prog w K mg base 1 "names_at" ["tree","places"] (Oj K):=jX.cl (av jX.F U3);have ym:Cl l.prog w K mg base 2 "parts_with_names" ["tree"] L4:=jY.cl (aw jY.F kK dB (U0 nA) uX);have cWn:Cl l.prog w K mg base 1 "with_names" ["given","names"] aE:=j'.cl (iu j'.F WY);have sv:Cl l.prog w K mg base 3 "missing_names" ["tree"] aG:=k8.cl (iw k8.F X1 cWn ym);have iO:Cl l.prog w K mg base 1 "without_names" ["told","names"] Tc:=k9.cl (iI k9.F WY uN);have iQ:Cl l.prog w K mg base 1 "with_parts" ["tree","parts"] Wj:=jZ.cl (iK jZ.F kK dB (U0 nA) WZ U3 uO);have cAl:Cl l.prog w K mg base 5 "all_within" ["top","parts_of"] (MP l.prog w K mg base):=jU.cl (VX jU.F WZ X1);have cBu:Cl l.prog w K mg base 6 "built" ["top","parts_of","make"] (HI l.prog w K mg base):=jV.cl (ay jV.F X1 cAl);have sA:Cl l.prog w K mg base 7 "put_in" ["tree","told"] (Td CQ):=uS.cl (iR WU WV uU ym iO iQ cBu);have Uq:Cl l.prog w K mg base 1 "told_or_none" ["value"] (WA C):=kh.cl (jg kh.F TN);have sH:Cl l.prog w K mg base 4 "names_in" ["value"] (br C):=ki.cl (jh ki.F TN sv);have sI:Cl l.prog w K mg base 8 "told_of_parts" ["value","names"] (bu C CQ):=kj.cl (jj kj.F TN Uq sA);have sX:Cl l.prog w K mg base 9 "told_value" ["value"] (bz C CQ):=km.cl (jm km.F TN WZ Uq sH sI);have cRn:Cl l.prog w K mg base 10 "run" ["tree","most"] (TU C R C CQ):=ky.cl (jE ky.F TR MRn (jz jP TR cc) uA cc sW sX);have cM:Cl l.prog w K mg base 2 "_law_mix" Ij (Dx K):=kz.cl (Zm kz.F (Vw WX.F U4) WX.F.kp WX.b WX.m);have cI:Cl l.prog w K mg base 1 "_law_int" ["_law_number"] NV:=kB.cl (Zn kB.F);have cN:Cl l.prog w K mg base 1 "_law_name" ["_law_number"] Hn:=kD.cl (Vx kD.F);have cV:Cl l.prog w K mg base 1 "_law_with" ["_law_names","_law_more"] FG:=kE.cl (VM kE.F);have cG:Cl l.prog w K mg base 5 "_law_ground" ["_law_script","_law_k","_law_deep"] (Di K 2):=IG uF cM 2;have GP:=λn=>KQ (Pr:=l.prog) (w:=w) (base:=base) Ql.F Ql.b Ql.m kG U4 n;have cW:Cl l.prog w K mg base 11 "_law_wider" ["_law_wide","_law_kind"] (F9 8):=kA.cl (Sr (n:=8) kA.F WY uM (GP 8) Ql.F.kp Ql.b Ql.m);have cMd:Cl l.prog w K mg base 48 "_law_made" Ii (Cz K 12):=Lk ⟨uG,uI,uH,uJ⟩ U4 uP kH WZ U3 kG cM cN cV cI cG cW 12;have yn:Cl l.prog w K mg base 1 "_law_whole" ["_law_found"] L0:=kF.cl (ao kF.F cz kH kI);have cDa:=Oh (Pr:=l.prog) (w:=w) (base:=base) uK cM 3;have cIo:=XE (Pr:=l.prog) (w:=w) (base:=base) uL cz U3 kI U4 yn 210;exact bI uT cz U3 U4 cM cDa cMd cRn yn cIo
end K
namespace PySem.W.Fast
def tw12892520758486202516:=0
def tw7561208479725257381:=0
def tw12525021306710496239:=0
def tw16970328080049180643:=0
def tw9794679705057832586:=0
def tw12531458660245217927:=0
def tw5401132872878134634:=0
def tw621392675877767032:=0
def tw10282186732286805246:=0
def tw5947686119513334472:=0
def tw4095671199829252465:=0
def tw2704879061788327516:=0
def tw9323850359195821977:=0
def tw1212953629946159947:=0
def tw12045782077130741920:=0
def tw16794023347083212426:=0
def tw2697942720287762135:=0
def tw6987908257512055626:=0
def tw13219597530332409679:=0
def tw5841771246354330608:=0
def tw17306405870952181772:=0
def tw15098162478804367396:=0
def tw1167247356209494740:=0
def tw17768514398150356496:=0
def tw9330833339289344395:=0
def tw6141644135903194202:=0
def tw5949221004831191537:=0
def tw310637165731388973:=0
def tw3826599003123044590:=0
def tw16689217166022960703:=0
def tw6792965871904965410:=0
def tw10425696480552761450:=0
def tw2191743012547156615:=0
def tw61057009416621619:=0
def tw2538995140792229080:=0
def tw1315117505414227239:=0
def tw7142172651504573345:=0
def tw1594571291458102267:=0
def tw17620596761508932803:=0
def tw6842794227981647189:=0
def tw5093127519810177421:=0
def tw7810346296802779171:=0
def tw16147307075865761803:=0
def tw8224137490024366983:=0
def tw765145021203418109:=0
def tw18325787671297312757:=0
def tw12728968074831173722:=0
def tw12405708294734820770:=0
def tw11957039771399280723:=0
def tw5042262722535915023:=0
def tw5161002817677495448:=0
def tw3933450056326312148:=0
def tw13749332165793715354:=0
def tw16228944069170581895:=0
def tw15328896376210088401:=0
def tw10620311757969772264:=0
def tw6715215595354026152:=0
def tw4293374600787235166:=0
def tw7474766314044052699:=0
def tw7108093285505029746:=0
def tw12795370255681639630:=0
def tw493579011990387561:=0
def tw15742203331859413380:=0
def tw2073719292707524189:=0
def tw8744259205003527796:=0
def tw15448947557706976151:=0
def tw6584333662269818277:=0
def tw3108554778025217740:=0
def tw5582150064229876058:=0
def tw7336726827274086073:=0
def tw5893829832334983290:=0
def tw2265832277718166348:=0
def tw8863464649153637415:=0
def tw16598837377347472360:=0
def tw18077334612110580050:=0
def tw1715289152996166179:=0
def tw4504915435176808051:=0
def tw1293389522124875511:=0
def tw6670587923004127802:=0
def tw3526447444912925640:=0
def tw663003079620059722:=0
def tw9067637245792733587:=0
def tw7122990873040993548:=0
def tw9898303967187675801:=0
def tw9758499535795042957:=0
def tw3431451988171316034:=0
def tw17184715468819458994:=0
def tw11813107438132296816:=0
def tw5379960525502856307:=0
def tw4123285101922134366:=0
def tw3107445930499751186:=0
def tw1992143419520167139:=0
def tw7340946844465685689:=0
def tw7838258900028319500:=0
def tw2860163589054886763:=0
def tw3909697913662763238:=0
def tw5870334790928350080:=0
def tw6785318513437156219:=0
def tw2814265111133775117:=0
def tw11812132404156938283:=0
def tw10316958993453989416:=0
def tw8466179911111015999:=0
def tw7618828804191949891:=0
def tw8200037693541151903:=0
def tw7431508431853688957:=0
def tw5030282263117467956:=0
def tw2720845620686035583:=0
def tw9150791614993794922:=0
def tw2118440283824203295:=0
def tw18379523133737818491:=0
def tw11256507030722485013:=0
def tw13395385879827651833:=0
def tw12544282168400705436:=0
def tw6821809049916668887:=0
def tw7340758144119925269:=0
def tw12546481535553406995:=0
def tw12625618672779684674:=0
def tw4463213974871373379:=0
def tw14535607212343788515:=0
def tw12064815393203938557:=0
def tw7868455635568514729:=0
def tw1395071135215236087:=0
def tw12580083124499774325:=0
def tw13793575929088725638:=0
def tw5163839088566383785:=0
def tw8104381993519176869:=0
def tw11759161114950218841:=0
def tw15110814617613741892:=0
def tw14390555342107160511:=0
def tw6310988221101512224:=0
def tw14323057071544841689:=0
def tw3768987231798074050:=0
def tw16579107393508584664:=0
def tw11162754711825807394:=0
def tw13392355419896003258:=0
def tw7149356506185547358:=0
def tw8505583698491037602:=0
def tw13514339333465853183:=0
def tw15974285971867321084:=0
def tw10547589001316024570:=0
def tw10774399173544699441:=0
def tw4371646527540110275:=0
def tw2771855588671058332:=0
def tw7293498509615234674:=0
def tw14867757977175861133:=0
def tw11745237081777168650:=0
def tw5241419979278166909:=0
def tw1717394672840506586:=0
def tw3946206954252762749:=0
def tw17388205626501792147:=0
def tw15701192764902367848:=0
def tw5798335715767954091:=0
def tw5368032985224777716:=0
def tw17394934261345886869:=0
def tw13782721210948990991:=0
def tw13139150261911867123:=0
def tw9923185613114031503:=0
def tw15176729066426846735:=0
def tw11860666387048545153:=0
def tw4097451238923476042:=0
end PySem.W.Fast
open PySem PySem.W PyProof.Rows
set_option maxRecDepth 100000 in
set_option maxHeartbeats 0 in
theorem PySem.Challenge.cw_kindspan_k33_whole_results_holds : PySem.Challenge.rw_kindspan_k33_whole_results.Holds := by
 w_on;o_law;k_head;(case hw=>w_witness2)
 k_fill
 refine L2.dY (l:=PySem.Challenge.rw_kindspan_k33_whole_results) (n:=63) (k:=213) (x:="_law_script") rfl (by decide) rfl ⟨rfl,by decide,by decide⟩ (fun w h Y=>⟨PySem.W.km_in_of Y,PySem.W.km_tabs_of Y⟩) ?F
 case F =>
  intro w mg mb WL fa h KX bL T fj
  refine' K.all_mk KX bL T fj ?aCz_ ?nuz_ ?nzz_ ?bOz_ ?bQz_ ?WNz_ ?tQz_ ?tRz_ ?tSz_ ?tTz_ ?tUz_ ?tVz_ ?tWz_ ?tXz_ ?aRz_ ?WOz_ ?WQz_ ?bTz_ ?bUz_ ?WRz_ ?bVz_ ?bWz_ ?bXz_ ?bYz_ ?WSz_ ?bZz_ ?c4z_ ?c5z_ ?c6z_ ?WTz_ ?tYz_ ?tZz_ ?u3z_ ?u4z_ ?u5z_ ?u6z_ ?u7z_ ?u9z_ ?uaz_ ?HFz_ ?HNz_ ?c7z_ ?WUz_ ?WVz_ ?cbz_ ?WWz_ ?cjz_ ?ckz_ ?cnz_ ?ubz_ ?ucz_ ?udz_ ?uez_ ?ugz_ ?uhz_ ?uiz_ ?ujz_ ?ukz_ ?umz_ ?uoz_ ?uqz_ ?urz_ ?uuz_ ?nAz_ ?uwz_ ?uxz_ ?uyz_ ?uzz_ ?hKz_ ?FOz_
  (case aCz_|nuz_|nzz_|bOz_|bQz_|WNz_|tQz_|tRz_|tSz_|tTz_|tUz_|tVz_|tWz_|tXz_|aRz_|WOz_|WQz_|bTz_|bUz_|WRz_|bVz_|bWz_|bXz_|bYz_|WSz_|bZz_|c4z_|c5z_|c6z_|WTz_|tYz_|tZz_|u3z_|u4z_|u5z_|u6z_|u7z_|u9z_|uaz_=>k_is)
  case HFz_=>
   iterate 38 (show _/\_;refine ⟨⟨by k_is,⟨⟨_,_,_,_,_,_,_,_,_,rfl,by k_is,by k_is⟩,by k_is⟩,fun _ _ _ _ _ _=>L2.Ac3 (by first | exact .inl ⟨rfl,fun _=>rfl⟩ | exact .inr (.inl ⟨rfl,fun _ _=>rfl⟩) | exact .inr (.inr (.inl ⟨rfl,fun _ _ _=>rfl⟩)) | exact .inr (.inr (.inr (.inl ⟨rfl,fun _ _ _ _ _=>rfl⟩))) | exact .inr (.inr (.inr (.inr ⟨rfl,fun _ _ _ _ _ _ _=>rfl⟩))))⟩,?_⟩)
   trivial
  case HNz_=>
   iterate 13 (show _/\_;refine ⟨by k_is,?_⟩)
   trivial
  (case c7z_|WUz_|WVz_|cbz_|WWz_|cjz_|ckz_|cnz_=>k_is)
  (case ubz_=>rfl)
  (case ucz_|udz_=>k_is)
  (case uez_=>rfl)
  (case ugz_=>rfl)
  (case uhz_|uiz_=>k_is)
  (case ujz_=>rfl)
  (case ukz_=>rfl)
  (case umz_|uoz_=>k_is)
  (case uqz_=>rfl)
  (case urz_=>rfl)
  (case uuz_=>rfl)
  (case nAz_=>first | rfl | kernel_rfl)
  (case uwz_=>rfl)
  (case uxz_=>first | rfl | kernel_rfl)
  (case uyz_=>rfl)
  (case uzz_=>rfl)
  (case hKz_=>kernel_rfl)
  (case FOz_=>kernel_rfl)

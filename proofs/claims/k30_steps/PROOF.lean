import PyProof.Rows.All
import Wide.All
import OpenK.AllK
import Wide.FinOn
import Lean
import PyProof.EqAt
import PyProof.EqKinds
import PyProof.TupleCall
import PyProof.ListNew
import PyProof.WalksMore
import PyProof.ListRange
import PyProof.RaisesMany
import PyProof.RulesTry
import PyProof.PassesOwn
import OpenK.KOwn
import PyProof.RulesAs
import PyProof.RulesDel
import PyProof.ExcArgsOwn
import PyProof.IsiBase
import KE.KIsAll
import KE.KDictOf
import PyProof.AttrMiss
import KE.KDictLaws
import PyProof.DictWalks
import PyProof.ZipIter
import PyProof.TupleIter
import KE.KPairComp
import KE.KNestM
import PySem.Challenge.RW_kindspan_k30_steps
set_option Elab.async false
set_option linter.all false
set_option maxRecDepth 100000
set_option maxHeartbeats 16000000
set_option compiler.extract_closed false
noncomputable section
set_option hygiene false
local macro_rules | `(tactic| exfalso)=>`(tactic| first | exact .inl rfl | exact .inr rfl | exact .inr (.inl rfl) | exact .inr (.inr rfl) | exact L2.Gz _ ⟨⟩ ⟨⟩ | exact L2.CA | exact L2.BS | exact L2.BR | exact L2.CB | exact L2.CC | exact L2.CD | exact L2.DX | rfl | assumption)
set_option hygiene true
open Lean Parser.Tactic in
local macro_rules | `(fun $[$xs:term]* => $b)=>do
 let k:=fun (s:Syntax)=>s.isOfKind ``Lean.Parser.Term.anonymousCtor
 if !xs.any (k ·.raw) || (b.raw.find? (·.isOfKind ``Lean.Parser.Term.syntheticHole)).isSome then Macro.throwUnsupported
 let mut r:=b
 for x in xs.reverse do
  if k x.raw then
   let p<- x.raw.rewriteBottomUpM (m:=MacroM) fun
    | `(⟨$ys,*⟩)=>do
     let zs<- ys.getElems.mapM fun y=>`(rcasesPatLo| $(⟨y.raw⟩):rcasesPat)
     return (<- `(rcasesPat| ⟨$zs,*⟩)).raw
    | `($x:ident)=>return (<- `(rcasesPat| $x:ident)).raw
    | `(_)=>return (<- `(rcasesPat| _)).raw
    | s=>return s
   r<- `(by rintro $(⟨p⟩):rcasesPat; exact $r)
  else r<- `(fun $x=>$r)
 return r
local macro_rules | `(term| nofun)=>`(term| ⟨rfl,rfl,rfl,by decide +kernel,rfl,by decide +kernel,by decide +kernel⟩)
local macro_rules | `(term| ())=>`(term| (by omega))
local macro_rules | `(term| ⟨⟩)=>`(term| (by decide))
theorem Br {α:Sort _}{β:α->Sort _}{γ:∀ a,β a->Sort _}{x:∀ a b,γ a b}:∀ a b,x a b=x a b:=λ_ _=>rfl
abbrev HZ:List PySem.Str:=["_law_script","_law_k","_law_goal","_law_names","_law_deep"]
abbrev HG:List PySem.Str:=["_law_script","_law_k"]
namespace L2
open PySem PySem.Spec PyProof.Rows
abbrev Key:=Sum Int Str
noncomputable def Ia:Key->Value->Bool
 | .inl k,v=>Value.isInt k v
 | .inr x,v=>Value.isStrOf x v
noncomputable def gv (w:World):Key->Int
 | .inl k=>hashInt k
 | .inr x=>hashStr w x
theorem B8:∀ {k:Key} {v:Value},Ia k v=true->(∃ i t,k=Sum.inl i/\v=Value.int i t)\/(∃ x t,k=Sum.inr x/\v=Value.str x t)
 | .inl i,v,h=>by
  obtain ⟨t,e⟩:=Value.isInt_shape (k:=i) (v:=v) h;exact .inl ⟨i,t,rfl,e⟩
 | .inr x,v,h=>by
  obtain ⟨t,e⟩:=Value.isStrOf_shape (x:=x) (v:=v) h;exact .inr ⟨x,t,rfl,e⟩
theorem Nc (i:Int)(t:Tok):Ia (.inl i) (.int i t)=true:=by simp [Ia,Value.isInt]
theorem Nd (x:Str)(t:Tok):Ia (.inr x) (.str x t)=true:=by simp [Ia,Value.isStrOf]
theorem Vx (a b:Int):decide ((Sum.inl a:Key)=Sum.inl b)=(a==b):=by
 by_cases e:a=b
 ·subst e;simp
 ·have h:¬ (Sum.inl a:Key)=Sum.inl b:=λq=>e (Sum.inl.inj q);rw [decide_eq_false h];exact (beq_eq_false_iff_ne.mpr e).symm
theorem L6 (a b:Str):decide ((Sum.inr a:Key)=Sum.inr b)=decide (a=b):=by
 by_cases e:a=b
 ·subst e;simp
 ·have h:¬ (Sum.inr a:Key)=Sum.inr b:=λq=>e (Sum.inr.inj q);rw [decide_eq_false h,decide_eq_false e]
theorem Vy (a:Int)(b:Str):decide ((Sum.inl a:Key)=Sum.inr b)=false:=decide_eq_false (λq=>nomatch q)
theorem Vz (a:Str)(b:Int):decide ((Sum.inr a:Key)=Sum.inl b)=false:=decide_eq_false (λq=>nomatch q)
noncomputable def AA (prog:Program)(w:World):PySem.KeyKind prog w Key where
 is:=Ia
 hash:=gv w
 inj:=λv a b ha hb=>by
  rcases B8 ha with ⟨i,t,rfl,rfl⟩ | ⟨x,t,rfl,rfl⟩
  ·rcases B8 hb with ⟨j,u,rfl,e⟩ | ⟨y,u,rfl,e⟩
   ·injection e with e1 _;rw [e1]
   ·exact nomatch e
  ·rcases B8 hb with ⟨j,u,rfl,e⟩ | ⟨y,u,rfl,e⟩
   ·exact nomatch e
   ·injection e with e1 _;rw [e1]
 byValue:=λk v h=>by
  rcases B8 h with ⟨i,t,rfl,rfl⟩ | ⟨x,t,rfl,rfl⟩ <;> rfl
 pyHash:=λhv h=>by
  rcases B8 hv with ⟨i,t,rfl,rfl⟩ | ⟨x,t,rfl,rfl⟩
  ·exact wpAny_pyHash_int h
  ·exact wpAny_pyHash_str h
 eqBool:=λhu hv h=>by
  rcases B8 hu with ⟨i,t,rfl,rfl⟩ | ⟨x,t,rfl,rfl⟩
  ·rcases B8 hv with ⟨j,u,rfl,rfl⟩ | ⟨y,u,rfl,rfl⟩
   ·rw [Vx] at h;exact wpAny_eqBool_int h
   ·rw [Vy] at h;exact SeqAt.EqAt.int_str i t y u _ _ _ _ h
  ·rcases B8 hv with ⟨j,u,rfl,rfl⟩ | ⟨y,u,rfl,rfl⟩
   ·rw [Vz] at h;exact SeqAt.EqAt.str_int x t j u _ _ _ _ h
   ·rw [L6] at h;exact wpAny_eqBool_str h
 «strs»:=λk x t v h=>by
  rcases B8 h with ⟨i,u,rfl,e⟩ | ⟨y,u,rfl,e⟩
  ·exact nomatch e
  ·injection e with e1 _;subst e1;cases v <;> rfl
theorem JC (prog:Program)(w:World)(i:Int)(t:Tok):(AA prog w).is (.inl i) (.int i t)=true:=Nc i t
theorem DP (prog:Program)(w:World)(x:Str)(t:Tok):(AA prog w).is (.inr x) (.str x t)=true:=Nd x t
inductive V where
 | non | bl (b:Bool) | int (i:Int) | str (x:Str) | byt (b:Array UInt8) | flt (b:UInt64) | ref (a:Addr) | ty (n:String)
 deriving DecidableEq
noncomputable def RelV:V->Value->Prop
 | .non,u=>u=Value.none
 | .bl b,u=>u=Value.bool b
 | .int i,u=>∃ t,u=Value.int i t
 | .str x,u=>∃ t,u=Value.str x t
 | .byt b,u=>∃ t,u=Value.bytes b t
 | .flt b,u=>∃ t,u=Value.float b t
 | .ref a,u=>u=Value.ref a
 | .ty n,u=>u=Value.type n
abbrev Vals:List V->List Value->Prop:=Paired RelV
theorem Vals.length {xs:List V}{us:List Value}(r:Vals xs us):xs.length=us.length:=Paired.length r
theorem Vals.get:∀ {xs:List V} {us:List Value} {i:Nat} {x:V},Vals xs us->xs[i]?=some x->∃ u,us[i]?=some u/\RelV x u
 | _,_,_,_,.nil,e=>by simp at e
 | _,_,0,_,.cons r _,e=>by simp at e;subst e;exact ⟨_,rfl,r⟩
 | _,_,i+1,x,.cons _ t,e=>by
  obtain ⟨u,h1,h2⟩:=Vals.get (i:=i) (x:=x) t (by simpa using e);exact ⟨u,by simpa using h1,h2⟩
theorem Vals.set {x:V}{u:Value}(r:RelV x u):∀ {xs:List V} {us:List Value} (i:Nat),Vals xs us->Vals (xs.set i x) (us.set i u)
 | _,_,_,.nil=>.nil
 | _,_,0,.cons _ t=>.cons r t
 | _,_,i+1,.cons q t=>.cons q (Vals.set r i t)
theorem Vals.append:∀ {xs ys:List V} {us ws:List Value},Vals xs us->Vals ys ws->Vals (xs++ys) (us++ws):=by
 intro xs ys us ws h s
 induction h with
 | nil=>exact s
 | cons r _ ih=>exact .cons r ih
theorem Vals.take:∀ {xs:List V} {us:List Value} (n:Nat),Vals xs us->Vals (xs.take n) (us.take n)
 | _,_,0,_=>.nil
 | _,_,_+1,.nil=>.nil
 | _,_,n+1,.cons r t=>.cons r (Vals.take n t)
theorem Vals.drop:∀ {xs:List V} {us:List Value} (n:Nat),Vals xs us->Vals (xs.drop n) (us.drop n)
 | _,_,0,r=>r
 | _,_,_+1,.nil=>.nil
 | _,_,n+1,.cons _ t=>Vals.drop n t
noncomputable def DQ:Option V->Option Value->Prop
 | some v,some u=>RelV v u
 | none,none=>True
 | _,_=>False
noncomputable def KV {κ:Type}:List (κ × V)->List (κ × Value)->Prop:=Paired λ(p:κ × V) (q:κ × Value)=>p.1=q.1/\RelV p.2 q.2
noncomputable def kV:Key->V
 | .inl i=>.int i
 | .inr x=>.str x
inductive HO where
 /-- a list -/
 | lst (xs:List V)
 /-- a tuple (never changes) -/
 | tup (xs:List V)
 /-- a dict whose keys are ints and texts;one whose keys are tuples of ints and texts (the empty one is both) -/
 | dK (Ai:List (Key × V)) | dT (Ai:List (List Key × V))
 /-- a set of ints: its members,its size -/
 | set (S:Int->Bool) (n:Nat)
 /-- an instance of the class at C,its dict at dx,its attributes -/
 | ins (C dx:Addr) (fs:List (Str × V))
 /-- the dict of the instance at x -/
 | own (x:Addr)
 /-- the dict of an exception -/
 | xd (fs:List (Str × V))
 /-- a bound method,f of x -/
 | met (f x:Addr)
 /-- a range object lo,lo+1,.. below hi -/
 | rng (lo hi:Int)
 /-- a Zj that is known to the object (the gy;a dict while a loop walks it): read,never written while it is so -/
 | frz (o:Obj) (u:HO)
 /-- a code Zk table -/
 | tbl (ps:Array Value)
 /-- any other Zj,by what is true of its one object (a def of nO own: rA a S n:=HO.ext λh=>..) -/
 | ext (φ:Heap->Prop)
abbrev Hp:=Addr->Option HO
noncomputable def upd (H:Hp)(a:Addr)(o:HO):Hp:=λb=>if b=a then some o else H b
theorem Aa {H:Hp}{a:Addr}{o:HO}:upd H a o a=some o:=by unfold upd;rw [if_pos rfl]
theorem Aj {H:Hp}{a b:Addr}{o:HO}(h:b≠a):upd H a o b=H b:=by unfold upd;rw [if_neg h]
theorem Ak {H:Hp}{a b:Addr}{o:HO}(h:H a=some o)(h':H b=none):a≠b:=by
 intro e;subst e;rw [h] at h';cases h'
section
variable (P:Program)(w:World)
noncomputable def AN (H:Hp)(h:Heap)(a:Addr):HO->Prop
 | .lst xs=>xs.length<=sizeLine/\∃ (its:List Value) (n:Nat),Vals xs its/\h.get? a=some { cls:=.type "list",data:=.seq its.toArray n }
 | .tup xs=>xs.length<=sizeLine/\∃ its:List Value,Vals xs its/\IsTup h a its.toArray
 | .dK Ai=>Ai.length<=sizeLine/\(a==sysModules)=false/\∃ vs,KV Ai vs/\h.DictOf (AA P w) a vs
 | .dT Ai=>Ai.length<=sizeLine/\(a==sysModules)=false/\∃ xs:List (List Key × Addr × Value),
   Paired (λ(p:List Key × V) (q:List Key × Addr × Value)=>p.1=q.1/\H q.2.1=some (.tup (p.1.map kV))/\RelV p.2 q.2.2) Ai xs /\
   ∃ o es ep,h.get? a=some o/\o.ExactDict/\o.data=.dict es ep/\es.toList=xs.map (entryOfKey (tupleKind (AA P w)))/\(xs.map (·.1)).Nodup
 | .set S n=>h.SetOf (intKind P w) a S n
 | .ins C dx fs=>H dx=some (.own a)/\fs.length<=1000/\dx≠a/\h.get? a=some (W.instObj C dx) /\
   ∃ mA,h.Ns1 dx mA/\(∀ f,DQ (fs.lookup f) (mA f))/\PySem.Within mA (fs.map (·.1))
 | .own _=>∃ o,h.get? a=some o
 | .xd fs=>∃ mA,h.Ns1 a mA/\∀ f,DQ (fs.lookup f) (mA f)
 | .rng lo hi=>∃ t u v,h.get? a=some { cls:=.type "range",data:=.fields #[.int lo t,.int hi u,.int 1 v] }
 | .frz o u=>h.get? a=some o/\AN H h a u
 | .tbl ps=>h.get? a=some { cls:=.none,data:=.fields ps }
 | .met f x=>h.get? a=some (W.methodObj (.ref f) (.ref x))
 | .ext φ=>φ h/\(∃ o,h.get? a=some o)/\∀ h1 h2:Heap,φ h1->(∀ o,h1.get? a=some o->h2.get? a=some o)->φ h2
noncomputable def Di (H:Hp)(h:Heap):Prop:=∀ a o,H a=some o->AN P w H h a o
end
section
variable {P:Program}{w:World}{H H':Hp}{h h':Heap}{a:Addr}{o:HO}
theorem AN.lt (x:AN P w H h a o):a < h.objs.size:=by
 cases o with
 | lst xs=>obtain ⟨_,_,_,_,e⟩:=x;exact Heap.lt_size e
 | tup xs=>obtain ⟨_,_,_,p⟩:=x;exact p.lt
 | dK Ai=>obtain ⟨_,_,_,_,o,_,_,e,_⟩:=x;exact Heap.lt_size e
 | dT Ai=>obtain ⟨_,_,_,_,o,_,_,e,_⟩:=x;exact Heap.lt_size e
 | set S n=>obtain ⟨o,_,_,_,e,_⟩:=x;exact Heap.lt_size e
 | ins C dx fs=>obtain ⟨_,_,_,e,_⟩:=x;exact Heap.lt_size e
 | own y=>obtain ⟨_,e⟩:=x;exact Heap.lt_size e
 | xd fs=>obtain ⟨_,⟨_,_,_,e,_⟩,_⟩:=x;exact Heap.lt_size e
 | rng lo hi=>obtain ⟨_,_,_,e⟩:=x;exact Heap.lt_size e
 | frz ob u=>obtain ⟨e,_⟩:=x;exact Heap.lt_size e
 | tbl ps=>exact Heap.lt_size (show h.get? a=some _ from x)
 | met f y=>exact Heap.lt_size (show h.get? a=some _ from x)
 | ext φ=>obtain ⟨_,⟨_,e⟩,_⟩:=x;exact Heap.lt_size e
theorem Paired.aah {α β:Type}{F G:α->β->Prop}:∀ {l₁:List α} {l₂:List β},Paired F l₁ l₂->(∀ a b,F a b->G a b)->Paired G l₁ l₂
 | _,_,.nil,_=>.nil
 | _,_,.cons r t,f=>.cons (f _ _ r) (Paired.aah t f)
theorem AN.abb (x:AN P w H h a o)(k:∀ b u,(b=a\/H b=some (.own a))->h.get? b=some u->h'.get? b=some u)
  (ho:∀ b,H b=some (.own a)->H' b=some (.own a)) (ht:∀ b xs,H b=some (.tup xs)->H' b=some (.tup xs)):AN P w H' h' a o:=by
 induction o with
 | lst xs=>obtain ⟨z,its,n,r,e⟩:=x;exact ⟨z,its,n,r,k _ _ (.inl rfl) e⟩
 | tup xs=>obtain ⟨z,its,r,ob,e,c⟩:=x;exact ⟨z,its,r,ob,k _ _ (.inl rfl) e,c⟩
 | dK Ai=>obtain ⟨z,y,vs,r,ob,es,ep,e,c⟩:=x;exact ⟨z,y,vs,r,ob,es,ep,k _ _ (.inl rfl) e,c⟩
 | dT Ai =>
  obtain ⟨z,y,xs,r,ob,es,ep,e,c⟩:=x;exact ⟨z,y,xs,Paired.aah r λp q z=>⟨z.1,ht _ _ z.2.1,z.2.2⟩,ob,es,ep,k _ _ (.inl rfl) e,c⟩
 | set S n=>obtain ⟨ob,es,ep,t,e,c⟩:=x;exact ⟨ob,es,ep,t,k _ _ (.inl rfl) e,c⟩
 | ins C dx fs =>
  obtain ⟨d,z,ne,e,mA,⟨od,es,ep,e2,c⟩,r⟩:=x;exact ⟨ho _ d,z,ne,k _ _ (.inl rfl) e,mA,⟨od,es,ep,k _ _ (.inr d) e2,c⟩,r⟩
 | own y=>obtain ⟨ob,e⟩:=x;exact ⟨ob,k _ _ (.inl rfl) e⟩
 | xd fs=>obtain ⟨mA,⟨od,es,ep,e,c⟩,r⟩:=x;exact ⟨mA,⟨od,es,ep,k _ _ (.inl rfl) e,c⟩,r⟩
 | rng lo hi=>obtain ⟨t,u,v,e⟩:=x;exact ⟨t,u,v,k _ _ (.inl rfl) e⟩
 | frz ob u ih=>obtain ⟨e,q⟩:=x;exact ⟨k _ _ (.inl rfl) e,ih q⟩
 | tbl ps =>
  have e:h.get? a=some { cls:=.none,data:=.fields ps }:=x;show h'.get? a=some { cls:=.none,data:=.fields ps };exact k a _ (.inl rfl) e
 | met f y =>
  have e:h.get? a=some (W.methodObj (.ref f) (.ref y)):=x;show h'.get? a=some (W.methodObj (.ref f) (.ref y));exact k a _ (.inl rfl) e
 | ext φ=>obtain ⟨p,⟨o,e⟩,st⟩:=x;exact ⟨st _ _ p λo q=>k _ _ (.inl rfl) q,⟨o,k _ _ (.inl rfl) e⟩,st⟩
theorem Di.lt (x:Di P w H h)(e:H a=some o):a < h.objs.size:=(x a o e).lt
theorem Di.fresh (x:Di P w H h)(e:h.objs.size<=a):H a=none:=by
 cases q:H a with
 | none=>rfl
 | some u=>exact absurd (Nat.lt_of_lt_of_le (x.lt q) e) (Nat.lt_irrefl _)
theorem Di.kept (x:Di P w H h)(k:∀ b u,h.get? b=some u->h'.get? b=some u):Di P w H h':=λa o e =>
 (x a o e).abb (λb u _ q=>k b u q) (λ_ q=>q) λ_ _ q=>q
theorem Di.laid (x:Di P w H h)(k:∀ b u,h.get? b=some u->h'.get? b=some u)(hp:h.objs.size<=a)(new:AN P w (upd H a o) h' a o):Di P w (upd H a o) h':=λb u e=>by
 have hn:=x.fresh hp;by_cases hb:b=a
 ·subst hb;rw [Aa] at e;cases e;exact new
 ·rw [Aj hb] at e;exact (x b u e).abb (λc v _ q=>k c v q) (λc q=>by rw [Aj (Ak q hn)];exact q) λc xs q=>by rw [Aj (Ak q hn)];exact q
end
noncomputable def Rd (H:Hp)(a:Addr)(u:HO):Prop:=H a=some u\/∃ o,H a=some (.frz o u)
theorem Rd.ok {P:Program}{w:World}{H:Hp}{h:Heap}{a:Addr}{u:HO}(r:Rd H a u)(x:Di P w H h):AN P w H h a u:=by
 rcases r with r | ⟨o,r⟩
 ·exact x a u r
 ·obtain ⟨_,q⟩:=x a _ r;exact q
noncomputable def Zl:Option HO->Prop
 | some (.lst _)=>True
 | some (.dK _)=>True
 | some (.dT _)=>True
 | some (.set _ _)=>True
 | some (.ins _ _ _)=>True
 | some (.ext _)=>True
 | _=>False
section
variable {P:Program}{w:World}{H:Hp}{h h':Heap}{x e:Addr}{o':HO}
theorem Di.write (ok:Di P w H h)(mu:Zl (H x))(he:e=x\/H e=some (.own x))(k:∀ b u,b≠e->h.get? b=some u->h'.get? b=some u)(Yu:∃ u,h'.get? e=some u)
  (new:AN P w (upd H x o') h' x o'):Di P w (upd H x o') h':=λb u q=>by
 have Zm:∀ c y,H c=some (.own y)->c≠x:=λc y r z=>by subst z;rw [r] at mu;exact mu
 have gA:∀ c xs,H c=some (.tup xs)->c≠x:=λc xs r z=>by subst z;rw [r] at mu;exact mu
 by_cases hb:b=x
 ·subst hb;rw [Aa] at q;cases q;exact new
 ·rw [Aj hb] at q;by_cases VA:b=e
  ·have q':H b=some (.own x):=by
    rcases he with z | z
    ·exact absurd (VA.trans z) hb
    ·rw [VA];exact z
   rw [q] at q';cases q';obtain ⟨v,hv⟩:=Yu;exact ⟨v,by rw [VA];exact hv⟩
  ·refine (ok b u q).abb (λc v hc r=>k c v ?_ r) (λc r=>by rw [Aj (Zm c b r)];exact r) λc xs r=>(by rw [Aj (gA c xs r)];exact r);rcases hc with rfl | hc
   ·exact VA
   ·rintro rfl;rcases he with z | z
    ·exact Zm c b hc z
    ·rw [hc] at z;cases z;exact hb rfl
end
structure Un (fs ex:List Addr)(H H':Hp)(h h':Heap):Prop where
 keep:∀ b o,h.get? b=some o->H b=none->b∉fs->b∉ex->h'.get? b=some o
 slot:∀ b o,h.get? b=some o->H b=none->b∈fs->b∉ex->∃ sl,h'.get? b=some { o with slots:=sl }
 free:∀ b o,h.get? b=some o->H b=none->b∉ex->H' b=none
 there:∀ b o,h.get? b=some o->b∉ex->∃ o',h'.get? b=some o'
 aa1:∀ b xs,H b=some (.tup xs)->H' b=some (.tup xs)
 aaz:∀ b o u,H b=some (.frz o u)->H' b=some (.frz o u)
 aa0:∀ b ps,H b=some (.tbl ps)->∃ more,H' b=some (.tbl (ps++more))
section
variable {fs dG ex nQ:List Addr}{H H1 H2:Hp}{h h1 h2 h':Heap}{a x e:Addr}{o:HO}
theorem Un.any (u:Un fs ex H H1 h h1){b:Addr}{ob:Obj}(q:h.get? b=some ob)(n:H b=none)(hx:b∉ex):∃ sl,h1.get? b=some { ob with slots:=sl }:=by
 by_cases hb:b∈fs
 ·exact u.slot b ob q n hb hx
 ·exact ⟨ob.slots,u.keep b ob q n hb hx⟩
theorem Un.kept (k:∀ b u,h.get? b=some u->h'.get? b=some u):Un fs ex H H h h' :=
 ⟨λb ob q _ _ _=>k b ob q,λb ob q _ _ _=>⟨ob.slots,k b ob q⟩,λ_ _ _ n _=>n,λb ob q _=>⟨ob,k b ob q⟩,λ_ _ q=>q,λ_ _ _ q=>q,λ_ ps q=>⟨#[],by rw [q];simp⟩⟩
theorem Un.refl:Un fs ex H H h h:=Un.kept λ_ _ q=>q
theorem Un.laid (k:∀ b u,h.get? b=some u->h'.get? b=some u)(hp:h.objs.size<=a)(hn:H a=none):Un fs ex H (upd H a o) h h' where
 keep:=λb u q _ _ _=>k b u q
 slot:=λb u q _ _ _=>⟨u.slots,k b u q⟩
 free:=λb u q n _=>by rw [Aj (Nat.ne_of_lt (Nat.lt_of_lt_of_le (Heap.lt_size q) hp))];exact n
 there:=λb u q _=>⟨u,k b u q⟩
 aa1:=λb xs q=>by rw [Aj (Ak q hn)];exact q
 aaz:=λb u xs q=>by rw [Aj (Ak q hn)];exact q
 aa0:=λb ps q=>⟨#[],by rw [Aj (Ak q hn),q];simp⟩
theorem Un.write (mu:Zl (H x))(he:e=x\/H e=some (.own x))(k:∀ b u,b≠e->h.get? b=some u->h'.get? b=some u)(Yu:∃ u,h'.get? e=some u):Un fs ex H (upd H x o) h h':=by
 have hx:∀ b,H b=none->b≠x:=λb n z=>by subst z;rw [n] at mu;exact mu
 have hb:∀ b,H b=none->b≠e:=λb n z=>by
  subst z;rcases he with r | r
  ·exact hx b n r
  ·rw [n] at r;cases r
 have hm:∀ b u,H b=some u->¬ Zl (some u)->b≠x:=λb u q nm z=>by subst z;rw [q] at mu;exact nm mu
 refine ⟨λb u q n _ _=>k b u (hb b n) q,λb u q n _ _=>⟨u.slots,k b u (hb b n) q⟩,λb u q n _=>by rw [Aj (hx b n)];exact n,λb u q _=>?_,
  λb xs q=>by rw [Aj (hm b _ q λz=>z)];exact q,λb u xs q=>by rw [Aj (hm b _ q λz=>z)];exact q,λb ps q=>⟨#[],by rw [Aj (hm b _ q λz=>z),q];simp⟩⟩
 by_cases VA:b=e
 ·subst VA;exact Yu
 ·exact ⟨u,k b u VA q⟩
end
noncomputable def RD (h:Heap)(H:Hp):List Addr:=(List.range h.objs.size).filter λa=>(H a).isSome
noncomputable def HI (h:Heap)(H:Hp):Heap:=W.hideAll h (RD h H)
theorem Nf (h:Heap)(H:Hp):(HI h H).objs.size=h.objs.size:=W.hideAll_size _ _
theorem OD {h:Heap}{H:Hp}{b:Addr}{o:Obj}(e:h.get? b=some o)(n:H b=none):(HI h H).get? b=some o :=
 W.hideAll_get _ e λhm=>by
  have q:(H b).isSome=true:=(List.mem_filter.mp hm).2;rw [n] at q;simp at q
theorem RW {h:Heap}{H:Hp}{b:Addr}{o:Obj}(e:(HI h H).get? b=some o):h.get? b=some o/\H b=none:=by
 have e':h.get? b=some o:=W.of_hideAll (RD h H) e;refine ⟨e',?_⟩;cases q:H b with
 | none=>rfl
 | some x =>
  have hm:b∈RD h H:=List.mem_filter.mpr ⟨List.mem_range.mpr (Heap.lt_size e'),by simp [q]⟩;have z:(HI h H).get? b=none:=W.hideAll_none (RD h H) hm;rw [z] at e;cases e
structure Mod (K:W.Frag)(mg:Str->Option Value)(base:Heap):Prop where
 kin:K.In base
 glob:base.Ns mainGlobals mg
 blt:∃ mb,base.Ns builtinsNs mb/\∀ x:Str,x≠"__name__"->mb x=bootBuiltins x
 nolimit:base.NoLimit
structure Cx where
 prog:Program
 w:World
 K:W.Frag
 mg:Str->Option Value
 base:Heap
 A:Around
 N:List Str
 s₀:Shared
 H₀:Hp
 env:Env
 outer:List Env
 stack:List Env
 ex:List Addr
 fn:Str->Bool
 calm:Bool
 pn:List (Addr × Obj)
 xe:Value->Shared->Prop
noncomputable def FO (l:List Env):List Addr:=l.filterMap (·.frame)
abbrev Cx.fs (X:Cx):List Addr:=FO X.outer
noncomputable def Uv (sc:Scope)(x:Str):Prop:=sc.names.lookup x=some .local\/sc.names.lookup x=some .cell\/sc.names.lookup x=some .free
noncomputable def Loc (sc:Scope)(x:Str):Prop:=sc.names.lookup x=some .local\/sc.names.lookup x=some .cell
noncomputable def Look (env:Env)(h:Heap)(m:Str->Option Value)(x:Str)(u:Value):Prop :=
 (env.kindOf x=some .local/\m x=some u)\/((env.kindOf x=some .cell\/env.kindOf x=some .free)/\∃ c,env.cells.lookup x=some c/\h.IsCell c (some u))
structure Cx.Ok (X:Cx):Prop where
 mod:Mod X.K X.mg X.base
 kind:X.env.scope.kind=.function
 glob:X.env.globals=mainGlobals
 blt:X.env.builtins=builtinsNs
 above:X.s₀.heap.objs.size<=X.env.locals
 inj:∀ x y c,X.env.cells.lookup x=some c->X.env.cells.lookup y=some c->x=y
 has:∀ x,(X.env.kindOf x=some .cell\/X.env.kindOf x=some .free)->∃ c,X.env.cells.lookup x=some c
 cab:∀ x c,X.fn x=true->X.env.cells.lookup x=some c->X.s₀.heap.objs.size<=c
 hd:X.calm=true->X.A.handled=none
 frames:X.A.frames=some X.stack
 stk:X.stack=X.outer\/(X.stack=X.env::X.outer/\X.env.frame=some X.env.locals)
 exf:∀ b∈X.ex,b≠X.env.locals/\∀ x c,X.env.cells.lookup x=some c->c≠b
 bs:∀ b o,X.base.get? b=some o->X.s₀.heap.get? b=some o/\X.H₀ b=none
 bsz:X.base.objs.size<=X.s₀.heap.objs.size
 abr:∀ b o,X.base.get? b=some o->b∉X.ex
 abt:∀ b∈X.ex,b∉X.fs
 aa6:X.s₀.heap.FunFrames X.base X.outer
 frf:∀ b∈X.fs,X.H₀ b=none
structure Inv (X:Cx)(pins:List (Addr × Obj))(σ:List (Option V))(H:Hp)(s:Shared):Prop where
 ok:X.Ok
 os:s.os=X.s₀.os
 bare:AllBare s.gens
 base:Un X.fs X.ex X.H₀ H X.s₀.heap s.heap
 loc:∃ m,s.heap.Ns X.env.locals m/\∀ (i:Nat) (x:Str) (v:V),X.N[i]?=some x->σ[i]?=some (some v)->Uv X.env.scope x->∃ u,RelV v u/\Look X.env s.heap m x u
 cell:∀ x c,X.env.cells.lookup x=some c->∃ v,s.heap.IsCell c v
 free:H X.env.locals=none
 aaf:∀ x c,X.env.cells.lookup x=some c->H c=none
 pin:∀ p∈X.pn++pins,s.heap.get? p.1=some p.2/\H p.1=none/\p.1≠X.env.locals/\p.1∉X.fs/\∀ v,p.2.data≠.cell v
 hok:Di X.prog X.w H s.heap
 len:σ.length=X.N.length
section
variable {X:Cx}{pins:List (Addr × Obj)}{σ:List (Option V)}{H H':Hp}{s:Shared}{h':Heap}
theorem Cx.Ok.ab4 (ok:X.Ok){b:Addr}{o:Obj}(e:X.base.get? b=some o):b∉X.fs:=λhb=>by
 have:=(ok.aa6.mem hb).1;rw [e] at this;cases this
theorem Inv.bs (I:Inv X pins σ H s):∀ b o,X.base.get? b=some o->s.heap.get? b=some o/\H b=none:=λb o e =>
 ⟨I.base.keep b o (I.ok.bs b o e).1 (I.ok.bs b o e).2 (I.ok.ab4 e) (I.ok.abr b o e),I.base.free b o (I.ok.bs b o e).1 (I.ok.bs b o e).2 (I.ok.abr b o e)⟩
theorem Inv.bk (I:Inv X pins σ H s):∀ b o,X.base.get? b=some o->s.heap.get? b=some o:=λb o e=>(I.bs b o e).1
theorem Inv.mod (I:Inv X pins σ H s):Mod X.K X.mg X.base:=I.ok.mod
theorem Inv.kIn (I:Inv X pins σ H s):X.K.In s.heap:=I.ok.mod.kin.keeps I.bk
theorem Inv.fr (I:Inv X pins σ H s):∃ m,Fr X.base X.env.locals s.heap m :=
 let ⟨m,hn,_⟩:=I.loc
 ⟨m,hn,I.bk,Nat.le_trans I.ok.bsz I.ok.above⟩
theorem Inv.lt (I:Inv X pins σ H s):X.env.locals < s.heap.objs.size:=let ⟨_,hn,_⟩:=I.loc;hn.lt
theorem Inv.sz (I:Inv X pins σ H s):X.s₀.heap.objs.size<=s.heap.objs.size:=Nat.le_trans I.ok.above (Nat.le_of_lt I.lt)
theorem Inv.ab0 (I:Inv X pins σ H s){a:Addr}(h:s.heap.objs.size<=a):a∉X.fs:=λhb=>by
 obtain ⟨_,o,ho,_⟩:=I.ok.aa6.mem hb;exact absurd (Nat.lt_of_lt_of_le (Heap.lt_size ho) (Nat.le_trans I.sz h)) (Nat.lt_irrefl _)
theorem Inv.cne (I:Inv X pins σ H s):∀ x c,X.env.cells.lookup x=some c->c≠X.env.locals:=λx c e z=>by
 obtain ⟨v,o,ho,hd⟩:=I.cell x c e;obtain ⟨m,⟨o',es,ep,RX,OG,_⟩,_⟩:=I.loc;rw [z,RX] at ho;cases ho;rw [OG] at hd;cases hd
theorem Inv.aa6 (I:Inv X pins σ H s):s.heap.FunFrames X.base X.outer:=by
 have all:∀ (l:List Env),(∀ b∈FO l,b∈X.fs)->X.s₀.heap.FunFrames X.base l->s.heap.FunFrames X.base l:=by
  intro l
  induction l with
  | nil=>intro _ _;trivial
  | cons env r ih =>
   intro hs hl;obtain ⟨hk,⟨L,o,hf,hn,ho,hd⟩,hr⟩:=hl;have hL:L∈X.fs:=hs L (by unfold FO;rw [List.filterMap_cons,hf];exact List.mem_cons_self);obtain ⟨sl,e⟩:=I.base.slot L o ho (I.ok.frf L hL) hL λz=>I.ok.abt L z hL;exact ⟨hk,⟨L,_,hf,hn,e,hd⟩,ih (λb hb=>hs b (by unfold FO;rw [List.filterMap_cons,hf];exact List.mem_cons_of_mem _ hb)) hr⟩
 exact all X.outer (λ_ hb=>hb) I.ok.aa6
theorem Inv.stack (I:Inv X pins σ H s):s.heap.FunFrames X.base X.stack:=by
 rcases I.ok.stk with e | ⟨e,hf⟩
 ·rw [e];exact I.aa6
 ·rw [e];obtain ⟨m,hn,_⟩:=I.loc;refine .cons (by rw [I.ok.kind];decide) hf hn ?_ I.aa6;exact Heap.get?_none_of_le (Nat.le_trans I.ok.bsz I.ok.above)
theorem Inv.aao (I:Inv X pins σ H s):∀ b∈FO X.stack,b∈X.env.locals::X.fs:=λb hb=>by
 rcases I.ok.stk with e | ⟨e,hf⟩
 ·rw [e] at hb;exact List.mem_cons_of_mem _ hb
 ·rw [e] at hb;unfold FO at hb;rw [List.filterMap_cons,hf] at hb;exact hb
theorem Inv.aas (I:Inv X pins σ H s):∀ b∈FO X.stack,H b=none:=λb hb=>by
 rcases List.mem_cons.mp (I.aao b hb) with e | hb
 ·rw [e];exact I.free
 ·obtain ⟨_,o,ho,_⟩:=I.ok.aa6.mem hb;exact I.base.free b o ho (I.ok.frf b hb) λz=>I.ok.abt b z hb
theorem Inv.step {g':Array GenState}{t':Nat}{d':Drawn}{ch:List Addr}(I:Inv X pins σ H s)
  (KU:∀ b∈ch,(b∈X.ex\/X.s₀.heap.objs.size<=b)/\b≠X.env.locals/\(∀ x c,X.env.cells.lookup x=some c->c≠b)/\∀ p∈X.pn++pins,p.1≠b)
  (keep:∀ b o,b≠X.env.locals->b∉X.fs->b∉ch->s.heap.get? b=some o->H b=none->h'.get? b=some o)
  (slot:∀ b o,b≠X.env.locals->b∈X.fs->b∉ch->s.heap.get? b=some o->H b=none->∃ sl,h'.get? b=some { o with slots:=sl }) (free:∀ b o,b∉ch->s.heap.get? b=some o->H b=none->H' b=none)
  (there:∀ b o,b∉ch->s.heap.get? b=some o->∃ o',h'.get? b=some o')
  (aa1:∀ b xs,H b=some (.tup xs)->H' b=some (.tup xs)) (aaz:∀ b o u,H b=some (.frz o u)->H' b=some (.frz o u)) (aa0:∀ b ps,H b=some (.tbl ps)->∃ more,H' b=some (.tbl (ps++more)))
  (ns:∀ m,s.heap.Ns X.env.locals m->h'.Ns X.env.locals m) (hok:Di X.prog X.w H' h') (hg:AllBare g') :
  Inv X pins σ H' { s with heap:=h',gens:=g',drawn:=d',toks:=t' }:=by
 have Zn:∀ b o,X.s₀.heap.get? b=some o->b≠X.env.locals:=λb o e=>Nat.ne_of_lt (Nat.lt_of_lt_of_le (Heap.lt_size e) I.ok.above);have RY:∀ b o,X.s₀.heap.get? b=some o->b∉X.ex->b∉ch:=λb o e hx hb=>by
  rcases (KU b hb).1 with z | z
  ·exact hx z
  ·exact absurd (Nat.lt_of_lt_of_le (Heap.lt_size e) z) (Nat.lt_irrefl _)
 have cellK:∀ x c,X.env.cells.lookup x=some c->∀ v,s.heap.IsCell c v->h'.IsCell c v:=λx c e v ⟨o,ho,hd⟩=>by
  have OI:c∉ch:=λz=>(KU c z).2.2.1 x c e rfl;by_cases hc:c∈X.fs
  ·obtain ⟨sl,q⟩:=slot c o (I.cne x c e) hc OI ho (I.aaf x c e);exact ⟨_,q,hd⟩
  ·exact ⟨o,keep c o (I.cne x c e) hc OI ho (I.aaf x c e),hd⟩
 refine ⟨I.ok,I.os,hg,⟨λb o e n hb hx=>?_,λb o e n hb hx=>?_,λb o e n hx=>?_,λb o e hx=>?_,λb xs e=>aa1 b xs (I.base.aa1 b xs e),λb o xs e=>aaz b o xs (I.base.aaz b o xs e),λb ps e=>?_⟩,?_,λx c e=>?_,?_,λx c e=>?_,λp hp=>?_,hok,I.len⟩
 ·exact keep b o (Zn b o e) hb (RY b o e hx) (I.base.keep b o e n hb hx) (I.base.free b o e n hx)
 ·obtain ⟨sl,e1⟩:=I.base.slot b o e n hb hx;obtain ⟨gB,e2⟩:=slot b _ (Zn b o e) hb (RY b o e hx) e1 (I.base.free b o e n hx);exact ⟨gB,e2⟩
 ·obtain ⟨o',e1⟩:=I.base.there b o e hx;exact free b o' (RY b o e hx) e1 (I.base.free b o e n hx)
 ·obtain ⟨o',e1⟩:=I.base.there b o e hx;exact there b o' (RY b o e hx) e1
 ·obtain ⟨m1,e1⟩:=I.base.aa0 b ps e;obtain ⟨m2,e2⟩:=aa0 b _ e1;exact ⟨m1++m2,by rw [e2,Array.append_assoc]⟩
 ·obtain ⟨m,hn,hl⟩:=I.loc;refine ⟨m,ns m hn,λi x v e1 e2 e3=>?_⟩;obtain ⟨u,r,l⟩:=hl i x v e1 e2 e3;refine ⟨u,r,?_⟩;rcases l with l | ⟨k,c,e,z⟩
  ·exact .inl l
  ·exact .inr ⟨k,c,e,cellK x c e _ z⟩
 ·obtain ⟨v,z⟩:=I.cell x c e;exact ⟨v,cellK x c e v z⟩
 ·obtain ⟨m,⟨o,_,_,ho,_⟩,_⟩:=I.loc;exact free _ o (λz=>(KU _ z).2.1 rfl) ho I.free
 ·obtain ⟨v,o,ho,hd⟩:=I.cell x c e;exact free c o (λz=>(KU c z).2.2.1 x c e rfl) ho (I.aaf x c e)
 ·obtain ⟨e,n,ne,nf,d⟩:=I.pin p hp;have OI:p.1∉ch:=λz=>(KU p.1 z).2.2.2 p hp rfl;exact ⟨keep p.1 p.2 ne nf OI e n,free p.1 p.2 OI e n,ne,nf,d⟩
theorem Inv.un {t':Nat}(I:Inv X pins σ H s)(u:Un X.fs [] H H' s.heap h')(hok:Di X.prog X.w H' h'):Inv X pins σ H' { s with heap:=h',toks:=t' }:=by
 obtain ⟨m,⟨o,es,ep,ho,r⟩,_⟩:=id I.loc;obtain ⟨sl,hL⟩:=u.any ho I.free (by simp);exact I.step (g':=s.gens) (d':=s.drawn) (ch:=[]) (λ_ z=>nomatch z) (λb o _ hb _ e n=>u.keep b o e n hb (by simp)) (λb o _ hb _ e n=>u.slot b o e n hb (by simp)) (λb o _ e n=>u.free b o e n (by simp)) (λb o _ e=>u.there b o e (by simp)) u.aa1 u.aaz u.aa0 (λm' hm=>by
  obtain ⟨o',gC,gD,RX,r'⟩:=hm;rw [ho] at RX;cases RX;exact ⟨_,gC,gD,hL,r'⟩) hok I.bare
theorem Inv.call {g':Array GenState}{t':Nat}{d':Drawn}{ch:List Addr}(I:Inv X pins σ H s)(u:Un (FO X.stack) ch H H' s.heap h')(hok:Di X.prog X.w H' h')(hg:AllBare g')
  (KU:∀ b∈ch,(b∈X.ex\/X.s₀.heap.objs.size<=b)/\b≠X.env.locals/\(∀ x c,X.env.cells.lookup x=some c->c≠b)/\∀ p∈X.pn++pins,p.1≠b) :
  Inv X pins σ H' { s with heap:=h',gens:=g',drawn:=d',toks:=t' }:=by
 obtain ⟨m,⟨o,es,ep,ho,r⟩,_⟩:=id I.loc;obtain ⟨sl,hL⟩:=u.any ho I.free λz=>(KU _ z).2.1 rfl;exact I.step (ch:=ch) KU (λb o hL hb hc e n=>u.keep b o e n (λz=>(List.mem_cons.mp (I.aao b z)).elim hL hb) hc) (λb o _ _ hc e n=>u.any e n hc) (λb o hc e n=>u.free b o e n hc) (λb o hc e=>u.there b o e hc) u.aa1 u.aaz u.aa0 (λm' hm=>by
  obtain ⟨o',gC,gD,RX,r'⟩:=hm;rw [ho] at RX;cases RX;exact ⟨_,gC,gD,hL,r'⟩) hok hg
theorem Inv.turned {t':Nat}{it:Addr}(I:Inv X pins σ H s)(k:∀ b o,b≠it->s.heap.get? b=some o->h'.get? b=some o)(hn:H it=none)(hL:it≠X.env.locals)
  (h1:it∈X.ex\/X.s₀.heap.objs.size<=it) (h2:∀ x c,X.env.cells.lookup x=some c->c≠it) (h3:∀ p∈X.pn++pins,p.1≠it):Inv X pins σ H { s with heap:=h',toks:=t' }:=by
 have nR:∀ b u,H b=some u->b≠it:=λb u e z=>by rw [z,hn] at e;cases e
 refine I.step (g':=s.gens) (d':=s.drawn) (ch:=[it]) (λb hb=>?_) (λb o _ _ hc e _=>k b o (λz=>hc (by simp [z])) e) (λb o _ _ hc e _=>⟨o.slots,k b o (λz=>hc (by simp [z])) e⟩) (λ_ _ _ _ n=>n)
  (λb o hc e=>⟨o,k b o (λz=>hc (by simp [z])) e⟩) (λ_ _ e=>e) (λ_ _ _ e=>e) (λb ps e=>⟨#[],by rw [e];simp⟩) (λm hm=>?_) (λb u e=>?_) I.bare
 ·have e:b=it:=by simpa using hb
  subst e;exact ⟨h1,hL,h2,h3⟩
 ·obtain ⟨o,es,ep,ho,r⟩:=hm;exact ⟨o,es,ep,k _ o (Ne.symm hL) ho,r⟩
 ·refine (I.hok b u e).abb (λc v hc q=>k c v ?_ q) (λ_ q=>q) λ_ _ q=>q;rcases hc with z | z
  ·rw [z];exact nR b u e
  ·exact nR c _ z
theorem Inv.tok (I:Inv X pins σ H s)(t:Nat):Inv X pins σ H { s with toks:=t }:=I.un (h':=s.heap) (t':=t) Un.refl I.hok
theorem Inv.kept {t':Nat}(I:Inv X pins σ H s)(k:∀ b u,s.heap.get? b=some u->h'.get? b=some u):Inv X pins σ H { s with heap:=h',toks:=t' }:=I.un (Un.kept k) (I.hok.kept k)
theorem Inv.laid {a:Addr}{o:HO}{t':Nat}(I:Inv X pins σ H s)(k:∀ b u,s.heap.get? b=some u->h'.get? b=some u)(hp:s.heap.objs.size<=a)(new:AN X.prog X.w (upd H a o) h' a o):
  Inv X pins σ (upd H a o) { s with heap:=h',toks:=t' }:=I.un (Un.laid k hp (I.hok.fresh hp)) (I.hok.laid k hp new)
theorem Inv.write {x e:Addr}{o:HO}{t':Nat}(I:Inv X pins σ H s)(mu:Zl (H x))(he:e=x\/H e=some (.own x))(k:∀ b u,b≠e->s.heap.get? b=some u->h'.get? b=some u)(Yu:∃ u,h'.get? e=some u)
  (new:AN X.prog X.w (upd H x o) h' x o):Inv X pins σ (upd H x o) { s with heap:=h',toks:=t' }:=I.un (Un.write mu he k Yu) (I.hok.write mu he k Yu new)
theorem Inv.weak {σ':List (Option V)}(I:Inv X pins σ H s)(hl:σ'.length=σ.length)(w:∀ (i:Nat) v,σ'[i]?=some (some v)->σ[i]?=some (some v)):Inv X pins σ' H s :=
 ⟨I.ok,I.os,I.bare,I.base,let ⟨m,hn,rC⟩:=I.loc;⟨m,hn,λi x v e1 e2 e3=>rC i x v e1 (w i v e2) e3⟩,I.cell,I.free,I.aaf,I.pin,I.hok,hl.trans I.len⟩
theorem Inv.aaj {pins':List (Addr × Obj)}(I:Inv X pins σ H s)(h:∀ p∈pins',s.heap.get? p.1=some p.2/\H p.1=none/\p.1≠X.env.locals/\p.1∉X.fs/\∀ v,p.2.data≠.cell v):Inv X pins' σ H s :=
 ⟨I.ok,I.os,I.bare,I.base,I.loc,I.cell,I.free,I.aaf,λp hp=>(List.mem_append.mp hp).elim (λz=>I.pin p (List.mem_append_left _ z)) (h p),I.hok,I.len⟩
theorem Gx {N:List Str}(hN:N.Nodup){i j:Nat}{x:Str}(a:N[i]?=some x)(b:N[j]?=some x):i=j:=by
 obtain ⟨h1,e1⟩:=List.getElem?_eq_some_iff.mp a;obtain ⟨h2,e2⟩:=List.getElem?_eq_some_iff.mp b;exact (List.getElem_inj hN).mp (e1.trans e2.symm)
theorem Ib {M:Model}{A:Around}{E:Value->Shared->Prop}{i:Nat}{x:Str}{v:V}{u:Value}{Q:Unit->Shared->Prop}(I:Inv X pins σ H s)(hN:X.N.Nodup)(hi:X.N[i]?=some x)(hx:Loc X.env.scope x)(r:RelV v u)
  (h:∀ s',Inv X pins (σ.set i (some v)) H s'->(∃ a,Heap.SameBut a s.heap s'.heap/\(a=X.env.locals\/X.env.cells.lookup x=some a))->Q .unit s') (hf:X.fn x=true\/X.env.scope.names.lookup x=some .local:=by exfalso):wpAny M A (storeName X.env x u) Q E s:=by
 obtain ⟨m,hn,hl⟩:=id I.loc;have OJ:(X.env.scope.kind==.class || (X.env.scope.kind==.module && X.env.locals != X.env.globals))=false:=by rw [I.ok.kind];rfl
 have hiσ:i < σ.length:=by rw [I.len];exact (List.getElem?_eq_some_iff.mp hi).1
 have cne:=I.cne;have tracked:∀ {a:Addr} {h':Heap},(∃ o,s.heap.get? a=some o/\H a=none)->Heap.SameBut a s.heap h'->Di X.prog X.w H h':=λ{a h'} ha hs b ob e=>by
  obtain ⟨_,_,Uw⟩:=ha;refine (I.hok b ob e).abb (λc w' hc q=>(hs.2 c ?_).trans q) (λ_ q=>q) λ_ _ q=>q;rintro rfl;rcases hc with rfl | hc
  ·rw [Uw] at e;cases e
  ·rw [Uw] at hc;cases hc
 rcases hx with hk | hk
 ·refine wpAny_storeName_local hk hn (λh' Yv hs=>?_) OJ;obtain ⟨oL,_,_,nT,_⟩:=id hn;refine h _ ⟨I.ok,I.os,I.bare,⟨λb o e n hb hx=>?_,λb o e n hb hx=>?_,I.base.free,λb o e hx=>?_,I.base.aa1,I.base.aaz,I.base.aa0⟩,⟨_,Yv,λj y v' e1 e2 e3=>?_⟩,λy c e=>?_,I.free,I.aaf,λp hp=>?_,tracked ⟨oL,nT,I.free⟩ hs,by simpa using I.len⟩ ⟨_,hs,.inl rfl⟩
  ·exact (hs.2 b (Nat.ne_of_lt (Nat.lt_of_lt_of_le (Heap.lt_size e) I.ok.above))).trans (I.base.keep b o e n hb hx)
  ·obtain ⟨sl,e1⟩:=I.base.slot b o e n hb hx;exact ⟨sl,(hs.2 b (Nat.ne_of_lt (Nat.lt_of_lt_of_le (Heap.lt_size e) I.ok.above))).trans e1⟩
  ·obtain ⟨o',e1⟩:=I.base.there b o e hx;exact ⟨o',(hs.2 b (Nat.ne_of_lt (Nat.lt_of_lt_of_le (Heap.lt_size e) I.ok.above))).trans e1⟩
  ·by_cases hj:j=i
   ·subst hj;rw [hi] at e1;cases e1;rw [List.getElem?_set_self hiσ] at e2;cases e2;exact ⟨u,r,.inl ⟨hk,by simp⟩⟩
   ·rw [List.getElem?_set_ne (Ne.symm hj)] at e2;obtain ⟨u',r',q⟩:=hl j y v' e1 e2 e3;refine ⟨u',r',?_⟩;rcases q with ⟨k,e⟩ | ⟨k,c,e,z⟩
    ·refine .inl ⟨k,?_⟩;have:y≠x:=λe=>hj (Gx hN e1 (e▸hi));simp [this,e]
    ·exact .inr ⟨k,c,e,z.sameBut hs (cne y c e)⟩
  ·obtain ⟨w',z⟩:=I.cell y c e;exact ⟨w',z.sameBut hs (cne y c e)⟩
  ·obtain ⟨e,n,ne,nf,d⟩:=I.pin p hp;exact ⟨(hs.2 p.1 ne).trans e,n,ne,nf,d⟩
 ·have gE:X.fn x=true:=by
   rcases hf with z | z
   ·exact z
   ·rw [z] at hk;cases hk
  obtain ⟨c,hc⟩:=I.ok.has x (.inl hk);obtain ⟨w',z⟩:=I.cell x c hc;refine wpAny_storeName_cell I.ok.kind hk hc z (λh' dH hs=>?_);obtain ⟨oc,RE,gF⟩:=id z;refine h { s with heap:=h' } ⟨I.ok,I.os,I.bare,⟨λb o e n hb hx=>?_,λb o e n hb hx=>?_,I.base.free,λb o e hx=>?_,I.base.aa1,I.base.aaz,I.base.aa0⟩,⟨m,hn.sameBut hs (Ne.symm (cne x c hc)),λj y v' e1 e2 e3=>?_⟩,λy c' e=>?_,I.free,I.aaf,λp hp=>?_,tracked ⟨oc,RE,I.aaf x c hc⟩ hs,by simpa using I.len⟩ ⟨c,hs,.inr hc⟩
  ·exact (hs.2 b (Nat.ne_of_lt (Nat.lt_of_lt_of_le (Heap.lt_size e) (I.ok.cab x c gE hc)))).trans (I.base.keep b o e n hb hx)
  ·obtain ⟨sl,e1⟩:=I.base.slot b o e n hb hx;exact ⟨sl,(hs.2 b (Nat.ne_of_lt (Nat.lt_of_lt_of_le (Heap.lt_size e) (I.ok.cab x c gE hc)))).trans e1⟩
  ·obtain ⟨o',e1⟩:=I.base.there b o e hx;exact ⟨o',(hs.2 b (Nat.ne_of_lt (Nat.lt_of_lt_of_le (Heap.lt_size e) (I.ok.cab x c gE hc)))).trans e1⟩
  ·by_cases hj:j=i
   ·subst hj;rw [hi] at e1;cases e1;rw [List.getElem?_set_self hiσ] at e2;cases e2;exact ⟨u,r,.inr ⟨.inl hk,c,hc,dH⟩⟩
   ·rw [List.getElem?_set_ne (Ne.symm hj)] at e2;obtain ⟨u',r',q⟩:=hl j y v' e1 e2 e3;refine ⟨u',r',?_⟩;rcases q with q | ⟨k,c',e,z'⟩
    ·exact .inl q
    ·refine .inr ⟨k,c',e,z'.sameBut hs ?_⟩;rintro rfl;exact hj (Gx hN e1 (I.ok.inj _ _ _ e hc▸hi))
  ·by_cases gG:c'=c
   ·subst gG;exact ⟨_,dH⟩
   ·obtain ⟨w2,z2⟩:=I.cell y c' e;exact ⟨w2,z2.sameBut hs gG⟩
  ·obtain ⟨e,n,ne,nf,d⟩:=I.pin p hp;refine ⟨(hs.2 p.1 ?_).trans e,n,ne,nf,d⟩;intro q;rw [q,RE] at e;have q':oc=p.2:=Option.some.inj e;exact d w' (by rw [<- q'];exact gF)
theorem Cu {M:Model}{A:Around}{E:Value->Shared->Prop}{i:Nat}{x:Str}{v:V}{u:Value}{Q:Unit->Shared->Prop}(I:Inv X pins σ H s)(hN:X.N.Nodup)(hi:X.N[i]?=some x)(hx:Loc X.env.scope x)(r:RelV v u)
  (h:∀ s',Inv X pins (σ.set i (some v)) H s'->Q .unit s') (hf:X.fn x=true\/X.env.scope.names.lookup x=some .local:=by exfalso):wpAny M A (storeName X.env x u) Q E s :=
 Ib I hN hi hx r (λs' I' _=>h s' I') hf
theorem Inv.abm {s':Shared}{ch:List Addr}(I:Inv X pins σ H s)(ho:s'.os=s.os)(u:Un (FO X.stack) ch H H' s.heap s'.heap)(hok:Di X.prog X.w H' s'.heap)(hg:AllBare s'.gens)
  (KU:∀ b∈ch,(b∈X.ex\/X.s₀.heap.objs.size<=b)/\b≠X.env.locals/\(∀ x c,X.env.cells.lookup x=some c->c≠b)/\∀ p∈X.pn++pins,p.1≠b):Inv X pins σ H' s':=by
 obtain ⟨h',g',d',t',o'⟩:=s';have e:o'=s.os:=ho;subst e;exact I.call (g':=g') (t':=t') (d':=d') u hok hg KU
end
abbrev XK:=Value->Option Addr->Hp->Prop
abbrev St:=List (Option V)
abbrev VK:=V->Hp->Prop
abbrev TE:=St->Hp->VK->Prop
abbrev TT:=St->Hp->(Bool->Hp->Prop)->Prop
abbrev TA:=St->Hp->(List V->Hp->Prop)->Prop
structure Ends where
 nx:St->Hp->Prop
 rt:VK
 bk:St->Hp->Prop:=λ_ _=>False
 ct:St->Hp->Prop:=λ_ _=>False
abbrev TS:=Ends->St->Hp->Prop
noncomputable def EP (X:Cx)(pins:List (Addr × Obj))(σ:St)(Q:VK)(u:Value)(s':Shared):Prop:=∃ v H',Inv X pins σ H' s'/\RelV v u/\Q v H'
noncomputable def TP (X:Cx)(pins:List (Addr × Obj))(σ:St)(Q:Bool->Hp->Prop)(b:Bool)(s':Shared):Prop:=∃ H',Inv X pins σ H' s'/\Q b H'
noncomputable def AP (X:Cx)(pins:List (Addr × Obj))(σ:St)(Q:List V->Hp->Prop)(us:List Value)(s':Shared):Prop:=∃ vs H',Inv X pins σ H' s'/\Vals vs us/\Q vs H'
noncomputable def SP (X:Cx)(pins:List (Addr × Obj))(D:Ends)(f:Flow)(s':Shared):Prop :=
 match f with
 | .next=>∃ σ' H',Inv X pins σ' H' s'/\D.nx σ' H'
 | .brk=>∃ σ' H',Inv X pins σ' H' s'/\D.bk σ' H'
 | .cont=>∃ σ' H',Inv X pins σ' H' s'/\D.ct σ' H'
 | .ret u=>∃ v σ' H',Inv X pins σ' H' s'/\RelV v u/\D.rt v H'
noncomputable def PE (X:Cx)(e:Expr)(t:TE):Prop :=
 ∀ (pins:List (Addr × Obj)) (s:Shared) (σ:St) (H:Hp) (Q:VK),Inv X pins σ H s->t σ H Q->wpAny (model X.prog X.w) X.A (eval e X.env) (EP X pins σ Q) X.xe s
noncomputable def PT (X:Cx)(e:Expr)(t:TT):Prop :=
 ∀ (pins:List (Addr × Obj)) (s:Shared) (σ:St) (H:Hp) (Q:Bool->Hp->Prop),Inv X pins σ H s->t σ H Q->wpAny (model X.prog X.w) X.A (isTrue e X.env (eval e X.env)) (TP X pins σ Q) X.xe s
noncomputable def PW (X:Cx)(e:Expr)(t:TT):Prop :=
 ∀ (whole:Sem Value) (pins:List (Addr × Obj)) (s:Shared) (σ:St) (H:Hp) (Q:Bool->Hp->Prop),Inv X pins σ H s->t σ H Q->wpAny (model X.prog X.w) X.A (isTrue e X.env whole) (TP X pins σ Q) X.xe s
theorem PW.pt {X:Cx}{e:Expr}{t:TT}(h:PW X e t):PT X e t:=h _
noncomputable def PA (X:Cx)(es:List Expr)(t:TA):Prop :=
 ∀ (pos:Pos) (pins:List (Addr × Obj)) (s:Shared) (σ:St) (H:Hp) (Q:List V->Hp->Prop),Inv X pins σ H s->t σ H Q->wpAny (model X.prog X.w) X.A (spliced (backTo pos (starEach es X.env))) (AP X pins σ Q) X.xe s
noncomputable def PS (X:Cx)(st:Stmt)(t:TS):Prop :=
 ∀ (pins:List (Addr × Obj)) (s:Shared) (σ:St) (H:Hp) (D:Ends),Inv X pins σ H s->t D σ H->wpAny (model X.prog X.w) X.A (exec st X.env) (SP X pins D) X.xe s
noncomputable def L7 (X:Cx)(st:List Stmt)(t:TS):Prop :=
 ∀ (pins:List (Addr × Obj)) (s:Shared) (σ:St) (H:Hp) (D:Ends),Inv X pins σ H s->t D σ H->wpAny (model X.prog X.w) X.A (execs st X.env) (SP X pins D) X.xe s
theorem AX {α:Type}{t:Sem α}{Q Q':α->Shared->Prop}{M:Model}{A:Around}{E:Value->Shared->Prop}{s:Shared}(h:wpAny M A t Q E s)(hQ:∀ a s,Q a s->Q' a s):wpAny M A t Q' E s:=wpAny_mono h hQ λ_ _ x=>x
section
variable {X:Cx}
theorem bin {a b:Expr}{ta tb:TE}(ha:PE X a ta)(hb:PE X b tb){pins:List (Addr × Obj)}{s:Shared}{σ:St}{H:Hp}{R:V->V->Hp->Prop}(I:Inv X pins σ H s)(h:ta σ H λx H1=>tb σ H1 λy H2=>R x y H2)
  {α:Type} {Q:α->Shared->Prop} {f:Value->Value->Sem α}
  (hf:∀ v u s2 x y H2,Inv X pins σ H2 s2->RelV x v->RelV y u->R x y H2->wpAny (model X.prog X.w) X.A (f v u) Q X.xe s2) :
  wpAny (model X.prog X.w) X.A (eval a X.env) (λv s₁=>wpAny (model X.prog X.w) X.A (eval b X.env) (λu s₂=>wpAny (model X.prog X.w) X.A (f v u) Q X.xe s₂) X.xe s₁) X.xe s:=by
 refine AX (ha pins s σ H _ I h) λv s1 AO=>?_;obtain ⟨x,H1,I1,r1,q1⟩:=AO;refine AX (hb pins s1 σ H1 _ I1 q1) λu s2 AO=>?_;obtain ⟨y,H2,I2,r2,q2⟩:=AO;exact hf v u s2 x y H2 I2 r1 r2 q2
noncomputable def B2 (i:Nat):TE:=fun σ H Q=>∃ v,σ[i]?=some (some v)/\Q v H
noncomputable def tC (v:V):TE:=λ_ H Q=>Q v H
theorem L8 {i:Nat}{x:Str}{pos:Pos}(hN:X.N[i]?=some x)(hv:Uv X.env.scope x)(hd:(x==("__debug__":Str))=false:=by decide)(Gy:(x==("__classdict__":Str))=false:=by decide):PE X (.Name x pos) (B2 i):=by
 intro pins s σ H Q I h;obtain ⟨v,e,h⟩:=h;obtain ⟨m,hn,hl⟩:=I.loc;obtain ⟨u,r,l⟩:=hl i x v hN e hv;have fin:EP X pins σ Q u s:=⟨v,H,I,r,h⟩;rcases l with ⟨hk,hm⟩ | ⟨hk,c,hc,Ux⟩
 ·exact wpAny_Name (wpAny_loadName_local I.ok.kind hk hn hm fin) hd
 ·rcases hk with hk | hk
  ·exact wpAny_Name (wpAny_loadName_cell I.ok.kind hk hc Ux fin) hd
  ·exact wpAny_Name (wpAny_loadName_free I.ok.kind hk hc Ux fin Gy) hd
theorem D8 {i j pos}:PE X (.Constant (.int i) j pos) (tC (.int i)):=λ_ _ _ H _ I h=>wpAny_Constant_int ⟨.int i,H,I.tok _,⟨_,rfl⟩,h⟩
theorem Zo {b j pos}:PE X (.Constant (.bool b) j pos) (tC (.bl b)):=λ_ _ _ H _ I h=>Constant_bool ⟨.bl b,H,I,rfl,h⟩
theorem VB {j pos}:PE X (.Constant .none j pos) (tC .non):=λ_ _ _ H _ I h=>Constant_none ⟨.non,H,I,rfl,h⟩
theorem VC {x j pos}:PE X (.Constant (.str x) j pos) (tC (.str x)):=λ_ _ _ H _ I h=>Calls.Constant_str ⟨.str x,H,I.tok _,⟨_,rfl⟩,h⟩
noncomputable def Gl (X:Cx)(x:Str):Prop:=X.env.kindOf x=some .globalImplicit
theorem ER {E:Value->Shared->Prop}{pins:List (Addr × Obj)}{s:Shared}{σ:St}{H:Hp}{x:Str}{u:Value}{pos:Pos}{Q:Value->Shared->Prop}(I:Inv X pins σ H s)(hg:Gl X x)(hm:X.mg x=some u)(h:Q u s)
  (hd:(x==("__debug__":Str))=false:=by decide):wpAny (model X.prog X.w) X.A (eval (.Name x pos) X.env) Q E s :=
 Calls.Name_function_global I.ok.kind hg (Calls.loadGlobal_global (by rw [I.ok.glob];exact I.mod.glob.keeps I.bk) hm h) hd
theorem Dt {E:Value->Shared->Prop}{pins:List (Addr × Obj)}{s:Shared}{σ:St}{H:Hp}{x:Str}{u:Value}{pos:Pos}{Q:Value->Shared->Prop}(I:Inv X pins σ H s)(hg:Gl X x)(hm:X.mg x=none)(hv:bootBuiltins x=some u)(h:Q u s)
  (hn:x≠"__name__":=by decide) (hd:(x==("__debug__":Str))=false:=by decide):wpAny (model X.prog X.w) X.A (eval (.Name x pos) X.env) Q E s:=by
 obtain ⟨mb,h1,h2⟩:=I.mod.blt;exact Calls.Name_function_global I.ok.kind hg (Calls.loadGlobal_builtin (by rw [I.ok.glob];exact I.mod.glob.keeps I.bk) hm (by rw [I.ok.blt];exact h1.keeps I.bk) ((h2 x hn).trans hv) h) hd
theorem Gb {x:Str}{v:V}{u:Value}{pos:Pos}(hg:Gl X x)(hm:X.mg x=some u)(r:RelV v u)(hd:(x==("__debug__":Str))=false:=by decide):PE X (.Name x pos) (tC v) :=
 λ_ _ _ H _ I h=>ER I hg hm ⟨v,H,I,r,h⟩ hd
theorem RZ {x:Str}{v:V}{u:Value}{pos:Pos}(hg:Gl X x)(hm:X.mg x=none)(hv:bootBuiltins x=some u)(r:RelV v u)(hn:x≠"__name__":=by decide)(hd:(x==("__debug__":Str))=false:=by decide):PE X (.Name x pos) (tC v) :=
 λ_ _ _ H _ I h=>Dt I hg hm hv ⟨v,H,I,r,h⟩ hn hd
variable {a b:Expr}{ta tb:TE}{pos:Pos}
noncomputable def PC (X:Cx)(op:CmpOp)(a b:Expr)(t:TE):Prop :=
 ∀ (pins:List (Addr × Obj)) (s:Shared) (σ:St) (H:Hp) (Q:VK),Inv X pins σ H s->t σ H Q ->
  wpAny (model X.prog X.w) X.A (eval a X.env) (λv s₁=>wpAny (model X.prog X.w) X.A (eval b X.env) (λu s₂=>wpAny (model X.prog X.w) X.A (compareOp op v u) (EP X pins σ Q) X.xe s₂) X.xe s₁) X.xe s
theorem Gz (b:Expr){op:CmpOp}(h:op≠.In)(h2:op≠.NotIn):behindInMarks op b=false:=by
 have e1:(op==CmpOp.In)=false:=by cases op <;> first | rfl | exact absurd rfl h
 have e2:(op==CmpOp.NotIn)=false:=by cases op <;> first | rfl | exact absurd rfl h2
 cases b <;> simp [behindInMarks,e1,e2]
noncomputable def tB (t:TE):TT:=fun σ H Q=>t σ H λx H1=>∃ c,x=.bl c/\Q c H1
theorem VD {op:CmpOp}{t:TE}(h:PC X op a b t)(h1:behindInMarks op b=false:=by exfalso):PE X (.Compare a [op] [b] pos) t:=λpins s σ H Q I hw=>wpAny_Compare1 (h pins s σ H Q I hw) h1
theorem VE {op:CmpOp}{t:TE}(h:PC X op a b t)(h1:behindInMarks op b=false:=by exfalso):PT X (.Compare a [op] [b] pos) (tB t):=by
 intro pins s σ H Q I hw;refine wpAny_isTrue_Compare1 (AX (h pins s σ H _ I hw) λv s1 h1=>AX h1 λu s2 h2=>AX h2 λc s3 AO=>?_) h1;obtain ⟨x,H1,I1,r1,q1⟩:=AO;obtain ⟨d,rfl,q⟩:=q1;cases r1;exact wpAny_truthy_bool ⟨H1,I1,q⟩
theorem VF {e:Expr}{t:TE}(h:PE X e t)(he:∀ whole,isTrue e X.env whole=(do let v <- whole;standAt e.pos;holding [v] (truthy v)):=by intro _;rfl):PT X e (tB t):=by
 intro pins s σ H Q I hw;refine isTrue_plain (AX (h pins s σ H _ I hw) λv s1 AO=>?_) (he _);obtain ⟨x,H1,I1,r1,q1⟩:=AO;obtain ⟨d,rfl,q⟩:=q1;cases r1;exact wpAny_truthy_bool ⟨H1,I1,q⟩
variable {tA R':TT}{rest:List Expr}
noncomputable def VG (t u:TT):TT:=fun σ H Q=>t σ H λc H1=>if c=true then u σ H1 Q else Q false H1
noncomputable def gH (t u:TT):TT:=fun σ H Q=>t σ H λc H1=>if c=true then Q true H1 else u σ H1 Q
noncomputable def VH (t:TT):TT:=fun σ H Q=>t σ H λc H1=>Q (!c) H1
theorem S0 (ha:PT X a tA):PW X (.BoolOp .And [a] pos) tA:=by
 intro wh pins s σ H Q I h;refine isTrue_and (AX (ha pins s σ H Q I h) λc s1 e=>?_);cases c with
 | true=>exact isTrue_and_nil e
 | false=>exact e
theorem VI (ha:PT X a tA):PW X (.BoolOp .Or [a] pos) tA:=by
 intro wh pins s σ H Q I h;refine isTrue_or (AX (ha pins s σ H Q I h) λc s1 e=>?_);cases c with
 | false=>exact isTrue_or_nil e
 | true=>exact e
theorem VJ (ha:PT X a tA)(hb:PW X (.BoolOp .And (b::rest) pos) R'):PW X (.BoolOp .And (a::b::rest) pos) (VG tA R'):=by
 intro wh pins s σ H Q I h;refine isTrue_and (AX (ha pins s σ H _ I h) λc s1 AO=>?_);obtain ⟨H1,I1,q1⟩:=AO;cases c with
 | true=>exact hb wh pins s1 σ H1 Q I1 q1
 | false=>exact ⟨H1,I1,q1⟩
theorem Zp (ha:PT X a tA)(hb:PW X (.BoolOp .Or (b::rest) pos) R'):PW X (.BoolOp .Or (a::b::rest) pos) (gH tA R'):=by
 intro wh pins s σ H Q I h;refine isTrue_or (AX (ha pins s σ H _ I h) λc s1 AO=>?_);obtain ⟨H1,I1,q1⟩:=AO;cases c with
 | true=>exact ⟨H1,I1,q1⟩
 | false=>exact hb wh pins s1 σ H1 Q I1 q1
theorem VL (ha:PT X a tA):PT X (.UnaryOp .Not a pos) (VH tA):=by
 intro pins s σ H Q I h;exact isTrue_not (ha pins s σ H (λc H1=>Q (!c) H1) I h)
noncomputable def OL (ta tb:TE):TE:=fun σ H Q=>ta σ H λx H1=>∃ c,x=.bl c/\if c=true then tb σ H1 Q else Q (.bl false) H1
noncomputable def OM (ta:TE):TE:=fun σ H Q=>ta σ H λx H1=>∃ c,x=.bl c/\Q (.bl (!c)) H1
theorem VM {op}{t:TE}(h:PE X a t):PE X (.BoolOp op [a] pos) t:=λpins s σ H Q I hw=>BoolOp_one (h pins s σ H Q I hw)
theorem VN (ha:PE X a ta)(hb:PE X (.BoolOp .And (b::rest) pos) tb):PE X (.BoolOp .And (a::b::rest) pos) (OL ta tb):=by
 intro pins s σ H Q I h;refine BoolOp_and (AX (ha pins s σ H _ I h) λv s1 AO=>?_);obtain ⟨x,H1,I1,r1,q1⟩:=AO;obtain ⟨c,rfl,q1⟩:=q1;cases r1;refine wpAny_truthy_bool ?_;cases c with
 | true=>exact hb pins s1 σ H1 Q I1 q1
 | false=>exact ⟨.bl false,H1,I1,rfl,q1⟩
theorem VO (ha:PE X a ta):PE X (.UnaryOp .Not a pos) (OM ta):=by
 intro pins s σ H Q I h;refine UnaryOp_ (AX (ha pins s σ H _ I h) λv s1 AO=>?_);obtain ⟨x,H1,I1,r1,q1⟩:=AO;obtain ⟨c,rfl,q1⟩:=q1;cases r1;exact not_of (wpAny_truthy_bool ⟨.bl (!c),H1,I1,rfl,q1⟩)
noncomputable def gJ (t:TT)(ta tb:TE):TE:=fun σ H Q=>t σ H λc H1=>if c=true then ta σ H1 Q else tb σ H1 Q
theorem ON {c:Expr}(hc:PT X c tA)(ha:PE X a ta)(hb:PE X b tb):PE X (.IfExp c a b pos) (gJ tA ta tb):=by
 intro pins s σ H Q I h;refine wpAny_IfExp (AX (hc pins s σ H _ I h) λd s1 AO=>?_);obtain ⟨H1,I1,q1⟩:=AO;cases d with
 | true=>exact ha pins s1 σ H1 Q I1 q1
 | false=>exact hb pins s1 σ H1 Q I1 q1
end
noncomputable def AI (K:W.Frag)(H:Hp)(a:Addr)(xs:List V):Prop :=
 Rd H a (.lst xs) \/
  ∃ (o:Obj) (its:Array Value) (n:Nat),K.lookup a=some o/\o.cls=.type "list"/\o.dict=none/\o.data=.seq its n/\its.size<=sizeLine/\Vals xs its.toList
noncomputable def B0 (K:W.Frag)(H:Hp)(a:Addr)(xs:List V):Prop :=
 Rd H a (.tup xs) \/
  ∃ (o:Obj) (its:Array Value) (n:Nat),K.lookup a=some o/\o.cls=.type "tuple"/\o.data=.seq its n/\its.size<=sizeLine/\Vals xs its.toList
noncomputable def gK:Value->Option V
 | .none=>some .non
 | .bool b=>some (.bl b)
 | .int i _=>some (.int i)
 | .str x _=>some (.str x)
 | .bytes b _=>some (.byt b)
 | .float b _=>some (.flt b)
 | .ref a=>some (.ref a)
 | .type n=>some (.ty n)
 | _=>none
theorem RelV.abs {x:V}{u:Value}(r:RelV x u):gK u=some x:=by
 cases x with
 | non=>cases r;rfl
 | bl _=>cases r;rfl
 | int _=>obtain ⟨t,rfl⟩:=r;rfl
 | str _=>obtain ⟨t,rfl⟩:=r;rfl
 | byt _=>obtain ⟨t,rfl⟩:=r;rfl
 | flt _=>obtain ⟨t,rfl⟩:=r;rfl
 | ref _=>cases r;rfl
 | ty _=>cases r;rfl
theorem RelV.inj {x y:V}{u:Value}(r:RelV x u)(q:RelV y u):x=y:=Option.some.inj (r.abs.symm.trans q.abs)
theorem Vals.inj:∀ {xs ys:List V} {us:List Value},Vals xs us->Vals ys us->xs=ys:=by
 intro xs ys us h
 revert ys
 induction h with
 | nil=>intro ys k;cases k;rfl
 | cons r _ ih =>
  intro ys k;cases k with
  | cons r' t'=>rw [r.inj r',ih t']
section
variable {X:Cx}{pins:List (Addr × Obj)}{σ:St}{H:Hp}{s:Shared}{a:Addr}{xs ys:List V}
theorem AI.of {K:W.Frag}(h:H a=some (.lst xs)):AI K H a xs:=.inl (.inl h)
theorem B0.of {K:W.Frag}(h:H a=some (.tup xs)):B0 K H a xs:=.inl (.inl h)
theorem Inv.list (I:Inv X pins σ H s)(h:AI X.K H a xs):∃ its:List Value,Vals xs its/\PlainL s.heap a its.toArray/\xs.length<=sizeLine:=by
 rcases h with h | ⟨o,its,n,hk,hc,hd,hs,hz,r⟩
 ·obtain ⟨z,its,n,r,e⟩:=h.ok I.hok;exact ⟨its,r,⟨_,n,e,rfl,rfl,rfl⟩,z⟩
 ·refine ⟨its.toList,r,⟨o,n,I.kIn a o hk,hc,hd,by simpa using hs⟩,?_⟩;have e:=r.length;simp only [Array.length_toList] at e;omega
theorem Inv.tuple (I:Inv X pins σ H s)(h:B0 X.K H a xs):∃ its:List Value,Vals xs its/\IsTup s.heap a its.toArray/\xs.length<=sizeLine:=by
 rcases h with h | ⟨o,its,n,hk,hc,hs,hz,r⟩
 ·obtain ⟨z,its,r,p⟩:=h.ok I.hok;exact ⟨its,r,p,z⟩
 ·refine ⟨its.toList,r,⟨o,I.kIn a o hk,hc,n,by simpa using hs⟩,?_⟩;have e:=r.length;simp only [Array.length_toList] at e;omega
theorem Inv.aa7 (I:Inv X pins σ H s)(h:AI X.K H a xs)(h':AI X.K H a ys):xs=ys:=by
 obtain ⟨its,r,⟨o,n,e,_,_,d⟩,_⟩:=I.list h;obtain ⟨its',r',⟨o',n',e',_,_,d'⟩,_⟩:=I.list h';rw [e] at e';cases e';rw [d] at d';injection d' with d1 _;have:its=its':=by simpa using congrArg Array.toList d1
 subst this;exact r.inj r'
theorem Inv.aav (I:Inv X pins σ H s)(h:B0 X.K H a xs)(h':B0 X.K H a ys):xs=ys:=by
 obtain ⟨its,r,⟨o,e,_,n,d⟩,_⟩:=I.tuple h;obtain ⟨its',r',⟨o',e',_,n',d'⟩,_⟩:=I.tuple h';rw [e] at e';cases e';rw [d] at d';injection d' with d1 _;have:its=its':=by simpa using congrArg Array.toList d1
 subst this;exact r.inj r'
end
abbrev Cx.aar (X:Cx)(E:Value->Shared->Prop):Cx:={ X with xe:=E }
abbrev Cx.nox (X:Cx):Cx:=X.aar λ_ _=>False
theorem Cx.Ok.aar {X:Cx}(ok:X.Ok)(E:Value->Shared->Prop):(X.aar E).Ok :=
 ⟨ok.mod,ok.kind,ok.glob,ok.blt,ok.above,ok.inj,ok.has,ok.cab,ok.hd,ok.frames,ok.stk,ok.exf,ok.bs,ok.bsz,ok.abr,ok.abt,ok.aa6,ok.frf⟩
theorem Cx.Ok.aad {X:Cx}{E:Value->Shared->Prop}(ok:(X.aar E).Ok):X.Ok :=
 ⟨ok.mod,ok.kind,ok.glob,ok.blt,ok.above,ok.inj,ok.has,ok.cab,ok.hd,ok.frames,ok.stk,ok.exf,ok.bs,ok.bsz,ok.abr,ok.abt,ok.aa6,ok.frf⟩
section
variable {X:Cx}{pins:List (Addr × Obj)}{σ:St}{H:Hp}{s:Shared}{E:Value->Shared->Prop}
theorem Inv.aar (I:Inv X pins σ H s)(E:Value->Shared->Prop):Inv (X.aar E) pins σ H s:=⟨I.ok.aar E,I.os,I.bare,I.base,I.loc,I.cell,I.free,I.aaf,I.pin,I.hok,I.len⟩
theorem Inv.aad (I:Inv (X.aar E) pins σ H s):Inv X pins σ H s:=⟨I.ok.aad,I.os,I.bare,I.base,I.loc,I.cell,I.free,I.aaf,I.pin,I.hok,I.len⟩
theorem SP.aad {D:Ends}{f:Flow}{s':Shared}(h:SP (X.aar E) pins D f s'):SP X pins D f s':=by
 cases f with
 | next=>obtain ⟨σ',H',I,q⟩:=h;exact ⟨σ',H',I.aad,q⟩
 | brk=>obtain ⟨σ',H',I,q⟩:=h;exact ⟨σ',H',I.aad,q⟩
 | cont=>obtain ⟨σ',H',I,q⟩:=h;exact ⟨σ',H',I.aad,q⟩
 | ret u=>obtain ⟨v,σ',H',I,r,q⟩:=h;exact ⟨v,σ',H',I.aad,r,q⟩
theorem L7.nox {st:List Stmt}{t:TS}(h:L7 X.nox st t):L7 X st t:=λpins s σ H D I hw =>
 wpAny_mono (h pins s σ H D (I.aar _) hw) (λ_ _ q=>q.aad) λ_ _ z=>False.elim z
end
section
variable {X:Cx}{st:Stmt}{rest:List Stmt}{t u:TS}{e:Expr}{te:TE}{pos:Pos}
noncomputable def Mc:TS:=λD σ H=>D.nx σ H
noncomputable def Bp (t u:TS):TS:=λD σ H=>t { D with nx:=u D } σ H
theorem Md:L7 X [] Mc:=λ_ _ σ H _ I h=>wpAny_execs_nil ⟨σ,H,I,h⟩
theorem ES (h1:PS X st t)(h2:L7 X rest u):L7 X (st::rest) (Bp t u):=by
 intro pins s σ H D I h;refine wpAny_execs_cons (AX (h1 pins s σ H { D with nx:=u D } I h) λf s1 q=>?_);cases f with
 | next =>
  obtain ⟨σ',H',I',q⟩:=q;exact h2 pins s1 σ' H' D I' q
 | ret v=>exact q
 | brk=>exact q
 | cont=>exact q
theorem Ge (h1:PS X st t):L7 X [st] t:=by
 intro pins s σ H D I h;refine wpAny_execs_cons (AX (h1 pins s σ H D I h) λf s1 q=>?_);cases f with
 | next=>exact wpAny_execs_nil q
 | ret v=>exact q
 | brk=>exact q
 | cont=>exact q
theorem Inv.quiet {pins:List (Addr × Obj)}{σ:St}{H:Hp}{s:Shared}(I:Inv X pins σ H s):interactive X.env=false:=by simp [interactive,I.ok.kind]
noncomputable def Me (te:TE):TS:=λD σ H=>te σ H λ_ H1=>D.nx σ H1
theorem S1 (he:PE X e te)(hs:swapsWith e none pos.line X.env=pure false:=by rfl):PS X (.Expr e pos) (Me te):=by
 intro pins s σ H D I h;exact wpAny_Expr_any (AX (he pins s σ H _ I h) λv s1 ⟨x,H1,I1,r1,q1⟩=>⟨σ,H1,I1,q1⟩) I.quiet hs
noncomputable def S3 (te:TE):TS:=λD σ H=>te σ H D.rt
theorem IS (he:PE X e te):PS X (.Return (some e) pos) (S3 te):=by
 intro pins s σ H D I h;exact wpAny_Return_some (AX (he pins s σ H _ I h) λv s1 ⟨x,H1,I1,r1,q1⟩=>⟨x,σ,H1,I1,r1,q1⟩)
noncomputable def OO (c:TT)(t u:TS):TS:=λD σ H=>c σ H λb H1=>if b=true then t D σ H1 else u D σ H1
theorem Uy {c:Expr}{a b:List Stmt}{tc:TT}(hc:PT X c tc)(ha:L7 X a t)(hb:L7 X b u):PS X (.If c a b pos) (OO tc t u):=by
 intro pins s σ H D I h;refine wpAny_If (AX (hc pins s σ H _ I h) λd s1 AO=>?_);obtain ⟨H1,I1,q1⟩:=AO;cases d with
 | true=>exact ha pins s1 σ H1 D I1 q1
 | false=>exact hb pins s1 σ H1 D I1 q1
end
abbrev TG:=V->St->Hp->(St->Hp->Prop)->Prop
abbrev RF:=List V->St->Hp->(St->Hp->Prop)->Prop
noncomputable def PG (X:Cx)(target:Expr)(t:TG):Prop :=
 ∀ (pins:List (Addr × Obj)) (s:Shared) (σ:St) (H:Hp) (v:V) (u:Value) (Q:St->Hp->Prop),Inv X pins σ H s->RelV v u->t v σ H Q ->
  wpAny (model X.prog X.w) X.A (assign target X.env u) (λ_ s'=>∃ σ' H',Inv X pins σ' H' s'/\Q σ' H') X.xe s
noncomputable def Zq (X:Cx)(ts:List Expr)(t:RF):Prop :=
 ∀ (pins:List (Addr × Obj)) (s:Shared) (σ:St) (H:Hp) (vs:List V) (us:List Value) (Q:St->Hp->Prop),Inv X pins σ H s->Vals vs us->t vs σ H Q ->
  wpAny (model X.prog X.w) X.A (assignInOrder ((assignEach ts X.env).map (·.2)) us) (λ_ s'=>∃ σ' H',Inv X pins σ' H' s'/\Q σ' H') X.xe s
abbrev OQ:=V->V->V->Hp->(Hp->Prop)->Prop
noncomputable def VP (X:Cx)(t:OQ):Prop :=
 ∀ (pins:List (Addr × Obj)) (s:Shared) (σ:St) (H:Hp) (o i v:V) (ov iv u:Value) (Q:Hp->Prop),Inv X pins σ H s->RelV o ov->RelV i iv->RelV v u->t o i v H Q ->
  wpAny (model X.prog X.w) X.A (setItem ov iv u) (λ_ s'=>∃ H',Inv X pins σ H' s'/\Q H') X.xe s
section
variable {X:Cx}{pos:Pos}
noncomputable def BP (i:Nat):TG:=λv σ H Q=>Q (σ.set i (some v)) H
theorem S4 {i:Nat}{x:Str}(hN:X.N.Nodup)(hi:X.N[i]?=some x)(hx:Loc X.env.scope x)(hf:X.fn x=true\/X.env.scope.names.lookup x=some .local:=by exfalso):PG X (.Name x pos) (BP i):=by
 intro pins s σ H v u Q I r h;exact wpAny_assign_Name (Cu I hN hi hx r (λs' I'=>⟨_,H,I',h⟩) hf)
noncomputable def Ng:RF:=λvs σ H Q=>vs=[]/\Q σ H
noncomputable def El (t:TG)(u:RF):RF:=λvs σ H Q=>∃ v r,vs=v::r/\t v σ H fun σ' H'=>u r σ' H' Q
theorem S5:Zq X [] Ng:=by
 intro pins s σ H vs us Q I r h;obtain ⟨e,h⟩:=h;subst e;cases r;exact assignInOrder_nil ⟨σ,H,I,h⟩
theorem OR {e:Expr}{es:List Expr}{t:TG}{u:RF}(h1:PG X e t)(h2:Zq X es u)
  (hs:(assignEach (e::es) X.env).map (·.2)=assign e X.env::(assignEach es X.env).map (·.2):=by rfl):Zq X (e::es) (El t u):=by
 intro pins s σ H vs us Q I r h;obtain ⟨v,vr,e1,h⟩:=h;subst e1;cases r with
 | cons r rr =>
  rw [hs];refine assignInOrder_cons (AX (h1 pins s σ H _ _ _ I r h) λ_ s1 AO=>?_);obtain ⟨σ1,H1,I1,q1⟩:=AO;exact h2 pins s1 σ1 H1 _ _ Q I1 rr q1
noncomputable def Nh (K:W.Frag)(n:Nat)(t:RF):TG:=λv σ H Q=>∃ a xs,v=.ref a/\B0 K H a xs/\xs.length=n/\t xs σ H Q
theorem VQ {es:List Expr}{k:Nat}{t:RF}{n:Nat}(hc:X.calm=true)(h:Zq X es t)
  (hn:(assignEach es X.env).length=n:=by rfl) (OS:(assignEach es X.env).findIdx? (·.1)=none:=by rfl):PG X (.Tuple es k pos) (Nh X.K n t):=by
 intro pins s σ H v u Q I r hw;obtain ⟨a,xs,e1,hq,hl,hw⟩:=hw;subst e1;cases r;obtain ⟨its,rv,ht,hz⟩:=I.tuple hq;refine assign_Tuple_tuple (I.ok.hd hc) ht (by simp [hn,<- hl,rv.length]) OS λh' hx=>?_;have I1:Inv X pins σ H { s with heap:=h' }:=I.kept (t':=s.toks) λb o e=>hx b o (Nat.ne_of_lt (Heap.lt_size e)) e;exact h pins _ σ H xs _ Q I1 (by simpa using rv) hw
noncomputable def VR (to ti:TE)(t:OQ):TG:=λv σ H Q=>to σ H λo H1=>ti σ H1 λi H2=>t o i v H2 λH3=>Q σ H3
theorem VS {o i:Expr}{to ti:TE}{t:OQ}(ho:PE X o to)(hi:PE X i ti)(hs:VP X t)
  (ha:∀ v,assign (.Subscript o i pos) X.env v=(do
   let ov <- holding [v] (eval o X.env)
   let iv <- holding [v,ov] (eval i X.env)
   standAt pos
   holding [v,ov,iv] (setItem ov iv v)
   release [v,ov,iv] []):=by intro _;rfl):PG X (.Subscript o i pos) (VR to ti t):=by
 intro pins s σ H v u Q I r h;rw [ha];refine wpAny_bind (wpAny_holding (AX (ho pins s σ H _ I h) λov s1 AO=>?_));obtain ⟨x,H1,I1,r1,q1⟩:=AO;refine wpAny_bind (wpAny_holding (AX (hi pins s1 σ H1 _ I1 q1) λiv s2 AO=>?_));obtain ⟨y,H2,I2,r2,q2⟩:=AO;refine wpAny_bind (wpAny_standAt (wpAny_bind (wpAny_holding (AX (hs pins s2 σ H2 x y v ov iv u _ I2 r1 r2 r q2) λ_ s3 AO=>?_))));obtain ⟨H3,I3,q3⟩:=AO;exact wpAny_release ⟨σ,H3,I3,q3⟩
noncomputable def L9 (te:TE)(g:TG):TS:=λD σ H=>te σ H λx H1=>g x σ H1 D.nx
theorem VT {tg e:Expr}{te:TE}{g:TG}(he:PE X e te)(hg:PG X tg g)(hs:swapsWithSole [tg] e pos.line X.env=pure false:=by rfl)(hw:swappedStores [tg] e X.env=pure none:=by rfl)
  (h1:(assignEach [tg] X.env).map (·.2)=[assign tg X.env]:=by rfl):PS X (.Assign [tg] e pos) (L9 te g):=by
 intro pins s σ H D I h;refine wpAny_Assign_stores (AX (he pins s σ H _ I h) λv s1 AO=>?_) hs hw;obtain ⟨x,H1,I1,r1,q1⟩:=AO;rw [h1];exact AX (hg pins s1 σ H1 x v _ I1 r1 q1) λ_ s2 q=>q
theorem La {i:Nat}{x:Str}{e:Expr}{te:TE}{pos':Pos}(hN:X.N.Nodup)(hi:X.N[i]?=some x)(hx:Loc X.env.scope x)(he:PE X e te)(hs:swapsWith e (some (.Name x pos')) pos.line X.env=pure false:=by rfl)(hf:X.fn x=true\/X.env.scope.names.lookup x=some .local:=by exfalso):
  PS X (.Assign [.Name x pos'] e pos) (L9 te (BP i)):=by
 intro pins s σ H D I h;refine wpAny_Assign_Name (AX (he pins s σ H _ I h) λv s1 AO=>?_) hs;obtain ⟨y,H1,I1,r1,q1⟩:=AO;exact Cu I1 hN hi hx r1 (λs2 I2=>⟨_,H1,I2,q1⟩) hf
noncomputable def OU (c:TT)(tb:TS):TS:=λD σ H=>∃ W:Nat->St->Hp->Prop,(∃ m,W m σ H)/\∀ m σ H,W m σ H ->
 c σ H λb H1=>if b=true then ∃ N:St->Hp->Prop,(∀ σ' H',N σ' H'->∃ m',m' < m/\W m' σ' H')/\tb { D with nx:=N,ct:=N,bk:=D.nx } σ H1 else D.nx σ H1
theorem OV {c:Expr}{body:List Stmt}{tc:TT}{tb:TS}(hp:PassesOwn (model X.prog X.w) X.A X.env X.xe)(hc:PT X c tc)(hb:L7 X body tb):PS X (.While c body [] pos) (OU tc tb):=by
 intro pins s σ H D I h;obtain ⟨W,⟨m0,w0⟩,turn⟩:=h;refine wpAny_While (codeAny_whileLoop (λn s'=>∃ σ' H',Inv X pins σ' H' s'/\W n σ' H') ?_ m0 ⟨σ,H,I,w0⟩);rintro n s1 ⟨σ1,H1,I1,w1⟩;refine wpAny_passesOwn hp (AX (hc pins s1 σ1 H1 _ I1 (turn n σ1 H1 w1)) λb s2 AO=>?_);obtain ⟨H2,I2,q2⟩:=AO;cases b with
 | true =>
  obtain ⟨N,hN,q2⟩:=q2;rw [if_pos rfl];refine wpAny_passesOwn hp (AX (hb pins s2 σ1 H2 _ I2 q2) λf s3 q3=>?_);cases f with
  | next =>
   obtain ⟨σ3,H3,I3,n3⟩:=q3;obtain ⟨m',hm,w3⟩:=hN σ3 H3 n3;exact ⟨m',hm,σ3,H3,I3,w3⟩
  | cont =>
   obtain ⟨σ3,H3,I3,n3⟩:=q3;obtain ⟨m',hm,w3⟩:=hN σ3 H3 n3;exact ⟨m',hm,σ3,H3,I3,w3⟩
  | brk=>exact q3
  | ret v=>exact q3
 | false =>
  rw [if_neg Bool.false_ne_true];exact wpAny_execs_nil ⟨σ1,H2,I2,q2⟩
end
structure It where
 go:Nat->Hp->Prop
 yld:Nat->Hp->V->Hp->Prop
 stop:Nat->Hp->Prop
noncomputable def GA (X:Cx)(pins:List (Addr × Obj))(H:Hp)(b:Addr):Prop :=
 H b=none/\b≠X.env.locals/\b∉X.fs/\(b∈X.ex\/X.s₀.heap.objs.size<=b)/\(∀ x c,X.env.cells.lookup x=some c->c≠b)/\∀ p∈X.pn++pins,p.1≠b
theorem Inv.abh {X:Cx}{pins:List (Addr × Obj)}{σ:St}{H H':Hp}{s:Shared}{b:Addr}(I:Inv X pins σ H s)(hb:s.heap.objs.size<=b)(hn:H' b=none):GA X pins H' b:=by
 refine ⟨hn,Nat.ne_of_gt (Nat.lt_of_lt_of_le I.lt hb),I.ab0 hb,.inr (Nat.le_trans I.sz hb),λx c e z=>?_,λp hp z=>?_⟩
 ·obtain ⟨v,q⟩:=I.cell x c e;exact absurd (Nat.lt_of_lt_of_le q.lt (by rw [z];exact hb)) (Nat.lt_irrefl _)
 ·exact absurd (Nat.lt_of_lt_of_le (Heap.lt_size (I.pin p hp).1) (by rw [z];exact hb)) (Nat.lt_irrefl _)
structure Turn (P:Program)(w:World)(K:W.Frag)(tg:Expr)(J:It)(fp:List Addr)(it:Addr)(tn:Nat->Heap->Prop):Prop where
 mem:it∈fp
 obj:∀ i h,tn i h->∀ b∈fp,∃ o,h.get? b=some o/\∀ v,o.data≠.cell v
 keep:∀ i h h',tn i h->(∀ b∈fp,∀ o,h.get? b=some o->h'.get? b=some o)->tn i h'
 item:∀ (X:Cx),X.prog=P->X.w=w->X.K=K->X.calm=true->∀ (i:Nat) (pins:List (Addr × Obj)) (s:Shared) (σ:St) (H:Hp) (E:Value->Shared->Prop),Inv X pins σ H s->(∀ b∈fp,GA X pins H b)->tn i s.heap->J.go i H ->
  wpAny (model P w) X.A (pyNext (.ref it)) (λr s1=>∃ u,r=some u /\
   wpAny (model P w) X.A (letOwnedTupleGo tg (.ref it) u) (λ_ s2=>∃ x H',Inv X pins σ H' s2/\RelV x u/\J.yld i H x H'/\tn (i+1) s2.heap/\∀ b∈fp,H' b=none) E s1) E s
 done:∀ (X:Cx),X.prog=P->X.w=w->X.K=K->X.calm=true->∀ (i:Nat) (pins:List (Addr × Obj)) (s:Shared) (σ:St) (H:Hp) (E:Value->Shared->Prop),Inv X pins σ H s->(∀ b∈fp,GA X pins H b)->tn i s.heap->J.stop i H ->
  wpAny (model P w) X.A (pyNext (.ref it)) (λr s1=>r=none/\Inv X pins σ H s1) E s
 self:∀ (A:Around) (i:Nat) (s:Shared) (Q:Value->Shared->Prop) (E:Value->Shared->Prop),tn i s.heap->Q (.ref it) s->wpAny (model P w) A (pyIter (.ref it)) Q E s
abbrev TI:=St->Hp->(It->Hp->Prop)->Prop
noncomputable def nU (X:Cx)(pins:List (Addr × Obj))(σ:St)(tg:Expr)(R:It->Hp->Prop)(dI:Value)(s2:Shared):Prop :=
 ∃ (it:Addr) (fp:List Addr) (tn:Nat->Heap->Prop) (J:It) (H':Hp),dI=.ref it/\Inv X pins σ H' s2/\Turn X.prog X.w X.K tg J fp it tn/\tn 0 s2.heap/\(∀ b∈fp,GA X pins H' b)/\R J H'
noncomputable def PI (X:Cx)(tg iter:Expr)(wi:TI):Prop :=
 ∀ (pins:List (Addr × Obj)) (s:Shared) (σ:St) (H:Hp) (R:It->Hp->Prop),Inv X pins σ H s->wi σ H R ->
  wpAny (model X.prog X.w) X.A (eval iter X.env) (λv s1=>wpAny (model X.prog X.w) X.A (pyIter v) (nU X pins σ tg R) X.xe s1) X.xe s
theorem Mf {M:Model}{A:Around}{E:Value->Shared->Prop}{s:Shared}{tg:Expr}{it:Addr}{u:Value}{o:Obj}{n:String}{vs:Array Value}{Q:Unit->Shared->Prop}(ho:s.heap.get? it=some o)(hc:o.cls=.type n)(hd:o.data=.fields vs)
    (hn:["enumerate","zip","dict_itemiterator","dict_reverseitemiterator","odict_iterator","itertools.zip_longest","itertools.pairwise"].contains n=false) (hQ:Q .unit s):wpAny M A (letOwnedTupleGo tg (.ref it) u) Q E s:=by
  unfold letOwnedTupleGo;cases tg <;> first
    | exact wpAny_pure hQ
    | (cases u <;> first
        | exact wpAny_pure hQ
        | (refine wpAny_bind (wpAny_load ho ?_)
           rw [hc,hd];show wpAny M A (if (["enumerate","zip","dict_itemiterator","dict_reverseitemiterator","odict_iterator","itertools.zip_longest","itertools.pairwise"].contains n && vs[0]?==some (rawInt _))=true then _ else _) Q E s
           rw [if_neg (by intro h;rw [hn,Bool.false_and] at h;cases h)];exact wpAny_pure hQ))
noncomputable def Uz (K:W.Frag)(a:Addr):It :=
 ⟨λi H=>∃ xs x,AI K H a xs/\xs[i]?=some x,λi H x H'=>H'=H/\∀ xs,AI K H a xs->xs[i]?=some x,λi H=>∃ xs,AI K H a xs/\xs.length<=i⟩
noncomputable def VU (K:W.Frag)(a:Addr):It :=
 ⟨λi H=>∃ xs x,B0 K H a xs/\xs[i]?=some x,λi H x H'=>H'=H/\∀ xs,B0 K H a xs->xs[i]?=some x,λi H=>∃ xs,B0 K H a xs/\xs.length<=i⟩
noncomputable def S6 (lo:Int)(n:Nat):It:=⟨λi _=>i < n,λi H x H'=>H'=H/\x=.int (lo+i),λi _=>n<=i⟩
theorem Ni {P:Program}{w:World}{K:W.Frag}{tg:Expr}(a it:Addr):Turn P w K tg (Uz K a) [it] it (λi h=>h.IsListIter it a i) where
 mem:=by simp
 obj:=λi h st b hb=>by
  have e:b=it:=by simpa using hb
  subst e;obtain ⟨o,e,c,d⟩:=st;exact ⟨o,e,λv z=>by rw [d] at z;cases z⟩
 keep:=λi h h' st k=>st.at λo e=>k it (by simp) o e
 item:=by
  intro X hP hw hK hc i pins s σ H E I hf st hg;subst hP hw hK;obtain ⟨xs,x,hq,hx⟩:=hg;obtain ⟨its,rv,p,hz⟩:=I.list hq;obtain ⟨u,hu,ru⟩:=rv.get hx;obtain ⟨f0,f1,f2,f3,f4,f5⟩:=hf it (by simp);refine wpAny_pyNext_list_item st p.isList (x:=u) (by simpa using hu) λh' Mg sb=>?_;have I1:Inv X pins σ H { s with heap:=h' }:=I.turned (t':=s.toks) (λb o hb e=>(sb.2 b hb).trans e) f0 f1 f3 f4 f5;obtain ⟨o,e,c,d⟩:=id Mg;exact ⟨u,rfl,Mf (s:={ s with heap:=h' }) e c d ⟨⟩ ⟨x,H,I1,ru,⟨rfl,λys hy=>by rw [I.aa7 hy hq];exact hx⟩,Mg,λb hb=>(hf b hb).1⟩⟩
 done:=by
  intro X hP hw hK hc i pins s σ H E I hf st hg;subst hP hw hK;obtain ⟨xs,hq,hx⟩:=hg;obtain ⟨its,rv,p,hz⟩:=I.list hq;obtain ⟨f0,f1,f2,f3,f4,f5⟩:=hf it (by simp);have hl:=rv.length;exact wpAny_pyNext_list_end (I.ok.hd hc) st p.isList (by simp;omega) λh' eb=>⟨rfl,I.turned (t':=s.toks) (λb o hb e=>eb b o hb e) f0 f1 f3 f4 f5⟩
 self:=λ_ _ _ _ _ st h=>wpAny_pyIter_listiter st h
theorem Lb {P:Program}{w:World}{K:W.Frag}{tg:Expr}(a it:Addr):Turn P w K tg (VU K a) [it] it (λi h=>h.IsTupleIter it a i) where
 mem:=by simp
 obj:=λi h st b hb=>by
  have e:b=it:=by simpa using hb
  subst e;obtain ⟨o,e,c,d⟩:=st;exact ⟨o,e,λv z=>by rw [d] at z;cases z⟩
 keep:=λi h h' st k=>st.at λo e=>k it (by simp) o e
 item:=by
  intro X hP hw hK hc i pins s σ H E I hf st hg;subst hP hw hK;obtain ⟨xs,x,hq,hx⟩:=hg;obtain ⟨its,rv,p,hz⟩:=I.tuple hq;obtain ⟨u,hu,ru⟩:=rv.get hx;obtain ⟨f0,f1,f2,f3,f4,f5⟩:=hf it (by simp);refine wpAny_pyNext_tuple_item st (show s.heap.IsTuple a its.toArray from p) (x:=u) (by simpa using hu) λh' Mg sb=>?_;have I1:Inv X pins σ H { s with heap:=h' }:=I.turned (t':=s.toks) (λb o hb e=>(sb.2 b hb).trans e) f0 f1 f3 f4 f5;obtain ⟨o,e,c,d⟩:=id Mg;exact ⟨u,rfl,Mf (s:={ s with heap:=h' }) e c d ⟨⟩ ⟨x,H,I1,ru,⟨rfl,λys hy=>by rw [I.aav hy hq];exact hx⟩,Mg,λb hb=>(hf b hb).1⟩⟩
 done:=by
  intro X hP hw hK hc i pins s σ H E I hf st hg;subst hP hw hK;obtain ⟨xs,hq,hx⟩:=hg;obtain ⟨its,rv,p,hz⟩:=I.tuple hq;obtain ⟨f0,f1,f2,f3,f4,f5⟩:=hf it (by simp);have hl:=rv.length;exact wpAny_pyNext_tuple_end (I.ok.hd hc) st (show s.heap.IsTuple a its.toArray from p) (by simp;omega) λh' eb=>⟨rfl,I.turned (t':=s.toks) (λb o hb e=>eb b o hb e) f0 f1 f3 f4 f5⟩
 self:=λ_ _ _ _ _ st h=>wpAny_pyIter_tupleiter st h
theorem Lc {P:Program}{w:World}{K:W.Frag}{tg:Expr}(it:Addr)(lo:Int)(n:Nat):Turn P w K tg (S6 lo n) [it] it (λi h=>IsRangeIter h it (lo+(i:Nat) * 1) ((n:Int) - (i:Nat)) 1) where
 mem:=by simp
 obj:=λi h st b hb=>by
  have e:b=it:=by simpa using hb
  subst e;exact ⟨_,st,λv z=>by
   have z':Data.fields _=Data.cell v:=z;cases z'⟩
 keep:=λi h h' st k=>k it (by simp) _ st
 item:=by
  intro X hP hw hK hc i pins s σ H E I hf st hg;subst hP hw hK;obtain ⟨f0,f1,f2,f3,f4,f5⟩:=hf it (by simp);have W:=Walks.range (prog:=X.prog) (w:=X.w) (I.ok.hd hc) it lo 1 n;refine W.item i s _ _ hg st λv h' tk hv Mg kk=>?_;obtain ⟨t,rfl⟩:=hv;have I1:Inv X pins σ H { s with heap:=h',toks:=tk }:=I.turned (λb o hb e=>kk b o (by simpa using hb) e) f0 f1 f3 f4 f5;refine ⟨_,rfl,Mf (s:={ s with heap:=h',toks:=tk }) (n:="range_iterator") Mg rfl rfl ⟨⟩ ⟨.int (lo+i),H,I1,⟨t,?_⟩,⟨rfl,rfl⟩,Mg,λb hb=>(hf b hb).1⟩⟩;rw [Int.mul_one]
 done:=by
  intro X hP hw hK hc i pins s σ H E I hf st hg;subst hP hw hK;obtain ⟨f0,f1,f2,f3,f4,f5⟩:=hf it (by simp);exact wpAny_pyNext_range_end (I.ok.hd hc) st (by have:n<=i:=hg;omega) λh' eb=>⟨rfl,I.turned (t':=s.toks) (λb o hb e=>eb b o hb e) f0 f1 f3 f4 f5⟩
 self:=λ_ _ _ _ _ st h=>wpAny_pyIter_rangeiter st h
section
variable {X:Cx}{tg:Expr}
noncomputable def Mh (K:W.Frag)(tl:TE):TI:=fun σ H R=>tl σ H λx H1=>∃ a,x=.ref a/\(∃ xs,AI K H1 a xs)/\R (Uz K a) H1
noncomputable def VW (K:W.Frag)(tl:TE):TI:=fun σ H R=>tl σ H λx H1=>∃ a,x=.ref a/\(∃ xs,B0 K H1 a xs)/\R (VU K a) H1
theorem S7 {l:Expr}{tl:TE}(hl:PE X l tl):PI X tg l (Mh X.K tl):=by
 intro pins s σ H R I h;refine AX (hl pins s σ H _ I h) λv s1 AO=>?_;obtain ⟨x,H1,I1,r1,q1⟩:=AO;obtain ⟨a,e,⟨xs,hq⟩,q⟩:=q1;subst e;cases r1;obtain ⟨its,rv,p,hz⟩:=I1.list hq;refine wpAny_pyIter_list p.isList ?_;refine ⟨s1.heap.objs.size,[s1.heap.objs.size],_,_,H1,rfl,I1.kept (t':=s1.toks) λb o e=>Heap.get?_push_of_some _ e,Ni a _,⟨_,Heap.get?_push_size _ rfl,rfl,rfl⟩,λb hb=>?_,q⟩;have e:b=s1.heap.objs.size:=by simpa using hb
 subst e;exact I1.abh (Nat.le_refl _) (I1.hok.fresh (Nat.le_refl _))
theorem VX {l:Expr}{tl:TE}(hl:PE X l tl):PI X tg l (VW X.K tl):=by
 intro pins s σ H R I h;refine AX (hl pins s σ H _ I h) λv s1 AO=>?_;obtain ⟨x,H1,I1,r1,q1⟩:=AO;obtain ⟨a,e,⟨xs,hq⟩,q⟩:=q1;subst e;cases r1;obtain ⟨its,rv,p,hz⟩:=I1.tuple hq;refine wpAny_pyIter_tuple (show s1.heap.IsTuple a its.toArray from p) ?_;refine ⟨s1.heap.objs.size,[s1.heap.objs.size],_,_,H1,rfl,I1.kept (t':=s1.toks) λb o e=>Heap.get?_push_of_some _ e,Lb a _,⟨_,Heap.get?_push_size _ rfl,rfl,rfl⟩,λb hb=>?_,q⟩;have e:b=s1.heap.objs.size:=by simpa using hb
 subst e;exact I1.abh (Nat.le_refl _) (I1.hok.fresh (Nat.le_refl _))
theorem JD {pins:List (Addr × Obj)}{σ:St}{H:Hp}{s:Shared}{R:It->Hp->Prop}{E:Value->Shared->Prop}{lo hi:Int}{t u v:Tok}{tk:Nat}(I:Inv X pins σ H s)(h1:-(2 ^ 62)<=lo)(h2:lo < 2 ^ 62)(h3:-(2 ^ 62)<=hi)(h4:hi < 2 ^ 62)
  (q:R (S6 lo (hi - lo).toNat) H):wpAny (model X.prog X.w) X.A (pyIter (.ref s.heap.objs.size)) (nU X pins σ tg R) E { s with heap:=s.heap.push { cls:=.type "range",data:=.fields #[.int lo t,.int hi u,.int 1 v] },toks:=tk }:=by
 refine wpAny_pyIter_range (IsRange.new ..) (small_one h1 h2 h3 h4) ?_;have I1:Inv X pins σ H { s with heap:=s.heap.push { cls:=.type "range",data:=.fields #[.int lo t,.int hi u,.int 1 v] },toks:=tk }:=I.kept λb o e=>Heap.get?_push_of_some _ e;refine ⟨(s.heap.push { cls:=.type "range",data:=.fields #[.int lo t,.int hi u,.int 1 v] }).objs.size,[(s.heap.push { cls:=.type "range",data:=.fields #[.int lo t,.int hi u,.int 1 v] }).objs.size],_,_,H,rfl,
  I1.kept (t':=tk) λb o e=>Heap.get?_push_of_some _ e,Lc _ lo (hi - lo).toNat,?_,λb hb=>?_,q⟩
 ·have e1:lo+((0:Nat):Int) * 1=lo:=by simp
  have e2:(((hi - lo).toNat:Nat):Int) - ((0:Nat):Int)=Builtin.Range.rangeSize lo hi 1:=by rw [rangeSize_one];split <;> omega
  show IsRangeIter _ _ (lo+((0:Nat):Int) * 1) ((((hi - lo).toNat:Nat):Int) - ((0:Nat):Int)) 1;rw [e1,e2];exact Heap.get?_push_size _ rfl
 ·have e:b=(s.heap.push { cls:=.type "range",data:=.fields #[.int lo t,.int hi u,.int 1 v] }).objs.size:=by simpa using hb
  subst e;exact I1.abh (Nat.le_refl _) (I1.hok.fresh (Nat.le_refl _))
noncomputable def OW (ta:TA):TI:=fun σ H R=>ta σ H λvs H1=>∃ j:Int,vs=[.int j]/\-(2 ^ 62)<=j/\j < 2 ^ 62/\R (S6 0 j.toNat) H1
noncomputable def UA (ta:TA):TI:=fun σ H R=>ta σ H λvs H1=>∃ i j:Int,vs=[.int i,.int j]/\(-(2 ^ 62)<=i/\i < 2 ^ 62/\-(2 ^ 62)<=j/\j < 2 ^ 62)/\R (S6 i (j - i).toNat) H1
theorem Nj {a:Expr}{ta:TA}{p pos:Pos}(hg:Gl X "range")(hm:X.mg "range"=none)(ha:PA X [a] ta)(hs:starEach [a] X.env=[(false,eval a X.env)]:=by rfl):PI X tg (.Call (.Name "range" p) [a] [] pos) (OW ta):=by
 intro pins s σ H R I h;refine Call_ (Dt I hg hm boot_range (PyProof.Rows.callWith_type1 (AX (ha pos pins s σ H _ I h) λus s1 AO=>?_) hs rfl));obtain ⟨vs,H1,I1,r1,q1⟩:=AO;obtain ⟨j,e,q1,q2,q⟩:=q1;subst e;cases r1 with
 | cons r rr =>
  cases rr;obtain ⟨t,rfl⟩:=r;exact call_range_1 (JD I1 () () q1 q2 (by simpa using q))
theorem Nk {a b:Expr}{ta:TA}{p pos:Pos}(hg:Gl X "range")(hm:X.mg "range"=none)(ha:PA X [a,b] ta)(hs:starEach [a,b] X.env=[(false,eval a X.env),(false,eval b X.env)]:=by rfl)(UB:starEach [b] X.env=[(false,eval b X.env)]:=by rfl):
  PI X tg (.Call (.Name "range" p) [a,b] [] pos) (UA ta):=by
 intro pins s σ H R I h;refine Call_ (Dt I hg hm boot_range (PyProof.Rows.callWith_type1 (AX (ha pos pins s σ H _ I h) λus s1 AO=>?_) (by rw [hs,UB]) (by rw [UB];rfl)));obtain ⟨vs,H1,I1,r1,q1⟩:=AO;obtain ⟨i,j,e,⟨q1,q2,q3,q4⟩,q⟩:=q1;subst e;cases r1 with
 | cons r rr =>
  cases rr with
  | cons r' rr =>
   cases rr;obtain ⟨t,rfl⟩:=r;obtain ⟨t',rfl⟩:=r';exact call_range_2 (JD I1 q1 q2 q3 q4 q)
noncomputable def VY (wi:TI)(g:TG)(tb:TS):TS:=λD σ H=>wi σ H λJ H1=>∃ W:Nat->Nat->St->Hp->Prop,(∃ m,W 0 m σ H1)/\∀ i m σ H,W i m σ H ->
 (J.stop i H/\D.nx σ H)\/(J.go i H/\∃ N:St->Hp->Prop,(∀ σ' H',N σ' H'->∃ m',m' < m/\W (i+1) m' σ' H')/\∀ x H',J.yld i H x H'->g x σ H' fun σ2 H2=>tb { D with nx:=N,ct:=N,bk:=D.nx } σ2 H2)
noncomputable def GC (fp:List Addr)(h:Heap):List (Addr × Obj):=fp.filterMap λb=>(h.get? b).map λo=>(b,o)
theorem Du {fp:List Addr}{h:Heap}{b:Addr}{o:Obj}(hb:b∈fp)(e:h.get? b=some o):(b,o)∈GC fp h:=List.mem_filterMap.mpr ⟨b,hb,by rw [e];rfl⟩
theorem Nl {fp:List Addr}{h:Heap}{p:Addr × Obj}(hp:p∈GC fp h):p.1∈fp/\h.get? p.1=some p.2:=by
 obtain ⟨b,hb,e⟩:=List.mem_filterMap.mp hp;cases q:h.get? b with
 | none=>rw [q] at e;cases e
 | some o =>
  rw [q] at e;have e':(b,o)=p:=Option.some.inj e;subst e';exact ⟨hb,q⟩
theorem Inv.pinned {pins:List (Addr × Obj)}{σ:St}{H:Hp}{s:Shared}{fp:List Addr}(I:Inv X pins σ H s)(hf:∀ b∈fp,GA X pins H b)(ho:∀ b∈fp,∃ o,s.heap.get? b=some o/\∀ v,o.data≠.cell v):Inv X (pins++GC fp s.heap) σ H s :=
 I.aaj λp hp=>(List.mem_append.mp hp).elim (λz=>I.pin p (List.mem_append_right _ z)) λz=>by
  obtain ⟨hb,e⟩:=Nl z;obtain ⟨f0,f1,f2,_⟩:=hf p.1 hb;obtain ⟨o,e',d⟩:=ho p.1 hb;rw [e] at e';cases e';exact ⟨e,f0,f1,f2,d⟩
theorem Inv.aat {pins pl:List (Addr × Obj)}{σ:St}{H:Hp}{s:Shared}(I:Inv X (pins++pl) σ H s):Inv X pins σ H s:=I.aaj λp hp=>I.pin p (List.mem_append_right _ (List.mem_append_left _ hp))
theorem VZ {iter:Expr}{body:List Stmt}{wi:TI}{g:TG}{tb:TS}{pos:Pos}(hp:PassesOwn (model X.prog X.w) X.A X.env X.xe)(hc:X.calm=true)(hi:PI X tg iter wi)(hg:PG X tg g)(hb:L7 X body tb)
  (hs:∀ x,foldedSetIterable iter X.env x=pure x:=by intro _;rfl):PS X (.For tg iter body [] pos) (VY wi g tb):=by
 intro pins s σ H D I h;refine wpAny_For (AX (hi pins s σ H _ I h) λv s1 h1=>AX h1 λdI s2 h2=>?_) hs;obtain ⟨it,fp,tn,J,H2,e,I2,T,RG,f2,W,⟨m0,w0⟩,turn⟩:=h2;subst e;have V':∀ {H':Hp},(∀ b∈fp,H' b=none)->∀ b∈fp,GA X pins H' b:=λhn b hb=>⟨hn b hb,(f2 b hb).2⟩;refine codeAny_forLoop_any (λn s'=>∃ i σ' H',Inv X pins σ' H' s'/\tn i s'.heap/\(∀ b∈fp,H' b=none)/\W i n σ' H') ?_ m0 ⟨0,σ,H2,I2,RG,λb hb=>(f2 b hb).1,w0⟩;rintro n s3 ⟨i,σ3,H3,I3,Zr,Zs,w3⟩;rcases turn i n σ3 H3 w3 with ⟨stop,qn⟩ | ⟨go,N,hN,step⟩
 ·refine wpAny_passesOwn hp (AX (T.done X rfl rfl rfl hc i pins s3 σ3 H3 X.xe I3 (V' Zs) Zr stop) λr s4 AO=>?_);obtain ⟨hr,I4⟩:=AO;subst hr;exact wpAny_execs_nil ⟨σ3,H3,I4,qn⟩
 ·refine wpAny_passesOwn hp (AX (T.item X rfl rfl rfl hc i pins s3 σ3 H3 X.xe I3 (V' Zs) Zr go) λr s4 AO=>?_);obtain ⟨u,hr,h4⟩:=AO;subst hr;refine wpAny_passesOwn hp (AX h4 λ_ s5 AO=>?_);obtain ⟨x,H5,I5,r5,y5,W2,gL⟩:=AO;have gM:=I5.pinned (V' gL) (T.obj _ _ W2);refine wpAny_passesOwn hp (AX (hg _ s5 σ3 H5 x u _ gM r5 (step x H5 y5)) λ_ s6 AO=>?_);obtain ⟨σ6,H6,I6,q6⟩:=AO;refine wpAny_passesOwn hp (AX (hb _ s6 σ6 H6 _ I6 q6) λf s7 q7=>?_);have again:∀ {σ7:St} {H7:Hp},Inv X (pins++GC fp s5.heap) σ7 H7 s7->N σ7 H7->∃ m,m < n/\∃ i σ' H',Inv X pins σ' H' s7/\tn i s7.heap/\(∀ b∈fp,H' b=none)/\W i m σ' H':=λ{σ7 H7} I7 n7=>by
   obtain ⟨m',hm,w7⟩:=hN σ7 H7 n7;refine ⟨m',hm,i+1,σ7,H7,I7.aat,T.keep _ _ _ W2 λb hb o e=>(I7.pin (b,o) (List.mem_append_right _ (List.mem_append_right _ (Du hb e)))).1,λb hb=>?_,w7⟩;obtain ⟨o,e,d⟩:=T.obj _ _ W2 b hb;exact (I7.pin (b,o) (List.mem_append_right _ (List.mem_append_right _ (Du hb e)))).2.1
  cases f with
  | next=>obtain ⟨σ7,H7,I7,n7⟩:=q7;exact again I7 n7
  | cont=>obtain ⟨σ7,H7,I7,n7⟩:=q7;exact again I7 n7
  | brk=>obtain ⟨σ7,H7,I7,q7⟩:=q7;exact ⟨σ7,H7,I7.aat,q7⟩
  | ret v=>obtain ⟨x7,σ7,H7,I7,r7,q7⟩:=q7;exact ⟨x7,σ7,H7,I7.aat,r7,q7⟩
end
theorem OX {K:W.Frag}{a:Addr}{xs:List V}{g:TG}{tb:TS}{D:Ends}{σ:St}{H:Hp}(Pv:Nat->St->Hp->Prop)(h0:Pv 0 σ H)(hl:∀ i σ H,i<=xs.length->Pv i σ H->AI K H a xs)
  (hs:∀ i x σ H,xs[i]?=some x->Pv i σ H->g x σ H fun σ2 H2=>tb { D with nx:=Pv (i+1),ct:=Pv (i+1),bk:=D.nx } σ2 H2) (hd:∀ σ H,Pv xs.length σ H->D.nx σ H) :
  ∃ W:Nat->Nat->St->Hp->Prop,(∃ m,W 0 m σ H)/\∀ i m σ H,W i m σ H ->
   ((Uz K a).stop i H/\D.nx σ H)\/((Uz K a).go i H/\∃ N:St->Hp->Prop,(∀ σ' H',N σ' H'->∃ m',m' < m/\W (i+1) m' σ' H')/\∀ x H',(Uz K a).yld i H x H'->g x σ H' fun σ2 H2=>tb { D with nx:=N,ct:=N,bk:=D.nx } σ2 H2):=by
 refine ⟨λi m σ H=>m=xs.length - i/\i<=xs.length/\Pv i σ H,⟨xs.length,by simp,Nat.zero_le _,h0⟩,?_⟩;rintro i m σ H ⟨rfl,hi,p⟩;have q:=hl i σ H hi p;by_cases Cv:i < xs.length
 ·refine .inr ⟨⟨xs,xs[i],q,by simp [Cv]⟩,Pv (i+1),fun σ' H' p'=>⟨xs.length - (i+1),(),rfl,Cv,p'⟩,λx H' y=>?_⟩;obtain ⟨e,y⟩:=y;subst e;exact hs i x σ _ (y xs q) p
 ·have e:i=xs.length:=by omega
  subst e;exact .inl ⟨⟨xs,q,Nat.le_refl _⟩,hd σ H p⟩
theorem S8 {K:W.Frag}{a:Addr}{xs:List V}{g:TG}{tb:TS}{D:Ends}{σ:St}{H:Hp}(Pv:Nat->St->Hp->Prop)(h0:Pv 0 σ H)(hl:∀ i σ H,i<=xs.length->Pv i σ H->B0 K H a xs)
  (hs:∀ i x σ H,xs[i]?=some x->Pv i σ H->g x σ H fun σ2 H2=>tb { D with nx:=Pv (i+1),ct:=Pv (i+1),bk:=D.nx } σ2 H2) (hd:∀ σ H,Pv xs.length σ H->D.nx σ H) :
  ∃ W:Nat->Nat->St->Hp->Prop,(∃ m,W 0 m σ H)/\∀ i m σ H,W i m σ H ->
   ((VU K a).stop i H/\D.nx σ H)\/((VU K a).go i H/\∃ N:St->Hp->Prop,(∀ σ' H',N σ' H'->∃ m',m' < m/\W (i+1) m' σ' H')/\∀ x H',(VU K a).yld i H x H'->g x σ H' fun σ2 H2=>tb { D with nx:=N,ct:=N,bk:=D.nx } σ2 H2):=by
 refine ⟨λi m σ H=>m=xs.length - i/\i<=xs.length/\Pv i σ H,⟨xs.length,by simp,Nat.zero_le _,h0⟩,?_⟩;rintro i m σ H ⟨rfl,hi,p⟩;have q:=hl i σ H hi p;by_cases Cv:i < xs.length
 ·refine .inr ⟨⟨xs,xs[i],q,by simp [Cv]⟩,Pv (i+1),fun σ' H' p'=>⟨xs.length - (i+1),(),rfl,Cv,p'⟩,λx H' y=>?_⟩;obtain ⟨e,y⟩:=y;subst e;exact hs i x σ _ (y xs q) p
 ·have e:i=xs.length:=by omega
  subst e;exact .inl ⟨⟨xs,q,Nat.le_refl _⟩,hd σ H p⟩
theorem Fn {lo:Int}{n:Nat}{g:TG}{tb:TS}{D:Ends}{σ:St}{H:Hp}(Pv:Nat->St->Hp->Prop)(h0:Pv 0 σ H)
  (hs:∀ i σ H,i < n->Pv i σ H->g (.int (lo+i)) σ H fun σ2 H2=>tb { D with nx:=Pv (i+1),ct:=Pv (i+1),bk:=D.nx } σ2 H2) (hd:∀ σ H,Pv n σ H->D.nx σ H) :
  ∃ W:Nat->Nat->St->Hp->Prop,(∃ m,W 0 m σ H)/\∀ i m σ H,W i m σ H ->
   ((S6 lo n).stop i H/\D.nx σ H)\/((S6 lo n).go i H/\∃ N:St->Hp->Prop,(∀ σ' H',N σ' H'->∃ m',m' < m/\W (i+1) m' σ' H')/\∀ x H',(S6 lo n).yld i H x H'->g x σ H' fun σ2 H2=>tb { D with nx:=N,ct:=N,bk:=D.nx } σ2 H2):=by
 refine ⟨λi m σ H=>m=n - i/\i<=n/\Pv i σ H,⟨n,by simp,Nat.zero_le _,h0⟩,?_⟩;rintro i m σ H ⟨rfl,hi,p⟩;by_cases Cv:i < n
 ·refine .inr ⟨Cv,Pv (i+1),fun σ' H' p'=>⟨n - (i+1),(),rfl,Cv,p'⟩,λx H' y=>?_⟩;obtain ⟨e,y⟩:=y;subst e y;exact hs i σ _ Cv p
 ·have e:i=n:=by omega
  subst e;exact .inl ⟨Nat.le_refl _,hd σ H p⟩
abbrev R2:=V->V->Hp->VK->Prop
noncomputable def Em (X:Cx)(f:Value->Value->Sem Value)(r:R2):Prop :=
 ∀ (pins:List (Addr × Obj)) (s:Shared) (σ:St) (H:Hp) (x y:V) (v u:Value) (Q:VK),Inv X pins σ H s->RelV x v->RelV y u->r x y H Q ->
  wpAny (model X.prog X.w) X.A (f v u) (EP X pins σ Q) X.xe s
noncomputable def dJ (X:Cx)(f:Value->Sem Value)(r:V->Hp->VK->Prop):Prop :=
 ∀ (pins:List (Addr × Obj)) (s:Shared) (σ:St) (H:Hp) (x:V) (v:Value) (Q:VK),Inv X pins σ H s->RelV x v->r x H Q ->
  wpAny (model X.prog X.w) X.A (f v) (EP X pins σ Q) X.xe s
noncomputable def Cc (X:Cx)(f:Value)(r:List V->Hp->VK->Prop):Prop :=
 ∀ (pins:List (Addr × Obj)) (s:Shared) (σ:St) (H:Hp) (xs:List V) (us:List Value) (Q:VK),Inv X pins σ H s->Vals xs us->r xs H Q ->
  wpAny (model X.prog X.w) X.A (call f us) (EP X pins σ Q) X.xe s
noncomputable def gN (X:Cx)(r:V->Hp->(Bool->Hp->Prop)->Prop):Prop :=
 ∀ (pins:List (Addr × Obj)) (s:Shared) (σ:St) (H:Hp) (x:V) (v:Value) (Q:Bool->Hp->Prop),Inv X pins σ H s->RelV x v->r x H Q ->
  wpAny (model X.prog X.w) X.A (truthy v) (TP X pins σ Q) X.xe s
noncomputable def Fj (r:R2)(ta tb:TE):TE:=fun σ H Q=>ta σ H λx H1=>tb σ H1 λy H2=>r x y H2 Q
noncomputable def gO (r:V->Hp->VK->Prop)(ta:TE):TE:=fun σ H Q=>ta σ H λx H1=>r x H1 Q
noncomputable def rI (C:Int->Int->Prop)(g:Int->Int->V):R2:=λx y H Q=>∃ i j,x=.int i/\y=.int j/\C i j/\Q (g i j) H
noncomputable def RH (g:Int->Int->V):R2:=λx y H Q=>∃ i j,x=.int i/\y=.int j/\Q (g i j) H
noncomputable def rU (g:Int->V):V->Hp->VK->Prop:=λx H Q=>∃ i,x=.int i/\Q (g i) H
section
variable {X:Cx}{a b c:Expr}{ta tb tc:TE}{pos:Pos}
theorem W3 (ha:PE X a ta)(hb:PE X b tb){pins:List (Addr × Obj)}{s:Shared}{σ:St}{H:Hp}{R:V->V->Hp->Prop}(I:Inv X pins σ H s)
  (h:ta σ H λx H1=>tb σ H1 λy H2=>R x y H2) {Q:Value->Shared->Prop} {f:Value->Value->Sem Value}
  (hf:∀ v u s2 x y H2,Inv X pins σ H2 s2->RelV x v->RelV y u->R x y H2->wpAny (model X.prog X.w) X.A (f v u) Q X.xe s2) :
  wpAny (model X.prog X.w) X.A (eval a X.env) (λv s₁=>wpAny (model X.prog X.w) X.A (eval b X.env) (λu s₂=>wpAny (model X.prog X.w) X.A (f v u) Q X.xe s₂) X.xe s₁) X.xe s:=by
 refine AX (ha pins s σ H _ I h) λv s1 AO=>?_;obtain ⟨x,H1,I1,r1,q1⟩:=AO;refine AX (hb pins s1 σ H1 _ I1 q1) λu s2 AO=>?_;obtain ⟨y,H2,I2,r2,q2⟩:=AO;exact hf v u s2 x y H2 I2 r1 r2 q2
theorem DJ {op:Operator}{r:R2}(ho:Em X (binaryOp op) r)(ha:PE X a ta)(hb:PE X b tb):PE X (.BinOp a op b pos) (Fj r ta tb):=by
 intro pins s σ H Q I h;exact wpAny_BinOp (W3 ha hb I h λv u s2 x y H2 I2 rx ry q=>ho pins s2 σ H2 x y v u Q I2 rx ry q)
theorem Zt {op:UnaryOp}{r:V->Hp->VK->Prop}(ho:dJ X (unaryOp op) r)(ha:PE X a ta):PE X (.UnaryOp op a pos) (gO r ta):=by
 intro pins s σ H Q I h;exact UnaryOp_ (AX (ha pins s σ H _ I h) λv s1 ⟨x,H1,I1,r1,q1⟩=>ho pins s1 σ H1 x v Q I1 r1 q1)
theorem dM {f:Value->Value->Sem Value}{C:Int->Int->Prop}{g:Int->Int->Int}
  (rule:∀ (i j:Int) (t u:Tok) (s:Shared) (Q:Value->Shared->Prop) (E:Value->Shared->Prop),C i j->Q (.int (g i j) s.toks) { s with toks:=s.toks+1 }->wpAny (model X.prog X.w) X.A (f (.int i t) (.int j u)) Q E s) :
  Em X f (rI C λi j=>.int (g i j)):=by
 intro pins s σ H x y v u Q I rx ry h;obtain ⟨i,j,rfl,rfl,hc,q⟩:=h;obtain ⟨t,rfl⟩:=rx;obtain ⟨t',rfl⟩:=ry;exact rule i j t t' s _ _ hc ⟨.int (g i j),H,I.tok _,⟨_,rfl⟩,q⟩
theorem Zu {f:Value->Value->Sem Value}{g:Int->Int->Int}
  (rule:∀ (i j:Int) (t u:Tok) (s:Shared) (Q:Value->Shared->Prop) (E:Value->Shared->Prop),Q (.int (g i j) s.toks) { s with toks:=s.toks+1 }->wpAny (model X.prog X.w) X.A (f (.int i t) (.int j u)) Q E s) :
  Em X f (RH λi j=>.int (g i j)):=by
 intro pins s σ H x y v u Q I rx ry h;obtain ⟨i,j,rfl,rfl,q⟩:=h;obtain ⟨t,rfl⟩:=rx;obtain ⟨t',rfl⟩:=ry;exact rule i j t t' s _ _ ⟨.int (g i j),H,I.tok _,⟨_,rfl⟩,q⟩
theorem Zv {f:Value->Value->Sem Value}{g:Int->Int->Bool}
  (rule:∀ (i j:Int) (t u:Tok) (s:Shared) (Q:Value->Shared->Prop) (E:Value->Shared->Prop),Q (.bool (g i j)) s->wpAny (model X.prog X.w) X.A (f (.int i t) (.int j u)) Q E s) :
  Em X f (RH λi j=>.bl (g i j)):=by
 intro pins s σ H x y v u Q I rx ry h;obtain ⟨i,j,rfl,rfl,q⟩:=h;obtain ⟨t,rfl⟩:=rx;obtain ⟨t',rfl⟩:=ry;exact rule i j t t' s _ _ ⟨.bl (g i j),H,I,rfl,q⟩
noncomputable def gQ (i j:Int):Prop:=0 < j/\j < 1073741824
noncomputable def gR (i j:Int):Prop:=0<=j/\j<=1000000/\i.natAbs < 2 ^ 64
noncomputable def S9 (i j:Int):Prop:=(-(2 ^ 64) < i/\i < 2 ^ 64)\/(-(2 ^ 64) < j/\j < 2 ^ 64)
theorem S9.ok {i j:Int}(h:S9 i j):IntMulOk i j:=by
 rcases h with ⟨h1,h2⟩ | ⟨h1,h2⟩
 ·exact .of_left (intBits_le_64 h1 h2)
 ·exact .of_right (intBits_le_64 h1 h2)
theorem Ar:Em X (binaryOp .Add) (RH λi j=>.int (i+j)):=Zu λ_ _ _ _ _ _ _ q=>add_int q
theorem BF:Em X (binaryOp .Sub) (RH λi j=>.int (i - j)):=Zu λ_ _ _ _ _ _ _ q=>sub_int q
theorem AR:Em X (binaryOp .Mult) (rI S9 λi j=>.int (i * j)):=dM λ_ _ _ _ _ _ _ hc q=>mul_int q hc.ok
theorem AS:Em X (binaryOp .FloorDiv) (rI gQ λi j=>.int (i / j)):=dM λi j _ _ _ _ _ hc q=>by
 have h1:(0:Int) < j:=hc.1;have h2:j < 1073741824:=hc.2;exact floordiv_int () (by rw [Int.fdiv_eq_ediv_of_nonneg i ()];exact q) (.inl (PyProof.noPylong_small ()))
theorem Au:Em X (binaryOp .Mod) (rI (λ_ j=>0 < j) λi j=>.int (i % j)):=dM λi j _ _ _ _ _ hc q=>by
 have h1:(0:Int) < j:=hc;exact mod_int' () (by rw [Int.fmod_eq_emod_of_nonneg i ()];exact q)
theorem OY:Em X (binaryOp .Pow) (rI gR λi j=>.int (i ^ j.toNat)):=dM λ_ _ _ _ _ _ _ hc q=>pow_int_small hc.1 hc.2.1 hc.2.2 q
theorem rD {f:Value->Sem Value}{g:Int->Int}
  (rule:∀ (i:Int) (t:Tok) (s:Shared) (Q:Value->Shared->Prop) (E:Value->Shared->Prop),Q (.int (g i) s.toks) { s with toks:=s.toks+1 }->wpAny (model X.prog X.w) X.A (f (.int i t)) Q E s) :
  dJ X f (rU λi=>.int (g i)):=by
 intro pins s σ H x v Q I rx h;obtain ⟨i,rfl,q⟩:=h;obtain ⟨t,rfl⟩:=rx;exact rule i t s _ _ ⟨.int (g i),H,I.tok _,⟨_,rfl⟩,q⟩
theorem GD:dJ X (unaryOp .USub) (rU λi=>.int (-i)):=rD λ_ _ _ _ _ q=>neg_int q
end
noncomputable def OZ:V->V->Bool
 | .non,.non=>true | .non,.int _=>true | .int _,.non=>true | .non,.bl _=>true | .bl _,.non=>true | .non,.str _=>true | .str _,.non=>true
 | .int _,.int _=>true | .bl _,.bl _=>true | .str _,.str _=>true | .byt _,.byt _=>true
 | .int _,.str _=>true | .str _,.int _=>true | .bl _,.str _=>true | .str _,.bl _=>true
 | _,_=>false
noncomputable def nV:R2:=λx y H Q=>OZ x y=true/\Q (.bl (decide (x=y))) H
noncomputable def nW:R2:=λx y H Q=>OZ x y=true/\Q (.bl (!decide (x=y))) H
theorem Mi {i j:Int}:decide (V.int i=V.int j)=(i==j):=by
 rw [Bool.eq_iff_iff];simp
theorem O' {i j:Bool}:decide (V.bl i=V.bl j)=(i==j):=by
 rw [Bool.eq_iff_iff];simp
theorem Mj {i j:Str}:decide (V.str i=V.str j)=(i==j):=by
 rw [Bool.eq_iff_iff];simp
theorem Mk {i j:Array UInt8}:decide (V.byt i=V.byt j)=(i.toList==j.toList):=by
 rw [Bool.eq_iff_iff];cases i;cases j;simp
section
variable {X:Cx}{a b c:Expr}{ta tb tc:TE}{pos:Pos}
theorem Ax {pins:List (Addr × Obj)}{σ:St}{H:Hp}{s:Shared}{Q:VK}{k k':Bool}(I:Inv X pins σ H s)(q:Q (.bl k) H)(e:k=k'):EP X pins σ Q (.bool k') s:=by
 subst e;exact ⟨.bl k,H,I,rfl,q⟩
theorem Ao:Em X (compareOp .Eq) nV:=by
 intro pins s σ H x y v u Q I rx ry h;obtain ⟨hs,q⟩:=h;cases x with
 | non =>
  cases rx;cases y with
  | non=>cases ry;exact PySem.EqNone.eq_none_none (Ax I q (by simp))
  | bl j=>cases ry;exact PySem.EqNone.eq_none_bool (Ax I q (by simp))
  | int j=>obtain ⟨t',rfl⟩:=ry;exact PySem.EqNone.eq_none_int (Ax I q (by simp))
  | str j=>obtain ⟨t',rfl⟩:=ry;exact PySem.EqNone.eq_none_str (Ax I q (by simp))
  | _=>exact absurd (show false=true from hs) Bool.false_ne_true
 | bl i =>
  cases rx;cases y with
  | non=>cases ry;exact PySem.EqNone.eq_bool_none (Ax I q (by simp))
  | bl j=>cases ry;exact eq_bool (Ax I q O')
  | str j=>obtain ⟨t',rfl⟩:=ry;exact PySem.EqMixed.eq_bool_str (Ax I q (by simp))
  | _=>exact absurd (show false=true from hs) Bool.false_ne_true
 | int i =>
  obtain ⟨t,rfl⟩:=rx;cases y with
  | non=>cases ry;exact PySem.EqNone.eq_int_none (Ax I q (by simp))
  | int j=>obtain ⟨t',rfl⟩:=ry;exact eq_int (Ax I q Mi)
  | str j=>obtain ⟨t',rfl⟩:=ry;exact PySem.EqMixed.eq_int_str (Ax I q (by simp))
  | _=>exact absurd (show false=true from hs) Bool.false_ne_true
 | str i =>
  obtain ⟨t,rfl⟩:=rx;cases y with
  | non=>cases ry;exact PySem.EqNone.eq_str_none (Ax I q (by simp))
  | bl j=>cases ry;exact PySem.EqMixed.eq_str_bool (Ax I q (by simp))
  | int j=>obtain ⟨t',rfl⟩:=ry;exact PySem.EqMixed.eq_str_int (Ax I q (by simp))
  | str j=>obtain ⟨t',rfl⟩:=ry;exact eq_str (Ax I q Mj)
  | _=>exact absurd (show false=true from hs) Bool.false_ne_true
 | byt i =>
  obtain ⟨t,rfl⟩:=rx;cases y with
  | byt j=>obtain ⟨t',rfl⟩:=ry;exact W.eq_bytes (Ax I q Mk)
  | _=>exact absurd (show false=true from hs) Bool.false_ne_true
 | _=>cases y <;> exact absurd (show false=true from hs) Bool.false_ne_true
theorem GF:Em X (compareOp .NotEq) nW:=by
 intro pins s σ H x y v u Q I rx ry h;obtain ⟨hs,q⟩:=h;cases x with
 | non =>
  cases rx;cases y with
  | non=>cases ry;exact PySem.EqNone.ne_none_none (Ax I q (by simp))
  | bl j=>cases ry;exact PySem.EqNone.ne_none_bool (Ax I q (by simp))
  | int j=>obtain ⟨t',rfl⟩:=ry;exact PySem.EqNone.ne_none_int (Ax I q (by simp))
  | str j=>obtain ⟨t',rfl⟩:=ry;exact PySem.EqNone.ne_none_str (Ax I q (by simp))
  | _=>exact absurd (show false=true from hs) Bool.false_ne_true
 | bl i =>
  cases rx;cases y with
  | non=>cases ry;exact PySem.EqNone.ne_bool_none (Ax I q (by simp))
  | bl j=>cases ry;exact ne_bool (Ax I q (congrArg not O'))
  | str j=>obtain ⟨t',rfl⟩:=ry;exact PySem.EqMixed.ne_bool_str (Ax I q (by simp))
  | _=>exact absurd (show false=true from hs) Bool.false_ne_true
 | int i =>
  obtain ⟨t,rfl⟩:=rx;cases y with
  | non=>cases ry;exact PySem.EqNone.ne_int_none (Ax I q (by simp))
  | int j=>obtain ⟨t',rfl⟩:=ry;exact ne_int (Ax I q (congrArg not Mi))
  | str j=>obtain ⟨t',rfl⟩:=ry;exact PySem.EqMixed.ne_int_str (Ax I q (by simp))
  | _=>exact absurd (show false=true from hs) Bool.false_ne_true
 | str i =>
  obtain ⟨t,rfl⟩:=rx;cases y with
  | non=>cases ry;exact PySem.EqNone.ne_str_none (Ax I q (by simp))
  | bl j=>cases ry;exact PySem.EqMixed.ne_str_bool (Ax I q (by simp))
  | int j=>obtain ⟨t',rfl⟩:=ry;exact PySem.EqMixed.ne_str_int (Ax I q (by simp))
  | str j=>obtain ⟨t',rfl⟩:=ry;exact ne_str (Ax I q (congrArg not Mj))
  | _=>exact absurd (show false=true from hs) Bool.false_ne_true
 | byt i =>
  obtain ⟨t,rfl⟩:=rx;cases y with
  | byt j=>obtain ⟨t',rfl⟩:=ry;exact W.ne_bytes (Ax I q (congrArg not Mk))
  | _=>exact absurd (show false=true from hs) Bool.false_ne_true
 | _=>cases y <;> exact absurd (show false=true from hs) Bool.false_ne_true
theorem ET:Em X (compareOp .Lt) (RH λi j=>.bl (decide (i < j))):=Zv λ_ _ _ _ _ _ _ q=>lt_int q
theorem UC:Em X (compareOp .Gt) (RH λi j=>.bl (decide (j < i))):=Zv λ_ _ _ _ _ _ _ q=>gt_int q
theorem Ld:Em X (compareOp .Is) (λx y H Q=>y=.non/\Q (.bl (decide (x=.non))) H):=by
 intro pins s σ H x y v u Q I rx ry h;obtain ⟨rfl,q⟩:=h;cases ry;refine is_none_gen (Ax I q ?_);cases x <;> first
  | (cases rx;rfl)
  | (obtain ⟨t,rfl⟩:=rx;rfl)
theorem Sb:Em X (compareOp .IsNot) (λx y H Q=>y=.non/\Q (.bl (!decide (x=.non))) H):=by
 intro pins s σ H x y v u Q I rx ry h;obtain ⟨rfl,q⟩:=h;cases ry;refine isnot_none_gen (Ax I q ?_);cases x <;> first
  | (cases rx;rfl)
  | (obtain ⟨t,rfl⟩:=rx;rfl)
theorem Em.or {f:Value->Value->Sem Value}{r r':R2}(h:Em X f r)(h':Em X f r'):Em X f (λx y H Q=>r x y H Q\/r' x y H Q):=by
 intro pins s σ H x y v u Q I rx ry q;rcases q with q | q
 ·exact h pins s σ H x y v u Q I rx ry q
 ·exact h' pins s σ H x y v u Q I rx ry q
theorem Ac (b:Expr){op:CmpOp}(h:op≠.In:=by decide)(h2:op≠.NotIn:=by decide):behindInMarks op b=false:=by
 have e1:(op==CmpOp.In)=false:=by cases op <;> first | rfl | exact absurd rfl h
 have e2:(op==CmpOp.NotIn)=false:=by cases op <;> first | rfl | exact absurd rfl h2
 cases b <;> simp [behindInMarks,e1,e2]
theorem Sd {op:CmpOp}{r:R2}(ho:Em X (compareOp op) r)(ha:PE X a ta)(hb:PE X b tb)(hm:behindInMarks op b=false):PE X (.Compare a [op] [b] pos) (Fj r ta tb):=by
 intro pins s σ H Q I h;exact wpAny_Compare1 (W3 ha hb I h λv u s2 x y H2 I2 rx ry q=>ho pins s2 σ H2 x y v u Q I2 rx ry q) hm
noncomputable def Ml (t:TE):TT:=fun σ H Q=>t σ H λx H'=>∃ k,x=.bl k/\Q k H'
theorem Se {op:CmpOp}{r:R2}(ho:Em X (compareOp op) r)(ha:PE X a ta)(hb:PE X b tb)(hm:behindInMarks op b=false):PT X (.Compare a [op] [b] pos) (Ml (Fj r ta tb)):=by
 intro pins s σ H Q I h;refine wpAny_isTrue_Compare1 (AX (ha pins s σ H _ I h) λv s1 AO=>?_) hm;obtain ⟨x,H1,I1,r1,q1⟩:=AO;refine AX (hb pins s1 σ H1 _ I1 q1) λu s2 AO=>?_;obtain ⟨y,H2,I2,r2,q2⟩:=AO;refine AX (ho pins s2 σ H2 x y v u _ I2 r1 r2 q2) λc s3 AO=>?_;obtain ⟨z,H3,I3,r3,k,e,q3⟩:=AO;subst e;cases r3;exact wpAny_truthy_bool ⟨H3,I3,q3⟩
noncomputable def Sf (K:W.Frag)(x:V)(H:Hp)(k:Bool):Prop :=
 match x with
 | .non=>k=false
 | .bl b=>k=b
 | .int i=>k=(i != 0)
 | .str y=>y.length<=sizeLine/\k=((y.length:Int) != 0)
 | .byt y=>y.size<=sizeLine/\k=((y.size:Int) != 0)
 | .ref p=>(∃ xs,AI K H p xs/\k=!xs.isEmpty)\/(∃ xs,B0 K H p xs/\k=!xs.isEmpty)\/∃ Ai,H p=some (.dK Ai)/\k=!Ai.isEmpty
 | _=>False
theorem Lf {κ:Type}{Ai:List (κ × V)}{vs:List (κ × Value)}(r:KV Ai vs):(!vs.isEmpty)=!Ai.isEmpty:=by
 cases r <;> rfl
theorem GG {xs:List V}{its:List Value}(r:Vals xs its):(!its.toArray.isEmpty)=!xs.isEmpty:=by
 cases r <;> simp
theorem GH:(sizeLine:Nat) < 2 ^ 63:=by rw [sizeLine_eq];decide
theorem P0:gN X (λx H Q=>∃ k,Sf X.K x H k/\Q k H):=by
 intro pins s σ H x v Q I rx h;obtain ⟨k,e,q⟩:=h;have hl:=GH;have hs:sizeLine=16777216:=sizeLine_eq;cases x with
 | non =>
  cases rx;have e':k=false:=e;subst e';exact truthy_none ⟨H,I,q⟩
 | bl b =>
  cases rx;have e':k=b:=e;subst e';exact wpAny_truthy_bool ⟨H,I,q⟩
 | int i =>
  obtain ⟨t,rfl⟩:=rx;have e':k=(i != 0):=e;subst e';exact PySem.P.truthy_int ⟨H,I,q⟩
 | str y =>
  obtain ⟨t,rfl⟩:=rx;obtain ⟨hy,e'⟩:y.length<=sizeLine/\k=((y.length:Int) != 0):=e;subst e';exact PySem.P.truthy_str () ⟨H,I.tok _,q⟩
 | byt y =>
  obtain ⟨t,rfl⟩:=rx;obtain ⟨hy,e'⟩:y.size<=sizeLine/\k=((y.size:Int) != 0):=e;subst e';exact W.truthy_bytes () ⟨H,I.tok _,q⟩
 | ref p =>
  cases rx;have e':(∃ xs,AI X.K H p xs/\k=!xs.isEmpty)\/(∃ xs,B0 X.K H p xs/\k=!xs.isEmpty)\/∃ Ai,H p=some (.dK Ai)/\k=!Ai.isEmpty:=e;rcases e' with ⟨xs,hx,e'⟩ | ⟨xs,hx,e'⟩ | ⟨Ai,hx,e'⟩
  ·subst e';obtain ⟨its,r,pl,hz⟩:=I.list hx;have hlen:=r.length;exact wpAny_truthy_list pl.isList (by simp only [List.size_toArray];omega) ⟨H,I.tok _,by rw [GG r];exact q⟩
  ·subst e';obtain ⟨its,r,pl,hz⟩:=I.tuple hx;have hlen:=r.length;exact truthy_tuple pl (by simp only [List.size_toArray];omega) ⟨H,I.tok _,by rw [GG r];exact q⟩
  ·subst e';obtain ⟨hz,hS,vs,r,m⟩:Ai.length<=sizeLine/\(p==sysModules)=false/\∃ vs,KV Ai vs/\s.heap.DictOf (AA X.prog X.w) p vs:=I.hok p _ hx;have hlen:Ai.length=vs.length:=Paired.length r;exact wpAny_truthy_dict hS m () ⟨H,I.tok _,by rw [Lf r];exact q⟩
 | _=>exact (show False from e).elim
theorem JE (ha:PE X a ta)(he:∀ whole,isTrue a X.env whole=(do let v <- whole;standAt a.pos;holding [v] (truthy v))):
  PT X a (fun σ H Q=>ta σ H λx H'=>∃ k,Sf X.K x H' k/\Q k H'):=by
 intro pins s σ H Q I h;exact isTrue_plain (AX (ha pins s σ H _ I h) λv s1 ⟨x,H1,I1,r1,q1⟩=>P0 pins s1 σ H1 x v Q I1 r1 q1) (he _)
theorem vals1 {x:V}{us:List Value}(r:Vals [x] us):∃ u,us=[u]/\RelV x u:=by
 cases r with
 | cons r1 r2=>cases r2;exact ⟨_,rfl,r1⟩
theorem vals2 {x y:V}{us:List Value}(r:Vals [x,y] us):∃ u w',us=[u,w']/\RelV x u/\RelV y w':=by
 cases r with
 | cons r1 r2 =>
  cases r2 with
  | cons r3 r4=>cases r4;exact ⟨_,_,rfl,r1,r3⟩
theorem Nm (hc:X.calm=true):Cc X (.builtin "max") (λxs H Q=>∃ i j,xs=[.int i,.int j]/\Q (.int (if j > i then j else i)) H):=by
 intro pins s σ H xs us Q I r h;obtain ⟨i,j,rfl,q⟩:=h;obtain ⟨u,w',rfl,⟨t,rfl⟩,⟨t',rfl⟩⟩:=vals2 r;refine max_two_ints (I.ok.hd hc) λh' tk k=>⟨_,H,I.kept k,?_,q⟩;by_cases hj:j > i
 ·rw [if_pos hj,if_pos hj];exact ⟨_,rfl⟩
 ·rw [if_neg hj,if_neg hj];exact ⟨_,rfl⟩
theorem Nn (hc:X.calm=true):Cc X (.builtin "min") (λxs H Q=>∃ i j,xs=[.int i,.int j]/\Q (.int (if j < i then j else i)) H):=by
 intro pins s σ H xs us Q I r h;obtain ⟨i,j,rfl,q⟩:=h;obtain ⟨u,w',rfl,⟨t,rfl⟩,⟨t',rfl⟩⟩:=vals2 r;refine min_two_ints (I.ok.hd hc) λh' tk k=>⟨_,H,I.kept k,?_,q⟩;by_cases hj:j < i
 ·rw [if_pos hj,if_pos hj];exact ⟨_,rfl⟩
 ·rw [if_neg hj,if_neg hj];exact ⟨_,rfl⟩
theorem Fp:Cc X (.type "int") (λxs H Q=>(∃ i,xs=[.int i]/\Q (.int i) H)\/∃ k,xs=[.bl k]/\Q (.int (if k then 1 else 0)) H):=by
 intro pins s σ H xs us Q I r h;rcases h with ⟨i,rfl,q⟩ | ⟨k,rfl,q⟩
 ·obtain ⟨u,rfl,t,rfl⟩:=vals1 r;exact call_int_int ⟨.int i,H,I,⟨_,rfl⟩,q⟩
 ·obtain ⟨u,rfl,r1⟩:=vals1 r;cases r1;exact call_int_bool ⟨.int (if k then 1 else 0),H,I.tok _,⟨_,rfl⟩,q⟩
end
structure W4 (h:Heap)(x dx C:Addr)(mA:Str->Option Value):Prop where
 obj:h.get? x=some (W.instObj C dx)
 ns:h.Ns1 dx mA
 ne:dx≠x
theorem Np {h:Heap}{dx:Addr}{mA:Str->Option Value}(n:h.Ns1 dx mA):∃ od,h.get? dx=some od/\∀ name,W.lookIn name od=some (mA name):=by
 obtain ⟨o,es,ep,ho,hd,hk,_,hm⟩:=n;refine ⟨o,ho,λname=>?_⟩;have e:=hm name;unfold nsFind findBy at e;rw [<- Array.find?_toList] at e;unfold W.lookIn;rw [hd];dsimp only;split
 ·rename_i y q;rw [q] at e;exact congrArg some e
 ·rename_i q;rw [q] at e;have a:es.toList.any (·.refKey)=false:=by
   rw [List.any_eq_false];intro y hy;obtain ⟨z,t,Sg⟩:=hk y (Array.mem_toList_iff.mp hy);simp [DictEntry.refKey,Sg]
  have a':¬ es.toList.any (·.refKey)=true:=by rw [a];exact Bool.false_ne_true
  rw [if_neg a'];exact congrArg some e
theorem W4.look {h:Heap}{x dx C:Addr}{mA:Str->Option Value}(I:W4 h x dx C mA):∃ od,W.InstAt h x (W.instObj C dx) C (some od)/\∀ name,W.lookIn name od=some (mA name) :=
 let ⟨od,ho,hl⟩:=Np I.ns
 ⟨od,⟨I.obj,rfl,rfl,ho⟩,hl⟩
theorem DQ.some_of {v:V}{o:Option Value}(r:DQ (some v) o):∃ u,o=some u/\RelV v u:=by
 cases o with
 | none=>exact (show False from r).elim
 | some u=>exact ⟨u,rfl,r⟩
theorem DQ.none_of {o:Option Value}(r:DQ none o):o=none:=by
 cases o with
 | none=>rfl
 | some u=>exact (show False from r).elim
section
variable {P:Program}{w:World}{H H':Hp}{h h':Heap}{a C dx:Addr}{fs dG:List (Str × V)}
theorem Sh (hok:Di P w H h)(e:H a=some (.ins C dx fs)):∃ mA,W4 h a dx C mA/\(∀ f,DQ (fs.lookup f) (mA f))/\PySem.Within mA (fs.map (·.1))/\fs.length<=1000/\H dx=some (.own a):=by
 obtain ⟨d,z,ne,ob,mA,n,r,q⟩:=(show AN P w H h a (.ins C dx fs) from hok a _ e);exact ⟨mA,⟨ob,n,ne⟩,r,q,z,d⟩
end
structure gS (K:W.Frag)(C:Addr):Prop where
 pg:W.plainGet K C Str.empty=true
 hd:W.hasDictIn K C=true
 po:W.plainOver K C=true
 sa:W.findIn K (.ref C) "__setattr__"=some (some (.builtin "object.__setattr__"))
theorem gS.get {K:W.Frag}{C:Addr}(c:gS K C)(f:Str):W.plainGet K C f=true:=c.pg
section
variable {X:Cx}{pins:List (Addr × Obj)}{σ:St}{H:Hp}{s:Shared}{A:Around}{E:Value->Shared->Prop}{Q:Value->Shared->Prop}{c:Value}{b:Bool}
inductive Cd (K:W.Frag)(H:Hp):V->Value->Prop where
 | non:Cd K H .non (.type "NoneType")
 | bl (x:Bool):Cd K H (.bl x) (.type "bool")
 | int (i:Int):Cd K H (.int i) (.type "int")
 | str (x:Str):Cd K H (.str x) (.type "str")
 | flt (x:UInt64):Cd K H (.flt x) (.type "float")
 | lst {a:Addr} {xs:List V} (e:H a=some (.lst xs)):Cd K H (.ref a) (.type "list")
 | frz {a:Addr} {o:Obj} {xs:List V} (e:H a=some (.frz o (.lst xs))):Cd K H (.ref a) (.type "list")
 | tup {a:Addr} {xs:List V} (e:H a=some (.tup xs)):Cd K H (.ref a) (.type "tuple")
 | dK {a:Addr} {Ai:List (Key × V)} (e:H a=some (.dK Ai)):Cd K H (.ref a) (.type "dict")
 | dT {a:Addr} {Ai:List (List Key × V)} (e:H a=some (.dT Ai)):Cd K H (.ref a) (.type "dict")
 | ins {a C dx:Addr} {fs:List (Str × V)} (e:H a=some (.ins C dx fs)) (cl:gS K C) (ha:W.findIn K (.ref C) "__class__"=some (some (.builtin "object.__class__")))
   (hn:W.specialIn K (.builtin "object.__class__") "__get__"=some (some (.builtin "getset_descriptor.__get__"))) (nX:W.takesIn K (.builtin "object.__class__")=some true)
   (hm:W.mroIn K C (.type "object")=some true):Cd K H (.ref a) (.ref C)
theorem Nq {x:V}{u t:Value}(I:Inv X pins σ H s)(rx:RelV x u)(ty:Cd X.K H x t)(e:W.kitOne X.K t c=some b)(h:∀ tk,Q (.bool b) { s with toks:=tk }):
  wpAny (model X.prog X.w) A (call (.builtin "isinstance") [u,c]) Q E s:=by
 cases ty with
 | non=>cases (show u=Value.none from rx);exact W.kia_one W.kitx_none I.kIn True.intro e (λz=>nomatch z) h
 | bl y=>cases (show u=Value.bool y from rx);exact W.kia_one W.kitx_bool I.kIn True.intro e (λz=>nomatch z) h
 | int i=>obtain ⟨t,q⟩:=(show ∃ t,u=Value.int i t from rx);cases q;exact W.kia_one W.kitx_int I.kIn True.intro e (λz=>nomatch z) h
 | str y=>obtain ⟨t,q⟩:=(show ∃ t,u=Value.str y t from rx);cases q;exact W.kia_one W.kitx_str I.kIn True.intro e (λz=>nomatch z) h
 | flt y=>obtain ⟨t,q⟩:=(show ∃ t,u=Value.float y t from rx);cases q;exact W.kia_one W.kitx_float I.kIn True.intro e (λz=>nomatch z) h
 | @lst a xs ea =>
  cases (show u=Value.ref a from rx);obtain ⟨_,_,n,_,h1⟩:=(show AN X.prog X.w H s.heap a (.lst xs) from I.hok a _ ea);exact W.kia_one W.kitx_list I.kIn ⟨_,h1,rfl⟩ e (λz=>nomatch z) h
 | @frz a ob xs ea =>
  cases (show u=Value.ref a from rx);obtain ⟨_,_,_,n,_,h1⟩:=(show AN X.prog X.w H s.heap a (.frz ob (.lst xs)) from I.hok a _ ea);exact W.kia_one W.kitx_list I.kIn ⟨_,h1,rfl⟩ e (λz=>nomatch z) h
 | @tup a xs ea =>
  cases (show u=Value.ref a from rx);obtain ⟨_,_,_,p⟩:=(show AN X.prog X.w H s.heap a (.tup xs) from I.hok a _ ea);obtain ⟨o,h1,h2,_⟩:=p;exact W.kia_one W.kitx_tuple I.kIn ⟨o,h1,h2⟩ e (λz=>nomatch z) h
 | @dK a Ai ea =>
  cases (show u=Value.ref a from rx);obtain ⟨_,_,vs,_,p⟩:=(show AN X.prog X.w H s.heap a (.dK Ai) from I.hok a _ ea);obtain ⟨o,es,ep,h1,h2,_⟩:=p;exact W.kia_one W.kitx_dict I.kIn ⟨o,h1,h2.1⟩ e (λz=>nomatch z) h
 | @dT a Ai ea =>
  cases (show u=Value.ref a from rx);obtain ⟨_,_,xs,_,o,es,ep,h1,h2,_⟩:=(show AN X.prog X.w H s.heap a (.dT Ai) from I.hok a _ ea);exact W.kia_one W.kitx_dict I.kIn ⟨o,h1,h2.1⟩ e (λz=>nomatch z) h
 | @ins a C dx fs ea cl ha hn nX hm =>
  cases (show u=Value.ref a from rx);obtain ⟨mA,O,_⟩:=Sh I.hok ea;obtain ⟨od,J,_⟩:=O.look;exact W.kia_one (W.kitx_own (cl.get _) cl.hd ha hn nX hm) I.kIn J e (λz=>nomatch z) h
end
structure AG (k:Nat)(A:Around):Prop where
 hd:A.handled=none
 dp:A.depth+2 * k+5 < recursionLimit
 un:A.units+16 * k+200 < cLine
theorem AG.mono {j k:Nat}{A:Around}(r:AG k A)(h:j<=k):AG j A:=⟨r.hd,by have:=r.dp;omega,by have:=r.un;omega⟩
theorem AG.deeper {k:Nat}{A:Around}(r:AG (k+1) A)(env:Env):AG k (A.deeper env) :=
 ⟨r.hd,by have:=r.dp;show A.depth+1+2 * k+5 < _;omega,by have:=r.un;show A.units+3+16 * k+200 < _;omega⟩
theorem AG.depth {k:Nat}{A:Around}(r:AG k A):A.depth < recursionLimit:=by have:=r.dp;omega
theorem AG.units {k:Nat}{A:Around}(r:AG k A):A.units+64 < cLine:=by have:=r.un;omega
noncomputable def Fq:TA:=λ_ H Q=>Q [] H
noncomputable def Be (ta:TE)(tr:TA):TA:=fun σ H Q=>ta σ H λx H1=>tr σ H1 λxs H2=>Q (x::xs) H2
section
variable {X:Cx}{e:Expr}{es:List Expr}{te:TE}{t:TA}{pos:Pos}
theorem Lg:PA X [] Fq:=λ_ _ _ _ H Q I h=>Calls.spliced_nil ⟨[],H,I,.nil,h⟩
theorem Gf (ha:PE X e te)(hr:PA X es t)(hs:starEach (e::es) X.env=(false,eval e X.env)::starEach es X.env:=by rfl):PA X (e::es) (Be te t):=by
 intro pos pins s σ H Q I h;rw [hs];show wpAny _ _ (spliced ((false,eval e X.env)::backTo pos (starEach es X.env))) _ _ s;refine Calls.spliced_cons (AX (ha pins s σ H _ I h) λu s1 AO=>?_);obtain ⟨x,H1,I1,r1,q1⟩:=AO;exact AX (hr pos pins s1 σ H1 _ I1 q1) λus s2 ⟨xs,H2,I2,r2,q2⟩=>⟨x::xs,H2,I2,.cons r1 r2,q2⟩
noncomputable def Pa (t:TA):TE:=fun σ H Q=>t σ H λxs H1=>xs.length<=sizeLine/\∀ p,H1 p=none->Q (.ref p) (upd H1 p (.tup xs))
noncomputable def W5 (t:TA):TE:=fun σ H Q=>t σ H λxs H1=>xs.length<=sizeLine/\∀ p,H1 p=none->Q (.ref p) (upd H1 p (.lst xs))
theorem W6 {x1}(h:PA X es t):PE X (.Tuple es x1 pos) (Pa t):=by
 intro pins s σ H Q I hq;refine wpAny_Tuple_spliced (AX (h pos pins s σ H _ I hq) λus s1 AO=>?_);obtain ⟨xs,H1,I1,r,z,q⟩:=AO;refine ⟨by rw [<- r.length];exact z,?_⟩;have hf:H1 s1.heap.objs.size=none:=I1.hok.fresh (Nat.le_refl _);refine ⟨.ref s1.heap.objs.size,upd H1 s1.heap.objs.size (.tup xs),I1.laid (t':=s1.toks) (λb u e=>Heap.get?_push_of_some _ e) (Nat.le_refl _) ?_,rfl,q _ hf⟩;exact ⟨z,us,r,⟨_,Heap.get?_push_size _ rfl,rfl,_,rfl⟩⟩
theorem W7 (h:PA X es t):PE X (.List es pos) (W5 t):=by
 intro pins s σ H Q I hq;refine wpAny_List_spliced (AX (h pos pins s σ H _ I hq) λus s1 AO=>?_);obtain ⟨xs,H1,I1,r,z,q⟩:=AO;refine ⟨by rw [<- r.length];exact z,?_⟩;have hf:H1 s1.heap.objs.size=none:=I1.hok.fresh (Nat.le_refl _);refine ⟨.ref s1.heap.objs.size,upd H1 s1.heap.objs.size (.lst xs),I1.laid (t':=s1.toks) (λb u e=>Heap.get?_push_of_some _ e) (Nat.le_refl _) ?_,rfl,q _ hf⟩;exact ⟨z,us,0,r,Heap.get?_push_size _ rfl⟩
end
abbrev Sp:=List V->Hp->VK->XK->Prop
abbrev KW:=List Env->Hp->Shared->XK->Value->Shared->Prop
structure Si (P:Program)(w:World)(K:W.Frag)(mg:Str->Option Value)(base:Heap)(A:Around)(outer:List Env)(s:Shared)(H:Hp):Prop where
 frames:A.frames=some outer
 mod:Mod K mg base
 bs:∀ b o,base.get? b=some o->s.heap.get? b=some o/\H b=none
 bsz:base.objs.size<=s.heap.objs.size
 aa6:s.heap.FunFrames base outer
 frf:∀ b∈FO outer,H b=none
 hok:Di P w H s.heap
 bare:AllBare s.gens
noncomputable def CE (outer:List Env)(P:Program)(w:World)(H:Hp)(s:Shared)(Q:VK)(u:Value)(s':Shared):Prop :=
 ∃ v H',s'.os=s.os/\AllBare s'.gens/\Un (FO outer) [] H H' s.heap s'.heap/\Di P w H' s'.heap/\RelV v u/\Q v H'
noncomputable def CR (CX:KW)(outer:List Env)(P:Program)(w:World)(H:Hp)(s:Shared)(Q:VK)(E:XK)(r:Result)(s':Shared):Prop :=
 match r with
 | .ok (.ret u)=>CE outer P w H s Q u s'
 | .ok _=>False
 | .error e=>CX outer H s E e s'
structure Av (P:Program)(w:World)(K:W.Frag)(mg:Str->Option Value)(base:Heap)(CX:KW)(k:Nat)(f:Addr)(fd:FuncData)(ps:List Str)(sp:Sp):Prop where
 len:∀ vs H Q E,sp vs H Q E->vs.length=ps.length
 run:∀ (A:Around) (outer:List Env) (s:Shared) (H:Hp) (args:Args) (us:List Value) (vs:List V) (Q:VK) (E:XK),AG k A->Si P w K mg base A outer s H->BindsTo s fd args (ps.zip us)->Vals vs us->sp vs H Q E ->
  codeAny (model P w) A (.call (.ref f) args) (CR CX outer P w H s Q E) s
theorem Av.mono {P:Program}{w:World}{K:W.Frag}{mg:Str->Option Value}{base:Heap}{CX:KW}{j k:Nat}{f:Addr}{fd:FuncData}{ps:List Str}{sp:Sp}(F:Av P w K mg base CX j f fd ps sp)(h:j<=k):
  Av P w K mg base CX k f fd ps sp:=⟨F.len,λA outer s H args us vs Q E hr=>F.run A outer s H args us vs Q E (hr.mono h)⟩
section
variable {X:Cx}{pins:List (Addr × Obj)}{σ:St}{H:Hp}{s s':Shared}
theorem Inv.ab1 (I:Inv X pins σ H s):Si X.prog X.w X.K X.mg X.base X.A X.stack s H :=
 ⟨I.ok.frames,I.ok.mod,I.bs,Nat.le_trans I.ok.bsz I.sz,I.stack,I.aas,I.hok,I.bare⟩
theorem Inv.after {Q:VK}{u:Value}(I:Inv X pins σ H s)(h:CE X.stack X.prog X.w H s Q u s'):EP X pins σ Q u s':=by
 obtain ⟨v,H',os,bare,un,hok,r,q⟩:=h;obtain ⟨hh,g,d,t,W8⟩:=s';obtain rfl:W8=s.os:=os;exact ⟨v,H',I.call (h':=hh) (g':=g) (d':=d) (t':=t) (ch:=[]) un hok bare (λb z=>absurd z (by simp)),r,q⟩
end
noncomputable def CV (sp:Sp)(dvs:List V)(E:XK)(t:TA):TE:=fun σ H Q=>t σ H λvs H1=>sp (vs++dvs) H1 Q E
noncomputable def Binds (K:W.Frag)(fd:FuncData)(ps:List Str)(ds:List Value):Prop :=
 ∀ (s:Shared) (us:List Value),K.In s.heap->(us++ds).length=ps.length->BindsTo s fd ⟨us,[]⟩ (ps.zip (us++ds))
theorem Binds.all {K:W.Frag}{fd:FuncData}{ps:List Str}(h:∀ us:List Value,us.length=ps.length->bindArgs fd ⟨us,[]⟩=pure (ps.zip us)):Binds K fd ps []:=λs us _ hl=>by
 rw [List.append_nil] at hl ⊢;exact .of_eq (h us hl)
noncomputable def Passes (CX:KW)(X:Cx)(E:XK):Prop:=∀ (pins:List (Addr × Obj)) (σ:St) (H:Hp) (s:Shared) (e:Value) (s':Shared),Inv X pins σ H s->CX X.stack H s E e s'->X.xe e s'
section
variable {X:Cx}{CX:KW}{k:Nat}{f C:Addr}{fd:FuncData}{ps:List Str}{sp:Sp}{dvs:List V}{ds:List Value}{E:XK}{x m:Str}{p pos apos:Pos}{e o:Expr}{es:List Expr}{ta:TE}{t:TA}
theorem GI {pins:List (Addr × Obj)}{σ:St}{H:Hp}{s:Shared}{Q:VK}{us:List Value}{vs:List V}(F:Av X.prog X.w X.K X.mg X.base CX k f fd ps sp)(hr:AG k X.A)(hb:Binds X.K fd ps ds)(hd:Vals dvs ds)(hx:Passes CX X E)
  (I:Inv X pins σ H s) (r:Vals vs us) (h:sp (vs++dvs) H Q E):wpAny (model X.prog X.w) X.A (call (.ref f) us) (EP X pins σ Q) X.xe s:=by
 have r2:Vals (vs++dvs) (us++ds):=r.append hd;have hl:(us++ds).length=ps.length:=by rw [<- r2.length];exact F.len _ _ _ _ h
 refine wpAny_call (codeAny_mono (F.run X.A X.stack s H ⟨us,[]⟩ (us++ds) (vs++dvs) Q E hr I.ab1 (hb s us I.kIn hl) r2 h) λr s' hq=>?_);cases r with
 | error e=>exact hx pins σ H s e s' I hq
 | ok fl =>
  cases fl with
  | ret u=>exact I.after hq
  | next=>exact False.elim hq
  | brk=>exact False.elim hq
  | cont=>exact False.elim hq
theorem IT (F:Av X.prog X.w X.K X.mg X.base CX k f fd ps sp)(hr:AG k X.A)(hg:Gl X x)(hm:X.mg x=some (.ref f))(hk:W.keepIn X.K (.ref f)=true)(hb:Binds X.K fd ps ds)(hd:Vals dvs ds)(hx:Passes CX X E)
  (ha:PA X (e::es) t) (CW:(x==("__debug__":Str))=false:=by decide) (he:starEach (e::es) X.env=(false,eval e X.env)::starEach es X.env:=by rfl) (Ci:(backTo pos (starEach es X.env)).any (·.1)=false:=by rfl) :
  PE X (.Call (.Name x p) (e::es) [] pos) (CV sp dvs E t):=by
 intro pins s σ H Q I h;refine wpAny_Call_Name_kw (ER I hg hm ?_ CW);refine W.callWith_K (h₀:=X.base) I.ok.mod.kin hk (AX (ha pos pins s σ H _ I h) λus s1 AO=>?_) he Ci;obtain ⟨vs,H1,I1,r,q⟩:=AO;refine ⟨I1.kIn,?_⟩;exact GI F hr hb hd hx I1 r q
end
structure Am (N P:List Str)(sc:Scope):Prop where
 kind:sc.kind=.function
 co:sc.isCoroutine=false
 gen:sc.isGenerator=false
 nd:N.Nodup
 pre:N.take P.length=P
 par:∀ x∈P,sc.names.lookup x=some .local\/sc.names.lookup x=some .cell
 abu:∀ y∈sc.names,y.2≠.free
theorem Ic {kindOf:Str->Option NameKind}{x:Str}:∀ {binds:List (Str × Value)} {m:Str->Option Value},(∀ v,(x,v)∉binds)->bindL kindOf binds m x=m x
 | [],_,_=>rfl
 | (n,v)::r,m,h=>by
  unfold bindL;rw [Ic λw hw=>h w (List.mem_cons_of_mem _ hw)];split
  ·have:x≠n:=(by rintro rfl;exact h v List.mem_cons_self);simp [this]
  ·rfl
theorem Ie {kindOf:Str->Option NameKind}{x:Str}:∀ {binds:List (Str × Value)} {m:Str->Option Value},(∀ v,(x,v)∉binds)->bindC kindOf binds m x=m x
 | [],_,_=>rfl
 | (n,v)::r,m,h=>by
  unfold bindC;rw [Ie λw hw=>h w (List.mem_cons_of_mem _ hw)];split
  ·rfl
  ·have:x≠n:=(by rintro rfl;exact h v List.mem_cons_self);simp [this]
theorem Ig {kindOf:Str->Option NameKind}{x:Str}{v:Value}:∀ {P:List Str} {vs:List Value} {i:Nat} {m:Str->Option Value},P.Nodup->P[i]?=some x->vs[i]?=some v->kindOf x=some .local ->
  bindL kindOf (P.zip vs) m x=some v
 | [],_,_,_,_,h,_,_=>by simp at h
 | _::_,[],_,_,_,_,h,_=>by simp at h
 | p::P,w::vs,0,m,nd,h1,h2,hk=>by
  simp at h1 h2;subst h1;subst h2;show bindL kindOf ((p,w)::P.zip vs) m p=_;unfold bindL;rw [Ic λv hv=>(List.nodup_cons.mp nd).1 (List.of_mem_zip hv).1,if_pos hk];simp
 | p::P,w::vs,i+1,m,nd,h1,h2,hk=>by
  show bindL kindOf ((p,w)::P.zip vs) m x=_;unfold bindL;exact Ig (i:=i) (List.nodup_cons.mp nd).2 (by simpa using h1) (by simpa using h2) hk
theorem Ih {kindOf:Str->Option NameKind}{x:Str}{v:Value}:∀ {P:List Str} {vs:List Value} {i:Nat} {m:Str->Option Value},P.Nodup->P[i]?=some x->vs[i]?=some v->kindOf x≠some .local ->
  bindC kindOf (P.zip vs) m x=some v
 | [],_,_,_,_,h,_,_=>by simp at h
 | _::_,[],_,_,_,_,h,_=>by simp at h
 | p::P,w::vs,0,m,nd,h1,h2,hk=>by
  simp at h1 h2;subst h1;subst h2;show bindC kindOf ((p,w)::P.zip vs) m p=_;unfold bindC;rw [Ie λv hv=>(List.nodup_cons.mp nd).1 (List.of_mem_zip hv).1,if_neg hk];simp
 | p::P,w::vs,i+1,m,nd,h1,h2,hk=>by
  show bindC kindOf ((p,w)::P.zip vs) m x=_;unfold bindC;exact Ih (i:=i) (List.nodup_cons.mp nd).2 (by simpa using h1) (by simpa using h2) hk
noncomputable def start (N:List Str)(vs:List V):St:=vs.map some++List.replicate (N.length - vs.length) none
noncomputable def BQ (CX:KW)(P:Program)(w:World)(K:W.Frag)(mg:Str->Option Value)(base:Heap)(N:List Str)(qual:Str)(scope:Scope)(f:Addr)(cd:Value)(A:Around)(outer:List Env)(s:Shared)(H:Hp)(E:XK):Cx where
 prog:=P
 w:=w
 K:=K
 mg:=mg
 base:=base
 A:=A.deeper (envOfC qual scope s.heap.objs.size f cd)
 N:=N
 s₀:=s
 H₀:=H
 env:=envOfC qual scope s.heap.objs.size f cd
 outer:=outer
 stack:=envOfC qual scope s.heap.objs.size f cd::outer
 ex:=[]
 calm:=true
 fn:=λ_=>true
 pn:=[]
 xe:=λe s'=>wpAny (model P w) (A.deeper (envOfC qual scope s.heap.objs.size f cd)) (leaving (envOfC qual scope s.heap.objs.size f cd) e) (λ_ Zw=>CX outer H s E e Zw) (λe' Zw=>CX outer H s E e' Zw) s'
theorem JF {sc:Scope}{n:Nat}{x:Str}(h:sc.names.lookup x=some .cell):∃ c,(cellsFrom n sc.names []).lookup x=some c:=by
 have q:=W.cellsFrom_some sc.names n [] (.inl h);exact Option.isSome_iff_exists.mp q
theorem Ii {CX:KW}{P:Program}{w:World}{K:W.Frag}{mg:Str->Option Value}{base:Heap}{N ps:List Str}{qual:Str}{scope:Scope}{f:Addr}{cd:Value}{A:Around}{outer:List Env}{s s1:Shared}{H:Hp}{E:XK}{us:List Value}{vs:List V}
  (S:Am N ps scope) (hd:A.handled=none) (e0:Si P w K mg base A outer s H) (hl:vs.length=ps.length) (r:Vals vs us)
  (x:InCallC s s.heap.objs.size (bindL (envOfC qual scope s.heap.objs.size f cd).kindOf (ps.zip us) λ_=>none) (cellsFrom (s.heap.objs.size+1) scope.names []) (bindC (envOfC qual scope s.heap.objs.size f cd).kindOf (ps.zip us) λ_=>none) s1) :
  Inv (BQ CX P w K mg base N qual scope f cd A outer s H E) [] (start N vs) H s1:=by
 have Ci:ps.length<=N.length:=by have:=congrArg List.length S.pre;rw [List.length_take] at this;omega
 obtain ⟨h1,tk,rfl,hk⟩:=x.done;have W9:∀ b:Addr,b∉(BQ CX P w K mg base N qual scope f cd A outer s H E).ex:=λb z=>absurd (show b∈([]:List Addr) from z) (by simp);refine ⟨⟨e0.mod,S.kind,rfl,rfl,Nat.le_refl _,λy z c h1 h2=>?_,λy hy=>?_,λy c _ h=>?_,λ_=>hd,Around.frames_deeper e0.frames,.inr ⟨rfl,rfl⟩,λb z=>absurd z (W9 b),e0.bs,e0.bsz,λb _ _=>W9 b,λb z=>absurd z (W9 b),e0.aa6,e0.frf⟩,
  rfl,e0.bare,Un.kept hk,⟨_,x.toInCall.ns,λi y v h1 h2 h3=>?_⟩,λy c h=>⟨_,x.cell y c h⟩,e0.hok.fresh (Nat.le_refl _),λy c h=>?_,λp hp=>absurd (show p∈([]:List (Addr × Obj)) from hp) (by simp),e0.hok.kept hk,?_⟩
 ·exact name_of_addr x.apart (PySem.mem_of_lookup h1) (PySem.mem_of_lookup h2)
 ·have hy:scope.names.lookup y=some .cell\/scope.names.lookup y=some .free:=hy;rcases hy with hy | hy
  ·exact JF hy
  ·exact absurd rfl (S.abu _ (PySem.mem_of_lookup hy))
 ·exact Nat.le_of_lt (x.above y c (PySem.mem_of_lookup h))
 ·have hi:i < vs.length:=by
   unfold start at h2;by_cases hi:i < vs.length
   ·exact hi
   ·rw [List.getElem?_append_right (by simpa using hi)] at h2;rw [List.getElem?_replicate] at h2;split at h2 <;> cases h2
  have ha:vs[i]?=some v:=by
   unfold start at h2;rw [List.getElem?_append_left (by simpa using hi),List.getElem?_map] at h2;cases e:vs[i]? with
   | none=>rw [e] at h2;cases h2
   | some a=>rw [e] at h2;cases h2;rfl
  obtain ⟨u,hu,rv⟩:=r.get ha;have hp:ps[i]?=some y:=by
   rw [<- S.pre,List.getElem?_take_of_lt ()];exact h1
  have nY:ps.Nodup:=by rw [<- S.pre];exact S.nd.sublist (List.take_sublist _ _)
  refine ⟨u,rv,?_⟩;rcases S.par y (List.mem_of_getElem? hp) with k | k
  ·exact .inl ⟨k,Ig nY hp hu k⟩
  ·obtain ⟨c,e⟩:=JF (n:=s.heap.objs.size+1) k;refine .inr ⟨.inl k,c,e,?_⟩;have q:=x.cell y c e;rw [Ih nY hp hu (by show scope.names.lookup y≠_;rw [k];decide)] at q;exact q
 ·exact e0.hok.fresh (Nat.le_of_lt (x.above y c (PySem.mem_of_lookup h)))
 ·unfold start;show _=N.length;rw [List.length_append,List.length_map,List.length_replicate];omega
theorem Pc {CX:KW}{P:Program}{w:World}{K:W.Frag}{mg:Str->Option Value}{base:Heap}{k:Nat}{f:Addr}{name qual:Str}{params:Arguments}{body:List Stmt}{scope:Scope}{dV kV doc pm B9 ct oc:Value}{an od:Option Addr}
  {Ot:Array (Option Value)} {N ps:List Str} {sp:Sp} (lk:K.lookup f=some ⟨oc,od,.func (W.fnOf name qual params body scope dV kV doc pm an B9 ct),Ot⟩) (Gy:W.codeIn K B9 qual=true) (S:Am N ps scope)
  (len:∀ vs H Q E,sp vs H Q E->vs.length=ps.length)
  (EU:∀ (A:Around) (outer:List Env) (s:Shared) (H:Hp) (vs:List V) (Q:VK) (E:XK),AG k (A.deeper (envOfC qual scope s.heap.objs.size f B9))->sp vs H Q E ->
   ∃ t,L7 (BQ CX P w K mg base N qual scope f B9 A outer s H E) body t/\t { nx:=λ_ H'=>Q .non H',rt:=Q } (start N vs) H) :
  Av P w K mg base CX (k+1) f (W.fnOf name qual params body scope dV kV doc pm an B9 ct) ps sp:=by
 refine ⟨len,λA outer s H args us vs Q E hr e0 hb r Ou=>?_⟩;have hl:=len _ _ _ _ Ou;have KX:K.In s.heap:=e0.mod.kin.keeps λb o e=>(e0.bs b o e).1;have lim:s.heap.NoLimit:=e0.mod.nolimit.keeps λb o e=>(e0.bs b o e).1;have Pd:∀ y∈ps.zip us,scope.names.lookup y.1=some .local\/(scope.names.lookup y.1=some .cell/\((cellsFrom (s.heap.objs.size+1) scope.names []).lookup y.1).isSome=true):=λ⟨n,v⟩ hy=>by
  rcases S.par n (List.of_mem_zip hy).1 with q | q
  ·exact .inl q
  ·exact .inr ⟨q,W.cellsFrom_some _ _ _ (.inl q)⟩
 refine codeAny_call_function hr.depth (KX _ _ lk) rfl S.co S.gen rfl (W.codeRec_of KX Gy) (hb _ _ _ _ ?_);refine wpAny_newFunctionEnv_cells S.kind Pd λenv he s1 x=>?_;subst he;refine ⟨lim.keeps x.toInCall.keep,codeAny_func ?_⟩;obtain ⟨t,ht,hq⟩:=EU A outer s H vs Q E (hr.deeper _) Ou;have I:Inv (BQ CX P w K mg base N qual scope f B9 A outer s H E) [] (start N vs) H s1:=Ii S hr.hd e0 hl r x;refine wpAny_mono (ht [] s1 (start N vs) H _ I hq) (λfl s' hs=>?_) λe s' hs=>hs;have fin:∀ {σ':St} {H':Hp} {v:V} {u:Value},Inv (BQ CX P w K mg base N qual scope f B9 A outer s H E) [] σ' H' s'->RelV v u->Q v H'->CE outer P w H s Q u s' :=
  λ{σ' H' v u} J rv q=>⟨v,H',J.os,J.bare,J.base,J.hok,rv,q⟩
 cases fl with
 | ret u =>
  obtain ⟨v,σ',H',J,rv,q⟩:=hs;exact fin J rv q
 | next =>
  obtain ⟨σ',H',J,q⟩:=hs;exact fin (v:=V.non) (u:=Value.none) J rfl q
 | brk =>
  obtain ⟨_,_,_,q⟩:=hs;exact False.elim q
 | cont =>
  obtain ⟨_,_,_,q⟩:=hs;exact False.elim q
section
variable {X:Cx}{x:Str}{p pos:Pos}{e:Expr}{es:List Expr}{t:TA}{id T:String}{r:List V->Hp->VK->Prop}
noncomputable def Wa (r:List V->Hp->VK->Prop)(t:TA):TE:=fun σ H Q=>t σ H λvs H1=>r vs H1 Q
theorem JG (hc:Cc X (.builtin id) r)(hg:Gl X x)(hm:X.mg x=none)(hv:bootBuiltins x=some (.builtin id))(ha:PA X (e::es) t)(hn:x≠"__name__":=by decide)(CW:(x==("__debug__":Str))=false:=by decide)
  (he:starEach (e::es) X.env=(false,eval e X.env)::starEach es X.env:=by rfl) (Ci:(backTo pos (starEach es X.env)).any (·.1)=false:=by rfl):PE X (.Call (.Name x p) (e::es) [] pos) (Wa r t):=by
 intro pins s σ H Q I h;refine wpAny_Call_Name_kw (Dt I hg hm hv ?_ hn CW);exact PyProof.Rows.callWith_builtin1 (AX (ha pos pins s σ H _ I h) λus s1 ⟨vs,H1,I1,r1,q1⟩=>hc pins s1 σ H1 vs us Q I1 r1 q1) he Ci
theorem Nr (hc:Cc X (.type T) r)(hg:Gl X x)(hm:X.mg x=none)(hv:bootBuiltins x=some (.type T))(ha:PA X (e::es) t)(hn:x≠"__name__":=by decide)(CW:(x==("__debug__":Str))=false:=by decide)
  (he:starEach (e::es) X.env=(false,eval e X.env)::starEach es X.env:=by rfl) (Ci:(backTo pos (starEach es X.env)).any (·.1)=false:=by rfl):PE X (.Call (.Name x p) (e::es) [] pos) (Wa r t):=by
 intro pins s σ H Q I h;refine wpAny_Call_Name_kw (Dt I hg hm hv ?_ hn CW);exact PyProof.Rows.callWith_type1 (AX (ha pos pins s σ H _ I h) λus s1 ⟨vs,H1,I1,r1,q1⟩=>hc pins s1 σ H1 vs us Q I1 r1 q1) he Ci
end
end L2
namespace HT
open PySem PyProof.Rows
section
variable {prog:Program}{w:World}{A:Around}{E:Value->Shared->Prop}{s:Shared}
theorem abn {t b:Addr}{vs ws:List Value}{Q:Value->Shared->Prop}(ht:IsTup s.heap t vs.toArray)(hb:IsTup s.heap b ws.toArray)(hv:vs≠[])
  (h1:ws=[]->Q (.ref t) s) (h2:ws≠[]->Q (.ref s.heap.objs.size) { s with heap:=s.heap.push { cls:=.type "tuple",data:=.seq (vs++ws).toArray } })
  (F':vs.length+ws.length<=sizeLine):wpAny (model prog w) A (binaryOp .Add (.ref t) (.ref b)) Q E s:=by
 obtain ⟨⟨cls,dd,data,sl⟩,ho,hc,n,hd⟩:=id ht;obtain ⟨⟨rE,dN,data2,dO⟩,UD,nZ,n2,hd2⟩:=id hb;simp only at hc hd nZ hd2;subst hc hd nZ hd2;have e:vs.toArray++ws.toArray=(vs++ws).toArray:=by simp
 by_cases hw:ws=[]
 ·exact concat_meets ⟨_,ho,rfl⟩ ⟨_,UD,rfl⟩ noFill_tuple_add seq_tuple_add PySem.F.slot_tuple_add PySem.F.entry_tuple_add (PySem.F.args_tuple_add_2 _ _)
   (tuple_addW1 t b vs.toArray ws.toArray n n2 dd dN sl dO (by simpa using hv) (by simp [hw])) ⟨ho,UD,h1 hw⟩
 ·refine concat_meets ⟨_,ho,rfl⟩ ⟨_,UD,rfl⟩ noFill_tuple_add seq_tuple_add PySem.F.slot_tuple_add PySem.F.entry_tuple_add (PySem.F.args_tuple_add_2 _ _)
   (tuple_addW2 t b vs.toArray ws.toArray n n2 dd dN sl dO (by simpa using hv) (by simpa using hw) (by rw [List.size_toArray,List.size_toArray];exact F')) ⟨ho,UD,?_⟩
  rw [e];exact h2 hw
noncomputable def sIx (n d:Nat):Option Int->Nat
 | none=>d
 | some v=>if v < 0 then (v+(n:Int)).toNat else min v.toNat n
theorem aa8 (n d:Nat):sIx n d none=d:=rfl
theorem aal (n d k:Nat):sIx n d (some (k:Int))=min k n:=by
 show (if (k:Int) < 0 then ((k:Int)+(n:Int)).toNat else min (k:Int).toNat n)=min k n
 rw [if_neg (),Int.toNat_natCast]
theorem Wb (n d:Nat)(hd:d<=n)(o:Option Int):sIx n d o<=n:=by
 cases o with
 | none=>exact hd
 | some v =>
  show (if v < 0 then (v+(n:Int)).toNat else min v.toNat n)<=n
  by_cases hv:v < 0
  ·rw [if_pos hv];omega
  ·rw [if_neg hv];exact Nat.min_le_right _ _
theorem Mm (v:Int)(n d:Nat):(if v < 0 then max (v+(n:Int)) 0 else min v (n:Int))=((sIx n d (some v):Nat):Int):=by
 show (if v < 0 then max (v+(n:Int)) 0 else min v (n:Int))=(((if v < 0 then (v+(n:Int)).toNat else min v.toNat n):Nat):Int)
 by_cases hv:v < 0
 ·simp only [if_pos hv];omega
 ·simp only [if_neg hv];omega
theorem Lh (lo hi:Option Int)(n:Nat):Builtin.Slice.sliceAdjust lo hi 1 (n:Int)=(((sIx n 0 lo:Nat):Int),((sIx n n hi:Nat):Int)):=by
 have h1:¬ ((1:Int) < 0):=by omega
 unfold Builtin.Slice.sliceAdjust;simp only [h1,if_false];refine Prod.ext ?_ ?_
 ·cases lo with
  | none=>rfl
  | some v=>exact Mm v n 0
 ·cases hi with
  | none=>rfl
  | some v=>exact Mm v n n
theorem Li (i j:Nat):Builtin.Slice.slicePlaces (i:Int) (j:Int) 1=j - i:=by
 unfold Builtin.Slice.slicePlaces;have h1:(1:Int) > 0:=by omega
 simp only [h1,if_true,Int.ediv_one];split <;> omega
theorem GJ {v:Value}{o:Option Int}{Q:Option Int->Shared->Prop}(p:IsPart v o)(h:Q o s):wpAny (model prog w) A (Builtin.Slice.slicePartIndex v) Q E s:=by
 cases p with
 | none=>exact slicePart_none h
 | int i t=>exact slicePart_int h
theorem Fs {sl:Addr}{vl vu:Value}{lo hi:Option Int}{n:Nat}{Q:Int × Int × Nat->Shared->Prop}(hs:s.heap.IsSliceOf sl vl vu .none)(pl:IsPart vl lo)(pu:IsPart vu hi)
  (h:Q (((sIx n 0 lo:Nat):Int),1,sIx n n hi - sIx n 0 lo) s):wpAny (model prog w) A (Builtin.Slice.sliceApplied (.ref sl) (pure (n:Int))) Q E s:=by
 obtain ⟨os,Wc,o6,dP⟩:=id hs;unfold Builtin.Slice.sliceApplied Builtin.Slice.sliceFields;refine wpAny_bind (wpAny_bind (wpAny_field Wc dP (x:=vl) rfl (wpAny_bind (wpAny_field Wc dP (x:=vu) rfl (wpAny_bind (wpAny_field Wc dP (x:=.none) rfl (wpAny_pure ?_)))))));refine wpAny_bind (slicePart_none ?_);show wpAny _ _ (if ((1:Int)==0)=true then _ else _) _ _ s
 rw [if_neg ⟨⟩];refine wpAny_bind (GJ pl (wpAny_bind (GJ pu (wpAny_bind (wpAny_pure ?_)))));show wpAny _ _ (match Builtin.Slice.sliceAdjust lo hi 1 (n:Int) with | (lo,hi)=>pure (lo,(1:Int),Builtin.Slice.slicePlaces lo hi 1)) _ _ s
 rw [Lh lo hi n];show wpAny _ _ (pure (((sIx n 0 lo:Nat):Int),(1:Int),Builtin.Slice.slicePlaces ((sIx n 0 lo:Nat):Int) ((sIx n n hi:Nat):Int) 1)) _ _ s;rw [Li];exact wpAny_pure h
theorem Pe (xs:Array Value)(i k:Nat):((List.range k).filterMap λ(m:Nat)=>xs[((i:Int)+(m:Int) * 1).toNat]?).toArray=((xs.toList.drop i).take k).toArray:=by
 have e:(λ(m:Nat)=>xs[((i:Int)+(m:Int) * 1).toNat]?)=λm=>xs[i+m]?:=by
  funext m
  have:((i:Int)+(m:Int) * 1).toNat=i+m:=by omega
  rw [this]
 rw [e];have:=pick_run xs i k;rw [List.filterMap_map] at this;have e2:((λx=>xs[x]?) ∘ λx=>i+x)=λm=>xs[i+m]?:=rfl;rw [e2] at this;rw [this]
theorem aak {t sl:Addr}{items:Array Value}{vl vu:Value}{lo hi:Option Int}{Q:Value->Shared->Prop}(ht:IsTup s.heap t items)(hs:s.heap.IsSliceOf sl vl vu .none)(pl:IsPart vl lo)(pu:IsPart vu hi)
  (hw:¬ (sIx items.size 0 lo=0/\sIx items.size items.size hi=items.size))
  (h:Q (.ref s.heap.objs.size) { s with heap:=s.heap.push { cls:=.type "tuple",data:=.seq ((items.toList.drop (sIx items.size 0 lo)).take (sIx items.size items.size hi - sIx items.size 0 lo)).toArray } })
  (F':items.size<=sizeLine):wpAny (model prog w) A (getItem (.ref t) (.ref sl)) Q E s:=by
 have Mn:sizeOk (.seq ((items.toList.drop (sIx items.size 0 lo)).take (sIx items.size items.size hi - sIx items.size 0 lo)).toArray):=by
  show ((items.toList.drop (sIx items.size 0 lo)).take (sIx items.size items.size hi - sIx items.size 0 lo)).toArray.size<=sizeLine;rw [List.size_toArray,List.length_take,List.length_drop,Array.length_toList];omega
 have hj:sIx items.size items.size hi<=items.size:=Wb _ _ (Nat.le_refl _) hi;obtain ⟨os,Wc,o6,dP⟩:=id hs;have dQ:s.TypeIs (.ref sl) "slice":=⟨os,Wc,o6⟩;unfold getItem
 try with_reducible refine wpAny_holding ?_
 first | refine wpAny_bind (wpAny_pure ?_) | skip
 refine wpAny_bind (wpAny_sequenceKey ht.typeIs ⟨⟩ ?_);refine wpAny_bind (wpAny_callSpecial?_slot (name:=Str.ofString "__getitem__") ht.typeIs PyProof.Rows.slot_tuple_getitem
  (wpAny_call_entry PyProof.Rows.slot_tuple_getitem ht.typeIs entry_tuple_getitem ?_ (args_tuple_getitem _ _)))
 show wpAny _ _ (Builtin.Tuple.tupleItemsOf (.ref t) >>= _) _ _ s;refine wpAny_bind (tupleItemsOf_ ht ?_);refine wpAny_bind (wpAny_typeOf dQ ?_);rw [if_pos ⟨⟩];refine wpAny_bind (Fs hs pl pu ?_);have dR:¬ ((((sIx items.size 0 lo:Nat):Int)==0 && (1:Int)==1 && (sIx items.size items.size hi - sIx items.size 0 lo)==items.size)=true):=by
  intro q;rw [Bool.and_eq_true,Bool.and_eq_true] at q;have q1:((sIx items.size 0 lo:Nat):Int)=0:=eq_of_beq q.1.1;have q2:sIx items.size items.size hi - sIx items.size 0 lo=items.size:=eq_of_beq q.2;exact hw ⟨(),()⟩
 show wpAny _ _ (if (((sIx items.size 0 lo:Nat):Int)==0 && (1:Int)==1 && (sIx items.size items.size hi - sIx items.size 0 lo)==items.size)=true then _ else _) _ _ s
 rw [if_neg dR,Pe]
 first
  | exact wpAny_bind (m:=Builtin.Tuple.tupleExact _) (wpAny_newObj_type (wpAny_pure ⟨_,rfl,wpAny_pure h⟩) Mn)
  | exact wpAny_bind (m:=Builtin.Tuple.tupleExact _) (wpAny_newObj_type (wpAny_bind (wpAny_pure (wpAny_pure ⟨_,rfl,wpAny_pure h⟩))) Mn)
  | exact wpAny_bind (wpAny_bind (m:=Builtin.Tuple.tupleExact _) (wpAny_newObj_type (wpAny_pure (wpAny_pure ⟨_,rfl,wpAny_pure h⟩)) Mn))
  | exact wpAny_bind (wpAny_bind (m:=Builtin.Tuple.tupleExact _) (wpAny_newObj_type (wpAny_pure ⟨_,rfl,wpAny_pure h⟩) Mn))
end
end HT
namespace L2
open PySem PySem.Spec PyProof.Rows
abbrev TO:=St->Hp->(Option Int->Hp->Prop)->Prop
noncomputable def PO (X:Cx)(e:Option Expr)(t:TO):Prop :=
 ∀ (pins:List (Addr × Obj)) (s:Shared) (σ:St) (H:Hp) (Q:Option Int->Hp->Prop),Inv X pins σ H s->t σ H Q ->
  wpAny (model X.prog X.w) X.A (evalPart e X.env) (λu s'=>∃ o H',Inv X pins σ H' s'/\IsPart u o/\Q o H') X.xe s
noncomputable def IU:TO:=λ_ H Q=>Q none H
noncomputable def Pf (t:TE):TO:=fun σ H Q=>t σ H λx H1=>∃ i,x=.int i/\Q (some i) H1
section
variable {X:Cx}{e:Expr}{te:TE}{lo hi:Option Expr}{tl th:TO}{pos p2:Pos}
theorem Sj:PO X none IU:=by
 intro pins s σ H Q I h;rw [evalPart_none];exact wpAny_pure ⟨none,H,I,.none,h⟩
theorem Sk (h:PE X e te):PO X (some e) (Pf te):=by
 intro pins s σ H Q I hw;rw [evalPart_some];refine AX (h pins s σ H _ I hw) λu s1 AO=>?_;obtain ⟨x,H1,I1,r1,q1⟩:=AO;obtain ⟨i,rfl,q⟩:=q1;obtain ⟨t,rfl⟩:=r1;exact ⟨some i,H1,I1,.int i t,q⟩
noncomputable def dS (X:Cx)(r:V->Option Int->Option Int->Hp->VK->Prop):Prop :=
 ∀ (pins:List (Addr × Obj)) (s:Shared) (σ:St) (H:Hp) (x:V) (v vl vu:Value) (lo hi:Option Int) (sl:Addr) (Q:VK),Inv X pins σ H s->RelV x v->s.heap.IsSliceOf sl vl vu .none->IsPart vl lo->IsPart vu hi->r x lo hi H Q ->
  ∃ T id,typeLookup (.type T) "__getitem__"=pure (some (.builtin id))/\s.TypeIs v T/\wpAny (model X.prog X.w) X.A (getItem v (.ref sl)) (EP X pins σ Q) X.xe s
noncomputable def gT (r:V->Option Int->Option Int->Hp->VK->Prop)(te:TE)(tl th:TO):TE:=fun σ H Q=>te σ H λx H1=>tl σ H1 λl H2=>th σ H2 λu H3=>r x l u H3 Q
theorem Pg {r:V->Option Int->Option Int->Hp->VK->Prop}(hr:dS X r)(he:PE X e te)(hl:PO X lo tl)(hu:PO X hi th):PE X (.Subscript e (.Slice lo hi none p2) pos) (gT r te tl th):=by
 intro pins s σ H Q I h;refine Subscript_ (AX (he pins s σ H _ I h) λv s1 AO=>?_);obtain ⟨x,H1,I1,r1,q1⟩:=AO;refine wpAny_Slice (AX (hl pins s1 σ H1 _ I1 q1) λvl s2 AO=>?_);obtain ⟨l,H2,I2,pl,q2⟩:=AO;refine AX (hu pins s2 σ H2 _ I2 q2) λvu s3 AO=>?_;obtain ⟨u,H3,I3,pu,q3⟩:=AO;rw [evalPart_none];refine wpAny_pure ?_;have I4:Inv X pins σ H3 { s3 with heap:=s3.heap.push { cls:=.type "slice",data:=.fields #[vl,vu,.none] } }:=I3.kept (t':=s3.toks) λb ob q=>Heap.get?_push_of_some _ q;obtain ⟨T,id,hT,ht,hg⟩:=hr pins { s3 with heap:=s3.heap.push { cls:=.type "slice",data:=.fields #[vl,vu,.none] } } σ H3 x v vl vu l u s3.heap.objs.size Q I4 r1 (Heap.IsSliceOf.new ..) pl pu q3;show wpAny (model X.prog X.w) X.A (subscriptTail e (.Slice lo hi none p2) v (.ref s3.heap.objs.size)) (EP X pins σ Q) X.xe { s3 with heap:=s3.heap.push { cls:=.type "slice",data:=.fields #[vl,vu,.none] } };exact tail_any (ops:=[.ref s3.heap.objs.size,v]) ht hT hg (by with_unfolding_all rfl)
noncomputable def Dj (xs:List V)(lo hi:Option Int):List V:=(xs.drop (HT.sIx xs.length 0 lo)).take (HT.sIx xs.length xs.length hi - HT.sIx xs.length 0 lo)
theorem FP (xs:List V)(lo hi:Option Int):(Dj xs lo hi).length<=xs.length:=by
 unfold Dj;rw [List.length_take,List.length_drop];omega
noncomputable def G0 (K:W.Frag):V->Option Int->Option Int->Hp->VK->Prop:=λx lo hi H Q=>∃ a xs,x=.ref a/\B0 K H a xs /\
 ¬ (HT.sIx xs.length 0 lo=0/\HT.sIx xs.length xs.length hi=xs.length)/\∀ p,H p=none->Q (.ref p) (upd H p (.tup (Dj xs lo hi)))
theorem D9:dS X (G0 X.K):=by
 intro pins s σ H x v vl vu lo hi sl Q I rx hs pl pu h;obtain ⟨a,xs,rfl,hx,hw,q⟩:=h;cases rx;obtain ⟨its,r,ht,hz⟩:=I.tuple hx;have hlen:its.toArray.size=xs.length:=by rw [List.size_toArray];exact r.length.symm
 refine ⟨"tuple",_,PyProof.Rows.slot_tuple_getitem.lookup,ht.typeIs,?_⟩;refine HT.aak ht hs pl pu (by rw [hlen];exact hw) ?_ (by rw [hlen];exact hz);rw [hlen];refine ⟨.ref s.heap.objs.size,_,I.laid (t':=s.toks) (o:=.tup (Dj xs lo hi)) (λb ob q=>Heap.get?_push_of_some _ q) (Nat.le_refl _) ?_,rfl,q _ (I.hok.fresh (Nat.le_refl _))⟩;exact ⟨Nat.le_trans (FP xs lo hi) hz,_,(r.drop (HT.sIx xs.length 0 lo)).take (HT.sIx xs.length xs.length hi - HT.sIx xs.length 0 lo),IsTup.new _ _⟩
noncomputable def FQ (K:W.Frag):R2:=λx y H Q=>∃ a b xs ys,x=.ref a/\y=.ref b/\B0 K H a xs/\B0 K H b ys/\xs≠[]/\xs.length+ys.length<=sizeLine /\
 (ys=[]->Q (.ref a) H)/\(ys≠[]->∀ p,H p=none->Q (.ref p) (upd H p (.tup (xs++ys))))
theorem Vals.aa2 {xs:List V}{us:List Value}(r:Vals xs us):us=[]↔xs=[]:=by
 cases r with
 | nil=>simp
 | cons _ _=>simp
theorem EV:Em X (binaryOp .Add) (FQ X.K):=by
 intro pins s σ H x y v u Q I rx ry h;obtain ⟨a,b,xs,ys,rfl,rfl,ha,hb,hx,hz,q1,q2⟩:=h;cases rx;cases ry;obtain ⟨its,r1,p1,_⟩:=I.tuple ha;obtain ⟨IV,r2,p2,_⟩:=I.tuple hb;refine HT.abn p1 p2 (λz=>hx (r1.aa2.mp z)) (λz=>⟨.ref a,H,I,rfl,q1 (r2.aa2.mp z)⟩) (λz=>?_) (by rw [<- r1.length,<- r2.length];exact hz);refine ⟨.ref s.heap.objs.size,_,I.laid (t':=s.toks) (o:=.tup (xs++ys)) (λb ob q=>Heap.get?_push_of_some _ q) (Nat.le_refl _) ?_,rfl,q2 (λw=>z (r2.aa2.mpr w)) _ (I.hok.fresh (Nat.le_refl _))⟩;exact ⟨by rw [List.length_append];exact hz,_,r1.append r2,IsTup.new _ _⟩
end
noncomputable def Sl (n:Nat)(i:Int):Option Nat:=if 0<=i then (if i < n then some i.toNat else none) else if -(n:Int)<=i then some (i+n).toNat else none
noncomputable def KY {α:Type}(xs:List α)(i:Int):Option α:=(Sl xs.length i).bind λj=>xs[j]?
theorem Mp {n:Nat}{i:Int}{j:Nat}(h:Sl n i=some j):seqIndex? i n=some j/\j < n/\-(n:Int)<=i/\i < n:=by
 unfold Sl at h;by_cases h0:0<=i
 ·rw [if_pos h0] at h;by_cases h1:i < n
  ·rw [if_pos h1] at h;have e:i.toNat=j:=Option.some.inj h;exact ⟨by rw [seqIndex_of h0 h1,e],(),(),h1⟩
  ·rw [if_neg h1] at h;cases h
 ·rw [if_neg h0] at h;by_cases h1:-(n:Int)<=i
  ·rw [if_pos h1] at h;have e:(i+n).toNat=j:=Option.some.inj h;exact ⟨by rw [seqIndex_neg () h1,e],(),h1,()⟩
  ·rw [if_neg h1] at h;cases h
theorem Mq {α:Type}{xs:List α}{i:Int}{v:α}(h:KY xs i=some v):∃ j,seqIndex? i xs.length=some j/\xs[j]?=some v/\j < xs.length/\-(xs.length:Int)<=i/\i < xs.length:=by
 unfold KY at h;cases e:Sl xs.length i with
 | none=>rw [e] at h;cases h
 | some j =>
  rw [e] at h;obtain ⟨h1,h2,h3,h4⟩:=Mp e;exact ⟨j,h1,h,h2,h3,h4⟩
theorem Ad {α:Type}{xs:List α}{j:Nat}{v:α}(h:xs[j]?=some v):KY xs (j:Int)=some v:=by
 have hj:j < xs.length:=(List.getElem?_eq_some_iff.mp h).1;have e:Sl xs.length (j:Int)=some j:=by
  unfold Sl;rw [if_pos (),if_pos ()];simp
 unfold KY;rw [e];exact h
noncomputable def Mr (b:Expr):Prop:=∀ o i,subscripted b false o i=operate [o,i] (getItem o i)
noncomputable def Zx (X:Cx)(r:R2):Prop :=
 ∀ (value slice:Expr) (pins:List (Addr × Obj)) (s:Shared) (σ:St) (H:Hp) (x y:V) (v u:Value) (Q:VK),Inv X pins σ H s->RelV x v->RelV y u->r x y H Q ->
  subscripted slice false v u=operate [v,u] (getItem v u)->wpAny (model X.prog X.w) X.A (subscriptTail value slice v u) (EP X pins σ Q) X.xe s
noncomputable def dU (X:Cx)(id:String)(r:V->List V->Hp->VK->Prop):Prop :=
 ∀ (pins:List (Addr × Obj)) (s:Shared) (σ:St) (H:Hp) (x:V) (xs:List V) (v:Value) (us:List Value) (Q:VK),Inv X pins σ H s->RelV x v->Vals xs us->r x xs H Q ->
  wpAny (model X.prog X.w) X.A (call (.builtin id) (v::us)) (EP X pins σ Q) X.xe s
section
variable {X:Cx}{a b:Expr}{ta tb:TE}{pos:Pos}
theorem UE {r:R2}(hr:Zx X r)(ha:PE X a ta)(hb:PE X b tb)(hs:Mr b):PE X (.Subscript a b pos) (Fj r ta tb):=by
 intro pins s σ H Q I h;exact Subscript_ (W3 ha hb I h λv u s2 x y H2 I2 rx ry q=>hr a b pins s2 σ H2 x y v u Q I2 rx ry q (hs _ _))
noncomputable def C3 (K:W.Frag):R2:=λx y H Q=>∃ p xs i v,x=.ref p/\y=.int i/\AI K H p xs/\KY xs i=some v/\Q v H
noncomputable def Bg (K:W.Frag):R2:=λx y H Q=>∃ p xs i v,x=.ref p/\y=.int i/\B0 K H p xs/\KY xs i=some v/\Q v H
theorem AE:Zx X (C3 X.K):=by
 intro value slice pins s σ H x y v u Q I rx ry h hs;obtain ⟨p,xs,i,z,rfl,rfl,hq,he,q⟩:=h;cases rx;obtain ⟨t,rfl⟩:=ry;obtain ⟨its,r,pl,hz⟩:=I.list hq;obtain ⟨j,h1,h2,h3,h4,h5⟩:=Mq he;obtain ⟨w,ew,Ij⟩:=r.get h2;have hl:=r.length;have hn:=GH;have fin:EP X pins σ Q w s:=⟨z,H,I,Ij,q⟩;by_cases h0:0<=i
 ·have hj:i.toNat=j:=by
   rw [seqIndex_of h0 h5] at h1;exact Option.some.inj h1
  exact item_listR pl.isList h0 () (by rw [hj];simpa using ew) fin hs
 ·have hj:(i+(its.toArray.size:Int)).toNat=j:=by
   rw [seqIndex_neg () h4] at h1;rw [List.size_toArray,<- hl];exact Option.some.inj h1
  exact subscriptTail_builtinR (x:=w) pl.isList.typeIs slot_list_getitem.lookup
   (wpAny_getItem_list_neg (Q:=λr s'=>r=w/\EP X pins σ Q r s') pl.isList () (by rw [List.size_toArray] <;> omega) () (by rw [hj];simpa using ew) ⟨rfl,fin⟩) hs
theorem Aw:Zx X (Bg X.K):=by
 intro value slice pins s σ H x y v u Q I rx ry h hs;obtain ⟨p,xs,i,z,rfl,rfl,hq,he,q⟩:=h;cases rx;obtain ⟨t,rfl⟩:=ry;obtain ⟨its,r,pl,hz⟩:=I.tuple hq;obtain ⟨j,h1,h2,h3,h4,h5⟩:=Mq he;obtain ⟨w,ew,Ij⟩:=r.get h2;have hl:=r.length;have hn:=GH;have fin:EP X pins σ Q w s:=⟨z,H,I,Ij,q⟩;exact subscriptTail_builtinR (x:=w) pl.typeIs slot_tuple_getitem.lookup
  (getItem_tuple (j:=j) (Q:=λr s'=>r=w/\EP X pins σ Q r s') pl () () (by rw [List.size_toArray,<- hl];exact h1) (by simpa using ew) ⟨rfl,fin⟩) hs
theorem Lj (its:List Value)(n j:Nat)(u:Value):Obj.mapSeq (·.setIfInBounds j u) { cls:=.type "list",data:=.seq its.toArray n }={ cls:=.type "list",data:=.seq (its.set j u).toArray n }:=by
 simp [Obj.mapSeq]
theorem Inv.lst {pins:List (Addr × Obj)}{σ:St}{H:Hp}{s:Shared}{p:Addr}{xs:List V}(I:Inv X pins σ H s)(h:H p=some (.lst xs)):
  ∃ (its:List Value) (n:Nat),Vals xs its/\s.heap.get? p=some { cls:=.type "list",data:=.seq its.toArray n }/\xs.length<=sizeLine:=by
 obtain ⟨z,its,n,r,e⟩:=I.hok p _ h;exact ⟨its,n,r,e,z⟩
theorem Inv.abv {pins:List (Addr × Obj)}{σ:St}{H:Hp}{s:Shared}{p:Addr}{xs ys:List V}{its its':List Value}{n n':Nat}{f:Obj->Obj}(I:Inv X pins σ H s)(h:H p=some (.lst xs))
  (ho:s.heap.get? p=some { cls:=.type "list",data:=.seq its.toArray n }) (hf:f { cls:=.type "list",data:=.seq its.toArray n }={ cls:=.type "list",data:=.seq its'.toArray n' }) (r:Vals ys its') (hz:ys.length<=sizeLine) (t:Nat) :
  Inv X pins σ (upd H p (.lst ys)) { s with heap:=s.heap.update p f,toks:=t }:=by
 have e:(s.heap.update p f).get? p=some { cls:=.type "list",data:=.seq its'.toArray n' }:=by
  rw [Heap.get?_update_self f ho (by rw [hf] <;> rfl),hf]
 refine I.write (x:=p) (e:=p) (by rw [h];trivial) (.inl rfl) (λb u hb q=>(Heap.get?_update_other _ _ (Ne.symm hb)).trans q) ⟨_,e⟩ ?_;exact ⟨hz,its',n',r,e⟩
noncomputable def Zy:V->V->V->Hp->(Hp->Prop)->Prop:=λo i v H Q=>∃ p xs k j,o=.ref p/\i=.int k/\H p=some (.lst xs)/\Sl xs.length k=some j/\Q (upd H p (.lst (xs.set j v)))
theorem set_list:VP X Zy:=by
 intro pins s σ H o i v ov iv u Q I ro ri rv h;obtain ⟨p,xs,k,j,rfl,rfl,hp,hj,q⟩:=h;cases ro;obtain ⟨t,rfl⟩:=ri;obtain ⟨its,n,r,ho,hz⟩:=I.lst hp;obtain ⟨h1,h2,h3,h4⟩:=Mp hj;have hl:=r.length;have hn:=GH;have I':Inv X pins σ (upd H p (.lst (xs.set j v))) { s with heap:=s.heap.update p (Obj.mapSeq (·.setIfInBounds j u)) } :=
  I.abv hp ho (Lj its n j u) (r.set rv j) (by rw [List.length_set];exact hz) s.toks
 by_cases h0:0<=k
 ·have hk:k.toNat=j:=by
   rw [seqIndex_of h0 h4] at h1;exact Option.some.inj h1
  exact W.ki_setAt ho h0 () (by rw [List.size_toArray,<- hl];exact h4) (by rw [hk];exact ⟨_,I',q⟩)
 ·have hk:(k+(its.toArray.size:Int)).toNat=j:=by
   rw [seqIndex_neg () h3] at h1;rw [List.size_toArray,<- hl];exact Option.some.inj h1
  exact W.ki_setBack ho () (by rw [List.size_toArray,<- hl];exact h3) () (by rw [hk];exact ⟨_,I',q⟩)
theorem IW (lo hi:Option Int)(n:Nat):(sliceBounds lo hi none n).1=((HT.sIx n 0 lo:Nat):Int)/\(sliceBounds lo hi none n).2.1=((HT.sIx n n hi:Nat):Int)/\(sliceBounds lo hi none n).2.2=1:=by
 refine ⟨?_,?_,rfl⟩
 ·cases lo with
  | none=>simp [sliceBounds,HT.sIx]
  | some i =>
   simp only [sliceBounds,HT.sIx,Option.getD_none,show (1:Int) > 0 by decide,if_true];by_cases h:i < 0
   ·simp only [h,if_true] <;> omega
   ·simp only [h,if_false] <;> omega
 ·cases hi with
  | none=>simp [sliceBounds,HT.sIx]
  | some i =>
   simp only [sliceBounds,HT.sIx,Option.getD_none,show (1:Int) > 0 by decide,if_true];by_cases h:i < 0
   ·simp only [h,if_true] <;> omega
   ·simp only [h,if_false] <;> omega
theorem HJ (its:List Value)(lo hi:Option Int):slicePick its.toArray lo hi none=((its.drop (HT.sIx its.length 0 lo)).take (HT.sIx its.length its.length hi - HT.sIx its.length 0 lo)).toArray:=by
 obtain ⟨h1,h2,h3⟩:=IW lo hi its.toArray.size;unfold slicePick;rw [h1,h2,h3];simp only [sliceRange_one,pick_run,List.size_toArray] <;> rfl
noncomputable def Wd (K:W.Frag):V->Option Int->Option Int->Hp->VK->Prop:=λx lo hi H Q=>∃ a xs,x=.ref a/\AI K H a xs/\∀ p,H p=none->Q (.ref p) (upd H p (.lst (Dj xs lo hi)))
theorem Sm:dS X (Wd X.K):=by
 intro pins s σ H x v vl vu lo hi sl Q I rx hs pl pu h;obtain ⟨a,xs,rfl,hx,q⟩:=h;cases rx;obtain ⟨its,r,ht,hz⟩:=I.list hx;have hlen:=r.length;refine ⟨"list",_,slot_list_getitem.lookup,ht.isList.typeIs,?_⟩;refine wpAny_getItem_list_slice ht.isList hs pl pu .none (by simp) ?_ (by rw [List.size_toArray] <;> omega);rw [HJ,<- hlen];refine ⟨.ref s.heap.objs.size,_,I.laid (t':=s.toks) (o:=.lst (Dj xs lo hi)) (λb ob q=>Heap.get?_push_of_some _ q) (Nat.le_refl _) ?_,rfl,q _ (I.hok.fresh (Nat.le_refl _))⟩;exact ⟨Nat.le_trans (FP xs lo hi) hz,_,0,(r.drop (HT.sIx xs.length 0 lo)).take (HT.sIx xs.length xs.length hi - HT.sIx xs.length 0 lo),Heap.get?_push_size _ rfl⟩
noncomputable def DK:V->Bool
 | .non=>true
 | .bl _=>true
 | .int _=>true
 | .str _=>true
 | _=>false
noncomputable def Ph:V->V->Bool
 | .non,.non=>true
 | .bl a,.bl b=>a==b
 | .bl a,.int b=>(if a then 1 else 0)==b
 | .int a,.bl b=>a==(if b then 1 else 0)
 | .int a,.int b=>a==b
 | .str a,.str b=>a==b
 | _,_=>false
theorem Wf {A:Around}{s:Shared}{y x:V}{u v:Value}(ry:RelV y u)(rx:RelV x v)(fy:DK y=true)(fx:DK x=true):SeqAt.EqAt A s u v (Ph y x):=by
 cases y with
 | non =>
  cases ry;cases x with
  | non=>cases rx;exact SeqAt.EqAt.same _
  | bl b=>cases rx;exact SeqAt.EqAt.none_bool b
  | int b=>obtain ⟨t,rfl⟩:=rx;exact SeqAt.EqAt.none_int b t
  | str b=>obtain ⟨t,rfl⟩:=rx;exact SeqAt.EqAt.none_str b t
  | _=>exact absurd (show false=true from fx) Bool.false_ne_true
 | bl a =>
  cases ry;cases x with
  | non=>cases rx;exact SeqAt.EqAt.bool_none a
  | bl b=>cases rx;exact SeqAt.EqAt.bool_bool a b
  | int b=>obtain ⟨t,rfl⟩:=rx;exact SeqAt.EqAt.bool_int a b t
  | str b=>obtain ⟨t,rfl⟩:=rx;exact SeqAt.EqAt.bool_str a b t
  | _=>exact absurd (show false=true from fx) Bool.false_ne_true
 | int a =>
  obtain ⟨t',rfl⟩:=ry;cases x with
  | non=>cases rx;exact SeqAt.EqAt.int_none a t'
  | bl b=>cases rx;exact SeqAt.EqAt.int_bool a t' b
  | int b=>obtain ⟨t,rfl⟩:=rx;exact SeqAt.EqAt.int_int a t' b t
  | str b=>obtain ⟨t,rfl⟩:=rx;exact SeqAt.EqAt.int_str a t' b t
  | _=>exact absurd (show false=true from fx) Bool.false_ne_true
 | str a =>
  obtain ⟨t',rfl⟩:=ry;cases x with
  | non=>cases rx;exact SeqAt.EqAt.str_none a t'
  | bl b=>cases rx;exact SeqAt.EqAt.str_bool a t' b
  | int b=>obtain ⟨t,rfl⟩:=rx;exact SeqAt.EqAt.str_int a t' b t
  | str b=>obtain ⟨t,rfl⟩:=rx;exact SeqAt.EqAt.str_str a t' b t
  | _=>exact absurd (show false=true from fx) Bool.false_ne_true
 | _=>exact absurd (show false=true from fy) Bool.false_ne_true
noncomputable def Lk (x:V)(u:Value):Bool:=match u with
 | .none=>Ph .non x
 | .bool b=>Ph (.bl b) x
 | .int i _=>Ph (.int i) x
 | .str z _=>Ph (.str z) x
 | _=>false
theorem Pj {x y:V}{u:Value}(r:RelV y u)(f:DK y=true):Lk x u=Ph y x:=by
 cases y with
 | non=>cases r;rfl
 | bl b=>cases r;rfl
 | int i=>obtain ⟨t,rfl⟩:=r;rfl
 | str z=>obtain ⟨t,rfl⟩:=r;rfl
 | _=>exact absurd (show false=true from f) Bool.false_ne_true
theorem Gg {x:V}:∀ {xs:List V} {us:List Value},Vals xs us->xs.all DK=true->us.any (Lk x)=xs.any λy=>Ph y x:=by
 intro xs us h
 induction h with
 | nil=>exact λ_=>rfl
 | cons r t ih =>
  intro f;rw [List.all_cons,Bool.and_eq_true] at f;rw [List.any_cons,List.any_cons,Pj r f.1,ih f.2]
theorem DR {A:Around}{s:Shared}{x:V}{v:Value}(rx:RelV x v)(fx:DK x=true):∀ {xs:List V} {us:List Value},Vals xs us->xs.all DK=true->∀ u∈us,SeqAt.EqAt A s u v (Lk x u)
 | _,_,.nil,_=>λu hu=>by cases hu
 | y::xs,u::us,.cons r t,f=>λu' hu=>by
  rw [List.all_cons,Bool.and_eq_true] at f;rcases List.mem_cons.mp hu with rfl | hu
  ·rw [Pj r f.1];exact Wf r rx f.1 fx
  ·exact DR rx fx t f.2 u' hu
noncomputable def FR (x:V)(xs:List V):Bool:=xs.any λy=>Ph y x
noncomputable def Nt (K:W.Frag)(neg:Bool):R2:=λx y H Q=>∃ p xs,y=.ref p/\(AI K H p xs\/B0 K H p xs)/\DK x=true/\xs.all DK=true/\Q (.bl (if neg then !FR x xs else FR x xs)) H
theorem BJ:Em X (compareOp .In) (Nt X.K false):=by
 intro pins s σ H x y v u Q I rx ry h;obtain ⟨p,xs,rfl,hq,fx,fs,q⟩:=h;cases ry;rcases hq with hq | hq
 ·obtain ⟨its,r,pl,hz⟩:=I.list hq;refine SeqAt.in_listAt (Lk x) pl.isList (λw hw=>DR rx fx r fs w (by simpa using hw)) ⟨.bl _,H,I,rfl,?_⟩;rw [show its.toArray.any (Lk x)=its.any (Lk x) by simp,Gg r fs];exact q
 ·obtain ⟨its,r,pl,hz⟩:=I.tuple hq;refine SeqAt.in_tupleAt (Lk x) pl (λw hw=>DR rx fx r fs w (by simpa using hw)) ⟨.bl _,H,I,rfl,?_⟩;rw [show its.toArray.any (Lk x)=its.any (Lk x) by simp,Gg r fs];exact q
theorem EW:Em X (compareOp .NotIn) (Nt X.K true):=by
 intro pins s σ H x y v u Q I rx ry h;obtain ⟨p,xs,rfl,hq,fx,fs,q⟩:=h;cases ry;rcases hq with hq | hq
 ·obtain ⟨its,r,pl,hz⟩:=I.list hq;refine SeqAt.notIn_listAt (Lk x) pl.isList (λw hw=>DR rx fx r fs w (by simpa using hw)) ⟨.bl _,H,I,rfl,?_⟩;rw [show its.toArray.any (Lk x)=its.any (Lk x) by simp,Gg r fs];exact q
 ·obtain ⟨its,r,pl,hz⟩:=I.tuple hq;refine SeqAt.notIn_tupleAt (Lk x) pl (λw hw=>DR rx fx r fs w (by simpa using hw)) ⟨.bl _,H,I,rfl,?_⟩;rw [show its.toArray.any (Lk x)=its.any (Lk x) by simp,Gg r fs];exact q
theorem AQ:Cc X (.builtin "len") (λxs H Q=>∃ p ys,xs=[.ref p]/\(AI X.K H p ys\/B0 X.K H p ys)/\Q (.int ys.length) H):=by
 intro pins s σ H xs us Q I r h;obtain ⟨p,ys,rfl,hq,q⟩:=h;obtain ⟨u,rfl,rx⟩:=vals1 r;cases rx;have hn:=GH;rcases hq with hq | hq
 ·obtain ⟨its,r',pl,hz⟩:=I.list hq;have hlen:=r'.length;exact Calls.call_len_list pl.isList (by simp only [List.size_toArray] <;> omega) ⟨.int ys.length,H,I.tok _,⟨s.toks+1,by rw [List.size_toArray,hlen]⟩,q⟩
 ·obtain ⟨its,r',pl,hz⟩:=I.tuple hq;have hlen:=r'.length;exact len_tuple pl (by simp only [List.size_toArray] <;> omega) ⟨.int ys.length,H,I.tok _,⟨s.toks+1,by rw [List.size_toArray,hlen]⟩,q⟩
theorem Dv:Cc X (.type "list") (λxs H Q=>∃ p ys,xs=[.ref p]/\(AI X.K H p ys\/B0 X.K H p ys)/\∀ l,H l=none->Q (.ref l) (upd H l (.lst ys))):=by
 intro pins s σ H xs us Q I r h;obtain ⟨p,ys,rfl,hq,q⟩:=h;obtain ⟨u,rfl,rx⟩:=vals1 r;cases rx;have fin:∀ (its:List Value),Vals ys its->ys.length<=sizeLine->∀ (h':Heap) (c':Nat),(∀ b o',s.heap.get? b=some o'->h'.get? b=some o') ->
   h'.get? s.heap.objs.size=some { cls:=.type "list",dict:=none,data:=.seq its.toArray c',slots:=#[] }->EP X pins σ Q (.ref s.heap.objs.size) { s with heap:=h' }:=λits r' hz h' c' kp e =>
  ⟨.ref s.heap.objs.size,_,I.laid (t':=s.toks) kp (Nat.le_refl _) (show AN X.prog X.w _ h' _ (.lst ys) from ⟨hz,its,c',r',e⟩),rfl,q _ (I.hok.fresh (Nat.le_refl _))⟩
 rcases hq with hq | hq
 ·obtain ⟨its,r',pl,hz⟩:=I.list hq;have hlen:=r'.length;obtain ⟨o,ho,hc,n,hd⟩:=pl.isList;exact call_list_seq p (.inl rfl) ho hc hd (λh' c' kp e=>fin its r' hz h' c' kp e) (by simp only [List.size_toArray] <;> omega)
 ·obtain ⟨its,r',pl,hz⟩:=I.tuple hq;have hlen:=r'.length;obtain ⟨o,ho,hc,n,hd⟩:=pl;exact call_list_seq p (.inr rfl) ho hc hd (λh' c' kp e=>fin its r' hz h' c' kp e) (by simp only [List.size_toArray] <;> omega)
theorem C7:Cc X (.type "tuple") (λxs H Q=>∃ p ys,xs=[.ref p]/\((AI X.K H p ys/\∀ l,H l=none->Q (.ref l) (upd H l (.tup ys)))\/(B0 X.K H p ys/\Q (.ref p) H))):=by
 intro pins s σ H xs us Q I r h;obtain ⟨p,ys,rfl,h⟩:=h;obtain ⟨u,rfl,rx⟩:=vals1 r;cases rx;rcases h with ⟨hq,q⟩ | ⟨hq,q⟩
 ·obtain ⟨its,r',pl,hz⟩:=I.list hq;have hlen:=r'.length;refine call_tuple_list pl.isList (λh' kp=>?_) (by simp only [List.size_toArray] <;> omega);have I1:Inv X pins σ H { s with heap:=h' }:=I.kept (t':=s.toks) kp;have I2:Inv X pins σ (upd H h'.objs.size (.tup ys)) { s with heap:=h'.push { cls:=.type "tuple",data:=.seq its.toArray } } :=
   I1.laid (t':=s.toks) (λb o e=>Heap.get?_push_of_some _ e) (Nat.le_refl _) (show AN X.prog X.w _ _ _ (.tup ys) from ⟨hz,its,r',IsTup.new _ _⟩)
  exact ⟨.ref h'.objs.size,_,I2,rfl,q _ (I1.hok.fresh (Nat.le_refl _))⟩
 ·obtain ⟨its,r',pl,hz⟩:=I.tuple hq;exact call_tuple_same pl ⟨.ref p,H,I,rfl,q⟩
noncomputable def Zz (K:W.Frag)(T:String)(x:V)(H:Hp):Prop:=match x with
 | .str _=>T="str"
 | .int _=>T="int"
 | .ref p=>(T="list"/\∃ xs,AI K H p xs)\/(T="tuple"/\∃ o,K.lookup p=some o/\o.cls=.type "tuple"/\o.dict=none) \/
   (T="dict"/\((∃ Ai,H p=some (.dK Ai))\/∃ Ai,H p=some (.dT Ai)))\/(T="set"/\∃ S n,H p=some (.set S n))
 | _=>False
theorem Pk {pins:List (Addr × Obj)}{σ:St}{H:Hp}{s:Shared}{T:String}{x:V}{v:Value}(I:Inv X pins σ H s)(r:RelV x v)(ty:Zz X.K T x H):
  s.TypeIs v T/\∀ a,v=.ref a->∃ ob,s.heap.get? a=some ob/\ob.dict=none:=by
 cases x with
 | str z =>
  obtain ⟨t,rfl⟩:=r;cases (show T="str" from ty);exact ⟨typeIs_str s z t,λ_ e=>nomatch e⟩
 | int i =>
  obtain ⟨t,rfl⟩:=r;cases (show T="int" from ty);exact ⟨typeIs_int s i t,λ_ e=>nomatch e⟩
 | ref p =>
  cases r;rcases ty with ⟨rfl,xs,hq⟩ | ⟨rfl,o,hk,hc,hd⟩ | ⟨rfl,hk⟩ | ⟨rfl,S,n,hk⟩
  ·obtain ⟨its,_,pl,_⟩:=I.list hq;refine ⟨pl.isList.typeIs,λa e=>?_⟩;cases e;obtain ⟨o,n,e,c,hd,_⟩:=pl;exact ⟨o,e,hd⟩
  ·refine ⟨⟨o,I.kIn p o hk,hc⟩,λa e=>?_⟩;cases e;exact ⟨o,I.kIn _ o hk,hd⟩
  ·have z:∃ o,s.heap.get? p=some o/\o.ExactDict:=by
    rcases hk with ⟨Ai,hk⟩ | ⟨Ai,hk⟩
    ·obtain ⟨_,_,_,_,o,_,_,e,ex,_⟩:=I.hok p _ hk;exact ⟨o,e,ex⟩
    ·obtain ⟨_,_,_,_,o,_,_,e,ex,_⟩:=I.hok p _ hk;exact ⟨o,e,ex⟩
   obtain ⟨o,e,ex⟩:=z;refine ⟨⟨o,e,ex.1⟩,λa e2=>?_⟩;cases e2;exact ⟨o,e,ex.2.1⟩
  ·obtain ⟨o,_,_,_,e,ex,_⟩:=I.hok p _ hk;refine ⟨⟨o,e,ex.1⟩,λa e2=>?_⟩;cases e2;exact ⟨o,e,ex.2.1⟩
 | _=>exact False.elim ty
noncomputable def So (K:W.Frag)(T:String)(r:V->List V->Hp->VK->Prop)(to:TE):TE:=fun σ H Q=>to σ H λx H1=>Zz K T x H1/\r x [] H1 Q
noncomputable def gU (K:W.Frag)(T:String)(r:V->List V->Hp->VK->Prop)(to:TE)(t:TA):TE:=fun σ H Q=>to σ H λx H1=>Zz K T x H1/\t σ H1 λxs H2=>r x xs H2 Q
variable {o e:Expr}{es:List Expr}{to:TE}{t:TA}{name:Str}{apos B6:Pos}{T id:String}{r:V->List V->Hp->VK->Prop}
theorem Wg (pa:PlainAttrs T)(slot:Slot T name id)(RI:typeOf (.builtin id)=pure (.type "method_descriptor"))(hm:dU X id r)(ho:PE X o to)
  (DS:attributeBase o name X.env (eval o X.env)=eval o X.env:=by rfl) (GK:(apos.endLine==B6.line)=true:=by rfl):PE X (.Call (.Attribute o name apos) [] [] B6) (So X.K T r to):=by
 intro pins s σ H Q I h;refine wpAny_Call_method0_late DS GK (AX (ho pins s σ H _ I h) λv s1 AO=>?_);obtain ⟨x,H1,I1,r1,ty,q1⟩:=AO;obtain ⟨h1,h2⟩:=Pk I1 r1 ty;exact ⟨T,id,pa,slot,RI,h1,h2,Calls.callWith_builtin rfl (PySem.evalArgs_none (hm pins s1 σ H1 x [] v [] Q I1 r1 .nil q1))⟩
theorem ZA (pa:PlainAttrs T)(slot:Slot T name id)(RI:typeOf (.builtin id)=pure (.type "method_descriptor"))(hm:dU X id r)(ho:PE X o to)(ha:PA X (e::es) t)
  (DS:attributeBase o name X.env (eval o X.env)=eval o X.env:=by rfl)
  (Wh:((backTo B6 (starEach (e::es) X.env)).all (λx=>!x.1) && (backToKw B6 (keywordEach [] X.env)).all (λx=>x.1.isSome)
   && decide ((e::es).length+([]:List Keyword).length+(if ([]:List Keyword).isEmpty then 0 else 1) < 30))=true:=by rfl)
  (GK:(apos.endLine==B6.line)=true:=by rfl) (hs:starEach (e::es) X.env=(false,eval e X.env)::starEach es X.env:=by rfl) (Ll:(backTo B6 (starEach es X.env)).any (·.1)=false:=by rfl) :
  PE X (.Call (.Attribute o name apos) (e::es) [] B6) (gU X.K T r to t):=by
 intro pins s σ H Q I h;refine wpAny_Call_method_late DS Wh GK rfl (AX (ho pins s σ H _ I h) λv s1 AO=>?_);obtain ⟨x,H1,I1,r1,ty,q1⟩:=AO;obtain ⟨h1,h2⟩:=Pk I1 r1 ty;refine ⟨T,id,pa,slot,RI,h1,h2,?_⟩;have hA:=ha B6 pins s1 σ H1 _ I1 q1;rw [hs] at hA ⊢;refine Calls.callWith_builtin (by show (false || (backTo B6 (starEach es X.env)).any (·.1))=false;rw [Ll] <;> rfl) (Calls.evalArgs_plain ?_);exact AX hA λus s2 ⟨vs,H2,I2,r2,q2⟩=>hm pins s2 σ H2 x vs v us Q I2 r1 r2 q2
end
noncomputable def gV (X:Cx)(id:String)(r:V->List V->Hp->VK->Prop):Prop :=
 ∀ (pins:List (Addr × Obj)) (s:Shared) (σ:St) (H:Hp) (x:V) (xs:List V) (v:Value) (us:List Value) (Q:VK),Inv X pins σ H s->RelV x v->Vals xs us->r x xs H Q ->
  wpAny (model X.prog X.w) X.A (call (.builtin id) (v::us)) (EP X pins σ Q) X.xe s
theorem Vals.one:∀ {x:V} {us:List Value},Vals [x] us->∃ u,us=[u]/\RelV x u:=by
 intro x us h;cases h with
 | cons r t=>cases t;exact ⟨_,rfl,r⟩
theorem Vals.zero:∀ {us:List Value},Vals [] us->us=[]
 | _,.nil=>rfl
theorem Vals.dropLast {xs:List V}{us:List Value}(h:Vals xs us):Vals xs.dropLast us.dropLast:=by
 induction h with
 | nil=>exact .nil
 | cons r t ih =>
  cases t with
  | nil=>exact .nil
  | cons q t'=>exact .cons r ih
theorem Vals.reverse {xs:List V}{us:List Value}(h:Vals xs us):Vals xs.reverse us.reverse:=by
 induction h with
 | nil=>exact .nil
 | cons r t ih=>rw [List.reverse_cons,List.reverse_cons];exact Vals.append ih (.cons r .nil)
theorem Vals.rep {xs:List V}{us:List Value}(h:Vals xs us):∀ k:Nat,Vals (List.replicate k xs).flatten (List.replicate k us).flatten
 | 0=>.nil
 | k+1=>by
  rw [List.replicate_succ,List.replicate_succ,List.flatten_cons,List.flatten_cons];exact Vals.append h (Vals.rep h k)
theorem Lm {α:Type}(l:List α):l.eraseIdx (l.length - 1)=l.dropLast:=by
 induction l with
 | nil=>rfl
 | cons a r ih =>
  cases r with
  | nil=>rfl
  | cons b r =>
   have e:(a::b::r).length - 1=((b::r).length - 1)+1:=by
    have h1:(a::b::r).length=r.length+2:=rfl;have h2:(b::r).length=r.length+1:=rfl;omega
   rw [e,List.eraseIdx_cons_succ,ih]
   all_goals rfl
theorem foldl_rep (its:List Value):∀ (k:Nat) (acc:List Value),
  List.foldl (λx1 x2=>x1++x2) acc.toArray (List.replicate k its.toArray)=(acc++(List.replicate k its).flatten).toArray
 | 0,acc=>by simp
 | k+1,acc=>by
  have e:acc.toArray++its.toArray=(acc++its).toArray:=by simp
  have e2:(acc++its)++(List.replicate k its).flatten=acc++(List.replicate (k+1) its).flatten:=by
   rw [List.replicate_succ,List.flatten_cons,List.append_assoc]
  rw [<- e2,<- foldl_rep its k (acc++its),<- e,List.replicate_succ,List.foldl_cons]
section
variable {X:Cx}{pins:List (Addr × Obj)}{σ:St}{H:Hp}{s:Shared}{l b:Addr}{xs ys zs:List V}
theorem Inv.aby {its its':List Value}{n:Nat}{f:Array Value->Array Value}{t':Nat}(I:Inv X pins σ H s)(hH:H l=some (.lst xs))
  (e:s.heap.get? l=some { cls:=.type "list",data:=.seq its.toArray n }) (hf:f its.toArray=its'.toArray) (hv:Vals ys its') (hz:ys.length<=sizeLine) :
  Inv X pins σ (upd H l (.lst ys)) { s with heap:=s.heap.update l (Obj.mapSeq f),toks:=t' }:=by
 have q:=PySem.IsL.update e f;rw [hf] at q;refine I.write (x:=l) (e:=l) (by rw [hH];exact trivial) (.inl rfl) (λb' u hb hu=>(Heap.get?_update_other s.heap (Obj.mapSeq f) (Ne.symm hb)).trans hu) ⟨_,q⟩ ?_;exact ⟨hz,its',_,hv,q⟩
theorem Inv.ab2 {its:List Value}{t':Nat}(I:Inv X pins σ H s)(hv:Vals ys its)(hz:ys.length<=sizeLine):
  Inv X pins σ (upd H s.heap.objs.size (.lst ys)) { s with heap:=s.heap.push { cls:=.type "list",data:=.seq its.toArray },toks:=t' } :=
 I.laid (λ_ _ q=>Heap.get?_push_of_some _ q) (Nat.le_refl _) ⟨hz,its,0,hv,Heap.get?_push_size _ rfl⟩
theorem Inv.fresh (I:Inv X pins σ H s):H s.heap.objs.size=none:=I.hok.fresh (Nat.le_refl _)
theorem Inv.abo (I:Inv X pins σ H s)(hH:H l=some (.lst xs)):xs.length<=sizeLine/\∃ (its:List Value) (n:Nat),Vals xs its/\xs.length=its.length/\s.heap.get? l=some { cls:=.type "list",data:=.seq its.toArray n }:=by
 obtain ⟨z,its,n,r,e⟩:=I.hok l _ hH;exact ⟨z,its,n,r,r.length,e⟩
theorem JH {n:Nat}(h:n<=sizeLine):Builtin.List.listTooLong n=false:=by
 unfold Builtin.List.listTooLong;exact decide_eq_false ()
end
section
variable {X:Cx}
noncomputable def Sq:V->List V->Hp->VK->Prop:=λx vs H Q=>∃ l xs y,x=.ref l/\vs=[y]/\H l=some (.lst xs)/\xs.length < sizeLine/\Q .non (upd H l (.lst (xs++[y])))
theorem C4:gV X "list.append" Sq:=by
 intro pins s σ H x vs v us Q I rx rv h;obtain ⟨l,xs,y,rfl,rfl,hH,hz,q⟩:=h;cases rx;obtain ⟨u,rfl,ru⟩:=rv.one;obtain ⟨z,its,n,r,hl,e⟩:=I.abo hH;refine call_meets F.slot_list_append ⟨_,e,rfl⟩ F.entry_list_append (F.args_list_append_2 _ _) (PySem.list_append l its.toArray n u (by rw [List.size_toArray];omega)) ⟨e,?_⟩;refine ⟨.non,_,I.aby (its':=its++[u]) hH e (by simp) (r.append (.cons ru .nil)) ?_,rfl,q⟩;rw [List.length_append,List.length_singleton];omega
noncomputable def Sr:V->List V->Hp->VK->Prop:=λx vs H Q=>∃ l b xs zs,x=.ref l/\vs=[.ref b]/\H l=some (.lst xs)/\H b=some (.lst zs)/\xs.length+zs.length<=sizeLine/\Q .non (upd H l (.lst (xs++zs)))
theorem Nu:gV X "list.extend" Sr:=by
 intro pins s σ H x vs v us Q I rx rv h;obtain ⟨l,b,xs,zs,rfl,rfl,hH,hB,hz,q⟩:=h;cases rx;obtain ⟨u,rfl,ru⟩:=rv.one;cases ru;obtain ⟨z,its,n,r,hl,e⟩:=I.abo hH;obtain ⟨z2,IV,n2,r2,DT,e2⟩:=I.abo hB;have F':its.toArray.size+IV.toArray.size<=sizeLine:=by rw [List.size_toArray,List.size_toArray];omega
 have Pl:¬ (!its.toArray.isEmpty && Builtin.List.listTooLong (its.toArray.size+IV.toArray.size))=true:=by
  rw [JH F',Bool.and_false];exact Bool.false_ne_true
 refine call_meets F.slot_list_extend ⟨_,e,rfl⟩ F.entry_list_extend (F.args_list_extend_2 _ _)
  (AutoSeq1.list_extend_list_list_0 l its.toArray n b IV.toArray n2 Pl (by rw [List.size_toArray];omega) ()) ⟨e,e2,?_⟩
 refine ⟨.non,_,I.aby (its':=its++IV) hH e (by simp) (r.append r2) ?_,rfl,q⟩;rw [List.length_append];omega
noncomputable def ZC:V->List V->Hp->VK->Prop:=λx vs H Q=>∃ l xs y,x=.ref l/\vs=[]/\H l=some (.lst xs)/\xs[xs.length - 1]?=some y/\Q y (upd H l (.lst xs.dropLast))
theorem GL:gV X "list.pop" ZC:=by
 intro pins s σ H x vs v us Q I rx rv h;obtain ⟨l,xs,y,rfl,rfl,hH,hy,q⟩:=h;cases rx;have Ss:=rv.zero;subst Ss;obtain ⟨z,its,n,r,hl,e⟩:=I.abo hH;obtain ⟨u,hu,ru⟩:=r.get hy;have gW:its.toArray[its.toArray.size - 1]?=some u:=by
  show its.toArray[its.length - 1]?=some u;rw [<- Array.getElem?_toList,<- hl];exact hu
 refine call_meets F.slot_list_pop ⟨_,e,rfl⟩ F.entry_list_pop (F.args_list_pop_1 _) (MeetsSeq.list_pop_last l its.toArray n u gW (by rw [List.size_toArray];omega)) ⟨e,?_⟩;refine ⟨y,_,I.aby (its':=its.dropLast) hH e ?_ r.dropLast ?_,ru,q⟩
 ·show its.toArray.eraseIdxIfInBounds (its.toArray.size - 1)=its.dropLast.toArray;rw [List.size_toArray,List.eraseIdxIfInBounds_toArray,Lm]
 ·rw [List.length_dropLast];omega
noncomputable def ZD:R2:=λx y H Q=>∃ l b xs zs,x=.ref l/\y=.ref b/\H l=some (.lst xs)/\H b=some (.lst zs)/\xs.length+zs.length<=sizeLine/\∀ p,H p=none->Q (.ref p) (upd H p (.lst (xs++zs)))
theorem DU:Em X (binaryOp .Add) ZD:=by
 intro pins s σ H x y v u Q I rx ry h;obtain ⟨l,b,xs,zs,rfl,rfl,hH,hB,hz,q⟩:=h;cases rx;cases ry;obtain ⟨z,its,n,r,hl,e⟩:=I.abo hH;obtain ⟨z2,IV,n2,r2,DT,e2⟩:=I.abo hB;refine PySem.P.add_list e e2 ?_ (by rw [List.size_toArray,List.size_toArray];omega);have ea:its.toArray++IV.toArray=(its++IV).toArray:=by simp
 rw [ea];exact ⟨.ref _,_,I.ab2 (t':=s.toks) (r.append r2) (by rw [List.length_append];omega),rfl,q _ I.fresh⟩
noncomputable def gX:R2:=λx y H Q=>∃ l k xs,x=.ref l/\y=.int k/\H l=some (.lst xs)/\-(2 ^ 63)<=k/\k < 2 ^ 63/\xs.length * k.toNat<=sizeLine /\
 ∀ p,H p=none->Q (.ref p) (upd H p (.lst (List.replicate k.toNat xs).flatten))
theorem len_rep {α:Type}(xs:List α)(k:Nat):(List.replicate k xs).flatten.length=k * xs.length:=by
 induction k with
 | zero=>simp
 | succ k ih=>rw [List.replicate_succ,List.flatten_cons,List.length_append,ih,Nat.succ_mul,Nat.add_comm]
theorem Pn:Em X (binaryOp .Mult) gX:=by
 intro pins s σ H x y v u Q I rx ry h;obtain ⟨l,k,xs,rfl,rfl,hH,h1,h2,hz,q⟩:=h;cases rx;obtain ⟨t,rfl⟩:=ry;obtain ⟨z,its,n,r,hl,e⟩:=I.abo hH;have hlen:its.toArray.size * k.toNat<=sizeLine:=by rw [List.size_toArray,<- hl];exact hz
 have gY:¬ its.toArray.size * k.toNat > (2 ^ 63 - 1) / 8:=by
  have:(sizeLine:Nat)<=(2 ^ 63 - 1) / 8:=by decide
  omega
 have gZ:¬ (!Builtin.List.listFitsIndex k)=true:=by
  rw [fitsIndex_both h1 h2];exact Bool.false_ne_true
 have Pl:¬ Builtin.List.listTooLong (its.toArray.size * k.toNat)=true:=by
  rw [JH hlen];exact Bool.false_ne_true
 have Po:List.foldl (λx1 x2=>x1++x2) #[] (List.replicate (if its.toArray.isEmpty=true then 0 else k.toNat) its.toArray)=(List.replicate k.toNat its).flatten.toArray:=by
  have f0:∀ m:Nat,List.foldl (λx1 x2=>x1++x2) #[] (List.replicate m its.toArray)=(List.replicate m its).flatten.toArray:=λm=>by
   have:=foldl_rep its m [];rw [List.nil_append] at this;exact this
  rw [f0];cases its with
  | nil=>simp
  | cons a r'=>rw [if_neg (by simp)]
 refine wpAny_binaryOp_repeat_ref (T:="list") (U:="int") ⟨⟩ ⟨_,e,rfl⟩ (λs'=>typeIs_int s' k t) noFill_list_mul F.fills_int_mul F.slot_int_rmul repeat_list F.slot_int_index.lookup
  (call_meets F.slot_int_rmul (typeIs_int s k t) F.entry_int_rmul (F.args_int_rmul_2 _ _) (int___rmul___int_list k t l its.toArray n)
   ⟨e,rfl,⟨_,e,rfl⟩,call_meets F.slot_list_mul ⟨_,e,rfl⟩ F.entry_list_mul (F.args_list_mul_2 _ _) (AutoListH.list___mul___list_int_3 l its.toArray n k t gZ gY Pl) ⟨e,?_⟩⟩)
 rw [Po];exact ⟨.ref _,_,I.ab2 (t':=s.toks) (r.rep k.toNat) (by rw [len_rep,Nat.mul_comm];exact hz),rfl,q _ I.fresh⟩
end
section
variable {κ:Type}[DecidableEq κ]
noncomputable def AW (Ai:List (κ × V))(k:κ):Option V:=(Ai.find? λkv=>decide (kv.1=k)).map (·.2)
noncomputable def putK (Ai:List (κ × V))(k:κ)(v:V):List (κ × V) :=
 if (Ai.any λkv=>decide (kv.1=k))=true then Ai.map (λkv=>if kv.1=k then (kv.1,v) else kv) else Ai++[(k,v)]
noncomputable def C0 (Ai:List (κ × V))(k:κ):List (κ × V):=Ai.filter λkv=>decide (kv.1≠k)
theorem Ba {p:κ × V}{r:List (κ × V)}{k:κ}(e:p.1=k):AW (p::r) k=some p.2:=by simp [AW,List.find?_cons,e]
theorem Bc {p:κ × V}{r:List (κ × V)}{k:κ}(e:¬ p.1=k):AW (p::r) k=AW r k:=by simp [AW,List.find?_cons,e]
theorem GN (k:κ):∀ Ai:List (κ × V),(Ai.any λkv=>decide (kv.1=k))=(AW Ai k).isSome
 | []=>rfl
 | p::r=>by
  rw [List.any_cons];by_cases e:p.1=k
  ·simp only [Ba e,decide_eq_true e,Bool.true_or,Option.isSome_some]
  ·rw [Bc e,decide_eq_false e,Bool.false_or];exact GN k r
theorem JI (k j:κ)(y:V):∀ Ai:List (κ × V),AW (Ai.map λkv=>if kv.1=k then (kv.1,y) else kv) j=(AW Ai j).map λx=>if j=k then y else x
 | []=>rfl
 | p::r=>by
  have ih:=JI k j y r;rw [List.map_cons];by_cases h:p.1=k
  ·rw [if_pos h];by_cases e:p.1=j
   ·rw [Ba (p:=(p.1,y)) e,Ba e,Option.map_some,if_pos (e.symm.trans h)]
   ·rw [Bc (p:=(p.1,y)) e,Bc e,ih]
  ·rw [if_neg h];by_cases e:p.1=j
   ·rw [Ba (p:=p) e,Ba e,Option.map_some,if_neg (λz=>h (e.trans z))]
   ·rw [Bc (p:=p) e,Bc e,ih]
theorem Ik (k j:κ)(y:V):∀ Ai:List (κ × V),AW Ai k=none->AW (Ai++[(k,y)]) j=if j=k then some y else AW Ai j
 | [],_=>by
  by_cases e:k=j
  ·rw [if_pos e.symm];exact Ba (p:=(k,y)) e
  ·rw [if_neg (λz=>e z.symm)];exact Bc (p:=(k,y)) e
 | p::r,hn=>by
  rw [List.cons_append];have hk:¬ p.1=k:=λz=>by rw [Ba z] at hn;cases hn
  rw [Bc hk] at hn;have ih:=Ik k j y r hn;by_cases e:p.1=j
  ·rw [Ba e,Ba e,if_neg (λz=>hk (e.trans z))]
  ·rw [Bc e,Bc e,ih]
theorem Dk (Ai:List (κ × V))(k j:κ)(y:V):AW (putK Ai k y) j=if j=k then some y else AW Ai j:=by
 unfold putK;by_cases a:(Ai.any λkv=>decide (kv.1=k))=true
 ·rw [if_pos a,JI];rw [GN] at a;by_cases e:j=k
  ·obtain ⟨x,hx⟩:=Option.isSome_iff_exists.mp a;rw [if_pos e,e,hx,Option.map_some,if_pos rfl]
  ·rw [if_neg e];cases AW Ai j with
   | none=>rfl
   | some x=>rw [Option.map_some,if_neg e]
 ·rw [if_neg a];refine Ik k j y Ai ?_;rw [GN] at a;cases q:AW Ai k with
  | none=>rfl
  | some x=>rw [q] at a;exact (a rfl).elim
theorem JJ (Ai:List (κ × V))(k:κ)(v:V):(putK Ai k v).length<=Ai.length+1:=by
 unfold putK;split
 ·rw [List.length_map];omega
 ·rw [List.length_append,List.length_cons,List.length_nil];omega
theorem DQ.aap {o:Option V}{u:Option Value}(r:DQ o u):o.isSome=u.isSome:=by
 cases o with
 | none=>cases u with
  | none=>rfl
  | some _=>exact (show False from r).elim
 | some _=>cases u with
  | none=>exact (show False from r).elim
  | some _=>rfl
theorem DQ.getD {o:Option V}{u:Option Value}{d:V}{d':Value}(r:DQ o u)(left:RelV d d'):RelV (o.getD d) (u.getD d'):=by
 cases o with
 | none=>cases u with
  | none=>exact left
  | some _=>exact (show False from r).elim
 | some _=>cases u with
  | none=>exact (show False from r).elim
  | some _=>exact r
theorem KV.val {Ai:List (κ × V)}{vs:List (κ × Value)}(r:KV Ai vs)(k:κ):DQ (AW Ai k) (valueAt vs k):=by
 unfold KV at r
 induction r with
 | nil=>exact True.intro
 | @cons p q ps qs h t ih =>
  obtain ⟨h1,h2⟩:=h;by_cases e:p.1=k
  ·have e':q.1=k:=h1.symm.trans e;have b:valueAt (q::qs) k=some q.2:=(by simp [valueAt,List.find?_cons,e']);rw [Ba e,b];exact h2
  ·have e':¬ q.1=k:=λz=>e (h1.trans z);have b:valueAt (q::qs) k=valueAt qs k:=(by simp [valueAt,List.find?_cons,e']);rw [Bc e,b];exact ih
theorem KV.any {Ai:List (κ × V)}{vs:List (κ × Value)}(r:KV Ai vs)(k:κ):(Ai.any λkv=>decide (kv.1=k))=vs.any λkv=>decide (kv.1=k):=by
 unfold KV at r
 induction r with
 | nil=>rfl
 | cons h t ih=>rw [List.any_cons,List.any_cons,ih,h.1]
theorem KV.ab5 {Ai:List (κ × V)}{vs:List (κ × Value)}(r:KV Ai vs)(k:κ){y:V}{u:Value}(ry:RelV y u):
  KV (Ai.map λkv=>if kv.1=k then (kv.1,y) else kv) (vs.map λkv=>if kv.1=k then (kv.1,u) else kv):=by
 unfold KV at r ⊢
 induction r with
 | nil=>exact .nil
 | @cons p q ps qs h t ih =>
  rw [List.map_cons,List.map_cons];refine .cons ?_ ih;obtain ⟨h1,h2⟩:=h;by_cases e:p.1=k
  ·rw [if_pos e,if_pos (h1.symm.trans e)];exact ⟨h1,ry⟩
  ·rw [if_neg e,if_neg (λz=>e (h1.trans z))];exact ⟨h1,h2⟩
theorem KV.put {Ai:List (κ × V)}{vs:List (κ × Value)}(r:KV Ai vs)(k:κ){y:V}{u:Value}(ry:RelV y u):KV (putK Ai k y) (stored vs k u):=by
 unfold putK stored;rw [r.any k];by_cases e:(vs.any λkv=>decide (kv.1=k))=true
 ·rw [if_pos e,if_pos e];exact r.ab5 k ry
 ·rw [if_neg e,if_neg e];exact Paired.snoc r ⟨rfl,ry⟩
theorem KV.drop {Ai:List (κ × V)}{vs:List (κ × Value)}(r:KV Ai vs)(k:κ):KV (C0 Ai k) (without vs k):=by
 unfold KV at r ⊢;unfold C0 without
 induction r with
 | nil=>exact .nil
 | @cons p q ps qs h t ih =>
  obtain ⟨h1,h2⟩:=h;rw [List.filter_cons,List.filter_cons];by_cases e:p.1=k
  ·have a:¬ decide (p.1≠k)=true:=(by simp [e]);have b:¬ decide (q.1≠k)=true:=(by simp [h1.symm.trans e]);rw [if_neg a,if_neg b];exact ih
  ·have e':¬ q.1=k:=λz=>e (h1.trans z);have a:decide (p.1≠k)=true:=(by simp [e]);have b:decide (q.1≠k)=true:=(by simp [e']);rw [if_pos a,if_pos b];exact .cons ⟨h1,h2⟩ ih
theorem KV.length {Ai:List (κ × V)}{vs:List (κ × Value)}(r:KV Ai vs):Ai.length=vs.length:=Paired.length r
theorem GO (Ai:List (κ × V))(k:κ):(C0 Ai k).length<=Ai.length:=List.length_filter_le _ _
end
theorem DL {P:Program}{w:World}{k:Key}{u:Value}(r:RelV (kV k) u):(AA P w).is k u=true:=by
 cases k with
 | inl i=>obtain ⟨t,e⟩:=(show ∃ t,u=Value.int i t from r);subst e;exact JC P w i t
 | inr x=>obtain ⟨t,e⟩:=(show ∃ t,u=Value.str x t from r);subst e;exact DP P w x t
theorem Il {P:Program}{w:World}:∀ {ks:List Key} {us:List Value},Vals (ks.map kV) us->ItemsAre (AA P w) ks us
 | [],_,r=>by rw [List.map_nil] at r;cases r;exact .nil
 | k::ks,_,r=>by
  rw [List.map_cons] at r;cases r with
  | cons h t=>exact .cons (DL h) (Il t)
abbrev KT (H:Hp):List (List Key × V)->List (List Key × Addr × Value)->Prop:=Paired λp q=>p.1=q.1/\H q.2.1=some (.tup (p.1.map kV))/\RelV p.2 q.2.2
theorem KT.val {H:Hp}{Ai:List (List Key × V)}{xs:List (List Key × Addr × Value)}(r:KT H Ai xs)(k:List Key):DQ (AW Ai k) ((atKey xs k).map (·.2)):=by
 induction r with
 | nil=>exact True.intro
 | @cons p q ps qs h t ih =>
  obtain ⟨h1,_,h2⟩:=h;by_cases e:p.1=k
  ·have e':q.1=k:=h1.symm.trans e;have b:atKey (q::qs) k=some q.2:=(by simp [atKey,List.find?_cons,e']);rw [Ba e,b];exact h2
  ·have e':¬ q.1=k:=λz=>e (h1.trans z);have b:atKey (q::qs) k=atKey qs k:=(by simp [atKey,List.find?_cons,e']);rw [Bc e,b];exact ih
section
variable {P:Program}{w:World}{H:Hp}{h:Heap}{a:Addr}
theorem UG {u:HO}(ok:Di P w H h)(e:Rd H a u):AN P w H h a u:=e.ok ok
theorem GQ {Ai:List (Key × V)}(ok:Di P w H h)(e:Rd H a (.dK Ai)):Ai.length<=sizeLine/\(a==sysModules)=false/\∃ vs,KV Ai vs/\h.DictOf (AA P w) a vs :=
 show AN P w H h a (.dK Ai) from UG ok e
theorem Ms {Ai:List (Key × V)}(ok:Di P w H h)(e:H a=some (.dK Ai)):Ai.length<=sizeLine/\(a==sysModules)=false/\∃ vs,KV Ai vs/\h.DictOf (AA P w) a vs:=GQ ok (.inl e)
theorem IX {ks:List Key}(ok:Di P w H h)(e:H a=some (.tup (ks.map kV))):(tupleKind (AA P w)).is h ks a:=by
 obtain ⟨_,its,r,o,h1,h2,n,h3⟩:=(show AN P w H h a (.tup (ks.map kV)) from ok a _ e);exact ⟨o,its.toArray,n,h1,h2,h3,by simpa using Il r⟩
theorem JK {Ai:List (List Key × V)}(ok:Di P w H h)(e:Rd H a (.dT Ai)):Ai.length<=sizeLine/\(a==sysModules)=false /\
  ∃ xs,KT H Ai xs/\h.DictOfH (tupleKind (AA P w)) a xs:=by
 obtain ⟨z,y,xs,r,o,es,ep,h1,h2,h3,h4,h5⟩:=(show AN P w H h a (.dT Ai) from UG ok e);refine ⟨z,y,xs,r,o,es,ep,h1,h2,h3,h4,λx hx=>?_,h5⟩;have all:∀ {l:List (List Key × V)} {m:List (List Key × Addr × Value)},KT H l m->∀ x∈m,(tupleKind (AA P w)).is h x.1 x.2.1:=by
  intro l m q
  induction q with
  | nil=>intro x hx;exact nomatch hx
  | @cons p q ps qs hq t ih =>
   intro x hx;rcases List.mem_cons.mp hx with e | hx
   ·subst e;exact IX ok (by rw [<- hq.1];exact hq.2.1)
   ·exact ih x hx
 exact all r x hx
end
noncomputable def Dc (H:Hp)(a:Addr)(y:V)(r:Option V):Prop :=
 (∃ Ai k,Rd H a (.dK Ai)/\y=kV k/\r=AW Ai k)\/∃ Ai k b,Rd H a (.dT Ai)/\y=.ref b/\H b=some (.tup (k.map kV))/\r=AW Ai k
theorem Dc.k {H:Hp}{a:Addr}{Ai:List (Key × V)}{k:Key}(e:H a=some (.dK Ai)):Dc H a (kV k) (AW Ai k):=.inl ⟨Ai,k,.inl e,rfl,rfl⟩
section
variable {X:Cx}{pins:List (Addr × Obj)}{σ:St}{H:Hp}{s:Shared}{a:Addr}{y v:V}{u r:Value}{o:Option V}{A:Around}{E:Value->Shared->Prop}
theorem Inv.big (I:Inv X pins σ H s):sysModules < s.heap.objs.size:=by
 have h:mainGlobals < s.heap.objs.size:=(I.mod.glob.keeps I.bk).lt;exact Nat.lt_trans ⟨⟩ h
theorem Nv {Q:Value->Shared->Prop}(hu:A.units+1 < cLine)(I:Inv X pins σ H s)(g:Dc H a y (some v))(ry:RelV y u)(h:∀ w' s',Inv X pins σ H s'->RelV v w'->Q w' s'):
  wpAny (model X.prog X.w) A (getItem (.ref a) u) Q E s:=by
 rcases g with ⟨Ai,k,e,ey,l⟩ | ⟨Ai,k,b,e,ey,eb,l⟩
 ·subst ey;obtain ⟨z,hd,vs,rel,dd⟩:=GQ I.hok e;obtain ⟨w',hw,Ij⟩:=DQ.some_of (v:=v) (o:=valueAt vs k) (by rw [l];exact rel.val k);exact wpAny_getItem_of (DL ry) dd.mapOf hw (h w' _ (I.tok _) Ij)
 ·subst ey;cases (show u=Value.ref b from ry);obtain ⟨z,hd,xs,rel,dd⟩:=JK I.hok e;obtain ⟨w',hw,Ij⟩:=DQ.some_of (v:=v) (o:=(atKey xs k).map (·.2)) (by rw [l];exact rel.val k);obtain ⟨p,hp,rF⟩:=Option.map_eq_some_iff.mp hw;refine wpAny_getItem_heap (tupleKind_room_in1 hu) (IX I.hok eb) dd hp ?_;rw [rF];exact h w' _ (I.tok _) Ij
theorem hU {Q:Value->Shared->Prop}(hu:A.units+1 < cLine)(I:Inv X pins σ H s)(g:Dc H a y o)(ry:RelV y u)(h:∀ s',Inv X pins σ H s'->Q (.bool o.isSome) s'):
  wpAny (model X.prog X.w) A (compareOp .In u (.ref a)) Q E s:=by
 rcases g with ⟨Ai,k,e,ey,l⟩ | ⟨Ai,k,b,e,ey,eb,l⟩
 ·subst ey;obtain ⟨z,hd,vs,rel,dd⟩:=GQ I.hok e;refine wpAny_in_of (DL ry) hd dd.mapOf ?_;rw [<- (rel.val k).aap,<- l];exact h _ (I.tok _)
 ·subst ey;cases (show u=Value.ref b from ry);obtain ⟨z,hd,xs,rel,dd⟩:=JK I.hok e;refine wpAny_in_heap (tupleKind_room_in1 hu) (IX I.hok eb) hd dd ?_;have q:=(rel.val k).aap;rw [Option.isSome_map] at q;rw [<- q,<- l];exact h _ (I.tok _)
theorem IY {h':Heap}{t':Nat}{ob:HO}(I:Inv X pins σ H s)(mu:Zl (H a))(hs:Heap.SameBut a s.heap h')(he:∃ q,h'.get? a=some q)(new:AN X.prog X.w (upd H a ob) h' a ob):
  Inv X pins σ (upd H a ob) { s with heap:=h',toks:=t' } :=
 I.write (x:=a) (e:=a) mu (.inl rfl) (λb q hb z=>(hs.2 b hb).trans z) he new
theorem GR {P:Program}{w:World}{H':Hp}{h':Heap}{Ai:List (Key × V)}{vs:List (Key × Value)}(z:Ai.length<=sizeLine)(hd:(a==sysModules)=false)(rel:KV Ai vs)(dd:h'.DictOf (AA P w) a vs):
  AN P w H' h' a (.dK Ai):=⟨z,hd,vs,rel,dd⟩
end
section
variable {X:Cx}{pins:List (Addr × Obj)}{σ:St}{H:Hp}{s:Shared}{a:Addr}{Ai:List (Key × V)}{k:Key}{u:Value}{A:Around}{E:Value->Shared->Prop}
theorem Yw {Q:Unit->Shared->Prop}(I:Inv X pins σ H s)(e:H a=some (.dK Ai))(ry:RelV (kV k) u)(l:(AW Ai k).isSome=true)(h:∀ s',Inv X pins σ (upd H a (.dK (C0 Ai k))) s'->Q .unit s'):
  wpAny (model X.prog X.w) A (delItem (.ref a) u) Q E s:=by
 obtain ⟨z,hd,vs,rel,dd⟩:=Ms I.hok e;refine wpAny_delItem_slot dd.typeIs ⟨⟩ PySem.F.slot_dict_delitem
  (call_meetsIn PySem.F.slot_dict_delitem dd.typeIs PySem.F.entry_dict_delitem (PySem.F.args_dict_delitem_2 _ _) (meets_dict_delitem_pairs (AA X.prog X.w) a (DL ry)) ⟨vs,dd,by rw [<- rel.length];exact z,by rw [<- (rel.val k).aap];exact l,λh' Nw hs=>h _ ?_⟩)
 have he:∃ q,h'.get? a=some q:=let ⟨q,_,_,hq,_⟩:=Nw;⟨q,hq⟩;exact IY I (by rw [e];exact True.intro) hs he (GR (Nat.le_trans (GO Ai k) z) hd (rel.drop k) Nw)
theorem ZE {v:V}{more:List Value}{Q:Value->Shared->Prop}(I:Inv X pins σ H s)(e:H a=some (.dK Ai))(ry:RelV (kV k) u)(l:AW Ai k=some v)(hm:more=[]\/∃ x,more=[x])
  (h:∀ w' s',Inv X pins σ (upd H a (.dK (C0 Ai k))) s'->RelV v w'->Q w' s'):wpAny (model X.prog X.w) A (call (.builtin "dict.pop") (.ref a::u::more)) Q E s:=by
 obtain ⟨z,hd,vs,rel,dd⟩:=Ms I.hok e;obtain ⟨w',hw,Ij⟩:=DQ.some_of (v:=v) (o:=valueAt vs k) (by rw [<- l];exact rel.val k);have hp:(keyPart u).isSome=true:=by
  cases k with
  | inl i=>obtain ⟨t,q⟩:=(show ∃ t,u=Value.int i t from ry);subst q;rfl
  | inr x=>obtain ⟨t,q⟩:=(show ∃ t,u=Value.str x t from ry);subst q;rfl
 have ha:argsOk "dict.pop" ⟨.ref a::u::more,[]⟩:=by
  rcases hm with q | ⟨x,q⟩
  ·subst q;exact PySem.F.args_dict_pop_2 _ _
  ·subst q;exact PySem.F.args_dict_pop_3 _ _ _
 refine call_meetsIn PySem.F.slot_dict_pop dd.typeIs PySem.F.entry_dict_pop ha (meets_dict_pop_there (AA X.prog X.w) a (DL ry) more hm hp)
  ⟨vs,w',dd,by rw [<- rel.length];exact z,hw,λh' Nw hs=>h w' _ ?_ Ij⟩
 have he:∃ q,h'.get? a=some q:=let ⟨q,_,_,hq,_⟩:=Nw;⟨q,hq⟩;exact IY I (by rw [e];exact True.intro) hs he (GR (Nat.le_trans (GO Ai k) z) hd (rel.drop k) Nw)
theorem Wi {r:Value}{Q:Value->Shared->Prop}(I:Inv X pins σ H s)(e:H a=some (.dK Ai))(ry:RelV (kV k) u)(l:AW Ai k=none)(h:∀ s',Inv X pins σ H s'->Q r s'):
  wpAny (model X.prog X.w) A (call (.builtin "dict.pop") [.ref a,u,r]) Q E s:=by
 obtain ⟨z,hd,vs,rel,dd⟩:=Ms I.hok e;have hn:valueAt vs k=none:=DQ.none_of (by rw [<- l];exact rel.val k);have hp:(keyPart u).isSome=true:=by
  cases k with
  | inl i=>obtain ⟨t,q⟩:=(show ∃ t,u=Value.int i t from ry);subst q;rfl
  | inr x=>obtain ⟨t,q⟩:=(show ∃ t,u=Value.str x t from ry);subst q;rfl
 exact call_meetsIn PySem.F.slot_dict_pop dd.typeIs PySem.F.entry_dict_pop (PySem.F.args_dict_pop_3 _ _ _) (meets_dict_pop_default (AA X.prog X.w) a (DL ry) hd hp r) ⟨vs,dd,hn,h _ (I.tok _)⟩
end
noncomputable def Ln (i:Expr):Prop:=∀ ov iv,subscripted i false ov iv=operate [ov,iv] (getItem ov iv)
theorem IZ {prog:Program}{w:World}{A:Around}{E:Value->Shared->Prop}{s:Shared}{env:Env}{value slice:Expr}{pos:Pos}{T id:String}{Q:Value->Shared->Prop}
  (hl:typeLookup (.type T) "__getitem__"=pure (some (.builtin id))) (hs:Ln slice)
  (h:wpAny (model prog w) A (eval value env) (λo s₁=>wpAny (model prog w) A (eval slice env) (λi s₂=>s₂.TypeIs o T/\wpAny (model prog w) A (getItem o i) Q E s₂) E s₁) E s) :
  wpAny (model prog w) A (eval (.Subscript value slice pos) env) Q E s:=by
 refine Subscript_ (wpAny_mono h (λo s₁ h₁=>wpAny_mono h₁ (λi s₂ h₂=>?_) λ_ _ x=>x) λ_ _ x=>x);obtain ⟨hT,h₂⟩:=h₂;unfold subscriptTail;refine wpAny_bind ?_;rw [getitemInPython_of_ne hT.not_modules];refine wpAny_bind (wpAny_specialOf hT hl ?_);have fin:wpAny (model prog w) A (subscripted slice false o i) (λr s₃=>wpAny (model prog w) A (letTemporaryGo value o r >>= λ_=>pure r) Q E s₃) E s₂:=by
  rw [hs o i];exact wpAny_operating (wpAny_mono h₂ (λr s₃ h₃=>wpAny_bind (wpAny_letTemporaryGo (wpAny_pure h₃))) λ_ _ x=>x)
 first
  | exact wpAny_pure (wpAny_bind fin)
  | exact wpAny_bind (wpAny_pure (wpAny_bind fin))
  | exact wpAny_bind fin
theorem JL {X:Cx}{pins:List (Addr × Obj)}{σ:St}{H:Hp}{s:Shared}{a:Addr}{y:V}{o:Option V}(I:Inv X pins σ H s)(g:Dc H a y o):s.TypeIs (.ref a) "dict":=by
 rcases g with ⟨Ai,k,e,_,_⟩ | ⟨Ai,k,b,e,_,_,_⟩
 ·obtain ⟨_,_,vs,_,dd⟩:=GQ I.hok e;exact dd.typeIs
 ·obtain ⟨_,_,xs,_,dd⟩:=JK I.hok e;exact dd.typeIs
noncomputable def Pp (td ty:TE):TE:=fun σ H Q=>td σ H λx H1=>ty σ H1 λy H2=>∃ a v,x=.ref a/\Dc H2 a y (some v)/\Q v H2
noncomputable def Pq (ty td:TE):TE:=fun σ H Q=>ty σ H λy H1=>td σ H1 λx H2=>∃ a o,x=.ref a/\Dc H2 a y o/\Q (.bl o.isSome) H2
section
variable {X:Cx}{o i e value:Expr}{pos pos' ZF:Pos}{td ty tv:TE}
theorem Sv (hu:X.A.units+1 < cLine)(ho:PE X o td)(hi:PE X i ty)(hs:Ln i):PE X (.Subscript o i pos) (Pp td ty):=by
 intro pins s σ H Q I h;refine IZ PySem.F.slot_dict_getitem.lookup hs (AX (ho pins s σ H _ I h) λu s1 AO=>?_);obtain ⟨x,H1,I1,rx,q1⟩:=AO;refine AX (hi pins s1 σ H1 _ I1 q1) λiv s2 AO=>?_;obtain ⟨y,H2,I2,ry,a,v,ex,g,q2⟩:=AO;subst ex;obtain rfl:u=Value.ref a:=rx;exact ⟨JL I2 g,Nv hu I2 g ry λw' s3 I3 Ij=>⟨v,H2,I3,Ij,q2⟩⟩
theorem Pu (hu:X.A.units+1 < cLine)(hi:PE X i ty)(ho:PE X o td):PC X .In i o (Pq ty td):=by
 intro pins s σ H Q I h;refine AX (hi pins s σ H _ I h) λiv s1 AO=>?_;obtain ⟨y,H1,I1,ry,q1⟩:=AO;refine AX (ho pins s1 σ H1 _ I1 q1) λu s2 AO=>?_;obtain ⟨x,H2,I2,rx,a,ov,ex,g,q2⟩:=AO;subst ex;obtain rfl:u=Value.ref a:=rx;exact hU hu I2 g ry λs3 I3=>⟨.bl ov.isSome,H2,I3,rfl,q2⟩
end
theorem JM {P:Program}{w:World}{H:Hp}(h:Heap)(hb:sysModules < h.objs.size):AN P w H (h.push { cls:=.type "dict",data:=.dict #[] }) h.objs.size (.dK []) :=
 ⟨Nat.zero_le _,beq_eq_false_iff_ne.mpr (Ne.symm (Nat.ne_of_lt hb)),[],.nil,Heap.DictOf.new h⟩
noncomputable def Pw:TE:=λ_ H Q=>∀ p,H p=none->Q (.ref p) (upd H p (.dK []))
section
variable {X:Cx}{pos:Pos}
theorem Px:PE X (.Dict [] [] pos) Pw:=λpins s σ H Q I h =>
 wpAny_Dict_empty ⟨.ref s.heap.objs.size,_,I.laid (a:=s.heap.objs.size) (o:=.dK []) (t':=s.toks) (λ_ _ q=>Heap.get?_push_of_some _ q) (Nat.le_refl _) (JM s.heap I.big),rfl,h _ (I.hok.fresh (Nat.le_refl _))⟩
end
noncomputable def EA:List (TE × TE)->St->Hp->(List (V × V)->Hp->Prop)->Prop
 | [],_,H,Q=>Q [] H
 | (tk,tv)::r,σ,H,Q=>tk σ H λx H1=>tv σ H1 λy H2=>EA r σ H2 λps H3=>Q ((x,y)::ps) H3
abbrev VV:List (V × V)->List (Value × Value)->Prop:=Paired λp q=>RelV p.1 q.1/\RelV p.2 q.2
noncomputable def ZG (X:Cx)(pos:Pos)(keys:List (Option Expr))(values:List Expr)(Im:List (TE × TE)):Prop :=
 ∀ (pins:List (Addr × Obj)) (s:Shared) (σ:St) (H:Hp) (Q:List (V × V)->Hp->Prop),Inv X pins σ H s->EA Im σ H Q ->
  wpAny (model X.prog X.w) X.A (evalPairs (pairTrees keys values X.env pos)) (λvs s'=>∃ ps H',Inv X pins σ H' s'/\VV ps vs/\Q ps H') X.xe s
theorem Sw {X:Cx}{pos:Pos}:ZG X pos [] [] []:=λpins s σ H Q I h=>pairTrees_nil_walk ⟨[],H,I,.nil,h⟩
theorem Py {X:Cx}{pos:Pos}{k v:Expr}{ks:List (Option Expr)}{vs:List Expr}{tk tv:TE}{Im:List (TE × TE)}(hk:PE X k tk)(hv:PE X v tv)(hr:ZG X pos ks vs Im):
  ZG X pos (some k::ks) (v::vs) ((tk,tv)::Im):=λpins s σ H Q I h =>
 pairTrees_cons_walk (AX (hk pins s σ H _ I h) λu s1 ⟨x,H1,I1,rx,q1⟩=>AX (hv pins s1 σ H1 _ I1 q1) λw2 s2 ⟨y,H2,I2,ry,q2⟩ =>
  AX (hr pins s2 σ H2 _ I2 q2) λws s3 ⟨ps,H3,I3,rel,q3⟩=>⟨(x,y)::ps,H3,I3,.cons ⟨rx,ry⟩ rel,q3⟩)
noncomputable def Bd (Ai more:List (Key × V)):List (Key × V):=more.foldl (λacc kv=>putK acc kv.1 kv.2) Ai
theorem KV.merge:∀ {more:List (Key × V)} {rs:List (Key × Value)} {Ai:List (Key × V)} {vs:List (Key × Value)},KV more rs->KV Ai vs->KV (Bd Ai more) (merged vs rs):=by
 intro more rs Ai vs r;unfold KV at r
 induction r generalizing Ai vs with
 | nil=>intro q;exact q
 | @cons p q ps qs h t ih =>
  intro r0;have e:KV (putK Ai p.1 p.2) (stored vs q.1 q.2):=by
   have:=r0.put p.1 h.2;rw [<- h.1];exact this
  exact ih e
theorem Dd:∀ (more Ai:List (Key × V)),(Bd Ai more).length<=Ai.length+more.length
 | [],Ai=>by show Ai.length<=Ai.length+0;omega
 | p::r,Ai=>by
  have h1:=Dd r (putK Ai p.1 p.2);have h2:=JJ Ai p.1 p.2;show (Bd (putK Ai p.1 p.2) r).length<=_;rw [List.length_cons];omega
theorem GS {P:Program}{w:World}:∀ {Ai:List (Key × V)} {ws:List (Value × Value)},VV (Ai.map λkv=>(kV kv.1,kv.2)) ws->∃ rs,Carries (AA P w) ws rs/\KV Ai rs
 | [],_,r=>by rw [List.map_nil] at r;cases r;exact ⟨[],True.intro,.nil⟩
 | p::Ai,_,r=>by
  rw [List.map_cons] at r;cases r with
  | @cons a b as bs h t =>
   obtain ⟨rs,c,q⟩:=GS (P:=P) (w:=w) t;obtain ⟨b1,b2⟩:=b;exact ⟨(p.1,b2)::rs,⟨DL h.1,rfl,c⟩,.cons ⟨rfl,h.2⟩ q⟩
noncomputable def Pz (Im:List (TE × TE)):TE:=fun σ H Q=>∀ p,H p=none->EA Im σ (upd H p (.dK [])) λps H2=>H2 p=some (.dK [])/\∃ Ai:List (Key × V),ps=Ai.map (λkv=>(kV kv.1,kv.2))/\Ai.length<=15/\Q (.ref p) (upd H2 p (.dK (Bd [] Ai)))
theorem Sx {X:Cx}{pos:Pos}{keys:List (Option Expr)}{values:List Expr}{Im:List (TE × TE)}(h:ZG X pos keys values Im)(Lo:keys.all (·.isSome)=true)(hl:keys.length=values.length)(h0:keys≠[])
  (hV:keys.length<=15):PE X (.Dict keys values pos) (Pz Im):=by
 intro pins s σ H Q I q;have hn:=I.hok.fresh (Nat.le_refl s.heap.objs.size);have I1:=I.laid (a:=s.heap.objs.size) (o:=.dK []) (h':=s.heap.push { cls:=.type "dict",data:=.dict #[] }) (t':=s.toks) (λ_ _ q=>Heap.get?_push_of_some _ q) (Nat.le_refl _) (JM s.heap I.big);refine wpAny_Dict_walk (knd:=AA X.prog X.w) Lo hl h0 hV (AX (h pins _ σ _ _ I1 (q _ hn)) λws s2 AO=>?_);obtain ⟨ps,H2,I2,rel,e,Ai,ep,lk,q2⟩:=AO;subst ep;obtain ⟨rs,c,rk⟩:=GS (P:=X.prog) (w:=X.w) rel;obtain ⟨z,hd,xh,r0,dd⟩:=Ms I2.hok e;cases r0;refine ⟨rs,c,dd,λh' Nw hs=>⟨.ref s.heap.objs.size,_,?_,rfl,q2⟩⟩;have hz:(Bd [] Ai).length<=sizeLine:=by
  have h1:=Dd Ai [];rw [List.length_nil] at h1;rw [sizeLine_eq];omega
 have he:∃ q,h'.get? s.heap.objs.size=some q:=let ⟨q,_,_,hq,_⟩:=Nw;⟨q,hq⟩;exact IY I2 (by rw [e];exact True.intro) hs he (GR hz hd (rk.merge .nil) Nw)
structure M2 (X:Cx)(o:Expr)(m:Str)(apos:Pos)(e f:Expr)(B6:Pos):Prop where
 base:attributeBase o m X.env (eval o X.env)=eval o X.env
 few:((backTo B6 (starEach [e,f] X.env)).all (λx=>!x.1) && (backToKw B6 (keywordEach [] X.env)).all (λx=>x.1.isSome)
  && decide (([e,f]:List Expr).length+([]:List Keyword).length+(if ([]:List Keyword).isEmpty then 0 else 1) < 30))=true
 line:(apos.endLine==B6.line)=true
 trees:backTo B6 (starEach [e,f] X.env)=[(false,eval e X.env),(false,eval f X.env)]
noncomputable def ZH (H:Hp)(a:Addr):Prop:=(∃ Ai,Rd H a (.dK Ai))\/∃ Ai,Rd H a (.dT Ai)
theorem PD {X:Cx}{pins:List (Addr × Obj)}{σ:St}{H:Hp}{s:Shared}{a:Addr}(I:Inv X pins σ H s)(d:ZH H a):
  s.TypeIs (.ref a) "dict"/\(∀ b,Value.ref a=.ref b->∃ ob,s.heap.get? b=some ob/\ob.dict=none)/\(a==sysModules)=false:=by
 rcases d with ⟨Ai,e⟩ | ⟨Ai,e⟩
 ·obtain ⟨_,hd,vs,_,dd⟩:=GQ I.hok e;refine ⟨dd.typeIs,λb q=>?_,hd⟩;cases q;obtain ⟨ob,_,_,h1,h2,_⟩:=dd;exact ⟨ob,h1,h2.2.1⟩
 ·obtain ⟨_,hd,xs,_,dd⟩:=JK I.hok e;refine ⟨dd.typeIs,λb q=>?_,hd⟩;cases q;obtain ⟨ob,_,_,h1,h2,_⟩:=dd;exact ⟨ob,h1,h2.2.1⟩
section
variable {X:Cx}{pins:List (Addr × Obj)}{σ:St}{H:Hp}{s:Shared}{a:Addr}{y d:V}{u r:Value}{o:Option V}{A:Around}{E:Value->Shared->Prop}
theorem Wj {Q:Value->Shared->Prop}(hu:A.units+1 < cLine)(I:Inv X pins σ H s)(g:Dc H a y o)(ry:RelV y u)(left:RelV d r)(h:∀ w' s',Inv X pins σ H s'->RelV (o.getD d) w'->Q w' s'):
  wpAny (model X.prog X.w) A (call (.builtin "dict.get") [.ref a,u,r]) Q E s:=by
 rcases g with ⟨Ai,k,e,ey,l⟩ | ⟨Ai,k,b,e,ey,eb,l⟩
 ·subst ey;obtain ⟨z,hd,vs,rel,dd⟩:=GQ I.hok e;refine call_meetsIn PySem.F.slot_dict_get dd.typeIs PySem.F.entry_dict_get (PySem.F.args_dict_get_3 _ _ _) (meets_dict_get_default (AA X.prog X.w) a (DL ry) hd r) ⟨_,dd.mapOf,h _ _ (I.tok _) ?_⟩;rw [l];exact (rel.val k).getD left
 ·subst ey;cases (show u=Value.ref b from ry);obtain ⟨z,hd,xs,rel,dd⟩:=JK I.hok e;refine call_meetsIn PySem.F.slot_dict_get dd.typeIs PySem.F.entry_dict_get (PySem.F.args_dict_get_3 _ _ _) (meetsH_dict_get_default (tupleKind (AA X.prog X.w)) a b hd r) ⟨tupleKind_room_in1 hu,k,xs,IX I.hok eb,dd,h _ _ (I.tok _) ?_⟩;rw [l];exact (rel.val k).getD left
end
noncomputable def Lp (td ty tx:TE):TE:=fun σ H Q=>td σ H λx H1=>∃ a,x=.ref a/\ZH H1 a/\ty σ H1 λy H2=>tx σ H2 λz H3=>∃ o,Dc H3 a y o/\Q (o.getD z) H3
noncomputable def Lq (td ty tx:TE):TE:=fun σ H Q=>td σ H λx H1=>∃ a,x=.ref a/\ZH H1 a/\ty σ H1 λy H2=>tx σ H2 λz H3=>∃ Ai k,H3 a=some (.dK Ai)/\y=kV k /\
 (∀ v,AW Ai k=some v->Q v (upd H3 a (.dK (C0 Ai k))))/\(AW Ai k=none->Q z H3)
section
variable {X:Cx}{o e f:Expr}{apos B6:Pos}{td ty tx:TE}
theorem PF (hu:X.A.units+1 < cLine)(ho:PE X o td)(he:PE X e ty)(hf:PE X f tx)(m:M2 X o "get" apos e f B6):PE X (.Call (.Attribute o "get" apos) [e,f] [] B6) (Lp td ty tx):=by
 intro pins s σ H Q I h;refine wpAny_Call_method m.base m.few m.line PySem.F.plainAttrs_dict PySem.F.slot_dict_get PySem.F.type_dict_get (AX (ho pins s σ H _ I h) λu s1 AO=>?_);obtain ⟨x,H1,I1,rx,a,ex,d,q1⟩:=AO;subst ex;obtain rfl:u=Value.ref a:=rx;obtain ⟨t1,t2,_⟩:=PD I1 d;refine ⟨t1,t2,?_⟩;rw [m.trees];refine Calls.callWith_builtin rfl (Calls.evalArgs_plain (Calls.spliced_cons (AX (he pins s1 σ H1 _ I1 q1) λiv s2 AO=>?_)));obtain ⟨y,H2,I2,ry,q2⟩:=AO;refine Calls.spliced_cons (AX (hf pins s2 σ H2 _ I2 q2) λfv s3 AO=>?_);obtain ⟨z,H3,I3,rz,ov,g,q3⟩:=AO;refine Calls.spliced_nil ?_;exact Wj hu I3 g ry rz λw' s4 I4 Ij=>⟨_,H3,I4,Ij,q3⟩
theorem PH (ho:PE X o td)(he:PE X e ty)(hf:PE X f tx)(m:M2 X o "pop" apos e f B6):PE X (.Call (.Attribute o "pop" apos) [e,f] [] B6) (Lq td ty tx):=by
 intro pins s σ H Q I h;refine wpAny_Call_method m.base m.few m.line PySem.F.plainAttrs_dict PySem.F.slot_dict_pop PySem.F.type_dict_pop (AX (ho pins s σ H _ I h) λu s1 AO=>?_);obtain ⟨x,H1,I1,rx,a,ex,d,q1⟩:=AO;subst ex;obtain rfl:u=Value.ref a:=rx;obtain ⟨t1,t2,_⟩:=PD I1 d;refine ⟨t1,t2,?_⟩;rw [m.trees];refine Calls.callWith_builtin rfl (Calls.evalArgs_plain (Calls.spliced_cons (AX (he pins s1 σ H1 _ I1 q1) λiv s2 AO=>?_)));obtain ⟨y,H2,I2,ry,q2⟩:=AO;refine Calls.spliced_cons (AX (hf pins s2 σ H2 _ I2 q2) λfv s3 AO=>?_);obtain ⟨z,H3,I3,rz,Ai,k,ea,ey,q3,q4⟩:=AO;refine Calls.spliced_nil ?_;subst ey;cases l:AW Ai k with
 | some v=>exact ZE I3 ea ry l (.inr ⟨fv,rfl⟩) λw' s4 I4 Ij=>⟨v,_,I4,Ij,q3 v l⟩
 | none=>exact Wi I3 ea ry l λs4 I4=>⟨z,H3,I4,rz,q4 l⟩
end
section
variable {X:Cx}{pins:List (Addr × Obj)}{σ:St}{H:Hp}{s:Shared}{a:Addr}{Ai:List (Key × V)}{A:Around}{E:Value->Shared->Prop}
theorem PJ {Q:Value->Shared->Prop}(I:Inv X pins σ H s)(e:Rd H a (.dK Ai))(h:∀ p s',H p=none->Inv X pins σ (upd H p (.dK Ai)) s'->Q (.ref p) s'):wpAny (model X.prog X.w) A (call (.type "dict") [.ref a]) Q E s:=by
 obtain ⟨z,hd,vs,rel,dd⟩:=GQ I.hok e;refine kt_call_dict hd dd (by rw [<- rel.length];exact z) λh' Nw hs=>?_;refine h _ _ (I.hok.fresh (Nat.le_refl _)) (I.laid (a:=s.heap.objs.size) (o:=.dK Ai) (t':=s.toks) (λb q hq=>?_) (Nat.le_refl _) (GR z (beq_eq_false_iff_ne.mpr (Ne.symm (Nat.ne_of_lt I.big))) rel Nw));exact (hs.2 b (Nat.ne_of_lt (Heap.lt_size hq))).trans (Heap.get?_push_of_some _ hq)
end
end L2
namespace o7
open PySem PySem.W PySem.Calls PyProof.Rows
theorem G3 {P:Params}{h:Heap}:∀ (ns:List Int) (vs:List Value),WellAll P h vs (ns.map WData.int)->IntsAre vs ns:=by
 intro ns
 induction ns with
 | nil =>
  intro vs w;rw [List.map_nil] at w;cases w;exact .nil
 | cons n ns ih =>
  intro vs w;rw [List.map_cons] at w;cases w with
  | cons a b =>
   cases a;exact .cons _ _ (ih _ b)
theorem Ny {l:OpenLaw}{n:Nat}(hn:l.most=some n){P:Params}{h:Heap}{args:List WData}{vals:List Value}
  (Sy:l.row.toRowW.claim.pre args=true) (dW:WellAll P h vals args) :
  ∃ a vs ns,vals=[Value.ref a]/\args=[WData.list (ns.map WData.int)]/\h.get? a=some { cls:=.type "list",data:=.seq vs.toArray }/\IntsAre vs ns/\ns.length<=n:=by
 have hX:WShape.hasAll [] args [.list .int]=true:=(pre_splitW Sy).1;have hc:l.pre.holds [] { args:=args }=true:=(pre_splitW Sy).2;obtain ⟨d,r,rfl,h1,h2⟩:=hasAllW_cons hX;obtain rfl:=hasAllW_nil h2;obtain ⟨xs,rfl,h3⟩:=hasW_list h1;obtain ⟨ns,rfl⟩:=items_int h3;have hlen:ns.length<=n:=by
  unfold OpenLaw.pre at hc;have h4:(WTm.not (.lt (.lit (.int (n:Int))) (.len (.arg 0)))).holds [] { args:=[.list (ns.map .int)] }=true:=by
   have h4:=(holds_andW hc).1;rw [hn] at h4;exact h4
  have h5:=condW_of h4 (w_not (w_lt w_lit (w_len_list (w_arg rfl))));rw [List.length_map] at h5;refine Nat.le_of_not_lt λq=>?_;have q':(n:Int) < ((ns.length:Nat):Int):=by omega
  first
   | (rw [decide_eq_true q'] at h5;exact absurd h5 ⟨⟩)
   | (simp at h5;omega)
 cases dW with
 | cons w1 w2 =>
  cases w2;cases w1 with
  | list ho Lo=>exact ⟨_,_,ns,rfl,rfl,ho,G3 ns _ Lo,hlen⟩
theorem Nz (l:OpenLaw)(args:List WData):l.row.toRowW.claim.post args (.bool true) args=true :=
 postW_of (r:=l.row.toRowW) (X:=(true==true))
  (show WShape.has [] (.bool true) .bool=true by first | rfl | decide | simp [WShape.has,WShape.arms,WShape.armsAll])
  (show (WTm.eq .res (.lit (.bool true))).value [] { args:=args,res:=some (.bool true),after:=args }=some (.bool (true==true)) from w_eq_bool (w_res rfl) w_lit) rfl
theorem aa5 {l:OpenLaw}{n:Nat}{q:Program}{loose:List Str}{XP:(Str->Option Value)->Heap->Prop}{YP:World->Heap->Prop}{d:DefRec}
  (hn:l.most=some n) (hZ:d.params.defaults=[])
  (call:∀ (w:World) (s₀ s₁:Shared) (mg mb:Str->Option Value) (fa:Addr) (o:Obj) (pm cd doc:Value) (a:Addr) (vs:List Value) (ns:List Int),
   Ground q loose [] XP w s₀ mg mb s₁.heap->YP w s₁.heap ->
   s₁.heap.get? fa=some o->o.data=.func (docDef d.name d.params d.body d.scope pm cd doc)->s₁.heap.CodeRec cd d.name->mg d.name=some (.ref fa) ->
   s₁.heap.get? a=some { cls:=.type "list",data:=.seq vs.toArray }->IntsAre vs ns->ns.length<=n->s₁.gens=#[] ->
   codeAny (model l.prog w) callerA (.call (.ref fa) ⟨[.ref a],[]⟩) (λr s'=>r=.ok (.ret (.bool true))/\OldK s₁.heap s'.heap/\s'.os=s₁.os/\AllBare s'.gens) s₁) :
  WalkO q loose XP YP l.row.toRowW d [] (λf vs=>PySem.call f vs):=by
 intro w s₀ s₁ mg mb G Y fa o pm cd doc dV kV ho hd Gy hD ZI hg args vals as Sy hlay xi dW xj;obtain rfl:dV=.none:=Dflts.none hD hZ;obtain rfl:kV=.none:=Dflts.noKw hD;obtain ⟨a,vs,ns,rfl,rfl,Wk,hints,hlen⟩:=Ny hn Sy dW;refine enter_call (codeAny_mono (call w s₀ s₁ mg mb fa o pm cd doc a vs ns G Y ho (fd_plain hd) Gy ZI Wk hints hlen hg) λr s' hq=>?_);obtain ⟨rfl,h2,h3,h4⟩:=hq;exact ⟨.inl ⟨.bool true,.bool true,[],rfl,λ_=>rfl,.bool true,Nz l _,λ_=>⟨List.Pairwise.nil,λ_ hm=>(nomatch hm)⟩⟩,h2,h3,h4⟩
end o7
namespace L2
open PySem PySem.Spec PyProof.Rows
theorem Io:∀ {vs:List Value} {ns:List Int},IntsAre vs ns->Vals (ns.map V.int) vs
 | _,_,.nil=>.nil
 | _,_,.cons n t h=>.cons ⟨t,rfl⟩ (Io h)
noncomputable def Bh (s:Stmt):Arguments:=match s with
 | .FunctionDef _ a _ _ _ _ _ _ _ _=>a
 | _=>{ posonlyargs:=[],args:=[],vararg:=none,kwonlyargs:=[],kw_defaults:=[],kwarg:=none,defaults:=[] }
noncomputable def AU (s:Stmt):List Stmt:=match s with
 | .FunctionDef _ _ b _ _ _ _ _ _ _=>b
 | _=>[]
noncomputable def A6 (s:Stmt):Scope:=match s with
 | .FunctionDef _ _ _ _ _ _ sc _ _ _=>sc
 | _=>{ kind:=.function,names:=[],isGenerator:=false,isCoroutine:=false }
abbrev Bs:KW:=λ_ _ _ _ _ _=>False
abbrev E0:XK:=λ_ _ _=>False
theorem JN {X:Cx}:Passes Bs X E0:=λ_ _ _ _ _ _ _ h=>h.elim
structure C8 (K:W.Frag)(x qual:Str)(st:Stmt)(f:Addr)(fd:FuncData):Prop where
 ex:∃ (oc:Value) (od:Option Addr) (kV doc pm:Value) (an:Option Addr) (B9 ct:Value) (Ot:Array (Option Value)),
  fd=W.fnOf x qual (Bh st) (AU st) (A6 st) .none kV doc pm an B9 ct/\K.lookup f=some ⟨oc,od,.func fd,Ot⟩/\W.codeIn K B9 qual=true
 kp:W.keepIn K (.ref f)=true
section
variable {P:Program}{w:World}{K:W.Frag}{mg:Str->Option Value}{base:Heap}
theorem C8.ok {x qual:Str}{st:Stmt}{f:Addr}{fd:FuncData}{N ps:List Str}{k:Nat}{sp:Sp}(F:C8 K x qual st f fd)(S:Am N ps (A6 st))(len:∀ vs H Q E,sp vs H Q E->vs.length=ps.length)
  (EU:∀ (B9:Value) (A:Around) (outer:List Env) (s:Shared) (H:Hp) (vs:List V) (Q:VK) (E:XK),AG k (A.deeper (envOfC qual (A6 st) s.heap.objs.size f B9))->sp vs H Q E ->
   ∃ t,L7 (BQ Bs P w K mg base N qual (A6 st) f B9 A outer s H E).nox (AU st) t/\t { nx:=λ_ H'=>Q .non H',rt:=Q } (start N vs) H):Av P w K mg base Bs (k+1) f fd ps sp:=by
 obtain ⟨oc,od,kV,doc,pm,an,B9,ct,Ot,rfl,lk,Gy⟩:=F.ex;refine Pc lk Gy S len λA outer s H vs Q E hr Ou=>?_;obtain ⟨t,h,q⟩:=EU B9 A outer s H vs Q E hr Ou;exact ⟨t,h.nox,q⟩
theorem C8.binds {x qual:Str}{st:Stmt}{f:Addr}{fd:FuncData}{ps:List Str}(F:C8 K x qual st f fd)
  (h:∀ (kV doc pm:Value) (an:Option Addr) (B9 ct:Value) (us:List Value),us.length=ps.length->bindArgs (W.fnOf x qual (Bh st) (AU st) (A6 st) .none kV doc pm an B9 ct) ⟨us,[]⟩=pure (ps.zip us)):Binds K fd ps []:=by
 obtain ⟨oc,od,kV,doc,pm,an,B9,ct,Ot,rfl,lk,Gy⟩:=F.ex;exact .all (h kV doc pm an B9 ct)
theorem PK {x qual:Str}{st:Stmt}{f:Addr}{oc:Value}{od an:Option Addr}{Ot:Array (Option Value)}{kV doc pm B9 ct:Value}(l:K.lookup f=some ⟨oc,od,.func (W.fnOf x qual (Bh st) (AU st) (A6 st) .none kV doc pm an B9 ct),Ot⟩)
  (c:W.codeIn K B9 qual=true) (k:W.keepIn K (.ref f)=true):C8 K x qual st f (W.fnOf x qual (Bh st) (AU st) (A6 st) .none kV doc pm an B9 ct):=⟨⟨oc,od,kV,doc,pm,an,B9,ct,Ot,rfl,l,c⟩,k⟩
end
theorem JO {A:Around}{k:Nat}(hr:AG k A):A.units+1 < cLine:=Nat.lt_of_le_of_lt (Nat.add_le_add_left (by decide:1<=64) _) hr.units
section
variable {X:Cx}
theorem pv (i:Nat){x:Str}{pos:Pos}(hN:X.N[i]?=some x:=by rfl)(hv:Uv X.env.scope x:=by exfalso)(hd:(x==("__debug__":Str))=false:=by decide)
  (Gy:(x==("__classdict__":Str))=false:=by decide):PE X (.Name x pos) (B2 i):=L8 hN hv hd Gy
end
theorem BG {A B:Prop}(h:B):if false=true then A else B:=by
 rw [if_neg Bool.false_ne_true];exact h
theorem C5 {A B:Prop}(h:A):if true=true then A else B:=by
 rw [if_pos rfl];exact h
theorem C6 {c A B:Prop}[Decidable c](h1:c->A)(h2:¬ c->B):if c then A else B:=by
 by_cases h:c
 ·rw [if_pos h];exact h1 h
 ·rw [if_neg h];exact h2 h
noncomputable def A9 (H H':Hp):Prop:=∀ b o,H b=some o->H' b=some o
theorem A9.refl (H:Hp):A9 H H:=λ_ _ h=>h
theorem A9.trans {H H1 H2:Hp}(a:A9 H H1)(b:A9 H1 H2):A9 H H2:=λc o h=>b c o (a c o h)
theorem A9.free {H H':Hp}(e:A9 H H'){l:Addr}(h:H' l=Option.none):H l=Option.none:=by
 cases q:H l with
 | none=>rfl
 | some o =>
  rw [e l o q] at h;cases h
theorem A9.seq {K:W.Frag}{H H':Hp}{a:Addr}{xs:List V}(e:A9 H H')(h:AI K H a xs):AI K H' a xs:=by
 rcases h with (h | ⟨o,h⟩) | h
 ·exact .inl (.inl (e _ _ h))
 ·exact .inl (.inr ⟨o,e _ _ h⟩)
 ·exact .inr h
section
variable {κ:Type}[DecidableEq κ]
theorem NA {p:κ × V}{r:List (κ × V)}{k:κ}(e:p.1=k):C0 (p::r) k=C0 r k:=by
 unfold C0;rw [List.filter_cons,if_neg (by simp [e])]
theorem NB {p:κ × V}{r:List (κ × V)}{k:κ}(e:¬ p.1=k):C0 (p::r) k=p::C0 r k:=by
 unfold C0;rw [List.filter_cons,if_pos (by simp [e])]
theorem NC {Ai:List (κ × V)}{k:κ}{p:κ × V}(h:p∈C0 Ai k):p∈Ai:=(List.mem_filter.mp h).1
end
section
variable {P:Program}{w:World}{H H1:Hp}{h h1:Heap}{a:Addr}{o:HO}{fs ex:List Addr}
theorem Di.aau (x:Di P w H h)(hn:H a=none)(new:AN P w (upd H a o) h a o):Di P w (upd H a o) h:=by
 intro b u e;by_cases hb:b=a
 ·subst hb;rw [Aa] at e;cases e;exact new
 ·rw [Aj hb] at e;refine (x b u e).abb (λc v _ q=>q) (λc q=>?_) (λc xs q=>?_)
  ·rw [Aj (Ak q hn)];exact q
  ·rw [Aj (Ak q hn)];exact q
theorem Un.aau (u:Un fs ex H H1 h h1)(hn:H1 a=none)(ha:h.get? a=none):Un fs ex H (upd H1 a o) h h1 where
 keep:=u.keep
 slot:=u.slot
 free:=λb ob q n hx=>by
  have hb:b≠a:=λz=>by rw [z,ha] at q;cases q
  rw [Aj hb];exact u.free b ob q n hx
 there:=u.there
 aa1:=λb xs q=>by
  have z:=u.aa1 b xs q;rw [Aj (Ak z hn)];exact z
 aaz:=λb ob xs q=>by
  have z:=u.aaz b ob xs q;rw [Aj (Ak z hn)];exact z
 aa0:=λb ps q=>by
  obtain ⟨more,z⟩:=u.aa0 b ps q;exact ⟨more,by rw [Aj (Ak z hn)];exact z⟩
end
section
variable {prog:Program}{w:World}{A:Around}{R:Result->Shared->Prop}{s:Shared}
abbrev Sz:Value->Shared->Prop:=λ_ _=>False
theorem Lr {elt target iter:Expr}{ifs:List Expr}{scope:Scope}{pos:Pos}{it acc:Value}{env:Env}(J:Nat->Shared->Prop)
  (turn:∀ n s,J n s->wpAny (model prog w) A (pyNext it) (λr s1=>match r with
   | none=>R (.ok .next) s1
   | some v=>wpAny (model prog w) A (letOwnedTupleGo target it v) (λ_ s2=>wpAny (model prog w) A (assign target env v) (λ_ s3 =>
     wpAny (model prog w) A (forIn ifs true λc r=>if r=true then do let ok <- isTrue c env (eval c env);pure (ForInStep.yield ok) else pure (ForInStep.yield r)) (λok s4 =>
      if ok=true then wpAny (model prog w) A (eval elt env) (λx s5=>wpAny (model prog w) A (call (.builtin "list.append") [acc,x]) (λ_ s6=>∃ m,m < n/\J m s6) Sz s5) Sz s4
      else ∃ m,m < n/\J m s4) Sz s3) Sz s2) Sz s1) Sz s)
  (n:Nat) (h:J n s):codeAny (model prog w) A (.compLoop (.ListComp elt [⟨target,iter,ifs,0⟩] scope pos) 0 it acc env) R s:=by
 refine codeAny_loop rfl J (λn s hJ=>?_) n h;show wpAny _ A ((compTurn (.ListComp elt [⟨target,iter,ifs,0⟩] scope pos) 0 it acc env).onRaise (λx=>do noteFrame x env;theTreesLotGoes x)) _ _ s
 refine wpAny_noted ?_;rw [compTurn_list];refine wpAny_bind (wpAny_standAt (wpAny_bind (wpAny_mono (turn n s hJ) (λr s1 q1=>?_) λ_ _ z=>z.elim)));cases r with
 | none=>exact wpAny_pure q1
 | some v =>
  refine wpAny_bind (wpAny_mono q1 (λ_ s2 q2=>?_) λ_ _ z=>z.elim);refine wpAny_bind (wpAny_mono q2 (λ_ s3 q3=>?_) λ_ _ z=>z.elim);refine wpAny_bind (wpAny_mono q3 (λok s4 q4=>?_) λ_ _ z=>z.elim);cases ok with
  | false=>exact wpAny_pure ⟨rfl,q4⟩
  | true =>
   refine wpAny_bind (wpAny_bind (wpAny_mono q4 (λx s5 q5=>?_) λ_ _ z=>z.elim));refine wpAny_bind (wpAny_mono q5 (λ_ s6 q6=>?_) λ_ _ z=>z.elim);exact wpAny_pure (wpAny_pure ⟨rfl,q6⟩)
end
noncomputable def Cx.blk (X:Cx)(N:List Str)(env:Env)(s0:Shared)(H0:Hp)(ex:List Addr):Cx :=
 { X with N:=N,s₀:=s0,H₀:=H0,env:=env,outer:=X.stack,stack:=X.stack,ex:=ex,fn:=λ_=>false,pn:=[],xe:=Sz }
structure AZ (X:Cx)(scope:Scope)(cl:List (Str × Addr))(own fr:List Str)(js:List Nat):Prop where
 aa3:closureFor scope X.env=pure cl
 cell:∀ y∈scope.names,y.2≠.cell
 kind:scope.kind=.function
 names:∀ y∈scope.names,y.2=.local->scope.names.lookup y.1=some .local
 sub:cl.map (λp=>X.env.cells.lookup p.1)=cl.map (λp=>some p.2)
 has:((relabel scope X.env).names.all λy=>!(y.2==.cell || y.2==.free) || (cl.lookup y.1).isSome)=true
 fre:(fr.all λy=>(X.env.kindOf y==some .cell || X.env.kindOf y==some .free) && ((relabel scope X.env).names.lookup y==some .cell || (relabel scope X.env).names.lookup y==some .free))=true
 here:js.map (λj=>X.N[j]?)=fr.map some
noncomputable def Cw (own:List Str)(js:List Nat)(σ:St):St:=own.map (λ_=>none)++js.map (λj=>(σ[j]?).join)
noncomputable def ZJ (X:Cx)(scope:Scope)(cl:List (Str × Addr))(C:Addr):Env:=compEnvC scope cl C X.env
abbrev Cx.cmp (X:Cx)(scope:Scope)(cl:List (Str × Addr))(own fr:List Str)(C:Addr)(s0:Shared)(H0:Hp)(ex:List Addr):Cx:=X.blk (own++fr) (ZJ X scope cl C) s0 H0 ex
theorem lookup_mem {α:Type}:∀ {l:List (Str × α)} {y:Str} {c:α},l.lookup y=some c->(y,c)∈l
 | [],_,_,h=>by simp at h
 | (z,d)::r,y,c,h=>by
  rw [List.lookup_cons] at h;cases e:y==z with
  | true=>rw [e] at h;cases h;rw [eq_of_beq e];exact .head _
  | false=>rw [e] at h;exact .tail _ (lookup_mem h)
section
variable {X:Cx}{scope:Scope}{cl:List (Str × Addr)}{own fr:List Str}{js:List Nat}{pins:List (Addr × Obj)}{σ:St}{H:Hp}{s s':Shared}{fp:List Addr}{C:Addr}{m:Str->Option Value}
theorem AZ.cells (S:AZ X scope cl own fr js){y:Str}{c:Addr}(h:cl.lookup y=some c):X.env.cells.lookup y=some c:=by
 have hm:=lookup_mem h;have e:∀ (l:List (Str × Addr)),l.map (λp=>X.env.cells.lookup p.1)=l.map (λp=>some p.2)->∀ p∈l,X.env.cells.lookup p.1=some p.2:=by
  intro l
  induction l with
  | nil=>intro _ p hp;cases hp
  | cons q r ih =>
   intro h p hp;have h1:=(List.cons.inj h).1;have h2:=(List.cons.inj h).2;rcases List.mem_cons.mp hp with rfl | hp
   ·exact h1
   ·exact ih h2 p hp
 exact e cl S.sub _ hm
theorem AZ.ab3 (S:AZ X scope cl own fr js){y:Str}(h:(relabel scope X.env).names.lookup y=some .cell\/(relabel scope X.env).names.lookup y=some .free):∃ c,cl.lookup y=some c:=by
 have key:∀ k:NameKind,(k=.cell\/k=.free)->(relabel scope X.env).names.lookup y=some k->∃ c,cl.lookup y=some c:=by
  intro k hk hl;have q:=List.all_eq_true.mp S.has _ (lookup_mem hl);have kk:(k==NameKind.cell || k==NameKind.free)=true:=by
   rcases hk with rfl | rfl <;> rfl
  simp only [kk,Bool.not_true,Bool.false_or] at q;exact Option.isSome_iff_exists.mp q
 rcases h with h | h
 ·exact key _ (.inl rfl) h
 ·exact key _ (.inr rfl) h
theorem AZ.free (S:AZ X scope cl own fr js){y:Str}(h:y∈fr):(X.env.kindOf y=some .cell\/X.env.kindOf y=some .free)/\((relabel scope X.env).names.lookup y=some .cell\/(relabel scope X.env).names.lookup y=some .free):=by
 have q:=List.all_eq_true.mp S.fre y h;simpa [Bool.and_eq_true,Bool.or_eq_true] using q
theorem SH {α β:Type}{f:α->β}{l:List α}{i:Nat}{b:β}(h:(l.map f)[i]?=some b):∃ a,l[i]?=some a/\f a=b:=by
 rw [List.getElem?_map] at h;cases e:l[i]? with
 | none=>rw [e] at h;cases h
 | some a=>rw [e] at h;exact ⟨a,rfl,Option.some.inj h⟩
theorem SJ (S:AZ X scope cl own fr js)(I:Inv X pins σ H s)(hf:∀ b∈fp,GA X pins H b)(hC:s.heap.objs.size<=C)(RJ:s'.heap.Ns C m)(SK:∀ b∈fp,b < s.heap.objs.size)
  (Wc:s'.os=s.os) (hg:s'.gens=s.gens) (k:∀ b o,s.heap.get? b=some o->s'.heap.get? b=some o) :
  Inv (X.cmp scope cl own fr C s H fp) [] (Cw own js σ) H s':=by
 have cells:∀ x c,cl.lookup x=some c->X.env.cells.lookup x=some c:=λx c h=>S.cells h;refine ⟨⟨I.ok.mod,S.kind,I.ok.glob,I.ok.blt,hC,?_,?_,?_,I.ok.hd,I.ok.frames,.inl rfl,?_,I.bs,Nat.le_trans I.ok.bsz I.sz,?_,?_,I.stack,I.aas⟩,Wc,?_,Un.kept k,⟨m,RJ,?_⟩,?_,?_,?_,?_,I.hok.kept k,?_⟩
 ·intro x y c h1 h2;exact I.ok.inj x y c (cells x c h1) (cells y c h2)
 ·intro x hx;exact S.ab3 hx
 ·intro x c h;exact absurd (show false=true from h) Bool.false_ne_true
 ·intro b hb;refine ⟨Nat.ne_of_lt (Nat.lt_of_lt_of_le (SK b hb) hC),λx c h=>?_⟩;exact (hf b hb).2.2.2.2.1 x c (cells x c h)
 ·intro b o e hb;rcases (hf b hb).2.2.2.1 with z | z
  ·exact I.ok.abr b o e z
  ·exact absurd (Nat.lt_of_lt_of_le (Nat.lt_of_lt_of_le (Heap.lt_size e) I.ok.bsz) z) (Nat.lt_irrefl _)
 ·intro b hb z;rcases List.mem_cons.mp (I.aao b z) with e | e
  ·exact (hf b hb).2.1 e
  ·exact (hf b hb).2.2.1 e
 ·rw [hg];exact I.bare
 ·intro i x v h1 h2 _;have hN:(X.cmp scope cl own fr C s H fp).N=own++fr:=rfl;rw [hN] at h1;by_cases hi:i < own.length
  ·have:(Cw own js σ)[i]?=some none:=by
    unfold Cw;rw [List.getElem?_append_left (by simpa using hi),List.getElem?_map];simp [hi]
   rw [this] at h2;cases h2
  ·have hi:own.length<=i:=Nat.not_lt.mp hi;rw [List.getElem?_append_right hi] at h1;unfold Cw at h2;rw [List.getElem?_append_right (by simpa using hi),List.length_map] at h2;obtain ⟨j,hj,ej⟩:=SH h2;have rG:X.N[j]?=some x:=by
    have e1:(js.map (λj=>X.N[j]?))[i - own.length]?=some (X.N[j]?):=(by rw [List.getElem?_map,hj];rfl);rw [S.here,List.getElem?_map,h1] at e1;exact (Option.some.inj e1).symm
   have hσ:σ[j]?=some (some v):=by
    cases e:σ[j]? with
    | none=>rw [e] at ej;cases ej
    | some o=>rw [e] at ej;cases o with
     | none=>cases ej
     | some u=>cases ej;rfl
   obtain ⟨kx,dX⟩:=S.free (List.mem_of_getElem? h1);obtain ⟨m0,_,hl⟩:=I.loc;have rH:Uv X.env.scope x:=by
    rcases kx with z | z
    ·exact .inr (.inl z)
    ·exact .inr (.inr z)
   obtain ⟨u,r,lk⟩:=hl j x v rG hσ rH;refine ⟨u,r,.inr ⟨dX,?_⟩⟩;obtain ⟨c,hc⟩:=S.ab3 dX;rcases lk with ⟨z,_⟩ | ⟨_,c',e',q⟩
   ·rcases kx with y | y <;> (rw [y] at z;cases z)
   ·rw [S.cells hc] at e';cases e';obtain ⟨o,ho,hd⟩:=q;exact ⟨c,hc,o,k _ _ ho,hd⟩
 ·intro x c h;obtain ⟨v,o,ho,hd⟩:=I.cell x c (cells x c h);exact ⟨v,o,k _ _ ho,hd⟩
 ·exact I.hok.fresh hC
 ·intro x c h;exact I.aaf x c (cells x c h)
 ·intro p hp;exact absurd (show p∈([]:List (Addr × Obj)) from hp) (by simp)
 ·have e:js.length=fr.length:=by
   have:=congrArg List.length S.here;simpa using this
  show (Cw own js σ).length=(own++fr).length;unfold Cw;simp [e]
end
noncomputable def Yx (X:Cx)(ifs:List Expr)(t:TT):Prop :=
 ∀ (pins:List (Addr × Obj)) (s:Shared) (σ:St) (H:Hp) (Q:Bool->Hp->Prop),Inv X pins σ H s->t σ H Q ->
  wpAny (model X.prog X.w) X.A (forIn ifs true λc r=>if r=true then do let ok <- isTrue c X.env (eval c X.env);pure (ForInStep.yield ok) else pure (ForInStep.yield r)) (TP X pins σ Q) X.xe s
noncomputable def GU:TT:=λ_ H Q=>Q true H
theorem SM {X:Cx}:Yx X [] GU:=λ_ _ _ H _ I h=>wpAny_tests_nil ⟨H,I,h⟩
theorem SN {X:Cx}{c:Expr}{t:TT}(h:PT X c t):Yx X [c] t:=λpins s σ H Q I q=>wpAny_tests_one (h pins s σ H Q I q)
noncomputable def Ext (σ σ':St):Prop:=σ'.length=σ.length/\∀ (i:Nat) v,σ[i]?=some (some v)->σ'[i]?=some (some v)
theorem Ext.set {σ:St}{i:Nat}{v:V}(h:σ[i]?=some none):Ext σ (σ.set i (some v)):=by
 refine ⟨by simp,λj u e=>?_⟩;by_cases hj:i=j
 ·subst hj;rw [h] at e;cases e
 ·rw [List.getElem?_set_ne hj];exact e
noncomputable def DV (J:It)(H1:Hp)(σ:St)(g:TG)(tt:TT)(te:TE)(Fin:List V->Hp->Prop):Prop :=
  ∃ W:Nat->Nat->List V->Hp->Prop,(∃ m,W 0 m [] H1)/\∀ i m ys H,W i m ys H->ys.length<=sizeLine /\
    ((J.stop i H/\Fin ys H)\/(J.go i H/\ys.length < sizeLine/\∀ x H',J.yld i H x H'->g x σ H' fun σ2 H2=>Ext σ σ2/\tt σ2 H2 λb H3 =>
      if b=true then te σ2 H3 λy H4=>∃ m',m' < m/\W (i+1) m' (ys++[y]) H4 else ∃ m',m' < m/\W (i+1) m' ys H3))
section
variable {X:Cx}{scope:Scope}{cl:List (Str × Addr)}{own fr:List Str}{js:List Nat}{elt iter tg:Expr}{ifs:List Expr}{pos:Pos}{g:TG}{tt:TT}{te:TE}
 {pins:List (Addr × Obj)} {σ:St} {H2:Hp} {s2:Shared} {fp:List Addr} {it:Addr} {tn:Nat->Heap->Prop} {J:It} {Fin:List V->Hp->Prop} {E:Value->Shared->Prop}
theorem ND {ys:List V}{us:List Value}{y:V}{u:Value}(r:Vals ys us)(q:RelV y u):Vals (ys++[y]) (us++[u]):=r.append (.cons q .nil)
theorem Ip (S:AZ X scope cl own fr js)(En:X.calm=true)
  (hg:∀ C s0 H0 ex,PG (X.cmp scope cl own fr C s0 H0 ex) tg g) (ht:∀ C s0 H0 ex,Yx (X.cmp scope cl own fr C s0 H0 ex) ifs tt) (he:∀ C s0 H0 ex,PE (X.cmp scope cl own fr C s0 H0 ex) elt te)
  (I2:Inv X pins σ H2 s2) (T:Turn X.prog X.w X.K tg J fp it tn) (i4:tn 0 s2.heap) (hf:∀ b∈fp,GA X pins H2 b) (L:DV J H2 (Cw own js σ) g tt te Fin)
  {RR:Value->Addr->Result->Shared->Prop}
  (rJ:∀ (D C:Addr) (s':Shared) (ys:List V) (its:List Value) (n:Nat) (H':Hp) (m':Str->Option Value),s2.heap.objs.size<=D->s2.heap.objs.size<=C->D≠C->s'.os=s2.os->AllBare s'.gens ->
   Un (FO X.stack) fp H2 H' s2.heap s'.heap->Di X.prog X.w H' s'.heap->H' D=none->H' C=none->s'.heap.Ns C m'->Vals ys its->s'.heap.get? D=some { cls:=.type "list",data:=.seq its.toArray n }->ys.length<=sizeLine ->
   Fin ys H'->RR (.ref D) C (.ok .next) s') :
  wpAny (model X.prog X.w) X.A (newList []) (λacc s3=>wpAny (model X.prog X.w) X.A (newFunctionEnv scope X.env.globals cl [] X.env.qual none .none (some X.env)) (λZK s4 =>
   codeAny (model X.prog X.w) X.A (.compStart (.ListComp elt [⟨tg,iter,ifs,0⟩] scope pos) 0 (.ref it) acc { ZK with scope:=relabel scope X.env }) (RR acc ZK.locals) s4) E s3) E s2:=by
 refine wpAny_newObj_type (wpAny_newFunctionEnv S.cell (by intro y hy;simp at hy) (λh1 RJ dY=>?_) S.kind);dsimp only at RJ dY ⊢;generalize hG:s2.heap.push { cls:=.type "list",dict:=none,data:=.seq ([]:List Value).toArray }=G at RJ dY ⊢;have hC:G.objs.size=s2.heap.objs.size+1:=by rw [<- hG,Heap.size_push]
 have UH:s2.heap.objs.size≠G.objs.size:=by omega
 have SQ:s2.heap.objs.size<=G.objs.size:=by omega
 have old:∀ b o,s2.heap.get? b=some o->h1.get? b=some o:=λb o e=>by
  have hb:=Heap.lt_size e;exact dY.extBut b o (Nat.ne_of_lt (Nat.lt_of_lt_of_le hb SQ)) (Heap.get?_push_of_some _ (hG▸Heap.get?_push_of_some _ e))
 have GV:h1.get? s2.heap.objs.size=some { cls:=.type "list",data:=.seq ([]:List Value).toArray 0 } :=
  dY.extBut _ _ UH (Heap.get?_push_of_some _ (hG▸Heap.get?_push_size _ rfl))
 have SK:∀ b∈fp,b < s2.heap.objs.size:=λb hb=>by
  obtain ⟨o,e,_⟩:=T.obj 0 _ i4 b hb;exact Heap.lt_size e
 have ZL:∀ t:Nat,Inv (X.cmp scope cl own fr G.objs.size s2 H2 fp) [] (Cw own js σ) H2 { s2 with heap:=h1,toks:=t }:=λt =>
  SJ S I2 hf SQ RJ SK rfl rfl old
 obtain ⟨W,⟨m0,w0⟩,turn⟩:=L;have rK:s2.heap.objs.size∉FO X.stack:=λz=>by
  rcases List.mem_cons.mp (I2.aao _ z) with e | e
  ·exact absurd I2.lt (by rw [<- e];exact Nat.lt_irrefl _)
  ·exact I2.ab0 (Nat.le_refl _) e
 have Wl:∀ {H:Hp} {s:Shared} {σ':St} {its:List Value} {n:Nat},Inv (X.cmp scope cl own fr G.objs.size s2 H2 fp) [] σ' H s->s.heap.get? s2.heap.objs.size=some { cls:=.type "list",data:=.seq its.toArray n }->H s2.heap.objs.size=none ->
   Inv (X.cmp scope cl own fr G.objs.size s2 H2 fp) [(s2.heap.objs.size,{ cls:=.type "list",data:=.seq its.toArray n })] σ' H s:=λ{H s σ' its n} I e hn=>I.aaj λp hp=>by
  obtain rfl:=List.mem_singleton.mp hp;exact ⟨e,hn,UH,rK,λv z=>by cases z⟩
 have Wm:∀ {H:Hp} {its:List Value} {n:Nat},(∀ b∈fp,H b=none)->∀ b∈fp,GA (X.cmp scope cl own fr G.objs.size s2 H2 fp) [(s2.heap.objs.size,{ cls:=.type "list",data:=.seq its.toArray n })] H b:=λ{H its n} hn b hb=>by
  have Cv:=SK b hb;refine ⟨hn b hb,?_,?_,.inl hb,?_,?_⟩
  ·exact Nat.ne_of_lt (Nat.lt_of_lt_of_le Cv SQ)
  ·intro z;rcases List.mem_cons.mp (I2.aao b z) with e | e
   ·exact (hf b hb).2.1 e
   ·exact (hf b hb).2.2.1 e
  ·intro x c h;exact (hf b hb).2.2.2.2.1 x c (S.cells h)
  ·intro p hp;obtain rfl:=List.mem_singleton.mp (show p∈[(s2.heap.objs.size,_)] from hp);exact Ne.symm (Nat.ne_of_lt Cv)
 have loop:∀ t:Nat,codeAny (model X.prog X.w) X.A (.compLoop (.ListComp elt [⟨tg,iter,ifs,0⟩] scope pos) 0 (.ref it) (.ref s2.heap.objs.size) (ZJ X scope cl G.objs.size))
   (RR (.ref s2.heap.objs.size) G.objs.size) { s2 with heap:=h1,toks:=t }:=by
  intro t;refine Lr (λk s'=>∃ i ys its n H',Inv (X.cmp scope cl own fr G.objs.size s2 H2 fp) [(s2.heap.objs.size,{ cls:=.type "list",data:=.seq its.toArray n })] (Cw own js σ) H' s'/\tn i s'.heap/\(∀ b∈fp,H' b=none) /\
   Vals ys its/\W i k ys H') ?_ m0 ⟨0,[],[],0,H2,Wl (ZL t) GV (I2.hok.fresh (Nat.le_refl _)),T.keep _ _ _ i4 λb _ o e=>old b o e,λb hb=>(hf b hb).1,.nil,w0⟩
  rintro n s3 ⟨i,ys,its,nn,H3,I3,Zr,Zs,rv,w3⟩;obtain ⟨hlen,w3⟩:=turn i n ys H3 w3;have UI:=rv.length;rcases w3 with ⟨stop,fin⟩ | ⟨go,Cv,step⟩
  ·refine AX (T.done (X.cmp scope cl own fr G.objs.size s2 H2 fp) rfl rfl rfl En i _ s3 _ H3 Sz I3 (Wm Zs) Zr stop) λr s4 q4=>?_;obtain ⟨hr,I4⟩:=q4;subst hr;obtain ⟨eD,nD,_⟩:=I4.pin _ (List.mem_append_right _ (.head _));obtain ⟨m4,rL,_⟩:=I4.loc;exact rJ _ _ s4 ys its nn H3 m4 (Nat.le_refl _) SQ UH I4.os I4.bare I4.base I4.hok nD I4.free rL rv eD hlen fin
  ·refine AX (T.item (X.cmp scope cl own fr G.objs.size s2 H2 fp) rfl rfl rfl En i _ s3 _ H3 Sz I3 (Wm Zs) Zr go) λr s4 q4=>?_;obtain ⟨u,hr,q4⟩:=q4;subst hr;refine AX q4 λ_ s5 q5=>?_;obtain ⟨x,H5,I5,r5,y5,W2,gL⟩:=q5;have gM:=I5.pinned (Wm gL) (T.obj _ _ W2);refine AX (hg G.objs.size s2 H2 fp _ s5 _ H5 x u _ gM r5 (step x H5 y5)) λ_ s6 q6=>?_;obtain ⟨σ6,H6,I6,ZM,q6⟩:=q6;have fin:∀ {s7:Shared} {H7:Hp},Inv (X.cmp scope cl own fr G.objs.size s2 H2 fp) ([(s2.heap.objs.size,{ cls:=.type "list",data:=.seq its.toArray nn })]++GC fp s5.heap) σ6 H7 s7 ->
     tn (i+1) s7.heap/\(∀ b∈fp,H7 b=none)/\s7.heap.get? s2.heap.objs.size=some { cls:=.type "list",data:=.seq its.toArray nn }/\H7 s2.heap.objs.size=none/\Inv (X.cmp scope cl own fr G.objs.size s2 H2 fp) [] (Cw own js σ) H7 s7:=λ{s7 H7} I7=>by
    have pd:=I7.pin _ (List.mem_append_right _ (List.mem_append_left _ (.head _)));refine ⟨T.keep _ _ _ W2 λb hb o e=>(I7.pin (b,o) (List.mem_append_right _ (List.mem_append_right _ (Du hb e)))).1,λb hb=>?_,pd.1,pd.2.1,?_⟩
    ·obtain ⟨o,e,d⟩:=T.obj _ _ W2 b hb;exact (I7.pin (b,o) (List.mem_append_right _ (List.mem_append_right _ (Du hb e)))).2.1
    ·exact (I7.aaj (pins':=[]) λp hp=>absurd hp (by simp)).weak ZM.1.symm ZM.2
   refine AX (ht G.objs.size s2 H2 fp _ s6 σ6 H6 _ I6 q6) λok s7 q7=>?_;obtain ⟨H7,I7,q7⟩:=q7;cases ok with
   | false =>
    obtain ⟨m',hm,w7⟩:=q7;obtain ⟨a1,a2,a3,a4,a5⟩:=fin I7;exact ⟨m',hm,i+1,ys,its,nn,H7,Wl a5 a3 a4,a1,a2,rv,w7⟩
   | true =>
    refine AX (he G.objs.size s2 H2 fp _ s7 σ6 H7 _ I7 q7) λv s8 q8=>?_;obtain ⟨y,H8,I8,r8,m',hm,w8⟩:=q8;obtain ⟨a1,a2,a3,a4,a5⟩:=fin I8;refine append_at (its:=its.toArray) (n:=nn) a3 (λh9 rM e9=>?_) (by rw [List.size_toArray,<- UI];exact hlen);have kp:∀ b o,b≠s2.heap.objs.size->s8.heap.get? b=some o->h9.get? b=some o:=λb o hb e=>(rM.2 b hb).trans e;have I9:Inv (X.cmp scope cl own fr G.objs.size s2 H2 fp) [] (Cw own js σ) H8 { s8 with heap:=h9,toks:=s8.toks }:=by
     refine a5.turned kp a4 UH (.inr (Nat.le_refl _)) (λx c h z=>?_) (λp hp=>absurd (show p∈([]:List (Addr × Obj)) from hp) (by simp));obtain ⟨v,o,ho,_⟩:=I2.cell x c (S.cells h);exact absurd z (Nat.ne_of_lt (Heap.lt_size ho))
    have i5:h9.get? s2.heap.objs.size=some { cls:=.type "list",data:=.seq (its++[v]).toArray (nn+1) }:=by
     rw [e9];simp
    refine ⟨m',hm,i+1,ys++[y],its++[v],nn+1,H8,Wl I9 i5 a4,T.keep _ _ _ a1 λb hb o e=>kp b o ?_ e,a2,ND rv r8,w8⟩;exact Nat.ne_of_lt (SK b hb)
 exact codeAny_compStart_list (loop _) (T.self _ 0 _ _ _ (T.keep _ _ _ i4 λb _ o e=>old b o e) (loop _))
theorem Mt {H':Hp}{s':Shared}{D:Addr}{ys:List V}{its:List Value}{n:Nat}(I2:Inv X pins σ H2 s2)(hf:∀ b∈fp,GA X pins H2 b)(hD:s2.heap.objs.size<=D)(os:s'.os=s2.os)(bare:AllBare s'.gens)
  (un:Un (FO X.stack) fp H2 H' s2.heap s'.heap) (hok:Di X.prog X.w H' s'.heap) (nD:H' D=none) (rv:Vals ys its) (e:s'.heap.get? D=some { cls:=.type "list",data:=.seq its.toArray n }) (hz:ys.length<=sizeLine) :
  Inv X pins σ (upd H' D (.lst ys)) s':=by
 refine I2.abm (ch:=fp) os (un.aau nD (Heap.get?_none_of_le hD)) (hok.aau nD ⟨hz,its,n,rv,e⟩) bare λb hb=>?_;obtain ⟨_,f1,_,f3,f4,f5⟩:=hf b hb;exact ⟨f3,f1,f4,f5⟩
noncomputable def Mu (own:List Str)(js:List Nat)(wi:TI)(g:TG)(tt:TT)(te:TE):TE:=fun σ H Q=>wi σ H λJ H1 =>
 DV J H1 (Cw own js σ) g tt te λys H2=>∀ D,H2 D=none->Q (.ref D) (upd H2 D (.lst ys))
theorem SR {wi:TI}(S:AZ X scope cl own fr js)(En:X.calm=true)(hi:PI X tg iter wi)
  (hg:∀ C s0 H0 ex,PG (X.cmp scope cl own fr C s0 H0 ex) tg g) (ht:∀ C s0 H0 ex,Yx (X.cmp scope cl own fr C s0 H0 ex) ifs tt) (he:∀ C s0 H0 ex,PE (X.cmp scope cl own fr C s0 H0 ex) elt te)
  (hs:∀ x,foldedSetIterable iter X.env x=pure x:=by intro _;rfl):PE X (.ListComp elt [⟨tg,iter,ifs,0⟩] scope pos) (Mu own js wi g tt te):=by
 intro pins s σ H Q I h;rw [eval_ListComp];refine wpAny_comprehension_free (use:=none) rfl hs S.aa3 S.kind S.names (AX (hi pins s σ H _ I h) λv s1 q1=>AX q1 λdI s2 q2=>?_);obtain ⟨it,fp,tn,J,H2,rfl,I2,T,st,hf,L⟩:=q2;refine Ip (RR:=λacc C=>compPost (model X.prog X.w) X.A X.xe none (EP X pins σ Q) acc C) S En hg ht he I2 T st hf L ?_;intro D C s' ys its n H' m' hD hC UH os bare un hok nD nC ns rv e hz fin;refine ⟨m',ns,λrN i6=>?_⟩;have I3:=Mt I2 hf hD os bare un hok nD rv e hz;have i7:(upd H' D (.lst ys)) C=none:=by rw [Aj (Ne.symm UH)];exact nC
 obtain ⟨f0,f1,_,f3,f4,f5⟩:=I2.abh hC i7;have I4:Inv X pins σ (upd H' D (.lst ys)) { s' with heap:=rN,toks:=s'.toks }:=I3.turned (λb o hb q=>(i6.2 b hb).trans q) f0 f1 f3 f4 f5;exact ⟨.ref D,_,I4,rfl,fin D nD⟩
noncomputable def Ls (i:Nat)(own:List Str)(js:List Nat)(wi:TI)(g:TG)(tt:TT)(te:TE):TS:=λD σ H=>wi σ H λJ H1 =>
 DV J H1 (Cw own js σ) g tt te λys H2=>∀ a,H2 a=none->D.nx (σ.set i (some (.ref a))) (upd H2 a (.lst ys))
theorem SU {wi:TI}{i:Nat}{y:Str}{py PL:Pos}(hN:X.N.Nodup)(hy:X.N[i]?=some y)(hx:Loc X.env.scope y)(S:AZ X scope cl own fr js)(En:X.calm=true)(hi:PI X tg iter wi)
  (hg:∀ C s0 H0 ex,PG (X.cmp scope cl own fr C s0 H0 ex) tg g) (ht:∀ C s0 H0 ex,Yx (X.cmp scope cl own fr C s0 H0 ex) ifs tt) (he:∀ C s0 H0 ex,PE (X.cmp scope cl own fr C s0 H0 ex) elt te)
  (i8:swapsWith (.ListComp elt [⟨tg,iter,ifs,0⟩] scope pos) (some (.Name y py)) PL.line X.env=pure true:=by rfl)
  (hf:X.fn y=true\/X.env.scope.names.lookup y=some .local:=by exfalso)
  (hs:∀ x,foldedSetIterable iter X.env x=pure x:=by intro _;rfl):PS X (.Assign [.Name y py] (.ListComp elt [⟨tg,iter,ifs,0⟩] scope pos) PL) (Ls i own js wi g tt te):=by
 intro pins s σ H D I h;rw [exec_Assign_Name_used _ _ _ _ i8];refine wpAny_bind (wpAny_standAt (wpAny_bind ?_));show wpAny _ X.A (do let _ <- comprehension (.ListComp elt [⟨tg,iter,ifs,0⟩] scope pos) scope X.env _ (newList []) false (eval iter X.env) (some (assign (.Name y py) X.env))) _ _ s
 refine wpAny_bind (AX (Q:=λ_ s'=>SP X pins D .next s') ?_ λ_ s' q=>wpAny_pure (wpAny_pure q))
 refine wpAny_comprehension_free (use:=some (assign (.Name y py) X.env)) rfl hs S.aa3 S.kind S.names (AX (hi pins s σ H _ I h) λv s1 q1=>AX q1 λdI s2 q2=>?_);obtain ⟨it,fp,tn,J,H2,rfl,I2,T,st,o8,L⟩:=q2;refine Ip (RR:=λacc C=>compPost (model X.prog X.w) X.A X.xe (some (assign (.Name y py) X.env)) (λ_ s'=>SP X pins D .next s') acc C) S En hg ht he I2 T st o8 L ?_
 intro d C s' ys its n H' m' hD hC UH os bare un hok nD nC ns rv e hz fin;have I3:=Mt I2 o8 hD os bare un hok nD rv e hz;have i7:(upd H' d (.lst ys)) C=none:=by rw [Aj (Ne.symm UH)];exact nC
 obtain ⟨f0,f1,_,f3,f4,f5⟩:=I2.abh hC i7;show wpAny _ X.A (assign (.Name y py) X.env (.ref d)) _ _ s';refine wpAny_assign_Name (Ib I3 hN hy hx (v:=.ref d) rfl (λs4 I4 ch=>?_) hf);obtain ⟨a,sb,ha⟩:=ch;have rO:C≠a:=by
  rcases ha with rfl | ha
  ·exact f1
  ·exact λz=>f4 y a ha z.symm
 refine ⟨m',ns.sameBut sb rO,λh5 i9=>?_⟩;exact ⟨_,_,I4.turned (t':=s4.toks) (λb o hb q=>(i9.2 b hb).trans q) f0 f1 f3 f4 f5,fin d nD⟩
end
noncomputable def Iq (K:W.Frag)(a:Addr)(n:Nat):It :=
 ⟨λi H=>∃ xs,AI K H a xs/\xs.length=n/\i < n,λi H x H'=>H'=H/\∀ xs,AI K H a xs->xs.reverse[i]?=some x,λi _=>n<=i⟩
theorem PN {P:Program}{w:World}{K:W.Frag}{tg:Expr}(a it:Addr)(n:Nat):Turn P w K tg (Iq K a n) [it] it (λi h=>i<=n/\h.IsRevIter it a ((n:Int) - 1 - (i:Int))) where
 mem:=by simp
 obj:=by
  intro i h st b hb;obtain rfl:b=it:=by simpa using hb
  obtain ⟨_,o,e,c,d⟩:=st;exact ⟨o,e,λv z=>by rw [d] at z;cases z⟩
 keep:=λi h h' st k=>⟨st.1,st.2.at λo e=>k it (by simp) o e⟩
 item:=by
  intro X hP hw hK hc i pins s σ H E I hf st hg;subst hP hw hK;obtain ⟨xs,hq,hn,hi⟩:=hg;obtain ⟨its,rv,p,hz⟩:=I.list hq;have hlen:=rv.length;obtain ⟨f0,f1,f2,f3,f4,f5⟩:=hf it (by simp);have ix:n - 1 - i < xs.length:=by omega
  have hx:xs[n - 1 - i]?=some (xs[n - 1 - i]'ix):=List.getElem?_eq_getElem ix;obtain ⟨u,hu,ru⟩:=rv.get hx;have ei:(n:Int) - 1 - (i:Int)=((n - 1 - i:Nat):Int):=by omega
  have Mg:=st.2;rw [ei] at Mg;refine wpAny_pyNext_rev_item Mg p.isList (x:=u) (by simpa using hu) λh' RG sb=>?_;have I1:Inv X pins σ H { s with heap:=h' }:=I.turned (t':=s.toks) (λb o hb e=>(sb.2 b hb).trans e) f0 f1 f3 f4 f5;have e2:((n - 1 - i:Nat):Int) - 1=(n:Int) - 1 - ((i+1:Nat):Int):=by omega
  rw [e2] at RG;obtain ⟨o,e,c,d⟩:=id RG;refine ⟨u,rfl,Mf (s:={ s with heap:=h' }) e c d ⟨⟩ ⟨xs[n - 1 - i]'ix,H,I1,ru,⟨rfl,λys hy=>?_⟩,⟨hi,RG⟩,λb hb=>(hf b hb).1⟩⟩;rw [I.aa7 hy hq,List.getElem?_reverse (),<- hx]
  congr 1
  omega
 done:=by
  intro X hP hw hK hc i pins s σ H E I hf st hg;subst hP hw hK;obtain ⟨f0,f1,f2,f3,f4,f5⟩:=hf it (by simp);have xk:n<=i:=hg;have e1:(n:Int) - 1 - (i:Int)=-1:=by have:=st.1;omega
  have Mg:=st.2;rw [e1] at Mg;exact wpAny_pyNext_rev_end (I.ok.hd hc) Mg λh' eb=>⟨rfl,I.turned (t':=s.toks) (λb o hb e=>eb b o hb e) f0 f1 f3 f4 f5⟩
 self:=λ_ _ _ _ _ st h=>wpAny_pyIter_revIter st.2 h
section
variable {X:Cx}{tg:Expr}
noncomputable def Wn (K:W.Frag)(ta:TA):TI:=fun σ H R=>ta σ H λvs H1=>∃ a xs,vs=[.ref a]/\AI K H1 a xs/\R (Iq K a xs.length) H1
theorem Wo {a:Expr}{ta:TA}{p pos:Pos}(hg:Gl X "reversed")(hm:X.mg "reversed"=none)(ha:PA X [a] ta)(hs:starEach [a] X.env=[(false,eval a X.env)]:=by rfl):PI X tg (.Call (.Name "reversed" p) [a] [] pos) (Wn X.K ta):=by
 intro pins s σ H R I h;refine Call_ (Dt I hg hm boot_reversed (PyProof.Rows.callWith_type1 (AX (ha pos pins s σ H _ I h) λus s1 q1=>?_) hs rfl));obtain ⟨vs,H1,I1,r1,l,xs,rfl,hq,q⟩:=q1;obtain ⟨u,rfl,ru⟩:=vals1 r1;cases ru;obtain ⟨its,rv,pl,hz⟩:=I1.list hq;have hlen:=rv.length;refine call_reversed_list pl.isList ?_;have gr:(s1.heap.push (revObj l ((its.toArray.size:Int) - 1))).IsRevIter s1.heap.objs.size l ((xs.length:Int) - 1 - ((0:Nat):Int)):=by
  refine ⟨_,Heap.get?_push_size _ rfl,rfl,?_⟩;show Data.fields #[.ref l,rawInt ((its.toArray.size:Int) - 1)]=_;rw [List.size_toArray,<- hlen];simp
 refine wpAny_pyIter_revIter gr ?_;refine ⟨s1.heap.objs.size,[s1.heap.objs.size],_,_,H1,rfl,I1.kept (t':=s1.toks) λb o e=>Heap.get?_push_of_some _ e,PN l _ xs.length,⟨Nat.zero_le _,gr⟩,λb hb=>?_,q⟩;obtain rfl:b=s1.heap.objs.size:=by simpa using hb
 exact I1.abh (Nat.le_refl _) (I1.hok.fresh (Nat.le_refl _))
end
theorem Mv {K:W.Frag}{a:Addr}{xs:List V}{g:TG}{tb:TS}{D:Ends}{σ:St}{H:Hp}(Pv:Nat->St->Hp->Prop)(h0:Pv 0 σ H)(hl:∀ i σ H,i<=xs.length->Pv i σ H->AI K H a xs)
  (hs:∀ i x σ H,xs.reverse[i]?=some x->Pv i σ H->g x σ H fun σ2 H2=>tb { D with nx:=Pv (i+1),ct:=Pv (i+1),bk:=D.nx } σ2 H2) (hd:∀ σ H,Pv xs.length σ H->D.nx σ H) :
  ∃ W:Nat->Nat->St->Hp->Prop,(∃ m,W 0 m σ H)/\∀ i m σ H,W i m σ H ->
   ((Iq K a xs.length).stop i H/\D.nx σ H)\/((Iq K a xs.length).go i H/\∃ N:St->Hp->Prop,(∀ σ' H',N σ' H'->∃ m',m' < m/\W (i+1) m' σ' H')/\∀ x H',(Iq K a xs.length).yld i H x H'->g x σ H' fun σ2 H2=>tb { D with nx:=N,ct:=N,bk:=D.nx } σ2 H2):=by
 refine ⟨λi m σ H=>m=xs.length - i/\i<=xs.length/\Pv i σ H,⟨xs.length,by simp,Nat.zero_le _,h0⟩,?_⟩;rintro i m σ H ⟨rfl,hi,p⟩;have q:=hl i σ H hi p;by_cases Cv:i < xs.length
 ·refine .inr ⟨⟨xs,q,rfl,Cv⟩,Pv (i+1),fun σ' H' p'=>⟨xs.length - (i+1),(),rfl,Cv,p'⟩,λx H' y=>?_⟩;obtain ⟨e,y⟩:=y;subst e;exact hs i x σ _ (y xs q) p
 ·obtain rfl:i=xs.length:=by omega
  exact .inl ⟨Nat.le_refl _,hd σ H p⟩
open PySem.W (fnMade fnX envX CodeHd tabObj makeFunction_K makeFunction_hit nestDef_K FnAt callWith_F)
noncomputable def Ce (a:Addr)(o:Obj):HO:=.ext λh=>h.get? a=some o
section
variable {P:Program}{w:World}{H H':Hp}{h h':Heap}{a b:Addr}{o:Obj}{fs:List Addr}
theorem Ce.ok (e:h.get? a=some o):AN P w H h a (Ce a o):=⟨e,⟨o,e⟩,λh1 h2 p k=>k o p⟩
theorem Ce.get (x:Di P w H h)(e:H a=some (Ce a o)):h.get? a=some o:=(x a _ e).1
end
structure FT (base:Heap)(mg:Str->Option Value)(c P:Addr):Prop where
 hd:CodeHd base c P
 bm:∃ bm ob,mg "__builtins__"=some (.ref bm)/\bm≠builtinsNs/\base.get? bm=some ob/\ob.cls=.type "module"/\ob.dict=some builtinsNs/\ob.data=.plain
noncomputable def CY (q:Str)(oc:Obj):Prop:=∃ vs t,oc.data=.fields vs/\vs[1]?=some (.str q t)
end L2
namespace KM
inductive Kd where
 | num | tru | gap (k:Int) | fn (a b:Kd) | pr (a b:Kd) | ls (a:Kd)
 deriving DecidableEq
noncomputable def DW:Kd->Bool
 | .gap _=>true
 | _=>false
noncomputable def parts:Kd->List Kd
 | .fn a b=>[a,b]
 | .pr a b=>[a,b]
 | .ls a=>[a]
 | _=>[]
noncomputable def sz:Kd->Nat
 | .fn a b=>sz a+sz b+1
 | .pr a b=>sz a+sz b+1
 | .ls a=>sz a+1
 | _=>1
noncomputable def dp:Kd->Nat
 | .fn a b=>max (dp a) (dp b)+1
 | .pr a b=>max (dp a) (dp b)+1
 | .ls a=>dp a+1
 | _=>0
noncomputable def szs:List Kd->Nat
 | []=>0
 | t::ts=>sz t+szs ts
theorem EB (a b:List Kd):szs (a++b)=szs a+szs b:=by
 induction a with
 | nil=>simp [szs]
 | cons t ts ih=>simp only [List.cons_append,szs,ih];omega
theorem NF (t:Kd):szs (parts t)+1=sz t:=by cases t <;> rfl
theorem NG (t:Kd):(parts t).length<=2:=by cases t <;> first | exact Nat.le_refl _ | exact Nat.zero_le _ | exact Nat.le_succ _
noncomputable def fill (m:Int->Option Kd):Kd->Kd
 | .gap k=>(m k).getD (.gap k)
 | .fn a b=>.fn (fill m a) (fill m b)
 | .pr a b=>.pr (fill m a) (fill m b)
 | .ls a=>.ls (fill m a)
 | .num=>.num
 | .tru=>.tru
end KM
namespace KS
open PySem PySem.Spec PyProof.Rows L2 KM
noncomputable def word:Kd->Str
 | .num=>"number"
 | .tru=>"truth"
 | .gap _=>"any"
 | .fn _ _=>"fun"
 | .pr _ _=>"pair"
 | .ls _=>"list"
noncomputable def Bi (H:Hp):Kd->V->Prop
 | .num,v=>∃ a,v=.ref a/\H a=some (.tup [.str "number"])
 | .tru,v=>∃ a,v=.ref a/\H a=some (.tup [.str "truth"])
 | .gap k,v=>∃ a,v=.ref a/\H a=some (.tup [.str "any",.int k])
 | .ls x,v=>∃ a u,v=.ref a/\H a=some (.tup [.str "list",u])/\Bi H x u
 | .fn x y,v=>∃ a u w,v=.ref a/\H a=some (.tup [.str "fun",u,w])/\Bi H x u/\Bi H y w
 | .pr x y,v=>∃ a u w,v=.ref a/\H a=some (.tup [.str "pair",u,w])/\Bi H x u/\Bi H y w
abbrev ie (H:Hp):List Kd->List V->Prop:=Paired (Bi H)
noncomputable def TSub (H H':Hp):Prop:=∀ a xs,H a=some (.tup xs)->H' a=some (.tup xs)
theorem TSub.refl (H:Hp):TSub H H:=λ_ _ h=>h
theorem TSub.trans {H H1 H2:Hp}(a:TSub H H1)(b:TSub H1 H2):TSub H H2:=λc xs h=>b c xs (a c xs h)
theorem TSub.of_same {H H':Hp}(s:A9 H H'):TSub H H':=λa xs h=>s a _ h
theorem TSub.put {H:Hp}{a:Addr}{o:HO}(h:∀ xs,H a≠some (.tup xs)):TSub H (upd H a o):=λb xs e=>by
 rw [Aj]
 ·exact e
 ·intro z;subst z;exact h xs e
theorem TSub.new {H:Hp}{a:Addr}{o:HO}(h:H a=none):TSub H (upd H a o):=TSub.put λxs e=>by rw [h] at e;cases e
theorem Bi.mono {H H':Hp}(s:TSub H H'):∀ {t:Kd} {v:V},Bi H t v->Bi H' t v:=by
 intro t
 induction t with
 | num | tru | gap _=>rintro v ⟨a,e,h⟩;exact ⟨a,e,s _ _ h⟩
 | ls _ ih=>rintro v ⟨a,u,e,h,p⟩;exact ⟨a,u,e,s _ _ h,ih p⟩
 | fn _ _ ih ij | pr _ _ ih ij=>rintro v ⟨a,u,w,e,h,p,q⟩;exact ⟨a,u,w,e,s _ _ h,ih p,ij q⟩
theorem Bi.look {H:Hp}:∀ {t:Kd} {v:V},Bi H t v->∃ a us,v=.ref a/\H a=some (.tup (.str (word t)::us))/\(DW t=false->ie H (parts t) us)/\(∀ k,t=.gap k->us=[.int k])/\us.length<=2:=by
 intro t;cases t with
 | num | tru=>rintro v ⟨a,e,h⟩;exact ⟨a,[],e,h,λ_=>.nil,λ_ z=>(by cases z),Nat.zero_le _⟩
 | gap k=>rintro v ⟨a,e,h⟩;exact ⟨a,[.int k],e,h,λz=>(by cases z),λ_ z=>(by cases z;rfl),Nat.le_succ _⟩
 | ls _=>rintro v ⟨a,u,e,h,p⟩;exact ⟨a,[u],e,h,λ_=>.cons p .nil,λ_ z=>(by cases z),Nat.le_succ _⟩
 | fn _ _ | pr _ _=>rintro v ⟨a,u,w,e,h,p,q⟩;exact ⟨a,[u,w],e,h,λ_=>.cons p (.cons q .nil),λ_ z=>(by cases z),Nat.le_refl _⟩
theorem PQ {t:Kd}:(word t=("any":Str))↔DW t=true:=by
 cases t <;> simp [word,DW] <;> decide
noncomputable def pd:Kd->PyData
 | .num=>.tuple [.str "number"]
 | .tru=>.tuple [.str "truth"]
 | .gap k=>.tuple [.str "any",.int k]
 | .ls x=>.tuple [.str "list",pd x]
 | .fn x y=>.tuple [.str "fun",pd x,pd y]
 | .pr x y=>.tuple [.str "pair",pd x,pd y]
theorem Dl:PyData.strOk (Str.ofString "number")=true/\PyData.strOk (Str.ofString "truth")=true/\PyData.strOk (Str.ofString "any")=true/\PyData.strOk (Str.ofString "list")=true/\PyData.strOk (Str.ofString "fun")=true/\PyData.strOk (Str.ofString "pair")=true:=by decide +kernel
theorem Ft:∀ t:Kd,(pd t).canLay0=true
 | .num=>by simp [pd,PyData.canLay0,PyData.canLayAll0,Dl]
 | .tru=>by simp [pd,PyData.canLay0,PyData.canLayAll0,Dl]
 | .gap k=>by simp [pd,PyData.canLay0,PyData.canLayAll0,Dl]
 | .ls x=>by simp [pd,PyData.canLay0,PyData.canLayAll0,Ft x,Dl]
 | .fn x y=>by simp [pd,PyData.canLay0,PyData.canLayAll0,Ft x,Ft y,Dl]
 | .pr x y=>by simp [pd,PyData.canLay0,PyData.canLayAll0,Ft x,Ft y,Dl]
theorem Dm:∀ t:Kd,(pd t).depth=dp t+1
 | .num=>by simp [pd,PyData.depth,PyData.depthAll,dp]
 | .tru=>by simp [pd,PyData.depth,PyData.depthAll,dp]
 | .gap k=>by simp [pd,PyData.depth,PyData.depthAll,dp]
 | .ls x=>by simp [pd,PyData.depth,PyData.depthAll,dp,Dm x]
 | .fn x y=>by simp [pd,PyData.depth,PyData.depthAll,dp,Dm x,Dm y]
 | .pr x y=>by simp [pd,PyData.depth,PyData.depthAll,dp,Dm x,Dm y]
theorem Ir {t:Kd}(h:dp t<=60):SeqAt.shaped (pd t)=true:=by
 unfold SeqAt.shaped;rw [Ft,Dm];simp;omega
noncomputable def tag:Kd->Nat
 | .num=>0
 | .tru=>1
 | .gap _=>2
 | .fn _ _=>3
 | .pr _ _=>4
 | .ls _=>5
noncomputable def PR:Nat->Str
 | 0=>"number"
 | 1=>"truth"
 | 2=>"any"
 | 3=>"fun"
 | 4=>"pair"
 | _=>"list"
theorem JP:∀ i,i < 6->∀ j,j < 6->(PR i==PR j)=(i==j):=by decide +kernel
theorem Gh (t:Kd):word t=PR (tag t):=by cases t <;> rfl
theorem PU (t:Kd):tag t < 6:=by cases t <;> simp [tag]
theorem PV (t t':Kd):(word t==word t')=(tag t==tag t'):=by
 rw [Gh,Gh,JP _ (PU t) _ (PU t')]
theorem SV (xs ys:List PyData):PyData.eqv (.tuple xs) (.tuple ys)=PyData.eqvAll xs ys:=by rw [PyData.eqv]
theorem Cy (x y:PyData)(xs ys:List PyData):PyData.eqvAll (x::xs) (y::ys)=(PyData.eqv x y && PyData.eqvAll xs ys):=by rw [PyData.eqvAll]
theorem Eh:PyData.eqvAll [] []=true:=by rw [PyData.eqvAll]
theorem SX (x y:Str):PyData.eqv (.str x) (.str y)=(x==y):=by rw [PyData.eqv]
theorem SY (x y:Int):PyData.eqv (.int x) (.int y)=(x==y):=by rw [PyData.eqv]
noncomputable def S':Kd->List PyData
 | .num=>[]
 | .tru=>[]
 | .gap k=>[.int k]
 | .ls x=>[pd x]
 | .fn x y=>[pd x,pd y]
 | .pr x y=>[pd x,pd y]
theorem UJ (t:Kd):pd t=.tuple (.str (word t)::S' t):=by cases t <;> rfl
theorem Fu (t t':Kd):PyData.eqv (pd t) (pd t')=((tag t==tag t') && PyData.eqvAll (S' t) (S' t')):=by
 rw [UJ,UJ,SV,Cy,SX,PV]
theorem Wq:∀ t t':Kd,PyData.eqv (pd t) (pd t')=decide (t=t'):=by
 intro t
 induction t with
 | num=>intro t';rw [Fu];cases t' <;> simp [tag,S',Eh]
 | tru=>intro t';rw [Fu];cases t' <;> simp [tag,S',Eh]
 | gap k =>
  intro t';rw [Fu];cases t' <;> simp only [tag,S'] <;> try (simp;done)
  rw [Cy,SY,Eh,Bool.eq_iff_iff];simp
 | ls x ih =>
  intro t';rw [Fu];cases t' <;> simp only [tag,S'] <;> try (simp;done)
  rw [Cy,Eh,ih,Bool.eq_iff_iff];simp
 | fn x y ig ik =>
  intro t';rw [Fu];cases t' <;> simp only [tag,S'] <;> try (simp;done)
  rw [Cy,Cy,Eh,ig,ik,Bool.eq_iff_iff];simp
 | pr x y ig ik =>
  intro t';rw [Fu];cases t' <;> simp only [tag,S'] <;> try (simp;done)
  rw [Cy,Cy,Eh,ig,ik,Bool.eq_iff_iff];simp
end KS
namespace L2
open PySem PySem.Spec PyProof.Rows
mutual
inductive Ov (H:Hp):PyData->V->Prop
 | non:Ov H .none .non
 | bl (b:Bool):Ov H (.bool b) (.bl b)
 | int (i:Int):Ov H (.int i) (.int i)
 | str (x:Str):Ov H (.str x) (.str x)
 | tup {a:Addr} {us:List V} {ds:List PyData}:H a=some (.tup us)->PX H ds us->Ov H (.tuple ds) (.ref a)
 | lst {a:Addr} {us:List V} {ds:List PyData}:H a=some (.lst us)->PX H ds us->Ov H (.list ds) (.ref a)
inductive PX (H:Hp):List PyData->List V->Prop
 | nil:PX H [] []
 | cons {d:PyData} {v:V} {ds:List PyData} {us:List V}:Ov H d v->PX H ds us->PX H (d::ds) (v::us)
end
theorem Ov.reads {P:Program}{w:World}{H:Hp}{h:Heap}(x:Di P w H h){d:PyData}{v:V}{u:Value}(k:Ov H d v):RelV v u->∃ as,Reads h u d as:=by
 revert u
 refine Ov.rec (motive_1:=λd v _=>∀ {u},RelV v u->∃ as,Reads h u d as) (motive_2:=λds vs _=>∀ {us},Vals vs us->∃ as,ReadsAll h us ds as) ?_ ?_ ?_ ?_ ?_ ?_ ?_ ?_ k
 ·intro u r;cases r;exact ⟨_,.none⟩
 ·intro b u r;cases r;exact ⟨_,.bool b⟩
 ·intro i u r;obtain ⟨t,rfl⟩:=r;exact ⟨_,.int i t⟩
 ·intro s u r;obtain ⟨t,rfl⟩:=r;exact ⟨_,.str s t⟩
 ·intro a us ds e _ ih u r;cases r;obtain ⟨_,its,rv,o,h1,h2,n,h3⟩:=(show AN P w H h _ (.tup _) from x _ _ e);obtain ⟨as,ra⟩:=ih rv;exact ⟨_,.tuple h1 h2 h3 ra⟩
 ·intro a us ds e _ ih u r;cases r;obtain ⟨_,its,n,rv,h1⟩:=(show AN P w H h _ (.lst _) from x _ _ e);obtain ⟨as,ra⟩:=ih rv;exact ⟨_,.list h1 rfl rfl ra⟩
 ·intro us r;cases r;exact ⟨_,.nil⟩
 ·intro d v ds us _ _ ih ij ws r;cases r with
  | cons r rs =>
   obtain ⟨as,ra⟩:=ih r;obtain ⟨bs,rb⟩:=ij rs;exact ⟨_,.cons ra rb⟩
end L2
namespace KS
open PySem PySem.Spec PyProof.Rows L2 KM
theorem Bi.dat {H:Hp}{t:Kd}:∀ {v:V},Bi H t v->Ov H (pd t) v:=by
 induction t with
 | num | tru=>rintro v ⟨a,rfl,q⟩;exact .tup q (.cons (.str _) .nil)
 | gap k=>rintro v ⟨a,rfl,q⟩;exact .tup q (.cons (.str _) (.cons (.int _) .nil))
 | ls _ ih=>rintro v ⟨a,u,rfl,q,p⟩;exact .tup q (.cons (.str _) (.cons (ih p) .nil))
 | fn _ _ ih ij | pr _ _ ih ij=>rintro v ⟨a,u,w,rfl,q,p,p'⟩;exact .tup q (.cons (.str _) (.cons (ih p) (.cons (ij p') .nil)))
theorem Bi.reads {P:Program}{w:World}{H:Hp}{h:Heap}(x:Di P w H h){t:Kd}{v:V}{u:Value}(k:Bi H t v)(r:RelV v u):∃ as,Reads h u (pd t) as:=Ov.reads x (Bi.dat k) r
section
variable {X:Cx}
noncomputable def ZN:R2:=λx y H Q=>∃ t t',Bi H t x/\Bi H t' y/\dp t<=60/\dp t'<=60/\Q (.bl (decide (t=t'))) H
theorem Wr (hu:X.A.units+64 < cLine):Em X (compareOp .Eq) ZN:=by
 intro pins s σ H x y v u Q I rx ry h;obtain ⟨t,t',k1,k2,d1,d2,q⟩:=h;obtain ⟨as,ra⟩:=Bi.reads I.hok k1 rx;obtain ⟨bs,rb⟩:=Bi.reads I.hok k2 ry;exact eq_dataH ra rb (Ir d1) (Ir d2) hu (Ax I q (Wq t t').symm)
theorem Cz:Cc X (.builtin "isinstance") (λxs H Q=>∃ x t T b,xs=[x,.ty T]/\Cd X.K H x t/\W.kitOne X.K t (.type T)=some b/\Q (.bl b) H):=by
 intro pins s σ H xs us Q I r h;obtain ⟨x,t,T,b,rfl,ty,e,q⟩:=h;obtain ⟨u,u',rfl,ru,T1⟩:=vals2 r;obtain rfl:u'=Value.type T:=T1;exact Nq I ru ty e λtk=>⟨.bl b,H,I.tok tk,rfl,q⟩
theorem all_bools:∀ (bs:List Bool),((List.range bs.length).all λi=>bs.getD i true)=bs.all id:=by
 intro bs;rw [Bool.eq_iff_iff];simp only [List.all_eq_true,List.mem_range,id]
 constructor
 ·intro h b hb;obtain ⟨i,hi,e⟩:=List.mem_iff_getElem.mp hb;have:=h i hi;simpa [List.getD,List.getElem?_eq_getElem hi,e] using this
 ·intro h i hi;have:=h bs[i] (List.getElem_mem hi);simpa [List.getD,List.getElem?_eq_getElem hi] using this
theorem Iu (hc:X.calm=true):Cc X (.builtin "all") (λxs H Q=>∃ (l:Addr) (bs:List Bool),xs=[.ref l]/\H l=some (.lst (bs.map V.bl))/\Q (.bl (bs.all id)) H):=by
 intro pins s σ H xs us Q I r h;obtain ⟨l,bs,rfl,hl,q⟩:=h;obtain ⟨u,rfl,ru⟩:=vals1 r;obtain rfl:u=Value.ref l:=ru;obtain ⟨hz,its,n,rv,e⟩:=(show AN X.prog X.w H s.heap l (.lst (bs.map V.bl)) from I.hok l _ hl);have hlen:=rv.length;rw [List.length_map] at hlen;have hL:s.heap.IsList l its.toArray:=⟨_,e,rfl,n,rfl⟩;have Cv:l < s.heap.objs.size:=Heap.lt_size e;have hh:X.A.in1.handled=none:=I.ok.hd hc;refine call_all_walk (wpAny_pyIter_list hL ?_);refine ⟨s.heap.objs.size,_,_,its.toArray.size,_,_,λi=>bs.getD i true,rfl,Walks.list hh s.heap.objs.size l (Nat.ne_of_lt Cv) its.toArray,⟨⟨_,Heap.get?_push_size _ rfl,rfl,rfl⟩,⟨_,Heap.get?_push_of_some _ e,rfl,n,rfl⟩⟩,?_,λh' tk hk=>?_⟩
 ·intro i v s' Q' E' hv hq;have NH:its[i]?=some v:=by simpa using hv
  have hi:i < its.length:=(List.getElem?_eq_some_iff.mp NH).1;have hb:(bs.map V.bl)[i]?=some (V.bl (bs[i]'())):=by rw [List.getElem?_map,List.getElem?_eq_getElem ()];rfl
  obtain ⟨u,hu,ru⟩:=rv.get hb;rw [NH] at hu;cases hu;obtain rfl:v=Value.bool (bs[i]'()):=ru;refine wpAny_truthy_bool ?_;have e1:bs.getD i true=bs[i]'():=by simp [List.getD,List.getElem?_eq_getElem (show i < bs.length by omega)]
  rw [<- e1];exact hq
 ·have I1:Inv X pins σ H { s with heap:=h',toks:=tk }:=I.kept λb o z=>hk b o (λy=>absurd (List.mem_singleton.mp y) (Nat.ne_of_lt (Heap.lt_size z))) (Heap.get?_push_of_some _ z);refine Ax I1 q ?_;rw [List.size_toArray,<- hlen];exact (all_bools bs).symm
theorem NI {xs:List V}{its:List Value}{acc:Array Value}(rv:Vals xs its)(hA:ItemsOf (λi v=>its.toArray[its.toArray.size - 1 - i]?=some v) acc its.toArray.size):Vals xs.reverse acc.toList:=by
 have hl:=rv.length;have e:acc.toList=its.reverse:=by
  have hs:acc.size=its.length:=hA.1.trans (by simp);have hA:=hA.2;refine List.ext_getElem? λj=>?_;by_cases hj:j < its.length
  ·have h1:acc[j]?=some (acc[j]'()):=Array.getElem?_eq_getElem ();have h2:=hA j _ h1;rw [List.getElem?_reverse hj];simp only [List.size_toArray,List.getElem?_toArray] at h2;rw [h2];simpa using h1
  ·have h1:acc.toList[j]?=none:=List.getElem?_eq_none (by simp;omega);have h2:its.reverse[j]?=none:=List.getElem?_eq_none (by simp;omega);rw [h1,h2]
 rw [e];exact rv.reverse
end
end KS
namespace L2
open PySem PySem.Spec PyProof.Rows
open PySem.W (CodeHd tabObj TabsAt noTabs mem_of_lookupK)
noncomputable def ZO (tabs:List (Addr × Addr))(H:Hp):Prop:=∀ b,H b=none\/(∃ o xs,H b=some (.frz o (.lst xs)))\/(H b=some (.tbl #[])/\b∈tabs.map (·.2))
theorem T2 {K:W.Frag}(hK:noTabs K=true){b:Addr}{o:Obj}(e:K.lookup b=some o){ps:Array Value}:o≠tabObj ps:=by
 intro q;have h2:=List.all_eq_true.mp hK (b,o) (mem_of_lookupK e);subst q;exact absurd (show false=true from h2) Bool.false_ne_true
theorem NJ {P:Program}{w:World}{K:W.Frag}{mg mb:Str->Option Value}{CX:KW}{k:Nat}{fa a:Addr}{fd:FuncData}{x:Str}{sp:Sp}{s₁:Shared}{vs:List Value}{ns:List Int}{tabs:List (Addr × Addr)}
  (KX:K.In s₁.heap) (RJ:s₁.heap.Ns mainGlobals mg) (hb:s₁.heap.Ns builtinsNs mb) (rP:∀ x:Str,x≠"__name__"->mb x=bootBuiltins x) (il:s₁.heap.NoLimit) (hg:s₁.gens=#[])
  (rQ:∃ bm ob,mg "__builtins__"=some (.ref bm)/\bm≠builtinsNs/\s₁.heap.get? bm=some ob/\ob.cls=.type "module"/\ob.dict=some builtinsNs/\ob.data=.plain)
  (hT:TabsAt tabs s₁.heap) (hK:noTabs K=true)
  (ha:s₁.heap.get? a=some { cls:=.type "list",data:=.seq vs.toArray }) (hi:IntsAre vs ns) (hl:ns.length<=sizeLine) (hr:AG k callerA)
  (F:∀ base:Heap,K.In base->base.Ns mainGlobals mg->(∀ q∈tabs,FT base mg q.1 q.2)->Av P w K mg base CX k fa fd [x] sp) (Mw:∀ (s:Shared) (u:Value),BindsTo s fd ⟨[u],[]⟩ [(x,u)])
  (Ou:∀ H:Hp,(∀ q∈tabs,H q.2=some (.tbl #[]))->AI K H a (ns.map V.int)->sp [.ref a] H (λv _=>v=.bl true) λ_ _ _=>False)
  (rR:∀ H e s',CX [] H s₁ (λ_ _ _=>False) e s'->False) :
  codeAny (model P w) callerA (.call (.ref fa) ⟨[.ref a],[]⟩) (λr s'=>r=.ok (.ret (.bool true))/\OldK s₁.heap s'.heap/\s'.os=s₁.os/\AllBare s'.gens) s₁:=by
 have rv:=Io hi;have ip:=hi.length;have tabOf:∀ {b:Addr},b∈tabs.map (·.2)->s₁.heap.get? b=some (tabObj #[]):=λ{b} hm=>by
  obtain ⟨q,hq,e⟩:=List.mem_map.mp hm;rw [<- e];exact (hT q hq).2
 have core:∀ H:Hp,ZO tabs H->(∀ q∈tabs,H q.2=some (.tbl #[]))->AI K H a (ns.map V.int)->Di P w H s₁.heap->(∀ b,H b≠none->b=a\/b∈tabs.map (·.2))->(H a≠none->K.lookup a=none) ->
   codeAny (model P w) callerA (.call (.ref fa) ⟨[.ref a],[]⟩) (λr s'=>r=.ok (.ret (.bool true))/\OldK s₁.heap s'.heap/\s'.os=s₁.os/\AllBare s'.gens) s₁:=by
  intro H hO iq hS hok hA rS;have Gi:∀ {b:Addr} {o:Obj},s₁.heap.get? b=some o->H b=none->(HI s₁.heap H).get? b=some o:=λe n=>OD e n;have W9:∀ {b:Addr} {o:Obj},s₁.heap.get? b=some o->o≠{ cls:=.type "list",data:=.seq vs.toArray }->o≠tabObj #[]->H b=none:=λ{b o} e d1 d2=>by
   cases q:H b with
   | none=>rfl
   | some u =>
    rcases hA b (by rw [q];simp) with e' | e'
    ·subst e';rw [ha] at e;cases e;exact absurd rfl d1
    ·rw [tabOf e'] at e;cases e;exact absurd rfl d2
  have dZ:∀ {b:Addr} {m:Str->Option Value},s₁.heap.Ns b m->(HI s₁.heap H).Ns b m:=λ{b m} ⟨o,es,ep,e,d,r⟩=>⟨o,es,ep,Gi e (W9 e (λz=>by rw [z] at d;cases d) (λz=>by rw [z] at d;cases d)),d,r⟩;have oh:K.In (HI s₁.heap H):=λb o e=>Gi (KX b o e) (by
   cases q:H b with
   | none=>rfl
   | some u =>
    rcases hA b (by rw [q];simp) with e' | e'
    ·subst e';rw [rS (by rw [q];simp)] at e;cases e
    ·have z:=KX b o e;rw [tabOf e'] at z;exact absurd (Option.some.inj z).symm (T2 hK e))
  have hM:Mod K mg (HI s₁.heap H):=⟨oh,dZ RJ,⟨mb,dZ hb,rP⟩,let ⟨mc,h1,h2⟩:=il;⟨mc,dZ h1,h2⟩⟩;have e0:Si P w K mg (HI s₁.heap H) callerA [] s₁ H:=⟨rfl,hM,λb o e=>RW e,Nat.le_of_eq (Nf _ _),trivial,λb hb=>absurd (show b∈([]:List Addr) from hb) (by simp),hok,.of_eq hg⟩;have hN:∀ q∈tabs,FT (HI s₁.heap H) mg q.1 q.2:=λq hq=>by
   refine ⟨?_,?_⟩
   ·obtain ⟨o,rT,file,tf,flags,tg,rW,text,tt,e1,c1,r⟩:=(hT q hq).1;exact ⟨o,rT,file,tf,flags,tg,rW,text,tt,Gi e1 (W9 e1 (λz=>by rw [z] at c1;exact absurd (show Value.type "list"=Value.type "code" from c1) ⟨⟩) (λz=>by rw [z] at c1;cases c1)),c1,r⟩
   ·obtain ⟨bm,ob,b1,b2,b3,b4,b5⟩:=rQ;exact ⟨bm,ob,b1,b2,Gi b3 (W9 b3 (λz=>by rw [z] at b4;exact absurd (show Value.type "list"=Value.type "module" from b4) ⟨⟩) (λz=>by rw [z] at b4;cases b4)),b4,b5⟩
  refine codeAny_mono ((F _ oh (dZ RJ) hN).run callerA [] s₁ H ⟨[.ref a],[]⟩ [.ref a] [.ref a] _ _ hr e0 (Mw s₁ (.ref a)) (.cons rfl .nil) (Ou H iq hS)) λr s' h=>?_;cases r with
  | error e=>exact (rR H e s' h).elim
  | ok fl =>
   cases fl with
   | next=>exact False.elim h
   | brk=>exact False.elim h
   | cont=>exact False.elim h
   | ret u =>
    obtain ⟨v,H',os,bare,un,ZP,r',q⟩:=h;have q':v=.bl true:=q;subst q';obtain rfl:u=Value.bool true:=r';have key:∀ b o,s₁.heap.get? b=some o->s'.heap.get? b=some o\/(b∈tabs.map (·.2)/\o=tabObj #[]/\∃ more,s'.heap.get? b=some (tabObj (#[]++more))):=λb o e=>by
     cases q:H b with
     | none=>exact .inl (un.keep b o e q (by intro z;exact absurd (show b∈([]:List Addr) from z) (by simp)) (by simp))
     | some u =>
      rcases hO b with z | ⟨ob,xs,z⟩ | ⟨z,zm⟩
      ·rw [q] at z;cases z
      ·have z2:=un.aaz b ob _ z;obtain ⟨e1,_⟩:=hok b _ z;obtain ⟨e2,_⟩:=ZP b _ z2;rw [e] at e1;cases e1;exact .inl e2
      ·obtain ⟨more,z2⟩:=un.aa0 b _ z;have e2:s'.heap.get? b=some _:=ZP b _ z2;have e1:=tabOf zm;rw [e] at e1;cases e1;exact .inr ⟨zm,rfl,more,e2⟩
    refine ⟨rfl,⟨λb o e=>?_,λb o e=>?_⟩,os,bare⟩
    ·rcases key b o e with z | ⟨zm,rfl,more,z⟩
     ·exact .inl z
     ·obtain ⟨q,hq,e'⟩:=List.mem_map.mp zm;subst e';exact .inr (.inl ⟨((hT q hq).1.tab (hT q hq).2).isCodeTable,rfl,#[],more,rfl,z⟩)
    ·rcases key b o e with z | ⟨_,_,more,z⟩
     ·exact ⟨_,z⟩
     ·exact ⟨_,z⟩
 have ZQ:∀ q∈tabs,q.2≠a:=λq hq z=>by
  have:=(hT q hq).2;rw [z,ha] at this;cases this
 cases hk:K.lookup a with
 | some o =>
  have e:=KX a o hk;rw [ha] at e;cases e;refine core (λb=>if b∈tabs.map (·.2) then some (.tbl #[]) else none) (λb=>?_) (λq hq=>if_pos (List.mem_map_of_mem hq)) (.inr ⟨_,vs.toArray,_,hk,rfl,rfl,rfl,by rw [List.size_toArray,ip];exact hl,by simpa using rv⟩) (λb u z=>?_) (λb z=>?_) λz=>?_
  ·by_cases hb:b∈tabs.map (·.2)
   ·exact .inr (.inr ⟨if_pos hb,hb⟩)
   ·exact .inl (if_neg hb)
  ·by_cases hb:b∈tabs.map (·.2)
   ·have z':=(if_pos hb).symm.trans z;cases z';exact tabOf hb
   ·have z':=(if_neg hb).symm.trans z;cases z'
  ·by_cases hb:b∈tabs.map (·.2)
   ·exact .inr hb
   ·exact absurd (if_neg hb) z
  ·by_cases hb:a∈tabs.map (·.2)
   ·obtain ⟨q,hq,e'⟩:=List.mem_map.mp hb;exact absurd e' (ZQ q hq)
   ·exact absurd (if_neg hb) z
 | none =>
  refine core (λb=>if b=a then some (.frz { cls:=.type "list",data:=.seq vs.toArray } (.lst (ns.map V.int))) else if b∈tabs.map (·.2) then some (.tbl #[]) else none) (λb=>?_) (λq hq=>?_)
   (.inl (.inr ⟨{ cls:=.type "list",data:=.seq vs.toArray },if_pos rfl⟩)) (λb u z=>?_) (λb z=>?_) λ_=>hk
  ·by_cases hb:b=a
   ·exact .inr (.inl ⟨_,_,if_pos hb⟩)
   ·by_cases Mx:b∈tabs.map (·.2)
    ·exact .inr (.inr ⟨(if_neg hb).trans (if_pos Mx),Mx⟩)
    ·exact .inl ((if_neg hb).trans (if_neg Mx))
  ·exact (if_neg (ZQ q hq)).trans (if_pos (List.mem_map_of_mem hq))
  ·by_cases hb:b=a
   ·have z':=(if_pos hb).symm.trans z;cases z';subst hb;exact ⟨ha,by rw [List.length_map];exact hl,vs,_,rv,ha⟩
   ·by_cases Mx:b∈tabs.map (·.2)
    ·have z':=((if_neg hb).trans (if_pos Mx)).symm.trans z;cases z';exact tabOf Mx
    ·have z':=((if_neg hb).trans (if_neg Mx)).symm.trans z;cases z'
  ·by_cases hb:b=a
   ·exact .inl hb
   ·by_cases Mx:b∈tabs.map (·.2)
    ·exact .inr Mx
    ·exact absurd ((if_neg hb).trans (if_neg Mx)) z
noncomputable def PY (K:W.Frag)(n:Nat)(ps:List Addr):Sp:=λvs H Q _=>∃ (a:Addr) (ns:List Int),vs=[.ref a]/\AI K H a (ns.map V.int)/\ns.length<=n/\(∀ p∈ps,H p=some (.tbl #[]))/\∀ H',Q (.bl true) H'
end L2
namespace L2
open PySem PySem.Spec PyProof.Rows
noncomputable def Dw (n0:Heap)(H:Hp)(h:Heap)(b:Addr):Prop:=n0.get? b=none/\H b=none/\∃ o vs,h.get? b=some o/\o.data=.fields vs
structure NK (fr:List Addr)(n0:Heap)(H:Hp)(h h':Heap):Prop where
 keep:∀ b o,h.get? b=some o->b∉fr->¬ Dw n0 H h b->h'.get? b=some o
 slot:∀ b o,h.get? b=some o->(∀ vs,o.data≠.fields vs)->∃ sl,h'.get? b=some { o with slots:=sl }
 there:∀ b o,h.get? b=some o->∃ o',h'.get? b=some o'
 size:h.objs.size<=h'.objs.size
structure Fl (n0:Heap)(H:Hp)(a:Addr)(cls:Value)(h:Heap)(z:Option Value)(dz:Option Addr)(c:Bool):Prop where
 new:n0.get? a=none
 un:H a=none
 ob:∃ oe vs,h.get? a=some oe/\oe.cls=cls/\oe.data=.fields vs/\1 < vs.size/\oe.dict=dz/\(c=true->vs[2]?=some .none)/\match z with
  | none=>vs[1]?=some .none
  | some z=>∃ T oT ts,vs[1]?=some (.ref T)/\n0.get? T=none/\H T=none/\T≠a/\h.get? T=some oT/\oT.data=.fields ts/\ts[3]?=some z
section
variable {fr:List Addr}{n0:Heap}{H:Hp}{h h1 h2:Heap}{a:Addr}{cls:Value}{z:Option Value}
theorem NK.refl:NK fr n0 H h h:=⟨λ_ _ e _ _=>e,λ_ o e _=>⟨o.slots,e⟩,λ_ o e=>⟨o,e⟩,Nat.le_refl _⟩
theorem NK.trans (x:NK fr n0 H h h1)(y:NK fr n0 H h1 h2)(hr:∀ b o,h.get? b=some o->b∉fr->¬ Dw n0 H h b->¬ Dw n0 H h1 b):NK fr n0 H h h2 :=
 ⟨λb o e n m=>y.keep b o (x.keep b o e n m) n (hr b o e n m),λb o e d=>by
  obtain ⟨sl,e1⟩:=x.slot b o e d;obtain ⟨dO,e2⟩:=y.slot b _ e1 d;exact ⟨dO,e2⟩,λb o e=>let ⟨o1,e1⟩:=x.there b o e;y.there b o1 e1,Nat.le_trans x.size y.size⟩
theorem NK.trans' (x:NK fr n0 H h h1)(y:NK fr n0 H h1 h2):NK fr n0 H h h2:=x.trans y λb o e n m z=>by
 have e1:=x.keep b o e n m;obtain ⟨z1,z2,o',vs,e2,d⟩:=z;rw [e1] at e2;cases e2;exact m ⟨z1,z2,o,vs,e,d⟩
end
theorem GW (o:Obj)(f):(o.mapFields f).dict=o.dict:=by
 obtain ⟨c,d,dt,sl⟩:=o;cases dt <;> rfl
section
variable {M:Model}{A:Around}{E:Value->Shared->Prop}{s:Shared}{env:Env}{outer:List Env}{L a:Addr}{cls:Value}{n0:Heap}{H:Hp}{base:Heap}{Q:Unit->Shared->Prop}{dz:Option Addr}{c:Bool}
theorem GX {head:Value}{T3:Bool}{oe:Obj}{vs:Array Value}(ef:A.frames=some (env::outer))(hl:s.heap.FunFrames base (env::outer))(hf:env.frame=some L)(hn:∀ b,s.heap.objs.size<=b->n0.get? b=none)(hH:∀ b,s.heap.objs.size<=b->H b=none)
  (ha:n0.get? a=none) (UK:H a=none) (he:s.heap.get? a=some oe) (hc:oe.cls=cls) (hd:oe.data=.fields vs) (F':1 < vs.size) (hz:oe.dict=dz) (Ws:c=true->vs[2]?=some .none)
  (h:∀ h',NK (FO (env::outer)) n0 H s.heap h'->Fl n0 H a cls h' (some (rawInt L)) dz c->Q .unit { s with heap:=h' }) :
  wpAny M A (do let f <- frameOf env;let pl <- entryPlaceOf L T3;let b <- EntryCells.newEntry head f .none (rawInt L) .none pl;setField (.ref a) 1 b) Q E s:=by
 have iu:a∉(env::outer).filterMap (·.frame):=λhm=>by
  obtain ⟨_,o,ho,Wt⟩:=hl.mem hm;rw [he] at ho;cases ho;exact Wt vs hd
 refine wpAny_bind (wpAny_frameOf_fun ef hl hf λh₁ hs₁=>?_);refine wpAny_bind (wpAny_entryPlaceOf λpl Ci=>?_);unfold EntryCells.newEntry newFields;refine wpAny_bind (wpAny_newObj_type ?_ (Ci.sizeOk5 _ _ _ _ _));have he₁:h₁.get? a=some oe:=(hs₁.2.1 a iu).trans he;have he₂:=Heap.get?_push_of_some (h:=h₁) { cls:=.type "traceback",dict:=none,data:=.fields ([head,.ref L,.none,rawInt L,.none]++(if pl.isEmpty then List.replicate 6 Value.none else pl)).toArray } he₁
 refine wpAny_setField he₂ hd F' ?_;have UL:h₁.objs.size≠a:=Nat.ne_of_gt (Heap.lt_size he₁);have hd₃:=Obj.data_mapFields hd (·.setIfInBounds 1 (Value.ref h₁.objs.size));have he₃:=Heap.get?_update_self (Obj.mapFields (·.setIfInBounds 1 (Value.ref h₁.objs.size))) he₂ (Obj.isFreed_of_fields hd₃);have hT₃:=(Heap.get?_update_other (h₁.push { cls:=.type "traceback",dict:=none,data:=.fields ([head,.ref L,.none,rawInt L,.none]++(if pl.isEmpty then List.replicate 6 Value.none else pl)).toArray })
  (Obj.mapFields (·.setIfInBounds 1 (Value.ref h₁.objs.size))) (Ne.symm UL)).trans (Heap.get?_push_size h₁ rfl)
 have keep:∀ b o,b≠a->h₁.get? b=some o->((h₁.push { cls:=.type "traceback",dict:=none,data:=.fields ([head,.ref L,.none,rawInt L,.none]++(if pl.isEmpty then List.replicate 6 Value.none else pl)).toArray }).update a (Obj.mapFields (·.setIfInBounds 1 (Value.ref h₁.objs.size)))).get? b=some o:=λb o hb e=>by
  rw [Heap.get?_update_other _ _ (Ne.symm hb)];exact Heap.get?_push_of_some _ e
 refine h _ ⟨λb o e n m=>?_,λb o e d=>?_,λb o e=>?_,?_⟩ ⟨ha,UK,_,_,he₃,(Obj.cls_mapFields ..).trans hc,hd₃,by simpa using F',(GW ..).trans hz,(λq=>by rw [Array.getElem?_setIfInBounds,if_neg ⟨⟩];exact Ws q),h₁.objs.size,_,_,by simp [F'],hn _ (by rw [hs₁.1];exact Nat.le_refl _),hH _ (by rw [hs₁.1];exact Nat.le_refl _),UL,hT₃,rfl,by simp⟩
 ·refine keep b o (λz=>m ?_) ((hs₁.2.1 b n).trans e);subst z;exact ⟨ha,UK,oe,vs,he,hd⟩
 ·obtain ⟨sl,e1⟩:=hs₁.2.2 b o e;refine ⟨sl,keep b _ (λz=>?_) e1⟩;subst z;rw [he] at e;cases e;exact d vs hd
 ·obtain ⟨sl,e1⟩:=hs₁.2.2 b o e;by_cases z:b=a
  ·subst z;exact ⟨_,he₃⟩
  ·exact ⟨_,keep b _ z e1⟩
 ·rw [Heap.size_after_update,Heap.size_push,hs₁.1];omega
theorem My {z:Option Value}(ef:A.frames=some (env::outer))(hl:s.heap.FunFrames base (env::outer))(hf:env.frame=some L)(hn:∀ b,s.heap.objs.size<=b->n0.get? b=none)(hH:∀ b,s.heap.objs.size<=b->H b=none)(x:Fl n0 H a cls s.heap z dz c)
  (h:∀ h',NK (FO (env::outer)) n0 H s.heap h'->Fl n0 H a cls h' (some (rawInt L)) dz c->Q .unit { s with heap:=h' }):wpAny M A (noteFrame (.ref a) env) Q E s:=by
 obtain ⟨ha,UK,oe,vs,he,hc,hd,F',Wu,Ws,hz⟩:=x;unfold noteFrame;simp only [hf];cases z with
 | none =>
  refine wpAny_bind (wpAny_field he hd hz ?_);rw [if_neg ⟨⟩];exact GX ef hl hf hn hH ha UK he hc hd F' Wu Ws h
 | some z =>
  obtain ⟨T,oT,ts,h1,ZR,ZS,UL,hT,Ow,h3⟩:=hz;refine wpAny_bind (wpAny_field he hd h1 ?_);rw [if_pos (show (Value.ref T != Value.none)=true from by simp)];refine wpAny_bind (wpAny_field hT Ow h3 ?_);by_cases iw:(z==rawInt L)=true
  ·rw [if_pos iw];have e:z=rawInt L:=eq_of_beq iw;subst e;exact wpAny_pure (h _ .refl ⟨ha,UK,oe,vs,he,hc,hd,F',Wu,Ws,T,oT,ts,h1,ZR,ZS,UL,hT,Ow,h3⟩)
  ·rw [if_neg iw];refine wpAny_bind (wpAny_setField hT Ow (Array.getElem?_eq_some_iff.mp h3).1 ?_);have other:∀ b,b≠T->(s.heap.update T (Obj.mapFields (·.setIfInBounds 3 Value.none))).get? b=s.heap.get? b:=λb hb=>Heap.get?_update_other _ _ (Ne.symm hb);have EX:∀ b o,s.heap.get? b=some o->(∀ vs,o.data≠.fields vs)->b≠T:=λb o hb Wt q=>by
    rw [q,hT] at hb;cases hb;exact Wt ts Ow
   have hs:(s.heap.update T (Obj.mapFields (·.setIfInBounds 3 Value.none))).objs.size=s.heap.objs.size:=Heap.size_after_update ..;refine GX (s:={ s with heap:=s.heap.update T (Obj.mapFields (·.setIfInBounds 3 Value.none)) }) (base:=base) ef (hl.of_keeps λb o hb Wt=>⟨o,(other b (EX b o hb Wt)).trans hb,rfl⟩) hf (λb hb=>hn b (by rw [hs] at hb;exact hb)) (λb hb=>hH b (by rw [hs] at hb;exact hb)) ha UK ((other a (Ne.symm UL)).trans he) hc hd F' Wu Ws λh' nk fl=>?_;have rX:NK (FO (env::outer)) n0 H s.heap (s.heap.update T (Obj.mapFields (·.setIfInBounds 3 Value.none))):=by
    refine ⟨λb o e n m=>(other b λz=>m ?_).trans e,λb o e d=>⟨o.slots,(other b (EX b o e d)).trans e⟩,λb o e=>?_,Nat.le_of_eq hs.symm⟩
    ·subst z;exact ⟨ZR,ZS,oT,ts,hT,Ow⟩
    ·by_cases z:b=T
     ·subst z;exact ⟨_,Heap.get?_update_self _ hT (Obj.isFreed_of_fields (Obj.data_mapFields Ow _))⟩
     ·exact ⟨o,(other b z).trans e⟩
   exact h h' (rX.trans' nk) fl
theorem Ei {z:Value}{w:Option Addr}(x:Fl n0 H a cls s.heap (some z) dz c)(h:∀ h',NK (FO (env::outer)) n0 H s.heap h'->Fl n0 H a cls h' (some (w.elim .none λf=>rawInt f)) dz c->Q .unit { s with heap:=h' }):wpAny M A (setFlight (.ref a) w) Q E s:=by
 obtain ⟨ha,UK,oe,vs,he,hc,hd,F',Wu,Ws,T,oT,ts,h1,ZR,ZS,UL,hT,Ow,h3⟩:=x;have RK:=(Array.getElem?_eq_some_iff.mp h3).1;unfold setFlight;refine wpAny_bind (wpAny_field he hd h1 ?_);rw [if_pos (show (Value.ref T != Value.none)=true from by simp)];refine wpAny_setField hT Ow RK ?_;have other:∀ b,b≠T->(s.heap.update T (Obj.mapFields (·.setIfInBounds 3 (w.elim .none λf=>rawInt f)))).get? b=s.heap.get? b:=λb hb=>Heap.get?_update_other _ _ (Ne.symm hb);have EX:∀ b o,s.heap.get? b=some o->(∀ vs,o.data≠.fields vs)->b≠T:=λb o hb Wt q=>by
  rw [q,hT] at hb;cases hb;exact Wt ts Ow
 have dQ:=Heap.get?_update_self (Obj.mapFields (·.setIfInBounds 3 (w.elim .none λf=>rawInt f))) hT (Obj.isFreed_of_fields (Obj.data_mapFields Ow _));refine h _ ⟨λb o e n m=>(other b λz=>m ?_).trans e,λb o e d=>⟨o.slots,(other b (EX b o e d)).trans e⟩,λb o e=>?_,Nat.le_of_eq (Heap.size_after_update ..).symm⟩ ⟨ha,UK,oe,vs,(other a (Ne.symm UL)).trans he,hc,hd,F',Wu,Ws,T,_,_,h1,ZR,ZS,UL,dQ,Obj.data_mapFields Ow _,by simp [RK]⟩
 ·subst z;exact ⟨ZR,ZS,oT,ts,hT,Ow⟩
 ·by_cases z:b=T
  ·subst z;exact ⟨_,dQ⟩
  ·exact ⟨o,(other b z).trans e⟩
end
open KS
structure SE (X:Cx)(e:Expr)(t:TE):Prop where out:PE X e t
structure ST (X:Cx)(e:Expr)(t:TT):Prop where out:PT X e t
structure SW (X:Cx)(e:Expr)(t:TT):Prop where out:PW X e t
structure SA (X:Cx)(es:List Expr)(t:TA):Prop where out:PA X es t
structure SS (X:Cx)(st:Stmt)(t:TS):Prop where out:PS X st t
structure SB (X:Cx)(st:List Stmt)(t:TS):Prop where out:L7 X st t
structure SG (X:Cx)(tg:Expr)(g:TG):Prop where out:PG X tg g
structure SI (X:Cx)(tg iter:Expr)(wi:TI):Prop where out:PI X tg iter wi
structure SF (X:Cx)(ifs:List Expr)(t:TT):Prop where out:Yx X ifs t
structure SO (X:Cx)(e:Option Expr)(t:TO):Prop where out:PO X e t
structure SD (X:Cx)(pos:Pos)(keys:List (Option Expr))(values:List Expr)(Im:List (TE × TE)):Prop where out:ZG X pos keys values Im
section
variable {env:Env}{es:List Expr}
theorem CA {c k p}:starEach (.Constant c k p::es) env=(false,eval (.Constant c k p) env)::starEach es env:=rfl
theorem CB {a o b p}:starEach (.BinOp a o b p::es) env=(false,eval (.BinOp a o b p) env)::starEach es env:=rfl
theorem CC {a k p}:starEach (.Tuple a k p::es) env=(false,eval (.Tuple a k p) env)::starEach es env:=rfl
theorem BR {a b c p}:starEach (.Call a b c p::es) env=(false,eval (.Call a b c p) env)::starEach es env:=rfl
theorem BS {a p}:starEach (.Name a p::es) env=(false,eval (.Name a p) env)::starEach es env:=rfl
theorem CD {a b p}:starEach (.Subscript a b p::es) env=(false,eval (.Subscript a b p) env)::starEach es env:=rfl
theorem DX {a b c p}:starEach (.ListComp a b c p::es) env=(false,eval (.ListComp a b c p) env)::starEach es env:=rfl
end
section
variable {X:Cx}
theorem A7 (i:Nat){x:Str}{pos:Pos}(hN:X.N[i]?=some x:=by rfl)(hv:Uv X.env.scope x:=by exfalso)(hd:(x==("__debug__":Str))=false:=by decide)
  (Gy:(x==("__classdict__":Str))=false:=by decide):SE X (.Name x pos) (B2 i):=⟨L8 hN hv hd Gy⟩
theorem A3 {i j pos}:SE X (.Constant (.int i) j pos) (tC (.int i)):=⟨D8⟩
theorem G4 {b j pos}:SE X (.Constant (.bool b) j pos) (tC (.bl b)):=⟨Zo⟩
theorem Eo {j pos}:SE X (.Constant .none j pos) (tC .non):=⟨VB⟩
theorem A8 {x j pos}:SE X (.Constant (.str x) j pos) (tC (.str x)):=⟨VC⟩
theorem DY {x:Str}{v:V}{u:Value}{pos:Pos}(hg:Gl X x)(hm:X.mg x=none)(hv:bootBuiltins x=some u)(r:RelV v u)(hn:x≠"__name__":=by decide)(hd:(x==("__debug__":Str))=false:=by decide):SE X (.Name x pos) (tC v):=⟨RZ hg hm hv r hn hd⟩
variable {a b c e o:Expr}{es:List Expr}{ta tb te to ti tx:TE}{tA R':TT}{t:TA}{pos apos B6 p:Pos}{rest:List Expr}
theorem AH {r:R2}(hr:Zx X r)(ha:SE X a ta)(hb:SE X b tb)(hs:Mr b):SE X (.Subscript a b pos) (Fj r ta tb):=⟨UE hr ha.out hb.out hs⟩
theorem eI (i:Nat){x:Str}{p p2:Pos}{j:Int}{k}(hN:X.N[i]?=some x:=by rfl)(hv:Uv X.env.scope x:=by exfalso)(hd:(x==("__debug__":Str))=false:=by decide)(Gy:(x==("__classdict__":Str))=false:=by decide):SE X (.Subscript (.Name x p) (.Constant (.int j) k p2) pos) (Fj (Bg X.K) (B2 i) (tC (.int j))):=AH Aw (A7 i hN hv hd Gy) A3 Br
theorem DZ:SO X none IU:=⟨Sj⟩
theorem BU (h:SE X e te):SO X (some e) (Pf te):=⟨Sk h.out⟩
theorem BV {lo hi:Option Expr}{tl th:TO}{p2:Pos}{r:V->Option Int->Option Int->Hp->VK->Prop}(hr:dS X r)(he:SE X e te)(hl:SO X lo tl)(hu:SO X hi th):SE X (.Subscript e (.Slice lo hi none p2) pos) (gT r te tl th):=⟨Pg hr he.out hl.out hu.out⟩
theorem C1 {op:CmpOp}{r:R2}(ho:Em X (compareOp op) r)(ha:SE X a ta)(hb:SE X b tb)(hm:behindInMarks op b=false):SE X (.Compare a [op] [b] pos) (Fj r ta tb):=⟨Sd ho ha.out hb.out hm⟩
theorem Al {op:CmpOp}{r:R2}(ho:Em X (compareOp op) r)(ha:SE X a ta)(hb:SE X b tb)(hm:behindInMarks op b=false):ST X (.Compare a [op] [b] pos) (Ml (Fj r ta tb)):=⟨Se ho ha.out hb.out hm⟩
theorem Dp (h:SE X e te)(he:∀ whole,isTrue e X.env whole=(do let v <- whole;standAt e.pos;holding [v] (truthy v)):=by intro _;rfl):ST X e (tB te):=⟨VF h.out he⟩
theorem CZ (ha:SE X a ta)(he:∀ whole,isTrue a X.env whole=(do let v <- whole;standAt a.pos;holding [v] (truthy v)):=by intro _;rfl):ST X a (fun σ H Q=>ta σ H λx H'=>∃ k,Sf X.K x H' k/\Q k H'):=⟨JE ha.out he⟩
theorem EY (ha:ST X a tA):ST X (.UnaryOp .Not a pos) (VH tA):=⟨VL ha.out⟩
theorem BH (ha:ST X a tA):SW X (.BoolOp .And [a] pos) tA:=⟨S0 ha.out⟩
theorem F0 (ha:ST X a tA):SW X (.BoolOp .Or [a] pos) tA:=⟨VI ha.out⟩
theorem w_and (ha:ST X a tA)(hb:SW X (.BoolOp .And (b::rest) pos) R'):SW X (.BoolOp .And (a::b::rest) pos) (VG tA R'):=⟨VJ ha.out hb.out⟩
theorem w_or (ha:ST X a tA)(hb:SW X (.BoolOp .Or (b::rest) pos) R'):SW X (.BoolOp .Or (a::b::rest) pos) (gH tA R'):=⟨Zp ha.out hb.out⟩
theorem Gj (h:SW X e tA):ST X e tA:=⟨PW.pt h.out⟩
theorem JQ {op}(h:SE X a ta):SE X (.BoolOp op [a] pos) ta:=⟨VM h.out⟩
theorem JR (ha:SE X a ta)(hb:SE X (.BoolOp .And (b::rest) pos) tb):SE X (.BoolOp .And (a::b::rest) pos) (OL ta tb):=⟨VN ha.out hb.out⟩
theorem ZT (ha:SE X a ta):SE X (.UnaryOp .Not a pos) (OM ta):=⟨VO ha.out⟩
theorem HK (hc:ST X c tA)(ha:SE X a ta)(hb:SE X b tb):SE X (.IfExp c a b pos) (gJ tA ta tb):=⟨ON hc.out ha.out hb.out⟩
theorem Af {op:Operator}{r:R2}(ho:Em X (binaryOp op) r)(ha:SE X a ta)(hb:SE X b tb):SE X (.BinOp a op b pos) (Fj r ta tb):=⟨DJ ho ha.out hb.out⟩
theorem A2:SA X [] Fq:=⟨Lg⟩
theorem A1 (ha:SE X e te)(hr:SA X es t)(hs:starEach (e::es) X.env=(false,eval e X.env)::starEach es X.env:=by exfalso):SA X (e::es) (Be te t):=⟨Gf ha.out hr.out hs⟩
theorem Ae {x1}(h:SA X es t):SE X (.Tuple es x1 pos) (Pa t):=⟨W6 h.out⟩
theorem Az (h:SA X es t):SE X (.List es pos) (W5 t):=⟨W7 h.out⟩
variable {k:Nat}{f:Addr}{fd:FuncData}{ps:List Str}{sp:Sp}{x:Str}
theorem Lu (F:Av X.prog X.w X.K X.mg X.base Bs k f fd ps sp)(hr:AG k X.A)(hg:Gl X x)(hm:X.mg x=some (.ref f))(hk:W.keepIn X.K (.ref f)=true)(hb:Binds X.K fd ps [])(ha:SA X (e::es) t)(CW:(x==("__debug__":Str))=false:=by decide)
  (he:starEach (e::es) X.env=(false,eval e X.env)::starEach es X.env:=by exfalso) (Ci:(backTo pos (starEach es X.env)).any (·.1)=false:=by rfl) :
  SE X (.Call (.Name x p) (e::es) [] pos) (CV sp [] E0 t):=⟨IT F hr hg hm hk hb .nil JN ha.out CW he Ci⟩
theorem AF {id:String}{r:List V->Hp->VK->Prop}(hc:Cc X (.builtin id) r)(hg:Gl X x)(hm:X.mg x=none)(hv:bootBuiltins x=some (.builtin id))(ha:SA X (e::es) t)(hn:x≠"__name__":=by decide)(CW:(x==("__debug__":Str))=false:=by decide)
  (he:starEach (e::es) X.env=(false,eval e X.env)::starEach es X.env:=by exfalso) (Ci:(backTo pos (starEach es X.env)).any (·.1)=false:=by rfl):SE X (.Call (.Name x p) (e::es) [] pos) (Wa r t):=⟨JG hc hg hm hv ha.out hn CW he Ci⟩
theorem Bl {T:String}{r:List V->Hp->VK->Prop}(hc:Cc X (.type T) r)(hg:Gl X x)(hm:X.mg x=none)(hv:bootBuiltins x=some (.type T))(ha:SA X (e::es) t)(hn:x≠"__name__":=by decide)(CW:(x==("__debug__":Str))=false:=by decide)
  (he:starEach (e::es) X.env=(false,eval e X.env)::starEach es X.env:=by exfalso) (Ci:(backTo pos (starEach es X.env)).any (·.1)=false:=by rfl):SE X (.Call (.Name x p) (e::es) [] pos) (Wa r t):=⟨Nr hc hg hm hv ha.out hn CW he Ci⟩
theorem JS {T id:String}{name:Str}{r:V->List V->Hp->VK->Prop}(pa:PlainAttrs T)(slot:Slot T name id)(RI:typeOf (.builtin id)=pure (.type "method_descriptor"))(hm:dU X id r)(ho:SE X o to)
  (DS:attributeBase o name X.env (eval o X.env)=eval o X.env:=by rfl) (GK:(apos.endLine==B6.line)=true:=by rfl):SE X (.Call (.Attribute o name apos) [] [] B6) (So X.K T r to):=⟨Wg pa slot RI hm ho.out DS GK⟩
theorem JT {T id:String}{name:Str}{r:V->List V->Hp->VK->Prop}(pa:PlainAttrs T)(slot:Slot T name id)(RI:typeOf (.builtin id)=pure (.type "method_descriptor"))(hm:dU X id r)(ho:SE X o to)(ha:SA X (e::es) t)
  (DS:attributeBase o name X.env (eval o X.env)=eval o X.env:=by rfl)
  (Wh:((backTo B6 (starEach (e::es) X.env)).all (λx=>!x.1) && (backToKw B6 (keywordEach [] X.env)).all (λx=>x.1.isSome)
   && decide ((e::es).length+([]:List Keyword).length+(if ([]:List Keyword).isEmpty then 0 else 1) < 30))=true:=by rfl)
  (GK:(apos.endLine==B6.line)=true:=by rfl) (hs:starEach (e::es) X.env=(false,eval e X.env)::starEach es X.env:=by exfalso) (Ll:(backTo B6 (starEach es X.env)).any (·.1)=false:=by rfl) :
  SE X (.Call (.Attribute o name apos) (e::es) [] B6) (gU X.K T r to t):=⟨ZA pa slot RI hm ho.out ha.out DS Wh GK hs Ll⟩
theorem Gk {f:Expr}(hu:X.A.units+1 < cLine)(ho:SE X o to)(he:SE X e te)(hf:SE X f tx)(m:M2 X o "get" apos e f B6):SE X (.Call (.Attribute o "get" apos) [e,f] [] B6) (Lp to te tx):=⟨PF hu ho.out he.out hf.out m⟩
theorem Wv {i:Expr}(hu:X.A.units+1 < cLine)(ho:SE X o to)(hi:SE X i ti)(hs:Ln i):SE X (.Subscript o i pos) (Pp to ti):=⟨Sv hu ho.out hi.out hs⟩
theorem Lv:SE X (.Dict [] [] pos) Pw:=⟨Px⟩
theorem FU:SD X pos [] [] []:=⟨Sw⟩
theorem Bj {k v:Expr}{ks:List (Option Expr)}{vs:List Expr}{tk tv:TE}{Im:List (TE × TE)}(hk:SE X k tk)(hv:SE X v tv)(hr:SD X pos ks vs Im):SD X pos (some k::ks) (v::vs) ((tk,tv)::Im):=⟨Py hk.out hv.out hr.out⟩
theorem D' {keys:List (Option Expr)}{values:List Expr}{Im:List (TE × TE)}(h:SD X pos keys values Im)(Lo:keys.all (·.isSome)=true)(hl:keys.length=values.length)(h0:keys≠[])(hV:keys.length<=15):SE X (.Dict keys values pos) (Pz Im):=⟨Sx h.out Lo hl h0 hV⟩
theorem Ap:SB X [] Mc:=⟨Md⟩
variable {st:Stmt}{oi:List Stmt}{ts tu:TS}
theorem A4 (h1:SS X st ts)(h2:SB X oi tu):SB X (st::oi) (Bp ts tu):=⟨ES h1.out h2.out⟩
theorem Ab (h1:SS X st ts):SB X [st] ts:=⟨Ge h1.out⟩
theorem Dx (he:SE X e te)(hs:swapsWith e none pos.line X.env=pure false:=by rfl):SS X (.Expr e pos) (Me te):=⟨S1 he.out hs⟩
theorem Ag (he:SE X e te):SS X (.Return (some e) pos) (S3 te):=⟨IS he.out⟩
theorem AB {a b:List Stmt}(hc:ST X c tA)(ha:SB X a ts)(hb:SB X b tu):SS X (.If c a b pos) (OO tA ts tu):=⟨Uy hc.out ha.out hb.out⟩
theorem Ah {i:Nat}{pos':Pos}(hN:X.N.Nodup)(hi:X.N[i]?=some x)(hx:Loc X.env.scope x)(he:SE X e te)(hs:swapsWith e (some (.Name x pos')) pos.line X.env=pure false:=by rfl)(hf:X.fn x=true\/X.env.scope.names.lookup x=some .local:=by exfalso):
  SS X (.Assign [.Name x pos'] e pos) (L9 te (BP i)):=⟨La hN hi hx he.out hs hf⟩
theorem Mz {body:List Stmt}(hp:PassesOwn (model X.prog X.w) X.A X.env X.xe)(hc:ST X c tA)(hb:SB X body ts):SS X (.While c body [] pos) (OU tA ts):=⟨OV hp hc.out hb.out⟩
variable {tg iter:Expr}{wi:TI}{g:TG}
theorem FV {body:List Stmt}(hp:PassesOwn (model X.prog X.w) X.A X.env X.xe)(hc:X.calm=true)(hi:SI X tg iter wi)(hg:SG X tg g)(hb:SB X body ts)(hs:∀ x,foldedSetIterable iter X.env x=pure x:=by intro _;rfl):SS X (.For tg iter body [] pos) (VY wi g ts):=⟨VZ hp hc hi.out hg.out hb.out hs⟩
theorem EC (hl:SE X e te):SI X tg e (Mh X.K te):=⟨S7 hl.out⟩
theorem JU (hl:SE X e te):SI X tg e (VW X.K te):=⟨VX hl.out⟩
theorem F1 {ta:TA}(hg:Gl X "range")(hm:X.mg "range"=none)(ha:SA X [a] ta)(hs:starEach [a] X.env=[(false,eval a X.env)]:=by rfl):SI X tg (.Call (.Name "range" p) [a] [] pos) (OW ta):=⟨Nj hg hm ha.out hs⟩
theorem PZ {ta:TA}(hg:Gl X "range")(hm:X.mg "range"=none)(ha:SA X [a,b] ta)(hs:starEach [a,b] X.env=[(false,eval a X.env),(false,eval b X.env)]:=by rfl)(UB:starEach [b] X.env=[(false,eval b X.env)]:=by rfl):SI X tg (.Call (.Name "range" p) [a,b] [] pos) (UA ta):=⟨Nk hg hm ha.out hs UB⟩
theorem UM {ta:TA}(hg:Gl X "reversed")(hm:X.mg "reversed"=none)(ha:SA X [a] ta)(hs:starEach [a] X.env=[(false,eval a X.env)]:=by rfl):SI X tg (.Call (.Name "reversed" p) [a] [] pos) (Wn X.K ta):=⟨Wo hg hm ha.out hs⟩
theorem AV {i:Nat}(hN:X.N.Nodup)(hi:X.N[i]?=some x)(hx:Loc X.env.scope x)(hf:X.fn x=true\/X.env.scope.names.lookup x=some .local:=by exfalso):SG X (.Name x pos) (BP i):=⟨S4 hN hi hx hf⟩
theorem Ep:SF X [] GU:=⟨SM⟩
theorem UN (h:ST X c tA):SF X [c] tA:=⟨SN h.out⟩
variable {scope:Scope}{cl:List (Str × Addr)}{own fr:List Str}{js:List Nat}{elt:Expr}{ifs:List Expr}{tt:TT}
theorem ED (S:AZ X scope cl own fr js)(En:X.calm=true)(hi:SI X tg iter wi)(hg:∀ C s0 H0 ex,SG (X.cmp scope cl own fr C s0 H0 ex) tg g)(ht:∀ C s0 H0 ex,SF (X.cmp scope cl own fr C s0 H0 ex) ifs tt)(he:∀ C s0 H0 ex,SE (X.cmp scope cl own fr C s0 H0 ex) elt te)
  (hs:∀ x,foldedSetIterable iter X.env x=pure x:=by intro _;rfl):SE X (.ListComp elt [⟨tg,iter,ifs,0⟩] scope pos) (Mu own js wi g tt te):=⟨SR S En hi.out (λC s0 H0 ex=>(hg C s0 H0 ex).out) (λC s0 H0 ex=>(ht C s0 H0 ex).out) (λC s0 H0 ex=>(he C s0 H0 ex).out) hs⟩
end
section
variable {P:Program}{w:World}{K:W.Frag}{mg:Str->Option Value}{base:Heap}
theorem C8.okS {x qual:Str}{st:Stmt}{f:Addr}{fd:FuncData}{N ps:List Str}{k:Nat}{sp:Sp}(F:C8 K x qual st f fd)(S:Am N ps (A6 st))(EU:∀ (B9:Value) (A:Around) (outer:List Env) (s:Shared) (H:Hp) (vs:List V) (Q:VK) (E:XK),AG k (A.deeper (envOfC qual (A6 st) s.heap.objs.size f B9))->sp vs H Q E ->
   ∃ t,SB (BQ Bs P w K mg base N qual (A6 st) f B9 A outer s H E).nox (AU st) t/\t { nx:=λ_ H'=>Q .non H',rt:=Q } (start N vs) H) (len:∀ vs H Q E,sp vs H Q E->vs.length=ps.length:=by intro vs H Q E h;repeat (first | (obtain ⟨rfl,_⟩:=h;rfl) | obtain ⟨_,h⟩:=h)):Av P w K mg base Bs (k+1) f fd ps sp :=
 F.ok S len λB9 A outer s H vs Q E hr h=>let ⟨t,h1,h2⟩:=EU B9 A outer s H vs Q E hr h;⟨t,h1.out,h2⟩
end
end L2
namespace L2
open PySem PySem.Spec PyProof.Rows
section
variable {X:Cx}{pins:List (Addr × Obj)}{σ:List (Option V)}{H H':Hp}{s:Shared}{h':Heap}
theorem Inv.abw {g':Array GenState}{t':Nat}{d':Drawn}{ch:List Addr}(I:Inv X pins σ H s)
  (KU:∀ b∈ch,(b∈X.ex\/X.s₀.heap.get? b=none)/\b≠X.env.locals/\(∀ x c,X.env.cells.lookup x=some c->c≠b)/\∀ p∈X.pn++pins,p.1≠b)
  (keep:∀ b o,b≠X.env.locals->b∉X.fs->b∉ch->s.heap.get? b=some o->H b=none->h'.get? b=some o)
  (slot:∀ b o,b≠X.env.locals->b∈X.fs->b∉ch->s.heap.get? b=some o->H b=none->∃ sl,h'.get? b=some { o with slots:=sl }) (free:∀ b o,b∉ch->s.heap.get? b=some o->H b=none->H' b=none)
  (there:∀ b o,b∉ch->s.heap.get? b=some o->∃ o',h'.get? b=some o')
  (aa1:∀ b xs,H b=some (.tup xs)->H' b=some (.tup xs)) (aaz:∀ b o u,H b=some (.frz o u)->H' b=some (.frz o u)) (aa0:∀ b ps,H b=some (.tbl ps)->∃ more,H' b=some (.tbl (ps++more)))
  (ns:∀ m,s.heap.Ns X.env.locals m->h'.Ns X.env.locals m) (hok:Di X.prog X.w H' h') (hg:AllBare g') :
  Inv X pins σ H' { s with heap:=h',gens:=g',drawn:=d',toks:=t' }:=by
 have Zn:∀ b o,X.s₀.heap.get? b=some o->b≠X.env.locals:=λb o e=>Nat.ne_of_lt (Nat.lt_of_lt_of_le (Heap.lt_size e) I.ok.above);have RY:∀ b o,X.s₀.heap.get? b=some o->b∉X.ex->b∉ch:=λb o e hx hb=>by
  rcases (KU b hb).1 with z | z
  ·exact hx z
  ·rw [e] at z;cases z
 have cellK:∀ x c,X.env.cells.lookup x=some c->∀ v,s.heap.IsCell c v->h'.IsCell c v:=λx c e v ⟨o,ho,hd⟩=>by
  have OI:c∉ch:=λz=>(KU c z).2.2.1 x c e rfl;by_cases hc:c∈X.fs
  ·obtain ⟨sl,q⟩:=slot c o (I.cne x c e) hc OI ho (I.aaf x c e);exact ⟨_,q,hd⟩
  ·exact ⟨o,keep c o (I.cne x c e) hc OI ho (I.aaf x c e),hd⟩
 refine ⟨I.ok,I.os,hg,⟨λb o e n hb hx=>?_,λb o e n hb hx=>?_,λb o e n hx=>?_,λb o e hx=>?_,λb xs e=>aa1 b xs (I.base.aa1 b xs e),λb o xs e=>aaz b o xs (I.base.aaz b o xs e),λb ps e=>?_⟩,?_,λx c e=>?_,?_,λx c e=>?_,λp hp=>?_,hok,I.len⟩
 ·exact keep b o (Zn b o e) hb (RY b o e hx) (I.base.keep b o e n hb hx) (I.base.free b o e n hx)
 ·obtain ⟨sl,e1⟩:=I.base.slot b o e n hb hx;obtain ⟨gB,e2⟩:=slot b _ (Zn b o e) hb (RY b o e hx) e1 (I.base.free b o e n hx);exact ⟨gB,e2⟩
 ·obtain ⟨o',e1⟩:=I.base.there b o e hx;exact free b o' (RY b o e hx) e1 (I.base.free b o e n hx)
 ·obtain ⟨o',e1⟩:=I.base.there b o e hx;exact there b o' (RY b o e hx) e1
 ·obtain ⟨m1,e1⟩:=I.base.aa0 b ps e;obtain ⟨m2,e2⟩:=aa0 b _ e1;exact ⟨m1++m2,by rw [e2,Array.append_assoc]⟩
 ·obtain ⟨m,hn,hl⟩:=I.loc;refine ⟨m,ns m hn,λi x v e1 e2 e3=>?_⟩;obtain ⟨u,r,l⟩:=hl i x v e1 e2 e3;refine ⟨u,r,?_⟩;rcases l with l | ⟨k,c,e,z⟩
  ·exact .inl l
  ·exact .inr ⟨k,c,e,cellK x c e _ z⟩
 ·obtain ⟨v,z⟩:=I.cell x c e;exact ⟨v,cellK x c e v z⟩
 ·obtain ⟨m,⟨o,_,_,ho,_⟩,_⟩:=I.loc;exact free _ o (λz=>(KU _ z).2.1 rfl) ho I.free
 ·obtain ⟨v,o,ho,hd⟩:=I.cell x c e;exact free c o (λz=>(KU c z).2.2.1 x c e rfl) ho (I.aaf x c e)
 ·obtain ⟨e,n,ne,nf,d⟩:=I.pin p hp;have OI:p.1∉ch:=λz=>(KU p.1 z).2.2.2 p hp rfl;exact ⟨keep p.1 p.2 ne nf OI e n,free p.1 p.2 OI e n,ne,nf,d⟩
end
open Classical in
theorem Inv.abp {X:Cx}{σ:St}{H:Hp}{s:Shared}{h':Heap}{t':Nat}(rY:X.pn=[])(I:Inv X [] σ H s)(nk:NK (FO X.stack) X.s₀.heap H s.heap h'):Inv X [] σ H { s with heap:=h',toks:=t' }:=by
 have mem:∀ b,b∈(List.range s.heap.objs.size).filter (λb=>decide (Dw X.s₀.heap H s.heap b))↔Dw X.s₀.heap H s.heap b:=λb=>by
  rw [List.mem_filter,List.mem_range,decide_eq_true_iff];exact ⟨λz=>z.2,λz=>⟨let ⟨_,_,o,_,e,_⟩:=z;Heap.lt_size e,z⟩⟩
 have sub:=I.aao;have RD:∀ b u,H b=some u->∀ o,s.heap.get? b=some o->h'.get? b=some o:=λb u e o q=>nk.keep b o q (λz=>by rw [I.aas b z] at e;cases e) (λz=>by rw [z.2.1] at e;cases e);refine I.abw (g':=s.gens) (d':=s.drawn) (ch:=(List.range s.heap.objs.size).filter (λb=>decide (Dw X.s₀.heap H s.heap b))) (λb hb=>?_) (λb o hL hb hc e n=>?_) (λb o hL hb hc e n=>?_) (λ_ _ _ _ n=>n) (λb o _ e=>nk.there b o e) (λ_ _ e=>e) (λ_ _ _ e=>e) (λb ps e=>⟨#[],by rw [e];simp⟩) (λm hm=>?_) (λb u e=>?_) I.bare
 ·obtain ⟨z1,z2,o,vs,e,d⟩:=(mem b).mp hb;refine ⟨.inr z1,λz=>?_,λx c hx z=>?_,λp hp=>by rw [rY] at hp;cases hp⟩
  ·obtain ⟨m,⟨o',es,ep,e',d',_⟩,_⟩:=I.loc;rw [<- z,e] at e';cases e';rw [d] at d';cases d'
  ·obtain ⟨v,o',e',d'⟩:=I.cell x c hx;rw [z,e] at e';cases e';rw [d] at d';cases d'
 ·refine nk.keep b o e (λz=>?_) λz=>hc ((mem b).mpr z);rcases List.mem_cons.mp (sub b z) with z | z
  ·exact hL z
  ·exact hb z
 ·by_cases z:∃ vs,o.data=.fields vs
  ·obtain ⟨vs,d⟩:=z;obtain ⟨_,o',e',nd⟩:=I.aa6.mem hb;rw [e] at e';cases e';exact absurd d (nd vs)
  ·exact nk.slot b o e λvs d=>z ⟨vs,d⟩
 ·obtain ⟨o,es,ep,e,d,r⟩:=hm;obtain ⟨sl,e'⟩:=nk.slot _ o e λvs z=>by rw [d] at z;cases z
  exact ⟨_,es,ep,e',d,r⟩
 ·refine (I.hok b u e).abb (λc v hc q=>?_) (λ_ q=>q) λ_ _ q=>q;rcases hc with z | z
  ·subst z;exact RD c u e v q
  ·exact RD c _ z v q
structure Body (X:Cx):Prop where
 stk:X.stack=X.env::X.outer
 frm:X.env.frame=some X.env.locals
 pn:X.pn=[]
 ex:X.ex=[]
noncomputable def Iv (X:Cx)(E:XK)(e:Value)(s':Shared):Prop:=∃ σ H' a cls z dz,e=.ref a/\Inv X [] σ H' s'/\Fl X.s₀.heap H' a cls s'.heap z dz true/\E cls dz H'
section
variable {X:Cx}{E:XK}
theorem Iw (B:Body X){σ:St}{H:Hp}{s:Shared}{a:Addr}{cls:Value}{z:Option Value}{dz:Option Addr}{c:Bool}{Q:Unit->Shared->Prop}{E':Value->Shared->Prop}{M:Model}{A:Around}(hA:A.frames=some X.stack)(I:Inv X [] σ H s)(fl:Fl X.s₀.heap H a cls s.heap z dz c)
  (h:∀ h',Inv X [] σ H { s with heap:=h',toks:=s.toks }->NK (FO X.stack) X.s₀.heap H s.heap h'->Fl X.s₀.heap H a cls h' (some (rawInt X.env.locals)) dz c->Q .unit { s with heap:=h' }):wpAny M A (noteFrame (.ref a) X.env) Q E' s:=by
 have fr:=I.stack;rw [B.stk] at fr hA;refine My hA fr B.frm (λb hb=>Heap.get?_none_of_le (Nat.le_trans I.sz hb)) (λb hb=>I.hok.fresh hb) fl λh' nk rZ=>?_;rw [<- B.stk] at nk;exact h h' (I.abp B.pn nk) nk rZ
theorem NM (B:Body X):PassesOwn (model X.prog X.w) X.A X.env (Iv X E):=by
 rintro e s' ⟨σ,H',a,cls,z,dz,rfl,I,fl,q⟩;refine Iw B I.ok.frames I fl λh1 I1 eh Yy=>?_;unfold cameBackBy;obtain ⟨_,_,oe,vs,he,_,hd,_,_,_,T,oT,ts,ZU,_⟩:=id Yy;refine wpAny_bind (wpAny_field (s:={ s' with heap:=h1 }) he hd ZU ?_);rw [if_neg (by intro z;simp at z)];refine Ei (s:={ s' with heap:=h1 }) (env:=X.env) (outer:=X.outer) Yy λh2 Ww Yz=>?_;rw [<- B.stk] at Ww;exact ⟨σ,H',a,cls,_,dz,rfl,I1.abp (t':=s'.toks) B.pn Ww,Yz,q⟩
end
noncomputable def FW (P:Program)(w:World):KW:=λouter H s E e s'=>∃ H' a cls z dz,e=.ref a/\s'.os=s.os/\AllBare s'.gens/\Un (FO outer) [] H H' s.heap s'.heap/\Di P w H' s'.heap/\Fl s.heap H' a cls s'.heap z dz true/\E cls dz H'
theorem Fl.mono {n0 n1:Heap}{H:Hp}{a:Addr}{cls:Value}{h:Heap}{z:Option Value}{dz:Option Addr}{c:Bool}(hn:∀ b,n0.get? b=none->n1.get? b=none)(x:Fl n0 H a cls h z dz c):Fl n1 H a cls h z dz c:=by
 obtain ⟨h1,h2,oe,vs,e1,e2,e3,e4,e5,e6,h3⟩:=x;refine ⟨hn _ h1,h2,oe,vs,e1,e2,e3,e4,e5,e6,?_⟩;cases z with
 | none=>exact h3
 | some z =>
  obtain ⟨T,oT,ts,g1,g2,g3⟩:=h3;exact ⟨T,oT,ts,g1,hn _ g2,g3⟩
theorem ZV {X:Cx}{E:XK}{E':Value->Shared->Prop}(B:Body X)(h:∀ e s',Iv X E e s'->E' e s'):Passes (FW X.prog X.w) (X.aar E') E:=by
 intro pins σ H s e s' I q;obtain ⟨H',a,cls,z,dz,rfl,os,bare,un,hok,fl,q⟩:=q;have I0:Inv X pins σ H s:=I.aad;refine h _ _ ⟨σ,H',a,cls,z,dz,rfl,?_,fl.mono (λb z=>?_),q⟩
 rotate_left
 ·cases e:X.s₀.heap.get? b with
  | none=>rfl
  | some o =>
   obtain ⟨o',e'⟩:=I0.base.there b o e (by rw [B.ex];simp);rw [z] at e';cases e'
 obtain ⟨hh,g,d,t,W8⟩:=s';obtain rfl:W8=s.os:=os;have I1:Inv X pins σ H' { s with heap:=hh,gens:=g,drawn:=d,toks:=t }:=I0.call (ch:=[]) un hok bare (λb z=>absurd z (by simp));exact I1.aaj λp hp=>absurd hp (by simp)
theorem D0 {CX:KW}{P:Program}{w:World}{K:W.Frag}{mg:Str->Option Value}{base:Heap}{N:List Str}{qual:Str}{scope:Scope}{f:Addr}{cd:Value}{A:Around}{outer:List Env}{s:Shared}{H:Hp}{E:XK}:Body (BQ CX P w K mg base N qual scope f cd A outer s H E):=⟨rfl,rfl,rfl,rfl⟩
theorem Lw {P:Program}{w:World}{K:W.Frag}{mg:Str->Option Value}{base:Heap}{N:List Str}{qual:Str}{scope:Scope}{f:Addr}{cd:Value}{A:Around}{outer:List Env}{s:Shared}{H:Hp}{E:XK}{e:Value}{s':Shared}
  (h:Iv (BQ (FW P w) P w K mg base N qual scope f cd A outer s H E) E e s'):(BQ (FW P w) P w K mg base N qual scope f cd A outer s H E).xe e s':=by
 obtain ⟨σ,H',a,cls,z,dz,rfl,I,fl,q⟩:=h;show wpAny _ _ (leaving _ (.ref a)) _ _ s';unfold leaving;refine wpAny_bind (Iw (X:=BQ (FW P w) P w K mg base N qual scope f cd A outer s H E) D0 I.ok.frames I fl λh1 I1 eh Yy=>?_);refine Ei (s:={ s' with heap:=h1 }) (env:=envOfC qual scope s.heap.objs.size f cd) (outer:=outer) Yy λh2 Ww Yz=>?_;have I2:=I1.abp (t':=s'.toks) rfl Ww;exact ⟨H',a,cls,_,dz,rfl,I2.os,I2.bare,I2.base,I2.hok,Yz,q⟩
section
variable {P:Program}{w:World}{K:W.Frag}{mg:Str->Option Value}{base:Heap}
abbrev Wx (P:Program)(w:World)(K:W.Frag)(mg:Str->Option Value)(base:Heap)(N:List Str)(qual:Str)(scope:Scope)(f:Addr)(cd:Value)(A:Around)(outer:List Env)(s:Shared)(H:Hp)(E:XK):Cx :=
 (BQ (FW P w) P w K mg base N qual scope f cd A outer s H E).aar (Iv (BQ (FW P w) P w K mg base N qual scope f cd A outer s H E) E)
theorem C8.okX {x qual:Str}{st:Stmt}{f:Addr}{fd:FuncData}{N ps:List Str}{k:Nat}{sp:Sp}(F:C8 K x qual st f fd)(S:Am N ps (A6 st))(len:∀ vs H Q E,sp vs H Q E->vs.length=ps.length)
  (EU:∀ (B9:Value) (A:Around) (outer:List Env) (s:Shared) (H:Hp) (vs:List V) (Q:VK) (E:XK),AG k (A.deeper (envOfC qual (A6 st) s.heap.objs.size f B9))->sp vs H Q E ->
   ∃ t,SB (Wx P w K mg base N qual (A6 st) f B9 A outer s H E) (AU st) t/\t { nx:=λ_ H'=>Q .non H',rt:=Q } (start N vs) H):Av P w K mg base (FW P w) (k+1) f fd ps sp:=by
 obtain ⟨oc,od,kV,doc,pm,an,B9,ct,Ot,rfl,lk,Gy⟩:=F.ex;refine Pc lk Gy S len λA outer s H vs Q E hr Ou=>?_;obtain ⟨t,h,q⟩:=EU B9 A outer s H vs Q E hr Ou;refine ⟨t,λpins s1 σ H1 D I hw=>?_,q⟩;exact wpAny_mono (h.out pins s1 σ H1 D (I.aar _) hw) (λ_ _ q=>q.aad) λe s' z=>Lw z
end
section
variable {X:Cx}{k:Nat}{f C:Addr}{fd:FuncData}{ps:List Str}{sp:Sp}{x m:Str}{E:XK}{e o:Expr}{es:List Expr}{t:TA}{ta:TE}{p pos apos:Pos}
theorem T4 (F:Av X.prog X.w X.K X.mg X.base (FW X.prog X.w) k f fd ps sp)(hx:Passes (FW X.prog X.w) X E)(hr:AG k X.A)(hg:Gl X x)(hm:X.mg x=some (.ref f))(hk:W.keepIn X.K (.ref f)=true)(hb:Binds X.K fd ps [])(ha:SA X (e::es) t)(CW:(x==("__debug__":Str))=false:=by decide)
  (he:starEach (e::es) X.env=(false,eval e X.env)::starEach es X.env:=by exfalso) (Ci:(backTo pos (starEach es X.env)).any (·.1)=false:=by rfl) :
  SE X (.Call (.Name x p) (e::es) [] pos) (CV sp [] E t):=⟨IT F hr hg hm hk hb .nil hx ha.out CW he Ci⟩
end
open PySem.W (excIn tailIn nsOkIn isNs_of_in nsMap_none_of_in tail_of_in)
theorem NN {K:W.Frag}{h:Heap}{C:Addr}{Fm:List Value}{newId:String}(X:K.In h)(q:excIn K C Fm newId=true):
  ∃ (nm qn:Str) (N:Addr) (bs bm:List Value) (hdct:Bool) (sn:List Str) (sub:List Value) (ab:Bool) (col:Option Bool) (dd:Option Addr) (k0 k1 k2 k3 k5:Option Value) (mN:Str->Option Value),
   h.get? C=some (excClassObj nm qn C N bs bm hdct sn sub ab col dd k0 k1 k2 k3 k5 newId)/\h.Ns N mN/\mN "__init__"=none/\OwnTail h Fm bm:=by
 unfold excIn at q;split at q
 ·rename_i dd cd sl ho;split at q
  ·rename_i C' bm k0 k1 k2 k3 n k5 hm hs;simp only [Bool.and_eq_true,beq_iff_eq,Bool.not_eq_true'] at q;obtain ⟨⟨⟨⟨⟨rfl,rfl⟩,P'⟩,ht⟩,hok⟩,YA⟩:=q;obtain ⟨nm,bs,mro,ns,qn,hd,sn,sub,ab,col,del⟩:=cd;dsimp only at hm P' hok YA;subst hm P';have iy:sl=#[k0,k1,k2,k3,some (.builtin n),k5]:=by
    obtain ⟨l⟩:=sl;simp only at hs;rw [hs]
   subst iy;exact ⟨nm,qn,ns,bs,bm,hd,sn,sub,ab,col,dd,k0,k1,k2,k3,k5,_,X _ _ ho,.of_isNs (isNs_of_in X hok),nsMap_none_of_in X hok YA,tail_of_in X ht⟩
  ·cases q
 ·cases q
theorem JV {P:Program}{w:World}{H:Hp}{h:Heap}{a:Addr}{o:HO}(x:AN P w H h a o):∃ ob,h.get? a=some ob:=by
 cases o with
 | lst xs=>obtain ⟨_,_,_,_,e⟩:=x;exact ⟨_,e⟩
 | tup xs=>obtain ⟨_,_,_,o,e,_⟩:=x;exact ⟨o,e⟩
 | dK Ai=>obtain ⟨_,_,_,_,o,_,_,e,_⟩:=x;exact ⟨o,e⟩
 | dT Ai=>obtain ⟨_,_,_,_,o,_,_,e,_⟩:=x;exact ⟨o,e⟩
 | set S n=>obtain ⟨o,_,_,_,e,_⟩:=x;exact ⟨o,e⟩
 | ins C dx fs=>obtain ⟨_,_,_,e,_⟩:=x;exact ⟨_,e⟩
 | own y=>obtain ⟨o,e⟩:=x;exact ⟨o,e⟩
 | xd fs=>obtain ⟨_,⟨o,_,_,e,_⟩,_⟩:=x;exact ⟨o,e⟩
 | rng lo hi=>obtain ⟨_,_,_,e⟩:=x;exact ⟨_,e⟩
 | frz ob u=>obtain ⟨e,_⟩:=x;exact ⟨_,e⟩
 | tbl ps=>exact ⟨_,(show h.get? a=some _ from x)⟩
 | met f y=>exact ⟨_,(show h.get? a=some _ from x)⟩
 | ext φ=>obtain ⟨_,⟨o,e⟩,_⟩:=x;exact ⟨o,e⟩
noncomputable def Lx (C:Addr)(E:XK)(t:TA):TS:=λ_ σ H=>t σ H λvs H1=>vs.length<=1000/\E (.ref C) none H1
section
variable {X:Cx}{E:XK}{E':Value->Shared->Prop}
theorem Q0 {C:Addr}{Fm:List Value}{newId De Bn:String}{x:Str}{np B6 pos:Pos}{e:Expr}{es:List Expr}{t:TA}(B:Body X)(hE:∀ e s',Iv X E e s'->E' e s')(hg:Gl X x)(hm:X.mg x=some (.ref C))(hq:excIn X.K C Fm newId=true)(F:ExcBaseFacts Bn newId De Fm)(hc:X.calm=true)
  (ha:PA (X.aar E') (e::es) t) (CW:(x==("__debug__":Str))=false:=by decide) (he:starEach (e::es) X.env=(false,eval e X.env)::starEach es X.env:=by rfl) (Ci:(backTo B6 (starEach (e::es) X.env)).any (·.1)=false:=by rfl) :
  PS (X.aar E') (.Raise (some (.Call (.Name x np) (e::es) [] B6)) none pos) (Lx C E t):=by
 intro pins s σ H D I h;obtain ⟨nm,qn,N,bs,bm,hdct,sn,sub,ab,col,dd,k0,k1,k2,k3,k5,mN,hC,hN,YA,hT⟩:=NN I.ok.mod.kin hq;refine wpAny_Raise_call_subT (C:=C) (nm:=nm) (q:=qn) (N:=N) (bs:=bs) (bm:=bm) (hdct:=hdct) (sn:=sn) (sub:=sub) (ab:=ab) (col:=col) (dd:=dd) (k0:=k0) (k1:=k1) (k2:=k2) (k3:=k3) (k5:=k5) F (mN:=mN) (hT.hasType F.hasBase) (I.ok.hd hc) Ci YA
  (ER I hg hm ⟨rfl,?_⟩ CW)
 have h0:=ha B6 pins s σ H _ I h;have e0:backTo B6 (starEach (e::es) X.env)=(false,eval e X.env)::backTo B6 (starEach es X.env):=by rw [he];rfl
 rw [show (X.aar E').env=X.env from rfl,e0] at h0;rw [show (X.aar E').env=X.env from rfl,e0];refine Calls.evalArgs_plain (AX h0 λus s1 q1=>?_);obtain ⟨vs,H1,I1,r1,hlen,q⟩:=q1;have hl:=r1.length;have hb:=sizeLine_eq;have kIn:∀ b o,X.base.get? b=some o->s1.heap.get? b=some o:=I1.bk;refine ⟨rfl,by show us.length<=sizeLine;omega,kIn _ _ hC,hN.keeps kIn,hT.keeps kIn,λh' a hx=>hE _ _ ?_⟩;obtain ⟨t0,YB,oj,er⟩:=hx.there;have I2:Inv (X.aar E') pins σ H1 { s1 with heap:=h',toks:=s1.toks }:=I1.kept hx.keeps;have I3:Inv X [] σ H1 { s1 with heap:=h',toks:=s1.toks }:=I2.aad.aaj λp hp=>absurd hp (by simp);have un:H1 a=none:=by
  cases z:H1 a with
  | none=>rfl
  | some u =>
   obtain ⟨ob,eo⟩:∃ ob,s1.heap.get? a=some ob:=by
    have lt:=(I1.hok a u z);exact JV lt
   rw [hx.new] at eo;cases eo
 refine ⟨σ,H1,a,.ref C,none,none,rfl,I3,⟨?_,un,_,_,YB,rfl,rfl,by simp,rfl,λ_=>rfl,rfl⟩,q⟩;cases e0:X.s₀.heap.get? a with
 | none=>rfl
 | some o =>
  obtain ⟨o',e1⟩:=I1.aad.base.there a o e0 (by rw [B.ex];simp);rw [hx.new] at e1;cases e1
end
end L2
namespace L2
open PySem PySem.Spec PyProof.Rows
open PySem.W (excIn)
structure Wy (X:Cx)(pins:List (Addr × Obj))(h0:Heap):Prop where
 pin:∀ p∈X.pn++pins,∃ o,h0.get? p.1=some o
 ent:∀ b,h0.get? b=none->X.s₀.heap.get? b=none
theorem Inv.ab6 {X:Cx}{pins:List (Addr × Obj)}{σ:St}{H:Hp}{s:Shared}(hx:X.ex=[])(I:Inv X pins σ H s):Wy X pins s.heap:=⟨λp hp=>⟨_,(I.pin p hp).1⟩,λb z=>by
 cases e:X.s₀.heap.get? b with
 | none=>rfl
 | some o =>
  obtain ⟨o',e'⟩:=I.base.there b o e (by rw [hx];simp);rw [z] at e';cases e'⟩
noncomputable def XP (X:Cx)(pins:List (Addr × Obj))(σ:St)(E:XK)(ex:Value)(s':Shared):Prop:=∃ h0 H' a cls z dz,ex=.ref a/\Inv X pins σ H' s'/\Wy X pins h0/\Fl h0 H' a cls s'.heap z dz true/\(∀ b o,h0.get? b=some o->∃ o',s'.heap.get? b=some o')/\E cls dz H'
noncomputable def iz (X:Cx)(e:Expr)(t:XK->TE):Prop :=
 ∀ (E:XK) (pins:List (Addr × Obj)) (s:Shared) (σ:St) (H:Hp) (Q:VK),Inv X pins σ H s->t E σ H Q->wpAny (model X.prog X.w) X.A (eval e X.env) (EP X pins σ Q) (XP X pins σ E) s
structure om (X:Cx)(e:Expr)(t:XK->TE):Prop where out:iz X e t
section
variable {X:Cx}{k:Nat}{f:Addr}{fd:FuncData}{ps:List Str}{sp:Sp}{x:Str}{e:Expr}{es:List Expr}{t:TA}{p pos:Pos}
theorem Q5 (hex:X.ex=[])(F:Av X.prog X.w X.K X.mg X.base (FW X.prog X.w) k f fd ps sp)(hr:AG k X.A)(hg:Gl X x)(hm:X.mg x=some (.ref f))(hk:W.keepIn X.K (.ref f)=true)(hb:Binds X.K fd ps [])
  (ha:PA X.nox (e::es) t) (CW:(x==("__debug__":Str))=false:=by decide) (he:starEach (e::es) X.env=(false,eval e X.env)::starEach es X.env:=by rfl) (Ci:(backTo pos (starEach es X.env)).any (·.1)=false:=by rfl) :
  iz X (.Call (.Name x p) (e::es) [] pos) (λE=>CV sp [] E t):=by
 intro E pins s σ H Q I h;refine wpAny_Call_Name_kw (ER I hg hm ?_ CW);have h0:=ha pos pins s σ H _ (I.aar _) h;refine W.callWith_K (h₀:=X.base) I.ok.mod.kin hk (wpAny_mono h0 (λus s1 q1=>?_) λ_ _ z=>z.elim) he Ci;obtain ⟨vs,H1,I1,r1,q⟩:=q1;have I1:=I1.aad;refine ⟨I1.kIn,?_⟩;have hl:us.length=ps.length:=by rw [<- r1.length];have:=F.len _ _ _ _ q;simpa using this
 have hz:us++[]=us:=List.append_nil us;have Mw:=hb s1 us I1.kIn (by rw [hz];exact hl);rw [hz] at Mw;rw [show vs++[]=vs from List.append_nil vs] at q;show wpAny _ _ (call (.ref f) ([]++us)) _ _ _;refine wpAny_call (codeAny_mono (F.run X.A X.stack s1 H1 ⟨us,[]⟩ us vs Q E hr I1.ab1 Mw r1 q) λr s' hq=>?_);cases r with
 | ok fl =>
  cases fl with
  | ret u=>exact I1.after hq
  | next=>exact False.elim hq
  | brk=>exact False.elim hq
  | cont=>exact False.elim hq
 | error ex =>
  obtain ⟨H',a,cls,z,dz,rfl,os,bare,un,hok,fl,qq⟩:=hq;obtain ⟨hh,g,d,t',W8⟩:=s';obtain rfl:W8=s1.os:=os;exact ⟨s1.heap,H',a,cls,z,dz,rfl,I1.call (ch:=[]) un hok bare (λb z=>absurd z (by simp)),I1.ab6 hex,fl,λb o e=>un.there b o e (by simp),qq⟩
theorem T5 (hex:X.ex=[])(F:Av X.prog X.w X.K X.mg X.base (FW X.prog X.w) k f fd ps sp)(hr:AG k X.A)(hg:Gl X x)(hm:X.mg x=some (.ref f))(hk:W.keepIn X.K (.ref f)=true)(hb:Binds X.K fd ps [])
  (ha:SA X.nox (e::es) t) (CW:(x==("__debug__":Str))=false:=by decide) (he:starEach (e::es) X.env=(false,eval e X.env)::starEach es X.env:=by exfalso) (Ci:(backTo pos (starEach es X.env)).any (·.1)=false:=by rfl) :
  om X (.Call (.Name x p) (e::es) [] pos) (λE=>CV sp [] E t):=⟨Q5 hex F hr hg hm hk hb ha.out CW he Ci⟩
end
open Classical in
theorem Inv.abd {X:Cx}{pins:List (Addr × Obj)}{σ:St}{H:Hp}{s:Shared}{h0 h':Heap}{t':Nat}(R:Wy X pins h0)(I:Inv X pins σ H s)(nk:NK (FO X.stack) h0 H s.heap h'):Inv X pins σ H { s with heap:=h',toks:=t' }:=by
 have mem:∀ b,b∈(List.range s.heap.objs.size).filter (λb=>decide (Dw h0 H s.heap b))↔Dw h0 H s.heap b:=λb=>by
  rw [List.mem_filter,List.mem_range,decide_eq_true_iff];exact ⟨λz=>z.2,λz=>⟨let ⟨_,_,o,_,e,_⟩:=z;Heap.lt_size e,z⟩⟩
 have sub:=I.aao;have RD:∀ b u,H b=some u->∀ o,s.heap.get? b=some o->h'.get? b=some o:=λb u e o q=>nk.keep b o q (λz=>by rw [I.aas b z] at e;cases e) (λz=>by rw [z.2.1] at e;cases e);refine I.abw (g':=s.gens) (d':=s.drawn) (ch:=(List.range s.heap.objs.size).filter (λb=>decide (Dw h0 H s.heap b))) (λb hb=>?_) (λb o hL hb hc e n=>?_) (λb o hL hb hc e n=>?_) (λ_ _ _ _ n=>n) (λb o _ e=>nk.there b o e) (λ_ _ e=>e) (λ_ _ _ e=>e) (λb ps e=>⟨#[],by rw [e];simp⟩) (λm hm=>?_) (λb u e=>?_) I.bare
 ·obtain ⟨z1,z2,o,vs,e,d⟩:=(mem b).mp hb;refine ⟨.inr (R.ent b z1),λz=>?_,λx c hx z=>?_,λp hp z=>?_⟩
  ·obtain ⟨m,⟨o',es,ep,e',d',_⟩,_⟩:=I.loc;rw [<- z,e] at e';cases e';rw [d] at d';cases d'
  ·obtain ⟨v,o',e',d'⟩:=I.cell x c hx;rw [z,e] at e';cases e';rw [d] at d';cases d'
  ·obtain ⟨o',e'⟩:=R.pin p hp;rw [z,z1] at e';cases e'
 ·refine nk.keep b o e (λz=>?_) λz=>hc ((mem b).mpr z);rcases List.mem_cons.mp (sub b z) with z | z
  ·exact hL z
  ·exact hb z
 ·by_cases z:∃ vs,o.data=.fields vs
  ·obtain ⟨vs,d⟩:=z;obtain ⟨_,o',e',nd⟩:=I.aa6.mem hb;rw [e] at e';cases e';exact absurd d (nd vs)
  ·exact nk.slot b o e λvs d=>z ⟨vs,d⟩
 ·obtain ⟨o,es,ep,e,d,r⟩:=hm;obtain ⟨sl,e'⟩:=nk.slot _ o e λvs z=>by rw [d] at z;cases z
  exact ⟨_,es,ep,e',d,r⟩
 ·refine (I.hok b u e).abb (λc v hc q=>?_) (λ_ q=>q) λ_ _ q=>q;rcases hc with z | z
  ·subst z;exact RD c u e v q
  ·exact RD c _ z v q
noncomputable def Fv (a:Addr)(cls:Value):HO:=.ext λh=>∃ o,h.get? a=some o/\o.cls=cls
theorem Fv.ok {P:Program}{w:World}{H:Hp}{h:Heap}{a:Addr}{cls:Value}{o:Obj}(e:h.get? a=some o)(hc:o.cls=cls):AN P w H h a (Fv a cls):=⟨⟨o,e,hc⟩,⟨o,e⟩,λh1 h2 ⟨o',e',c'⟩ k=>⟨o',k o' e',c'⟩⟩
theorem Fv.get {P:Program}{w:World}{H:Hp}{h:Heap}{a:Addr}{cls:Value}(x:Di P w H h)(e:H a=some (Fv a cls)):∃ o,h.get? a=some o/\o.cls=cls:=(x a _ e).1
theorem Inv.aau {X:Cx}{pins:List (Addr × Obj)}{σ:St}{H:Hp}{s:Shared}{a:Addr}{o:HO}(I:Inv X pins σ H s)(hn:H a=none)(h0:X.s₀.heap.get? a=none)(hL:a≠X.env.locals)(hc:∀ x c,X.env.cells.lookup x=some c->c≠a)(hp:∀ p∈X.pn++pins,p.1≠a)
  (new:AN X.prog X.w (upd H a o) s.heap a o):Inv X pins σ (upd H a o) s:=by
 refine ⟨I.ok,I.os,I.bare,?_,I.loc,I.cell,by rw [Aj (Ne.symm hL)];exact I.free,λx c e=>by rw [Aj (hc x c e)];exact I.aaf x c e,λp q=>?_,I.hok.aau hn new,I.len⟩
 ·have u:=I.base;exact ⟨u.keep,u.slot,λb ob q n hx=>by
   have hb:b≠a:=λz=>(by rw [z,h0] at q;cases q);rw [Aj hb];exact u.free b ob q n hx,u.there,λb xs q=>by
   have z:=u.aa1 b xs q;rw [Aj (Ak z hn)];exact z,λb ob xs q=>by
   have z:=u.aaz b ob xs q;rw [Aj (Ak z hn)];exact z,λb ps q=>by
   obtain ⟨more,z⟩:=u.aa0 b ps q;exact ⟨more,by rw [Aj (Ak z hn)];exact z⟩⟩
 ·obtain ⟨e,n,r⟩:=I.pin p q;exact ⟨e,by rw [Aj (hp p q)];exact n,r⟩
theorem NO {X:Cx}{pins:List (Addr × Obj)}{σ:St}{H:Hp}{s:Shared}{M:Model}{A:Around}{E:Value->Shared->Prop}{i:Nat}{x:Str}{v:V}{Q:Unit->Shared->Prop}(I:Inv X pins σ H s)(hN:X.N.Nodup)(hi:X.N[i]?=some x)(hk:X.env.scope.names.lookup x=some .local)(hσ:σ[i]?=some (some v))
  (h:∀ s',Inv X pins (σ.set i none) H s'->Q .unit s'):wpAny M A (unbindName X.env x) Q E s:=by
 obtain ⟨m,hn,hl⟩:=id I.loc;have OJ:(X.env.scope.kind==.class || (X.env.scope.kind==.module && X.env.locals != X.env.globals))=false:=by rw [I.ok.kind];rfl
 have hiσ:i < σ.length:=by rw [I.len];exact (List.getElem?_eq_some_iff.mp hi).1
 obtain ⟨u0,_,lk⟩:=hl i x v hi hσ (.inl hk);have hv:m x=some u0:=by
  rcases lk with ⟨_,z⟩ | ⟨z,_⟩
  ·exact z
  ·have z':X.env.scope.names.lookup x=some .cell\/X.env.scope.names.lookup x=some .free:=z;rw [hk] at z';rcases z' with z' | z' <;> cases z'
 refine wpAny_unbindName_local hk hn hv OJ λh' u Yv hs=>?_;obtain ⟨oL,_,_,nT,_⟩:=id hn;have tracked:Di X.prog X.w H h':=λb ob e=>by
  refine (I.hok b ob e).abb (λc w' hc q=>(hs.2 c ?_).trans q) (λ_ q=>q) λ_ _ q=>q;rintro rfl;rcases hc with rfl | hc
  ·rw [I.free] at e;cases e
  ·rw [I.free] at hc;cases hc
 refine h _ ⟨I.ok,I.os,I.bare,⟨λb o e n hb hx=>?_,λb o e n hb hx=>?_,I.base.free,λb o e hx=>?_,I.base.aa1,I.base.aaz,I.base.aa0⟩,⟨_,Yv,λj y v' e1 e2 e3=>?_⟩,λy c e=>?_,I.free,I.aaf,λp hp=>?_,tracked,by simpa using I.len⟩
 ·exact (hs.2 b (Nat.ne_of_lt (Nat.lt_of_lt_of_le (Heap.lt_size e) I.ok.above))).trans (I.base.keep b o e n hb hx)
 ·obtain ⟨sl,e1⟩:=I.base.slot b o e n hb hx;exact ⟨sl,(hs.2 b (Nat.ne_of_lt (Nat.lt_of_lt_of_le (Heap.lt_size e) I.ok.above))).trans e1⟩
 ·obtain ⟨o',e1⟩:=I.base.there b o e hx;exact ⟨o',(hs.2 b (Nat.ne_of_lt (Nat.lt_of_lt_of_le (Heap.lt_size e) I.ok.above))).trans e1⟩
 ·by_cases hj:j=i
  ·subst hj;rw [List.getElem?_set_self hiσ] at e2;cases e2
  ·rw [List.getElem?_set_ne (Ne.symm hj)] at e2;obtain ⟨u',r',q⟩:=hl j y v' e1 e2 e3;refine ⟨u',r',?_⟩;rcases q with ⟨k,e⟩ | ⟨k,c,e,z⟩
   ·refine .inl ⟨k,?_⟩;have:y≠x:=λe=>hj (Gx hN e1 (e▸hi));simp [this,e]
   ·exact .inr ⟨k,c,e,z.sameBut hs (I.cne y c e)⟩
 ·obtain ⟨w',z⟩:=I.cell y c e;exact ⟨w',z.sameBut hs (I.cne y c e)⟩
 ·obtain ⟨e,n,ne,nf,d⟩:=I.pin p hp;exact ⟨(hs.2 p.1 ne).trans e,n,ne,nf,d⟩
end L2
namespace PySem
section
variable {M:Model}{A:Around}{E:Value->Shared->Prop}{nm q:Str}{C N:Addr}{bs bm:List Value}{hdct:Bool}{sn:List Str}{sub:List Value}{ab:Bool}{col:Option Bool}{dd:Option Addr}{k0 k1 k2 k3 k5:Option Value}{newId:String}
 {sf q2:Str} {C2 N2:Addr} {sr oq:List Value} {ZW:Bool} {su:List Str} {iA:List Value} {sv:Bool} {iB:Option Bool} {dN:Option Addr} {j0 j1 j2 j3 j5:Option Value} {Wz:String}
theorem GY {h:Heap}{g:Array GenState}{d:Drawn}{t:Nat}{os:OsState}{e:Addr}{oe:Obj}{Q:Bool->Shared->Prop}
  (hC:h.get? C=some (excClassObj nm q C N bs bm hdct sn sub ab col dd k0 k1 k2 k3 k5 newId)) (DS:bm.contains (.type "BaseException")=true)
  (iC:h.get? C2=some (excClassObj sf q2 C2 N2 sr oq ZW su iA sv iB dN j0 j1 j2 j3 j5 Wz)) (he:h.get? e=some oe) (OJ:oe.cls=.ref C2) (sy:(Value.ref C2::oq).contains (.ref C)=true)
  (hq:Q true ⟨h,g,d,t,os⟩):wpAny M A (excMatches (.ref e) (.ref C)) Q E ⟨h,g,d,t,os⟩:=by
 have ZX:(Value.ref C::bm).contains (.type "BaseException")=true:=by rw [List.contains_cons,DS,Bool.or_true]
 have f:=tc_notTuple;unfold excMatches
 repeat (first | (with_reducible refine wpAny_loadPart_at he ?_;rw [OJ]) | with_reducible refine wpAny_loadPart_at hC ?_ | (with_reducible refine wpAny_isSubtype_exc hC ?_;first | rw [ZX]) | (with_reducible refine wpAny_isSubtype_exc iC ?_;first | rw [sy]) | wp_step)
 exact hq
end
end PySem
namespace L2
open PySem PySem.Spec PyProof.Rows
open PySem.W (excIn tailIn nsOkIn isNs_of_in nsMap_none_of_in tail_of_in)
noncomputable def Q6 (K:W.Frag)(C:Addr):List Value:=match K.lookup C with
 | some ⟨_,_,.cls cd,_⟩=>cd.mro
 | _=>[]
theorem CF {K:W.Frag}{h:Heap}{C:Addr}{Fm:List Value}{newId:String}(X:K.In h)(q:excIn K C Fm newId=true):
  ∃ (nm qn:Str) (N:Addr) (bs bm:List Value) (hdct:Bool) (sn:List Str) (sub:List Value) (ab:Bool) (col:Option Bool) (dd:Option Addr) (k0 k1 k2 k3 k5:Option Value),
   h.get? C=some (excClassObj nm qn C N bs bm hdct sn sub ab col dd k0 k1 k2 k3 k5 newId)/\OwnTail h Fm bm/\Q6 K C=Value.ref C::bm:=by
 unfold excIn at q;split at q
 ·rename_i dd cd sl ho;split at q
  ·rename_i C' bm k0 k1 k2 k3 n k5 hm hs;simp only [Bool.and_eq_true,beq_iff_eq,Bool.not_eq_true'] at q;obtain ⟨⟨⟨⟨⟨rfl,rfl⟩,P'⟩,ht⟩,hok⟩,YA⟩:=q;obtain ⟨nm,bs,mro,ns,qn,hd,sn,sub,ab,col,del⟩:=cd;dsimp only at hm P' hok YA;subst hm P';have iy:sl=#[k0,k1,k2,k3,some (.builtin n),k5]:=by
    obtain ⟨l⟩:=sl;simp only at hs;rw [hs]
   subst iy;exact ⟨nm,qn,ns,bs,bm,hd,sn,sub,ab,col,dd,k0,k1,k2,k3,k5,X _ _ ho,tail_of_in X ht,by unfold Q6;rw [ho]⟩
  ·cases q
 ·cases q
abbrev Cx.aaw (X:Cx)(a:Addr):Cx:={ X with A:=X.A.mark (some (.ref a)),calm:=false,xe:=λ_ _=>False }
section
variable {X:Cx}{pins:List (Addr × Obj)}{σ:St}{H:Hp}{s:Shared}{a:Addr}
theorem Inv.aaw (I:Inv X pins σ H s)(a:Addr):Inv (X.aaw a) pins σ H s:=by
 obtain ⟨ok,r1,r2,r3,r4,r5,r6,r7,r8,r9,iD⟩:=I;exact ⟨⟨ok.mod,ok.kind,ok.glob,ok.blt,ok.above,ok.inj,ok.has,ok.cab,(λz=>by cases z),ok.frames,ok.stk,ok.exf,ok.bs,ok.bsz,ok.abr,ok.abt,ok.aa6,ok.frf⟩,r1,r2,r3,r4,r5,r6,r7,r8,r9,iD⟩
theorem Inv.abx (ok:X.Ok)(I:Inv (X.aaw a) pins σ H s):Inv X pins σ H s:=by
 obtain ⟨_,r1,r2,r3,r4,r5,r6,r7,r8,r9,iD⟩:=I;exact ⟨ok,r1,r2,r3,r4,r5,r6,r7,r8,r9,iD⟩
end
noncomputable def ZY (i j:Nat)(K:W.Frag)(C:Addr)(t:XK->TE)(ts:TS):TS:=λD σ H =>
 t (λcls _ H'=>∃ C2 bm newId,cls=.ref C2/\excIn K C2 bm newId=true/\(Q6 K C2).contains (.ref C)=true/\∀ a,H' a=none ->
   ts { nx:=fun σ' RL=>∃ v,σ'[j]?=some (some v)/\D.nx (σ'.set j none) RL,rt:=λ_ _=>False } (σ.set j (some (.ref a))) (upd H' a (Fv a cls))) σ H
  (λv H'=>D.nx (σ.set i (some v)) H')
section
variable {X:Cx}{i j:Nat}{x y n:Str}{C:Addr}{Fm:List Value}{newId:String}{e:Expr}{t:XK->TE}{b₀:Stmt}{JW:List Stmt}{ts:TS}{py apos np Fw pos:Pos}
theorem WA (B:Body X)(hN:X.N.Nodup)(hi:X.N[i]?=some y)(hy:Loc X.env.scope y)(hj:X.N[j]?=some n)(hn:X.env.scope.names.lookup n=some .local)(hg:Gl X x)(hm:X.mg x=some (.ref C))(hq:excIn X.K C Fm newId=true)(DS:Fm.contains (.type "BaseException")=true)
  (he:iz X e t) (YC:∀ a,L7 (X.aaw a) (b₀::JW) ts) (hs:swapsWith e (some (.Name y py)) apos.line X.env=pure false:=by rfl) (hf:X.fn y=true\/X.env.scope.names.lookup y=some .local:=by exfalso) (CW:(x==("__debug__":Str))=false:=by decide) :
  PS X (.Try [.Assign [.Name y py] e apos] [.ExceptHandler (some (.Name x np)) (some n) (b₀::JW) Fw] [] [] pos) (ZY i j X.K C t ts):=by
 intro pins s σ H D I h;refine wpAny_Try_except ?_;refine wpAny_execs_cons ?_;refine wpAny_Assign_Name (wpAny_mono (he _ pins s σ H _ I h) (λv s1 q1=>?_) λex s1 q1=>?_) hs
 ·obtain ⟨v',H1,I1,r1,q⟩:=q1;refine Cu I1 hN hi hy r1 (λs2 I2=>?_) hf;refine wpAny_execs_nil ?_;exact wpAny_execs_nil ⟨_,H1,I2,q⟩
 ·obtain ⟨h0,H1,a,cls,z,dz,rfl,I1,R,fl,th,C2,bm,xl,rfl,q2,q3,q4⟩:=q1;have fr:=I1.stack;have FO:=I1.ok.frames;rw [B.stk] at fr FO;refine My FO fr B.frm (λb hb=>?_) (λb hb=>I1.hok.fresh hb) fl λh1 eh Yy=>?_
  ·cases eb:h0.get? b with
   | none=>rfl
   | some o =>
    obtain ⟨o',e'⟩:=th b o eb;exact absurd (Nat.lt_of_lt_of_le (Heap.lt_size e') hb) (Nat.lt_irrefl _)
  rw [<- B.stk] at eh;have I2:=I1.abd (t':=s1.toks) R eh;refine Ei (s:={ s1 with heap:=h1 }) (env:=X.env) (outer:=X.outer) Yy λh2 Ww Yz=>?_;rw [<- B.stk] at Ww;have I3:=I2.abd (t':=s1.toks) R Ww;refine wpAny_handleBy_cons (codeAny_handlers_test (ER (I3.aaw a) hg hm ?_ CW)) (by intro q;cases q);obtain ⟨nm,qn,N,bs,xm,hdct,sn,sub,ab,col,dd,k0,k1,k2,k3,k5,hC,hT,xn⟩:=CF I3.kIn hq;obtain ⟨xo,xp,N',xq,xr,ou,xt,sA,xu,sC,Nw,j0,j1,j2,j3,j5,iC,et,iE⟩:=CF I3.kIn q2;obtain ⟨_,_,oe,vs,ZZ,YD,sD,_⟩:=id Yz;refine GY hC (hT.hasType DS) iC ZZ YD (by rw [<- iE];exact q3) ?_;refine codeAny_handlers_suite_as ?_;refine Ei (s:={ s1 with heap:=h2 }) (env:=X.env) (outer:=X.outer) Yz λh3 ox sE=>?_;rw [<- B.stk] at ox;have I4:=I3.abd (t':=s1.toks) R ox;obtain ⟨_,_,xv,xw,WB,iF,UO,_⟩:=id sE;have I5:Inv X pins σ (upd H1 a (Fv a (.ref C2))) { s1 with heap:=h3,toks:=s1.toks }:=by
   refine I4.aau fl.un (R.ent a fl.new) (λz=>?_) (λx c hx z=>?_) (λp hp z=>?_) (Fv.ok WB iF)
   ·obtain ⟨m,⟨o',es,ep,e',d',_⟩,_⟩:=I4.loc;rw [<- z,WB] at e';cases e';rw [UO] at d';cases d'
   ·obtain ⟨v,o',e',d'⟩:=I4.cell x c hx;rw [z,WB] at e';cases e';rw [UO] at d';cases d'
   ·obtain ⟨o',e'⟩:=R.pin p hp;rw [z,fl.new] at e';cases e'
  refine Cu (X:=X.aaw a) (I5.aaw a) hN hj (Or.inl hn) (v:=.ref a) rfl (λs6 I6=>?_) (.inr hn);refine wpAny_mono (YC a pins s6 _ _ _ I6 (q4 a fl.un)) (λf s7 q7=>?_) λ_ _ z=>z.elim;cases f with
  | next =>
   obtain ⟨σ7,H7,I7,v7,e7,n7⟩:=q7;have I8:=I7.abx I1.ok;have Cv:j < σ7.length:=(List.getElem?_eq_some_iff.mp e7).1;refine wpAny_bind (wpAny_bindName (Cu I8 hN hj (Or.inl hn) (v:=.non) rfl (λs9 I9=>?_) (.inr hn)));unfold unbindBehindTheSuite;refine wpAny_onRaise (NO I9 hN hj hn (v:=.non) (by rw [List.getElem?_set_self Cv]) λDr oy=>?_);rw [List.set_set] at oy;exact ⟨_,H7,oy,n7⟩
  | brk=>obtain ⟨_,_,_,z⟩:=q7;exact z.elim
  | cont=>obtain ⟨_,_,_,z⟩:=q7;exact z.elim
  | ret u=>obtain ⟨_,_,_,_,_,z⟩:=q7;exact z.elim
end
end L2
namespace PySem
open PySem.W (Looks looks_findIn findIn Frag)
section
variable {prog:Program}{w:World}{A:Around}{E:Value->Shared->Prop}{h:Heap}{g:Array GenState}{d:Drawn}{t:Nat}{os:OsState}{a:Addr}{o:Obj}{K:Frag}
 {nm q:Str} {C N:Addr} {bs bm Fm:List Value} {hdct:Bool} {sn:List Str} {sub:List Value} {ab:Bool} {col:Option Bool} {dd:Option Addr} {k0 k1 k2 k3 k5:Option Value} {newId:String}
theorem WC {R:Result->Shared->Prop}(hC:h.get? C=some (excClassObj nm q C N bs bm hdct sn sub ab col dd k0 k1 k2 k3 k5 newId))(ho:bm.contains (.type "object")=true)
  (hx:h.get? a=some o) (hc:o.cls=.ref C) (hq:R (.ok (.ret (.ref C))) ⟨h,g,d,t,os⟩) :
  codeAny (model prog w) A (.call (.builtin "getset_descriptor.__get__") ⟨[.builtin "object.__class__",.ref a,.ref C],[]⟩) R ⟨h,g,d,t,os⟩:=by
 have oz:(⟨h,g,d,t,os⟩:Shared).TypeIs (.builtin "object.__class__") "getset_descriptor":=F.typeOf_object_class;have ZX:(Value.ref C::bm).contains (.type (".".intercalate ("object.__class__".cutAt '.').dropLast))=true:=by
  rw [F.owner_object_class,List.contains_cons,ho];rfl
 refine codeAny_call_builtin F.slot_gs_get.plain F.entry_gs_get (F.slot_gs_get.check _ _ _ _ _ _ _ _ oz (F.args_gs_get _ _ _) ?_)
 repeat (any_goals (first | assumption | (with_reducible refine wpAny_loadPart_at hx ?_;rw [hc]) | (with_reducible refine wpAny_isSubtype_exc hC ?_;rw [ZX]) | wp_step))
 refine ⟨Code.quiet_builtin _ (by decide +kernel),codeAny_builtin F.entry_object_class ?_⟩
 repeat (any_goals (first | assumption | (with_reducible refine wpAny_loadPart_at hx ?_;rw [hc]) | wp_step))
theorem Q7 {tk:Tok}{Q:Fin->Shared->Prop}(X:K.In h)(hC:h.get? C=some (excClassObj nm q C N bs bm hdct sn sub ab col dd k0 k1 k2 k3 k5 newId))(ho:bm.contains (.type "object")=true)
  (ec:findIn K (.ref C) "__class__"=some (some (.builtin "object.__class__"))) (hx:h.get? a=some o) (hc:o.cls=.ref C) (hq:Q (.done (.ret (.ref C))) ⟨h,g,d,t,os⟩) :
  wpAny (model prog w) A (Builtin.«object.__getattribute__» ⟨[.ref a,.str "__class__" tk],[]⟩) Q E ⟨h,g,d,t,os⟩:=by
 have oz:(⟨h,g,d,t,os⟩:Shared).TypeIs (.builtin "object.__class__") "getset_descriptor":=F.typeOf_object_class;have f5:=F.typeOf_object_class;have f6:=F.slot_gs_get.lookup;have f7:=F.slot_gs_set.lookup;have L:=looks_findIn (M:=model prog w) X ec
 repeat (any_goals (first | assumption | (with_reducible refine wpAny_loadPart_at hx ?_;rw [hc]) | with_reducible refine W.Looks.at L ?_ | wp_step))
 refine WC hC ho hx hc ?_
 repeat (any_goals (first | assumption | wp_step))
theorem T6 {Q:Option Value->Shared->Prop}(X:K.In h)(hC:h.get? C=some (excClassObj nm q C N bs bm hdct sn sub ab col dd k0 k1 k2 k3 k5 newId))(ho:bm.contains (.type "object")=true)(hB:bm.contains (.type "BaseException")=true)
  (ec:findIn K (.ref C) "__class__"=some (some (.builtin "object.__class__"))) (eg:findIn K (.ref C) "__getattribute__"=some (some (.builtin "BaseException.__getattribute__"))) (ea:findIn K (.ref C) "__getattr__"=some none)
  (hx:h.get? a=some o) (hc:o.cls=.ref C) (hq:Q (some (.ref C)) ⟨h,g,d,t+1,os⟩):wpAny (model prog w) A (getAttr? (.ref a) "__class__") Q E ⟨h,g,d,t,os⟩:=by
 have L1:=looks_findIn (M:=model prog w) X eg;have L2:=looks_findIn (M:=model prog w) X ea;have f3:=F.attrBase_ValueError.ga.bind (.ref a);have oj:(Value.builtin "BaseException.__getattribute__"==Value.builtin "object.__getattribute__")=false:=by decide +kernel
 have YB:(onTheHeap (Value.ref C) && Value.builtin "BaseException.__getattribute__"==Value.builtin "object.__getattribute__")=false:=by rw [oj];rfl
 have YE:(false && onTheHeap (Value.builtin "BaseException.__getattribute__"))=false:=rfl;have hk:builtinKind "BaseException.__getattribute__"=some .slot:=by decide +kernel
 have WD:splitId "BaseException.__getattribute__"=some ("BaseException","__getattribute__"):=by decide +kernel
 have ZX:(Value.ref C::bm).contains (.type "BaseException")=true:=by rw [List.contains_cons,hB];rfl
 have sF:∀ (Q8:Value) {Q:Unit->Shared->Prop} {E:Value->Shared->Prop} {A:Around} {t:Nat},Q .unit ⟨h,g,d,t,os⟩->wpAny (model prog w) A (checkBuiltinCall "BaseException.__getattribute__" ⟨[.ref a,Q8],[]⟩) Q E ⟨h,g,d,t,os⟩:=by
  intro Q8 Q E A t hq;have ha:=F.args_bexc_ga (.ref a) Q8;simp only [checkBuiltinCall,hk,WD];refine wpAny_bind ?_
  ·unfold isInstance
   repeat (first | (with_reducible refine wpAny_loadPart_at hx ?_;rw [hc]) | (with_reducible refine wpAny_isSubtype_exc hC ?_;rw [ZX]) | wp_step)
   exact hq
 unfold getAttr? getAttrBy? getAttrBy
 repeat (any_goals (first | assumption | (with_reducible refine wpAny_loadPart_at hx ?_;rw [hc]) | with_reducible refine W.Looks.at L1 ?_ | with_reducible refine W.Looks.at L2 ?_ | wp_step))
 refine codeAny_call_builtin F.attrBase_ValueError.ga.plain F.entry_bexc_ga (sF _ (Q7 X hC ho ec hx hc ?_))
 repeat (any_goals (first | assumption | wp_step))
end
end PySem
namespace L2
open PySem PySem.Spec PyProof.Rows
open PySem.W (excIn findIn kitOne kitAny KitX)
structure NP (K:W.Frag)(C:Addr)(Fm:List Value)(newId:String):Prop where
 ex:excIn K C Fm newId=true
 ob:Fm.contains (.type "object")=true
 be:Fm.contains (.type "BaseException")=true
 ec:findIn K (.ref C) "__class__"=some (some (.builtin "object.__class__"))
 eg:findIn K (.ref C) "__getattribute__"=some (some (.builtin "BaseException.__getattribute__"))
 ea:findIn K (.ref C) "__getattr__"=some none
theorem JX {K:W.Frag}{C a:Addr}{Fm:List Value}{newId:String}(Z:NP K C Fm newId):KitX K (.ref a) (.ref C) (λh=>∃ o,h.get? a=some o/\o.cls=.ref C) where
 ty:=λM h _ ⟨o,h1,h2⟩=>by
  exact h2▸(W.Looks.ld h1).andThen .now
 it:=λM h X _=>by
  obtain ⟨nm,qn,N,bs,bm,hdct,sn,sub,ab,col,dd,k0,k1,k2,k3,k5,hC,hT,hm⟩:=CF X Z.ex;intro A' Q' E' s' k q;unfold isType loadHead;exact wpAny_bind (wpAny_loadPart (k _ _ hC) (wpAny_pure q))
 ne:=λh tp dd its n sl X oA=>by
  obtain ⟨nm,qn,N,bs,bm,hdct,sn,sub,ab,col,Nw,k0,k1,k2,k3,k5,hC,hT,hm⟩:=CF X Z.ex;refine Bool.eq_false_iff.mpr λq=>?_;have e:C=tp:=Value.ref.inj (beq_iff_eq.mp q);subst e;rw [hC] at oA;have z:=congrArg Obj.data (Option.some.inj oA);cases z
 ca:=λ{prog w A E Q s} X ⟨o,h1,h2⟩ k=>by
  obtain ⟨nm,qn,N,bs,bm,hdct,sn,sub,ab,col,Nw,k0,k1,k2,k3,k5,hC,hT,hm⟩:=CF X Z.ex;obtain ⟨hh,g,d,t,os⟩:=s;exact T6 X hC (hT.hasType Z.ob) (hT.hasType Z.be) Z.ec Z.eg Z.ea h1 h2 k
theorem Iy:∀ {ds:List Addr} {us:List Value},Vals (ds.map V.ref) us->us=ds.map Value.ref
 | [],_,.nil=>rfl
 | d::ds,_,.cons r1 r2=>by
  obtain rfl:_=Value.ref d:=r1;rw [List.map_cons,Iy r2]
section
variable {X:Cx}
noncomputable def Z':V->Option Value
 | .ref D=>some (.ref D)
 | .ty T=>some (.type T)
 | _=>none
theorem GZ:Cc X (.builtin "isinstance") (λxs H Q=>∃ a C Fm newId v c b,xs=[.ref a,v]/\Z' v=some c/\H a=some (Fv a (.ref C))/\NP X.K C Fm newId/\kitOne X.K (.ref C) c=some b/\Q (.bl b) H):=by
 intro pins s σ H xs us Q I r h;obtain ⟨a,C,Fm,newId,v,c,b,rfl,hv,ha,Z,e,q⟩:=h;obtain ⟨u,u',rfl,ru,T1⟩:=vals2 r;obtain rfl:u=Value.ref a:=ru;have hc:u'=c:=by
  cases v <;> simp only [Z'] at hv <;> cases hv <;> exact T1
 subst hc;exact W.kia_one (JX Z) I.kIn (Fv.get I.hok ha) e (λz=>nomatch z) λtk=>⟨.bl b,H,I.tok tk,rfl,q⟩
theorem JY:Cc X (.builtin "isinstance") (λxs H Q=>∃ (a C:Addr) (Fm:List Value) (newId:String) (p:Addr) (ds:List Addr) (b:Bool),xs=[.ref a,.ref p]/\H p=some (.tup (ds.map V.ref))/\H a=some (Fv a (.ref C))/\NP X.K C Fm newId/\kitAny X.K (.ref C) (ds.map Value.ref)=some b/\Q (.bl b) H):=by
 intro pins s σ H xs us Q I r h;obtain ⟨a,C,Fm,newId,p,ds,b,rfl,hp,ha,Z,e,q⟩:=h;obtain ⟨u,u',rfl,ru,T1⟩:=vals2 r;obtain rfl:u=Value.ref a:=ru;obtain rfl:u'=Value.ref p:=T1;obtain ⟨_,its,rv,o,h1,h2,n,h3⟩:=(show AN X.prog X.w H s.heap p (.tup (ds.map V.ref)) from I.hok p _ hp);obtain ⟨oc,od,da,Ot⟩:=o;simp only at h2 h3;subst h2 h3;have ei:its=ds.map Value.ref:=Iy rv;subst ei;exact W.kia_tup (JX Z) I.kIn (Fv.get I.hok ha) h1 e (λz=>nomatch z) λtk=>⟨.bl b,H,I.tok tk,rfl,q⟩
end
section
variable {X:Cx}{i j:Nat}{x y n:Str}{C:Addr}{Fm:List Value}{newId De Bn:String}{e:Expr}{es:List Expr}{t:XK->TE}{ta:TA}{b₀:Stmt}{JW:List Stmt}{ts:TS}{py apos np Fw B6 pos:Pos}{E:XK}{E':Value->Shared->Prop}
theorem a8 (B:Body X)(hN:X.N.Nodup)(hi:X.N[i]?=some y)(hy:Loc X.env.scope y)(hj:X.N[j]?=some n)(hn:X.env.scope.names.lookup n=some .local)(hg:Gl X x)(hm:X.mg x=some (.ref C))(Z:NP X.K C Fm newId)
  (he:om X e t) (YC:∀ a,SB (X.aaw a) (b₀::JW) ts) (hs:swapsWith e (some (.Name y py)) apos.line X.env=pure false:=by rfl) (hf:X.fn y=true\/X.env.scope.names.lookup y=some .local:=by exfalso) (CW:(x==("__debug__":Str))=false:=by decide) :
  SS X (.Try [.Assign [.Name y py] e apos] [.ExceptHandler (some (.Name x np)) (some n) (b₀::JW) Fw] [] [] pos) (ZY i j X.K C t ts):=⟨WA B hN hi hy hj hn hg hm Z.ex Z.be he.out (λa=>(YC a).out) hs hf CW⟩
theorem F2 (B:Body X)(hE:∀ e s',Iv X E e s'->E' e s')(hg:Gl X x)(hm:X.mg x=some (.ref C))(hq:excIn X.K C Fm newId=true)(F:ExcBaseFacts Bn newId De Fm)(hc:X.calm=true)
  (ha:SA (X.aar E') (e::es) ta) (CW:(x==("__debug__":Str))=false:=by decide) (he:starEach (e::es) X.env=(false,eval e X.env)::starEach es X.env:=by exfalso) (Ci:(backTo B6 (starEach (e::es) X.env)).any (·.1)=false:=by rfl) :
  SS (X.aar E') (.Raise (some (.Call (.Name x np) (e::es) [] B6)) none pos) (Lx C E ta):=⟨Q0 B hE hg hm hq F hc ha.out CW he Ci⟩
theorem G' {v:V}{u:Value}(hg:Gl X x)(hm:X.mg x=some u)(r:RelV v u)(hd:(x==("__debug__":Str))=false:=by decide):SE X (.Name x pos) (tC v):=⟨Gb hg hm r hd⟩
end
end L2
namespace KS
open PySem L2 KM
theorem T7 (t:Kd):decide (V.str (word t)=V.str "any")=DW t:=by
 rw [Bool.eq_iff_iff,decide_eq_true_iff,V.str.injEq];exact PQ
theorem A9.put {H H':Hp}{a:Addr}{o:HO}(s:A9 H H')(h:H a=none):A9 H (upd H' a o):=λb u e=>by
 rw [Aj (Ak e h)];exact s b u e
theorem A9.new {H:Hp}{a:Addr}{o:HO}(h:H a=none):A9 H (upd H a o):=A9.put (A9.refl H) h
theorem Paired.app {α β:Type}{F:α->β->Prop}:∀ {a b:List α} {c d:List β},Paired F a c->Paired F b d->Paired F (a++b) (c++d):=by
 intro a b c d p q
 induction p with
 | nil=>exact q
 | cons h _ ih=>exact .cons h ih
theorem Paired.split {α β:Type}{F:α->β->Prop}:∀ {a b:List α} {c:List β},Paired F (a++b) c->∃ c1 c2,c=c1++c2/\Paired F a c1/\Paired F b c2:=by
 intro a b
 induction a with
 | nil=>exact λ{c} q=>⟨[],c,rfl,.nil,q⟩
 | cons x a ih =>
  intro c q;cases q with
  | cons h t =>
   obtain ⟨c1,c2,rfl,p1,p2⟩:=ih t;exact ⟨_::c1,c2,rfl,.cons h p1,p2⟩
theorem Paired.at {α β:Type}{F:α->β->Prop}:∀ {a:List α} {c:List β} {i:Nat} {y:β},Paired F a c->c[i]?=some y->∃ x,a[i]?=some x/\F x y
 | _,_,_,_,.nil,e=>by simp at e
 | _,_,0,_,.cons h _,e=>by simp at e;subst e;exact ⟨_,rfl,h⟩
 | _,_,i+1,y,.cons _ t,e=>by
  obtain ⟨x,h1,h2⟩:=Paired.at (i:=i) t (by simpa using e);exact ⟨x,by simpa using h1,h2⟩
theorem E1:16777216=sizeLine:=sizeLine_eq.symm
noncomputable def Ly:Stmt:=.Pass ⟨0,0,0,0⟩
noncomputable def inDef (s:Stmt)(j:Nat):Stmt:=(AU s).getD j Ly
noncomputable def af (s:Stmt)(j:Nat):Stmt:=match s with
 | .For _ _ b _ _=>b.getD j Ly
 | _=>Ly
noncomputable def valueOf (s:Stmt):Expr:=match s with
 | .Assign _ v _=>v
 | .Return (some v) _=>v
 | .Expr v _=>v
 | _=>.Constant .none 0 ⟨0,0,0,0⟩
noncomputable def Bv (e:Expr):Scope:=match e with
 | .ListComp _ _ sc _=>sc
 | _=>{ kind:=.function,names:=[],isGenerator:=false,isCoroutine:=false }
theorem rev_last (y:V)(c:List V):(y::c).reverse[(y::c).reverse.length - 1]?=some y:=by simp
theorem Q9 {σ:St}{H:Hp}{A B:Hp->Prop}(h:A H):GU σ H (λb H1=>if b=true then A H1 else B H1):=by
 unfold GU;exact C5 h
noncomputable def D1 (H:Hp)(Ai:List (Key × V))(m:Int->Option Kd):Prop:=∀ k:Int,(AW Ai (Sum.inl k:Key)=none/\m k=none)\/∃ v t,AW Ai (Sum.inl k:Key)=some v/\m k=some t/\Bi H t v
theorem D1.mono {H H':Hp}{Ai:List (Key × V)}{m:Int->Option Kd}(s:TSub H H')(h:D1 H Ai m):D1 H' Ai m:=λk=>by
 rcases h k with z | ⟨v,t,h1,h2,h3⟩
 ·exact .inl z
 ·exact .inr ⟨v,t,h1,h2,Bi.mono s h3⟩
noncomputable def Bt (Pt:Addr)(H H':Hp):Prop:=∀ b o,H b=some o->b≠Pt->H' b=some o
theorem Bt.of {Pt:Addr}{H H':Hp}(s:A9 H H'):Bt Pt H H':=λb o e _=>s b o e
theorem Bt.trans {Pt:Addr}{H H1 H2:Hp}(a:Bt Pt H H1)(b:Bt Pt H1 H2):Bt Pt H H2:=λc o e n=>b c o (a c o e n) n
theorem Qa {α:Type}{xs:List α}{i:Int}(h0:0<=i)(h1:i < xs.length):∃ v,KY xs i=some v/\v∈xs:=by
 obtain ⟨j,rfl⟩:=Int.eq_ofNat_of_zero_le h0;have hj:j < xs.length:=by omega
 exact ⟨xs[j],Ad (List.getElem?_eq_getElem hj),List.getElem_mem hj⟩
noncomputable def J0:Sp:=λ_ _ _ _=>False
section
variable {Pr:Program}{w:World}{K:W.Frag}{mg:Str->Option Value}{base:Heap}
theorem F3 {k:Nat}{f:Addr}{fd:FuncData}{ps:List Str}:Av Pr w K mg base Bs k f fd ps J0:=⟨λ_ _ _ _ h=>h.elim,λ_ _ _ _ _ _ _ _ _ _ _ _ _ h=>h.elim⟩
end
theorem T8 {t s:Kd}(h:s∈parts t):dp s < dp t:=by
 cases t with
 | fn a b | pr a b =>
  cases h with
  | head=>simp only [dp];omega
  | tail _ h =>
   cases h with
   | head=>simp only [dp];omega
   | tail _ h=>cases h
 | ls a =>
  cases h with
  | head=>simp only [dp];omega
  | tail _ h=>cases h
 | _=>cases h
theorem AK {c A B:Prop}[Decidable c](hc:c)(h:A):if c then A else B:=by
 rw [if_pos hc];exact h
theorem Ay {c A B:Prop}[Decidable c](hc:¬ c)(h:B):if c then A else B:=by
 rw [if_neg hc];exact h
section
variable {X:Cx}
theorem J1:Cc X (.type "dict") (λxs H Q=>∃ a Ai,xs=[.ref a]/\Rd H a (.dK Ai)/\∀ p,H p=none->Q (.ref p) (upd H p (.dK Ai))):=by
 intro pins s σ H xs us Q I r h;obtain ⟨a,Ai,rfl,e,q⟩:=h;obtain ⟨u,rfl,ru⟩:=vals1 r;obtain rfl:u=Value.ref a:=ru;exact PJ I e λp s' hp I'=>⟨.ref p,_,I',rfl,q p hp⟩
end
theorem Qb {κ:Type}[DecidableEq κ](Ai:List (κ × V))(k:κ)(v:V):(putK Ai k v).length<=Ai.length+1:=by
 unfold putK;split
 ·rw [List.length_map];omega
 ·simp
theorem D1.put {H:Hp}{Ai:List (Key × V)}{m:Int->Option Kd}{k:Int}{t:Kd}{v:V}(h:D1 H Ai m)(hv:Bi H t v):D1 H (putK Ai (Sum.inl k:Key) v) (λj=>if j=k then some t else m j):=λj=>by
 rw [Dk];by_cases e:j=k
 ·subst e;rw [if_pos rfl];exact .inr ⟨v,t,rfl,if_pos rfl,hv⟩
 ·rw [if_neg (λz=>e (Sum.inl.inj z))];show (_/\(if j=k then some t else m j)=none)\/∃ v' t',_/\(if j=k then some t else m j)=some t'/\_
  rw [if_neg e];exact h j
theorem D1.nil {H:Hp}:D1 H [] (λ_=>none):=λ_=>.inl ⟨rfl,rfl⟩
theorem Bt.sub {Pt:Addr}{H H':Hp}{ps:Array Value}(s:Bt Pt H H')(h:H Pt=some (.tbl ps)):TSub H H':=λb xs e=>s b _ e (λz=>by rw [z,h] at e;cases e)
end KS
namespace KM
noncomputable def prs:Kd->Kd->Option (List (Int × Kd))
 | .gap k,b=>some [(k,b)]
 | .num,.num=>some []
 | .tru,.tru=>some []
 | .ls a,.ls b=>prs a b
 | .fn a a',.fn b b'=>(prs a b).bind λx=>(prs a' b').map λy=>x++y
 | .pr a a',.pr b b'=>(prs a b).bind λx=>(prs a' b').map λy=>x++y
 | _,_=>none
noncomputable def Ha (l:List (Int × Kd))(k:Int):Option Kd:=l.foldl (λm p=>if p.1=k then some p.2 else m) none
noncomputable def wd (a b:Kd):Bool:=match prs a b with
 | none=>false
 | some l=>l.all λp=>decide (Ha l p.1=some p.2)
theorem Qc {α:Type}{x y:Option (List α)}{u v:List α}(h1:x=some u)(h2:y=some v):(x.bind λu=>y.map λv=>u++v)=some (u++v):=by
 rw [h1,h2];rfl
theorem BK {m:Int->Option Kd}:∀ (a:Kd),∃ l,prs a (fill m a)=some l/\∀ p∈l,p.2=(m p.1).getD (.gap p.1)
 | .gap k=>⟨_,rfl,λp hp=>by rw [List.mem_singleton.mp hp];rfl⟩
 | .num=>⟨[],rfl,λp hp=>by cases hp⟩
 | .tru=>⟨[],rfl,λp hp=>by cases hp⟩
 | .ls a=>BK a
 | .fn a b=>by
  obtain ⟨x,h1,h2⟩:=BK (m:=m) a;obtain ⟨y,h3,h4⟩:=BK (m:=m) b;refine ⟨x++y,Qc h1 h3,λp hp=>?_⟩;rcases List.mem_append.mp hp with hp | hp
  ·exact h2 p hp
  ·exact h4 p hp
 | .pr a b=>by
  obtain ⟨x,h1,h2⟩:=BK (m:=m) a;obtain ⟨y,h3,h4⟩:=BK (m:=m) b;refine ⟨x++y,Qc h1 h3,λp hp=>?_⟩;rcases List.mem_append.mp hp with hp | hp
  ·exact h2 p hp
  ·exact h4 p hp
theorem Hb {α:Type}{x y:Option (List α)}{l:List α}(h:(x.bind λu=>y.map λv=>u++v)=some l):∃ u v,x=some u/\y=some v/\l=u++v:=by
 cases x with
 | none=>cases h
 | some u =>
  cases y with
  | none=>cases h
  | some v=>exact ⟨u,v,rfl,rfl,(Option.some.inj h).symm⟩
inductive KZ:Kd->Kd->List (Int × Kd)->Prop
 | gap (k:Int) (b:Kd):KZ (.gap k) b [(k,b)]
 | num:KZ .num .num []
 | tru:KZ .tru .tru []
 | ls {a b:Kd} {l:List (Int × Kd)}:KZ a b l->KZ (.ls a) (.ls b) l
 | fn {a a' b b':Kd} {u v:List (Int × Kd)}:KZ a b u->KZ a' b' v->KZ (.fn a a') (.fn b b') (u++v)
 | pr {a a' b b':Kd} {u v:List (Int × Kd)}:KZ a b u->KZ a' b' v->KZ (.pr a a') (.pr b b') (u++v)
theorem KZ.of {a:Kd}:∀ {b:Kd} {l:List (Int × Kd)},prs a b=some l->KZ a b l:=by
 induction a with
 | gap k=>intro b l h;cases h;exact .gap k b
 | num=>intro b l h;cases b <;> cases h;exact .num
 | tru=>intro b l h;cases b <;> cases h;exact .tru
 | ls a ih =>
  intro b l h;cases b with
  | ls b=>exact .ls (ih h)
  | _=>cases h
 | fn a a' ih NQ =>
  intro b l h;cases b with
  | fn b b' =>
   obtain ⟨u,v,h1,h2,rfl⟩:=Hb h;exact .fn (ih h1) (NQ h2)
  | _=>cases h
 | pr a a' ih NQ =>
  intro b l h;cases b with
  | pr b b' =>
   obtain ⟨u,v,h1,h2,rfl⟩:=Hb h;exact .pr (ih h1) (NQ h2)
  | _=>cases h
theorem JZ {m:Int->Option Kd}(a b:Kd)(l:List (Int × Kd))(h:prs a b=some l)(hm:∀ p∈l,(m p.1).getD (.gap p.1)=p.2):fill m a=b:=by
 replace h:=KZ.of h
 induction h with
 | gap k b=>exact hm (k,b) (List.mem_singleton.mpr rfl)
 | num | tru=>rfl
 | ls _ ih=>exact congrArg Kd.ls (ih hm)
 | fn _ _ ih NQ=>show Kd.fn _ _=_;exact congr (congrArg Kd.fn (ih λp hp=>hm p (List.mem_append_left _ hp))) (NQ λp hp=>hm p (List.mem_append_right _ hp))
 | pr _ _ ih NQ=>show Kd.pr _ _=_;exact congr (congrArg Kd.pr (ih λp hp=>hm p (List.mem_append_left _ hp))) (NQ λp hp=>hm p (List.mem_append_right _ hp))
theorem J' (k:Int):∀ (l:List (Int × Kd)) (m:Option Kd),l.foldl (λm p=>if p.1=k then some p.2 else m) m=m/\(∀ p∈l,p.1≠k)\/∃ p∈l,p.1=k/\l.foldl (λm p=>if p.1=k then some p.2 else m) m=some p.2
 | [],m=>.inl ⟨rfl,λp hp=>by cases hp⟩
 | q::l,m=>by
  rw [List.foldl_cons];rcases J' k l (if q.1=k then some q.2 else m) with ⟨h1,h2⟩ | ⟨p,hp,h1,h2⟩
  ·by_cases e:q.1=k
   ·refine .inr ⟨q,List.mem_cons_self,e,?_⟩;rw [h1,if_pos e]
   ·refine .inl ⟨by rw [h1,if_neg e],λp hp=>?_⟩;rcases List.mem_cons.mp hp with rfl | hp
    ·exact e
    ·exact h2 p hp
  ·exact .inr ⟨p,List.mem_cons_of_mem _ hp,h1,h2⟩
theorem Iz {l:List (Int × Kd)}{p:Int × Kd}(h:p∈l):∃ q∈l,q.1=p.1/\Ha l p.1=some q.2:=by
 rcases J' p.1 l none with ⟨_,h2⟩ | ⟨q,hq,h1,h2⟩
 ·exact absurd rfl (h2 p h)
 ·exact ⟨q,hq,h1,h2⟩
theorem WE (a b:Kd):wd a b=true↔∃ m:Int->Option Kd,fill m a=b:=by
 unfold wd
 constructor
 ·intro h;cases e:prs a b with
  | none=>rw [e] at h;cases h
  | some l =>
   rw [e] at h;refine ⟨Ha l,JZ a b l e λp hp=>?_⟩;have:=of_decide_eq_true (List.all_eq_true.mp h p hp);rw [this];rfl
 ·rintro ⟨m,rfl⟩;obtain ⟨l,e,hl⟩:=BK (m:=m) a;rw [e];refine List.all_eq_true.mpr λp hp=>decide_eq_true ?_;obtain ⟨q,hq,h1,h2⟩:=Iz hp;rw [h2,hl q hq,hl p hp,h1]
theorem J2 (a b:Kd)(l:List (Int × Kd))(h:prs a b=some l):l.length<=sz a:=by
 replace h:=KZ.of h
 induction h with
 | gap k b=>exact Nat.le_refl _
 | num | tru=>exact Nat.zero_le _
 | ls _ ih=>exact Nat.le_succ_of_le ih
 | fn _ _ ih NQ | pr _ _ ih NQ=>rw [List.length_append];exact Nat.le_succ_of_le (Nat.add_le_add ih NQ)
theorem Qd (a b:Kd)(l:List (Int × Kd))(h:prs a b=some l):∀ p∈l,dp p.2<=dp b:=by
 replace h:=KZ.of h
 induction h with
 | gap k b=>intro p hp;rw [List.mem_singleton.mp hp];exact Nat.le_refl _
 | num | tru=>intro p hp;cases hp
 | ls _ ih=>exact λp hp=>Nat.le_succ_of_le (ih p hp)
 | fn _ _ ih NQ | pr _ _ ih NQ =>
  intro p hp;rcases List.mem_append.mp hp with hp | hp
  ·have:=ih p hp;simp only [dp];omega
  ·have:=NQ p hp;simp only [dp];omega
end KM
namespace PySem
namespace F
theorem aan:entryFor table "list.__getattribute__"=some Builtin.«object.__getattribute__» :=
 entryFor_alias (id':="object.__getattribute__") (by kernel_rfl) (by decide +kernel) (by decide +kernel) (by kernel_rfl)
theorem aag:typeLookup (.type "list") "__getattr__"=pure none:=by rw [typeLookup_type,builtinLookup_eq_fast];kernel_rfl
theorem aax:typeLookup (.type "list") "keys"=pure none:=by rw [typeLookup_type,builtinLookup_eq_fast];kernel_rfl
theorem aai:entryFor table "dict.update.loop"=some Builtin.«dict.update.loop»:=entryFor_of_tree (by kernel_rfl)
theorem aac:plainId "dict.update.loop"=true:=by decide +kernel
end F
theorem T9 (a:Addr)(items:Array Value)(n:Nat)(sl:Array (Option Value))(u:Tok)(F':("keys":Str).length+100<=sizeLine:=by size_fits):
  Meets (Builtin.«object.__getattribute__» ⟨[.ref a,.str "keys" u],[]⟩) (λA R s=>s.heap.get? a=some ⟨.type "list",none,.seq items n,sl⟩/\raisesAttr (.ref a) "keys" A R s) :=
 Meets.of_wp λprog w A R s hs=>by
  obtain ⟨hp,g,d,tk,os⟩:=s;obtain ⟨hl,hs⟩:=hs;have hT:(⟨hp,g,d,tk,os⟩:Shared).TypeIs (.ref a) "list":=⟨_,hl,rfl⟩;have f1:=F.aax;unfold Builtin.«object.__getattribute__»
  repeat (any_goals (first | assumption | wp_step))
  exact wpAny_raiseAttrError hs.1 hs.2 (attrMsg_fits (by decide +kernel) F')
section
variable {prog:Program}{w:World}{A:Around}{E:Value->Shared->Prop}{s:Shared}
theorem NR {a:Addr}{items:Array Value}{n:Nat}{sl:Array (Option Value)}{Q:Option Value->Shared->Prop}(hA:A.handled=none)(hl:s.heap.get? a=some ⟨.type "list",none,.seq items n,sl⟩)
  (h:∀ h' tk,(∀ b o,s.heap.get? b=some o->h'.get? b=some o)->Q none { s with heap:=h',toks:=tk }):wpAny (model prog w) A (getAttr? (.ref a) "keys") Q E s:=by
 obtain ⟨hp,g,d,tk,os⟩:=s;have hT:(⟨hp,g,d,tk,os⟩:Shared).TypeIs (.ref a) "list":=⟨_,hl,rfl⟩;have f1:=sub_AttributeError;have f3:=F.slot_list_getattribute.lookup;have f4:=F.slot_list_getattribute.bind (.ref a);have f5:=F.aag;unfold getAttr? getAttrBy? getAttrBy
 repeat (any_goals (first | assumption | ((with_reducible show wpAny _ _ (call (Value.builtin "list.__getattribute__") _ _) _ _ _);refine call_meets F.slot_list_getattribute ⟨_,hl,rfl⟩ F.aan (F.args_list_getattribute_2 _ _) (T9 a items n sl _) ⟨hl,hA,λh' oB e hx=>?_⟩) | wp_step))
 obtain ⟨t',u',he⟩:=hx.there;show wpAny _ _ (getattributeRaised _ _ _ _ _ _ _) _ _ _;unfold getattributeRaised
 repeat (any_goals (first | assumption | wp_step))
 all_goals exact h _ _ hx.keeps
noncomputable def Lz {K:Type}[DecidableEq K](key:Nat->K)(vu:Nat->Value):Nat->List (K × Value)
 | 0=>[]
 | i+1=>stored (Lz key vu i) (key i) (vu i)
theorem K0 {K:Type}[DecidableEq K](key:Nat->K)(vu:Nat->Value):∀ i,(Lz key vu i).length<=i
 | 0=>Nat.le_refl _
 | i+1=>by
  have ih:=K0 key vu i;show (stored _ _ _).length<=_;unfold stored;split
  ·rw [List.length_map];omega
  ·rw [List.length_append,List.length_singleton];omega
theorem Ta {K:Type}[DecidableEq K]{knd:KeyKind prog w K}{R:Result->Shared->Prop}{I:Addr}{fp wr:List Addr}{G:Array GenState->Array GenState->Prop}{n:Nat}{P:Nat->Value->Prop}{St:Nat->Shared->Prop}
  (W:WalksS prog w A.in1 I fp wr G n P St) (D:Addr) (oC:D∉fp) (ps:Nat->Addr) (key:Nat->K) (ku vu:Nat->Value) (hP:∀ i v,P i v->v=.ref (ps i)) (hk:∀ i,i < n->knd.is (key i) (ku i)=true)
  (hD:∀ i,i < n->ps i≠D) (hw:∀ i,i < n->ps i∉wr) (hz:n<=sizeLine) :
  ∀ (k i:Nat) (s:Shared) (z:Int) (tz:Tok),n - i=k->i<=n->St i s->(∀ j,j < n->PyProof.Rows.IsTup s.heap (ps j) #[ku j,vu j])->s.heap.DictOf knd D (Lz key vu i) ->
   (∀ s',Moved (D::wr) G s s'->s'.heap.DictOf knd D (Lz key vu n)->R (.ok (.ret .none)) s') ->
   codeAny (model prog w) A (.builtin "dict.update.loop" ⟨[.ref D,.ref I,.int z tz,.none],[]⟩) R s:=by
 have sG:D∉wr:=λh=>oC (W.sub _ h);have WG:∀ b∈wr,b∈D::wr:=λb hb=>List.mem_cons_of_mem _ hb;have oD:∀ {s s':Shared} {Ai:List (K × Value)},Moved wr G s s'->s.heap.DictOf knd D Ai->s'.heap.DictOf knd D Ai:=λ{s s' Ai} hm hd=>by
  obtain ⟨o,es,ep,ho,r⟩:=hd;exact ⟨o,es,ep,hm.heap D _ sG ho,r⟩
 intro k
 induction k with
 | zero =>
  intro i s z tz iG hi OS hT hS hR;obtain rfl:i=n:=by omega
  refine codeAny_builtin F.aai ?_;rw [Around.under_plainId F.aac _];show wpAny _ A.in1 (pyNext (.ref I) >>= _) _ _ s;refine wpAny_bind (W.done s _ _ OS λs' hm=>?_);show wpAny _ A.in1 (Builtin.Dict.addKeywords D [] >>= λ_=>ret Value.none) _ _ s';exact wpAny_bind (wpAny_pure (wpAny_pure (hR s' (hm.mono WG) (oD hm hS))))
 | succ k ih =>
  intro i s z tz iG hi OS hT hS hR;have Cv:i < n:=by omega
  refine codeAny_builtin F.aai ?_;rw [Around.under_plainId F.aac _];show wpAny _ A.in1 (pyNext (.ref I) >>= _) _ _ s;refine wpAny_bind (W.item i s _ _ Cv OS λv s' hv iH hm=>?_);obtain rfl:=hP i v hv;have ag:=oD hm hS;have oE:∀ j,j < n->PyProof.Rows.IsTup s'.heap (ps j) #[ku j,vu j]:=λj hj=>by
   obtain ⟨o,ho,r⟩:=hT j hj;exact ⟨o,hm.heap _ _ (hw j hj) ho,r⟩
  show wpAny _ A.in1 (holding [Value.ref (ps i)] _ >>= λ_=>again _) _ _ s';refine wpAny_bind (wpAny_holding (wpAny_bind (wpAny_tryCatch ?_)));obtain ⟨o,ho,hc,m,hd⟩:=oE i Cv;unfold Builtin.Dict.pairItems;refine wpAny_bind (wpAny_typeOf (T:="tuple") ⟨o,ho,hc⟩ ?_);rw [if_pos ⟨⟩];refine wpAny_bind (wpAny_seqItems ho hd (wpAny_pure ?_));show wpAny _ A.in1 (holding [ku i,vu i] (dictSet D (ku i) (vu i))) _ _ s';refine wpAny_holding (wpAny_dictSet_pairs (hk i Cv) ag (λh' OG WH=>?_) (Nat.le_trans (K0 key vu i) ()));refine wpAny_pure ⟨plainId_quiet F.aac _,ih (i+1) _ _ _ () Cv (W.frame _ s' _ _ iH (Nat.le_succ _) λb hb o e=>?_) (λj hj=>?_) OG λZw iI iJ=>?_⟩
  ·exact (WH.2 b (λq:b=D=>oC (by rw [<- q];exact hb))).trans e
  ·obtain ⟨o,ho,r⟩:=oE j hj;exact ⟨o,(WH.2 _ (hD j hj)).trans ho,r⟩
  ·refine hR Zw (Moved.trans W.gtrans ((hm.mono WG).then_heap (Nat.le_succ _) λb o hb e=>?_) iI) iJ;exact (WH.2 b (λq:b=D=>hb (by rw [q];exact List.mem_cons_self))).trans e
theorem Tb {K:Type}[DecidableEq K]{knd:KeyKind prog w K}{l:Addr}{items:Array Value}{n0:Nat}{sl:Array (Option Value)}{Q:Value->Shared->Prop}(hh:A.handled=none)(hl:s.heap.get? l=some ⟨.type "list",none,.seq items n0,sl⟩)
  (ps:Nat->Addr) (key:Nat->K) (ku vu:Nat->Value) (hP:∀ (i:Nat) (v:Value),items[i]?=some v->v=Value.ref (ps i)) (hk:∀ i,i < items.size->knd.is (key i) (ku i)=true) (hT:∀ j,j < items.size->PyProof.Rows.IsTup s.heap (ps j) #[ku j,vu j]) (hz:items.size<=sizeLine)
  (h:∀ h' tk,h'.DictOf knd s.heap.objs.size (Lz key vu items.size)->(∀ b o,s.heap.get? b=some o->h'.get? b=some o)->Q (.ref s.heap.objs.size) { s with heap:=h',toks:=tk }) :
  wpAny (model prog w) A (call (.type "dict") [.ref l]) Q E s:=by
 refine callType_codes (Q₁:=λobj s₁=>obj=.ref s.heap.objs.size/\s₁={ s with heap:=s.heap.push { cls:=.type "dict",data:=.dict #[] } }) F.kt_called_dict (F.kt_typeCall_dict_1 _) F.entry_dict_init (kt_code_dict_new _ ⟨rfl,rfl⟩) ?_;rintro obj s₁ ⟨rfl,rfl⟩;have Po:(s.heap.push { cls:=.type "dict",data:=.dict #[] }).DictOf knd s.heap.objs.size []:=Heap.DictOf.new s.heap;have Er:(s.heap.push { cls:=.type "dict",data:=.dict #[] }).get? l=some ⟨.type "list",none,.seq items n0,sl⟩:=Heap.get?_push_of_some _ hl;refine ⟨Po.typeIs,F.args_dict_init_2 _ _,?_⟩;unfold Builtin.«dict.__init__»;refine wpAny_bind ?_;unfold Builtin.Dict.selfAndRest;refine wpAny_bind (wpAny_notOrdered_dict Po.typeIs ?_);show wpAny _ _ (pure (s.heap.objs.size,[Value.ref l])) _ _ _;refine wpAny_pure ?_;show wpAny _ _ (Builtin.Dict.updateFrom "dict.__init__" s.heap.objs.size (.ref l) [] .none) _ _ _;unfold Builtin.Dict.updateFrom;refine wpAny_bind (wpAny_typeOf (T:="list") ⟨_,Er,rfl⟩ ?_);rw [if_pos ⟨⟩];refine wpAny_bind (NR hh Er λh2 sH k2=>?_);rw [if_pos ⟨⟩];refine wpAny_bind (wpAny_rule ?_);have DT:h2.IsList l items:=⟨_,k2 _ _ Er,rfl,n0,rfl⟩;refine wpAny_bind (wpAny_pyIter_list (s:={ s with heap:=h2,toks:=sH }) DT ?_);have big:s.heap.objs.size < h2.objs.size:=Heap.lt_size (k2 s.heap.objs.size _ (Heap.get?_push_size _ rfl));have Cv:l < s.heap.objs.size:=Heap.lt_size hl;have Ci:∀ j,j < items.size->ps j < s.heap.objs.size:=λj hj=>let ⟨o,ho,_⟩:=hT j hj;Heap.lt_size ho;have W0:=(Walks.list (prog:=prog) (w:=w) (A:=A.in1.in1) (show A.in1.in1.handled=none from hh) h2.objs.size l (Nat.ne_of_lt (Nat.lt_trans Cv big)) items).toS;refine wpAny_pure ⟨plainId_quiet F.aac _,Ta (knd:=knd) W0 s.heap.objs.size ?_ ps key ku vu hP hk (λj hj=>Nat.ne_of_lt (Ci j hj)) (λj hj=>?_) hz
  items.size 0 _ _ _ rfl (Nat.zero_le _) ⟨⟨_,Heap.get?_push_size _ rfl,rfl,rfl⟩,DT.push _⟩ (λj hj=>?_) ?_ λs' hm hd=>?_⟩
 ·simp only [List.mem_cons,List.not_mem_nil,or_false,not_or];exact ⟨Nat.ne_of_lt big,Nat.ne_of_gt Cv⟩
 ·simp only [List.mem_cons,List.not_mem_nil,or_false];exact Nat.ne_of_lt (Nat.lt_trans (Ci j hj) big)
 ·obtain ⟨o,ho,r⟩:=hT j hj;exact ⟨o,Heap.get?_push_of_some _ (k2 _ _ (Heap.get?_push_of_some _ ho)),r⟩
 ·obtain ⟨o,es,ep,ho,r⟩:=Po;exact ⟨o,es,ep,Heap.get?_push_of_some _ (k2 _ _ ho),r⟩
 ·obtain ⟨h',g',d',oB,W8⟩:=s';have eg:g'=s.gens:=hm.gens;have ed:d'=s.drawn:=hm.drawn;have eo:W8=s.os:=hm.os;subst eg ed eo;refine ⟨rfl,h h' oB hd λb o e=>?_⟩;have hb:=Heap.lt_size e;refine hm.heap b o ?_ (Heap.get?_push_of_some _ (k2 _ _ (Heap.get?_push_of_some _ e)));simp only [List.mem_cons,List.not_mem_nil,or_false,not_or];exact ⟨Nat.ne_of_lt hb,Nat.ne_of_lt (Nat.lt_trans hb big)⟩
end
end PySem
namespace KS
open PySem PySem.Spec PyProof.Rows L2 KM
noncomputable def putAll (prs:List (Addr × Key × V)):List (Key × V):=prs.foldl (λm p=>putK m p.2.1 p.2.2) []
theorem putAll_snoc (a:List (Addr × Key × V))(p:Addr × Key × V):putAll (a++[p])=putK (putAll a) p.2.1 p.2.2:=by
 unfold putAll;rw [List.foldl_append];rfl
theorem LA (prs:List (Addr × Key × V)):(putAll prs).length<=prs.length:=by
 have:∀ (prs:List (Addr × Key × V)) (m:List (Key × V)),(prs.foldl (λm p=>putK m p.2.1 p.2.2) m).length<=m.length+prs.length:=by
  intro prs
  induction prs with
  | nil=>intro m;simp
  | cons p r ih =>
   intro m;have h1:=ih (putK m p.2.1 p.2.2);have h2:=Qb m p.2.1 p.2.2;simp only [List.foldl_cons,List.length_cons];omega
 have:=this prs [];simpa [putAll] using this
theorem UP {prs:List (Addr × Key × V)}{vu:Nat->Value}(hv:∀ (j:Nat) p,prs[j]?=some p->RelV p.2.2 (vu j)){key:Nat->Key}(hk:∀ (j:Nat) p,prs[j]?=some p->p.2.1=key j):
  ∀ i,i<=prs.length->KV (putAll (prs.take i)) (Lz key vu i)
 | 0,_=>.nil
 | i+1,h=>by
  have ih:=UP hv hk i ();have e:prs[i]?=some (prs[i]'()):=List.getElem?_eq_getElem ();rw [List.take_add_one,e];show KV (putAll (prs.take i++[prs[i]])) (stored (Lz key vu i) (key i) (vu i));rw [putAll_snoc,<- hk i _ e];exact ih.put _ (hv i _ e)
section
variable {X:Cx}
theorem HL (hc:X.calm=true):Cc X (.type "dict") (λxs H Q=>∃ (l:Addr) (prs:List (Addr × Key × V)),xs=[.ref l]/\H l=some (.lst (prs.map λp=>V.ref p.1))/\(∀ p∈prs,H p.1=some (.tup [kV p.2.1,p.2.2]))/\∀ d,H d=none->Q (.ref d) (upd H d (.dK (putAll prs)))):=by
 intro pins s σ H xs us Q I r h;obtain ⟨l,prs,rfl,hl,hp,q⟩:=h;obtain ⟨u,rfl,ru⟩:=vals1 r;obtain rfl:u=Value.ref l:=ru;obtain ⟨hz,its,n0,rv,e⟩:=(show AN X.prog X.w H s.heap l (.lst (prs.map λp=>V.ref p.1)) from I.hok l _ hl);rw [List.length_map] at hz;have hlen:=rv.length;rw [List.length_map] at hlen;have hT:∀ j,j < prs.length->∃ ku vu,∀ p,prs[j]?=some p->IsTup s.heap p.1 #[ku,vu]/\RelV (kV p.2.1) ku/\RelV p.2.2 vu:=λj hj=>by
  have e1:prs[j]?=some (prs[j]'hj):=List.getElem?_eq_getElem hj;obtain ⟨_,IV,r2,o,h1,h2,m,h3⟩:=(show AN X.prog X.w H s.heap (prs[j]'hj).1 (.tup [kV (prs[j]'hj).2.1,(prs[j]'hj).2.2]) from I.hok _ _ (hp _ (List.getElem_mem hj)));obtain ⟨ku,vu,rfl,rk,sI⟩:=vals2 r2;refine ⟨ku,vu,λp ep=>?_⟩;rw [e1] at ep;cases ep;exact ⟨⟨o,h1,h2,m,h3⟩,rk,sI⟩
 let ku:Nat->Value:=λj=>if h:j < prs.length then Classical.choose (hT j h) else .none
 let vu:Nat->Value:=λj=>if h:j < prs.length then Classical.choose (Classical.choose_spec (hT j h)) else .none
 have et:∀ (j:Nat) p,prs[j]?=some p->IsTup s.heap p.1 #[ku j,vu j]/\RelV (kV p.2.1) (ku j)/\RelV p.2.2 (vu j):=λj p ep=>by
  have hj:j < prs.length:=(List.getElem?_eq_some_iff.mp ep).1;have z:=Classical.choose_spec (Classical.choose_spec (hT j hj)) p ep;have e1:ku j=Classical.choose (hT j hj):=dif_pos hj;have e2:vu j=Classical.choose (Classical.choose_spec (hT j hj)):=dif_pos hj;rw [e1,e2];exact z
 let ps:Nat->Addr:=λj=>(prs[j]?.map (·.1)).getD 0
 let key:Nat->Key:=λj=>(prs[j]?.map (·.2.1)).getD (Sum.inl 0)
 have UQ:∀ (j:Nat) p,prs[j]?=some p->ps j=p.1:=λj p ep=>by
  show (prs[j]?.map (·.1)).getD 0=_;rw [ep];rfl
 have Sg:∀ (j:Nat) p,prs[j]?=some p->key j=p.2.1:=λj p ep=>by
  show (prs[j]?.map (·.2.1)).getD _=_;rw [ep];rfl
 have sJ:its.toArray.size=prs.length:=by rw [List.size_toArray,hlen]
 refine Tb (knd:=AA X.prog X.w) (I.ok.hd hc) e ps key ku vu (λi v hv=>?_) (λi hi=>?_) (λi hi=>?_) () λh' tk hd hk=>?_
 ·have NH:its[i]?=some v:=by simpa using hv
  have hi:i < its.length:=(List.getElem?_eq_some_iff.mp NH).1;have e1:prs[i]?=some (prs[i]'()):=List.getElem?_eq_getElem ();have e2:(prs.map λp=>V.ref p.1)[i]?=some (V.ref (prs[i]'()).1):=by rw [List.getElem?_map,e1];rfl
  obtain ⟨u,hu,ru⟩:=rv.get e2;rw [NH] at hu;cases hu;rw [UQ i _ e1];exact ru
 ·have UR:i < prs.length:=by omega
  have e1:prs[i]?=some (prs[i]'UR):=List.getElem?_eq_getElem UR;rw [Sg i _ e1];exact DL (et i _ e1).2.1
 ·have UR:i < prs.length:=by omega
  have e1:prs[i]?=some (prs[i]'UR):=List.getElem?_eq_getElem UR;rw [UQ i _ e1];exact (et i _ e1).1
 ·rw [sJ] at hd;have kv:=UP (prs:=prs) (vu:=vu) (λj p ep=>(et j p ep).2.2) (key:=key) (λj p ep=>(Sg j p ep).symm) prs.length (Nat.le_refl _);rw [List.take_length] at kv;have hn:H s.heap.objs.size=none:=I.hok.fresh (Nat.le_refl _);exact ⟨.ref _,_,I.laid (a:=s.heap.objs.size) (o:=.dK (putAll prs)) (t':=tk) hk (Nat.le_refl _) (GR (Nat.le_trans (LA prs) hz) (beq_eq_false_iff_ne.mpr (Ne.symm (Nat.ne_of_lt I.big))) kv hd),rfl,q _ hn⟩
end
end KS
namespace L2
open PySem PySem.Spec PyProof.Rows
section
variable {g:TG}{tt:TT}{te:TE}{σ:St}{Fin:List V->Hp->Prop}
theorem NS {K:W.Frag}{a:Addr}{xs:List V}{H:Hp}(Pv:Nat->List V->Hp->Prop)(h0:Pv 0 [] H)(hl:∀ i ys H,Pv i ys H->AI K H a xs)(hn:xs.length < sizeLine)
  (hy:∀ i ys H,Pv i ys H->ys.length<=i)
  (hs:∀ i x ys H,xs[i]?=some x->Pv i ys H->g x σ H fun σ2 H2=>Ext σ σ2/\tt σ2 H2 λb H3=>if b=true then te σ2 H3 λy H4=>Pv (i+1) (ys++[y]) H4 else Pv (i+1) ys H3)
  (mg:∀ x σ H Q Q',(∀ σ' H',Q σ' H'->Q' σ' H')->g x σ H Q->g x σ H Q') (mt:∀ σ H Q Q',(∀ b H',Q b H'->Q' b H')->tt σ H Q->tt σ H Q') (me:∀ σ H Q Q',(∀ v H',Q v H'->Q' v H')->te σ H Q->te σ H Q')
  (hd:∀ ys H,Pv xs.length ys H->Fin ys H):DV (Uz K a) H σ g tt te Fin:=by
 refine ⟨λi m ys H=>m=xs.length - i/\i<=xs.length/\Pv i ys H,⟨xs.length,by simp,Nat.zero_le _,h0⟩,?_⟩;rintro i m ys H ⟨rfl,hi,p⟩;have q:=hl i ys H p;have sL:=hy i ys H p;refine ⟨(),?_⟩;by_cases Cv:i < xs.length
 ·refine .inr ⟨⟨xs,xs[i],q,by simp [Cv]⟩,(),λx H' y=>?_⟩;obtain ⟨e,y⟩:=y;subst e;refine mg _ _ _ _ _ (fun σ2 H2 z=>⟨z.1,mt _ _ _ _ (λb H3 z=>?_) z.2⟩) (hs i x ys _ (y xs q) p);cases b with
  | true=>exact me _ _ _ _ (λy H4 z=>⟨xs.length - (i+1),(),rfl,Cv,z⟩) z
  | false=>exact ⟨xs.length - (i+1),(),rfl,Cv,z⟩
 ·have e:i=xs.length:=by omega
  subst e;exact .inl ⟨⟨xs,q,Nat.le_refl _⟩,hd ys H p⟩
end
structure eA (X:Cx)(tg:List Expr)(g:RF):Prop where out:Zq X tg g
section
variable {X:Cx}{a b e:Expr}{es:List Expr}{ta tb:TE}{p1 p2 pos Qe HM:Pos}
theorem ah (hu:X.A.units+1 < cLine)(ha:SE X a ta)(hb:SE X b tb)(hm:behindInMarks .In b=false:=by rfl):ST X (.Compare a [.In] [b] pos) (tB (Pq ta tb)):=⟨VE (Pu hu ha.out hb.out) hm⟩
theorem Fx:eA X [] Ng:=⟨S5⟩
theorem BB {t:TG}{u:RF}(h1:SG X e t)(h2:eA X es u)(hs:(assignEach (e::es) X.env).map (·.2)=assign e X.env::(assignEach es X.env).map (·.2):=by rfl):eA X (e::es) (El t u):=⟨OR h1.out h2.out hs⟩
theorem IA {k:Nat}{t:RF}{n:Nat}(hc:X.calm=true)(h:eA X es t)(hn:(assignEach es X.env).length=n:=by rfl)(OS:(assignEach es X.env).findIdx? (·.1)=none:=by rfl):SG X (.Tuple es k pos) (Nh X.K n t):=⟨VQ hc h.out hn OS⟩
theorem Hc {scope:Scope}{cl:List (Str × Addr)}{own fr:List Str}{js:List Nat}{elt iter tg:Expr}{ifs:List Expr}{g:TG}{tt:TT}{te:TE}{wi:TI}{i:Nat}{y:Str}{py PL:Pos}(hN:X.N.Nodup)(hy:X.N[i]?=some y)(hx:Loc X.env.scope y)(S:AZ X scope cl own fr js)(En:X.calm=true)(hi:SI X tg iter wi)
  (hg:∀ C s0 H0 ex,SG (X.cmp scope cl own fr C s0 H0 ex) tg g) (ht:∀ C s0 H0 ex,SF (X.cmp scope cl own fr C s0 H0 ex) ifs tt) (he:∀ C s0 H0 ex,SE (X.cmp scope cl own fr C s0 H0 ex) elt te)
  (i8:swapsWith (.ListComp elt [⟨tg,iter,ifs,0⟩] scope pos) (some (.Name y py)) PL.line X.env=pure true:=by rfl)
  (hf:X.fn y=true\/X.env.scope.names.lookup y=some .local:=by exfalso)
  (hs:∀ x,foldedSetIterable iter X.env x=pure x:=by intro _;rfl):SS X (.Assign [.Name y py] (.ListComp elt [⟨tg,iter,ifs,0⟩] scope pos) PL) (Ls i own js wi g tt te) :=
 ⟨SU hN hy hx S En hi.out (λC s0 H0 ex=>(hg C s0 H0 ex).out) (λC s0 H0 ex=>(ht C s0 H0 ex).out) (λC s0 H0 ex=>(he C s0 H0 ex).out) i8 hf hs⟩
end
section
variable {X:Cx}
theorem any_bools:∀ (bs:List Bool),((List.range bs.length).any λi=>bs.getD i true)=bs.any id:=by
 intro bs;rw [Bool.eq_iff_iff];simp only [List.any_eq_true,List.mem_range,id]
 constructor
 ·rintro ⟨i,hi,h⟩;refine ⟨bs[i],List.getElem_mem hi,?_⟩;simpa [List.getD,List.getElem?_eq_getElem hi] using h
 ·rintro ⟨b,hb,h⟩;obtain ⟨i,hi,e⟩:=List.mem_iff_getElem.mp hb;exact ⟨i,hi,by simpa [List.getD,List.getElem?_eq_getElem hi,e] using h⟩
theorem NT (hc:X.calm=true):Cc X (.builtin "any") (λxs H Q=>∃ (l:Addr) (bs:List Bool),xs=[.ref l]/\H l=some (.lst (bs.map V.bl))/\Q (.bl (bs.any id)) H):=by
 intro pins s σ H xs us Q I r h;obtain ⟨l,bs,rfl,hl,q⟩:=h;obtain ⟨u,rfl,ru⟩:=vals1 r;obtain rfl:u=Value.ref l:=ru;obtain ⟨hz,its,n,rv,e⟩:=(show AN X.prog X.w H s.heap l (.lst (bs.map V.bl)) from I.hok l _ hl);have hlen:=rv.length;rw [List.length_map] at hlen;have hL:s.heap.IsList l its.toArray:=⟨_,e,rfl,n,rfl⟩;have Cv:l < s.heap.objs.size:=Heap.lt_size e;have hh:X.A.in1.handled=none:=I.ok.hd hc;refine call_any_walk (wpAny_pyIter_list hL ?_);refine ⟨s.heap.objs.size,_,_,its.toArray.size,_,_,λi=>bs.getD i true,rfl,Walks.list hh s.heap.objs.size l (Nat.ne_of_lt Cv) its.toArray,⟨⟨_,Heap.get?_push_size _ rfl,rfl,rfl⟩,⟨_,Heap.get?_push_of_some _ e,rfl,n,rfl⟩⟩,?_,λh' tk hk=>?_⟩
 ·intro i v s' Q' E' hv hq;have NH:its[i]?=some v:=by simpa using hv
  have hi:i < its.length:=(List.getElem?_eq_some_iff.mp NH).1;have hb:(bs.map V.bl)[i]?=some (V.bl (bs[i]'())):=by rw [List.getElem?_map,List.getElem?_eq_getElem ()];rfl
  obtain ⟨u,hu,ru⟩:=rv.get hb;rw [NH] at hu;cases hu;obtain rfl:v=Value.bool (bs[i]'()):=ru;refine wpAny_truthy_bool ?_;have e1:bs.getD i true=bs[i]'():=by simp [List.getD,List.getElem?_eq_getElem (show i < bs.length by omega)]
  rw [<- e1];exact hq
 ·have I1:Inv X pins σ H { s with heap:=h',toks:=tk }:=I.kept λb o z=>hk b o (λy=>absurd (List.mem_singleton.mp y) (Nat.ne_of_lt (Heap.lt_size z))) (Heap.get?_push_of_some _ z);refine Ax I1 q ?_;rw [List.size_toArray,<- hlen];exact (any_bools bs).symm
variable {a b o i value e:Expr}{ta tb td ty tv:TE}{pos pos':Pos}{f:Str}
theorem ai (hu:X.A.units+1 < cLine)(hi:SE X i ty)(ho:SE X o td)(h1:behindInMarks .In o=false:=by exfalso):SE X (.Compare i [.In] [o] pos) (Pq ty td):=⟨VD (Pu hu hi.out ho.out) h1⟩
end
section
variable {X:Cx}{pos:Pos}{tg e o i:Expr}{te to ti:TE}{g:TG}{t:OQ}
theorem aj (he:SE X e te)(hg:SG X tg g)(hs:swapsWithSole [tg] e pos.line X.env=pure false:=by rfl)(hw:swappedStores [tg] e X.env=pure none:=by rfl)
  (h1:(assignEach [tg] X.env).map (·.2)=[assign tg X.env]:=by rfl):SS X (.Assign [tg] e pos) (L9 te g):=⟨VT he.out hg.out hs hw h1⟩
theorem ak (ho:SE X o to)(hi:SE X i ti)(hs:VP X t)
  (ha:∀ v,assign (.Subscript o i pos) X.env v=(do
   let ov <- holding [v] (eval o X.env)
   let iv <- holding [v,ov] (eval i X.env)
   standAt pos
   holding [v,ov,iv] (setItem ov iv v)
   release [v,ov,iv] []):=by intro _;rfl):SG X (.Subscript o i pos) (VR to ti t):=⟨VS ho.out hi.out hs ha⟩
end
theorem Tc {n j:Nat}(h:j < n):Sl n (j:Int)=some j:=by
 have:=Ad (xs:=List.range n) (j:=j) (v:=j) (by simp [h]);unfold KY at this;rw [List.length_range] at this;cases e:Sl n (j:Int) with
 | none=>rw [e] at this;cases this
 | some i =>
  rw [e] at this;have this:(List.range n)[i]?=some j:=this;obtain ⟨h1,h2⟩:=List.getElem?_eq_some_iff.mp this;rw [List.getElem_range] at h2;rw [h2]
end L2
namespace PySem
noncomputable def F4 (tu:Bool)(h:Heap)(i l:Addr)(k:Nat):Prop:=if tu=true then h.IsTupleIter i l k else h.IsListIter i l k
noncomputable def F5 (tu:Bool)(h:Heap)(l:Addr)(xs:Array Value):Prop:=if tu=true then h.IsTuple l xs else h.IsList l xs
section
variable {tu:Bool}{h h':Heap}{i l c:Addr}{k:Nat}{xs:Array Value}
theorem F4.at (x:F4 tu h i l k)(e:∀ o,h.get? i=some o->h'.get? i=some o):F4 tu h' i l k:=by
 cases tu with
 | false=>exact Heap.IsListIter.at (h:=h) x e
 | true=>exact Heap.IsTupleIter.at (h:=h) x e
theorem F5.at (x:F5 tu h l xs)(e:∀ o,h.get? l=some o->h'.get? l=some o):F5 tu h' l xs:=by
 cases tu with
 | false=>exact Heap.IsList.at (h:=h) x e
 | true =>
  have x:h.IsTuple l xs:=x;obtain ⟨o,ho,r⟩:=x;exact (show h'.IsTuple l xs from ⟨o,e o ho,r⟩)
theorem F4.extBut (x:F4 tu h i l k)(hs:Heap.ExtBut c h h')(n:i≠c):F4 tu h' i l k:=x.at λo e=>hs i o n e
theorem F5.extBut (x:F5 tu h l xs)(hs:Heap.ExtBut c h h')(n:l≠c):F5 tu h' l xs:=x.at λo e=>hs l o n e
theorem F4.ex (x:F4 tu h i l k):∃ o,h.get? i=some o:=by
 cases tu with
 | false =>
  have x:h.IsListIter i l k:=x;obtain ⟨o,e,_⟩:=x;exact ⟨o,e⟩
 | true =>
  have x:h.IsTupleIter i l k:=x;obtain ⟨o,e,_⟩:=x;exact ⟨o,e⟩
theorem F5.ex (x:F5 tu h l xs):∃ o,h.get? l=some o:=by
 cases tu with
 | false =>
  have x:h.IsList l xs:=x;obtain ⟨o,e,_⟩:=x;exact ⟨o,e⟩
 | true =>
  have x:h.IsTuple l xs:=x;obtain ⟨o,e,_⟩:=x;exact ⟨o,e⟩
end
section
variable {prog:Program}{w:World}{A:Around}{E:Value->Shared->Prop}{s:Shared}{tu:Bool}{it l:Addr}{i:Nat}{xs:Array Value}
theorem MA {x:Value}{Q:Value->Shared->Prop}(hit:F4 tu s.heap it l i)(hl:F5 tu s.heap l xs)(hx:xs[i]?=some x)
  (hQ:∀ h',F4 tu h' it l (i+1)->Heap.SameBut it s.heap h'->Q x { s with heap:=h' }):wpAny (model prog w) A (Builtin.SmallTypes.nextOf (.ref it)) Q E s:=by
 cases tu with
 | false=>exact wpAny_nextOf_list_item hit hl hx hQ
 | true =>
  have hit:s.heap.IsTupleIter it l i:=hit;have hl:s.heap.IsTuple l xs:=hl;have ty:=hit.typeIs;obtain ⟨o,ho,hc,hd⟩:=hit;obtain ⟨ol,iK,_,nl,eB⟩:=hl;unfold Builtin.SmallTypes.nextOf;refine wpAny_bind (wpAny_callSpecial?_slot (name:=Str.ofString "__next__") ty F.slot_tuple_iterator_next (wpAny_call_entry F.slot_tuple_iterator_next ty F.entry_tuple_iterator_next ?_ (F.args_tuple_iterator_next_1 _)));show wpAny (model prog w) _ (field (Value.ref it) 0 >>= _) _ _ _;refine wpAny_bind (wpAny_field ho hd (x:=.ref l) rfl ?_);show wpAny (model prog w) _ (if (Value.ref l==.none)=true then _ else _) _ _ _
  rw [if_neg (show ¬ (Value.ref l==.none)=true from Bool.false_ne_true)];show wpAny (model prog w) _ (field (Value.ref it) 1 >>= _) _ _ _;refine wpAny_bind (wpAny_field ho hd (x:=.int i 0) rfl ?_);show wpAny (model prog w) _ (seqItems? (Value.ref l) >>= _) _ _ _;refine wpAny_bind (wpAny_seqItems iK eB ?_);simp only [Int.toNat_natCast,hx];refine wpAny_bind (wpAny_setField ho hd (by simp) (wpAny_pure ⟨x,rfl,wpAny_pure (hQ _ (show Heap.IsTupleIter _ it l (i+1) from ?_) (Heap.SameBut.update ..))⟩));refine ⟨_,Heap.get?_update_self _ ho (Obj.isFreed_of_fields (Obj.data_mapFields hd _)),(Obj.cls_mapFields ..).trans hc,?_⟩;rw [Obj.data_mapFields hd];simp [rawInt]
theorem WJ {Q:Value->Shared->Prop}(hh:A.handled=none)(hit:F4 tu s.heap it l i)(hl:F5 tu s.heap l xs)(hx:xs[i]?=none)
  (hE:∀ h' e,Heap.ExtBut it s.heap h'->(∃ o,h'.get? e=some o/\o.cls=.type "StopIteration")->E (.ref e) { s with heap:=h' }):wpAny (model prog w) A (Builtin.SmallTypes.nextOf (.ref it)) Q E s:=by
 cases tu with
 | false=>exact wpAny_nextOf_list_end hh hit hl hx hE
 | true =>
  have hit:s.heap.IsTupleIter it l i:=hit;have hl:s.heap.IsTuple l xs:=hl;have ty:=hit.typeIs;obtain ⟨o,ho,hc,hd⟩:=hit;obtain ⟨ol,iK,_,nl,eB⟩:=hl;unfold Builtin.SmallTypes.nextOf;refine wpAny_bind (wpAny_callSpecial?_slot (name:=Str.ofString "__next__") ty F.slot_tuple_iterator_next (wpAny_call_entry F.slot_tuple_iterator_next ty F.entry_tuple_iterator_next ?_ (F.args_tuple_iterator_next_1 _)));show wpAny (model prog w) _ (field (Value.ref it) 0 >>= _) _ _ _;refine wpAny_bind (wpAny_field ho hd (x:=.ref l) rfl ?_);show wpAny (model prog w) _ (if (Value.ref l==.none)=true then _ else _) _ _ _
  rw [if_neg (show ¬ (Value.ref l==.none)=true from Bool.false_ne_true)];show wpAny (model prog w) _ (field (Value.ref it) 1 >>= _) _ _ _;refine wpAny_bind (wpAny_field ho hd (x:=.int i 0) rfl ?_);show wpAny (model prog w) _ (seqItems? (Value.ref l) >>= _) _ _ _;refine wpAny_bind (wpAny_seqItems iK eB ?_);simp only [Int.toNat_natCast,hx];refine wpAny_bind (wpAny_rule (wpAny_bind (wpAny_setField ho hd (by simp) ?_)));show wpAny (model prog w) _ (newExc (.type "StopIteration") [] >>= _) _ _ _;refine wpAny_bind ?_;simp only [newExc,newTuple];refine wpAny_bind (wpAny_newObj_type ?_ (by size_fits));refine wpAny_bind (m:=firstArgMember _ _) (wpAny_of_eq (a:=Value.none) (by first | rfl | (simp only [firstArgMember];rfl)) ?_)
  refine wpAny_newObj_type ?_ (by size_fits);simp only [raiseNew];refine wpAny_bind (wpAny_handled ?_)
  first | rw [show A.in1.handled=none from hh] | rw [hh]
  refine wpAny_bind (wpAny_pure (wpAny_throw ?_));exact hE _ _ (((Heap.SameBut.update ..).extBut.push _).push _) ⟨_,Heap.get?_push_size _ rfl,rfl⟩
end
section
variable {prog:Program}{w:World}{A:Around}{E:Value->Shared->Prop}{s:Shared}
theorem WK {tu:Bool}{z TI TO i1 i2 l1 l2:Addr}{k1:Nat}{xs:Array Value}{a b:Value}{Q:Fin->Shared->Prop}(hh:A.handled=none)(D:ZipApart z TI TO i1 i2 l1 l2)
  (hz:IsZip s.heap z TI TO .none) (WL:IsPair s.heap TI (.ref i1) (.ref i2)) (YF:IsPair s.heap TO a b) (h1:F4 tu s.heap i1 l1 k1) (Er:F5 tu s.heap l1 xs) (hx:xs[k1]?=none)
  (hE:∀ h' e,(∀ c o,c≠z->c≠TO->c≠i1->c≠i2->s.heap.get? c=some o->h'.get? c=some o)->(∃ o,h'.get? e=some o/\o.cls=.type "StopIteration")->E (.ref e) { s with heap:=h' }) :
  wpAny (model prog w) A (Builtin.«zip.__next__» ⟨[.ref z],[]⟩) Q E s:=by
 show wpAny (model prog w) _ (field (Value.ref z) 2 >>= _) _ _ _;refine wpAny_bind (wpAny_field hz rfl (x:=.bool false) rfl ?_);show wpAny (model prog w) _ (field (Value.ref z) 3 >>= _) _ _ _;refine wpAny_bind (wpAny_field hz rfl (x:=.ref TI) rfl ?_);refine wpAny_bind (wpAny_seqItems WL rfl ?_);show wpAny (model prog w) _ (Builtin.SmallTypes.ownedTupleIsFree (Value.ref z) >>= _) _ _ _;refine wpAny_bind ?_;unfold Builtin.SmallTypes.ownedTupleIsFree;refine wpAny_bind (wpAny_field hz rfl (x:=.none) rfl (wpAny_pure ?_));simp only [if_true];refine wpAny_bind (wpAny_rule ?_);refine wpAny_bind (wpAny_field hz rfl (x:=.ref TO) rfl ?_);refine wpAny_bind (wpAny_setField_rec hz (by simp) λha (ZU:IsZip ha z TI TO .ellipsis) sa=>?_);refine wpAny_bind ?_;simp only [List.zipIdx_cons,List.zipIdx_nil,List.forIn_cons,List.forIn_nil];refine wpAny_bind (wpAny_bind (wpAny_onRaise ?_));show wpAny _ _ (Builtin.SmallTypes.nextOf (.ref i1) >>= _) _ _ _;refine wpAny_bind (WJ hh (h1.extBut sa.extBut D.i1z) (Er.extBut sa.extBut D.l1z) hx λhb e sb he=>?_);obtain ⟨oe,ZZ,oF⟩:=he;have oG:IsZip hb z TI TO .ellipsis:=sb _ _ D.i1z.symm ZU;have sM:e≠z:=λq=>by
  subst q;rw [oG] at ZZ;cases ZZ;simp at oF
 exact wpAny_setField_rec oG (by simp) λhc _ sc=>hE hc e (λc o n1 _ n3 _ q=>sc.extBut _ _ n1 (sb _ _ n3 (sa.extBut _ _ n1 q))) ⟨oe,sc.extBut _ _ sM ZZ,oF⟩
theorem K5 {tu:Bool}{z TI TO i1 i2 l1 l2:Addr}{k1:Nat}{xs:Array Value}{a b:Value}{Q:Option Value->Shared->Prop}(hh:A.handled=none)(D:ZipApart z TI TO i1 i2 l1 l2)
  (hz:IsZip s.heap z TI TO .none) (WL:IsPair s.heap TI (.ref i1) (.ref i2)) (YF:IsPair s.heap TO a b) (h1:F4 tu s.heap i1 l1 k1) (Er:F5 tu s.heap l1 xs) (hx:xs[k1]?=none)
  (hQ:∀ h',(∀ c o,c≠z->c≠TO->c≠i1->c≠i2->s.heap.get? c=some o->h'.get? c=some o)->Q none { s with heap:=h' }):wpAny (model prog w) A (pyNext (.ref z)) Q E s:=by
 have ty:s.TypeIs (.ref z) "zip":=⟨_,hz,rfl⟩;unfold pyNext;refine wpAny_bind (wpAny_attempt (wpAny_callSpecial?_slot (name:=Str.ofString "__next__") ty F.slot_zip_next (wpAny_call_entry F.slot_zip_next ty F.entry_zip_next (WK hh D hz WL YF h1 Er hx λh' e hk he=>?_) (F.args_zip_next_1 _))));obtain ⟨o,ho,hc⟩:=he;exact wpAny_bind (wpAny_isInstance (T:="StopIteration") (b:=true) ⟨o,ho,hc⟩ isSubtype_stop (wpAny_pure (hQ _ hk)))
noncomputable def WM (tu:Bool)(l:Addr):Obj:={ cls:=.type (if tu=true then "tuple_iterator" else "list_iterator"),data:=.fields #[.ref l,.int 0 0] }
theorem Qf {tu:Bool}{h:Heap}{i l:Addr}(e:h.get? i=some (WM tu l)):F4 tu h i l 0:=by
 cases tu with
 | false=>exact (show h.IsListIter i l 0 from ⟨_,e,rfl,rfl⟩)
 | true=>exact (show h.IsTupleIter i l 0 from ⟨_,e,rfl,rfl⟩)
theorem Qg {tu:Bool}{l:Addr}{xs:Array Value}{Q:Value->Shared->Prop}(hl:F5 tu s.heap l xs)(hQ:Q (.ref s.heap.objs.size) { s with heap:=s.heap.push (WM tu l) }):wpAny (model prog w) A (pyIter (.ref l)) Q E s:=by
 cases tu with
 | false=>exact wpAny_pyIter_list hl hQ
 | true=>exact wpAny_pyIter_tuple hl hQ
end
end PySem
namespace L2
open PySem PySem.Spec PyProof.Rows KS
theorem WN (n p q:Nat)(h1:p < n)(h2:q < n):ZipApart (n+4) (n+2) (n+3) n (n+1) p q:=by
 constructor <;> (intro z;have z':((_:Nat)=_):=z;omega)
end L2
namespace KG
variable {α:Type}
noncomputable def szs (sz:α->Nat):List α->Nat
 | []=>0
 | t::ts=>sz t+szs sz ts
theorem EB (sz:α->Nat)(a b:List α):szs sz (a++b)=szs sz a+szs sz b:=by
 induction a with
 | nil=>simp [szs]
 | cons t ts ih=>simp only [List.cons_append,szs,ih];omega
variable {kids:α->List α}{sz:α->Nat}
noncomputable def nxt (kids:α->List α):List α->List α
 | []=>[]
 | t::ts=>kids t++ts
noncomputable def ao (kids:α->List α):Nat->List α->List α
 | 0,_=>[]
 | _+1,[]=>[]
 | n+1,t::ts=>t::ao kids n (kids t++ts)
noncomputable def P (kids:α->List α)(sz:α->Nat)(l:List α):List α:=ao kids (szs sz l) l
theorem P_nil:P kids sz []=[]:=rfl
noncomputable def Fo (kids:α->List α):List α->Nat->List α
 | l,0=>l
 | l,j+1=>Fo kids (nxt kids l) j
theorem MB:∀ (j:Nat) (l:List α),Fo kids l (j+1)=nxt kids (Fo kids l j)
 | 0,_=>rfl
 | j+1,l=>by show Fo kids (nxt kids l) (j+1)=_;rw [MB j (nxt kids l)];rfl
theorem LB:∀ j,Fo kids [] j=[]
 | 0=>rfl
 | j+1=>LB j
section
variable (hs:∀ t,szs sz (kids t)+1=sz t)
include hs
theorem aay (t:α):0 < sz t:=by have:=hs t;omega
theorem aaq (t:α)(ts:List α):szs sz (nxt kids (t::ts))+1=szs sz (t::ts):=by
 simp only [nxt,EB,szs];have:=hs t;omega
theorem P_cons (t:α)(ts:List α):P kids sz (t::ts)=t::P kids sz (kids t++ts):=by
 have e:=aaq hs t ts;unfold P;rw [<- e];rfl
theorem P_len:∀ (n:Nat) (l:List α),szs sz l=n->(P kids sz l).length=n
 | 0,[],_=>rfl
 | 0,t::ts,h=>by have:=aay hs t;simp only [szs] at h;omega
 | n+1,[],h=>by simp [szs] at h
 | n+1,t::ts,h=>by
  have e:=aaq hs t ts;rw [P_cons hs,List.length_cons,P_len n (kids t++ts) (by show szs sz (nxt kids (t::ts))=n;omega)]
theorem P_one (t:α):(P kids sz [t]).length=sz t:=by
 have:=P_len hs _ [t] rfl;simpa [szs] using this
theorem US:∀ (j:Nat) (l:List α),(P kids sz l)[j]?=(Fo kids l j).head?
 | 0,[]=>rfl
 | 0,t::ts=>by rw [P_cons hs];rfl
 | j+1,[]=>by show (P kids sz [])[j+1]?=(Fo kids [] j).head?;rw [LB,P_nil];rfl
 | j+1,t::ts=>by
  rw [P_cons hs];show (P kids sz (kids t++ts))[j]?=(Fo kids (nxt kids (t::ts)) j).head?;exact US j _
theorem Fo_size:∀ (j:Nat) (l:List α),szs sz (Fo kids l j)=szs sz l - j
 | 0,_=>rfl
 | j+1,[]=>by rw [LB];simp [szs]
 | j+1,t::ts=>by
  show szs sz (Fo kids (nxt kids (t::ts)) j)=_;rw [Fo_size j];have:=aaq hs t ts;omega
theorem Qh {l:List α}(h:szs sz l=0):l=[]:=by
 cases l with
 | nil=>rfl
 | cons t ts=>have:=aay hs t;simp only [szs] at h;omega
theorem Fo_step {l:List α}{j:Nat}{x:α}(h:(P kids sz l)[j]?=some x):∃ r,Fo kids l j=x::r/\Fo kids l (j+1)=kids x++r:=by
 rw [US hs] at h;cases e:Fo kids l j with
 | nil=>rw [e] at h;cases h
 | cons y r =>
  rw [e] at h;cases h;exact ⟨r,rfl,by rw [MB,e];rfl⟩
theorem Fo_end (l:List α):Fo kids l (szs sz l)=[]:=Qh hs (by rw [Fo_size hs];omega)
theorem aa4 (l:List α):l.length<=szs sz l:=by
 induction l with
 | nil=>simp [szs]
 | cons t ts ih=>have:=aay hs t;simp only [szs,List.length_cons];omega
theorem aa9 (t:α):(kids t).length < sz t:=by
 have h1:=aa4 hs (kids t);have h2:=hs t;omega
theorem P_mem_sz:∀ (n:Nat) (l:List α) (d:α),szs sz l=n->d∈P kids sz l->sz d<=szs sz l
 | 0,[],d,_,h=>by cases h
 | 0,t::ts,d,h,_=>by have:=aay hs t;simp only [szs] at h;omega
 | n+1,[],d,h,_=>by simp [szs] at h
 | n+1,t::ts,d,h,hm=>by
  have e:=aaq hs t ts;rw [P_cons hs] at hm;rcases List.mem_cons.mp hm with z | z
  ·rw [z];simp only [szs];omega
  ·have:=P_mem_sz n (kids t++ts) d (by show szs sz (nxt kids (t::ts))=n;omega) z;have e2:szs sz (kids t++ts)=szs sz (nxt kids (t::ts)):=rfl;omega
end
end KG
namespace L2
open PySem PySem.Spec PyProof.Rows KS
open PySem.W (fnMade fnX envX CodeHd tabObj makeFunction_K makeFunction_hit nestDef_K FnAt callWith_F)
noncomputable def RM (K:W.Frag)(fd:FuncData)(f:Addr)(H:Hp):Prop:=W.keepIn K (.ref f)=true\/∃ fo:Obj,fo.data=.func fd/\H f=some (Ce f fo)
theorem RM.mono {K:W.Frag}{fd:FuncData}{f:Addr}{H H':Hp}(h:∀ b φ,H b=some (.ext φ)->H' b=some (.ext φ))(c:RM K fd f H):RM K fd f H':=by
 rcases c with c | ⟨fo,e,c⟩
 ·exact .inl c
 ·exact .inr ⟨fo,e,h _ _ c⟩
section
variable {X:Cx}{k:Nat}{f:Addr}{fd:FuncData}{ps:List Str}{sp:Sp}{x:Str}{p pos:Pos}{e:Expr}{es:List Expr}{t:TA}{i:Nat}
noncomputable def Qi (K:W.Frag)(fd:FuncData)(sp:Sp)(i:Nat)(f:Addr)(t:TA):TE:=fun σ H Q=>σ[i]?=some (some (.ref f))/\RM K fd f H/\t σ H λvs H1=>RM K fd f H1/\sp vs H1 Q E0
theorem Qj (F:Av X.prog X.w X.K X.mg X.base Bs k f fd ps sp)(hr:AG k X.A)(hb:Binds X.K fd ps [])(hN:X.N[i]?=some x)(hv:Uv X.env.scope x)(ha:PA X (e::es) t)
  (hd:(x==("__debug__":Str))=false:=by decide) (Gy:(x==("__classdict__":Str))=false:=by decide)
  (he:starEach (e::es) X.env=(false,eval e X.env)::starEach es X.env:=by rfl) (Ci:(backTo pos (starEach es X.env)).any (·.1)=false:=by rfl) :
  PE X (.Call (.Name x p) (e::es) [] pos) (Qi X.K fd sp i f t):=by
 intro pins s σ H Q I h;obtain ⟨eC,YG,h⟩:=h;refine wpAny_Call_Name_kw (AX ((L8 (pos:=p) hN hv hd Gy) pins s σ H (λw G=>w=.ref f/\G=H) I ⟨_,eC,rfl,rfl⟩) λu s1 q1=>?_);obtain ⟨y,H1,I1,r1,ey,eH⟩:=q1;subst ey eH;obtain rfl:u=Value.ref f:=r1;have hz:∀ us:List Value,us++[]=us:=λus=>List.append_nil us;rcases YG with hk | ⟨fo,SK,YG⟩
 ·refine W.callWith_K (h₀:=X.base) I.ok.mod.kin hk (AX (ha pos pins s1 σ H1 _ I1 h) λus s2 q2=>?_) he Ci;obtain ⟨vs,H2,I2,r2,YH,q2⟩:=q2;refine ⟨I2.kIn,?_⟩;exact GI (us:=us) (dvs:=[]) (ds:=[]) F hr hb .nil JN I2 r2 (by rw [List.append_nil];exact q2)
 ·have at':∀ {s:Shared} {H:Hp},Inv X pins σ H s->RM X.K fd f H->FnAt f s.heap\/W.keepIn X.K (.ref f)=true:=λ{s H} J z=>by
   rcases z with z | ⟨fo,SK,z⟩
   ·exact .inr z
   ·have g:=Ce.get J.hok z;obtain ⟨oc,od,da,sl⟩:=fo;have iL:da=.func fd:=SK;subst iL;exact .inl ⟨oc,od,fd,sl,g⟩
  by_cases hk:W.keepIn X.K (.ref f)=true
  ·refine W.callWith_K (h₀:=X.base) I.ok.mod.kin hk (AX (ha pos pins s1 σ H1 _ I1 h) λus s2 q2=>?_) he Ci;obtain ⟨vs,H2,I2,r2,YH,q2⟩:=q2;exact ⟨I2.kIn,GI (us:=us) (dvs:=[]) (ds:=[]) F hr hb .nil JN I2 r2 (by rw [List.append_nil];exact q2)⟩
  ·refine callWith_F ((at' I1 (.inr ⟨fo,SK,YG⟩)).resolve_right hk) (AX (ha pos pins s1 σ H1 _ I1 h) λus s2 q2=>?_) he Ci;obtain ⟨vs,H2,I2,r2,YH,q2⟩:=q2;exact ⟨(at' I2 YH).resolve_right hk,GI (us:=us) (dvs:=[]) (ds:=[]) F hr hb .nil JN I2 r2 (by rw [List.append_nil];exact q2)⟩
theorem MC (F:Av X.prog X.w X.K X.mg X.base Bs k f fd ps sp)(hr:AG k X.A)(hb:Binds X.K fd ps [])(hN:X.N[i]?=some x)(hv:Uv X.env.scope x)(ha:SA X (e::es) t)
  (hd:(x==("__debug__":Str))=false:=by decide) (Gy:(x==("__classdict__":Str))=false:=by decide)
  (he:starEach (e::es) X.env=(false,eval e X.env)::starEach es X.env:=by exfalso) (Ci:(backTo pos (starEach es X.env)).any (·.1)=false:=by rfl) :
  SE X (.Call (.Name x p) (e::es) [] pos) (Qi X.K fd sp i f t):=⟨Qj F hr hb hN hv ha.out hd Gy he Ci⟩
end
theorem aq {R:List Value->Prop}(h:∀ a0,R [a0]):∀ us:List Value,us.length=1->R us:=by
 intro us e;cases us with
 | nil=>cases e
 | cons a t=>cases List.eq_nil_of_length_eq_zero (Nat.succ.inj e);exact h a
theorem ar {R:List Value->Prop}(h:∀ a0 a1,R [a0,a1]):∀ us:List Value,us.length=2->R us:=by
 intro us e;cases us with
 | nil=>cases e
 | cons a t=>exact aq (R:=λt=>R (a::t)) (h a) t (Nat.succ.inj e)
end L2
namespace L2
open PySem PySem.Spec PyProof.Rows KS
noncomputable def LC (n:Nat)(o:HO)(H1:Hp)(Q:VK):Prop:=n<=sizeLine/\∀ p,H1 p=none->Q (.ref p) (upd H1 p o)
section
variable {σ:St}{H:Hp}{Q:VK}{QB:Bool->Hp->Prop}{D:Ends}
theorem WO {i:Nat}{v:V}(h:σ[i]?=some (some v))(q:Q v H):B2 i σ H Q:=⟨v,h,q⟩
theorem iM {v:V}(q:Q v H):tC v σ H Q:=q
theorem oH {r:R2}{ta tb:TE}(q:ta σ H λx H1=>tb σ H1 λy H2=>r x y H2 Q):Fj r ta tb σ H Q:=q
theorem oI {r:V->Hp->VK->Prop}{ta:TE}(q:ta σ H λx H1=>r x H1 Q):gO r ta σ H Q:=q
theorem UT {C:Int->Int->Prop}{g:Int->Int->V}{i j:Int}(c:C i j)(q:Q (g i j) H):rI C g (.int i) (.int j) H Q:=⟨i,j,rfl,rfl,c,q⟩
theorem iO {g:Int->Int->V}{i j:Int}(q:Q (g i j) H):RH g (.int i) (.int j) H Q:=⟨i,j,rfl,rfl,q⟩
theorem oJ {g:Int->V}{i:Int}(q:Q (g i) H):rU g (.int i) H Q:=⟨i,rfl,q⟩
theorem Qk {x y:V}(h:OZ x y=true)(q:Q (.bl (decide (x=y))) H):nV x y H Q:=⟨h,q⟩
theorem iP {x y:V}(h:OZ x y=true)(q:Q (.bl (!decide (x=y))) H):nW x y H Q:=⟨h,q⟩
theorem eE {t:TE}(q:t σ H λx H'=>∃ k,x=.bl k/\QB k H'):Ml t σ H QB:=q
theorem oK {t:TE}(q:t σ H λx H'=>∃ k,x=.bl k/\QB k H'):tB t σ H QB:=q
theorem oM {b:Bool}{P:Bool->Prop}(q:P b):∃ k,V.bl b=V.bl k/\P k:=⟨b,rfl,q⟩
theorem iQ {t:TT}(q:t σ H λc H1=>QB (!c) H1):VH t σ H QB:=q
theorem iR {t u:TT}(q:t σ H λc H1=>if c=true then u σ H1 QB else QB false H1):VG t u σ H QB:=q
theorem oN {t u:TT}(q:t σ H λc H1=>if c=true then QB true H1 else u σ H1 QB):gH t u σ H QB:=q
theorem oO {t:TT}{ta tb:TE}(q:t σ H λc H1=>if c=true then ta σ H1 Q else tb σ H1 Q):gJ t ta tb σ H Q:=q
theorem eF {ta:TE}(q:ta σ H λx H1=>∃ c,x=.bl c/\Q (.bl (!c)) H1):OM ta σ H Q:=q
theorem eG {ta tb:TE}(q:ta σ H λx H1=>∃ c,x=.bl c/\if c=true then tb σ H1 Q else Q (.bl false) H1):OL ta tb σ H Q:=q
theorem YI {te:TE}{i:Nat}{u:TS}(q:te σ H λx H1=>u D (σ.set i (some x)) H1):Bp (L9 te (BP i)) u D σ H:=q
theorem WQ {te:TE}{i:Nat}(q:te σ H λx H1=>D.nx (σ.set i (some x)) H1):L9 te (BP i) D σ H:=q
theorem YJ {c:TT}{t u:TS}(q:c σ H λb H1=>if b=true then t { D with nx:=u D } σ H1 else u D σ H1):Bp (OO c t Mc) u D σ H:=q
theorem iT {c:TT}{t u:TS}(q:c σ H λb H1=>if b=true then t D σ H1 else u D σ H1):OO c t u D σ H:=q
theorem WR {te:TE}{u:TS}(q:te σ H λ_ H1=>u D σ H1):Bp (Me te) u D σ H:=q
theorem eJ {te:TE}(q:te σ H λ_ H1=>D.nx σ H1):Me te D σ H:=q
theorem iU {te:TE}(q:te σ H D.rt):S3 te D σ H:=q
theorem eL (q:D.nx σ H):Mc D σ H:=q
theorem iW {Q:List V->Hp->Prop}(q:Q [] H):Fq σ H Q:=q
theorem eM {te:TE}{t:TA}{Q:List V->Hp->Prop}(q:te σ H λx H1=>t σ H1 λxs H2=>Q (x::xs) H2):Be te t σ H Q:=q
theorem iX {t:TA}(q:t σ H λxs H1=>LC xs.length (.tup xs) H1 Q):Pa t σ H Q:=q
theorem iY {t:TA}(q:t σ H λxs H1=>LC xs.length (.lst xs) H1 Q):W5 t σ H Q:=q
theorem eN {sp:Sp}{E:XK}{t:TA}(q:t σ H λvs H1=>sp vs H1 Q E):CV sp [] E t σ H Q:=by
 have e:(λvs H1=>sp (vs++[]) H1 Q E)=λvs H1=>sp vs H1 Q E:=by funext vs H1;rw [List.append_nil]
 show t σ H λvs H1=>sp (vs++[]) H1 Q E;rw [e];exact q
theorem oP {r:List V->Hp->VK->Prop}{t:TA}(q:t σ H λvs H1=>r vs H1 Q):Wa r t σ H Q:=q
theorem Cj {K:W.Frag}{p:Addr}{xs:List V}{i:Int}{v:V}(h:AI K H p xs)(e:KY xs i=some v)(q:Q v H):C3 K (.ref p) (.int i) H Q:=⟨p,xs,i,v,rfl,rfl,h,e,q⟩
theorem J3 {K:W.Frag}{p:Addr}{xs:List V}{i:Int}{v:V}(h:B0 K H p xs)(e:KY xs i=some v)(q:Q v H):Bg K (.ref p) (.int i) H Q:=⟨p,xs,i,v,rfl,rfl,h,e,q⟩
theorem A5 {K:W.Frag}{p:Addr}{xs:List V}{i:Int}{v:V}(h:H p=some (.tup xs))(e:KY xs i=some v)(q:Q v H):Bg K (.ref p) (.int i) H Q:=J3 (B0.of h) e q
theorem BD {K:W.Frag}{p:Addr}{xs:List V}{i:Int}(h:AI K H p xs)(h0:0<=i)(h1:i < xs.length)(q:∀ v,v∈xs->Q v H):C3 K (.ref p) (.int i) H Q:=by
 obtain ⟨v,hv,hm⟩:=Qa h0 h1;exact ⟨p,xs,i,v,rfl,rfl,h,hv,q v hm⟩
end
theorem WS {c:Prop}[Decidable c]{A T R:Prop}(hR:R)(hA:c->R->A):if c then A else (if false=true then T else R):=by
 by_cases h:c
 ·rw [if_pos h];exact hA h hR
 ·rw [if_neg h];exact BG hR
theorem YK {c:Prop}[Decidable c]{A T R:Prop}(hT:T)(hA:¬ c->T->A):if c then (if true=true then T else R) else A:=by
 by_cases h:c
 ·rw [if_pos h];exact C5 hT
 ·rw [if_neg h];exact hA h hT
theorem LD (n:Nat):((n+1:Nat):Int) - 1=(n:Int):=by omega
theorem Cf {n:Nat}(h:n<=16777216):n<=sizeLine:=E1▸h
theorem BW {n:Nat}(h:n < 16777216):n < sizeLine:=E1▸h
end L2
local macro_rules | `(tactic| fail)=>do
 let mut r<- `(tactic| with_reducible refine L2.oP ?_)
 for s in "L2.eN L2.iY L2.iX L2.eM L2.iW eO L2.iU L2.eJ L2.WR L2.iT L2.YJ L2.WQ L2.YI L2.eG L2.eF L2.oO L2.oN L2.iR L2.iQ L2.oM L2.oK L2.eE L2.oJ L2.iO L2.oI L2.oH L2.iM".splitOn " " do r<- `(tactic| first | with_reducible refine $(Lean.mkIdent s.toName) ?_ | $r:tactic)
 `(tactic| first
 | ((with_reducible refine L2.WO (v:=?v) ?h ?q);(case h=>rfl))
 | ((with_reducible refine L2.UT ?c ?q);(case c=>first | exact ⟨⟨⟩,⟨⟩⟩ | decide | exact .inl ⟨⟨⟩,⟨⟩⟩ | exact .inr ⟨⟨⟩,⟨⟩⟩ | exact ⟨⟨⟩,⟨⟩,⟨⟩⟩))
 | ((with_reducible refine L2.Qk ?h ?q);(case h=>rfl))
 | ((with_reducible refine L2.iP ?h ?q);(case h=>rfl))
 | ((with_reducible refine L2.eL ?_);dsimp only)
 | $r:tactic)
local macro_rules | `(tactic| left)=>`(tactic| repeat fail)
namespace L2
open PySem PySem.Spec PyProof.Rows KS
theorem CG {n:Nat}{H1:Hp}{o:HO}{R:VK}(h:n<=sizeLine)(q:∀ p H2,H1 p=none->A9 H1 H2->H2 p=some o->R (.ref p) H2):LC n o H1 R :=
 ⟨h,λp hp=>q p _ hp (A9.new hp) Aa⟩
end L2
local macro_rules | `(tactic| intros $p:ident $h:ident $s:ident $e:ident)=>`(tactic| ((refine L2.CG ?hh fun $p $h hn $s $e=>?qq);(case hh=>first | exact L2.Cf (by decide) | (simp only [List.length_cons,List.length_nil];exact L2.Cf (by decide)))))
namespace L2
open PySem PySem.Spec PyProof.Rows KS
theorem Dy {H:Hp}{Q:VK}{l b:Addr}{xs zs:List V}(hl:H l=some (.lst xs))(hb:H b=some (.lst zs))(hn:xs.length+zs.length<=sizeLine)(q:∀ p H2,H p=none->A9 H H2->H2 p=some (.lst (xs++zs))->Q (.ref p) H2):ZD (.ref l) (.ref b) H Q :=
 ⟨l,b,xs,zs,rfl,rfl,hl,hb,hn,λp hp=>q p _ hp (A9.new hp) Aa⟩
noncomputable def Cl (Pr:Program)(w:World)(K:W.Frag)(mg:Str->Option Value)(base:Heap)(k:Nat)(x:Str)(ps:List Str)(sp:Sp):Prop:=∃ f fd,Av Pr w K mg base Bs k f fd ps sp/\W.keepIn K (.ref f)=true/\Binds K fd ps []/\mg x=some (.ref f)
section
variable {X:Cx}{k:Nat}{ps:List Str}{sp:Sp}{x:Str}{p pos:Pos}{e:Expr}{es:List Expr}{t:TA}
theorem As (F:Cl X.prog X.w X.K X.mg X.base k x ps sp)(hr:AG k X.A)(hg:Gl X x)(ha:SA X (e::es) t)(CW:(x==("__debug__":Str))=false:=by decide)
  (he:starEach (e::es) X.env=(false,eval e X.env)::starEach es X.env:=by exfalso) (Ci:(backTo pos (starEach es X.env)).any (·.1)=false:=by rfl) :
  SE X (.Call (.Name x p) (e::es) [] pos) (CV sp [] E0 t):=by
 obtain ⟨f,fd,h1,h2,h3,h4⟩:=F;exact Lu h1 hr hg h4 h2 h3 ha CW he Ci
end
theorem Cl.mono {Pr:Program}{w:World}{K:W.Frag}{mg:Str->Option Value}{base:Heap}{j k:Nat}{x:Str}{ps:List Str}{sp:Sp}(h:j<=k)(F:Cl Pr w K mg base j x ps sp):Cl Pr w K mg base k x ps sp:=by
 obtain ⟨f,fd,h1,h2⟩:=F;exact ⟨f,fd,h1.mono h,h2⟩
structure Df (K:W.Frag)(mg:Str->Option Value)(x:Str)(st:Stmt)(ps:List Str)(f:Addr)(fd:FuncData):Prop where
 F:C8 K x x st f fd
 b:Binds K fd ps []
 m:mg x=some (.ref f)
theorem Df.cl {Pr:Program}{w:World}{K:W.Frag}{mg:Str->Option Value}{base:Heap}{k:Nat}{x:Str}{st:Stmt}{ps:List Str}{f:Addr}{fd:FuncData}{sp:Sp}(D:Df K mg x st ps f fd)(G:Av Pr w K mg base Bs k f fd ps sp):Cl Pr w K mg base k x ps sp:=⟨f,fd,G,D.F.kp,D.b,D.m⟩
noncomputable def Nx (n i:Nat)(Pv:Nat->List V->Hp->Prop)(ys:List V)(H:Hp):Prop:=∃ m,m < n - i/\m=n - (i+1)/\i+1<=n/\Pv (i+1) ys H
theorem Nx.mk {n i:Nat}{Pv:Nat->List V->Hp->Prop}{ys:List V}{H:Hp}(hi:i < n)(h:Pv (i+1) ys H):Nx n i Pv ys H:=⟨n - (i+1),(),rfl,hi,h⟩
section
variable {g:TG}{tt:TT}{te:TE}{σ:St}{Fin:List V->Hp->Prop}{K:W.Frag}{a:Addr}{xs:List V}{H:Hp}
theorem F6 {J:It}{n:Nat}(Pv:Nat->List V->Hp->Prop)(h0:Pv 0 [] H)(hn:n < sizeLine)(hy:∀ i ys H,Pv i ys H->ys.length<=i)
  (iZ:∀ i ys H,i < n->Pv i ys H->J.go i H) (OS:∀ ys H,Pv n ys H->J.stop n H)
  (hs:∀ i ys H x H',i < n->Pv i ys H->J.yld i H x H'->g x σ H' fun σ2 H2=>Ext σ σ2/\tt σ2 H2 λb H3=>if b=true then te σ2 H3 λy H4=>Nx n i Pv (ys++[y]) H4 else Nx n i Pv ys H3)
  (hd:∀ ys H,Pv n ys H->Fin ys H):DV J H σ g tt te Fin:=by
 refine ⟨λi m ys H=>m=n - i/\i<=n/\Pv i ys H,⟨n,by simp,Nat.zero_le _,h0⟩,?_⟩;rintro i m ys H ⟨rfl,hi,p⟩;have sL:=hy i ys H p;refine ⟨(),?_⟩;by_cases Cv:i < n
 ·exact .inr ⟨iZ i ys H Cv p,(),λx H' y=>hs i ys H x H' Cv p y⟩
 ·have e:i=n:=by omega
  subst e;exact .inl ⟨OS ys H p,hd ys H p⟩
theorem Gn (Pv:Nat->List V->Hp->Prop)(h0:Pv 0 [] H)(hl:∀ i ys H,Pv i ys H->AI K H a xs)(hn:xs.length < sizeLine)(hy:∀ i ys H,Pv i ys H->ys.length<=i)(e0:σ[0]?=some none)
  (hs:∀ i x ys H,xs[i]?=some x->Pv i ys H->tt (σ.set 0 (some x)) H λb H3=>if b=true then te (σ.set 0 (some x)) H3 λy H4=>Nx xs.length i Pv (ys++[y]) H4 else Nx xs.length i Pv ys H3)
  (hd:∀ ys H,Pv xs.length ys H->Fin ys H):DV (Uz K a) H σ (BP 0) tt te Fin :=
 F6 Pv h0 hn hy (λi ys H hi p=>⟨xs,xs[i],hl i ys H p,by simp [hi]⟩) (λys H p=>⟨xs,hl _ ys H p,Nat.le_refl _⟩)
  (λi ys H x H' hi p y=>by
   obtain ⟨rfl,y⟩:=y;exact ⟨Ext.set e0,hs i x ys _ (y xs (hl i ys _ p)) p⟩) hd
theorem Hd (Pv:Nat->List V->Hp->Prop)(h0:Pv 0 [] H)(hl:∀ i ys H,Pv i ys H->B0 K H a xs)(hn:xs.length < sizeLine)(hy:∀ i ys H,Pv i ys H->ys.length<=i)(e0:σ[0]?=some none)
  (hs:∀ i x ys H,xs[i]?=some x->Pv i ys H->tt (σ.set 0 (some x)) H λb H3=>if b=true then te (σ.set 0 (some x)) H3 λy H4=>Nx xs.length i Pv (ys++[y]) H4 else Nx xs.length i Pv ys H3)
  (hd:∀ ys H,Pv xs.length ys H->Fin ys H):DV (VU K a) H σ (BP 0) tt te Fin :=
 F6 Pv h0 hn hy (λi ys H hi p=>⟨xs,xs[i],hl i ys H p,by simp [hi]⟩) (λys H p=>⟨xs,hl _ ys H p,Nat.le_refl _⟩)
  (λi ys H x H' hi p y=>by
   obtain ⟨rfl,y⟩:=y;exact ⟨Ext.set e0,hs i x ys _ (y xs (hl i ys _ p)) p⟩) hd
theorem K6 {lo:Int}{n:Nat}(Pv:Nat->List V->Hp->Prop)(h0:Pv 0 [] H)(hn:n < sizeLine)(hy:∀ i ys H,Pv i ys H->ys.length<=i)(e0:σ[0]?=some none)
  (hs:∀ i ys H,i < n->Pv i ys H->tt (σ.set 0 (some (.int (lo+i)))) H λb H3=>if b=true then te (σ.set 0 (some (.int (lo+i)))) H3 λy H4=>Nx n i Pv (ys++[y]) H4 else Nx n i Pv ys H3)
  (hd:∀ ys H,Pv n ys H->Fin ys H):DV (S6 lo n) H σ (BP 0) tt te Fin :=
 F6 Pv h0 hn hy (λi ys H hi p=>hi) (λys H p=>Nat.le_refl _)
  (λi ys H x H' hi p y=>by
   obtain ⟨rfl,rfl⟩:=y;exact ⟨Ext.set e0,hs i ys _ hi p⟩) hd
theorem K7 {L:It}{n:Nat}(Pv:Nat->List V->Hp->Prop)(h0:Pv 0 [] H)(hn:n < sizeLine)(hy:∀ i ys H,Pv i ys H->ys.length<=i)(e0:σ[0]?=some none)(e1:σ[1]?=some none)
  (iZ:∀ i ys H,i < n->Pv i ys H->L.go i H) (OS:∀ ys H,Pv n ys H->L.stop n H)
  (hs:∀ i ys H x H',i < n->Pv i ys H->L.yld i H x H'->∃ q u v,x=.ref q/\B0 K H' q [u,v]/\tt ((σ.set 0 (some u)).set 1 (some v)) H' λb H3=>if b=true then te ((σ.set 0 (some u)).set 1 (some v)) H3 λy H4=>Nx n i Pv (ys++[y]) H4 else Nx n i Pv ys H3)
  (hd:∀ ys H,Pv n ys H->Fin ys H):DV L H σ (Nh K 2 (El (BP 0) (El (BP 1) Ng))) tt te Fin :=
 F6 Pv h0 hn hy iZ OS (λi ys H x H' hi p y=>by
   obtain ⟨q,u,v,rfl,h1,h2⟩:=hs i ys H x H' hi p y;refine ⟨q,[u,v],rfl,h1,rfl,u,[v],rfl,v,[],rfl,rfl,⟨by simp,λj z hj=>?_⟩,h2⟩;cases j with
   | zero=>rw [e0] at hj;cases hj
   | succ j=>cases j with
    | zero=>rw [e1] at hj;cases hj
    | succ j=>simpa using hj) hd
theorem Td {t u:TS}{D:Ends}(Jn:St->Hp->Prop)(fin:∀ σ' H',Jn σ' H'->u D σ' H')(q:(∀ σ' H',Jn σ' H'->u D σ' H')->Bp t u D σ H):Bp t u D σ H:=q fin
theorem C9 {t u:TS}{D:Ends}(Jn:St->Hp->Prop)(fin:∀ σ' H',Jn σ' H'->u D σ' H')(q:∀ N:St->Hp->Prop,(∀ σ' H',Jn σ' H'->N σ' H')->t { D with nx:=N } σ H):Bp t u D σ H:=q (u D) fin
theorem Ql {c:TT}{t e u:TS}{D:Ends}(q:c σ H λb H1=>if b=true then t { D with nx:=u D } σ H1 else e { D with nx:=u D } σ H1):Bp (OO c t e) u D σ H:=q
theorem Qm {QB:Bool->Hp->Prop}(q:QB true H):GU σ H QB:=q
theorem eP {own:List Str}{js:List Nat}{wi:TI}{Q:VK}(q:wi σ H λJ H1=>DV J H1 (Cw own js σ) g tt te λys H2=>LC 0 (.lst ys) H2 Q):Mu own js wi g tt te σ H Q:=by
 have e:(λys (H2:Hp)=>LC 0 (.lst ys) H2 Q)=λys H2=>∀ D,H2 D=none->Q (.ref D) (upd H2 D (.lst ys)):=by funext ys H2;exact propext ⟨λh=>h.2,λh=>⟨Nat.zero_le _,h⟩⟩
 rw [e] at q;exact q
theorem UU {own:List Str}{js:List Nat}{wi:TI}{i:Nat}{u:TS}{D:Ends}(q:wi σ H λJ H1=>DV J H1 (Cw own js σ) g tt te λys H2=>LC 0 (.lst ys) H2 λv H3=>u D (σ.set i (some v)) H3):Bp (Ls i own js wi g tt te) u D σ H:=by
 have e:(λys (H2:Hp)=>LC 0 (.lst ys) H2 λv H3=>u D (σ.set i (some v)) H3)=λys H2=>∀ a,H2 a=none->u D (σ.set i (some (.ref a))) (upd H2 a (.lst ys)):=by funext ys H2;exact propext ⟨λh=>h.2,λh=>⟨Nat.zero_le _,h⟩⟩
 rw [e] at q;exact q
theorem au {tl:TE}{R:It->Hp->Prop}(q:tl σ H λx H1=>∃ a,x=.ref a/\(∃ xs,AI K H1 a xs)/\R (Uz K a) H1):Mh K tl σ H R:=q
theorem eQ {tl:TE}{R:It->Hp->Prop}(q:tl σ H λx H1=>∃ a,x=.ref a/\(∃ xs,B0 K H1 a xs)/\R (VU K a) H1):VW K tl σ H R:=q
theorem Es {neg:Bool}{x:V}{p:Addr}{ys:List V}{Q:VK}(h:AI K H p ys\/B0 K H p ys)(fx:DK x=true)(fy:ys.all DK=true)(q:Q (.bl (if neg then !FR x ys else FR x ys)) H):Nt K neg x (.ref p) H Q:=⟨p,ys,rfl,h,fx,fy,q⟩
end
section
variable {σ:St}{H:Hp}{Q:VK}{K:W.Frag}
theorem aw {td ty tx:TE}(q:td σ H λx H1=>∃ a,x=.ref a/\ZH H1 a/\ty σ H1 λy H2=>tx σ H2 λz H3=>∃ o,Dc H3 a y o/\Q (o.getD z) H3):Lp td ty tx σ H Q:=q
theorem j4 {td ty:TE}(q:ty σ H λy H1=>td σ H1 λx H2=>∃ a o,x=.ref a/\Dc H2 a y o/\Q (.bl o.isSome) H2):Pq ty td σ H Q:=q
theorem eR {R:List (V × V)->Hp->Prop}(q:R [] H):EA [] σ H R:=q
theorem j6 {tk tv:TE}{r:List (TE × TE)}{R:List (V × V)->Hp->Prop}(q:tk σ H λk H1=>tv σ H1 λv H2=>EA r σ H2 λps H3=>R ((k,v)::ps) H3):EA ((tk,tv)::r) σ H R:=q
theorem D2 {Im:List (TE × TE)}(q:∀ p H1,H p=none->A9 H H1->H1 p=some (.dK [])->EA Im σ H1 λps H2=>H2 p=some (.dK [])/\∃ Ai:List (Key × V),ps=Ai.map (λkv=>(kV kv.1,kv.2))/\Ai.length<=15/\∀ H3,(∀ b,b≠p->H3 b=H2 b)->H3 p=some (.dK (Bd [] Ai))->Q (.ref p) H3):Pz Im σ H Q:=λp hp=>by
 have h:=q p _ hp (A9.new hp) Aa;have e:(λps (H2:Hp)=>H2 p=some (.dK [])/\∃ Ai:List (Key × V),ps=Ai.map (λkv=>(kV kv.1,kv.2))/\Ai.length<=15/\∀ H3,(∀ b,b≠p->H3 b=H2 b)->H3 p=some (.dK (Bd [] Ai))->Q (.ref p) H3) =
  λps (H2:Hp)=>H2 p=some (.dK [])/\∃ Ai:List (Key × V),ps=Ai.map (λkv=>(kV kv.1,kv.2))/\Ai.length<=15/\Q (.ref p) (upd H2 p (.dK (Bd [] Ai))):=by
  funext ps H2
  refine propext ⟨?_,?_⟩
  ·rintro ⟨h1,Ai,h2,h3,h4⟩;exact ⟨h1,Ai,h2,h3,h4 _ (λb hb=>Aj hb) Aa⟩
  ·rintro ⟨h1,Ai,h2,h3,h4⟩;refine ⟨h1,Ai,h2,h3,λH3 a b=>?_⟩;have:H3=upd H2 p (.dK (Bd [] Ai)):=by
    funext c
    by_cases hc:c=p
    ·subst hc;rw [b,Aa]
    ·rw [a c hc,Aj hc]
   rw [this];exact h4
 rw [e] at h;exact h
theorem oQ {r:V->Option Int->Option Int->Hp->VK->Prop}{te:TE}{tl th:TO}(q:te σ H λx H1=>tl σ H1 λl H2=>th σ H2 λu H3=>r x l u H3 Q):gT r te tl th σ H Q:=q
theorem YL {R:Option Int->Hp->Prop}(q:R none H):IU σ H R:=q
theorem eS {t:TE}{R:Option Int->Hp->Prop}(q:t σ H λx H1=>∃ i,x=.int i/\R (some i) H1):Pf t σ H R:=q
theorem j7 {i:Int}{P:Int->Prop}(q:P i):∃ k,V.int i=V.int k/\P k:=⟨i,rfl,q⟩
theorem Ck {a:Addr}{xs:List V}{lo hi:Option Int}(h:B0 K H a xs)(n:¬ (HT.sIx xs.length 0 lo=0/\HT.sIx xs.length xs.length hi=xs.length))(q:∀ p H2,H p=none->A9 H H2->H2 p=some (.tup (Dj xs lo hi))->Q (.ref p) H2):G0 K (.ref a) lo hi H Q:=⟨a,xs,rfl,h,n,λp hp=>q p _ hp (A9.new hp) Aa⟩
theorem Qn {a:Addr}{xs:List V}{lo hi:Option Int}(h:AI K H a xs)(q:∀ p H2,H p=none->A9 H H2->H2 p=some (.lst (Dj xs lo hi))->Q (.ref p) H2):Wd K (.ref a) lo hi H Q:=⟨a,xs,rfl,h,λp hp=>q p _ hp (A9.new hp) Aa⟩
theorem F7 {a b:Addr}{xs ys:List V}(ha:B0 K H a xs)(hb:B0 K H b ys)(n:xs≠[])(hn:xs.length+ys.length<=sizeLine)(h1:ys=[]->Q (.ref a) H)(h2:∀ p H2,H p=none->A9 H H2->H2 p=some (.tup (xs++ys))->Q (.ref p) H2):FQ K (.ref a) (.ref b) H Q:=⟨a,b,xs,ys,rfl,rfl,ha,hb,n,hn,h1,λ_ p hp=>h2 p _ hp (A9.new hp) Aa⟩
end
end L2
local macro_rules | `(tactic| fail)=>do
 let mut r<- `(tactic| with_reducible refine L2.j7 ?_)
 for s in "L2.eS L2.YL L2.oQ L2.j6 L2.eR L2.j4 eT L2.aw".splitOn " " do r<- `(tactic| first | with_reducible refine $(Lean.mkIdent s.toName) ?_ | $r:tactic)
 return r
local macro_rules | `(tactic| fail)=>do
 let mut r<- `(tactic| with_reducible refine L2.eQ ?_)
 for s in "L2.au L2.UU L2.eP L2.Qm".splitOn " " do r<- `(tactic| first | with_reducible refine $(Lean.mkIdent s.toName) ?_ | $r:tactic)
 return r
namespace L2
open PySem PySem.Spec PyProof.Rows KS
theorem Paired.len {α β:Type}{F:α->β->Prop}{a:List α}{b:List β}(h:Paired F a b):a.length=b.length:=Paired.length h
theorem Paired.at1 {α β:Type}{F:α->β->Prop}:∀ {a:List α} {b:List β} {i:Nat} {x:α},Paired F a b->a[i]?=some x->∃ y,b[i]?=some y/\F x y:=by
 intro a b i x p
 revert i
 induction p with
 | nil=>intro i e;simp at e
 | cons r _ ih =>
  intro i e;cases i with
  | zero=>cases e;exact ⟨_,rfl,r⟩
  | succ i=>exact ih (i:=i) e
end L2
namespace L2
open PySem
section
variable {σ:St}{H:Hp}{D:Ends}
theorem NU {t0 t1 t2 t3 t4 t5 t6 t7 t8 t9 u:TS}(Jn:St->Hp->Prop)(fin:∀ σ' H',Jn σ' H'->u D σ' H')(q:∀ N:St->Hp->Prop,(∀ σ' H',Jn σ' H'->N σ' H')->Bp t0 (Bp t1 (Bp t2 (Bp t3 (Bp t4 (Bp t5 (Bp t6 (Bp t7 (Bp t8 t9)))))))) { D with nx:=N } σ H):Bp t0 (Bp t1 (Bp t2 (Bp t3 (Bp t4 (Bp t5 (Bp t6 (Bp t7 (Bp t8 (Bp t9 u))))))))) D σ H:=q (u D) fin
theorem Qo {t0 t1 t2 u:TS}(Jn:St->Hp->Prop)(fin:∀ σ' H',Jn σ' H'->u D σ' H')(q:∀ N:St->Hp->Prop,(∀ σ' H',Jn σ' H'->N σ' H')->Bp t0 (Bp t1 t2) { D with nx:=N } σ H):Bp t0 (Bp t1 (Bp t2 u)) D σ H:=q (u D) fin
end
end L2
section
local macro_rules | `(tactic| omega)=>`(tactic| lia)
local macro_rules | `(tactic| apply $t)=>`(tactic| (left;refine $t))
namespace KX
open PySem
inductive Ex where
 | nm (x:Str) | num (i:Int) | tru (b:Bool) | emp
 | fn (x:Str) (b:Ex) | rc (f x:Str) (b:Ex) | cal (a b:Ex) | lt (x:Str) (a b:Ex) | wh (a b c:Ex) | pr (a b:Ex)
 | opn (a:Ex) (x y:Str) (b:Ex) | lk (a b:Ex) | spl (a b:Ex) (x y:Str) (c:Ex) | op (o:Str) (a b:Ex)
namespace Ex
noncomputable def np:Ex->Nat
 | nm _ | num _ | tru _ | emp=>0
 | fn _ b=>np b | rc _ _ b=>np b | cal a b=>np a+np b | lt _ a b=>np a+np b | wh a b c=>np a+np b+np c | pr a b=>1+np a+np b
 | opn a _ _ b=>np a+np b | lk a b=>1+np a+np b | spl a b _ _ c=>np a+np b+np c | op _ a b=>np a+np b
noncomputable def sz:Ex->Nat
 | nm _ | num _ | tru _ | emp=>1
 | fn _ b=>1+sz b | rc _ _ b=>1+sz b | cal a b=>1+sz a+sz b | lt _ a b=>1+sz a+sz b | wh a b c=>1+sz a+sz b+sz c | pr a b=>1+sz a+sz b
 | opn a _ _ b=>1+sz a+sz b | lk a b=>1+sz a+sz b | spl a b _ _ c=>1+sz a+sz b+sz c | op _ a b=>1+sz a+sz b
noncomputable def cl (xs:List Str):Ex->Prop
 | nm x=>x∈xs
 | num _ | tru _ | emp=>True
 | fn x b=>cl (x::xs) b | rc f x b=>cl (x::f::xs) b | cal a b=>cl xs a/\cl xs b | lt x a b=>cl xs a/\cl (x::xs) b | wh a b c=>cl xs a/\cl xs b/\cl xs c | pr a b=>cl xs a/\cl xs b
 | opn a x y b=>cl xs a/\cl (y::x::xs) b | lk a b=>cl xs a/\cl xs b | spl a b x y c=>cl xs a/\cl xs b/\cl (y::x::xs) c | op _ a b=>cl xs a/\cl xs b
theorem cl.mono {e:Ex}:∀ {xs ys:List Str},(∀ x∈xs,x∈ys)->cl xs e->cl ys e:=by
 have c1:∀ {xs ys:List Str} (x:Str),(∀ x∈xs,x∈ys)->∀ z∈x::xs,z∈x::ys:=λx h z hz=>by
  rcases List.mem_cons.mp hz with rfl | hz
  ·exact .head _
  ·exact .tail _ (h _ hz)
 induction e with
 | nm x=>exact λh q=>h _ q
 | num _ | tru _ | emp=>exact λ_ _=>trivial
 | fn x b ih=>exact λh q=>ih (c1 x h) q
 | rc f x b ih=>exact λh q=>ih (c1 x (c1 f h)) q
 | cal a b ia ib=>exact λh q=>⟨ia h q.1,ib h q.2⟩
 | lt x a b ia ib=>exact λh q=>⟨ia h q.1,ib (c1 x h) q.2⟩
 | wh a b c ia ib ic=>exact λh q=>⟨ia h q.1,ib h q.2.1,ic h q.2.2⟩
 | pr a b ia ib=>exact λh q=>⟨ia h q.1,ib h q.2⟩
 | opn a x y b ia ib=>exact λh q=>⟨ia h q.1,ib (c1 y (c1 x h)) q.2⟩
 | lk a b ia ib=>exact λh q=>⟨ia h q.1,ib h q.2⟩
 | spl a b x y c ia ib ic=>exact λh q=>⟨ia h q.1,ib h q.2.1,ic (c1 y (c1 x h)) q.2.2⟩
 | op o a b ia ib=>exact λh q=>⟨ia h q.1,ib h q.2⟩
noncomputable def abl (o:Str):Prop:=o="plus"\/o="minus"\/o="less"\/o="same"
noncomputable def opk:Ex->Prop
 | nm _ | num _ | tru _ | emp=>True
 | fn _ b=>opk b | rc _ _ b=>opk b | cal a b=>opk a/\opk b | lt _ a b=>opk a/\opk b | wh a b c=>opk a/\opk b/\opk c | pr a b=>opk a/\opk b
 | opn a _ _ b=>opk a/\opk b | lk a b=>opk a/\opk b | spl a b _ _ c=>opk a/\opk b/\opk c | op o a b=>abl o/\opk a/\opk b
end Ex
end KX
namespace L2
open PySem PySem.Spec PyProof.Rows KS KX
noncomputable def An (H:Hp):Ex->V->Prop
 | .nm x,r=>∃ p,r=.ref p/\H p=some (.tup [.str "name",.str x])
 | .num i,r=>∃ p,r=.ref p/\H p=some (.tup [.str "number",.int i])
 | .tru b,r=>∃ p,r=.ref p/\H p=some (.tup [.str "truth",.bl b])
 | .emp,r=>∃ p,r=.ref p/\H p=some (.tup [.str "empty"])
 | .fn x b,r=>∃ p rb,r=.ref p/\H p=some (.tup [.str "fun",.str x,rb])/\An H b rb
 | .rc f x b,r=>∃ p rb,r=.ref p/\H p=some (.tup [.str "rec",.str f,.str x,rb])/\An H b rb
 | .cal a b,r=>∃ p ra rb,r=.ref p/\H p=some (.tup [.str "call",ra,rb])/\An H a ra/\An H b rb
 | .lt x a b,r=>∃ p ra rb,r=.ref p/\H p=some (.tup [.str "let",.str x,ra,rb])/\An H a ra/\An H b rb
 | .wh a b c,r=>∃ p ra rb rc,r=.ref p/\H p=some (.tup [.str "when",ra,rb,rc])/\An H a ra/\An H b rb/\An H c rc
 | .pr a b,r=>∃ p ra rb,r=.ref p/\H p=some (.tup [.str "pair",ra,rb])/\An H a ra/\An H b rb
 | .opn a x y b,r=>∃ p ra rb,r=.ref p/\H p=some (.tup [.str "open",ra,.str x,.str y,rb])/\An H a ra/\An H b rb
 | .lk a b,r=>∃ p ra rb,r=.ref p/\H p=some (.tup [.str "link",ra,rb])/\An H a ra/\An H b rb
 | .spl a b x y c,r=>∃ p ra rb rc,r=.ref p/\H p=some (.tup [.str "split",ra,rb,.str x,.str y,rc])/\An H a ra/\An H b rb/\An H c rc
 | .op o a b,r=>∃ p ra rb,r=.ref p/\H p=some (.tup [.str "op",.str o,ra,rb])/\An H a ra/\An H b rb
theorem An.mono {H H':Hp}(s:TSub H H'){e:Ex}:∀ {r:V},An H e r->An H' e r:=by
 induction e with
 | nm _=>intro r h;obtain ⟨p,h1,h2⟩:=h;exact ⟨p,h1,s _ _ h2⟩
 | num _=>intro r h;obtain ⟨p,h1,h2⟩:=h;exact ⟨p,h1,s _ _ h2⟩
 | tru _=>intro r h;obtain ⟨p,h1,h2⟩:=h;exact ⟨p,h1,s _ _ h2⟩
 | emp=>intro r h;obtain ⟨p,h1,h2⟩:=h;exact ⟨p,h1,s _ _ h2⟩
 | fn _ _ ib=>intro r h;obtain ⟨p,rb,h1,h2,h3⟩:=h;exact ⟨p,rb,h1,s _ _ h2,ib h3⟩
 | rc _ _ _ ib=>intro r h;obtain ⟨p,rb,h1,h2,h3⟩:=h;exact ⟨p,rb,h1,s _ _ h2,ib h3⟩
 | cal _ _ ia ib=>intro r h;obtain ⟨p,ra,rb,h1,h2,h3,h4⟩:=h;exact ⟨p,ra,rb,h1,s _ _ h2,ia h3,ib h4⟩
 | lt _ _ _ ia ib=>intro r h;obtain ⟨p,ra,rb,h1,h2,h3,h4⟩:=h;exact ⟨p,ra,rb,h1,s _ _ h2,ia h3,ib h4⟩
 | wh _ _ _ ia ib ic=>intro r h;obtain ⟨p,ra,rb,rc,h1,h2,h3,h4,h5⟩:=h;exact ⟨p,ra,rb,rc,h1,s _ _ h2,ia h3,ib h4,ic h5⟩
 | pr _ _ ia ib=>intro r h;obtain ⟨p,ra,rb,h1,h2,h3,h4⟩:=h;exact ⟨p,ra,rb,h1,s _ _ h2,ia h3,ib h4⟩
 | opn _ _ _ _ ia ib=>intro r h;obtain ⟨p,ra,rb,h1,h2,h3,h4⟩:=h;exact ⟨p,ra,rb,h1,s _ _ h2,ia h3,ib h4⟩
 | lk _ _ ia ib=>intro r h;obtain ⟨p,ra,rb,h1,h2,h3,h4⟩:=h;exact ⟨p,ra,rb,h1,s _ _ h2,ia h3,ib h4⟩
 | spl _ _ _ _ _ ia ib ic=>intro r h;obtain ⟨p,ra,rb,rc,h1,h2,h3,h4,h5⟩:=h;exact ⟨p,ra,rb,rc,h1,s _ _ h2,ia h3,ib h4,ic h5⟩
 | op _ _ _ ia ib=>intro r h;obtain ⟨p,ra,rb,h1,h2,h3,h4⟩:=h;exact ⟨p,ra,rb,h1,s _ _ h2,ia h3,ib h4⟩
section
variable {X:Cx}{a:Expr}{pos:Pos}{ta:TE}
theorem Qp {op:UnaryOp}{r:V->Hp->VK->Prop}(ho:dJ X (unaryOp op) r)(ha:SE X a ta):SE X (.UnaryOp op a pos) (gO r ta):=⟨Zt ho ha.out⟩
end
end L2
namespace KX
open PySem
abbrev Su:=Str->Option Ex
noncomputable def Su.rm (σ:Su)(x:Str):Su:=λy=>if y=x then none else σ y
noncomputable def Su.one (x:Str)(v:Ex):Su:=λy=>if y=x then some v else none
noncomputable def Su.or (σ τ:Su):Su:=λy=>match σ y with | some v=>some v | none=>τ y
namespace Ex
noncomputable def sub (σ:Su):Ex->Ex
 | nm x=>(σ x).getD (nm x)
 | num i=>num i | tru b=>tru b | emp=>emp
 | fn x b=>fn x (sub (σ.rm x) b) | rc f x b=>rc f x (sub ((σ.rm f).rm x) b) | cal a b=>cal (sub σ a) (sub σ b) | lt x a b=>lt x (sub σ a) (sub (σ.rm x) b)
 | wh a b c=>wh (sub σ a) (sub σ b) (sub σ c) | pr a b=>pr (sub σ a) (sub σ b) | opn a x y b=>opn (sub σ a) x y (sub ((σ.rm x).rm y) b) | lk a b=>lk (sub σ a) (sub σ b)
 | spl a b x y c=>spl (sub σ a) (sub σ b) x y (sub ((σ.rm x).rm y) c) | op o a b=>op o (sub σ a) (sub σ b)
noncomputable def isV:Ex->Bool
 | num _ | tru _ | emp | fn _ _ | rc _ _ _=>true
 | pr a b | lk a b=>isV a && isV b
 | _=>false
end Ex
open Ex
theorem K8 (σ τ:Su)(x:Str):(σ.or τ).rm x=(σ.rm x).or (τ.rm x):=by
 funext y
 simp only [Su.or,Su.rm];by_cases h:y=x <;> simp [h]
theorem D3 {σ:Su}{xs:List Str}(x:Str)(h:∀ y∈xs,σ y=none):∀ y∈x::xs,σ.rm x y=none:=by
 intro y hy;simp only [Su.rm];by_cases e:y=x
 ·simp [e]
 ·simp only [e,if_false];exact h y ((List.mem_cons.mp hy).resolve_left e)
theorem WT {e:Ex}:∀ {xs:List Str} {σ:Su},e.cl xs->(∀ x∈xs,σ x=none)->sub σ e=e:=by
 induction e with
 | nm x=>intro xs σ h q;simp [sub,q x h]
 | num _ | tru _ | emp=>intros;rfl
 | fn x b ih=>intro xs σ h q;simp only [sub];rw [ih h (D3 x q)]
 | rc f x b ih=>intro xs σ h q;simp only [sub];rw [ih h (D3 x (D3 f q))]
 | cal a b ia ib | pr a b ia ib | lk a b ia ib=>intro xs σ h q;simp only [sub];rw [ia h.1 q,ib h.2 q]
 | op o a b ia ib=>intro xs σ h q;simp only [sub];rw [ia h.1 q,ib h.2 q]
 | lt x a b ia ib=>intro xs σ h q;simp only [sub];rw [ia h.1 q,ib h.2 (D3 x q)]
 | wh a b c ia ib ic=>intro xs σ h q;simp only [sub];rw [ia h.1 q,ib h.2.1 q,ic h.2.2 q]
 | opn a x y b ia ib=>intro xs σ h q;simp only [sub];rw [ia h.1 q,ib h.2 (D3 y (D3 x q))]
 | spl a b x y c ia ib ic=>intro xs σ h q;simp only [sub];rw [ia h.1 q,ib h.2.1 q,ic h.2.2 (D3 y (D3 x q))]
theorem Gp {v:Ex}(h:v.cl [])(σ:Su):sub σ v=v:=WT h λ_ z=>by cases z
noncomputable def Su.Cl (σ:Su):Prop:=∀ x v,σ x=some v->v.cl []
theorem Su.Cl.rm {σ:Su}(h:σ.Cl)(x:Str):(σ.rm x).Cl:=by
 intro y v e;simp only [Su.rm] at e;by_cases q:y=x
 ·simp [q] at e
 ·simp only [q,if_false] at e;exact h y v e
theorem sub_sub {e:Ex}:∀ {σ τ:Su},σ.Cl->sub τ (sub σ e)=sub (σ.or τ) e:=by
 induction e with
 | nm x =>
  intro σ τ h;simp only [sub,Su.or];cases q:σ x with
  | none=>simp [sub]
  | some v=>simp only [Option.getD_some];exact Gp (h x v q) τ
 | num _ | tru _ | emp=>intros;rfl
 | fn x b ih=>intro σ τ h;simp only [sub,K8];rw [ih (h.rm x)]
 | rc f x b ih=>intro σ τ h;simp only [sub,K8];rw [ih ((h.rm f).rm x)]
 | cal a b ia ib | pr a b ia ib | lk a b ia ib=>intro σ τ h;simp only [sub];rw [ia h,ib h]
 | op o a b ia ib=>intro σ τ h;simp only [sub];rw [ia h,ib h]
 | lt x a b ia ib=>intro σ τ h;simp only [sub,K8];rw [ia h,ib (h.rm x)]
 | wh a b c ia ib ic=>intro σ τ h;simp only [sub];rw [ia h,ib h,ic h]
 | opn a x y b ia ib=>intro σ τ h;simp only [sub,K8];rw [ia h,ib ((h.rm x).rm y)]
 | spl a b x y c ia ib ic=>intro σ τ h;simp only [sub,K8];rw [ia h,ib h,ic ((h.rm x).rm y)]
theorem WU {e:Ex}:∀ {xs ys:List Str} {σ:Su},σ.Cl->(∀ x∈xs,(σ x).isSome\/x∈ys)->e.cl xs->(sub σ e).cl ys:=by
 have c1:∀ {xs ys:List Str} {σ:Su} (z:Str),(∀ x∈xs,(σ x).isSome\/x∈ys)->∀ x∈z::xs,((σ.rm z) x).isSome\/x∈z::ys:=by
  intro xs ys σ z h x hx;by_cases e:x=z
  ·exact .inr (e▸List.mem_cons_self ..)
  ·rcases h x ((List.mem_cons.mp hx).resolve_left e) with a | a
   ·refine .inl ?_;simp only [Su.rm,e,if_false];exact a
   ·exact .inr (List.mem_cons_of_mem _ a)
 induction e with
 | nm x =>
  intro xs ys σ h q c;simp only [sub];cases e:σ x with
  | none =>
   rcases q x c with a | a
   ·simp [e] at a
   ·exact a
  | some v=>simp only [Option.getD_some];exact cl.mono (λ_ z=>by cases z) (h x v e)
 | num _ | tru _ | emp=>intros;trivial
 | fn x b ih=>intro xs ys σ h q c;exact ih (h.rm x) (c1 x q) c
 | rc f x b ih=>intro xs ys σ h q c;exact ih ((h.rm f).rm x) (c1 x (c1 f q)) c
 | cal a b ia ib | pr a b ia ib | lk a b ia ib=>intro xs ys σ h q c;exact ⟨ia h q c.1,ib h q c.2⟩
 | op o a b ia ib=>intro xs ys σ h q c;exact ⟨ia h q c.1,ib h q c.2⟩
 | lt x a b ia ib=>intro xs ys σ h q c;exact ⟨ia h q c.1,ib (h.rm x) (c1 x q) c.2⟩
 | wh a b c ia ib ic=>intro xs ys σ h q c;exact ⟨ia h q c.1,ib h q c.2.1,ic h q c.2.2⟩
 | opn a x y b ia ib=>intro xs ys σ h q c;exact ⟨ia h q c.1,ib ((h.rm x).rm y) (c1 y (c1 x q)) c.2⟩
 | spl a b x y c ia ib ic=>intro xs ys σ h q c;exact ⟨ia h q c.1,ib h q c.2.1,ic ((h.rm x).rm y) (c1 y (c1 x q)) c.2.2⟩
theorem Te {e:Ex}:∀ {σ:Su},(∀ x v,σ x=some v->v.opk)->e.opk->(sub σ e).opk:=by
 have r1:∀ {σ:Su} (z:Str),(∀ x v,σ x=some v->v.opk)->∀ x v,σ.rm z x=some v->v.opk:=by
  intro σ z h x v e;simp only [Su.rm] at e;by_cases q:x=z
  ·simp [q] at e
  ·simp only [q,if_false] at e;exact h x v e
 induction e with
 | nm x=>intro σ h c;simp only [sub];cases e:σ x with
  | none=>trivial
  | some v=>exact h x v e
 | num _ | tru _ | emp=>intros;trivial
 | fn x b ih=>intro σ h c;exact ih (r1 x h) c
 | rc f x b ih=>intro σ h c;exact ih (r1 x (r1 f h)) c
 | cal a b ia ib | pr a b ia ib | lk a b ia ib=>intro σ h c;exact ⟨ia h c.1,ib h c.2⟩
 | op o a b ia ib=>intro σ h c;exact ⟨c.1,ia h c.2.1,ib h c.2.2⟩
 | lt x a b ia ib=>intro σ h c;exact ⟨ia h c.1,ib (r1 x h) c.2⟩
 | wh a b c ia ib ic=>intro σ h c;exact ⟨ia h c.1,ib h c.2.1,ic h c.2.2⟩
 | opn a x y b ia ib=>intro σ h c;exact ⟨ia h c.1,ib (r1 y (r1 x h)) c.2⟩
 | spl a b x y c ia ib ic=>intro σ h c;exact ⟨ia h c.1,ib h c.2.1,ic (r1 y (r1 x h)) c.2.2⟩
noncomputable def give (x:Str)(v e:Ex):Ex:=sub (Su.one x v) e
noncomputable def aae (x y:Str)(v w e:Ex):Ex:=give x v (give y w e)
noncomputable def Qq (o:Str)(i j:Int):Ex :=
 if o="plus" then .num (i+j) else if o="minus" then .num (i - j) else if o="less" then .tru (decide (i < j)) else .tru (decide (i=j))
noncomputable def red:Ex->Option (Ex × Bool)
 | cal (fn x b) v=>some (give x v b,true)
 | cal (rc f x b) v=>some (aae f x (rc f x b) v b,true)
 | lt x v b=>some (give x v b,false)
 | wh (tru c) a b=>some (if c then a else b,false)
 | opn (pr v w) x y b=>some (aae x y v w b,false)
 | spl emp a _ _ _=>some (a,false)
 | spl (lk v w) _ x y c=>some (aae x y v w c,false)
 | op o (num i) (num j)=>some (Qq o i j,false)
 | _=>none
noncomputable def Fy (C:Ex->Ex):Option (Ex × Bool)->Option (Ex × Bool)
 | some (e,b)=>some (C e,b)
 | none=>none
noncomputable def stp:Ex->Option (Ex × Bool)
 | cal a b=>if isV a then (if isV b then red (cal a b) else Fy (cal a) (stp b)) else Fy (λz=>cal z b) (stp a)
 | pr a b=>if isV a then (if isV b then none else Fy (pr a) (stp b)) else Fy (λz=>pr z b) (stp a)
 | lk a b=>if isV a then (if isV b then none else Fy (lk a) (stp b)) else Fy (λz=>lk z b) (stp a)
 | op o a b=>if isV a then (if isV b then red (op o a b) else Fy (op o a) (stp b)) else Fy (λz=>op o z b) (stp a)
 | lt x a b=>if isV a then red (lt x a b) else Fy (λz=>lt x z b) (stp a)
 | wh a b c=>if isV a then red (wh a b c) else Fy (λz=>wh z b c) (stp a)
 | opn a x y b=>if isV a then red (opn a x y b) else Fy (λz=>opn z x y b) (stp a)
 | spl a b x y c=>if isV a then red (spl a b x y c) else Fy (λz=>spl z b x y c) (stp a)
 | _=>none
abbrev Dn:=Str->Nat
noncomputable def Dn.up (ρ:Dn)(x:Str)(n:Nat):Dn:=λy=>if y=x then n else ρ y
noncomputable def dz:Dn:=λ_=>0
noncomputable def dep (ρ:Dn):Ex->Nat
 | nm x=>ρ x
 | num _ | tru _ | emp=>0
 | fn x b=>1+dep (ρ.up x 0) b | rc f x b=>1+dep ((ρ.up f 0).up x 0) b | cal a b=>1+max (dep ρ a) (dep ρ b) | lt x a b=>1+max (dep ρ a) (dep (ρ.up x (dep ρ a)) b)
 | wh a b c=>1+max (dep ρ a) (max (dep ρ b) (dep ρ c)) | pr a b=>1+max (dep ρ a) (dep ρ b) | opn a x y b=>1+max (dep ρ a) (dep ((ρ.up x (dep ρ a)).up y (dep ρ a)) b) | lk a b=>1+max (dep ρ a) (dep ρ b)
 | spl a b x y c=>1+max (dep ρ a) (max (dep ρ b) (dep ((ρ.up x (dep ρ a)).up y (dep ρ a)) c)) | op o a b=>1+max (dep ρ a) (dep ρ b)
theorem Bu {ρ ρ':Dn}{d n n':Nat}(x:Str)(h:∀ y,ρ' y<=ρ y+d)(hn:n'<=n+d):∀ y,ρ'.up x n' y<=ρ.up x n y+d:=by
 intro y;simp only [Dn.up];by_cases e:y=x
 ·simp only [e,if_true];exact hn
 ·simp only [e,if_false];exact h y
theorem m1 {x x' d:Nat}(h:x'<=x+d):1+x'<=1+x+d:=by omega
theorem m2 {x x' y y' d:Nat}(h1:x'<=x+d)(h2:y'<=y+d):1+max x' y'<=1+max x y+d:=by omega
theorem m3 {x x' y y' z z' d:Nat}(h1:x'<=x+d)(h2:y'<=y+d)(h3:z'<=z+d):1+max x' (max y' z')<=1+max x (max y z)+d:=by omega
theorem m4 {a b n m d:Nat}(h1:a<=n+d)(h2:b<=m+(n+d)):1+max a b<=1+n+m+d:=by omega
theorem m5 {a b c n m l d:Nat}(h1:a<=n+d)(h2:b<=m+d)(h3:c<=l+(n+d)):1+max a (max b c)<=1+max m (n+l)+d:=by omega
theorem l1 {a m:Nat}(h:1+a<=m):a<=m:=by omega
theorem l2 {a b m:Nat}(h:1+max a b<=m):a<=m/\b<=m:=by omega
theorem l3 {a b c m:Nat}(h:1+max a (max b c)<=m):a<=m/\b<=m/\c<=m:=by omega
theorem Ej {e:Ex}:∀ {ρ ρ':Dn} {d:Nat},(∀ y,ρ' y<=ρ y+d)->dep ρ' e<=dep ρ e+d:=by
 induction e with
 | nm x=>intro ρ ρ' d h;exact h x
 | num _ | tru _ | emp=>intros;exact Nat.zero_le _
 | fn x b ih=>intro ρ ρ' d h;exact m1 (ih (Bu (n:=0) (n':=0) x h (Nat.zero_le _)))
 | rc f x b ih=>intro ρ ρ' d h;exact m1 (ih (Bu (n:=0) (n':=0) x (Bu (n:=0) (n':=0) f h (Nat.zero_le _)) (Nat.zero_le _)))
 | cal a b ia ib | pr a b ia ib | lk a b ia ib=>intro ρ ρ' d h;exact m2 (ia h) (ib h)
 | op o a b ia ib=>intro ρ ρ' d h;exact m2 (ia h) (ib h)
 | lt x a b ia ib=>intro ρ ρ' d h;exact m2 (ia h) (ib (Bu x h (ia h)))
 | wh a b c ia ib ic=>intro ρ ρ' d h;exact m3 (ia h) (ib h) (ic h)
 | opn a x y b ia ib=>intro ρ ρ' d h;exact m2 (ia h) (ib (Bu y (Bu x h (ia h)) (ia h)))
 | spl a b x y c ia ib ic=>intro ρ ρ' d h;exact m3 (ia h) (ib h) (ic (Bu y (Bu x h (ia h)) (ia h)))
theorem Dq {e:Ex}{ρ ρ':Dn}(h:∀ y,ρ' y<=ρ y):dep ρ' e<=dep ρ e:=Ej (d:=0) h
theorem up_eq {ρ ρ':Dn}{xs:List Str}{n:Nat}(x:Str)(h:∀ y∈xs,ρ y=ρ' y):∀ y∈x::xs,ρ.up x n y=ρ'.up x n y:=by
 intro y hy;simp only [Dn.up];by_cases e:y=x
 ·simp [e]
 ·simp only [e,if_false];exact h y ((List.mem_cons.mp hy).resolve_left e)
theorem WV {e:Ex}:∀ {xs:List Str} {ρ ρ':Dn},e.cl xs->(∀ y∈xs,ρ y=ρ' y)->dep ρ e=dep ρ' e:=by
 induction e with
 | nm x=>intro xs ρ ρ' c h;exact h x c
 | num _ | tru _ | emp=>intros;rfl
 | fn x b ih=>intro xs ρ ρ' c h;simp only [dep];rw [ih c (up_eq x h)]
 | rc f x b ih=>intro xs ρ ρ' c h;simp only [dep];rw [ih c (up_eq x (up_eq f h))]
 | cal a b ia ib | pr a b ia ib | lk a b ia ib=>intro xs ρ ρ' c h;simp only [dep];rw [ia c.1 h,ib c.2 h]
 | op o a b ia ib=>intro xs ρ ρ' c h;simp only [dep];rw [ia c.1 h,ib c.2 h]
 | lt x a b ia ib=>intro xs ρ ρ' c h;simp only [dep];rw [ia c.1 h,ib c.2 (up_eq x h)]
 | wh a b c ia ib ic=>intro xs ρ ρ' c h;simp only [dep];rw [ia c.1 h,ib c.2.1 h,ic c.2.2 h]
 | opn a x y b ia ib=>intro xs ρ ρ' c h;simp only [dep];rw [ia c.1 h,ib c.2 (up_eq y (up_eq x h))]
 | spl a b x y c ia ib ic=>intro xs ρ ρ' c h;simp only [dep];rw [ia c.1 h,ib c.2.1 h,ic c.2.2 (up_eq y (up_eq x h))]
theorem MD {e:Ex}(h:e.cl [])(ρ:Dn):dep ρ e=dep dz e:=WV h λ_ z=>by cases z
noncomputable def Su.dn (σ:Su)(ρ:Dn):Dn:=λy=>match σ y with | some v=>dep dz v | none=>ρ y
theorem FX (σ:Su)(ρ:Dn)(x:Str)(n:Nat):(σ.rm x).dn (ρ.up x n)=(σ.dn ρ).up x n:=by
 funext y
 simp only [Su.dn,Su.rm,Dn.up];by_cases e:y=x <;> simp [e]
theorem J4 {e:Ex}:∀ {σ:Su} {ρ:Dn},σ.Cl->dep ρ (sub σ e)=dep (σ.dn ρ) e:=by
 induction e with
 | nm x =>
  intro σ ρ h;simp only [sub,dep,Su.dn];cases q:σ x with
  | none=>simp [dep]
  | some v=>simp only [Option.getD_some];exact MD (h x v q) ρ
 | num _ | tru _ | emp=>intros;rfl
 | fn x b ih=>intro σ ρ h;simp only [sub,dep];rw [ih (h.rm x),FX]
 | rc f x b ih=>intro σ ρ h;simp only [sub,dep];rw [ih ((h.rm f).rm x),FX,FX]
 | cal a b ia ib | pr a b ia ib | lk a b ia ib=>intro σ ρ h;simp only [sub,dep];rw [ia h,ib h]
 | op o a b ia ib=>intro σ ρ h;simp only [sub,dep];rw [ia h,ib h]
 | lt x a b ia ib=>intro σ ρ h;simp only [sub,dep];rw [ia h,ib (h.rm x),FX]
 | wh a b c ia ib ic=>intro σ ρ h;simp only [sub,dep];rw [ia h,ib h,ic h]
 | opn a x y b ia ib=>intro σ ρ h;simp only [sub,dep];rw [ia h,ib ((h.rm x).rm y),FX,FX]
 | spl a b x y c ia ib ic=>intro σ ρ h;simp only [sub,dep];rw [ia h,ib h,ic ((h.rm x).rm y),FX,FX]
inductive Kb (k:Nat):Ex->Nat->Prop
 | nm (x:Str):Kb k (.nm x) 0
 | num (i:Int):Kb k (.num i) 0
 | tru (b:Bool):Kb k (.tru b) 0
 | emp:Kb k .emp 0
 | fn {x:Str} {b:Ex} {n:Nat}:Kb k b n->n<=k->Kb k (.fn x b) (1+n)
 | rc {f x:Str} {b:Ex} {n:Nat}:Kb k b n->n<=k->Kb k (.rc f x b) (1+n)
 | cal {a b:Ex} {n m:Nat}:Kb k a n->Kb k b m->Kb k (.cal a b) (1+max n m)
 | lt {x:Str} {a b:Ex} {n m:Nat}:Kb k a n->Kb k b m->Kb k (.lt x a b) (1+n+m)
 | wh {a b c:Ex} {n m l:Nat}:Kb k a n->Kb k b m->Kb k c l->Kb k (.wh a b c) (1+max n (max m l))
 | pr {a b:Ex} {n m:Nat}:Kb k a n->Kb k b m->Kb k (.pr a b) (1+max n m)
 | opn {x y:Str} {a b:Ex} {n m:Nat}:Kb k a n->Kb k b m->Kb k (.opn a x y b) (1+n+m)
 | lk {a b:Ex} {n m:Nat}:Kb k a n->Kb k b m->Kb k (.lk a b) (1+max n m)
 | spl {x y:Str} {a b c:Ex} {n m l:Nat}:Kb k a n->Kb k b m->Kb k c l->Kb k (.spl a b x y c) (1+max m (n+l))
 | op {o:Str} {a b:Ex} {n m:Nat}:Kb k a n->Kb k b m->Kb k (.op o a b) (1+max n m)
 | zero {v:Ex} {n:Nat}:v.cl []->isV v=true->Kb k v n->Kb k v 0
theorem BL {ρ:Dn}{m n:Nat}(x:Str)(h:∀ y,ρ y<=m)(hn:n<=m):∀ y,ρ.up x n y<=m:=by
 intro y;simp only [Dn.up];by_cases e:y=x
 ·simp only [e,if_true];exact hn
 ·simp only [e,if_false];exact h y
theorem IB (x:Str):dz.up x 0=dz:=by funext y;simp [Dn.up,dz]
theorem ME (ρ:Dn):∀ y,dz y<=ρ y:=λ_=>Nat.zero_le _
theorem Qr {b:Ex}{ρ:Dn}{m:Nat}(h:KX.dep ρ b<=m):KX.dep dz b<=m:=Nat.le_trans (Dq (ME _)) h
theorem Kb.dep {k:Nat}{e:Ex}{n:Nat}(K:Kb k e n):∀ {ρ:Dn} {m:Nat},(∀ y,ρ y<=m)->dep dz e<=m->KX.dep ρ e<=n+m:=by
 have up:∀ {ρ:Dn} {m:Nat} (n:Nat),(∀ y,ρ y<=m)->∀ y,ρ y<=n+m:=λn h y=>Nat.le_trans (h y) (Nat.le_add_left _ _);have j8:∀ {a m:Nat} (n:Nat),a<=m->a<=n+m:=λn h=>Nat.le_trans h (Nat.le_add_left _ _)
 induction K with
 | nm x=>intro ρ m h _;exact Nat.le_trans (h x) (Nat.le_add_left _ _)
 | num _ | tru _ | emp=>intros;simp only [KX.dep];exact Nat.zero_le _
 | @fn x _ _ _ _ ih=>intro ρ m h q;simp only [KX.dep,IB] at q ⊢;exact m1 (ih (BL x h (Nat.zero_le m)) (l1 q))
 | @rc f x _ _ _ _ ih=>intro ρ m h q;simp only [KX.dep,IB] at q ⊢;exact m1 (ih (BL x (BL f h (Nat.zero_le m)) (Nat.zero_le m)) (l1 q))
 | cal _ _ ia ib | pr _ _ ia ib | lk _ _ ia ib | op _ _ ia ib=>intro ρ m h q;simp only [KX.dep] at q ⊢;exact m2 (ia h (l2 q).1) (ib h (l2 q).2)
 | @lt x a b n m' _ _ ia ib =>
  intro ρ m h q;simp only [KX.dep] at q ⊢;have h1:=ia h (l2 q).1;exact m4 h1 (ib (ρ:=ρ.up x (KX.dep ρ a)) (m:=n+m) (BL _ (up n h) h1) (j8 n (Qr (l2 q).2)))
 | wh _ _ _ ia ib ic=>intro ρ m h q;simp only [KX.dep] at q ⊢;exact m3 (ia h (l3 q).1) (ib h (l3 q).2.1) (ic h (l3 q).2.2)
 | @opn x y a b n m' _ _ ia ib =>
  intro ρ m h q;simp only [KX.dep] at q ⊢;have h1:=ia h (l2 q).1;exact m4 h1 (ib (ρ:=(ρ.up x (KX.dep ρ a)).up y (KX.dep ρ a)) (m:=n+m) (BL _ (BL _ (up n h) h1) h1) (j8 n (Qr (l2 q).2)))
 | @spl x y a b c n m' l _ _ _ ia ib ic =>
  intro ρ m h q;simp only [KX.dep] at q ⊢;have h1:=ia h (l3 q).1;exact m5 h1 (ib h (l3 q).2.1) (ic (ρ:=(ρ.up x (KX.dep ρ a)).up y (KX.dep ρ a)) (m:=n+m) (BL _ (BL _ (up n h) h1) h1) (j8 n (Qr (l3 q).2.2)))
 | zero hc _ _ _=>intro ρ m h q;rw [MD hc];exact Nat.le_trans q (Nat.le_add_left _ _)
noncomputable def WW (k:Nat)(v:Ex):Prop:=v.cl []/\isV v=true/\∃ n,Kb k v n
noncomputable def Su.Ok (k:Nat)(σ:Su):Prop:=∀ x v,σ x=some v->WW k v
theorem Su.Ok.rm {k:Nat}{σ:Su}(h:σ.Ok k)(x:Str):(σ.rm x).Ok k:=by
 intro y v e;simp only [Su.rm] at e;by_cases q:y=x
 ·simp [q] at e
 ·simp only [q,if_false] at e;exact h y v e
theorem Su.Ok.cl {k:Nat}{σ:Su}(h:σ.Ok k):σ.Cl:=λx v e=>(h x v e).1
theorem Kb.sub {k:Nat}{e:Ex}{n:Nat}(K:Kb k e n):∀ {σ:Su},σ.Ok k->Kb k (sub σ e) n:=by
 induction K with
 | nm x =>
  intro σ h;simp only [Ex.sub];cases q:σ x with
  | none=>exact .nm x
  | some v=>obtain ⟨a,b,n,c⟩:=h x v q;exact .zero a b c
 | num _=>intros;exact .num _
 | tru _=>intros;exact .tru _
 | emp=>intros;exact .emp
 | fn _ hk ih=>intro σ h;exact .fn (ih (h.rm _)) hk
 | rc _ hk ih=>intro σ h;exact .rc (ih ((h.rm _).rm _)) hk
 | cal _ _ ia ib=>intro σ h;exact .cal (ia h) (ib h)
 | pr _ _ ia ib=>intro σ h;exact .pr (ia h) (ib h)
 | lk _ _ ia ib=>intro σ h;exact .lk (ia h) (ib h)
 | op _ _ ia ib=>intro σ h;exact .op (ia h) (ib h)
 | lt _ _ ia ib=>intro σ h;exact .lt (ia h) (ib (h.rm _))
 | wh _ _ _ ia ib ic=>intro σ h;exact .wh (ia h) (ib h) (ic h)
 | opn _ _ ia ib=>intro σ h;exact .opn (ia h) (ib ((h.rm _).rm _))
 | spl _ _ _ ia ib ic=>intro σ h;exact .spl (ia h) (ib h) (ic ((h.rm _).rm _))
 | zero hc hv K _=>intro σ h;rw [Gp hc];exact .zero hc hv K
noncomputable def Ex.kds:Ex->List Ex
 | cal a b | pr a b | lk a b | op _ a b | lt _ a b | opn a _ _ b=>[a,b]
 | wh a b c | spl a b _ _ c=>[a,b,c]
 | _=>[]
theorem Kb.kds {k:Nat}{e:Ex}{n:Nat}(K:Kb k e n):∀ a∈e.kds,∃ n,Kb k a n:=by
 have n2:∀ {a b:Ex} {n m:Nat},Kb k a n->Kb k b m->∀ x∈[a,b],∃ n,Kb k x n:=λ{a b n m} h1 h2 x hx=>by
  rcases List.mem_cons.mp hx with rfl | hx
  ·exact ⟨n,h1⟩
  ·rw [List.mem_singleton.mp hx];exact ⟨m,h2⟩
 have n3:∀ {a b c:Ex} {n m l:Nat},Kb k a n->Kb k b m->Kb k c l->∀ x∈[a,b,c],∃ n,Kb k x n:=λ{a b c n m l} h1 h2 h3 x hx=>by
  rcases List.mem_cons.mp hx with rfl | hx
  ·exact ⟨n,h1⟩
  ·exact n2 h2 h3 x hx
 have n0:∀ x∈([]:List Ex),∃ n,Kb k x n:=λx hx=>by cases hx
 induction K with
 | zero _ _ _ ih=>exact ih
 | cal h1 h2=>exact n2 h1 h2
 | pr h1 h2=>exact n2 h1 h2
 | lk h1 h2=>exact n2 h1 h2
 | op h1 h2=>exact n2 h1 h2
 | lt h1 h2=>exact n2 h1 h2
 | opn h1 h2=>exact n2 h1 h2
 | wh h1 h2 h3=>exact n3 h1 h2 h3
 | spl h1 h2 h3=>exact n3 h1 h2 h3
 | nm _=>exact n0
 | num _=>exact n0
 | tru _=>exact n0
 | emp=>exact n0
 | fn _ _=>exact n0
 | rc _ _=>exact n0
theorem Kb.two {k:Nat}{a b e:Ex}{n:Nat}(K:Kb k e n)(h:e.kds=[a,b]):(∃ n,Kb k a n)/\∃ n,Kb k b n:=⟨K.kds a (h▸.head _),K.kds b (h▸.tail _ (.head _))⟩
theorem Kb.three {k:Nat}{a b c e:Ex}{n:Nat}(K:Kb k e n)(h:e.kds=[a,b,c]):(∃ n,Kb k a n)/\(∃ n,Kb k b n)/\∃ n,Kb k c n:=⟨K.kds a (h▸.head _),K.kds b (h▸.tail _ (.head _)),K.kds c (h▸.tail _ (.tail _ (.head _)))⟩
theorem Kb.body {k:Nat}{b e:Ex}{n:Nat}(K:Kb k e n):((∃ x,e=.fn x b)\/∃ f x,e=.rc f x b)->∃ n,n<=k/\Kb k b n:=by
 induction K with
 | zero _ _ _ ih=>exact ih
 | fn h1 hk=>rintro (⟨_,h⟩ | ⟨_,_,h⟩) <;> cases h <;> exact ⟨_,hk,h1⟩
 | rc h1 hk=>rintro (⟨_,h⟩ | ⟨_,_,h⟩) <;> cases h <;> exact ⟨_,hk,h1⟩
 | _=>rintro (⟨_,h⟩ | ⟨_,_,h⟩) <;> cases h
structure Tr (k:Nat)(e:Ex):Prop where
 cl:e.cl []
 op:e.opk
 kb:∃ n,Kb k e n
theorem LF {k:Nat}{v:Ex}(x:Str)(h:WW k v):(Su.one x v).Ok k:=by
 intro y w e;simp only [Su.one] at e;by_cases q:y=x
 ·simp only [q,if_true,Option.some.injEq] at e;exact e▸h
 ·simp [q] at e
theorem UW {k:Nat}{σ τ:Su}(h:σ.Ok k)(g:τ.Ok k):(σ.or τ).Ok k:=by
 intro y w e;simp only [Su.or] at e;cases q:σ y with
 | none=>rw [q] at e;exact g y w e
 | some v=>rw [q] at e;simp only [Option.some.injEq] at e;exact h y w (by rw [q,e])
theorem J5 (x:Str)(v:Ex)(ρ:Dn):(Su.one x v).dn ρ=ρ.up x (dep dz v):=by
 funext y
 simp only [Su.dn,Su.one,Dn.up];by_cases e:y=x <;> simp [e]
theorem ax (σ τ:Su)(ρ:Dn):(σ.or τ).dn ρ=σ.dn (τ.dn ρ):=by
 funext y
 simp only [Su.dn,Su.or];cases σ y <;> rfl
theorem E2 {x y:Str}{v w e:Ex}(h:w.cl []):aae x y v w e=sub ((Su.one y w).or (Su.one x v)) e:=by
 unfold aae give;refine sub_sub λz u e=>?_;simp only [Su.one] at e;by_cases q:z=y
 ·simp only [q,if_true,Option.some.injEq] at e;exact e▸h
 ·simp [q] at e
theorem Qs {k:Nat}{σ:Su}{e:Ex}{xs:List Str}(h:σ.Ok k)(ho:∀ x v,σ x=some v->v.opk)(hx:∀ x∈xs,(σ x).isSome)(c:e.cl xs)(o:e.opk)(K:∃ n,Kb k e n):Tr k (sub σ e) :=
 ⟨WU h.cl (λx NV=>.inl (hx x NV)) c,Te ho o,K.elim λn K=>⟨n,K.sub h⟩⟩
theorem LG {v:Ex}(x:Str)(h:v.opk):∀ y w,Su.one x v y=some w->w.opk:=by
 intro y w e;simp only [Su.one] at e;by_cases q:y=x
 ·simp only [q,if_true,Option.some.injEq] at e;exact e▸h
 ·simp [q] at e
theorem az {σ τ:Su}(h:∀ x v,σ x=some v->v.opk)(g:∀ x v,τ x=some v->v.opk):∀ x v,σ.or τ x=some v->v.opk:=by
 intro y w e;simp only [Su.or] at e;cases q:σ y with
 | none=>rw [q] at e;exact g y w e
 | some v=>rw [q] at e;simp only [Option.some.injEq] at e;exact h y w (by rw [q,e])
theorem He (x:Str)(v:Ex):(Su.one x v x).isSome:=by simp [Su.one]
theorem j9 {σ τ:Su}{x:Str}(h:(σ x).isSome):(σ.or τ x).isSome:=by
 simp only [Su.or];cases q:σ x with
 | none=>simp [q] at h
 | some v=>rfl
theorem ja {σ τ:Su}{x:Str}(h:(τ x).isSome):(σ.or τ x).isSome:=by
 simp only [Su.or];cases q:σ x with
 | none=>exact h
 | some v=>rfl
theorem WW.of {k:Nat}{v:Ex}(T:Tr k v)(h:isV v=true):WW k v:=⟨T.cl,h,T.kb⟩
theorem MF {k:Nat}{x:Str}{v b:Ex}(T:Tr k v)(hv:isV v=true)(c:b.cl [x])(o:b.opk)(K:∃ n,Kb k b n):Tr k (give x v b)/\dep dz (give x v b)=dep (dz.up x (dep dz v)) b:=by
 have h:=LF x (WW.of T hv);refine ⟨Qs h (LG x T.op) (λy hy=>?_) c o K,?_⟩
 ·rw [List.mem_singleton.mp hy];exact He x v
 ·unfold give;rw [J4 h.cl,J5]
theorem Hf {k:Nat}{x y:Str}{v w b:Ex}(T:Tr k v)(hv:isV v=true)(U:Tr k w)(hw:isV w=true)(c:b.cl [y,x])(o:b.opk)(K:∃ n,Kb k b n):
  Tr k (aae x y v w b)/\dep dz (aae x y v w b)=dep ((dz.up x (dep dz v)).up y (dep dz w)) b:=by
 have h1:=LF x (WW.of T hv);have h2:=LF y (WW.of U hw);rw [E2 U.cl];refine ⟨Qs (UW h2 h1) (az (LG y U.op) (LG x T.op)) (λz hz=>?_) c o K,?_⟩
 ·rcases List.mem_cons.mp hz with rfl | hz
  ·exact j9 (He _ w)
  ·rw [List.mem_singleton.mp hz];exact ja (He x v)
 ·rw [J4 (UW h2 h1).cl,ax,J5,J5]
noncomputable def grow (k:Nat)(c:Bool):Nat:=if c then k else 0
inductive HP:Ex->Ex->Bool->Prop
 | fn (x:Str) (b v:Ex):HP (.cal (.fn x b) v) (give x v b) true
 | rc (f x:Str) (b v:Ex):HP (.cal (.rc f x b) v) (aae f x (.rc f x b) v b) true
 | lt (x:Str) (v b:Ex):HP (.lt x v b) (give x v b) false
 | wh (d:Bool) (a b:Ex):HP (.wh (.tru d) a b) (if d=true then a else b) false
 | opn (v w:Ex) (x y:Str) (b:Ex):HP (.opn (.pr v w) x y b) (aae x y v w b) false
 | emp (a:Ex) (x y:Str) (b:Ex):HP (.spl .emp a x y b) a false
 | lk (v w a:Ex) (x y:Str) (b:Ex):HP (.spl (.lk v w) a x y b) (aae x y v w b) false
 | op (o:Str) (i j:Int):HP (.op o (.num i) (.num j)) (Qq o i j) false
noncomputable def jb (e:Ex):Option (Ex × Bool)->Prop
 | some p=>HP e p.1 p.2
 | none=>True
theorem aA (e:Ex):jb e (red e):=by
 cases e with
 | cal a v =>
  cases a with
  | fn x b=>exact .fn x b v
  | rc f x b=>exact .rc f x b v
  | _=>trivial
 | lt x v b=>exact .lt x v b
 | wh a b d =>
  cases a with
  | tru t=>exact .wh t b d
  | _=>trivial
 | opn a x y b =>
  cases a with
  | pr v w=>exact .opn v w x y b
  | _=>trivial
 | spl a b x y d =>
  cases a with
  | emp=>exact .emp _ x y d
  | lk v w=>exact .lk v w b x y d
  | _=>trivial
 | op o a b =>
  cases a with
  | num i =>
   cases b with
   | num j=>exact .op o i j
   | _=>trivial
  | _=>trivial
 | _=>trivial
theorem Cq {e e':Ex}{c:Bool}(h:red e=some (e',c)):HP e e' c:=by
 have:=aA e;rw [h] at this;exact this
theorem Fz {k:Nat}{e e':Ex}{c:Bool}(T:Tr k e)(h:red e=some (e',c))(hr:∀ a b,(e=.cal a b->isV b=true)/\(∀ x,e=.lt x a b->isV a=true)/\(∀ x y,e=.opn a x y b->isV a=true)/\∀ x y d,e=.spl a b x y d->isV a=true):
  Tr k e'/\dep dz e'<=dep dz e+grow k c:=by
 obtain ⟨hc,ho,n,K⟩:=T;cases Cq h with
 | fn x b v =>
  obtain ⟨⟨n1,K1⟩,K2⟩:=K.two rfl;obtain ⟨nb,hn,aB⟩:=K1.body (.inl ⟨x,rfl⟩);have hv:=(hr _ _).1 rfl;obtain ⟨t1,t2⟩:=MF (x:=x) (b:=b) ⟨hc.2,ho.2,K2⟩ hv hc.1 ho.1 ⟨_,aB⟩;refine ⟨t1,?_⟩;rw [t2];simp only [dep,IB,grow,if_true];have:=aB.dep (ρ:=dz.up x (dep dz v)) (m:=max (1+dep dz b) (dep dz v)) (BL x (λy=>by simp [dz]) ()) ();omega
 | rc f x b v =>
  obtain ⟨K1,K2⟩:=K.two rfl;obtain ⟨n1,sN⟩:=id K1;obtain ⟨nb,hn,aB⟩:=sN.body (.inr ⟨f,x,rfl⟩);have hv:=(hr _ _).1 rfl;obtain ⟨t1,t2⟩:=Hf (x:=f) (y:=x) (v:=.rc f x b) (w:=v) (b:=b) ⟨hc.1,ho.1,K1⟩ rfl ⟨hc.2,ho.2,K2⟩ hv hc.1 ho.1 ⟨_,aB⟩;refine ⟨t1,?_⟩;rw [t2];simp only [dep,IB,grow,if_true];have:=aB.dep (ρ:=(dz.up f (1+dep dz b)).up x (dep dz v)) (m:=max (1+dep dz b) (dep dz v)) (BL x (BL f (λy=>by simp [dz]) ()) ()) ();omega
 | lt x v b =>
  obtain ⟨K1,K2⟩:=K.two rfl;obtain ⟨t1,t2⟩:=MF (x:=x) (b:=b) ⟨hc.1,ho.1,K1⟩ ((hr _ _).2.1 _ rfl) hc.2 ho.2 K2;refine ⟨t1,?_⟩;rw [t2];simp only [dep];omega
 | wh d a b =>
  obtain ⟨_,K2,K3⟩:=K.three rfl;simp only [dep];cases d
  ·exact ⟨⟨hc.2.2,ho.2.2,K3⟩,by simp;omega⟩
  ·exact ⟨⟨hc.2.1,ho.2.1,K2⟩,by simp;omega⟩
 | opn v w x y b =>
  obtain ⟨K1,K2⟩:=K.two rfl;obtain ⟨n1,K1⟩:=K1;obtain ⟨K3,K4⟩:=K1.two rfl;have hv:=(hr _ _).2.2.1 _ _ rfl;replace hv:=(Bool.and_eq_true _ _).mp hv;obtain ⟨t1,t2⟩:=Hf (x:=x) (y:=y) (b:=b) ⟨hc.1.1,ho.1.1,K3⟩ hv.1 ⟨hc.1.2,ho.1.2,K4⟩ hv.2 hc.2 ho.2 K2;refine ⟨t1,?_⟩;rw [t2];have:dep ((dz.up x (dep dz v)).up y (dep dz w)) b<=dep ((dz.up x (1+max (dep dz v) (dep dz w))).up y (1+max (dep dz v) (dep dz w))) b :=
   Ej (d:=0) (Bu y (Bu x (λ_=>Nat.le_refl _) ()) ())
  simp only [dep];omega
 | emp a x y b =>
  obtain ⟨_,K2,_⟩:=K.three rfl;simp only [dep];exact ⟨⟨hc.2.1,ho.2.1,K2⟩,()⟩
 | lk v w a x y b =>
  obtain ⟨K1,_,K2⟩:=K.three rfl;obtain ⟨n1,K1⟩:=K1;obtain ⟨K3,K4⟩:=K1.two rfl;have hv:=(hr _ _).2.2.2 _ _ _ rfl;replace hv:=(Bool.and_eq_true _ _).mp hv;obtain ⟨t1,t2⟩:=Hf (x:=x) (y:=y) (b:=b) ⟨hc.1.1,ho.1.1,K3⟩ hv.1 ⟨hc.1.2,ho.1.2,K4⟩ hv.2 hc.2.2 ho.2.2 K2;refine ⟨t1,?_⟩;rw [t2];have:dep ((dz.up x (dep dz v)).up y (dep dz w)) b<=dep ((dz.up x (1+max (dep dz v) (dep dz w))).up y (1+max (dep dz v) (dep dz w))) b :=
   Ej (d:=0) (Bu y (Bu x (λ_=>Nat.le_refl _) ()) ())
  simp only [dep];omega
 | op o i j =>
  simp only [Qq];split
  ·exact ⟨⟨trivial,trivial,_,.num _⟩,Nat.zero_le _⟩
  ·split
   ·exact ⟨⟨trivial,trivial,_,.num _⟩,Nat.zero_le _⟩
   ·split <;> exact ⟨⟨trivial,trivial,_,.tru _⟩,Nat.zero_le _⟩
theorem Qt {C:Ex->Ex}{o:Option (Ex × Bool)}{e:Ex}{c:Bool}(h:Fy C o=some (e,c)):∃ a,o=some (a,c)/\e=C a:=by
 cases o with
 | none=>cases h
 | some p=>simp only [Fy,Option.some.injEq,Prod.mk.injEq] at h;exact ⟨p.1,by rw [<- h.2],h.1.symm⟩
theorem J6 {a e:Ex}{c:Bool}{C:Ex->Ex}{X:Option (Ex × Bool)}(s:(if isV a=true then X else Fy C (stp a))=some (e,c)):(isV a=true/\X=some (e,c))\/∃ z,stp a=some (z,c)/\e=C z:=by
 split at s
 ·exact .inl ⟨‹_›,s⟩
 ·exact .inr (Qt s)
theorem Tf {a b e:Ex}{c:Bool}{C D:Ex->Ex}{X:Option (Ex × Bool)}(s:(if isV a=true then (if isV b=true then X else Fy D (stp b)) else Fy C (stp a))=some (e,c)):(isV b=true/\X=some (e,c))\/(∃ z,stp b=some (z,c)/\e=D z)\/∃ z,stp a=some (z,c)/\e=C z:=by
 rcases J6 s with ⟨_,s⟩ | s
 ·rcases J6 s with s | s
  ·exact .inl s
  ·exact .inr (.inl s)
 ·exact .inr (.inr s)
theorem WX {k:Nat}{e:Ex}:∀ {e':Ex} {c:Bool},Tr k e->stp e=some (e',c)->Tr k e'/\dep dz e'<=dep dz e+grow k c:=by
 induction e with
 | nm _ | num _ | tru _ | emp | fn _ _ _ | rc _ _ _ _=>intro e' c _ h;cases h
 | cal a b ia ib =>
  intro e' c T h;obtain ⟨hc,ho,n,K⟩:=id T;obtain ⟨K1,K2⟩:=K.two rfl;rcases Tf h with ⟨hw,h⟩ | ⟨b',e1,rfl⟩ | ⟨a',e1,rfl⟩
  ·exact Fz T h λa b=>⟨λz=>(by cases z;exact hw),λ_ z=>(by cases z),λ_ _ z=>(by cases z),λ_ _ _ z=>(by cases z)⟩
  ·obtain ⟨⟨t1,t2,n2,t3⟩,t4⟩:=ib ⟨hc.2,ho.2,K2⟩ e1;obtain ⟨n1,K1⟩:=K1;exact ⟨⟨⟨hc.1,t1⟩,⟨ho.1,t2⟩,_,.cal K1 t3⟩,by simp only [dep];omega⟩
  ·obtain ⟨⟨t1,t2,n2,t3⟩,t4⟩:=ia ⟨hc.1,ho.1,K1⟩ e1;obtain ⟨n1,K2⟩:=K2;exact ⟨⟨⟨t1,hc.2⟩,⟨t2,ho.2⟩,_,.cal t3 K2⟩,by simp only [dep];omega⟩
 | pr a b ia ib =>
  intro e' c T h;obtain ⟨hc,ho,n,K⟩:=id T;obtain ⟨K1,K2⟩:=K.two rfl;rcases Tf h with ⟨hw,h⟩ | ⟨b',e1,rfl⟩ | ⟨a',e1,rfl⟩
  ·cases h
  ·obtain ⟨⟨t1,t2,n2,t3⟩,t4⟩:=ib ⟨hc.2,ho.2,K2⟩ e1;obtain ⟨n1,K1⟩:=K1;exact ⟨⟨⟨hc.1,t1⟩,⟨ho.1,t2⟩,_,.pr K1 t3⟩,by simp only [dep];omega⟩
  ·obtain ⟨⟨t1,t2,n2,t3⟩,t4⟩:=ia ⟨hc.1,ho.1,K1⟩ e1;obtain ⟨n1,K2⟩:=K2;exact ⟨⟨⟨t1,hc.2⟩,⟨t2,ho.2⟩,_,.pr t3 K2⟩,by simp only [dep];omega⟩
 | lk a b ia ib =>
  intro e' c T h;obtain ⟨hc,ho,n,K⟩:=id T;obtain ⟨K1,K2⟩:=K.two rfl;rcases Tf h with ⟨hw,h⟩ | ⟨b',e1,rfl⟩ | ⟨a',e1,rfl⟩
  ·cases h
  ·obtain ⟨⟨t1,t2,n2,t3⟩,t4⟩:=ib ⟨hc.2,ho.2,K2⟩ e1;obtain ⟨n1,K1⟩:=K1;exact ⟨⟨⟨hc.1,t1⟩,⟨ho.1,t2⟩,_,.lk K1 t3⟩,by simp only [dep];omega⟩
  ·obtain ⟨⟨t1,t2,n2,t3⟩,t4⟩:=ia ⟨hc.1,ho.1,K1⟩ e1;obtain ⟨n1,K2⟩:=K2;exact ⟨⟨⟨t1,hc.2⟩,⟨t2,ho.2⟩,_,.lk t3 K2⟩,by simp only [dep];omega⟩
 | op o a b ia ib =>
  intro e' c T h;obtain ⟨hc,ho,n,K⟩:=id T;obtain ⟨K1,K2⟩:=K.two rfl;rcases Tf h with ⟨hw,h⟩ | ⟨b',e1,rfl⟩ | ⟨a',e1,rfl⟩
  ·exact Fz T h λa b=>⟨λz=>(by cases z),λ_ z=>(by cases z),λ_ _ z=>(by cases z),λ_ _ _ z=>(by cases z)⟩
  ·obtain ⟨⟨t1,t2,n2,t3⟩,t4⟩:=ib ⟨hc.2,ho.2.2,K2⟩ e1;obtain ⟨n1,K1⟩:=K1;exact ⟨⟨⟨hc.1,t1⟩,⟨ho.1,ho.2.1,t2⟩,_,.op K1 t3⟩,by simp only [dep];omega⟩
  ·obtain ⟨⟨t1,t2,n2,t3⟩,t4⟩:=ia ⟨hc.1,ho.2.1,K1⟩ e1;obtain ⟨n1,K2⟩:=K2;exact ⟨⟨⟨t1,hc.2⟩,⟨ho.1,t2,ho.2.2⟩,_,.op t3 K2⟩,by simp only [dep];omega⟩
 | lt x a b ia ib =>
  intro e' c T h;obtain ⟨hc,ho,n,K⟩:=id T;obtain ⟨K1,K2⟩:=K.two rfl;rcases J6 h with ⟨hv,h⟩ | ⟨a',e1,rfl⟩
  ·exact Fz T h λa b=>⟨λz=>(by cases z),λ_ z=>(by cases z;exact hv),λ_ _ z=>(by cases z),λ_ _ _ z=>(by cases z)⟩
  ·obtain ⟨⟨t1,t2,n2,t3⟩,t4⟩:=ia ⟨hc.1,ho.1,K1⟩ e1;obtain ⟨n1,K2⟩:=K2;refine ⟨⟨⟨t1,hc.2⟩,⟨t2,ho.2⟩,_,.lt t3 K2⟩,?_⟩;have:=Ej (e:=b) (Bu (ρ:=dz) (ρ':=dz) x (λy=>Nat.le_add_right _ _) t4);simp only [dep];omega
 | wh a b d ia ib ic =>
  intro e' c T h;obtain ⟨hc,ho,n,K⟩:=id T;obtain ⟨K1,⟨n1,K2⟩,⟨n3,K3⟩⟩:=K.three rfl;rcases J6 h with ⟨hv,h⟩ | ⟨a',e1,rfl⟩
  ·exact Fz T h λa b=>⟨λz=>(by cases z),λ_ z=>(by cases z),λ_ _ z=>(by cases z),λ_ _ _ z=>(by cases z)⟩
  ·obtain ⟨⟨t1,t2,n2,t3⟩,t4⟩:=ia ⟨hc.1,ho.1,K1⟩ e1;exact ⟨⟨⟨t1,hc.2⟩,⟨t2,ho.2⟩,_,.wh t3 K2 K3⟩,by simp only [dep];omega⟩
 | opn a x y b ia ib =>
  intro e' c T h;obtain ⟨hc,ho,n,K⟩:=id T;obtain ⟨K1,K2⟩:=K.two rfl;rcases J6 h with ⟨hv,h⟩ | ⟨a',e1,rfl⟩
  ·exact Fz T h λa b=>⟨λz=>(by cases z),λ_ z=>(by cases z),λ_ _ z=>(by cases z;exact hv),λ_ _ _ z=>(by cases z)⟩
  ·obtain ⟨⟨t1,t2,n2,t3⟩,t4⟩:=ia ⟨hc.1,ho.1,K1⟩ e1;obtain ⟨n1,K2⟩:=K2;refine ⟨⟨⟨t1,hc.2⟩,⟨t2,ho.2⟩,_,.opn t3 K2⟩,?_⟩;have:=Ej (e:=b) (Bu y (Bu (ρ:=dz) (ρ':=dz) x (λy=>Nat.le_add_right _ _) t4) t4);simp only [dep];omega
 | spl a b x y d ia ib ic =>
  intro e' c T h;obtain ⟨hc,ho,n,K⟩:=id T;obtain ⟨K1,⟨n1,K2⟩,⟨n3,K3⟩⟩:=K.three rfl;rcases J6 h with ⟨hv,h⟩ | ⟨a',e1,rfl⟩
  ·exact Fz T h λa b=>⟨λz=>(by cases z),λ_ z=>(by cases z),λ_ _ z=>(by cases z),λ_ _ _ z=>(by cases z;exact hv)⟩
  ·obtain ⟨⟨t1,t2,n2,t3⟩,t4⟩:=ia ⟨hc.1,ho.1,K1⟩ e1;refine ⟨⟨⟨t1,hc.2⟩,⟨t2,ho.2⟩,_,.spl t3 K2 K3⟩,?_⟩;have:=Ej (e:=d) (Bu y (Bu (ρ:=dz) (ρ':=dz) x (λy=>Nat.le_add_right _ _) t4) t4);simp only [dep];omega
end KX
namespace KX
open PySem
namespace Ex
noncomputable def kn:Ex->Nat
 | nm _ | num _ | tru _ | emp=>0
 | fn _ b=>1+kn b | rc _ _ b=>1+kn b | cal a b=>1+max (kn a) (kn b) | lt _ a b=>1+kn a+kn b | wh a b c=>1+max (kn a) (max (kn b) (kn c)) | pr a b=>1+max (kn a) (kn b)
 | opn a _ _ b=>1+kn a+kn b | lk a b=>1+max (kn a) (kn b) | spl a b _ _ c=>1+max (kn b) (kn a+kn c) | op _ a b=>1+max (kn a) (kn b)
noncomputable def opj (k:Nat):Ex->Prop
 | nm _ | num _ | tru _ | emp=>True
 | fn _ b=>opj k b/\kn b<=k | rc _ _ b=>opj k b/\kn b<=k | cal a b=>opj k a/\opj k b | lt _ a b=>opj k a/\opj k b | wh a b c=>opj k a/\opj k b/\opj k c | pr a b=>opj k a/\opj k b
 | opn a _ _ b=>opj k a/\opj k b | lk a b=>opj k a/\opj k b | spl a b _ _ c=>opj k a/\opj k b/\opj k c | op o a b=>abl o/\opj k a/\opj k b
end Ex
open Ex
theorem Tg {k:Nat}{e:Ex}:e.opj k->e.opk:=by
 induction e with
 | nm _ | num _ | tru _ | emp=>exact λ_=>trivial
 | fn x b ih=>exact λh=>ih h.1
 | rc f x b ih=>exact λh=>ih h.1
 | cal a b ia ib | pr a b ia ib | lk a b ia ib=>exact λh=>⟨ia h.1,ib h.2⟩
 | lt x a b ia ib=>exact λh=>⟨ia h.1,ib h.2⟩
 | opn a x y b ia ib=>exact λh=>⟨ia h.1,ib h.2⟩
 | op o a b ia ib=>exact λh=>⟨h.1,ia h.2.1,ib h.2.2⟩
 | wh a b c ia ib ic=>exact λh=>⟨ia h.1,ib h.2.1,ic h.2.2⟩
 | spl a b x y c ia ib ic=>exact λh=>⟨ia h.1,ib h.2.1,ic h.2.2⟩
theorem WY {k:Nat}{e:Ex}:e.opj k->Kb k e e.kn:=by
 induction e with
 | nm x=>exact λ_=>.nm x
 | num i=>exact λ_=>.num i
 | tru b=>exact λ_=>.tru b
 | emp=>exact λ_=>.emp
 | fn x b ih=>exact λh=>.fn (ih h.1) h.2
 | rc f x b ih=>exact λh=>.rc (ih h.1) h.2
 | cal a b ia ib=>exact λh=>.cal (ia h.1) (ib h.2)
 | pr a b ia ib=>exact λh=>.pr (ia h.1) (ib h.2)
 | lk a b ia ib=>exact λh=>.lk (ia h.1) (ib h.2)
 | lt x a b ia ib=>exact λh=>.lt (ia h.1) (ib h.2)
 | opn a x y b ia ib=>exact λh=>.opn (ia h.1) (ib h.2)
 | op o a b ia ib=>exact λh=>.op (ia h.2.1) (ib h.2.2)
 | wh a b c ia ib ic=>exact λh=>.wh (ia h.1) (ib h.2.1) (ic h.2.2)
 | spl a b x y c ia ib ic=>exact λh=>.spl (ia h.1) (ib h.2.1) (ic h.2.2)
theorem WZ {e:Ex}:∀ {ρ:Dn} {m:Nat},(∀ y,ρ y<=m)->dep ρ e<=e.kn+m:=by
 have up:∀ {ρ:Dn} {m:Nat} (n:Nat),(∀ y,ρ y<=m)->∀ y,ρ y<=n+m:=λn h y=>Nat.le_trans (h y) (Nat.le_add_left _ _)
 induction e with
 | nm x=>intro ρ m h;exact Nat.le_trans (h x) (Nat.le_add_left _ _)
 | num _ | tru _ | emp=>intros;exact Nat.zero_le _
 | fn x b ih=>intro ρ m h;exact m1 (ih (BL x h (Nat.zero_le m)))
 | rc f x b ih=>intro ρ m h;exact m1 (ih (BL x (BL f h (Nat.zero_le m)) (Nat.zero_le m)))
 | cal a b ia ib | pr a b ia ib | lk a b ia ib=>intro ρ m h;exact m2 (ia h) (ib h)
 | op o a b ia ib=>intro ρ m h;exact m2 (ia h) (ib h)
 | wh a b c ia ib ic=>intro ρ m h;exact m3 (ia h) (ib h) (ic h)
 | lt x a b ia ib=>intro ρ m h;exact m4 (ia h) (ib (ρ:=ρ.up x (dep ρ a)) (m:=a.kn+m) (BL x (up _ h) (ia h)))
 | opn a x y b ia ib=>intro ρ m h;exact m4 (ia h) (ib (ρ:=(ρ.up x (dep ρ a)).up y (dep ρ a)) (m:=a.kn+m) (BL y (BL x (up _ h) (ia h)) (ia h)))
 | spl a b x y c ia ib ic=>intro ρ m h;exact m5 (ia h) (ib h) (ic (ρ:=(ρ.up x (dep ρ a)).up y (dep ρ a)) (m:=a.kn+m) (BL y (BL x (up _ h) (ia h)) (ia h)))
open KM
abbrev Gm:=Str->Kd->Prop
noncomputable def Gm.put (Γ:Gm)(x:Str)(T:Kd->Prop):Gm:=λy t=>if y=x then T t else Γ y t
noncomputable def g0:Gm:=λ_ _=>False
noncomputable def Ti (o:Str):Kd:=if o="plus" then .num else if o="minus" then .num else .tru
noncomputable def Gm.Le (Γ Δ:Gm):Prop:=∀ y t,Γ y t->Δ y t
theorem Gm.Le.put {Γ Δ:Gm}(h:Γ.Le Δ)(x:Str)(T:Kd->Prop):(Γ.put x T).Le (Δ.put x T):=λy t z=>by
 simp only [Gm.put] at z ⊢;split
 ·rename_i e;rw [if_pos e] at z;exact z
 ·rename_i e;rw [if_neg e] at z;exact h y t z
noncomputable def wk:Kd->Nat
 | .num | .tru=>0 | .gap _=>1 | .ls a=>max 1 (wk a) | .fn _ r=>max 1 (wk r) | .pr a b=>wk a+wk b
noncomputable def nk:Kd->Nat
 | .num | .tru=>1 | .gap _=>0 | .ls _=>0 | .fn _ r=>1+nk r | .pr a b=>1+nk a+nk b
noncomputable def zk (m:Nat):Kd->Nat
 | .num | .tru=>1 | .gap _=>m | .ls a=>max 1 (wk a) * m | .fn _ r=>max m (1+zk m r) | .pr a b=>1+zk m a+zk m b
abbrev dy:Kd:=.gap 0
theorem G5 {a b m:Nat}(h:a<=b):a * m<=b * m:=Nat.mul_le_mul_right m h
theorem Hg {m:Nat}:∀ g:Kd,zk m g<=wk g * m+nk g
 | .num | .tru=>by simp [zk,wk,nk]
 | .gap _=>by simp [zk,wk,nk]
 | .ls a=>by simp [zk,wk,nk]
 | .fn _ r=>by
  have h:=Hg (m:=m) r;have h1:=G5 (m:=m) (Nat.le_max_left 1 (wk r));have h2:=G5 (m:=m) (Nat.le_max_right 1 (wk r));simp only [zk,wk,nk];omega
 | .pr a b=>by
  have h1:=Hg (m:=m) a;have h2:=Hg (m:=m) b;simp only [zk,wk,nk,Nat.add_mul];omega
theorem Dz {m n:Nat}(h:m<=n):∀ g:Kd,zk m g<=zk n g
 | .num | .tru=>Nat.le_refl _
 | .gap _=>h
 | .ls a=>Nat.mul_le_mul_left _ h
 | .fn _ r=>by have:=Dz h r;simp only [zk];omega
 | .pr a b=>by have:=Dz h a;have:=Dz h b;simp only [zk];omega
theorem DB {m:Nat}(h:1<=m):∀ g:Kd,1<=zk m g
 | .num | .tru=>Nat.le_refl _
 | .gap _=>h
 | .ls a=>Nat.le_trans h (by simp only [zk];exact Nat.le_trans (Nat.le_of_eq (Nat.one_mul m).symm) (G5 (Nat.le_max_left 1 (wk a))))
 | .fn _ r=>by simp only [zk];omega
 | .pr a b=>by simp only [zk];omega
noncomputable def Gd (m:Nat):Ex->Kd->Prop
 | .pr x y,.pr a b=>Gd m x a/\Gd m y b
 | .lk x y,.ls a=>1+x.sz+y.sz<=max 1 (wk a) * m/\Gd m x a/\Gd m y (.ls a)
 | v,g=>v.sz<=zk m g
theorem Gd.sz {m:Nat}{v:Ex}:∀ {g:Kd},Gd m v g->v.sz<=zk m g:=by
 induction v with
 | pr x y ia ib =>
  intro g h;cases g with
  | pr a b=>have:=ia h.1;have:=ib h.2;simp only [Ex.sz,zk];omega
  | _=>exact h
 | lk x y ia ib =>
  intro g h;cases g with
  | ls a=>exact h.1
  | _=>exact h
 | _=>intro g h;cases g <;> exact h
theorem Gd.mono {m n:Nat}(l:m<=n){v:Ex}:∀ {g:Kd},Gd m v g->Gd n v g:=by
 induction v with
 | pr x y ia ib =>
  intro g h;cases g with
  | pr a b=>exact ⟨ia h.1,ib h.2⟩
  | _=>exact Nat.le_trans h (Dz l _)
 | lk x y ia ib =>
  intro g h;cases g with
  | ls a=>exact ⟨Nat.le_trans h.1 (Nat.mul_le_mul_left _ l),ia h.2.1,ib h.2.2⟩
  | _=>exact Nat.le_trans h (Dz l _)
 | _=>intro g h;cases g <;> exact Nat.le_trans h (Dz l _)
structure FY (g:Kd):Prop where
 w:wk g<=3
 n:nk g<=15
noncomputable def fK (f a r:Kd):Prop:=f=.fn a r\/(f=dy/\a=dy/\r=dy)
noncomputable def pK (p a b:Kd):Prop:=p=.pr a b\/(p=dy/\a=dy/\b=dy)
noncomputable def lK (l a:Kd):Prop:=l=.ls a\/(l=dy/\a=dy)
noncomputable def eK (k g:Kd):Prop:=g=k\/g=dy
theorem fK.det {f a r a' r':Kd}(h:fK f a r)(h':fK f a' r'):a=a'/\r=r':=by
 rcases h with rfl | ⟨rfl,rfl,rfl⟩ <;> rcases h' with h' | ⟨h',rfl,rfl⟩ <;> cases h' <;> exact ⟨rfl,rfl⟩
theorem pK.det {f a r a' r':Kd}(h:pK f a r)(h':pK f a' r'):a=a'/\r=r':=by
 rcases h with rfl | ⟨rfl,rfl,rfl⟩ <;> rcases h' with h' | ⟨h',rfl,rfl⟩ <;> cases h' <;> exact ⟨rfl,rfl⟩
theorem lK.det {f a a':Kd}(h:lK f a)(h':lK f a'):a=a':=by
 rcases h with rfl | ⟨rfl,rfl⟩ <;> rcases h' with h' | ⟨h',rfl⟩ <;> cases h' <;> rfl
inductive Cs (m:Nat):Nat->Gm->Ex->Kd->Prop
 | hole {j:Nat} {Γ:Gm} {v:Ex} {g:Kd}:FY g->isV v=true->v.cl []->Gd m v g->Cs m 3 g0 v g->Cs m j Γ v g
 | nm {j:Nat} {Γ:Gm} {x:Str} {g:Kd}:FY g->Γ x g->Cs m j Γ (.nm x) g
 | num {j:Nat} {Γ:Gm} {g:Kd} (i:Int):eK .num g->Cs m j Γ (.num i) g
 | tru {j:Nat} {Γ:Gm} {g:Kd} (b:Bool):eK .tru g->Cs m j Γ (.tru b) g
 | emp {j:Nat} {Γ:Gm} {g a:Kd}:FY g->lK g a->Cs m j Γ .emp g
 | fn {j:Nat} {Γ:Gm} {x:Str} {b:Ex} {g a r:Kd}:FY g->fK g a r->(j=0->g≠dy)->Cs m (j - 1) (Γ.put x (·=a)) b r->Cs m j Γ (.fn x b) g
 | rc {j:Nat} {Γ:Gm} {f x:Str} {b:Ex} {g a r:Kd}:FY g->fK g a r->(j=0->g≠dy)->Cs m (j - 1) ((Γ.put f (·=g)).put x (·=a)) b r->Cs m j Γ (.rc f x b) g
 | pr {j:Nat} {Γ:Gm} {e e':Ex} {g a b:Kd}:FY g->pK g a b->(j=0->g≠dy)->Cs m (j - 1) Γ e a->Cs m (j - 1) Γ e' b->Cs m j Γ (.pr e e') g
 | lk {j:Nat} {Γ:Gm} {e e':Ex} {g a:Kd}:FY g->lK g a->Cs m j Γ e a->Cs m j Γ e' g->Cs m (j+1) Γ (.lk e e') g
 | cal {j:Nat} {Γ:Gm} {e e':Ex} {f a r:Kd}:FY r->fK f a r->wk a<=2->Cs m j Γ e f->Cs m j Γ e' a->Cs m (j+1) Γ (.cal e e') r
 | lt {j:Nat} {Γ:Gm} {x:Str} {e e':Ex} {g t:Kd}:FY g->wk t<=2->Cs m j Γ e t->Cs m j (Γ.put x (·=t)) e' g->Cs m (j+1) Γ (.lt x e e') g
 | ltV {j:Nat} {Γ:Gm} {x:Str} {e e':Ex} {g:Kd} (T:Kd->Prop):FY g->isV e=true->e.cl []->e.sz<=m->(∀ t,T t->Gd m e t)->(∀ t,T t->FY t->Cs m 3 g0 e t)->Cs m j (Γ.put x T) e' g->Cs m (j+1) Γ (.lt x e e') g
 | wh {j:Nat} {Γ:Gm} {e e1 e2:Ex} {g t:Kd}:FY g->eK .tru t->Cs m j Γ e t->Cs m j Γ e1 g->Cs m j Γ e2 g->Cs m (j+1) Γ (.wh e e1 e2) g
 | opn {j:Nat} {Γ:Gm} {x y:Str} {e e':Ex} {p a b g:Kd}:FY g->pK p a b->Cs m j Γ e p->Cs m j ((Γ.put x (·=a)).put y (·=b)) e' g->Cs m (j+1) Γ (.opn e x y e') g
 | spl {j:Nat} {Γ:Gm} {x y:Str} {e e1 e2:Ex} {l a g:Kd}:FY g->lK l a->wk l<=2->Cs m j Γ e l->Cs m j Γ e1 g->Cs m j ((Γ.put x (·=a)).put y (·=l)) e2 g->Cs m (j+1) Γ (.spl e e1 x y e2) g
 | op {j:Nat} {Γ:Gm} {o:Str} {e e':Ex} {g a b:Kd}:eK (Ti o) g->eK .num a->eK .num b->Cs m j Γ e a->Cs m j Γ e' b->Cs m (j+1) Γ (.op o e e') g
theorem okN {k g:Kd}(h:eK k g)(hk:k=.num\/k=.tru):FY g:=by
 rcases h with rfl | rfl
 ·rcases hk with rfl | rfl <;> exact ⟨by simp [wk],by simp [nk]⟩
 ·exact ⟨by simp [wk],by simp [nk]⟩
theorem W' (o:Str):Ti o=.num\/Ti o=.tru:=by unfold Ti;split;exact .inl rfl;split;exact .inl rfl;exact .inr rfl
theorem Cs.ok {m j:Nat}{Γ:Gm}{e:Ex}{g:Kd}(h:Cs m j Γ e g):FY g:=by
 cases h with
 | num i h=>exact okN h (.inl rfl)
 | tru i h=>exact okN h (.inr rfl)
 | op h _ _ _ _=>exact okN h (W' _)
 | hole h | nm h | emp h | fn h | rc h | pr h | lk h | cal h | lt h | ltV _ h | wh h | opn h | spl h=>exact h
theorem Cs.cl {m j:Nat}{Γ:Gm}{e:Ex}{g:Kd}(h:Cs m j Γ e g):∀ {xs:List Str},(∀ y t,Γ y t->y∈xs)->e.cl xs:=by
 have c1:∀ {Γ:Gm} {xs:List Str} (x:Str) {T:Kd->Prop},(∀ y t,Γ y t->y∈xs)->∀ y t,Γ.put x T y t->y∈x::xs:=λ{Γ xs} x {T} h y t z=>by
  simp only [Gm.put] at z;by_cases e:y=x
  ·exact e▸.head _
  ·rw [if_neg e] at z;exact .tail _ (h y t z)
 induction h with
 | hole _ _ c _ _ _=>exact λ_=>cl.mono (λ_ z=>by cases z) c
 | nm _ h=>exact λk=>k _ _ h
 | num _ _ | tru _ _ | emp _ _=>exact λ_=>trivial
 | fn _ _ _ _ ih=>exact λk=>ih (c1 _ k)
 | rc _ _ _ _ ih=>exact λk=>ih (c1 _ (c1 _ k))
 | pr _ _ _ _ _ ia ib=>exact λk=>⟨ia k,ib k⟩
 | lk _ _ _ _ ia ib=>exact λk=>⟨ia k,ib k⟩
 | cal _ _ _ _ _ ia ib=>exact λk=>⟨ia k,ib k⟩
 | lt _ _ _ _ ia ib=>exact λk=>⟨ia k,ib (c1 _ k)⟩
 | ltV T _ _ c _ _ _ _ _ ib=>exact λk=>⟨cl.mono (λ_ z=>by cases z) c,ib (c1 _ k)⟩
 | wh _ _ _ _ _ ia ib ic=>exact λk=>⟨ia k,ib k,ic k⟩
 | opn _ _ _ _ ia ib=>exact λk=>⟨ia k,ib (c1 _ (c1 _ k))⟩
 | spl _ _ _ _ _ _ ia ib ic=>exact λk=>⟨ia k,ib k,ic (c1 _ (c1 _ k))⟩
 | op _ _ _ _ _ ia ib=>exact λk=>⟨ia k,ib k⟩
theorem Cs.cl0 {m j:Nat}{e:Ex}{g:Kd}(h:Cs m j g0 e g):e.cl []:=h.cl λ_ _ z=>z.elim
theorem Cs.mono {m n:Nat}(l:m<=n){j:Nat}{Γ:Gm}{e:Ex}{g:Kd}(h:Cs m j Γ e g):∀ {i:Nat} {Δ:Gm},j<=i->Γ.Le Δ->Cs n i Δ e g:=by
 have up:∀ {j i:Nat},j+1<=i->∃ i',i=i'+1/\j<=i':=λ{j i} h=>⟨i - 1,(),()⟩
 induction h with
 | hole a b c d _ ih=>exact λ_ _=>.hole a b c (d.mono l) (ih (Nat.le_refl _) λ_ _ z=>z)
 | nm a h=>exact λ_ k=>.nm a (k _ _ h)
 | num i h=>exact λ_ _=>.num i h
 | tru i h=>exact λ_ _=>.tru i h
 | emp a h=>exact λ_ _=>.emp a h
 | fn a b c _ ih=>exact λhj k=>.fn a b (λz=>c ()) (ih () (k.put _ _))
 | rc a b c _ ih=>exact λhj k=>.rc a b (λz=>c ()) (ih () ((k.put _ _).put _ _))
 | pr a b c _ _ ia ib=>exact λhj k=>.pr a b (λz=>c ()) (ia () k) (ib () k)
 | lk a b _ _ ia ib=>intro i Δ hj k;obtain ⟨i,rfl,hl⟩:=up hj;exact .lk a b (ia hl k) (ib hl k)
 | cal a b c _ _ ia ib=>intro i Δ hj k;obtain ⟨i,rfl,hl⟩:=up hj;exact .cal a b c (ia hl k) (ib hl k)
 | lt a b _ _ ia ib=>intro i Δ hj k;obtain ⟨i,rfl,hl⟩:=up hj;exact .lt a b (ia hl k) (ib hl (k.put _ _))
 | ltV T a b c d e _ _ i1 ib=>intro i Δ hj k;obtain ⟨i,rfl,hl⟩:=up hj;exact .ltV T a b c (Nat.le_trans d l) (λt z=>(e t z).mono l) (λt z q=>i1 t z q (Nat.le_refl _) λ_ _ z=>z) (ib hl (k.put _ _))
 | wh a b _ _ _ ia ib ic=>intro i Δ hj k;obtain ⟨i,rfl,hl⟩:=up hj;exact .wh a b (ia hl k) (ib hl k) (ic hl k)
 | opn a b _ _ ia ib=>intro i Δ hj k;obtain ⟨i,rfl,hl⟩:=up hj;exact .opn a b (ia hl k) (ib hl ((k.put _ _).put _ _))
 | spl a b c _ _ _ ia ib ic=>intro i Δ hj k;obtain ⟨i,rfl,hl⟩:=up hj;exact .spl a b c (ia hl k) (ib hl k) (ic hl ((k.put _ _).put _ _))
 | op a b c _ _ ia ib=>intro i Δ hj k;obtain ⟨i,rfl,hl⟩:=up hj;exact .op a b c (ia hl k) (ib hl k)
structure eU (m:Nat)(σ:Su)(Γ Δ:Gm):Prop where
 s:∀ x v t,σ x=some v->Γ x t->isV v=true/\v.cl []/\Gd m v t/\(FY t->Cs m 3 g0 v t)
 n:∀ x t,σ x=none->Γ x t->Δ x t
theorem eU.put {m:Nat}{σ:Su}{Γ Δ:Gm}(h:eU m σ Γ Δ)(x:Str)(T:Kd->Prop):eU m (σ.rm x) (Γ.put x T) (Δ.put x T):=by
 refine ⟨λy v t e z=>?_,λy t e z=>?_⟩
 ·simp only [Su.rm] at e;simp only [Gm.put] at z;by_cases q:y=x
  ·rw [if_pos q] at e;cases e
  ·rw [if_neg q] at e z;exact h.s y v t e z
 ·simp only [Su.rm] at e;simp only [Gm.put] at z ⊢;by_cases q:y=x
  ·rw [if_pos q] at z ⊢;exact z
  ·rw [if_neg q] at e z ⊢;exact h.n y t e z
theorem Cs.sub {m j:Nat}{Γ:Gm}{e:Ex}{g:Kd}(h:Cs m j Γ e g):∀ {σ:Su} {Δ:Gm},eU m σ Γ Δ->Cs m j Δ (Ex.sub σ e) g:=by
 induction h with
 | hole a b c d h ih=>intro σ Δ k;rw [Gp c];exact .hole a b c d h
 | @nm j Γ x g a h =>
  intro σ Δ k;cases q:σ x with
  | none=>simp only [Ex.sub,q,Option.getD_none];exact .nm a (k.n _ _ q h)
  | some v =>
   obtain ⟨h1,h2,h3,h4⟩:=k.s _ _ _ q h;simp only [Ex.sub,q,Option.getD_some];exact .hole a h1 h2 h3 (h4 a)
 | num i h=>exact λ_=>.num i h
 | tru b h=>exact λ_=>.tru b h
 | emp a h=>exact λ_=>.emp a h
 | fn a b c _ ih=>exact λk=>.fn a b c (ih (k.put _ _))
 | rc a b c _ ih=>exact λk=>.rc a b c (ih ((k.put _ _).put _ _))
 | pr a b c _ _ ia ib=>exact λk=>.pr a b c (ia k) (ib k)
 | lk a b _ _ ia ib=>exact λk=>.lk a b (ia k) (ib k)
 | cal a b c _ _ ia ib=>exact λk=>.cal a b c (ia k) (ib k)
 | lt a b _ _ ia ib=>exact λk=>.lt a b (ia k) (ib (k.put _ _))
 | ltV T a b c d e f _ _ ib=>intro σ Δ k;simp only [Ex.sub];rw [Gp c];exact .ltV T a b c d e f (ib (k.put _ _))
 | wh a b _ _ _ ia ib ic=>exact λk=>.wh a b (ia k) (ib k) (ic k)
 | opn a b _ _ ia ib=>exact λk=>.opn a b (ia k) (ib ((k.put _ _).put _ _))
 | spl a b c _ _ _ ia ib ic=>exact λk=>.spl a b c (ia k) (ib k) (ic ((k.put _ _).put _ _))
 | op a b c _ _ ia ib=>exact λk=>.op a b c (ia k) (ib k)
structure Vl (m:Nat)(u:Ex)(k:Kd):Prop where
 v:isV u=true
 g:Gd m u k
 c:Cs m 3 g0 u k
theorem Vl.mono {m n:Nat}{v:Ex}{g:Kd}(h:Vl m v g)(l:m<=n):Vl n v g:=⟨h.v,h.g.mono l,h.c.mono l (Nat.le_refl _) λ_ _ z=>z⟩
theorem Cs.give {m j:Nat}{Γ:Gm}{x:Str}{v e:Ex}{g:Kd}{T:Kd->Prop}(h:Cs m j (Γ.put x T) e g)(h1:isV v=true)(h2:v.cl [])(hv:∀ t,T t->Gd m v t/\(FY t->Cs m 3 g0 v t)):Cs m j Γ (KX.give x v e) g:=by
 refine h.sub ⟨λy u t e z=>?_,λy t e z=>?_⟩
 ·simp only [Su.one] at e;simp only [Gm.put] at z;by_cases q:y=x
  ·rw [if_pos q] at e z;cases e;exact ⟨h1,h2,hv t z⟩
  ·rw [if_neg q] at e;cases e
 ·simp only [Su.one] at e;simp only [Gm.put] at z;by_cases q:y=x
  ·rw [if_pos q] at e;cases e
  ·rw [if_neg q] at z;exact z
theorem Cs.abi {m j:Nat}{Γ:Gm}{x:Str}{v e:Ex}{g a:Kd}(h:Cs m j (Γ.put x (·=a)) e g)(hv:Vl m v a):Cs m j Γ (KX.give x v e) g :=
 h.give hv.v hv.c.cl0 λt z=>z▸⟨hv.g,λ_=>hv.c⟩
theorem Cs.aae {m j:Nat}{x y:Str}{v w e:Ex}{g a b:Kd}(h:Cs m j ((g0.put x (·=a)).put y (·=b)) e g)(hv:Vl m v a)(hw:Vl m w b):Cs m j g0 (KX.aae x y v w e) g :=
 (h.abi hw).abi hv
theorem jc {Γ:Gm}:Γ.Le Γ:=λ_ _ z=>z
theorem Cs.up {m j i:Nat}{Γ:Gm}{e:Ex}{g:Kd}(h:Cs m j Γ e g)(l:j<=i):Cs m i Γ e g:=h.mono (Nat.le_refl _) l jc
theorem Cs.fnI {m j:Nat}{x:Str}{c:Ex}{f a r:Kd}(h:Cs m j g0 (.fn x c) f)(hj:j<=3)(k:fK f a r):Cs m 2 (g0.put x (·=a)) c r:=by
 generalize he:Ex.fn x c=e at h;generalize hg:g0=Γ at h
 induction h with
 | hole _ _ _ _ _ ih=>subst hg;exact ih (Nat.le_refl _) k he rfl
 | fn _ b _ h _=>cases he;obtain ⟨rfl,rfl⟩:=k.det b;subst hg;exact h.up ()
 | _=>cases he
theorem Cs.rcI {m j:Nat}{f x:Str}{c:Ex}{g a r:Kd}(h:Cs m j g0 (.rc f x c) g)(hj:j<=3)(k:fK g a r):Cs m 2 ((g0.put f (·=g)).put x (·=a)) c r:=by
 generalize he:Ex.rc f x c=e at h;generalize hg:g0=Γ at h
 induction h with
 | hole _ _ _ _ _ ih=>subst hg;exact ih (Nat.le_refl _) k he rfl
 | rc _ b _ h _=>cases he;obtain ⟨rfl,rfl⟩:=k.det b;subst hg;exact h.up ()
 | _=>cases he
theorem Cs.prI {m j:Nat}{v w:Ex}{p a b:Kd}(h:Cs m j g0 (.pr v w) p)(hj:j<=3)(k:pK p a b):Cs m 3 g0 v a/\Cs m 3 g0 w b:=by
 generalize he:Ex.pr v w=e at h;generalize hg:g0=Γ at h
 induction h with
 | hole _ _ _ _ _ ih=>subst hg;exact ih (Nat.le_refl _) k he rfl
 | pr _ b _ h h' _ _=>cases he;obtain ⟨rfl,rfl⟩:=k.det b;subst hg;exact ⟨h.up (),h'.up ()⟩
 | _=>cases he
theorem Cs.lkI {m j:Nat}{v w:Ex}{l a:Kd}(h:Cs m j g0 (.lk v w) l)(hj:j<=3)(k:lK l a):Cs m 3 g0 v a/\Cs m 3 g0 w l:=by
 generalize he:Ex.lk v w=e at h;generalize hg:g0=Γ at h
 induction h with
 | hole _ _ _ _ _ ih=>subst hg;exact ih (Nat.le_refl _) k he rfl
 | lk _ b h h' _ _=>cases he;obtain rfl:=k.det b;subst hg;exact ⟨h.up (),h'.up ()⟩
 | _=>cases he
theorem Gd.dyn {m:Nat}{v:Ex}(h:v.sz<=m):Gd m v dy:=by cases v <;> exact h
theorem Gd.of {m:Nat}{v:Ex}{g:Kd}(h1:∀ x y,v≠.pr x y)(h2:∀ x y,v≠.lk x y)(h:v.sz<=zk m g):Gd m v g:=by
 cases v with
 | pr x y=>exact absurd rfl (h1 x y)
 | lk x y=>exact absurd rfl (h2 x y)
 | _=>cases g <;> exact h
theorem Vl.pr {m:Nat}{v w:Ex}{p a b:Kd}(h:Vl m (.pr v w) p)(k:pK p a b):Vl m v a/\Vl m w b:=by
 obtain ⟨h1,h2,h3⟩:=h;obtain ⟨c1,c2⟩:=h3.prI (Nat.le_refl _) k;obtain ⟨v1,v2⟩:=Bool.and_eq_true_iff.1 h1;rcases k with rfl | ⟨rfl,rfl,rfl⟩
 ·exact ⟨⟨v1,h2.1,c1⟩,⟨v2,h2.2,c2⟩⟩
 ·have:1+v.sz+w.sz<=m:=h2;exact ⟨⟨v1,.dyn (),c1⟩,⟨v2,.dyn (),c2⟩⟩
theorem Vl.lk {m:Nat}{v w:Ex}{l a:Kd}(h:Vl m (.lk v w) l)(k:lK l a):Vl m v a/\Vl m w l:=by
 obtain ⟨h1,h2,h3⟩:=h;obtain ⟨c1,c2⟩:=h3.lkI (Nat.le_refl _) k;obtain ⟨v1,v2⟩:=Bool.and_eq_true_iff.1 h1;rcases k with rfl | ⟨rfl,rfl⟩
 ·exact ⟨⟨v1,h2.2.1,c1⟩,⟨v2,h2.2.2,c2⟩⟩
 ·have:1+v.sz+w.sz<=m:=h2;exact ⟨⟨v1,.dyn (),c1⟩,⟨v2,.dyn (),c2⟩⟩
theorem Cs.z0 {m j:Nat}{Γ:Gm}{e:Ex}{g:Kd}(h:Cs m j Γ e g)(hm:1<=m):j=0->e.sz<=zk m g:=by
 induction h with
 | hole _ _ _ d _ _=>exact λ_=>d.sz
 | nm _ _ | num _ _ | tru _ _ | emp _ _=>exact λ_=>DB hm _
 | fn _ b c _ ih=>exact λz=>by subst z;rcases b with rfl | ⟨rfl,_⟩;(have:=ih rfl;simp only [Ex.sz,zk];omega);exact absurd rfl (c rfl)
 | rc _ b c _ ih=>exact λz=>by subst z;rcases b with rfl | ⟨rfl,_⟩;(have:=ih rfl;simp only [Ex.sz,zk];omega);exact absurd rfl (c rfl)
 | pr _ b c _ _ ia ib=>exact λz=>by subst z;rcases b with rfl | ⟨rfl,_⟩;(have:=ia rfl;have:=ib rfl;simp only [Ex.sz,zk];omega);exact absurd rfl (c rfl)
 | _=>exact λz=>absurd z (Nat.succ_ne_zero _)
noncomputable def sS:Nat->Nat->Nat->Nat
 | 0,q,m=>q+m
 | 1,q,m=>2 * q+6 * m
 | 2,q,m=>4 * q+23 * m
 | _,q,m=>8 * q+78 * m
theorem fK.w {f a r:Kd}(h:fK f a r)(m:Nat):wk f * m<=wk r * m+m/\wk r * m<=wk f * m/\m<=wk f * m:=by
 rcases h with rfl | ⟨rfl,rfl,rfl⟩
 ·have h1:=G5 (m:=m) (Nat.le_max_left 1 (wk r));have h2:=G5 (m:=m) (Nat.le_max_right 1 (wk r));have h3:max 1 (wk r) * m<=(wk r+1) * m:=G5 ();rw [Nat.add_mul] at h3;simp only [wk];omega
 ·simp [wk]
theorem pK.w2 {p a b:Kd}(h:pK p a b)(m:Nat):wk a * m+wk b * m<=wk p * m+m:=by
 rcases h with rfl | ⟨rfl,rfl,rfl⟩
 ·simp only [wk,Nat.add_mul];omega
 ·simp only [wk];omega
theorem lK.w {l a:Kd}(h:lK l a)(m:Nat):wk a * m<=wk l * m/\m<=wk l * m:=by
 rcases h with rfl | ⟨rfl,rfl⟩
 ·exact ⟨G5 (Nat.le_max_right _ _),by simp only [wk];exact Nat.le_trans (Nat.le_of_eq (Nat.one_mul m).symm) (G5 (Nat.le_max_left 1 (wk a)))⟩
 ·simp [wk]
theorem eK.w {k t:Kd}(h:eK k t)(hk:k=.num\/k=.tru)(m:Nat):wk t * m<=m:=by
 rcases h with rfl | rfl
 ·rcases hk with rfl | rfl <;> simp [wk]
 ·simp [wk]
theorem Cs.sS {m j:Nat}{Γ:Gm}{e:Ex}{g:Kd}(h:Cs m j Γ e g)(hm:16<=m):j<=3->e.sz<=KX.sS j (wk g * m) m:=by
 have base:∀ {j:Nat} {Γ:Gm} {e:Ex} {g:Kd},Cs m j Γ e g->e.sz<=zk m g->e.sz<=KX.sS j (wk g * m) m:=λ{j Γ e g} h hz=>by
  have h1:=Hg (m:=m) g;have h2:=h.ok.n;rcases j with _ | _ | _ | j <;> simp only [KX.sS] <;> omega
 have w2:∀ {a:Nat},a<=2->a * m<=2 * m:=λh=>G5 h
 induction h with
 | hole a b c d h _=>exact λ_=>base (Cs.hole (j:=_) (Γ:=g0) a b c d h) d.sz
 | nm a h=>exact λ_=>base (Cs.nm a h) (DB () _)
 | num i h=>exact λ_=>base (Cs.num (Γ:=g0) i h) (DB () _)
 | tru i h=>exact λ_=>base (Cs.tru (Γ:=g0) i h) (DB () _)
 | emp a h=>exact λ_=>base (Cs.emp (Γ:=g0) a h) (DB () _)
 | @fn j Γ x b g a r o k c h ih =>
  intro hj;have h0:=(Cs.fn o k c h).z0 ();have h1:=k.w m;rcases j with _ | j
  ·exact base (Cs.fn o k c h) (h0 rfl)
  ·have:=ih ();rcases j with _ | _ | _ | j <;> simp only [KX.sS,Ex.sz,Nat.zero_add,Nat.add_sub_cancel] at * <;> omega
 | @rc j Γ f x b g a r o k c h ih =>
  intro hj;have h0:=(Cs.rc o k c h).z0 ();have h1:=k.w m;rcases j with _ | j
  ·exact base (Cs.rc o k c h) (h0 rfl)
  ·have:=ih ();rcases j with _ | _ | _ | j <;> simp only [KX.sS,Ex.sz,Nat.zero_add,Nat.add_sub_cancel] at * <;> omega
 | @pr j Γ e e' g a b o k c h h' ia ib =>
  intro hj;have h0:=(Cs.pr o k c h h').z0 ();have h1:=k.w2 m;rcases j with _ | j
  ·exact base (Cs.pr o k c h h') (h0 rfl)
  ·have:=ia ();have:=ib ();rcases j with _ | _ | _ | j <;> simp only [KX.sS,Ex.sz,Nat.zero_add,Nat.add_sub_cancel] at * <;> omega
 | @lk j Γ e e' g a o k _ _ ia ib =>
  intro hj;have h1:=k.w m;have:=ia ();have:=ib ();rcases j with _ | _ | _ | j <;> simp only [KX.sS,Ex.sz,Nat.zero_add] at * <;> omega
 | @cal j Γ e e' f a r o k c _ _ ia ib =>
  intro hj;have h1:=k.w m;have:=w2 c;have:=ia ();have:=ib ();rcases j with _ | _ | _ | j <;> simp only [KX.sS,Ex.sz,Nat.zero_add] at * <;> omega
 | @lt j Γ x e e' g t o c _ _ ia ib =>
  intro hj;have:=w2 c;have:=ia ();have:=ib ();rcases j with _ | _ | _ | j <;> simp only [KX.sS,Ex.sz,Nat.zero_add] at * <;> omega
 | @ltV j Γ x e e' g T o _ _ c _ _ _ _ ib =>
  intro hj;have:=ib ();rcases j with _ | _ | _ | j <;> simp only [KX.sS,Ex.sz,Nat.zero_add] at * <;> omega
 | @wh j Γ e e1 e2 g t o k _ _ _ ia ib ic =>
  intro hj;have:=k.w (.inr rfl) m;have:=ia ();have:=ib ();have:=ic ();rcases j with _ | _ | _ | j <;> simp only [KX.sS,Ex.sz,Nat.zero_add] at * <;> omega
 | @opn j Γ x y e e' p a b g o k h1 _ ia ib =>
  intro hj;have:wk p * m<=3 * m:=G5 h1.ok.w;have:=ia ();have:=ib ();rcases j with _ | _ | _ | j <;> simp only [KX.sS,Ex.sz,Nat.zero_add] at * <;> omega
 | @spl j Γ x y e e1 e2 l a g o k c _ _ _ ia ib ic =>
  intro hj;have:=w2 c;have:=ia ();have:=ib ();have:=ic ();rcases j with _ | _ | _ | j <;> simp only [KX.sS,Ex.sz,Nat.zero_add] at * <;> omega
 | @op j Γ o e e' g a b k k1 k2 _ _ ia ib =>
  intro hj;have:=k1.w (.inl rfl) m;have:=k2.w (.inl rfl) m;have:=ia ();have:=ib ();rcases j with _ | _ | _ | j <;> simp only [KX.sS,Ex.sz,Nat.zero_add] at * <;> omega
noncomputable def rV:Nat->Nat
 | 0=>1 | 1=>3 | 2=>9 | 3=>28 | _=>262
noncomputable def rB:Nat->Nat
 | 0=>4 | 1=>5 | 2=>12 | 3=>36 | _=>336
theorem DC:∀ j,0 < rV j
 | 0 | 1 | 2 | 3=>by decide
 | _+4=>by simp [rV]
theorem MG {m:Nat}:∀ g:Kd,wk g * m<=zk m g
 | .num | .tru=>by simp [wk]
 | .gap _=>by simp [zk,wk]
 | .ls a=>by simp [zk,wk]
 | .fn _ r=>by
  have h:=MG (m:=m) r;simp only [zk,wk];rcases Nat.le_total 1 (wk r) with q | q
  ·rw [Nat.max_eq_right q];omega
  ·rw [Nat.max_eq_left q];omega
 | .pr a b=>by
  have h1:=MG (m:=m) a;have h2:=MG (m:=m) b;simp only [zk,wk,Nat.add_mul];omega
theorem wm (a b m:Nat):a * (b * m)=b * (a * m):=Nat.mul_left_comm a b m
theorem Cs.val {m j:Nat}{Γ:Gm}{e:Ex}{g:Kd}(h:Cs m j Γ e g)(hm:16<=m):j<=3->isV e=true->Gd (rV j * m) e g:=by
 have fun1:∀ {j:Nat} {Δ:Gm} {b:Ex} {g a r:Kd},j<=3->fK g a r->(j=0->g≠dy)->Cs m (j - 1) Δ b r->1+b.sz<=zk (rV j * m) g:=λ{j Δ b g a r} hj k c h=>by
  have h1:=k.w m;have h2:=MG (m:=rV j * m) g;rw [wm] at h2;have h3:=h.sS hm ();have h4:=h.z0 ();rcases j with _ | _ | _ | j
  ·rcases k with rfl | ⟨rfl,_⟩
   ·have:=h4 rfl;simp only [rV,zk,Nat.one_mul];omega
   ·exact absurd rfl (c rfl)
  ·have h5:=h4 rfl;rcases k with rfl | ⟨rfl,rfl,rfl⟩
   ·have:=Dz (m:=m) (n:=rV 1 * m) (by simp only [rV];omega) r;simp only [Nat.zero_add,zk];omega
   ·simp only [rV,zk] at *;omega
  ·simp only [rV,KX.sS,Nat.zero_add,Nat.add_sub_cancel] at *;omega
  ·rcases j with _ | j
   ·simp only [rV,KX.sS,Nat.zero_add,Nat.add_sub_cancel] at *;omega
   ·omega
 induction h with
 | hole _ _ _ d _ _ =>
  intro hj _;exact d.mono (Nat.le_mul_of_pos_left m (DC _))
 | nm _ _=>intro _ z;cases z
 | num i k=>intro _ _;exact .of (λ_ _ z=>by cases z) (λ_ _ z=>by cases z) (DB (Nat.mul_pos (DC _) ()) _)
 | tru i k=>intro _ _;exact .of (λ_ _ z=>by cases z) (λ_ _ z=>by cases z) (DB (Nat.mul_pos (DC _) ()) _)
 | emp i k=>intro _ _;exact .of (λ_ _ z=>by cases z) (λ_ _ z=>by cases z) (DB (Nat.mul_pos (DC _) ()) _)
 | fn _ k c h _=>intro hj _;exact .of (λ_ _ z=>by cases z) (λ_ _ z=>by cases z) (fun1 hj k c h)
 | rc _ k c h _=>intro hj _;exact .of (λ_ _ z=>by cases z) (λ_ _ z=>by cases z) (fun1 hj k c h)
 | @pr j Γ e e' g a b o k c h h' ia ib =>
  intro hj v;obtain ⟨v1,v2⟩:=Bool.and_eq_true_iff.1 v;have i1:=ia () v1;have i2:=ib () v2;have up:rV (j - 1) * m<=rV j * m:=by rcases j with _ | _ | _ | _ | j <;> simp only [rV,Nat.zero_add,Nat.add_sub_cancel,Nat.zero_sub] <;> omega
  rcases k with rfl | ⟨rfl,rfl,rfl⟩
  ·exact ⟨i1.mono up,i2.mono up⟩
  ·have s1:=i1.sz;have s2:=i2.sz;refine .dyn ?_;rcases j with _ | _ | _ | _ | j
   ·exact absurd rfl (c rfl)
   all_goals simp only [rV,Nat.zero_add,Nat.add_sub_cancel,zk,Ex.sz] at *;omega
 | @lk j Γ e e' g a o k h _ ia ib =>
  intro hj v;obtain ⟨v1,v2⟩:=Bool.and_eq_true_iff.1 v;have i1:=ia () v1;have i2:=ib () v2;have up:rV j * m<=rV (j+1) * m:=by rcases j with _ | _ | _ | j <;> simp only [rV,Nat.zero_add] <;> omega
  have s1:=i1.sz;have s2:=i2.sz;rcases k with rfl | ⟨rfl,rfl⟩
  ·refine ⟨?_,i1.mono up,i2.mono up⟩;have s3:=Hg (m:=rV j * m) a;have s4:=h.ok.n;have s5:=(lK.w (l:=.ls a) (.inl rfl) m);simp only [zk,wk] at *;rw [wm] at s2 s3 ⊢;rcases j with _ | _ | _ | j
   all_goals simp only [rV,Nat.zero_add] at *;omega
  ·refine .dyn ?_;rcases j with _ | _ | _ | j
   all_goals simp only [rV,Nat.zero_add,zk,Ex.sz] at *;omega
 | _=>intro _ z;cases z
inductive Sn:Nat->Ex->Ex->Prop
 | z (e:Ex):Sn 0 e e
 | s {k:Nat} {e e1 e':Ex} {c:Bool}:stp e=some (e1,c)->Sn k e1 e'->Sn (k+1) e e'
theorem Sn.snoc {k:Nat}{e e1:Ex}(h:Sn k e e1):∀ {e':Ex} {c:Bool},stp e1=some (e',c)->Sn (k+1) e e':=by
 induction h with
 | z e=>exact λs=>.s s (.z _)
 | s a _ ih=>exact λs=>.s a (ih s)
theorem MH {e:Ex}:isV e=true->stp e=none:=by
 induction e with
 | nm _ | num _ | tru _ | emp | fn _ _ _ | rc _ _ _ _=>intro;rfl
 | pr a b ia ib | lk a b ia ib =>
  intro h;obtain ⟨h1,h2⟩:=Bool.and_eq_true_iff.1 h;show (if isV a=true then (if isV b=true then none else _) else _)=none
  rw [if_pos h1,if_pos h2]
 | _=>intro h;cases h
theorem Sn.val {k:Nat}{e e':Ex}(h:Sn k e e')(v:isV e=true):k=0/\e'=e:=by
 cases h with
 | z=>exact ⟨rfl,rfl⟩
 | s a _=>rw [MH v] at a;cases a
theorem Sn.one {C:Ex->Ex}{R:Ex->Option (Ex × Bool)}(hC:∀ a,stp (C a)=if isV a=true then R a else Fy C (stp a)):∀ {k:Nat} {a e':Ex},Sn k (C a) e' ->
  (∃ a',Sn k a a'/\e'=C a')\/∃ k1 k3 v e1 c,k=k1+k3+1/\Sn k1 a v/\isV v=true/\R v=some (e1,c)/\Sn k3 e1 e':=by
 intro k
 induction k with
 | zero=>intro a e' h;cases h;exact .inl ⟨a,.z _,rfl⟩
 | succ k ih =>
  intro a e' h;cases h with
  | s h1 h2 =>
   rw [hC] at h1;rcases J6 h1 with ⟨v,r⟩ | ⟨z,s,rfl⟩
   ·exact .inr ⟨0,k,a,_,_,(),.z _,v,r,h2⟩
   ·rcases ih h2 with ⟨a',x,y⟩ | ⟨k1,k3,v,e1,c,x,y,u⟩
    ·exact .inl ⟨a',.s s x,y⟩
    ·exact .inr ⟨k1+1,k3,v,e1,c,(),.s s y,u⟩
theorem Sn.two {C:Ex->Ex->Ex}{R:Ex->Ex->Option (Ex × Bool)}(hC:∀ a b,stp (C a b)=if isV a=true then (if isV b=true then R a b else Fy (C a) (stp b)) else Fy (λz=>C z b) (stp a)):∀ {k:Nat} {a b e':Ex},Sn k (C a b) e' ->
  (∃ k1 k2 a' b',k1<=k/\k2<=k/\k=k1+k2/\Sn k1 a a'/\Sn k2 b b'/\e'=C a' b')\/∃ k1 k2 k3 v w e1 c,k=k1+k2+k3+1/\Sn k1 a v/\isV v=true/\Sn k2 b w/\isV w=true/\R v w=some (e1,c)/\Sn k3 e1 e':=by
 intro k
 induction k with
 | zero=>intro a b e' h;cases h;exact .inl ⟨0,0,a,b,Nat.le_refl _,Nat.le_refl _,rfl,.z _,.z _,rfl⟩
 | succ k ih =>
  intro a b e' h;cases h with
  | s h1 h2 =>
   rw [hC] at h1;rcases J6 h1 with ⟨v,r⟩ | ⟨z,s,rfl⟩
   ·rcases J6 r with ⟨w,r⟩ | ⟨z,s,rfl⟩
    ·exact .inr ⟨0,0,k,a,b,_,_,(),.z _,v,.z _,w,r,h2⟩
    ·rcases ih h2 with ⟨k1,k2,a',b',_,_,x,y,u,q⟩ | ⟨k1,k2,k3,v,w,e1,c,x,y,y',u,u'⟩
     ·exact .inl ⟨k1,k2+1,a',b',(),(),(),y,.s s u,q⟩
     ·exact .inr ⟨k1,k2+1,k3,v,w,e1,c,(),y,y',.s s u,u'⟩
   ·rcases ih h2 with ⟨k1,k2,a',b',_,_,x,y,u,q⟩ | ⟨k1,k2,k3,v,w,e1,c,x,y,y',u,u'⟩
    ·exact .inl ⟨k1+1,k2,a',b',(),(),(),.s s y,u,q⟩
    ·exact .inr ⟨k1+1,k2,k3,v,w,e1,c,(),.s s y,y',u,u'⟩
noncomputable def Rb (s:Nat):Ex->Prop
 | .nm _ | .num _ | .tru _ | .emp=>True
 | .fn _ _=>True | .rc _ _ _=>True | .cal a b=>if isV a=true then (if isV b=true then a.sz<=s else Rb s b) else Rb s a | .lt _ a b=>if isV a=true then b.sz<=s else Rb s a | .wh a b c=>if isV a=true then b.sz<=s/\c.sz<=s else Rb s a | .pr a b=>if isV a=true then Rb s b else Rb s a
 | .opn a _ _ b=>if isV a=true then b.sz<=s else Rb s a | .lk a b=>if isV a=true then Rb s b else Rb s a | .spl a b _ _ c=>if isV a=true then b.sz<=s/\c.sz<=s else Rb s a | .op _ a b=>if isV a=true then Rb s b else Rb s a
theorem UX {v:Bool}{A B A' B':Prop}(h1:A->A')(h2:B->B')(h:if v=true then A else B):if v=true then A' else B':=by
 cases v
 ·exact h2 h
 ·exact h1 h
theorem Rb.le {s t:Nat}(l:s<=t){e:Ex}:Rb s e->Rb t e:=by
 induction e with
 | nm _ | num _ | tru _ | emp | fn _ _ _ | rc _ _ _ _=>exact λh=>h
 | cal a b ia ib=>exact UX (UX (λh=>Nat.le_trans h l) ib) ia
 | lt x a b ia ib=>exact UX (λh=>Nat.le_trans h l) ia
 | wh a b c ia ib ic=>exact UX (λh=>⟨Nat.le_trans h.1 l,Nat.le_trans h.2 l⟩) ia
 | pr a b ia ib | lk a b ia ib=>exact UX ib ia
 | opn a x y b ia ib=>exact UX (λh=>Nat.le_trans h l) ia
 | spl a b x y c ia ib ic=>exact UX (λh=>⟨Nat.le_trans h.1 l,Nat.le_trans h.2 l⟩) ia
 | op o a b ia ib=>exact UX ib ia
theorem Rb.val {s:Nat}{e:Ex}:isV e=true->Rb s e:=by
 induction e with
 | pr a b ia ib | lk a b ia ib =>
  intro h;obtain ⟨h1,h2⟩:=Bool.and_eq_true_iff.1 h;show if isV a=true then _ else _
  rw [if_pos h1];exact ib h2
 | nm _ | num _ | tru _ | emp | fn _ _ _ | rc _ _ _ _=>intro;trivial
 | _=>intro h;cases h
theorem HQ {v:Bool}{A B:Prop}(h1:v=true->A)(h2:B):if v=true then A else B:=by
 cases v
 ·exact h2
 ·exact h1 rfl
theorem pw {k1 k c c' m:Nat}(h:k1<=k)(l:c<=c'):3 ^ k1 * (c * m)<=3 ^ k * (c' * m):=Nat.mul_le_mul (Nat.pow_le_pow_right ⟨⟩ h) (Nat.mul_le_mul_right m l)
theorem aC (k:Nat){c c' m:Nat}(l:c<=c'):c * m<=3 ^ k * (c' * m):=Nat.le_trans (Nat.le_of_eq (by simp)) (pw (k1:=0) (Nat.zero_le k) l)
theorem oR {k k1 k3 c1 c2 c' m:Nat}(h:k=k1+k3+1)(l:c2 * c1<=3 * c'):3 ^ k3 * (c2 * (3 ^ k1 * (c1 * m)))<=3 ^ k * (c' * m):=by
 have e1:3 ^ k3 * (c2 * (3 ^ k1 * (c1 * m)))=3 ^ (k1+k3) * (c2 * c1 * m):=by rw [Nat.pow_add];ac_rfl
 have e2:3 ^ k * (c' * m)=3 ^ (k1+k3) * (3 * c' * m):=by rw [h,Nat.pow_succ];ac_rfl
 rw [e1,e2];exact Nat.mul_le_mul_left _ (Nat.mul_le_mul_right m l)
theorem jd:∀ j,j < 4->rV 2 * rV j<=3 * rV (j+1)/\rV j * rV j<=3 * rV (j+1)/\rB 2 * rV j<=3 * rB (j+1)/\rB j * rV j<=3 * rB (j+1)/\rV j<=rV (j+1)/\rB j<=rB (j+1)/\4 * rV j<=rB (j+1):=by decide
theorem Cs.sB {m j:Nat}{Γ:Gm}{e:Ex}{g:Kd}(h:Cs m j Γ e g)(hm:16<=m)(hj:j<=3):e.sz<=rB (j+1) * m:=by
 have h1:=h.sS hm hj;have h2:wk g * m<=3 * m:=G5 h.ok.w;rcases j with _ | _ | _ | _ | j <;> simp only [KX.sS,rB,Nat.zero_add] at * <;> omega
theorem Cs.v0 {m j:Nat}{Γ:Gm}{e:Ex}{g:Kd}(h:Cs m j Γ e g):j=0->(∀ y t,¬ Γ y t)->isV e=true:=by
 induction h with
 | hole _ v _ _ _ _=>exact λ_ _=>v
 | nm _ h=>exact λ_ k=>(k _ _ h).elim
 | pr _ _ _ _ _ ia ib=>exact λz k=>by subst z;exact Bool.and_eq_true_iff.2 ⟨ia rfl k,ib rfl k⟩
 | num _ _ | tru _ _ | emp _ _ | fn _ _ _ _ _ | rc _ _ _ _ _=>exact λ_ _=>rfl
 | _=>exact λz=>absurd z (Nat.succ_ne_zero _)
noncomputable def Goal (k j m:Nat)(e':Ex)(g:Kd):Prop:=Rb (3 ^ k * (rB j * m)) e'/\(j<=3->isV e'=true->Vl (3 ^ k * (rV j * m)) e' g)
theorem Cs.abk {k j m:Nat}{e e':Ex}{g:Kd}(hm:16<=m)(h:Cs m j g0 e g)(v:isV e=true)(s:Sn k e e'):Goal k j m e' g:=by
 obtain ⟨rfl,rfl⟩:=s.val v;refine ⟨Rb.val v,λhj _=>?_⟩;have:3 ^ 0 * (rV j * m)=rV j * m:=by simp
 rw [this];exact ⟨v,h.val hm hj v,h.mono (Nat.le_mul_of_pos_left m (DC _)) hj jc⟩
theorem Cs.run:∀ (k j m:Nat) (e e':Ex) (g:Kd),16<=m->j<=4->Cs m j g0 e g->Sn k e e'->Goal k j m e' g:=by
 intro k
 induction k using Nat.strongRecOn with
 | _ k IH =>
  intro j
  induction j with
  | zero=>intro m e e' g hm _ h s;exact h.abk hm (h.v0 rfl λ_ _ z=>z) s
  | succ j IJ =>
   intro m e e' g hm hj h s;obtain ⟨t1,t2,t3,t4,t5,t6,t7⟩:=jd j ();have low:∀ k1 e e' g,k1<=k->Cs m j g0 e g->Sn k1 e e'->Goal k1 j m e' g:=λk1 e e' g hk h s=>by
    rcases Nat.lt_or_eq_of_le hk with q | q
    ·exact IH k1 q j m e e' g hm () h s
    ·rw [q] at s ⊢;exact IJ m e e' g hm () h s
   have G6:∀ {k1:Nat} {e e':Ex} {g:Kd},k1<=k->Cs m j g0 e g->Sn k1 e e'->Rb (3 ^ k * (rB (j+1) * m)) e':=λhk h s=>(low _ _ _ _ hk h s).1.le (pw hk t6);have HR:∀ {k1 k2:Nat} {e e':Ex} {g:Kd},k1<=k->k1<=k2->Cs m j g0 e g->Sn k1 e e'->isV e'=true->Vl (3 ^ k2 * (rV j * m)) e' g:=λhk YM h s v=>((low _ _ _ _ hk h s).2 () v).mono (pw YM (Nat.le_refl _));have big:∀ q,16<=3 ^ q * (rV j * m):=λq=>Nat.le_trans hm (Nat.le_trans (Nat.le_of_eq (Nat.one_mul m).symm) (aC q (DC j)));have Tj:∀ {i q k3:Nat} {b e':Ex} {g:Kd},i<=4->k=q+k3+1->rV i * rV j<=3 * rV (j+1)->rB i * rV j<=3 * rB (j+1)->(j+1<=3->i<=3)->Cs (3 ^ q * (rV j * m)) i g0 b g->Sn k3 b e'->Goal k (j+1) m e' g:=λ{i q k3 b e' g} hi hk h1 h2 h3 h s=>by
    have r:=IH k3 () i _ b e' g (big q) hi h s;exact ⟨r.1.le (oR hk h2),λq v=>(r.2 (h3 q) v).mono (oR hk h1)⟩
   have lf:∀ {q:Nat} {Γ:Gm} {b:Ex} {g:Kd},Cs m j Γ b g->Cs (3 ^ q * (rV j * m)) j Γ b g:=λh=>h.mono (Nat.le_trans (Nat.le_of_eq (Nat.one_mul m).symm) (aC _ (DC j))) (Nat.le_refl _) jc;have sB:∀ {Γ:Gm} {b:Ex} {g:Kd},Cs m j Γ b g->b.sz<=3 ^ k * (rB (j+1) * m):=λh=>Nat.le_trans (h.sB hm ()) (aC k (Nat.le_refl _));cases h with
   | hole a b c d h=>exact Cs.abk hm (.hole a b c d h) b s
   | nm _ h=>exact h.elim
   | num i h=>exact Cs.abk hm (.num i h) rfl s
   | tru i h=>exact Cs.abk hm (.tru i h) rfl s
   | emp a h=>exact Cs.abk hm (.emp a h) rfl s
   | fn a b c h=>exact Cs.abk hm (.fn a b c h) rfl s
   | rc a b c h=>exact Cs.abk hm (.rc a b c h) rfl s
   | @pr _ _ a b _ ka kb o kk hc ha hb =>
    rcases Sn.two (C:=.pr) (R:=λ_ _=>none) Br s with ⟨k1,k2,a',b',l1,l2,hk,sa,sb,rfl⟩ | ⟨_,_,_,_,_,_,_,_,_,_,_,_,z,_⟩
    ·refine ⟨HQ (λ_=>G6 l2 hb sb) (G6 l1 ha sa),λh3 v=>?_⟩;obtain ⟨v1,v2⟩:=Bool.and_eq_true_iff.1 v;have va:=HR l1 (Nat.le_refl _) ha sa v1;have vb:=HR l2 (Nat.le_refl _) hb sb v2;have ua:=va.mono (pw l1 t5);have ub:=vb.mono (pw l2 t5);refine ⟨v,?_,.pr o kk (λz=>by cases z) (.hole ua.c.ok v1 ua.c.cl0 ua.g ua.c) (.hole ub.c.ok v2 ub.c.cl0 ub.g ub.c)⟩;rcases kk with rfl | ⟨rfl,rfl,rfl⟩
     ·exact ⟨ua.g,ub.g⟩
     ·have s1:=va.g.sz;have s2:=vb.g.sz;refine .dyn ?_;have q1:3 ^ k1 * (rV j * m)<=3 ^ k * (rV j * m):=pw l1 (Nat.le_refl _);have q2:3 ^ k2 * (rV j * m)<=3 ^ k * (rV j * m):=pw l2 (Nat.le_refl _);have q3:1 * m<=3 ^ k * (rV j * m):=aC k (DC j);have q4:3 ^ k * (3 * (rV j * m))<=3 ^ k * (rV (j+1) * m):=by
       rw [<- Nat.mul_assoc 3];exact pw (Nat.le_refl _) (by rcases j with _ | _ | _ | j <;> first | decide | omega)
      rw [Nat.mul_left_comm] at q4;simp only [Ex.sz,zk] at *;omega
    ·cases z
   | @lk _ _ a b _ ka o kk ha hb =>
    rcases Sn.two (C:=.lk) (R:=λ_ _=>none) Br s with ⟨k1,k2,a',b',l1,l2,hk,sa,sb,rfl⟩ | ⟨_,_,_,_,_,_,_,_,_,_,_,_,z,_⟩
    ·refine ⟨HQ (λ_=>G6 l2 hb sb) (G6 l1 ha sa),λh3 v=>?_⟩;obtain ⟨v1,v2⟩:=Bool.and_eq_true_iff.1 v;have va:=HR l1 l1 ha sa v1;have vb:=HR l2 l2 hb sb v2;have ua:=va.mono (pw (Nat.le_refl k) t5);have ub:=vb.mono (pw (Nat.le_refl k) t5);refine ⟨v,?_,.lk o kk (.hole ua.c.ok v1 ua.c.cl0 ua.g ua.c) (.hole ub.c.ok v2 ub.c.cl0 ub.g ub.c)⟩;have s1:=va.g.sz;have s2:=vb.g.sz;have q3:1 * m<=3 ^ k * (rV j * m):=aC k (DC j);have q4:3 ^ k * (3 * (rV j * m))<=3 ^ k * (rV (j+1) * m):=by
      rw [<- Nat.mul_assoc 3];exact pw (Nat.le_refl _) (by rcases j with _ | _ | _ | j <;> first | decide | omega)
     rw [Nat.mul_left_comm] at q4;generalize 3 ^ k * (rV j * m)=M at *;generalize 3 ^ k * (rV (j+1) * m)=N at *;rcases kk with rfl | ⟨rfl,rfl⟩
     ·refine ⟨?_,ua.g,ub.g⟩;have s3:=Hg (m:=M) ka;have s4:=ha.ok.n;have s5:=lK.w (l:=.ls ka) (.inl rfl) M;have s6:max 1 (wk ka) * (3 * M)<=max 1 (wk ka) * N:=Nat.mul_le_mul_left _ q4;rw [wm] at s6;simp only [zk,wk] at *;omega
     ·refine .dyn ?_;simp only [Ex.sz,zk] at *;omega
    ·cases z
   | @cal _ _ a b f ka _ o kk hw ha hb =>
    rcases Sn.two (C:=.cal) (R:=λa b=>red (.cal a b)) Br s with ⟨k1,k2,a',b',l1,l2,hk,sa,sb,rfl⟩ | ⟨k1,k2,k3,v,w,e1,c,hk,sa,va,sb,vb,r,s3⟩
    ·refine ⟨HQ (λv1=>HQ (λ_=>?_) (G6 l2 hb sb)) (G6 l1 ha sa),λ_ z=>by cases z⟩;have va:=(HR l1 l1 ha sa v1).g.sz;have s3:=Hg (m:=3 ^ k * (rV j * m)) f;have s4:=ha.ok.n;have s5:wk f * (3 ^ k * (rV j * m))<=3 * (3 ^ k * (rV j * m)):=G5 ha.ok.w;have s6:=big k;have s7:3 ^ k * (4 * rV j * m)<=3 ^ k * (rB (j+1) * m):=pw (Nat.le_refl _) t7;rw [Nat.mul_assoc,Nat.mul_left_comm] at s7;omega
    ·have ua:=HR (k2:=k1+k2) () () ha sa va;have ub:=HR (k2:=k1+k2) () () hb sb vb;cases Cq r with
     | fn x b v=>exact Tj (i:=2) () () t1 t3 () ((ua.c.fnI (Nat.le_refl _) kk).abi ub) s3
     | rc f x b v=>exact Tj (i:=2) () () t1 t3 () ((ua.c.rcI (Nat.le_refl _) kk).aae ua ub) s3
   | @lt _ _ x a b _ t o hw ha hb =>
    rcases Sn.one (C:=λz=>.lt x z b) (R:=λz=>red (.lt x z b)) (λ_=>rfl) s with ⟨a',sa,rfl⟩ | ⟨k1,k3,v,e1,c,hk,sa,va,r,s3⟩
    ·exact ⟨HQ (λ_=>sB hb) (G6 (Nat.le_refl _) ha sa),λ_ z=>by cases z⟩
    ·have ua:=HR (k2:=k1) () () ha sa va;cases Cq r;exact Tj () hk t2 t4 () ((lf hb).abi ua) s3
   | @ltV _ _ x a b _ T o va ca za gd cs hb =>
    rcases Sn.one (C:=λz=>.lt x z b) (R:=λz=>red (.lt x z b)) (λ_=>rfl) s with ⟨a',sa,rfl⟩ | ⟨k1,k3,v,e1,c,hk,sa,xx,r,s3⟩
    ·obtain ⟨rfl,rfl⟩:=sa.val va;exact ⟨HQ (λ_=>sB hb) (Rb.val va),λ_ z=>by cases z⟩
    ·obtain ⟨rfl,rfl⟩:=sa.val va;cases Cq r;exact Tj (q:=0) () hk t2 t4 () ((lf (q:=0) (hb.give va ca λt z=>⟨gd t z,cs t z⟩))) s3
   | @wh _ _ a b d _ t o kk ha hb hd =>
    rcases Sn.one (C:=λz=>.wh z b d) (R:=λz=>red (.wh z b d)) (λ_=>rfl) s with ⟨a',sa,rfl⟩ | ⟨k1,k3,v,e1,c,hk,sa,va,r,s3⟩
    ·exact ⟨HQ (λ_=>⟨sB hb,sB hd⟩) (G6 (Nat.le_refl _) ha sa),λ_ z=>by cases z⟩
    ·cases Cq r with
     | wh c=>cases c;exact Tj () hk t2 t4 () (lf hd) s3;exact Tj () hk t2 t4 () (lf hb) s3
   | @opn _ _ x y a b p ka kb _ o kk ha hb =>
    rcases Sn.one (C:=λz=>.opn z x y b) (R:=λz=>red (.opn z x y b)) (λ_=>rfl) s with ⟨a',sa,rfl⟩ | ⟨k1,k3,v,e1,c,hk,sa,va,r,s3⟩
    ·exact ⟨HQ (λ_=>sB hb) (G6 (Nat.le_refl _) ha sa),λ_ z=>by cases z⟩
    ·have ua:=HR (k2:=k1) () () ha sa va;cases Cq r;obtain ⟨u1,u2⟩:=ua.pr kk;exact Tj () hk t2 t4 () ((lf hb).aae u1 u2) s3
   | @spl _ _ x y a b d l ka _ o kk hw ha hb hd =>
    rcases Sn.one (C:=λz=>.spl z b x y d) (R:=λz=>red (.spl z b x y d)) (λ_=>rfl) s with ⟨a',sa,rfl⟩ | ⟨k1,k3,v,e1,c,hk,sa,va,r,s3⟩
    ·exact ⟨HQ (λ_=>⟨sB hb,sB hd⟩) (G6 (Nat.le_refl _) ha sa),λ_ z=>by cases z⟩
    ·have ua:=HR (k2:=k1) () () ha sa va;cases Cq r with
     | emp=>exact Tj () hk t2 t4 () (lf hb) s3
     | lk v w=>obtain ⟨u1,u2⟩:=ua.lk kk;exact Tj () hk t2 t4 () ((lf hd).aae u1 u2) s3
   | @op _ _ oo a b _ ka kb ko xy xA ha hb =>
    rcases Sn.two (C:=.op oo) (R:=λa b=>red (.op oo a b)) Br s with ⟨k1,k2,a',b',l1,l2,hk,sa,sb,rfl⟩ | ⟨k1,k2,k3,v,w,e1,c,hk,sa,va,sb,vb,r,s3⟩
    ·exact ⟨HQ (λ_=>G6 l2 hb sb) (G6 l1 ha sa),λ_ z=>by cases z⟩
    ·cases Cq r with
     | op _ i i' =>
      have hv:Cs m (j+1) g0 (Qq oo i i') g/\isV (Qq oo i i')=true:=by
       unfold Qq;unfold Ti at ko;split at ko
       ·rename_i q;rw [if_pos q];exact ⟨.num _ ko,rfl⟩
       ·rename_i q;rw [if_neg q];split at ko
        ·rename_i q;rw [if_pos q];exact ⟨.num _ ko,rfl⟩
        ·rename_i q;rw [if_neg q];split <;> exact ⟨.tru _ ko,rfl⟩
      have:=Cs.abk hm hv.1 hv.2 s3;exact ⟨this.1.le (pw () (Nat.le_refl _)),λa b=>(this.2 a b).mono (pw () (Nat.le_refl _))⟩
theorem Cs.fits {e e':Ex}{g:Kd}{k:Nat}(h:Cs 16 4 g0 e g)(s:Sn k e e')(hk:k<=7):Rb 12000000 e' :=
 (Cs.run k 4 16 e e' g ⟨⟩ ⟨⟩ h s).1.le (Nat.le_trans (pw hk (Nat.le_refl _)) ⟨⟩)
noncomputable def UY (xs:List (Str × Kd)):Gm:=λy g=>∃ k,(y,k)∈xs/\∃ m,fill m k=g
noncomputable def sk:Kd->Nat
 | .num | .tru | .gap _=>1
 | .ls a=>1+sk a
 | .fn _ b=>1+sk b
 | .pr a b=>1+sk a+sk b
theorem MI:∀ t,nk t<=sk t
 | .num | .tru | .gap _=>by simp [nk,sk]
 | .ls a=>by simp [nk,sk]
 | .fn _ b=>by have:=MI b;simp only [nk,sk];omega
 | .pr a b=>by have:=MI a;have:=MI b;simp only [nk,sk];omega
theorem eV {g:Kd}(w:wk g<=3)(h:sk g<=15):FY g:=⟨w,Nat.le_trans (MI g) h⟩
theorem IC:∀ t,sk t+1<=2 ^ (dp t+1)
 | .num | .tru | .gap _=>by simp [sk,dp]
 | .ls a=>by have:=IC a;simp only [sk,dp,Nat.pow_succ] at *;omega
 | .fn a b=>by
  have:=IC b;have h:=Nat.pow_le_pow_right (n:=2) ⟨⟩ (Nat.le_max_right (dp a) (dp b));simp only [sk,dp,Nat.pow_succ] at *;omega
 | .pr a b=>by
  have h1:=IC a;have h2:=IC b;have h3:=Nat.pow_le_pow_right (n:=2) ⟨⟩ (Nat.le_max_left (dp a) (dp b));have h4:=Nat.pow_le_pow_right (n:=2) ⟨⟩ (Nat.le_max_right (dp a) (dp b));simp only [sk,dp,Nat.pow_succ] at *;omega
theorem eW {t:Kd}(h:dp t<=2):dp t<=3/\sk t<=7:=by
 have h2:=IC t;have h4:2 ^ (dp t+1)<=2 ^ 3:=Nat.pow_le_pow_right ⟨⟩ ();have h6:2 ^ 3=8:=rfl;omega
theorem sO {t:Kd}(h:dp t<=1):sk t<=3:=by
 have h2:=IC t;have h4:2 ^ (dp t+1)<=2 ^ 2:=Nat.pow_le_pow_right ⟨⟩ ();have h5:2 ^ 2=4:=rfl;omega
structure Qu (xs:List (Str × Kd))(g:Kd)(j b:Nat)(e:Ex):Prop where
 op:e.opj 29
 np:e.kn<=b
 ty:Cs 16 j (UY xs) e g
noncomputable def eX (Γ:Gm)(d:Nat)(e:Ex)(k:Kd):Prop:=∀ x e2 g,FY g->Cs 16 d (Γ.put x λt=>∃ m,fill m k=t) e2 g->Cs 16 (d+1) Γ (.lt x e e2) g
theorem je {a:Kd}(h:FY (.fn a (.pr a a))):FY a/\FY (.pr a a):=by
 obtain ⟨h1,h2⟩:=h;simp only [wk,nk] at h1 h2;exact ⟨⟨(),()⟩,⟨by simp only [wk];omega,by simp only [nk];omega⟩⟩
theorem sP {a:Kd}(h:FY (.fn a a)):FY a:=by
 obtain ⟨h1,h2⟩:=h;simp only [wk,nk] at h1 h2;exact ⟨(),()⟩
theorem X1 {Γ:Gm}{d:Nat}:eX Γ d .emp (.ls (.gap 0)):=λx e2 g og h=>by
 refine .ltV _ og rfl trivial ⟨⟩ (λt=>?_) (λt=>?_) h
 ·rintro ⟨m,rfl⟩;refine .of (λ_ _ z=>by cases z) (λ_ _ z=>by cases z) ?_;exact DB ⟨⟩ _
 ·rintro ⟨m,rfl⟩ ok;exact .emp ok (.inl rfl)
theorem aD {Γ:Gm}{d:Nat}:eX Γ d (.fn "y" (.nm "y")) (.fn (.gap 0) (.gap 0)):=λx e2 g og h=>by
 refine .ltV _ og rfl (.head _) ⟨⟩ (λt=>?_) (λt=>?_) h
 ·rintro ⟨m,rfl⟩;refine .of (λ_ _ z=>by cases z) (λ_ _ z=>by cases z) ?_;exact Nat.le_trans (show 2<=16 by decide) (Nat.le_max_left _ _)
 ·rintro ⟨m,rfl⟩ ok;exact .fn ok (.inl rfl) (λz=>by cases z) (.nm (sP ok) (by simp [Gm.put]))
theorem X2 {Γ:Gm}{d:Nat}:eX Γ d (.fn "y" (.pr (.nm "y") (.nm "y"))) (.fn (.gap 0) (.pr (.gap 0) (.gap 0))):=λx e2 g og h=>by
 refine .ltV _ og rfl ⟨.head _,.head _⟩ ⟨⟩ (λt=>?_) (λt=>?_) h
 ·rintro ⟨m,rfl⟩;refine .of (λ_ _ z=>by cases z) (λ_ _ z=>by cases z) ?_;exact Nat.le_trans (show 4<=16 by decide) (Nat.le_max_left _ _)
 ·rintro ⟨m,rfl⟩ ok;exact .fn ok (.inl rfl) (λz=>by cases z) (.pr (je ok).2 (.inl rfl) (λz=>by cases z) (.nm (je ok).1 (by simp [Gm.put])) (.nm (je ok).1 (by simp [Gm.put])))
end KX
namespace K
open PySem L2
noncomputable def top (i:Nat):Stmt:=PySem.Challenge.pw_kindspan_k30_steps.main.body.getD i (.Pass ⟨0,0,0,0⟩)
abbrev EE:Stmt:=top 7
abbrev EF:Stmt:=top 9
abbrev FA:Stmt:=top 10
abbrev EG:Stmt:=top 11
abbrev EH:Stmt:=top 12
abbrev E3:Stmt:=top 13
abbrev Hh:Stmt:=top 14
abbrev EI:Stmt:=top 16
abbrev X3:Stmt:=top 18
abbrev Hi:Stmt:=top 19
abbrev CH:Stmt:=top 23
abbrev CI:Stmt:=top 24
abbrev B3:Stmt:=top 25
abbrev E4:Stmt:=top 26
abbrev DD:Stmt:=top 27
abbrev Bm:Stmt:=top 28
abbrev AY:Stmt:=top 29
abbrev Dg:Stmt:=top 32
abbrev EJ:Stmt:=top 33
abbrev Hj:Stmt:=top 34
abbrev Qv:Stmt:=top 36
abbrev X4:Stmt:=top 37
abbrev J7:Stmt:=top 40
abbrev Hk:Stmt:=top 41
abbrev EK:Stmt:=top 42
abbrev E5:Stmt:=top 43
abbrev CL:Stmt:=top 44
abbrev Cg:Stmt:=top 45
abbrev Ca:Stmt:=top 46
abbrev BM:Stmt:=top 47
abbrev BN:Stmt:=top 48
abbrev Bw:Stmt:=top 49
abbrev Cr:Stmt:=top 50
abbrev DE:Stmt:=top 51
abbrev BE:Stmt:=top 52
abbrev D4:Stmt:=top 53
abbrev Cm:Stmt:=top 54
abbrev DH:Stmt:=top 55
abbrev D5:Stmt:=top 56
abbrev Bx:Stmt:=top 57
abbrev Dh:Stmt:=top 58
abbrev CO:Stmt:=top 59
abbrev J8:Stmt:=top 60
open KM
open KS
section
variable {Pr:Program}{w:World}{K:W.Frag}{mg:Str->Option Value}{base:Heap}
noncomputable def Qw (K:W.Frag):Sp:=λvs H Q _=>∃ (a:Addr) (ns:List Int) (k:Int),vs=[.ref a,.int k]/\AI K H a (ns.map V.int)/\∀ n,Q (.int n) H
theorem X5:Am HG HG (A6 Qv):=nofun
theorem Tn {f:Addr}{fd:FuncData}(F:C8 K "_law_cell" "_law_cell" Qv f fd)(LH:mg "len"=none):Av Pr w K mg base Bs 1 f fd HG (Qw K):=by
 refine F.ok X5 (λvs H Q E h=>?_) (λB9 A outer s H vs Q E hr h=>?_)
 ·obtain ⟨a,ns,k,rfl,_⟩:=h;rfl
 ·obtain ⟨a,ns,k,rfl,hs,q⟩:=h;refine ⟨_,ES (Uy (JE (pv 0) (λ_=>rfl)) (Ge (IS (UE AE (pv 0) (DJ Au (pv 1) (JG AQ (by rfl) LH PySem.boot_len (Gf (pv 0) Lg))) Br))) Md) (Ge (IS D8)),?_⟩;refine ⟨_,rfl,!(ns.map V.int).isEmpty,.inl ⟨_,hs,rfl⟩,?_⟩;cases ns with
  | nil=>exact BG (q _)
  | cons n ns =>
   refine C5 ?_;have Fw:(0:Int) < (((n::ns).map V.int).length:Nat):=(by simp);refine ⟨_,rfl,_,rfl,_,rfl,a,_,rfl,.inl hs,_,_,rfl,rfl,Fw,?_⟩;obtain ⟨v,hv,hm⟩:=Qa (xs:=(n::ns).map V.int) (i:=k % (((n::ns).map V.int).length:Int)) (Int.emod_nonneg _ ()) (Int.emod_lt_of_pos _ Fw);obtain ⟨z,_,rfl⟩:=List.mem_map.mp hm;exact ⟨a,_,_,_,rfl,rfl,hs,hv,q z⟩
noncomputable def D6 (K:W.Frag):Sp:=λvs H Q _=>∃ (a:Addr) (ns:List Int) (k:Int),vs=[.ref a,.int k]/\AI K H a (ns.map V.int)/\∀ n,0<=n->Q (.int n) H
theorem Qx:Am ["_law_script","_law_k","_law_number"] HG (A6 X4):=nofun
theorem X6 {f fC:Addr}{fd oS:FuncData}(F:C8 K "_law_mix" "_law_mix" X4 f fd)(G:Av Pr w K mg base Bs 1 fC oS HG (Qw K))(kC:W.keepIn K (.ref fC)=true)(bC:Binds K oS HG [])(mC:mg "_law_cell"=some (.ref fC)):Av Pr w K mg base Bs 2 f fd HG (D6 K):=by
 refine F.ok Qx (λvs H Q E h=>?_) (λB9 A outer s H vs Q E hr h=>?_)
 ·obtain ⟨a,ns,k,rfl,_⟩:=h;rfl
 ·obtain ⟨a,ns,k,rfl,hs,q⟩:=h;refine ⟨_,ES (La (i:=2) Qx.nd rfl (.inl rfl) (DJ Au (DJ Ar (IT G hr rfl mC kC bC .nil JN (Gf (pv 0) (Gf (pv 1) Lg))) (DJ AR D8 (DJ Ar (pv 1) D8))) D8))
   (ES (La (i:=2) Qx.nd rfl (.inl rfl) (DJ Au (DJ AR (pv 2) D8) D8))
   (Ge (IS (DJ Au (DJ Ar (DJ AR (DJ AS (pv 2) D8) D8) (pv 2)) D8)))),?_⟩
  refine ⟨_,rfl,_,rfl,a,ns,k,rfl,hs,λn=>⟨_,rfl,_,_,rfl,rfl,_,_,rfl,rfl,.inl ⟨⟨⟩,⟨⟩⟩,_,_,rfl,rfl,_,_,rfl,rfl,(by show (0:Int) < 4294967291;decide),?_⟩⟩;refine ⟨_,rfl,_,_,rfl,rfl,.inr ⟨⟨⟩,⟨⟩⟩,_,_,rfl,rfl,(by show (0:Int) < 4294967279;decide),?_⟩;refine ⟨_,rfl,_,_,rfl,rfl,⟨⟨⟩,⟨⟩⟩,_,_,rfl,rfl,.inr ⟨⟨⟩,⟨⟩⟩,_,rfl,_,_,rfl,rfl,_,_,rfl,rfl,(by show (0:Int) < 4294967231;decide),?_⟩;exact q _ (Int.emod_nonneg _ ⟨⟩)
end
open KX
section
variable {Pr:Program}{w:World}{K:W.Frag}{mg:Str->Option Value}{base:Heap}
noncomputable def Hl:Sp:=λvs H Q _=>∃ m:Int,vs=[.int m]/\∀ i H',A9 H H'->Q (.int i) H'
theorem UZ:Am ["_law_number","_law_some"] ["_law_number"] (A6 EK):=nofun
theorem X7 {f:Addr}{fd:FuncData}(F:C8 K "_law_int" "_law_int" EK f fd):Av Pr w K mg base Bs 1 f fd ["_law_number"] Hl:=by
 refine F.okS UZ (λB9 A outer s H vs Q E hr h=>?_)
 ·obtain ⟨m,rfl,q⟩:=h;refine ⟨_,(A4 (Ah (i:=1) UZ.nd rfl (.inl rfl) (Az (A1 A3 (A1 A3 (A1 (Qp GD A3) (A1 A3 (A1 A3 (A1 (Af BF (Af OY A3 A3) A3) (A1 (Af BF A3 (Af OY A3 A3)) (A1 (Af Au (A7 0) A3) A2))))))))))
   (Ab (Ag (AH (r:=C3 K) AE (A7 1) (Af Au (Af AS (A7 0) A3) A3) Br)))),?_⟩
  left;intros l H2 s2 e2;apply BD (AI.of e2) (Int.emod_nonneg _ ⟨⟩) (Int.emod_lt_of_pos _ ⟨⟩) λv hv=>?_;simp only [List.mem_cons,List.not_mem_nil,or_false] at hv;rcases hv with rfl | rfl | rfl | rfl | rfl | rfl | rfl | rfl <;> exact q _ _ s2
noncomputable def E6:Sp:=λvs H Q _=>∃ m:Int,vs=[.int m]/\∀ x H',A9 H H'->Q (.str x) H'
theorem X8:Am ["_law_number"] ["_law_number"] (A6 E5):=nofun
theorem To {f:Addr}{fd:FuncData}(F:C8 K "_law_name" "_law_name" E5 f fd):Av Pr w K mg base Bs 1 f fd ["_law_number"] E6:=by
 refine F.okS X8 (λB9 A outer s H vs Q E hr h=>?_)
 ·obtain ⟨m,rfl,q⟩:=h;refine ⟨_,(Ab (Ag (AH (r:=C3 K) AE (Az (A1 A8 (A1 A8 (A1 A8 (A1 A8 (A1 A8 A2)))))) (Af Au (A7 0) A3) Br))),?_⟩;left;intros l H2 s2 e2;apply BD (AI.of e2) (Int.emod_nonneg _ ⟨⟩) (Int.emod_lt_of_pos _ ⟨⟩) λv hv=>?_;simp only [List.mem_cons,List.not_mem_nil,or_false] at hv;rcases hv with rfl | rfl | rfl | rfl | rfl <;> exact q _ _ s2
noncomputable def ID:Kd->Prop
 | .num | .tru=>True
 | .gap _=>False
 | .ls a=>ID a
 | .fn a b=>ID a/\ID b
 | .pr a b=>ID a/\ID b
noncomputable def CP (K:W.Frag)(n:Nat):Sp:=λvs H Q _=>∃ (a:Addr) (ns:List Int) (k:Int) (j:Nat),vs=[.ref a,.int k,.int j]/\j<=n/\AI K H a (ns.map V.int)/\∀ t r H',A9 H H'->Bi H' t r->ID t->dp t<=j->Q r H'
noncomputable def NW (K:W.Frag):Nat->Sp
 | 0=>J0
 | n+1=>CP K n
theorem Hm:Am ["_law_script","_law_k","_law_deep","_law_number","_law_word"] ["_law_script","_law_k","_law_deep"] (A6 Ca):=nofun
theorem Hn {n:Nat}{f:Addr}{fd:FuncData}(F:C8 K "_law_ground" "_law_ground" Ca f fd)
  (cM:Cl Pr w K mg base 2 "_law_mix" HG (D6 K)) (cG:Cl Pr w K mg base (n+2) "_law_ground" ["_law_script","_law_k","_law_deep"] (NW K n)) :
  Av Pr w K mg base Bs (n+3) f fd ["_law_script","_law_k","_law_deep"] (CP K n):=by
 refine F.okS Hm (λB9 A outer s H vs Q E hr h=>?_)
 ·obtain ⟨a,ns,k,j,rfl,hj,hs,q⟩:=h;have HS:AG 2 _:=hr.mono ();refine ⟨_,(A4 (Ah (i:=3) Hm.nd rfl (.inl rfl) (As cM HS rfl (A1 (A7 0) (A1 (A7 1) A2))))
   (A4 (AB (Gj (w_or (Al Ao (A7 2) A3 (Ac _)) (F0 (Al ET (Af Au (A7 3) A3) A3 (Ac _))))) (Ab (Ag (AH (r:=C3 K) AE (Az (A1 (Ae (A1 A8 A2)) (A1 (Ae (A1 A8 A2)) A2))) (Af Au (Af AS (A7 3) A3) A3) Br))) Ap)
   (A4 (AB (Al Ao (Af Au (A7 3) A3) A3 (Ac _)) (Ab (Ag (Ae (A1 A8 (A1 (As cG hr rfl (A1 (A7 0) (A1 (Af Ar (Af AR A3 (A7 1)) A3) (A1 (Af BF (A7 2) A3) A2)))) A2))))) Ap)
   (A4 (Ah (i:=4) Hm.nd rfl (.inl rfl) (AH (r:=C3 K) AE (Az (A1 A8 (A1 A8 A2))) (Af Au (A7 3) A3) Br))
   (Ab (Ag (Ae (A1 (A7 4) (A1 (As cG hr rfl (A1 (A7 0) (A1 (Af Ar (Af AR A3 (A7 1)) A3) (A1 (Af BF (A7 2) A3) A2)))) (A1 (As cG hr rfl (A1 (A7 0) (A1 (Af Ar (Af AR A3 (A7 1)) A3) (A1 (Af BF (A7 2) A3) A2)))) A2)))))))))),?_⟩
  apply ⟨a,ns,k,rfl,hs,λm hm=>?_⟩;apply YK ?_ λh0 leaf=>?_
  ·left;intros p1 H2 s2 e1;left;intros p2 H3 s3 e2;left;intros p3 H4 s4 e3;apply BD (AI.of e3) (Int.emod_nonneg _ ⟨⟩) (Int.emod_lt_of_pos _ ⟨⟩) λv hv=>?_;have st:=s2.trans (s3.trans s4);simp only [List.mem_cons,List.not_mem_nil,or_false] at hv;rcases hv with rfl | rfl
   ·exact q .num _ _ st ⟨p1,rfl,s4 _ _ (s3 _ _ e1)⟩ trivial (Nat.zero_le _)
   ·exact q .tru _ _ st ⟨p2,rfl,s4 _ _ e2⟩ trivial (Nat.zero_le _)
  ·apply C6 (λ_=>leaf) λ_=>?_;cases j with
   | zero=>exact absurd (decide_eq_true rfl) h0
   | succ j =>
    obtain ⟨n,rfl⟩:∃ m,n=m+1:=⟨n - 1,()⟩;apply C6 (λ_=>?_) λ_=>?_
    ·apply ⟨a,ns,_,j,by rw [LD],(),hs,λt r H1 s1 ha hg hd=>?_⟩;left;intros p H2 s2 e2;exact q (.ls t) _ _ (s1.trans s2) ⟨p,r,rfl,e2,Bi.mono (TSub.of_same s2) ha⟩ hg (by simp only [dp];omega)
    ·left;intros l H1 s1 e1;apply BD (AI.of e1) (Int.emod_nonneg _ ⟨⟩) (Int.emod_lt_of_pos _ ⟨⟩) λv hv=>?_;apply ⟨a,ns,_,j,by rw [LD],(),s1.seq hs,λt1 r1 H2 s2 jf oU Tp=>?_⟩;apply ⟨a,ns,_,j,by rw [LD],(),(s1.trans s2).seq hs,λt2 r2 H3 s3 sQ oV hd2=>?_⟩;left;intros p H4 s4 e4;have st:=s1.trans (s2.trans (s3.trans s4));have k1:=Bi.mono (TSub.of_same (s3.trans s4)) jf;have k2:=Bi.mono (TSub.of_same s4) sQ;simp only [List.mem_cons,List.not_mem_nil,or_false] at hv;rcases hv with rfl | rfl
     ·exact q (.fn t1 t2) _ _ st ⟨p,r1,r2,rfl,e4,k1,k2⟩ ⟨oU,oV⟩ (by simp only [dp];omega)
     ·exact q (.pr t1 t2) _ _ st ⟨p,r1,r2,rfl,e4,k1,k2⟩ ⟨oU,oV⟩ (by simp only [dp];omega)
theorem IE {f:Addr}{fd:FuncData}(DG:Df K mg "_law_ground" Ca ["_law_script","_law_k","_law_deep"] f fd)(cM:Cl Pr w K mg base 2 "_law_mix" HG (D6 K)):
  ∀ n,Cl Pr w K mg base (n+3) "_law_ground" ["_law_script","_law_k","_law_deep"] (CP K n)
 | 0=>DG.cl (Hn (n:=0) DG.F cM (DG.cl F3))
 | n+1=>DG.cl (Hn (n:=n+1) DG.F cM (IE DG cM n))
noncomputable def Tq (H:Hp)(r:V)(x:Str × Kd):Prop:=∃ p rk,r=.ref p/\H p=some (.tup [.str x.1,rk])/\Bi H x.2 rk
theorem Tq.mono {H H':Hp}(s:TSub H H'){r:V}{x:Str × Kd}(h:Tq H r x):Tq H' r x:=by
 obtain ⟨p,rk,h1,h2,h3⟩:=h;exact ⟨p,rk,h1,s _ _ h2,Bi.mono s h3⟩
noncomputable def X9 (H:Hp)(rs:List V)(xs:List (Str × Kd)):Prop:=Paired (Tq H) rs xs
theorem X9.mono {H H':Hp}(s:TSub H H'){rs:List V}{xs:List (Str × Kd)}(h:X9 H rs xs):X9 H' rs xs:=Paired.aah h λ_ _ z=>Tq.mono s z
noncomputable def Ho (H:Hp)(l:Addr)(xs:List (Str × Kd)):Prop:=∃ rs,H l=some (.lst rs)/\X9 H rs xs
theorem Ho.mono {H H':Hp}(s:A9 H H'){l:Addr}{xs:List (Str × Kd)}(h:Ho H l xs):Ho H' l xs:=by
 obtain ⟨rs,h1,h2⟩:=h;exact ⟨rs,s _ _ h1,h2.mono (TSub.of_same s)⟩
noncomputable def Et (more:List (Str × Kd))(x:Str × Kd):Bool:=!FR (.str x.1) (more.map λm=>V.str m.1)
noncomputable def Xa (xs more:List (Str × Kd)):List (Str × Kd):=xs.filter (Et more)++more
theorem F8 {xs more:List (Str × Kd)}{z:Str × Kd}(h:z∈Xa xs more):z∈more\/z∈xs:=by
 rcases List.mem_append.mp h with h | h
 ·exact .inr (List.mem_filter.mp h).1
 ·exact .inl h
theorem F9 (xs more:List (Str × Kd)):(Xa xs more).length<=xs.length+more.length:=by
 unfold Xa;rw [List.length_append];have:=List.length_filter_le (Et more) xs;omega
noncomputable def FC:Sp:=λvs H Q _=>∃ (l m:Addr) (xs more:List (Str × Kd)),vs=[.ref l,.ref m]/\Ho H l xs/\Ho H m more/\xs.length+more.length<=10000/\∀ p H',A9 H H'->Ho H' p (Xa xs more)->Q (.ref p) H'
theorem Qy:Am ["_law_names","_law_more","_law_kept"] ["_law_names","_law_more"] (A6 BM):=nofun
noncomputable def LJ:Expr:=valueOf (inDef BM 0)
noncomputable def Xb:Expr:=match LJ with
 | .ListComp _ [⟨_,_,[.Compare _ _ [e] _],_⟩] _ _=>e
 | _=>.Constant .none 0 ⟨0,0,0,0⟩
theorem Ts {f:Addr}{fd:FuncData}(F:C8 K "_law_with" "_law_with" BM f fd):Av Pr w K mg base Bs 1 f fd ["_law_names","_law_more"] FC:=by
 refine F.okS Qy (λB9 A outer s H vs Q E hr h=>?_)
 ·obtain ⟨l,m,xs,more,rfl,hl,hm,hn,q⟩:=h;have S:AZ (BQ Bs Pr w K mg base ["_law_names","_law_more","_law_kept"] "_law_with" (A6 BM) f B9 A outer s H E).nox (Bv LJ) [("_law_more",s.heap.objs.size+1)] ["_law_one"] ["_law_more"] [1] :=
   ⟨rfl,by decide +kernel,rfl,by decide +kernel,rfl,rfl,rfl,rfl⟩
  have S2:∀ C s0 H0 ex,AZ ((BQ Bs Pr w K mg base ["_law_names","_law_more","_law_kept"] "_law_with" (A6 BM) f B9 A outer s H E).nox.cmp (Bv LJ) [("_law_more",s.heap.objs.size+1)] ["_law_one"] ["_law_more"] C s0 H0 ex) (Bv Xb) [] ["_law_new"] [] [] :=
   λC s0 H0 ex=>⟨rfl,by decide +kernel,rfl,by decide +kernel,rfl,rfl,rfl,rfl⟩
  have HU:(["_law_one","_law_more"]:List Str).Nodup:=by decide +kernel
  have sR:(["_law_new"]:List Str).Nodup:=by decide +kernel
  refine ⟨_,A4 (Hc (i:=2) Qy.nd rfl (.inl rfl) (tt:=Ml (Fj (Nt K true) (Fj (Bg K) (B2 0) (tC (.int 0))) (Mu ["_law_new"] [] (Mh K (B2 1)) (BP 0) GU (Fj (Bg K) (B2 0) (tC (.int 0)))))) (te:=B2 0) S rfl (EC (A7 0)) (λC s0 H0 ex=>AV (i:=0) HU rfl (.inl rfl))
    (λC s0 H0 ex=>UN (Al EW (eI 0) (ED (te:=Fj (Bg K) (B2 0) (tC (.int 0))) (S2 C s0 H0 ex) rfl (EC (A7 1)) (λC' sT sU nQ=>AV (i:=0) sR rfl (.inl rfl)) (λ_ _ _ _=>Ep) (λC' sT sU nQ=>AH Aw (A7 0) A3 Br)) rfl))
    (λC s0 H0 ex=>A7 0))
   (Ab (Ag (Af DU (A7 2) (A7 1)))),?_⟩
  obtain ⟨rs,Er,DT⟩:=hl;obtain ⟨ms,U',jg⟩:=hm;have lr:=Paired.len DT;have lm:=Paired.len jg;apply ⟨l,rfl,⟨_,AI.of Er⟩,?_⟩;refine Gn (K:=K) (a:=l) (xs:=rs) (λi ys H'=>A9 H H'/\X9 H' ys ((xs.take i).filter (Et more))) ⟨A9.refl _,.nil⟩ (λi ys H' z=>AI.of (z.1 _ _ Er)) (by exact BW ()) (λi ys H' z=>?_) rfl (λi x ys H1 hx z=>?_) (λys H1 z=>?_)
  ·rw [Paired.len z.2];exact Nat.le_trans (List.length_filter_le _ _) (by rw [List.length_take];omega)
  ·obtain ⟨s1,z⟩:=z;obtain ⟨x0,YE,p,rk,rfl,h2,h3⟩:=Paired.at1 DT hx;apply A5 (s1 _ _ h2) rfl ?_;apply ⟨m,rfl,⟨_,AI.of (s1 _ _ U')⟩,?_⟩;refine Gn (K:=K) (a:=m) (xs:=ms) (λj zs H'=>H'=H1/\zs=(more.take j).map λm=>V.str m.1) ⟨rfl,rfl⟩ (λj zs H' z=>AI.of (by rw [z.1];exact s1 _ _ U')) (by exact BW ()) (λj zs H' z=>?_) rfl (λj y zs H2 hy z=>?_) (λzs H2 z=>?_)
   ·rw [z.2,List.length_map,List.length_take];omega
   ·obtain ⟨rfl,rfl⟩:=z;obtain ⟨y0,oW,p',xB,rfl,YN,xC⟩:=Paired.at1 jg hy;have hj:=(List.getElem?_eq_some_iff.mp oW).1;apply C5 ?_;apply A5 (s1 _ _ YN) rfl ?_;refine Nx.mk () ⟨rfl,?_⟩;rw [List.take_succ,oW];simp
   ·obtain ⟨rfl,rfl⟩:=z;intros d H3 s3 e3;refine Es (.inl (AI.of e3)) rfl (by rw [List.all_eq_true];intro v hv;obtain ⟨_,_,rfl⟩:=List.mem_map.mp hv;rfl) ?_;left;have hi:=(List.getElem?_eq_some_iff.mp YE).1;have e5:(more.take ms.length)=more:=(by rw [lm,List.take_length]);rw [e5];have hk:(if true=true then !FR (.str x0.1) (more.map λm=>V.str m.1) else FR (.str x0.1) (more.map λm=>V.str m.1))=Et more x0:=rfl
    rw [hk];cases ek:Et more x0 with
    | true =>
     refine C5 ?_;apply Nx.mk () ⟨s1.trans s3,?_⟩;rw [List.take_succ,YE,List.filter_append];refine Paired.app (z.mono (TSub.of_same s3)) ?_;show X9 H3 [.ref p] (List.filter (Et more) [x0]);rw [List.filter_cons,ek];exact .cons ⟨p,rk,rfl,s3 _ _ (s1 _ _ h2),Bi.mono (TSub.of_same (s1.trans s3)) h3⟩ .nil
    | false =>
     refine BG (Nx.mk () ⟨s1.trans s3,?_⟩);rw [List.take_succ,YE,List.filter_append];show X9 H3 ys (_++List.filter (Et more) [x0]);rw [List.filter_cons,ek];simp only [Bool.false_eq_true,↓reduceIte,List.filter_nil,List.append_nil];exact z.mono (TSub.of_same s3)
  ·obtain ⟨s1,z⟩:=z;rw [lr,List.take_length] at z;intros d H2 s2 e2;left;have ly:=Paired.len z;have lf:=List.length_filter_le (Et more) xs;refine Dy e2 (s2 _ _ (s1 _ _ U')) (Cf ()) λp H3 _ s3 e3=>?_;exact q p H3 (s1.trans (s2.trans s3)) ⟨_,e3,Paired.app (z.mono (TSub.of_same (s2.trans s3))) (jg.mono (TSub.of_same (s1.trans (s2.trans s3))))⟩
end
end K
namespace L2
open PySem
noncomputable def NX:Expr:=.Constant .none 0 ⟨0,0,0,0⟩
noncomputable def Xc:Stmt->Expr
 | .If t _ _ _=>t
 | _=>NX
noncomputable def Xd:Stmt->Stmt
 | .If _ (b::_) _ _=>b
 | s=>s
noncomputable def jh:Expr->Expr
 | .UnaryOp _ e _=>e
 | _=>NX
noncomputable def MJ:Expr->Expr
 | .Call _ es _ _=>es.getD 0 NX
 | _=>NX
end L2
namespace K
open PySem L2 KM KS
noncomputable def NY:List Kd->List Kd->Option (List (Int × Kd))
 | a::as,b::bs=>(prs a b).bind λx=>(NY as bs).map λy=>x++y
 | [],[]=>some []
 | _,_=>none
theorem NZ {a b:Kd}(g:DW a=false)(h:word a=word b):prs a b=NY (parts a) (parts b)/\(parts a).length=(parts b).length/\DW b=false:=by
 have ht:tag a=tag b:=by
  rw [Gh,Gh] at h;have:=JP (tag a) (by cases a <;> simp [tag]) (tag b) (by cases b <;> simp [tag]);rw [h] at this;simpa using this
 cases a <;> cases b <;> simp [DW,tag] at g ht
 ·exact ⟨rfl,rfl,rfl⟩
 ·exact ⟨rfl,rfl,rfl⟩
 ·rename_i a1 a2 b1 b2;refine ⟨?_,rfl,rfl⟩;show (prs a1 b1).bind _=(prs a1 b1).bind λx=>((prs a2 b2).bind λy=>some (y++[])).map λy=>x++y;cases prs a1 b1 <;> cases prs a2 b2 <;> simp
 ·rename_i a1 a2 b1 b2;refine ⟨?_,rfl,rfl⟩;show (prs a1 b1).bind _=(prs a1 b1).bind λx=>((prs a2 b2).bind λy=>some (y++[])).map λy=>x++y;cases prs a1 b1 <;> cases prs a2 b2 <;> simp
 ·rename_i a1 b1;refine ⟨?_,rfl,rfl⟩;show prs a1 b1=(prs a1 b1).bind λx=>some (x++[]);cases prs a1 b1 <;> simp
theorem LK {a b:Kd}(g:DW a=false)(h:word a≠word b):prs a b=none:=by
 cases a <;> cases b <;> first | rfl | (simp [DW] at g;done) | exact absurd rfl h
theorem EL:∀ {as bs cs ds:List Kd},as.length=bs.length->NY (as++cs) (bs++ds)=(NY as bs).bind λx=>(NY cs ds).map λy=>x++y
 | [],[],cs,ds,_=>by simp [NY]
 | a::as,b::bs,cs,ds,h=>by
  have ih:=EL (cs:=cs) (ds:=ds) (show as.length=bs.length by simpa using h);simp only [List.cons_append,NY,ih];cases prs a b <;> cases NY as bs <;> cases NY cs ds <;> simp
abbrev Eu (H:Hp):List (Int × Kd)->List V->Prop:=Paired (λp v=>∃ a u,v=.ref a/\H a=some (.tup [.int p.1,u])/\Bi H p.2 u)
theorem Eu.mono {H H':Hp}(s:TSub H H'){ps:List (Int × Kd)}{us:List V}(h:Eu H ps us):Eu H' ps us :=
 Paired.aah h λp v ⟨a,u,e,h1,h2⟩=>⟨a,u,e,s _ _ h1,Bi.mono s h2⟩
section
variable {Pr:Program}{w:World}{K:W.Frag}{mg:Str->Option Value}{base:Heap}
noncomputable def Gq (n:Nat):Sp:=λvs H Q _=>∃ (a b:Kd) (v u:V),vs=[v,u]/\Bi H a v/\Bi H b u/\dp a<=n/\sz a<=1000/\(prs a b=none->∀ H',A9 H H'->Q .non H') /\
 ∀ ps,prs a b=some ps->∀ l us H',A9 H H'->H l=none->H' l=some (.lst us)->Eu H' ps us->Q (.ref l) H'
noncomputable def Qz:Nat->Sp
 | 0=>J0
 | n+1=>Gq n
theorem Fb:Am ["_law_wide","_law_kind","_law_found","_law_k","_law_more"] ["_law_wide","_law_kind"] (A6 J7):=nofun
theorem QA {t s:Kd}(h:s∈parts t):sz s < sz t:=by
 cases t with
 | fn a b | pr a b =>
  cases h with
  | head=>simp only [sz];omega
  | tail _ h =>
   cases h with
   | head=>simp only [sz];omega
   | tail _ h=>cases h
 | ls a =>
  cases h with
  | head=>simp only [sz];omega
  | tail _ h=>cases h
 | _=>cases h
theorem MK:∀ (as bs:List Kd) (l:List (Int × Kd)),NY as bs=some l->l.length<=szs as
 | [],[],l,h=>by cases h;simp
 | [],_::_,l,h=>by cases h
 | _::_,[],l,h=>by cases h
 | a::as,b::bs,l,h=>by
  obtain ⟨u,v,h1,h2,rfl⟩:=Hb h;have i1:=J2 a b u h1;have i2:=MK as bs v h2;simp only [List.length_append,szs];omega
theorem O0 (ts:List Kd)(i:Nat):szs (ts.take i)<=szs ts:=by
 conv=>rhs;rw [<- List.take_append_drop i ts]
 rw [EB];omega
theorem ML {x:V}{us:List V}{i:Nat}{v:V}(h:us[i]?=some v):KY (x::us) (1+(i:Int))=some v:=by
 rw [show (1:Int)+(i:Int)=((i+1:Nat):Int) by omega];exact Ad (by simpa using h)
theorem IF {f:Addr}{fd:FuncData}{n:Nat}(F:C8 K "_law_pairs" "_law_pairs" J7 f fd)(bi:Binds K fd ["_law_wide","_law_kind"] [])(mf:mg "_law_pairs"=some (.ref f))(mR:mg "range"=none)(LH:mg "len"=none)
  (G:Av Pr w K mg base Bs (n+1) f fd ["_law_wide","_law_kind"] (Qz n)):Av Pr w K mg base Bs (n+2) f fd ["_law_wide","_law_kind"] (Gq n):=by
 refine F.okS Fb (λB9 A outer s H vs Q E hr h=>?_)
 ·obtain ⟨a,b,v,u,rfl,kv,ku,ji,F',qn,qs⟩:=h;have hb:=E1;obtain ⟨pa,us,ea,ha,J9,aE,aF⟩:=kv.look;subst ea;obtain ⟨pb,YO,eb,Xe,RN,oX,sV⟩:=ku.look;subst eb;refine ⟨_,A4 (AB (Al Ao (eI 0) A8 (Ac _)) (Ab (Ag (Az (A1 (Ae (A1 (eI 0) (A1 (A7 1) A2))) A2)))) Ap)
   (A4 (AB (Al GF (eI 0) (eI 1) (Ac _)) (Ab (Ag Eo)) Ap)
   (A4 (Ah (i:=2) Fb.nd rfl (.inl rfl) (Az A2))
   (A4 (FV PassesOwn.never rfl (PZ rfl mR (A1 A3 (A1 (AF AQ rfl LH PySem.boot_len (A1 (A7 0) A2)) A2))) (AV (i:=3) Fb.nd rfl (.inl rfl))
    (A4 (Ah (i:=4) Fb.nd rfl (.inl rfl) (Lu G hr rfl mf F.kp bi (A1 (AH Aw (A7 0) (A7 3) Br) (A1 (AH Aw (A7 1) (A7 3) Br) A2))))
    (A4 (AB (Al Ld (A7 4) Eo rfl) (Ab (Ag Eo)) Ap)
    (Ab (Ah (i:=2) Fb.nd rfl (.inl rfl) (Af DU (A7 2) (A7 4)))))))
   (Ab (Ag (A7 2)))))),?_⟩
  refine ⟨_,rfl,pa,_,_,_,rfl,rfl,B0.of ha,Ad (j:=0) rfl,rfl,_,rfl,?_⟩;rw [T7];cases e:DW a with
  | true =>
   obtain ⟨k,rfl⟩:∃ k,a=.gap k:=(by cases a <;> simp [DW] at e;exact ⟨_,rfl⟩);obtain rfl:=aE k rfl;refine C5 ⟨_,rfl,pa,_,_,_,rfl,rfl,B0.of ha,Ad (j:=1) rfl,_,rfl,by show 2<=sizeLine;omega,λp hp=>⟨by show 1<=sizeLine;omega,λl hl=>?_⟩⟩;have eY:p≠l:=λz=>(by rw [<- z,Aa] at hl;cases hl);have Xf:H l=none:=(by rw [Aj (Ne.symm eY)] at hl;exact hl);have sm:A9 H (upd (upd H p (.tup [.int k,.ref pb])) l (.lst [.ref p])):=A9.put (A9.new hp) Xf;exact qs _ rfl l _ _ sm Xf Aa (.cons ⟨p,_,rfl,by rw [Aj eY,Aa],Bi.mono (TSub.of_same sm) ku⟩ .nil)
  | false =>
   refine BG ⟨_,rfl,pa,_,_,_,rfl,rfl,B0.of ha,Ad (j:=0) rfl,_,rfl,pb,_,_,_,rfl,rfl,B0.of Xe,Ad (j:=0) rfl,rfl,_,rfl,?_⟩;by_cases hw:word a=word b
   ·refine Ay (by simp [hw]) ?_;obtain ⟨ep,aG,sW⟩:=NZ e hw;have pk:=J9 e;have oY:=RN sW;have hlen:us.length=(parts a).length:=(Paired.length pk).symm;have UI:YO.length=(parts b).length:=(Paired.length oY).symm;have Ci:=NG a;have sX:=NF a;refine ⟨by simp,λlf V0=>?_⟩;have jf:(upd H lf (.lst [])) pa=some (.tup (.str (word a)::us)):=(by rw [Aj (Ak ha V0)];exact ha);have oZ:(((us.length+1:Nat):Int) - 1).toNat=us.length:=(by omega);refine ⟨_,rfl,pa,_,rfl,.inr (B0.of jf),1,_,rfl,⟨(),(),by show -(2 ^ 62)<=((us.length+1:Nat):Int);omega,by show ((us.length+1:Nat):Int) < 2 ^ 62;omega⟩,?_⟩;show ∃ W:Nat->Nat->St->Hp->Prop,_;have aH:(((V.str (word a)::us).length:Int) - 1).toNat=us.length:=(by simp);rw [aH];refine Fn (λi σ H2=>∃ lg kk mm acc Tt,σ=[some (.ref pa),some (.ref pb),some (.ref lg),kk,mm]/\A9 H H2/\NY ((parts a).take i) ((parts b).take i)=some acc/\H lg=none/\H2 lg=some (.lst Tt)/\Eu H2 acc Tt)
     ⟨lf,none,none,[],[],rfl,A9.new V0,rfl,V0,Aa,.nil⟩ (λi σ H2 hi z=>?_) (fun σ H2 z=>?_)
    ·obtain ⟨lg,kk,mm,acc,Tt,rfl,sm,GV,aI,jj,Tv⟩:=z;obtain ⟨x,hx⟩:∃ x,us[i]?=some x:=⟨_,List.getElem?_eq_getElem ()⟩;obtain ⟨x',NV⟩:∃ x',YO[i]?=some x':=⟨_,List.getElem?_eq_getElem ()⟩;obtain ⟨s1,YQ,kx⟩:=Paired.at pk hx;obtain ⟨s2,UB,dX⟩:=Paired.at oY NV;have K9:=List.mem_of_getElem? YQ;have Cv:=T8 K9;have sY:=QA K9;have xD:=MK _ _ _ GV;have sZ:=O0 (parts a) i;have taken:((parts a).take i).length=((parts b).take i).length:=(by rw [List.length_take,List.length_take,aG]);have V1:NY ((parts a).take (i+1)) ((parts b).take (i+1))=(prs s1 s2).map λy=>acc++y:=by
      rw [List.take_add_one,List.take_add_one,YQ,UB];show NY (_++[s1]) (_++[s2])=_;rw [EL taken,GV];show (((prs s1 s2).bind λx=>some (x++[])).map λy=>acc++y)=_;cases prs s1 s2 <;> simp
     refine ⟨_,rfl,_,rfl,pa,_,_,_,rfl,rfl,B0.of (sm pa _ ha),ML hx,_,rfl,_,rfl,pb,_,_,_,rfl,rfl,B0.of (sm pb _ Xe),ML NV,?_⟩;cases n with
     | zero=>omega
     | succ n =>
      refine ⟨s1,s2,x,x',rfl,Bi.mono (TSub.of_same sm) kx,Bi.mono (TSub.of_same sm) dX,(),(),λen H3 O1=>?_,λps Xg l3 jk H3 O1 tj RO p3=>?_⟩
      ·refine ⟨_,rfl,rfl,_,rfl,AK rfl ?_⟩;refine qn ?_ H3 (A9.trans sm O1);rw [ep,<- List.take_append_drop (i+1) (parts a),<- List.take_append_drop (i+1) (parts b),EL (by rw [List.length_take,List.length_take,aG]),V1,en];rfl
      ·refine ⟨_,rfl,rfl,_,rfl,Ay (by simp) ?_⟩;have tm:=O1 lg _ jj;have aL:=J2 _ _ _ Xg;have xE:Tt.length=acc.length:=(Paired.length Tv).symm;have xF:jk.length=ps.length:=(Paired.length p3).symm;refine ⟨_,rfl,_,rfl,lg,l3,Tt,jk,rfl,rfl,tm,RO,(),λr jl=>?_⟩;have pf:=A9.trans sm O1;have aO:H r=none:=pf.free jl;refine ⟨r,_,_,acc++ps,Tt++jk,rfl,A9.put pf aO,?_,aO,Aa,?_⟩
       ·rw [V1,Xg];rfl
       ·exact Paired.app (Eu.mono (TSub.trans (TSub.of_same O1) (TSub.new jl)) Tv) (Eu.mono (TSub.new jl) p3)
    ·obtain ⟨lg,kk,mm,acc,Tt,rfl,sm,GV,aI,jj,Tv⟩:=z;refine ⟨_,rfl,?_⟩;have h1:(parts a).take us.length=parts a:=List.take_of_length_le ();have h2:(parts b).take us.length=parts b:=List.take_of_length_le ();rw [h1,h2] at GV;exact qs acc (by rw [ep];exact GV) lg Tt H2 sm aI jj Tv
   ·refine AK (by simp [hw]) ?_;exact qn (LK e hw) H (A9.refl H)
theorem Ka {f:Addr}{fd:FuncData}(F:C8 K "_law_pairs" "_law_pairs" J7 f fd)(bi:Binds K fd ["_law_wide","_law_kind"] [])(mf:mg "_law_pairs"=some (.ref f))(mR:mg "range"=none)(LH:mg "len"=none):
  ∀ n,Av Pr w K mg base Bs (n+2) f fd ["_law_wide","_law_kind"] (Gq n)
 | 0=>IF F bi mf mR LH F3
 | n+1=>IF F bi mf mR LH (Ka F bi mf mR LH n)
theorem Eu.list {H:Hp}:∀ {ps:List (Int × Kd)} {us:List V},Eu H ps us->∃ qs:List (Addr × Key × V),us=qs.map (λq=>V.ref q.1)/\(∀ q∈qs,H q.1=some (.tup [kV q.2.1,q.2.2]))/\Paired (λp q=>q.2.1=(Sum.inl p.1:Key)/\Bi H p.2 q.2.2) ps qs:=by
 intro ps us h
 induction h with
 | nil=>exact ⟨[],rfl,(λq hq=>by cases hq),.nil⟩
 | @cons p _ _ _ c _ ih =>
  obtain ⟨a,u,rfl,h1,h2⟩:=c;obtain ⟨qs,rfl,h3,h4⟩:=ih;refine ⟨(a,Sum.inl p.1,u)::qs,rfl,λq hq=>?_,.cons ⟨rfl,h2⟩ h4⟩;rcases List.mem_cons.mp hq with rfl | hq
  ·exact h1
  ·exact h3 q hq
theorem O2 {H:Hp}:∀ {ps:List (Int × Kd)} {qs:List (Addr × Key × V)} (Ai:List (Key × V)) (m:Int->Option Kd),Paired (λp q=>q.2.1=(Sum.inl p.1:Key)/\Bi H p.2 q.2.2) ps qs->D1 H Ai m ->
  D1 H (qs.foldl (λm p=>putK m p.2.1 p.2.2) Ai) (λk=>ps.foldl (λm p=>if p.1=k then some p.2 else m) (m k)):=by
 intro ps qs Ai m c
 revert Ai m
 induction c with
 | nil=>exact λAi m h=>h
 | @cons p q _ _ c t ih =>
  intro Ai m h;obtain ⟨e,kq⟩:=c;have ih:=ih (putK Ai q.2.1 q.2.2) (λj=>if j=p.1 then some p.2 else m j) (by rw [e];exact D1.put h kq)
  have e2:∀ k,(if p.1=k then some p.2 else m k)=(if k=p.1 then some p.2 else m k):=λk=>by
   by_cases z:p.1=k
   ·rw [if_pos z,if_pos z.symm]
   ·rw [if_neg z,if_neg (λy=>z y.symm)]
  simp only [List.foldl_cons,e2];exact ih
noncomputable def Fc (n:Nat):Sp:=λvs H Q _=>∃ (a b:Kd) (v u:V),vs=[v,u]/\Bi H a v/\Bi H b u/\dp a<=n/\sz a<=1000/\dp b<=60/\∀ H',A9 H H'->Q (.bl (wd a b)) H'
theorem Ja:Am ["_law_wide","_law_kind","_law_pairs_here","_law_told"] ["_law_wide","_law_kind"] (A6 Hk):=nofun
theorem QC {f fP:Addr}{fd YR:FuncData}{n:Nat}(F:C8 K "_law_wider" "_law_wider" Hk f fd)(mD:mg "dict"=none)(mA:mg "all"=none)
  (GP:Av Pr w K mg base Bs (n+2) fP YR ["_law_wide","_law_kind"] (Gq n)) (kP:W.keepIn K (.ref fP)=true) (bP:Binds K YR ["_law_wide","_law_kind"] []) (mP:mg "_law_pairs"=some (.ref fP)) :
  Av Pr w K mg base Bs (n+3) f fd ["_law_wide","_law_kind"] (Fc n):=by
 refine F.okS Ja (λB9 A outer s H vs Q E hr h=>?_)
 ·obtain ⟨a,b,v,u,rfl,kv,ku,ji,F',CW,q⟩:=h;have hb:=E1;have hu:=JO hr;have QD:=hr.units;have S:AZ (BQ Bs Pr w K mg base ["_law_wide","_law_kind","_law_pairs_here","_law_told"] "_law_wider" (A6 Hk) f B9 A outer s H E).nox (Bv (MJ (valueOf (inDef Hk 3)))) [("_law_told",s.heap.objs.size+1)] ["_law_gap","_law_part"] ["_law_told"] [3] :=
   ⟨rfl,by decide +kernel,rfl,by decide +kernel,rfl,rfl,rfl,rfl⟩
  refine ⟨_,A4 (Ah (i:=2) Ja.nd rfl (.inl rfl) (Lu GP hr rfl mP kP bP (A1 (A7 0) (A1 (A7 1) A2))))
   (A4 (AB (Al Ld (A7 2) Eo rfl) (Ab (Ag G4)) Ap)
   (A4 (Ah (i:=3) Ja.nd rfl (.inr rfl) (Bl (HL rfl) rfl mD PyProof.Rows.boot_dict (A1 (A7 2) A2)))
   (Ab (Ag (AF (Iu rfl) rfl mA PyProof.Rows.boot_all (A1 (ED (g:=Nh K 2 (El (BP 0) (El (BP 1) Ng))) (te:=Fj ZN (Pp (B2 2) (B2 0)) (B2 1)) S rfl (EC (A7 2))
    (λC s0 H0 ex=>IA rfl (BB (AV (i:=0) (show (["_law_gap","_law_part","_law_told"]:List Str).Nodup by decide +kernel) rfl (.inl rfl)) (BB (AV (i:=1) (show (["_law_gap","_law_part","_law_told"]:List Str).Nodup by decide +kernel) rfl (.inl rfl)) Fx)))
    (λ_ _ _ _=>Ep) (λC s0 H0 ex=>C1 (Wr QD) (Wv hu (A7 2) (A7 0) Br) (A7 1) (Ac _))) A2)))))),?_⟩
  refine ⟨_,rfl,_,rfl,a,b,v,u,rfl,kv,ku,ji,F',λen H1 YS=>?_,λps Xg l us H1 YS Xf Er pu=>?_⟩
  ·refine ⟨_,rfl,rfl,_,rfl,AK rfl ?_⟩;have e1:wd a b=false:=(by unfold wd;rw [en]);have:=q H1 YS;rw [e1] at this;exact this
  ·refine ⟨_,rfl,rfl,_,rfl,Ay (by simp) ?_⟩;obtain ⟨qs,eu,hq,pq⟩:=Eu.list pu;subst eu;have tq:qs.length=ps.length:=(Paired.length pq).symm;have Ci:=J2 _ _ _ Xg;refine ⟨_,rfl,l,qs,rfl,Er,hq,λd hd=>?_⟩;have tw:D1 H1 (putAll qs) (Ha ps):=O2 [] (λ_=>none) pq D1.nil;have sd:A9 H1 (upd H1 d (.dK (putAll qs))):=A9.new hd;have DT:(upd H1 d (.dK (putAll qs))) l=some (.lst (qs.map λq=>V.ref q.1)):=sd l _ Er;generalize tD:upd H1 d (.dK (putAll qs))=H2 at sd DT ⊢;have hd2:H2 d=some (.dK (putAll qs)):=(by rw [<- tD,Aa]);have dk:=D1.mono (TSub.of_same sd) tw;refine ⟨_,rfl,l,rfl,⟨_,AI.of DT⟩,?_⟩;refine NS (K:=K) (a:=l) (xs:=qs.map λq=>V.ref q.1) (λi ys H3=>H3=H2/\ys=((ps.take i).map λp=>decide (Ha ps p.1=some p.2)).map V.bl) ⟨rfl,rfl⟩ (λi ys H3 z=>by rw [z.1];exact AI.of DT) (by rw [List.length_map];omega)
    (λi ys H3 z=>?_) (λi x ys H3 hx z=>?_) (λx σ H Q Q' h z=>?_) (fun σ H Q Q' h z=>h _ _ z) (fun σ H Q Q' h z=>?_) (λys H3 z=>?_)
   ·rw [z.2,List.length_map,List.length_map,List.length_take];omega
   ·obtain ⟨rfl,rfl⟩:=z;rw [List.getElem?_map] at hx;cases eq:qs[i]? with
    | none=>rw [eq] at hx;cases hx
    | some q0 =>
     rw [eq] at hx;cases hx;obtain ⟨p0,aP,ek,kq⟩:=Paired.at pq eq;have ht:=sd _ _ (hq q0 (List.mem_of_getElem? eq));refine ⟨q0.1,_,rfl,B0.of ht,rfl,_,_,rfl,_,_,rfl,rfl,⟨rfl,?_⟩,Q9 ?_⟩
     ·intro j v hj;cases j with
      | zero=>cases hj
      | succ j=>cases j with
       | zero=>cases hj
       | succ j=>exact hj
     ·have ph:=List.mem_of_getElem? aP;obtain ⟨p1,eZ,Jb,RP⟩:=Iz ph;rcases dk p0.1 with ⟨_,z2⟩ | ⟨v',t',z1,z2,z3⟩
      ·rw [RP] at z2;cases z2
      refine ⟨_,rfl,_,rfl,d,v',rfl,?_,_,rfl,t',p0.2,z3,Bi.mono (TSub.of_same sd) kq,?_,?_,?_⟩
      ·have:=Dc.k (k:=q0.2.1) hd2;rw [ek,z1] at this;rw [ek];exact this
      ·rw [RP] at z2;cases z2;exact Nat.le_trans (Qd _ _ _ Xg p1 eZ) CW
      ·exact Nat.le_trans (Qd _ _ _ Xg p0 ph) CW
      ·refine ⟨rfl,?_⟩;rw [List.take_add_one,aP,List.map_append,List.map_append];show _=_++[V.bl (decide (Ha ps p0.1=some p0.2))];have e3:decide (some t'=some p0.2)=decide (t'=p0.2):=(by simp);rw [z2,e3]
   ·obtain ⟨a1,x1,z1,z2,z3,v1,r1,z4,v2,r2,z5,z6,z7⟩:=z;exact ⟨a1,x1,z1,z2,z3,v1,r1,z4,v2,r2,z5,z6,h _ _ z7⟩
   ·obtain ⟨v1,z1,v2,z2,a1,v3,z3,z4,v4,z5,t1,t2,z6,z7,z8,z9,tE⟩:=z;exact ⟨v1,z1,v2,z2,a1,v3,z3,z4,v4,z5,t1,t2,z6,z7,z8,z9,h _ _ tE⟩
   ·obtain ⟨rfl,rfl⟩:=z;intro D hD;refine ⟨D,_,rfl,Aa,?_⟩;rw [List.length_map,tq,List.take_length];have e1:((ps.map λp=>decide (Ha ps p.1=some p.2)).all id)=wd a b:=by
     unfold wd;rw [Xg,List.all_map];rfl
    rw [e1];exact q _ (A9.put (A9.trans YS sd) ((A9.trans YS sd).free hD))
end
open KX
section
variable {Pr:Program}{w:World}{K:W.Frag}{mg:Str->Option Value}{base:Heap}
theorem IG:∀ {t:Kd},ID t->2 * wk t<=2 ^ dp t/\(dp t=0->wk t=0)
 | .num,_ | .tru,_=>by simp [wk]
 | .gap _,h=>h.elim
 | .ls a,h=>by
  have:=IG (t:=a) h;have h0:1<=2 ^ dp a:=Nat.one_le_two_pow;simp only [wk,dp,Nat.pow_succ];refine ⟨(),()⟩
 | .fn a b,h=>by
  have:=IG h.2;have h4:=Nat.pow_le_pow_right (n:=2) ⟨⟩ (Nat.le_max_right (dp a) (dp b));have h0:1<=2 ^ (max (dp a) (dp b)):=Nat.one_le_two_pow;simp only [wk,dp,Nat.pow_succ];refine ⟨(),()⟩
 | .pr a b,h=>by
  have h1:=IG h.1;have h2:=IG h.2;have h3:=Nat.pow_le_pow_right (n:=2) ⟨⟩ (Nat.le_max_left (dp a) (dp b));have h4:=Nat.pow_le_pow_right (n:=2) ⟨⟩ (Nat.le_max_right (dp a) (dp b));simp only [wk,dp,Nat.pow_succ];refine ⟨(),()⟩
theorem ff {t:Kd}(g:ID t)(h:dp t<=2):wk t<=2:=by
 have h1:=(IG g).1;have h4:2 ^ dp t<=2 ^ 2:=Nat.pow_le_pow_right ⟨⟩ h;have h6:2 ^ 2=4:=rfl;omega
theorem tF {t:Kd}(g:ID t)(h:dp t<=1):wk t<=1:=by
 have h1:=(IG g).1;have h4:2 ^ dp t<=2 ^ 1:=Nat.pow_le_pow_right ⟨⟩ h;omega
noncomputable def cc:Nat->Nat
 | 0=>0
 | d+1=>2 * cc d+4
noncomputable def B (d p:Nat):Nat:=p+cc d
theorem DI (d:Nat){p q:Nat}(h:p<=q):B d p<=B d q:=Nat.add_le_add_right h _
theorem II:∀ t,sz t+1<=2 ^ (dp t+1)
 | .num | .tru | .gap _=>by simp [sz,dp]
 | .ls a=>by have:=II a;simp only [sz,dp,Nat.pow_succ] at *;omega
 | .fn a b=>by
  have h1:=II a;have h2:=II b;have h3:=Nat.pow_le_pow_right (n:=2) ⟨⟩ (Nat.le_max_left (dp a) (dp b));have h4:=Nat.pow_le_pow_right (n:=2) ⟨⟩ (Nat.le_max_right (dp a) (dp b));simp only [sz,dp,Nat.pow_succ] at *;omega
 | .pr a b=>by
  have h1:=II a;have h2:=II b;have h3:=Nat.pow_le_pow_right (n:=2) ⟨⟩ (Nat.le_max_left (dp a) (dp b));have h4:=Nat.pow_le_pow_right (n:=2) ⟨⟩ (Nat.le_max_right (dp a) (dp b));simp only [sz,dp,Nat.pow_succ] at *;omega
theorem tG {t:Kd}(h:dp t<=8):sz t<=1000:=by
 have h1:=II t;have h2:2 ^ (dp t+1)<=2 ^ 9:=Nat.pow_le_pow_right ⟨⟩ ();have h3:2 ^ 9=512:=rfl;omega
noncomputable def Pm (d:Nat)(g:Kd):Prop:=d<=3\/(d=4/\dp g<=2)
noncomputable def Pb (d:Nat)(g:Kd):Prop:=d<=2\/(d=3/\dp g<=2)
noncomputable def mu:Nat->Kd->Nat
 | 0,g=>dp g
 | d+1,g=>max 3 (dp g)+2 * (d+1)
structure FE (K:W.Frag)(H:Hp)(a:Addr)(ns:List Int)(g:Kd)(rg:V)(l:Addr)(xs:List (Str × Kd)):Prop where
 hs:AI K H a (ns.map V.int)
 hg:Bi H g rg
 gd:ID g
 w:wk g<=3
 hl:Ho H l xs
 hx:∀ x∈xs,dp x.2<=8
theorem FE.mono {K:W.Frag}{H H':Hp}{a:Addr}{ns:List Int}{g:Kd}{rg:V}{l:Addr}{xs:List (Str × Kd)}(s:A9 H H')(h:FE K H a ns g rg l xs):FE K H' a ns g rg l xs :=
 ⟨s.seq h.hs,Bi.mono (TSub.of_same s) h.hg,h.gd,h.w,h.hl.mono s,h.hx⟩
noncomputable def QE (K:W.Frag)(n:Nat):Sp:=λvs H Q _=>∃ (a:Addr) (ns:List Int) (k:Int) (g:Kd) (rg:V) (l:Addr) (xs:List (Str × Kd)) (d:Nat),vs=[.ref a,.int k,rg,.ref l,.int d]/\FE K H a ns g rg l xs/\mu d g<=n/\max 3 (dp g)+d<=8/\Pm d g/\sk g+d<=15/\xs.length+2 * n<=1000 /\
 ∀ e r H',A9 H H'->An H' e r->Qu xs g d (B d (dp g)) e->Q r H'
noncomputable def Ct (K:W.Frag):Nat->Sp
 | 0=>J0
 | n+1=>QE K n
noncomputable def Bb:Nat->Nat->Nat
 | 0,p=>p
 | d+1,p=>1+B (d+1) p
noncomputable def Fd (K:W.Frag)(n:Nat):Sp:=λvs H Q _=>∃ (a:Addr) (ns:List Int) (k:Int) (g:Kd) (rg:V) (l:Addr) (xs:List (Str × Kd)) (d j:Nat),vs=[.ref a,.int k,rg,.ref l,.int d]/\FE K H a ns g rg l xs/\j - 1=d/\sk g+j<=15/\(d=0->dp g<=n)/\(0 < d->max 3 (dp g)+2 * d+1<=n)/\max 3 (dp g)+d<=8/\Pb d g/\xs.length+2 * n<=1000 /\
 ∀ e r H',A9 H H'->An H' e r->Qu xs g j (Bb d (dp g)) e->Q r H'
noncomputable def MM (K:W.Frag)(n:Nat):Sp:=λvs H Q _=>∃ (a:Addr) (ns:List Int) (k:Int) (g:Kd) (rg:V) (l:Addr) (xs:List (Str × Kd)) (d:Nat),vs=[.ref a,.int k,rg,.ref l,.int d]/\FE K H a ns g rg l xs/\max 3 (dp g)+2 * d+2<=n/\max 3 (dp g)+d+1<=8/\d<=3/\sk g+d+1<=15/\xs.length+2 * n<=1000 /\
 ∀ e r H',A9 H H'->An H' e r->Qu xs g (d+1) (B (d+1) (dp g)) e->Q r H'
theorem aQ (d p:Nat):Bb d p<=B (d+1) p:=by
 cases d with
 | zero=>simp only [Bb,B,cc];omega
 | succ d=>simp only [Bb,B,cc];omega
theorem LL:Am ["_law_script","_law_k","_law_goal","_law_names","_law_deep","_law_number","_law_good"] HZ (A6 BN):=nofun
theorem QF {n r:Nat}{f:Addr}{fd:FuncData}(F:C8 K "_law_made" "_law_made" BN f fd)(B1:mg "len"=none)(MN:mg "max"=none)(Xh:11<=r)
  (cM:Cl Pr w K mg base 2 "_law_mix" HG (D6 K)) (cW:Cl Pr w K mg base 11 "_law_wider" ["_law_wide","_law_kind"] (Fc 8))
  (cB:Cl Pr w K mg base r "_law_built" HZ (Fd K n)) (cT:Cl Pr w K mg base r "_law_taken" HZ (MM K n)) :
  Av Pr w K mg base Bs (r+1) f fd HZ (QE K n):=by
 refine F.okS LL (λB9 A outer s H vs Q E hr h=>?_)
 ·obtain ⟨a,ns,k,g,rg,l,xs,d,rfl,P,Xi,h8,px,O3,hx,q⟩:=h;have HS:AG 2 _:=hr.mono ();have Xj:AG 11 _:=hr.mono ();have S:AZ (BQ Bs Pr w K mg base ["_law_script","_law_k","_law_goal","_law_names","_law_deep","_law_number","_law_good"] "_law_made" (A6 BN) f B9 A outer s H E).nox (Bv (valueOf (inDef BN 1))) [("_law_goal",s.heap.objs.size+1)] ["_law_one"] ["_law_goal"] [2] :=
   ⟨rfl,by decide +kernel,rfl,by decide +kernel,rfl,rfl,rfl,rfl⟩
  have HU:(["_law_one","_law_goal"]:List Str).Nodup:=by decide +kernel
  refine ⟨_,(A4 (Ah (i:=5) LL.nd rfl (.inl rfl) (As cM HS rfl (A1 (A7 0) (A1 (A7 1) A2))))
   (A4 (Hc (i:=6) LL.nd rfl (.inl rfl) (tt:=tB (CV (Fc 8) [] E0 (Be (Fj (Bg K) (B2 0) (tC (.int 1))) (Be (B2 1) Fq)))) (te:=Fj (Bg K) (B2 0) (tC (.int 0))) S rfl (EC (A7 3)) (λC s0 H0 ex=>AV (i:=0) HU rfl (.inl rfl)) (λC s0 H0 ex=>UN (Dp (As cW Xj rfl (A1 (eI 0) (A1 (A7 1) A2))))) (λC s0 H0 ex=>AH Aw (A7 0) A3 Br))
   (A4 (AB (Gj (w_and (CZ (A7 6)) (BH (Al Ao (Af Au (A7 5) A3) A3 (Ac _))))) (Ab (Ag (Ae (A1 A8 (A1 (AH (r:=C3 K) AE (A7 6) (Af Au (Af AS (A7 5) A3) (AF AQ (by rfl) B1 PySem.boot_len (A1 (A7 6) A2))) Br) A2))))) Ap)
   (A4 (AB (Gj (w_and (Al UC (A7 4) A3 (Ac _)) (BH (Al ET (Af Au (A7 5) A3) A3 (Ac _))))) (Ab (Ag (As cT hr rfl (A1 (A7 0) (A1 (A7 1) (A1 (A7 2) (A1 (A7 3) (A1 (Af BF (A7 4) A3) A2)))))))) Ap)
   (Ab (Ag (As cB hr rfl (A1 (A7 0) (A1 (A7 1) (A1 (A7 2) (A1 (A7 3) (A1 (AF (Nm rfl) (by rfl) MN PyProof.Rows.boot_max (A1 A3 (A1 (Af BF (A7 4) A3) A2))) A2)))))))))))),?_⟩
  apply ⟨a,ns,k,rfl,P.hs,λm hm=>?_⟩;left;obtain ⟨rs,Er,DT⟩:=P.hl;have lr:=Paired.len DT;refine ⟨l,rfl,⟨_,AI.of Er⟩,?_⟩;refine Gn (K:=K) (a:=l) (xs:=rs) (λi ys H'=>A9 H H'/\ys.length<=i/\∀ y∈ys,∃ x∈xs,y=.str x.1/\wd x.2 g=true) ⟨A9.refl _,Nat.zero_le _,λy hy=>by cases hy⟩ (λi ys H' z=>AI.of (z.1 _ _ Er)) (by exact BW ()) (λi ys H' z=>z.2.1) rfl (λi x ys H1 hx z=>?_) (λys H1 z=>?_)
  ·obtain ⟨s1,z1,z2⟩:=z;obtain ⟨x0,YE,p,rk,rfl,h2,h3⟩:=Paired.at1 DT hx;have hi:=(List.getElem?_eq_some_iff.mp hx).1;have aR:=List.mem_of_getElem? YE;apply A5 (s1 _ _ h2) rfl ?_;left;have RQ:=P.hx x0 aR;refine ⟨x0.2,g,rk,rg,rfl,Bi.mono (TSub.of_same s1) h3,Bi.mono (TSub.of_same s1) P.hg,RQ,tG RQ,(),λH2 s2=>?_⟩;apply C6 (λjm=>?_) λ_=>?_
   ·apply A5 (s2 _ _ (s1 _ _ h2)) rfl ?_;refine Nx.mk hi ⟨s1.trans s2,by rw [List.length_append];simp;omega,λy hy=>?_⟩;rcases List.mem_append.mp hy with hy | hy
    ·exact z2 y hy
    ·rw [List.mem_singleton.mp hy];exact ⟨x0,aR,rfl,jm⟩
   ·exact Nx.mk hi ⟨s1.trans s2,(),z2⟩
  ·obtain ⟨s1,z1,z2⟩:=z;intros gl H2 s2 e2;apply ⟨!ys.isEmpty,.inl ⟨_,AI.of e2,rfl⟩,?_⟩;have By:=s1.trans s2;have P2:=P.mono By;refine WS ?_ λhc rest=>?_
   ·left;have blt:∀ d':Nat,d - 1=d'->Fd K n [.ref a,.int k,rg,.ref l,.int d'] H2 Q E0:=λd' hd=>by
     refine ⟨a,ns,k,g,rg,l,xs,d',d,rfl,P2,hd,O3,λz=>?_,λz=>?_,(),(by unfold Pm at px;unfold Pb;omega),(),λe r H3 s3 ha ho=>q e r H3 (By.trans s3) ha ⟨ho.op,Nat.le_trans ho.np ?_,ho.ty⟩⟩
     ·cases d with
      | zero=>exact Xi
      | succ d=>have:max 3 (dp g)+2 * (d+1)<=n:=Xi;omega
     ·cases d with
      | zero=>omega
      | succ d=>have:max 3 (dp g)+2 * (d+1)<=n:=Xi;omega
     ·cases d with
      | zero=>subst hd;exact Nat.le_refl _
      | succ d=>cases hd;exact aQ d _
    have built:∀ D:Ends,D.rt=Q->S3 (CV (Fd K n) [] E0 (Be (B2 0) (Be (B2 1) (Be (B2 2) (Be (B2 3) (Be (Wa (λxs H Q=>∃ i j,xs=[.int i,.int j]/\Q (.int (if j > i then j else i)) H) (Be (tC (.int 0)) (Be (Fj (RH λi j=>.int (i - j)) (B2 4) (tC (.int 1))) Fq))) Fq)))))) D [some (.ref a),some (.int k),some rg,some (.ref l),some (.int d),some (.int m),some (.ref gl)] H2:=by
     intro D hD;apply ⟨_,_,rfl,?_⟩;left;rw [hD];cases d with
     | zero=>exact blt 0 rfl
     | succ d' =>
      rw [LD];have e:(if (d':Int) > 0 then (d':Int) else 0)=(d':Int):=by split <;> omega
      rw [e];exact blt d' rfl
    refine C6 (λc1=>?_) λ_=>BG (built _ rfl);apply C6 (λ_=>?_) λ_=>built _ rfl;left;cases d with
    | zero=>exact absurd (of_decide_eq_true c1) ⟨⟩
    | succ d' =>
     refine ⟨a,ns,k,g,rg,l,xs,d',by rw [LD],P2,?_,?_,(by unfold Pm at px;omega),(),(),λe r H3 s3 ha ho=>q e r H3 (By.trans s3) ha ho⟩
     ·have:max 3 (dp g)+2 * (d'+1)<=n:=Xi;omega
     ·omega
   ·apply C6 (λ_=>?_) λ_=>rest;apply ⟨gl,_,rfl,.inl (AI.of e2),?_⟩;have Fw:(0:Int) < (ys.length:Nat):=by
     cases ys with
     | nil=>simp at hc
     | cons x xs=>simp
    refine UT Fw (BD (AI.of e2) (Int.emod_nonneg _ ()) (Int.emod_lt_of_pos _ Fw) λv hv=>?_);left;intros p H3 s3 e3;obtain ⟨x,hx,rfl,jm⟩:=z2 v hv;exact q (.nm x.1) _ _ (By.trans s3) ⟨p,rfl,e3⟩ ⟨trivial,Nat.zero_le _,.nm (eV P.w ()) ⟨x.2,hx,(WE _ _).mp jm⟩⟩
theorem QG {d p a b:Nat}(h1:a<=B d 3)(h2:b<=B d p):1+a+b<=B (d+1) p:=by simp only [B,cc] at *;omega
theorem aT {d p a b c:Nat}(h1:a<=B d 3)(h2:b<=B d p)(h3:c<=B d p):1+max a (max b c)<=B (d+1) p:=by simp only [B,cc] at *;omega
theorem Xk {d p k a b:Nat}(hk:k<=2)(h1:a<=B d (max k p+1))(h2:b<=B d 3):1+max a b<=B (d+1) p:=by simp only [B,cc] at *;omega
theorem Xl {d p a b c:Nat}(h1:a<=B d 3)(h2:b<=B d p)(h3:c<=B d p):1+max c (a+b)<=B (d+1) p:=by simp only [B,cc] at *;omega
noncomputable def V2 (K:W.Frag)(n:Nat):Sp:=λvs H Q _=>∃ (a:Addr) (ns:List Int) (k:Int) (g:Kd) (rg:V) (l:Addr) (xs:List (Str × Kd)) (d:Nat) (x:Str) (kd:Kd) (rk:V),vs=[.ref a,.int k,rg,.ref l,.int d,.str x,rk]/\FE K H a ns g rg l xs/\Bi H kd rk/\ID kd/\dp kd<=2/\max 3 (dp g)+2 * d+2<=n/\max 3 (dp g)+d+1<=8/\d<=3/\sk g+d+1<=15/\xs.length+2 * n<=1000 /\
 ∀ e r H',A9 H H'->An H' e r->Qu xs g (d+1) (B (d+1) (dp g)) e->Q r H'
theorem B7 {K:W.Frag}{n d:Nat}{H:Hp}{Q:VK}{E:XK}{a:Addr}{ns:List Int}{k:Int}{g:Kd}{rg:V}{l:Addr}{xs:List (Str × Kd)}{left:V}(P:FE K H a ns g rg l xs)(hd:left=.int d)(h3:dp g<=max 3 (n - 1 - 2 * d))(hn:2 * d+4<=n)(h8:max 3 (dp g)+d<=8)(YT:d<=3)(hx:xs.length+2 * n<=1002)(O3:sk g+d<=15)
  (q:∀ e r H',A9 H H'->An H' e r->Qu xs g d (B d (dp g)) e->Q r H'):Ct K n [.ref a,.int k,rg,.ref l,left] H Q E:=by
 subst hd;cases n with
 | zero=>omega
 | succ n =>
  refine ⟨a,ns,k,g,rg,l,xs,d,rfl,P,?_,h8,.inl YT,O3,(),q⟩;cases d with
  | zero=>simp only [mu];omega
  | succ d=>simp only [mu];omega
theorem FE.with {K:W.Frag}{H:Hp}{a:Addr}{ns:List Int}{g g':Kd}{rg pz:V}{l l':Addr}{xs jn:List (Str × Kd)}(P:FE K H a ns g rg l xs)(hg:Bi H g' pz)(gd:ID g')(w:wk g'<=3)(hl:Ho H l' jn)(hx:∀ x∈jn,dp x.2<=8):FE K H a ns g' pz l' jn:=⟨P.hs,hg,gd,w,hl,hx⟩
theorem BX (m:Int->Option Kd):∀ {k:Kd},ID k->fill m k=k
 | .num,_=>rfl
 | .tru,_=>rfl
 | .gap _,h=>h.elim
 | .ls a,h=>by show Kd.ls (fill m a)=_;rw [BX m (k:=a) h]
 | .fn a b,h=>by show Kd.fn (fill m a) (fill m b)=_;rw [BX m h.1,BX m h.2]
 | .pr a b,h=>by show Kd.pr (fill m a) (fill m b)=_;rw [BX m h.1,BX m h.2]
theorem MO {more:List (Str × Kd)}{x:Str × Kd}(h:Et more x=true):∀ m∈more,x.1≠m.1:=λm hm e=>by
 unfold Et FR at h;rw [Bool.not_eq_true'] at h;rw [List.any_eq_false] at h;exact h _ (List.mem_map.mpr ⟨m,hm,rfl⟩) (by rw [e];exact beq_self_eq_true _)
theorem Kc {xs:List (Str × Kd)}{x:Str}{wk:Kd}:(UY (Xa xs [(x,wk)])).Le ((UY xs).put x λt=>∃ m,fill m wk=t):=by
 rintro y t ⟨k,hk,m,e⟩;simp only [Gm.put];rcases List.mem_append.mp hk with hk | hk
 ·obtain ⟨h1,h2⟩:=List.mem_filter.mp hk;have:=MO h2 (x,wk) (.head _);rw [if_neg this];exact ⟨k,h1,m,e⟩
 ·cases List.mem_singleton.mp hk;rw [if_pos rfl];exact ⟨m,e⟩
theorem MP {Γ:Gm}{x:Str}{k:Kd}(g:ID k):(Γ.put x λt=>∃ m,fill m k=t).Le (Γ.put x (·=k)):=λy t h=>by
 simp only [Gm.put] at h ⊢;split
 ·rename_i e;rw [if_pos e] at h;obtain ⟨m,rfl⟩:=h;exact BX m g
 ·rename_i e;rw [if_neg e] at h;exact h
theorem O4 {xs:List (Str × Kd)}{x:Str}{wk:Kd}(g:ID wk):(UY (Xa xs [(x,wk)])).Le ((UY xs).put x (·=wk)):=λy t h=>MP g y t (Kc y t h)
theorem Hq {xs more:List (Str × Kd)}{x y:Str}{a b:Kd}(ga:ID a)(gb:ID b)(h:(x=y/\more=[(y,b)])\/(x≠y/\more=[(x,a),(y,b)])):(UY (Xa xs more)).Le (((UY xs).put x (·=a)).put y (·=b)):=by
 rintro z t ⟨k,hk,m,e⟩;simp only [Gm.put];rcases List.mem_append.mp hk with hk | hk
 ·obtain ⟨h1,h2⟩:=List.mem_filter.mp hk;have k1:=MO h2;have ny:z≠y:=by rcases h with ⟨_,rfl⟩ | ⟨_,rfl⟩ <;> exact k1 (y,b) (by simp)
  have nx:z≠x:=by
   rcases h with ⟨rfl,_⟩ | ⟨_,rfl⟩
   ·exact ny
   ·exact k1 (x,a) (by simp)
  rw [if_neg ny,if_neg nx];exact ⟨k,h1,m,e⟩
 ·rcases h with ⟨rfl,rfl⟩ | ⟨n,rfl⟩
  ·cases List.mem_singleton.mp hk;rw [if_pos rfl,<- e];exact BX m gb
  ·simp only [List.mem_cons,List.not_mem_nil,or_false,Prod.mk.injEq] at hk;rcases hk with ⟨rfl,rfl⟩ | ⟨rfl,rfl⟩
   ·rw [if_neg n,if_pos rfl,<- e];exact BX m ga
   ·rw [if_pos rfl,<- e];exact BX m gb
theorem Ew:Am ["_law_script","_law_k","_law_goal","_law_names","_law_deep","_law_a","_law_kind","_law_number","_law_one","_law_wide"] ["_law_script","_law_k","_law_goal","_law_names","_law_deep","_law_a","_law_kind"] (A6 DE):=nofun
theorem Xm {n r:Nat}{f:Addr}{fd:FuncData}(F:C8 K "_law_let" "_law_let" DE f fd)(Xh:11<=r)
  (cM:Cl Pr w K mg base 2 "_law_mix" HG (D6 K)) (cV:Cl Pr w K mg base 1 "_law_with" ["_law_names","_law_more"] FC)
  (cD:Cl Pr w K mg base r "_law_made" HZ (Ct K n)) :
  Av Pr w K mg base Bs (r+1) f fd ["_law_script","_law_k","_law_goal","_law_names","_law_deep","_law_a","_law_kind"] (V2 K n):=by
 refine F.okS Ew (λB9 A outer s H vs Q E hr h=>?_)
 ·obtain ⟨a,ns,k,g,rg,l,xs,d,x,kd,rk,rfl,P,hk,gk,dk,Xi,h8,h3,O3,hx,q⟩:=h;have Ox:=eV P.w (show sk g<=15 by omega);have HS:AG 2 _:=hr.mono ();have FZ:AG 1 _:=hr.mono ();refine ⟨_,(A4 (Ah (i:=7) Ew.nd rfl (.inl rfl) (As cM HS rfl (A1 (A7 0) (A1 (Af Ar (A7 1) A3) A2))))
   (A4 (Ah (i:=8) Ew.nd rfl (.inl rfl) (Ae (A1 A8 A2)))
   (A4 (Ah (i:=9) Ew.nd rfl (.inl rfl) (Ae (A1 A8 (A1 (Ae (A1 A8 (A1 A3 A2))) A2))))
   (A4 (AB (Al Ao (Af Au (A7 7) A3) A3 (Ac _)) (A4 (Ah (i:=8) Ew.nd rfl (.inl rfl) (Ae (A1 A8 (A1 A8 (A1 (Ae (A1 A8 (A1 A8 A2))) A2)))))
   (Ab (Ah (i:=9) Ew.nd rfl (.inl rfl) (Ae (A1 A8 (A1 (Ae (A1 A8 (A1 A3 A2))) (A1 (Ae (A1 A8 (A1 A3 A2))) A2))))))) (Ab (AB (Al Ao (Af Au (A7 7) A3) A3 (Ac _)) (A4 (Ah (i:=8) Ew.nd rfl (.inl rfl) (Ae (A1 A8 (A1 A8 (A1 (Ae (A1 A8 (A1 (Ae (A1 A8 (A1 A8 A2))) (A1 (Ae (A1 A8 (A1 A8 A2))) A2)))) A2)))))
   (Ab (Ah (i:=9) Ew.nd rfl (.inl rfl) (Ae (A1 A8 (A1 (Ae (A1 A8 (A1 A3 A2))) (A1 (Ae (A1 A8 (A1 (Ae (A1 A8 (A1 A3 A2))) (A1 (Ae (A1 A8 (A1 A3 A2))) A2)))) A2))))))) (Ab (AB (Al Ao (Af Au (A7 7) A3) A3 (Ac _)) (A4 (Ah (i:=8) Ew.nd rfl (.inl rfl) (As cD hr rfl (A1 (A7 0) (A1 (Af Ar (Af AR A3 (A7 1)) A3) (A1 (A7 6) (A1 (A7 3) (A1 (A7 4) A2)))))))
   (Ab (Ah (i:=9) Ew.nd rfl (.inl rfl) (A7 6)))) Ap)))))
   (Ab (Ag (Ae (A1 A8 (A1 (A7 5) (A1 (A7 8) (A1 (As cD hr rfl (A1 (A7 0) (A1 (Af Ar (Af AR A3 (A7 1)) A3) (A1 (A7 2) (A1 (As cV FZ rfl (A1 (A7 3) (A1 (Az (A1 (Ae (A1 (A7 5) (A1 (A7 9) A2))) A2)) A2))) (A1 (A7 4) A2)))))) A2))))))))))),?_⟩
  apply ⟨a,ns,_,rfl,P.hs,λm hm=>?_⟩;left;intros p1 H1 s1 e1;left;intros p2 H2 s2 e2;left;intros p3 H3 s3 e3;left;have DO:=s1.trans (s2.trans s3);refine Td (fun σ' H'=>∃ e1 r1 wk rw,σ'=[some (.ref a),some (.int k),some rg,some (.ref l),some (.int d),some (.str x),some rk,some (.int m),some r1,some rw]/\A9 H3 H'/\An H' e1 r1/\e1.opj 29/\e1.kn<=B d 3/\Bi H' wk rw/\dp wk<=8/\eX (UY xs) d e1 wk) ?_ λfin=>?_
  ·rintro σ' H' ⟨e1,r1,wk,rw,rfl,s4,a1,o1,n1,kw,dw,tH⟩;have YU:=DO.trans s4;left;intros p4 H5 s5 e5;left;intros p5 H6 s6 e6;left;have Tw:=s5.trans s6;have tI:Ho H6 p5 [(x,wk)]:=⟨_,e6,.cons ⟨p4,rw,rfl,s6 _ _ e5,Bi.mono (TSub.of_same Tw) kw⟩ .nil⟩;refine ⟨l,p5,xs,[(x,wk)],rfl,P.hl.mono (YU.trans Tw),tI,by simp;omega,λl2 H7 s7 DT=>?_⟩;left;have P7:=P.mono (YU.trans (Tw.trans s7));refine B7 (P7.with P7.hg P.gd P.w DT λy hy=>?_) rfl () () () h3 ?_ () λe2 r2 H8 s8 a2 o2=>?_
   ·rcases F8 hy with hy | hy
    ·rw [List.mem_singleton.mp hy];exact dw
    ·exact P.hx y hy
   ·have:=F9 xs [(x,wk)];simp at this;omega
   left;intros p6 H9 s9 e9;refine q (.lt x e1 e2) _ _ (YU.trans (Tw.trans (s7.trans (s8.trans s9)))) ⟨p6,r1,r2,rfl,e9,An.mono (TSub.of_same (Tw.trans (s7.trans (s8.trans s9)))) a1,An.mono (TSub.of_same s9) a2⟩ ⟨⟨o1,o2.op⟩,QG n1 o2.np,tH _ _ _ Ox (o2.ty.mono (Nat.le_refl _) (Nat.le_refl _) Kc)⟩
  ·refine Ql ?_;apply C6 (λ_=>?_) λ_=>?_
   ·left;intros p4 H4 s4 e4;left;intros p5 H5 s5 e5;left;intros p6 H6 s6 e6;left;intros p7 H7 s7 e7;left;intros p8 H8 s8 e8;exact fin _ _ ⟨.fn "y" (.nm "y"),.ref p5,.fn (.gap 0) (.gap 0),.ref p8,rfl,s4.trans (s5.trans (s6.trans (s7.trans s8))),⟨p5,.ref p4,rfl,s8 _ _ (s7 _ _ (s6 _ _ e5)),p4,rfl,s8 _ _ (s7 _ _ (s6 _ _ (s5 _ _ e4)))⟩,⟨trivial,⟨⟩⟩,by show 1<=_;unfold B;omega,⟨p8,.ref p6,.ref p7,rfl,e8,⟨p6,rfl,s8 _ _ (s7 _ _ e6)⟩,⟨p7,rfl,s8 _ _ e7⟩⟩,by simp [dp],aD⟩
   apply C6 (λ_=>?_) λ_=>?_
   ·left;intros p4 H4 s4 e4;left;intros p5 H5 s5 e5;left;intros p6 H6 s6 e6;left;intros p7 H7 s7 e7;left;intros p8 H8 s8 e8;left;intros p9 H9 s9 e9;left;intros jo L0 Dr Ke;left;intros pA O5 E7 Jb;left;intros pB YV Ds RP;have t7:=s8.trans (s9.trans (Dr.trans (E7.trans Ds)));exact fin _ _ ⟨.fn "y" (.pr (.nm "y") (.nm "y")),.ref p7,.fn (.gap 0) (.pr (.gap 0) (.gap 0)),.ref pB,rfl,s4.trans (s5.trans (s6.trans (s7.trans t7))),⟨p7,.ref p6,rfl,t7 _ _ e7,p6,.ref p4,.ref p5,rfl,t7 _ _ (s7 _ _ e6),⟨p4,rfl,t7 _ _ (s7 _ _ (s6 _ _ (s5 _ _ e4)))⟩,⟨p5,rfl,t7 _ _ (s7 _ _ (s6 _ _ e5))⟩⟩,⟨⟨trivial,trivial⟩,⟨⟩⟩,by show 2<=_;unfold B;omega,⟨pB,.ref p8,.ref pA,rfl,RP,⟨p8,rfl,Ds _ _ (E7 _ _ (Dr _ _ (s9 _ _ e8)))⟩,pA,.ref p9,.ref jo,rfl,Ds _ _ Jb,⟨p9,rfl,Ds _ _ (E7 _ _ (Dr _ _ e9))⟩,⟨jo,rfl,Ds _ _ (E7 _ _ Ke)⟩⟩,by simp [dp],X2⟩
   left;have pC:=Bi.mono (TSub.of_same DO) hk;refine C6 (λ_=>?_) λ_=>?_
   ·left;have P3:=P.mono DO;refine B7 (P3.with pC gk (by have:=ff gk dk;omega) P3.hl P.hx) rfl () () () h3 () (by have:=(eW dk).2;omega) λe1 r1 H4 s4 a1 o1=>?_;have hp:=eW dk;refine WQ (WO (v:=rk) rfl ?_);exact fin _ _ ⟨e1,r1,kd,rk,rfl,s4,a1,o1.op,Nat.le_trans o1.np (DI d hp.1),Bi.mono (TSub.of_same s4) pC,(),λx e2 g og h=>.lt og (ff gk dk) o1.ty (h.mono (Nat.le_refl _) (Nat.le_refl _) (MP gk))⟩
   ·exact fin _ _ ⟨.emp,.ref p1,.ls (.gap 0),.ref p3,rfl,A9.refl _,⟨p1,rfl,s3 _ _ (s2 _ _ e1)⟩,trivial,Nat.zero_le _,⟨p3,.ref p2,rfl,e3,p2,rfl,s3 _ _ e2⟩,by simp [dp],X1⟩
theorem Bz:Am ["_law_script","_law_k","_law_goal","_law_names","_law_deep","_law_number","_law_a","_law_b","_law_kind","_law_one","_law_other","_law_second","_law_word","_law_given","_law_last"] HZ (A6 Cr):=nofun
theorem QH {n r:Nat}{f:Addr}{fd:FuncData}(F:C8 K "_law_taken" "_law_taken" Cr f fd)(Co:mg "int"=none)(Xh:11<=r)
  (cM:Cl Pr w K mg base 2 "_law_mix" HG (D6 K)) (cN:Cl Pr w K mg base 1 "_law_name" ["_law_number"] E6) (cV:Cl Pr w K mg base 1 "_law_with" ["_law_names","_law_more"] FC)
  (cG:Cl Pr w K mg base 5 "_law_ground" ["_law_script","_law_k","_law_deep"] (CP K 2))
  (cD:Cl Pr w K mg base r "_law_made" HZ (Ct K n)) (cL:Cl Pr w K mg base (r+1) "_law_let" ["_law_script","_law_k","_law_goal","_law_names","_law_deep","_law_a","_law_kind"] (V2 K n)) :
  Av Pr w K mg base Bs (r+2) f fd HZ (MM K n):=by
 refine F.okS Bz (λB9 A outer s H vs Q E hr h=>?_)
 ·obtain ⟨a,ns,k,g,rg,l,xs,d,rfl,P,Xi,h8,h3,O3,hx,q⟩:=h;have Ox:=eV P.w (show sk g<=15 by omega);have HS:AG 2 _:=hr.mono ();have FZ:AG 1 _:=hr.mono ();have fg:AG 5 _:=hr.mono ();have V3:AG r _:=hr.mono ();refine ⟨_,(A4 (Ah (i:=5) Bz.nd rfl (.inl rfl) (As cM HS rfl (A1 (A7 0) (A1 (Af Ar (A7 1) A3) A2))))
   (A4 (Ah (i:=6) Bz.nd rfl (.inl rfl) (As cN FZ rfl (A1 (Af AS (A7 5) A3) A2)))
   (A4 (Ah (i:=7) Bz.nd rfl (.inl rfl) (As cN FZ rfl (A1 (Af AS (A7 5) A3) A2)))
   (A4 (Ah (i:=8) Bz.nd rfl (.inl rfl) (As cG fg rfl (A1 (A7 0) (A1 (Af Ar (Af AR A3 (A7 1)) A3) (A1 (Af Ar A3 (Af Au (Af AS (A7 5) A3) A3)) A2)))))
   (A4 (AB (Al ET (Af Au (A7 5) A3) A3 (Ac _)) (Ab (Ag (As cL hr rfl (A1 (A7 0) (A1 (A7 1) (A1 (A7 2) (A1 (A7 3) (A1 (A7 4) (A1 (A7 6) (A1 (A7 8) A2)))))))))) Ap)
   (A4 (AB (Al Ao (Af Au (A7 5) A3) A3 (Ac _)) (A4 (Ah (i:=9) Bz.nd rfl (.inl rfl) (As cD V3 rfl (A1 (A7 0) (A1 (Af Ar (Af AR A3 (A7 1)) A3) (A1 (Ae (A1 A8 A2)) (A1 (A7 3) (A1 (A7 4) A2)))))))
   (A4 (Ah (i:=10) Bz.nd rfl (.inl rfl) (As cD V3 rfl (A1 (A7 0) (A1 (Af Ar (Af AR A3 (A7 1)) A3) (A1 (A7 2) (A1 (A7 3) (A1 (A7 4) A2)))))))
   (Ab (Ag (Ae (A1 A8 (A1 (A7 9) (A1 (A7 10) (A1 (As cD V3 rfl (A1 (A7 0) (A1 (Af Ar (Af AR A3 (A7 1)) A3) (A1 (A7 2) (A1 (A7 3) (A1 (A7 4) A2)))))) A2))))))))) Ap)
   (A4 (AB (Al ET (Af Au (A7 5) A3) A3 (Ac _)) (A4 (Ah (i:=9) Bz.nd rfl (.inl rfl) (As cD V3 rfl (A1 (A7 0) (A1 (Af Ar (Af AR A3 (A7 1)) A3) (A1 (Ae (A1 A8 (A1 (A7 8) (A1 (A7 2) A2)))) (A1 (A7 3) (A1 (A7 4) A2)))))))
   (Ab (Ag (Ae (A1 A8 (A1 (A7 9) (A1 (As cD V3 rfl (A1 (A7 0) (A1 (Af Ar (Af AR A3 (A7 1)) A3) (A1 (A7 8) (A1 (A7 3) (A1 (A7 4) A2)))))) A2))))))) Ap)
   (A4 (Ah (i:=11) Bz.nd rfl (.inl rfl) (As cG fg rfl (A1 (A7 0) (A1 (Af Ar (Af AR A3 (A7 1)) A3) (A1 A3 A2)))))
   (A4 (Ah (i:=12) Bz.nd rfl (.inl rfl) (AH (r:=C3 K) AE (Az (A1 A8 (A1 A8 A2))) (Af BF (Af Au (A7 5) A3) A3) Br))
   (A4 (Ah (i:=9) Bz.nd rfl (.inl rfl) (As cD V3 rfl (A1 (A7 0) (A1 (Af Ar (Af AR A3 (A7 1)) A3) (A1 (HK (Al Ao (A7 12) A8 (Ac _)) (Ae (A1 A8 (A1 (A7 8) (A1 (A7 11) A2)))) (Ae (A1 A8 (A1 (A7 8) A2)))) (A1 (A7 3) (A1 (A7 4) A2)))))))
   (A4 (Ah (i:=13) Bz.nd rfl (.inl rfl) (BV (r:=Wd K) Sm (Az (A1 (Ae (A1 (A7 6) (A1 (A7 8) A2))) (A1 (Ae (A1 (A7 7) (A1 (HK (Al Ao (A7 12) A8 (Ac _)) (A7 11) (Ae (A1 A8 (A1 (A7 8) A2)))) A2))) A2))) (BU (Bl Fp (by rfl) Co PyProof.Rows.boot_int (A1 (C1 Ao (A7 6) (A7 7) (Ac _)) A2))) DZ))
   (A4 (Ah (i:=14) Bz.nd rfl (.inl rfl) (As cD V3 rfl (A1 (A7 0) (A1 (Af Ar (Af AR A3 (A7 1)) A3) (A1 (A7 2) (A1 (As cV FZ rfl (A1 (A7 3) (A1 (A7 13) A2))) (A1 (A7 4) A2)))))))
   (A4 (AB (Al Ao (A7 12) A8 (Ac _)) (Ab (Ag (Ae (A1 A8 (A1 (A7 9) (A1 (A7 6) (A1 (A7 7) (A1 (A7 14) A2)))))))) Ap)
   (Ab (Ag (Ae (A1 A8 (A1 (A7 9) (A1 (As cD V3 rfl (A1 (A7 0) (A1 (Af Ar (Af AR A3 (A7 1)) A3) (A1 (A7 2) (A1 (A7 3) (A1 (A7 4) A2)))))) (A1 (A7 6) (A1 (A7 7) (A1 (A7 14) A2)))))))))))))))))))))),?_⟩
  apply ⟨a,ns,_,rfl,P.hs,λm hm=>?_⟩;apply ⟨_,rfl,λx H1 s1=>?_⟩;apply ⟨_,rfl,λy H2 s2=>?_⟩;left;have By:=s1.trans s2;have lo:=Int.emod_nonneg (m / 200) (b:=2) ⟨⟩;have hi:=Int.emod_lt_of_pos (m / 200) (b:=2) ⟨⟩;refine ⟨a,ns,3 * k+7,(1+m / 200 % 2).toNat,?_,(),By.seq P.hs,λkd rk H3 s3 hk gk dk=>?_⟩
  ·rw [Int.toNat_of_nonneg ()]
  have jq:dp kd<=2:=by omega
  have tJ:=eW jq;have tK:=ff gk jq;have DO:=By.trans s3;have P3:=P.mono DO;apply C6 (λ_=>?_) λw1=>?_
  ·left;exact ⟨a,ns,k,g,rg,l,xs,d,x,kd,rk,rfl,P3,hk,gk,jq,Xi,h8,h3,O3,hx,λe r H' s' ha ho=>q e r H' (DO.trans s') ha ho⟩
  apply C6 (λ_=>?_) λw2=>?_
  ·left;intros p1 H4 s4 e4;left;have P4:=P3.mono s4;refine B7 (P4.with (g':=.tru) ⟨p1,rfl,e4⟩ trivial (by simp [wk]) P4.hl P.hx) rfl (by simp only [dp];omega) () (by simp only [dp];omega) h3 () (by simp only [sk];omega) λe1 r1 H5 s5 a1 o1=>?_;left;have P5:=P4.mono s5;refine B7 P5 rfl () () () h3 () () λe2 r2 H6 s6 a2 o2=>?_;left;have P6:=P5.mono s6;refine B7 P6 rfl () () () h3 () () λe3 r3 H7 s7 a3 o3=>?_;left;intros p2 H8 s8 e8;have n1:=o1.np;have n2:=o2.np;have n3:=o3.np;have b3:=DI d (show dp .tru<=3 by simp [dp]);refine q (.wh e1 e2 e3) _ _ (DO.trans (s4.trans (s5.trans (s6.trans (s7.trans s8))))) ⟨p2,r1,r2,r3,rfl,e8,An.mono (TSub.of_same (s6.trans (s7.trans s8))) a1,An.mono (TSub.of_same (s7.trans s8)) a2,An.mono (TSub.of_same s8) a3⟩ ⟨⟨o1.op,o2.op,o3.op⟩,?_,.wh Ox (.inl rfl) o1.ty o2.ty o3.ty⟩
   ·exact aT (Nat.le_trans n1 b3) n2 n3
  apply C6 (λ_=>?_) λw3=>?_
  ·left;intros p1 H4 s4 e4;left;have P4:=P3.mono s4;have fh:=Bi.mono (TSub.of_same s4) hk;refine B7 (P4.with (g':=.fn kd g) ⟨p1,rk,rg,rfl,e4,fh,P4.hg⟩ ⟨gk,P.gd⟩ (by have:=P.w;simp only [wk];omega) P4.hl P.hx) rfl (by simp only [dp];omega) () (by simp only [dp];omega) h3 () (by simp only [sk];omega) λe1 r1 H5 s5 a1 o1=>?_;left;have P5:=P4.mono s5;refine B7 (P5.with (Bi.mono (TSub.of_same s5) fh) gk () P5.hl P.hx) rfl () () () h3 () () λe2 r2 H6 s6 a2 o2=>?_;left;intros p2 H8 s8 e8;have n1:=o1.np;have n2:=o2.np;have b3:=DI d tJ.1;refine q (.cal e1 e2) _ _ (DO.trans (s4.trans (s5.trans (s6.trans s8)))) ⟨p2,r1,r2,rfl,e8,An.mono (TSub.of_same (s6.trans s8)) a1,An.mono (TSub.of_same s8) a2⟩ ⟨⟨o1.op,o2.op⟩,?_,.cal Ox (.inl rfl) tK o1.ty o2.ty⟩
   ·exact Xk () n1 (Nat.le_trans n2 b3)
  apply ⟨a,ns,_,1,rfl,(),P3.hs,λsd rs H4 s4 UB gs ds=>?_⟩;have ps:=sO ds;have ws:=tF gs ds;have P4:=P3.mono s4;have fh:=Bi.mono (TSub.of_same s4) hk;left;intros pw H5 s5 e5;left;have ne:∀ j:Int,¬ decide (V.int (m % 7)=V.int j)=true->m % 7≠j:=λj h z=>h (decide_eq_true (by rw [z]));have tL:=ne _ w2;have tM:¬ m % 7 < 2:=λz=>w1 (decide_eq_true z);have tN:¬ m % 7 < 5:=λz=>w3 (decide_eq_true z);have xG:=Int.emod_nonneg m (b:=7) ⟨⟩;have xH:=Int.emod_lt_of_pos m (b:=7) ⟨⟩;have P5:=P4.mono s5;have pD:=Bi.mono (TSub.of_same s5) fh;have i9:=Bi.mono (TSub.of_same s5) UB;have Jc:=DO.trans (s4.trans s5);have two:∀ z∈(if x=y then [y] else [x,y]),z=y\/z=x:=by
   intro z hz;split at hz
   ·exact .inl (List.mem_singleton.mp hz)
   ·simp only [List.mem_cons,List.not_mem_nil,or_false] at hz;exact hz.symm
  refine BD (AI.of e5) () (by simp;omega) λv hv=>?_;left;have NH:v=.str "open"\/v=.str "split":=by simpa using hv
  rcases NH with rfl | rfl
  ·apply AK (decide_eq_true rfl) ?_;left;intros p1 H6 s6 e6;left;have P6:=P5.mono s6;have aU:=Bi.mono (TSub.of_same s6) pD;have pE:=Bi.mono (TSub.of_same s6) i9;refine B7 (P6.with (g':=.pr kd sd) ⟨p1,rk,rs,rfl,e6,aU,pE⟩ ⟨gk,gs⟩ (by simp only [wk];omega) P6.hl P.hx) rfl (by simp only [dp];omega) () (by simp only [dp];omega) h3 () (by simp only [sk];omega) λe1 r1 H7 s7 a1 o1=>?_;left;intros q1 H8 s8 e8;apply AK (decide_eq_true rfl) ?_;left;intros q2 H9 s9 e9;left;intros q3 L0 Dr Ke;apply .inr ⟨_,rfl,?_⟩;left;have Kf:=s7.trans (s8.trans (s9.trans Dr));have Tx:=Bi.mono (TSub.of_same Kf) aU;have jr:=Bi.mono (TSub.of_same Kf) pE;refine Qn (AI.of Ke) λq4 O5 _ E7 Jb=>?_;left;have aW:=P6.mono (Kf.trans E7);have ent:∃ more:List (Str × Kd),Ho O5 q4 more/\more.length<=2/\(∀ z∈more,z.1=y\/z.1=x)/\(∀ z∈more,dp z.2<=8)/\((x=y/\more=[(y,sd)])\/(x≠y/\more=[(x,kd),(y,sd)])):=by
    have n1:Tq O5 (.ref q1) (x,kd):=⟨q1,rk,rfl,E7 _ _ (Dr _ _ (s9 _ _ e8)),Bi.mono (TSub.of_same E7) Tx⟩;have n2:Tq O5 (.ref q2) (y,sd):=⟨q2,rs,rfl,E7 _ _ (Dr _ _ e9),Bi.mono (TSub.of_same E7) jr⟩;by_cases Xn:x=y
    ·subst Xn;simp only [decide_true,↓reduceIte] at Jb;exact ⟨[(x,sd)],⟨_,Jb,.cons n2 .nil⟩,by simp,by simp,by simp;omega,.inl ⟨rfl,rfl⟩⟩
    ·have ed:decide (V.str x=V.str y)=false:=(by simp [Xn]);rw [ed] at Jb;exact ⟨[(x,kd),(y,sd)],⟨_,Jb,.cons n1 (.cons n2 .nil)⟩,by simp,by simp,by simp;omega,.inr ⟨Xn,rfl⟩⟩
   obtain ⟨more,aX,aL,tO,jt,ju⟩:=ent;refine ⟨l,q4,xs,more,rfl,aW.hl,aX,(),λl2 YV Ds DT=>?_⟩;left;have YW:=aW.mono Ds;refine B7 (YW.with YW.hg P.gd P.w DT λz hz=>?_) rfl () () () h3 ?_ () λe2 r2 YX Fe a2 o2=>?_
   ·rcases F8 hz with hz | hz
    ·exact jt z hz
    ·exact P.hx z hz
   ·have:=F9 xs more;omega
   apply AK (decide_eq_true rfl) ?_;left;intros p2 YY Ey Tz;have n1:=o1.np;have n2:=o2.np;have b3:=DI d (show dp (.pr kd sd)<=3 by simp only [dp];omega);refine q (.opn e1 x y e2) _ _ (Jc.trans (s6.trans (Kf.trans (E7.trans (Ds.trans (Fe.trans Ey)))))) ⟨p2,r1,r2,rfl,Tz,An.mono (TSub.of_same (s8.trans (s9.trans (Dr.trans (E7.trans (Ds.trans (Fe.trans Ey))))))) a1,An.mono (TSub.of_same Ey) a2⟩ ⟨⟨o1.op,o2.op⟩,?_,.opn Ox (.inl rfl) o1.ty (o2.ty.mono (Nat.le_refl _) (Nat.le_refl _) (Hq gk gs ju))⟩
   ·exact QG (Nat.le_trans n1 b3) n2
  ·apply Ay ⟨⟩ ?_;left;intros p1 H6 s6 e6;left;have P6:=P5.mono s6;have aU:=Bi.mono (TSub.of_same s6) pD;refine B7 (P6.with (g':=.ls kd) ⟨p1,rk,rfl,e6,aU⟩ gk (by simp only [wk];omega) P6.hl P.hx) rfl (by simp only [dp];omega) () (by simp only [dp];omega) h3 () (by simp only [sk];omega) λe1 r1 H7 s7 a1 o1=>?_;left;intros q1 H8 s8 e8;apply Ay ⟨⟩ ?_;left;intros q0 xI jv i5;left;intros q2 H9 s9 e9;left;intros q3 L0 Dr Ke;apply .inr ⟨_,rfl,?_⟩;left;have Kf:=s7.trans (s8.trans (jv.trans (s9.trans Dr)));have Tx:=Bi.mono (TSub.of_same Kf) aU;refine Qn (AI.of Ke) λq4 O5 _ E7 Jb=>?_;left;have aW:=P6.mono (Kf.trans E7);have ent:∃ more:List (Str × Kd),Ho O5 q4 more/\more.length<=2/\(∀ z∈more,z.1=y\/z.1=x)/\(∀ z∈more,dp z.2<=8)/\((x=y/\more=[(y,.ls kd)])\/(x≠y/\more=[(x,kd),(y,.ls kd)])):=by
    have n1:Tq O5 (.ref q1) (x,kd):=⟨q1,rk,rfl,E7 _ _ (Dr _ _ (s9 _ _ (jv _ _ e8))),Bi.mono (TSub.of_same E7) Tx⟩;have n2:Tq O5 (.ref q2) (y,.ls kd):=⟨q2,.ref q0,rfl,E7 _ _ (Dr _ _ e9),q0,rk,rfl,E7 _ _ (Dr _ _ (s9 _ _ i5)),Bi.mono (TSub.of_same E7) Tx⟩;by_cases Xn:x=y
    ·subst Xn;simp only [decide_true,↓reduceIte] at Jb;exact ⟨[(x,.ls kd)],⟨_,Jb,.cons n2 .nil⟩,by simp,by simp,by simp [dp];omega,.inl ⟨rfl,rfl⟩⟩
    ·have ed:decide (V.str x=V.str y)=false:=(by simp [Xn]);rw [ed] at Jb;exact ⟨[(x,kd),(y,.ls kd)],⟨_,Jb,.cons n1 (.cons n2 .nil)⟩,by simp,by simp,by simp [dp];omega,.inr ⟨Xn,rfl⟩⟩
   obtain ⟨more,aX,aL,tO,jt,ju⟩:=ent;refine ⟨l,q4,xs,more,rfl,aW.hl,aX,(),λl2 YV Ds DT=>?_⟩;left;have YW:=aW.mono Ds;refine B7 (YW.with YW.hg P.gd P.w DT λz hz=>?_) rfl () () () h3 ?_ () λe2 r2 YX Fe a2 o2=>?_
   ·rcases F8 hz with hz | hz
    ·exact jt z hz
    ·exact P.hx z hz
   ·have:=F9 xs more;omega
   apply Ay ⟨⟩ ?_;left;have tP:=YW.mono Fe;refine B7 tP rfl () () () h3 () () λe3 r3 xJ jw a3 o3=>?_;left;intros p2 YY Ey Tz;have n1:=o1.np;have n2:=o2.np;have n3:=o3.np;have b3:=DI d (show dp (.ls kd)<=3 by simp only [dp];omega);refine q (.spl e1 e3 x y e2) _ _ (Jc.trans (s6.trans (Kf.trans (E7.trans (Ds.trans (Fe.trans (jw.trans Ey))))))) ⟨p2,r1,r3,r2,rfl,Tz,An.mono (TSub.of_same (s8.trans (jv.trans (s9.trans (Dr.trans (E7.trans (Ds.trans (Fe.trans (jw.trans Ey))))))))) a1,An.mono (TSub.of_same Ey) a3,An.mono (TSub.of_same (jw.trans Ey)) a2⟩ ⟨⟨o1.op,o3.op,o2.op⟩,?_,.spl Ox (.inl rfl) (by simp only [wk];omega) o1.ty o3.ty (o2.ty.mono (Nat.le_refl _) (Nat.le_refl _) (Hq gk (show ID (.ls kd) from gk) ju))⟩
   ·exact Xl (Nat.le_trans n1 b3) n2 n3
noncomputable def PB (H1:Hp)(Xo:List (Str × Kd))(d:Nat)(ka kb:Kd):Nat->List V->Hp->Prop
 | 0,ys,H'=>ys=[]/\A9 H1 H'
 | 1,ys,H'=>A9 H1 H'/\∃ e1 r1,ys=[r1]/\An H' e1 r1/\Qu Xo ka d (B d (dp ka)) e1
 | 2,ys,H'=>A9 H1 H'/\∃ e1 r1 e2 r2,ys=[r1,r2]/\An H' e1 r1/\Qu Xo ka d (B d (dp ka)) e1/\An H' e2 r2/\Qu Xo kb d (B d (dp kb)) e2
 | _,_,_=>False
theorem PB.same {H1:Hp}{Xo:List (Str × Kd)}{d:Nat}{ka kb:Kd}:∀ {i:Nat} {ys:List V} {H':Hp},PB H1 Xo d ka kb i ys H'->A9 H1 H'
 | 0,_,_,h=>h.2
 | 1,_,_,h=>h.1
 | 2,_,_,h=>h.1
 | _+3,_,_,h=>h.elim
theorem PB.len {H1:Hp}{Xo:List (Str × Kd)}{d:Nat}{ka kb:Kd}:∀ {i:Nat} {ys:List V} {H':Hp},PB H1 Xo d ka kb i ys H'->ys.length<=i
 | 0,_,_,h=>by rw [h.1];exact Nat.le_refl _
 | 1,_,_,⟨_,e1,r1,h,_⟩=>by rw [h];exact Nat.le_refl _
 | 2,_,_,⟨_,e1,r1,e2,r2,h,_⟩=>by rw [h];exact Nat.le_refl _
 | _+3,_,_,h=>h.elim
structure tQ (K:W.Frag)(H:Hp)(a:Addr)(ns:List Int)(g:Kd)(rg:V)(l:Addr)(xs:List (Str × Kd))(d n:Nat)(wl kl w1 w2:Addr)(o1 o2:Str)(ka kb:Kd)(ra rb:V):Prop where
 P:FE K H a ns g rg l xs
 hw:H wl=some (.dK [(.inr "number",.ref w1),(.inr "truth",.ref w2)])
 h1:H w1=some (.tup [.str "op",.str o1])
 h2:H w2=some (.tup [.str "op",.str o2])
 i1:Ex.abl o1
 i2:Ex.abl o2
 j1:Ti o1=.num
 j2:Ti o2=.tru
 hk:H kl=some (.lst [ra,rb])
 h3:Bi H ka ra
 h4:Bi H kb rb
 g1:ID ka
 g2:ID kb
 v1:wk ka<=3
 v2:wk kb<=3
 t1:sk ka+d<=15
 t2:sk kb+d<=15
 m1:max 3 (dp ka)+d<=8
 m2:max 3 (dp kb)+d<=8
 u1:mu d ka+1<=n
 u2:mu d kb+1<=n
 c:(g=.pr ka kb)\/(0 < d/\(g=.num\/g=.tru)/\ka=.num/\kb=.num)\/(0 < d/\g=.ls ka/\kb=g)
theorem fi {K:W.Frag}{n d:Nat}{H:Hp}{Q:VK}{E:XK}{a:Addr}{ns:List Int}{k:Int}{g:Kd}{rg:V}{l:Addr}{xs:List (Str × Kd)}(P:FE K H a ns g rg l xs)(hu:mu d g+1<=n)(h8:max 3 (dp g)+d<=8)(h3:d<=3)(O3:sk g+d<=15)(hx:xs.length+2 * n<=1002)
  (q:∀ e r H',A9 H H'->An H' e r->Qu xs g d (B d (dp g)) e->Q r H'):Ct K n [.ref a,.int k,rg,.ref l,.int d] H Q E:=by
 cases n with
 | zero=>omega
 | succ n=>exact ⟨a,ns,k,g,rg,l,xs,d,rfl,P,(),h8,.inl h3,O3,(),q⟩
theorem Cb:Am ["_law_script","_law_k","_law_goal","_law_names","_law_deep","_law_number","_law_a","_law_b","_law_inner","_law_words","_law_kinds","_law_pieces"] HZ (A6 Bw):=nofun
theorem O6 {n r:Nat}{f:Addr}{fd:FuncData}(F:C8 K "_law_built" "_law_built" Bw f fd)(BY:mg "list"=none)(AJ:mg "tuple"=none)(B5:mg "range"=none)(Xh:11<=r)
  (cM:Cl Pr w K mg base 2 "_law_mix" HG (D6 K)) (cN:Cl Pr w K mg base 1 "_law_name" ["_law_number"] E6) (cV:Cl Pr w K mg base 1 "_law_with" ["_law_names","_law_more"] FC) (cI:Cl Pr w K mg base 1 "_law_int" ["_law_number"] Hl)
  (cD:Cl Pr w K mg base r "_law_made" HZ (Ct K n)) :
  Av Pr w K mg base Bs (r+1) f fd HZ (Fd K n):=by
 refine F.okS Cb (λB9 A outer s H vs Q E hr h=>?_)
 ·obtain ⟨a,ns,k,g,rg,l,xs,d,j,rfl,P,fj,O3,RQ,Tp,h8,jx,hx,q⟩:=h;have Ox:=eV P.w (show sk g<=15 by omega);have jy:0 < d->j=d+1:=by omega
  have YT:d<=3:=by unfold Pb at jx;omega
  have HS:AG 2 _:=hr.mono ();have FZ:AG 1 _:=hr.mono ();have hu:=JO hr;have S:AZ (BQ Bs Pr w K mg base ["_law_script","_law_k","_law_goal","_law_names","_law_deep","_law_number","_law_a","_law_b","_law_inner","_law_words","_law_kinds","_law_pieces"] "_law_built" (A6 Bw) f B9 A outer s H E).nox (Bv (valueOf (inDef Bw 10))) [("_law_script",s.heap.objs.size+1),("_law_names",s.heap.objs.size+3),("_law_kinds",s.heap.objs.size+5),("_law_k",s.heap.objs.size+2),("_law_deep",s.heap.objs.size+4)] ["_law_j"] ["_law_script","_law_names","_law_kinds","_law_k","_law_deep"] [0,3,10,1,4] :=
   ⟨rfl,by decide +kernel,rfl,by decide +kernel,rfl,rfl,rfl,rfl⟩
  have HU:(["_law_j","_law_script","_law_names","_law_kinds","_law_k","_law_deep"]:List Str).Nodup:=by decide +kernel
  refine ⟨_,(A4 (Ah (i:=5) Cb.nd rfl (.inl rfl) (As cM HS rfl (A1 (A7 0) (A1 (Af Ar (A7 1) A3) A2))))
   (A4 (Ah (i:=6) Cb.nd rfl (.inl rfl) (As cN FZ rfl (A1 (Af AS (A7 5) A3) A2)))
   (A4 (Ah (i:=7) Cb.nd rfl (.inl rfl) (As cN FZ rfl (A1 (Af AS (A7 5) A3) A2)))
   (A4 (AB (Al Ao (eI 2) A8 (Ac _)) (A4 (Ah (i:=8) Cb.nd rfl (.inl rfl) (As cV FZ rfl (A1 (A7 3) (A1 (Az (A1 (Ae (A1 (A7 6) (A1 (eI 2) A2))) A2)) A2))))
   (A4 (AB (Gj (w_and (Al GF (A7 6) (A7 7) (Ac _)) (BH (Al Ao (Af Au (A7 5) A3) A3 (Ac _))))) (A4 (Ah (i:=8) Cb.nd rfl (.inl rfl) (As cV FZ rfl (A1 (A7 3) (A1 (Az (A1 (Ae (A1 (A7 7) (A1 (A7 2) A2))) (A1 (Ae (A1 (A7 6) (A1 (eI 2) A2))) A2))) A2))))
   (Ab (Ag (Ae (A1 A8 (A1 (A7 7) (A1 (A7 6) (A1 (As cD hr rfl (A1 (A7 0) (A1 (Af Ar (Af AR A3 (A7 1)) A3) (A1 (eI 2) (A1 (A7 8) (A1 (A7 4) A2)))))) A2)))))))) Ap)
   (Ab (Ag (Ae (A1 A8 (A1 (A7 6) (A1 (As cD hr rfl (A1 (A7 0) (A1 (Af Ar (Af AR A3 (A7 1)) A3) (A1 (eI 2) (A1 (A7 8) (A1 (A7 4) A2)))))) A2)))))))) Ap)
   (A4 (AB (Gj (w_and (Al Ao (eI 2) A8 (Ac _)) (BH (Gj (w_or (Al Ao (A7 4) A3 (Ac _)) (F0 (Al Ao (Af Au (A7 5) A3) A3 (Ac _)))))))) (Ab (Ag (Ae (A1 A8 A2)))) Ap)
   (A4 (AB (Gj (w_and (Al Ao (eI 2) A8 (Ac _)) (BH (Gj (w_or (Al Ao (A7 4) A3 (Ac _)) (F0 (Al Ao (Af Au (A7 5) A3) A3 (Ac _)))))))) (Ab (Ag (Ae (A1 A8 (A1 (As cI FZ rfl (A1 (Af AS (A7 5) A3) A2)) A2))))) Ap)
   (A4 (AB (Gj (w_and (Al Ao (eI 2) A8 (Ac _)) (BH (Gj (w_or (Al Ao (A7 4) A3 (Ac _)) (F0 (Al Ao (Af Au (A7 5) A3) A3 (Ac _)))))))) (Ab (Ag (Ae (A1 A8 (A1 (C1 Ao (Af Au (Af AS (A7 5) A3) A3) A3 (Ac _)) A2))))) Ap)
   (A4 (Ah (i:=9) Cb.nd rfl (.inl rfl) (D' (Bj A8 (Ae (A1 A8 (A1 (AH (r:=C3 K) AE (Az (A1 A8 (A1 A8 A2))) (Af Au (Af AS (A7 5) A3) A3) Br) A2))) (Bj A8 (Ae (A1 A8 (A1 (AH (r:=C3 K) AE (Az (A1 A8 (A1 A8 A2))) (Af Au (Af AS (A7 5) A3) A3) Br) A2))) FU)) rfl rfl (by simp) ⟨⟩))
   (A4 (Ah (i:=10) Cb.nd rfl (.inr rfl) (HK (Al Ao (eI 2) A8 (Ac _)) (Az (A1 (eI 2) (A1 (A7 2) A2))) (Bl Dv (by rfl) BY PyProof.Rows.boot_list (A1 (BV (r:=G0 K) D9 (A7 2) (BU A3) DZ) A2))))
   (A4 (AB (ah hu (eI 2) (A7 9)) (Ab (Ah (i:=10) Cb.nd rfl (.inr rfl) (Az (A1 (Ae (A1 A8 A2)) (A1 (Ae (A1 A8 A2)) A2))))) Ap)
   (A4 (Hc (i:=11) Cb.nd rfl (.inl rfl) (tt:=GU) (te:=CV (Ct K n) [] E0 (Be (B2 1) (Be (Fj (RH λi j=>.int (i+j)) (Fj (RH λi j=>.int (i+j)) (Fj (rI S9 λi j=>.int (i * j)) (tC (.int 3)) (B2 4)) (tC (.int 1))) (B2 0)) (Be (Fj (C3 K) (B2 3) (B2 0)) (Be (B2 2) (Be (B2 5) Fq)))))) S rfl (F1 rfl B5 (A1 A3 A2)) (λC s0 H0 ex=>AV (i:=0) HU rfl (.inl rfl)) (λC s0 H0 ex=>Ep) (λC s0 H0 ex=>As cD hr rfl (A1 (A7 1) (A1 (Af Ar (Af Ar (Af AR A3 (A7 4)) A3) (A7 0)) (A1 (AH AE (A7 3) (A7 0) Br) (A1 (A7 2) (A1 (A7 5) A2)))))))
   (Ab (Ag (Af (r:=FQ K) EV (Gk hu (A7 9) (eI 2) (Ae (A1 (Gk hu (D' (Bj A8 A8 FU) rfl rfl (by simp) ⟨⟩) (eI 2) A8 ⟨rfl,rfl,rfl,rfl⟩) A2)) ⟨rfl,rfl,rfl,rfl⟩) (Bl C7 (by rfl) AJ PyProof.Rows.boot_tuple (A1 (A7 11) A2)))))))))))))))),?_⟩
  refine NU (fun σ' H'=>∃ (m:Int) (x y:V) (o:Option V) (wl kl w1 w2:Addr) (o1 o2:Str) (ka kb:Kd) (ra rb:V),σ'=[some (.ref a),some (.int k),some rg,some (.ref l),some (.int d),some (.int m),some x,some y,o,some (.ref wl),some (.ref kl),none]/\A9 H H'/\tQ K H' a ns g rg l xs d n wl kl w1 w2 o1 o2 ka kb ra rb) ?_ λxK fin=>?_
  ·rintro σ' H1 ⟨m,x,y,o,wl,kl,w1,w2,o1,o2,ka,kb,ra,rb,rfl,tR,T⟩;apply ⟨2,rfl,⟨⟩,⟨⟩,?_⟩;refine K6 (n:=2) (PB H1 xs d ka kb) ⟨rfl,A9.refl _⟩ (by exact BW ⟨⟩) (λi ys H' z=>z.len) rfl (λi ys H2 hi z=>?_) (λys H2 z=>?_)
   ·have s2:=z.same;have P2:=T.P.mono s2;have YM:=s2 _ _ T.hk;have t2:=TSub.of_same s2;apply C5 ?_;left;cases i with
    | zero =>
     refine Cj (AI.of YM) (v:=ra) rfl ?_;apply fi (P2.with (Bi.mono t2 T.h3) T.g1 T.v1 P2.hl P2.hx) T.u1 T.m1 YT T.t1 () λe r H3 s3 ha ho=>?_;refine Nx.mk ⟨⟩ ⟨s2.trans s3,e,r,by rw [z.1];rfl,ha,ho⟩
    | succ i=>cases i with
     | zero =>
      obtain ⟨_,e1,r1,rfl,z2,z3⟩:=z;refine Cj (AI.of YM) (v:=rb) rfl ?_;apply fi (P2.with (Bi.mono t2 T.h4) T.g2 T.v2 P2.hl P2.hx) T.u2 T.m2 YT T.t2 () λe r H3 s3 ha ho=>?_;refine Nx.mk ⟨⟩ ⟨s2.trans s3,e1,r1,e,r,rfl,An.mono (TSub.of_same s3) z2,z3,ha,ho⟩
     | succ i=>omega
   ·obtain ⟨Ds,e1,r1,e2,r2,rfl,a1,k1,a2,k2⟩:=z;intros pl H3 s3 e3;left;have Fe:=Ds.trans s3;have aY:=Fe _ _ T.hw;have cO:=k1.op;have n1:=k1.np;have n2:=k2.np;refine ⟨wl,rfl,.inl ⟨_,.inl aY⟩,?_⟩;have xM:B d (dp ka)<=B d (dp g)/\B d (dp kb)<=B d (dp g):=by
     rcases T.c with h | ⟨_,h | h,h1,h2⟩ | ⟨_,h,h1⟩
     ·subst h;exact ⟨DI d (by simp only [dp];omega),DI d (by simp only [dp];omega)⟩
     ·subst h h1 h2;exact ⟨Nat.le_refl _,Nat.le_refl _⟩
     ·subst h h1 h2;exact ⟨Nat.le_refl _,Nat.le_refl _⟩
     ·subst h1 h;exact ⟨DI d (by simp only [dp];omega),Nat.le_refl _⟩
    have YZ:(0 < d\/g=.pr ka kb)->∀ e:Ex,e.kn<=1+max e1.kn e2.kn->e.kn<=Bb d (dp g):=by
     intro hd e h1;cases d with
     | zero =>
      rcases hd with hd | hd
      ·omega
      ·subst hd;simp only [B,cc] at n1 n2;simp only [Bb,dp];omega
     | succ d=>simp only [Bb];omega
    have OG:0 < d\/g=.pr ka kb:=by
     rcases T.c with h | ⟨h,_⟩ | ⟨h,_⟩
     ·exact .inr h
     ·exact .inl h
     ·exact .inl h
    have last:∀ (H4:Hp) (pw:Addr) (ws:List V) (e:Ex),A9 H3 H4->H4 pw=some (.tup ws)->ws≠[]->ws.length<=2->(∀ H5 p,A9 H4 H5->H5 p=some (.tup (ws++[r1,r2]))->An H5 e (.ref p))->Qu xs g j (Bb d (dp g)) e ->
      Wa (λxs H Q=>∃ p ys,xs=[.ref p]/\((AI K H p ys/\∀ l,H l=none->Q (.ref l) (upd H l (.tup ys)))\/(B0 K H p ys/\Q (.ref p) H))) (Be (B2 11) Fq) [some (.ref a),some (.int k),some rg,some (.ref l),some (.int d),some (.int m),some x,some y,o,some (.ref wl),some (.ref kl),some (.ref pl)] H4 λy' H5=>FQ K (.ref pw) y' H5 Q:=by
     intro H4 pw ws e s4 hw Oy QI he hok;apply ⟨pl,_,rfl,.inl ⟨AI.of (s4 _ _ e3),λp hp=>?_⟩⟩;have s5:A9 H4 (upd H4 p (.tup [r1,r2])):=A9.new hp;refine F7 (B0.of (s5 _ _ hw)) (B0.of Aa) Oy (Cf (by simp;omega)) (λz=>by cases z) λp6 H6 _ s6 e6=>?_;exact q e _ H6 (tR.trans (Fe.trans (s4.trans (s5.trans s6)))) (he H6 p6 (s5.trans s6) e6) hok
    have mE:∀ {H5:Hp},A9 H3 H5->An H5 e1 r1/\An H5 e2 r2:=λh=>⟨An.mono (TSub.of_same (s3.trans h)) a1,An.mono (TSub.of_same (s3.trans h)) a2⟩;have cs:∃ (pg:Addr) (wd:Str) (us:List V) (z1:V) (o2:Option Addr) (ws:List V) (e:Ex),rg=.ref pg/\H3 pg=some (.tup (.str wd::us))/\(AW [(.inr "pair",V.str "pair")] (Sum.inr wd:Key)).getD (.str "link")=z1/\AW [(.inr "number",V.ref w1),(.inr "truth",V.ref w2)] (Sum.inr wd:Key)=o2.map V.ref /\
      (o2=none->ws=[z1])/\(∀ p,o2=some p->H3 p=some (.tup ws))/\ws≠[]/\ws.length<=2/\(∀ H5 p,A9 H3 H5->H5 p=some (.tup (ws++[r1,r2]))->An H5 e (.ref p))/\Qu xs g j (Bb d (dp g)) e:=by
     have hG:=Bi.mono (TSub.of_same Fe) T.P.hg;have b:=YZ OG;rcases T.c with h | ⟨d0,h | h,h1,h2⟩ | ⟨d0,h,h1⟩
     ·subst h;obtain ⟨pg,ga,gb,rfl,hg,_⟩:=hG;have b:=b (.pr e1 e2) (by show 1+max e1.kn e2.kn<=_;omega);exact ⟨pg,_,_,.str "pair",none,[.str "pair"],.pr e1 e2,rfl,hg,rfl,rfl,λ_=>rfl,λp z=>(by cases z),by simp,by simp,λH5 p s5 h5=>⟨p,r1,r2,rfl,h5,mE s5⟩,⟨⟨k1.op,k2.op⟩,b,.pr Ox (.inl rfl) (λ_ z=>by cases z) (fj▸k1.ty) (fj▸k2.ty)⟩⟩
     ·subst h;obtain ⟨pg,rfl,hg⟩:=hG;have b:=b (.op o1 e1 e2) (by show 1+max e1.kn e2.kn<=_;omega);exact ⟨pg,_,_,.str "link",some w1,[.str "op",.str o1],.op o1 e1 e2,rfl,hg,rfl,rfl,λz=>(by cases z),λp z=>(by cases z;exact Fe _ _ T.h1),by simp,by simp,λH5 p s5 h5=>⟨p,r1,r2,rfl,h5,mE s5⟩,⟨⟨T.i1,k1.op,k2.op⟩,b,jy d0▸.op (.inl T.j1.symm) (.inl h1) (.inl h2) k1.ty k2.ty⟩⟩
     ·subst h;obtain ⟨pg,rfl,hg⟩:=hG;have b:=b (.op o2 e1 e2) (by show 1+max e1.kn e2.kn<=_;omega);exact ⟨pg,_,_,.str "link",some w2,[.str "op",.str o2],.op o2 e1 e2,rfl,hg,rfl,rfl,λz=>(by cases z),λp z=>(by cases z;exact Fe _ _ T.h2),by simp,by simp,λH5 p s5 h5=>⟨p,r1,r2,rfl,h5,mE s5⟩,⟨⟨T.i2,k1.op,k2.op⟩,b,jy d0▸.op (.inl T.j2.symm) (.inl h1) (.inl h2) k1.ty k2.ty⟩⟩
     ·subst h;obtain ⟨pg,ga,rfl,hg,_⟩:=hG;have b:=b (.lk e1 e2) (by show 1+max e1.kn e2.kn<=_;omega);exact ⟨pg,_,_,.str "link",none,[.str "link"],.lk e1 e2,rfl,hg,rfl,rfl,λ_=>rfl,λp z=>(by cases z),by simp,by simp,λH5 p s5 h5=>⟨p,r1,r2,rfl,h5,mE s5⟩,⟨⟨k1.op,k2.op⟩,b,jy d0▸.lk Ox (.inl rfl) k1.ty (h1▸k2.ty)⟩⟩
    obtain ⟨pg,wd,us,z1,tS,ws,e,rfl,hg,hz,ho,tT,YQ,Oy,QI,pF,hok⟩:=cs;apply A5 hg (v:=.str wd) (Ad (j:=0) rfl) ?_;apply D2 λp4 H4 aZ s4 e4=>?_;apply ⟨e4,[(.inr "pair",.str "pair")],rfl,⟨⟩,λH5 o5 e5=>?_⟩;have pG:A9 H3 H5:=λb o hb=>by
     have RS:b≠p4:=λz=>(by rw [z,aZ] at hb;cases hb);rw [o5 b RS];exact s4 _ _ hb
    refine ⟨p4,rfl,.inl ⟨_,.inl e5⟩,?_⟩;apply A5 (pG _ _ hg) (v:=.str wd) (Ad (j:=0) rfl) ?_;apply ⟨_,Dc.k (k:=.inr wd) e5,?_⟩;have Y':(AW (Bd [] [(Sum.inr "pair",V.str "pair")]) (Sum.inr wd:Key)).getD (.str "link")=z1:=hz;left;rw [Y'];intros p6 H6 s6 e6;have Z0:=pG.trans s6;refine ⟨_,Dc.k (k:=.inr wd) (Z0 _ _ aY),?_⟩;rw [ho];cases tS with
    | none=>exact last H6 p6 ws e Z0 (by rw [tT rfl];exact e6) Oy QI (λH5 p s5 h5=>pF H5 p (Z0.trans s5) h5) hok
    | some p7=>exact last H6 p7 ws e Z0 (Z0 _ _ (YQ p7 rfl)) Oy QI (λH5 p s5 h5=>pF H5 p (Z0.trans s5) h5) hok
  ·apply ⟨a,ns,_,rfl,P.hs,λm hm=>?_⟩;apply ⟨_,rfl,λx H1 s1=>?_⟩;apply ⟨_,rfl,λy H2 s2=>?_⟩;have By:=s1.trans s2;have P2:=P.mono By;obtain ⟨pg,us,rfl,hg,_⟩:=Bi.look P2.hg;have rest:(∃ g1 g2,g=.fn g1 g2)\/word g="number"\/word g="truth"\/word g="pair"\/word g="list":=by
    have:=P.gd;cases g with
    | num=>exact .inr (.inl rfl)
    | tru=>exact .inr (.inr (.inl rfl))
    | gap i=>exact this.elim
    | fn a b=>exact .inl ⟨a,b,rfl⟩
    | pr a b=>exact .inr (.inr (.inr (.inl rfl)))
    | ls a=>exact .inr (.inr (.inr (.inr rfl)))
   refine C9 (fun σ' H'=>(word g="number"\/word g="truth"\/word g="pair"\/word g="list")/\σ'=[some (.ref a),some (.int k),some (.ref pg),some (.ref l),some (.int d),some (.int m),some (.str x),some (.str y),none,none,none,none]/\H'=H2) ?_ λN0 Xp=>?_
   ·rintro _ _ ⟨rest,rfl,rfl⟩;refine Qo (fun σ' H'=>σ'=[some (.ref a),some (.int k),some (.ref pg),some (.ref l),some (.int d),some (.int m),some (.str x),some (.str y),none,none,none,none]/\A9 H H'/\(d=0->∃ a b,g=.pr a b)) ?_ λN3 fin2=>?_
    ·rintro σ' H3 ⟨rfl,DO,hd⟩;apply D2 λp4 H4 aZ s4 e4=>?_;left;intros l1 H5 s5 e5;apply BD (AI.of e5) (Int.emod_nonneg _ ⟨⟩) (Int.emod_lt_of_pos _ ⟨⟩) λv1 eC=>?_;left;intros w1 H6 s6 e6;left;intros l2 H7 s7 e7;apply BD (AI.of e7) (Int.emod_nonneg _ ⟨⟩) (Int.emod_lt_of_pos _ ⟨⟩) λv2 pH=>?_;left;intros w2 H8 s8 e8;left;have fk:=s5.trans (s6.trans (s7.trans s8));refine ⟨fk _ _ e4,[(.inr "number",.ref w1),(.inr "truth",.ref w2)],rfl,Nat.le_of_ble_eq_true rfl,λH9 o9 e9=>?_⟩;have pI:A9 H3 H9:=λb o hb=>by
      have RS:b≠p4:=λz=>(by rw [z,aZ] at hb;cases hb);rw [o9 b RS];exact fk _ _ (s4 _ _ hb)
     have ow:∀ b o,H8 b=some o->b≠p4->H9 b=some o:=λb o hb Oy=>(by rw [o9 b Oy];exact hb);have fq:H9 w1=some (.tup [.str "op",v1]):=ow _ _ (s8 _ _ (s7 _ _ e6)) (λz=>by have h1:=s8 _ _ (s7 _ _ e6);have h2:=fk _ _ e4;rw [z,h2] at h1;cases h1);have fu:H9 w2=some (.tup [.str "op",v2]):=ow _ _ e8 (λz=>by have h1:=e8;have h2:=fk _ _ e4;rw [z,h2] at h1;cases h1);obtain ⟨o1,rfl,fw,fz⟩:∃ o1,v1=.str o1/\Ex.abl o1/\Ti o1=.num:=by
      simp only [List.mem_cons,List.not_mem_nil,or_false] at eC;rcases eC with rfl | rfl
      ·exact ⟨_,rfl,.inl rfl,⟨⟩⟩
      ·exact ⟨_,rfl,.inr (.inl rfl),⟨⟩⟩
     obtain ⟨o2,rfl,fA,fB⟩:∃ o2,v2=.str o2/\Ex.abl o2/\Ti o2=.tru:=by
      simp only [List.mem_cons,List.not_mem_nil,or_false] at pH;rcases pH with rfl | rfl
      ·exact ⟨_,rfl,.inr (.inr (.inl rfl)),⟨⟩⟩
      ·exact ⟨_,rfl,.inr (.inr (.inr rfl)),⟨⟩⟩
     left;have P9:=P.mono (DO.trans pI);have fD:=DO.trans pI;cases g with
     | gap i=>exact P.gd.elim
     | fn a b=>exact (by rcases rest with h | h | h | h <;> exact absurd (show (Str.ofString "fun")=_ from h) ⟨⟩)
     | ls ka =>
      obtain ⟨p0,ga,e0,JB,aE⟩:=P9.hg;cases e0;refine A5 JB (v:=.str "list") rfl ?_;apply AK (decide_eq_true rfl) ?_;apply A5 JB (v:=ga) rfl ?_;left;intros kl L0 Dr Ke;apply A5 (Dr _ _ JB) (v:=.str "list") rfl ?_;apply ⟨p4,_,rfl,Dc.k (k:=.inr "list") (Dr _ _ e9),?_⟩;apply Ay (by show ¬ (false=true);decide) ?_;have d0:0 < d:=Nat.pos_of_ne_zero λz=>(by obtain ⟨_,_,h⟩:=hd z;cases h);have h1:=Tp d0;have dk:dp (Kd.ls ka)=dp ka+1:=rfl;refine fin _ _ ⟨m,.str x,.str y,none,p4,kl,w1,w2,o1,o2,ka,.ls ka,ga,.ref pg,rfl,fD.trans Dr,P9.mono Dr,Dr _ _ e9,Dr _ _ fq,Dr _ _ fu,fw,fA,fz,fB,Ke,Bi.mono (TSub.of_same Dr) aE,Bi.mono (TSub.of_same Dr) P9.hg,P.gd,P.gd,by have:=P.w;simp only [wk] at this;omega,P.w,by simp only [sk] at O3;omega,(),(),(),?_,?_,.inr (.inr ⟨d0,rfl,rfl⟩)⟩
      ·cases d with
       | zero=>omega
       | succ d=>simp only [mu];omega
      ·cases d with
       | zero=>omega
       | succ d=>simp only [mu];omega
     | pr ka kb =>
      obtain ⟨p0,ga,gb,e0,JB,aE,oX⟩:=P9.hg;cases e0;refine A5 JB (v:=.str "pair") rfl ?_;apply Ay ⟨⟩ ?_;apply Ck (B0.of JB) (λz=>absurd (show (1:Nat)=0 from z.1) ⟨⟩) λp5 L0 _ Dr Ke=>?_;apply ⟨p5,_,rfl,.inr (B0.of Ke),λkl hl=>?_⟩;have E7:A9 L0 (upd L0 kl (.lst (Dj [.str "pair",ga,gb] (some 1) none))):=A9.new hl;have Jb:(upd L0 kl (.lst (Dj [.str "pair",ga,gb] (some 1) none))) kl=some (.lst [ga,gb]):=Aa;generalize (upd L0 kl (.lst (Dj [.str "pair",ga,gb] (some 1) none)))=O5 at E7 Jb ⊢;have E8:=Dr.trans E7;apply A5 (E8 _ _ JB) (v:=.str "pair") rfl ?_;apply ⟨p4,_,rfl,Dc.k (k:=.inr "pair") (E8 _ _ e9),?_⟩;apply Ay (by show ¬ (false=true);decide) ?_;have dk:dp (Kd.pr ka kb)=max (dp ka) (dp kb)+1:=rfl;refine fin _ _ ⟨m,.str x,.str y,none,p4,kl,w1,w2,o1,o2,ka,kb,ga,gb,rfl,fD.trans E8,P9.mono E8,E8 _ _ e9,E8 _ _ fq,E8 _ _ fu,fw,fA,fz,fB,Jb,Bi.mono (TSub.of_same E8) aE,Bi.mono (TSub.of_same E8) oX,P.gd.1,P.gd.2,by have:=P.w;simp only [wk] at this;omega,by have:=P.w;simp only [wk] at this;omega,by simp only [sk] at O3;omega,by simp only [sk] at O3;omega,(),(),?_,?_,.inl rfl⟩
      ·cases d with
       | zero=>have:=RQ rfl;simp only [mu];omega
       | succ d=>have:=Tp (Nat.succ_pos _);simp only [mu];omega
      ·cases d with
       | zero=>have:=RQ rfl;simp only [mu];omega
       | succ d=>have:=Tp (Nat.succ_pos _);simp only [mu];omega
     | num =>
      obtain ⟨p0,e0,JB⟩:=P9.hg;cases e0;refine A5 JB (v:=.str "number") rfl ?_;apply Ay ⟨⟩ ?_;apply Ck (B0.of JB) (λz=>absurd (show (1:Nat)=0 from z.1) ⟨⟩) λp5 L0 _ Dr Ke=>?_;apply ⟨p5,_,rfl,.inr (B0.of Ke),λkl hl=>?_⟩;have E7:=A9.new (o:=.lst (Dj [.str "number"] (some 1) none)) hl;generalize upd L0 kl (.lst (Dj [.str "number"] (some 1) none))=O5 at E7 ⊢;have E8:=Dr.trans E7;apply A5 (E8 _ _ JB) (v:=.str "number") rfl ?_;apply ⟨p4,_,rfl,Dc.k (k:=.inr "number") (E8 _ _ e9),?_⟩;apply AK rfl ?_;left;intros q1 YV Ds RP;left;intros q2 YX Fe Z1;left;intros q3 YY Ey Tz;have Hr:=E8.trans (Ds.trans (Fe.trans Ey));have d0:0 < d:=Nat.pos_of_ne_zero λz=>(by obtain ⟨_,_,h⟩:=hd z;cases h);have h1:=Tp d0;have dk:dp Kd.num=0:=rfl;refine fin _ _ ⟨m,.str x,.str y,none,p4,q3,w1,w2,o1,o2,.num,.num,.ref q1,.ref q2,rfl,fD.trans Hr,P9.mono Hr,Hr _ _ e9,Hr _ _ fq,Hr _ _ fu,fw,fA,fz,fB,Tz,⟨q1,rfl,Ey _ _ (Fe _ _ RP)⟩,⟨q2,rfl,Ey _ _ Z1⟩,trivial,trivial,by simp [wk],by simp [wk],by simp only [sk];omega,by simp only [sk];omega,(),(),?_,?_,.inr (.inl ⟨d0,.inl rfl,rfl,rfl⟩)⟩
      ·cases d with
       | zero=>omega
       | succ d=>simp only [mu];omega
      ·cases d with
       | zero=>omega
       | succ d=>simp only [mu];omega
     | tru =>
      obtain ⟨p0,e0,JB⟩:=P9.hg;cases e0;refine A5 JB (v:=.str "truth") rfl ?_;apply Ay ⟨⟩ ?_;apply Ck (B0.of JB) (λz=>absurd (show (1:Nat)=0 from z.1) ⟨⟩) λp5 L0 _ Dr Ke=>?_;apply ⟨p5,_,rfl,.inr (B0.of Ke),λkl hl=>?_⟩;have E7:=A9.new (o:=.lst (Dj [.str "truth"] (some 1) none)) hl;generalize upd L0 kl (.lst (Dj [.str "truth"] (some 1) none))=O5 at E7 ⊢;have E8:=Dr.trans E7;apply A5 (E8 _ _ JB) (v:=.str "truth") rfl ?_;apply ⟨p4,_,rfl,Dc.k (k:=.inr "truth") (E8 _ _ e9),?_⟩;apply AK rfl ?_;left;intros q1 YV Ds RP;left;intros q2 YX Fe Z1;left;intros q3 YY Ey Tz;have Hr:=E8.trans (Ds.trans (Fe.trans Ey));have d0:0 < d:=Nat.pos_of_ne_zero λz=>(by obtain ⟨_,_,h⟩:=hd z;cases h);have h1:=Tp d0;have dk:dp Kd.num=0:=rfl;have xN:dp Kd.tru=0:=rfl;refine fin _ _ ⟨m,.str x,.str y,none,p4,q3,w1,w2,o1,o2,.num,.num,.ref q1,.ref q2,rfl,fD.trans Hr,P9.mono Hr,Hr _ _ e9,Hr _ _ fq,Hr _ _ fu,fw,fA,fz,fB,Tz,⟨q1,rfl,Ey _ _ (Fe _ _ RP)⟩,⟨q2,rfl,Ey _ _ Z1⟩,trivial,trivial,by simp [wk],by simp [wk],by simp only [sk];omega,by simp only [sk];omega,(),(),?_,?_,.inr (.inl ⟨d0,.inr rfl,rfl,rfl⟩)⟩
      ·cases d with
       | zero=>omega
       | succ d=>simp only [mu];omega
      ·cases d with
       | zero=>omega
       | succ d=>simp only [mu];omega
    ·apply A5 hg (v:=.str (word g)) (Ad (j:=0) rfl) ?_;left;have ne:∀ j:Int,¬ decide (V.int d=V.int j)=true->(d:Int)≠j:=λj h z=>h (decide_eq_true (by rw [z]));have pJ:word g="number"\/word g="truth"\/word g="pair"->∀ {A B:Prop},B->if decide (V.str (word g)=V.str "list")=true then A else B:=λh A B hB=>Ay (by rcases h with h | h | h <;> rw [h] <;> decide) hB
     cases g with
     | gap i=>exact P.gd.elim
     | fn a b=>exact (by rcases rest with h | h | h | h <;> exact absurd (show (Str.ofString "fun")=_ from h) ⟨⟩)
     | ls ka =>
      refine AK (decide_eq_true rfl) ?_;apply YK ?_ λh1 emp=>?_
      ·left;intros p3 H3 s3 e3;exact q .emp _ _ (By.trans s3) ⟨p3,rfl,e3⟩ ⟨trivial,Nat.zero_le _,.emp Ox (.inl rfl)⟩
      ·apply C6 (λ_=>emp) λ_=>?_;apply A5 hg (v:=.str "list") (Ad (j:=0) rfl) ?_;apply Ay ⟨⟩ (BG ?_);apply A5 hg (v:=.str "list") (Ad (j:=0) rfl) ?_;apply Ay ⟨⟩ (BG ?_);exact fin2 _ _ ⟨rfl,By,λz=>absurd (ne 0 h1) (by simp [z])⟩
     | pr ka kb =>
      refine Ay (show ¬ decide (V.str "pair"=V.str "list")=true by decide) (BG ?_);apply A5 hg (v:=.str "pair") (Ad (j:=0) rfl) ?_;apply Ay ⟨⟩ (BG ?_);apply A5 hg (v:=.str "pair") (Ad (j:=0) rfl) ?_;apply Ay ⟨⟩ (BG ?_);exact fin2 _ _ ⟨rfl,By,λz=>⟨_,_,rfl⟩⟩
     | num =>
      refine Ay ⟨⟩ (BG ?_);apply A5 hg (v:=.str "number") (Ad (j:=0) rfl) ?_;apply AK (decide_eq_true rfl) ?_;apply YK ?_ λh1 emp=>?_
      ·apply ⟨_,rfl,λi H3 s3=>?_⟩;left;intros p3 H4 s4 e4;exact q (.num i) _ _ (By.trans (s3.trans s4)) ⟨p3,rfl,e4⟩ ⟨trivial,Nat.zero_le _,.num _ (.inl rfl)⟩
      ·apply C6 (λ_=>emp) λ_=>?_;apply A5 hg (v:=.str "number") (Ad (j:=0) rfl) ?_;apply Ay ⟨⟩ (BG ?_);exact fin2 _ _ ⟨rfl,By,λz=>absurd (ne 0 h1) (by simp [z])⟩
     | tru =>
      refine Ay ⟨⟩ (BG ?_);apply A5 hg (v:=.str "truth") (Ad (j:=0) rfl) ?_;apply Ay ⟨⟩ (BG ?_);apply A5 hg (v:=.str "truth") (Ad (j:=0) rfl) ?_;apply AK (decide_eq_true rfl) ?_;apply YK ?_ λh1 emp=>?_
      ·left;intros p3 H4 s4 e4;exact q (.tru _) _ _ (By.trans s4) ⟨p3,rfl,e4⟩ ⟨trivial,Nat.zero_le _,.tru _ (.inl rfl)⟩
      ·apply C6 (λ_=>emp) λ_=>?_;exact fin2 _ _ ⟨rfl,By,λz=>absurd (ne 0 h1) (by simp [z])⟩
   ·apply A5 hg (v:=.str (word g)) (Ad (j:=0) rfl) ?_;left;rcases rest with ⟨g1,g2,rfl⟩ | rest
    ·refine AK (decide_eq_true rfl) ?_;obtain ⟨p0,r1,r2,e0,JB,Xq,YM⟩:=P2.hg;cases e0;apply A5 JB (v:=r1) rfl ?_;left;intros q1 H3 s3 e3;left;intros q2 H4 s4 e4;left;have Kg:=s3.trans s4;have P4:=P2.mono Kg;have dk:dp (Kd.fn g1 g2)=max (dp g1) (dp g2)+1:=rfl;have U':mu d g2+1<=n:=by
      cases d with
      | zero=>have:=RQ rfl;simp only [mu];omega
      | succ d=>have:=Tp (Nat.succ_pos _);simp only [mu];omega
     have pL:∀ e0:Ex,e0.kn<=B d (dp g2)->e0.kn<=29:=by
      intro e0 h0;unfold Pb at jx;rcases jx with h | ⟨h,h'⟩
      ·have gG:cc d<=12:=by
        rcases d with _ | _ | _ | d
        ·simp [cc]
        ·simp [cc]
        ·simp [cc]
        ·omega
       simp only [B] at h0;omega
      ·subst h;simp only [B,cc] at h0;omega
     have YZ:∀ (e0 e:Ex),e0.kn<=B d (dp g2)->e.kn=1+e0.kn->e.kn<=Bb d (dp (.fn g1 g2)):=by
      intro e0 e h1 h3;cases d with
      | zero=>simp only [B,cc] at h1;simp only [Bb,dp];omega
      | succ d=>simp only [Bb,B,dp] at *;omega
     have w2:wk g2<=3:=(by have:=P.w;simp only [wk] at this;omega);have pM:sk g2+d<=15:=(by simp only [sk] at O3;omega);refine ⟨l,q2,xs,[(x,g1)],rfl,P4.hl,⟨_,e4,.cons ⟨q1,r1,rfl,s4 _ _ e3,Bi.mono (TSub.of_same Kg) Xq⟩ .nil⟩,by simp;omega,λl2 H5 s5 DT=>?_⟩;left;have P5:=P4.mono s5;have b0:=Bi.mono (TSub.of_same (Kg.trans s5)) YM;have jz:=Bi.mono (TSub.of_same (Kg.trans s5)) Xq;have jA:=s5 _ _ (Kg _ _ JB);refine WS ?_ λOy other=>?_
     ·apply A5 jA (v:=r2) rfl ?_;apply fi (P5.with b0 P.gd.2 w2 DT λz hz=>?_) U' () YT pM ?_ λe2 jB H6 s6 a2 o2=>?_
      ·rcases F8 hz with hz | hz
       ·rw [List.mem_singleton.mp hz];show dp g1<=8;omega
       ·exact P.hx z hz
      ·have:=F9 xs [(x,g1)];simp at this;omega
      left;intros p7 H7 s7 e7;have b:=YZ e2 (.fn x e2) o2.np rfl;refine q (.fn x e2) _ _ (By.trans (Kg.trans (s5.trans (s6.trans s7)))) ⟨p7,jB,rfl,e7,An.mono (TSub.of_same s7) a2⟩ ⟨⟨o2.op,pL e2 o2.np⟩,b,.fn Ox (.inl rfl) (λ_ z=>by cases z) (fj▸o2.ty.mono (Nat.le_refl _) (Nat.le_refl _) (O4 P.gd.1))⟩
     ·apply C6 (λ_=>?_) λ_=>other;left;intros q3 H6 s6 e6;apply A5 (s6 _ _ jA) (v:=r1) rfl ?_;left;intros q4 H7 s7 e7;left;intros q5 H8 s8 e8;left;have b7:=s6.trans (s7.trans s8);have P8:=P5.mono b7;refine ⟨l,q5,xs,[(y,.fn g1 g2),(x,g1)],rfl,P8.hl,⟨_,e8,.cons ⟨q3,.ref pg,rfl,s8 _ _ (s7 _ _ e6),P8.hg⟩ (.cons ⟨q4,r1,rfl,s8 _ _ e7,Bi.mono (TSub.of_same b7) jz⟩ .nil)⟩,by simp;omega,λl3 H9 s9 RO=>?_⟩;left;have P9:=P8.mono s9;refine A5 (s9 _ _ (b7 _ _ jA)) (v:=r2) rfl ?_;apply fi (P9.with (Bi.mono (TSub.of_same (b7.trans s9)) b0) P.gd.2 w2 RO λz hz=>?_) U' () YT pM ?_ λe2 jB L0 Dr a2 o2=>?_
      ·rcases F8 hz with hz | hz
       ·simp only [List.mem_cons,List.not_mem_nil,or_false] at hz;rcases hz with rfl | rfl
        ·show dp (Kd.fn g1 g2)<=8;omega
        ·show dp g1<=8;omega
       ·exact P.hx z hz
      ·have:=F9 xs [(y,.fn g1 g2),(x,g1)];simp at this;omega
      left;intros p7 O5 E7 Jb;have b:=YZ e2 (.rc y x e2) o2.np rfl;refine q (.rc y x e2) _ _ (By.trans (Kg.trans (s5.trans (b7.trans (s9.trans (Dr.trans E7)))))) ⟨p7,jB,rfl,Jb,An.mono (TSub.of_same E7) a2⟩ ⟨⟨o2.op,pL e2 o2.np⟩,b,.rc Ox (.inl rfl) (λ_ z=>by cases z) (fj▸o2.ty.mono (Nat.le_refl _) (Nat.le_refl _) (Hq P.gd P.gd.1 (.inr ⟨λz=>by subst z;simp at Oy,rfl⟩)))⟩
    ·refine Ay (by rcases rest with h | h | h | h <;> rw [h] <;> decide) ?_;exact Xp _ _ ⟨rest,rfl,rfl⟩
noncomputable def ba:Nat->Nat
 | 0=>0
 | n+1=>1+2 * ba n
theorem pN {n:Nat}(h:n<=3):ba n<=29:=by
 rcases n with _ | _ | _ | _ | n <;> first | decide | omega
noncomputable def Xr (xs:List Str):Gm:=λy t=>y∈xs/\t=dy
theorem Oz:FY dy:=⟨⟨⟩,⟨⟩⟩
theorem QJ {xs:List Str}{x:Str}:(Xr (xs++[x])).Le ((Xr xs).put x (·=dy)):=λy t ⟨h,e⟩=>by
 simp only [Gm.put];split
 ·exact e
 ·rename_i n;rcases List.mem_append.mp h with h | h
  ·exact ⟨h,e⟩
  ·exact absurd (List.mem_singleton.mp h) n
theorem b8 {xs:List Str}{x y:Str}:(Xr (xs++[x,y])).Le (((Xr xs).put x (·=dy)).put y (·=dy)):=λz t h=>by
 rw [show xs++[x,y]=(xs++[x])++[y] by simp] at h;exact QJ.put y _ z t (QJ z t h)
structure Z2 (xs:List Str)(n:Nat)(e:Ex):Prop where
 op:e.opj 29
 np:e.kn<=ba n
 ty:Cs 16 n (Xr xs) e dy
theorem Z2.w1 {xs:List Str}{n:Nat}{e:Ex}{x:Str}(h:Z2 (xs++[x]) n e):Cs 16 n ((Xr xs).put x (·=dy)) e dy:=h.ty.mono (Nat.le_refl _) (Nat.le_refl _) QJ
theorem Z2.w2 {xs:List Str}{n:Nat}{e:Ex}{x y:Str}(h:Z2 (xs++[x,y]) n e):Cs 16 n (((Xr xs).put x (·=dy)).put y (·=dy)) e dy:=h.ty.mono (Nat.le_refl _) (Nat.le_refl _) b8
theorem kf {n a:Nat}(h:a<=ba n):1+a<=ba (n+1):=by simp only [ba];omega
theorem kl {n a b:Nat}(h:a<=ba n)(g:b<=ba n):1+a+b<=ba (n+1):=by simp only [ba];omega
theorem km {n a b:Nat}(h:a<=ba n)(g:b<=ba n):1+max a b<=ba (n+1):=by simp only [ba];omega
theorem kw {n a b c:Nat}(h:a<=ba n)(g:b<=ba n)(k:c<=ba n):1+max a (max b c)<=ba (n+1):=by simp only [ba];omega
theorem ks {n a b c:Nat}(h:a<=ba n)(g:b<=ba n)(k:c<=ba n):1+max b (a+c)<=ba (n+1):=by simp only [ba];omega
noncomputable def Kh (K:W.Frag)(n:Nat):Sp:=λvs H Q _=>∃ (a:Addr) (ns:List Int) (k:Int) (l:Addr) (xs:List Str),vs=[.ref a,.int k,.ref l,.int n]/\AI K H a (ns.map V.int)/\H l=some (.lst (xs.map V.str))/\xs.length+2 * n<=1000/\n<=4 /\
 ∀ e r H',A9 H H'->An H' e r->Z2 xs n e->Q r H'
noncomputable def QK (K:W.Frag)(n:Nat):Sp:=λvs H Q _=>∃ (a:Addr) (ns:List Int) (k:Int) (l:Addr) (xs:List Str) (m:Int),vs=[.ref a,.int k,.ref l,.int n,.int m]/\AI K H a (ns.map V.int)/\H l=some (.lst (xs.map V.str))/\xs.length+2 * (n+1)<=1000/\n<=3 /\
 m % 12≠0/\∀ e r H',A9 H H'->An H' e r->Z2 xs (n+1) e->Q r H'
noncomputable def TB (K:W.Frag):Nat->Sp
 | 0=>J0
 | n+1=>QK K n
theorem QL:Am ["_law_script","_law_k","_law_names","_law_deep","_law_number","_law_some"] ["_law_script","_law_k","_law_names","_law_deep"] (A6 CL):=nofun
theorem Gr {n:Nat}{f:Addr}{fd:FuncData}(F:C8 K "_law_any" "_law_any" CL f fd)(B1:mg "len"=none)
  (cM:Cl Pr w K mg base 2 "_law_mix" HG (D6 K)) (cI:Cl Pr w K mg base 1 "_law_int" ["_law_number"] Hl) (cF:Cl Pr w K mg base (2 * n+2) "_law_form" ["_law_script","_law_k","_law_names","_law_deep","_law_number"] (TB K n)) :
  Av Pr w K mg base Bs (2 * n+3) f fd ["_law_script","_law_k","_law_names","_law_deep"] (Kh K n):=by
 refine F.okS QL (λB9 A outer s H vs Q E hr h=>?_)
 ·obtain ⟨a,ns,k,l,xs,rfl,hs,hl,hx,jC,q⟩:=h;have HS:AG 2 _:=hr.mono ();have FZ:AG 1 _:=hr.mono ();refine ⟨_,(A4 (Ah (i:=4) QL.nd rfl (.inl rfl) (As cM HS rfl (A1 (A7 0) (A1 (A7 1) A2))))
   (A4 (AB (Gj (w_and (CZ (A7 2)) (w_and (Al ET (Af Au (A7 4) A3) A3 (Ac _)) (BH (Gj (w_or (Al Ao (A7 3) A3 (Ac _)) (F0 (Al Ao (Af Au (A7 4) A3) A3 (Ac _))))))))) (Ab (Ag (Ae (A1 A8 (A1 (AH (r:=C3 K) AE (A7 2) (Af Au (Af AS (A7 4) A3) (AF AQ (by rfl) B1 PySem.boot_len (A1 (A7 2) A2))) Br) A2))))) Ap)
   (A4 (AB (Gj (w_or (Al Ao (A7 3) A3 (Ac _)) (F0 (Al Ao (Af Au (Af AS (A7 4) A3) A3) A3 (Ac _))))) (A4 (Ah (i:=5) QL.nd rfl (.inl rfl) (Az (A1 (Ae (A1 A8 (A1 (As cI FZ rfl (A1 (Af AS (A7 4) A3) A2)) A2))) (A1 (Ae (A1 A8 (A1 (C1 Ao (Af Au (Af AS (A7 4) A3) A3) A3 (Ac _)) A2))) (A1 (Ae (A1 A8 A2)) A2)))))
   (Ab (Ag (AH (r:=C3 K) AE (A7 5) (Af Au (Af AS (A7 4) A3) A3) Br)))) Ap)
   (Ab (Ag (As cF hr rfl (A1 (A7 0) (A1 (A7 1) (A1 (A7 2) (A1 (Af BF (A7 3) A3) (A1 (Af AS (A7 4) A3) A2))))))))))),?_⟩
  apply ⟨a,ns,k,rfl,hs,λm hm=>?_⟩;apply ⟨!(xs.map V.str).isEmpty,.inl ⟨_,AI.of hl,rfl⟩,?_⟩;refine WS ?_ λhc rest=>?_
  ·apply YK ?_ λh0 leaf=>?_
   ·apply ⟨_,rfl,λi H1 s1=>?_⟩;left;intros p1 H2 s2 e1;left;intros p2 H3 s3 e2;left;intros p3 H4 s4 e3;left;intros p4 H5 s5 e4;apply BD (AI.of e4) (Int.emod_nonneg _ ⟨⟩) (Int.emod_lt_of_pos _ ⟨⟩) λv hv=>?_;have st:=s1.trans (s2.trans (s3.trans (s4.trans s5)));simp only [List.mem_cons,List.not_mem_nil,or_false] at hv;rcases hv with rfl | rfl | rfl
    ·exact q (.num i) _ _ st ⟨p1,rfl,s5 _ _ (s4 _ _ (s3 _ _ e1))⟩ ⟨trivial,Nat.zero_le _,.num _ (.inr rfl)⟩
    ·exact q (.tru _) _ _ st ⟨p2,rfl,s5 _ _ (s4 _ _ e2)⟩ ⟨trivial,Nat.zero_le _,.tru _ (.inr rfl)⟩
    ·exact q .emp _ _ st ⟨p3,rfl,s5 _ _ e3⟩ ⟨trivial,Nat.zero_le _,.emp Oz (.inr ⟨rfl,rfl⟩)⟩
   ·apply C6 (λ_=>leaf) λh1=>?_;cases n with
    | zero=>exact absurd (decide_eq_true rfl) h0
    | succ n =>
     apply ⟨a,ns,k,l,xs,m / 4,by rw [LD],hs,hl,(),(),?_,λe r H' sm ha ho=>q e r H' sm ha ho⟩;intro z;exact h1 (decide_eq_true (by rw [z]))
  ·apply C6 (λ_=>?_) (λ_=>BG rest);apply YK ?_ λ_ named=>?_
   ·apply ⟨l,_,rfl,.inl (AI.of hl),?_⟩;have Fw:(0:Int) < ((xs.map V.str).length:Nat):=by
     cases xs with
     | nil=>simp at hc
     | cons x xs=>simp
    refine UT Fw (BD (AI.of hl) (Int.emod_nonneg _ ()) (Int.emod_lt_of_pos _ Fw) λv hv=>?_);left;intros p H2 s2 e2;obtain ⟨y,hy,rfl⟩:=List.mem_map.mp hv;exact q (.nm y) _ _ s2 ⟨p,rfl,e2⟩ ⟨trivial,Nat.zero_le _,.nm Oz ⟨hy,rfl⟩⟩
   ·left;exact C6 (λ_=>named) λ_=>rest
theorem EM:Am ["_law_script","_law_k","_law_names","_law_deep","_law_number","_law_way","_law_a","_law_b","_law_one","_law_other","_law_third"] ["_law_script","_law_k","_law_names","_law_deep","_law_number"] (A6 Cg):=nofun
theorem Ki {n:Nat}{f:Addr}{fd:FuncData}(F:C8 K "_law_form" "_law_form" Cg f fd)(cN:Cl Pr w K mg base 1 "_law_name" ["_law_number"] E6)
  (cA:Cl Pr w K mg base (2 * n+3) "_law_any" ["_law_script","_law_k","_law_names","_law_deep"] (Kh K n)) :
  Av Pr w K mg base Bs (2 * n+4) f fd ["_law_script","_law_k","_law_names","_law_deep","_law_number"] (QK K n):=by
 refine F.okS EM (λB9 A outer s H vs Q E hr h=>?_)
 ·obtain ⟨a,ns,k,l,xs,m,rfl,hs,hl,hx,jC,hm,q⟩:=h;have FZ:AG 1 _:=hr.mono ();refine ⟨_,(A4 (Ah (i:=5) EM.nd rfl (.inl rfl) (Af Au (A7 4) A3))
   (A4 (Ah (i:=6) EM.nd rfl (.inl rfl) (As cN FZ rfl (A1 (Af AS (A7 4) A3) A2)))
   (A4 (Ah (i:=7) EM.nd rfl (.inl rfl) (As cN FZ rfl (A1 (Af AS (A7 4) A3) A2)))
   (A4 (AB (Al Ao (A7 5) A3 (Ac _)) (Ab (Ag (Ae (A1 A8 (A1 (A7 6) (A1 (As cA hr rfl (A1 (A7 0) (A1 (Af Ar (Af AR A3 (A7 1)) A3) (A1 (Af DU (A7 2) (Az (A1 (A7 6) A2))) (A1 (A7 3) A2))))) A2)))))) Ap)
   (A4 (AB (Al Ao (A7 5) A3 (Ac _)) (Ab (Ag (Ae (A1 A8 (A1 (A7 6) (A1 (A7 7) (A1 (As cA hr rfl (A1 (A7 0) (A1 (Af Ar (Af AR A3 (A7 1)) A3) (A1 (Af DU (A7 2) (Az (A1 (A7 6) (A1 (A7 7) A2)))) (A1 (A7 3) A2))))) A2))))))) Ap)
   (A4 (Ah (i:=8) EM.nd rfl (.inl rfl) (As cA hr rfl (A1 (A7 0) (A1 (Af Ar (Af AR A3 (A7 1)) A3) (A1 (A7 2) (A1 (A7 3) A2))))))
   (A4 (AB (Al Ao (A7 5) A3 (Ac _)) (Ab (Ag (Ae (A1 A8 (A1 (A7 6) (A1 (A7 8) (A1 (As cA hr rfl (A1 (A7 0) (A1 (Af Ar (Af AR A3 (A7 1)) A3) (A1 (Af DU (A7 2) (Az (A1 (A7 6) A2))) (A1 (A7 3) A2))))) A2))))))) Ap)
   (A4 (AB (Al Ao (A7 5) A3 (Ac _)) (Ab (Ag (Ae (A1 A8 (A1 (A7 8) (A1 (A7 6) (A1 (A7 7) (A1 (As cA hr rfl (A1 (A7 0) (A1 (Af Ar (Af AR A3 (A7 1)) A3) (A1 (Af DU (A7 2) (Az (A1 (A7 6) (A1 (A7 7) A2)))) (A1 (A7 3) A2))))) A2)))))))) Ap)
   (A4 (Ah (i:=9) EM.nd rfl (.inl rfl) (As cA hr rfl (A1 (A7 0) (A1 (Af Ar (Af AR A3 (A7 1)) A3) (A1 (A7 2) (A1 (A7 3) A2))))))
   (A4 (AB (Al ET (A7 5) A3 (Ac _)) (Ab (Ag (Ae (A1 (AH (r:=C3 K) AE (Az (A1 A8 (A1 A8 (A1 A8 (A1 A8 A2))))) (Af BF (A7 5) A3) Br) (A1 (A7 8) (A1 (A7 9) A2)))))) Ap)
   (A4 (AB (Al Ao (A7 5) A3 (Ac _)) (Ab (Ag (Ae (A1 A8 (A1 (AH (r:=C3 K) AE (Az (A1 A8 (A1 A8 (A1 A8 (A1 A8 A2))))) (Af Au (Af AS (A7 4) A3) A3) Br) (A1 (A7 8) (A1 (A7 9) A2))))))) Ap)
   (A4 (Ah (i:=10) EM.nd rfl (.inl rfl) (As cA hr rfl (A1 (A7 0) (A1 (Af Ar (Af AR A3 (A7 1)) A3) (A1 (Af DU (A7 2) (Af Pn (Az (A1 (A7 6) (A1 (A7 7) A2))) (Af BF (A7 5) A3))) (A1 (A7 3) A2))))))
   (Ab (Ag (HK (Al Ao (A7 5) A3 (Ac _)) (Ae (A1 A8 (A1 (A7 8) (A1 (A7 9) (A1 (A7 10) A2))))) (Ae (A1 A8 (A1 (A7 8) (A1 (A7 9) (A1 (A7 6) (A1 (A7 7) (A1 (A7 10) A2)))))))))))))))))))))),?_⟩
  have lo:=Int.emod_nonneg m (b:=12) ⟨⟩;have hi:=Int.emod_lt_of_pos m (b:=12) ⟨⟩;apply ⟨_,rfl,λx H1 s1=>?_⟩;apply ⟨_,rfl,λy H2 s2=>?_⟩;left;have Ds:=s1.trans s2;refine C6 (λ_=>?_) λw1=>?_
  ·left;intros l1 H3 s3 e3;apply Dy (s3 _ _ (Ds _ _ hl)) e3 ?_ λl2 H4 _ s4 e4=>?_
   ·simp;exact Cf ()
   left;have st:=Ds.trans (s3.trans s4);refine ⟨a,ns,_,l2,xs++[x],rfl,st.seq hs,by rw [e4];simp,by simp;omega,(),λe r H5 s5 ha ho=>?_⟩;left;intros p H6 s6 e6;refine q (.fn x e) _ _ (st.trans (s5.trans s6)) ⟨p,r,rfl,e6,An.mono (TSub.of_same s6) ha⟩ ⟨⟨ho.op,Nat.le_trans ho.np (pN jC)⟩,kf ho.np,.fn Oz (.inr ⟨rfl,rfl,rfl⟩) (λz=>by cases z) ho.w1⟩
  apply C6 (λ_=>?_) λw2=>?_
  ·left;intros l1 H3 s3 e3;apply Dy (s3 _ _ (Ds _ _ hl)) e3 ?_ λl2 H4 _ s4 e4=>?_
   ·simp;exact Cf ()
   left;have st:=Ds.trans (s3.trans s4);refine ⟨a,ns,_,l2,xs++[x,y],rfl,st.seq hs,by rw [e4];simp,by simp;omega,(),λe r H5 s5 ha ho=>?_⟩;left;intros p H6 s6 e6;refine q (.rc x y e) _ _ (st.trans (s5.trans s6)) ⟨p,r,rfl,e6,An.mono (TSub.of_same s6) ha⟩ ⟨⟨ho.op,Nat.le_trans ho.np (pN jC)⟩,kf ho.np,.rc Oz (.inr ⟨rfl,rfl,rfl⟩) (λz=>by cases z) ho.w2⟩
  apply ⟨a,ns,_,l,xs,rfl,Ds.seq hs,Ds _ _ hl,(),(),λe1 r1 H3 s3 a1 o1=>?_⟩;have Fe:=Ds.trans s3;have n1:=o1.np;apply C6 (λ_=>?_) λw3=>?_
  ·left;intros l1 H4 s4 e4;apply Dy (s4 _ _ (Fe _ _ hl)) e4 ?_ λl2 H5 _ s5 e5=>?_
   ·simp;exact Cf ()
   left;have st:=Fe.trans (s4.trans s5);refine ⟨a,ns,_,l2,xs++[x],rfl,st.seq hs,by rw [e5];simp,by simp;omega,(),λe r H6 s6 ha ho=>?_⟩;left;intros p H7 s7 e7;refine q (.lt x e1 e) _ _ (st.trans (s6.trans s7)) ⟨p,r1,r,rfl,e7,An.mono (TSub.of_same (s4.trans (s5.trans (s6.trans s7)))) a1,An.mono (TSub.of_same s7) ha⟩ ⟨⟨o1.op,ho.op⟩,kl n1 ho.np,.lt Oz ⟨⟩ o1.ty ho.w1⟩
  apply C6 (λ_=>?_) λw4=>?_
  ·left;intros l1 H4 s4 e4;apply Dy (s4 _ _ (Fe _ _ hl)) e4 ?_ λl2 H5 _ s5 e5=>?_
   ·simp;exact Cf ()
   left;have st:=Fe.trans (s4.trans s5);refine ⟨a,ns,_,l2,xs++[x,y],rfl,st.seq hs,by rw [e5];simp,by simp;omega,(),λe r H6 s6 ha ho=>?_⟩;left;intros p H7 s7 e7;refine q (.opn e1 x y e) _ _ (st.trans (s6.trans s7)) ⟨p,r1,r,rfl,e7,An.mono (TSub.of_same (s4.trans (s5.trans (s6.trans s7)))) a1,An.mono (TSub.of_same s7) ha⟩ ⟨⟨o1.op,ho.op⟩,kl n1 ho.np,.opn Oz (.inr ⟨rfl,rfl,rfl⟩) o1.ty ho.w2⟩
  apply ⟨a,ns,_,l,xs,rfl,Fe.seq hs,Fe _ _ hl,(),(),λe2 r2 H4 s4 a2 o2=>?_⟩;have Ey:=Fe.trans s4;have n2:=o2.np;left;have ne:∀ j:Int,¬ decide (V.int (m % 12)=V.int j)=true->m % 12≠j:=λj h z=>h (decide_eq_true (by rw [z]));have tM:=ne _ w1;have tL:=ne _ w2;have tN:=ne _ w3;have xO:=ne _ w4;refine C6 (λw5=>?_) λw5=>?_
  ·have tU:=of_decide_eq_true w5;left;intros l1 H5 s5 e5;apply BD (AI.of e5) () (by simp;omega) λv hv=>?_;left;intros p H6 s6 e6;have TC:=An.mono (TSub.of_same (s4.trans (s5.trans s6))) a1;have TF:=An.mono (TSub.of_same (s5.trans s6)) a2;have st:=Ey.trans (s5.trans s6);simp only [List.mem_cons,List.not_mem_nil,or_false] at hv;rcases hv with rfl | rfl | rfl | rfl
   ·exact q (.cal e1 e2) _ _ st ⟨p,r1,r2,rfl,e6,TC,TF⟩ ⟨⟨o1.op,o2.op⟩,km n1 n2,.cal Oz (.inr ⟨rfl,rfl,rfl⟩) ⟨⟩ o1.ty o2.ty⟩
   ·exact q (.pr e1 e2) _ _ st ⟨p,r1,r2,rfl,e6,TC,TF⟩ ⟨⟨o1.op,o2.op⟩,km n1 n2,.pr Oz (.inr ⟨rfl,rfl,rfl⟩) (λz=>by cases z) o1.ty o2.ty⟩
   ·exact q (.lk e1 e2) _ _ st ⟨p,r1,r2,rfl,e6,TC,TF⟩ ⟨⟨o1.op,o2.op⟩,km n1 n2,.lk Oz (.inr ⟨rfl,rfl⟩) o1.ty o2.ty⟩
   ·exact q (.cal e1 e2) _ _ st ⟨p,r1,r2,rfl,e6,TC,TF⟩ ⟨⟨o1.op,o2.op⟩,km n1 n2,.cal Oz (.inr ⟨rfl,rfl,rfl⟩) ⟨⟩ o1.ty o2.ty⟩
  have tU:¬ m % 12 < 9:=λz=>w5 (decide_eq_true z);apply C6 (λ_=>?_) λw6=>?_
  ·left;intros l1 H5 s5 e5;apply BD (AI.of e5) (Int.emod_nonneg _ ⟨⟩) (Int.emod_lt_of_pos _ ⟨⟩) λv hv=>?_;left;intros p H6 s6 e6;have TC:=An.mono (TSub.of_same (s4.trans (s5.trans s6))) a1;have TF:=An.mono (TSub.of_same (s5.trans s6)) a2;have st:=Ey.trans (s5.trans s6);have fin:∀ o:Str,v=.str o->Ex.abl o->Q (.ref p) H6:=λo ho hi=>q (.op o e1 e2) _ _ st ⟨p,r1,r2,rfl,ho▸e6,TC,TF⟩ ⟨⟨hi,o1.op,o2.op⟩,km n1 n2,.op (.inr rfl) (.inr rfl) (.inr rfl) o1.ty o2.ty⟩;simp only [List.mem_cons,List.not_mem_nil,or_false] at hv;rcases hv with rfl | rfl | rfl | rfl
   ·exact fin _ rfl (.inl rfl)
   ·exact fin _ rfl (.inr (.inl rfl))
   ·exact fin _ rfl (.inr (.inr (.inl rfl)))
   ·exact fin _ rfl (.inr (.inr (.inr rfl)))
  have xP:=ne _ w6;left;intros l1 H5 s5 e5;left;have lr:((m % 12 - 10).toNat=0/\m % 12=10)\/((m % 12 - 10).toNat=1/\m % 12≠10):=by omega
  refine ⟨l1,_,_,rfl,rfl,e5,(),(),?_,λl2 DT=>?_⟩
  ·refine Cf ?_;simp;omega
  have s6:=A9.new (o:=.lst (List.replicate (m % 12 - 10).toNat [V.str x,V.str y]).flatten) DT;have e6:upd H5 l2 (.lst (List.replicate (m % 12 - 10).toNat [V.str x,V.str y]).flatten) l2=_:=Aa;generalize upd H5 l2 (.lst (List.replicate (m % 12 - 10).toNat [V.str x,V.str y]).flatten)=H6 at s6 e6 ⊢;have hc:∃ more:List Str,(List.replicate (m % 12 - 10).toNat [V.str x,V.str y]).flatten=more.map V.str/\more.length<=2/\(m % 12=10->more=[])/\(m % 12≠10->more=[x,y]):=by
   rcases lr with ⟨e,h⟩ | ⟨e,h⟩
   ·exact ⟨[],by rw [e];rfl,by simp,λ_=>rfl,λz=>absurd h z⟩
   ·exact ⟨[x,y],by rw [e];rfl,by simp,λz=>absurd z h,λ_=>rfl⟩
  obtain ⟨more,aX,aL,aR,U'⟩:=hc;rw [aX] at e6;refine Dy (s6 _ _ (s5 _ _ (Ey _ _ hl))) e6 ?_ λl3 H7 _ s7 e7=>?_
  ·simp;exact Cf ()
  left;have st:=Ey.trans (s5.trans (s6.trans s7));refine ⟨a,ns,_,l3,xs++more,rfl,st.seq hs,by rw [e7];simp,by simp;omega,(),λe3 r3 H8 s8 a3 o3=>?_⟩;have n3:=o3.np;have TC:=An.mono (TSub.of_same (s4.trans (s5.trans (s6.trans (s7.trans s8))))) a1;have TF:=An.mono (TSub.of_same (s5.trans (s6.trans (s7.trans s8)))) a2;apply C6 (λw7=>?_) λw7=>?_
  ·left;intros p H9 s9 e9;have tV:m % 12=10:=(by simpa using w7);rw [aR tV,List.append_nil] at o3;exact q (.wh e1 e2 e3) _ _ (st.trans (s8.trans s9)) ⟨p,r1,r2,r3,rfl,e9,An.mono (TSub.of_same s9) TC,An.mono (TSub.of_same s9) TF,An.mono (TSub.of_same s9) a3⟩ ⟨⟨o1.op,o2.op,o3.op⟩,kw n1 n2 n3,.wh Oz (.inr rfl) o1.ty o2.ty o3.ty⟩
  ·left;intros p H9 s9 e9;rw [U' λz=>w7 (decide_eq_true (by rw [z]))] at o3;exact q (.spl e1 e2 x y e3) _ _ (st.trans (s8.trans s9)) ⟨p,r1,r2,r3,rfl,e9,An.mono (TSub.of_same s9) TC,An.mono (TSub.of_same s9) TF,An.mono (TSub.of_same s9) a3⟩ ⟨⟨o1.op,o2.op,o3.op⟩,ks n1 n2 n3,.spl Oz (.inr ⟨rfl,rfl⟩) ⟨⟩ o1.ty o2.ty o3.w2⟩
theorem QM {f f2:Addr}{fd jD:FuncData}(DA:Df K mg "_law_any" CL ["_law_script","_law_k","_law_names","_law_deep"] f fd)(DF:Df K mg "_law_form" Cg ["_law_script","_law_k","_law_names","_law_deep","_law_number"] f2 jD)(B1:mg "len"=none)
  (cM:Cl Pr w K mg base 2 "_law_mix" HG (D6 K)) (cI:Cl Pr w K mg base 1 "_law_int" ["_law_number"] Hl) (cN:Cl Pr w K mg base 1 "_law_name" ["_law_number"] E6) :
  ∀ n,Cl Pr w K mg base (2 * n+3) "_law_any" ["_law_script","_law_k","_law_names","_law_deep"] (Kh K n)
 | 0=>DA.cl (Gr (n:=0) DA.F B1 cM cI (DF.cl F3))
 | n+1=>DA.cl (Gr (n:=n+1) DA.F B1 cM cI (DF.cl (Ki DF.F cN (QM DA DF B1 cM cI cN n))))
structure tW (K:W.Frag)(mg:Str->Option Value)(fd ft fb fl:Addr)(dd dt db dl:FuncData):Prop where
 D:Df K mg "_law_made" BN HZ fd dd
 T:Df K mg "_law_taken" Cr HZ ft dt
 B:Df K mg "_law_built" Bw HZ fb db
 L:Df K mg "_law_let" DE ["_law_script","_law_k","_law_goal","_law_names","_law_deep","_law_a","_law_kind"] fl dl
theorem Kj {fd ft fb fl:Addr}{dd dt db dl:FuncData}(T:tW K mg fd ft fb fl dd dt db dl)(B1:mg "len"=none)(MN:mg "max"=none)(Co:mg "int"=none)(BY:mg "list"=none)(AJ:mg "tuple"=none)(B5:mg "range"=none)
  (cM:Cl Pr w K mg base 2 "_law_mix" HG (D6 K)) (cN:Cl Pr w K mg base 1 "_law_name" ["_law_number"] E6) (cV:Cl Pr w K mg base 1 "_law_with" ["_law_names","_law_more"] FC) (cI:Cl Pr w K mg base 1 "_law_int" ["_law_number"] Hl)
  (cG:Cl Pr w K mg base 5 "_law_ground" ["_law_script","_law_k","_law_deep"] (CP K 2)) (cW:Cl Pr w K mg base 11 "_law_wider" ["_law_wide","_law_kind"] (Fc 8)) :
  ∀ n,Cl Pr w K mg base (12+3 * n) "_law_made" HZ (Ct K n)
 | 0=>T.D.cl F3
 | n+1=>by
  have c:=Kj T B1 MN Co BY AJ B5 cM cN cV cI cG cW n;have cL:=T.L.cl (Xm T.L.F () cM cV c);have cT:=T.T.cl (QH T.T.F Co () cM cN cV cG c cL);have cB:=T.B.cl (O6 T.B.F BY AJ B5 () cM cN cV cI c);exact T.D.cl (QF (r:=12+3 * n+2) T.D.F B1 MN () cM cW (cB.mono ()) cT)
noncomputable def QN (K:W.Frag):Sp:=λvs H Q E=>∃ d:Nat,d<=4/\Kh K d vs H Q E
theorem TH {f f2:Addr}{fd jD:FuncData}(DA:Df K mg "_law_any" CL ["_law_script","_law_k","_law_names","_law_deep"] f fd)(DF:Df K mg "_law_form" Cg ["_law_script","_law_k","_law_names","_law_deep","_law_number"] f2 jD)(B1:mg "len"=none)
  (cM:Cl Pr w K mg base 2 "_law_mix" HG (D6 K)) (cI:Cl Pr w K mg base 1 "_law_int" ["_law_number"] Hl) (cN:Cl Pr w K mg base 1 "_law_name" ["_law_number"] E6):Cl Pr w K mg base 11 "_law_any" ["_law_script","_law_k","_law_names","_law_deep"] (QN K):=by
 have F:∀ n,Av Pr w K mg base Bs (2 * n+3) f fd ["_law_script","_law_k","_law_names","_law_deep"] (Kh K n):=λn=>by
  cases n with
  | zero=>exact Gr (n:=0) DA.F B1 cM cI (DF.cl F3)
  | succ n=>exact Gr (n:=n+1) DA.F B1 cM cI (DF.cl (Ki DF.F cN (QM DA DF B1 cM cI cN n)))
 exact DA.cl ⟨λvs H Q E ⟨d,_,h⟩=>(F d).len vs H Q E h,λA outer s H args us vs Q E hr he hb hv ⟨d,hd,h⟩=>((F d).mono ()).run A outer s H args us vs Q E hr he hb hv h⟩
structure tX (e:Ex):Prop where
 op:e.opj 29
 kn:e.kn<=62
 ty:∃ g,Cs 16 4 g0 e g
noncomputable def Hs (K:W.Frag):Sp:=λvs H Q _=>∃ (a:Addr) (ns:List Int) (k:Int) (d:Nat),vs=[.ref a,.int k,.int d]/\d<=4/\AI K H a (ns.map V.int) /\
 ∀ e r H',A9 H H'->An H' e r->tX e->Q r H'
theorem B4 {d p:Nat}(h:d<=4)(hp:p<=2):B d p<=62:=by
 have h1:=DI d hp;rcases d with _ | _ | _ | _ | _ | d
 ·exact Nat.le_trans h1 ⟨⟩
 ·exact Nat.le_trans h1 ⟨⟩
 ·exact Nat.le_trans h1 ⟨⟩
 ·exact Nat.le_trans h1 ⟨⟩
 ·exact Nat.le_trans h1 ⟨⟩
 ·omega
theorem tY {d:Nat}(h:d<=4):ba d<=62:=by
 rcases d with _ | _ | _ | _ | _ | d <;> first | decide | omega
theorem QO:Am ["_law_script","_law_base","_law_deep"] ["_law_script","_law_base","_law_deep"] (A6 Dh):=nofun
theorem O7 {f:Addr}{fd:FuncData}(F:C8 K "_law_either" "_law_either" Dh f fd)
  (cM:Cl Pr w K mg base 2 "_law_mix" HG (D6 K)) (cG:Cl Pr w K mg base 5 "_law_ground" ["_law_script","_law_k","_law_deep"] (CP K 2))
  (cA:Cl Pr w K mg base 11 "_law_any" ["_law_script","_law_k","_law_names","_law_deep"] (QN K)) (cD:Cl Pr w K mg base 48 "_law_made" HZ (Ct K 12)) :
  Av Pr w K mg base Bs 49 f fd ["_law_script","_law_base","_law_deep"] (Hs K):=by
 refine F.okS QO (λB9 A outer s H vs Q E hr h=>?_)
 ·obtain ⟨a,ns,k,d,rfl,hd,hs,q⟩:=h;have HS:AG 2 _:=hr.mono ();have fg:AG 5 _:=hr.mono ();have Xj:AG 11 _:=hr.mono ();refine ⟨_,(A4 (AB (Al Ao (Af Au (As cM HS rfl (A1 (A7 0) (A1 (A7 1) A2))) A3) A3 (Ac _)) (Ab (Ag (As cA Xj rfl (A1 (A7 0) (A1 (Af Ar (A7 1) A3) (A1 (Az A2) (A1 (A7 2) A2))))))) Ap)
   (Ab (Ag (As cD hr rfl (A1 (A7 0) (A1 (Af Ar (A7 1) A3) (A1 (As cG fg rfl (A1 (A7 0) (A1 (Af Ar (A7 1) A3) (A1 A3 A2)))) (A1 (Az A2) (A1 (A7 2) A2))))))))),?_⟩
  apply ⟨a,ns,k,rfl,hs,λm hm=>?_⟩;apply C6 (λ_=>?_) λ_=>?_
  ·left;intros l H1 s1 e1;apply ⟨d,hd,a,ns,_,l,[],rfl,s1.seq hs,e1,by simp;omega,hd,λe r H2 s2 ha ho=>?_⟩;exact q e r H2 (s1.trans s2) ha ⟨ho.op,Nat.le_trans ho.np (tY hd),dy,ho.ty.mono (Nat.le_refl _) hd λ_ _ z=>by cases z.1⟩
  ·apply ⟨a,ns,_,2,rfl,Nat.le_refl _,hs,λt r H1 s1 kt gt dt=>?_⟩;left;intros l H2 s2 e2;left;have p:=eW dt;refine ⟨a,ns,_,t,r,l,[],d,rfl,⟨(s1.trans s2).seq hs,Bi.mono (TSub.of_same s2) kt,gt,(by have:=ff gt dt;omega),⟨[],e2,.nil⟩,λx hx=>by cases hx⟩,?_,(),?_,(),by simp,λe r H3 s3 ha ho=>?_⟩
   ·cases d <;> simp only [mu] <;> omega
   ·unfold Pm;omega
   ·exact q e r H3 (s1.trans (s2.trans s3)) ha ⟨ho.op,Nat.le_trans ho.np (B4 hd dt),t,ho.ty.mono (Nat.le_refl _) hd λ_ _ ⟨_,z,_⟩=>by cases z⟩
end
end K
namespace L2
open PySem PySem.Spec PyProof.Rows KS
noncomputable def strOf:Value->Str
 | .str x _=>x
 | _=>Str.empty
noncomputable def Ht:Value->Bool
 | .str _ _=>true
 | _=>false
noncomputable def Jd (w:World)(e:DictEntry):DictEntry:=⟨hashStr w (strOf e.key),e.key,e.val⟩
noncomputable def QP (es:List DictEntry):List (Str × Value):=es.map λe=>(strOf e.key,e.val)
structure D7 (w:World)(K:W.Frag)(a:Addr)(rows:List (Str × Value)):Prop where
 ex:∃ es ep,K.lookup a=some ⟨.type "dict",none,.dict es ep,#[]⟩/\es.toList=es.toList.map (Jd w)/\(es.toList.all λe=>Ht e.key)=true/\QP es.toList=rows
 nd:(rows.map (·.1)).Nodup
theorem MQ {P:Program}{w:World}{K:W.Frag}{a:Addr}{rows:List (Str × Value)}(d:D7 w K a rows){h:Heap}(hk:∀ o,K.lookup a=some o->h.get? a=some o):h.DictOf (AA P w) a (rows.map λr=>(.inr r.1,r.2)):=by
 obtain ⟨⟨es,ep,hl,hh,ha,rfl⟩,nd⟩:=d;refine ⟨_,es,ep,hk _ hl,⟨rfl,rfl,rfl⟩,rfl,λe he=>?_,?_,?_⟩
 ·have RT:e∈es.toList:=by simpa using he
  have hs:=List.all_eq_true.mp ha e RT;rw [hh] at RT;obtain ⟨e0,h0,rfl⟩:=List.mem_map.mp RT;have WH:Ht e0.key=true:=hs;obtain ⟨hX,key,val⟩:=e0;cases key with
  | str x t=>exact ⟨.inr x,DP P w x t,rfl⟩
  | _=>cases WH
 ·generalize es.toList=l at ha;clear hh hl nd
  induction l with
  | nil=>exact .nil
  | cons e r ih =>
   rw [List.all_cons,Bool.and_eq_true] at ha;refine .cons ?_ rfl (ih ha.2);obtain ⟨hX,key,val⟩:=e;cases key with
   | str x t=>exact DP P w x t
   | _=>exact (show false=true from ha.1) |> λz=>by cases z
 ·rw [List.map_map];have e:(QP es.toList).map (λr=>(Sum.inr r.1:Key))=((QP es.toList).map (·.1)).map Sum.inr:=by rw [List.map_map];rfl
  show ((QP es.toList).map (λr=>(Sum.inr r.1:Key))).Nodup;rw [e];have inj:∀ (l:List Str),l.Nodup->(l.map (Sum.inr:Str->Key)).Nodup:=λl hl=>by
   induction hl with
   | nil=>exact .nil
   | cons h1 h2 ih =>
    refine List.nodup_cons.mpr ⟨λz=>?_,ih⟩;obtain ⟨y,hy,e⟩:=List.mem_map.mp z;cases e;exact h1 _ hy rfl
  exact inj _ nd
noncomputable def rowAt (rows:List (Str × Value))(x:Str):Option Value:=(rows.find? λr=>decide (r.1=x)).map (·.2)
theorem Hu (rows:List (Str × Value))(x:Str):valueAt (rows.map λr=>((.inr r.1:Key),r.2)) (.inr x)=rowAt rows x:=by
 unfold valueAt rowAt
 induction rows with
 | nil=>rfl
 | cons r l ih =>
  rw [List.map_cons,List.find?_cons,List.find?_cons];by_cases e:r.1=x
  ·have h1:decide ((Sum.inr r.1:Key)=Sum.inr x)=true:=(by rw [L6];exact decide_eq_true e);rw [h1,decide_eq_true e];rfl
  ·have h1:decide ((Sum.inr r.1:Key)=Sum.inr x)=false:=(by rw [L6];exact decide_eq_false e);rw [h1,decide_eq_false e];exact ih
section
variable {X:Cx}{x:Str}{a:Addr}{rows:List (Str × Value)}{i:Expr}{ty:TE}{p pos:Pos}
noncomputable def QQ (rows:List (Str × Value))(ty:TE):TE:=fun σ H Q=>ty σ H λy H1=>∃ (k:Str) (u:Value) (v:V),y=.str k/\rowAt rows k=some u/\RelV v u/\Q v H1
theorem TJ (d:D7 X.w X.K a rows)(hg:Gl X x)(hm:X.mg x=some (.ref a))(hi:PE X i ty)(hs:Ln i)(CW:(x==("__debug__":Str))=false:=by decide):PE X (.Subscript (.Name x p) i pos) (QQ rows ty):=by
 intro pins s σ H Q I h;refine IZ PySem.F.slot_dict_getitem.lookup hs (AX (Gb (v:=.ref a) hg hm rfl CW pins s σ H (λy H1=>y=.ref a/\H1=H) I ⟨rfl,rfl⟩) λu s1 AO=>?_);obtain ⟨x',H1,I1,rx,e1,e2⟩:=AO;subst e1 e2;obtain rfl:u=Value.ref a:=rx;refine AX (hi pins s1 σ H1 _ I1 h) λiv s2 AO=>?_;obtain ⟨y,H2,I2,ry,k,u,v,ey,hk,rv,q⟩:=AO;subst ey;have dd:s2.heap.DictOf (AA X.prog X.w) a (rows.map λr=>(.inr r.1,r.2)):=MQ d λo ho=>I2.kIn a o ho;refine ⟨dd.typeIs,wpAny_getItem_of (DL (k:=.inr k) ry) dd.mapOf (v:=u) (by rw [Hu];exact hk) ⟨v,H2,I2.tok _,rv,q⟩⟩
theorem QR (d:D7 X.w X.K a rows)(hg:Gl X x)(hm:X.mg x=some (.ref a))(hi:SE X i ty)(hs:Ln i)(CW:(x==("__debug__":Str))=false:=by decide):SE X (.Subscript (.Name x p) i pos) (QQ rows ty):=⟨TJ d hg hm hi.out hs CW⟩
variable {CX:KW}{k:Nat}{ps:List Str}{E:XK}{e:Expr}{es:List Expr}{t:TA}{MR:List (Str × Sp)}{pn:Pos}
noncomputable def FF (P:Program)(w:World)(K:W.Frag)(mg:Str->Option Value)(base:Heap)(CX:KW)(k:Nat)(ps:List Str)(rows:List (Str × Value))(MR:List (Str × Sp)):Prop :=
 ∀ x sp,(x,sp)∈MR->∃ f fd,rowAt rows x=some (.ref f)/\Av P w K mg base CX k f fd ps sp/\W.keepIn K (.ref f)=true/\Binds K fd ps []
noncomputable def LM (MR:List (Str × Sp))(E:XK)(ty:TE)(t:TA):TE:=fun σ H Q=>ty σ H λy H1=>∃ (x:Str) (sp:Sp),y=.str x/\(x,sp)∈MR/\t σ H1 λvs H2=>sp vs H2 Q E
theorem QS (d:D7 X.w X.K a rows)(R:FF X.prog X.w X.K X.mg X.base CX k ps rows MR)(hx:Passes CX X E)(hr:AG k X.A)(hg:Gl X x)(hm:X.mg x=some (.ref a))(hi:PE X i ty)(hs:Ln i)(ha:PA X (e::es) t)(CW:(x==("__debug__":Str))=false:=by decide)
  (he:starEach (e::es) X.env=(false,eval e X.env)::starEach es X.env:=by rfl) (Ci:(backTo pos (starEach es X.env)).any (·.1)=false:=by rfl):PE X (.Call (.Subscript (.Name x pn) i p) (e::es) [] pos) (LM MR E ty t):=by
 intro pins s σ H Q I h;have arm:eval (.Call (.Subscript (.Name x pn) i p) (e::es) [] pos) X.env=(eval (.Subscript (.Name x pn) i p) X.env >>= λf=>callWith pos f [] (backTo pos (starEach (e::es) X.env)) (backToKw pos (keywordEach [] X.env))):=rfl;rw [arm];refine wpAny_bind ?_;refine IZ PySem.F.slot_dict_getitem.lookup hs (AX (Gb (v:=.ref a) hg hm rfl CW pins s σ H (λy H1=>y=.ref a/\H1=H) I ⟨rfl,rfl⟩) λu s1 AO=>?_);obtain ⟨x',H1,I1,rx,e1,e2⟩:=AO;subst e1 e2;obtain rfl:u=Value.ref a:=rx;refine AX (hi pins s1 σ H1 _ I1 h) λiv s2 AO=>?_;obtain ⟨y,H2,I2,ry,x',sp,ey,K9,q⟩:=AO;subst ey;obtain ⟨f,fd,QT,F,hk,hb⟩:=R x' sp K9;have dd:s2.heap.DictOf (AA X.prog X.w) a (rows.map λr=>(.inr r.1,r.2)):=MQ d λo ho=>I2.kIn a o ho;refine ⟨dd.typeIs,wpAny_getItem_of (DL (k:=.inr x') ry) dd.mapOf (v:=.ref f) (by rw [Hu];exact QT) ?_⟩;have I3:=I2.tok (s2.toks+1);refine W.callWith_K (h₀:=X.base) I3.ok.mod.kin hk (AX (ha pos pins _ σ H2 _ I3 q) λus s4 AO=>?_) he Ci;obtain ⟨vs,H4,I4,r,q⟩:=AO;refine ⟨I4.kIn,?_⟩;exact GI F hr hb .nil hx I4 r (by rw [List.append_nil];exact q)
theorem TK (d:D7 X.w X.K a rows)(R:FF X.prog X.w X.K X.mg X.base CX k ps rows MR)(hx:Passes CX X E)(hr:AG k X.A)(hg:Gl X x)(hm:X.mg x=some (.ref a))(hi:SE X i ty)(hs:Ln i)(ha:SA X (e::es) t)(CW:(x==("__debug__":Str))=false:=by decide)
  (he:starEach (e::es) X.env=(false,eval e X.env)::starEach es X.env:=by rfl) (Ci:(backTo pos (starEach es X.env)).any (·.1)=false:=by rfl):SE X (.Call (.Subscript (.Name x pn) i p) (e::es) [] pos) (LM MR E ty t):=⟨QS d R hx hr hg hm hi.out hs ha.out CW he Ci⟩
end
end L2
namespace PySem
open AutoSeq1 (wpAny_loadPart')
namespace F
theorem abe:typeLookup (.type "list_reverseiterator") "__len__"=pure none:=by rw [typeLookup_type,builtinLookup_eq_fast];kernel_rfl
theorem abj:Slot "list_reverseiterator" "__length_hint__" "list_reverseiterator.__length_hint__" :=
 .of (owner:="list_reverseiterator") (n:="__length_hint__") (by rw [typeLookup_type,builtinLookup_eq_fast];kernel_rfl) (by decide +kernel) (by decide +kernel) (by decide +kernel) (by first | exact .inl (by decide +kernel) | exact .inr (by decide +kernel)) (by rw [isSubtype_type];kernel_rfl)
theorem abq:isSubtype (.type "list_reverseiterator") (.type "list_reverseiterator")=pure true:=by rw [isSubtype_type];kernel_rfl
end F
section
variable {prog:Program}{w:World}{A:Around}{E:Value->Shared->Prop}{s:Shared}
theorem Hv {it l:Addr}{i:Int}{Q:Bool->Shared->Prop}(hit:s.heap.IsRevIter it l i)(h:∀ b tk,Q b { s with toks:=tk }):
  wpAny (model prog w) A (Builtin.List.listLengthHint (.ref it)) Q E s:=by
 obtain ⟨o,ho,hc,hd⟩:=id hit;unfold Builtin.List.listLengthHint;refine wpAny_bind (wpAny_specialOf hit.typeIs F.abe ?_);show wpAny _ A (specialOf (Value.ref it) (Str.ofString "__length_hint__") >>= _) _ _ _;refine wpAny_bind (wpAny_specialOf hit.typeIs F.abj.lookup ?_);generalize hid:("list_reverseiterator.__length_hint__":String)=tZ
 wp_delta
 rw [show splitId tZ=some ("list_reverseiterator","__length_hint__") from by subst hid;decide +kernel];subst hid;refine wpAny_bind (wpAny_isInstance (T:="list_reverseiterator") (b:=true) hit.typeIs F.abq ?_);refine wpAny_ite_split (λb9=>absurd b9 ⟨⟩) (λ_=>?_);refine wpAny_ite_split (λ_=>?_) (λb9=>absurd (by decide +kernel) b9);refine wpAny_ite_split (λb9=>absurd b9 (by decide +kernel)) (λ_=>?_);exact wpAny_pure (h _ _)
theorem LN {R:Result->Shared->Prop}{I l:Addr}{items:Array Value}(hh:A.handled=none)(hI:s.heap.IsRevIter I l ((items.size:Int) - 1))(hl:s.heap.IsList l items)(Oy:l≠I)(hlen:items.size < 2 ^ 20)(S:Addr)(res:Value)(c0:Nat)(hS:s.heap.get? S=some { cls:=.type "list",data:=.seq #[] c0 })(jE:S≠I)(pO:S≠l)
  (hR:∀ h' tk Je c',(∀ b o,b≠S->b≠I->s.heap.get? b=some o->h'.get? b=some o)->h'.get? S=some { cls:=.type "list",dict:=none,data:=.seq Je c',slots:=#[] } ->
   ItemsOf (λi v=>items[items.size - 1 - i]?=some v) Je items.size->R (.ok (.ret res)) { s with heap:=h',toks:=tk }) :
  wpAny (model prog w) A.in1 (Builtin.List.listExtendWith (.ref S) (.ref I) res)
   (λfin s'=>match fin with | .done f=>R (.ok f) s' | .again c'=>c'.quiet=true/\codeAny (model prog w) A c' R s') (λe s'=>R (.error e) s') s:=by
 have W:=(Walks.listRev (prog:=prog) (w:=w) (A:=A.in1) hh I l Oy items).toS;have u4:S∉[I,l]:=by simp [jE,pO]
 have hT:s.TypeIs (.ref I) "list_reverseiterator":=hI.typeIs;have key:∀ (h:Heap) (c1 tk:Nat),h.IsRevIter I l ((items.size:Int) - 1)->h.IsList l items->(∀ b o,b≠S->s.heap.get? b=some o->h.get? b=some o)->h.get? S=some { cls:=.type "list",data:=.seq #[] c1 } ->
   codeAny (model prog w) A (.builtin "list.extend.loop" ⟨[.ref S,.ref I,res],[]⟩) R { s with heap:=h,toks:=tk }:=by
  intro h c1 tk hit u5 hk fE;refine codeAny_extend_loopS W (by rw [sizeLine_eq];omega) S u4 res items.size 0 _ #[] c1 rfl (Nat.zero_le _) ⟨Nat.zero_le _,by simpa using hit,u5⟩ fE (ItemsOf.nil _) λs' Je c' hm ag GV=>?_;rw [Moved.eq_with hm];refine hR s'.heap s'.toks Je c' (λb o hb u6 e=>hm.heap b o (λK9=>?_) (hk b o hb e)) ag GV;rcases List.mem_cons.mp K9 with e' | K9
  ·exact hb e'
  ·exact u6 (List.mem_singleton.mp K9)
 unfold Builtin.List.listExtendWith;refine wpAny_bind (wpAny_typeOf hT ?_);have h1:Builtin.List.listSameRef (.ref S) (.ref I)=false:=by simp [Builtin.List.listSameRef,jE]
 have h2:(Value.type "list_reverseiterator"==Value.type "list")=false:=by decide
 have h3:(Value.type "list_reverseiterator"==Value.type "tuple")=false:=by decide
 simp only [h1,h2,h3,Bool.or_false,Bool.false_eq_true,if_false];refine wpAny_bind (wpAny_pyIter_revIter hI ?_);refine wpAny_bind (wpAny_holding (Hv hI λb tk=>?_));have fE:({ s with toks:=tk }:Shared).heap.get? S=some { cls:=.type "list",data:=.seq #[] c0 }:=hS;refine wpAny_ite_split (λ_=>?_) (λ_=>wpAny_pure ⟨plainId_quiet F.plain_extend_loop _,key _ c0 _ hI hl (λb o _ e=>e) hS⟩);refine wpAny_bind (wpAny_rule ?_);refine wpAny_bind ?_;show wpAny _ _ (updateSeq S (·.push .none) >>= λ_=>updateSeq S (·.pop)) _ _ _;refine wpAny_bind (wpAny_updateSeq fE rfl ?_);have fF:=Heap.get?_update_self (Obj.mapSeq (·.push Value.none)) fE rfl;refine wpAny_updateSeq (hz:=by seq_fits) fF rfl ?_;have u7:=Heap.get?_update_self (Obj.mapSeq (·.pop)) fF rfl;have Xs:∀ b o,b≠S->s.heap.get? b=some o->((s.heap.update S (Obj.mapSeq (·.push Value.none))).update S (Obj.mapSeq (·.pop))).get? b=some o:=λb o hb e =>
  (Heap.get?_update_other _ _ (Ne.symm hb)).trans ((Heap.get?_update_other _ _ (Ne.symm hb)).trans e)
 exact wpAny_pure ⟨plainId_quiet F.plain_extend_loop _,key _ _ _ (hI.at λo e=>Xs I o (Ne.symm jE) e) (hl.at λo e=>Xs l o (Ne.symm pO) e) Xs u7⟩
theorem HV {Q:Value->Shared->Prop}{I l:Addr}{items:Array Value}(hh:A.handled=none)(hI:s.heap.IsRevIter I l ((items.size:Int) - 1))(hl:s.heap.IsList l items)(Oy:l≠I)(hlen:items.size < 2 ^ 20)
  (hQ:∀ h' tk Je c',(∀ b o,b≠I->s.heap.get? b=some o->h'.get? b=some o)->h'.get? s.heap.objs.size=some { cls:=.type "list",dict:=none,data:=.seq Je c',slots:=#[] } ->
   ItemsOf (λi v=>items[items.size - 1 - i]?=some v) Je items.size->Q (.ref s.heap.objs.size) { s with heap:=h',toks:=tk }):wpAny (model prog w) A (call (.type "list") [.ref I]) Q E s:=by
 have bb:I < s.heap.objs.size:=by obtain ⟨o,ho,_⟩:=hI;exact Heap.lt_size ho
 have bc:l < s.heap.objs.size:=by obtain ⟨o,ho,_⟩:=hl;exact Heap.lt_size ho
 refine callType_codes (Q₁:=λobj s1=>obj=.ref s.heap.objs.size/\s1={ s with heap:=s.heap.push { cls:=.type "list",data:=.seq #[] } }) F.called_list (F.typeCall_list_1 _) F.entry_list_init (code_list_new _ ⟨rfl,rfl⟩) λobj s1 q1=>?_;obtain ⟨rfl,rfl⟩:=q1;have hS:(s.heap.push { cls:=.type "list",data:=.seq #[] }).get? s.heap.objs.size=some { cls:=.type "list",data:=.seq #[] }:=Heap.get?_push_size _ rfl;refine ⟨⟨_,hS,rfl⟩,F.args_list_init_2 _ _,?_⟩;show wpAny _ _ (do let old <- Builtin.List.listItems (.ref s.heap.objs.size);Builtin.List.listUpdate (.ref s.heap.objs.size) (λ_=>#[]);letGo old.toList.reverse;Builtin.List.listExtendWith (.ref s.heap.objs.size) (.ref I) .none) _ _ _
 refine wpAny_bind ?_;unfold Builtin.List.listItems;refine wpAny_bind (wpAny_seqItems hS rfl (wpAny_pure ?_));show wpAny _ _ (updateSeq s.heap.objs.size (λ_=>#[]) >>= λ_=>letGo (#[]:Array Value).toList.reverse >>= λ_=>Builtin.List.listExtendWith (.ref s.heap.objs.size) (.ref I) .none) _ _ _;refine wpAny_bind (wpAny_updateSeq hS rfl ?_);have fF:=Heap.get?_update_self (Obj.mapSeq (λ_=>(#[]:Array Value))) hS rfl;have Xs:∀ b o,b≠s.heap.objs.size->s.heap.get? b=some o->((s.heap.push { cls:=.type "list",data:=.seq #[] }).update s.heap.objs.size (Obj.mapSeq (λ_=>(#[]:Array Value)))).get? b=some o :=
  λb o hb e=>(Heap.get?_update_other _ _ (Ne.symm hb)).trans (Heap.get?_push_of_some _ e)
 refine wpAny_bind (wpAny_letGo ?_);refine LN (A:=A.in1) (I:=I) (l:=l) (items:=items) hh (hI.at λo e=>Xs I o (Nat.ne_of_lt bb) e) (hl.at λo e=>Xs l o (Nat.ne_of_lt bc) e) Oy hlen _ .none _ fF (Ne.symm (Nat.ne_of_lt bb)) (Ne.symm (Nat.ne_of_lt bc)) λh' tk Je c' hk ag GV=>?_;exact ⟨rfl,hQ h' tk Je c' (λb o hb e=>hk b o (Nat.ne_of_lt (Heap.lt_size e)) hb (Xs b o (Nat.ne_of_lt (Heap.lt_size e)) e)) ag GV⟩
end
end PySem
namespace L2
open PySem PySem.Spec PyProof.Rows KS
section
variable {X:Cx}
noncomputable def FG (K:W.Frag)(ta:TA):TE:=fun σ H Q=>ta σ H λvs H1=>∃ a xs,vs=[.ref a]/\AI K H1 a xs/\xs.length < 1000000/\∀ l,H1 l=none->Q (.ref l) (upd H1 l (.lst xs.reverse))
theorem Kk {a:Expr}{ta:TA}{p1 p2 Qe HM:Pos}(hc:X.calm=true)(jF:Gl X "list")(jG:X.mg "list"=none)(jH:Gl X "reversed")(jI:X.mg "reversed"=none)(ha:PA X [a] ta)
  (hs:starEach [a] X.env=[(false,eval a X.env)]:=by rfl)
  (he:starEach [.Call (.Name "reversed" p2) [a] [] HM] X.env=(false,eval (.Call (.Name "reversed" p2) [a] [] HM) X.env)::starEach [] X.env:=by rfl) :
  PE X (.Call (.Name "list" p1) [.Call (.Name "reversed" p2) [a] [] HM] [] Qe) (FG X.K ta):=by
 intro pins s σ H Q I h;refine wpAny_Call_Name_kw (Dt I jF jG boot_list ?_);refine PyProof.Rows.callWith_type1 ?_ he rfl;rw [he];show wpAny _ _ (spliced ((false,eval (.Call (.Name "reversed" p2) [a] [] HM) X.env)::backTo Qe (starEach [] X.env))) _ _ s;refine Calls.spliced_cons ?_;refine Call_ (Dt I jH jI boot_reversed (PyProof.Rows.callWith_type1 (AX (ha HM pins s σ H _ I h) λus s1 q1=>?_) hs rfl));obtain ⟨vs,H1,I1,r1,t,xs,rfl,hq,hx,q⟩:=q1;obtain ⟨u,rfl,ru⟩:=vals1 r1;obtain rfl:u=Value.ref t:=ru;obtain ⟨its,rv,pl,hz⟩:=I1.list hq;have hlen:=rv.length;refine call_reversed_list pl.isList ?_;refine Calls.spliced_nil ?_;have u9:t < s1.heap.objs.size:=by obtain ⟨o,n,e,_⟩:=pl;exact Heap.lt_size e
 have hT:s1.heap.objs.size≠t:=Ne.symm (Nat.ne_of_lt u9);have I2:Inv X pins σ H1 { s1 with heap:=s1.heap.push (revObj t ((its.toArray.size:Int) - 1)) }:=I1.kept (t':=s1.toks) λb o z=>Heap.get?_push_of_some _ z;refine HV (I:=s1.heap.objs.size) (l:=t) (items:=its.toArray) (I.ok.hd hc) ⟨_,Heap.get?_push_size _ rfl,rfl,rfl⟩ (pl.isList.at λo z=>Heap.get?_push_of_some _ z) (Ne.symm hT) (by rw [List.size_toArray];omega) λh' tk acc c' hk hS hA=>?_;have nI:H1 s1.heap.objs.size=none:=I1.hok.fresh (Nat.le_refl _);obtain ⟨f0,f1,_,f3,f4,f5⟩:=I1.abh (H':=H1) (Nat.le_refl _) nI;have I3:Inv X pins σ H1 { s1 with heap:=h',toks:=tk }:=I2.turned (t':=tk) hk f0 f1 f3 f4 f5;have nS:H1 (s1.heap.push (revObj t ((its.toArray.size:Int) - 1))).objs.size=none:=I2.hok.fresh (Nat.le_refl _);have uc:=NI rv hA;have I4:Inv X pins σ (upd H1 (s1.heap.push (revObj t ((its.toArray.size:Int) - 1))).objs.size (.lst xs.reverse)) { s1 with heap:=h',toks:=tk }:=by
  refine I2.abm (ch:=[s1.heap.objs.size]) rfl ?_ (I3.hok.aau nS ⟨by rw [List.length_reverse];exact hz,acc.toList,c',uc,by simpa using hS⟩) I2.bare ?_
  ·have u0:Un (FO X.stack) [s1.heap.objs.size] H1 H1 (s1.heap.push (revObj t ((its.toArray.size:Int) - 1))) h':=by
    have kk:∀ b o,b∉[s1.heap.objs.size]->(s1.heap.push (revObj t ((its.toArray.size:Int) - 1))).get? b=some o->h'.get? b=some o:=λb o hb z=>hk b o (λy=>hb (by simp [y])) z;exact ⟨λb o z _ _ hx=>kk b o hx z,λb o z _ _ hx=>⟨o.slots,kk b o hx z⟩,λb o z n _=>n,λb o z hx=>⟨o,kk b o hx z⟩,λ_ _ z=>z,λ_ _ _ z=>z,λb ps z=>⟨#[],by rw [z];simp⟩⟩
   exact u0.aau nS (Heap.get?_none_of_le (Nat.le_refl _))
  ·intro b hb;obtain rfl:=List.mem_singleton.mp hb;exact ⟨f3,f1,f4,f5⟩
 exact ⟨.ref _,_,I4,rfl,q _ nS⟩
theorem LO {a:Expr}{ta:TA}{p1 p2 Qe HM:Pos}(hc:X.calm=true)(jF:Gl X "list")(jG:X.mg "list"=none)(jH:Gl X "reversed")(jI:X.mg "reversed"=none)(ha:SA X [a] ta)
  (hs:starEach [a] X.env=[(false,eval a X.env)]:=by rfl)
  (he:starEach [.Call (.Name "reversed" p2) [a] [] HM] X.env=(false,eval (.Call (.Name "reversed" p2) [a] [] HM) X.env)::starEach [] X.env:=by rfl) :
  SE X (.Call (.Name "list" p1) [.Call (.Name "reversed" p2) [a] [] HM] [] Qe) (FG X.K ta):=⟨Kk hc jF jG jH jI ha.out hs he⟩
end
section
variable {K:W.Frag}{σ:St}{H:Hp}{Q:VK}{D:Ends}{ta tv te:TE}{f:Str}{t:TA}{C:Addr}{sp:Sp}{E:XK}{u:TS}
noncomputable def jJ (J:It)(g:TG)(tb:TS)(D:Ends)(σ:St)(H:Hp):Prop:=∃ W:Nat->Nat->St->Hp->Prop,(∃ m,W 0 m σ H)/\∀ i m σ H,W i m σ H ->
 (J.stop i H/\D.nx σ H)\/(J.go i H/\∃ N:St->Hp->Prop,(∀ σ' H',N σ' H'->∃ m',m' < m/\W (i+1) m' σ' H')/\∀ x H',J.yld i H x H'->g x σ H' fun σ2 H2=>tb { D with nx:=N,ct:=N,bk:=D.nx } σ2 H2)
theorem Z3 {wi:TI}{g:TG}{tb:TS}(q:wi σ H λJ H1=>jJ J g tb { D with nx:=u D } σ H1):Bp (VY wi g tb) u D σ H:=q
theorem fG {R:It->Hp->Prop}(q:t σ H λvs H1=>∃ a xs,vs=[.ref a]/\AI K H1 a xs/\R (Iq K a xs.length) H1):Wn K t σ H R:=q
theorem Kl {i:Nat}{x:V}{R:St->Hp->Prop}(q:R (σ.set i (some x)) H):BP i x σ H R:=q
theorem fH {rows:List (Str × Value)}(q:ta σ H λy H1=>∃ (k:Str) (u:Value) (v:V),y=.str k/\rowAt rows k=some u/\RelV v u/\Q v H1):QQ rows ta σ H Q:=q
theorem bf {MR:List (Str × Sp)}(q:ta σ H λy H1=>∃ (x:Str) (sp:Sp),y=.str x/\(x,sp)∈MR/\t σ H1 λvs H2=>sp vs H2 Q E):LM MR E ta t σ H Q:=q
theorem jK {T:String}{r:V->List V->Hp->VK->Prop}(q:ta σ H λx H1=>Zz K T x H1/\r x [] H1 Q):So K T r ta σ H Q:=q
theorem pQ {T:String}{r:V->List V->Hp->VK->Prop}(q:ta σ H λx H1=>Zz K T x H1/\t σ H1 λxs H2=>r x xs H2 Q):gU K T r ta t σ H Q:=q
theorem V4 (q:t σ H λvs H1=>∃ a xs,vs=[.ref a]/\AI K H1 a xs/\xs.length < 1000000/\∀ l,H1 l=none->Q (.ref l) (upd H1 l (.lst xs.reverse))):FG K t σ H Q:=q
end
end L2
local macro_rules | `(tactic| fail)=>do
 let mut r<- `(tactic| with_reducible refine L2.V4 ?_)
 for s in "fM L2.pQ L2.jK L2.bf L2.fG L2.Kl L2.Z3 L2.fH Z4 TL Xu fL Xt fI jL".splitOn " " do r<- `(tactic| first | with_reducible refine $(Lean.mkIdent s.toName) ?_ | $r:tactic)
 `(tactic| first
 | ((with_reducible refine jM (x:=?v) ?h ?q);(case h=>rfl))
 | $r:tactic)
namespace L2
open PySem PySem.Spec PyProof.Rows KS
noncomputable def FH (K:W.Frag)(a:Addr)(xs:List V):Prop:=∃ (o:Obj) (its:Array Value) (n:Nat),K.lookup a=some o/\o.cls=.type "tuple"/\o.data=.seq its n/\its.size<=sizeLine/\Vals xs its.toList
theorem FH.sq {K:W.Frag}{a:Addr}{xs:List V}(h:FH K a xs)(H:Hp):B0 K H a xs:=.inr h
end L2
namespace KX
open PySem
namespace Ex
noncomputable def wd:Ex->Str
 | nm _=>"name" | num _=>"number" | tru _=>"truth" | emp=>"empty" | fn _ _=>"fun" | rc _ _ _=>"rec" | cal _ _=>"call" | lt _ _ _=>"let" | wh _ _ _=>"when" | pr _ _=>"pair"
 | opn _ _ _ _=>"open" | lk _ _=>"link" | spl _ _ _ _ _=>"split" | op _ _ _=>"op"
noncomputable def prt:Ex->List (Ex × List Str)
 | nm _ | num _ | tru _ | emp=>[]
 | fn x b=>[(b,[x])] | rc f x b=>[(b,[f,x])] | cal a b=>[(a,[]),(b,[])] | lt x a b=>[(a,[]),(b,[x])] | wh a b c=>[(a,[]),(b,[]),(c,[])] | pr a b=>[(a,[]),(b,[])]
 | opn a x y b=>[(a,[]),(b,[x,y])] | lk a b=>[(a,[]),(b,[])] | spl a b x y c=>[(a,[]),(b,[]),(c,[x,y])] | op _ a b=>[(a,[]),(b,[])]
noncomputable def plc:Ex->List (Nat × List Nat)
 | nm _ | num _ | tru _ | emp=>[]
 | fn _ _=>[(2,[1])] | rc _ _ _=>[(3,[1,2])] | cal _ _=>[(1,[]),(2,[])] | lt _ _ _=>[(2,[]),(3,[1])] | wh _ _ _=>[(1,[]),(2,[]),(3,[])] | pr _ _=>[(1,[]),(2,[])]
 | opn _ _ _ _=>[(1,[]),(4,[2,3])] | lk _ _=>[(1,[]),(2,[])] | spl _ _ _ _ _=>[(1,[]),(2,[]),(5,[3,4])] | op _ _ _=>[(2,[]),(3,[])]
end Ex
end KX
namespace L2
open PySem PySem.Spec PyProof.Rows KS KX
noncomputable def jN (H:Hp)(us:List V)(row:Nat × List Nat)(pt:Ex × List Str):Prop:=(∃ re,us[row.1]?=some re/\An H pt.1 re)/\Paired (λn x=>us[n]?=some (V.str x)) row.2 pt.2
theorem An.look {H:Hp}{e:Ex}{r:V}(h:An H e r):∃ p us,r=.ref p/\H p=some (.tup (.str e.wd::us))/\Paired (jN H (.str e.wd::us)) e.plc e.prt/\us.length<=5:=by
 cases e with
 | nm _=>obtain ⟨p,h1,h2⟩:=h;exact ⟨p,_,h1,h2,.nil,by simp⟩
 | num _=>obtain ⟨p,h1,h2⟩:=h;exact ⟨p,_,h1,h2,.nil,by simp⟩
 | tru _=>obtain ⟨p,h1,h2⟩:=h;exact ⟨p,_,h1,h2,.nil,by simp⟩
 | emp=>obtain ⟨p,h1,h2⟩:=h;exact ⟨p,_,h1,h2,.nil,by simp⟩
 | fn _ _=>obtain ⟨p,rb,h1,h2,h3⟩:=h;exact ⟨p,_,h1,h2,.cons ⟨⟨rb,rfl,h3⟩,.cons rfl .nil⟩ .nil,by simp⟩
 | rc _ _ _=>obtain ⟨p,rb,h1,h2,h3⟩:=h;exact ⟨p,_,h1,h2,.cons ⟨⟨rb,rfl,h3⟩,.cons rfl (.cons rfl .nil)⟩ .nil,by simp⟩
 | cal _ _=>obtain ⟨p,ra,rb,h1,h2,h3,h4⟩:=h;exact ⟨p,_,h1,h2,.cons ⟨⟨ra,rfl,h3⟩,.nil⟩ (.cons ⟨⟨rb,rfl,h4⟩,.nil⟩ .nil),by simp⟩
 | lt _ _ _=>obtain ⟨p,ra,rb,h1,h2,h3,h4⟩:=h;exact ⟨p,_,h1,h2,.cons ⟨⟨ra,rfl,h3⟩,.nil⟩ (.cons ⟨⟨rb,rfl,h4⟩,.cons rfl .nil⟩ .nil),by simp⟩
 | wh _ _ _=>obtain ⟨p,ra,rb,rc,h1,h2,h3,h4,h5⟩:=h;exact ⟨p,_,h1,h2,.cons ⟨⟨ra,rfl,h3⟩,.nil⟩ (.cons ⟨⟨rb,rfl,h4⟩,.nil⟩ (.cons ⟨⟨rc,rfl,h5⟩,.nil⟩ .nil)),by simp⟩
 | pr _ _=>obtain ⟨p,ra,rb,h1,h2,h3,h4⟩:=h;exact ⟨p,_,h1,h2,.cons ⟨⟨ra,rfl,h3⟩,.nil⟩ (.cons ⟨⟨rb,rfl,h4⟩,.nil⟩ .nil),by simp⟩
 | opn _ _ _ _=>obtain ⟨p,ra,rb,h1,h2,h3,h4⟩:=h;exact ⟨p,_,h1,h2,.cons ⟨⟨ra,rfl,h3⟩,.nil⟩ (.cons ⟨⟨rb,rfl,h4⟩,.cons rfl (.cons rfl .nil)⟩ .nil),by simp⟩
 | lk _ _=>obtain ⟨p,ra,rb,h1,h2,h3,h4⟩:=h;exact ⟨p,_,h1,h2,.cons ⟨⟨ra,rfl,h3⟩,.nil⟩ (.cons ⟨⟨rb,rfl,h4⟩,.nil⟩ .nil),by simp⟩
 | spl _ _ _ _ _=>obtain ⟨p,ra,rb,rc,h1,h2,h3,h4,h5⟩:=h;exact ⟨p,_,h1,h2,.cons ⟨⟨ra,rfl,h3⟩,.nil⟩ (.cons ⟨⟨rb,rfl,h4⟩,.nil⟩ (.cons ⟨⟨rc,rfl,h5⟩,.cons rfl (.cons rfl .nil)⟩ .nil)),by simp⟩
 | op _ _ _=>obtain ⟨p,ra,rb,h1,h2,h3,h4⟩:=h;exact ⟨p,_,h1,h2,.cons ⟨⟨ra,rfl,h3⟩,.nil⟩ (.cons ⟨⟨rb,rfl,h4⟩,.nil⟩ .nil),by simp⟩
noncomputable def TM (K:W.Frag)(row:Nat × List Nat)(u:V):Prop:=∃ b c,u=.ref b/\FH K b [.int row.1,.ref c]/\FH K c (row.2.map λn:Nat=>V.int n)
noncomputable def jO (K:W.Frag)(rows:List (Str × Value)):Prop:=∀ e:Ex,∃ a us,rowAt rows e.wd=some (.ref a)/\FH K a us/\Paired (TM K) e.plc us
end L2
namespace KX
open PySem L2
inductive Itm where
 | sc (v:V) | pt (e:Ex)
namespace Ex
noncomputable def its:Ex->List Itm
 | nm x=>[.sc (.str x)] | num i=>[.sc (.int i)] | tru b=>[.sc (.bl b)] | emp=>[]
 | fn x b=>[.sc (.str x),.pt b] | rc f x b=>[.sc (.str f),.sc (.str x),.pt b] | cal a b=>[.pt a,.pt b] | lt x a b=>[.sc (.str x),.pt a,.pt b] | wh a b c=>[.pt a,.pt b,.pt c] | pr a b=>[.pt a,.pt b]
 | opn a x y b=>[.pt a,.sc (.str x),.sc (.str y),.pt b] | lk a b=>[.pt a,.pt b] | spl a b x y c=>[.pt a,.pt b,.sc (.str x),.sc (.str y),.pt c] | op o a b=>[.sc (.str o),.pt a,.pt b]
noncomputable def given:Ex->List Str
 | fn x _=>[x] | rc f x _=>[f,x] | lt x _ _=>[x] | opn _ x y _=>[x,y] | spl _ _ x y _=>[x,y]
 | _=>[]
noncomputable def fst:Ex->Nat
 | cal a b | pr a b | lk a b=>if isV a then (if isV b then 0 else 2) else 1
 | op _ a b=>if isV a then (if isV b then 0 else 3) else 2
 | lt _ a _=>if isV a then 0 else 2
 | wh a _ _ | opn a _ _ _ | spl a _ _ _ _=>if isV a then 0 else 1
 | _=>0
end Ex
open Ex
noncomputable def gI (x:Str)(v:Ex):Itm->Itm
 | .sc u=>.sc u
 | .pt e=>.pt (give x v e)
noncomputable def L3 (x:Str)(v:Ex)(hid:Bool):List Itm->List Itm
 | []=>[]
 | [i]=>[if hid then i else gI x v i]
 | i::r=>gI x v i::L3 x v hid r
theorem QU (x y:Str)(v:Ex):(Su.one x v).rm y=if x=y then λ_=>none else Su.one x v:=by
 funext z
 simp only [Su.rm,Su.one];by_cases e:x=y
 ·subst e;by_cases e':z=x <;> simp [e']
 ·rw [if_neg e];simp only [Su.one];by_cases e':z=y
  ·subst e';simp;exact λh=>e h.symm
  ·simp [e']
theorem CQ (e:Ex):sub (λ_=>none) e=e:=by
 have rm:∀ x:Str,Su.rm (λ_=>none) x=λ_=>none:=λx=>by funext y;simp [Su.rm]
 induction e with
 | nm _ | num _ | tru _ | emp=>rfl
 | fn x b ih=>simp only [sub,rm,ih]
 | rc f x b ih=>simp only [sub,rm,ih]
 | cal a b ia ib | pr a b ia ib | lk a b ia ib=>simp only [sub,ia,ib]
 | op o a b ia ib=>simp only [sub,ia,ib]
 | lt x a b ia ib=>simp only [sub,rm,ia,ib]
 | wh a b c ia ib ic=>simp only [sub,ia,ib,ic]
 | opn a x y b ia ib=>simp only [sub,rm,ia,ib]
 | spl a b x y c ia ib ic=>simp only [sub,rm,ia,ib,ic]
theorem Xv (x:Str):Su.rm (λ_=>none) x=λ_=>none:=by funext y;simp [Su.rm]
theorem Jf (x y:Str)(v b:Ex):sub ((Su.one x v).rm y) b=if x=y then b else give x v b:=by
 rw [QU];by_cases e:x=y
 ·simp only [e,if_true];exact CQ b
 ·simp only [e,if_false];rfl
theorem Hw (x y z:Str)(v b:Ex):sub (((Su.one x v).rm y).rm z) b=if x=y\/x=z then b else give x v b:=by
 rw [QU];by_cases e:x=y
 ·simp only [e,if_true,true_or,Xv];exact CQ b
 ·simp only [e,if_false,false_or];exact Jf x z v b
theorem QV {x:Str}{v e:Ex}(h:∀ y,e≠.nm y):(give x v e).its=L3 x v (decide (x∈e.given)) e.its/\(give x v e).wd=e.wd:=by
 cases e with
 | nm y=>exact absurd rfl (h y)
 | num _ | tru _=>exact ⟨rfl,rfl⟩
 | emp=>exact ⟨rfl,rfl⟩
 | fn y b=>simp only [give,sub,its,given,L3,gI,Jf,wd,List.mem_singleton,decide_eq_true_eq,and_true];split <;> simp
 | rc f y b=>simp only [give,sub,its,given,L3,gI,Hw,wd,List.mem_cons,List.not_mem_nil,or_false,decide_eq_true_eq,and_true];split <;> simp
 | cal a b | pr a b | lk a b=>simp [give,sub,its,given,L3,gI,wd]
 | op o a b=>simp [give,sub,its,given,L3,gI,wd]
 | lt y a b=>simp only [give,sub,its,given,L3,gI,Jf,wd,List.mem_singleton,decide_eq_true_eq,and_true];split <;> simp
 | wh a b c=>simp [give,sub,its,given,L3,gI,wd]
 | opn a y z b=>simp only [give,sub,its,given,L3,gI,Hw,wd,List.mem_cons,List.not_mem_nil,or_false,decide_eq_true_eq,and_true];split <;> simp
 | spl a b y z c=>simp only [give,sub,its,given,L3,gI,Hw,wd,List.mem_cons,List.not_mem_nil,or_false,decide_eq_true_eq,and_true];split <;> simp
noncomputable def put:Ex->Nat->Ex->Ex
 | cal a b,k,z=>if k=1 then cal z b else cal a z
 | pr a b,k,z=>if k=1 then pr z b else pr a z
 | lk a b,k,z=>if k=1 then lk z b else lk a z
 | op o a b,k,z=>if k=2 then op o z b else op o a z
 | lt x _ b,_,z=>lt x z b
 | wh _ b c,_,z=>wh z b c
 | opn _ x y b,_,z=>opn z x y b
 | spl _ b x y c,_,z=>spl z b x y c
 | e,_,_=>e
theorem MS (e:Ex):(e.fst=0/\stp e=red e)\/∃ a,e.fst<=3/\1<=e.fst/\e.its[e.fst - 1]?=some (.pt a)/\isV a=false/\stp e=Fy (put e e.fst) (stp a)/\(∀ z,(put e e.fst z).its=e.its.set (e.fst - 1) (.pt z)/\(put e e.fst z).wd=e.wd):=by
 cases e with
 | nm _ | num _ | tru _ | emp | fn _ _ | rc _ _ _=>exact .inl ⟨rfl,rfl⟩
 | cal a b | pr a b | lk a b =>
  simp only [fst,stp];cases ha:isV a
  ·exact .inr ⟨a,by simp,by simp,by simp [its],ha,by simp;rfl,λz=>by simp [put,its,wd]⟩
  ·cases hb:isV b
   ·exact .inr ⟨b,by simp,by simp,by simp [its],hb,by simp;rfl,λz=>by simp [put,its,wd]⟩
   ·exact .inl ⟨rfl,rfl⟩
 | op o a b =>
  simp only [fst,stp];cases ha:isV a
  ·exact .inr ⟨a,by simp,by simp,by simp [its],ha,by simp;rfl,λz=>by simp [put,its,wd]⟩
  ·cases hb:isV b
   ·exact .inr ⟨b,by simp,by simp,by simp [its],hb,by simp;rfl,λz=>by simp [put,its,wd]⟩
   ·exact .inl ⟨rfl,rfl⟩
 | lt x a b =>
  simp only [fst,stp];cases ha:isV a
  ·exact .inr ⟨a,by simp,by simp,by simp [its],ha,by simp;rfl,λz=>by simp [put,its,wd]⟩
  ·exact .inl ⟨rfl,rfl⟩
 | wh a b c =>
  simp only [fst,stp];cases ha:isV a
  ·exact .inr ⟨a,by simp,by simp,by simp [its],ha,by simp;rfl,λz=>by simp [put,its,wd]⟩
  ·exact .inl ⟨rfl,rfl⟩
 | opn a x y b =>
  simp only [fst,stp];cases ha:isV a
  ·exact .inr ⟨a,by simp,by simp,by simp [its],ha,by simp;rfl,λz=>by simp [put,its,wd]⟩
  ·exact .inl ⟨rfl,rfl⟩
 | spl a b x y c =>
  simp only [fst,stp];cases ha:isV a
  ·exact .inr ⟨a,by simp,by simp,by simp [its],ha,by simp;rfl,λz=>by simp [put,its,wd]⟩
  ·exact .inl ⟨rfl,rfl⟩
end KX
namespace L2
open PySem PySem.Spec PyProof.Rows KS KX
noncomputable def E9 (H:Hp):Itm->V->Prop
 | .sc v,u=>u=v
 | .pt e,u=>An H e u
theorem E9.mono {H H':Hp}(s:TSub H H'):∀ {i:Itm} {u:V},E9 H i u->E9 H' i u
 | .sc _,_,h=>h
 | .pt _,_,h=>An.mono s h
theorem An.its {H:Hp}{e:Ex}{r:V}(h:An H e r):∃ p us,r=.ref p/\H p=some (.tup (.str e.wd::us))/\Paired (E9 H) e.its us:=by
 cases e with
 | nm _=>obtain ⟨p,h1,h2⟩:=h;exact ⟨p,_,h1,h2,.cons rfl .nil⟩
 | num _=>obtain ⟨p,h1,h2⟩:=h;exact ⟨p,_,h1,h2,.cons rfl .nil⟩
 | tru _=>obtain ⟨p,h1,h2⟩:=h;exact ⟨p,_,h1,h2,.cons rfl .nil⟩
 | emp=>obtain ⟨p,h1,h2⟩:=h;exact ⟨p,_,h1,h2,.nil⟩
 | fn _ _=>obtain ⟨p,rb,h1,h2,h3⟩:=h;exact ⟨p,_,h1,h2,.cons rfl (.cons h3 .nil)⟩
 | rc _ _ _=>obtain ⟨p,rb,h1,h2,h3⟩:=h;exact ⟨p,_,h1,h2,.cons rfl (.cons rfl (.cons h3 .nil))⟩
 | cal _ _=>obtain ⟨p,ra,rb,h1,h2,h3,h4⟩:=h;exact ⟨p,_,h1,h2,.cons h3 (.cons h4 .nil)⟩
 | lt _ _ _=>obtain ⟨p,ra,rb,h1,h2,h3,h4⟩:=h;exact ⟨p,_,h1,h2,.cons rfl (.cons h3 (.cons h4 .nil))⟩
 | wh _ _ _=>obtain ⟨p,ra,rb,rc,h1,h2,h3,h4,h5⟩:=h;exact ⟨p,_,h1,h2,.cons h3 (.cons h4 (.cons h5 .nil))⟩
 | pr _ _=>obtain ⟨p,ra,rb,h1,h2,h3,h4⟩:=h;exact ⟨p,_,h1,h2,.cons h3 (.cons h4 .nil)⟩
 | opn _ _ _ _=>obtain ⟨p,ra,rb,h1,h2,h3,h4⟩:=h;exact ⟨p,_,h1,h2,.cons h3 (.cons rfl (.cons rfl (.cons h4 .nil)))⟩
 | lk _ _=>obtain ⟨p,ra,rb,h1,h2,h3,h4⟩:=h;exact ⟨p,_,h1,h2,.cons h3 (.cons h4 .nil)⟩
 | spl _ _ _ _ _=>obtain ⟨p,ra,rb,rc,h1,h2,h3,h4,h5⟩:=h;exact ⟨p,_,h1,h2,.cons h3 (.cons h4 (.cons rfl (.cons rfl (.cons h5 .nil))))⟩
 | op _ _ _=>obtain ⟨p,ra,rb,h1,h2,h3,h4⟩:=h;exact ⟨p,_,h1,h2,.cons rfl (.cons h3 (.cons h4 .nil))⟩
theorem DM {α β:Type}{F:α->β->Prop}{ms:List β}(h:Paired F [] ms):ms=[]:=by cases h;rfl
theorem Bo {α β:Type}{F:α->β->Prop}{a:α}{as:List α}{ms:List β}(h:Paired F (a::as) ms):∃ x xs,ms=x::xs/\F a x/\Paired F as xs:=by
 cases h with
 | cons r t=>exact ⟨_,_,rfl,r,t⟩
noncomputable def jP (H:Hp):List Itm->(List V->Prop)->Prop
 | [],k=>k []
 | .sc u::l,k=>jP H l λus=>k (u::us)
 | .pt e::l,k=>∀ v,An H e v->jP H l λus=>k (v::us)
theorem ud {H:Hp}{l:List Itm}{us:List V}(h:Paired (E9 H) l us):∀ k:List V->Prop,jP H l k->k us:=by
 induction h with
 | nil=>exact λ_ z=>z
 | @cons a v _ _ r _ ih =>
  cases a with
  | sc u=>cases r;exact λk z=>ih _ z
  | pt e=>exact λk z=>ih _ (z v r)
theorem An.abf {H:Hp}{e:Ex}{p:Addr}{us:List V}(h1:H p=some (.tup (.str e.wd::us)))(h2:Paired (E9 H) e.its us):An H e (.ref p):=by
 refine ud h2 (λus=>H p=some (.tup (.str e.wd::us))->An H e (.ref p)) ?_ h1;clear h1 h2;cases e with
 | emp | nm _ | num _ | tru _=>exact λh=>⟨p,rfl,h⟩
 | fn _ _ | rc _ _ _=>exact λa ha h=>⟨p,a,rfl,h,ha⟩
 | wh _ _ _ | spl _ _ _ _ _=>exact λa ha b hb c hc h=>⟨p,a,b,c,rfl,h,ha,hb,hc⟩
 | _=>exact λa ha b hb h=>⟨p,a,b,rfl,h,ha,hb⟩
end L2
namespace KX
open PySem Ex
theorem q1 (a b:Nat):a < 1+max a b:=by omega
theorem q3 {a b v:Nat}(h:v<=b):v < 1+max a b:=by omega
theorem q4 (a b c:Nat):a < 1+max a (max b c):=by omega
theorem q5 (a b c:Nat):b < 1+max a (max b c):=by omega
theorem q6 {a b c v:Nat}(h:v<=c):v < 1+max a (max b c):=by omega
theorem Bk {e a:Ex}(h:Itm.pt a∈e.its):dep dz a < dep dz e:=by
 have two:∀ {u v:Ex},a=u\/a=v->∀ n,dep dz v<=n->dep dz a < 1+max (dep dz u) n:=λ{u v} h n hn=>by
  rcases h with rfl | rfl
  ·exact q1 _ _
  ·exact q3 hn
 have three:∀ {u v w:Ex},a=u\/a=v\/a=w->∀ n,dep dz w<=n->dep dz a < 1+max (dep dz u) (max (dep dz v) n):=λ{u v w} h n hn=>by
  rcases h with rfl | rfl | rfl
  ·exact q4 _ _ _
  ·exact q5 _ _ _
  ·exact q6 hn
 cases e with
 | nm _ | num _ | tru _ | emp=>simp [its] at h
 | fn x b=>simp [its] at h;subst h;simp only [dep,IB];exact Nat.lt_add_of_pos_left Nat.one_pos
 | rc f x b=>simp [its] at h;subst h;simp only [dep,IB];exact Nat.lt_add_of_pos_left Nat.one_pos
 | cal u v | pr u v | lk u v=>simp [its] at h;exact two h _ (Nat.le_refl _)
 | op o u v=>simp [its] at h;exact two h _ (Nat.le_refl _)
 | lt x u v=>simp [its] at h;exact two h _ (Dq (ME _))
 | wh u v w=>simp [its] at h;exact three h _ (Nat.le_refl _)
 | opn u x y v=>simp [its] at h;exact two h _ (Dq (ME _))
 | spl u v x y w=>simp [its] at h;exact three h _ (Dq (ME _))
open L2
theorem MT {x:Str}{v:Ex}{hid:Bool}:∀ {l:List Itm} {i:Nat} {it:Itm},l[i]?=some it->(L3 x v hid l)[i]?=some (if hid=true/\i+1=l.length then it else gI x v it)
 | [],_,_,h=>by simp at h
 | [a],0,_,h=>by
  simp at h;subst h;cases hid <;> simp [L3]
 | [_],_+1,_,h=>by simp at h
 | a::b::r,0,_,h=>by
  simp at h;subst h;simp [L3]
 | a::b::r,i+1,_,h=>by
  have:=MT (x:=x) (v:=v) (hid:=hid) (l:=b::r) (i:=i) (by simpa using h);simp only [L3,List.getElem?_cons_succ,List.length_cons] at this ⊢;rw [this];simp
theorem Jg (x:Str)(v:Ex)(hid:Bool):∀ l:List Itm,(L3 x v hid l).length=l.length
 | []=>rfl
 | [a]=>rfl
 | a::b::r=>by simp only [L3,List.length_cons];rw [Jg x v hid (b::r)];rfl
noncomputable def jQ:V->Bool
 | .str _ | .int _ | .bl _=>true
 | _=>false
theorem QW {e:Ex}{u:V}(h:Itm.sc u∈e.its):jQ u=true:=by
 cases e <;> simp [its] at h <;> first | (subst h;rfl) | (rcases h with rfl | rfl <;> rfl)
theorem Gs (e:Ex):e.its.length<=5:=by cases e <;> simp [its]
end KX
namespace KX
open PySem Ex
noncomputable def Ex.pls:Ex->List Nat
 | cal _ _ | pr _ _ | lk _ _=>[1,2]
 | op _ _ _=>[2,3]
 | lt _ _ _=>[2]
 | wh _ _ _ | opn _ _ _ _ | spl _ _ _ _ _=>[1]
 | _=>[]
noncomputable def Km (e:Ex)(k:Nat):Bool:=match e.its[k - 1]? with
 | some (.pt a)=>!isV a
 | _=>false
theorem Jh (e:Ex):e.fst=((e.pls).find? (Km e)).getD 0:=by
 cases e with
 | nm _ | num _ | tru _ | emp | fn _ _ | rc _ _ _=>rfl
 | cal a b | pr a b | lk a b | op _ a b=>cases ha:isV a <;> cases hb:isV b <;> simp [fst,pls,Km,its,List.find?,ha,hb]
 | lt _ a _ | wh a _ _ | opn a _ _ _ | spl a _ _ _ _=>cases ha:isV a <;> simp [fst,pls,Km,its,List.find?,ha]
theorem Xw {e:Ex}{k:Nat}(h:k∈e.pls):∃ a,e.its[k - 1]?=some (.pt a)/\1<=k:=by
 cases e <;> simp [pls] at h <;> first | (rcases h with rfl | rfl <;> exact ⟨_,rfl,⟨⟩⟩) | (subst h;exact ⟨_,rfl,⟨⟩⟩)
end KX
namespace L2
open PySem PySem.Spec PyProof.Rows KS KX
theorem Gu {α β:Type}{F:α->β->Prop}{a:α}{ms:List β}(h:Paired F [a] ms):∃ x,ms=[x]/\F a x:=by
 cases h with
 | cons r t=>cases t;exact ⟨_,rfl,r⟩
theorem Ff {α β:Type}{F:α->β->Prop}{a b:α}{ms:List β}(h:Paired F [a,b] ms):∃ x y,ms=[x,y]/\F a x/\F b y:=by
 cases h with
 | cons r t=>obtain ⟨y,rfl,h⟩:=Gu t;exact ⟨_,y,rfl,r,h⟩
theorem MU {α β:Type}{F:α->β->Prop}{a b c:α}{ms:List β}(h:Paired F [a,b,c] ms):∃ x y z,ms=[x,y,z]/\F a x/\F b y/\F c z:=by
 cases h with
 | cons r t=>obtain ⟨y,z,rfl,h⟩:=Ff t;exact ⟨_,y,z,rfl,r,h⟩
theorem bg {C:Addr}{E:XK}{t:TA}{D:Ends}{σ:St}{H:Hp}(q:t σ H λvs H1=>vs.length<=1000/\E (.ref C) none H1):Lx C E t D σ H:=q
end L2
local macro_rules | `(tactic| fail)=>`(tactic| with_reducible refine L2.bg ?_)
namespace L2
open PySem PySem.Spec PyProof.Rows KS KX
theorem jR {P:Program}{w:World}{K:W.Frag}{mg:Str->Option Value}{base:Heap}{N:List Str}{qual:Str}{scope:Scope}{f:Addr}{cd:Value}{A:Around}{outer:List Env}{s:Shared}{H:Hp}{E:XK}:Passes (FW P w) (Wx P w K mg base N qual scope f cd A outer s H E) E:=ZV (X:=BQ (FW P w) P w K mg base N qual scope f cd A outer s H E) D0 λ_ _ h=>h
noncomputable def fN (Pr:Program)(w:World)(K:W.Frag)(mg:Str->Option Value)(base:Heap)(k:Nat)(x:Str)(ps:List Str)(sp:Sp):Prop:=∃ f fd,Av Pr w K mg base (FW Pr w) k f fd ps sp/\W.keepIn K (.ref f)=true/\Binds K fd ps []/\mg x=some (.ref f)
section
variable {X:Cx}{k:Nat}{ps:List Str}{sp:Sp}{x:Str}{E:XK}{e:Expr}{es:List Expr}{t:TA}{p pos:Pos}
theorem V5 (F:fN X.prog X.w X.K X.mg X.base k x ps sp)(hx:Passes (FW X.prog X.w) X E)(hr:AG k X.A)(hg:Gl X x)(ha:SA X (e::es) t)(CW:(x==("__debug__":Str))=false:=by decide)
  (he:starEach (e::es) X.env=(false,eval e X.env)::starEach es X.env:=by exfalso) (Ci:(backTo pos (starEach es X.env)).any (·.1)=false:=by rfl) :
  SE X (.Call (.Name x p) (e::es) [] pos) (CV sp [] E t):=by
 obtain ⟨f,fd,h1,h2,h3,h4⟩:=F;exact T4 h1 hx hr hg h4 h2 h3 ha CW he Ci
end
end L2
namespace K
open PySem L2 KM KS KX
section
variable {Pr:Program}{w:World}{K:W.Frag}{mg:Str->Option Value}{base:Heap}
noncomputable def Kn (n:Nat):Sp:=λvs H Q _=>∃ (e:Ex) (r:V),vs=[r]/\An H e r/\dep dz e<=n/\∀ H',A9 H H'->Q (.bl e.isV) H'
noncomputable def Xx:Nat->Sp
 | 0=>J0
 | n+1=>Kn n
theorem ue {l:List Str}:(l.map V.str).all DK=true:=by induction l with
 | nil=>rfl
 | cons a b ih=>simp [DK,ih]
theorem Xy {e:Ex}(h:∀ a b,e≠.pr a b/\e≠.lk a b):FR (.str e.wd) [.str "pair",.str "link"]=false/\FR (.str e.wd) [.str "number",.str "truth",.str "empty",.str "fun",.str "rec"]=e.isV:=by
 cases e with
 | pr a b=>exact absurd rfl (h a b).1
 | lk a b=>exact absurd rfl (h a b).2
 | _=>simp only [Ex.wd,Ex.isV];decide
theorem jS:Am ["_law_tree"] ["_law_tree"] (A6 BE):=nofun
theorem QX {n:Nat}{f:Addr}{fd:FuncData}(F:C8 K "_law_is_value" "_law_is_value" BE f fd)(cS:Cl Pr w K mg base n "_law_is_value" ["_law_tree"] (Xx n)):Av Pr w K mg base Bs (n+1) f fd ["_law_tree"] (Kn n):=by
 refine F.okS jS (λB9 A outer s H vs Q E hr h=>?_)
 ·obtain ⟨e,r,rfl,he,hd,q⟩:=h;refine ⟨_,(A4 (AB (Al (r:=Nt K false) BJ (eI 0) (Ae (A1 A8 (A1 A8 A2))) rfl) (Ab (Ag (JR (As cS hr rfl (A1 (eI 0) A2)) (JQ (As cS hr rfl (A1 (eI 0) A2)))))) Ap)
   (Ab (Ag (C1 (r:=Nt K false) BJ (eI 0) (Ae (A1 A8 (A1 A8 (A1 A8 (A1 A8 (A1 A8 A2)))))) rfl)))),?_⟩
  obtain ⟨p,us,rfl,hp,hi⟩:=he.its;apply A5 hp (v:=.str e.wd) (Ad (j:=0) rfl) ?_;left;intros t1 H1 s1 e1;refine Es (.inr (B0.of e1)) rfl rfl ?_;left;by_cases pl:∃ a b,e=.pr a b\/e=.lk a b
  ·obtain ⟨a,b,h1,h2,h3,h4,h5⟩:∃ a b:Ex,e.its=[.pt a,.pt b]/\e.isV=(a.isV && b.isV)/\dep dz a < n/\dep dz b < n/\FR (.str e.wd) [.str "pair",.str "link"]=true:=by
    obtain ⟨a,b,rfl | rfl⟩:=pl
    ·simp only [dep] at hd;exact ⟨a,b,rfl,rfl,(),(),show FR (.str "pair") [.str "pair",.str "link"]=true by decide⟩
    ·simp only [dep] at hd;exact ⟨a,b,rfl,rfl,(),(),show FR (.str "link") [.str "pair",.str "link"]=true by decide⟩
   obtain ⟨ra,_,rfl,ha,hi⟩:=Bo (h1▸hi);obtain ⟨rb,_,rfl,hb,hi⟩:=Bo hi;cases DM hi;refine AK h5 ?_;left;cases n with
   | zero=>omega
   | succ n =>
   refine A5 (s1 _ _ hp) (v:=ra) rfl ?_;apply ⟨a,ra,rfl,An.mono (TSub.of_same s1) ha,(),λH2 s2=>?_⟩;left;cases ea:a.isV
   ·refine BG ?_;have:=q H2 (s1.trans s2);rw [h2,ea] at this;exact this
   ·refine C5 ?_;apply A5 (s2 _ _ (s1 _ _ hp)) (v:=rb) rfl ?_;apply ⟨b,rb,rfl,An.mono (TSub.of_same (s1.trans s2)) hb,(),λH3 s3=>?_⟩;have:=q H3 (s1.trans (s2.trans s3));rw [h2,ea] at this;exact this
  ·obtain ⟨w1,w2⟩:=Xy (e:=e) λa b=>⟨λz=>pl ⟨a,b,.inl z⟩,λz=>pl ⟨a,b,.inr z⟩⟩;refine Ay (λz=>by rw [w1] at z;cases z) ?_;apply A5 (s1 _ _ hp) (v:=.str e.wd) (Ad (j:=0) rfl) ?_;left;intros t2 H2 s2 e2;refine Es (.inr (B0.of e2)) rfl rfl ?_;have:=q H2 (s1.trans s2);rw [<- w2] at this;exact this
theorem V6 {f:Addr}{fd:FuncData}(D:Df K mg "_law_is_value" BE ["_law_tree"] f fd):∀ n,Cl Pr w K mg base (n+1) "_law_is_value" ["_law_tree"] (Kn n)
 | 0=>D.cl (QX (n:=0) D.F (D.cl F3))
 | n+1=>D.cl (QX (n:=n+1) D.F (V6 D n))
end
end K
namespace L2
open PySem KX
theorem Z5 {t:TA}{σ:St}{H:Hp}{R:It->Hp->Prop}(q:t σ H λvs H1=>∃ j:Int,vs=[.int j]/\-(2 ^ 62)<=j/\j < 2 ^ 62/\R (S6 0 j.toNat) H1):OW t σ H R:=q
end L2
local macro_rules | `(tactic| fail)=>`(tactic| with_reducible refine L2.Z5 ?_)
namespace K
open PySem L2 KM KS KX
section
variable {Pr:Program}{w:World}{K:W.Frag}{mg:Str->Option Value}{base:Heap}
noncomputable def FI (n:Nat):Sp:=λvs H Q _=>∃ (e v:Ex) (x:Str) (r rv:V),vs=[r,.str x,rv]/\An H e r/\An H v rv/\dep dz e<=n/\∀ r' H',A9 H H'->An H' (give x v e) r'->Q r' H'
noncomputable def TN:Nat->Sp
 | 0=>J0
 | n+1=>FI n
theorem Ko (x:Str):∀ l:List Str,FR (.str x) (l.map V.str)=decide (x∈l)
 | []=>by simp [FR]
 | a::r=>by
  have:=Ko x r;simp only [FR,List.map_cons,List.any_cons,List.mem_cons] at this ⊢;rw [this];by_cases e:x=a
  ·subst e;simp [Ph]
  ·have e':¬ a=x:=λz=>e z.symm;simp [Ph,e,e']
theorem bh {e:Ex}(h:¬ ∃ y b,e=.fn y b\/(∃ f,e=.rc f y b)\/∃ a,e=.lt y a b):FR (.str e.wd) [.str "fun",.str "rec",.str "let"]=false:=by
 cases e with
 | fn y b=>exact absurd ⟨y,b,.inl rfl⟩ h
 | rc f y b=>exact absurd ⟨y,b,.inr (.inl ⟨f,rfl⟩)⟩ h
 | lt y a b=>exact absurd ⟨y,b,.inr (.inr ⟨a,rfl⟩)⟩ h
 | _=>simp only [Ex.wd];decide
theorem bj {e:Ex}(h:¬ ∃ y1 y2 b,(∃ a,e=.opn a y1 y2 b)\/∃ a c,e=.spl a c y1 y2 b):FR (.str e.wd) [.str "open",.str "split"]=false:=by
 cases e with
 | opn a x y b=>exact absurd ⟨x,y,b,.inl ⟨a,rfl⟩⟩ h
 | spl a c x y b=>exact absurd ⟨x,y,b,.inr ⟨a,c,rfl⟩⟩ h
 | _=>simp only [Ex.wd];decide
theorem bo {e:Ex}(h:¬ ∃ y b,e=.fn y b\/(∃ f,e=.rc f y b)\/∃ a,e=.lt y a b)(g:¬ ∃ y1 y2 b,(∃ a,e=.opn a y1 y2 b)\/∃ a c,e=.spl a c y1 y2 b):e.given=[]:=by
 cases e with
 | fn y b=>exact absurd ⟨y,b,.inl rfl⟩ h
 | rc f y b=>exact absurd ⟨y,b,.inr (.inl ⟨f,rfl⟩)⟩ h
 | lt y a b=>exact absurd ⟨y,b,.inr (.inr ⟨a,rfl⟩)⟩ h
 | opn a x y b=>exact absurd ⟨x,y,b,.inl ⟨a,rfl⟩⟩ g
 | spl a c x y b=>exact absurd ⟨x,y,b,.inr ⟨a,c,rfl⟩⟩ g
 | _=>rfl
theorem bp {e:Ex}(h:∀ y,e≠.nm y):e.wd≠"name":=by
 cases e with
 | nm y=>exact absurd rfl (h y)
 | _=>simp only [Ex.wd];decide
theorem FJ {x y:Str}(h:x≠y):¬ decide (V.str x=V.str y)=true:=by simpa using h
theorem Kp:Am ["_law_tree","_law_name_here","_law_one","_law_word","_law_given","_law_found","_law_k","_law_hides"] ["_law_tree","_law_name_here","_law_one"] (A6 D4):=nofun
theorem QY {n:Nat}{f:Addr}{fd:FuncData}(F:C8 K "_law_give" "_law_give" D4 f fd)(Co:mg "int"=none)(BY:mg "list"=none)(AJ:mg "tuple"=none)(Aq:mg "isinstance"=none)(B1:mg "len"=none)(B5:mg "range"=none)
  (cS:Cl Pr w K mg base n "_law_give" ["_law_tree","_law_name_here","_law_one"] (TN n)):Av Pr w K mg base Bs (n+1) f fd ["_law_tree","_law_name_here","_law_one"] (FI n):=by
 refine F.okS Kp (λB9 A outer s H vs Q E hr h=>?_)
 ·obtain ⟨e,v,x,r,rv,rfl,he,hv,hd,q⟩:=h;refine ⟨_,(A4 (Ah (i:=3) Kp.nd rfl (.inl rfl) (eI 0))
   (A4 (AB (Al Ao (A7 3) A8 (Ac _)) (Ab (Ag (HK (Al Ao (eI 0) (A7 1) (Ac _)) (A7 2) (A7 0)))) Ap)
   (A4 (Ah (i:=4) Kp.nd rfl (.inl rfl) (Az A2))
   (A4 (AB (Al (r:=Nt K false) BJ (A7 3) (Ae (A1 A8 (A1 A8 (A1 A8 A2)))) rfl) (Ab (Ah (i:=4) Kp.nd rfl (.inl rfl) (Af DU (Az (A1 (eI 0) A2)) (Af Pn (Az (A1 (eI 0) A2)) (Bl Fp (by rfl) Co PyProof.Rows.boot_int (A1 (C1 Ao (A7 3) A8 (Ac _)) A2)))))) (Ab (AB (Al (r:=Nt K false) BJ (A7 3) (Ae (A1 A8 (A1 A8 A2))) rfl) (Ab (Ah (i:=4) Kp.nd rfl (.inl rfl) (Bl Dv (by rfl) BY PyProof.Rows.boot_list (A1 (BV (r:=G0 K) D9 (A7 0) (BU (Qp GD A3)) (BU (Qp GD A3))) A2)))) Ap)))
   (A4 (Ah (i:=5) Kp.nd rfl (.inl rfl) (Az A2))
   (A4 (FV PassesOwn.never rfl (F1 rfl B5 (A1 (AF AQ (by rfl) B1 PySem.boot_len (A1 (A7 0) A2)) A2)) (AV (i:=6) Kp.nd rfl (.inl rfl)) (A4 (Ah (i:=7) Kp.nd rfl (.inl rfl) (JR (C1 Ao (A7 6) (Af BF (AF AQ (by rfl) B1 PySem.boot_len (A1 (A7 0) A2)) A3) (Ac _)) (JQ (C1 (r:=Nt K false) BJ (A7 1) (A7 4) rfl))))
   (Ab (AB (Gj (w_and (Dp (AF Cz (by rfl) Aq PyProof.Rows.boot_isinstance (A1 (AH (r:=Bg K) Aw (A7 0) (A7 6) Br) (A1 (DY (v:=.ty "tuple") rfl AJ PyProof.Rows.boot_tuple rfl) A2)))) (BH (EY (CZ (A7 7)))))) (Ab (Dx (JT PySem.F.plainAttrs_list PySem.F.slot_list_append PySem.F.type_list_append C4 (A7 5) (A1 (As cS hr rfl (A1 (AH (r:=Bg K) Aw (A7 0) (A7 6) Br) (A1 (A7 1) (A1 (A7 2) A2)))) A2)))) (Ab (Dx (JT PySem.F.plainAttrs_list PySem.F.slot_list_append PySem.F.type_list_append C4 (A7 5) (A1 (AH (r:=Bg K) Aw (A7 0) (A7 6) Br) A2))))))))
   (Ab (Ag (Bl C7 (by rfl) AJ PyProof.Rows.boot_tuple (A1 (A7 5) A2)))))))))),?_⟩
  obtain ⟨p,us,rfl,hp,hi⟩:=he.its;apply A5 hp (v:=.str e.wd) (Ad (j:=0) rfl) ?_;left;by_cases nm:∃ y,e=.nm y
  ·obtain ⟨y,rfl⟩:=nm;obtain ⟨a,_,rfl,ha,hi⟩:=Bo hi;cases DM hi;cases ha;refine AK (decide_eq_true rfl) ?_;apply A5 hp (v:=.str y) rfl ?_;left;by_cases e:y=x
   ·subst e;refine AK (decide_eq_true rfl) ?_;apply q _ H (A9.refl _) ?_;simp only [give,Ex.sub,Su.one,if_true,Option.getD_some];exact hv
   ·refine Ay (by simpa using e) ?_;apply q _ H (A9.refl _) ?_;simp only [give,Ex.sub,Su.one,e,if_false,Option.getD_none];exact he
  ·have ne:∀ y,e≠.nm y:=λy z=>nm ⟨y,z⟩;obtain ⟨gi,gw⟩:=QV (x:=x) (v:=v) ne;have l1:=Paired.len hi;have l2:=Gs e;refine Ay (FJ (bp ne)) ?_;left;intros lg H1 s1 e1;refine C9 (fun σ' H'=>∃ lg,σ'=[some (.ref p),some (.str x),some rv,some (.str e.wd),some (.ref lg),none,none,none]/\A9 H H'/\H' lg=some (.lst (e.given.map V.str))) ?_ λN fin=>?_
   ·rintro σ' H2 ⟨lg,rfl,s2,e2⟩;left;intros lf H3 s3 e3;apply ⟨p,_,rfl,.inr (B0.of (s3 _ _ (s2 _ _ hp))),?_⟩;apply ⟨_,rfl,by simp;omega,by simp;omega,?_⟩;rw [Int.toNat_natCast];rename_i V0;refine Fn (λi σ' H'=>∃ o1 o2 fs,σ'=[some (.ref p),some (.str x),some rv,some (.str e.wd),some (.ref lg),some (.ref lf),o1,o2]/\A9 H2 H'/\H' lf=some (.lst fs)/\Paired (E9 H') ((.sc (.str e.wd)::(give x v e).its).take i) fs) ⟨none,none,[],rfl,s3,e3,.nil⟩ (λi σ' H4 uf z=>?_) (fun σ' H4 z=>?_)
    ·obtain ⟨o1,o2,fs,rfl,s4,e4,p4⟩:=z;obtain ⟨it,hit⟩:∃ it,(Itm.sc (.str e.wd)::e.its)[i]?=some it:=⟨_,List.getElem?_eq_getElem (by simp at uf ⊢;omega)⟩;have Lo:Paired (E9 H) (.sc (.str e.wd)::e.its) (.str e.wd::us):=.cons rfl hi;obtain ⟨u,hu,fO⟩:=Paired.at1 Lo hit;have Kg:=s2.trans s4;refine Kl ?_;refine C9 (fun σ' H'=>σ'=[some (.ref p),some (.str x),some rv,some (.str e.wd),some (.ref lg),some (.ref lf),some (.int i),some (.bl (decide (i=us.length) && decide (x∈e.given)))]/\H4=H') ?_ λN fin=>?_
     ·rintro _ _ ⟨rfl,rfl⟩;apply A5 (Kg _ _ hp) (v:=u) (Ad hu) ?_;left;have nx:∀ (r':V) (H6:Hp) (jT:Itm),(Itm.sc (.str e.wd)::(give x v e).its)[i]?=some jT->A9 H2 H6->H6 lf=some (.lst fs)->TSub H4 H6->E9 H6 jT r'->∃ o1 o2 dG,[some (.ref p),some (.str x),some rv,some (.str e.wd),some (.ref lg),some (.ref lf),some (.int i),some (.bl (decide (i=us.length) && decide (x∈e.given)))]=[some (.ref p),some (.str x),some rv,some (.str e.wd),some (.ref lg),some (.ref lf),o1,o2]/\A9 H2 (upd H6 lf (.lst (fs++[r'])))/\(upd H6 lf (.lst (fs++[r']))) lf=some (.lst dG)/\Paired (E9 (upd H6 lf (.lst (fs++[r'])))) ((.sc (.str e.wd)::(give x v e).its).take (i+1)) dG:=λr' H6 jT g1 g2 g3 g4 g5=>by
       have tp:TSub H6 (upd H6 lf (.lst (fs++[r']))):=TSub.put λxs z=>(by rw [g3] at z;cases z);refine ⟨_,_,fs++[r'],rfl,A9.put g2 V0,Aa,?_⟩;rw [List.take_succ,g1];exact Paired.app (Paired.aah p4 λ_ _ z=>z.mono (g4.trans tp)) (.cons (g5.mono tp) .nil)
      have xQ:fs.length<=6:=by
       rw [<- Paired.len p4,List.length_take];simp only [List.length_cons,gi,Jg];omega
      have gx:(Itm.sc (.str e.wd)::(give x v e).its)[i]?=some (if (decide (x∈e.given))=true/\i=us.length then it else gI x v it):=by
       rw [gi];cases i with
       | zero =>
        simp at hit;subst hit;simp [gI]
       | succ i =>
        simp only [List.getElem?_cons_succ] at hit ⊢;rw [MT hit,l1]
      cases it with
      | sc z =>
       cases fO;obtain ⟨t,t1,t2⟩:∃ t,Cd K H4 u t/\W.kitOne K t (.type "tuple")=some false:=by
        have fl:jQ u=true:=by
         cases i with
         | zero=>simp at hit;subst hit;rfl
         | succ i=>exact QW (List.mem_of_getElem? (by simpa using hit))
        cases u with
        | str z=>exact ⟨_,Cd.str z,rfl⟩
        | int z=>exact ⟨_,Cd.int z,rfl⟩
        | bl z=>exact ⟨_,Cd.bl z,rfl⟩
        | _=>cases fl
       refine ⟨u,t,_,false,rfl,t1,t2,?_⟩;apply BG (BG ?_);apply ⟨.inl ⟨rfl,_,AI.of e4⟩,?_⟩;apply A5 (Kg _ _ hp) (v:=u) (Ad hu) ?_;apply ⟨lf,fs,u,rfl,rfl,e4,BW (),?_⟩;left;exact nx u H4 _ gx s4 e4 (TSub.refl _) (by split <;> rfl)
      | pt a =>
       obtain ⟨pa,ua,rfl,ha,_⟩:=An.its fO;refine ⟨.ref pa,_,_,true,rfl,Cd.tup (Kg _ _ ha),rfl,?_⟩;apply C5 ?_;apply ⟨_,rfl,?_⟩;dsimp only;by_cases hh:(decide (i=us.length) && decide (x∈e.given))=true
       ·refine Ay (by rw [hh];decide) ?_;apply ⟨.inl ⟨rfl,_,AI.of e4⟩,?_⟩;apply A5 (Kg _ _ hp) (v:=.ref pa) (Ad hu) ?_;apply ⟨lf,fs,.ref pa,rfl,rfl,e4,BW (),?_⟩;left;simp only [Bool.and_eq_true,decide_eq_true_eq] at hh;refine nx (.ref pa) H4 (.pt a) ?_ s4 e4 (TSub.refl _) (An.mono (TSub.of_same Kg) fO);rw [gx,if_pos ⟨decide_eq_true hh.2,hh.1⟩]
       ·refine AK (by rw [Bool.not_eq_true] at hh;rw [hh];rfl) ?_;apply ⟨.inl ⟨rfl,_,AI.of e4⟩,?_⟩;apply A5 (Kg _ _ hp) (v:=.ref pa) (Ad hu) ?_;left;have da:dep dz a < dep dz e:=Bk (by
         cases i with
         | zero=>simp at hit
         | succ i=>exact List.mem_of_getElem? (by simpa using hit))
        cases n with
        | zero=>omega
        | succ n =>
        refine ⟨a,v,x,_,_,rfl,An.mono (TSub.of_same Kg) fO,An.mono (TSub.of_same Kg) hv,(),λr5 H5 s5 a5=>?_⟩;apply ⟨lf,fs,r5,rfl,rfl,s5 _ _ e4,BW (),?_⟩;apply nx r5 H5 (.pt (give x v a)) ?_ (s4.trans s5) (s5 _ _ e4) (TSub.of_same s5) a5;rw [gx,if_neg]
        ·rfl
        ·rintro ⟨z1,z2⟩;exact hh (by rw [z1,decide_eq_true z2];rfl)
     ·apply ⟨p,_,rfl,.inr (B0.of (Kg _ _ hp)),?_⟩;left;have el:((0:Int)+(i:Int)=((V.str e.wd::us).length:Int) - 1)↔i=us.length:=(by simp;omega);by_cases c:i=us.length
      ·refine AK (by simp only [V.int.injEq];exact decide_eq_true (el.mpr c)) ?_;apply Es (.inl (AI.of (s4 _ _ e2))) rfl ue ?_;refine fin _ _ ⟨?_,rfl⟩;have Z6:FR (.str x) (e.given.map V.str)=decide (x∈e.given):=Ko x e.given;simp [c,Z6]
      ·refine Ay (by simp only [V.int.injEq];exact λz=>c (el.mp (of_decide_eq_true z))) ?_;refine fin _ _ ⟨?_,rfl⟩;simp [c]
    ·obtain ⟨o1,o2,fs,rfl,s4,e4,p4⟩:=z;apply ⟨lf,fs,rfl,.inl ⟨AI.of e4,λl hl=>?_⟩⟩;have tk:((.sc (.str e.wd)::(give x v e).its:List Itm).take (V.str e.wd::us).length)=.sc (.str e.wd)::(give x v e).its:=by
      refine List.take_of_length_le ?_;simp only [List.length_cons,gi,Jg];omega
     rw [tk] at p4;obtain ⟨a0,fs,rfl,ug,p5⟩:=Bo p4;cases ug;refine q _ _ (s2.trans (s4.trans (A9.new hl))) (An.abf (us:=fs) ?_ (Paired.aah p5 λ_ _ z=>E9.mono (TSub.new hl) z));rw [Aa,gw]
   ·left;intros t2 H2 s2 e2;refine Es (.inr (B0.of e2)) rfl rfl ?_;left;have By:=s1.trans s2;by_cases g1:∃ y b,e=.fn y b\/(∃ f,e=.rc f y b)\/∃ a,e=.lt y a b
    ·refine AK (by obtain ⟨y,b,rfl | ⟨f,rfl⟩ | ⟨a,rfl⟩⟩:=g1 <;> rfl) ?_;obtain ⟨y1,t3,rest,Ss,hg⟩:∃ (y1:Str) (t3:V) (rest:List V),us=.str y1::t3::rest/\e.given.map V.str=[.str y1]++(List.replicate (if decide (V.str e.wd=V.str "rec")=true then (1:Int) else 0).toNat [t3]).flatten:=by
      obtain ⟨y,b,rfl | ⟨f,rfl⟩ | ⟨a,rfl⟩⟩:=g1
      ·obtain ⟨a1,_,rfl,h1,hi⟩:=Bo hi;obtain ⟨a2,_,rfl,h2,hi⟩:=Bo hi;cases DM hi;cases h1;exact ⟨y,a2,[],rfl,rfl⟩
      ·obtain ⟨a1,_,rfl,h1,hi⟩:=Bo hi;obtain ⟨a2,_,rfl,h2,hi⟩:=Bo hi;obtain ⟨a3,_,rfl,h3,hi⟩:=Bo hi;cases DM hi;cases h1;cases h2;exact ⟨f,_,_,rfl,rfl⟩
      ·obtain ⟨a1,_,rfl,h1,hi⟩:=Bo hi;obtain ⟨a2,_,rfl,h2,hi⟩:=Bo hi;obtain ⟨a3,_,rfl,h3,hi⟩:=Bo hi;cases DM hi;cases h1;exact ⟨y,_,_,rfl,rfl⟩
     subst Ss;apply A5 (By _ _ hp) (v:=.str y1) (Ad (j:=1) rfl) ?_;left;intros p3 H3 s3 e3;apply A5 (s3 _ _ (By _ _ hp)) (v:=t3) (Ad (j:=2) rfl) ?_;left;intros p4 H4 s4 e4;apply .inr ⟨_,rfl,?_⟩;refine ⟨p4,_,_,rfl,rfl,e4,by split <;> decide,by split <;> decide,by split <;> exact Cf (by simp),λp5 L4=>?_⟩;refine Dy (A9.new L4 _ _ (s4 _ _ e3)) Aa ?_ λp6 H6 jU s6 e6=>?_
     ·rw [len_rep];split <;> exact Cf (by simp)
     ·exact fin _ _ ⟨p6,rfl,By.trans (s3.trans (s4.trans ((A9.new L4).trans s6))),by rw [e6,hg]⟩
    ·refine Ay (by rw [bh g1];decide) ?_;left;intros t3 H3 s3 e3;refine Es (.inr (B0.of e3)) rfl rfl ?_;left;have DO:=By.trans s3;by_cases g2:∃ y1 y2 b,(∃ a,e=.opn a y1 y2 b)\/∃ a c,e=.spl a c y1 y2 b
     ·refine AK (by obtain ⟨y1,y2,b,⟨a,rfl⟩ | ⟨a,c,rfl⟩⟩:=g2 <;> rfl) ?_;obtain ⟨hg,hw⟩:Dj (.str e.wd::us) (some (-3)) (some (-1))=e.given.map V.str/\¬ (HT.sIx (V.str e.wd::us).length 0 (some (-3))=0/\HT.sIx (V.str e.wd::us).length (V.str e.wd::us).length (some (-1))=(V.str e.wd::us).length):=by
       obtain ⟨y1,y2,b,⟨a,rfl⟩ | ⟨a,c,rfl⟩⟩:=g2
       ·obtain ⟨a1,_,rfl,h1,hi⟩:=Bo hi;obtain ⟨a2,_,rfl,h2,hi⟩:=Bo hi;obtain ⟨a3,_,rfl,h3,hi⟩:=Bo hi;obtain ⟨a4,_,rfl,h4,hi⟩:=Bo hi;cases DM hi;cases h2;cases h3;exact ⟨rfl,by simp [HT.sIx]⟩
       ·obtain ⟨a1,_,rfl,h1,hi⟩:=Bo hi;obtain ⟨a2,_,rfl,h2,hi⟩:=Bo hi;obtain ⟨a3,_,rfl,h3,hi⟩:=Bo hi;obtain ⟨a4,_,rfl,h4,hi⟩:=Bo hi;obtain ⟨a5,_,rfl,h5,hi⟩:=Bo hi;cases DM hi;cases h3;cases h4;exact ⟨rfl,by simp [HT.sIx]⟩
      apply Ck (B0.of (DO _ _ hp)) hw λp4 H4 xR s4 e4=>?_;apply ⟨p4,_,rfl,.inr (B0.of e4),λp5 L4=>?_⟩;exact fin _ _ ⟨p5,rfl,DO.trans (s4.trans (A9.new L4)),by rw [Aa,hg]⟩
     ·refine Ay (by rw [bj g2];decide) ?_;apply fin _ _ ⟨lg,rfl,DO,?_⟩;rw [s3 _ _ (s2 _ _ e1),bo g1 g2];rfl
theorem V7 {f:Addr}{fd:FuncData}(D:Df K mg "_law_give" D4 ["_law_tree","_law_name_here","_law_one"] f fd)(Co:mg "int"=none)(BY:mg "list"=none)(AJ:mg "tuple"=none)(Aq:mg "isinstance"=none)(B1:mg "len"=none)(B5:mg "range"=none):
  ∀ n,Cl Pr w K mg base (n+1) "_law_give" ["_law_tree","_law_name_here","_law_one"] (FI n)
 | 0=>D.cl (QY (n:=0) D.F Co BY AJ Aq B1 B5 (D.cl F3))
 | n+1=>D.cl (QY (n:=n+1) D.F Co BY AJ Aq B1 B5 (V7 D Co BY AJ Aq B1 B5 n))
end
end K
namespace L2
open PySem PySem.Spec PyProof.Rows KS
noncomputable def Xz (K:W.Frag):R2:=λx y H Q=>C3 K x y H Q\/Bg K x y H Q
theorem Ji {X:Cx}:Zx X (Xz X.K):=λvalue slice pins s σ H x y v u Q I rx ry h hs=>h.elim (λh=>AE value slice pins s σ H x y v u Q I rx ry h hs) λh=>Aw value slice pins s σ H x y v u Q I rx ry h hs
noncomputable def XA (H:Hp)(p:Addr)(a b:V):Prop:=H p=some (.lst [a,b])\/H p=some (.tup [a,b])
theorem XA.mono {H H':Hp}(s:A9 H H'){p:Addr}{a b:V}:XA H p a b->XA H' p a b:=Or.imp (s _ _) (s _ _)
theorem MV {K:W.Frag}{H:Hp}{Q:VK}{p:Addr}{a b:V}(h:XA H p a b)(q:Q a H):Xz K (.ref p) (.int 0) H Q:=h.imp (λh=>⟨p,_,0,a,rfl,rfl,AI.of h,rfl,q⟩) λh=>⟨p,_,0,a,rfl,rfl,B0.of h,rfl,q⟩
theorem MW {K:W.Frag}{H:Hp}{Q:VK}{p:Addr}{a b:V}(h:XA H p a b)(q:Q b H):Xz K (.ref p) (.int 1) H Q:=h.imp (λh=>⟨p,_,1,b,rfl,rfl,AI.of h,rfl,q⟩) λh=>⟨p,_,1,b,rfl,rfl,B0.of h,rfl,q⟩
end L2
namespace K
open PySem L2 KM KS KX
section
variable {Pr:Program}{w:World}{K:W.Frag}{mg:Str->Option Value}{base:Heap}
noncomputable def MX (n:Nat):Sp:=λvs H Q _=>∃ (e v w:Ex) (x y:Str) (r rv rw:V) (pn pv:Addr),vs=[r,.ref pn,.ref pv]/\An H e r/\An H v rv/\An H w rw/\XA H pn (.str x) (.str y)/\XA H pv rv rw/\dep dz e<=n/\dep dz (give y w e)<=n/\∀ r' H',A9 H H'->An H' (aae x y v w e) r'->Q r' H'
theorem jV:Am ["_law_tree","_law_names","_law_values"] ["_law_tree","_law_names","_law_values"] (A6 Cm):=nofun
theorem bq {n:Nat}{f:Addr}{fd:FuncData}(F:C8 K "_law_give_two" "_law_give_two" Cm f fd)(cG:Cl Pr w K mg base (n+1) "_law_give" ["_law_tree","_law_name_here","_law_one"] (FI n)):Av Pr w K mg base Bs (n+2) f fd ["_law_tree","_law_names","_law_values"] (MX n):=by
 refine F.okS jV (λB9 A outer s H vs Q E hr h=>?_)
 ·obtain ⟨e,v,w',x,y,r,rv,Ij,pn,pv,rfl,he,hv,hw,tn,tv,Tp,hd2,q⟩:=h;refine ⟨_,(Ab (Ag (As cG hr rfl (A1 (As cG hr rfl (A1 (A7 0) (A1 (AH Ji (A7 1) A3 Br) (A1 (AH Ji (A7 2) A3 Br) A2)))) (A1 (AH Ji (A7 1) A3 Br) (A1 (AH Ji (A7 2) A3 Br) A2)))))),?_⟩;apply MW tn ?_;apply MW tv ?_;apply ⟨e,w',y,_,_,rfl,he,hw,Tp,λr1 H1 s1 e1=>?_⟩;apply MV (tn.mono s1) ?_;apply MV (tv.mono s1) ?_;left;exact ⟨_,v,x,_,_,rfl,e1,An.mono (TSub.of_same s1) hv,hd2,λr2 H2 s2 e2=>q r2 H2 (s1.trans s2) e2⟩
noncomputable def MY (n:Nat):Sp:=λvs H Q _=>∃ (e:Ex) (r:V),vs=[r]/\An H e r/\dep dz e<=n/\∀ H',A9 H H'->Q (.int e.fst) H'
theorem O8 {α:Type}{p:α->Bool}{l:List α}{i:Nat}{a:α}(h:∀ b∈l.take i,p b=false)(e:l[i]?=some a)(ha:p a=true):l.find? p=some a:=by
 induction l generalizing i with
 | nil=>simp at e
 | cons b r ih =>
  cases i with
  | zero=>simp at e;subst e;simp [List.find?,ha]
  | succ i =>
   have h0:=h b (by simp);simp only [List.find?,h0];exact ih (i:=i) (λc hc=>h c (by simp [hc])) (by simpa using e)
theorem QZ {α:Type}{p:α->Bool}{l:List α}(h:∀ b∈l,p b=false):l.find? p=none:=by
 rw [List.find?_eq_none];intro b hb;simp [h b hb]
theorem IK {f:V->V}:∀ (l:List (Key × V)) {A A':List (Key × V)},(∀ j,AW A' j=(AW A j).map f)->∀ j,AW (Bd A' (l.map λkv=>(kv.1,f kv.2))) j=(AW (Bd A l) j).map f
 | [],_,_,h,j=>h j
 | kv::r,A,A',h,j=>IK r (A:=putK A kv.1 kv.2) (A':=putK A' kv.1 (f kv.2)) (λj=>by
   rw [Dk,Dk];by_cases e:j=kv.1
   ·simp [e]
   ·simp only [e,if_false];exact h j) j
noncomputable def Z7:List (Key × V):=[(.inr "call",.int 1),(.inr "pair",.int 2),(.inr "link",.int 3),(.inr "op",.int 4),(.inr "let",.int 5),(.inr "when",.int 6),(.inr "open",.int 7),(.inr "split",.int 8)]
noncomputable def XB:Ex->V
 | .cal _ _=>.int 1 | .pr _ _=>.int 2 | .lk _ _=>.int 3 | .op _ _ _=>.int 4 | .lt _ _ _=>.int 5 | .wh _ _ _=>.int 6 | .opn _ _ _ _=>.int 7 | .spl _ _ _ _ _=>.int 8
 | _=>.non
theorem XC (e:Ex):(AW (Bd [] Z7) (Sum.inr e.wd:Key)).getD .non=XB e:=by
 cases e <;> simp only [Ex.wd,XB] <;> decide +kernel
noncomputable def fQ (l1 l2 l3 l4 l5 l6 l7 l8:Addr):V->V
 | .int 1=>.ref l1 | .int 2=>.ref l2 | .int 3=>.ref l3 | .int 4=>.ref l4 | .int 5=>.ref l5 | .int 6=>.ref l6 | .int 7=>.ref l7 | .int 8=>.ref l8
 | v=>v
theorem TQ (e:Ex)(l1 l2 l3 l4 l5 l6 l7 l8 l0:Addr):(AW (Bd [] (Z7.map λkv=>(kv.1,fQ l1 l2 l3 l4 l5 l6 l7 l8 kv.2))) (.inr e.wd:Key)).getD (V.ref l0)=(if XB e=.non then .ref l0 else fQ l1 l2 l3 l4 l5 l6 l7 l8 (XB e)):=by
 rw [IK Z7 (A:=[]) (A':=[]) (λ_=>rfl),<- XC];have hn:AW (Bd [] Z7) (Sum.inr e.wd:Key)≠some .non:=by
  cases e <;> simp only [Ex.wd,XB] <;> decide +kernel
 cases h:AW (Bd [] Z7) (Sum.inr e.wd:Key) with
 | none=>rfl
 | some v =>
  rw [h] at hn;simp only [Option.map_some,Option.getD_some];rw [if_neg λz=>hn (by rw [z])]
theorem R0:Am ["_law_tree","_law_places","_law_k"] ["_law_tree"] (A6 DH):=nofun
theorem br {n:Nat}{f:Addr}{fd:FuncData}(F:C8 K "_law_first" "_law_first" DH f fd)(cI:Cl Pr w K mg base (n+1) "_law_is_value" ["_law_tree"] (Kn n)):Av Pr w K mg base Bs (n+2) f fd ["_law_tree"] (MY n):=by
 refine F.okS R0 (λB9 A outer s H vs Q E hr h=>?_)
 ·obtain ⟨e,r,rfl,he,hd,q⟩:=h;have hu:=JO hr;refine ⟨_,(A4 (Ah (i:=1) R0.nd rfl (.inl rfl) (D' (Bj A8 (Az (A1 A3 (A1 A3 A2))) (Bj A8 (Az (A1 A3 (A1 A3 A2))) (Bj A8 (Az (A1 A3 (A1 A3 A2))) (Bj A8 (Az (A1 A3 (A1 A3 A2))) (Bj A8 (Az (A1 A3 A2)) (Bj A8 (Az (A1 A3 A2)) (Bj A8 (Az (A1 A3 A2)) (Bj A8 (Az (A1 A3 A2)) FU)))))))) rfl rfl (by simp) ⟨⟩))
   (A4 (FV PassesOwn.never rfl (EC (Gk hu (A7 1) (eI 0) (Az A2) ⟨rfl,rfl,rfl,rfl⟩)) (AV (i:=2) R0.nd rfl (.inl rfl)) (Ab (AB (EY (Dp (As cI hr rfl (A1 (AH (r:=Bg K) Aw (A7 0) (A7 2) Br) A2)))) (Ab (Ag (A7 2))) Ap)))
   (Ab (Ag A3)))),?_⟩
  obtain ⟨p,us,rfl,hp,hi⟩:=he.its;apply D2 λp4 H4 aZ s4 e4=>?_;left;intros l1 H5 s5 e5;left;intros l2 H6 s6 e6;left;intros l3 H7 s7 e7;left;intros l4 H8 s8 e8;left;intros l5 H9 s9 e9;left;intros l6 L0 Dr Ke;left;intros l7 O5 E7 Jb;left;intros l8 YV Ds RP;left;have bt:=Ds;have V8:=E7.trans Ds;have bu:=Dr.trans V8;have bw:=s9.trans bu;have bx:=s8.trans bw;have bz:=s7.trans bx;have bA:=s6.trans bz;have XD:=s5.trans bA;refine ⟨XD _ _ e4,Z7.map λkv=>(kv.1,fQ l1 l2 l3 l4 l5 l6 l7 l8 kv.2),rfl,Nat.le_of_ble_eq_true rfl,λYX pR Z1=>?_⟩;have bB:A9 H YX:=λb o hb=>by
   have RS:b≠p4:=λz=>(by rw [z,aZ] at hb;cases hb);rw [pR b RS];exact XD _ _ (s4 _ _ hb)
  have ow:∀ b xs,YV b=some (.lst xs)->YX b=some (.lst xs):=λb xs hb=>by
   rw [pR b (λz=>by have h2:=XD _ _ e4;rw [z,h2] at hb;cases hb)];exact hb
  have h1:=ow _ _ (bA _ _ e5);have h2:=ow _ _ (bz _ _ e6);have h3:=ow _ _ (bx _ _ e7);have h4:=ow _ _ (bw _ _ e8);have h5:=ow _ _ (bu _ _ e9);have h6:=ow _ _ (V8 _ _ Ke);have h7:=ow _ _ (bt _ _ Jb);have h8:=ow _ _ RP;apply ⟨p4,rfl,.inl ⟨_,.inl Z1⟩,?_⟩;apply A5 (bB _ _ hp) (v:=.str e.wd) (Ad (j:=0) rfl) ?_;left;intros l0 YY Ey Tz;refine ⟨_,Dc.k (k:=.inr e.wd) (Ey _ _ Z1),?_⟩;have bD:=bB.trans Ey;obtain ⟨pl,Ci,hl⟩:∃ pl,(if XB e=.non then .ref l0 else fQ l1 l2 l3 l4 l5 l6 l7 l8 (XB e))=.ref pl/\YY pl=some (.lst (e.pls.map λk:Nat=>V.int k)):=by
   cases e with
   | cal _ _=>exact ⟨l1,rfl,Ey _ _ h1⟩
   | pr _ _=>exact ⟨l2,rfl,Ey _ _ h2⟩
   | lk _ _=>exact ⟨l3,rfl,Ey _ _ h3⟩
   | op _ _ _=>exact ⟨l4,rfl,Ey _ _ h4⟩
   | lt _ _ _=>exact ⟨l5,rfl,Ey _ _ h5⟩
   | wh _ _ _=>exact ⟨l6,rfl,Ey _ _ h6⟩
   | opn _ _ _ _=>exact ⟨l7,rfl,Ey _ _ h7⟩
   | spl _ _ _ _ _=>exact ⟨l8,rfl,Ey _ _ h8⟩
   | _=>exact ⟨l0,rfl,Tz⟩
  rw [TQ,Ci];refine ⟨pl,rfl,⟨_,AI.of hl⟩,?_⟩;refine OX (xs:=e.pls.map λk:Nat=>V.int k) (λi σ' H'=>∃ o1,σ'=[some (.ref p),some (.ref p4),o1]/\A9 YY H'/\∀ b∈(e.pls).take i,Km e b=false) ⟨none,rfl,A9.refl _,by simp⟩ (λi σ' H' _ z=>?_) (λi x σ' H' hx z=>?_) (fun σ' H' z=>?_)
  ·obtain ⟨o1,_,z2,_⟩:=z;exact AI.of (z2 _ _ hl)
  ·obtain ⟨o1,rfl,z2,z3⟩:=z;obtain ⟨k,hk,rfl⟩:∃ k,(e.pls)[i]?=some k/\x=V.int (k:Nat):=by
    simp only [List.getElem?_map,Option.map_eq_some_iff] at hx;obtain ⟨k,h1,h2⟩:=hx;exact ⟨k,h1,h2.symm⟩
   obtain ⟨a,ha,Xq⟩:=Xw (List.mem_of_getElem? hk);obtain ⟨u,jW,jX⟩:=Paired.at1 hi ha;have s0:=bD.trans z2;apply A5 (s0 _ _ hp) (v:=u) (Ad (j:=k) (by
    obtain ⟨k,rfl⟩:∃ m,k=m+1:=⟨k - 1,()⟩;simpa using jW)) ?_
   left;have da:=Bk (List.mem_of_getElem? ha);refine ⟨a,u,rfl,An.mono (TSub.of_same s0) jX,(),λH' s'=>?_⟩;left;have nv:Km e k=!a.isV:=(by simp only [Km,ha]);cases av:a.isV
   ·refine C5 ?_;left;have:=q H' (s0.trans s');rw [Jh,O8 z3 hk (by rw [nv,av];rfl)] at this;exact this
   ·refine BG ?_;apply ⟨_,rfl,z2.trans s',λb hb=>?_⟩;rw [List.take_succ,hk] at hb;rcases List.mem_append.mp hb with hb | hb
    ·exact z3 b hb
    ·simp at hb;subst hb;rw [nv,av];rfl
  ·obtain ⟨o1,rfl,z2,z3⟩:=z;left;have:=q H' (bD.trans z2);rw [List.length_map,List.take_length] at z3;rw [Jh,QZ z3] at this;exact this
end
end K
namespace L2
open PySem PySem.Spec PyProof.Rows KS KX
noncomputable def bE:R2:=λx y H Q=>∃ (p:Addr) (xs:List V) (z:Str),x=.ref p/\H p=some (.tup xs)/\y=.str z/\Q (.bl false) H
theorem MZ {X:Cx}(hu:X.A.units+64 < cLine):Em X (compareOp .Eq) bE:=by
 intro pins s σ H x y v u Q I rx ry h;obtain ⟨p,xs,z,rfl,hp,rfl,k⟩:=h;cases rx;obtain ⟨t,rfl⟩:=ry;obtain ⟨its,r,p1,_⟩:=I.tuple (B0.of (K:=X.K) hp);exact PySem.SeqAt.RcAt.tuple_str z t p1 () X.prog X.w X.xe _ (Ax I k rfl)
theorem LP {P:Program}{w:World}{K:W.Frag}{mg:Str->Option Value}{base:Heap}{CX:KW}{k:Nat}{ps:List Str}{rows:List (Str × Value)}:FF P w K mg base CX k ps rows []:=λ_ _ h=>by cases h
theorem BO {P:Program}{w:World}{K:W.Frag}{mg:Str->Option Value}{base:Heap}{CX:KW}{k:Nat}{ps:List Str}{rows:List (Str × Value)}{x:Str}{sp:Sp}{MR:List (Str × Sp)}(h:∃ f fd,rowAt rows x=some (.ref f)/\Av P w K mg base CX k f fd ps sp/\W.keepIn K (.ref f)=true/\Binds K fd ps [])
  (t:FF P w K mg base CX k ps rows MR):FF P w K mg base CX k ps rows ((x,sp)::MR):=λy uh hm=>by
 rcases List.mem_cons.mp hm with e | hm
 ·cases e;exact h
 ·exact t y uh hm
end L2
namespace KX
open PySem Ex L2
theorem XE {e:Ex}(h:e.wd="call"):∃ a b,e=.cal a b:=by cases e <;> first | exact ⟨_,_,rfl⟩ | exact absurd h (by simp only [Ex.wd];decide)
theorem bF {e:Ex}(h:e.wd="let"):∃ x a b,e=.lt x a b:=by cases e <;> first | exact ⟨_,_,_,rfl⟩ | exact absurd h (by simp only [Ex.wd];decide)
theorem bG {e:Ex}(h:e.wd="when"):∃ a b c,e=.wh a b c:=by cases e <;> first | exact ⟨_,_,_,rfl⟩ | exact absurd h (by simp only [Ex.wd];decide)
theorem XF {e:Ex}(h:e.wd="open"):∃ a x y b,e=.opn a x y b:=by cases e <;> first | exact ⟨_,_,_,_,rfl⟩ | exact absurd h (by simp only [Ex.wd];decide)
theorem XG {e:Ex}(h:e.wd="split"):∃ a b x y c,e=.spl a b x y c:=by cases e <;> first | exact ⟨_,_,_,_,_,rfl⟩ | exact absurd h (by simp only [Ex.wd];decide)
theorem bH {e:Ex}(h:e.wd="op"):∃ o a b,e=.op o a b:=by cases e <;> first | exact ⟨_,_,_,rfl⟩ | exact absurd h (by simp only [Ex.wd];decide)
theorem R1 {e:Ex}(h:e.wd="truth"):∃ b,e=.tru b:=by cases e <;> first | exact ⟨_,rfl⟩ | exact absurd h (by simp only [Ex.wd];decide)
theorem Jj {e:Ex}(h:e.wd="number"):∃ i,e=.num i:=by cases e <;> first | exact ⟨_,rfl⟩ | exact absurd h (by simp only [Ex.wd];decide)
theorem V9 {e:Ex}(h:e.wd="pair"):∃ a b,e=.pr a b:=by cases e <;> first | exact ⟨_,_,rfl⟩ | exact absurd h (by simp only [Ex.wd];decide)
theorem XH {e:Ex}(h:e.wd="empty"):e=.emp:=by cases e <;> first | rfl | exact absurd h (by simp only [Ex.wd];decide)
theorem bI {e:Ex}:(FR (.str e.wd) [.str "fun",.str "rec"]=true/\((∃ x b,e=.fn x b)\/∃ f x b,e=.rc f x b))\/(FR (.str e.wd) [.str "fun",.str "rec"]=false/\(∀ x b,e≠.fn x b)/\∀ f x b,e≠.rc f x b):=by
 cases e with
 | fn x b=>exact .inl ⟨by simp only [Ex.wd];decide,.inl ⟨x,b,rfl⟩⟩
 | rc f x b=>exact .inl ⟨by simp only [Ex.wd];decide,.inr ⟨f,x,b,rfl⟩⟩
 | _=>exact .inr ⟨by simp only [Ex.wd];decide,λ_ _ z=>(by cases z),λ_ _ _ z=>(by cases z)⟩
theorem bJ {e:Ex}:(FR (.str e.wd) [.str "empty",.str "link"]=true/\(e=.emp\/∃ a b,e=.lk a b))\/(FR (.str e.wd) [.str "empty",.str "link"]=false/\e≠.emp/\∀ a b,e≠.lk a b):=by
 cases e with
 | emp=>exact .inl ⟨by simp only [Ex.wd];decide,.inl rfl⟩
 | lk a b=>exact .inl ⟨by simp only [Ex.wd];decide,.inr ⟨a,b,rfl⟩⟩
 | _=>exact .inr ⟨by simp only [Ex.wd];decide,λz=>(by cases z),λ_ _ z=>(by cases z)⟩
theorem R3 {e:Ex}(n1:∀ a b,e=.cal a b->(∀ x c,a≠.fn x c)/\∀ f x c,a≠.rc f x c)(n2:∀ x a b,e≠.lt x a b)(n3:∀ a b c,e=.wh a b c->∀ t,a≠.tru t)(n4:∀ a x y b,e=.opn a x y b->∀ u v,a≠.pr u v)(n5:∀ a b x y c,e=.spl a b x y c->a≠.emp/\∀ u v,a≠.lk u v)(n6:∀ o a b,e=.op o a b->∀ i j,¬ (a=.num i/\b=.num j)):red e=none:=by
 cases hr:red e with
 | none=>rfl
 | some p =>
  obtain ⟨e',c⟩:=p;cases Cq hr with
  | fn=>exact absurd rfl ((n1 _ _ rfl).1 _ _)
  | rc=>exact absurd rfl ((n1 _ _ rfl).2 _ _ _)
  | lt=>exact absurd rfl (n2 _ _ _)
  | wh=>exact absurd rfl (n3 _ _ _ rfl _)
  | opn=>exact absurd rfl (n4 _ _ _ _ rfl _ _)
  | emp=>exact absurd rfl (n5 _ _ _ _ _ rfl).1
  | lk=>exact absurd rfl ((n5 _ _ _ _ _ rfl).2 _ _)
  | op=>exact absurd ⟨rfl,rfl⟩ (n6 _ _ _ rfl _ _)
theorem XI {x:Str}{v:Ex}(h:v.cl []):(Su.one x v).Cl:=by
 intro y w e;simp only [Su.one] at e;by_cases q:y=x
 ·simp only [q,if_true,Option.some.injEq] at e;exact e▸h
 ·simp [q] at e
theorem Hx {x:Str}{v e:Ex}(h:v.cl []):dep dz (give x v e)=dep (dz.up x (dep dz v)) e:=by
 unfold give;rw [J4 (XI h),J5]
theorem Va {x y:Str}{m A:Nat}(h:m<=A):∀ z,dz.up y m z<=(dz.up x A).up y A z:=by
 intro z;simp only [Dn.up,dz];by_cases e:z=y
 ·simp only [e,if_true];exact h
 ·simp [e]
theorem TR {a v b:Ex}{x y:Str}(hv:v.cl [])(h:dep dz v<=dep dz a):dep dz (give y v b) < dep dz (.opn a x y b):=by
 rw [Hx hv];have:=Dq (e:=b) (Va (x:=x) (y:=y) h);simp only [dep];omega
theorem TU {a v b c:Ex}{x y:Str}(hv:v.cl [])(h:dep dz v<=dep dz a):dep dz (give y v b) < dep dz (.spl a c x y b):=by
 rw [Hx hv];have:=Dq (e:=b) (Va (x:=x) (y:=y) h);simp only [dep];omega
theorem LQ {x:Str}{u v e:Ex}(h:v.cl []):aae x x u v e=give x v e:=by
 rw [E2 h];unfold give
 congr 1
 funext y
 simp only [Su.or,Su.one];by_cases q:y=x <;> simp [q]
theorem XJ {k:Nat}{e a:Ex}(T:Tr k e)(h1:1<=e.fst)(h:e.its[e.fst - 1]?=some (.pt a)):Tr k a:=by
 obtain ⟨hc,ho,n,K⟩:=T;cases e with
 | cal u v | pr u v | lk u v =>
  obtain ⟨k1,k2⟩:=K.two (a:=u) (b:=v) rfl;simp only [fst] at h h1;split at h <;> (try split at h) <;> simp [its] at h
  all_goals first | (subst h;first | exact ⟨hc.1,ho.1,k1⟩ | exact ⟨hc.2,ho.2,k2⟩) | (rename_i z1 z2;simp [z1,z2] at h1)
 | op o u v =>
  obtain ⟨k1,k2⟩:=K.two (a:=u) (b:=v) rfl;simp only [fst] at h h1;split at h <;> (try split at h) <;> simp [its] at h
  all_goals first | (subst h;first | exact ⟨hc.1,ho.2.1,k1⟩ | exact ⟨hc.2,ho.2.2,k2⟩) | (rename_i z1 z2;simp [z1,z2] at h1)
 | lt x u v =>
  obtain ⟨k1,k2⟩:=K.two (a:=u) (b:=v) rfl;simp only [fst] at h h1;split at h <;> simp [its] at h
  all_goals first | (subst h;exact ⟨hc.1,ho.1,k1⟩) | (rename_i z1;simp [z1] at h1)
 | opn u x y v =>
  obtain ⟨k1,k2⟩:=K.two (a:=u) (b:=v) rfl;simp only [fst] at h h1;split at h <;> simp [its] at h
  all_goals first | (subst h;exact ⟨hc.1,ho.1,k1⟩) | (rename_i z1;simp [z1] at h1)
 | wh u v w =>
  obtain ⟨k1,k2,k3⟩:=K.three (a:=u) (b:=v) (c:=w) rfl;simp only [fst] at h h1;split at h <;> simp [its] at h
  all_goals first | (subst h;exact ⟨hc.1,ho.1,k1⟩) | (rename_i z1;simp [z1] at h1)
 | spl u v x y w =>
  obtain ⟨k1,k2,k3⟩:=K.three (a:=u) (b:=v) (c:=w) rfl;simp only [fst] at h h1;split at h <;> simp [its] at h
  all_goals first | (subst h;exact ⟨hc.1,ho.1,k1⟩) | (rename_i z1;simp [z1] at h1)
 | _=>simp [fst] at h1
end KX
namespace L2
open PySem PySem.Spec PyProof.Rows KS KX
theorem Paired.set {α β:Type}{F:α->β->Prop}{a:α}{b:β}(h:F a b):∀ (i:Nat) {as:List α} {bs:List β},Paired F as bs->Paired F (as.set i a) (bs.set i b)
 | _,_,_,.nil=>.nil
 | 0,_,_,.cons _ t=>.cons h t
 | i+1,_,_,.cons r t=>.cons r (Paired.set h i t)
theorem Kq (xs:List V)(k:Nat):Dj xs none (some (k:Int))=xs.take k:=by
 unfold Dj;rw [HT.aa8,HT.aal];simp only [List.drop_zero,Nat.sub_zero];rw [Nat.min_comm,List.take_eq_take_iff];omega
theorem Kr (xs:List V)(k:Nat):Dj xs (some (k:Int)) none=xs.drop k:=by
 unfold Dj;rw [HT.aa8,HT.aal];by_cases h:k<=xs.length
 ·rw [Nat.min_eq_left h,List.take_of_length_le (by simp)]
 ·rw [Nat.min_eq_right (),List.drop_eq_nil_of_le (Nat.le_refl _),List.drop_eq_nil_of_le ()];simp
theorem M' (xs:List V)(k:Nat)(v:V)(h:k < xs.length):xs.take k++[v]++xs.drop (k+1)=xs.set k v:=by
 rw [List.set_eq_take_append_cons_drop,if_pos h];simp
end L2
namespace K
open PySem L2 KM KS KX
section
variable {Pr:Program}{w:World}{K:W.Frag}{mg:Str->Option Value}{base:Heap}
noncomputable def N1 (k n:Nat):Sp:=λvs H Q _=>∃ (e:Ex) (r:V),vs=[r]/\An H e r/\Tr k e/\dep dz e<=n/\(stp e=none->∀ H',A9 H H'->Q (.str "stuck") H')/\∀ e' c,stp e=some (e',c)->∀ p r' H',A9 H H'->H' p=some (.tup [r',.bl c])->An H' e' r'->Q (.ref p) H'
noncomputable def XM (k:Nat):Nat->Sp
 | 0=>J0
 | n+1=>N1 k n
abbrev XN (H:Hp)(p:Addr)(e:Ex)(N:Prop)(σ':St)(H':Hp):Prop:=σ'=[some (.ref p),some (.int e.fst),none,none,none,none,none,none,none]/\A9 H H'/\N
theorem Fg:Am ["_law_tree","_law_at","_law_inner","_law_deed","_law_names","_law_one","_law_other","_law_many","_law_good"] ["_law_tree"] (A6 D5):=nofun
theorem R4 {k n:Nat}{f:Addr}{fd:FuncData}(F:C8 K "_law_step" "_law_step" D5 f fd)(Co:mg "int"=none)
  (cS:Cl Pr w K mg base (n+k+2) "_law_step" ["_law_tree"] (XM k n)) (cF:Cl Pr w K mg base (n+2) "_law_first" ["_law_tree"] (MY n)) (cG:Cl Pr w K mg base (n+k+1) "_law_give" ["_law_tree","_law_name_here","_law_one"] (FI (n+k)))
  (cT:Cl Pr w K mg base (n+k+2) "_law_give_two" ["_law_tree","_law_names","_law_values"] (MX (n+k))):Av Pr w K mg base Bs (n+k+3) f fd ["_law_tree"] (N1 k n):=by
 refine F.okS Fg (λB9 A outer s H vs Q E hr h=>?_)
 ·obtain ⟨e,r,rfl,he,T,hd,q1,q2⟩:=h;have ui:AG (n+2) _:=hr.mono ();have uj:AG (n+k+1) _:=hr.mono ();have QD:=hr.units;refine ⟨_,(A4 (Ah (i:=1) Fg.nd rfl (.inl rfl) (As cF ui rfl (A1 (A7 0) A2)))
   (A4 (AB (Al UC (A7 1) A3 (Ac _)) (A4 (Ah (i:=2) Fg.nd rfl (.inl rfl) (As cS hr rfl (A1 (AH (r:=Bg K) Aw (A7 0) (A7 1) Br) A2)))
   (A4 (AB (Al (Ao.or (MZ QD)) (A7 2) A8 (Ac _)) (Ab (Ag (A7 2))) Ap)
   (Ab (Ag (Ae (A1 (Af (r:=FQ K) EV (Af (r:=FQ K) EV (BV (r:=G0 K) D9 (A7 0) DZ (BU (A7 1))) (Ae (A1 (eI 2) A2))) (BV (r:=G0 K) D9 (A7 0) (BU (Af Ar (A7 1) A3)) DZ)) (A1 (eI 2) A2))))))) Ap)
   (A4 (AB (Gj (w_and (Al Ao (eI 0) A8 (Ac _)) (BH (Al (r:=Nt K false) BJ (AH (r:=Bg K) Aw (eI 0) A3 Br) (Ae (A1 A8 (A1 A8 A2))) rfl)))) (A4 (Ah (i:=3) Fg.nd rfl (.inl rfl) (eI 0))
   (A4 (Ah (i:=4) Fg.nd rfl (.inl rfl) (Az (A1 (eI 3) (A1 (AH (r:=Bg K) Aw (A7 3) (Qp GD A3) Br) A2))))
   (Ab (Ag (Ae (A1 (As cT hr rfl (A1 (AH (r:=Bg K) Aw (A7 3) (Qp GD A3) Br) (A1 (A7 4) (A1 (Az (A1 (A7 3) (A1 (eI 0) A2))) A2)))) (A1 G4 A2))))))) Ap)
   (A4 (AB (Al Ao (eI 0) A8 (Ac _)) (Ab (Ag (Ae (A1 (As cG uj rfl (A1 (eI 0) (A1 (eI 0) (A1 (eI 0) A2)))) (A1 G4 A2))))) Ap)
   (A4 (AB (Gj (w_and (Al Ao (eI 0) A8 (Ac _)) (BH (Al Ao (AH (r:=Bg K) Aw (eI 0) A3 Br) A8 (Ac _))))) (Ab (Ag (Ae (A1 (AH (r:=Bg K) Aw (A7 0) (Af Ar A3 (Bl Fp (by rfl) Co PyProof.Rows.boot_int (A1 (ZT (AH (r:=Bg K) Aw (eI 0) A3 Br)) A2))) Br) (A1 G4 A2))))) Ap)
   (A4 (AB (Gj (w_and (Al Ao (eI 0) A8 (Ac _)) (BH (Al Ao (AH (r:=Bg K) Aw (eI 0) A3 Br) A8 (Ac _))))) (Ab (Ag (Ae (A1 (As cT hr rfl (A1 (eI 0) (A1 (BV (r:=G0 K) D9 (A7 0) (BU A3) (BU A3)) (A1 (BV (r:=G0 K) D9 (eI 0) (BU A3) DZ) A2)))) (A1 G4 A2))))) Ap)
   (A4 (AB (Gj (w_and (Al Ao (eI 0) A8 (Ac _)) (BH (Al (r:=Nt K false) BJ (AH (r:=Bg K) Aw (eI 0) A3 Br) (Ae (A1 A8 (A1 A8 A2))) rfl)))) (A4 (AB (Al Ao (AH (r:=Bg K) Aw (eI 0) A3 Br) A8 (Ac _)) (Ab (Ag (Ae (A1 (eI 0) (A1 G4 A2))))) Ap)
   (Ab (Ag (Ae (A1 (As cT hr rfl (A1 (eI 0) (A1 (BV (r:=G0 K) D9 (A7 0) (BU A3) (BU A3)) (A1 (BV (r:=G0 K) D9 (eI 0) (BU A3) DZ) A2)))) (A1 G4 A2)))))) Ap)
   (A4 (AB (Gj (w_and (Al Ao (eI 0) A8 (Ac _)) (w_and (Al Ao (AH (r:=Bg K) Aw (eI 0) A3 Br) A8 (Ac _)) (BH (Al Ao (AH (r:=Bg K) Aw (eI 0) A3 Br) A8 (Ac _)))))) (A4 (Ah (i:=5) Fg.nd rfl (.inl rfl) (AH (r:=Bg K) Aw (eI 0) A3 Br))
   (A4 (Ah (i:=6) Fg.nd rfl (.inl rfl) (AH (r:=Bg K) Aw (eI 0) A3 Br))
   (A4 (AB (Al (r:=Nt K false) BJ (eI 0) (Ae (A1 A8 (A1 A8 A2))) rfl) (A4 (Ah (i:=7) Fg.nd rfl (.inl rfl) (HK (Al Ao (eI 0) A8 (Ac _)) (Af Ar (A7 5) (A7 6)) (Af BF (A7 5) (A7 6))))
   (Ab (Ag (Ae (A1 (Ae (A1 A8 (A1 (A7 7) A2))) (A1 G4 A2)))))) Ap)
   (A4 (Ah (i:=8) Fg.nd rfl (.inl rfl) (HK (Al Ao (eI 0) A8 (Ac _)) (C1 ET (A7 5) (A7 6) (Ac _)) (C1 Ao (A7 5) (A7 6) (Ac _))))
   (Ab (Ag (Ae (A1 (Ae (A1 A8 (A1 (A7 8) A2))) (A1 G4 A2))))))))) Ap)
   (Ab (Ag A8)))))))))),?_⟩
  obtain ⟨p,us,rfl,hp,hi⟩:=he.its;apply ⟨e,_,rfl,he,hd,λH1 s1=>?_⟩;have l1:=Paired.len hi;have l2:=Gs e;refine C9 (XN H p e (e.fst=0/\stp e=red e)) ?_ λN Xp=>?_
  ·rintro _ H1 ⟨rfl,s1,f0,fs⟩;refine C9 (XN H p e (∀ a b,e=.cal a b->(∀ x c,a≠.fn x c)/\∀ f x c,a≠.rc f x c)) ?_ λN fin=>?_
   ·rintro _ H2 ⟨rfl,s2,n1⟩;refine C9 (XN H p e (∀ x a b,e≠.lt x a b)) ?_ λN fin=>?_
    ·rintro _ H3 ⟨rfl,s3,n2⟩;refine C9 (XN H p e (∀ a b c,e=.wh a b c->∀ t,a≠.tru t)) ?_ λN fin=>?_
     ·rintro _ H4 ⟨rfl,s4,n3⟩;refine C9 (XN H p e (∀ a x y b,e=.opn a x y b->∀ u v,a≠.pr u v)) ?_ λN fin=>?_
      ·rintro _ H5 ⟨rfl,s5,n4⟩;refine C9 (XN H p e (∀ a b x y c,e=.spl a b x y c->a≠.emp/\∀ u v,a≠.lk u v)) ?_ λN fin=>?_
       ·rintro _ H6 ⟨rfl,s6,n5⟩;refine C9 (XN H p e (∀ o a b,e=.op o a b->∀ i j,¬ (a=.num i/\b=.num j))) ?_ λN fin=>?_
        ·rintro _ H7 ⟨rfl,s7,n6⟩;left;exact q1 (fs.trans (R3 n1 n2 n3 n4 n5 n6)) _ s7
        ·apply A5 (s6 _ _ hp) (v:=.str e.wd) (Ad (j:=0) rfl) ?_;left;by_cases w:e.wd="op"
         ·obtain ⟨o,a,b,rfl⟩:=bH w;obtain ⟨ro,_,rfl,ho,hi⟩:=Bo hi;obtain ⟨ra,_,rfl,ha,hi⟩:=Bo hi;obtain ⟨rb,_,rfl,hb,hi⟩:=Bo hi;cases DM hi;cases ho;obtain ⟨pa,ua,rfl,J9,Ez⟩:=An.its ha;obtain ⟨pb,ub,rfl,RN,Vb⟩:=An.its hb;refine AK (decide_eq_true rfl) ?_;apply A5 (s6 _ _ hp) (v:=.ref pa) rfl ?_;apply A5 (s6 _ _ J9) (v:=.str a.wd) (Ad (j:=0) rfl) ?_;left;by_cases w2:a.wd="number"
          ·obtain ⟨i,rfl⟩:=Jj w2;obtain ⟨uk,_,rfl,h0,Ez⟩:=Bo Ez;cases DM Ez;cases h0;refine AK (decide_eq_true rfl) ?_;apply A5 (s6 _ _ hp) (v:=.ref pb) rfl ?_;apply A5 (s6 _ _ RN) (v:=.str b.wd) (Ad (j:=0) rfl) ?_;left;by_cases w3:b.wd="number"
           ·obtain ⟨j,rfl⟩:=Jj w3;obtain ⟨xS,_,rfl,h0,Vb⟩:=Bo Vb;cases DM Vb;cases h0;refine AK (decide_eq_true rfl) ?_;apply A5 (s6 _ _ hp) (v:=.ref pa) rfl ?_;apply A5 (s6 _ _ J9) (v:=.int i) rfl ?_;apply A5 (s6 _ _ hp) (v:=.ref pb) rfl ?_;apply A5 (s6 _ _ RN) (v:=.int j) rfl ?_;apply A5 (s6 _ _ hp) (v:=.str o) rfl ?_;left;intros t7 H7 s7 e7;refine Es (.inr (B0.of e7)) rfl rfl ?_;left;have Vc:=s6.trans s7;have fin2:∀ (z:Ex),red (.op o (.num i) (.num j))=some (z,false)->∀ p8 H8,A9 H7 H8->An H8 z (.ref p8)->∀ p9 H9,A9 H8 H9->H9 p9=some (.tup [.ref p8,.bl false])->Q (.ref p9) H9:=λz hz p8 H8 s8 e8 p9 H9 s9 e9=>q2 _ _ (fs.trans hz) _ _ _ (Vc.trans (s8.trans s9)) e9 (An.mono (TSub.of_same s9) e8);by_cases o1:o="plus"
            ·subst o1;refine AK ⟨⟩ ?_;apply A5 (Vc _ _ hp) (v:=.str "plus") rfl ?_;apply AK (decide_eq_true rfl) ?_;left;intros p8 H8 s8 e8;left;intros p9 H9 s9 e9;exact fin2 (.num (i+j)) rfl p8 H8 s8 ⟨p8,rfl,e8⟩ p9 H9 s9 e9
            ·by_cases o2:o="minus"
             ·subst o2;refine AK ⟨⟩ ?_;apply A5 (Vc _ _ hp) (v:=.str "minus") rfl ?_;apply Ay (FJ o1) ?_;left;intros p8 H8 s8 e8;left;intros p9 H9 s9 e9;exact fin2 (.num (i - j)) rfl p8 H8 s8 ⟨p8,rfl,e8⟩ p9 H9 s9 e9
             ·refine Ay (by simp [FR,Ph];exact ⟨λz=>o1 z.symm,λz=>o2 z.symm⟩) ?_;apply A5 (Vc _ _ hp) (v:=.str o) rfl ?_;left;by_cases o3:o="less"
              ·subst o3;refine AK (decide_eq_true rfl) ?_;left;intros p8 H8 s8 e8;left;intros p9 H9 s9 e9;exact fin2 (.tru (decide (i < j))) rfl p8 H8 s8 ⟨p8,rfl,e8⟩ p9 H9 s9 e9
              ·refine Ay (FJ o3) ?_;left;intros p8 H8 s8 e8;left;intros p9 H9 s9 e9;refine fin2 (.tru (decide (i=j))) (by simp only [red,Qq,o1,o2,o3,if_false]) p8 H8 s8 ⟨p8,rfl,?_⟩ p9 H9 s9 e9;simpa using e8
           ·refine Ay (FJ w3) ?_;refine fin _ _ ⟨rfl,s6,λ_ _ _ z i j=>?_⟩;cases z;rintro ⟨_,rfl⟩;exact w3 rfl
          ·refine Ay (FJ w2) ?_;refine fin _ _ ⟨rfl,s6,λ_ _ _ z i j=>?_⟩;cases z;rintro ⟨rfl,_⟩;exact w2 rfl
         ·refine Ay (FJ w) ?_;exact fin _ _ ⟨rfl,s6,λ_ _ _ z=>absurd (z▸rfl) w⟩
       ·apply A5 (s5 _ _ hp) (v:=.str e.wd) (Ad (j:=0) rfl) ?_;left;by_cases w:e.wd="split"
        ·obtain ⟨a,c,x,y,b,rfl⟩:=XG w;obtain ⟨ra,_,rfl,ha,hi⟩:=Bo hi;obtain ⟨rc,_,rfl,hc,hi⟩:=Bo hi;obtain ⟨rx,_,rfl,hx,hi⟩:=Bo hi;obtain ⟨ry,_,rfl,hy,hi⟩:=Bo hi;obtain ⟨rb,_,rfl,hb,hi⟩:=Bo hi;cases DM hi;cases hx;cases hy;obtain ⟨pa,ua,rfl,J9,Ez⟩:=An.its ha;refine AK (decide_eq_true rfl) ?_;apply A5 (s5 _ _ hp) (v:=.ref pa) rfl ?_;apply A5 (s5 _ _ J9) (v:=.str a.wd) (Ad (j:=0) rfl) ?_;left;intros t6 H6 s6 e6;refine Es (.inr (B0.of e6)) rfl rfl ?_;left;have HH:=s5.trans s6;rcases bJ (e:=a) with ⟨c',hf⟩ | ⟨c',n1,n2⟩
         ·refine AK c' ?_;apply A5 (HH _ _ hp) (v:=.ref pa) rfl ?_;apply A5 (HH _ _ J9) (v:=.str a.wd) (Ad (j:=0) rfl) ?_;left;rcases hf with rfl | ⟨u,v,rfl⟩
          ·refine AK (decide_eq_true rfl) ?_;apply A5 (HH _ _ hp) (v:=rc) rfl ?_;left;intros p7 H7 s7 e7;exact q2 _ _ fs _ _ _ (HH.trans s7) e7 (An.mono (TSub.of_same (HH.trans s7)) hc)
          ·refine Ay (show ¬ decide (V.str "link"=V.str "empty")=true by decide) ?_;obtain ⟨ru,_,rfl,hu,Ez⟩:=Bo Ez;obtain ⟨rv,_,rfl,hv,Ez⟩:=Bo Ez;cases DM Ez;apply A5 (HH _ _ hp) (v:=rb) rfl ?_;apply Ck (B0.of (HH _ _ hp)) (by simp [HT.sIx]) λp7 H7 jY s7 e7=>?_;left;have Vc:=HH.trans s7;refine A5 (Vc _ _ hp) (v:=.ref pa) rfl ?_;apply Ck (B0.of (Vc _ _ J9)) (by simp [HT.sIx]) λp8 H8 xT s8 e8=>?_;left;have pS:=Vc.trans s8;have jZ:=TSub.of_same pS;have d1:=Bk (e:=.spl (.lk u v) c x y b) (a:=b) (by simp [Ex.its]);have d2:=Bk (e:=.lk u v) (a:=v) (by simp [Ex.its]);have d3:=TU (a:=.lk u v) (x:=x) (y:=y) (b:=b) (c:=c) T.cl.1.2 ();refine ⟨b,u,v,x,y,_,_,_,_,_,rfl,An.mono jZ hb,An.mono jZ hu,An.mono jZ hv,.inr (s8 _ _ e7),.inr e8,(),(),λr9 H9 s9 e9=>?_⟩;left;intros jo L0 Dr Ke;exact q2 _ _ fs _ _ _ (pS.trans (s9.trans Dr)) Ke (An.mono (TSub.of_same Dr) e9)
         ·refine Ay (by rw [c'];decide) ?_;refine fin _ _ ⟨rfl,HH,λ_ _ _ _ _ z=>?_⟩;cases z;exact ⟨n1,n2⟩
        ·refine Ay (FJ w) ?_;exact fin _ _ ⟨rfl,s5,λ_ _ _ _ _ z=>absurd (z▸rfl) w⟩
      ·apply A5 (s4 _ _ hp) (v:=.str e.wd) (Ad (j:=0) rfl) ?_;left;by_cases w:e.wd="open"
       ·obtain ⟨a,x,y,b,rfl⟩:=XF w;obtain ⟨ra,_,rfl,ha,hi⟩:=Bo hi;obtain ⟨rx,_,rfl,hx,hi⟩:=Bo hi;obtain ⟨ry,_,rfl,hy,hi⟩:=Bo hi;obtain ⟨rb,_,rfl,hb,hi⟩:=Bo hi;cases DM hi;cases hx;cases hy;obtain ⟨pa,ua,rfl,J9,Ez⟩:=An.its ha;refine AK (decide_eq_true rfl) ?_;apply A5 (s4 _ _ hp) (v:=.ref pa) rfl ?_;apply A5 (s4 _ _ J9) (v:=.str a.wd) (Ad (j:=0) rfl) ?_;left;by_cases w2:a.wd="pair"
        ·obtain ⟨u,v,rfl⟩:=V9 w2;obtain ⟨ru,_,rfl,hu,Ez⟩:=Bo Ez;obtain ⟨rv,_,rfl,hv,Ez⟩:=Bo Ez;cases DM Ez;refine AK (decide_eq_true rfl) ?_;apply A5 (s4 _ _ hp) (v:=rb) rfl ?_;apply Ck (B0.of (s4 _ _ hp)) (by simp [HT.sIx]) λp5 H5 L4 s5 e5=>?_;left;have Jc:=s4.trans s5;refine A5 (Jc _ _ hp) (v:=.ref pa) rfl ?_;apply Ck (B0.of (Jc _ _ J9)) (by simp [HT.sIx]) λp6 H6 jU s6 e6=>?_;left;have HH:=Jc.trans s6;have j':=TSub.of_same HH;have d1:=Bk (e:=.opn (.pr u v) x y b) (a:=b) (by simp [Ex.its]);have d2:=Bk (e:=.pr u v) (a:=v) (by simp [Ex.its]);have d3:=TR (a:=.pr u v) (x:=x) (y:=y) (b:=b) T.cl.1.2 ();refine ⟨b,u,v,x,y,_,_,_,_,_,rfl,An.mono j' hb,An.mono j' hu,An.mono j' hv,.inr (s6 _ _ e5),.inr e6,(),(),λr7 H7 s7 e7=>?_⟩;left;intros p8 H8 s8 e8;exact q2 _ _ fs _ _ _ (HH.trans (s7.trans s8)) e8 (An.mono (TSub.of_same s8) e7)
        ·refine Ay (FJ w2) ?_;refine fin _ _ ⟨rfl,s4,λ_ _ _ _ z u v=>?_⟩;cases z;rintro rfl;exact w2 rfl
       ·refine Ay (FJ w) ?_;exact fin _ _ ⟨rfl,s4,λ_ _ _ _ z=>absurd (z▸rfl) w⟩
     ·apply A5 (s3 _ _ hp) (v:=.str e.wd) (Ad (j:=0) rfl) ?_;left;by_cases w:e.wd="when"
      ·obtain ⟨a,b,c,rfl⟩:=bG w;obtain ⟨ra,_,rfl,ha,hi⟩:=Bo hi;obtain ⟨rb,_,rfl,hb,hi⟩:=Bo hi;obtain ⟨rc,_,rfl,hc,hi⟩:=Bo hi;cases DM hi;obtain ⟨pa,ua,rfl,J9,Ez⟩:=An.its ha;refine AK (decide_eq_true rfl) ?_;apply A5 (s3 _ _ hp) (v:=.ref pa) rfl ?_;apply A5 (s3 _ _ J9) (v:=.str a.wd) (Ad (j:=0) rfl) ?_;left;by_cases w2:a.wd="truth"
       ·obtain ⟨t,rfl⟩:=R1 w2;obtain ⟨uk,_,rfl,h0,Ez⟩:=Bo Ez;cases DM Ez;cases h0;refine AK (decide_eq_true rfl) ?_;apply A5 (s3 _ _ hp) (v:=.ref pa) rfl ?_;apply A5 (s3 _ _ J9) (v:=.bl t) rfl ?_;apply .inr ⟨_,rfl,?_⟩;cases t with
        | true =>
         refine ⟨_,_,rfl,rfl,?_⟩;refine A5 (s3 _ _ hp) (v:=rb) rfl ?_;left;intros p4 H4 s4 e4;exact q2 _ _ fs _ _ _ (s3.trans s4) e4 (An.mono (TSub.of_same (s3.trans s4)) hb)
        | false =>
         refine ⟨_,_,rfl,rfl,?_⟩;refine A5 (s3 _ _ hp) (v:=rc) rfl ?_;left;intros p4 H4 s4 e4;exact q2 _ _ fs _ _ _ (s3.trans s4) e4 (An.mono (TSub.of_same (s3.trans s4)) hc)
       ·refine Ay (FJ w2) ?_;refine fin _ _ ⟨rfl,s3,λ_ _ _ z t=>?_⟩;cases z;rintro rfl;exact w2 rfl
      ·refine Ay (FJ w) ?_;exact fin _ _ ⟨rfl,s3,λ_ _ _ z=>absurd (z▸rfl) w⟩
    ·apply A5 (s2 _ _ hp) (v:=.str e.wd) (Ad (j:=0) rfl) ?_;left;by_cases w:e.wd="let"
     ·obtain ⟨x,a,b,rfl⟩:=bF w;obtain ⟨rx,_,rfl,hx,hi⟩:=Bo hi;obtain ⟨ra,_,rfl,ha,hi⟩:=Bo hi;obtain ⟨rb,_,rfl,hb,hi⟩:=Bo hi;cases DM hi;cases hx;refine AK (decide_eq_true rfl) ?_;apply A5 (s2 _ _ hp) (v:=rb) rfl ?_;apply A5 (s2 _ _ hp) (v:=.str x) rfl ?_;apply A5 (s2 _ _ hp) (v:=ra) rfl ?_;left;have db:=Bk (e:=.lt x a b) (a:=b) (by simp [Ex.its]);refine ⟨b,a,x,_,_,rfl,An.mono (TSub.of_same s2) hb,An.mono (TSub.of_same s2) ha,(),λr3 H3 s3 e3=>?_⟩;left;intros p4 H4 s4 e4;exact q2 _ _ fs _ _ _ (s2.trans (s3.trans s4)) e4 (An.mono (TSub.of_same s4) e3)
     ·refine Ay (FJ w) ?_;exact fin _ _ ⟨rfl,s2,λ_ _ _ z=>absurd (z▸rfl) w⟩
   ·apply A5 (s1 _ _ hp) (v:=.str e.wd) (Ad (j:=0) rfl) ?_;left;by_cases w:e.wd="call"
    ·obtain ⟨a,b,rfl⟩:=XE w;obtain ⟨ra,_,rfl,ha,hi⟩:=Bo hi;obtain ⟨rb,_,rfl,hb,hi⟩:=Bo hi;cases DM hi;obtain ⟨pa,ua,rfl,J9,Ez⟩:=An.its ha;refine AK (decide_eq_true rfl) ?_;apply A5 (s1 _ _ hp) (v:=.ref pa) rfl ?_;apply A5 (s1 _ _ J9) (v:=.str a.wd) (Ad (j:=0) rfl) ?_;left;intros t2 H2 s2 e2;refine Es (.inr (B0.of e2)) rfl rfl ?_;left;rcases bI (e:=a) with ⟨c,hf⟩ | ⟨c,n1,n2⟩
     ·refine AK c ?_;obtain ⟨x,y,d,k6,i1,i2,i3,OG,k7,⟨nb,xU,Kd⟩,pT⟩:∃ (x y:Str) (d:Ex) (k6:V),KY (V.str a.wd::ua) 1=some (.str x)/\KY (V.str a.wd::ua) (-2)=some (.str y)/\KY (V.str a.wd::ua) (-1)=some k6/\An H d k6/\red (.cal a b)=some (aae x y a b d,true)/\(∃ nb,nb<=k/\Kb k d nb)/\dep dz d<=n:=by
       obtain ⟨hc,ho,m,K'⟩:=T;obtain ⟨⟨m1,K1⟩,K2⟩:=K'.two rfl;rcases hf with ⟨x,d,rfl⟩ | ⟨f,x,d,rfl⟩
       ·obtain ⟨u1,_,rfl,h1,Ez⟩:=Bo Ez;obtain ⟨u2,_,rfl,h2,Ez⟩:=Bo Ez;cases DM Ez;cases h1;have:=Bk (e:=.fn x d) (a:=d) (by simp [Ex.its]);have:=Bk (e:=.cal (.fn x d) b) (a:=.fn x d) (by simp [Ex.its]);exact ⟨x,x,d,u2,rfl,rfl,rfl,h2,by rw [LQ hc.2];rfl,K1.body (.inl ⟨x,rfl⟩),()⟩
       ·obtain ⟨u1,_,rfl,h1,Ez⟩:=Bo Ez;obtain ⟨u2,_,rfl,h2,Ez⟩:=Bo Ez;obtain ⟨u3,_,rfl,h3,Ez⟩:=Bo Ez;cases DM Ez;cases h1;cases h2;have:=Bk (e:=.rc f x d) (a:=d) (by simp [Ex.its]);have:=Bk (e:=.cal (.rc f x d) b) (a:=.rc f x d) (by simp [Ex.its]);exact ⟨f,x,d,u3,rfl,rfl,rfl,h3,rfl,K1.body (.inr ⟨f,x,rfl⟩),()⟩
      have By:=s1.trans s2;apply A5 (By _ _ hp) (v:=.ref pa) rfl ?_;apply A5 (By _ _ J9) i1 ?_;apply A5 (By _ _ J9) i2 ?_;left;intros p3 H3 s3 e3;left;have DO:=By.trans s3;refine A5 (DO _ _ J9) i3 ?_;apply A5 (DO _ _ hp) (v:=rb) rfl ?_;left;intros p4 H4 s4 e4;have YU:=DO.trans s4;have k8:=TSub.of_same YU;have db:=Bk (e:=.cal a b) (a:=b) (by simp [Ex.its]);have dg:dep dz (give y b d)<=n+k:=by
       rw [Hx T.cl.2];have:=Kd.dep (ρ:=dz.up y (dep dz b)) (m:=n) (BL y (λ_=>Nat.zero_le _) ()) pT;omega
      refine ⟨d,a,b,x,y,_,_,_,_,_,rfl,An.mono k8 OG,An.mono k8 ha,An.mono k8 hb,.inl (s4 _ _ e3),.inl e4,(),dg,λr5 H5 s5 e5=>?_⟩;left;intros p6 H6 s6 e6;exact q2 _ _ (fs.trans k7) _ _ _ (YU.trans (s5.trans s6)) e6 (An.mono (TSub.of_same s6) e5)
     ·refine Ay (by rw [c];decide) ?_;refine fin _ _ ⟨rfl,s1.trans s2,λ_ _ z=>?_⟩;cases z;exact ⟨n1,n2⟩
    ·refine Ay (FJ w) ?_;exact fin _ _ ⟨rfl,s1,λ_ _ z=>absurd (z▸rfl) w⟩
  ·left;rcases MS e with ⟨f0,fs⟩ | ⟨a,f3,f1,fa,fv,fs,fp⟩
   ·refine Ay (λz=>by have:=of_decide_eq_true z;omega) ?_;exact Xp _ _ ⟨rfl,s1,f0,fs⟩
   ·refine AK (decide_eq_true ()) ?_;obtain ⟨u,hu,jX⟩:=Paired.at1 hi fa;have hk:∃ m,e.fst=m+1:=⟨e.fst - 1,()⟩;have Ss:(V.str e.wd::us)[e.fst]?=some u:=by
     obtain ⟨m,hm⟩:=hk;rw [hm] at hu ⊢;simpa using hu
    have Cv:e.fst - 1 < us.length:=(List.getElem?_eq_some_iff.mp hu).1;apply A5 (s1 _ _ hp) (v:=u) (Ad Ss) ?_;left;have da:=Bk (List.mem_of_getElem? fa);cases n with
    | zero=>omega
    | succ n =>
    refine ⟨a,u,rfl,An.mono (TSub.of_same s1) jX,XJ T f1 fa,(),λst H2 s2=>?_,λe' c st pi r' H2 s2 h2 RT=>?_⟩
    ·apply .inl ⟨rfl,⟨_,rfl,AK (decide_eq_true rfl) ?_⟩⟩;left;exact q1 (by rw [fs,st];rfl) _ (s1.trans s2)
    ·apply .inr ⟨pi,_,_,rfl,h2,rfl,⟨_,rfl,BG ?_⟩⟩;left;have By:=s1.trans s2;refine Ck (B0.of (By _ _ hp)) ?_ λp3 H3 um s3 e3=>?_
     ·rintro ⟨_,z⟩;rw [HT.aal] at z;simp only [List.length_cons] at z;omega
     rw [Kq] at e3;apply A5 (s3 _ _ h2) (v:=r') rfl ?_;left;intros p4 H4 s4 e4;have lt:((V.str e.wd::us).take e.fst).length=e.fst:=by
      rw [List.length_take,List.length_cons];omega
     refine F7 (B0.of (s4 _ _ e3)) (B0.of e4) (λz=>by rw [z] at lt;simp at lt;omega) (by rw [lt];exact Cf (by simp;omega)) (λz=>by cases z) λp5 H5 L4 s5 e5=>?_;have Jc:=By.trans (s3.trans (s4.trans s5));apply Ck (B0.of (Jc _ _ hp)) ?_ λp6 H6 jU s6 e6=>?_
     ·rintro ⟨z,_⟩;rw [show ((e.fst:Int)+1)=((e.fst+1:Nat):Int) by omega,HT.aal] at z;simp only [List.length_cons] at z;omega
     rw [show ((e.fst:Int)+1)=((e.fst+1:Nat):Int) by omega,Kr] at e6;have HH:=Jc.trans s6;have k9:=s3.trans (s4.trans (s5.trans s6));have fin:∀ p7 H7,A9 H6 H7->H7 p7=some (.tup ((V.str e.wd::us).take e.fst++[r']++(V.str e.wd::us).drop (e.fst+1)))->∀ p8 H8,A9 H7 H8->H8 p8=some (.tup [.ref p7,.bl c])->Q (.ref p8) H8:=λp7 H7 s7 e7 p8 H8 s8 e8=>by
      refine q2 (put e e.fst e') c (by rw [fs,st];rfl) p8 _ H8 (HH.trans (s7.trans s8)) e8 ?_;rw [M' _ _ _ (by simp;omega)] at e7;obtain ⟨m,hm⟩:=hk;rw [hm,List.set_cons_succ] at e7;have t8:=TSub.of_same (HH.trans (s7.trans s8));refine An.abf (us:=us.set m r') (by rw [(fp e').2];exact s8 _ _ e7) ?_;rw [(fp e').1,hm];exact Paired.set (show E9 H8 (.pt e') r' from An.mono (TSub.of_same (k9.trans (s7.trans s8))) RT) m (Paired.aah hi λ_ _ z=>E9.mono t8 z)
     refine F7 (B0.of (s6 _ _ e5)) (B0.of e6) (by simp) ?_ (λz=>?_) λp7 H7 jY s7 e7=>?_
     ·refine Cf ?_;simp only [List.length_append,lt,List.length_cons,List.length_nil,List.length_drop];omega
     ·apply A5 (k9 _ _ h2) (v:=.bl c) rfl ?_;left;intros p8 H8 s8 e8;exact fin p5 H6 (A9.refl _) (by rw [z,List.append_nil];exact s6 _ _ e5) p8 H8 s8 e8
     ·apply A5 (s7 _ _ (k9 _ _ h2)) (v:=.bl c) rfl ?_;left;intros p8 H8 s8 e8;exact fin p7 H7 s7 e7 p8 H8 s8 e8
theorem Vd {k:Nat}{f:Addr}{fd:FuncData}(D:Df K mg "_law_step" D5 ["_law_tree"] f fd)(Co:mg "int"=none)(cF:∀ n,Cl Pr w K mg base (n+2) "_law_first" ["_law_tree"] (MY n))(cG:∀ n,Cl Pr w K mg base (n+1) "_law_give" ["_law_tree","_law_name_here","_law_one"] (FI n))
  (cT:∀ n,Cl Pr w K mg base (n+2) "_law_give_two" ["_law_tree","_law_names","_law_values"] (MX n)):∀ n,Cl Pr w K mg base (n+k+3) "_law_step" ["_law_tree"] (N1 k n)
 | 0=>D.cl (R4 (n:=0) D.F Co (D.cl F3) (cF 0) (cG _) (cT _))
 | n+1=>D.cl (R4 (n:=n+1) D.F Co (by have:=Vd (k:=k) D Co cF cG cT n;rw [show n+k+3=n+1+k+2 by omega] at this;exact this) (cF _) (cG _) (cT _))
abbrev fR:V->Bool:=jQ
noncomputable def AL (H:Hp):Nat->V->V->Prop
 | 0,x,y=>fR x=true/\x=y
 | n+1,x,y=>(fR x=true/\x=y)\/∃ p q us vs,x=.ref p/\y=.ref q/\H p=some (.tup us)/\H q=some (.tup vs)/\us.length<=9/\Paired (AL H n) us vs
theorem AL.up {H:Hp}:∀ {n:Nat} {x y:V},AL H n x y->AL H (n+1) x y
 | 0,_,_,h=>.inl h
 | n+1,_,_,.inl h=>.inl h
 | n+1,_,_,.inr ⟨p,q,us,vs,h1,h2,h3,h4,h5,h6⟩=>.inr ⟨p,q,us,vs,h1,h2,h3,h4,h5,Paired.aah h6 λ_ _ z=>z.up⟩
theorem AL.sc {H:Hp}{n:Nat}{x:V}(h:fR x=true):AL H n x x:=by
 cases n with
 | zero=>exact ⟨h,rfl⟩
 | succ n=>exact .inl ⟨h,rfl⟩
theorem AL.mono {H H':Hp}(s:TSub H H'):∀ {n:Nat} {x y:V},AL H n x y->AL H' n x y
 | 0,_,_,h=>h
 | n+1,_,_,.inl h=>.inl h
 | n+1,_,_,.inr ⟨p,q,us,vs,h1,h2,h3,h4,h5,h6⟩=>.inr ⟨p,q,us,vs,h1,h2,s _ _ h3,s _ _ h4,h5,Paired.aah h6 λ_ _ z=>z.mono s⟩
theorem AL.of {H:Hp}:∀ {n:Nat} {e:Ex} {x y:V},dep dz e<=n->An H e x->An H e y->AL H (n+1) x y
 | n,e,x,y,hd,hx,hy=>by
  obtain ⟨p,us,rfl,hp,hi⟩:=hx.its;obtain ⟨q,vs,rfl,hq,hj⟩:=hy.its;have l1:=Paired.len hi;have l2:=Gs e;refine .inr ⟨p,q,_,_,rfl,rfl,hp,hq,by simp;omega,.cons (.sc rfl) ?_⟩;have al:∀ a∈e.its,∀ u v,E9 H a u->E9 H a v->AL H n u v:=λa ha u v hu hv=>by
   cases a with
   | sc w=>cases hu;cases hv;exact .sc (QW ha)
   | pt b =>
    have:=Bk ha
    match n,this with
    | m+1,h=>exact AL.of (n:=m) () hu hv
    | 0,h=>omega
  clear hp hq l1 l2 hd hx hy;generalize e.its=L at *
  induction hi generalizing vs with
  | nil=>cases DM hj;exact .nil
  | @cons a u _ _ r _ ih =>
   obtain ⟨v,_,rfl,rv,hj⟩:=Bo hj;exact .cons (al a (.head _) u v r rv) (ih _ hj λa ha=>al a (.tail _ ha))
noncomputable def TV (n:Nat):Sp:=λvs H Q _=>∃ x y:V,vs=[x,y]/\AL H n x y/\∀ H',A9 H H'->Q (.bl true) H'
noncomputable def Ve:Nat->Sp
 | 0=>J0
 | n+1=>TV n
theorem bL:Am ["_law_one","_law_other","_law_same"] ["_law_one","_law_other"] (A6 Bx):=nofun
theorem R5 {n:Nat}{f:Addr}{fd:FuncData}(F:C8 K "_law_alike" "_law_alike" Bx f fd)(Aq:mg "isinstance"=none)(AJ:mg "tuple"=none)(Ea:mg "bool"=none)(Ks:mg "all"=none)(B1:mg "len"=none)(Kt:mg "min"=none)(B5:mg "range"=none)
  (cA:Cl Pr w K mg base n "_law_alike" ["_law_one","_law_other"] (Ve n)):Av Pr w K mg base Bs (n+1) f fd ["_law_one","_law_other"] (TV n):=by
 refine F.okS bL (λB9 A outer s H vs Q E hr h=>?_)
 ·obtain ⟨x,y,rfl,ha,q⟩:=h;have S:AZ (BQ Bs Pr w K mg base ["_law_one","_law_other","_law_same"] "_law_alike" (A6 Bx) f B9 A outer s H E).nox (Bv (valueOf (Xd (inDef Bx 0)))) [("_law_other",s.heap.objs.size+2),("_law_one",s.heap.objs.size+1)] ["_law_k"] ["_law_other","_law_one"] [1,0] :=
   ⟨rfl,by decide +kernel,rfl,by decide +kernel,rfl,rfl,rfl,rfl⟩
  have HU:(["_law_k","_law_other","_law_one"]:List Str).Nodup:=by decide +kernel
  refine ⟨_,(A4 (AB (Gj (w_and (Dp (AF Cz (by rfl) Aq PyProof.Rows.boot_isinstance (A1 (A7 0) (A1 (DY (v:=.ty "tuple") rfl AJ PyProof.Rows.boot_tuple rfl) A2)))) (BH (Dp (AF Cz (by rfl) Aq PyProof.Rows.boot_isinstance (A1 (A7 1) (A1 (DY (v:=.ty "tuple") rfl AJ PyProof.Rows.boot_tuple rfl) A2))))))) (A4 (Hc (i:=2) bL.nd rfl (.inl rfl) (tt:=GU) (te:=CV (Ve n) [] E0 (Be (Fj (Bg K) (B2 2) (B2 0)) (Be (Fj (Bg K) (B2 1) (B2 0)) Fq))) S rfl (F1 rfl B5 (A1 (AF (Nn rfl) rfl Kt PyProof.Rows.boot_min (A1 (AF AQ rfl B1 PySem.boot_len (A1 (A7 0) A2)) (A1 (AF AQ rfl B1 PySem.boot_len (A1 (A7 1) A2)) A2))) A2)) (λC s0 H0 ex=>AV (i:=0) HU rfl (.inl rfl)) (λ_ _ _ _=>Ep) (λC s0 H0 ex=>As cA hr rfl (A1 (AH Aw (A7 2) (A7 0) Br) (A1 (AH Aw (A7 1) (A7 0) Br) A2))))
   (Ab (Ag (JR (C1 Ao (AF AQ (by rfl) B1 PySem.boot_len (A1 (A7 0) A2)) (AF AQ (by rfl) B1 PySem.boot_len (A1 (A7 1) A2)) (Ac _)) (JQ (AF (Iu rfl) (by rfl) Ks PyProof.Rows.boot_all (A1 (A7 2) A2))))))) Ap)
   (Ab (Ag (JR (C1 Ao (AF Cz (by rfl) Aq PyProof.Rows.boot_isinstance (A1 (A7 0) (A1 (DY (v:=.ty "bool") rfl Ea PyProof.Rows.boot_bool rfl) A2))) (AF Cz (by rfl) Aq PyProof.Rows.boot_isinstance (A1 (A7 1) (A1 (DY (v:=.ty "bool") rfl Ea PyProof.Rows.boot_bool rfl) A2))) (Ac _)) (JQ (C1 Ao (A7 0) (A7 1) (Ac _))))))),?_⟩
  have cs:(fR x=true/\x=y)\/∃ m p r us vs,n=m+1/\x=.ref p/\y=.ref r/\H p=some (.tup us)/\H r=some (.tup vs)/\us.length<=9/\Paired (AL H m) us vs:=by
   cases n with
   | zero=>exact .inl ha
   | succ m =>
    rcases ha with h | ⟨p,r,us,vs,h⟩
    ·exact .inl h
    ·exact .inr ⟨m,p,r,us,vs,rfl,h⟩
  rcases cs with ⟨hf,rfl⟩ | ⟨m,p,r,us,vs,rfl,rfl,rfl,h3,h4,h5,h6⟩
  ·have ty:∃ t b,Cd K H x t/\W.kitOne K t (.type "tuple")=some false/\W.kitOne K t (.type "bool")=some b/\OZ x x=true:=by
    cases x with
    | str z=>exact ⟨_,false,Cd.str z,rfl,rfl,rfl⟩
    | int z=>exact ⟨_,false,Cd.int z,rfl,rfl,rfl⟩
    | bl z=>exact ⟨_,true,Cd.bl z,rfl,rfl,rfl⟩
    | _=>cases hf
   obtain ⟨t,b,t1,t2,t3,t4⟩:=ty;apply ⟨x,t,_,false,rfl,t1,t2,?_⟩;apply BG (BG ?_);apply ⟨x,t,_,b,rfl,t1,t3,?_⟩;apply ⟨x,t,_,b,rfl,t1,t3,?_⟩;apply AK (decide_eq_true rfl) ?_;apply Qk t4 ?_;rw [decide_eq_true rfl];exact q H (A9.refl _)
  ·have l6:=Paired.len h6;apply ⟨.ref p,_,_,true,rfl,Cd.tup h3,rfl,?_⟩;apply C5 ?_;apply ⟨.ref r,_,_,true,rfl,Cd.tup h4,rfl,?_⟩;apply C5 ?_;apply ⟨p,us,rfl,.inr (B0.of h3),?_⟩;apply ⟨r,vs,rfl,.inr (B0.of h4),?_⟩;apply ⟨_,_,rfl,?_⟩;left;have ej:(if (vs.length:Int) < (us.length:Int) then (vs.length:Int) else (us.length:Int))=(us.length:Int):=by split <;> omega
   rw [ej];refine ⟨_,rfl,(),(),?_⟩;rw [Int.toNat_natCast];refine K6 (n:=us.length) (λi ys H'=>A9 H H'/\ys=(List.replicate i true).map V.bl) ⟨A9.refl _,rfl⟩ (by exact BW ()) (λi ys H' z=>by rw [z.2];simp) rfl (λi ys H1 hi z=>?_) (λys H1 z=>?_)
   ·obtain ⟨s1,rfl⟩:=z;have hx:us[i]?=some us[i]:=(by simp [hi]);obtain ⟨y,hy,ay⟩:=Paired.at1 h6 hx;apply C5 ?_;left;rw [show (0:Int)+(i:Int)=(i:Int) by omega];refine A5 (s1 _ _ h3) (Ad hx) ?_;apply A5 (s1 _ _ h4) (Ad hy) ?_;apply ⟨_,_,rfl,ay.mono (TSub.of_same s1),λH2 s2=>?_⟩;refine Nx.mk hi ⟨s1.trans s2,?_⟩;rw [List.replicate_succ'];simp
   ·obtain ⟨s1,rfl⟩:=z;intros l H2 s2 e2;left;have By:=s1.trans s2;refine ⟨p,us,rfl,.inr (B0.of (By _ _ h3)),?_⟩;apply ⟨r,vs,rfl,.inr (B0.of (By _ _ h4)),?_⟩;apply AK (decide_eq_true (by rw [l6])) ?_;apply ⟨l,_,rfl,e2,?_⟩;have kg:(List.replicate us.length true).all id=true:=(by simp);rw [kg];exact q H2 By
theorem Vf {f:Addr}{fd:FuncData}(D:Df K mg "_law_alike" Bx ["_law_one","_law_other"] f fd)(Aq:mg "isinstance"=none)(AJ:mg "tuple"=none)(Ea:mg "bool"=none)(Ks:mg "all"=none)(B1:mg "len"=none)(Kt:mg "min"=none)(B5:mg "range"=none):
  ∀ n,Cl Pr w K mg base (n+1) "_law_alike" ["_law_one","_law_other"] (TV n)
 | 0=>D.cl (R5 (n:=0) D.F Aq AJ Ea Ks B1 Kt B5 (D.cl F3))
 | n+1=>D.cl (R5 (n:=n+1) D.F Aq AJ Ea Ks B1 Kt B5 (Vf D Aq AJ Ea Ks B1 Kt B5 n))
end
end K
namespace KX
open PySem Ex
theorem Jk (e:Ex):1<=e.sz:=by cases e <;> simp [sz] <;> omega
noncomputable def IL (σ:Su)(ns:List Str):Su:=ns.foldl Su.rm σ
open Classical in
noncomputable def BZ (t:Ex × Su):List (Ex × Su):=if ∀ y,t.2 y=none then [] else t.1.prt.map λp=>(p.1,IL t.2 p.2)
noncomputable def LR:Nat->Ex × Su->Nat
 | 0,_=>1
 | n+1,t=>1+((BZ t).map (LR n)).sum
theorem LS {n:Nat}:∀ {l:List Nat},n∈l->n<=l.sum
 | a::l,h=>by
  rw [List.sum_cons];rcases List.mem_cons.mp h with rfl | h
  ·omega
  ·have:=LS h;omega
theorem N4 (e:Ex):(e.prt.map λp=>p.1.sz).sum+1=e.sz:=by cases e <;> simp [prt,sz] <;> omega
theorem Ku {t u:Ex × Su}(h:u∈BZ t):u.1.sz < t.1.sz:=by
 unfold BZ at h;split at h
 ·cases h
 ·obtain ⟨p,hp,rfl⟩:=List.mem_map.mp h;have h1:=N4 t.1;have h2:p.1.sz<=(t.1.prt.map λp=>p.1.sz).sum:=LS (List.mem_map.mpr ⟨p,hp,rfl⟩);show p.1.sz < t.1.sz;omega
theorem Jl:∀ (n m:Nat) (t:Ex × Su),t.1.sz<=n->t.1.sz<=m->LR n t=LR m t
 | 0,_,t,h,_=>by have:=Jk t.1;omega
 | _+1,0,t,_,h=>by have:=Jk t.1;omega
 | n+1,m+1,t,h,g=>by
  simp only [LR]
  congr 2
  refine List.map_congr_left λu hu=>?_;have:=Ku hu;exact Jl n m u () ()
noncomputable def XO (t:Ex × Su):Nat:=LR t.1.sz t
theorem Jm {α:Type}(g:α->Nat):∀ l:List α,KG.szs g l=(l.map g).sum
 | []=>rfl
 | a::l=>by simp [KG.szs,Jm g l]
theorem R6 (t:Ex × Su):KG.szs XO (BZ t)+1=XO t:=by
 have e:XO t=LR (t.1.sz+1) t:=Jl _ _ t (Nat.le_refl _) ();rw [e,LR,Jm,Nat.add_comm]
 congr 2
 refine List.map_congr_left λu hu=>?_;have:=Ku hu;exact Jl _ _ u (Nat.le_refl _) ()
theorem R7:∀ (n:Nat) (t:Ex × Su),t.1.sz<=n->XO t<=t.1.sz
 | 0,t,h=>by have:=Jk t.1;omega
 | n+1,t,h=>by
  rw [<- R6 t,Jm];have h1:=N4 t.1;have h2:((BZ t).map XO).sum<=(t.1.prt.map λp=>p.1.sz).sum:=by
   unfold BZ;split
   ·simp
   ·rw [List.map_map];have:∀ l:List (Ex × List Str),(∀ p∈l,p.1.sz<=n)->(l.map (XO ∘ λp=>(p.1,IL t.2 p.2))).sum<=(l.map λp=>p.1.sz).sum:=by
     intro l
     induction l with
     | nil=>exact λ_=>Nat.le_refl _
     | cons p l ih =>
      intro q;have a:=R7 n (p.1,IL t.2 p.2) (q p (.head _));have b:=ih λr hr=>q r (.tail _ hr);simp only [List.map_cons,List.sum_cons,Function.comp] at a b ⊢;omega
    refine this _ λp hp=>?_;have:p.1.sz<=(t.1.prt.map λp=>p.1.sz).sum:=LS (List.mem_map.mpr ⟨p,hp,rfl⟩);omega
  omega
theorem TX (e:Ex):e.prt.length<=3:=by cases e <;> simp [prt]
theorem XQ (e:Ex):∀ p∈e.prt,p.1.sz+1<=e.sz/\p.2.length<=2:=by cases e <;> simp [prt,sz] <;> omega
theorem uo (t:Ex × Su):(BZ t).length<=9:=by
 unfold BZ;split
 ·simp
 ·rw [List.length_map];cases t.1 <;> simp [prt]
theorem XT {σ:Su}(h:∀ y,σ y=none)(e:Ex):sub σ e=e:=by
 rw [show σ=λ_=>none from funext h,CQ]
open L2
inductive N5:Ex->Ex->Su->Prop
 | fn (x:Str) (b v:Ex):N5 (.cal (.fn x b) v) b (Su.one x v)
 | rc (f x:Str) (b v:Ex):N5 (.cal (.rc f x b) v) b ((Su.one x v).or (Su.one f (.rc f x b)))
 | lt (x:Str) (v b:Ex):N5 (.lt x v b) b (Su.one x v)
 | wt (a b:Ex):N5 (.wh (.tru true) a b) a λ_=>none
 | wf (a b:Ex):N5 (.wh (.tru false) a b) b λ_=>none
 | opn (v w:Ex) (x y:Str) (b:Ex):N5 (.opn (.pr v w) x y b) b ((Su.one y w).or (Su.one x v))
 | emp (a:Ex) (x y:Str) (b:Ex):N5 (.spl .emp a x y b) a λ_=>none
 | lk (v w a:Ex) (x y:Str) (b:Ex):N5 (.spl (.lk v w) a x y b) b ((Su.one y w).or (Su.one x v))
 | op (o:Str) (i j:Int):N5 (.op o (.num i) (.num j)) (Qq o i j) λ_=>none
noncomputable def pU:Ex->Bool
 | .cal _ _=>true
 | _=>false
theorem XU (e:Ex):decide (V.str e.wd=V.str "call")=pU e:=by cases e <;> first | exact decide_eq_true rfl | exact decide_eq_false (λz=>absurd (V.str.inj z) (by simp only [Ex.wd];decide))
theorem N5.red {e b:Ex}{σ:Su}(h:N5 e b σ)(c:e.cl []):KX.red e=some (sub σ b,pU e):=by
 cases h with
 | fn x b v=>rfl
 | rc f x b v=>rw [<- E2 c.2];rfl
 | lt x v b=>rfl
 | wt a b=>rw [CQ];rfl
 | wf a b=>rw [CQ];rfl
 | opn v w x y b=>rw [<- E2 c.1.2];rfl
 | emp a x y b=>rw [CQ];rfl
 | lk v w a x y b=>rw [<- E2 c.1.2];rfl
 | op o i j=>rw [CQ];rfl
noncomputable def BA:Ex->List Ex
 | .cal a b | .pr a b | .lk a b | .op _ a b=>[a,b]
 | .lt _ a _ | .wh a _ _ | .opn a _ _ _ | .spl a _ _ _ _=>[a]
 | _=>[]
theorem CT (e:Ex):Paired (λk a=>e.its[k - 1]?=some (.pt a)/\1<=k) e.pls (BA e):=by
 cases e <;> first | exact .nil | exact .cons ⟨rfl,⟨⟩⟩ .nil | exact .cons ⟨rfl,⟨⟩⟩ (.cons ⟨rfl,⟨⟩⟩ .nil)
noncomputable def O9 (l:List Ex):Nat:=(l.map Ex.sz).sum
theorem Oa (a:Ex)(l:List Ex):O9 (a::l)=a.sz+O9 l:=by simp [O9]
theorem TY (e:Ex):O9 (BA e)+1<=e.sz:=by cases e <;> simp [BA,O9,Ex.sz] <;> omega
theorem U0 (e:Ex):e.pls.length<=2:=by cases e <;> simp [Ex.pls]
noncomputable def rest (e:Ex)(s:Nat):Nat:=1+2 * O9 ((BA e).drop s)
theorem bN (e:Ex):rest e 0+1<=2 * e.sz:=by have:=TY e;simp only [rest,List.drop_zero];omega
theorem U1 {e a:Ex}{s:Nat}(h:(BA e)[s]?=some a):rest e (s+1)+rest a 0 < rest e s:=by
 obtain ⟨h1,h2⟩:=List.getElem?_eq_some_iff.mp h;have:=bN a;have:(BA e).drop s=a::(BA e).drop (s+1):=by rw [List.drop_eq_getElem_cons h1,h2]
 simp only [rest,this,Oa] at *;omega
noncomputable def Bf (e:Ex)(s:Nat):Prop:=∀ j a,j < s->(BA e)[j]?=some a->isV a=true
inductive Jo (r:Ex):List (Ex × Nat)->Ex->Prop
 | nil:Jo r [] r
 | snoc {ws:List (Ex × Nat)} {e a:Ex} {s k:Nat}:Jo r ws e->Bf e s->(BA e)[s]?=some a->e.pls[s]?=some k->Jo r (ws++[(e,s+1)]) a
noncomputable def wz (ws:List (Ex × Nat)):Nat:=(ws.map λp=>rest p.1 p.2).sum
theorem Gv (ws:List (Ex × Nat))(p:Ex × Nat):wz (ws++[p])=wz ws+rest p.1 p.2:=by simp [wz]
noncomputable def Kv (ws:List (Ex × Nat))(z:Ex):Ex:=ws.foldr (λp z=>put p.1 (p.1.pls.getD (p.2 - 1) 0) z) z
theorem Ob (ws:List (Ex × Nat))(p:Ex × Nat)(z:Ex):Kv (ws++[p]) z=Kv ws (put p.1 (p.1.pls.getD (p.2 - 1) 0) z):=by simp [Kv]
theorem Eb {e a:Ex}{s k:Nat}(h:(BA e)[s]?=some a)(hk:e.pls[s]?=some k):e.its[k - 1]?=some (.pt a)/\1<=k:=by
 obtain ⟨k',h1,h2⟩:=Paired.at1 (CT e) hk;rw [h] at h1;cases h1;exact h2
theorem Jo.dep {r e:Ex}{ws:List (Ex × Nat)}(h:Jo r ws e):ws.length+dep dz e<=dep dz r:=by
 induction h with
 | nil=>simp
 | snoc _ _ h1 h2 ih =>
  have:=Bk (List.mem_of_getElem? (Eb h1 h2).1);simp only [List.length_append,List.length_singleton];omega
theorem Vg {e a:Ex}{k:Nat}(h:e.its[k - 1]?=some (.pt a)):Km e k=!isV a:=by simp only [Km,h]
theorem U2 {α:Type}{p:α->Bool}{l:List α}{i:Nat}{a:α}(h:∀ j b,j < i->l[j]?=some b->p b=false)(e:l[i]?=some a)(ha:p a=true):l.find? p=some a:=by
 induction l generalizing i with
 | nil=>simp at e
 | cons b r ih =>
  cases i with
  | zero=>simp at e;subst e;simp [List.find?,ha]
  | succ i =>
   have h0:=h 0 b () rfl;simp only [List.find?,h0];exact ih (i:=i) (λj b hj hb=>h (j+1) b () (by simpa using hb)) (by simpa using e)
theorem XW {e a:Ex}{s k:Nat}(hb:Bf e s)(h:(BA e)[s]?=some a)(hk:e.pls[s]?=some k)(v:isV a=false):e.fst=k:=by
 rw [Jh,U2 (a:=k) (λj k' hj iG=>?_) hk (by rw [Vg (Eb h hk).1,v];rfl)]
 ·rfl
 ·obtain ⟨b,h1,h2⟩:=Paired.at1 (CT e) iG;rw [Vg h2.1,hb j b hj h1];rfl
theorem R8 {e a:Ex}{s k:Nat}(hb:Bf e s)(h:(BA e)[s]?=some a)(hk:e.pls[s]?=some k)(v:isV a=false):stp e=Fy (put e k) (stp a)/\isV e=false:=by
 have hf:=XW hb h hk v;obtain ⟨h1,h2⟩:=Eb h hk;rcases MS e with ⟨z,_⟩ | ⟨a',_,_,h3,_,h4,_⟩
 ·omega
 ·rw [hf,h1] at h3;cases h3;rw [hf] at h4;refine ⟨h4,?_⟩;cases e with
  | pr x y | lk x y =>
   refine Bool.eq_false_iff.mpr λve=>?_;obtain ⟨v1,v2⟩:=Bool.and_eq_true_iff.1 ve;simp only [Ex.fst,v1,v2,if_true] at hf;omega
  | num _ | tru _ | emp | fn _ _ | rc _ _ _=>simp [BA] at h
  | _=>rfl
theorem R9 {C D:Ex->Ex}(o:Option (Ex × Bool)):Fy C (Fy D o)=Fy (λz=>C (D z)) o:=by cases o <;> rfl
theorem Jo.stp {r e:Ex}{ws:List (Ex × Nat)}(h:Jo r ws e):isV e=false->KX.stp r=Fy (Kv ws) (KX.stp e)/\isV r=false:=by
 induction h with
 | nil=>intro v;refine ⟨?_,v⟩;show _=Fy (λz=>z) _;cases KX.stp r <;> rfl
 | @snoc ws e a s k _ hb h1 h2 ih =>
  intro v;obtain ⟨q1,q2⟩:=R8 hb h1 h2 v;obtain ⟨q3,q4⟩:=ih q2;refine ⟨?_,q4⟩;rw [q3,q1,R9]
  congr 1
  funext z
  rw [Ob];have:e.pls.getD (s+1 - 1) 0=k:=by rw [Nat.add_sub_cancel,List.getD_eq_getElem?_getD,h2];rfl
  rw [this]
noncomputable def v7:List V:=[.str "number",.str "truth",.str "empty",.str "fun",.str "rec",.str "pair",.str "link"]
noncomputable def Ek:Ex->Prop
 | .cal _ _ | .lt _ _ _ | .wh _ _ _ | .opn _ _ _ _ | .spl _ _ _ _ _ | .op _ _ _=>True
 | _=>False
theorem Ra {e:Ex}{s:Nat}(hb:Bf e s)(hs:e.pls.length<=s)(hn:∀ x,e≠.nm x):(FR (.str e.wd) v7=true/\isV e=true)\/(FR (.str e.wd) v7=false/\isV e=false/\Ek e/\KX.stp e=red e):=by
 have al:∀ a j,(BA e)[j]?=some a->isV a=true:=λa j h=>hb j a (by
  have:=(List.getElem?_eq_some_iff.mp h).1;have:=Paired.len (CT e);omega) h
 cases e with
 | nm x=>exact absurd rfl (hn x)
 | num _ | tru _ | emp | fn _ _ | rc _ _ _=>exact .inl ⟨by simp only [Ex.wd];decide,rfl⟩
 | pr a b | lk a b=>exact .inl ⟨by simp only [Ex.wd];decide,Bool.and_eq_true_iff.2 ⟨al a 0 rfl,al b 1 rfl⟩⟩
 | cal a b | op o a b =>
  refine .inr ⟨by simp only [Ex.wd];decide,rfl,trivial,?_⟩;simp only [KX.stp];rw [if_pos (al a 0 rfl),if_pos (al b 1 rfl)]
 | lt x a b | wh a b c | opn a x y b | spl a b x y c =>
  refine .inr ⟨by simp only [Ex.wd];decide,rfl,trivial,?_⟩;simp only [KX.stp];rw [if_pos (al a 0 rfl)]
theorem Jo.cl {r e:Ex}{ws:List (Ex × Nat)}(h:Jo r ws e)(c:r.cl []):e.cl []:=by
 induction h with
 | nil=>exact c
 | @snoc ws e a s k _ _ h1 _ ih =>
  have:∀ j,(BA e)[j]?=some a->a.cl []:=λj hj=>by
   have hm:=List.mem_of_getElem? hj;cases e <;> simp only [BA,List.mem_cons,List.not_mem_nil,or_false] at hm <;> first | (rcases hm with rfl | rfl;(exact ih.1);exact ih.2) | (subst hm;exact ih.1) | exact hm.elim
  exact this s h1
theorem Jo.opk {r e:Ex}{ws:List (Ex × Nat)}(h:Jo r ws e)(c:r.opk):e.opk:=by
 induction h with
 | nil=>exact c
 | @snoc ws e a s k _ _ h1 _ ih =>
  have:∀ j,(BA e)[j]?=some a->a.opk:=λj hj=>by
   have hm:=List.mem_of_getElem? hj;cases e with
   | op o x y=>simp only [BA,List.mem_cons,List.not_mem_nil,or_false] at hm;rcases hm with rfl | rfl;(exact ih.2.1);exact ih.2.2
   | _=>simp only [BA,List.mem_cons,List.not_mem_nil,or_false] at hm <;> first | (rcases hm with rfl | rfl;(exact ih.1);exact ih.2) | (subst hm;exact ih.1) | exact hm.elim
  exact this s h1
theorem kh {v:Bool}{A B:Prop}(h:if v=true then A else B)(z:v=false):B:=by subst z;exact h
theorem if1 {v:Bool}{A B:Prop}(h:if v=true then A else B)(z:v=true):A:=by subst z;exact h
theorem Rb.at {s j:Nat}{e a:Ex}(hb:Bf e j)(h:(BA e)[j]?=some a)(v:isV a=false)(R:Rb s e):Rb s a:=by
 have i0:∀ {x:Ex} {l:List Ex},BA e=x::l->0 < j->isV x=true:=λq z=>hb 0 _ z (by rw [q];rfl);have two:∀ {x y:Ex} {A:Prop},BA e=[x,y]->(isV y=false->A->Rb s y)->(if isV x=true then A else Rb s x)->Rb s a:=λ{x y A} q g R=>by
  rw [q] at h;rcases j with _ | _ | j
  ·cases h;exact kh R v
  ·cases h;exact g v (if1 R (i0 q ()))
  ·simp at h
 have one:∀ {x:Ex} {A:Prop},BA e=[x]->(if isV x=true then A else Rb s x)->Rb s a:=λ{x A} q R=>by
  rw [q] at h;rcases j with _ | j
  ·cases h;exact kh R v
  ·simp at h
 cases e with
 | cal x y=>exact two rfl (λz g=>kh g z) R
 | pr x y | lk x y | op o x y=>exact two rfl (λ_ g=>g) R
 | lt _ x _ | wh x _ _ | opn x _ _ _ | spl x _ _ _ _=>exact one rfl R
 | _=>simp [BA] at h
theorem Jo.rb {r e:Ex}{ws:List (Ex × Nat)}{s:Nat}(h:Jo r ws e):isV e=false->Rb s r->Rb s e:=by
 induction h with
 | nil=>exact λ_ R=>R
 | snoc _ hb h1 h2 ih=>exact λv R=>Rb.at hb h1 v (ih (R8 hb h1 h2 v).2 R)
theorem Rb.own {s t:Nat}{e b:Ex}{σ:Su}(hb:Bf e t)(ht:e.pls.length<=t)(h:N5 e b σ)(hs:1<=s)(R:Rb s e):b.sz<=s:=by
 have al:∀ a j,(BA e)[j]?=some a->isV a=true:=λa j h=>hb j a (by
  have:=(List.getElem?_eq_some_iff.mp h).1;have:=Paired.len (CT e);omega) h
 cases h with
 | fn x b v=>have:1+b.sz<=s:=if1 (if1 R rfl) (al _ 1 rfl);omega
 | rc f x b v=>have:1+b.sz<=s:=if1 (if1 R rfl) (al _ 1 rfl);omega
 | lt x v b=>exact if1 R (al _ 0 rfl)
 | wt a b=>exact (if1 R (al _ 0 rfl)).1
 | wf a b=>exact (if1 R (al _ 0 rfl)).2
 | opn v w x y b=>exact if1 R (al _ 0 rfl)
 | emp a x y b=>exact (if1 R (al _ 0 rfl)).1
 | lk v w a x y b=>exact (if1 R (al _ 0 rfl)).2
 | op o i j=>exact Nat.le_trans (by unfold Qq;split;(exact Nat.le_refl 1);split;(exact Nat.le_refl 1);split <;> exact Nat.le_refl 1) hs
inductive fS (r:Ex):List (Ex × Nat)->Prop
 | nil:isV r=true->fS r []
 | snoc {ws:List (Ex × Nat)} {e:Ex} {s:Nat}:Jo r ws e->Bf e s->fS r (ws++[(e,s)])
theorem Bf.succ {e a:Ex}{s:Nat}(h:Bf e s)(ha:(BA e)[s]?=some a)(v:isV a=true):Bf e (s+1):=λj b hj hb=>by
 rcases Nat.lt_or_eq_of_le (Nat.le_of_lt_succ hj) with q | q
 ·exact h j b q hb
 ·subst q;rw [ha] at hb;cases hb;exact v
theorem Jo.up {r a:Ex}{ws:List (Ex × Nat)}(h:Jo r ws a)(v:isV a=true):fS r ws:=by
 cases h with
 | nil=>exact .nil v
 | snoc h1 h2 h3 h4=>exact .snoc h1 (h2.succ h3 v)
end KX
namespace K
open PySem L2 KM KS KX
section
variable {Pr:Program}{w:World}{K:W.Frag}{mg:Str->Option Value}{base:Heap}
noncomputable def N6 (K:W.Frag):Sp:=λvs H Q _=>∃ (p c:Addr) (us:List V) (ns:List Nat) (xs:List Str),vs=[.ref p,.ref c]/\H p=some (.tup us)/\FH K c (ns.map λn:Nat=>V.int n)/\Paired (λn x=>us[n]?=some (V.str x)) ns xs/\ns.length<=10 /\
 ∀ q H',A9 H H'->H' q=some (.tup (xs.map V.str))->Q (.ref q) H'
noncomputable def ki:Expr:=match valueOf (inDef CI 0) with
 | .Call _ [e] _ _=>e
 | _=>.Constant .none 0 ⟨0,0,0,0⟩
theorem bO:Am ["tree","places"] ["tree","places"] (A6 CI):=nofun
theorem XX {f:Addr}{fd:FuncData}(F:C8 K "names_at" "names_at" CI f fd)(AJ:mg "tuple"=none):Av Pr w K mg base Bs 1 f fd ["tree","places"] (N6 K):=by
 refine F.okS bO (λB9 A outer s H vs Q E hr h=>?_)
 ·obtain ⟨p,c,us,ns,xs,rfl,hp,hc,hx,hn,q⟩:=h;have S:AZ (BQ Bs Pr w K mg base ["tree","places"] "names_at" (A6 CI) f B9 A outer s H E).nox (Bv ki) [("tree",s.heap.objs.size+1)] ["place"] ["tree"] [0] :=
   ⟨rfl,by decide +kernel,rfl,by decide +kernel,rfl,rfl,rfl,rfl⟩
  have HU:(["place","tree"]:List Str).Nodup:=by decide +kernel
  refine ⟨_,(Ab (Ag (Bl C7 rfl AJ PyProof.Rows.boot_tuple (A1 (ED (te:=Fj (Bg K) (B2 1) (B2 0)) S rfl (JU (A7 1)) (λC s0 H0 ex=>AV (i:=0) HU rfl (.inl rfl)) (λ_ _ _ _=>Ep) (λC s0 H0 ex=>AH Aw (A7 1) (A7 0) Br)) A2)))),?_⟩;apply ⟨c,rfl,⟨_,hc.sq H⟩,?_⟩;refine Hd (K:=K) (a:=c) (xs:=ns.map λn:Nat=>V.int n) (λi ys H'=>H'=H/\ys=(xs.take i).map V.str) ⟨rfl,rfl⟩ (λi ys H' z=>hc.sq H') (by rw [List.length_map];exact BW ()) (λi ys H' z=>?_) rfl (λi x ys H1 NV z=>?_) (λys H1 z=>?_)
  ·rw [z.2,List.length_map,List.length_take];omega
  ·obtain ⟨rfl,rfl⟩:=z;obtain ⟨n,Yv,rfl⟩:∃ n,ns[i]?=some n/\V.int (n:Nat)=x:=by
    rw [List.getElem?_map] at NV;exact Option.map_eq_some_iff.mp NV
   obtain ⟨x,Z8,uq⟩:=Paired.at1 hx Yv;have hi:=(List.getElem?_eq_some_iff.mp Yv).1;apply C5 ?_;apply A5 hp (Ad uq) ?_;refine Nx.mk (by rw [List.length_map];exact hi) ⟨rfl,?_⟩;rw [List.take_succ,Z8];simp
  ·obtain ⟨rfl,rfl⟩:=z;intros d H2 s2 e2;refine ⟨d,_,rfl,.inl ⟨AI.of e2,λl hl=>?_⟩⟩;have e5:xs.take (ns.map λn:Nat=>V.int n).length=xs:=(by rw [List.length_map,Paired.len hx,List.take_length]);rw [e5];exact q l _ (s2.trans (A9.new hl)) Aa
noncomputable def LU (H:Hp)(r:V)(pt:Ex × List Str):Prop:=∃ p q re,r=.ref p/\H p=some (.tup [re,.ref q])/\An H pt.1 re/\H q=some (.tup (pt.2.map V.str))
theorem LU.mono {H H':Hp}(s:TSub H H'){r:V}{pt:Ex × List Str}(h:LU H r pt):LU H' r pt:=by
 obtain ⟨p,q,re,h1,h2,h3,h4⟩:=h;exact ⟨p,q,re,h1,s _ _ h2,An.mono s h3,s _ _ h4⟩
noncomputable def N7:Sp:=λvs H Q _=>∃ (e:Ex) (re:V),vs=[re]/\An H e re/\∀ l rs H',A9 H H'->H l=none->H' l=some (.lst rs)->Paired (LU H') rs e.prt->Q (.ref l) H'
theorem bQ:Am ["tree"] ["tree"] (A6 B3):=nofun
theorem IP (e:Ex):e.plc.length<=3/\∀ r∈e.plc,r.2.length<=2:=by
 cases e <;> simp [Ex.plc]
theorem XY {f U3:Addr}{fd:FuncData}{rows:List (Str × Value)}(F:C8 K "parts_with_names" "parts_with_names" B3 f fd)(kd:D7 w K U3 rows)(Z9:mg "PLACES"=some (.ref U3))(kp:jO K rows)
  (cN:Cl Pr w K mg base 1 "names_at" ["tree","places"] (N6 K)):Av Pr w K mg base Bs 2 f fd ["tree"] N7:=by
 refine F.okS bQ (λB9 A outer s H vs Q E hr h=>?_)
 ·obtain ⟨e,re,rfl,he,q⟩:=h;have S:AZ (BQ Bs Pr w K mg base ["tree"] "parts_with_names" (A6 B3) f B9 A outer s H E).nox (Bv (valueOf (inDef B3 0))) [("tree",s.heap.objs.size+1)] ["place","names"] ["tree"] [0] :=
   ⟨rfl,by decide +kernel,rfl,by decide +kernel,rfl,rfl,rfl,rfl⟩
  have HU:(["place","names","tree"]:List Str).Nodup:=by decide +kernel
  refine ⟨_,(Ab (Ag (ED (g:=Nh K 2 (El (BP 0) (El (BP 1) Ng))) (te:=Pa (Be (Fj (Bg K) (B2 2) (B2 0)) (Be (CV (N6 K) [] E0 (Be (B2 2) (Be (B2 1) Fq))) Fq))) S rfl (JU (QR kd rfl Z9 (eI 0) Br)) (λC s0 H0 ex=>IA rfl (BB (AV (i:=0) HU rfl (.inl rfl)) (BB (AV (i:=1) HU rfl (.inl rfl)) Fx))) (λ_ _ _ _=>Ep) (λC s0 H0 ex=>Ae (A1 (AH Aw (A7 2) (A7 0) Br) (A1 (As cN hr rfl (A1 (A7 2) (A1 (A7 1) A2))) A2)))))),?_⟩;obtain ⟨p,us,rfl,hp,Vh,_⟩:=he.look;obtain ⟨a,rs,QT,U4,bR⟩:=kp e;obtain ⟨YS,fT⟩:=IP e;have lr:=Paired.len bR;have lp:=Paired.len Vh;apply A5 hp (v:=.str e.wd) (Ad (j:=0) rfl) ?_;refine ⟨e.wd,.ref a,.ref a,rfl,QT,rfl,a,rfl,⟨_,U4.sq H⟩,?_⟩;refine K7 (K:=K) (n:=rs.length) (λi ys H'=>A9 H H'/\Paired (LU H') ys (e.prt.take i)) ⟨A9.refl _,.nil⟩ (by exact BW ()) (λi ys H' z=>?_) rfl rfl (λi ys H' hi z=>⟨rs,rs[i],U4.sq H',by simp [hi]⟩) (λys H' z=>⟨rs,U4.sq H',Nat.le_refl _⟩) (λi ys H1 x xV hi z hy=>?_) (λys H1 z=>?_)
  ·rw [Paired.len z.2,List.length_take];omega
  ·obtain ⟨rfl,hy⟩:=hy;obtain ⟨s1,z⟩:=z;have Z8:=hy rs (U4.sq _);have pV:i < e.plc.length:=(by omega);have Vi:e.plc[i]?=some e.plc[i]:=(by simp [pV]);obtain ⟨x',NV,b,c,rfl,kb,kc⟩:=Paired.at1 bR Vi;rw [NV] at Z8;cases Z8;obtain ⟨pt,ur,⟨pW,Za,ae⟩,RJ⟩:=Paired.at1 Vh Vi;refine ⟨b,_,_,rfl,kb.sq _,?_⟩;apply C5 ?_;apply A5 (s1 _ _ hp) (Ad Za) ?_;apply ⟨p,c,_,_,pt.2,rfl,s1 _ _ hp,kc,RJ,Nat.le_trans (fT _ (List.getElem_mem pV)) ⟨⟩,λq' H2 s2 e2=>?_⟩;left;intros t H3 s3 e3;refine Nx.mk hi ⟨s1.trans (s2.trans s3),?_⟩;rw [List.take_succ,ur];refine Paired.app (Paired.aah z λ_ _ y=>LU.mono (TSub.of_same (s2.trans s3)) y) (.cons ⟨t,q',pW,rfl,e3,An.mono (TSub.of_same (s1.trans (s2.trans s3))) ae,s3 _ _ e2⟩ .nil)
  ·obtain ⟨s1,z⟩:=z;refine CG (Nat.zero_le _) λl H2 hl s2 e2=>?_;rw [show rs.length=e.prt.length by omega,List.take_length] at z;exact q l _ H2 (s1.trans s2) (s1.free hl) e2 (Paired.aah z λ_ _ y=>LU.mono (TSub.of_same s2) y)
end
end K
namespace L2
open PySem PySem.Spec PyProof.Rows KS
open PySem.W (fnMade fnX fnOf envX CodeHd tabObj makeFunction_K makeFunction_hit nestDef_K FnAt callWith_F)
section
variable {X:Cx}{c P:Addr}{name q:Str}{params:Arguments}{body:List Stmt}{scope:Scope}{pos:Pos}{aa3:List (Str × Addr)}{i:Nat}
noncomputable def N8 (i:Nat)(P:Addr)(pos:Pos)(mk:Value->Addr->Value->Obj)(q:Str):TS:=λD σ H =>
 (∃ ps,H P=some (.tbl ps)/\TriplesOk ps.toList/\codeAmong pos ps.toList=none/\∀ f c' oc G7 doc,CY q oc->H f=none->H c'=none->f≠c' ->
   D.nx (σ.set i (some (.ref f))) (upd (upd (upd H P (.tbl (ps++#[rawInt pos.line,rawInt pos.col,.ref c']))) c' (Ce c' oc)) f (Ce f (mk doc c' G7)))) \/
 (∃ ps c',H P=some (.tbl ps)/\TriplesOk ps.toList/\codeAmong pos ps.toList=some (.ref c')/\∀ f G7 doc,H f=none->D.nx (σ.set i (some (.ref f))) (upd H f (Ce f (mk doc c' G7))))
theorem U5 (B:FT X.base X.mg c P)(N9:X.env.code=.ref c)(YD:closureFor scope X.env=pure aa3)(hq:qualnameIn X.env name name=q)(RQ:params.defaults=[])(kj:params.kw_defaults=[])(ha:annTrees params none X.env=[])
  (hN:X.N.Nodup) (hi:X.N[i]?=some name) (hx:Loc X.env.scope name) (hf:X.fn name=true\/X.env.scope.names.lookup name=some .local:=by exfalso) :
  PS X (.FunctionDef name params body [] none [] scope none name pos) (N8 i P pos (λdoc c' G7=>fnMade name q params body scope aa3 doc ((X.mg "__name__").getD .none) c' G7) q):=by
 intro pins s σ H D I h;have hg:s.heap.Ns mainGlobals X.mg:=I.mod.glob.keeps I.bk;have C:CodeHd s.heap c P:=B.hd.keeps I.bk;refine nestDef_K RQ kj ha ?_;rw [hq];have hP:∃ ps,H P=some (.tbl ps):=by
  rcases h with ⟨_,z,_⟩ | ⟨_,_,z,_⟩
  ·exact ⟨_,z⟩
  ·exact ⟨_,z⟩
 have nP:∀ b o,X.base.get? b=some o->b≠P:=λb o z w=>by
  obtain ⟨ps,hP⟩:=hP;have:=(I.bs b o z).2;rw [w,hP] at this;cases this
 have hb:s.heap.BuiltinsAt X.mg P:=by
  obtain ⟨bm,ob,b1,b2,b3,b4,b5,b6⟩:=B.bm;refine ⟨bm,ob,b1,b2,?_,nP _ _ b3,I.bk _ _ b3,b4,b5,b6⟩;intro z;obtain ⟨o,es,ep,e,hd,_⟩:=I.mod.glob;rw [z,e] at b3;cases b3;rw [hd] at b6;cases b6
 have uu:mainGlobals≠P:=by
  obtain ⟨o,es,ep,e,hd,_⟩:=I.mod.glob;exact nP _ _ e
 rcases h with ⟨ps,hP,ht,kr,h⟩ | ⟨ps,c',hP,ht,kr,h⟩
 ·have gP:s.heap.get? P=some (tabObj ps):=I.hok P _ hP;refine makeFunction_K (mg:=X.mg) YD I.ok.glob hg N9 C gP ht kr uu hb λc' G7 doc h' tk NV ky Cv kz pX=>?_;obtain ⟨c2,oc,vs,t,e2,RE,uw,ux⟩:=kz;cases e2;have nf:H h'.objs.size=none:=I.hok.fresh ();have nc:H c'=none:=I.hok.fresh ky;have fc:h'.objs.size≠c':=by omega
  have uy:=Heap.lt_size gP;have oldK:∀ b o,b≠P->s.heap.get? b=some o->(h'.push (fnMade name q params body scope aa3 doc ((X.mg "__name__").getD .none) c' G7)).get? b=some o:=λb o Xe z=>Heap.get?_push_of_some _ (NV b o Xe z);have I1:Inv X pins σ (upd (upd (upd H P (.tbl (ps++#[rawInt pos.line,rawInt pos.col,.ref c']))) c' (Ce c' oc)) h'.objs.size (Ce h'.objs.size (fnMade name q params body scope aa3 doc ((X.mg "__name__").getD .none) c' G7)))
    { s with heap:=h'.push (fnMade name q params body scope aa3 doc ((X.mg "__name__").getD .none) c' G7),toks:=tk }:=by
   have look:∀ b,b≠P->b≠c'->b≠h'.objs.size->∀ o1 o2 o3,(upd (upd (upd H P o1) c' o2) h'.objs.size o3) b=H b:=λb b1 b2 b3 o1 o2 o3=>(by rw [Aj b3,Aj b2,Aj b1]);have Fh:∀ b u,H b=some u->(∀ ps,u≠.tbl ps)->b≠P/\b≠c'/\b≠h'.objs.size:=λb u z hu=>⟨λw=>by rw [w,hP] at z;exact hu _ (Option.some.inj z).symm,Ak z nc,Ak z nf⟩;have Vj:∀ b o,s.heap.get? b=some o->b≠c'/\b≠h'.objs.size:=λb o z=>by
    have:=Heap.lt_size z;exact ⟨Nat.ne_of_lt (Nat.lt_of_lt_of_le this ky),Nat.ne_of_lt (Nat.lt_of_lt_of_le this (Nat.le_trans ky (Nat.le_of_lt Cv)))⟩
   refine I.un ⟨λb o z n _ _=>?_,λb o z n _ _=>?_,λb o z n _=>?_,λb o z _=>?_,λb xs z=>?_,λb o u z=>?_,λb ps z=>?_⟩ (λb u z=>?_)
   ·exact oldK b o (λw=>by rw [w,hP] at n;cases n) z
   ·exact ⟨o.slots,oldK b o (λw=>by rw [w,hP] at n;cases n) z⟩
   ·rw [look b (λw=>by rw [w,hP] at n;cases n) (Vj b o z).1 (Vj b o z).2];exact n
   ·by_cases w:b=P
    ·subst w;exact ⟨_,Heap.get?_push_of_some _ pX⟩
    ·exact ⟨o,oldK b o w z⟩
   ·obtain ⟨n1,n2,n3⟩:=Fh b _ z (λ_ w=>by cases w);rw [look b n1 n2 n3];exact z
   ·obtain ⟨n1,n2,n3⟩:=Fh b _ z (λ_ w=>by cases w);rw [look b n1 n2 n3];exact z
   ·by_cases w:b=P
    ·subst w;rw [hP] at z;cases z;refine ⟨#[rawInt pos.line,rawInt pos.col,.ref c'],?_⟩;rw [Aj (Ne.symm (Ak hP nf).symm),Aj (Ne.symm (Ak hP nc).symm),Aa]
    ·refine ⟨#[],?_⟩;rw [look b w (Ak z nc) (Ak z nf),z];simp
   ·by_cases w3:b=h'.objs.size
    ·subst w3;rw [Aa] at z;cases z;exact Ce.ok (Heap.get?_push_size _ rfl)
    ·rw [Aj w3] at z;by_cases w2:b=c'
     ·subst w2;rw [Aa] at z;cases z;exact Ce.ok (Heap.get?_push_of_some _ RE)
     ·rw [Aj w2] at z;by_cases w1:b=P
      ·subst w1;rw [Aa] at z;cases z;show (h'.push _).get? b=some _;exact Heap.get?_push_of_some _ pX
      ·rw [Aj w1] at z;refine (I.hok b u z).abb (λd v OG y=>oldK d v ?_ y) (λd y=>?_) (λd xs y=>?_)
       ·rcases OG with rfl | OG
        ·exact w1
        ·exact (Fh d _ OG (λ_ w=>by cases w)).1
       ·obtain ⟨n1,n2,n3⟩:=Fh d _ y (λ_ w=>by cases w);rw [look d n1 n2 n3];exact y
       ·obtain ⟨n1,n2,n3⟩:=Fh d _ y (λ_ w=>by cases w);rw [look d n1 n2 n3];exact y
  refine Cu (v:=.ref h'.objs.size) I1 hN hi hx rfl (λs2 I2=>?_) hf;exact ⟨_,_,I2,h h'.objs.size c' oc G7 doc ⟨vs,t,uw,ux⟩ nf nc fc⟩
 ·have gP:s.heap.get? P=some (tabObj ps):=I.hok P _ hP;refine makeFunction_hit (mg:=X.mg) YD I.ok.glob hg N9 C gP ht (cv:=.ref c') kr hb λG7 doc h' tk hk F'=>?_;have nf:H h'.objs.size=none:=I.hok.fresh F';have I1:Inv X pins σ (upd H h'.objs.size (Ce h'.objs.size (fnMade name q params body scope aa3 doc ((X.mg "__name__").getD .none) c' G7)))
    { s with heap:=h'.push (fnMade name q params body scope aa3 doc ((X.mg "__name__").getD .none) c' G7),toks:=tk } :=
   I.laid (λb o z=>Heap.get?_push_of_some _ (hk b o z)) F' (Ce.ok (Heap.get?_push_size _ rfl))
  refine Cu (v:=.ref h'.objs.size) I1 hN hi hx rfl (λs2 I2=>?_) hf;exact ⟨_,_,I2,h h'.objs.size G7 doc nf⟩
end
theorem Rc {X:Cx}{c P:Addr}{name q:Str}{params:Arguments}{body:List Stmt}{scope:Scope}{pos:Pos}{aa3:List (Str × Addr)}{i:Nat}(B:FT X.base X.mg c P)(N9:X.env.code=.ref c)(YD:closureFor scope X.env=pure aa3)(hq:qualnameIn X.env name name=q)(RQ:params.defaults=[])(kj:params.kw_defaults=[])(ha:annTrees params none X.env=[])
  (hN:X.N.Nodup) (hi:X.N[i]?=some name) (hx:Loc X.env.scope name) (hf:X.fn name=true\/X.env.scope.names.lookup name=some .local:=by exfalso) :
  SS X (.FunctionDef name params body [] none [] scope none name pos) (N8 i P pos (λdoc c' G7=>fnMade name q params body scope aa3 doc ((X.mg "__name__").getD .none) c' G7) q):=⟨U5 B N9 YD hq RQ kj ha hN hi hx hf⟩
theorem Rf {P:Program}{w:World}{K:W.Frag}{mg:Str->Option Value}{base:Heap}{k:Nat}{st:Stmt}{f c':Addr}{name qual:Str}{doc pm G7:Value}{oc:Obj}{N ps:List Str}{sp:Sp}(S:Am N ps (A6 st))(RE:CY qual oc)
  (len:∀ vs H Q E,sp vs H Q E->vs.length=ps.length)
  (tr:∀ vs H Q E,sp vs H Q E->H f=some (Ce f (fnMade name qual (Bh st) (AU st) (A6 st) [] doc pm c' G7))/\H c'=some (Ce c' oc))
  (EU:∀ (A:Around) (outer:List Env) (s:Shared) (H:Hp) (vs:List V) (Q:VK) (E:XK),AG k (A.deeper (envOfC qual (A6 st) s.heap.objs.size f (.ref c')))->sp vs H Q E ->
   ∃ t,SB (BQ Bs P w K mg base N qual (A6 st) f (.ref c') A outer s H E).nox (AU st) t/\t { nx:=λ_ H'=>Q .non H',rt:=Q } (start N vs) H) :
  Av P w K mg base Bs (k+1) f (fnX name qual (Bh st) (AU st) (A6 st) [] .none .none doc pm none (.ref c') G7) ps sp:=by
 refine ⟨len,λA outer s H args us vs Q E hr e0 hb r Ou=>?_⟩;have hl:=len _ _ _ _ Ou;obtain ⟨tf,uz⟩:=tr _ _ _ _ Ou;have gf:=Ce.get e0.hok tf;have uA:=Ce.get e0.hok uz;have lim:s.heap.NoLimit:=e0.mod.nolimit.keeps λb o e=>(e0.bs b o e).1;obtain ⟨uB,ot,od,ov⟩:=RE;have Pd:∀ y∈ps.zip us,(A6 st).names.lookup y.1=some .local\/((A6 st).names.lookup y.1=some .cell/\((cellsFrom (s.heap.objs.size+1) (A6 st).names []).lookup y.1).isSome=true):=λ⟨n,v⟩ hy=>by
  rcases S.par n (List.of_mem_zip hy).1 with q | q
  ·exact .inl q
  ·exact .inr ⟨q,W.cellsFrom_some _ _ _ (.inl q)⟩
 refine codeAny_call_function hr.depth gf rfl S.co S.gen rfl ⟨c',oc,uB,ot,rfl,uA,od,ov⟩ (hb _ _ _ _ ?_);refine wpAny_newFunctionEnv_cells S.kind Pd λenv he s1 x=>?_;subst he;refine ⟨lim.keeps x.toInCall.keep,codeAny_func ?_⟩;obtain ⟨t,ht,hq⟩:=EU A outer s H vs Q E (hr.deeper _) Ou;have I:Inv (BQ Bs P w K mg base N qual (A6 st) f (.ref c') A outer s H E) [] (start N vs) H s1:=Ii S hr.hd e0 hl r x;refine wpAny_mono (ht.out.nox [] s1 (start N vs) H _ I hq) (λfl s' hs=>?_) λe s' hs=>hs;have fin:∀ {σ':St} {H':Hp} {v:V} {u:Value},Inv (BQ Bs P w K mg base N qual (A6 st) f (.ref c') A outer s H E) [] σ' H' s'->RelV v u->Q v H'->CE outer P w H s Q u s' :=
  λ{σ' H' v u} J rv q=>⟨v,H',J.os,J.bare,J.base,J.hok,rv,q⟩
 cases fl with
 | ret u =>
  obtain ⟨v,σ',H',J,rv,q⟩:=hs;exact fin J rv q
 | next =>
  obtain ⟨σ',H',J,q⟩:=hs;exact fin (v:=V.non) (u:=Value.none) J rfl q
 | brk =>
  obtain ⟨_,_,_,q⟩:=hs;exact False.elim q
 | cont =>
  obtain ⟨_,_,_,q⟩:=hs;exact False.elim q
noncomputable def Kw (P:Addr)(p1 p2:Pos)(q1 q2:Str)(H:Hp):Prop:=H P=some (.tbl #[])\/∃ a b oa ob,H P=some (.tbl #[rawInt p1.line,rawInt p1.col,.ref a,rawInt p2.line,rawInt p2.col,.ref b])/\H a=some (Ce a oa)/\CY q1 oa/\H b=some (Ce b ob)/\CY q2 ob
theorem Kw.same {P:Addr}{p1 p2:Pos}{q1 q2:Str}{H H':Hp}(s:A9 H H')(h:Kw P p1 p2 q1 q2 H):Kw P p1 p2 q1 q2 H':=by
 rcases h with z | ⟨a,b,oa,ob,z1,z2,z3,z4,z5⟩
 ·exact .inl (s _ _ z)
 ·exact .inr ⟨a,b,oa,ob,s _ _ z1,s _ _ z2,z3,s _ _ z4,z5⟩
theorem Kw.tab {P:Addr}{p1 p2:Pos}{q1 q2:Str}{H:Hp}(h:Kw P p1 p2 q1 q2 H):∃ ps,H P=some (.tbl ps):=by
 rcases h with z | ⟨a,b,oa,ob,z1,_⟩
 ·exact ⟨_,z⟩
 ·exact ⟨_,z1⟩
theorem Rg {P:Addr}{p1 p2:Pos}{q1 q2:Str}{H:Hp}{D:Ends}{σ:St}{i1 i2:Nat}{m1 m2:Value->Addr->Value->Obj}{u:TS}(ne:(p1.line==p2.line && p1.col==p2.col)=false)(T:Kw P p1 p2 q1 q2 H)
  (q:∀ f1 f2 a b oa ob L5 RU d1 d2 H1,Bt P H H1->Kw P p1 p2 q1 q2 H1->H1 a=some (Ce a oa)->CY q1 oa->H1 b=some (Ce b ob)->CY q2 ob->H1 f1=some (Ce f1 (m1 d1 a L5))->H1 f2=some (Ce f2 (m2 d2 b RU))->u D ((σ.set i1 (some (.ref f1))).set i2 (some (.ref f2))) H1) :
  Bp (N8 i1 P p1 m1 q1) (Bp (N8 i2 P p2 m2 q2) u) D σ H:=by
 have ne':¬ (p1.line=p2.line/\p1.col=p2.col):=λz=>by simp [z.1,z.2] at ne
 rcases T with z | ⟨a,b,oa,ob,z1,z2,z3,z4,z5⟩
 ·refine .inl ⟨_,z,trivial,rfl,λf1 a oa L5 d1 h1 h2 h3 h4=>?_⟩;have pY:P≠a:=Ak z h3;have pZ:P≠f1:=Ak z h2;have s1:Bt P H (upd (upd (upd H P (.tbl (#[]++#[rawInt p1.line,rawInt p1.col,.ref a]))) a (Ce a oa)) f1 (Ce f1 (m1 d1 a L5))):=λb o e nb=>by
   rw [Aj (Ak e h2),Aj (Ak e h3),Aj nb];exact e
  have e1:(upd (upd (upd H P (.tbl (#[]++#[rawInt p1.line,rawInt p1.col,.ref a]))) a (Ce a oa)) f1 (Ce f1 (m1 d1 a L5))) P=some (.tbl #[rawInt p1.line,rawInt p1.col,.ref a]):=by
   rw [Aj pZ,Aj pY,Aa];rfl
  have e2:(upd (upd (upd H P (.tbl (#[]++#[rawInt p1.line,rawInt p1.col,.ref a]))) a (Ce a oa)) f1 (Ce f1 (m1 d1 a L5))) a=some (Ce a oa):=by
   rw [Aj (Ne.symm h4),Aa]
  have e3:(upd (upd (upd H P (.tbl (#[]++#[rawInt p1.line,rawInt p1.col,.ref a]))) a (Ce a oa)) f1 (Ce f1 (m1 d1 a L5))) f1=some (Ce f1 (m1 d1 a L5)):=Aa;generalize upd (upd (upd H P (.tbl (#[]++#[rawInt p1.line,rawInt p1.col,.ref a]))) a (Ce a oa)) f1 (Ce f1 (m1 d1 a L5))=H1 at s1 e1 e2 e3 ⊢;refine .inl ⟨_,e1,trivial,?_,λf2 b ob RU d2 k1 k2 k3 k4=>?_⟩
  ·show codeAmong p2 [rawInt p1.line,rawInt p1.col,.ref a]=none;simp only [codeAmong,rawInt];rw [if_neg];intro z;simp only [Bool.and_eq_true,beq_iff_eq] at z;exact ne' ⟨(),()⟩
  have uC:P≠b:=Ak e1 k3;have uD:P≠f2:=Ak e1 k2;have s2:Bt P H1 (upd (upd (upd H1 P (.tbl (#[rawInt p1.line,rawInt p1.col,.ref a]++#[rawInt p2.line,rawInt p2.col,.ref b]))) b (Ce b ob)) f2 (Ce f2 (m2 d2 b RU))):=λb o e nb=>by
   rw [Aj (Ak e k2),Aj (Ak e k3),Aj nb];exact e
  have g1:(upd (upd (upd H1 P (.tbl (#[rawInt p1.line,rawInt p1.col,.ref a]++#[rawInt p2.line,rawInt p2.col,.ref b]))) b (Ce b ob)) f2 (Ce f2 (m2 d2 b RU))) P=some (.tbl #[rawInt p1.line,rawInt p1.col,.ref a,rawInt p2.line,rawInt p2.col,.ref b]):=by
   rw [Aj uD,Aj uC,Aa];rfl
  have g2:(upd (upd (upd H1 P (.tbl (#[rawInt p1.line,rawInt p1.col,.ref a]++#[rawInt p2.line,rawInt p2.col,.ref b]))) b (Ce b ob)) f2 (Ce f2 (m2 d2 b RU))) b=some (Ce b ob):=by
   rw [Aj (Ne.symm k4),Aa]
  have g3:=s2 _ _ e2 (Ne.symm pY);have g4:=s2 _ _ e3 (Ne.symm pZ);exact q f1 f2 a b oa ob L5 RU d1 d2 _ (s1.trans s2) (.inr ⟨a,b,oa,ob,g1,g3,h1,g2,k1⟩) g3 h1 g2 k1 g4 Aa
 ·refine .inr ⟨_,a,z1,trivial,?_,λf1 L5 d1 h1=>?_⟩
  ·show codeAmong p1 [rawInt p1.line,rawInt p1.col,.ref a,rawInt p2.line,rawInt p2.col,.ref b]=some (.ref a);simp [codeAmong,rawInt]
  have s1:A9 H (upd H f1 (Ce f1 (m1 d1 a L5))):=A9.new h1;have e1:(upd H f1 (Ce f1 (m1 d1 a L5))) f1=some (Ce f1 (m1 d1 a L5)):=Aa;generalize upd H f1 (Ce f1 (m1 d1 a L5))=H1 at s1 e1 ⊢;refine .inr ⟨_,b,s1 _ _ z1,trivial,?_,λf2 RU d2 k1=>?_⟩
  ·show codeAmong p2 [rawInt p1.line,rawInt p1.col,.ref a,rawInt p2.line,rawInt p2.col,.ref b]=some (.ref b);simp only [codeAmong,rawInt];rw [if_neg,if_pos (by simp)];intro z;simp only [Bool.and_eq_true,beq_iff_eq] at z;exact ne' ⟨(),()⟩
  have s2:A9 H1 (upd H1 f2 (Ce f2 (m2 d2 b RU))):=A9.new k1;have Ds:=s1.trans s2;exact q f1 f2 a b oa ob L5 RU d1 d2 _ (Bt.of Ds) (.inr ⟨a,b,oa,ob,Ds _ _ z1,Ds _ _ z2,z3,Ds _ _ z4,z5⟩) (Ds _ _ z2) z3 (Ds _ _ z4) z5 (s2 _ _ e1) Aa
end L2
namespace K
open PySem L2 KM KS KX
section
variable {Pr:Program}{w:World}{K:W.Frag}{mg:Str->Option Value}{base:Heap}
noncomputable def NL (H H':Hp):Prop:=∀ b o,H b=some o->(∀ xs,o≠.lst xs)->H' b=some o
theorem NL.of_same {H H':Hp}(s:A9 H H'):NL H H':=λb o e _=>s b o e
theorem NL.trans {H1 H2 H3:Hp}(a:NL H1 H2)(b:NL H2 H3):NL H1 H3:=λc o e n=>b c o (a c o e n) n
theorem NL.put {H:Hp}{a:Addr}{xs ys:List V}(h:H a=some (.lst xs)):NL H (upd H a (.lst ys)):=λb o e n=>by
 rw [Aj]
 ·exact e
 ·intro z;subst z;rw [h] at e;exact n xs (Option.some.inj e).symm
theorem NL.abz {H H':Hp}(s:NL H H'):_root_.KS.TSub H H':=λb xs e=>s b _ e (by intro _ z;cases z)
noncomputable def Gw (ls:List Addr)(H H':Hp):Prop:=∀ b o,H b=some o->b∉ls->H' b=some o
theorem Gw.of_same {ls:List Addr}{H H':Hp}(s:A9 H H'):Gw ls H H':=λb o e _=>s b o e
theorem Gw.trans {ls:List Addr}{H1 H2 H3:Hp}(a:Gw ls H1 H2)(b:Gw ls H2 H3):Gw ls H1 H3:=λc o e n=>b c o (a c o e n) n
theorem Gw.put {ls:List Addr}{H:Hp}{a:Addr}{o:HO}(h:a∈ls):Gw ls H (upd H a o):=λb o e n=>by
 rw [Aj]
 ·exact e
 ·intro z;subst z;exact n h
section
variable {α:Type}{kids:α->List α}{sz:α->Nat}{At:Hp->α->V->Prop}
noncomputable def LV (kids:α->List α)(At:Hp->α->V->Prop)(ls:List Addr)(H0 H:Hp)(s:α)(u:V):Prop:=∃ p q x ws,u=.ref p/\H p=some (.tup [x,.ref q])/\At H s x/\H q=some (.lst ws)/\Paired (At H) (kids s) ws/\q∉ls/\H0 q=none
noncomputable def Vk (At:Hp->α->V->Prop):Prop:=∀ (H H':Hp) (d:α) (x:V),NL H H'->At H d x->At H' d x
theorem Vk.at (mo:Vk At){H H':Hp}{d:α}{x:V}(s:NL H H')(h:At H d x):At H' d x:=mo _ _ _ _ s h
theorem LV.mono (mo:Vk At){ls:List Addr}{H0 H H':Hp}(s:NL H H')(b:Gw ls H H'){sc:α}{u:V}(h:LV kids At ls H0 H sc u):LV kids At ls H0 H' sc u:=by
 obtain ⟨p,q,x,ws,h1,h2,h3,h4,h5,h6,h7⟩:=h;exact ⟨p,q,x,ws,h1,s _ _ h2 (by intro _ z;cases z),mo.at s h3,b _ _ h4 h6,Paired.aah h5 λ_ _ z=>mo.at s z,h6,h7⟩
noncomputable def Rh (Pr:Program)(w:World)(K:W.Frag)(mg:Str->Option Value)(base:Heap)(kids:α->List α)(At:Hp->α->V->Prop)(H:Hp)(f:Addr):Prop:=∃ fd p sp,Av Pr w K mg base Bs 4 f fd [p] sp/\Binds K fd [p] []/\RM K fd f H /\
  ∀ H' d x Q',A9 H H'->At H' d x->(∀ q us RL,A9 H' RL->H' q=none->RL q=some (.lst us)->Paired (At RL) (kids d) us->Q' (.ref q) RL)->sp [x] H' Q' E0
noncomputable def bT (Pr:Program)(w:World)(K:W.Frag)(mg:Str->Option Value)(base:Heap)(kids:α->List α)(At R:Hp->α->V->Prop)(H:Hp)(f:Addr):Prop:=∃ fd p1 p2 sp,Av Pr w K mg base Bs 5 f fd [p1,p2] sp/\Binds K fd [p1,p2] []/\RM K fd f H /\
  ∀ H' d x l ms Q',A9 H H'->At H' d x->H' l=some (.lst ms)->Paired (R H') (kids d) ms->(∀ r RL,A9 H' RL->R RL d r->Q' r RL)->sp [x,.ref l] H' Q' E0
end
noncomputable def LW (Pr:Program)(w:World)(K:W.Frag)(mg:Str->Option Value)(base:Heap):Sp:=λvs H Q _=>∃ (α:Type) (kids:α->List α) (sz:α->Nat) (At:Hp->α->V->Prop) (sc:α) (v:V) (fP:Addr),vs=[v,.ref fP]/\(∀ t,KG.szs sz (kids t)+1=sz t)/\(∀ t,(kids t).length<=9)/\Vk At/\At H sc v/\sz sc<=16000000/\Rh Pr w K mg base kids At H fP/\∀ l us H',A9 H H'->H l=none->H' l=some (.lst us)->Paired (LV kids At [l] H H') (KG.P kids sz [sc]) us->Q (.ref l) H'
theorem Kx:Am ["top","parts_of","found","waiting","one","parts"] ["top","parts_of"] (A6 X3):=nofun
theorem U6 {f:Addr}{fd:FuncData}(F:C8 K "all_within" "all_within" X3 f fd)(BY:mg "list"=none)(CU:mg "reversed"=none):
  Av Pr w K mg base Bs 5 f fd ["top","parts_of"] (LW Pr w K mg base):=by
 refine F.okS Kx (λB9 A outer s H vs Q E hr h=>?_)
 ·obtain ⟨α,kids,sz,At,sc,v,fP,rfl,hs,fU,mo,ht,q9,⟨YR,pP,qb,GP,bP,cP,hP⟩,k⟩:=h;refine ⟨_,(A4 (Ah (i:=2) Kx.nd rfl (.inl rfl) (Az A2))
   (A4 (Ah (i:=3) Kx.nd rfl (.inl rfl) (Az (A1 (A7 0) A2)))
   (A4 (Mz PassesOwn.never (CZ (A7 3)) (A4 (Ah (i:=4) Kx.nd rfl (.inl rfl) (JS PySem.F.plainAttrs_list PySem.F.slot_list_pop PySem.F.type_list_pop GL (A7 3)))
   (A4 (Ah (i:=5) Kx.nd rfl (.inl rfl) (MC GP hr bP (i:=1) rfl (.inl rfl) (A1 (A7 4) A2)))
   (A4 (Dx (JT PySem.F.plainAttrs_list PySem.F.slot_list_append PySem.F.type_list_append C4 (A7 2) (A1 (Ae (A1 (A7 4) (A1 (A7 5) A2))) A2)))
   (Ab (Dx (JT PySem.F.plainAttrs_list PySem.F.slot_list_extend PySem.F.type_list_extend Nu (A7 3) (A1 (LO rfl rfl BY rfl CU (A1 (A7 5) A2)) A2))))))))
   (Ab (Ag (A7 2)))))),?_⟩
  have uE:=KG.P_one hs sc;apply CG (Cf (Nat.le_of_ble_eq_true rfl)) λlf H1 V0 s1 e1=>?_;apply CG (Cf (Nat.le_of_ble_eq_true rfl)) λlw H2 QI s2 e2=>?_;left;have By:=s1.trans s2;have kA:lf≠lw:=Ak e1 QI;have Vm:H lw=none:=s1.free QI;refine ⟨λm σ' H'=>∃ fs ws pt pp ts ds,σ'=[some v,some (.ref fP),some (.ref lf),some (.ref lw),pt,pp]/\m=KG.szs sz ds/\A9 H H'/\H' lf=some (.lst fs)/\H' lw=some (.lst ws)/\Paired (LV kids At [lf,lw] H H') ts fs/\Paired (At H') ds ws.reverse/\ts++KG.P kids sz ds=KG.P kids sz [sc],
   ⟨KG.szs sz [sc],[],[v],none,none,[],[sc],rfl,rfl,By,s2 _ _ e1,e2,.nil,.cons (mo.at (NL.of_same By) ht) .nil,rfl⟩,?_⟩
  rintro m σ' H' ⟨fs,ws,pt,pp,ts,ds,rfl,rfl,sm,hf,hw,kf,kw,e⟩;apply ⟨!ws.isEmpty,.inl ⟨ws,AI.of hw,rfl⟩,?_⟩;cases ds with
  | nil =>
   have bU:ws=[]:=by
    have:=Paired.length kw;simpa using this.symm
   subst bU;refine BG ?_;left;rw [KG.P_nil,List.append_nil] at e;rw [e] at kf;exact k lf fs H' sm V0 hf (Paired.aah kf λ_ _ z=>by
    obtain ⟨p,q,x,ws,z1,z2,z3,z4,z5,z6,z7⟩:=z;exact ⟨p,q,x,ws,z1,z2,z3,z4,z5,λy=>z6 (by rw [List.mem_singleton.mp y];exact .head _),z7⟩)
  | cons d ds =>
   have hlen:fs.length=ts.length:=(Paired.length kf).symm;have uF:ts.length+KG.szs sz (d::ds)=sz sc:=by
    have h1:=congrArg List.length e;rw [List.length_append,uE,KG.P_len hs _ (d::ds) rfl] at h1;exact h1
   obtain ⟨x,xs,hx,kx,uG⟩:∃ x xs,ws.reverse=x::xs/\At H' d x/\Paired (At H') ds xs:=by
    generalize ws.reverse=rs at kw;cases kw with
    | cons k1 k2=>exact ⟨_,_,rfl,k1,k2⟩
   have bU:ws=xs.reverse++[x]:=by
    have:=congrArg List.reverse hx;simpa using this
   have dW:ws.length<=KG.szs sz ds+1:=by
    have h1:=KG.aa4 hs ds;have h2:ws.length=(d::ds).length:=by
     have:=Paired.length kw;simpa using this.symm
    simp only [List.length_cons] at h2;omega
   have pT:KG.szs sz (d::ds)=sz d+KG.szs sz ds:=(by simp only [KG.szs]);have ne:(!ws.isEmpty)=true:=(by rw [bU];simp);rw [ne];refine C5 ⟨fun σ' H'=>∃ m',m' < KG.szs sz (d::ds)/\∃ fs ws pt pp ts ds,σ'=[some v,some (.ref fP),some (.ref lf),some (.ref lw),pt,pp]/\m'=KG.szs sz ds/\A9 H H'/\H' lf=some (.lst fs)/\H' lw=some (.lst ws)/\Paired (LV kids At [lf,lw] H H') ts fs/\Paired (At H') ds ws.reverse/\ts++KG.P kids sz ds=KG.P kids sz [sc],fun σ' H' q=>q,?_⟩;apply ⟨.inl ⟨rfl,_,AI.of hw⟩,lw,ws,x,rfl,rfl,hw,by rw [bU];simp,?_⟩;have qc:NL H' (upd H' lw (.lst ws.dropLast)):=NL.put hw;have uH:Gw [lf,lw] H' (upd H' lw (.lst ws.dropLast)):=Gw.put (by simp);have O1:A9 H (upd H' lw (.lst ws.dropLast)):=A9.put sm Vm;have qd:(upd H' lw (.lst ws.dropLast)) lf=some (.lst fs):=(by rw [Aj kA];exact hf);have aY:(upd H' lw (.lst ws.dropLast)) lw=some (.lst ws.dropLast):=Aa;generalize upd H' lw (.lst ws.dropLast)=H3 at *;left;have qe:RM K YR fP H3:=cP.mono λb φ z=>O1 b _ z;refine ⟨rfl,qe,_,rfl,qe,hP H3 d x _ O1 (mo.at qc kx) λq us H4 s4 bV hq kq=>?_⟩;have qf:=s4 _ _ qd;have uI:=s4 _ _ aY;have U7:A9 H H4:=O1.trans s4;have aF:us.length=(kids d).length:=(Paired.length kq).symm;have xW:=KG.aa9 hs d;have fU:=fU d;have Wu:sz d<=KG.szs sz (d::ds):=(by simp only [KG.szs];omega);apply ⟨.inl ⟨rfl,_,AI.of qf⟩,?_⟩;apply CG (Cf (Nat.le_of_ble_eq_true rfl)) λp H5 L4 s5 e5=>?_;have qg:=s5 _ _ qf;have uJ:=s5 _ _ uI;have uK:=U7.trans s5;refine ⟨lf,fs,.ref p,rfl,rfl,qg,BW (),?_⟩;have qh:NL H5 (upd H5 lf (.lst (fs++[.ref p]))):=NL.put qg;have qi:Gw [lf,lw] H5 (upd H5 lf (.lst (fs++[.ref p]))):=Gw.put (by simp);have XZ:A9 H (upd H5 lf (.lst (fs++[.ref p]))):=A9.put uK V0;have qj:(upd H5 lf (.lst (fs++[.ref p]))) lw=some (.lst ws.dropLast):=(by rw [Aj (Ne.symm kA)];exact uJ);have uL:(upd H5 lf (.lst (fs++[.ref p]))) lf=some (.lst (fs++[.ref p])):=Aa;generalize upd H5 lf (.lst (fs++[.ref p]))=H6 at *;have kB:q∉[lf,lw]:=λz=>by
    simp only [List.mem_cons,List.not_mem_nil,or_false] at z;rcases z with z | z
    ·rw [z,qd] at bV;cases bV
    ·rw [z,aY] at bV;cases bV
   have uM:H6 q=some (.lst us):=qi _ _ (s5 _ _ hq) kB;apply ⟨.inl ⟨rfl,_,AI.of qj⟩,?_⟩;apply ⟨q,us,rfl,AI.of uM,(),λl hl=>?_⟩;have s7:A9 H6 (upd H6 l (.lst us.reverse)):=A9.new hl;have e7:(upd H6 l (.lst us.reverse)) l=some (.lst us.reverse):=Aa;have uN:=XZ.trans s7;generalize upd H6 l (.lst us.reverse)=H7 at *;have qk:=s7 _ _ qj;have uO:=s7 _ _ uL;refine ⟨lw,l,ws.dropLast,us.reverse,rfl,rfl,qk,e7,by rw [List.length_dropLast,List.length_reverse];exact Cf (),?_⟩;have ql:NL H7 (upd H7 lw (.lst (ws.dropLast++us.reverse))):=NL.put qk;have uP:Gw [lf,lw] H7 (upd H7 lw (.lst (ws.dropLast++us.reverse))):=Gw.put (by simp);have X':NL H4 (upd H7 lw (.lst (ws.dropLast++us.reverse))):=(NL.of_same s5).trans (qh.trans ((NL.of_same s7).trans ql));have bW:Gw [lf,lw] H4 (upd H7 lw (.lst (ws.dropLast++us.reverse))):=(Gw.of_same s5).trans (qi.trans ((Gw.of_same s7).trans uP));have kD:NL H' (upd H7 lw (.lst (ws.dropLast++us.reverse))):=qc.trans ((NL.of_same s4).trans X');have uQ:Gw [lf,lw] H' (upd H7 lw (.lst (ws.dropLast++us.reverse))):=uH.trans ((Gw.of_same s4).trans bW);refine ⟨KG.szs sz (kids d++ds),?_,fs++[.ref p],ws.dropLast++us.reverse,_,_,ts++[d],kids d++ds,rfl,rfl,A9.put uN Vm,?_,Aa,?_,?_,?_⟩
   ·have:=KG.aaq hs d ds;show KG.szs sz (KG.nxt kids (d::ds)) < _;omega
   ·rw [Aj kA];exact uO
   ·refine Paired.app (Paired.aah kf λ_ _ z=>z.mono mo kD uQ) (.cons ⟨p,q,x,us,rfl,ql _ _ (s7 _ _ (qh _ _ e5 (by intro _ z;cases z))) (by intro _ z;cases z),mo.at kD kx,bW _ _ hq kB,Paired.aah kq λ_ _ z=>mo.at X' z,kB,O1.free bV⟩ .nil)
   ·have e1:(ws.dropLast++us.reverse).reverse=us++xs:=(by rw [bU];simp);rw [e1];exact Paired.app (Paired.aah kq λ_ _ z=>mo.at X' z) (Paired.aah uG λ_ _ z=>mo.at kD z)
   ·rw [<- e,KG.P_cons hs];simp
noncomputable def Hy (Pr:Program)(w:World)(K:W.Frag)(mg:Str->Option Value)(base:Heap):Sp:=λvs H Q _=>∃ (α:Type) (kids:α->List α) (sz:α->Nat) (At R:Hp->α->V->Prop) (sc:α) (v:V) (fP fm:Addr),vs=[v,.ref fP,.ref fm]/\(∀ t,KG.szs sz (kids t)+1=sz t)/\(∀ t,(kids t).length<=9)/\Vk At/\Vk R/\At H sc v/\sz sc<=16000000/\Rh Pr w K mg base kids At H fP/\bT Pr w K mg base kids At R H fm/\∀ r H',A9 H H'->R H' sc r->Q r H'
theorem Ri:Am ["top","parts_of","make","pile","one","parts","made"] ["top","parts_of","make"] (A6 Hi):=nofun
theorem Y0 {f:Addr}{fd:FuncData}(F:C8 K "built" "built" Hi f fd)(CU:mg "reversed"=none)(cA:Cl Pr w K mg base 5 "all_within" ["top","parts_of"] (LW Pr w K mg base)):
  Av Pr w K mg base Bs 6 f fd ["top","parts_of","make"] (Hy Pr w K mg base):=by
 refine F.okS Ri (λB9 A outer s H vs Q E hr h=>?_)
 ·obtain ⟨α,kids,sz,At,R,sc,v,fP,fm,rfl,hs,fU,mo,Zb,ht,q9,PO,⟨uR,p1,p2,xX,GM,bM,cM,hM⟩,k⟩:=h;have HS:AG 5 _:=hr;have uS:AZ (BQ Bs Pr w K mg base ["top","parts_of","make","pile","one","parts","made"] "built" (A6 Hi) f B9 A outer s H E).nox (Bv (valueOf (af (inDef Hi 1) 0))) [("pile",s.heap.objs.size+1)] ["part"] ["pile"] [3] :=
   ⟨rfl,by decide +kernel,rfl,by decide +kernel,rfl,rfl,rfl,rfl⟩
  have HU:(["part","pile"]:List Str).Nodup:=by decide +kernel
  refine ⟨_,(A4 (Ah (i:=3) Ri.nd rfl (.inr rfl) (Az A2))
   (A4 (FV PassesOwn.never rfl (UM rfl CU (A1 (As cA hr rfl (A1 (A7 0) (A1 (A7 1) A2))) A2)) (IA rfl (BB (AV (i:=4) Ri.nd rfl (.inl rfl)) (BB (AV (i:=5) Ri.nd rfl (.inl rfl)) Fx))) (A4 (Hc (i:=6) Ri.nd rfl (.inl rfl) (tt:=GU) (te:=So K "list" ZC (B2 1)) uS rfl (EC (A7 5)) (λC s0 H0 ex=>AV (i:=0) HU rfl (.inl rfl)) (λ_ _ _ _=>Ep) (λC s0 H0 ex=>JS PySem.F.plainAttrs_list PySem.F.slot_list_pop PySem.F.type_list_pop GL (A7 1))) (Ab (Dx (JT PySem.F.plainAttrs_list PySem.F.slot_list_append PySem.F.type_list_append C4 (A7 3) (A1 (MC GM HS bM (i:=2) rfl (.inl rfl) (A1 (A7 4) (A1 (A7 6) A2))) A2))))))
   (Ab (Ag (JS PySem.F.plainAttrs_list PySem.F.slot_list_pop PySem.F.type_list_pop GL (A7 3)))))),?_⟩
  apply CG (Cf ⟨⟩) λpl H1 Ci s1 e1=>?_;apply ⟨α,kids,sz,At,sc,v,fP,rfl,hs,fU,mo,mo.at (NL.of_same s1) ht,q9,?_,λla us H2 s2 bX qm qo=>?_⟩
  ·obtain ⟨YR,pP,qb,GP,bP,cP,hP⟩:=PO;exact ⟨YR,pP,qb,GP,bP,cP.mono λb φ z=>s1 b _ z,λH' d x Q' z=>hP H' d x Q' (s1.trans z)⟩
  refine ⟨la,us,rfl,AI.of qm,?_⟩;have hP:=KG.P_one hs sc;have hn:us.length=sz sc:=by rw [<- hP];exact (Paired.length qo).symm
  have Fw:=KG.aay hs sc;have eY:la≠pl:=λz=>by rw [z,e1] at bX;cases bX
  have By:=s1.trans s2;have uT:KG.Fo kids [sc] us.length=[]:=by
   have:=KG.Fo_end hs [sc];rw [show KG.szs sz [sc]=us.length by rw [hn];simp [KG.szs]] at this;exact this
  refine Mv (K:=K) (a:=la) (xs:=us) (λi σ H2=>∃ ps pt pp md,σ=[some v,some (.ref fP),some (.ref fm),some (.ref pl),pt,pp,md]/\A9 H H2/\H2 la=some (.lst us)/\Paired (LV kids At [pl] H1 H2) (KG.P kids sz [sc]) us/\H2 pl=some (.lst ps)/\Paired (R H2) (KG.Fo kids [sc] (us.length - i)) ps.reverse)
   ⟨[],none,none,none,rfl,By,qm,Paired.aah qo (λ_ _ z=>by
    obtain ⟨p,q,x,ws,z1,z2,z3,z4,z5,z6,z7⟩:=z;exact ⟨p,q,x,ws,z1,z2,z3,z4,z5,(λy=>by rw [List.mem_singleton.mp y,e1] at z7;cases z7),z7⟩),s2 _ _ e1,by rw [Nat.sub_zero,uT];exact .nil⟩ (λi σ H2 _ q=>?_) (λi x σ H2 hx q=>?_) (fun σ H2 q=>?_)
  ·obtain ⟨ps,pt,pp,md,rfl,_,U8,_⟩:=q;exact AI.of U8
  ·obtain ⟨ps,pt,pp,md,rfl,sm,U8,Y1,hp,pr⟩:=q;have hi:i < us.length:=by
    have:=(List.getElem?_eq_some_iff.mp hx).1;simpa using this
   rw [List.getElem?_reverse hi] at hx;obtain ⟨d,hd,kx⟩:=Paired.at Y1 hx;obtain ⟨r,f1,f2⟩:=KG.Fo_step hs hd;have ej:us.length - 1 - i+1=us.length - i:=(by omega);rw [ej] at f2;rw [f2] at pr;obtain ⟨ms,rest,UQ,pm,Vn⟩:=Paired.split pr;have aL:ms.length=(kids d).length:=(Paired.length pm).symm;have Wu:(kids d).length < sz sc:=by
    have h1:=KG.aa9 hs d;have h2:=KG.P_mem_sz hs _ [sc] d rfl (List.mem_of_getElem? hd);simp [KG.szs] at h2;omega
   obtain ⟨p,q,x,YO,rfl,Oc,kx,hq,kq,kE,_⟩:=kx;have kE:q≠pl:=(by simpa using kE);have aF:YO.length=ms.length:=(by rw [aL];exact (Paired.length kq).symm);refine ⟨p,_,rfl,B0.of Oc,rfl,_,_,rfl,_,_,rfl,rfl,?_⟩;apply ⟨q,rfl,⟨_,AI.of hq⟩,?_⟩;refine Gn (K:=K) (a:=q) (xs:=YO) (λj ys H3=>ys=ms.take j/\H3 pl=some (.lst ((ms.drop j++rest).reverse))/\∀ b,b≠pl->H3 b=H2 b) ⟨rfl,?_,λ_ _=>rfl⟩ (λj ys H3 z=>?_) (by exact BW ()) (λj ys H3 z=>?_) rfl (λj x' ys H3 NV z=>?_) (λys H3 z=>?_)
   ·rw [hp,List.drop_zero,<- UQ,List.reverse_reverse]
   ·refine AI.of ?_;rw [z.2.2 _ kE];exact hq
   ·rw [z.1];exact List.length_take_le _ _
   ·obtain ⟨bY,Zc,Z6⟩:=z;have UR:j < ms.length:=by
     have:=(List.getElem?_eq_some_iff.mp NV).1;omega
    have Vo:ms.drop j++rest=ms[j]::(ms.drop (j+1)++rest):=(by rw [List.drop_eq_getElem_cons UR];rfl);apply C5 ?_;apply ⟨.inl ⟨rfl,_,AI.of Zc⟩,pl,_,ms[j],rfl,rfl,Zc,by rw [Vo];exact rev_last _ _,?_⟩;refine Nx.mk () ⟨?_,?_,λb hb=>?_⟩
    ·rw [bY,List.take_succ,List.getElem?_eq_getElem UR];rfl
    ·rw [Aa,Vo];simp
    ·rw [Aj hb];exact Z6 b hb
   ·obtain ⟨bY,Zc,Z6⟩:=z;have uU:ys=ms:=(by rw [bY,aF,List.take_length]);have ed:ms.drop YO.length=[]:=(by rw [aF,List.drop_length]);rw [ed,List.nil_append] at Zc;refine CG (Nat.zero_le _) λa H4 ha s4 e4=>?_;have bZ:Gw [pl] H2 H4:=λb o e n=>s4 _ _ (by rw [Z6 b (by simpa using n)];exact e);have Y2:NL H2 H4:=λb o e n=>by
     by_cases hb:b=pl
     ·subst hb;rw [hp] at e;exact absurd (Option.some.inj e).symm (n _)
     ·exact s4 _ _ (by rw [Z6 b hb];exact e)
    have U7:A9 H H4:=λb o e=>bZ b o (sm b o e) (by simp;exact Ak e Ci);have c3:=s4 _ _ Zc;have xY:pl≠a:=Ak Zc ha;apply ⟨.inl ⟨rfl,_,AI.of c3⟩,?_⟩;left;subst uU;have qp:RM K uR fm H4:=cM.mono λb φ z=>U7 b _ z;refine ⟨rfl,qp,_,rfl,_,rfl,qp,hM H4 d x a _ _ U7 (mo.at Y2 kx) e4 (Paired.aah pm λ_ _ z=>Zb.at Y2 z) λlr H5 s5 uV=>?_⟩;have xZ:rest.length<=sz sc:=by
     have h1:=KG.Fo_size hs (us.length - 1 - i) [sc];have h2:=KG.aa4 hs (KG.Fo kids [sc] (us.length - 1 - i));rw [f1] at h1 h2;have h3:rest.length=r.length:=(Paired.length Vn).symm;simp [KG.szs] at h1 h2;omega
    have L4:H5 pl=some (.lst rest.reverse):=s5 _ _ c3;refine ⟨pl,rest.reverse,lr,rfl,rfl,L4,by rw [List.length_reverse];exact BW (),?_⟩;have c4:NL H5 (upd H5 pl (.lst (rest.reverse++[lr]))):=NL.put L4;have kF:Gw [pl] H5 (upd H5 pl (.lst (rest.reverse++[lr]))):=Gw.put (by simp);have c5:=Y2.trans ((NL.of_same s5).trans c4);have c6:=bZ.trans ((Gw.of_same s5).trans kF);refine ⟨rest.reverse++[lr],_,_,_,rfl,A9.put (U7.trans s5) Ci,?_,Paired.aah Y1 λ_ _ z=>z.mono mo c5 c6,Aa,?_⟩
    ·exact c6 _ _ U8 (by simpa using eY)
    ·have e5:us.length - (i+1)=us.length - 1 - i:=(by omega);rw [e5,f1];have e6:(rest.reverse++[lr]).reverse=lr::rest:=(by simp);rw [e6];exact .cons (Zb.at c4 uV) (Paired.aah Vn λ_ _ z=>Zb.at c5 z)
  ·obtain ⟨ps,pt,pp,md,rfl,sm,U8,Y1,hp,pr⟩:=q;rw [Nat.sub_self] at pr;have pr:Paired (R H2) [sc] ps.reverse:=pr;obtain ⟨r,UQ,FZ⟩:=Gu pr;have UQ:ps=[r]:=by
    have:=congrArg List.reverse UQ;simpa using this
   subst UQ;apply ⟨.inl ⟨rfl,_,AI.of hp⟩,pl,_,r,rfl,rfl,hp,rfl,?_⟩;exact k r _ (A9.put sm Ci) (Zb.at (NL.put hp) FZ)
end
end K
namespace PySem
section
variable {prog:Program}{w:World}{A:Around}{E:Value->Shared->Prop}{s:Shared}
theorem U9 {t1 t2:Bool}{z TI TO i1 i2 l1 l2:Addr}{k1 k2:Nat}{xs ys:Array Value}{x y a b:Value}{Q:Value->Shared->Prop}(D:ZipApart z TI TO i1 i2 l1 l2)
  (hz:IsZip s.heap z TI TO .none) (WL:IsPair s.heap TI (.ref i1) (.ref i2)) (YF:IsPair s.heap TO a b)
  (h1:F4 t1 s.heap i1 l1 k1) (h2:F4 t2 s.heap i2 l2 k2) (Er:F5 t1 s.heap l1 xs) (DT:F5 t2 s.heap l2 ys) (hx:xs[k1]?=some x) (hy:ys[k2]?=some y)
  (hQ:∀ h',IsZip h' z TI TO (rawInt s.heap.objs.size)->IsPair h' TO x y->F4 t1 h' i1 l1 (k1+1)->F4 t2 h' i2 l2 (k2+1)->IsPair h' s.heap.objs.size x y->h'.objs.size=s.heap.objs.size+1 ->
   (∀ c o,c≠z->c≠TO->c≠i1->c≠i2->s.heap.get? c=some o->h'.get? c=some o)->Q (.ref s.heap.objs.size) { s with heap:=h' }) :
  wpAny (model prog w) A (Builtin.«zip.__next__» ⟨[.ref z],[]⟩) (λfin s'=>∃ v,fin=.done (.ret v)/\Q v s') E s:=by
 show wpAny (model prog w) _ (field (Value.ref z) 2 >>= _) _ _ _;refine wpAny_bind (wpAny_field hz rfl (x:=.bool false) rfl ?_);show wpAny (model prog w) _ (field (Value.ref z) 3 >>= _) _ _ _;refine wpAny_bind (wpAny_field hz rfl (x:=.ref TI) rfl ?_);refine wpAny_bind (wpAny_seqItems WL rfl ?_);show wpAny (model prog w) _ (Builtin.SmallTypes.ownedTupleIsFree (Value.ref z) >>= _) _ _ _;refine wpAny_bind ?_;unfold Builtin.SmallTypes.ownedTupleIsFree;refine wpAny_bind (wpAny_field hz rfl (x:=.none) rfl (wpAny_pure ?_));simp only [if_true];refine wpAny_bind (wpAny_rule ?_);refine wpAny_bind (wpAny_field hz rfl (x:=.ref TO) rfl ?_);refine wpAny_bind (wpAny_setField_rec hz (by simp) λha (ZU:IsZip ha z TI TO .ellipsis) sa=>?_);refine wpAny_bind ?_;simp only [List.zipIdx_cons,List.zipIdx_nil,List.forIn_cons,List.forIn_nil];refine wpAny_bind (wpAny_bind (wpAny_onRaise ?_));show wpAny _ _ (Builtin.SmallTypes.nextOf (.ref i1) >>= _) _ _ _;refine wpAny_bind (MA (h1.extBut sa.extBut D.i1z) (Er.extBut sa.extBut D.l1z) hx λhb uW sb=>wpAny_pure ?_);have qr:IsPair hb TO a b:=sb.extBut _ _ D.TOi1 (sa.extBut _ _ D.TOz YF);refine wpAny_bind (wpAny_seqItems qr rfl ?_);refine wpAny_bind (wpAny_updateSeq_pair qr λhc (uX:IsPair hc TO x b) sc=>?_);refine wpAny_bind (wpAny_letGo (wpAny_pure ?_));refine wpAny_bind (wpAny_bind (wpAny_onRaise ?_));show wpAny _ _ (Builtin.SmallTypes.nextOf (.ref i2) >>= _) _ _ _;refine wpAny_bind (MA (((h2.extBut sa.extBut D.i2z).extBut sb.extBut D.i12.symm).extBut sc.extBut D.TOi2.symm) (((DT.extBut sa.extBut D.l2z).extBut sb.extBut D.l2i1).extBut sc.extBut D.l2TO) hy λhd uY sd=>wpAny_pure ?_);have qt:IsPair hd TO x b:=sd.extBut _ _ D.TOi2 uX;refine wpAny_bind (wpAny_seqItems qt rfl ?_);refine wpAny_bind (wpAny_updateSeq_pair qt λhe (qu:IsPair he TO x y) se=>?_);refine wpAny_bind (wpAny_letGo (wpAny_pure (wpAny_pure ?_)));refine wpAny_bind (wpAny_seqItems qu rfl ?_);refine wpAny_bind (wpAny_newTuple ?_);have F':he.objs.size=s.heap.objs.size:=by rw [se.1,sd.1,sc.1,sb.1,sa.1]
 have qv:IsZip he z TI TO .ellipsis:=se.extBut _ _ D.TOz.symm (sd.extBut _ _ D.i2z.symm (sc.extBut _ _ D.TOz.symm (sb.extBut _ _ D.i1z.symm ZU)));have ke:∀ c o,c≠z->c≠TO->c≠i1->c≠i2->s.heap.get? c=some o->he.get? c=some o:=λc o n1 n2 n3 n4 e=>se.extBut _ _ n2 (sd.extBut _ _ n4 (sc.extBut _ _ n2 (sb.extBut _ _ n3 (sa.extBut _ _ n1 e))));have uZ:F4 t1 he i1 l1 (k1+1):=((uW.extBut sc.extBut D.TOi1.symm).extBut sd.extBut D.i12).extBut se.extBut D.TOi1.symm;have v5:F4 t2 he i2 l2 (k2+1):=uY.extBut se.extBut D.TOi2.symm;have qw:z < he.objs.size:=Heap.lt_size qv;show wpAny (model prog w) _ (Builtin.SmallTypes.ownedTupleHandOut (Value.ref z) (Value.ref he.objs.size) >>= _) _ _ _;refine wpAny_bind ?_;unfold Builtin.SmallTypes.ownedTupleHandOut;have v8:IsZip (he.push { cls:=.type "tuple",data:=.seq #[x,y] }) z TI TO .ellipsis:=Heap.get?_push_of_some _ qv;refine wpAny_bind (wpAny_setField_rec v8 (by simp) λhg (v9:IsZip hg z TI TO (rawInt he.objs.size)) sg=>?_);refine wpAny_setField_rec v9 (by simp) λhk (qx:IsZip hk z TI TO (rawInt he.objs.size)) sk=>?_;have up:∀ c o,c≠z->he.get? c=some o->hk.get? c=some o:=λc o n e=>sk.extBut _ _ n (sg.extBut _ _ n (Heap.get?_push_of_some _ e));have Tk:IsPair hk he.objs.size x y:=sk.extBut _ _ (Nat.ne_of_gt qw) (sg.extBut _ _ (Nat.ne_of_gt qw) (Heap.get?_push_size _ rfl));have zk:hk.objs.size=he.objs.size+1:=by rw [sk.1,sg.1,Heap.size_push]
 rw [F'] at qx Tk zk;refine wpAny_pure ⟨_,rfl,?_⟩;show Q (.ref he.objs.size) _;rw [F'];exact hQ hk qx (up _ _ D.TOz qu) (uZ.at λo e=>up _ o D.i1z e) (v5.at λo e=>up _ o D.i2z e) Tk zk λc o n1 n2 n3 n4 e=>up c o n1 (ke c o n1 n2 n3 n4 e)
theorem Jp {t1 t2:Bool}{z TI TO i1 i2 l1 l2:Addr}{k1 k2:Nat}{xs ys:Array Value}{x y a b:Value}{Q:Option Value->Shared->Prop}(D:ZipApart z TI TO i1 i2 l1 l2)
  (hz:IsZip s.heap z TI TO .none) (WL:IsPair s.heap TI (.ref i1) (.ref i2)) (YF:IsPair s.heap TO a b)
  (h1:F4 t1 s.heap i1 l1 k1) (h2:F4 t2 s.heap i2 l2 k2) (Er:F5 t1 s.heap l1 xs) (DT:F5 t2 s.heap l2 ys) (hx:xs[k1]?=some x) (hy:ys[k2]?=some y)
  (hQ:∀ h',IsZip h' z TI TO (rawInt s.heap.objs.size)->IsPair h' TO x y->F4 t1 h' i1 l1 (k1+1)->F4 t2 h' i2 l2 (k2+1)->IsPair h' s.heap.objs.size x y->h'.objs.size=s.heap.objs.size+1 ->
   (∀ c o,c≠z->c≠TO->c≠i1->c≠i2->s.heap.get? c=some o->h'.get? c=some o)->Q (some (.ref s.heap.objs.size)) { s with heap:=h' }):wpAny (model prog w) A (pyNext (.ref z)) Q E s:=by
 have ty:s.TypeIs (.ref z) "zip":=⟨_,hz,rfl⟩;unfold pyNext;exact wpAny_bind (wpAny_attempt (wpAny_callSpecial?_slot (name:=Str.ofString "__next__") ty F.slot_zip_next (wpAny_call_entry F.slot_zip_next ty F.entry_zip_next (U9 D hz WL YF h1 h2 Er DT hx hy λh' a1 a2 a3 a4 a5 a6 a7=>wpAny_pure (hQ h' a1 a2 a3 a4 a5 a6 a7)) (F.args_zip_next_1 _))))
abbrev fV (t1 t2:Bool)(h:Heap)(l1:Addr):Heap:=h.push (WM t1 l1)
abbrev fW (t1 t2:Bool)(h:Heap)(l1 l2:Addr):Heap:=(fV t1 t2 h l1).push (WM t2 l2)
abbrev fX (t1 t2:Bool)(h:Heap)(l1 l2:Addr):Heap:=(fW t1 t2 h l1 l2).push { cls:=.type "tuple",data:=.seq #[.ref h.objs.size,.ref (fV t1 t2 h l1).objs.size] }
abbrev fY (t1 t2:Bool)(h:Heap)(l1 l2:Addr):Heap:=(fX t1 t2 h l1 l2).push { cls:=.type "tuple",data:=.seq #[.none,.none] }
abbrev Y3 (t1 t2:Bool)(h:Heap)(l1 l2:Addr):Heap:=(fY t1 t2 h l1 l2).push { cls:=.type "zip",data:=.fields #[.none,.bool false,.bool false,.ref (fW t1 t2 h l1 l2).objs.size,.ref (fX t1 t2 h l1 l2).objs.size] }
theorem Rj (t1 t2:Bool)(l1 l2:Addr)(xs ys:Array Value):Meets (Builtin.«zip.__new__» ⟨[.type "zip",.ref l1,.ref l2],[]⟩) (λ_ R s=>F5 t1 s.heap l1 xs/\F5 t2 s.heap l2 ys/\R (.ok (.ret (.ref (fY t1 t2 s.heap l1 l2).objs.size))) { s with heap:=Y3 t1 t2 s.heap l1 l2 }) :=
 .of_wp λprog w A R s h=>by
  obtain ⟨hp,g,d,tk,os⟩:=s;obtain ⟨Er,DT,h⟩:=h;have WG:=sub_zip;have L1:F5 t1 (Shared.heap ⟨hp,g,d,tk,os⟩) l1 xs:=Er;have L2:F5 t2 (Shared.heap ⟨hp.push (WM t1 l1),g,d,tk,os⟩) l2 ys:=F5.at DT λo e=>Heap.get?_push_of_some _ e
  wp_walk using Qg L1,Qg L2
  exact ⟨_,rfl,h⟩
theorem Ua {t1 t2:Bool}{l1 l2:Addr}{xs ys:Array Value}{Q:Value->Shared->Prop}(Er:F5 t1 s.heap l1 xs)(DT:F5 t2 s.heap l2 ys)
  (h:∀ h',IsZip h' (s.heap.objs.size+4) (s.heap.objs.size+2) (s.heap.objs.size+3) .none->IsPair h' (s.heap.objs.size+2) (.ref s.heap.objs.size) (.ref (s.heap.objs.size+1)) ->
   IsPair h' (s.heap.objs.size+3) .none .none->F4 t1 h' s.heap.objs.size l1 0->F4 t2 h' (s.heap.objs.size+1) l2 0->h'.objs.size=s.heap.objs.size+5 ->
   (∀ c o,s.heap.get? c=some o->h'.get? c=some o)->Q (.ref (s.heap.objs.size+4)) { s with heap:=h' }):wpAny (model prog w) A (call (.type "zip") [.ref l1,.ref l2]) Q E s:=by
 refine callType_new F.called_zip ⟨⟩ (F.typeCall_zip_2 _ _) (F.newCall_zip_2 _ _) (λobj=>F.args_object_init_3 obj _ _) F.entry_zip_new (Rj t1 t2 l1 l2 xs ys) ⟨Er,DT,?_⟩;have z1:(fV t1 t2 s.heap l1).objs.size=s.heap.objs.size+1:=Heap.size_push ..;have z2:(fW t1 t2 s.heap l1 l2).objs.size=s.heap.objs.size+2:=by rw [Heap.size_push,z1]
 have z3:(fX t1 t2 s.heap l1 l2).objs.size=s.heap.objs.size+3:=by rw [Heap.size_push,z2]
 have z4:(fY t1 t2 s.heap l1 l2).objs.size=s.heap.objs.size+4:=by rw [Heap.size_push,z3]
 have z5:(Y3 t1 t2 s.heap l1 l2).objs.size=s.heap.objs.size+5:=by rw [Heap.size_push,z4]
 have g5:(Y3 t1 t2 s.heap l1 l2).get? (fY t1 t2 s.heap l1 l2).objs.size=some _:=Heap.get?_push_size _ rfl;have g4:(Y3 t1 t2 s.heap l1 l2).get? (fX t1 t2 s.heap l1 l2).objs.size=some _:=Heap.get?_push_of_some _ (Heap.get?_push_size _ rfl);have g3:(Y3 t1 t2 s.heap l1 l2).get? (fW t1 t2 s.heap l1 l2).objs.size=some _:=Heap.get?_push_of_some _ (Heap.get?_push_of_some _ (Heap.get?_push_size _ rfl));have g2:(Y3 t1 t2 s.heap l1 l2).get? (fV t1 t2 s.heap l1).objs.size=some (WM t2 l2):=Heap.get?_push_of_some _ (Heap.get?_push_of_some _ (Heap.get?_push_of_some _ (Heap.get?_push_size _ rfl)));have g1:(Y3 t1 t2 s.heap l1 l2).get? s.heap.objs.size=some (WM t1 l1):=Heap.get?_push_of_some _ (Heap.get?_push_of_some _ (Heap.get?_push_of_some _ (Heap.get?_push_of_some _ (Heap.get?_push_size _ rfl))));show _/\_;rw [z2,z3,z4] at g5;rw [z1,z2] at g3;rw [z3] at g4;rw [z1] at g2;rw [z4];exact ⟨⟨_,g5,rfl⟩,h _ g5 g3 g4 (Qf g1) (Qf g2) z5 λc o x=>Heap.get?_push_of_some _ (Heap.get?_push_of_some _ (Heap.get?_push_of_some _ (Heap.get?_push_of_some _ (Heap.get?_push_of_some _ x))))⟩
end
end PySem
namespace L2
open PySem PySem.Spec PyProof.Rows
theorem Inv.abg {X:Cx}{pins:List (Addr × Obj)}{σ:St}{H:Hp}{s:Shared}{h':Heap}{t':Nat}{fp:List Addr}(I:Inv X pins σ H s)(hf:∀ b∈fp,GA X pins H b)(k:∀ b o,b∉fp->s.heap.get? b=some o->h'.get? b=some o):Inv X pins σ H { s with heap:=h',toks:=t' }:=by
 have nb:∀ b u,H b=some u->b∉fp:=λb u e z=>by rw [(hf b z).1] at e;cases e
 refine I.abm (s':={ s with heap:=h',toks:=t' }) (ch:=fp) rfl ⟨λb o e _ _ hb=>k b o hb e,λb o e _ _ hb=>⟨o.slots,k b o hb e⟩,λb o e n _=>n,λb o e hb=>⟨o,k b o hb e⟩,λ_ _ z=>z,λ_ _ _ z=>z,λb ps z=>⟨#[],by rw [z];simp⟩⟩ ?_ I.bare ?_
 ·intro b u e;exact (I.hok b u e).abb (λc v dH q=>k c v (by
    rcases dH with rfl | z
    ·exact nb _ _ e
    ·exact nb _ _ z) q) (λ_ q=>q) λ_ _ q=>q
 ·intro b hb;obtain ⟨_,f1,_,f3,f4,f5⟩:=hf b hb;exact ⟨f3,f1,f4,f5⟩
noncomputable def kG (K:W.Frag)(l1 l2:Addr):It :=
 ⟨λi H=>∃ xs ys,B0 K H l1 xs/\H l2=some (.lst ys)/\i < xs.length/\i < ys.length,λi H v H'=>∃ T x y,H T=none/\v=.ref T/\H'=upd H T (.tup [x,y])/\(∀ xs,B0 K H l1 xs->xs[i]?=some x)/\∀ ys,H l2=some (.lst ys)->ys[i]?=some y,λi H=>∃ xs,B0 K H l1 xs/\xs.length<=i⟩
structure kH (h:Heap)(z TI TO i1 i2 l1 l2:Addr)(i:Nat):Prop where
 hz:IsZip h z TI TO .none
 hI:IsPair h TI (.ref i1) (.ref i2)
 hO:∃ a b,IsPair h TO a b
 h1:F4 true h i1 l1 i
 h2:F4 false h i2 l2 i
theorem Na {tu:Bool}{h:Heap}{i l:Addr}{k:Nat}(x:F4 tu h i l k):∃ o,h.get? i=some o/\∀ v,o.data≠.cell v:=by
 cases tu with
 | false =>
  have x:h.IsListIter i l k:=x;obtain ⟨o,e,c,d⟩:=x;exact ⟨o,e,λv z=>by rw [d] at z;cases z⟩
 | true =>
  have x:h.IsTupleIter i l k:=x;obtain ⟨o,e,c,d⟩:=x;exact ⟨o,e,λv z=>by rw [d] at z;cases z⟩
theorem Ub {P:Program}{w:World}{K:W.Frag}{elts:List Expr}{x1}{pos:Pos}{z TI TO i1 i2 l1 l2:Addr}(D:ZipApart z TI TO i1 i2 l1 l2):Turn P w K (.Tuple elts x1 pos) (kG K l1 l2) [z,TI,TO,i1,i2] z (λi h=>kH h z TI TO i1 i2 l1 l2 i) where
 mem:=by simp
 obj:=λi h st b hb=>by
  obtain ⟨hz,hI,⟨a,c,hO⟩,h1,h2⟩:=st;simp only [List.mem_cons,List.not_mem_nil,or_false] at hb;rcases hb with rfl | rfl | rfl | rfl | rfl
  ·exact ⟨_,hz,λv z=>by have z':Data.fields _=Data.cell v:=z;cases z'⟩
  ·exact ⟨_,hI,λv z=>by have z':Data.seq _ _=Data.cell v:=z;cases z'⟩
  ·exact ⟨_,hO,λv z=>by have z':Data.seq _ _=Data.cell v:=z;cases z'⟩
  ·exact Na h1
  ·exact Na h2
 keep:=λi h h' ⟨hz,hI,⟨a,c,hO⟩,h1,h2⟩ k=>⟨k z (by simp) _ hz,k TI (by simp) _ hI,⟨a,c,k TO (by simp) _ hO⟩,h1.at λo e=>k i1 (by simp) o e,h2.at λo e=>k i2 (by simp) o e⟩
 item:=by
  intro X hP hw hK hc i pins s σ H E I hf st hg;subst hP hw hK;obtain ⟨hz,hI,⟨a,c,hO⟩,h1,h2⟩:=st;obtain ⟨xs,ys,Zd,fZ,qy,vd⟩:=hg;obtain ⟨its,rv,p1,_⟩:=I.tuple Zd;obtain ⟨its',n2,qz,UD,_⟩:=I.lst fZ;have p2:s.heap.IsList l2 its'.toArray:=⟨_,UD,rfl,n2,rfl⟩;have hx:xs[i]?=some xs[i]:=List.getElem?_eq_getElem qy;have hy:ys[i]?=some ys[i]:=List.getElem?_eq_getElem vd;obtain ⟨u,hu,ru⟩:=rv.get hx;obtain ⟨u',jW,T1⟩:=qz.get hy;refine Jp (t1:=true) (t2:=false) (x:=u) (y:=u') D hz hI hO h1 h2 (show F5 true s.heap l1 its.toArray from p1) (show F5 false s.heap l2 its'.toArray from p2) (by simpa using hu) (by simpa using jW) λh' a1 a2 a3 a4 a5 a6 a7=>⟨_,rfl,?_⟩;refine wpAny_letOwnedTupleGo_zip (s:={ s with heap:=h' }) a1 λYN RG sb=>?_;have k2:∀ b o,b∉[z,TI,TO,i1,i2]->s.heap.get? b=some o->YN.get? b=some o:=λb o hb e=>by
   simp only [List.mem_cons,List.not_mem_nil,or_false,not_or] at hb;exact (sb.2 b hb.1).trans (a7 b o hb.1 hb.2.2.1 hb.2.2.2.1 hb.2.2.2.2 e)
  have I2:Inv X pins σ H { s with heap:=YN,toks:=s.toks }:=Inv.abg I hf k2;have lt:∀ b∈[z,TI,TO,i1,i2],b≠s.heap.objs.size:=λb hb z=>by
   obtain ⟨o1,e1,_⟩:∃ o,s.heap.get? b=some o/\True:=by
    simp only [List.mem_cons,List.not_mem_nil,or_false] at hb;rcases hb with rfl | rfl | rfl | rfl | rfl
    ·exact ⟨_,hz,trivial⟩
    ·exact ⟨_,hI,trivial⟩
    ·exact ⟨_,hO,trivial⟩
    ·obtain ⟨o,e⟩:=h1.ex;exact ⟨o,e,trivial⟩
    ·obtain ⟨o,e⟩:=h2.ex;exact ⟨o,e,trivial⟩
   have:=Heap.lt_size e1;rw [z] at this;exact Nat.lt_irrefl _ this
  have hn:H s.heap.objs.size=none:=I.hok.fresh (Nat.le_refl _);obtain ⟨_,g1,_,_,g4,g5⟩:=I.abh (H':=H) (Nat.le_refl _) hn;have vf:YN.get? s.heap.objs.size=some { cls:=.type "tuple",data:=.seq #[u,u'] }:=(sb.2 _ (Ne.symm (lt z (by simp)))).trans a5;have I3:Inv X pins σ (upd H s.heap.objs.size (.tup [xs[i],ys[i]])) { s with heap:=YN,toks:=s.toks } :=
   I2.aau hn (Heap.get?_none_of_le I.sz) g1 g4 g5 ⟨by show 2<=sizeLine;rw [sizeLine_eq];decide,[u,u'],.cons ru (.cons T1 .nil),⟨_,vf,rfl,_,rfl⟩⟩
  refine ⟨.ref s.heap.objs.size,_,I3,rfl,⟨_,_,_,hn,rfl,rfl,λzs Y'=>by rw [I.aav Y' Zd];exact hx,λzs Y'=>by rw [fZ] at Y';cases Y';exact hy⟩,⟨RG,?_,⟨u,u',?_⟩,?_,?_⟩,λb hb=>?_⟩
  ·exact (sb.2 _ D.TIz).trans (a7 _ _ D.TIz D.TITO D.TIi1 D.TIi2 hI)
  ·exact (sb.2 _ D.TOz).trans a2
  ·exact a3.at λo e=>(sb.2 _ D.i1z).trans e
  ·exact a4.at λo e=>(sb.2 _ D.i2z).trans e
  ·rw [Aj (lt b hb)];exact (hf b hb).1
 done:=by
  intro X hP hw hK hc i pins s σ H E I hf st hg;subst hP hw hK;obtain ⟨hz,hI,⟨a,c,hO⟩,h1,h2⟩:=st;obtain ⟨xs,Zd,qy⟩:=hg;obtain ⟨its,rv,p1,_⟩:=I.tuple Zd;have hl:=rv.length;refine K5 (tu:=true) (I.ok.hd hc) D hz hI hO h1 (show F5 true s.heap l1 its.toArray from p1) (by rw [Array.getElem?_eq_none_iff,List.size_toArray];omega) λh' k=>⟨rfl,Inv.abg (t':=s.toks) I hf λb o hb e=>?_⟩;simp only [List.mem_cons,List.not_mem_nil,or_false,not_or] at hb;exact k b o hb.1 hb.2.2.1 hb.2.2.2.1 hb.2.2.2.2 e
 self:=λ_ _ _ _ _ st h=>wpAny_pyIter_zip st.hz h
section
variable {X:Cx}{elts:List Expr}{x1}{ZF:Pos}
noncomputable def c7 (K:W.Frag)(ta:TA):TI:=fun σ H R=>ta σ H λvs H1=>∃ l1 l2 xs ys,vs=[.ref l1,.ref l2]/\B0 K H1 l1 xs/\H1 l2=some (.lst ys)/\R (kG K l1 l2) H1
theorem c8 {a b:Expr}{ta:TA}{p pos:Pos}(hg:Gl X "zip")(hm:X.mg "zip"=none)(ha:SA X [a,b] ta)(hs:starEach [a,b] X.env=(false,eval a X.env)::starEach [b] X.env:=by rfl)(Ci:(backTo pos (starEach [b] X.env)).any (·.1)=false:=by rfl):SI X (.Tuple elts x1 ZF) (.Call (.Name "zip" p) [a,b] [] pos) (c7 X.K ta):=⟨by
 intro pins s σ H R I h;refine Call_ (Dt I hg hm boot_zip (PyProof.Rows.callWith_type1 (AX (ha.out pos pins s σ H _ I h) λus s1 q1=>?_) hs Ci));obtain ⟨vs,H1,I1,r1,l1,l2,xs,ys,rfl,Zd,fZ,q⟩:=q1;obtain ⟨u,u',rfl,ru,T1⟩:=vals2 r1;obtain rfl:u=Value.ref l1:=ru;obtain rfl:u'=Value.ref l2:=T1;obtain ⟨its,rv,p1,_⟩:=I1.tuple Zd;obtain ⟨its',n2,qz,UD,_⟩:=I1.lst fZ;have p2:s1.heap.IsList l2 its'.toArray:=⟨_,UD,rfl,n2,rfl⟩;have P1:F5 true s1.heap l1 its.toArray:=p1;have P2:F5 false s1.heap l2 its'.toArray:=p2;obtain ⟨o1,ho⟩:=P1.ex;obtain ⟨o2,RX⟩:=P2.ex;refine Ua P1 P2 λh1 a1 a2 a3 a4 a5 a6 a7=>?_;refine wpAny_pyIter_zip a1 ?_;refine ⟨s1.heap.objs.size+4,[s1.heap.objs.size+4,s1.heap.objs.size+2,s1.heap.objs.size+3,s1.heap.objs.size,s1.heap.objs.size+1],_,_,H1,rfl,I1.kept (t':=s1.toks) a7,Ub (WN _ _ _ (Heap.lt_size ho) (Heap.lt_size RX)),⟨a1,a2,⟨_,_,a3⟩,a4,a5⟩,λb hb=>?_,q⟩;have Xe:s1.heap.objs.size<=b:=by
  simp only [List.mem_cons,List.not_mem_nil,or_false] at hb;rcases hb with rfl | rfl | rfl | rfl | rfl
  ·exact Nat.le_add_right _ _
  ·exact Nat.le_add_right _ _
  ·exact Nat.le_add_right _ _
  ·exact Nat.le_refl _
  ·exact Nat.le_add_right _ _
 exact I1.abh Xe (I1.hok.fresh Xe)⟩
end
section
variable {K:W.Frag}{σ:St}{H:Hp}
theorem Uc {t:TA}{R:It->Hp->Prop}(q:t σ H λvs H1=>∃ l1 l2 xs ys,vs=[.ref l1,.ref l2]/\B0 K H1 l1 xs/\H1 l2=some (.lst ys)/\R (kG K l1 l2) H1):c7 K t σ H R:=q
end
open KS
open KX
section
variable {X:Cx}{o e f:Expr}{td ty tx:TE}{apos B6:Pos}
theorem Ud (ho:SE X o td)(he:SE X e ty)(hf:SE X f tx)(m:M2 X o "pop" apos e f B6):SE X (.Call (.Attribute o "pop" apos) [e,f] [] B6) (Lq td ty tx):=⟨PH ho.out he.out hf.out m⟩
theorem Rk {σ:St}{H:Hp}{Q:VK}(q:td σ H λx H1=>∃ a,x=.ref a/\ZH H1 a/\ty σ H1 λy H2=>tx σ H2 λz H3=>∃ Ai k,H3 a=some (.dK Ai)/\y=kV k/\(∀ v,AW Ai k=some v->Q v (upd H3 a (.dK (C0 Ai k))))/\(AW Ai k=none->Q z H3)):Lq td ty tx σ H Q:=q
theorem Ue {to ti:TE}{t:OQ}{v:V}{σ:St}{H:Hp}{Q:St->Hp->Prop}(q:to σ H λo H1=>ti σ H1 λi H2=>t o i v H2 λH3=>Q σ H3):VR to ti t v σ H Q:=q
theorem Ug {te:TE}{g:TG}{D:Ends}{σ:St}{H:Hp}(q:te σ H λx H1=>g x σ H1 D.nx):L9 te g D σ H:=q
end
theorem FK (k j:Key):∀ Ai:List (Key × V),AW (C0 Ai k) j=if j=k then none else AW Ai j
 | []=>by simp [C0,AW]
 | p::r=>by
  by_cases e:p.1=k
  ·rw [NA e,FK k j r];by_cases ej:j=k
   ·simp [ej]
   ·rw [if_neg ej,if_neg ej,Bc];exact λz=>ej (z.symm.trans e)
  ·rw [NB e];by_cases ep:p.1=j
   ·rw [Ba ep,Ba ep,if_neg λz=>e (ep.trans z)]
   ·rw [Bc ep,Bc ep,FK k j r]
noncomputable def DN (H:Hp)(d:Addr)(σ:Su):Prop:=∃ Ai:List (Key × V),H d=some (.dK Ai)/\Ai.length<=900000/\(∀ p∈Ai,∃ y:Str,p.1=.inr y)/\∀ y,(σ y=none/\AW Ai (.inr y:Key)=none)\/∃ v r,σ y=some v/\AW Ai (.inr y:Key)=some r/\An H v r
theorem DN.mono {H H':Hp}(t:TSub H H')(k:∀ b kv,H b=some (.dK kv)->H' b=some (.dK kv)){d:Addr}{σ:Su}(h:DN H d σ):DN H' d σ:=by
 obtain ⟨Ai,h1,h2,h3,h4⟩:=h;exact ⟨Ai,k _ _ h1,h2,h3,λy=>(h4 y).imp id λ⟨v,r,a,b,c⟩=>⟨v,r,a,b,An.mono t c⟩⟩
theorem DN.same {H H':Hp}(s:A9 H H'){d:Addr}{σ:Su}(h:DN H d σ):DN H' d σ:=h.mono (TSub.of_same s) λb kv e=>s _ _ e
end L2
namespace KX
open PySem Ex
theorem Rl (y:Str):∀ (ns:List Str) (σ:Su),IL σ ns y=if y∈ns then none else σ y
 | [],σ=>by simp [IL]
 | n::ns,σ=>by
  show IL (σ.rm n) ns y=_;rw [Rl y ns];by_cases h:y∈ns
  ·simp [h]
  ·by_cases e:y=n
   ·simp [h,e,Su.rm]
   ·simp [h,e,Su.rm]
theorem Rm (σ:Su)(ns:List Str)(n:Str):IL σ (ns++[n])=(IL σ ns).rm n:=by simp [IL,List.foldl_append]
noncomputable def aam:List (Nat × List Nat)->List V->List V->List V
 | (k,_)::ps,m::ms,ws=>aam ps ms (ws.set k m)
 | _,_,ws=>ws
theorem Hz:∀ {ps:List (Nat × List Nat)} {ms ws:List V} {p:Nat × List Nat} {m:V},ps.length=ms.length->aam (ps++[p]) (ms++[m]) ws=(aam ps ms ws).set p.1 m
 | [],[],ws,p,m,_=>rfl
 | a::ps,b::ms,ws,p,m,h=>by
  show aam (ps++[p]) (ms++[m]) (ws.set a.1 b)=_;rw [Hz (by simpa using h)];rfl
 | [],_::_,_,_,_,h=>by simp at h
 | _::_,[],_,_,_,h=>by simp at h
theorem IQ:∀ (ps:List (Nat × List Nat)) (ms ws:List V),(aam ps ms ws).length=ws.length
 | [],ms,ws=>by cases ms <;> rfl
 | a::ps,[],ws=>rfl
 | a::ps,b::ms,ws=>by
  show (aam ps ms (ws.set a.1 b)).length=_;rw [IQ,List.length_set]
end KX
namespace L2
open PySem PySem.Spec PyProof.Rows KS KX
theorem An.aam {H H':Hp}{e:Ex}{p p':Addr}{us ms:List V}{σ:Su}(ne:∀ x,e≠.nm x)(hp:H p=some (.tup (.str e.wd::us)))(he:An H e (.ref p))(t:TSub H H')(hm:Paired (λ(q:Ex × List Str) m=>An H' (Ex.sub (IL σ q.2) q.1) m) e.prt ms)(Oc:H' p'=some (.tup (KX.aam e.plc ms (.str e.wd::us)))):An H' (Ex.sub σ e) (.ref p'):=by
 cases e with
 | nm x=>exact absurd rfl (ne x)
 | num i=>obtain ⟨q,h1,h2⟩:=he;cases h1;rw [hp] at h2;cases h2;exact ⟨p',rfl,Oc⟩
 | tru i=>obtain ⟨q,h1,h2⟩:=he;cases h1;rw [hp] at h2;cases h2;exact ⟨p',rfl,Oc⟩
 | emp=>obtain ⟨q,h1,h2⟩:=he;cases h1;rw [hp] at h2;cases h2;exact ⟨p',rfl,Oc⟩
 | fn x b =>
  obtain ⟨q,rb,h1,h2,h3⟩:=he;cases h1;rw [hp] at h2;cases h2;obtain ⟨a,rfl,ha⟩:=Gu hm;exact ⟨p',a,rfl,Oc,ha⟩
 | rc f x b =>
  obtain ⟨q,rb,h1,h2,h3⟩:=he;cases h1;rw [hp] at h2;cases h2;obtain ⟨a,rfl,ha⟩:=Gu hm;exact ⟨p',a,rfl,Oc,ha⟩
 | cal a b | pr a b | lk a b =>
  obtain ⟨q,ra,rb,h1,h2,h3,h4⟩:=he;cases h1;rw [hp] at h2;cases h2;obtain ⟨c,d,rfl,hc,hd⟩:=Ff hm;exact ⟨p',c,d,rfl,Oc,hc,hd⟩
 | lt x a b =>
  obtain ⟨q,ra,rb,h1,h2,h3,h4⟩:=he;cases h1;rw [hp] at h2;cases h2;obtain ⟨c,d,rfl,hc,hd⟩:=Ff hm;exact ⟨p',c,d,rfl,Oc,hc,hd⟩
 | opn a x y b =>
  obtain ⟨q,ra,rb,h1,h2,h3,h4⟩:=he;cases h1;rw [hp] at h2;cases h2;obtain ⟨c,d,rfl,hc,hd⟩:=Ff hm;exact ⟨p',c,d,rfl,Oc,hc,hd⟩
 | op o a b =>
  obtain ⟨q,ra,rb,h1,h2,h3,h4⟩:=he;cases h1;rw [hp] at h2;cases h2;obtain ⟨c,d,rfl,hc,hd⟩:=Ff hm;exact ⟨p',c,d,rfl,Oc,hc,hd⟩
 | wh a b c =>
  obtain ⟨q,ra,rb,rc,h1,h2,h3,h4,h5⟩:=he;cases h1;rw [hp] at h2;cases h2;obtain ⟨c,d,f,rfl,hc,hd,hf⟩:=MU hm;exact ⟨p',c,d,f,rfl,Oc,hc,hd,hf⟩
 | spl a b x y c =>
  obtain ⟨q,ra,rb,rc,h1,h2,h3,h4,h5⟩:=he;cases h1;rw [hp] at h2;cases h2;obtain ⟨c,d,f,rfl,hc,hd,hf⟩:=MU hm;exact ⟨p',c,d,f,rfl,Oc,hc,hd,hf⟩
end L2
namespace K
open PySem L2 KM KS KX
section
variable {Pr:Program}{w:World}{K:W.Frag}{mg:Str->Option Value}{base:Heap}
noncomputable def Rn:Sp:=λvs H Q _=>∃ (d q:Addr) (σ:Su) (ns:List Str),vs=[.ref d,.ref q]/\DN H d σ/\H q=some (.tup (ns.map V.str))/\ns.length<=2/\∀ d' H',A9 H H'->DN H' d' (IL σ ns)->Q (.ref d') H'
theorem Y4:Am ["told","names","fewer","name"] ["told","names"] (A6 Bm):=nofun
theorem c9 {f:Addr}{fd:FuncData}(F:C8 K "without_names" "without_names" Bm f fd)(Y5:mg "dict"=none)(cb:mg "any"=none):Av Pr w K mg base Bs 1 f fd ["told","names"] Rn:=by
 refine F.okS Y4 (λB9 A outer s H vs Q E hr h=>?_)
 ·obtain ⟨d,q,σ,ns,rfl,hs,hq,hn,k⟩:=h;have hu:=JO hr;have vg:=hs;obtain ⟨Ai,hd,hl,hk,hv⟩:=hs;have S:AZ (BQ Bs Pr w K mg base ["told","names","fewer","name"] "without_names" (A6 Bm) f B9 A outer s H E).nox (Bv (MJ (jh (Xc (inDef Bm 0))))) [("told",s.heap.objs.size+1)] ["name"] ["told"] [0] :=
   ⟨rfl,by decide +kernel,rfl,by decide +kernel,rfl,rfl,rfl,rfl⟩
  have HU:(["name","told"]:List Str).Nodup:=by decide +kernel
  refine ⟨_,(A4 (AB (EY (Dp (AF (NT rfl) (by rfl) cb PyProof.Rows.boot_any (A1 (ED (tt:=GU) (te:=Pq (B2 0) (B2 1)) S rfl (JU (A7 1)) (λC s0 H0 ex=>AV (i:=0) HU rfl (.inl rfl)) (λ_ _ _ _=>Ep) (λC s0 H0 ex=>ai hu (A7 0) (A7 1))) A2)))) (Ab (Ag (A7 0))) Ap)
   (A4 (Ah (i:=2) Y4.nd rfl (.inl rfl) (Bl J1 (by rfl) Y5 PyProof.Rows.boot_dict (A1 (A7 0) A2)))
   (A4 (FV PassesOwn.never rfl (JU (A7 1)) (AV (i:=3) Y4.nd rfl (.inl rfl)) (Ab (Dx (Ud (A7 2) (A7 3) Eo ⟨rfl,rfl,rfl,rfl⟩))))
   (Ab (Ag (A7 2)))))),?_⟩
  apply ⟨q,rfl,⟨_,B0.of hq⟩,?_⟩;have lm:(ns.map V.str).length=ns.length:=List.length_map ..;refine Hd (K:=K) (a:=q) (xs:=ns.map V.str) (λi ys H'=>H=H'/\ys=((ns.take i).map λn=>(σ n).isSome).map V.bl) ⟨rfl,rfl⟩ (λi ys H' z=>by rw [<- z.1];exact B0.of hq) (by rw [lm];exact BW ()) (λi ys H' z=>by rw [z.2,List.length_map,List.length_map,List.length_take];omega) rfl (λi x ys H1 hx z=>?_) (λys H1 z=>?_)
  ·obtain ⟨rfl,rfl⟩:=z;rw [List.getElem?_map] at hx;obtain ⟨y,hy,rfl⟩:=Option.map_eq_some_iff.mp hx;have hi:=(List.getElem?_eq_some_iff.mp hy).1;refine Qm ?_;refine C5 ?_;apply ⟨d,_,rfl,Dc.k (k:=.inr y) hd,?_⟩;refine Nx.mk (by rw [lm];exact hi) ⟨rfl,?_⟩;rw [List.take_succ,hy];have e:(AW Ai (.inr y:Key)).isSome=(σ y).isSome:=by
    rcases hv y with ⟨a,b⟩ | ⟨v,r,a,b,_⟩ <;> rw [a,b] <;> rfl
   simp [e]
  ·obtain ⟨rfl,rfl⟩:=z;rw [lm,List.take_length];refine CG (Nat.zero_le _) λl1 H1 Er s1 e1=>?_;refine ⟨l1,_,rfl,e1,?_⟩;left;have k1:=vg.same s1;by_cases Uh:(ns.map λn=>(σ n).isSome).any id=true
   ·refine Ay (by rw [Uh];decide) ?_;apply ⟨d,_,rfl,.inl (s1 _ _ hd),λp1 eZ=>?_⟩;have s2:A9 H1 (upd H1 p1 (.dK Ai)):=A9.new eZ;have e2:(upd H1 p1 (.dK Ai)) p1=some (.dK Ai):=Aa;generalize upd H1 p1 (.dK Ai)=H2 at s2 e2 ⊢;have By:=s1.trans s2;have aP:H p1=none:=s1.free eZ;apply ⟨q,rfl,⟨_,B0.of (By _ _ hq)⟩,?_⟩;refine S8 (K:=K) (a:=q) (xs:=ns.map V.str) (λi σ' H'=>∃ nm,σ'=[some (.ref d),some (.ref q),some (.ref p1),nm]/\A9 H H'/\DN H' p1 (IL σ (ns.take i))) ⟨none,rfl,By,Ai,e2,hl,hk,λy=>(hv y).imp id λ⟨v,r,a,b,c⟩=>⟨v,r,a,b,An.mono (TSub.of_same By) c⟩⟩ (λi σ' H' _ z=>?_) (λi x σ' H' hx z=>?_) fun σ' H' z=>?_
    ·obtain ⟨nm,_,s3,_⟩:=z;exact B0.of (s3 _ _ hq)
    ·obtain ⟨nm,rfl,s3,kv,g1,g2,g3,g4⟩:=z;rw [List.getElem?_map] at hx;obtain ⟨y,hy,rfl⟩:=Option.map_eq_some_iff.mp hx;refine Kl ?_;apply Rk ?_;apply ⟨p1,rfl,.inl ⟨_,.inl g1⟩,?_⟩;left;have e3:IL σ (ns.take (i+1))=(IL σ (ns.take i)).rm y:=(by rw [List.take_succ,hy];exact Rm _ _ _);refine ⟨kv,.inr y,g1,rfl,λv NH=>?_,λNH=>?_⟩
     ·refine ⟨_,rfl,A9.put s3 aP,C0 kv (.inr y),Aa,Nat.le_trans (GO _ _) g2,λp hp=>g3 p (NC hp),λz=>?_⟩;have t4:TSub H' (upd H' p1 (.dK (C0 kv (.inr y)))):=TSub.put λxs z=>(by rw [g1] at z;cases z);rw [e3,FK];simp only [Su.rm,Sum.inr.injEq];by_cases ez:z=y
      ·simp [ez]
      ·simp only [ez,if_false];exact (g4 z).imp id λ⟨v,r,a,b,c⟩=>⟨v,r,a,b,An.mono t4 c⟩
     ·refine ⟨_,rfl,s3,kv,g1,g2,g3,λz=>?_⟩;rw [e3];simp only [Su.rm];by_cases ez:z=y
      ·subst ez;simp [NH]
      ·simp only [ez,if_false];exact g4 z
    ·obtain ⟨nm,rfl,s3,g⟩:=z;rw [lm,List.take_length] at g;left;exact k p1 H' s3 g
   ·refine AK (by rw [Bool.not_eq_true] at Uh;rw [Uh];rfl) ?_;left;have e3:IL σ ns=σ:=by
     funext y
     rw [Rl];by_cases hy:y∈ns
     ·rw [if_pos hy];cases q2:σ y with
      | none=>rfl
      | some v =>
       refine absurd ?_ Uh;rw [List.any_eq_true];exact ⟨true,List.mem_map.mpr ⟨y,hy,by rw [q2];rfl⟩,rfl⟩
     ·rw [if_neg hy]
    exact k d H1 s1 (by rw [e3];exact k1)
noncomputable def Ui:Sp:=λvs H Q _=>∃ (e:Ex) (r:V) (l:Addr) (ms:List V) (σ:Su),vs=[r,.ref l]/\An H e r/\(∀ x,e≠.nm x)/\H l=some (.lst ms)/\Paired (λ(q:Ex × List Str) m=>An H (Ex.sub (IL σ q.2) q.1) m) e.prt ms/\∀ r' H',A9 H H'->An H' (Ex.sub σ e) r'->Q r' H'
theorem Uj:Am ["tree","parts","whole","entry","part"] ["tree","parts"] (A6 DD):=nofun
theorem cf {f U3:Addr}{fd:FuncData}{rows:List (Str × Value)}(F:C8 K "with_parts" "with_parts" DD f fd)(kd:D7 w K U3 rows)(Z9:mg "PLACES"=some (.ref U3))(kp:jO K rows)(BY:mg "list"=none)(AJ:mg "tuple"=none)(cg:mg "zip"=none):Av Pr w K mg base Bs 1 f fd ["tree","parts"] Ui:=by
 refine F.okS Uj (λB9 A outer s H vs Q E hr h=>?_)
 ·obtain ⟨e,r,l,ms,σ,rfl,he,ne,hl,hm,k⟩:=h;refine ⟨_,(A4 (Ah (i:=2) Uj.nd rfl (.inl rfl) (Bl Dv (by rfl) BY PyProof.Rows.boot_list (A1 (A7 0) A2)))
   (A4 (FV PassesOwn.never rfl (c8 rfl cg (A1 (QR kd rfl Z9 (eI 0) Br) (A1 (A7 1) A2))) (IA rfl (BB (AV (i:=3) Uj.nd rfl (.inl rfl)) (BB (AV (i:=4) Uj.nd rfl (.inl rfl)) Fx))) (Ab (aj (A7 4) (ak (A7 2) (eI 3) set_list))))
   (Ab (Ag (Bl C7 (by rfl) AJ PyProof.Rows.boot_tuple (A1 (A7 2) A2)))))),?_⟩
  obtain ⟨p,us,rfl,hp,Vh,aF⟩:=he.look;obtain ⟨a,rs,QT,U4,bR⟩:=kp e;obtain ⟨YS,fT⟩:=IP e;have lr:=Paired.len bR;have lp:=Paired.len Vh;have y3:=Paired.len hm;apply ⟨p,_,rfl,.inr (B0.of hp),λlw QI=>?_⟩;have s1:A9 H (upd H lw (.lst (.str e.wd::us))):=A9.new QI;have e1:(upd H lw (.lst (.str e.wd::us))) lw=some (.lst (.str e.wd::us)):=Aa;generalize upd H lw (.lst (.str e.wd::us))=H1 at s1 e1 ⊢;apply Uc ?_;apply A5 (s1 _ _ hp) (v:=.str e.wd) (Ad (j:=0) rfl) ?_;refine ⟨e.wd,.ref a,.ref a,rfl,QT,rfl,?_⟩;apply ⟨a,l,rs,ms,rfl,U4.sq H1,s1 _ _ hl,?_⟩;refine ⟨λi m σ' H'=>m=rs.length - i/\i<=rs.length/\∃ en pa,σ'=[some (.ref p),some (.ref l),some (.ref lw),en,pa]/\A9 H H'/\H' lw=some (.lst (KX.aam (e.plc.take i) (ms.take i) (.str e.wd::us))),⟨rs.length,by simp,Nat.zero_le _,none,none,rfl,s1,e1⟩,?_⟩;rintro i m σ' H2 ⟨rfl,hi,en,pa,rfl,s2,e2⟩;by_cases Cv:i < rs.length
  ·refine .inr ⟨⟨rs,ms,U4.sq H2,s2 _ _ hl,Cv,()⟩,fun σ' H'=>∃ en pa,σ'=[some (.ref p),some (.ref l),some (.ref lw),en,pa]/\A9 H H'/\H' lw=some (.lst (KX.aam (e.plc.take (i+1)) (ms.take (i+1)) (.str e.wd::us))),fun σ' H' z=>⟨rs.length - (i+1),(),rfl,Cv,z⟩,λx H' y=>?_⟩;obtain ⟨T,x1,y1,hT,rfl,rfl,YB,kI⟩:=y;have YB:=YB rs (U4.sq H2);have kI:=kI ms (s2 _ _ hl);have s3:A9 H2 (upd H2 T (.tup [x1,y1])):=A9.new hT;have e3:(upd H2 T (.tup [x1,y1])) T=some (.tup [x1,y1]):=Aa;generalize upd H2 T (.tup [x1,y1])=H3 at s3 e3 ⊢;obtain ⟨row,qA,b,c,rfl,kb,kc⟩:=Paired.at bR YB;refine ⟨T,_,rfl,B0.of e3,rfl,_,_,rfl,_,_,rfl,rfl,?_⟩;refine Ug ?_;apply Ue ?_;apply J3 (kb.sq H3) (v:=.int row.1) rfl ?_;have kK:=s3 _ _ e2;have YZ:row.1 < (KX.aam (e.plc.take i) (ms.take i) (.str e.wd::us)).length:=by
    rw [IQ];obtain ⟨pt,_,⟨pW,Za,_⟩,_⟩:=Paired.at1 Vh qA;exact (List.getElem?_eq_some_iff.mp Za).1
   refine ⟨lw,_,_,_,rfl,rfl,kK,Tc YZ,?_⟩;refine ⟨_,_,rfl,A9.put (s2.trans s3) QI,?_⟩;rw [Aa,List.take_succ,List.take_succ,qA,kI];simp only [Option.toList_some];rw [Hz];rw [List.length_take,List.length_take];omega
  ·obtain rfl:i=rs.length:=(by omega);refine .inl ⟨⟨rs,U4.sq H2,Nat.le_refl _⟩,?_⟩;rw [List.take_of_length_le (),List.take_of_length_le ()] at e2;apply ⟨lw,_,rfl,.inl ⟨AI.of e2,λl5 kL=>?_⟩⟩;have s5:A9 H2 (upd H2 l5 (.tup (KX.aam e.plc ms (.str e.wd::us)))):=A9.new kL;have Jc:=s2.trans s5;refine k _ _ Jc (An.aam (H:=H) ne hp he (TSub.of_same Jc) (Paired.aah hm λ_ _ z=>An.mono (TSub.of_same Jc) z) Aa)
end
end K
namespace L2
open PySem PySem.Spec PyProof.Rows KS KX
noncomputable def Od (H:Hp)(t:Ex × Su)(x:V):Prop:=∃ p re d,x=.ref p/\H p=some (.tup [re,.ref d])/\An H t.1 re/\DN H d t.2
theorem HA {α β γ:Type}{F:β->γ->Prop}{g:α->β}:∀ {l:List α} {ms:List γ},Paired F (l.map g) ms->Paired (λa m=>F (g a) m) l ms
 | [],_,h=>by cases h;exact .nil
 | a::l,_,h=>by cases h with | cons x y=>exact .cons x (HA y)
theorem DN.no {H:Hp}{d:Addr}{σ:Su}{Ai:List (Key × V)}(h:DN H d σ)(e:H d=some (.dK Ai)):Ai.isEmpty=true↔∀ y,σ y=none:=by
 obtain ⟨kv,h1,h2,h3,h4⟩:=h;rw [e] at h1;cases h1
 constructor
 ·intro z y;rw [List.isEmpty_iff] at z;subst z;rcases h4 y with ⟨a,_⟩ | ⟨v,r,_,b,_⟩
  ·exact a
  ·cases b
 ·intro z;cases Ai with
  | nil=>rfl
  | cons p r =>
   obtain ⟨y,hy⟩:=h3 p (.head _);rcases h4 y with ⟨_,b⟩ | ⟨v,r',a,_,_⟩
   ·rw [Ba hy] at b;cases b
   ·rw [z y] at a;cases a
end L2
namespace K
open PySem L2 KM KS KX
open PySem.W (fnMade fnX)
theorem kM:Vk Od:=λH H' t x s h=>by
 obtain ⟨p,re,d,h1,h2,h3,h4⟩:=h;exact ⟨p,re,d,h1,s _ _ h2 (by intro _ z;cases z),An.mono s.abz h3,h4.mono s.abz λb kv e=>s _ _ e (by intro _ z;cases z)⟩
noncomputable def Y6 (H:Hp)(t:Ex × Su)(r:V):Prop:=An H (Ex.sub t.2 t.1) r
theorem Zb:Vk Y6:=λH H' t x s h=>An.mono s.abz h
abbrev RV:Stmt:=inDef AY 0
abbrev Vp:Stmt:=inDef AY 1
abbrev Ze:Str:="put_in.<locals>.parts_of"
abbrev cj:Str:="put_in.<locals>.make"
section
variable {Pr:Program}{w:World}{K:W.Frag}{mg:Str->Option Value}{base:Heap}
noncomputable def kN (f c':Addr)(o oc:Obj):Sp:=λvs H Q _=>(H f=some (Ce f o)/\H c'=some (Ce c' oc))/\∃ (t:Ex × Su) (x:V),vs=[x]/\Od H t x/\∀ q us H',A9 H H'->H q=none->H' q=some (.lst us)->Paired (Od H') (BZ t) us->Q (.ref q) H'
theorem kO:Am ["entry"] ["entry"] (A6 RV):=nofun
theorem ck {f c':Addr}{doc pm G7:Value}{oc:Obj}(RE:CY Ze oc)(cP:Cl Pr w K mg base 2 "parts_with_names" ["tree"] N7)(cm:Cl Pr w K mg base 1 "without_names" ["told","names"] Rn):
  Av Pr w K mg base Bs 3 f (fnX "parts_of" Ze (Bh RV) (AU RV) (A6 RV) [] .none .none doc pm none (.ref c') G7) ["entry"] (kN f c' (fnMade "parts_of" Ze (Bh RV) (AU RV) (A6 RV) [] doc pm c' G7) oc):=by
 refine Rf kO RE (λvs H Q E h=>?_) (λvs H Q E h=>h.1) (λA outer s H vs Q E hr h=>?_)
 ·obtain ⟨_,t,x,rfl,_⟩:=h;rfl
 ·obtain ⟨_,t,x,rfl,hx,q⟩:=h;have FZ:AG 1 _:=hr.mono ⟨⟩;have HS:AG 2 _:=hr;have S:AZ (BQ Bs Pr w K mg base ["entry"] Ze (A6 RV) f (.ref c') A outer s H E).nox (Bv (valueOf (inDef RV 1))) [("entry",s.heap.objs.size+1)] ["part","names"] ["entry"] [0] :=
   ⟨rfl,by decide +kernel,rfl,by decide +kernel,rfl,rfl,rfl,rfl⟩
  have HU:(["part","names","entry"]:List Str).Nodup:=by decide +kernel
  refine ⟨_,(A4 (AB (EY (CZ (eI 0))) (Ab (Ag (Az A2))) Ap)
   (Ab (Ag (ED (g:=Nh K 2 (El (BP 0) (El (BP 1) Ng))) (tt:=GU) (te:=Pa (Be (B2 0) (Be (CV Rn [] E0 (Be (Fj (Bg K) (B2 2) (tC (.int 1))) (Be (B2 1) Fq))) Fq))) S rfl (EC (As cP HS rfl (A1 (eI 0) A2))) (λC s0 H0 ex=>IA rfl (BB (AV (i:=0) HU rfl (.inl rfl)) (BB (AV (i:=1) HU rfl (.inl rfl)) Fx))) (λ_ _ _ _=>Ep) (λC s0 H0 ex=>Ae (A1 (A7 0) (A1 (As cm FZ rfl (A1 (eI 2) (A1 (A7 1) A2))) A2))))))),?_⟩
  obtain ⟨p,re,d,rfl,hp,he,hs⟩:=hx;have WH:=hs;obtain ⟨Ai,hd,_,_,_⟩:=WH;have dR:=hs.no hd;apply A5 hp (v:=.ref d) rfl ?_;refine ⟨!Ai.isEmpty,.inr (.inr ⟨Ai,hd,rfl⟩),?_⟩;dsimp only;by_cases hz:∀ y,t.2 y=none
  ·refine AK (by rw [dR.mpr hz];rfl) ?_;apply CG (Cf ⟨⟩) λl1 H1 Er s1 e1=>?_;refine q l1 [] H1 s1 Er e1 ?_;unfold BZ;rw [if_pos hz];exact .nil
  ·refine Ay (λz=>hz (dR.mp (by simpa using z))) ?_;have hk:BZ t=t.1.prt.map λp=>(p.1,IL t.2 p.2):=(by unfold BZ;rw [if_neg hz]);rw [hk] at q;apply A5 hp (v:=re) rfl ?_;apply ⟨t.1,re,rfl,he,λl rs H1 s1 hl e1 pr=>?_⟩;refine ⟨l,rfl,⟨_,AI.of e1⟩,?_⟩;have y4:=Paired.len pr;have y6:=TX t.1;refine K7 (K:=K) (n:=rs.length) (λi ys H'=>A9 H1 H'/\Paired (Od H') ((t.1.prt.take i).map λp=>(p.1,IL t.2 p.2)) ys) ⟨A9.refl _,.nil⟩ (by exact BW ()) (λi ys H' z=>?_) rfl rfl (λi ys H' hi z=>⟨rs,rs[i],AI.of (z.1 _ _ e1),by simp [hi]⟩) (λys H' z=>⟨rs,AI.of (z.1 _ _ e1),Nat.le_refl _⟩) (λi ys H2 x y7 hi z hy=>?_) (λys H2 z=>?_)
   ·rw [<- Paired.len z.2,List.length_map,List.length_take];omega
   ·obtain ⟨rfl,hy⟩:=hy;obtain ⟨s2,z⟩:=z;have Z8:=hy rs (AI.of (s2 _ _ e1));obtain ⟨pt,Vh,pa,qa,ra,rfl,a1,a2,a3⟩:=Paired.at1 pr Z8;refine ⟨pa,_,_,rfl,B0.of (s2 _ _ a1),?_⟩;apply C5 ?_;left;have By:=s1.trans s2;refine A5 (By _ _ hp) (v:=.ref d) rfl ?_;apply ⟨d,qa,t.2,pt.2,rfl,hs.same By,s2 _ _ a3,(XQ t.1 pt (List.mem_of_getElem? Vh)).2,λd' H3 s3 vh=>?_⟩;left;intros p4 H4 s4 e4;have kQ:=s3.trans s4;refine Nx.mk hi ⟨s2.trans kQ,?_⟩;rw [List.take_succ,Vh,List.map_append];exact Paired.app (Paired.aah z λ_ _ y=>kM _ _ _ _ (NL.of_same kQ) y) (.cons ⟨p4,ra,d',rfl,e4,An.mono (TSub.of_same (s2.trans kQ)) a2,vh.same s4⟩ .nil)
   ·obtain ⟨s2,z⟩:=z;refine CG (Nat.zero_le _) λl3 H3 RO s3 e3=>?_;rw [show rs.length=t.1.prt.length by omega,List.take_length] at z;have By:=s1.trans s2;exact q l3 ys H3 (By.trans s3) (By.free RO) e3 (Paired.aah z λ_ _ y=>kM _ _ _ _ (NL.of_same s3) y)
noncomputable def kR (f c':Addr)(o oc:Obj):Sp:=λvs H Q _=>(H f=some (Ce f o)/\H c'=some (Ce c' oc))/\∃ (t:Ex × Su) (x:V) (l:Addr) (ms:List V),vs=[x,.ref l]/\Od H t x/\H l=some (.lst ms)/\Paired (Y6 H) (BZ t) ms/\∀ r H',A9 H H'->Y6 H' t r->Q r H'
theorem kS:Am ["entry","parts"] ["entry","parts"] (A6 Vp):=nofun
theorem cn {f c':Addr}{doc pm G7:Value}{oc:Obj}(RE:CY cj oc)(cp:Cl Pr w K mg base 1 "with_parts" ["tree","parts"] Ui):
  Av Pr w K mg base Bs 2 f (fnX "make" cj (Bh Vp) (AU Vp) (A6 Vp) [] .none .none doc pm none (.ref c') G7) ["entry","parts"] (kR f c' (fnMade "make" cj (Bh Vp) (AU Vp) (A6 Vp) [] doc pm c' G7) oc):=by
 refine Rf kS RE (λvs H Q E h=>?_) (λvs H Q E h=>h.1) (λA outer s H vs Q E hr h=>?_)
 ·obtain ⟨_,t,x,l,ms,rfl,_⟩:=h;rfl
 ·obtain ⟨_,t,x,l,ms,rfl,hx,hl,hm,q⟩:=h;have FZ:AG 1 _:=hr;have hu:=JO hr;refine ⟨_,(A4 (AB (Al Ao (AH (r:=Bg K) Aw (eI 0) A3 Br) A8 (Ac _)) (Ab (Ag (Gk hu (eI 0) (AH (r:=Bg K) Aw (eI 0) A3 Br) (eI 0) ⟨rfl,rfl,rfl,rfl⟩))) Ap)
   (Ab (Ag (HK (CZ (A7 1)) (As cp FZ rfl (A1 (eI 0) (A1 (A7 1) A2))) (eI 0))))),?_⟩
  obtain ⟨p,re,d,rfl,hp,he,hs⟩:=hx;obtain ⟨pt,ut,rfl,ht,hi⟩:=he.its;apply A5 hp (v:=.ref pt) rfl ?_;apply A5 ht (v:=.str t.1.wd) (Ad (j:=0) rfl) ?_;left;by_cases c1:t.1.wd="name"
  ·obtain ⟨y,hy⟩:∃ y,t.1=.nm y:=by
    cases f':t.1 <;> rw [f'] at c1 <;> first | exact ⟨_,rfl⟩ | exact absurd c1 (by simp only [Ex.wd];decide)
   rw [hy] at he;obtain ⟨y8,h1,qB⟩:=he;cases h1;refine AK (by simp [c1]) ?_;apply A5 hp (v:=.ref d) rfl ?_;obtain ⟨Ai,hd,_,_,hv⟩:=hs;refine ⟨d,rfl,.inl ⟨_,.inl hd⟩,?_⟩;apply A5 hp (v:=.ref pt) rfl ?_;apply A5 qB (v:=.str y) rfl ?_;apply A5 hp (v:=.ref pt) rfl ?_;refine ⟨_,Dc.k (k:=.inr y) hd,?_⟩;refine q _ H (A9.refl _) ?_;unfold Y6;rw [hy];rcases hv y with ⟨a,b⟩ | ⟨v,r,a,b,c⟩
   ·simp only [Ex.sub,a,b,Option.getD_none];exact ⟨pt,rfl,qB⟩
   ·simp only [Ex.sub,a,b,Option.getD_some];exact c
  ·have ne:∀ y,t.1≠.nm y:=λy z=>c1 (by rw [z];rfl);refine Ay (by simp [c1]) ?_;apply ⟨!ms.isEmpty,.inl ⟨ms,AI.of hl,rfl⟩,?_⟩;have lm:=Paired.len hm;cases ms with
   | nil =>
    refine Ay (by simp) ?_;apply A5 hp (v:=.ref pt) rfl ?_;refine q _ H (A9.refl _) ?_;have e0:Ex.sub t.2 t.1=t.1:=by
     have:BZ t=[]:=List.eq_nil_of_length_eq_zero lm;unfold BZ at this;split at this
     ·rename_i z;exact XT z _
     ·have:=List.map_eq_nil_iff.mp this;cases f':t.1 with
      | nm y=>exact absurd f' (ne y)
      | num _ | tru _ | emp=>rfl
      | _=>rw [f'] at this;simp [Ex.prt] at this
    unfold Y6;rw [e0];exact he
   | cons m ms =>
    refine AK (by simp) ?_;apply A5 hp (v:=.ref pt) rfl ?_;left;have hk:BZ t=t.1.prt.map λp=>(p.1,IL t.2 p.2):=by
     unfold BZ;split
     ·rename_i z;unfold BZ at lm;rw [if_pos z] at lm;simp at lm
     ·rfl
    rw [hk] at hm;exact ⟨t.1,.ref pt,l,m::ms,t.2,rfl,he,ne,hl,HA (F:=Y6 H) (g:=λp:Ex × List Str=>(p.1,IL t.2 p.2)) hm,λr' H' s' h'=>q r' H' s' h'⟩
noncomputable def Ky (Pt:Addr)(H:Hp):Prop:=Kw Pt (Stmt.pos RV) (Stmt.pos Vp) Ze cj H
noncomputable def Ro (Pt:Addr):Sp:=λvs H Q _=>∃ (e:Ex) (r:V) (d:Addr) (σ:Su),vs=[r,.ref d]/\An H e r/\DN H d σ/\e.sz<=12000000/\Ky Pt H/\∀ r' H',Bt Pt H H'->An H' (Ex.sub σ e) r'->Ky Pt H'->Q r' H'
theorem Y7:Am ["tree","told","parts_of","make"] ["tree","told"] (A6 AY):=nofun
theorem cq {f c0 Pt:Addr}{oc kV doc pm ct:Value}{od an:Option Addr}{Ot:Array (Option Value)}
  (lk:K.lookup f=some ⟨oc,od,.func (W.fnOf "put_in" "put_in" (Bh AY) (AU AY) (A6 AY) .none kV doc pm an (.ref c0) ct),Ot⟩) (Gy:W.codeIn K (.ref c0) "put_in"=true)
  (B:FT base mg c0 Pt) (cP:Cl Pr w K mg base 2 "parts_with_names" ["tree"] N7) (cm:Cl Pr w K mg base 1 "without_names" ["told","names"] Rn) (cp:Cl Pr w K mg base 1 "with_parts" ["tree","parts"] Ui)
  (cB:Cl Pr w K mg base 6 "built" ["top","parts_of","make"] (Hy Pr w K mg base)) :
  Av Pr w K mg base Bs 7 f (W.fnOf "put_in" "put_in" (Bh AY) (AU AY) (A6 AY) .none kV doc pm an (.ref c0) ct) ["tree","told"] (Ro Pt):=by
 refine Pc lk Gy Y7 (λvs H Q E h=>?_) (λA outer s H vs Q E hr h=>?_)
 ·obtain ⟨e,r,d,σ,rfl,_⟩:=h;rfl
 ·obtain ⟨e,r,d,σ,rfl,he,hs,hz,tab,k⟩:=h
  suffices hh:∃ tt,SB (BQ Bs Pr w K mg base ["tree","told","parts_of","make"] "put_in" (A6 AY) f (.ref c0) A outer s H E).nox (AU AY) tt/\tt { nx:=λ_ H'=>Q .non H',rt:=Q } (start ["tree","told","parts_of","make"] [r,.ref d]) H by
   obtain ⟨tt,h1,h2⟩:=hh;exact ⟨tt,h1.out.nox,h2⟩
  refine ⟨_,A4 (Rc (i:=2) (q:=Ze) (aa3:=[]) B rfl rfl rfl rfl rfl rfl Y7.nd rfl (.inl rfl)) (A4 (Rc (i:=3) (q:=cj) (aa3:=[]) B rfl rfl rfl rfl rfl rfl Y7.nd rfl (.inl rfl))
   (Ab (Ag (As cB hr rfl (A1 (Ae (A1 (A7 0) (A1 (A7 1) A2))) (A1 (A7 2) (A1 (A7 3) A2))))))),?_⟩
  refine Rg ⟨⟩ tab λf1 f2 a b oa ob L5 RU d1 d2 H1 sx kT ha vi hb vj YG YH=>?_;obtain ⟨y9,cu⟩:=tab.tab;have t1:TSub H H1:=sx.sub cu;have vk:=An.mono t1 he;have YQ:DN H1 d σ:=hs.mono t1 λb kv e=>sx _ _ e λz=>by rw [z,cu] at e;cases e
  left;intros p2 H2 s2 e2;apply ⟨Ex × Su,BZ,XO,Od,Y6,(e,σ),.ref p2,f1,f2,rfl,R6,uo,kM,Zb,⟨p2,r,d,rfl,e2,An.mono (TSub.of_same s2) vk,YQ.same s2⟩,Nat.le_trans (R7 _ (e,σ) (Nat.le_refl _)) (show e.sz<=16000000 by omega),?_,?_,λr' H3 s3 h3=>k r' H3 (sx.trans (Bt.of (s2.trans s3))) h3 (kT.same (s2.trans s3))⟩
  ·exact ⟨_,"entry",_,(ck (f:=f1) (c':=a) (oc:=oa) vi cP cm).mono ⟨⟩,Binds.all (aq λ_=>rfl),.inr ⟨_,rfl,s2 _ _ YG⟩,λH' t x Q' sm hx kk=>⟨⟨sm _ _ (s2 _ _ YG),sm _ _ (s2 _ _ ha)⟩,t,x,rfl,hx,kk⟩⟩
  ·exact ⟨_,"entry","parts",_,(cn (f:=f2) (c':=b) (oc:=ob) vj cp).mono ⟨⟩,Binds.all (ar λ_ _=>rfl),.inr ⟨_,rfl,s2 _ _ YH⟩,λH' t x l ms Q' sm hx hl hm kk=>⟨⟨sm _ _ (s2 _ _ YH),sm _ _ (s2 _ _ hb)⟩,t,x,l,ms,rfl,hx,hl,hm,kk⟩⟩
end
end K
namespace L2
open PySem PySem.Spec PyProof.Rows KS KX
theorem kU {H:Hp}{d:Addr}(h:H d=some (.dK [])):DN H d λ_=>none:=⟨[],h,by simp,λ_ z=>(by cases z),λy=>.inl ⟨rfl,rfl⟩⟩
theorem kW {H:Hp}{d:Addr}{x y:Str}{v w:Ex}{r s:V}(hv:An H v r)(hw:An H w s)(h:H d=some (.dK (Bd [] [(.inr x,r),(.inr y,s)]))):DN H d ((Su.one y w).or (Su.one x v)):=by
 refine ⟨_,h,Nat.le_trans (Dd _ _) (by simp),λp hp=>?_,λz=>?_⟩
 ·have e:Bd [] [((.inr x:Key),r),(.inr y,s)]=putK [(.inr x,r)] (.inr y) s:=rfl;rw [e] at hp;unfold putK at hp;split at hp
  ·obtain ⟨q,h1,h2⟩:=List.mem_map.mp hp;cases List.mem_singleton.mp h1;refine ⟨x,?_⟩;split at h2 <;> rw [<- h2]
  ·rcases List.mem_append.mp hp with h1 | h1
   ·exact ⟨x,by rw [List.mem_singleton.mp h1]⟩
   ·exact ⟨y,by rw [List.mem_singleton.mp h1]⟩
 ·have e:AW (Bd [] [((.inr x:Key),r),(.inr y,s)]) (.inr z)=if (.inr z:Key)=.inr y then some s else if (.inr z:Key)=.inr x then some r else none:=by
   show AW (putK (putK [] _ _) _ _) _=_;rw [Dk,Dk];rfl
  rw [e];simp only [Su.or,Su.one];by_cases h1:z=y
  ·subst h1;exact .inr ⟨w,s,by simp,by simp,hw⟩
  ·have n1:¬ (.inr z:Key)=.inr y:=λq=>h1 (Sum.inr.inj q);rw [if_neg n1];by_cases h2:z=x
   ·subst h2;exact .inr ⟨v,r,by simp [h1],by simp,hv⟩
   ·have n2:¬ (.inr z:Key)=.inr x:=λq=>h2 (Sum.inr.inj q);rw [if_neg n2];exact .inl ⟨by simp [h1,h2],rfl⟩
theorem qC {H:Hp}{d:Addr}{x:Str}{v:Ex}{r:V}(hv:An H v r)(h:H d=some (.dK (Bd [] [(.inr x,r)]))):DN H d (Su.one x v):=by
 refine ⟨_,h,by show (1:Nat)<=_;decide,λp hp=>⟨x,by rw [List.mem_singleton.mp hp]⟩,λz=>?_⟩;have e:AW (Bd [] [((.inr x:Key),r)]) (.inr z)=if (.inr z:Key)=.inr x then some r else none:=by
  show AW (putK [] _ _) _=_;rw [Dk];rfl
 rw [e];simp only [Su.one];by_cases h1:z=x
 ·subst h1;exact .inr ⟨v,r,by simp,by simp,hv⟩
 ·rw [if_neg λq=>h1 (Sum.inr.inj q)];exact .inl ⟨by simp [h1],rfl⟩
end L2
namespace K
open PySem L2 KM KS KX
section
variable {Pr:Program}{w:World}{K:W.Frag}{mg:Str->Option Value}{base:Heap}{CS:Addr}{bS:List Value}{nS De Bn:String}
noncomputable def kX (H:Hp)(e:Ex)(σ:Su)(p:Addr):Prop:=∃ re d,H p=some (.tup [re,.ref d])/\An H e re/\DN H d σ
noncomputable def Cp (CS:Addr)(W:Ex->Prop):Sp:=λvs H Q E=>∃ (e:Ex) (rt:V) (l:Addr) (us:List V),vs=[rt,.ref l]/\W e/\An H e rt/\H l=some (.lst us)/\Paired (An H) (BA e) us /\
 (red e=none->∀ H',A9 H H'->E (.ref CS) none H')/\∀ b σ,N5 e b σ->∀ p H',A9 H H'->kX H' b σ p->Q (.ref p) H'
theorem Ec {H H2 H3:Hp}{p:Addr}(hp:H p=none)(s:A9 H H2)(h:∀ b,b≠p->H3 b=H2 b):A9 H H3:=λb o e=>by
 rw [h b λz=>by rw [z,hp] at e;cases e];exact s _ _ e
theorem cw:Am ["tree","values"] ["tree","values"] (A6 FA):=nofun
theorem Y8 {f:Addr}{fd:FuncData}(F:C8 K "own_let" "own_let" FA f fd):Av Pr w K mg base (FW Pr w) 1 f fd ["tree","values"] (Cp CS λe=>∃ x a b,e=.lt x a b):=by
 refine F.okX cw (λvs H Q E h=>?_) (λB9 A0 outer s0 H vs Q E hr h=>?_)
 ·obtain ⟨e,rt,l,us,rfl,_⟩:=h;rfl
 ·obtain ⟨e,rt,l,us,rfl,⟨x,a,b,rfl⟩,he,Kz,hv,q1,q2⟩:=h;refine ⟨_,(Ab (Ag (Ae (A1 (eI 0) (A1 (D' (Bj (eI 0) (AH (r:=C3 K) AE (A7 1) A3 Br) FU) rfl rfl (by simp) ⟨⟩) A2))))),?_⟩;obtain ⟨p,ra,rb,rfl,hp,ha,hb⟩:=he;obtain ⟨rv,_,rfl,OB,hv⟩:=Bo hv;cases DM hv;apply A5 hp (v:=rb) rfl ?_;apply D2 λd H1 hd s1 e1=>?_;apply A5 (s1 _ _ hp) (v:=.str x) rfl ?_;apply Cj (AI.of (s1 _ _ Kz)) (v:=rv) rfl ?_;apply ⟨e1,[(.inr x,rv)],rfl,Nat.le_of_ble_eq_true rfl,λH2 o2 e2=>?_⟩;have By:A9 H H2:=Ec hd s1 o2;left;intros p3 H3 s3 e3;have DO:=By.trans s3;exact q2 _ _ (.lt _ _ _) p3 H3 DO ⟨rb,d,e3,An.mono (TSub.of_same DO) hb,qC (An.mono (TSub.of_same DO) OB) (s3 _ _ e2)⟩
theorem cx:Am ["tree","values"] ["tree","values"] (A6 EG):=nofun
theorem Y9 {f:Addr}{fd:FuncData}(F:C8 K "own_when" "own_when" EG f fd)(mS:mg "Stuck"=some (.ref CS))(qS:W.excIn K CS bS nS=true)(FS:ExcBaseFacts Bn nS De bS):Av Pr w K mg base (FW Pr w) 1 f fd ["tree","values"] (Cp CS λe=>∃ a b c,e=.wh a b c):=by
 refine F.okX cx (λvs H Q E h=>?_) (λB9 A0 outer s0 H vs Q E hr h=>?_)
 ·obtain ⟨e,rt,l,us,rfl,_⟩:=h;rfl
 ·obtain ⟨e,rt,l,us,rfl,⟨a,b,c,rfl⟩,he,Kz,hv,q1,q2⟩:=h;refine ⟨_,(A4 (AB (Al GF (AH (r:=Bg K) Aw (AH (r:=C3 K) AE (A7 1) A3 Br) A3 Br) A8 (Ac _)) (Ab (F2 D0 (λ_ _ h=>h) rfl mS qS FS rfl (A1 A8 A2))) Ap)
   (Ab (Ag (Ae (A1 (HK (Dp (AH (r:=Bg K) Aw (AH (r:=C3 K) AE (A7 1) A3 Br) A3 Br)) (eI 0) (eI 0)) (A1 Lv A2)))))),?_⟩
  obtain ⟨p,ra,rb,rc,rfl,hp,ha,hb,hc⟩:=he;obtain ⟨rv,_,rfl,OB,hv⟩:=Bo hv;cases DM hv;obtain ⟨pv,uv,rfl,Jq,hi⟩:=OB.its;apply Cj (AI.of Kz) (v:=.ref pv) rfl ?_;apply A5 Jq (v:=.str a.wd) (Ad (j:=0) rfl) ?_;left;by_cases w1:a.wd="truth"
  ·obtain ⟨t,rfl⟩:=R1 w1;obtain ⟨u0,_,rfl,h0,hi⟩:=Bo hi;cases DM hi;cases h0;refine Ay (show ¬ (!decide (V.str "truth"=V.str "truth"))=true by decide) ?_;apply Cj (AI.of Kz) (v:=.ref pv) rfl ?_;apply A5 Jq (v:=.bl t) rfl ?_;left;have fin:∀ (z:Ex) (rz:V),N5 (.wh (.tru t) b c) z (λ_=>none)->An H z rz->∀ d,H d=none->∀ H2 p2,A9 (upd H d (.dK [])) H2->H2 p2=some (.tup [rz,.ref d])->Q (.ref p2) H2:=λz rz ho hz d hd H2 p2 s2 e2=>by
    have By:A9 H H2:=(A9.new hd).trans s2;exact q2 z _ ho p2 H2 By ⟨rz,d,e2,An.mono (TSub.of_same By) hz,kU (s2 _ _ Aa)⟩
   cases t with
   | true =>
    refine C5 ?_;apply A5 hp (v:=rb) rfl ?_;left;intro d hd;left;intros p2 H2 s2 e2;exact fin b rb (.wt _ _) hb d hd H2 p2 s2 e2
   | false =>
    refine BG ?_;apply A5 hp (v:=rc) rfl ?_;left;intro d hd;left;intros p2 H2 s2 e2;exact fin c rc (.wf _ _) hc d hd H2 p2 s2 e2
  ·refine AK (by simpa using w1) ?_;left;exact ⟨by simp,q1 (by cases a <;> first | rfl | exact absurd rfl w1) _ (A9.refl _)⟩
theorem Vq:Am ["tree","values","pair"] ["tree","values"] (A6 EH):=nofun
theorem Ya {f:Addr}{fd:FuncData}(F:C8 K "own_open" "own_open" EH f fd)(mS:mg "Stuck"=some (.ref CS))(qS:W.excIn K CS bS nS=true)(FS:ExcBaseFacts Bn nS De bS):Av Pr w K mg base (FW Pr w) 1 f fd ["tree","values"] (Cp CS λe=>∃ a x y b,e=.opn a x y b):=by
 refine F.okX Vq (λvs H Q E h=>?_) (λB9 A0 outer s0 H vs Q E hr h=>?_)
 ·obtain ⟨e,rt,l,us,rfl,_⟩:=h;rfl
 ·obtain ⟨e,rt,l,us,rfl,⟨a,x,y,b,rfl⟩,he,Kz,hv,q1,q2⟩:=h;refine ⟨_,(A4 (Ah (i:=2) Vq.nd rfl (.inl rfl) (AH (r:=C3 K) AE (A7 1) A3 Br))
   (A4 (AB (Al GF (eI 2) A8 (Ac _)) (Ab (F2 D0 (λ_ _ h=>h) rfl mS qS FS rfl (A1 A8 A2))) Ap)
   (Ab (Ag (Ae (A1 (eI 0) (A1 (D' (Bj (eI 0) (eI 2) (Bj (eI 0) (eI 2) FU)) rfl rfl (by simp) ⟨⟩) A2))))))),?_⟩
  obtain ⟨p,ra,rb,rfl,hp,ha,hb⟩:=he;obtain ⟨rv,_,rfl,OB,hv⟩:=Bo hv;cases DM hv;obtain ⟨pv,uv,rfl,Jq,hi⟩:=OB.its;apply Cj (AI.of Kz) (v:=.ref pv) rfl ?_;apply A5 Jq (v:=.str a.wd) (Ad (j:=0) rfl) ?_;left;by_cases w1:a.wd="pair"
  ·obtain ⟨v1,v2,rfl⟩:=V9 w1;obtain ⟨r1,_,rfl,h1,hi⟩:=Bo hi;obtain ⟨r2,_,rfl,h2,hi⟩:=Bo hi;cases DM hi;refine Ay (show ¬ (!decide (V.str "pair"=V.str "pair"))=true by decide) ?_;apply A5 hp (v:=rb) rfl ?_;apply D2 λd H1 hd s1 e1=>?_;apply A5 (s1 _ _ hp) (v:=.str x) rfl ?_;apply A5 (s1 _ _ Jq) (v:=r1) rfl ?_;apply A5 (s1 _ _ hp) (v:=.str y) rfl ?_;apply A5 (s1 _ _ Jq) (v:=r2) rfl ?_;apply ⟨e1,[(.inr x,r1),(.inr y,r2)],rfl,Nat.le_of_ble_eq_true rfl,λH2 o2 e2=>?_⟩;have By:A9 H H2:=Ec hd s1 o2;left;intros p3 H3 s3 e3;have DO:=By.trans s3;have t3:=TSub.of_same DO;exact q2 b _ (.opn _ _ _ _ _) p3 H3 DO ⟨rb,d,e3,An.mono t3 hb,kW (An.mono t3 h1) (An.mono t3 h2) (s3 _ _ e2)⟩
  ·refine AK (by simpa using w1) ?_;left;exact ⟨by simp,q1 (by cases a <;> first | rfl | exact absurd rfl w1) _ (A9.refl _)⟩
theorem Vr:Am ["tree","values","whole"] ["tree","values"] (A6 E3):=nofun
theorem Yb {f:Addr}{fd:FuncData}(F:C8 K "own_split" "own_split" E3 f fd)(mS:mg "Stuck"=some (.ref CS))(qS:W.excIn K CS bS nS=true)(FS:ExcBaseFacts Bn nS De bS):Av Pr w K mg base (FW Pr w) 1 f fd ["tree","values"] (Cp CS λe=>∃ a b x y c,e=.spl a b x y c):=by
 refine F.okX Vr (λvs H Q E h=>?_) (λB9 A0 outer s0 H vs Q E hr h=>?_)
 ·obtain ⟨e,rt,l,us,rfl,_⟩:=h;rfl
 ·obtain ⟨e,rt,l,us,rfl,⟨a,b,x,y,c,rfl⟩,he,Kz,hv,q1,q2⟩:=h;refine ⟨_,(A4 (Ah (i:=2) Vr.nd rfl (.inl rfl) (AH (r:=C3 K) AE (A7 1) A3 Br))
   (A4 (AB (Al Ao (eI 2) A8 (Ac _)) (Ab (Ag (Ae (A1 (eI 0) (A1 Lv A2))))) Ap)
   (A4 (AB (Al Ao (eI 2) A8 (Ac _)) (Ab (Ag (Ae (A1 (eI 0) (A1 (D' (Bj (eI 0) (eI 2) (Bj (eI 0) (eI 2) FU)) rfl rfl (by simp) ⟨⟩) A2))))) Ap)
   (Ab (F2 D0 (λ_ _ h=>h) rfl mS qS FS rfl (A1 A8 A2)))))),?_⟩
  obtain ⟨p,ra,rb,rc,rfl,hp,ha,hb,hc⟩:=he;obtain ⟨rv,_,rfl,OB,hv⟩:=Bo hv;cases DM hv;obtain ⟨pv,uv,rfl,Jq,hi⟩:=OB.its;apply Cj (AI.of Kz) (v:=.ref pv) rfl ?_;apply A5 Jq (v:=.str a.wd) (Ad (j:=0) rfl) ?_;left;by_cases w1:a.wd="empty"
  ·refine AK (decide_eq_true (by rw [w1])) ?_;obtain rfl:=XH w1;apply A5 hp (v:=rb) rfl ?_;left;intro d hd;left;intros p2 H2 s2 e2;have By:A9 H H2:=(A9.new hd).trans s2;exact q2 b _ (.emp _ _ _ _) p2 H2 By ⟨rb,d,e2,An.mono (TSub.of_same By) hb,kU (s2 _ _ Aa)⟩
  ·refine Ay (by simpa using w1) ?_;apply A5 Jq (v:=.str a.wd) (Ad (j:=0) rfl) ?_;left;by_cases w2:a.wd="link"
   ·refine AK (decide_eq_true (by rw [w2])) ?_;obtain ⟨v1,v2,rfl⟩:∃ u v,a=.lk u v:=by cases a <;> first | exact ⟨_,_,rfl⟩ | exact absurd w2 (by simp only [Ex.wd];decide)
    obtain ⟨r1,_,rfl,h1,hi⟩:=Bo hi;obtain ⟨r2,_,rfl,h2,hi⟩:=Bo hi;cases DM hi;apply A5 hp (v:=rc) rfl ?_;apply D2 λd H1 hd s1 e1=>?_;apply A5 (s1 _ _ hp) (v:=.str x) rfl ?_;apply A5 (s1 _ _ Jq) (v:=r1) rfl ?_;apply A5 (s1 _ _ hp) (v:=.str y) rfl ?_;apply A5 (s1 _ _ Jq) (v:=r2) rfl ?_;apply ⟨e1,[(.inr x,r1),(.inr y,r2)],rfl,Nat.le_of_ble_eq_true rfl,λH2 o2 e2=>?_⟩;have By:A9 H H2:=Ec hd s1 o2;left;intros p3 H3 s3 e3;have DO:=By.trans s3;have t3:=TSub.of_same DO;exact q2 c _ (.lk _ _ _ _ _ _) p3 H3 DO ⟨rc,d,e3,An.mono t3 hc,kW (An.mono t3 h1) (An.mono t3 h2) (s3 _ _ e2)⟩
   ·refine Ay (by simpa using w2) ?_;left;exact ⟨by simp,q1 (by cases a <;> first | rfl | exact absurd rfl w1 | exact absurd rfl w2) _ (A9.refl _)⟩
theorem Vs:Am ["tree","values","function"] ["tree","values"] (A6 EF):=nofun
theorem Yc {f:Addr}{fd:FuncData}(F:C8 K "own_call" "own_call" EF f fd)(mS:mg "Stuck"=some (.ref CS))(qS:W.excIn K CS bS nS=true)(FS:ExcBaseFacts Bn nS De bS):Av Pr w K mg base (FW Pr w) 1 f fd ["tree","values"] (Cp CS λe=>∃ a b,e=.cal a b):=by
 refine F.okX Vs (λvs H Q E h=>?_) (λB9 A0 outer s0 H vs Q E hr h=>?_)
 ·obtain ⟨e,rt,l,us,rfl,_⟩:=h;rfl
 ·obtain ⟨e,rt,l,us,rfl,⟨a,b,rfl⟩,he,Kz,hv,q1,q2⟩:=h;refine ⟨_,(A4 (Ah (i:=2) Vs.nd rfl (.inl rfl) (AH (r:=C3 K) AE (A7 1) A3 Br))
   (A4 (AB (Al Ao (eI 2) A8 (Ac _)) (Ab (Ag (Ae (A1 (eI 2) (A1 (D' (Bj (eI 2) (AH (r:=C3 K) AE (A7 1) A3 Br) FU) rfl rfl (by simp) ⟨⟩) A2))))) Ap)
   (A4 (AB (Al Ao (eI 2) A8 (Ac _)) (Ab (Ag (Ae (A1 (eI 2) (A1 (D' (Bj (eI 2) (A7 2) (Bj (eI 2) (AH (r:=C3 K) AE (A7 1) A3 Br) FU)) rfl rfl (by simp) ⟨⟩) A2))))) Ap)
   (Ab (F2 D0 (λ_ _ h=>h) rfl mS qS FS rfl (A1 A8 A2)))))),?_⟩
  obtain ⟨rv,_,rfl,OB,hv⟩:=Bo hv;obtain ⟨ru,_,rfl,g6,hv⟩:=Bo hv;cases DM hv;have kY:=OB;obtain ⟨pv,uv,rfl,Jq,hi⟩:=OB.its;apply Cj (AI.of Kz) (v:=.ref pv) rfl ?_;apply A5 Jq (v:=.str a.wd) (Ad (j:=0) rfl) ?_;left;by_cases w1:a.wd="fun"
  ·refine AK (decide_eq_true (by rw [w1])) ?_;obtain ⟨x,d0,rfl⟩:∃ u v,a=.fn u v:=by cases a <;> first | exact ⟨_,_,rfl⟩ | exact absurd w1 (by simp only [Ex.wd];decide)
   obtain ⟨r1,_,rfl,h1,hi⟩:=Bo hi;obtain ⟨rb,_,rfl,h2,hi⟩:=Bo hi;cases DM hi;cases h1;apply A5 Jq (v:=rb) rfl ?_;apply D2 λd H1 hd s1 e1=>?_;apply A5 (s1 _ _ Jq) (v:=.str x) rfl ?_;apply Cj (AI.of (s1 _ _ Kz)) (v:=ru) rfl ?_;apply ⟨e1,[(.inr x,ru)],rfl,Nat.le_of_ble_eq_true rfl,λH2 o2 e2=>?_⟩;have By:A9 H H2:=Ec hd s1 o2;left;intros p3 H3 s3 e3;have DO:=By.trans s3;have t3:=TSub.of_same DO;exact q2 d0 _ (.fn _ _ _) p3 H3 DO ⟨rb,d,e3,An.mono t3 h2,qC (An.mono t3 g6) (s3 _ _ e2)⟩
  ·refine Ay (by simpa using w1) ?_;apply A5 Jq (v:=.str a.wd) (Ad (j:=0) rfl) ?_;left;by_cases w2:a.wd="rec"
   ·refine AK (decide_eq_true (by rw [w2])) ?_;obtain ⟨g,x,d0,rfl⟩:∃ t u v,a=.rc t u v:=by cases a <;> first | exact ⟨_,_,_,rfl⟩ | exact absurd w2 (by simp only [Ex.wd];decide)
    obtain ⟨r0,_,rfl,h0,hi⟩:=Bo hi;obtain ⟨r1,_,rfl,h1,hi⟩:=Bo hi;obtain ⟨rb,_,rfl,h2,hi⟩:=Bo hi;cases DM hi;cases h0;cases h1;apply A5 Jq (v:=rb) rfl ?_;apply D2 λd H1 hd s1 e1=>?_;apply A5 (s1 _ _ Jq) (v:=.str g) rfl ?_;apply A5 (s1 _ _ Jq) (v:=.str x) rfl ?_;apply Cj (AI.of (s1 _ _ Kz)) (v:=ru) rfl ?_;apply ⟨e1,[(.inr g,.ref pv),(.inr x,ru)],rfl,Nat.le_of_ble_eq_true rfl,λH2 o2 e2=>?_⟩;have By:A9 H H2:=Ec hd s1 o2;left;intros p3 H3 s3 e3;have DO:=By.trans s3;have t3:=TSub.of_same DO;exact q2 d0 _ (.rc _ _ _ _) p3 H3 DO ⟨rb,d,e3,An.mono t3 h2,kW (An.mono t3 kY) (An.mono t3 g6) (s3 _ _ e2)⟩
   ·refine Ay (by simpa using w2) ?_;left;exact ⟨by simp,q1 (by cases a <;> first | rfl | exact absurd rfl w1 | exact absurd rfl w2) _ (A9.refl _)⟩
end
end K
namespace L2
open PySem PySem.Spec PyProof.Rows KS
section
variable {X:Cx}{o e:Expr}{td ty:TE}{apos B6:Pos}
variable {x:Str}{a:Addr}{rows:List (Str × Value)}{i f:Expr}{tx:TE}{p:Pos}
noncomputable def LX (rows:List (Str × Value))(ty tx:TE):TE:=fun σ H Q=>ty σ H λy H1=>tx σ H1 λz H2=>∃ (k:Str),y=.str k/\(rowAt rows k=none->Q z H2)/\∀ u,rowAt rows k=some u->∃ v,RelV v u/\Q v H2
theorem Rp (d:D7 X.w X.K a rows)(cy:(a==sysModules)=false)(hg:Gl X x)(hm:X.mg x=some (.ref a))(hi:PE X i ty)(hf:PE X f tx)(m:M2 X (.Name x p) "get" apos i f B6)(CW:(x==("__debug__":Str))=false:=by decide):PE X (.Call (.Attribute (.Name x p) "get" apos) [i,f] [] B6) (LX rows ty tx):=by
 intro pins s σ H Q I h;refine wpAny_Call_method m.base m.few m.line PySem.F.plainAttrs_dict PySem.F.slot_dict_get PySem.F.type_dict_get (AX (Gb (v:=.ref a) hg hm rfl CW pins s σ H (λy H1=>y=.ref a/\H1=H) I ⟨rfl,rfl⟩) λu s1 AO=>?_);obtain ⟨x',H1,I1,rx,e1,e2⟩:=AO;subst e1 e2;obtain rfl:u=Value.ref a:=rx;have qD:s1.heap.DictOf (AA X.prog X.w) a (rows.map λr=>(.inr r.1,r.2)):=MQ d λo ho=>I1.kIn a o ho;refine ⟨qD.typeIs,λb q=>?_,?_⟩
 ·cases q;obtain ⟨ob,_,_,h1,h2,_⟩:=qD;exact ⟨ob,h1,h2.2.1⟩
 rw [m.trees];refine Calls.callWith_builtin rfl (Calls.evalArgs_plain (Calls.spliced_cons (AX (hi pins s1 σ H1 _ I1 h) λiv s2 AO=>?_)));obtain ⟨y,H2,I2,ry,q2⟩:=AO;refine Calls.spliced_cons (AX (hf pins s2 σ H2 _ I2 q2) λfv s3 AO=>?_);obtain ⟨z,H3,I3,rz,k,ey,q3,q4⟩:=AO;refine Calls.spliced_nil ?_;subst ey;have dd:s3.heap.DictOf (AA X.prog X.w) a (rows.map λr=>(.inr r.1,r.2)):=MQ d λo ho=>I3.kIn a o ho;refine call_meetsIn PySem.F.slot_dict_get dd.typeIs PySem.F.entry_dict_get (PySem.F.args_dict_get_3 _ _ _) (meets_dict_get_default (AA X.prog X.w) a (DL (k:=.inr k) ry) cy fv) ⟨_,dd.mapOf,?_⟩;rw [Hu];cases hr:rowAt rows k with
 | none=>exact ⟨z,H3,I3.tok _,rz,q3 hr⟩
 | some u =>
  obtain ⟨v,rv,q5⟩:=q4 u hr;exact ⟨v,H3,I3.tok _,rv,q5⟩
theorem Uk (d:D7 X.w X.K a rows)(cy:(a==sysModules)=false)(hg:Gl X x)(hm:X.mg x=some (.ref a))(hi:SE X i ty)(hf:SE X f tx)(m:M2 X (.Name x p) "get" apos i f B6)(CW:(x==("__debug__":Str))=false:=by decide):SE X (.Call (.Attribute (.Name x p) "get" apos) [i,f] [] B6) (LX rows ty tx):=⟨Rp d cy hg hm hi.out hf.out m CW⟩
theorem Rq {σ:St}{H:Hp}{Q:VK}(q:ty σ H λy H1=>tx σ H1 λz H2=>∃ (k:Str),y=.str k/\(rowAt rows k=none->Q z H2)/\∀ u,rowAt rows k=some u->∃ v,RelV v u/\Q v H2):LX rows ty tx σ H Q:=q
end
end L2
namespace K
open PySem L2 KM KS KX
noncomputable def vm (K:W.Frag)(rows:List (Str × Value)):Prop:=∀ e:Ex,(e.pls=[]/\rowAt rows e.wd=none)\/∃ a,rowAt rows e.wd=some (.ref a)/\FH K a (e.pls.map λk:Nat=>V.int k)
section
variable {Pr:Program}{w:World}{K:W.Frag}{mg:Str->Option Value}{base:Heap}
noncomputable def Ul (K:W.Frag):Sp:=λvs H Q _=>∃ (e:Ex) (r:V),vs=[r]/\An H e r/\∀ a H',A9 H H'->(∀ H2,TSub H' H2->B0 K H2 a (e.pls.map λk:Nat=>V.int k))->Q (.ref a) H'
theorem kZ:Am ["tree"] ["tree"] (A6 CH):=nofun
theorem cz {f Vt:Addr}{fd:FuncData}{rows:List (Str × Value)}(F:C8 K "first_places" "first_places" CH f fd)(vn:D7 w K Vt rows)(cy:(Vt==sysModules)=false)(l9:mg "FIRST_PLACES"=some (.ref Vt))(hF:vm K rows):Av Pr w K mg base Bs 1 f fd ["tree"] (Ul K):=by
 refine F.okS kZ (λB9 A outer s H vs Q E hr h=>?_)
 ·obtain ⟨e,r,rfl,he,q⟩:=h;refine ⟨_,(Ab (Ag (Uk vn cy rfl l9 (eI 0) (Ae A2) ⟨rfl,rfl,rfl,rfl⟩))),?_⟩;obtain ⟨p,us,rfl,hp,hi⟩:=he.its;apply Rq ?_;apply A5 hp (v:=.str e.wd) (Ad (j:=0) rfl) ?_;apply CG (Cf ⟨⟩) λp0 H1 aP s1 e1=>?_;refine ⟨e.wd,rfl,λhn=>?_,λu hu=>?_⟩
  ·rcases hF e with ⟨h1,_⟩ | ⟨a,h1,_⟩
   ·refine q p0 H1 s1 ?_;rw [h1];exact λH2 t=>B0.of (t _ _ e1)
   ·rw [hn] at h1;cases h1
  ·rcases hF e with ⟨_,h1⟩ | ⟨a,h1,h2⟩
   ·rw [hu] at h1;cases h1
   ·rw [hu] at h1;cases h1;exact ⟨.ref a,rfl,q a H1 s1 λH2 _=>h2.sq H2⟩
end
section
variable {Pr:Program}{w:World}{K:W.Frag}{mg:Str->Option Value}{base:Heap}{CS:Addr}{bS:List Value}{nS De Bn:String}
noncomputable def Vu (CS:Addr):Sp:=λvs H Q E=>∃ (o:Str) (a b:Ex) (r1 r2:V),vs=[.str o,r1,r2]/\An H a r1/\An H b r2/\Ex.abl o/\(∀ i j,a=.num i->b=.num j->∀ r H',A9 H H'->An H' (Qq o i j) r->Q r H')/\((∀ i j,¬ (a=.num i/\b=.num j))->E (.ref CS) none H)
theorem lb:Am ["word","one","other"] ["word","one","other"] (A6 EE):=nofun
theorem Yd {f:Addr}{fd:FuncData}(F:C8 K "reckoned" "reckoned" EE f fd)(mS:mg "Stuck"=some (.ref CS))(qS:W.excIn K CS bS nS=true)(FS:ExcBaseFacts Bn nS De bS):Av Pr w K mg base (FW Pr w) 1 f fd ["word","one","other"] (Vu CS):=by
 refine F.okX lb (λvs H Q E h=>?_) (λB9 A0 outer s0 H vs Q E hr h=>?_)
 ·obtain ⟨o,a,b,r1,r2,rfl,_⟩:=h;rfl
 ·obtain ⟨o,a,b,r1,r2,rfl,ha,hb,io,q1,q2⟩:=h;refine ⟨_,(A4 (AB (Gj (w_or (Al GF (eI 1) A8 (Ac _)) (F0 (Al GF (eI 2) A8 (Ac _))))) (Ab (F2 D0 (λ_ _ h=>h) rfl mS qS FS rfl (A1 A8 A2))) Ap)
   (A4 (AB (Al Ao (A7 0) A8 (Ac _)) (Ab (Ag (Ae (A1 A8 (A1 (Af Ar (eI 1) (eI 2)) A2))))) Ap)
   (A4 (AB (Al Ao (A7 0) A8 (Ac _)) (Ab (Ag (Ae (A1 A8 (A1 (Af BF (eI 1) (eI 2)) A2))))) Ap)
   (A4 (AB (Al Ao (A7 0) A8 (Ac _)) (Ab (Ag (Ae (A1 A8 (A1 (C1 ET (eI 1) (eI 2) (Ac _)) A2))))) Ap)
   (Ab (Ag (Ae (A1 A8 (A1 (C1 Ao (eI 1) (eI 2) (Ac _)) A2))))))))),?_⟩
  obtain ⟨p1,ya,rfl,h1,i1⟩:=ha.its;obtain ⟨p2,Tt,rfl,h2,i2⟩:=hb.its;apply A5 h1 (v:=.str (a.wd)) (Ad (j:=0) rfl) ?_;left;by_cases c1:a.wd="number"
  ·refine Ay (by simp [c1]) ?_;apply A5 h2 (v:=.str (b.wd)) (Ad (j:=0) rfl) ?_;left;by_cases c2:b.wd="number"
   ·refine Ay (by simp [c2]) ?_;obtain ⟨i,rfl⟩:=Jj c1;obtain ⟨j,rfl⟩:=Jj c2;obtain ⟨u1,_,rfl,h0,i1⟩:=Bo i1;cases DM i1;cases h0;obtain ⟨u2,_,rfl,h0,i2⟩:=Bo i2;cases DM i2;cases h0;have fin:∀ (H':Hp) (p:Addr),A9 H H'->An H' (Qq o i j) (.ref p)->Q (.ref p) H':=λH' p s' sh=>q1 i j rfl rfl _ H' s' sh;left;rcases io with rfl | rfl | rfl | rfl
    ·refine AK (decide_eq_true rfl) ?_;apply A5 h1 (v:=.int i) rfl ?_;apply A5 h2 (v:=.int j) rfl ?_;left;intros p H1 s1 e1;exact fin H1 p s1 ⟨p,rfl,e1⟩
    ·refine Ay ⟨⟩ ?_;apply AK (decide_eq_true rfl) ?_;apply A5 h1 (v:=.int i) rfl ?_;apply A5 h2 (v:=.int j) rfl ?_;left;intros p H1 s1 e1;exact fin H1 p s1 ⟨p,rfl,e1⟩
    ·refine Ay ⟨⟩ ?_;apply Ay ⟨⟩ ?_;apply AK (decide_eq_true rfl) ?_;apply A5 h1 (v:=.int i) rfl ?_;apply A5 h2 (v:=.int j) rfl ?_;left;intros p H1 s1 e1;exact fin H1 p s1 ⟨p,rfl,e1⟩
    ·refine Ay ⟨⟩ ?_;apply Ay ⟨⟩ ?_;apply Ay ⟨⟩ ?_;apply A5 h1 (v:=.int i) rfl ?_;apply A5 h2 (v:=.int j) rfl ?_;left;intros p H1 s1 e1;have bY:H1 p=some (.tup [.str "truth",.bl (decide (i=j))]):=by
      rw [e1]
      congr 5
      simp
     exact fin H1 p s1 ⟨p,rfl,bY⟩
   ·refine AK (by simp [c2]) ?_;left;exact ⟨by simp,q2 λi j z=>c2 (by rw [z.2];rfl)⟩
  ·refine AK (by simp [c1]) (C5 ?_);left;exact ⟨by simp,q2 λi j z=>c1 (by rw [z.1];rfl)⟩
theorem cC:Am ["tree","values"] ["tree","values"] (A6 Hh):=nofun
theorem Ye {f:Addr}{fd:FuncData}(F:C8 K "own_op" "own_op" Hh f fd)(XR:fN Pr w K mg base 1 "reckoned" ["word","one","other"] (Vu CS)):Av Pr w K mg base (FW Pr w) 2 f fd ["tree","values"] (Cp CS λe=>(∃ o a b,e=.op o a b)/\e.opk):=by
 refine F.okX cC (λvs H Q E h=>?_) (λB9 A0 outer s0 H vs Q E hr h=>?_)
 ·obtain ⟨e,rt,l,us,rfl,_⟩:=h;rfl
 ·obtain ⟨e,rt,l,us,rfl,⟨⟨o,a,b,rfl⟩,ho⟩,he,Kz,hv,q1,q2⟩:=h;refine ⟨_,(Ab (Ag (Ae (A1 (V5 XR jR hr rfl (A1 (eI 0) (A1 (AH (r:=C3 K) AE (A7 1) A3 Br) (A1 (AH (r:=C3 K) AE (A7 1) A3 Br) A2)))) (A1 Lv A2))))),?_⟩;obtain ⟨p,ra,rb,rfl,hp,ha,hb⟩:=he;obtain ⟨rv,_,rfl,OB,hv⟩:=Bo hv;obtain ⟨ru,_,rfl,g6,hv⟩:=Bo hv;cases DM hv;apply A5 hp (v:=.str o) rfl ?_;apply Cj (AI.of Kz) (v:=rv) rfl ?_;apply Cj (AI.of Kz) (v:=ru) rfl ?_;apply ⟨o,a,b,rv,ru,rfl,OB,g6,ho.1,λi j h1 h2 r H1 s1 e1=>?_,λhn=>?_⟩
  ·subst h1 h2;left;intro d hd;left;intros p2 H2 s2 e2;have Ds:A9 H1 H2:=(A9.new hd).trans s2;exact q2 _ _ (.op _ _ _) p2 H2 (s1.trans Ds) ⟨r,d,e2,An.mono (TSub.of_same Ds) e1,kU (s2 _ _ Aa)⟩
  ·refine q1 ?_ H (A9.refl _);cases a with
   | num i=>cases b with
    | num j=>exact absurd ⟨rfl,rfl⟩ (hn _ _)
    | _=>rfl
   | _=>rfl
noncomputable def cH (CS:Addr):List (Str × Sp):=[("call",Cp CS λe=>∃ a b,e=.cal a b),("let",Cp CS λe=>∃ x a b,e=.lt x a b),("when",Cp CS λe=>∃ a b c,e=.wh a b c),("open",Cp CS λe=>∃ a x y b,e=.opn a x y b),("split",Cp CS λe=>∃ a b x y c,e=.spl a b x y c),("op",Cp CS λe=>(∃ o a b,e=.op o a b)/\e.opk)]
theorem lh {e:Ex}(h:Ek e)(ho:e.opk):∃ W:Ex->Prop,(e.wd,Cp CS W)∈cH CS/\W e:=by
 cases e with
 | cal a b=>exact ⟨_,List.mem_of_getElem? (i:=0) rfl,a,b,rfl⟩
 | lt x a b=>exact ⟨_,List.mem_of_getElem? (i:=1) rfl,x,a,b,rfl⟩
 | wh a b c=>exact ⟨_,List.mem_of_getElem? (i:=2) rfl,a,b,c,rfl⟩
 | opn a x y b=>exact ⟨_,List.mem_of_getElem? (i:=3) rfl,a,x,y,b,rfl⟩
 | spl a b x y c=>exact ⟨_,List.mem_of_getElem? (i:=4) rfl,a,b,x,y,c,rfl⟩
 | op o a b=>exact ⟨_,List.mem_of_getElem? (i:=5) rfl,⟨o,a,b,rfl⟩,ho⟩
 | _=>exact h.elim
theorem cJ:Am ["tree","values"] ["tree","values"] (A6 EI):=nofun
theorem Yf {f Zf:Addr}{fd:FuncData}{rows:List (Str × Value)}(F:C8 K "own_step" "own_step" EI f fd)(kd:D7 w K Zf rows)(lj:mg "RULES"=some (.ref Zf))(KR:FF Pr w K mg base (FW Pr w) 2 ["tree","values"] rows (cH CS)):Av Pr w K mg base (FW Pr w) 3 f fd ["tree","values"] (Cp CS λe=>Ek e/\e.opk):=by
 refine F.okX cJ (λvs H Q E h=>?_) (λB9 A0 outer s0 H vs Q E hr h=>?_)
 ·obtain ⟨e,rt,l,us,rfl,_⟩:=h;rfl
 ·obtain ⟨e,rt,l,us,rfl,⟨hs,ho⟩,he,Kz,hv,q1,q2⟩:=h;refine ⟨_,(Ab (Ag (TK kd KR jR hr rfl lj (eI 0) Br (A1 (A7 0) (A1 (A7 1) A2))))),?_⟩;obtain ⟨p,ut,rfl,hp,_⟩:=he.its;obtain ⟨W,hW,hw⟩:=lh (CS:=CS) hs ho;apply A5 hp (v:=.str e.wd) (Ad (j:=0) rfl) ?_;refine ⟨_,_,rfl,hW,?_⟩;left;exact ⟨e,.ref p,l,us,rfl,hw,he,Kz,hv,q1,q2⟩
end
end K
namespace L2
open PySem PySem.Spec PyProof.Rows KS KX
section
variable {X:Cx}{a:Expr}{pos:Pos}{ta:TE}
noncomputable def Rr (K:W.Frag)(ta:TE):TE:=fun σ H Q=>ta σ H λx H1=>∃ k,Sf K x H1 k/\Q (.bl (!k)) H1
theorem Um (ha:PE X a ta):PE X (.UnaryOp .Not a pos) (Rr X.K ta):=by
 intro pins s σ H Q I h;refine UnaryOp_ (AX (ha pins s σ H _ I h) λv s1 AO=>?_);obtain ⟨x,H1,I1,r1,q1⟩:=AO;exact not_of (AX (P0 pins s1 σ H1 x v (λk H2=>Q (.bl (!k)) H2) I1 r1 q1) λk s2 ⟨H2,I2,q2⟩=>⟨.bl (!k),H2,I2,rfl,q2⟩)
theorem Yg (ha:SE X a ta):SE X (.UnaryOp .Not a pos) (Rr X.K ta):=⟨Um ha.out⟩
end
noncomputable def EN (H:Hp)(t:Ex × Nat)(u:V):Prop:=∃ p r,u=.ref p/\H p=some (.tup [r,.int t.2])/\An H t.1 r
theorem EN.mono {H H':Hp}(s:TSub H H'){t:Ex × Nat}{u:V}(h:EN H t u):EN H' t u:=by
 obtain ⟨p,r,h1,h2,h3⟩:=h;exact ⟨p,r,h1,s _ _ h2,An.mono s h3⟩
end L2
namespace K
open PySem L2 KM KS KX
section
variable {Pr:Program}{w:World}{K:W.Frag}{mg:Str->Option Value}{base:Heap}{CS:Addr}
noncomputable def Vv:Sp:=λvs H Q _=>∃ (e a z:Ex) (r rz:V) (k:Nat),vs=[r,.int k,rz]/\An H e r/\An H z rz/\e.its[k - 1]?=some (.pt a)/\1<=k/\(put e k z).its=e.its.set (k - 1) (.pt z)/\(put e k z).wd=e.wd/\∀ r' H',A9 H H'->An H' (put e k z) r'->Q r' H'
theorem cK:Am ["tree","place","part"] ["tree","place","part"] (A6 E4):=nofun
theorem Yh {f:Addr}{fd:FuncData}(F:C8 K "with_part" "with_part" E4 f fd):Av Pr w K mg base Bs 1 f fd ["tree","place","part"] Vv:=by
 refine F.okS cK (λB9 A outer s H vs Q E hr h=>?_)
 ·obtain ⟨e,a,z,r,rz,k,rfl,he,hz,ha,hk,f1,f2,q⟩:=h;refine ⟨_,(Ab (Ag (Af (r:=FQ K) EV (Af (r:=FQ K) EV (BV (r:=G0 K) D9 (A7 0) DZ (BU (A7 1))) (Ae (A1 (A7 2) A2))) (BV (r:=G0 K) D9 (A7 0) (BU (Af Ar (A7 1) A3)) DZ)))),?_⟩;obtain ⟨p,us,rfl,hp,hi⟩:=he.its;have l1:=Paired.len hi;have l2:=Gs e;obtain ⟨m,rfl⟩:∃ m,k=m+1:=⟨k - 1,()⟩;rw [Nat.add_sub_cancel] at ha f1;have Cv:m < us.length:=by rw [<- l1];exact (List.getElem?_eq_some_iff.mp ha).1
  apply Ck (B0.of hp) ?_ λp3 H3 um s3 e3=>?_
  ·rintro ⟨_,z⟩;rw [HT.aal] at z;simp only [List.length_cons] at z;omega
  rw [Kq] at e3;left;intros p4 H4 s4 e4;have lt:((V.str e.wd::us).take (m+1)).length=m+1:=by
   rw [List.length_take,List.length_cons];omega
  refine F7 (B0.of (s4 _ _ e3)) (B0.of e4) (λz=>by rw [z] at lt;simp at lt) (by rw [lt];exact Cf (by simp;omega)) (λz=>by cases z) λp5 H5 L4 s5 e5=>?_;have Jc:=s3.trans (s4.trans s5);apply Ck (B0.of (Jc _ _ hp)) ?_ λp6 H6 jU s6 e6=>?_
  ·rintro ⟨z,_⟩;rw [show (((m+1:Nat):Int)+1)=((m+1+1:Nat):Int) by omega,HT.aal] at z;simp only [List.length_cons] at z;omega
  rw [show (((m+1:Nat):Int)+1)=((m+1+1:Nat):Int) by omega,Kr] at e6;have HH:=Jc.trans s6;have fin:∀ p7 H7,A9 H6 H7->H7 p7=some (.tup ((V.str e.wd::us).take (m+1)++[rz]++(V.str e.wd::us).drop (m+1+1)))->Q (.ref p7) H7:=λp7 H7 s7 e7=>by
   refine q _ H7 (HH.trans s7) ?_;rw [M' _ _ _ (by simp;omega),List.set_cons_succ] at e7;have t8:=TSub.of_same (HH.trans s7);refine An.abf (us:=us.set m rz) (by rw [f2];exact e7) ?_;rw [f1];exact Paired.set (show E9 H7 (.pt z) rz from An.mono t8 hz) m (Paired.aah hi λ_ _ z=>E9.mono t8 z)
  refine F7 (B0.of (s6 _ _ e5)) (B0.of e6) (by simp) ?_ (λz=>?_) λp7 H7 jY s7 e7=>?_
  ·refine Cf ?_;simp only [List.length_append,lt,List.length_cons,List.length_nil,List.length_drop];omega
  ·refine fin p5 H6 (A9.refl _) ?_;rw [z,List.append_nil];exact s6 _ _ e5
  ·exact fin p7 H7 s7 e7
structure vo (e:Ex)(ws:List (Ex × Nat))(c:Ex)(s:Nat):Prop where
 p:Jo e ws c
 b:Bf c s
 l:c.pls.length<=s
 v:c.isV=false
 st:Ek c
 r:stp c=red c
noncomputable def Nb:Sp:=λvs H Q _=>∃ (e:Ex) (r:V),vs=[r]/\An H e r/\e.cl []/\dep dz e<=900000/\(e.isV=true->∀ l H',A9 H H'->H l=none->H' l=some (.lst [])->Q (.ref l) H') /\
 ∀ ws b s l us H',vo e ws b s->A9 H H'->H l=none->H' l=some (.lst us)->Paired (EN H') (ws++[(b,s)]) us->Q (.ref l) H'
inductive WI (H:Hp)(e:Ex)(r:V)(lw:Addr)(m:Nat)(σ':St)(H':Hp):Prop
 | mk (us:List V) (L:List (Ex × Nat)) (pe pa ps pp:Option V):σ'=[some r,some (.ref lw),pe,pa,ps,pp]->m=wz L->A9 H H'->H' lw=some (.lst us)->Paired (EN H') L us->fS e L->WI H e r lw m σ' H'
theorem Oe:Am ["tree","way","entry","at","seen","places"] ["tree"] (A6 Dg):=nofun
theorem cQ {f aV:Addr}{fd:FuncData}(F:C8 K "way_to_step" "way_to_step" Dg f fd)(B1:mg "len"=none)(mV:mg "VALUES"=some (.ref aV))(kV:FH K aV v7)(cF:Cl Pr w K mg base 1 "first_places" ["tree"] (Ul K)):Av Pr w K mg base Bs 2 f fd ["tree"] Nb:=by
 refine F.okS Oe (λB9 A outer s H vs Q E hr h=>?_)
 ·obtain ⟨e,r,rfl,he,hc,hd,q1,q2⟩:=h;refine ⟨_,(A4 (Ah (i:=1) Oe.nd rfl (.inl rfl) (Az (A1 (Ae (A1 (A7 0) (A1 A3 A2))) A2)))
   (A4 (Mz PassesOwn.never (CZ (A7 1)) (A4 (Ah (i:=2) Oe.nd rfl (.inl rfl) (JS PySem.F.plainAttrs_list PySem.F.slot_list_pop PySem.F.type_list_pop GL (A7 1)))
   (A4 (Ah (i:=3) Oe.nd rfl (.inl rfl) (eI 2))
   (A4 (Ah (i:=4) Oe.nd rfl (.inl rfl) (eI 2))
   (A4 (Ah (i:=5) Oe.nd rfl (.inl rfl) (As cF hr rfl (A1 (A7 3) A2)))
   (Ab (AB (Al ET (A7 4) (AF AQ (by rfl) B1 PySem.boot_len (A1 (A7 5) A2)) (Ac _)) (A4 (Dx (JT PySem.F.plainAttrs_list PySem.F.slot_list_append PySem.F.type_list_append C4 (A7 1) (A1 (Ae (A1 (A7 3) (A1 (Af Ar (A7 4) A3) A2))) A2)))
   (Ab (Dx (JT PySem.F.plainAttrs_list PySem.F.slot_list_append PySem.F.type_list_append C4 (A7 1) (A1 (Ae (A1 (AH (r:=Bg K) Aw (A7 3) (AH (r:=Bg K) Aw (A7 5) (A7 4) Br) Br) (A1 A3 A2))) A2))))) (Ab (AB (Al (r:=Nt K true) EW (eI 3) (G' (v:=.ref aV) rfl mV rfl) rfl) (A4 (Dx (JT PySem.F.plainAttrs_list PySem.F.slot_list_append PySem.F.type_list_append C4 (A7 1) (A1 (A7 2) A2)))
   (Ab (Ag (A7 1)))) Ap)))))))))
   (Ab (Ag (Az A2))))),?_⟩
  left;intros p1 H1 s1 e1;apply CG (Cf (Nat.le_of_ble_eq_true rfl)) λlw H2 QI s2 e2=>?_;left;have By:=s1.trans s2;have Vm:H lw=none:=s1.free QI;refine ⟨WI H e r lw,⟨_,.mk [.ref p1] [(e,0)] none none none none rfl rfl By e2 (.cons ⟨p1,r,rfl,s2 _ _ e1,An.mono (TSub.of_same By) he⟩ .nil) (.snoc (ws:=[]) .nil λ_ _ z=>by omega)⟩,?_⟩;rintro m σ' H' ⟨us,L,pe,pa,ps,pp,rfl,rfl,sm,hl,hu,hw⟩;apply ⟨!us.isEmpty,.inl ⟨us,AI.of hl,rfl⟩,?_⟩;cases hw with
  | nil v =>
   cases DM hu;refine BG ?_;apply CG (Cf ⟨⟩) λl3 H3 RO s3 e3=>?_;exact q1 v l3 H3 (sm.trans s3) (sm.free RO) e3
  | @snoc ws b t hp hb =>
   obtain ⟨Cn,u,rfl,cR,x,rb,rfl,hx,vp⟩:∃ Cn u,us=Cn++[u]/\Paired (EN H') ws Cn/\EN H' (b,t) u:=by
    obtain ⟨c1,c2,h1,h2,h3⟩:=Paired.split hu;obtain ⟨u,_,rfl,h4,h3⟩:=Bo h3;cases DM h3;exact ⟨c1,u,h1,h2,h4⟩
   refine AK (by simp) ⟨fun σ' H'=>∃ m',m' < wz (ws++[(b,t)])/\WI H e r lw m' σ' H',fun σ' H' q=>q,?_⟩;apply ⟨.inl ⟨rfl,_,AI.of hl⟩,lw,Cn++[.ref x],.ref x,rfl,rfl,hl,by simp,?_⟩;rw [List.dropLast_concat];have t3:TSub H' (upd H' lw (.lst Cn)):=TSub.put λxs z=>(by rw [hl] at z;cases z);have O1:A9 H (upd H' lw (.lst Cn)):=A9.put sm Vm;have RO:(upd H' lw (.lst Cn)) lw=some (.lst Cn):=Aa;generalize upd H' lw (.lst Cn)=H3 at t3 O1 RO ⊢;have er:=t3 _ _ hx;have qE:=An.mono t3 vp;have vq:=Paired.aah cR λ_ _ z=>EN.mono t3 z;have eB:=hp.dep;have lu:=Paired.len cR;apply A5 er (v:=rb) rfl ?_;apply A5 er (v:=.int t) rfl ?_;apply ⟨b,rb,rfl,qE,λa4 H4 s4 h4=>?_⟩;left;have vt:=s4 _ _ er;have RS:=An.mono (TSub.of_same s4) qE;have Yi:=s4 _ _ RO;have ll:=Paired.aah vq λ_ _ z=>EN.mono (TSub.of_same s4) z;have U7:=O1.trans s4;have vv:=h4 H4 (λ_ _ z=>z);obtain ⟨pb,ub,rfl,RN,Vb⟩:=RS.its;refine ⟨a4,_,rfl,.inr vv,?_⟩;rw [List.length_map];left;by_cases Cv:t < b.pls.length
   ·refine AK (decide_eq_true ()) ?_;have lf:=Paired.len (CT b);obtain ⟨k,hk⟩:∃ k,b.pls[t]?=some k:=⟨_,List.getElem?_eq_some_iff.mpr ⟨Cv,rfl⟩⟩;obtain ⟨a,ha⟩:∃ a,(BA b)[t]?=some a:=⟨_,List.getElem?_eq_some_iff.mpr ⟨(),rfl⟩⟩;obtain ⟨hit,Xq⟩:=Eb ha hk;obtain ⟨ra,lq,lx⟩:=Paired.at1 Vb hit;have Ss:(V.str b.wd::ub)[k]?=some ra:=by
     obtain ⟨m,rfl⟩:∃ m,k=m+1:=⟨k - 1,()⟩;simpa using lq
    apply ⟨.inl ⟨rfl,_,AI.of Yi⟩,?_⟩;apply CG (Cf (Nat.le_of_ble_eq_true rfl)) λp5 H5 L4 s5 e5=>?_;refine ⟨lw,Cn,.ref p5,rfl,rfl,s5 _ _ Yi,BW (),?_⟩;have t6:TSub H5 (upd H5 lw (.lst (Cn++[.ref p5]))):=TSub.put λxs z=>(by rw [s5 _ _ Yi] at z;cases z);have XZ:A9 H (upd H5 lw (.lst (Cn++[.ref p5]))):=A9.put (U7.trans s5) Vm;have Yj:(upd H5 lw (.lst (Cn++[.ref p5]))) lw=some (.lst (Cn++[.ref p5])):=Aa;generalize upd H5 lw (.lst (Cn++[.ref p5]))=H6 at t6 XZ Yj ⊢;have g7:TSub H4 H6:=λb xs z=>t6 _ _ (s5 _ _ z);have yb:=An.mono g7 RS;apply ⟨.inl ⟨rfl,_,AI.of Yj⟩,?_⟩;apply J3 (h4 H6 g7) (v:=.int k) (Ad (by rw [List.getElem?_map,hk];rfl)) ?_;apply A5 (g7 _ _ RN) (v:=ra) (Ad Ss) ?_;apply CG (Cf (Nat.le_of_ble_eq_true rfl)) λp7 H7 jY s7 e7=>?_;refine ⟨lw,Cn++[.ref p5],.ref p7,rfl,rfl,s7 _ _ Yj,BW (by simp;omega),?_⟩;have t8:TSub H7 (upd H7 lw (.lst (Cn++[.ref p5]++[.ref p7]))):=TSub.put λxs z=>(by rw [s7 _ _ Yj] at z;cases z);have qF:A9 H (upd H7 lw (.lst (Cn++[.ref p5]++[.ref p7]))):=A9.put (XZ.trans s7) Vm;have qG:(upd H7 lw (.lst (Cn++[.ref p5]++[.ref p7]))) lw=some (.lst (Cn++[.ref p5]++[.ref p7])):=Aa;generalize upd H7 lw (.lst (Cn++[.ref p5]++[.ref p7]))=H8 at t8 qF qG ⊢;have qH:TSub H6 H8:=λb xs z=>t8 _ _ (s7 _ _ z);have lz:TSub H4 H8:=λb xs z=>qH _ _ (g7 _ _ z);refine ⟨_,?_,.mk _ (ws++[(b,t+1)]++[(a,0)]) _ _ _ _ rfl rfl qF qG (Paired.snoc (Paired.snoc (Paired.aah ll λ_ _ z=>EN.mono lz z) ⟨p5,_,rfl,qH _ _ (t6 _ _ e5),An.mono lz RS⟩) ⟨p7,ra,rfl,t8 _ _ e7,An.mono lz lx⟩) (.snoc (.snoc hp hb ha hk) λ_ _ z=>by omega)⟩;have:=U1 ha;rw [Gv,Gv,Gv];show _+rest b (t+1)+rest a 0 < _+rest b t;omega
   ·refine Ay (λz=>by have:=of_decide_eq_true z;omega) ?_;apply A5 RN (v:=.str b.wd) (Ad (j:=0) rfl) ?_;apply Es (.inr (kV.sq _)) rfl rfl ?_;left;rcases Ra hb () (λy z=>by have:=hp.cl hc;rw [z] at this;cases this) with ⟨w1,w2⟩ | ⟨w1,w2,w3,w4⟩
    ·refine Ay (by simp [w1]) ?_;refine ⟨_,?_,.mk Cn ws _ _ _ _ rfl rfl U7 Yi ll (hp.up w2)⟩;rw [Gv];show _ < _+(1+_);omega
    ·refine AK (by simp [w1]) ?_;apply ⟨.inl ⟨rfl,_,AI.of Yi⟩,?_⟩;apply ⟨lw,Cn,.ref x,rfl,rfl,Yi,BW (),?_⟩;have t6:TSub H4 (upd H4 lw (.lst (Cn++[.ref x]))):=TSub.put λxs z=>(by rw [Yi] at z;cases z);have XZ:A9 H (upd H4 lw (.lst (Cn++[.ref x]))):=A9.put U7 Vm;have Yj:(upd H4 lw (.lst (Cn++[.ref x]))) lw=some (.lst (Cn++[.ref x])):=Aa;generalize upd H4 lw (.lst (Cn++[.ref x]))=H6 at t6 XZ Yj ⊢;left;exact q2 ws b t lw _ H6 ⟨hp,hb,(),w2,w3,w4⟩ XZ Vm Yj (Paired.snoc (Paired.aah ll λ_ _ z=>EN.mono t6 z) ⟨x,_,rfl,t6 _ _ vt,An.mono t6 RS⟩)
end
end K
namespace KX
open PySem Ex L2
theorem Rt {e a:Ex}{s k:Nat}(h:(BA e)[s]?=some a)(hk:e.pls[s]?=some k)(z:Ex):(put e k z).its=e.its.set (k - 1) (.pt z)/\(put e k z).wd=e.wd:=by
 cases e <;> rcases s with _ | _ | s <;> simp [BA,pls] at h hk <;> subst hk <;> exact ⟨rfl,rfl⟩
theorem Jo.fr {r e:Ex}{ws:List (Ex × Nat)}(h:Jo r ws e):∀ {j:Nat} {p:Ex × Nat},ws[j]?=some p->∃ s k a,p.2=s+1/\p.1.pls[s]?=some k/\(BA p.1)[s]?=some a:=by
 induction h with
 | nil=>intro j p z;simp at z
 | @snoc ws e a s k _ _ h1 h2 ih =>
  intro j p z;rw [List.getElem?_append] at z;split at z
  ·exact ih z
  ·cases q:j - ws.length with
   | zero=>rw [q] at z;cases z;exact ⟨s,k,a,rfl,h2,h1⟩
   | succ n=>rw [q] at z;simp at z
theorem Og (p:Ex × Nat)(ws:List (Ex × Nat))(z:Ex):Kv (p::ws) z=put p.1 (p.1.pls.getD (p.2 - 1) 0) (Kv ws z):=rfl
end KX
namespace K
open PySem L2 KM KS KX
noncomputable def Ru:Expr->Expr
 | .Call _ es _ _=>es.getD 1 NX
 | _=>NX
section
variable {Pr:Program}{w:World}{K:W.Frag}{mg:Str->Option Value}{base:Heap}{CS:Addr}
noncomputable def Rv:Sp:=λvs H Q _=>∃ (e:Ex) (r:V),vs=[r]/\An H e r/\e.cl []/\dep dz e<=900000/\∀ H',A9 H H'->Q (.bl e.isV) H'
theorem cU:Am ["tree"] ["tree"] (A6 EJ):=nofun
theorem Yk {f:Addr}{fd:FuncData}(F:C8 K "is_value" "is_value" EJ f fd)(cY:Cl Pr w K mg base 2 "way_to_step" ["tree"] Nb):Av Pr w K mg base Bs 3 f fd ["tree"] Rv:=by
 refine F.okS cU (λB9 A outer s H vs Q E hr h=>?_)
 ·obtain ⟨e,r,rfl,he,hc,hd,q⟩:=h;refine ⟨_,(Ab (Ag (Yg (As cY hr rfl (A1 (A7 0) A2))))),?_⟩;left;unfold Rr;apply ⟨e,r,rfl,he,hc,hd,λv l H1 s1 hl e1=>?_,λws b s l us H1 W s1 hl e1 hu=>?_⟩
  ·refine ⟨false,.inl ⟨[],AI.of e1,rfl⟩,?_⟩;have:=q H1 s1;rw [v] at this;exact this
  ·refine ⟨true,.inl ⟨us,AI.of e1,?_⟩,?_⟩
   ·have:=Paired.len hu;cases us with
    | nil=>simp at this
    | cons _ _=>rfl
   ·have:=q H1 s1;rw [(W.p.stp W.v).2] at this;exact this
noncomputable def Rw (Pt CS:Addr):Sp:=λvs H Q E=>∃ (e:Ex) (r:V),vs=[r]/\An H e r/\e.cl []/\e.opk/\dep dz e<=900000/\Rb 12000000 e/\Ky Pt H/\(e.isV=true->∀ H',A9 H H'->Q .non H')/\(e.isV=false->stp e=none->∀ H',A9 H H'->E (.ref CS) none H') /\
 ∀ e' c,stp e=some (e',c)->∀ p r' H',Bt Pt H H'->Ky Pt H'->H' p=some (.tup [r',.bl c])->An H' e' r'->Q (.ref p) H'
theorem Ed:Am ["tree","way","at","went","whole","outer","seen"] ["tree"] (A6 Hj):=nofun
theorem Yl {f Pt:Addr}{fd:FuncData}(F:C8 K "step" "step" Hj f fd)(CU:mg "reversed"=none)(cY:Cl Pr w K mg base 2 "way_to_step" ["tree"] Nb)(cF:Cl Pr w K mg base 1 "first_places" ["tree"] (Ul K))(cP:Cl Pr w K mg base 7 "put_in" ["tree","told"] (Ro Pt))(cW:Cl Pr w K mg base 1 "with_part" ["tree","place","part"] Vv)
  (XS:fN Pr w K mg base 3 "own_step" ["tree","values"] (Cp CS λe=>Ek e/\e.opk)):Av Pr w K mg base (FW Pr w) 8 f fd ["tree"] (Rw Pt CS):=by
 refine F.okX Ed (λvs H Q E h=>?_) (λB9 A0 outer s0 H vs Q E hr h=>?_)
 ·obtain ⟨e,r,rfl,_⟩:=h;rfl
 ·obtain ⟨e,r,rfl,he,hc,ho,hd,hR,tab,q1,q2,q3⟩:=h;have FZ:AG 1 _:=hr.mono ⟨⟩;have HS:AG 2 _:=hr.mono ⟨⟩;have lA:AG 3 _:=hr.mono ⟨⟩;have vw:AG 7 _:=hr;have S:AZ (Wx Pr w K mg base ["tree","way","at","went","whole","outer","seen"] "step" (A6 Hj) f B9 A0 outer s0 H E) (Bv (Ru (valueOf (inDef Hj 3)))) [("at",s0.heap.objs.size+1)] ["place"] ["at"] [2] :=
   ⟨rfl,by decide +kernel,rfl,by decide +kernel,rfl,rfl,rfl,rfl⟩
  have HU:(["place","at"]:List Str).Nodup:=by decide +kernel
  refine ⟨_,(A4 (Ah (i:=1) Ed.nd rfl (.inl rfl) (As cY HS rfl (A1 (A7 0) A2)))
   (A4 (AB (EY (CZ (A7 1))) (Ab (Ag Eo)) Ap)
   (A4 (Ah (i:=2) Ed.nd rfl (.inr rfl) (AH (r:=Bg K) Aw (JS PySem.F.plainAttrs_list PySem.F.slot_list_pop PySem.F.type_list_pop GL (A7 1)) A3 Br))
   (A4 (Ah (i:=3) Ed.nd rfl (.inl rfl) (V5 XS jR lA rfl (A1 (A7 2) (A1 (ED (te:=Fj (Bg K) (B2 1) (B2 0)) S rfl (JU (As cF FZ rfl (A1 (A7 2) A2))) (λC s0 H0 ex=>AV (i:=0) HU rfl (.inl rfl)) (λ_ _ _ _=>Ep) (λC s0 H0 ex=>AH Aw (A7 1) (A7 0) Br)) A2))))
   (A4 (Ah (i:=4) Ed.nd rfl (.inl rfl) (As cP vw rfl (A1 (eI 3) (A1 (eI 3) A2))))
   (A4 (FV (NM D0) rfl (UM rfl CU (A1 (A7 1) A2)) (IA rfl (BB (AV (i:=5) Ed.nd rfl (.inl rfl)) (BB (AV (i:=6) Ed.nd rfl (.inl rfl)) Fx))) (Ab (Ah (i:=4) Ed.nd rfl (.inl rfl) (As cW FZ rfl (A1 (A7 5) (A1 (AH (r:=Bg K) Aw (As cF FZ rfl (A1 (A7 5) A2)) (Af BF (A7 6) A3) Br) (A1 (A7 4) A2)))))))
   (Ab (Ag (Ae (A1 (A7 4) (A1 (C1 Ao (eI 2) A8 (Ac _)) A2))))))))))),?_⟩
  apply ⟨e,r,rfl,he,hc,hd,λv l H1 s1 hl e1=>?_,λws b t l us H1 W s1 Xf Er hu=>?_⟩
  ·apply ⟨false,.inl ⟨[],AI.of e1,rfl⟩,?_⟩;refine C5 ?_;left;exact q1 v H1 s1
  ·obtain ⟨Cn,u,rfl,cR,x,rb,rfl,hx,hb⟩:∃ Cn u,us=Cn++[u]/\Paired (EN H1) ws Cn/\EN H1 (b,t) u:=by
    obtain ⟨c1,c2,h1,h2,h3⟩:=Paired.split hu;obtain ⟨u,_,rfl,h4,h3⟩:=Bo h3;cases DM h3;exact ⟨c1,u,h1,h2,h4⟩
   apply ⟨true,.inl ⟨_,AI.of Er,by simp⟩,?_⟩;refine BG ?_;apply ⟨.inl ⟨rfl,_,AI.of Er⟩,l,Cn++[.ref x],.ref x,rfl,rfl,Er,by simp,?_⟩;rw [List.dropLast_concat];have t2:TSub H1 (upd H1 l (.lst Cn)):=TSub.put λxs z=>(by rw [Er] at z;cases z);have s2:A9 H (upd H1 l (.lst Cn)):=A9.put s1 Xf;have DT:(upd H1 l (.lst Cn)) l=some (.lst Cn):=Aa;generalize upd H1 l (.lst Cn)=H2 at t2 s2 DT ⊢;have Mx:=An.mono t2 hb;have qI:=Paired.aah cR λ_ _ z=>EN.mono t2 z;obtain ⟨pb,ub,rfl,RN,Vb⟩:=Mx.its;apply A5 (t2 _ _ hx) (v:=.ref pb) rfl ?_;apply ⟨b,.ref pb,rfl,Mx,λa3 H3 s3 h3=>?_⟩;have yc:=U0 b;have lm:(b.pls.map λk:Nat=>V.int k).length=b.pls.length:=List.length_map ..;refine ⟨a3,rfl,⟨_,h3 H3 (TSub.of_same (A9.refl _))⟩,?_⟩;refine Hd (λi ys H'=>A9 H3 H'/\Paired (An H') ((BA b).take i) ys/\ys.length=i) ⟨A9.refl _,.nil,rfl⟩ (λi ys H' h=>h3 H' (TSub.of_same h.1)) (BW ()) (λi ys H' h=>Nat.le_of_eq h.2.2) rfl (λi y ys H' hy h=>?_) λys H4 h=>?_
   ·obtain ⟨si,pi,li⟩:=h;obtain ⟨k,hk,rfl⟩:∃ k,b.pls[i]?=some k/\y=.int k:=by
     rw [List.getElem?_map] at hy;cases hk:b.pls[i]? with
     | none=>rw [hk] at hy;cases hy
     | some k=>rw [hk] at hy;cases hy;exact ⟨k,rfl,rfl⟩
    have hi:=(List.getElem?_eq_some_iff.mp hy).1;obtain ⟨a,ha,hit,Xq⟩:=Paired.at1 (CT b) hk;obtain ⟨ra,lq,lx⟩:=Paired.at1 Vb hit;have Ss:(V.str b.wd::ub)[k]?=some ra:=by
     obtain ⟨m,rfl⟩:∃ m,k=m+1:=⟨k - 1,()⟩;simpa using lq
    refine Qm ?_;refine C5 ?_;apply A5 (si _ _ (s3 _ _ RN)) (v:=ra) (Ad Ss) ?_;refine Nx.mk hi ⟨si,?_,by simp [li]⟩;rw [List.take_succ,ha];exact Paired.app pi (.cons (An.mono (TSub.of_same (s3.trans si)) lx) .nil)
   ·obtain ⟨s4,p4,_⟩:=h;refine CG (Nat.zero_le _) λl5 H5 kL s5 e5=>?_;left;have g8:=s3.trans (s4.trans s5);have Jc:=s2.trans g8;have hlen:(b.pls.map λk:Nat=>V.int k).length=(BA b).length:=(by rw [lm,Paired.len (CT b)]);rw [hlen,List.take_length] at p4;have vx:=An.mono (TSub.of_same g8) Mx;refine ⟨b,.ref pb,l5,ys,rfl,⟨W.st,W.p.opk ho⟩,vx,e5,Paired.aah p4 λ_ _ z=>An.mono (TSub.of_same s5) z,λhn H6 s6=>?_,λb' τ ow p6 H6 s6 wn=>?_⟩
    ·have hs:=W.p.stp W.v;rw [W.r,hn] at hs;exact q2 hs.2 hs.1 H6 (Jc.trans s6)
    ·obtain ⟨re,d,h6,Za,YC⟩:=wn;have HH:=Jc.trans s6;apply A5 h6 (v:=re) rfl ?_;apply A5 h6 (v:=.ref d) rfl ?_;left;obtain ⟨tb,g9⟩:=tab.tab;have lB:Ky Pt H6:=tab.same HH;refine ⟨b',re,d,τ,rfl,Za,YC,Rb.own W.b W.l ow ⟨⟩ (W.p.rb W.v hR),lB,λr7 H7 s7 vy lC=>?_⟩;left;have lD:=HH _ _ g9;have lP:l≠Pt:=λz=>(by rw [z,g9] at Xf;cases Xf);have qJ:H7 l=some (.lst Cn):=s7 _ _ (s6 _ _ (g8 _ _ DT)) lP;have t7:TSub H2 H7:=λb xs z=>s7.sub lD _ _ (s6 _ _ (g8 _ _ z));have vz:Bt Pt H H7:=(Bt.of HH).trans s7;have vA:=Paired.aah qI λ_ _ z=>EN.mono t7 z;have lE:=t7 _ _ RN;clear kL s5 e5 s4 p4 YC Za h6 s7 qI Vb;have lu:=Paired.len cR;refine ⟨l,Cn,rfl,AI.of qJ,?_⟩;refine Mv (K:=K) (a:=l) (xs:=Cn) (λi σ H'=>∃ rw o1 o2,σ=[some r,some (.ref l),some (.ref pb),some (.ref p6),some rw,o1,o2]/\A9 H7 H'/\An H' (Kv (ws.drop (Cn.length - i)) (Ex.sub τ b')) rw) ⟨r7,none,none,rfl,A9.refl _,?_⟩ (λi σ H' _ z=>?_) (λi y σ H' hy z=>?_) fun σ H' z=>?_
     ·rw [Nat.sub_zero,<- lu,List.drop_length];exact vy
     ·obtain ⟨_,_,_,_,z,_⟩:=z;exact AI.of (z _ _ qJ)
     ·obtain ⟨Ij,o1,o2,rfl,s8,gc⟩:=z;have hi:=(List.getElem?_eq_some_iff.mp hy).1;rw [List.length_reverse] at hi;have gW:Cn[Cn.length - 1 - i]?=some y:=(by rw [<- hy,List.getElem?_reverse hi]);obtain ⟨⟨ej,sj⟩,hj,pj,rj,rfl,vB,vC⟩:=Paired.at vA gW;obtain ⟨m,k,a,hm,hk,ha⟩:=W.p.fr hj;cases hm;obtain ⟨hit,Xq⟩:=Eb ha hk;have cX:=An.mono (TSub.of_same s8) vC;refine ⟨pj,_,rfl,B0.of (s8 _ _ vB),rfl,?_⟩;refine ⟨_,_,rfl,_,_,rfl,rfl,?_⟩;apply ⟨ej,rj,rfl,cX,λa9 H9 s9 h9=>?_⟩;apply J3 (h9 H9 (TSub.of_same (A9.refl _))) (v:=.int k) (by show KY _ (((m+1:Nat):Int) - 1)=_;rw [LD];exact Ad (by rw [List.getElem?_map,hk];rfl)) ?_;left;have dr:ws.drop (Cn.length - (i+1))=(ej,m+1)::ws.drop (Cn.length - i):=by
       have h1:=(List.getElem?_eq_some_iff.mp hj);rw [show Cn.length - (i+1)=Cn.length - 1 - i by omega,List.drop_eq_getElem_cons h1.1,h1.2,show Cn.length - 1 - i+1=Cn.length - i by omega]
      refine ⟨ej,a,Kv (ws.drop (Cn.length - i)) (Ex.sub τ b'),rj,Ij,k,rfl,An.mono (TSub.of_same s9) cX,An.mono (TSub.of_same s9) gc,hit,Xq,(Rt ha hk _).1,(Rt ha hk _).2,λr' L0 Dr lF=>?_⟩;refine ⟨r',_,_,rfl,s8.trans (s9.trans Dr),?_⟩;rw [dr,Og];have:ej.pls.getD (m+1 - 1) 0=k:=(by rw [Nat.add_sub_cancel,List.getD_eq_getElem?_getD,hk];rfl);rw [this];exact lF
     ·obtain ⟨Ij,o1,o2,rfl,s8,gc⟩:=z;rw [Nat.sub_self,List.drop_zero] at gc;apply A5 (s8 _ _ lE) (v:=.str b.wd) (Ad (j:=0) rfl) ?_;left;intros p9 H9 s9 e9;have hs:=(W.p.stp W.v).1;rw [W.r,ow.red (W.p.cl hc)] at hs;rw [XU] at e9;exact q3 _ _ hs p9 Ij H9 (vz.trans (Bt.of (s8.trans s9))) (lC.same (s8.trans s9)) e9 (An.mono (TSub.of_same s9) gc)
end
structure cZ (K:W.Frag)(mg:Str->Option Value)(CK CJ CN CM CS:Addr)(bK bS:List Value)(nK nS:String):Prop where
 mK:mg "KindError"=some (.ref CK)
 mJ:mg "NoJoin"=some (.ref CJ)
 mN:mg "NoKind"=some (.ref CN)
 mM:mg "NoName"=some (.ref CM)
 mS:mg "Stuck"=some (.ref CS)
 mV:mg "ValueError"=none
 mI:mg "isinstance"=none
 zK:NP K CK bK nK
 zS:NP K CS bS nS
 sub:(Q6 K CS).contains (.ref CK)=true
 iS:W.kitOne K (.ref CS) (.ref CS)=some true
 iV:W.kitOne K (.ref CS) (.type "ValueError")=some true
 iN:W.kitAny K (.ref CS) [.ref CN,.ref CM,.ref CJ]=some false
section
variable {Pr:Program}{w:World}{K:W.Frag}{mg:Str->Option Value}{base:Heap}
noncomputable def Ym (Pt:Addr):Sp:=λvs H Q _=>∃ (e:Ex) (r:V),vs=[r]/\An H e r/\e.cl []/\e.opk/\dep dz e<=900000/\Rb 12000000 e/\Ky Pt H/\(e.isV=true->∀ H',A9 H H'->Q .non H')/\(e.isV=false->stp e=none->∀ H',A9 H H'->Q (.str "stuck") H') /\
 ∀ e' c,stp e=some (e',c)->∀ p r' H',Bt Pt H H'->Ky Pt H'->H' p=some (.tup [r',.bl c])->An H' e' r'->Q (.ref p) H'
theorem Oh:Am ["_law_tree","_law_kept","_law_found","e","_law_good"] ["_law_tree"] (A6 CO):=nofun
theorem d4 {f fJ CK CJ CN CM CS Pt:Addr}{fd qK:FuncData}{bK bS:List Value}{nK nS:String}(F:C8 K "_law_stepped" "_law_stepped" CO f fd)(Z:cZ K mg CK CJ CN CM CS bK bS nK nS)
  (G:Av Pr w K mg base (FW Pr w) 8 fJ qK ["tree"] (Rw Pt CS)) (kJ:W.keepIn K (.ref fJ)=true) (bi:Binds K qK ["tree"] []) (mJ:mg "step"=some (.ref fJ)) :
  Av Pr w K mg base Bs 9 f fd ["_law_tree"] (Ym Pt):=by
 refine F.okS Oh (λB9 A outer s H vs Q E hr h=>?_)
 ·obtain ⟨e,r,rfl,he,hc,ho,hd,hR,tab,q1,q2,q3⟩:=h;have hb:=E1;refine ⟨_,A4 (Ah (i:=1) Oh.nd rfl (.inl rfl) Eo)
   (A4 (Ah (i:=2) Oh.nd rfl (.inl rfl) Eo)
   (A4 (a8 (i:=2) (j:=3) ⟨rfl,rfl,rfl,rfl⟩ Oh.nd rfl (.inl rfl) rfl rfl rfl Z.mK Z.zK (T5 rfl G hr rfl mJ kJ bi (A1 (A7 0) A2))
    (λa=>Ab (Ah (i:=1) Oh.nd rfl (.inl rfl) (A7 3))))
   (A4 (AB (Al Sb (A7 1) Eo rfl)
    (A4 (Ah (i:=4) Oh.nd rfl (.inl rfl) (JR (AF GZ rfl Z.mI PyProof.Rows.boot_isinstance (A1 (A7 1) (A1 (G' (v:=.ref CS) rfl Z.mS rfl) A2)))
     (JQ (AF GZ rfl Z.mI PyProof.Rows.boot_isinstance (A1 (A7 1) (A1 (DY (v:=.ty "ValueError") rfl Z.mV rfl rfl) A2))))))
    (Ab (Ag (HK (Gj (w_and (Dp (A7 4)) (BH (EY (Dp (AF JY rfl Z.mI PyProof.Rows.boot_isinstance (A1 (A7 1) (A1 (Ae (A1 (G' (v:=.ref CN) rfl Z.mN rfl) (A1 (G' (v:=.ref CM) rfl Z.mM rfl) (A1 (G' (v:=.ref CJ) rfl Z.mJ rfl) A2)))) A2)))))))) A8 A8)))) Ap)
   (Ab (Ag (A7 2)))))),?_⟩
  apply ⟨_,rfl,e,r,rfl,he,hc,ho,hd,hR,tab,λv H' s'=>?_,λv st H' s'=>?_,λe' c st p r' H' s' lG hp RT=>?_⟩
  ·refine ⟨_,rfl,rfl,_,rfl,BG ?_⟩;exact ⟨_,rfl,q1 v H' s'⟩
  ·refine ⟨CS,bS,nS,rfl,Z.zS.ex,Z.sub,λx hx=>?_⟩;refine ⟨_,rfl,_,rfl,?_⟩;have sm:A9 H' (upd H' x (Fv x (.ref CS))):=A9.new hx;refine ⟨_,rfl,rfl,_,rfl,C5 ?_⟩;refine ⟨_,rfl,x,CS,bS,nS,.ref CS,.ref CS,true,rfl,rfl,Aa,Z.zS,Z.iS,_,rfl,C5 ?_⟩;refine ⟨_,rfl,x,CS,bS,nS,.ty "ValueError",.type "ValueError",true,rfl,rfl,Aa,Z.zS,Z.iV,?_⟩;refine ⟨_,rfl,_,rfl,C5 ?_⟩;refine ⟨_,rfl,by show 3<=sizeLine;omega,λp hp=>?_⟩;have vD:x≠p:=λz=>(by rw [<- z,Aa] at hp;cases hp);refine ⟨x,CS,bS,nS,p,[CN,CM,CJ],false,rfl,Aa,by rw [Aj vD,Aa],Z.zS,Z.iN,_,rfl,C5 ?_⟩;have fT:A9 H' (upd (upd H' x (Fv x (.ref CS))) p (.tup [.ref CN,.ref CM,.ref CJ])):=A9.put sm (sm.free hp);exact q2 v st _ (s'.trans fT)
  ·refine ⟨_,rfl,rfl,_,rfl,BG ?_⟩;exact ⟨_,rfl,q3 e' c st p r' H' s' lG hp RT⟩
inductive LI (H:Hp)(Pt:Addr)(a:Addr)(e0:Ex)(i:Nat)(σ':St)(H':Hp):Prop
 | mk (e:Ex) (r:V) (o2 o3 o4 o5:Option V):σ'=[some (.ref a),some r,o2,o3,o4,o5]->Bt Pt H H'->Ky Pt H'->An H' e r->Tr 29 e->dep dz e<=62+29 * i->Sn i e0 e->LI H Pt a e0 i σ' H'
theorem HB:Am ["_law_script","_law_tree","_law_k","_law_ends","_law_found","_law_due"] ["_law_script"] (A6 J8):=nofun
theorem Yn {f Pt:Addr}{fd:FuncData}(F:C8 K "law" "law" J8 f fd)(Aq:mg "isinstance"=none)(AJ:mg "tuple"=none)(Ea:mg "bool"=none)(B5:mg "range"=none)
  (cM:Cl Pr w K mg base 2 "_law_mix" HG (D6 K)) (cE:Cl Pr w K mg base 49 "_law_either" ["_law_script","_law_base","_law_deep"] (Hs K)) (cV:Cl Pr w K mg base 3 "is_value" ["tree"] Rv) (cI:Cl Pr w K mg base 266 "_law_is_value" ["_law_tree"] (Kn 265))
  (cD:Cl Pr w K mg base 9 "_law_stepped" ["_law_tree"] (Ym Pt)) (cS:Cl Pr w K mg base 297 "_law_step" ["_law_tree"] (N1 29 265)) (cA:Cl Pr w K mg base 297 "_law_alike" ["_law_one","_law_other"] (TV 296)) :
  Av Pr w K mg base Bs 298 f fd ["_law_script"] (PY K 63 [Pt]):=by
 refine F.okS HB (λB9 A outer s H vs Q E hr h=>?_)
 ·obtain ⟨a,ns,rfl,hs,hlen,g9,q⟩:=h;have HS:AG 2 _:=hr.mono ();have lA:AG 3 _:=hr.mono ();have vE:AG 9 _:=hr.mono ();have lH:AG 49 _:=hr.mono ();have d5:AG 266 _:=hr.mono ();have vF:H Pt=some (.tbl #[]):=g9 Pt (.head _);have QD:=hr.units;refine ⟨_,(A4 (Ah (i:=1) HB.nd rfl (.inl rfl) (As cE lH rfl (A1 (A7 0) (A1 A3 (A1 (Af Ar A3 (Af Au (As cM HS rfl (A1 (A7 0) (A1 A3 A2))) A3)) A2)))))
   (A4 (FV PassesOwn.never rfl (F1 rfl B5 (A1 A3 A2)) (AV (i:=2) HB.nd rfl (.inl rfl)) (A4 (Ah (i:=3) HB.nd rfl (.inl rfl) (As cV lA rfl (A1 (A7 1) A2)))
   (A4 (AB (Gj (w_or (EY (Dp (AF Cz (by rfl) Aq PyProof.Rows.boot_isinstance (A1 (A7 3) (A1 (DY (v:=.ty "bool") rfl Ea PyProof.Rows.boot_bool rfl) A2))))) (F0 (Al GF (A7 3) (As cI d5 rfl (A1 (A7 1) A2)) (Ac _))))) (Ab (Ag G4)) Ap)
   (A4 (Ah (i:=4) HB.nd rfl (.inl rfl) (As cD vE rfl (A1 (A7 1) A2)))
   (A4 (AB (Dp (A7 3)) (Ab (Ag (C1 Ld (A7 4) Eo (Ac _)))) Ap)
   (A4 (Ah (i:=5) HB.nd rfl (.inl rfl) (As cS hr rfl (A1 (A7 1) A2)))
   (A4 (AB (Al (Ao.or (MZ QD)) (A7 5) A8 (Ac _)) (Ab (Ag (C1 Ao (A7 4) A8 (Ac _)))) Ap)
   (A4 (AB (Gj (w_or (EY (Dp (AF Cz (by rfl) Aq PyProof.Rows.boot_isinstance (A1 (A7 4) (A1 (DY (v:=.ty "tuple") rfl AJ PyProof.Rows.boot_tuple rfl) A2))))) (F0 (EY (Dp (As cA hr rfl (A1 (A7 4) (A1 (A7 5) A2)))))))) (Ab (Ag G4)) Ap)
   (Ab (Ah (i:=1) HB.nd rfl (.inl rfl) (eI 4)))))))))))
   (Ab (Ag G4)))),?_⟩
  apply ⟨a,ns,_,rfl,hs,λm0 aR=>?_⟩;left;obtain ⟨d,hd,vG⟩:∃ d:Nat,1+m0 % 4=(d:Int)/\d<=4:=by
   have h1:=Int.emod_nonneg m0 (b:=4) ⟨⟩;have h2:=Int.emod_lt_of_pos m0 (b:=4) ⟨⟩;exact ⟨(1+m0 % 4).toNat,(),()⟩
  rw [hd];refine ⟨a,ns,0,d,rfl,vG,hs,λe0 r0 H1 s1 vH hb=>?_⟩;obtain ⟨yd,RI⟩:=hb.ty;have T0:Tr 29 e0:=⟨RI.cl0,Tg hb.op,_,WY hb.op⟩;have vI:=WZ (e:=e0) (ρ:=dz) (m:=0) (λ_=>Nat.le_refl _);have ye:=hb.kn;apply ⟨8,rfl,⟨⟩,⟨⟩,?_⟩;refine Fn (n:=8) (LI H Pt a e0) (.mk e0 r0 none none none none rfl (Bt.of s1) (.inl (s1 _ _ vF)) vH T0 () (.z _)) ?_ ?_
  ·rintro i σ' H' hi ⟨e,r,o2,o3,o4,o5,rfl,sx,tab,he,T,ji,sn⟩;have rb:Rb 12000000 e:=Cs.fits RI sn ();apply ⟨e,r,rfl,he,T.cl,(),λH2 s2=>?_⟩;have qL:=An.mono (TSub.of_same s2) he;apply ⟨.bl e.isV,_,_,true,rfl,Cd.bl _,rfl,?_⟩;apply BG ?_;apply ⟨e,r,rfl,qL,(),λH3 s3=>?_⟩;have lI:=An.mono (TSub.of_same s3) qL;have Fe:=s2.trans s3;apply Ay (by simp) ?_;left;have d6:=tab.same Fe;refine ⟨e,r,rfl,lI,T.cl,T.op,(),rb,d6,λv H4 s4=>?_,λv st H4 s4=>?_,λe' c st p r' H4 s4 lJ hp RT=>?_⟩
   ·apply AK v ?_;left;exact ⟨rfl,q _⟩
   ·apply Ay (by rw [v];decide) ?_;apply ⟨e,r,rfl,An.mono (TSub.of_same s4) lI,T,(),λ_ H5 s5=>?_,λe' c z=>(by rw [st] at z;cases z)⟩;apply .inl (Qk rfl ?_);apply AK (decide_eq_true rfl) ?_;left;exact q _
   ·have hv:e.isV=false:=Bool.eq_false_iff.mpr λz=>(by rw [MH z] at st;cases st);obtain ⟨tb,lL⟩:=d6.tab;have t4:=s4.sub lL;have vJ:=An.mono t4 lI;apply Ay (by rw [hv];decide) ?_;apply ⟨e,r,rfl,vJ,T,(),λz=>(by rw [st] at z;cases z),λe2 c2 RG p5 r5 H5 s5 h5 vK=>?_⟩;rw [st] at RG;cases RG;have t5:=TSub.of_same s5;have L4:=s5 _ _ hp;have lM:=An.mono t5 RT;obtain ⟨T',vL⟩:=WX T st;have hg:grow 29 c<=29:=(by cases c <;> decide);apply .inr ⟨p5,_,_,rfl,h5,rfl,?_⟩;apply Ay ⟨⟩ ?_;apply ⟨.ref p,_,_,true,rfl,Cd.tup L4,rfl,?_⟩;apply BG ?_;apply ⟨.ref p,.ref p5,rfl,?_,λH6 s6=>?_⟩
    ·exact show AL H5 (295+1) (.ref p) (.ref p5) from .inr ⟨p,p5,_,_,rfl,rfl,L4,h5,by simp,.cons (AL.of (n:=294) () lM vK) (.cons (.sc rfl) .nil)⟩
    ·apply BG ?_;apply A5 (s6 _ _ L4) (v:=r') rfl ?_;left;have Tw:=s5.trans s6;exact .mk e' r' _ _ _ _ rfl (sx.trans ((Bt.of Fe).trans (s4.trans (Bt.of Tw)))) (lJ.same Tw) (An.mono (TSub.of_same Tw) RT) T' () (sn.snoc st)
  ·rintro σ' H' _;left;exact q _
end
end K
namespace L2
open PySem PySem.Spec PyProof.Rows KS KX
noncomputable def lN:Value->Bool
 | .type s=>decide (s="tuple")
 | _=>false
noncomputable def lO (p:List Value->Bool):Data->Bool
 | .seq its _=>p its.toList
 | _=>false
noncomputable def tupP (K:W.Frag)(p:List Value->Bool):Value->Bool
 | .ref a=>(K.lookup a).any λo=>lN o.cls && lO p o.data
 | _=>false
noncomputable def all2 {α β:Type}(f:α->β->Bool):List α->List β->Bool
 | [],[]=>true
 | a::r,b::s=>f a b && all2 f r s
 | _,_=>false
noncomputable def LY (ns:List Nat)(xs:List Value):Bool:=all2 (λ(n:Nat) v=>Value.isInt n v) ns xs
noncomputable def Rx (K:W.Frag)(row:Nat × List Nat)(v:Value):Bool:=tupP K (λl=>all2 (λf x=>f x) [Value.isInt row.1,tupP K (LY row.2)] l) v
noncomputable def Vw (r:Nat × List Nat):Bool:=decide (r.2.length<=10)
noncomputable def BI (K:W.Frag)(rows:List (Str × Value))(w:Str)(prs:List (Nat × List Nat)):Bool:=(rowAt rows w).any (tupP K λxs=>all2 (λr v=>Vw r && Rx K r v) prs xs && decide (prs.length<=10))
noncomputable def Ry (K:W.Frag)(rows:List (Str × Value)):Bool :=
 BI K rows "name" [] && BI K rows "number" [] && BI K rows "truth" [] && BI K rows "empty" [] && BI K rows "fun" [(2,[1])] && BI K rows "rec" [(3,[1,2])] && BI K rows "call" [(1,[]),(2,[])] && BI K rows "let" [(2,[]),(3,[1])] && BI K rows "when" [(1,[]),(2,[]),(3,[])]
 && BI K rows "pair" [(1,[]),(2,[])] && BI K rows "open" [(1,[]),(4,[2,3])] && BI K rows "link" [(1,[]),(2,[])] && BI K rows "split" [(1,[]),(2,[]),(5,[3,4])] && BI K rows "op" [(2,[]),(3,[])]
theorem Jr {a b:Bool}(h:(a && b)=true):a=true/\b=true:=by
 cases a
 ·cases h
 ·exact ⟨rfl,h⟩
theorem Js {α:Type}{o:Option α}{p:α->Bool}(h:o.any p=true):∃ a,o=some a/\p a=true:=by
 cases o
 ·cases h
 ·exact ⟨_,rfl,h⟩
theorem Ee {K:W.Frag}{p:List Value->Bool}{v:Value}(h:tupP K p v=true):∃ a,v=.ref a/\∃ its n o,K.lookup a=some o/\o.cls=.type "tuple"/\o.data=.seq its n/\p its.toList=true:=by
 cases v with
 | ref a =>
  obtain ⟨⟨c,x,d,y⟩,h1,h2⟩:=Js h;obtain ⟨h2,h3⟩:=Jr h2;cases c with
  | type s =>
   cases d with
   | seq its n=>exact ⟨a,rfl,its,n,_,h1,congrArg _ (of_decide_eq_true h2),rfl,h3⟩
   | _=>cases h3
  | _=>cases h2
 | _=>cases h
theorem HC {K:W.Frag}{a:Addr}{its:Array Value}{n:Nat}{o:Obj}(h1:K.lookup a=some o)(h2:o.cls=.type "tuple")(h3:o.data=.seq its n){vs:List V}(r:Vals vs its.toList)(hl:vs.length<=1000):FH K a vs :=
 ⟨o,its,n,h1,h2,h3,Cf (by have:=r.length;simp at this;omega),r⟩
theorem ints_of {ns:List Nat}:∀ {xs:List Value},LY ns xs=true->Vals (ns.map λn:Nat=>V.int n) xs:=by
 induction ns with
 | nil =>
  intro xs h;cases xs
  ·exact .nil
  ·cases h
 | cons n ns ih =>
  intro xs h;cases xs with
  | nil=>cases h
  | cons x xs =>
   obtain ⟨h1,h2⟩:=Jr h;obtain ⟨t,rfl⟩:=Value.isInt_shape h1;exact .cons ⟨t,rfl⟩ (ih h2)
theorem Yo {K:W.Frag}{v:Value}{row:Nat × List Nat}(hr:row.2.length<=10)(h:Rx K row v=true):∃ b,v=.ref b/\TM K row (.ref b):=by
 obtain ⟨b,rfl,its,n,o,h1,h2,h3,h4⟩:=Ee h;generalize e:its.toList=l at h4;cases l with
 | nil=>cases h4
 | cons x l =>
  obtain ⟨h5,h6⟩:=Jr h4;cases l with
  | nil=>cases h6
  | cons y l =>
   obtain ⟨h7,h8⟩:=Jr h6;cases l with
   | cons _ _=>cases h8
   | nil =>
    obtain ⟨t,rfl⟩:=Value.isInt_shape h5;obtain ⟨c,rfl,its',n',o',k1,k2,k3,k4⟩:=Ee h7;exact ⟨b,rfl,b,c,rfl,HC h1 h2 h3 (e▸.cons ⟨t,rfl⟩ (.cons rfl .nil)) (by simp),HC k1 k2 k3 (ints_of k4) (by simp;omega)⟩
theorem Uo {K:W.Frag}{rs:List (Nat × List Nat)}:∀ {vs:List Value},all2 (λr v=>Vw r && Rx K r v) rs vs=true->∃ us,Vals us vs/\Paired (TM K) rs us:=by
 induction rs with
 | nil =>
  intro vs h;cases vs
  ·exact ⟨[],.nil,.nil⟩
  ·cases h
 | cons r rs ih =>
  intro vs h;cases vs with
  | nil=>cases h
  | cons v vs =>
   obtain ⟨h1,h2⟩:=Jr h;obtain ⟨h3,h1⟩:=Jr h1;obtain ⟨b,rfl,kb⟩:=Yo (of_decide_eq_true h3) h1;obtain ⟨us,h1,h2⟩:=ih h2;exact ⟨.ref b::us,.cons rfl h1,.cons kb h2⟩
theorem Bq {K:W.Frag}{rows:List (Str × Value)}{w:Str}{prs:List (Nat × List Nat)}(h:BI K rows w prs=true):∃ a us,rowAt rows w=some (.ref a)/\FH K a us/\Paired (TM K) prs us:=by
 obtain ⟨v,e,h⟩:=Js h;obtain ⟨a,rfl,its,n,o,h1,h2,h3,h4⟩:=Ee h;obtain ⟨h4,h5⟩:=Jr h4;obtain ⟨us,g1,g2⟩:=Uo h4;have:=Paired.len g2;have:=of_decide_eq_true h5;exact ⟨a,us,e,HC h1 h2 h3 g1 (),g2⟩
theorem Rz {K:W.Frag}{rows:List (Str × Value)}(h:Ry K rows=true):jO K rows:=by
 simp only [Ry,Bool.and_eq_true] at h;obtain ⟨⟨⟨⟨⟨⟨⟨⟨⟨⟨⟨⟨⟨h1,h2⟩,h3⟩,h4⟩,h5⟩,h6⟩,h7⟩,h8⟩,h9⟩,lQ⟩,lR⟩,lS⟩,lT⟩,lU⟩:=h;intro e;cases e
 ·exact Bq h1
 ·exact Bq h2
 ·exact Bq h3
 ·exact Bq h4
 ·exact Bq h5
 ·exact Bq h6
 ·exact Bq h7
 ·exact Bq h8
 ·exact Bq h9
 ·exact Bq lQ
 ·exact Bq lR
 ·exact Bq lS
 ·exact Bq lT
 ·exact Bq lU
noncomputable def Yp (s:Str):Value->Bool
 | .str x _=>decide (x=s)
 | _=>false
noncomputable def w7:List Str:=["number","truth","empty","fun","rec","pair","link"]
theorem Up {ss:List Str}:∀ {xs:List Value},all2 Yp ss xs=true->Vals (ss.map V.str) xs:=by
 induction ss with
 | nil =>
  intro xs h;cases xs
  ·exact .nil
  ·cases h
 | cons n ns ih =>
  intro xs h;cases xs with
  | nil=>cases h
  | cons x xs =>
   obtain ⟨h1,h2⟩:=Jr h;cases x with
   | str y t=>exact .cons ⟨t,by rw [of_decide_eq_true h1]⟩ (ih h2)
   | _=>cases h1
theorem d7 {K:W.Frag}{a:Addr}(h:tupP K (all2 Yp w7) (.ref a)=true):FH K a v7:=by
 obtain ⟨b,e,its,n,o,h1,h2,h3,h4⟩:=Ee h;cases e;exact HC h1 h2 h3 (Up h4) ⟨⟩
noncomputable def Fi (K:W.Frag)(rows:List (Str × Value))(w:Str)(ns:List Nat):Bool:=(rowAt rows w).any (tupP K λxs=>LY ns xs && decide (ns.length<=10))
noncomputable def Yq (K:W.Frag)(rows:List (Str × Value)):Bool :=
 (rowAt rows "name").isNone && (rowAt rows "number").isNone && (rowAt rows "truth").isNone && (rowAt rows "empty").isNone && (rowAt rows "fun").isNone && (rowAt rows "rec").isNone && Fi K rows "call" [1,2] && Fi K rows "let" [2] && Fi K rows "when" [1] && Fi K rows "pair" [1,2] && Fi K rows "open" [1] && Fi K rows "link" [1,2] && Fi K rows "split" [1] && Fi K rows "op" [2,3]
theorem Ef {K:W.Frag}{rows:List (Str × Value)}{w:Str}{ns:List Nat}(h:Fi K rows w ns=true):∃ a,rowAt rows w=some (.ref a)/\FH K a (ns.map λk:Nat=>V.int k):=by
 obtain ⟨v,e,h⟩:=Js h;obtain ⟨a,rfl,its,n,o,h1,h2,h3,h4⟩:=Ee h;obtain ⟨h4,h5⟩:=Jr h4;have:=of_decide_eq_true h5;exact ⟨a,e,HC h1 h2 h3 (ints_of h4) (by rw [List.length_map];omega)⟩
theorem d8 {K:W.Frag}{rows:List (Str × Value)}(h:Yq K rows=true):∀ e:Ex,(e.pls=[]/\rowAt rows e.wd=none)\/∃ a,rowAt rows e.wd=some (.ref a)/\FH K a (e.pls.map λk:Nat=>V.int k):=by
 simp only [Yq,Bool.and_eq_true,Option.isNone_iff_eq_none] at h;obtain ⟨⟨⟨⟨⟨⟨⟨⟨⟨⟨⟨⟨⟨h1,h2⟩,h3⟩,h4⟩,h5⟩,h6⟩,h7⟩,h8⟩,h9⟩,lQ⟩,lR⟩,lS⟩,lT⟩,lU⟩:=h;intro e;cases e with
 | nm _=>exact .inl ⟨rfl,h1⟩
 | num _=>exact .inl ⟨rfl,h2⟩
 | tru _=>exact .inl ⟨rfl,h3⟩
 | emp=>exact .inl ⟨rfl,h4⟩
 | fn _ _=>exact .inl ⟨rfl,h5⟩
 | rc _ _ _=>exact .inl ⟨rfl,h6⟩
 | cal _ _=>exact .inr (Ef h7)
 | lt _ _ _=>exact .inr (Ef h8)
 | wh _ _ _=>exact .inr (Ef h9)
 | pr _ _=>exact .inr (Ef lQ)
 | opn _ _ _ _=>exact .inr (Ef lR)
 | lk _ _=>exact .inr (Ef lS)
 | spl _ _ _ _ _=>exact .inr (Ef lT)
 | op _ _ _=>exact .inr (Ef lU)
end L2
namespace L2
open PySem PySem.Spec PyProof.Rows
open PySem.W (CodeHd tabObj TabsAt noTabs)
theorem Zg {l:W.OpenLaw}{n k:Nat}{q:Program}{loose:List Str}{XP:(Str->Option Value)->Heap->Prop}{YP:World->Heap->Prop}{d:DefRec}{K:Params->W.Frag}{x:Str}{ts:List Addr}
  (hn:l.most=some n) (vM:n<=sizeLine) (hZ:d.params.defaults=[]) (hr:AG k callerA)
  (hY:∀ (w:World) (h:Heap),YP w h->(K w.params).In h/\∀ P∈ts,h.get? P=some (tabObj #[]))
  (F:∀ (w:World) (mg mb:Str->Option Value) (Uq:ExcName->Option Value) (fa:Addr) (h:Heap),(K w.params).In h->(∀ P∈ts,h.get? P=some (tabObj #[]))->Top q (W.looseW q loose) Uq mg mb h->mg d.name=some (.ref fa) ->
   ∃ (fd:FuncData) (tabs:List (Addr × Addr)),noTabs (K w.params)=true/\TabsAt tabs h/\(∀ (s:Shared) (u:Value),BindsTo s fd ⟨[u],[]⟩ [(x,u)]) /\
    ∀ base:Heap,(K w.params).In base->base.Ns mainGlobals mg->(∀ q∈tabs,FT base mg q.1 q.2)->Av l.prog w (K w.params) mg base Bs k fa fd [x] (PY (K w.params) n (tabs.map (·.2)))) :
  W.WalkO q loose XP YP l.row.toRowW d [] (λf vs=>PySem.call f vs):=by
 refine o7.aa5 hn hZ λw s₀ s₁ mg mb fa o pm cd doc a vs ns G Y ho hd Gy ZI Wk hints hlen hg=>?_;obtain ⟨KX,RK⟩:=hY w _ Y;obtain ⟨fd,tabs,hK,hT,hb,hF⟩:=F w mg mb _ fa _ KX RK G.T ZI;refine NJ KX G.T.g G.T.b G.T.builtins G.T.nolimit hg G.T.bmain hT hK Wk hints (Nat.le_trans hlen vM) hr hF hb (λH iq hS=>⟨a,ns,rfl,hS,hlen,λp hp=>?_,λ_=>rfl⟩) λH e s' z=>z;obtain ⟨q,hq,e'⟩:=List.mem_map.mp hp;rw [<- e'];exact iq q hq
noncomputable def tabOf (K:W.Frag)(c:Addr):Option Addr:=match K.lookup c with
 | some ⟨_,_,.fields vs,_⟩=>match (vs[11]?:Option Value) with
  | some (.ref P)=>some P
  | _=>none
 | _=>none
noncomputable def tabIn (K:W.Frag)(ts:List Addr)(c:Addr):Bool:=match tabOf K c with
 | some P=>W.codeHdIn K c P && ts.contains P
 | none=>false
theorem RA {K:W.Frag}{ts:List Addr}{c:Addr}{h:Heap}(X:K.In h)(RK:∀ P∈ts,h.get? P=some (tabObj #[]))(e:tabIn K ts c=true):∃ P,CodeHd h c P/\h.get? P=some (tabObj #[]):=by
 unfold tabIn at e;split at e
 ·rename_i P _;rw [Bool.and_eq_true] at e;exact ⟨P,W.codeHd_of_K X e.1,RK P (List.contains_iff_mem.mp e.2)⟩
 ·cases e
end L2
end
namespace L2
open PySem PySem.Spec PyProof.Rows KS
abbrev fe (n:Str)(st:Stmt)(ps:List Str)(f:Addr)(d:FuncData):Str × Stmt × List Str × Addr × FuncData:=(n,st,ps,f,d)
noncomputable def FL (K:W.Frag):List (Str × Stmt × List Str × Addr × FuncData)->Prop
 | []=>True
 | (n,st,ps,f,d)::r=>(W.nsIn K mainGlobals n=some (some (.ref f))/\C8 K n n st f d/\∀ (kV doc pm:Value) (an:Option Addr) (B9 ct:Value) (us:List Value),us.length=ps.length->bindArgs (W.fnOf n n (Bh st) (AU st) (A6 st) .none kV doc pm an B9 ct) ⟨us,[]⟩=pure (ps.zip us))/\FL K r
noncomputable def FD (K:W.Frag)(mg:Str->Option Value):List (Str × Stmt × List Str × Addr × FuncData)->Prop
 | []=>True
 | (n,st,ps,f,d)::r=>Df K mg n st ps f d/\FD K mg r
theorem FL.get {K:W.Frag}{mg:Str->Option Value}{h:Heap}(X:K.In h)(G:h.Ns mainGlobals mg):∀ {l:List (Str × Stmt × List Str × Addr × FuncData)},FL K l->FD K mg l
 | [],_=>trivial
 | (_,_,_,_,_)::_,q=>⟨⟨q.1.2.1,q.1.2.1.binds q.1.2.2,W.mg_of X G q.1.1⟩,FL.get X G q.2⟩
noncomputable def Zh (K:W.Frag):List Str->Prop
 | []=>True
 | n::r=>W.nsIn K mainGlobals n=some none/\Zh K r
noncomputable def qM (mg:Str->Option Value):List Str->Prop
 | []=>True
 | n::r=>mg n=none/\qM mg r
theorem Zh.get {K:W.Frag}{mg:Str->Option Value}{h:Heap}(X:K.In h)(G:h.Ns mainGlobals mg):∀ {l:List Str},Zh K l->qM mg l
 | [],_=>trivial
 | _::_,q=>⟨W.mg_none_of X G q.1,Zh.get X G q.2⟩
theorem vN {R:List Value->Prop}{n:Nat}(h:(n=1/\∀ a,R [a])\/(n=2/\∀ a b,R [a,b])\/(n=3/\∀ a b c,R [a,b,c])\/(n=5/\∀ a b c d e,R [a,b,c,d,e])\/(n=7/\∀ a b c d e f g,R [a,b,c,d,e,f,g])\/(n=4/\∀ a b c d,R [a,b,c,d]))(us:List Value)(hu:us.length=n):R us:=by
 rcases h with ⟨rfl,h⟩ | ⟨rfl,h⟩ | ⟨rfl,h⟩ | ⟨rfl,h⟩ | ⟨rfl,h⟩ | ⟨rfl,h⟩
 ·rcases us with _ | ⟨a,_ | ⟨b,us⟩⟩ <;> simp at hu;exact h a
 ·rcases us with _ | ⟨a,_ | ⟨b,_ | ⟨c,us⟩⟩⟩ <;> simp at hu;exact h a b
 ·rcases us with _ | ⟨a,_ | ⟨b,_ | ⟨c,_ | ⟨d,us⟩⟩⟩⟩ <;> simp at hu;exact h a b c
 ·rcases us with _ | ⟨a,_ | ⟨b,_ | ⟨c,_ | ⟨d,_ | ⟨e,_ | ⟨f,us⟩⟩⟩⟩⟩⟩ <;> simp at hu;exact h a b c d e
 ·rcases us with _ | ⟨a,_ | ⟨b,_ | ⟨c,_ | ⟨d,_ | ⟨e,_ | ⟨f,_ | ⟨g,_ | ⟨i,us⟩⟩⟩⟩⟩⟩⟩⟩ <;> simp at hu;exact h a b c d e f g
 ·rcases us with _ | ⟨a,_ | ⟨b,_ | ⟨c,_ | ⟨d,_ | ⟨e,us⟩⟩⟩⟩⟩ <;> simp at hu;exact h a b c d
end L2
namespace K
open PySem L2 KM KS KX
theorem all_mk {l:W.OpenLaw}{q:Program}{loose:List Str}{w:World}{K:W.Frag}{h:Heap}{mg mb:Str->Option Value}{Uq:ExcName->Option Value}{fa:Addr}{ts:List Addr}(X:K.In h)(RK:∀ P∈ts,h.get? P=some (W.tabObj #[]))(T0:PyProof.Rows.Top q loose Uq mg mb h)(vO:mg "law"=some (.ref fa))
  {f0 f1 f2 f3 f4 f5 f6 f7 f8 f9 vP vQ vR vS vT vU vV vW vX vY vZ w9 wa wb wc we wg wj wo wq wu wx wy wA wB wC wD wF wG wH wI:Addr} {LZ L' Oi M0 M3 KA RB M4 Jt Ur HD M5 EO KC Ju G8 HW M6 Yr KD M7 Jv Jw M8 KH M9 KI HX KJ KL Jx Jy Ma G9 KN Ga Jz KO JA HY HE:FuncData}
  {gg:Addr} {wJ wK:Option Addr} {wL:Array (Option Value)} {wM wN wO wQ wR:Value}
  {Zi:Addr}
  {lV:Addr} {wU qN:Option Addr} {wV:Array (Option Value)} {wW qO qP qQ qR:Value}
  {lW:Value}
  {CK CJ CN CM CS U3 Zf Vt aV:Addr} {KP Oj KQ:Array DictEntry} {d9 dc de:Nat}
  (HF:FL K [fe "reckoned" EE ["word","one","other"] f0 LZ,fe "own_call" EF ["tree","values"] f1 L',fe "own_let" FA ["tree","values"] f2 Oi,fe "own_when" EG ["tree","values"] f3 M0,fe "own_open" EH ["tree","values"] f4 M3,fe "own_split" E3 ["tree","values"] f5 KA,fe "own_op" Hh ["tree","values"] f6 RB,fe "own_step" EI ["tree","values"] f7 M4,fe "all_within" X3 ["top","parts_of"] f8 Jt,fe "built" Hi ["top","parts_of","make"] f9 Ur,fe "first_places" CH ["tree"] vP HD,fe "names_at" CI ["tree","places"] vQ M5,fe "parts_with_names" B3 ["tree"] vR EO,fe "with_part" E4 ["tree","place","part"] vS KC,fe "with_parts" DD ["tree","parts"] vT Ju,fe "without_names" Bm ["told","names"] vU G8,fe "way_to_step" Dg ["tree"] vV HW,fe "is_value" EJ ["tree"] vW M6,fe "step" Hj ["tree"] vX Yr,fe "_law_cell" Qv HG vY KD,fe "_law_mix" X4 HG vZ M7,fe "_law_pairs" J7 ["_law_wide","_law_kind"] w9 Jv,fe "_law_wider" Hk ["_law_wide","_law_kind"] wa Jw,fe "_law_int" EK ["_law_number"] wb M8,fe "_law_name" E5 ["_law_number"] wc KH,fe "_law_any" CL ["_law_script","_law_k","_law_names","_law_deep"] we M9,fe "_law_form" Cg ["_law_script","_law_k","_law_names","_law_deep","_law_number"] wg KI,fe "_law_ground" Ca ["_law_script","_law_k","_law_deep"] wj HX,fe "_law_with" BM ["_law_names","_law_more"] wo KJ,fe "_law_made" BN HZ wq KL,fe "_law_built" Bw HZ wu Jx,fe "_law_taken" Cr HZ wx Jy,fe "_law_let" DE ["_law_script","_law_k","_law_goal","_law_names","_law_deep","_law_a","_law_kind"] wy Ma,fe "_law_is_value" BE ["_law_tree"] wA G9,fe "_law_give" D4 ["_law_tree","_law_name_here","_law_one"] wB KN,fe "_law_give_two" Cm ["_law_tree","_law_names","_law_values"] wC Ga,fe "_law_first" DH ["_law_tree"] wD Jz,fe "_law_step" D5 ["_law_tree"] wF KO,fe "_law_alike" Bx ["_law_one","_law_other"] wG JA,fe "_law_either" Dh ["_law_script","_law_base","_law_deep"] wH HY,fe "_law_stepped" CO ["_law_tree"] wI HE])
  (HN:Zh K ["range","dict","list","reversed","tuple","len","isinstance","int","bool","all","any","zip","max","min","ValueError"])
  (a61:W.nsIn K mainGlobals "put_in"=some (some (.ref gg)))
  (gh:K.lookup gg=some ⟨wM,wJ,.func (W.fnOf "put_in" "put_in" (Bh AY) (AU AY) (A6 AY) .none wN wO wQ wK (.ref Zi) wR),wL⟩)
  (gj:W.codeIn K (.ref Zi) "put_in"=true)
  (lX:W.keepIn K (.ref gg)=true)
  (gm:W.nsIn K mainGlobals "law"=some (some (.ref lV)))
  (lY:K.lookup lV=some ⟨wW,wU,.func (W.fnOf "law" "law" (Bh J8) (AU J8) (A6 J8) .none qO qP qQ qN lW qR),wV⟩)
  (lZ:W.codeIn K lW "law"=true)
  (m6:W.keepIn K (.ref lV)=true)
  (aK:W.nsIn K mainGlobals "KindError"=some (some (.ref CK)))
  (aJ:W.nsIn K mainGlobals "NoJoin"=some (some (.ref CJ)))
  (aN:W.nsIn K mainGlobals "NoKind"=some (some (.ref CN)))
  (aM:W.nsIn K mainGlobals "NoName"=some (some (.ref CM)))
  (aS:W.nsIn K mainGlobals "Stuck"=some (some (.ref CS)))
  (x69:W.excIn K CK [.type "ValueError",.type "Exception",.type "BaseException",.type "object"] "ValueError.__new__"=true)
  (x70:W.findIn K (.ref CK) "__class__"=some (some (.builtin "object.__class__")))
  (x71:W.findIn K (.ref CK) "__getattribute__"=some (some (.builtin "BaseException.__getattribute__")))
  (x72:W.findIn K (.ref CK) "__getattr__"=some none)
  (x73:W.excIn K CS [.type "ValueError",.type "Exception",.type "BaseException",.type "object"] "ValueError.__new__"=true)
  (x74:W.findIn K (.ref CS) "__class__"=some (some (.builtin "object.__class__")))
  (x75:W.findIn K (.ref CS) "__getattribute__"=some (some (.builtin "BaseException.__getattribute__")))
  (x76:W.findIn K (.ref CS) "__getattr__"=some none)
  (x77:(Q6 K CS).contains (.ref CK)=true)
  (x78:W.kitOne K (.ref CS) (.ref CS)=some true)
  (x79:W.kitOne K (.ref CS) (.type "ValueError")=some true)
  (x80:W.kitAny K (.ref CS) [.ref CN,.ref CM,.ref CJ]=some false)
  (m7:W.nsIn K mainGlobals "PLACES"=some (some (.ref U3)))
  (m8:K.lookup U3=some ⟨.type "dict",none,.dict KP d9,#[]⟩)
  (m9:KP.toList=KP.toList.map (Jd w))
  (ma:(KP.toList.all λe=>Ht e.key)=true)
  (mh:W.nsIn K mainGlobals "RULES"=some (some (.ref Zf)))
  (mj:K.lookup Zf=some ⟨.type "dict",none,.dict Oj dc,#[]⟩)
  (ml:Oj.toList=Oj.toList.map (Jd w))
  (mn:(Oj.toList.all λe=>Ht e.key)=true)
  (mq:W.nsIn K mainGlobals "FIRST_PLACES"=some (some (.ref Vt)))
  (mr:K.lookup Vt=some ⟨.type "dict",none,.dict KQ de,#[]⟩)
  (mv:KQ.toList=KQ.toList.map (Jd w))
  (mw:(KQ.toList.all λe=>Ht e.key)=true)
  (mx:(QP KP.toList).map (·.1)=(["name","number","truth","empty","fun","rec","call","let","when","pair","open","link","split","op"]:List Str))
  (gn:Ry K (QP KP.toList)=true)
  (my:(QP KQ.toList).map (·.1)=(["call","let","when","pair","open","link","split","op"]:List Str))
  (mz:Yq K (QP KQ.toList)=true)
  (mB:(Vt==sysModules)=false)
  (mF:QP Oj.toList=([("call",.ref f1),("let",.ref f2),("when",.ref f3),("open",.ref f4),("split",.ref f5),("op",.ref f6)]:List (Str × Value)))
  (mG:W.nsIn K mainGlobals "VALUES"=some (some (.ref aV)))
  (mH:tupP K (all2 Yp w7) (.ref aV)=true)
  (hK:W.noTabs K=true)
  (FN:tabIn K ts Zi=true) :
  ∃ (fd:FuncData) (tabs:List (Addr × Addr)),W.noTabs K=true/\W.TabsAt tabs h/\(∀ (s:Shared) (u:Value),BindsTo s fd ⟨[u],[]⟩ [("_law_script",u)]) /\
    ∀ base:Heap,K.In base->base.Ns mainGlobals mg->(∀ q∈tabs,FT base mg q.1 q.2)->Av l.prog w K mg base Bs 298 fa fd ["_law_script"] (PY K 63 (tabs.map (·.2))):=by
 have G:=T0.g;have e0:=vO.symm.trans (W.mg_of X G gm);cases e0;obtain ⟨gp,mL,mO,mQ,mT,mU,mW,gq,qT,qU,qV,qW,qX,qY,qZ,rd,rf,rh,gu,Us,df,Ol,dh,di,dj,mX,mY,mZ,dm,n8,n9,ng,nh,ni,nj,dq,du,nq,nr,dv,dA,_⟩:=FL.get X G HF;obtain ⟨RC,dB,Ut,Ys,Om,Mb,Uu,Yt,dC,dD,nt,nu,nz,nA,nB,_⟩:=Zh.get X G HN;have dE:=PK (st:=AY) gh gj lX;have nE:=W.mg_of X G a61;have nF:=dE.binds (ps:=["tree","told"]) λ_ _ _ _ _ _=>ar Br;have nG:Df K mg "put_in" AY ["tree","told"] gg _:=⟨dE,nF,nE⟩;have nH:=PK (st:=J8) lY lZ m6;have wX:=W.mg_of X G gm;obtain ⟨Eg,Oo,Oq⟩:=RA X RK FN;refine ⟨_,[(Zi,Eg)],hK,?_,λs v=>(.of_eq rfl:BindsTo s (W.fnOf "law" "law" (Bh J8) (AU J8) (A6 J8) .none qO qP qQ qN lW qR) ⟨[v],[]⟩ [("_law_script",v)]),λbase KB GB hN=>?_⟩
 ·intro q hq;simp only [List.mem_cons,List.not_mem_nil,or_false] at hq;subst hq;exact ⟨Oo,Oq⟩
 ·skip
  have nJ:FT base mg Zi Eg:=hN (Zi,Eg) (.head _);have mS:=W.mg_of X G aS;have EZ:cZ K mg CK CJ CN CM CS _ _ _ _:=⟨W.mg_of X G aK,W.mg_of X G aJ,W.mg_of X G aN,W.mg_of X G aM,mS,nB,Uu,⟨x69,rfl,rfl,x70,x71,x72⟩,⟨x73,rfl,rfl,x74,x75,x76⟩,x77,x78,x79,x80⟩;have FS:=PySem.F.excBase_ValueError;have Z9:=W.mg_of X G m7;have lj:=W.mg_of X G mh;have l9:=W.mg_of X G mq;have dF:D7 w K U3 (QP KP.toList):=⟨⟨KP,d9,m8,m9,ma,rfl⟩,by rw [mx];decide +kernel⟩;have nL:D7 w K Vt (QP KQ.toList):=⟨⟨KQ,de,mr,mv,mw,rfl⟩,by rw [my];decide +kernel⟩;have nM:D7 w K Zf _:=⟨⟨Oj,dc,mj,ml,mn,mF⟩,by simp only [List.map_cons,List.map_nil];decide +kernel⟩;have rl:Cl l.prog w K mg base 1 "first_places" ["tree"] (Ul K):=qV.cl (cz qV.F nL mB l9 (d8 mz));have XS:fN l.prog w K mg base 3 "own_step" ["tree","values"] (Cp CS λe=>Ek e/\e.opk):=⟨_,_,Yf gq.F nM lj (BO ⟨f1,_,rfl,(Yc mL.F mS x73 FS).mono ⟨⟩,mL.F.kp,mL.b⟩ (BO ⟨f2,_,rfl,(Y8 mO.F).mono ⟨⟩,mO.F.kp,mO.b⟩ (BO ⟨f3,_,rfl,(Y9 mQ.F mS x73 FS).mono ⟨⟩,mQ.F.kp,mQ.b⟩ (BO ⟨f4,_,rfl,(Ya mT.F mS x73 FS).mono ⟨⟩,mT.F.kp,mT.b⟩ (BO ⟨f5,_,rfl,(Yb mU.F mS x73 FS).mono ⟨⟩,mU.F.kp,mU.b⟩ (BO ⟨f6,_,rfl,Ye mW.F ⟨_,_,Yd gp.F mS x73 FS,gp.F.kp,gp.b,gp.m⟩,mW.F.kp,mW.b⟩ LP)))))),gq.F.kp,gq.b,gq.m⟩;have nN:Cl l.prog w K mg base 1 "names_at" ["tree","places"] (N6 K):=qW.cl (XX qW.F Om);have wY:Cl l.prog w K mg base 2 "parts_with_names" ["tree"] N7:=qX.cl (XY qX.F dF Z9 (Rz gn) nN);have cm:Cl l.prog w K mg base 1 "without_names" ["told","names"] Rn:=rd.cl (c9 rd.F dB nt);have cp:Cl l.prog w K mg base 1 "with_parts" ["tree","parts"] Ui:=qZ.cl (cf qZ.F dF Z9 (Rz gn) Ut Om nu);have wZ:Cl l.prog w K mg base 5 "all_within" ["top","parts_of"] (LW l.prog w K mg base):=qT.cl (U6 qT.F Ut Ys);have x3:Cl l.prog w K mg base 6 "built" ["top","parts_of","make"] (Hy l.prog w K mg base):=qU.cl (Y0 qU.F Ys wZ);have x4:Cl l.prog w K mg base 7 "put_in" ["tree","told"] (Ro Eg):=nG.cl (cq gh gj nJ wY cm cp x3);have rn:Cl l.prog w K mg base 2 "way_to_step" ["tree"] Nb:=rf.cl (cQ rf.F Mb (W.mg_of X G mG) (d7 mH) rl);have x5:Cl l.prog w K mg base 3 "is_value" ["tree"] Rv:=rh.cl (Yk rh.F rn);have x6:=Yl gu.F Ys rn rl x4 (qY.cl (Yh qY.F)) XS;have x8:Cl l.prog w K mg base 9 "_law_stepped" ["_law_tree"] (Ym Eg):=dA.cl (d4 dA.F EZ x6 gu.F.kp gu.b gu.m);have cM:Cl l.prog w K mg base 2 "_law_mix" HG (D6 K):=df.cl (X6 df.F (Tn Us.F Mb) Us.F.kp Us.b Us.m);have cI:Cl l.prog w K mg base 1 "_law_int" ["_law_number"] Hl:=di.cl (X7 di.F);have cN:Cl l.prog w K mg base 1 "_law_name" ["_law_number"] E6:=dj.cl (To dj.F);have cV:Cl l.prog w K mg base 1 "_law_with" ["_law_names","_law_more"] FC:=dm.cl (Ts dm.F);have cG:Cl l.prog w K mg base 5 "_law_ground" ["_law_script","_law_k","_law_deep"] (CP K 2):=IE mZ cM 2;have GP:=λn=>Ka (Pr:=l.prog) (w:=w) (base:=base) Ol.F Ol.b Ol.m RC Mb n;have cW:Cl l.prog w K mg base 11 "_law_wider" ["_law_wide","_law_kind"] (Fc 8):=dh.cl (QC (n:=8) dh.F dB dD (GP 8) Ol.F.kp Ol.b Ol.m);have x9:Cl l.prog w K mg base 48 "_law_made" HZ (Ct K 12):=Kj ⟨n8,ng,n9,nh⟩ Mb nz Yt Ut Om RC cM cN cV cI cG cW 12;have xa:=TH (Pr:=l.prog) (w:=w) (base:=base) mX mY Mb cM cI cN;have xb:Cl l.prog w K mg base 49 "_law_either" ["_law_script","_law_base","_law_deep"] (Hs K):=dv.cl (O7 dv.F cM cG xa x9);have rp:=λn=>V6 (Pr:=l.prog) (w:=w) (base:=base) ni n;have rq:=λn=>V7 (Pr:=l.prog) (w:=w) (base:=base) nj Yt Ut Om Uu Mb RC n;have xc:∀ n,Cl l.prog w K mg base (n+2) "_law_give_two" ["_law_tree","_law_names","_law_values"] (MX n):=λn=>dq.cl (bq dq.F (rq n));have xf:∀ n,Cl l.prog w K mg base (n+2) "_law_first" ["_law_tree"] (MY n):=λn=>du.cl (br du.F (rp n));have xg:=Vd (Pr:=l.prog) (w:=w) (base:=base) (k:=29) nq Yt xf rq xc 265;have cA:=Vf (Pr:=l.prog) (w:=w) (base:=base) nr Uu Om dC dD Mb nA RC 296;exact Yn nH Uu Om dC RC cM xb x5 (rp 265) x8 xg cA
end K
namespace PySem.W.Fast
def tw5217983769555221007:=0
def tw3172246675621424824:=0
def tw11737577682005144762:=0
def tw10880921486352776856:=0
def tw8892588876854111335:=0
def tw14846582694728164624:=0
def tw6112772647907446859:=0
def tw2432361492434501984:=0
def tw14156870153102510074:=0
def tw15883239589829292281:=0
def tw3221957406085714073:=0
def tw9584727427862021431:=0
def tw8872784925131646320:=0
def tw3767609905317440410:=0
def tw9962070454198889569:=0
def tw9859935086544582534:=0
def tw6128194240260630396:=0
def tw5210340401823115104:=0
def tw6176698564002020031:=0
def tw564320262392052705:=0
def tw14677510744731265613:=0
def tw6153057526914116684:=0
def tw10358755339039437865:=0
def tw4244099539847573310:=0
def tw7053435137518440488:=0
def tw8328963895028601231:=0
def tw8832584827461755874:=0
def tw15519984742260729087:=0
def tw8492996231346159812:=0
def tw6970728324476655301:=0
def tw444325923078905619:=0
def tw1782152446648933036:=0
def tw7600869111767064101:=0
def tw186979424606527442:=0
def tw7173741461255570393:=0
def tw14094377908677751021:=0
def tw11647244726821881549:=0
def tw10064841621081559424:=0
def tw9164515287749827170:=0
def tw5501668005220309031:=0
def tw7558920183840691196:=0
def tw3604955849750790894:=0
def tw3947376769484996609:=0
def tw2569200962447612546:=0
def tw17829633759213451636:=0
def tw10986704498990569723:=0
def tw14923444047590399859:=0
def tw17867900208059822615:=0
def tw9119180318743796502:=0
def tw758581561678019384:=0
def tw17148506903276569087:=0
def tw10726721039650937613:=0
def tw11122972451136427078:=0
def tw5890165209403368665:=0
def tw15302219640489352966:=0
def tw9746383662827186393:=0
def tw10799184155374419409:=0
def tw10140306402579400312:=0
def tw12660967053973793644:=0
def tw14684701823071329563:=0
def tw4862264947533381336:=0
def tw10647678573973020955:=0
def tw3641037104125474611:=0
def tw10819044340131059544:=0
def tw13970660811097411976:=0
def tw8273284377584844137:=0
def tw11947638029127437320:=0
def tw2215090745279573766:=0
def tw18288096732206862736:=0
def tw16817374513673351685:=0
def tw8246348947271783454:=0
def tw587695231433320581:=0
def tw4925696957796444484:=0
def tw4001325419697166065:=0
def tw2008273272874871492:=0
def tw14459226953418460308:=0
def tw8441306481576874440:=0
def tw5699928317626631300:=0
def tw4572279581370333607:=0
def tw5020241530603899073:=0
def tw1494885131302598655:=0
def tw8359607209511624227:=0
def tw55741026186305908:=0
def tw1889355020437752383:=0
def tw10833021959547947267:=0
def tw183215381273589668:=0
def tw13936006054335385387:=0
def tw11713525979945240521:=0
def tw10433665300610644592:=0
def tw6274066862244104228:=0
def tw4775254849763722444:=0
def tw16558562743235751584:=0
def tw65998383564588052:=0
def tw3092374997924111844:=0
def tw7848996235836521179:=0
def tw13561674700085578528:=0
def tw5979933963898161756:=0
def tw4108689293094442420:=0
def tw3384383599148864157:=0
def tw14280082443600515958:=0
def tw9248487629292716290:=0
def tw471026156296984816:=0
def tw9512851830498880567:=0
def tw3661789622943102552:=0
def tw8561650545630724180:=0
def tw12089647122768891409:=0
def tw2049643457774213855:=0
def tw16868897808454920505:=0
def tw15913684876225223915:=0
def tw14450839821613657050:=0
def tw11859353465805818898:=0
def tw11088454282102241437:=0
def tw10073014073697190432:=0
def tw6340316590424370430:=0
def tw1895788918113930164:=0
def tw12296938120043906148:=0
def tw8594876648202107180:=0
def tw12752268958502583462:=0
def tw13314152249144887626:=0
def tw17662144920566428644:=0
def tw14192677564408447742:=0
def tw15201088264378558539:=0
def tw13545645800534191049:=0
def tw7432470703677851500:=0
def tw1539070151827337096:=0
def tw15685878077210588654:=0
def tw9791913290212342875:=0
def tw17868308249643048886:=0
def tw3228620718565165586:=0
def tw10273893551698213381:=0
def tw10449752384178934666:=0
def tw6427004566996732448:=0
def tw11948024547307103350:=0
def tw14706497205921265163:=0
def tw18330911892503604551:=0
def tw5682265308742321476:=0
def tw12611474773864019379:=0
def tw17202804751585115577:=0
def tw16603296777043527545:=0
def tw6338135375891040904:=0
def tw8651898673578950104:=0
def tw10336579958625408445:=0
def tw1548329939270735779:=0
def tw3228242132277337103:=0
def tw10030642784044522561:=0
def tw8177457128988954226:=0
def tw18269851976321094244:=0
def tw17349090235063165767:=0
def tw18422524737391578473:=0
def tw712578982983707877:=0
def tw8261400759281099146:=0
def tw15917152930189703346:=0
def tw7357287717354628246:=0
def tw5828901442619804571:=0
def tw4718657306764806687:=0
def tw857287176277353751:=0
def tw13365440407257764324:=0
def tw17408490743372495668:=0
def tw9005373587976926539:=0
def tw91961665188316797:=0
def tw11618940568499770377:=0
def tw5820884794352070353:=0
def tw6946198640317741085:=0
def tw10893983620310000468:=0
def tw2944198218074744359:=0
def tw8197801584918782233:=0
def tw12658597825608576248:=0
def tw5026124457342155981:=0
def tw1394418125585890513:=0
def tw16795387119022215044:=0
def tw15677989212238719724:=0
def tw16856784467267490789:=0
def tw16688286007078159878:=0
def tw10320883753281018075:=0
def tw12359171556050466257:=0
def tw9855647304792017603:=0
def tw16143311930289035251:=0
def tw5755533306246711743:=0
def tw341868920457742202:=0
def tw7903597199609372399:=0
def tw17234425104844851892:=0
def tw6243299022586920667:=0
def tw12312807304527489800:=0
def tw14893796011765811252:=0
def tw4390857844914012180:=0
def tw2344108386685639102:=0
def tw13080132817395891681:=0
def tw7017976825122353637:=0
def tw311356143520745110:=0
def tw8823845824993660615:=0
def tw11859650160422926656:=0
def tw435955288682987964:=0
def tw11530964391301766049:=0
def tw4988218007561584819:=0
def tw16794571796175897632:=0
def tw16514400579721934788:=0
def tw13255529735963303065:=0
def tw9340932893307755542:=0
def tw6202396525529369193:=0
def tw15692374231059824882:=0
def tw14998061993725538251:=0
def tw18017414280898981976:=0
def tw14450727089187372931:=0
def tw6647774808642835226:=0
def tw14301850183073880383:=0
def tw3121668970556514139:=0
def tw10303982410901049456:=0
def tw13184450442449724928:=0
def tw8002354277383496595:=0
def tw12978310166121207267:=0
def tw2078065502493602897:=0
def tw7072274746446065088:=0
def tw4646306664623003173:=0
def tw8503235535799830729:=0
def tw17718370699350344076:=0
def tw15356708454306395234:=0
def tw1474504163569703668:=0
def tw4630359455692071518:=0
def tw624479182920161637:=0
def tw5126241821266401116:=0
def tw16537412493904007914:=0
def tw18281560128548987547:=0
def tw18224608754667360894:=0
def tw11632137167034215356:=0
def tw6607481897742652842:=0
def tw6221804098970440858:=0
def tw16570328383701687411:=0
def tw6494122660108677690:=0
def tw1291127735407271929:=0
def tw12415783511719783168:=0
def tw3460829868747508593:=0
def tw8091232737410894626:=0
def tw6328962306273370175:=0
def tw15891433779223207824:=0
def tw10966297813511488967:=0
def tw5280393629805189342:=0
def tw93634996483750751:=0
def tw258850671685746856:=0
def tw1331584490353933529:=0
def tw205889401293149039:=0
def tw8507613658404406271:=0
def tw10723200907544257725:=0
def tw6910760002023205719:=0
def tw1952785981528559049:=0
def tw16865433390507727052:=0
def tw589087110205340389:=0
def tw7614306354527527109:=0
def tw6065955306643392061:=0
def tw12008129313951090633:=0
def tw6118636392426536982:=0
def tw4370182229461958008:=0
def tw10377433506837496533:=0
def tw3701168009422470950:=0
def tw3061483095603626140:=0
def tw1914088738112939545:=0
def tw10816036561424711122:=0
def tw827419735324784921:=0
end PySem.W.Fast
open PySem PySem.W PyProof.Rows
set_option maxRecDepth 100000 in
set_option maxHeartbeats 0 in
theorem PySem.Challenge.cw_kindspan_k30_steps_holds : PySem.Challenge.rw_kindspan_k30_steps.Holds := by
 w_on;o_law;k_head;(case hw=>w_witness2)
 k_fill
 refine L2.Zg (l:=PySem.Challenge.rw_kindspan_k30_steps) (n:=63) (k:=298) (x:="_law_script") rfl (by decide) rfl ⟨rfl,by decide,by decide⟩ (fun w h Y=>⟨PySem.W.km_in_of Y,PySem.W.km_tabs_of Y⟩) ?F
 case F =>
  intro w mg mb Uq fa h KX RK T ZI
  refine' K.all_mk KX RK T ZI ?HFz_ ?HNz_ ?a61z_ ?ghz_ ?gjz_ ?lXz_ ?gmz_ ?lYz_ ?lZz_ ?m6z_ ?aKz_ ?aJz_ ?aNz_ ?aMz_ ?aSz_ ?x69z_ ?x70z_ ?x71z_ ?x72z_ ?x73z_ ?x74z_ ?x75z_ ?x76z_ ?x77z_ ?x78z_ ?x79z_ ?x80z_ ?m7z_ ?m8z_ ?m9z_ ?maz_ ?mhz_ ?mjz_ ?mlz_ ?mnz_ ?mqz_ ?mrz_ ?mvz_ ?mwz_ ?mxz_ ?gnz_ ?myz_ ?mzz_ ?mBz_ ?mFz_ ?mGz_ ?mHz_ ?hKz_ ?FNz_
  case HFz_=>
   iterate 41 (show _/\_;refine ⟨⟨by k_is,⟨⟨_,_,_,_,_,_,_,_,_,rfl,by k_is,by k_is⟩,by k_is⟩,fun _ _ _ _ _ _=>L2.vN (by first | exact .inl ⟨rfl,fun _=>rfl⟩ | exact .inr (.inl ⟨rfl,fun _ _=>rfl⟩) | exact .inr (.inr (.inl ⟨rfl,fun _ _ _=>rfl⟩)) | exact .inr (.inr (.inr (.inl ⟨rfl,fun _ _ _ _ _=>rfl⟩))) | exact .inr (.inr (.inr (.inr (.inl ⟨rfl,fun _ _ _ _ _ _ _=>rfl⟩)))) | exact .inr (.inr (.inr (.inr (.inr ⟨rfl,fun _ _ _ _=>rfl⟩)))))⟩,?_⟩)
   trivial
  case HNz_=>
   iterate 15 (show _/\_;refine ⟨by k_is,?_⟩)
   trivial
  (case a61z_|ghz_|gjz_|lXz_|gmz_|lYz_|lZz_|m6z_|aKz_|aJz_|aNz_|aMz_|aSz_=>k_is)
  (case x69z_=>first | k_is | kernel_rfl)
  (case x70z_=>first | k_is | kernel_rfl)
  (case x71z_=>first | k_is | kernel_rfl)
  (case x72z_=>first | k_is | kernel_rfl)
  (case x73z_=>first | k_is | kernel_rfl)
  (case x74z_=>first | k_is | kernel_rfl)
  (case x75z_=>first | k_is | kernel_rfl)
  (case x76z_=>first | k_is | kernel_rfl)
  (case x77z_=>first | k_is | kernel_rfl)
  (case x78z_=>first | k_is | kernel_rfl)
  (case x79z_=>first | k_is | kernel_rfl)
  (case x80z_=>first | k_is | kernel_rfl)
  (case m7z_|m8z_=>k_is)
  (case m9z_=>rfl)
  (case maz_=>rfl)
  (case mhz_|mjz_=>k_is)
  (case mlz_=>rfl)
  (case mnz_=>rfl)
  (case mqz_|mrz_=>k_is)
  (case mvz_=>rfl)
  (case mwz_=>rfl)
  (case mxz_=>rfl)
  (case gnz_=>first | rfl | kernel_rfl)
  (case myz_=>rfl)
  (case mzz_=>first | rfl | kernel_rfl)
  (case mBz_=>rfl)
  (case mFz_=>rfl)
  (case mGz_=>k_is)
  (case mHz_=>first | rfl | kernel_rfl)
  (case hKz_=>kernel_rfl)
  (case FNz_=>kernel_rfl)

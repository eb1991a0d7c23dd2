import PyProof.Rows.All
import Wide.All
import OpenK.AllK
import Wide.FinOn
import Lean
import PyProof.EqAt
import PyProof.EqKinds
import PyProof.TupleCall
import PyProof.ListNew
import PyProof.WalksMore
import PyProof.ListRange
import PyProof.RaisesMany
import PyProof.RulesTry
import PyProof.PassesOwn
import OpenK.KOwn
import PyProof.RulesAs
import PyProof.RulesDel
import PyProof.ExcArgsOwn
import PyProof.IsiBase
import KE.KIsAll
import KE.KDictOf
import PyProof.AttrMiss
import KE.KDictLaws
import PyProof.DictWalks
import PyProof.ZipIter
import PyProof.TupleIter
import KE.KPairComp
import PyProof.MinMaxWalk
import PyProof.ExcInit
import PyProof.InstStore
import PyProof.InstStoreFacts
import PyProof.NeKinds
import KE.KNestM
import PySem.Challenge.RW_kindspan_k23_no_names
set_option Elab.async false
set_option linter.all false
set_option maxRecDepth 100000
set_option maxHeartbeats 16000000
set_option compiler.extract_closed false
noncomputable section
local macro_rules | `(term| nofun)=>`(term| ⟨rfl,rfl,rfl,by decide +kernel,rfl,by decide +kernel,by decide +kernel⟩)
local macro_rules | `(term| ())=>`(term| (by omega))
local macro_rules | `(term| ⟨⟩)=>`(term| (by decide))
theorem D1 {α:Sort _}{β:α->Sort _}{γ:∀ a,β a->Sort _}{x:∀ a b,γ a b}:∀ a b,x a b=x a b:=λ_ _=>rfl
abbrev ME:List PySem.Str:=["_law_script","_law_k"]
namespace L2
open PySem PySem.Spec PyProof.Rows
abbrev Key:=Sum Int Str
noncomputable def Gh:Key->Value->Bool
 | .inl k,v=>Value.isInt k v
 | .inr x,v=>Value.isStrOf x v
noncomputable def lV (w:World):Key->Int
 | .inl k=>hashInt k
 | .inr x=>hashStr w x
theorem Bb:∀ {k:Key} {v:Value},Gh k v=true->(∃ i t,k=Sum.inl i/\v=Value.int i t)\/(∃ x t,k=Sum.inr x/\v=Value.str x t)
 | .inl i,v,h=>by
  obtain ⟨t,e⟩:=Value.isInt_shape (k:=i) (v:=v) h;exact .inl ⟨i,t,rfl,e⟩
 | .inr x,v,h=>by
  obtain ⟨t,e⟩:=Value.isStrOf_shape (x:=x) (v:=v) h;exact .inr ⟨x,t,rfl,e⟩
theorem MG (i:Int)(t:Tok):Gh (.inl i) (.int i t)=true:=by simp [Gh,Value.isInt]
theorem MH (x:Str)(t:Tok):Gh (.inr x) (.str x t)=true:=by simp [Gh,Value.isStrOf]
theorem VF (a b:Int):decide ((Sum.inl a:Key)=Sum.inl b)=(a==b):=by
 by_cases e:a=b
 ·subst e;simp
 ·have h:¬ (Sum.inl a:Key)=Sum.inl b:=λq=>e (Sum.inl.inj q);rw [decide_eq_false h];exact (beq_eq_false_iff_ne.mpr e).symm
theorem Kf (a b:Str):decide ((Sum.inr a:Key)=Sum.inr b)=decide (a=b):=by
 by_cases e:a=b
 ·subst e;simp
 ·have h:¬ (Sum.inr a:Key)=Sum.inr b:=λq=>e (Sum.inr.inj q);rw [decide_eq_false h,decide_eq_false e]
theorem VG (a:Int)(b:Str):decide ((Sum.inl a:Key)=Sum.inr b)=false:=decide_eq_false (λq=>nomatch q)
theorem VH (a:Str)(b:Int):decide ((Sum.inr a:Key)=Sum.inl b)=false:=decide_eq_false (λq=>nomatch q)
noncomputable def AS (prog:Program)(w:World):PySem.KeyKind prog w Key where
 is:=Gh
 hash:=lV w
 inj:=λv a b ha hb=>by
  rcases Bb ha with ⟨i,t,rfl,rfl⟩ | ⟨x,t,rfl,rfl⟩
  ·rcases Bb hb with ⟨j,u,rfl,e⟩ | ⟨y,u,rfl,e⟩
   ·injection e with e1 _;rw [e1]
   ·exact nomatch e
  ·rcases Bb hb with ⟨j,u,rfl,e⟩ | ⟨y,u,rfl,e⟩
   ·exact nomatch e
   ·injection e with e1 _;rw [e1]
 byValue:=λk v h=>by
  rcases Bb h with ⟨i,t,rfl,rfl⟩ | ⟨x,t,rfl,rfl⟩ <;> rfl
 pyHash:=λhv h=>by
  rcases Bb hv with ⟨i,t,rfl,rfl⟩ | ⟨x,t,rfl,rfl⟩
  ·exact wpAny_pyHash_int h
  ·exact wpAny_pyHash_str h
 eqBool:=λhu hv h=>by
  rcases Bb hu with ⟨i,t,rfl,rfl⟩ | ⟨x,t,rfl,rfl⟩
  ·rcases Bb hv with ⟨j,u,rfl,rfl⟩ | ⟨y,u,rfl,rfl⟩
   ·rw [VF] at h;exact wpAny_eqBool_int h
   ·rw [VG] at h;exact SeqAt.EqAt.int_str i t y u _ _ _ _ h
  ·rcases Bb hv with ⟨j,u,rfl,rfl⟩ | ⟨y,u,rfl,rfl⟩
   ·rw [VH] at h;exact SeqAt.EqAt.str_int x t j u _ _ _ _ h
   ·rw [Kf] at h;exact wpAny_eqBool_str h
 «strs»:=λk x t v h=>by
  rcases Bb h with ⟨i,u,rfl,e⟩ | ⟨y,u,rfl,e⟩
  ·exact nomatch e
  ·injection e with e1 _;subst e1;cases v <;> rfl
theorem J9 (prog:Program)(w:World)(i:Int)(t:Tok):(AS prog w).is (.inl i) (.int i t)=true:=MG i t
theorem E7 (prog:Program)(w:World)(x:Str)(t:Tok):(AS prog w).is (.inr x) (.str x t)=true:=MH x t
inductive V where
 | non | bl (b:Bool) | int (i:Int) | str (x:Str) | byt (b:Array UInt8) | flt (b:UInt64) | ref (a:Addr) | ty (n:String)
 deriving DecidableEq
noncomputable def RelV:V->Value->Prop
 | .non,u=>u=Value.none
 | .bl b,u=>u=Value.bool b
 | .int i,u=>∃ t,u=Value.int i t
 | .str x,u=>∃ t,u=Value.str x t
 | .byt b,u=>∃ t,u=Value.bytes b t
 | .flt b,u=>∃ t,u=Value.float b t
 | .ref a,u=>u=Value.ref a
 | .ty n,u=>u=Value.type n
abbrev Vals:List V->List Value->Prop:=Paired RelV
theorem Vals.length {xs:List V}{us:List Value}(r:Vals xs us):xs.length=us.length:=Paired.length r
theorem Vals.get:∀ {xs:List V} {us:List Value} {i:Nat} {x:V},Vals xs us->xs[i]?=some x->∃ u,us[i]?=some u/\RelV x u
 | _,_,_,_,.nil,e=>by simp at e
 | _,_,0,_,.cons r _,e=>by simp at e;subst e;exact ⟨_,rfl,r⟩
 | _,_,i+1,x,.cons _ t,e=>by
  obtain ⟨u,h1,h2⟩:=Vals.get (i:=i) (x:=x) t (by simpa using e);exact ⟨u,by simpa using h1,h2⟩
theorem Vals.set {x:V}{u:Value}(r:RelV x u):∀ {xs:List V} {us:List Value} (i:Nat),Vals xs us->Vals (xs.set i x) (us.set i u)
 | _,_,_,.nil=>.nil
 | _,_,0,.cons _ t=>.cons r t
 | _,_,i+1,.cons q t=>.cons q (Vals.set r i t)
theorem Vals.append:∀ {xs ys:List V} {us ws:List Value},Vals xs us->Vals ys ws->Vals (xs++ys) (us++ws):=by
 intro xs ys us ws h s
 induction h with
 | nil=>exact s
 | cons r _ ih=>exact .cons r ih
theorem Vals.take:∀ {xs:List V} {us:List Value} (n:Nat),Vals xs us->Vals (xs.take n) (us.take n)
 | _,_,0,_=>.nil
 | _,_,_+1,.nil=>.nil
 | _,_,n+1,.cons r t=>.cons r (Vals.take n t)
theorem Vals.drop:∀ {xs:List V} {us:List Value} (n:Nat),Vals xs us->Vals (xs.drop n) (us.drop n)
 | _,_,0,r=>r
 | _,_,_+1,.nil=>.nil
 | _,_,n+1,.cons _ t=>Vals.drop n t
noncomputable def DJ:Option V->Option Value->Prop
 | some v,some u=>RelV v u
 | none,none=>True
 | _,_=>False
noncomputable def KV {κ:Type}:List (κ × V)->List (κ × Value)->Prop:=Paired λ(p:κ × V) (q:κ × Value)=>p.1=q.1/\RelV p.2 q.2
noncomputable def kV:Key->V
 | .inl i=>.int i
 | .inr x=>.str x
inductive HO where
 /-- a list -/
 | lst (xs:List V)
 /-- a tuple (never changes) -/
 | tup (xs:List V)
 /-- a dict whose keys are ints and texts;one whose keys are tuples of ints and texts (the empty one is both) -/
 | dK (kvs:List (Key × V)) | dT (kvs:List (List Key × V))
 /-- a set of ints: its members,its size -/
 | set (S:Int->Bool) (n:Nat)
 /-- an instance of the class at C,its dict at dx,its attributes -/
 | ins (C dx:Addr) (fs:List (Str × V))
 /-- the dict of the instance at x -/
 | own (x:Addr)
 /-- the dict of an exception -/
 | xd (fs:List (Str × V))
 /-- a bound method,f of x -/
 | met (f x:Addr)
 /-- a range object lo,lo+1,.. below hi -/
 | rng (lo hi:Int)
 /-- a cx that is known to the object (the lX;a dict while a loop walks it): read,never written while it is so -/
 | frz (o:Obj) (u:HO)
 /-- a code cy table -/
 | tbl (ps:Array Value)
 /-- any other cx,by what is true of its one object (a def of wc own: ze a S n:=HO.ext λh=>..) -/
 | ext (φ:Heap->Prop)
abbrev Hp:=Addr->Option HO
noncomputable def upd (H:Hp)(a:Addr)(o:HO):Hp:=λb=>if b=a then some o else H b
theorem Ad {H:Hp}{a:Addr}{o:HO}:upd H a o a=some o:=by unfold upd;rw [if_pos rfl]
theorem Ac {H:Hp}{a b:Addr}{o:HO}(h:b≠a):upd H a o b=H b:=by unfold upd;rw [if_neg h]
theorem Rr {H:Hp}{a:Addr}{o u:HO}:upd (upd H a o) a u=upd H a u:=by
 funext b;unfold upd;split <;> rfl
theorem AL {H:Hp}{a b:Addr}{o u:HO}(h:H a=some o)(h':H b=some u)(d:o≠u):a≠b:=by
 intro e;subst e;rw [h] at h';exact d (Option.some.inj h')
theorem Ab {H:Hp}{a b:Addr}{o:HO}(h:H a=some o)(h':H b=none):a≠b:=by
 intro e;subst e;rw [h] at h';cases h'
section
variable (P:Program)(w:World)
noncomputable def AN (H:Hp)(h:Heap)(a:Addr):HO->Prop
 | .lst xs=>xs.length<=sizeLine/\∃ (its:List Value) (n:Nat),Vals xs its/\h.get? a=some { cls:=.type "list",data:=.seq its.toArray n }
 | .tup xs=>xs.length<=sizeLine/\∃ its:List Value,Vals xs its/\IsTup h a its.toArray
 | .dK kvs=>kvs.length<=sizeLine/\(a==sysModules)=false/\∃ vs,KV kvs vs/\h.DictOf (AS P w) a vs
 | .dT kvs=>kvs.length<=sizeLine/\(a==sysModules)=false/\∃ xs:List (List Key × Addr × Value),
   Paired (λ(p:List Key × V) (q:List Key × Addr × Value)=>p.1=q.1/\H q.2.1=some (.tup (p.1.map kV))/\RelV p.2 q.2.2) kvs xs /\
   ∃ o es ep,h.get? a=some o/\o.ExactDict/\o.data=.dict es ep/\es.toList=xs.map (entryOfKey (tupleKind (AS P w)))/\(xs.map (·.1)).Nodup
 | .set S n=>h.SetOf (intKind P w) a S n
 | .ins C dx fs=>H dx=some (.own a)/\fs.length<=1000/\dx≠a/\h.get? a=some (W.instObj C dx) /\
   ∃ mA,h.Ns1 dx mA/\(∀ f,DJ (fs.lookup f) (mA f))/\PySem.Within mA (fs.map (·.1))
 | .own _=>∃ o,h.get? a=some o
 | .xd fs=>∃ mA,h.Ns1 a mA/\∀ f,DJ (fs.lookup f) (mA f)
 | .rng lo hi=>∃ t u v,h.get? a=some { cls:=.type "range",data:=.fields #[.int lo t,.int hi u,.int 1 v] }
 | .frz o u=>h.get? a=some o/\AN H h a u
 | .tbl ps=>h.get? a=some { cls:=.none,data:=.fields ps }
 | .met f x=>h.get? a=some (W.methodObj (.ref f) (.ref x))
 | .ext φ=>φ h/\(∃ o,h.get? a=some o)/\∀ h1 h2:Heap,φ h1->(∀ o,h1.get? a=some o->h2.get? a=some o)->φ h2
noncomputable def Dv (H:Hp)(h:Heap):Prop:=∀ a o,H a=some o->AN P w H h a o
end
section
variable {P:Program}{w:World}{H H':Hp}{h h':Heap}{a:Addr}{o:HO}
theorem AN.lt (x:AN P w H h a o):a < h.objs.size:=by
 cases o with
 | lst xs=>obtain ⟨_,_,_,_,e⟩:=x;exact Heap.lt_size e
 | tup xs=>obtain ⟨_,_,_,p⟩:=x;exact p.lt
 | dK kvs=>obtain ⟨_,_,_,_,o,_,_,e,_⟩:=x;exact Heap.lt_size e
 | dT kvs=>obtain ⟨_,_,_,_,o,_,_,e,_⟩:=x;exact Heap.lt_size e
 | set S n=>obtain ⟨o,_,_,_,e,_⟩:=x;exact Heap.lt_size e
 | ins C dx fs=>obtain ⟨_,_,_,e,_⟩:=x;exact Heap.lt_size e
 | own y=>obtain ⟨_,e⟩:=x;exact Heap.lt_size e
 | xd fs=>obtain ⟨_,⟨_,_,_,e,_⟩,_⟩:=x;exact Heap.lt_size e
 | rng lo hi=>obtain ⟨_,_,_,e⟩:=x;exact Heap.lt_size e
 | frz ob u=>obtain ⟨e,_⟩:=x;exact Heap.lt_size e
 | tbl ps=>exact Heap.lt_size (show h.get? a=some _ from x)
 | met f y=>exact Heap.lt_size (show h.get? a=some _ from x)
 | ext φ=>obtain ⟨_,⟨_,e⟩,_⟩:=x;exact Heap.lt_size e
theorem Paired.aaz {α β:Type}{F G:α->β->Prop}:∀ {l₁:List α} {l₂:List β},Paired F l₁ l₂->(∀ a b,F a b->G a b)->Paired G l₁ l₂
 | _,_,.nil,_=>.nil
 | _,_,.cons r t,f=>.cons (f _ _ r) (Paired.aaz t f)
theorem AN.aat (x:AN P w H h a o)(k:∀ b u,(b=a\/H b=some (.own a))->h.get? b=some u->h'.get? b=some u)
  (ho:∀ b,H b=some (.own a)->H' b=some (.own a)) (ht:∀ b xs,H b=some (.tup xs)->H' b=some (.tup xs)):AN P w H' h' a o:=by
 induction o with
 | lst xs=>obtain ⟨z,its,n,r,e⟩:=x;exact ⟨z,its,n,r,k _ _ (.inl rfl) e⟩
 | tup xs=>obtain ⟨z,its,r,ob,e,c⟩:=x;exact ⟨z,its,r,ob,k _ _ (.inl rfl) e,c⟩
 | dK kvs=>obtain ⟨z,y,vs,r,ob,es,ep,e,c⟩:=x;exact ⟨z,y,vs,r,ob,es,ep,k _ _ (.inl rfl) e,c⟩
 | dT kvs =>
  obtain ⟨z,y,xs,r,ob,es,ep,e,c⟩:=x;exact ⟨z,y,xs,Paired.aaz r λp q z=>⟨z.1,ht _ _ z.2.1,z.2.2⟩,ob,es,ep,k _ _ (.inl rfl) e,c⟩
 | set S n=>obtain ⟨ob,es,ep,t,e,c⟩:=x;exact ⟨ob,es,ep,t,k _ _ (.inl rfl) e,c⟩
 | ins C dx fs =>
  obtain ⟨d,z,ne,e,mA,⟨od,es,ep,e2,c⟩,r⟩:=x;exact ⟨ho _ d,z,ne,k _ _ (.inl rfl) e,mA,⟨od,es,ep,k _ _ (.inr d) e2,c⟩,r⟩
 | own y=>obtain ⟨ob,e⟩:=x;exact ⟨ob,k _ _ (.inl rfl) e⟩
 | xd fs=>obtain ⟨mA,⟨od,es,ep,e,c⟩,r⟩:=x;exact ⟨mA,⟨od,es,ep,k _ _ (.inl rfl) e,c⟩,r⟩
 | rng lo hi=>obtain ⟨t,u,v,e⟩:=x;exact ⟨t,u,v,k _ _ (.inl rfl) e⟩
 | frz ob u ih=>obtain ⟨e,q⟩:=x;exact ⟨k _ _ (.inl rfl) e,ih q⟩
 | tbl ps =>
  have e:h.get? a=some { cls:=.none,data:=.fields ps }:=x;show h'.get? a=some { cls:=.none,data:=.fields ps };exact k a _ (.inl rfl) e
 | met f y =>
  have e:h.get? a=some (W.methodObj (.ref f) (.ref y)):=x;show h'.get? a=some (W.methodObj (.ref f) (.ref y));exact k a _ (.inl rfl) e
 | ext φ=>obtain ⟨p,⟨o,e⟩,st⟩:=x;exact ⟨st _ _ p λo q=>k _ _ (.inl rfl) q,⟨o,k _ _ (.inl rfl) e⟩,st⟩
theorem Dv.lt (x:Dv P w H h)(e:H a=some o):a < h.objs.size:=(x a o e).lt
theorem Dv.fresh (x:Dv P w H h)(e:h.objs.size<=a):H a=none:=by
 cases q:H a with
 | none=>rfl
 | some u=>exact absurd (Nat.lt_of_lt_of_le (x.lt q) e) (Nat.lt_irrefl _)
theorem Dv.kept (x:Dv P w H h)(k:∀ b u,h.get? b=some u->h'.get? b=some u):Dv P w H h':=λa o e =>
 (x a o e).aat (λb u _ q=>k b u q) (λ_ q=>q) λ_ _ q=>q
theorem Dv.laid (x:Dv P w H h)(k:∀ b u,h.get? b=some u->h'.get? b=some u)(hp:h.objs.size<=a)(new:AN P w (upd H a o) h' a o):Dv P w (upd H a o) h':=λb u e=>by
 have hn:=x.fresh hp;by_cases hb:b=a
 ·subst hb;rw [Ad] at e;cases e;exact new
 ·rw [Ac hb] at e;exact (x b u e).aat (λc v _ q=>k c v q) (λc q=>by rw [Ac (Ab q hn)];exact q) λc xs q=>by rw [Ac (Ab q hn)];exact q
end
noncomputable def Rd (H:Hp)(a:Addr)(u:HO):Prop:=H a=some u\/∃ o,H a=some (.frz o u)
theorem Rd.ok {P:Program}{w:World}{H:Hp}{h:Heap}{a:Addr}{u:HO}(r:Rd H a u)(x:Dv P w H h):AN P w H h a u:=by
 rcases r with r | ⟨o,r⟩
 ·exact x a u r
 ·obtain ⟨_,q⟩:=x a _ r;exact q
noncomputable def cz:Option HO->Prop
 | some (.lst _)=>True
 | some (.dK _)=>True
 | some (.dT _)=>True
 | some (.set _ _)=>True
 | some (.ins _ _ _)=>True
 | some (.ext _)=>True
 | _=>False
section
variable {P:Program}{w:World}{H:Hp}{h h':Heap}{x e:Addr}{o':HO}
theorem Dv.write (ok:Dv P w H h)(mu:cz (H x))(he:e=x\/H e=some (.own x))(k:∀ b u,b≠e->h.get? b=some u->h'.get? b=some u)(aZ:∃ u,h'.get? e=some u)
  (new:AN P w (upd H x o') h' x o'):Dv P w (upd H x o') h':=λb u q=>by
 have cB:∀ c y,H c=some (.own y)->c≠x:=λc y r z=>by subst z;rw [r] at mu;exact mu
 have lY:∀ c xs,H c=some (.tup xs)->c≠x:=λc xs r z=>by subst z;rw [r] at mu;exact mu
 by_cases hb:b=x
 ·subst hb;rw [Ad] at q;cases q;exact new
 ·rw [Ac hb] at q;by_cases VI:b=e
  ·have q':H b=some (.own x):=by
    rcases he with z | z
    ·exact absurd (VI.trans z) hb
    ·rw [VI];exact z
   rw [q] at q';cases q';obtain ⟨v,hv⟩:=aZ;exact ⟨v,by rw [VI];exact hv⟩
  ·refine (ok b u q).aat (λc v hc r=>k c v ?_ r) (λc r=>by rw [Ac (cB c b r)];exact r) λc xs r=>(by rw [Ac (lY c xs r)];exact r);rcases hc with rfl | hc
   ·exact VI
   ·rintro rfl;rcases he with z | z
    ·exact cB c b hc z
    ·rw [hc] at z;cases z;exact hb rfl
end
structure Un (fs ex:List Addr)(H H':Hp)(h h':Heap):Prop where
 keep:∀ b o,h.get? b=some o->H b=none->b∉fs->b∉ex->h'.get? b=some o
 slot:∀ b o,h.get? b=some o->H b=none->b∈fs->b∉ex->∃ sl,h'.get? b=some { o with slots:=sl }
 free:∀ b o,h.get? b=some o->H b=none->b∉ex->H' b=none
 there:∀ b o,h.get? b=some o->b∉ex->∃ o',h'.get? b=some o'
 aas:∀ b xs,H b=some (.tup xs)->H' b=some (.tup xs)
 aaq:∀ b o u,H b=some (.frz o u)->H' b=some (.frz o u)
 aar:∀ b ps,H b=some (.tbl ps)->∃ more,H' b=some (.tbl (ps++more))
section
variable {fs b7 ex ex':List Addr}{H H1 H2:Hp}{h h1 h2 h':Heap}{a x e:Addr}{o:HO}
theorem Un.any (u:Un fs ex H H1 h h1){b:Addr}{ob:Obj}(q:h.get? b=some ob)(n:H b=none)(hx:b∉ex):∃ sl,h1.get? b=some { ob with slots:=sl }:=by
 by_cases hb:b∈fs
 ·exact u.slot b ob q n hb hx
 ·exact ⟨ob.slots,u.keep b ob q n hb hx⟩
theorem Un.kept (k:∀ b u,h.get? b=some u->h'.get? b=some u):Un fs ex H H h h' :=
 ⟨λb ob q _ _ _=>k b ob q,λb ob q _ _ _=>⟨ob.slots,k b ob q⟩,λ_ _ _ n _=>n,λb ob q _=>⟨ob,k b ob q⟩,λ_ _ q=>q,λ_ _ _ q=>q,λ_ ps q=>⟨#[],by rw [q];simp⟩⟩
theorem Un.refl:Un fs ex H H h h:=Un.kept λ_ _ q=>q
theorem Un.laid (k:∀ b u,h.get? b=some u->h'.get? b=some u)(hp:h.objs.size<=a)(hn:H a=none):Un fs ex H (upd H a o) h h' where
 keep:=λb u q _ _ _=>k b u q
 slot:=λb u q _ _ _=>⟨u.slots,k b u q⟩
 free:=λb u q n _=>by rw [Ac (Nat.ne_of_lt (Nat.lt_of_lt_of_le (Heap.lt_size q) hp))];exact n
 there:=λb u q _=>⟨u,k b u q⟩
 aas:=λb xs q=>by rw [Ac (Ab q hn)];exact q
 aaq:=λb u xs q=>by rw [Ac (Ab q hn)];exact q
 aar:=λb ps q=>⟨#[],by rw [Ac (Ab q hn),q];simp⟩
theorem Un.write (mu:cz (H x))(he:e=x\/H e=some (.own x))(k:∀ b u,b≠e->h.get? b=some u->h'.get? b=some u)(aZ:∃ u,h'.get? e=some u):Un fs ex H (upd H x o) h h':=by
 have hx:∀ b,H b=none->b≠x:=λb n z=>by subst z;rw [n] at mu;exact mu
 have hb:∀ b,H b=none->b≠e:=λb n z=>by
  subst z;rcases he with r | r
  ·exact hx b n r
  ·rw [n] at r;cases r
 have hm:∀ b u,H b=some u->¬ cz (some u)->b≠x:=λb u q nm z=>by subst z;rw [q] at mu;exact nm mu
 refine ⟨λb u q n _ _=>k b u (hb b n) q,λb u q n _ _=>⟨u.slots,k b u (hb b n) q⟩,λb u q n _=>by rw [Ac (hx b n)];exact n,λb u q _=>?_,
  λb xs q=>by rw [Ac (hm b _ q λz=>z)];exact q,λb u xs q=>by rw [Ac (hm b _ q λz=>z)];exact q,λb ps q=>⟨#[],by rw [Ac (hm b _ q λz=>z),q];simp⟩⟩
 by_cases VI:b=e
 ·subst VI;exact aZ
 ·exact ⟨u,k b u VI q⟩
end
noncomputable def Rb (h:Heap)(H:Hp):List Addr:=(List.range h.objs.size).filter λa=>(H a).isSome
noncomputable def Hm (h:Heap)(H:Hp):Heap:=W.hideAll h (Rb h H)
theorem MI (h:Heap)(H:Hp):(Hm h H).objs.size=h.objs.size:=W.hideAll_size _ _
theorem Oq {h:Heap}{H:Hp}{b:Addr}{o:Obj}(e:h.get? b=some o)(n:H b=none):(Hm h H).get? b=some o :=
 W.hideAll_get _ e λhm=>by
  have q:(H b).isSome=true:=(List.mem_filter.mp hm).2;rw [n] at q;simp at q
theorem Rt {h:Heap}{H:Hp}{b:Addr}{o:Obj}(e:(Hm h H).get? b=some o):h.get? b=some o/\H b=none:=by
 have e':h.get? b=some o:=W.of_hideAll (Rb h H) e;refine ⟨e',?_⟩;cases q:H b with
 | none=>rfl
 | some x =>
  have hm:b∈Rb h H:=List.mem_filter.mpr ⟨List.mem_range.mpr (Heap.lt_size e'),by simp [q]⟩;have z:(Hm h H).get? b=none:=W.hideAll_none (Rb h H) hm;rw [z] at e;cases e
structure Mod (K:W.Frag)(mg:Str->Option Value)(base:Heap):Prop where
 kin:K.In base
 glob:base.Ns mainGlobals mg
 blt:∃ mb,base.Ns builtinsNs mb/\∀ x:Str,x≠"__name__"->mb x=bootBuiltins x
 nolimit:base.NoLimit
structure Cx where
 prog:Program
 w:World
 K:W.Frag
 mg:Str->Option Value
 base:Heap
 A:Around
 N:List Str
 s₀:Shared
 H₀:Hp
 env:Env
 outer:List Env
 stack:List Env
 ex:List Addr
 fn:Str->Bool
 calm:Bool
 pn:List (Addr × Obj)
 xe:Value->Shared->Prop
noncomputable def F7 (l:List Env):List Addr:=l.filterMap (·.frame)
abbrev Cx.fs (X:Cx):List Addr:=F7 X.outer
noncomputable def b8 (sc:Scope)(x:Str):Prop:=sc.names.lookup x=some .local\/sc.names.lookup x=some .cell\/sc.names.lookup x=some .free
noncomputable def Loc (sc:Scope)(x:Str):Prop:=sc.names.lookup x=some .local\/sc.names.lookup x=some .cell
noncomputable def Look (env:Env)(h:Heap)(m:Str->Option Value)(x:Str)(u:Value):Prop :=
 (env.kindOf x=some .local/\m x=some u)\/((env.kindOf x=some .cell\/env.kindOf x=some .free)/\∃ c,env.cells.lookup x=some c/\h.IsCell c (some u))
structure Cx.Ok (X:Cx):Prop where
 mod:Mod X.K X.mg X.base
 kind:X.env.scope.kind=.function
 glob:X.env.globals=mainGlobals
 blt:X.env.builtins=builtinsNs
 above:X.s₀.heap.objs.size<=X.env.locals
 inj:∀ x y c,X.env.cells.lookup x=some c->X.env.cells.lookup y=some c->x=y
 has:∀ x,(X.env.kindOf x=some .cell\/X.env.kindOf x=some .free)->∃ c,X.env.cells.lookup x=some c
 cab:∀ x c,X.fn x=true->X.env.cells.lookup x=some c->X.s₀.heap.objs.size<=c
 hd:X.calm=true->X.A.handled=none
 frames:X.A.frames=some X.stack
 stk:X.stack=X.outer\/(X.stack=X.env::X.outer/\X.env.frame=some X.env.locals)
 exf:∀ b∈X.ex,b≠X.env.locals/\∀ x c,X.env.cells.lookup x=some c->c≠b
 bs:∀ b o,X.base.get? b=some o->X.s₀.heap.get? b=some o/\X.H₀ b=none
 bsz:X.base.objs.size<=X.s₀.heap.objs.size
 abi:∀ b o,X.base.get? b=some o->b∉X.ex
 abj:∀ b∈X.ex,b∉X.fs
 aau:X.s₀.heap.FunFrames X.base X.outer
 frf:∀ b∈X.fs,X.H₀ b=none
structure Inv (X:Cx)(pins:List (Addr × Obj))(σ:List (Option V))(H:Hp)(s:Shared):Prop where
 ok:X.Ok
 os:s.os=X.s₀.os
 bare:AllBare s.gens
 base:Un X.fs X.ex X.H₀ H X.s₀.heap s.heap
 loc:∃ m,s.heap.Ns X.env.locals m/\∀ (i:Nat) (x:Str) (v:V),X.N[i]?=some x->σ[i]?=some (some v)->b8 X.env.scope x->∃ u,RelV v u/\Look X.env s.heap m x u
 cell:∀ x c,X.env.cells.lookup x=some c->∃ v,s.heap.IsCell c v
 free:H X.env.locals=none
 aae:∀ x c,X.env.cells.lookup x=some c->H c=none
 pin:∀ p∈X.pn++pins,s.heap.get? p.1=some p.2/\H p.1=none/\p.1≠X.env.locals/\p.1∉X.fs/\∀ v,p.2.data≠.cell v
 hok:Dv X.prog X.w H s.heap
 len:σ.length=X.N.length
section
variable {X:Cx}{pins:List (Addr × Obj)}{σ:List (Option V)}{H H':Hp}{s:Shared}{h':Heap}
theorem Cx.Ok.ab7 (ok:X.Ok){b:Addr}{o:Obj}(e:X.base.get? b=some o):b∉X.fs:=λhb=>by
 have:=(ok.aau.mem hb).1;rw [e] at this;cases this
theorem Inv.bs (I:Inv X pins σ H s):∀ b o,X.base.get? b=some o->s.heap.get? b=some o/\H b=none:=λb o e =>
 ⟨I.base.keep b o (I.ok.bs b o e).1 (I.ok.bs b o e).2 (I.ok.ab7 e) (I.ok.abi b o e),I.base.free b o (I.ok.bs b o e).1 (I.ok.bs b o e).2 (I.ok.abi b o e)⟩
theorem Inv.bk (I:Inv X pins σ H s):∀ b o,X.base.get? b=some o->s.heap.get? b=some o:=λb o e=>(I.bs b o e).1
theorem Inv.mod (I:Inv X pins σ H s):Mod X.K X.mg X.base:=I.ok.mod
theorem Inv.kIn (I:Inv X pins σ H s):X.K.In s.heap:=I.ok.mod.kin.keeps I.bk
theorem Inv.fr (I:Inv X pins σ H s):∃ m,Fr X.base X.env.locals s.heap m :=
 let ⟨m,hn,_⟩:=I.loc
 ⟨m,hn,I.bk,Nat.le_trans I.ok.bsz I.ok.above⟩
theorem Inv.lt (I:Inv X pins σ H s):X.env.locals < s.heap.objs.size:=let ⟨_,hn,_⟩:=I.loc;hn.lt
theorem Inv.sz (I:Inv X pins σ H s):X.s₀.heap.objs.size<=s.heap.objs.size:=Nat.le_trans I.ok.above (Nat.le_of_lt I.lt)
theorem Inv.ab0 (I:Inv X pins σ H s){a:Addr}(h:s.heap.objs.size<=a):a∉X.fs:=λhb=>by
 obtain ⟨_,o,ho,_⟩:=I.ok.aau.mem hb;exact absurd (Nat.lt_of_lt_of_le (Heap.lt_size ho) (Nat.le_trans I.sz h)) (Nat.lt_irrefl _)
theorem Inv.cne (I:Inv X pins σ H s):∀ x c,X.env.cells.lookup x=some c->c≠X.env.locals:=λx c e z=>by
 obtain ⟨v,o,ho,hd⟩:=I.cell x c e;obtain ⟨m,⟨o',es,ep,MJ,VJ,_⟩,_⟩:=I.loc;rw [z,MJ] at ho;cases ho;rw [VJ] at hd;cases hd
theorem Inv.aau (I:Inv X pins σ H s):s.heap.FunFrames X.base X.outer:=by
 have all:∀ (l:List Env),(∀ b∈F7 l,b∈X.fs)->X.s₀.heap.FunFrames X.base l->s.heap.FunFrames X.base l:=by
  intro l
  induction l with
  | nil=>intro _ _;trivial
  | cons env r ih =>
   intro hs hl;obtain ⟨hk,⟨L,o,hf,hn,ho,hd⟩,hr⟩:=hl;have hL:L∈X.fs:=hs L (by unfold F7;rw [List.filterMap_cons,hf];exact List.mem_cons_self);obtain ⟨sl,e⟩:=I.base.slot L o ho (I.ok.frf L hL) hL λz=>I.ok.abj L z hL;exact ⟨hk,⟨L,_,hf,hn,e,hd⟩,ih (λb hb=>hs b (by unfold F7;rw [List.filterMap_cons,hf];exact List.mem_cons_of_mem _ hb)) hr⟩
 exact all X.outer (λ_ hb=>hb) I.ok.aau
theorem Inv.stack (I:Inv X pins σ H s):s.heap.FunFrames X.base X.stack:=by
 rcases I.ok.stk with e | ⟨e,hf⟩
 ·rw [e];exact I.aau
 ·rw [e];obtain ⟨m,hn,_⟩:=I.loc;refine .cons (by rw [I.ok.kind];decide) hf hn ?_ I.aau;exact Heap.get?_none_of_le (Nat.le_trans I.ok.bsz I.ok.above)
theorem Inv.aal (I:Inv X pins σ H s):∀ b∈F7 X.stack,b∈X.env.locals::X.fs:=λb hb=>by
 rcases I.ok.stk with e | ⟨e,hf⟩
 ·rw [e] at hb;exact List.mem_cons_of_mem _ hb
 ·rw [e] at hb;unfold F7 at hb;rw [List.filterMap_cons,hf] at hb;exact hb
theorem Inv.aao (I:Inv X pins σ H s):∀ b∈F7 X.stack,H b=none:=λb hb=>by
 rcases List.mem_cons.mp (I.aal b hb) with e | hb
 ·rw [e];exact I.free
 ·obtain ⟨_,o,ho,_⟩:=I.ok.aau.mem hb;exact I.base.free b o ho (I.ok.frf b hb) λz=>I.ok.abj b z hb
theorem Inv.step {g':Array GenState}{t':Nat}{d':Drawn}{ch:List Addr}(I:Inv X pins σ H s)
  (Hn:∀ b∈ch,(b∈X.ex\/X.s₀.heap.objs.size<=b)/\b≠X.env.locals/\(∀ x c,X.env.cells.lookup x=some c->c≠b)/\∀ p∈X.pn++pins,p.1≠b)
  (keep:∀ b o,b≠X.env.locals->b∉X.fs->b∉ch->s.heap.get? b=some o->H b=none->h'.get? b=some o)
  (slot:∀ b o,b≠X.env.locals->b∈X.fs->b∉ch->s.heap.get? b=some o->H b=none->∃ sl,h'.get? b=some { o with slots:=sl }) (free:∀ b o,b∉ch->s.heap.get? b=some o->H b=none->H' b=none)
  (there:∀ b o,b∉ch->s.heap.get? b=some o->∃ o',h'.get? b=some o')
  (aas:∀ b xs,H b=some (.tup xs)->H' b=some (.tup xs)) (aaq:∀ b o u,H b=some (.frz o u)->H' b=some (.frz o u)) (aar:∀ b ps,H b=some (.tbl ps)->∃ more,H' b=some (.tbl (ps++more)))
  (ns:∀ m,s.heap.Ns X.env.locals m->h'.Ns X.env.locals m) (hok:Dv X.prog X.w H' h') (hg:AllBare g') :
  Inv X pins σ H' { s with heap:=h',gens:=g',drawn:=d',toks:=t' }:=by
 have Ru:∀ b o,X.s₀.heap.get? b=some o->b≠X.env.locals:=λb o e=>Nat.ne_of_lt (Nat.lt_of_lt_of_le (Heap.lt_size e) I.ok.above);have Rv:∀ b o,X.s₀.heap.get? b=some o->b∉X.ex->b∉ch:=λb o e hx hb=>by
  rcases (Hn b hb).1 with z | z
  ·exact hx z
  ·exact absurd (Nat.lt_of_lt_of_le (Heap.lt_size e) z) (Nat.lt_irrefl _)
 have cellK:∀ x c,X.env.cells.lookup x=some c->∀ v,s.heap.IsCell c v->h'.IsCell c v:=λx c e v ⟨o,ho,hd⟩=>by
  have Ot:c∉ch:=λz=>(Hn c z).2.2.1 x c e rfl;by_cases hc:c∈X.fs
  ·obtain ⟨sl,q⟩:=slot c o (I.cne x c e) hc Ot ho (I.aae x c e);exact ⟨_,q,hd⟩
  ·exact ⟨o,keep c o (I.cne x c e) hc Ot ho (I.aae x c e),hd⟩
 refine ⟨I.ok,I.os,hg,⟨λb o e n hb hx=>?_,λb o e n hb hx=>?_,λb o e n hx=>?_,λb o e hx=>?_,λb xs e=>aas b xs (I.base.aas b xs e),λb o xs e=>aaq b o xs (I.base.aaq b o xs e),λb ps e=>?_⟩,?_,λx c e=>?_,?_,λx c e=>?_,λp hp=>?_,hok,I.len⟩
 ·exact keep b o (Ru b o e) hb (Rv b o e hx) (I.base.keep b o e n hb hx) (I.base.free b o e n hx)
 ·obtain ⟨sl,e1⟩:=I.base.slot b o e n hb hx;obtain ⟨cC,e2⟩:=slot b _ (Ru b o e) hb (Rv b o e hx) e1 (I.base.free b o e n hx);exact ⟨cC,e2⟩
 ·obtain ⟨o',e1⟩:=I.base.there b o e hx;exact free b o' (Rv b o e hx) e1 (I.base.free b o e n hx)
 ·obtain ⟨o',e1⟩:=I.base.there b o e hx;exact there b o' (Rv b o e hx) e1
 ·obtain ⟨m1,e1⟩:=I.base.aar b ps e;obtain ⟨m2,e2⟩:=aar b _ e1;exact ⟨m1++m2,by rw [e2,Array.append_assoc]⟩
 ·obtain ⟨m,hn,hl⟩:=I.loc;refine ⟨m,ns m hn,λi x v e1 e2 e3=>?_⟩;obtain ⟨u,r,l⟩:=hl i x v e1 e2 e3;refine ⟨u,r,?_⟩;rcases l with l | ⟨k,c,e,z⟩
  ·exact .inl l
  ·exact .inr ⟨k,c,e,cellK x c e _ z⟩
 ·obtain ⟨v,z⟩:=I.cell x c e;exact ⟨v,cellK x c e v z⟩
 ·obtain ⟨m,⟨o,_,_,ho,_⟩,_⟩:=I.loc;exact free _ o (λz=>(Hn _ z).2.1 rfl) ho I.free
 ·obtain ⟨v,o,ho,hd⟩:=I.cell x c e;exact free c o (λz=>(Hn c z).2.2.1 x c e rfl) ho (I.aae x c e)
 ·obtain ⟨e,n,ne,nf,d⟩:=I.pin p hp;have Ot:p.1∉ch:=λz=>(Hn p.1 z).2.2.2 p hp rfl;exact ⟨keep p.1 p.2 ne nf Ot e n,free p.1 p.2 Ot e n,ne,nf,d⟩
theorem Inv.un {t':Nat}(I:Inv X pins σ H s)(u:Un X.fs [] H H' s.heap h')(hok:Dv X.prog X.w H' h'):Inv X pins σ H' { s with heap:=h',toks:=t' }:=by
 obtain ⟨m,⟨o,es,ep,ho,r⟩,_⟩:=id I.loc;obtain ⟨sl,hL⟩:=u.any ho I.free (by simp);exact I.step (g':=s.gens) (d':=s.drawn) (ch:=[]) (λ_ z=>nomatch z) (λb o _ hb _ e n=>u.keep b o e n hb (by simp)) (λb o _ hb _ e n=>u.slot b o e n hb (by simp)) (λb o _ e n=>u.free b o e n (by simp)) (λb o _ e=>u.there b o e (by simp)) u.aas u.aaq u.aar (λm' hm=>by
  obtain ⟨o',cD,jX,MJ,r'⟩:=hm;rw [ho] at MJ;cases MJ;exact ⟨_,cD,jX,hL,r'⟩) hok I.bare
theorem Inv.call {g':Array GenState}{t':Nat}{d':Drawn}{ch:List Addr}(I:Inv X pins σ H s)(u:Un (F7 X.stack) ch H H' s.heap h')(hok:Dv X.prog X.w H' h')(hg:AllBare g')
  (Hn:∀ b∈ch,(b∈X.ex\/X.s₀.heap.objs.size<=b)/\b≠X.env.locals/\(∀ x c,X.env.cells.lookup x=some c->c≠b)/\∀ p∈X.pn++pins,p.1≠b) :
  Inv X pins σ H' { s with heap:=h',gens:=g',drawn:=d',toks:=t' }:=by
 obtain ⟨m,⟨o,es,ep,ho,r⟩,_⟩:=id I.loc;obtain ⟨sl,hL⟩:=u.any ho I.free λz=>(Hn _ z).2.1 rfl;exact I.step (ch:=ch) Hn (λb o hL hb hc e n=>u.keep b o e n (λz=>(List.mem_cons.mp (I.aal b z)).elim hL hb) hc) (λb o _ _ hc e n=>u.any e n hc) (λb o hc e n=>u.free b o e n hc) (λb o hc e=>u.there b o e hc) u.aas u.aaq u.aar (λm' hm=>by
  obtain ⟨o',cD,jX,MJ,r'⟩:=hm;rw [ho] at MJ;cases MJ;exact ⟨_,cD,jX,hL,r'⟩) hok hg
theorem Inv.turned {t':Nat}{it:Addr}(I:Inv X pins σ H s)(k:∀ b o,b≠it->s.heap.get? b=some o->h'.get? b=some o)(hn:H it=none)(hL:it≠X.env.locals)
  (h1:it∈X.ex\/X.s₀.heap.objs.size<=it) (h2:∀ x c,X.env.cells.lookup x=some c->c≠it) (h3:∀ p∈X.pn++pins,p.1≠it):Inv X pins σ H { s with heap:=h',toks:=t' }:=by
 have we:∀ b u,H b=some u->b≠it:=λb u e z=>by rw [z,hn] at e;cases e
 refine I.step (g':=s.gens) (d':=s.drawn) (ch:=[it]) (λb hb=>?_) (λb o _ _ hc e _=>k b o (λz=>hc (by simp [z])) e) (λb o _ _ hc e _=>⟨o.slots,k b o (λz=>hc (by simp [z])) e⟩) (λ_ _ _ _ n=>n)
  (λb o hc e=>⟨o,k b o (λz=>hc (by simp [z])) e⟩) (λ_ _ e=>e) (λ_ _ _ e=>e) (λb ps e=>⟨#[],by rw [e];simp⟩) (λm hm=>?_) (λb u e=>?_) I.bare
 ·have e:b=it:=by simpa using hb
  subst e;exact ⟨h1,hL,h2,h3⟩
 ·obtain ⟨o,es,ep,ho,r⟩:=hm;exact ⟨o,es,ep,k _ o (Ne.symm hL) ho,r⟩
 ·refine (I.hok b u e).aat (λc v hc q=>k c v ?_ q) (λ_ q=>q) λ_ _ q=>q;rcases hc with z | z
  ·rw [z];exact we b u e
  ·exact we c _ z
theorem Inv.tok (I:Inv X pins σ H s)(t:Nat):Inv X pins σ H { s with toks:=t }:=I.un (h':=s.heap) (t':=t) Un.refl I.hok
theorem Inv.kept {t':Nat}(I:Inv X pins σ H s)(k:∀ b u,s.heap.get? b=some u->h'.get? b=some u):Inv X pins σ H { s with heap:=h',toks:=t' }:=I.un (Un.kept k) (I.hok.kept k)
theorem Inv.laid {a:Addr}{o:HO}{t':Nat}(I:Inv X pins σ H s)(k:∀ b u,s.heap.get? b=some u->h'.get? b=some u)(hp:s.heap.objs.size<=a)(new:AN X.prog X.w (upd H a o) h' a o):
  Inv X pins σ (upd H a o) { s with heap:=h',toks:=t' }:=I.un (Un.laid k hp (I.hok.fresh hp)) (I.hok.laid k hp new)
theorem Inv.write {x e:Addr}{o:HO}{t':Nat}(I:Inv X pins σ H s)(mu:cz (H x))(he:e=x\/H e=some (.own x))(k:∀ b u,b≠e->s.heap.get? b=some u->h'.get? b=some u)(aZ:∃ u,h'.get? e=some u)
  (new:AN X.prog X.w (upd H x o) h' x o):Inv X pins σ (upd H x o) { s with heap:=h',toks:=t' }:=I.un (Un.write mu he k aZ) (I.hok.write mu he k aZ new)
theorem Inv.weak {σ':List (Option V)}(I:Inv X pins σ H s)(hl:σ'.length=σ.length)(w:∀ (i:Nat) v,σ'[i]?=some (some v)->σ[i]?=some (some v)):Inv X pins σ' H s :=
 ⟨I.ok,I.os,I.bare,I.base,let ⟨m,hn,bb⟩:=I.loc;⟨m,hn,λi x v e1 e2 e3=>bb i x v e1 (w i v e2) e3⟩,I.cell,I.free,I.aae,I.pin,I.hok,hl.trans I.len⟩
theorem Inv.aaf {pins':List (Addr × Obj)}(I:Inv X pins σ H s)(h:∀ p∈pins',s.heap.get? p.1=some p.2/\H p.1=none/\p.1≠X.env.locals/\p.1∉X.fs/\∀ v,p.2.data≠.cell v):Inv X pins' σ H s :=
 ⟨I.ok,I.os,I.bare,I.base,I.loc,I.cell,I.free,I.aae,λp hp=>(List.mem_append.mp hp).elim (λz=>I.pin p (List.mem_append_left _ z)) (h p),I.hok,I.len⟩
theorem Gi {N:List Str}(hN:N.Nodup){i j:Nat}{x:Str}(a:N[i]?=some x)(b:N[j]?=some x):i=j:=by
 obtain ⟨h1,e1⟩:=List.getElem?_eq_some_iff.mp a;obtain ⟨h2,e2⟩:=List.getElem?_eq_some_iff.mp b;exact (List.getElem_inj hN).mp (e1.trans e2.symm)
theorem HD {M:Model}{A:Around}{E:Value->Shared->Prop}{i:Nat}{x:Str}{v:V}{u:Value}{Q:Unit->Shared->Prop}(I:Inv X pins σ H s)(hN:X.N.Nodup)(hi:X.N[i]?=some x)(hx:Loc X.env.scope x)(r:RelV v u)
  (h:∀ s',Inv X pins (σ.set i (some v)) H s'->(∃ a,Heap.SameBut a s.heap s'.heap/\(a=X.env.locals\/X.env.cells.lookup x=some a))->Q .unit s') (hf:X.fn x=true\/X.env.scope.names.lookup x=some .local:=by first | exact .inl rfl | exact .inr rfl | assumption):wpAny M A (storeName X.env x u) Q E s:=by
 obtain ⟨m,hn,hl⟩:=id I.loc;have Ou:(X.env.scope.kind==.class || (X.env.scope.kind==.module && X.env.locals != X.env.globals))=false:=by rw [I.ok.kind];rfl
 have hiσ:i < σ.length:=by rw [I.len];exact (List.getElem?_eq_some_iff.mp hi).1
 have cne:=I.cne;have tracked:∀ {a:Addr} {h':Heap},(∃ o,s.heap.get? a=some o/\H a=none)->Heap.SameBut a s.heap h'->Dv X.prog X.w H h':=λ{a h'} ha hs b ob e=>by
  obtain ⟨_,_,UO⟩:=ha;refine (I.hok b ob e).aat (λc w' hc q=>(hs.2 c ?_).trans q) (λ_ q=>q) λ_ _ q=>q;rintro rfl;rcases hc with rfl | hc
  ·rw [UO] at e;cases e
  ·rw [UO] at hc;cases hc
 rcases hx with hk | hk
 ·refine wpAny_storeName_local hk hn (λh' Rw hs=>?_) Ou;obtain ⟨oL,_,_,wg,_⟩:=id hn;refine h _ ⟨I.ok,I.os,I.bare,⟨λb o e n hb hx=>?_,λb o e n hb hx=>?_,I.base.free,λb o e hx=>?_,I.base.aas,I.base.aaq,I.base.aar⟩,⟨_,Rw,λj y v' e1 e2 e3=>?_⟩,λy c e=>?_,I.free,I.aae,λp hp=>?_,tracked ⟨oL,wg,I.free⟩ hs,by simpa using I.len⟩ ⟨_,hs,.inl rfl⟩
  ·exact (hs.2 b (Nat.ne_of_lt (Nat.lt_of_lt_of_le (Heap.lt_size e) I.ok.above))).trans (I.base.keep b o e n hb hx)
  ·obtain ⟨sl,e1⟩:=I.base.slot b o e n hb hx;exact ⟨sl,(hs.2 b (Nat.ne_of_lt (Nat.lt_of_lt_of_le (Heap.lt_size e) I.ok.above))).trans e1⟩
  ·obtain ⟨o',e1⟩:=I.base.there b o e hx;exact ⟨o',(hs.2 b (Nat.ne_of_lt (Nat.lt_of_lt_of_le (Heap.lt_size e) I.ok.above))).trans e1⟩
  ·by_cases hj:j=i
   ·subst hj;rw [hi] at e1;cases e1;rw [List.getElem?_set_self hiσ] at e2;cases e2;exact ⟨u,r,.inl ⟨hk,by simp⟩⟩
   ·rw [List.getElem?_set_ne (Ne.symm hj)] at e2;obtain ⟨u',r',q⟩:=hl j y v' e1 e2 e3;refine ⟨u',r',?_⟩;rcases q with ⟨k,e⟩ | ⟨k,c,e,z⟩
    ·refine .inl ⟨k,?_⟩;have:y≠x:=λe=>hj (Gi hN e1 (e▸hi));simp [this,e]
    ·exact .inr ⟨k,c,e,z.sameBut hs (cne y c e)⟩
  ·obtain ⟨w',z⟩:=I.cell y c e;exact ⟨w',z.sameBut hs (cne y c e)⟩
  ·obtain ⟨e,n,ne,nf,d⟩:=I.pin p hp;exact ⟨(hs.2 p.1 ne).trans e,n,ne,nf,d⟩
 ·have lZ:X.fn x=true:=by
   rcases hf with z | z
   ·exact z
   ·rw [z] at hk;cases hk
  obtain ⟨c,hc⟩:=I.ok.has x (.inl hk);obtain ⟨w',z⟩:=I.cell x c hc;refine wpAny_storeName_cell I.ok.kind hk hc z (λh' Cn hs=>?_);obtain ⟨oc,wj,m7⟩:=id z;refine h { s with heap:=h' } ⟨I.ok,I.os,I.bare,⟨λb o e n hb hx=>?_,λb o e n hb hx=>?_,I.base.free,λb o e hx=>?_,I.base.aas,I.base.aaq,I.base.aar⟩,⟨m,hn.sameBut hs (Ne.symm (cne x c hc)),λj y v' e1 e2 e3=>?_⟩,λy c' e=>?_,I.free,I.aae,λp hp=>?_,tracked ⟨oc,wj,I.aae x c hc⟩ hs,by simpa using I.len⟩ ⟨c,hs,.inr hc⟩
  ·exact (hs.2 b (Nat.ne_of_lt (Nat.lt_of_lt_of_le (Heap.lt_size e) (I.ok.cab x c lZ hc)))).trans (I.base.keep b o e n hb hx)
  ·obtain ⟨sl,e1⟩:=I.base.slot b o e n hb hx;exact ⟨sl,(hs.2 b (Nat.ne_of_lt (Nat.lt_of_lt_of_le (Heap.lt_size e) (I.ok.cab x c lZ hc)))).trans e1⟩
  ·obtain ⟨o',e1⟩:=I.base.there b o e hx;exact ⟨o',(hs.2 b (Nat.ne_of_lt (Nat.lt_of_lt_of_le (Heap.lt_size e) (I.ok.cab x c lZ hc)))).trans e1⟩
  ·by_cases hj:j=i
   ·subst hj;rw [hi] at e1;cases e1;rw [List.getElem?_set_self hiσ] at e2;cases e2;exact ⟨u,r,.inr ⟨.inl hk,c,hc,Cn⟩⟩
   ·rw [List.getElem?_set_ne (Ne.symm hj)] at e2;obtain ⟨u',r',q⟩:=hl j y v' e1 e2 e3;refine ⟨u',r',?_⟩;rcases q with q | ⟨k,c',e,z'⟩
    ·exact .inl q
    ·refine .inr ⟨k,c',e,z'.sameBut hs ?_⟩;rintro rfl;exact hj (Gi hN e1 (I.ok.inj _ _ _ e hc▸hi))
  ·by_cases wk:c'=c
   ·subst wk;exact ⟨_,Cn⟩
   ·obtain ⟨w2,z2⟩:=I.cell y c' e;exact ⟨w2,z2.sameBut hs wk⟩
  ·obtain ⟨e,n,ne,nf,d⟩:=I.pin p hp;refine ⟨(hs.2 p.1 ?_).trans e,n,ne,nf,d⟩;intro q;rw [q,wj] at e;have q':oc=p.2:=Option.some.inj e;exact d w' (by rw [<- q'];exact m7)
theorem E8 {M:Model}{A:Around}{E:Value->Shared->Prop}{i:Nat}{x:Str}{v:V}{u:Value}{Q:Unit->Shared->Prop}(I:Inv X pins σ H s)(hN:X.N.Nodup)(hi:X.N[i]?=some x)(hx:Loc X.env.scope x)(r:RelV v u)
  (h:∀ s',Inv X pins (σ.set i (some v)) H s'->Q .unit s') (hf:X.fn x=true\/X.env.scope.names.lookup x=some .local:=by first | exact .inl rfl | exact .inr rfl | assumption):wpAny M A (storeName X.env x u) Q E s :=
 HD I hN hi hx r (λs' I' _=>h s' I') hf
theorem Inv.abb {s':Shared}{ch:List Addr}(I:Inv X pins σ H s)(ho:s'.os=s.os)(u:Un (F7 X.stack) ch H H' s.heap s'.heap)(hok:Dv X.prog X.w H' s'.heap)(hg:AllBare s'.gens)
  (Hn:∀ b∈ch,(b∈X.ex\/X.s₀.heap.objs.size<=b)/\b≠X.env.locals/\(∀ x c,X.env.cells.lookup x=some c->c≠b)/\∀ p∈X.pn++pins,p.1≠b):Inv X pins σ H' s':=by
 obtain ⟨h',g',d',t',o'⟩:=s';have e:o'=s.os:=ho;subst e;exact I.call (g':=g') (t':=t') (d':=d') u hok hg Hn
end
abbrev XK:=Value->Option Addr->Hp->Prop
abbrev St:=List (Option V)
abbrev VK:=V->Hp->Prop
abbrev TE:=St->Hp->VK->Prop
abbrev TT:=St->Hp->(Bool->Hp->Prop)->Prop
abbrev TA:=St->Hp->(List V->Hp->Prop)->Prop
structure Ends where
 nx:St->Hp->Prop
 rt:VK
 bk:St->Hp->Prop:=λ_ _=>False
 ct:St->Hp->Prop:=λ_ _=>False
abbrev TS:=Ends->St->Hp->Prop
noncomputable def EP (X:Cx)(pins:List (Addr × Obj))(σ:St)(Q:VK)(u:Value)(s':Shared):Prop:=∃ v H',Inv X pins σ H' s'/\RelV v u/\Q v H'
noncomputable def TP (X:Cx)(pins:List (Addr × Obj))(σ:St)(Q:Bool->Hp->Prop)(b:Bool)(s':Shared):Prop:=∃ H',Inv X pins σ H' s'/\Q b H'
noncomputable def AP (X:Cx)(pins:List (Addr × Obj))(σ:St)(Q:List V->Hp->Prop)(us:List Value)(s':Shared):Prop:=∃ vs H',Inv X pins σ H' s'/\Vals vs us/\Q vs H'
noncomputable def SP (X:Cx)(pins:List (Addr × Obj))(D:Ends)(f:Flow)(s':Shared):Prop :=
 match f with
 | .next=>∃ σ' H',Inv X pins σ' H' s'/\D.nx σ' H'
 | .brk=>∃ σ' H',Inv X pins σ' H' s'/\D.bk σ' H'
 | .cont=>∃ σ' H',Inv X pins σ' H' s'/\D.ct σ' H'
 | .ret u=>∃ v σ' H',Inv X pins σ' H' s'/\RelV v u/\D.rt v H'
noncomputable def PE (X:Cx)(e:Expr)(t:TE):Prop :=
 ∀ (pins:List (Addr × Obj)) (s:Shared) (σ:St) (H:Hp) (Q:VK),Inv X pins σ H s->t σ H Q->wpAny (model X.prog X.w) X.A (eval e X.env) (EP X pins σ Q) X.xe s
noncomputable def PT (X:Cx)(e:Expr)(t:TT):Prop :=
 ∀ (pins:List (Addr × Obj)) (s:Shared) (σ:St) (H:Hp) (Q:Bool->Hp->Prop),Inv X pins σ H s->t σ H Q->wpAny (model X.prog X.w) X.A (isTrue e X.env (eval e X.env)) (TP X pins σ Q) X.xe s
noncomputable def PW (X:Cx)(e:Expr)(t:TT):Prop :=
 ∀ (whole:Sem Value) (pins:List (Addr × Obj)) (s:Shared) (σ:St) (H:Hp) (Q:Bool->Hp->Prop),Inv X pins σ H s->t σ H Q->wpAny (model X.prog X.w) X.A (isTrue e X.env whole) (TP X pins σ Q) X.xe s
theorem PW.pt {X:Cx}{e:Expr}{t:TT}(h:PW X e t):PT X e t:=h _
noncomputable def PA (X:Cx)(es:List Expr)(t:TA):Prop :=
 ∀ (pos:Pos) (pins:List (Addr × Obj)) (s:Shared) (σ:St) (H:Hp) (Q:List V->Hp->Prop),Inv X pins σ H s->t σ H Q->wpAny (model X.prog X.w) X.A (spliced (backTo pos (starEach es X.env))) (AP X pins σ Q) X.xe s
noncomputable def PS (X:Cx)(st:Stmt)(t:TS):Prop :=
 ∀ (pins:List (Addr × Obj)) (s:Shared) (σ:St) (H:Hp) (D:Ends),Inv X pins σ H s->t D σ H->wpAny (model X.prog X.w) X.A (exec st X.env) (SP X pins D) X.xe s
noncomputable def LF (X:Cx)(st:List Stmt)(t:TS):Prop :=
 ∀ (pins:List (Addr × Obj)) (s:Shared) (σ:St) (H:Hp) (D:Ends),Inv X pins σ H s->t D σ H->wpAny (model X.prog X.w) X.A (execs st X.env) (SP X pins D) X.xe s
theorem AY {α:Type}{t:Sem α}{Q Q':α->Shared->Prop}{M:Model}{A:Around}{E:Value->Shared->Prop}{s:Shared}(h:wpAny M A t Q E s)(hQ:∀ a s,Q a s->Q' a s):wpAny M A t Q' E s:=wpAny_mono h hQ λ_ _ x=>x
section
variable {X:Cx}
theorem bin {a b:Expr}{ta tb:TE}(ha:PE X a ta)(hb:PE X b tb){pins:List (Addr × Obj)}{s:Shared}{σ:St}{H:Hp}{R:V->V->Hp->Prop}(I:Inv X pins σ H s)(h:ta σ H λx H1=>tb σ H1 λy H2=>R x y H2)
  {α:Type} {Q:α->Shared->Prop} {f:Value->Value->Sem α}
  (hf:∀ v u s2 x y H2,Inv X pins σ H2 s2->RelV x v->RelV y u->R x y H2->wpAny (model X.prog X.w) X.A (f v u) Q X.xe s2) :
  wpAny (model X.prog X.w) X.A (eval a X.env) (λv s₁=>wpAny (model X.prog X.w) X.A (eval b X.env) (λu s₂=>wpAny (model X.prog X.w) X.A (f v u) Q X.xe s₂) X.xe s₁) X.xe s:=by
 refine AY (ha pins s σ H _ I h) λv s1 AE=>?_;obtain ⟨x,H1,I1,r1,q1⟩:=AE;refine AY (hb pins s1 σ H1 _ I1 q1) λu s2 AE=>?_;obtain ⟨y,H2,I2,r2,q2⟩:=AE;exact hf v u s2 x y H2 I2 r1 r2 q2
noncomputable def Bt (i:Nat):TE:=fun σ H Q=>∃ v,σ[i]?=some (some v)/\Q v H
noncomputable def tC (v:V):TE:=λ_ H Q=>Q v H
theorem Ov {i:Nat}{x:Str}{pos:Pos}(hN:X.N[i]?=some x)(hv:b8 X.env.scope x)(hd:(x==("__debug__":Str))=false:=by decide)(Gj:(x==("__classdict__":Str))=false:=by decide):PE X (.Name x pos) (Bt i):=by
 intro pins s σ H Q I h;obtain ⟨v,e,h⟩:=h;obtain ⟨m,hn,hl⟩:=I.loc;obtain ⟨u,r,l⟩:=hl i x v hN e hv;have fin:EP X pins σ Q u s:=⟨v,H,I,r,h⟩;rcases l with ⟨hk,hm⟩ | ⟨hk,c,hc,UP⟩
 ·exact wpAny_Name (wpAny_loadName_local I.ok.kind hk hn hm fin) hd
 ·rcases hk with hk | hk
  ·exact wpAny_Name (wpAny_loadName_cell I.ok.kind hk hc UP fin) hd
  ·exact wpAny_Name (wpAny_loadName_free I.ok.kind hk hc UP fin Gj) hd
theorem CP {i j pos}:PE X (.Constant (.int i) j pos) (tC (.int i)):=λ_ _ _ H _ I h=>wpAny_Constant_int ⟨.int i,H,I.tok _,⟨_,rfl⟩,h⟩
theorem cE {b j pos}:PE X (.Constant (.bool b) j pos) (tC (.bl b)):=λ_ _ _ H _ I h=>Constant_bool ⟨.bl b,H,I,rfl,h⟩
theorem VL {j pos}:PE X (.Constant .none j pos) (tC .non):=λ_ _ _ H _ I h=>Constant_none ⟨.non,H,I,rfl,h⟩
theorem Ow {x j pos}:PE X (.Constant (.str x) j pos) (tC (.str x)):=λ_ _ _ H _ I h=>Calls.Constant_str ⟨.str x,H,I.tok _,⟨_,rfl⟩,h⟩
noncomputable def Gl (X:Cx)(x:Str):Prop:=X.env.kindOf x=some .globalImplicit
theorem Cu {E:Value->Shared->Prop}{pins:List (Addr × Obj)}{s:Shared}{σ:St}{H:Hp}{x:Str}{u:Value}{pos:Pos}{Q:Value->Shared->Prop}(I:Inv X pins σ H s)(hg:Gl X x)(hm:X.mg x=some u)(h:Q u s)
  (hd:(x==("__debug__":Str))=false:=by decide):wpAny (model X.prog X.w) X.A (eval (.Name x pos) X.env) Q E s :=
 Calls.Name_function_global I.ok.kind hg (Calls.loadGlobal_global (by rw [I.ok.glob];exact I.mod.glob.keeps I.bk) hm h) hd
theorem Cq {E:Value->Shared->Prop}{pins:List (Addr × Obj)}{s:Shared}{σ:St}{H:Hp}{x:Str}{u:Value}{pos:Pos}{Q:Value->Shared->Prop}(I:Inv X pins σ H s)(hg:Gl X x)(hm:X.mg x=none)(hv:bootBuiltins x=some u)(h:Q u s)
  (hn:x≠"__name__":=by decide) (hd:(x==("__debug__":Str))=false:=by decide):wpAny (model X.prog X.w) X.A (eval (.Name x pos) X.env) Q E s:=by
 obtain ⟨mb,h1,h2⟩:=I.mod.blt;exact Calls.Name_function_global I.ok.kind hg (Calls.loadGlobal_builtin (by rw [I.ok.glob];exact I.mod.glob.keeps I.bk) hm (by rw [I.ok.blt];exact h1.keeps I.bk) ((h2 x hn).trans hv) h) hd
theorem Im {x:Str}{v:V}{u:Value}{pos:Pos}(hg:Gl X x)(hm:X.mg x=some u)(r:RelV v u)(hd:(x==("__debug__":Str))=false:=by decide):PE X (.Name x pos) (tC v) :=
 λ_ _ _ H _ I h=>Cu I hg hm ⟨v,H,I,r,h⟩ hd
theorem Rx {x:Str}{v:V}{u:Value}{pos:Pos}(hg:Gl X x)(hm:X.mg x=none)(hv:bootBuiltins x=some u)(r:RelV v u)(hn:x≠"__name__":=by decide)(hd:(x==("__debug__":Str))=false:=by decide):PE X (.Name x pos) (tC v) :=
 λ_ _ _ H _ I h=>Cq I hg hm hv ⟨v,H,I,r,h⟩ hn hd
variable {a b:Expr}{ta tb:TE}{pos:Pos}
noncomputable def PC (X:Cx)(op:CmpOp)(a b:Expr)(t:TE):Prop :=
 ∀ (pins:List (Addr × Obj)) (s:Shared) (σ:St) (H:Hp) (Q:VK),Inv X pins σ H s->t σ H Q ->
  wpAny (model X.prog X.w) X.A (eval a X.env) (λv s₁=>wpAny (model X.prog X.w) X.A (eval b X.env) (λu s₂=>wpAny (model X.prog X.w) X.A (compareOp op v u) (EP X pins σ Q) X.xe s₂) X.xe s₁) X.xe s
theorem Ox (b:Expr){op:CmpOp}(h:op≠.In)(h2:op≠.NotIn):behindInMarks op b=false:=by
 have e1:(op==CmpOp.In)=false:=by cases op <;> first | rfl | exact absurd rfl h
 have e2:(op==CmpOp.NotIn)=false:=by cases op <;> first | rfl | exact absurd rfl h2
 cases b <;> simp [behindInMarks,e1,e2]
noncomputable def tB (t:TE):TT:=fun σ H Q=>t σ H λx H1=>∃ c,x=.bl c/\Q c H1
theorem Oy {op:CmpOp}{t:TE}(h:PC X op a b t)(h1:behindInMarks op b=false:=by first | exact Ox _ ⟨⟩ ⟨⟩ | rfl):PT X (.Compare a [op] [b] pos) (tB t):=by
 intro pins s σ H Q I hw;refine wpAny_isTrue_Compare1 (AY (h pins s σ H _ I hw) λv s1 h1=>AY h1 λu s2 h2=>AY h2 λc s3 AE=>?_) h1;obtain ⟨x,H1,I1,r1,q1⟩:=AE;obtain ⟨d,rfl,q⟩:=q1;cases r1;exact wpAny_truthy_bool ⟨H1,I1,q⟩
theorem VM {e:Expr}{t:TE}(h:PE X e t)(he:∀ whole,isTrue e X.env whole=(do let v <- whole;standAt e.pos;holding [v] (truthy v)):=by intro _;rfl):PT X e (tB t):=by
 intro pins s σ H Q I hw;refine isTrue_plain (AY (h pins s σ H _ I hw) λv s1 AE=>?_) (he _);obtain ⟨x,H1,I1,r1,q1⟩:=AE;obtain ⟨d,rfl,q⟩:=q1;cases r1;exact wpAny_truthy_bool ⟨H1,I1,q⟩
variable {tA Ry:TT}{rest:List Expr}
noncomputable def VN (t u:TT):TT:=fun σ H Q=>t σ H λc H1=>if c=true then u σ H1 Q else Q false H1
noncomputable def m8 (t u:TT):TT:=fun σ H Q=>t σ H λc H1=>if c=true then Q true H1 else u σ H1 Q
noncomputable def cG (t:TT):TT:=fun σ H Q=>t σ H λc H1=>Q (!c) H1
theorem Rz (ha:PT X a tA):PW X (.BoolOp .And [a] pos) tA:=by
 intro wh pins s σ H Q I h;refine isTrue_and (AY (ha pins s σ H Q I h) λc s1 e=>?_);cases c with
 | true=>exact isTrue_and_nil e
 | false=>exact e
theorem VO (ha:PT X a tA):PW X (.BoolOp .Or [a] pos) tA:=by
 intro wh pins s σ H Q I h;refine isTrue_or (AY (ha pins s σ H Q I h) λc s1 e=>?_);cases c with
 | false=>exact isTrue_or_nil e
 | true=>exact e
theorem VP (ha:PT X a tA)(hb:PW X (.BoolOp .And (b::rest) pos) Ry):PW X (.BoolOp .And (a::b::rest) pos) (VN tA Ry):=by
 intro wh pins s σ H Q I h;refine isTrue_and (AY (ha pins s σ H _ I h) λc s1 AE=>?_);obtain ⟨H1,I1,q1⟩:=AE;cases c with
 | true=>exact hb wh pins s1 σ H1 Q I1 q1
 | false=>exact ⟨H1,I1,q1⟩
theorem cH (ha:PT X a tA)(hb:PW X (.BoolOp .Or (b::rest) pos) Ry):PW X (.BoolOp .Or (a::b::rest) pos) (m8 tA Ry):=by
 intro wh pins s σ H Q I h;refine isTrue_or (AY (ha pins s σ H _ I h) λc s1 AE=>?_);obtain ⟨H1,I1,q1⟩:=AE;cases c with
 | true=>exact ⟨H1,I1,q1⟩
 | false=>exact hb wh pins s1 σ H1 Q I1 q1
theorem VQ (ha:PT X a tA):PT X (.UnaryOp .Not a pos) (cG tA):=by
 intro pins s σ H Q I h;exact isTrue_not (ha pins s σ H (λc H1=>Q (!c) H1) I h)
noncomputable def Oz (ta tb:TE):TE:=fun σ H Q=>ta σ H λx H1=>∃ c,x=.bl c/\if c=true then tb σ H1 Q else Q (.bl false) H1
noncomputable def OB (ta:TE):TE:=fun σ H Q=>ta σ H λx H1=>∃ c,x=.bl c/\Q (.bl (!c)) H1
theorem VR {op}{t:TE}(h:PE X a t):PE X (.BoolOp op [a] pos) t:=λpins s σ H Q I hw=>BoolOp_one (h pins s σ H Q I hw)
theorem VS (ha:PE X a ta)(hb:PE X (.BoolOp .And (b::rest) pos) tb):PE X (.BoolOp .And (a::b::rest) pos) (Oz ta tb):=by
 intro pins s σ H Q I h;refine BoolOp_and (AY (ha pins s σ H _ I h) λv s1 AE=>?_);obtain ⟨x,H1,I1,r1,q1⟩:=AE;obtain ⟨c,rfl,q1⟩:=q1;cases r1;refine wpAny_truthy_bool ?_;cases c with
 | true=>exact hb pins s1 σ H1 Q I1 q1
 | false=>exact ⟨.bl false,H1,I1,rfl,q1⟩
theorem VT (ha:PE X a ta):PE X (.UnaryOp .Not a pos) (OB ta):=by
 intro pins s σ H Q I h;refine UnaryOp_ (AY (ha pins s σ H _ I h) λv s1 AE=>?_);obtain ⟨x,H1,I1,r1,q1⟩:=AE;obtain ⟨c,rfl,q1⟩:=q1;cases r1;exact not_of (wpAny_truthy_bool ⟨.bl (!c),H1,I1,rfl,q1⟩)
noncomputable def m9 (t:TT)(ta tb:TE):TE:=fun σ H Q=>t σ H λc H1=>if c=true then ta σ H1 Q else tb σ H1 Q
theorem OD {c:Expr}(hc:PT X c tA)(ha:PE X a ta)(hb:PE X b tb):PE X (.IfExp c a b pos) (m9 tA ta tb):=by
 intro pins s σ H Q I h;refine wpAny_IfExp (AY (hc pins s σ H _ I h) λd s1 AE=>?_);obtain ⟨H1,I1,q1⟩:=AE;cases d with
 | true=>exact ha pins s1 σ H1 Q I1 q1
 | false=>exact hb pins s1 σ H1 Q I1 q1
end
noncomputable def AO (K:W.Frag)(H:Hp)(a:Addr)(xs:List V):Prop :=
 Rd H a (.lst xs) \/
  ∃ (o:Obj) (its:Array Value) (n:Nat),K.lookup a=some o/\o.cls=.type "list"/\o.dict=none/\o.data=.seq its n/\its.size<=sizeLine/\Vals xs its.toList
noncomputable def CZ (K:W.Frag)(H:Hp)(a:Addr)(xs:List V):Prop :=
 Rd H a (.tup xs) \/
  ∃ (o:Obj) (its:Array Value) (n:Nat),K.lookup a=some o/\o.cls=.type "tuple"/\o.data=.seq its n/\its.size<=sizeLine/\Vals xs its.toList
noncomputable def ma:Value->Option V
 | .none=>some .non
 | .bool b=>some (.bl b)
 | .int i _=>some (.int i)
 | .str x _=>some (.str x)
 | .bytes b _=>some (.byt b)
 | .float b _=>some (.flt b)
 | .ref a=>some (.ref a)
 | .type n=>some (.ty n)
 | _=>none
theorem RelV.abs {x:V}{u:Value}(r:RelV x u):ma u=some x:=by
 cases x with
 | non=>cases r;rfl
 | bl _=>cases r;rfl
 | int _=>obtain ⟨t,rfl⟩:=r;rfl
 | str _=>obtain ⟨t,rfl⟩:=r;rfl
 | byt _=>obtain ⟨t,rfl⟩:=r;rfl
 | flt _=>obtain ⟨t,rfl⟩:=r;rfl
 | ref _=>cases r;rfl
 | ty _=>cases r;rfl
theorem RelV.inj {x y:V}{u:Value}(r:RelV x u)(q:RelV y u):x=y:=Option.some.inj (r.abs.symm.trans q.abs)
theorem Vals.inj:∀ {xs ys:List V} {us:List Value},Vals xs us->Vals ys us->xs=ys:=by
 intro xs ys us h
 revert ys
 induction h with
 | nil=>intro ys k;cases k;rfl
 | cons r _ ih =>
  intro ys k;cases k with
  | cons r' t'=>rw [r.inj r',ih t']
section
variable {X:Cx}{pins:List (Addr × Obj)}{σ:St}{H:Hp}{s:Shared}{a:Addr}{xs ys:List V}
theorem AO.of {K:W.Frag}(h:H a=some (.lst xs)):AO K H a xs:=.inl (.inl h)
theorem CZ.of {K:W.Frag}(h:H a=some (.tup xs)):CZ K H a xs:=.inl (.inl h)
theorem Inv.list (I:Inv X pins σ H s)(h:AO X.K H a xs):∃ its:List Value,Vals xs its/\PlainL s.heap a its.toArray/\xs.length<=sizeLine:=by
 rcases h with h | ⟨o,its,n,hk,hc,hd,hs,hz,r⟩
 ·obtain ⟨z,its,n,r,e⟩:=h.ok I.hok;exact ⟨its,r,⟨_,n,e,rfl,rfl,rfl⟩,z⟩
 ·refine ⟨its.toList,r,⟨o,n,I.kIn a o hk,hc,hd,by simpa using hs⟩,?_⟩;have e:=r.length;simp only [Array.length_toList] at e;omega
theorem Inv.tuple (I:Inv X pins σ H s)(h:CZ X.K H a xs):∃ its:List Value,Vals xs its/\IsTup s.heap a its.toArray/\xs.length<=sizeLine:=by
 rcases h with h | ⟨o,its,n,hk,hc,hs,hz,r⟩
 ·obtain ⟨z,its,r,p⟩:=h.ok I.hok;exact ⟨its,r,p,z⟩
 ·refine ⟨its.toList,r,⟨o,I.kIn a o hk,hc,n,by simpa using hs⟩,?_⟩;have e:=r.length;simp only [Array.length_toList] at e;omega
theorem Inv.aax (I:Inv X pins σ H s)(h:AO X.K H a xs)(h':AO X.K H a ys):xs=ys:=by
 obtain ⟨its,r,⟨o,n,e,_,_,d⟩,_⟩:=I.list h;obtain ⟨its',r',⟨o',n',e',_,_,d'⟩,_⟩:=I.list h';rw [e] at e';cases e';rw [d] at d';injection d' with d1 _;have:its=its':=by simpa using congrArg Array.toList d1
 subst this;exact r.inj r'
theorem Inv.aa1 (I:Inv X pins σ H s)(h:CZ X.K H a xs)(h':CZ X.K H a ys):xs=ys:=by
 obtain ⟨its,r,⟨o,e,_,n,d⟩,_⟩:=I.tuple h;obtain ⟨its',r',⟨o',e',_,n',d'⟩,_⟩:=I.tuple h';rw [e] at e';cases e';rw [d] at d';injection d' with d1 _;have:its=its':=by simpa using congrArg Array.toList d1
 subst this;exact r.inj r'
end
abbrev Cx.aad (X:Cx)(E:Value->Shared->Prop):Cx:={ X with xe:=E }
abbrev Cx.nox (X:Cx):Cx:=X.aad λ_ _=>False
theorem Cx.Ok.aad {X:Cx}(ok:X.Ok)(E:Value->Shared->Prop):(X.aad E).Ok :=
 ⟨ok.mod,ok.kind,ok.glob,ok.blt,ok.above,ok.inj,ok.has,ok.cab,ok.hd,ok.frames,ok.stk,ok.exf,ok.bs,ok.bsz,ok.abi,ok.abj,ok.aau,ok.frf⟩
theorem Cx.Ok.aac {X:Cx}{E:Value->Shared->Prop}(ok:(X.aad E).Ok):X.Ok :=
 ⟨ok.mod,ok.kind,ok.glob,ok.blt,ok.above,ok.inj,ok.has,ok.cab,ok.hd,ok.frames,ok.stk,ok.exf,ok.bs,ok.bsz,ok.abi,ok.abj,ok.aau,ok.frf⟩
section
variable {X:Cx}{pins:List (Addr × Obj)}{σ:St}{H:Hp}{s:Shared}{E:Value->Shared->Prop}
theorem Inv.aad (I:Inv X pins σ H s)(E:Value->Shared->Prop):Inv (X.aad E) pins σ H s:=⟨I.ok.aad E,I.os,I.bare,I.base,I.loc,I.cell,I.free,I.aae,I.pin,I.hok,I.len⟩
theorem Inv.aac (I:Inv (X.aad E) pins σ H s):Inv X pins σ H s:=⟨I.ok.aac,I.os,I.bare,I.base,I.loc,I.cell,I.free,I.aae,I.pin,I.hok,I.len⟩
theorem SP.aac {D:Ends}{f:Flow}{s':Shared}(h:SP (X.aad E) pins D f s'):SP X pins D f s':=by
 cases f with
 | next=>obtain ⟨σ',H',I,q⟩:=h;exact ⟨σ',H',I.aac,q⟩
 | brk=>obtain ⟨σ',H',I,q⟩:=h;exact ⟨σ',H',I.aac,q⟩
 | cont=>obtain ⟨σ',H',I,q⟩:=h;exact ⟨σ',H',I.aac,q⟩
 | ret u=>obtain ⟨v,σ',H',I,r,q⟩:=h;exact ⟨v,σ',H',I.aac,r,q⟩
theorem LF.nox {st:List Stmt}{t:TS}(h:LF X.nox st t):LF X st t:=λpins s σ H D I hw =>
 wpAny_mono (h pins s σ H D (I.aad _) hw) (λ_ _ q=>q.aac) λ_ _ z=>False.elim z
end
section
variable {X:Cx}{st:Stmt}{rest:List Stmt}{t u:TS}{e:Expr}{te:TE}{pos:Pos}
noncomputable def LG:TS:=λD σ H=>D.nx σ H
noncomputable def Ja (t u:TS):TS:=λD σ H=>t { D with nx:=u D } σ H
theorem LH:LF X [] LG:=λ_ _ σ H _ I h=>wpAny_execs_nil ⟨σ,H,I,h⟩
theorem F9 (h1:PS X st t)(h2:LF X rest u):LF X (st::rest) (Ja t u):=by
 intro pins s σ H D I h;refine wpAny_execs_cons (AY (h1 pins s σ H { D with nx:=u D } I h) λf s1 q=>?_);cases f with
 | next =>
  obtain ⟨σ',H',I',q⟩:=q;exact h2 pins s1 σ' H' D I' q
 | ret v=>exact q
 | brk=>exact q
 | cont=>exact q
theorem G7 (h1:PS X st t):LF X [st] t:=by
 intro pins s σ H D I h;refine wpAny_execs_cons (AY (h1 pins s σ H D I h) λf s1 q=>?_);cases f with
 | next=>exact wpAny_execs_nil q
 | ret v=>exact q
 | brk=>exact q
 | cont=>exact q
noncomputable def UR:TS:=λD σ H=>D.ct σ H
theorem Jb:PS X (.Continue pos) UR:=λ_ _ σ H _ I h=>wpAny_Continue ⟨σ,H,I,h⟩
theorem Inv.quiet {pins:List (Addr × Obj)}{σ:St}{H:Hp}{s:Shared}(I:Inv X pins σ H s):interactive X.env=false:=by simp [interactive,I.ok.kind]
noncomputable def LI (te:TE):TS:=λD σ H=>te σ H λ_ H1=>D.nx σ H1
theorem RA (he:PE X e te)(hs:swapsWith e none pos.line X.env=pure false:=by rfl):PS X (.Expr e pos) (LI te):=by
 intro pins s σ H D I h;exact wpAny_Expr_any (AY (he pins s σ H _ I h) λv s1 ⟨x,H1,I1,r1,q1⟩=>⟨σ,H1,I1,q1⟩) I.quiet hs
noncomputable def VU (te:TE):TS:=λD σ H=>te σ H D.rt
theorem Io (he:PE X e te):PS X (.Return (some e) pos) (VU te):=by
 intro pins s σ H D I h;exact wpAny_Return_some (AY (he pins s σ H _ I h) λv s1 ⟨x,H1,I1,r1,q1⟩=>⟨x,σ,H1,I1,r1,q1⟩)
noncomputable def RB (c:TT)(t u:TS):TS:=λD σ H=>c σ H λb H1=>if b=true then t D σ H1 else u D σ H1
theorem US {c:Expr}{a b:List Stmt}{tc:TT}(hc:PT X c tc)(ha:LF X a t)(hb:LF X b u):PS X (.If c a b pos) (RB tc t u):=by
 intro pins s σ H D I h;refine wpAny_If (AY (hc pins s σ H _ I h) λd s1 AE=>?_);obtain ⟨H1,I1,q1⟩:=AE;cases d with
 | true=>exact ha pins s1 σ H1 D I1 q1
 | false=>exact hb pins s1 σ H1 D I1 q1
end
abbrev TG:=V->St->Hp->(St->Hp->Prop)->Prop
abbrev Rc:=List V->St->Hp->(St->Hp->Prop)->Prop
noncomputable def PG (X:Cx)(target:Expr)(t:TG):Prop :=
 ∀ (pins:List (Addr × Obj)) (s:Shared) (σ:St) (H:Hp) (v:V) (u:Value) (Q:St->Hp->Prop),Inv X pins σ H s->RelV v u->t v σ H Q ->
  wpAny (model X.prog X.w) X.A (assign target X.env u) (λ_ s'=>∃ σ' H',Inv X pins σ' H' s'/\Q σ' H') X.xe s
noncomputable def cJ (X:Cx)(ts:List Expr)(t:Rc):Prop :=
 ∀ (pins:List (Addr × Obj)) (s:Shared) (σ:St) (H:Hp) (vs:List V) (us:List Value) (Q:St->Hp->Prop),Inv X pins σ H s->Vals vs us->t vs σ H Q ->
  wpAny (model X.prog X.w) X.A (assignInOrder ((assignEach ts X.env).map (·.2)) us) (λ_ s'=>∃ σ' H',Inv X pins σ' H' s'/\Q σ' H') X.xe s
abbrev RC:=V->V->V->Hp->(Hp->Prop)->Prop
noncomputable def VW (X:Cx)(t:RC):Prop :=
 ∀ (pins:List (Addr × Obj)) (s:Shared) (σ:St) (H:Hp) (o i v:V) (ov iv u:Value) (Q:Hp->Prop),Inv X pins σ H s->RelV o ov->RelV i iv->RelV v u->t o i v H Q ->
  wpAny (model X.prog X.w) X.A (setItem ov iv u) (λ_ s'=>∃ H',Inv X pins σ H' s'/\Q H') X.xe s
section
variable {X:Cx}{pos:Pos}
noncomputable def CA (i:Nat):TG:=λv σ H Q=>Q (σ.set i (some v)) H
theorem RD {i:Nat}{x:Str}(hN:X.N.Nodup)(hi:X.N[i]?=some x)(hx:Loc X.env.scope x)(hf:X.fn x=true\/X.env.scope.names.lookup x=some .local:=by first | exact .inl rfl | exact .inr rfl | assumption):PG X (.Name x pos) (CA i):=by
 intro pins s σ H v u Q I r h;exact wpAny_assign_Name (E8 I hN hi hx r (λs' I'=>⟨_,H,I',h⟩) hf)
noncomputable def RE:Rc:=λvs σ H Q=>vs=[]/\Q σ H
noncomputable def HE (t:TG)(u:Rc):Rc:=λvs σ H Q=>∃ v r,vs=v::r/\t v σ H fun σ' H'=>u r σ' H' Q
theorem RF:cJ X [] RE:=by
 intro pins s σ H vs us Q I r h;obtain ⟨e,h⟩:=h;subst e;cases r;exact assignInOrder_nil ⟨σ,H,I,h⟩
theorem OG {e:Expr}{es:List Expr}{t:TG}{u:Rc}(h1:PG X e t)(h2:cJ X es u)
  (hs:(assignEach (e::es) X.env).map (·.2)=assign e X.env::(assignEach es X.env).map (·.2):=by rfl):cJ X (e::es) (HE t u):=by
 intro pins s σ H vs us Q I r h;obtain ⟨v,vr,e1,h⟩:=h;subst e1;cases r with
 | cons r rr =>
  rw [hs];refine assignInOrder_cons (AY (h1 pins s σ H _ _ _ I r h) λ_ s1 AE=>?_);obtain ⟨σ1,H1,I1,q1⟩:=AE;exact h2 pins s1 σ1 H1 _ _ Q I1 rr q1
noncomputable def RG (K:W.Frag)(n:Nat)(t:Rc):TG:=λv σ H Q=>∃ a xs,v=.ref a/\CZ K H a xs/\xs.length=n/\t xs σ H Q
theorem VX {es:List Expr}{k:Nat}{t:Rc}{n:Nat}(hc:X.calm=true)(h:cJ X es t)
  (hn:(assignEach es X.env).length=n:=by rfl) (Ho:(assignEach es X.env).findIdx? (·.1)=none:=by rfl):PG X (.Tuple es k pos) (RG X.K n t):=by
 intro pins s σ H v u Q I r hw;obtain ⟨a,xs,e1,hq,hl,hw⟩:=hw;subst e1;cases r;obtain ⟨its,rv,ht,hz⟩:=I.tuple hq;refine assign_Tuple_tuple (I.ok.hd hc) ht (by simp [hn,<- hl,rv.length]) Ho λh' hx=>?_;have I1:Inv X pins σ H { s with heap:=h' }:=I.kept (t':=s.toks) λb o e=>hx b o (Nat.ne_of_lt (Heap.lt_size e)) e;exact h pins _ σ H xs _ Q I1 (by simpa using rv) hw
noncomputable def cK (to ti:TE)(t:RC):TG:=λv σ H Q=>to σ H λo H1=>ti σ H1 λi H2=>t o i v H2 λH3=>Q σ H3
theorem VY {o i:Expr}{to ti:TE}{t:RC}(ho:PE X o to)(hi:PE X i ti)(hs:VW X t)
  (ha:∀ v,assign (.Subscript o i pos) X.env v=(do
   let ov <- holding [v] (eval o X.env)
   let iv <- holding [v,ov] (eval i X.env)
   standAt pos
   holding [v,ov,iv] (setItem ov iv v)
   release [v,ov,iv] []):=by intro _;rfl):PG X (.Subscript o i pos) (cK to ti t):=by
 intro pins s σ H v u Q I r h;rw [ha];refine wpAny_bind (wpAny_holding (AY (ho pins s σ H _ I h) λov s1 AE=>?_));obtain ⟨x,H1,I1,r1,q1⟩:=AE;refine wpAny_bind (wpAny_holding (AY (hi pins s1 σ H1 _ I1 q1) λiv s2 AE=>?_));obtain ⟨y,H2,I2,r2,q2⟩:=AE;refine wpAny_bind (wpAny_standAt (wpAny_bind (wpAny_holding (AY (hs pins s2 σ H2 x y v ov iv u _ I2 r1 r2 r q2) λ_ s3 AE=>?_))));obtain ⟨H3,I3,q3⟩:=AE;exact wpAny_release ⟨σ,H3,I3,q3⟩
noncomputable def MK (te:TE)(g:TG):TS:=λD σ H=>te σ H λx H1=>g x σ H1 D.nx
theorem VZ {tg e:Expr}{te:TE}{g:TG}(he:PE X e te)(hg:PG X tg g)(hs:swapsWithSole [tg] e pos.line X.env=pure false:=by rfl)(hw:swappedStores [tg] e X.env=pure none:=by rfl)
  (h1:(assignEach [tg] X.env).map (·.2)=[assign tg X.env]:=by rfl):PS X (.Assign [tg] e pos) (MK te g):=by
 intro pins s σ H D I h;refine wpAny_Assign_stores (AY (he pins s σ H _ I h) λv s1 AE=>?_) hs hw;obtain ⟨x,H1,I1,r1,q1⟩:=AE;rw [h1];exact AY (hg pins s1 σ H1 x v _ I1 r1 q1) λ_ s2 q=>q
theorem Kg {i:Nat}{x:Str}{e:Expr}{te:TE}{pos':Pos}(hN:X.N.Nodup)(hi:X.N[i]?=some x)(hx:Loc X.env.scope x)(he:PE X e te)(hs:swapsWith e (some (.Name x pos')) pos.line X.env=pure false:=by rfl)(hf:X.fn x=true\/X.env.scope.names.lookup x=some .local:=by first | exact .inl rfl | exact .inr rfl | assumption):
  PS X (.Assign [.Name x pos'] e pos) (MK te (CA i)):=by
 intro pins s σ H D I h;refine wpAny_Assign_Name (AY (he pins s σ H _ I h) λv s1 AE=>?_) hs;obtain ⟨y,H1,I1,r1,q1⟩:=AE;exact E8 I1 hN hi hx r1 (λs2 I2=>⟨_,H1,I2,q1⟩) hf
noncomputable def OI (c:TT)(tb:TS):TS:=λD σ H=>∃ W:Nat->St->Hp->Prop,(∃ m,W m σ H)/\∀ m σ H,W m σ H ->
 c σ H λb H1=>if b=true then ∃ N:St->Hp->Prop,(∀ σ' H',N σ' H'->∃ m',m' < m/\W m' σ' H')/\tb { D with nx:=N,ct:=N,bk:=D.nx } σ H1 else D.nx σ H1
theorem OJ {c:Expr}{body:List Stmt}{tc:TT}{tb:TS}(hp:PassesOwn (model X.prog X.w) X.A X.env X.xe)(hc:PT X c tc)(hb:LF X body tb):PS X (.While c body [] pos) (OI tc tb):=by
 intro pins s σ H D I h;obtain ⟨W,⟨m0,w0⟩,turn⟩:=h;refine wpAny_While (codeAny_whileLoop (λn s'=>∃ σ' H',Inv X pins σ' H' s'/\W n σ' H') ?_ m0 ⟨σ,H,I,w0⟩);rintro n s1 ⟨σ1,H1,I1,w1⟩;refine wpAny_passesOwn hp (AY (hc pins s1 σ1 H1 _ I1 (turn n σ1 H1 w1)) λb s2 AE=>?_);obtain ⟨H2,I2,q2⟩:=AE;cases b with
 | true =>
  obtain ⟨N,hN,q2⟩:=q2;rw [if_pos rfl];refine wpAny_passesOwn hp (AY (hb pins s2 σ1 H2 _ I2 q2) λf s3 q3=>?_);cases f with
  | next =>
   obtain ⟨σ3,H3,I3,n3⟩:=q3;obtain ⟨m',hm,w3⟩:=hN σ3 H3 n3;exact ⟨m',hm,σ3,H3,I3,w3⟩
  | cont =>
   obtain ⟨σ3,H3,I3,n3⟩:=q3;obtain ⟨m',hm,w3⟩:=hN σ3 H3 n3;exact ⟨m',hm,σ3,H3,I3,w3⟩
  | brk=>exact q3
  | ret v=>exact q3
 | false =>
  rw [if_neg Bool.false_ne_true];exact wpAny_execs_nil ⟨σ1,H2,I2,q2⟩
end
structure It where
 go:Nat->Hp->Prop
 yld:Nat->Hp->V->Hp->Prop
 stop:Nat->Hp->Prop
noncomputable def FW (X:Cx)(pins:List (Addr × Obj))(H:Hp)(b:Addr):Prop :=
 H b=none/\b≠X.env.locals/\b∉X.fs/\(b∈X.ex\/X.s₀.heap.objs.size<=b)/\(∀ x c,X.env.cells.lookup x=some c->c≠b)/\∀ p∈X.pn++pins,p.1≠b
theorem Inv.aa4 {X:Cx}{pins:List (Addr × Obj)}{σ:St}{H H':Hp}{s:Shared}{b:Addr}(I:Inv X pins σ H s)(hb:s.heap.objs.size<=b)(hn:H' b=none):FW X pins H' b:=by
 refine ⟨hn,Nat.ne_of_gt (Nat.lt_of_lt_of_le I.lt hb),I.ab0 hb,.inr (Nat.le_trans I.sz hb),λx c e z=>?_,λp hp z=>?_⟩
 ·obtain ⟨v,q⟩:=I.cell x c e;exact absurd (Nat.lt_of_lt_of_le q.lt (by rw [z];exact hb)) (Nat.lt_irrefl _)
 ·exact absurd (Nat.lt_of_lt_of_le (Heap.lt_size (I.pin p hp).1) (by rw [z];exact hb)) (Nat.lt_irrefl _)
structure Turn (P:Program)(w:World)(K:W.Frag)(tg:Expr)(J:It)(fp:List Addr)(it:Addr)(tn:Nat->Heap->Prop):Prop where
 mem:it∈fp
 obj:∀ i h,tn i h->∀ b∈fp,∃ o,h.get? b=some o/\∀ v,o.data≠.cell v
 keep:∀ i h h',tn i h->(∀ b∈fp,∀ o,h.get? b=some o->h'.get? b=some o)->tn i h'
 item:∀ (X:Cx),X.prog=P->X.w=w->X.K=K->X.calm=true->∀ (i:Nat) (pins:List (Addr × Obj)) (s:Shared) (σ:St) (H:Hp) (E:Value->Shared->Prop),Inv X pins σ H s->(∀ b∈fp,FW X pins H b)->tn i s.heap->J.go i H ->
  wpAny (model P w) X.A (pyNext (.ref it)) (λr s1=>∃ u,r=some u /\
   wpAny (model P w) X.A (letOwnedTupleGo tg (.ref it) u) (λ_ s2=>∃ x H',Inv X pins σ H' s2/\RelV x u/\J.yld i H x H'/\tn (i+1) s2.heap/\∀ b∈fp,H' b=none) E s1) E s
 done:∀ (X:Cx),X.prog=P->X.w=w->X.K=K->X.calm=true->∀ (i:Nat) (pins:List (Addr × Obj)) (s:Shared) (σ:St) (H:Hp) (E:Value->Shared->Prop),Inv X pins σ H s->(∀ b∈fp,FW X pins H b)->tn i s.heap->J.stop i H ->
  wpAny (model P w) X.A (pyNext (.ref it)) (λr s1=>r=none/\Inv X pins σ H s1) E s
 self:∀ (A:Around) (i:Nat) (s:Shared) (Q:Value->Shared->Prop) (E:Value->Shared->Prop),tn i s.heap->Q (.ref it) s->wpAny (model P w) A (pyIter (.ref it)) Q E s
abbrev TI:=St->Hp->(It->Hp->Prop)->Prop
noncomputable def wm (X:Cx)(pins:List (Addr × Obj))(σ:St)(tg:Expr)(R:It->Hp->Prop)(Hq:Value)(s2:Shared):Prop :=
 ∃ (it:Addr) (fp:List Addr) (tn:Nat->Heap->Prop) (J:It) (H':Hp),Hq=.ref it/\Inv X pins σ H' s2/\Turn X.prog X.w X.K tg J fp it tn/\tn 0 s2.heap/\(∀ b∈fp,FW X pins H' b)/\R J H'
noncomputable def PI (X:Cx)(tg iter:Expr)(wi:TI):Prop :=
 ∀ (pins:List (Addr × Obj)) (s:Shared) (σ:St) (H:Hp) (R:It->Hp->Prop),Inv X pins σ H s->wi σ H R ->
  wpAny (model X.prog X.w) X.A (eval iter X.env) (λv s1=>wpAny (model X.prog X.w) X.A (pyIter v) (wm X pins σ tg R) X.xe s1) X.xe s
theorem LJ {M:Model}{A:Around}{E:Value->Shared->Prop}{s:Shared}{tg:Expr}{it:Addr}{u:Value}{o:Obj}{n:String}{vs:Array Value}{Q:Unit->Shared->Prop}(ho:s.heap.get? it=some o)(hc:o.cls=.type n)(hd:o.data=.fields vs)
    (hn:["enumerate","zip","dict_itemiterator","dict_reverseitemiterator","odict_iterator","itertools.zip_longest","itertools.pairwise"].contains n=false) (hQ:Q .unit s):wpAny M A (letOwnedTupleGo tg (.ref it) u) Q E s:=by
  unfold letOwnedTupleGo;cases tg <;> first
    | exact wpAny_pure hQ
    | (cases u <;> first
        | exact wpAny_pure hQ
        | (refine wpAny_bind (wpAny_load ho ?_)
           rw [hc,hd];show wpAny M A (if (["enumerate","zip","dict_itemiterator","dict_reverseitemiterator","odict_iterator","itertools.zip_longest","itertools.pairwise"].contains n && vs[0]?==some (rawInt _))=true then _ else _) Q E s
           rw [if_neg (by intro h;rw [hn,Bool.false_and] at h;cases h)];exact wpAny_pure hQ))
noncomputable def Rf (K:W.Frag)(a:Addr):It :=
 ⟨λi H=>∃ xs x,AO K H a xs/\xs[i]?=some x,λi H x H'=>H'=H/\∀ xs,AO K H a xs->xs[i]?=some x,λi H=>∃ xs,AO K H a xs/\xs.length<=i⟩
noncomputable def V' (K:W.Frag)(a:Addr):It :=
 ⟨λi H=>∃ xs x,CZ K H a xs/\xs[i]?=some x,λi H x H'=>H'=H/\∀ xs,CZ K H a xs->xs[i]?=some x,λi H=>∃ xs,CZ K H a xs/\xs.length<=i⟩
noncomputable def Rg (lo:Int)(n:Nat):It:=⟨λi _=>i < n,λi H x H'=>H'=H/\x=.int (lo+i),λi _=>n<=i⟩
theorem ML {P:Program}{w:World}{K:W.Frag}{tg:Expr}(a it:Addr):Turn P w K tg (Rf K a) [it] it (λi h=>h.IsListIter it a i) where
 mem:=by simp
 obj:=λi h st b hb=>by
  have e:b=it:=by simpa using hb
  subst e;obtain ⟨o,e,c,d⟩:=st;exact ⟨o,e,λv z=>by rw [d] at z;cases z⟩
 keep:=λi h h' st k=>st.at λo e=>k it (by simp) o e
 item:=by
  intro X hP hw hK hc i pins s σ H E I hf st hg;subst hP hw hK;obtain ⟨xs,x,hq,hx⟩:=hg;obtain ⟨its,rv,p,hz⟩:=I.list hq;obtain ⟨u,hu,ru⟩:=rv.get hx;obtain ⟨f0,f1,f2,f3,f4,f5⟩:=hf it (by simp);refine wpAny_pyNext_list_item st p.isList (x:=u) (by simpa using hu) λh' Fv sb=>?_;have I1:Inv X pins σ H { s with heap:=h' }:=I.turned (t':=s.toks) (λb o hb e=>(sb.2 b hb).trans e) f0 f1 f3 f4 f5;obtain ⟨o,e,c,d⟩:=id Fv;exact ⟨u,rfl,LJ (s:={ s with heap:=h' }) e c d ⟨⟩ ⟨x,H,I1,ru,⟨rfl,λys hy=>by rw [I.aax hy hq];exact hx⟩,Fv,λb hb=>(hf b hb).1⟩⟩
 done:=by
  intro X hP hw hK hc i pins s σ H E I hf st hg;subst hP hw hK;obtain ⟨xs,hq,hx⟩:=hg;obtain ⟨its,rv,p,hz⟩:=I.list hq;obtain ⟨f0,f1,f2,f3,f4,f5⟩:=hf it (by simp);have hl:=rv.length;exact wpAny_pyNext_list_end (I.ok.hd hc) st p.isList (by simp;omega) λh' eb=>⟨rfl,I.turned (t':=s.toks) (λb o hb e=>eb b o hb e) f0 f1 f3 f4 f5⟩
 self:=λ_ _ _ _ _ st h=>wpAny_pyIter_listiter st h
theorem Kh {P:Program}{w:World}{K:W.Frag}{tg:Expr}(a it:Addr):Turn P w K tg (V' K a) [it] it (λi h=>h.IsTupleIter it a i) where
 mem:=by simp
 obj:=λi h st b hb=>by
  have e:b=it:=by simpa using hb
  subst e;obtain ⟨o,e,c,d⟩:=st;exact ⟨o,e,λv z=>by rw [d] at z;cases z⟩
 keep:=λi h h' st k=>st.at λo e=>k it (by simp) o e
 item:=by
  intro X hP hw hK hc i pins s σ H E I hf st hg;subst hP hw hK;obtain ⟨xs,x,hq,hx⟩:=hg;obtain ⟨its,rv,p,hz⟩:=I.tuple hq;obtain ⟨u,hu,ru⟩:=rv.get hx;obtain ⟨f0,f1,f2,f3,f4,f5⟩:=hf it (by simp);refine wpAny_pyNext_tuple_item st (show s.heap.IsTuple a its.toArray from p) (x:=u) (by simpa using hu) λh' Fv sb=>?_;have I1:Inv X pins σ H { s with heap:=h' }:=I.turned (t':=s.toks) (λb o hb e=>(sb.2 b hb).trans e) f0 f1 f3 f4 f5;obtain ⟨o,e,c,d⟩:=id Fv;exact ⟨u,rfl,LJ (s:={ s with heap:=h' }) e c d ⟨⟩ ⟨x,H,I1,ru,⟨rfl,λys hy=>by rw [I.aa1 hy hq];exact hx⟩,Fv,λb hb=>(hf b hb).1⟩⟩
 done:=by
  intro X hP hw hK hc i pins s σ H E I hf st hg;subst hP hw hK;obtain ⟨xs,hq,hx⟩:=hg;obtain ⟨its,rv,p,hz⟩:=I.tuple hq;obtain ⟨f0,f1,f2,f3,f4,f5⟩:=hf it (by simp);have hl:=rv.length;exact wpAny_pyNext_tuple_end (I.ok.hd hc) st (show s.heap.IsTuple a its.toArray from p) (by simp;omega) λh' eb=>⟨rfl,I.turned (t':=s.toks) (λb o hb e=>eb b o hb e) f0 f1 f3 f4 f5⟩
 self:=λ_ _ _ _ _ st h=>wpAny_pyIter_tupleiter st h
theorem Ki {P:Program}{w:World}{K:W.Frag}{tg:Expr}(it:Addr)(lo:Int)(n:Nat):Turn P w K tg (Rg lo n) [it] it (λi h=>IsRangeIter h it (lo+(i:Nat) * 1) ((n:Int) - (i:Nat)) 1) where
 mem:=by simp
 obj:=λi h st b hb=>by
  have e:b=it:=by simpa using hb
  subst e;exact ⟨_,st,λv z=>by
   have z':Data.fields _=Data.cell v:=z;cases z'⟩
 keep:=λi h h' st k=>k it (by simp) _ st
 item:=by
  intro X hP hw hK hc i pins s σ H E I hf st hg;subst hP hw hK;obtain ⟨f0,f1,f2,f3,f4,f5⟩:=hf it (by simp);have W:=Walks.range (prog:=X.prog) (w:=X.w) (I.ok.hd hc) it lo 1 n;refine W.item i s _ _ hg st λv h' tk hv Fv kk=>?_;obtain ⟨t,rfl⟩:=hv;have I1:Inv X pins σ H { s with heap:=h',toks:=tk }:=I.turned (λb o hb e=>kk b o (by simpa using hb) e) f0 f1 f3 f4 f5;refine ⟨_,rfl,LJ (s:={ s with heap:=h',toks:=tk }) (n:="range_iterator") Fv rfl rfl ⟨⟩ ⟨.int (lo+i),H,I1,⟨t,?_⟩,⟨rfl,rfl⟩,Fv,λb hb=>(hf b hb).1⟩⟩;rw [Int.mul_one]
 done:=by
  intro X hP hw hK hc i pins s σ H E I hf st hg;subst hP hw hK;obtain ⟨f0,f1,f2,f3,f4,f5⟩:=hf it (by simp);exact wpAny_pyNext_range_end (I.ok.hd hc) st (by have:n<=i:=hg;omega) λh' eb=>⟨rfl,I.turned (t':=s.toks) (λb o hb e=>eb b o hb e) f0 f1 f3 f4 f5⟩
 self:=λ_ _ _ _ _ st h=>wpAny_pyIter_rangeiter st h
section
variable {X:Cx}{tg:Expr}
noncomputable def UT (K:W.Frag)(tl:TE):TI:=fun σ H R=>tl σ H λx H1=>∃ a,x=.ref a/\(∃ xs,AO K H1 a xs)/\R (Rf K a) H1
noncomputable def W0 (K:W.Frag)(tl:TE):TI:=fun σ H R=>tl σ H λx H1=>∃ a,x=.ref a/\(∃ xs,CZ K H1 a xs)/\R (V' K a) H1
theorem RH {l:Expr}{tl:TE}(hl:PE X l tl):PI X tg l (UT X.K tl):=by
 intro pins s σ H R I h;refine AY (hl pins s σ H _ I h) λv s1 AE=>?_;obtain ⟨x,H1,I1,r1,q1⟩:=AE;obtain ⟨a,e,⟨xs,hq⟩,q⟩:=q1;subst e;cases r1;obtain ⟨its,rv,p,hz⟩:=I1.list hq;refine wpAny_pyIter_list p.isList ?_;refine ⟨s1.heap.objs.size,[s1.heap.objs.size],_,_,H1,rfl,I1.kept (t':=s1.toks) λb o e=>Heap.get?_push_of_some _ e,ML a _,⟨_,Heap.get?_push_size _ rfl,rfl,rfl⟩,λb hb=>?_,q⟩;have e:b=s1.heap.objs.size:=by simpa using hb
 subst e;exact I1.aa4 (Nat.le_refl _) (I1.hok.fresh (Nat.le_refl _))
theorem W2 {l:Expr}{tl:TE}(hl:PE X l tl):PI X tg l (W0 X.K tl):=by
 intro pins s σ H R I h;refine AY (hl pins s σ H _ I h) λv s1 AE=>?_;obtain ⟨x,H1,I1,r1,q1⟩:=AE;obtain ⟨a,e,⟨xs,hq⟩,q⟩:=q1;subst e;cases r1;obtain ⟨its,rv,p,hz⟩:=I1.tuple hq;refine wpAny_pyIter_tuple (show s1.heap.IsTuple a its.toArray from p) ?_;refine ⟨s1.heap.objs.size,[s1.heap.objs.size],_,_,H1,rfl,I1.kept (t':=s1.toks) λb o e=>Heap.get?_push_of_some _ e,Kh a _,⟨_,Heap.get?_push_size _ rfl,rfl,rfl⟩,λb hb=>?_,q⟩;have e:b=s1.heap.objs.size:=by simpa using hb
 subst e;exact I1.aa4 (Nat.le_refl _) (I1.hok.fresh (Nat.le_refl _))
theorem Jc {pins:List (Addr × Obj)}{σ:St}{H:Hp}{s:Shared}{R:It->Hp->Prop}{E:Value->Shared->Prop}{lo hi:Int}{t u v:Tok}{tk:Nat}(I:Inv X pins σ H s)(h1:-(2 ^ 62)<=lo)(h2:lo < 2 ^ 62)(h3:-(2 ^ 62)<=hi)(h4:hi < 2 ^ 62)
  (q:R (Rg lo (hi - lo).toNat) H):wpAny (model X.prog X.w) X.A (pyIter (.ref s.heap.objs.size)) (wm X pins σ tg R) E { s with heap:=s.heap.push { cls:=.type "range",data:=.fields #[.int lo t,.int hi u,.int 1 v] },toks:=tk }:=by
 refine wpAny_pyIter_range (IsRange.new ..) (small_one h1 h2 h3 h4) ?_;have I1:Inv X pins σ H { s with heap:=s.heap.push { cls:=.type "range",data:=.fields #[.int lo t,.int hi u,.int 1 v] },toks:=tk }:=I.kept λb o e=>Heap.get?_push_of_some _ e;refine ⟨(s.heap.push { cls:=.type "range",data:=.fields #[.int lo t,.int hi u,.int 1 v] }).objs.size,[(s.heap.push { cls:=.type "range",data:=.fields #[.int lo t,.int hi u,.int 1 v] }).objs.size],_,_,H,rfl,
  I1.kept (t':=tk) λb o e=>Heap.get?_push_of_some _ e,Ki _ lo (hi - lo).toNat,?_,λb hb=>?_,q⟩
 ·have e1:lo+((0:Nat):Int) * 1=lo:=by simp
  have e2:(((hi - lo).toNat:Nat):Int) - ((0:Nat):Int)=Builtin.Range.rangeSize lo hi 1:=by rw [rangeSize_one];split <;> omega
  show IsRangeIter _ _ (lo+((0:Nat):Int) * 1) ((((hi - lo).toNat:Nat):Int) - ((0:Nat):Int)) 1;rw [e1,e2];exact Heap.get?_push_size _ rfl
 ·have e:b=(s.heap.push { cls:=.type "range",data:=.fields #[.int lo t,.int hi u,.int 1 v] }).objs.size:=by simpa using hb
  subst e;exact I1.aa4 (Nat.le_refl _) (I1.hok.fresh (Nat.le_refl _))
noncomputable def OL (ta:TA):TI:=fun σ H R=>ta σ H λvs H1=>∃ j:Int,vs=[.int j]/\-(2 ^ 62)<=j/\j < 2 ^ 62/\R (Rg 0 j.toNat) H1
noncomputable def OM (ta:TA):TI:=fun σ H R=>ta σ H λvs H1=>∃ i j:Int,vs=[.int i,.int j]/\(-(2 ^ 62)<=i/\i < 2 ^ 62/\-(2 ^ 62)<=j/\j < 2 ^ 62)/\R (Rg i (j - i).toNat) H1
theorem MM {a:Expr}{ta:TA}{p pos:Pos}(hg:Gl X "range")(hm:X.mg "range"=none)(ha:PA X [a] ta)(hs:starEach [a] X.env=[(false,eval a X.env)]:=by rfl):PI X tg (.Call (.Name "range" p) [a] [] pos) (OL ta):=by
 intro pins s σ H R I h;refine Call_ (Cq I hg hm boot_range (PyProof.Rows.callWith_type1 (AY (ha pos pins s σ H _ I h) λus s1 AE=>?_) hs rfl));obtain ⟨vs,H1,I1,r1,q1⟩:=AE;obtain ⟨j,e,q1,q2,q⟩:=q1;subst e;cases r1 with
 | cons r rr =>
  cases rr;obtain ⟨t,rfl⟩:=r;exact call_range_1 (Jc I1 () () q1 q2 (by simpa using q))
theorem MO {a b:Expr}{ta:TA}{p pos:Pos}(hg:Gl X "range")(hm:X.mg "range"=none)(ha:PA X [a,b] ta)(hs:starEach [a,b] X.env=[(false,eval a X.env),(false,eval b X.env)]:=by rfl)(W3:starEach [b] X.env=[(false,eval b X.env)]:=by rfl):
  PI X tg (.Call (.Name "range" p) [a,b] [] pos) (OM ta):=by
 intro pins s σ H R I h;refine Call_ (Cq I hg hm boot_range (PyProof.Rows.callWith_type1 (AY (ha pos pins s σ H _ I h) λus s1 AE=>?_) (by rw [hs,W3]) (by rw [W3];rfl)));obtain ⟨vs,H1,I1,r1,q1⟩:=AE;obtain ⟨i,j,e,⟨q1,q2,q3,q4⟩,q⟩:=q1;subst e;cases r1 with
 | cons r rr =>
  cases rr with
  | cons r' rr =>
   cases rr;obtain ⟨t,rfl⟩:=r;obtain ⟨t',rfl⟩:=r';exact call_range_2 (Jc I1 q1 q2 q3 q4 q)
noncomputable def RI (wi:TI)(g:TG)(tb:TS):TS:=λD σ H=>wi σ H λJ H1=>∃ W:Nat->Nat->St->Hp->Prop,(∃ m,W 0 m σ H1)/\∀ i m σ H,W i m σ H ->
 (J.stop i H/\D.nx σ H)\/(J.go i H/\∃ N:St->Hp->Prop,(∀ σ' H',N σ' H'->∃ m',m' < m/\W (i+1) m' σ' H')/\∀ x H',J.yld i H x H'->g x σ H' fun σ2 H2=>tb { D with nx:=N,ct:=N,bk:=D.nx } σ2 H2)
noncomputable def Gk (fp:List Addr)(h:Heap):List (Addr × Obj):=fp.filterMap λb=>(h.get? b).map λo=>(b,o)
theorem DK {fp:List Addr}{h:Heap}{b:Addr}{o:Obj}(hb:b∈fp)(e:h.get? b=some o):(b,o)∈Gk fp h:=List.mem_filterMap.mpr ⟨b,hb,by rw [e];rfl⟩
theorem MP {fp:List Addr}{h:Heap}{p:Addr × Obj}(hp:p∈Gk fp h):p.1∈fp/\h.get? p.1=some p.2:=by
 obtain ⟨b,hb,e⟩:=List.mem_filterMap.mp hp;cases q:h.get? b with
 | none=>rw [q] at e;cases e
 | some o =>
  rw [q] at e;have e':(b,o)=p:=Option.some.inj e;subst e';exact ⟨hb,q⟩
theorem Inv.pinned {pins:List (Addr × Obj)}{σ:St}{H:Hp}{s:Shared}{fp:List Addr}(I:Inv X pins σ H s)(hf:∀ b∈fp,FW X pins H b)(ho:∀ b∈fp,∃ o,s.heap.get? b=some o/\∀ v,o.data≠.cell v):Inv X (pins++Gk fp s.heap) σ H s :=
 I.aaf λp hp=>(List.mem_append.mp hp).elim (λz=>I.pin p (List.mem_append_right _ z)) λz=>by
  obtain ⟨hb,e⟩:=MP z;obtain ⟨f0,f1,f2,_⟩:=hf p.1 hb;obtain ⟨o,e',d⟩:=ho p.1 hb;rw [e] at e';cases e';exact ⟨e,f0,f1,f2,d⟩
theorem Inv.aap {pins pl:List (Addr × Obj)}{σ:St}{H:Hp}{s:Shared}(I:Inv X (pins++pl) σ H s):Inv X pins σ H s:=I.aaf λp hp=>I.pin p (List.mem_append_right _ (List.mem_append_left _ hp))
theorem W4 {iter:Expr}{body:List Stmt}{wi:TI}{g:TG}{tb:TS}{pos:Pos}(hp:PassesOwn (model X.prog X.w) X.A X.env X.xe)(hc:X.calm=true)(hi:PI X tg iter wi)(hg:PG X tg g)(hb:LF X body tb)
  (hs:∀ x,foldedSetIterable iter X.env x=pure x:=by intro _;rfl):PS X (.For tg iter body [] pos) (RI wi g tb):=by
 intro pins s σ H D I h;refine wpAny_For (AY (hi pins s σ H _ I h) λv s1 h1=>AY h1 λHq s2 h2=>?_) hs;obtain ⟨it,fp,tn,J,H2,e,I2,T,UU,f2,W,⟨m0,w0⟩,turn⟩:=h2;subst e;have W6:∀ {H':Hp},(∀ b∈fp,H' b=none)->∀ b∈fp,FW X pins H' b:=λhn b hb=>⟨hn b hb,(f2 b hb).2⟩;refine codeAny_forLoop_any (λn s'=>∃ i σ' H',Inv X pins σ' H' s'/\tn i s'.heap/\(∀ b∈fp,H' b=none)/\W i n σ' H') ?_ m0 ⟨0,σ,H2,I2,UU,λb hb=>(f2 b hb).1,w0⟩;rintro n s3 ⟨i,σ3,H3,I3,cO,Oh,w3⟩;rcases turn i n σ3 H3 w3 with ⟨stop,qn⟩ | ⟨go,N,hN,step⟩
 ·refine wpAny_passesOwn hp (AY (T.done X rfl rfl rfl hc i pins s3 σ3 H3 X.xe I3 (W6 Oh) cO stop) λr s4 AE=>?_);obtain ⟨hr,I4⟩:=AE;subst hr;exact wpAny_execs_nil ⟨σ3,H3,I4,qn⟩
 ·refine wpAny_passesOwn hp (AY (T.item X rfl rfl rfl hc i pins s3 σ3 H3 X.xe I3 (W6 Oh) cO go) λr s4 AE=>?_);obtain ⟨u,hr,h4⟩:=AE;subst hr;refine wpAny_passesOwn hp (AY h4 λ_ s5 AE=>?_);obtain ⟨x,H5,I5,r5,y5,W7,ON⟩:=AE;have mf:=I5.pinned (W6 ON) (T.obj _ _ W7);refine wpAny_passesOwn hp (AY (hg _ s5 σ3 H5 x u _ mf r5 (step x H5 y5)) λ_ s6 AE=>?_);obtain ⟨σ6,H6,I6,q6⟩:=AE;refine wpAny_passesOwn hp (AY (hb _ s6 σ6 H6 _ I6 q6) λf s7 q7=>?_);have again:∀ {σ7:St} {H7:Hp},Inv X (pins++Gk fp s5.heap) σ7 H7 s7->N σ7 H7->∃ m,m < n/\∃ i σ' H',Inv X pins σ' H' s7/\tn i s7.heap/\(∀ b∈fp,H' b=none)/\W i m σ' H':=λ{σ7 H7} I7 n7=>by
   obtain ⟨m',hm,w7⟩:=hN σ7 H7 n7;refine ⟨m',hm,i+1,σ7,H7,I7.aap,T.keep _ _ _ W7 λb hb o e=>(I7.pin (b,o) (List.mem_append_right _ (List.mem_append_right _ (DK hb e)))).1,λb hb=>?_,w7⟩;obtain ⟨o,e,d⟩:=T.obj _ _ W7 b hb;exact (I7.pin (b,o) (List.mem_append_right _ (List.mem_append_right _ (DK hb e)))).2.1
  cases f with
  | next=>obtain ⟨σ7,H7,I7,n7⟩:=q7;exact again I7 n7
  | cont=>obtain ⟨σ7,H7,I7,n7⟩:=q7;exact again I7 n7
  | brk=>obtain ⟨σ7,H7,I7,q7⟩:=q7;exact ⟨σ7,H7,I7.aap,q7⟩
  | ret v=>obtain ⟨x7,σ7,H7,I7,r7,q7⟩:=q7;exact ⟨x7,σ7,H7,I7.aap,r7,q7⟩
end
theorem cQ {K:W.Frag}{a:Addr}{xs:List V}{g:TG}{tb:TS}{D:Ends}{σ:St}{H:Hp}(Pv:Nat->St->Hp->Prop)(h0:Pv 0 σ H)(hl:∀ i σ H,i<=xs.length->Pv i σ H->AO K H a xs)
  (hs:∀ i x σ H,xs[i]?=some x->Pv i σ H->g x σ H fun σ2 H2=>tb { D with nx:=Pv (i+1),ct:=Pv (i+1),bk:=D.nx } σ2 H2) (hd:∀ σ H,Pv xs.length σ H->D.nx σ H) :
  ∃ W:Nat->Nat->St->Hp->Prop,(∃ m,W 0 m σ H)/\∀ i m σ H,W i m σ H ->
   ((Rf K a).stop i H/\D.nx σ H)\/((Rf K a).go i H/\∃ N:St->Hp->Prop,(∀ σ' H',N σ' H'->∃ m',m' < m/\W (i+1) m' σ' H')/\∀ x H',(Rf K a).yld i H x H'->g x σ H' fun σ2 H2=>tb { D with nx:=N,ct:=N,bk:=D.nx } σ2 H2):=by
 refine ⟨λi m σ H=>m=xs.length - i/\i<=xs.length/\Pv i σ H,⟨xs.length,by simp,Nat.zero_le _,h0⟩,?_⟩;rintro i m σ H ⟨rfl,hi,p⟩;have q:=hl i σ H hi p;by_cases DL:i < xs.length
 ·refine .inr ⟨⟨xs,xs[i],q,by simp [DL]⟩,Pv (i+1),fun σ' H' p'=>⟨xs.length - (i+1),(),rfl,DL,p'⟩,λx H' y=>?_⟩;obtain ⟨e,y⟩:=y;subst e;exact hs i x σ _ (y xs q) p
 ·have e:i=xs.length:=by omega
  subst e;exact .inl ⟨⟨xs,q,Nat.le_refl _⟩,hd σ H p⟩
theorem RJ {K:W.Frag}{a:Addr}{xs:List V}{g:TG}{tb:TS}{D:Ends}{σ:St}{H:Hp}(Pv:Nat->St->Hp->Prop)(h0:Pv 0 σ H)(hl:∀ i σ H,i<=xs.length->Pv i σ H->CZ K H a xs)
  (hs:∀ i x σ H,xs[i]?=some x->Pv i σ H->g x σ H fun σ2 H2=>tb { D with nx:=Pv (i+1),ct:=Pv (i+1),bk:=D.nx } σ2 H2) (hd:∀ σ H,Pv xs.length σ H->D.nx σ H) :
  ∃ W:Nat->Nat->St->Hp->Prop,(∃ m,W 0 m σ H)/\∀ i m σ H,W i m σ H ->
   ((V' K a).stop i H/\D.nx σ H)\/((V' K a).go i H/\∃ N:St->Hp->Prop,(∀ σ' H',N σ' H'->∃ m',m' < m/\W (i+1) m' σ' H')/\∀ x H',(V' K a).yld i H x H'->g x σ H' fun σ2 H2=>tb { D with nx:=N,ct:=N,bk:=D.nx } σ2 H2):=by
 refine ⟨λi m σ H=>m=xs.length - i/\i<=xs.length/\Pv i σ H,⟨xs.length,by simp,Nat.zero_le _,h0⟩,?_⟩;rintro i m σ H ⟨rfl,hi,p⟩;have q:=hl i σ H hi p;by_cases DL:i < xs.length
 ·refine .inr ⟨⟨xs,xs[i],q,by simp [DL]⟩,Pv (i+1),fun σ' H' p'=>⟨xs.length - (i+1),(),rfl,DL,p'⟩,λx H' y=>?_⟩;obtain ⟨e,y⟩:=y;subst e;exact hs i x σ _ (y xs q) p
 ·have e:i=xs.length:=by omega
  subst e;exact .inl ⟨⟨xs,q,Nat.le_refl _⟩,hd σ H p⟩
theorem MQ {lo:Int}{n:Nat}{g:TG}{tb:TS}{D:Ends}{σ:St}{H:Hp}(Pv:Nat->St->Hp->Prop)(h0:Pv 0 σ H)
  (hs:∀ i σ H,i < n->Pv i σ H->g (.int (lo+i)) σ H fun σ2 H2=>tb { D with nx:=Pv (i+1),ct:=Pv (i+1),bk:=D.nx } σ2 H2) (hd:∀ σ H,Pv n σ H->D.nx σ H) :
  ∃ W:Nat->Nat->St->Hp->Prop,(∃ m,W 0 m σ H)/\∀ i m σ H,W i m σ H ->
   ((Rg lo n).stop i H/\D.nx σ H)\/((Rg lo n).go i H/\∃ N:St->Hp->Prop,(∀ σ' H',N σ' H'->∃ m',m' < m/\W (i+1) m' σ' H')/\∀ x H',(Rg lo n).yld i H x H'->g x σ H' fun σ2 H2=>tb { D with nx:=N,ct:=N,bk:=D.nx } σ2 H2):=by
 refine ⟨λi m σ H=>m=n - i/\i<=n/\Pv i σ H,⟨n,by simp,Nat.zero_le _,h0⟩,?_⟩;rintro i m σ H ⟨rfl,hi,p⟩;by_cases DL:i < n
 ·refine .inr ⟨DL,Pv (i+1),fun σ' H' p'=>⟨n - (i+1),(),rfl,DL,p'⟩,λx H' y=>?_⟩;obtain ⟨e,y⟩:=y;subst e y;exact hs i σ _ DL p
 ·have e:i=n:=by omega
  subst e;exact .inl ⟨Nat.le_refl _,hd σ H p⟩
abbrev R2:=V->V->Hp->VK->Prop
noncomputable def Fw (X:Cx)(f:Value->Value->Sem Value)(r:R2):Prop :=
 ∀ (pins:List (Addr × Obj)) (s:Shared) (σ:St) (H:Hp) (x y:V) (v u:Value) (Q:VK),Inv X pins σ H s->RelV x v->RelV y u->r x y H Q ->
  wpAny (model X.prog X.w) X.A (f v u) (EP X pins σ Q) X.xe s
noncomputable def jY (X:Cx)(f:Value->Sem Value)(r:V->Hp->VK->Prop):Prop :=
 ∀ (pins:List (Addr × Obj)) (s:Shared) (σ:St) (H:Hp) (x:V) (v:Value) (Q:VK),Inv X pins σ H s->RelV x v->r x H Q ->
  wpAny (model X.prog X.w) X.A (f v) (EP X pins σ Q) X.xe s
noncomputable def DB (X:Cx)(f:Value)(r:List V->Hp->VK->Prop):Prop :=
 ∀ (pins:List (Addr × Obj)) (s:Shared) (σ:St) (H:Hp) (xs:List V) (us:List Value) (Q:VK),Inv X pins σ H s->Vals xs us->r xs H Q ->
  wpAny (model X.prog X.w) X.A (call f us) (EP X pins σ Q) X.xe s
noncomputable def mh (X:Cx)(r:V->Hp->(Bool->Hp->Prop)->Prop):Prop :=
 ∀ (pins:List (Addr × Obj)) (s:Shared) (σ:St) (H:Hp) (x:V) (v:Value) (Q:Bool->Hp->Prop),Inv X pins σ H s->RelV x v->r x H Q ->
  wpAny (model X.prog X.w) X.A (truthy v) (TP X pins σ Q) X.xe s
noncomputable def Kj (r:R2)(ta tb:TE):TE:=fun σ H Q=>ta σ H λx H1=>tb σ H1 λy H2=>r x y H2 Q
noncomputable def mj (r:V->Hp->VK->Prop)(ta:TE):TE:=fun σ H Q=>ta σ H λx H1=>r x H1 Q
noncomputable def rI (C:Int->Int->Prop)(g:Int->Int->V):R2:=λx y H Q=>∃ i j,x=.int i/\y=.int j/\C i j/\Q (g i j) H
noncomputable def UW (g:Int->Int->V):R2:=λx y H Q=>∃ i j,x=.int i/\y=.int j/\Q (g i j) H
noncomputable def rU (g:Int->V):V->Hp->VK->Prop:=λx H Q=>∃ i,x=.int i/\Q (g i) H
section
variable {X:Cx}{a b c:Expr}{ta tb tc:TE}{pos:Pos}
theorem W8 (ha:PE X a ta)(hb:PE X b tb){pins:List (Addr × Obj)}{s:Shared}{σ:St}{H:Hp}{R:V->V->Hp->Prop}(I:Inv X pins σ H s)
  (h:ta σ H λx H1=>tb σ H1 λy H2=>R x y H2) {Q:Value->Shared->Prop} {f:Value->Value->Sem Value}
  (hf:∀ v u s2 x y H2,Inv X pins σ H2 s2->RelV x v->RelV y u->R x y H2->wpAny (model X.prog X.w) X.A (f v u) Q X.xe s2) :
  wpAny (model X.prog X.w) X.A (eval a X.env) (λv s₁=>wpAny (model X.prog X.w) X.A (eval b X.env) (λu s₂=>wpAny (model X.prog X.w) X.A (f v u) Q X.xe s₂) X.xe s₁) X.xe s:=by
 refine AY (ha pins s σ H _ I h) λv s1 AE=>?_;obtain ⟨x,H1,I1,r1,q1⟩:=AE;refine AY (hb pins s1 σ H1 _ I1 q1) λu s2 AE=>?_;obtain ⟨y,H2,I2,r2,q2⟩:=AE;exact hf v u s2 x y H2 I2 r1 r2 q2
theorem E1 {op:Operator}{r:R2}(ho:Fw X (binaryOp op) r)(ha:PE X a ta)(hb:PE X b tb):PE X (.BinOp a op b pos) (Kj r ta tb):=by
 intro pins s σ H Q I h;exact wpAny_BinOp (W8 ha hb I h λv u s2 x y H2 I2 rx ry q=>ho pins s2 σ H2 x y v u Q I2 rx ry q)
theorem UX {op:UnaryOp}{r:V->Hp->VK->Prop}(ho:jY X (unaryOp op) r)(ha:PE X a ta):PE X (.UnaryOp op a pos) (mj r ta):=by
 intro pins s σ H Q I h;exact UnaryOp_ (AY (ha pins s σ H _ I h) λv s1 ⟨x,H1,I1,r1,q1⟩=>ho pins s1 σ H1 x v Q I1 r1 q1)
theorem jZ {f:Value->Value->Sem Value}{C:Int->Int->Prop}{g:Int->Int->Int}
  (rule:∀ (i j:Int) (t u:Tok) (s:Shared) (Q:Value->Shared->Prop) (E:Value->Shared->Prop),C i j->Q (.int (g i j) s.toks) { s with toks:=s.toks+1 }->wpAny (model X.prog X.w) X.A (f (.int i t) (.int j u)) Q E s) :
  Fw X f (rI C λi j=>.int (g i j)):=by
 intro pins s σ H x y v u Q I rx ry h;obtain ⟨i,j,rfl,rfl,hc,q⟩:=h;obtain ⟨t,rfl⟩:=rx;obtain ⟨t',rfl⟩:=ry;exact rule i j t t' s _ _ hc ⟨.int (g i j),H,I.tok _,⟨_,rfl⟩,q⟩
theorem cR {f:Value->Value->Sem Value}{g:Int->Int->Int}
  (rule:∀ (i j:Int) (t u:Tok) (s:Shared) (Q:Value->Shared->Prop) (E:Value->Shared->Prop),Q (.int (g i j) s.toks) { s with toks:=s.toks+1 }->wpAny (model X.prog X.w) X.A (f (.int i t) (.int j u)) Q E s) :
  Fw X f (UW λi j=>.int (g i j)):=by
 intro pins s σ H x y v u Q I rx ry h;obtain ⟨i,j,rfl,rfl,q⟩:=h;obtain ⟨t,rfl⟩:=rx;obtain ⟨t',rfl⟩:=ry;exact rule i j t t' s _ _ ⟨.int (g i j),H,I.tok _,⟨_,rfl⟩,q⟩
theorem cU {f:Value->Value->Sem Value}{g:Int->Int->Bool}
  (rule:∀ (i j:Int) (t u:Tok) (s:Shared) (Q:Value->Shared->Prop) (E:Value->Shared->Prop),Q (.bool (g i j)) s->wpAny (model X.prog X.w) X.A (f (.int i t) (.int j u)) Q E s) :
  Fw X f (UW λi j=>.bl (g i j)):=by
 intro pins s σ H x y v u Q I rx ry h;obtain ⟨i,j,rfl,rfl,q⟩:=h;obtain ⟨t,rfl⟩:=rx;obtain ⟨t',rfl⟩:=ry;exact rule i j t t' s _ _ ⟨.bl (g i j),H,I,rfl,q⟩
noncomputable def ml (i j:Int):Prop:=0 < j/\j < 1073741824
noncomputable def mm (i j:Int):Prop:=0<=j/\j<=1000000/\i.natAbs < 2 ^ 64
noncomputable def W9 (i j:Int):Prop:=(-(2 ^ 64) < i/\i < 2 ^ 64)\/(-(2 ^ 64) < j/\j < 2 ^ 64)
theorem W9.ok {i j:Int}(h:W9 i j):IntMulOk i j:=by
 rcases h with ⟨h1,h2⟩ | ⟨h1,h2⟩
 ·exact .of_left (intBits_le_64 h1 h2)
 ·exact .of_right (intBits_le_64 h1 h2)
theorem D9:Fw X (binaryOp .Add) (UW λi j=>.int (i+j)):=cR λ_ _ _ _ _ _ _ q=>add_int q
theorem Fx:Fw X (binaryOp .Sub) (UW λi j=>.int (i - j)):=cR λ_ _ _ _ _ _ _ q=>sub_int q
theorem Dw:Fw X (binaryOp .Mult) (rI W9 λi j=>.int (i * j)):=jZ λ_ _ _ _ _ _ _ hc q=>mul_int q hc.ok
theorem Cf:Fw X (binaryOp .FloorDiv) (rI ml λi j=>.int (i / j)):=jZ λi j _ _ _ _ _ hc q=>by
 have h1:(0:Int) < j:=hc.1;have h2:j < 1073741824:=hc.2;exact floordiv_int () (by rw [Int.fdiv_eq_ediv_of_nonneg i ()];exact q) (.inl (PyProof.noPylong_small ()))
theorem BW:Fw X (binaryOp .Mod) (rI (λ_ j=>0 < j) λi j=>.int (i % j)):=jZ λi j _ _ _ _ _ hc q=>by
 have h1:(0:Int) < j:=hc;exact mod_int' () (by rw [Int.fmod_eq_emod_of_nonneg i ()];exact q)
theorem OO:Fw X (binaryOp .Pow) (rI mm λi j=>.int (i ^ j.toNat)):=jZ λ_ _ _ _ _ _ _ hc q=>pow_int_small hc.1 hc.2.1 hc.2.2 q
theorem zf {f:Value->Sem Value}{g:Int->Int}
  (rule:∀ (i:Int) (t:Tok) (s:Shared) (Q:Value->Shared->Prop) (E:Value->Shared->Prop),Q (.int (g i) s.toks) { s with toks:=s.toks+1 }->wpAny (model X.prog X.w) X.A (f (.int i t)) Q E s) :
  jY X f (rU λi=>.int (g i)):=by
 intro pins s σ H x v Q I rx h;obtain ⟨i,rfl,q⟩:=h;obtain ⟨t,rfl⟩:=rx;exact rule i t s _ _ ⟨.int (g i),H,I.tok _,⟨_,rfl⟩,q⟩
theorem Ip:jY X (unaryOp .USub) (rU λi=>.int (-i)):=zf λ_ _ _ _ _ q=>neg_int q
end
noncomputable def RK:V->V->Bool
 | .non,.non=>true | .non,.int _=>true | .int _,.non=>true | .non,.bl _=>true | .bl _,.non=>true | .non,.str _=>true | .str _,.non=>true
 | .int _,.int _=>true | .bl _,.bl _=>true | .str _,.str _=>true | .byt _,.byt _=>true
 | .int _,.str _=>true | .str _,.int _=>true | .bl _,.str _=>true | .str _,.bl _=>true
 | _,_=>false
noncomputable def wo:R2:=λx y H Q=>RK x y=true/\Q (.bl (decide (x=y))) H
noncomputable def wq:R2:=λx y H Q=>RK x y=true/\Q (.bl (!decide (x=y))) H
theorem LK {i j:Int}:decide (V.int i=V.int j)=(i==j):=by
 rw [Bool.eq_iff_iff];simp
theorem OQ {i j:Bool}:decide (V.bl i=V.bl j)=(i==j):=by
 rw [Bool.eq_iff_iff];simp
theorem LL {i j:Str}:decide (V.str i=V.str j)=(i==j):=by
 rw [Bool.eq_iff_iff];simp
theorem LM {i j:Array UInt8}:decide (V.byt i=V.byt j)=(i.toList==j.toList):=by
 rw [Bool.eq_iff_iff];cases i;cases j;simp
section
variable {X:Cx}{a b c:Expr}{ta tb tc:TE}{pos:Pos}
theorem AH {pins:List (Addr × Obj)}{σ:St}{H:Hp}{s:Shared}{Q:VK}{k k':Bool}(I:Inv X pins σ H s)(q:Q (.bl k) H)(e:k=k'):EP X pins σ Q (.bool k') s:=by
 subst e;exact ⟨.bl k,H,I,rfl,q⟩
theorem BX:Fw X (compareOp .Eq) wo:=by
 intro pins s σ H x y v u Q I rx ry h;obtain ⟨hs,q⟩:=h;cases x with
 | non =>
  cases rx;cases y with
  | non=>cases ry;exact PySem.EqNone.eq_none_none (AH I q (by simp))
  | bl j=>cases ry;exact PySem.EqNone.eq_none_bool (AH I q (by simp))
  | int j=>obtain ⟨t',rfl⟩:=ry;exact PySem.EqNone.eq_none_int (AH I q (by simp))
  | str j=>obtain ⟨t',rfl⟩:=ry;exact PySem.EqNone.eq_none_str (AH I q (by simp))
  | _=>exact absurd (show false=true from hs) Bool.false_ne_true
 | bl i =>
  cases rx;cases y with
  | non=>cases ry;exact PySem.EqNone.eq_bool_none (AH I q (by simp))
  | bl j=>cases ry;exact eq_bool (AH I q OQ)
  | str j=>obtain ⟨t',rfl⟩:=ry;exact PySem.EqMixed.eq_bool_str (AH I q (by simp))
  | _=>exact absurd (show false=true from hs) Bool.false_ne_true
 | int i =>
  obtain ⟨t,rfl⟩:=rx;cases y with
  | non=>cases ry;exact PySem.EqNone.eq_int_none (AH I q (by simp))
  | int j=>obtain ⟨t',rfl⟩:=ry;exact eq_int (AH I q LK)
  | str j=>obtain ⟨t',rfl⟩:=ry;exact PySem.EqMixed.eq_int_str (AH I q (by simp))
  | _=>exact absurd (show false=true from hs) Bool.false_ne_true
 | str i =>
  obtain ⟨t,rfl⟩:=rx;cases y with
  | non=>cases ry;exact PySem.EqNone.eq_str_none (AH I q (by simp))
  | bl j=>cases ry;exact PySem.EqMixed.eq_str_bool (AH I q (by simp))
  | int j=>obtain ⟨t',rfl⟩:=ry;exact PySem.EqMixed.eq_str_int (AH I q (by simp))
  | str j=>obtain ⟨t',rfl⟩:=ry;exact eq_str (AH I q LL)
  | _=>exact absurd (show false=true from hs) Bool.false_ne_true
 | byt i =>
  obtain ⟨t,rfl⟩:=rx;cases y with
  | byt j=>obtain ⟨t',rfl⟩:=ry;exact W.eq_bytes (AH I q LM)
  | _=>exact absurd (show false=true from hs) Bool.false_ne_true
 | _=>cases y <;> exact absurd (show false=true from hs) Bool.false_ne_true
theorem HG:Fw X (compareOp .NotEq) wq:=by
 intro pins s σ H x y v u Q I rx ry h;obtain ⟨hs,q⟩:=h;cases x with
 | non =>
  cases rx;cases y with
  | non=>cases ry;exact PySem.EqNone.ne_none_none (AH I q (by simp))
  | bl j=>cases ry;exact PySem.EqNone.ne_none_bool (AH I q (by simp))
  | int j=>obtain ⟨t',rfl⟩:=ry;exact PySem.EqNone.ne_none_int (AH I q (by simp))
  | str j=>obtain ⟨t',rfl⟩:=ry;exact PySem.EqNone.ne_none_str (AH I q (by simp))
  | _=>exact absurd (show false=true from hs) Bool.false_ne_true
 | bl i =>
  cases rx;cases y with
  | non=>cases ry;exact PySem.EqNone.ne_bool_none (AH I q (by simp))
  | bl j=>cases ry;exact ne_bool (AH I q (congrArg not OQ))
  | str j=>obtain ⟨t',rfl⟩:=ry;exact PySem.EqMixed.ne_bool_str (AH I q (by simp))
  | _=>exact absurd (show false=true from hs) Bool.false_ne_true
 | int i =>
  obtain ⟨t,rfl⟩:=rx;cases y with
  | non=>cases ry;exact PySem.EqNone.ne_int_none (AH I q (by simp))
  | int j=>obtain ⟨t',rfl⟩:=ry;exact ne_int (AH I q (congrArg not LK))
  | str j=>obtain ⟨t',rfl⟩:=ry;exact PySem.EqMixed.ne_int_str (AH I q (by simp))
  | _=>exact absurd (show false=true from hs) Bool.false_ne_true
 | str i =>
  obtain ⟨t,rfl⟩:=rx;cases y with
  | non=>cases ry;exact PySem.EqNone.ne_str_none (AH I q (by simp))
  | bl j=>cases ry;exact PySem.EqMixed.ne_str_bool (AH I q (by simp))
  | int j=>obtain ⟨t',rfl⟩:=ry;exact PySem.EqMixed.ne_str_int (AH I q (by simp))
  | str j=>obtain ⟨t',rfl⟩:=ry;exact ne_str (AH I q (congrArg not LL))
  | _=>exact absurd (show false=true from hs) Bool.false_ne_true
 | byt i =>
  obtain ⟨t,rfl⟩:=rx;cases y with
  | byt j=>obtain ⟨t',rfl⟩:=ry;exact W.ne_bytes (AH I q (congrArg not LM))
  | _=>exact absurd (show false=true from hs) Bool.false_ne_true
 | _=>cases y <;> exact absurd (show false=true from hs) Bool.false_ne_true
theorem UY:Fw X (compareOp .Lt) (UW λi j=>.bl (decide (i < j))):=cU λ_ _ _ _ _ _ _ q=>lt_int q
theorem OR:Fw X (compareOp .Gt) (UW λi j=>.bl (decide (j < i))):=cU λ_ _ _ _ _ _ _ q=>gt_int q
theorem Wa:Fw X (compareOp .Is) (λx y H Q=>y=.non/\Q (.bl (decide (x=.non))) H):=by
 intro pins s σ H x y v u Q I rx ry h;obtain ⟨rfl,q⟩:=h;cases ry;refine is_none_gen (AH I q ?_);cases x <;> first
  | (cases rx;rfl)
  | (obtain ⟨t,rfl⟩:=rx;rfl)
theorem LN:Fw X (compareOp .IsNot) (λx y H Q=>y=.non/\Q (.bl (!decide (x=.non))) H):=by
 intro pins s σ H x y v u Q I rx ry h;obtain ⟨rfl,q⟩:=h;cases ry;refine isnot_none_gen (AH I q ?_);cases x <;> first
  | (cases rx;rfl)
  | (obtain ⟨t,rfl⟩:=rx;rfl)
theorem AF (b:Expr){op:CmpOp}(h:op≠.In:=by decide)(h2:op≠.NotIn:=by decide):behindInMarks op b=false:=by
 have e1:(op==CmpOp.In)=false:=by cases op <;> first | rfl | exact absurd rfl h
 have e2:(op==CmpOp.NotIn)=false:=by cases op <;> first | rfl | exact absurd rfl h2
 cases b <;> simp [behindInMarks,e1,e2]
theorem RL {op:CmpOp}{r:R2}(ho:Fw X (compareOp op) r)(ha:PE X a ta)(hb:PE X b tb)(hm:behindInMarks op b=false):PE X (.Compare a [op] [b] pos) (Kj r ta tb):=by
 intro pins s σ H Q I h;exact wpAny_Compare1 (W8 ha hb I h λv u s2 x y H2 I2 rx ry q=>ho pins s2 σ H2 x y v u Q I2 rx ry q) hm
noncomputable def OS (t:TE):TT:=fun σ H Q=>t σ H λx H'=>∃ k,x=.bl k/\Q k H'
theorem RM {op:CmpOp}{r:R2}(ho:Fw X (compareOp op) r)(ha:PE X a ta)(hb:PE X b tb)(hm:behindInMarks op b=false):PT X (.Compare a [op] [b] pos) (OS (Kj r ta tb)):=by
 intro pins s σ H Q I h;refine wpAny_isTrue_Compare1 (AY (ha pins s σ H _ I h) λv s1 AE=>?_) hm;obtain ⟨x,H1,I1,r1,q1⟩:=AE;refine AY (hb pins s1 σ H1 _ I1 q1) λu s2 AE=>?_;obtain ⟨y,H2,I2,r2,q2⟩:=AE;refine AY (ho pins s2 σ H2 x y v u _ I2 r1 r2 q2) λc s3 AE=>?_;obtain ⟨z,H3,I3,r3,k,e,q3⟩:=AE;subst e;cases r3;exact wpAny_truthy_bool ⟨H3,I3,q3⟩
noncomputable def Wb (K:W.Frag)(x:V)(H:Hp)(k:Bool):Prop :=
 match x with
 | .non=>k=false
 | .bl b=>k=b
 | .int i=>k=(i != 0)
 | .str y=>y.length<=sizeLine/\k=((y.length:Int) != 0)
 | .byt y=>y.size<=sizeLine/\k=((y.size:Int) != 0)
 | .ref p=>(∃ xs,AO K H p xs/\k=!xs.isEmpty)\/(∃ xs,CZ K H p xs/\k=!xs.isEmpty)\/∃ kvs,H p=some (.dK kvs)/\k=!kvs.isEmpty
 | _=>False
theorem Kk {κ:Type}{kvs:List (κ × V)}{vs:List (κ × Value)}(r:KV kvs vs):(!vs.isEmpty)=!kvs.isEmpty:=by
 cases r <;> rfl
theorem Gm {xs:List V}{its:List Value}(r:Vals xs its):(!its.toArray.isEmpty)=!xs.isEmpty:=by
 cases r <;> simp
theorem Gn:(sizeLine:Nat) < 2 ^ 63:=by rw [sizeLine_eq];decide
theorem Wc:mh X (λx H Q=>∃ k,Wb X.K x H k/\Q k H):=by
 intro pins s σ H x v Q I rx h;obtain ⟨k,e,q⟩:=h;have hl:=Gn;have hs:sizeLine=16777216:=sizeLine_eq;cases x with
 | non =>
  cases rx;have e':k=false:=e;subst e';exact truthy_none ⟨H,I,q⟩
 | bl b =>
  cases rx;have e':k=b:=e;subst e';exact wpAny_truthy_bool ⟨H,I,q⟩
 | int i =>
  obtain ⟨t,rfl⟩:=rx;have e':k=(i != 0):=e;subst e';exact PySem.P.truthy_int ⟨H,I,q⟩
 | str y =>
  obtain ⟨t,rfl⟩:=rx;obtain ⟨hy,e'⟩:y.length<=sizeLine/\k=((y.length:Int) != 0):=e;subst e';exact PySem.P.truthy_str () ⟨H,I.tok _,q⟩
 | byt y =>
  obtain ⟨t,rfl⟩:=rx;obtain ⟨hy,e'⟩:y.size<=sizeLine/\k=((y.size:Int) != 0):=e;subst e';exact W.truthy_bytes () ⟨H,I.tok _,q⟩
 | ref p =>
  cases rx;have e':(∃ xs,AO X.K H p xs/\k=!xs.isEmpty)\/(∃ xs,CZ X.K H p xs/\k=!xs.isEmpty)\/∃ kvs,H p=some (.dK kvs)/\k=!kvs.isEmpty:=e;rcases e' with ⟨xs,hx,e'⟩ | ⟨xs,hx,e'⟩ | ⟨kvs,hx,e'⟩
  ·subst e';obtain ⟨its,r,pl,hz⟩:=I.list hx;have hlen:=r.length;exact wpAny_truthy_list pl.isList (by simp only [List.size_toArray];omega) ⟨H,I.tok _,by rw [Gm r];exact q⟩
  ·subst e';obtain ⟨its,r,pl,hz⟩:=I.tuple hx;have hlen:=r.length;exact truthy_tuple pl (by simp only [List.size_toArray];omega) ⟨H,I.tok _,by rw [Gm r];exact q⟩
  ·subst e';obtain ⟨hz,hS,vs,r,m⟩:kvs.length<=sizeLine/\(p==sysModules)=false/\∃ vs,KV kvs vs/\s.heap.DictOf (AS X.prog X.w) p vs:=I.hok p _ hx;have hlen:kvs.length=vs.length:=Paired.length r;exact wpAny_truthy_dict hS m () ⟨H,I.tok _,by rw [Kk r];exact q⟩
 | _=>exact (show False from e).elim
theorem Jd (ha:PE X a ta)(he:∀ whole,isTrue a X.env whole=(do let v <- whole;standAt a.pos;holding [v] (truthy v))):
  PT X a (fun σ H Q=>ta σ H λx H'=>∃ k,Wb X.K x H' k/\Q k H'):=by
 intro pins s σ H Q I h;exact isTrue_plain (AY (ha pins s σ H _ I h) λv s1 ⟨x,H1,I1,r1,q1⟩=>Wc pins s1 σ H1 x v Q I1 r1 q1) (he _)
theorem vals1 {x:V}{us:List Value}(r:Vals [x] us):∃ u,us=[u]/\RelV x u:=by
 cases r with
 | cons r1 r2=>cases r2;exact ⟨_,rfl,r1⟩
theorem vals2 {x y:V}{us:List Value}(r:Vals [x,y] us):∃ u w',us=[u,w']/\RelV x u/\RelV y w':=by
 cases r with
 | cons r1 r2 =>
  cases r2 with
  | cons r3 r4=>cases r4;exact ⟨_,_,rfl,r1,r3⟩
theorem HH:DB X (.type "int") (λxs H Q=>(∃ i,xs=[.int i]/\Q (.int i) H)\/∃ k,xs=[.bl k]/\Q (.int (if k then 1 else 0)) H):=by
 intro pins s σ H xs us Q I r h;rcases h with ⟨i,rfl,q⟩ | ⟨k,rfl,q⟩
 ·obtain ⟨u,rfl,t,rfl⟩:=vals1 r;exact call_int_int ⟨.int i,H,I,⟨_,rfl⟩,q⟩
 ·obtain ⟨u,rfl,r1⟩:=vals1 r;cases r1;exact call_int_bool ⟨.int (if k then 1 else 0),H,I.tok _,⟨_,rfl⟩,q⟩
end
structure Kl (h:Heap)(x dx C:Addr)(mA:Str->Option Value):Prop where
 obj:h.get? x=some (W.instObj C dx)
 ns:h.Ns1 dx mA
 ne:dx≠x
theorem MR {h:Heap}{dx:Addr}{mA:Str->Option Value}(n:h.Ns1 dx mA):∃ od,h.get? dx=some od/\∀ name,W.lookIn name od=some (mA name):=by
 obtain ⟨o,es,ep,ho,hd,hk,_,hm⟩:=n;refine ⟨o,ho,λname=>?_⟩;have e:=hm name;unfold nsFind findBy at e;rw [<- Array.find?_toList] at e;unfold W.lookIn;rw [hd];dsimp only;split
 ·rename_i y q;rw [q] at e;exact congrArg some e
 ·rename_i q;rw [q] at e;have a:es.toList.any (·.refKey)=false:=by
   rw [List.any_eq_false];intro y hy;obtain ⟨z,t,mn⟩:=hk y (Array.mem_toList_iff.mp hy);simp [DictEntry.refKey,mn]
  have a':¬ es.toList.any (·.refKey)=true:=by rw [a];exact Bool.false_ne_true
  rw [if_neg a'];exact congrArg some e
theorem Kl.look {h:Heap}{x dx C:Addr}{mA:Str->Option Value}(I:Kl h x dx C mA):∃ od,W.InstAt h x (W.instObj C dx) C (some od)/\∀ name,W.lookIn name od=some (mA name) :=
 let ⟨od,ho,hl⟩:=MR I.ns
 ⟨od,⟨I.obj,rfl,rfl,ho⟩,hl⟩
section
variable {prog:Program}{w:World}{A:Around}{E:Value->Shared->Prop}{s:Shared}{K:W.Frag}{x dx C f:Addr}{mA:Str->Option Value}{name:Str}{v:Value}
theorem get_map {expr:Bool}{Q:Value->Shared->Prop}(X:K.In s.heap)(I:Kl s.heap x dx C mA)(hg:W.plainGet K C name=true)(hh:W.hasDictIn K C=true)
  (ha:W.findIn K (.ref C) name=some none) (hv:mA name=some v) (j':W.handedIn v=true) (h:Q v { s with toks:=s.toks+1 }) :
  wpAny (model prog w) A (getAttr (.ref x) name expr) Q E s:=by
 obtain ⟨od,J,hl⟩:=I.look;exact W.get_value X J (W.plainGet_of hg).1 (W.findObj_own hh ha rfl (by rw [hl,hv])) j' h
theorem OU {pl:Sem Bool}{Q:Value × List Value->Shared->Prop}(X:K.In s.heap)(I:Kl s.heap x dx C mA)(hg:W.plainGet K C name=true)
  (hf:W.findIn K (.ref C) name=some (some (.ref f))) (ht:W.isFn K (.ref f)=true) (hv:mA name=none) (h:Q (.ref f,[.ref x]) s) :
  wpAny (model prog w) A (getMethod (.ref x) name pl) Q E s:=by
 obtain ⟨od,J,hl⟩:=I.look;exact W.method_fn X J (W.plainGet_of hg).1 (W.plainGet_of hg).2 hf (beq_iff_eq.mp ht) (by show (W.lookIn name od).map (·.isSome)=some false;rw [hl,hv];rfl) h
theorem RN {ns:List Str}{Q:Unit->Shared->Prop}(X:K.In s.heap)(I:Kl s.heap x dx C mA)
  (hs:W.findIn K (.ref C) "__setattr__"=some (some (.builtin "object.__setattr__"))) (hp:W.plainOver K C=true) (ht:W.takerIn K C name=some none) (hh:W.hasDictIn K C=true)
  (hw:PySem.Within mA ns) (hsz:ns.length<=sizeLine)
  (h:∀ h',Kl h' x dx C (λy=>if y=name then some v else mA y)->Heap.SameBut dx s.heap h'->Q .unit { s with heap:=h',toks:=s.toks+2 }) :
  wpAny (model prog w) A (setAttr (.ref x) name v) Q E s:=by
 obtain ⟨od,J,hl⟩:=I.look;refine W.set_plain X J hs (W.osa_open (s:={ s with toks:=s.toks+1 }) (r:=none) X J hp ht λb=>?_);obtain ⟨cd,hc,VJ⟩:=W.any_some hh;have hx:s.heap.get? x=some ⟨.ref C,some dx,.plain,#[]⟩:=I.obj;refine wpAny_bind (wpAny_pure (wpAny_bind (wpAny_bind (wpAny_loadPart hx (wpAny_bind (W.Looks.here (s:={ s with toks:=s.toks+1 }) (W.looks_clsIn X hc) ?_))))));rw [VJ];refine wpAny_pure (a:=some dx) (wpAny_bind (wpAny_pure (wpAny_bind ?_)));refine wpAny_nsSet1 (s:={ s with toks:=s.toks+1 }) I.ns λh' UZ W3=>?_;obtain ⟨oD,zg,zh,mq,hdD,mr⟩:=UZ.count (PySem.Within.cons name v hw);refine wpAny_bind (wpAny_lookBehind mq (by rw [hdD];exact pastItsLine_dict (Nat.le_trans mr (by rw [List.length_cons];omega))) ?_);exact wpAny_pure (h _ ⟨(W3.2 _ (Ne.symm I.ne)).trans I.obj,UZ,I.ne⟩ W3)
theorem OV {R:Result->Shared->Prop}{vs:List Value}{kw:List (Str × Value)}(X:K.In s.heap)(hm:W.makesIn K C=true)
  (hi:W.findIn K (.ref C) "__init__"=some (some (.ref f))) (hf:W.typeIn K (.ref f)=some (.type "function"))
  (h:codeAny (model prog w) (A.under (.builtin "type.__call__" ⟨.ref C::vs,kw⟩)) (.call (.ref f) ⟨.ref (s.heap.objs.size+1)::vs,kw⟩) (W.InitBack (s.heap.objs.size+1) R)
   { s with heap:=(s.heap.push W.emptyDict).push (W.instObj C s.heap.objs.size) }) :
  codeAny (model prog w) A (.call (.ref C) ⟨vs,kw⟩) R s:=by
 obtain ⟨hh,g,d,t,os⟩:=s;exact W.make_core (W.makes_of X hm) (W.looks_findIn X hi) (λself=>W.bind_fn X self hf) (.inl rfl) h
end
noncomputable def AK (f:Str)(v:V):List (Str × V)->List (Str × V)
 | []=>[(f,v)]
 | (g,x)::r=>if g=f then (g,v)::r else (g,x)::AK f v r
theorem FQ (f g:Str)(v:V):∀ fs:List (Str × V),(AK f v fs).lookup g=if g=f then some v else fs.lookup g
 | []=>by
  show List.lookup g [(f,v)]=_;by_cases h:g=f
  ·have hb:(g==f)=true:=beq_iff_eq.mpr h;simp only [List.lookup,hb,if_pos h]
  ·have hb:(g==f)=false:=beq_eq_false_iff_ne.mpr h;simp only [List.lookup,hb,if_neg h]
 | (k,x)::r=>by
  have ih:=FQ f g v r;rw [show AK f v ((k,x)::r)=(if k=f then (k,v)::r else (k,x)::AK f v r) from rfl]
  by_cases hk:k=f
  ·rw [if_pos hk];by_cases h:g=k
   ·have hb:(g==k)=true:=beq_iff_eq.mpr h;simp only [List.lookup,hb,if_pos (h.trans hk)]
   ·have hb:(g==k)=false:=beq_eq_false_iff_ne.mpr h;simp only [List.lookup,hb,if_neg (λe:g=f=>h (e.trans hk.symm))]
  ·rw [if_neg hk];by_cases h:g=k
   ·have hb:(g==k)=true:=beq_iff_eq.mpr h;simp only [List.lookup,hb,if_neg (λe:g=f=>hk (h.symm.trans e))]
   ·have hb:(g==k)=false:=beq_eq_false_iff_ne.mpr h;simp only [List.lookup,hb];exact ih
theorem Fy (f:Str)(v:V):∀ fs:List (Str × V),f∈(AK f v fs).map (·.1)/\∀ g,g∈fs.map (·.1)->g∈(AK f v fs).map (·.1)
 | []=>⟨by simp [AK],λg h=>by simp at h⟩
 | (k,x)::r=>by
  obtain ⟨i1,i2⟩:=Fy f v r;rw [show AK f v ((k,x)::r)=(if k=f then (k,v)::r else (k,x)::AK f v r) from rfl]
  by_cases hk:k=f
  ·rw [if_pos hk];subst hk;exact ⟨by simp,λg h=>by simpa using h⟩
  ·rw [if_neg hk];refine ⟨?_,λg h=>?_⟩
   ·rw [List.map_cons];exact List.mem_cons_of_mem _ i1
   ·rw [List.map_cons] at h ⊢;rcases List.mem_cons.mp h with e | e
    ·exact List.mem_cons.mpr (.inl e)
    ·exact List.mem_cons_of_mem _ (i2 g e)
theorem FR (f:Str)(v:V):∀ fs:List (Str × V),(AK f v fs).length<=fs.length+1
 | []=>by simp [AK]
 | (k,x)::r=>by
  have ih:=FR f v r;rw [show AK f v ((k,x)::r)=(if k=f then (k,v)::r else (k,x)::AK f v r) from rfl]
  by_cases hk:k=f
  ·rw [if_pos hk,List.length_cons,List.length_cons];omega
  ·rw [if_neg hk,List.length_cons,List.length_cons];omega
theorem DJ.some_of {v:V}{o:Option Value}(r:DJ (some v) o):∃ u,o=some u/\RelV v u:=by
 cases o with
 | none=>exact (show False from r).elim
 | some u=>exact ⟨u,rfl,r⟩
theorem DJ.none_of {o:Option Value}(r:DJ none o):o=none:=by
 cases o with
 | none=>rfl
 | some u=>exact (show False from r).elim
theorem MS {v:V}{u:Value}(r:RelV v u):W.handedIn u=true:=by
 cases v with
 | non=>cases (show u=Value.none from r);rfl
 | bl b=>cases (show u=Value.bool b from r);rfl
 | int i=>obtain ⟨t,e⟩:=(show ∃ t,u=Value.int i t from r);cases e;rfl
 | str x=>obtain ⟨t,e⟩:=(show ∃ t,u=Value.str x t from r);cases e;rfl
 | byt b=>obtain ⟨t,e⟩:=(show ∃ t,u=Value.bytes b t from r);cases e;rfl
 | flt b=>obtain ⟨t,e⟩:=(show ∃ t,u=Value.float b t from r);cases e;rfl
 | ref a=>cases (show u=Value.ref a from r);rfl
 | ty n=>cases (show u=Value.type n from r);rfl
section
variable {P:Program}{w:World}{H H':Hp}{h h':Heap}{a C dx:Addr}{fs b7:List (Str × V)}
theorem G8 (hok:Dv P w H h)(e:H a=some (.ins C dx fs)):∃ mA,Kl h a dx C mA/\(∀ f,DJ (fs.lookup f) (mA f))/\PySem.Within mA (fs.map (·.1))/\fs.length<=1000/\H dx=some (.own a):=by
 obtain ⟨d,z,ne,ob,mA,n,r,q⟩:=(show AN P w H h a (.ins C dx fs) from hok a _ e);exact ⟨mA,⟨ob,n,ne⟩,r,q,z,d⟩
end
structure G9 (K:W.Frag)(C:Addr):Prop where
 pg:W.plainGet K C Str.empty=true
 hd:W.hasDictIn K C=true
 po:W.plainOver K C=true
 sa:W.findIn K (.ref C) "__setattr__"=some (some (.builtin "object.__setattr__"))
theorem G9.get {K:W.Frag}{C:Addr}(c:G9 K C)(f:Str):W.plainGet K C f=true:=c.pg
noncomputable def BA (K:W.Frag)(C:Addr)(f:Str):Prop:=W.findIn K (.ref C) f=some none
theorem BA.abt {K:W.Frag}{C:Addr}{f:Str}(n:BA K C f):W.takerIn K C f=some none:=by
 unfold W.takerIn;rw [show W.findIn K (.ref C) f=some none from n];rfl
structure Meth (K:W.Frag)(C:Addr)(m:Str)(f:Addr):Prop where
 at_:W.findIn K (.ref C) m=some (some (.ref f))
 fn:W.isFn K (.ref f)=true
 kp:W.keepIn K (.ref f)=true
section
variable {X:Cx}{pins:List (Addr × Obj)}{σ:St}{H:Hp}{s:Shared}{a C dx:Addr}{fs:List (Str × V)}{f:Str}{v:V}{A:Around}{E:Value->Shared->Prop}
theorem Gp {b:Bool}{Q:Value->Shared->Prop}(I:Inv X pins σ H s)(e:H a=some (.ins C dx fs))(c:G9 X.K C)(n:BA X.K C f)(l:fs.lookup f=some v)
  (h:∀ u s',Inv X pins σ H s'->RelV v u->Q u s'):wpAny (model X.prog X.w) A (getAttr (.ref a) f b) Q E s:=by
 obtain ⟨mA,O,r,_,_,_⟩:=G8 I.hok e;obtain ⟨u,hu,ru⟩:=DJ.some_of (v:=v) (o:=mA f) (by rw [<- l];exact r f);exact get_map I.kIn O (c.get f) c.hd n hu (MS ru) (h u _ (I.tok _) ru)
theorem ER {m:Str}{g:Addr}{pl:Sem Bool}{Q:Value × List Value->Shared->Prop}(I:Inv X pins σ H s)(e:H a=some (.ins C dx fs))(c:G9 X.K C)(k:Meth X.K C m g)(l:fs.lookup m=none)
  (h:Q (.ref g,[.ref a]) s):wpAny (model X.prog X.w) A (getMethod (.ref a) m pl) Q E s:=by
 obtain ⟨mA,O,r,_,_,_⟩:=G8 I.hok e;have hn:mA m=none:=DJ.none_of (by rw [<- l];exact r m);exact OU I.kIn O (c.get m) k.at_ k.fn hn h
theorem Gq {y:V}{u:Value}{Q:Unit->Shared->Prop}(I:Inv X pins σ H s)(e:H a=some (.ins C dx fs))(c:G9 X.K C)(n:BA X.K C f)(hl:fs.length < 1000)(ry:RelV y u)
  (h:∀ s',Inv X pins σ (upd H a (.ins C dx (AK f y fs))) s'->Q .unit s'):wpAny (model X.prog X.w) A (setAttr (.ref a) f u) Q E s:=by
 obtain ⟨mA,O,r,wi,_,ho⟩:=G8 I.hok e;have hz:(fs.map (·.1)).length<=sizeLine:=by rw [List.length_map,sizeLine_eq];omega
 refine RN I.kIn O c.sa c.po n.abt c.hd wi hz λh' O' sb=>h _ ?_;have hd:∃ o,h'.get? dx=some o:=let ⟨o,_,_,e',_⟩:=O'.ns;⟨o,e'⟩;refine I.write (x:=a) (e:=dx) (by rw [e];exact True.intro) (.inr ho) (λb q hb z=>(sb.2 b hb).trans z) hd ?_;refine ⟨by rw [Ac O.ne];exact ho,?_,O.ne,O'.obj,_,O'.ns,λg=>?_,λg hg=>?_⟩
 ·have:=FR f y fs;omega
 ·show DJ ((AK f y fs).lookup g) (if g=f then some u else mA g)
  rw [FQ];by_cases q:g=f
  ·rw [if_pos q,if_pos q];exact ry
  ·rw [if_neg q,if_neg q];exact r g
 ·by_cases q:g=f
  ·rw [q];exact (Fy f y fs).1
  ·refine (Fy f y fs).2 g (wi g λz=>hg ?_);show (if g=f then some u else mA g)=none
   rw [if_neg q];exact z
theorem Inv.made (I:Inv X pins σ H s):Inv X pins σ (upd (upd H s.heap.objs.size (.own (s.heap.objs.size+1))) (s.heap.objs.size+1) (.ins C s.heap.objs.size []))
  { s with heap:=(s.heap.push W.emptyDict).push (W.instObj C s.heap.objs.size) }:=by
 have e1:(s.heap.push W.emptyDict).get? s.heap.objs.size=some W.emptyDict:=Heap.get?_push_size s.heap rfl;have e2:((s.heap.push W.emptyDict).push (W.instObj C s.heap.objs.size)).get? (s.heap.objs.size+1)=some (W.instObj C s.heap.objs.size):=by
  have:=Heap.get?_push_size (s.heap.push W.emptyDict) (o:=W.instObj C s.heap.objs.size) rfl
  rwa [Heap.size_push] at this
 have e3:(s.heap.push W.emptyDict).Ns s.heap.objs.size (λ_=>none):=⟨W.emptyDict,#[],_,e1,rfl,(λe he=>absurd he (by simp)),λ_=>rfl⟩;have I1:=I.laid (a:=s.heap.objs.size) (o:=.own (s.heap.objs.size+1)) (h':=s.heap.push W.emptyDict) (t':=s.toks) (λb u q=>Heap.get?_push_of_some _ q) (Nat.le_refl _) ⟨_,e1⟩;refine I1.laid (a:=s.heap.objs.size+1) (o:=.ins C s.heap.objs.size []) (t':=s.toks) (λb u q=>Heap.get?_push_of_some _ q) (Nat.le_of_eq (Heap.size_push _ _)) ?_;have ne:s.heap.objs.size≠s.heap.objs.size+1:=Nat.ne_of_lt (Nat.lt_succ_self _);refine ⟨by rw [Ac ne,Ad],Nat.zero_le _,ne,e2,λ_=>none,(Heap.Ns1.of_empty e3).at λo q=>Heap.get?_push_of_some _ q,λ_=>True.intro,λy hy=>absurd rfl hy⟩
theorem LO {prog:Program}{w:World}{env:Env}{e:Expr}{f:Str}{pos:Pos}{s:Shared}{Q:Value->Shared->Prop}(hb:attributeBase e f env (eval e env)=eval e env)
  (h:wpAny (model prog w) A (eval e env) (λo s₁=>wpAny (model prog w) A (getAttr o f true) Q E s₁) E s):wpAny (model prog w) A (eval (.Attribute e f pos) env) Q E s :=
 Attribute_any_ h (by rw [arm_eval_Attribute,hb])
end
noncomputable def Km (K:W.Frag)(ta:TE)(f:Str):TE:=fun σ H Q=>ta σ H λx H1=>∃ a C dx fs v,x=.ref a/\H1 a=some (.ins C dx fs)/\G9 K C/\BA K C f/\fs.lookup f=some v/\Q v H1
noncomputable def cV (K:W.Frag)(ta tv:TE)(f:Str):TS:=λD σ H=>tv σ H λy H1=>ta σ H1 λx H2=>∃ a C dx fs,x=.ref a/\H2 a=some (.ins C dx fs)/\G9 K C/\BA K C f/\fs.length < 1000 /\
 D.nx σ (upd H2 a (.ins C dx (AK f y fs)))
noncomputable def RO (X:Cx)(op:Operator)(left:V->V->Hp->VK->Prop):Prop :=
 ∀ (pins:List (Addr × Obj)) (s:Shared) (σ:St) (H:Hp) (x y:V) (u v:Value) (Q:VK),Inv X pins σ H s->RelV x u->RelV y v->left x y H Q->wpAny (model X.prog X.w) X.A (inplaceOp op u v) (EP X pins σ Q) X.xe s
noncomputable def LP (K:W.Frag)(ta tv:TE)(left:V->V->Hp->VK->Prop)(f:Str):TS:=λD σ H=>ta σ H λx H1=>∃ a C dx fs v,x=.ref a/\H1 a=some (.ins C dx fs)/\G9 K C/\BA K C f/\fs.lookup f=some v /\
 tv σ H1 λy H2=>left v y H2 λz H3=>∃ mv b7,H3 a=some (.ins C mv b7)/\b7.length < 1000/\D.nx σ (upd H3 a (.ins C mv (AK f z b7)))
section
variable {X:Cx}{o e value:Expr}{f:Str}{pos pos' MT:Pos}{ta tv:TE}
theorem Wg (he:PE X e ta)(hb:attributeBase e f X.env (eval e X.env)=eval e X.env):PE X (.Attribute e f pos) (Km X.K ta f):=by
 intro pins s σ H Q I h;refine LO hb (AY (he pins s σ H _ I h) λu s1 AE=>?_);obtain ⟨x,H1,I1,rx,a,C,dx,fs,v,ex,ea,c,n,l,q⟩:=AE;subst ex;obtain rfl:u=Value.ref a:=rx;exact Gp I1 ea c n l λu' s2 I2 ru=>⟨v,H1,I2,ru,q⟩
theorem Wh (ha:PE X o ta)(hv:PE X value tv)(hs:swapsWith value (some (.Attribute o f pos')) pos.line X.env=pure false):PS X (.Assign [.Attribute o f pos'] value pos) (cV X.K ta tv f):=by
 intro pins s σ H D I h;refine plainObj_wpAny_Assign_Attribute (AY (hv pins s σ H _ I h) λu s1 AE=>?_) hs;obtain ⟨y,H1,I1,ry,q⟩:=AE;refine AY (ha pins s1 σ H1 _ I1 q) λov s2 AE=>?_;obtain ⟨x,H2,I2,rx,a,C,dx,fs,ex,ea,c,n,l,q2⟩:=AE;subst ex;obtain rfl:ov=Value.ref a:=rx;exact Gq I2 ea c n l ry λs3 I3=>⟨σ,_,I3,q2⟩
theorem MU {op:Operator}{left:V->V->Hp->VK->Prop}(ha:PE X o ta)(hv:PE X value tv)(mw:RO X op left):PS X (.AugAssign (.Attribute o f MT) op value pos) (LP X.K ta tv left f):=by
 intro pins s σ H D I h;refine wpAny_AugAssign_AttributeAny (AY (ha pins s σ H _ I h) λov s1 AE=>?_);obtain ⟨x,H1,I1,rx,a,C,dx,fs,v,ex,ea,c,n,l,q⟩:=AE;subst ex;obtain rfl:ov=Value.ref a:=rx;refine Gp I1 ea c n l λu s2 I2 ru=>AY (hv pins s2 σ H1 _ I2 q) λw3 s3 AE=>?_;obtain ⟨y,H2,I3,ry,q3⟩:=AE;refine AY (mw pins s3 σ H2 v y u w3 _ I3 ru ry q3) λw4 s4 AE=>?_;obtain ⟨z,H3,I4,rz,mv,b7,zi,l',q4⟩:=AE;exact Gq I4 zi c n l' rz λs5 I5=>⟨σ,_,I5,q4⟩
noncomputable def mx:V->V->Hp->VK->Prop:=λx y H Q=>∃ i j,x=.int i/\y=.int j/\Q (.int (i+j)) H
noncomputable def my:V->V->Hp->VK->Prop:=λx y H Q=>∃ i j,x=.int i/\y=.int j/\Q (.int (i - j)) H
theorem Wi:RO X .Add mx:=by
 rintro pins s σ H x y u v Q I rx ry ⟨i,j,rfl,rfl,q⟩;obtain ⟨t,rfl⟩:=(show ∃ t,u=Value.int i t from rx);obtain ⟨t',rfl⟩:=(show ∃ t',v=Value.int j t' from ry);exact PyProof.Rows.iadd_int ⟨.int (i+j),H,I.tok _,⟨_,rfl⟩,q⟩
theorem Wj:RO X .Sub my:=by
 rintro pins s σ H x y u v Q I rx ry ⟨i,j,rfl,rfl,q⟩;obtain ⟨t,rfl⟩:=(show ∃ t,u=Value.int i t from rx);obtain ⟨t',rfl⟩:=(show ∃ t',v=Value.int j t' from ry);exact PyProof.Rows.isub_int ⟨.int (i - j),H,I.tok _,⟨_,rfl⟩,q⟩
theorem U' {pl:Sem Bool}{m:Str}{apos:Pos}{args:List Expr}{pins:List (Addr × Obj)}{s:Shared}{σ:St}{H:Hp}{Q:Value->Shared->Prop}{te:TE}(he:PE X e te)(I:Inv X pins σ H s)
  (h:te σ H λx H1=>∃ a C dx fs g,x=.ref a/\H1 a=some (.ins C dx fs)/\G9 X.K C/\Meth X.K C m g/\fs.lookup m=none /\
   ∀ s1,Inv X pins σ H1 s1->wpAny (model X.prog X.w) X.A (callWith pos (.ref g) [.ref a] (backTo pos (starEach args X.env)) (backToKw pos (keywordEach [] X.env))) Q X.xe s1)
  (ht:eval (.Call (.Attribute e m apos) args [] pos) X.env=(do
   let ov <- eval e X.env
   standAt apos.atName
   let (f,first) <- holding [ov] (getMethod ov m pl)
   callWith pos f first (backTo pos (starEach args X.env)) (backToKw pos (keywordEach [] X.env)))) :
  wpAny (model X.prog X.w) X.A (eval (.Call (.Attribute e m apos) args [] pos) X.env) Q X.xe s:=by
 refine W.methodCall_KW (pl:=pl) (AY (he pins s σ H _ I h) λu s1 AE=>?_) ht;obtain ⟨x,H1,I1,rx,a,C,dx,fs,g,ex,ea,c,k,l,q⟩:=AE;subst ex;obtain rfl:u=Value.ref a:=rx;exact ER I1 ea c k l (q s1 I1)
end
section
variable {X:Cx}{pins:List (Addr × Obj)}{σ:St}{H:Hp}{s:Shared}{A:Around}{E:Value->Shared->Prop}{Q:Value->Shared->Prop}{c:Value}{b:Bool}
inductive Dm (K:W.Frag)(H:Hp):V->Value->Prop where
 | non:Dm K H .non (.type "NoneType")
 | bl (x:Bool):Dm K H (.bl x) (.type "bool")
 | int (i:Int):Dm K H (.int i) (.type "int")
 | str (x:Str):Dm K H (.str x) (.type "str")
 | flt (x:UInt64):Dm K H (.flt x) (.type "float")
 | lst {a:Addr} {xs:List V} (e:H a=some (.lst xs)):Dm K H (.ref a) (.type "list")
 | frz {a:Addr} {o:Obj} {xs:List V} (e:H a=some (.frz o (.lst xs))):Dm K H (.ref a) (.type "list")
 | tup {a:Addr} {xs:List V} (e:H a=some (.tup xs)):Dm K H (.ref a) (.type "tuple")
 | dK {a:Addr} {kvs:List (Key × V)} (e:H a=some (.dK kvs)):Dm K H (.ref a) (.type "dict")
 | dT {a:Addr} {kvs:List (List Key × V)} (e:H a=some (.dT kvs)):Dm K H (.ref a) (.type "dict")
 | ins {a C dx:Addr} {fs:List (Str × V)} (e:H a=some (.ins C dx fs)) (cl:G9 K C) (ha:W.findIn K (.ref C) "__class__"=some (some (.builtin "object.__class__")))
   (hn:W.specialIn K (.builtin "object.__class__") "__get__"=some (some (.builtin "getset_descriptor.__get__"))) (wu:W.takesIn K (.builtin "object.__class__")=some true)
   (hm:W.mroIn K C (.type "object")=some true):Dm K H (.ref a) (.ref C)
theorem HI {x:V}{u t:Value}(I:Inv X pins σ H s)(rx:RelV x u)(ty:Dm X.K H x t)(e:W.kitOne X.K t c=some b)(h:∀ tk,Q (.bool b) { s with toks:=tk }):
  wpAny (model X.prog X.w) A (call (.builtin "isinstance") [u,c]) Q E s:=by
 cases ty with
 | non=>cases (show u=Value.none from rx);exact W.kia_one W.kitx_none I.kIn True.intro e (λz=>nomatch z) h
 | bl y=>cases (show u=Value.bool y from rx);exact W.kia_one W.kitx_bool I.kIn True.intro e (λz=>nomatch z) h
 | int i=>obtain ⟨t,q⟩:=(show ∃ t,u=Value.int i t from rx);cases q;exact W.kia_one W.kitx_int I.kIn True.intro e (λz=>nomatch z) h
 | str y=>obtain ⟨t,q⟩:=(show ∃ t,u=Value.str y t from rx);cases q;exact W.kia_one W.kitx_str I.kIn True.intro e (λz=>nomatch z) h
 | flt y=>obtain ⟨t,q⟩:=(show ∃ t,u=Value.float y t from rx);cases q;exact W.kia_one W.kitx_float I.kIn True.intro e (λz=>nomatch z) h
 | @lst a xs ea =>
  cases (show u=Value.ref a from rx);obtain ⟨_,_,n,_,h1⟩:=(show AN X.prog X.w H s.heap a (.lst xs) from I.hok a _ ea);exact W.kia_one W.kitx_list I.kIn ⟨_,h1,rfl⟩ e (λz=>nomatch z) h
 | @frz a ob xs ea =>
  cases (show u=Value.ref a from rx);obtain ⟨_,_,_,n,_,h1⟩:=(show AN X.prog X.w H s.heap a (.frz ob (.lst xs)) from I.hok a _ ea);exact W.kia_one W.kitx_list I.kIn ⟨_,h1,rfl⟩ e (λz=>nomatch z) h
 | @tup a xs ea =>
  cases (show u=Value.ref a from rx);obtain ⟨_,_,_,p⟩:=(show AN X.prog X.w H s.heap a (.tup xs) from I.hok a _ ea);obtain ⟨o,h1,h2,_⟩:=p;exact W.kia_one W.kitx_tuple I.kIn ⟨o,h1,h2⟩ e (λz=>nomatch z) h
 | @dK a kvs ea =>
  cases (show u=Value.ref a from rx);obtain ⟨_,_,vs,_,p⟩:=(show AN X.prog X.w H s.heap a (.dK kvs) from I.hok a _ ea);obtain ⟨o,es,ep,h1,h2,_⟩:=p;exact W.kia_one W.kitx_dict I.kIn ⟨o,h1,h2.1⟩ e (λz=>nomatch z) h
 | @dT a kvs ea =>
  cases (show u=Value.ref a from rx);obtain ⟨_,_,xs,_,o,es,ep,h1,h2,_⟩:=(show AN X.prog X.w H s.heap a (.dT kvs) from I.hok a _ ea);exact W.kia_one W.kitx_dict I.kIn ⟨o,h1,h2.1⟩ e (λz=>nomatch z) h
 | @ins a C dx fs ea cl ha hn wu hm =>
  cases (show u=Value.ref a from rx);obtain ⟨mA,O,_⟩:=G8 I.hok ea;obtain ⟨od,J,_⟩:=O.look;exact W.kia_one (W.kitx_own (cl.get _) cl.hd ha hn wu hm) I.kIn J e (λz=>nomatch z) h
end
structure Am (k:Nat)(A:Around):Prop where
 hd:A.handled=none
 dp:A.depth+2 * k+5 < recursionLimit
 un:A.units+16 * k+200 < cLine
theorem Am.mono {j k:Nat}{A:Around}(r:Am k A)(h:j<=k):Am j A:=⟨r.hd,by have:=r.dp;omega,by have:=r.un;omega⟩
theorem Am.deeper {k:Nat}{A:Around}(r:Am (k+1) A)(env:Env):Am k (A.deeper env) :=
 ⟨r.hd,by have:=r.dp;show A.depth+1+2 * k+5 < _;omega,by have:=r.un;show A.units+3+16 * k+200 < _;omega⟩
theorem Kn {A:Around}{C:Addr}{us:List Value}{kw:List (Str × Value)}:(A.under (.builtin "type.__call__" ⟨.ref C::us,kw⟩)).depth=A.depth+1:=by
 first | rfl | simp [Around.under,Code.weight,Code.isCreation,Code.isGuard,Code.isCaller,Code.frames,Code.isFrame,guardIds]
theorem Ko {A:Around}{C:Addr}{us:List Value}{kw:List (Str × Value)}:(A.under (.builtin "type.__call__" ⟨.ref C::us,kw⟩)).units=A.units+1:=by
 first | rfl | simp [Around.under,Code.cUnits,Code.frames,Code.isFrame]
theorem Am.make {k:Nat}{A:Around}(r:Am (k+1) A)(C:Addr)(us:List Value)(kw:List (Str × Value)):Am k (A.under (.builtin "type.__call__" ⟨.ref C::us,kw⟩)) :=
 ⟨r.hd,by have:=r.dp;rw [Kn];omega,by have:=r.un;rw [Ko];omega⟩
theorem Am.depth {k:Nat}{A:Around}(r:Am k A):A.depth < recursionLimit:=by have:=r.dp;omega
theorem Am.units {k:Nat}{A:Around}(r:Am k A):A.units+64 < cLine:=by have:=r.un;omega
noncomputable def Dp:TA:=λ_ H Q=>Q [] H
noncomputable def Cb (ta:TE)(tr:TA):TA:=fun σ H Q=>ta σ H λx H1=>tr σ H1 λxs H2=>Q (x::xs) H2
section
variable {X:Cx}{e:Expr}{es:List Expr}{te:TE}{t:TA}{pos:Pos}
theorem Iq:PA X [] Dp:=λ_ _ _ _ H Q I h=>Calls.spliced_nil ⟨[],H,I,.nil,h⟩
theorem Fb (ha:PE X e te)(hr:PA X es t)(hs:starEach (e::es) X.env=(false,eval e X.env)::starEach es X.env:=by rfl):PA X (e::es) (Cb te t):=by
 intro pos pins s σ H Q I h;rw [hs];show wpAny _ _ (spliced ((false,eval e X.env)::backTo pos (starEach es X.env))) _ _ s;refine Calls.spliced_cons (AY (ha pins s σ H _ I h) λu s1 AE=>?_);obtain ⟨x,H1,I1,r1,q1⟩:=AE;exact AY (hr pos pins s1 σ H1 _ I1 q1) λus s2 ⟨xs,H2,I2,r2,q2⟩=>⟨x::xs,H2,I2,.cons r1 r2,q2⟩
noncomputable def MV (t:TA):TE:=fun σ H Q=>t σ H λxs H1=>xs.length<=sizeLine/\∀ p,H1 p=none->Q (.ref p) (upd H1 p (.tup xs))
noncomputable def Wk (t:TA):TE:=fun σ H Q=>t σ H λxs H1=>xs.length<=sizeLine/\∀ p,H1 p=none->Q (.ref p) (upd H1 p (.lst xs))
theorem Wm {x1}(h:PA X es t):PE X (.Tuple es x1 pos) (MV t):=by
 intro pins s σ H Q I hq;refine wpAny_Tuple_spliced (AY (h pos pins s σ H _ I hq) λus s1 AE=>?_);obtain ⟨xs,H1,I1,r,z,q⟩:=AE;refine ⟨by rw [<- r.length];exact z,?_⟩;have hf:H1 s1.heap.objs.size=none:=I1.hok.fresh (Nat.le_refl _);refine ⟨.ref s1.heap.objs.size,upd H1 s1.heap.objs.size (.tup xs),I1.laid (t':=s1.toks) (λb u e=>Heap.get?_push_of_some _ e) (Nat.le_refl _) ?_,rfl,q _ hf⟩;exact ⟨z,us,r,⟨_,Heap.get?_push_size _ rfl,rfl,_,rfl⟩⟩
theorem Wn (h:PA X es t):PE X (.List es pos) (Wk t):=by
 intro pins s σ H Q I hq;refine wpAny_List_spliced (AY (h pos pins s σ H _ I hq) λus s1 AE=>?_);obtain ⟨xs,H1,I1,r,z,q⟩:=AE;refine ⟨by rw [<- r.length];exact z,?_⟩;have hf:H1 s1.heap.objs.size=none:=I1.hok.fresh (Nat.le_refl _);refine ⟨.ref s1.heap.objs.size,upd H1 s1.heap.objs.size (.lst xs),I1.laid (t':=s1.toks) (λb u e=>Heap.get?_push_of_some _ e) (Nat.le_refl _) ?_,rfl,q _ hf⟩;exact ⟨z,us,0,r,Heap.get?_push_size _ rfl⟩
end
abbrev Sp:=List V->Hp->VK->XK->Prop
abbrev Je:=List Env->Hp->Shared->XK->Value->Shared->Prop
structure Kp (P:Program)(w:World)(K:W.Frag)(mg:Str->Option Value)(base:Heap)(A:Around)(outer:List Env)(s:Shared)(H:Hp):Prop where
 frames:A.frames=some outer
 mod:Mod K mg base
 bs:∀ b o,base.get? b=some o->s.heap.get? b=some o/\H b=none
 bsz:base.objs.size<=s.heap.objs.size
 aau:s.heap.FunFrames base outer
 frf:∀ b∈F7 outer,H b=none
 hok:Dv P w H s.heap
 bare:AllBare s.gens
noncomputable def CE (outer:List Env)(P:Program)(w:World)(H:Hp)(s:Shared)(Q:VK)(u:Value)(s':Shared):Prop :=
 ∃ v H',s'.os=s.os/\AllBare s'.gens/\Un (F7 outer) [] H H' s.heap s'.heap/\Dv P w H' s'.heap/\RelV v u/\Q v H'
noncomputable def CR (CX:Je)(outer:List Env)(P:Program)(w:World)(H:Hp)(s:Shared)(Q:VK)(E:XK)(r:Result)(s':Shared):Prop :=
 match r with
 | .ok (.ret u)=>CE outer P w H s Q u s'
 | .ok _=>False
 | .error e=>CX outer H s E e s'
structure Av (P:Program)(w:World)(K:W.Frag)(mg:Str->Option Value)(base:Heap)(CX:Je)(k:Nat)(f:Addr)(fd:FuncData)(ps:List Str)(sp:Sp):Prop where
 len:∀ vs H Q E,sp vs H Q E->vs.length=ps.length
 run:∀ (A:Around) (outer:List Env) (s:Shared) (H:Hp) (args:Args) (us:List Value) (vs:List V) (Q:VK) (E:XK),Am k A->Kp P w K mg base A outer s H->BindsTo s fd args (ps.zip us)->Vals vs us->sp vs H Q E ->
  codeAny (model P w) A (.call (.ref f) args) (CR CX outer P w H s Q E) s
theorem Kp.make {P:Program}{w:World}{K:W.Frag}{mg:Str->Option Value}{base:Heap}{A:Around}{outer:List Env}{s:Shared}{H:Hp}(e:Kp P w K mg base A outer s H)(C:Addr)(us:List Value)(kw:List (Str × Value)):
  Kp P w K mg base (A.under (.builtin "type.__call__" ⟨.ref C::us,kw⟩)) outer s H:=⟨by first | exact e.frames | (simpa [Around.under,Code.envs,Code.isFrame,pushEnvs] using e.frames),e.mod,e.bs,e.bsz,e.aau,e.frf,e.hok,e.bare⟩
section
variable {X:Cx}{pins:List (Addr × Obj)}{σ:St}{H:Hp}{s s':Shared}
theorem Inv.abk (I:Inv X pins σ H s):Kp X.prog X.w X.K X.mg X.base X.A X.stack s H :=
 ⟨I.ok.frames,I.ok.mod,I.bs,Nat.le_trans I.ok.bsz I.sz,I.stack,I.aao,I.hok,I.bare⟩
theorem Inv.after {Q:VK}{u:Value}(I:Inv X pins σ H s)(h:CE X.stack X.prog X.w H s Q u s'):EP X pins σ Q u s':=by
 obtain ⟨v,H',os,bare,un,hok,r,q⟩:=h;obtain ⟨hh,g,d,t,Wo⟩:=s';obtain rfl:Wo=s.os:=os;exact ⟨v,H',I.call (h':=hh) (g':=g) (d':=d) (t':=t) (ch:=[]) un hok bare (λb z=>absurd z (by simp)),r,q⟩
end
noncomputable def EG (sp:Sp)(Hr:List V)(E:XK)(t:TA):TE:=fun σ H Q=>t σ H λvs H1=>sp (vs++Hr) H1 Q E
noncomputable def D0 (C:Addr)(m:Str)(sp:Sp)(Hr:List V)(E:XK)(ta:TE)(t:TA):TE:=fun σ H Q=>ta σ H λx H1=>∃ a dx fs,x=.ref a/\H1 a=some (.ins C dx fs)/\fs.lookup m=none /\
 t σ H1 λvs H2=>sp (x::(vs++Hr)) H2 Q E
noncomputable def V0 (C:Addr)(sp:Sp)(Hr:List V)(E:XK)(t:TA):TE:=fun σ H Q=>t σ H λvs H1=>∀ x dx,H1 x=none->H1 dx=none->dx≠x ->
 sp (.ref x::(vs++Hr)) (upd (upd H1 dx (.own x)) x (.ins C dx [])) (λv H2=>v=.non/\Q (.ref x) H2) E
noncomputable def Binds (K:W.Frag)(fd:FuncData)(ps:List Str)(ds:List Value):Prop :=
 ∀ (s:Shared) (us:List Value),K.In s.heap->(us++ds).length=ps.length->BindsTo s fd ⟨us,[]⟩ (ps.zip (us++ds))
theorem Binds.all {K:W.Frag}{fd:FuncData}{ps:List Str}(h:∀ us:List Value,us.length=ps.length->bindArgs fd ⟨us,[]⟩=pure (ps.zip us)):Binds K fd ps []:=λs us _ hl=>by
 rw [List.append_nil] at hl ⊢;exact .of_eq (h us hl)
noncomputable def Passes (CX:Je)(X:Cx)(E:XK):Prop:=∀ (pins:List (Addr × Obj)) (σ:St) (H:Hp) (s:Shared) (e:Value) (s':Shared),Inv X pins σ H s->CX X.stack H s E e s'->X.xe e s'
section
variable {X:Cx}{CX:Je}{k:Nat}{f C:Addr}{fd:FuncData}{ps:List Str}{sp:Sp}{Hr:List V}{ds:List Value}{E:XK}{x m:Str}{p pos apos:Pos}{e o:Expr}{es:List Expr}{ta:TE}{t:TA}
theorem Ir {pins:List (Addr × Obj)}{σ:St}{H:Hp}{s:Shared}{Q:VK}{us:List Value}{vs:List V}(F:Av X.prog X.w X.K X.mg X.base CX k f fd ps sp)(hr:Am k X.A)(hb:Binds X.K fd ps ds)(hd:Vals Hr ds)(hx:Passes CX X E)
  (I:Inv X pins σ H s) (r:Vals vs us) (h:sp (vs++Hr) H Q E):wpAny (model X.prog X.w) X.A (call (.ref f) us) (EP X pins σ Q) X.xe s:=by
 have r2:Vals (vs++Hr) (us++ds):=r.append hd;have hl:(us++ds).length=ps.length:=by rw [<- r2.length];exact F.len _ _ _ _ h
 refine wpAny_call (codeAny_mono (F.run X.A X.stack s H ⟨us,[]⟩ (us++ds) (vs++Hr) Q E hr I.abk (hb s us I.kIn hl) r2 h) λr s' hq=>?_);cases r with
 | error e=>exact hx pins σ H s e s' I hq
 | ok fl =>
  cases fl with
  | ret u=>exact I.after hq
  | next=>exact False.elim hq
  | brk=>exact False.elim hq
  | cont=>exact False.elim hq
theorem LQ (F:Av X.prog X.w X.K X.mg X.base CX k f fd ps sp)(hr:Am k X.A)(hg:Gl X x)(hm:X.mg x=some (.ref f))(hk:W.keepIn X.K (.ref f)=true)(hb:Binds X.K fd ps ds)(hd:Vals Hr ds)(hx:Passes CX X E)
  (ha:PA X (e::es) t) (Cr:(x==("__debug__":Str))=false:=by decide) (he:starEach (e::es) X.env=(false,eval e X.env)::starEach es X.env:=by rfl) (CO:(backTo pos (starEach es X.env)).any (·.1)=false:=by rfl) :
  PE X (.Call (.Name x p) (e::es) [] pos) (EG sp Hr E t):=by
 intro pins s σ H Q I h;refine wpAny_Call_Name_kw (Cu I hg hm ?_ Cr);refine W.callWith_K (h₀:=X.base) I.ok.mod.kin hk (AY (ha pos pins s σ H _ I h) λus s1 AE=>?_) he CO;obtain ⟨vs,H1,I1,r,q⟩:=AE;refine ⟨I1.kIn,?_⟩;exact Ir F hr hb hd hx I1 r q
theorem LR {pl:Sem Bool}(he:PE X o ta)(c:G9 X.K C)(hm:Meth X.K C m f)(F:Av X.prog X.w X.K X.mg X.base CX k f fd ps sp)(hr:Am k X.A)(hb:Binds X.K fd ps ds)(hd:Vals Hr ds)(hx:Passes CX X E)(ha:PA X (e::es) t)
  (Ho:starEach (e::es) X.env=(false,eval e X.env)::starEach es X.env:=by rfl) (CO:(backTo pos (starEach es X.env)).any (·.1)=false:=by rfl)
  (ht:eval (.Call (.Attribute o m apos) (e::es) [] pos) X.env=(do
   let ov <- eval o X.env
   standAt apos.atName
   let (f,first) <- holding [ov] (getMethod ov m pl)
   callWith pos f first (backTo pos (starEach (e::es) X.env)) (backToKw pos (keywordEach [] X.env))):=by rfl) :
  PE X (.Call (.Attribute o m apos) (e::es) [] pos) (D0 C m sp Hr E ta t):=by
 intro pins s σ H Q I h;refine W.methodCall_KW (pl:=pl) (AY (he pins s σ H _ I h) λu s1 AE=>?_) ht;obtain ⟨x,H1,I1,rx,a,dx,fs,ex,ea,l,q⟩:=AE;subst ex;obtain rfl:u=Value.ref a:=rx;refine ER I1 ea c hm l ?_;refine W.callWith_K (first:=[.ref a]) (h₀:=X.base) I.ok.mod.kin hm.kp (AY (ha pos pins s1 σ H1 _ I1 q) λus s2 AE=>?_) Ho CO
 obtain ⟨vs,H2,I2,r,q2⟩:=AE;refine ⟨I2.kIn,?_⟩;exact Ir (us:=.ref a::us) (vs:=.ref a::vs) F hr hb hd hx I2 (.cons rfl r) q2
theorem Jf {pl:Sem Bool}(he:PE X o ta)(c:G9 X.K C)(hm:Meth X.K C m f)(F:Av X.prog X.w X.K X.mg X.base CX k f fd ps sp)(hr:Am k X.A)(hb:Binds X.K fd ps ds)(hd:Vals Hr ds)(hx:Passes CX X E)
  (ht:eval (.Call (.Attribute o m apos) [] [] pos) X.env=(do
   let ov <- eval o X.env
   standAt apos.atName
   let (f,first) <- holding [ov] (getMethod ov m pl)
   callWith pos f first (backTo pos (starEach [] X.env)) (backToKw pos (keywordEach [] X.env))):=by rfl) :
  PE X (.Call (.Attribute o m apos) [] [] pos) (D0 C m sp Hr E ta Dp):=by
 intro pins s σ H Q I h;refine W.methodCall_KW (pl:=pl) (AY (he pins s σ H _ I h) λu s1 AE=>?_) ht;obtain ⟨x,H1,I1,rx,a,dx,fs,ex,ea,l,q⟩:=AE;subst ex;obtain rfl:u=Value.ref a:=rx;refine ER I1 ea c hm l ?_;exact W.callWith_K0 (first:=[.ref a]) I1.kIn hm.kp (Ir (us:=[.ref a]) (vs:=[.ref a]) F hr hb hd hx I1 (.cons rfl .nil) q)
structure Mk (K:W.Frag)(C f:Addr):Prop where
 makes:W.makesIn K C=true
 init:W.findIn K (.ref C) "__init__"=some (some (.ref f))
 fn:W.isFn K (.ref f)=true
 kp:W.keepIn K (.ref C)=true
theorem OW {pins:List (Addr × Obj)}{σ:St}{H:Hp}{s:Shared}{Q:VK}{us:List Value}{vs:List V}(M:Mk X.K C f)(F:Av X.prog X.w X.K X.mg X.base CX k f fd ps sp)(hr:Am (k+1) X.A)(hb:Binds X.K fd ps ds)(hd:Vals Hr ds)
  (hx:Passes CX X E) (I:Inv X pins σ H s) (r:Vals vs us)
  (h:∀ x dx,H x=none->H dx=none->dx≠x->sp (.ref x::(vs++Hr)) (upd (upd H dx (.own x)) x (.ins C dx [])) (λv H2=>v=.non/\Q (.ref x) H2) E) :
  wpAny (model X.prog X.w) X.A (call (.ref C) us) (EP X pins σ Q) X.xe s:=by
 have hq:=h (s.heap.objs.size+1) s.heap.objs.size (I.hok.fresh (Nat.le_succ _)) (I.hok.fresh (Nat.le_refl _)) (Nat.ne_of_lt (Nat.lt_succ_self _));have I2:=Inv.made (C:=C) I;have r2:Vals (V.ref (s.heap.objs.size+1)::(vs++Hr)) (Value.ref (s.heap.objs.size+1)::(us++ds)):=.cons rfl (r.append hd);have hl:(Value.ref (s.heap.objs.size+1)::us++ds).length=ps.length:=by
  have e:=r2.length;rw [F.len _ _ _ _ hq] at e;exact e.symm
 refine wpAny_call (OV (f:=f) I.kIn M.makes M.init (beq_iff_eq.mp M.fn) (codeAny_mono (F.run _ X.stack _ _ ⟨Value.ref (s.heap.objs.size+1)::us,[]⟩ (Value.ref (s.heap.objs.size+1)::(us++ds)) _ _ E (hr.make C us [])
  (I2.abk.make C us []) (hb _ (Value.ref (s.heap.objs.size+1)::us) I2.kIn hl) r2 hq) λr s' MW=>?_))
 cases r with
 | error e=>exact hx pins σ _ _ e s' I2 MW
 | ok fl =>
  cases fl with
  | ret u =>
   obtain ⟨v,H',I3,rv,ev,q3⟩:=I2.after MW;subst ev;exact ⟨rv,⟨V.ref (s.heap.objs.size+1),H',I3,rfl,q3⟩⟩
  | next=>exact False.elim MW
  | brk=>exact False.elim MW
  | cont=>exact False.elim MW
theorem OX (M:Mk X.K C f)(F:Av X.prog X.w X.K X.mg X.base CX k f fd ps sp)(hr:Am (k+1) X.A)(hg:Gl X x)(hm:X.mg x=some (.ref C))(hb:Binds X.K fd ps ds)(hd:Vals Hr ds)(hx:Passes CX X E)
  (Cr:(x==("__debug__":Str))=false:=by decide):PE X (.Call (.Name x p) [] [] pos) (V0 C sp Hr E Dp):=by
 intro pins s σ H Q I h;refine wpAny_Call_Name_kw (Cu I hg hm ?_ Cr);exact W.callWith_K0 I.kIn M.kp (OW (us:=[]) M F hr hb hd hx I .nil h)
end
structure Ak (N P:List Str)(sc:Scope):Prop where
 kind:sc.kind=.function
 co:sc.isCoroutine=false
 gen:sc.isGenerator=false
 nd:N.Nodup
 pre:N.take P.length=P
 par:∀ x∈P,sc.names.lookup x=some .local\/sc.names.lookup x=some .cell
 abl:∀ y∈sc.names,y.2≠.free
theorem HJ {kindOf:Str->Option NameKind}{x:Str}:∀ {binds:List (Str × Value)} {m:Str->Option Value},(∀ v,(x,v)∉binds)->bindL kindOf binds m x=m x
 | [],_,_=>rfl
 | (n,v)::r,m,h=>by
  unfold bindL;rw [HJ λw hw=>h w (List.mem_cons_of_mem _ hw)];split
  ·have:x≠n:=(by rintro rfl;exact h v List.mem_cons_self);simp [this]
  ·rfl
theorem HK {kindOf:Str->Option NameKind}{x:Str}:∀ {binds:List (Str × Value)} {m:Str->Option Value},(∀ v,(x,v)∉binds)->bindC kindOf binds m x=m x
 | [],_,_=>rfl
 | (n,v)::r,m,h=>by
  unfold bindC;rw [HK λw hw=>h w (List.mem_cons_of_mem _ hw)];split
  ·rfl
  ·have:x≠n:=(by rintro rfl;exact h v List.mem_cons_self);simp [this]
theorem HL {kindOf:Str->Option NameKind}{x:Str}{v:Value}:∀ {P:List Str} {vs:List Value} {i:Nat} {m:Str->Option Value},P.Nodup->P[i]?=some x->vs[i]?=some v->kindOf x=some .local ->
  bindL kindOf (P.zip vs) m x=some v
 | [],_,_,_,_,h,_,_=>by simp at h
 | _::_,[],_,_,_,_,h,_=>by simp at h
 | p::P,w::vs,0,m,nd,h1,h2,hk=>by
  simp at h1 h2;subst h1;subst h2;show bindL kindOf ((p,w)::P.zip vs) m p=_;unfold bindL;rw [HJ λv hv=>(List.nodup_cons.mp nd).1 (List.of_mem_zip hv).1,if_pos hk];simp
 | p::P,w::vs,i+1,m,nd,h1,h2,hk=>by
  show bindL kindOf ((p,w)::P.zip vs) m x=_;unfold bindL;exact HL (i:=i) (List.nodup_cons.mp nd).2 (by simpa using h1) (by simpa using h2) hk
theorem HM {kindOf:Str->Option NameKind}{x:Str}{v:Value}:∀ {P:List Str} {vs:List Value} {i:Nat} {m:Str->Option Value},P.Nodup->P[i]?=some x->vs[i]?=some v->kindOf x≠some .local ->
  bindC kindOf (P.zip vs) m x=some v
 | [],_,_,_,_,h,_,_=>by simp at h
 | _::_,[],_,_,_,_,h,_=>by simp at h
 | p::P,w::vs,0,m,nd,h1,h2,hk=>by
  simp at h1 h2;subst h1;subst h2;show bindC kindOf ((p,w)::P.zip vs) m p=_;unfold bindC;rw [HK λv hv=>(List.nodup_cons.mp nd).1 (List.of_mem_zip hv).1,if_neg hk];simp
 | p::P,w::vs,i+1,m,nd,h1,h2,hk=>by
  show bindC kindOf ((p,w)::P.zip vs) m x=_;unfold bindC;exact HM (i:=i) (List.nodup_cons.mp nd).2 (by simpa using h1) (by simpa using h2) hk
noncomputable def start (N:List Str)(vs:List V):St:=vs.map some++List.replicate (N.length - vs.length) none
noncomputable def CB (CX:Je)(P:Program)(w:World)(K:W.Frag)(mg:Str->Option Value)(base:Heap)(N:List Str)(qual:Str)(scope:Scope)(f:Addr)(cd:Value)(A:Around)(outer:List Env)(s:Shared)(H:Hp)(E:XK):Cx where
 prog:=P
 w:=w
 K:=K
 mg:=mg
 base:=base
 A:=A.deeper (envOfC qual scope s.heap.objs.size f cd)
 N:=N
 s₀:=s
 H₀:=H
 env:=envOfC qual scope s.heap.objs.size f cd
 outer:=outer
 stack:=envOfC qual scope s.heap.objs.size f cd::outer
 ex:=[]
 calm:=true
 fn:=λ_=>true
 pn:=[]
 xe:=λe s'=>wpAny (model P w) (A.deeper (envOfC qual scope s.heap.objs.size f cd)) (leaving (envOfC qual scope s.heap.objs.size f cd) e) (λ_ bc=>CX outer H s E e bc) (λe' bc=>CX outer H s E e' bc) s'
theorem Jg {sc:Scope}{n:Nat}{x:Str}(h:sc.names.lookup x=some .cell):∃ c,(cellsFrom n sc.names []).lookup x=some c:=by
 have q:=W.cellsFrom_some sc.names n [] (.inl h);exact Option.isSome_iff_exists.mp q
theorem MX {CX:Je}{P:Program}{w:World}{K:W.Frag}{mg:Str->Option Value}{base:Heap}{N ps:List Str}{qual:Str}{scope:Scope}{f:Addr}{cd:Value}{A:Around}{outer:List Env}{s s1:Shared}{H:Hp}{E:XK}{us:List Value}{vs:List V}
  (S:Ak N ps scope) (hd:A.handled=none) (e0:Kp P w K mg base A outer s H) (hl:vs.length=ps.length) (r:Vals vs us)
  (x:InCallC s s.heap.objs.size (bindL (envOfC qual scope s.heap.objs.size f cd).kindOf (ps.zip us) λ_=>none) (cellsFrom (s.heap.objs.size+1) scope.names []) (bindC (envOfC qual scope s.heap.objs.size f cd).kindOf (ps.zip us) λ_=>none) s1) :
  Inv (CB CX P w K mg base N qual scope f cd A outer s H E) [] (start N vs) H s1:=by
 have CO:ps.length<=N.length:=by have:=congrArg List.length S.pre;rw [List.length_take] at this;omega
 obtain ⟨h1,tk,rfl,hk⟩:=x.done;have Wr:∀ b:Addr,b∉(CB CX P w K mg base N qual scope f cd A outer s H E).ex:=λb z=>absurd (show b∈([]:List Addr) from z) (by simp);refine ⟨⟨e0.mod,S.kind,rfl,rfl,Nat.le_refl _,λy z c h1 h2=>?_,λy hy=>?_,λy c _ h=>?_,λ_=>hd,Around.frames_deeper e0.frames,.inr ⟨rfl,rfl⟩,λb z=>absurd z (Wr b),e0.bs,e0.bsz,λb _ _=>Wr b,λb z=>absurd z (Wr b),e0.aau,e0.frf⟩,
  rfl,e0.bare,Un.kept hk,⟨_,x.toInCall.ns,λi y v h1 h2 h3=>?_⟩,λy c h=>⟨_,x.cell y c h⟩,e0.hok.fresh (Nat.le_refl _),λy c h=>?_,λp hp=>absurd (show p∈([]:List (Addr × Obj)) from hp) (by simp),e0.hok.kept hk,?_⟩
 ·exact name_of_addr x.apart (PySem.mem_of_lookup h1) (PySem.mem_of_lookup h2)
 ·have hy:scope.names.lookup y=some .cell\/scope.names.lookup y=some .free:=hy;rcases hy with hy | hy
  ·exact Jg hy
  ·exact absurd rfl (S.abl _ (PySem.mem_of_lookup hy))
 ·exact Nat.le_of_lt (x.above y c (PySem.mem_of_lookup h))
 ·have hi:i < vs.length:=by
   unfold start at h2;by_cases hi:i < vs.length
   ·exact hi
   ·rw [List.getElem?_append_right (by simpa using hi)] at h2;rw [List.getElem?_replicate] at h2;split at h2 <;> cases h2
  have ha:vs[i]?=some v:=by
   unfold start at h2;rw [List.getElem?_append_left (by simpa using hi),List.getElem?_map] at h2;cases e:vs[i]? with
   | none=>rw [e] at h2;cases h2
   | some a=>rw [e] at h2;cases h2;rfl
  obtain ⟨u,hu,rv⟩:=r.get ha;have hp:ps[i]?=some y:=by
   rw [<- S.pre,List.getElem?_take_of_lt ()];exact h1
  have wx:ps.Nodup:=by rw [<- S.pre];exact S.nd.sublist (List.take_sublist _ _)
  refine ⟨u,rv,?_⟩;rcases S.par y (List.mem_of_getElem? hp) with k | k
  ·exact .inl ⟨k,HL wx hp hu k⟩
  ·obtain ⟨c,e⟩:=Jg (n:=s.heap.objs.size+1) k;refine .inr ⟨.inl k,c,e,?_⟩;have q:=x.cell y c e;rw [HM wx hp hu (by show scope.names.lookup y≠_;rw [k];decide)] at q;exact q
 ·exact e0.hok.fresh (Nat.le_of_lt (x.above y c (PySem.mem_of_lookup h)))
 ·unfold start;show _=N.length;rw [List.length_append,List.length_map,List.length_replicate];omega
theorem OY {CX:Je}{P:Program}{w:World}{K:W.Frag}{mg:Str->Option Value}{base:Heap}{k:Nat}{f:Addr}{name qual:Str}{params:Arguments}{body:List Stmt}{scope:Scope}{dV kV doc pm B7 ct oc:Value}{an od:Option Addr}
  {LS:Array (Option Value)} {N ps:List Str} {sp:Sp} (lk:K.lookup f=some ⟨oc,od,.func (W.fnOf name qual params body scope dV kV doc pm an B7 ct),LS⟩) (Gj:W.codeIn K B7 qual=true) (S:Ak N ps scope)
  (len:∀ vs H Q E,sp vs H Q E->vs.length=ps.length)
  (Fc:∀ (A:Around) (outer:List Env) (s:Shared) (H:Hp) (vs:List V) (Q:VK) (E:XK),Am k (A.deeper (envOfC qual scope s.heap.objs.size f B7))->sp vs H Q E ->
   ∃ t,LF (CB CX P w K mg base N qual scope f B7 A outer s H E) body t/\t { nx:=λ_ H'=>Q .non H',rt:=Q } (start N vs) H) :
  Av P w K mg base CX (k+1) f (W.fnOf name qual params body scope dV kV doc pm an B7 ct) ps sp:=by
 refine ⟨len,λA outer s H args us vs Q E hr e0 hb r Oi=>?_⟩;have hl:=len _ _ _ _ Oi;have KX:K.In s.heap:=e0.mod.kin.keeps λb o e=>(e0.bs b o e).1;have lim:s.heap.NoLimit:=e0.mod.nolimit.keeps λb o e=>(e0.bs b o e).1;have cX:∀ y∈ps.zip us,scope.names.lookup y.1=some .local\/(scope.names.lookup y.1=some .cell/\((cellsFrom (s.heap.objs.size+1) scope.names []).lookup y.1).isSome=true):=λ⟨n,v⟩ hy=>by
  rcases S.par n (List.of_mem_zip hy).1 with q | q
  ·exact .inl q
  ·exact .inr ⟨q,W.cellsFrom_some _ _ _ (.inl q)⟩
 refine codeAny_call_function hr.depth (KX _ _ lk) rfl S.co S.gen rfl (W.codeRec_of KX Gj) (hb _ _ _ _ ?_);refine wpAny_newFunctionEnv_cells S.kind cX λenv he s1 x=>?_;subst he;refine ⟨lim.keeps x.toInCall.keep,codeAny_func ?_⟩;obtain ⟨t,ht,hq⟩:=Fc A outer s H vs Q E (hr.deeper _) Oi;have I:Inv (CB CX P w K mg base N qual scope f B7 A outer s H E) [] (start N vs) H s1:=MX S hr.hd e0 hl r x;refine wpAny_mono (ht [] s1 (start N vs) H _ I hq) (λfl s' hs=>?_) λe s' hs=>hs;have fin:∀ {σ':St} {H':Hp} {v:V} {u:Value},Inv (CB CX P w K mg base N qual scope f B7 A outer s H E) [] σ' H' s'->RelV v u->Q v H'->CE outer P w H s Q u s' :=
  λ{σ' H' v u} J rv q=>⟨v,H',J.os,J.bare,J.base,J.hok,rv,q⟩
 cases fl with
 | ret u =>
  obtain ⟨v,σ',H',J,rv,q⟩:=hs;exact fin J rv q
 | next =>
  obtain ⟨σ',H',J,q⟩:=hs;exact fin (v:=V.non) (u:=Value.none) J rfl q
 | brk =>
  obtain ⟨_,_,_,q⟩:=hs;exact False.elim q
 | cont =>
  obtain ⟨_,_,_,q⟩:=hs;exact False.elim q
section
variable {X:Cx}{x:Str}{p pos:Pos}{e:Expr}{es:List Expr}{t:TA}{id T:String}{r:List V->Hp->VK->Prop}
noncomputable def cY (r:List V->Hp->VK->Prop)(t:TA):TE:=fun σ H Q=>t σ H λvs H1=>r vs H1 Q
theorem Jh (hc:DB X (.builtin id) r)(hg:Gl X x)(hm:X.mg x=none)(hv:bootBuiltins x=some (.builtin id))(ha:PA X (e::es) t)(hn:x≠"__name__":=by decide)(Cr:(x==("__debug__":Str))=false:=by decide)
  (he:starEach (e::es) X.env=(false,eval e X.env)::starEach es X.env:=by rfl) (CO:(backTo pos (starEach es X.env)).any (·.1)=false:=by rfl):PE X (.Call (.Name x p) (e::es) [] pos) (cY r t):=by
 intro pins s σ H Q I h;refine wpAny_Call_Name_kw (Cq I hg hm hv ?_ hn Cr);exact PyProof.Rows.callWith_builtin1 (AY (ha pos pins s σ H _ I h) λus s1 ⟨vs,H1,I1,r1,q1⟩=>hc pins s1 σ H1 vs us Q I1 r1 q1) he CO
theorem MY (hc:DB X (.type T) r)(hg:Gl X x)(hm:X.mg x=none)(hv:bootBuiltins x=some (.type T))(ha:PA X (e::es) t)(hn:x≠"__name__":=by decide)(Cr:(x==("__debug__":Str))=false:=by decide)
  (he:starEach (e::es) X.env=(false,eval e X.env)::starEach es X.env:=by rfl) (CO:(backTo pos (starEach es X.env)).any (·.1)=false:=by rfl):PE X (.Call (.Name x p) (e::es) [] pos) (cY r t):=by
 intro pins s σ H Q I h;refine wpAny_Call_Name_kw (Cq I hg hm hv ?_ hn Cr);exact PyProof.Rows.callWith_type1 (AY (ha pos pins s σ H _ I h) λus s1 ⟨vs,H1,I1,r1,q1⟩=>hc pins s1 σ H1 vs us Q I1 r1 q1) he CO
end
end L2
namespace HT
open PySem PyProof.Rows
section
variable {prog:Program}{w:World}{A:Around}{E:Value->Shared->Prop}{s:Shared}
theorem abd {t b:Addr}{vs ws:List Value}{Q:Value->Shared->Prop}(ht:IsTup s.heap t vs.toArray)(hb:IsTup s.heap b ws.toArray)(hv:vs≠[])
  (h1:ws=[]->Q (.ref t) s) (h2:ws≠[]->Q (.ref s.heap.objs.size) { s with heap:=s.heap.push { cls:=.type "tuple",data:=.seq (vs++ws).toArray } })
  (hsz:vs.length+ws.length<=sizeLine):wpAny (model prog w) A (binaryOp .Add (.ref t) (.ref b)) Q E s:=by
 obtain ⟨⟨cls,dd,data,sl⟩,ho,hc,n,hd⟩:=id ht;obtain ⟨⟨zj,k7,data2,k8⟩,V1,wy,n2,hd2⟩:=id hb;simp only at hc hd wy hd2;subst hc hd wy hd2;have e:vs.toArray++ws.toArray=(vs++ws).toArray:=by simp
 by_cases hw:ws=[]
 ·exact concat_meets ⟨_,ho,rfl⟩ ⟨_,V1,rfl⟩ noFill_tuple_add seq_tuple_add PySem.F.slot_tuple_add PySem.F.entry_tuple_add (PySem.F.args_tuple_add_2 _ _)
   (tuple_addW1 t b vs.toArray ws.toArray n n2 dd k7 sl k8 (by simpa using hv) (by simp [hw])) ⟨ho,V1,h1 hw⟩
 ·refine concat_meets ⟨_,ho,rfl⟩ ⟨_,V1,rfl⟩ noFill_tuple_add seq_tuple_add PySem.F.slot_tuple_add PySem.F.entry_tuple_add (PySem.F.args_tuple_add_2 _ _)
   (tuple_addW2 t b vs.toArray ws.toArray n n2 dd k7 sl k8 (by simpa using hv) (by simpa using hw) (by rw [List.size_toArray,List.size_toArray];exact hsz)) ⟨ho,V1,?_⟩
  rw [e];exact h2 hw
noncomputable def sIx (n d:Nat):Option Int->Nat
 | none=>d
 | some v=>if v < 0 then (v+(n:Int)).toNat else min v.toNat n
theorem Ws (n d:Nat)(hd:d<=n)(o:Option Int):sIx n d o<=n:=by
 cases o with
 | none=>exact hd
 | some v =>
  show (if v < 0 then (v+(n:Int)).toNat else min v.toNat n)<=n
  by_cases hv:v < 0
  ·rw [if_pos hv];omega
  ·rw [if_neg hv];exact Nat.min_le_right _ _
theorem LU (v:Int)(n d:Nat):(if v < 0 then max (v+(n:Int)) 0 else min v (n:Int))=((sIx n d (some v):Nat):Int):=by
 show (if v < 0 then max (v+(n:Int)) 0 else min v (n:Int))=(((if v < 0 then (v+(n:Int)).toNat else min v.toNat n):Nat):Int)
 by_cases hv:v < 0
 ·simp only [if_pos hv];omega
 ·simp only [if_neg hv];omega
theorem Kq (lo hi:Option Int)(n:Nat):Builtin.Slice.sliceAdjust lo hi 1 (n:Int)=(((sIx n 0 lo:Nat):Int),((sIx n n hi:Nat):Int)):=by
 have h1:¬ ((1:Int) < 0):=by omega
 unfold Builtin.Slice.sliceAdjust;simp only [h1,if_false];refine Prod.ext ?_ ?_
 ·cases lo with
  | none=>rfl
  | some v=>exact LU v n 0
 ·cases hi with
  | none=>rfl
  | some v=>exact LU v n n
theorem Kr (i j:Nat):Builtin.Slice.slicePlaces (i:Int) (j:Int) 1=j - i:=by
 unfold Builtin.Slice.slicePlaces;have h1:(1:Int) > 0:=by omega
 simp only [h1,if_true,Int.ediv_one];split <;> omega
theorem Gr {v:Value}{o:Option Int}{Q:Option Int->Shared->Prop}(p:IsPart v o)(h:Q o s):wpAny (model prog w) A (Builtin.Slice.slicePartIndex v) Q E s:=by
 cases p with
 | none=>exact slicePart_none h
 | int i t=>exact slicePart_int h
theorem Fz {sl:Addr}{vl vu:Value}{lo hi:Option Int}{n:Nat}{Q:Int × Int × Nat->Shared->Prop}(hs:s.heap.IsSliceOf sl vl vu .none)(pl:IsPart vl lo)(pu:IsPart vu hi)
  (h:Q (((sIx n 0 lo:Nat):Int),1,sIx n n hi - sIx n 0 lo) s):wpAny (model prog w) A (Builtin.Slice.sliceApplied (.ref sl) (pure (n:Int))) Q E s:=by
 obtain ⟨os,Wt,wz,cZ⟩:=id hs;unfold Builtin.Slice.sliceApplied Builtin.Slice.sliceFields;refine wpAny_bind (wpAny_bind (wpAny_field Wt cZ (x:=vl) rfl (wpAny_bind (wpAny_field Wt cZ (x:=vu) rfl (wpAny_bind (wpAny_field Wt cZ (x:=.none) rfl (wpAny_pure ?_)))))));refine wpAny_bind (slicePart_none ?_);show wpAny _ _ (if ((1:Int)==0)=true then _ else _) _ _ s
 rw [if_neg ⟨⟩];refine wpAny_bind (Gr pl (wpAny_bind (Gr pu (wpAny_bind (wpAny_pure ?_)))));show wpAny _ _ (match Builtin.Slice.sliceAdjust lo hi 1 (n:Int) with | (lo,hi)=>pure (lo,(1:Int),Builtin.Slice.slicePlaces lo hi 1)) _ _ s
 rw [Kq lo hi n];show wpAny _ _ (pure (((sIx n 0 lo:Nat):Int),(1:Int),Builtin.Slice.slicePlaces ((sIx n 0 lo:Nat):Int) ((sIx n n hi:Nat):Int) 1)) _ _ s;rw [Kr];exact wpAny_pure h
theorem OZ (xs:Array Value)(i k:Nat):((List.range k).filterMap λ(m:Nat)=>xs[((i:Int)+(m:Int) * 1).toNat]?).toArray=((xs.toList.drop i).take k).toArray:=by
 have e:(λ(m:Nat)=>xs[((i:Int)+(m:Int) * 1).toNat]?)=λm=>xs[i+m]?:=by
  funext m
  have:((i:Int)+(m:Int) * 1).toNat=i+m:=by omega
  rw [this]
 rw [e];have:=pick_run xs i k;rw [List.filterMap_map] at this;have e2:((λx=>xs[x]?) ∘ λx=>i+x)=λm=>xs[i+m]?:=rfl;rw [e2] at this;rw [this]
theorem aai {t sl:Addr}{items:Array Value}{vl vu:Value}{lo hi:Option Int}{Q:Value->Shared->Prop}(ht:IsTup s.heap t items)(hs:s.heap.IsSliceOf sl vl vu .none)(pl:IsPart vl lo)(pu:IsPart vu hi)
  (hw:¬ (sIx items.size 0 lo=0/\sIx items.size items.size hi=items.size))
  (h:Q (.ref s.heap.objs.size) { s with heap:=s.heap.push { cls:=.type "tuple",data:=.seq ((items.toList.drop (sIx items.size 0 lo)).take (sIx items.size items.size hi - sIx items.size 0 lo)).toArray } })
  (hsz:items.size<=sizeLine):wpAny (model prog w) A (getItem (.ref t) (.ref sl)) Q E s:=by
 have LV:sizeOk (.seq ((items.toList.drop (sIx items.size 0 lo)).take (sIx items.size items.size hi - sIx items.size 0 lo)).toArray):=by
  show ((items.toList.drop (sIx items.size 0 lo)).take (sIx items.size items.size hi - sIx items.size 0 lo)).toArray.size<=sizeLine;rw [List.size_toArray,List.length_take,List.length_drop,Array.length_toList];omega
 have hj:sIx items.size items.size hi<=items.size:=Ws _ _ (Nat.le_refl _) hi;obtain ⟨os,Wt,wz,cZ⟩:=id hs;have k9:s.TypeIs (.ref sl) "slice":=⟨os,Wt,wz⟩;unfold getItem
 try with_reducible refine wpAny_holding ?_
 first | refine wpAny_bind (wpAny_pure ?_) | skip
 refine wpAny_bind (wpAny_sequenceKey ht.typeIs ⟨⟩ ?_);refine wpAny_bind (wpAny_callSpecial?_slot (name:=Str.ofString "__getitem__") ht.typeIs PyProof.Rows.slot_tuple_getitem
  (wpAny_call_entry PyProof.Rows.slot_tuple_getitem ht.typeIs entry_tuple_getitem ?_ (args_tuple_getitem _ _)))
 show wpAny _ _ (Builtin.Tuple.tupleItemsOf (.ref t) >>= _) _ _ s;refine wpAny_bind (tupleItemsOf_ ht ?_);refine wpAny_bind (wpAny_typeOf k9 ?_);rw [if_pos ⟨⟩];refine wpAny_bind (Fz hs pl pu ?_);have zl:¬ ((((sIx items.size 0 lo:Nat):Int)==0 && (1:Int)==1 && (sIx items.size items.size hi - sIx items.size 0 lo)==items.size)=true):=by
  intro q;rw [Bool.and_eq_true,Bool.and_eq_true] at q;have q1:((sIx items.size 0 lo:Nat):Int)=0:=eq_of_beq q.1.1;have q2:sIx items.size items.size hi - sIx items.size 0 lo=items.size:=eq_of_beq q.2;exact hw ⟨(),()⟩
 show wpAny _ _ (if (((sIx items.size 0 lo:Nat):Int)==0 && (1:Int)==1 && (sIx items.size items.size hi - sIx items.size 0 lo)==items.size)=true then _ else _) _ _ s
 rw [if_neg zl,OZ]
 first
  | exact wpAny_bind (m:=Builtin.Tuple.tupleExact _) (wpAny_newObj_type (wpAny_pure ⟨_,rfl,wpAny_pure h⟩) LV)
  | exact wpAny_bind (m:=Builtin.Tuple.tupleExact _) (wpAny_newObj_type (wpAny_bind (wpAny_pure (wpAny_pure ⟨_,rfl,wpAny_pure h⟩))) LV)
  | exact wpAny_bind (wpAny_bind (m:=Builtin.Tuple.tupleExact _) (wpAny_newObj_type (wpAny_pure (wpAny_pure ⟨_,rfl,wpAny_pure h⟩)) LV))
  | exact wpAny_bind (wpAny_bind (m:=Builtin.Tuple.tupleExact _) (wpAny_newObj_type (wpAny_pure ⟨_,rfl,wpAny_pure h⟩) LV))
end
end HT
namespace L2
open PySem PySem.Spec PyProof.Rows
abbrev TO:=St->Hp->(Option Int->Hp->Prop)->Prop
noncomputable def PO (X:Cx)(e:Option Expr)(t:TO):Prop :=
 ∀ (pins:List (Addr × Obj)) (s:Shared) (σ:St) (H:Hp) (Q:Option Int->Hp->Prop),Inv X pins σ H s->t σ H Q ->
  wpAny (model X.prog X.w) X.A (evalPart e X.env) (λu s'=>∃ o H',Inv X pins σ H' s'/\IsPart u o/\Q o H') X.xe s
noncomputable def P1 (t:TE):TO:=fun σ H Q=>t σ H λx H1=>∃ i,x=.int i/\Q (some i) H1
section
variable {X:Cx}{e:Expr}{te:TE}{lo hi:Option Expr}{tl th:TO}{pos p2:Pos}
theorem RP (h:PE X e te):PO X (some e) (P1 te):=by
 intro pins s σ H Q I hw;rw [evalPart_some];refine AY (h pins s σ H _ I hw) λu s1 AE=>?_;obtain ⟨x,H1,I1,r1,q1⟩:=AE;obtain ⟨i,rfl,q⟩:=q1;obtain ⟨t,rfl⟩:=r1;exact ⟨some i,H1,I1,.int i t,q⟩
noncomputable def kf (X:Cx)(r:V->Option Int->Option Int->Hp->VK->Prop):Prop :=
 ∀ (pins:List (Addr × Obj)) (s:Shared) (σ:St) (H:Hp) (x:V) (v vl vu:Value) (lo hi:Option Int) (sl:Addr) (Q:VK),Inv X pins σ H s->RelV x v->s.heap.IsSliceOf sl vl vu .none->IsPart vl lo->IsPart vu hi->r x lo hi H Q ->
  ∃ T id,typeLookup (.type T) "__getitem__"=pure (some (.builtin id))/\s.TypeIs v T/\wpAny (model X.prog X.w) X.A (getItem v (.ref sl)) (EP X pins σ Q) X.xe s
noncomputable def mz (r:V->Option Int->Option Int->Hp->VK->Prop)(te:TE)(tl th:TO):TE:=fun σ H Q=>te σ H λx H1=>tl σ H1 λl H2=>th σ H2 λu H3=>r x l u H3 Q
theorem P2 {r:V->Option Int->Option Int->Hp->VK->Prop}(hr:kf X r)(he:PE X e te)(hl:PO X lo tl)(hu:PO X hi th):PE X (.Subscript e (.Slice lo hi none p2) pos) (mz r te tl th):=by
 intro pins s σ H Q I h;refine Subscript_ (AY (he pins s σ H _ I h) λv s1 AE=>?_);obtain ⟨x,H1,I1,r1,q1⟩:=AE;refine wpAny_Slice (AY (hl pins s1 σ H1 _ I1 q1) λvl s2 AE=>?_);obtain ⟨l,H2,I2,pl,q2⟩:=AE;refine AY (hu pins s2 σ H2 _ I2 q2) λvu s3 AE=>?_;obtain ⟨u,H3,I3,pu,q3⟩:=AE;rw [evalPart_none];refine wpAny_pure ?_;have I4:Inv X pins σ H3 { s3 with heap:=s3.heap.push { cls:=.type "slice",data:=.fields #[vl,vu,.none] } }:=I3.kept (t':=s3.toks) λb ob q=>Heap.get?_push_of_some _ q;obtain ⟨T,id,hT,ht,hg⟩:=hr pins { s3 with heap:=s3.heap.push { cls:=.type "slice",data:=.fields #[vl,vu,.none] } } σ H3 x v vl vu l u s3.heap.objs.size Q I4 r1 (Heap.IsSliceOf.new ..) pl pu q3;show wpAny (model X.prog X.w) X.A (subscriptTail e (.Slice lo hi none p2) v (.ref s3.heap.objs.size)) (EP X pins σ Q) X.xe { s3 with heap:=s3.heap.push { cls:=.type "slice",data:=.fields #[vl,vu,.none] } };exact tail_any (ops:=[.ref s3.heap.objs.size,v]) ht hT hg (by with_unfolding_all rfl)
noncomputable def Ji (xs:List V)(lo hi:Option Int):List V:=(xs.drop (HT.sIx xs.length 0 lo)).take (HT.sIx xs.length xs.length hi - HT.sIx xs.length 0 lo)
theorem FT (xs:List V)(lo hi:Option Int):(Ji xs lo hi).length<=xs.length:=by
 unfold Ji;rw [List.length_take,List.length_drop];omega
noncomputable def Wu (K:W.Frag):V->Option Int->Option Int->Hp->VK->Prop:=λx lo hi H Q=>∃ a xs,x=.ref a/\CZ K H a xs /\
 ¬ (HT.sIx xs.length 0 lo=0/\HT.sIx xs.length xs.length hi=xs.length)/\∀ p,H p=none->Q (.ref p) (upd H p (.tup (Ji xs lo hi)))
theorem Wv:kf X (Wu X.K):=by
 intro pins s σ H x v vl vu lo hi sl Q I rx hs pl pu h;obtain ⟨a,xs,rfl,hx,hw,q⟩:=h;cases rx;obtain ⟨its,r,ht,hz⟩:=I.tuple hx;have hlen:its.toArray.size=xs.length:=by rw [List.size_toArray];exact r.length.symm
 refine ⟨"tuple",_,PyProof.Rows.slot_tuple_getitem.lookup,ht.typeIs,?_⟩;refine HT.aai ht hs pl pu (by rw [hlen];exact hw) ?_ (by rw [hlen];exact hz);rw [hlen];refine ⟨.ref s.heap.objs.size,_,I.laid (t':=s.toks) (o:=.tup (Ji xs lo hi)) (λb ob q=>Heap.get?_push_of_some _ q) (Nat.le_refl _) ?_,rfl,q _ (I.hok.fresh (Nat.le_refl _))⟩;exact ⟨Nat.le_trans (FT xs lo hi) hz,_,(r.drop (HT.sIx xs.length 0 lo)).take (HT.sIx xs.length xs.length hi - HT.sIx xs.length 0 lo),IsTup.new _ _⟩
noncomputable def d7 (K:W.Frag):R2:=λx y H Q=>∃ a b xs ys,x=.ref a/\y=.ref b/\CZ K H a xs/\CZ K H b ys/\xs≠[]/\xs.length+ys.length<=sizeLine /\
 (ys=[]->Q (.ref a) H)/\(ys≠[]->∀ p,H p=none->Q (.ref p) (upd H p (.tup (xs++ys))))
theorem Vals.aav {xs:List V}{us:List Value}(r:Vals xs us):us=[]↔xs=[]:=by
 cases r with
 | nil=>simp
 | cons _ _=>simp
theorem RQ:Fw X (binaryOp .Add) (d7 X.K):=by
 intro pins s σ H x y v u Q I rx ry h;obtain ⟨a,b,xs,ys,rfl,rfl,ha,hb,hx,hz,q1,q2⟩:=h;cases rx;cases ry;obtain ⟨its,r1,p1,_⟩:=I.tuple ha;obtain ⟨Jj,r2,p2,_⟩:=I.tuple hb;refine HT.abd p1 p2 (λz=>hx (r1.aav.mp z)) (λz=>⟨.ref a,H,I,rfl,q1 (r2.aav.mp z)⟩) (λz=>?_) (by rw [<- r1.length,<- r2.length];exact hz);refine ⟨.ref s.heap.objs.size,_,I.laid (t':=s.toks) (o:=.tup (xs++ys)) (λb ob q=>Heap.get?_push_of_some _ q) (Nat.le_refl _) ?_,rfl,q2 (λw=>z (r2.aav.mpr w)) _ (I.hok.fresh (Nat.le_refl _))⟩;exact ⟨by rw [List.length_append];exact hz,_,r1.append r2,IsTup.new _ _⟩
end
noncomputable def P4 (n:Nat)(i:Int):Option Nat:=if 0<=i then (if i < n then some i.toNat else none) else if -(n:Int)<=i then some (i+n).toNat else none
noncomputable def MZ {α:Type}(xs:List α)(i:Int):Option α:=(P4 xs.length i).bind λj=>xs[j]?
theorem LW {n:Nat}{i:Int}{j:Nat}(h:P4 n i=some j):seqIndex? i n=some j/\j < n/\-(n:Int)<=i/\i < n:=by
 unfold P4 at h;by_cases h0:0<=i
 ·rw [if_pos h0] at h;by_cases h1:i < n
  ·rw [if_pos h1] at h;have e:i.toNat=j:=Option.some.inj h;exact ⟨by rw [seqIndex_of h0 h1,e],(),(),h1⟩
  ·rw [if_neg h1] at h;cases h
 ·rw [if_neg h0] at h;by_cases h1:-(n:Int)<=i
  ·rw [if_pos h1] at h;have e:(i+n).toNat=j:=Option.some.inj h;exact ⟨by rw [seqIndex_neg () h1,e],(),h1,()⟩
  ·rw [if_neg h1] at h;cases h
theorem LX {α:Type}{xs:List α}{i:Int}{v:α}(h:MZ xs i=some v):∃ j,seqIndex? i xs.length=some j/\xs[j]?=some v/\j < xs.length/\-(xs.length:Int)<=i/\i < xs.length:=by
 unfold MZ at h;cases e:P4 xs.length i with
 | none=>rw [e] at h;cases h
 | some j =>
  rw [e] at h;obtain ⟨h1,h2,h3,h4⟩:=LW e;exact ⟨j,h1,h,h2,h3,h4⟩
theorem Ar {α:Type}{xs:List α}{j:Nat}{v:α}(h:xs[j]?=some v):MZ xs (j:Int)=some v:=by
 have hj:j < xs.length:=(List.getElem?_eq_some_iff.mp h).1;have e:P4 xs.length (j:Int)=some j:=by
  unfold P4;rw [if_pos (),if_pos ()];simp
 unfold MZ;rw [e];exact h
theorem P5 {α:Type}(xs:List α)(v:α):MZ (xs++[v]) (-1)=some v:=by
 have hl:(xs++[v]).length=xs.length+1:=by simp
 have e:P4 (xs++[v]).length (-1)=some xs.length:=by
  unfold P4;rw [hl,if_neg ⟨⟩,if_pos ()]
  congr 1
  omega
 unfold MZ;rw [e];show (xs++[v])[xs.length]?=some v;simp
noncomputable def LY (b:Expr):Prop:=∀ o i,subscripted b false o i=operate [o,i] (getItem o i)
noncomputable def kg (X:Cx)(r:R2):Prop :=
 ∀ (value slice:Expr) (pins:List (Addr × Obj)) (s:Shared) (σ:St) (H:Hp) (x y:V) (v u:Value) (Q:VK),Inv X pins σ H s->RelV x v->RelV y u->r x y H Q ->
  subscripted slice false v u=operate [v,u] (getItem v u)->wpAny (model X.prog X.w) X.A (subscriptTail value slice v u) (EP X pins σ Q) X.xe s
noncomputable def kh (X:Cx)(id:String)(r:V->List V->Hp->VK->Prop):Prop :=
 ∀ (pins:List (Addr × Obj)) (s:Shared) (σ:St) (H:Hp) (x:V) (xs:List V) (v:Value) (us:List Value) (Q:VK),Inv X pins σ H s->RelV x v->Vals xs us->r x xs H Q ->
  wpAny (model X.prog X.w) X.A (call (.builtin id) (v::us)) (EP X pins σ Q) X.xe s
section
variable {X:Cx}{a b:Expr}{ta tb:TE}{pos:Pos}
theorem V2 {r:R2}(hr:kg X r)(ha:PE X a ta)(hb:PE X b tb)(hs:LY b):PE X (.Subscript a b pos) (Kj r ta tb):=by
 intro pins s σ H Q I h;exact Subscript_ (W8 ha hb I h λv u s2 x y H2 I2 rx ry q=>hr a b pins s2 σ H2 x y v u Q I2 rx ry q (hs _ _))
noncomputable def DC (K:W.Frag):R2:=λx y H Q=>∃ p xs i v,x=.ref p/\y=.int i/\AO K H p xs/\MZ xs i=some v/\Q v H
noncomputable def Iu (K:W.Frag):R2:=λx y H Q=>∃ p xs i v,x=.ref p/\y=.int i/\CZ K H p xs/\MZ xs i=some v/\Q v H
theorem Ay:kg X (DC X.K):=by
 intro value slice pins s σ H x y v u Q I rx ry h hs;obtain ⟨p,xs,i,z,rfl,rfl,hq,he,q⟩:=h;cases rx;obtain ⟨t,rfl⟩:=ry;obtain ⟨its,r,pl,hz⟩:=I.list hq;obtain ⟨j,h1,h2,h3,h4,h5⟩:=LX he;obtain ⟨w,ew,P6⟩:=r.get h2;have hl:=r.length;have hn:=Gn;have fin:EP X pins σ Q w s:=⟨z,H,I,P6,q⟩;by_cases h0:0<=i
 ·have hj:i.toNat=j:=by
   rw [seqIndex_of h0 h5] at h1;exact Option.some.inj h1
  exact item_listR pl.isList h0 () (by rw [hj];simpa using ew) fin hs
 ·have hj:(i+(its.toArray.size:Int)).toNat=j:=by
   rw [seqIndex_neg () h4] at h1;rw [List.size_toArray,<- hl];exact Option.some.inj h1
  exact subscriptTail_builtinR (x:=w) pl.isList.typeIs slot_list_getitem.lookup
   (wpAny_getItem_list_neg (Q:=λr s'=>r=w/\EP X pins σ Q r s') pl.isList () (by rw [List.size_toArray] <;> omega) () (by rw [hj];simpa using ew) ⟨rfl,fin⟩) hs
theorem FC:kg X (Iu X.K):=by
 intro value slice pins s σ H x y v u Q I rx ry h hs;obtain ⟨p,xs,i,z,rfl,rfl,hq,he,q⟩:=h;cases rx;obtain ⟨t,rfl⟩:=ry;obtain ⟨its,r,pl,hz⟩:=I.tuple hq;obtain ⟨j,h1,h2,h3,h4,h5⟩:=LX he;obtain ⟨w,ew,P6⟩:=r.get h2;have hl:=r.length;have hn:=Gn;have fin:EP X pins σ Q w s:=⟨z,H,I,P6,q⟩;exact subscriptTail_builtinR (x:=w) pl.typeIs slot_tuple_getitem.lookup
  (getItem_tuple (j:=j) (Q:=λr s'=>r=w/\EP X pins σ Q r s') pl () () (by rw [List.size_toArray,<- hl];exact h1) (by simpa using ew) ⟨rfl,fin⟩) hs
theorem Ks (its:List Value)(n j:Nat)(u:Value):Obj.mapSeq (·.setIfInBounds j u) { cls:=.type "list",data:=.seq its.toArray n }={ cls:=.type "list",data:=.seq (its.set j u).toArray n }:=by
 simp [Obj.mapSeq]
theorem Inv.lst {pins:List (Addr × Obj)}{σ:St}{H:Hp}{s:Shared}{p:Addr}{xs:List V}(I:Inv X pins σ H s)(h:H p=some (.lst xs)):
  ∃ (its:List Value) (n:Nat),Vals xs its/\s.heap.get? p=some { cls:=.type "list",data:=.seq its.toArray n }/\xs.length<=sizeLine:=by
 obtain ⟨z,its,n,r,e⟩:=I.hok p _ h;exact ⟨its,n,r,e,z⟩
theorem Inv.abm {pins:List (Addr × Obj)}{σ:St}{H:Hp}{s:Shared}{p:Addr}{xs ys:List V}{its its':List Value}{n n':Nat}{f:Obj->Obj}(I:Inv X pins σ H s)(h:H p=some (.lst xs))
  (ho:s.heap.get? p=some { cls:=.type "list",data:=.seq its.toArray n }) (hf:f { cls:=.type "list",data:=.seq its.toArray n }={ cls:=.type "list",data:=.seq its'.toArray n' }) (r:Vals ys its') (hz:ys.length<=sizeLine) (t:Nat) :
  Inv X pins σ (upd H p (.lst ys)) { s with heap:=s.heap.update p f,toks:=t }:=by
 have e:(s.heap.update p f).get? p=some { cls:=.type "list",data:=.seq its'.toArray n' }:=by
  rw [Heap.get?_update_self f ho (by rw [hf] <;> rfl),hf]
 refine I.write (x:=p) (e:=p) (by rw [h];trivial) (.inl rfl) (λb u hb q=>(Heap.get?_update_other _ _ (Ne.symm hb)).trans q) ⟨_,e⟩ ?_;exact ⟨hz,its',n',r,e⟩
noncomputable def d8:V->V->V->Hp->(Hp->Prop)->Prop:=λo i v H Q=>∃ p xs k j,o=.ref p/\i=.int k/\H p=some (.lst xs)/\P4 xs.length k=some j/\Q (upd H p (.lst (xs.set j v)))
theorem set_list:VW X d8:=by
 intro pins s σ H o i v ov iv u Q I ro ri rv h;obtain ⟨p,xs,k,j,rfl,rfl,hp,hj,q⟩:=h;cases ro;obtain ⟨t,rfl⟩:=ri;obtain ⟨its,n,r,ho,hz⟩:=I.lst hp;obtain ⟨h1,h2,h3,h4⟩:=LW hj;have hl:=r.length;have hn:=Gn;have I':Inv X pins σ (upd H p (.lst (xs.set j v))) { s with heap:=s.heap.update p (Obj.mapSeq (·.setIfInBounds j u)) } :=
  I.abm hp ho (Ks its n j u) (r.set rv j) (by rw [List.length_set];exact hz) s.toks
 by_cases h0:0<=k
 ·have hk:k.toNat=j:=by
   rw [seqIndex_of h0 h4] at h1;exact Option.some.inj h1
  exact W.ki_setAt ho h0 () (by rw [List.size_toArray,<- hl];exact h4) (by rw [hk];exact ⟨_,I',q⟩)
 ·have hk:(k+(its.toArray.size:Int)).toNat=j:=by
   rw [seqIndex_neg () h3] at h1;rw [List.size_toArray,<- hl];exact Option.some.inj h1
  exact W.ki_setBack ho () (by rw [List.size_toArray,<- hl];exact h3) () (by rw [hk];exact ⟨_,I',q⟩)
theorem Iv (lo hi:Option Int)(n:Nat):(sliceBounds lo hi none n).1=((HT.sIx n 0 lo:Nat):Int)/\(sliceBounds lo hi none n).2.1=((HT.sIx n n hi:Nat):Int)/\(sliceBounds lo hi none n).2.2=1:=by
 refine ⟨?_,?_,rfl⟩
 ·cases lo with
  | none=>simp [sliceBounds,HT.sIx]
  | some i =>
   simp only [sliceBounds,HT.sIx,Option.getD_none,show (1:Int) > 0 by decide,if_true];by_cases h:i < 0
   ·simp only [h,if_true] <;> omega
   ·simp only [h,if_false] <;> omega
 ·cases hi with
  | none=>simp [sliceBounds,HT.sIx]
  | some i =>
   simp only [sliceBounds,HT.sIx,Option.getD_none,show (1:Int) > 0 by decide,if_true];by_cases h:i < 0
   ·simp only [h,if_true] <;> omega
   ·simp only [h,if_false] <;> omega
theorem Hs (its:List Value)(lo hi:Option Int):slicePick its.toArray lo hi none=((its.drop (HT.sIx its.length 0 lo)).take (HT.sIx its.length its.length hi - HT.sIx its.length 0 lo)).toArray:=by
 obtain ⟨h1,h2,h3⟩:=Iv lo hi its.toArray.size;unfold slicePick;rw [h1,h2,h3];simp only [sliceRange_one,pick_run,List.size_toArray] <;> rfl
noncomputable def mB (K:W.Frag):V->Option Int->Option Int->Hp->VK->Prop:=λx lo hi H Q=>∃ a xs,x=.ref a/\AO K H a xs/\∀ p,H p=none->Q (.ref p) (upd H p (.lst (Ji xs lo hi)))
theorem ki:kf X (mB X.K):=by
 intro pins s σ H x v vl vu lo hi sl Q I rx hs pl pu h;obtain ⟨a,xs,rfl,hx,q⟩:=h;cases rx;obtain ⟨its,r,ht,hz⟩:=I.list hx;have hlen:=r.length;refine ⟨"list",_,slot_list_getitem.lookup,ht.isList.typeIs,?_⟩;refine wpAny_getItem_list_slice ht.isList hs pl pu .none (by simp) ?_ (by rw [List.size_toArray] <;> omega);rw [Hs,<- hlen];refine ⟨.ref s.heap.objs.size,_,I.laid (t':=s.toks) (o:=.lst (Ji xs lo hi)) (λb ob q=>Heap.get?_push_of_some _ q) (Nat.le_refl _) ?_,rfl,q _ (I.hok.fresh (Nat.le_refl _))⟩;exact ⟨Nat.le_trans (FT xs lo hi) hz,_,0,(r.drop (HT.sIx xs.length 0 lo)).take (HT.sIx xs.length xs.length hi - HT.sIx xs.length 0 lo),Heap.get?_push_size _ rfl⟩
noncomputable def E2:V->Bool
 | .non=>true
 | .bl _=>true
 | .int _=>true
 | .str _=>true
 | _=>false
noncomputable def Rh:V->V->Bool
 | .non,.non=>true
 | .bl a,.bl b=>a==b
 | .bl a,.int b=>(if a then 1 else 0)==b
 | .int a,.bl b=>a==(if b then 1 else 0)
 | .int a,.int b=>a==b
 | .str a,.str b=>a==b
 | _,_=>false
theorem Ww {A:Around}{s:Shared}{y x:V}{u v:Value}(ry:RelV y u)(rx:RelV x v)(fy:E2 y=true)(fx:E2 x=true):SeqAt.EqAt A s u v (Rh y x):=by
 cases y with
 | non =>
  cases ry;cases x with
  | non=>cases rx;exact SeqAt.EqAt.same _
  | bl b=>cases rx;exact SeqAt.EqAt.none_bool b
  | int b=>obtain ⟨t,rfl⟩:=rx;exact SeqAt.EqAt.none_int b t
  | str b=>obtain ⟨t,rfl⟩:=rx;exact SeqAt.EqAt.none_str b t
  | _=>exact absurd (show false=true from fx) Bool.false_ne_true
 | bl a =>
  cases ry;cases x with
  | non=>cases rx;exact SeqAt.EqAt.bool_none a
  | bl b=>cases rx;exact SeqAt.EqAt.bool_bool a b
  | int b=>obtain ⟨t,rfl⟩:=rx;exact SeqAt.EqAt.bool_int a b t
  | str b=>obtain ⟨t,rfl⟩:=rx;exact SeqAt.EqAt.bool_str a b t
  | _=>exact absurd (show false=true from fx) Bool.false_ne_true
 | int a =>
  obtain ⟨t',rfl⟩:=ry;cases x with
  | non=>cases rx;exact SeqAt.EqAt.int_none a t'
  | bl b=>cases rx;exact SeqAt.EqAt.int_bool a t' b
  | int b=>obtain ⟨t,rfl⟩:=rx;exact SeqAt.EqAt.int_int a t' b t
  | str b=>obtain ⟨t,rfl⟩:=rx;exact SeqAt.EqAt.int_str a t' b t
  | _=>exact absurd (show false=true from fx) Bool.false_ne_true
 | str a =>
  obtain ⟨t',rfl⟩:=ry;cases x with
  | non=>cases rx;exact SeqAt.EqAt.str_none a t'
  | bl b=>cases rx;exact SeqAt.EqAt.str_bool a t' b
  | int b=>obtain ⟨t,rfl⟩:=rx;exact SeqAt.EqAt.str_int a t' b t
  | str b=>obtain ⟨t,rfl⟩:=rx;exact SeqAt.EqAt.str_str a t' b t
  | _=>exact absurd (show false=true from fx) Bool.false_ne_true
 | _=>exact absurd (show false=true from fy) Bool.false_ne_true
noncomputable def RS (x:V)(u:Value):Bool:=match u with
 | .none=>Rh .non x
 | .bool b=>Rh (.bl b) x
 | .int i _=>Rh (.int i) x
 | .str z _=>Rh (.str z) x
 | _=>false
theorem P7 {x y:V}{u:Value}(r:RelV y u)(f:E2 y=true):RS x u=Rh y x:=by
 cases y with
 | non=>cases r;rfl
 | bl b=>cases r;rfl
 | int i=>obtain ⟨t,rfl⟩:=r;rfl
 | str z=>obtain ⟨t,rfl⟩:=r;rfl
 | _=>exact absurd (show false=true from f) Bool.false_ne_true
theorem LZ {x:V}:∀ {xs:List V} {us:List Value},Vals xs us->xs.all E2=true->us.any (RS x)=xs.any λy=>Rh y x:=by
 intro xs us h
 induction h with
 | nil=>exact λ_=>rfl
 | cons r t ih =>
  intro f;rw [List.all_cons,Bool.and_eq_true] at f;rw [List.any_cons,List.any_cons,P7 r f.1,ih f.2]
theorem Gs {A:Around}{s:Shared}{x:V}{v:Value}(rx:RelV x v)(fx:E2 x=true):∀ {xs:List V} {us:List Value},Vals xs us->xs.all E2=true->∀ u∈us,SeqAt.EqAt A s u v (RS x u)
 | _,_,.nil,_=>λu hu=>by cases hu
 | y::xs,u::us,.cons r t,f=>λu' hu=>by
  rw [List.all_cons,Bool.and_eq_true] at f;rcases List.mem_cons.mp hu with rfl | hu
  ·rw [P7 r f.1];exact Ww r rx f.1 fx
  ·exact Gs rx fx t f.2 u' hu
noncomputable def Ri (x:V)(xs:List V):Bool:=xs.any λy=>Rh y x
noncomputable def bf (K:W.Frag)(neg:Bool):R2:=λx y H Q=>∃ p xs,y=.ref p/\(AO K H p xs\/CZ K H p xs)/\E2 x=true/\xs.all E2=true/\Q (.bl (if neg then !Ri x xs else Ri x xs)) H
theorem Ey:Fw X (compareOp .In) (bf X.K false):=by
 intro pins s σ H x y v u Q I rx ry h;obtain ⟨p,xs,rfl,hq,fx,fs,q⟩:=h;cases ry;rcases hq with hq | hq
 ·obtain ⟨its,r,pl,hz⟩:=I.list hq;refine SeqAt.in_listAt (RS x) pl.isList (λw hw=>Gs rx fx r fs w (by simpa using hw)) ⟨.bl _,H,I,rfl,?_⟩;rw [show its.toArray.any (RS x)=its.any (RS x) by simp,LZ r fs];exact q
 ·obtain ⟨its,r,pl,hz⟩:=I.tuple hq;refine SeqAt.in_tupleAt (RS x) pl (λw hw=>Gs rx fx r fs w (by simpa using hw)) ⟨.bl _,H,I,rfl,?_⟩;rw [show its.toArray.any (RS x)=its.any (RS x) by simp,LZ r fs];exact q
theorem BB:DB X (.builtin "len") (λxs H Q=>∃ p ys,xs=[.ref p]/\(AO X.K H p ys\/CZ X.K H p ys)/\Q (.int ys.length) H):=by
 intro pins s σ H xs us Q I r h;obtain ⟨p,ys,rfl,hq,q⟩:=h;obtain ⟨u,rfl,rx⟩:=vals1 r;cases rx;have hn:=Gn;rcases hq with hq | hq
 ·obtain ⟨its,r',pl,hz⟩:=I.list hq;have hlen:=r'.length;exact Calls.call_len_list pl.isList (by simp only [List.size_toArray] <;> omega) ⟨.int ys.length,H,I.tok _,⟨s.toks+1,by rw [List.size_toArray,hlen]⟩,q⟩
 ·obtain ⟨its,r',pl,hz⟩:=I.tuple hq;have hlen:=r'.length;exact len_tuple pl (by simp only [List.size_toArray] <;> omega) ⟨.int ys.length,H,I.tok _,⟨s.toks+1,by rw [List.size_toArray,hlen]⟩,q⟩
theorem Iw:DB X (.type "list") (λxs H Q=>∃ p ys,xs=[.ref p]/\(AO X.K H p ys\/CZ X.K H p ys)/\∀ l,H l=none->Q (.ref l) (upd H l (.lst ys))):=by
 intro pins s σ H xs us Q I r h;obtain ⟨p,ys,rfl,hq,q⟩:=h;obtain ⟨u,rfl,rx⟩:=vals1 r;cases rx;have fin:∀ (its:List Value),Vals ys its->ys.length<=sizeLine->∀ (h':Heap) (c':Nat),(∀ b o',s.heap.get? b=some o'->h'.get? b=some o') ->
   h'.get? s.heap.objs.size=some { cls:=.type "list",dict:=none,data:=.seq its.toArray c',slots:=#[] }->EP X pins σ Q (.ref s.heap.objs.size) { s with heap:=h' }:=λits r' hz h' c' kp e =>
  ⟨.ref s.heap.objs.size,_,I.laid (t':=s.toks) kp (Nat.le_refl _) (show AN X.prog X.w _ h' _ (.lst ys) from ⟨hz,its,c',r',e⟩),rfl,q _ (I.hok.fresh (Nat.le_refl _))⟩
 rcases hq with hq | hq
 ·obtain ⟨its,r',pl,hz⟩:=I.list hq;have hlen:=r'.length;obtain ⟨o,ho,hc,n,hd⟩:=pl.isList;exact call_list_seq p (.inl rfl) ho hc hd (λh' c' kp e=>fin its r' hz h' c' kp e) (by simp only [List.size_toArray] <;> omega)
 ·obtain ⟨its,r',pl,hz⟩:=I.tuple hq;have hlen:=r'.length;obtain ⟨o,ho,hc,n,hd⟩:=pl;exact call_list_seq p (.inr rfl) ho hc hd (λh' c' kp e=>fin its r' hz h' c' kp e) (by simp only [List.size_toArray] <;> omega)
theorem EH:DB X (.type "tuple") (λxs H Q=>∃ p ys,xs=[.ref p]/\((AO X.K H p ys/\∀ l,H l=none->Q (.ref l) (upd H l (.tup ys)))\/(CZ X.K H p ys/\Q (.ref p) H))):=by
 intro pins s σ H xs us Q I r h;obtain ⟨p,ys,rfl,h⟩:=h;obtain ⟨u,rfl,rx⟩:=vals1 r;cases rx;rcases h with ⟨hq,q⟩ | ⟨hq,q⟩
 ·obtain ⟨its,r',pl,hz⟩:=I.list hq;have hlen:=r'.length;refine call_tuple_list pl.isList (λh' kp=>?_) (by simp only [List.size_toArray] <;> omega);have I1:Inv X pins σ H { s with heap:=h' }:=I.kept (t':=s.toks) kp;have I2:Inv X pins σ (upd H h'.objs.size (.tup ys)) { s with heap:=h'.push { cls:=.type "tuple",data:=.seq its.toArray } } :=
   I1.laid (t':=s.toks) (λb o e=>Heap.get?_push_of_some _ e) (Nat.le_refl _) (show AN X.prog X.w _ _ _ (.tup ys) from ⟨hz,its,r',IsTup.new _ _⟩)
  exact ⟨.ref h'.objs.size,_,I2,rfl,q _ (I1.hok.fresh (Nat.le_refl _))⟩
 ·obtain ⟨its,r',pl,hz⟩:=I.tuple hq;exact call_tuple_same pl ⟨.ref p,H,I,rfl,q⟩
noncomputable def d9 (K:W.Frag)(T:String)(x:V)(H:Hp):Prop:=match x with
 | .str _=>T="str"
 | .int _=>T="int"
 | .ref p=>(T="list"/\∃ xs,AO K H p xs)\/(T="tuple"/\∃ o,K.lookup p=some o/\o.cls=.type "tuple"/\o.dict=none) \/
   (T="dict"/\((∃ kvs,H p=some (.dK kvs))\/∃ kvs,H p=some (.dT kvs)))\/(T="set"/\∃ S n,H p=some (.set S n))
 | _=>False
theorem P8 {pins:List (Addr × Obj)}{σ:St}{H:Hp}{s:Shared}{T:String}{x:V}{v:Value}(I:Inv X pins σ H s)(r:RelV x v)(ty:d9 X.K T x H):
  s.TypeIs v T/\∀ a,v=.ref a->∃ ob,s.heap.get? a=some ob/\ob.dict=none:=by
 cases x with
 | str z =>
  obtain ⟨t,rfl⟩:=r;cases (show T="str" from ty);exact ⟨typeIs_str s z t,λ_ e=>nomatch e⟩
 | int i =>
  obtain ⟨t,rfl⟩:=r;cases (show T="int" from ty);exact ⟨typeIs_int s i t,λ_ e=>nomatch e⟩
 | ref p =>
  cases r;rcases ty with ⟨rfl,xs,hq⟩ | ⟨rfl,o,hk,hc,hd⟩ | ⟨rfl,hk⟩ | ⟨rfl,S,n,hk⟩
  ·obtain ⟨its,_,pl,_⟩:=I.list hq;refine ⟨pl.isList.typeIs,λa e=>?_⟩;cases e;obtain ⟨o,n,e,c,hd,_⟩:=pl;exact ⟨o,e,hd⟩
  ·refine ⟨⟨o,I.kIn p o hk,hc⟩,λa e=>?_⟩;cases e;exact ⟨o,I.kIn _ o hk,hd⟩
  ·have z:∃ o,s.heap.get? p=some o/\o.ExactDict:=by
    rcases hk with ⟨kvs,hk⟩ | ⟨kvs,hk⟩
    ·obtain ⟨_,_,_,_,o,_,_,e,ex,_⟩:=I.hok p _ hk;exact ⟨o,e,ex⟩
    ·obtain ⟨_,_,_,_,o,_,_,e,ex,_⟩:=I.hok p _ hk;exact ⟨o,e,ex⟩
   obtain ⟨o,e,ex⟩:=z;refine ⟨⟨o,e,ex.1⟩,λa e2=>?_⟩;cases e2;exact ⟨o,e,ex.2.1⟩
  ·obtain ⟨o,_,_,_,e,ex,_⟩:=I.hok p _ hk;refine ⟨⟨o,e,ex.1⟩,λa e2=>?_⟩;cases e2;exact ⟨o,e,ex.2.1⟩
 | _=>exact False.elim ty
noncomputable def Wx (K:W.Frag)(T:String)(r:V->List V->Hp->VK->Prop)(to:TE):TE:=fun σ H Q=>to σ H λx H1=>d9 K T x H1/\r x [] H1 Q
noncomputable def mD (K:W.Frag)(T:String)(r:V->List V->Hp->VK->Prop)(to:TE)(t:TA):TE:=fun σ H Q=>to σ H λx H1=>d9 K T x H1/\t σ H1 λxs H2=>r x xs H2 Q
variable {o e:Expr}{es:List Expr}{to:TE}{t:TA}{name:Str}{apos AR:Pos}{T id:String}{r:V->List V->Hp->VK->Prop}
theorem Wy (pa:PlainAttrs T)(slot:Slot T name id)(Wz:typeOf (.builtin id)=pure (.type "method_descriptor"))(hm:kh X id r)(ho:PE X o to)
  (BM:attributeBase o name X.env (eval o X.env)=eval o X.env:=by rfl) (Gu:(apos.endLine==AR.line)=true:=by rfl):PE X (.Call (.Attribute o name apos) [] [] AR) (Wx X.K T r to):=by
 intro pins s σ H Q I h;refine wpAny_Call_method0_late BM Gu (AY (ho pins s σ H _ I h) λv s1 AE=>?_);obtain ⟨x,H1,I1,r1,ty,q1⟩:=AE;obtain ⟨h1,h2⟩:=P8 I1 r1 ty;exact ⟨T,id,pa,slot,Wz,h1,h2,Calls.callWith_builtin rfl (PySem.evalArgs_none (hm pins s1 σ H1 x [] v [] Q I1 r1 .nil q1))⟩
theorem dc (pa:PlainAttrs T)(slot:Slot T name id)(Wz:typeOf (.builtin id)=pure (.type "method_descriptor"))(hm:kh X id r)(ho:PE X o to)(ha:PA X (e::es) t)
  (BM:attributeBase o name X.env (eval o X.env)=eval o X.env:=by rfl)
  (WA:((backTo AR (starEach (e::es) X.env)).all (λx=>!x.1) && (backToKw AR (keywordEach [] X.env)).all (λx=>x.1.isSome)
   && decide ((e::es).length+([]:List Keyword).length+(if ([]:List Keyword).isEmpty then 0 else 1) < 30))=true:=by rfl)
  (Gu:(apos.endLine==AR.line)=true:=by rfl) (hs:starEach (e::es) X.env=(false,eval e X.env)::starEach es X.env:=by rfl) (ES:(backTo AR (starEach es X.env)).any (·.1)=false:=by rfl) :
  PE X (.Call (.Attribute o name apos) (e::es) [] AR) (mD X.K T r to t):=by
 intro pins s σ H Q I h;refine wpAny_Call_method_late BM WA Gu rfl (AY (ho pins s σ H _ I h) λv s1 AE=>?_);obtain ⟨x,H1,I1,r1,ty,q1⟩:=AE;obtain ⟨h1,h2⟩:=P8 I1 r1 ty;refine ⟨T,id,pa,slot,Wz,h1,h2,?_⟩;have hA:=ha AR pins s1 σ H1 _ I1 q1;rw [hs] at hA ⊢;refine Calls.callWith_builtin (by show (false || (backTo AR (starEach es X.env)).any (·.1))=false;rw [ES] <;> rfl) (Calls.evalArgs_plain ?_);exact AY hA λus s2 ⟨vs,H2,I2,r2,q2⟩=>hm pins s2 σ H2 x vs v us Q I2 r1 r2 q2
end
noncomputable def kl (X:Cx)(id:String)(r:V->List V->Hp->VK->Prop):Prop :=
 ∀ (pins:List (Addr × Obj)) (s:Shared) (σ:St) (H:Hp) (x:V) (xs:List V) (v:Value) (us:List Value) (Q:VK),Inv X pins σ H s->RelV x v->Vals xs us->r x xs H Q ->
  wpAny (model X.prog X.w) X.A (call (.builtin id) (v::us)) (EP X pins σ Q) X.xe s
theorem Vals.one:∀ {x:V} {us:List Value},Vals [x] us->∃ u,us=[u]/\RelV x u:=by
 intro x us h;cases h with
 | cons r t=>cases t;exact ⟨_,rfl,r⟩
theorem Vals.zero:∀ {us:List Value},Vals [] us->us=[]
 | _,.nil=>rfl
theorem Vals.dropLast {xs:List V}{us:List Value}(h:Vals xs us):Vals xs.dropLast us.dropLast:=by
 induction h with
 | nil=>exact .nil
 | cons r t ih =>
  cases t with
  | nil=>exact .nil
  | cons q t'=>exact .cons r ih
theorem Vals.reverse {xs:List V}{us:List Value}(h:Vals xs us):Vals xs.reverse us.reverse:=by
 induction h with
 | nil=>exact .nil
 | cons r t ih=>rw [List.reverse_cons,List.reverse_cons];exact Vals.append ih (.cons r .nil)
theorem Vals.rep {xs:List V}{us:List Value}(h:Vals xs us):∀ k:Nat,Vals (List.replicate k xs).flatten (List.replicate k us).flatten
 | 0=>.nil
 | k+1=>by
  rw [List.replicate_succ,List.replicate_succ,List.flatten_cons,List.flatten_cons];exact Vals.append h (Vals.rep h k)
theorem Kt {α:Type}(l:List α):l.eraseIdx (l.length - 1)=l.dropLast:=by
 induction l with
 | nil=>rfl
 | cons a r ih =>
  cases r with
  | nil=>rfl
  | cons b r =>
   have e:(a::b::r).length - 1=((b::r).length - 1)+1:=by
    have h1:(a::b::r).length=r.length+2:=rfl;have h2:(b::r).length=r.length+1:=rfl;omega
   rw [e,List.eraseIdx_cons_succ,ih]
   all_goals rfl
theorem foldl_rep (its:List Value):∀ (k:Nat) (acc:List Value),
  List.foldl (λx1 x2=>x1++x2) acc.toArray (List.replicate k its.toArray)=(acc++(List.replicate k its).flatten).toArray
 | 0,acc=>by simp
 | k+1,acc=>by
  have e:acc.toArray++its.toArray=(acc++its).toArray:=by simp
  have e2:(acc++its)++(List.replicate k its).flatten=acc++(List.replicate (k+1) its).flatten:=by
   rw [List.replicate_succ,List.flatten_cons,List.append_assoc]
  rw [<- e2,<- foldl_rep its k (acc++its),<- e,List.replicate_succ,List.foldl_cons]
section
variable {X:Cx}{pins:List (Addr × Obj)}{σ:St}{H:Hp}{s:Shared}{l b:Addr}{xs ys zs:List V}
theorem Inv.abu {its its':List Value}{n:Nat}{f:Array Value->Array Value}{t':Nat}(I:Inv X pins σ H s)(hH:H l=some (.lst xs))
  (e:s.heap.get? l=some { cls:=.type "list",data:=.seq its.toArray n }) (hf:f its.toArray=its'.toArray) (hv:Vals ys its') (hz:ys.length<=sizeLine) :
  Inv X pins σ (upd H l (.lst ys)) { s with heap:=s.heap.update l (Obj.mapSeq f),toks:=t' }:=by
 have q:=PySem.IsL.update e f;rw [hf] at q;refine I.write (x:=l) (e:=l) (by rw [hH];exact trivial) (.inl rfl) (λb' u hb hu=>(Heap.get?_update_other s.heap (Obj.mapSeq f) (Ne.symm hb)).trans hu) ⟨_,q⟩ ?_;exact ⟨hz,its',_,hv,q⟩
theorem Inv.ab1 {its:List Value}{t':Nat}(I:Inv X pins σ H s)(hv:Vals ys its)(hz:ys.length<=sizeLine):
  Inv X pins σ (upd H s.heap.objs.size (.lst ys)) { s with heap:=s.heap.push { cls:=.type "list",data:=.seq its.toArray },toks:=t' } :=
 I.laid (λ_ _ q=>Heap.get?_push_of_some _ q) (Nat.le_refl _) ⟨hz,its,0,hv,Heap.get?_push_size _ rfl⟩
theorem Inv.fresh (I:Inv X pins σ H s):H s.heap.objs.size=none:=I.hok.fresh (Nat.le_refl _)
theorem Inv.abe (I:Inv X pins σ H s)(hH:H l=some (.lst xs)):xs.length<=sizeLine/\∃ (its:List Value) (n:Nat),Vals xs its/\xs.length=its.length/\s.heap.get? l=some { cls:=.type "list",data:=.seq its.toArray n }:=by
 obtain ⟨z,its,n,r,e⟩:=I.hok l _ hH;exact ⟨z,its,n,r,r.length,e⟩
theorem Jk {n:Nat}(h:n<=sizeLine):Builtin.List.listTooLong n=false:=by
 unfold Builtin.List.listTooLong;exact decide_eq_false ()
end
section
variable {X:Cx}
noncomputable def M0:V->List V->Hp->VK->Prop:=λx vs H Q=>∃ l xs y,x=.ref l/\vs=[y]/\H l=some (.lst xs)/\xs.length < sizeLine/\Q .non (upd H l (.lst (xs++[y])))
theorem BS:kl X "list.append" M0:=by
 intro pins s σ H x vs v us Q I rx rv h;obtain ⟨l,xs,y,rfl,rfl,hH,hz,q⟩:=h;cases rx;obtain ⟨u,rfl,ru⟩:=rv.one;obtain ⟨z,its,n,r,hl,e⟩:=I.abe hH;refine call_meets F.slot_list_append ⟨_,e,rfl⟩ F.entry_list_append (F.args_list_append_2 _ _) (PySem.list_append l its.toArray n u (by rw [List.size_toArray];omega)) ⟨e,?_⟩;refine ⟨.non,_,I.abu (its':=its++[u]) hH e (by simp) (r.append (.cons ru .nil)) ?_,rfl,q⟩;rw [List.length_append,List.length_singleton];omega
noncomputable def RT:V->List V->Hp->VK->Prop:=λx vs H Q=>∃ l b xs zs,x=.ref l/\vs=[.ref b]/\H l=some (.lst xs)/\H b=some (.lst zs)/\xs.length+zs.length<=sizeLine/\Q .non (upd H l (.lst (xs++zs)))
theorem D7:kl X "list.extend" RT:=by
 intro pins s σ H x vs v us Q I rx rv h;obtain ⟨l,b,xs,zs,rfl,rfl,hH,hB,hz,q⟩:=h;cases rx;obtain ⟨u,rfl,ru⟩:=rv.one;cases ru;obtain ⟨z,its,n,r,hl,e⟩:=I.abe hH;obtain ⟨z2,Jj,n2,r2,E9,e2⟩:=I.abe hB;have hsz:its.toArray.size+Jj.toArray.size<=sizeLine:=by rw [List.size_toArray,List.size_toArray];omega
 have P9:¬ (!its.toArray.isEmpty && Builtin.List.listTooLong (its.toArray.size+Jj.toArray.size))=true:=by
  rw [Jk hsz,Bool.and_false];exact Bool.false_ne_true
 refine call_meets F.slot_list_extend ⟨_,e,rfl⟩ F.entry_list_extend (F.args_list_extend_2 _ _)
  (AutoSeq1.list_extend_list_list_0 l its.toArray n b Jj.toArray n2 P9 (by rw [List.size_toArray];omega) ()) ⟨e,e2,?_⟩
 refine ⟨.non,_,I.abu (its':=its++Jj) hH e (by simp) (r.append r2) ?_,rfl,q⟩;rw [List.length_append];omega
noncomputable def mE:V->List V->Hp->VK->Prop:=λx vs H Q=>∃ l xs y,x=.ref l/\vs=[]/\H l=some (.lst xs)/\xs[xs.length - 1]?=some y/\Q y (upd H l (.lst xs.dropLast))
theorem Ea:kl X "list.pop" mE:=by
 intro pins s σ H x vs v us Q I rx rv h;obtain ⟨l,xs,y,rfl,rfl,hH,hy,q⟩:=h;cases rx;have de:=rv.zero;subst de;obtain ⟨z,its,n,r,hl,e⟩:=I.abe hH;obtain ⟨u,hu,ru⟩:=r.get hy;have zo:its.toArray[its.toArray.size - 1]?=some u:=by
  show its.toArray[its.length - 1]?=some u;rw [<- Array.getElem?_toList,<- hl];exact hu
 refine call_meets F.slot_list_pop ⟨_,e,rfl⟩ F.entry_list_pop (F.args_list_pop_1 _) (MeetsSeq.list_pop_last l its.toArray n u zo (by rw [List.size_toArray];omega)) ⟨e,?_⟩;refine ⟨y,_,I.abu (its':=its.dropLast) hH e ?_ r.dropLast ?_,ru,q⟩
 ·show its.toArray.eraseIdxIfInBounds (its.toArray.size - 1)=its.dropLast.toArray;rw [List.size_toArray,List.eraseIdxIfInBounds_toArray,Kt]
 ·rw [List.length_dropLast];omega
noncomputable def df:R2:=λx y H Q=>∃ l b xs zs,x=.ref l/\y=.ref b/\H l=some (.lst xs)/\H b=some (.lst zs)/\xs.length+zs.length<=sizeLine/\∀ p,H p=none->Q (.ref p) (upd H p (.lst (xs++zs)))
theorem DM:Fw X (binaryOp .Add) df:=by
 intro pins s σ H x y v u Q I rx ry h;obtain ⟨l,b,xs,zs,rfl,rfl,hH,hB,hz,q⟩:=h;cases rx;cases ry;obtain ⟨z,its,n,r,hl,e⟩:=I.abe hH;obtain ⟨z2,Jj,n2,r2,E9,e2⟩:=I.abe hB;refine PySem.P.add_list e e2 ?_ (by rw [List.size_toArray,List.size_toArray];omega);have ea:its.toArray++Jj.toArray=(its++Jj).toArray:=by simp
 rw [ea];exact ⟨.ref _,_,I.ab1 (t':=s.toks) (r.append r2) (by rw [List.length_append];omega),rfl,q _ I.fresh⟩
noncomputable def mH:R2:=λx y H Q=>∃ l k xs,x=.ref l/\y=.int k/\H l=some (.lst xs)/\-(2 ^ 63)<=k/\k < 2 ^ 63/\xs.length * k.toNat<=sizeLine /\
 ∀ p,H p=none->Q (.ref p) (upd H p (.lst (List.replicate k.toNat xs).flatten))
theorem len_rep {α:Type}(xs:List α)(k:Nat):(List.replicate k xs).flatten.length=k * xs.length:=by
 induction k with
 | zero=>simp
 | succ k ih=>rw [List.replicate_succ,List.flatten_cons,List.length_append,ih,Nat.succ_mul,Nat.add_comm]
theorem Ku:Fw X (binaryOp .Mult) mH:=by
 intro pins s σ H x y v u Q I rx ry h;obtain ⟨l,k,xs,rfl,rfl,hH,h1,h2,hz,q⟩:=h;cases rx;obtain ⟨t,rfl⟩:=ry;obtain ⟨z,its,n,r,hl,e⟩:=I.abe hH;have hlen:its.toArray.size * k.toNat<=sizeLine:=by rw [List.size_toArray,<- hl];exact hz
 have mO:¬ its.toArray.size * k.toNat > (2 ^ 63 - 1) / 8:=by
  have:(sizeLine:Nat)<=(2 ^ 63 - 1) / 8:=by decide
  omega
 have mP:¬ (!Builtin.List.listFitsIndex k)=true:=by
  rw [fitsIndex_both h1 h2];exact Bool.false_ne_true
 have P9:¬ Builtin.List.listTooLong (its.toArray.size * k.toNat)=true:=by
  rw [Jk hlen];exact Bool.false_ne_true
 have mQ:List.foldl (λx1 x2=>x1++x2) #[] (List.replicate (if its.toArray.isEmpty=true then 0 else k.toNat) its.toArray)=(List.replicate k.toNat its).flatten.toArray:=by
  have f0:∀ m:Nat,List.foldl (λx1 x2=>x1++x2) #[] (List.replicate m its.toArray)=(List.replicate m its).flatten.toArray:=λm=>by
   have:=foldl_rep its m [];rw [List.nil_append] at this;exact this
  rw [f0];cases its with
  | nil=>simp
  | cons a r'=>rw [if_neg (by simp)]
 refine wpAny_binaryOp_repeat_ref (T:="list") (U:="int") ⟨⟩ ⟨_,e,rfl⟩ (λs'=>typeIs_int s' k t) noFill_list_mul F.fills_int_mul F.slot_int_rmul repeat_list F.slot_int_index.lookup
  (call_meets F.slot_int_rmul (typeIs_int s k t) F.entry_int_rmul (F.args_int_rmul_2 _ _) (int___rmul___int_list k t l its.toArray n)
   ⟨e,rfl,⟨_,e,rfl⟩,call_meets F.slot_list_mul ⟨_,e,rfl⟩ F.entry_list_mul (F.args_list_mul_2 _ _) (AutoListH.list___mul___list_int_3 l its.toArray n k t mP mO P9) ⟨e,?_⟩⟩)
 rw [mQ];exact ⟨.ref _,_,I.ab1 (t':=s.toks) (r.rep k.toNat) (by rw [len_rep,Nat.mul_comm];exact hz),rfl,q _ I.fresh⟩
end
section
variable {κ:Type}[DecidableEq κ]
noncomputable def Bu (kvs:List (κ × V))(k:κ):Option V:=(kvs.find? λkv=>decide (kv.1=k)).map (·.2)
noncomputable def putK (kvs:List (κ × V))(k:κ)(v:V):List (κ × V) :=
 if (kvs.any λkv=>decide (kv.1=k))=true then kvs.map (λkv=>if kv.1=k then (kv.1,v) else kv) else kvs++[(k,v)]
theorem Bv {p:κ × V}{r:List (κ × V)}{k:κ}(e:p.1=k):Bu (p::r) k=some p.2:=by simp [Bu,List.find?_cons,e]
theorem B8 {p:κ × V}{r:List (κ × V)}{k:κ}(e:¬ p.1=k):Bu (p::r) k=Bu r k:=by simp [Bu,List.find?_cons,e]
theorem DD (k:κ):∀ kvs:List (κ × V),(kvs.any λkv=>decide (kv.1=k))=(Bu kvs k).isSome
 | []=>rfl
 | p::r=>by
  rw [List.any_cons];by_cases e:p.1=k
  ·simp only [Bv e,decide_eq_true e,Bool.true_or,Option.isSome_some]
  ·rw [B8 e,decide_eq_false e,Bool.false_or];exact DD k r
theorem Jl (k j:κ)(y:V):∀ kvs:List (κ × V),Bu (kvs.map λkv=>if kv.1=k then (kv.1,y) else kv) j=(Bu kvs j).map λx=>if j=k then y else x
 | []=>rfl
 | p::r=>by
  have ih:=Jl k j y r;rw [List.map_cons];by_cases h:p.1=k
  ·rw [if_pos h];by_cases e:p.1=j
   ·rw [Bv (p:=(p.1,y)) e,Bv e,Option.map_some,if_pos (e.symm.trans h)]
   ·rw [B8 (p:=(p.1,y)) e,B8 e,ih]
  ·rw [if_neg h];by_cases e:p.1=j
   ·rw [Bv (p:=p) e,Bv e,Option.map_some,if_neg (λz=>h (e.trans z))]
   ·rw [B8 (p:=p) e,B8 e,ih]
theorem HP (k j:κ)(y:V):∀ kvs:List (κ × V),Bu kvs k=none->Bu (kvs++[(k,y)]) j=if j=k then some y else Bu kvs j
 | [],_=>by
  by_cases e:k=j
  ·rw [if_pos e.symm];exact Bv (p:=(k,y)) e
  ·rw [if_neg (λz=>e z.symm)];exact B8 (p:=(k,y)) e
 | p::r,hn=>by
  rw [List.cons_append];have hk:¬ p.1=k:=λz=>by rw [Bv z] at hn;cases hn
  rw [B8 hk] at hn;have ih:=HP k j y r hn;by_cases e:p.1=j
  ·rw [Bv e,Bv e,if_neg (λz=>hk (e.trans z))]
  ·rw [B8 e,B8 e,ih]
theorem Fd (kvs:List (κ × V))(k j:κ)(y:V):Bu (putK kvs k y) j=if j=k then some y else Bu kvs j:=by
 unfold putK;by_cases a:(kvs.any λkv=>decide (kv.1=k))=true
 ·rw [if_pos a,Jl];rw [DD] at a;by_cases e:j=k
  ·obtain ⟨x,hx⟩:=Option.isSome_iff_exists.mp a;rw [if_pos e,e,hx,Option.map_some,if_pos rfl]
  ·rw [if_neg e];cases Bu kvs j with
   | none=>rfl
   | some x=>rw [Option.map_some,if_neg e]
 ·rw [if_neg a];refine HP k j y kvs ?_;rw [DD] at a;cases q:Bu kvs k with
  | none=>rfl
  | some x=>rw [q] at a;exact (a rfl).elim
theorem Eb (kvs:List (κ × V))(k:κ)(v:V):(putK kvs k v).length<=kvs.length+1:=by
 unfold putK;split
 ·rw [List.length_map];omega
 ·rw [List.length_append,List.length_cons,List.length_nil];omega
theorem Ec {kvs:List (κ × V)}{k:κ}(v:V)(h:Bu kvs k=none):putK kvs k v=kvs++[(k,v)]:=by
 unfold putK;rw [DD,h];exact if_neg ⟨⟩
theorem DJ.aag {o:Option V}{u:Option Value}(r:DJ o u):o.isSome=u.isSome:=by
 cases o with
 | none=>cases u with
  | none=>rfl
  | some _=>exact (show False from r).elim
 | some _=>cases u with
  | none=>exact (show False from r).elim
  | some _=>rfl
theorem DJ.getD {o:Option V}{u:Option Value}{d:V}{d':Value}(r:DJ o u)(left:RelV d d'):RelV (o.getD d) (u.getD d'):=by
 cases o with
 | none=>cases u with
  | none=>exact left
  | some _=>exact (show False from r).elim
 | some _=>cases u with
  | none=>exact (show False from r).elim
  | some _=>exact r
theorem KV.val {kvs:List (κ × V)}{vs:List (κ × Value)}(r:KV kvs vs)(k:κ):DJ (Bu kvs k) (valueAt vs k):=by
 unfold KV at r
 induction r with
 | nil=>exact True.intro
 | @cons p q ps qs h t ih =>
  obtain ⟨h1,h2⟩:=h;by_cases e:p.1=k
  ·have e':q.1=k:=h1.symm.trans e;have b:valueAt (q::qs) k=some q.2:=(by simp [valueAt,List.find?_cons,e']);rw [Bv e,b];exact h2
  ·have e':¬ q.1=k:=λz=>e (h1.trans z);have b:valueAt (q::qs) k=valueAt qs k:=(by simp [valueAt,List.find?_cons,e']);rw [B8 e,b];exact ih
theorem KV.any {kvs:List (κ × V)}{vs:List (κ × Value)}(r:KV kvs vs)(k:κ):(kvs.any λkv=>decide (kv.1=k))=vs.any λkv=>decide (kv.1=k):=by
 unfold KV at r
 induction r with
 | nil=>rfl
 | cons h t ih=>rw [List.any_cons,List.any_cons,ih,h.1]
theorem KV.abv {kvs:List (κ × V)}{vs:List (κ × Value)}(r:KV kvs vs)(k:κ){y:V}{u:Value}(ry:RelV y u):
  KV (kvs.map λkv=>if kv.1=k then (kv.1,y) else kv) (vs.map λkv=>if kv.1=k then (kv.1,u) else kv):=by
 unfold KV at r ⊢
 induction r with
 | nil=>exact .nil
 | @cons p q ps qs h t ih =>
  rw [List.map_cons,List.map_cons];refine .cons ?_ ih;obtain ⟨h1,h2⟩:=h;by_cases e:p.1=k
  ·rw [if_pos e,if_pos (h1.symm.trans e)];exact ⟨h1,ry⟩
  ·rw [if_neg e,if_neg (λz=>e (h1.trans z))];exact ⟨h1,h2⟩
theorem KV.put {kvs:List (κ × V)}{vs:List (κ × Value)}(r:KV kvs vs)(k:κ){y:V}{u:Value}(ry:RelV y u):KV (putK kvs k y) (stored vs k u):=by
 unfold putK stored;rw [r.any k];by_cases e:(vs.any λkv=>decide (kv.1=k))=true
 ·rw [if_pos e,if_pos e];exact r.abv k ry
 ·rw [if_neg e,if_neg e];exact Paired.snoc r ⟨rfl,ry⟩
theorem KV.length {kvs:List (κ × V)}{vs:List (κ × Value)}(r:KV kvs vs):kvs.length=vs.length:=Paired.length r
end
theorem Ff {P:Program}{w:World}{k:Key}{u:Value}(r:RelV (kV k) u):(AS P w).is k u=true:=by
 cases k with
 | inl i=>obtain ⟨t,e⟩:=(show ∃ t,u=Value.int i t from r);subst e;exact J9 P w i t
 | inr x=>obtain ⟨t,e⟩:=(show ∃ t,u=Value.str x t from r);subst e;exact E7 P w x t
theorem HQ {P:Program}{w:World}:∀ {ks:List Key} {us:List Value},Vals (ks.map kV) us->ItemsAre (AS P w) ks us
 | [],_,r=>by rw [List.map_nil] at r;cases r;exact .nil
 | k::ks,_,r=>by
  rw [List.map_cons] at r;cases r with
  | cons h t=>exact .cons (Ff h) (HQ t)
abbrev KT (H:Hp):List (List Key × V)->List (List Key × Addr × Value)->Prop:=Paired λp q=>p.1=q.1/\H q.2.1=some (.tup (p.1.map kV))/\RelV p.2 q.2.2
theorem KT.val {H:Hp}{kvs:List (List Key × V)}{xs:List (List Key × Addr × Value)}(r:KT H kvs xs)(k:List Key):DJ (Bu kvs k) ((atKey xs k).map (·.2)):=by
 induction r with
 | nil=>exact True.intro
 | @cons p q ps qs h t ih =>
  obtain ⟨h1,_,h2⟩:=h;by_cases e:p.1=k
  ·have e':q.1=k:=h1.symm.trans e;have b:atKey (q::qs) k=some q.2:=(by simp [atKey,List.find?_cons,e']);rw [Bv e,b];exact h2
  ·have e':¬ q.1=k:=λz=>e (h1.trans z);have b:atKey (q::qs) k=atKey qs k:=(by simp [atKey,List.find?_cons,e']);rw [B8 e,b];exact ih
theorem KT.abv {H:Hp}{kvs:List (List Key × V)}{xs:List (List Key × Addr × Value)}(r:KT H kvs xs)(k:List Key){y:V}{u:Value}(ry:RelV y u):
  KT H (kvs.map λkv=>if kv.1=k then (kv.1,y) else kv) (xs.map (putAt k u)):=by
 induction r with
 | nil=>exact .nil
 | @cons p q ps qs h t ih =>
  rw [List.map_cons,List.map_cons];refine .cons ?_ ih;obtain ⟨h1,h2,h3⟩:=h;unfold putAt;by_cases e:p.1=k
  ·rw [if_pos e,if_pos (h1.symm.trans e)];exact ⟨h1,h2,ry⟩
  ·rw [if_neg e,if_neg (λz=>e (h1.trans z))];exact ⟨h1,h2,h3⟩
theorem KT.put {H:Hp}{kvs:List (List Key × V)}{xs:List (List Key × Addr × Value)}(r:KT H kvs xs)(k:List Key){b:Addr}{y:V}{u:Value}(hb:H b=some (.tup (k.map kV)))(ry:RelV y u):
  KT H (putK kvs k y) (storedH xs k b u):=by
 have e:(kvs.any λkv=>decide (kv.1=k))=(atKey xs k).isSome:=by
  rw [DD,(r.val k).aag,Option.isSome_map]
 unfold putK storedH;rw [e];by_cases q:(atKey xs k).isSome=true
 ·rw [if_pos q,if_pos q];exact r.abv k ry
 ·rw [if_neg q,if_neg q];exact Paired.snoc r ⟨rfl,hb,ry⟩
theorem KT.keeps {H H':Hp}{kvs:List (List Key × V)}{xs:List (List Key × Addr × Value)}(r:KT H kvs xs)(ht:∀ b ys,H b=some (.tup ys)->H' b=some (.tup ys)):KT H' kvs xs :=
 Paired.aaz r λ_ _ z=>⟨z.1,ht _ _ z.2.1,z.2.2⟩
section
variable {P:Program}{w:World}{H:Hp}{h:Heap}{a:Addr}
theorem V3 {u:HO}(ok:Dv P w H h)(e:Rd H a u):AN P w H h a u:=e.ok ok
theorem Fg {kvs:List (Key × V)}(ok:Dv P w H h)(e:Rd H a (.dK kvs)):kvs.length<=sizeLine/\(a==sysModules)=false/\∃ vs,KV kvs vs/\h.DictOf (AS P w) a vs :=
 show AN P w H h a (.dK kvs) from V3 ok e
theorem V4 {kvs:List (Key × V)}(ok:Dv P w H h)(e:H a=some (.dK kvs)):kvs.length<=sizeLine/\(a==sysModules)=false/\∃ vs,KV kvs vs/\h.DictOf (AS P w) a vs:=Fg ok (.inl e)
theorem FE {ks:List Key}(ok:Dv P w H h)(e:H a=some (.tup (ks.map kV))):(tupleKind (AS P w)).is h ks a:=by
 obtain ⟨_,its,r,o,h1,h2,n,h3⟩:=(show AN P w H h a (.tup (ks.map kV)) from ok a _ e);exact ⟨o,its.toArray,n,h1,h2,h3,by simpa using HQ r⟩
theorem Gw {kvs:List (List Key × V)}(ok:Dv P w H h)(e:Rd H a (.dT kvs)):kvs.length<=sizeLine/\(a==sysModules)=false /\
  ∃ xs,KT H kvs xs/\h.DictOfH (tupleKind (AS P w)) a xs:=by
 obtain ⟨z,y,xs,r,o,es,ep,h1,h2,h3,h4,h5⟩:=(show AN P w H h a (.dT kvs) from V3 ok e);refine ⟨z,y,xs,r,o,es,ep,h1,h2,h3,h4,λx hx=>?_,h5⟩;have all:∀ {l:List (List Key × V)} {m:List (List Key × Addr × Value)},KT H l m->∀ x∈m,(tupleKind (AS P w)).is h x.1 x.2.1:=by
  intro l m q
  induction q with
  | nil=>intro x hx;exact nomatch hx
  | @cons p q ps qs hq t ih =>
   intro x hx;rcases List.mem_cons.mp hx with e | hx
   ·subst e;exact FE ok (by rw [<- hq.1];exact hq.2.1)
   ·exact ih x hx
 exact all r x hx
theorem dg {kvs:List (List Key × V)}(ok:Dv P w H h)(e:H a=some (.dT kvs)):kvs.length<=sizeLine/\(a==sysModules)=false /\
  ∃ xs,KT H kvs xs/\h.DictOfH (tupleKind (AS P w)) a xs:=Gw ok (.inl e)
end
noncomputable def DE (H:Hp)(a:Addr)(y:V)(r:Option V):Prop :=
 (∃ kvs k,Rd H a (.dK kvs)/\y=kV k/\r=Bu kvs k)\/∃ kvs k b,Rd H a (.dT kvs)/\y=.ref b/\H b=some (.tup (k.map kV))/\r=Bu kvs k
noncomputable def Iy (H:Hp)(a:Addr)(y v:V)(H':Hp):Prop :=
 (∃ kvs k,H a=some (.dK kvs)/\y=kV k/\kvs.length < sizeLine/\H'=upd H a (.dK (putK kvs k v))) \/
 ∃ kvs k b,H a=some (.dT kvs)/\y=.ref b/\H b=some (.tup (k.map kV))/\kvs.length < sizeLine/\H'=upd H a (.dT (putK kvs k v))
theorem DE.k {H:Hp}{a:Addr}{kvs:List (Key × V)}{k:Key}(e:H a=some (.dK kvs)):DE H a (kV k) (Bu kvs k):=.inl ⟨kvs,k,.inl e,rfl,rfl⟩
theorem Iy.k {H:Hp}{a:Addr}{kvs:List (Key × V)}{k:Key}{v:V}(e:H a=some (.dK kvs))(hl:kvs.length < sizeLine):Iy H a (kV k) v (upd H a (.dK (putK kvs k v))):=.inl ⟨kvs,k,e,rfl,hl,rfl⟩
section
variable {X:Cx}{pins:List (Addr × Obj)}{σ:St}{H:Hp}{s:Shared}{a:Addr}{y v:V}{u r:Value}{o:Option V}{A:Around}{E:Value->Shared->Prop}
theorem Inv.big (I:Inv X pins σ H s):sysModules < s.heap.objs.size:=by
 have h:mainGlobals < s.heap.objs.size:=(I.mod.glob.keeps I.bk).lt;exact Nat.lt_trans ⟨⟩ h
theorem N7 {Q:Value->Shared->Prop}(hu:A.units+1 < cLine)(I:Inv X pins σ H s)(g:DE H a y (some v))(ry:RelV y u)(h:∀ w' s',Inv X pins σ H s'->RelV v w'->Q w' s'):
  wpAny (model X.prog X.w) A (getItem (.ref a) u) Q E s:=by
 rcases g with ⟨kvs,k,e,ey,l⟩ | ⟨kvs,k,b,e,ey,eb,l⟩
 ·subst ey;obtain ⟨z,hd,vs,rel,dd⟩:=Fg I.hok e;obtain ⟨w',hw,P6⟩:=DJ.some_of (v:=v) (o:=valueAt vs k) (by rw [l];exact rel.val k);exact wpAny_getItem_of (Ff ry) dd.mapOf hw (h w' _ (I.tok _) P6)
 ·subst ey;cases (show u=Value.ref b from ry);obtain ⟨z,hd,xs,rel,dd⟩:=Gw I.hok e;obtain ⟨w',hw,P6⟩:=DJ.some_of (v:=v) (o:=(atKey xs k).map (·.2)) (by rw [l];exact rel.val k);obtain ⟨p,hp,zp⟩:=Option.map_eq_some_iff.mp hw;refine wpAny_getItem_heap (tupleKind_room_in1 hu) (FE I.hok eb) dd hp ?_;rw [zp];exact h w' _ (I.tok _) P6
theorem mU {Q:Value->Shared->Prop}(hu:A.units+1 < cLine)(I:Inv X pins σ H s)(g:DE H a y o)(ry:RelV y u)(h:∀ s',Inv X pins σ H s'->Q (.bool o.isSome) s'):
  wpAny (model X.prog X.w) A (compareOp .In u (.ref a)) Q E s:=by
 rcases g with ⟨kvs,k,e,ey,l⟩ | ⟨kvs,k,b,e,ey,eb,l⟩
 ·subst ey;obtain ⟨z,hd,vs,rel,dd⟩:=Fg I.hok e;refine wpAny_in_of (Ff ry) hd dd.mapOf ?_;rw [<- (rel.val k).aag,<- l];exact h _ (I.tok _)
 ·subst ey;cases (show u=Value.ref b from ry);obtain ⟨z,hd,xs,rel,dd⟩:=Gw I.hok e;refine wpAny_in_heap (tupleKind_room_in1 hu) (FE I.hok eb) hd dd ?_;have q:=(rel.val k).aag;rw [Option.isSome_map] at q;rw [<- q,<- l];exact h _ (I.tok _)
theorem RU {Q:Value->Shared->Prop}(hu:A.units+1 < cLine)(I:Inv X pins σ H s)(g:DE H a y o)(ry:RelV y u)(h:∀ s',Inv X pins σ H s'->Q (.bool (!o.isSome)) s'):
  wpAny (model X.prog X.w) A (compareOp .NotIn u (.ref a)) Q E s:=by
 rcases g with ⟨kvs,k,e,ey,l⟩ | ⟨kvs,k,b,e,ey,eb,l⟩
 ·subst ey;obtain ⟨z,hd,vs,rel,dd⟩:=Fg I.hok e;refine wpAny_notIn_of (Ff ry) hd dd.mapOf ?_;rw [<- (rel.val k).aag,<- l];exact h _ (I.tok _)
 ·subst ey;cases (show u=Value.ref b from ry);obtain ⟨z,hd,xs,rel,dd⟩:=Gw I.hok e;refine wpAny_notIn_heap (tupleKind_room_in1 hu) (FE I.hok eb) hd dd ?_;have q:=(rel.val k).aag;rw [Option.isSome_map] at q;rw [<- q,<- l];exact h _ (I.tok _)
theorem Iz {h':Heap}{t':Nat}{ob:HO}(I:Inv X pins σ H s)(mu:cz (H a))(hs:Heap.SameBut a s.heap h')(he:∃ q,h'.get? a=some q)(new:AN X.prog X.w (upd H a ob) h' a ob):
  Inv X pins σ (upd H a ob) { s with heap:=h',toks:=t' } :=
 I.write (x:=a) (e:=a) mu (.inl rfl) (λb q hb z=>(hs.2 b hb).trans z) he new
theorem Kv {P:Program}{w:World}{H':Hp}{h':Heap}{kvs:List (Key × V)}{vs:List (Key × Value)}(z:kvs.length<=sizeLine)(hd:(a==sysModules)=false)(rel:KV kvs vs)(dd:h'.DictOf (AS P w) a vs):
  AN P w H' h' a (.dK kvs):=⟨z,hd,vs,rel,dd⟩
theorem Nc {H':Hp}{Q:Unit->Shared->Prop}(hu:A.units+1 < cLine)(I:Inv X pins σ H s)(g:Iy H a y v H')(ry:RelV y u)(rv:RelV v r)(h:∀ s',Inv X pins σ H' s'->Q .unit s'):
  wpAny (model X.prog X.w) A (setItem (.ref a) u r) Q E s:=by
 rcases g with ⟨kvs,k,e,ey,l,eH⟩ | ⟨kvs,k,b,e,ey,eb,l,eH⟩
 ·subst ey eH;obtain ⟨z,hd,vs,rel,dd⟩:=V4 I.hok e;have hz:vs.length<=sizeLine:=by rw [<- rel.length];exact z
  have hl:(putK kvs k v).length<=sizeLine:=by have:=Eb kvs k v;omega
  refine wpAny_setItem_pairs (hsz:=hz) (Ff ry) dd λh' Nd hs=>h _ ?_;have he:∃ q,h'.get? a=some q:=let ⟨q,_,_,hq,_⟩:=Nd;⟨q,hq⟩;exact Iz I (by rw [e];exact True.intro) hs he (Kv hl hd (rel.put k rv) Nd)
 ·subst ey eH;cases (show u=Value.ref b from ry);obtain ⟨z,hd,xs,rel,dd⟩:=dg I.hok e;have hz:xs.length<=sizeLine:=by rw [<- Paired.length rel];exact z
  have hl:(putK kvs k v).length<=sizeLine:=by have:=Eb kvs k v;omega
  refine wpAny_setItem_heap (hsz:=hz) (tupleKind_room_in1 hu) (FE I.hok eb) dd λh' Nd hs=>h _ ?_;obtain ⟨q,es,ep,hq,h2,h3,h4,_,h5⟩:=Nd;refine Iz I (by rw [e];exact True.intro) hs ⟨q,hq⟩ ⟨hl,hd,_,(rel.put k eb rv).keeps λc ys ec=>?_,q,es,ep,hq,h2,h3,h4,h5⟩;rw [Ac (AL ec e (λz=>nomatch z))];exact ec
end
section
variable {X:Cx}{pins:List (Addr × Obj)}{σ:St}{H:Hp}{s:Shared}{a:Addr}{kvs:List (Key × V)}{k:Key}{u:Value}{A:Around}{E:Value->Shared->Prop}
theorem dh {Q:Value->Shared->Prop}(I:Inv X pins σ H s)(e:Rd H a (.dK kvs))(h:∀ t s',Inv X pins σ H s'->Q (.int kvs.length t) s'):wpAny (model X.prog X.w) A (call (.builtin "len") [.ref a]) Q E s:=by
 obtain ⟨z,hd,vs,rel,dd⟩:=Fg I.hok e;refine call_len_dict hd dd (by rw [<- rel.length];rw [sizeLine_eq] at z;omega) ?_;rw [<- rel.length];exact h _ _ (I.tok _)
end
noncomputable def Kw (i:Expr):Prop:=∀ ov iv,subscripted i false ov iv=operate [ov,iv] (getItem ov iv)
theorem IA {prog:Program}{w:World}{A:Around}{E:Value->Shared->Prop}{s:Shared}{env:Env}{value slice:Expr}{pos:Pos}{T id:String}{Q:Value->Shared->Prop}
  (hl:typeLookup (.type T) "__getitem__"=pure (some (.builtin id))) (hs:Kw slice)
  (h:wpAny (model prog w) A (eval value env) (λo s₁=>wpAny (model prog w) A (eval slice env) (λi s₂=>s₂.TypeIs o T/\wpAny (model prog w) A (getItem o i) Q E s₂) E s₁) E s) :
  wpAny (model prog w) A (eval (.Subscript value slice pos) env) Q E s:=by
 refine Subscript_ (wpAny_mono h (λo s₁ h₁=>wpAny_mono h₁ (λi s₂ h₂=>?_) λ_ _ x=>x) λ_ _ x=>x);obtain ⟨hT,h₂⟩:=h₂;unfold subscriptTail;refine wpAny_bind ?_;rw [getitemInPython_of_ne hT.not_modules];refine wpAny_bind (wpAny_specialOf hT hl ?_);have fin:wpAny (model prog w) A (subscripted slice false o i) (λr s₃=>wpAny (model prog w) A (letTemporaryGo value o r >>= λ_=>pure r) Q E s₃) E s₂:=by
  rw [hs o i];exact wpAny_operating (wpAny_mono h₂ (λr s₃ h₃=>wpAny_bind (wpAny_letTemporaryGo (wpAny_pure h₃))) λ_ _ x=>x)
 first
  | exact wpAny_pure (wpAny_bind fin)
  | exact wpAny_bind (wpAny_pure (wpAny_bind fin))
  | exact wpAny_bind fin
theorem Jm {X:Cx}{pins:List (Addr × Obj)}{σ:St}{H:Hp}{s:Shared}{a:Addr}{y:V}{o:Option V}(I:Inv X pins σ H s)(g:DE H a y o):s.TypeIs (.ref a) "dict":=by
 rcases g with ⟨kvs,k,e,_,_⟩ | ⟨kvs,k,b,e,_,_,_⟩
 ·obtain ⟨_,_,vs,_,dd⟩:=Fg I.hok e;exact dd.typeIs
 ·obtain ⟨_,_,xs,_,dd⟩:=Gw I.hok e;exact dd.typeIs
noncomputable def M6 (td ty:TE):TE:=fun σ H Q=>td σ H λx H1=>ty σ H1 λy H2=>∃ a v,x=.ref a/\DE H2 a y (some v)/\Q v H2
noncomputable def di (ty td:TE):TE:=fun σ H Q=>ty σ H λy H1=>td σ H1 λx H2=>∃ a o,x=.ref a/\DE H2 a y o/\Q (.bl o.isSome) H2
noncomputable def Ga (ty td:TE):TE:=fun σ H Q=>ty σ H λy H1=>td σ H1 λx H2=>∃ a o,x=.ref a/\DE H2 a y o/\Q (.bl (!o.isSome)) H2
noncomputable def Pa (td ty tv:TE):TS:=λD σ H=>tv σ H λv H1=>td σ H1 λx H2=>ty σ H2 λy H3=>∃ a H4,x=.ref a/\Iy H3 a y v H4/\D.nx σ H4
section
variable {X:Cx}{o i e value:Expr}{pos pos' MT:Pos}{td ty tv:TE}
theorem RV (hu:X.A.units+1 < cLine)(ho:PE X o td)(hi:PE X i ty)(hs:Kw i):PE X (.Subscript o i pos) (M6 td ty):=by
 intro pins s σ H Q I h;refine IA PySem.F.slot_dict_getitem.lookup hs (AY (ho pins s σ H _ I h) λu s1 AE=>?_);obtain ⟨x,H1,I1,rx,q1⟩:=AE;refine AY (hi pins s1 σ H1 _ I1 q1) λiv s2 AE=>?_;obtain ⟨y,H2,I2,ry,a,v,ex,g,q2⟩:=AE;subst ex;obtain rfl:u=Value.ref a:=rx;exact ⟨Jm I2 g,N7 hu I2 g ry λw' s3 I3 P6=>⟨v,H2,I3,P6,q2⟩⟩
theorem WB (hu:X.A.units+1 < cLine)(hi:PE X i ty)(ho:PE X o td):PC X .In i o (di ty td):=by
 intro pins s σ H Q I h;refine AY (hi pins s σ H _ I h) λiv s1 AE=>?_;obtain ⟨y,H1,I1,ry,q1⟩:=AE;refine AY (ho pins s1 σ H1 _ I1 q1) λu s2 AE=>?_;obtain ⟨x,H2,I2,rx,a,ov,ex,g,q2⟩:=AE;subst ex;obtain rfl:u=Value.ref a:=rx;exact mU hu I2 g ry λs3 I3=>⟨.bl ov.isSome,H2,I3,rfl,q2⟩
theorem Nf (hu:X.A.units+1 < cLine)(hi:PE X i ty)(ho:PE X o td):PC X .NotIn i o (Ga ty td):=by
 intro pins s σ H Q I h;refine AY (hi pins s σ H _ I h) λiv s1 AE=>?_;obtain ⟨y,H1,I1,ry,q1⟩:=AE;refine AY (ho pins s1 σ H1 _ I1 q1) λu s2 AE=>?_;obtain ⟨x,H2,I2,rx,a,ov,ex,g,q2⟩:=AE;subst ex;obtain rfl:u=Value.ref a:=rx;exact RU hu I2 g ry λs3 I3=>⟨.bl (!ov.isSome),H2,I3,rfl,q2⟩
theorem RW (hu:X.A.units+1 < cLine)(ho:PE X o td)(hi:PE X i ty)(hv:PE X value tv)(hs:swapsWith value (some (.Subscript o i pos')) pos.line X.env=pure false):
  PS X (.Assign [.Subscript o i pos'] value pos) (Pa td ty tv):=by
 intro pins s σ H D I h;refine wpAny_Assign_Subscript (AY (hv pins s σ H _ I h) λr s1 AE=>?_) hs;obtain ⟨v,H1,I1,rv,q1⟩:=AE;refine AY (ho pins s1 σ H1 _ I1 q1) λu s2 AE=>?_;obtain ⟨x,H2,I2,rx,q2⟩:=AE;refine AY (hi pins s2 σ H2 _ I2 q2) λiv s3 AE=>?_;obtain ⟨y,H3,I3,ry,a,H4,ex,g,q3⟩:=AE;subst ex;obtain rfl:u=Value.ref a:=rx;exact Nc hu I3 g ry rv λs4 I4=>⟨σ,H4,I4,q3⟩
end
theorem Jo {P:Program}{w:World}{H:Hp}(h:Heap)(hb:sysModules < h.objs.size):AN P w H (h.push { cls:=.type "dict",data:=.dict #[] }) h.objs.size (.dK []) :=
 ⟨Nat.zero_le _,beq_eq_false_iff_ne.mpr (Ne.symm (Nat.ne_of_lt hb)),[],.nil,Heap.DictOf.new h⟩
noncomputable def Pb:TE:=λ_ H Q=>∀ p,H p=none->Q (.ref p) (upd H p (.dK []))
section
variable {X:Cx}{pos:Pos}
theorem Pc:PE X (.Dict [] [] pos) Pb:=λpins s σ H Q I h =>
 wpAny_Dict_empty ⟨.ref s.heap.objs.size,_,I.laid (a:=s.heap.objs.size) (o:=.dK []) (t':=s.toks) (λ_ _ q=>Heap.get?_push_of_some _ q) (Nat.le_refl _) (Jo s.heap I.big),rfl,h _ (I.hok.fresh (Nat.le_refl _))⟩
end
noncomputable def EU:List (TE × TE)->St->Hp->(List (V × V)->Hp->Prop)->Prop
 | [],_,H,Q=>Q [] H
 | (tk,tv)::r,σ,H,Q=>tk σ H λx H1=>tv σ H1 λy H2=>EU r σ H2 λps H3=>Q ((x,y)::ps) H3
abbrev VV:List (V × V)->List (Value × Value)->Prop:=Paired λp q=>RelV p.1 q.1/\RelV p.2 q.2
noncomputable def dj (X:Cx)(pos:Pos)(keys:List (Option Expr))(values:List Expr)(HR:List (TE × TE)):Prop :=
 ∀ (pins:List (Addr × Obj)) (s:Shared) (σ:St) (H:Hp) (Q:List (V × V)->Hp->Prop),Inv X pins σ H s->EU HR σ H Q ->
  wpAny (model X.prog X.w) X.A (evalPairs (pairTrees keys values X.env pos)) (λvs s'=>∃ ps H',Inv X pins σ H' s'/\VV ps vs/\Q ps H') X.xe s
theorem RX {X:Cx}{pos:Pos}:dj X pos [] [] []:=λpins s σ H Q I h=>pairTrees_nil_walk ⟨[],H,I,.nil,h⟩
theorem Pd {X:Cx}{pos:Pos}{k v:Expr}{ks:List (Option Expr)}{vs:List Expr}{tk tv:TE}{HR:List (TE × TE)}(hk:PE X k tk)(hv:PE X v tv)(hr:dj X pos ks vs HR):
  dj X pos (some k::ks) (v::vs) ((tk,tv)::HR):=λpins s σ H Q I h =>
 pairTrees_cons_walk (AY (hk pins s σ H _ I h) λu s1 ⟨x,H1,I1,rx,q1⟩=>AY (hv pins s1 σ H1 _ I1 q1) λw2 s2 ⟨y,H2,I2,ry,q2⟩ =>
  AY (hr pins s2 σ H2 _ I2 q2) λws s3 ⟨ps,H3,I3,rel,q3⟩=>⟨(x,y)::ps,H3,I3,.cons ⟨rx,ry⟩ rel,q3⟩)
noncomputable def Dx (kvs more:List (Key × V)):List (Key × V):=more.foldl (λacc kv=>putK acc kv.1 kv.2) kvs
theorem KV.merge:∀ {more:List (Key × V)} {rs:List (Key × Value)} {kvs:List (Key × V)} {vs:List (Key × Value)},KV more rs->KV kvs vs->KV (Dx kvs more) (merged vs rs):=by
 intro more rs kvs vs r;unfold KV at r
 induction r generalizing kvs vs with
 | nil=>intro q;exact q
 | @cons p q ps qs h t ih =>
  intro r0;have e:KV (putK kvs p.1 p.2) (stored vs q.1 q.2):=by
   have:=r0.put p.1 h.2;rw [<- h.1];exact this
  exact ih e
theorem EI:∀ (more kvs:List (Key × V)),(Dx kvs more).length<=kvs.length+more.length
 | [],kvs=>by show kvs.length<=kvs.length+0;omega
 | p::r,kvs=>by
  have h1:=EI r (putK kvs p.1 p.2);have h2:=Eb kvs p.1 p.2;show (Dx (putK kvs p.1 p.2) r).length<=_;rw [List.length_cons];omega
theorem Gx {P:Program}{w:World}:∀ {kvs:List (Key × V)} {ws:List (Value × Value)},VV (kvs.map λkv=>(kV kv.1,kv.2)) ws->∃ rs,Carries (AS P w) ws rs/\KV kvs rs
 | [],_,r=>by rw [List.map_nil] at r;cases r;exact ⟨[],True.intro,.nil⟩
 | p::kvs,_,r=>by
  rw [List.map_cons] at r;cases r with
  | @cons a b as bs h t =>
   obtain ⟨rs,c,q⟩:=Gx (P:=P) (w:=w) t;obtain ⟨b1,b2⟩:=b;exact ⟨(p.1,b2)::rs,⟨Ff h.1,rfl,c⟩,.cons ⟨rfl,h.2⟩ q⟩
noncomputable def Pe (HR:List (TE × TE)):TE:=fun σ H Q=>∀ p,H p=none->EU HR σ (upd H p (.dK [])) λps H2=>H2 p=some (.dK [])/\∃ kvs:List (Key × V),ps=kvs.map (λkv=>(kV kv.1,kv.2))/\kvs.length<=15/\Q (.ref p) (upd H2 p (.dK (Dx [] kvs)))
theorem RY {X:Cx}{pos:Pos}{keys:List (Option Expr)}{values:List Expr}{HR:List (TE × TE)}(h:dj X pos keys values HR)(Kx:keys.all (·.isSome)=true)(hl:keys.length=values.length)(h0:keys≠[])
  (mV:keys.length<=15):PE X (.Dict keys values pos) (Pe HR):=by
 intro pins s σ H Q I q;have hn:=I.hok.fresh (Nat.le_refl s.heap.objs.size);have I1:=I.laid (a:=s.heap.objs.size) (o:=.dK []) (h':=s.heap.push { cls:=.type "dict",data:=.dict #[] }) (t':=s.toks) (λ_ _ q=>Heap.get?_push_of_some _ q) (Nat.le_refl _) (Jo s.heap I.big);refine wpAny_Dict_walk (knd:=AS X.prog X.w) Kx hl h0 mV (AY (h pins _ σ _ _ I1 (q _ hn)) λws s2 AE=>?_);obtain ⟨ps,H2,I2,rel,e,kvs,ep,lk,q2⟩:=AE;subst ep;obtain ⟨rs,c,rk⟩:=Gx (P:=X.prog) (w:=X.w) rel;obtain ⟨z,hd,vs0,r0,dd⟩:=V4 I2.hok e;cases r0;refine ⟨rs,c,dd,λh' Nd hs=>⟨.ref s.heap.objs.size,_,?_,rfl,q2⟩⟩;have hz:(Dx [] kvs).length<=sizeLine:=by
  have h1:=EI kvs [];rw [List.length_nil] at h1;rw [sizeLine_eq];omega
 have he:∃ q,h'.get? s.heap.objs.size=some q:=let ⟨q,_,_,hq,_⟩:=Nd;⟨q,hq⟩;exact Iz I2 (by rw [e];exact True.intro) hs he (Kv hz hd (rk.merge .nil) Nd)
structure M2 (X:Cx)(o:Expr)(m:Str)(apos:Pos)(e f:Expr)(AR:Pos):Prop where
 base:attributeBase o m X.env (eval o X.env)=eval o X.env
 few:((backTo AR (starEach [e,f] X.env)).all (λx=>!x.1) && (backToKw AR (keywordEach [] X.env)).all (λx=>x.1.isSome)
  && decide (([e,f]:List Expr).length+([]:List Keyword).length+(if ([]:List Keyword).isEmpty then 0 else 1) < 30))=true
 line:(apos.endLine==AR.line)=true
 trees:backTo AR (starEach [e,f] X.env)=[(false,eval e X.env),(false,eval f X.env)]
noncomputable def wB (H:Hp)(a:Addr):Prop:=(∃ kvs,Rd H a (.dK kvs))\/∃ kvs,Rd H a (.dT kvs)
theorem WC {X:Cx}{pins:List (Addr × Obj)}{σ:St}{H:Hp}{s:Shared}{a:Addr}(I:Inv X pins σ H s)(d:wB H a):
  s.TypeIs (.ref a) "dict"/\(∀ b,Value.ref a=.ref b->∃ ob,s.heap.get? b=some ob/\ob.dict=none)/\(a==sysModules)=false:=by
 rcases d with ⟨kvs,e⟩ | ⟨kvs,e⟩
 ·obtain ⟨_,hd,vs,_,dd⟩:=Fg I.hok e;refine ⟨dd.typeIs,λb q=>?_,hd⟩;cases q;obtain ⟨ob,_,_,h1,h2,_⟩:=dd;exact ⟨ob,h1,h2.2.1⟩
 ·obtain ⟨_,hd,xs,_,dd⟩:=Gw I.hok e;refine ⟨dd.typeIs,λb q=>?_,hd⟩;cases q;obtain ⟨ob,_,_,h1,h2,_⟩:=dd;exact ⟨ob,h1,h2.2.1⟩
section
variable {X:Cx}{pins:List (Addr × Obj)}{σ:St}{H:Hp}{s:Shared}{a:Addr}{y d:V}{u r:Value}{o:Option V}{A:Around}{E:Value->Shared->Prop}
theorem WD {Q:Value->Shared->Prop}(hu:A.units+1 < cLine)(I:Inv X pins σ H s)(g:DE H a y o)(ry:RelV y u)(left:RelV d r)(h:∀ w' s',Inv X pins σ H s'->RelV (o.getD d) w'->Q w' s'):
  wpAny (model X.prog X.w) A (call (.builtin "dict.get") [.ref a,u,r]) Q E s:=by
 rcases g with ⟨kvs,k,e,ey,l⟩ | ⟨kvs,k,b,e,ey,eb,l⟩
 ·subst ey;obtain ⟨z,hd,vs,rel,dd⟩:=Fg I.hok e;refine call_meetsIn PySem.F.slot_dict_get dd.typeIs PySem.F.entry_dict_get (PySem.F.args_dict_get_3 _ _ _) (meets_dict_get_default (AS X.prog X.w) a (Ff ry) hd r) ⟨_,dd.mapOf,h _ _ (I.tok _) ?_⟩;rw [l];exact (rel.val k).getD left
 ·subst ey;cases (show u=Value.ref b from ry);obtain ⟨z,hd,xs,rel,dd⟩:=Gw I.hok e;refine call_meetsIn PySem.F.slot_dict_get dd.typeIs PySem.F.entry_dict_get (PySem.F.args_dict_get_3 _ _ _) (meetsH_dict_get_default (tupleKind (AS X.prog X.w)) a b hd r) ⟨tupleKind_room_in1 hu,k,xs,FE I.hok eb,dd,h _ _ (I.tok _) ?_⟩;rw [l];exact (rel.val k).getD left
end
noncomputable def IB (td ty tx:TE):TE:=fun σ H Q=>td σ H λx H1=>∃ a,x=.ref a/\wB H1 a/\ty σ H1 λy H2=>tx σ H2 λz H3=>∃ o,DE H3 a y o/\Q (o.getD z) H3
section
variable {X:Cx}{o e f:Expr}{apos AR:Pos}{td ty tx:TE}
theorem Pf (hu:X.A.units+1 < cLine)(ho:PE X o td)(he:PE X e ty)(hf:PE X f tx)(m:M2 X o "get" apos e f AR):PE X (.Call (.Attribute o "get" apos) [e,f] [] AR) (IB td ty tx):=by
 intro pins s σ H Q I h;refine wpAny_Call_method m.base m.few m.line PySem.F.plainAttrs_dict PySem.F.slot_dict_get PySem.F.type_dict_get (AY (ho pins s σ H _ I h) λu s1 AE=>?_);obtain ⟨x,H1,I1,rx,a,ex,d,q1⟩:=AE;subst ex;obtain rfl:u=Value.ref a:=rx;obtain ⟨t1,t2,_⟩:=WC I1 d;refine ⟨t1,t2,?_⟩;rw [m.trees];refine Calls.callWith_builtin rfl (Calls.evalArgs_plain (Calls.spliced_cons (AY (he pins s1 σ H1 _ I1 q1) λiv s2 AE=>?_)));obtain ⟨y,H2,I2,ry,q2⟩:=AE;refine Calls.spliced_cons (AY (hf pins s2 σ H2 _ I2 q2) λfv s3 AE=>?_);obtain ⟨z,H3,I3,rz,ov,g,q3⟩:=AE;refine Calls.spliced_nil ?_;exact WD hu I3 g ry rz λw' s4 I4 P6=>⟨_,H3,I4,P6,q3⟩
end
section
variable {X:Cx}{pins:List (Addr × Obj)}{σ:St}{H:Hp}{s:Shared}{a:Addr}{kvs:List (Key × V)}{A:Around}{E:Value->Shared->Prop}
theorem Pg {Q:Value->Shared->Prop}(I:Inv X pins σ H s)(e:Rd H a (.dK kvs))(h:∀ p s',H p=none->Inv X pins σ (upd H p (.dK kvs)) s'->Q (.ref p) s'):wpAny (model X.prog X.w) A (call (.type "dict") [.ref a]) Q E s:=by
 obtain ⟨z,hd,vs,rel,dd⟩:=Fg I.hok e;refine kt_call_dict hd dd (by rw [<- rel.length];exact z) λh' Nd hs=>?_;refine h _ _ (I.hok.fresh (Nat.le_refl _)) (I.laid (a:=s.heap.objs.size) (o:=.dK kvs) (t':=s.toks) (λb q hq=>?_) (Nat.le_refl _) (Kv z (beq_eq_false_iff_ne.mpr (Ne.symm (Nat.ne_of_lt I.big))) rel Nd));exact (hs.2 b (Nat.ne_of_lt (Heap.lt_size hq))).trans (Heap.get?_push_of_some _ hq)
end
end L2
namespace wC
open PySem PySem.W PySem.Calls PyProof.Rows
theorem FX {P:Params}{h:Heap}:∀ (ns:List Int) (vs:List Value),WellAll P h vs (ns.map WData.int)->IntsAre vs ns:=by
 intro ns
 induction ns with
 | nil =>
  intro vs w;rw [List.map_nil] at w;cases w;exact .nil
 | cons n ns ih =>
  intro vs w;rw [List.map_cons] at w;cases w with
  | cons a b =>
   cases a;exact .cons _ _ (ih _ b)
theorem Ng {l:OpenLaw}{n:Nat}(hn:l.most=some n){P:Params}{h:Heap}{args:List WData}{vals:List Value}
  (RZ:l.row.toRowW.claim.pre args=true) (mX:WellAll P h vals args) :
  ∃ a vs ns,vals=[Value.ref a]/\args=[WData.list (ns.map WData.int)]/\h.get? a=some { cls:=.type "list",data:=.seq vs.toArray }/\IntsAre vs ns/\ns.length<=n:=by
 have mY:WShape.hasAll [] args [.list .int]=true:=(pre_splitW RZ).1;have hc:l.pre.holds [] { args:=args }=true:=(pre_splitW RZ).2;obtain ⟨d,r,rfl,h1,h2⟩:=hasAllW_cons mY;obtain rfl:=hasAllW_nil h2;obtain ⟨xs,rfl,h3⟩:=hasW_list h1;obtain ⟨ns,rfl⟩:=items_int h3;have hlen:ns.length<=n:=by
  unfold OpenLaw.pre at hc;have h4:(WTm.not (.lt (.lit (.int (n:Int))) (.len (.arg 0)))).holds [] { args:=[.list (ns.map .int)] }=true:=by
   have h4:=(holds_andW hc).1;rw [hn] at h4;exact h4
  have h5:=condW_of h4 (w_not (w_lt w_lit (w_len_list (w_arg rfl))));rw [List.length_map] at h5;refine Nat.le_of_not_lt λq=>?_;have q':(n:Int) < ((ns.length:Nat):Int):=by omega
  first
   | (rw [decide_eq_true q'] at h5;exact absurd h5 ⟨⟩)
   | (simp at h5;omega)
 cases mX with
 | cons w1 w2 =>
  cases w2;cases w1 with
  | list ho Kx=>exact ⟨_,_,ns,rfl,rfl,ho,FX ns _ Kx,hlen⟩
theorem Nh (l:OpenLaw)(args:List WData):l.row.toRowW.claim.post args (.bool true) args=true :=
 postW_of (r:=l.row.toRowW) (X:=(true==true))
  (show WShape.has [] (.bool true) .bool=true by first | rfl | decide | simp [WShape.has,WShape.arms,WShape.armsAll])
  (show (WTm.eq .res (.lit (.bool true))).value [] { args:=args,res:=some (.bool true),after:=args }=some (.bool (true==true)) from w_eq_bool (w_res rfl) w_lit) rfl
theorem aaw {l:OpenLaw}{n:Nat}{q:Program}{loose:List Str}{XP:(Str->Option Value)->Heap->Prop}{YP:World->Heap->Prop}{d:DefRec}
  (hn:l.most=some n) (n8:d.params.defaults=[])
  (call:∀ (w:World) (s₀ s₁:Shared) (mg mb:Str->Option Value) (fa:Addr) (o:Obj) (pm cd doc:Value) (a:Addr) (vs:List Value) (ns:List Int),
   Ground q loose [] XP w s₀ mg mb s₁.heap->YP w s₁.heap ->
   s₁.heap.get? fa=some o->o.data=.func (docDef d.name d.params d.body d.scope pm cd doc)->s₁.heap.CodeRec cd d.name->mg d.name=some (.ref fa) ->
   s₁.heap.get? a=some { cls:=.type "list",data:=.seq vs.toArray }->IntsAre vs ns->ns.length<=n->s₁.gens=#[] ->
   codeAny (model l.prog w) callerA (.call (.ref fa) ⟨[.ref a],[]⟩) (λr s'=>r=.ok (.ret (.bool true))/\OldK s₁.heap s'.heap/\s'.os=s₁.os/\AllBare s'.gens) s₁) :
  WalkO q loose XP YP l.row.toRowW d [] (λf vs=>PySem.call f vs):=by
 intro w s₀ s₁ mg mb G Y fa o pm cd doc dV kV ho hd Gj hD dn hg args vals as RZ hlay hrd mX hlo;obtain rfl:dV=.none:=Dflts.none hD n8;obtain rfl:kV=.none:=Dflts.noKw hD;obtain ⟨a,vs,ns,rfl,rfl,WE,hints,hlen⟩:=Ng hn RZ mX;refine enter_call (codeAny_mono (call w s₀ s₁ mg mb fa o pm cd doc a vs ns G Y ho (fd_plain hd) Gj dn WE hints hlen hg) λr s' hq=>?_);obtain ⟨rfl,h2,h3,h4⟩:=hq;exact ⟨.inl ⟨.bool true,.bool true,[],rfl,λ_=>rfl,.bool true,Nh l _,λ_=>⟨List.Pairwise.nil,λ_ hm=>(nomatch hm)⟩⟩,h2,h3,h4⟩
end wC
namespace L2
open PySem PySem.Spec PyProof.Rows
theorem HS:∀ {vs:List Value} {ns:List Int},IntsAre vs ns->Vals (ns.map V.int) vs
 | _,_,.nil=>.nil
 | _,_,.cons n t h=>.cons ⟨t,rfl⟩ (HS h)
noncomputable def inClass (s:Stmt)(j:Nat):Stmt:=match s with
 | .ClassDef _ _ _ body _ _ _ _ _ _ _=>body.getD j (.Pass ⟨0,0,0,0⟩)
 | _=>.Pass ⟨0,0,0,0⟩
noncomputable def AI (s:Stmt):Arguments:=match s with
 | .FunctionDef _ a _ _ _ _ _ _ _ _=>a
 | _=>{ posonlyargs:=[],args:=[],vararg:=none,kwonlyargs:=[],kw_defaults:=[],kwarg:=none,defaults:=[] }
noncomputable def Az (s:Stmt):List Stmt:=match s with
 | .FunctionDef _ _ b _ _ _ _ _ _ _=>b
 | _=>[]
noncomputable def Af (s:Stmt):Scope:=match s with
 | .FunctionDef _ _ _ _ _ _ sc _ _ _=>sc
 | _=>{ kind:=.function,names:=[],isGenerator:=false,isCoroutine:=false }
abbrev Bs:Je:=λ_ _ _ _ _ _=>False
abbrev E0:XK:=λ_ _ _=>False
theorem Jp {X:Cx}:Passes Bs X E0:=λ_ _ _ _ _ _ _ h=>h.elim
structure B' (K:W.Frag)(x qual:Str)(st:Stmt)(f:Addr)(fd:FuncData):Prop where
 ex:∃ (oc:Value) (od:Option Addr) (kV doc pm:Value) (an:Option Addr) (B7 ct:Value) (LS:Array (Option Value)),
  fd=W.fnOf x qual (AI st) (Az st) (Af st) .none kV doc pm an B7 ct/\K.lookup f=some ⟨oc,od,.func fd,LS⟩/\W.codeIn K B7 qual=true
 kp:W.keepIn K (.ref f)=true
section
variable {P:Program}{w:World}{K:W.Frag}{mg:Str->Option Value}{base:Heap}
theorem B'.ok {x qual:Str}{st:Stmt}{f:Addr}{fd:FuncData}{N ps:List Str}{k:Nat}{sp:Sp}(F:B' K x qual st f fd)(S:Ak N ps (Af st))(len:∀ vs H Q E,sp vs H Q E->vs.length=ps.length)
  (Fc:∀ (B7:Value) (A:Around) (outer:List Env) (s:Shared) (H:Hp) (vs:List V) (Q:VK) (E:XK),Am k (A.deeper (envOfC qual (Af st) s.heap.objs.size f B7))->sp vs H Q E ->
   ∃ t,LF (CB Bs P w K mg base N qual (Af st) f B7 A outer s H E).nox (Az st) t/\t { nx:=λ_ H'=>Q .non H',rt:=Q } (start N vs) H):Av P w K mg base Bs (k+1) f fd ps sp:=by
 obtain ⟨oc,od,kV,doc,pm,an,B7,ct,LS,rfl,lk,Gj⟩:=F.ex;refine OY lk Gj S len λA outer s H vs Q E hr Oi=>?_;obtain ⟨t,h,q⟩:=Fc B7 A outer s H vs Q E hr Oi;exact ⟨t,h.nox,q⟩
theorem B'.binds {x qual:Str}{st:Stmt}{f:Addr}{fd:FuncData}{ps:List Str}(F:B' K x qual st f fd)
  (h:∀ (kV doc pm:Value) (an:Option Addr) (B7 ct:Value) (us:List Value),us.length=ps.length->bindArgs (W.fnOf x qual (AI st) (Az st) (Af st) .none kV doc pm an B7 ct) ⟨us,[]⟩=pure (ps.zip us)):Binds K fd ps []:=by
 obtain ⟨oc,od,kV,doc,pm,an,B7,ct,LS,rfl,lk,Gj⟩:=F.ex;exact .all (h kV doc pm an B7 ct)
theorem Bq {x qual:Str}{st:Stmt}{f:Addr}{oc:Value}{od an:Option Addr}{LS:Array (Option Value)}{kV doc pm B7 ct:Value}(l:K.lookup f=some ⟨oc,od,.func (W.fnOf x qual (AI st) (Az st) (Af st) .none kV doc pm an B7 ct),LS⟩)
  (c:W.codeIn K B7 qual=true) (k:W.keepIn K (.ref f)=true):B' K x qual st f (W.fnOf x qual (AI st) (Az st) (Af st) .none kV doc pm an B7 ct):=⟨⟨oc,od,kV,doc,pm,an,B7,ct,LS,rfl,l,c⟩,k⟩
end
theorem Cc {A:Around}{k:Nat}(hr:Am k A):A.units+1 < cLine:=Nat.lt_of_le_of_lt (Nat.add_le_add_left (by decide:1<=64) _) hr.units
section
variable {X:Cx}
theorem pv (i:Nat){x:Str}{pos:Pos}(hN:X.N[i]?=some x:=by rfl)(hv:b8 X.env.scope x:=by first | exact Or.inl rfl | exact Or.inr (.inl rfl) | exact Or.inr (.inr rfl))(hd:(x==("__debug__":Str))=false:=by decide)
  (Gj:(x==("__classdict__":Str))=false:=by decide):PE X (.Name x pos) (Bt i):=Ov hN hv hd Gj
end
theorem Ck {A B:Prop}(h:B):if false=true then A else B:=by
 rw [if_neg Bool.false_ne_true];exact h
theorem Cm {A B:Prop}(h:A):if true=true then A else B:=by
 rw [if_pos rfl];exact h
theorem Ht {c A B:Prop}[Decidable c](h1:c->A)(h2:¬ c->B):if c then A else B:=by
 by_cases h:c
 ·rw [if_pos h];exact h1 h
 ·rw [if_neg h];exact h2 h
noncomputable def Ai (H H':Hp):Prop:=∀ b o,H b=some o->H' b=some o
theorem Ai.refl (H:Hp):Ai H H:=λ_ _ h=>h
theorem Ai.trans {H H1 H2:Hp}(a:Ai H H1)(b:Ai H1 H2):Ai H H2:=λc o h=>b c o (a c o h)
theorem Ai.free {H H':Hp}(e:Ai H H'){l:Addr}(h:H' l=Option.none):H l=Option.none:=by
 cases q:H l with
 | none=>rfl
 | some o =>
  rw [e l o q] at h;cases h
theorem Ai.seq {K:W.Frag}{H H':Hp}{a:Addr}{xs:List V}(e:Ai H H')(h:AO K H a xs):AO K H' a xs:=by
 rcases h with (h | ⟨o,h⟩) | h
 ·exact .inl (.inl (e _ _ h))
 ·exact .inl (.inr ⟨o,e _ _ h⟩)
 ·exact .inr h
section
variable {X:Cx}
theorem Ni:DB X (.builtin "len") (λxs H Q=>∃ a kvs,xs=[V.ref a]/\H a=some (.dK kvs)/\Q (.int kvs.length) H):=by
 intro pins s σ H xs us Q I r h;obtain ⟨a,kvs,rfl,ha,q⟩:=h;obtain ⟨u,rfl,ru⟩:=vals1 r;cases ru;exact dh I (.inl ha) λt s' I'=>⟨.int kvs.length,H,I',⟨t,rfl⟩,q⟩
end
section
variable {κ:Type}[DecidableEq κ]
theorem R':∀ {l:List κ} {k:κ},l.Nodup->¬ k∈l->(l++[k]).Nodup
 | [],k,_,_=>by simp
 | a::r,k,h,hk=>by
  obtain ⟨h1,h2⟩:=List.nodup_cons.mp h;show (a::(r++[k])).Nodup;refine List.nodup_cons.mpr ⟨λm=>?_,R' h2 λm=>hk (List.mem_cons.mpr (Or.inr m))⟩;rcases List.mem_append.mp m with q | q
  ·exact h1 q
  ·exact hk (List.mem_cons.mpr (Or.inl (List.mem_singleton.mp q).symm))
end
section
variable {P:Program}{w:World}{H H1:Hp}{h h1:Heap}{a:Addr}{o:HO}{fs ex:List Addr}
theorem Dv.aah (x:Dv P w H h)(hn:H a=none)(new:AN P w (upd H a o) h a o):Dv P w (upd H a o) h:=by
 intro b u e;by_cases hb:b=a
 ·subst hb;rw [Ad] at e;cases e;exact new
 ·rw [Ac hb] at e;refine (x b u e).aat (λc v _ q=>q) (λc q=>?_) (λc xs q=>?_)
  ·rw [Ac (Ab q hn)];exact q
  ·rw [Ac (Ab q hn)];exact q
theorem Un.aah (u:Un fs ex H H1 h h1)(hn:H1 a=none)(ha:h.get? a=none):Un fs ex H (upd H1 a o) h h1 where
 keep:=u.keep
 slot:=u.slot
 free:=λb ob q n hx=>by
  have hb:b≠a:=λz=>by rw [z,ha] at q;cases q
  rw [Ac hb];exact u.free b ob q n hx
 there:=u.there
 aas:=λb xs q=>by
  have z:=u.aas b xs q;rw [Ac (Ab z hn)];exact z
 aaq:=λb ob xs q=>by
  have z:=u.aaq b ob xs q;rw [Ac (Ab z hn)];exact z
 aar:=λb ps q=>by
  obtain ⟨more,z⟩:=u.aar b ps q;exact ⟨more,by rw [Ac (Ab z hn)];exact z⟩
end
section
variable {prog:Program}{w:World}{A:Around}{R:Result->Shared->Prop}{s:Shared}
abbrev S0:Value->Shared->Prop:=λ_ _=>False
theorem Ky {elt target iter:Expr}{ifs:List Expr}{scope:Scope}{pos:Pos}{it acc:Value}{env:Env}(J:Nat->Shared->Prop)
  (turn:∀ n s,J n s->wpAny (model prog w) A (pyNext it) (λr s1=>match r with
   | none=>R (.ok .next) s1
   | some v=>wpAny (model prog w) A (letOwnedTupleGo target it v) (λ_ s2=>wpAny (model prog w) A (assign target env v) (λ_ s3 =>
     wpAny (model prog w) A (forIn ifs true λc r=>if r=true then do let ok <- isTrue c env (eval c env);pure (ForInStep.yield ok) else pure (ForInStep.yield r)) (λok s4 =>
      if ok=true then wpAny (model prog w) A (eval elt env) (λx s5=>wpAny (model prog w) A (call (.builtin "list.append") [acc,x]) (λ_ s6=>∃ m,m < n/\J m s6) S0 s5) S0 s4
      else ∃ m,m < n/\J m s4) S0 s3) S0 s2) S0 s1) S0 s)
  (n:Nat) (h:J n s):codeAny (model prog w) A (.compLoop (.ListComp elt [⟨target,iter,ifs,0⟩] scope pos) 0 it acc env) R s:=by
 refine codeAny_loop rfl J (λn s hJ=>?_) n h;show wpAny _ A ((compTurn (.ListComp elt [⟨target,iter,ifs,0⟩] scope pos) 0 it acc env).onRaise (λx=>do noteFrame x env;theTreesLotGoes x)) _ _ s
 refine wpAny_noted ?_;rw [compTurn_list];refine wpAny_bind (wpAny_standAt (wpAny_bind (wpAny_mono (turn n s hJ) (λr s1 q1=>?_) λ_ _ z=>z.elim)));cases r with
 | none=>exact wpAny_pure q1
 | some v =>
  refine wpAny_bind (wpAny_mono q1 (λ_ s2 q2=>?_) λ_ _ z=>z.elim);refine wpAny_bind (wpAny_mono q2 (λ_ s3 q3=>?_) λ_ _ z=>z.elim);refine wpAny_bind (wpAny_mono q3 (λok s4 q4=>?_) λ_ _ z=>z.elim);cases ok with
  | false=>exact wpAny_pure ⟨rfl,q4⟩
  | true =>
   refine wpAny_bind (wpAny_bind (wpAny_mono q4 (λx s5 q5=>?_) λ_ _ z=>z.elim));refine wpAny_bind (wpAny_mono q5 (λ_ s6 q6=>?_) λ_ _ z=>z.elim);exact wpAny_pure (wpAny_pure ⟨rfl,q6⟩)
end
noncomputable def Cx.blk (X:Cx)(N:List Str)(env:Env)(s0:Shared)(H0:Hp)(ex:List Addr):Cx :=
 { X with N:=N,s₀:=s0,H₀:=H0,env:=env,outer:=X.stack,stack:=X.stack,ex:=ex,fn:=λ_=>false,pn:=[],xe:=S0 }
structure Bj (X:Cx)(scope:Scope)(cl:List (Str × Addr))(own fr:List Str)(js:List Nat):Prop where
 ab3:closureFor scope X.env=pure cl
 cell:∀ y∈scope.names,y.2≠.cell
 kind:scope.kind=.function
 names:∀ y∈scope.names,y.2=.local->scope.names.lookup y.1=some .local
 sub:cl.map (λp=>X.env.cells.lookup p.1)=cl.map (λp=>some p.2)
 has:((relabel scope X.env).names.all λy=>!(y.2==.cell || y.2==.free) || (cl.lookup y.1).isSome)=true
 fre:(fr.all λy=>(X.env.kindOf y==some .cell || X.env.kindOf y==some .free) && ((relabel scope X.env).names.lookup y==some .cell || (relabel scope X.env).names.lookup y==some .free))=true
 here:js.map (λj=>X.N[j]?)=fr.map some
noncomputable def Dc (own:List Str)(js:List Nat)(σ:St):St:=own.map (λ_=>none)++js.map (λj=>(σ[j]?).join)
noncomputable def dq (X:Cx)(scope:Scope)(cl:List (Str × Addr))(C:Addr):Env:=compEnvC scope cl C X.env
abbrev Cx.cmp (X:Cx)(scope:Scope)(cl:List (Str × Addr))(own fr:List Str)(C:Addr)(s0:Shared)(H0:Hp)(ex:List Addr):Cx:=X.blk (own++fr) (dq X scope cl C) s0 H0 ex
theorem lookup_mem {α:Type}:∀ {l:List (Str × α)} {y:Str} {c:α},l.lookup y=some c->(y,c)∈l
 | [],_,_,h=>by simp at h
 | (z,d)::r,y,c,h=>by
  rw [List.lookup_cons] at h;cases e:y==z with
  | true=>rw [e] at h;cases h;rw [eq_of_beq e];exact .head _
  | false=>rw [e] at h;exact .tail _ (lookup_mem h)
section
variable {X:Cx}{scope:Scope}{cl:List (Str × Addr)}{own fr:List Str}{js:List Nat}{pins:List (Addr × Obj)}{σ:St}{H:Hp}{s s':Shared}{fp:List Addr}{C:Addr}{m:Str->Option Value}
theorem Bj.cells (S:Bj X scope cl own fr js){y:Str}{c:Addr}(h:cl.lookup y=some c):X.env.cells.lookup y=some c:=by
 have hm:=lookup_mem h;have e:∀ (l:List (Str × Addr)),l.map (λp=>X.env.cells.lookup p.1)=l.map (λp=>some p.2)->∀ p∈l,X.env.cells.lookup p.1=some p.2:=by
  intro l
  induction l with
  | nil=>intro _ p hp;cases hp
  | cons q r ih =>
   intro h p hp;have h1:=(List.cons.inj h).1;have h2:=(List.cons.inj h).2;rcases List.mem_cons.mp hp with rfl | hp
   ·exact h1
   ·exact ih h2 p hp
 exact e cl S.sub _ hm
theorem Bj.ab2 (S:Bj X scope cl own fr js){y:Str}(h:(relabel scope X.env).names.lookup y=some .cell\/(relabel scope X.env).names.lookup y=some .free):∃ c,cl.lookup y=some c:=by
 have key:∀ k:NameKind,(k=.cell\/k=.free)->(relabel scope X.env).names.lookup y=some k->∃ c,cl.lookup y=some c:=by
  intro k hk hl;have q:=List.all_eq_true.mp S.has _ (lookup_mem hl);have kk:(k==NameKind.cell || k==NameKind.free)=true:=by
   rcases hk with rfl | rfl <;> rfl
  simp only [kk,Bool.not_true,Bool.false_or] at q;exact Option.isSome_iff_exists.mp q
 rcases h with h | h
 ·exact key _ (.inl rfl) h
 ·exact key _ (.inr rfl) h
theorem Bj.free (S:Bj X scope cl own fr js){y:Str}(h:y∈fr):(X.env.kindOf y=some .cell\/X.env.kindOf y=some .free)/\((relabel scope X.env).names.lookup y=some .cell\/(relabel scope X.env).names.lookup y=some .free):=by
 have q:=List.all_eq_true.mp S.fre y h;simpa [Bool.and_eq_true,Bool.or_eq_true] using q
theorem S4 {α β:Type}{f:α->β}{l:List α}{i:Nat}{b:β}(h:(l.map f)[i]?=some b):∃ a,l[i]?=some a/\f a=b:=by
 rw [List.getElem?_map] at h;cases e:l[i]? with
 | none=>rw [e] at h;cases h
 | some a=>rw [e] at h;exact ⟨a,rfl,Option.some.inj h⟩
theorem S5 (S:Bj X scope cl own fr js)(I:Inv X pins σ H s)(hf:∀ b∈fp,FW X pins H b)(hC:s.heap.objs.size<=C)(Rj:s'.heap.Ns C m)(du:∀ b∈fp,b < s.heap.objs.size)
  (Wt:s'.os=s.os) (hg:s'.gens=s.gens) (k:∀ b o,s.heap.get? b=some o->s'.heap.get? b=some o) :
  Inv (X.cmp scope cl own fr C s H fp) [] (Dc own js σ) H s':=by
 have cells:∀ x c,cl.lookup x=some c->X.env.cells.lookup x=some c:=λx c h=>S.cells h;refine ⟨⟨I.ok.mod,S.kind,I.ok.glob,I.ok.blt,hC,?_,?_,?_,I.ok.hd,I.ok.frames,.inl rfl,?_,I.bs,Nat.le_trans I.ok.bsz I.sz,?_,?_,I.stack,I.aao⟩,Wt,?_,Un.kept k,⟨m,Rj,?_⟩,?_,?_,?_,?_,I.hok.kept k,?_⟩
 ·intro x y c h1 h2;exact I.ok.inj x y c (cells x c h1) (cells y c h2)
 ·intro x hx;exact S.ab2 hx
 ·intro x c h;exact absurd (show false=true from h) Bool.false_ne_true
 ·intro b hb;refine ⟨Nat.ne_of_lt (Nat.lt_of_lt_of_le (du b hb) hC),λx c h=>?_⟩;exact (hf b hb).2.2.2.2.1 x c (cells x c h)
 ·intro b o e hb;rcases (hf b hb).2.2.2.1 with z | z
  ·exact I.ok.abi b o e z
  ·exact absurd (Nat.lt_of_lt_of_le (Nat.lt_of_lt_of_le (Heap.lt_size e) I.ok.bsz) z) (Nat.lt_irrefl _)
 ·intro b hb z;rcases List.mem_cons.mp (I.aal b z) with e | e
  ·exact (hf b hb).2.1 e
  ·exact (hf b hb).2.2.1 e
 ·rw [hg];exact I.bare
 ·intro i x v h1 h2 _;have hN:(X.cmp scope cl own fr C s H fp).N=own++fr:=rfl;rw [hN] at h1;by_cases hi:i < own.length
  ·have:(Dc own js σ)[i]?=some none:=by
    unfold Dc;rw [List.getElem?_append_left (by simpa using hi),List.getElem?_map];simp [hi]
   rw [this] at h2;cases h2
  ·have hi:own.length<=i:=Nat.not_lt.mp hi;rw [List.getElem?_append_right hi] at h1;unfold Dc at h2;rw [List.getElem?_append_right (by simpa using hi),List.length_map] at h2;obtain ⟨j,hj,ej⟩:=S4 h2;have zq:X.N[j]?=some x:=by
    have e1:(js.map (λj=>X.N[j]?))[i - own.length]?=some (X.N[j]?):=(by rw [List.getElem?_map,hj];rfl);rw [S.here,List.getElem?_map,h1] at e1;exact (Option.some.inj e1).symm
   have hσ:σ[j]?=some (some v):=by
    cases e:σ[j]? with
    | none=>rw [e] at ej;cases ej
    | some o=>rw [e] at ej;cases o with
     | none=>cases ej
     | some u=>cases ej;rfl
   obtain ⟨kx,wD⟩:=S.free (List.mem_of_getElem? h1);obtain ⟨m0,_,hl⟩:=I.loc;have zr:b8 X.env.scope x:=by
    rcases kx with z | z
    ·exact .inr (.inl z)
    ·exact .inr (.inr z)
   obtain ⟨u,r,lk⟩:=hl j x v zq hσ zr;refine ⟨u,r,.inr ⟨wD,?_⟩⟩;obtain ⟨c,hc⟩:=S.ab2 wD;rcases lk with ⟨z,_⟩ | ⟨_,c',e',q⟩
   ·rcases kx with y | y <;> (rw [y] at z;cases z)
   ·rw [S.cells hc] at e';cases e';obtain ⟨o,ho,hd⟩:=q;exact ⟨c,hc,o,k _ _ ho,hd⟩
 ·intro x c h;obtain ⟨v,o,ho,hd⟩:=I.cell x c (cells x c h);exact ⟨v,o,k _ _ ho,hd⟩
 ·exact I.hok.fresh hC
 ·intro x c h;exact I.aae x c (cells x c h)
 ·intro p hp;exact absurd (show p∈([]:List (Addr × Obj)) from hp) (by simp)
 ·have e:js.length=fr.length:=by
   have:=congrArg List.length S.here;simpa using this
  show (Dc own js σ).length=(own++fr).length;unfold Dc;simp [e]
end
noncomputable def bh (X:Cx)(ifs:List Expr)(t:TT):Prop :=
 ∀ (pins:List (Addr × Obj)) (s:Shared) (σ:St) (H:Hp) (Q:Bool->Hp->Prop),Inv X pins σ H s->t σ H Q ->
  wpAny (model X.prog X.w) X.A (forIn ifs true λc r=>if r=true then do let ok <- isTrue c X.env (eval c X.env);pure (ForInStep.yield ok) else pure (ForInStep.yield r)) (TP X pins σ Q) X.xe s
noncomputable def Hu:TT:=λ_ H Q=>Q true H
theorem S6 {X:Cx}:bh X [] Hu:=λ_ _ _ H _ I h=>wpAny_tests_nil ⟨H,I,h⟩
theorem S7 {X:Cx}{c:Expr}{t:TT}(h:PT X c t):bh X [c] t:=λpins s σ H Q I q=>wpAny_tests_one (h pins s σ H Q I q)
noncomputable def Ext (σ σ':St):Prop:=σ'.length=σ.length/\∀ (i:Nat) v,σ[i]?=some (some v)->σ'[i]?=some (some v)
theorem Ext.set {σ:St}{i:Nat}{v:V}(h:σ[i]?=some none):Ext σ (σ.set i (some v)):=by
 refine ⟨by simp,λj u e=>?_⟩;by_cases hj:i=j
 ·subst hj;rw [h] at e;cases e
 ·rw [List.getElem?_set_ne hj];exact e
noncomputable def Dq (J:It)(H1:Hp)(σ:St)(g:TG)(tt:TT)(te:TE)(Fin:List V->Hp->Prop):Prop :=
  ∃ W:Nat->Nat->List V->Hp->Prop,(∃ m,W 0 m [] H1)/\∀ i m ys H,W i m ys H->ys.length<=sizeLine /\
    ((J.stop i H/\Fin ys H)\/(J.go i H/\ys.length < sizeLine/\∀ x H',J.yld i H x H'->g x σ H' fun σ2 H2=>Ext σ σ2/\tt σ2 H2 λb H3 =>
      if b=true then te σ2 H3 λy H4=>∃ m',m' < m/\W (i+1) m' (ys++[y]) H4 else ∃ m',m' < m/\W (i+1) m' ys H3))
section
variable {X:Cx}{scope:Scope}{cl:List (Str × Addr)}{own fr:List Str}{js:List Nat}{elt iter tg:Expr}{ifs:List Expr}{pos:Pos}{g:TG}{tt:TT}{te:TE}
 {pins:List (Addr × Obj)} {σ:St} {H2:Hp} {s2:Shared} {fp:List Addr} {it:Addr} {tn:Nat->Heap->Prop} {J:It} {Fin:List V->Hp->Prop} {E:Value->Shared->Prop}
theorem Nj {ys:List V}{us:List Value}{y:V}{u:Value}(r:Vals ys us)(q:RelV y u):Vals (ys++[y]) (us++[u]):=r.append (.cons q .nil)
theorem HU (S:Bj X scope cl own fr js)(EK:X.calm=true)
  (hg:∀ C s0 H0 ex,PG (X.cmp scope cl own fr C s0 H0 ex) tg g) (ht:∀ C s0 H0 ex,bh (X.cmp scope cl own fr C s0 H0 ex) ifs tt) (he:∀ C s0 H0 ex,PE (X.cmp scope cl own fr C s0 H0 ex) elt te)
  (I2:Inv X pins σ H2 s2) (T:Turn X.prog X.w X.K tg J fp it tn) (n9:tn 0 s2.heap) (hf:∀ b∈fp,FW X pins H2 b) (L:Dq J H2 (Dc own js σ) g tt te Fin)
  {RR:Value->Addr->Result->Shared->Prop}
  (zt:∀ (D C:Addr) (s':Shared) (ys:List V) (its:List Value) (n:Nat) (H':Hp) (m':Str->Option Value),s2.heap.objs.size<=D->s2.heap.objs.size<=C->D≠C->s'.os=s2.os->AllBare s'.gens ->
   Un (F7 X.stack) fp H2 H' s2.heap s'.heap->Dv X.prog X.w H' s'.heap->H' D=none->H' C=none->s'.heap.Ns C m'->Vals ys its->s'.heap.get? D=some { cls:=.type "list",data:=.seq its.toArray n }->ys.length<=sizeLine ->
   Fin ys H'->RR (.ref D) C (.ok .next) s') :
  wpAny (model X.prog X.w) X.A (newList []) (λacc s3=>wpAny (model X.prog X.w) X.A (newFunctionEnv scope X.env.globals cl [] X.env.qual none .none (some X.env)) (λdw s4 =>
   codeAny (model X.prog X.w) X.A (.compStart (.ListComp elt [⟨tg,iter,ifs,0⟩] scope pos) 0 (.ref it) acc { dw with scope:=relabel scope X.env }) (RR acc dw.locals) s4) E s3) E s2:=by
 refine wpAny_newObj_type (wpAny_newFunctionEnv S.cell (by intro y hy;simp at hy) (λh1 Rj km=>?_) S.kind);dsimp only at Rj km ⊢;generalize hG:s2.heap.push { cls:=.type "list",dict:=none,data:=.seq ([]:List Value).toArray }=G at Rj km ⊢;have hC:G.objs.size=s2.heap.objs.size+1:=by rw [<- hG,Heap.size_push]
 have V5:s2.heap.objs.size≠G.objs.size:=by omega
 have S8:s2.heap.objs.size<=G.objs.size:=by omega
 have old:∀ b o,s2.heap.get? b=some o->h1.get? b=some o:=λb o e=>by
  have hb:=Heap.lt_size e;exact km.extBut b o (Nat.ne_of_lt (Nat.lt_of_lt_of_le hb S8)) (Heap.get?_push_of_some _ (hG▸Heap.get?_push_of_some _ e))
 have Ph:h1.get? s2.heap.objs.size=some { cls:=.type "list",data:=.seq ([]:List Value).toArray 0 } :=
  km.extBut _ _ V5 (Heap.get?_push_of_some _ (hG▸Heap.get?_push_size _ rfl))
 have du:∀ b∈fp,b < s2.heap.objs.size:=λb hb=>by
  obtain ⟨o,e,_⟩:=T.obj 0 _ n9 b hb;exact Heap.lt_size e
 have dA:∀ t:Nat,Inv (X.cmp scope cl own fr G.objs.size s2 H2 fp) [] (Dc own js σ) H2 { s2 with heap:=h1,toks:=t }:=λt =>
  S5 S I2 hf S8 Rj du rfl rfl old
 obtain ⟨W,⟨m0,w0⟩,turn⟩:=L;have zu:s2.heap.objs.size∉F7 X.stack:=λz=>by
  rcases List.mem_cons.mp (I2.aal _ z) with e | e
  ·exact absurd I2.lt (by rw [<- e];exact Nat.lt_irrefl _)
  ·exact I2.ab0 (Nat.le_refl _) e
 have WG:∀ {H:Hp} {s:Shared} {σ':St} {its:List Value} {n:Nat},Inv (X.cmp scope cl own fr G.objs.size s2 H2 fp) [] σ' H s->s.heap.get? s2.heap.objs.size=some { cls:=.type "list",data:=.seq its.toArray n }->H s2.heap.objs.size=none ->
   Inv (X.cmp scope cl own fr G.objs.size s2 H2 fp) [(s2.heap.objs.size,{ cls:=.type "list",data:=.seq its.toArray n })] σ' H s:=λ{H s σ' its n} I e hn=>I.aaf λp hp=>by
  obtain rfl:=List.mem_singleton.mp hp;exact ⟨e,hn,V5,zu,λv z=>by cases z⟩
 have WH:∀ {H:Hp} {its:List Value} {n:Nat},(∀ b∈fp,H b=none)->∀ b∈fp,FW (X.cmp scope cl own fr G.objs.size s2 H2 fp) [(s2.heap.objs.size,{ cls:=.type "list",data:=.seq its.toArray n })] H b:=λ{H its n} hn b hb=>by
  have DL:=du b hb;refine ⟨hn b hb,?_,?_,.inl hb,?_,?_⟩
  ·exact Nat.ne_of_lt (Nat.lt_of_lt_of_le DL S8)
  ·intro z;rcases List.mem_cons.mp (I2.aal b z) with e | e
   ·exact (hf b hb).2.1 e
   ·exact (hf b hb).2.2.1 e
  ·intro x c h;exact (hf b hb).2.2.2.2.1 x c (S.cells h)
  ·intro p hp;obtain rfl:=List.mem_singleton.mp (show p∈[(s2.heap.objs.size,_)] from hp);exact Ne.symm (Nat.ne_of_lt DL)
 have loop:∀ t:Nat,codeAny (model X.prog X.w) X.A (.compLoop (.ListComp elt [⟨tg,iter,ifs,0⟩] scope pos) 0 (.ref it) (.ref s2.heap.objs.size) (dq X scope cl G.objs.size))
   (RR (.ref s2.heap.objs.size) G.objs.size) { s2 with heap:=h1,toks:=t }:=by
  intro t;refine Ky (λk s'=>∃ i ys its n H',Inv (X.cmp scope cl own fr G.objs.size s2 H2 fp) [(s2.heap.objs.size,{ cls:=.type "list",data:=.seq its.toArray n })] (Dc own js σ) H' s'/\tn i s'.heap/\(∀ b∈fp,H' b=none) /\
   Vals ys its/\W i k ys H') ?_ m0 ⟨0,[],[],0,H2,WG (dA t) Ph (I2.hok.fresh (Nat.le_refl _)),T.keep _ _ _ n9 λb _ o e=>old b o e,λb hb=>(hf b hb).1,.nil,w0⟩
  rintro n s3 ⟨i,ys,its,nn,H3,I3,cO,Oh,rv,w3⟩;obtain ⟨hlen,w3⟩:=turn i n ys H3 w3;have dB:=rv.length;rcases w3 with ⟨stop,fin⟩ | ⟨go,DL,step⟩
  ·refine AY (T.done (X.cmp scope cl own fr G.objs.size s2 H2 fp) rfl rfl rfl EK i _ s3 _ H3 S0 I3 (WH Oh) cO stop) λr s4 q4=>?_;obtain ⟨hr,I4⟩:=q4;subst hr;obtain ⟨eD,nD,_⟩:=I4.pin _ (List.mem_append_right _ (.head _));obtain ⟨m4,zv,_⟩:=I4.loc;exact zt _ _ s4 ys its nn H3 m4 (Nat.le_refl _) S8 V5 I4.os I4.bare I4.base I4.hok nD I4.free zv rv eD hlen fin
  ·refine AY (T.item (X.cmp scope cl own fr G.objs.size s2 H2 fp) rfl rfl rfl EK i _ s3 _ H3 S0 I3 (WH Oh) cO go) λr s4 q4=>?_;obtain ⟨u,hr,q4⟩:=q4;subst hr;refine AY q4 λ_ s5 q5=>?_;obtain ⟨x,H5,I5,r5,y5,W7,ON⟩:=q5;have mf:=I5.pinned (WH ON) (T.obj _ _ W7);refine AY (hg G.objs.size s2 H2 fp _ s5 _ H5 x u _ mf r5 (step x H5 y5)) λ_ s6 q6=>?_;obtain ⟨σ6,H6,I6,dC,q6⟩:=q6;have fin:∀ {s7:Shared} {H7:Hp},Inv (X.cmp scope cl own fr G.objs.size s2 H2 fp) ([(s2.heap.objs.size,{ cls:=.type "list",data:=.seq its.toArray nn })]++Gk fp s5.heap) σ6 H7 s7 ->
     tn (i+1) s7.heap/\(∀ b∈fp,H7 b=none)/\s7.heap.get? s2.heap.objs.size=some { cls:=.type "list",data:=.seq its.toArray nn }/\H7 s2.heap.objs.size=none/\Inv (X.cmp scope cl own fr G.objs.size s2 H2 fp) [] (Dc own js σ) H7 s7:=λ{s7 H7} I7=>by
    have pd:=I7.pin _ (List.mem_append_right _ (List.mem_append_left _ (.head _)));refine ⟨T.keep _ _ _ W7 λb hb o e=>(I7.pin (b,o) (List.mem_append_right _ (List.mem_append_right _ (DK hb e)))).1,λb hb=>?_,pd.1,pd.2.1,?_⟩
    ·obtain ⟨o,e,d⟩:=T.obj _ _ W7 b hb;exact (I7.pin (b,o) (List.mem_append_right _ (List.mem_append_right _ (DK hb e)))).2.1
    ·exact (I7.aaf (pins':=[]) λp hp=>absurd hp (by simp)).weak dC.1.symm dC.2
   refine AY (ht G.objs.size s2 H2 fp _ s6 σ6 H6 _ I6 q6) λok s7 q7=>?_;obtain ⟨H7,I7,q7⟩:=q7;cases ok with
   | false =>
    obtain ⟨m',hm,w7⟩:=q7;obtain ⟨a1,a2,a3,a4,a5⟩:=fin I7;exact ⟨m',hm,i+1,ys,its,nn,H7,WG a5 a3 a4,a1,a2,rv,w7⟩
   | true =>
    refine AY (he G.objs.size s2 H2 fp _ s7 σ6 H7 _ I7 q7) λv s8 q8=>?_;obtain ⟨y,H8,I8,r8,m',hm,w8⟩:=q8;obtain ⟨a1,a2,a3,a4,a5⟩:=fin I8;refine append_at (its:=its.toArray) (n:=nn) a3 (λh9 zw e9=>?_) (by rw [List.size_toArray,<- dB];exact hlen);have kp:∀ b o,b≠s2.heap.objs.size->s8.heap.get? b=some o->h9.get? b=some o:=λb o hb e=>(zw.2 b hb).trans e;have I9:Inv (X.cmp scope cl own fr G.objs.size s2 H2 fp) [] (Dc own js σ) H8 { s8 with heap:=h9,toks:=s8.toks }:=by
     refine a5.turned kp a4 V5 (.inr (Nat.le_refl _)) (λx c h z=>?_) (λp hp=>absurd (show p∈([]:List (Addr × Obj)) from hp) (by simp));obtain ⟨v,o,ho,_⟩:=I2.cell x c (S.cells h);exact absurd z (Nat.ne_of_lt (Heap.lt_size ho))
    have zx:h9.get? s2.heap.objs.size=some { cls:=.type "list",data:=.seq (its++[v]).toArray (nn+1) }:=by
     rw [e9];simp
    refine ⟨m',hm,i+1,ys++[y],its++[v],nn+1,H8,WG I9 zx a4,T.keep _ _ _ a1 λb hb o e=>kp b o ?_ e,a2,Nj rv r8,w8⟩;exact Nat.ne_of_lt (du b hb)
 exact codeAny_compStart_list (loop _) (T.self _ 0 _ _ _ (T.keep _ _ _ n9 λb _ o e=>old b o e) (loop _))
theorem M7 {H':Hp}{s':Shared}{D:Addr}{ys:List V}{its:List Value}{n:Nat}(I2:Inv X pins σ H2 s2)(hf:∀ b∈fp,FW X pins H2 b)(hD:s2.heap.objs.size<=D)(os:s'.os=s2.os)(bare:AllBare s'.gens)
  (un:Un (F7 X.stack) fp H2 H' s2.heap s'.heap) (hok:Dv X.prog X.w H' s'.heap) (nD:H' D=none) (rv:Vals ys its) (e:s'.heap.get? D=some { cls:=.type "list",data:=.seq its.toArray n }) (hz:ys.length<=sizeLine) :
  Inv X pins σ (upd H' D (.lst ys)) s':=by
 refine I2.abb (ch:=fp) os (un.aah nD (Heap.get?_none_of_le hD)) (hok.aah nD ⟨hz,its,n,rv,e⟩) bare λb hb=>?_;obtain ⟨_,f1,_,f3,f4,f5⟩:=hf b hb;exact ⟨f3,f1,f4,f5⟩
noncomputable def Pj (own:List Str)(js:List Nat)(wi:TI)(g:TG)(tt:TT)(te:TE):TE:=fun σ H Q=>wi σ H λJ H1 =>
 Dq J H1 (Dc own js σ) g tt te λys H2=>∀ D,H2 D=none->Q (.ref D) (upd H2 D (.lst ys))
theorem S9 {wi:TI}(S:Bj X scope cl own fr js)(EK:X.calm=true)(hi:PI X tg iter wi)
  (hg:∀ C s0 H0 ex,PG (X.cmp scope cl own fr C s0 H0 ex) tg g) (ht:∀ C s0 H0 ex,bh (X.cmp scope cl own fr C s0 H0 ex) ifs tt) (he:∀ C s0 H0 ex,PE (X.cmp scope cl own fr C s0 H0 ex) elt te)
  (hs:∀ x,foldedSetIterable iter X.env x=pure x:=by intro _;rfl):PE X (.ListComp elt [⟨tg,iter,ifs,0⟩] scope pos) (Pj own js wi g tt te):=by
 intro pins s σ H Q I h;rw [eval_ListComp];refine wpAny_comprehension_free (use:=none) rfl hs S.ab3 S.kind S.names (AY (hi pins s σ H _ I h) λv s1 q1=>AY q1 λHq s2 q2=>?_);obtain ⟨it,fp,tn,J,H2,rfl,I2,T,st,hf,L⟩:=q2;refine HU (RR:=λacc C=>compPost (model X.prog X.w) X.A X.xe none (EP X pins σ Q) acc C) S EK hg ht he I2 T st hf L ?_;intro D C s' ys its n H' m' hD hC V5 os bare un hok nD nC ns rv e hz fin;refine ⟨m',ns,λdD nc=>?_⟩;have I3:=M7 I2 hf hD os bare un hok nD rv e hz;have nh:(upd H' D (.lst ys)) C=none:=by rw [Ac (Ne.symm V5)];exact nC
 obtain ⟨f0,f1,_,f3,f4,f5⟩:=I2.aa4 hC nh;have I4:Inv X pins σ (upd H' D (.lst ys)) { s' with heap:=dD,toks:=s'.toks }:=I3.turned (λb o hb q=>(nc.2 b hb).trans q) f0 f1 f3 f4 f5;exact ⟨.ref D,_,I4,rfl,fin D nD⟩
noncomputable def Kz (i:Nat)(own:List Str)(js:List Nat)(wi:TI)(g:TG)(tt:TT)(te:TE):TS:=λD σ H=>wi σ H λJ H1 =>
 Dq J H1 (Dc own js σ) g tt te λys H2=>∀ a,H2 a=none->D.nx (σ.set i (some (.ref a))) (upd H2 a (.lst ys))
theorem Sb {wi:TI}{i:Nat}{y:Str}{py Pk:Pos}(hN:X.N.Nodup)(hy:X.N[i]?=some y)(hx:Loc X.env.scope y)(S:Bj X scope cl own fr js)(EK:X.calm=true)(hi:PI X tg iter wi)
  (hg:∀ C s0 H0 ex,PG (X.cmp scope cl own fr C s0 H0 ex) tg g) (ht:∀ C s0 H0 ex,bh (X.cmp scope cl own fr C s0 H0 ex) ifs tt) (he:∀ C s0 H0 ex,PE (X.cmp scope cl own fr C s0 H0 ex) elt te)
  (ni:swapsWith (.ListComp elt [⟨tg,iter,ifs,0⟩] scope pos) (some (.Name y py)) Pk.line X.env=pure true:=by rfl)
  (hf:X.fn y=true\/X.env.scope.names.lookup y=some .local:=by first | exact .inl rfl | exact .inr rfl | assumption)
  (hs:∀ x,foldedSetIterable iter X.env x=pure x:=by intro _;rfl):PS X (.Assign [.Name y py] (.ListComp elt [⟨tg,iter,ifs,0⟩] scope pos) Pk) (Kz i own js wi g tt te):=by
 intro pins s σ H D I h;rw [exec_Assign_Name_used _ _ _ _ ni];refine wpAny_bind (wpAny_standAt (wpAny_bind ?_));show wpAny _ X.A (do let _ <- comprehension (.ListComp elt [⟨tg,iter,ifs,0⟩] scope pos) scope X.env _ (newList []) false (eval iter X.env) (some (assign (.Name y py) X.env))) _ _ s
 refine wpAny_bind (AY (Q:=λ_ s'=>SP X pins D .next s') ?_ λ_ s' q=>wpAny_pure (wpAny_pure q))
 refine wpAny_comprehension_free (use:=some (assign (.Name y py) X.env)) rfl hs S.ab3 S.kind S.names (AY (hi pins s σ H _ I h) λv s1 q1=>AY q1 λHq s2 q2=>?_);obtain ⟨it,fp,tn,J,H2,rfl,I2,T,st,wF,L⟩:=q2;refine HU (RR:=λacc C=>compPost (model X.prog X.w) X.A X.xe (some (assign (.Name y py) X.env)) (λ_ s'=>SP X pins D .next s') acc C) S EK hg ht he I2 T st wF L ?_
 intro d C s' ys its n H' m' hD hC V5 os bare un hok nD nC ns rv e hz fin;have I3:=M7 I2 wF hD os bare un hok nD rv e hz;have nh:(upd H' d (.lst ys)) C=none:=by rw [Ac (Ne.symm V5)];exact nC
 obtain ⟨f0,f1,_,f3,f4,f5⟩:=I2.aa4 hC nh;show wpAny _ X.A (assign (.Name y py) X.env (.ref d)) _ _ s';refine wpAny_assign_Name (HD I3 hN hy hx (v:=.ref d) rfl (λs4 I4 ch=>?_) hf);obtain ⟨a,sb,ha⟩:=ch;have zy:C≠a:=by
  rcases ha with rfl | ha
  ·exact f1
  ·exact λz=>f4 y a ha z.symm
 refine ⟨m',ns.sameBut sb zy,λh5 zA=>?_⟩;exact ⟨_,_,I4.turned (t':=s4.toks) (λb o hb q=>(zA.2 b hb).trans q) f0 f1 f3 f4 f5,fin d nD⟩
end
noncomputable def HV (K:W.Frag)(a:Addr)(n:Nat):It :=
 ⟨λi H=>∃ xs,AO K H a xs/\xs.length=n/\i < n,λi H x H'=>H'=H/\∀ xs,AO K H a xs->xs.reverse[i]?=some x,λi _=>n<=i⟩
theorem Pl {P:Program}{w:World}{K:W.Frag}{tg:Expr}(a it:Addr)(n:Nat):Turn P w K tg (HV K a n) [it] it (λi h=>i<=n/\h.IsRevIter it a ((n:Int) - 1 - (i:Int))) where
 mem:=by simp
 obj:=by
  intro i h st b hb;obtain rfl:b=it:=by simpa using hb
  obtain ⟨_,o,e,c,d⟩:=st;exact ⟨o,e,λv z=>by rw [d] at z;cases z⟩
 keep:=λi h h' st k=>⟨st.1,st.2.at λo e=>k it (by simp) o e⟩
 item:=by
  intro X hP hw hK hc i pins s σ H E I hf st hg;subst hP hw hK;obtain ⟨xs,hq,hn,hi⟩:=hg;obtain ⟨its,rv,p,hz⟩:=I.list hq;have hlen:=rv.length;obtain ⟨f0,f1,f2,f3,f4,f5⟩:=hf it (by simp);have ix:n - 1 - i < xs.length:=by omega
  have hx:xs[n - 1 - i]?=some (xs[n - 1 - i]'ix):=List.getElem?_eq_getElem ix;obtain ⟨u,hu,ru⟩:=rv.get hx;have ei:(n:Int) - 1 - (i:Int)=((n - 1 - i:Nat):Int):=by omega
  have Fv:=st.2;rw [ei] at Fv;refine wpAny_pyNext_rev_item Fv p.isList (x:=u) (by simpa using hu) λh' UU sb=>?_;have I1:Inv X pins σ H { s with heap:=h' }:=I.turned (t':=s.toks) (λb o hb e=>(sb.2 b hb).trans e) f0 f1 f3 f4 f5;have e2:((n - 1 - i:Nat):Int) - 1=(n:Int) - 1 - ((i+1:Nat):Int):=by omega
  rw [e2] at UU;obtain ⟨o,e,c,d⟩:=id UU;refine ⟨u,rfl,LJ (s:={ s with heap:=h' }) e c d ⟨⟩ ⟨xs[n - 1 - i]'ix,H,I1,ru,⟨rfl,λys hy=>?_⟩,⟨hi,UU⟩,λb hb=>(hf b hb).1⟩⟩;rw [I.aax hy hq,List.getElem?_reverse (),<- hx]
  congr 1
  omega
 done:=by
  intro X hP hw hK hc i pins s σ H E I hf st hg;subst hP hw hK;obtain ⟨f0,f1,f2,f3,f4,f5⟩:=hf it (by simp);have hg':n<=i:=hg;have e1:(n:Int) - 1 - (i:Int)=-1:=by have:=st.1;omega
  have Fv:=st.2;rw [e1] at Fv;exact wpAny_pyNext_rev_end (I.ok.hd hc) Fv λh' eb=>⟨rfl,I.turned (t':=s.toks) (λb o hb e=>eb b o hb e) f0 f1 f3 f4 f5⟩
 self:=λ_ _ _ _ _ st h=>wpAny_pyIter_revIter st.2 h
section
variable {X:Cx}{tg:Expr}
noncomputable def WI (K:W.Frag)(ta:TA):TI:=fun σ H R=>ta σ H λvs H1=>∃ a xs,vs=[.ref a]/\AO K H1 a xs/\R (HV K a xs.length) H1
theorem WJ {a:Expr}{ta:TA}{p pos:Pos}(hg:Gl X "reversed")(hm:X.mg "reversed"=none)(ha:PA X [a] ta)(hs:starEach [a] X.env=[(false,eval a X.env)]:=by rfl):PI X tg (.Call (.Name "reversed" p) [a] [] pos) (WI X.K ta):=by
 intro pins s σ H R I h;refine Call_ (Cq I hg hm boot_reversed (PyProof.Rows.callWith_type1 (AY (ha pos pins s σ H _ I h) λus s1 q1=>?_) hs rfl));obtain ⟨vs,H1,I1,r1,l,xs,rfl,hq,q⟩:=q1;obtain ⟨u,rfl,ru⟩:=vals1 r1;cases ru;obtain ⟨its,rv,pl,hz⟩:=I1.list hq;have hlen:=rv.length;refine call_reversed_list pl.isList ?_;have gr:(s1.heap.push (revObj l ((its.toArray.size:Int) - 1))).IsRevIter s1.heap.objs.size l ((xs.length:Int) - 1 - ((0:Nat):Int)):=by
  refine ⟨_,Heap.get?_push_size _ rfl,rfl,?_⟩;show Data.fields #[.ref l,rawInt ((its.toArray.size:Int) - 1)]=_;rw [List.size_toArray,<- hlen];simp
 refine wpAny_pyIter_revIter gr ?_;refine ⟨s1.heap.objs.size,[s1.heap.objs.size],_,_,H1,rfl,I1.kept (t':=s1.toks) λb o e=>Heap.get?_push_of_some _ e,Pl l _ xs.length,⟨Nat.zero_le _,gr⟩,λb hb=>?_,q⟩;obtain rfl:b=s1.heap.objs.size:=by simpa using hb
 exact I1.aa4 (Nat.le_refl _) (I1.hok.fresh (Nat.le_refl _))
end
theorem Sd {K:W.Frag}{a:Addr}{xs:List V}{g:TG}{tb:TS}{D:Ends}{σ:St}{H:Hp}(Pv:Nat->St->Hp->Prop)(h0:Pv 0 σ H)(hl:∀ i σ H,i<=xs.length->Pv i σ H->AO K H a xs)
  (hs:∀ i x σ H,xs.reverse[i]?=some x->Pv i σ H->g x σ H fun σ2 H2=>tb { D with nx:=Pv (i+1),ct:=Pv (i+1),bk:=D.nx } σ2 H2) (hd:∀ σ H,Pv xs.length σ H->D.nx σ H) :
  ∃ W:Nat->Nat->St->Hp->Prop,(∃ m,W 0 m σ H)/\∀ i m σ H,W i m σ H ->
   ((HV K a xs.length).stop i H/\D.nx σ H)\/((HV K a xs.length).go i H/\∃ N:St->Hp->Prop,(∀ σ' H',N σ' H'->∃ m',m' < m/\W (i+1) m' σ' H')/\∀ x H',(HV K a xs.length).yld i H x H'->g x σ H' fun σ2 H2=>tb { D with nx:=N,ct:=N,bk:=D.nx } σ2 H2):=by
 refine ⟨λi m σ H=>m=xs.length - i/\i<=xs.length/\Pv i σ H,⟨xs.length,by simp,Nat.zero_le _,h0⟩,?_⟩;rintro i m σ H ⟨rfl,hi,p⟩;have q:=hl i σ H hi p;by_cases DL:i < xs.length
 ·refine .inr ⟨⟨xs,q,rfl,DL⟩,Pv (i+1),fun σ' H' p'=>⟨xs.length - (i+1),(),rfl,DL,p'⟩,λx H' y=>?_⟩;obtain ⟨e,y⟩:=y;subst e;exact hs i x σ _ (y xs q) p
 ·obtain rfl:i=xs.length:=by omega
  exact .inl ⟨Nat.le_refl _,hd σ H p⟩
open PySem.W (fnMade fnX envX CodeHd tabObj makeFunction_K makeFunction_hit nestDef_K FnAt callWith_F)
structure M8 (base:Heap)(mg:Str->Option Value)(c P:Addr):Prop where
 hd:CodeHd base c P
 bm:∃ bm ob,mg "__builtins__"=some (.ref bm)/\bm≠builtinsNs/\base.get? bm=some ob/\ob.cls=.type "module"/\ob.dict=some builtinsNs/\ob.data=.plain
end L2
namespace KM
theorem kz:True:=trivial
end KM
namespace KS
open PySem PySem.Spec PyProof.Rows L2 KM
noncomputable def TSub (H H':Hp):Prop:=∀ a xs,H a=some (.tup xs)->H' a=some (.tup xs)
theorem TSub.trans {H H1 H2:Hp}(a:TSub H H1)(b:TSub H1 H2):TSub H H2:=λc xs h=>b c xs (a c xs h)
theorem TSub.of_same {H H':Hp}(s:Ai H H'):TSub H H':=λa xs h=>s a _ h
theorem TSub.put {H:Hp}{a:Addr}{o:HO}(h:∀ xs,H a≠some (.tup xs)):TSub H (upd H a o):=λb xs e=>by
 rw [Ac]
 ·exact e
 ·intro z;subst z;exact h xs e
noncomputable def Bf:Nat->Str
 | 0=>"number"
 | 1=>"truth"
 | 2=>"any"
 | 3=>"fun"
 | 4=>"pair"
 | _=>"list"
theorem Pm:∀ i,i < 6->∀ j,j < 6->(Bf i==Bf j)=(i==j):=by decide +kernel
end KS
namespace L2
open PySem PySem.Spec PyProof.Rows
mutual
inductive M9 (H:Hp):PyData->V->Prop
 | non:M9 H .none .non
 | bl (b:Bool):M9 H (.bool b) (.bl b)
 | int (i:Int):M9 H (.int i) (.int i)
 | str (x:Str):M9 H (.str x) (.str x)
 | tup {a:Addr} {us:List V} {ds:List PyData}:H a=some (.tup us)->Pn H ds us->M9 H (.tuple ds) (.ref a)
 | lst {a:Addr} {us:List V} {ds:List PyData}:H a=some (.lst us)->Pn H ds us->M9 H (.list ds) (.ref a)
inductive Pn (H:Hp):List PyData->List V->Prop
 | nil:Pn H [] []
 | cons {d:PyData} {v:V} {ds:List PyData} {us:List V}:M9 H d v->Pn H ds us->Pn H (d::ds) (v::us)
end
theorem M9.reads {P:Program}{w:World}{H:Hp}{h:Heap}(x:Dv P w H h){d:PyData}{v:V}{u:Value}(k:M9 H d v):RelV v u->∃ as,Reads h u d as:=by
 revert u
 refine M9.rec (motive_1:=λd v _=>∀ {u},RelV v u->∃ as,Reads h u d as) (motive_2:=λds vs _=>∀ {us},Vals vs us->∃ as,ReadsAll h us ds as) ?_ ?_ ?_ ?_ ?_ ?_ ?_ ?_ k
 ·intro u r;cases r;exact ⟨_,.none⟩
 ·intro b u r;cases r;exact ⟨_,.bool b⟩
 ·intro i u r;obtain ⟨t,rfl⟩:=r;exact ⟨_,.int i t⟩
 ·intro s u r;obtain ⟨t,rfl⟩:=r;exact ⟨_,.str s t⟩
 ·intro a us ds e _ ih u r;cases r;obtain ⟨_,its,rv,o,h1,h2,n,h3⟩:=(show AN P w H h _ (.tup _) from x _ _ e);obtain ⟨as,ra⟩:=ih rv;exact ⟨_,.tuple h1 h2 h3 ra⟩
 ·intro a us ds e _ ih u r;cases r;obtain ⟨_,its,n,rv,h1⟩:=(show AN P w H h _ (.lst _) from x _ _ e);obtain ⟨as,ra⟩:=ih rv;exact ⟨_,.list h1 rfl rfl ra⟩
 ·intro us r;cases r;exact ⟨_,.nil⟩
 ·intro d v ds us _ _ ih ij ws r;cases r with
  | cons r rs =>
   obtain ⟨as,ra⟩:=ih r;obtain ⟨bs,rb⟩:=ij rs;exact ⟨_,.cons ra rb⟩
end L2
namespace KS
open PySem PySem.Spec PyProof.Rows L2 KM
theorem Ma {P:Program}{w:World}{H:Hp}{h:Heap}{a:Addr}{xs:List V}(x:Dv P w H h)(e:H a=some (.tup xs)):∃ o its n,Vals xs its/\h.get? a=some o/\o.cls=.type "tuple"/\o.data=.seq its.toArray n:=by
 obtain ⟨_,its,r,o,h1,h2,n,h3⟩:=(show AN P w H h a (.tup xs) from x a _ e);exact ⟨o,its,n,r,h1,h2,h3⟩
section
variable {X:Cx}
theorem Jq:DB X (.builtin "isinstance") (λxs H Q=>∃ x t T b,xs=[x,.ty T]/\Dm X.K H x t/\W.kitOne X.K t (.type T)=some b/\Q (.bl b) H):=by
 intro pins s σ H xs us Q I r h;obtain ⟨x,t,T,b,rfl,ty,e,q⟩:=h;obtain ⟨u,u',rfl,ru,WK⟩:=vals2 r;obtain rfl:u'=Value.type T:=WK;exact HI I ru ty e λtk=>⟨.bl b,H,I.tok tk,rfl,q⟩
theorem Nk {xs:List V}{its:List Value}{acc:Array Value}(rv:Vals xs its)(hA:ItemsOf (λi v=>its.toArray[its.toArray.size - 1 - i]?=some v) acc its.toArray.size):Vals xs.reverse acc.toList:=by
 have hl:=rv.length;have e:acc.toList=its.reverse:=by
  have hs:acc.size=its.length:=hA.1.trans (by simp);have hA:=hA.2;refine List.ext_getElem? λj=>?_;by_cases hj:j < its.length
  ·have h1:acc[j]?=some (acc[j]'()):=Array.getElem?_eq_getElem ();have h2:=hA j _ h1;rw [List.getElem?_reverse hj];simp only [List.size_toArray,List.getElem?_toArray] at h2;rw [h2];simpa using h1
  ·have h1:acc.toList[j]?=none:=List.getElem?_eq_none (by simp;omega);have h2:its.reverse[j]?=none:=List.getElem?_eq_none (by simp;omega);rw [h1,h2]
 rw [e];exact rv.reverse
end
end KS
namespace L2
open PySem PySem.Spec PyProof.Rows
open PySem.W (CodeHd tabObj TabsAt noTabs mem_of_lookupK)
noncomputable def dE (tabs:List (Addr × Addr))(H:Hp):Prop:=∀ b,H b=none\/(∃ o xs,H b=some (.frz o (.lst xs)))\/(H b=some (.tbl #[])/\b∈tabs.map (·.2))
theorem Se {K:W.Frag}(hK:noTabs K=true){b:Addr}{o:Obj}(e:K.lookup b=some o){ps:Array Value}:o≠tabObj ps:=by
 intro q;have h2:=List.all_eq_true.mp hK (b,o) (mem_of_lookupK e);subst q;exact absurd (show false=true from h2) Bool.false_ne_true
theorem Nl {P:Program}{w:World}{K:W.Frag}{mg mb:Str->Option Value}{CX:Je}{k:Nat}{fa a:Addr}{fd:FuncData}{x:Str}{sp:Sp}{s₁:Shared}{vs:List Value}{ns:List Int}{tabs:List (Addr × Addr)}
  (KX:K.In s₁.heap) (Rj:s₁.heap.Ns mainGlobals mg) (hb:s₁.heap.Ns builtinsNs mb) (zB:∀ x:Str,x≠"__name__"->mb x=bootBuiltins x) (nj:s₁.heap.NoLimit) (hg:s₁.gens=#[])
  (zC:∃ bm ob,mg "__builtins__"=some (.ref bm)/\bm≠builtinsNs/\s₁.heap.get? bm=some ob/\ob.cls=.type "module"/\ob.dict=some builtinsNs/\ob.data=.plain)
  (hT:TabsAt tabs s₁.heap) (hK:noTabs K=true)
  (ha:s₁.heap.get? a=some { cls:=.type "list",data:=.seq vs.toArray }) (hi:IntsAre vs ns) (hl:ns.length<=sizeLine) (hr:Am k callerA)
  (F:∀ base:Heap,K.In base->base.Ns mainGlobals mg->(∀ q∈tabs,M8 base mg q.1 q.2)->Av P w K mg base CX k fa fd [x] sp) (Gy:∀ (s:Shared) (u:Value),BindsTo s fd ⟨[u],[]⟩ [(x,u)])
  (Oi:∀ H:Hp,(∀ q∈tabs,H q.2=some (.tbl #[]))->AO K H a (ns.map V.int)->sp [.ref a] H (λv _=>v=.bl true) λ_ _ _=>False)
  (zD:∀ H e s',CX [] H s₁ (λ_ _ _=>False) e s'->False) :
  codeAny (model P w) callerA (.call (.ref fa) ⟨[.ref a],[]⟩) (λr s'=>r=.ok (.ret (.bool true))/\OldK s₁.heap s'.heap/\s'.os=s₁.os/\AllBare s'.gens) s₁:=by
 have rv:=HS hi;have nq:=hi.length;have tabOf:∀ {b:Addr},b∈tabs.map (·.2)->s₁.heap.get? b=some (tabObj #[]):=λ{b} hm=>by
  obtain ⟨q,hq,e⟩:=List.mem_map.mp hm;rw [<- e];exact (hT q hq).2
 have core:∀ H:Hp,dE tabs H->(∀ q∈tabs,H q.2=some (.tbl #[]))->AO K H a (ns.map V.int)->Dv P w H s₁.heap->(∀ b,H b≠none->b=a\/b∈tabs.map (·.2))->(H a≠none->K.lookup a=none) ->
   codeAny (model P w) callerA (.call (.ref fa) ⟨[.ref a],[]⟩) (λr s'=>r=.ok (.ret (.bool true))/\OldK s₁.heap s'.heap/\s'.os=s₁.os/\AllBare s'.gens) s₁:=by
  intro H hO nt hS hok hA zE;have Gb:∀ {b:Addr} {o:Obj},s₁.heap.get? b=some o->H b=none->(Hm s₁.heap H).get? b=some o:=λe n=>Oq e n;have Wr:∀ {b:Addr} {o:Obj},s₁.heap.get? b=some o->o≠{ cls:=.type "list",data:=.seq vs.toArray }->o≠tabObj #[]->H b=none:=λ{b o} e d1 d2=>by
   cases q:H b with
   | none=>rfl
   | some u =>
    rcases hA b (by rw [q];simp) with e' | e'
    ·subst e';rw [ha] at e;cases e;exact absurd rfl d1
    ·rw [tabOf e'] at e;cases e;exact absurd rfl d2
  have ko:∀ {b:Addr} {m:Str->Option Value},s₁.heap.Ns b m->(Hm s₁.heap H).Ns b m:=λ{b m} ⟨o,es,ep,e,d,r⟩=>⟨o,es,ep,Gb e (Wr e (λz=>by rw [z] at d;cases d) (λz=>by rw [z] at d;cases d)),d,r⟩;have wG:K.In (Hm s₁.heap H):=λb o e=>Gb (KX b o e) (by
   cases q:H b with
   | none=>rfl
   | some u =>
    rcases hA b (by rw [q];simp) with e' | e'
    ·subst e';rw [zE (by rw [q];simp)] at e;cases e
    ·have z:=KX b o e;rw [tabOf e'] at z;exact absurd (Option.some.inj z).symm (Se hK e))
  have hM:Mod K mg (Hm s₁.heap H):=⟨wG,ko Rj,⟨mb,ko hb,zB⟩,let ⟨mc,h1,h2⟩:=nj;⟨mc,ko h1,h2⟩⟩;have e0:Kp P w K mg (Hm s₁.heap H) callerA [] s₁ H:=⟨rfl,hM,λb o e=>Rt e,Nat.le_of_eq (MI _ _),trivial,λb hb=>absurd (show b∈([]:List Addr) from hb) (by simp),hok,.of_eq hg⟩;have hN:∀ q∈tabs,M8 (Hm s₁.heap H) mg q.1 q.2:=λq hq=>by
   refine ⟨?_,?_⟩
   ·obtain ⟨o,zF,file,tf,flags,tg,zG,text,tt,e1,c1,r⟩:=(hT q hq).1;exact ⟨o,zF,file,tf,flags,tg,zG,text,tt,Gb e1 (Wr e1 (λz=>by rw [z] at c1;exact absurd (show Value.type "list"=Value.type "code" from c1) ⟨⟩) (λz=>by rw [z] at c1;cases c1)),c1,r⟩
   ·obtain ⟨bm,ob,b1,b2,b3,b4,b5⟩:=zC;exact ⟨bm,ob,b1,b2,Gb b3 (Wr b3 (λz=>by rw [z] at b4;exact absurd (show Value.type "list"=Value.type "module" from b4) ⟨⟩) (λz=>by rw [z] at b4;cases b4)),b4,b5⟩
  refine codeAny_mono ((F _ wG (ko Rj) hN).run callerA [] s₁ H ⟨[.ref a],[]⟩ [.ref a] [.ref a] _ _ hr e0 (Gy s₁ (.ref a)) (.cons rfl .nil) (Oi H nt hS)) λr s' h=>?_;cases r with
  | error e=>exact (zD H e s' h).elim
  | ok fl =>
   cases fl with
   | next=>exact False.elim h
   | brk=>exact False.elim h
   | cont=>exact False.elim h
   | ret u =>
    obtain ⟨v,H',os,bare,un,dF,r',q⟩:=h;have q':v=.bl true:=q;subst q';obtain rfl:u=Value.bool true:=r';have key:∀ b o,s₁.heap.get? b=some o->s'.heap.get? b=some o\/(b∈tabs.map (·.2)/\o=tabObj #[]/\∃ more,s'.heap.get? b=some (tabObj (#[]++more))):=λb o e=>by
     cases q:H b with
     | none=>exact .inl (un.keep b o e q (by intro z;exact absurd (show b∈([]:List Addr) from z) (by simp)) (by simp))
     | some u =>
      rcases hO b with z | ⟨ob,xs,z⟩ | ⟨z,zm⟩
      ·rw [q] at z;cases z
      ·have z2:=un.aaq b ob _ z;obtain ⟨e1,_⟩:=hok b _ z;obtain ⟨e2,_⟩:=dF b _ z2;rw [e] at e1;cases e1;exact .inl e2
      ·obtain ⟨more,z2⟩:=un.aar b _ z;have e2:s'.heap.get? b=some _:=dF b _ z2;have e1:=tabOf zm;rw [e] at e1;cases e1;exact .inr ⟨zm,rfl,more,e2⟩
    refine ⟨rfl,⟨λb o e=>?_,λb o e=>?_⟩,os,bare⟩
    ·rcases key b o e with z | ⟨zm,rfl,more,z⟩
     ·exact .inl z
     ·obtain ⟨q,hq,e'⟩:=List.mem_map.mp zm;subst e';exact .inr (.inl ⟨((hT q hq).1.tab (hT q hq).2).isCodeTable,rfl,#[],more,rfl,z⟩)
    ·rcases key b o e with z | ⟨_,_,more,z⟩
     ·exact ⟨_,z⟩
     ·exact ⟨_,z⟩
 have dG:∀ q∈tabs,q.2≠a:=λq hq z=>by
  have:=(hT q hq).2;rw [z,ha] at this;cases this
 cases hk:K.lookup a with
 | some o =>
  have e:=KX a o hk;rw [ha] at e;cases e;refine core (λb=>if b∈tabs.map (·.2) then some (.tbl #[]) else none) (λb=>?_) (λq hq=>if_pos (List.mem_map_of_mem hq)) (.inr ⟨_,vs.toArray,_,hk,rfl,rfl,rfl,by rw [List.size_toArray,nq];exact hl,by simpa using rv⟩) (λb u z=>?_) (λb z=>?_) λz=>?_
  ·by_cases hb:b∈tabs.map (·.2)
   ·exact .inr (.inr ⟨if_pos hb,hb⟩)
   ·exact .inl (if_neg hb)
  ·by_cases hb:b∈tabs.map (·.2)
   ·have z':=(if_pos hb).symm.trans z;cases z';exact tabOf hb
   ·have z':=(if_neg hb).symm.trans z;cases z'
  ·by_cases hb:b∈tabs.map (·.2)
   ·exact .inr hb
   ·exact absurd (if_neg hb) z
  ·by_cases hb:a∈tabs.map (·.2)
   ·obtain ⟨q,hq,e'⟩:=List.mem_map.mp hb;exact absurd e' (dG q hq)
   ·exact absurd (if_neg hb) z
 | none =>
  refine core (λb=>if b=a then some (.frz { cls:=.type "list",data:=.seq vs.toArray } (.lst (ns.map V.int))) else if b∈tabs.map (·.2) then some (.tbl #[]) else none) (λb=>?_) (λq hq=>?_)
   (.inl (.inr ⟨{ cls:=.type "list",data:=.seq vs.toArray },if_pos rfl⟩)) (λb u z=>?_) (λb z=>?_) λ_=>hk
  ·by_cases hb:b=a
   ·exact .inr (.inl ⟨_,_,if_pos hb⟩)
   ·by_cases Nm:b∈tabs.map (·.2)
    ·exact .inr (.inr ⟨(if_neg hb).trans (if_pos Nm),Nm⟩)
    ·exact .inl ((if_neg hb).trans (if_neg Nm))
  ·exact (if_neg (dG q hq)).trans (if_pos (List.mem_map_of_mem hq))
  ·by_cases hb:b=a
   ·have z':=(if_pos hb).symm.trans z;cases z';subst hb;exact ⟨ha,by rw [List.length_map];exact hl,vs,_,rv,ha⟩
   ·by_cases Nm:b∈tabs.map (·.2)
    ·have z':=((if_neg hb).trans (if_pos Nm)).symm.trans z;cases z';exact tabOf Nm
    ·have z':=((if_neg hb).trans (if_neg Nm)).symm.trans z;cases z'
  ·by_cases hb:b=a
   ·exact .inl hb
   ·by_cases Nm:b∈tabs.map (·.2)
    ·exact .inr Nm
    ·exact absurd ((if_neg hb).trans (if_neg Nm)) z
noncomputable def Po (K:W.Frag)(n:Nat)(ps:List Addr):Sp:=λvs H Q _=>∃ (a:Addr) (ns:List Int),vs=[.ref a]/\AO K H a (ns.map V.int)/\ns.length<=n/\(∀ p∈ps,H p=some (.tbl #[]))/\∀ H',Q (.bl true) H'
theorem dH {l:W.OpenLaw}{n k:Nat}{q:Program}{loose:List Str}{XP:(Str->Option Value)->Heap->Prop}{YP:World->Heap->Prop}{d:DefRec}{K:Params->W.Frag}{x:Str}
  (hn:l.most=some n) (UZ:n<=sizeLine) (n8:d.params.defaults=[]) (hr:Am k callerA)
  (hY:∀ (w:World) (h:Heap),YP w h->(K w.params).In h)
  (F:∀ (w:World) (mg mb:Str->Option Value) (Sf:ExcName->Option Value) (fa:Addr) (h:Heap),(K w.params).In h->Top q (W.looseW q loose) Sf mg mb h->mg d.name=some (.ref fa) ->
   ∃ (fd:FuncData) (tabs:List (Addr × Addr)),noTabs (K w.params)=true/\TabsAt tabs h/\(∀ (s:Shared) (u:Value),BindsTo s fd ⟨[u],[]⟩ [(x,u)]) /\
    ∀ base:Heap,(K w.params).In base->base.Ns mainGlobals mg->(∀ q∈tabs,M8 base mg q.1 q.2)->Av l.prog w (K w.params) mg base Bs k fa fd [x] (Po (K w.params) n (tabs.map (·.2)))) :
  W.WalkO q loose XP YP l.row.toRowW d [] (λf vs=>PySem.call f vs):=by
 refine wC.aaw hn n8 λw s₀ s₁ mg mb fa o pm cd doc a vs ns G Y ho hd Gj dn WE hints hlen hg=>?_;have KX:=hY w _ Y;obtain ⟨fd,tabs,hK,hT,hb,hF⟩:=F w mg mb _ fa _ KX G.T dn;refine Nl KX G.T.g G.T.b G.T.builtins G.T.nolimit hg G.T.bmain hT hK WE hints (Nat.le_trans hlen UZ) hr hF hb (λH nt hS=>⟨a,ns,rfl,hS,hlen,λp hp=>?_,λ_=>rfl⟩) λH e s' z=>z;obtain ⟨q,hq,e'⟩:=List.mem_map.mp hp;rw [<- e'];exact nt q hq
end L2
namespace L2
open PySem PySem.Spec PyProof.Rows
noncomputable def DN (n0:Heap)(H:Hp)(h:Heap)(b:Addr):Prop:=n0.get? b=none/\H b=none/\∃ o vs,h.get? b=some o/\o.data=.fields vs
structure NK (fr:List Addr)(n0:Heap)(H:Hp)(h h':Heap):Prop where
 keep:∀ b o,h.get? b=some o->b∉fr->¬ DN n0 H h b->h'.get? b=some o
 slot:∀ b o,h.get? b=some o->(∀ vs,o.data≠.fields vs)->∃ sl,h'.get? b=some { o with slots:=sl }
 there:∀ b o,h.get? b=some o->∃ o',h'.get? b=some o'
 size:h.objs.size<=h'.objs.size
structure Fl (n0:Heap)(H:Hp)(a:Addr)(cls:Value)(h:Heap)(z:Option Value)(dz:Option Addr)(c:Bool):Prop where
 new:n0.get? a=none
 un:H a=none
 ob:∃ oe vs,h.get? a=some oe/\oe.cls=cls/\oe.data=.fields vs/\1 < vs.size/\oe.dict=dz/\(c=true->vs[2]?=some .none)/\match z with
  | none=>vs[1]?=some .none
  | some z=>∃ T oT ts,vs[1]?=some (.ref T)/\n0.get? T=none/\H T=none/\T≠a/\h.get? T=some oT/\oT.data=.fields ts/\ts[3]?=some z
section
variable {fr:List Addr}{n0:Heap}{H:Hp}{h h1 h2:Heap}{a:Addr}{cls:Value}{z:Option Value}
theorem NK.refl:NK fr n0 H h h:=⟨λ_ _ e _ _=>e,λ_ o e _=>⟨o.slots,e⟩,λ_ o e=>⟨o,e⟩,Nat.le_refl _⟩
theorem NK.trans (x:NK fr n0 H h h1)(y:NK fr n0 H h1 h2)(hr:∀ b o,h.get? b=some o->b∉fr->¬ DN n0 H h b->¬ DN n0 H h1 b):NK fr n0 H h h2 :=
 ⟨λb o e n m=>y.keep b o (x.keep b o e n m) n (hr b o e n m),λb o e d=>by
  obtain ⟨sl,e1⟩:=x.slot b o e d;obtain ⟨k8,e2⟩:=y.slot b _ e1 d;exact ⟨k8,e2⟩,λb o e=>let ⟨o1,e1⟩:=x.there b o e;y.there b o1 e1,Nat.le_trans x.size y.size⟩
theorem NK.trans' (x:NK fr n0 H h h1)(y:NK fr n0 H h1 h2):NK fr n0 H h h2:=x.trans y λb o e n m z=>by
 have e1:=x.keep b o e n m;obtain ⟨z1,z2,o',vs,e2,d⟩:=z;rw [e1] at e2;cases e2;exact m ⟨z1,z2,o,vs,e,d⟩
end
theorem Gz (o:Obj)(f):(o.mapFields f).dict=o.dict:=by
 obtain ⟨c,d,dt,sl⟩:=o;cases dt <;> rfl
section
variable {M:Model}{A:Around}{E:Value->Shared->Prop}{s:Shared}{env:Env}{outer:List Env}{L a:Addr}{cls:Value}{n0:Heap}{H:Hp}{base:Heap}{Q:Unit->Shared->Prop}{dz:Option Addr}{c:Bool}
theorem GA {head:Value}{Sg:Bool}{oe:Obj}{vs:Array Value}(bj:A.frames=some (env::outer))(hl:s.heap.FunFrames base (env::outer))(hf:env.frame=some L)(hn:∀ b,s.heap.objs.size<=b->n0.get? b=none)(hH:∀ b,s.heap.objs.size<=b->H b=none)
  (ha:n0.get? a=none) (V6:H a=none) (he:s.heap.get? a=some oe) (hc:oe.cls=cls) (hd:oe.data=.fields vs) (hsz:1 < vs.size) (hz:oe.dict=dz) (WL:c=true->vs[2]?=some .none)
  (h:∀ h',NK (F7 (env::outer)) n0 H s.heap h'->Fl n0 H a cls h' (some (rawInt L)) dz c->Q .unit { s with heap:=h' }) :
  wpAny M A (do let f <- frameOf env;let pl <- entryPlaceOf L Sg;let b <- EntryCells.newEntry head f .none (rawInt L) .none pl;setField (.ref a) 1 b) Q E s:=by
 have nu:a∉(env::outer).filterMap (·.frame):=λhm=>by
  obtain ⟨_,o,ho,WM⟩:=hl.mem hm;rw [he] at ho;cases ho;exact WM vs hd
 refine wpAny_bind (wpAny_frameOf_fun bj hl hf λh₁ hs₁=>?_);refine wpAny_bind (wpAny_entryPlaceOf λpl CO=>?_);unfold EntryCells.newEntry newFields;refine wpAny_bind (wpAny_newObj_type ?_ (CO.sizeOk5 _ _ _ _ _));have he₁:h₁.get? a=some oe:=(hs₁.2.1 a nu).trans he;have he₂:=Heap.get?_push_of_some (h:=h₁) { cls:=.type "traceback",dict:=none,data:=.fields ([head,.ref L,.none,rawInt L,.none]++(if pl.isEmpty then List.replicate 6 Value.none else pl)).toArray } he₁
 refine wpAny_setField he₂ hd hsz ?_;have V7:h₁.objs.size≠a:=Nat.ne_of_gt (Heap.lt_size he₁);have hd₃:=Obj.data_mapFields hd (·.setIfInBounds 1 (Value.ref h₁.objs.size));have he₃:=Heap.get?_update_self (Obj.mapFields (·.setIfInBounds 1 (Value.ref h₁.objs.size))) he₂ (Obj.isFreed_of_fields hd₃);have hT₃:=(Heap.get?_update_other (h₁.push { cls:=.type "traceback",dict:=none,data:=.fields ([head,.ref L,.none,rawInt L,.none]++(if pl.isEmpty then List.replicate 6 Value.none else pl)).toArray })
  (Obj.mapFields (·.setIfInBounds 1 (Value.ref h₁.objs.size))) (Ne.symm V7)).trans (Heap.get?_push_size h₁ rfl)
 have keep:∀ b o,b≠a->h₁.get? b=some o->((h₁.push { cls:=.type "traceback",dict:=none,data:=.fields ([head,.ref L,.none,rawInt L,.none]++(if pl.isEmpty then List.replicate 6 Value.none else pl)).toArray }).update a (Obj.mapFields (·.setIfInBounds 1 (Value.ref h₁.objs.size)))).get? b=some o:=λb o hb e=>by
  rw [Heap.get?_update_other _ _ (Ne.symm hb)];exact Heap.get?_push_of_some _ e
 refine h _ ⟨λb o e n m=>?_,λb o e d=>?_,λb o e=>?_,?_⟩ ⟨ha,V6,_,_,he₃,(Obj.cls_mapFields ..).trans hc,hd₃,by simpa using hsz,(Gz ..).trans hz,(λq=>by rw [Array.getElem?_setIfInBounds,if_neg ⟨⟩];exact WL q),h₁.objs.size,_,_,by simp [hsz],hn _ (by rw [hs₁.1];exact Nat.le_refl _),hH _ (by rw [hs₁.1];exact Nat.le_refl _),V7,hT₃,rfl,by simp⟩
 ·refine keep b o (λz=>m ?_) ((hs₁.2.1 b n).trans e);subst z;exact ⟨ha,V6,oe,vs,he,hd⟩
 ·obtain ⟨sl,e1⟩:=hs₁.2.2 b o e;refine ⟨sl,keep b _ (λz=>?_) e1⟩;subst z;rw [he] at e;cases e;exact d vs hd
 ·obtain ⟨sl,e1⟩:=hs₁.2.2 b o e;by_cases z:b=a
  ·subst z;exact ⟨_,he₃⟩
  ·exact ⟨_,keep b _ z e1⟩
 ·rw [Heap.size_after_update,Heap.size_push,hs₁.1];omega
theorem IC {z:Option Value}(bj:A.frames=some (env::outer))(hl:s.heap.FunFrames base (env::outer))(hf:env.frame=some L)(hn:∀ b,s.heap.objs.size<=b->n0.get? b=none)(hH:∀ b,s.heap.objs.size<=b->H b=none)(x:Fl n0 H a cls s.heap z dz c)
  (h:∀ h',NK (F7 (env::outer)) n0 H s.heap h'->Fl n0 H a cls h' (some (rawInt L)) dz c->Q .unit { s with heap:=h' }):wpAny M A (noteFrame (.ref a) env) Q E s:=by
 obtain ⟨ha,V6,oe,vs,he,hc,hd,hsz,dI,WL,hz⟩:=x;unfold noteFrame;simp only [hf];cases z with
 | none =>
  refine wpAny_bind (wpAny_field he hd hz ?_);rw [if_neg ⟨⟩];exact GA bj hl hf hn hH ha V6 he hc hd hsz dI WL h
 | some z =>
  obtain ⟨T,oT,ts,h1,dJ,dM,V7,hT,Oj,h3⟩:=hz;refine wpAny_bind (wpAny_field he hd h1 ?_);rw [if_pos (show (Value.ref T != Value.none)=true from by simp)];refine wpAny_bind (wpAny_field hT Oj h3 ?_);by_cases nv:(z==rawInt L)=true
  ·rw [if_pos nv];have e:z=rawInt L:=eq_of_beq nv;subst e;exact wpAny_pure (h _ .refl ⟨ha,V6,oe,vs,he,hc,hd,hsz,dI,WL,T,oT,ts,h1,dJ,dM,V7,hT,Oj,h3⟩)
  ·rw [if_neg nv];refine wpAny_bind (wpAny_setField hT Oj (Array.getElem?_eq_some_iff.mp h3).1 ?_);have other:∀ b,b≠T->(s.heap.update T (Obj.mapFields (·.setIfInBounds 3 Value.none))).get? b=s.heap.get? b:=λb hb=>Heap.get?_update_other _ _ (Ne.symm hb);have Fh:∀ b o,s.heap.get? b=some o->(∀ vs,o.data≠.fields vs)->b≠T:=λb o hb WM q=>by
    rw [q,hT] at hb;cases hb;exact WM ts Oj
   have hs:(s.heap.update T (Obj.mapFields (·.setIfInBounds 3 Value.none))).objs.size=s.heap.objs.size:=Heap.size_after_update ..;refine GA (s:={ s with heap:=s.heap.update T (Obj.mapFields (·.setIfInBounds 3 Value.none)) }) (base:=base) bj (hl.of_keeps λb o hb WM=>⟨o,(other b (Fh b o hb WM)).trans hb,rfl⟩) hf (λb hb=>hn b (by rw [hs] at hb;exact hb)) (λb hb=>hH b (by rw [hs] at hb;exact hb)) ha V6 ((other a (Ne.symm V7)).trans he) hc hd hsz dI WL λh' nk fl=>?_;have zH:NK (F7 (env::outer)) n0 H s.heap (s.heap.update T (Obj.mapFields (·.setIfInBounds 3 Value.none))):=by
    refine ⟨λb o e n m=>(other b λz=>m ?_).trans e,λb o e d=>⟨o.slots,(other b (Fh b o e d)).trans e⟩,λb o e=>?_,Nat.le_of_eq hs.symm⟩
    ·subst z;exact ⟨dJ,dM,oT,ts,hT,Oj⟩
    ·by_cases z:b=T
     ·subst z;exact ⟨_,Heap.get?_update_self _ hT (Obj.isFreed_of_fields (Obj.data_mapFields Oj _))⟩
     ·exact ⟨o,(other b z).trans e⟩
   exact h h' (zH.trans' nk) fl
theorem Cd {z:Value}{w:Option Addr}(x:Fl n0 H a cls s.heap (some z) dz c)(h:∀ h',NK (F7 (env::outer)) n0 H s.heap h'->Fl n0 H a cls h' (some (w.elim .none λf=>rawInt f)) dz c->Q .unit { s with heap:=h' }):wpAny M A (setFlight (.ref a) w) Q E s:=by
 obtain ⟨ha,V6,oe,vs,he,hc,hd,hsz,dI,WL,T,oT,ts,h1,dJ,dM,V7,hT,Oj,h3⟩:=x;have WN:=(Array.getElem?_eq_some_iff.mp h3).1;unfold setFlight;refine wpAny_bind (wpAny_field he hd h1 ?_);rw [if_pos (show (Value.ref T != Value.none)=true from by simp)];refine wpAny_setField hT Oj WN ?_;have other:∀ b,b≠T->(s.heap.update T (Obj.mapFields (·.setIfInBounds 3 (w.elim .none λf=>rawInt f)))).get? b=s.heap.get? b:=λb hb=>Heap.get?_update_other _ _ (Ne.symm hb);have Fh:∀ b o,s.heap.get? b=some o->(∀ vs,o.data≠.fields vs)->b≠T:=λb o hb WM q=>by
  rw [q,hT] at hb;cases hb;exact WM ts Oj
 have k9:=Heap.get?_update_self (Obj.mapFields (·.setIfInBounds 3 (w.elim .none λf=>rawInt f))) hT (Obj.isFreed_of_fields (Obj.data_mapFields Oj _));refine h _ ⟨λb o e n m=>(other b λz=>m ?_).trans e,λb o e d=>⟨o.slots,(other b (Fh b o e d)).trans e⟩,λb o e=>?_,Nat.le_of_eq (Heap.size_after_update ..).symm⟩ ⟨ha,V6,oe,vs,(other a (Ne.symm V7)).trans he,hc,hd,hsz,dI,WL,T,_,_,h1,dJ,dM,V7,k9,Obj.data_mapFields Oj _,by simp [WN]⟩
 ·subst z;exact ⟨dJ,dM,oT,ts,hT,Oj⟩
 ·by_cases z:b=T
  ·subst z;exact ⟨_,k9⟩
  ·exact ⟨o,(other b z).trans e⟩
end
open KS
structure SE (X:Cx)(e:Expr)(t:TE):Prop where out:PE X e t
structure ST (X:Cx)(e:Expr)(t:TT):Prop where out:PT X e t
structure SW (X:Cx)(e:Expr)(t:TT):Prop where out:PW X e t
structure SA (X:Cx)(es:List Expr)(t:TA):Prop where out:PA X es t
structure SS (X:Cx)(st:Stmt)(t:TS):Prop where out:PS X st t
structure SB (X:Cx)(st:List Stmt)(t:TS):Prop where out:LF X st t
structure SG (X:Cx)(tg:Expr)(g:TG):Prop where out:PG X tg g
structure SI (X:Cx)(tg iter:Expr)(wi:TI):Prop where out:PI X tg iter wi
structure SF (X:Cx)(ifs:List Expr)(t:TT):Prop where out:bh X ifs t
structure SO (X:Cx)(e:Option Expr)(t:TO):Prop where out:PO X e t
structure SD (X:Cx)(pos:Pos)(keys:List (Option Expr))(values:List Expr)(HR:List (TE × TE)):Prop where out:dj X pos keys values HR
section
variable {env:Env}{es:List Expr}
theorem CQ {c k p}:starEach (.Constant c k p::es) env=(false,eval (.Constant c k p) env)::starEach es env:=rfl
theorem CT {a o b p}:starEach (.BinOp a o b p::es) env=(false,eval (.BinOp a o b p) env)::starEach es env:=rfl
theorem CU {a k p}:starEach (.Tuple a k p::es) env=(false,eval (.Tuple a k p) env)::starEach es env:=rfl
theorem C3 {a b c p}:starEach (.Call a b c p::es) env=(false,eval (.Call a b c p) env)::starEach es env:=rfl
theorem C4 {a p}:starEach (.Name a p::es) env=(false,eval (.Name a p) env)::starEach es env:=rfl
theorem CV {a b p}:starEach (.Subscript a b p::es) env=(false,eval (.Subscript a b p) env)::starEach es env:=rfl
theorem E3 {a b c p}:starEach (.ListComp a b c p::es) env=(false,eval (.ListComp a b c p) env)::starEach es env:=rfl
end
section
variable {X:Cx}
theorem Ah (i:Nat){x:Str}{pos:Pos}(hN:X.N[i]?=some x:=by rfl)(hv:b8 X.env.scope x:=by first | exact Or.inl rfl | exact Or.inr (.inl rfl) | exact Or.inr (.inr rfl))(hd:(x==("__debug__":Str))=false:=by decide)
  (Gj:(x==("__classdict__":Str))=false:=by decide):SE X (.Name x pos) (Bt i):=⟨Ov hN hv hd Gj⟩
theorem Aq {i j pos}:SE X (.Constant (.int i) j pos) (tC (.int i)):=⟨CP⟩
theorem KA {b j pos}:SE X (.Constant (.bool b) j pos) (tC (.bl b)):=⟨cE⟩
theorem GC {j pos}:SE X (.Constant .none j pos) (tC .non):=⟨VL⟩
theorem Aw {x j pos}:SE X (.Constant (.str x) j pos) (tC (.str x)):=⟨Ow⟩
theorem Pp {x:Str}{v:V}{u:Value}{pos:Pos}(hg:Gl X x)(hm:X.mg x=none)(hv:bootBuiltins x=some u)(r:RelV v u)(hn:x≠"__name__":=by decide)(hd:(x==("__debug__":Str))=false:=by decide):SE X (.Name x pos) (tC v):=⟨Rx hg hm hv r hn hd⟩
variable {a b c e o:Expr}{es:List Expr}{ta tb te to ti tx:TE}{tA Ry:TT}{t:TA}{pos apos AR p:Pos}{rest:List Expr}
theorem BG {r:R2}(hr:kg X r)(ha:SE X a ta)(hb:SE X b tb)(hs:LY b):SE X (.Subscript a b pos) (Kj r ta tb):=⟨V2 hr ha.out hb.out hs⟩
theorem eI (i:Nat){x:Str}{p p2:Pos}{j:Int}{k}(hN:X.N[i]?=some x:=by rfl)(hv:b8 X.env.scope x:=by first | exact Or.inl rfl | exact Or.inr (.inl rfl) | exact Or.inr (.inr rfl))(hd:(x==("__debug__":Str))=false:=by decide)(Gj:(x==("__classdict__":Str))=false:=by decide):SE X (.Subscript (.Name x p) (.Constant (.int j) k p2) pos) (Kj (Iu X.K) (Bt i) (tC (.int j))):=BG FC (Ah i hN hv hd Gj) Aq D1
theorem Pq (h:SE X e te):SO X (some e) (P1 te):=⟨RP h.out⟩
theorem Sh {lo hi:Option Expr}{tl th:TO}{p2:Pos}{r:V->Option Int->Option Int->Hp->VK->Prop}(hr:kf X r)(he:SE X e te)(hl:SO X lo tl)(hu:SO X hi th):SE X (.Subscript e (.Slice lo hi none p2) pos) (mz r te tl th):=⟨P2 hr he.out hl.out hu.out⟩
theorem HW {op:CmpOp}{r:R2}(ho:Fw X (compareOp op) r)(ha:SE X a ta)(hb:SE X b tb)(hm:behindInMarks op b=false):SE X (.Compare a [op] [b] pos) (Kj r ta tb):=⟨RL ho ha.out hb.out hm⟩
theorem B1 {op:CmpOp}{r:R2}(ho:Fw X (compareOp op) r)(ha:SE X a ta)(hb:SE X b tb)(hm:behindInMarks op b=false):ST X (.Compare a [op] [b] pos) (OS (Kj r ta tb)):=⟨RM ho ha.out hb.out hm⟩
theorem Jr (h:SE X e te)(he:∀ whole,isTrue e X.env whole=(do let v <- whole;standAt e.pos;holding [v] (truthy v)):=by intro _;rfl):ST X e (tB te):=⟨VM h.out he⟩
theorem C5 (ha:SE X a ta)(he:∀ whole,isTrue a X.env whole=(do let v <- whole;standAt a.pos;holding [v] (truthy v)):=by intro _;rfl):ST X a (fun σ H Q=>ta σ H λx H'=>∃ k,Wb X.K x H' k/\Q k H'):=⟨Jd ha.out he⟩
theorem V8 (ha:ST X a tA):ST X (.UnaryOp .Not a pos) (cG tA):=⟨VQ ha.out⟩
theorem GD (ha:ST X a tA):SW X (.BoolOp .And [a] pos) tA:=⟨Rz ha.out⟩
theorem V9 (ha:ST X a tA):SW X (.BoolOp .Or [a] pos) tA:=⟨VO ha.out⟩
theorem w_and (ha:ST X a tA)(hb:SW X (.BoolOp .And (b::rest) pos) Ry):SW X (.BoolOp .And (a::b::rest) pos) (VN tA Ry):=⟨VP ha.out hb.out⟩
theorem w_or (ha:ST X a tA)(hb:SW X (.BoolOp .Or (b::rest) pos) Ry):SW X (.BoolOp .Or (a::b::rest) pos) (m8 tA Ry):=⟨cH ha.out hb.out⟩
theorem WO (h:SW X e tA):ST X e tA:=⟨PW.pt h.out⟩
theorem Va {op}(h:SE X a ta):SE X (.BoolOp op [a] pos) ta:=⟨VR h.out⟩
theorem Vb (ha:SE X a ta)(hb:SE X (.BoolOp .And (b::rest) pos) tb):SE X (.BoolOp .And (a::b::rest) pos) (Oz ta tb):=⟨VS ha.out hb.out⟩
theorem dN (ha:SE X a ta):SE X (.UnaryOp .Not a pos) (OB ta):=⟨VT ha.out⟩
theorem KC (hc:ST X c tA)(ha:SE X a ta)(hb:SE X b tb):SE X (.IfExp c a b pos) (m9 tA ta tb):=⟨OD hc.out ha.out hb.out⟩
theorem AX {op:Operator}{r:R2}(ho:Fw X (binaryOp op) r)(ha:SE X a ta)(hb:SE X b tb):SE X (.BinOp a op b pos) (Kj r ta tb):=⟨E1 ho ha.out hb.out⟩
theorem Ae:SA X [] Dp:=⟨Iq⟩
theorem Aa (ha:SE X e te)(hr:SA X es t)(hs:starEach (e::es) X.env=(false,eval e X.env)::starEach es X.env:=by first | exact CQ | exact C4 | exact C3 | exact CT | exact CU | exact CV | exact E3 | rfl):SA X (e::es) (Cb te t):=⟨Fb ha.out hr.out hs⟩
theorem Bi {x1}(h:SA X es t):SE X (.Tuple es x1 pos) (MV t):=⟨Wm h.out⟩
theorem AU (h:SA X es t):SE X (.List es pos) (Wk t):=⟨Wn h.out⟩
variable {k:Nat}{f:Addr}{fd:FuncData}{ps:List Str}{sp:Sp}{x:Str}
theorem WQ (F:Av X.prog X.w X.K X.mg X.base Bs k f fd ps sp)(hr:Am k X.A)(hg:Gl X x)(hm:X.mg x=some (.ref f))(hk:W.keepIn X.K (.ref f)=true)(hb:Binds X.K fd ps [])(ha:SA X (e::es) t)(Cr:(x==("__debug__":Str))=false:=by decide)
  (he:starEach (e::es) X.env=(false,eval e X.env)::starEach es X.env:=by first | exact CQ | exact C4 | exact C3 | exact CT | exact CU | exact CV | exact E3 | rfl) (CO:(backTo pos (starEach es X.env)).any (·.1)=false:=by rfl) :
  SE X (.Call (.Name x p) (e::es) [] pos) (EG sp [] E0 t):=⟨LQ F hr hg hm hk hb .nil Jp ha.out Cr he CO⟩
theorem C6 {id:String}{r:List V->Hp->VK->Prop}(hc:DB X (.builtin id) r)(hg:Gl X x)(hm:X.mg x=none)(hv:bootBuiltins x=some (.builtin id))(ha:SA X (e::es) t)(hn:x≠"__name__":=by decide)(Cr:(x==("__debug__":Str))=false:=by decide)
  (he:starEach (e::es) X.env=(false,eval e X.env)::starEach es X.env:=by first | exact CQ | exact C4 | exact C3 | exact CT | exact CU | exact CV | exact E3 | rfl) (CO:(backTo pos (starEach es X.env)).any (·.1)=false:=by rfl):SE X (.Call (.Name x p) (e::es) [] pos) (cY r t):=⟨Jh hc hg hm hv ha.out hn Cr he CO⟩
theorem Dd {T:String}{r:List V->Hp->VK->Prop}(hc:DB X (.type T) r)(hg:Gl X x)(hm:X.mg x=none)(hv:bootBuiltins x=some (.type T))(ha:SA X (e::es) t)(hn:x≠"__name__":=by decide)(Cr:(x==("__debug__":Str))=false:=by decide)
  (he:starEach (e::es) X.env=(false,eval e X.env)::starEach es X.env:=by first | exact CQ | exact C4 | exact C3 | exact CT | exact CU | exact CV | exact E3 | rfl) (CO:(backTo pos (starEach es X.env)).any (·.1)=false:=by rfl):SE X (.Call (.Name x p) (e::es) [] pos) (cY r t):=⟨MY hc hg hm hv ha.out hn Cr he CO⟩
theorem Ed {T id:String}{name:Str}{r:V->List V->Hp->VK->Prop}(pa:PlainAttrs T)(slot:Slot T name id)(Wz:typeOf (.builtin id)=pure (.type "method_descriptor"))(hm:kh X id r)(ho:SE X o to)
  (BM:attributeBase o name X.env (eval o X.env)=eval o X.env:=by rfl) (Gu:(apos.endLine==AR.line)=true:=by rfl):SE X (.Call (.Attribute o name apos) [] [] AR) (Wx X.K T r to):=⟨Wy pa slot Wz hm ho.out BM Gu⟩
theorem EV {T id:String}{name:Str}{r:V->List V->Hp->VK->Prop}(pa:PlainAttrs T)(slot:Slot T name id)(Wz:typeOf (.builtin id)=pure (.type "method_descriptor"))(hm:kh X id r)(ho:SE X o to)(ha:SA X (e::es) t)
  (BM:attributeBase o name X.env (eval o X.env)=eval o X.env:=by rfl)
  (WA:((backTo AR (starEach (e::es) X.env)).all (λx=>!x.1) && (backToKw AR (keywordEach [] X.env)).all (λx=>x.1.isSome)
   && decide ((e::es).length+([]:List Keyword).length+(if ([]:List Keyword).isEmpty then 0 else 1) < 30))=true:=by rfl)
  (Gu:(apos.endLine==AR.line)=true:=by rfl) (hs:starEach (e::es) X.env=(false,eval e X.env)::starEach es X.env:=by first | exact CQ | exact C4 | exact C3 | exact CT | exact CU | exact CV | exact E3 | rfl) (ES:(backTo AR (starEach es X.env)).any (·.1)=false:=by rfl) :
  SE X (.Call (.Attribute o name apos) (e::es) [] AR) (mD X.K T r to t):=⟨dc pa slot Wz hm ho.out ha.out BM WA Gu hs ES⟩
theorem Mb {f:Expr}(hu:X.A.units+1 < cLine)(ho:SE X o to)(he:SE X e te)(hf:SE X f tx)(m:M2 X o "get" apos e f AR):SE X (.Call (.Attribute o "get" apos) [e,f] [] AR) (IB to te tx):=⟨Pf hu ho.out he.out hf.out m⟩
theorem KD {i:Expr}(hu:X.A.units+1 < cLine)(ho:SE X o to)(hi:SE X i ti)(hs:Kw i):SE X (.Subscript o i pos) (M6 to ti):=⟨RV hu ho.out hi.out hs⟩
theorem Ee:SE X (.Dict [] [] pos) Pb:=⟨Pc⟩
theorem Js:SD X pos [] [] []:=⟨RX⟩
theorem Ef {k v:Expr}{ks:List (Option Expr)}{vs:List Expr}{tk tv:TE}{HR:List (TE × TE)}(hk:SE X k tk)(hv:SE X v tv)(hr:SD X pos ks vs HR):SD X pos (some k::ks) (v::vs) ((tk,tv)::HR):=⟨Pd hk.out hv.out hr.out⟩
theorem GG {keys:List (Option Expr)}{values:List Expr}{HR:List (TE × TE)}(h:SD X pos keys values HR)(Kx:keys.all (·.isSome)=true)(hl:keys.length=values.length)(h0:keys≠[])(mV:keys.length<=15):SE X (.Dict keys values pos) (Pe HR):=⟨RY h.out Kx hl h0 mV⟩
theorem BN:SB X [] LG:=⟨LH⟩
variable {st:Stmt}{wH:List Stmt}{ts tu:TS}
theorem Ag (h1:SS X st ts)(h2:SB X wH tu):SB X (st::wH) (Ja ts tu):=⟨F9 h1.out h2.out⟩
theorem Aj (h1:SS X st ts):SB X [st] ts:=⟨G7 h1.out⟩
theorem Ap (he:SE X e te)(hs:swapsWith e none pos.line X.env=pure false:=by rfl):SS X (.Expr e pos) (LI te):=⟨RA he.out hs⟩
theorem B9 (he:SE X e te):SS X (.Return (some e) pos) (VU te):=⟨Io he.out⟩
theorem BY {a b:List Stmt}(hc:ST X c tA)(ha:SB X a ts)(hb:SB X b tu):SS X (.If c a b pos) (RB tA ts tu):=⟨US hc.out ha.out hb.out⟩
theorem Au {i:Nat}{pos':Pos}(hN:X.N.Nodup)(hi:X.N[i]?=some x)(hx:Loc X.env.scope x)(he:SE X e te)(hs:swapsWith e (some (.Name x pos')) pos.line X.env=pure false:=by rfl)(hf:X.fn x=true\/X.env.scope.names.lookup x=some .local:=by first | exact .inl rfl | exact .inr rfl | assumption):
  SS X (.Assign [.Name x pos'] e pos) (MK te (CA i)):=⟨Kg hN hi hx he.out hs hf⟩
theorem DO {i value:Expr}{tv:TE}{pos':Pos}(hu:X.A.units+1 < cLine)(ho:SE X o to)(hi:SE X i ti)(hv:SE X value tv)(hs:swapsWith value (some (.Subscript o i pos')) pos.line X.env=pure false):SS X (.Assign [.Subscript o i pos'] value pos) (Pa to ti tv):=⟨RW hu ho.out hi.out hv.out hs⟩
theorem D2 {body:List Stmt}(hp:PassesOwn (model X.prog X.w) X.A X.env X.xe)(hc:ST X c tA)(hb:SB X body ts):SS X (.While c body [] pos) (OI tA ts):=⟨OJ hp hc.out hb.out⟩
variable {tg iter:Expr}{wi:TI}{g:TG}
theorem HX {body:List Stmt}(hp:PassesOwn (model X.prog X.w) X.A X.env X.xe)(hc:X.calm=true)(hi:SI X tg iter wi)(hg:SG X tg g)(hb:SB X body ts)(hs:∀ x,foldedSetIterable iter X.env x=pure x:=by intro _;rfl):SS X (.For tg iter body [] pos) (RI wi g ts):=⟨W4 hp hc hi.out hg.out hb.out hs⟩
theorem EW (hl:SE X e te):SI X tg e (UT X.K te):=⟨RH hl.out⟩
theorem Pt (hl:SE X e te):SI X tg e (W0 X.K te):=⟨W2 hl.out⟩
theorem Pu {ta:TA}(hg:Gl X "range")(hm:X.mg "range"=none)(ha:SA X [a] ta)(hs:starEach [a] X.env=[(false,eval a X.env)]:=by rfl):SI X tg (.Call (.Name "range" p) [a] [] pos) (OL ta):=⟨MM hg hm ha.out hs⟩
theorem Pw {ta:TA}(hg:Gl X "range")(hm:X.mg "range"=none)(ha:SA X [a,b] ta)(hs:starEach [a,b] X.env=[(false,eval a X.env),(false,eval b X.env)]:=by rfl)(W3:starEach [b] X.env=[(false,eval b X.env)]:=by rfl):SI X tg (.Call (.Name "range" p) [a,b] [] pos) (OM ta):=⟨MO hg hm ha.out hs W3⟩
theorem dO {ta:TA}(hg:Gl X "reversed")(hm:X.mg "reversed"=none)(ha:SA X [a] ta)(hs:starEach [a] X.env=[(false,eval a X.env)]:=by rfl):SI X tg (.Call (.Name "reversed" p) [a] [] pos) (WI X.K ta):=⟨WJ hg hm ha.out hs⟩
theorem Br {i:Nat}(hN:X.N.Nodup)(hi:X.N[i]?=some x)(hx:Loc X.env.scope x)(hf:X.fn x=true\/X.env.scope.names.lookup x=some .local:=by first | exact .inl rfl | exact .inr rfl | assumption):SG X (.Name x pos) (CA i):=⟨RD hN hi hx hf⟩
theorem Fi:SF X [] Hu:=⟨S6⟩
theorem dP (h:ST X c tA):SF X [c] tA:=⟨S7 h.out⟩
variable {scope:Scope}{cl:List (Str × Addr)}{own fr:List Str}{js:List Nat}{elt:Expr}{ifs:List Expr}{tt:TT}
theorem EX (S:Bj X scope cl own fr js)(EK:X.calm=true)(hi:SI X tg iter wi)(hg:∀ C s0 H0 ex,SG (X.cmp scope cl own fr C s0 H0 ex) tg g)(ht:∀ C s0 H0 ex,SF (X.cmp scope cl own fr C s0 H0 ex) ifs tt)(he:∀ C s0 H0 ex,SE (X.cmp scope cl own fr C s0 H0 ex) elt te)
  (hs:∀ x,foldedSetIterable iter X.env x=pure x:=by intro _;rfl):SE X (.ListComp elt [⟨tg,iter,ifs,0⟩] scope pos) (Pj own js wi g tt te):=⟨S9 S EK hi.out (λC s0 H0 ex=>(hg C s0 H0 ex).out) (λC s0 H0 ex=>(ht C s0 H0 ex).out) (λC s0 H0 ex=>(he C s0 H0 ex).out) hs⟩
end
section
variable {P:Program}{w:World}{K:W.Frag}{mg:Str->Option Value}{base:Heap}
theorem B'.okS {x qual:Str}{st:Stmt}{f:Addr}{fd:FuncData}{N ps:List Str}{k:Nat}{sp:Sp}(F:B' K x qual st f fd)(S:Ak N ps (Af st))(len:∀ vs H Q E,sp vs H Q E->vs.length=ps.length)
  (Fc:∀ (B7:Value) (A:Around) (outer:List Env) (s:Shared) (H:Hp) (vs:List V) (Q:VK) (E:XK),Am k (A.deeper (envOfC qual (Af st) s.heap.objs.size f B7))->sp vs H Q E ->
   ∃ t,SB (CB Bs P w K mg base N qual (Af st) f B7 A outer s H E).nox (Az st) t/\t { nx:=λ_ H'=>Q .non H',rt:=Q } (start N vs) H):Av P w K mg base Bs (k+1) f fd ps sp :=
 F.ok S len λB7 A outer s H vs Q E hr h=>let ⟨t,h1,h2⟩:=Fc B7 A outer s H vs Q E hr h;⟨t,h1.out,h2⟩
end
end L2
namespace L2
open PySem PySem.Spec PyProof.Rows
section
variable {X:Cx}{pins:List (Addr × Obj)}{σ:List (Option V)}{H H':Hp}{s:Shared}{h':Heap}
theorem Inv.abn {g':Array GenState}{t':Nat}{d':Drawn}{ch:List Addr}(I:Inv X pins σ H s)
  (Hn:∀ b∈ch,(b∈X.ex\/X.s₀.heap.get? b=none)/\b≠X.env.locals/\(∀ x c,X.env.cells.lookup x=some c->c≠b)/\∀ p∈X.pn++pins,p.1≠b)
  (keep:∀ b o,b≠X.env.locals->b∉X.fs->b∉ch->s.heap.get? b=some o->H b=none->h'.get? b=some o)
  (slot:∀ b o,b≠X.env.locals->b∈X.fs->b∉ch->s.heap.get? b=some o->H b=none->∃ sl,h'.get? b=some { o with slots:=sl }) (free:∀ b o,b∉ch->s.heap.get? b=some o->H b=none->H' b=none)
  (there:∀ b o,b∉ch->s.heap.get? b=some o->∃ o',h'.get? b=some o')
  (aas:∀ b xs,H b=some (.tup xs)->H' b=some (.tup xs)) (aaq:∀ b o u,H b=some (.frz o u)->H' b=some (.frz o u)) (aar:∀ b ps,H b=some (.tbl ps)->∃ more,H' b=some (.tbl (ps++more)))
  (ns:∀ m,s.heap.Ns X.env.locals m->h'.Ns X.env.locals m) (hok:Dv X.prog X.w H' h') (hg:AllBare g') :
  Inv X pins σ H' { s with heap:=h',gens:=g',drawn:=d',toks:=t' }:=by
 have Ru:∀ b o,X.s₀.heap.get? b=some o->b≠X.env.locals:=λb o e=>Nat.ne_of_lt (Nat.lt_of_lt_of_le (Heap.lt_size e) I.ok.above);have Rv:∀ b o,X.s₀.heap.get? b=some o->b∉X.ex->b∉ch:=λb o e hx hb=>by
  rcases (Hn b hb).1 with z | z
  ·exact hx z
  ·rw [e] at z;cases z
 have cellK:∀ x c,X.env.cells.lookup x=some c->∀ v,s.heap.IsCell c v->h'.IsCell c v:=λx c e v ⟨o,ho,hd⟩=>by
  have Ot:c∉ch:=λz=>(Hn c z).2.2.1 x c e rfl;by_cases hc:c∈X.fs
  ·obtain ⟨sl,q⟩:=slot c o (I.cne x c e) hc Ot ho (I.aae x c e);exact ⟨_,q,hd⟩
  ·exact ⟨o,keep c o (I.cne x c e) hc Ot ho (I.aae x c e),hd⟩
 refine ⟨I.ok,I.os,hg,⟨λb o e n hb hx=>?_,λb o e n hb hx=>?_,λb o e n hx=>?_,λb o e hx=>?_,λb xs e=>aas b xs (I.base.aas b xs e),λb o xs e=>aaq b o xs (I.base.aaq b o xs e),λb ps e=>?_⟩,?_,λx c e=>?_,?_,λx c e=>?_,λp hp=>?_,hok,I.len⟩
 ·exact keep b o (Ru b o e) hb (Rv b o e hx) (I.base.keep b o e n hb hx) (I.base.free b o e n hx)
 ·obtain ⟨sl,e1⟩:=I.base.slot b o e n hb hx;obtain ⟨cC,e2⟩:=slot b _ (Ru b o e) hb (Rv b o e hx) e1 (I.base.free b o e n hx);exact ⟨cC,e2⟩
 ·obtain ⟨o',e1⟩:=I.base.there b o e hx;exact free b o' (Rv b o e hx) e1 (I.base.free b o e n hx)
 ·obtain ⟨o',e1⟩:=I.base.there b o e hx;exact there b o' (Rv b o e hx) e1
 ·obtain ⟨m1,e1⟩:=I.base.aar b ps e;obtain ⟨m2,e2⟩:=aar b _ e1;exact ⟨m1++m2,by rw [e2,Array.append_assoc]⟩
 ·obtain ⟨m,hn,hl⟩:=I.loc;refine ⟨m,ns m hn,λi x v e1 e2 e3=>?_⟩;obtain ⟨u,r,l⟩:=hl i x v e1 e2 e3;refine ⟨u,r,?_⟩;rcases l with l | ⟨k,c,e,z⟩
  ·exact .inl l
  ·exact .inr ⟨k,c,e,cellK x c e _ z⟩
 ·obtain ⟨v,z⟩:=I.cell x c e;exact ⟨v,cellK x c e v z⟩
 ·obtain ⟨m,⟨o,_,_,ho,_⟩,_⟩:=I.loc;exact free _ o (λz=>(Hn _ z).2.1 rfl) ho I.free
 ·obtain ⟨v,o,ho,hd⟩:=I.cell x c e;exact free c o (λz=>(Hn c z).2.2.1 x c e rfl) ho (I.aae x c e)
 ·obtain ⟨e,n,ne,nf,d⟩:=I.pin p hp;have Ot:p.1∉ch:=λz=>(Hn p.1 z).2.2.2 p hp rfl;exact ⟨keep p.1 p.2 ne nf Ot e n,free p.1 p.2 Ot e n,ne,nf,d⟩
end
open Classical in
theorem Inv.aa2 {X:Cx}{σ:St}{H:Hp}{s:Shared}{h':Heap}{t':Nat}(ny:X.pn=[])(I:Inv X [] σ H s)(nk:NK (F7 X.stack) X.s₀.heap H s.heap h'):Inv X [] σ H { s with heap:=h',toks:=t' }:=by
 have mem:∀ b,b∈(List.range s.heap.objs.size).filter (λb=>decide (DN X.s₀.heap H s.heap b))↔DN X.s₀.heap H s.heap b:=λb=>by
  rw [List.mem_filter,List.mem_range,decide_eq_true_iff];exact ⟨λz=>z.2,λz=>⟨let ⟨_,_,o,_,e,_⟩:=z;Heap.lt_size e,z⟩⟩
 have sub:=I.aal;have Rb:∀ b u,H b=some u->∀ o,s.heap.get? b=some o->h'.get? b=some o:=λb u e o q=>nk.keep b o q (λz=>by rw [I.aao b z] at e;cases e) (λz=>by rw [z.2.1] at e;cases e);refine I.abn (g':=s.gens) (d':=s.drawn) (ch:=(List.range s.heap.objs.size).filter (λb=>decide (DN X.s₀.heap H s.heap b))) (λb hb=>?_) (λb o hL hb hc e n=>?_) (λb o hL hb hc e n=>?_) (λ_ _ _ _ n=>n) (λb o _ e=>nk.there b o e) (λ_ _ e=>e) (λ_ _ _ e=>e) (λb ps e=>⟨#[],by rw [e];simp⟩) (λm hm=>?_) (λb u e=>?_) I.bare
 ·obtain ⟨z1,z2,o,vs,e,d⟩:=(mem b).mp hb;refine ⟨.inr z1,λz=>?_,λx c hx z=>?_,λp hp=>by rw [ny] at hp;cases hp⟩
  ·obtain ⟨m,⟨o',es,ep,e',d',_⟩,_⟩:=I.loc;rw [<- z,e] at e';cases e';rw [d] at d';cases d'
  ·obtain ⟨v,o',e',d'⟩:=I.cell x c hx;rw [z,e] at e';cases e';rw [d] at d';cases d'
 ·refine nk.keep b o e (λz=>?_) λz=>hc ((mem b).mpr z);rcases List.mem_cons.mp (sub b z) with z | z
  ·exact hL z
  ·exact hb z
 ·by_cases z:∃ vs,o.data=.fields vs
  ·obtain ⟨vs,d⟩:=z;obtain ⟨_,o',e',nd⟩:=I.aau.mem hb;rw [e] at e';cases e';exact absurd d (nd vs)
  ·exact nk.slot b o e λvs d=>z ⟨vs,d⟩
 ·obtain ⟨o,es,ep,e,d,r⟩:=hm;obtain ⟨sl,e'⟩:=nk.slot _ o e λvs z=>by rw [d] at z;cases z
  exact ⟨_,es,ep,e',d,r⟩
 ·refine (I.hok b u e).aat (λc v hc q=>?_) (λ_ q=>q) λ_ _ q=>q;rcases hc with z | z
  ·subst z;exact Rb c u e v q
  ·exact Rb c _ z v q
structure Body (X:Cx):Prop where
 stk:X.stack=X.env::X.outer
 frm:X.env.frame=some X.env.locals
 pn:X.pn=[]
 ex:X.ex=[]
noncomputable def EL (X:Cx)(E:XK)(e:Value)(s':Shared):Prop:=∃ σ H' a cls z dz,e=.ref a/\Inv X [] σ H' s'/\Fl X.s₀.heap H' a cls s'.heap z dz true/\E cls dz H'
section
variable {X:Cx}{E:XK}
theorem Ez (B:Body X){σ:St}{H:Hp}{s:Shared}{a:Addr}{cls:Value}{z:Option Value}{dz:Option Addr}{c:Bool}{Q:Unit->Shared->Prop}{E':Value->Shared->Prop}{M:Model}{A:Around}(hA:A.frames=some X.stack)(I:Inv X [] σ H s)(fl:Fl X.s₀.heap H a cls s.heap z dz c)
  (h:∀ h',Inv X [] σ H { s with heap:=h',toks:=s.toks }->NK (F7 X.stack) X.s₀.heap H s.heap h'->Fl X.s₀.heap H a cls h' (some (rawInt X.env.locals)) dz c->Q .unit { s with heap:=h' }):wpAny M A (noteFrame (.ref a) X.env) Q E' s:=by
 have fr:=I.stack;rw [B.stk] at fr hA;refine IC hA fr B.frm (λb hb=>Heap.get?_none_of_le (Nat.le_trans I.sz hb)) (λb hb=>I.hok.fresh hb) fl λh' nk zI=>?_;rw [<- B.stk] at nk;exact h h' (I.aa2 B.pn nk) nk zI
theorem EA (B:Body X):PassesOwn (model X.prog X.w) X.A X.env (EL X E):=by
 rintro e s' ⟨σ,H',a,cls,z,dz,rfl,I,fl,q⟩;refine Ez B I.ok.frames I fl λh1 I1 Si Np=>?_;unfold cameBackBy;obtain ⟨_,_,oe,vs,he,_,hd,_,_,_,T,oT,ts,WR,_⟩:=id Np;refine wpAny_bind (wpAny_field (s:={ s' with heap:=h1 }) he hd WR ?_);rw [if_neg (by intro z;simp at z)];refine Cd (s:={ s' with heap:=h1 }) (env:=X.env) (outer:=X.outer) Np λh2 KH Nq=>?_;rw [<- B.stk] at KH;exact ⟨σ,H',a,cls,_,dz,rfl,I1.aa2 (t':=s'.toks) B.pn KH,Nq,q⟩
end
noncomputable def De (P:Program)(w:World):Je:=λouter H s E e s'=>∃ H' a cls z dz,e=.ref a/\s'.os=s.os/\AllBare s'.gens/\Un (F7 outer) [] H H' s.heap s'.heap/\Dv P w H' s'.heap/\Fl s.heap H' a cls s'.heap z dz true/\E cls dz H'
theorem Fl.mono {n0 n1:Heap}{H:Hp}{a:Addr}{cls:Value}{h:Heap}{z:Option Value}{dz:Option Addr}{c:Bool}(hn:∀ b,n0.get? b=none->n1.get? b=none)(x:Fl n0 H a cls h z dz c):Fl n1 H a cls h z dz c:=by
 obtain ⟨h1,h2,oe,vs,e1,e2,e3,e4,e5,e6,h3⟩:=x;refine ⟨hn _ h1,h2,oe,vs,e1,e2,e3,e4,e5,e6,?_⟩;cases z with
 | none=>exact h3
 | some z =>
  obtain ⟨T,oT,ts,g1,g2,g3⟩:=h3;exact ⟨T,oT,ts,g1,hn _ g2,g3⟩
theorem dQ {X:Cx}{E:XK}{E':Value->Shared->Prop}(B:Body X)(h:∀ e s',EL X E e s'->E' e s'):Passes (De X.prog X.w) (X.aad E') E:=by
 intro pins σ H s e s' I q;obtain ⟨H',a,cls,z,dz,rfl,os,bare,un,hok,fl,q⟩:=q;have I0:Inv X pins σ H s:=I.aac;refine h _ _ ⟨σ,H',a,cls,z,dz,rfl,?_,fl.mono (λb z=>?_),q⟩
 rotate_left
 ·cases e:X.s₀.heap.get? b with
  | none=>rfl
  | some o =>
   obtain ⟨o',e'⟩:=I0.base.there b o e (by rw [B.ex];simp);rw [z] at e';cases e'
 obtain ⟨hh,g,d,t,Wo⟩:=s';obtain rfl:Wo=s.os:=os;have I1:Inv X pins σ H' { s with heap:=hh,gens:=g,drawn:=d,toks:=t }:=I0.call (ch:=[]) un hok bare (λb z=>absurd z (by simp));exact I1.aaf λp hp=>absurd hp (by simp)
theorem Cg {CX:Je}{P:Program}{w:World}{K:W.Frag}{mg:Str->Option Value}{base:Heap}{N:List Str}{qual:Str}{scope:Scope}{f:Addr}{cd:Value}{A:Around}{outer:List Env}{s:Shared}{H:Hp}{E:XK}:Body (CB CX P w K mg base N qual scope f cd A outer s H E):=⟨rfl,rfl,rfl,rfl⟩
theorem KI {P:Program}{w:World}{K:W.Frag}{mg:Str->Option Value}{base:Heap}{N:List Str}{qual:Str}{scope:Scope}{f:Addr}{cd:Value}{A:Around}{outer:List Env}{s:Shared}{H:Hp}{E:XK}{e:Value}{s':Shared}
  (h:EL (CB (De P w) P w K mg base N qual scope f cd A outer s H E) E e s'):(CB (De P w) P w K mg base N qual scope f cd A outer s H E).xe e s':=by
 obtain ⟨σ,H',a,cls,z,dz,rfl,I,fl,q⟩:=h;show wpAny _ _ (leaving _ (.ref a)) _ _ s';unfold leaving;refine wpAny_bind (Ez (X:=CB (De P w) P w K mg base N qual scope f cd A outer s H E) Cg I.ok.frames I fl λh1 I1 Si Np=>?_);refine Cd (s:={ s' with heap:=h1 }) (env:=envOfC qual scope s.heap.objs.size f cd) (outer:=outer) Np λh2 KH Nq=>?_;have I2:=I1.aa2 (t':=s'.toks) rfl KH;exact ⟨H',a,cls,_,dz,rfl,I2.os,I2.bare,I2.base,I2.hok,Nq,q⟩
section
variable {P:Program}{w:World}{K:W.Frag}{mg:Str->Option Value}{base:Heap}
abbrev Px (P:Program)(w:World)(K:W.Frag)(mg:Str->Option Value)(base:Heap)(N:List Str)(qual:Str)(scope:Scope)(f:Addr)(cd:Value)(A:Around)(outer:List Env)(s:Shared)(H:Hp)(E:XK):Cx :=
 (CB (De P w) P w K mg base N qual scope f cd A outer s H E).aad (EL (CB (De P w) P w K mg base N qual scope f cd A outer s H E) E)
theorem B'.okX {x qual:Str}{st:Stmt}{f:Addr}{fd:FuncData}{N ps:List Str}{k:Nat}{sp:Sp}(F:B' K x qual st f fd)(S:Ak N ps (Af st))(len:∀ vs H Q E,sp vs H Q E->vs.length=ps.length)
  (Fc:∀ (B7:Value) (A:Around) (outer:List Env) (s:Shared) (H:Hp) (vs:List V) (Q:VK) (E:XK),Am k (A.deeper (envOfC qual (Af st) s.heap.objs.size f B7))->sp vs H Q E ->
   ∃ t,SB (Px P w K mg base N qual (Af st) f B7 A outer s H E) (Az st) t/\t { nx:=λ_ H'=>Q .non H',rt:=Q } (start N vs) H):Av P w K mg base (De P w) (k+1) f fd ps sp:=by
 obtain ⟨oc,od,kV,doc,pm,an,B7,ct,LS,rfl,lk,Gj⟩:=F.ex;refine OY lk Gj S len λA outer s H vs Q E hr Oi=>?_;obtain ⟨t,h,q⟩:=Fc B7 A outer s H vs Q E hr Oi;refine ⟨t,λpins s1 σ H1 D I hw=>?_,q⟩;exact wpAny_mono (h.out pins s1 σ H1 D (I.aad _) hw) (λ_ _ q=>q.aac) λe s' z=>KI z
end
section
variable {X:Cx}{k:Nat}{f C:Addr}{fd:FuncData}{ps:List Str}{sp:Sp}{x m:Str}{E:XK}{e o:Expr}{es:List Expr}{t:TA}{ta:TE}{p pos apos:Pos}
theorem Sj {pl:Sem Bool}(he:SE X o ta)(c:G9 X.K C)(hm:Meth X.K C m f)(F:Av X.prog X.w X.K X.mg X.base (De X.prog X.w) k f fd ps sp)(hx:Passes (De X.prog X.w) X E)(hr:Am k X.A)(hb:Binds X.K fd ps [])(ha:SA X (e::es) t)
  (Ho:starEach (e::es) X.env=(false,eval e X.env)::starEach es X.env:=by first | exact CQ | exact C4 | exact C3 | exact CT | exact CU | exact CV | exact E3 | rfl) (CO:(backTo pos (starEach es X.env)).any (·.1)=false:=by rfl)
  (ht:eval (.Call (.Attribute o m apos) (e::es) [] pos) X.env=(do
   let ov <- eval o X.env
   standAt apos.atName
   let (f,first) <- holding [ov] (getMethod ov m pl)
   callWith pos f first (backTo pos (starEach (e::es) X.env)) (backToKw pos (keywordEach [] X.env))):=by rfl) :
  SE X (.Call (.Attribute o m apos) (e::es) [] pos) (D0 C m sp [] E ta t):=⟨LR he.out c hm F hr hb .nil hx ha.out Ho CO ht⟩
theorem BH {pl:Sem Bool}(he:SE X o ta)(c:G9 X.K C)(hm:Meth X.K C m f)(F:Av X.prog X.w X.K X.mg X.base Bs k f fd ps sp)(hr:Am k X.A)(hb:Binds X.K fd ps [])(ha:SA X (e::es) t)
  (Ho:starEach (e::es) X.env=(false,eval e X.env)::starEach es X.env:=by first | exact CQ | exact C4 | exact C3 | exact CT | exact CU | exact CV | exact E3 | rfl) (CO:(backTo pos (starEach es X.env)).any (·.1)=false:=by rfl)
  (ht:eval (.Call (.Attribute o m apos) (e::es) [] pos) X.env=(do
   let ov <- eval o X.env
   standAt apos.atName
   let (f,first) <- holding [ov] (getMethod ov m pl)
   callWith pos f first (backTo pos (starEach (e::es) X.env)) (backToKw pos (keywordEach [] X.env))):=by rfl) :
  SE X (.Call (.Attribute o m apos) (e::es) [] pos) (D0 C m sp [] E0 ta t):=⟨LR he.out c hm F hr hb .nil Jp ha.out Ho CO ht⟩
end
open PySem.W (excIn tailIn nsOkIn isNs_of_in nsMap_none_of_in tail_of_in)
theorem HY {K:W.Frag}{h:Heap}{C:Addr}{Bw:List Value}{newId:String}(X:K.In h)(q:excIn K C Bw newId=true):
  ∃ (nm qn:Str) (N:Addr) (bs bm:List Value) (hdct:Bool) (sn:List Str) (sub:List Value) (ab:Bool) (col:Option Bool) (dd:Option Addr) (k0 k1 k2 k3 k5:Option Value) (mN:Str->Option Value),
   h.get? C=some (excClassObj nm qn C N bs bm hdct sn sub ab col dd k0 k1 k2 k3 k5 newId)/\h.Ns N mN/\mN "__init__"=none/\OwnTail h Bw bm:=by
 unfold excIn at q;split at q
 ·rename_i dd cd sl ho;split at q
  ·rename_i C' bm k0 k1 k2 k3 n k5 hm hs;simp only [Bool.and_eq_true,beq_iff_eq,Bool.not_eq_true'] at q;obtain ⟨⟨⟨⟨⟨rfl,rfl⟩,Jt⟩,ht⟩,hok⟩,KJ⟩:=q;obtain ⟨nm,bs,mro,ns,qn,hd,sn,sub,ab,col,del⟩:=cd;dsimp only at hm Jt hok KJ;subst hm Jt;have dR:sl=#[k0,k1,k2,k3,some (.builtin n),k5]:=by
    obtain ⟨l⟩:=sl;simp only at hs;rw [hs]
   subst dR;exact ⟨nm,qn,ns,bs,bm,hd,sn,sub,ab,col,dd,k0,k1,k2,k3,k5,_,X _ _ ho,.of_isNs (isNs_of_in X hok),nsMap_none_of_in X hok KJ,tail_of_in X ht⟩
  ·cases q
 ·cases q
theorem CC {P:Program}{w:World}{H:Hp}{h:Heap}{a:Addr}{o:HO}(x:AN P w H h a o):∃ ob,h.get? a=some ob:=by
 cases o with
 | lst xs=>obtain ⟨_,_,_,_,e⟩:=x;exact ⟨_,e⟩
 | tup xs=>obtain ⟨_,_,_,o,e,_⟩:=x;exact ⟨o,e⟩
 | dK kvs=>obtain ⟨_,_,_,_,o,_,_,e,_⟩:=x;exact ⟨o,e⟩
 | dT kvs=>obtain ⟨_,_,_,_,o,_,_,e,_⟩:=x;exact ⟨o,e⟩
 | set S n=>obtain ⟨o,_,_,_,e,_⟩:=x;exact ⟨o,e⟩
 | ins C dx fs=>obtain ⟨_,_,_,e,_⟩:=x;exact ⟨_,e⟩
 | own y=>obtain ⟨o,e⟩:=x;exact ⟨o,e⟩
 | xd fs=>obtain ⟨_,⟨o,_,_,e,_⟩,_⟩:=x;exact ⟨o,e⟩
 | rng lo hi=>obtain ⟨_,_,_,e⟩:=x;exact ⟨_,e⟩
 | frz ob u=>obtain ⟨e,_⟩:=x;exact ⟨_,e⟩
 | tbl ps=>exact ⟨_,(show h.get? a=some _ from x)⟩
 | met f y=>exact ⟨_,(show h.get? a=some _ from x)⟩
 | ext φ=>obtain ⟨_,⟨o,e⟩,_⟩:=x;exact ⟨o,e⟩
noncomputable def Py (C:Addr)(E:XK)(t:TA):TS:=λ_ σ H=>t σ H λvs H1=>vs.length<=1000/\E (.ref C) none H1
section
variable {X:Cx}{E:XK}{E':Value->Shared->Prop}
theorem Pz {C:Addr}{Bw:List Value}{newId BI Bn:String}{x:Str}{np AR pos:Pos}{e:Expr}{es:List Expr}{t:TA}(B:Body X)(hE:∀ e s',EL X E e s'->E' e s')(hg:Gl X x)(hm:X.mg x=some (.ref C))(hq:excIn X.K C Bw newId=true)(F:ExcBaseFacts Bn newId BI Bw)(hc:X.calm=true)
  (ha:PA (X.aad E') (e::es) t) (Cr:(x==("__debug__":Str))=false:=by decide) (he:starEach (e::es) X.env=(false,eval e X.env)::starEach es X.env:=by rfl) (CO:(backTo AR (starEach (e::es) X.env)).any (·.1)=false:=by rfl) :
  PS (X.aad E') (.Raise (some (.Call (.Name x np) (e::es) [] AR)) none pos) (Py C E t):=by
 intro pins s σ H D I h;obtain ⟨nm,qn,N,bs,bm,hdct,sn,sub,ab,col,dd,k0,k1,k2,k3,k5,mN,hC,hN,KJ,hT⟩:=HY I.ok.mod.kin hq;refine wpAny_Raise_call_subT (C:=C) (nm:=nm) (q:=qn) (N:=N) (bs:=bs) (bm:=bm) (hdct:=hdct) (sn:=sn) (sub:=sub) (ab:=ab) (col:=col) (dd:=dd) (k0:=k0) (k1:=k1) (k2:=k2) (k3:=k3) (k5:=k5) F (mN:=mN) (hT.hasType F.hasBase) (I.ok.hd hc) CO KJ
  (Cu I hg hm ⟨rfl,?_⟩ Cr)
 have h0:=ha AR pins s σ H _ I h;have e0:backTo AR (starEach (e::es) X.env)=(false,eval e X.env)::backTo AR (starEach es X.env):=by rw [he];rfl
 rw [show (X.aad E').env=X.env from rfl,e0] at h0;rw [show (X.aad E').env=X.env from rfl,e0];refine Calls.evalArgs_plain (AY h0 λus s1 q1=>?_);obtain ⟨vs,H1,I1,r1,hlen,q⟩:=q1;have hl:=r1.length;have hb:=sizeLine_eq;have kIn:∀ b o,X.base.get? b=some o->s1.heap.get? b=some o:=I1.bk;refine ⟨rfl,by show us.length<=sizeLine;omega,kIn _ _ hC,hN.keeps kIn,hT.keeps kIn,λh' a hx=>hE _ _ ?_⟩;obtain ⟨t0,dS,dU,zJ⟩:=hx.there;have I2:Inv (X.aad E') pins σ H1 { s1 with heap:=h',toks:=s1.toks }:=I1.kept hx.keeps;have I3:Inv X [] σ H1 { s1 with heap:=h',toks:=s1.toks }:=I2.aac.aaf λp hp=>absurd hp (by simp);have un:H1 a=none:=by
  cases z:H1 a with
  | none=>rfl
  | some u =>
   obtain ⟨ob,eo⟩:∃ ob,s1.heap.get? a=some ob:=by
    have lt:=(I1.hok a u z);exact CC lt
   rw [hx.new] at eo;cases eo
 refine ⟨σ,H1,a,.ref C,none,none,rfl,I3,⟨?_,un,_,_,dS,rfl,rfl,by simp,rfl,λ_=>rfl,rfl⟩,q⟩;cases e0:X.s₀.heap.get? a with
 | none=>rfl
 | some o =>
  obtain ⟨o',e1⟩:=I1.aac.base.there a o e0 (by rw [B.ex];simp);rw [hx.new] at e1;cases e1
end
end L2
namespace L2
open PySem PySem.Spec PyProof.Rows
open PySem.W (excIn)
structure Sk (X:Cx)(pins:List (Addr × Obj))(h0:Heap):Prop where
 pin:∀ p∈X.pn++pins,∃ o,h0.get? p.1=some o
 ent:∀ b,h0.get? b=none->X.s₀.heap.get? b=none
theorem Inv.ab4 {X:Cx}{pins:List (Addr × Obj)}{σ:St}{H:Hp}{s:Shared}(hx:X.ex=[])(I:Inv X pins σ H s):Sk X pins s.heap:=⟨λp hp=>⟨_,(I.pin p hp).1⟩,λb z=>by
 cases e:X.s₀.heap.get? b with
 | none=>rfl
 | some o =>
  obtain ⟨o',e'⟩:=I.base.there b o e (by rw [hx];simp);rw [z] at e';cases e'⟩
noncomputable def XP (X:Cx)(pins:List (Addr × Obj))(σ:St)(E:XK)(ex:Value)(s':Shared):Prop:=∃ h0 H' a cls z dz,ex=.ref a/\Inv X pins σ H' s'/\Sk X pins h0/\Fl h0 H' a cls s'.heap z dz true/\(∀ b o,h0.get? b=some o->∃ o',s'.heap.get? b=some o')/\E cls dz H'
noncomputable def nB (X:Cx)(e:Expr)(t:XK->TE):Prop :=
 ∀ (E:XK) (pins:List (Addr × Obj)) (s:Shared) (σ:St) (H:Hp) (Q:VK),Inv X pins σ H s->t E σ H Q->wpAny (model X.prog X.w) X.A (eval e X.env) (EP X pins σ Q) (XP X pins σ E) s
structure wI (X:Cx)(e:Expr)(t:XK->TE):Prop where out:nB X e t
section
variable {X:Cx}{k:Nat}{f:Addr}{fd:FuncData}{ps:List Str}{sp:Sp}{x:Str}{e:Expr}{es:List Expr}{t:TA}{p pos:Pos}
theorem PB (hex:X.ex=[])(F:Av X.prog X.w X.K X.mg X.base (De X.prog X.w) k f fd ps sp)(hr:Am k X.A)(hg:Gl X x)(hm:X.mg x=some (.ref f))(hk:W.keepIn X.K (.ref f)=true)(hb:Binds X.K fd ps [])
  (ha:PA X.nox (e::es) t) (Cr:(x==("__debug__":Str))=false:=by decide) (he:starEach (e::es) X.env=(false,eval e X.env)::starEach es X.env:=by rfl) (CO:(backTo pos (starEach es X.env)).any (·.1)=false:=by rfl) :
  nB X (.Call (.Name x p) (e::es) [] pos) (λE=>EG sp [] E t):=by
 intro E pins s σ H Q I h;refine wpAny_Call_Name_kw (Cu I hg hm ?_ Cr);have h0:=ha pos pins s σ H _ (I.aad _) h;refine W.callWith_K (h₀:=X.base) I.ok.mod.kin hk (wpAny_mono h0 (λus s1 q1=>?_) λ_ _ z=>z.elim) he CO;obtain ⟨vs,H1,I1,r1,q⟩:=q1;have I1:=I1.aac;refine ⟨I1.kIn,?_⟩;have hl:us.length=ps.length:=by rw [<- r1.length];have:=F.len _ _ _ _ q;simpa using this
 have hz:us++[]=us:=List.append_nil us;have Gy:=hb s1 us I1.kIn (by rw [hz];exact hl);rw [hz] at Gy;rw [show vs++[]=vs from List.append_nil vs] at q;show wpAny _ _ (call (.ref f) ([]++us)) _ _ _;refine wpAny_call (codeAny_mono (F.run X.A X.stack s1 H1 ⟨us,[]⟩ us vs Q E hr I1.abk Gy r1 q) λr s' hq=>?_);cases r with
 | ok fl =>
  cases fl with
  | ret u=>exact I1.after hq
  | next=>exact False.elim hq
  | brk=>exact False.elim hq
  | cont=>exact False.elim hq
 | error ex =>
  obtain ⟨H',a,cls,z,dz,rfl,os,bare,un,hok,fl,qq⟩:=hq;obtain ⟨hh,g,d,t',Wo⟩:=s';obtain rfl:Wo=s1.os:=os;exact ⟨s1.heap,H',a,cls,z,dz,rfl,I1.call (ch:=[]) un hok bare (λb z=>absurd z (by simp)),I1.ab4 hex,fl,λb o e=>un.there b o e (by simp),qq⟩
theorem Sl (hex:X.ex=[])(F:Av X.prog X.w X.K X.mg X.base (De X.prog X.w) k f fd ps sp)(hr:Am k X.A)(hg:Gl X x)(hm:X.mg x=some (.ref f))(hk:W.keepIn X.K (.ref f)=true)(hb:Binds X.K fd ps [])
  (ha:SA X.nox (e::es) t) (Cr:(x==("__debug__":Str))=false:=by decide) (he:starEach (e::es) X.env=(false,eval e X.env)::starEach es X.env:=by first | exact CQ | exact C4 | exact C3 | exact CT | exact CU | exact CV | exact E3 | rfl) (CO:(backTo pos (starEach es X.env)).any (·.1)=false:=by rfl) :
  wI X (.Call (.Name x p) (e::es) [] pos) (λE=>EG sp [] E t):=⟨PB hex F hr hg hm hk hb ha.out Cr he CO⟩
end
open Classical in
theorem Inv.aam {X:Cx}{pins:List (Addr × Obj)}{σ:St}{H:Hp}{s:Shared}{h0 h':Heap}{t':Nat}(R:Sk X pins h0)(I:Inv X pins σ H s)(nk:NK (F7 X.stack) h0 H s.heap h'):Inv X pins σ H { s with heap:=h',toks:=t' }:=by
 have mem:∀ b,b∈(List.range s.heap.objs.size).filter (λb=>decide (DN h0 H s.heap b))↔DN h0 H s.heap b:=λb=>by
  rw [List.mem_filter,List.mem_range,decide_eq_true_iff];exact ⟨λz=>z.2,λz=>⟨let ⟨_,_,o,_,e,_⟩:=z;Heap.lt_size e,z⟩⟩
 have sub:=I.aal;have Rb:∀ b u,H b=some u->∀ o,s.heap.get? b=some o->h'.get? b=some o:=λb u e o q=>nk.keep b o q (λz=>by rw [I.aao b z] at e;cases e) (λz=>by rw [z.2.1] at e;cases e);refine I.abn (g':=s.gens) (d':=s.drawn) (ch:=(List.range s.heap.objs.size).filter (λb=>decide (DN h0 H s.heap b))) (λb hb=>?_) (λb o hL hb hc e n=>?_) (λb o hL hb hc e n=>?_) (λ_ _ _ _ n=>n) (λb o _ e=>nk.there b o e) (λ_ _ e=>e) (λ_ _ _ e=>e) (λb ps e=>⟨#[],by rw [e];simp⟩) (λm hm=>?_) (λb u e=>?_) I.bare
 ·obtain ⟨z1,z2,o,vs,e,d⟩:=(mem b).mp hb;refine ⟨.inr (R.ent b z1),λz=>?_,λx c hx z=>?_,λp hp z=>?_⟩
  ·obtain ⟨m,⟨o',es,ep,e',d',_⟩,_⟩:=I.loc;rw [<- z,e] at e';cases e';rw [d] at d';cases d'
  ·obtain ⟨v,o',e',d'⟩:=I.cell x c hx;rw [z,e] at e';cases e';rw [d] at d';cases d'
  ·obtain ⟨o',e'⟩:=R.pin p hp;rw [z,z1] at e';cases e'
 ·refine nk.keep b o e (λz=>?_) λz=>hc ((mem b).mpr z);rcases List.mem_cons.mp (sub b z) with z | z
  ·exact hL z
  ·exact hb z
 ·by_cases z:∃ vs,o.data=.fields vs
  ·obtain ⟨vs,d⟩:=z;obtain ⟨_,o',e',nd⟩:=I.aau.mem hb;rw [e] at e';cases e';exact absurd d (nd vs)
  ·exact nk.slot b o e λvs d=>z ⟨vs,d⟩
 ·obtain ⟨o,es,ep,e,d,r⟩:=hm;obtain ⟨sl,e'⟩:=nk.slot _ o e λvs z=>by rw [d] at z;cases z
  exact ⟨_,es,ep,e',d,r⟩
 ·refine (I.hok b u e).aat (λc v hc q=>?_) (λ_ q=>q) λ_ _ q=>q;rcases hc with z | z
  ·subst z;exact Rb c u e v q
  ·exact Rb c _ z v q
theorem Inv.aah {X:Cx}{pins:List (Addr × Obj)}{σ:St}{H:Hp}{s:Shared}{a:Addr}{o:HO}(I:Inv X pins σ H s)(hn:H a=none)(h0:X.s₀.heap.get? a=none)(hL:a≠X.env.locals)(hc:∀ x c,X.env.cells.lookup x=some c->c≠a)(hp:∀ p∈X.pn++pins,p.1≠a)
  (new:AN X.prog X.w (upd H a o) s.heap a o):Inv X pins σ (upd H a o) s:=by
 refine ⟨I.ok,I.os,I.bare,?_,I.loc,I.cell,by rw [Ac (Ne.symm hL)];exact I.free,λx c e=>by rw [Ac (hc x c e)];exact I.aae x c e,λp q=>?_,I.hok.aah hn new,I.len⟩
 ·have u:=I.base;exact ⟨u.keep,u.slot,λb ob q n hx=>by
   have hb:b≠a:=λz=>(by rw [z,h0] at q;cases q);rw [Ac hb];exact u.free b ob q n hx,u.there,λb xs q=>by
   have z:=u.aas b xs q;rw [Ac (Ab z hn)];exact z,λb ob xs q=>by
   have z:=u.aaq b ob xs q;rw [Ac (Ab z hn)];exact z,λb ps q=>by
   obtain ⟨more,z⟩:=u.aar b ps q;exact ⟨more,by rw [Ac (Ab z hn)];exact z⟩⟩
 ·obtain ⟨e,n,r⟩:=I.pin p q;exact ⟨e,by rw [Ac (hp p q)];exact n,r⟩
theorem Nr {X:Cx}{pins:List (Addr × Obj)}{σ:St}{H:Hp}{s:Shared}{M:Model}{A:Around}{E:Value->Shared->Prop}{i:Nat}{x:Str}{v:V}{Q:Unit->Shared->Prop}(I:Inv X pins σ H s)(hN:X.N.Nodup)(hi:X.N[i]?=some x)(hk:X.env.scope.names.lookup x=some .local)(hσ:σ[i]?=some (some v))
  (h:∀ s',Inv X pins (σ.set i none) H s'->Q .unit s'):wpAny M A (unbindName X.env x) Q E s:=by
 obtain ⟨m,hn,hl⟩:=id I.loc;have Ou:(X.env.scope.kind==.class || (X.env.scope.kind==.module && X.env.locals != X.env.globals))=false:=by rw [I.ok.kind];rfl
 have hiσ:i < σ.length:=by rw [I.len];exact (List.getElem?_eq_some_iff.mp hi).1
 obtain ⟨u0,_,lk⟩:=hl i x v hi hσ (.inl hk);have hv:m x=some u0:=by
  rcases lk with ⟨_,z⟩ | ⟨z,_⟩
  ·exact z
  ·have z':X.env.scope.names.lookup x=some .cell\/X.env.scope.names.lookup x=some .free:=z;rw [hk] at z';rcases z' with z' | z' <;> cases z'
 refine wpAny_unbindName_local hk hn hv Ou λh' u Rw hs=>?_;obtain ⟨oL,_,_,wg,_⟩:=id hn;have tracked:Dv X.prog X.w H h':=λb ob e=>by
  refine (I.hok b ob e).aat (λc w' hc q=>(hs.2 c ?_).trans q) (λ_ q=>q) λ_ _ q=>q;rintro rfl;rcases hc with rfl | hc
  ·rw [I.free] at e;cases e
  ·rw [I.free] at hc;cases hc
 refine h _ ⟨I.ok,I.os,I.bare,⟨λb o e n hb hx=>?_,λb o e n hb hx=>?_,I.base.free,λb o e hx=>?_,I.base.aas,I.base.aaq,I.base.aar⟩,⟨_,Rw,λj y v' e1 e2 e3=>?_⟩,λy c e=>?_,I.free,I.aae,λp hp=>?_,tracked,by simpa using I.len⟩
 ·exact (hs.2 b (Nat.ne_of_lt (Nat.lt_of_lt_of_le (Heap.lt_size e) I.ok.above))).trans (I.base.keep b o e n hb hx)
 ·obtain ⟨sl,e1⟩:=I.base.slot b o e n hb hx;exact ⟨sl,(hs.2 b (Nat.ne_of_lt (Nat.lt_of_lt_of_le (Heap.lt_size e) I.ok.above))).trans e1⟩
 ·obtain ⟨o',e1⟩:=I.base.there b o e hx;exact ⟨o',(hs.2 b (Nat.ne_of_lt (Nat.lt_of_lt_of_le (Heap.lt_size e) I.ok.above))).trans e1⟩
 ·by_cases hj:j=i
  ·subst hj;rw [List.getElem?_set_self hiσ] at e2;cases e2
  ·rw [List.getElem?_set_ne (Ne.symm hj)] at e2;obtain ⟨u',r',q⟩:=hl j y v' e1 e2 e3;refine ⟨u',r',?_⟩;rcases q with ⟨k,e⟩ | ⟨k,c,e,z⟩
   ·refine .inl ⟨k,?_⟩;have:y≠x:=λe=>hj (Gi hN e1 (e▸hi));simp [this,e]
   ·exact .inr ⟨k,c,e,z.sameBut hs (I.cne y c e)⟩
 ·obtain ⟨w',z⟩:=I.cell y c e;exact ⟨w',z.sameBut hs (I.cne y c e)⟩
 ·obtain ⟨e,n,ne,nf,d⟩:=I.pin p hp;exact ⟨(hs.2 p.1 ne).trans e,n,ne,nf,d⟩
end L2
namespace PySem
section
variable {M:Model}{A:Around}{E:Value->Shared->Prop}{nm q:Str}{C N:Addr}{bs bm:List Value}{hdct:Bool}{sn:List Str}{sub:List Value}{ab:Bool}{col:Option Bool}{dd:Option Addr}{k0 k1 k2 k3 k5:Option Value}{newId:String}
 {dW q2:Str} {C2 N2:Addr} {zK wJ:List Value} {dX:Bool} {zL:List Str} {WS:List Value} {zO:Bool} {nE:Option Bool} {k7:Option Addr} {j0 j1 j2 j3 j5:Option Value} {WT:String}
theorem Eg {h:Heap}{g:Array GenState}{d:Drawn}{t:Nat}{os:OsState}{e:Addr}{oe:Obj}{Q:Bool->Shared->Prop}
  (hC:h.get? C=some (excClassObj nm q C N bs bm hdct sn sub ab col dd k0 k1 k2 k3 k5 newId)) (BM:bm.contains (.type "BaseException")=true)
  (Vc:h.get? C2=some (excClassObj dW q2 C2 N2 zK wJ dX zL WS zO nE k7 j0 j1 j2 j3 j5 WT)) (he:h.get? e=some oe) (Ou:oe.cls=.ref C2) (zP:(Value.ref C2::wJ).contains (.ref C)=true)
  (hq:Q true ⟨h,g,d,t,os⟩):wpAny M A (excMatches (.ref e) (.ref C)) Q E ⟨h,g,d,t,os⟩:=by
 have Nt:(Value.ref C::bm).contains (.type "BaseException")=true:=by rw [List.contains_cons,BM,Bool.or_true]
 have f:=tc_notTuple;unfold excMatches
 repeat (first | (with_reducible refine wpAny_loadPart_at he ?_;rw [Ou]) | with_reducible refine wpAny_loadPart_at hC ?_ | (with_reducible refine wpAny_isSubtype_exc hC ?_;first | rw [Nt]) | (with_reducible refine wpAny_isSubtype_exc Vc ?_;first | rw [zP]) | wp_step)
 exact hq
end
end PySem
namespace L2
open PySem PySem.Spec PyProof.Rows
open PySem.W (excIn tailIn nsOkIn isNs_of_in nsMap_none_of_in tail_of_in)
noncomputable def FF (K:W.Frag)(C:Addr):List Value:=match K.lookup C with
 | some ⟨_,_,.cls cd,_⟩=>cd.mro
 | _=>[]
theorem DP {K:W.Frag}{h:Heap}{C:Addr}{Bw:List Value}{newId:String}(X:K.In h)(q:excIn K C Bw newId=true):
  ∃ (nm qn:Str) (N:Addr) (bs bm:List Value) (hdct:Bool) (sn:List Str) (sub:List Value) (ab:Bool) (col:Option Bool) (dd:Option Addr) (k0 k1 k2 k3 k5:Option Value),
   h.get? C=some (excClassObj nm qn C N bs bm hdct sn sub ab col dd k0 k1 k2 k3 k5 newId)/\OwnTail h Bw bm/\FF K C=Value.ref C::bm:=by
 unfold excIn at q;split at q
 ·rename_i dd cd sl ho;split at q
  ·rename_i C' bm k0 k1 k2 k3 n k5 hm hs;simp only [Bool.and_eq_true,beq_iff_eq,Bool.not_eq_true'] at q;obtain ⟨⟨⟨⟨⟨rfl,rfl⟩,Jt⟩,ht⟩,hok⟩,KJ⟩:=q;obtain ⟨nm,bs,mro,ns,qn,hd,sn,sub,ab,col,del⟩:=cd;dsimp only at hm Jt hok KJ;subst hm Jt;have dR:sl=#[k0,k1,k2,k3,some (.builtin n),k5]:=by
    obtain ⟨l⟩:=sl;simp only at hs;rw [hs]
   subst dR;exact ⟨nm,qn,ns,bs,bm,hd,sn,sub,ab,col,dd,k0,k1,k2,k3,k5,X _ _ ho,tail_of_in X ht,by unfold FF;rw [ho]⟩
  ·cases q
 ·cases q
abbrev Cx.aak (X:Cx)(a:Addr):Cx:={ X with A:=X.A.mark (some (.ref a)),calm:=false,xe:=λ_ _=>False }
section
variable {X:Cx}{pins:List (Addr × Obj)}{σ:St}{H:Hp}{s:Shared}{a:Addr}
theorem Inv.aak (I:Inv X pins σ H s)(a:Addr):Inv (X.aak a) pins σ H s:=by
 obtain ⟨ok,r1,r2,r3,r4,r5,r6,r7,r8,r9,nF⟩:=I;exact ⟨⟨ok.mod,ok.kind,ok.glob,ok.blt,ok.above,ok.inj,ok.has,ok.cab,(λz=>by cases z),ok.frames,ok.stk,ok.exf,ok.bs,ok.bsz,ok.abi,ok.abj,ok.aau,ok.frf⟩,r1,r2,r3,r4,r5,r6,r7,r8,r9,nF⟩
theorem Inv.aa8 (ok:X.Ok)(I:Inv (X.aak a) pins σ H s):Inv X pins σ H s:=by
 obtain ⟨_,r1,r2,r3,r4,r5,r6,r7,r8,r9,nF⟩:=I;exact ⟨ok,r1,r2,r3,r4,r5,r6,r7,r8,r9,nF⟩
end
end L2
namespace PySem
open PySem.W (Looks looks_findIn findIn Frag)
section
variable {prog:Program}{w:World}{A:Around}{E:Value->Shared->Prop}{h:Heap}{g:Array GenState}{d:Drawn}{t:Nat}{os:OsState}{a:Addr}{o:Obj}{K:Frag}
 {nm q:Str} {C N:Addr} {bs bm Bw:List Value} {hdct:Bool} {sn:List Str} {sub:List Value} {ab:Bool} {col:Option Bool} {dd:Option Addr} {k0 k1 k2 k3 k5:Option Value} {newId:String}
theorem WU {R:Result->Shared->Prop}(hC:h.get? C=some (excClassObj nm q C N bs bm hdct sn sub ab col dd k0 k1 k2 k3 k5 newId))(ho:bm.contains (.type "object")=true)
  (hx:h.get? a=some o) (hc:o.cls=.ref C) (hq:R (.ok (.ret (.ref C))) ⟨h,g,d,t,os⟩) :
  codeAny (model prog w) A (.call (.builtin "getset_descriptor.__get__") ⟨[.builtin "object.__class__",.ref a,.ref C],[]⟩) R ⟨h,g,d,t,os⟩:=by
 have wK:(⟨h,g,d,t,os⟩:Shared).TypeIs (.builtin "object.__class__") "getset_descriptor":=F.typeOf_object_class;have Nt:(Value.ref C::bm).contains (.type (".".intercalate ("object.__class__".cutAt '.').dropLast))=true:=by
  rw [F.owner_object_class,List.contains_cons,ho];rfl
 refine codeAny_call_builtin F.slot_gs_get.plain F.entry_gs_get (F.slot_gs_get.check _ _ _ _ _ _ _ _ wK (F.args_gs_get _ _ _) ?_)
 repeat (any_goals (first | assumption | (with_reducible refine wpAny_loadPart_at hx ?_;rw [hc]) | (with_reducible refine wpAny_isSubtype_exc hC ?_;rw [Nt]) | wp_step))
 refine ⟨Code.quiet_builtin _ (by decide +kernel),codeAny_builtin F.entry_object_class ?_⟩
 repeat (any_goals (first | assumption | (with_reducible refine wpAny_loadPart_at hx ?_;rw [hc]) | wp_step))
theorem PD {tk:Tok}{Q:Fin->Shared->Prop}(X:K.In h)(hC:h.get? C=some (excClassObj nm q C N bs bm hdct sn sub ab col dd k0 k1 k2 k3 k5 newId))(ho:bm.contains (.type "object")=true)
  (ec:findIn K (.ref C) "__class__"=some (some (.builtin "object.__class__"))) (hx:h.get? a=some o) (hc:o.cls=.ref C) (hq:Q (.done (.ret (.ref C))) ⟨h,g,d,t,os⟩) :
  wpAny (model prog w) A (Builtin.«object.__getattribute__» ⟨[.ref a,.str "__class__" tk],[]⟩) Q E ⟨h,g,d,t,os⟩:=by
 have wK:(⟨h,g,d,t,os⟩:Shared).TypeIs (.builtin "object.__class__") "getset_descriptor":=F.typeOf_object_class;have f5:=F.typeOf_object_class;have f6:=F.slot_gs_get.lookup;have f7:=F.slot_gs_set.lookup;have L:=looks_findIn (M:=model prog w) X ec
 repeat (any_goals (first | assumption | (with_reducible refine wpAny_loadPart_at hx ?_;rw [hc]) | with_reducible refine W.Looks.at L ?_ | wp_step))
 refine WU hC ho hx hc ?_
 repeat (any_goals (first | assumption | wp_step))
theorem Sm {Q:Option Value->Shared->Prop}(X:K.In h)(hC:h.get? C=some (excClassObj nm q C N bs bm hdct sn sub ab col dd k0 k1 k2 k3 k5 newId))(ho:bm.contains (.type "object")=true)(hB:bm.contains (.type "BaseException")=true)
  (ec:findIn K (.ref C) "__class__"=some (some (.builtin "object.__class__"))) (eg:findIn K (.ref C) "__getattribute__"=some (some (.builtin "BaseException.__getattribute__"))) (ea:findIn K (.ref C) "__getattr__"=some none)
  (hx:h.get? a=some o) (hc:o.cls=.ref C) (hq:Q (some (.ref C)) ⟨h,g,d,t+1,os⟩):wpAny (model prog w) A (getAttr? (.ref a) "__class__") Q E ⟨h,g,d,t,os⟩:=by
 have L1:=looks_findIn (M:=model prog w) X eg;have L2:=looks_findIn (M:=model prog w) X ea;have f3:=F.attrBase_ValueError.ga.bind (.ref a);have dU:(Value.builtin "BaseException.__getattribute__"==Value.builtin "object.__getattribute__")=false:=by decide +kernel
 have dS:(onTheHeap (Value.ref C) && Value.builtin "BaseException.__getattribute__"==Value.builtin "object.__getattribute__")=false:=by rw [dU];rfl
 have zQ:(false && onTheHeap (Value.builtin "BaseException.__getattribute__"))=false:=rfl;have hk:builtinKind "BaseException.__getattribute__"=some .slot:=by decide +kernel
 have KL:splitId "BaseException.__getattribute__"=some ("BaseException","__getattribute__"):=by decide +kernel
 have Nt:(Value.ref C::bm).contains (.type "BaseException")=true:=by rw [List.contains_cons,hB];rfl
 have nH:∀ (E4:Value) {Q:Unit->Shared->Prop} {E:Value->Shared->Prop} {A:Around} {t:Nat},Q .unit ⟨h,g,d,t,os⟩->wpAny (model prog w) A (checkBuiltinCall "BaseException.__getattribute__" ⟨[.ref a,E4],[]⟩) Q E ⟨h,g,d,t,os⟩:=by
  intro E4 Q E A t hq;have ha:=F.args_bexc_ga (.ref a) E4;simp only [checkBuiltinCall,hk,KL];refine wpAny_bind ?_
  ·unfold isInstance
   repeat (first | (with_reducible refine wpAny_loadPart_at hx ?_;rw [hc]) | (with_reducible refine wpAny_isSubtype_exc hC ?_;rw [Nt]) | wp_step)
   exact hq
 unfold getAttr? getAttrBy? getAttrBy
 repeat (any_goals (first | assumption | (with_reducible refine wpAny_loadPart_at hx ?_;rw [hc]) | with_reducible refine W.Looks.at L1 ?_ | with_reducible refine W.Looks.at L2 ?_ | wp_step))
 refine codeAny_call_builtin F.attrBase_ValueError.ga.plain F.entry_bexc_ga (nH _ (PD X hC ho ec hx hc ?_))
 repeat (any_goals (first | assumption | wp_step))
end
end PySem
namespace L2
open PySem PySem.Spec PyProof.Rows
open PySem.W (excIn findIn kitOne kitAny KitX)
theorem HZ:∀ {ds:List Addr} {us:List Value},Vals (ds.map V.ref) us->us=ds.map Value.ref
 | [],_,.nil=>rfl
 | d::ds,_,.cons r1 r2=>by
  obtain rfl:_=Value.ref d:=r1;rw [List.map_cons,HZ r2]
section
variable {X:Cx}
noncomputable def dY:V->Option Value
 | .ref D=>some (.ref D)
 | .ty T=>some (.type T)
 | _=>none
end
section
variable {X:Cx}{i j:Nat}{x y n:Str}{C:Addr}{Bw:List Value}{newId BI Bn:String}{e:Expr}{es:List Expr}{t:XK->TE}{ta:TA}{b₀:Stmt}{Md:List Stmt}{ts:TS}{py apos np FG AR pos:Pos}{E:XK}{E':Value->Shared->Prop}
theorem Me (B:Body X)(hE:∀ e s',EL X E e s'->E' e s')(hg:Gl X x)(hm:X.mg x=some (.ref C))(hq:excIn X.K C Bw newId=true)(F:ExcBaseFacts Bn newId BI Bw)(hc:X.calm=true)
  (ha:SA (X.aad E') (e::es) ta) (Cr:(x==("__debug__":Str))=false:=by decide) (he:starEach (e::es) X.env=(false,eval e X.env)::starEach es X.env:=by first | exact CQ | exact C4 | exact C3 | exact CT | exact CU | exact CV | exact E3 | rfl) (CO:(backTo AR (starEach (e::es) X.env)).any (·.1)=false:=by rfl) :
  SS (X.aad E') (.Raise (some (.Call (.Name x np) (e::es) [] AR)) none pos) (Py C E ta):=⟨Pz B hE hg hm hq F hc ha.out Cr he CO⟩
theorem ID {v:V}{u:Value}(hg:Gl X x)(hm:X.mg x=some u)(r:RelV v u)(hd:(x==("__debug__":Str))=false:=by decide):SE X (.Name x pos) (tC v):=⟨Im hg hm r hd⟩
end
end L2
namespace KS
open PySem L2 KM
theorem Ai.put {H H':Hp}{a:Addr}{o:HO}(s:Ai H H')(h:H a=none):Ai H (upd H' a o):=λb u e=>by
 rw [Ac (Ab e h)];exact s b u e
theorem Ai.new {H:Hp}{a:Addr}{o:HO}(h:H a=none):Ai H (upd H a o):=Ai.put (Ai.refl H) h
theorem Paired.app {α β:Type}{F:α->β->Prop}:∀ {a b:List α} {c d:List β},Paired F a c->Paired F b d->Paired F (a++b) (c++d):=by
 intro a b c d p q
 induction p with
 | nil=>exact q
 | cons h _ ih=>exact .cons h ih
theorem BE:16777216=sizeLine:=sizeLine_eq.symm
noncomputable def DQ:Stmt:=.Pass ⟨0,0,0,0⟩
noncomputable def inDef (s:Stmt)(j:Nat):Stmt:=(Az s).getD j DQ
noncomputable def dZ (s:Stmt)(j:Nat):Stmt:=match s with
 | .For _ _ b _ _=>b.getD j DQ
 | _=>DQ
noncomputable def valueOf (s:Stmt):Expr:=match s with
 | .Assign _ v _=>v
 | .Return (some v) _=>v
 | .Expr v _=>v
 | _=>.Constant .none 0 ⟨0,0,0,0⟩
noncomputable def Cv (e:Expr):Scope:=match e with
 | .ListComp _ _ sc _=>sc
 | _=>{ kind:=.function,names:=[],isGenerator:=false,isCoroutine:=false }
theorem Eh {σ:St}{H:Hp}{A B:Hp->Prop}(h:A H):Hu σ H (λb H1=>if b=true then A H1 else B H1):=by
 unfold Hu;exact Cm h
theorem PF {α:Type}{xs:List α}{i:Int}(h0:0<=i)(h1:i < xs.length):∃ v,MZ xs i=some v/\v∈xs:=by
 obtain ⟨j,rfl⟩:=Int.eq_ofNat_of_zero_le h0;have hj:j < xs.length:=by omega
 exact ⟨xs[j],Ar (List.getElem?_eq_getElem hj),List.getElem_mem hj⟩
noncomputable def WV:Sp:=λ_ _ _ _=>False
section
variable {Pr:Program}{w:World}{K:W.Frag}{mg:Str->Option Value}{base:Heap}
theorem Vd {k:Nat}{f:Addr}{fd:FuncData}{ps:List Str}:Av Pr w K mg base Bs k f fd ps WV:=⟨λ_ _ _ _ h=>h.elim,λ_ _ _ _ _ _ _ _ _ _ _ _ _ h=>h.elim⟩
end
theorem Cs {c A B:Prop}[Decidable c](hc:c)(h:A):if c then A else B:=by
 rw [if_pos hc];exact h
theorem CD {c A B:Prop}[Decidable c](hc:¬ c)(h:B):if c then A else B:=by
 rw [if_neg hc];exact h
section
variable {X:Cx}
theorem Fj:DB X (.type "dict") (λxs H Q=>∃ a kvs,xs=[.ref a]/\Rd H a (.dK kvs)/\∀ p,H p=none->Q (.ref p) (upd H p (.dK kvs))):=by
 intro pins s σ H xs us Q I r h;obtain ⟨a,kvs,rfl,e,q⟩:=h;obtain ⟨u,rfl,ru⟩:=vals1 r;obtain rfl:u=Value.ref a:=ru;exact Pg I e λp s' hp I'=>⟨.ref p,_,I',rfl,q p hp⟩
end
end KS
namespace L2
open PySem PySem.Spec PyProof.Rows
section
variable {g:TG}{tt:TT}{te:TE}{σ:St}{Fin:List V->Hp->Prop}
theorem D8 {K:W.Frag}{a:Addr}{xs:List V}{H:Hp}(Pv:Nat->List V->Hp->Prop)(h0:Pv 0 [] H)(hl:∀ i ys H,Pv i ys H->AO K H a xs)(hn:xs.length < sizeLine)
  (hy:∀ i ys H,Pv i ys H->ys.length<=i)
  (hs:∀ i x ys H,xs[i]?=some x->Pv i ys H->g x σ H fun σ2 H2=>Ext σ σ2/\tt σ2 H2 λb H3=>if b=true then te σ2 H3 λy H4=>Pv (i+1) (ys++[y]) H4 else Pv (i+1) ys H3)
  (mg:∀ x σ H Q Q',(∀ σ' H',Q σ' H'->Q' σ' H')->g x σ H Q->g x σ H Q') (mt:∀ σ H Q Q',(∀ b H',Q b H'->Q' b H')->tt σ H Q->tt σ H Q') (me:∀ σ H Q Q',(∀ v H',Q v H'->Q' v H')->te σ H Q->te σ H Q')
  (hd:∀ ys H,Pv xs.length ys H->Fin ys H):Dq (Rf K a) H σ g tt te Fin:=by
 refine ⟨λi m ys H=>m=xs.length - i/\i<=xs.length/\Pv i ys H,⟨xs.length,by simp,Nat.zero_le _,h0⟩,?_⟩;rintro i m ys H ⟨rfl,hi,p⟩;have q:=hl i ys H p;have zR:=hy i ys H p;refine ⟨(),?_⟩;by_cases DL:i < xs.length
 ·refine .inr ⟨⟨xs,xs[i],q,by simp [DL]⟩,(),λx H' y=>?_⟩;obtain ⟨e,y⟩:=y;subst e;refine mg _ _ _ _ _ (fun σ2 H2 z=>⟨z.1,mt _ _ _ _ (λb H3 z=>?_) z.2⟩) (hs i x ys _ (y xs q) p);cases b with
  | true=>exact me _ _ _ _ (λy H4 z=>⟨xs.length - (i+1),(),rfl,DL,z⟩) z
  | false=>exact ⟨xs.length - (i+1),(),rfl,DL,z⟩
 ·have e:i=xs.length:=by omega
  subst e;exact .inl ⟨⟨xs,q,Nat.le_refl _⟩,hd ys H p⟩
end
section
variable {X:Cx}
noncomputable def nM:R2:=λx y H Q=>∃ d d',M9 H d x/\M9 H d' y/\SeqAt.shaped d=true/\SeqAt.shaped d'=true/\Q (.bl (PyData.eqv d d')) H
theorem Nu (hu:X.A.units+64 < cLine):Fw X (compareOp .Eq) nM:=by
 intro pins s σ H x y v u Q I rx ry h;obtain ⟨t,t',k1,k2,d1,d2,q⟩:=h;obtain ⟨as,ra⟩:=M9.reads I.hok k1 rx;obtain ⟨bs,rb⟩:=M9.reads I.hok k2 ry;exact eq_dataH ra rb d1 d2 hu (AH I q rfl)
noncomputable def Ju (ta:TA):TE:=fun σ H Q=>ta σ H λvs H1=>∃ n:Nat,vs=[.int n]/\n<=1000000/\∀ l,H1 l=none->Q (.ref l) (upd H1 l (.lst ((List.range n).map λi:Nat=>V.int i)))
theorem KO {a:Expr}{ta:TA}{p1 p2 Fm C8:Pos}(hc:X.calm=true)(PH:Gl X "list")(PJ:X.mg "list"=none)(WW:Gl X "range")(WX:X.mg "range"=none)(ha:PA X [a] ta)
  (hs:starEach [a] X.env=[(false,eval a X.env)]:=by rfl)
  (he:starEach [.Call (.Name "range" p2) [a] [] C8] X.env=(false,eval (.Call (.Name "range" p2) [a] [] C8) X.env)::starEach [] X.env:=by rfl) :
  PE X (.Call (.Name "list" p1) [.Call (.Name "range" p2) [a] [] C8] [] Fm) (Ju ta):=by
 intro pins s σ H Q I h;refine wpAny_Call_Name_kw (Cq I PH PJ boot_list ?_);refine PyProof.Rows.callWith_type1 ?_ he rfl;rw [he];show wpAny _ _ (spliced ((false,eval (.Call (.Name "range" p2) [a] [] C8) X.env)::backTo Fm (starEach [] X.env))) _ _ s;refine Calls.spliced_cons ?_;refine Call_ (Cq I WW WX boot_range (PyProof.Rows.callWith_type1 (AY (ha C8 pins s σ H _ I h) λus s1 q1=>?_) hs rfl));obtain ⟨vs,H1,I1,r1,n,rfl,hn,q⟩:=q1;obtain ⟨u,rfl,ru⟩:=vals1 r1;obtain ⟨t,rfl⟩:=ru;refine call_range_1 ?_;refine Calls.spliced_nil ?_;have I2:Inv X pins σ H1 { s1 with heap:=s1.heap.push { cls:=.type "range",data:=.fields #[.int 0 s1.toks,.int n t,.int 1 (s1.toks+1)] },toks:=s1.toks+1+1 }:=I1.kept λb o z=>Heap.get?_push_of_some _ z;refine call_list_range (I.ok.hd hc) (IsRange.new ..) (small_one () () () ()) (n:=n) (by rw [rangeSize_one];split <;> omega) () λh' tk acc c hk hS hA=>?_;have nS:H1 (s1.heap.push { cls:=.type "range",data:=.fields #[.int 0 s1.toks,.int n t,.int 1 (s1.toks+1)] }).objs.size=none:=I2.hok.fresh (Nat.le_refl _);have hb:=sizeLine_eq;refine ⟨.ref _,_,I2.laid (o:=.lst ((List.range n).map λi:Nat=>V.int i)) (t':=tk) hk (Nat.le_refl _) ⟨by rw [List.length_map,List.length_range];omega,acc.toList,c,?_,by simpa using hS⟩,rfl,q _ nS⟩;have key:∀ (k:Nat) (us:List Value),us.length=k->(∀ (i:Nat) u,us[i]?=some u->∃ t,u=.int (i:Int) t)->Vals ((List.range k).map λi:Nat=>V.int i) us:=by
  intro k
  induction k with
  | zero=>intro us h1 _;cases us with | nil=>exact .nil | cons _ _=>simp at h1
  | succ k ih =>
   intro us h1 h2;rw [List.range_succ,List.map_append];have hk:k < us.length:=(by omega);have e:us=us.take k++[us[k]]:=by
    have:=List.take_append_getElem hk;rw [this,List.take_of_length_le ()]
   rw [e];refine Vals.append (ih _ (by rw [List.length_take];omega) λi u hu=>?_) (.cons ?_ .nil)
   ·rw [List.getElem?_take] at hu;split at hu
    ·exact h2 i u hu
    ·cases hu
   ·exact h2 k _ (List.getElem?_eq_getElem hk)
 refine key n acc.toList (by rw [Array.length_toList];exact hA.1) λi u hu=>?_;obtain ⟨t',e⟩:=hA.2 i u (by simpa using hu);exact ⟨t',by rw [e];simp⟩
end
structure kr (X:Cx)(tg:List Expr)(g:Rc):Prop where out:cJ X tg g
section
variable {X:Cx}{a b e:Expr}{es:List Expr}{ta tb:TE}{p1 p2 pos Fm C8:Pos}
theorem Nv {t:TA}(hc:X.calm=true)(PH:Gl X "list")(PJ:X.mg "list"=none)(WW:Gl X "range")(WX:X.mg "range"=none)(ha:SA X [a] t)
  (hs:starEach [a] X.env=[(false,eval a X.env)]:=by rfl)
  (he:starEach [.Call (.Name "range" p2) [a] [] C8] X.env=(false,eval (.Call (.Name "range" p2) [a] [] C8) X.env)::starEach [] X.env:=by rfl) :
  SE X (.Call (.Name "list" p1) [.Call (.Name "range" p2) [a] [] C8] [] Fm) (Ju t):=⟨KO hc PH PJ WW WX ha.out hs he⟩
theorem Ei (hu:X.A.units+1 < cLine)(ha:SE X a ta)(hb:SE X b tb)(hm:behindInMarks .NotIn b=false:=by rfl):ST X (.Compare a [.NotIn] [b] pos) (tB (Ga ta tb)):=⟨Oy (Nf hu ha.out hb.out) hm⟩
theorem Ve (hu:X.A.units+1 < cLine)(ha:SE X a ta)(hb:SE X b tb)(hm:behindInMarks .In b=false:=by rfl):ST X (.Compare a [.In] [b] pos) (tB (di ta tb)):=⟨Oy (WB hu ha.out hb.out) hm⟩
theorem GH:kr X [] RE:=⟨RF⟩
theorem Cw {t:TG}{u:Rc}(h1:SG X e t)(h2:kr X es u)(hs:(assignEach (e::es) X.env).map (·.2)=assign e X.env::(assignEach es X.env).map (·.2):=by rfl):kr X (e::es) (HE t u):=⟨OG h1.out h2.out hs⟩
theorem Jv {k:Nat}{t:Rc}{n:Nat}(hc:X.calm=true)(h:kr X es t)(hn:(assignEach es X.env).length=n:=by rfl)(Ho:(assignEach es X.env).findIdx? (·.1)=none:=by rfl):SG X (.Tuple es k pos) (RG X.K n t):=⟨VX hc h.out hn Ho⟩
theorem KP {scope:Scope}{cl:List (Str × Addr)}{own fr:List Str}{js:List Nat}{elt iter tg:Expr}{ifs:List Expr}{g:TG}{tt:TT}{te:TE}{wi:TI}{i:Nat}{y:Str}{py Pk:Pos}(hN:X.N.Nodup)(hy:X.N[i]?=some y)(hx:Loc X.env.scope y)(S:Bj X scope cl own fr js)(EK:X.calm=true)(hi:SI X tg iter wi)
  (hg:∀ C s0 H0 ex,SG (X.cmp scope cl own fr C s0 H0 ex) tg g) (ht:∀ C s0 H0 ex,SF (X.cmp scope cl own fr C s0 H0 ex) ifs tt) (he:∀ C s0 H0 ex,SE (X.cmp scope cl own fr C s0 H0 ex) elt te)
  (ni:swapsWith (.ListComp elt [⟨tg,iter,ifs,0⟩] scope pos) (some (.Name y py)) Pk.line X.env=pure true:=by rfl)
  (hf:X.fn y=true\/X.env.scope.names.lookup y=some .local:=by first | exact .inl rfl | exact .inr rfl | assumption)
  (hs:∀ x,foldedSetIterable iter X.env x=pure x:=by intro _;rfl):SS X (.Assign [.Name y py] (.ListComp elt [⟨tg,iter,ifs,0⟩] scope pos) Pk) (Kz i own js wi g tt te) :=
 ⟨Sb hN hy hx S EK hi.out (λC s0 H0 ex=>(hg C s0 H0 ex).out) (λC s0 H0 ex=>(ht C s0 H0 ex).out) (λC s0 H0 ex=>(he C s0 H0 ex).out) ni hf hs⟩
end
section
variable {X:Cx}{pins:List (Addr × Obj)}{σ:St}{H:Hp}{s:Shared}{d:Addr}{o:Obj}{kvs:List (Key × V)}
theorem Jw {P:Program}{w:World}{h:Heap}{u u':HO}(x:Dv P w H h)(hd:H d=some u)(hm:∀ xs,u≠.tup xs)(ho:∀ y,u≠.own y)(VJ:AN P w (upd H d u') h d u'):Dv P w (upd H d u') h:=λb v e=>by
 by_cases hb:b=d
 ·subst hb;rw [Ad] at e;cases e;exact VJ
 ·rw [Ac hb] at e;refine (x b v e).aat (λ_ _ _ q=>q) (λc q=>?_) λc xs q=>?_
  ·rw [Ac (λz=>by rw [z,hd] at q;exact ho _ (Option.some.inj q))];exact q
  ·rw [Ac (λz=>by rw [z,hd] at q;exact hm _ (Option.some.inj q))];exact q
theorem Inv.freeze (I:Inv X pins σ H s)(hd:H d=some (.dK kvs))(ho:s.heap.get? d=some o):Inv X pins σ (upd H d (.frz o (.dK kvs))) s:=by
 have ne:∀ b u,H b=some u->(u≠.dK kvs)->b≠d:=λb u q n z=>by rw [z,hd] at q;exact n (Option.some.inj q).symm
 have:=I.un (t':=s.toks) (H':=upd H d (.frz o (.dK kvs))) (h':=s.heap) ⟨λb v e _ _ _=>e,λb v e _ _ _=>⟨v.slots,e⟩,λb v e n _=>?_,λb v e _=>⟨v,e⟩,λb xs q=>?_,λb v u q=>?_,λb ps q=>⟨#[],?_⟩⟩ (Jw I.hok hd (λ_ z=>by cases z) (λ_ z=>by cases z) ⟨ho,?_⟩)
 ·exact this
 ·rw [Ac (λz=>by rw [z,hd] at n;cases n)];exact n
 ·rw [Ac (ne b _ q (λz=>by cases z))];exact q
 ·rw [Ac (ne b _ q (λz=>by cases z))];exact q
 ·rw [Ac (ne b _ q (λz=>by cases z)),q];simp
 ·exact I.hok d _ hd
theorem Inv.ab8 (I:Inv X pins σ H s)(hd:H d=some (.frz o (.dK kvs)))(h0:∀ o' u,X.H₀ d≠some (.frz o' u)):Inv X pins σ (upd H d (.dK kvs)) s:=by
 have ne:∀ b u,H b=some u->(u≠.frz o (.dK kvs))->b≠d:=λb u q n z=>by rw [z,hd] at q;exact n (Option.some.inj q).symm
 have nn:∀ b,H b=none->b≠d:=λb n z=>by rw [z,hd] at n;cases n
 obtain ⟨ok,os,bare,base,loc,cell,free,aae,pin,hok,len⟩:=I;refine ⟨ok,os,bare,⟨base.keep,base.slot,λb v e n hx=>?_,base.there,λb xs q=>?_,λb v u q=>?_,λb ps q=>?_⟩,loc,cell,?_,λx c e=>?_,λp hp=>?_,Jw hok hd (λ_ z=>by cases z) (λ_ z=>by cases z) (hok d _ hd).2,len⟩
 ·have:=base.free b v e n hx;rw [Ac (nn b this)];exact this
 ·have:=base.aas b xs q;rw [Ac (ne b _ this (λz=>by cases z))];exact this
 ·have:=base.aaq b v u q;rw [Ac (λz=>h0 v u (by rw [<- z];exact q))];exact this
 ·obtain ⟨more,this⟩:=base.aar b ps q;exact ⟨more,by rw [Ac (ne b _ this (λz=>by cases z))];exact this⟩
 ·rw [Ac (nn _ free)];exact free
 ·rw [Ac (nn _ (aae x c e))];exact aae x c e
 ·obtain ⟨e,n,r⟩:=pin p hp;exact ⟨e,by rw [Ac (nn _ n)];exact n,r⟩
theorem Inv.dictAt (I:Inv X pins σ H s)(hd:H d=some (.frz o (.dK kvs))){es:Array DictEntry}{ep:Nat}(he:o.data=.dict es ep):∃ vs,KV kvs vs/\s.heap.DictAt (AS X.prog X.w) d vs ep:=by
 obtain ⟨h1,_,_,vs,r,o',cD,jX,e1,e2,e3,e4⟩:=I.hok d _ hd;rw [h1] at e1;cases e1;rw [he] at e3;cases e3;exact ⟨vs,r,o,es,h1,e2,he,e4⟩
end
theorem PK {P:Program}{w:World}{k:Key}{v:Value}(h:(AS P w).is k v=true):RelV (kV k) v:=by
 rcases Bb (show Gh k v=true from h) with ⟨i,t,rfl,rfl⟩ | ⟨x,t,rfl,rfl⟩
 ·exact ⟨t,rfl⟩
 ·exact ⟨t,rfl⟩
theorem KV.at {kvs:List (Key × V)}{vs:List (Key × Value)}(r:KV kvs vs){i:Nat}{p:Key × V}(h:kvs[i]?=some p):∃ v,vs[i]?=some (p.1,v)/\RelV p.2 v:=by
 induction r generalizing i with
 | nil=>simp at h
 | cons h1 h2 ih =>
  cases i with
  | zero =>
   simp at h;subst h;rename_i b _ _;obtain ⟨b1,b2⟩:=b;obtain ⟨e,q⟩:=h1;exact ⟨b2,by simp at e ⊢;exact e.symm,q⟩
  | succ i =>
   simp at h;obtain ⟨v,e,q⟩:=ih h;exact ⟨v,by simpa using e,q⟩
section
variable {X:Cx}
variable {a b o i value e:Expr}{ta tb td ty tv:TE}{pos pos':Pos}{f:Str}
theorem Ao (he:SE X e ta)(hb:attributeBase e f X.env (eval e X.env)=eval e X.env:=by rfl):SE X (.Attribute e f pos) (Km X.K ta f):=⟨Wg he.out hb⟩
theorem EM (ha:SE X o ta)(hv:SE X value tv)(hs:swapsWith value (some (.Attribute o f pos')) pos.line X.env=pure false:=by rfl):SS X (.Assign [.Attribute o f pos'] value pos) (cV X.K ta tv f):=⟨Wh ha.out hv.out hs⟩
end
noncomputable def nO (H₀:Hp)(Q:Hp->Prop)(H:Hp):Prop:=Q H\/∃ d o kvs,H d=some (.frz o (.dK kvs))/\(∀ o' u,H₀ d≠some (.frz o' u))/\Q (upd H d (.dK kvs))
section
variable {X:Cx}{e:Expr}{te:TE}{st:Stmt}{ts:TS}
theorem PL (h:SS X st ts):SS X st (λD σ H=>ts { D with nx:=fun σ' H'=>nO X.H₀ (D.nx σ') H' } σ H):=⟨λpins s σ H D I hw=>AY (h.out pins s σ H _ I hw) λf s1 q=>by
 cases f with
 | next =>
  obtain ⟨σ1,H1,I1,q⟩:=q;rcases q with q | ⟨d,o,kvs,hd,h0,q⟩
  ·exact ⟨σ1,H1,I1,q⟩
  ·exact ⟨σ1,_,I1.ab8 hd h0,q⟩
 | brk=>exact q
 | cont=>exact q
 | ret u=>exact q⟩
end
theorem PN {kvs:List (Key × V)}{k:Key}{v u:V}(h:Bu kvs k=some u):(putK kvs k v).map (·.1)=kvs.map (·.1):=by
 unfold putK;rw [DD,h];rw [if_pos (show (some u).isSome=true from rfl),List.map_map];refine List.map_congr_left λp _=>?_;show (if p.1=k then (p.1,v) else p).1=p.1
 by_cases e:p.1=k
 ·rw [if_pos e]
 ·rw [if_neg e]
theorem Ej (kvs:List (Key × V))(k:Key)(v:V):(putK kvs k v).length<=kvs.length+1/\kvs.length<=(putK kvs k v).length:=by
 cases e:Bu kvs k with
 | none=>rw [Ec _ e,List.length_append];simp
 | some u =>
  have:=congrArg List.length (PN (v:=v) e);simp at this;omega
section
variable {X:Cx}{pos:Pos}{tg e o i:Expr}{te to ti:TE}{g:TG}{t:RC}
theorem Jx (he:SE X e te)(hg:SG X tg g)(hs:swapsWithSole [tg] e pos.line X.env=pure false:=by rfl)(hw:swappedStores [tg] e X.env=pure none:=by rfl)
  (h1:(assignEach [tg] X.env).map (·.2)=[assign tg X.env]:=by rfl):SS X (.Assign [tg] e pos) (MK te g):=⟨VZ he.out hg.out hs hw h1⟩
theorem Jy (ho:SE X o to)(hi:SE X i ti)(hs:VW X t)
  (ha:∀ v,assign (.Subscript o i pos) X.env v=(do
   let ov <- holding [v] (eval o X.env)
   let iv <- holding [v,ov] (eval i X.env)
   standAt pos
   holding [v,ov,iv] (setItem ov iv v)
   release [v,ov,iv] []):=by intro _;rfl):SG X (.Subscript o i pos) (cK to ti t):=⟨VY ho.out hi.out hs ha⟩
theorem KQ:SS X (.Continue pos) UR:=⟨Jb⟩
theorem Mf {C f:Addr}{k:Nat}{fd:FuncData}{ps:List Str}{sp:Sp}{x:Str}{p:Pos}(M:Mk X.K C f)(F:Av X.prog X.w X.K X.mg X.base Bs k f fd ps sp)(hr:Am (k+1) X.A)(hg:Gl X x)(hm:X.mg x=some (.ref C))(hb:Binds X.K fd ps [])
  (Cr:(x==("__debug__":Str))=false:=by decide):SE X (.Call (.Name x p) [] [] pos) (V0 C sp [] E0 Dp):=⟨OX M F hr hg hm hb .nil Jp Cr⟩
end
theorem Fn {n j:Nat}(h:j < n):P4 n (j:Int)=some j:=by
 have:=Ar (xs:=List.range n) (j:=j) (v:=j) (by simp [h]);unfold MZ at this;rw [List.length_range] at this;cases e:P4 n (j:Int) with
 | none=>rw [e] at this;cases this
 | some i =>
  rw [e] at this;have this:(List.range n)[i]?=some j:=this;obtain ⟨h1,h2⟩:=List.getElem?_eq_some_iff.mp this;rw [List.getElem_range] at h2;rw [h2]
end L2
namespace PySem
noncomputable def DG (tu:Bool)(h:Heap)(i l:Addr)(k:Nat):Prop:=if tu=true then h.IsTupleIter i l k else h.IsListIter i l k
noncomputable def EB (tu:Bool)(h:Heap)(l:Addr)(xs:Array Value):Prop:=if tu=true then h.IsTuple l xs else h.IsList l xs
section
variable {tu:Bool}{h h':Heap}{i l c:Addr}{k:Nat}{xs:Array Value}
theorem DG.at (x:DG tu h i l k)(e:∀ o,h.get? i=some o->h'.get? i=some o):DG tu h' i l k:=by
 cases tu with
 | false=>exact Heap.IsListIter.at (h:=h) x e
 | true=>exact Heap.IsTupleIter.at (h:=h) x e
theorem EB.at (x:EB tu h l xs)(e:∀ o,h.get? l=some o->h'.get? l=some o):EB tu h' l xs:=by
 cases tu with
 | false=>exact Heap.IsList.at (h:=h) x e
 | true =>
  have x:h.IsTuple l xs:=x;obtain ⟨o,ho,r⟩:=x;exact (show h'.IsTuple l xs from ⟨o,e o ho,r⟩)
theorem DG.extBut (x:DG tu h i l k)(hs:Heap.ExtBut c h h')(n:i≠c):DG tu h' i l k:=x.at λo e=>hs i o n e
theorem EB.extBut (x:EB tu h l xs)(hs:Heap.ExtBut c h h')(n:l≠c):EB tu h' l xs:=x.at λo e=>hs l o n e
theorem DG.ex (x:DG tu h i l k):∃ o,h.get? i=some o:=by
 cases tu with
 | false =>
  have x:h.IsListIter i l k:=x;obtain ⟨o,e,_⟩:=x;exact ⟨o,e⟩
 | true =>
  have x:h.IsTupleIter i l k:=x;obtain ⟨o,e,_⟩:=x;exact ⟨o,e⟩
theorem EB.ex (x:EB tu h l xs):∃ o,h.get? l=some o:=by
 cases tu with
 | false =>
  have x:h.IsList l xs:=x;obtain ⟨o,e,_⟩:=x;exact ⟨o,e⟩
 | true =>
  have x:h.IsTuple l xs:=x;obtain ⟨o,e,_⟩:=x;exact ⟨o,e⟩
end
section
variable {prog:Program}{w:World}{A:Around}{E:Value->Shared->Prop}{s:Shared}{tu:Bool}{it l:Addr}{i:Nat}{xs:Array Value}
theorem Gd {x:Value}{Q:Value->Shared->Prop}(hit:DG tu s.heap it l i)(hl:EB tu s.heap l xs)(hx:xs[i]?=some x)
  (hQ:∀ h',DG tu h' it l (i+1)->Heap.SameBut it s.heap h'->Q x { s with heap:=h' }):wpAny (model prog w) A (Builtin.SmallTypes.nextOf (.ref it)) Q E s:=by
 cases tu with
 | false=>exact wpAny_nextOf_list_item hit hl hx hQ
 | true =>
  have hit:s.heap.IsTupleIter it l i:=hit;have hl:s.heap.IsTuple l xs:=hl;have ty:=hit.typeIs;obtain ⟨o,ho,hc,hd⟩:=hit;obtain ⟨ol,nP,_,nl,nQ⟩:=hl;unfold Builtin.SmallTypes.nextOf;refine wpAny_bind (wpAny_callSpecial?_slot (name:=Str.ofString "__next__") ty F.slot_tuple_iterator_next (wpAny_call_entry F.slot_tuple_iterator_next ty F.entry_tuple_iterator_next ?_ (F.args_tuple_iterator_next_1 _)));show wpAny (model prog w) _ (field (Value.ref it) 0 >>= _) _ _ _;refine wpAny_bind (wpAny_field ho hd (x:=.ref l) rfl ?_);show wpAny (model prog w) _ (if (Value.ref l==.none)=true then _ else _) _ _ _
  rw [if_neg (show ¬ (Value.ref l==.none)=true from Bool.false_ne_true)];show wpAny (model prog w) _ (field (Value.ref it) 1 >>= _) _ _ _;refine wpAny_bind (wpAny_field ho hd (x:=.int i 0) rfl ?_);show wpAny (model prog w) _ (seqItems? (Value.ref l) >>= _) _ _ _;refine wpAny_bind (wpAny_seqItems nP nQ ?_);simp only [Int.toNat_natCast,hx];refine wpAny_bind (wpAny_setField ho hd (by simp) (wpAny_pure ⟨x,rfl,wpAny_pure (hQ _ (show Heap.IsTupleIter _ it l (i+1) from ?_) (Heap.SameBut.update ..))⟩));refine ⟨_,Heap.get?_update_self _ ho (Obj.isFreed_of_fields (Obj.data_mapFields hd _)),(Obj.cls_mapFields ..).trans hc,?_⟩;rw [Obj.data_mapFields hd];simp [rawInt]
theorem PQ {Q:Value->Shared->Prop}(hh:A.handled=none)(hit:DG tu s.heap it l i)(hl:EB tu s.heap l xs)(hx:xs[i]?=none)
  (hE:∀ h' e,Heap.ExtBut it s.heap h'->(∃ o,h'.get? e=some o/\o.cls=.type "StopIteration")->E (.ref e) { s with heap:=h' }):wpAny (model prog w) A (Builtin.SmallTypes.nextOf (.ref it)) Q E s:=by
 cases tu with
 | false=>exact wpAny_nextOf_list_end hh hit hl hx hE
 | true =>
  have hit:s.heap.IsTupleIter it l i:=hit;have hl:s.heap.IsTuple l xs:=hl;have ty:=hit.typeIs;obtain ⟨o,ho,hc,hd⟩:=hit;obtain ⟨ol,nP,_,nl,nQ⟩:=hl;unfold Builtin.SmallTypes.nextOf;refine wpAny_bind (wpAny_callSpecial?_slot (name:=Str.ofString "__next__") ty F.slot_tuple_iterator_next (wpAny_call_entry F.slot_tuple_iterator_next ty F.entry_tuple_iterator_next ?_ (F.args_tuple_iterator_next_1 _)));show wpAny (model prog w) _ (field (Value.ref it) 0 >>= _) _ _ _;refine wpAny_bind (wpAny_field ho hd (x:=.ref l) rfl ?_);show wpAny (model prog w) _ (if (Value.ref l==.none)=true then _ else _) _ _ _
  rw [if_neg (show ¬ (Value.ref l==.none)=true from Bool.false_ne_true)];show wpAny (model prog w) _ (field (Value.ref it) 1 >>= _) _ _ _;refine wpAny_bind (wpAny_field ho hd (x:=.int i 0) rfl ?_);show wpAny (model prog w) _ (seqItems? (Value.ref l) >>= _) _ _ _;refine wpAny_bind (wpAny_seqItems nP nQ ?_);simp only [Int.toNat_natCast,hx];refine wpAny_bind (wpAny_rule (wpAny_bind (wpAny_setField ho hd (by simp) ?_)));show wpAny (model prog w) _ (newExc (.type "StopIteration") [] >>= _) _ _ _;refine wpAny_bind ?_;simp only [newExc,newTuple];refine wpAny_bind (wpAny_newObj_type ?_ (by size_fits));refine wpAny_bind (m:=firstArgMember _ _) (wpAny_of_eq (a:=Value.none) (by first | rfl | (simp only [firstArgMember];rfl)) ?_)
  refine wpAny_newObj_type ?_ (by size_fits);simp only [raiseNew];refine wpAny_bind (wpAny_handled ?_)
  first | rw [show A.in1.handled=none from hh] | rw [hh]
  refine wpAny_bind (wpAny_pure (wpAny_throw ?_));exact hE _ _ (((Heap.SameBut.update ..).extBut.push _).push _) ⟨_,Heap.get?_push_size _ rfl,rfl⟩
end
theorem Jz {M:Model}{A:Around}{a:Addr}{Q:Option Obj->Shared->Prop}{E:Value->Shared->Prop}{s:Shared}(h:Q (s.heap.get? a) s):wpAny M A (loadIfAlive a) Q E s:=by
 intro Γ p _;show Sem.wp M Γ (.loadIfAlive a .pure) _ _ p s;rw [Sem.wp_loadIfAlive];simpa using h
abbrev Dg (h:Heap)(z TI TO:Addr)(f0 f1:Value):Prop :=
 h.get? z=some { cls:=.type "zip",dict:=none,data:=.fields #[f0,f1,.bool false,.ref TI,.ref TO],slots:=#[] }
section
variable {prog:Program}{w:World}{A:Around}{E:Value->Shared->Prop}{s:Shared}
theorem GJ {z TI TO T:Addr}{b:Bool}{oT:Obj}{Q:Bool->Shared->Prop}(hz:Dg s.heap z TI TO (rawInt T) (.bool b))(hT:s.heap.get? T=some oT)
  (hQ:∀ h',Dg h' z TI TO (rawInt T) (.bool true)->Heap.SameBut z s.heap h'->Q false { s with heap:=h' }):wpAny (model prog w) A (Builtin.SmallTypes.ownedTupleIsFree (.ref z)) Q E s:=by
 unfold Builtin.SmallTypes.ownedTupleIsFree;refine wpAny_bind (wpAny_field hz rfl (x:=rawInt T) rfl ?_);show wpAny _ _ (loadIfAlive (T:Int).toNat >>= _) _ _ _;refine wpAny_bind (Jz ?_);rw [Int.toNat_natCast,hT];show wpAny _ _ (field (.ref z) 1 >>= _) _ _ _;refine wpAny_bind (wpAny_field hz rfl (x:=.bool b) rfl ?_);cases b with
 | true =>
  show wpAny _ _ (pure false) _ _ _;exact wpAny_pure (hQ _ hz (Heap.SameBut.refl _ _))
 | false =>
  show wpAny _ _ (setField (.ref z) 1 (.bool true) >>= λ_=>pure false) _ _ _;refine wpAny_bind (wpAny_setField_rec hz (by simp) λh₁ hz₁ hs₁=>wpAny_pure (hQ _ hz₁ hs₁))
theorem Sn {tu:Bool}{z TI TO i1 i2 l1 l2 T:Addr}{b0:Bool}{oT:Obj}{k1 k2:Nat}{xs ys:Array Value}{x y a b:Value}{Q:Value->Shared->Prop}(D:ZipApart z TI TO i1 i2 l1 l2)
  (hz:Dg s.heap z TI TO (rawInt T) (.bool b0)) (hT:s.heap.get? T=some oT) (KR:IsPair s.heap TI (.ref i1) (.ref i2))
  (h1:DG tu s.heap i1 l1 k1) (h2:DG tu s.heap i2 l2 k2) (Dr:EB tu s.heap l1 xs) (E9:EB tu s.heap l2 ys) (hx:xs[k1]?=some x) (hy:ys[k2]?=some y)
  (hQ:∀ h',Dg h' z TI TO (rawInt T) (.bool true)->DG tu h' i1 l1 (k1+1)->DG tu h' i2 l2 (k2+1)->IsPair h' s.heap.objs.size x y->h'.objs.size=s.heap.objs.size+1 ->
   (∀ c o,c≠z->c≠i1->c≠i2->s.heap.get? c=some o->h'.get? c=some o)->Q (.ref s.heap.objs.size) { s with heap:=h' }) :
  wpAny (model prog w) A (Builtin.«zip.__next__» ⟨[.ref z],[]⟩) (λfin s'=>∃ v,fin=.done (.ret v)/\Q v s') E s:=by
 show wpAny _ _ (field (.ref z) 2 >>= _) _ _ _;refine wpAny_bind (wpAny_field hz rfl (x:=.bool false) rfl ?_);show wpAny _ _ (field (.ref z) 3 >>= _) _ _ _;refine wpAny_bind (wpAny_field hz rfl (x:=.ref TI) rfl ?_);refine wpAny_bind (wpAny_seqItems KR rfl ?_);show wpAny _ _ (Builtin.SmallTypes.ownedTupleIsFree (.ref z) >>= _) _ _ _;refine wpAny_bind (GJ hz hT λh₁ hz₁ hs₁=>?_);simp only [Bool.false_eq_true,if_false];refine wpAny_bind ?_;simp only [List.forIn_toArray,List.forIn_cons,List.forIn_nil];refine wpAny_bind (wpAny_bind (wpAny_holding ?_));show wpAny _ _ (Builtin.SmallTypes.nextOf (.ref i1) >>= _) _ _ _;refine wpAny_bind (Gd (h1.extBut hs₁.extBut D.i1z) (Dr.extBut hs₁.extBut D.l1z) hx λh₂ h1₂ hs₂=>wpAny_pure (wpAny_pure ?_));refine wpAny_bind (wpAny_bind (wpAny_holding ?_));show wpAny _ _ (Builtin.SmallTypes.nextOf (.ref i2) >>= _) _ _ _;refine wpAny_bind (Gd ((h2.extBut hs₁.extBut D.i2z).extBut hs₂.extBut D.i12.symm) ((E9.extBut hs₁.extBut D.l2z).extBut hs₂.extBut D.l2i1) hy λh₃ h2₃ hs₃=>wpAny_pure (wpAny_pure (wpAny_pure ?_)));show wpAny _ _ (newTuple [x,y] >>= _) _ _ _;refine wpAny_bind (wpAny_newTuple ?_);refine wpAny_pure ⟨_,rfl,?_⟩;have hsz:h₃.objs.size=s.heap.objs.size:=by rw [hs₃.1,hs₂.1,hs₁.1]
 have hz₃:Dg h₃ z TI TO (rawInt T) (.bool true):=hs₃.extBut _ _ D.i2z.symm (hs₂.extBut _ _ D.i1z.symm hz₁);show Q (.ref h₃.objs.size) _;have h1₃:DG tu h₃ i1 l1 (k1+1):=h1₂.extBut hs₃.extBut D.i12;have up:∀ c o,h₃.get? c=some o->(h₃.push { cls:=.type "tuple",data:=.seq #[x,y] }).get? c=some o:=λc o e=>Heap.get?_push_of_some _ e;have hT₃:(h₃.push { cls:=.type "tuple",data:=.seq #[x,y] }).get? s.heap.objs.size=some { cls:=.type "tuple",data:=.seq #[x,y] }:=by rw [<- hsz];exact Heap.get?_push_size _ rfl
 rw [hsz];exact hQ _ (up _ _ hz₃) (h1₃.at λo e=>up _ o e) (h2₃.at λo e=>up _ o e) hT₃ (by rw [Heap.size_push,hsz]) λc o c1 c2 c3 e=>up c o (hs₃.extBut _ _ c3 (hs₂.extBut _ _ c2 (hs₁.extBut _ _ c1 e)))
theorem WY {tu:Bool}{z TI TO i1 i2 l1 l2 T:Addr}{b0:Bool}{oT:Obj}{k1 k2:Nat}{xs ys:Array Value}{Q:Fin->Shared->Prop}(hh:A.handled=none)(D:ZipApart z TI TO i1 i2 l1 l2)
  (hz:Dg s.heap z TI TO (rawInt T) (.bool b0)) (hT:s.heap.get? T=some oT) (KR:IsPair s.heap TI (.ref i1) (.ref i2))
  (h1:DG tu s.heap i1 l1 k1) (Dr:EB tu s.heap l1 xs) (hx:xs[k1]?=none)
  (hE:∀ h' e,(∀ c o,c≠z->c≠i1->c≠i2->s.heap.get? c=some o->h'.get? c=some o)->(∃ o,h'.get? e=some o/\o.cls=.type "StopIteration")->E (.ref e) { s with heap:=h' }) :
  wpAny (model prog w) A (Builtin.«zip.__next__» ⟨[.ref z],[]⟩) Q E s:=by
 show wpAny _ _ (field (.ref z) 2 >>= _) _ _ _;refine wpAny_bind (wpAny_field hz rfl (x:=.bool false) rfl ?_);show wpAny _ _ (field (.ref z) 3 >>= _) _ _ _;refine wpAny_bind (wpAny_field hz rfl (x:=.ref TI) rfl ?_);refine wpAny_bind (wpAny_seqItems KR rfl ?_);show wpAny _ _ (Builtin.SmallTypes.ownedTupleIsFree (.ref z) >>= _) _ _ _;refine wpAny_bind (GJ hz hT λh₁ hz₁ hs₁=>?_);simp only [Bool.false_eq_true,if_false];refine wpAny_bind ?_;simp only [List.forIn_toArray,List.forIn_cons,List.forIn_nil];refine wpAny_bind (wpAny_bind (wpAny_holding ?_));show wpAny _ _ (Builtin.SmallTypes.nextOf (.ref i1) >>= _) _ _ _;refine wpAny_bind (PQ hh (h1.extBut hs₁.extBut D.i1z) (Dr.extBut hs₁.extBut D.l1z) hx λh₂ e hs₂ he=>?_);exact hE h₂ e (λc o c1 c2 _ x=>hs₂ _ _ c2 (hs₁.extBut _ _ c1 x)) he
theorem IE {tu:Bool}{z TI TO i1 i2 l1 l2 T:Addr}{b0:Bool}{oT:Obj}{k1 k2:Nat}{xs ys:Array Value}{x y:Value}{Q:Option Value->Shared->Prop}(D:ZipApart z TI TO i1 i2 l1 l2)
  (hz:Dg s.heap z TI TO (rawInt T) (.bool b0)) (hT:s.heap.get? T=some oT) (KR:IsPair s.heap TI (.ref i1) (.ref i2))
  (h1:DG tu s.heap i1 l1 k1) (h2:DG tu s.heap i2 l2 k2) (Dr:EB tu s.heap l1 xs) (E9:EB tu s.heap l2 ys) (hx:xs[k1]?=some x) (hy:ys[k2]?=some y)
  (hQ:∀ h',Dg h' z TI TO (rawInt T) (.bool true)->DG tu h' i1 l1 (k1+1)->DG tu h' i2 l2 (k2+1)->IsPair h' s.heap.objs.size x y->h'.objs.size=s.heap.objs.size+1 ->
   (∀ c o,c≠z->c≠i1->c≠i2->s.heap.get? c=some o->h'.get? c=some o)->Q (some (.ref s.heap.objs.size)) { s with heap:=h' }):wpAny (model prog w) A (pyNext (.ref z)) Q E s:=by
 have eh:s.TypeIs (.ref z) "zip":=⟨_,hz,rfl⟩;unfold pyNext;exact wpAny_bind (wpAny_attempt (wpAny_callSpecial?_slot (name:=Str.ofString "__next__") eh F.slot_zip_next
  (wpAny_call_entry F.slot_zip_next eh F.entry_zip_next
   (Sn (a:=.none) (b:=.none) D hz hT KR h1 h2 Dr E9 hx hy λh' a1 a3 a4 a5 a6 a7=>wpAny_pure (hQ h' a1 a3 a4 a5 a6 a7)) (F.args_zip_next_1 _))))
theorem JA {tu:Bool}{z TI TO i1 i2 l1 l2 T:Addr}{b0:Bool}{oT:Obj}{k1 k2:Nat}{xs ys:Array Value}{Q:Option Value->Shared->Prop}(hh:A.handled=none)(D:ZipApart z TI TO i1 i2 l1 l2)
  (hz:Dg s.heap z TI TO (rawInt T) (.bool b0)) (hT:s.heap.get? T=some oT) (KR:IsPair s.heap TI (.ref i1) (.ref i2))
  (h1:DG tu s.heap i1 l1 k1) (Dr:EB tu s.heap l1 xs) (hx:xs[k1]?=none)
  (hQ:∀ h',(∀ c o,c≠z->c≠i1->c≠i2->s.heap.get? c=some o->h'.get? c=some o)->Q none { s with heap:=h' }):wpAny (model prog w) A (pyNext (.ref z)) Q E s:=by
 have eh:s.TypeIs (.ref z) "zip":=⟨_,hz,rfl⟩;unfold pyNext;refine wpAny_bind (wpAny_attempt (wpAny_callSpecial?_slot (name:=Str.ofString "__next__") eh F.slot_zip_next
  (wpAny_call_entry F.slot_zip_next eh F.entry_zip_next (WY (ys:=ys) (k2:=k2) hh D hz hT KR h1 Dr hx λh' e hk he=>?_) (F.args_zip_next_1 _))))
 obtain ⟨o,ho,hc⟩:=he;refine wpAny_bind (wpAny_isInstance (T:="StopIteration") (b:=true) ⟨o,ho,hc⟩ isSubtype_stop ?_);exact wpAny_pure (hQ _ hk)
theorem So {tu:Bool}{z TI TO i1 i2 l1 l2:Addr}{k1 k2:Nat}{xs ys:Array Value}{x y a b:Value}{Q:Value->Shared->Prop}(D:ZipApart z TI TO i1 i2 l1 l2)
  (hz:IsZip s.heap z TI TO .none) (KR:IsPair s.heap TI (.ref i1) (.ref i2)) (Nw:IsPair s.heap TO a b)
  (h1:DG tu s.heap i1 l1 k1) (h2:DG tu s.heap i2 l2 k2) (Dr:EB tu s.heap l1 xs) (E9:EB tu s.heap l2 ys) (hx:xs[k1]?=some x) (hy:ys[k2]?=some y)
  (hQ:∀ h',IsZip h' z TI TO (rawInt s.heap.objs.size)->IsPair h' TO x y->DG tu h' i1 l1 (k1+1)->DG tu h' i2 l2 (k2+1)->IsPair h' s.heap.objs.size x y->h'.objs.size=s.heap.objs.size+1 ->
   (∀ c o,c≠z->c≠TO->c≠i1->c≠i2->s.heap.get? c=some o->h'.get? c=some o)->Q (.ref s.heap.objs.size) { s with heap:=h' }) :
  wpAny (model prog w) A (Builtin.«zip.__next__» ⟨[.ref z],[]⟩) (λfin s'=>∃ v,fin=.done (.ret v)/\Q v s') E s:=by
 show wpAny (model prog w) _ (field (Value.ref z) 2 >>= _) _ _ _;refine wpAny_bind (wpAny_field hz rfl (x:=.bool false) rfl ?_);show wpAny (model prog w) _ (field (Value.ref z) 3 >>= _) _ _ _;refine wpAny_bind (wpAny_field hz rfl (x:=.ref TI) rfl ?_);refine wpAny_bind (wpAny_seqItems KR rfl ?_);show wpAny (model prog w) _ (Builtin.SmallTypes.ownedTupleIsFree (Value.ref z) >>= _) _ _ _;refine wpAny_bind ?_;unfold Builtin.SmallTypes.ownedTupleIsFree;refine wpAny_bind (wpAny_field hz rfl (x:=.none) rfl (wpAny_pure ?_));simp only [if_true];refine wpAny_bind (wpAny_rule ?_);refine wpAny_bind (wpAny_field hz rfl (x:=.ref TO) rfl ?_);refine wpAny_bind (wpAny_setField_rec hz (by simp) λha (WR:IsZip ha z TI TO .ellipsis) sa=>?_);refine wpAny_bind ?_;simp only [List.zipIdx_cons,List.zipIdx_nil,List.forIn_cons,List.forIn_nil];refine wpAny_bind (wpAny_bind (wpAny_onRaise ?_));show wpAny _ _ (Builtin.SmallTypes.nextOf (.ref i1) >>= _) _ _ _;refine wpAny_bind (Gd (h1.extBut sa.extBut D.i1z) (Dr.extBut sa.extBut D.l1z) hx λhb zS sb=>wpAny_pure ?_);have wL:IsPair hb TO a b:=sb.extBut _ _ D.TOi1 (sa.extBut _ _ D.TOz Nw);refine wpAny_bind (wpAny_seqItems wL rfl ?_);refine wpAny_bind (wpAny_updateSeq_pair wL λhc (zT:IsPair hc TO x b) sc=>?_);refine wpAny_bind (wpAny_letGo (wpAny_pure ?_));refine wpAny_bind (wpAny_bind (wpAny_onRaise ?_));show wpAny _ _ (Builtin.SmallTypes.nextOf (.ref i2) >>= _) _ _ _;refine wpAny_bind (Gd (((h2.extBut sa.extBut D.i2z).extBut sb.extBut D.i12.symm).extBut sc.extBut D.TOi2.symm) (((E9.extBut sa.extBut D.l2z).extBut sb.extBut D.l2i1).extBut sc.extBut D.l2TO) hy λhd zU sd=>wpAny_pure ?_);have wM:IsPair hd TO x b:=sd.extBut _ _ D.TOi2 zT;refine wpAny_bind (wpAny_seqItems wM rfl ?_);refine wpAny_bind (wpAny_updateSeq_pair wM λhe (wN:IsPair he TO x y) se=>?_);refine wpAny_bind (wpAny_letGo (wpAny_pure (wpAny_pure ?_)));refine wpAny_bind (wpAny_seqItems wN rfl ?_);refine wpAny_bind (wpAny_newTuple ?_);have hsz:he.objs.size=s.heap.objs.size:=by rw [se.1,sd.1,sc.1,sb.1,sa.1]
 have wO:IsZip he z TI TO .ellipsis:=se.extBut _ _ D.TOz.symm (sd.extBut _ _ D.i2z.symm (sc.extBut _ _ D.TOz.symm (sb.extBut _ _ D.i1z.symm WR)));have ke:∀ c o,c≠z->c≠TO->c≠i1->c≠i2->s.heap.get? c=some o->he.get? c=some o:=λc o n1 n2 n3 n4 e=>se.extBut _ _ n2 (sd.extBut _ _ n4 (sc.extBut _ _ n2 (sb.extBut _ _ n3 (sa.extBut _ _ n1 e))));have zV:DG tu he i1 l1 (k1+1):=((zS.extBut sc.extBut D.TOi1.symm).extBut sd.extBut D.i12).extBut se.extBut D.TOi1.symm;have zW:DG tu he i2 l2 (k2+1):=zU.extBut se.extBut D.TOi2.symm;have wQ:z < he.objs.size:=Heap.lt_size wO;show wpAny (model prog w) _ (Builtin.SmallTypes.ownedTupleHandOut (Value.ref z) (Value.ref he.objs.size) >>= _) _ _ _;refine wpAny_bind ?_;unfold Builtin.SmallTypes.ownedTupleHandOut;have zX:IsZip (he.push { cls:=.type "tuple",data:=.seq #[x,y] }) z TI TO .ellipsis:=Heap.get?_push_of_some _ wO;refine wpAny_bind (wpAny_setField_rec zX (by simp) λhg (zY:IsZip hg z TI TO (rawInt he.objs.size)) sg=>?_);refine wpAny_setField_rec zY (by simp) λhk (wR:IsZip hk z TI TO (rawInt he.objs.size)) sk=>?_;have up:∀ c o,c≠z->he.get? c=some o->hk.get? c=some o:=λc o n e=>sk.extBut _ _ n (sg.extBut _ _ n (Heap.get?_push_of_some _ e));have Tk:IsPair hk he.objs.size x y:=sk.extBut _ _ (Nat.ne_of_gt wQ) (sg.extBut _ _ (Nat.ne_of_gt wQ) (Heap.get?_push_size _ rfl));have zk:hk.objs.size=he.objs.size+1:=by rw [sk.1,sg.1,Heap.size_push]
 rw [hsz] at wR Tk zk;refine wpAny_pure ⟨_,rfl,?_⟩;show Q (.ref he.objs.size) _;rw [hsz];exact hQ hk wR (up _ _ D.TOz wN) (zV.at λo e=>up _ o D.i1z e) (zW.at λo e=>up _ o D.i2z e) Tk zk λc o n1 n2 n3 n4 e=>up c o n1 (ke c o n1 n2 n3 n4 e)
theorem WZ {tu:Bool}{z TI TO i1 i2 l1 l2:Addr}{k1:Nat}{xs:Array Value}{a b:Value}{Q:Fin->Shared->Prop}(hh:A.handled=none)(D:ZipApart z TI TO i1 i2 l1 l2)
  (hz:IsZip s.heap z TI TO .none) (KR:IsPair s.heap TI (.ref i1) (.ref i2)) (Nw:IsPair s.heap TO a b) (h1:DG tu s.heap i1 l1 k1) (Dr:EB tu s.heap l1 xs) (hx:xs[k1]?=none)
  (hE:∀ h' e,(∀ c o,c≠z->c≠TO->c≠i1->c≠i2->s.heap.get? c=some o->h'.get? c=some o)->(∃ o,h'.get? e=some o/\o.cls=.type "StopIteration")->E (.ref e) { s with heap:=h' }) :
  wpAny (model prog w) A (Builtin.«zip.__next__» ⟨[.ref z],[]⟩) Q E s:=by
 show wpAny (model prog w) _ (field (Value.ref z) 2 >>= _) _ _ _;refine wpAny_bind (wpAny_field hz rfl (x:=.bool false) rfl ?_);show wpAny (model prog w) _ (field (Value.ref z) 3 >>= _) _ _ _;refine wpAny_bind (wpAny_field hz rfl (x:=.ref TI) rfl ?_);refine wpAny_bind (wpAny_seqItems KR rfl ?_);show wpAny (model prog w) _ (Builtin.SmallTypes.ownedTupleIsFree (Value.ref z) >>= _) _ _ _;refine wpAny_bind ?_;unfold Builtin.SmallTypes.ownedTupleIsFree;refine wpAny_bind (wpAny_field hz rfl (x:=.none) rfl (wpAny_pure ?_));simp only [if_true];refine wpAny_bind (wpAny_rule ?_);refine wpAny_bind (wpAny_field hz rfl (x:=.ref TO) rfl ?_);refine wpAny_bind (wpAny_setField_rec hz (by simp) λha (WR:IsZip ha z TI TO .ellipsis) sa=>?_);refine wpAny_bind ?_;simp only [List.zipIdx_cons,List.zipIdx_nil,List.forIn_cons,List.forIn_nil];refine wpAny_bind (wpAny_bind (wpAny_onRaise ?_));show wpAny _ _ (Builtin.SmallTypes.nextOf (.ref i1) >>= _) _ _ _;refine wpAny_bind (PQ hh (h1.extBut sa.extBut D.i1z) (Dr.extBut sa.extBut D.l1z) hx λhb e sb he=>?_);obtain ⟨oe,X1,wU⟩:=he;have ku:IsZip hb z TI TO .ellipsis:=sb _ _ D.i1z.symm WR;have zZ:e≠z:=λq=>by
  subst q;rw [ku] at X1;cases X1;simp at wU
 exact wpAny_setField_rec ku (by simp) λhc _ sc=>hE hc e (λc o n1 _ n3 _ q=>sc.extBut _ _ n1 (sb _ _ n3 (sa.extBut _ _ n1 q))) ⟨oe,sc.extBut _ _ zZ X1,wU⟩
theorem IF {tu:Bool}{z TI TO i1 i2 l1 l2:Addr}{k1 k2:Nat}{xs ys:Array Value}{x y a b:Value}{Q:Option Value->Shared->Prop}(D:ZipApart z TI TO i1 i2 l1 l2)
  (hz:IsZip s.heap z TI TO .none) (KR:IsPair s.heap TI (.ref i1) (.ref i2)) (Nw:IsPair s.heap TO a b)
  (h1:DG tu s.heap i1 l1 k1) (h2:DG tu s.heap i2 l2 k2) (Dr:EB tu s.heap l1 xs) (E9:EB tu s.heap l2 ys) (hx:xs[k1]?=some x) (hy:ys[k2]?=some y)
  (hQ:∀ h',IsZip h' z TI TO (rawInt s.heap.objs.size)->IsPair h' TO x y->DG tu h' i1 l1 (k1+1)->DG tu h' i2 l2 (k2+1)->IsPair h' s.heap.objs.size x y->h'.objs.size=s.heap.objs.size+1 ->
   (∀ c o,c≠z->c≠TO->c≠i1->c≠i2->s.heap.get? c=some o->h'.get? c=some o)->Q (some (.ref s.heap.objs.size)) { s with heap:=h' }):wpAny (model prog w) A (pyNext (.ref z)) Q E s:=by
 have ty:s.TypeIs (.ref z) "zip":=⟨_,hz,rfl⟩;unfold pyNext;exact wpAny_bind (wpAny_attempt (wpAny_callSpecial?_slot (name:=Str.ofString "__next__") ty F.slot_zip_next (wpAny_call_entry F.slot_zip_next ty F.entry_zip_next (So D hz KR Nw h1 h2 Dr E9 hx hy λh' a1 a2 a3 a4 a5 a6 a7=>wpAny_pure (hQ h' a1 a2 a3 a4 a5 a6 a7)) (F.args_zip_next_1 _))))
theorem JB {tu:Bool}{z TI TO i1 i2 l1 l2:Addr}{k1:Nat}{xs:Array Value}{a b:Value}{Q:Option Value->Shared->Prop}(hh:A.handled=none)(D:ZipApart z TI TO i1 i2 l1 l2)
  (hz:IsZip s.heap z TI TO .none) (KR:IsPair s.heap TI (.ref i1) (.ref i2)) (Nw:IsPair s.heap TO a b) (h1:DG tu s.heap i1 l1 k1) (Dr:EB tu s.heap l1 xs) (hx:xs[k1]?=none)
  (hQ:∀ h',(∀ c o,c≠z->c≠TO->c≠i1->c≠i2->s.heap.get? c=some o->h'.get? c=some o)->Q none { s with heap:=h' }):wpAny (model prog w) A (pyNext (.ref z)) Q E s:=by
 have ty:s.TypeIs (.ref z) "zip":=⟨_,hz,rfl⟩;unfold pyNext;refine wpAny_bind (wpAny_attempt (wpAny_callSpecial?_slot (name:=Str.ofString "__next__") ty F.slot_zip_next (wpAny_call_entry F.slot_zip_next ty F.entry_zip_next (WZ hh D hz KR Nw h1 Dr hx λh' e hk he=>?_) (F.args_zip_next_1 _))));obtain ⟨o,ho,hc⟩:=he;exact wpAny_bind (wpAny_isInstance (T:="StopIteration") (b:=true) ⟨o,ho,hc⟩ isSubtype_stop (wpAny_pure (hQ _ hk)))
noncomputable def X2 (tu:Bool)(l:Addr):Obj:={ cls:=.type (if tu=true then "tuple_iterator" else "list_iterator"),data:=.fields #[.ref l,.int 0 0] }
theorem PR {tu:Bool}{h:Heap}{i l:Addr}(e:h.get? i=some (X2 tu l)):DG tu h i l 0:=by
 cases tu with
 | false=>exact (show h.IsListIter i l 0 from ⟨_,e,rfl,rfl⟩)
 | true=>exact (show h.IsTupleIter i l 0 from ⟨_,e,rfl,rfl⟩)
theorem PU {tu:Bool}{l:Addr}{xs:Array Value}{Q:Value->Shared->Prop}(hl:EB tu s.heap l xs)(hQ:Q (.ref s.heap.objs.size) { s with heap:=s.heap.push (X2 tu l) }):wpAny (model prog w) A (pyIter (.ref l)) Q E s:=by
 cases tu with
 | false=>exact wpAny_pyIter_list hl hQ
 | true=>exact wpAny_pyIter_tuple hl hQ
abbrev ky (tu:Bool)(h:Heap)(l1:Addr):Heap:=h.push (X2 tu l1)
abbrev kA (tu:Bool)(h:Heap)(l1 l2:Addr):Heap:=(ky tu h l1).push (X2 tu l2)
abbrev kB (tu:Bool)(h:Heap)(l1 l2:Addr):Heap:=(kA tu h l1 l2).push { cls:=.type "tuple",data:=.seq #[.ref h.objs.size,.ref (ky tu h l1).objs.size] }
abbrev kD (tu:Bool)(h:Heap)(l1 l2:Addr):Heap:=(kB tu h l1 l2).push { cls:=.type "tuple",data:=.seq #[.none,.none] }
abbrev X3 (tu:Bool)(h:Heap)(l1 l2:Addr):Heap:=(kD tu h l1 l2).push { cls:=.type "zip",data:=.fields #[.none,.bool false,.bool false,.ref (kA tu h l1 l2).objs.size,.ref (kB tu h l1 l2).objs.size] }
theorem PV (tu:Bool)(l1 l2:Addr)(xs ys:Array Value):Meets (Builtin.«zip.__new__» ⟨[.type "zip",.ref l1,.ref l2],[]⟩) (λ_ R s=>EB tu s.heap l1 xs/\EB tu s.heap l2 ys/\R (.ok (.ret (.ref (kD tu s.heap l1 l2).objs.size))) { s with heap:=X3 tu s.heap l1 l2 }) :=
 .of_wp λprog w A R s h=>by
  obtain ⟨hp,g,d,tk,os⟩:=s;obtain ⟨Dr,E9,h⟩:=h;have Aaa:=sub_zip;have L1:EB tu (Shared.heap ⟨hp,g,d,tk,os⟩) l1 xs:=Dr;have L2:EB tu (Shared.heap ⟨hp.push (X2 tu l1),g,d,tk,os⟩) l2 ys:=EB.at E9 λo e=>Heap.get?_push_of_some _ e
  wp_walk using PU L1,PU L2
  exact ⟨_,rfl,h⟩
theorem Sq {tu:Bool}{l1 l2:Addr}{xs ys:Array Value}{Q:Value->Shared->Prop}(Dr:EB tu s.heap l1 xs)(E9:EB tu s.heap l2 ys)
  (h:∀ h',IsZip h' (s.heap.objs.size+4) (s.heap.objs.size+2) (s.heap.objs.size+3) .none->IsPair h' (s.heap.objs.size+2) (.ref s.heap.objs.size) (.ref (s.heap.objs.size+1)) ->
   IsPair h' (s.heap.objs.size+3) .none .none->DG tu h' s.heap.objs.size l1 0->DG tu h' (s.heap.objs.size+1) l2 0->h'.objs.size=s.heap.objs.size+5 ->
   (∀ c o,s.heap.get? c=some o->h'.get? c=some o)->Q (.ref (s.heap.objs.size+4)) { s with heap:=h' }):wpAny (model prog w) A (call (.type "zip") [.ref l1,.ref l2]) Q E s:=by
 refine callType_new F.called_zip ⟨⟩ (F.typeCall_zip_2 _ _) (F.newCall_zip_2 _ _) (λobj=>F.args_object_init_3 obj _ _) F.entry_zip_new (PV tu l1 l2 xs ys) ⟨Dr,E9,?_⟩;have z1:(ky tu s.heap l1).objs.size=s.heap.objs.size+1:=Heap.size_push ..;have z2:(kA tu s.heap l1 l2).objs.size=s.heap.objs.size+2:=by rw [Heap.size_push,z1]
 have z3:(kB tu s.heap l1 l2).objs.size=s.heap.objs.size+3:=by rw [Heap.size_push,z2]
 have z4:(kD tu s.heap l1 l2).objs.size=s.heap.objs.size+4:=by rw [Heap.size_push,z3]
 have z5:(X3 tu s.heap l1 l2).objs.size=s.heap.objs.size+5:=by rw [Heap.size_push,z4]
 have g5:(X3 tu s.heap l1 l2).get? (kD tu s.heap l1 l2).objs.size=some _:=Heap.get?_push_size _ rfl;have g4:(X3 tu s.heap l1 l2).get? (kB tu s.heap l1 l2).objs.size=some _:=Heap.get?_push_of_some _ (Heap.get?_push_size _ rfl);have g3:(X3 tu s.heap l1 l2).get? (kA tu s.heap l1 l2).objs.size=some _:=Heap.get?_push_of_some _ (Heap.get?_push_of_some _ (Heap.get?_push_size _ rfl));have g2:(X3 tu s.heap l1 l2).get? (ky tu s.heap l1).objs.size=some (X2 tu l2):=Heap.get?_push_of_some _ (Heap.get?_push_of_some _ (Heap.get?_push_of_some _ (Heap.get?_push_size _ rfl)));have g1:(X3 tu s.heap l1 l2).get? s.heap.objs.size=some (X2 tu l1):=Heap.get?_push_of_some _ (Heap.get?_push_of_some _ (Heap.get?_push_of_some _ (Heap.get?_push_of_some _ (Heap.get?_push_size _ rfl))));show _/\_;rw [z2,z3,z4] at g5;rw [z1,z2] at g3;rw [z3] at g4;rw [z1] at g2;rw [z4];exact ⟨⟨_,g5,rfl⟩,h _ g5 g3 g4 (PR g1) (PR g2) z5 λc o x=>Heap.get?_push_of_some _ (Heap.get?_push_of_some _ (Heap.get?_push_of_some _ (Heap.get?_push_of_some _ (Heap.get?_push_of_some _ x))))⟩
structure Fo (tu:Bool)(h:Heap)(z TI TO i1 i2 l1 l2:Addr)(xs ys:Array Value)(Ts:List Addr):Prop where
 fz:(Ts=[]/\IsZip h z TI TO .none)\/∃ T b,T∈Ts/\Dg h z TI TO (rawInt T) (.bool b)
 fTI:IsPair h TI (.ref i1) (.ref i2)
 fTO:∃ a b,IsPair h TO a b
 f1:DG tu h i1 l1 Ts.length
 f2:DG tu h i2 l2 Ts.length
 g1:EB tu h l1 xs
 g2:EB tu h l2 ys
 fm:∀ (j:Nat) (T:Addr),Ts[j]?=some T->∃ x y,xs[j]?=some x/\ys[j]?=some y/\IsPair h T x y
theorem Fo.keep {h h':Heap}{tu:Bool}{z TI TO i1 i2 l1 l2:Addr}{xs ys:Array Value}{Ts:List Addr}(Z:Fo tu h z TI TO i1 i2 l1 l2 xs ys Ts)(k:∀ c o,c∈[z,TI,TO,i1,i2,l1,l2]++Ts->h.get? c=some o->h'.get? c=some o):Fo tu h' z TI TO i1 i2 l1 l2 xs ys Ts:=by
 refine ⟨?_,k _ _ (by simp) Z.fTI,?_,Z.f1.at λo e=>k _ o (by simp) e,Z.f2.at λo e=>k _ o (by simp) e,Z.g1.at λo e=>k _ o (by simp) e,Z.g2.at λo e=>k _ o (by simp) e,λj T e=>?_⟩
 ·rcases Z.fz with ⟨e,hz⟩ | ⟨T,b,hT,hz⟩
  ·exact .inl ⟨e,k _ _ (by simp) hz⟩
  ·exact .inr ⟨T,b,hT,k _ _ (by simp) hz⟩
 ·obtain ⟨a,b,e⟩:=Z.fTO;exact ⟨a,b,k _ _ (by simp) e⟩
 ·obtain ⟨x,y,h1,h2,h3⟩:=Z.fm j T e;exact ⟨x,y,h1,h2,k _ _ (List.mem_append_right _ (List.mem_of_getElem? e)) h3⟩
theorem Sr {tu:Bool}{z TI TO i1 i2 l1 l2 S:Addr}{xs ys:Array Value}{R:Result->Shared->Prop}{res:Value}(hh:A.in1.handled=none)(D:ZipApart z TI TO i1 i2 l1 l2)(eu:xs.size=ys.size)(hn:xs.size<=1000)(hS:S∉[z,TI,TO,i1,i2,l1,l2]):
  ∀ (k:Nat) (Ts:List Addr) (s:Shared) (c:Nat),xs.size - Ts.length=k->Ts.length<=xs.size->Fo tu s.heap z TI TO i1 i2 l1 l2 xs ys Ts->(∀ T∈Ts,T∉[S,z,TI,TO,i1,i2,l1,l2])->Ts.Nodup->s.heap.get? S=some { cls:=.type "list",dict:=none,data:=.seq (Ts.map Value.ref).toArray c,slots:=#[] } ->
  (∀ (h':Heap) (tk:Nat) (GO:List Addr) (c':Nat),GO.length=xs.size->GO.Nodup->(∀ b o,b∉[S,z,TO,i1,i2]->s.heap.get? b=some o->h'.get? b=some o)->h'.get? S=some { cls:=.type "list",dict:=none,data:=.seq (GO.map Value.ref).toArray c',slots:=#[] } ->
   (∀ (j:Nat) (T:Addr),GO[j]?=some T->∃ x y,xs[j]?=some x/\ys[j]?=some y/\IsPair h' T x y)->(∀ T∈GO,T∈Ts\/s.heap.get? T=none)->R (.ok (.ret res)) { s with heap:=h',toks:=tk }) ->
  codeAny (model prog w) A (.builtin "list.extend.loop" ⟨[.ref S,.ref z,res],[]⟩) R s:=by
 intro k
 induction k with
 | zero =>
  intro Ts s c hk hle Z hT eB Vf hR;have hlen:Ts.length=xs.size:=by omega
  have eC:xs[Ts.length]?=none:=Array.getElem?_eq_none ();refine codeAny_builtin F.entry_extend_loop ?_;rw [Around.under_plainId F.plain_extend_loop _];show wpAny _ A.in1 (pyNext (.ref z) >>= _) _ _ s;have done:∀ h',(∀ b o,b≠z->b≠TO->b≠i1->b≠i2->s.heap.get? b=some o->h'.get? b=some o)->R (.ok (.ret res)) { s with heap:=h' }:=λh' kk=>by
   have nS:S≠z/\S≠TO/\S≠i1/\S≠i2:=(by simp at hS;exact ⟨hS.1,hS.2.2.1,hS.2.2.2.1,hS.2.2.2.2.1⟩);refine hR h' s.toks Ts c hlen eB (λb o hb e=>?_) (kk S _ nS.1 nS.2.1 nS.2.2.1 nS.2.2.2 Vf) (λj T e=>?_) (λT h=>.inl h)
   ·simp at hb;exact kk b o hb.2.1 hb.2.2.1 hb.2.2.2.1 hb.2.2.2.2 e
   ·obtain ⟨x,y,e1,e2,e3⟩:=Z.fm j T e;have:=hT T (List.mem_of_getElem? e);simp at this;exact ⟨x,y,e1,e2,kk T _ this.2.1 this.2.2.2.1 this.2.2.2.2.1 this.2.2.2.2.2.1 e3⟩
  obtain ⟨a,b,Nw⟩:=Z.fTO;rcases Z.fz with ⟨e,hz⟩ | ⟨T,b,kE,hz⟩
  ·exact wpAny_bind (JB hh D hz Z.fTI Nw Z.f1 Z.g1 eC λh' kk=>wpAny_pure (done h' kk))
  ·obtain ⟨j,hj,ej⟩:=List.mem_iff_getElem.mp kE;obtain ⟨x,y,_,_,hp⟩:=Z.fm j T (by rw [List.getElem?_eq_getElem hj,ej]);exact wpAny_bind (JA (ys:=ys) (k2:=0) hh D hz hp Z.fTI Z.f1 Z.g1 eC λh' kk=>wpAny_pure (done h' λb o b1 _ b3 b4 e=>kk b o b1 b3 b4 e))
 | succ k ih =>
  intro Ts s c hk hle Z hT eB Vf hR;have DL:Ts.length < xs.size:=by omega
  have hx:xs[Ts.length]?=some xs[Ts.length]:=Array.getElem?_eq_getElem DL;have hy:ys[Ts.length]?=some (ys[Ts.length]'()):=Array.getElem?_eq_getElem ();refine codeAny_builtin F.entry_extend_loop ?_;rw [Around.under_plainId F.plain_extend_loop _];show wpAny _ A.in1 (pyNext (.ref z) >>= _) _ _ s;simp at hS;obtain ⟨s1,s2,s3,s4,s5,s6,s7⟩:=hS;have hS0:S∉[z,TI,TO,i1,i2,l1,l2]:=by simp;exact ⟨s1,s2,s3,s4,s5,s6,s7⟩
  have Slt:S < s.heap.objs.size:=Heap.lt_size Vf;have step:∀ (h':Heap) (b:Bool),(∃ T,T∈Ts++[s.heap.objs.size]/\Dg h' z TI TO (rawInt T) (.bool b))->(∃ a b,IsPair h' TO a b)->DG tu h' i1 l1 (Ts.length+1)->DG tu h' i2 l2 (Ts.length+1)->IsPair h' s.heap.objs.size xs[Ts.length] (ys[Ts.length]'()) ->
    (∀ b o,b≠z->b≠TO->b≠i1->b≠i2->s.heap.get? b=some o->h'.get? b=some o) ->
    wpAny (model prog w) A.in1 (updateSeq S (·.push (.ref s.heap.objs.size)) >>= λ_=>pure (Fin.again (.builtin "list.extend.loop" ⟨[.ref S,.ref z,res],[]⟩)))
     (λfin s'=>match fin with | .done f=>R (.ok f) s' | .again c'=>c'.quiet=true/\codeAny (model prog w) A c' R s') (λe s'=>R (.error e) s') { s with heap:=h' }:=by
   intro h' b kF eE wV wW hp' kk;have eG:h'.get? S=some { cls:=.type "list",dict:=none,data:=.seq (Ts.map Value.ref).toArray c,slots:=#[] }:=kk S _ s1 s3 s4 s5 Vf;refine wpAny_bind (wpAny_updateSeq (s:={ s with heap:=h' }) eG rfl (wpAny_pure ⟨plainId_quiet F.plain_extend_loop _,?_⟩));have wX:=Heap.get?_update_self (Obj.mapSeq (·.push (Value.ref s.heap.objs.size))) eG rfl;obtain ⟨c1,eJ⟩:∃ c1,(h'.update S (Obj.mapSeq (·.push (Value.ref s.heap.objs.size)))).get? S=some { cls:=.type "list",dict:=none,data:=.seq ((Ts.map Value.ref).toArray.push (.ref s.heap.objs.size)) c1,slots:=#[] }:=⟨_,wX⟩;have ea:(Ts.map Value.ref).toArray.push (Value.ref s.heap.objs.size)=((Ts++[s.heap.objs.size]).map Value.ref).toArray:=(by simp);rw [ea] at eJ;have GP:∀ b o,b≠S->h'.get? b=some o->(h'.update S (Obj.mapSeq (·.push (Value.ref s.heap.objs.size)))).get? b=some o:=λb o hb e=>(Heap.get?_update_other _ _ (Ne.symm hb)).trans e;have Vg:∀ {b o},s.heap.get? b=some o->s.heap.objs.size≠b:=λe=>Nat.ne_of_gt (Heap.lt_size e);have tiz:∃ o,s.heap.get? z=some o:=by
    rcases Z.fz with ⟨_,hz⟩ | ⟨_,_,_,hz⟩
    ·exact ⟨_,hz⟩
    ·exact ⟨_,hz⟩
   obtain ⟨oz,hoz⟩:=tiz;obtain ⟨a0,b0,nR⟩:=Z.fTO;have nX:=Z.f1;obtain ⟨o1,nY⟩:=nX.ex;have nZ:=Z.f2;obtain ⟨o2,V1⟩:=nZ.ex;have o5:=Z.g1;obtain ⟨ol1,X4⟩:=o5.ex;have o7:=Z.g2;obtain ⟨ol2,X5⟩:=o7.ex;have hTn:s.heap.objs.size∉[S,z,TI,TO,i1,i2,l1,l2]:=by
    simp;exact ⟨Vg Vf,Vg hoz,Vg Z.fTI,Vg nR,Vg nY,Vg V1,Vg X4,Vg X5⟩
   have kH:∀ T∈Ts++[s.heap.objs.size],T∉[S,z,TI,TO,i1,i2,l1,l2]:=λT h=>by
    rcases List.mem_append.mp h with y | y
    ·exact hT T y
    ·rw [List.mem_singleton.mp y];exact hTn
   have Z':Fo tu h' z TI TO i1 i2 l1 l2 xs ys (Ts++[s.heap.objs.size]):=by
    refine ⟨.inr ?_,kk _ _ D.TIz D.TITO D.TIi1 D.TIi2 Z.fTI,eE,by rw [List.length_append];exact wV,by rw [List.length_append];exact wW,Z.g1.at λo e=>kk _ o D.l1z D.l1TO D.l1i1 D.l1i2 e,Z.g2.at λo e=>kk _ o D.l2z D.l2TO D.l2i1 D.l2i2 e,λj T e=>?_⟩
    ·obtain ⟨T,h1,h2⟩:=kF;exact ⟨T,b,h1,h2⟩
    ·by_cases hj:j < Ts.length
     ·rw [List.getElem?_append_left hj] at e;obtain ⟨x,y,e1,e2,e3⟩:=Z.fm j T e;have:=hT T (List.mem_of_getElem? e);simp at this;exact ⟨x,y,e1,e2,kk T _ this.2.1 this.2.2.2.1 this.2.2.2.2.1 this.2.2.2.2.2.1 e3⟩
     ·rw [List.getElem?_append_right ()] at e;have Vh:j=Ts.length:=by
       have:=(List.getElem?_eq_some_iff.mp e).1;simp at this;omega
      subst Vh;rw [Nat.sub_self] at e;cases e;exact ⟨_,_,hx,hy,hp'⟩
   have o9:(Ts++[s.heap.objs.size]).Nodup:=by
    refine L2.R' eB λy=>?_;obtain ⟨j,hj,ej⟩:=List.mem_iff_getElem.mp y;obtain ⟨_,_,_,_,e3⟩:=Z.fm j _ (by rw [List.getElem?_eq_getElem hj,ej]);exact absurd (Heap.lt_size e3) (Nat.lt_irrefl _)
   refine ih (Ts++[s.heap.objs.size]) { s with heap:=h'.update S (Obj.mapSeq (·.push (Value.ref s.heap.objs.size))) } c1 (by rw [List.length_append];simp;omega) (by rw [List.length_append];simp;omega) (Z'.keep λb o hb e=>GP b o (λzz=>?_) e) kH o9 eJ λh2 tk GO c' wY bo kk2 Ol m2 oa=>?_
   ·subst zz;rcases List.mem_append.mp hb with y | y
    ·exact hS0 y
    ·exact absurd (List.mem_cons_self) (kH b y)
   ·refine hR h2 tk GO c' wY bo (λb o hb e=>kk2 b o hb (GP b o (λy=>hb (by simp [y])) (by simp at hb;exact kk b o hb.2.1 hb.2.2.1 hb.2.2.2.1 hb.2.2.2.2 e))) Ol m2 λT Vi=>?_;rcases oa T Vi with y | y
    ·rcases List.mem_append.mp y with y | y
     ·exact .inl y
     ·right;rw [List.mem_singleton.mp y];exact Heap.get?_none_of_le (Nat.le_refl _)
    ·right
     cases e:s.heap.get? T with
     | none=>rfl
     | some o =>
      exfalso;have y:(h'.update S (Obj.mapSeq (·.push (Value.ref s.heap.objs.size)))).get? T=none:=y;by_cases q1:T=S
      ·rw [q1,wX] at y;cases y
      ·by_cases q2:T=z
       ·obtain ⟨T0,_,ku⟩:=kF;rw [q2,GP z _ (Ne.symm s1) ku] at y;cases y
       ·by_cases q3:T=TO
        ·obtain ⟨_,_,hq⟩:=eE;rw [q3,GP TO _ (Ne.symm s3) hq] at y;cases y
        ·by_cases q4:T=i1
         ·obtain ⟨oo,og⟩:=wV.ex;rw [q4,GP i1 _ (Ne.symm s4) og] at y;cases y
         ·by_cases q5:T=i2
          ·obtain ⟨oo,og⟩:=wW.ex;rw [q5,GP i2 _ (Ne.symm s5) og] at y;cases y
          ·rw [GP T o q1 (kk T o q2 q3 q4 q5 e)] at y;cases y
  obtain ⟨a,b,Nw⟩:=Z.fTO;rcases Z.fz with ⟨e,hz⟩ | ⟨T,b,kE,hz⟩
  ·refine wpAny_bind (IF D hz Z.fTI Nw Z.f1 Z.f2 Z.g1 Z.g2 hx hy λh' a1 a2 a3 a4 a5 a6 a7=>?_);exact step h' false ⟨_,List.mem_append_right _ (List.mem_singleton.mpr rfl),a1⟩ ⟨_,_,a2⟩ a3 a4 a5 λb o b1 b2 b3 b4 e=>a7 b o b1 b2 b3 b4 e
  ·obtain ⟨j,hj,ej⟩:=List.mem_iff_getElem.mp kE;obtain ⟨x,y,_,_,hp⟩:=Z.fm j T (by rw [List.getElem?_eq_getElem hj,ej]);refine wpAny_bind (IE D hz hp Z.fTI Z.f1 Z.f2 Z.g1 Z.g2 hx hy λh' a1 a3 a4 a5 a6 a7=>?_);exact step h' true ⟨_,List.mem_append_left _ kE,a1⟩ ⟨_,_,a7 _ _ D.TOz D.TOi1 D.TOi2 Nw⟩ a3 a4 a5 λb o b1 _ b3 b4 e=>a7 b o b1 b3 b4 e
theorem PX:typeLookup (.type "zip") "__len__"=pure none:=by rw [typeLookup_type,builtinLookup_eq_fast];kernel_rfl
theorem Ny:typeLookup (.type "zip") "__length_hint__"=pure none:=by rw [typeLookup_type,builtinLookup_eq_fast];kernel_rfl
theorem Ss {z:Addr}{Q:Bool->Shared->Prop}(hT:s.TypeIs (.ref z) "zip")(h:Q true s):wpAny (model prog w) A (Builtin.List.listLengthHint (.ref z)) Q E s:=by
 unfold Builtin.List.listLengthHint;refine wpAny_bind (wpAny_specialOf hT PX ?_);show wpAny _ A (specialOf (Value.ref z) (Str.ofString "__length_hint__") >>= _) _ _ _;refine wpAny_bind (wpAny_specialOf hT Ny ?_);exact wpAny_pure h
theorem Nz {tu:Bool}{z TI TO i1 i2 l1 l2:Addr}{xs ys:Array Value}{R:Result->Shared->Prop}(hh:A.handled=none)(D:ZipApart z TI TO i1 i2 l1 l2)(eu:xs.size=ys.size)(hn:xs.size<=1000)(hz:IsZip s.heap z TI TO .none)(Z:Fo tu s.heap z TI TO i1 i2 l1 l2 xs ys [])(S:Addr)(res:Value)(c0:Nat)
  (hS:s.heap.get? S=some { cls:=.type "list",data:=.seq #[] c0 }) (bp:S∉[z,TI,TO,i1,i2,l1,l2])
  (hR:∀ (h':Heap) (tk:Nat) (GO:List Addr) (c':Nat),GO.length=xs.size->GO.Nodup->(∀ b o,b∉[S,z,TO,i1,i2]->s.heap.get? b=some o->h'.get? b=some o)->h'.get? S=some { cls:=.type "list",dict:=none,data:=.seq (GO.map Value.ref).toArray c',slots:=#[] } ->
   (∀ (j:Nat) (T:Addr),GO[j]?=some T->∃ x y,xs[j]?=some x/\ys[j]?=some y/\IsPair h' T x y)->(∀ T∈GO,s.heap.get? T=none)->R (.ok (.ret res)) { s with heap:=h',toks:=tk }) :
  wpAny (model prog w) A.in1 (Builtin.List.listExtendWith (.ref S) (.ref z) res)
   (λfin s'=>match fin with | .done f=>R (.ok f) s' | .again c'=>c'.quiet=true/\codeAny (model prog w) A c' R s') (λe s'=>R (.error e) s') s:=by
 have hT:s.TypeIs (.ref z) "zip":=⟨_,hz,rfl⟩;have hSz:S≠z:=by simp at bp;exact bp.1
 have key:∀ (h:Heap) (c1:Nat),Fo tu h z TI TO i1 i2 l1 l2 xs ys []->(∀ b o,b≠S->s.heap.get? b=some o->h.get? b=some o)->h.get? S=some { cls:=.type "list",data:=.seq #[] c1 } ->
   codeAny (model prog w) A (.builtin "list.extend.loop" ⟨[.ref S,.ref z,res],[]⟩) R { s with heap:=h }:=by
  intro h c1 Z1 hk X6;refine Sr hh D eu hn bp xs.size [] { s with heap:=h } c1 (by simp) (by simp) Z1 (λT hT=>by cases hT) List.nodup_nil X6 λh' tk GO c' l' bq kk KU m' X7=>?_;refine hR h' tk GO c' l' bq (λb o hb e=>kk b o hb (hk b o (λy=>hb (by simp [y])) e)) KU m' λT kH=>?_;rcases X7 T kH with y | y
  ·cases y
  ·cases e:s.heap.get? T with
   | none=>rfl
   | some o =>
    exfalso;have y:h.get? T=none:=y;by_cases q:T=S
    ·rw [q,X6] at y;cases y
    ·rw [hk T o q e] at y;cases y
 unfold Builtin.List.listExtendWith;refine wpAny_bind (wpAny_typeOf hT ?_);have h1:Builtin.List.listSameRef (.ref S) (.ref z)=false:=by simp [Builtin.List.listSameRef,hSz]
 have h2:(Value.type "zip"==Value.type "list")=false:=by decide
 have h3:(Value.type "zip"==Value.type "tuple")=false:=by decide
 simp only [h1,h2,h3,Bool.or_false,Bool.false_eq_true,if_false];refine wpAny_bind (wpAny_pyIter_zip hz ?_);refine wpAny_bind (wpAny_holding (Ss hT ?_));refine wpAny_ite_split (λ_=>?_) (λ_=>wpAny_pure ⟨plainId_quiet F.plain_extend_loop _,key _ c0 Z (λb o _ e=>e) hS⟩);refine wpAny_bind (wpAny_rule ?_);refine wpAny_bind ?_;show wpAny _ _ (updateSeq S (·.push .none) >>= λ_=>updateSeq S (·.pop)) _ _ _;refine wpAny_bind (wpAny_updateSeq hS rfl ?_);have Ol:=Heap.get?_update_self (Obj.mapSeq (·.push Value.none)) hS rfl;refine wpAny_updateSeq (hz:=by seq_fits) Ol rfl ?_;have oh:=Heap.get?_update_self (Obj.mapSeq (·.pop)) Ol rfl;have GP:∀ b o,b≠S->s.heap.get? b=some o->((s.heap.update S (Obj.mapSeq (·.push Value.none))).update S (Obj.mapSeq (·.pop))).get? b=some o:=λb o hb e =>
  (Heap.get?_update_other _ _ (Ne.symm hb)).trans ((Heap.get?_update_other _ _ (Ne.symm hb)).trans e)
 exact wpAny_pure ⟨plainId_quiet F.plain_extend_loop _,key _ _ (Z.keep λb o hb e=>GP b o (λy=>bp (by rw [<- y];simpa using hb)) e) GP oh⟩
theorem Hv {tu:Bool}{z TI TO i1 i2 l1 l2:Addr}{xs ys:Array Value}{Q:Value->Shared->Prop}(hh:A.handled=none)(D:ZipApart z TI TO i1 i2 l1 l2)(eu:xs.size=ys.size)(hn:xs.size<=1000)(hz:IsZip s.heap z TI TO .none)(Z:Fo tu s.heap z TI TO i1 i2 l1 l2 xs ys [])
  (hQ:∀ (h':Heap) (tk:Nat) (GO:List Addr) (c':Nat),GO.length=xs.size->GO.Nodup->(∀ b o,b∉[z,TO,i1,i2]->s.heap.get? b=some o->h'.get? b=some o)->h'.get? s.heap.objs.size=some { cls:=.type "list",dict:=none,data:=.seq (GO.map Value.ref).toArray c',slots:=#[] } ->
   (∀ (j:Nat) (T:Addr),GO[j]?=some T->∃ x y,xs[j]?=some x/\ys[j]?=some y/\IsPair h' T x y)->(∀ T∈GO,s.heap.get? T=none/\T≠s.heap.objs.size)->Q (.ref s.heap.objs.size) { s with heap:=h',toks:=tk }) :
  wpAny (model prog w) A (call (.type "list") [.ref z]) Q E s:=by
 obtain ⟨a0,b0,Nw⟩:=Z.fTO;have nX:=Z.f1;obtain ⟨o1,nY⟩:=nX.ex;have nZ:=Z.f2;obtain ⟨o2,V1⟩:=nZ.ex;have o5:=Z.g1;obtain ⟨ol1,X4⟩:=o5.ex;have o7:=Z.g2;obtain ⟨ol2,X5⟩:=o7.ex;have lt:∀ {b o},s.heap.get? b=some o->s.heap.objs.size≠b:=λe=>Nat.ne_of_gt (Heap.lt_size e);have bp:s.heap.objs.size∉[z,TI,TO,i1,i2,l1,l2]:=by
  simp;exact ⟨lt hz,lt Z.fTI,lt Nw,lt nY,lt V1,lt X4,lt X5⟩
 refine callType_codes (Q₁:=λobj s1=>obj=.ref s.heap.objs.size/\s1={ s with heap:=s.heap.push { cls:=.type "list",data:=.seq #[] } }) F.called_list (F.typeCall_list_1 _) F.entry_list_init (code_list_new _ ⟨rfl,rfl⟩) λobj s1 q1=>?_;obtain ⟨rfl,rfl⟩:=q1;have hS:(s.heap.push { cls:=.type "list",data:=.seq #[] }).get? s.heap.objs.size=some { cls:=.type "list",data:=.seq #[] }:=Heap.get?_push_size _ rfl;refine ⟨⟨_,hS,rfl⟩,F.args_list_init_2 _ _,?_⟩;show wpAny _ _ (do let old <- Builtin.List.listItems (.ref s.heap.objs.size);Builtin.List.listUpdate (.ref s.heap.objs.size) (λ_=>#[]);letGo old.toList.reverse;Builtin.List.listExtendWith (.ref s.heap.objs.size) (.ref z) .none) _ _ _
 refine wpAny_bind ?_;unfold Builtin.List.listItems;refine wpAny_bind (wpAny_seqItems hS rfl (wpAny_pure ?_));show wpAny _ _ (updateSeq s.heap.objs.size (λ_=>#[]) >>= λ_=>letGo (#[]:Array Value).toList.reverse >>= λ_=>Builtin.List.listExtendWith (.ref s.heap.objs.size) (.ref z) .none) _ _ _;refine wpAny_bind (wpAny_updateSeq hS rfl ?_);have Ol:=Heap.get?_update_self (Obj.mapSeq (λ_=>(#[]:Array Value))) hS rfl;have GP:∀ b o,b≠s.heap.objs.size->s.heap.get? b=some o->((s.heap.push { cls:=.type "list",data:=.seq #[] }).update s.heap.objs.size (Obj.mapSeq (λ_=>(#[]:Array Value)))).get? b=some o :=
  λb o hb e=>(Heap.get?_update_other _ _ (Ne.symm hb)).trans (Heap.get?_push_of_some _ e)
 refine wpAny_bind (wpAny_letGo ?_);have Z2:=Z.keep (h':=(s.heap.push { cls:=.type "list",data:=.seq #[] }).update s.heap.objs.size (Obj.mapSeq (λ_=>(#[]:Array Value)))) λb o _ e=>GP b o (Ne.symm (lt e)) e;refine Nz (A:=A.in1) hh D eu hn (GP _ _ (Ne.symm (lt hz)) hz) Z2 _ .none _ Ol bp λh' tk GO c' l' bq hk KU m' X7=>?_;refine ⟨rfl,hQ h' tk GO c' l' bq (λb o hb e=>hk b o (λy=>?_) (GP b o (Ne.symm (lt e)) e)) KU m' λT hT=>?_⟩
 ·rcases List.mem_cons.mp y with y | y
  ·exact lt e y.symm
  ·exact hb y
 ·have Vi:=X7 T hT;have EY:T≠s.heap.objs.size:=λy=>by rw [y,Ol] at Vi;cases Vi
  refine ⟨?_,EY⟩;cases e:s.heap.get? T with
  | none=>rfl
  | some o=>rw [GP T o EY e] at Vi;cases Vi
end
end PySem
namespace L2
open PySem PySem.Spec PyProof.Rows KS
structure X8 (X:Cx)(pins:List (Addr × Obj))(a:Addr):Prop where
 ent:X.s₀.heap.get? a=none
 loc:a≠X.env.locals
 cel:∀ x c,X.env.cells.lookup x=some c->c≠a
 pin:∀ p∈X.pn++pins,p.1≠a
theorem Inv.ab5 {X:Cx}{pins:List (Addr × Obj)}{σ:St}{H:Hp}{s:Shared}(hex:X.ex=[])(I:Inv X pins σ H s){a:Addr}(h:s.heap.get? a=none):X8 X pins a where
 ent:=by
  cases e:X.s₀.heap.get? a with
  | none=>rfl
  | some o =>
   obtain ⟨o',e'⟩:=I.base.there a o e (by rw [hex];simp);rw [h] at e';cases e'
 loc:=λz=>by
  obtain ⟨m,⟨o,_,_,e,_⟩,_⟩:=I.loc;rw [<- z,h] at e;cases e
 cel:=λx c hx z=>by
  obtain ⟨v,o,e,_⟩:=I.cell x c hx;rw [z,h] at e;cases e
 pin:=λp hp z=>by
  have:=(I.pin p hp).1;rw [z,h] at this;cases this
theorem Inv.aa9 {X:Cx}{pins:List (Addr × Obj)}{σ:St}{s:Shared}:∀ (qs:List (Addr × V × V)) (H:Hp),Inv X pins σ H s->(∀ q∈qs,H q.1=none/\X8 X pins q.1/\∃ x y,RelV q.2.1 x/\RelV q.2.2 y/\IsPair s.heap q.1 x y)->(qs.map (·.1)).Nodup ->
  ∃ H2,Inv X pins σ H2 s/\Ai H H2/\(∀ q∈qs,H2 q.1=some (.tup [q.2.1,q.2.2]))/\∀ b,b∉qs.map (·.1)->H2 b=H b
 | [],H,I,_,_=>⟨H,I,Ai.refl H,(λq hq=>by cases hq),λ_ _=>rfl⟩
 | q::qs,H,I,hq,nd=>by
  obtain ⟨hn,N,x,y,rx,ry,hp⟩:=hq q List.mem_cons_self;obtain ⟨n1,n2⟩:=List.nodup_cons.mp nd;have I1:Inv X pins σ (upd H q.1 (.tup [q.2.1,q.2.2])) s:=I.aah hn N.ent N.loc N.cel N.pin ⟨by show 2<=sizeLine;rw [sizeLine_eq];decide,[x,y],.cons rx (.cons ry .nil),⟨_,hp,rfl,_,rfl⟩⟩;obtain ⟨H2,I2,sm,ht,fr⟩:=Inv.aa9 qs _ I1 (λr hr=>by
   obtain ⟨a1,a2,a3⟩:=hq r (List.mem_cons_of_mem _ hr);have EY:r.1≠q.1:=λz=>n1 (List.mem_map.mpr ⟨r,hr,z⟩);exact ⟨by rw [Ac EY];exact a1,a2,a3⟩) n2
  refine ⟨H2,I2,Ai.trans (Ai.new hn) sm,λr hr=>?_,λb hb=>?_⟩
  ·rcases List.mem_cons.mp hr with z | z
   ·rw [z];exact sm _ _ Ad
   ·exact ht r z
  ·have wZ:b≠q.1/\b∉qs.map (·.1):=(by simpa [not_or] using hb);rw [fr b wZ.2,Ac wZ.1]
noncomputable def JC (ta:TA):TE:=fun σ H Q=>ta σ H λvs H1=>∃ p q xs ys,vs=[.ref p,.ref q]/\((H1 p=some (.lst xs)/\H1 q=some (.lst ys))\/(H1 p=some (.tup xs)/\H1 q=some (.tup ys)))/\xs.length=ys.length/\xs.length<=1000 /\
 ∀ (l:Addr) (ts:List Addr) (H2:Hp),H1 l=none->Ai H1 H2->H2 l=some (.lst (ts.map V.ref))->ts.length=xs.length->(∀ (j:Nat) (t:Addr),ts[j]?=some t->∃ x y,xs[j]?=some x/\ys[j]?=some y/\H2 t=some (.tup [x,y]))->Q (.ref l) H2
theorem X9 (n p q:Nat)(h1:p < n)(h2:q < n):ZipApart (n+4) (n+2) (n+3) n (n+1) p q:=by
 constructor <;> (intro z;have z':((_:Nat)=_):=z;omega)
theorem Ia:∀ ts:List Addr,Vals (ts.map V.ref) (ts.map Value.ref)
 | []=>.nil
 | t::ts=>.cons rfl (Ia ts)
section
variable {X:Cx}
theorem KW {a b:Expr}{ta:TA}{p1 p2 Fm C8:Pos}(hc:X.calm=true)(hex:X.ex=[])(PH:Gl X "list")(PJ:X.mg "list"=none)(oi:Gl X "zip")(oj:X.mg "zip"=none)(ha:PA X [a,b] ta)
  (hs:starEach [a,b] X.env=(false,eval a X.env)::starEach [b] X.env:=by rfl) (CO:(backTo C8 (starEach [b] X.env)).any (·.1)=false:=by rfl)
  (he:starEach [.Call (.Name "zip" p2) [a,b] [] C8] X.env=(false,eval (.Call (.Name "zip" p2) [a,b] [] C8) X.env)::starEach [] X.env:=by rfl) :
  PE X (.Call (.Name "list" p1) [.Call (.Name "zip" p2) [a,b] [] C8] [] Fm) (JC ta):=by
 intro pins s σ H Q I h;refine wpAny_Call_Name_kw (Cq I PH PJ boot_list ?_);refine PyProof.Rows.callWith_type1 ?_ he rfl;rw [he];show wpAny _ _ (spliced ((false,eval (.Call (.Name "zip" p2) [a,b] [] C8) X.env)::backTo Fm (starEach [] X.env))) _ _ s;refine Calls.spliced_cons ?_;refine wpAny_Call_Name_kw (Cq I oi oj boot_zip (PyProof.Rows.callWith_type1 (AY (ha C8 pins s σ H _ I h) λus s1 q1=>?_) hs CO));obtain ⟨vs,H1,I1,r1,p,q,xs,ys,rfl,eK,eu,hn,fin⟩:=q1;obtain ⟨u,u',rfl,ru,WK⟩:=vals2 r1;obtain rfl:u=Value.ref p:=ru;obtain rfl:u'=Value.ref q:=WK;obtain ⟨tu,its,its',rv,br,L1,L2⟩:∃ (tu:Bool) (its its':List Value),Vals xs its/\Vals ys its'/\EB tu s1.heap p its.toArray/\EB tu s1.heap q its'.toArray:=by
  rcases eK with ⟨hp,hq⟩ | ⟨hp,hq⟩
  ·obtain ⟨its,n1,rv,ho,_⟩:=I1.lst hp;obtain ⟨its',n2,br,MJ,_⟩:=I1.lst hq;exact ⟨false,its,its',rv,br,(show s1.heap.IsList p its.toArray from ⟨_,ho,rfl,n1,rfl⟩),(show s1.heap.IsList q its'.toArray from ⟨_,MJ,rfl,n2,rfl⟩)⟩
  ·obtain ⟨o,its,n,rv,ho,hc,hd⟩:=Ma I1.hok hp;obtain ⟨o',its',n',br,MJ,Cn,VJ⟩:=Ma I1.hok hq;exact ⟨true,its,its',rv,br,(show s1.heap.IsTuple p its.toArray from ⟨o,ho,hc,n,hd⟩),(show s1.heap.IsTuple q its'.toArray from ⟨o',MJ,Cn,n',VJ⟩)⟩
 have hl:=rv.length;have bb:=br.length;obtain ⟨o1,ho⟩:=L1.ex;obtain ⟨o2,MJ⟩:=L2.ex;refine Sq L1 L2 λh1 a1 a2 a3 a4 a5 a6 a7=>?_;refine Calls.spliced_nil ?_;have lp:p < s1.heap.objs.size:=Heap.lt_size ho;have lq:q < s1.heap.objs.size:=Heap.lt_size MJ;have I2:Inv X pins σ H1 { s1 with heap:=h1,toks:=s1.toks }:=I1.kept a7;have D:ZipApart (s1.heap.objs.size+4) (s1.heap.objs.size+2) (s1.heap.objs.size+3) s1.heap.objs.size (s1.heap.objs.size+1) p q:=X9 _ _ _ lp lq;have Z:Fo tu h1 (s1.heap.objs.size+4) (s1.heap.objs.size+2) (s1.heap.objs.size+3) s1.heap.objs.size (s1.heap.objs.size+1) p q its.toArray its'.toArray [] :=
  ⟨.inl ⟨rfl,a1⟩,a2,⟨_,_,a3⟩,a4,a5,L1.at λo e=>a7 _ o e,L2.at λo e=>a7 _ o e,λj T e=>by simp at e⟩
 refine Hv (s:={ s1 with heap:=h1 }) (I.ok.hd hc) D (by simp;omega) (by simp;omega) a1 Z λh' tk Ts c' hT nd hk hS hm new=>?_;have fresh:∀ k,H1 (s1.heap.objs.size+k)=none:=λk=>I1.hok.fresh (Nat.le_add_right _ _);have I3:Inv X pins σ H1 { s1 with heap:=h',toks:=tk }:=by
  refine I2.abb (s':={ s1 with heap:=h',toks:=tk }) (ch:=[s1.heap.objs.size+4,s1.heap.objs.size+3,s1.heap.objs.size,s1.heap.objs.size+1]) rfl ⟨λb o e _ _ hb=>hk b o hb e,λb o e _ _ hb=>⟨o.slots,hk b o hb e⟩,λb o e n _=>n,λb o e hb=>⟨o,hk b o hb e⟩,λ_ _ z=>z,λ_ _ _ z=>z,λb ps z=>⟨#[],by rw [z];simp⟩⟩ ?_ I2.bare ?_
  ·intro b u e;have hb:∀ c,(∃ u,H1 c=some u)->c∉[s1.heap.objs.size+4,s1.heap.objs.size+3,s1.heap.objs.size,s1.heap.objs.size+1]:=λc ⟨u,hu⟩ Cn=>by
    simp at Cn;have:=fresh 0;have:=fresh 1;have:=fresh 3;have:=fresh 4;rcases Cn with z | z | z | z <;> (rw [z] at hu;simp_all)
   exact (I2.hok b u e).aat (λc v Cn q=>hk c v (hb c (by
    rcases Cn with rfl | z
    ·exact ⟨u,e⟩
    ·exact ⟨_,z⟩)) q) (λ_ q=>q) λ_ _ q=>q
  ·intro b hb;simp at hb;have key:∀ k,FW X pins H1 (s1.heap.objs.size+k):=λk=>I1.aa4 (Nat.le_add_right _ _) (fresh k);have:FW X pins H1 b:=by
    rcases hb with rfl | rfl | rfl | rfl
    ·exact key 4
    ·exact key 3
    ·exact key 0
    ·exact key 1
   obtain ⟨_,f1,_,f3,f4,f5⟩:=this;exact ⟨f3,f1,f4,f5⟩
 have pr:∃ qs:List (Addr × V × V),qs.map (·.1)=Ts/\∀ (j:Nat) (q:Addr × V × V),qs[j]?=some q->xs[j]?=some q.2.1/\ys[j]?=some q.2.2:=by
  have hTl:Ts.length=xs.length:=by rw [hT];simp;omega
  refine ⟨(Ts.zip (xs.zip ys)),?_,λj q hj=>?_⟩
  ·rw [List.map_fst_zip];rw [List.length_zip];omega
  ·obtain ⟨h1,h2⟩:=List.getElem?_zip_eq_some.mp hj;obtain ⟨h3,h4⟩:=List.getElem?_zip_eq_some.mp h2;exact ⟨h3,h4⟩
 obtain ⟨qs,eq,xa⟩:=pr;have news:∀ T∈Ts,h1.get? T=none/\T≠h1.objs.size:=new;obtain ⟨H2,I4,sm,ht,fr⟩:=I3.aa9 qs H1 (λq MW=>by
  obtain ⟨j,hj,ej⟩:=List.mem_iff_getElem.mp MW;have Vh:qs[j]?=some q:=by rw [List.getElem?_eq_getElem hj,ej]
  obtain ⟨x1,x2⟩:=xa j q Vh;have xb:Ts[j]?=some q.1:=by rw [<- eq,List.getElem?_map,Vh];rfl
  obtain ⟨x,y,e1,e2,e3⟩:=hm j q.1 xb;obtain ⟨u1,kI,r1⟩:=rv.get x1;obtain ⟨u2,hu2,r2⟩:=br.get x2;simp at e1 e2;rw [kI] at e1;rw [hu2] at e2;cases e1;cases e2;have xc:=(news q.1 (List.mem_of_getElem? xb)).1;refine ⟨?_,I2.ab5 hex xc,_,_,r1,r2,e3⟩;cases z:H1 q.1 with
  | none=>rfl
  | some u =>
   obtain ⟨o,ho⟩:=CC (I2.hok q.1 u z);have ho:h1.get? q.1=some o:=ho;rw [xc] at ho;cases ho) (by rw [eq];exact nd)
 have nl:H2 h1.objs.size=none:=by
  rw [fr _ (by rw [eq];exact λz=>(news _ z).2 rfl)];exact I2.hok.fresh (Nat.le_refl _)
 have NL:X8 X pins h1.objs.size:=I2.ab5 hex (Heap.get?_none_of_le (Nat.le_refl _));have I5:Inv X pins σ (upd H2 h1.objs.size (.lst (Ts.map V.ref))) { s1 with heap:=h',toks:=tk }:=I4.aah nl NL.ent NL.loc NL.cel NL.pin ⟨by rw [List.length_map,hT];simp;rw [sizeLine_eq];omega,Ts.map Value.ref,c',Ia Ts,hS⟩;refine ⟨.ref _,_,I5,rfl,fin _ Ts _ (I2.hok.fresh (Nat.le_refl _)) (Ai.trans sm (Ai.new nl)) Ad (by rw [hT];simp;omega) λj t hj=>?_⟩;have Vh:∃ q,qs[j]?=some q/\q.1=t:=by
  rw [<- eq,List.getElem?_map] at hj;cases e:qs[j]? with
  | none=>rw [e] at hj;cases hj
  | some q=>rw [e] at hj;exact ⟨q,rfl,Option.some.inj hj⟩
 obtain ⟨q,e1,e2⟩:=Vh;obtain ⟨x1,x2⟩:=xa j q e1;refine ⟨_,_,x1,x2,?_⟩;have:=ht q (List.mem_of_getElem? e1);rw [e2] at this;rw [Ac (Ab this nl)];exact this
theorem NB {a b:Expr}{ta:TA}{p1 p2 Fm C8:Pos}(hc:X.calm=true)(hex:X.ex=[])(PH:Gl X "list")(PJ:X.mg "list"=none)(oi:Gl X "zip")(oj:X.mg "zip"=none)(ha:SA X [a,b] ta)
  (hs:starEach [a,b] X.env=(false,eval a X.env)::starEach [b] X.env:=by rfl) (CO:(backTo C8 (starEach [b] X.env)).any (·.1)=false:=by rfl)
  (he:starEach [.Call (.Name "zip" p2) [a,b] [] C8] X.env=(false,eval (.Call (.Name "zip" p2) [a,b] [] C8) X.env)::starEach [] X.env:=by rfl) :
  SE X (.Call (.Name "list" p1) [.Call (.Name "zip" p2) [a,b] [] C8] [] Fm) (JC ta):=⟨KW hc hex PH PJ oi oj ha.out hs CO he⟩
end
noncomputable def FU (v d:Addr):HO:=.ext λh=>h.IsItemsView v d
theorem FU.ok {P:Program}{w:World}{H:Hp}{h:Heap}{v d:Addr}(e:h.IsItemsView v d):AN P w H h v (FU v d):=by
 obtain ⟨o,h1,h2⟩:=id e;exact ⟨e,⟨o,h1⟩,λa b ⟨o',e1,e2⟩ k=>⟨o',k o' e1,e2⟩⟩
noncomputable def Xa:V->List V->Hp->VK->Prop:=λx vs H Q=>∃ d kvs,x=.ref d/\vs=[]/\H d=some (.dK kvs)/\∀ v,H v=none->Q (.ref v) (upd H v (FU v d))
section
variable {X:Cx}
theorem GQ:kl X "dict.items" Xa:=by
 intro pins s σ H x vs v us Q I rx rv h;obtain ⟨d,kvs,rfl,rfl,hH,q⟩:=h;cases rx;have de:=rv.zero;subst de;obtain ⟨_,hs,ws,r,hd⟩:=I.hok d _ hH;refine call_meetsIn F.slot_dict_items hd.typeIs F.entry_dict_items (F.args_dict_items_1 _) (meets_dict_items (AS X.prog X.w) d hs) ⟨⟨_,hd⟩,?_⟩;have hn:H s.heap.objs.size=none:=I.fresh;exact ⟨.ref _,_,I.laid (λ_ _ q=>Heap.get?_push_of_some _ q) (Nat.le_refl _) (FU.ok ⟨_,Heap.get?_push_size _ rfl,rfl,rfl⟩),rfl,q _ hn⟩
end
noncomputable def eL (o:Obj)(d:Addr)(kvs:List (Key × V)):It :=
 ⟨λi H=>H d=some (.frz o (.dK kvs))/\i < kvs.length,λi H x H'=>∃ T p,H T=none/\kvs[i]?=some p/\x=.ref T/\H'=upd H T (.tup [kV p.1,p.2]),λi H=>H d=some (.frz o (.dK kvs))/\kvs.length<=i⟩
theorem KY {P:Program}{w:World}{K:W.Frag}{elts:List Expr}{x1}{pos:Pos}{o:Obj}{d it:Addr}{kvs:List (Key × V)}{es:Array DictEntry}{ep:Nat}(he:o.data=.dict es ep):Turn P w K (.Tuple elts x1 pos) (eL o d kvs) [it] it (λi h=>∃ ok ov,IsItemIter h it d i kvs.length ep ok ov) where
 mem:=by simp
 obj:=λi h st b hb=>by
  have e:b=it:=by simpa using hb
  subst e;obtain ⟨ok,ov,st⟩:=st;exact ⟨_,st,λv z=>by
   have z':Data.fields _=Data.cell v:=z;cases z'⟩
 keep:=λi h h' ⟨ok,ov,st⟩ k=>⟨ok,ov,k it (by simp) _ st⟩
 item:=by
  intro X hP hw hK hc i pins s σ H E I hf st hg;subst hP hw hK;obtain ⟨hd,hi⟩:=hg;obtain ⟨ok,ov,st⟩:=st;obtain ⟨vs,r,ha⟩:=I.dictAt hd he;obtain ⟨f0,f1,f2,f3,f4,f5⟩:=hf it (by simp);have hl:=r.length;have hx:kvs[i]?=some kvs[i]:=List.getElem?_eq_getElem hi;obtain ⟨v,hv,rv⟩:=r.at hx;rw [hl] at st;refine wpAny_pyNext_items_item st ha hv λkey h' hk Fv hT hsz kk=>⟨_,rfl,?_⟩;refine wpAny_letOwnedTupleGo_items (s:={ s with heap:=h' }) Fv λh2 UU sb=>?_;rw [<- hl] at UU;have I1:Inv X pins σ H { s with heap:=h' }:=I.turned (t':=s.toks) (λb o hb e=>kk b o hb e) f0 f1 f3 f4 f5;have I2:Inv X pins σ H { s with heap:=h2 }:=I1.turned (t':=s.toks) (λb o hb e=>(sb.2 b hb).trans e) f0 f1 f3 f4 f5;have lit:it≠s.heap.objs.size:=Nat.ne_of_lt (Heap.lt_size st);have hn:H s.heap.objs.size=none:=I.hok.fresh (Nat.le_refl _);obtain ⟨_,g1,_,_,g4,g5⟩:=I.aa4 (H':=H) (Nat.le_refl _) hn;have h2T:h2.get? s.heap.objs.size=some { cls:=.type "tuple",data:=.seq #[key,v] }:=(sb.2 _ (Ne.symm lit)).trans hT;have I3:Inv X pins σ (upd H s.heap.objs.size (.tup [kV kvs[i].1,kvs[i].2])) { s with heap:=h2 } :=
   I2.aah hn (Heap.get?_none_of_le I.sz) g1 g4 g5 ⟨by show 2<=sizeLine;rw [sizeLine_eq];decide,[key,v],.cons (PK hk) (.cons rv .nil),⟨_,h2T,rfl,_,rfl⟩⟩
  refine ⟨.ref s.heap.objs.size,_,I3,rfl,⟨_,_,hn,hx,rfl,rfl⟩,⟨_,_,UU⟩,λb hb=>?_⟩;have e:b=it:=by simpa using hb
  rw [e,Ac lit];exact f0
 done:=by
  intro X hP hw hK hc i pins s σ H E I hf st hg;subst hP hw hK;obtain ⟨hd,hi⟩:=hg;obtain ⟨ok,ov,st⟩:=st;obtain ⟨vs,r,ha⟩:=I.dictAt hd he;obtain ⟨f0,f1,f2,f3,f4,f5⟩:=hf it (by simp);have hl:=r.length;rw [hl] at st;exact wpAny_pyNext_items_end (I.ok.hd hc) st ha (by rw [List.getElem?_eq_none_iff];omega) λh' eb=>⟨rfl,I.turned (t':=s.toks) (λb o hb e=>eb b o hb e) f0 f1 f3 f4 f5⟩
 self:=λ_ _ _ _ _ ⟨_,_,st⟩ h=>W.kcp_self st h
section
variable {X:Cx}{elts:List Expr}{x1}{MT:Pos}
noncomputable def Xb (te:TE):TI:=fun σ H R=>te σ H λx H1=>∃ v d kvs,x=.ref v/\H1 v=some (FU v d)/\H1 d=some (.dK kvs)/\∀ o,R (eL o d kvs) (upd H1 d (.frz o (.dK kvs)))
theorem IG {l:Expr}{te:TE}(hl:SE X l te):SI X (.Tuple elts x1 MT) l (Xb te):=⟨by
 intro pins s σ H R I h;refine AY (hl.out pins s σ H _ I h) λv s1 AE=>?_;obtain ⟨x,H1,I1,r1,q1⟩:=AE;obtain ⟨vw,d,kvs,e,hv,hd,q⟩:=q1;subst e;cases r1;obtain ⟨_,hs,vs,r,o,es,ep,e1,e2,e3,e4⟩:=id (I1.hok d _ hd);have I2:=I1.freeze hd e1;obtain ⟨vs,r,ha⟩:=I2.dictAt Ad e3;have view:s1.heap.IsItemsView vw d:=(I1.hok vw _ hv).1;refine wpAny_pyIter_items view ha ?_;refine ⟨s1.heap.objs.size,[s1.heap.objs.size],_,_,_,rfl,I2.kept (t':=s1.toks) λb o e=>Heap.get?_push_of_some _ e,KY e3,⟨.none,.none,?_⟩,λb hb=>?_,q o⟩
 ·show (s1.heap.push _).get? s1.heap.objs.size=_;rw [Heap.get?_push_size _ rfl,r.length];rfl
 ·have e:b=s1.heap.objs.size:=by simpa using hb
  subst e;exact I2.aa4 (Nat.le_refl _) (I2.hok.fresh (Nat.le_refl _))⟩
end
theorem FH {o:Obj}{d:Addr}{kvs:List (Key × V)}{g:TG}{tb:TS}{D:Ends}{σ:St}{H:Hp}(Pv:Nat->St->Hp->Prop)(h0:Pv 0 σ H)(hl:∀ i σ H,i<=kvs.length->Pv i σ H->H d=some (.frz o (.dK kvs)))
  (hs:∀ i p σ H T,kvs[i]?=some p->Pv i σ H->H T=none->g (.ref T) σ (upd H T (.tup [kV p.1,p.2])) fun σ2 H2=>tb { D with nx:=Pv (i+1),ct:=Pv (i+1),bk:=D.nx } σ2 H2) (hd:∀ σ H,Pv kvs.length σ H->D.nx σ H) :
  ∃ W:Nat->Nat->St->Hp->Prop,(∃ m,W 0 m σ H)/\∀ i m σ H,W i m σ H ->
   ((eL o d kvs).stop i H/\D.nx σ H)\/((eL o d kvs).go i H/\∃ N:St->Hp->Prop,(∀ σ' H',N σ' H'->∃ m',m' < m/\W (i+1) m' σ' H')/\∀ x H',(eL o d kvs).yld i H x H'->g x σ H' fun σ2 H2=>tb { D with nx:=N,ct:=N,bk:=D.nx } σ2 H2):=by
 refine ⟨λi m σ H=>m=kvs.length - i/\i<=kvs.length/\Pv i σ H,⟨kvs.length,by simp,Nat.zero_le _,h0⟩,?_⟩;rintro i m σ H ⟨rfl,hi,p⟩;have q:=hl i σ H hi p;by_cases DL:i < kvs.length
 ·refine .inr ⟨⟨q,DL⟩,Pv (i+1),fun σ' H' p'=>⟨kvs.length - (i+1),(),rfl,DL,p'⟩,λx H' y=>?_⟩;obtain ⟨T,p',hT,hp,e,e2⟩:=y;subst e e2;exact hs i p' σ H T hp p hT
 ·obtain rfl:i=kvs.length:=by omega
  exact .inl ⟨⟨q,Nat.le_refl _⟩,hd σ H p⟩
end L2
namespace KG
variable {α:Type}
noncomputable def szs (sz:α->Nat):List α->Nat
 | []=>0
 | t::ts=>sz t+szs sz ts
variable {kids:α->List α}{sz:α->Nat}
end KG
namespace L2
open PySem PySem.Spec PyProof.Rows KS
open PySem.W (fnMade fnX envX CodeHd tabObj makeFunction_K makeFunction_hit nestDef_K FnAt callWith_F)
theorem NC {R:List Value->Prop}(h:∀ a0,R [a0]):∀ us:List Value,us.length=1->R us:=by
 intro us e;cases us with
 | nil=>cases e
 | cons a t=>cases List.eq_nil_of_length_eq_zero (Nat.succ.inj e);exact h a
theorem JD {R:List Value->Prop}(h:∀ a0 a1,R [a0,a1]):∀ us:List Value,us.length=2->R us:=by
 intro us e;cases us with
 | nil=>cases e
 | cons a t=>exact NC (R:=λt=>R (a::t)) (h a) t (Nat.succ.inj e)
theorem KZ {R:List Value->Prop}(h:∀ a0 a1 a2,R [a0,a1,a2]):∀ us:List Value,us.length=3->R us:=by
 intro us e;cases us with
 | nil=>cases e
 | cons a t=>exact JD (R:=λt=>R (a::t)) (h a) t (Nat.succ.inj e)
theorem Xc {R:List Value->Prop}(h:∀ a0 a1 a2 a3,R [a0,a1,a2,a3]):∀ us:List Value,us.length=4->R us:=by
 intro us e;cases us with
 | nil=>cases e
 | cons a t=>exact KZ (R:=λt=>R (a::t)) (h a) t (Nat.succ.inj e)
theorem om {R:List Value->Prop}(h:∀ a0 a1 a2 a3 a4,R [a0,a1,a2,a3,a4]):∀ us:List Value,us.length=5->R us:=by
 intro us e;cases us with
 | nil=>cases e
 | cons a t=>exact Xc (R:=λt=>R (a::t)) (h a) t (Nat.succ.inj e)
end L2
namespace L2
open PySem PySem.Spec PyProof.Rows KS
section
variable {X:Cx}{k:Nat}{f C:Addr}{fd:FuncData}{ps:List Str}{sp:Sp}{m:Str}{o:Expr}{ta:TE}{pos apos:Pos}
theorem Sv {pl:Sem Bool}(he:SE X o ta)(c:G9 X.K C)(hm:Meth X.K C m f)(F:Av X.prog X.w X.K X.mg X.base Bs k f fd ps sp)(hr:Am k X.A)(hb:Binds X.K fd ps [])
  (ht:eval (.Call (.Attribute o m apos) [] [] pos) X.env=(do
   let ov <- eval o X.env
   standAt apos.atName
   let (f,first) <- holding [ov] (getMethod ov m pl)
   callWith pos f first (backTo pos (starEach [] X.env)) (backToKw pos (keywordEach [] X.env))):=by rfl) :
  SE X (.Call (.Attribute o m apos) [] [] pos) (D0 C m sp [] E0 ta Dp):=⟨Jf he.out c hm F hr hb .nil Jp ht⟩
end
noncomputable def JE (n:Nat)(o:HO)(H1:Hp)(Q:VK):Prop:=n<=sizeLine/\∀ p,H1 p=none->Q (.ref p) (upd H1 p o)
section
variable {σ:St}{H:Hp}{Q:VK}{QB:Bool->Hp->Prop}{D:Ends}
theorem oq {i:Nat}{v:V}(h:σ[i]?=some (some v))(q:Q v H):Bt i σ H Q:=⟨v,h,q⟩
theorem ot {v:V}(q:Q v H):tC v σ H Q:=q
theorem xf {r:R2}{ta tb:TE}(q:ta σ H λx H1=>tb σ H1 λy H2=>r x y H2 Q):Kj r ta tb σ H Q:=q
theorem xg {r:V->Hp->VK->Prop}{ta:TE}(q:ta σ H λx H1=>r x H1 Q):mj r ta σ H Q:=q
theorem eM {C:Int->Int->Prop}{g:Int->Int->V}{i j:Int}(c:C i j)(q:Q (g i j) H):rI C g (.int i) (.int j) H Q:=⟨i,j,rfl,rfl,c,q⟩
theorem ou {g:Int->Int->V}{i j:Int}(q:Q (g i j) H):UW g (.int i) (.int j) H Q:=⟨i,j,rfl,rfl,q⟩
theorem xh {g:Int->V}{i:Int}(q:Q (g i) H):rU g (.int i) H Q:=⟨i,rfl,q⟩
theorem ox {x y:V}(h:RK x y=true)(q:Q (.bl (decide (x=y))) H):wo x y H Q:=⟨h,q⟩
theorem oy {x y:V}(h:RK x y=true)(q:Q (.bl (!decide (x=y))) H):wq x y H Q:=⟨h,q⟩
theorem kJ {t:TE}(q:t σ H λx H'=>∃ k,x=.bl k/\QB k H'):OS t σ H QB:=q
theorem xi {t:TE}(q:t σ H λx H'=>∃ k,x=.bl k/\QB k H'):tB t σ H QB:=q
theorem xj {b:Bool}{P:Bool->Prop}(q:P b):∃ k,V.bl b=V.bl k/\P k:=⟨b,rfl,q⟩
theorem oA {t u:TT}(q:t σ H λc H1=>if c=true then u σ H1 QB else QB false H1):VN t u σ H QB:=q
theorem xm {t u:TT}(q:t σ H λc H1=>if c=true then QB true H1 else u σ H1 QB):m8 t u σ H QB:=q
theorem xp {t:TT}{ta tb:TE}(q:t σ H λc H1=>if c=true then ta σ H1 Q else tb σ H1 Q):m9 t ta tb σ H Q:=q
theorem kK {ta:TE}(q:ta σ H λx H1=>∃ c,x=.bl c/\Q (.bl (!c)) H1):OB ta σ H Q:=q
theorem kL {ta tb:TE}(q:ta σ H λx H1=>∃ c,x=.bl c/\if c=true then tb σ H1 Q else Q (.bl false) H1):Oz ta tb σ H Q:=q
theorem bu {te:TE}{i:Nat}{u:TS}(q:te σ H λx H1=>u D (σ.set i (some x)) H1):Ja (MK te (CA i)) u D σ H:=q
theorem oB {te:TE}{i:Nat}(q:te σ H λx H1=>D.nx (σ.set i (some x)) H1):MK te (CA i) D σ H:=q
theorem bw {c:TT}{t u:TS}(q:c σ H λb H1=>if b=true then t { D with nx:=u D } σ H1 else u D σ H1):Ja (RB c t LG) u D σ H:=q
theorem oC {c:TT}{t u:TS}(q:c σ H λb H1=>if b=true then t D σ H1 else u D σ H1):RB c t u D σ H:=q
theorem Xd {te:TE}{u:TS}(q:te σ H λ_ H1=>u D σ H1):Ja (LI te) u D σ H:=q
theorem kM {te:TE}(q:te σ H λ_ H1=>D.nx σ H1):LI te D σ H:=q
theorem oE {te:TE}(q:te σ H D.rt):VU te D σ H:=q
theorem kN (q:D.nx σ H):LG D σ H:=q
theorem oF {Q:List V->Hp->Prop}(q:Q [] H):Dp σ H Q:=q
theorem kO {te:TE}{t:TA}{Q:List V->Hp->Prop}(q:te σ H λx H1=>t σ H1 λxs H2=>Q (x::xs) H2):Cb te t σ H Q:=q
theorem oG {t:TA}(q:t σ H λxs H1=>JE xs.length (.tup xs) H1 Q):MV t σ H Q:=q
theorem oH {t:TA}(q:t σ H λxs H1=>JE xs.length (.lst xs) H1 Q):Wk t σ H Q:=q
theorem kP {sp:Sp}{E:XK}{t:TA}(q:t σ H λvs H1=>sp vs H1 Q E):EG sp [] E t σ H Q:=by
 have e:(λvs H1=>sp (vs++[]) H1 Q E)=λvs H1=>sp vs H1 Q E:=by funext vs H1;rw [List.append_nil]
 show t σ H λvs H1=>sp (vs++[]) H1 Q E;rw [e];exact q
theorem xq {r:List V->Hp->VK->Prop}{t:TA}(q:t σ H λvs H1=>r vs H1 Q):cY r t σ H Q:=q
theorem Xe {K:W.Frag}{p:Addr}{xs:List V}{i:Int}{v:V}(h:AO K H p xs)(e:MZ xs i=some v)(q:Q v H):DC K (.ref p) (.int i) H Q:=⟨p,xs,i,v,rfl,rfl,h,e,q⟩
theorem Xf {K:W.Frag}{p:Addr}{xs:List V}{i:Int}{v:V}(h:CZ K H p xs)(e:MZ xs i=some v)(q:Q v H):Iu K (.ref p) (.int i) H Q:=⟨p,xs,i,v,rfl,rfl,h,e,q⟩
theorem An {K:W.Frag}{p:Addr}{xs:List V}{i:Int}{v:V}(h:H p=some (.tup xs))(e:MZ xs i=some v)(q:Q v H):Iu K (.ref p) (.int i) H Q:=Xf (CZ.of h) e q
theorem EC {K:W.Frag}{p:Addr}{xs:List V}{i:Int}(h:AO K H p xs)(h0:0<=i)(h1:i < xs.length)(q:∀ v,v∈xs->Q v H):DC K (.ref p) (.int i) H Q:=by
 obtain ⟨v,hv,hm⟩:=PF h0 h1;exact ⟨p,xs,i,v,rfl,rfl,h,hv,q v hm⟩
end
theorem oJ {c:Prop}[Decidable c]{A T R:Prop}(hR:R)(hA:c->R->A):if c then A else (if false=true then T else R):=by
 by_cases h:c
 ·rw [if_pos h];exact hA h hR
 ·rw [if_neg h];exact Ck hR
theorem xr {c:Prop}[Decidable c]{A T R:Prop}(hT:T)(hA:¬ c->T->A):if c then (if true=true then T else R) else A:=by
 by_cases h:c
 ·rw [if_pos h];exact Cm hT
 ·rw [if_neg h];exact hA h hT
theorem Xg (n:Nat):((n+1:Nat):Int) - 1=(n:Int):=by omega
theorem BZ {n:Nat}(h:n<=16777216):n<=sizeLine:=BE▸h
theorem EN {n:Nat}(h:n < 16777216):n < sizeLine:=BE▸h
end L2
local macro_rules | `(tactic| fail)=>`(tactic| first
 | ((with_reducible refine L2.oq (v:=?v) ?h ?q);(case h=>rfl))
 | with_reducible refine L2.ot ?_
 | with_reducible refine L2.xf ?_
 | with_reducible refine L2.xg ?_
 | with_reducible refine L2.ou ?_
 | with_reducible refine L2.xh ?_
 | ((with_reducible refine L2.eM ?c ?q);(case c=>first | exact ⟨⟨⟩,⟨⟩⟩ | decide | exact .inl ⟨⟨⟩,⟨⟩⟩ | exact .inr ⟨⟨⟩,⟨⟩⟩ | exact ⟨⟨⟩,⟨⟩,⟨⟩⟩))
 | ((with_reducible refine L2.ox ?h ?q);(case h=>rfl))
 | ((with_reducible refine L2.oy ?h ?q);(case h=>rfl))
 | with_reducible refine L2.kJ ?_
 | with_reducible refine L2.xi ?_
 | with_reducible refine L2.xj ?_
 | with_reducible refine oK ?_
 | with_reducible refine L2.oA ?_
 | with_reducible refine L2.xm ?_
 | with_reducible refine L2.xp ?_
 | with_reducible refine L2.kK ?_
 | with_reducible refine L2.kL ?_
 | with_reducible refine L2.bu ?_
 | with_reducible refine L2.oB ?_
 | with_reducible refine L2.bw ?_
 | with_reducible refine L2.oC ?_
 | with_reducible refine L2.Xd ?_
 | with_reducible refine L2.kM ?_
 | with_reducible refine L2.oE ?_
 | with_reducible refine kQ ?_
 | ((with_reducible refine L2.kN ?_);dsimp only)
 | with_reducible refine L2.oF ?_
 | with_reducible refine L2.kO ?_
 | with_reducible refine L2.oG ?_
 | with_reducible refine L2.oH ?_
 | with_reducible refine L2.kP ?_
 | with_reducible refine L2.xq ?_)
local macro_rules | `(tactic| left)=>`(tactic| repeat fail)
namespace L2
open PySem PySem.Spec PyProof.Rows KS
theorem DH {n:Nat}{H1:Hp}{o:HO}{R:VK}(h:n<=sizeLine)(q:∀ p H2,H1 p=none->Ai H1 H2->H2 p=some o->R (.ref p) H2):JE n o H1 R :=
 ⟨h,λp hp=>q p _ hp (Ai.new hp) Ad⟩
end L2
local macro_rules | `(tactic| intros $p:ident $h:ident $s:ident $e:ident)=>`(tactic| ((refine L2.DH ?hh fun $p $h hn $s $e=>?qq);(case hh=>first | exact L2.BZ (by decide) | (simp only [List.length_cons,List.length_nil];exact L2.BZ (by decide)))))
namespace L2
open PySem PySem.Spec PyProof.Rows KS
theorem Cy {H:Hp}{Q:VK}{l b:Addr}{xs zs:List V}(hl:H l=some (.lst xs))(hb:H b=some (.lst zs))(hn:xs.length+zs.length<=sizeLine)(q:∀ p H2,H p=none->Ai H H2->H2 p=some (.lst (xs++zs))->Q (.ref p) H2):df (.ref l) (.ref b) H Q :=
 ⟨l,b,xs,zs,rfl,rfl,hl,hb,hn,λp hp=>q p _ hp (Ai.new hp) Ad⟩
noncomputable def Cl (Pr:Program)(w:World)(K:W.Frag)(mg:Str->Option Value)(base:Heap)(k:Nat)(x:Str)(ps:List Str)(sp:Sp):Prop:=∃ f fd,Av Pr w K mg base Bs k f fd ps sp/\W.keepIn K (.ref f)=true/\Binds K fd ps []/\mg x=some (.ref f)
section
variable {X:Cx}{k:Nat}{ps:List Str}{sp:Sp}{x:Str}{p pos:Pos}{e:Expr}{es:List Expr}{t:TA}
theorem CW (F:Cl X.prog X.w X.K X.mg X.base k x ps sp)(hr:Am k X.A)(hg:Gl X x)(ha:SA X (e::es) t)(Cr:(x==("__debug__":Str))=false:=by decide)
  (he:starEach (e::es) X.env=(false,eval e X.env)::starEach es X.env:=by first | exact CQ | exact C4 | exact C3 | exact CT | exact CU | exact CV | exact E3 | rfl) (CO:(backTo pos (starEach es X.env)).any (·.1)=false:=by rfl) :
  SE X (.Call (.Name x p) (e::es) [] pos) (EG sp [] E0 t):=by
 obtain ⟨f,fd,h1,h2,h3,h4⟩:=F;exact WQ h1 hr hg h4 h2 h3 ha Cr he CO
end
structure Df (K:W.Frag)(mg:Str->Option Value)(x:Str)(st:Stmt)(ps:List Str)(f:Addr)(fd:FuncData):Prop where
 F:B' K x x st f fd
 b:Binds K fd ps []
 m:mg x=some (.ref f)
theorem Df.cl {Pr:Program}{w:World}{K:W.Frag}{mg:Str->Option Value}{base:Heap}{k:Nat}{x:Str}{st:Stmt}{ps:List Str}{f:Addr}{fd:FuncData}{sp:Sp}(D:Df K mg x st ps f fd)(G:Av Pr w K mg base Bs k f fd ps sp):Cl Pr w K mg base k x ps sp:=⟨f,fd,G,D.F.kp,D.b,D.m⟩
end L2
namespace K
open PySem L2
noncomputable def top (i:Nat):Stmt:=PySem.Challenge.pw_kindspan_k23_no_names.main.body.getD i (.Pass ⟨0,0,0,0⟩)
abbrev B2:Stmt:=inClass (top 5) 0
abbrev Bc:Stmt:=inClass (top 8) 0
abbrev Bd:Stmt:=inClass (top 8) 1
abbrev Bl:Stmt:=inClass (top 8) 2
abbrev Bx:Stmt:=inClass (top 8) 4
abbrev Ax:Stmt:=inClass (top 8) 5
abbrev BU:Stmt:=inClass (top 8) 6
abbrev By:Stmt:=inClass (top 8) 7
abbrev B3:Stmt:=inClass (top 8) 8
abbrev B4:Stmt:=inClass (top 8) 9
abbrev AA:Stmt:=inClass (top 8) 10
abbrev B0:Stmt:=inClass (top 8) 11
abbrev AW:Stmt:=inClass (top 8) 12
abbrev As:Stmt:=inClass (top 8) 13
abbrev Dh:Stmt:=top 11
abbrev Bg:Stmt:=top 12
abbrev DR:Stmt:=top 13
abbrev CY:Stmt:=top 14
abbrev BO:Stmt:=top 15
abbrev B5:Stmt:=inClass (top 17) 0
abbrev BV:Stmt:=inClass (top 17) 1
abbrev AB:Stmt:=inClass (top 17) 2
abbrev B6:Stmt:=inClass (top 17) 3
abbrev AZ:Stmt:=inClass (top 17) 4
abbrev Be:Stmt:=inClass (top 17) 5
abbrev Ek:Stmt:=top 18
abbrev Dy:Stmt:=top 19
abbrev DS:Stmt:=top 20
abbrev DT:Stmt:=top 21
abbrev EZ:Stmt:=top 22
abbrev F0:Stmt:=top 23
abbrev El:Stmt:=top 24
abbrev F1:Stmt:=top 25
abbrev BP:Stmt:=top 26
abbrev Em:Stmt:=top 27
abbrev En:Stmt:=top 28
abbrev Eo:Stmt:=top 29
abbrev Ep:Stmt:=top 30
abbrev DU:Stmt:=top 31
abbrev FI:Stmt:=top 32
abbrev GR:Stmt:=top 34
abbrev FK:Stmt:=top 35
abbrev PY:Stmt:=top 37
abbrev Xh:Stmt:=top 38
abbrev F2:Stmt:=top 39
abbrev Er:Stmt:=top 40
abbrev DV:Stmt:=top 41
abbrev Ds:Stmt:=top 42
abbrev Ct:Stmt:=top 43
abbrev D3:Stmt:=top 44
abbrev GU:Stmt:=top 45
end K
namespace L2
open PySem PySem.Spec PyProof.Rows KS
noncomputable def Nx (n i:Nat)(Pv:Nat->List V->Hp->Prop)(ys:List V)(H:Hp):Prop:=∃ m,m < n - i/\m=n - (i+1)/\i+1<=n/\Pv (i+1) ys H
theorem Nx.mk {n i:Nat}{Pv:Nat->List V->Hp->Prop}{ys:List V}{H:Hp}(hi:i < n)(h:Pv (i+1) ys H):Nx n i Pv ys H:=⟨n - (i+1),(),rfl,hi,h⟩
section
variable {g:TG}{tt:TT}{te:TE}{σ:St}{Fin:List V->Hp->Prop}{K:W.Frag}{a:Addr}{xs:List V}{H:Hp}
theorem GV {J:It}{n:Nat}(Pv:Nat->List V->Hp->Prop)(h0:Pv 0 [] H)(hn:n < sizeLine)(hy:∀ i ys H,Pv i ys H->ys.length<=i)
  (oM:∀ i ys H,i < n->Pv i ys H->J.go i H) (Ho:∀ ys H,Pv n ys H->J.stop n H)
  (hs:∀ i ys H x H',i < n->Pv i ys H->J.yld i H x H'->g x σ H' fun σ2 H2=>Ext σ σ2/\tt σ2 H2 λb H3=>if b=true then te σ2 H3 λy H4=>Nx n i Pv (ys++[y]) H4 else Nx n i Pv ys H3)
  (hd:∀ ys H,Pv n ys H->Fin ys H):Dq J H σ g tt te Fin:=by
 refine ⟨λi m ys H=>m=n - i/\i<=n/\Pv i ys H,⟨n,by simp,Nat.zero_le _,h0⟩,?_⟩;rintro i m ys H ⟨rfl,hi,p⟩;have zR:=hy i ys H p;refine ⟨(),?_⟩;by_cases DL:i < n
 ·exact .inr ⟨oM i ys H DL p,(),λx H' y=>hs i ys H x H' DL p y⟩
 ·have e:i=n:=by omega
  subst e;exact .inl ⟨Ho ys H p,hd ys H p⟩
theorem PZ (Pv:Nat->List V->Hp->Prop)(h0:Pv 0 [] H)(hl:∀ i ys H,Pv i ys H->CZ K H a xs)(hn:xs.length < sizeLine)(hy:∀ i ys H,Pv i ys H->ys.length<=i)(e0:σ[0]?=some none)
  (hs:∀ i x ys H,xs[i]?=some x->Pv i ys H->tt (σ.set 0 (some x)) H λb H3=>if b=true then te (σ.set 0 (some x)) H3 λy H4=>Nx xs.length i Pv (ys++[y]) H4 else Nx xs.length i Pv ys H3)
  (hd:∀ ys H,Pv xs.length ys H->Fin ys H):Dq (V' K a) H σ (CA 0) tt te Fin :=
 GV Pv h0 hn hy (λi ys H hi p=>⟨xs,xs[i],hl i ys H p,by simp [hi]⟩) (λys H p=>⟨xs,hl _ ys H p,Nat.le_refl _⟩)
  (λi ys H x H' hi p y=>by
   obtain ⟨rfl,y⟩:=y;exact ⟨Ext.set e0,hs i x ys _ (y xs (hl i ys _ p)) p⟩) hd
theorem P' {lo:Int}{n:Nat}(Pv:Nat->List V->Hp->Prop)(h0:Pv 0 [] H)(hn:n < sizeLine)(hy:∀ i ys H,Pv i ys H->ys.length<=i)(e0:σ[0]?=some none)
  (hs:∀ i ys H,i < n->Pv i ys H->tt (σ.set 0 (some (.int (lo+i)))) H λb H3=>if b=true then te (σ.set 0 (some (.int (lo+i)))) H3 λy H4=>Nx n i Pv (ys++[y]) H4 else Nx n i Pv ys H3)
  (hd:∀ ys H,Pv n ys H->Fin ys H):Dq (Rg lo n) H σ (CA 0) tt te Fin :=
 GV Pv h0 hn hy (λi ys H hi p=>hi) (λys H p=>Nat.le_refl _)
  (λi ys H x H' hi p y=>by
   obtain ⟨rfl,rfl⟩:=y;exact ⟨Ext.set e0,hs i ys _ hi p⟩) hd
theorem Q0 {L:It}{n:Nat}(Pv:Nat->List V->Hp->Prop)(h0:Pv 0 [] H)(hn:n < sizeLine)(hy:∀ i ys H,Pv i ys H->ys.length<=i)(e0:σ[0]?=some none)(e1:σ[1]?=some none)
  (oM:∀ i ys H,i < n->Pv i ys H->L.go i H) (Ho:∀ ys H,Pv n ys H->L.stop n H)
  (hs:∀ i ys H x H',i < n->Pv i ys H->L.yld i H x H'->∃ q u v,x=.ref q/\CZ K H' q [u,v]/\tt ((σ.set 0 (some u)).set 1 (some v)) H' λb H3=>if b=true then te ((σ.set 0 (some u)).set 1 (some v)) H3 λy H4=>Nx n i Pv (ys++[y]) H4 else Nx n i Pv ys H3)
  (hd:∀ ys H,Pv n ys H->Fin ys H):Dq L H σ (RG K 2 (HE (CA 0) (HE (CA 1) RE))) tt te Fin :=
 GV Pv h0 hn hy oM Ho (λi ys H x H' hi p y=>by
   obtain ⟨q,u,v,rfl,h1,h2⟩:=hs i ys H x H' hi p y;refine ⟨q,[u,v],rfl,h1,rfl,u,[v],rfl,v,[],rfl,rfl,⟨by simp,λj z hj=>?_⟩,h2⟩;cases j with
   | zero=>rw [e0] at hj;cases hj
   | succ j=>cases j with
    | zero=>rw [e1] at hj;cases hj
    | succ j=>simpa using hj) hd
theorem Mg {t u:TS}{D:Ends}(Jn:St->Hp->Prop)(fin:∀ σ' H',Jn σ' H'->u D σ' H')(q:∀ N:St->Hp->Prop,(∀ σ' H',Jn σ' H'->N σ' H')->t { D with nx:=N } σ H):Ja t u D σ H:=q (u D) fin
theorem oN {QB:Bool->Hp->Prop}(q:QB true H):Hu σ H QB:=q
theorem kR {own:List Str}{js:List Nat}{wi:TI}{Q:VK}(q:wi σ H λJ H1=>Dq J H1 (Dc own js σ) g tt te λys H2=>JE 0 (.lst ys) H2 Q):Pj own js wi g tt te σ H Q:=by
 have e:(λys (H2:Hp)=>JE 0 (.lst ys) H2 Q)=λys H2=>∀ D,H2 D=none->Q (.ref D) (upd H2 D (.lst ys)):=by funext ys H2;exact propext ⟨λh=>h.2,λh=>⟨Nat.zero_le _,h⟩⟩
 rw [e] at q;exact q
theorem Vj {own:List Str}{js:List Nat}{wi:TI}{i:Nat}{u:TS}{D:Ends}(q:wi σ H λJ H1=>Dq J H1 (Dc own js σ) g tt te λys H2=>JE 0 (.lst ys) H2 λv H3=>u D (σ.set i (some v)) H3):Ja (Kz i own js wi g tt te) u D σ H:=by
 have e:(λys (H2:Hp)=>JE 0 (.lst ys) H2 λv H3=>u D (σ.set i (some v)) H3)=λys H2=>∀ a,H2 a=none->u D (σ.set i (some (.ref a))) (upd H2 a (.lst ys)):=by funext ys H2;exact propext ⟨λh=>h.2,λh=>⟨Nat.zero_le _,h⟩⟩
 rw [e] at q;exact q
theorem kS {tl:TE}{R:It->Hp->Prop}(q:tl σ H λx H1=>∃ a,x=.ref a/\(∃ xs,CZ K H1 a xs)/\R (V' K a) H1):W0 K tl σ H R:=q
theorem Mh {neg:Bool}{x:V}{p:Addr}{ys:List V}{Q:VK}(h:AO K H p ys\/CZ K H p ys)(fx:E2 x=true)(fy:ys.all E2=true)(q:Q (.bl (if neg then !Ri x ys else Ri x ys)) H):bf K neg x (.ref p) H Q:=⟨p,ys,rfl,h,fx,fy,q⟩
end
section
variable {σ:St}{H:Hp}{Q:VK}{K:W.Frag}
theorem kT {td ty:TE}(q:td σ H λx H1=>ty σ H1 λy H2=>∃ a v,x=.ref a/\DE H2 a y (some v)/\Q v H2):M6 td ty σ H Q:=q
theorem kU {R:List (V × V)->Hp->Prop}(q:R [] H):EU [] σ H R:=q
theorem oO {tk tv:TE}{r:List (TE × TE)}{R:List (V × V)->Hp->Prop}(q:tk σ H λk H1=>tv σ H1 λv H2=>EU r σ H2 λps H3=>R ((k,v)::ps) H3):EU ((tk,tv)::r) σ H R:=q
theorem Fp {HR:List (TE × TE)}(q:∀ p H1,H p=none->Ai H H1->H1 p=some (.dK [])->EU HR σ H1 λps H2=>H2 p=some (.dK [])/\∃ kvs:List (Key × V),ps=kvs.map (λkv=>(kV kv.1,kv.2))/\kvs.length<=15/\∀ H3,(∀ b,b≠p->H3 b=H2 b)->H3 p=some (.dK (Dx [] kvs))->Q (.ref p) H3):Pe HR σ H Q:=λp hp=>by
 have h:=q p _ hp (Ai.new hp) Ad;have e:(λps (H2:Hp)=>H2 p=some (.dK [])/\∃ kvs:List (Key × V),ps=kvs.map (λkv=>(kV kv.1,kv.2))/\kvs.length<=15/\∀ H3,(∀ b,b≠p->H3 b=H2 b)->H3 p=some (.dK (Dx [] kvs))->Q (.ref p) H3) =
  λps (H2:Hp)=>H2 p=some (.dK [])/\∃ kvs:List (Key × V),ps=kvs.map (λkv=>(kV kv.1,kv.2))/\kvs.length<=15/\Q (.ref p) (upd H2 p (.dK (Dx [] kvs))):=by
  funext ps H2
  refine propext ⟨?_,?_⟩
  ·rintro ⟨h1,kvs,h2,h3,h4⟩;exact ⟨h1,kvs,h2,h3,h4 _ (λb hb=>Ac hb) Ad⟩
  ·rintro ⟨h1,kvs,h2,h3,h4⟩;refine ⟨h1,kvs,h2,h3,λH3 a b=>?_⟩;have:H3=upd H2 p (.dK (Dx [] kvs)):=by
    funext c
    by_cases hc:c=p
    ·subst hc;rw [b,Ad]
    ·rw [a c hc,Ac hc]
   rw [this];exact h4
 rw [e] at h;exact h
theorem xt {r:V->Option Int->Option Int->Hp->VK->Prop}{te:TE}{tl th:TO}(q:te σ H λx H1=>tl σ H1 λl H2=>th σ H2 λu H3=>r x l u H3 Q):mz r te tl th σ H Q:=q
theorem kX {t:TE}{R:Option Int->Hp->Prop}(q:t σ H λx H1=>∃ i,x=.int i/\R (some i) H1):P1 t σ H R:=q
theorem oP {i:Int}{P:Int->Prop}(q:P i):∃ k,V.int i=V.int k/\P k:=⟨i,rfl,q⟩
theorem Xi {a:Addr}{xs:List V}{lo hi:Option Int}(h:CZ K H a xs)(n:¬ (HT.sIx xs.length 0 lo=0/\HT.sIx xs.length xs.length hi=xs.length))(q:∀ p H2,H p=none->Ai H H2->H2 p=some (.tup (Ji xs lo hi))->Q (.ref p) H2):Wu K (.ref a) lo hi H Q:=⟨a,xs,rfl,h,n,λp hp=>q p _ hp (Ai.new hp) Ad⟩
end
end L2
local macro_rules | `(tactic| fail)=>`(tactic| first
 | with_reducible refine eO ?_
 | with_reducible refine L2.kT ?_
 | with_reducible refine oQ ?_
 | with_reducible refine L2.kU ?_
 | with_reducible refine L2.oO ?_
 | with_reducible refine L2.xt ?_
 | with_reducible refine bx ?_
 | with_reducible refine L2.kX ?_
 | with_reducible refine L2.oP ?_)
local macro_rules | `(tactic| fail)=>`(tactic| first
 | with_reducible refine L2.oN ?_
 | with_reducible refine L2.kR ?_
 | with_reducible refine L2.Vj ?_
 | with_reducible refine eP ?_
 | with_reducible refine L2.kS ?_)
namespace L2
open PySem PySem.Spec PyProof.Rows KS
theorem Paired.len {α β:Type}{F:α->β->Prop}{a:List α}{b:List β}(h:Paired F a b):a.length=b.length:=Paired.length h
theorem Paired.at1 {α β:Type}{F:α->β->Prop}:∀ {a:List α} {b:List β} {i:Nat} {x:α},Paired F a b->a[i]?=some x->∃ y,b[i]?=some y/\F x y:=by
 intro a b i x p
 revert i
 induction p with
 | nil=>intro i e;simp at e
 | cons r _ ih =>
  intro i e;cases i with
  | zero=>cases e;exact ⟨_,rfl,r⟩
  | succ i=>exact ih (i:=i) e
noncomputable def strOf:Value->Str
 | .str x _=>x
 | _=>Str.empty
noncomputable def IH:Value->Bool
 | .str _ _=>true
 | _=>false
noncomputable def K' (w:World)(e:DictEntry):DictEntry:=⟨hashStr w (strOf e.key),e.key,e.val⟩
noncomputable def Vk (es:List DictEntry):List (Str × Value):=es.map λe=>(strOf e.key,e.val)
structure Fq (w:World)(K:W.Frag)(a:Addr)(rows:List (Str × Value)):Prop where
 ex:∃ es ep,K.lookup a=some ⟨.type "dict",none,.dict es ep,#[]⟩/\es.toList=es.toList.map (K' w)/\(es.toList.all λe=>IH e.key)=true/\Vk es.toList=rows
 nd:(rows.map (·.1)).Nodup
theorem Vl {P:Program}{w:World}{K:W.Frag}{a:Addr}{rows:List (Str × Value)}(d:Fq w K a rows){h:Heap}(hk:∀ o,K.lookup a=some o->h.get? a=some o):h.DictOf (AS P w) a (rows.map λr=>(.inr r.1,r.2)):=by
 obtain ⟨⟨es,ep,hl,hh,ha,rfl⟩,nd⟩:=d;refine ⟨_,es,ep,hk _ hl,⟨rfl,rfl,rfl⟩,rfl,λe he=>?_,?_,?_⟩
 ·have oR:e∈es.toList:=by simpa using he
  have hs:=List.all_eq_true.mp ha e oR;rw [hh] at oR;obtain ⟨e0,h0,rfl⟩:=List.mem_map.mp oR;have hs':IH e0.key=true:=hs;obtain ⟨mY,key,val⟩:=e0;cases key with
  | str x t=>exact ⟨.inr x,E7 P w x t,rfl⟩
  | _=>cases hs'
 ·generalize es.toList=l at ha;clear hh hl nd
  induction l with
  | nil=>exact .nil
  | cons e r ih =>
   rw [List.all_cons,Bool.and_eq_true] at ha;refine .cons ?_ rfl (ih ha.2);obtain ⟨mY,key,val⟩:=e;cases key with
   | str x t=>exact E7 P w x t
   | _=>exact (show false=true from ha.1) |> λz=>by cases z
 ·rw [List.map_map];have e:(Vk es.toList).map (λr=>(Sum.inr r.1:Key))=((Vk es.toList).map (·.1)).map Sum.inr:=by rw [List.map_map];rfl
  show ((Vk es.toList).map (λr=>(Sum.inr r.1:Key))).Nodup;rw [e];have inj:∀ (l:List Str),l.Nodup->(l.map (Sum.inr:Str->Key)).Nodup:=λl hl=>by
   induction hl with
   | nil=>exact .nil
   | cons h1 h2 ih =>
    refine List.nodup_cons.mpr ⟨λz=>?_,ih⟩;obtain ⟨y,hy,e⟩:=List.mem_map.mp z;cases e;exact h1 _ hy rfl
  exact inj _ nd
noncomputable def rowAt (rows:List (Str × Value))(x:Str):Option Value:=(rows.find? λr=>decide (r.1=x)).map (·.2)
theorem JF (rows:List (Str × Value))(x:Str):valueAt (rows.map λr=>((.inr r.1:Key),r.2)) (.inr x)=rowAt rows x:=by
 unfold valueAt rowAt
 induction rows with
 | nil=>rfl
 | cons r l ih =>
  rw [List.map_cons,List.find?_cons,List.find?_cons];by_cases e:r.1=x
  ·have h1:decide ((Sum.inr r.1:Key)=Sum.inr x)=true:=(by rw [Kf];exact decide_eq_true e);rw [h1,decide_eq_true e];rfl
  ·have h1:decide ((Sum.inr r.1:Key)=Sum.inr x)=false:=(by rw [Kf];exact decide_eq_false e);rw [h1,decide_eq_false e];exact ih
section
variable {X:Cx}{x:Str}{a:Addr}{rows:List (Str × Value)}{i:Expr}{ty:TE}{p pos:Pos}
noncomputable def Q5 (rows:List (Str × Value))(ty:TE):TE:=fun σ H Q=>ty σ H λy H1=>∃ (k:Str) (u:Value) (v:V),y=.str k/\rowAt rows k=some u/\RelV v u/\Q v H1
theorem Sw (d:Fq X.w X.K a rows)(hg:Gl X x)(hm:X.mg x=some (.ref a))(hi:PE X i ty)(hs:Kw i)(Cr:(x==("__debug__":Str))=false:=by decide):PE X (.Subscript (.Name x p) i pos) (Q5 rows ty):=by
 intro pins s σ H Q I h;refine IA PySem.F.slot_dict_getitem.lookup hs (AY (Im (v:=.ref a) hg hm rfl Cr pins s σ H (λy H1=>y=.ref a/\H1=H) I ⟨rfl,rfl⟩) λu s1 AE=>?_);obtain ⟨x',H1,I1,rx,e1,e2⟩:=AE;subst e1 e2;obtain rfl:u=Value.ref a:=rx;refine AY (hi pins s1 σ H1 _ I1 h) λiv s2 AE=>?_;obtain ⟨y,H2,I2,ry,k,u,v,ey,hk,rv,q⟩:=AE;subst ey;have dd:s2.heap.DictOf (AS X.prog X.w) a (rows.map λr=>(.inr r.1,r.2)):=Vl d λo ho=>I2.kIn a o ho;refine ⟨dd.typeIs,wpAny_getItem_of (Ff (k:=.inr k) ry) dd.mapOf (v:=u) (by rw [JF];exact hk) ⟨v,H2,I2.tok _,rv,q⟩⟩
theorem Xj (d:Fq X.w X.K a rows)(hg:Gl X x)(hm:X.mg x=some (.ref a))(hi:SE X i ty)(hs:Kw i)(Cr:(x==("__debug__":Str))=false:=by decide):SE X (.Subscript (.Name x p) i pos) (Q5 rows ty):=⟨Sw d hg hm hi.out hs Cr⟩
variable {CX:Je}{k:Nat}{ps:List Str}{E:XK}{e:Expr}{es:List Expr}{t:TA}{Mi:List (Str × Sp)}{pn:Pos}
noncomputable def F3 (P:Program)(w:World)(K:W.Frag)(mg:Str->Option Value)(base:Heap)(CX:Je)(k:Nat)(ps:List Str)(rows:List (Str × Value))(Mi:List (Str × Sp)):Prop :=
 ∀ x sp,(x,sp)∈Mi->∃ f fd,rowAt rows x=some (.ref f)/\Av P w K mg base CX k f fd ps sp/\W.keepIn K (.ref f)=true/\Binds K fd ps []
noncomputable def L7 (Mi:List (Str × Sp))(E:XK)(ty:TE)(t:TA):TE:=fun σ H Q=>ty σ H λy H1=>∃ (x:Str) (sp:Sp),y=.str x/\(x,sp)∈Mi/\t σ H1 λvs H2=>sp vs H2 Q E
theorem Q6 (d:Fq X.w X.K a rows)(R:F3 X.prog X.w X.K X.mg X.base CX k ps rows Mi)(hx:Passes CX X E)(hr:Am k X.A)(hg:Gl X x)(hm:X.mg x=some (.ref a))(hi:PE X i ty)(hs:Kw i)(ha:PA X (e::es) t)(Cr:(x==("__debug__":Str))=false:=by decide)
  (he:starEach (e::es) X.env=(false,eval e X.env)::starEach es X.env:=by rfl) (CO:(backTo pos (starEach es X.env)).any (·.1)=false:=by rfl):PE X (.Call (.Subscript (.Name x pn) i p) (e::es) [] pos) (L7 Mi E ty t):=by
 intro pins s σ H Q I h;have arm:eval (.Call (.Subscript (.Name x pn) i p) (e::es) [] pos) X.env=(eval (.Subscript (.Name x pn) i p) X.env >>= λf=>callWith pos f [] (backTo pos (starEach (e::es) X.env)) (backToKw pos (keywordEach [] X.env))):=rfl;rw [arm];refine wpAny_bind ?_;refine IA PySem.F.slot_dict_getitem.lookup hs (AY (Im (v:=.ref a) hg hm rfl Cr pins s σ H (λy H1=>y=.ref a/\H1=H) I ⟨rfl,rfl⟩) λu s1 AE=>?_);obtain ⟨x',H1,I1,rx,e1,e2⟩:=AE;subst e1 e2;obtain rfl:u=Value.ref a:=rx;refine AY (hi pins s1 σ H1 _ I1 h) λiv s2 AE=>?_;obtain ⟨y,H2,I2,ry,x',sp,ey,Q7,q⟩:=AE;subst ey;obtain ⟨f,fd,Xk,F,hk,hb⟩:=R x' sp Q7;have dd:s2.heap.DictOf (AS X.prog X.w) a (rows.map λr=>(.inr r.1,r.2)):=Vl d λo ho=>I2.kIn a o ho;refine ⟨dd.typeIs,wpAny_getItem_of (Ff (k:=.inr x') ry) dd.mapOf (v:=.ref f) (by rw [JF];exact Xk) ?_⟩;have I3:=I2.tok (s2.toks+1);refine W.callWith_K (h₀:=X.base) I3.ok.mod.kin hk (AY (ha pos pins _ σ H2 _ I3 q) λus s4 AE=>?_) he CO;obtain ⟨vs,H4,I4,r,q⟩:=AE;refine ⟨I4.kIn,?_⟩;exact Ir F hr hb .nil hx I4 r (by rw [List.append_nil];exact q)
theorem Sx (d:Fq X.w X.K a rows)(R:F3 X.prog X.w X.K X.mg X.base CX k ps rows Mi)(hx:Passes CX X E)(hr:Am k X.A)(hg:Gl X x)(hm:X.mg x=some (.ref a))(hi:SE X i ty)(hs:Kw i)(ha:SA X (e::es) t)(Cr:(x==("__debug__":Str))=false:=by decide)
  (he:starEach (e::es) X.env=(false,eval e X.env)::starEach es X.env:=by rfl) (CO:(backTo pos (starEach es X.env)).any (·.1)=false:=by rfl):SE X (.Call (.Subscript (.Name x pn) i p) (e::es) [] pos) (L7 Mi E ty t):=⟨Q6 d R hx hr hg hm hi.out hs ha.out Cr he CO⟩
end
end L2
namespace PySem
open AutoSeq1 (wpAny_loadPart')
namespace F
theorem aa3:typeLookup (.type "list_reverseiterator") "__len__"=pure none:=by rw [typeLookup_type,builtinLookup_eq_fast];kernel_rfl
theorem aa5:Slot "list_reverseiterator" "__length_hint__" "list_reverseiterator.__length_hint__" :=
 .of (owner:="list_reverseiterator") (n:="__length_hint__") (by rw [typeLookup_type,builtinLookup_eq_fast];kernel_rfl) (by decide +kernel) (by decide +kernel) (by decide +kernel) (by first | exact .inl (by decide +kernel) | exact .inr (by decide +kernel)) (by rw [isSubtype_type];kernel_rfl)
theorem abg:isSubtype (.type "list_reverseiterator") (.type "list_reverseiterator")=pure true:=by rw [isSubtype_type];kernel_rfl
end F
section
variable {prog:Program}{w:World}{A:Around}{E:Value->Shared->Prop}{s:Shared}
theorem GX {it l:Addr}{i:Int}{Q:Bool->Shared->Prop}(hit:s.heap.IsRevIter it l i)(h:∀ b tk,Q b { s with toks:=tk }):
  wpAny (model prog w) A (Builtin.List.listLengthHint (.ref it)) Q E s:=by
 obtain ⟨o,ho,hc,hd⟩:=id hit;unfold Builtin.List.listLengthHint;refine wpAny_bind (wpAny_specialOf hit.typeIs F.aa3 ?_);show wpAny _ A (specialOf (Value.ref it) (Str.ofString "__length_hint__") >>= _) _ _ _;refine wpAny_bind (wpAny_specialOf hit.typeIs F.aa5.lookup ?_);generalize xu:("list_reverseiterator.__length_hint__":String)=id0
 wp_delta
 rw [show splitId id0=some ("list_reverseiterator","__length_hint__") from by subst xu;decide +kernel];subst xu;refine wpAny_bind (wpAny_isInstance (T:="list_reverseiterator") (b:=true) hit.typeIs F.abg ?_);refine wpAny_ite_split (λeQ=>absurd eQ ⟨⟩) (λ_=>?_);refine wpAny_ite_split (λ_=>?_) (λeQ=>absurd (by decide +kernel) eQ);refine wpAny_ite_split (λeQ=>absurd eQ (by decide +kernel)) (λ_=>?_);exact wpAny_pure (h _ _)
theorem L9 {R:Result->Shared->Prop}{I l:Addr}{items:Array Value}(hh:A.handled=none)(hI:s.heap.IsRevIter I l ((items.size:Int) - 1))(hl:s.heap.IsList l items)(EY:l≠I)(hlen:items.size < 2 ^ 20)(S:Addr)(res:Value)(c0:Nat)(hS:s.heap.get? S=some { cls:=.type "list",data:=.seq #[] c0 })(oS:S≠I)(Vf:S≠l)
  (hR:∀ h' tk II c',(∀ b o,b≠S->b≠I->s.heap.get? b=some o->h'.get? b=some o)->h'.get? S=some { cls:=.type "list",dict:=none,data:=.seq II c',slots:=#[] } ->
   ItemsOf (λi v=>items[items.size - 1 - i]?=some v) II items.size->R (.ok (.ret res)) { s with heap:=h',toks:=tk }) :
  wpAny (model prog w) A.in1 (Builtin.List.listExtendWith (.ref S) (.ref I) res)
   (λfin s'=>match fin with | .done f=>R (.ok f) s' | .again c'=>c'.quiet=true/\codeAny (model prog w) A c' R s') (λe s'=>R (.error e) s') s:=by
 have W:=(Walks.listRev (prog:=prog) (w:=w) (A:=A.in1) hh I l EY items).toS;have hSf:S∉[I,l]:=by simp [oS,Vf]
 have hT:s.TypeIs (.ref I) "list_reverseiterator":=hI.typeIs;have key:∀ (h:Heap) (c1 tk:Nat),h.IsRevIter I l ((items.size:Int) - 1)->h.IsList l items->(∀ b o,b≠S->s.heap.get? b=some o->h.get? b=some o)->h.get? S=some { cls:=.type "list",data:=.seq #[] c1 } ->
   codeAny (model prog w) A (.builtin "list.extend.loop" ⟨[.ref S,.ref I,res],[]⟩) R { s with heap:=h,toks:=tk }:=by
  intro h c1 tk hit htu hk X6;refine codeAny_extend_loopS W (by rw [sizeLine_eq];omega) S hSf res items.size 0 _ #[] c1 rfl (Nat.zero_le _) ⟨Nat.zero_le _,by simpa using hit,htu⟩ X6 (ItemsOf.nil _) λs' II c' hm KU Ph=>?_;rw [Moved.eq_with hm];refine hR s'.heap s'.toks II c' (λb o hb hbI e=>hm.heap b o (λQ7=>?_) (hk b o hb e)) KU Ph;rcases List.mem_cons.mp Q7 with e' | Q7
  ·exact hb e'
  ·exact hbI (List.mem_singleton.mp Q7)
 unfold Builtin.List.listExtendWith;refine wpAny_bind (wpAny_typeOf hT ?_);have h1:Builtin.List.listSameRef (.ref S) (.ref I)=false:=by simp [Builtin.List.listSameRef,oS]
 have h2:(Value.type "list_reverseiterator"==Value.type "list")=false:=by decide
 have h3:(Value.type "list_reverseiterator"==Value.type "tuple")=false:=by decide
 simp only [h1,h2,h3,Bool.or_false,Bool.false_eq_true,if_false];refine wpAny_bind (wpAny_pyIter_revIter hI ?_);refine wpAny_bind (wpAny_holding (GX hI λb tk=>?_));have X6:({ s with toks:=tk }:Shared).heap.get? S=some { cls:=.type "list",data:=.seq #[] c0 }:=hS;refine wpAny_ite_split (λ_=>?_) (λ_=>wpAny_pure ⟨plainId_quiet F.plain_extend_loop _,key _ c0 _ hI hl (λb o _ e=>e) hS⟩);refine wpAny_bind (wpAny_rule ?_);refine wpAny_bind ?_;show wpAny _ _ (updateSeq S (·.push .none) >>= λ_=>updateSeq S (·.pop)) _ _ _;refine wpAny_bind (wpAny_updateSeq X6 rfl ?_);have Ol:=Heap.get?_update_self (Obj.mapSeq (·.push Value.none)) X6 rfl;refine wpAny_updateSeq (hz:=by seq_fits) Ol rfl ?_;have oh:=Heap.get?_update_self (Obj.mapSeq (·.pop)) Ol rfl;have GP:∀ b o,b≠S->s.heap.get? b=some o->((s.heap.update S (Obj.mapSeq (·.push Value.none))).update S (Obj.mapSeq (·.pop))).get? b=some o:=λb o hb e =>
  (Heap.get?_update_other _ _ (Ne.symm hb)).trans ((Heap.get?_update_other _ _ (Ne.symm hb)).trans e)
 exact wpAny_pure ⟨plainId_quiet F.plain_extend_loop _,key _ _ _ (hI.at λo e=>GP I o (Ne.symm oS) e) (hl.at λo e=>GP l o (Ne.symm Vf) e) GP oh⟩
theorem Hw {Q:Value->Shared->Prop}{I l:Addr}{items:Array Value}(hh:A.handled=none)(hI:s.heap.IsRevIter I l ((items.size:Int) - 1))(hl:s.heap.IsList l items)(EY:l≠I)(hlen:items.size < 2 ^ 20)
  (hQ:∀ h' tk II c',(∀ b o,b≠I->s.heap.get? b=some o->h'.get? b=some o)->h'.get? s.heap.objs.size=some { cls:=.type "list",dict:=none,data:=.seq II c',slots:=#[] } ->
   ItemsOf (λi v=>items[items.size - 1 - i]?=some v) II items.size->Q (.ref s.heap.objs.size) { s with heap:=h',toks:=tk }):wpAny (model prog w) A (call (.type "list") [.ref I]) Q E s:=by
 have eR:I < s.heap.objs.size:=by obtain ⟨o,ho,_⟩:=hI;exact Heap.lt_size ho
 have eS:l < s.heap.objs.size:=by obtain ⟨o,ho,_⟩:=hl;exact Heap.lt_size ho
 refine callType_codes (Q₁:=λobj s1=>obj=.ref s.heap.objs.size/\s1={ s with heap:=s.heap.push { cls:=.type "list",data:=.seq #[] } }) F.called_list (F.typeCall_list_1 _) F.entry_list_init (code_list_new _ ⟨rfl,rfl⟩) λobj s1 q1=>?_;obtain ⟨rfl,rfl⟩:=q1;have hS:(s.heap.push { cls:=.type "list",data:=.seq #[] }).get? s.heap.objs.size=some { cls:=.type "list",data:=.seq #[] }:=Heap.get?_push_size _ rfl;refine ⟨⟨_,hS,rfl⟩,F.args_list_init_2 _ _,?_⟩;show wpAny _ _ (do let old <- Builtin.List.listItems (.ref s.heap.objs.size);Builtin.List.listUpdate (.ref s.heap.objs.size) (λ_=>#[]);letGo old.toList.reverse;Builtin.List.listExtendWith (.ref s.heap.objs.size) (.ref I) .none) _ _ _
 refine wpAny_bind ?_;unfold Builtin.List.listItems;refine wpAny_bind (wpAny_seqItems hS rfl (wpAny_pure ?_));show wpAny _ _ (updateSeq s.heap.objs.size (λ_=>#[]) >>= λ_=>letGo (#[]:Array Value).toList.reverse >>= λ_=>Builtin.List.listExtendWith (.ref s.heap.objs.size) (.ref I) .none) _ _ _;refine wpAny_bind (wpAny_updateSeq hS rfl ?_);have Ol:=Heap.get?_update_self (Obj.mapSeq (λ_=>(#[]:Array Value))) hS rfl;have GP:∀ b o,b≠s.heap.objs.size->s.heap.get? b=some o->((s.heap.push { cls:=.type "list",data:=.seq #[] }).update s.heap.objs.size (Obj.mapSeq (λ_=>(#[]:Array Value)))).get? b=some o :=
  λb o hb e=>(Heap.get?_update_other _ _ (Ne.symm hb)).trans (Heap.get?_push_of_some _ e)
 refine wpAny_bind (wpAny_letGo ?_);refine L9 (A:=A.in1) (I:=I) (l:=l) (items:=items) hh (hI.at λo e=>GP I o (Nat.ne_of_lt eR) e) (hl.at λo e=>GP l o (Nat.ne_of_lt eS) e) EY hlen _ .none _ Ol (Ne.symm (Nat.ne_of_lt eR)) (Ne.symm (Nat.ne_of_lt eS)) λh' tk II c' hk KU Ph=>?_;exact ⟨rfl,hQ h' tk II c' (λb o hb e=>hk b o (Nat.ne_of_lt (Heap.lt_size e)) hb (GP b o (Nat.ne_of_lt (Heap.lt_size e)) e)) KU Ph⟩
end
end PySem
namespace L2
open PySem PySem.Spec PyProof.Rows KS
section
variable {X:Cx}
noncomputable def Ib (K:W.Frag)(ta:TA):TE:=fun σ H Q=>ta σ H λvs H1=>∃ a xs,vs=[.ref a]/\AO K H1 a xs/\xs.length < 1000000/\∀ l,H1 l=none->Q (.ref l) (upd H1 l (.lst xs.reverse))
theorem JG {a:Expr}{ta:TA}{p1 p2 Fm C8:Pos}(hc:X.calm=true)(PH:Gl X "list")(PJ:X.mg "list"=none)(WW:Gl X "reversed")(WX:X.mg "reversed"=none)(ha:PA X [a] ta)
  (hs:starEach [a] X.env=[(false,eval a X.env)]:=by rfl)
  (he:starEach [.Call (.Name "reversed" p2) [a] [] C8] X.env=(false,eval (.Call (.Name "reversed" p2) [a] [] C8) X.env)::starEach [] X.env:=by rfl) :
  PE X (.Call (.Name "list" p1) [.Call (.Name "reversed" p2) [a] [] C8] [] Fm) (Ib X.K ta):=by
 intro pins s σ H Q I h;refine wpAny_Call_Name_kw (Cq I PH PJ boot_list ?_);refine PyProof.Rows.callWith_type1 ?_ he rfl;rw [he];show wpAny _ _ (spliced ((false,eval (.Call (.Name "reversed" p2) [a] [] C8) X.env)::backTo Fm (starEach [] X.env))) _ _ s;refine Calls.spliced_cons ?_;refine Call_ (Cq I WW WX boot_reversed (PyProof.Rows.callWith_type1 (AY (ha C8 pins s σ H _ I h) λus s1 q1=>?_) hs rfl));obtain ⟨vs,H1,I1,r1,t,xs,rfl,hq,hx,q⟩:=q1;obtain ⟨u,rfl,ru⟩:=vals1 r1;obtain rfl:u=Value.ref t:=ru;obtain ⟨its,rv,pl,hz⟩:=I1.list hq;have hlen:=rv.length;refine call_reversed_list pl.isList ?_;refine Calls.spliced_nil ?_;have ltt:t < s1.heap.objs.size:=by obtain ⟨o,n,e,_⟩:=pl;exact Heap.lt_size e
 have hT:s1.heap.objs.size≠t:=Ne.symm (Nat.ne_of_lt ltt);have I2:Inv X pins σ H1 { s1 with heap:=s1.heap.push (revObj t ((its.toArray.size:Int) - 1)) }:=I1.kept (t':=s1.toks) λb o z=>Heap.get?_push_of_some _ z;refine Hw (I:=s1.heap.objs.size) (l:=t) (items:=its.toArray) (I.ok.hd hc) ⟨_,Heap.get?_push_size _ rfl,rfl,rfl⟩ (pl.isList.at λo z=>Heap.get?_push_of_some _ z) (Ne.symm hT) (by rw [List.size_toArray];omega) λh' tk acc c' hk hS hA=>?_;have nI:H1 s1.heap.objs.size=none:=I1.hok.fresh (Nat.le_refl _);obtain ⟨f0,f1,_,f3,f4,f5⟩:=I1.aa4 (H':=H1) (Nat.le_refl _) nI;have I3:Inv X pins σ H1 { s1 with heap:=h',toks:=tk }:=I2.turned (t':=tk) hk f0 f1 f3 f4 f5;have nS:H1 (s1.heap.push (revObj t ((its.toArray.size:Int) - 1))).objs.size=none:=I2.hok.fresh (Nat.le_refl _);have rv2:=Nk rv hA;have I4:Inv X pins σ (upd H1 (s1.heap.push (revObj t ((its.toArray.size:Int) - 1))).objs.size (.lst xs.reverse)) { s1 with heap:=h',toks:=tk }:=by
  refine I2.abb (ch:=[s1.heap.objs.size]) rfl ?_ (I3.hok.aah nS ⟨by rw [List.length_reverse];exact hz,acc.toList,c',rv2,by simpa using hS⟩) I2.bare ?_
  ·have u0:Un (F7 X.stack) [s1.heap.objs.size] H1 H1 (s1.heap.push (revObj t ((its.toArray.size:Int) - 1))) h':=by
    have kk:∀ b o,b∉[s1.heap.objs.size]->(s1.heap.push (revObj t ((its.toArray.size:Int) - 1))).get? b=some o->h'.get? b=some o:=λb o hb z=>hk b o (λy=>hb (by simp [y])) z;exact ⟨λb o z _ _ hx=>kk b o hx z,λb o z _ _ hx=>⟨o.slots,kk b o hx z⟩,λb o z n _=>n,λb o z hx=>⟨o,kk b o hx z⟩,λ_ _ z=>z,λ_ _ _ z=>z,λb ps z=>⟨#[],by rw [z];simp⟩⟩
   exact u0.aah nS (Heap.get?_none_of_le (Nat.le_refl _))
  ·intro b hb;obtain rfl:=List.mem_singleton.mp hb;exact ⟨f3,f1,f4,f5⟩
 exact ⟨.ref _,_,I4,rfl,q _ nS⟩
theorem GY {a:Expr}{ta:TA}{p1 p2 Fm C8:Pos}(hc:X.calm=true)(PH:Gl X "list")(PJ:X.mg "list"=none)(WW:Gl X "reversed")(WX:X.mg "reversed"=none)(ha:SA X [a] ta)
  (hs:starEach [a] X.env=[(false,eval a X.env)]:=by rfl)
  (he:starEach [.Call (.Name "reversed" p2) [a] [] C8] X.env=(false,eval (.Call (.Name "reversed" p2) [a] [] C8) X.env)::starEach [] X.env:=by rfl) :
  SE X (.Call (.Name "list" p1) [.Call (.Name "reversed" p2) [a] [] C8] [] Fm) (Ib X.K ta):=⟨JG hc PH PJ WW WX ha.out hs he⟩
end
end L2
section
local macro_rules | `(tactic| omega)=>`(tactic| lia)
local macro_rules | `(tactic| apply $t)=>`(tactic| (left;refine $t))
namespace KX
open PySem
inductive Ex where
 | nm (x:Str) | num (i:Int) | tru (b:Bool) | emp
 | fn (x:Str) (b:Ex) | rc (f x:Str) (b:Ex) | cal (a b:Ex) | lt (x:Str) (a b:Ex) | wh (a b c:Ex) | pr (a b:Ex)
 | opn (a:Ex) (x y:Str) (b:Ex) | lk (a b:Ex) | spl (a b:Ex) (x y:Str) (c:Ex) | op (o:Str) (a b:Ex)
namespace Ex
noncomputable def np:Ex->Nat
 | nm _ | num _ | tru _ | emp=>0
 | fn _ b=>np b | rc _ _ b=>np b | cal a b=>np a+np b | lt _ a b=>np a+np b | wh a b c=>np a+np b+np c | pr a b=>1+np a+np b
 | opn a _ _ b=>np a+np b | lk a b=>1+np a+np b | spl a b _ _ c=>np a+np b+np c | op _ a b=>np a+np b
noncomputable def sz:Ex->Nat
 | nm _ | num _ | tru _ | emp=>1
 | fn _ b=>1+sz b | rc _ _ b=>1+sz b | cal a b=>1+sz a+sz b | lt _ a b=>1+sz a+sz b | wh a b c=>1+sz a+sz b+sz c | pr a b=>1+sz a+sz b
 | opn a _ _ b=>1+sz a+sz b | lk a b=>1+sz a+sz b | spl a b _ _ c=>1+sz a+sz b+sz c | op _ a b=>1+sz a+sz b
noncomputable def cl (xs:List Str):Ex->Prop
 | nm x=>x∈xs
 | num _ | tru _ | emp=>True
 | fn x b=>cl (x::xs) b | rc f x b=>cl (x::f::xs) b | cal a b=>cl xs a/\cl xs b | lt x a b=>cl xs a/\cl (x::xs) b | wh a b c=>cl xs a/\cl xs b/\cl xs c | pr a b=>cl xs a/\cl xs b
 | opn a x y b=>cl xs a/\cl (y::x::xs) b | lk a b=>cl xs a/\cl xs b | spl a b x y c=>cl xs a/\cl xs b/\cl (y::x::xs) c | op _ a b=>cl xs a/\cl xs b
noncomputable def aca (o:Str):Prop:=o="plus"\/o="minus"\/o="less"\/o="same"
end Ex
end KX
namespace L2
open PySem PySem.Spec PyProof.Rows KS KX
noncomputable def Bo (H:Hp):Ex->V->Prop
 | .nm x,r=>∃ p,r=.ref p/\H p=some (.tup [.str "name",.str x])
 | .num i,r=>∃ p,r=.ref p/\H p=some (.tup [.str "number",.int i])
 | .tru b,r=>∃ p,r=.ref p/\H p=some (.tup [.str "truth",.bl b])
 | .emp,r=>∃ p,r=.ref p/\H p=some (.tup [.str "empty"])
 | .fn x b,r=>∃ p rb,r=.ref p/\H p=some (.tup [.str "fun",.str x,rb])/\Bo H b rb
 | .rc f x b,r=>∃ p rb,r=.ref p/\H p=some (.tup [.str "rec",.str f,.str x,rb])/\Bo H b rb
 | .cal a b,r=>∃ p ra rb,r=.ref p/\H p=some (.tup [.str "call",ra,rb])/\Bo H a ra/\Bo H b rb
 | .lt x a b,r=>∃ p ra rb,r=.ref p/\H p=some (.tup [.str "let",.str x,ra,rb])/\Bo H a ra/\Bo H b rb
 | .wh a b c,r=>∃ p ra rb rc,r=.ref p/\H p=some (.tup [.str "when",ra,rb,rc])/\Bo H a ra/\Bo H b rb/\Bo H c rc
 | .pr a b,r=>∃ p ra rb,r=.ref p/\H p=some (.tup [.str "pair",ra,rb])/\Bo H a ra/\Bo H b rb
 | .opn a x y b,r=>∃ p ra rb,r=.ref p/\H p=some (.tup [.str "open",ra,.str x,.str y,rb])/\Bo H a ra/\Bo H b rb
 | .lk a b,r=>∃ p ra rb,r=.ref p/\H p=some (.tup [.str "link",ra,rb])/\Bo H a ra/\Bo H b rb
 | .spl a b x y c,r=>∃ p ra rb rc,r=.ref p/\H p=some (.tup [.str "split",ra,rb,.str x,.str y,rc])/\Bo H a ra/\Bo H b rb/\Bo H c rc
 | .op o a b,r=>∃ p ra rb,r=.ref p/\H p=some (.tup [.str "op",.str o,ra,rb])/\Bo H a ra/\Bo H b rb
theorem Bo.mono {H H':Hp}(s:TSub H H'){e:Ex}:∀ {r:V},Bo H e r->Bo H' e r:=by
 induction e with
 | nm _=>intro r h;obtain ⟨p,h1,h2⟩:=h;exact ⟨p,h1,s _ _ h2⟩
 | num _=>intro r h;obtain ⟨p,h1,h2⟩:=h;exact ⟨p,h1,s _ _ h2⟩
 | tru _=>intro r h;obtain ⟨p,h1,h2⟩:=h;exact ⟨p,h1,s _ _ h2⟩
 | emp=>intro r h;obtain ⟨p,h1,h2⟩:=h;exact ⟨p,h1,s _ _ h2⟩
 | fn _ _ ib=>intro r h;obtain ⟨p,rb,h1,h2,h3⟩:=h;exact ⟨p,rb,h1,s _ _ h2,ib h3⟩
 | rc _ _ _ ib=>intro r h;obtain ⟨p,rb,h1,h2,h3⟩:=h;exact ⟨p,rb,h1,s _ _ h2,ib h3⟩
 | cal _ _ ia ib=>intro r h;obtain ⟨p,ra,rb,h1,h2,h3,h4⟩:=h;exact ⟨p,ra,rb,h1,s _ _ h2,ia h3,ib h4⟩
 | lt _ _ _ ia ib=>intro r h;obtain ⟨p,ra,rb,h1,h2,h3,h4⟩:=h;exact ⟨p,ra,rb,h1,s _ _ h2,ia h3,ib h4⟩
 | wh _ _ _ ia ib ic=>intro r h;obtain ⟨p,ra,rb,rc,h1,h2,h3,h4,h5⟩:=h;exact ⟨p,ra,rb,rc,h1,s _ _ h2,ia h3,ib h4,ic h5⟩
 | pr _ _ ia ib=>intro r h;obtain ⟨p,ra,rb,h1,h2,h3,h4⟩:=h;exact ⟨p,ra,rb,h1,s _ _ h2,ia h3,ib h4⟩
 | opn _ _ _ _ ia ib=>intro r h;obtain ⟨p,ra,rb,h1,h2,h3,h4⟩:=h;exact ⟨p,ra,rb,h1,s _ _ h2,ia h3,ib h4⟩
 | lk _ _ ia ib=>intro r h;obtain ⟨p,ra,rb,h1,h2,h3,h4⟩:=h;exact ⟨p,ra,rb,h1,s _ _ h2,ia h3,ib h4⟩
 | spl _ _ _ _ _ ia ib ic=>intro r h;obtain ⟨p,ra,rb,rc,h1,h2,h3,h4,h5⟩:=h;exact ⟨p,ra,rb,rc,h1,s _ _ h2,ia h3,ib h4,ic h5⟩
 | op _ _ _ ia ib=>intro r h;obtain ⟨p,ra,rb,h1,h2,h3,h4⟩:=h;exact ⟨p,ra,rb,h1,s _ _ h2,ia h3,ib h4⟩
section
variable {X:Cx}{a:Expr}{pos:Pos}{ta:TE}
theorem Xl {op:UnaryOp}{r:V->Hp->VK->Prop}(ho:jY X (unaryOp op) r)(ha:SE X a ta):SE X (.UnaryOp op a pos) (mj r ta):=⟨UX ho ha.out⟩
end
end L2
namespace L2
open PySem PySem.Spec PyProof.Rows KS
section
variable {X:Cx}{o e value:Expr}{f x:Str}{pos MT p pos':Pos}{ta tv te:TE}{es:List Expr}{t:TA}
theorem JH {op:Operator}{left:V->V->Hp->VK->Prop}(mw:RO X op left)(ha:SE X o ta)(hv:SE X value tv):SS X (.AugAssign (.Attribute o f MT) op value pos) (LP X.K ta tv left f):=⟨MU ha.out hv.out mw⟩
end
section
variable {K:W.Frag}{σ:St}{H:Hp}{Q:VK}{D:Ends}{ta tv te:TE}{f:Str}{t:TA}{C:Addr}{sp:Sp}{E:XK}{u:TS}
theorem oU (q:ta σ H λx H1=>∃ a C dx fs v,x=.ref a/\H1 a=some (.ins C dx fs)/\G9 K C/\BA K C f/\fs.lookup f=some v/\Q v H1):Km K ta f σ H Q:=q
noncomputable def eT (J:It)(g:TG)(tb:TS)(D:Ends)(σ:St)(H:Hp):Prop:=∃ W:Nat->Nat->St->Hp->Prop,(∃ m,W 0 m σ H)/\∀ i m σ H,W i m σ H ->
 (J.stop i H/\D.nx σ H)\/(J.go i H/\∃ N:St->Hp->Prop,(∀ σ' H',N σ' H'->∃ m',m' < m/\W (i+1) m' σ' H')/\∀ x H',J.yld i H x H'->g x σ H' fun σ2 H2=>tb { D with nx:=N,ct:=N,bk:=D.nx } σ2 H2)
theorem bA {wi:TI}{g:TG}{tb:TS}(q:wi σ H λJ H1=>eT J g tb { D with nx:=u D } σ H1):Ja (RI wi g tb) u D σ H:=q
theorem kY {R:It->Hp->Prop}(q:t σ H λvs H1=>∃ a xs,vs=[.ref a]/\AO K H1 a xs/\R (HV K a xs.length) H1):WI K t σ H R:=q
theorem JI {i:Nat}{x:V}{R:St->Hp->Prop}(q:R (σ.set i (some x)) H):CA i x σ H R:=q
theorem kZ {rows:List (Str × Value)}(q:ta σ H λy H1=>∃ (k:Str) (u:Value) (v:V),y=.str k/\rowAt rows k=some u/\RelV v u/\Q v H1):Q5 rows ta σ H Q:=q
theorem eU {Mi:List (Str × Sp)}(q:ta σ H λy H1=>∃ (x:Str) (sp:Sp),y=.str x/\(x,sp)∈Mi/\t σ H1 λvs H2=>sp vs H2 Q E):L7 Mi E ta t σ H Q:=q
theorem oV {T:String}{r:V->List V->Hp->VK->Prop}(q:ta σ H λx H1=>d9 K T x H1/\r x [] H1 Q):Wx K T r ta σ H Q:=q
theorem xv {T:String}{r:V->List V->Hp->VK->Prop}(q:ta σ H λx H1=>d9 K T x H1/\t σ H1 λxs H2=>r x xs H2 Q):mD K T r ta t σ H Q:=q
theorem l0 {m:Str}(q:ta σ H λx H1=>∃ a dx fs,x=.ref a/\H1 a=some (.ins C dx fs)/\fs.lookup m=none/\t σ H1 λvs H2=>sp (x::(vs++[])) H2 Q E):D0 C m sp [] E ta t σ H Q:=q
end
end L2
local macro_rules | `(tactic| fail)=>`(tactic| first
 | with_reducible refine L2.oU ?_
 | with_reducible refine l5 ?_
 | with_reducible refine Xm ?_
 | with_reducible refine l7 ?_
 | with_reducible refine Xn ?_
 | with_reducible refine Sy ?_
 | with_reducible refine bB ?_
 | with_reducible refine L2.kZ ?_
 | with_reducible refine L2.bA ?_
 | with_reducible refine L2.JI ?_
 | with_reducible refine L2.kY ?_
 | with_reducible refine L2.eU ?_
 | with_reducible refine L2.oV ?_
 | with_reducible refine L2.xv ?_
 | with_reducible refine L2.l0 ?_
 | with_reducible refine Vm ?_
 | ((with_reducible refine oW (x:=?v) ?h ?q);(case h=>rfl)))
namespace L2
open PySem PySem.Spec PyProof.Rows KS
noncomputable def JJ (K:W.Frag)(a:Addr)(xs:List V):Prop:=∃ (o:Obj) (its:Array Value) (n:Nat),K.lookup a=some o/\o.cls=.type "tuple"/\o.data=.seq its n/\its.size<=sizeLine/\Vals xs its.toList
theorem JJ.sq {K:W.Frag}{a:Addr}{xs:List V}(h:JJ K a xs)(H:Hp):CZ K H a xs:=.inr h
end L2
namespace KX
open PySem
namespace Ex
noncomputable def wd:Ex->Str
 | nm _=>"name" | num _=>"number" | tru _=>"truth" | emp=>"empty" | fn _ _=>"fun" | rc _ _ _=>"rec" | cal _ _=>"call" | lt _ _ _=>"let" | wh _ _ _=>"when" | pr _ _=>"pair"
 | opn _ _ _ _=>"open" | lk _ _=>"link" | spl _ _ _ _ _=>"split" | op _ _ _=>"op"
noncomputable def prt:Ex->List (Ex × List Str)
 | nm _ | num _ | tru _ | emp=>[]
 | fn x b=>[(b,[x])] | rc f x b=>[(b,[f,x])] | cal a b=>[(a,[]),(b,[])] | lt x a b=>[(a,[]),(b,[x])] | wh a b c=>[(a,[]),(b,[]),(c,[])] | pr a b=>[(a,[]),(b,[])]
 | opn a x y b=>[(a,[]),(b,[x,y])] | lk a b=>[(a,[]),(b,[])] | spl a b x y c=>[(a,[]),(b,[]),(c,[x,y])] | op _ a b=>[(a,[]),(b,[])]
noncomputable def plc:Ex->List (Nat × List Nat)
 | nm _ | num _ | tru _ | emp=>[]
 | fn _ _=>[(2,[1])] | rc _ _ _=>[(3,[1,2])] | cal _ _=>[(1,[]),(2,[])] | lt _ _ _=>[(2,[]),(3,[1])] | wh _ _ _=>[(1,[]),(2,[]),(3,[])] | pr _ _=>[(1,[]),(2,[])]
 | opn _ _ _ _=>[(1,[]),(4,[2,3])] | lk _ _=>[(1,[]),(2,[])] | spl _ _ _ _ _=>[(1,[]),(2,[]),(5,[3,4])] | op _ _ _=>[(2,[]),(3,[])]
end Ex
end KX
namespace L2
open PySem PySem.Spec PyProof.Rows KS KX
noncomputable def oX (H:Hp)(us:List V)(row:Nat × List Nat)(pt:Ex × List Str):Prop:=(∃ re,us[row.1]?=some re/\Bo H pt.1 re)/\Paired (λn x=>us[n]?=some (V.str x)) row.2 pt.2
theorem Bo.look {H:Hp}{e:Ex}{r:V}(h:Bo H e r):∃ p us,r=.ref p/\H p=some (.tup (.str e.wd::us))/\Paired (oX H (.str e.wd::us)) e.plc e.prt/\us.length<=5:=by
 cases e with
 | nm _=>obtain ⟨p,h1,h2⟩:=h;exact ⟨p,_,h1,h2,.nil,by simp⟩
 | num _=>obtain ⟨p,h1,h2⟩:=h;exact ⟨p,_,h1,h2,.nil,by simp⟩
 | tru _=>obtain ⟨p,h1,h2⟩:=h;exact ⟨p,_,h1,h2,.nil,by simp⟩
 | emp=>obtain ⟨p,h1,h2⟩:=h;exact ⟨p,_,h1,h2,.nil,by simp⟩
 | fn _ _=>obtain ⟨p,rb,h1,h2,h3⟩:=h;exact ⟨p,_,h1,h2,.cons ⟨⟨rb,rfl,h3⟩,.cons rfl .nil⟩ .nil,by simp⟩
 | rc _ _ _=>obtain ⟨p,rb,h1,h2,h3⟩:=h;exact ⟨p,_,h1,h2,.cons ⟨⟨rb,rfl,h3⟩,.cons rfl (.cons rfl .nil)⟩ .nil,by simp⟩
 | cal _ _=>obtain ⟨p,ra,rb,h1,h2,h3,h4⟩:=h;exact ⟨p,_,h1,h2,.cons ⟨⟨ra,rfl,h3⟩,.nil⟩ (.cons ⟨⟨rb,rfl,h4⟩,.nil⟩ .nil),by simp⟩
 | lt _ _ _=>obtain ⟨p,ra,rb,h1,h2,h3,h4⟩:=h;exact ⟨p,_,h1,h2,.cons ⟨⟨ra,rfl,h3⟩,.nil⟩ (.cons ⟨⟨rb,rfl,h4⟩,.cons rfl .nil⟩ .nil),by simp⟩
 | wh _ _ _=>obtain ⟨p,ra,rb,rc,h1,h2,h3,h4,h5⟩:=h;exact ⟨p,_,h1,h2,.cons ⟨⟨ra,rfl,h3⟩,.nil⟩ (.cons ⟨⟨rb,rfl,h4⟩,.nil⟩ (.cons ⟨⟨rc,rfl,h5⟩,.nil⟩ .nil)),by simp⟩
 | pr _ _=>obtain ⟨p,ra,rb,h1,h2,h3,h4⟩:=h;exact ⟨p,_,h1,h2,.cons ⟨⟨ra,rfl,h3⟩,.nil⟩ (.cons ⟨⟨rb,rfl,h4⟩,.nil⟩ .nil),by simp⟩
 | opn _ _ _ _=>obtain ⟨p,ra,rb,h1,h2,h3,h4⟩:=h;exact ⟨p,_,h1,h2,.cons ⟨⟨ra,rfl,h3⟩,.nil⟩ (.cons ⟨⟨rb,rfl,h4⟩,.cons rfl (.cons rfl .nil)⟩ .nil),by simp⟩
 | lk _ _=>obtain ⟨p,ra,rb,h1,h2,h3,h4⟩:=h;exact ⟨p,_,h1,h2,.cons ⟨⟨ra,rfl,h3⟩,.nil⟩ (.cons ⟨⟨rb,rfl,h4⟩,.nil⟩ .nil),by simp⟩
 | spl _ _ _ _ _=>obtain ⟨p,ra,rb,rc,h1,h2,h3,h4,h5⟩:=h;exact ⟨p,_,h1,h2,.cons ⟨⟨ra,rfl,h3⟩,.nil⟩ (.cons ⟨⟨rb,rfl,h4⟩,.nil⟩ (.cons ⟨⟨rc,rfl,h5⟩,.cons rfl (.cons rfl .nil)⟩ .nil)),by simp⟩
 | op _ _ _=>obtain ⟨p,ra,rb,h1,h2,h3,h4⟩:=h;exact ⟨p,_,h1,h2,.cons ⟨⟨ra,rfl,h3⟩,.nil⟩ (.cons ⟨⟨rb,rfl,h4⟩,.nil⟩ .nil),by simp⟩
noncomputable def Sz (K:W.Frag)(row:Nat × List Nat)(u:V):Prop:=∃ b c,u=.ref b/\JJ K b [.int row.1,.ref c]/\JJ K c (row.2.map λn:Nat=>V.int n)
noncomputable def xw (K:W.Frag)(rows:List (Str × Value)):Prop:=∀ e:Ex,∃ a us,rowAt rows e.wd=some (.ref a)/\JJ K a us/\Paired (Sz K) e.plc us
end L2
namespace KM
noncomputable def arity:Nat->Nat
 | 3=>2
 | 4=>2
 | 5=>1
 | _=>0
noncomputable def glue (rp:Nat->Nat)(v u:Nat):Nat->Nat:=λi=>if rp i=v then u else rp i
noncomputable def cnt (p:Nat->Bool):Nat->Nat
 | 0=>0
 | n+1=>cnt p n+(if p n then 1 else 0)
theorem Q8 {p q:Nat->Bool}(h:∀ i,p i=true->q i=true):∀ n,cnt p n<=cnt q n
 | 0=>Nat.le_refl _
 | n+1=>by
  have:=Q8 h n;show cnt p n+(if p n then 1 else 0)<=cnt q n+(if q n then 1 else 0)
  by_cases e:p n=true
  ·rw [if_pos e,if_pos (h n e)];omega
  ·rw [if_neg e];omega
theorem Q9 {p q:Nat->Bool}(h:∀ i,p i=true->q i=true){j:Nat}(h1:q j=true)(h2:¬ p j=true):∀ {n},j < n->cnt p n < cnt q n
 | 0,hj=>by omega
 | n+1,hj=>by
  show cnt p n+(if p n then 1 else 0) < cnt q n+(if q n then 1 else 0)
  by_cases e:j=n
  ·subst e;rw [if_neg h2,if_pos h1];have:=Q8 h j;omega
  ·have:=Q9 h h1 h2 (n:=n) ();by_cases e:p n=true
   ·rw [if_pos e,if_pos (h n e)];omega
   ·rw [if_neg e];omega
structure UF (n:Nat)(par rp rk:Nat->Nat):Prop where
 lt:∀ i,i < n->par i < n
 rpp:∀ i,i < n->rp (par i)=rp i
 root:∀ i,i < n->par i=i->rp i=i
 up:∀ i,i < n->par i≠i->rk (par i) < rk i
 idem:∀ i,i < n->rp i < n/\rp (rp i)=rp i
 top:∀ i,i < n->par (rp i)=rp i
noncomputable def CG (f:Nat->Nat)(i x:Nat):Nat->Nat:=λj=>if j=i then x else f j
theorem Bm {f:Nat->Nat}{i x:Nat}:CG f i x i=x:=if_pos rfl
theorem AQ {f:Nat->Nat}{i x j:Nat}(h:j≠i):CG f i x j=f j:=if_neg h
theorem UF.start (n:Nat):UF n id id (λ_=>0):=⟨λ_ h=>h,λ_ _=>rfl,λ_ _ _=>rfl,λ_ _ h=>absurd rfl h,λ_ h=>⟨h,rfl⟩,λ_ _=>rfl⟩
theorem UF.abw {n:Nat}{par rp rk:Nat->Nat}(U:UF n par rp rk){i:Nat}(hi:i < n)(EY:par i≠i):UF n (CG par i (par (par i))) rp rk where
 lt:=λj hj=>by
  by_cases e:j=i
  ·rw [e,Bm];exact U.lt _ (U.lt _ hi)
  ·rw [AQ e];exact U.lt _ hj
 rpp:=λj hj=>by
  by_cases e:j=i
  ·rw [e,Bm,U.rpp _ (U.lt _ hi),U.rpp _ hi]
  ·rw [AQ e];exact U.rpp _ hj
 root:=λj hj h=>by
  by_cases e:j=i
  ·rw [e,Bm] at h;have h1:=U.up i hi EY;by_cases z:par (par i)=par i
   ·rw [z] at h;exact absurd h EY
   ·have h2:=U.up _ (U.lt _ hi) z;rw [h] at h2;omega
  ·rw [AQ e] at h;exact U.root _ hj h
 up:=λj hj h=>by
  by_cases e:j=i
  ·rw [e,Bm];have h1:=U.up i hi EY;by_cases z:par (par i)=par i
   ·rw [z];exact h1
   ·have h2:=U.up _ (U.lt _ hi) z;omega
  ·rw [AQ e] at h ⊢;exact U.up _ hj h
 idem:=U.idem
 top:=λj hj=>by
  have oY:rp j≠i:=λz=>by
   have:=U.top j hj;rw [z] at this;exact EY this
  rw [AQ oY];exact U.top j hj
theorem UF.union {n:Nat}{par rp rk:Nat->Nat}(U:UF n par rp rk){u v:Nat}(hu:u < n)(hv:v < n)(ru:rp u=u)(rv:rp v=v)(EY:u≠v):UF n (CG par v u) (glue rp v u) (λi=>if rp i=v then rk i+rk u+1 else rk i) where
 lt:=λj hj=>by
  by_cases e:j=v
  ·rw [e,Bm];exact hu
  ·rw [AQ e];exact U.lt _ hj
 rpp:=λj hj=>by
  by_cases e:j=v
  ·rw [e,Bm];show (if rp u=v then u else rp u)=(if rp v=v then u else rp v)
   rw [ru,if_neg EY,if_pos rv]
  ·rw [AQ e];show (if rp (par j)=v then u else rp (par j))=(if rp j=v then u else rp j)
   rw [U.rpp j hj]
 root:=λj hj h=>by
  by_cases e:j=v
  ·rw [e,Bm] at h;exact absurd h EY
  ·rw [AQ e] at h;show (if rp j=v then u else rp j)=j
   rw [U.root j hj h,if_neg e]
 up:=λj hj h=>by
  show (if rp (CG par v u j)=v then rk (CG par v u j)+rk u+1 else rk (CG par v u j)) < (if rp j=v then rk j+rk u+1 else rk j)
  by_cases e:j=v
  ·rw [e,Bm,ru,if_neg EY,rv,if_pos rfl];omega
  ·rw [AQ e] at h ⊢;have:=U.up j hj h;rw [U.rpp j hj];by_cases z:rp j=v
   ·rw [if_pos z,if_pos z];omega
   ·rw [if_neg z,if_neg z];exact this
 idem:=λj hj=>by
  show (if rp j=v then u else rp j) < n/\(if rp (if rp j=v then u else rp j)=v then u else rp (if rp j=v then u else rp j))=(if rp j=v then u else rp j)
  by_cases z:rp j=v
  ·rw [if_pos z];exact ⟨hu,by rw [ru,if_neg EY]⟩
  ·rw [if_neg z];have:=U.idem j hj;exact ⟨this.1,by rw [this.2,if_neg z]⟩
 top:=λj hj=>by
  show CG par v u (if rp j=v then u else rp j)=(if rp j=v then u else rp j)
  by_cases z:rp j=v
  ·rw [if_pos z,AQ EY];have:=U.top u hu;rw [ru] at this;exact this
  ·rw [if_neg z,AQ z];exact U.top j hj
end KM
namespace KN
open KM
structure Ns where
 n:Nat
 tg:Nat->Nat
 ch:Nat->List Nat
 rp:Nat->Nat
 lv:Nat->Nat
 k:Nat
structure Ok (s:Ns)(A:Nat->Prop):Prop where
 rp:∀ i,i < s.n->s.rp i < s.n/\s.rp (s.rp i)=s.rp i
 ch:∀ i,i < s.n->∀ c∈s.ch i,c < s.n
 ar:∀ i,i < s.n->(s.ch i).length<=2
 lt:∀ i,A i->i < s.n
 li:∀ i,i < s.n->(A (s.rp i)↔A i)
 cl:∀ x,A x->s.rp x=x->∀ c∈s.ch x,A c
 mo:∀ x,A x->s.rp x=x->∀ c∈s.ch x,s.lv (s.rp c)<=s.lv x
 le:∀ x,A x->s.rp x=x->s.lv x<=s.k
theorem Ok.lev {s:Ns}{A:Nat->Prop}(o:Ok s A){x:Nat}(h:A x):s.lv (s.rp x)<=s.k :=
 o.le _ ((o.li _ (o.lt _ h)).mpr h) (o.rp _ (o.lt _ h)).2
structure Le (s:Ns)(A:Nat->Prop)(s':Ns)(A':Nat->Prop):Prop where
 n:s.n<=s'.n
 k:s'.k=s.k
 tg:∀ i,i < s.n->s'.tg i=s.tg i
 ch:∀ i,i < s.n->s'.ch i=s.ch i
 fr:∀ i,i < s.n->¬ A i->¬ A' i/\s'.rp i=s.rp i/\s'.lv (s.rp i)=s.lv (s.rp i)
 li:∀ i,A i->A' i/\s'.lv (s'.rp i)<=s.lv (s.rp i)
theorem Le.refl (s:Ns)(A:Nat->Prop):Le s A s A:=⟨Nat.le_refl _,rfl,λ_ _=>rfl,λ_ _=>rfl,λ_ _ h=>⟨h,rfl,rfl⟩,λ_ h=>⟨h,Nat.le_refl _⟩⟩
theorem Le.trans {s s' bc:Ns}{A A' xx:Nat->Prop}(o:Ok s A)(a:Le s A s' A')(b:Le s' A' bc xx):Le s A bc xx where
 n:=Nat.le_trans a.n b.n
 k:=b.k.trans a.k
 tg:=λi h=>(b.tg i (Nat.lt_of_lt_of_le h a.n)).trans (a.tg i h)
 ch:=λi h=>(b.ch i (Nat.lt_of_lt_of_le h a.n)).trans (a.ch i h)
 fr:=λi h hA=>by
  obtain ⟨h1,h2,h3⟩:=a.fr i h hA;obtain ⟨h4,h5,h6⟩:=b.fr i (Nat.lt_of_lt_of_le h a.n) h1;refine ⟨h4,h5.trans h2,?_⟩;rw [h2] at h6;exact h6.trans h3
 li:=λi h=>by
  obtain ⟨h1,h2⟩:=a.li i h;obtain ⟨h3,h4⟩:=b.li i h1;exact ⟨h3,Nat.le_trans h4 h2⟩
noncomputable def Ent (s:Ns)(A:Nat->Prop)(c e l:Nat):Prop:=e < s.n/\∃ ds:List Nat,ds.length<=c/\(∀ x∈ds,x < s.n/\¬ A x/\s.rp x=x) /\
 ∀ x,(x=e\/∃ y∈ds,x∈s.ch y)->(s.lv (s.rp x)<=l/\A x)\/(l < s.lv (s.rp x)/\s.rp x∈ds)
theorem Ent.more {s:Ns}{A:Nat->Prop}{c c' e l:Nat}(h:Ent s A c e l)(hc:c<=c'):Ent s A c' e l :=
 ⟨h.1,h.2.choose,Nat.le_trans h.2.choose_spec.1 hc,h.2.choose_spec.2⟩
theorem Ent.live {s:Ns}{A:Nat->Prop}{c e l:Nat}(o:Ok s A)(h:A e)(hl:s.lv (s.rp e)<=l):Ent s A c e l :=
 ⟨o.lt _ h,[],Nat.zero_le _,λx hx=>(by cases hx),λx hx=>by
  rcases hx with rfl | ⟨y,hy,_⟩
  ·exact .inl ⟨hl,h⟩
  ·cases hy⟩
theorem Ent.mono {s s':Ns}{A A':Nat->Prop}{c e l:Nat}(o:Ok s A)(r:Le s A s' A')(h:Ent s A c e l):Ent s' A' c e l:=by
 obtain ⟨he,ds,h1,h2,h3⟩:=h;refine ⟨Nat.lt_of_lt_of_le he r.n,ds,h1,λx hx=>?_,λx hx=>?_⟩
 ·obtain ⟨a,b,d⟩:=h2 x hx;obtain ⟨f1,f2,_⟩:=r.fr x a b;exact ⟨Nat.lt_of_lt_of_le a r.n,f1,f2.trans d⟩
 ·have Ic:x=e\/∃ y∈ds,x∈s.ch y:=by
   rcases hx with z | ⟨y,hy,z⟩
   ·exact .inl z
   ·exact .inr ⟨y,hy,by rw [<- r.ch y (h2 y hy).1];exact z⟩
  have xn:x < s.n:=by
   rcases Ic with rfl | ⟨y,hy,z⟩
   ·exact he
   ·exact o.ch y (h2 y hy).1 x z
  rcases h3 x Ic with ⟨a,b⟩ | ⟨a,b⟩
  ·obtain ⟨g1,g2⟩:=r.li x b;exact .inl ⟨Nat.le_trans g2 a,g1⟩
  ·have nA:¬ A x:=λz=>(h2 _ b).2.1 ((o.li x xn).mpr z);obtain ⟨_,f2,f3⟩:=r.fr x xn nA;rw [f2,f3];exact .inr ⟨a,b⟩
structure Down (s:Ns)(A:Nat->Prop)(s':Ns):Prop where
 n:s'.n=s.n
 k:s.k=s'.k+1
 tg:s'.tg=s.tg
 ch:s'.ch=s.ch
 rp:s'.rp=s.rp
 fr:∀ x,¬ A x->s'.lv x=s.lv x
 le:∀ x,s'.lv x<=s.lv x
 mo:∀ x,A x->s.rp x=x->∀ c∈s.ch x,s'.lv (s.rp c)<=s'.lv x
noncomputable def Hx (s':Ns)(A:Nat->Prop):Nat->Prop:=λx=>A x/\s'.lv (s'.rp x)<=s'.k
theorem Down.ok {s s':Ns}{A:Nat->Prop}(o:Ok s A)(d:Down s A s'):Ok s' (Hx s' A) where
 rp:=λi h=>by rw [d.rp,d.n];exact o.rp i (by rw [<- d.n];exact h)
 ch:=λi h=>by rw [d.ch,d.n];exact o.ch i (by rw [<- d.n];exact h)
 ar:=λi h=>by rw [d.ch];exact o.ar i (by rw [<- d.n];exact h)
 lt:=λi h=>by rw [d.n];exact o.lt i h.1
 li:=λi h=>by
  have h':i < s.n:=by rw [<- d.n];exact h
  unfold Hx;rw [d.rp,(o.rp i h').2,o.li i h']
 cl:=λx hx e c hc=>by
  rw [d.rp] at e;rw [d.ch] at hc;have:=d.mo x hx.1 e c hc;have h2:=hx.2;rw [d.rp,e] at h2;refine ⟨o.cl x hx.1 e c hc,?_⟩;rw [d.rp];omega
 mo:=λx hx e c hc=>by
  rw [d.rp] at e;rw [d.ch] at hc;rw [d.rp];exact d.mo x hx.1 e c hc
 le:=λx hx e=>by
  have h2:=hx.2;rw [e] at h2;exact h2
theorem Down.ent {s s':Ns}{A:Nat->Prop}{c e l:Nat}(o:Ok s A)(d:Down s A s')(hl:l<=s'.k)(h:Ent s A c e l):Ent s' (Hx s' A) c e l:=by
 obtain ⟨he,ds,h1,h2,h3⟩:=h;refine ⟨by rw [d.n];exact he,ds,h1,λx hx=>?_,λx hx=>?_⟩
 ·obtain ⟨a,b,z⟩:=h2 x hx;exact ⟨by rw [d.n];exact a,λq=>b q.1,by rw [d.rp];exact z⟩
 ·rw [d.ch] at hx;have xn:x < s.n:=by
   rcases hx with rfl | ⟨y,hy,z⟩
   ·exact he
   ·exact o.ch y (h2 y hy).1 x z
  rw [d.rp];rcases h3 x hx with ⟨a,b⟩ | ⟨a,b⟩
  ·have:=d.le (s.rp x);refine .inl ⟨(),b,?_⟩;rw [d.rp];omega
  ·exact .inr ⟨by rw [d.fr _ (h2 _ b).2.1];exact a,b⟩
open Classical in
theorem Down.first {s s':Ns}{A:Nat->Prop}{f n0:Nat}(o:Ok s A)(d:Down s A s')(hf:A f)(hn:∀ i,i < n0->A i->s.lv (s.rp i)<=s'.k):Ent s' (Hx s' A) (s.n - n0) f s'.k:=by
 refine ⟨by rw [d.n];exact o.lt f hf,((List.range' n0 (s.n - n0)).filter λx=>decide (A x/\s.rp x=x/\s'.k < s'.lv x)),?_,λx hx=>?_,λx hx=>?_⟩
 ·exact Nat.le_trans (List.length_filter_le _ _) (by simp)
 ·obtain ⟨_,h2⟩:=List.mem_filter.mp hx;obtain ⟨a,b,z⟩:=of_decide_eq_true h2;refine ⟨by rw [d.n];exact o.lt x a,λq=>?_,by rw [d.rp];exact b⟩;have:=q.2;rw [d.rp,b] at this;omega
 ·have xA:A x:=by
   rcases hx with rfl | ⟨y,hy,z⟩
   ·exact hf
   ·obtain ⟨_,h2⟩:=List.mem_filter.mp hy;obtain ⟨a,b,_⟩:=of_decide_eq_true h2;rw [d.ch] at z;exact o.cl y a b x z
  have rA:A (s.rp x):=(o.li x (o.lt x xA)).mpr xA;have rr:=(o.rp x (o.lt x xA)).2;rw [d.rp];by_cases q:s'.lv (s.rp x)<=s'.k
  ·exact .inl ⟨q,xA,by rw [d.rp];exact q⟩
  ·refine .inr ⟨(),List.mem_filter.mpr ⟨?_,decide_eq_true ⟨rA,rr,()⟩⟩⟩;rw [List.mem_range'_1];have h1:=o.lt _ rA;refine ⟨Nat.le_of_not_lt λz=>?_,()⟩;have:=hn _ z rA;rw [rr] at this;have:=d.le (s.rp x);omega
end KN
namespace KN
structure Pre (s:Ns)(A:Nat->Prop)(l top:Nat):Prop where
 rp:∀ i,i < s.n->s.rp i < s.n/\s.rp (s.rp i)=s.rp i
 ch:∀ i,i < s.n->∀ c∈s.ch i,c < s.n
 ar:∀ i,i < s.n->(s.ch i).length<=2
 lt:∀ i,A i->i < s.n
 li:∀ i,i < s.n->(A (s.rp i)↔A i)
 cl:∀ x,A x->s.rp x=x->∀ c∈s.ch x,A c
 mo:∀ x,A x->s.rp x=x->∀ c∈s.ch x,s.lv (s.rp c)<=s.lv x\/(l<=s.lv x/\s.rp c=s.rp top)
 le:∀ x,A x->s.rp x=x->s.lv x<=s.k
 tp:A top
structure Lb (s:Ns)(A:Nat->Prop)(l top:Nat)(lv:Nat->Nat)(W:List Nat):Prop where
 le:∀ x,lv x<=s.lv x
 fr:∀ x,¬ A x->lv x=s.lv x
 wA:∀ y∈W,A y
 mo:∀ x,A x->s.rp x=x->∀ c∈s.ch x,lv (s.rp c)<=lv x\/(l<=lv x/\∃ y∈W,s.rp y=s.rp c)
 tp:lv (s.rp top)<=l\/∃ y∈W,s.rp y=s.rp top
noncomputable def deep (n l:Nat)(lv:Nat->Nat):Nat:=(List.range n).countP λx=>decide (l < lv x)
theorem Lb.start {s:Ns}{A:Nat->Prop}{l top:Nat}(p:Pre s A l top):Lb s A l top s.lv [top] :=
 ⟨λ_=>Nat.le_refl _,λ_ _=>rfl,λy hy=>by rw [List.mem_singleton.mp hy];exact p.tp,λx hx e c hc=>(p.mo x hx e c hc).imp id λz=>⟨z.1,top,.head _,z.2.symm⟩,.inr ⟨top,.head _,rfl⟩⟩
theorem Lb.skip {s:Ns}{A:Nat->Prop}{l top y:Nat}{lv:Nat->Nat}{W:List Nat}(h:Lb s A l top lv (W++[y]))(hy:lv (s.rp y)<=l):Lb s A l top lv W where
 le:=h.le
 fr:=h.fr
 wA:=λz hz=>h.wA z (List.mem_append_left _ hz)
 mo:=λx hx e c hc=>by
  rcases h.mo x hx e c hc with q | ⟨q,z,hz,ez⟩
  ·exact .inl q
  ·rcases List.mem_append.mp hz with hz | hz
   ·exact .inr ⟨q,z,hz,ez⟩
   ·rw [List.mem_singleton.mp hz] at ez;exact .inl (by rw [<- ez];omega)
 tp:=by
  rcases h.tp with q | ⟨z,hz,ez⟩
  ·exact .inl q
  ·rcases List.mem_append.mp hz with hz | hz
   ·exact .inr ⟨z,hz,ez⟩
   ·rw [List.mem_singleton.mp hz] at ez;exact .inl (by rw [<- ez];exact hy)
theorem Lb.go {s:Ns}{A:Nat->Prop}{l top y:Nat}{lv:Nat->Nat}{W:List Nat}(p:Pre s A l top)(h:Lb s A l top lv (W++[y]))(hy:l < lv (s.rp y)):
  Lb s A l top (λj=>if j=s.rp y then l else lv j) (W++s.ch (s.rp y)):=by
 have yA:A y:=h.wA y (by simp);have rA:A (s.rp y):=(p.li y (p.lt y yA)).mpr yA;have rr:=(p.rp y (p.lt y yA)).2;have low:∀ j,(if j=s.rp y then l else lv j)<=lv j:=λj=>by
  by_cases e:j=s.rp y
  ·rw [if_pos e,e];omega
  ·rw [if_neg e];exact Nat.le_refl _
 refine ⟨λx=>Nat.le_trans (low x) (h.le x),λx hx=>?_,λz hz=>?_,λx hx e c hc=>?_,?_⟩
 ·rw [if_neg (λe:x=s.rp y=>hx (by rw [e];exact rA))];exact h.fr x hx
 ·rcases List.mem_append.mp hz with hz | hz
  ·exact h.wA z (List.mem_append_left _ hz)
  ·exact p.cl _ rA rr z hz
 ·by_cases ex:x=s.rp y
  ·subst ex;rw [if_pos rfl];exact .inr ⟨Nat.le_refl _,c,List.mem_append_right _ hc,rfl⟩
  ·rw [if_neg ex];by_cases ec:s.rp c=s.rp y
   ·rw [if_pos ec];rcases h.mo x hx e c hc with q | ⟨q,_⟩
    ·rw [ec] at q;exact .inl ()
    ·exact .inl q
   ·rw [if_neg ec];rcases h.mo x hx e c hc with q | ⟨q,z,hz,ez⟩
    ·exact .inl q
    ·rcases List.mem_append.mp hz with hz | hz
     ·exact .inr ⟨q,z,List.mem_append_left _ hz,ez⟩
     ·rw [List.mem_singleton.mp hz] at ez;exact absurd ez.symm ec
 ·by_cases ec:s.rp top=s.rp y
  ·rw [if_pos ec];exact .inl (Nat.le_refl _)
  ·rw [if_neg ec];rcases h.tp with q | ⟨z,hz,ez⟩
   ·exact .inl q
   ·rcases List.mem_append.mp hz with hz | hz
    ·exact .inr ⟨z,List.mem_append_left _ hz,ez⟩
    ·rw [List.mem_singleton.mp hz] at ez;exact absurd ez.symm ec
theorem Ie {α:Type}{p q:α->Bool}:∀ {l:List α} {x:α},x∈l->(∀ y,q y=true->p y=true)->p x=true->q x=false->l.countP q < l.countP p:=by
 intro l
 induction l with
 | nil=>intro x h;cases h
 | cons a l ih =>
  intro x hx eK px qx;have mono:l.countP q<=l.countP p:=List.countP_mono_left λy _=>eK y;rw [List.countP_cons,List.countP_cons];rcases List.mem_cons.mp hx with rfl | hx
  ·simp only [px,qx,if_true];simp;omega
  ·have:=ih hx eK px qx;cases hq:q a
   ·cases p a <;> simp <;> omega
   ·rw [eK a hq];simp;omega
theorem SH {n l y:Nat}{lv:Nat->Nat}(hy:y < n)(h:l < lv y):deep n l (λj=>if j=y then l else lv j) < deep n l lv:=by
 unfold deep;refine Ie (x:=y) (List.mem_range.mpr hy) (λz hz=>?_) (decide_eq_true h) (by simp);by_cases e:z=y
 ·subst e;simp at hz
 ·simpa [e] using hz
theorem SJ (n l:Nat)(lv:Nat->Nat):deep n l lv<=n:=by
 unfold deep;exact Nat.le_trans List.countP_le_length (by simp)
theorem Lb.done {s:Ns}{A:Nat->Prop}{l top:Nat}{lv:Nat->Nat}(p:Pre s A l top)(h:Lb s A l top lv []):Ok { s with lv:=lv } A/\lv (s.rp top)<=l:=by
 refine ⟨⟨p.rp,p.ch,p.ar,p.lt,p.li,p.cl,λx hx e c hc=>?_,λx hx e=>Nat.le_trans (h.le x) (p.le x hx e)⟩,?_⟩
 ·rcases h.mo x hx e c hc with q | ⟨_,z,hz,_⟩
  ·exact q
  ·cases hz
 ·rcases h.tp with q | ⟨z,hz,_⟩
  ·exact q
  ·cases hz
noncomputable def Ns.glue (s:Ns)(v u:Nat):Ns:={ s with rp:=λi=>if s.rp i=v then u else s.rp i }
theorem Ok.glue {s:Ns}{A:Nat->Prop}{u v:Nat}(o:Ok s A)(hu:A u)(hv:A v)(ru:s.rp u=u)(rv:s.rp v=v)(ne:u≠v):Pre (s.glue v u) A (s.lv v) u:=by
 have e0:(s.glue v u).rp u=u:=by show (if s.rp u=v then u else s.rp u)=u;rw [ru,if_neg ne]
 have back:∀ x,(s.glue v u).rp x=x->A x->s.rp x=x/\x≠v:=λx e hx=>by
  have e:(if s.rp x=v then u else s.rp x)=x:=e
  by_cases q:s.rp x=v
  ·rw [if_pos q] at e;rw [<- e,ru] at q;exact absurd q ne
  ·rw [if_neg q] at e;exact ⟨e,λz=>q (by rw [e];exact z)⟩
 refine ⟨λi hi=>?_,o.ch,o.ar,o.lt,λi hi=>?_,λx hx e=>o.cl x hx (back x e hx).1,λx hx e c hc=>?_,λx hx e=>o.le x hx (back x e hx).1,hu⟩
 ·show (if s.rp i=v then u else s.rp i) < s.n/\(s.glue v u).rp (if s.rp i=v then u else s.rp i)=(if s.rp i=v then u else s.rp i)
  by_cases q:s.rp i=v
  ·rw [if_pos q];exact ⟨o.lt u hu,e0⟩
  ·rw [if_neg q];refine ⟨(o.rp i hi).1,?_⟩;show (if s.rp (s.rp i)=v then u else s.rp (s.rp i))=s.rp i
   rw [(o.rp i hi).2,if_neg q]
 ·show A (if s.rp i=v then u else s.rp i)↔A i
  by_cases q:s.rp i=v
  ·rw [if_pos q,<- o.li i hi,q];exact ⟨λ_=>hv,λ_=>hu⟩
  ·rw [if_neg q];exact o.li i hi
 ·obtain ⟨ex,_⟩:=back x e hx;have m:=o.mo x hx ex c hc;show s.lv (if s.rp c=v then u else s.rp c)<=s.lv x\/(s.lv v<=s.lv x/\(if s.rp c=v then u else s.rp c)=(s.glue v u).rp u)
  rw [e0];by_cases q:s.rp c=v
  ·rw [if_pos q];rw [q] at m;exact .inr ⟨m,rfl⟩
  ·rw [if_neg q];exact .inl m
theorem Le.abo {s:Ns}{A:Nat->Prop}{u v:Nat}{lv:Nat->Nat}(o:Ok s A)(hu:A u)(hv:A v)(ru:s.rp u=u)(rv:s.rp v=v)(ne:u≠v)(h:Lb (s.glue v u) A (s.lv v) u lv []):
  Ok { s.glue v u with lv:=lv } A/\Le s A { s.glue v u with lv:=lv } A:=by
 have p:=o.glue hu hv ru rv ne;obtain ⟨h1,h2⟩:=h.done p;have e0:(s.glue v u).rp u=u:=by show (if s.rp u=v then u else s.rp u)=u;rw [ru,if_neg ne]
 rw [e0] at h2;refine ⟨h1,Nat.le_refl _,rfl,λ_ _=>rfl,λ_ _=>rfl,λi hi nA=>?_,λi hA=>⟨hA,?_⟩⟩
 ·have q:s.rp i≠v:=λz=>nA ((o.li i hi).mp (z▸hv));have nr:¬ A (s.rp i):=λz=>nA ((o.li i hi).mp z);exact ⟨nA,if_neg q,h.fr _ nr⟩
 ·show lv (if s.rp i=v then u else s.rp i)<=s.lv (s.rp i)
  by_cases q:s.rp i=v
  ·rw [if_pos q,q];exact h2
  ·rw [if_neg q];exact h.le _
open KM
noncomputable def plus (A:Nat->Prop)(x:Nat):Nat->Prop:=λi=>A i\/i=x
noncomputable def Ns.add (s:Ns)(t:Nat)(cs:List Nat):Ns where
 n:=s.n+1
 tg:=λj=>if j=s.n then t else s.tg j
 ch:=λj=>if j=s.n then cs else s.ch j
 rp:=λj=>if j=s.n then s.n else s.rp j
 lv:=λj=>if j=s.n then s.k else s.lv j
 k:=s.k
theorem Ok.add {s:Ns}{A:Nat->Prop}(o:Ok s A){t:Nat}{cs:List Nat}(hc:∀ c∈cs,A c)(hl:cs.length<=2):Ok (s.add t cs) (plus A s.n):=by
 have rpo:∀ i,i < s.n->(s.add t cs).rp i=s.rp i:=λi h=>if_neg (Nat.ne_of_lt h);have l8:∀ i,i < s.n->(s.add t cs).ch i=s.ch i:=λi h=>if_neg (Nat.ne_of_lt h);have Xo:∀ i,i < s.n->(s.add t cs).lv i=s.lv i:=λi h=>if_neg (Nat.ne_of_lt h);have oZ:(s.add t cs).rp s.n=s.n:=if_pos rfl;have l9:(s.add t cs).ch s.n=cs:=if_pos rfl;have xy:(s.add t cs).lv s.n=s.k:=if_pos rfl;have two:∀ i,i < (s.add t cs).n->i < s.n\/i=s.n:=λi h=>by
  have h:i < s.n+1:=h;omega
 have old:∀ x,plus A s.n x->(s.add t cs).rp x=x->(A x/\x < s.n/\s.rp x=x)\/x=s.n:=λx hx e=>by
  rcases hx with hx | hx
  ·exact .inl ⟨hx,o.lt x hx,by rw [rpo x (o.lt x hx)] at e;exact e⟩
  ·exact .inr hx
 refine ⟨λi hi=>?_,λi hi c h=>?_,λi hi=>?_,λi hi=>?_,λi hi=>?_,λx hx e c h=>?_,λx hx e c h=>?_,λx hx e=>?_⟩
 ·rcases two i hi with h | h
  ·obtain ⟨h1,h2⟩:=o.rp i h;rw [rpo i h,rpo _ h1];exact ⟨Nat.lt_succ_of_lt h1,h2⟩
  ·rw [h,oZ,oZ];exact ⟨Nat.lt_succ_self _,rfl⟩
 ·rcases two i hi with h' | h'
  ·rw [l8 i h'] at h;exact Nat.lt_succ_of_lt (o.ch i h' c h)
  ·rw [h',l9] at h;exact Nat.lt_succ_of_lt (o.lt c (hc c h))
 ·rcases two i hi with h | h
  ·rw [l8 i h];exact o.ar i h
  ·rw [h,l9];exact hl
 ·rcases hi with h | h
  ·exact Nat.lt_succ_of_lt (o.lt i h)
  ·rw [h];exact Nat.lt_succ_self _
 ·rcases two i hi with h | h
  ·obtain ⟨h1,_⟩:=o.rp i h;rw [rpo i h];show (A (s.rp i)\/s.rp i=s.n)↔(A i\/i=s.n);have a:s.rp i≠s.n:=Nat.ne_of_lt h1;have b:i≠s.n:=Nat.ne_of_lt h;simp only [a,b,or_false];exact o.li i h
  ·rw [h,oZ]
 ·rcases old x hx e with ⟨a,b,d⟩ | h'
  ·rw [l8 x b] at h;exact .inl (o.cl x a d c h)
  ·rw [h',l9] at h;exact .inl (hc c h)
 ·rcases old x hx e with ⟨a,b,d⟩ | h'
  ·rw [l8 x b] at h;have cn:=o.lt c (o.cl x a d c h);rw [rpo c cn,Xo _ (o.rp c cn).1,Xo x b];exact o.mo x a d c h
  ·rw [h',l9] at h;have cn:=o.lt c (hc c h);rw [rpo c cn,Xo _ (o.rp c cn).1,h',xy];exact o.lev (hc c h)
 ·rcases old x hx e with ⟨a,b,d⟩ | h'
  ·rw [Xo x b];exact o.le x a d
  ·rw [h',xy];exact Nat.le_refl _
theorem Le.add {s:Ns}{A:Nat->Prop}(o:Ok s A){t:Nat}{cs:List Nat}:Le s A (s.add t cs) (plus A s.n):=by
 have rpo:∀ i,i < s.n->(s.add t cs).rp i=s.rp i:=λi h=>if_neg (Nat.ne_of_lt h);have Xo:∀ i,i < s.n->(s.add t cs).lv i=s.lv i:=λi h=>if_neg (Nat.ne_of_lt h);refine ⟨Nat.le_succ _,rfl,λi h=>if_neg (Nat.ne_of_lt h),λi h=>if_neg (Nat.ne_of_lt h),λi h nA=>⟨λz=>?_,rpo i h,Xo _ (o.rp i h).1⟩,λi h=>⟨.inl h,?_⟩⟩
 ·rcases z with z | z
  ·exact nA z
  ·omega
 ·have:=o.lt i h;rw [rpo i this,Xo _ (o.rp i this).1];exact Nat.le_refl _
noncomputable def Ns.setC (s:Ns)(i:Nat)(cs:List Nat):Ns:={ s with ch:=λj=>if j=i then cs else s.ch j }
theorem Ok.setC {s:Ns}{A:Nat->Prop}(o:Ok s A){i:Nat}{cs:List Nat}(hi:A i)(hk:s.lv i=s.k)(hc:∀ c∈cs,A c)(hl:cs.length<=2):Ok (s.setC i cs) A:=by
 have two:∀ j,(j=i/\(s.setC i cs).ch j=cs)\/(s.setC i cs).ch j=s.ch j:=λj=>by
  by_cases e:j=i
  ·exact .inl ⟨e,if_pos e⟩
  ·exact .inr (if_neg e)
 refine ⟨o.rp,λj hj c h=>?_,λj hj=>?_,o.lt,o.li,λx hx e c h=>?_,λx hx e c h=>?_,o.le⟩
 ·rcases two j with ⟨_,q⟩ | q
  ·rw [q] at h;exact o.lt c (hc c h)
  ·rw [q] at h;exact o.ch j hj c h
 ·rcases two j with ⟨_,q⟩ | q
  ·rw [q];exact hl
  ·rw [q];exact o.ar j hj
 ·rcases two x with ⟨_,q⟩ | q
  ·rw [q] at h;exact hc c h
  ·rw [q] at h;exact o.cl x hx e c h
 ·rcases two x with ⟨z,q⟩ | q
  ·rw [q] at h;show s.lv (s.rp c)<=s.lv x;rw [z,hk];exact o.lev (hc c h)
  ·rw [q] at h;exact o.mo x hx e c h
theorem Le.setC {s0 s:Ns}{A0 A:Nat->Prop}(r:Le s0 A0 s A){i:Nat}{cs:List Nat}(hi:s0.n<=i):Le s0 A0 (s.setC i cs) A :=
 ⟨r.n,r.k,r.tg,λj h=>(if_neg (Nat.ne_of_lt (Nat.lt_of_lt_of_le h hi))).trans (r.ch j h),r.fr,r.li⟩
theorem Ok.deeper {s:Ns}{A:Nat->Prop}(o:Ok s A):Ok { s with k:=s.k+1 } A :=
 ⟨o.rp,o.ch,o.ar,o.lt,o.li,o.cl,o.mo,λx hx e=>Nat.le_succ_of_le (o.le x hx e)⟩
noncomputable def roots (n:Nat)(rp:Nat->Nat):Nat:=(List.range n).countP λi=>decide (rp i=i)
theorem aa6 (n:Nat)(rp:Nat->Nat):roots n rp<=n:=by
 unfold roots;exact Nat.le_trans List.countP_le_length (by simp)
theorem aa0 {s:Ns}{u v:Nat}(hv:v < s.n)(ru:s.rp u=u)(rv:s.rp v=v)(ne:u≠v):roots s.n (s.glue v u).rp < roots s.n s.rp:=by
 unfold roots;refine Ie (x:=v) (List.mem_range.mpr hv) (λy hy=>?_) (decide_eq_true rv) ?_
 ·have e:(if s.rp y=v then u else s.rp y)=y:=of_decide_eq_true hy
  by_cases q:s.rp y=v
  ·rw [if_pos q] at e;rw [<- e,ru] at q;exact absurd q ne
  ·rw [if_neg q] at e;exact decide_eq_true e
 ·refine decide_eq_false λe=>?_;have e:(if s.rp v=v then u else s.rp v)=v:=e
  rw [if_pos rv] at e;exact ne e
theorem JK {l m:List Nat}(h:l.Nodup)(s:∀ x∈l,x∈m):l.length<=m.length:=by
 induction l generalizing m with
 | nil=>exact Nat.zero_le _
 | cons a l ih =>
  obtain ⟨h1,h2⟩:=List.nodup_cons.mp h;have ha:=s a (.head _);have:=ih h2 (m:=m.erase a) λx hx=>(List.mem_erase_of_ne (λe:x=a=>h1 (by rw [<- e];exact hx))).mpr (s x (.tail _ hx));rw [List.length_erase_of_mem ha] at this;have:0 < m.length:=List.length_pos_of_mem ha;simp only [List.length_cons];omega
structure Cp (s:Ns)(A:Nat->Prop)(ds:List Nat)(e l:Nat)(s1:Ns)(A1:Nat->Prop)(ks W:List Nat):Prop where
 ok:Ok s1 A1
 le:Le s A s1 A1
 n:s1.n=s.n+ks.length
 new:∀ j,j < ks.length->A1 (s.n+j)/\s1.lv (s.n+j)=s1.k/\s1.rp (s.n+j)=s.n+j
 rpo:∀ i,i < s.n->s1.rp i=s.rp i/\s1.lv i=s.lv i
 lvA:∀ i,A1 i->A i\/s.n<=i
 nd:ks.Nodup
 sub:∀ x∈ks,x∈ds
 wt:∀ y∈W,y=e\/∃ x∈ks,y∈s.ch x
 all:∀ y,(y=e\/∃ x∈ks,y∈s.ch x)->y∈W\/s.lv (s.rp y)<=l\/s.rp y∈ks
theorem Cp.start {s:Ns}{A:Nat->Prop}{ds:List Nat}{e l:Nat}(o:Ok s A):Cp s A ds e l s A [] [e] where
 ok:=o
 le:=Le.refl s A
 n:=rfl
 new:=λj h=>absurd h (Nat.not_lt_zero _)
 rpo:=λi h=>⟨rfl,rfl⟩
 lvA:=λi h=>.inl h
 nd:=List.nodup_nil
 sub:=λx hx=>by cases hx
 wt:=λy hy=>.inl (List.mem_singleton.mp hy)
 all:=λy hy=>by
  rcases hy with rfl | ⟨x,hx,_⟩
  ·exact .inl (.head _)
  ·cases hx
theorem Cp.skip {s s1:Ns}{A A1:Nat->Prop}{ds ks W:List Nat}{e l y:Nat}(c:Cp s A ds e l s1 A1 ks (W++[y]))(h:s.lv (s.rp y)<=l\/s.rp y∈ks):Cp s A ds e l s1 A1 ks W :=
 { c with
  wt:=λz hz=>c.wt z (List.mem_append_left _ hz)
  all:=λz hz=>by
   rcases c.all z hz with q | q
   ·rcases List.mem_append.mp q with q | q
    ·exact .inl q
    ·rw [List.mem_singleton.mp q];exact .inr h
   ·exact .inr q }
theorem Cp.go {s s1:Ns}{A A1:Nat->Prop}{ds ks W:List Nat}{e l y t:Nat}(o:Ok s A)(hE:∀ x,(x=e\/∃ z∈ds,x∈s.ch z)->(s.lv (s.rp x)<=l/\A x)\/(l < s.lv (s.rp x)/\s.rp x∈ds))
  (c:Cp s A ds e l s1 A1 ks (W++[y])) (h1:l < s.lv (s.rp y)) (h2:s.rp y∉ks):Cp s A ds e l (s1.add t []) (plus A1 s1.n) (ks++[s.rp y]) (W++s.ch (s.rp y)):=by
 have yin:s.rp y∈ds:=by
  have q:y=e\/∃ z∈ds,y∈s.ch z:=(c.wt y (by simp)).imp id λ⟨x,hx,z⟩=>⟨x,c.sub x hx,z⟩;rcases hE y q with ⟨z,_⟩ | ⟨_,z⟩
  ·omega
  ·exact z
 refine ⟨c.ok.add (λx hx=>by cases hx) (Nat.zero_le _),Le.trans o c.le (Le.add c.ok),?_,λj hj=>?_,λi hi=>?_,λi hi=>?_,?_,λx hx=>?_,λz hz=>?_,λz hz=>?_⟩
 ·show s1.n+1=_;rw [c.n,List.length_append];rfl
 ·rw [List.length_append] at hj;have hj:j < ks.length+1:=hj;by_cases q:j < ks.length
  ·obtain ⟨a,b,d⟩:=c.new j q;have ne:s.n+j≠s1.n:=(by rw [c.n];omega);refine ⟨.inl a,?_,?_⟩
   ·show (if s.n+j=s1.n then s1.k else s1.lv (s.n+j))=s1.k
    rw [if_neg ne];exact b
   ·show (if s.n+j=s1.n then s1.n else s1.rp (s.n+j))=s.n+j
    rw [if_neg ne];exact d
  ·have e1:s.n+j=s1.n:=(by rw [c.n];omega);refine ⟨.inr e1,?_,?_⟩
   ·show (if s.n+j=s1.n then s1.k else s1.lv (s.n+j))=s1.k
    rw [if_pos e1]
   ·show (if s.n+j=s1.n then s1.n else s1.rp (s.n+j))=s.n+j
    rw [if_pos e1];exact e1.symm
 ·have ne:i≠s1.n:=by rw [c.n];omega
  obtain ⟨a,b⟩:=c.rpo i hi;exact ⟨(if_neg ne).trans a,(if_neg ne).trans b⟩
 ·rcases hi with q | q
  ·exact c.lvA i q
  ·exact .inr (by rw [q,c.n];omega)
 ·refine List.nodup_append.mpr ⟨c.nd,by simp,λa ha b hb=>?_⟩;rw [List.mem_singleton.mp hb];exact λz=>h2 (z▸ha)
 ·rcases List.mem_append.mp hx with q | q
  ·exact c.sub x q
  ·rw [List.mem_singleton.mp q];exact yin
 ·rcases List.mem_append.mp hz with q | q
  ·exact (c.wt z (List.mem_append_left _ q)).imp id λ⟨x,hx,r⟩=>⟨x,List.mem_append_left _ hx,r⟩
  ·exact .inr ⟨s.rp y,by simp,q⟩
 ·have key:(z=e\/∃ x∈ks,z∈s.ch x)\/z∈s.ch (s.rp y):=by
   rcases hz with q | ⟨x,hx,r⟩
   ·exact .inl (.inl q)
   ·rcases List.mem_append.mp hx with hx | hx
    ·exact .inl (.inr ⟨x,hx,r⟩)
    ·rw [List.mem_singleton.mp hx] at r;exact .inr r
  rcases key with q | q
  ·rcases c.all z q with r | r | r
   ·rcases List.mem_append.mp r with r | r
    ·exact .inl (List.mem_append_left _ r)
    ·rw [List.mem_singleton.mp r];exact .inr (.inr (by simp))
   ·exact .inr (.inl r)
   ·exact .inr (.inr (List.mem_append_left _ r))
  ·exact .inl (List.mem_append_right _ q)
theorem Cp.few {s s1:Ns}{A A1:Nat->Prop}{ds ks W:List Nat}{e l:Nat}(c:Cp s A ds e l s1 A1 ks W):ks.length<=ds.length:=JK c.nd c.sub
theorem Cp.part {s s1:Ns}{A A1:Nat->Prop}{ds ks:List Nat}{e l:Nat}(hE:∀ x,(x=e\/∃ z∈ds,x∈s.ch z)->(s.lv (s.rp x)<=l/\A x)\/(l < s.lv (s.rp x)/\s.rp x∈ds))
  (c:Cp s A ds e l s1 A1 ks []) {y:Nat} (hy:y=e\/∃ x∈ks,y∈s.ch x):s.rp y∈ks\/A y:=by
 rcases c.all y hy with q | q | q
 ·cases q
 ·have q':y=e\/∃ z∈ds,y∈s.ch z:=hy.imp id λ⟨x,hx,z⟩=>⟨x,c.sub x hx,z⟩;rcases hE y q' with ⟨_,z⟩ | ⟨z,_⟩
  ·exact .inr z
  ·omega
 ·exact .inl q
open KX
open PySem
noncomputable def cost (C:Nat):Ex->Nat
 | .nm _=>C | .num _=>0 | .tru _=>0 | .emp=>2
 | .fn _ b=>3+cost C b | .rc _ _ b=>3+cost C b | .cal a b=>2+cost C a+cost C b | .lt _ a b=>1+cost C a+cost (max C (1+cost C a)) b | .wh a b c=>cost C a+cost C b+cost C c | .pr a b=>3+cost C a+cost C b
 | .opn a _ _ b=>3+cost C a+cost C b | .lk a b=>2+cost C a+cost C b | .spl a b _ _ c=>2+cost C a+cost C b+cost C c | .op _ a b=>cost C a+cost C b
theorem ND {e:Ex}:∀ {C C':Nat},C<=C'->cost C e<=cost C' e:=by
 induction e with
 | nm _=>exact λh=>h
 | num _ | tru _ | emp=>exact λ_=>Nat.le_refl _
 | fn _ b ih | rc _ _ b ih=>intro C C' h;have:=ih h;simp only [cost];omega
 | cal a b ia ib | pr a b ia ib | lk a b ia ib | op _ a b ia ib | opn a _ _ b ia ib=>intro C C' h;have:=ia h;have:=ib h;simp only [cost];omega
 | lt _ a b ia ib =>
  intro C C' h;have h1:=ia h;have h2:=ib (C:=max C (1+cost C a)) (C':=max C' (1+cost C' a)) ();simp only [cost];omega
 | wh a b c ia ib ic | spl a b _ _ c ia ib ic=>intro C C' h;have:=ia h;have:=ib h;have:=ic h;simp only [cost];omega
noncomputable def ht:Ex->Nat
 | .nm _ | .num _ | .tru _ | .emp=>0
 | .fn _ b=>1+ht b | .rc _ _ b=>1+ht b | .cal a b=>1+max (ht a) (ht b) | .lt _ a b=>1+max (ht a) (ht b) | .wh a b c=>1+max (ht a) (max (ht b) (ht c)) | .pr a b=>1+max (ht a) (ht b)
 | .opn a _ _ b=>1+max (ht a) (ht b) | .lk a b=>1+max (ht a) (ht b) | .spl a b _ _ c=>1+max (ht a) (max (ht b) (ht c)) | .op _ a b=>1+max (ht a) (ht b)
noncomputable def TT:Nat->Nat->Nat
 | 0,C=>max 2 C
 | d+1,C=>max (3+3 * TT d C) (1+TT d C+TT d (max C (1+TT d C)))
theorem SK {d:Nat}:∀ {C C':Nat},C<=C'->TT d C<=TT d C':=by
 induction d with
 | zero=>intro C C' h;simp only [TT];omega
 | succ d ih =>
  intro C C' h;have h1:=ih h;have h2:=ih (C:=max C (1+TT d C)) (C':=max C' (1+TT d C')) ();simp only [TT];omega
theorem Vn (d C:Nat):max 2 C<=TT d C:=by
 induction d with
 | zero=>exact Nat.le_refl _
 | succ d ih=>simp only [TT];omega
theorem SM {e:Ex}:∀ {d C:Nat},ht e<=d->cost C e<=TT d C:=by
 induction e with
 | nm _=>intro d C h;have:=Vn d C;simp only [cost];omega
 | num _ | tru _ | emp=>intro d C h;have:=Vn d C;simp only [cost];omega
 | fn _ b ih | rc _ _ b ih =>
  intro d C h;cases d with
  | zero=>simp only [ht] at h;omega
  | succ d=>have:=ih (d:=d) (C:=C) (by simp only [ht] at h;omega);simp only [cost,TT];omega
 | cal a b ia ib | pr a b ia ib | lk a b ia ib | op _ a b ia ib | opn a _ _ b ia ib =>
  intro d C h;cases d with
  | zero=>simp only [ht] at h;omega
  | succ d=>have:=ia (d:=d) (C:=C) (by simp only [ht] at h;omega);have:=ib (d:=d) (C:=C) (by simp only [ht] at h;omega);simp only [cost,TT];omega
 | lt _ a b ia ib =>
  intro d C h;cases d with
  | zero=>simp only [ht] at h;omega
  | succ d =>
   have h1:=ia (d:=d) (C:=C) (by simp only [ht] at h;omega);have h2:=ib (d:=d) (C:=max C (1+cost C a)) (by simp only [ht] at h;omega);have h3:=SK (d:=d) (C:=max C (1+cost C a)) (C':=max C (1+TT d C)) ();simp only [cost,TT];omega
 | wh a b c ia ib ic | spl a b _ _ c ia ib ic =>
  intro d C h;cases d with
  | zero=>simp only [ht] at h;omega
  | succ d=>have:=ia (d:=d) (C:=C) (by simp only [ht] at h;omega);have:=ib (d:=d) (C:=C) (by simp only [ht] at h;omega);have:=ic (d:=d) (C:=C) (by simp only [ht] at h;omega);simp only [cost,TT];omega
theorem TT4:TT 4 0<=100000:=by decide
abbrev Gv:=Str->Option (Nat × Nat)
structure Fe where
 e:Ex
 g:Gv
 nd:Nat
 fs:Option Nat
noncomputable def Ge (s:Ns)(A:Nat->Prop)(k C:Nat)(g:Gv):Prop:=∀ x p,g x=some p->Ent s A C p.1 p.2/\p.2<=k
noncomputable def GZ (g:Gv)(xs:List Str):Prop:=∀ y∈xs,(g y).isSome=true
inductive Di (s:Ns)(A:Nat->Prop)(lim:Nat):Nat->Nat->List Fe->Prop
 | nil {m:Nat}:m<=lim->Di s A lim 0 m []
 | ask {k m C:Nat} {e:Ex} {g:Gv} {nd:Nat} {xs:List Str} {r:List Fe}:A nd->s.lv (s.rp nd)<=k->Ge s A k C g->e.cl xs->GZ g xs->Di s A lim k (m+cost C e) r->Di s A lim k m (⟨e,g,nd,none⟩::r)
 | back {k m C:Nat} {x:Str} {a b:Ex} {g:Gv} {nd f n0:Nat} {xs:List Str} {r:List Fe}:A nd->s.lv (s.rp nd)<=k->A f/\s.lv (s.rp f)<=k+1->Ge s A k C g->b.cl (x::xs)->GZ g xs->n0<=s.n ->
   (∀ i,i < n0->A i->s.lv (s.rp i)<=k)->Di s A lim k (m+cost (max C (m - n0)) b) r->Di s A lim (k+1) m (⟨.lt x a b,g,nd,some f⟩::r)
theorem Ge.mono {s s':Ns}{A A':Nat->Prop}{k C:Nat}{g:Gv}(o:Ok s A)(r:Le s A s' A')(h:Ge s A k C g):Ge s' A' k C g:=λx p e=>⟨(h x p e).1.mono o r,(h x p e).2⟩
theorem Ge.more {s:Ns}{A:Nat->Prop}{k k' C C':Nat}{g:Gv}(h:Ge s A k C g)(hk:k<=k')(hC:C<=C'):Ge s A k' C' g:=λx p e=>⟨(h x p e).1.more hC,Nat.le_trans (h x p e).2 hk⟩
noncomputable def Gv.put (g:Gv)(x:Str)(p:Nat × Nat):Gv:=λy=>if y=x then some p else g y
theorem Ge.put {s:Ns}{A:Nat->Prop}{k C:Nat}{g:Gv}{x:Str}{p:Nat × Nat}(h:Ge s A k C g)(hp:Ent s A C p.1 p.2)(hk:p.2<=k):Ge s A k C (g.put x p):=λy q e=>by
 unfold Gv.put at e;by_cases z:y=x
 ·rw [if_pos z] at e;cases e;exact ⟨hp,hk⟩
 ·rw [if_neg z] at e;exact h y q e
theorem GZ.put {g:Gv}{xs:List Str}{x:Str}{p:Nat × Nat}(h:GZ g xs):GZ (g.put x p) (x::xs):=λy hy=>by
 unfold Gv.put;by_cases z:y=x
 ·rw [if_pos z];rfl
 ·rw [if_neg z];exact h y ((List.mem_cons.mp hy).resolve_left z)
theorem Di.mono {s s':Ns}{A A':Nat->Prop}{lim k m:Nat}{L:List Fe}(o:Ok s A)(r:Le s A s' A')(h:Di s A lim k m L):Di s' A' lim k m L:=by
 have lev:∀ {i l},A i->s.lv (s.rp i)<=l->s'.lv (s'.rp i)<=l:=λa b=>Nat.le_trans (r.li _ a).2 b
 induction h with
 | nil h=>exact .nil h
 | ask h1 h2 h3 h4 h5 _ ih=>exact .ask (r.li _ h1).1 (lev h1 h2) (h3.mono o r) h4 h5 ih
 | back h1 h2 h3 h4 h5 h6 h7 h8 _ ih =>
  refine .back (r.li _ h1).1 (lev h1 h2) ⟨(r.li _ h3.1).1,lev h3.1 h3.2⟩ (h4.mono o r) h5 h6 (Nat.le_trans h7 r.n) (λi hi hA=>?_) ih;have eV:A i:=Classical.byContradiction λz=>(r.fr i (Nat.lt_of_lt_of_le hi h7) z).1 hA;exact lev eV (h8 i hi eV)
theorem Di.less {s:Ns}{A:Nat->Prop}{lim k m:Nat}{L:List Fe}(h:Di s A lim k m L):∀ {m':Nat},m'<=m->Di s A lim k m' L:=by
 induction h with
 | nil h=>exact λq=>.nil (Nat.le_trans q h)
 | ask h1 h2 h3 h4 h5 _ ih=>exact λq=>.ask h1 h2 h3 h4 h5 (ih ())
 | @back k m C x a b g nd f n0 xs r h1 h2 h3 h4 h5 h6 h7 h8 _ ih =>
  intro m' q;have:=ND (e:=b) (C:=max C (m' - n0)) (C':=max C (m - n0)) ();exact .back h1 h2 h3 h4 h5 h6 h7 h8 (ih ())
theorem Di.down {s s':Ns}{A:Nat->Prop}{lim k m:Nat}{L:List Fe}(o:Ok s A)(d:Down s A s')(h:Di s A lim k m L):k<=s'.k->Di s' (Hx s' A) lim k m L:=by
 have lev:∀ {i l},s.lv (s.rp i)<=l->s'.lv (s'.rp i)<=l:=λb=>by rw [d.rp];exact Nat.le_trans (d.le _) b
 have gk:∀ {k C g},Ge s A k C g->k<=s'.k->Ge s' (Hx s' A) k C g:=λh hk x p e=>⟨Down.ent o d (Nat.le_trans (h x p e).2 hk) (h x p e).1,(h x p e).2⟩
 induction h with
 | nil h=>exact λ_=>.nil h
 | ask h1 h2 h3 h4 h5 _ ih=>exact λq=>.ask ⟨h1,Nat.le_trans (lev h2) q⟩ (lev h2) (gk h3 q) h4 h5 (ih q)
 | @back k m C x a b g nd f n0 xs r h1 h2 h3 h4 h5 h6 h7 h8 _ ih =>
  intro q;have hk:k<=s'.k:=by omega
  refine .back ⟨h1,Nat.le_trans (lev h2) hk⟩ (lev h2) ⟨⟨h3.1,Nat.le_trans (lev h3.2) q⟩,lev h3.2⟩ (gk h4 hk) h5 h6 (by rw [d.n];exact h7) (λi hi hA=>lev (h8 i hi hA.1)) (ih hk)
structure Sub (s:Ns)(A:Nat->Prop)(C:Nat)(p:Fe):Prop where
 fs:p.fs=none
 nd:A p.nd
 g:Ge s A s.k C p.g
 cl:∃ xs,p.e.cl xs/\GZ p.g xs
noncomputable def CH (C:Nat)(L:List Fe):Nat:=(L.map λp=>cost C p.e).sum
theorem Di.push {s:Ns}{A:Nat->Prop}{lim C:Nat}{L r:List Fe}(o:Ok s A)(h:∀ p∈L,Sub s A C p):∀ {m:Nat},Di s A lim s.k (m+CH C L) r->Di s A lim s.k m (L++r):=by
 induction L with
 | nil=>exact λq=>q
 | cons p L ih =>
  intro m q;obtain ⟨e,g,nd,fs⟩:=p;obtain ⟨h1,h2,h3,xs,h4,h5⟩:=h _ (.head _);cases h1;refine .ask h2 (o.lev h2) h3 h4 h5 (ih (λp hp=>h p (.tail _ hp)) ?_);simp only [CH,List.map_cons,List.sum_cons] at q;rw [Nat.add_assoc];exact q
theorem Di.rule {s s':Ns}{A A':Nat->Prop}{lim m C j:Nat}{e:Ex}{L r:List Fe}(o:Ok s A)(o':Ok s' A')(le:Le s A s' A')(h:Di s A lim s.k (m+cost C e) r)(hm:s.n<=m)(hj:s'.n<=s.n+j)
  (hs:∀ p∈L,Sub s' A' C p) (hc:j+CH C L<=cost C e):Di s' A' lim s'.k s'.n (L++r):=by
 refine Di.push o' hs ?_;rw [le.k];exact (h.mono o le).less ()
theorem Di.abx {s s':Ns}{A A':Nat->Prop}{lim m C:Nat}{x:Str}{a b:Ex}{g:Gv}{nd:Nat}{xs:List Str}{r:List Fe}(o:Ok s A)(hn:A nd)(hg:Ge s A s.k C g)(hc:(Ex.lt x a b).cl xs)(hh:GZ g xs)
  (h:Di s A lim s.k (m+cost C (.lt x a b)) r) (hm:s.n<=m) :
  Di ({ s with k:=s.k+1 }.add 2 []) (plus A s.n) lim (s.k+1) (s.n+1) (⟨a,g,s.n,none⟩::⟨.lt x a b,g,nd,some s.n⟩::r):=by
 have oD:=o.deeper;have o':Ok ({ s with k:=s.k+1 }.add 2 []) (plus A s.n):=oD.add (λc hc=>by cases hc) (Nat.zero_le _);have le:Le { s with k:=s.k+1 } A ({ s with k:=s.k+1 }.add 2 []) (plus A s.n):=Le.add oD;have an:plus A s.n s.n:=.inr rfl;have sD:∀ {k m L},Di s A lim k m L->Di { s with k:=s.k+1 } A lim k m L:=λ{k m L} h=>by
  induction h with
  | nil h=>exact .nil h
  | ask h1 h2 h3 h4 h5 _ ih=>exact .ask h1 h2 h3 h4 h5 ih
  | back h1 h2 h3 h4 h5 h6 h7 h8 _ ih=>exact .back h1 h2 h3 h4 h5 h6 h7 h8 ih
 have gD:Ge { s with k:=s.k+1 } A s.k C g:=hg;have bq:=le.li nd hn;have lnd:s.lv (s.rp nd)<=s.k:=o.lev hn;refine .ask (C:=C) an (o'.lev an) ((gD.mono oD le).more (Nat.le_succ _) (Nat.le_refl _)) hc.1 hh (.back (C:=C) (n0:=s.n) bq.1 (Nat.le_trans bq.2 lnd) ⟨an,o'.lev an⟩ (gD.mono oD le) hc.2 hh (Nat.le_succ _) (λi hi hA=>?_) ?_)
 ·have eV:A i:=hA.resolve_right (Nat.ne_of_lt hi);exact Nat.le_trans (le.li i eV).2 (o.lev eV)
 ·refine ((sD h).mono oD le).less ?_;have e1:s.n+1+cost C a - s.n=1+cost C a:=by omega
  rw [e1];simp only [cost];omega
theorem Di.aby {s s':Ns}{A:Nat->Prop}{lim k m:Nat}{x:Str}{a b:Ex}{g:Gv}{nd f:Nat}{r:List Fe}(o:Ok s A)(d:Down s A s')(hk:s.k=k+1)(hm:s.n<=m)
  (h:Di s A lim (k+1) m (⟨.lt x a b,g,nd,some f⟩::r)):Di s' (Hx s' A) lim k m (⟨b,g.put x (f,k),nd,none⟩::r):=by
 have ek:s'.k=k:=by have:=d.k;omega
 cases h with
 | @back _ _ C _ _ _ _ _ _ n0 xs _ h1 h2 h3 h4 h5 h6 h7 h8 h9 =>
  have hn:s'.lv (s'.rp nd)<=k:=by rw [d.rp];exact Nat.le_trans (d.le _) h2
  have ef:=Down.first o d h3.1 (n0:=n0) (λi hi hA=>by rw [ek];exact h8 i hi hA)
  rw [ek] at ef;have gk:Ge s' (Hx s' A) k C g:=λy p e=>⟨Down.ent o d (by rw [ek];exact (h4 y p e).2) (h4 y p e).1,(h4 y p e).2⟩;refine .ask (C:=max C (m - n0)) ⟨h1,by rw [ek];exact hn⟩ hn ?_ h5 h6.put (h9.down o d ());exact (gk.more (Nat.le_refl _) ()).put (ef.more (c':=max C (m - n0)) ()) (Nat.le_refl _)
structure Lc (s:Ns):Prop where
 tg:∀ i,i < s.n->s.tg i < 6
 ar:∀ i,i < s.n->(s.ch i).length=KM.arity (s.tg i)
theorem Lc.le {s s':Ns}{A A':Nat->Prop}(a:Lc s)(h:Le s A s' A')(e:s'.n=s.n):Lc s' :=
 ⟨λi hi=>by rw [e] at hi;rw [h.tg i hi];exact a.tg i hi,λi hi=>by rw [e] at hi;rw [h.tg i hi,h.ch i hi];exact a.ar i hi⟩
theorem Lc.add {s:Ns}(a:Lc s){t:Nat}{cs:List Nat}(ht:t < 6)(hc:cs.length=KM.arity t):Lc (s.add t cs):=by
 have two:∀ i,i < s.n+1->(i < s.n/\i≠s.n)\/i=s.n:=λi h=>by omega
 refine ⟨λi hi=>?_,λi hi=>?_⟩
 all_goals rcases two i hi with ⟨h,ne⟩ | h
 ·show (if i=s.n then t else s.tg i) < 6;rw [if_neg ne];exact a.tg i h
 ·show (if i=s.n then t else s.tg i) < 6;rw [if_pos h];exact ht
 ·show (if i=s.n then cs else s.ch i).length=KM.arity (if i=s.n then t else s.tg i);rw [if_neg ne,if_neg ne];exact a.ar i h
 ·show (if i=s.n then cs else s.ch i).length=KM.arity (if i=s.n then t else s.tg i);rw [if_pos h,if_pos h];exact hc
end KN
namespace L2
open PySem PySem.Spec PyProof.Rows KS KM KN
noncomputable def BQ (n:Nat)(f:Nat->Nat):List V:=(List.range n).map λj=>V.int ((f j:Nat):Int)
noncomputable def lsN (cs:List Nat):List V:=cs.map λc=>V.int ((c:Nat):Int)
noncomputable def Dj (n:Nat)(tg:Nat->Nat):List V:=(List.range n).map λj=>V.str (Bf (tg j))
theorem Ci {n j:Nat}{f:Nat->Nat}(h:j < n):(BQ n f)[j]?=some (V.int ((f j:Nat):Int)):=by simp [BQ,h]
theorem CI {n j:Nat}{f:Nat->Nat}(h:j < n):(Dj n f)[j]?=some (V.str (Bf (f j))):=by simp [Dj,h]
theorem Ce {n:Nat}{f:Nat->Nat}:(BQ n f).length=n:=by simp [BQ]
theorem NF {n:Nat}{f:Nat->Nat}:(Dj n f).length=n:=by simp [Dj]
theorem ED {n j x:Nat}{f:Nat->Nat}:(BQ n f).set j (V.int ((x:Nat):Int))=BQ n (CG f j x):=by
 refine List.ext_getElem? λi=>?_;unfold BQ;by_cases hi:i < n
 ·by_cases e:j=i
  ·subst e;rw [List.getElem?_set_self (by simp [hi])];simp [hi,CG]
  ·rw [List.getElem?_set_ne e];simp [hi,CG,Ne.symm e]
 ·rw [List.getElem?_eq_none (by simp;omega),List.getElem?_eq_none (by simp;omega)]
theorem Ig {n x:Nat}{f:Nat->Nat}:BQ (n+1) (λj=>if j=n then x else f j)=BQ n f++[V.int ((x:Nat):Int)]:=by
 unfold BQ;rw [List.range_succ,List.map_append]
 congr 1
 ·exact List.map_congr_left λj hj=>by dsimp only;rw [if_neg (Nat.ne_of_lt (List.mem_range.mp hj))]
 ·simp
theorem NG {n x:Nat}{f:Nat->Nat}:Dj (n+1) (λj=>if j=n then x else f j)=Dj n f++[V.str (Bf x)]:=by
 unfold Dj;rw [List.range_succ,List.map_append]
 congr 1
 ·exact List.map_congr_left λj hj=>by dsimp only;rw [if_neg (Nat.ne_of_lt (List.mem_range.mp hj))]
 ·simp
structure NA where
 p:Addr
 dx:Addr
 s:Addr
 i:Addr
 l:Addr
 v:Addr
 g:Addr
 gk:List (Key × V)
noncomputable def NH (N:NA)(k:Nat):List (Str × V):=[("sorts",.ref N.s),("inner",.ref N.i),("leaders",.ref N.l),("levels",.ref N.v),("level",.int ((k:Nat):Int)),("gaps",.ref N.g)]
structure Ba (C:Addr)(N:NA)(H:Hp)(s:Ns)(ls:List Addr):Prop where
 ins:H N.p=some (.ins C N.dx (NH N s.k))
 sorts:H N.s=some (.lst (Dj s.n s.tg))
 inner:H N.i=some (.lst (ls.map V.ref))
 uf:∃ par rk,UF s.n par s.rp rk/\H N.l=some (.lst (BQ s.n par))
 levels:H N.v=some (.lst (BQ s.n s.lv))
 aaj:H N.g=some (.dK N.gk)
 len:ls.length=s.n
 chs:∀ j l,ls[j]?=some l->H l=some (.lst (lsN (s.ch j)))
 away:∀ l∈ls,l≠N.s/\l≠N.i/\l≠N.l/\l≠N.v
 ne:N.s≠N.i/\N.s≠N.l/\N.i≠N.l/\N.v≠N.s/\N.v≠N.i/\N.v≠N.l
noncomputable def Bp (N:NA)(H H':Hp):Prop:=∀ b o,H b=some o->b≠N.p->b≠N.s->b≠N.i->b≠N.l->b≠N.v->H' b=some o
theorem Bp.of_same {N:NA}{H H':Hp}(s:Ai H H'):Bp N H H':=λb o e _ _ _ _ _=>s b o e
theorem Bp.trans {N:NA}{H1 H2 H3:Hp}(a:Bp N H1 H2)(b:Bp N H2 H3):Bp N H1 H3:=λc o e p q r s t=>b c o (a c o e p q r s t) p q r s t
section
variable {C:Addr}{N:NA}{H H':Hp}{s:Ns}{ls:List Addr}
theorem Ba.lead (A:Ba C N H s ls):∃ xs,H N.l=some (.lst xs):=let ⟨par,_,_,h⟩:=A.uf;⟨_,h⟩
theorem Ba.np (A:Ba C N H s ls):N.p≠N.s/\N.p≠N.i/\N.p≠N.l/\N.p≠N.v:=by
 obtain ⟨_,hl⟩:=A.lead;exact ⟨AL A.ins A.sorts (by intro z;cases z),AL A.ins A.inner (by intro z;cases z),AL A.ins hl (by intro z;cases z),AL A.ins A.levels (by intro z;cases z)⟩
theorem Ba.ng (A:Ba C N H s ls):N.g≠N.p/\N.g≠N.s/\N.g≠N.i/\N.g≠N.l/\N.g≠N.v:=by
 obtain ⟨_,hl⟩:=A.lead;exact ⟨AL A.aaj A.ins (by intro z;cases z),AL A.aaj A.sorts (by intro z;cases z),AL A.aaj A.inner (by intro z;cases z),AL A.aaj hl (by intro z;cases z),AL A.aaj A.levels (by intro z;cases z)⟩
theorem Ba.lp (A:Ba C N H s ls){l:Addr}(h:l∈ls):l≠N.p:=by
 obtain ⟨k,hk,ek⟩:=List.mem_iff_getElem.mp h;exact AL (A.chs k l (by rw [List.getElem?_eq_getElem hk,ek])) A.ins (by intro z;cases z)
theorem Ba.same (A:Ba C N H s ls)(h:Ai H H'):Ba C N H' s ls :=
 ⟨h _ _ A.ins,h _ _ A.sorts,h _ _ A.inner,(let ⟨a,b,c,d⟩:=A.uf;⟨a,b,c,h _ _ d⟩),h _ _ A.levels,h _ _ A.aaj,A.len,λj l e=>h _ _ (A.chs j l e),A.away,A.ne⟩
theorem Ba.off (A:Ba C N H s ls){w:Addr}{o:HO}(h1:w≠N.p)(h2:w≠N.s)(h3:w≠N.i)(h4:w≠N.l)(h5:w≠N.v)(h6:w≠N.g)(h7:w∉ls):Ba C N (upd H w o) s ls :=
 ⟨by rw [Ac (Ne.symm h1)];exact A.ins,by rw [Ac (Ne.symm h2)];exact A.sorts,by rw [Ac (Ne.symm h3)];exact A.inner,(let ⟨a,b,c,d⟩:=A.uf;⟨a,b,c,by rw [Ac (Ne.symm h4)];exact d⟩),by rw [Ac (Ne.symm h5)];exact A.levels,by rw [Ac (Ne.symm h6)];exact A.aaj,A.len,
  λj l e=>by rw [Ac (λz:l=w=>h7 (by rw [<- z];exact List.mem_of_getElem? e))];exact A.chs j l e,A.away,A.ne⟩
theorem Ba.abp (A:Ba C N H s ls){rp par rk:Nat->Nat}(U:UF s.n par rp rk):Ba C N (upd H N.l (.lst (BQ s.n par))) { s with rp:=rp } ls:=by
 obtain ⟨_,_,p3,_⟩:=A.np;obtain ⟨_,_,_,g4,_⟩:=A.ng;obtain ⟨_,n2,n3,_,_,n6⟩:=A.ne;refine ⟨by rw [Ac p3];exact A.ins,by rw [Ac n2];exact A.sorts,by rw [Ac n3];exact A.inner,⟨par,rk,U,Ad⟩,by rw [Ac n6];exact A.levels,by rw [Ac g4];exact A.aaj,A.len,λj l e=>?_,A.away,A.ne⟩;rw [Ac (A.away l (List.mem_of_getElem? e)).2.2.1];exact A.chs j l e
theorem Ba.ab6 (A:Ba C N H s ls)(lv:Nat->Nat):Ba C N (upd H N.v (.lst (BQ s.n lv))) { s with lv:=lv } ls:=by
 obtain ⟨_,_,_,p4⟩:=A.np;obtain ⟨_,_,_,_,g5⟩:=A.ng;obtain ⟨_,_,_,n4,n5,n6⟩:=A.ne;refine ⟨by rw [Ac p4];exact A.ins,by rw [Ac (Ne.symm n4)];exact A.sorts,by rw [Ac (Ne.symm n5)];exact A.inner,(let ⟨a,b,c,d⟩:=A.uf;⟨a,b,c,by rw [Ac (Ne.symm n6)];exact d⟩),Ad,by rw [Ac g5];exact A.aaj,A.len,λj l e=>?_,A.away,A.ne⟩;rw [Ac (A.away l (List.mem_of_getElem? e)).2.2.2];exact A.chs j l e
theorem Ba.level (A:Ba C N H s ls)(k:Nat):Ba C N (upd H N.p (.ins C N.dx (NH N k))) { s with k:=k } ls:=by
 obtain ⟨p1,p2,p3,p4⟩:=A.np;refine ⟨Ad,by rw [Ac (Ne.symm p1)];exact A.sorts,by rw [Ac (Ne.symm p2)];exact A.inner,(let ⟨a,b,c,d⟩:=A.uf;⟨a,b,c,by rw [Ac (Ne.symm p3)];exact d⟩),by rw [Ac (Ne.symm p4)];exact A.levels,by rw [Ac A.ng.1];exact A.aaj,A.len,λj l e=>?_,A.away,A.ne⟩;rw [Ac (A.lp (List.mem_of_getElem? e))];exact A.chs j l e
theorem UF.add {n:Nat}{par rp rk:Nat->Nat}(U:UF n par rp rk):UF (n+1) (λj=>if j=n then n else par j) (λj=>if j=n then n else rp j) rk:=by
 have two:∀ i,i < n+1->(i < n/\i≠n)\/i=n:=λi h=>by omega
 have nn:∀ {i},i < n->i≠n:=λh=>Nat.ne_of_lt h;refine ⟨λi h=>?_,λi h=>?_,λi h e=>?_,λi h e=>?_,λi h=>?_,λi h=>?_⟩
 all_goals rcases two i h with ⟨a,b⟩ | b
 ·simp only [b,if_false];exact Nat.lt_succ_of_lt (U.lt i a)
 ·simp [b]
 ·simp only [b,nn (U.lt i a),if_false];exact U.rpp i a
 ·simp [b]
 ·simp only [b,if_false] at e ⊢;exact U.root i a e
 ·simp [b]
 ·simp only [b,if_false] at e ⊢;exact U.up i a e
 ·simp [b] at e
 ·simp only [b,nn (U.idem i a).1,if_false];exact ⟨Nat.lt_succ_of_lt (U.idem i a).1,(U.idem i a).2⟩
 ·simp [b]
 ·simp only [b,nn (U.idem i a).1,if_false];exact U.top i a
 ·simp [b]
theorem Ba.add (A:Ba C N H s ls){t:Nat}{cs:List Nat}{l:Addr}(hl:H l=some (.lst (lsN cs)))(h1:l≠N.s)(h2:l≠N.i)(h3:l≠N.l)(h4:l≠N.v){xs:List V}(ex:H N.l=some (.lst xs))
  (e1:H' N.s=some (.lst (Dj s.n s.tg++[V.str (Bf t)]))) (e2:H' N.i=some (.lst (ls.map V.ref++[V.ref l]))) (e3:H' N.l=some (.lst (xs++[V.int ((s.n:Nat):Int)]))) (e4:H' N.v=some (.lst (BQ s.n s.lv++[V.int ((s.k:Nat):Int)]))) (fr:∀ b,b≠N.s->b≠N.i->b≠N.l->b≠N.v->H' b=H b) :
  Ba C N H' (s.add t cs) (ls++[l]):=by
 obtain ⟨p1,p2,p3,p4⟩:=A.np;obtain ⟨_,g2,g3,g4,g5⟩:=A.ng;obtain ⟨par,rk,U,hp⟩:=A.uf;rw [ex] at hp;cases hp;refine ⟨by rw [fr _ p1 p2 p3 p4];exact A.ins,by rw [e1];exact congrArg some (congrArg HO.lst NG.symm),by rw [List.map_append];exact e2,⟨_,rk,UF.add U,by rw [e3];exact congrArg some (congrArg HO.lst Ig.symm)⟩,by rw [e4];exact congrArg some (congrArg HO.lst Ig.symm),by rw [fr _ g2 g3 g4 g5];exact A.aaj,by rw [List.length_append,A.len];rfl,λj l' e=>?_,λl' bb=>?_,A.ne⟩
 ·by_cases hj:j < ls.length
  ·rw [List.getElem?_append_left hj] at e;obtain ⟨a1,a2,a3,a4⟩:=A.away l' (List.mem_of_getElem? e);rw [fr _ a1 a2 a3 a4];show H l'=some (.lst (lsN (if j=s.n then cs else s.ch j)))
   rw [if_neg (by rw [<- A.len];omega)];exact A.chs j l' e
  ·rw [List.getElem?_append_right ()] at e;have Vh:j=s.n:=by
    have:=(List.getElem?_eq_some_iff.mp e).1;have:=A.len;simp at *;omega
   subst Vh;rw [A.len,Nat.sub_self] at e;cases e;rw [fr _ h1 h2 h3 h4];show H l=some (.lst (lsN (if s.n=s.n then cs else s.ch s.n)))
   rw [if_pos rfl];exact hl
 ·rcases List.mem_append.mp bb with z | z
  ·exact A.away l' z
  ·rw [List.mem_singleton.mp z];exact ⟨h1,h2,h3,h4⟩
theorem Ba.setC (A:Ba C N H s ls){i:Nat}{cs:List Nat}{l:Addr}(hl:H l=some (.lst (lsN cs)))(h1:l≠N.s)(h2:l≠N.i)(h3:l≠N.l)(h4:l≠N.v):Ba C N (upd H N.i (.lst ((ls.set i l).map V.ref))) (s.setC i cs) (ls.set i l):=by
 obtain ⟨_,p2,_⟩:=A.np;obtain ⟨_,_,g3,_⟩:=A.ng;obtain ⟨n1,_,n3,_,n5,_⟩:=A.ne;refine ⟨by rw [Ac p2];exact A.ins,by rw [Ac n1];exact A.sorts,Ad,(let ⟨a,b,c,d⟩:=A.uf;⟨a,b,c,by rw [Ac (Ne.symm n3)];exact d⟩),by rw [Ac n5];exact A.levels,by rw [Ac g3];exact A.aaj,by rw [List.length_set];exact A.len,λj l' e=>?_,λl' bb=>?_,A.ne⟩
 ·show (upd H N.i _) l'=some (.lst (lsN (if j=i then cs else s.ch j)))
  by_cases q:j=i
  ·subst q;rw [if_pos rfl];have:l'=l:=by
    rw [List.getElem?_set] at e;simp only [if_true] at e;split at e
    ·cases e;rfl
    ·cases e
   rw [this,Ac h2];exact hl
  ·rw [if_neg q];rw [List.getElem?_set_ne (Ne.symm q)] at e;rw [Ac (A.away l' (List.mem_of_getElem? e)).2.1];exact A.chs j l' e
 ·rcases List.mem_or_eq_of_mem_set bb with z | z
  ·exact A.away l' z
  ·rw [z];exact ⟨h1,h2,h3,h4⟩
end
end L2
namespace K
open PySem L2 KM KS KN
structure BR (K:W.Frag)(mg:Str->Option Value)(C:Addr):Prop where
 cl:G9 K C
 nS:BA K C "sorts"
 nI:BA K C "inner"
 nL:BA K C "leaders"
 nV:BA K C "levels"
 nK:BA K C "level"
 nG:BA K C "gaps"
 mgC:mg "Nodes"=some (.ref C)
 len:mg "len"=none
section
variable {Pr:Program}{w:World}{K:W.Frag}{mg:Str->Option Value}{base:Heap}
noncomputable def Bh (C:Addr):Sp:=λvs H Q _=>∃ (N:NA) (s:Ns) (ls:List Addr) (i:Nat),vs=[.ref N.p,.int ((i:Nat):Int)]/\Ba C N H s ls/\i < s.n /\
 ∀ H',Ba C N H' s ls->(∀ b,b≠N.l->H' b=H b)->Q (.int ((s.rp i:Nat):Int)) H'
theorem JL:Ak ["self","node"] ["self","node"] (Af Bx):=nofun
theorem NI {f C:Addr}{fd:FuncData}(F:B' K "leader" "Nodes.leader" Bx f fd)(T:BR K mg C):Av Pr w K mg base Bs 1 f fd ["self","node"] (Bh C):=by
 refine F.okS JL (λvs H Q E h=>?_) (λB7 A outer s0 H vs Q E hr h=>?_)
 ·obtain ⟨N,s,ls,i,rfl,_⟩:=h;rfl
 ·obtain ⟨N,s,ls,i,rfl,A0,hi,q⟩:=h;obtain ⟨par,rk,U0,L0⟩:=A0.uf;refine ⟨_,Ag (D2 PassesOwn.never (B1 HG (BG Ay (Ao (Ah 0)) (Ah 1) D1) (Ah 1) (AF _))
    (Ag (Jx (BG Ay (Ao (Ah 0)) (BG Ay (Ao (Ah 0)) (Ah 1) D1) D1) (Jy (Ao (Ah 0)) (Ah 1) set_list))
    (Aj (Au (i:=1) JL.nd rfl (.inl rfl) (BG Ay (Ao (Ah 0)) (Ah 1) D1)))))
   (Aj (B9 (Ah 1))),?_⟩
  refine ⟨λm σ H2=>∃ j par',σ=[some (.ref N.p),some (.int ((j:Nat):Int))]/\m=rk j/\j < s.n/\s.rp j=s.rp i/\Ba C N H2 s ls/\UF s.n par' s.rp rk/\H2 N.l=some (.lst (BQ s.n par'))/\∀ b,b≠N.l->H2 b=H b,⟨_,i,par,rfl,rfl,hi,rfl,A0,U0,L0,λ_ _=>rfl⟩,?_⟩;rintro m σ H2 ⟨j,par',rfl,rfl,hj,ej,A1,U1,L1,fr⟩;refine ⟨_,rfl,N.p,C,N.dx,_,_,rfl,A1.ins,T.cl,T.nL,rfl,_,rfl,N.l,_,_,_,rfl,rfl,AO.of L1,Ar (Ci hj),_,rfl,rfl,_,rfl,?_⟩;by_cases e:par' j=j
  ·refine CD (by simp [e]) ?_;have er:=U1.root j hj e;have:=q H2 A1 fr;rw [<- ej,er] at this;exact ⟨_,rfl,this⟩
  ·refine Cs (by simp;omega) ?_;have xB:=U1.lt j hj;refine ⟨_,fun σ' H' z=>z,?_⟩;refine ⟨_,rfl,N.p,C,N.dx,_,_,rfl,A1.ins,T.cl,T.nL,rfl,_,rfl,N.p,C,N.dx,_,_,rfl,A1.ins,T.cl,T.nL,rfl,_,rfl,N.l,_,_,_,rfl,rfl,AO.of L1,Ar (Ci hj),N.l,_,_,_,rfl,rfl,AO.of L1,Ar (Ci xB),?_⟩;refine ⟨_,rfl,N.p,C,N.dx,_,_,rfl,A1.ins,T.cl,T.nL,rfl,_,rfl,N.l,_,_,j,rfl,rfl,L1,Fn (by rw [Ce];exact hj),?_⟩;rw [ED];have U2:=U1.abw hj e;have A2:Ba C N _ s ls:=A1.abp U2;have eX:(upd H2 N.l (.lst (BQ s.n (CG par' j (par' (par' j)))))) N.l=_:=Ad;refine ⟨_,rfl,N.p,C,N.dx,_,_,rfl,A2.ins,T.cl,T.nL,rfl,_,rfl,N.l,_,_,_,rfl,rfl,AO.of eX,Ar (Ci hj),?_⟩;refine ⟨rk (CG par' j (par' (par' j)) j),?_,CG par' j (par' (par' j)) j,_,rfl,rfl,U2.lt j hj,?_,A2,U2,eX,λb hb=>by rw [Ac hb];exact fr b hb⟩
   ·refine U2.up j hj ?_;intro z;have h1:=U1.up j hj e;rw [Bm] at z;by_cases y:par' (par' j)=par' j
    ·rw [y] at z;exact e z
    ·have h2:=U1.up _ xB y;rw [z] at h2;omega
   ·rw [U2.rpp j hj];exact ej
noncomputable def Ih (C:Addr):Sp:=λvs H Q _=>∃ (N:NA) (s:Ns) (ls:List Addr) (t:Nat) (cs:List Nat) (l:Addr),vs=[.ref N.p,.str (Bf t),.ref l]/\Ba C N H s ls/\H l=some (.lst (lsN cs))/\l≠N.s/\l≠N.i/\l≠N.l/\l≠N.v/\s.n < 1000000 /\
 ∀ H',Ba C N H' (s.add t cs) (ls++[l])->(∀ b,b≠N.s->b≠N.i->b≠N.l->b≠N.v->H' b=H b)->Q (.int ((s.n:Nat):Int)) H'
theorem Vo:Ak ["self","word","inner","node"] ["self","word","inner"] (Af Bd):=nofun
theorem Xp {f C:Addr}{fd:FuncData}(F:B' K "new_node" "Nodes.new_node" Bd f fd)(T:BR K mg C):Av Pr w K mg base Bs 1 f fd ["self","word","inner"] (Ih C):=by
 refine F.okS Vo (λvs H Q E h=>?_) (λB7 A outer s0 H vs Q E hr h=>?_)
 ·obtain ⟨N,s,ls,t,cs,l,rfl,_⟩:=h;rfl
 ·obtain ⟨N,s,ls,t,cs,l,rfl,A0,hl,h1,h2,h3,h4,hn,q⟩:=h;have hb:=BE;obtain ⟨par,rk,U0,L0⟩:=A0.uf;obtain ⟨np1,np2,np3,np4⟩:=A0.np;obtain ⟨n1,n2,n3,n4,n5,n6⟩:=A0.ne;refine ⟨_,Ag (Au (i:=3) Vo.nd rfl (.inl rfl) (C6 BB rfl T.len PySem.boot_len (Aa (Ao (Ah 0)) Ae)))
   (Ag (Ap (EV PySem.F.plainAttrs_list PySem.F.slot_list_append PySem.F.type_list_append BS (Ao (Ah 0)) (Aa (Ah 1) Ae)))
   (Ag (Ap (EV PySem.F.plainAttrs_list PySem.F.slot_list_append PySem.F.type_list_append BS (Ao (Ah 0)) (Aa (Ah 2) Ae)))
   (Ag (Ap (EV PySem.F.plainAttrs_list PySem.F.slot_list_append PySem.F.type_list_append BS (Ao (Ah 0)) (Aa (Ah 3) Ae)))
   (Ag (Ap (EV PySem.F.plainAttrs_list PySem.F.slot_list_append PySem.F.type_list_append BS (Ao (Ah 0)) (Aa (Ao (Ah 0)) Ae)))
   (Aj (B9 (Ah 3))))))),?_⟩
  refine ⟨_,rfl,N.p,C,N.dx,_,_,rfl,A0.ins,T.cl,T.nL,rfl,N.l,_,rfl,.inl (AO.of L0),?_⟩;rw [Ce];refine ⟨_,rfl,N.p,C,N.dx,_,_,rfl,A0.ins,T.cl,T.nS,rfl,.inl ⟨rfl,_,AO.of A0.sorts⟩,_,rfl,N.s,_,_,rfl,rfl,A0.sorts,by rw [NF];omega,?_⟩;have i1:(upd H N.s (.lst (Dj s.n s.tg++[V.str (Bf t)]))) N.p=some (.ins C N.dx (NH N s.k)):=by rw [Ac np1];exact A0.ins
  have e1:(upd H N.s (.lst (Dj s.n s.tg++[V.str (Bf t)]))) N.i=some (.lst (ls.map V.ref)):=by rw [Ac (Ne.symm n1)];exact A0.inner
  refine ⟨_,rfl,N.p,C,N.dx,_,_,rfl,i1,T.cl,T.nI,rfl,.inl ⟨rfl,_,AO.of e1⟩,_,rfl,N.i,_,_,rfl,rfl,e1,by simp [A0.len];omega,?_⟩;have i2:(upd (upd H N.s (.lst (Dj s.n s.tg++[V.str (Bf t)]))) N.i (.lst (ls.map V.ref++[V.ref l]))) N.p=some (.ins C N.dx (NH N s.k)):=by rw [Ac np2];exact i1
  have e2:(upd (upd H N.s (.lst (Dj s.n s.tg++[V.str (Bf t)]))) N.i (.lst (ls.map V.ref++[V.ref l]))) N.l=some (.lst (BQ s.n par)):=by rw [Ac (Ne.symm n3),Ac (Ne.symm n2)];exact L0
  refine ⟨_,rfl,N.p,C,N.dx,_,_,rfl,i2,T.cl,T.nL,rfl,.inl ⟨rfl,_,AO.of e2⟩,_,rfl,N.l,_,_,rfl,rfl,e2,by rw [Ce];omega,?_⟩;have i3:(upd (upd (upd H N.s (.lst (Dj s.n s.tg++[V.str (Bf t)]))) N.i (.lst (ls.map V.ref++[V.ref l]))) N.l (.lst (BQ s.n par++[V.int ((s.n:Nat):Int)]))) N.p=some (.ins C N.dx (NH N s.k)):=by rw [Ac np3];exact i2
  have e3:(upd (upd (upd H N.s (.lst (Dj s.n s.tg++[V.str (Bf t)]))) N.i (.lst (ls.map V.ref++[V.ref l]))) N.l (.lst (BQ s.n par++[V.int ((s.n:Nat):Int)]))) N.v=some (.lst (BQ s.n s.lv)):=by rw [Ac n6,Ac n5,Ac n4];exact A0.levels
  refine ⟨_,rfl,N.p,C,N.dx,_,_,rfl,i3,T.cl,T.nV,rfl,.inl ⟨rfl,_,AO.of e3⟩,_,rfl,N.p,C,N.dx,_,_,rfl,i3,T.cl,T.nK,rfl,N.v,_,_,rfl,rfl,e3,by rw [Ce];omega,?_⟩;refine ⟨_,rfl,q _ (A0.add hl h1 h2 h3 h4 L0 ?_ ?_ ?_ Ad λb b1 b2 b3 b4=>by rw [Ac b4,Ac b3,Ac b2,Ac b1]) λb b1 b2 b3 b4=>by rw [Ac b4,Ac b3,Ac b2,Ac b1]⟩
  ·rw [Ac (Ne.symm n4),Ac n2,Ac n1,Ad]
  ·rw [Ac (Ne.symm n5),Ac n3,Ad]
  ·rw [Ac (Ne.symm n6),Ad]
noncomputable def IJ (C:Addr):Sp:=λvs H Q _=>∃ (N:NA) (s:Ns) (ls:List Addr),vs=[.ref N.p]/\Ba C N H s ls/\s.n < 1000000 /\
 ∀ l H',H l=none->Ba C N H' (s.add 2 []) (ls++[l])->Bp N H H'->Q (.int ((s.n:Nat):Int)) H'
theorem Xq:Ak ["self"] ["self"] (Af Bl):=nofun
theorem SN {f C fN:Addr}{fd eY:FuncData}(F:B' K "new_gap" "Nodes.new_gap" Bl f fd)(T:BR K mg C)(GN:Av Pr w K mg base Bs 1 fN eY ["self","word","inner"] (Ih C))(bN:Binds K eY ["self","word","inner"] [])(mN:Meth K C "new_node" fN):
  Av Pr w K mg base Bs 2 f fd ["self"] (IJ C):=by
 refine F.okS Xq (λvs H Q E h=>?_) (λB7 A outer s0 H vs Q E hr h=>?_)
 ·obtain ⟨N,s,ls,rfl,_⟩:=h;rfl
 ·obtain ⟨N,s,ls,rfl,A0,hn,q⟩:=h;refine ⟨_,Aj (B9 (BH (Ah 0) T.cl mN GN hr bN (Aa Aw (Aa (AU Ae) Ae)))),?_⟩;refine ⟨_,rfl,N.p,N.dx,_,rfl,A0.ins,rfl,by simp,λl hl=>?_⟩;have G':Ai H (upd H l (.lst [])):=Ai.new hl;obtain ⟨_,L0⟩:=A0.lead;exact ⟨N,s,ls,2,[],l,rfl,A0.same G',Ad,Ne.symm (Ab A0.sorts hl),Ne.symm (Ab A0.inner hl),Ne.symm (Ab L0 hl),Ne.symm (Ab A0.levels hl),hn,λH2 A2 la=>q l H2 hl A2 λb o e _ b1 b2 b3 b4=>by rw [la b b1 b2 b3 b4];exact G' b o e⟩
noncomputable def Qa (C:Addr):Sp:=λvs H Q _=>∃ (N:NA) (s:Ns) (ls:List Addr),vs=[.ref N.p]/\Ba C N H s ls/\∀ H',Ba C N H' { s with k:=s.k+1 } ls->Bp N H H'->Q .non H'
theorem Xr:Ak ["self"] ["self"] (Af B4):=nofun
theorem SQ {f C:Addr}{fd:FuncData}(F:B' K "go_deeper" "Nodes.go_deeper" B4 f fd)(T:BR K mg C):Av Pr w K mg base Bs 1 f fd ["self"] (Qa C):=by
 refine F.okS Xr (λvs H Q E h=>?_) (λB7 A outer s0 H vs Q E hr h=>?_)
 ·obtain ⟨N,s,ls,rfl,_⟩:=h;rfl
 ·obtain ⟨N,s,ls,rfl,A0,q⟩:=h;refine ⟨_,Aj (JH Wi (Ah 0) Aq),?_⟩;refine ⟨_,rfl,N.p,C,N.dx,_,_,rfl,A0.ins,T.cl,T.nK,rfl,_,_,rfl,rfl,?_⟩;refine ⟨N.dx,_,A0.ins,by show 6 < 1000;decide,?_⟩;have e:AK "level" (.int ((s.k:Int)+1)) (NH N s.k)=NH N (s.k+1):=rfl;rw [e];exact q _ (A0.level (s.k+1)) λb o e b1 _ _ _ _=>by rw [Ac b1];exact e
theorem C7 (a b:List Nat):lsN (a++b)=lsN a++lsN b:=by simp [lsN]
theorem SR {C:Addr}{σ:St}{H:Hp}{Q Q':VK}(h:∀ v H',Q v H'->Q' v H')(z:D0 C "leader" (Bh C) [] E0 (Bt 1) (Cb (Bt 0) Dp) σ H Q):D0 C "leader" (Bh C) [] E0 (Bt 1) (Cb (Bt 0) Dp) σ H Q':=by
 obtain ⟨v',e1,a1,p8,pe,e2,h1,h2,v2,e3,N',s',Cj,i',e4,A',hi',z⟩:=z;exact ⟨v',e1,a1,p8,pe,e2,h1,h2,v2,e3,N',s',Cj,i',e4,A',hi',λH1 y1 y2=>h _ _ (z H1 y1 y2)⟩
theorem JM {C:Addr}{N:NA}{s:Ns}{ls:List Addr}{H:Hp}{l1:Addr}{cs:List Nat}{σ:St}{Fin:List V->Hp->Prop}(T:BR K mg C)(A:Ba C N H s ls)(hl:H l1=some (.lst (lsN cs)))(hn:l1≠N.l)(hc:∀ c∈cs,c < s.n)(hlen:cs.length < 1000000)
  (s0:σ=[none,some (.ref N.p)]) (fin:∀ H',Ba C N H' s ls->(∀ b,b≠N.l->H' b=H b)->Fin (lsN (cs.map s.rp)) H') :
  Dq (Rf K l1) H σ (CA 0) Hu (D0 C "leader" (Bh C) [] E0 (Bt 1) (Cb (Bt 0) Dp)) Fin:=by
 have hb:=BE;subst s0;refine D8 (K:=K) (a:=l1) (xs:=lsN cs) (λk ys H3=>ys=lsN ((cs.take k).map s.rp)/\Ba C N H3 s ls/\∀ b,b≠N.l->H3 b=H b) ⟨by simp [lsN],A,λ_ _=>rfl⟩ (λk ys H3 z=>?_) (by simp [lsN];omega) (λk ys H3 z=>?_) (λk c' ys H3 Cn z=>?_)
  (λx σ H Q Q' h z=>h _ _ z) (fun σ H Q Q' h z=>h _ _ z) (fun σ H Q Q' h z=>SR h z) (λys H3 z=>?_)
 ·obtain ⟨_,A3,f3⟩:=z;refine AO.of ?_;rw [f3 _ hn];exact hl
 ·obtain ⟨e,_⟩:=z;rw [e];simp [lsN];omega
 ·obtain ⟨e,A3,f3⟩:=z;unfold lsN at Cn;rw [List.getElem?_map] at Cn;cases ec:cs[k]? with
  | none=>rw [ec] at Cn;cases Cn
  | some c =>
   rw [ec] at Cn;cases Cn;have hcn:c < s.n:=hc c (List.mem_of_getElem? ec);refine ⟨Ext.set rfl,Eh ?_⟩;refine ⟨_,rfl,N.p,N.dx,_,rfl,A3.ins,rfl,_,rfl,N,s,ls,c,rfl,A3,hcn,λH4 A4 e4=>⟨?_,A4,λb hb=>by rw [e4 b hb,f3 b hb]⟩⟩;rw [e,List.take_add_one,ec,List.map_append,C7];rfl
 ·obtain ⟨e,A3,f3⟩:=z;have el:(lsN cs).length=cs.length:=by simp [lsN]
  rw [el,List.take_length] at e;subst e;exact fin H3 A3 f3
noncomputable def Gf (C:Addr):Sp:=λvs H Q _=>∃ (N:NA) (s:Ns) (ls:List Addr) (x:Nat),vs=[.ref N.p,.int ((x:Nat):Int)]/\Ba C N H s ls/\x < s.n/\(∀ c∈s.ch x,c < s.n)/\(s.ch x).length<=2 /\
 ∀ li H',Ba C N H' s ls->H li=none->H' li=some (.lst (lsN ((s.ch x).map s.rp)))->(∀ b,b≠N.l->b≠li->H' b=H b)->Q (.ref li) H'
theorem SU:Ak ["self","node"] ["self","node"] (Af Ax):=nofun
theorem Qb {f C fL:Addr}{fd Ld:FuncData}(F:B' K "inner_leaders" "Nodes.inner_leaders" Ax f fd)(T:BR K mg C)
  (GL:Av Pr w K mg base Bs 1 fL Ld ["self","node"] (Bh C)) (bL:Binds K Ld ["self","node"] []) (mL:Meth K C "leader" fL):Av Pr w K mg base Bs 2 f fd ["self","node"] (Gf C):=by
 refine F.okS SU (λvs H Q E h=>?_) (λB7 A outer s0 H vs Q E hr h=>?_)
 ·obtain ⟨N,s,ls,x,rfl,_⟩:=h;rfl
 ·obtain ⟨N,s,ls,x,rfl,A0,hx,hc,hlen,q⟩:=h;have S1:Bj (CB Bs Pr w K mg base ["self","node"] "Nodes.inner_leaders" (Af Ax) f B7 A outer s0 H E).nox (Cv (valueOf (inDef Ax 0))) [("self",s0.heap.objs.size+1)] ["part"] ["self"] [0] :=
   ⟨rfl,by decide +kernel,rfl,by decide +kernel,rfl,rfl,rfl,rfl⟩
  have Mj:(["part","self"]:List Str).Nodup:=by decide +kernel
  refine ⟨_,Aj (B9 (EX (te:=D0 C "leader" (Bh C) [] E0 (Bt 1) (Cb (Bt 0) Dp)) S1 rfl (EW (BG Ay (Ao (Ah 0)) (Ah 1) D1)) (λC' s0 H0 ex=>Br (i:=0) Mj rfl (.inl rfl)) (λ_ _ _ _=>Fi) (λC' s0 H0 ex=>BH (Ah 1) T.cl mL GL hr bL (Aa (Ah 0) Ae)))),?_⟩;obtain ⟨l1,Dr⟩:∃ l1,ls[x]?=some l1:=⟨_,List.getElem?_eq_getElem (by rw [A0.len];exact hx)⟩;refine ⟨_,rfl,N.p,C,N.dx,_,_,rfl,A0.ins,T.cl,T.nI,rfl,_,rfl,N.i,_,_,_,rfl,rfl,AO.of A0.inner,Ar (v:=V.ref l1) (by rw [List.getElem?_map,Dr];rfl),l1,rfl,⟨_,AO.of (A0.chs _ _ Dr)⟩,?_⟩;refine JM T A0 (A0.chs _ _ Dr) (A0.away l1 (List.mem_of_getElem? Dr)).2.2.1 hc () rfl λH' A' f'=>?_;intro li F8;have sm:Ai H' (upd H' li (.lst (lsN ((s.ch x).map s.rp)))):=Ai.new F8;obtain ⟨_,L'⟩:=A'.lead;have JN:H li=none:=by
   rw [<- f' li (Ne.symm (Ab L' F8))];exact F8
  exact q li _ (A'.same sm) JN Ad λb b1 b2=>by rw [Ac b2,f' b b1]
noncomputable def Qc (C:Addr):Sp:=λvs H Q _=>∃ (N:NA) (s:Ns) (ls:List Addr) (Al:Nat->Prop) (x l:Nat),vs=[.ref N.p,.int ((x:Nat):Int),.int ((l:Nat):Int)]/\Ba C N H s ls/\Pre s Al l x/\s.n < 1000000 /\
 ∀ lv H',Ba C N H' { s with lv:=lv } ls->Lb s Al l x lv []->Bp N H H'->Q .non H'
theorem Lf:Ak ["self","node","level","waiting","at"] ["self","node","level"] (Af BU):=nofun
theorem SV {f C fL:Addr}{fd Ld:FuncData}(F:B' K "sink" "Nodes.sink" BU f fd)(T:BR K mg C)
  (GL:Av Pr w K mg base Bs 1 fL Ld ["self","node"] (Bh C)) (bL:Binds K Ld ["self","node"] []) (mL:Meth K C "leader" fL):Av Pr w K mg base Bs 2 f fd ["self","node","level"] (Qc C):=by
 refine F.okS Lf (λvs H Q E h=>?_) (λB7 A outer s0 H vs Q E hr h=>?_)
 ·obtain ⟨N,s,ls,Al,x,l,rfl,_⟩:=h;rfl
 ·obtain ⟨N,s,ls,Al,x,l,rfl,A0,P0,hn,q⟩:=h;have hb:=BE;refine ⟨_,Ag (Au (i:=3) Lf.nd rfl (.inl rfl) (AU (Aa (Ah 1) Ae)))
   (Aj (D2 PassesOwn.never (C5 (Ah 3))
    (Ag (Au (i:=4) Lf.nd rfl (.inl rfl) (BH (Ah 0) T.cl mL GL hr bL (Aa (Ed PySem.F.plainAttrs_list PySem.F.slot_list_pop PySem.F.type_list_pop Ea (Ah 3)) Ae)))
    (Aj (BY (B1 OR (BG Ay (Ao (Ah 0)) (Ah 4) D1) (Ah 2) (AF _))
     (Ag (Jx (Ah 2) (Jy (Ao (Ah 0)) (Ah 4) set_list))
     (Aj (Ap (EV PySem.F.plainAttrs_list PySem.F.slot_list_extend PySem.F.type_list_extend D7 (Ah 3) (Aa (BG Ay (Ao (Ah 0)) (Ah 4) D1) Ae))))) BN))))),?_⟩
  refine ⟨_,rfl,by show 1<=sizeLine;omega,λlw Cz=>?_⟩;have G':Ai H (upd H lw (.lst [.int ((x:Nat):Int)])):=Ai.new Cz;obtain ⟨_,L0⟩:=A0.lead;have w1:lw≠N.p:=Ne.symm (Ab A0.ins Cz);have w2:lw≠N.s:=Ne.symm (Ab A0.sorts Cz);have w3:lw≠N.i:=Ne.symm (Ab A0.inner Cz);have w4:lw≠N.l:=Ne.symm (Ab L0 Cz);have w5:lw≠N.v:=Ne.symm (Ab A0.levels Cz);have w6:lw≠N.g:=Ne.symm (Ab A0.aaj Cz);have w7:lw∉ls:=λz=>by
   obtain ⟨k,hk,ek⟩:=List.mem_iff_getElem.mp z;have:=A0.chs k lw (by rw [List.getElem?_eq_getElem hk,ek]);rw [Cz] at this;cases this
  refine ⟨λm σ H2=>∃ lv x4 W,σ=[some (.ref N.p),some (.int ((x:Nat):Int)),some (.int ((l:Nat):Int)),some (.ref lw),x4]/\m=3 * deep s.n l lv+W.length/\Ba C N H2 { s with lv:=lv } ls/\Lb s Al l x lv W/\H2 lw=some (.lst (lsN W))/\W.length+2 * deep s.n l lv<=2 * s.n+1/\Bp N H H2,
   ⟨_,s.lv,none,[x],rfl,rfl,A0.same G',Lb.start P0,Ad,by have:=SJ s.n l s.lv;simp only [List.length_singleton];omega,Bp.of_same G'⟩,?_⟩
  rintro m σ H2 ⟨lv,x4,W,rfl,rfl,A2,S2,FV,Xs,f2⟩;refine ⟨_,rfl,!(lsN W).isEmpty,.inl ⟨_,AO.of FV,rfl⟩,?_⟩;rcases List.eq_nil_or_concat W with rfl | ⟨W',y,rfl⟩
  ·exact Ck (q lv H2 A2 S2 f2)
  ·rw [List.concat_eq_append] at *;have yA:Al y:=S2.wA y (by simp);have yn:=P0.lt y yA;refine Cs (by simp [lsN]) ⟨_,fun σ' H' z=>z,?_⟩;have eW:lsN (W'++[y])=lsN W'++[V.int ((y:Nat):Int)]:=C7 _ _;rw [eW] at FV;refine ⟨_,rfl,N.p,N.dx,_,rfl,A2.ins,rfl,_,rfl,.inl ⟨rfl,_,AO.of FV⟩,lw,_,V.int ((y:Nat):Int),rfl,rfl,FV,by simp,?_⟩;rw [List.dropLast_concat];have A3:Ba C N (upd H2 lw (.lst (lsN W'))) { s with lv:=lv } ls:=A2.off w1 w2 w3 w4 w5 w6 w7;refine ⟨N,_,ls,y,rfl,A3,yn,λH4 A4 e4=>?_⟩;have rn:=(P0.rp y yn).1;have Rk:H4 lw=some (.lst (lsN W')):=(by rw [e4 lw w4,Ad]);have f4:Bp N H H4:=λb o e b1 b2 b3 b4 b5=>(by rw [e4 b b4,Ac (Ab e Cz)];exact f2 b o e b1 b2 b3 b4 b5);refine ⟨_,rfl,N.p,C,N.dx,_,_,rfl,A4.ins,T.cl,T.nV,rfl,_,rfl,N.v,_,_,_,rfl,rfl,AO.of A4.levels,Ar (Ci rn),_,rfl,?_⟩;refine ⟨_,_,rfl,rfl,_,rfl,?_⟩;have lW:(W'++[y]).length=W'.length+1:=(by simp);rw [lW] at Xs;by_cases c:l < lv (s.rp y)
   ·refine Cs (by simp;omega) ?_;refine ⟨_,rfl,_,rfl,N.p,C,N.dx,_,_,rfl,A4.ins,T.cl,T.nV,rfl,_,rfl,N.v,_,_,s.rp y,rfl,rfl,A4.levels,Fn (by rw [Ce];exact rn),?_⟩;rw [ED];have A5:Ba C N _ { s with lv:=CG lv (s.rp y) l } ls:=A4.ab6 (CG lv (s.rp y) l);obtain ⟨l1,Dr⟩:∃ l1,ls[s.rp y]?=some l1:=⟨_,List.getElem?_eq_getElem (by rw [A0.len];exact rn)⟩;have bD:(upd H4 N.v (.lst (BQ s.n (CG lv (s.rp y) l)))) lw=some (.lst (lsN W')):=(by rw [Ac w5];exact Rk);have ar:=P0.ar _ rn;have dl:=SH (n:=s.n) (lv:=lv) rn c;have sg:Lb s Al l x (CG lv (s.rp y) l) (W'++s.ch (s.rp y)):=S2.go P0 c;refine ⟨_,rfl,.inl ⟨rfl,_,AO.of bD⟩,_,rfl,N.p,C,N.dx,_,_,rfl,A5.ins,T.cl,T.nI,rfl,_,rfl,N.i,_,_,_,rfl,rfl,AO.of A5.inner,Ar (v:=V.ref l1) (by rw [List.getElem?_map,Dr];rfl),?_⟩;refine ⟨lw,l1,_,_,rfl,rfl,bD,A5.chs _ _ Dr,by simp only [lsN,List.length_map];omega,?_⟩;rw [<- C7];refine ⟨_,?_,CG lv (s.rp y) l,_,_,rfl,rfl,A5.off w1 w2 w3 w4 w5 w6 w7,sg,Ad,?_,λb o e b1 b2 b3 b4 b5=>?_⟩
    ·rw [lW,List.length_append];have dl:deep s.n l (CG lv (s.rp y) l) < deep s.n l lv:=dl;omega
    ·rw [List.length_append];have dl:deep s.n l (CG lv (s.rp y) l) < deep s.n l lv:=dl;omega
    ·rw [Ac (Ab e Cz),Ac b5];exact f4 b o e b1 b2 b3 b4 b5
   ·refine CD (by simp;omega) ?_;exact ⟨_,by rw [lW];omega,lv,_,W',rfl,rfl,A4,S2.skip (),Rk,(),f4⟩
noncomputable def JO (C:Addr):Sp:=λvs H Q _=>∃ (N:NA) (s:Ns) (ls:List Addr) (Al:Nat->Prop) (v u:Nat),vs=[.ref N.p,.int ((v:Nat):Int),.int ((u:Nat):Int)]/\Ba C N H s ls/\Ok s Al/\Al u/\Al v/\s.rp u=u/\s.rp v=v/\u≠v/\s.n < 1000000 /\
 ∀ s' H',Ba C N H' s' ls->Ok s' Al->Le s Al s' Al->s'.rp=(s.glue v u).rp->Bp N H H'->Q .non H'
theorem Qd:Ak ["self","node","leader"] ["self","node","leader"] (Af By):=nofun
theorem NJ {f C fS:Addr}{fd xC:FuncData}(F:B' K "follow" "Nodes.follow" By f fd)(T:BR K mg C)
  (GS:Av Pr w K mg base Bs 2 fS xC ["self","node","level"] (Qc C)) (bS:Binds K xC ["self","node","level"] []) (mS:Meth K C "sink" fS):Av Pr w K mg base Bs 3 f fd ["self","node","leader"] (JO C):=by
 refine F.okS Qd (λvs H Q E h=>?_) (λB7 A outer s0 H vs Q E hr h=>?_)
 ·obtain ⟨N,s,ls,Al,v,u,rfl,_⟩:=h;rfl
 ·obtain ⟨N,s,ls,Al,v,u,rfl,A0,o,hu,hv,ru,rv,EY,hn,q⟩:=h;have un:=o.lt u hu;have vn:=o.lt v hv;obtain ⟨par,rk,U0,L0⟩:=A0.uf;refine ⟨_,Ag (Jx (Ah 2) (Jy (Ao (Ah 0)) (Ah 1) set_list))
   (Aj (Ap (BH (Ah 0) T.cl mS GS hr bS (Aa (Ah 2) (Aa (BG Ay (Ao (Ah 0)) (Ah 1) D1) Ae))))),?_⟩
  refine ⟨_,rfl,_,rfl,N.p,C,N.dx,_,_,rfl,A0.ins,T.cl,T.nL,rfl,_,rfl,N.l,_,_,v,rfl,rfl,L0,Fn (by rw [Ce];exact vn),?_⟩;rw [ED];have A1:Ba C N _ (s.glue v u) ls:=A0.abp (U0.union un vn ru rv EY);refine ⟨_,rfl,N.p,N.dx,_,rfl,A1.ins,rfl,_,rfl,_,rfl,N.p,C,N.dx,_,_,rfl,A1.ins,T.cl,T.nV,rfl,_,rfl,N.v,_,_,_,rfl,rfl,AO.of A1.levels,Ar (Ci vn),?_⟩;refine ⟨N,_,ls,Al,u,s.lv v,rfl,A1,o.glue hu hv ru rv EY,hn,λlv H' A' S' f'=>?_⟩;obtain ⟨o',Vp⟩:=Le.abo o hu hv ru rv EY S';exact q _ H' A' o' Vp rfl λb o e b1 b2 b3 b4 b5=>f' b o (by rw [Ac b4];exact e) b1 b2 b3 b4 b5
end
theorem Fs {g:Nat}(h:g < 6):decide (V.str (Bf g)=V.str "any")=decide (g=2):=by
 have c:g=0\/g=1\/g=2\/g=3\/g=4\/g=5:=by omega
 rcases c with rfl | rfl | rfl | rfl | rfl | rfl <;> decide +kernel
theorem Qe {g g':Nat}(h:g < 6)(h':g' < 6):decide (V.str (Bf g)=V.str (Bf g'))=decide (g=g'):=by
 have:=Pm g h g' h';rw [Bool.eq_iff_iff];simp only [decide_eq_true_iff]
 constructor
 ·intro e;have e:Bf g=Bf g':=by injection e
  rw [e] at this;simpa using this
 ·intro e;rw [e]
abbrev Ft (H:Hp):List (Nat × Nat)->List V->Prop:=Paired λq v=>∃ t,v=.ref t/\H t=some (.tup [.int ((q.1:Nat):Int),.int ((q.2:Nat):Int)])
theorem Ft.mono {H H':Hp}(s:TSub H H'){ps:List (Nat × Nat)}{vs:List V}(h:Ft H ps vs):Ft H' ps vs:=Paired.aaz h λ_ _ z=>by
 obtain ⟨t,e,z⟩:=z;exact ⟨t,e,s _ _ z⟩
theorem Paired.snoc {α β:Type}{F:α->β->Prop}{as:List α}{bs:List β}(h:Paired F as bs):as≠[]->∃ lb a bE b,as=lb++[a]/\bs=bE++[b]/\Paired F lb bE/\F a b:=by
 induction h with
 | nil=>exact λh=>absurd rfl h
 | @cons a b as bs h t ih =>
  intro _;cases t with
  | nil=>exact ⟨[],a,[],b,rfl,rfl,.nil,h⟩
  | cons h2 t2 =>
   obtain ⟨lb,a',bE,b',e1,e2,p,f⟩:=ih (by simp);exact ⟨a::lb,a',b::bE,b',by rw [e1];rfl,by rw [e2];rfl,.cons h p,f⟩
theorem Qf {H:Hp}{xs:List Nat}:∀ {ys:List Nat} {ts:List Addr},ts.length=xs.length->xs.length=ys.length->(∀ (j:Nat) (t:Addr),ts[j]?=some t->∃ x y,(lsN xs)[j]?=some x/\(lsN ys)[j]?=some y/\H t=some (.tup [x,y]))->Ft H (xs.zip ys) (ts.map V.ref):=by
 induction xs with
 | nil =>
  intro ys ts h1 h2 h3;cases ts with
  | nil=>cases ys <;> first | exact .nil | cases h2
  | cons _ _=>cases h1
 | cons x xs ih =>
  intro ys ts h1 h2 h3;cases ts with
  | nil=>cases h1
  | cons t ts =>
   cases ys with
   | nil=>cases h2
   | cons y ys =>
    refine .cons ?_ (ih (by simpa using h1) (by simpa using h2) λj t' e=>?_)
    ·obtain ⟨u,v,e1,e2,e3⟩:=h3 0 t rfl;simp [lsN] at e1 e2;exact ⟨t,rfl,by rw [e3,<- e1,<- e2]⟩
    ·obtain ⟨u,v,e1,e2,e3⟩:=h3 (j+1) t' (by simpa using e);exact ⟨u,v,by simpa [lsN] using e1,by simpa [lsN] using e2,e3⟩
section
variable {Pr:Program}{w:World}{K:W.Frag}{mg:Str->Option Value}{base:Heap}
noncomputable def IK (C CJ:Addr):Sp:=λvs H Q E=>∃ (N:NA) (s:Ns) (ls:List Addr) (Al:Nat->Prop) (i j:Nat),vs=[.ref N.p,.int ((i:Nat):Int),.int ((j:Nat):Int)]/\Ba C N H s ls/\Ok s Al/\Lc s/\Al i/\Al j/\s.n < 1000000 /\
 (∀ s' H',Ba C N H' s' ls->Ok s' Al->Le s Al s' Al->s'.n=s.n->Bp N H H'->Q .non H')/\∀ H',Bp N H H'->E (.ref CJ) none H'
abbrev eZ:List Str:=["self","one","other","waiting","pair","first","second"]
theorem Hc:Ak eZ ["self","one","other"] (Af B3):=nofun
theorem SX {f C CJ fL fF:Addr}{fd Ld xD:FuncData}{bJ:List Value}{nJ:String}(F:B' K "make_same" "Nodes.make_same" B3 f fd)(T:BR K mg C)(mJ:mg "NoJoin"=some (.ref CJ))(qJ:W.excIn K CJ bJ nJ=true){BI Bn:String}(FJ:ExcBaseFacts Bn nJ BI bJ)(mLi:mg "list"=none)(mZ:mg "zip"=none)
  (GL:Av Pr w K mg base Bs 1 fL Ld ["self","node"] (Bh C)) (bL:Binds K Ld ["self","node"] []) (mL:Meth K C "leader" fL)
  (GF:Av Pr w K mg base Bs 3 fF xD ["self","node","leader"] (JO C)) (bF:Binds K xD ["self","node","leader"] []) (mF:Meth K C "follow" fF) :
  Av Pr w K mg base (De Pr w) 4 f fd ["self","one","other"] (IK C CJ):=by
 refine F.okX Hc (λvs H Q E h=>?_) (λB7 A outer s0 H vs Q E hr h=>?_)
 ·obtain ⟨N,s,ls,Al,i,j,rfl,_⟩:=h;rfl
 ·obtain ⟨N,s,ls,Al,i,j,rfl,A0,o0,Rl,hi,hj,hn,q1,q2⟩:=h;have hb:=BE;have BK:Am 1 _:=hr.mono ⟨⟩;refine ⟨_,Ag (Au (i:=3) Hc.nd rfl (.inl rfl) (AU (Aa (Bi (Aa (Ah 1) (Aa (Ah 2) Ae))) Ae)))
   (Aj (D2 (EA Cg) (C5 (Ah 3))
    (Ag (Au (i:=4) Hc.nd rfl (.inl rfl) (Ed PySem.F.plainAttrs_list PySem.F.slot_list_pop PySem.F.type_list_pop Ea (Ah 3)))
    (Ag (Au (i:=5) Hc.nd rfl (.inl rfl) (BH (Ah 0) T.cl mL GL BK bL (Aa (eI 4) Ae)))
    (Ag (Au (i:=6) Hc.nd rfl (.inl rfl) (BH (Ah 0) T.cl mL GL BK bL (Aa (eI 4) Ae)))
    (Ag (BY (B1 BX (Ah 5) (Ah 6) (AF _)) (Aj KQ) BN)
    (Aj (BY (B1 BX (BG Ay (Ao (Ah 0)) (Ah 6) D1) Aw (AF _)) (Aj (Ap (BH (Ah 0) T.cl mF GF hr bF (Aa (Ah 6) (Aa (Ah 5) Ae)))))
     (Aj (BY (B1 BX (BG Ay (Ao (Ah 0)) (Ah 5) D1) Aw (AF _)) (Aj (Ap (BH (Ah 0) T.cl mF GF hr bF (Aa (Ah 5) (Aa (Ah 6) Ae)))))
      (Aj (BY (B1 HG (BG Ay (Ao (Ah 0)) (Ah 5) D1) (BG Ay (Ao (Ah 0)) (Ah 6) D1) (AF _))
       (Aj (Me Cg (λ_ _ h=>h) rfl mJ qJ FJ rfl (Aa Aw Ae)))
       (Ag (Ap (BH (Ah 0) T.cl mF GF hr bF (Aa (Ah 6) (Aa (Ah 5) Ae))))
       (Aj (Ap (EV PySem.F.plainAttrs_list PySem.F.slot_list_extend PySem.F.type_list_extend D7 (Ah 3) (Aa (NB rfl rfl rfl mLi rfl mZ (Aa (BG Ay (Ao (Ah 0)) (Ah 5) D1) (Aa (BG Ay (Ao (Ah 0)) (Ah 6) D1) Ae))) Ae))))))))))))))))),?_⟩
  refine ⟨_,rfl,_,rfl,by show 2<=sizeLine;omega,λt0 bH=>⟨by show 1<=sizeLine;omega,λlw Cz=>?_⟩⟩;have xE:t0≠lw:=λz=>by rw [<- z,Ad] at Cz;cases Cz
  have Bz:H lw=none:=by rw [Ac (Ne.symm xE)] at Cz;exact Cz
  obtain ⟨_,L0⟩:=A0.lead;have w1:lw≠N.p:=Ne.symm (Ab A0.ins Bz);have w2:lw≠N.s:=Ne.symm (Ab A0.sorts Bz);have w3:lw≠N.i:=Ne.symm (Ab A0.inner Bz);have w4:lw≠N.l:=Ne.symm (Ab L0 Bz);have w5:lw≠N.v:=Ne.symm (Ab A0.levels Bz);have w6:lw≠N.g:=Ne.symm (Ab A0.aaj Bz);have w7:lw∉ls:=λz=>by
   obtain ⟨k,hk,ek⟩:=List.mem_iff_getElem.mp z;have:=A0.chs k lw (by rw [List.getElem?_eq_getElem hk,ek]);rw [Bz] at this;cases this
  have G':Ai H (upd (upd H t0 (.tup [.int ((i:Nat):Int),.int ((j:Nat):Int)])) lw (.lst [.ref t0])):=Ai.put (Ai.new bH) Bz;refine ⟨λm σ H2=>∃ ws ps s2 x4 x5 x6,σ=[some (.ref N.p),some (.int ((i:Nat):Int)),some (.int ((j:Nat):Int)),some (.ref lw),x4,x5,x6]/\m=3 * KN.roots s.n s2.rp+ps.length/\m<=3 * s.n+1/\Ba C N H2 s2 ls/\Ok s2 Al/\Le s Al s2 Al/\s2.n=s.n/\(∀ p∈ps,Al p.1/\Al p.2)/\Bp N H H2/\H2 lw=some (.lst ws)/\Ft H2 ps ws,
   ⟨_,[.ref t0],[(i,j)],s,none,none,none,rfl,rfl,by have:=KN.aa6 s.n s.rp;simp;omega,A0.same G',o0,Le.refl _ _,rfl,λp hp=>by rw [List.mem_singleton.mp hp];exact ⟨hi,hj⟩,Bp.of_same G',Ad,.cons ⟨t0,rfl,by rw [Ac xE,Ad]⟩ .nil⟩,?_⟩
  rintro m σ H2 ⟨ws,ps,s2,x4,x5,x6,rfl,rfl,hm,A2,o2,lh,en,fc,la,FV,ff⟩;refine ⟨_,rfl,!ws.isEmpty,.inl ⟨ws,AO.of FV,rfl⟩,?_⟩;by_cases xF:ps=[]
  ·subst xF;cases ff;refine Ck ?_;exact q1 s2 H2 A2 o2 lh en la
  ·obtain ⟨Ml,⟨x,y⟩,Co,v,rfl,rfl,pf,t,rfl,ht⟩:=Paired.snoc ff xF;have EY:(!(Co++[V.ref t]).isEmpty)=true:=(by simp);rw [EY];refine Cm ⟨_,fun σ' H' z=>z,?_⟩;obtain ⟨xA,yA⟩:=fc (x,y) (by simp);have hx:x < s2.n:=o2.lt x xA;have hy:y < s2.n:=o2.lt y yA;have fg:∀ p∈Ml,Al p.1/\Al p.2:=λp hp=>fc p (List.mem_append_left _ hp);have bK:=Rl.le lh en;refine ⟨_,rfl,.inl ⟨rfl,_,AO.of FV⟩,lw,_,V.ref t,rfl,rfl,FV,by simp,?_⟩;rw [List.dropLast_concat];have A3:Ba C N (upd H2 lw (.lst Co)) s2 ls:=A2.off w1 w2 w3 w4 w5 w6 w7;have ph:t≠lw:=AL ht FV (by intro z;cases z);have SY:(upd H2 lw (.lst Co)) t=some (.tup [.int ((x:Nat):Int),.int ((y:Nat):Int)]):=(by rw [Ac ph];exact ht);have bO:(upd H2 lw (.lst Co)) lw=some (.lst Co):=Ad;have fi:Ft (upd H2 lw (.lst Co)) Ml Co:=Ft.mono (TSub.put λxs z=>by rw [FV] at z;cases z) pf;have Oh:Bp N H (upd H2 lw (.lst Co)):=λb o e b1 b2 b3 b4 b5=>(by rw [Ac (Ab e Bz)];exact la b o e b1 b2 b3 b4 b5);generalize upd H2 lw (.lst Co)=H3 at A3 SY bO fi Oh ⊢;refine ⟨_,rfl,N.p,N.dx,_,rfl,A3.ins,rfl,_,rfl,t,_,_,_,rfl,rfl,CZ.of SY,Ar (j:=0) rfl,N,s2,ls,x,rfl,A3,hx,λH4 A4 e4=>?_⟩;obtain ⟨_,L3⟩:=A3.lead;have tL:t≠N.l:=AL SY L3 (by intro z;cases z);have ht4:H4 t=some (.tup [.int ((x:Nat):Int),.int ((y:Nat):Int)]):=(by rw [e4 t tL];exact SY);refine ⟨_,rfl,N.p,N.dx,_,rfl,A4.ins,rfl,_,rfl,t,_,_,_,rfl,rfl,CZ.of ht4,Ar (j:=1) rfl,N,s2,ls,y,rfl,A4,hy,λH5 A5 e5=>?_⟩;have pj:∀ b,b≠N.l->H5 b=H3 b:=λb hb=>(by rw [e5 b hb,e4 b hb]);have bP:H5 lw=some (.lst Co):=(by rw [pj lw w4];exact bO);have pk:TSub H3 H5:=λb xs e=>(by rw [pj b (AL e L3 (by intro z;cases z))];exact e);have bQ:=Ft.mono pk fi;have ON:Bp N H H5:=λb o e b1 b2 b3 b4 b5=>(by rw [pj b b4];exact Oh b o e b1 b2 b3 b4 b5);obtain ⟨ix,Xt⟩:=o2.rp x hx;obtain ⟨iy,Xu⟩:=o2.rp y hy;have Xv:Al (s2.rp x):=(o2.li x hx).mpr xA;have Xw:Al (s2.rp y):=(o2.li y hy).mpr yA;have fj:(Ml++[(x,y)]).length=Ml.length+1:=(by simp);rw [fj] at hm ⊢;have Qg:∀ (x4 x5 x6:Option V) (u v:Nat) (s6:Ns) (more:List (Nat × Nat)) (lu:List V) (H6:Hp),Al u->Al v->s2.rp u=u->s2.rp v=v->u≠v->more.length<=2->(∀ p∈more,Al p.1/\Al p.2)->Ba C N H6 s6 ls->Ok s6 Al->Le s2 Al s6 Al->s6.rp=(s2.glue v u).rp->s6.n=s2.n->Bp N H H6->H6 lw=some (.lst lu)->Ft H6 (Ml++more) lu ->
     ∃ m',m' < 3 * KN.roots s.n s2.rp+(Ml.length+1)/\∃ ws ps s2 x4' x5' x6',([some (.ref N.p),some (.int ((i:Nat):Int)),some (.int ((j:Nat):Int)),some (.ref lw),x4,x5,x6]:List (Option V))=[some (.ref N.p),some (.int ((i:Nat):Int)),some (.int ((j:Nat):Int)),some (.ref lw),x4',x5',x6']/\m'=3 * KN.roots s.n s2.rp+ps.length/\m'<=3 * s.n+1/\Ba C N H6 s2 ls/\Ok s2 Al/\Le s Al s2 Al/\s2.n=s.n/\(∀ p∈ps,Al p.1/\Al p.2)/\Bp N H H6/\H6 lw=some (.lst ws)/\Ft H6 ps ws:=by
    intro x4 x5 x6 u v s6 more lu H6 hu hv ru rv EY lx hmA A6 o6 T1 Xx pq Lg Rm Vq;have pz:=KN.aa0 (s:=s2) (o2.lt v hv) ru rv EY;rw [en,<- Xx] at pz;have Aa8:(Ml++more).length=Ml.length+more.length:=List.length_append;exact ⟨3 * KN.roots s.n s6.rp+(Ml++more).length,(),lu,Ml++more,s6,x4,x5,x6,rfl,rfl,(),A6,o6,Le.trans o0 lh T1,pq.trans en,λp hp=>(List.mem_append.mp hp).elim (fg p) (hmA p),Lg,Rm,Vq⟩
   refine ⟨_,rfl,_,rfl,rfl,_,rfl,?_⟩;have UZ:s2.n < 1000000:=(by rw [en];exact hn);by_cases Xy:s2.rp x=s2.rp y
   ·refine Cs (by simp [Xy]) ?_;exact ⟨3 * KN.roots s.n s2.rp+Ml.length,(),Co,Ml,s2,_,_,_,rfl,rfl,(),A5,o2,lh,en,fg,ON,bP,bQ⟩
   ·refine CD (by simp;omega) ?_;have ly:=bK.tg _ ix;have xG:=bK.tg _ iy;have Qh:∀ {H6:Hp},Bp N H5 H6->H6 lw=some (.lst Co):=λ{H6} k=>k lw _ bP w1 w2 w3 w4 w5;have Qi:∀ {H6:Hp},Bp N H5 H6->Ft H6 Ml Co:=λ{H6} k=>by
     obtain ⟨_,L5⟩:=A5.lead;exact Ft.mono (λb xs e=>k b _ e (AL e A5.ins (by intro z;cases z)) (AL e A5.sorts (by intro z;cases z)) (AL e A5.inner (by intro z;cases z)) (AL e L5 (by intro z;cases z)) (AL e A5.levels (by intro z;cases z))) bQ
    refine ⟨_,rfl,N.p,C,N.dx,_,_,rfl,A5.ins,T.cl,T.nS,rfl,_,rfl,N.s,_,_,_,rfl,rfl,AO.of A5.sorts,Ar (CI iy),rfl,_,rfl,?_⟩;rw [Fs xG];by_cases e2:s2.tg (s2.rp y)=2
    ·refine Cs (by simp [e2]) ?_;refine ⟨_,rfl,N.p,N.dx,_,rfl,A5.ins,rfl,_,rfl,_,rfl,N,s2,ls,Al,s2.rp y,s2.rp x,rfl,A5,o2,Xv,Xw,Xt,Xu,Xy,UZ,λs6 H6 A6 o6 T1 Xx k6=>?_⟩;exact Qg _ _ _ (s2.rp x) (s2.rp y) s6 [] Co _ Xv Xw Xt Xu Xy (by simp) (λp hp=>by cases hp) A6 o6 T1 Xx (A6.len.symm.trans A5.len) (ON.trans k6) (Qh k6) (by rw [List.append_nil];exact Qi k6)
    ·refine CD (by simp [e2]) ?_;refine ⟨_,rfl,N.p,C,N.dx,_,_,rfl,A5.ins,T.cl,T.nS,rfl,_,rfl,N.s,_,_,_,rfl,rfl,AO.of A5.sorts,Ar (CI ix),rfl,_,rfl,?_⟩;rw [Fs ly];by_cases e1:s2.tg (s2.rp x)=2
     ·refine Cs (by simp [e1]) ?_;refine ⟨_,rfl,N.p,N.dx,_,rfl,A5.ins,rfl,_,rfl,_,rfl,N,s2,ls,Al,s2.rp x,s2.rp y,rfl,A5,o2,Xw,Xv,Xu,Xt,Ne.symm Xy,UZ,λs6 H6 A6 o6 T1 Xx k6=>?_⟩;exact Qg _ _ _ (s2.rp y) (s2.rp x) s6 [] Co _ Xw Xv Xu Xt (Ne.symm Xy) (by simp) (λp hp=>by cases hp) A6 o6 T1 Xx (A6.len.symm.trans A5.len) (ON.trans k6) (Qh k6) (by rw [List.append_nil];exact Qi k6)
     ·refine CD (by simp [e1]) ?_;refine ⟨_,rfl,N.p,C,N.dx,_,_,rfl,A5.ins,T.cl,T.nS,rfl,_,rfl,N.s,_,_,_,rfl,rfl,AO.of A5.sorts,Ar (CI ix),_,rfl,N.p,C,N.dx,_,_,rfl,A5.ins,T.cl,T.nS,rfl,_,rfl,N.s,_,_,_,rfl,rfl,AO.of A5.sorts,Ar (CI iy),rfl,_,rfl,?_⟩;rw [Qe ly xG];by_cases e3:s2.tg (s2.rp x)=s2.tg (s2.rp y)
      ·refine CD (by simp [e3]) ?_;refine ⟨_,rfl,N.p,N.dx,_,rfl,A5.ins,rfl,_,rfl,_,rfl,N,s2,ls,Al,s2.rp y,s2.rp x,rfl,A5,o2,Xv,Xw,Xt,Xu,Xy,UZ,λs6 H6 A6 o6 T1 Xx k6=>?_⟩;have Rm:=Qh k6;have Lg:=ON.trans k6;have Vq:=Qi k6;have pq:s6.n=s2.n:=A6.len.symm.trans A5.len;obtain ⟨l1,Dr⟩:∃ l1,ls[s2.rp x]?=some l1:=⟨_,List.getElem?_eq_getElem (by rw [A5.len];exact ix)⟩;obtain ⟨l2,E9⟩:∃ l2,ls[s2.rp y]?=some l2:=⟨_,List.getElem?_eq_getElem (by rw [A5.len];exact iy)⟩;have fk:(s2.ch (s2.rp x)).length=(s2.ch (s2.rp y)).length:=(by rw [bK.ar _ ix,bK.ar _ iy,e3]);have JD:(s2.ch (s2.rp x)).length<=2:=o2.ar _ ix;have c1:=A6.chs _ _ Dr;have c2:=A6.chs _ _ E9;rw [T1.ch _ ix] at c1;rw [T1.ch _ iy] at c2;refine ⟨_,rfl,.inl ⟨rfl,_,AO.of Rm⟩,_,rfl,N.p,C,N.dx,_,_,rfl,A6.ins,T.cl,T.nI,rfl,_,rfl,N.i,_,_,_,rfl,rfl,AO.of A6.inner,Ar (v:=V.ref l1) (by rw [List.getElem?_map,Dr];rfl),_,rfl,N.p,C,N.dx,_,_,rfl,A6.ins,T.cl,T.nI,rfl,_,rfl,N.i,_,_,_,rfl,rfl,AO.of A6.inner,Ar (v:=V.ref l2) (by rw [List.getElem?_map,E9];rfl),
        l1,l2,_,_,rfl,.inl ⟨c1,c2⟩,by simp [lsN];exact fk,by simp [lsN];omega,λl ts H7 fj NN bR xH WN=>?_⟩
       have bT:=NN _ _ Rm;have psl:Co.length=Ml.length:=(Paired.length Vq).symm;have tsl:ts.length<=2:=(by rw [xH];simp [lsN];omega);refine ⟨lw,l,Co,ts.map V.ref,rfl,rfl,bT,bR,by rw [List.length_map];omega,?_⟩;have A7:Ba C N (upd H7 lw (.lst (Co++ts.map V.ref))) s6 ls:=(A6.same NN).off w1 w2 w3 w4 w5 w6 w7;have fo:TSub H7 (upd H7 lw (.lst (Co++ts.map V.ref))):=TSub.put λxs z=>(by rw [bT] at z;cases z);refine Qg _ _ _ (s2.rp x) (s2.rp y) s6 ((s2.ch (s2.rp x)).zip (s2.ch (s2.rp y))) _ _ Xv Xw Xt Xu Xy (by rw [List.length_zip];omega) (λp hp=>?_) A7 o6 T1 Xx pq (λb o e b1 b2 b3 b4 b5=>?_) Ad ?_
       ·obtain ⟨h1,h2⟩:=List.of_mem_zip hp;exact ⟨o2.cl _ Xv Xt _ h1,o2.cl _ Xw Xu _ h2⟩
       ·rw [Ac (Ab e Bz)];exact NN b o (Lg b o e b1 b2 b3 b4 b5)
       ·exact Paired.app (Ft.mono (TSub.trans (TSub.of_same NN) fo) Vq) (Ft.mono fo (Qf (by rw [xH];simp [lsN]) fk WN))
      ·refine Cs (by simp [e3]) ?_;exact ⟨by simp,q2 H5 ON⟩
end
end K
namespace KX
open PySem L2
inductive Itm where
 | sc (v:V) | pt (e:Ex)
namespace Ex
noncomputable def its:Ex->List Itm
 | nm x=>[.sc (.str x)] | num i=>[.sc (.int i)] | tru b=>[.sc (.bl b)] | emp=>[]
 | fn x b=>[.sc (.str x),.pt b] | rc f x b=>[.sc (.str f),.sc (.str x),.pt b] | cal a b=>[.pt a,.pt b] | lt x a b=>[.sc (.str x),.pt a,.pt b] | wh a b c=>[.pt a,.pt b,.pt c] | pr a b=>[.pt a,.pt b]
 | opn a x y b=>[.pt a,.sc (.str x),.sc (.str y),.pt b] | lk a b=>[.pt a,.pt b] | spl a b x y c=>[.pt a,.pt b,.sc (.str x),.sc (.str y),.pt c] | op o a b=>[.sc (.str o),.pt a,.pt b]
noncomputable def given:Ex->List Str
 | fn x _=>[x] | rc f x _=>[f,x] | lt x _ _=>[x] | opn _ x y _=>[x,y] | spl _ _ x y _=>[x,y]
 | _=>[]
end Ex
open Ex
end KX
namespace L2
open PySem PySem.Spec PyProof.Rows KS KX
noncomputable def pA (H:Hp):Itm->V->Prop
 | .sc v,u=>u=v
 | .pt e,u=>Bo H e u
theorem Bo.its {H:Hp}{e:Ex}{r:V}(h:Bo H e r):∃ p us,r=.ref p/\H p=some (.tup (.str e.wd::us))/\Paired (pA H) e.its us:=by
 cases e with
 | nm _=>obtain ⟨p,h1,h2⟩:=h;exact ⟨p,_,h1,h2,.cons rfl .nil⟩
 | num _=>obtain ⟨p,h1,h2⟩:=h;exact ⟨p,_,h1,h2,.cons rfl .nil⟩
 | tru _=>obtain ⟨p,h1,h2⟩:=h;exact ⟨p,_,h1,h2,.cons rfl .nil⟩
 | emp=>obtain ⟨p,h1,h2⟩:=h;exact ⟨p,_,h1,h2,.nil⟩
 | fn _ _=>obtain ⟨p,rb,h1,h2,h3⟩:=h;exact ⟨p,_,h1,h2,.cons rfl (.cons h3 .nil)⟩
 | rc _ _ _=>obtain ⟨p,rb,h1,h2,h3⟩:=h;exact ⟨p,_,h1,h2,.cons rfl (.cons rfl (.cons h3 .nil))⟩
 | cal _ _=>obtain ⟨p,ra,rb,h1,h2,h3,h4⟩:=h;exact ⟨p,_,h1,h2,.cons h3 (.cons h4 .nil)⟩
 | lt _ _ _=>obtain ⟨p,ra,rb,h1,h2,h3,h4⟩:=h;exact ⟨p,_,h1,h2,.cons rfl (.cons h3 (.cons h4 .nil))⟩
 | wh _ _ _=>obtain ⟨p,ra,rb,rc,h1,h2,h3,h4,h5⟩:=h;exact ⟨p,_,h1,h2,.cons h3 (.cons h4 (.cons h5 .nil))⟩
 | pr _ _=>obtain ⟨p,ra,rb,h1,h2,h3,h4⟩:=h;exact ⟨p,_,h1,h2,.cons h3 (.cons h4 .nil)⟩
 | opn _ _ _ _=>obtain ⟨p,ra,rb,h1,h2,h3,h4⟩:=h;exact ⟨p,_,h1,h2,.cons h3 (.cons rfl (.cons rfl (.cons h4 .nil)))⟩
 | lk _ _=>obtain ⟨p,ra,rb,h1,h2,h3,h4⟩:=h;exact ⟨p,_,h1,h2,.cons h3 (.cons h4 .nil)⟩
 | spl _ _ _ _ _=>obtain ⟨p,ra,rb,rc,h1,h2,h3,h4,h5⟩:=h;exact ⟨p,_,h1,h2,.cons h3 (.cons h4 (.cons rfl (.cons rfl (.cons h5 .nil))))⟩
 | op _ _ _=>obtain ⟨p,ra,rb,h1,h2,h3,h4⟩:=h;exact ⟨p,_,h1,h2,.cons rfl (.cons h3 (.cons h4 .nil))⟩
theorem bU {α β:Type}{F:α->β->Prop}{ms:List β}(h:Paired F [] ms):ms=[]:=by cases h;rfl
theorem J6 {α β:Type}{F:α->β->Prop}{a:α}{as:List α}{ms:List β}(h:Paired F (a::as) ms):∃ x xs,ms=x::xs/\F a x/\Paired F as xs:=by
 cases h with
 | cons r t=>exact ⟨_,_,rfl,r,t⟩
end L2
namespace KX
open PySem Ex L2
noncomputable def xI:V->Bool
 | .str _ | .int _ | .bl _=>true
 | _=>false
theorem Xz {e:Ex}{u:V}(h:Itm.sc u∈e.its):xI u=true:=by
 cases e <;> simp [its] at h <;> first | (subst h;rfl) | (rcases h with rfl | rfl <;> rfl)
theorem T2 (e:Ex):e.its.length<=5:=by cases e <;> simp [its]
end KX
namespace KX
open PySem Ex
namespace Ex
noncomputable def fv (xs:List Str):Ex->List Str
 | nm x=>if x∈xs then [] else [x]
 | num _ | tru _ | emp=>[]
 | fn x b=>fv (x::xs) b | rc f x b=>fv (x::f::xs) b | cal a b=>fv xs a++fv xs b | lt x a b=>fv xs a++fv (x::xs) b | wh a b c=>fv xs a++(fv xs b++fv xs c) | pr a b=>fv xs a++fv xs b
 | opn a x y b=>fv xs a++fv (y::x::xs) b | lk a b=>fv xs a++fv xs b | spl a b x y c=>fv xs a++(fv xs b++fv (y::x::xs) c) | op _ a b=>fv xs a++fv xs b
end Ex
theorem fq {e:Ex}:∀ {xs:List Str},(e.fv xs).length<=e.sz:=by
 induction e with
 | nm x=>intro xs;simp only [fv,sz];split <;> simp
 | num _ | tru _ | emp=>intro xs;simp [fv]
 | fn x b ih=>intro xs;have:=@ih (x::xs);simp only [fv,sz];omega
 | rc f x b ih=>intro xs;have:=@ih (x::f::xs);simp only [fv,sz];omega
 | cal a b ia ib | pr a b ia ib | lk a b ia ib=>intro xs;have:=@ia xs;have:=@ib xs;simp only [fv,sz,List.length_append];omega
 | op o a b ia ib=>intro xs;have:=@ia xs;have:=@ib xs;simp only [fv,sz,List.length_append];omega
 | lt x a b ia ib=>intro xs;have:=@ia xs;have:=@ib (x::xs);simp only [fv,sz,List.length_append];omega
 | wh a b c ia ib ic=>intro xs;have:=@ia xs;have:=@ib xs;have:=@ic xs;simp only [fv,sz,List.length_append];omega
 | opn a x y b ia ib=>intro xs;have:=@ia xs;have:=@ib (y::x::xs);simp only [fv,sz,List.length_append];omega
 | spl a b x y c ia ib ic=>intro xs;have:=@ia xs;have:=@ib xs;have:=@ic (y::x::xs);simp only [fv,sz,List.length_append];omega
end KX
namespace L2
open PySem PySem.Spec PyProof.Rows KS KX
section
variable {X:Cx}{k:Nat}{f C:Addr}{fd:FuncData}{ps:List Str}{sp:Sp}{m:Str}{E:XK}{o:Expr}{ta:TE}{pos apos:Pos}
theorem Qj {pl:Sem Bool}(he:SE X o ta)(c:G9 X.K C)(hm:Meth X.K C m f)(F:Av X.prog X.w X.K X.mg X.base (De X.prog X.w) k f fd ps sp)(hx:Passes (De X.prog X.w) X E)(hr:Am k X.A)(hb:Binds X.K fd ps [])
  (ht:eval (.Call (.Attribute o m apos) [] [] pos) X.env=(do
   let ov <- eval o X.env
   standAt apos.atName
   let (f,first) <- holding [ov] (getMethod ov m pl)
   callWith pos f first (backTo pos (starEach [] X.env)) (backToKw pos (keywordEach [] X.env))):=by rfl) :
  SE X (.Call (.Attribute o m apos) [] [] pos) (D0 C m sp [] E ta Dp):=⟨Jf he.out c hm F hr hb .nil hx ht⟩
end
end L2
local macro_rules | `(tactic| fail)=>`(tactic| with_reducible refine L2.abq ?_)
namespace L2
open PySem PySem.Spec PyProof.Rows KS KX
theorem NO {P:Program}{w:World}{K:W.Frag}{mg:Str->Option Value}{base:Heap}{N:List Str}{qual:Str}{scope:Scope}{f:Addr}{cd:Value}{A:Around}{outer:List Env}{s:Shared}{H:Hp}{E:XK}:Passes (De P w) (Px P w K mg base N qual scope f cd A outer s H E) E:=dQ (X:=CB (De P w) P w K mg base N qual scope f cd A outer s H E) Cg λ_ _ h=>h
noncomputable def Mc (Pr:Program)(w:World)(K:W.Frag)(mg:Str->Option Value)(base:Heap)(CX:Je)(C:Addr)(k:Nat)(m:Str)(ps:List Str)(sp:Sp):Prop:=∃ f fd,Av Pr w K mg base CX k f fd ps sp/\Binds K fd ps []/\Meth K C m f
section
variable {X:Cx}{k:Nat}{C:Addr}{ps:List Str}{sp:Sp}{m:Str}{E:XK}{o e:Expr}{es:List Expr}{ta:TE}{t:TA}{pos apos:Pos}
theorem Es {pl:Sem Bool}(he:SE X o ta)(c:G9 X.K C)(M:Mc X.prog X.w X.K X.mg X.base (De X.prog X.w) C k m ps sp)(hx:Passes (De X.prog X.w) X E)(hr:Am k X.A)(ha:SA X (e::es) t)
  (Ho:starEach (e::es) X.env=(false,eval e X.env)::starEach es X.env:=by first | exact CQ | exact C4 | exact C3 | exact CT | exact CU | exact CV | exact E3 | rfl) (CO:(backTo pos (starEach es X.env)).any (·.1)=false:=by rfl)
  (ht:eval (.Call (.Attribute o m apos) (e::es) [] pos) X.env=(do
   let ov <- eval o X.env
   standAt apos.atName
   let (f,first) <- holding [ov] (getMethod ov m pl)
   callWith pos f first (backTo pos (starEach (e::es) X.env)) (backToKw pos (keywordEach [] X.env))):=by rfl) :
  SE X (.Call (.Attribute o m apos) (e::es) [] pos) (D0 C m sp [] E ta t):=by
 obtain ⟨f,fd,F,hb,hm⟩:=M;exact Sj he c hm F hx hr hb ha Ho CO ht
theorem BF {pl:Sem Bool}(he:SE X o ta)(c:G9 X.K C)(M:Mc X.prog X.w X.K X.mg X.base Bs C k m ps sp)(hr:Am k X.A)(ha:SA X (e::es) t)
  (Ho:starEach (e::es) X.env=(false,eval e X.env)::starEach es X.env:=by first | exact CQ | exact C4 | exact C3 | exact CT | exact CU | exact CV | exact E3 | rfl) (CO:(backTo pos (starEach es X.env)).any (·.1)=false:=by rfl)
  (ht:eval (.Call (.Attribute o m apos) (e::es) [] pos) X.env=(do
   let ov <- eval o X.env
   standAt apos.atName
   let (f,first) <- holding [ov] (getMethod ov m pl)
   callWith pos f first (backTo pos (starEach (e::es) X.env)) (backToKw pos (keywordEach [] X.env))):=by rfl) :
  SE X (.Call (.Attribute o m apos) (e::es) [] pos) (D0 C m sp [] E0 ta t):=by
 obtain ⟨f,fd,F,hb,hm⟩:=M;exact BH he c hm F hr hb ha Ho CO ht
theorem XA {pl:Sem Bool}(he:SE X o ta)(c:G9 X.K C)(M:Mc X.prog X.w X.K X.mg X.base (De X.prog X.w) C k m ps sp)(hx:Passes (De X.prog X.w) X E)(hr:Am k X.A)
  (ht:eval (.Call (.Attribute o m apos) [] [] pos) X.env=(do
   let ov <- eval o X.env
   standAt apos.atName
   let (f,first) <- holding [ov] (getMethod ov m pl)
   callWith pos f first (backTo pos (starEach [] X.env)) (backToKw pos (keywordEach [] X.env))):=by rfl) :
  SE X (.Call (.Attribute o m apos) [] [] pos) (D0 C m sp [] E ta Dp):=by
 obtain ⟨f,fd,F,hb,hm⟩:=M;exact Qj he c hm F hx hr hb ht
end
end L2
namespace K
open PySem L2 KM KS KN
noncomputable def Fu (n:Nat):List Nat->List (Key × V)
 | []=>[]
 | x::r=>(Sum.inl ((x:Nat):Int),.int ((n:Nat):Int))::Fu (n+1) r
theorem T3 {ks:List Nat}:∀ {n x:Nat},Fu n (ks++[x])=Fu n ks++[(Sum.inl ((x:Nat):Int),.int (((n+ks.length:Nat):Nat):Int))]:=by
 induction ks with
 | nil=>intro n x;rfl
 | cons y r ih =>
  intro n x;show (Sum.inl ((y:Nat):Int),V.int ((n:Nat):Int))::Fu (n+1) (r++[x])=_;rw [ih];have e:n+1+r.length=n+(y::r).length:=by simp only [List.length_cons];omega
  rw [e];rfl
theorem Mm {ks:List Nat}:∀ {n:Nat},(Fu n ks).length=ks.length:=by
 induction ks with
 | nil=>intro n;rfl
 | cons y r ih=>intro n;show (Fu (n+1) r).length+1=_;rw [ih];rfl
theorem IL {ks:List Nat}:∀ {n y:Nat},(y∉ks/\Bu (Fu n ks) (Sum.inl ((y:Nat):Int):Key)=none)\/(y∈ks/\∃ j,j < ks.length/\Bu (Fu n ks) (Sum.inl ((y:Nat):Int):Key)=some (.int (((n+j:Nat):Nat):Int))):=by
 induction ks with
 | nil=>intro n y;exact .inl ⟨by simp,rfl⟩
 | cons x r ih =>
  intro n y;by_cases e:x=y
  ·subst e;exact .inr ⟨.head _,0,by simp,Bv rfl⟩
  ·have h:¬ (Sum.inl ((x:Nat):Int):Key)=Sum.inl ((y:Nat):Int):=λz=>e (by have:=Sum.inl.inj z;omega);rcases ih (n:=n+1) (y:=y) with ⟨a,b⟩ | ⟨a,j,b,d⟩
   ·exact .inl ⟨by simp only [List.mem_cons,not_or];exact ⟨λz=>e z.symm,a⟩,(B8 h).trans b⟩
   ·refine .inr ⟨.tail _ a,j+1,by simp only [List.length_cons];omega,(B8 h).trans ?_⟩;rw [d];have e:n+1+j=n+(j+1):=(by omega);rw [e]
theorem XB {ks:List Nat}:∀ {n j:Nat} {p:Key × V},(Fu n ks)[j]?=some p->∃ x,ks[j]?=some x/\p=(Sum.inl ((x:Nat):Int),.int (((n+j:Nat):Nat):Int)):=by
 induction ks with
 | nil=>intro n j p h;cases h
 | cons y r ih =>
  intro n j p h;cases j with
  | zero=>cases h;exact ⟨y,rfl,rfl⟩
  | succ j =>
   obtain ⟨x,h1,h2⟩:=ih (n:=n+1) (j:=j) h;refine ⟨x,h1,h2.trans ?_⟩;have e:n+1+j=n+(j+1):=(by omega);rw [e]
section
variable {Pr:Program}{w:World}{K:W.Frag}{mg:Str->Option Value}{base:Heap}
theorem T4 {H:Hp}{l1 d:Addr}{ps:List Nat}{kvs:List (Key × V)}{g:Nat->Nat}{σ:St}{Fin:List V->Hp->Prop}(hl:H l1=some (.lst (lsN ps)))(hd:Rd H d (.dK kvs))(hlen:ps.length < 10000)
  (hg:∀ p∈ps,((Bu kvs (Sum.inl ((p:Nat):Int):Key)).getD (.int ((p:Nat):Int)))=.int ((g p:Nat):Int)) (s0:σ=[none,some (.ref d)]) (fin:Fin (lsN (ps.map g)) H) :
  Dq (Rf K l1) H σ (CA 0) Hu (IB (Bt 1) (Bt 0) (Bt 0)) Fin:=by
 have hb:=BE;subst s0;refine D8 (K:=K) (a:=l1) (xs:=lsN ps) (λk ys H3=>ys=lsN ((ps.take k).map g)/\H3=H) ⟨by simp [lsN],rfl⟩ (λk ys H3 z=>?_) (by simp [lsN];omega) (λk ys H3 z=>?_) (λk c' ys H3 Cn z=>?_)
  (λx σ H Q Q' h z=>h _ _ z) (fun σ H Q Q' h z=>h _ _ z) (fun σ H Q Q' h z=>?_) (λys H3 z=>?_)
 ·rw [z.2];exact AO.of hl
 ·rw [z.1];simp [lsN];omega
 ·obtain ⟨e,rfl⟩:=z;unfold lsN at Cn;rw [List.getElem?_map] at Cn;cases ec:ps[k]? with
  | none=>rw [ec] at Cn;cases Cn
  | some c =>
   rw [ec] at Cn;cases Cn;refine ⟨Ext.set rfl,Eh ?_⟩;refine ⟨_,rfl,d,rfl,.inl ⟨_,hd⟩,_,rfl,_,rfl,_,.inl ⟨_,Sum.inl ((c:Nat):Int),hd,rfl,rfl⟩,?_,rfl⟩;rw [hg c (List.mem_of_getElem? ec),e,List.take_add_one,ec,List.map_append,C7];rfl
 ·obtain ⟨v1,e1,a,e2,i1,v2,e3,v3,e4,o,d1,q⟩:=z;exact ⟨v1,e1,a,e2,i1,v2,e3,v3,e4,o,d1,h _ _ q⟩
 ·obtain ⟨e,rfl⟩:=z;have el:(lsN ps).length=ps.length:=by simp [lsN]
  rw [el,List.take_length] at e;rw [e];exact fin
noncomputable def Hd (C:Addr):Sp:=λvs H Q _=>∃ (N:NA) (s:Ns) (ls:List Addr) (Al:Nat->Prop) (c e l:Nat),vs=[.ref N.p,.int ((e:Nat):Int),.int ((l:Nat):Int)]/\Ba C N H s ls/\Ok s Al/\Lc s/\Ent s Al c e l/\s.n+c < 1000000 /\
 ∀ s' Cj A' r H',Ba C N H' s' Cj->Ok s' A'->Lc s'->Le s Al s' A'->A' r->s'.n<=s.n+c->Bp N H H'->(∀ b∈Cj,b∈ls\/H b=none)->Q (.int ((r:Nat):Int)) H'
theorem NP:Ak ["self","top","level","fresh","waiting","at","node"] ["self","top","level"] (Af B0):=nofun
theorem NQ {f C fL fN bV:Addr}{fd Ld eY NR:FuncData}(F:B' K "copied" "Nodes.copied" B0 f fd)(T:BR K mg C)
  (GL:Av Pr w K mg base Bs 1 fL Ld ["self","node"] (Bh C)) (bL:Binds K Ld ["self","node"] []) (mL:Meth K C "leader" fL)
  (GN:Av Pr w K mg base Bs 1 fN eY ["self","word","inner"] (Ih C)) (bN:Binds K eY ["self","word","inner"] []) (mN:Meth K C "new_node" fN)
  (T5:Av Pr w K mg base Bs 2 bV NR ["self","node"] (Gf C)) (ft:Binds K NR ["self","node"] []) (fu:Meth K C "inner_leaders" bV) :
  Av Pr w K mg base Bs 3 f fd ["self","top","level"] (Hd C):=by
 refine F.okS NP (λvs H Q E h=>?_) (λB7 A outer s0 H vs Q E hr h=>?_)
 ·obtain ⟨N,s,ls,Al,c,e,l,rfl,_⟩:=h;rfl
 ·obtain ⟨N,s,ls,Al,c,e,l,rfl,A0,o0,Rl,⟨xJ,ds,cZ,fw,hE⟩,hn,q⟩:=h;have hb:=BE;have BK:Am 1 _:=hr.mono ⟨⟩;have hu:=Cc hr;have Mj:(["part","fresh"]:List Str).Nodup:=by decide +kernel
  have S1:Bj (CB Bs Pr w K mg base ["self","top","level","fresh","waiting","at","node"] "Nodes.copied" (Af B0) f B7 A outer s0 H E).nox (Cv (valueOf (dZ (inDef B0 3) 0))) [("fresh",s0.heap.objs.size+1)] ["part"] ["fresh"] [3] :=
   ⟨rfl,by decide +kernel,rfl,by decide +kernel,rfl,rfl,rfl,rfl⟩
  refine ⟨_,(Ag (Au (i:=3) NP.nd rfl (.inr rfl) Ee)
   (Ag (Au (i:=4) NP.nd rfl (.inl rfl) (AU (Aa (Ah 1) Ae)))
   (Ag (D2 PassesOwn.never (C5 (Ah 4)) (Ag (Au (i:=5) NP.nd rfl (.inl rfl) (BH (Ah 0) T.cl mL GL BK bL (Aa (Ed PySem.F.plainAttrs_list PySem.F.slot_list_pop PySem.F.type_list_pop Ea (Ah 4)) Ae)))
   (Aj (BY (WO (w_and (B1 OR (BG (r:=DC K) Ay (Ao (Ah 0)) (Ah 5) D1) (Ah 2) (AF _)) (GD (Ei hu (Ah 5) (Ah 3))))) (Ag (DO hu (Ah 3) (Ah 5) (BH (Ah 0) T.cl mN GN BK bN (Aa (BG (r:=DC K) Ay (Ao (Ah 0)) (Ah 5) D1) (Aa (AU Ae) Ae))) rfl)
   (Aj (Ap (EV PySem.F.plainAttrs_list PySem.F.slot_list_extend PySem.F.type_list_extend D7 (Ah 4) (Aa (BG (r:=DC K) Ay (Ao (Ah 0)) (Ah 5) D1) Ae))))) BN))))
   (Ag (PL (HX PassesOwn.never rfl (IG (Ed PySem.F.plainAttrs_dict PySem.F.slot_dict_items PySem.F.type_dict_items GQ (Ah 3))) (Jv rfl (Cw (Br (i:=5) NP.nd rfl (.inl rfl)) (Cw (Br (i:=6) NP.nd rfl (.inl rfl)) GH))) (Aj (Jx (EX (te:=IB (Bt 1) (Bt 0) (Bt 0)) S1 rfl (EW (BH (Ah 0) T.cl fu T5 hr ft (Aa (Ah 5) Ae))) (λC' s0 H0 ex=>Br (i:=0) Mj rfl (.inl rfl)) (λ_ _ _ _=>Fi) (λC' s0 H0 ex=>Mb hu (Ah 1) (Ah 0) (Ah 0) ⟨rfl,rfl,rfl,rfl⟩)) (Jy (Ao (Ah 0)) (Ah 6) set_list)))))
   (Aj (B9 (Mb hu (Ah 3) (BH (Ah 0) T.cl mL GL BK bL (Aa (Ah 1) Ae)) (Ah 1) ⟨rfl,rfl,rfl,rfl⟩))))))),?_⟩
  refine λd JP=>?_;refine ⟨_,rfl,by show 1<=sizeLine;omega,λlw Cz=>?_⟩;have Bz:H lw=none:=by
   by_cases z:lw=d
   ·rw [z,Ad] at Cz;cases Cz
   ·rw [Ac z] at Cz;exact Cz
  have lA:d≠lw:=λz=>by rw [<- z,Ad] at Cz;cases Cz
  obtain ⟨_,L0⟩:=A0.lead;have free:∀ {b:Addr},H b=none->b≠N.p/\b≠N.s/\b≠N.i/\b≠N.l/\b≠N.v/\b≠N.g:=λ{b} h=>⟨Ne.symm (Ab A0.ins h),Ne.symm (Ab A0.sorts h),Ne.symm (Ab A0.inner h),Ne.symm (Ab L0 h),Ne.symm (Ab A0.levels h),Ne.symm (Ab A0.aaj h)⟩;obtain ⟨w1,w2,w3,w4,w5,w6⟩:=free Bz;obtain ⟨d1,d2,d3,d4,d5,d6⟩:=free JP;have EF:∀ {b:Addr},H b=none->b∉ls:=λ{b} h z=>by
   obtain ⟨k,hk,ek⟩:=List.mem_iff_getElem.mp z;have:=A0.chs k b (by rw [List.getElem?_eq_getElem hk,ek]);rw [h] at this;cases this
  have G':Ai H (upd (upd H d (.dK [])) lw (.lst [.int ((e:Nat):Int)])):=Ai.put (Ai.new JP) Bz;refine ⟨λm σ H2=>∃ s1 A1 Gg ks W x5,σ=[some (.ref N.p),some (.int ((e:Nat):Int)),some (.int ((l:Nat):Int)),some (.ref d),some (.ref lw),x5,none]/\m=3 * (ds.length - ks.length)+W.length/\Ba C N H2 s1 Gg/\Cp s Al ds e l s1 A1 ks W/\(∀ j x,ks[j]?=some x->s1.tg (s.n+j)=s.tg x)/\H2 d=some (.dK (Fu s.n ks))/\H2 lw=some (.lst (lsN W))/\W.length<=2 * ks.length+1/\lw∉Gg/\d∉Gg/\Bp N H H2/\∀ b∈Gg,b∈ls\/H b=none,
   ⟨_,s,Al,ls,[],[e],none,rfl,rfl,A0.same G',Cp.start o0,(λj x h=>by cases h),by rw [Ac lA,Ad];rfl,Ad,by simp,EF Bz,EF JP,Bp.of_same G',λb hb=>.inl hb⟩,?_⟩
  rintro m σ H2 ⟨s1,A1,Gg,ks,W,x5,rfl,rfl,A2,cp,fA,hd2,FV,Xs,nw,nd,f2,nb⟩;refine ⟨_,rfl,!(lsN W).isEmpty,.inl ⟨_,AO.of FV,rfl⟩,?_⟩;have Aa9:=cp.few;have n1:s1.n=s.n+ks.length:=cp.n;rcases List.eq_nil_or_concat W with rfl | ⟨W',y,rfl⟩
  ·refine Ck ?_;have hv:∀ p:Nat,∃ v:Nat,(Bu (Fu s.n ks) (Sum.inl ((p:Nat):Int):Key)).getD (.int ((p:Nat):Int))=.int ((v:Nat):Int)/\(p∈ks->∃ j,j < ks.length/\v=s.n+j)/\(p∉ks->v=p):=λp=>by
    rcases IL (ks:=ks) (n:=s.n) (y:=p) with ⟨a,b⟩ | ⟨a,j,b,z⟩
    ·exact ⟨p,by rw [b];rfl,λz=>absurd z a,λ_=>rfl⟩
    ·exact ⟨s.n+j,by rw [z];rfl,λ_=>⟨j,b,rfl⟩,λz=>absurd a z⟩
   obtain ⟨g,hg⟩:=Classical.axiomOfChoice hv;have gA:∀ {y},(y=e\/∃ x∈ks,y∈s.ch x)->y < s.n->A1 (g (s.rp y)):=λ{y} hy yn=>by
    rcases cp.part hE hy with z | z
    ·obtain ⟨j,hj,ej⟩:=(hg (s.rp y)).2.1 z;rw [ej];exact (cp.new j hj).1
    ·have nk:s.rp y∉ks:=λq=>(fw _ (cp.sub _ q)).2.1 ((o0.li y yn).mpr z);rw [(hg (s.rp y)).2.2 nk];exact (cp.le.li _ ((o0.li y yn).mpr z)).1
   refine ⟨_,rfl,.inr (.inr (.inl ⟨rfl,.inl ⟨_,hd2⟩⟩)),d,Fu s.n ks,rfl,rfl,hd2,λvw Vr=>⟨vw,d,Fu s.n ks,rfl,Ad,by rw [Ac (Ab hd2 Vr)];exact hd2,λo=>?_⟩⟩;have bX:Ai H2 (upd H2 vw (FU vw d)):=Ai.new Vr;refine FH (o:=o) (d:=d) (kvs:=Fu s.n ks) (λi σ H3=>∃ s2 Hy x5 x6,σ=[some (.ref N.p),some (.int ((e:Nat):Int)),some (.int ((l:Nat):Int)),some (.ref d),some (.ref lw),x5,x6]/\Ba C N H3 s2 Hy/\Ok s2 A1/\Le s Al s2 A1/\s2.n=s1.n/\s2.rp=s1.rp/\s2.lv=s1.lv/\s2.tg=s1.tg/\s2.k=s1.k/\(∀ j x,j < i->ks[j]?=some x->(s2.ch (s.n+j)).length=(s.ch x).length)/\H3 d=some (.frz o (.dK (Fu s.n ks)))/\d∉Hy/\Bp N H H3/\∀ b∈Hy,b∈ls\/H b=none)
    ⟨s1,Gg,_,_,rfl,(A2.same bX).off d1 d2 d3 d4 d5 d6 nd,cp.ok,cp.le,rfl,rfl,rfl,rfl,rfl,(λj x h=>absurd h (Nat.not_lt_zero _)),Ad,nd,λb u e b1 b2 b3 b4 b5=>by rw [Ac (Ab e JP)];exact bX _ _ (f2 b u e b1 b2 b3 b4 b5),nb⟩ (λi σ H3 _ z=>?_) (λi p σ H3 tT hp z hT=>?_) (fun σ H3 z=>?_)
   ·obtain ⟨_,_,_,_,_,_,_,_,_,_,_,_,_,_,z,_⟩:=z;exact z
   ·obtain ⟨s2,Hy,x5,x6,rfl,A3,o3,Vs,pB,lB,pC,lC,pD,Mn,XC,xK,f3,lD⟩:=z;obtain ⟨x,hx,rfl⟩:=XB hp;have hi:i < ks.length:=(List.getElem?_eq_some_iff.mp hx).1;have xk:x∈ks:=List.mem_of_getElem? hx;have xn:x < s.n:=(fw x (cp.sub x xk)).1;have xM:s2.ch x=s.ch x:=Vs.ch x xn;have XD:Ai H3 (upd H3 tT (.tup [.int ((x:Nat):Int),.int (((s.n+i:Nat):Nat):Int)])):=Ai.new hT;refine ⟨tT,_,rfl,CZ.of Ad,rfl,_,_,rfl,_,_,rfl,rfl,?_⟩;have A4:=A3.same XD;have xN:=XD _ _ XC;have f4:Bp N H _:=f3.trans (Bp.of_same XD);have dT:∀ b,H3 b=none->b≠tT->True:=λ_ _ _=>trivial;refine ⟨_,rfl,N.p,N.dx,_,rfl,A4.ins,rfl,_,rfl,N,s2,Hy,x,rfl,A4,(),λc hc=>o3.ch x () c hc,o3.ar x (),λli H6 A6 F8 h6 Lg=>?_⟩;have dli:d≠li:=Ab xN F8;have XE:H6 d=some (.frz o (.dK (Fu s.n ks))):=(by rw [Lg d d4 dli];exact xN);have ar3:=o3.ar x ();refine ⟨li,rfl,⟨_,AO.of h6⟩,T4 (g:=g) h6 (.inr ⟨o,XE⟩) (by rw [List.length_map];omega) (λp _=>(hg p).1) rfl ?_⟩;refine λlj Ii=>?_;have XF:Ai H6 (upd H6 lj (.lst (lsN (((s2.ch x).map s2.rp).map g)))):=Ai.new Ii;have A7:=A6.same XF;obtain ⟨_,L6⟩:=A6.lead;have e7:(upd H6 lj (.lst (lsN (((s2.ch x).map s2.rp).map g)))) lj=some (.lst (lsN (((s2.ch x).map s2.rp).map g))):=Ad;have A8:=A7.setC (i:=s.n+i) e7 (Ne.symm (Ab A6.sorts Ii)) (Ne.symm (Ab A6.inner Ii)) (Ne.symm (Ab L6 Ii)) (Ne.symm (Ab A6.levels Ii));refine ⟨_,rfl,N.p,C,N.dx,_,_,rfl,A7.ins,T.cl,T.nI,rfl,_,rfl,N.i,_,_,s.n+i,rfl,rfl,A7.inner,Fn (by rw [List.length_map,A7.len];omega),?_⟩;have es:(Hy.map V.ref).set (s.n+i) (V.ref lj)=(Hy.set (s.n+i) lj).map V.ref:=(by rw [List.map_set]);rw [es];obtain ⟨nA,nl,nr⟩:=cp.new i hi;have hcA:∀ c∈((s2.ch x).map s2.rp).map g,A1 c:=λc hc=>by
     obtain ⟨p,Om,rfl⟩:=List.mem_map.mp hc;obtain ⟨y,hy,rfl⟩:=List.mem_map.mp Om;rw [xM] at hy;have yn:=o0.ch x xn y hy;rw [lB,(cp.rpo y yn).1];exact gA (.inr ⟨x,xk,hy⟩) yn
    have o8:=o3.setC (i:=s.n+i) nA (by rw [pC,pD];exact nl) hcA (by rw [List.length_map,List.length_map];exact ar3);refine ⟨_,_,_,_,rfl,A8,o8,Vs.setC (Nat.le_add_right _ _),pB,lB,pC,lC,pD,λj x' hj Ic=>?_,?_,λz=>?_,λb u e b1 b2 b3 b4 b5=>?_,λb hb=>?_⟩
    ·show (if s.n+j=s.n+i then _ else s2.ch (s.n+j)).length=_
     by_cases ej:j=i
     ·subst ej;rw [if_pos rfl];rw [hx] at Ic;cases Ic;rw [List.length_map,List.length_map,xM]
     ·rw [if_neg ()];exact Mn j x' () Ic
    ·rw [Ac d3,Ac (Ab XE Ii)];exact XE
    ·rcases List.mem_or_eq_of_mem_set z with z | z
     ·exact xK z
     ·rw [<- z,XE] at Ii;cases Ii
    ·have h5:=f4 b u e b1 b2 b3 b4 b5;have h6:H6 b=some u:=(by rw [Lg b b4 (Ab h5 F8)];exact h5);rw [Ac b3,Ac (Ab h6 Ii)];exact h6
    ·rcases List.mem_or_eq_of_mem_set hb with z | rfl
     ·exact lD b z
     ·refine .inr (Classical.byContradiction λz=>?_);obtain ⟨u,pE⟩:=Option.ne_none_iff_exists'.mp z;obtain ⟨q1,q2,q3,q4,q5⟩:b≠N.p/\b≠N.s/\b≠N.i/\b≠N.l/\b≠N.v:=⟨Ne.symm (Ab A6.ins Ii),Ne.symm (Ab A6.sorts Ii),Ne.symm (Ab A6.inner Ii),Ne.symm (Ab L6 Ii),Ne.symm (Ab A6.levels Ii)⟩;have h5:=f4 b u pE q1 q2 q3 q4 q5;have h6:H6 b=some u:=(by rw [Lg b q4 (Ab h5 F8)];exact h5);rw [Ii] at h6;cases h6
   ·obtain ⟨s2,Hy,x5,x6,rfl,A3,o3,Vs,pB,lB,pC,lC,pD,Mn,XC,xK,f3,lD⟩:=z;rw [Mm] at Mn;refine .inl ?_;refine ⟨_,rfl,d,rfl,.inl ⟨_,.inr ⟨o,XC⟩⟩,_,rfl,N.p,N.dx,_,rfl,A3.ins,rfl,_,rfl,N,s2,Hy,e,rfl,A3,(),λH4 A4 e4=>?_⟩;refine ⟨_,rfl,_,.inl ⟨_,Sum.inl ((s2.rp e:Nat):Int),.inr ⟨o,by rw [e4 d d4];exact XC⟩,rfl,rfl⟩,?_⟩;have re:s2.rp e=s.rp e:=(by rw [lB];exact (cp.rpo e xJ).1);have n2:s2.n=s.n+ks.length:=pB.trans n1;have art:Lc s2:=by
     refine ⟨λi hi=>?_,λi hi=>?_⟩
     all_goals by_cases h:i < s.n
     ·rw [Vs.tg i h];exact Rl.tg i h
     ·obtain ⟨x,hx⟩:∃ x,ks[i - s.n]?=some x:=⟨_,List.getElem?_eq_getElem ()⟩;have ei:s.n+(i - s.n)=i:=(by omega);have:=fA _ _ hx;rw [ei,<- lC] at this;rw [this];exact Rl.tg x (fw x (cp.sub x (List.mem_of_getElem? hx))).1
     ·rw [Vs.tg i h,Vs.ch i h];exact Rl.ar i h
     ·obtain ⟨x,hx⟩:∃ x,ks[i - s.n]?=some x:=⟨_,List.getElem?_eq_getElem ()⟩;have ei:s.n+(i - s.n)=i:=(by omega);have h1:=fA _ _ hx;have h2:=Mn _ _ () hx;rw [ei,<- lC] at h1;rw [ei] at h2;rw [h1,h2];exact Rl.ar x (fw x (cp.sub x (List.mem_of_getElem? hx))).1
    have f4:Bp N H H4:=λb u e b1 b2 b3 b4 b5=>(by rw [e4 b b4];exact f3 b u e b1 b2 b3 b4 b5);rw [re];rcases IL (ks:=ks) (n:=s.n) (y:=s.rp e) with ⟨ka,kb⟩ | ⟨ka,j,kj,kd⟩
    ·rw [kb];have eA:A1 e:=by
      rcases cp.part hE (.inl rfl) with z | z
      ·exact absurd z ka
      ·exact (cp.le.li e z).1
     exact q s2 Hy A1 e H4 A4 o3 art Vs eA () f4 lD
    ·rw [kd];exact q s2 Hy A1 (s.n+j) H4 A4 o3 art Vs (cp.new j kj).1 () f4 lD
  ·rw [List.concat_eq_append] at *;have yn:y < s.n:=by
    rcases cp.wt y (by simp) with z | ⟨x,hx,z⟩
    ·rw [z];exact xJ
    ·exact o0.ch x (fw x (cp.sub x hx)).1 y z
   have yn1:y < s1.n:=(by omega);obtain ⟨ry,rlv⟩:=cp.rpo y yn;have rn:s.rp y < s.n:=(o0.rp y yn).1;refine Cs (by simp [lsN]) ⟨_,fun σ' H' z=>z,?_⟩;have eW:lsN (W'++[y])=lsN W'++[V.int ((y:Nat):Int)]:=C7 _ _;rw [eW] at FV;refine ⟨_,rfl,N.p,N.dx,_,rfl,A2.ins,rfl,_,rfl,.inl ⟨rfl,_,AO.of FV⟩,lw,_,V.int ((y:Nat):Int),rfl,rfl,FV,by simp,?_⟩;rw [List.dropLast_concat];have A3:Ba C N (upd H2 lw (.lst (lsN W'))) s1 Gg:=A2.off w1 w2 w3 w4 w5 w6 nw;refine ⟨N,_,Gg,y,rfl,A3,yn1,λH4 A4 e4=>?_⟩;have Rk:H4 lw=some (.lst (lsN W')):=(by rw [e4 lw w4,Ad]);have T6:H4 d=some (.dK (Fu s.n ks)):=(by rw [e4 d d4,Ac lA];exact hd2);have f4:Bp N H H4:=λb o e b1 b2 b3 b4 b5=>(by rw [e4 b b4,Ac (Ab e Bz)];exact f2 b o e b1 b2 b3 b4 b5);have lW:(W'++[y]).length=W'.length+1:=(by simp);rw [lW] at Xs;have lvy:s1.lv (s1.rp y)=s.lv (s.rp y):=(by rw [ry];exact (cp.rpo _ rn).2);have fB:s1.rp y < s1.n:=(by rw [ry];omega);refine ⟨_,rfl,N.p,C,N.dx,_,_,rfl,A4.ins,T.cl,T.nV,rfl,_,rfl,N.v,_,_,_,rfl,rfl,AO.of A4.levels,Ar (Ci fB),_,rfl,?_⟩;refine ⟨_,_,rfl,rfl,_,rfl,?_⟩;rw [lvy];by_cases c:l < s.lv (s.rp y)
   ·refine Cs (by simp;omega) ?_;have Qk:DE H4 d (.int ((s1.rp y:Nat):Int)) (Bu (Fu s.n ks) (Sum.inl ((s1.rp y:Nat):Int):Key)):=.inl ⟨Fu s.n ks,Sum.inl ((s1.rp y:Nat):Int),.inl T6,rfl,rfl⟩;refine ⟨_,rfl,_,rfl,d,_,rfl,Qk,_,rfl,?_⟩;rcases IL (ks:=ks) (n:=s.n) (y:=s1.rp y) with ⟨ka,kb⟩ | ⟨ka,j,kb,kd⟩
    ·rw [kb];refine Cm ?_;rw [ry] at ka;refine ⟨_,rfl,N.p,N.dx,_,rfl,A4.ins,rfl,_,rfl,N.p,C,N.dx,_,_,rfl,A4.ins,T.cl,T.nS,rfl,_,rfl,N.s,_,_,_,rfl,rfl,AO.of A4.sorts,Ar (CI fB),by simp,λli F8=>?_⟩;obtain ⟨_,L4⟩:=A4.lead;have Vt:Ai H4 (upd H4 li (.lst [])):=Ai.new F8;refine ⟨N,s1,Gg,s1.tg (s1.rp y),[],li,rfl,A4.same Vt,Ad,Ne.symm (Ab A4.sorts F8),Ne.symm (Ab A4.inner F8),Ne.symm (Ab L4 F8),Ne.symm (Ab A4.levels F8),(),λH6 A6 Lg=>?_⟩;have fD:H6 d=some (.dK (Fu s.n ks)):=(by rw [Lg d d2 d3 d4 d5];exact Vt _ _ T6);have fE:H6 lw=some (.lst (lsN W')):=(by rw [Lg lw w2 w3 w4 w5];exact Vt _ _ Rk);refine ⟨_,rfl,_,rfl,d,_,rfl,.inl ⟨Fu s.n ks,Sum.inl ((s1.rp y:Nat):Int),fD,rfl,by rw [Mm];omega,rfl⟩,?_⟩;have ep:putK (Fu s.n ks) (Sum.inl ((s1.rp y:Nat):Int):Key) (V.int ((s1.n:Nat):Int))=Fu s.n (ks++[s.rp y]):=by
      rw [Ec _ kb,T3,ry,n1]
     rw [ep];have xO:d∉Gg++[li]:=λz=>by
      rcases List.mem_append.mp z with z | z
      ·exact nd z
      ·rw [<- List.mem_singleton.mp z,T6] at F8;cases F8
     have xP:lw∉Gg++[li]:=λz=>by
      rcases List.mem_append.mp z with z | z
      ·exact nw z
      ·rw [<- List.mem_singleton.mp z,Rk] at F8;cases F8
     have A7:Ba C N (upd H6 d (.dK (Fu s.n (ks++[s.rp y])))) _ _:=A6.off d1 d2 d3 d4 d5 d6 xO;have pF:(upd H6 d (.dK (Fu s.n (ks++[s.rp y])))) lw=some (.lst (lsN W')):=(by rw [Ac (Ne.symm lA)];exact fE);have xQ:(upd H6 d (.dK (Fu s.n (ks++[s.rp y])))) d=some (.dK (Fu s.n (ks++[s.rp y]))):=Ad;have f7:Bp N H (upd H6 d (.dK (Fu s.n (ks++[s.rp y])))):=λb u e b1 b2 b3 b4 b5=>by
      rw [Ac (Ab e JP),Lg b b2 b3 b4 b5];exact Vt _ _ (f4 b u e b1 b2 b3 b4 b5)
     generalize upd H6 d (.dK (Fu s.n (ks++[s.rp y])))=H7 at A7 pF xQ f7 ⊢;obtain ⟨l1,Dr⟩:∃ l1,Gg[s1.rp y]?=some l1:=⟨_,List.getElem?_eq_getElem (by rw [A4.len];exact fB)⟩;have fH:(Gg++[li])[s1.rp y]?=some l1:=(by rw [List.getElem?_append_left (by rw [A4.len];exact fB)];exact Dr);have ech:(s1.add (s1.tg (s1.rp y)) []).ch (s1.rp y)=s.ch (s.rp y):=by
      show (if s1.rp y=s1.n then [] else s1.ch (s1.rp y))=_
      rw [if_neg (Nat.ne_of_lt fB),ry];exact cp.le.ch _ rn
     have Hn:=A7.chs _ _ fH;rw [ech] at Hn;have ar:=o0.ar _ rn;have cg:=cp.go (t:=s1.tg (s1.rp y)) o0 hE c ka;have few:=cg.few;rw [List.length_append,List.length_singleton] at few;refine ⟨_,rfl,.inl ⟨rfl,_,AO.of pF⟩,_,rfl,N.p,C,N.dx,_,_,rfl,A7.ins,T.cl,T.nI,rfl,_,rfl,N.i,_,_,_,rfl,rfl,AO.of A7.inner,Ar (v:=V.ref l1) (by rw [List.getElem?_map,fH];rfl),lw,l1,_,_,rfl,rfl,pF,Hn,by simp only [lsN,List.length_map];omega,?_⟩;rw [<- C7];refine ⟨_,?_,_,_,_,ks++[s.rp y],W'++s.ch (s.rp y),_,rfl,rfl,A7.off w1 w2 w3 w4 w5 w6 xP,cg,λj x hj=>?_,by rw [Ac lA];exact xQ,Ad,?_,xP,xO,(λb u e b1 b2 b3 b4 b5=>by rw [Ac (Ab e Bz)];exact f7 b u e b1 b2 b3 b4 b5),λb hb=>?_⟩
     ·rw [lW,List.length_append,List.length_append,List.length_singleton];omega
     ·show (if s.n+j=s1.n then s1.tg (s1.rp y) else s1.tg (s.n+j))=s.tg x
      by_cases h:j < ks.length
      ·rw [List.getElem?_append_left h] at hj;rw [if_neg ()];exact fA j x hj
      ·rw [List.getElem?_append_right ()] at hj;have ej:j=ks.length:=by
        have:=(List.getElem?_eq_some_iff.mp hj).1;simp at this;omega
       subst ej;rw [Nat.sub_self] at hj;cases hj;rw [if_pos n1.symm,ry];exact cp.le.tg _ rn
     ·rw [List.length_append,List.length_append,List.length_singleton];omega
     ·rcases List.mem_append.mp hb with z | z
      ·exact nb b z
      ·rw [List.mem_singleton.mp z];refine .inr (Classical.byContradiction λz=>?_);obtain ⟨u,pE⟩:=Option.ne_none_iff_exists'.mp z;have:=f4 li u pE (Ne.symm (Ab A4.ins F8)) (Ne.symm (Ab A4.sorts F8)) (Ne.symm (Ab A4.inner F8)) (Ne.symm (Ab L4 F8)) (Ne.symm (Ab A4.levels F8));rw [F8] at this;cases this
    ·rw [kd];refine Ck ?_;rw [ry] at ka;exact ⟨_,by rw [lW];omega,s1,A1,Gg,ks,W',_,rfl,rfl,A4,cp.skip (.inr ka),fA,T6,Rk,(),nw,nd,f4,nb⟩
   ·refine CD (by simp;omega) ?_;refine CD (by simp) ?_;exact ⟨_,by rw [lW];omega,s1,A1,Gg,ks,W',_,rfl,rfl,A4,cp.skip (.inl ()),fA,T6,Rk,(),nw,nd,f4,nb⟩
end
end K
namespace PySem
open PySem.Spec PyProof.Rows
section
variable {prog:Program}{w:World}{A:Around}{R:Result->Shared->Prop}{I:Addr}{fp wr:List Addr}{n:Nat}{P:Nat->Value->Prop}{St:Nat->Heap->Prop}
theorem NS {S:Addr}{x:Str}{d:Value}{bt:Nat->Nat->Bool}(W:Walks prog w A.in1 I fp wr n P St)(hc:CmpOf prog w A.in1 .Gt P bt)(hf:S∉fp)(k:Nat):∀ (j:Nat) (s:Shared) (old:Array Value) (c:Nat),n - j=k->j<=n->St j s.heap ->
  (j=0/\old=#[]\/∃ i v,j=i+1/\P (argBest bt i) v/\old=#[v,v])->s.heap.get? S=some ⟨.type "list",none,.seq old c,#[]⟩ ->
  (∀ v h tk,(n=0/\v=d\/∃ i,n=i+1/\P (argBest bt i) v)->(∀ b o,b∉wr->b≠S->s.heap.get? b=some o->h.get? b=some o)->R (.ok (.ret v)) { s with heap:=h,toks:=tk }) ->
  codeAny (model prog w) A (.builtin "max.loop" ⟨[.ref I,.none,.ref S],[(x,d)]⟩) R s:=by
 have nm:(toString "max"++toString ".loop":String)="max.loop":=by decide
 have sw:S∉wr:=λz=>hf (W.sub _ z)
 induction k with
 | zero =>
  intro j s old c hk hj st ho hS q;obtain rfl:j=n:=by clear ho q;omega
  refine codeAny_builtin F.entry_max_loop ?_;rw [Around.under_plainId F.plain_max_loop _];refine wpAny_bind (wpAny_seqItems hS rfl (wpAny_bind (wpAny_tryCatch (W.done s _ _ st λh tk kp=>?_))));have KU:=kp S _ sw hS;rcases ho with ⟨rfl,rfl⟩ | ⟨i,v,rfl,pv,rfl⟩
  ·refine wpAny_bind (wpAny_rule ?_);exact wpAny_pure (q d h tk (.inl ⟨rfl,rfl⟩) λb o hb _ e=>kp b o hb e)
  ·refine wpAny_bind (wpAny_updateSeq KU rfl (wpAny_bind (wpAny_letGo (wpAny_pure (q v _ tk (.inr ⟨i,rfl,pv⟩) λb o hb ne e=>?_)))));exact (Heap.get?_update_other _ _ (Ne.symm ne)).trans (kp b o hb e)
 | succ k ih =>
  intro j s old c hk hj st ho hS q;have b1:n - (j+1)=k:=by clear ho q;omega
  have b2:j+1<=n:=by clear ho q;omega
  refine codeAny_builtin F.entry_max_loop ?_;rw [Around.under_plainId F.plain_max_loop _];refine wpAny_bind (wpAny_seqItems hS rfl (wpAny_bind (wpAny_tryCatch (W.item j s _ _ b2 st λv h tk pv Fv kp=>?_))));have KU:=kp S _ sw hS;have on:∀ {s':Shared} {o' c'},s'.heap.get? S=some ⟨.type "list",none,.seq o' c',#[]⟩->St (j+1) s'.heap->(∃ v,P (argBest bt j) v/\o'=#[v,v])->(∀ b o,b∉wr->b≠S->s.heap.get? b=some o->s'.heap.get? b=some o) ->
    (s'.gens=s.gens/\s'.drawn=s.drawn/\s'.os=s.os)->codeAny (model prog w) A (.builtin "max.loop" ⟨[.ref I,.none,.ref S],[(x,d)]⟩) R s':=λ{s' o' c'} h1 h2 h3 h4 h5=>by
   obtain ⟨v',pv',rfl⟩:=h3;obtain ⟨hp,gs,dr,Rn,os⟩:=s';obtain ⟨rfl,rfl,rfl⟩:=h5;exact ih (j+1) _ _ _ b1 b2 h2 (.inr ⟨j,v',rfl,pv',rfl⟩) h1 λu dD pG hu pH=>q u dD pG hu λb o hb ne e=>pH b o hb ne (h4 b o hb ne e)
  rcases ho with ⟨rfl,rfl⟩ | ⟨i,vb,rfl,pb,rfl⟩
  ·show wpAny _ A.in1 (updateSeq S (λ_=>#[v,v]) >>= _) _ _ _;refine wpAny_bind (wpAny_updateSeq KU rfl ?_);rw [nm];refine wpAny_pure ⟨plainId_quiet F.plain_max_loop _,on (Heap.get?_update_self _ KU rfl) (W.frame _ _ _ Fv λb hb o e=>?_) ⟨v,pv,rfl⟩ (λb o hb ne e=>?_) ⟨rfl,rfl,rfl⟩⟩
   ·exact (Heap.get?_update_other _ _ (λz:S=b=>hf (by rw [z];exact hb))).trans e
   ·exact (Heap.get?_update_other _ _ (Ne.symm ne)).trans (kp b o hb e)
  ·show wpAny _ A.in1 (tryCatch (holding [v,v] (richCompare .Gt v vb >>= _)) _ >>= _) _ _ _;refine wpAny_bind (wpAny_tryCatch (wpAny_holding (wpAny_bind (hc (i+1) (argBest bt i) v vb _ _ _ pv pb (wpAny_bind (wpAny_holding (wpAny_truthy_bool (wpAny_bind (wpAny_letGo (wpAny_pure ?_))))))))));cases hb:bt (i+1) (argBest bt i) with
   | true =>
    rw [if_pos rfl];refine wpAny_bind (wpAny_updateSeq KU rfl (wpAny_bind (wpAny_letGo ?_)));rw [nm];refine wpAny_pure ⟨plainId_quiet F.plain_max_loop _,on (Heap.get?_update_self _ KU rfl) (W.frame _ _ _ Fv λb hb o e=>?_) ⟨v,by simp only [argBest,hb,if_true];exact pv,rfl⟩ (λb o hb ne e=>?_) ⟨rfl,rfl,rfl⟩⟩
    ·exact (Heap.get?_update_other _ _ (λz:S=b=>hf (by rw [z];exact hb))).trans e
    ·exact (Heap.get?_update_other _ _ (Ne.symm ne)).trans (kp b o hb e)
   | false =>
    rw [if_neg ⟨⟩];refine wpAny_bind (wpAny_letGo ?_);rw [nm];exact wpAny_pure ⟨plainId_quiet F.plain_max_loop _,on KU Fv ⟨vb,by simp only [argBest,hb,Bool.false_eq_true,if_false];exact pb,rfl⟩ (λb o hb ne e=>kp b o hb e) ⟨rfl,rfl,rfl⟩⟩
end
section
variable {prog:Program}{w:World}{A:Around}{E:Value->Shared->Prop}{s:Shared}
theorem IP {id:String}{b:Builtin}{args:List Value}{kw:List (Str × Value)}{Q:Value->Shared->Prop}(hk:builtinKind id=none)(hp:plainId id=true)(hb:entryFor table id=some b)(ha:argsOk id ⟨args,kw⟩)
  (h:wpAny (model prog w) A.in1 (b ⟨args,kw⟩) (λfin s'=>match fin with
   | .done f=>(match (Except.ok f:Result) with | .ok (.ret v)=>Q v s' | .ok _=>False | .error e=>E e s')
   | .again c=>c.quiet=true/\codeAny (model prog w) A c (λr s'=>match r with | .ok (.ret v)=>Q v s' | .ok _=>False | .error e=>E e s') s') E s):wpAny (model prog w) A (call (.builtin id) args kw) Q E s:=by
 refine wpAny_call (codeAny_call_builtin hp hb ?_);simp only [checkBuiltinCall,hk];cases z:Manifest.signature? id with
 | none=>exact wpAny_pure h
 | some g =>
  simp only [argsOk,z] at ha;have e:Bind.checkArgs id g ⟨args,kw⟩=pure Unit.unit:=ha;show wpAny _ A.in1 (Bind.checkArgs id g ⟨args,kw⟩) _ _ s;rw [e];exact wpAny_pure h
theorem NT (a d:Value):argsOk "max" ⟨[a],[("default",d)]⟩:=by unfold argsOk;kernel_rfl
theorem NU {l:Addr}{its:Array Value}{ns:Nat->Int}{d:Value}{Q:Value->Shared->Prop}(hh:A.handled=none)(hl:s.heap.IsList l its)(hi:∀ (i:Nat) (v:Value),its[i]?=some v->∃ t,v=Value.int (ns i) t)
  (q:∀ (v:Value) (h:Heap) (tk:Nat),(its.size=0/\v=d\/∃ j t,j < its.size/\v=Value.int (ns j) t/\∀ i,i < its.size->ns i<=ns j)->(∀ b o,s.heap.get? b=some o->h.get? b=some o)->Q v { s with heap:=h,toks:=tk }) :
  wpAny (model prog w) A (call (.builtin "max") [.ref l] [("default",d)]) Q E s:=by
 have nm:(toString "max"++toString ".loop":String)="max.loop":=by decide
 refine IP F.kind_max F.plain_max F.entry_max (NT _ _) ?_;refine wpAny_bind (wpAny_of_eq (show Builtin.Builtins.bindParams "max" ["key","default"] 0 ⟨[],[("default",d)]⟩=pure [none,some d] from rfl) ?_);refine wpAny_bind (wpAny_pure (wpAny_bind (wpAny_pyIter_list hl (wpAny_bind (wpAny_newObj_type ?_)))));rw [nm];obtain ⟨o,e,h1,h2⟩:=id hl;have DL:=Heap.lt_size e;have W:=Walks.list (prog:=prog) (w:=w) (A:=A.in1) hh s.heap.objs.size l (Nat.ne_of_lt DL) its;have hs:∀ o:Obj,(s.heap.push o).objs.size=s.heap.objs.size+1:=λo=>by simp [Heap.push]
 refine wpAny_pure ⟨plainId_quiet F.plain_max_loop _,NS (x:="default") (d:=d) W (CmpOf.ints_gt ns hi) (λz=>?_) _ 0 _ #[] _ rfl (Nat.zero_le _) ⟨⟨_,Heap.get?_push_of_some _ (Heap.get?_push_size _ rfl),rfl,rfl⟩,⟨_,Heap.get?_push_of_some _ (Heap.get?_push_of_some _ e),h1,h2⟩⟩ (.inl ⟨rfl,rfl⟩) (Heap.get?_push_size _ rfl) λv h tk hv kp=>?_⟩
 ·rcases List.mem_cons.mp z with z | z
  ·have z:(s.heap.push _).objs.size=s.heap.objs.size:=z;rw [hs] at z;exact Nat.succ_ne_self _ z
  ·have z:(s.heap.push _).objs.size=l:=List.mem_singleton.mp z;rw [hs] at z;rw [<- z] at DL;exact absurd DL (Nat.not_lt.mpr (Nat.le_succ _))
 ·refine q v h tk ?_ λb ob eb=>kp b ob (λz=>?_) (λz=>?_) (Heap.get?_push_of_some _ (Heap.get?_push_of_some _ eb))
  ·rcases hv with z | ⟨i,ei,pv⟩
   ·exact .inl z
   ·obtain ⟨t,rfl⟩:=hi _ _ pv;obtain ⟨g1,g2⟩:=argBest_gt ns i;exact .inr ⟨_,t,(),rfl,λi' h'=>g2 i' ()⟩
  ·have:=Heap.lt_size eb;rw [List.mem_singleton.mp z] at this;exact Nat.lt_irrefl _ this
  ·have h0:=Heap.lt_size eb;have z:b=(s.heap.push _).objs.size:=z;rw [hs] at z;rw [z] at h0;exact absurd h0 (Nat.not_lt.mpr (Nat.le_succ _))
end
end PySem
namespace L2
open PySem PySem.Spec PyProof.Rows
section
variable {X:Cx}
noncomputable def Vu (tl:TE)(d:Int):TE:=fun σ H Q=>tl σ H λx H1=>∃ (l:Addr) (is:List Int),x=.ref l/\H1 l=some (.lst (is.map V.int))/\∀ M,(is=[]/\M=d\/M∈is/\∀ a∈is,a<=M)->Q (.int M) H1
theorem T7 {x:Str}{p pos:Pos}{e:Expr}{te:TE}{fJ:List Keyword}{d:Int}(hc:X.calm=true)(hg:Gl X x)(hm:X.mg x=none)(hv:bootBuiltins x=some (.builtin "max"))(ha:PE X e te)(hn:x≠"__name__":=by decide)(Cr:(x==("__debug__":Str))=false:=by decide)
  (he:backTo pos (starEach [e] X.env)=[(false,eval e X.env)]:=by rfl)
  (hk:∃ dp kp,backToKw pos (keywordEach fJ X.env)=[(some ("default":Str),do let v <- eval (.Constant (.int d) dp kp) X.env;standAt pos;pure v)]):PE X (.Call (.Name x p) [e] fJ pos) (Vu te d):=by
 intro pins s σ H Q I h;refine wpAny_Call_Name_kw (Cq I hg hm hv ?_ hn Cr);obtain ⟨dp,kp,hk⟩:=hk;rw [he,hk];refine PyProof.Rows.callWith_builtin_kwB rfl rfl (PyProof.Rows.evalArgs_kwB rfl (Calls.spliced_cons (AY (ha pins s σ H _ I h) λv s1 hP=>Calls.spliced_nil ?_)));obtain ⟨y,H1,I1,r1,l,is,rfl,hl,q⟩:=hP;cases r1;refine PyProof.Rows.evalAll_cons (wpAny_bind (AY (CP (j:=dp) (pos:=kp) pins s1 σ H1 (λv H'=>v=.int d/\H'=H1) I1 ⟨rfl,rfl⟩) λu s2 hP=>wpAny_bind (wpAny_standAt (wpAny_pure (PyProof.Rows.evalAll_nil ?_)))));obtain ⟨z,H2,I2,r2,rfl,rfl⟩:=hP;obtain ⟨tk,rfl⟩:=r2;obtain ⟨its,rv,⟨oL,nL,e1,e2,e3,e4⟩,_⟩:=I2.list (AO.of hl);have len:=rv.length;rw [List.length_map] at len;have at':∀ (i:Nat) (v:Value),its.toArray[i]?=some v->∃ t,v=Value.int (is.getD i 0) t:=λi v hv=>by
  have j':its[i]?=some v:=by simpa using hv
  have hi:i < its.length:=(List.getElem?_eq_some_iff.mp j').1;have hb:(is.map V.int)[i]?=some (V.int (is[i]'())):=by rw [List.getElem?_map,List.getElem?_eq_getElem ()];rfl
  obtain ⟨u,hu,ru⟩:=rv.get hb;rw [j'] at hu;cases hu;obtain ⟨t,rfl⟩:=ru;exact ⟨t,by simp [List.getD,List.getElem?_eq_getElem (show i < is.length by omega)]⟩
 refine NU (ns:=λi=>is.getD i 0) (I2.ok.hd hc) ⟨oL,e1,e2,nL,e4⟩ at' λv h Rn hv kp=>?_;have sz:its.toArray.size=is.length:=by simp;omega
 rw [sz] at hv;have gd:∀ i (hi:i < is.length),is.getD i 0=is[i]:=λi hi=>by simp [List.getD,List.getElem?_eq_getElem hi]
 rcases hv with ⟨z,rfl⟩ | ⟨j,t,hj,rfl,Kx⟩
 ·exact ⟨.int d,_,I2.kept kp,⟨_,rfl⟩,q d (.inl ⟨List.eq_nil_of_length_eq_zero z,rfl⟩)⟩
 ·refine ⟨.int (is.getD j 0),_,I2.kept kp,⟨_,rfl⟩,q _ (.inr ⟨by rw [gd j hj];exact List.getElem_mem _,λa ha=>?_⟩)⟩;obtain ⟨i,hi,rfl⟩:=List.mem_iff_getElem.mp ha;have:=Kx i hi;rw [gd i hi] at this;exact this
theorem XG {x:Str}{p pos:Pos}{e:Expr}{te:TE}{fJ:List Keyword}{d:Int}(hc:X.calm=true)(hg:Gl X x)(hm:X.mg x=none)(hv:bootBuiltins x=some (.builtin "max"))(ha:SE X e te)
  (hk:∃ dp kp,backToKw pos (keywordEach fJ X.env)=[(some ("default":Str),do let v <- eval (.Constant (.int d) dp kp) X.env;standAt pos;pure v)]) (he:backTo pos (starEach [e] X.env)=[(false,eval e X.env)]:=by rfl) (hn:x≠"__name__":=by decide) (Cr:(x==("__debug__":Str))=false:=by decide):SE X (.Call (.Name x p) [e] fJ pos) (Vu te d):=⟨T7 hc hg hm hv ha.out hn Cr he hk⟩
end
end L2
namespace L2
open PySem
noncomputable def XH:Expr:=.Constant .none 0 ⟨0,0,0,0⟩
noncomputable def Mp:Expr->Expr
 | .Call _ es _ _=>es.getD 0 XH
 | _=>XH
end L2
namespace KN
open KM
structure Bk (s:Ns)(A:Nat->Prop)(lv:Nat->Nat):Prop where
 le:∀ x,lv x<=s.lv x
 fr:∀ x,¬ A x->lv x=s.lv x
 mo:∀ x,A x->s.rp x=x->∀ c∈s.ch x,lv (s.rp c)<=lv x
theorem Bk.start {s:Ns}{A:Nat->Prop}(o:Ok s A):Bk s A s.lv:=⟨λ_=>Nat.le_refl _,λ_ _=>rfl,o.mo⟩
theorem Bk.put {s:Ns}{A:Nat->Prop}{lv:Nat->Nat}{a M:Nat}(b:Bk s A lv)(ha:A a)(hr:s.rp a=a)(hM:(s.ch a=[]/\M=0)\/((∃ c∈s.ch a,M=lv (s.rp c))/\∀ c∈s.ch a,lv (s.rp c)<=M)):Bk s A (CG lv a M):=by
 have low:M<=lv a:=by
  rcases hM with ⟨_,rfl⟩ | ⟨⟨c,hc,rfl⟩,_⟩
  ·exact Nat.zero_le _
  ·exact b.mo a ha hr c hc
 have all:∀ c∈s.ch a,lv (s.rp c)<=M:=by
  rcases hM with ⟨e,_⟩ | ⟨_,h⟩
  ·intro c hc;rw [e] at hc;cases hc
  ·exact h
 have two:∀ x,CG lv a M x<=lv x:=λx=>by
  by_cases e:x=a
  ·rw [e,Bm];exact low
  ·rw [AQ e];exact Nat.le_refl _
 refine ⟨λx=>Nat.le_trans (two x) (b.le x),λx hx=>?_,λx hx ex c hc=>?_⟩
 ·rw [AQ (λe=>hx (by rw [e];exact ha))];exact b.fr x hx
 ·by_cases e:x=a
  ·subst e;rw [Bm];by_cases ec:s.rp c=x
   ·rw [ec,Bm];exact Nat.le_refl _
   ·rw [AQ ec];exact all c hc
  ·rw [AQ e];exact Nat.le_trans (two _) (b.mo x hx ex c hc)
theorem Bk.down {s:Ns}{A:Nat->Prop}{lv:Nat->Nat}{k:Nat}(b:Bk s A lv)(h:s.k=k+1):Down s A { s with lv:=lv,k:=k }:=⟨rfl,h,rfl,rfl,rfl,b.fr,b.le,b.mo⟩
theorem nodup_range {n:Nat}{l:List Nat}(h:l.Nodup)(b:∀ x∈l,x < n):l.length<=n:=by
 have:=JK h (m:=List.range n) λx hx=>List.mem_range.mpr (b x hx);simpa using this
end KN
namespace K
open PySem L2 KM KS KN
noncomputable def T8 (s:Stmt)(j:Nat):Stmt:=match s with
 | .While _ b _ _=>b.getD j DQ
 | _=>DQ
noncomputable def fK (n:Nat):Stmt->Stmt
 | .If _ b _ _=>b.getD n DQ
 | _=>DQ
noncomputable def pI (n:Nat):Stmt->Stmt
 | .If _ _ b _=>b.getD n DQ
 | _=>DQ
noncomputable def pJ:Stmt->Expr
 | .Expr e _=>e
 | _=>XH
section
variable {Pr:Program}{w:World}{K:W.Frag}{mg:Str->Option Value}{base:Heap}
theorem T9 {C:Addr}{N:NA}{s:Ns}{ls:List Addr}{H:Hp}{l1:Addr}{cs:List Nat}{σ:St}{Fin:List V->Hp->Prop}(T:BR K mg C)(A:Ba C N H s ls)(hl:H l1=some (.lst (lsN cs)))(hc:∀ c∈cs,c < s.n)(hlen:cs.length < 10000)
  (s0:σ=[none,some (.ref N.p)]) (fin:Fin (lsN (cs.map s.lv)) H):Dq (Rf K l1) H σ (CA 0) Hu (Kj (DC K) (Km K (Bt 1) "levels") (Bt 0)) Fin:=by
 have hb:=BE;subst s0;refine D8 (K:=K) (a:=l1) (xs:=lsN cs) (λk ys H3=>ys=lsN ((cs.take k).map s.lv)/\H3=H) ⟨by simp [lsN],rfl⟩ (λk ys H3 z=>?_) (by simp [lsN];omega) (λk ys H3 z=>?_) (λk c' ys H3 Cn z=>?_)
  (λx σ H Q Q' h z=>h _ _ z) (fun σ H Q Q' h z=>h _ _ z) (fun σ H Q Q' h z=>?_) (λys H3 z=>?_)
 ·rw [z.2];exact AO.of hl
 ·rw [z.1];simp [lsN];omega
 ·obtain ⟨e,rfl⟩:=z;unfold lsN at Cn;rw [List.getElem?_map] at Cn;cases ec:cs[k]? with
  | none=>rw [ec] at Cn;cases Cn
  | some c =>
   rw [ec] at Cn;cases Cn;refine ⟨Ext.set rfl,Eh ?_⟩;refine ⟨_,rfl,N.p,C,N.dx,_,_,rfl,A.ins,T.cl,T.nV,rfl,_,rfl,N.v,_,_,_,rfl,rfl,AO.of A.levels,Ar (Ci (hc c (List.mem_of_getElem? ec))),?_,rfl⟩;rw [e,List.take_add_one,ec,List.map_append,C7];rfl
 ·obtain ⟨v1,e1,p1,C1,p8,pe,u1,e2,i1,c1,n1,k1,v2,e3,l2,xs2,i2,w2,e4,e5,sq,at',q⟩:=z;exact ⟨v1,e1,p1,C1,p8,pe,u1,e2,i1,c1,n1,k1,v2,e3,l2,xs2,i2,w2,e4,e5,sq,at',h _ _ q⟩
 ·obtain ⟨e,rfl⟩:=z;have el:(lsN cs).length=cs.length:=by simp [lsN]
  rw [el,List.take_length] at e;rw [e];exact fin
abbrev DW (H:Hp):List (Nat × Bool)->List V->Prop:=Paired λq v=>∃ t,v=.ref t/\H t=some (.tup [.int ((q.1:Nat):Int),.bl q.2])
theorem DW.mono {H H':Hp}(s:TSub H H'){ps:List (Nat × Bool)}{vs:List V}(h:DW H ps vs):DW H' ps vs:=Paired.aaz h λ_ _ z=>by
 obtain ⟨t,e,z⟩:=z;exact ⟨t,e,s _ _ z⟩
theorem Ql {H:Hp}{l1:Addr}{cs:List Nat}{σ:St}{Fin:List V->Hp->Prop}(hl:H l1=some (.lst (lsN cs)))(hlen:cs.length < 10000)
  (s0:σ=[none]) (fin:∀ ys H',Ai H H'->DW H' (cs.map λc=>(c,false)) ys->Fin ys H'):Dq (Rf K l1) H σ (CA 0) Hu (MV (Cb (Bt 0) (Cb (tC (.bl false)) Dp))) Fin:=by
 have hb:=BE;subst s0;refine D8 (K:=K) (a:=l1) (xs:=lsN cs) (λk ys H3=>Ai H H3/\DW H3 ((cs.take k).map λc=>(c,false)) ys) ⟨Ai.refl _,.nil⟩ (λk ys H3 z=>?_) (by simp [lsN];omega) (λk ys H3 z=>?_) (λk c' ys H3 Cn z=>?_)
  (λx σ H Q Q' h z=>h _ _ z) (fun σ H Q Q' h z=>h _ _ z) (fun σ H Q Q' h z=>?_) (λys H3 z=>?_)
 ·exact AO.of (z.1 _ _ hl)
 ·have:=Paired.len z.2;rw [List.length_map,List.length_take] at this;omega
 ·obtain ⟨sm,pr⟩:=z;unfold lsN at Cn;rw [List.getElem?_map] at Cn;cases ec:cs[k]? with
  | none=>rw [ec] at Cn;cases Cn
  | some c =>
   rw [ec] at Cn;cases Cn;refine ⟨Ext.set rfl,Eh ?_⟩;refine ⟨_,rfl,by show 2<=sizeLine;omega,λt ht=>⟨sm.trans (Ai.new ht),?_⟩⟩;rw [List.take_add_one,ec,List.map_append];exact Paired.app (DW.mono (TSub.of_same (Ai.new ht)) pr) (.cons ⟨t,rfl,Ad⟩ .nil)
 ·obtain ⟨v1,e1,hz,k⟩:=z;exact ⟨v1,e1,hz,λt ht=>h _ _ (k t ht)⟩
 ·have el:(lsN cs).length=cs.length:=by simp [lsN]
  rw [el,List.take_length] at z;exact fin ys H3 z.1 z.2
noncomputable def E5 (ks:List Nat):List (Key × V):=ks.map λy=>(Sum.inl ((y:Nat):Int),.bl true)
theorem Mq {ks:List Nat}{y:Nat}:(y∉ks/\Bu (E5 ks) (Sum.inl ((y:Nat):Int):Key)=none)\/(y∈ks/\Bu (E5 ks) (Sum.inl ((y:Nat):Int):Key)=some (.bl true)):=by
 induction ks with
 | nil=>exact .inl ⟨by simp,rfl⟩
 | cons x r ih =>
  by_cases e:x=y
  ·subst e;exact .inr ⟨.head _,Bv rfl⟩
  ·have h:¬ (Sum.inl ((x:Nat):Int):Key)=Sum.inl ((y:Nat):Int):=λz=>e (by have:=Sum.inl.inj z;omega);rcases ih with ⟨a,b⟩ | ⟨a,b⟩
   ·exact .inl ⟨by simp only [List.mem_cons,not_or];exact ⟨λz=>e z.symm,a⟩,(B8 h).trans b⟩
   ·exact .inr ⟨.tail _ a,(B8 h).trans b⟩
noncomputable def Qm (C:Addr):Sp:=λvs H Q _=>∃ (N:NA) (s:Ns) (ls:List Addr) (Al:Nat->Prop) (x:Nat),vs=[.ref N.p,.int ((x:Nat):Int)]/\Ba C N H s ls/\Ok s Al/\Lc s/\Al x/\0 < s.k/\s.n < 1000000 /\
 ∀ s' H',Ba C N H' s' ls->Down s Al s'->Bp N H H'->Q .non H'
theorem NV:Ak ["self","top","seen","waiting","entry","at","inner"] ["self","top"] (Af AA):=nofun
theorem Ta {f C fL bV:Addr}{fd Ld NR:FuncData}(F:B' K "come_back" "Nodes.come_back" AA f fd)(T:BR K mg C)(fO:mg "max"=none)
  (GL:Av Pr w K mg base Bs 1 fL Ld ["self","node"] (Bh C)) (bL:Binds K Ld ["self","node"] []) (mL:Meth K C "leader" fL)
  (T5:Av Pr w K mg base Bs 2 bV NR ["self","node"] (Gf C)) (ft:Binds K NR ["self","node"] []) (fu:Meth K C "inner_leaders" bV) :
  Av Pr w K mg base Bs 3 f fd ["self","top"] (Qm C):=by
 refine F.okS NV (λvs H Q E h=>?_) (λB7 A outer s0 H vs Q E hr h=>?_)
 ·obtain ⟨N,s,ls,Al,x,rfl,_⟩:=h;rfl
 ·obtain ⟨N,s,ls,Al,x,rfl,A0,o0,Rl,hx,hk,hn,q⟩:=h;have hb:=BE;have BK:Am 1 _:=hr.mono ⟨⟩;have hu:=Cc hr;have Mj:(["part","self"]:List Str).Nodup:=by decide +kernel
  have bo:(["part"]:List Str).Nodup:=by decide +kernel
  have S1:Bj (CB Bs Pr w K mg base ["self","top","seen","waiting","entry","at","inner"] "Nodes.come_back" (Af AA) f B7 A outer s0 H E).nox (Cv (Mp (valueOf (fK 0 (T8 (inDef AA 3) 3))))) [("self",s0.heap.objs.size+1)] ["part"] ["self"] [0] :=
   ⟨rfl,by decide +kernel,rfl,by decide +kernel,rfl,rfl,rfl,rfl⟩
  have S2:Bj (CB Bs Pr w K mg base ["self","top","seen","waiting","entry","at","inner"] "Nodes.come_back" (Af AA) f B7 A outer s0 H E).nox (Cv (Mp (pJ (fK 2 (pI 0 (T8 (inDef AA 3) 3)))))) [] ["part"] [] [] :=
   ⟨rfl,by decide +kernel,rfl,by decide +kernel,rfl,rfl,rfl,rfl⟩
  refine ⟨_,(Ag (JH Wj (Ah 0) Aq)
   (Ag (Au (i:=2) NV.nd rfl (.inl rfl) Ee)
   (Ag (Au (i:=3) NV.nd rfl (.inl rfl) (AU (Aa (Bi (Aa (Ah 1) (Aa KA Ae))) Ae)))
   (Aj (D2 PassesOwn.never (C5 (Ah 3)) (Ag (Au (i:=4) NV.nd rfl (.inl rfl) (Ed PySem.F.plainAttrs_list PySem.F.slot_list_pop PySem.F.type_list_pop Ea (Ah 3)))
   (Ag (Au (i:=5) NV.nd rfl (.inl rfl) (BH (Ah 0) T.cl mL GL BK bL (Aa (eI 4) Ae)))
   (Ag (Au (i:=6) NV.nd rfl (.inl rfl) (BH (Ah 0) T.cl fu T5 hr ft (Aa (Ah 5) Ae)))
   (Aj (BY (Jr (eI 4)) (Aj (Jx (XG rfl rfl fO PyProof.Rows.boot_max (EX (te:=Kj (DC K) (Km K (Bt 1) "levels") (Bt 0)) S1 rfl (EW (Ah 6)) (λC' s0 H0 ex=>Br (i:=0) Mj rfl (.inl rfl)) (λ_ _ _ _=>Fi) (λC' s0 H0 ex=>BG (r:=DC K) Ay (Ao (Ah 1)) (Ah 0) D1)) ⟨_,_,rfl⟩) (Jy (Ao (Ah 0)) (Ah 5) set_list))) (Aj (BY (WO (w_and (B1 OR (BG (r:=DC K) Ay (Ao (Ah 0)) (Ah 5) D1) (Ao (Ah 0)) (AF _)) (w_and (B1 HG (BG (r:=DC K) Ay (Ao (Ah 0)) (Ah 5) D1) Aw (AF _)) (GD (Ei hu (Ah 5) (Ah 2)))))) (Ag (DO hu (Ah 2) (Ah 5) KA rfl)
   (Ag (Ap (EV PySem.F.plainAttrs_list PySem.F.slot_list_append PySem.F.type_list_append BS (Ah 3) (Aa (Bi (Aa (Ah 5) (Aa KA Ae))) Ae)))
   (Aj (Ap (EV PySem.F.plainAttrs_list PySem.F.slot_list_extend PySem.F.type_list_extend D7 (Ah 3) (Aa (EX (te:=MV (Cb (Bt 0) (Cb (tC (.bl false)) Dp))) S2 rfl (EW (Ah 6)) (λC' s0 H0 ex=>Br (i:=0) bo rfl (.inl rfl)) (λ_ _ _ _=>Fi) (λC' s0 H0 ex=>Bi (Aa (Ah 0) (Aa KA Ae)))) Ae)))))) BN)))))))))))),?_⟩
  obtain ⟨k,ek⟩:∃ k,s.k=k+1:=⟨s.k - 1,()⟩;refine ⟨_,rfl,N.p,C,N.dx,_,_,rfl,A0.ins,T.cl,T.nK,rfl,_,_,rfl,rfl,?_⟩;refine ⟨N.dx,_,A0.ins,by show 6 < 1000;decide,?_⟩;have e0:AK "level" (.int ((s.k:Int) - 1)) (NH N s.k)=NH N k:=by
   rw [ek,show (((k+1:Nat):Int) - 1)=(k:Int) by omega];rfl
  rw [e0];have A1:=A0.level k;have f1:Bp N H (upd H N.p (.ins C N.dx (NH N k))):=λb o e b1 _ _ _ _=>by rw [Ac b1];exact e
  generalize upd H N.p (.ins C N.dx (NH N k))=H1 at A1 f1 ⊢;refine λd JP=>?_;refine ⟨_,rfl,by show 2<=sizeLine;omega,λt0 bH=>⟨by show 1<=sizeLine;omega,λlw Cz=>?_⟩⟩;have dt:d≠t0:=λz=>by rw [<- z,Ad] at bH;cases bH
  have pK:H1 t0=none:=by rw [Ac (Ne.symm dt)] at bH;exact bH
  have tl:t0≠lw:=λz=>by rw [<- z,Ad] at Cz;cases Cz
  have dl:d≠lw:=λz=>by rw [<- z,Ac dt,Ad] at Cz;cases Cz
  have Bz:H1 lw=none:=by rw [Ac (Ne.symm tl),Ac (Ne.symm dl)] at Cz;exact Cz
  obtain ⟨_,L1⟩:=A1.lead;have free:∀ {b:Addr},H1 b=none->b≠N.p/\b≠N.s/\b≠N.i/\b≠N.l/\b≠N.v/\b≠N.g:=λ{b} h=>⟨Ne.symm (Ab A1.ins h),Ne.symm (Ab A1.sorts h),Ne.symm (Ab A1.inner h),Ne.symm (Ab L1 h),Ne.symm (Ab A1.levels h),Ne.symm (Ab A1.aaj h)⟩;obtain ⟨w1,w2,w3,w4,w5,w6⟩:=free Bz;obtain ⟨d1,d2,d3,d4,d5,d6⟩:=free JP;have EF:∀ {b:Addr},H1 b=none->b∉ls:=λ{b} h z=>by
   obtain ⟨j,hj,ej⟩:=List.mem_iff_getElem.mp z;have:=A1.chs j b (by rw [List.getElem?_eq_getElem hj,ej]);rw [h] at this;cases this
  have G':Ai H1 (upd (upd (upd H1 d (.dK [])) t0 (.tup [.int ((x:Nat):Int),.bl false])) lw (.lst [.ref t0])):=Ai.put (Ai.put (Ai.new JP) pK) Bz;refine ⟨λm σ H2=>∃ lv ks W ws x4 x5 x6,σ=[some (.ref N.p),some (.int ((x:Nat):Int)),some (.ref d),some (.ref lw),x4,x5,x6]/\m=3 * (s.n - ks.length)+W.length/\Ba C N H2 { s with lv:=lv,k:=k } ls/\Bk s Al lv/\ks.Nodup/\(∀ y∈ks,y < s.n)/\H2 d=some (.dK (E5 ks))/\H2 lw=some (.lst ws)/\DW H2 W ws/\(∀ p∈W,Al p.1)/\W.length<=2 * ks.length+1/\Bp N H1 H2,
   ⟨_,s.lv,[],[(x,false)],[.ref t0],none,none,none,rfl,rfl,A1.same G',Bk.start o0,List.nodup_nil,(λy hy=>by cases hy),by rw [Ac dl,Ac dt,Ad];rfl,Ad,.cons ⟨t0,rfl,by rw [Ac tl,Ad]⟩ .nil,(λp hp=>by rw [List.mem_singleton.mp hp];exact hx),by simp,Bp.of_same G'⟩,?_⟩
  rintro m σ H2 ⟨lv,ks,W,ws,x4,x5,x6,rfl,rfl,A2,bk,knd,kn,hd2,FV,ff,wA,Xs,f2⟩;refine ⟨_,rfl,!ws.isEmpty,.inl ⟨ws,AO.of FV,rfl⟩,?_⟩;have few:=nodup_range knd kn;by_cases hW:W=[]
  ·subst hW;cases ff;refine Ck ?_;exact q _ H2 A2 (bk.down ek) (f1.trans f2)
  ·obtain ⟨W',⟨y,b⟩,Co,v,rfl,rfl,pf,t,rfl,ht⟩:=Paired.snoc ff hW;refine Cs (by simp) ⟨_,fun σ' H' z=>z,?_⟩;have yA:Al y:=wA (y,b) (by simp);have yn:=o0.lt y yA;obtain ⟨rn,rr⟩:=o0.rp y yn;have rA:Al (s.rp y):=(o0.li y yn).mpr yA;have lW:(W'++[(y,b)]).length=W'.length+1:=(by simp);rw [lW] at Xs;refine ⟨_,rfl,.inl ⟨rfl,_,AO.of FV⟩,lw,_,V.ref t,rfl,rfl,FV,by simp,?_⟩;rw [List.dropLast_concat];have A3:Ba C N (upd H2 lw (.lst Co)) { s with lv:=lv,k:=k } ls:=A2.off w1 w2 w3 w4 w5 w6 (EF Bz);have ph:t≠lw:=AL ht FV (by intro z;cases z);have SY:(upd H2 lw (.lst Co)) t=some (.tup [.int ((y:Nat):Int),.bl b]):=(by rw [Ac ph];exact ht);have bO:(upd H2 lw (.lst Co)) lw=some (.lst Co):=Ad;have XC:(upd H2 lw (.lst Co)) d=some (.dK (E5 ks)):=(by rw [Ac dl];exact hd2);have fi:DW (upd H2 lw (.lst Co)) W' Co:=DW.mono (TSub.put λxs z=>by rw [FV] at z;cases z) pf;have f3:Bp N H1 (upd H2 lw (.lst Co)):=λb o e b1 b2 b3 b4 b5=>(by rw [Ac (Ab e Bz)];exact f2 b o e b1 b2 b3 b4 b5);generalize upd H2 lw (.lst Co)=H3 at A3 SY bO XC fi f3 ⊢;refine ⟨_,rfl,N.p,N.dx,_,rfl,A3.ins,rfl,_,rfl,t,_,_,_,rfl,rfl,CZ.of SY,Ar (j:=0) rfl,N,_,ls,y,rfl,A3,yn,λH4 A4 e4=>?_⟩;refine ⟨_,rfl,N.p,N.dx,_,rfl,A4.ins,rfl,_,rfl,N,_,ls,s.rp y,rfl,A4,rn,o0.ch _ rn,o0.ar _ rn,λli H5 A5 F8 h5 ON=>?_⟩;have lli:li≠N.l:=λz=>by
    obtain ⟨_,L4⟩:=A4.lead;rw [<- z,F8] at L4;cases L4
   have keep:∀ b o,H3 b=some o->b≠N.l->H5 b=some o:=λb o e b4=>by
    have e':H4 b=some o:=(by rw [e4 b b4];exact e);rw [ON b b4 (Ab e' F8)];exact e'
   have tl4:t≠N.l:=λz=>by
    obtain ⟨_,L3⟩:=A3.lead;rw [<- z,SY] at L3;cases L3
   have h5:H5 li=some (.lst (lsN ((s.ch (s.rp y)).map s.rp))):=h5;have ht5:=keep t _ SY tl4;have bP:=keep lw _ bO w4;have bY:=keep d _ XC d4;have ts5:TSub H3 H5:=λb xs e=>keep b _ e λz=>by
    obtain ⟨_,L3⟩:=A3.lead;rw [<- z,e] at L3;cases L3
   have bQ:=DW.mono ts5 fi;have f5:Bp N H1 H5:=λb o e b1 b2 b3 b4 b5=>keep b o (f3 b o e b1 b2 b3 b4 b5) b4;have rch:∀ c∈(s.ch (s.rp y)).map s.rp,c < s.n:=λc hc=>by
    obtain ⟨p,hp,rfl⟩:=List.mem_map.mp hc;exact (o0.rp p (o0.ch _ rn p hp)).1
   have xR:=o0.ar _ rn;have Abn:((s.ch (s.rp y)).map s.rp).length<=2:=(by rw [List.length_map];exact xR);refine ⟨_,rfl,t,_,_,_,rfl,rfl,CZ.of ht5,Ar (j:=1) rfl,_,rfl,?_⟩;cases b with
   | true =>
    refine Cm ?_;refine ⟨_,rfl,li,rfl,⟨_,AO.of h5⟩,T9 T A5 h5 rch () rfl ?_⟩;refine λlj Ii=>?_;have XF:Ai H5 (upd H5 lj (.lst (lsN (((s.ch (s.rp y)).map s.rp).map lv)))):=Ai.new Ii;have e6:(upd H5 lj (.lst (lsN (((s.ch (s.rp y)).map s.rp).map lv)))) lj=some (.lst (((((s.ch (s.rp y)).map s.rp).map lv).map λc=>((c:Nat):Int)).map V.int)):=by
     rw [Ad];simp only [lsN,List.map_map];rfl
    refine ⟨lj,_,rfl,e6,λM hM=>?_⟩;obtain ⟨M',rfl,hM'⟩:∃ M':Nat,M=(M':Int)/\((s.ch (s.rp y)=[]/\M'=0)\/((∃ c∈s.ch (s.rp y),M'=lv (s.rp c))/\∀ c∈s.ch (s.rp y),lv (s.rp c)<=M')):=by
     rcases hM with ⟨a,b⟩ | ⟨a,b⟩
     ·exact ⟨0,b,.inl ⟨by simpa using a,rfl⟩⟩
     ·obtain ⟨z,hz,rfl⟩:=List.mem_map.mp a;obtain ⟨z',kF,rfl⟩:=List.mem_map.mp hz;obtain ⟨c,hc,rfl⟩:=List.mem_map.mp kF;refine ⟨lv (s.rp c),rfl,.inr ⟨⟨c,hc,rfl⟩,λc' Cn=>?_⟩⟩;have:=b (lv (s.rp c'):Int) (List.mem_map.mpr ⟨_,List.mem_map.mpr ⟨_,List.mem_map.mpr ⟨c',Cn,rfl⟩,rfl⟩,rfl⟩);omega
    have A6:=A5.same XF;have A7:Ba C N _ { s with lv:=CG lv (s.rp y) M',k:=k } ls:=A6.ab6 (CG lv (s.rp y) M');refine ⟨_,rfl,N.p,C,N.dx,_,_,rfl,A6.ins,T.cl,T.nV,rfl,_,rfl,N.v,_,_,s.rp y,rfl,rfl,A6.levels,Fn (by rw [Ce];exact rn),?_⟩;rw [ED];have dv:∀ b,b≠N.v->(upd (upd H5 lj (.lst (lsN (((s.ch (s.rp y)).map s.rp).map lv)))) N.v (.lst (BQ s.n (CG lv (s.rp y) M')))) b=(upd H5 lj (.lst (lsN (((s.ch (s.rp y)).map s.rp).map lv)))) b:=λb h=>Ac h;refine ⟨_,?_,_,ks,W',Co,_,_,_,rfl,rfl,A7,bk.put rA rr hM',knd,kn,(dv d d5).trans (XF _ _ bY),(dv lw w5).trans (XF _ _ bP),DW.mono (λb xs e=>?_) bQ,(λp hp=>wA p (by simp [hp])),(),λb o e b1 b2 b3 b4 b5=>(dv b b5).trans (XF _ _ (f5 b o e b1 b2 b3 b4 b5))⟩
    ·rw [lW];omega
    ·have:=XF _ _ e;rw [dv b (λz=>by rw [z] at this;have:=A6.levels.symm.trans this;cases this)];exact this
   | false =>
    refine Ck ?_;have aat:∃ m',m' < 3 * (s.n - ks.length)+(W'++[(y,false)]).length/\∃ xS fP W1 xT x4 x5 x6,([some (.ref N.p),some (.int ((x:Nat):Int)),some (.ref d),some (.ref lw),some (.ref t),some (.int ((s.rp y:Nat):Int)),some (.ref li)]:St)=[some (.ref N.p),some (.int ((x:Nat):Int)),some (.ref d),some (.ref lw),x4,x5,x6]/\m'=3 * (s.n - fP.length)+W1.length/\Ba C N H5 { s with lv:=xS,k:=k } ls/\Bk s Al xS/\fP.Nodup/\(∀ y∈fP,y < s.n)/\H5 d=some (.dK (E5 fP))/\H5 lw=some (.lst xT)/\DW H5 W1 xT/\(∀ p∈W1,Al p.1)/\W1.length<=2 * fP.length+1/\Bp N H1 H5 :=
     ⟨_,by rw [lW];omega,lv,ks,W',Co,_,_,_,rfl,rfl,A5,bk,knd,kn,bY,bP,bQ,(λp hp=>wA p (by simp [hp])),(),f5⟩
    refine ⟨_,rfl,N.p,C,N.dx,_,_,rfl,A5.ins,T.cl,T.nV,rfl,_,rfl,N.v,_,_,_,rfl,rfl,AO.of A5.levels,Ar (Ci rn),_,rfl,N.p,C,N.dx,_,_,rfl,A5.ins,T.cl,T.nK,rfl,?_⟩;refine ⟨_,_,rfl,rfl,_,rfl,?_⟩;by_cases c:k < lv (s.rp y)
    ·refine Cs (by simp;omega) ?_;refine ⟨_,rfl,N.p,C,N.dx,_,_,rfl,A5.ins,T.cl,T.nS,rfl,_,rfl,N.s,_,_,_,rfl,rfl,AO.of A5.sorts,Ar (CI rn),?_⟩;refine ⟨rfl,_,rfl,?_⟩;rw [Fs (Rl.tg _ rn)];by_cases e2:s.tg (s.rp y)=2
     ·refine CD (by simp [e2]) ?_;refine CD (by simp) ?_;exact aat
     ·refine Cs (by simp [e2]) ?_;have Qk:DE H5 d (.int ((s.rp y:Nat):Int)) (Bu (E5 ks) (Sum.inl ((s.rp y:Nat):Int):Key)):=.inl ⟨E5 ks,Sum.inl ((s.rp y:Nat):Int),.inl bY,rfl,rfl⟩;refine ⟨_,rfl,_,rfl,d,_,rfl,Qk,_,rfl,?_⟩;rcases Mq (ks:=ks) (y:=s.rp y) with ⟨ka,kb⟩ | ⟨ka,kb⟩
      ·rw [kb];refine Cm ?_;refine ⟨_,rfl,_,rfl,d,_,rfl,.inl ⟨E5 ks,Sum.inl ((s.rp y:Nat):Int),bY,rfl,by rw [E5,List.length_map];omega,rfl⟩,?_⟩;have ep:putK (E5 ks) (Sum.inl ((s.rp y:Nat):Int):Key) (V.bl true)=E5 (ks++[s.rp y]):=by
        rw [Ec _ kb,E5,E5,List.map_append];rfl
       rw [ep];have A6:Ba C N (upd H5 d (.dK (E5 (ks++[s.rp y])))) _ ls:=A5.off d1 d2 d3 d4 d5 d6 (EF JP);have XE:(upd H5 d (.dK (E5 (ks++[s.rp y])))) d=some (.dK (E5 (ks++[s.rp y]))):=Ad;have Rm:(upd H5 d (.dK (E5 (ks++[s.rp y])))) lw=some (.lst Co):=(by rw [Ac (Ne.symm dl)];exact bP);have h6:(upd H5 d (.dK (E5 (ks++[s.rp y])))) li=some (.lst (lsN ((s.ch (s.rp y)).map s.rp))):=(by rw [Ac (AL h5 bY (by intro z;cases z))];exact h5);have Vq:DW (upd H5 d (.dK (E5 (ks++[s.rp y])))) W' Co:=DW.mono (TSub.put λxs z=>by rw [bY] at z;cases z) bQ;have f6:Bp N H1 (upd H5 d (.dK (E5 (ks++[s.rp y])))):=λb o e b1 b2 b3 b4 b5=>(by rw [Ac (Ab e JP)];exact f5 b o e b1 b2 b3 b4 b5);generalize upd H5 d (.dK (E5 (ks++[s.rp y])))=H6 at A6 XE Rm h6 Vq f6 ⊢;have lws:=Paired.len Vq;refine ⟨_,rfl,.inl ⟨rfl,_,AO.of Rm⟩,_,rfl,by show 2<=sizeLine;omega,λt2 pL=>?_⟩;have Vv:Ai H6 (upd H6 t2 (.tup [.int ((s.rp y:Nat):Int),.bl true])):=Ai.new pL;have pM:(upd H6 t2 (.tup [.int ((s.rp y:Nat):Int),.bl true])) t2=some (.tup [.int ((s.rp y:Nat):Int),.bl true]):=Ad;refine ⟨lw,_,_,rfl,rfl,Vv _ _ Rm,(),?_⟩;have tw2:t2≠lw:=λz=>(by rw [z,Rm] at pL;cases pL);have bT:(upd (upd H6 t2 (.tup [.int ((s.rp y:Nat):Int),.bl true])) lw (.lst (Co++[.ref t2]))) lw=some (.lst (Co++[.ref t2])):=Ad;have NN:∀ b o,H6 b=some o->b≠lw->(upd (upd H6 t2 (.tup [.int ((s.rp y:Nat):Int),.bl true])) lw (.lst (Co++[.ref t2]))) b=some o:=λb o e h=>(by rw [Ac h];exact Vv _ _ e);have A7:Ba C N (upd (upd H6 t2 (.tup [.int ((s.rp y:Nat):Int),.bl true])) lw (.lst (Co++[.ref t2]))) _ ls:=(A6.same Vv).off w1 w2 w3 w4 w5 w6 (EF Bz);have xU:DW (upd (upd H6 t2 (.tup [.int ((s.rp y:Nat):Int),.bl true])) lw (.lst (Co++[.ref t2]))) (W'++[(s.rp y,true)]) (Co++[.ref t2]) :=
        Paired.app (DW.mono (λb xs e=>NN b _ e λz=>by rw [z,Rm] at e;cases e) Vq) (.cons ⟨t2,rfl,by rw [Ac tw2];exact pM⟩ .nil)
       have h7:=NN _ _ h6 (Ne.symm (Ab (show H4 lw=some (.lst Co) by rw [e4 lw w4];exact bO) F8));have xV:=NN _ _ XE dl;have f7:Bp N H1 _:=λb o e b1 b2 b3 b4 b5=>NN b o (f6 b o e b1 b2 b3 b4 b5) (Ab e Bz);generalize upd (upd H6 t2 (.tup [.int ((s.rp y:Nat):Int),.bl true])) lw (.lst (Co++[.ref t2]))=H7 at A7 xV bT h7 xU f7;refine ⟨_,rfl,.inl ⟨rfl,_,AO.of bT⟩,_,rfl,li,rfl,⟨_,AO.of h7⟩,Ql h7 () rfl λys H8 sm8 xW lj Ii=>?_⟩;have Ro:=sm8.trans (Ai.new (o:=.lst ys) Ii);have xX:=Ro _ _ bT;have lys:=Paired.len xW;rw [List.length_map] at lys;refine ⟨lw,lj,_,_,rfl,rfl,xX,Ad,by rw [List.length_append];simp;omega,?_⟩;have pw9:=Paired.app (DW.mono (TSub.of_same Ro) xU) (DW.mono (TSub.of_same (Ai.new (o:=.lst ys) Ii)) xW);have A9:=(A7.same Ro).off (o:=.lst (Co++[.ref t2]++ys)) w1 w2 w3 w4 w5 w6 (EF Bz);have NW:(ks++[s.rp y]).Nodup:=List.nodup_append.mpr ⟨knd,by simp,λa ha b hb=>by rw [List.mem_singleton.mp hb];exact λz=>ka (by rw [<- z];exact ha)⟩;have bZ:∀ z∈ks++[s.rp y],z < s.n:=λz hz=>(List.mem_append.mp hz).elim (kn z) λh=>(by rw [List.mem_singleton.mp h];exact rn);have XI:=nodup_range NW bZ;have lk:(ks++[s.rp y]).length=ks.length+1:=(by simp);have xY:(W'++[(s.rp y,true)]++((s.ch (s.rp y)).map s.rp).map λc=>(c,false)).length=W'.length+1+((s.ch (s.rp y)).map s.rp).length:=(by simp;omega);rw [lk] at XI;refine ⟨_,?_,lv,ks++[s.rp y],_,_,_,_,_,rfl,rfl,A9,bk,NW,bZ,by rw [Ac dl];exact Ro _ _ xV,Ad,DW.mono (TSub.put λxs z=>by rw [xX] at z;cases z) pw9,λp hp=>?_,by rw [xY,lk];omega,λb o e b1 b2 b3 b4 b5=>by rw [Ac (Ab e Bz)];exact Ro _ _ (f7 b o e b1 b2 b3 b4 b5)⟩
       ·rw [lW,xY,lk];omega
       ·rcases List.mem_append.mp hp with z | z
        ·rcases List.mem_append.mp z with z | z
         ·exact wA p (by simp [z])
         ·rw [List.mem_singleton.mp z];exact rA
        ·obtain ⟨c,hc,rfl⟩:=List.mem_map.mp z;obtain ⟨c',Cn,rfl⟩:=List.mem_map.mp hc;have cn:=o0.ch _ rn c' Cn;exact (o0.li c' cn).mpr (o0.cl _ rA rr c' Cn)
      ·rw [kb];exact Ck aat
    ·refine CD (by simp;omega) ?_;refine CD (by simp) ?_;exact aat
end
end K
namespace KN
open KM KX PySem
noncomputable def Gv.aan (g:Gv)(k:Nat):List (Str × Nat)->Gv
 | []=>g
 | (x,n)::r=>Gv.aan (g.put x (n,k)) k r
theorem Ge.aan {s:Ns}{A:Nat->Prop}{C:Nat}(o:Ok s A){ks:List (Str × Nat)}:∀ {g:Gv},Ge s A s.k C g->(∀ p∈ks,A p.2)->Ge s A s.k C (g.aan s.k ks):=by
 induction ks with
 | nil=>exact λh _=>h
 | cons p r ih =>
  obtain ⟨x,n⟩:=p;intro g h ha;have hn:A n:=ha _ (.head _);exact ih (h.put (p:=(n,s.k)) (Ent.live o hn (o.lev hn)) (Nat.le_refl _)) λp hp=>ha p (.tail _ hp)
theorem GZ.aan {k:Nat}{ks:List (Str × Nat)}:∀ {g:Gv} {xs:List Str},GZ g xs->GZ (g.aan k ks) ((ks.map (·.1)).reverse++xs):=by
 induction ks with
 | nil=>exact λh=>h
 | cons p r ih =>
  obtain ⟨x,n⟩:=p;intro g xs h;have:=ih (h.put (x:=x) (p:=(n,k)));show GZ ((g.put x (n,k)).aan k r) _;simpa using this
theorem GZ.sub {g:Gv}{xs ys:List Str}(h:GZ g xs)(q:∀ y∈ys,y∈xs):GZ g ys:=λy hy=>h y (q y hy)
noncomputable def He (x y:Str)(a b:Nat):List (Str × Nat):=if x=y then [(y,b)] else [(x,a),(y,b)]
theorem GZ.two {g:Gv}{xs:List Str}{x y:Str}{a b k:Nat}(h:GZ g xs):GZ (g.aan k (He x y a b)) (y::x::xs):=by
 unfold He;by_cases e:x=y
 ·rw [if_pos e];exact (GZ.aan (k:=k) (ks:=[(y,b)]) h).sub λz hz=>by subst e;simpa using hz
 ·rw [if_neg e];exact (GZ.aan (k:=k) (ks:=[(x,a),(y,b)]) h).sub λz hz=>by simpa using hz
theorem IQ {x y:Str}{a b:Nat}{A:Nat->Prop}(ha:A a)(hb:A b):∀ p∈He x y a b,A p.2:=λp hp=>by
 unfold He at hp;split at hp
 ·rw [List.mem_singleton.mp hp];exact hb
 ·rcases List.mem_cons.mp hp with rfl | hp
  ·exact ha
  ·rw [List.mem_singleton.mp hp];exact hb
theorem IS (x y:Str)(a b:Nat):(He x y a b).length<=2:=by unfold He;split <;> simp
noncomputable def IT (p:Fe):Nat:=match p.fs with
 | none=>2 * p.e.sz
 | some _=>2 * p.e.sz - 1 - 2 * (match p.e with | .lt _ a _=>a.sz | _=>0)
noncomputable def fm (L:List Fe):Nat:=(L.map IT).sum
theorem Dt (p:Fe)(L:List Fe):fm (p::L)=IT p+fm L:=by simp [fm]
theorem XJ (M L:List Fe):fm (M++L)=fm M+fm L:=by simp [fm]
theorem XM (e:Ex):1<=e.sz:=by cases e <;> simp [Ex.sz] <;> omega
theorem Qn {L:List Fe}(h:∀ p∈L,1<=IT p):L.length<=fm L:=by
 induction L with
 | nil=>exact Nat.le_refl _
 | cons p r ih =>
  rw [Dt,List.length_cons];have:=h p (.head _);have:=ih λp hp=>h p (.tail _ hp);omega
theorem Di.pos {s:Ns}{A:Nat->Prop}{lim k m:Nat}{L:List Fe}(h:Di s A lim k m L):∀ p∈L,1<=IT p:=by
 induction h with
 | nil=>intro p hp;cases hp
 | @ask _ _ _ e _ _ _ _ _ _ _ _ _ _ ih =>
  intro p hp;rcases List.mem_cons.mp hp with rfl | hp
  ·have:=XM e;show 1<=2 * e.sz;omega
  ·exact ih p hp
 | @back _ _ _ _ a b _ _ _ _ _ _ _ _ _ _ _ _ _ _ _ ih =>
  intro p hp;rcases List.mem_cons.mp hp with rfl | hp
  ·show 1<=2 * (1+a.sz+b.sz) - 1 - 2 * a.sz;omega
  ·exact ih p hp
end KN
namespace L2
open PySem PySem.Spec PyProof.Rows KS KM KN KX
structure FA where
 p:Addr
 dx:Addr
 w:Addr
 N:NA
noncomputable def ffl (F:FA):List (Str × V):=[("nodes",.ref F.N.p),("number",.int 0),("truth",.int 1),("waiting",.ref F.w)]
noncomputable def KS (H H':Hp):Prop:=∀ b o,H b=some o->(∀ xs,o≠.lst xs)->(∀ c d f,o≠.ins c d f)->H' b=some o
theorem KS.of_same {H H':Hp}(s:Ai H H'):KS H H':=λb o e _ _=>s b o e
theorem KS.trans {H1 H2 H3:Hp}(a:KS H1 H2)(b:KS H2 H3):KS H1 H3:=λc o e x y=>b c o (a c o e x y) x y
theorem KS.tup {H H':Hp}(s:KS H H'):TSub H H':=λb xs e=>s b _ e (λ_=>by intro z;cases z) (λ_ _ _=>by intro z;cases z)
theorem KS.dk {H H':Hp}(s:KS H H'){b:Addr}{kvs:List (Key × V)}(e:H b=some (.dK kvs)):H' b=some (.dK kvs):=s b _ e (λ_=>by intro z;cases z) (λ_ _ _=>by intro z;cases z)
theorem KS.put {H:Hp}{w:Addr}{xs:List V}{o:HO}(h:H w=some (.lst xs)):KS H (upd H w o):=λb u e h1 _=>by
 rw [Ac (λz:b=w=>by rw [z,h] at e;cases e;exact h1 _ rfl)];exact e
theorem KS.off {C:Addr}{N:NA}{H H':Hp}{s:Ns}{ls:List Addr}(A:Ba C N H s ls)(f:Bp N H H'):KS H H':=λb o e h1 h2=>by
 obtain ⟨_,L⟩:=A.lead;have q:∀ {x:Addr} {xs:List V},H x=some (.lst xs)->b≠x:=λh z=>by rw [z,h] at e;cases e;exact h1 _ rfl
 exact f b o e (λz=>by rw [z,A.ins] at e;cases e;exact h2 _ _ _ rfl) (q A.sorts) (q A.inner) (q L) (q A.levels)
noncomputable def FY (H:Hp)(d:Addr)(g:Gv)(b:Nat):Prop:=∃ kvs:List (Key × V),H d=some (.dK kvs)/\kvs.length<=b/\∀ y p,g y=some p->∃ t,Bu kvs (.inr y:Key)=some (.ref t)/\H t=some (.tup [.int ((p.1:Nat):Int),.int ((p.2:Nat):Int)])
theorem FY.mono {H H':Hp}{d:Addr}{g:Gv}{b:Nat}(s:KS H H')(h:FY H d g b):FY H' d g b:=by
 obtain ⟨kvs,h1,h2,h3⟩:=h;exact ⟨kvs,s.dk h1,h2,λy p e=>let ⟨t,a,c⟩:=h3 y p e;⟨t,a,s.tup _ _ c⟩⟩
theorem FY.more {H:Hp}{d:Addr}{g:Gv}{b b':Nat}(h:FY H d g b)(q:b<=b'):FY H d g b':=by
 obtain ⟨kvs,h1,h2,h3⟩:=h;exact ⟨kvs,h1,Nat.le_trans h2 q,h3⟩
noncomputable def XN:Option Nat->V
 | none=>.non
 | some f=>.int ((f:Nat):Int)
noncomputable def Lh (H:Hp)(p:Fe)(v:V):Prop:=∃ t rt gd b,v=.ref t/\H t=some (.tup [rt,.ref gd,.int ((p.nd:Nat):Int),XN p.fs])/\Bo H p.e rt/\FY H gd p.g b/\b+2 * p.e.sz<=900000
theorem Lh.mono {H H':Hp}{p:Fe}{v:V}(s:KS H H')(h:Lh H p v):Lh H' p v:=by
 obtain ⟨t,rt,gd,b,h1,h2,h3,h4,h5⟩:=h;exact ⟨t,rt,gd,b,h1,s.tup _ _ h2,Bo.mono s.tup h3,h4.mono s,h5⟩
noncomputable def Zr (s:Ns)(A:Nat->Prop)(i:Nat):Prop:=A i/\s.lv (s.rp i)<=0
theorem Zr.le {s s':Ns}{A A':Nat->Prop}{i:Nat}(h:Zr s A i)(l:Le s A s' A'):Zr s' A' i:=⟨(l.li i h.1).1,Nat.le_trans (l.li i h.1).2 h.2⟩
theorem Zr.down {s s':Ns}{A:Nat->Prop}{i:Nat}(h:Zr s A i)(d:Down s A s'):Zr s' (Hx s' A) i:=by
 have:s'.lv (s'.rp i)<=0:=by rw [d.rp];exact Nat.le_trans (d.le _) h.2
 exact ⟨⟨h.1,Nat.le_trans this (Nat.zero_le _)⟩,this⟩
structure Dk (C CF:Addr)(F:FA)(H:Hp)(s:Ns)(ls:List Addr)(A:Nat->Prop)(L:List Fe):Prop where
 ins:H F.p=some (.ins CF F.dx (ffl F))
 nod:Ba C F.N H s ls
 ok:Ok s A
 art:Lc s
 z0:Zr s A 0
 z1:Zr s A 1
 pp:F.p≠F.N.p
 wt:∃ ws,H F.w=some (.lst ws)/\Paired (Lh H) L ws.reverse
 aw:F.w≠F.N.s/\F.w≠F.N.i/\F.w≠F.N.l/\F.w≠F.N.v/\F.w∉ls
theorem bK {t:Nat}(h:t < 6):KM.arity t<=2:=by
 have c:t=0\/t=1\/t=2\/t=3\/t=4\/t=5:=by omega
 rcases c with rfl | rfl | rfl | rfl | rfl | rfl <;> decide
noncomputable def fQ (F:FA)(l:Addr):Prop:=l≠F.w/\l≠F.N.s/\l≠F.N.i/\l≠F.N.l/\l≠F.N.v
section
variable {C CF:Addr}{F:FA}{H H':Hp}{s s':Ns}{ls Cj:List Addr}{A A':Nat->Prop}{L:List Fe}
theorem Dk.same (M:Dk C CF F H s ls A L)(sm:Ai H H'):Dk C CF F H' s ls A L:=by
 obtain ⟨ws,h1,h2⟩:=M.wt;exact ⟨sm _ _ M.ins,M.nod.same sm,M.ok,M.art,M.z0,M.z1,M.pp,⟨ws,sm _ _ h1,Paired.aaz h2 λ_ _ z=>z.mono (KS.of_same sm)⟩,M.aw⟩
theorem Dk.fre (M:Dk C CF F H s ls A L){l:Addr}(h:H l=none):fQ F l:=by
 obtain ⟨ws,h1,_⟩:=M.wt;obtain ⟨_,L0⟩:=M.nod.lead;exact ⟨Ne.symm (Ab h1 h),Ne.symm (Ab M.nod.sorts h),Ne.symm (Ab M.nod.inner h),Ne.symm (Ab L0 h),Ne.symm (Ab M.nod.levels h)⟩
theorem Dk.work (M:Dk C CF F H s ls A L)(N:Ba C F.N H' s' Cj)(o:Ok s' A')(ar:Lc s')(z0:Zr s' A' 0)(z1:Zr s' A' 1)(f:Bp F.N H H')(w:F.w∉Cj):Dk C CF F H' s' Cj A' L:=by
 obtain ⟨ws,h1,h2⟩:=M.wt;obtain ⟨w1,w2,w3,w4,_⟩:=M.aw;obtain ⟨_,L0⟩:=M.nod.lead;refine ⟨f _ _ M.ins M.pp (AL M.ins M.nod.sorts (by intro z;cases z)) (AL M.ins M.nod.inner (by intro z;cases z)) (AL M.ins L0 (by intro z;cases z)) (AL M.ins M.nod.levels (by intro z;cases z)),N,o,ar,z0,z1,M.pp,⟨ws,f _ _ h1 (AL h1 M.nod.ins (by intro z;cases z)) w1 w2 w3 w4,Paired.aaz h2 λ_ _ z=>z.mono (KS.off M.nod f)⟩,w1,w2,w3,w4,w⟩
theorem Dk.wait (M:Dk C CF F H s ls A L){L':List Fe}{ws:List V}(h:Paired (Lh H) L' ws.reverse):Dk C CF F (upd H F.w (.lst ws)) s ls A L'/\KS H (upd H F.w (.lst ws)):=by
 obtain ⟨ws0,h1,h2⟩:=M.wt;obtain ⟨w1,w2,w3,w4,w5⟩:=M.aw;have k:KS H (upd H F.w (.lst ws)):=KS.put h1;exact ⟨⟨by rw [Ac (AL M.ins h1 (by intro z;cases z))];exact M.ins,M.nod.off (AL h1 M.nod.ins (by intro z;cases z)) w1 w2 w3 w4 (AL h1 M.nod.aaj (by intro z;cases z)) w5,M.ok,M.art,M.z0,M.z1,M.pp,⟨ws,Ad,Paired.aaz h λ_ _ z=>z.mono k⟩,M.aw⟩,k⟩
theorem Dk.add (M:Dk C CF F H s ls A L){t:Nat}{cs:List Nat}{l:Addr}(hl:l≠F.w)(hc:∀ c∈cs,A c)(ht:t < 6)(h2:cs.length=KM.arity t)(N:Ba C F.N H' (s.add t cs) (ls++[l]))(f:∀ b,b≠F.N.s->b≠F.N.i->b≠F.N.l->b≠F.N.v->H' b=H b):Dk C CF F H' (s.add t cs) (ls++[l]) (plus A s.n) L/\KS H H':=by
 have k:Bp F.N H H':=λb o e _ b2 b3 b4 b5=>by rw [f b b2 b3 b4 b5];exact e
 refine ⟨M.work N (M.ok.add hc (by rw [h2];exact bK ht)) (M.art.add ht h2) (M.z0.le (Le.add M.ok)) (M.z1.le (Le.add M.ok)) k λz=>?_,KS.off M.nod k⟩;rcases List.mem_append.mp z with z | z
 ·exact M.aw.2.2.2.2 z
 ·exact hl (List.mem_singleton.mp z).symm
end
end L2
namespace K
open PySem L2 KM KS KN KX
structure CL (K:W.Frag)(mg:Str->Option Value)(CF:Addr):Prop where
 cl:G9 K CF
 nN:BA K CF "nodes"
 nU:BA K CF "number"
 nT:BA K CF "truth"
 nW:BA K CF "waiting"
 mC:mg "Finder"=some (.ref CF)
section
variable {Pr:Program}{w:World}{K:W.Frag}{mg:Str->Option Value}{base:Heap}{C CF CJ:Addr}
noncomputable def JQ (C CF:Addr):Sp:=λvs H Q _=>∃ (F:FA) (s:Ns) (ls:List Addr) (A:Nat->Prop) (L:List Fe) (e:Ex) (g:Gv) (nd b:Nat) (rt:V) (gd:Addr),vs=[.ref F.p,rt,.ref gd,.int ((nd:Nat):Int)]/\Dk C CF F H s ls A L/\Bo H e rt/\FY H gd g b/\b+2 * e.sz<=900000/\L.length<=900000 /\
 ∀ H',Dk C CF F H' s ls A (⟨e,g,nd,none⟩::L)->KS H H'->Q .non H'
noncomputable def Vw (C CF:Addr):Sp:=λvs H Q _=>∃ (F:FA) (s:Ns) (ls:List Addr) (A:Nat->Prop) (L:List Fe) (e:Ex) (g:Gv) (nd b f:Nat) (rt:V) (gd:Addr),vs=[.ref F.p,rt,.ref gd,.int ((nd:Nat):Int),.int ((f:Nat):Int)]/\Dk C CF F H s ls A L/\Bo H e rt/\FY H gd g b/\b+2 * e.sz<=900000/\L.length<=900000 /\
 ∀ H',Dk C CF F H' s ls A (⟨e,g,nd,some f⟩::L)->KS H H'->Q .non H'
theorem Ij {F:FA}{s:Ns}{ls:List Addr}{A:Nat->Prop}{L:List Fe}{H:Hp}{p:Fe}{rt:V}{gd:Addr}{b:Nat}{R:Hp->Prop}(T:CL K mg CF)(M:Dk C CF F H s ls A L)(he:Bo H p.e rt)(hg:FY H gd p.g b)(hs:b+2 * p.e.sz<=900000)(hl:L.length<=900000)
  (q:∀ H',Dk C CF F H' s ls A (p::L)->KS H H'->R H') {t:Addr} (ht:H t=none) :
  ∃ l xs y,V.ref F.w=.ref l/\[V.ref t]=[y]/\(upd H t (.tup [rt,.ref gd,.int ((p.nd:Nat):Int),XN p.fs])) l=some (.lst xs)/\xs.length < sizeLine/\R (upd (upd H t (.tup [rt,.ref gd,.int ((p.nd:Nat):Int),XN p.fs])) l (.lst (xs++[y]))):=by
 have sm:Ai H (upd H t (.tup [rt,.ref gd,.int ((p.nd:Nat):Int),XN p.fs])):=Ai.new ht;have M1:=M.same sm;obtain ⟨ws,h1,h2⟩:=M1.wt;have ll:=Paired.len h2;rw [List.length_reverse] at ll;obtain ⟨M2,k2⟩:=M1.wait (L':=p::L) (ws:=ws++[.ref t]) (by
  rw [List.reverse_append];exact .cons ⟨t,rt,gd,b,rfl,Ad,Bo.mono (TSub.of_same sm) he,hg.mono (KS.of_same sm),hs⟩ h2)
 exact ⟨F.w,ws,.ref t,rfl,rfl,h1,EN (),q _ M2 ((KS.of_same sm).trans k2)⟩
theorem fR:Ak ["self","tree","given","node"] ["self","tree","given","node"] (Af BV):=nofun
theorem XO {f:Addr}{fd:FuncData}(F:B' K "ask" "Finder.ask" BV f fd)(T:CL K mg CF):Av Pr w K mg base Bs 1 f fd ["self","tree","given","node"] (JQ C CF):=by
 refine F.okS fR (λvs H Q E h=>?_) (λB7 A0 outer s0 H vs Q E hr h=>?_)
 ·obtain ⟨F,s,ls,A,L,e,g,nd,b,rt,gd,rfl,_⟩:=h;rfl
 ·obtain ⟨F,s,ls,A,L,e,g,nd,b,rt,gd,rfl,M,he,hg,hs,hl,q⟩:=h;obtain ⟨ws,h1,_⟩:=id M.wt;refine ⟨_,(Aj (Ap (EV PySem.F.plainAttrs_list PySem.F.slot_list_append PySem.F.type_list_append BS (Ao (Ah 0)) (Aa (Bi (Aa (Ah 1) (Aa (Ah 2) (Aa (Ah 3) (Aa GC Ae))))) Ae)))),?_⟩;refine ⟨_,rfl,F.p,CF,F.dx,_,_,rfl,M.ins,T.cl,T.nW,rfl,.inl ⟨rfl,_,AO.of h1⟩,_,rfl,_,rfl,_,rfl,BZ (Nat.le_of_ble_eq_true rfl),λt ht=>?_⟩;exact Ij (p:=⟨e,g,nd,none⟩) T M he hg hs hl q ht
theorem fT:Ak ["self","tree","given","node","first"] ["self","tree","given","node","first"] (Af AB):=nofun
theorem XQ {f:Addr}{fd:FuncData}(F:B' K "ask_behind_first" "Finder.ask_behind_first" AB f fd)(T:CL K mg CF):Av Pr w K mg base Bs 1 f fd ["self","tree","given","node","first"] (Vw C CF):=by
 refine F.okS fT (λvs H Q E h=>?_) (λB7 A0 outer s0 H vs Q E hr h=>?_)
 ·obtain ⟨F,s,ls,A,L,e,g,nd,b,f,rt,gd,rfl,_⟩:=h;rfl
 ·obtain ⟨F,s,ls,A,L,e,g,nd,b,f,rt,gd,rfl,M,he,hg,hs,hl,q⟩:=h;obtain ⟨ws,h1,_⟩:=id M.wt;refine ⟨_,(Aj (Ap (EV PySem.F.plainAttrs_list PySem.F.slot_list_append PySem.F.type_list_append BS (Ao (Ah 0)) (Aa (Bi (Aa (Ah 1) (Aa (Ah 2) (Aa (Ah 3) (Aa (Ah 4) Ae))))) Ae)))),?_⟩;refine ⟨_,rfl,F.p,CF,F.dx,_,_,rfl,M.ins,T.cl,T.nW,rfl,.inl ⟨rfl,_,AO.of h1⟩,_,rfl,_,rfl,_,rfl,_,rfl,BZ (Nat.le_of_ble_eq_true rfl),λt ht=>?_⟩;exact Ij (p:=⟨e,g,nd,some f⟩) T M he hg hs hl q ht
structure NM (Pr:Program)(w:World)(K:W.Frag)(mg:Str->Option Value)(base:Heap)(C CJ:Addr):Prop where
 nn:Mc Pr w K mg base Bs C 1 "new_node" ["self","word","inner"] (Ih C)
 ng:Mc Pr w K mg base Bs C 2 "new_gap" ["self"] (IJ C)
 dp:Mc Pr w K mg base Bs C 1 "go_deeper" ["self"] (Qa C)
 ms:Mc Pr w K mg base (De Pr w) C 4 "make_same" ["self","one","other"] (IK C CJ)
 cb:Mc Pr w K mg base Bs C 3 "come_back" ["self","top"] (Qm C)
 cp:Mc Pr w K mg base Bs C 3 "copied" ["self","top","level"] (Hd C)
theorem Mr {F:FA}{s:Ns}{ls:List Addr}{A:Nat->Prop}{L:List Fe}{H:Hp}{i j:Nat}{Q:VK}{E:XK}(M:Dk C CF F H s ls A L)(hi:A i)(hj:A j)(hn:s.n < 1000000)
  (q1:∀ s' H',Dk C CF F H' s' ls A L->Le s A s' A->s'.n=s.n->KS H H'->Q .non H') (q2:∀ H',KS H H'->E (.ref CJ) none H'):IK C CJ [.ref F.N.p,.int ((i:Nat):Int),.int ((j:Nat):Int)] H Q E :=
 ⟨F.N,s,ls,A,i,j,rfl,M.nod,M.ok,M.art,hi,hj,hn,λs' H' N' o' Vp en f=>q1 s' H' (M.work N' o' (M.art.le Vp en) (M.z0.le Vp) (M.z1.le Vp) f M.aw.2.2.2.2) Vp en (KS.off M.nod f),λH' f=>q2 H' (KS.off M.nod f)⟩
theorem Ms {F:FA}{s:Ns}{ls:List Addr}{A:Nat->Prop}{L:List Fe}{H:Hp}{t:Nat}{cs:List Nat}{l:Addr}{Q:VK}{E:XK}(M:Dk C CF F H s ls A L)(hl:H l=some (.lst (lsN cs)))(fr:fQ F l)(hc:∀ c∈cs,A c)(ht:t < 6)(h2:cs.length=arity t)(hn:s.n < 1000000)
  (q:∀ H',Dk C CF F H' (s.add t cs) (ls++[l]) (plus A s.n) L->KS H H'->Q (.int ((s.n:Nat):Int)) H'):Ih C [.ref F.N.p,.str (Bf t),.ref l] H Q E :=
 ⟨F.N,s,ls,t,cs,l,rfl,M.nod,hl,fr.2.1,fr.2.2.1,fr.2.2.2.1,fr.2.2.2.2,hn,λH' N' f=>let z:=M.add fr.1 hc ht h2 N' f;q H' z.1 z.2⟩
theorem Li {F:FA}{s:Ns}{ls:List Addr}{A:Nat->Prop}{L:List Fe}{H:Hp}{Q:VK}{E:XK}(M:Dk C CF F H s ls A L)(hn:s.n < 1000000)
  (q:∀ Cj H',Dk C CF F H' (s.add 2 []) Cj (plus A s.n) L->KS H H'->Q (.int ((s.n:Nat):Int)) H'):IJ C [.ref F.N.p] H Q E :=
 ⟨F.N,s,ls,rfl,M.nod,hn,λl H' hl N' f=>q _ H' (M.work N' (M.ok.add (λc hc=>by cases hc) (Nat.zero_le _)) (M.art.add ⟨⟩ rfl) (M.z0.le (Le.add M.ok)) (M.z1.le (Le.add M.ok)) f λz=>by
  rcases List.mem_append.mp z with z | z
  ·exact M.aw.2.2.2.2 z
  ·exact (M.fre hl).1 (List.mem_singleton.mp z).symm) (KS.off M.nod f)⟩
noncomputable def XR (C CF CJ:Addr):Sp:=λvs H Q E=>∃ (F:FA) (s:Ns) (ls:List Addr) (A:Nat->Prop) (L:List Fe) (nd t:Nat) (cs:List Nat) (l:Addr),vs=[.ref F.p,.int ((nd:Nat):Int),.str (Bf t),.ref l]/\Dk C CF F H s ls A L/\H l=some (.lst (lsN cs))/\fQ F l/\A nd/\(∀ c∈cs,A c)/\t < 6/\cs.length=arity t/\s.n < 900000 /\
 (∀ s' Cj A' H',Dk C CF F H' s' Cj A' L->Le s A s' A'->s'.n=s.n+1->KS H H'->Q .non H')/\∀ H',KS H H'->E (.ref CJ) none H'
theorem pO:Ak ["self","node","word","inner"] ["self","node","word","inner"] (Af B6):=nofun
theorem fU {f:Addr}{fd:FuncData}(F:B' K "has_sort" "Finder.has_sort" B6 f fd)(TF:CL K mg CF)(T:BR K mg C)(Z:NM Pr w K mg base C CJ):Av Pr w K mg base (De Pr w) 5 f fd ["self","node","word","inner"] (XR C CF CJ):=by
 refine F.okX pO (λvs H Q E h=>?_) (λB7 A0 outer s0 H vs Q E hr h=>?_)
 ·obtain ⟨F,s,ls,A,L,nd,t,cs,l,rfl,_⟩:=h;rfl
 ·obtain ⟨F,s,ls,A,L,nd,t,cs,l,rfl,M,hl,fr,hn,hc,ht,h2,hb,q1,q2⟩:=h;have BK:Am 1 _:=hr.mono ⟨⟩;have Hz:Am 4 _:=hr;have cMs:=Z.ms;have cNn:=Z.nn;refine ⟨_,(Aj (Ap (Es (Ao (Ah 0)) T.cl cMs NO Hz (Aa (Ah 1) (Aa (BF (Ao (Ah 0)) T.cl cNn BK (Aa (Ah 2) (Aa (Ah 3) Ae))) Ae))))),?_⟩;refine ⟨_,rfl,F.p,CF,F.dx,_,_,rfl,M.ins,TF.cl,TF.nN,rfl,F.N.p,F.N.dx,_,rfl,M.nod.ins,rfl,_,rfl,_,rfl,F.p,CF,F.dx,_,_,rfl,M.ins,TF.cl,TF.nN,rfl,F.N.p,F.N.dx,_,rfl,M.nod.ins,rfl,_,rfl,_,rfl,?_⟩;apply Ms M hl fr hc ht h2 () λH1 M1 k1=>?_;have le1:Le s A (s.add t cs) (plus A s.n):=Le.add M.ok;refine Mr M1 (.inl hn) (.inr rfl) (by show s.n+1 < 1000000;omega) (λs' H' M' Vp en k'=>?_) λH' k'=>q2 H' (k1.trans k');exact q1 s' _ _ H' M' (Le.trans M.ok le1 Vp) en (k1.trans k')
noncomputable def Qo (ks:List (Str × Nat)):List (Key × V):=ks.map λq=>((.inr q.1:Key),.int ((q.2:Nat):Int))
theorem NX {k:Nat}{ks:List (Str × Nat)}{x:Str}{n:Nat}:∀ {g:Gv},g.aan k (ks++[(x,n)])=(g.aan k ks).put x (n,k):=by
 induction ks with
 | nil=>exact rfl
 | cons p r ih =>
  obtain ⟨y,m⟩:=p;exact ih
theorem FY.put {H H':Hp}{d t:Addr}{g:Gv}{b n k:Nat}{x:Str}{kvs:List (Key × V)}(hd:H d=some (.dK kvs))(h:FY H d g b)(s:TSub H H')(ht:H' t=some (.tup [.int ((n:Nat):Int),.int ((k:Nat):Int)]))(h':H' d=some (.dK (putK kvs (.inr x) (.ref t)))):FY H' d (g.put x (n,k)) (b+1):=by
 obtain ⟨XS,h1,h2,h3⟩:=h;rw [hd] at h1;cases h1;refine ⟨_,h',by have:=(Ej kvs (.inr x) (.ref t)).1;omega,λy p e=>?_⟩;unfold Gv.put at e;rw [Fd];by_cases z:y=x
 ·subst z;rw [if_pos rfl] at e;cases e;exact ⟨t,if_pos rfl,ht⟩
 ·rw [if_neg z] at e;obtain ⟨u,a,c⟩:=h3 y p e;exact ⟨u,by rw [if_neg (λq=>z (Sum.inr.inj q))];exact a,s _ _ c⟩
noncomputable def Qp (C CF:Addr):Sp:=λvs H Q _=>∃ (F:FA) (s:Ns) (ls:List Addr) (A:Nat->Prop) (L:List Fe) (g:Gv) (b:Nat) (gd nl:Addr) (ks:List (Str × Nat)) (H0:Hp),vs=[.ref F.p,.ref gd,.ref nl]/\Dk C CF F H0 s ls A L/\Ai H0 H/\H0 nl=none/\H nl=some (.dK (Qo ks))/\FY H0 gd g b/\ks.length<=2/\b<=900000 /\
 ∀ d H',Ai H0 H'->FY H' d (g.aan s.k ks) (b+ks.length)->Q (.ref d) H'
theorem Mt:Ak ["self","given","names","wider","name","node"] ["self","given","names"] (Af AZ):=nofun
theorem XT {f:Addr}{fd:FuncData}(F:B' K "given_too" "Finder.given_too" AZ f fd)(TF:CL K mg CF)(T:BR K mg C)(Lj:mg "dict"=none):Av Pr w K mg base Bs 1 f fd ["self","given","names"] (Qp C CF):=by
 refine F.okS Mt (λvs H Q E h=>?_) (λB7 A0 outer s0 H vs Q E hr h=>?_)
 ·obtain ⟨F,s,ls,A,L,g,b,gd,nl,ks,H0,rfl,_⟩:=h;rfl
 ·obtain ⟨F,s,ls,A,L,g,b,gd,nl,ks,H0,rfl,M,s0,J7,hn,G0,h2,h9,q⟩:=h;have hu:=Cc hr;obtain ⟨kvs,JP,hb,hg⟩:=id G0;have hd:=s0 _ _ JP;refine ⟨_,(Ag (Au (i:=3) Mt.nd rfl (.inl rfl) (Dd Fj (by rfl) Lj PyProof.Rows.boot_dict (Aa (Ah 1) Ae)))
   (Ag (HX PassesOwn.never rfl (IG (Ed PySem.F.plainAttrs_dict PySem.F.slot_dict_items PySem.F.type_dict_items GQ (Ah 2))) (Jv rfl (Cw (Br (i:=4) Mt.nd rfl (.inl rfl)) (Cw (Br (i:=5) Mt.nd rfl (.inl rfl)) GH))) (Aj (DO hu (Ah 3) (Ah 4) (Bi (Aa (Ah 5) (Aa (Ao (Ao (Ah 0))) Ae))) rfl)))
   (Aj (B9 (Ah 3))))),?_⟩
  apply ⟨gd,_,rfl,.inl hd,λp1 Om=>?_⟩;have pP:H0 p1=none:=by
   cases z:H0 p1 with
   | none=>rfl
   | some o=>rw [s0 _ _ z] at Om;cases Om
  have s1:Ai H (upd H p1 (.dK kvs)):=Ai.new Om;have e1:(upd H p1 (.dK kvs)) p1=some (.dK kvs):=Ad;have np:p1≠nl:=λz=>by rw [z,hn] at Om;cases Om
  generalize upd H p1 (.dK kvs)=H1 at s1 e1 ⊢;have fV:=s1 _ _ hn;have xZ:=s0.trans s1;apply ⟨_,rfl,.inr (.inr (.inl ⟨rfl,.inl ⟨_,fV⟩⟩)),nl,Qo ks,rfl,rfl,fV,λvw Vr=>⟨vw,nl,Qo ks,rfl,Ad,by rw [Ac (Ab fV Vr)];exact fV,λo=>?_⟩⟩;have bX:Ai H1 (upd H1 vw (FU vw nl)):=Ai.new Vr;have G1:FY H1 p1 g b:=⟨kvs,e1,hb,λy p e=>let ⟨t,a,c⟩:=hg y p e;⟨t,a,xZ _ _ c⟩⟩;refine FH (o:=o) (d:=nl) (kvs:=Qo ks) (λi σ H3=>∃ x4 x5,σ=[some (.ref F.p),some (.ref gd),some (.ref nl),some (.ref p1),x4,x5]/\Ai H0 H3/\FY H3 p1 (g.aan s.k (ks.take i)) (b+i)/\H3 nl=some (.frz o (.dK (Qo ks))))
   ⟨_,_,rfl,Ai.put (xZ.trans bX) J7,?_,Ad⟩ (λi σ H3 _ z=>?_) (λi p σ H3 tT hp z hT=>?_) (fun σ H3 z=>?_)
  ·rw [List.take_zero];obtain ⟨kv,a1,a2,a3⟩:=G1.mono (KS.of_same bX);refine ⟨kv,by rw [Ac np];exact a1,a2,λy p e=>?_⟩;obtain ⟨t,b1,b2⟩:=a3 y p e;exact ⟨t,b1,by rw [Ac (λz:t=nl=>by rw [z,bX _ _ fV] at b2;cases b2)];exact b2⟩
  ·obtain ⟨_,_,_,_,_,z⟩:=z;exact z
  ·obtain ⟨x4,x5,rfl,s3,G3,y3⟩:=z;unfold Qo at hp;rw [List.getElem?_map] at hp;obtain ⟨⟨x,n⟩,hx,rfl⟩:=Option.map_eq_some_iff.mp hp;have hi:=(List.getElem?_eq_some_iff.mp hx).1;have XD:Ai H3 (upd H3 tT (.tup [.str x,.int ((n:Nat):Int)])):=Ai.new hT;refine ⟨tT,_,rfl,CZ.of Ad,rfl,_,_,rfl,_,_,rfl,rfl,?_⟩;have s4:=s3.trans XD;have G4:=G3.mono (KS.of_same XD);have hn4:=XD _ _ y3;have M4:=M.same s4;refine ⟨_,rfl,_,rfl,F.p,CF,F.dx,_,_,rfl,M4.ins,TF.cl,TF.nN,rfl,F.N.p,C,F.N.dx,_,_,rfl,M4.nod.ins,T.cl,T.nK,rfl,BZ (Nat.le_of_ble_eq_true rfl),λt ht=>?_⟩;have ht:(upd H3 tT (.tup [.str x,.int ((n:Nat):Int)])) t=none:=ht;obtain ⟨kv,a1,a2,a3⟩:=id G4;have Kd:Ai (upd H3 tT (.tup [.str x,.int ((n:Nat):Int)])) (upd (upd H3 tT (.tup [.str x,.int ((n:Nat):Int)])) t (.tup [.int ((n:Nat):Int),.int ((s.k:Nat):Int)])):=Ai.new ht;have tp:t≠p1:=λz=>(by rw [z,a1] at ht;cases ht);refine ⟨_,rfl,_,rfl,p1,_,rfl,.inl ⟨kv,.inr x,Kd _ _ a1,rfl,EN (),rfl⟩,?_⟩;refine ⟨_,_,rfl,Ai.put (s4.trans Kd) pP,?_,by rw [Ac (Ne.symm np)];exact Kd _ _ hn4⟩;rw [List.take_succ,hx,Option.toList_some,NX];exact FY.put a1 G4 (λb xs e=>by rw [Ac (λz:b=p1=>by rw [z,a1] at e;cases e)];exact Kd _ _ e) (by rw [Ac tp,Ad]) Ad
  ·obtain ⟨x4,x5,rfl,s3,G3,y3⟩:=z;have el:(Qo ks).length=ks.length:=List.length_map ..;rw [el,List.take_length] at G3;left;exact q p1 H3 s3 G3
end
end K
namespace L2
open PySem PySem.Spec PyProof.Rows KS KX
section
variable {X:Cx}
variable {i:Nat}{y:Str}{e o:Expr}{t ta:TE}{b₀:Stmt}{Md:List Stmt}{py apos FG pos:Pos}{hx:Option Expr}{n:Option Str}{C f:Addr}{m:Str}{k:Nat}{ps:List Str}{sp:Sp}
theorem Dl {pl:Sem Bool}(he:SE X o ta)(c:G9 X.K C)(M:Mc X.prog X.w X.K X.mg X.base Bs C k m ps sp)(hr:Am k X.A)
  (ht:eval (.Call (.Attribute o m apos) [] [] pos) X.env=(do
   let ov <- eval o X.env
   standAt apos.atName
   let (f,first) <- holding [ov] (getMethod ov m pl)
   callWith pos f first (backTo pos (starEach [] X.env)) (backToKw pos (keywordEach [] X.env))):=by rfl) :
  SE X (.Call (.Attribute o m apos) [] [] pos) (D0 C m sp [] E0 ta Dp):=by
 obtain ⟨f,fd,F,hb,hm⟩:=M;exact Sv he c hm F hr hb ht
end
end L2
namespace KN
open KM KX PySem
theorem Sub.mono {s s':Ns}{A A':Nat->Prop}{C:Nat}{p:Fe}(o:Ok s A)(le:Le s A s' A')(h:Sub s A C p):Sub s' A' C p :=
 ⟨h.fs,(le.li _ h.nd).1,by rw [le.k];exact h.g.mono o le,h.cl⟩
theorem Di.lim {s:Ns}{A:Nat->Prop}{lim k m:Nat}{L:List Fe}(h:Di s A lim k m L):m<=lim:=by
 induction h with
 | nil h=>exact h
 | ask _ _ _ _ _ _ ih=>omega
 | back _ _ _ _ _ _ _ _ _ ih=>omega
end KN
namespace K
open PySem L2 KM KS KN KX
section
variable {Pr:Program}{w:World}{K:W.Frag}{mg:Str->Option Value}{base:Heap}{C CF CJ:Addr}
structure FM (Pr:Program)(w:World)(K:W.Frag)(mg:Str->Option Value)(base:Heap)(C CF CJ:Addr):Prop where
 ask:Mc Pr w K mg base Bs CF 1 "ask" ["self","tree","given","node"] (JQ C CF)
 abf:Mc Pr w K mg base Bs CF 1 "ask_behind_first" ["self","tree","given","node","first"] (Vw C CF)
 hs:Mc Pr w K mg base (De Pr w) CF 5 "has_sort" ["self","node","word","inner"] (XR C CF CJ)
 gt:Mc Pr w K mg base Bs CF 1 "given_too" ["self","given","names"] (Qp C CF)
structure F4 (C CF:Addr)(F:FA)(H:Hp)(s:Ns)(ls:List Addr)(A:Nat->Prop)(L:List Fe)(e:Ex)(g:Gv)(nd b:Nat)(rt:V)(gd:Addr)(C0 lim:Nat)(xs:List Str):Prop where
 M:Dk C CF F H s ls A L
 he:Bo H e rt
 hg:FY H gd g b
 hb:b+2 * e.sz<=900000
 hn:A nd
 gk:Ge s A s.k C0 g
 cl:e.cl xs
 hs:GZ g xs
 st:Di s A lim s.k (s.n+cost C0 e) L
 lm:lim<=800000
 ll:fm L+2 * e.sz<=800000
noncomputable def AV (C CF CJ:Addr)(P:Ex->Prop):Sp:=λvs H Q E=>∃ (F:FA) (s:Ns) (ls:List Addr) (A:Nat->Prop) (L:List Fe) (e:Ex) (g:Gv) (nd b:Nat) (rt:V) (gd:Addr) (C0 lim:Nat) (xs:List Str),vs=[.ref F.p,rt,.ref gd,.int ((nd:Nat):Int)]/\P e/\F4 C CF F H s ls A L e g nd b rt gd C0 lim xs /\
 (∀ s' Cj A' L' H',Dk C CF F H' s' Cj A' L'->Di s' A' lim s'.k s'.n L'->fm L' < fm L+2 * e.sz->KS H H'->s.n<=s'.n->Q .non H')/\∀ H',KS H H'->E (.ref CJ) none H'
structure Th (C CF:Addr)(F:FA)(C0:Nat)(H0:Hp)(s0:Ns)(A0:Nat->Prop)(L0:List Fe)(j:Nat)(M:List Fe)(H:Hp)(s:Ns)(ls:List Addr)(A:Nat->Prop):Prop where
 fa:Dk C CF F H s ls A (M++L0)
 le:Le s0 A0 s A
 n:s.n<=s0.n+j
 ks:KS H0 H
 sub:∀ p∈M,Sub s A C0 p
section
variable {F:FA}{C0:Nat}{H0 H H':Hp}{s0 s s':Ns}{A0 A A':Nat->Prop}{L0 M:List Fe}{j i:Nat}{ls Cj:List Addr}{Q:VK}{E:XK}
theorem Th.step (o:Ok s0 A0)(t:Th C CF F C0 H0 s0 A0 L0 j M H s ls A)(M':Dk C CF F H' s' Cj A' (M++L0))(le:Le s A s' A')(n:s'.n<=s.n+i)(k:KS H H'):Th C CF F C0 H0 s0 A0 L0 (j+i) M H' s' Cj A' :=
 ⟨M',Le.trans o t.le le,by have:=t.n;omega,t.ks.trans k,λp hp=>(t.sub p hp).mono t.fa.ok le⟩
theorem Th.same (t:Th C CF F C0 H0 s0 A0 L0 j M H s ls A)(sm:Ai H H'):Th C CF F C0 H0 s0 A0 L0 j M H' s ls A:=⟨t.fa.same sm,t.le,t.n,t.ks.trans (KS.of_same sm),t.sub⟩
theorem Th.gap (o:Ok s0 A0)(t:Th C CF F C0 H0 s0 A0 L0 j M H s ls A)(hj:s0.n+j < 900000)(q:∀ Cj H',Th C CF F C0 H0 s0 A0 L0 (j+1) M H' (s.add 2 []) Cj (plus A s.n)->Q (.int ((s.n:Nat):Int)) H'):IJ C [.ref F.N.p] H Q E :=
 Li t.fa (by have:=t.n;omega) λCj H' M' k=>q Cj H' (t.step o M' (Le.add t.fa.ok) (Nat.le_refl _) k)
theorem Th.node (o:Ok s0 A0)(t:Th C CF F C0 H0 s0 A0 L0 j M H s ls A){g:Nat}{cs:List Nat}{l:Addr}(hl:H l=some (.lst (lsN cs)))(fr:fQ F l)(hc:∀ c∈cs,A c)(ht:g < 6)(h2:cs.length=arity g)(hj:s0.n+j < 900000)
  (q:∀ Cj H',Th C CF F C0 H0 s0 A0 L0 (j+1) M H' (s.add g cs) Cj (plus A s.n)->Q (.int ((s.n:Nat):Int)) H'):Ih C [.ref F.N.p,.str (Bf g),.ref l] H Q E :=
 Ms t.fa hl fr hc ht h2 (by have:=t.n;omega) λH' M' k=>q _ H' (t.step o M' (Le.add t.fa.ok) (Nat.le_refl _) k)
theorem Th.sort (o:Ok s0 A0)(t:Th C CF F C0 H0 s0 A0 L0 j M H s ls A){nd g:Nat}{cs:List Nat}{l:Addr}(hl:H l=some (.lst (lsN cs)))(fr:fQ F l)(hn:A nd)(hc:∀ c∈cs,A c)(ht:g < 6)(h2:cs.length=arity g)(hj:s0.n+j < 900000)
  (q:∀ s' Cj A' H',Th C CF F C0 H0 s0 A0 L0 (j+1) M H' s' Cj A'->(∀ i,A i->A' i)->Q .non H') (q2:∀ H',KS H0 H'->E (.ref CJ) none H'):XR C CF CJ [.ref F.p,.int ((nd:Nat):Int),.str (Bf g),.ref l] H Q E :=
 ⟨F,s,ls,A,M++L0,nd,g,cs,l,rfl,t.fa,hl,fr,hn,hc,ht,h2,by have:=t.n;omega,λs' Cj A' H' M' le en k=>q s' Cj A' H' (t.step o M' le (Nat.le_of_eq en) k) λi hi=>(le.li i hi).1,λH' k=>q2 H' (t.ks.trans k)⟩
theorem Th.aa7 (o:Ok s0 A0)(t:Th C CF F C0 H0 s0 A0 L0 j M H s ls A){x y:Nat}(hx:A x)(hy:A y)(hj:s0.n+j < 900000)
  (q:∀ s' H',Th C CF F C0 H0 s0 A0 L0 j M H' s' ls A->Q .non H') (q2:∀ H',KS H0 H'->E (.ref CJ) none H'):IK C CJ [.ref F.N.p,.int ((x:Nat):Int),.int ((y:Nat):Int)] H Q E :=
 Mr t.fa hx hy (by have:=t.n;omega) (λs' H' M' le en k=>q s' H' (t.step (i:=0) o M' le (Nat.le_of_eq en) k)) λH' k=>q2 H' (t.ks.trans k)
theorem Th.copy (o:Ok s0 A0)(t:Th C CF F C0 H0 s0 A0 L0 j M H s ls A){e l:Nat}(h:Ent s A C0 e l)(hj:s0.n+j+C0 < 900000)(q:∀ s' Cj A' r H',Th C CF F C0 H0 s0 A0 L0 (j+C0) M H' s' Cj A'->A' r->(∀ i,A i->A' i)->Q (.int ((r:Nat):Int)) H'):Hd C [.ref F.N.p,.int ((e:Nat):Int),.int ((l:Nat):Int)] H Q E :=
 ⟨F.N,s,ls,A,C0,e,l,rfl,t.fa.nod,t.fa.ok,t.fa.art,h,by have:=t.n;omega,λs' Cj A' r H' N' o' ar' le hr n f nb=>q s' Cj A' r H' (t.step o (t.fa.work N' o' ar' (t.fa.z0.le le) (t.fa.z1.le le) f λz=>by
  obtain ⟨ws,hw,_⟩:=t.fa.wt;rcases nb _ z with z | z
  ·exact t.fa.aw.2.2.2.2 z
  ·rw [hw] at z;cases z) le n (KS.off t.fa.nod f)) hr λi hi=>(le.li i hi).1⟩
theorem Th.asks (t:Th C CF F C0 H0 s0 A0 L0 j M H s ls A){e:Ex}{g:Gv}{nd b:Nat}{rt:V}{gd:Addr}{xs:List Str}(he:Bo H e rt)(hg:FY H gd g b)(hb:b+2 * e.sz<=900000)(hl:M.length+L0.length<=900000)(hn:A nd)(gk:Ge s A s.k C0 g)(cl:e.cl xs)(hs:GZ g xs)
  (q:∀ H',Th C CF F C0 H0 s0 A0 L0 j (⟨e,g,nd,none⟩::M) H' s ls A->KS H H'->Q .non H'):JQ C CF [.ref F.p,rt,.ref gd,.int ((nd:Nat):Int)] H Q E :=
 ⟨F,s,ls,A,M++L0,e,g,nd,b,rt,gd,rfl,t.fa,he,hg,hb,by rw [List.length_append];exact hl,λH' M' k=>q H' ⟨M',t.le,t.n,t.ks.trans k,λp hp=>by
  rcases List.mem_cons.mp hp with rfl | hp
  ·exact ⟨rfl,hn,gk,xs,cl,hs⟩
  ·exact t.sub p hp⟩ k⟩
theorem Th.too (t:Th C CF F C0 H0 s0 A0 L0 j M H s ls A){g:Gv}{b:Nat}{gd nl:Addr}{ks:List (Str × Nat)}{H1:Hp}(hg:FY H gd g b)(sm:Ai H H1)(J7:H nl=none)(h1:H1 nl=some (.dK (Qo ks)))(h2:ks.length<=2)(hb:b<=900000)
  (q:∀ d H',Ai H H'->Th C CF F C0 H0 s0 A0 L0 j M H' s ls A->FY H' d (g.aan s.k ks) (b+2)->Q (.ref d) H'):Qp C CF [.ref F.p,.ref gd,.ref nl] H1 Q E :=
 ⟨F,s,ls,A,M++L0,g,b,gd,nl,ks,H,rfl,t.fa,sm,J7,h1,hg,h2,hb,λd H' s' g'=>q d H' s' (t.same s') (g'.more ())⟩
end
section
variable {F:FA}{H:Hp}{s:Ns}{ls:List Addr}{A:Nat->Prop}{L:List Fe}{e:Ex}{g:Gv}{nd b:Nat}{rt:V}{gd:Addr}{C0 lim:Nat}{xs:List Str}
theorem F4.th (P:F4 C CF F H s ls A L e g nd b rt gd C0 lim xs):Th C CF F C0 H s A L 0 [] H s ls A:=⟨P.M,Le.refl _ _,Nat.le_refl _,KS.of_same (Ai.refl _),λp hp=>by cases hp⟩
theorem F4.done (P:F4 C CF F H s ls A L e g nd b rt gd C0 lim xs){j:Nat}{M:List Fe}{H':Hp}{s':Ns}{Cj:List Addr}{A':Nat->Prop}{Q:Hp->Prop}(q:∀ s' Cj A' L' H',Dk C CF F H' s' Cj A' L'->Di s' A' lim s'.k s'.n L'->fm L' < fm L+2 * e.sz->KS H H'->s.n<=s'.n->Q H')
  (t:Th C CF F C0 H s A L j M H' s' Cj A') (hc:j+CH C0 M<=cost C0 e) (hm:fm M < 2 * e.sz):Q H' :=
 q s' Cj A' (M++L) H' t.fa (Di.rule P.M.ok t.fa.ok t.le P.st (Nat.le_refl _) t.n t.sub hc) (by rw [XJ];omega) t.ks t.le.n
theorem F4.nn (P:F4 C CF F H s ls A L e g nd b rt gd C0 lim xs):s.n+cost C0 e<=800000:=Nat.le_trans P.st.lim P.lm
theorem F4.b9 (P:F4 C CF F H s ls A L e g nd b rt gd C0 lim xs):b<=900000:=by have:=P.hb;omega
theorem F4.len (P:F4 C CF F H s ls A L e g nd b rt gd C0 lim xs):L.length<=800000:=by
 have:=Qn P.st.pos;have:=P.ll;omega
theorem F4.aay (P:F4 C CF F H s ls A L e g nd b rt gd C0 lim xs){j:Nat}{M:List Fe}{H':Hp}{s':Ns}{Cj:List Addr}{A':Nat->Prop}{Q:VK}{E:XK}(t:Th C CF F C0 H s A L j M H' s' Cj A'){e':Ex}{ra:V}{n:Nat}(ha:Bo H e' ra)(hz:e'.sz<=e.sz)(hl:M.length<=3)(hn:A' n)(cl:e'.cl xs)
  (q:∀ Hf,Th C CF F C0 H s A L j (⟨e',g,n,none⟩::M) Hf s' Cj A'->Q .non Hf):JQ C CF [.ref F.p,ra,.ref gd,.int ((n:Nat):Int)] H' Q E :=
 t.asks (Bo.mono t.ks.tup ha) (P.hg.mono t.ks) (by have:=P.hb;omega) (by have:=P.len;omega) hn (t.le.k▸P.gk.mono P.M.ok t.le) cl P.hs λHf t' _=>q Hf t'
theorem F4.abr (P:F4 C CF F H s ls A L e g nd b rt gd C0 lim xs){j:Nat}{M:List Fe}{H':Hp}{s':Ns}{Cj:List Addr}{A':Nat->Prop}{Q:VK}{E:XK}(t:Th C CF F C0 H s A L j M H' s' Cj A'){e':Ex}{ra:V}{n:Nat}{d:Addr}{ks:List (Str × Nat)}{ys:List Str}(g':FY H' d (g.aan s'.k ks) (b+2))(ha:Bo H e' ra)(hz:e'.sz+1<=e.sz)(hl:M.length<=3)(hn:A' n)(hk:∀ p∈ks,A' p.2)(cl:e'.cl ys)(hs:GZ (g.aan s'.k ks) ys)
  (q:∀ Hf,Th C CF F C0 H s A L j (⟨e',g.aan s'.k ks,n,none⟩::M) Hf s' Cj A'->Q .non Hf):JQ C CF [.ref F.p,ra,.ref d,.int ((n:Nat):Int)] H' Q E :=
 t.asks (Bo.mono t.ks.tup ha) g' (by have:=P.hb;omega) (by have:=P.len;omega) hn (Ge.aan t.fa.ok (t.le.k▸P.gk.mono P.M.ok t.le) hk) cl hs λHf t' _=>q Hf t'
end
theorem AG {F:FA}{H:Hp}{s:Ns}{ls:List Addr}{A:Nat->Prop}{L:List Fe}(M:Dk C CF F H s ls A L)(TF:CL K mg CF){m:Str}{P:V->Prop}(h:(NH F.N s.k).lookup m=none)(q:P (.ref F.N.p)):
  ∃ a C' dx fs v,V.ref F.p=.ref a/\H a=some (.ins C' dx fs)/\G9 K C'/\BA K C' "nodes"/\fs.lookup ("nodes":Str)=some v/\∃ a dx fs,v=.ref a/\H a=some (.ins C dx fs)/\fs.lookup m=none/\P v :=
 ⟨F.p,CF,F.dx,_,_,rfl,M.ins,TF.cl,TF.nN,rfl,F.N.p,F.N.dx,_,rfl,M.nod.ins,h,q⟩
theorem Hg {A:Nat->Prop}{a b:Nat}(ha:A a)(hb:A b):∀ c∈[a,b],A c:=λc hc=>by
 rcases List.mem_cons.mp hc with rfl | hc
 ·exact ha
 ·rw [List.mem_singleton.mp hc];exact hb
theorem Lk {A:Nat->Prop}{a:Nat}(ha:A a):∀ c∈[a],A c:=λc hc=>by rw [List.mem_singleton.mp hc];exact ha
theorem dW {x y:Str}{m n:Nat}:Dx [] [((.inr x:Key),V.int ((m:Nat):Int)),((.inr y:Key),V.int ((n:Nat):Int))]=Qo (He x y m n):=by
 unfold He;by_cases e:x=y
 ·subst e;rw [if_pos rfl];show putK [((.inr x:Key),V.int ((m:Nat):Int))] (.inr x) (V.int ((n:Nat):Int))=_;simp [putK,Qo]
 ·rw [if_neg e];show putK [((.inr x:Key),V.int ((m:Nat):Int))] (.inr y) (V.int ((n:Nat):Int))=_;simp [putK,Qo,e]
theorem XU:Ak ["finder","tree","given","node","taken","told"] ["finder","tree","given","node"] (Af EZ):=nofun
theorem fX {f:Addr}{fd:FuncData}(F:B' K "find_fun" "find_fun" EZ f fd)(TF:CL K mg CF)(T:BR K mg C)(Z:NM Pr w K mg base C CJ)(Y:FM Pr w K mg base C CF CJ):Av Pr w K mg base (De Pr w) 6 f fd ["finder","tree","given","node"] (AV C CF CJ λe=>∃ x b,e=.fn x b):=by
 refine F.okX XU (λvs H Q E h=>?_) (λB7 A0 outer s0 H vs Q E hr h=>?_)
 ·obtain ⟨F,s,ls,A,L,e,g,nd,b,rt,gd,C0,lim,xs,rfl,_⟩:=h;rfl
 ·obtain ⟨F,s,ls,A,L,_,g,nd,b,rt,gd,C0,lim,xs,rfl,⟨x,eb,rfl⟩,P,q1,q2⟩:=h;have BK:Am 1 _:=hr.mono ⟨⟩;have DI:Am 2 _:=hr.mono ⟨⟩;obtain ⟨p,rb,rfl,hp,hb⟩:=P.he;refine ⟨_,(Ag (Au (i:=4) XU.nd rfl (.inl rfl) (Dl (Ao (Ah 0)) T.cl Z.ng DI))
   (Ag (Au (i:=5) XU.nd rfl (.inl rfl) (Dl (Ao (Ah 0)) T.cl Z.ng DI))
   (Ag (Ap (Es (Ah 0) TF.cl Y.hs NO hr (Aa (Ah 3) (Aa Aw (Aa (AU (Aa (Ah 4) (Aa (Ah 5) Ae))) Ae)))))
   (Aj (Ap (BF (Ah 0) TF.cl Y.ask BK (Aa (eI 1) (Aa (BF (Ah 0) TF.cl Y.gt BK (Aa (Ah 2) (Aa (GG (Ef (eI 1) (Ah 4) Js) rfl rfl (by simp) ⟨⟩) Ae))) (Aa (Ah 5) Ae))))))))),?_⟩
  have o:=P.M.ok;have nn:=P.nn;simp only [cost] at nn;apply AG P.M TF rfl ?_;apply P.th.gap o () λGg H1 t1=>?_;apply AG t1.fa TF rfl ?_;apply t1.gap o () λHy H2 t2=>?_;apply ⟨F.p,F.dx,_,rfl,t2.fa.ins,rfl,?_⟩;apply DH (BZ (Nat.le_of_ble_eq_true rfl)) λl H3 hl s3 e3=>?_;left;have a1:plus (plus A s.n) (s.add 2 []).n s.n:=.inl (.inr rfl);have a2:plus (plus A s.n) (s.add 2 []).n (s.n+1):=.inr rfl;refine (t2.same s3).sort (g:=3) (cs:=[s.n,s.n+1]) o e3 (t2.fa.fre hl) (.inl (.inl P.hn)) (Hg a1 a2) ⟨⟩ rfl () (λs4 fY A4 H4 t4 l4=>?_) q2;apply ⟨F.p,F.dx,_,rfl,t4.fa.ins,rfl,?_⟩;left;have pQ:=t4.ks.tup _ _ hp;refine An pQ (v:=rb) rfl ?_;apply ⟨F.p,F.dx,_,rfl,t4.fa.ins,rfl,?_⟩;apply Fp λnl H5 J7 s5 e5=>?_;apply An (s5 _ _ pQ) (v:=.str x) rfl ?_;apply ⟨e5,[(.inr x,.int ((s.n:Nat):Int))],rfl,by simp,λH6 k6 e6=>?_⟩;left;have s6:Ai H4 H6:=λb o e=>by rw [k6 b (Ab e J7)];exact s5 _ _ e
  refine t4.too (ks:=[(x,s.n)]) (P.hg.mono t4.ks) s6 J7 e6 (by simp) P.b9 λd H7 s7 t7 g7=>?_;apply P.abr t7 g7 hb (by simp only [Ex.sz];omega) (by simp) (l4 _ a2) (λp hp=>by rw [List.mem_singleton.mp hp];exact l4 _ a1) P.cl (P.hs.aan (ks:=[(x,s.n)])) λH8 t8=>?_;left;exact P.done (Q:=λH'=>Q .non H') q1 t8 (by simp [CH,cost]) (by simp [fm,IT,Ex.sz])
theorem Tb {F:FA}{H:Hp}{s:Ns}{ls:List Addr}{A:Nat->Prop}{L:List Fe}{σ:St}{Q:VK}{b:Bool}(h:σ[0]?=some (some (.ref F.p)))(M:Dk C CF F H s ls A L)(TF:CL K mg CF)(q:∀ x:Nat,A x->Q (.int ((x:Nat):Int)) H):if b=true then Km K (Bt 0) "number" σ H Q else Km K (Bt 0) "truth" σ H Q:=by
 cases b with
 | true=>exact Cm ⟨_,h,F.p,CF,F.dx,_,_,rfl,M.ins,TF.cl,TF.nU,rfl,q 0 M.z0.1⟩
 | false=>exact Ck ⟨_,h,F.p,CF,F.dx,_,_,rfl,M.ins,TF.cl,TF.nT,rfl,q 1 M.z1.1⟩
theorem pR:Ak ["finder","tree","given","node"] ["finder","tree","given","node"] (Af Dy):=nofun
theorem fZ {f:Addr}{fd:FuncData}(F:B' K "find_number" "find_number" Dy f fd)(TF:CL K mg CF)(T:BR K mg C)(Z:NM Pr w K mg base C CJ)(Y:FM Pr w K mg base C CF CJ):Av Pr w K mg base (De Pr w) 6 f fd ["finder","tree","given","node"] (AV C CF CJ λe=>∃ i,e=.num i):=by
 refine F.okX pR (λvs H Q E h=>?_) (λB7 A0 outer s0 H vs Q E hr h=>?_)
 ·obtain ⟨F,s,ls,A,L,e,g,nd,b,rt,gd,C0,lim,xs,rfl,_⟩:=h;rfl
 ·obtain ⟨F,s,ls,A,L,_,g,nd,b,rt,gd,C0,lim,xs,rfl,⟨i,rfl⟩,P,q1,q2⟩:=h;have BK:Am 1 _:=hr.mono ⟨⟩;have DI:Am 2 _:=hr.mono ⟨⟩;have J8:Am 3 _:=hr.mono ⟨⟩;have Hz:Am 4 _:=hr.mono ⟨⟩;have hu:=Cc hr;obtain ⟨p,rfl,hp⟩:=P.he;refine ⟨_,(Aj (Ap (Es (Ao (Ah 0)) T.cl Z.ms NO Hz (Aa (Ah 3) (Aa (Ao (Ah 0)) Ae))))),?_⟩;have o:=P.M.ok;have nn:=P.nn;simp only [cost] at nn;apply AG P.M TF rfl ?_;apply ⟨F.p,CF,F.dx,_,_,rfl,P.M.ins,TF.cl,TF.nU,rfl,?_⟩;apply P.th.aa7 o P.hn P.M.z0.1 () (λs1 H1 t1=>?_) q2;left;exact P.done (Q:=λH'=>Q .non H') q1 t1 (by simp only [CH,cost,List.map_cons,List.map_nil,List.sum_cons,List.sum_nil];omega) (by simp only [fm,IT,Ex.sz,List.map_cons,List.map_nil,List.sum_cons,List.sum_nil];omega)
theorem pS:Ak ["finder","tree","given","node"] ["finder","tree","given","node"] (Af DS):=nofun
theorem g0 {f:Addr}{fd:FuncData}(F:B' K "find_truth" "find_truth" DS f fd)(TF:CL K mg CF)(T:BR K mg C)(Z:NM Pr w K mg base C CJ)(Y:FM Pr w K mg base C CF CJ):Av Pr w K mg base (De Pr w) 6 f fd ["finder","tree","given","node"] (AV C CF CJ λe=>∃ i,e=.tru i):=by
 refine F.okX pS (λvs H Q E h=>?_) (λB7 A0 outer s0 H vs Q E hr h=>?_)
 ·obtain ⟨F,s,ls,A,L,e,g,nd,b,rt,gd,C0,lim,xs,rfl,_⟩:=h;rfl
 ·obtain ⟨F,s,ls,A,L,_,g,nd,b,rt,gd,C0,lim,xs,rfl,⟨i,rfl⟩,P,q1,q2⟩:=h;have BK:Am 1 _:=hr.mono ⟨⟩;have DI:Am 2 _:=hr.mono ⟨⟩;have J8:Am 3 _:=hr.mono ⟨⟩;have Hz:Am 4 _:=hr.mono ⟨⟩;have hu:=Cc hr;obtain ⟨p,rfl,hp⟩:=P.he;refine ⟨_,(Aj (Ap (Es (Ao (Ah 0)) T.cl Z.ms NO Hz (Aa (Ah 3) (Aa (Ao (Ah 0)) Ae))))),?_⟩;have o:=P.M.ok;have nn:=P.nn;simp only [cost] at nn;apply AG P.M TF rfl ?_;apply ⟨F.p,CF,F.dx,_,_,rfl,P.M.ins,TF.cl,TF.nT,rfl,?_⟩;apply P.th.aa7 o P.hn P.M.z1.1 () (λs1 H1 t1=>?_) q2;left;exact P.done (Q:=λH'=>Q .non H') q1 t1 (by simp only [CH,cost,List.map_cons,List.map_nil,List.sum_cons,List.sum_nil];omega) (by simp only [fm,IT,Ex.sz,List.map_cons,List.map_nil,List.sum_cons,List.sum_nil];omega)
theorem g9:Ak ["finder","tree","given","node","entry"] ["finder","tree","given","node"] (Af Ek):=nofun
theorem gb {f:Addr}{fd:FuncData}(F:B' K "find_name" "find_name" Ek f fd)(TF:CL K mg CF)(T:BR K mg C)(Z:NM Pr w K mg base C CJ)(Y:FM Pr w K mg base C CF CJ):Av Pr w K mg base (De Pr w) 6 f fd ["finder","tree","given","node"] (AV C CF CJ λe=>∃ x,e=.nm x):=by
 refine F.okX g9 (λvs H Q E h=>?_) (λB7 A0 outer s0 H vs Q E hr h=>?_)
 ·obtain ⟨F,s,ls,A,L,e,g,nd,b,rt,gd,C0,lim,xs,rfl,_⟩:=h;rfl
 ·obtain ⟨F,s,ls,A,L,_,g,nd,b,rt,gd,C0,lim,xs,rfl,⟨x,rfl⟩,P,q1,q2⟩:=h;have BK:Am 1 _:=hr.mono ⟨⟩;have DI:Am 2 _:=hr.mono ⟨⟩;have J8:Am 3 _:=hr.mono ⟨⟩;have Hz:Am 4 _:=hr.mono ⟨⟩;have hu:=Cc hr;obtain ⟨p,rfl,hp⟩:=P.he;refine ⟨_,(Ag (Au (i:=4) g9.nd rfl (.inl rfl) (KD hu (Ah 2) (eI 1) D1))
   (Aj (Ap (Es (Ao (Ah 0)) T.cl Z.ms NO Hz (Aa (Ah 3) (Aa (BF (Ao (Ah 0)) T.cl Z.cp J8 (Aa (eI 4) (Aa (eI 4) Ae))) Ae)))))),?_⟩
  have o:=P.M.ok;have nn:=P.nn;simp only [cost] at nn;apply An hp (v:=.str x) rfl ?_;obtain ⟨⟨en,lv⟩,hx⟩:=Option.isSome_iff_exists.mp (P.hs x P.cl);obtain ⟨kvs,hd,_,hv⟩:=P.hg;obtain ⟨te,hv1,y4⟩:=hv x _ hx;refine ⟨gd,.ref te,rfl,.inl ⟨kvs,.inr x,.inl hd,rfl,hv1.symm⟩,?_⟩;apply AG P.M TF rfl ?_;apply AG P.M TF rfl ?_;apply An y4 (v:=.int ((en:Nat):Int)) rfl ?_;apply An y4 (v:=.int ((lv:Nat):Int)) rfl ?_;apply P.th.copy o (P.gk x _ hx).1 () λs1 Gg A1 r H1 t1 Qq l1=>?_;apply t1.aa7 o (l1 _ P.hn) Qq () (λs2 H2 t2=>?_) q2;left;exact P.done (Q:=λH'=>Q .non H') q1 t2 (by simp only [CH,cost,List.map_cons,List.map_nil,List.sum_cons,List.sum_nil];omega) (by simp only [fm,IT,Ex.sz,List.map_cons,List.map_nil,List.sum_cons,List.sum_nil];omega)
theorem pT:Ak ["finder","tree","given","node"] ["finder","tree","given","node"] (Af DT):=nofun
theorem gc {f:Addr}{fd:FuncData}(F:B' K "find_empty" "find_empty" DT f fd)(TF:CL K mg CF)(T:BR K mg C)(Z:NM Pr w K mg base C CJ)(Y:FM Pr w K mg base C CF CJ):Av Pr w K mg base (De Pr w) 6 f fd ["finder","tree","given","node"] (AV C CF CJ λe=>e=.emp):=by
 refine F.okX pT (λvs H Q E h=>?_) (λB7 A0 outer s0 H vs Q E hr h=>?_)
 ·obtain ⟨F,s,ls,A,L,e,g,nd,b,rt,gd,C0,lim,xs,rfl,_⟩:=h;rfl
 ·obtain ⟨F,s,ls,A,L,_,g,nd,b,rt,gd,C0,lim,xs,rfl,rfl,P,q1,q2⟩:=h;have BK:Am 1 _:=hr.mono ⟨⟩;have DI:Am 2 _:=hr.mono ⟨⟩;have J8:Am 3 _:=hr.mono ⟨⟩;have Hz:Am 4 _:=hr.mono ⟨⟩;have hu:=Cc hr;obtain ⟨p,rfl,hp⟩:=P.he;refine ⟨_,(Aj (Ap (Es (Ah 0) TF.cl Y.hs NO hr (Aa (Ah 3) (Aa Aw (Aa (AU (Aa (Dl (Ao (Ah 0)) T.cl Z.ng DI) Ae)) Ae)))))),?_⟩;have o:=P.M.ok;have nn:=P.nn;simp only [cost] at nn;apply ⟨F.p,F.dx,_,rfl,P.M.ins,rfl,?_⟩;left;apply AG P.M TF rfl ?_;apply P.th.gap o () λGg H1 t1=>?_;apply DH (BZ (Nat.le_of_ble_eq_true rfl)) λl2 H2 E9 s2 e2=>?_;apply (t1.same s2).sort (g:=5) (cs:=[s.n]) o e2 (t1.fa.fre E9) (.inl P.hn) (Lk (.inr rfl)) ⟨⟩ rfl () (λs4 fY A4 H4 t4 l4=>?_) q2;left;exact P.done (Q:=λH'=>Q .non H') q1 t4 (by simp only [CH,cost,List.map_cons,List.map_nil,List.sum_cons,List.sum_nil];omega) (by simp only [fm,IT,Ex.sz,List.map_cons,List.map_nil,List.sum_cons,List.sum_nil];omega)
theorem XW:Ak ["finder","tree","given","node","taken","told"] ["finder","tree","given","node"] (Af F0):=nofun
theorem gf {f:Addr}{fd:FuncData}(F:B' K "find_rec" "find_rec" F0 f fd)(TF:CL K mg CF)(T:BR K mg C)(Z:NM Pr w K mg base C CJ)(Y:FM Pr w K mg base C CF CJ):Av Pr w K mg base (De Pr w) 6 f fd ["finder","tree","given","node"] (AV C CF CJ λe=>∃ f x b,e=.rc f x b):=by
 refine F.okX XW (λvs H Q E h=>?_) (λB7 A0 outer s0 H vs Q E hr h=>?_)
 ·obtain ⟨F,s,ls,A,L,e,g,nd,b,rt,gd,C0,lim,xs,rfl,_⟩:=h;rfl
 ·obtain ⟨F,s,ls,A,L,_,g,nd,b,rt,gd,C0,lim,xs,rfl,⟨x,y,eb,rfl⟩,P,q1,q2⟩:=h;have BK:Am 1 _:=hr.mono ⟨⟩;have DI:Am 2 _:=hr.mono ⟨⟩;have J8:Am 3 _:=hr.mono ⟨⟩;have Hz:Am 4 _:=hr.mono ⟨⟩;have hu:=Cc hr;obtain ⟨p,rb,rfl,hp,hb⟩:=P.he;refine ⟨_,(Ag (Au (i:=4) XW.nd rfl (.inl rfl) (Dl (Ao (Ah 0)) T.cl Z.ng DI))
   (Ag (Au (i:=5) XW.nd rfl (.inl rfl) (Dl (Ao (Ah 0)) T.cl Z.ng DI))
   (Ag (Ap (Es (Ah 0) TF.cl Y.hs NO hr (Aa (Ah 3) (Aa Aw (Aa (AU (Aa (Ah 4) (Aa (Ah 5) Ae))) Ae)))))
   (Aj (Ap (BF (Ah 0) TF.cl Y.ask BK (Aa (eI 1) (Aa (BF (Ah 0) TF.cl Y.gt BK (Aa (Ah 2) (Aa (GG (Ef (eI 1) (Ah 3) (Ef (eI 1) (Ah 4) Js)) rfl rfl (by simp) ⟨⟩) Ae))) (Aa (Ah 5) Ae))))))))),?_⟩
  have o:=P.M.ok;have nn:=P.nn;simp only [cost] at nn;apply AG P.M TF rfl ?_;apply P.th.gap o () λGg H1 t1=>?_;apply AG t1.fa TF rfl ?_;apply t1.gap o () λHy H2 t2=>?_;apply ⟨F.p,F.dx,_,rfl,t2.fa.ins,rfl,?_⟩;apply DH (BZ (Nat.le_of_ble_eq_true rfl)) λl3 H3 Tc s3 e3=>?_;left;have a1:plus (plus A s.n) (s.add 2 []).n s.n:=.inl (.inr rfl);have a2:plus (plus A s.n) (s.add 2 []).n (s.n+1):=.inr rfl;have a3:plus (plus A s.n) (s.add 2 []).n nd:=.inl (.inl P.hn);refine (t2.same s3).sort (g:=3) (cs:=[s.n,s.n+1]) o e3 (t2.fa.fre Tc) a3 (Hg a1 a2) ⟨⟩ rfl () (λs4 fY A4 H4 t4 l4=>?_) q2;apply ⟨F.p,F.dx,_,rfl,t4.fa.ins,rfl,?_⟩;apply An (t4.ks.tup _ _ hp) (v:=rb) rfl ?_;apply ⟨F.p,F.dx,_,rfl,t4.fa.ins,rfl,?_⟩;apply Fp λnl H5 J7 s5 e5=>?_;apply An (s5 _ _ (t4.ks.tup _ _ hp)) (v:=.str x) rfl ?_;apply An (s5 _ _ (t4.ks.tup _ _ hp)) (v:=.str y) rfl ?_;apply ⟨e5,[(.inr x,.int ((nd:Nat):Int)),(.inr y,.int ((s.n:Nat):Int))],rfl,by simp,λK6 k6 e6=>?_⟩;left;have s6:Ai _ K6:=λb o e=>by rw [k6 b (Ab e J7)];exact s5 _ _ e
  rw [dW] at e6;refine t4.too (ks:=He x y (nd) (s.n)) (P.hg.mono t4.ks) s6 J7 e6 (IS ..) P.b9 λd H6 s6 t6 g6=>?_;apply P.abr t6 g6 hb (by simp only [Ex.sz];omega) (by simp) (l4 _ a2) (IQ (l4 _ a3) (l4 _ a1)) P.cl P.hs.two λH8 t8=>?_;left;exact P.done (Q:=λH'=>Q .non H') q1 t8 (by simp only [CH,cost,List.map_cons,List.map_nil,List.sum_cons,List.sum_nil];omega) (by simp only [fm,IT,Ex.sz,List.map_cons,List.map_nil,List.sum_cons,List.sum_nil];omega)
theorem XX:Ak ["finder","tree","given","node","one","other"] ["finder","tree","given","node"] (Af En):=nofun
theorem gg {f:Addr}{fd:FuncData}(F:B' K "find_pair" "find_pair" En f fd)(TF:CL K mg CF)(T:BR K mg C)(Z:NM Pr w K mg base C CJ)(Y:FM Pr w K mg base C CF CJ):Av Pr w K mg base (De Pr w) 6 f fd ["finder","tree","given","node"] (AV C CF CJ λe=>∃ a b,e=.pr a b):=by
 refine F.okX XX (λvs H Q E h=>?_) (λB7 A0 outer s0 H vs Q E hr h=>?_)
 ·obtain ⟨F,s,ls,A,L,e,g,nd,b,rt,gd,C0,lim,xs,rfl,_⟩:=h;rfl
 ·obtain ⟨F,s,ls,A,L,_,g,nd,b,rt,gd,C0,lim,xs,rfl,⟨ea,eb,rfl⟩,P,q1,q2⟩:=h;have BK:Am 1 _:=hr.mono ⟨⟩;have DI:Am 2 _:=hr.mono ⟨⟩;have J8:Am 3 _:=hr.mono ⟨⟩;have Hz:Am 4 _:=hr.mono ⟨⟩;have hu:=Cc hr;obtain ⟨p,ra,rb,rfl,hp,ha,hb⟩:=P.he;refine ⟨_,(Ag (Au (i:=4) XX.nd rfl (.inl rfl) (Dl (Ao (Ah 0)) T.cl Z.ng DI))
   (Ag (Au (i:=5) XX.nd rfl (.inl rfl) (Dl (Ao (Ah 0)) T.cl Z.ng DI))
   (Ag (Ap (Es (Ah 0) TF.cl Y.hs NO hr (Aa (Ah 3) (Aa Aw (Aa (AU (Aa (Ah 4) (Aa (Ah 5) Ae))) Ae)))))
   (Ag (Ap (BF (Ah 0) TF.cl Y.ask BK (Aa (eI 1) (Aa (Ah 2) (Aa (Ah 4) Ae)))))
   (Aj (Ap (BF (Ah 0) TF.cl Y.ask BK (Aa (eI 1) (Aa (Ah 2) (Aa (Ah 5) Ae)))))))))),?_⟩
  have o:=P.M.ok;have nn:=P.nn;simp only [cost] at nn;apply AG P.M TF rfl ?_;apply P.th.gap o () λGg H1 t1=>?_;apply AG t1.fa TF rfl ?_;apply t1.gap o () λHy H2 t2=>?_;apply ⟨F.p,F.dx,_,rfl,t2.fa.ins,rfl,?_⟩;apply DH (BZ (Nat.le_of_ble_eq_true rfl)) λl3 H3 Tc s3 e3=>?_;left;have a1:plus (plus A s.n) (s.add 2 []).n s.n:=.inl (.inr rfl);have a2:plus (plus A s.n) (s.add 2 []).n (s.n+1):=.inr rfl;have a3:plus (plus A s.n) (s.add 2 []).n nd:=.inl (.inl P.hn);refine (t2.same s3).sort (g:=4) (cs:=[s.n,s.n+1]) o e3 (t2.fa.fre Tc) a3 (Hg a1 a2) ⟨⟩ rfl () (λs4 fY A4 H4 t4 l4=>?_) q2;apply ⟨F.p,F.dx,_,rfl,t4.fa.ins,rfl,?_⟩;apply An (t4.ks.tup _ _ hp) (v:=ra) rfl ?_;apply P.aay t4 ha (by simp only [Ex.sz];omega) (by simp) (l4 _ a1) P.cl.1 λH5 t5=>?_;apply ⟨F.p,F.dx,_,rfl,t5.fa.ins,rfl,?_⟩;apply An (t5.ks.tup _ _ hp) (v:=rb) rfl ?_;apply P.aay t5 hb (by simp only [Ex.sz];omega) (by simp) (l4 _ a2) P.cl.2 λH6 t6=>?_;left;exact P.done (Q:=λH'=>Q .non H') q1 t6 (by simp only [CH,cost,List.map_cons,List.map_nil,List.sum_cons,List.sum_nil];omega) (by simp only [fm,IT,Ex.sz,List.map_cons,List.map_nil,List.sum_cons,List.sum_nil];omega)
theorem gh:Ak ["finder","tree","given","node","one"] ["finder","tree","given","node"] (Af Ep):=nofun
theorem gj {f:Addr}{fd:FuncData}(F:B' K "find_link" "find_link" Ep f fd)(TF:CL K mg CF)(T:BR K mg C)(Z:NM Pr w K mg base C CJ)(Y:FM Pr w K mg base C CF CJ):Av Pr w K mg base (De Pr w) 6 f fd ["finder","tree","given","node"] (AV C CF CJ λe=>∃ a b,e=.lk a b):=by
 refine F.okX gh (λvs H Q E h=>?_) (λB7 A0 outer s0 H vs Q E hr h=>?_)
 ·obtain ⟨F,s,ls,A,L,e,g,nd,b,rt,gd,C0,lim,xs,rfl,_⟩:=h;rfl
 ·obtain ⟨F,s,ls,A,L,_,g,nd,b,rt,gd,C0,lim,xs,rfl,⟨ea,eb,rfl⟩,P,q1,q2⟩:=h;have BK:Am 1 _:=hr.mono ⟨⟩;have DI:Am 2 _:=hr.mono ⟨⟩;have J8:Am 3 _:=hr.mono ⟨⟩;have Hz:Am 4 _:=hr.mono ⟨⟩;have hu:=Cc hr;obtain ⟨p,ra,rb,rfl,hp,ha,hb⟩:=P.he;refine ⟨_,(Ag (Au (i:=4) gh.nd rfl (.inl rfl) (Dl (Ao (Ah 0)) T.cl Z.ng DI))
   (Ag (Ap (Es (Ah 0) TF.cl Y.hs NO hr (Aa (Ah 3) (Aa Aw (Aa (AU (Aa (Ah 4) Ae)) Ae)))))
   (Ag (Ap (BF (Ah 0) TF.cl Y.ask BK (Aa (eI 1) (Aa (Ah 2) (Aa (Ah 4) Ae)))))
   (Aj (Ap (BF (Ah 0) TF.cl Y.ask BK (Aa (eI 1) (Aa (Ah 2) (Aa (Ah 3) Ae))))))))),?_⟩
  have o:=P.M.ok;have nn:=P.nn;simp only [cost] at nn;apply AG P.M TF rfl ?_;apply P.th.gap o () λGg H1 t1=>?_;apply ⟨F.p,F.dx,_,rfl,t1.fa.ins,rfl,?_⟩;apply DH (BZ (Nat.le_of_ble_eq_true rfl)) λl3 H3 Tc s3 e3=>?_;apply (t1.same s3).sort (g:=5) (cs:=[s.n]) o e3 (t1.fa.fre Tc) (.inl P.hn) (Lk (.inr rfl)) ⟨⟩ rfl () (λs4 fY A4 H4 t4 l4=>?_) q2;apply ⟨F.p,F.dx,_,rfl,t4.fa.ins,rfl,?_⟩;apply An (t4.ks.tup _ _ hp) (v:=ra) rfl ?_;apply P.aay t4 ha (by simp only [Ex.sz];omega) (by simp) (l4 _ (.inr rfl)) P.cl.1 λH5 t5=>?_;apply ⟨F.p,F.dx,_,rfl,t5.fa.ins,rfl,?_⟩;apply An (t5.ks.tup _ _ hp) (v:=rb) rfl ?_;apply P.aay t5 hb (by simp only [Ex.sz];omega) (by simp) (l4 _ (.inl P.hn)) P.cl.2 λH6 t6=>?_;left;exact P.done (Q:=λH'=>Q .non H') q1 t6 (by simp only [CH,cost,List.map_cons,List.map_nil,List.sum_cons,List.sum_nil];omega) (by simp only [fm,IT,Ex.sz,List.map_cons,List.map_nil,List.sum_cons,List.sum_nil];omega)
theorem gm:Ak ["finder","tree","given","node","taken"] ["finder","tree","given","node"] (Af El):=nofun
theorem gp {f:Addr}{fd:FuncData}(F:B' K "find_call" "find_call" El f fd)(TF:CL K mg CF)(T:BR K mg C)(Z:NM Pr w K mg base C CJ)(Y:FM Pr w K mg base C CF CJ):Av Pr w K mg base (De Pr w) 6 f fd ["finder","tree","given","node"] (AV C CF CJ λe=>∃ a b,e=.cal a b):=by
 refine F.okX gm (λvs H Q E h=>?_) (λB7 A0 outer s0 H vs Q E hr h=>?_)
 ·obtain ⟨F,s,ls,A,L,e,g,nd,b,rt,gd,C0,lim,xs,rfl,_⟩:=h;rfl
 ·obtain ⟨F,s,ls,A,L,_,g,nd,b,rt,gd,C0,lim,xs,rfl,⟨ea,eb,rfl⟩,P,q1,q2⟩:=h;have BK:Am 1 _:=hr.mono ⟨⟩;have DI:Am 2 _:=hr.mono ⟨⟩;have J8:Am 3 _:=hr.mono ⟨⟩;have Hz:Am 4 _:=hr.mono ⟨⟩;have hu:=Cc hr;obtain ⟨p,ra,rb,rfl,hp,ha,hb⟩:=P.he;refine ⟨_,(Ag (Au (i:=4) gm.nd rfl (.inl rfl) (Dl (Ao (Ah 0)) T.cl Z.ng DI))
   (Ag (Ap (BF (Ah 0) TF.cl Y.ask BK (Aa (eI 1) (Aa (Ah 2) (Aa (BF (Ao (Ah 0)) T.cl Z.nn BK (Aa Aw (Aa (AU (Aa (Ah 4) (Aa (Ah 3) Ae))) Ae))) Ae)))))
   (Aj (Ap (BF (Ah 0) TF.cl Y.ask BK (Aa (eI 1) (Aa (Ah 2) (Aa (Ah 4) Ae)))))))),?_⟩
  have o:=P.M.ok;have nn:=P.nn;simp only [cost] at nn;apply AG P.M TF rfl ?_;apply P.th.gap o () λGg H1 t1=>?_;apply ⟨F.p,F.dx,_,rfl,t1.fa.ins,rfl,?_⟩;apply An (t1.ks.tup _ _ hp) (v:=ra) rfl ?_;apply AG t1.fa TF rfl ?_;apply DH (BZ (Nat.le_of_ble_eq_true rfl)) λl2 H2 E9 s2 e2=>?_;apply (t1.same s2).node (g:=3) (cs:=[s.n,nd]) o e2 (t1.fa.fre E9) (Hg (.inr rfl) (.inl P.hn)) ⟨⟩ rfl () λls3 H3 t3=>?_;apply P.aay t3 ha (by simp only [Ex.sz];omega) (by simp) (.inr rfl) P.cl.1 λH4 t4=>?_;apply ⟨F.p,F.dx,_,rfl,t4.fa.ins,rfl,?_⟩;apply An (t4.ks.tup _ _ hp) (v:=rb) rfl ?_;apply P.aay t4 hb (by simp only [Ex.sz];omega) (by simp) (.inl (.inr rfl)) P.cl.2 λH5 t5=>?_;left;exact P.done (Q:=λH'=>Q .non H') q1 t5 (by simp only [CH,cost,List.map_cons,List.map_nil,List.sum_cons,List.sum_nil];omega) (by simp only [fm,IT,Ex.sz,List.map_cons,List.map_nil,List.sum_cons,List.sum_nil];omega)
theorem pU:Ak ["finder","tree","given","node"] ["finder","tree","given","node"] (Af Em):=nofun
theorem gq {f:Addr}{fd:FuncData}(F:B' K "find_when" "find_when" Em f fd)(TF:CL K mg CF)(T:BR K mg C)(Z:NM Pr w K mg base C CJ)(Y:FM Pr w K mg base C CF CJ):Av Pr w K mg base (De Pr w) 6 f fd ["finder","tree","given","node"] (AV C CF CJ λe=>∃ a b c,e=.wh a b c):=by
 refine F.okX pU (λvs H Q E h=>?_) (λB7 A0 outer s0 H vs Q E hr h=>?_)
 ·obtain ⟨F,s,ls,A,L,e,g,nd,b,rt,gd,C0,lim,xs,rfl,_⟩:=h;rfl
 ·obtain ⟨F,s,ls,A,L,_,g,nd,b,rt,gd,C0,lim,xs,rfl,⟨ea,eb,ec,rfl⟩,P,q1,q2⟩:=h;have BK:Am 1 _:=hr.mono ⟨⟩;have DI:Am 2 _:=hr.mono ⟨⟩;have J8:Am 3 _:=hr.mono ⟨⟩;have Hz:Am 4 _:=hr.mono ⟨⟩;have hu:=Cc hr;obtain ⟨p,ra,rb,rc,rfl,hp,ha,hb,hc⟩:=P.he;refine ⟨_,(Ag (Ap (BF (Ah 0) TF.cl Y.ask BK (Aa (eI 1) (Aa (Ah 2) (Aa (Ao (Ah 0)) Ae)))))
   (Ag (Ap (BF (Ah 0) TF.cl Y.ask BK (Aa (eI 1) (Aa (Ah 2) (Aa (Ah 3) Ae)))))
   (Aj (Ap (BF (Ah 0) TF.cl Y.ask BK (Aa (eI 1) (Aa (Ah 2) (Aa (Ah 3) Ae)))))))),?_⟩
  have o:=P.M.ok;have nn:=P.nn;simp only [cost] at nn;apply ⟨F.p,F.dx,_,rfl,P.M.ins,rfl,?_⟩;apply An (P.th.ks.tup _ _ hp) (v:=ra) rfl ?_;apply ⟨F.p,CF,F.dx,_,_,rfl,P.M.ins,TF.cl,TF.nT,rfl,?_⟩;apply P.aay (n:=1) P.th ha (by simp only [Ex.sz];omega) (by simp) P.M.z1.1 P.cl.1 λH1 t1=>?_;apply ⟨F.p,F.dx,_,rfl,t1.fa.ins,rfl,?_⟩;apply An (t1.ks.tup _ _ hp) (v:=rb) rfl ?_;apply P.aay t1 hb (by simp only [Ex.sz];omega) (by simp) P.hn P.cl.2.1 λH2 t2=>?_;apply ⟨F.p,F.dx,_,rfl,t2.fa.ins,rfl,?_⟩;apply An (t2.ks.tup _ _ hp) (v:=rc) rfl ?_;apply P.aay t2 hc (by simp only [Ex.sz];omega) (by simp) P.hn P.cl.2.2 λH3 t3=>?_;left;exact P.done (Q:=λH'=>Q .non H') q1 t3 (by simp only [CH,cost,List.map_cons,List.map_nil,List.sum_cons,List.sum_nil];omega) (by simp only [fm,IT,Ex.sz,List.map_cons,List.map_nil,List.sum_cons,List.sum_nil];omega)
theorem pV:Ak ["finder","tree","given","node"] ["finder","tree","given","node"] (Af FI):=nofun
theorem gu {f:Addr}{fd:FuncData}(F:B' K "find_op" "find_op" FI f fd)(TF:CL K mg CF)(T:BR K mg C)(Z:NM Pr w K mg base C CJ)(Y:FM Pr w K mg base C CF CJ):Av Pr w K mg base (De Pr w) 6 f fd ["finder","tree","given","node"] (AV C CF CJ λe=>∃ w a b,e=.op w a b):=by
 refine F.okX pV (λvs H Q E h=>?_) (λB7 A0 outer s0 H vs Q E hr h=>?_)
 ·obtain ⟨F,s,ls,A,L,e,g,nd,b,rt,gd,C0,lim,xs,rfl,_⟩:=h;rfl
 ·obtain ⟨F,s,ls,A,L,_,g,nd,b,rt,gd,C0,lim,xs,rfl,⟨ow,ea,eb,rfl⟩,P,q1,q2⟩:=h;have BK:Am 1 _:=hr.mono ⟨⟩;have DI:Am 2 _:=hr.mono ⟨⟩;have J8:Am 3 _:=hr.mono ⟨⟩;have Hz:Am 4 _:=hr.mono ⟨⟩;have hu:=Cc hr;obtain ⟨p,ra,rb,rfl,hp,ha,hb⟩:=P.he;refine ⟨_,(Ag (Ap (Es (Ao (Ah 0)) T.cl Z.ms NO Hz (Aa (Ah 3) (Aa (KC (B1 (r:=bf K false) Ey (eI 1) (Bi (Aa Aw (Aa Aw Ae))) rfl) (Ao (Ah 0)) (Ao (Ah 0))) Ae))))
   (Ag (Ap (BF (Ah 0) TF.cl Y.ask BK (Aa (eI 1) (Aa (Ah 2) (Aa (Ao (Ah 0)) Ae)))))
   (Aj (Ap (BF (Ah 0) TF.cl Y.ask BK (Aa (eI 1) (Aa (Ah 2) (Aa (Ao (Ah 0)) Ae)))))))),?_⟩
  have o:=P.M.ok;have nn:=P.nn;simp only [cost] at nn;apply AG P.M TF rfl ?_;apply An hp (v:=.str ow) rfl ?_;apply DH (BZ (Nat.le_of_ble_eq_true rfl)) λl1 H1 Dr s1 e1=>?_;have t1:=P.th.same s1;apply Mh (.inr (CZ.of e1)) rfl rfl ?_;apply Tb rfl t1.fa TF λx hx=>?_;apply t1.aa7 o P.hn hx () (λs2 H2 t2=>?_) q2;apply ⟨F.p,F.dx,_,rfl,t2.fa.ins,rfl,?_⟩;apply An (t2.ks.tup _ _ hp) (v:=ra) rfl ?_;apply ⟨F.p,CF,F.dx,_,_,rfl,t2.fa.ins,TF.cl,TF.nU,rfl,?_⟩;apply P.aay (n:=0) t2 ha (by simp only [Ex.sz];omega) (by simp) t2.fa.z0.1 P.cl.1 λH3 t3=>?_;apply ⟨F.p,F.dx,_,rfl,t3.fa.ins,rfl,?_⟩;apply An (t3.ks.tup _ _ hp) (v:=rb) rfl ?_;apply ⟨F.p,CF,F.dx,_,_,rfl,t3.fa.ins,TF.cl,TF.nU,rfl,?_⟩;apply P.aay (n:=0) t3 hb (by simp only [Ex.sz];omega) (by simp) t3.fa.z0.1 P.cl.2 λH4 t4=>?_;left;exact P.done (Q:=λH'=>Q .non H') q1 t4 (by simp only [CH,cost,List.map_cons,List.map_nil,List.sum_cons,List.sum_nil];omega) (by simp only [fm,IT,Ex.sz,List.map_cons,List.map_nil,List.sum_cons,List.sum_nil];omega)
theorem XY:Ak ["finder","tree","given","node","one","other"] ["finder","tree","given","node"] (Af Eo):=nofun
theorem gv {f:Addr}{fd:FuncData}(F:B' K "find_open" "find_open" Eo f fd)(TF:CL K mg CF)(T:BR K mg C)(Z:NM Pr w K mg base C CJ)(Y:FM Pr w K mg base C CF CJ):Av Pr w K mg base (De Pr w) 6 f fd ["finder","tree","given","node"] (AV C CF CJ λe=>∃ a x y b,e=.opn a x y b):=by
 refine F.okX XY (λvs H Q E h=>?_) (λB7 A0 outer s0 H vs Q E hr h=>?_)
 ·obtain ⟨F,s,ls,A,L,e,g,nd,b,rt,gd,C0,lim,xs,rfl,_⟩:=h;rfl
 ·obtain ⟨F,s,ls,A,L,_,g,nd,b,rt,gd,C0,lim,xs,rfl,⟨ea,x,y,eb,rfl⟩,P,q1,q2⟩:=h;have BK:Am 1 _:=hr.mono ⟨⟩;have DI:Am 2 _:=hr.mono ⟨⟩;have J8:Am 3 _:=hr.mono ⟨⟩;have Hz:Am 4 _:=hr.mono ⟨⟩;have hu:=Cc hr;obtain ⟨p,ra,rb,rfl,hp,ha,hb⟩:=P.he;refine ⟨_,(Ag (Au (i:=4) XY.nd rfl (.inl rfl) (Dl (Ao (Ah 0)) T.cl Z.ng DI))
   (Ag (Au (i:=5) XY.nd rfl (.inl rfl) (Dl (Ao (Ah 0)) T.cl Z.ng DI))
   (Ag (Ap (BF (Ah 0) TF.cl Y.ask BK (Aa (eI 1) (Aa (Ah 2) (Aa (BF (Ao (Ah 0)) T.cl Z.nn BK (Aa Aw (Aa (AU (Aa (Ah 4) (Aa (Ah 5) Ae))) Ae))) Ae)))))
   (Aj (Ap (BF (Ah 0) TF.cl Y.ask BK (Aa (eI 1) (Aa (BF (Ah 0) TF.cl Y.gt BK (Aa (Ah 2) (Aa (GG (Ef (eI 1) (Ah 4) (Ef (eI 1) (Ah 5) Js)) rfl rfl (by simp) ⟨⟩) Ae))) (Aa (Ah 3) Ae))))))))),?_⟩
  have o:=P.M.ok;have nn:=P.nn;simp only [cost] at nn;apply AG P.M TF rfl ?_;apply P.th.gap o () λGg H1 t1=>?_;apply AG t1.fa TF rfl ?_;apply t1.gap o () λHy H2 t2=>?_;apply ⟨F.p,F.dx,_,rfl,t2.fa.ins,rfl,?_⟩;apply An (t2.ks.tup _ _ hp) (v:=ra) rfl ?_;apply AG t2.fa TF rfl ?_;apply DH (BZ (Nat.le_of_ble_eq_true rfl)) λl3 H3 Tc s3 e3=>?_;left;have a1:plus (plus A s.n) (s.add 2 []).n s.n:=.inl (.inr rfl);have a2:plus (plus A s.n) (s.add 2 []).n (s.n+1):=.inr rfl;have a3:plus (plus A s.n) (s.add 2 []).n nd:=.inl (.inl P.hn);refine (t2.same s3).node (g:=4) (cs:=[s.n,s.n+1]) o e3 (t2.fa.fre Tc) (Hg a1 a2) ⟨⟩ rfl () λfY H4 t4=>?_;apply P.aay t4 ha (by simp only [Ex.sz];omega) (by simp) (.inr rfl) P.cl.1 λH5 t5=>?_;apply ⟨F.p,F.dx,_,rfl,t5.fa.ins,rfl,?_⟩;apply An (t5.ks.tup _ _ hp) (v:=rb) rfl ?_;apply ⟨F.p,F.dx,_,rfl,t5.fa.ins,rfl,?_⟩;apply Fp λnl H6 J7 s6 e6=>?_;apply An (s6 _ _ (t5.ks.tup _ _ hp)) (v:=.str x) rfl ?_;apply An (s6 _ _ (t5.ks.tup _ _ hp)) (v:=.str y) rfl ?_;apply ⟨e6,[(.inr x,.int ((s.n:Nat):Int)),(.inr y,.int ((s.n+1:Nat):Int))],rfl,by simp,λK6 k6 e6=>?_⟩;left;have s6:Ai _ K6:=λb o e=>by rw [k6 b (Ab e J7)];exact s6 _ _ e
  rw [dW] at e6;refine t5.too (ks:=He x y (s.n) (s.n+1)) (P.hg.mono t5.ks) s6 J7 e6 (IS ..) P.b9 λd H7 s7 t7 g7=>?_;apply P.abr t7 g7 hb (by simp only [Ex.sz];omega) (by simp) (.inl a3) (IQ (.inl a1) (.inl a2)) P.cl.2 P.hs.two λH8 t8=>?_;left;exact P.done (Q:=λH'=>Q .non H') q1 t8 (by simp only [CH,cost,List.map_cons,List.map_nil,List.sum_cons,List.sum_nil];omega) (by simp only [fm,IT,Ex.sz,List.map_cons,List.map_nil,List.sum_cons,List.sum_nil];omega)
theorem XZ:Ak ["finder","tree","given","node","one","whole"] ["finder","tree","given","node"] (Af DU):=nofun
theorem gw {f:Addr}{fd:FuncData}(F:B' K "find_split" "find_split" DU f fd)(TF:CL K mg CF)(T:BR K mg C)(Z:NM Pr w K mg base C CJ)(Y:FM Pr w K mg base C CF CJ):Av Pr w K mg base (De Pr w) 6 f fd ["finder","tree","given","node"] (AV C CF CJ λe=>∃ a b x y c,e=.spl a b x y c):=by
 refine F.okX XZ (λvs H Q E h=>?_) (λB7 A0 outer s0 H vs Q E hr h=>?_)
 ·obtain ⟨F,s,ls,A,L,e,g,nd,b,rt,gd,C0,lim,xs,rfl,_⟩:=h;rfl
 ·obtain ⟨F,s,ls,A,L,_,g,nd,b,rt,gd,C0,lim,xs,rfl,⟨ea,eb,x,y,ec,rfl⟩,P,q1,q2⟩:=h;have BK:Am 1 _:=hr.mono ⟨⟩;have DI:Am 2 _:=hr.mono ⟨⟩;have J8:Am 3 _:=hr.mono ⟨⟩;have Hz:Am 4 _:=hr.mono ⟨⟩;have hu:=Cc hr;obtain ⟨p,ra,rb,rc,rfl,hp,ha,hb,hc⟩:=P.he;refine ⟨_,(Ag (Au (i:=4) XZ.nd rfl (.inl rfl) (Dl (Ao (Ah 0)) T.cl Z.ng DI))
   (Ag (Au (i:=5) XZ.nd rfl (.inl rfl) (BF (Ao (Ah 0)) T.cl Z.nn BK (Aa Aw (Aa (AU (Aa (Ah 4) Ae)) Ae))))
   (Ag (Ap (BF (Ah 0) TF.cl Y.ask BK (Aa (eI 1) (Aa (Ah 2) (Aa (Ah 5) Ae)))))
   (Ag (Ap (BF (Ah 0) TF.cl Y.ask BK (Aa (eI 1) (Aa (Ah 2) (Aa (Ah 3) Ae)))))
   (Aj (Ap (BF (Ah 0) TF.cl Y.ask BK (Aa (eI 1) (Aa (BF (Ah 0) TF.cl Y.gt BK (Aa (Ah 2) (Aa (GG (Ef (eI 1) (Ah 4) (Ef (eI 1) (Ah 5) Js)) rfl rfl (by simp) ⟨⟩) Ae))) (Aa (Ah 3) Ae)))))))))),?_⟩
  have o:=P.M.ok;have nn:=P.nn;simp only [cost] at nn;apply AG P.M TF rfl ?_;apply P.th.gap o () λGg H1 t1=>?_;apply AG t1.fa TF rfl ?_;apply DH (BZ (Nat.le_of_ble_eq_true rfl)) λl2 H2 E9 s2 e2=>?_;apply (t1.same s2).node (g:=5) (cs:=[s.n]) o e2 (t1.fa.fre E9) (Lk (.inr rfl)) ⟨⟩ rfl () λls3 H3 t3=>?_;have a1:plus (plus A s.n) (s.add 2 []).n s.n:=.inl (.inr rfl);have a2:plus (plus A s.n) (s.add 2 []).n (s.n+1):=.inr rfl;have a3:plus (plus A s.n) (s.add 2 []).n nd:=.inl (.inl P.hn);apply ⟨F.p,F.dx,_,rfl,t3.fa.ins,rfl,?_⟩;apply An (t3.ks.tup _ _ hp) (v:=ra) rfl ?_;apply P.aay t3 ha (by simp only [Ex.sz];omega) (by simp) a2 P.cl.1 λH4 t4=>?_;apply ⟨F.p,F.dx,_,rfl,t4.fa.ins,rfl,?_⟩;apply An (t4.ks.tup _ _ hp) (v:=rb) rfl ?_;apply P.aay t4 hb (by simp only [Ex.sz];omega) (by simp) a3 P.cl.2.1 λH5 t5=>?_;apply ⟨F.p,F.dx,_,rfl,t5.fa.ins,rfl,?_⟩;apply An (t5.ks.tup _ _ hp) (v:=rc) rfl ?_;apply ⟨F.p,F.dx,_,rfl,t5.fa.ins,rfl,?_⟩;apply Fp λnl H6 J7 s6 e6=>?_;apply An (s6 _ _ (t5.ks.tup _ _ hp)) (v:=.str x) rfl ?_;apply An (s6 _ _ (t5.ks.tup _ _ hp)) (v:=.str y) rfl ?_;apply ⟨e6,[(.inr x,.int ((s.n:Nat):Int)),(.inr y,.int ((s.n+1:Nat):Int))],rfl,by simp,λK6 k6 e6=>?_⟩;left;have s6:Ai _ K6:=λb o e=>by rw [k6 b (Ab e J7)];exact s6 _ _ e
  rw [dW] at e6;refine t5.too (ks:=He x y (s.n) (s.n+1)) (P.hg.mono t5.ks) s6 J7 e6 (IS ..) P.b9 λd H7 s7 t7 g7=>?_;apply P.abr t7 g7 hc (by simp only [Ex.sz];omega) (by simp) a3 (IQ a1 a2) P.cl.2.2 P.hs.two λH8 t8=>?_;left;exact P.done (Q:=λH'=>Q .non H') q1 t8 (by simp only [CH,cost,List.map_cons,List.map_nil,List.sum_cons,List.sum_nil];omega) (by simp only [fm,IT,Ex.sz,List.map_cons,List.map_nil,List.sum_cons,List.sum_nil];omega)
theorem gx:Ak ["finder","tree","given","node","first"] ["finder","tree","given","node"] (Af F1):=nofun
theorem gy {f:Addr}{fd:FuncData}(F:B' K "find_let" "find_let" F1 f fd)(TF:CL K mg CF)(T:BR K mg C)(Z:NM Pr w K mg base C CJ)(Y:FM Pr w K mg base C CF CJ):Av Pr w K mg base (De Pr w) 6 f fd ["finder","tree","given","node"] (AV C CF CJ λe=>∃ x a b,e=.lt x a b):=by
 refine F.okX gx (λvs H Q E h=>?_) (λB7 A0 outer s0 H vs Q E hr h=>?_)
 ·obtain ⟨F,s,ls,A,L,e,g,nd,b,rt,gd,C0,lim,xs,rfl,_⟩:=h;rfl
 ·obtain ⟨F,s,ls,A,L,_,g,nd,b,rt,gd,C0,lim,xs,rfl,⟨x,ea,eb,rfl⟩,P,q1,q2⟩:=h;have BK:Am 1 _:=hr.mono ⟨⟩;have DI:Am 2 _:=hr.mono ⟨⟩;have he:=P.he;obtain ⟨p,ra,rb,rfl,hp,ha,hb⟩:=id he;refine ⟨_,(Ag (Ap (Dl (Ao (Ah 0)) T.cl Z.dp BK))
   (Ag (Au (i:=4) gx.nd rfl (.inl rfl) (Dl (Ao (Ah 0)) T.cl Z.ng DI))
   (Ag (Ap (BF (Ah 0) TF.cl Y.abf BK (Aa (Ah 1) (Aa (Ah 2) (Aa (Ah 3) (Aa (Ah 4) Ae))))))
   (Aj (Ap (BF (Ah 0) TF.cl Y.ask BK (Aa (eI 1) (Aa (Ah 2) (Aa (Ah 4) Ae))))))))),?_⟩
  have o:=P.M.ok;have nn:=P.nn;have ll:=P.len;have hz:=P.hb;simp only [cost] at nn;apply AG P.M TF rfl ?_;apply ⟨F.N,s,ls,rfl,P.M.nod,λH1 N1 f1=>?_⟩;have oD:Ok { s with k:=s.k+1 } A:=o.deeper;have M1:Dk C CF F H1 { s with k:=s.k+1 } ls A L:=P.M.work N1 oD ⟨P.M.art.tg,P.M.art.ar⟩ P.M.z0 P.M.z1 f1 P.M.aw.2.2.2.2;have k1:=KS.off P.M.nod f1;apply AG M1 TF rfl ?_;apply Li M1 (by show s.n < 1000000;omega) λHy H2 M2 k2=>?_;have gB:=k1.trans k2;apply ⟨F.p,F.dx,_,rfl,M2.ins,rfl,?_⟩;apply ⟨F,_,Hy,_,L,.lt x ea eb,g,nd,b,s.n,.ref p,gd,rfl,M2,Bo.mono gB.tup he,P.hg.mono gB,hz,(),λH3 M3 k3=>?_⟩;have Oo:=gB.trans k3;apply ⟨F.p,F.dx,_,rfl,M3.ins,rfl,?_⟩;apply An (Oo.tup _ _ hp) (v:=ra) rfl ?_;left;have h1:(Ex.lt x ea eb).sz=1+ea.sz+eb.sz:=rfl;refine ⟨F,_,Hy,_,_,ea,g,s.n,b,ra,gd,rfl,M3,Bo.mono Oo.tup ha,P.hg.mono Oo,(),by rw [List.length_cons];omega,λH4 M4 k4=>?_⟩;apply q1 _ _ _ _ H4 M4 (Di.abx (s':=s) (A':=A) o P.hn P.gk P.cl P.hs P.st (Nat.le_refl _)) ?_ (Oo.trans k4) (Nat.le_succ _);rw [Dt,Dt];show 2 * ea.sz+(2 * (1+ea.sz+eb.sz) - 1 - 2 * ea.sz+fm L) < fm L+2 * (1+ea.sz+eb.sz);omega
noncomputable def X' (C CF:Addr):Sp:=λvs H Q _=>∃ (F:FA) (s:Ns) (ls:List Addr) (A:Nat->Prop) (L:List Fe) (x:Str) (a e:Ex) (g:Gv) (nd b f:Nat) (rt:V) (gd:Addr) (lim:Nat),vs=[.ref F.p,rt,.ref gd,.int ((nd:Nat):Int),.int ((f:Nat):Int)]/\Dk C CF F H s ls A L/\Bo H (.lt x a e) rt/\FY H gd g b/\b+2 * (Ex.lt x a e).sz<=900000/\Di s A lim s.k s.n (⟨.lt x a e,g,nd,some f⟩::L)/\lim<=800000/\L.length<=800000 /\
 ∀ s' Cj A' L' H',Dk C CF F H' s' Cj A' L'->Di s' A' lim s'.k s'.n L'->fm L' < fm (⟨.lt x a e,g,nd,some f⟩::L)->KS H H'->s.n<=s'.n->Q .non H'
theorem pW:Ak ["finder","tree","given","node","first"] ["finder","tree","given","node","first"] (Af BP):=nofun
theorem gC {f:Addr}{fd:FuncData}(F:B' K "go_on_behind_first" "go_on_behind_first" BP f fd)(TF:CL K mg CF)(T:BR K mg C)(Z:NM Pr w K mg base C CJ)(Y:FM Pr w K mg base C CF CJ):Av Pr w K mg base Bs 6 f fd ["finder","tree","given","node","first"] (X' C CF):=by
 refine F.okS pW (λvs H Q E h=>?_) (λB7 A0 outer s0 H vs Q E hr h=>?_)
 ·obtain ⟨F,s,ls,A,L,x,a,e,g,nd,b,f,rt,gd,lim,rfl,_⟩:=h;rfl
 ·obtain ⟨F,s,ls,A,L,x,ea,eb,g,nd,b,f,rt,gd,lim,rfl,M,he,hg,hz,st,lm,ll,q⟩:=h;have BK:Am 1 _:=hr.mono ⟨⟩;have J8:Am 3 _:=hr.mono ⟨⟩;obtain ⟨p,ra,rb,rfl,hp,ha,hb⟩:=id he;refine ⟨_,(Ag (Ap (BF (Ao (Ah 0)) T.cl Z.cb J8 (Aa (Ah 4) Ae)))
   (Aj (Ap (BF (Ah 0) TF.cl Y.ask BK (Aa (eI 1) (Aa (BF (Ah 0) TF.cl Y.gt BK (Aa (Ah 2) (Aa (GG (Ef (eI 1) (Ah 4) Js) rfl rfl (by simp) ⟨⟩) Ae))) (Aa (Ah 3) Ae))))))),?_⟩
  have nl:=st.lim;obtain ⟨k,ek,hf⟩:∃ k,s.k=k+1/\A f:=by
   generalize s.k=k0 at st;cases st with
   | back _ _ h _ _ _ _ _ _=>exact ⟨_,rfl,h.1⟩
  apply AG M TF rfl ?_;apply ⟨F.N,s,ls,A,f,rfl,M.nod,M.ok,M.art,hf,(),(),λs1 H1 N1 d1 f1=>?_⟩;have M1:Dk C CF F H1 s1 ls (Hx s1 A) L:=M.work N1 (Down.ok M.ok d1) ⟨λi hi=>by rw [d1.tg];exact M.art.tg i (by rw [<- d1.n];exact hi),λi hi=>by rw [d1.tg,d1.ch];exact M.art.ar i (by rw [<- d1.n];exact hi)⟩ (M.z0.down d1) (M.z1.down d1) f1 M.aw.2.2.2.2;have k1:=KS.off M.nod f1;have ek1:s1.k=k:=by have:=d1.k;omega
  apply ⟨F.p,F.dx,_,rfl,M1.ins,rfl,?_⟩;apply An (k1.tup _ _ hp) (v:=rb) rfl ?_;apply ⟨F.p,F.dx,_,rfl,M1.ins,rfl,?_⟩;apply Fp λnl H2 J7 s2 e2=>?_;apply An (s2 _ _ (k1.tup _ _ hp)) (v:=.str x) rfl ?_;apply ⟨e2,[(.inr x,.int ((f:Nat):Int))],rfl,by simp,λK6 k6 e6=>?_⟩;left;have s6:Ai H1 K6:=λb o e=>by rw [k6 b (Ab e J7)];exact s2 _ _ e
  refine ⟨F,s1,ls,_,L,g,b,gd,nl,[(x,f)],H1,rfl,M1,s6,J7,e6,hg.mono k1,by simp,(),λd H3 s3 g3=>?_⟩;have M3:=M1.same s3;have k3:=k1.trans (KS.of_same s3);left;have h1:(Ex.lt x ea eb).sz=1+ea.sz+eb.sz:=rfl;refine ⟨F,s1,ls,_,L,eb,g.aan s1.k [(x,f)],nd,b+1,rb,d,rfl,M3,Bo.mono k3.tup hb,g3,(),(),λH4 M4 k4=>?_⟩;left;have Fv:=Di.aby M.ok d1 ek (Nat.le_refl _) (ek▸st);refine q s1 ls _ _ H4 M4 ?_ ?_ (k3.trans k4) (Nat.le_of_eq d1.n.symm)
  ·rw [d1.n,ek1];exact Fv
  ·rw [Dt,Dt];show 2 * eb.sz+fm L < 2 * (1+ea.sz+eb.sz) - 1 - 2 * ea.sz+fm L;omega
noncomputable def IU (C CF CJ:Addr):List (Str × Sp):=[("name",AV C CF CJ λe=>∃ x,e=.nm x),("number",AV C CF CJ λe=>∃ i,e=.num i),("truth",AV C CF CJ λe=>∃ i,e=.tru i),("empty",AV C CF CJ λe=>e=.emp),("fun",AV C CF CJ λe=>∃ x b,e=.fn x b),("rec",AV C CF CJ λe=>∃ f x b,e=.rc f x b),("call",AV C CF CJ λe=>∃ a b,e=.cal a b),("let",AV C CF CJ λe=>∃ x a b,e=.lt x a b),("when",AV C CF CJ λe=>∃ a b c,e=.wh a b c),("pair",AV C CF CJ λe=>∃ a b,e=.pr a b),("open",AV C CF CJ λe=>∃ a x y b,e=.opn a x y b),("link",AV C CF CJ λe=>∃ a b,e=.lk a b),("split",AV C CF CJ λe=>∃ a b x y c,e=.spl a b x y c),("op",AV C CF CJ λe=>∃ w a b,e=.op w a b)]
theorem NY (e:Ex):∃ P:Ex->Prop,(e.wd,AV C CF CJ P)∈IU C CF CJ/\P e:=by
 cases e <;> exact ⟨_,by simp only [IU,Ex.wd,List.mem_cons];first | exact .inl rfl | exact .inr (.inl rfl) | exact .inr (.inr (.inl rfl)) | exact .inr (.inr (.inr (.inl rfl))) | exact .inr (.inr (.inr (.inr (.inl rfl)))) | exact .inr (.inr (.inr (.inr (.inr (.inl rfl))))) | exact .inr (.inr (.inr (.inr (.inr (.inr (.inl rfl)))))) | exact .inr (.inr (.inr (.inr (.inr (.inr (.inr (.inl rfl))))))) | exact .inr (.inr (.inr (.inr (.inr (.inr (.inr (.inr (.inl rfl)))))))) | exact .inr (.inr (.inr (.inr (.inr (.inr (.inr (.inr (.inr (.inl rfl))))))))) | exact .inr (.inr (.inr (.inr (.inr (.inr (.inr (.inr (.inr (.inr (.inl rfl)))))))))) | exact .inr (.inr (.inr (.inr (.inr (.inr (.inr (.inr (.inr (.inr (.inr (.inl rfl))))))))))) | exact .inr (.inr (.inr (.inr (.inr (.inr (.inr (.inr (.inr (.inr (.inr (.inr (.inl rfl)))))))))))) | exact .inr (.inr (.inr (.inr (.inr (.inr (.inr (.inr (.inr (.inr (.inr (.inr (.inr (.inl rfl))))))))))))),by simp⟩
theorem Td {s:Ns}{A:Nat->Prop}{lim k m:Nat}{p:Fe}{r:List Fe}(h:Di s A lim k m (p::r)):(∃ e g nd C0 xs,p=⟨e,g,nd,none⟩/\A nd/\Ge s A k C0 g/\e.cl xs/\GZ g xs/\Di s A lim k (m+cost C0 e) r)\/∃ x a e g nd f,p=⟨.lt x a e,g,nd,some f⟩:=by
 cases h with
 | ask h1 h2 h3 h4 h5 h6=>exact .inl ⟨_,_,_,_,_,rfl,h1,h3,h4,h5,h6⟩
 | back=>exact .inr ⟨_,_,_,_,_,_,rfl⟩
noncomputable def Qr (C CF CJ:Addr):Sp:=λvs H Q E=>∃ (F:FA) (s:Ns) (ls:List Addr) (A:Nat->Prop) (L:List Fe) (lim:Nat),vs=[.ref F.p]/\Dk C CF F H s ls A L/\Di s A lim s.k s.n L/\lim<=800000/\fm L<=800000 /\
 (∀ s' Cj A' H',Dk C CF F H' s' Cj A' []->s'.n<=lim->s.n<=s'.n->KS H H'->Q .non H')/\∀ H',KS H H'->E (.ref CJ) none H'
theorem gE:Ak ["self","entry"] ["self"] (Af Be):=nofun
theorem Y0 {f aR:Addr}{fd:FuncData}{rows:List (Str × Value)}(F:B' K "ask_all" "Finder.ask_all" Be f fd)(TF:CL K mg CF)(kd:Fq w K aR rows)(mR:mg "RULES"=some (.ref aR))(R:F3 Pr w K mg base (De Pr w) 6 ["finder","tree","given","node"] rows (IU C CF CJ))
  (pX:Cl Pr w K mg base 6 "go_on_behind_first" ["finder","tree","given","node","first"] (X' C CF)):Av Pr w K mg base (De Pr w) 7 f fd ["self"] (Qr C CF CJ):=by
 refine F.okX gE (λvs H Q E h=>?_) (λB7 A0 outer s0 H vs Q E hr h=>?_)
 ·obtain ⟨F,s,ls,A,L,lim,rfl,_⟩:=h;rfl
 ·obtain ⟨F,s,ls,A,L,lim,rfl,M,st,lm,fl,q1,q2⟩:=h;have y6:Am 6 _:=hr;refine ⟨_,(Aj (D2 (EA Cg) (C5 (Ao (Ah 0))) (Ag (Au (i:=1) gE.nd rfl (.inl rfl) (Ed PySem.F.plainAttrs_list PySem.F.slot_list_pop PySem.F.type_list_pop Ea (Ao (Ah 0))))
   (Aj (BY (B1 Wa (eI 1) GC (AF _)) (Aj (Ap (Sx kd R NO y6 rfl mR (BG (r:=Iu K) FC (eI 1) Aq D1) D1 (Aa (Ah 0) (Aa (eI 1) (Aa (eI 1) (Aa (eI 1) Ae))))))) (Aj (Ap (CW pX y6 rfl (Aa (Ah 0) (Aa (eI 1) (Aa (eI 1) (Aa (eI 1) (Aa (eI 1) Ae))))))))))))),?_⟩
  obtain ⟨pY,e0⟩:∃ k,s.n=k:=⟨_,rfl⟩;have q1:∀ s' Cj A' H',Dk C CF F H' s' Cj A' []->s'.n<=lim->pY<=s'.n->KS H H'->Q .non H':=λs' Cj A' H' a b c=>q1 s' Cj A' H' a b (by rw [e0];exact c);refine ⟨λm σ H2=>∃ s ls A L x1,σ=[some (.ref F.p),x1]/\m=fm L/\Dk C CF F H2 s ls A L/\Di s A lim s.k s.n L/\fm L<=800000/\KS H H2/\pY<=s.n,⟨_,s,ls,A,L,_,rfl,rfl,M,st,fl,KS.of_same (Ai.refl _),Nat.le_of_eq e0.symm⟩,?_⟩;clear M st fl e0 ls A L;rintro m σ H2 ⟨s,ls,A,L,x1,rfl,rfl,M,st,fl,k2,ge⟩;obtain ⟨ws,hw,pw⟩:=M.wt;refine ⟨_,rfl,F.p,CF,F.dx,_,_,rfl,M.ins,TF.cl,TF.nW,rfl,!ws.isEmpty,.inl ⟨ws,AO.of hw,rfl⟩,?_⟩;cases L with
  | nil =>
   have Qs:ws=[]:=by
    have:=Paired.length pw;simpa using this.symm
   subst Qs;refine Ck ?_;have sl:=st.lim;exact q1 s ls A H2 M sl ge k2
  | cons p L =>
   obtain ⟨v,vs,hv,fv,fvs⟩:∃ v vs,ws.reverse=v::vs/\Lh H2 p v/\Paired (Lh H2) L vs:=by
    generalize ws.reverse=rs at pw;cases pw with
    | cons k1 k2=>exact ⟨_,_,rfl,k1,k2⟩
   have Qs:ws=vs.reverse++[v]:=by
    have:=congrArg List.reverse hv;simpa using this
   have ne:(!ws.isEmpty)=true:=(by rw [Qs];simp);rw [ne];refine Cm ⟨_,fun σ' H' z=>z,?_⟩;have dl:ws.dropLast=vs.reverse:=(by rw [Qs];simp);obtain ⟨M3,k3⟩:=M.wait (L':=L) (ws:=vs.reverse) (by rw [List.reverse_reverse];exact fvs);apply ⟨F.p,CF,F.dx,_,_,rfl,M.ins,TF.cl,TF.nW,rfl,.inl ⟨rfl,_,AO.of hw⟩,F.w,ws,v,rfl,rfl,hw,by rw [Qs];simp,?_⟩;rw [dl];generalize upd H2 F.w (.lst vs.reverse)=H3 at M3 k3 ⊢;obtain ⟨t,rt,gd,b,rfl,ht,he,hg,hb⟩:=fv.mono k3;have Oo:=k2.trans k3;apply An ht (v:=XN p.fs) rfl ?_;apply ⟨rfl,_,rfl,?_⟩;rw [Dt] at fl;have step:∀ s' Cj A' L' H',Dk C CF F H' s' Cj A' L'->Di s' A' lim s'.k s'.n L'->fm L' < fm (p::L)->KS H H'->s.n<=s'.n->∃ m',m' < fm (p::L)/\∃ s ls A L x1,([some (.ref F.p),some (.ref t)]:St)=[some (.ref F.p),x1]/\m'=fm L/\Dk C CF F H' s ls A L/\Di s A lim s.k s.n L/\fm L<=800000/\KS H H'/\pY<=s.n :=
    λs' Cj A' L' H' M' Fv f' k' g'=>⟨_,f',s',Cj,A',L',_,rfl,rfl,M',Fv,by rw [Dt] at f';omega,k',Nat.le_trans ge g'⟩
   rcases Td st with ⟨e,g,nd,C0,xs,rfl,h1,h3,h4,h5,h6⟩ | ⟨x,a,e,g,nd,f,rfl⟩
   ·refine Cs rfl ?_;apply An ht (v:=rt) rfl ?_;have he:Bo H3 e rt:=he;obtain ⟨p0,us,rfl,pP,_,_⟩:=he.look;apply An pP (v:=.str e.wd) (Ar (j:=0) rfl) ?_;obtain ⟨P,hm,hP⟩:=NY (C:=C) (CF:=CF) (CJ:=CJ) e;refine ⟨_,_,rfl,hm,?_⟩;apply An ht (v:=.ref p0) rfl ?_;apply An ht (v:=.ref gd) rfl ?_;apply An ht (v:=.int ((nd:Nat):Int)) rfl ?_;left;have f1:IT ⟨e,g,nd,none⟩=2 * e.sz:=rfl;refine ⟨F,s,ls,A,L,e,g,nd,b,.ref p0,gd,C0,lim,xs,rfl,hP,⟨M3,he,hg,hb,h1,h3,h4,h5,h6,lm,()⟩,λs' Cj A' L' H' M' Fv f' k' g'=>?_,λH' k'=>q2 H' (Oo.trans k')⟩;exact step s' Cj A' L' H' M' Fv (by rw [Dt];omega) (Oo.trans k') g'
   ·refine CD (by show ¬ (decide (XN (some f)=V.non)=true);simp [XN]) ?_;apply An ht (v:=rt) rfl ?_;apply An ht (v:=.ref gd) rfl ?_;apply An ht (v:=.int ((nd:Nat):Int)) rfl ?_;apply An ht (v:=.int ((f:Nat):Int)) rfl ?_;left;have lL:=Qn λq hq=>st.pos q (.tail _ hq);refine ⟨F,s,ls,A,L,x,a,e,g,nd,b,f,rt,gd,lim,rfl,M3,he,hg,hb,st,lm,(),λs' Cj A' L' H' M' Fv f' k' g'=>?_⟩;exact step s' Cj A' L' H' M' Fv f' (Oo.trans k') g'
theorem gF {H0 H:Hp}{p a:Addr}{o u x:HO}(k:∀ b o,H0 b=some o->b≠p->H b=some o)(hp:H p=some x)(ha:H a=none):
  (upd (upd H a o) p u) p=some u/\(upd (upd H a o) p u) a=some o/\(∀ b y,H b=some y->b≠p->(upd (upd H a o) p u) b=some y)/\(∀ b o',H0 b=some o'->b≠p->(upd (upd H a o) p u) b=some o')/\a≠p:=by
 have n:a≠p:=Ne.symm (Ab hp ha);have kk:∀ b y,H b=some y->b≠p->(upd (upd H a o) p u) b=some y:=λb y e nb=>by rw [Ac nb,Ac (Ab e ha)];exact e
 exact ⟨Ad,by rw [Ac n,Ad],kk,λb o' e nb=>kk b o' (k b o' e nb) nb,n⟩
noncomputable def JR:Ns:={ n:=0,tg:=λ_=>0,ch:=λ_=>[],rp:=id,lv:=λ_=>0,k:=0 }
noncomputable def gG (C:Addr):Sp:=λvs H Q _=>∃ (p dx:Addr),vs=[.ref p]/\H p=some (.ins C dx [])/\∀ (N:NA) H',N.p=p->N.gk=[]->Ba C N H' JR []->(∀ b o,H b=some o->b≠p->H' b=some o)->Q .non H'
theorem pZ:Ak ["self"] ["self"] (Af Bc):=nofun
theorem gH {f:Addr}{fd:FuncData}(F:B' K "__init__" "Nodes.__init__" Bc f fd)(T:BR K mg C):Av Pr w K mg base Bs 1 f fd ["self"] (gG C):=by
 refine F.okS pZ (λvs H Q E h=>?_) (λB7 A0 outer s0 H vs Q E hr h=>?_)
 ·obtain ⟨p,dx,rfl,_⟩:=h;rfl
 ·obtain ⟨p,dx,rfl,hp,q⟩:=h;refine ⟨_,(Ag (EM (Ah 0) (AU Ae))
   (Ag (EM (Ah 0) (AU Ae))
   (Ag (EM (Ah 0) (AU Ae))
   (Ag (EM (Ah 0) (AU Ae))
   (Ag (EM (Ah 0) Aq)
   (Aj (EM (Ah 0) Ee))))))),?_⟩
  refine ⟨by simp,λaS hS=>⟨_,rfl,p,C,dx,_,rfl,by rw [Ac (Ab hp hS)];exact hp,T.cl,T.nS,by simp,?_⟩⟩;obtain ⟨p1,s1,k1,g1,nS⟩:=gF (o:=.lst []) (u:=.ins C dx (AK "sorts" (.ref aS) [])) (λb o e _=>e) hp hS;generalize upd (upd H aS (.lst [])) p (.ins C dx (AK "sorts" (.ref aS) []))=H1 at p1 s1 k1 g1 ⊢;refine ⟨by simp,λaI hI=>⟨_,rfl,p,C,dx,_,rfl,by rw [Ac (Ab p1 hI)];exact p1,T.cl,T.nI,by show 1 < 1000;decide,?_⟩⟩;obtain ⟨p2,i2,k2,g2,nI⟩:=gF (o:=.lst []) (u:=.ins C dx (AK "inner" (.ref aI) (AK "sorts" (.ref aS) []))) g1 p1 hI;have si:aS≠aI:=Ab s1 hI;have s2:=k2 _ _ s1 nS;generalize upd (upd H1 aI (.lst [])) p (.ins C dx (AK "inner" (.ref aI) (AK "sorts" (.ref aS) [])))=H2 at p2 i2 k2 g2 s2 ⊢;refine ⟨by simp,λaL hL=>⟨_,rfl,p,C,dx,_,rfl,by rw [Ac (Ab p2 hL)];exact p2,T.cl,T.nL,by show 2 < 1000;decide,?_⟩⟩;obtain ⟨p3,l3,k3,g3,nL⟩:=gF (o:=.lst []) (u:=.ins C dx (AK "leaders" (.ref aL) (AK "inner" (.ref aI) (AK "sorts" (.ref aS) [])))) g2 p2 hL;have sl:aS≠aL:=Ab s2 hL;have il:aI≠aL:=Ab i2 hL;have s3:=k3 _ _ s2 nS;have i3:=k3 _ _ i2 nI;generalize upd (upd H2 aL (.lst [])) p (.ins C dx (AK "leaders" (.ref aL) (AK "inner" (.ref aI) (AK "sorts" (.ref aS) []))))=H3 at p3 l3 k3 g3 s3 i3 ⊢;refine ⟨by simp,λaV hV=>⟨_,rfl,p,C,dx,_,rfl,by rw [Ac (Ab p3 hV)];exact p3,T.cl,T.nV,by show 3 < 1000;decide,?_⟩⟩;obtain ⟨p4,v4,k4,g4,nV⟩:=gF (o:=.lst []) (u:=.ins C dx (AK "levels" (.ref aV) (AK "leaders" (.ref aL) (AK "inner" (.ref aI) (AK "sorts" (.ref aS) []))))) g3 p3 hV;have s4:=k4 _ _ s3 nS;have i4:=k4 _ _ i3 nI;have l4:=k4 _ _ l3 nL;generalize upd (upd H3 aV (.lst [])) p (.ins C dx (AK "levels" (.ref aV) (AK "leaders" (.ref aL) (AK "inner" (.ref aI) (AK "sorts" (.ref aS) [])))))=H4 at p4 v4 k4 g4 s4 i4 l4 ⊢;refine ⟨_,rfl,p,C,dx,_,rfl,p4,T.cl,T.nK,by show 4 < 1000;decide,?_⟩;have k5:∀ b y,H4 b=some y->b≠p->(upd H4 p (.ins C dx (AK "level" (.int 0) (AK "levels" (.ref aV) (AK "leaders" (.ref aL) (AK "inner" (.ref aI) (AK "sorts" (.ref aS) []))))))) b=some y:=λb y e n=>by rw [Ac n];exact e
  have p5:(upd H4 p (.ins C dx (AK "level" (.int 0) (AK "levels" (.ref aV) (AK "leaders" (.ref aL) (AK "inner" (.ref aI) (AK "sorts" (.ref aS) []))))))) p=_:=Ad;generalize upd H4 p (.ins C dx (AK "level" (.int 0) (AK "levels" (.ref aV) (AK "leaders" (.ref aL) (AK "inner" (.ref aI) (AK "sorts" (.ref aS) []))))))=H5 at p5 k5 ⊢;have g5:∀ b o,H b=some o->b≠p->H5 b=some o:=λb o e n=>k5 b o (g4 b o e n) n;intro aG hG;refine ⟨_,rfl,p,C,dx,_,rfl,by rw [Ac (Ab p5 hG)];exact p5,T.cl,T.nG,by show 5 < 1000;decide,?_⟩;obtain ⟨p6,d6,k6,g6,nG⟩:=gF (o:=.dK []) (u:=.ins C dx (NH ⟨p,dx,aS,aI,aL,aV,aG,[]⟩ 0)) g5 p5 hG;have up:∀ b y,H4 b=some y->b≠p->_:=λb y e n=>k6 b y (k5 b y e n) n;exact q ⟨p,dx,aS,aI,aL,aV,aG,[]⟩ _ rfl rfl ⟨p6,up _ _ s4 nS,up _ _ i4 nI,⟨id,λ_=>0,UF.start 0,up _ _ l4 nL⟩,up _ _ v4 nV,d6,rfl,(λj l e=>by cases j <;> cases e),(λl hl=>by cases hl),si,sl,il,Ne.symm (Ab s3 hV),Ne.symm (Ab i3 hV),Ne.symm (Ab l3 hV)⟩ g6
noncomputable def q0:Ns:=(JR.add 0 []).add 1 []
noncomputable def gI (C CF:Addr):Sp:=λvs H Q _=>∃ (p dx:Addr),vs=[.ref p]/\H p=some (.ins CF dx [])/\∀ (F:FA) ls A H',F.p=p->F.N.gk=[]->Dk C CF F H' q0 ls A []->KS H H'->Q .non H'
theorem q9:Ak ["self"] ["self"] (Af B5):=nofun
theorem gJ {f fI:Addr}{fd gK:FuncData}(F:B' K "__init__" "Finder.__init__" B5 f fd)(TF:CL K mg CF)(T:BR K mg C)(Z:NM Pr w K mg base C CJ)(MN:Mk K C fI)(GI:Av Pr w K mg base Bs 1 fI gK ["self"] (gG C))(bI:Binds K gK ["self"] []):Av Pr w K mg base Bs 3 f fd ["self"] (gI C CF):=by
 refine F.okS q9 (λvs H Q E h=>?_) (λB7 A0 outer s0 H vs Q E hr h=>?_)
 ·obtain ⟨p,dx,rfl,_⟩:=h;rfl
 ·obtain ⟨p,dx,rfl,hp,q⟩:=h;have BK:Am 1 _:=hr.mono ⟨⟩;have DI:Am 2 _:=hr;refine ⟨_,(Ag (EM (Ah 0) (Mf MN GI DI rfl T.mgC bI))
   (Ag (EM (Ah 0) (BF (Ao (Ah 0)) T.cl Z.nn BK (Aa Aw (Aa (AU Ae) Ae))))
   (Ag (EM (Ah 0) (BF (Ao (Ah 0)) T.cl Z.nn BK (Aa Aw (Aa (AU Ae) Ae))))
   (Aj (EM (Ah 0) (AU Ae)))))),?_⟩
  intro y dy hy Vx EY;refine ⟨y,dy,rfl,Ad,λN H1 eN eg N1 k1=>⟨rfl,?_⟩⟩;have py:p≠y:=Ab hp hy;have pdy:p≠dy:=Ab hp Vx;have up1:∀ b o,H b=some o->H1 b=some o:=λb o e=>k1 b o (by rw [Ac (Ab e hy),Ac (Ab e Vx)];exact e) (Ab e hy);have p1:=up1 _ _ hp;have pN:p≠N.p:=by rw [eN];exact py
  have Te:∀ {H':Hp} {s:Ns} {ls:List Addr} {fs:List (Str × V)} {o:HO},Ba C N H' s ls->H' p=some (.ins CF dx fs)->Ba C N (upd H' p o) s ls:=λ{H' s ls fs o} N' e=>by
   obtain ⟨_,L'⟩:=N'.lead;exact N'.off pN (AL e N'.sorts (by intro z;cases z)) (AL e N'.inner (by intro z;cases z)) (AL e L' (by intro z;cases z)) (AL e N'.levels (by intro z;cases z)) (AL e N'.aaj (by intro z;cases z)) λz=>N'.lp z |> λ_=>by
    obtain ⟨k,hk,ek⟩:=List.mem_iff_getElem.mp z;have:=N'.chs k p (by rw [List.getElem?_eq_getElem hk,ek]);rw [e] at this;cases this
  have keep:∀ {H' Hf:Hp} {s:Ns} {ls:List Addr} {fs:List (Str × V)},Ba C N H' s ls->H' p=some (.ins CF dx fs)->(∀ b,b≠N.s->b≠N.i->b≠N.l->b≠N.v->Hf b=H' b)->Hf p=some (.ins CF dx fs):=λ{H' Hf s ls fs} N' e f=>by
   obtain ⟨_,L'⟩:=N'.lead;rw [f p (AL e N'.sorts (by intro z;cases z)) (AL e N'.inner (by intro z;cases z)) (AL e L' (by intro z;cases z)) (AL e N'.levels (by intro z;cases z))];exact e
  have y7:∀ {H' Hf:Hp} {s:Ns} {ls:List Addr},Ba C N H' s ls->(∀ b,b≠N.s->b≠N.i->b≠N.l->b≠N.v->Hf b=H' b)->KS H' Hf:=λ{H' Hf s ls} N' f=>KS.off N' λb o e _ b1 b2 b3 b4=>by rw [f b b1 b2 b3 b4];exact e
  have lE:∀ {H':Hp} {fs:List (Str × V)} {o:HO},H' p=some (.ins CF dx fs)->KS H' (upd H' p o):=λ{H' fs o} e b u eb _ h2=>by
   rw [Ac (λz:b=p=>by rw [z,e] at eb;cases eb;exact h2 _ _ _ rfl)];exact eb
  have ksl:∀ {H':Hp} {l:Addr} {o:HO},H' l=none->Ai H' (upd H' l o):=λh=>Ai.new h;refine ⟨_,rfl,p,CF,dx,_,rfl,p1,TF.cl,TF.nN,by simp,?_⟩;have N2:Ba C N _ JR []:=Te (o:=.ins CF dx (AK "nodes" (.ref y) [])) N1 p1;have p2:(upd H1 p (.ins CF dx (AK "nodes" (.ref y) []))) p=some (.ins CF dx [("nodes",.ref N.p)]):=by rw [Ad,eN];rfl
  have k2:KS H (upd H1 p (.ins CF dx (AK "nodes" (.ref y) []))):=KS.trans (λb o e _ _=>up1 b o e) (lE p1);generalize upd H1 p (.ins CF dx (AK "nodes" (.ref y) []))=H2 at N2 p2 k2 ⊢;have Ru:∀ {H':Hp} {s:Ns} {ls:List Addr} {l:Addr},Ba C N H' s ls->H' l=none->l≠N.s/\l≠N.i/\l≠N.l/\l≠N.v:=λ{H' s ls l} N' h=>by
   obtain ⟨_,L'⟩:=N'.lead;exact ⟨Ne.symm (Ab N'.sorts h),Ne.symm (Ab N'.inner h),Ne.symm (Ab L' h),Ne.symm (Ab N'.levels h)⟩
  refine ⟨_,rfl,p,CF,dx,_,_,rfl,p2,TF.cl,TF.nN,rfl,N.p,N.dx,_,rfl,N2.ins,rfl,by simp,λl1 Dr=>?_⟩;obtain ⟨a1,a2,a3,a4⟩:=Ru N2 Dr;refine ⟨N,JR,[],0,[],l1,rfl,N2.same (Ai.new Dr),Ad,a1,a2,a3,a4,⟨⟩,λH3 N3 f3=>?_⟩;have p3:H3 p=some (.ins CF dx [("nodes",.ref N.p)]):=keep (N2.same (Ai.new (o:=.lst []) Dr)) (Ai.new (o:=.lst []) Dr _ _ p2) f3;have k3:KS H H3:=(k2.trans (KS.of_same (Ai.new (o:=.lst []) Dr))).trans (y7 (N2.same (Ai.new (o:=.lst []) Dr)) f3);refine ⟨_,rfl,p,CF,dx,_,rfl,p3,TF.cl,TF.nU,by show 1 < 1000;decide,?_⟩;have N4:Ba C N _ (JR.add 0 []) [l1]:=Te (o:=.ins CF dx (AK "number" (.int ((JR.n:Nat):Int)) [("nodes",.ref N.p)])) N3 p3;have p4:(upd H3 p (.ins CF dx (AK "number" (.int ((JR.n:Nat):Int)) [("nodes",.ref N.p)]))) p=some (.ins CF dx [("nodes",.ref N.p),("number",.int 0)]):=by rw [Ad];rfl
  have k4:=k3.trans (lE (o:=.ins CF dx (AK "number" (.int ((JR.n:Nat):Int)) [("nodes",.ref N.p)])) p3);generalize upd H3 p (.ins CF dx (AK "number" (.int ((JR.n:Nat):Int)) [("nodes",.ref N.p)]))=H4 at N4 p4 k4 ⊢;refine ⟨_,rfl,p,CF,dx,_,_,rfl,p4,TF.cl,TF.nN,rfl,N.p,N.dx,_,rfl,N4.ins,rfl,by simp,λl2 E9=>?_⟩;obtain ⟨a1,a2,a3,a4⟩:=Ru N4 E9;refine ⟨N,JR.add 0 [],[l1],1,[],l2,rfl,N4.same (Ai.new E9),Ad,a1,a2,a3,a4,⟨⟩,λH5 N5 f5=>?_⟩;have p5:H5 p=some (.ins CF dx [("nodes",.ref N.p),("number",.int 0)]):=keep (N4.same (Ai.new (o:=.lst []) E9)) (Ai.new (o:=.lst []) E9 _ _ p4) f5;have k5:KS H H5:=(k4.trans (KS.of_same (Ai.new (o:=.lst []) E9))).trans (y7 (N4.same (Ai.new (o:=.lst []) E9)) f5);refine ⟨_,rfl,p,CF,dx,_,rfl,p5,TF.cl,TF.nT,by show 2 < 1000;decide,?_⟩;have N6:Ba C N _ q0 ([l1]++[l2]):=Te (o:=.ins CF dx (AK "truth" (.int (((JR.add 0 []).n:Nat):Int)) [("nodes",.ref N.p),("number",.int 0)])) N5 p5;have p6:(upd H5 p (.ins CF dx (AK "truth" (.int (((JR.add 0 []).n:Nat):Int)) [("nodes",.ref N.p),("number",.int 0)]))) p=some (.ins CF dx [("nodes",.ref N.p),("number",.int 0),("truth",.int 1)]):=by rw [Ad];rfl
  have k6:=k5.trans (lE (o:=.ins CF dx (AK "truth" (.int (((JR.add 0 []).n:Nat):Int)) [("nodes",.ref N.p),("number",.int 0)])) p5);generalize upd H5 p (.ins CF dx (AK "truth" (.int (((JR.add 0 []).n:Nat):Int)) [("nodes",.ref N.p),("number",.int 0)]))=H6 at N6 p6 k6 ⊢;refine ⟨by simp,λlw Cz=>⟨_,rfl,p,CF,dx,_,rfl,by rw [Ac (Ab p6 Cz)];exact p6,TF.cl,TF.nW,by show 3 < 1000;decide,?_⟩⟩;have sw:=Ai.new (o:=.lst []) Cz;obtain ⟨w1,w2,w3,w4⟩:=Ru N6 Cz;have o0:Ok JR (λ_=>False):=⟨λi h=>absurd h (Nat.not_lt_zero _),λi h=>absurd h (Nat.not_lt_zero _),λi h=>absurd h (Nat.not_lt_zero _),λi h=>h.elim,λi h=>absurd h (Nat.not_lt_zero _),λx h=>h.elim,λx h=>h.elim,λx h=>h.elim⟩;have o1:Ok (JR.add 0 []) _:=o0.add (λc hc=>by cases hc) (Nat.zero_le _);have Rl:Lc JR:=⟨λi h=>absurd h (Nat.not_lt_zero _),λi h=>absurd h (Nat.not_lt_zero _)⟩;have ww:lw∉[l1]++[l2]:=λz=>by
   obtain ⟨k,hk,ek⟩:=List.mem_iff_getElem.mp z;have:=N6.chs k lw (by rw [List.getElem?_eq_getElem hk,ek]);rw [Cz] at this;cases this
  refine q ⟨p,dx,lw,N⟩ _ _ _ rfl eg ⟨Ad,Te (N6.same sw) (sw _ _ p6),o1.add (λc hc=>by cases hc) (Nat.zero_le _),(Rl.add ⟨⟩ rfl).add ⟨⟩ rfl,⟨.inl (.inr rfl),⟨⟩⟩,⟨.inr rfl,⟨⟩⟩,pN,⟨[],by rw [Ac (Ne.symm (Ab p6 Cz)),Ad],.nil⟩,w1,w2,w3,w4,ww⟩ ((k6.trans (KS.of_same sw)).trans (lE (sw _ _ p6)))
noncomputable def EE (n:Nat):List Nat->List (Key × V)
 | []=>[]
 | x::r=>(Sum.inl ((n:Nat):Int),.int ((x:Nat):Int))::EE (n+1) r
theorem IV {gs:List Nat}:∀ {n:Nat},(EE n gs).length=gs.length:=by
 induction gs with
 | nil=>exact rfl
 | cons x r ih=>intro n;simp [EE,ih]
theorem Tf {gs:List Nat}{x:Nat}:∀ {n:Nat},EE n (gs++[x])=EE n gs++[(Sum.inl (((n+gs.length:Nat):Nat):Int),.int ((x:Nat):Int))]:=by
 induction gs with
 | nil=>exact rfl
 | cons y r ih =>
  intro n;show (Sum.inl ((n:Nat):Int),V.int ((y:Nat):Int))::EE (n+1) (r++[x])=_;rw [ih,List.length_cons,show n+1+r.length=n+(r.length+1) by omega];rfl
theorem Y1 {gs:List Nat}:∀ {n m:Nat},n+gs.length<=m->Bu (EE n gs) (Sum.inl ((m:Nat):Int):Key)=none:=by
 induction gs with
 | nil=>exact λ_=>rfl
 | cons y r ih =>
  intro n m h;rw [List.length_cons] at h;have e:¬ (Sum.inl ((n:Nat):Int):Key)=Sum.inl ((m:Nat):Int):=λz=>by have:=Sum.inl.inj z;omega
  exact (B8 e).trans (ih ())
theorem Y2 {gs:List Nat}:∀ {n i:Nat} {p:Key × V},(EE n gs)[i]?=some p->∃ x,gs[i]?=some x/\p=(Sum.inl (((n+i:Nat):Nat):Int),.int ((x:Nat):Int)):=by
 induction gs with
 | nil=>intro n i p h;cases i <;> cases h
 | cons y r ih =>
  intro n i p h;cases i with
  | zero=>cases h;exact ⟨y,rfl,rfl⟩
  | succ i =>
   obtain ⟨x,a,b⟩:=ih (n:=n+1) (i:=i) h;exact ⟨x,a,by rw [b,show n+1+i=n+(i+1) by omega]⟩
structure Wf (s:Ns):Prop where
 rp:∀ i,i < s.n->s.rp i < s.n/\s.rp (s.rp i)=s.rp i
 ch:∀ i,i < s.n->∀ c∈s.ch i,c < s.n
 ar:∀ i,i < s.n->(s.ch i).length<=2
 tg:∀ i,i < s.n->s.tg i < 6
 n:s.n < 900000
theorem Qt {N:NA}{H:Hp}{s:Ns}{ls:List Addr}(A:Ba C N H s ls)(kvs:List (Key × V)):Ba C { N with gk:=kvs } (upd H N.g (.dK kvs)) s ls:=by
 obtain ⟨_,L0⟩:=A.lead;obtain ⟨g1,g2,g3,g4,g5⟩:=A.ng;refine ⟨by rw [Ac (Ne.symm g1)];exact A.ins,by rw [Ac (Ne.symm g2)];exact A.sorts,by rw [Ac (Ne.symm g3)];exact A.inner,(let ⟨a,b,c,d⟩:=A.uf;⟨a,b,c,by rw [Ac (Ne.symm g4)];exact d⟩),by rw [Ac (Ne.symm g5)];exact A.levels,Ad,A.len,λj l e=>?_,A.away,A.ne⟩;have:=A.chs j l e;rw [Ac (AL this A.aaj (by intro z;cases z))];exact this
noncomputable def Qu (C:Addr):Sp:=λvs H Q _=>∃ (N:NA) (s:Ns) (ls:List Addr) (ts:List Nat) (lt:Addr),vs=[.ref N.p,.ref lt]/\N.gk=[]/\Ba C N H s ls/\Wf s/\H lt=some (.lst (lsN ts))/\(∀ t∈ts,t < s.n)/\ts.length<=900000 /\
 ∀ gs H',Ba C { N with gk:=EE 0 gs } H' s ls->(∀ x∈gs,x < s.n)->gs.length<=s.n->(∀ b o,H b=some o->b≠N.l->b≠N.g->H' b=some o)->Q .non H'
theorem Mu:Ak ["self","tops","met","waiting","at"] ["self","tops"] (Af AW):=nofun
theorem Y3 {f:Addr}{fd:FuncData}(F:B' K "number_gaps" "Nodes.number_gaps" AW f fd)(T:BR K mg C)(Dz:mg "list"=none)(DX:mg "reversed"=none)
  (cL:Mc Pr w K mg base Bs C 1 "leader" ["self","node"] (Bh C)):Av Pr w K mg base Bs 2 f fd ["self","tops"] (Qu C):=by
 refine F.okS Mu (λvs H Q E h=>?_) (λB7 A0 outer s0 H vs Q E hr h=>?_)
 ·obtain ⟨N,s,ls,ts,lt,rfl,_⟩:=h;rfl
 ·obtain ⟨N,s,ls,ts,lt,rfl,gk,A0,W,DL,lF,htl,q⟩:=h;have hu:=Cc hr;have BK:Am 1 _:=hr;have wn:=W.n;refine ⟨_,(Ag (Au (i:=2) Mu.nd rfl (.inl rfl) Ee)
   (Ag (Au (i:=3) Mu.nd rfl (.inl rfl) (GY rfl rfl Dz rfl DX (Aa (Ah 1) Ae)))
   (Aj (D2 PassesOwn.never (C5 (Ah 3)) (Ag (Au (i:=4) Mu.nd rfl (.inl rfl) (BF (Ah 0) T.cl cL BK (Aa (Ed PySem.F.plainAttrs_list PySem.F.slot_list_pop PySem.F.type_list_pop Ea (Ah 3)) Ae)))
   (Aj (BY (Ei hu (Ah 4) (Ah 2)) (Ag (DO hu (Ah 2) (Ah 4) KA rfl)
   (Ag (Ap (EV PySem.F.plainAttrs_list PySem.F.slot_list_extend PySem.F.type_list_extend D7 (Ah 3) (Aa (GY rfl rfl Dz rfl DX (Aa (BG (r:=DC K) Ay (Ao (Ah 0)) (Ah 4) D1) Ae)) Ae)))
   (Aj (BY (B1 BX (BG (r:=DC K) Ay (Ao (Ah 0)) (Ah 4) D1) Aw (AF _)) (Aj (DO hu (Ao (Ah 0)) (C6 Ni rfl T.len PySem.boot_len (Aa (Ao (Ah 0)) Ae)) (Ah 4) rfl)) BN)))) BN))))))),?_⟩
  refine λd JP=>?_;have y8:Ai H (upd H d (.dK [])):=Ai.new JP;refine ⟨_,rfl,lt,_,rfl,AO.of (y8 _ _ DL),by simp only [lsN,List.length_map];omega,λlw Cz=>?_⟩;have qb:(lsN ts).reverse=lsN ts.reverse:=by simp [lsN]
  rw [qb];have dl:d≠lw:=λz=>by rw [<- z,Ad] at Cz;cases Cz
  have Bz:H lw=none:=by rw [Ac (Ne.symm dl)] at Cz;exact Cz
  have G':Ai H (upd (upd H d (.dK [])) lw (.lst (lsN ts.reverse))):=Ai.put y8 Bz;obtain ⟨_,L0⟩:=A0.lead;have free:∀ {b:Addr},H b=none->b≠N.p/\b≠N.s/\b≠N.i/\b≠N.l/\b≠N.v/\b≠N.g:=λ{b} h=>⟨Ne.symm (Ab A0.ins h),Ne.symm (Ab A0.sorts h),Ne.symm (Ab A0.inner h),Ne.symm (Ab L0 h),Ne.symm (Ab A0.levels h),Ne.symm (Ab A0.aaj h)⟩;obtain ⟨w1,w2,w3,w4,w5,w6⟩:=free Bz;obtain ⟨d1,d2,d3,d4,d5,d6⟩:=free JP;have EF:∀ {b:Addr},H b=none->b∉ls:=λ{b} h z=>by
   obtain ⟨j,hj,ej⟩:=List.mem_iff_getElem.mp z;have:=A0.chs j b (by rw [List.getElem?_eq_getElem hj,ej]);rw [h] at this;cases this
  have eN:({ N with gk:=EE 0 [] }:NA)=N:=by
   obtain ⟨_,_,_,_,_,_,_,g⟩:=N;have e:g=[]:=gk;subst e;rfl
  refine ⟨λm σ H2=>∃ gs ks W x4,σ=[some (.ref N.p),some (.ref lt),some (.ref d),some (.ref lw),x4]/\m=3 * (s.n - ks.length)+W.length/\Ba C { N with gk:=EE 0 gs } H2 s ls/\ks.Nodup/\(∀ y∈ks,y < s.n)/\(∀ y∈gs,y < s.n)/\gs.length<=ks.length/\H2 d=some (.dK (E5 ks))/\H2 lw=some (.lst (lsN W))/\(∀ y∈W,y < s.n)/\W.length<=ts.length+2 * ks.length/\(∀ b o,H b=some o->b≠N.l->b≠N.g->H2 b=some o),
   ⟨_,[],[],ts.reverse,none,rfl,rfl,(by rw [eN];exact A0.same G'),List.nodup_nil,(λy hy=>by cases hy),(λy hy=>by cases hy),Nat.le_refl _,by rw [Ac dl,Ad];rfl,Ad,(λy hy=>lF y (List.mem_reverse.mp hy)),by simp,λb o e _ _=>G' b o e⟩,?_⟩
  rintro m σ H2 ⟨gs,ks,W',x4,rfl,rfl,A2,knd,kn,gn,gl,hd2,FV,qc,Xs,f2⟩;have few:=nodup_range knd kn;refine ⟨_,rfl,!(lsN W').isEmpty,.inl ⟨_,AO.of FV,rfl⟩,?_⟩;rcases List.eq_nil_or_concat W' with rfl | ⟨W1,y,rfl⟩
  ·refine Ck ?_;exact q gs H2 A2 gn () f2
  ·rw [List.concat_eq_append] at *;have yn:y < s.n:=qc y (by simp);obtain ⟨rn,rr⟩:=W.rp y yn;refine Cs (by simp [lsN]) ⟨_,fun σ' H' z=>z,?_⟩;have eW:lsN (W1++[y])=lsN W1++[V.int ((y:Nat):Int)]:=C7 _ _;rw [eW] at FV;have lW:(W1++[y]).length=W1.length+1:=(by simp);rw [lW] at Xs;refine ⟨_,rfl,N.p,N.dx,_,rfl,A2.ins,rfl,_,rfl,.inl ⟨rfl,_,AO.of FV⟩,lw,_,V.int ((y:Nat):Int),rfl,rfl,FV,by simp,?_⟩;rw [List.dropLast_concat];have A3:Ba C { N with gk:=EE 0 gs } (upd H2 lw (.lst (lsN W1))) s ls:=A2.off w1 w2 w3 w4 w5 w6 (EF Bz);refine ⟨{ N with gk:=EE 0 gs },_,ls,y,rfl,A3,yn,λH4 A4 e4=>?_⟩;have e4:∀ b,b≠N.l->H4 b=(upd H2 lw (.lst (lsN W1))) b:=e4;have Rk:H4 lw=some (.lst (lsN W1)):=(by rw [e4 lw w4,Ad]);have T6:H4 d=some (.dK (E5 ks)):=(by rw [e4 d d4,Ac dl];exact hd2);have f4:∀ b o,H b=some o->b≠N.l->b≠N.g->H4 b=some o:=λb o e b1 b2=>(by rw [e4 b b1,Ac (Ab e Bz)];exact f2 b o e b1 b2);have Qk:DE H4 d (.int ((s.rp y:Nat):Int)) (Bu (E5 ks) (Sum.inl ((s.rp y:Nat):Int):Key)):=.inl ⟨E5 ks,Sum.inl ((s.rp y:Nat):Int),.inl T6,rfl,rfl⟩;refine ⟨_,rfl,_,rfl,d,_,rfl,Qk,_,rfl,?_⟩;rcases Mq (ks:=ks) (y:=s.rp y) with ⟨ka,kb⟩ | ⟨ka,kb⟩
   ·rw [kb];refine Cm ?_;refine ⟨_,rfl,_,rfl,d,_,rfl,.inl ⟨E5 ks,Sum.inl ((s.rp y:Nat):Int),T6,rfl,by rw [E5,List.length_map];exact EN (),rfl⟩,?_⟩;have ep:putK (E5 ks) (Sum.inl ((s.rp y:Nat):Int):Key) (V.bl true)=E5 (ks++[s.rp y]):=by
     rw [Ec _ kb,E5,E5,List.map_append];rfl
    rw [ep];have NW:(ks++[s.rp y]).Nodup:=List.nodup_append.mpr ⟨knd,by simp,λa ha b hb=>by rw [List.mem_singleton.mp hb];exact λz=>ka (by rw [<- z];exact ha)⟩;have bZ:∀ z∈ks++[s.rp y],z < s.n:=λz hz=>(List.mem_append.mp hz).elim (kn z) λh=>(by rw [List.mem_singleton.mp h];exact rn);have XI:=nodup_range NW bZ;have lk:(ks++[s.rp y]).length=ks.length+1:=(by simp);rw [lk] at XI;have A5:Ba C { N with gk:=EE 0 gs } (upd H4 d (.dK (E5 (ks++[s.rp y])))) s ls:=A4.off d1 d2 d3 d4 d5 d6 (EF JP);have bD:(upd H4 d (.dK (E5 (ks++[s.rp y])))) lw=some (.lst (lsN W1)):=(by rw [Ac (Ne.symm dl)];exact Rk);have y9:(upd H4 d (.dK (E5 (ks++[s.rp y])))) d=some (.dK (E5 (ks++[s.rp y]))):=Ad;have f5:∀ b o,H b=some o->b≠N.l->b≠N.g->(upd H4 d (.dK (E5 (ks++[s.rp y])))) b=some o:=λb o e b1 b2=>(by rw [Ac (Ab e JP)];exact f4 b o e b1 b2);generalize upd H4 d (.dK (E5 (ks++[s.rp y])))=H5 at A5 bD y9 f5 ⊢;obtain ⟨l1,Dr⟩:∃ l1,ls[s.rp y]?=some l1:=⟨_,List.getElem?_eq_getElem (by rw [A0.len];exact rn)⟩;have Hn:=A5.chs _ _ Dr;have xR:=W.ar _ rn;refine ⟨_,rfl,.inl ⟨rfl,_,AO.of bD⟩,_,rfl,N.p,C,N.dx,_,_,rfl,A5.ins,T.cl,T.nI,rfl,_,rfl,N.i,_,_,_,rfl,rfl,AO.of A5.inner,Ar (v:=V.ref l1) (by rw [List.getElem?_map,Dr];rfl),l1,_,rfl,AO.of Hn,by simp only [lsN,List.length_map];omega,λlr hlr=>?_⟩;have sr:=Ai.new (o:=.lst (lsN (s.ch (s.rp y))).reverse) hlr;have lG:(lsN (s.ch (s.rp y))).reverse=lsN (s.ch (s.rp y)).reverse:=(by simp [lsN]);refine ⟨lw,lr,_,_,rfl,rfl,sr _ _ bD,Ad,by simp only [lsN,List.length_map,List.length_reverse];exact BZ (),?_⟩;rw [lG,<- C7];have A6:Ba C { N with gk:=EE 0 gs } (upd (upd H5 lr (.lst (lsN (s.ch (s.rp y)).reverse))) lw (.lst (lsN (W1++(s.ch (s.rp y)).reverse)))) s ls:=by
     rw [<- lG];exact (A5.same sr).off w1 w2 w3 w4 w5 w6 (EF Bz)
    have fD:(upd (upd H5 lr (.lst (lsN (s.ch (s.rp y)).reverse))) lw (.lst (lsN (W1++(s.ch (s.rp y)).reverse)))) d=some (.dK (E5 (ks++[s.rp y]))):=(by rw [Ac dl,<- lG];exact sr _ _ y9);have fE:(upd (upd H5 lr (.lst (lsN (s.ch (s.rp y)).reverse))) lw (.lst (lsN (W1++(s.ch (s.rp y)).reverse)))) lw=_:=Ad;have f6:∀ b o,H b=some o->b≠N.l->b≠N.g->(upd (upd H5 lr (.lst (lsN (s.ch (s.rp y)).reverse))) lw (.lst (lsN (W1++(s.ch (s.rp y)).reverse)))) b=some o:=λb o e b1 b2=>(by rw [Ac (Ab e Bz),<- lG];exact sr _ _ (f5 b o e b1 b2));generalize upd (upd H5 lr (.lst (lsN (s.ch (s.rp y)).reverse))) lw (.lst (lsN (W1++(s.ch (s.rp y)).reverse)))=H6 at A6 fD fE f6 ⊢;have ya:∀ z∈W1++(s.ch (s.rp y)).reverse,z < s.n:=λz hz=>(List.mem_append.mp hz).elim (λh=>qc z (by simp [h])) λh=>W.ch _ rn z (List.mem_reverse.mp h);have lH:(W1++(s.ch (s.rp y)).reverse).length=W1.length+(s.ch (s.rp y)).length:=(by simp);refine ⟨_,rfl,N.p,C,N.dx,_,_,rfl,A6.ins,T.cl,T.nS,rfl,_,rfl,N.s,_,_,_,rfl,rfl,AO.of A6.sorts,Ar (CI rn),rfl,_,rfl,?_⟩;rw [Fs (W.tg _ rn)];by_cases e2:s.tg (s.rp y)=2
    ·refine Cs (by simp [e2]) ?_;refine ⟨_,rfl,_,rfl,N.p,C,N.dx,_,_,rfl,A6.ins,T.cl,T.nG,rfl,_,rfl,N.p,C,N.dx,_,_,rfl,A6.ins,T.cl,T.nG,rfl,N.g,_,rfl,A6.aaj,N.g,_,rfl,.inl ⟨EE 0 gs,Sum.inl (((EE 0 gs).length:Nat):Int),A6.aaj,rfl,by rw [IV];exact EN (),rfl⟩,?_⟩;have eg:putK (EE 0 gs) (Sum.inl (((EE 0 gs).length:Nat):Int):Key) (V.int ((s.rp y:Nat):Int))=EE 0 (gs++[s.rp y]):=by
      rw [IV,Ec _ (Y1 ()),Tf,Nat.zero_add]
     rw [eg];refine ⟨_,?_,gs++[s.rp y],ks++[s.rp y],W1++(s.ch (s.rp y)).reverse,_,rfl,rfl,Qt A6 _,NW,bZ,(λz hz=>(List.mem_append.mp hz).elim (gn z) λh=>by rw [List.mem_singleton.mp h];exact rn),by rw [List.length_append,lk];simp;omega,by rw [Ac d6];exact fD,by rw [Ac w6];exact fE,ya,by rw [lH,lk];omega,λb o e b1 b2=>by rw [Ac b2];exact f6 b o e b1 b2⟩;rw [lW,lH,lk];omega
    ·refine CD (by simp [e2]) ?_;refine ⟨_,?_,gs,ks++[s.rp y],W1++(s.ch (s.rp y)).reverse,_,rfl,rfl,A6,NW,bZ,gn,by rw [lk];omega,fD,fE,ya,by rw [lH,lk];omega,f6⟩;rw [lW,lH,lk];omega
   ·rw [kb];refine Ck ?_;exact ⟨_,by rw [lW];omega,gs,ks,W1,_,rfl,rfl,A4,knd,kn,gn,gl,T6,Rk,(λz hz=>qc z (by simp [hz])),(),f4⟩
end
abbrev IW:List Str:=["self","tops","made","number","gap","begun","waiting","at","inner","missing"]
noncomputable def xU1:Expr:=valueOf (inDef As 3)
noncomputable def xU2:Expr:=valueOf (T8 (inDef As 4) 2)
noncomputable def xU3:Expr:=match T8 (inDef As 4) 3 with
 | .If _ _ [.If _ [.Assign _ (.BinOp _ _ (.Call _ [e] _ _) _) _] _ _] _=>e
 | _=>.Constant .none 0 ⟨0,0,0,0⟩
noncomputable def Wd (H:Hp)(v:V):Prop:=∃ t g us,v=.ref t/\H t=some (.tup (.str (Bf g)::us))/\g < 6
theorem Wd.mono {H H':Hp}(s:TSub H H'){v:V}(h:Wd H v):Wd H' v:=by
 obtain ⟨t,g,us,h1,h2,h3⟩:=h;exact ⟨t,g,us,h1,s _ _ h2,h3⟩
noncomputable def FZ (H:Hp)(kvs:List (Key × V))(md:Nat->Bool):Prop:=∀ y:Nat,(md y=false/\Bu kvs (Sum.inl ((y:Nat):Int):Key)=none)\/(md y=true/\∃ v,Bu kvs (Sum.inl ((y:Nat):Int):Key)=some v/\Wd H v)
theorem FZ.mono {H H':Hp}(s:TSub H H'){kvs:List (Key × V)}{md:Nat->Bool}(h:FZ H kvs md):FZ H' kvs md:=λy=>(h y).imp id λ⟨a,v,b,c⟩=>⟨a,v,b,c.mono s⟩
noncomputable def setB (f:Nat->Bool)(x:Nat):Nat->Bool:=λy=>if y=x then true else f y
theorem FZ.put {H:Hp}{kvs:List (Key × V)}{md:Nat->Bool}{x:Nat}{v:V}(h:FZ H kvs md)(hv:Wd H v):FZ H (putK kvs (Sum.inl ((x:Nat):Int)) v) (setB md x):=λy=>by
 unfold setB;rw [Fd];by_cases e:y=x
 ·subst e;rw [if_pos rfl,if_pos rfl];exact .inr ⟨rfl,v,rfl,hv⟩
 ·rw [if_neg e,if_neg (λz=>e (by have:=Sum.inl.inj z;omega))];exact h y
theorem FZ.some {H:Hp}{kvs:List (Key × V)}{md:Nat->Bool}(h:FZ H kvs md)(y:Nat):(Bu kvs (Sum.inl ((y:Nat):Int):Key)).isSome=md y:=by
 rcases h y with ⟨a,b⟩ | ⟨a,v,b,_⟩
 ·rw [a,b];rfl
 ·rw [a,b];rfl
theorem Qv (p:Nat->Bool)(n:Nat):cnt p n<=n:=by
 induction n with
 | zero=>exact Nat.le_refl _
 | succ n ih =>
  show cnt p n+(if p n then 1 else 0)<=n+1
  split <;> omega
theorem JS {f:Nat->Bool}{x n:Nat}(hx:x < n)(h:f x=false):cnt (λr=>!setB f x r) n < cnt (λr=>!f r) n:=by
 refine Q9 (j:=x) (λr Qq=>?_) (by show (!f x)=true;rw [h];rfl) (λQq=>?_) hx
 ·by_cases z:r=x
  ·rw [z,h];rfl
  ·have Qq:(!(if r=x then true else f r))=true:=Qq
   rw [if_neg z] at Qq;exact Qq
 ·have Qq:(!(if x=x then true else f x))=true:=Qq
  rw [if_pos rfl] at Qq;cases Qq
noncomputable def Ll (n:Nat)(md bg:Nat->Bool)(W:List Nat):Nat:=cnt (λr=>!md r) n+3 * cnt (λr=>!bg r) n+W.length
section
variable {Pr:Program}{w:World}{K:W.Frag}{mg:Str->Option Value}{base:Heap}{C CF CJ:Addr}
structure UQ (C:Addr)(N:NA)(s:Ns)(ls:List Addr)(H:Hp)(dm db lw:Addr)(H2:Hp)(md bg:Nat->Bool)(kvs E6:List (Key × V))(W:List Nat):Prop where
 at_:Ba C N H2 s ls
 fr:∀ b o,H b=some o->b≠N.l->H2 b=some o
 m:H2 dm=some (.dK kvs)
 dk:FZ H2 kvs md
 b:H2 db=some (.dK E6)
 bk:∀ y:Nat,(Bu E6 (Sum.inl ((y:Nat):Int):Key)).isSome=bg y
 w:H2 lw=some (.lst (lsN W))
theorem UQ.same {N:NA}{s:Ns}{ls:List Addr}{H:Hp}{dm db lw:Addr}{H2 H3:Hp}{md bg:Nat->Bool}{kvs E6:List (Key × V)}{W:List Nat}(U:UQ C N s ls H dm db lw H2 md bg kvs E6 W)(sm:Ai H2 H3):UQ C N s ls H dm db lw H3 md bg kvs E6 W :=
 ⟨U.at_.same sm,λb o e n=>sm _ _ (U.fr b o e n),sm _ _ U.m,U.dk.mono (TSub.of_same sm),sm _ _ U.b,U.bk,sm _ _ U.w⟩
theorem D4:Ak IW ["self","tops"] (Af As):=nofun
noncomputable def Qw (C CJ:Addr):Sp:=λvs H Q E=>∃ (N:NA) (s:Ns) (ls:List Addr) (ts gs:List Nat) (lt:Addr),vs=[.ref N.p,.ref lt]/\N.gk=EE 0 gs/\Ba C N H s ls/\Wf s/\(∀ x∈gs,x < s.n)/\gs.length<=s.n/\H lt=some (.lst (lsN ts))/\lt≠N.l/\(∀ t∈ts,t < s.n)/\ts.length<=900000 /\
 (∀ d kvs md H',Ba C N H' s ls->H' d=some (.dK kvs)->FZ H' kvs md->(∀ t∈ts,md (s.rp t)=true)->(∀ b o,H b=some o->b≠N.l->H' b=some o)->d≠N.l->Q (.ref d) H')/\∀ H',(∀ b o,H b=some o->b≠N.l->H' b=some o)->E (.ref CJ) none H'
theorem Y4 {f:Addr}{fd:FuncData}{bJ:List Value}{nJ:String}(F:B' K "kinds_under" "Nodes.kinds_under" As f fd)(T:BR K mg C)(mJ:mg "NoJoin"=some (.ref CJ))(qJ:W.excIn K CJ bJ nJ=true){BI Bn:String}(FJ:ExcBaseFacts Bn nJ BI bJ)(mT:mg "tuple"=none)
  (cL:Mc Pr w K mg base Bs C 1 "leader" ["self","node"] (Bh C)) (cIn:Mc Pr w K mg base Bs C 2 "inner_leaders" ["self","node"] (Gf C)):Av Pr w K mg base (De Pr w) 3 f fd ["self","tops"] (Qw C CJ):=by
 obtain ⟨fL,Ld,GL,bL,mL⟩:=cL;obtain ⟨bV,NR,T5,ft,fu⟩:=cIn;refine F.okX D4 (λvs H Q E h=>?_) (λB7 A0 outer s0 H vs Q E hr h=>?_)
 ·obtain ⟨N,s,ls,ts,gs,lt,rfl,_⟩:=h;rfl
 ·obtain ⟨N,s,ls,ts,gs,lt,rfl,egk,N0,W,gn,gl,DL,nlt,lF,htl,q1,q2⟩:=h;have BK:Am 1 _:=hr.mono ⟨⟩;have hb:=BE;have hu:=Cc hr;have wn:=W.n;have S1:Bj (Px Pr w K mg base IW "Nodes.kinds_under" (Af As) f B7 A0 outer s0 H E) (Cv xU1) [("self",s0.heap.objs.size+1)] ["node"] ["self"] [0] :=
   ⟨rfl,by decide +kernel,rfl,by decide +kernel,rfl,rfl,rfl,rfl⟩
  have S2:Bj (Px Pr w K mg base IW "Nodes.kinds_under" (Af As) f B7 A0 outer s0 H E) (Cv xU2) [("made",s0.heap.objs.size+2)] ["part"] ["made"] [2] :=
   ⟨rfl,by decide +kernel,rfl,by decide +kernel,rfl,rfl,rfl,rfl⟩
  have S3:Bj (Px Pr w K mg base IW "Nodes.kinds_under" (Af As) f B7 A0 outer s0 H E) (Cv xU3) [("made",s0.heap.objs.size+2)] ["part"] ["made"] [2] :=
   ⟨rfl,by decide +kernel,rfl,by decide +kernel,rfl,rfl,rfl,rfl⟩
  have Mj:(["node","self"]:List Str).Nodup:=by decide +kernel
  have bo:(["part","made"]:List Str).Nodup:=by decide +kernel
  refine ⟨_,Ag (Au (i:=2) D4.nd rfl (.inr rfl) Ee)
   (Ag (PL (HX (EA Cg) rfl (IG (Ed PySem.F.plainAttrs_dict PySem.F.slot_dict_items PySem.F.type_dict_items GQ (Ao (Ah 0)))) (Jv rfl (Cw (Br (i:=3) D4.nd rfl (.inl rfl)) (Cw (Br (i:=4) D4.nd rfl (.inl rfl)) GH)))
    (Aj (DO hu (Ah 2) (Ah 4) (Bi (Aa Aw (Aa (Ah 3) Ae))) rfl))))
   (Ag (Au (i:=5) D4.nd rfl (.inl rfl) Ee)
   (Ag (KP (i:=6) D4.nd rfl (.inl rfl) (te:=D0 C "leader" (Bh C) [] E0 (Bt 1) (Cb (Bt 0) Dp)) S1 rfl (EW (Ah 1)) (λC' s0 H0 ex=>Br (i:=0) Mj rfl (.inl rfl)) (λ_ _ _ _=>Fi) (λC' s0 H0 ex=>BH (Ah 1) T.cl mL GL BK bL (Aa (Ah 0) Ae)))
   (Ag (D2 (EA Cg) (C5 (Ah 6))
    (Ag (Au (i:=7) D4.nd rfl (.inl rfl) (BG Ay (Ah 6) ⟨UX Ip CP⟩ D1))
    (Ag (Au (i:=8) D4.nd rfl (.inl rfl) (BH (Ah 0) T.cl fu T5 hr ft (Aa (Ah 7) Ae)))
    (Ag (KP (i:=9) D4.nd rfl (.inl rfl) (tt:=tB (Ga (Bt 0) (Bt 1))) (te:=Bt 0) S2 rfl (EW (Ah 8)) (λC' s0 H0 ex=>Br (i:=0) bo rfl (.inl rfl)) (λC' s0 H0 ex=>dP (Ei hu (Ah 0) (Ah 1))) (λC' s0 H0 ex=>Ah 0))
    (Aj (BY (Ve hu (Ah 7) (Ah 2)) (Aj (Ap (Ed PySem.F.plainAttrs_list PySem.F.slot_list_pop PySem.F.type_list_pop Ea (Ah 6))))
     (Aj (BY (V8 (C5 (Ah 9))) (Aj (DO hu (Ah 2) (Ah 7) (AX RQ (Bi (Aa (BG Ay (Ao (Ah 0)) (Ah 7) D1) Ae)) (Dd EH rfl mT PyProof.Rows.boot_tuple (Aa (EX (te:=M6 (Bt 1) (Bt 0)) S3 rfl (EW (Ah 8)) (λC' s0 H0 ex=>Br (i:=0) bo rfl (.inl rfl)) (λ_ _ _ _=>Fi) (λC' s0 H0 ex=>KD hu (Ah 1) (Ah 0) D1)) Ae))) rfl))
      (Aj (BY (Ve hu (Ah 7) (Ah 5)) (Aj (Me Cg (λ_ _ h=>h) rfl mJ qJ FJ rfl (Aa Aw Ae)))
       (Ag (DO hu (Ah 5) (Ah 7) KA rfl) (Aj (Ap (EV PySem.F.plainAttrs_list PySem.F.slot_list_extend PySem.F.type_list_extend D7 (Ah 6) (Aa (Ah 9) Ae)))))))))))))))
   (Aj (B9 (Ah 2))))))),?_⟩
  have qd:H N.g=some (.dK (EE 0 gs)):=by rw [<- egk];exact N0.aaj
  obtain ⟨_,L0⟩:=N0.lead;have free:∀ {b:Addr},H b=none->b≠N.p/\b≠N.s/\b≠N.i/\b≠N.l/\b≠N.v/\b≠N.g:=λ{b} h=>⟨Ne.symm (Ab N0.ins h),Ne.symm (Ab N0.sorts h),Ne.symm (Ab N0.inner h),Ne.symm (Ab L0 h),Ne.symm (Ab N0.levels h),Ne.symm (Ab N0.aaj h)⟩;have EF:∀ {b:Addr},H b=none->b∉ls:=λ{b} h z=>by
   obtain ⟨j,hj,ej⟩:=List.mem_iff_getElem.mp z;have:=N0.chs j b (by rw [List.getElem?_eq_getElem hj,ej]);rw [h] at this;cases this
  intro dm c4;have nfg:∀ o' u',H N.g≠some (.frz o' u'):=λo' u' z=>by rw [qd] at z;cases z
  have ng:N.g≠dm:=Ne.symm (free c4).2.2.2.2.2;have G':Ai H (upd H dm (.dK [])):=Ai.new c4;have A1:=N0.same G';have gL:=G' _ _ qd;have gM:(upd H dm (.dK [])) dm=some (.dK []):=Ad;generalize upd H dm (.dK [])=H1 at G' A1 gL gM ⊢;refine ⟨_,rfl,N.p,C,N.dx,_,_,rfl,A1.ins,T.cl,T.nG,rfl,.inr (.inr (.inl ⟨rfl,.inl ⟨_,gL⟩⟩)),N.g,EE 0 gs,rfl,rfl,gL,λvw Vr=>⟨vw,N.g,EE 0 gs,rfl,Ad,by rw [Ac (Ab gL Vr)];exact gL,λo=>?_⟩⟩;have Vv:Ai H1 (upd H1 vw (FU vw N.g)):=Ai.new Vr;have gsl:(EE 0 gs).length=gs.length:=IV;refine FH (o:=o) (d:=N.g) (kvs:=EE 0 gs) (λk σ H3=>∃ kvs md x3 x4,σ=[some (.ref N.p),some (.ref lt),some (.ref dm),x3,x4,none,none,none,none,none]/\(∀ b o',H b=some o'->b≠N.g->H3 b=some o')/\H3 N.g=some (.frz o (.dK (EE 0 gs)))/\H3 dm=some (.dK kvs)/\kvs.length<=k/\FZ H3 kvs md)
   ⟨[],λ_=>false,none,none,rfl,λb o' e n=>by rw [Ac n];exact Vv b o' (G' b o' e),Ad,by rw [Ac (Ne.symm ng)];exact Vv _ _ gM,Nat.le_refl _,λk=>.inl ⟨rfl,rfl⟩⟩ (λk σ H3 _ z=>?_) (λk p σ H3 tT hp z htT=>?_) (fun σ H3 z=>?_)
  ·obtain ⟨_,_,_,_,_,_,z,_⟩:=z;exact z
  ·obtain ⟨kvs,md,x3,x4,rfl,Oh,lI,Tg,qe,lJ⟩:=z;obtain ⟨x,hx,rfl⟩:=Y2 hp;have hkn:=(List.getElem?_eq_some_iff.mp hx).1;refine ⟨tT,_,rfl,CZ.of Ad,rfl,_,_,rfl,_,_,rfl,rfl,?_⟩;have gN:Ai H3 (upd H3 tT (.tup [.int (((0+k:Nat):Nat):Int),.int ((x:Nat):Int)])):=Ai.new htT;refine ⟨_,rfl,by show 2<=sizeLine;omega,λpt Y5=>?_⟩;have Kd:Ai (upd H3 tT (.tup [.int (((0+k:Nat):Nat):Int),.int ((x:Nat):Int)])) (upd (upd H3 tT (.tup [.int (((0+k:Nat):Nat):Int),.int ((x:Nat):Int)])) pt (.tup [.str "any",.int (((0+k:Nat):Nat):Int)])):=Ai.new Y5;have wpt:Wd (upd (upd H3 tT (.tup [.int (((0+k:Nat):Nat):Int),.int ((x:Nat):Int)])) pt (.tup [.str "any",.int (((0+k:Nat):Nat):Int)])) (.ref pt):=⟨pt,2,_,rfl,Ad,⟨⟩⟩;have lK:=Ai.trans gN Kd;have gO:=lK _ _ Tg;have hgA:=lK _ _ lI;have dkA:=lJ.mono (TSub.of_same lK);refine ⟨_,rfl,_,rfl,dm,_,rfl,Iy.k (k:=Sum.inl ((x:Nat):Int)) gO (),?_⟩;refine ⟨_,setB md x,_,_,rfl,λb o' e n=>?_,by rw [Ac ng];exact hgA,Ad,?_,?_⟩
   ·rw [Ac (Ab e c4)];exact lK b o' (Oh b o' e n)
   ·have:=(Ej kvs (Sum.inl ((x:Nat):Int):Key) (.ref pt)).1;omega
   ·exact (dkA.put wpt).mono (TSub.put λxs z=>by rw [gO] at z;cases z)
  ·obtain ⟨kvs,md,x3,x4,rfl,Oh,lI,Tg,qe,lJ⟩:=z;rw [gsl] at qe;refine .inr ⟨N.g,o,EE 0 gs,lI,nfg,?_⟩;have gN:Ai H (upd H3 N.g (.dK (EE 0 gs))):=λb o' e=>by
    by_cases z:b=N.g
    ·subst z;rw [qd] at e;cases e;exact Ad
    ·rw [Ac z];exact Oh b o' e z
   have Ti:(upd H3 N.g (.dK (EE 0 gs))) dm=some (.dK kvs):=(by rw [Ac (Ne.symm ng)];exact Tg);have qf:FZ (upd H3 N.g (.dK (EE 0 gs))) kvs md:=lJ.mono (TSub.put λxs z=>by rw [lI] at z;cases z);generalize upd H3 N.g (.dK (EE 0 gs))=H4 at gN Ti qf ⊢;intro db Cr;have yb:dm≠db:=Ab Ti Cr;have unf:∀ {H':Hp} {b:Addr},Ai H H'->H' b=none->H b=none:=λ{H' b} sm h=>by
    cases z:H b with
    | none=>rfl
    | some o=>rw [sm _ _ z] at h;cases h
   have Y6:H db=none:=unf gN Cr;have Kd:Ai H4 (upd H4 db (.dK [])):=Ai.new Cr;have Y7:(upd H4 db (.dK [])) db=some (.dK []):=Ad;have Y8:=Kd _ _ Ti;have qg:=qf.mono (TSub.of_same Kd);have Qx:=Ai.trans gN Kd;generalize upd H4 db (.dK [])=H5 at Kd Y7 Y8 qg Qx ⊢;have A5:=N0.same Qx;refine ⟨_,rfl,lt,rfl,⟨_,AO.of (Qx _ _ DL)⟩,JM T A5 (Qx _ _ DL) nlt lF () rfl λH6 A6 e6=>?_⟩;intro lw Cz;have Lg:∀ b o,H b=some o->b≠N.l->H6 b=some o:=λb o e n=>(by rw [e6 b n];exact Qx _ _ e);have Bz:H lw=none:=by
    cases z:H lw with
    | none=>rfl
    | some o' =>
     by_cases y:lw=N.l
     ·obtain ⟨_,L6⟩:=A6.lead;rw [y,L6] at Cz;cases Cz
     ·rw [Lg lw o' z y] at Cz;cases Cz
   obtain ⟨m1,m2,m3,m4,m5,m6⟩:=free c4;obtain ⟨b1,b2,b3,b4,b5,b6⟩:=free Y6;obtain ⟨w1,w2,w3,w4,w5,w6⟩:=free Bz;have Y9:H6 dm=some (.dK kvs):=(by rw [e6 dm m4];exact Y8);have Ya:H6 db=some (.dK []):=(by rw [e6 db b4];exact Y7);have qh:dm≠lw:=Ab Y9 Cz;have qi:db≠lw:=Ab Ya Cz;have gP:TSub H5 H6:=λb xs e=>by
    obtain ⟨_,L5⟩:=A5.lead;rw [e6 b (AL e L5 (by intro z;cases z))];exact e
   have c5:Ai H6 (upd H6 lw (.lst (lsN (ts.map s.rp)))):=Ai.new Cz;have U1:UQ C N s ls H dm db lw (upd H6 lw (.lst (lsN (ts.map s.rp)))) md (λ_=>false) kvs [] (ts.map s.rp) :=
    ⟨A6.same c5,λb o e n=>c5 _ _ (Lg b o e n),c5 _ _ Y9,qg.mono (TSub.trans gP (TSub.of_same c5)),c5 _ _ Ya,λr=>rfl,Ad⟩
   have c1:=Qv (λr=>!md r) s.n;have c2:=Qv (λr=>!(λ_:Nat=>false) r) s.n;refine ⟨λm σ H2=>∃ md bg kvs E6 W x7 x8 x9,σ=[some (.ref N.p),some (.ref lt),some (.ref dm),x3,x4,some (.ref db),some (.ref lw),x7,x8,x9]/\m=Ll s.n md bg W/\m<=5000000/\UQ C N s ls H dm db lw H2 md bg kvs E6 W/\(∀ y∈W,y < s.n)/\(∀ t∈ts,md (s.rp t)=true\/s.rp t∈W)/\kvs.length+cnt (λr=>!md r) s.n<=2000000/\E6.length+cnt (λr=>!bg r) s.n<=2000000,
    ⟨_,md,λ_=>false,kvs,[],ts.map s.rp,none,none,none,rfl,rfl,by unfold Ll;rw [List.length_map];omega,U1,(λy hy=>by obtain ⟨t,ht,rfl⟩:=List.mem_map.mp hy;exact (W.rp t (lF t ht)).1),(λt ht=>.inr (List.mem_map.mpr ⟨t,ht,rfl⟩)),(),Nat.le_trans (Nat.le_of_eq (Nat.zero_add _)) (Nat.le_trans (Qv _ _) ())⟩,?_⟩
   clear U1 Y9 Ya qg Y8 Y7 qf Ti lJ Tg c1 c2 qe Cz c5 A6 e6 Lg gP;rintro m σ H2 ⟨md,bg,kvs,E6,Wl,x7,x8,x9,rfl,rfl,hm,U2,wl,tm,yc,yd⟩;refine ⟨_,rfl,!(lsN Wl).isEmpty,.inl ⟨_,AO.of U2.w,rfl⟩,?_⟩;rcases List.eq_nil_or_concat Wl with rfl | ⟨W1,x,rfl⟩
   ·refine Ck ⟨_,rfl,?_⟩;exact q1 dm kvs md H2 U2.at_ U2.m U2.dk (λt ht=>(tm t ht).resolve_right (by simp)) U2.fr m4
   ·rw [List.concat_eq_append] at *;have xn:x < s.n:=wl x (by simp);have ew:lsN (W1++[x])=lsN W1++[V.int ((x:Nat):Int)]:=C7 _ _;have EY:(!(lsN (W1++[x])).isEmpty)=true:=(by simp [lsN]);rw [EY];refine Cm ⟨_,fun σ' H' z=>z,?_⟩;have lW:(W1++[x]).length=W1.length+1:=(by simp);have hlen:W1.length<=5000000:=(by unfold Ll at hm;rw [lW] at hm;omega);refine ⟨_,rfl,1,rfl,lw,_,_,_,rfl,rfl,AO.of U2.w,by rw [ew];exact P5 _ _,?_⟩;have ye:=W.ar x xn;refine ⟨_,rfl,N.p,N.dx,_,rfl,U2.at_.ins,rfl,_,rfl,N,s,ls,x,rfl,U2.at_,xn,W.ch x xn,ye,λli H4 A4 JN Tj f4=>?_⟩;obtain ⟨_,eX⟩:=U2.at_.lead;have gQ:TSub H2 H4:=λb xs e=>(by rw [f4 b (AL e eX (by intro z;cases z)) (Ab e JN)];exact e);have U4:UQ C N s ls H dm db lw H4 md bg kvs E6 (W1++[x]) :=
     ⟨A4,λb o e n=>by rw [f4 b n (Ab (U2.fr b o e n) JN)];exact U2.fr b o e n,by rw [f4 dm m4 (Ab U2.m JN)];exact U2.m,U2.dk.mono gQ,by rw [f4 db b4 (Ab U2.b JN)];exact U2.b,U2.bk,by rw [f4 lw w4 (Ab U2.w JN)];exact U2.w⟩
    have inl:((s.ch x).map s.rp).length<=2:=(by rw [List.length_map];exact ye);have Ke:∀ c∈(s.ch x).map s.rp,c < s.n:=λc hc=>by
     obtain ⟨p,hp,rfl⟩:=List.mem_map.mp hc;exact (W.rp p (W.ch x xn p hp)).1
    generalize (s.ch x).map s.rp=cs at Tj inl Ke;clear gQ eX f4 A4 JN;refine ⟨_,rfl,li,rfl,⟨_,AO.of Tj⟩,?_⟩;refine D8 (K:=K) (a:=li) (xs:=lsN cs) (λk ys H5=>H5=H4/\ys=lsN ((cs.take k).filter λc=>!md c)) ⟨rfl,by simp [lsN]⟩ (λk ys H5 z=>by rw [z.1];exact AO.of Tj) (by simp [lsN];omega) (λk ys H5 z=>?_) (λk c' ys H5 Cn z=>?_)
     (λx σ H Q Q' h z=>h _ _ z) (fun σ H Q Q' h z=>?_) (fun σ H Q Q' h z=>?_) (λys H5 z=>?_)
    ·rw [z.2];have h1:=List.length_filter_le (λc=>!md c) (cs.take k);rw [List.length_take] at h1;simp only [lsN,List.length_map];omega
    ·obtain ⟨rfl,rfl⟩:=z;unfold lsN at Cn;rw [List.getElem?_map] at Cn;cases ec:cs[k]? with
     | none=>rw [ec] at Cn;cases Cn
     | some c =>
      rw [ec] at Cn;cases Cn;refine ⟨Ext.set rfl,_,rfl,_,rfl,dm,_,rfl,DE.k (k:=Sum.inl (c:Int)) U4.m,_,rfl,?_⟩;rw [U4.dk.some c];have et:cs.take (k+1)=cs.take k++[c]:=(by rw [List.take_add_one,ec];rfl);cases yf:md c with
      | false =>
       refine Cm ⟨_,rfl,rfl,?_⟩;rw [et,List.filter_append];simp [yf,lsN]
      | true =>
       refine Ck ⟨rfl,?_⟩;rw [et,List.filter_append];simp [yf]
    ·obtain ⟨v1,z1,v2,z2,a1,o1,z3,z4,b1,z5,z6⟩:=z;exact ⟨v1,z1,v2,z2,a1,o1,z3,z4,b1,z5,h _ _ z6⟩
    ·obtain ⟨v1,z1,z2⟩:=z;exact ⟨v1,z1,h _ _ z2⟩
    ·obtain ⟨rfl,rfl⟩:=z;have el2:(lsN cs).length=cs.length:=(by simp [lsN]);rw [el2,List.take_length];intro lm lM;have ms2:(cs.filter λc=>!md c).length<=2:=Nat.le_trans (List.length_filter_le _ _) inl;have yg:∀ y∈cs.filter (λc=>!md c),y < s.n:=λy hy=>Ke y (List.mem_filter.mp hy).1;have yh:cs.filter (λc=>!md c)=[]->∀ c∈cs,md c=true:=λh c hc=>by
      cases e:md c with
      | true=>rfl
      | false =>
       have:c∈cs.filter (λc=>!md c):=List.mem_filter.mpr ⟨hc,by rw [e];rfl⟩;rw [h] at this;cases this
     generalize cs.filter (λc=>!md c)=JT at lM ms2 yg yh;have qj:Ai H5 (upd H5 lm (.lst (lsN JT))):=Ai.new lM;have U5:=U4.same qj;have gR:=qj _ _ Tj;have Tn:(upd H5 lm (.lst (lsN JT))) lm=some (.lst (lsN JT)):=Ad;generalize upd H5 lm (.lst (lsN JT))=NZ at qj U5 gR Tn ⊢;refine ⟨_,rfl,_,rfl,dm,_,rfl,DE.k (k:=Sum.inl (x:Int)) U5.m,_,rfl,?_⟩;rw [U5.dk.some x];cases yi:md x with
     | true =>
      refine Cm ?_;refine ⟨_,rfl,.inl ⟨rfl,_,AO.of U5.w⟩,lw,_,V.int ((x:Nat):Int),rfl,rfl,U5.w,by rw [ew];simp,?_⟩;have sub:TSub NZ (upd NZ lw (.lst (lsN (W1++[x])).dropLast)):=TSub.put λxs z=>(by rw [U5.w] at z;cases z);have lp:Ll s.n md bg W1 < Ll s.n md bg (W1++[x]):=(by unfold Ll;rw [lW];omega);refine ⟨Ll s.n md bg W1,lp,md,bg,kvs,E6,W1,_,_,_,rfl,rfl,(),⟨U5.at_.off w1 w2 w3 w4 w5 w6 (EF Bz),λb o e n=>by rw [Ac (Ab e Bz)];exact U5.fr b o e n,by rw [Ac qh];exact U5.m,U5.dk.mono sub,by rw [Ac qi];exact U5.b,U5.bk,by rw [Ad,ew,List.dropLast_concat]⟩,(λy hy=>wl y (by simp [hy])),λt ht=>?_,yc,yd⟩;rcases tm t ht with z | z
      ·exact .inl z
      ·rcases List.mem_append.mp z with z | z
       ·exact .inr z
       ·rw [List.mem_singleton.mp z];exact .inl yi
     | false =>
      refine Ck ?_;refine ⟨_,rfl,!(lsN JT).isEmpty,.inl ⟨_,AO.of Tn,rfl⟩,?_⟩;by_cases Qy:JT=[]
      ·have eb:(!(!(lsN JT).isEmpty))=true:=(by rw [Qy];rfl);show if (!(!(lsN JT).isEmpty))=true then _ else _
       rw [eb];refine Cm ?_;have all:=yh Qy;have ly:=W.tg x xn;refine ⟨_,rfl,N.p,C,N.dx,_,_,rfl,U5.at_.ins,T.cl,T.nS,rfl,_,rfl,N.s,_,_,_,rfl,rfl,AO.of U5.at_.sorts,Ar (CI xn),by show 1<=sizeLine;omega,λp1 Om=>?_⟩;have NN:Ai NZ (upd NZ p1 (.tup [.str (Bf (s.tg x))])):=Ai.new Om;have U7:=U5.same NN;have Yb:=NN _ _ gR;have gS:(upd NZ p1 (.tup [.str (Bf (s.tg x))])) p1=some (.tup [.str (Bf (s.tg x))]):=Ad;generalize upd NZ p1 (.tup [.str (Bf (s.tg x))])=H7 at NN U7 Yb gS ⊢;have fin:∀ (x7 x8 x9:Option V) (a:Addr) (vs:List V) (H9:Hp),Ai H7 H9->H9 a=some (.tup (.str (Bf (s.tg x))::vs)) ->
         ∃ m',m' < Ll s.n md bg (W1++[x])/\∃ lN qk XS Vy W' x7' x8' x9',([some (.ref N.p),some (.ref lt),some (.ref dm),x3,x4,some (.ref db),some (.ref lw),x7,x8,x9]:List (Option V))=[some (.ref N.p),some (.ref lt),some (.ref dm),x3,x4,some (.ref db),some (.ref lw),x7',x8',x9']/\m'=Ll s.n lN qk W'/\m'<=5000000/\UQ C N s ls H dm db lw (upd H9 dm (.dK (putK kvs (Sum.inl (x:Int):Key) (.ref a)))) lN qk XS Vy W'/\(∀ y∈W',y < s.n)/\(∀ t∈ts,lN (s.rp t)=true\/s.rp t∈W')/\XS.length+cnt (λr=>!lN r) s.n<=2000000/\Vy.length+cnt (λr=>!qk r) s.n<=2000000:=by
        intro x7 x8 x9 a vs H9 Ro ha9;have U9:=U7.same Ro;have sub:TSub H9 (upd H9 dm (.dK (putK kvs (Sum.inl (x:Int):Key) (.ref a)))):=TSub.put λxs z=>(by rw [U9.m] at z;cases z);have cs:=JS (f:=md) xn yi;have lp:Ll s.n (setB md x) bg (W1++[x]) < Ll s.n md bg (W1++[x]):=(by unfold Ll;omega);have pl:=(Ej kvs (Sum.inl (x:Int):Key) (.ref a)).1;refine ⟨_,lp,setB md x,bg,_,E6,W1++[x],x7,x8,x9,rfl,rfl,(),⟨U9.at_.off m1 m2 m3 m4 m5 m6 (EF c4),λb o e n=>by rw [Ac (Ab e c4)];exact U9.fr b o e n,Ad,(U9.dk.put ⟨a,_,vs,rfl,ha9,ly⟩).mono sub,by rw [Ac (Ne.symm yb)];exact U9.b,U9.bk,by rw [Ac (Ne.symm qh)];exact U9.w⟩,wl,λt ht=>?_,(),yd⟩;rcases tm t ht with z | z
        ·refine .inl ?_;show (if s.rp t=x then true else md (s.rp t))=true
         split
         ·rfl
         ·exact z
        ·exact .inr z
       refine ⟨_,rfl,li,rfl,⟨_,AO.of Yb⟩,?_⟩;refine D8 (K:=K) (a:=li) (xs:=lsN cs) (λk ys H8=>H8=H7/\ys.length=k) ⟨rfl,rfl⟩ (λk ys H8 z=>by rw [z.1];exact AO.of Yb) (by simp [lsN];omega) (λk ys H8 z=>by rw [z.2];exact Nat.le_refl _) (λk c' ys H8 Cn z=>?_)
        (λx σ H Q Q' h z=>h _ _ z) (fun σ H Q Q' h z=>h _ _ z) (fun σ H Q Q' h z=>?_) (λys H8 z=>?_)
       ·obtain ⟨rfl,Yc⟩:=z;unfold lsN at Cn;rw [List.getElem?_map] at Cn;cases ec:cs[k]? with
        | none=>rw [ec] at Cn;cases Cn
        | some c =>
         rw [ec] at Cn;cases Cn;rcases U7.dk c with ⟨z1,_⟩ | ⟨_,v,z1,_⟩
         ·rw [all c (List.mem_of_getElem? ec)] at z1;cases z1
         ·exact ⟨Ext.set rfl,Eh ⟨_,rfl,_,rfl,dm,v,rfl,.inl ⟨kvs,Sum.inl ((c:Nat):Int),.inl U7.m,rfl,z1.symm⟩,rfl,by simp [Yc]⟩⟩
       ·obtain ⟨v1,z1,v2,z2,a1,v3,z3,z4,z5⟩:=z;exact ⟨v1,z1,v2,z2,a1,v3,z3,z4,h _ _ z5⟩
       ·obtain ⟨rfl,Yc⟩:=z;intro D hD;have smD:Ai H8 (upd H8 D (.lst ys)):=Ai.new hD;refine ⟨D,ys,rfl,.inl ⟨AO.of Ad,λq hq=>?_⟩⟩;have smq:Ai (upd H8 D (.lst ys)) (upd (upd H8 D (.lst ys)) q (.tup ys)):=Ai.new hq;have To:=Ai.trans smD smq;have yj:=To _ _ gS;have yl:ys.length<=2:=(by rw [Yc];simp [lsN];omega);refine ⟨p1,q,_,ys,rfl,rfl,CZ.of yj,CZ.of Ad,by simp,by show 1+ys.length<=sizeLine;omega,λz=>?_,λz r pz=>?_⟩
        ·subst z;exact ⟨_,rfl,_,rfl,dm,_,rfl,Iy.k (k:=Sum.inl (x:Int)) (U7.same To).m (),fin _ _ _ p1 [] _ To yj⟩
        ·have smr:Ai (upd (upd H8 D (.lst ys)) q (.tup ys)) (upd (upd (upd H8 D (.lst ys)) q (.tup ys)) r (.tup ([.str (Bf (s.tg x))]++ys))):=Ai.new pz;have Ro:=Ai.trans To smr;exact ⟨_,rfl,_,rfl,dm,_,rfl,Iy.k (k:=Sum.inl (x:Int)) (U7.same Ro).m (),fin _ _ _ r ys _ Ro Ad⟩
      ·have eb:(!(!(lsN JT).isEmpty))=false:=by
        cases e:JT with
        | nil=>exact absurd e Qy
        | cons _ _=>rfl
       show if (!(!(lsN JT).isEmpty))=true then _ else _
       rw [eb];refine Ck ?_;refine ⟨_,rfl,_,rfl,db,_,rfl,DE.k (k:=Sum.inl (x:Int)) U5.b,_,rfl,?_⟩;rw [U5.bk x];cases ebx:bg x with
       | true =>
        refine Cm ?_;exact ⟨by simp,q2 NZ U5.fr⟩
       | false =>
        refine Ck ?_;refine ⟨_,rfl,_,rfl,db,_,rfl,Iy.k (k:=Sum.inl (x:Int)) U5.b (),?_⟩;have gT:lm≠db:=AL Tn U5.b (by intro z;cases z);have w7:(upd NZ db (.dK (putK E6 (Sum.inl (x:Int):Key) (.bl true)))) lw=some (.lst (lsN (W1++[x]))):=(by rw [Ac (Ne.symm qi)];exact U5.w);have lm7:(upd NZ db (.dK (putK E6 (Sum.inl (x:Int):Key) (.bl true)))) lm=some (.lst (lsN JT)):=(by rw [Ac gT];exact Tn);have l1':(lsN (W1++[x])).length=W1.length+1:=(by simp [lsN]);have wY:(lsN JT).length=JT.length:=(by simp [lsN]);refine ⟨_,rfl,.inl ⟨rfl,_,AO.of w7⟩,_,rfl,lw,lm,_,_,rfl,rfl,w7,lm7,(),?_⟩;have cs':=JS (f:=bg) xn ebx;have lp:Ll s.n md (setB bg x) (W1++[x]++JT) < Ll s.n md bg (W1++[x]):=(by unfold Ll;rw [List.length_append];omega);have pl:=(Ej E6 (Sum.inl (x:Int):Key) (.bl true)).1;have Xg:TSub NZ (upd NZ db (.dK (putK E6 (Sum.inl (x:Int):Key) (.bl true)))):=TSub.put λxs z=>(by rw [U5.b] at z;cases z);have WS:TSub NZ (upd (upd NZ db (.dK (putK E6 (Sum.inl (x:Int):Key) (.bl true)))) lw (.lst (lsN (W1++[x])++lsN JT))):=TSub.trans Xg (TSub.put λxs z=>by rw [w7] at z;cases z);refine ⟨_,lp,md,setB bg x,kvs,putK E6 (Sum.inl (x:Int):Key) (.bl true),W1++[x]++JT,_,_,_,rfl,rfl,(),⟨(U5.at_.off b1 b2 b3 b4 b5 b6 (EF Y6)).off w1 w2 w3 w4 w5 w6 (EF Bz),λb o e n=>by rw [Ac (Ab e Bz),Ac (Ab e Y6)];exact U5.fr b o e n,by rw [Ac qh,Ac yb];exact U5.m,U5.dk.mono WS,by rw [Ac qi,Ad],λr=>?_,by rw [Ad,<- C7]⟩,(λy hy=>(List.mem_append.mp hy).elim (wl y) (yg y)),(λt ht=>(tm t ht).imp id λz=>List.mem_append.mpr (.inl z)),yc,()⟩;rw [Fd];show _=if r=x then true else bg r
        by_cases z:r=x
        ·rw [if_pos (by rw [z]),if_pos z];rfl
        ·rw [if_neg (λy=>z (by have:=Sum.inl.inj y;omega)),if_neg z];exact U5.bk r
noncomputable def gU (CJ:Addr):Sp:=λvs H Q E=>∃ (e:Ex) (rt:V),vs=[rt]/\Bo H e rt/\e.cl []/\e.sz<=300000/\cost 0 e<=700000/\(∀ v H',TSub H H'->Wd H' v->Q v H')/\∀ H',TSub H H'->E (.ref CJ) none H'
theorem gV {s:Ns}{A:Nat->Prop}(o:Ok s A)(a:Lc s)(h:s.n < 900000):Wf s:=⟨o.rp,o.ch,o.ar,a.tg,h⟩
theorem Qz:Ak ["tree","finder","nodes","top","tops"] ["tree"] (Af GR):=nofun
theorem gW {f fI:Addr}{fd gK:FuncData}(F:B' K "widest" "widest" GR f fd)(TF:CL K mg CF)(T:BR K mg C)(Z:NM Pr w K mg base C CJ)(Y:FM Pr w K mg base C CF CJ)(MF:Mk K CF fI)(GF:Av Pr w K mg base Bs 3 fI gK ["self"] (gI C CF))(bF:Binds K gK ["self"] [])(Dz:mg "list"=none)(D5:mg "range"=none)
  (ql:Mc Pr w K mg base (De Pr w) CF 7 "ask_all" ["self"] (Qr C CF CJ)) (qm:Mc Pr w K mg base Bs C 2 "number_gaps" ["self","tops"] (Qu C)) (qo:Mc Pr w K mg base (De Pr w) C 3 "kinds_under" ["self","tops"] (Qw C CJ)) (cL:Mc Pr w K mg base Bs C 1 "leader" ["self","node"] (Bh C)) :
  Av Pr w K mg base (De Pr w) 8 f fd ["tree"] (gU CJ):=by
 refine F.okX Qz (λvs H Q E h=>?_) (λB7 A0 outer s0 H vs Q E hr h=>?_)
 ·obtain ⟨e,rt,rfl,_⟩:=h;rfl
 ·obtain ⟨e,rt,rfl,he,cl,hz,hc,q1,q2⟩:=h;have BK:Am 1 _:=hr.mono ⟨⟩;have DI:Am 2 _:=hr.mono ⟨⟩;have J8:Am 3 _:=hr.mono ⟨⟩;have Hz:Am 4 _:=hr.mono ⟨⟩;have hr7:Am 7 _:=hr;have hu:=Cc hr;refine ⟨_,(Ag (Au (i:=1) Qz.nd rfl (.inl rfl) (Mf MF GF Hz rfl TF.mC bF))
   (Ag (Au (i:=2) Qz.nd rfl (.inl rfl) (Ao (Ah 1)))
   (Ag (Au (i:=3) Qz.nd rfl (.inl rfl) (Dl (Ah 2) T.cl Z.ng DI))
   (Ag (Ap (BF (Ah 1) TF.cl Y.ask BK (Aa (Ah 0) (Aa Ee (Aa (Ah 3) Ae)))))
   (Ag (Ap (XA (Ah 1) TF.cl ql NO hr7))
   (Ag (Au (i:=4) Qz.nd rfl (.inl rfl) (AX DM (AU (Aa (Ah 3) Ae)) (Nv rfl rfl Dz rfl D5 (Aa (C6 BB rfl T.len PySem.boot_len (Aa (Ao (Ah 2)) Ae)) Ae))))
   (Ag (Ap (BF (Ah 2) T.cl qm DI (Aa (Ah 4) Ae)))
   (Aj (B9 (KD hu (Es (Ah 2) T.cl qo NO J8 (Aa (Ah 4) Ae)) (BF (Ah 2) T.cl cL BK (Aa (Ah 3) Ae)) D1)))))))))),?_⟩
  intro y dy hy Vx EY;refine ⟨y,dy,rfl,Ad,λF ls A H1 eF eg M1 k1=>⟨rfl,?_⟩⟩;have k01:KS H H1:=KS.trans (KS.of_same λb o e=>by rw [Ac (Ab e hy),Ac (Ab e Vx)];exact e) k1;subst eF;apply ⟨F.p,CF,F.dx,_,_,rfl,M1.ins,TF.cl,TF.nN,rfl,?_⟩;apply ⟨F.N.p,F.N.dx,_,rfl,M1.nod.ins,rfl,?_⟩;apply Li M1 ⟨⟩ λHy H2 M2 k2=>?_;have gB:=k01.trans k2;apply ⟨F.p,F.dx,_,rfl,M2.ins,rfl,?_⟩;apply λd hd=>?_;have sd:Ai H2 (upd H2 d (.dK [])):=Ai.new hd;have M3:=M2.same sd;have Oo:=gB.trans (KS.of_same sd);have gd:FY (upd H2 d (.dK [])) d (λ_=>none) 0:=⟨[],Ad,Nat.le_refl _,λy p z=>by cases z⟩;generalize upd H2 d (.dK [])=H3 at M3 Oo gd ⊢;apply ⟨F,_,Hy,_,[],e,λ_=>none,2,0,rt,d,rfl,M3,Bo.mono Oo.tup he,gd,(),by simp,λH4 M4 k4=>?_⟩;have yk:=Oo.trans k4;apply ⟨F.p,F.dx,_,rfl,M4.ins,rfl,?_⟩;left;have a2:plus A q0.n 2:=.inr rfl;refine ⟨F,_,Hy,_,_,3+cost 0 e,rfl,M4,.ask (C:=0) (xs:=[]) a2 (M4.ok.lev a2) (λx p z=>by cases z) cl (λy hy=>by cases hy) (.nil (Nat.le_refl _)),(),by simp [fm,IT];omega,λs5 qp A5 H5 M5 n5 g5 k5=>?_,λH' k'=>q2 H' (yk.trans k').tup⟩;have g5:3<=s5.n:=g5;have k05:=yk.trans k5;have N5:=M5.nod;have W5:Wf s5:=gV M5.ok M5.art ();obtain ⟨par,rk,U5,L5⟩:=id N5.uf;apply DH (BZ (Nat.le_of_ble_eq_true rfl)) λl1 H6 Dr s6 e6=>?_;have N6:=N5.same s6;apply ⟨_,rfl,F.N.p,C,F.N.dx,_,_,rfl,N6.ins,T.cl,T.nL,rfl,F.N.l,_,rfl,.inl (AO.of (s6 _ _ L5)),s5.n,by rw [Ce],(),λl2 E9=>?_⟩;have s7:=Ai.new (o:=.lst ((List.range s5.n).map λi:Nat=>V.int i)) E9;refine Cy (xs:=lsN [2]) (zs:=lsN (List.range s5.n)) (s7 _ _ e6) Ad (by simp only [lsN,List.length_map,List.length_range,List.length_cons,List.length_nil];exact BZ ()) λl3 H8 Tc s8 e8=>?_;rw [<- C7] at e8;have ym:=(s6.trans s7).trans s8;have N8:=N5.same ym;have fj:H5 l3=none:=(s6.trans s7).free Tc;obtain ⟨_,L0⟩:=N5.lead;have yo:l3≠F.N.l:=Ne.symm (Ab L0 fj);have n3g:l3≠F.N.g:=Ne.symm (Ab N5.aaj fj);have k08:=k05.trans (KS.of_same ym);have tn:∀ t∈[2]++List.range s5.n,t < s5.n:=λt ht=>by
   rcases List.mem_append.mp ht with z | z
   ·rw [List.mem_singleton.mp z];omega
   ·exact List.mem_range.mp z
  apply ⟨F.N.p,F.N.dx,_,rfl,N8.ins,rfl,?_⟩;apply ⟨F.N,s5,qp,[2]++List.range s5.n,l3,rfl,eg,N8,W5,e8,tn,by simp;omega,λgs H9 N9 gn gl f9=>?_⟩;have t89:TSub H8 H9:=λb xs e=>f9 b _ e (λz=>by
   obtain ⟨_,L8⟩:=N8.lead;rw [z,L8] at e;cases e) (λz=>by rw [z,N8.aaj] at e;cases e)
  have yq:TSub H H9:=k08.tup.trans t89;have h9:H9 l3=some (.lst (lsN ([2]++List.range s5.n))):=f9 _ _ e8 yo n3g;apply ⟨F.N.p,F.N.dx,_,rfl,N9.ins,rfl,?_⟩;left;have yr:∀ {H' Hf:Hp} {N:NA} {s:Ns} {ls:List Addr},Ba C N H' s ls->(∀ b o,H' b=some o->b≠N.l->Hf b=some o)->TSub H' Hf:=λ{H' Hf N s ls} N' f b xs e=>f b _ e λz=>by
   obtain ⟨_,L'⟩:=N'.lead;rw [z,L'] at e;cases e
  refine ⟨{ F.N with gk:=EE 0 gs },s5,qp,[2]++List.range s5.n,gs,l3,rfl,rfl,N9,W5,gn,gl,h9,yo,tn,by simp;omega,λdd kvs md Ha Na hda hmd WN fa Tp=>?_,λH' f=>q2 H' (yq.trans (yr N9 f))⟩;have t9a:=yr N9 fa;apply ⟨F.N.p,F.N.dx,_,rfl,Na.ins,rfl,?_⟩;apply ⟨{ F.N with gk:=EE 0 gs },s5,qp,2,rfl,Na,(),λHb Nb fb=>?_⟩;have tab:TSub Ha Hb:=λb xs e=>by
   obtain ⟨_,La⟩:=Na.lead;rw [fb b (AL e La (by intro z;cases z))];exact e
  have Cr:Hb dd=some (.dK kvs):=by rw [fb dd Tp];exact hda
  rcases hmd (s5.rp 2) with ⟨z,_⟩ | ⟨_,v,hv,wv⟩
  ·rw [WN 2 (by simp)] at z;cases z
  ·refine ⟨dd,v,rfl,.inl ⟨kvs,Sum.inl ((s5.rp 2:Nat):Int),.inl Cr,rfl,hv.symm⟩,?_⟩;exact q1 v Hb ((yq.trans t9a).trans tab) (wv.mono tab)
end
end K
namespace K
open PySem L2 KM KS KX
section
variable {Pr:Program}{w:World}{K:W.Frag}{mg:Str->Option Value}{base:Heap}
noncomputable def Mv (K:W.Frag):Sp:=λvs H Q _=>∃ (p c:Addr) (us:List V) (ns:List Nat) (xs:List Str),vs=[.ref p,.ref c]/\H p=some (.tup us)/\JJ K c (ns.map λn:Nat=>V.int n)/\Paired (λn x=>us[n]?=some (V.str x)) ns xs/\ns.length<=10 /\
 ∀ q H',Ai H H'->H' q=some (.tup (xs.map V.str))->Q (.ref q) H'
noncomputable def qr:Expr:=match valueOf (inDef Dh 0) with
 | .Call _ [e] _ _=>e
 | _=>.Constant .none 0 ⟨0,0,0,0⟩
theorem gX:Ak ["tree","places"] ["tree","places"] (Af Dh):=nofun
theorem Yd {f:Addr}{fd:FuncData}(F:B' K "names_at" "names_at" Dh f fd)(D6:mg "tuple"=none):Av Pr w K mg base Bs 1 f fd ["tree","places"] (Mv K):=by
 refine F.okS gX (λvs H Q E h=>?_) (λB7 A outer s H vs Q E hr h=>?_)
 ·obtain ⟨p,c,us,ns,xs,rfl,_⟩:=h;rfl
 ·obtain ⟨p,c,us,ns,xs,rfl,hp,hc,hx,hn,q⟩:=h;have S:Bj (CB Bs Pr w K mg base ["tree","places"] "names_at" (Af Dh) f B7 A outer s H E).nox (Cv qr) [("tree",s.heap.objs.size+1)] ["place"] ["tree"] [0] :=
   ⟨rfl,by decide +kernel,rfl,by decide +kernel,rfl,rfl,rfl,rfl⟩
  have Mj:(["place","tree"]:List Str).Nodup:=by decide +kernel
  refine ⟨_,(Aj (B9 (Dd EH rfl D6 PyProof.Rows.boot_tuple (Aa (EX (te:=Kj (Iu K) (Bt 1) (Bt 0)) S rfl (Pt (Ah 1)) (λC s0 H0 ex=>Br (i:=0) Mj rfl (.inl rfl)) (λ_ _ _ _=>Fi) (λC s0 H0 ex=>BG FC (Ah 1) (Ah 0) D1)) Ae)))),?_⟩;apply ⟨c,rfl,⟨_,hc.sq H⟩,?_⟩;refine PZ (K:=K) (a:=c) (xs:=ns.map λn:Nat=>V.int n) (λi ys H'=>H'=H/\ys=(xs.take i).map V.str) ⟨rfl,rfl⟩ (λi ys H' z=>hc.sq H') (by rw [List.length_map];exact EN ()) (λi ys H' z=>?_) rfl (λi x ys H1 Ic z=>?_) (λys H1 z=>?_)
  ·rw [z.2,List.length_map,List.length_take];omega
  ·obtain ⟨rfl,rfl⟩:=z;obtain ⟨n,Rw,rfl⟩:∃ n,ns[i]?=some n/\V.int (n:Nat)=x:=by
    rw [List.getElem?_map] at Ic;exact Option.map_eq_some_iff.mp Ic
   obtain ⟨x,lO,hxx⟩:=Paired.at1 hx Rw;have hi:=(List.getElem?_eq_some_iff.mp Rw).1;apply Cm ?_;apply An hp (Ar hxx) ?_;refine Nx.mk (by rw [List.length_map];exact hi) ⟨rfl,?_⟩;rw [List.take_succ,lO];simp
  ·obtain ⟨rfl,rfl⟩:=z;intros d H2 s2 e2;refine ⟨d,_,rfl,.inl ⟨AO.of e2,λl hl=>?_⟩⟩;have e5:xs.take (ns.map λn:Nat=>V.int n).length=xs:=(by rw [List.length_map,Paired.len hx,List.take_length]);rw [e5];exact q l _ (s2.trans (Ai.new hl)) Ad
noncomputable def Lm (H:Hp)(r:V)(pt:Ex × List Str):Prop:=∃ p q re,r=.ref p/\H p=some (.tup [re,.ref q])/\Bo H pt.1 re/\H q=some (.tup (pt.2.map V.str))
theorem Lm.mono {H H':Hp}(s:TSub H H'){r:V}{pt:Ex × List Str}(h:Lm H r pt):Lm H' r pt:=by
 obtain ⟨p,q,re,h1,h2,h3,h4⟩:=h;exact ⟨p,q,re,h1,s _ _ h2,Bo.mono s h3,s _ _ h4⟩
noncomputable def QA:Sp:=λvs H Q _=>∃ (e:Ex) (re:V),vs=[re]/\Bo H e re/\∀ l rs H',Ai H H'->H l=none->H' l=some (.lst rs)->Paired (Lm H') rs e.prt->Q (.ref l) H'
theorem gY:Ak ["tree"] ["tree"] (Af Bg):=nofun
theorem O0 (e:Ex):e.plc.length<=3/\∀ r∈e.plc,r.2.length<=2:=by
 cases e <;> simp [Ex.plc]
theorem Ye {f c6:Addr}{fd:FuncData}{rows:List (Str × Value)}(F:B' K "parts_with_names" "parts_with_names" Bg f fd)(kd:Fq w K c6 rows)(qt:mg "PLACES"=some (.ref c6))(kp:xw K rows)
  (cN:Cl Pr w K mg base 1 "names_at" ["tree","places"] (Mv K)):Av Pr w K mg base Bs 2 f fd ["tree"] QA:=by
 refine F.okS gY (λvs H Q E h=>?_) (λB7 A outer s H vs Q E hr h=>?_)
 ·obtain ⟨e,re,rfl,_⟩:=h;rfl
 ·obtain ⟨e,re,rfl,he,q⟩:=h;have S:Bj (CB Bs Pr w K mg base ["tree"] "parts_with_names" (Af Bg) f B7 A outer s H E).nox (Cv (valueOf (inDef Bg 0))) [("tree",s.heap.objs.size+1)] ["place","names"] ["tree"] [0] :=
   ⟨rfl,by decide +kernel,rfl,by decide +kernel,rfl,rfl,rfl,rfl⟩
  have Mj:(["place","names","tree"]:List Str).Nodup:=by decide +kernel
  refine ⟨_,(Aj (B9 (EX (g:=RG K 2 (HE (CA 0) (HE (CA 1) RE))) (te:=MV (Cb (Kj (Iu K) (Bt 2) (Bt 0)) (Cb (EG (Mv K) [] E0 (Cb (Bt 2) (Cb (Bt 1) Dp))) Dp))) S rfl (Pt (Xj kd rfl qt (eI 0) D1)) (λC s0 H0 ex=>Jv rfl (Cw (Br (i:=0) Mj rfl (.inl rfl)) (Cw (Br (i:=1) Mj rfl (.inl rfl)) GH))) (λ_ _ _ _=>Fi) (λC s0 H0 ex=>Bi (Aa (BG FC (Ah 2) (Ah 0) D1) (Aa (CW cN hr rfl (Aa (Ah 2) (Aa (Ah 1) Ae))) Ae)))))),?_⟩;obtain ⟨p,us,rfl,hp,Y5,_⟩:=he.look;obtain ⟨a,rs,Xk,lP,yt⟩:=kp e;obtain ⟨G',Vv⟩:=O0 e;have lr:=Paired.len yt;have lp:=Paired.len Y5;apply An hp (v:=.str e.wd) (Ar (j:=0) rfl) ?_;refine ⟨e.wd,.ref a,.ref a,rfl,Xk,rfl,a,rfl,⟨_,lP.sq H⟩,?_⟩;refine Q0 (K:=K) (n:=rs.length) (λi ys H'=>Ai H H'/\Paired (Lm H') ys (e.prt.take i)) ⟨Ai.refl _,.nil⟩ (by exact EN ()) (λi ys H' z=>?_) rfl rfl (λi ys H' hi z=>⟨rs,rs[i],lP.sq H',by simp [hi]⟩) (λys H' z=>⟨rs,lP.sq H',Nat.le_refl _⟩) (λi ys H1 x H1' hi z hy=>?_) (λys H1 z=>?_)
  ·rw [Paired.len z.2,List.length_take];omega
  ·obtain ⟨rfl,hy⟩:=hy;obtain ⟨s1,z⟩:=z;have lO:=hy rs (lP.sq _);have yu:i < e.plc.length:=(by omega);have Vz:e.plc[i]?=some e.plc[i]:=(by simp [yu]);obtain ⟨x',Ic,b,c,rfl,kb,kc⟩:=Paired.at1 yt Vz;rw [Ic] at lO;cases lO;obtain ⟨pt,hpi,⟨re',hre,ae⟩,Rj⟩:=Paired.at1 Y5 Vz;refine ⟨b,_,_,rfl,kb.sq _,?_⟩;apply Cm ?_;apply An (s1 _ _ hp) (Ar hre) ?_;apply ⟨p,c,_,_,pt.2,rfl,s1 _ _ hp,kc,Rj,Nat.le_trans (Vv _ (List.getElem_mem yu)) ⟨⟩,λq' H2 s2 e2=>?_⟩;left;intros t H3 s3 e3;refine Nx.mk hi ⟨s1.trans (s2.trans s3),?_⟩;rw [List.take_succ,hpi];refine Paired.app (Paired.aaz z λ_ _ y=>Lm.mono (TSub.of_same (s2.trans s3)) y) (.cons ⟨t,q',re',rfl,e3,Bo.mono (TSub.of_same (s1.trans (s2.trans s3))) ae,s3 _ _ e2⟩ .nil)
  ·obtain ⟨s1,z⟩:=z;refine DH (Nat.zero_le _) λl H2 hl s2 e2=>?_;rw [show rs.length=e.prt.length by omega,List.take_length] at z;exact q l _ H2 (s1.trans s2) (s1.free hl) e2 (Paired.aaz z λ_ _ y=>Lm.mono (TSub.of_same s2) y)
end
end K
namespace L2
open PySem PySem.Spec PyProof.Rows KS KX
section
variable {σ:St}{H:Hp}{D:Ends}
theorem Yf {wi:TI}{g:TG}{tb:TS}(q:wi σ H λJ H1=>eT J g tb D σ H1):RI wi g tb D σ H:=q
theorem Tq {tv td ty:TE}(q:tv σ H λv H1=>td σ H1 λx H2=>ty σ H2 λy H3=>∃ a H4,x=.ref a/\Iy H3 a y v H4/\D.nx σ H4):Pa td ty tv D σ H:=q
theorem O1 {td ty:TE}{Q:VK}(q:ty σ H λy H1=>td σ H1 λx H2=>∃ a o,x=.ref a/\DE H2 a y o/\Q (.bl (!o.isSome)) H2):Ga ty td σ H Q:=q
end
noncomputable def NL (H H':Hp):Prop:=∀ b o,H b=some o->(∀ xs,o≠.lst xs)->H' b=some o
theorem NL.of_same {H H':Hp}(s:Ai H H'):NL H H':=λb o e _=>s b o e
theorem NL.trans {H1 H2 H3:Hp}(a:NL H1 H2)(b:NL H2 H3):NL H1 H3:=λc o e n=>b c o (a c o e n) n
theorem NL.put {H:Hp}{a:Addr}{xs ys:List V}(h:H a=some (.lst xs)):NL H (upd H a (.lst ys)):=λb o e n=>by
 rw [Ac]
 ·exact e
 ·intro z;subst z;rw [h] at e;exact n xs (Option.some.inj e).symm
theorem NL.abz {H H':Hp}(s:NL H H'):_root_.KS.TSub H H':=λb xs e=>s b _ e (by intro _ z;cases z)
noncomputable def O2 (H:Hp)(d:Addr)(xs:List Str):Prop:=∃ kvs:List (Key × V),H d=some (.dK kvs)/\kvs.length<=xs.length/\∀ y,(Bu kvs (.inr y:Key)).isSome=true↔y∈xs
end L2
namespace KX
open PySem Ex
noncomputable def Ex.fh (xs:List Str):Ex->List Str
 | .nm x=>if x∈xs then [] else [x]
 | _=>[]
theorem QC (e:Ex)(xs:List Str):e.fv xs=e.fh xs++e.prt.flatMap λp=>p.1.fv (p.2.reverse++xs):=by
 cases e <;> simp [fv,fh,prt]
noncomputable def Ln (L:List (Ex × List Str)):Nat:=(L.map λp=>p.1.sz).sum
theorem Hh (p:Ex × List Str)(L:List (Ex × List Str)):Ln (p::L)=p.1.sz+Ln L:=by simp [Ln]
theorem Mw (L M:List (Ex × List Str)):Ln (L++M)=Ln L+Ln M:=by simp [Ln]
theorem QD (e:Ex):(e.prt.map λp=>p.1.sz).sum+1=e.sz:=by cases e <;> simp [prt,sz] <;> omega
theorem Yg (e:Ex):∀ p∈e.prt,p.1.sz+1<=e.sz/\p.2.length<=2:=by cases e <;> simp [prt,sz] <;> omega
theorem Tr (e:Ex):e.prt.length<=3:=by cases e <;> simp [prt]
end KX
namespace K
open PySem L2 KM KS KX
section
variable {Pr:Program}{w:World}{K:W.Frag}{mg:Str->Option Value}{base:Heap}
noncomputable def Yh:Sp:=λvs H Q _=>∃ (d q:Addr) (xs ns:List Str),vs=[.ref d,.ref q]/\O2 H d xs/\H q=some (.tup (ns.map V.str))/\ns.length<=2/\xs.length<=900000/\∀ d' H',Ai H H'->O2 H' d' (ns.reverse++xs)->Q (.ref d') H'
theorem Yi:Ak ["given","names","wider","name"] ["given","names"] (Af DR):=nofun
theorem gZ {f:Addr}{fd:FuncData}(F:B' K "with_names" "with_names" DR f fd)(Lj:mg "dict"=none):Av Pr w K mg base Bs 1 f fd ["given","names"] Yh:=by
 refine F.okS Yi (λvs H Q E h=>?_) (λB7 A outer s H vs Q E hr h=>?_)
 ·obtain ⟨d,q,xs,ns,rfl,_⟩:=h;rfl
 ·obtain ⟨d,q,xs,ns,rfl,⟨kvs,hd,hl,hk⟩,hq,hn,hx,k⟩:=h;have hu:=Cc hr;refine ⟨_,(Ag (Au (i:=2) Yi.nd rfl (.inl rfl) (Dd Fj (by rfl) Lj PyProof.Rows.boot_dict (Aa (Ah 0) Ae)))
   (Ag (HX PassesOwn.never rfl (Pt (Ah 1)) (Br (i:=3) Yi.nd rfl (.inl rfl)) (Aj (DO hu (Ah 2) (Ah 3) KA rfl)))
   (Aj (B9 (Ah 2))))),?_⟩
  apply ⟨d,_,rfl,.inl hd,λp1 Om=>?_⟩;have s1:Ai H (upd H p1 (.dK kvs)):=Ai.new Om;have e1:(upd H p1 (.dK kvs)) p1=some (.dK kvs):=Ad;generalize upd H p1 (.dK kvs)=H1 at s1 e1 ⊢;apply ⟨q,rfl,⟨_,CZ.of (s1 _ _ hq)⟩,?_⟩;refine RJ (K:=K) (a:=q) (xs:=ns.map V.str) (λi σ H'=>∃ nm,σ=[some (.ref d),some (.ref q),some (.ref p1),nm]/\Ai H H'/\O2 H' p1 ((ns.take i).reverse++xs)) ⟨none,rfl,s1,kvs,e1,hl,hk⟩ (λi σ H' _ z=>?_) (λi x σ H' Ic z=>?_) fun σ H' z=>?_
  ·obtain ⟨nm,_,s,_⟩:=z;exact CZ.of (s _ _ hq)
  ·obtain ⟨nm,rfl,s,kv,g1,g2,g3⟩:=z;rw [List.getElem?_map] at Ic;obtain ⟨y,hy,rfl⟩:=Option.map_eq_some_iff.mp Ic;have hi:=(List.getElem?_eq_some_iff.mp hy).1;rw [List.length_append,List.length_reverse,List.length_take] at g2;refine JI ?_;refine Tq ?_;apply ⟨p1,_,rfl,.inl ⟨kv,.inr y,g1,rfl,EN (),rfl⟩,?_⟩;refine ⟨some (.str y),rfl,Ai.put s Om,_,Ad,?_,λz=>?_⟩
   ·have:=Ej kv (.inr y) (.bl true);rw [List.length_append,List.length_reverse,List.length_take];omega
   ·rw [Fd,List.take_succ,hy];simp only [List.mem_append,List.mem_reverse,Option.toList_some,List.mem_singleton,Sum.inr.injEq];by_cases e:z=y
    ·simp [e]
    ·rw [if_neg e,g3 z];simp [e]
  ·obtain ⟨nm,rfl,s,g⟩:=z;rw [List.length_map,List.take_length] at g;left;exact k p1 H' s g
noncomputable def Rp (H:Hp)(t:Ex × List Str)(r:V):Prop:=∃ p re d,r=.ref p/\H p=some (.tup [re,.ref d])/\Bo H t.1 re/\O2 H d t.2/\t.2.length+2 * t.1.sz<=900000
theorem Rp.mono {H H':Hp}(s:NL H H'){t:Ex × List Str}{r:V}(h:Rp H t r):Rp H' t r:=by
 obtain ⟨p,re,d,h1,h2,h3,⟨kv,h4,h5⟩,h6⟩:=h;exact ⟨p,re,d,h1,s _ _ h2 (by intro _ z;cases z),Bo.mono s.abz h3,⟨kv,s _ _ h4 (by intro _ z;cases z),h5⟩,h6⟩
noncomputable def Yj:Sp:=λvs H Q _=>∃ (e:Ex) (rt:V),vs=[rt]/\Bo H e rt/\e.sz<=400000/\∀ l H',Ai H H'->H' l=some (.lst ((e.fv []).map V.str))->Q (.ref l) H'
theorem JU:Ak ["tree","missing","waiting","entry","part","given","inner","names"] ["tree"] (Af CY):=nofun
theorem hU {f:Addr}{fd:FuncData}(F:B' K "missing_names" "missing_names" CY f fd)(DX:mg "reversed"=none)(cW:Cl Pr w K mg base 1 "with_names" ["given","names"] Yh)(cP:Cl Pr w K mg base 2 "parts_with_names" ["tree"] QA):Av Pr w K mg base Bs 3 f fd ["tree"] Yj:=by
 refine F.okS JU (λvs H Q E h=>?_) (λB7 A outer s H vs Q E hr h=>?_)
 ·obtain ⟨e,rt,rfl,_⟩:=h;rfl
 ·obtain ⟨e,rt,rfl,he,hsz,k⟩:=h;have hu:=Cc hr;have BK:Am 1 _:=hr.mono ⟨⟩;have DI:Am 2 _:=hr;refine ⟨_,(Ag (Au (i:=1) JU.nd rfl (.inl rfl) (AU Ae))
   (Ag (Au (i:=2) JU.nd rfl (.inl rfl) (AU (Aa (Bi (Aa (Ah 0) (Aa Ee Ae))) Ae)))
   (Ag (D2 PassesOwn.never (C5 (Ah 2)) (Ag (Au (i:=3) JU.nd rfl (.inl rfl) (Ed PySem.F.plainAttrs_list PySem.F.slot_list_pop PySem.F.type_list_pop Ea (Ah 2)))
   (Ag (Au (i:=4) JU.nd rfl (.inl rfl) (eI 3))
   (Ag (Au (i:=5) JU.nd rfl (.inl rfl) (eI 3))
   (Ag (BY (WO (w_and (B1 BX (eI 4) Aw (AF _)) (GD (Ei hu (eI 4) (Ah 5))))) (Aj (Ap (EV PySem.F.plainAttrs_list PySem.F.slot_list_append PySem.F.type_list_append BS (Ah 1) (Aa (eI 4) Ae)))) BN)
   (Aj (HX PassesOwn.never rfl (dO rfl DX (Aa (CW cP DI rfl (Aa (Ah 4) Ae)) Ae)) (Jv rfl (Cw (Br (i:=6) JU.nd rfl (.inl rfl)) (Cw (Br (i:=7) JU.nd rfl (.inl rfl)) GH))) (Aj (Ap (EV PySem.F.plainAttrs_list PySem.F.slot_list_append PySem.F.type_list_append BS (Ah 2) (Aa (Bi (Aa (Ah 6) (Aa (KC (C5 (Ah 7)) (CW cW BK rfl (Aa (Ah 5) (Aa (Ah 7) Ae))) (Ah 5)) Ae))) Ae)))))))))))
   (Aj (B9 (Ah 1)))))),?_⟩
  apply DH (BZ ⟨⟩) λlm H1 lM s1 e1=>?_;left;intro d hd;have s2:Ai H1 (upd H1 d (.dK [])):=Ai.new hd;have e2:(upd H1 d (.dK [])) d=some (.dK []):=Ad;generalize upd H1 d (.dK [])=H2 at s2 e2 ⊢;left;intros p3 H3 s3 e3;apply DH (BZ (Nat.le_of_ble_eq_true rfl)) λlw H4 Cz s4 e4=>?_;left;have Yk:=s2.trans (s3.trans s4);have yv:=s1.trans Yk;have Bz:H lw=none:=by
   cases z:H lw with
   | none=>rfl
   | some o=>rw [((s1.trans s2).trans s3) _ _ z] at Cz;cases Cz
  have qu:lm≠lw:=λz=>by rw [<- z,(s2.trans s3) _ _ e1] at Cz;cases Cz
  refine ⟨λm σ' H'=>∃ ms ws en pa gi Ke O3 L,σ'=[some rt,some (.ref lm),some (.ref lw),en,pa,gi,Ke,O3]/\m=Ln L/\m<=e.sz/\Ai H H'/\H' lm=some (.lst (ms.map V.str))/\H' lw=some (.lst ws)/\Paired (Rp H') L ws.reverse/\ms++(L.flatMap λp=>p.1.fv p.2)=e.fv [],
   ⟨e.sz,[],[.ref p3],none,none,none,none,none,[(e,[])],rfl,by simp [Ln],Nat.le_refl _,yv,Yk _ _ e1,e4,.cons ⟨p3,rt,d,rfl,s4 _ _ e3,Bo.mono (TSub.of_same yv) he,⟨[],(s3.trans s4) _ _ e2,Nat.le_refl _,λy=>by simp [Bu]⟩,by simp only [List.length_nil];omega⟩ .nil,by simp⟩,?_⟩
  rintro m σ' H' ⟨ms,ws,en,pa,gi,Ke,O3,L,rfl,rfl,hm,sm,Yl,Tt,kw,lQ⟩;apply ⟨!ws.isEmpty,.inl ⟨ws,AO.of Tt,rfl⟩,?_⟩;have fvl:(e.fv []).length<=e.sz:=fq;cases L with
  | nil =>
   have Qs:ws=[]:=by
    have:=Paired.length kw;simpa using this.symm
   subst Qs;refine Ck ?_;left;rw [List.flatMap_nil,List.append_nil] at lQ;rw [lQ] at Yl;exact k lm H' sm Yl
  | cons t L =>
   obtain ⟨x,xs,hx,kx,yw⟩:∃ x xs,ws.reverse=x::xs/\Rp H' t x/\Paired (Rp H') L xs:=by
    generalize ws.reverse=rs at kw;cases kw with
    | cons k1 k2=>exact ⟨_,_,rfl,k1,k2⟩
   have Qs:ws=xs.reverse++[x]:=by
    have:=congrArg List.reverse hx;simpa using this
   have ne:(!ws.isEmpty)=true:=(by rw [Qs];simp);rw [ne];rw [Hh] at hm;have szl:L.length<=Ln L:=by
    have:∀ L:List (Ex × List Str),L.length<=Ln L:=λL=>by
     induction L with
     | nil=>exact Nat.le_refl _
     | cons a r ih=>rw [Hh,List.length_cons];have:=QD a.1;omega
    exact this L
   have lxs:=Paired.len yw;refine Cm ⟨fun σ' H'=>∃ m',m' < Ln (t::L)/\∃ ms ws en pa gi Ke O3 L,σ'=[some rt,some (.ref lm),some (.ref lw),en,pa,gi,Ke,O3]/\m'=Ln L/\m'<=e.sz/\Ai H H'/\H' lm=some (.lst (ms.map V.str))/\H' lw=some (.lst ws)/\Paired (Rp H') L ws.reverse/\ms++(L.flatMap λp=>p.1.fv p.2)=e.fv [],fun σ' H' q=>q,?_⟩;apply ⟨.inl ⟨rfl,_,AO.of Tt⟩,lw,ws,x,rfl,rfl,Tt,by rw [Qs];simp,?_⟩;have dl:ws.dropLast=xs.reverse:=(by rw [Qs];simp);rw [dl];have qv:NL H' (upd H' lw (.lst xs.reverse)):=NL.put Tt;have Kd:Ai H (upd H' lw (.lst xs.reverse)):=Ai.put sm Bz;have c7:(upd H' lw (.lst xs.reverse)) lm=some (.lst (ms.map V.str)):=(by rw [Ac qu];exact Yl);have lR:(upd H' lw (.lst xs.reverse)) lw=some (.lst xs.reverse):=Ad;generalize upd H' lw (.lst xs.reverse)=H5 at qv Kd c7 lR ⊢;obtain ⟨p,re,d',rfl,hp,het,yx,cc⟩:=kx.mono qv;have qw:=Paired.aaz yw λ_ _ z=>z.mono qv;apply An hp (v:=re) rfl ?_;apply An hp (v:=.ref d') rfl ?_;refine Mg (fun σ6 H6=>σ6=[some rt,some (.ref lm),some (.ref lw),some (.ref p),some re,some (.ref d'),Ke,O3]/\Ai H H6/\NL H5 H6/\H6 lm=some (.lst ((ms++t.1.fh t.2).map V.str))/\H6 lw=some (.lst xs.reverse)) (fun σ6 H6 hj=>?_) λNn hN=>?_
   ·obtain ⟨rfl,sm6,qy,yy,yz⟩:=hj;refine Yf ?_;apply ⟨t.1,re,rfl,Bo.mono qy.abz het,λl rs H7 s7 bR e7 yB=>?_⟩;have lpr:=Paired.len yB;have lp3:=Tr t.1;refine ⟨l,rs,rfl,AO.of e7,?_⟩;have nlw:l≠lw:=λz=>(by rw [z,yz] at bR;cases bR);have nlm:l≠lm:=λz=>(by rw [z,yy] at bR;cases bR);refine Sd (K:=K) (a:=l) (xs:=rs) (λi σ' H'=>∃ Ke O3 Co,σ'=[some rt,some (.ref lm),some (.ref lw),some (.ref p),some re,some (.ref d'),Ke,O3]/\Ai H H'/\NL H7 H'/\H' l=some (.lst rs)/\H' lm=some (.lst ((ms++t.1.fh t.2).map V.str))/\H' lw=some (.lst Co)/\Paired (Rp H') (((t.1.prt.drop (rs.length - i)).map λp=>(p.1,p.2.reverse++t.2))++L) Co.reverse)
     ⟨Ke,O3,xs.reverse,rfl,sm6.trans s7,NL.of_same (Ai.refl _),e7,s7 _ _ yy,s7 _ _ yz,?_⟩ (λi σ' H' _ z=>?_) (λi x σ' H' Ic z=>?_) fun σ' H' z=>?_
    ·rw [Nat.sub_zero,List.drop_eq_nil_of_le (),List.reverse_reverse];exact Paired.aaz qw λ_ _ z=>z.mono (qy.trans (NL.of_same s7))
    ·obtain ⟨Ke,O3,Co,_,_,_,h,_⟩:=z;exact AO.of h
    ·obtain ⟨Ke,O3,Co,rfl,Vt,cf,F8,qz,lS,hX⟩:=z;have hi:i < rs.length:=by
      have:=(List.getElem?_eq_some_iff.mp Ic).1;simpa using this
     rw [List.getElem?_reverse hi] at Ic;obtain ⟨pt,Y5,pa,qa,ra,rfl,a1,a2,a3⟩:=Paired.at1 yB Ic;have qA:t.1.prt.drop (rs.length - (i+1))=pt::t.1.prt.drop (rs.length - i):=by
      rw [show rs.length - i=rs.length - (i+1)+1 by omega];exact List.drop_eq_getElem?_toList_append .. |>.trans (by rw [show rs.length - (i+1)=rs.length - 1 - i by omega,Y5];rfl)
     obtain ⟨p1,p2⟩:=Yg t.1 pt (List.mem_of_getElem? Y5);have qB:NL H5 H':=(qy.trans (NL.of_same s7)).trans cf;have yC:O2 H' d' t.2:=by
      obtain ⟨kv,h4,h5⟩:=yx;exact ⟨kv,qB _ _ h4 (by intro _ z;cases z),h5⟩
     have lwl:=Paired.len hX;rw [List.length_append,List.length_map,List.length_drop,List.length_reverse] at lwl;refine ⟨pa,_,rfl,CZ.of (cf _ _ a1 (by intro _ z;cases z)),rfl,_,_,rfl,_,_,rfl,rfl,?_⟩;apply ⟨.inl ⟨rfl,_,AO.of lS⟩,?_⟩;left;have yD:=cf _ _ a3 (by intro _ z;cases z);refine ⟨!(pt.2.map V.str).isEmpty,.inr (.inl ⟨_,CZ.of yD,rfl⟩),?_⟩;have fin:∀ d2 H8,Ai H' H8->O2 H8 d2 (pt.2.reverse++t.2)->JE 2 (.tup [ra,.ref d2]) H8 λv H2=>M0 (.ref lw) [v] H2 λ_ H3=>∃ Ke O3 Co,([some rt,some (.ref lm),some (.ref lw),some (.ref p),some re,some (.ref d'),some ra,some (.ref qa)]:St)=[some rt,some (.ref lm),some (.ref lw),some (.ref p),some re,some (.ref d'),Ke,O3]/\Ai H H3/\NL H7 H3/\H3 l=some (.lst rs)/\H3 lm=some (.lst ((ms++t.1.fh t.2).map V.str))/\H3 lw=some (.lst Co)/\Paired (Rp H3) (((t.1.prt.drop (rs.length - (i+1))).map λp=>(p.1,p.2.reverse++t.2))++L) Co.reverse:=by
      intro d2 H8 s8 g8;intros p9 H9 s9 e9;have cj:=s8.trans s9;have yE:=cj _ _ lS;refine ⟨lw,Co,.ref p9,rfl,rfl,yE,EN (),?_⟩;have yF:NL H9 (upd H9 lw (.lst (Co++[.ref p9]))):=NL.put yE;have hZ:NL H' (upd H9 lw (.lst (Co++[.ref p9]))):=(NL.of_same cj).trans yF;refine ⟨_,_,Co++[.ref p9],rfl,Ai.put (Vt.trans cj) Bz,cf.trans hZ,?_,?_,Ad,?_⟩
      ·rw [Ac nlw];exact cj _ _ F8
      ·rw [Ac qu];exact cj _ _ qz
      ·rw [qA,List.map_cons,List.cons_append,List.reverse_append];refine .cons (Rp.mono yF ⟨p9,ra,d2,rfl,e9,Bo.mono (cf.trans (NL.of_same cj)).abz a2,?_,?_⟩) (Paired.aaz hX λ_ _ z=>z.mono hZ)
       ·obtain ⟨kv,h4,h5⟩:=g8;exact ⟨kv,s9 _ _ h4,h5⟩
       ·simp only [List.length_append,List.length_reverse];omega
     rcases ny:pt.2 with _ | ⟨n0,nr⟩
     ·refine CD (by simp) ?_;left;exact fin d' H' (Ai.refl _) (by rw [ny];exact yC)
     ·refine Cs (by simp) ?_;apply ⟨d',qa,t.2,pt.2,rfl,yC,yD,p2,(),λd2 H8 s8 g8=>?_⟩;left;exact fin d2 H8 s8 g8
    ·obtain ⟨Ke,O3,Co,rfl,Vt,cf,F8,qz,lS,hX⟩:=z;rw [Nat.sub_self,List.drop_zero] at hX;have Ada:Ln (t.1.prt.map λp=>(p.1,p.2.reverse++t.2))+1=t.1.sz:=by
      unfold Ln;rw [List.map_map];exact QD t.1
     refine ⟨_,?_,_,Co,_,_,_,_,_,_,rfl,rfl,?_,Vt,qz,lS,hX,?_⟩
     ·rw [Mw,Hh];omega
     ·rw [Mw];omega
     ·rw [<- lQ,List.flatMap_cons,List.flatMap_append,QC t.1 t.2,List.append_assoc,List.append_assoc,List.flatMap_map]
   ·left;have lx:ms.length+(t.1.fh t.2).length<=e.sz:=by
     have:=congrArg List.length lQ;rw [List.flatMap_cons,QC t.1 t.2] at this;simp only [List.length_append] at this;omega
    obtain ⟨pt,ut,rfl,ht,hi⟩:=het.its;refine An ht (v:=.str t.1.wd) (Ar (j:=0) rfl) ?_;left;by_cases c1:t.1.wd="name"
    ·obtain ⟨y,hy⟩:∃ y,t.1=.nm y:=by
      cases qC:t.1 <;> rw [qC] at c1 <;> first | exact ⟨_,rfl⟩ | exact absurd c1 (by simp only [Ex.wd];decide)
     rw [hy] at het;obtain ⟨pt',h1,ck⟩:=het;cases h1;refine Cs (by simp [c1]) ?_;apply O1 ?_;apply An ck (v:=.str y) rfl ?_;obtain ⟨kv,h4,h5,h6⟩:=yx;apply ⟨d',_,rfl,DE.k (k:=.inr y) h4,?_⟩;left;by_cases c2:y∈t.2
     ·refine CD (by rw [(h6 y).mpr c2];decide) ?_;apply hN _ _ ⟨rfl,Kd,NL.of_same (Ai.refl _),?_,lR⟩;rw [hy];simp only [Ex.fh,c2,if_true,List.append_nil];exact c7
     ·refine Cs ?_ ?_
      ·have:(Bu kv (.inr y:Key)).isSome=false:=by
        cases z:(Bu kv (.inr y:Key)).isSome with
        | false=>rfl
        | true=>exact absurd ((h6 y).mp z) c2
       rw [this];rfl
      apply ⟨.inl ⟨rfl,_,AO.of c7⟩,?_⟩;apply An ck (v:=.str y) rfl ?_;rw [hy] at lx;simp only [Ex.fh,c2,if_false,List.length_singleton] at lx;refine ⟨lm,_,.str y,rfl,rfl,c7,by rw [List.length_map];exact EN (),?_⟩;refine hN _ _ ⟨rfl,Ai.put Kd lM,NL.put c7,?_,by rw [Ac (Ne.symm qu)];exact lR⟩;rw [Ad,hy];simp only [Ex.fh,c2,if_false,List.map_append,List.map_cons,List.map_nil]
    ·refine CD (by simp [c1]) ?_;refine Ck ?_;apply hN _ _ ⟨rfl,Kd,NL.of_same (Ai.refl _),?_,lR⟩;have:t.1.fh t.2=[]:=by
      cases qC:t.1 with
      | nm y=>rw [qC] at c1;exact absurd rfl c1
      | _=>rfl
     rw [this,List.append_nil];exact c7
end
end K
namespace PySem
open Sem (wp)
noncomputable def DY (C:Addr)(od:Option Addr)(t:Addr):Obj:={ cls:=.ref C,dict:=od,data:=.fields #[.ref t,.none,.none,.none,.bool false,.none] }
section
variable {prog:Program}{w:World}{A:Around}{E:Value->Shared->Prop}{h:Heap}{g:Array GenState}{d:Drawn}{t:Nat}{os:OsState}
variable {nm q:Str}{C N:Addr}{bs bm Bw:List Value}{hdct:Bool}{sn:List Str}{sub:List Value}{ab:Bool}{col:Option Bool}{dd:Option Addr}{k0 k1 k2 k3 k5:Option Value}{B newId BI:String}
theorem F' (F:ExcBaseFacts B newId BI Bw)(T:OwnTail h Bw bm){mN:Str->Option Value}{rest:List Value}{fI:Addr}{oI:Obj}{Q:Fin->Shared->Prop}
  (hC:h.get? C=some (excClassObj nm q C N bs bm hdct sn sub ab col dd k0 k1 k2 k3 k5 newId)) (hn:h.Ns N mN) (hi:mN "__init__"=some (.ref fI)) (i0:h.get? fI=some oI) (i5:oI.cls=.type "function")
  (hq:∀ h' e,Heap.MadeExcOf h h' e (.ref C) rest->wpAny (model prog w) A (call (.ref fI) (.ref e::rest)) (λr s'=>r=.none/\Q (.done (.ret (.ref e))) s') E ⟨h',g,d,t,os⟩) (hrest:rest.length<=sizeLine) :
  wpAny (model prog w) A (Builtin.«type.__call__» ⟨.ref C::rest,[]⟩) Q E ⟨h,g,d,t,os⟩:=by
 repeat (first | with_reducible refine wpAny_loadPart_at hC ?_ | with_reducible refine wpAny_madeBy_exc hC ?_ | wp_step)
 refine codeAny_call_builtin_code (Code.quiet_builtin _ F.quiet) (wpAny_check_new_subT F T hC ?_);refine codeAny_exc_new_subT F T hC ?_ hrest;show wpAny _ _ _ _ _ _;have hC₁:=Heap.get?_push_of_some { cls:=.ref C,data:=.fields #[.ref h.objs.size,.none,.none,.none,.bool false,.none] } (Heap.get?_push_of_some { cls:=.type "tuple",data:=.seq rest.toArray } hC);have hfI₁:=Heap.get?_push_of_some { cls:=.ref C,data:=.fields #[.ref h.objs.size,.none,.none,.none,.bool false,.none] } (Heap.get?_push_of_some { cls:=.type "tuple",data:=.seq rest.toArray } i0);have hn₁:((h.push { cls:=.type "tuple",data:=.seq rest.toArray }).push { cls:=.ref C,data:=.fields #[.ref h.objs.size,.none,.none,.none,.bool false,.none] }).Ns N mN :=
  let ⟨o,es,ep,e,r⟩:=hn;⟨o,es,ep,Heap.get?_push_of_some _ (Heap.get?_push_of_some _ e),r⟩
 have i6:((h.push { cls:=.type "tuple",data:=.seq rest.toArray }).push { cls:=.ref C,data:=.fields #[.ref h.objs.size,.none,.none,.none,.bool false,.none] }).get? (h.objs.size+1)=some
   { cls:=.ref C,data:=.fields #[.ref h.objs.size,.none,.none,.none,.bool false,.none] }:=by heap_get
 have hcC:(Value.ref C::bm).contains (.ref C)=true:=by simp
 have T₁:=T.keeps (h':=(h.push { cls:=.type "tuple",data:=.seq rest.toArray }).push { cls:=.ref C,data:=.fields #[.ref h.objs.size,.none,.none,.none,.bool false,.none] })
  λb o e=>Heap.get?_push_of_some _ (Heap.get?_push_of_some _ e)
 unfold isInstance
 repeat (first | with_reducible refine wpAny_loadPart_at i6 ?_ | (with_reducible refine wpAny_isSubtype_exc hC₁ ?_;rw [hcC]) | wp_step)
 show wpAny _ _ (typeLookup (.ref C) _) _ _ _;refine wpAny_typeLookup_tail hC₁ hn₁ T₁ F.mroIs F.init.lookup ?_;rw [hi];refine wpAny_holding (wpAny_bind ?_);unfold bindSpecial;refine wpAny_bind (wpAny_typeOf (T:="function") ⟨_,hfI₁,i5⟩ ?_);rw [if_pos ⟨⟩];refine wpAny_pure (wpAny_bind (wpAny_mono (hq _ (h.objs.size+1) ⟨λb o hb=>Heap.get?_push_of_some _ (Heap.get?_push_of_some _ hb),Heap.get?_none_of_le (Nat.le_succ _),h.objs.size,i6,Heap.get?_none_of_le (Nat.le_refl _),?_⟩) (λr s' hr=>?_) λ_ _ x=>x))
 ·exact Heap.get?_push_of_some _ (Heap.get?_push_at rfl rfl)
 ·obtain ⟨rfl,hQ⟩:=hr
  wp_walk
  exact hQ
theorem Lo (F:ExcBaseFacts B newId BI Bw)(T:OwnTail h Bw bm){mN:Str->Option Value}{rest:List Value}{fI:Addr}{oI:Obj}{Q:Value->Shared->Prop}
  (hC:h.get? C=some (excClassObj nm q C N bs bm hdct sn sub ab col dd k0 k1 k2 k3 k5 newId)) (hn:h.Ns N mN) (hi:mN "__init__"=some (.ref fI)) (i0:h.get? fI=some oI) (i5:oI.cls=.type "function")
  (hq:∀ h' e,Heap.MadeExcOf h h' e (.ref C) rest->wpAny (model prog w) (A.under (.builtin "type.__call__" ⟨.ref C::rest,[]⟩)) (call (.ref fI) (.ref e::rest)) (λr s'=>r=.none/\Q (.ref e) s') E ⟨h',g,d,t,os⟩) (hrest:rest.length<=sizeLine) :
  wpAny (model prog w) A (call (.ref C) rest) Q E ⟨h,g,d,t,os⟩:=by
 have f1:=tc_lookup;have f2:=tc_bind (.ref C);have hT:(⟨h,g,d,t,os⟩:Shared).TypeIs (.ref C) "type":=⟨_,hC,rfl⟩;refine wpAny_call (codeAny_of_tree ?_);show wpAny _ _ (callAny (.ref C) _) _ _ _
 repeat (any_goals (first | assumption | with_reducible refine wpAny_loadPart_at hC ?_ | wp_step))
 refine ⟨rfl,?_⟩;refine codeAny_call_builtin_at (Code.quiet_builtin _ (by decide +kernel)) entry_typeCall (wpAny_check_type_call_sub hC (F' (hrest:=hrest) F T hC hn hi i0 i5 λh' e hm=>?_));exact hq h' e hm
end
section
variable {M:Model}{A:Around}{E:Value->Shared->Prop}{env:Env}{nm q:Str}{C N:Addr}{bs bm:List Value}{hdct:Bool}{sn:List Str}{sub:List Value}{ab:Bool}{col:Option Bool}{dd:Option Addr}{k0 k1 k2 k3 k5:Option Value}{newId:String}
theorem HA {s:Shared}{x:Sem Value}{Q:Flow->Shared->Prop}(BM:bm.contains (.type "BaseException")=true)(hh:A.handled=none)
  (h:wpAny M A x (λv s₁=>∃ e od t,v=.ref e/\s₁.heap.get? C=some (excClassObj nm q C N bs bm hdct sn sub ab col dd k0 k1 k2 k3 k5 newId)/\s₁.heap.get? e=some (DY C od t)/\E (.ref e) s₁) E s) :
  wpAny M A (raiseStmt env (some x) none) Q E s:=by
 have Nt:(Value.ref C::bm).contains (.type "BaseException")=true:=by rw [List.contains_cons,BM,Bool.or_true]
 unfold raiseStmt;refine wpAny_bind (wpAny_mono h (λv s₁ h₁=>?_) λ_ _ x=>x);obtain ⟨e,od,t,rfl,hC,he,hE⟩:=h₁;unfold DY at he;obtain ⟨hp,g,d,tk,os⟩:=s₁
 repeat (first | with_reducible refine wpAny_loadPart_at he ?_ | with_reducible refine wpAny_loadPart_at hC ?_ | (with_reducible refine wpAny_isSubtype_exc hC ?_;rw [Nt]) | wp_step)
 exact wpAny_raiseNew_none hh hE
end
section
variable {prog:Program}{w:World}{A:Around}{E:Value->Shared->Prop}{s:Shared}{env:Env}
variable {nm q:Str}{C N:Addr}{bs bm Bw:List Value}{hdct:Bool}{sn:List Str}{sub:List Value}{ab:Bool}{col:Option Bool}{dd:Option Addr}{k0 k1 k2 k3 k5:Option Value}{B newId BI:String}
theorem FN (F:ExcBaseFacts B newId BI Bw){mN:Str->Option Value}{x:Str}{np AR pos:Pos}{args:List Expr}{fI:Addr}{Q:Flow->Shared->Prop}
  (BM:bm.contains (.type "BaseException")=true) (hh:A.handled=none) (ES:(backTo AR (starEach args env)).any (·.1)=false) (hi:mN "__init__"=some (.ref fI))
  (h:wpAny (model prog w) A (eval (.Name x np) env) (λf s₁=>f=.ref C/\wpAny (model prog w) A (evalArgs (.ref C) true (backTo AR (starEach args env)) [])
   (λa s₂=>a.kw=[]/\a.pos.length<=sizeLine/\s₂.heap.get? C=some (excClassObj nm q C N bs bm hdct sn sub ab col dd k0 k1 k2 k3 k5 newId)/\s₂.heap.Ns N mN/\OwnTail s₂.heap Bw bm/\(∃ oI,s₂.heap.get? fI=some oI/\oI.cls=.type "function") /\
    ∀ h' e,Heap.MadeExcOf s₂.heap h' e (.ref C) a.pos->wpAny (model prog w) (A.under (.builtin "type.__call__" ⟨.ref C::a.pos,[]⟩)) (call (.ref fI) (.ref e::a.pos))
     (λr s'=>r=.none/\∃ od t,s'.heap.get? C=some (excClassObj nm q C N bs bm hdct sn sub ab col dd k0 k1 k2 k3 k5 newId)/\s'.heap.get? e=some (DY C od t)/\E (.ref e) s') E { s₂ with heap:=h' }) E s₁) E s) :
  wpAny (model prog w) A (exec (.Raise (some (.Call (.Name x np) args [] AR)) none pos) env) Q E s:=by
 rw [arm_exec_Raise];refine wpAny_bind (wpAny_standAt (HA (C:=C) (nm:=nm) (q:=q) (N:=N) (bs:=bs) (bm:=bm) (hdct:=hdct) (sn:=sn) (sub:=sub) (ab:=ab) (col:=col) (dd:=dd) (k0:=k0) (k1:=k1) (k2:=k2) (k3:=k3) (k5:=k5) (newId:=newId) BM hh (wpAny_bind (wpAny_mono (wpAny_Call_ofName (wpAny_mono h (λf s₁ h₁=>?_) λ_ _ x=>x)) (λv s₃ h₃=>wpAny_bind (wpAny_standAt (wpAny_pure h₃))) λ_ _ x=>x))));obtain ⟨rfl,h₁⟩:=h₁;unfold callWith;refine wpAny_bind (wpAny_holding (wpAny_mono h₁ (λa s₂ h₂=>wpAny_bind (wpAny_standAt ?_)) λ_ _ x=>x));obtain ⟨apos,qD⟩:=a;obtain ⟨qE,hlen,hC,hn,T,⟨oI,i0,i5⟩,h₂⟩:=h₂;obtain rfl:qD=[]:=qE;obtain ⟨hp,g,d,tk,os⟩:=s₂;simp only [ES];refine wpAny_bind (wpAny_keeperOf_exc hC ?_);refine wpAny_bind (Lo (hrest:=hlen) F T hC hn hi i0 i5 λh' e hm=>wpAny_mono (h₂ h' e hm) (λr s' hr=>?_) λ_ _ x=>x);obtain ⟨rfl,od,t,a1,a2,a3⟩:=hr;exact ⟨rfl,wpAny_bind (wpAny_holding (wpAny_point (wpAny_pure ⟨e,od,t,rfl,a1,a2,a3⟩)))⟩
end
end PySem
namespace PySem
open Builtin Builtin.ObjectAttr
open PySem.W (Looks looks_findIn findIn Frag)
theorem JV {h:Heap}{Bw bm:List Value}{self:Value}{what:Str}(T:OwnTail h Bw bm):refuseLoop self what bm=refuseLoop self what Bw:=by
 induction T with
 | base=>rfl
 | own _ _ _ _ ih=>rw [refuseLoop_ref];exact ih
section
variable {prog:Program}{w:World}{A:Around}{E:Value->Shared->Prop}{h:Heap}{g:Array GenState}{d:Drawn}{t:Nat}{os:OsState}
variable {nm q:Str}{C N x:Addr}{bs bm Bw:List Value}{sn:List Str}{sub:List Value}{ab:Bool}{col:Option Bool}{dd:Option Addr}{k0 k1 k2 k3 k5:Option Value}{B newId sa owner:String}{name:Str}{v:Value}{K:Frag}{o:Obj}
theorem O4 {M:Model}{E4:Value}{Q:Unit->Shared->Prop}(SF:StoreFacts B Bw sa owner)(T:OwnTail h Bw bm)
  (hC:h.get? C=some (excClassObj nm q C N bs bm true sn sub ab col dd k0 k1 k2 k3 k5 newId)) (hx:h.get? x=some o) (hc:o.cls=.ref C) (hq:Q .unit ⟨h,g,d,t,os⟩) :
  wpAny M A (checkBuiltinCall sa ⟨[.ref x,E4,v],[]⟩) Q E ⟨h,g,d,t,os⟩:=by
 have Nt:(Value.ref C::bm).contains (.type owner)=true:=by rw [List.contains_cons,T.hasType SF.hasOwner,Bool.or_true]
 have ha:=SF.args (.ref x) E4 v;simp only [checkBuiltinCall,SF.kind,SF.split];refine wpAny_bind ?_
 ·unfold isInstance
  repeat (first | (with_reducible refine wpAny_loadPart_at hx ?_;rw [hc]) | (with_reducible refine wpAny_isSubtype_exc hC ?_;rw [Nt]) | wp_step)
  cases qF:Manifest.signature? sa with
  | none=>exact wpAny_pure hq
  | some sig =>
   simp only [argsOk,qF] at ha;have h2:Bind.checkArgs sa sig ⟨[.ref x,E4,v],[]⟩=pure Unit.unit:=ha;show wpAny M A (Bind.checkArgs sa sig ⟨[.ref x,E4,v],[]⟩) Q E _;rw [h2];exact wpAny_pure hq
noncomputable def QE (h h':Heap)(x:Addr)(o:Obj)(name:Str)(v:Value):Prop:=∃ dx,h.get? dx=none/\h'.get? x=some { o with dict:=some dx }/\h'.Ns1 dx (λy=>if y=name then some v else none)/\∀ b o',b≠x->h.get? b=some o'->h'.get? b=some o'
theorem IX {tk:Tok}{Q:Fin->Shared->Prop}(SF:StoreFacts B Bw sa owner)(X:K.In h)(T:OwnTail h Bw bm)
  (hC:h.get? C=some (excClassObj nm q C N bs bm true sn sub ab col dd k0 k1 k2 k3 k5 newId)) (en:findIn K (.ref C) name=some none) (hx:h.get? x=some o) (hc:o.cls=.ref C) (qG:∀ c,o.data≠.cls c) (qH:o.dict=none)
  (hq:∀ h' Rn,QE h h' x o name v->Q (.done (.ret .none)) ⟨h',g,d,Rn,os⟩):wpAny (model prog w) A (Builtin.«object.__setattr__» ⟨[.ref x,.str name tk,v],[]⟩) Q E ⟨h,g,d,t,os⟩:=by
 have i7:refuseLoop (.ref x) "__setattr__" bm=pure Unit.unit:=(JV T).trans (SF.passes (.ref x));have L:=looks_findIn (M:=model prog w) X en;unfold Builtin.«object.__setattr__»
 repeat (first | rw [refuse_eq] | (rw [refuseLoop_ref,i7]) | (with_reducible refine wpAny_loadPart_at hx ?_;rw [hc]) | with_reducible refine wpAny_mroOf_exc hC ?_ | with_reducible refine W.Looks.at L ?_ | wp_step)
 rw [qH,if_neg (by simp [typeHasDict])];split
 ·rename_i Gj;cases Gj
 split
 ·rename_i c Gj;exact absurd Gj (qG c)
 ·have hx₁:(h.push { cls:=.type "dict",data:=.dict #[] }).get? x=some o:=Heap.get?_push_of_some _ hx;have yG:x≠h.objs.size:=Nat.ne_of_lt (Heap.lt_size hx);refine wpAny_bind (wpAny_alloc' ?_);refine wpAny_bind (wpAny_update' hx₁ ?_);refine wpAny_pure ?_;have hgd:((h.push { cls:=.type "dict",data:=.dict #[] }).update x λo=>{ cls:=o.cls,dict:=some h.objs.size,data:=o.data,slots:=o.slots }).get? h.objs.size
    = some { cls:=.type "dict",data:=.dict #[] } :=
   (Heap.get?_update_ne _ _ _ _ yG.symm).trans (Heap.get?_push_at rfl rfl)
  have eB:((h.push { cls:=.type "dict",data:=.dict #[] }).update x λo=>{ cls:=o.cls,dict:=some h.objs.size,data:=o.data,slots:=o.slots }).Ns h.objs.size (λ_=>none) :=
   ⟨_,#[],_,hgd,rfl,λe he=>absurd he (by simp),λ_=>rfl⟩
  show wpAny _ _ (storeInDict h.objs.size (.str name tk) name v) _ _ _;unfold storeInDict newKeyGuard;refine wpAny_bind (wpAny_pure (wpAny_bind (wpAny_nsSet1 (Heap.Ns1.of_empty eB) λh' Rw hs=>?_)));obtain ⟨oD,zg,zh,mq,hdD,mr⟩:=Rw.count (Within.cons name v Within.nil);refine wpAny_bind (wpAny_lookBehind mq (by rw [hdD];exact pastItsLine_dict (Nat.le_trans mr (by rw [List.length_cons,List.length_nil,sizeLine_eq];omega))) ?_)
  wp_walk
  refine hq h' _ ⟨h.objs.size,Heap.get?_none_of_le (Nat.le_refl _),?_,Rw,λb ob hbx hb=>?_⟩
  ·refine (hs.2 x yG).trans (Heap.get?_update_self _ hx₁ ?_);have bj:=(Heap.get?_some_iff.mp hx).2;obtain ⟨oc,od,yH,LS⟩:=o;cases yH <;> first | rfl | exact bj
  ·exact (hs.2 b (Nat.ne_of_lt (Heap.lt_size hb))).trans ((Heap.get?_update_ne _ _ _ _ hbx).trans (Heap.get?_push_of_some _ hb))
theorem JW {Q:Unit->Shared->Prop}(SF:StoreFacts B Bw sa owner)(X:K.In h)(T:OwnTail h Bw bm)
  (hC:h.get? C=some (excClassObj nm q C N bs bm true sn sub ab col dd k0 k1 k2 k3 k5 newId)) (es:findIn K (.ref C) "__setattr__"=some (some (.builtin sa))) (en:findIn K (.ref C) name=some none) (hx:h.get? x=some o) (hc:o.cls=.ref C) (qG:∀ c,o.data≠.cls c) (qH:o.dict=none)
  (hq:∀ h' Rn,QE h h' x o name v->Q .unit ⟨h',g,d,Rn,os⟩):wpAny (model prog w) A (setAttr (.ref x) name v) Q E ⟨h,g,d,t,os⟩:=by
 have f3:=SF.slot.bind (.ref x);have L:=looks_findIn (M:=model prog w) X es;unfold setAttr callSpecial? specialOf
 repeat (any_goals (first | assumption | (with_reducible refine wpAny_loadPart_at hx ?_;rw [hc]) | with_reducible refine W.Looks.at L ?_ | wp_step))
 refine codeAny_call_builtin SF.slot.plain SF.entry (O4 SF T hC hx hc (IX SF X T hC en hx hc qG qH λh' Rn st=>?_))
 repeat (any_goals (first | assumption | wp_step))
 exact hq h' Rn st
end
end PySem
namespace L2
open PySem PySem.Spec PyProof.Rows
open PySem.W (tailIn nsOkIn nsIn isNs_of_in tail_of_in findIn)
noncomputable def DZ (K:W.Frag)(C:Addr)(Bw:List Value)(newId:String)(fI:Addr):Bool:=match K.lookup C with
 | some ⟨.type "type",_,.cls cd,sl⟩=>(match cd.mro,sl.toList with
  | .ref C'::bm,[_,_,_,_,some (.builtin n),_]=>C'==C && n==newId && !cd.hasDel && tailIn K Bw bm && nsOkIn K cd.ns && nsIn K cd.ns "__init__"==some (some (.ref fI)) && cd.hasDict
  | _,_=>false)
 | _=>false
theorem Tv {K:W.Frag}{h:Heap}{N:Addr}{mg:Str->Option Value}{n:Str}{v:Value}(X:K.In h)(G:h.Ns N mg)(e:nsIn K N n=some (some v)):mg n=some v:=by
 obtain ⟨o,es,ep,ho,hd,_,hf⟩:=G;unfold nsIn at e;split at e
 ·rename_i c d cD n' sl q;have:=X _ _ q;rw [ho] at this;cases this;cases hd;split at e
  ·rename_i en he;rw [<- hf];unfold nsFind findBy;rw [<- Array.find?_toList,he];exact Option.some.inj e
  ·split at e <;> cases e
 ·cases e
theorem D' {K:W.Frag}{h:Heap}{C fI:Addr}{Bw:List Value}{newId:String}(X:K.In h)(q:DZ K C Bw newId fI=true):
  ∃ (nm qn:Str) (N:Addr) (bs bm:List Value) (sn:List Str) (sub:List Value) (ab:Bool) (col:Option Bool) (dd:Option Addr) (k0 k1 k2 k3 k5:Option Value) (mN:Str->Option Value),
   h.get? C=some (excClassObj nm qn C N bs bm true sn sub ab col dd k0 k1 k2 k3 k5 newId)/\h.Ns N mN/\mN "__init__"=some (.ref fI)/\OwnTail h Bw bm/\FF K C=Value.ref C::bm:=by
 unfold DZ at q;split at q
 ·rename_i dd cd sl ho;split at q
  ·rename_i C' bm k0 k1 k2 k3 n k5 hm hs;simp only [Bool.and_eq_true,beq_iff_eq,Bool.not_eq_true'] at q;obtain ⟨⟨⟨⟨⟨⟨rfl,rfl⟩,Jt⟩,ht⟩,hok⟩,KJ⟩,yI⟩:=q;obtain ⟨nm,bs,mro,ns,qn,hd,sn,sub,ab,col,del⟩:=cd;dsimp only at hm Jt hok KJ yI;subst hm Jt yI;have dR:sl=#[k0,k1,k2,k3,some (.builtin n),k5]:=by
    obtain ⟨l⟩:=sl;simp only at hs;rw [hs]
   subst dR;have hN:=Heap.Ns.of_isNs (isNs_of_in X hok);exact ⟨nm,qn,ns,bs,bm,sn,sub,ab,col,dd,k0,k1,k2,k3,k5,_,X _ _ ho,hN,Tv X hN KJ,tail_of_in X ht,by unfold FF;rw [ho]⟩
  ·cases q
 ·cases q
noncomputable def Et (a C:Addr)(od:Option Addr)(t:Addr):HO:=.ext λh=>h.get? a=some (DY C od t)
theorem Et.ok {P:Program}{w:World}{H:Hp}{h:Heap}{a C t:Addr}{od:Option Addr}(e:h.get? a=some (DY C od t)):AN P w H h a (Et a C od t):=⟨e,⟨_,e⟩,λ_ _ e' k=>k _ e'⟩
structure i8 (K:W.Frag)(C:Addr)(Bw:List Value)(newId:String)(fI:Addr):Prop where
 ex:DZ K C Bw newId fI=true
 es:findIn K (.ref C) "__setattr__"=some (some (.builtin "object.__setattr__"))
 en:findIn K (.ref C) "name"=some none
 fn:W.isFn K (.ref fI)=true
section
variable {X:Cx}{pins:List (Addr × Obj)}{σ:St}{H:Hp}{s:Shared}
theorem Inv.drop {a:Addr}{φ:Heap->Prop}(I:Inv X pins σ H s)(e:H a=some (.ext φ)):Inv X pins σ (λb=>if b=a then none else H b) s:=by
 have ne:∀ {b:Addr} {o:HO},H b=some o->(∀ φ,o≠.ext φ)->(if b=a then none else H b)=some o:=λ{b o} h n=>by
  rw [if_neg (λz=>by rw [z,e] at h;exact n _ (Option.some.inj h).symm)];exact h
 have non:∀ {b:Addr},H b=none->(if b=a then none else H b)=none:=λ{b} h=>by
  by_cases z:b=a
  ·rw [if_pos z]
  ·rw [if_neg z];exact h
 refine ⟨I.ok,I.os,I.bare,⟨I.base.keep,I.base.slot,λb o q n hx=>non (I.base.free b o q n hx),I.base.there,λb xs q=>ne (I.base.aas b xs q) (λ_ z=>by cases z),λb o u q=>ne (I.base.aaq b o u q) (λ_ z=>by cases z),λb ps q=>?_⟩,I.loc,I.cell,non I.free,λx c q=>non (I.aae x c q),λp q=>?_,λb u q=>?_,I.len⟩
 ·obtain ⟨more,z⟩:=I.base.aar b ps q;exact ⟨more,ne z (λ_ z=>by cases z)⟩
 ·obtain ⟨h1,h2,h3⟩:=I.pin p q;exact ⟨h1,non h2,h3⟩
 ·have hq:H b=some u:=by
   by_cases z:b=a
   ·rw [if_pos z] at q;cases q
   ·rw [if_neg z] at q;exact q
  exact (I.hok b u hq).aat (λc v _ h=>h) (λc h=>ne h (λ_ z=>by cases z)) λc xs h=>ne h (λ_ z=>by cases z)
theorem O5 {a C t fI:Addr}{Bw:List Value}{newId:String}{f:Str}{y:V}{u:Value}{A:Around}{E:Value->Shared->Prop}{Q:Unit->Shared->Prop}(SF:StoreFacts "ValueError" Bw "object.__setattr__" "object")(hex:X.ex=[])(I:Inv X pins σ H s)(e:H a=some (Et a C none t))(Z:DZ X.K C Bw newId fI=true)
  (es:findIn X.K (.ref C) "__setattr__"=some (some (.builtin "object.__setattr__"))) (en:findIn X.K (.ref C) f=some none) (ry:RelV y u)
  (h:∀ dx s',H dx=none->dx≠a->Inv X pins σ (upd (upd H a (Et a C (some dx) t)) dx (.xd [(f,y)])) s'->Q .unit s'):wpAny (model X.prog X.w) A (setAttr (.ref a) f u) Q E s:=by
 obtain ⟨nm,qn,N,bs,bm,sn,sub,ab,col,dd,k0,k1,k2,k3,k5,mN,hC,_,_,T,_⟩:=D' I.kIn Z;have ha:s.heap.get? a=some (DY C none t):=(I.hok a _ e).1;obtain ⟨hp,g,d,tk,os⟩:=s;refine JW SF I.kIn T hC es en ha rfl (λc z=>by cases z) rfl λh' Rn st=>?_;obtain ⟨dx,d0,d1,d2,d3⟩:=st;have Tw:H dx=none:=by
  cases z:H dx with
  | none=>rfl
  | some o =>
   obtain ⟨ob,eo⟩:=CC (I.hok dx o z);rw [d0] at eo;cases eo
 have Tp:dx≠a:=λz=>by rw [z,ha] at d0;cases d0
 have I1:Inv X pins σ (upd H a (Et a C (some dx) t)) { heap:=h',gens:=g,drawn:=d,toks:=Rn,os:=os } :=
  I.write (x:=a) (e:=a) (o:=Et a C (some dx) t) (t':=Rn) (by rw [e];exact True.intro) (.inl rfl) (λb q hb z=>d3 b q hb z) ⟨_,d1⟩ (Et.ok d1)
 refine h dx _ Tw Tp (I1.aah (by rw [Ac Tp];exact Tw) ?_ (λz=>?_) (λx c hx z=>?_) (λp hp z=>?_) ⟨_,d2,λg=>?_⟩)
 ·cases z:X.s₀.heap.get? dx with
  | none=>rfl
  | some o =>
   obtain ⟨o',e'⟩:=I.base.there dx o z (by rw [hex];simp);rw [d0] at e';cases e'
 ·obtain ⟨m,⟨o',es,ep,e',d',_⟩,_⟩:=I.loc;rw [<- z,d0] at e';cases e'
 ·obtain ⟨v,o',e',d'⟩:=I.cell x c hx;rw [z,d0] at e';cases e'
 ·have e':=(I.pin p hp).1;rw [z,d0] at e';cases e'
 ·show DJ ([(f,y)].lookup g) (if g=f then some u else none)
  by_cases z:g=f
  ·subst z;rw [if_pos rfl];simp only [List.lookup,beq_self_eq_true];exact ry
  ·rw [if_neg z];have:(g==f)=false:=(by simpa using z);simp only [List.lookup,this];trivial
noncomputable def i9 (C:Addr)(ta tv:TE)(f:Str):TS:=λD σ H=>tv σ H λy H1=>ta σ H1 λx H2=>∃ a t,x=.ref a/\H2 a=some (Et a C none t)/\∀ dx,H2 dx=none->dx≠a->D.nx σ (upd (upd H2 a (Et a C (some dx) t)) dx (.xd [(f,y)]))
theorem Ym {C fI:Addr}{Bw:List Value}{newId:String}{o value:Expr}{f:Str}{pos pos':Pos}{ta tv:TE}(SF:StoreFacts "ValueError" Bw "object.__setattr__" "object")(hex:X.ex=[])(Z:DZ X.K C Bw newId fI=true)(es:findIn X.K (.ref C) "__setattr__"=some (some (.builtin "object.__setattr__")))(en:findIn X.K (.ref C) f=some none)
  (ha:SE X o ta) (hv:SE X value tv) (hs:swapsWith value (some (.Attribute o f pos')) pos.line X.env=pure false:=by rfl):SS X (.Assign [.Attribute o f pos'] value pos) (i9 C ta tv f):=⟨by
 intro pins s σ H D I h;refine plainObj_wpAny_Assign_Attribute (AY (hv.out pins s σ H _ I h) λu s1 AE=>?_) hs;obtain ⟨y,H1,I1,ry,q⟩:=AE;refine AY (ha.out pins s1 σ H1 _ I1 q) λov s2 AE=>?_;obtain ⟨x,H2,I2,rx,a,t,ex,ea,q2⟩:=AE;subst ex;obtain rfl:ov=Value.ref a:=rx;exact O5 SF hex I2 ea Z es en ry λdx s3 h1 h2 I3=>⟨σ,_,I3,q2 dx h1 h2⟩⟩
end
end L2
namespace L2
open PySem PySem.Spec PyProof.Rows
noncomputable def QF (C:Addr):Sp:=λvs H Q _=>∃ (a t:Addr) (v:V),vs=[.ref a,v]/\H a=some (Et a C none t)/\∀ dx,H dx=none->dx≠a->Q .non (upd (upd H a (Et a C (some dx) t)) dx (.xd [("name",v)]))
noncomputable def Mx (C:Addr)(E:XK)(t:TA):TS:=λ_ σ H=>t σ H λvs H1=>∃ v,vs=[v]/\∀ dx,H1 dx=none->E (.ref C) (some dx) (upd H1 dx (.xd [("name",v)]))
section
variable {X:Cx}{E:XK}{E':Value->Shared->Prop}
theorem O6 {C fI:Addr}{Bw:List Value}{newId BI Bn:String}{x:Str}{np AR pos:Pos}{e:Expr}{t:TA}{k:Nat}{fd:FuncData}(B:Body X)(hE:∀ e s',EL X E e s'->E' e s')(hg:Gl X x)(hm:X.mg x=some (.ref C))(Z:i8 X.K C Bw newId fI)(F:ExcBaseFacts Bn newId BI Bw)
  (G:Av X.prog X.w X.K X.mg X.base Bs k fI fd ["self","name"] (QF C)) (bI:Binds X.K fd ["self","name"] []) (hr:Am (k+1) X.A) (hc:X.calm=true) (ha:PA (X.aad E') [e] t) (Cr:(x==("__debug__":Str))=false:=by decide)
  (he:starEach [e] X.env=(false,eval e X.env)::starEach [] X.env:=by rfl) (CO:(backTo AR (starEach [e] X.env)).any (·.1)=false:=by rfl) :
  PS (X.aad E') (.Raise (some (.Call (.Name x np) [e] [] AR)) none pos) (Mx C E t):=by
 intro pins s σ H D I h;obtain ⟨nm,qn,N,bs,bm,sn,sub,ab,col,dd,k0,k1,k2,k3,k5,mN,hC,hN,KJ,hT,_⟩:=D' I.ok.mod.kin Z.ex;refine FN (C:=C) (nm:=nm) (q:=qn) (N:=N) (bs:=bs) (bm:=bm) (hdct:=true) (sn:=sn) (sub:=sub) (ab:=ab) (col:=col) (dd:=dd) (k0:=k0) (k1:=k1) (k2:=k2) (k3:=k3) (k5:=k5) F (mN:=mN) (hT.hasType F.hasBase) (I.ok.hd hc) CO KJ
  (Cu I hg hm ⟨rfl,?_⟩ Cr)
 have h0:=ha AR pins s σ H _ I h;have e0:backTo AR (starEach [e] X.env)=(false,eval e X.env)::backTo AR (starEach [] X.env):=by rw [he];rfl
 rw [show (X.aad E').env=X.env from rfl,e0] at h0;rw [show (X.aad E').env=X.env from rfl,e0];refine Calls.evalArgs_plain (AY h0 λus s1 q1=>?_);obtain ⟨vs,H1,I1,r1,v,rfl,q⟩:=q1;obtain ⟨u,rfl,ru⟩:=vals1 r1;have hb:=sizeLine_eq;have kIn:∀ b o,X.base.get? b=some o->s1.heap.get? b=some o:=I1.bk;obtain ⟨oI,loI,hcI⟩:∃ oI,X.K.lookup fI=some oI/\oI.cls=.type "function":=by
  have:=beq_iff_eq.mp Z.fn;obtain ⟨o,h1,h2⟩:=Option.map_eq_some_iff.mp (show (X.K.lookup fI).map (·.cls)=some (.type "function") from this);exact ⟨o,h1,h2⟩
 refine ⟨rfl,by show 1<=sizeLine;omega,kIn _ _ hC,hN.keeps kIn,hT.keeps kIn,⟨oI,I1.kIn _ _ loI,hcI⟩,λh' a hx=>?_⟩;obtain ⟨t0,dS,dU,zJ⟩:=hx.there;have un:H1 a=none:=by
  cases z:H1 a with
  | none=>rfl
  | some u =>
   obtain ⟨ob,eo⟩:=CC (I1.hok a u z);rw [hx.new] at eo;cases eo
 have a0:X.s₀.heap.get? a=none:=by
  cases e0:X.s₀.heap.get? a with
  | none=>rfl
  | some o =>
   obtain ⟨o',e1⟩:=I1.aac.base.there a o e0 (by rw [B.ex];simp);rw [hx.new] at e1;cases e1
 have I2:Inv (X.aad E') pins σ H1 { s1 with heap:=h',toks:=s1.toks }:=I1.kept hx.keeps;have I3:Inv (X.aad E') pins σ (upd H1 a (Et a C none t0)) { s1 with heap:=h',toks:=s1.toks }:=by
  refine I2.aah un a0 (λz=>?_) (λx c Ic z=>?_) (λp hp z=>?_) (Et.ok dS)
  ·obtain ⟨m,⟨o',es,ep,e',d',_⟩,_⟩:=I1.loc;rw [<- z,hx.new] at e';cases e'
  ·obtain ⟨v,o',e',d'⟩:=I1.cell x c Ic;rw [z,hx.new] at e';cases e'
  ·have e':=(I1.pin p hp).1;rw [z,hx.new] at e';cases e'
 have r2:Vals [V.ref a,v] [Value.ref a,u]:=.cons rfl (.cons ru .nil);have Oi:QF C [V.ref a,v] (upd H1 a (Et a C none t0)) (λv' H2=>v'=.non/\∃ dx,H1 dx=none/\dx≠a/\H2=upd (upd H1 a (Et a C (some dx) t0)) dx (.xd [("name",v)])) E0:=by
  refine ⟨a,t0,v,rfl,Ad,λdx h1 h2=>⟨rfl,dx,by rw [Ac h2] at h1;exact h1,h2,by rw [Rr]⟩⟩
 refine wpAny_call (codeAny_mono (G.run _ X.stack _ _ ⟨[Value.ref a,u],[]⟩ ([Value.ref a,u]++[]) _ _ E0 (hr.make C [u] []) (I3.abk.make C [u] []) (bI _ [Value.ref a,u] I3.kIn rfl) r2 Oi) λr s' MW=>?_);cases r with
 | error e=>exact (MW:False).elim
 | ok fl =>
  cases fl with
  | ret w' =>
   obtain ⟨v',H',I4,rv,rfl,dx,Tw,Tp,rfl⟩:=I3.after MW;have yJ:s'.heap.get? a=some (DY C (some dx) t0):=(I4.hok a (Et a C (some dx) t0) (by rw [Ac (Ne.symm Tp),Ad])).1;refine ⟨rv,some dx,t0,I4.bk _ _ hC,yJ,hE _ _ ?_⟩;have I5:=I4.drop (a:=a) (by rw [Ac (Ne.symm Tp),Ad];rfl);have eH:(λb=>if b=a then none else upd (upd H1 a (Et a C (some dx) t0)) dx (.xd [("name",v)]) b)=upd H1 dx (.xd [("name",v)]):=by
    funext b
    by_cases z:b=a
    ·rw [if_pos z,z,Ac (Ne.symm Tp),un]
    ·rw [if_neg z];by_cases y:b=dx
     ·rw [y,Ad,Ad]
     ·rw [Ac y,Ac y,Ac z]
   rw [eH] at I5;exact ⟨σ,_,a,.ref C,none,some dx,rfl,I5.aac.aaf λp hp=>absurd hp (by simp),⟨a0,by rw [Ac (Ne.symm Tp)];exact un,_,_,yJ,rfl,rfl,by simp,rfl,(λ_=>rfl),rfl⟩,q dx Tw⟩
  | next=>exact False.elim MW
  | brk=>exact False.elim MW
  | cont=>exact False.elim MW
end
end L2
namespace PySem
theorem HB:entryFor table "proto.unchain"=some Builtin.«proto.unchain»:=entryFor_of_tree (by kernel_rfl)
section
variable {prog:Program}{w:World}{A:Around}{E:Value->Shared->Prop}{s:Shared}{env:Env}
theorem IY {α:Type}{e b:Addr}{oe ob:Obj}{vs bs:Array Value}{Q:α->Shared->Prop}(hA:A.handled=some (.ref b))(ne:b≠e)(he:s.heap.get? e=some oe)(hd:oe.data=.fields vs)(hz:2 < vs.size)(hb:s.heap.get? b=some ob)(cc:ob.data=.fields bs)(hc:bs[2]?=some .none)
  (h:E (.ref e) { s with heap:=s.heap.update e (Obj.mapFields (·.setIfInBounds 2 (.ref b))) }):wpAny (model prog w) A (raiseNew (.ref e):Sem α) Q E s:=by
 unfold raiseNew;refine wpAny_bind (wpAny_handled ?_);rw [hA];have h1:(Value.ref b != Value.ref e)=true:=by simp [ne]
 simp only [h1,if_true];refine wpAny_bind (wpAny_holding (wpAny_runValue (codeAny_builtin HB ?_)));unfold Builtin.«proto.unchain»;refine wpAny_bind (wpAny_field hb cc hc ?_);rw [if_pos ⟨⟩];show wpAny _ _ (ret _ >>= _) _ _ _;refine wpAny_bind (wpAny_pure (wpAny_pure ?_));show wpAny _ _ (setField (.ref e) 2 (.ref b) >>= _) _ _ _;exact wpAny_bind (wpAny_setField he hd hz (wpAny_throw h))
variable {nm q:Str}{C N:Addr}{bs bm Bw:List Value}{hdct:Bool}{sn:List Str}{sub:List Value}{ab:Bool}{col:Option Bool}{dd:Option Addr}{k0 k1 k2 k3 k5:Option Value}{B newId BI:String}
noncomputable def QG (C t b:Addr):Obj:={ cls:=.ref C,data:=.fields #[.ref t,.none,.ref b,.none,.bool true,.none] }
theorem Hi {x c:Sem Value}{b:Addr}{Q:Flow->Shared->Prop}(BM:bm.contains (.type "BaseException")=true)(hA:A.handled=some (.ref b))(hc:∀ (s1:Shared) (Q:Value->Shared->Prop),Q .none s1->wpAny (model prog w) A c Q E s1)
  (h:wpAny (model prog w) A x (λv s₁=>∃ e t ob vs,v=.ref e/\s₁.heap.get? C=some (excClassObj nm q C N bs bm hdct sn sub ab col dd k0 k1 k2 k3 k5 newId)/\s₁.heap.get? e=some (DY C none t)/\s₁.heap.get? b=some ob/\ob.data=.fields vs/\vs[2]?=some .none/\b≠e /\
   ∀ h',(∀ a o,a≠e->s₁.heap.get? a=some o->h'.get? a=some o)->h'.get? e=some (QG C t b)->E (.ref e) { s₁ with heap:=h' }) E s) :
  wpAny (model prog w) A (raiseStmt env (some x) (some c)) Q E s:=by
 have Nt:(Value.ref C::bm).contains (.type "BaseException")=true:=by rw [List.contains_cons,BM,Bool.or_true]
 unfold raiseStmt;refine wpAny_bind (wpAny_mono h (λv s₁ h₁=>?_) λ_ _ x=>x);obtain ⟨e,t,ob,vs,rfl,hC,he,hb,cc,qI,ne,hE⟩:=h₁;obtain ⟨hp,g,d,tk,os⟩:=s₁;unfold DY at he;refine wpAny_bind (wpAny_holding (hc _ _ ?_))
 repeat (first | with_reducible refine wpAny_loadPart_at he ?_ | with_reducible refine wpAny_loadPart_at hC ?_ | (with_reducible refine wpAny_isSubtype_exc hC ?_;rw [Nt]) | wp_step)
 have yK:C≠e:=λz=>by rw [z,he] at hC;cases hC
 have Vc:((hp.update e (Obj.mapFields (·.setIfInBounds 3 Value.none))).update e (Obj.mapFields (·.setIfInBounds 4 (Value.bool true)))).get? C=some (excClassObj nm q C N bs bm hdct sn sub ab col dd k0 k1 k2 k3 k5 newId):=by
  rw [Heap.get?_update_other _ _ (Ne.symm yK),Heap.get?_update_other _ _ (Ne.symm yK)];exact hC
 have lT:((hp.update e (Obj.mapFields (·.setIfInBounds 3 Value.none))).update e (Obj.mapFields (·.setIfInBounds 4 (Value.bool true)))).get? e=some { cls:=.ref C,data:=.fields #[.ref t,.none,.none,.none,.bool true,.none] } :=
  Heap.get?_update_self _ (Heap.get?_update_self _ he rfl) rfl
 have Nm:((hp.update e (Obj.mapFields (·.setIfInBounds 3 Value.none))).update e (Obj.mapFields (·.setIfInBounds 4 (Value.bool true)))).get? b=some ob:=by
  rw [Heap.get?_update_other _ _ (Ne.symm ne),Heap.get?_update_other _ _ (Ne.symm ne)];exact hb
 have kp:∀ a o,a≠e->hp.get? a=some o->((hp.update e (Obj.mapFields (·.setIfInBounds 3 Value.none))).update e (Obj.mapFields (·.setIfInBounds 4 (Value.bool true)))).get? a=some o:=λa o h1 h2=>by
  rw [Heap.get?_update_other _ _ (Ne.symm h1),Heap.get?_update_other _ _ (Ne.symm h1)];exact h2
 generalize (hp.update e (Obj.mapFields (·.setIfInBounds 3 Value.none))).update e (Obj.mapFields (·.setIfInBounds 4 (Value.bool true)))=h2 at Vc lT Nm kp ⊢;refine wpAny_loadPart_at Vc (wpAny_pure ?_);rw [if_pos (by rfl)];refine wpAny_pure ?_;show wpAny _ _ (setFlight (.ref e) none >>= _) _ _ _;unfold setFlight;refine wpAny_bind (wpAny_bind (wpAny_field (x:=.none) lT rfl rfl ?_));rw [if_neg ⟨⟩];refine wpAny_pure (IY hA ne lT rfl (show 2 < 6 by decide) Nm cc qI (hE _ (λa o h1 h3=>?_) ?_))
 ·rw [Heap.get?_update_other _ _ (Ne.symm h1)];exact kp a o h1 h3
 ·exact Heap.get?_update_self _ lT rfl
theorem G5 (F:ExcBaseFacts B newId BI Bw){mN:Str->Option Value}{x:Str}{np AR pos QH:Pos}{nk:Nat}{args:List Expr}{b:Addr}{Q:Flow->Shared->Prop}
  (BM:bm.contains (.type "BaseException")=true) (hA:A.handled=some (.ref b)) (ES:(backTo AR (starEach args env)).any (·.1)=false) (KJ:mN "__init__"=none)
  (h:wpAny (model prog w) A (eval (.Name x np) env) (λf s₁=>f=.ref C/\wpAny (model prog w) A (evalArgs (.ref C) true (backTo AR (starEach args env)) [])
   (λa s₂=>a.kw=[]/\a.pos.length<=sizeLine/\s₂.heap.get? C=some (excClassObj nm q C N bs bm hdct sn sub ab col dd k0 k1 k2 k3 k5 newId)/\s₂.heap.Ns N mN/\OwnTail s₂.heap Bw bm/\(∃ ob vs,s₂.heap.get? b=some ob/\ob.data=.fields vs/\vs[2]?=some .none) /\
    ∀ h' e t,s₂.heap.get? e=none->(∀ a o,s₂.heap.get? a=some o->h'.get? a=some o)->h'.get? e=some (QG C t b)->E (.ref e) { s₂ with heap:=h' }) E s₁) E s) :
  wpAny (model prog w) A (exec (.Raise (some (.Call (.Name x np) args [] AR)) (some (.Constant .none nk QH)) pos) env) Q E s:=by
 rw [arm_exec_Raise];refine wpAny_bind (wpAny_standAt (Hi (C:=C) (nm:=nm) (q:=q) (N:=N) (bs:=bs) (bm:=bm) (hdct:=hdct) (sn:=sn) (sub:=sub) (ab:=ab) (col:=col) (dd:=dd) (k0:=k0) (k1:=k1) (k2:=k2) (k3:=k3) (k5:=k5) (newId:=newId) BM hA (λs1 Q h=>?_) (wpAny_bind (wpAny_mono (wpAny_Call_ofName (wpAny_mono h (λf s₁ h₁=>?_) λ_ _ x=>x)) (λv s₃ h₃=>wpAny_bind (wpAny_standAt (wpAny_pure h₃))) λ_ _ x=>x))))
 ·first
  | exact PyProof.Rows.Constant_none h
  | exact wpAny_bind (PyProof.Rows.Constant_none (wpAny_bind (wpAny_standAt (wpAny_pure h))))
  | exact Spec.Constant_none h
  | exact wpAny_bind (Spec.Constant_none (wpAny_bind (wpAny_standAt (wpAny_pure h))))
 obtain ⟨rfl,h₁⟩:=h₁;unfold callWith;refine wpAny_bind (wpAny_holding (wpAny_mono h₁ (λa s₂ h₂=>wpAny_bind (wpAny_standAt ?_)) λ_ _ x=>x));obtain ⟨apos,qD⟩:=a;obtain ⟨qE,hlen,hC,hn,T,⟨ob,vs,hb,cc,qI⟩,h₂⟩:=h₂;obtain rfl:qD=[]:=qE;obtain ⟨hp,g,d,tk,os⟩:=s₂;simp only [ES];refine wpAny_bind (wpAny_keeperOf_exc hC ?_);refine wpAny_bind (wpAny_call_exc_subT (hrest:=hlen) F T hC hn KJ λh' e hm=>wpAny_bind (wpAny_holding (wpAny_point (wpAny_pure ?_))));obtain ⟨t,ht,_,_⟩:=hm.there;have ne:b≠e:=λz=>by rw [z,hm.new] at hb;cases hb
 exact ⟨e,t,ob,vs,rfl,hm.keeps _ _ hC,ht,hm.keeps _ _ hb,cc,qI,ne,λdD pH he=>h₂ dD e t hm.new (λa o ha=>pH a o (λz=>by rw [z,hm.new] at ha;cases ha) (hm.keeps _ _ ha)) he⟩
end
end PySem
namespace L2
open PySem PySem.Spec PyProof.Rows
open PySem.W (excIn)
noncomputable def C9 (X:Cx)(E:XK)(e:Value)(s':Shared):Prop:=∃ σ H' a cls z dz c,e=.ref a/\Inv X [] σ H' s'/\Fl X.s₀.heap H' a cls s'.heap z dz c/\E cls dz H'
theorem EL.two {X:Cx}{E:XK}{e:Value}{s':Shared}(h:EL X E e s'):C9 X E e s':=by
 obtain ⟨σ,H',a,cls,z,dz,h⟩:=h;exact ⟨σ,H',a,cls,z,dz,true,h⟩
theorem Lp {X:Cx}{E:XK}(B:Body X){A':Around}(hA:A'.frames=some X.stack){e:Value}{s':Shared}(h:C9 X E e s'):notedBy (model X.prog X.w) A' X.env (cameBackBy (model X.prog X.w) X.A X.env (C9 X E)) e s':=by
 obtain ⟨σ,H',a,cls,z,dz,c,rfl,I,fl,q⟩:=h;refine Ez B hA I fl λh1 I1 Si Np=>?_;unfold cameBackBy;obtain ⟨_,_,oe,vs,he,_,hd,_,_,_,T,oT,ts,WR,_⟩:=id Np;refine wpAny_bind (wpAny_field (s:={ s' with heap:=h1 }) he hd WR ?_);rw [if_neg (by intro z;simp at z)];refine Cd (s:={ s' with heap:=h1 }) (env:=X.env) (outer:=X.outer) Np λh2 KH Nq=>?_;rw [<- B.stk] at KH;exact ⟨σ,H',a,cls,_,dz,c,rfl,I1.aa2 (t':=s'.toks) B.pn KH,Nq,q⟩
noncomputable def Tx (P:Program)(w:World):Je:=λouter H s E e s'=>∃ H' a cls z dz c,e=.ref a/\s'.os=s.os/\AllBare s'.gens/\Un (F7 outer) [] H H' s.heap s'.heap/\Dv P w H' s'.heap/\Fl s.heap H' a cls s'.heap z dz c/\E cls dz H'
section
variable {P:Program}{w:World}{K:W.Frag}{mg:Str->Option Value}{base:Heap}
theorem JX {N:List Str}{qual:Str}{scope:Scope}{f:Addr}{cd:Value}{A:Around}{outer:List Env}{s:Shared}{H:Hp}{E:XK}{e:Value}{s':Shared}
  (h:C9 (CB (Tx P w) P w K mg base N qual scope f cd A outer s H E) E e s'):(CB (Tx P w) P w K mg base N qual scope f cd A outer s H E).xe e s':=by
 obtain ⟨σ,H',a,cls,z,dz,c,rfl,I,fl,q⟩:=h;show wpAny _ _ (leaving _ (.ref a)) _ _ s';unfold leaving;refine wpAny_bind (Ez (X:=CB (Tx P w) P w K mg base N qual scope f cd A outer s H E) Cg I.ok.frames I fl λh1 I1 Si Np=>?_);refine Cd (s:={ s' with heap:=h1 }) (env:=envOfC qual scope s.heap.objs.size f cd) (outer:=outer) Np λh2 KH Nq=>?_;have I2:=I1.aa2 (t':=s'.toks) rfl KH;exact ⟨H',a,cls,_,dz,c,rfl,I2.os,I2.bare,I2.base,I2.hok,Nq,q⟩
abbrev ie (P:Program)(w:World)(K:W.Frag)(mg:Str->Option Value)(base:Heap)(N:List Str)(qual:Str)(scope:Scope)(f:Addr)(cd:Value)(A:Around)(outer:List Env)(s:Shared)(H:Hp)(E:XK):Cx :=
 (CB (Tx P w) P w K mg base N qual scope f cd A outer s H E).aad (C9 (CB (Tx P w) P w K mg base N qual scope f cd A outer s H E) E)
theorem B'.ab9 {x qual:Str}{st:Stmt}{f:Addr}{fd:FuncData}{N ps:List Str}{k:Nat}{sp:Sp}(F:B' K x qual st f fd)(S:Ak N ps (Af st))(len:∀ vs H Q E,sp vs H Q E->vs.length=ps.length)
  (Fc:∀ (B7:Value) (A:Around) (outer:List Env) (s:Shared) (H:Hp) (vs:List V) (Q:VK) (E:XK),Am k (A.deeper (envOfC qual (Af st) s.heap.objs.size f B7))->sp vs H Q E ->
   ∃ t,SB (ie P w K mg base N qual (Af st) f B7 A outer s H E) (Az st) t/\t { nx:=λ_ H'=>Q .non H',rt:=Q } (start N vs) H):Av P w K mg base (Tx P w) (k+1) f fd ps sp:=by
 obtain ⟨oc,od,kV,doc,pm,an,B7,ct,LS,rfl,lk,Gj⟩:=F.ex;refine OY lk Gj S len λA outer s H vs Q E hr Oi=>?_;obtain ⟨t,h,q⟩:=Fc B7 A outer s H vs Q E hr Oi;refine ⟨t,λpins s1 σ H1 D I hw=>?_,q⟩;exact wpAny_mono (h.out pins s1 σ H1 D (I.aad _) hw) (λ_ _ q=>q.aac) λe s' z=>JX z
end
noncomputable def Tz (b:Addr)(ob:Obj):HO:=.ext λh=>h.get? b=some ob
theorem Tz.ok {P:Program}{w:World}{H:Hp}{h:Heap}{b:Addr}{ob:Obj}(e:h.get? b=some ob):AN P w H h b (Tz b ob):=⟨e,⟨_,e⟩,λ_ _ e' k=>k _ e'⟩
noncomputable def VA (K:W.Frag)(C D:Addr)(E:XK)(t:XK->TE):TS:=λDn σ H=>t (λcls _ H'=>(∃ C2 bm newId,cls=.ref C2/\excIn K C2 bm newId=true/\(FF K C2).contains (.ref C)=true)/\E (.ref D) none H') σ H Dn.rt
section
variable {X:Cx}{E:XK}{x y:Str}{C D:Addr}{Bw ig:List Value}{newId newD QI qL:String}{e:Expr}{t:XK->TE}{Yn np FG yp AR QH Yo pos mp:Pos}{m:Str}{nk mk:Nat}
theorem TB (B:Body X)(hg:Gl X x)(hm:X.mg x=some (.ref C))(hq:excIn X.K C Bw newId=true)(BM:Bw.contains (.type "BaseException")=true)(qO:Gl X y)(qP:X.mg y=some (.ref D))(qQ:excIn X.K D ig newD=true)(F:ExcBaseFacts qL newD QI ig)
  (he:nB (X.aad (C9 X E)) e t) (Cr:(x==("__debug__":Str))=false:=by decide) (Vx:(y==("__debug__":Str))=false:=by decide) (CO:(backTo AR (starEach [.Constant (.str m) mk mp] X.env)).any (·.1)=false:=by rfl)
  (Ho:starEach [.Constant (.str m) mk mp] X.env=(false,eval (.Constant (.str m) mk mp) X.env)::starEach [] X.env:=by rfl) :
  PS (X.aad (C9 X E)) (.Try [.Return (some e) Yn] [.ExceptHandler (some (.Name x np)) none [.Raise (some (.Call (.Name y yp) [.Constant (.str m) mk mp] [] AR)) (some (.Constant .none nk QH)) Yo] FG] [] [] pos) (VA X.K C D E t):=by
 intro pins s σ H Dn I h;refine wpAny_Try_except ?_;refine wpAny_execs_cons ?_;refine wpAny_Return_some (wpAny_mono (he _ pins s σ H _ I h) (λv s1 q1=>?_) λex s1 q1=>?_)
 ·obtain ⟨v',H1,I1,r1,q⟩:=q1;exact ⟨v',σ,H1,I1,r1,q⟩
 ·obtain ⟨h0,H1,a,cls,z,dz,rfl,I1,R,fl,th,⟨C2,bm,nid,rfl,q2,q3⟩,q4⟩:=q1;have fr:=I1.stack;have F7:=I1.ok.frames;have stk:(X.aad (C9 X E)).stack=X.env::X.outer:=B.stk;rw [stk] at fr F7;refine IC F7 fr B.frm (λb hb=>?_) (λb hb=>I1.hok.fresh hb) fl λh1 Si Np=>?_
  ·cases eb:h0.get? b with
   | none=>rfl
   | some o =>
    obtain ⟨o',e'⟩:=th b o eb;exact absurd (Nat.lt_of_lt_of_le (Heap.lt_size e') hb) (Nat.lt_irrefl _)
  rw [<- B.stk] at Si;have I2:=I1.aam (t':=s1.toks) R Si;refine Cd (s:={ s1 with heap:=h1 }) (env:=X.env) (outer:=X.outer) Np λh2 KH Nq=>?_;rw [<- B.stk] at KH;have I3:=I2.aam (t':=s1.toks) R KH;refine wpAny_handleBy_cons (codeAny_handlers_test (Cu (I3.aak a) hg hm ?_ Cr)) (by intro q;cases q);obtain ⟨nm,qn,N,bs,bmk,hdct,sn,sub,ab,col,dd,k0,k1,k2,k3,k5,hC,hT,hmC⟩:=DP I3.kIn hq;obtain ⟨nm',qn',N',bE,bm',ik,sn',qR,ab',qS,Nd,j0,j1,j2,j3,j5,Vc,Vi,Yp⟩:=DP I3.kIn q2;obtain ⟨_,_,oe,vs,X1,qT,qU,_⟩:=id Nq;refine Eg hC (hT.hasType BM) Vc X1 qT (by rw [<- Yp];exact q3) ?_;refine codeAny_handlers_suite ?_;refine Cd (s:={ s1 with heap:=h2 }) (env:=X.env) (outer:=X.outer) Nq λh3 ip qV=>?_;rw [<- B.stk] at ip;have I4:=I3.aam (t':=s1.toks) R ip;obtain ⟨_,_,VB,yL,Lq,iq,Hj,_,_,qW,_⟩:=id qV;have I5:Inv (X.aad (C9 X E)) pins σ (upd H1 a (Tz a VB)) { s1 with heap:=h3,toks:=s1.toks }:=by
   refine I4.aah fl.un (R.ent a fl.new) (λz=>?_) (λx c hx z=>?_) (λp hp z=>?_) (Tz.ok Lq)
   ·obtain ⟨m,⟨o',es,ep,e',d',_⟩,_⟩:=I4.loc;rw [<- z,Lq] at e';cases e';rw [Hj] at d';cases d'
   ·obtain ⟨v,o',e',d'⟩:=I4.cell x c hx;rw [z,Lq] at e';cases e';rw [Hj] at d';cases d'
   ·obtain ⟨o',e'⟩:=R.pin p hp;rw [z,fl.new] at e';cases e'
  refine wpAny_execs_cons ?_;obtain ⟨nm,qn,N,bs,bm,hdct,sn,sub,ab,col,dd,k0,k1,k2,k3,k5,mN,hD,hN,KJ,hT⟩:=HY I.ok.mod.kin qQ;refine G5 (C:=D) (nm:=nm) (q:=qn) (N:=N) (bs:=bs) (bm:=bm) (hdct:=hdct) (sn:=sn) (sub:=sub) (ab:=ab) (col:=col) (dd:=dd) (k0:=k0) (k1:=k1) (k2:=k2) (k3:=k3) (k5:=k5) F (mN:=mN) (b:=a) (hT.hasType F.hasBase) rfl CO KJ (Cu (I5.aak a) qO qP ⟨rfl,?_⟩ Vx);have yM:=(Fb Ow Iq:PA ((X.aad (C9 X E)).aak a) [.Constant (.str m) mk mp] (Cb (tC (.str m)) Dp)) AR pins _ σ (upd H1 a (Tz a VB)) (λvs H'=>H'=upd H1 a (Tz a VB)/\vs.length=1) (I5.aak a) ⟨rfl,rfl⟩;have e0:backTo AR (starEach [.Constant (.str m) mk mp] X.env)=(false,eval (.Constant (.str m) mk mp) X.env)::backTo AR (starEach [] X.env):=by rw [Ho];rfl
  rw [show ((X.aad (C9 X E)).aak a).env=X.env from rfl,e0] at yM;rw [show (X.aad (C9 X E)).env=X.env from rfl,e0];refine Calls.evalArgs_plain (wpAny_mono yM (λus s6 q6=>?_) λ_ _ z=>z.elim);obtain ⟨vs,H6,I6,r6,rfl,hlen⟩:=q6;have I7:=I6.aa8 I1.ok;have hb:=sizeLine_eq;have hl:=r6.length;have kIn:∀ b o,X.base.get? b=some o->s6.heap.get? b=some o:=I7.bk;refine ⟨rfl,by show us.length<=sizeLine;omega,kIn _ _ hD,hN.keeps kIn,hT.keeps kIn,⟨VB,yL,(I7.hok a (Tz a VB) Ad).1,Hj,qW rfl⟩,λh' e1 t1 en kp he1=>Lp (A':=X.A.mark (some (.ref a))) B I1.ok.frames ?_⟩;have I8:Inv (X.aad (C9 X E)) pins σ (upd H1 a (Tz a VB)) { s6 with heap:=h',toks:=s6.toks }:=I7.kept kp;have I9:=I8.drop (a:=a) Ad;have eH:(λb=>if b=a then none else upd H1 a (Tz a VB) b)=H1:=by
   funext b
   by_cases z:b=a
   ·rw [if_pos z,z,fl.un]
   ·rw [if_neg z,Ac z]
  rw [eH] at I9;have e0':X.s₀.heap.get? e1=none:=by
   cases z:X.s₀.heap.get? e1 with
   | none=>rfl
   | some o =>
    obtain ⟨o',z'⟩:=I7.aac.base.there e1 o z (by rw [B.ex];simp);rw [en] at z';cases z'
  have un:H1 e1=none:=by
   cases z:H1 e1 with
   | none=>rfl
   | some u =>
    have ne:e1≠a:=λy=>(by rw [y,fl.un] at z;cases z);obtain ⟨ob,eo⟩:=CC (I7.hok e1 u (by rw [Ac ne];exact z));rw [en] at eo;cases eo
  exact ⟨σ,H1,e1,.ref D,none,none,false,rfl,I9.aac.aaf λp hp=>absurd hp (by simp),⟨e0',un,_,_,he1,rfl,rfl,by simp,rfl,(λz=>by cases z),rfl⟩,q4⟩
end
end L2
namespace PySem
open PySem.W (Looks looks_findIn findIn Frag)
section
variable {prog:Program}{w:World}{A:Around}{E:Value->Shared->Prop}{h:Heap}{g:Array GenState}{d:Drawn}{t:Nat}{os:OsState}{a dx:Addr}{o:Obj}{K:Frag}
 {nm q:Str} {C N:Addr} {bs bm Bw:List Value} {hdct:Bool} {sn:List Str} {sub:List Value} {ab:Bool} {col:Option Bool} {dd:Option Addr} {k0 k1 k2 k3 k5:Option Value} {newId:String} {name:Str} {v:Value} {mA:Str->Option Value}
theorem QJ {tk:Tok}{Q:Fin->Shared->Prop}{fv:Array Value}{sl:Array (Option Value)}(X:K.In h)(hC:h.get? C=some (excClassObj nm q C N bs bm true sn sub ab col dd k0 k1 k2 k3 k5 newId))
  (en:findIn K (.ref C) name=some none) (hx:h.get? a=some ⟨.ref C,some dx,.fields fv,sl⟩) (hn:h.Ns dx mA) (hv:mA name=some v) (hq:Q (.done (.ret v)) ⟨h,g,d,t,os⟩) :
  wpAny (model prog w) A (Builtin.«object.__getattribute__» ⟨[.ref a,.str name tk],[]⟩) Q E ⟨h,g,d,t,os⟩:=by
 have L:=looks_findIn (M:=model prog w) X en
 repeat (any_goals (first | assumption | with_reducible refine wpAny_loadPart_at hx ?_ | with_reducible refine W.Looks.at L ?_ | (with_reducible refine wpAny_nsGet hn ?_;rw [hv]) | wp_step))
theorem TC {Q:Value->Shared->Prop}{fv:Array Value}{sl:Array (Option Value)}(X:K.In h)(hC:h.get? C=some (excClassObj nm q C N bs bm true sn sub ab col dd k0 k1 k2 k3 k5 newId))(hB:bm.contains (.type "BaseException")=true)
  (en:findIn K (.ref C) name=some none) (eg:findIn K (.ref C) "__getattribute__"=some (some (.builtin "BaseException.__getattribute__"))) (ea:findIn K (.ref C) "__getattr__"=some none)
  (hx:h.get? a=some ⟨.ref C,some dx,.fields fv,sl⟩) (hn:h.Ns dx mA) (hv:mA name=some v) (nb:∀ id,v≠.builtin id) (hq:∀ t',Q v ⟨h,g,d,t',os⟩):wpAny (model prog w) A (getAttr (.ref a) name true) Q E ⟨h,g,d,t,os⟩:=by
 have L1:=looks_findIn (M:=model prog w) X eg;have L2:=looks_findIn (M:=model prog w) X ea;have f3:=F.attrBase_ValueError.ga.bind (.ref a);have dU:(Value.builtin "BaseException.__getattribute__"==Value.builtin "object.__getattribute__")=false:=by decide +kernel
 have dS:(onTheHeap (Value.ref C) && Value.builtin "BaseException.__getattribute__"==Value.builtin "object.__getattribute__")=false:=by rw [dU];rfl
 have zQ:(true && onTheHeap (Value.builtin "BaseException.__getattribute__"))=false:=rfl;have hk:builtinKind "BaseException.__getattribute__"=some .slot:=by decide +kernel
 have KL:splitId "BaseException.__getattribute__"=some ("BaseException","__getattribute__"):=by decide +kernel
 have Nt:(Value.ref C::bm).contains (.type "BaseException")=true:=by rw [List.contains_cons,hB];rfl
 have nH:∀ (E4:Value) {Q:Unit->Shared->Prop} {E:Value->Shared->Prop} {A:Around} {t:Nat},Q .unit ⟨h,g,d,t,os⟩->wpAny (model prog w) A (checkBuiltinCall "BaseException.__getattribute__" ⟨[.ref a,E4],[]⟩) Q E ⟨h,g,d,t,os⟩:=by
  intro E4 Q E A t hq;have ha:=F.args_bexc_ga (.ref a) E4;simp only [checkBuiltinCall,hk,KL];refine wpAny_bind ?_
  ·unfold isInstance
   repeat (first | with_reducible refine wpAny_loadPart_at hx ?_ | (with_reducible refine wpAny_isSubtype_exc hC ?_;rw [Nt]) | wp_step)
   exact hq
 unfold getAttr getAttrBy
 repeat (any_goals (first | assumption | with_reducible refine wpAny_loadPart_at hx ?_ | with_reducible refine W.Looks.at L1 ?_ | with_reducible refine W.Looks.at L2 ?_ | wp_step))
 refine codeAny_call_builtin F.attrBase_ValueError.ga.plain F.entry_bexc_ga (nH _ (QJ X hC en hx hn hv ?_))
 repeat (any_goals (first | assumption | wp_step))
 cases v <;> first | exact wpAny_pure (hq _) | exact absurd rfl (nb _)
end
end PySem
namespace L2
open PySem PySem.Spec PyProof.Rows
open PySem.W (excIn findIn kitOne kitAny KitX)
noncomputable def qX (K:W.Frag)(C:Addr)(Bw:List Value):Prop:=(∃ newId,excIn K C Bw newId=true)\/∃ newId fI,DZ K C Bw newId fI=true
theorem IZ {K:W.Frag}{h:Heap}{C:Addr}{Bw:List Value}(X:K.In h)(q:qX K C Bw):
  ∃ (nm qn:Str) (N:Addr) (bs bm:List Value) (hdct:Bool) (sn:List Str) (sub:List Value) (ab:Bool) (col:Option Bool) (dd:Option Addr) (k0 k1 k2 k3 k5:Option Value) (newId:String),
   h.get? C=some (excClassObj nm qn C N bs bm hdct sn sub ab col dd k0 k1 k2 k3 k5 newId)/\OwnTail h Bw bm/\FF K C=Value.ref C::bm:=by
 rcases q with ⟨n,q⟩ | ⟨n,fI,q⟩
 ·obtain ⟨nm,qn,N,bs,bm,hdct,sn,sub,ab,col,dd,k0,k1,k2,k3,k5,h⟩:=DP X q;exact ⟨nm,qn,N,bs,bm,hdct,sn,sub,ab,col,dd,k0,k1,k2,k3,k5,n,h⟩
 ·obtain ⟨nm,qn,N,bs,bm,sn,sub,ab,col,dd,k0,k1,k2,k3,k5,mN,h1,_,_,h2,h3⟩:=D' X q;exact ⟨nm,qn,N,bs,bm,true,sn,sub,ab,col,dd,k0,k1,k2,k3,k5,n,h1,h2,h3⟩
noncomputable def EO (a:Addr)(cls:Value)(dz:Option Addr):HO:=.ext λh=>∃ fv sl,h.get? a=some ⟨cls,dz,.fields fv,sl⟩
theorem EO.ok {P:Program}{w:World}{H:Hp}{h:Heap}{a:Addr}{cls:Value}{dz:Option Addr}{o:Obj}{fv:Array Value}(e:h.get? a=some o)(hc:o.cls=cls)(hd:o.dict=dz)(hf:o.data=.fields fv):AN P w H h a (EO a cls dz):=by
 obtain ⟨oc,od,yH,LS⟩:=o;dsimp only at hc hd hf;subst hc hd hf;exact ⟨⟨fv,LS,e⟩,⟨_,e⟩,λh1 h2 ⟨fv',cC,e'⟩ k=>⟨fv',cC,k _ e'⟩⟩
structure O7 (K:W.Frag)(C:Addr)(Bw:List Value):Prop where
 ex:qX K C Bw
 ob:Bw.contains (.type "object")=true
 be:Bw.contains (.type "BaseException")=true
 ec:findIn K (.ref C) "__class__"=some (some (.builtin "object.__class__"))
 eg:findIn K (.ref C) "__getattribute__"=some (some (.builtin "BaseException.__getattribute__"))
 ea:findIn K (.ref C) "__getattr__"=some none
theorem JY {K:W.Frag}{C a:Addr}{Bw:List Value}(Z:O7 K C Bw):KitX K (.ref a) (.ref C) (λh=>∃ o,h.get? a=some o/\o.cls=.ref C) where
 ty:=λM h _ ⟨o,h1,h2⟩=>by
  exact h2▸(W.Looks.ld h1).andThen .now
 it:=λM h X _=>by
  obtain ⟨nm,qn,N,bs,bm,hdct,sn,sub,ab,col,dd,k0,k1,k2,k3,k5,n,hC,hT,hm⟩:=IZ X Z.ex;intro A' Q' E' s' k q;unfold isType loadHead;exact wpAny_bind (wpAny_loadPart (k _ _ hC) (wpAny_pure q))
 ne:=λh tp dd its n sl X yN=>by
  obtain ⟨nm,qn,N,bs,bm,hdct,sn,sub,ab,col,Nd,k0,k1,k2,k3,k5,_,hC,hT,hm⟩:=IZ X Z.ex;refine Bool.eq_false_iff.mpr λq=>?_;have e:C=tp:=Value.ref.inj (beq_iff_eq.mp q);subst e;rw [hC] at yN;have z:=congrArg Obj.data (Option.some.inj yN);cases z
 ca:=λ{prog w A E Q s} X ⟨o,h1,h2⟩ k=>by
  obtain ⟨nm,qn,N,bs,bm,hdct,sn,sub,ab,col,Nd,k0,k1,k2,k3,k5,_,hC,hT,hm⟩:=IZ X Z.ex;obtain ⟨hh,g,d,t,os⟩:=s;exact Sm X hC (hT.hasType Z.ob) (hT.hasType Z.be) Z.ec Z.eg Z.ea h1 h2 k
section
variable {X:Cx}
noncomputable def qY (K:W.Frag):List V->Hp->VK->Prop:=λxs H Q=>∃ x v c b,xs=[x,v]/\dY v=some c/\((∃ a C Bw dz,x=.ref a/\H a=some (EO a (.ref C) dz)/\O7 K C Bw/\kitOne K (.ref C) c=some b)\/∃ t,Dm K H x t/\kitOne K t c=some b)/\Q (.bl b) H
theorem JZ:DB X (.builtin "isinstance") (qY X.K):=by
 intro pins s σ H xs us Q I r h;obtain ⟨x,v,c,b,rfl,hv,h,q⟩:=h;obtain ⟨u,u',rfl,ru,WK⟩:=vals2 r;have hc:u'=c:=by
  cases v <;> simp only [dY] at hv <;> cases hv <;> exact WK
 subst hc;rcases h with ⟨a,C,Bw,dz,rfl,ha,Z,e⟩ | ⟨t,ty,e⟩
 ·obtain rfl:u=Value.ref a:=ru;obtain ⟨⟨fv,sl,h1⟩,_⟩:=(show AN X.prog X.w H s.heap a (EO a (.ref C) dz) from I.hok a _ ha);exact W.kia_one (JY Z) I.kIn ⟨_,h1,rfl⟩ e (λz=>nomatch z) λtk=>⟨.bl b,H,I.tok tk,rfl,q⟩
 ·exact HI I ru ty e λtk=>⟨.bl b,H,I.tok tk,rfl,q⟩
noncomputable def iu (K:W.Frag):List V->Hp->VK->Prop:=λxs H Q=>∃ (a C:Addr) (Bw:List Value) (dz:Option Addr) (p:Addr) (ds:List Addr) (b:Bool),xs=[.ref a,.ref p]/\H p=some (.tup (ds.map V.ref))/\H a=some (EO a (.ref C) dz)/\O7 K C Bw/\kitAny K (.ref C) (ds.map Value.ref)=some b/\Q (.bl b) H
theorem O8:DB X (.builtin "isinstance") (iu X.K):=by
 intro pins s σ H xs us Q I r h;obtain ⟨a,C,Bw,dz,p,ds,b,rfl,hp,ha,Z,e,q⟩:=h;obtain ⟨u,u',rfl,ru,WK⟩:=vals2 r;obtain rfl:u=Value.ref a:=ru;obtain rfl:u'=Value.ref p:=WK;obtain ⟨_,its,rv,o,h1,h2,n,h3⟩:=(show AN X.prog X.w H s.heap p (.tup (ds.map V.ref)) from I.hok p _ hp);obtain ⟨oc,od,da,LS⟩:=o;simp only at h2 h3;subst h2 h3;have ei:its=ds.map Value.ref:=HZ rv;subst ei;obtain ⟨⟨fv,sl,h5⟩,_⟩:=(show AN X.prog X.w H s.heap a (EO a (.ref C) dz) from I.hok a _ ha);exact W.kia_tup (JY Z) I.kIn ⟨_,h5,rfl⟩ h1 e (λz=>nomatch z) λtk=>⟨.bl b,H,I.tok tk,rfl,q⟩
noncomputable def qZ (C:Addr)(ta:TE)(f:Str):TE:=fun σ H Q=>ta σ H λx H1=>∃ a dx y,x=.ref a/\H1 a=some (EO a (.ref C) (some dx))/\H1 dx=some (.xd [(f,.str y)])/\Q (.str y) H1
theorem iw {C fI:Addr}{Bw:List Value}{newId:String}{e:Expr}{ta:TE}{f:Str}{pos:Pos}(q:DZ X.K C Bw newId fI=true)(Z:O7 X.K C Bw)(en:findIn X.K (.ref C) f=some none)(he:SE X e ta)(hb:attributeBase e f X.env (eval e X.env)=eval e X.env:=by rfl):SE X (.Attribute e f pos) (qZ C ta f):=⟨by
 intro pins s σ H Q I h;refine LO hb (AY (he.out pins s σ H _ I h) λu s1 AE=>?_);obtain ⟨x,H1,I1,rx,a,dx,y,ex,ea,ed,q1⟩:=AE;subst ex;obtain rfl:u=Value.ref a:=rx;obtain ⟨nm,qn,N,bs,bm,sn,sub,ab,col,dd,k0,k1,k2,k3,k5,mN,hC,_,_,hT,_⟩:=D' I1.kIn q;obtain ⟨⟨fv,sl,h1⟩,_⟩:=(show AN X.prog X.w H1 s1.heap a (EO a (.ref C) (some dx)) from I1.hok a _ ea);obtain ⟨mA,hn,hr⟩:=(show AN X.prog X.w H1 s1.heap dx (.xd [(f,.str y)]) from I1.hok dx _ ed);have hf:=hr f;simp only [List.lookup,beq_self_eq_true] at hf;obtain ⟨v,hv,rv⟩:∃ v,mA f=some v/\RelV (.str y) v:=by
  cases z:mA f with
  | none=>rw [z] at hf;exact hf.elim
  | some v=>rw [z] at hf;exact ⟨v,rfl,hf⟩
 obtain ⟨tk,rfl⟩:∃ tk,v=Value.str y tk:=rv;obtain ⟨hp,g,d,t,os⟩:=s1;exact TC I1.kIn hC (hT.hasType Z.be) en Z.eg Z.ea h1 hn.ns hv (λid z=>by cases z) λt'=>⟨.str y,H1,I1.tok t',⟨tk,rfl⟩,q1⟩⟩
end
end L2
namespace L2
open PySem PySem.Spec PyProof.Rows
open PySem.W (excIn)
noncomputable def XP2 (X:Cx)(pins:List (Addr × Obj))(σ:St)(E:XK)(ex:Value)(s':Shared):Prop:=∃ h0 H' a cls z dz c,ex=.ref a/\Inv X pins σ H' s'/\Sk X pins h0/\Fl h0 H' a cls s'.heap z dz c/\(∀ b o,h0.get? b=some o->∃ o',s'.heap.get? b=some o')/\E cls dz H'
structure iz (X:Cx)(e:Expr)(t:XK->TE):Prop where
 out:∀ (E:XK) (pins:List (Addr × Obj)) (s:Shared) (σ:St) (H:Hp) (Q:VK),Inv X pins σ H s->t E σ H Q->wpAny (model X.prog X.w) X.A (eval e X.env) (EP X pins σ Q) (XP2 X pins σ E) s
section
variable {X:Cx}{k:Nat}{f:Addr}{fd:FuncData}{ps:List Str}{sp:Sp}{x:Str}{e:Expr}{es:List Expr}{t:TA}{p pos:Pos}
theorem QK (hex:X.ex=[])(F:Av X.prog X.w X.K X.mg X.base (Tx X.prog X.w) k f fd ps sp)(hr:Am k X.A)(hg:Gl X x)(hm:X.mg x=some (.ref f))(hk:W.keepIn X.K (.ref f)=true)(hb:Binds X.K fd ps [])
  (ha:SA X.nox (e::es) t) (Cr:(x==("__debug__":Str))=false:=by decide) (he:starEach (e::es) X.env=(false,eval e X.env)::starEach es X.env:=by rfl) (CO:(backTo pos (starEach es X.env)).any (·.1)=false:=by rfl) :
  iz X (.Call (.Name x p) (e::es) [] pos) (λE=>EG sp [] E t):=⟨by
 intro E pins s σ H Q I h;refine wpAny_Call_Name_kw (Cu I hg hm ?_ Cr);have h0:=ha.out pos pins s σ H _ (I.aad _) h;refine W.callWith_K (h₀:=X.base) I.ok.mod.kin hk (wpAny_mono h0 (λus s1 q1=>?_) λ_ _ z=>z.elim) he CO;obtain ⟨vs,H1,I1,r1,q⟩:=q1;have I1:=I1.aac;refine ⟨I1.kIn,?_⟩;have hl:us.length=ps.length:=by rw [<- r1.length];have:=F.len _ _ _ _ q;simpa using this
 have hz:us++[]=us:=List.append_nil us;have Gy:=hb s1 us I1.kIn (by rw [hz];exact hl);rw [hz] at Gy;rw [show vs++[]=vs from List.append_nil vs] at q;show wpAny _ _ (call (.ref f) ([]++us)) _ _ _;refine wpAny_call (codeAny_mono (F.run X.A X.stack s1 H1 ⟨us,[]⟩ us vs Q E hr I1.abk Gy r1 q) λr s' hq=>?_);cases r with
 | ok fl =>
  cases fl with
  | ret u=>exact I1.after hq
  | next=>exact False.elim hq
  | brk=>exact False.elim hq
  | cont=>exact False.elim hq
 | error ex =>
  obtain ⟨H',a,cls,z,dz,c,rfl,os,bare,un,hok,fl,qq⟩:=hq;obtain ⟨hh,g,d,t',Wo⟩:=s';obtain rfl:Wo=s1.os:=os;exact ⟨s1.heap,H',a,cls,z,dz,c,rfl,I1.call (ch:=[]) un hok bare (λb z=>absurd z (by simp)),I1.ab4 hex,fl,λb o e=>un.there b o e (by simp),qq⟩⟩
end
noncomputable def iA (i j:Nat)(K:W.Frag)(C:Addr)(t:XK->TE)(ts:TS):TS:=λD σ H =>
 t (λcls dz H'=>∃ C2 bm,cls=.ref C2/\qX K C2 bm/\(FF K C2).contains (.ref C)=true/\∀ a,H' a=none ->
   ts { nx:=fun σ' Hf=>∃ v,σ'[j]?=some (some v)/\D.nx (σ'.set j none) Hf,rt:=λ_ _=>False } (σ.set j (some (.ref a))) (upd H' a (EO a cls dz))) σ H
  (λv H'=>D.nx (σ.set i (some v)) H')
section
variable {X:Cx}{i j:Nat}{x y n:Str}{C:Addr}{Bw:List Value}{newId:String}{e:Expr}{t:XK->TE}{b₀:Stmt}{Md:List Stmt}{ts:TS}{py apos np FG pos:Pos}
theorem Yq (B:Body X)(hN:X.N.Nodup)(hi:X.N[i]?=some y)(hy:Loc X.env.scope y)(hj:X.N[j]?=some n)(hn:X.env.scope.names.lookup n=some .local)(hg:Gl X x)(hm:X.mg x=some (.ref C))(hq:excIn X.K C Bw newId=true)(BM:Bw.contains (.type "BaseException")=true)
  (he:iz X e t) (hsu:∀ a,SB (X.aak a) (b₀::Md) ts) (hs:swapsWith e (some (.Name y py)) apos.line X.env=pure false:=by rfl) (hf:X.fn y=true\/X.env.scope.names.lookup y=some .local:=by first | exact .inl rfl | exact .inr rfl | assumption) (Cr:(x==("__debug__":Str))=false:=by decide) :
  SS X (.Try [.Assign [.Name y py] e apos] [.ExceptHandler (some (.Name x np)) (some n) (b₀::Md) FG] [] [] pos) (iA i j X.K C t ts):=⟨by
 intro pins s σ H D I h;refine wpAny_Try_except ?_;refine wpAny_execs_cons ?_;refine wpAny_Assign_Name (wpAny_mono (he.out _ pins s σ H _ I h) (λv s1 q1=>?_) λex s1 q1=>?_) hs
 ·obtain ⟨v',H1,I1,r1,q⟩:=q1;refine E8 I1 hN hi hy r1 (λs2 I2=>?_) hf;refine wpAny_execs_nil ?_;exact wpAny_execs_nil ⟨_,H1,I2,q⟩
 ·obtain ⟨h0,H1,a,cls,z,dz,c,rfl,I1,R,fl,th,C2,bm,rfl,q2,q3,q4⟩:=q1;have fr:=I1.stack;have F7:=I1.ok.frames;rw [B.stk] at fr F7;refine IC F7 fr B.frm (λb hb=>?_) (λb hb=>I1.hok.fresh hb) fl λh1 Si Np=>?_
  ·cases eb:h0.get? b with
   | none=>rfl
   | some o =>
    obtain ⟨o',e'⟩:=th b o eb;exact absurd (Nat.lt_of_lt_of_le (Heap.lt_size e') hb) (Nat.lt_irrefl _)
  rw [<- B.stk] at Si;have I2:=I1.aam (t':=s1.toks) R Si;refine Cd (s:={ s1 with heap:=h1 }) (env:=X.env) (outer:=X.outer) Np λh2 KH Nq=>?_;rw [<- B.stk] at KH;have I3:=I2.aam (t':=s1.toks) R KH;refine wpAny_handleBy_cons (codeAny_handlers_test (Cu (I3.aak a) hg hm ?_ Cr)) (by intro q;cases q);obtain ⟨nm,qn,N,bs,bmk,hdct,sn,sub,ab,col,dd,k0,k1,k2,k3,k5,hC,hT,hmC⟩:=DP I3.kIn hq;obtain ⟨nm',qn',N',bE,bm',ik,sn',qR,ab',qS,Nd,j0,j1,j2,j3,j5,Adt,Vc,Vi,Yp⟩:=IZ I3.kIn q2;obtain ⟨_,_,oe,vs,X1,qT,qU,_⟩:=id Nq;refine Eg hC (hT.hasType BM) Vc X1 qT (by rw [<- Yp];exact q3) ?_;refine codeAny_handlers_suite_as ?_;refine Cd (s:={ s1 with heap:=h2 }) (env:=X.env) (outer:=X.outer) Nq λh3 ip qV=>?_;rw [<- B.stk] at ip;have I4:=I3.aam (t':=s1.toks) R ip;obtain ⟨_,_,VB,yL,Lq,iq,Hj,_,rd,_⟩:=id qV;have I5:Inv X pins σ (upd H1 a (EO a (.ref C2) dz)) { s1 with heap:=h3,toks:=s1.toks }:=by
   refine I4.aah fl.un (R.ent a fl.new) (λz=>?_) (λx c hx z=>?_) (λp hp z=>?_) (EO.ok Lq iq rd Hj)
   ·obtain ⟨m,⟨o',es,ep,e',d',_⟩,_⟩:=I4.loc;rw [<- z,Lq] at e';cases e';rw [Hj] at d';cases d'
   ·obtain ⟨v,o',e',d'⟩:=I4.cell x c hx;rw [z,Lq] at e';cases e';rw [Hj] at d';cases d'
   ·obtain ⟨o',e'⟩:=R.pin p hp;rw [z,fl.new] at e';cases e'
  refine E8 (X:=X.aak a) (I5.aak a) hN hj (Or.inl hn) (v:=.ref a) rfl (λs6 I6=>?_) (.inr hn);refine wpAny_mono ((hsu a).out pins s6 _ _ _ I6 (q4 a fl.un)) (λf s7 q7=>?_) λ_ _ z=>z.elim;cases f with
  | next =>
   obtain ⟨σ7,H7,I7,v7,e7,n7⟩:=q7;have I8:=I7.aa8 I1.ok;have DL:j < σ7.length:=(List.getElem?_eq_some_iff.mp e7).1;refine wpAny_bind (wpAny_bindName (E8 I8 hN hj (Or.inl hn) (v:=.non) rfl (λs9 I9=>?_) (.inr hn)));unfold unbindBehindTheSuite;refine wpAny_onRaise (Nr I9 hN hj hn (v:=.non) (by rw [List.getElem?_set_self DL]) λVC yO=>?_);rw [List.set_set] at yO;exact ⟨_,H7,yO,n7⟩
  | brk=>obtain ⟨_,_,_,z⟩:=q7;exact z.elim
  | cont=>obtain ⟨_,_,_,z⟩:=q7;exact z.elim
  | ret u=>obtain ⟨_,_,_,_,_,z⟩:=q7;exact z.elim⟩
end
section
variable {X:Cx}{E:XK}{E':Value->Shared->Prop}
theorem QL {C fI:Addr}{Bw:List Value}{newId BI Bn:String}{x:Str}{np AR pos:Pos}{e:Expr}{t:TA}{k:Nat}{fd:FuncData}(B:Body X)(hE:∀ e s',EL X E e s'->E' e s')(hg:Gl X x)(hm:X.mg x=some (.ref C))(Z:i8 X.K C Bw newId fI)(F:ExcBaseFacts Bn newId BI Bw)
  (G:Av X.prog X.w X.K X.mg X.base Bs k fI fd ["self","name"] (QF C)) (bI:Binds X.K fd ["self","name"] []) (hr:Am (k+1) X.A) (hc:X.calm=true) (ha:SA (X.aad E') [e] t) (Cr:(x==("__debug__":Str))=false:=by decide)
  (he:starEach [e] X.env=(false,eval e X.env)::starEach [] X.env:=by rfl) (CO:(backTo AR (starEach [e] X.env)).any (·.1)=false:=by rfl) :
  SS (X.aad E') (.Raise (some (.Call (.Name x np) [e] [] AR)) none pos) (Mx C E t):=⟨O6 B hE hg hm Z F G bI hr hc ha.out Cr he CO⟩
end
section
variable {X:Cx}{E:XK}{x y:Str}{C D:Addr}{Bw ig:List Value}{newId newD QI qL:String}{e:Expr}{t:XK->TE}{Yn np FG yp AR QH Yo pos mp:Pos}{m:Str}{nk mk:Nat}
theorem Yr (B:Body X)(hg:Gl X x)(hm:X.mg x=some (.ref C))(hq:excIn X.K C Bw newId=true)(BM:Bw.contains (.type "BaseException")=true)(qO:Gl X y)(qP:X.mg y=some (.ref D))(qQ:excIn X.K D ig newD=true)(F:ExcBaseFacts qL newD QI ig)
  (he:wI (X.aad (C9 X E)) e t) (Cr:(x==("__debug__":Str))=false:=by decide) (Vx:(y==("__debug__":Str))=false:=by decide) (CO:(backTo AR (starEach [.Constant (.str m) mk mp] X.env)).any (·.1)=false:=by rfl)
  (Ho:starEach [.Constant (.str m) mk mp] X.env=(false,eval (.Constant (.str m) mk mp) X.env)::starEach [] X.env:=by rfl) :
  SS (X.aad (C9 X E)) (.Try [.Return (some e) Yn] [.ExceptHandler (some (.Name x np)) none [.Raise (some (.Call (.Name y yp) [.Constant (.str m) mk mp] [] AR)) (some (.Constant .none nk QH)) Yo] FG] [] [] pos) (VA X.K C D E t):=⟨TB B hg hm hq BM qO qP qQ F he.out Cr Vx CO Ho⟩
end
end L2
namespace KX
open PySem Ex
theorem Ys {e:Ex}:∀ {xs:List Str},e.fv xs=[]->e.cl xs:=by
 induction e with
 | nm x =>
  intro xs h;simp only [fv] at h;by_cases z:x∈xs
  ·exact z
  ·rw [if_neg z] at h;cases h
 | num _ | tru _ | emp=>exact λ_=>trivial
 | fn x b ih=>exact λh=>ih h
 | rc f x b ih=>exact λh=>ih h
 | cal a b ia ib | pr a b ia ib | lk a b ia ib | op _ a b ia ib=>intro xs h;have:=List.append_eq_nil_iff.mp h;exact ⟨ia this.1,ib this.2⟩
 | lt x a b ia ib=>intro xs h;have:=List.append_eq_nil_iff.mp h;exact ⟨ia this.1,ib this.2⟩
 | opn a x y b ia ib=>intro xs h;have:=List.append_eq_nil_iff.mp h;exact ⟨ia this.1,ib this.2⟩
 | wh a b c ia ib ic | spl a b _ _ c ia ib ic =>
  intro xs h;have h1:=List.append_eq_nil_iff.mp h;have h2:=List.append_eq_nil_iff.mp h1.2;exact ⟨ia h1.1,ib h2.1,ic h2.2⟩
end KX
namespace K
open PySem L2 KM KS KN KX
structure yP (K:W.Frag)(mg:Str->Option Value)(CJ CN CM fM:Addr)(bJ:List Value)(nJ iJ BJ:String):Prop where
 mJ:mg "NoJoin"=some (.ref CJ)
 mN:mg "NoKind"=some (.ref CN)
 mM:mg "NoName"=some (.ref CM)
 qJ:W.excIn K CJ bJ nJ=true
 qN:W.excIn K CN bJ nJ=true
 zM:i8 K CM bJ nJ fM
 fM:ExcBaseFacts BJ nJ iJ bJ
 fN:ExcBaseFacts BJ nJ iJ bJ
 be:bJ.contains (.type "BaseException")=true
 jj:(FF K CJ).contains (.ref CJ)=true
section
variable {Pr:Program}{w:World}{K:W.Frag}{mg:Str->Option Value}{base:Heap}{C CF CJ CN CM fM:Addr}{bJ:List Value}{nJ iJ BJ:String}
theorem rf:Ak ["self","name"] ["self","name"] (Af B2):=nofun
theorem iB {f:Addr}{fd:FuncData}(F:B' K "__init__" "NoName.__init__" B2 f fd)(SF:StoreFacts "ValueError" bJ "object.__setattr__" "object")(Z:i8 K CM bJ nJ fM):Av Pr w K mg base Bs 1 f fd ["self","name"] (QF CM):=by
 refine F.okS rf (λvs H Q E h=>?_) (λB7 A0 outer s0 H vs Q E hr h=>?_)
 ·obtain ⟨a,t,v,rfl,_⟩:=h;rfl
 ·obtain ⟨a,t,v,rfl,ha,q⟩:=h;refine ⟨_,(Aj (Ym SF rfl Z.ex Z.es Z.en (Ah 0) (Ah 1))),?_⟩;exact ⟨_,rfl,_,rfl,a,t,rfl,ha,λdx h1 h2=>q dx h1 h2⟩
noncomputable def Yt:Sp:=λvs H Q _=>∃ (e:Ex) (rt:V),vs=[rt]/\Bo H e rt/\e.sz<=400000/\(e.fv []=[]->∀ H',Ai H H'->Q .non H')/\∀ x r,e.fv []=x::r->∀ H',Ai H H'->Q (.str x) H'
theorem iC:Ak ["tree","missing"] ["tree"] (Af BO):=nofun
theorem iD {f:Addr}{fd:FuncData}(F:B' K "first_missing_name" "first_missing_name" BO f fd)(rg:Cl Pr w K mg base 3 "missing_names" ["tree"] Yj):Av Pr w K mg base Bs 4 f fd ["tree"] Yt:=by
 refine F.okS iC (λvs H Q E h=>?_) (λB7 A0 outer s0 H vs Q E hr h=>?_)
 ·obtain ⟨e,rt,rfl,_⟩:=h;rfl
 ·obtain ⟨e,rt,rfl,he,hz,q1,q2⟩:=h;have J8:Am 3 _:=hr;refine ⟨_,(Ag (Au (i:=1) iC.nd rfl (.inl rfl) (CW rg J8 rfl (Aa (Ah 0) Ae)))
   (Aj (B9 (KC (C5 (Ah 1)) (BG (r:=DC K) Ay (Ah 1) Aq D1) GC)))),?_⟩
  apply ⟨e,rt,rfl,he,hz,λl H1 s1 hl=>?_⟩;apply ⟨_,.inl ⟨_,AO.of hl,rfl⟩,?_⟩;cases ef:e.fv [] with
  | nil =>
   refine Ck ?_;exact q1 ef H1 s1
  | cons x r =>
   rw [ef] at hl;refine Cm ?_;apply Xe (AO.of hl) (v:=.str x) (Ar (j:=0) rfl) ?_;exact q2 x r ef H1 s1
noncomputable def iE (CN CM:Addr):Sp:=λvs H Q E=>∃ (e:Ex) (rt:V),vs=[rt]/\Bo H e rt/\e.sz<=300000/\cost 0 e<=700000/\(∀ x r,e.fv []=x::r->∀ H' dx,TSub H H'->H' dx=some (.xd [("name",.str x)])->E (.ref CM) (some dx) H') /\
 (e.fv []=[]->(∀ v H',TSub H H'->Wd H' v->Q v H')/\∀ H',TSub H H'->E (.ref CN) none H')
theorem iF:Ak ["tree","missing"] ["tree"] (Af FK):=nofun
theorem iG {f fW:Addr}{fd yQ yR:FuncData}(F:B' K "kind_of" "kind_of" FK f fd)(Wq:yP K mg CJ CN CM fM bJ nJ iJ BJ)(GM:Av Pr w K mg base Bs 1 fM yR ["self","name"] (QF CM))(bM:Binds K yR ["self","name"] [])
  (rh:Cl Pr w K mg base 4 "first_missing_name" ["tree"] Yt) (GW:Av Pr w K mg base (De Pr w) 8 fW yQ ["tree"] (gU CJ)) (mW:mg "widest"=some (.ref fW)) (kW:W.keepIn K (.ref fW)=true) (bW:Binds K yQ ["tree"] []):Av Pr w K mg base (Tx Pr w) 9 f fd ["tree"] (iE CN CM):=by
 refine F.ab9 iF (λvs H Q E h=>?_) (λB7 A0 outer s0 H vs Q E hr h=>?_)
 ·obtain ⟨e,rt,rfl,_⟩:=h;rfl
 ·obtain ⟨e,rt,rfl,he,hz,hc,q1,q2⟩:=h;have DI:Am 2 _:=hr.mono ⟨⟩;have Hz:Am 4 _:=hr.mono ⟨⟩;have hr8:Am 8 _:=hr;refine ⟨_,(Ag (Au (i:=1) iF.nd rfl (.inl rfl) (CW rh Hz rfl (Aa (Ah 0) Ae)))
   (Ag (BY (B1 LN (Ah 1) GC (AF _)) (Aj (QL Cg (λ_ _ h=>h.two) rfl Wq.mM Wq.zM Wq.fM GM bM DI rfl (Aa (Ah 1) Ae))) BN)
   (Aj (Yr Cg rfl Wq.mJ Wq.qJ Wq.be rfl Wq.mN Wq.qN Wq.fN (Sl rfl GW hr8 rfl mW kW bW (Aa (Ah 0) Ae)))))),?_⟩
  apply ⟨e,rt,rfl,he,(),λef H1 s1=>?_,λx r ef H1 s1=>?_⟩
  ·apply ⟨rfl,_,rfl,?_⟩;refine Ck ?_;obtain ⟨q3,q4⟩:=q2 ef;refine ⟨_,rfl,e,rt,rfl,Bo.mono (TSub.of_same s1) he,Ys ef,hz,hc,λv H' t' wv=>q3 v H' ((TSub.of_same s1).trans t') wv,λH' t'=>⟨⟨CJ,bJ,nJ,rfl,Wq.qJ,Wq.jj⟩,q4 H' ((TSub.of_same s1).trans t')⟩⟩
  ·apply ⟨rfl,_,rfl,?_⟩;refine Cm ?_;refine ⟨_,rfl,_,rfl,λdx Tw=>q1 x r ef _ dx ((TSub.of_same s1).trans (TSub.of_same (Ai.new Tw))) Ad⟩
end
structure yS (K:W.Frag)(mg:Str->Option Value)(CK CJ CN CM CS fM:Addr)(bJ:List Value)(nJ:String):Prop where
 mK:mg "KindError"=some (.ref CK)
 mJ:mg "NoJoin"=some (.ref CJ)
 mN:mg "NoKind"=some (.ref CN)
 mM:mg "NoName"=some (.ref CM)
 mS:mg "Stuck"=some (.ref CS)
 mI:mg "isinstance"=none
 qK:W.excIn K CK bJ nJ=true
 be:bJ.contains (.type "BaseException")=true
 qM:DZ K CM bJ nJ fM=true
 zM:O7 K CM bJ
 zN:O7 K CN bJ
 en:W.findIn K (.ref CM) "name"=some none
 sM:(FF K CM).contains (.ref CK)=true
 sN:(FF K CN).contains (.ref CK)=true
 iMM:W.kitOne K (.ref CM) (.ref CM)=some true
 iNM:W.kitOne K (.ref CN) (.ref CM)=some false
 iNN:W.kitOne K (.ref CN) (.ref CN)=some true
 iNT:W.kitAny K (.ref CN) [.ref CJ,.ref CS]=some false
 i0M:W.kitOne K (.type "NoneType") (.ref CM)=some false
section
variable {Pr:Program}{w:World}{K:W.Frag}{mg:Str->Option Value}{base:Heap}{CK CJ CN CM CS fM:Addr}{bJ:List Value}{nJ:String}
noncomputable def Yu:Sp:=λvs H Q _=>∃ (e:Ex) (rt:V),vs=[rt]/\Bo H e rt/\e.sz<=300000/\cost 0 e<=700000/\(∀ x r,e.fv []=x::r->∀ p H',TSub H H'->H' p=some (.tup [.str "no name",.str x])->Q (.ref p) H') /\
 (e.fv []=[]->(∀ v H',TSub H H'->Wd H' v->Q v H')/\∀ H',TSub H H'->Q (.str "no") H')
theorem QM:Ak ["_law_tree","_law_kept","_law_found","e"] ["_law_tree"] (Af Ct):=nofun
theorem iH {f fG:Addr}{fd yT:FuncData}(F:B' K "_law_kind_told" "_law_kind_told" Ct f fd)(Z:yS K mg CK CJ CN CM CS fM bJ nJ)(G:Av Pr w K mg base (Tx Pr w) 9 fG yT ["tree"] (iE CN CM))(mG:mg "kind_of"=some (.ref fG))(kG:W.keepIn K (.ref fG)=true)(bG:Binds K yT ["tree"] []):Av Pr w K mg base Bs 10 f fd ["_law_tree"] Yu:=by
 refine F.okS QM (λvs H Q E h=>?_) (λB7 A0 outer s0 H vs Q E hr h=>?_)
 ·obtain ⟨e,rt,rfl,_⟩:=h;rfl
 ·obtain ⟨e,rt,rfl,he,hz,hc,q1,q2⟩:=h;refine ⟨_,(Ag (Au (i:=1) QM.nd rfl (.inl rfl) GC)
   (Ag (Au (i:=2) QM.nd rfl (.inl rfl) GC)
   (Ag (Yq (i:=2) (j:=3) ⟨rfl,rfl,rfl,rfl⟩ QM.nd rfl (.inl rfl) rfl rfl rfl Z.mK Z.qK Z.be (QK rfl G hr rfl mG kG bG (Aa (Ah 0) Ae)) (λa=>Aj (Au (i:=1) QM.nd rfl (.inl rfl) (Ah 3))))
   (Ag (BY (Jr (C6 (JZ) rfl Z.mI PyProof.Rows.boot_isinstance (Aa (Ah 1) (Aa (ID (v:=.ref CM) rfl Z.mM rfl) Ae)))) (Aj (B9 (Bi (Aa Aw (Aa (iw Z.qM Z.zM Z.en (Ah 1)) Ae))))) BN)
   (Ag (BY (B1 LN (Ah 1) GC rfl) (Aj (B9 (KC (WO (w_and (Jr (C6 (JZ) rfl Z.mI PyProof.Rows.boot_isinstance (Aa (Ah 1) (Aa (ID (v:=.ref CN) rfl Z.mN rfl) Ae)))) (GD (V8 (Jr (C6 (O8) rfl Z.mI PyProof.Rows.boot_isinstance (Aa (Ah 1) (Aa (Bi (Aa (ID (v:=.ref CJ) rfl Z.mJ rfl) (Aa (ID (v:=.ref CS) rfl Z.mS rfl) Ae))) Ae)))))))) Aw Aw))) BN)
   (Aj (B9 (Ah 2)))))))),?_⟩
  have ts:∀ {H':Hp} {a:Addr} {o:HO},H' a=none->TSub H' (upd H' a o):=λh=>TSub.of_same (Ai.new h);refine ⟨_,rfl,e,rt,rfl,he,hz,hc,λx r ef H' dx t' Tw=>?_,λef=>⟨λv H' t' wv=>?_,λH' t'=>?_⟩⟩
  ·refine ⟨CM,bJ,rfl,Z.zM.ex,Z.sM,λa ha=>?_⟩;refine ⟨_,rfl,_,rfl,?_⟩;have ed:(upd H' a (EO a (.ref CM) (some dx))) dx=some (.xd [("name",.str x)]):=(by rw [Ac (Ab Tw ha)];exact Tw);refine ⟨_,rfl,_,.ref CM,.ref CM,true,rfl,rfl,.inl ⟨a,CM,bJ,some dx,rfl,Ad,Z.zM,Z.iMM⟩,_,rfl,Cm ?_⟩;refine ⟨_,rfl,a,dx,x,rfl,Ad,ed,BZ (Nat.le_of_ble_eq_true rfl),λp hp=>?_⟩;exact q1 x r ef p _ (t'.trans ((ts ha).trans (ts hp))) Ad
  ·refine ⟨_,rfl,_,.ref CM,.ref CM,false,rfl,rfl,.inr ⟨_,Dm.non,Z.i0M⟩,_,rfl,Ck ?_⟩;refine ⟨_,rfl,rfl,_,rfl,Ck ?_⟩;exact ⟨_,rfl,(q2 ef).1 v H' t' wv⟩
  ·refine ⟨CN,bJ,rfl,Z.zN.ex,Z.sN,λa ha=>?_⟩;refine ⟨_,rfl,_,rfl,?_⟩;refine ⟨_,rfl,_,.ref CM,.ref CM,false,rfl,rfl,.inl ⟨a,CN,bJ,none,rfl,Ad,Z.zN,Z.iNM⟩,_,rfl,Ck ?_⟩;refine ⟨_,rfl,rfl,_,rfl,Cm ?_⟩;refine ⟨_,rfl,_,.ref CN,.ref CN,true,rfl,rfl,.inl ⟨a,CN,bJ,none,rfl,Ad,Z.zN,Z.iNN⟩,_,rfl,Cm ?_⟩;refine ⟨_,rfl,BZ (Nat.le_of_ble_eq_true rfl),λp hp=>⟨a,CN,bJ,none,p,[CJ,CS],false,rfl,Ad,Ai.new hp _ _ Ad,Z.zN,Z.iNT,_,rfl,Cm ?_⟩⟩;exact (q2 ef).2 _ (t'.trans ((ts ha).trans (ts hp)))
end
end K
namespace K
open PySem L2 KM KS
section
variable {Pr:Program}{w:World}{K:W.Frag}{mg:Str->Option Value}{base:Heap}
noncomputable def QN (K:W.Frag):Sp:=λvs H Q _=>∃ (a:Addr) (ns:List Int) (k:Int),vs=[.ref a,.int k]/\AO K H a (ns.map V.int)/\∀ n,Q (.int n) H
theorem Yv:Ak ME ME (Af PY):=nofun
theorem TH {f:Addr}{fd:FuncData}(F:B' K "_law_cell" "_law_cell" PY f fd)(rj:mg "len"=none):Av Pr w K mg base Bs 1 f fd ME (QN K):=by
 refine F.ok Yv (λvs H Q E h=>?_) (λB7 A outer s H vs Q E hr h=>?_)
 ·obtain ⟨a,ns,k,rfl,_⟩:=h;rfl
 ·obtain ⟨a,ns,k,rfl,hs,q⟩:=h;refine ⟨_,F9 (US (Jd (pv 0) (λ_=>rfl)) (G7 (Io (V2 Ay (pv 0) (E1 BW (pv 1) (Jh BB (by rfl) rj PySem.boot_len (Fb (pv 0) Iq))) D1))) LH) (G7 (Io CP)),?_⟩;refine ⟨_,rfl,!(ns.map V.int).isEmpty,.inl ⟨_,hs,rfl⟩,?_⟩;cases ns with
  | nil=>exact Ck (q _)
  | cons n ns =>
   refine Cm ?_;have FG:(0:Int) < (((n::ns).map V.int).length:Nat):=(by simp);refine ⟨_,rfl,_,rfl,_,rfl,a,_,rfl,.inl hs,_,_,rfl,rfl,FG,?_⟩;obtain ⟨v,hv,hm⟩:=PF (xs:=(n::ns).map V.int) (i:=k % (((n::ns).map V.int).length:Int)) (Int.emod_nonneg _ ()) (Int.emod_lt_of_pos _ FG);obtain ⟨z,_,rfl⟩:=List.mem_map.mp hm;exact ⟨a,_,_,_,rfl,rfl,hs,hv,q z⟩
noncomputable def Ik (K:W.Frag):Sp:=λvs H Q _=>∃ (a:Addr) (ns:List Int) (k:Int),vs=[.ref a,.int k]/\AO K H a (ns.map V.int)/\∀ n,0<=n->Q (.int n) H
theorem QO:Ak ["_law_script","_law_k","_law_number"] ME (Af Xh):=nofun
theorem Yw {f fC:Addr}{fd yU:FuncData}(F:B' K "_law_mix" "_law_mix" Xh f fd)(G:Av Pr w K mg base Bs 1 fC yU ME (QN K))(kC:W.keepIn K (.ref fC)=true)(bC:Binds K yU ME [])(mC:mg "_law_cell"=some (.ref fC)):Av Pr w K mg base Bs 2 f fd ME (Ik K):=by
 refine F.ok QO (λvs H Q E h=>?_) (λB7 A outer s H vs Q E hr h=>?_)
 ·obtain ⟨a,ns,k,rfl,_⟩:=h;rfl
 ·obtain ⟨a,ns,k,rfl,hs,q⟩:=h;refine ⟨_,F9 (Kg (i:=2) QO.nd rfl (.inl rfl) (E1 BW (E1 D9 (LQ G hr rfl mC kC bC .nil Jp (Fb (pv 0) (Fb (pv 1) Iq))) (E1 Dw CP (E1 D9 (pv 1) CP))) CP))
   (F9 (Kg (i:=2) QO.nd rfl (.inl rfl) (E1 BW (E1 Dw (pv 2) CP) CP))
   (G7 (Io (E1 BW (E1 D9 (E1 Dw (E1 Cf (pv 2) CP) CP) (pv 2)) CP)))),?_⟩
  refine ⟨_,rfl,_,rfl,a,ns,k,rfl,hs,λn=>⟨_,rfl,_,_,rfl,rfl,_,_,rfl,rfl,.inl ⟨⟨⟩,⟨⟩⟩,_,_,rfl,rfl,_,_,rfl,rfl,(by show (0:Int) < 4294967291;decide),?_⟩⟩;refine ⟨_,rfl,_,_,rfl,rfl,.inr ⟨⟨⟩,⟨⟩⟩,_,_,rfl,rfl,(by show (0:Int) < 4294967279;decide),?_⟩;refine ⟨_,rfl,_,_,rfl,rfl,⟨⟨⟩,⟨⟩⟩,_,_,rfl,rfl,.inr ⟨⟨⟩,⟨⟩⟩,_,rfl,_,_,rfl,rfl,_,_,rfl,rfl,(by show (0:Int) < 4294967231;decide),?_⟩;exact q _ (Int.emod_nonneg _ ⟨⟩)
end
open KX
section
variable {Pr:Program}{w:World}{K:W.Frag}{mg:Str->Option Value}{base:Heap}
noncomputable def My:Sp:=λvs H Q _=>∃ m:Int,vs=[.int m]/\∀ i H',Ai H H'->Q (.int i) H'
theorem VD:Ak ["_law_number","_law_some"] ["_law_number"] (Af F2):=nofun
theorem Yx {f:Addr}{fd:FuncData}(F:B' K "_law_int" "_law_int" F2 f fd):Av Pr w K mg base Bs 1 f fd ["_law_number"] My:=by
 refine F.okS VD (λvs H Q E h=>?_) (λB7 A outer s H vs Q E hr h=>?_)
 ·obtain ⟨m,rfl,_⟩:=h;rfl
 ·obtain ⟨m,rfl,q⟩:=h;refine ⟨_,(Ag (Au (i:=1) VD.nd rfl (.inl rfl) (AU (Aa Aq (Aa Aq (Aa (Xl Ip Aq) (Aa Aq (Aa Aq (Aa (AX Fx (AX OO Aq Aq) Aq) (Aa (AX Fx Aq (AX OO Aq Aq)) (Aa (AX BW (Ah 0) Aq) Ae))))))))))
   (Aj (B9 (BG (r:=DC K) Ay (Ah 1) (AX BW (AX Cf (Ah 0) Aq) Aq) D1)))),?_⟩
  left;intros l H2 s2 e2;apply EC (AO.of e2) (Int.emod_nonneg _ ⟨⟩) (Int.emod_lt_of_pos _ ⟨⟩) λv hv=>?_;simp only [List.mem_cons,List.not_mem_nil,or_false] at hv;rcases hv with rfl | rfl | rfl | rfl | rfl | rfl | rfl | rfl <;> exact q _ _ s2
noncomputable def nOk (x:Str):Prop:=x≠("":Str)/\PyData.strOk x=true
noncomputable def FO:Sp:=λvs H Q _=>∃ m:Int,vs=[.int m]/\∀ x H',nOk x->Ai H H'->Q (.str x) H'
theorem Yy:Ak ["_law_number"] ["_law_number"] (Af Er):=nofun
theorem TJ {f:Addr}{fd:FuncData}(F:B' K "_law_name" "_law_name" Er f fd):Av Pr w K mg base Bs 1 f fd ["_law_number"] FO:=by
 refine F.okS Yy (λvs H Q E h=>?_) (λB7 A outer s H vs Q E hr h=>?_)
 ·obtain ⟨m,rfl,_⟩:=h;rfl
 ·obtain ⟨m,rfl,q⟩:=h;refine ⟨_,(Aj (B9 (BG (r:=DC K) Ay (AU (Aa Aw (Aa Aw (Aa Aw (Aa Aw (Aa Aw Ae)))))) (AX BW (Ah 0) Aq) D1))),?_⟩;left;intros l H2 s2 e2;apply EC (AO.of e2) (Int.emod_nonneg _ ⟨⟩) (Int.emod_lt_of_pos _ ⟨⟩) λv hv=>?_;simp only [List.mem_cons,List.not_mem_nil,or_false] at hv;rcases hv with rfl | rfl | rfl | rfl | rfl <;> exact q _ _ ⟨⟨⟩,by decide +kernel⟩ s2
end
end K
namespace KX
open PySem Ex
noncomputable def Ex.nzE:Ex->Prop
 | .nm x=>K.nOk x
 | .num _ | .tru _ | .emp=>True
 | .fn _ b=>nzE b | .rc _ _ b=>nzE b | .cal a b=>nzE a/\nzE b | .lt _ a b=>nzE a/\nzE b | .wh a b c=>nzE a/\nzE b/\nzE c | .pr a b=>nzE a/\nzE b
 | .opn a _ _ b=>nzE a/\nzE b | .lk a b=>nzE a/\nzE b | .spl a b _ _ c=>nzE a/\nzE b/\nzE c | .op _ a b=>nzE a/\nzE b
theorem Lr {e:Ex}:∀ {ys:List Str} {y:Str},e.nzE->y∈e.fv ys->K.nOk y:=by
 induction e with
 | nm x =>
  intro ys y h q;simp only [fv] at q;split at q
  ·cases q
  ·rw [List.mem_singleton.mp q];exact h
 | num _ | tru _ | emp=>intro ys y h q;cases q
 | fn _ b ih | rc _ _ b ih=>exact λh q=>ih h q
 | cal a b ia ib | pr a b ia ib | lk a b ia ib | op _ a b ia ib | lt _ a b ia ib | opn a _ _ b ia ib=>exact λh q=>(List.mem_append.mp q).elim (ia h.1) (ib h.2)
 | wh a b c ia ib ic | spl a b _ _ c ia ib ic=>exact λh q=>(List.mem_append.mp q).elim (ia h.1) λq=>(List.mem_append.mp q).elim (ib h.2.1) (ic h.2.2)
end KX
namespace K
open PySem L2 KM KS KX
section
variable {Pr:Program}{w:World}{K:W.Frag}{mg:Str->Option Value}{base:Heap}
noncomputable def bz:Nat->Nat
 | 0=>1
 | n+1=>1+3 * bz n
structure Lw (n:Nat)(e:Ex):Prop where
 sz:e.sz<=bz n
 ht:KN.ht e<=n
 nz:e.nzE
theorem rl {xs:List Str}{x:Str}(h:∀ y∈xs,nOk y)(hx:nOk x):∀ y∈xs++[x],nOk y:=λy hy=>(List.mem_append.mp hy).elim (h y) λz=>by rw [List.mem_singleton.mp z];exact hx
theorem rm {xs:List Str}{x y:Str}(h:∀ y∈xs,nOk y)(hx:nOk x)(hy:nOk y):∀ z∈xs++[x,y],nOk z:=λz hz=>by
 rcases List.mem_append.mp hz with q | q
 ·exact h z q
 ·rcases List.mem_cons.mp q with rfl | q
  ·exact hx
  ·rw [List.mem_singleton.mp q];exact hy
theorem QP (n:Nat):1<=bz n:=by cases n <;> simp [bz] <;> omega
noncomputable def Mz (K:W.Frag)(n:Nat):Sp:=λvs H Q _=>∃ (a:Addr) (ns:List Int) (k:Int) (l:Addr) (xs:List Str),vs=[.ref a,.int k,.ref l,.int n]/\AO K H a (ns.map V.int)/\H l=some (.lst (xs.map V.str))/\xs.length+2 * n<=1000/\(∀ y∈xs,nOk y) /\
 ∀ e r H',Ai H H'->Bo H' e r->Lw n e->Q r H'
noncomputable def QQ (K:W.Frag)(n:Nat):Sp:=λvs H Q _=>∃ (a:Addr) (ns:List Int) (k:Int) (l:Addr) (xs:List Str) (m:Int),vs=[.ref a,.int k,.ref l,.int n,.int m]/\AO K H a (ns.map V.int)/\H l=some (.lst (xs.map V.str))/\xs.length+2 * (n+1)<=1000/\(∀ y∈xs,nOk y) /\
 m % 12≠0/\∀ e r H',Ai H H'->Bo H' e r->Lw (n+1) e->Q r H'
noncomputable def TK (K:W.Frag):Nat->Sp
 | 0=>WV
 | n+1=>QQ K n
theorem QR:Ak ["_law_script","_law_k","_law_names","_law_deep","_law_number","_law_some"] ["_law_script","_law_k","_law_names","_law_deep"] (Af DV):=nofun
theorem MA {n:Nat}{f:Addr}{fd:FuncData}(F:B' K "_law_any" "_law_any" DV f fd)(Du:mg "len"=none)
  (cM:Cl Pr w K mg base 2 "_law_mix" ME (Ik K)) (cI:Cl Pr w K mg base 1 "_law_int" ["_law_number"] My) (cF:Cl Pr w K mg base (2 * n+2) "_law_form" ["_law_script","_law_k","_law_names","_law_deep","_law_number"] (TK K n)) :
  Av Pr w K mg base Bs (2 * n+3) f fd ["_law_script","_law_k","_law_names","_law_deep"] (Mz K n):=by
 refine F.okS QR (λvs H Q E h=>?_) (λB7 A outer s H vs Q E hr h=>?_)
 ·obtain ⟨a,ns,k,l,xs,rfl,_⟩:=h;rfl
 ·obtain ⟨a,ns,k,l,xs,rfl,hs,hl,hx,QS,q⟩:=h;have DI:Am 2 _:=hr.mono ();have BK:Am 1 _:=hr.mono ();refine ⟨_,(Ag (Au (i:=4) QR.nd rfl (.inl rfl) (CW cM DI rfl (Aa (Ah 0) (Aa (Ah 1) Ae))))
   (Ag (BY (WO (w_and (C5 (Ah 2)) (w_and (B1 UY (AX BW (Ah 4) Aq) Aq (AF _)) (GD (WO (w_or (B1 BX (Ah 3) Aq (AF _)) (V9 (B1 BX (AX BW (Ah 4) Aq) Aq (AF _))))))))) (Aj (B9 (Bi (Aa Aw (Aa (BG (r:=DC K) Ay (Ah 2) (AX BW (AX Cf (Ah 4) Aq) (C6 BB (by rfl) Du PySem.boot_len (Aa (Ah 2) Ae))) D1) Ae))))) BN)
   (Ag (BY (WO (w_or (B1 BX (Ah 3) Aq (AF _)) (V9 (B1 BX (AX BW (AX Cf (Ah 4) Aq) Aq) Aq (AF _))))) (Ag (Au (i:=5) QR.nd rfl (.inl rfl) (AU (Aa (Bi (Aa Aw (Aa (CW cI BK rfl (Aa (AX Cf (Ah 4) Aq) Ae)) Ae))) (Aa (Bi (Aa Aw (Aa (HW BX (AX BW (AX Cf (Ah 4) Aq) Aq) Aq (AF _)) Ae))) (Aa (Bi (Aa Aw Ae)) Ae)))))
   (Aj (B9 (BG (r:=DC K) Ay (Ah 5) (AX BW (AX Cf (Ah 4) Aq) Aq) D1)))) BN)
   (Aj (B9 (CW cF hr rfl (Aa (Ah 0) (Aa (Ah 1) (Aa (Ah 2) (Aa (AX Fx (Ah 3) Aq) (Aa (AX Cf (Ah 4) Aq) Ae))))))))))),?_⟩
  apply ⟨a,ns,k,rfl,hs,λm hm=>?_⟩;apply ⟨!(xs.map V.str).isEmpty,.inl ⟨_,AO.of hl,rfl⟩,?_⟩;refine oJ ?_ λhc rest=>?_
  ·apply xr ?_ λh0 leaf=>?_
   ·apply ⟨_,rfl,λi H1 s1=>?_⟩;left;intros p1 H2 s2 e1;left;intros p2 H3 s3 e2;left;intros p3 H4 s4 e3;left;intros p4 H5 s5 e4;apply EC (AO.of e4) (Int.emod_nonneg _ ⟨⟩) (Int.emod_lt_of_pos _ ⟨⟩) λv hv=>?_;have st:=s1.trans (s2.trans (s3.trans (s4.trans s5)));have hz:=QP n;simp only [List.mem_cons,List.not_mem_nil,or_false] at hv;rcases hv with rfl | rfl | rfl
    ·exact q (.num i) _ _ st ⟨p1,rfl,s5 _ _ (s4 _ _ (s3 _ _ e1))⟩ ⟨hz,Nat.zero_le _,trivial⟩
    ·exact q (.tru _) _ _ st ⟨p2,rfl,s5 _ _ (s4 _ _ e2)⟩ ⟨hz,Nat.zero_le _,trivial⟩
    ·exact q .emp _ _ st ⟨p3,rfl,s5 _ _ e3⟩ ⟨hz,Nat.zero_le _,trivial⟩
   ·apply Ht (λ_=>leaf) λh1=>?_;cases n with
    | zero=>exact absurd (decide_eq_true rfl) h0
    | succ n =>
     apply ⟨a,ns,k,l,xs,m / 4,by rw [Xg],hs,hl,(),QS,?_,λe r H' sm ha ho=>q e r H' sm ha ho⟩;intro z;exact h1 (decide_eq_true (by rw [z]))
  ·apply Ht (λ_=>?_) (λ_=>Ck rest);apply xr ?_ λ_ named=>?_
   ·apply ⟨l,_,rfl,.inl (AO.of hl),?_⟩;have FG:(0:Int) < ((xs.map V.str).length:Nat):=by
     cases xs with
     | nil=>simp at hc
     | cons x xs=>simp
    refine eM FG (EC (AO.of hl) (Int.emod_nonneg _ ()) (Int.emod_lt_of_pos _ FG) λv hv=>?_);left;intros p H2 s2 e2;obtain ⟨y,hy,rfl⟩:=List.mem_map.mp hv;exact q (.nm y) _ _ s2 ⟨p,rfl,e2⟩ ⟨QP n,Nat.zero_le _,QS _ hy⟩
   ·left;exact Ht (λ_=>named) λ_=>rest
theorem F5:Ak ["_law_script","_law_k","_law_names","_law_deep","_law_number","_law_way","_law_a","_law_b","_law_one","_law_other","_law_third"] ["_law_script","_law_k","_law_names","_law_deep","_law_number"] (Af Ds):=nofun
theorem QT {n:Nat}{f:Addr}{fd:FuncData}(F:B' K "_law_form" "_law_form" Ds f fd)(cN:Cl Pr w K mg base 1 "_law_name" ["_law_number"] FO)
  (cA:Cl Pr w K mg base (2 * n+3) "_law_any" ["_law_script","_law_k","_law_names","_law_deep"] (Mz K n)) :
  Av Pr w K mg base Bs (2 * n+4) f fd ["_law_script","_law_k","_law_names","_law_deep","_law_number"] (QQ K n):=by
 refine F.okS F5 (λvs H Q E h=>?_) (λB7 A outer s H vs Q E hr h=>?_)
 ·obtain ⟨a,ns,k,l,xs,m,rfl,_⟩:=h;rfl
 ·obtain ⟨a,ns,k,l,xs,m,rfl,hs,hl,hx,QS,hm,q⟩:=h;have BK:Am 1 _:=hr.mono ();refine ⟨_,(Ag (Au (i:=5) F5.nd rfl (.inl rfl) (AX BW (Ah 4) Aq))
   (Ag (Au (i:=6) F5.nd rfl (.inl rfl) (CW cN BK rfl (Aa (AX Cf (Ah 4) Aq) Ae)))
   (Ag (Au (i:=7) F5.nd rfl (.inl rfl) (CW cN BK rfl (Aa (AX Cf (Ah 4) Aq) Ae)))
   (Ag (BY (B1 BX (Ah 5) Aq (AF _)) (Aj (B9 (Bi (Aa Aw (Aa (Ah 6) (Aa (CW cA hr rfl (Aa (Ah 0) (Aa (AX D9 (AX Dw Aq (Ah 1)) Aq) (Aa (AX DM (Ah 2) (AU (Aa (Ah 6) Ae))) (Aa (Ah 3) Ae))))) Ae)))))) BN)
   (Ag (BY (B1 BX (Ah 5) Aq (AF _)) (Aj (B9 (Bi (Aa Aw (Aa (Ah 6) (Aa (Ah 7) (Aa (CW cA hr rfl (Aa (Ah 0) (Aa (AX D9 (AX Dw Aq (Ah 1)) Aq) (Aa (AX DM (Ah 2) (AU (Aa (Ah 6) (Aa (Ah 7) Ae)))) (Aa (Ah 3) Ae))))) Ae))))))) BN)
   (Ag (Au (i:=8) F5.nd rfl (.inl rfl) (CW cA hr rfl (Aa (Ah 0) (Aa (AX D9 (AX Dw Aq (Ah 1)) Aq) (Aa (Ah 2) (Aa (Ah 3) Ae))))))
   (Ag (BY (B1 BX (Ah 5) Aq (AF _)) (Aj (B9 (Bi (Aa Aw (Aa (Ah 6) (Aa (Ah 8) (Aa (CW cA hr rfl (Aa (Ah 0) (Aa (AX D9 (AX Dw Aq (Ah 1)) Aq) (Aa (AX DM (Ah 2) (AU (Aa (Ah 6) Ae))) (Aa (Ah 3) Ae))))) Ae))))))) BN)
   (Ag (BY (B1 BX (Ah 5) Aq (AF _)) (Aj (B9 (Bi (Aa Aw (Aa (Ah 8) (Aa (Ah 6) (Aa (Ah 7) (Aa (CW cA hr rfl (Aa (Ah 0) (Aa (AX D9 (AX Dw Aq (Ah 1)) Aq) (Aa (AX DM (Ah 2) (AU (Aa (Ah 6) (Aa (Ah 7) Ae)))) (Aa (Ah 3) Ae))))) Ae)))))))) BN)
   (Ag (Au (i:=9) F5.nd rfl (.inl rfl) (CW cA hr rfl (Aa (Ah 0) (Aa (AX D9 (AX Dw Aq (Ah 1)) Aq) (Aa (Ah 2) (Aa (Ah 3) Ae))))))
   (Ag (BY (B1 UY (Ah 5) Aq (AF _)) (Aj (B9 (Bi (Aa (BG (r:=DC K) Ay (AU (Aa Aw (Aa Aw (Aa Aw (Aa Aw Ae))))) (AX Fx (Ah 5) Aq) D1) (Aa (Ah 8) (Aa (Ah 9) Ae)))))) BN)
   (Ag (BY (B1 BX (Ah 5) Aq (AF _)) (Aj (B9 (Bi (Aa Aw (Aa (BG (r:=DC K) Ay (AU (Aa Aw (Aa Aw (Aa Aw (Aa Aw Ae))))) (AX BW (AX Cf (Ah 4) Aq) Aq) D1) (Aa (Ah 8) (Aa (Ah 9) Ae))))))) BN)
   (Ag (Au (i:=10) F5.nd rfl (.inl rfl) (CW cA hr rfl (Aa (Ah 0) (Aa (AX D9 (AX Dw Aq (Ah 1)) Aq) (Aa (AX DM (Ah 2) (AX Ku (AU (Aa (Ah 6) (Aa (Ah 7) Ae))) (AX Fx (Ah 5) Aq))) (Aa (Ah 3) Ae))))))
   (Aj (B9 (KC (B1 BX (Ah 5) Aq (AF _)) (Bi (Aa Aw (Aa (Ah 8) (Aa (Ah 9) (Aa (Ah 10) Ae))))) (Bi (Aa Aw (Aa (Ah 8) (Aa (Ah 9) (Aa (Ah 6) (Aa (Ah 7) (Aa (Ah 10) Ae)))))))))))))))))))))),?_⟩
  have lo:=Int.emod_nonneg m (b:=12) ⟨⟩;have hi:=Int.emod_lt_of_pos m (b:=12) ⟨⟩;apply ⟨_,rfl,λx H1 x0 s1=>?_⟩;apply ⟨_,rfl,λy H2 y0 s2=>?_⟩;left;have Yz:=s1.trans s2;refine Ht (λ_=>?_) λw1=>?_
  ·left;intros l1 H3 s3 e3;apply Cy (s3 _ _ (Yz _ _ hl)) e3 ?_ λl2 H4 _ s4 e4=>?_
   ·simp;exact BZ ()
   left;have st:=Yz.trans (s3.trans s4);refine ⟨a,ns,_,l2,xs++[x],rfl,st.seq hs,by rw [e4];simp,by simp;omega,rl QS x0,λe r H5 s5 ha ho=>?_⟩;left;intros p H6 s6 e6;refine q (.fn x e) _ _ (st.trans (s5.trans s6)) ⟨p,r,rfl,e6,Bo.mono (TSub.of_same s6) ha⟩ ⟨by have:=ho.sz;simp only [Ex.sz,bz];omega,by have:=ho.ht;simp only [KN.ht];omega,ho.nz⟩
  apply Ht (λ_=>?_) λw2=>?_
  ·left;intros l1 H3 s3 e3;apply Cy (s3 _ _ (Yz _ _ hl)) e3 ?_ λl2 H4 _ s4 e4=>?_
   ·simp;exact BZ ()
   left;have st:=Yz.trans (s3.trans s4);refine ⟨a,ns,_,l2,xs++[x,y],rfl,st.seq hs,by rw [e4];simp,by simp;omega,rm QS x0 y0,λe r H5 s5 ha ho=>?_⟩;left;intros p H6 s6 e6;refine q (.rc x y e) _ _ (st.trans (s5.trans s6)) ⟨p,r,rfl,e6,Bo.mono (TSub.of_same s6) ha⟩ ⟨by have:=ho.sz;simp only [Ex.sz,bz];omega,by have:=ho.ht;simp only [KN.ht];omega,ho.nz⟩
  apply ⟨a,ns,_,l,xs,rfl,Yz.seq hs,Yz _ _ hl,(),QS,λe1 r1 H3 s3 a1 o1=>?_⟩;have TL:=Yz.trans s3;have n1:=o1.ht;have z1:=o1.sz;apply Ht (λ_=>?_) λw3=>?_
  ·left;intros l1 H4 s4 e4;apply Cy (s4 _ _ (TL _ _ hl)) e4 ?_ λl2 H5 _ s5 e5=>?_
   ·simp;exact BZ ()
   left;have st:=TL.trans (s4.trans s5);refine ⟨a,ns,_,l2,xs++[x],rfl,st.seq hs,by rw [e5];simp,by simp;omega,rl QS x0,λe r H6 s6 ha ho=>?_⟩;left;intros p H7 s7 e7;refine q (.lt x e1 e) _ _ (st.trans (s6.trans s7)) ⟨p,r1,r,rfl,e7,Bo.mono (TSub.of_same (s4.trans (s5.trans (s6.trans s7)))) a1,Bo.mono (TSub.of_same s7) ha⟩ ⟨by have:=ho.sz;simp only [Ex.sz,bz];omega,by have:=ho.ht;simp only [KN.ht];omega,⟨o1.nz,ho.nz⟩⟩
  apply Ht (λ_=>?_) λw4=>?_
  ·left;intros l1 H4 s4 e4;apply Cy (s4 _ _ (TL _ _ hl)) e4 ?_ λl2 H5 _ s5 e5=>?_
   ·simp;exact BZ ()
   left;have st:=TL.trans (s4.trans s5);refine ⟨a,ns,_,l2,xs++[x,y],rfl,st.seq hs,by rw [e5];simp,by simp;omega,rm QS x0 y0,λe r H6 s6 ha ho=>?_⟩;left;intros p H7 s7 e7;refine q (.opn e1 x y e) _ _ (st.trans (s6.trans s7)) ⟨p,r1,r,rfl,e7,Bo.mono (TSub.of_same (s4.trans (s5.trans (s6.trans s7)))) a1,Bo.mono (TSub.of_same s7) ha⟩ ⟨by have:=ho.sz;simp only [Ex.sz,bz];omega,by have:=ho.ht;simp only [KN.ht];omega,⟨o1.nz,ho.nz⟩⟩
  apply ⟨a,ns,_,l,xs,rfl,TL.seq hs,TL _ _ hl,(),QS,λe2 r2 H4 s4 a2 o2=>?_⟩;have Yk:=TL.trans s4;have n2:=o2.ht;have z2:=o2.sz;left;have ne:∀ j:Int,¬ decide (V.int (m % 12)=V.int j)=true->m % 12≠j:=λj h z=>h (decide_eq_true (by rw [z]));have w1':=ne _ w1;have w2':=ne _ w2;have w3':=ne _ w3;have w4':=ne _ w4;refine Ht (λw5=>?_) λw5=>?_
  ·have w5':=of_decide_eq_true w5;left;intros l1 H5 s5 e5;apply EC (AO.of e5) () (by simp;omega) λv hv=>?_;left;intros p H6 s6 e6;have TM:=Bo.mono (TSub.of_same (s4.trans (s5.trans s6))) a1;have TN:=Bo.mono (TSub.of_same (s5.trans s6)) a2;have st:=Yk.trans (s5.trans s6);simp only [List.mem_cons,List.not_mem_nil,or_false] at hv;rcases hv with rfl | rfl | rfl | rfl
   ·exact q (.cal e1 e2) _ _ st ⟨p,r1,r2,rfl,e6,TM,TN⟩ ⟨by simp only [Ex.sz,bz];omega,by simp only [KN.ht];omega,⟨o1.nz,o2.nz⟩⟩
   ·exact q (.pr e1 e2) _ _ st ⟨p,r1,r2,rfl,e6,TM,TN⟩ ⟨by simp only [Ex.sz,bz];omega,by simp only [KN.ht];omega,⟨o1.nz,o2.nz⟩⟩
   ·exact q (.lk e1 e2) _ _ st ⟨p,r1,r2,rfl,e6,TM,TN⟩ ⟨by simp only [Ex.sz,bz];omega,by simp only [KN.ht];omega,⟨o1.nz,o2.nz⟩⟩
   ·exact q (.cal e1 e2) _ _ st ⟨p,r1,r2,rfl,e6,TM,TN⟩ ⟨by simp only [Ex.sz,bz];omega,by simp only [KN.ht];omega,⟨o1.nz,o2.nz⟩⟩
  have w5':¬ m % 12 < 9:=λz=>w5 (decide_eq_true z);apply Ht (λ_=>?_) λw6=>?_
  ·left;intros l1 H5 s5 e5;apply EC (AO.of e5) (Int.emod_nonneg _ ⟨⟩) (Int.emod_lt_of_pos _ ⟨⟩) λv hv=>?_;left;intros p H6 s6 e6;have TM:=Bo.mono (TSub.of_same (s4.trans (s5.trans s6))) a1;have TN:=Bo.mono (TSub.of_same (s5.trans s6)) a2;have st:=Yk.trans (s5.trans s6);have fin:∀ o:Str,v=.str o->Ex.aca o->Q (.ref p) H6:=λo ho hi=>q (.op o e1 e2) _ _ st ⟨p,r1,r2,rfl,ho▸e6,TM,TN⟩ ⟨by simp only [Ex.sz,bz];omega,by simp only [KN.ht];omega,⟨o1.nz,o2.nz⟩⟩;simp only [List.mem_cons,List.not_mem_nil,or_false] at hv;rcases hv with rfl | rfl | rfl | rfl
   ·exact fin _ rfl (.inl rfl)
   ·exact fin _ rfl (.inr (.inl rfl))
   ·exact fin _ rfl (.inr (.inr (.inl rfl)))
   ·exact fin _ rfl (.inr (.inr (.inr rfl)))
  have w6':=ne _ w6;left;intros l1 H5 s5 e5;left;have lr:((m % 12 - 10).toNat=0/\m % 12=10)\/((m % 12 - 10).toNat=1/\m % 12≠10):=by omega
  refine ⟨l1,_,_,rfl,rfl,e5,(),(),?_,λl2 E9=>?_⟩
  ·refine BZ ?_;simp;omega
  have s6:=Ai.new (o:=.lst (List.replicate (m % 12 - 10).toNat [V.str x,V.str y]).flatten) E9;have e6:upd H5 l2 (.lst (List.replicate (m % 12 - 10).toNat [V.str x,V.str y]).flatten) l2=_:=Ad;generalize upd H5 l2 (.lst (List.replicate (m % 12 - 10).toNat [V.str x,V.str y]).flatten)=H6 at s6 e6 ⊢;have hc:∃ more:List Str,(List.replicate (m % 12 - 10).toNat [V.str x,V.str y]).flatten=more.map V.str/\more.length<=2/\(m % 12=10->more=[])/\(m % 12≠10->more=[x,y]):=by
   rcases lr with ⟨e,h⟩ | ⟨e,h⟩
   ·exact ⟨[],by rw [e];rfl,by simp,λ_=>rfl,λz=>absurd h z⟩
   ·exact ⟨[x,y],by rw [e];rfl,by simp,λz=>absurd z h,λ_=>rfl⟩
  obtain ⟨more,hmo,lx,yV,yW⟩:=hc;have hmz:∀ z∈xs++more,nOk z:=by
   rcases lr with ⟨_,h⟩ | ⟨_,h⟩
   ·rw [yV h,List.append_nil];exact QS
   ·rw [yW h];exact rm QS x0 y0
  rw [hmo] at e6;refine Cy (s6 _ _ (s5 _ _ (Yk _ _ hl))) e6 ?_ λl3 H7 _ s7 e7=>?_
  ·simp;exact BZ ()
  left;have st:=Yk.trans (s5.trans (s6.trans s7));refine ⟨a,ns,_,l3,xs++more,rfl,st.seq hs,by rw [e7];simp,by simp;omega,hmz,λe3 r3 H8 s8 a3 o3=>?_⟩;have n3:=o3.ht;have z3:=o3.sz;have TM:=Bo.mono (TSub.of_same (s4.trans (s5.trans (s6.trans (s7.trans s8))))) a1;have TN:=Bo.mono (TSub.of_same (s5.trans (s6.trans (s7.trans s8)))) a2;apply Ht (λw7=>?_) λw7=>?_
  ·left;intros p H9 s9 e9;have w7':m % 12=10:=(by simpa using w7);exact q (.wh e1 e2 e3) _ _ (st.trans (s8.trans s9)) ⟨p,r1,r2,r3,rfl,e9,Bo.mono (TSub.of_same s9) TM,Bo.mono (TSub.of_same s9) TN,Bo.mono (TSub.of_same s9) a3⟩ ⟨by simp only [Ex.sz,bz];omega,by simp only [KN.ht];omega,⟨o1.nz,o2.nz,o3.nz⟩⟩
  ·left;intros p H9 s9 e9;exact q (.spl e1 e2 x y e3) _ _ (st.trans (s8.trans s9)) ⟨p,r1,r2,r3,rfl,e9,Bo.mono (TSub.of_same s9) TM,Bo.mono (TSub.of_same s9) TN,Bo.mono (TSub.of_same s9) a3⟩ ⟨by simp only [Ex.sz,bz];omega,by simp only [KN.ht];omega,⟨o1.nz,o2.nz,o3.nz⟩⟩
theorem QU {f f2:Addr}{fd fd2:FuncData}(DA:Df K mg "_law_any" DV ["_law_script","_law_k","_law_names","_law_deep"] f fd)(DF:Df K mg "_law_form" Ds ["_law_script","_law_k","_law_names","_law_deep","_law_number"] f2 fd2)(Du:mg "len"=none)
  (cM:Cl Pr w K mg base 2 "_law_mix" ME (Ik K)) (cI:Cl Pr w K mg base 1 "_law_int" ["_law_number"] My) (cN:Cl Pr w K mg base 1 "_law_name" ["_law_number"] FO) :
  ∀ n,Cl Pr w K mg base (2 * n+3) "_law_any" ["_law_script","_law_k","_law_names","_law_deep"] (Mz K n)
 | 0=>DA.cl (MA (n:=0) DA.F Du cM cI (DF.cl Vd))
 | n+1=>DA.cl (MA (n:=n+1) DA.F Du cM cI (DF.cl (QT DF.F cN (QU DA DF Du cM cI cN n))))
end
end K
namespace L2
open PySem KX
theorem cm {t:TA}{σ:St}{H:Hp}{R:It->Hp->Prop}(q:t σ H λvs H1=>∃ i j:Int,vs=[.int i,.int j]/\(-(2 ^ 62)<=i/\i < 2 ^ 62/\-(2 ^ 62)<=j/\j < 2 ^ 62)/\R (Rg i (j - i).toNat) H1):OM t σ H R:=q
end L2
local macro_rules | `(tactic| fail)=>`(tactic| with_reducible refine L2.cm ?_)
namespace KX
open PySem Ex
theorem J' {e:Ex}:∀ {xs ys:List Str},(∀ y,y∈xs↔y∈ys)->e.fv xs=e.fv ys:=by
 have c1:∀ {xs ys:List Str} (x:Str),(∀ y,y∈xs↔y∈ys)->∀ y,y∈x::xs↔y∈x::ys:=λx h y=>by rw [List.mem_cons,List.mem_cons,h y]
 induction e with
 | nm x=>intro xs ys h;simp only [fv,h x]
 | num _ | tru _ | emp=>exact λ_=>rfl
 | fn x b ih=>exact λh=>ih (c1 x h)
 | rc f x b ih=>exact λh=>ih (c1 x (c1 f h))
 | cal a b ia ib | pr a b ia ib | lk a b ia ib | op _ a b ia ib=>intro xs ys h;simp only [fv,ia h,ib h]
 | lt x a b ia ib=>intro xs ys h;simp only [fv,ia h,ib (c1 x h)]
 | opn a x y b ia ib=>intro xs ys h;simp only [fv,ia h,ib (c1 y (c1 x h))]
 | wh a b c ia ib ic=>intro xs ys h;simp only [fv,ia h,ib h,ic h]
 | spl a b x y c ia ib ic=>intro xs ys h;simp only [fv,ia h,ib h,ic (c1 y (c1 x h))]
noncomputable def Hq (g xs:List Str):List Itm->List Str
 | []=>[]
 | .sc _::r=>Hq g xs r
 | .pt e::r=>e.fv (if r.isEmpty=true then xs++g else xs)++Hq g xs r
theorem YA {e:Ex}{xs:List Str}(ne:∀ y,e≠.nm y):e.fv xs=Hq e.given xs e.its:=by
 have m1:∀ (b:Ex) (x:Str),b.fv (x::xs)=b.fv (xs++[x]):=λb x=>J' λy=>by simp only [List.mem_cons,List.mem_append,List.not_mem_nil,or_false];exact Or.comm
 have m2:∀ (b:Ex) (f x:Str),b.fv (x::f::xs)=b.fv (xs++[f,x]):=λb f x=>J' λy=>by
  simp only [List.mem_cons,List.mem_append,List.not_mem_nil,or_false]
  constructor
  ·rintro (h | h | h)
   ·exact .inr (.inr h)
   ·exact .inr (.inl h)
   ·exact .inl h
  ·rintro (h | h | h)
   ·exact .inr (.inr h)
   ·exact .inr (.inl h)
   ·exact .inl h
 cases e with
 | nm y=>exact absurd rfl (ne y)
 | fn x b=>simp [fv,its,given,Hq,m1]
 | rc f x b=>simp [fv,its,given,Hq,m2]
 | lt x a b=>simp [fv,its,given,Hq,m1]
 | opn a x y b=>simp [fv,its,given,Hq,m2]
 | spl a b x y c=>simp [fv,its,given,Hq,m2]
 | _=>simp [fv,its,given,Hq]
theorem YB {e a:Ex}(h:Itm.pt a∈e.its):KN.ht a < KN.ht e:=by
 cases e <;> simp [its] at h <;> (try (rcases h with rfl | rfl | rfl)) <;> (try (rcases h with rfl | rfl)) <;> (try subst h) <;> simp only [KN.ht] <;> omega
theorem J0 {e a:Ex}(q:e.nzE)(h:Itm.pt a∈e.its):a.nzE:=by
 cases e <;> simp [its] at h <;> simp only [Ex.nzE] at q <;> (try (rcases h with rfl | rfl | rfl)) <;> (try (rcases h with rfl | rfl)) <;> (try subst h) <;> first | exact q | exact q.1 | exact q.2 | exact q.2.1 | exact q.2.2
theorem O9 (e:Ex):e.given.length<=2:=by cases e <;> simp [given]
end KX
namespace K
open PySem L2 KM KS KX
section
variable {Pr:Program}{w:World}{K:W.Frag}{mg:Str->Option Value}{base:Heap}
theorem flN {l:List Str}:(l.map V.str).all E2=true:=by induction l with
 | nil=>rfl
 | cons a b ih=>simp [E2,ih]
theorem K0 (x:Str):∀ l:List Str,Ri (.str x) (l.map V.str)=decide (x∈l)
 | []=>by simp [Ri]
 | a::r=>by
  have:=K0 x r;simp only [Ri,List.map_cons,List.any_cons,List.mem_cons] at this ⊢;rw [this];by_cases e:x=a
  ·subst e;simp [Rh]
  ·have e':¬ a=x:=λz=>e z.symm;simp [Rh,e,e']
theorem iI {e:Ex}(h:¬ ∃ y b,e=.fn y b\/(∃ f,e=.rc f y b)\/∃ a,e=.lt y a b):Ri (.str e.wd) [.str "fun",.str "rec",.str "let"]=false:=by
 cases e with
 | fn y b=>exact absurd ⟨y,b,.inl rfl⟩ h
 | rc f y b=>exact absurd ⟨y,b,.inr (.inl ⟨f,rfl⟩)⟩ h
 | lt y a b=>exact absurd ⟨y,b,.inr (.inr ⟨a,rfl⟩)⟩ h
 | _=>simp only [Ex.wd];decide
theorem iK {e:Ex}(h:¬ ∃ y1 y2 b,(∃ a,e=.opn a y1 y2 b)\/∃ a c,e=.spl a c y1 y2 b):Ri (.str e.wd) [.str "open",.str "split"]=false:=by
 cases e with
 | opn a x y b=>exact absurd ⟨x,y,b,.inl ⟨a,rfl⟩⟩ h
 | spl a c x y b=>exact absurd ⟨x,y,b,.inr ⟨a,c,rfl⟩⟩ h
 | _=>simp only [Ex.wd];decide
theorem iL {e:Ex}(h:¬ ∃ y b,e=.fn y b\/(∃ f,e=.rc f y b)\/∃ a,e=.lt y a b)(g:¬ ∃ y1 y2 b,(∃ a,e=.opn a y1 y2 b)\/∃ a c,e=.spl a c y1 y2 b):e.given=[]:=by
 cases e with
 | fn y b=>exact absurd ⟨y,b,.inl rfl⟩ h
 | rc f y b=>exact absurd ⟨y,b,.inr (.inl ⟨f,rfl⟩)⟩ h
 | lt y a b=>exact absurd ⟨y,b,.inr (.inr ⟨a,rfl⟩)⟩ h
 | opn a x y b=>exact absurd ⟨x,y,b,.inl ⟨a,rfl⟩⟩ g
 | spl a c x y b=>exact absurd ⟨x,y,b,.inr ⟨a,c,rfl⟩⟩ g
 | _=>rfl
theorem iM {e:Ex}(h:∀ y,e≠.nm y):e.wd≠"name":=by
 cases e with
 | nm y=>exact absurd rfl (h y)
 | _=>simp only [Ex.wd];decide
theorem rq {x y:Str}(h:x≠y):¬ decide (V.str x=V.str y)=true:=by simpa using h
noncomputable def MB (n:Nat):Sp:=λvs H Q _=>∃ (e:Ex) (r:V) (l:Addr) (xs:List Str),vs=[r,.ref l]/\Bo H e r/\H l=some (.lst (xs.map V.str))/\KN.ht e<=n/\xs.length+2 * n<=1000/\e.nzE/\(e.fv xs=[]->∀ H',Ai H H'->Q (.str "") H')/\∀ x t,e.fv xs=x::t->∀ H',Ai H H'->Q (.str x) H'
noncomputable def YC:Nat->Sp
 | 0=>WV
 | n+1=>MB n
theorem Il:Ak ["_law_tree","_law_names","_law_given","_law_k","_law_found"] ["_law_tree","_law_names"] (Af D3):=nofun
theorem MC {n:Nat}{f:Addr}{fd:FuncData}(F:B' K "_law_first" "_law_first" D3 f fd)(Hk:mg "int"=none)(Dz:mg "list"=none)(D6:mg "tuple"=none)(BD:mg "isinstance"=none)(Du:mg "len"=none)(D5:mg "range"=none)
  (cS:Cl Pr w K mg base n "_law_first" ["_law_tree","_law_names"] (YC n)):Av Pr w K mg base Bs (n+1) f fd ["_law_tree","_law_names"] (MB n):=by
 refine F.okS Il (λvs H Q E h=>?_) (λB7 A outer s H vs Q E hr h=>?_)
 ·obtain ⟨e,r,l,xs,rfl,_⟩:=h;rfl
 ·obtain ⟨e,r,l,xs,rfl,he,hl,hd,hx,nz,q1,q2⟩:=h;refine ⟨_,(Ag (BY (B1 BX (eI 0) Aw (AF _)) (Aj (B9 (KC (B1 (r:=bf K false) Ey (eI 0) (Ah 1) rfl) Aw (eI 0)))) BN)
   (Ag (Au (i:=2) Il.nd rfl (.inl rfl) (AU Ae))
   (Ag (BY (B1 (r:=bf K false) Ey (eI 0) (Bi (Aa Aw (Aa Aw (Aa Aw Ae)))) rfl) (Aj (Au (i:=2) Il.nd rfl (.inl rfl) (AX DM (AU (Aa (eI 0) Ae)) (AX Ku (AU (Aa (eI 0) Ae)) (Dd HH (by rfl) Hk PyProof.Rows.boot_int (Aa (HW BX (eI 0) Aw (AF _)) Ae)))))) (Aj (BY (B1 (r:=bf K false) Ey (eI 0) (Bi (Aa Aw (Aa Aw Ae))) rfl) (Aj (Au (i:=2) Il.nd rfl (.inl rfl) (Dd Iw (by rfl) Dz PyProof.Rows.boot_list (Aa (Sh (r:=Wu K) Wv (Ah 0) (Pq (Xl Ip Aq)) (Pq (Xl Ip Aq))) Ae)))) BN)))
   (Ag (HX PassesOwn.never rfl (Pw rfl D5 (Aa Aq (Aa (C6 BB (by rfl) Du PySem.boot_len (Aa (Ah 0) Ae)) Ae))) (Br (i:=3) Il.nd rfl (.inl rfl)) (Aj (BY (Jr (C6 Jq (by rfl) BD PyProof.Rows.boot_isinstance (Aa (BG (r:=Iu K) FC (Ah 0) (Ah 3) D1) (Aa (Pp (v:=.ty "tuple") rfl D6 PyProof.Rows.boot_tuple rfl) Ae)))) (Ag (Au (i:=4) Il.nd rfl (.inl rfl) (CW cS hr rfl (Aa (BG (r:=Iu K) FC (Ah 0) (Ah 3) D1) (Aa (AX DM (Ah 1) (KC (B1 BX (Ah 3) (AX Fx (C6 BB (by rfl) Du PySem.boot_len (Aa (Ah 0) Ae)) Aq) (AF _)) (Ah 2) (AU Ae))) Ae))))
   (Aj (BY (B1 HG (Ah 4) Aw (AF _)) (Aj (B9 (Ah 4))) BN))) BN)))
   (Aj (B9 Aw)))))),?_⟩
  obtain ⟨p,us,rfl,hp,hi⟩:=he.its;apply An hp (v:=.str e.wd) (Ar (j:=0) rfl) ?_;left;by_cases nm:∃ y,e=.nm y
  ·obtain ⟨y,rfl⟩:=nm;obtain ⟨a,_,rfl,ha,hi⟩:=J6 hi;cases bU hi;cases ha;refine Cs (decide_eq_true rfl) ?_;apply An hp (v:=.str y) rfl ?_;apply Mh (.inl (AO.of hl)) rfl flN ?_;left;have iv:Ri (.str y) (xs.map V.str)=decide (y∈xs):=K0 y xs;by_cases hy:y∈xs
   ·refine Cs (by rw [iv];simp [hy]) ?_;exact q1 (by simp [Ex.fv,hy]) H (Ai.refl _)
   ·refine CD (by rw [iv];simp [hy]) ?_;apply An hp (v:=.str y) rfl ?_;exact q2 y [] (by simp [Ex.fv,hy]) H (Ai.refl _)
  ·have ne:∀ y,e≠.nm y:=λy z=>nm ⟨y,z⟩;have l1:=Paired.len hi;have l2:=T2 e;refine CD (rq (iM ne)) ?_;left;intros lg H1 s1 e1;refine Mg (fun σ' H'=>∃ lg,σ'=[some (.ref p),some (.ref l),some (.ref lg),none,none]/\Ai H H'/\H' lg=some (.lst (e.given.map V.str))) ?_ λN fin=>?_
   ·rintro σ' H2 ⟨lg,rfl,s2,e2⟩;apply ⟨p,_,rfl,.inr (CZ.of (s2 _ _ hp)),?_⟩;apply ⟨_,_,rfl,⟨⟨⟩,⟨⟩,by simp;omega,by simp;omega⟩,?_⟩;have en:(((V.str e.wd::us).length:Int) - 1).toNat=us.length:=(by simp);rw [en];have gl:=O9 e;refine MQ (λi σ' H'=>∃ o1 o2,σ'=[some (.ref p),some (.ref l),some (.ref lg),o1,o2]/\Ai H2 H'/\e.fv xs=Hq e.given xs (e.its.drop i)) ⟨none,none,rfl,Ai.refl _,by rw [List.drop_zero];exact YA ne⟩ (λi σ' H4 hi4 z=>?_) (fun σ' H4 z=>?_)
    ·obtain ⟨o1,o2,rfl,s4,ef⟩:=z;obtain ⟨it,hit⟩:∃ it,e.its[i]?=some it:=⟨_,List.getElem?_eq_getElem ()⟩;obtain ⟨u,hu,lU⟩:=Paired.at1 hi hit;have Rq:=s2.trans s4;have qA:e.its.drop i=it::e.its.drop (i+1):=by
      rw [List.drop_eq_getElem?_toList_append,hit];rfl
     rw [qA] at ef;have kI:(V.str e.wd::us)[i+1]?=some u:=hu;have ix:((1:Int)+(i:Int))=((i+1:Nat):Int):=(by omega);have lst:(e.its.drop (i+1)).isEmpty=true↔i+1=us.length:=by
      rw [List.isEmpty_iff,List.drop_eq_nil_iff];omega
     refine JI ?_;rw [ix];apply An (Rq _ _ hp) (v:=u) (Ar kI) ?_;left;cases it with
     | sc z =>
      cases lU;obtain ⟨t,t1,t2⟩:∃ t,Dm K H4 u t/\W.kitOne K t (.type "tuple")=some false:=by
       have fl:xI u=true:=Xz (List.mem_of_getElem? hit);cases u with
       | str z=>exact ⟨_,Dm.str z,rfl⟩
       | int z=>exact ⟨_,Dm.int z,rfl⟩
       | bl z=>exact ⟨_,Dm.bl z,rfl⟩
       | _=>cases fl
      refine ⟨u,t,_,false,rfl,t1,t2,?_⟩;apply Ck ?_;exact ⟨_,_,rfl,s4,ef⟩
     | pt a =>
      obtain ⟨pa,ua,rfl,ha,_⟩:=Bo.its lU;refine ⟨.ref pa,_,_,true,rfl,Dm.tup (Rq _ _ ha),rfl,?_⟩;apply Cm ?_;apply An (Rq _ _ hp) (v:=.ref pa) (Ar kI) ?_;apply ⟨p,_,rfl,.inr (CZ.of (Rq _ _ hp)),?_⟩;left;have da:=YB (List.mem_of_getElem? hit);cases n with
      | zero=>omega
      | succ n =>
      have wl:∀ j:Nat,decide (V.int ((i+1:Nat):Int)=V.int (((V.str e.wd::us).length:Int) - 1))=decide (i+1=us.length):=λ_=>by
       by_cases z:i+1=us.length
       ·rw [decide_eq_true z];exact decide_eq_true (by simp;omega)
       ·rw [decide_eq_false z];exact decide_eq_false (by simp;omega)
      by_cases c:i+1=us.length
      ·refine Cs (by rw [wl 0];exact decide_eq_true c) ?_;apply Cy (Rq _ _ hl) (s4 _ _ e2) (by simp only [List.length_map];exact BZ ()) λl2 H6 E9 YD e6=>?_;rw [<- List.map_append] at e6;apply ⟨a,.ref pa,l2,xs++e.given,rfl,Bo.mono (TSub.of_same (Rq.trans YD)) lU,e6,(),by rw [List.length_append];omega,J0 nz (List.mem_of_getElem? hit),λh H7 s7=>?_,λx t h H7 s7=>?_⟩
       ·apply CD ⟨⟩ ?_;refine ⟨_,_,rfl,s4.trans (YD.trans s7),?_⟩;rw [ef,Hq,if_pos (lst.mpr c),h,List.nil_append]
       ·left;have xz:x≠("":Str):=(Lr (J0 nz (List.mem_of_getElem? hit)) (by rw [h];exact .head _)).1;refine Cs (by simp [xz]) ?_;apply q2 x (t++Hq e.given xs (e.its.drop (i+1))) ?_ H7 (Rq.trans (YD.trans s7));rw [ef,Hq,if_pos (lst.mpr c),h];rfl
      ·refine CD (by rw [wl 0];exact λz=>c (of_decide_eq_true z)) ?_;left;intros ln H5 s5 e5;refine Cy (s5 _ _ (Rq _ _ hl)) e5 (by simp only [List.length_map,List.length_nil];exact BZ ()) λl2 H6 E9 s6 e6=>?_;rw [List.append_nil] at e6;have YD:=s5.trans s6;apply ⟨a,.ref pa,l2,xs,rfl,Bo.mono (TSub.of_same (Rq.trans YD)) lU,e6,(),(),J0 nz (List.mem_of_getElem? hit),λh H7 s7=>?_,λx t h H7 s7=>?_⟩
       ·apply CD ⟨⟩ ?_;refine ⟨_,_,rfl,s4.trans (YD.trans s7),?_⟩;rw [ef,Hq,if_neg (λz=>c (lst.mp z)),h,List.nil_append]
       ·left;have xz:x≠("":Str):=(Lr (J0 nz (List.mem_of_getElem? hit)) (by rw [h];exact .head _)).1;refine Cs (by simp [xz]) ?_;apply q2 x (t++Hq e.given xs (e.its.drop (i+1))) ?_ H7 (Rq.trans (YD.trans s7));rw [ef,Hq,if_neg (λz=>c (lst.mp z)),h];rfl
    ·obtain ⟨o1,o2,rfl,s4,ef⟩:=z;have ed:e.its.drop us.length=[]:=List.drop_eq_nil_iff.mpr ();rw [ed] at ef;left;exact q1 ef H4 (s2.trans s4)
   ·apply An (s1 _ _ hp) (v:=.str e.wd) (Ar (j:=0) rfl) ?_;left;intros t2 H2 s2 e2;refine Mh (.inr (CZ.of e2)) rfl rfl ?_;left;have cq:=s1.trans s2;by_cases g1:∃ y b,e=.fn y b\/(∃ f,e=.rc f y b)\/∃ a,e=.lt y a b
    ·refine Cs (by obtain ⟨y,b,rfl | ⟨f,rfl⟩ | ⟨a,rfl⟩⟩:=g1 <;> rfl) ?_;obtain ⟨y1,t3,rest,de,hg⟩:∃ (y1:Str) (t3:V) (rest:List V),us=.str y1::t3::rest/\e.given.map V.str=[.str y1]++(List.replicate (if decide (V.str e.wd=V.str "rec")=true then (1:Int) else 0).toNat [t3]).flatten:=by
      obtain ⟨y,b,rfl | ⟨f,rfl⟩ | ⟨a,rfl⟩⟩:=g1
      ·obtain ⟨a1,_,rfl,h1,hi⟩:=J6 hi;obtain ⟨a2,_,rfl,h2,hi⟩:=J6 hi;cases bU hi;cases h1;exact ⟨y,a2,[],rfl,rfl⟩
      ·obtain ⟨a1,_,rfl,h1,hi⟩:=J6 hi;obtain ⟨a2,_,rfl,h2,hi⟩:=J6 hi;obtain ⟨a3,_,rfl,h3,hi⟩:=J6 hi;cases bU hi;cases h1;cases h2;exact ⟨f,_,_,rfl,rfl⟩
      ·obtain ⟨a1,_,rfl,h1,hi⟩:=J6 hi;obtain ⟨a2,_,rfl,h2,hi⟩:=J6 hi;obtain ⟨a3,_,rfl,h3,hi⟩:=J6 hi;cases bU hi;cases h1;exact ⟨y,_,_,rfl,rfl⟩
     subst de;apply An (cq _ _ hp) (v:=.str y1) (Ar (j:=1) rfl) ?_;left;intros p3 H3 s3 e3;apply An (s3 _ _ (cq _ _ hp)) (v:=t3) (Ar (j:=2) rfl) ?_;left;intros p4 H4 s4 e4;apply An (s4 _ _ (s3 _ _ (cq _ _ hp))) (v:=.str e.wd) (Ar (j:=0) rfl) ?_;apply .inr ⟨_,rfl,?_⟩;refine ⟨p4,_,_,rfl,rfl,e4,by split <;> decide,by split <;> decide,by split <;> exact BZ (by simp),λp5 cu=>?_⟩;refine Cy (Ai.new cu _ _ (s4 _ _ e3)) Ad ?_ λp6 H6 hp6 s6 e6=>?_
     ·rw [len_rep];split <;> exact BZ (by simp)
     ·exact fin _ _ ⟨p6,rfl,cq.trans (s3.trans (s4.trans ((Ai.new cu).trans s6))),by rw [e6,hg]⟩
    ·refine CD (by rw [iI g1];decide) ?_;apply An (cq _ _ hp) (v:=.str e.wd) (Ar (j:=0) rfl) ?_;left;intros t3 H3 s3 e3;refine Mh (.inr (CZ.of e3)) rfl rfl ?_;left;have rB:=cq.trans s3;by_cases g2:∃ y1 y2 b,(∃ a,e=.opn a y1 y2 b)\/∃ a c,e=.spl a c y1 y2 b
     ·refine Cs (by obtain ⟨y1,y2,b,⟨a,rfl⟩ | ⟨a,c,rfl⟩⟩:=g2 <;> rfl) ?_;obtain ⟨hg,hw⟩:Ji (.str e.wd::us) (some (-3)) (some (-1))=e.given.map V.str/\¬ (HT.sIx (V.str e.wd::us).length 0 (some (-3))=0/\HT.sIx (V.str e.wd::us).length (V.str e.wd::us).length (some (-1))=(V.str e.wd::us).length):=by
       obtain ⟨y1,y2,b,⟨a,rfl⟩ | ⟨a,c,rfl⟩⟩:=g2
       ·obtain ⟨a1,_,rfl,h1,hi⟩:=J6 hi;obtain ⟨a2,_,rfl,h2,hi⟩:=J6 hi;obtain ⟨a3,_,rfl,h3,hi⟩:=J6 hi;obtain ⟨a4,_,rfl,h4,hi⟩:=J6 hi;cases bU hi;cases h2;cases h3;exact ⟨rfl,by simp [HT.sIx]⟩
       ·obtain ⟨a1,_,rfl,h1,hi⟩:=J6 hi;obtain ⟨a2,_,rfl,h2,hi⟩:=J6 hi;obtain ⟨a3,_,rfl,h3,hi⟩:=J6 hi;obtain ⟨a4,_,rfl,h4,hi⟩:=J6 hi;obtain ⟨a5,_,rfl,h5,hi⟩:=J6 hi;cases bU hi;cases h3;cases h4;exact ⟨rfl,by simp [HT.sIx]⟩
      apply Xi (CZ.of (rB _ _ hp)) hw λp4 H4 pQ s4 e4=>?_;apply ⟨p4,_,rfl,.inr (CZ.of e4),λp5 cu=>?_⟩;exact fin _ _ ⟨p5,rfl,rB.trans (s4.trans (Ai.new cu)),by rw [Ad,hg]⟩
     ·refine CD (by rw [iK g2];decide) ?_;apply fin _ _ ⟨lg,rfl,rB,?_⟩;rw [s3 _ _ (s2 _ _ e1),iL g1 g2];rfl
theorem QV {f:Addr}{fd:FuncData}(D:Df K mg "_law_first" D3 ["_law_tree","_law_names"] f fd)(Hk:mg "int"=none)(Dz:mg "list"=none)(D6:mg "tuple"=none)(BD:mg "isinstance"=none)(Du:mg "len"=none)(D5:mg "range"=none):
  ∀ n,Cl Pr w K mg base (n+1) "_law_first" ["_law_tree","_law_names"] (MB n)
 | 0=>D.cl (MC (n:=0) D.F Hk Dz D6 BD Du D5 (D.cl Vd))
 | n+1=>D.cl (MC (n:=n+1) D.F Hk Dz D6 BD Du D5 (QV D Hk Dz D6 BD Du D5 n))
end
end K
namespace L2
open PySem PySem.Spec PyProof.Rows KS KX
theorem Ls {P:Program}{w:World}{K:W.Frag}{mg:Str->Option Value}{base:Heap}{CX:Je}{k:Nat}{ps:List Str}{rows:List (Str × Value)}:F3 P w K mg base CX k ps rows []:=λ_ _ h=>by cases h
theorem AJ {P:Program}{w:World}{K:W.Frag}{mg:Str->Option Value}{base:Heap}{CX:Je}{k:Nat}{ps:List Str}{rows:List (Str × Value)}{x:Str}{sp:Sp}{Mi:List (Str × Sp)}(h:∃ f fd,rowAt rows x=some (.ref f)/\Av P w K mg base CX k f fd ps sp/\W.keepIn K (.ref f)=true/\Binds K fd ps [])
  (t:F3 P w K mg base CX k ps rows Mi):F3 P w K mg base CX k ps rows ((x,sp)::Mi):=λy sp' hm=>by
 rcases List.mem_cons.mp hm with e | hm
 ·cases e;exact h
 ·exact t y sp' hm
noncomputable def iN:R2:=λx y H Q=>∃ (z:Str),y=.str z/\((∃ (p:Addr) (xs:List V),x=.ref p/\H p=some (.tup xs)/\Q (.bl true) H)\/∃ z',x=.str z'/\Q (.bl (!decide (z'=z))) H)
theorem TQ {X:Cx}(hu:X.A.units+64 < cLine):Fw X (compareOp .NotEq) iN:=by
 intro pins s σ H x y v u Q I rx ry h;obtain ⟨z,rfl,h⟩:=h;rcases h with ⟨p,xs,rfl,hp,k⟩ | ⟨z',rfl,k⟩
 ·cases rx;obtain ⟨t,rfl⟩:=ry;obtain ⟨its,r,p1,_⟩:=I.tuple (CZ.of (K:=X.K) hp);exact PySem.SeqAt.RcNeAt.tuple_str z t p1 () X.prog X.w X.xe _ (AH I k rfl)
 ·refine HG pins s σ H (.str z') (.str z) v u Q I rx ry ⟨rfl,?_⟩;have:decide (V.str z'=V.str z)=decide (z'=z):=by simp
  rw [this];exact k
end L2
namespace L2
open PySem KX
theorem cv {t:TA}{σ:St}{H:Hp}{R:It->Hp->Prop}(q:t σ H λvs H1=>∃ j:Int,vs=[.int j]/\-(2 ^ 62)<=j/\j < 2 ^ 62/\R (Rg 0 j.toNat) H1):OL t σ H R:=q
end L2
local macro_rules | `(tactic| fail)=>`(tactic| with_reducible refine L2.cv ?_)
namespace K
open PySem L2 KM KS KN KX
section
variable {Pr:Program}{w:World}{K:W.Frag}{mg:Str->Option Value}{base:Heap}
theorem TR {g:Nat}(h:g < 6):decide (V.str (Bf g)=V.str "no name")=false:=by
 have c:g=0\/g=1\/g=2\/g=3\/g=4\/g=5:=by omega
 rcases c with rfl | rfl | rfl | rfl | rfl | rfl <;> decide +kernel
theorem K1:Ak ["_law_script","_law_free","_law_tree","_law_found","_law_due"] ["_law_script"] (Af GU):=nofun
theorem YE {f:Addr}{fd:FuncData}(F:B' K "law" "law" GU f fd)(BD:mg "isinstance"=none)(D6:mg "tuple"=none)(Du:mg "len"=none)(Hk:mg "int"=none)(D5:mg "range"=none)
  (cM:Cl Pr w K mg base 2 "_law_mix" ME (Ik K)) (cN:Cl Pr w K mg base 1 "_law_name" ["_law_number"] FO) (cA:Cl Pr w K mg base 11 "_law_any" ["_law_script","_law_k","_law_names","_law_deep"] (Mz K 4))
  (cT:Cl Pr w K mg base 10 "_law_kind_told" ["_law_tree"] Yu) (cF:Cl Pr w K mg base 5 "_law_first" ["_law_tree","_law_names"] (MB 4)):Av Pr w K mg base Bs 12 f fd ["_law_script"] (Po K 63 []):=by
 refine F.okS K1 (λvs H Q E h=>?_) (λB7 A outer s H vs Q E hr h=>?_)
 ·obtain ⟨a,ns,rfl,_⟩:=h;rfl
 ·obtain ⟨a,ns,rfl,hs,hlen,_,q⟩:=h;have BK:Am 1 _:=hr.mono ();have DI:Am 2 _:=hr.mono ();have hr5:Am 5 _:=hr.mono ();have iO:=hr;have hu:=hr.units;have hr:Am 10 _:=iO.mono ();have S:Bj (CB Bs Pr w K mg base ["_law_script","_law_free","_law_tree","_law_found","_law_due"] "law" (Af GU) f B7 A outer s H E).nox (Cv (valueOf (inDef GU 0))) [("_law_script",s.heap.objs.size+1)] ["_law_k"] ["_law_script"] [0] :=
   ⟨rfl,by decide +kernel,rfl,by decide +kernel,rfl,rfl,rfl,rfl⟩
  have Mj:(["_law_k","_law_script"]:List Str).Nodup:=by decide +kernel
  refine ⟨_,(Ag (KP (i:=1) K1.nd rfl (.inl rfl) (tt:=Hu) (te:=EG FO [] E0 (Cb (EG (Ik K) [] E0 (Cb (Bt 1) (Cb (Kj (UW λi j=>.int (i+j)) (tC (.int 60)) (Bt 0)) Dp))) Dp)) S rfl (Pu rfl D5 (Aa (AX BW (CW cM DI rfl (Aa (Ah 0) (Aa Aq Ae))) Aq) Ae)) (λC s0 H0 ex=>Br (i:=0) Mj rfl (.inl rfl)) (λ_ _ _ _=>Fi) (λC s0 H0 ex=>CW cN BK rfl (Aa (CW cM DI rfl (Aa (Ah 1) (Aa (AX D9 Aq (Ah 0)) Ae))) Ae)))
   (Ag (Au (i:=2) K1.nd rfl (.inl rfl) (CW cA iO rfl (Aa (Ah 0) (Aa Aq (Aa (AX DM (Ah 1) (AX Ku (AU (Aa Aw Ae)) (Dd HH (by rfl) Hk PyProof.Rows.boot_int (Aa (HW BX (C6 BB (by rfl) Du PySem.boot_len (Aa (Ah 1) Ae)) Aq (AF _)) Ae)))) (Aa Aq Ae))))))
   (Ag (Au (i:=3) K1.nd rfl (.inl rfl) (CW cT hr rfl (Aa (Ah 2) Ae)))
   (Ag (Au (i:=4) K1.nd rfl (.inl rfl) (CW cF hr5 rfl (Aa (Ah 2) (Aa (AU Ae) Ae))))
   (Ag (BY (B1 HG (Ah 4) Aw (AF _)) (Aj (B9 (HW (Nu hu) (Ah 3) (Bi (Aa Aw (Aa (Ah 4) Ae))) (AF _)))) BN)
   (Aj (B9 (Vb (HW (TQ hu) (Ah 3) Aw (AF _)) (Va (dN (Vb (C6 Jq (by rfl) BD PyProof.Rows.boot_isinstance (Aa (Ah 3) (Aa (Pp (v:=.ty "tuple") rfl D6 PyProof.Rows.boot_tuple rfl) Ae))) (Va (HW BX (eI 3) Aw (AF _)))))))))))))),?_⟩
  apply ⟨a,ns,_,rfl,hs,λm0 yV=>?_⟩;left;have hi3:=Int.emod_lt_of_pos m0 (b:=3) ⟨⟩;have lo3:=Int.emod_nonneg m0 (b:=3) ⟨⟩;refine ⟨_,rfl,(),(),?_⟩;refine P' (n:=(m0 % 3).toNat) (λi ys H'=>Ai H H'/\∃ xs:List Str,xs.length=i/\ys=xs.map V.str/\∀ y∈xs,nOk y) ⟨Ai.refl _,[],rfl,rfl,λs h=>by cases h⟩ (by exact EN ()) (λi ys H' z=>by obtain ⟨_,xs,z1,z2,_⟩:=z;rw [z2,List.length_map];omega) rfl (λi ys H' hi z=>?_) λys H1 z=>?_
  ·obtain ⟨s3,xs,z1,z2,z3⟩:=z;apply Cm ?_;apply ⟨a,ns,_,rfl,s3.seq hs,λm1 yW=>?_⟩;apply ⟨_,rfl,λx H4 x0 s4=>?_⟩;refine Nx.mk hi ⟨s3.trans s4,xs++[x],by simp [z1],by rw [z2];simp,rl z3 x0⟩
  ·obtain ⟨s1,xs,z1,rfl,z3⟩:=z;intros l1 H2 s2 e2;left;intros lz H3 s3 e3;apply ⟨l1,_,rfl,.inl (AO.of (s3 _ _ e2)),?_⟩;apply .inr ⟨_,rfl,?_⟩;obtain ⟨k,ek,hk⟩:∃ k:Nat,(if decide (V.int (((xs.map V.str).length:Nat):Int)=V.int 2)=true then (1:Int) else 0).toNat=k/\k<=1:=⟨_,rfl,by split <;> decide⟩
   refine ⟨lz,_,_,rfl,rfl,e3,by split <;> decide,by split <;> decide,by split <;> exact BZ (by simp),λp5 cu=>?_⟩;rw [ek];obtain ⟨zs,ez,hz3,hzl⟩:∃ zs:List Str,(List.replicate k [V.str "z"]).flatten=zs.map V.str/\(∀ y∈zs,nOk y)/\zs.length<=1:=by
    have c:k=0\/k=1:=(by omega);rcases c with rfl | rfl
    ·exact ⟨[],rfl,(λy h=>by cases h),by simp⟩
    ·exact ⟨["z"],rfl,(λy h=>by rw [List.mem_singleton.mp h];exact ⟨⟨⟩,by decide +kernel⟩),by simp⟩
   rw [ez];have s4:=Ai.new (o:=.lst (zs.map V.str)) cu;have xl:xs.length<=2:=(by omega);refine Cy (s4 _ _ (s3 _ _ e2)) Ad (by simp only [List.length_map];exact BZ ()) λl6 H6 hl6 s6 e6=>?_;rw [<- List.map_append] at e6;have s06:=s1.trans (s2.trans (s3.trans (s4.trans s6)));apply ⟨a,ns,_,l6,xs++zs,rfl,s06.seq hs,e6,by rw [List.length_append];omega,(λy hy=>(List.mem_append.mp hy).elim (z3 y) (hz3 y)),λe r H7 s7 ha lw=>?_⟩;have yX:cost 0 e<=100000:=Nat.le_trans (SM lw.ht) TT4;have hsz:e.sz<=121:=lw.sz;apply ⟨e,r,rfl,ha,(),(),λx t ef p H8 t8 hp=>?_,λef=>⟨λv H8 t8 wv=>?_,λH8 t8=>?_⟩⟩
   ·left;intros ln H9 s9 e9;apply ⟨e,r,ln,[],rfl,Bo.mono (t8.trans (TSub.of_same s9)) ha,e9,lw.ht,by simp,lw.nz,λh iP VC=>?_,λx' t' h iP VC=>?_⟩
    ·rw [ef] at h;cases h
    ·rw [ef] at h;cases h;obtain ⟨xz,xo⟩:nOk x:=Lr lw.nz (by rw [ef];exact .head _);apply Cs (by simp [xz]) ?_;left;intros p2 H11 s11 e11;have sh:SeqAt.shaped (.tuple [.str "no name",.str x])=true:=by
      have n0:PyData.strOk "no name"=true:=(by decide +kernel);simp [SeqAt.shaped,PyData.canLay0,PyData.canLayAll0,PyData.depth,PyData.depthAll,xo,n0]
     have ev:PyData.eqv (.tuple [.str "no name",.str x]) (.tuple [.str "no name",.str x])=true:=(by simp [PyData.eqv,PyData.eqvAll]);refine ⟨.tuple [.str "no name",.str x],.tuple [.str "no name",.str x],.tup (s11 _ _ (VC _ _ (s9 _ _ hp))) (.cons (.str _) (.cons (.str _) .nil)),.tup e11 (.cons (.str _) (.cons (.str _) .nil)),sh,sh,?_⟩;rw [ev];exact q _
   ·left;intros ln H9 s9 e9;apply ⟨e,r,ln,[],rfl,Bo.mono (t8.trans (TSub.of_same s9)) ha,e9,lw.ht,by simp,lw.nz,λh iP VC=>?_,λx' t' h iP VC=>?_⟩
    ·apply CD ⟨⟩ ?_;left;obtain ⟨t,g,us,rfl,ht,g6⟩:=wv;have ck:=VC _ _ (s9 _ _ ht);refine ⟨_,rfl,.inl ⟨t,_,rfl,ck,?_⟩⟩;apply Cm ?_;apply ⟨.ref t,_,_,true,rfl,Dm.tup ck,rfl,?_⟩;apply Cm ?_;apply An ck (v:=.str (Bf g)) (Ar (j:=0) rfl) ?_;left;rw [TR g6];exact q _
    ·rw [ef] at h;cases h
   ·left;intros ln H9 s9 e9;apply ⟨e,r,ln,[],rfl,Bo.mono (t8.trans (TSub.of_same s9)) ha,e9,lw.ht,by simp,lw.nz,λh iP VC=>?_,λx' t' h iP VC=>?_⟩
    ·apply CD ⟨⟩ ?_;apply ⟨_,rfl,.inr ⟨_,rfl,?_⟩⟩;apply Cs ⟨⟩ ?_;apply ⟨.str "no",_,_,false,rfl,Dm.str _,rfl,?_⟩;apply Ck ?_;exact ⟨_,rfl,q _⟩
    ·rw [ef] at h;cases h
end
end K
namespace L2
open PySem PySem.Spec PyProof.Rows KS KX
noncomputable def rC:Value->Bool
 | .type s=>decide (s="tuple")
 | _=>false
noncomputable def rD (p:List Value->Bool):Data->Bool
 | .seq its _=>p its.toList
 | _=>false
noncomputable def tupP (K:W.Frag)(p:List Value->Bool):Value->Bool
 | .ref a=>(K.lookup a).any λo=>rC o.cls && rD p o.data
 | _=>false
noncomputable def all2 {α β:Type}(f:α->β->Bool):List α->List β->Bool
 | [],[]=>true
 | a::r,b::s=>f a b && all2 f r s
 | _,_=>false
noncomputable def QW (ns:List Nat)(xs:List Value):Bool:=all2 (λ(n:Nat) v=>Value.isInt n v) ns xs
noncomputable def QX (K:W.Frag)(row:Nat × List Nat)(v:Value):Bool:=tupP K (λl=>all2 (λf x=>f x) [Value.isInt row.1,tupP K (QW row.2)] l) v
noncomputable def VE (r:Nat × List Nat):Bool:=decide (r.2.length<=10)
noncomputable def Ca (K:W.Frag)(rows:List (Str × Value))(w:Str)(iQ:List (Nat × List Nat)):Bool:=(rowAt rows w).any (tupP K λxs=>all2 (λr v=>VE r && QX K r v) iQ xs && decide (iQ.length<=10))
noncomputable def QY (K:W.Frag)(rows:List (Str × Value)):Bool :=
 Ca K rows "name" [] && Ca K rows "number" [] && Ca K rows "truth" [] && Ca K rows "empty" [] && Ca K rows "fun" [(2,[1])] && Ca K rows "rec" [(3,[1,2])] && Ca K rows "call" [(1,[]),(2,[])] && Ca K rows "let" [(2,[]),(3,[1])] && Ca K rows "when" [(1,[]),(2,[]),(3,[])]
 && Ca K rows "pair" [(1,[]),(2,[])] && Ca K rows "open" [(1,[]),(4,[2,3])] && Ca K rows "link" [(1,[]),(2,[])] && Ca K rows "split" [(1,[]),(2,[]),(5,[3,4])] && Ca K rows "op" [(2,[]),(3,[])]
theorem Lu {a b:Bool}(h:(a && b)=true):a=true/\b=true:=by
 cases a
 ·cases h
 ·exact ⟨rfl,h⟩
theorem MD {α:Type}{o:Option α}{p:α->Bool}(h:o.any p=true):∃ a,o=some a/\p a=true:=by
 cases o
 ·cases h
 ·exact ⟨_,rfl,h⟩
theorem Hl {K:W.Frag}{p:List Value->Bool}{v:Value}(h:tupP K p v=true):∃ a,v=.ref a/\∃ its n o,K.lookup a=some o/\o.cls=.type "tuple"/\o.data=.seq its n/\p its.toList=true:=by
 cases v with
 | ref a =>
  obtain ⟨⟨c,x,d,y⟩,h1,h2⟩:=MD h;obtain ⟨h2,h3⟩:=Lu h2;cases c with
  | type s =>
   cases d with
   | seq its n=>exact ⟨a,rfl,its,n,_,h1,congrArg _ (of_decide_eq_true h2),rfl,h3⟩
   | _=>cases h3
  | _=>cases h2
 | _=>cases h
theorem Lv {K:W.Frag}{a:Addr}{its:Array Value}{n:Nat}{o:Obj}(h1:K.lookup a=some o)(h2:o.cls=.type "tuple")(h3:o.data=.seq its n){vs:List V}(r:Vals vs its.toList)(hl:vs.length<=1000):JJ K a vs :=
 ⟨o,its,n,h1,h2,h3,BZ (by have:=r.length;simp at this;omega),r⟩
theorem ints_of {ns:List Nat}:∀ {xs:List Value},QW ns xs=true->Vals (ns.map λn:Nat=>V.int n) xs:=by
 induction ns with
 | nil =>
  intro xs h;cases xs
  ·exact .nil
  ·cases h
 | cons n ns ih =>
  intro xs h;cases xs with
  | nil=>cases h
  | cons x xs =>
   obtain ⟨h1,h2⟩:=Lu h;obtain ⟨t,rfl⟩:=Value.isInt_shape h1;exact .cons ⟨t,rfl⟩ (ih h2)
theorem YF {K:W.Frag}{v:Value}{row:Nat × List Nat}(hr:row.2.length<=10)(h:QX K row v=true):∃ b,v=.ref b/\Sz K row (.ref b):=by
 obtain ⟨b,rfl,its,n,o,h1,h2,h3,h4⟩:=Hl h;generalize e:its.toList=l at h4;cases l with
 | nil=>cases h4
 | cons x l =>
  obtain ⟨h5,h6⟩:=Lu h4;cases l with
  | nil=>cases h6
  | cons y l =>
   obtain ⟨h7,h8⟩:=Lu h6;cases l with
   | cons _ _=>cases h8
   | nil =>
    obtain ⟨t,rfl⟩:=Value.isInt_shape h5;obtain ⟨c,rfl,its',n',o',k1,k2,k3,k4⟩:=Hl h7;exact ⟨b,rfl,b,c,rfl,Lv h1 h2 h3 (e▸.cons ⟨t,rfl⟩ (.cons rfl .nil)) (by simp),Lv k1 k2 k3 (ints_of k4) (by simp;omega)⟩
theorem TU {K:W.Frag}{rs:List (Nat × List Nat)}:∀ {vs:List Value},all2 (λr v=>VE r && QX K r v) rs vs=true->∃ us,Vals us vs/\Paired (Sz K) rs us:=by
 induction rs with
 | nil =>
  intro vs h;cases vs
  ·exact ⟨[],.nil,.nil⟩
  ·cases h
 | cons r rs ih =>
  intro vs h;cases vs with
  | nil=>cases h
  | cons v vs =>
   obtain ⟨h1,h2⟩:=Lu h;obtain ⟨h3,h1⟩:=Lu h1;obtain ⟨b,rfl,kb⟩:=YF (of_decide_eq_true h3) h1;obtain ⟨us,h1,h2⟩:=ih h2;exact ⟨.ref b::us,.cons rfl h1,.cons kb h2⟩
theorem BL {K:W.Frag}{rows:List (Str × Value)}{w:Str}{iQ:List (Nat × List Nat)}(h:Ca K rows w iQ=true):∃ a us,rowAt rows w=some (.ref a)/\JJ K a us/\Paired (Sz K) iQ us:=by
 obtain ⟨v,e,h⟩:=MD h;obtain ⟨a,rfl,its,n,o,h1,h2,h3,h4⟩:=Hl h;obtain ⟨h4,h5⟩:=Lu h4;obtain ⟨us,g1,g2⟩:=TU h4;have:=Paired.len g2;have:=of_decide_eq_true h5;exact ⟨a,us,e,Lv h1 h2 h3 g1 (),g2⟩
theorem YG {K:W.Frag}{rows:List (Str × Value)}(h:QY K rows=true):xw K rows:=by
 simp only [QY,Bool.and_eq_true] at h;obtain ⟨⟨⟨⟨⟨⟨⟨⟨⟨⟨⟨⟨⟨h1,h2⟩,h3⟩,h4⟩,h5⟩,h6⟩,h7⟩,h8⟩,h9⟩,h10⟩,h11⟩,h12⟩,h13⟩,h14⟩:=h;intro e;cases e
 ·exact BL h1
 ·exact BL h2
 ·exact BL h3
 ·exact BL h4
 ·exact BL h5
 ·exact BL h6
 ·exact BL h7
 ·exact BL h8
 ·exact BL h9
 ·exact BL h10
 ·exact BL h11
 ·exact BL h12
 ·exact BL h13
 ·exact BL h14
end L2
end
namespace L2
open PySem PySem.Spec PyProof.Rows KS
abbrev fe (n:Str)(st:Stmt)(ps:List Str)(f:Addr)(d:FuncData):Str × Stmt × List Str × Addr × FuncData:=(n,st,ps,f,d)
noncomputable def FL (K:W.Frag):List (Str × Stmt × List Str × Addr × FuncData)->Prop
 | []=>True
 | (n,st,ps,f,d)::r=>(W.nsIn K mainGlobals n=some (some (.ref f))/\B' K n n st f d/\∀ (kV doc pm:Value) (an:Option Addr) (B7 ct:Value) (us:List Value),us.length=ps.length->bindArgs (W.fnOf n n (AI st) (Az st) (Af st) .none kV doc pm an B7 ct) ⟨us,[]⟩=pure (ps.zip us))/\FL K r
noncomputable def FD (K:W.Frag)(mg:Str->Option Value):List (Str × Stmt × List Str × Addr × FuncData)->Prop
 | []=>True
 | (n,st,ps,f,d)::r=>Df K mg n st ps f d/\FD K mg r
theorem FL.get {K:W.Frag}{mg:Str->Option Value}{h:Heap}(X:K.In h)(G:h.Ns mainGlobals mg):∀ {l:List (Str × Stmt × List Str × Addr × FuncData)},FL K l->FD K mg l
 | [],_=>trivial
 | (_,_,_,_,_)::_,q=>⟨⟨q.1.2.1,q.1.2.1.binds q.1.2.2,W.mg_of X G q.1.1⟩,FL.get X G q.2⟩
noncomputable def cw (K:W.Frag):List Str->Prop
 | []=>True
 | n::r=>W.nsIn K mainGlobals n=some none/\cw K r
noncomputable def yY (mg:Str->Option Value):List Str->Prop
 | []=>True
 | n::r=>mg n=none/\yY mg r
theorem cw.get {K:W.Frag}{mg:Str->Option Value}{h:Heap}(X:K.In h)(G:h.Ns mainGlobals mg):∀ {l:List Str},cw K l->yY mg l
 | [],_=>trivial
 | _::_,q=>⟨W.mg_none_of X G q.1,cw.get X G q.2⟩
theorem Aeb {R:List Value->Prop}{n:Nat}(h:(n=1/\∀ a,R [a])\/(n=2/\∀ a b,R [a,b])\/(n=3/\∀ a b c,R [a,b,c])\/(n=5/\∀ a b c d e,R [a,b,c,d,e])\/(n=7/\∀ a b c d e f g,R [a,b,c,d,e,f,g])\/(n=4/\∀ a b c d,R [a,b,c,d]))(us:List Value)(hu:us.length=n):R us:=by
 rcases h with ⟨rfl,h⟩ | ⟨rfl,h⟩ | ⟨rfl,h⟩ | ⟨rfl,h⟩ | ⟨rfl,h⟩ | ⟨rfl,h⟩
 ·rcases us with _ | ⟨a,_ | ⟨b,us⟩⟩ <;> simp at hu;exact h a
 ·rcases us with _ | ⟨a,_ | ⟨b,_ | ⟨c,us⟩⟩⟩ <;> simp at hu;exact h a b
 ·rcases us with _ | ⟨a,_ | ⟨b,_ | ⟨c,_ | ⟨d,us⟩⟩⟩⟩ <;> simp at hu;exact h a b c
 ·rcases us with _ | ⟨a,_ | ⟨b,_ | ⟨c,_ | ⟨d,_ | ⟨e,_ | ⟨f,us⟩⟩⟩⟩⟩⟩ <;> simp at hu;exact h a b c d e
 ·rcases us with _ | ⟨a,_ | ⟨b,_ | ⟨c,_ | ⟨d,_ | ⟨e,_ | ⟨f,_ | ⟨g,_ | ⟨i,us⟩⟩⟩⟩⟩⟩⟩⟩ <;> simp at hu;exact h a b c d e f g
 ·rcases us with _ | ⟨a,_ | ⟨b,_ | ⟨c,_ | ⟨d,_ | ⟨e,us⟩⟩⟩⟩⟩ <;> simp at hu;exact h a b c d
end L2
namespace K
open PySem L2 KM KS KX KN
theorem all_mk {l:W.OpenLaw}{q:Program}{loose:List Str}{w:World}{K:W.Frag}{h:Heap}{mg mb:Str->Option Value}{Sf:ExcName->Option Value}{fa:Addr}{ts:List Addr}(X:K.In h)(WN:∀ P∈ts,h.get? P=some (W.tabObj #[]))(T0:PyProof.Rows.Top q loose Sf mg mb h)(hfa:mg "law"=some (.ref fa))
  {C:Addr}
  {f0:Addr} {o1 a2:Option Addr} {s3:Array (Option Value)} {o4 k5 d6 p7 c8:Value}
  {c9:Value}
  {iR:Addr} {o11 a12:Option Addr} {TL:Array (Option Value)} {o14 k15 d16 p17 c18:Value}
  {yZ:Value}
  {iS:Addr} {o21 a22:Option Addr} {s23:Array (Option Value)} {o24 k25 d26 p27 c28:Value}
  {y':Value}
  {iT:Addr} {o31 a32:Option Addr} {s33:Array (Option Value)} {o34 k35 d36 p37 c38:Value}
  {z7:Value}
  {iU:Addr} {o41 a42:Option Addr} {s43:Array (Option Value)} {o44 k45 d46 p47 c48:Value}
  {z8:Value}
  {iV:Addr} {o51 a52:Option Addr} {s53:Array (Option Value)} {o54 k55 d56 p57 c58:Value}
  {z9:Value}
  {iW:Addr} {o61 a62:Option Addr} {s63:Array (Option Value)} {o64 k65 d66 p67 c68:Value}
  {za:Value}
  {iX:Addr} {o71 a72:Option Addr} {s73:Array (Option Value)} {o74 k75 d76 p77 c78:Value}
  {zb:Value}
  {iY:Addr} {o81 a82:Option Addr} {s83:Array (Option Value)} {o84 k85 d86 p87 c88:Value}
  {zc:Value}
  {iZ:Addr} {o91 a92:Option Addr} {s93:Array (Option Value)} {o94 k95 d96 p97 c98:Value}
  {zd:Value}
  {QZ:Addr} {rE rF:Option Addr} {rG:Array (Option Value)} {rH rJ rK rL rM:Value}
  {j4:Value}
  {R0:Addr} {rN rO:Option Addr} {rP:Array (Option Value)} {rQ rR rS rT rV:Value}
  {j6:Value}
  {R1:Addr} {rW rX:Option Addr} {rY:Array (Option Value)} {rZ sf sj su sv:Value}
  {j7:Value}
  {D:Addr}
  {R3:Addr} {sx sy:Option Addr} {sA:Array (Option Value)} {sC sE sF sG sH:Value}
  {j8:Value}
  {R4:Addr} {sI sJ:Option Addr} {sL:Array (Option Value)} {sO sP sQ sR sS:Value}
  {j9:Value}
  {R5:Addr} {sT sU:Option Addr} {sV:Array (Option Value)} {sW sX sY sZ t9:Value}
  {ja:Value}
  {R6:Addr} {tj tq:Option Addr} {tw:Array (Option Value)} {tD tE tF tG tH:Value}
  {jb:Value}
  {R7:Addr} {tI tJ:Option Addr} {tK:Array (Option Value)} {tM tN tO tP tQ:Value}
  {jc:Value}
  {R8:Addr} {tR tS:Option Addr} {tU:Array (Option Value)} {tV tW tX tY tZ:Value}
  {jd:Value}
  {TV TX TY T' U3 U6 U8 Ua Ub Uc Ud Ue Ug Uh u3 u4 u5 u6 u7 u9 ub uc ud ue ug uh ui uj uk um:Addr} {K2 HC J1 J2 Lx Ly K3 Lz K4 K5 K7 K8 J3 Oa Eu R9 Ob LA F6 J4 G6 Ew K9 LB LC Ka LD Kb FP J5:FuncData}
  {YH:Addr} {uo je:Option Addr} {uq:Array (Option Value)} {ur jf jg jh ji:Value}
  {YI:Value}
  {Oc:Addr} {uu uv:Option Addr} {uw:Array (Option Value)} {ux uy uz uA uB:Value}
  {jk:Value}
  {CK CJ CN CM CS c6 uC:Addr} {Kc Od:Array DictEntry} {jl jm:Nat}
  (aC:W.nsIn K mainGlobals "Nodes"=some (some (.ref C)))
  (Ui:W.findIn K (.ref C) "__init__"=some (some (.ref f0)))
  (Uj:W.isFn K (.ref f0)=true)
  (YJ:K.lookup f0=some ⟨o4,o1,.func (W.fnOf "__init__" "Nodes.__init__" (AI Bc) (Az Bc) (Af Bc) .none k5 d6 p7 a2 c9 c8),s3⟩)
  (YK:W.codeIn K c9 "Nodes.__init__"=true)
  (Uk:W.keepIn K (.ref f0)=true)
  (YL:W.findIn K (.ref C) "new_node"=some (some (.ref iR)))
  (YM:W.isFn K (.ref iR)=true)
  (YN:K.lookup iR=some ⟨o14,o11,.func (W.fnOf "new_node" "Nodes.new_node" (AI Bd) (Az Bd) (Af Bd) .none k15 d16 p17 a12 yZ c18),TL⟩)
  (YO:W.codeIn K yZ "Nodes.new_node"=true)
  (Ul:W.keepIn K (.ref iR)=true)
  (YQ:W.findIn K (.ref C) "new_gap"=some (some (.ref iS)))
  (YR:W.isFn K (.ref iS)=true)
  (YS:K.lookup iS=some ⟨o24,o21,.func (W.fnOf "new_gap" "Nodes.new_gap" (AI Bl) (Az Bl) (Af Bl) .none k25 d26 p27 a22 y' c28),s23⟩)
  (YT:W.codeIn K y' "Nodes.new_gap"=true)
  (Um:W.keepIn K (.ref iS)=true)
  (YU:W.findIn K (.ref C) "leader"=some (some (.ref iT)))
  (YV:W.isFn K (.ref iT)=true)
  (YW:K.lookup iT=some ⟨o34,o31,.func (W.fnOf "leader" "Nodes.leader" (AI Bx) (Az Bx) (Af Bx) .none k35 d36 p37 a32 z7 c38),s33⟩)
  (YX:W.codeIn K z7 "Nodes.leader"=true)
  (Uo:W.keepIn K (.ref iT)=true)
  (YY:W.findIn K (.ref C) "inner_leaders"=some (some (.ref iU)))
  (YZ:W.isFn K (.ref iU)=true)
  (Y':K.lookup iU=some ⟨o44,o41,.func (W.fnOf "inner_leaders" "Nodes.inner_leaders" (AI Ax) (Az Ax) (Af Ax) .none k45 d46 p47 a42 z8 c48),s43⟩)
  (Z0:W.codeIn K z8 "Nodes.inner_leaders"=true)
  (Up:W.keepIn K (.ref iU)=true)
  (Z3:W.findIn K (.ref C) "sink"=some (some (.ref iV)))
  (Z4:W.isFn K (.ref iV)=true)
  (Z5:K.lookup iV=some ⟨o54,o51,.func (W.fnOf "sink" "Nodes.sink" (AI BU) (Az BU) (Af BU) .none k55 d56 p57 a52 z9 c58),s53⟩)
  (Z6:W.codeIn K z9 "Nodes.sink"=true)
  (Uq:W.keepIn K (.ref iV)=true)
  (Z7:W.findIn K (.ref C) "follow"=some (some (.ref iW)))
  (Z8:W.isFn K (.ref iW)=true)
  (Z9:K.lookup iW=some ⟨o64,o61,.func (W.fnOf "follow" "Nodes.follow" (AI By) (Az By) (Af By) .none k65 d66 p67 a62 za c68),s63⟩)
  (Za:W.codeIn K za "Nodes.follow"=true)
  (Ur:W.keepIn K (.ref iW)=true)
  (Zb:W.findIn K (.ref C) "make_same"=some (some (.ref iX)))
  (Zc:W.isFn K (.ref iX)=true)
  (Zd:K.lookup iX=some ⟨o74,o71,.func (W.fnOf "make_same" "Nodes.make_same" (AI B3) (Az B3) (Af B3) .none k75 d76 p77 a72 zb c78),s73⟩)
  (Ze:W.codeIn K zb "Nodes.make_same"=true)
  (Us:W.keepIn K (.ref iX)=true)
  (Zf:W.findIn K (.ref C) "go_deeper"=some (some (.ref iY)))
  (Zg:W.isFn K (.ref iY)=true)
  (Zh:K.lookup iY=some ⟨o84,o81,.func (W.fnOf "go_deeper" "Nodes.go_deeper" (AI B4) (Az B4) (Af B4) .none k85 d86 p87 a82 zc c88),s83⟩)
  (Zi:W.codeIn K zc "Nodes.go_deeper"=true)
  (Ut:W.keepIn K (.ref iY)=true)
  (Zj:W.findIn K (.ref C) "come_back"=some (some (.ref iZ)))
  (Zk:W.isFn K (.ref iZ)=true)
  (Zl:K.lookup iZ=some ⟨o94,o91,.func (W.fnOf "come_back" "Nodes.come_back" (AI AA) (Az AA) (Af AA) .none k95 d96 p97 a92 zd c98),s93⟩)
  (Zm:W.codeIn K zd "Nodes.come_back"=true)
  (Uu:W.keepIn K (.ref iZ)=true)
  (Zn:W.findIn K (.ref C) "copied"=some (some (.ref QZ)))
  (Zo:W.isFn K (.ref QZ)=true)
  (Zp:K.lookup QZ=some ⟨rH,rE,.func (W.fnOf "copied" "Nodes.copied" (AI B0) (Az B0) (Af B0) .none rJ rK rL rF j4 rM),rG⟩)
  (Zq:W.codeIn K j4 "Nodes.copied"=true)
  (Uv:W.keepIn K (.ref QZ)=true)
  (Zs:W.findIn K (.ref C) "number_gaps"=some (some (.ref R0)))
  (Zt:W.isFn K (.ref R0)=true)
  (Zu:K.lookup R0=some ⟨rQ,rN,.func (W.fnOf "number_gaps" "Nodes.number_gaps" (AI AW) (Az AW) (Af AW) .none rR rS rT rO j6 rV),rP⟩)
  (Zv:W.codeIn K j6 "Nodes.number_gaps"=true)
  (Uw:W.keepIn K (.ref R0)=true)
  (Zw:W.findIn K (.ref C) "kinds_under"=some (some (.ref R1)))
  (Zx:W.isFn K (.ref R1)=true)
  (Zy:K.lookup R1=some ⟨rZ,rW,.func (W.fnOf "kinds_under" "Nodes.kinds_under" (AI As) (Az As) (Af As) .none sf sj su rX j7 sv),rY⟩)
  (Zz:W.codeIn K j7 "Nodes.kinds_under"=true)
  (Ux:W.keepIn K (.ref R1)=true)
  (uD:W.plainGet K C Str.empty=true)
  (uE:W.hasDictIn K C=true)
  (uF:W.plainOver K C=true)
  (uG:W.findIn K (.ref C) "__setattr__"=some (some (.builtin "object.__setattr__")))
  (uH:W.makesIn K C=true)
  (uI:W.keepIn K (.ref C)=true)
  (uJ:W.findIn K (.ref C) "sorts"=some none)
  (uK:W.findIn K (.ref C) "inner"=some none)
  (uL:W.findIn K (.ref C) "leaders"=some none)
  (uM:W.findIn K (.ref C) "levels"=some none)
  (uN:W.findIn K (.ref C) "level"=some none)
  (uO:W.findIn K (.ref C) "gaps"=some none)
  (aD:W.nsIn K mainGlobals "Finder"=some (some (.ref D)))
  (Uy:W.findIn K (.ref D) "__init__"=some (some (.ref R3)))
  (Uz:W.isFn K (.ref R3)=true)
  (ZA:K.lookup R3=some ⟨sC,sx,.func (W.fnOf "__init__" "Finder.__init__" (AI B5) (Az B5) (Af B5) .none sE sF sG sy j8 sH),sA⟩)
  (ZC:W.codeIn K j8 "Finder.__init__"=true)
  (UA:W.keepIn K (.ref R3)=true)
  (ZD:W.findIn K (.ref D) "ask"=some (some (.ref R4)))
  (ZE:W.isFn K (.ref R4)=true)
  (ZF:K.lookup R4=some ⟨sO,sI,.func (W.fnOf "ask" "Finder.ask" (AI BV) (Az BV) (Af BV) .none sP sQ sR sJ j9 sS),sL⟩)
  (ZG:W.codeIn K j9 "Finder.ask"=true)
  (UB:W.keepIn K (.ref R4)=true)
  (ZH:W.findIn K (.ref D) "ask_behind_first"=some (some (.ref R5)))
  (ZI:W.isFn K (.ref R5)=true)
  (ZJ:K.lookup R5=some ⟨sW,sT,.func (W.fnOf "ask_behind_first" "Finder.ask_behind_first" (AI AB) (Az AB) (Af AB) .none sX sY sZ sU ja t9),sV⟩)
  (ZK:W.codeIn K ja "Finder.ask_behind_first"=true)
  (UC:W.keepIn K (.ref R5)=true)
  (ZL:W.findIn K (.ref D) "has_sort"=some (some (.ref R6)))
  (ZN:W.isFn K (.ref R6)=true)
  (ZO:K.lookup R6=some ⟨tD,tj,.func (W.fnOf "has_sort" "Finder.has_sort" (AI B6) (Az B6) (Af B6) .none tE tF tG tq jb tH),tw⟩)
  (ZP:W.codeIn K jb "Finder.has_sort"=true)
  (UD:W.keepIn K (.ref R6)=true)
  (ZQ:W.findIn K (.ref D) "given_too"=some (some (.ref R7)))
  (ZR:W.isFn K (.ref R7)=true)
  (ZS:K.lookup R7=some ⟨tM,tI,.func (W.fnOf "given_too" "Finder.given_too" (AI AZ) (Az AZ) (Af AZ) .none tN tO tP tJ jc tQ),tK⟩)
  (ZT:W.codeIn K jc "Finder.given_too"=true)
  (UE:W.keepIn K (.ref R7)=true)
  (ZU:W.findIn K (.ref D) "ask_all"=some (some (.ref R8)))
  (ZV:W.isFn K (.ref R8)=true)
  (ZW:K.lookup R8=some ⟨tV,tR,.func (W.fnOf "ask_all" "Finder.ask_all" (AI Be) (Az Be) (Af Be) .none tW tX tY tS jd tZ),tU⟩)
  (ZX:W.codeIn K jd "Finder.ask_all"=true)
  (UG:W.keepIn K (.ref R8)=true)
  (uP:W.plainGet K D Str.empty=true)
  (hdD:W.hasDictIn K D=true)
  (uQ:W.plainOver K D=true)
  (uR:W.findIn K (.ref D) "__setattr__"=some (some (.builtin "object.__setattr__")))
  (uS:W.makesIn K D=true)
  (uT:W.keepIn K (.ref D)=true)
  (uU:W.findIn K (.ref D) "nodes"=some none)
  (uV:W.findIn K (.ref D) "number"=some none)
  (uW:W.findIn K (.ref D) "truth"=some none)
  (uX:W.findIn K (.ref D) "waiting"=some none)
  (HF:FL K [fe "find_name" Ek ["finder","tree","given","node"] TV K2,fe "find_number" Dy ["finder","tree","given","node"] TX HC,fe "find_truth" DS ["finder","tree","given","node"] TY J1,fe "find_empty" DT ["finder","tree","given","node"] T' J2,fe "find_fun" EZ ["finder","tree","given","node"] U3 Lx,fe "find_rec" F0 ["finder","tree","given","node"] U6 Ly,fe "find_call" El ["finder","tree","given","node"] U8 K3,fe "find_let" F1 ["finder","tree","given","node"] Ua Lz,fe "find_when" Em ["finder","tree","given","node"] Ub K4,fe "find_pair" En ["finder","tree","given","node"] Uc K5,fe "find_open" Eo ["finder","tree","given","node"] Ud K7,fe "find_link" Ep ["finder","tree","given","node"] Ue K8,fe "find_split" DU ["finder","tree","given","node"] Ug J3,fe "find_op" FI ["finder","tree","given","node"] Uh Oa,fe "go_on_behind_first" BP ["finder","tree","given","node","first"] u3 Eu,fe "widest" GR ["tree"] u4 R9,fe "kind_of" FK ["tree"] u5 Ob,fe "names_at" Dh ["tree","places"] u6 LA,fe "parts_with_names" Bg ["tree"] u7 F6,fe "with_names" DR ["given","names"] u9 J4,fe "missing_names" CY ["tree"] ub G6,fe "first_missing_name" BO ["tree"] uc Ew,fe "_law_cell" PY ME ud K9,fe "_law_mix" Xh ME ue LB,fe "_law_int" F2 ["_law_number"] ug LC,fe "_law_name" Er ["_law_number"] uh Ka,fe "_law_any" DV ["_law_script","_law_k","_law_names","_law_deep"] ui LD,fe "_law_form" Ds ["_law_script","_law_k","_law_names","_law_deep","_law_number"] uj Kb,fe "_law_kind_told" Ct ["_law_tree"] uk FP,fe "_law_first" D3 ["_law_tree","_law_names"] um J5])
  (HN:cw K ["range","dict","list","reversed","tuple","len","isinstance","int","zip","max"])
  (UH:W.nsIn K mainGlobals "law"=some (some (.ref YH)))
  (ZY:K.lookup YH=some ⟨ur,uo,.func (W.fnOf "law" "law" (AI GU) (Az GU) (Af GU) .none jf jg jh je YI ji),uq⟩)
  (ZZ:W.codeIn K YI "law"=true)
  (a8:W.keepIn K (.ref YH)=true)
  (aK:W.nsIn K mainGlobals "KindError"=some (some (.ref CK)))
  (aJ:W.nsIn K mainGlobals "NoJoin"=some (some (.ref CJ)))
  (aN:W.nsIn K mainGlobals "NoKind"=some (some (.ref CN)))
  (aM:W.nsIn K mainGlobals "NoName"=some (some (.ref CM)))
  (aS:W.nsIn K mainGlobals "Stuck"=some (some (.ref CS)))
  (jn:W.findIn K (.ref CM) "__init__"=some (some (.ref Oc)))
  (a9:W.isFn K (.ref Oc)=true)
  (af:K.lookup Oc=some ⟨ux,uu,.func (W.fnOf "__init__" "NoName.__init__" (AI B2) (Az B2) (Af B2) .none uy uz uA uv jk uB),uw⟩)
  (ag:W.codeIn K jk "NoName.__init__"=true)
  (ah:W.keepIn K (.ref Oc)=true)
  (x344:W.excIn K CK [.type "ValueError",.type "Exception",.type "BaseException",.type "object"] "ValueError.__new__"=true)
  (x345:W.excIn K CJ [.type "ValueError",.type "Exception",.type "BaseException",.type "object"] "ValueError.__new__"=true)
  (x346:W.excIn K CN [.type "ValueError",.type "Exception",.type "BaseException",.type "object"] "ValueError.__new__"=true)
  (x347:W.findIn K (.ref CN) "__class__"=some (some (.builtin "object.__class__")))
  (ai:W.findIn K (.ref CN) "__getattribute__"=some (some (.builtin "BaseException.__getattribute__")))
  (x349:W.findIn K (.ref CN) "__getattr__"=some none)
  (x350:DZ K CM [.type "ValueError",.type "Exception",.type "BaseException",.type "object"] "ValueError.__new__" Oc=true)
  (aj:W.findIn K (.ref CM) "__class__"=some (some (.builtin "object.__class__")))
  (x352:W.findIn K (.ref CM) "__getattribute__"=some (some (.builtin "BaseException.__getattribute__")))
  (x353:W.findIn K (.ref CM) "__getattr__"=some none)
  (ak:W.findIn K (.ref CM) "__setattr__"=some (some (.builtin "object.__setattr__")))
  (UI:W.findIn K (.ref CM) "name"=some none)
  (x356:(FF K CJ).contains (.ref CJ)=true)
  (x357:(FF K CM).contains (.ref CK)=true)
  (x358:(FF K CN).contains (.ref CK)=true)
  (x359:W.kitOne K (.ref CM) (.ref CM)=some true)
  (x360:W.kitOne K (.ref CN) (.ref CM)=some false)
  (x361:W.kitOne K (.ref CN) (.ref CN)=some true)
  (x362:W.kitAny K (.ref CN) [.ref CJ,.ref CS]=some false)
  (x363:W.kitOne K (.type "NoneType") (.ref CM)=some false)
  (uY:W.nsIn K mainGlobals "PLACES"=some (some (.ref c6)))
  (uZ:K.lookup c6=some ⟨.type "dict",none,.dict Kc jl,#[]⟩)
  (v5:Kc.toList=Kc.toList.map (K' w))
  (v8:(Kc.toList.all λe=>IH e.key)=true)
  (v9:W.nsIn K mainGlobals "RULES"=some (some (.ref uC)))
  (va:K.lookup uC=some ⟨.type "dict",none,.dict Od jm,#[]⟩)
  (vd:Od.toList=Od.toList.map (K' w))
  (ve:(Od.toList.all λe=>IH e.key)=true)
  (vf:(Vk Kc.toList).map (·.1)=(["name","number","truth","empty","fun","rec","call","let","when","pair","open","link","split","op"]:List Str))
  (vg:QY K (Vk Kc.toList)=true)
  (vh:Vk Od.toList=([("name",.ref TV),("number",.ref TX),("truth",.ref TY),("empty",.ref T'),("fun",.ref U3),("rec",.ref U6),("call",.ref U8),("let",.ref Ua),("when",.ref Ub),("pair",.ref Uc),("open",.ref Ud),("link",.ref Ue),("split",.ref Ug),("op",.ref Uh)]:List (Str × Value)))
  (hK:W.noTabs K=true) :
  ∃ (fd:FuncData) (tabs:List (Addr × Addr)),W.noTabs K=true/\W.TabsAt tabs h/\(∀ (s:Shared) (u:Value),BindsTo s fd ⟨[u],[]⟩ [("_law_script",u)]) /\
    ∀ base:Heap,K.In base->base.Ns mainGlobals mg->(∀ q∈tabs,M8 base mg q.1 q.2)->Av l.prog w K mg base Bs 12 fa fd ["_law_script"] (Po K 63 (tabs.map (·.2))):=by
 have G:=T0.g;have e0:=hfa.symm.trans (W.mg_of X G UH);cases e0;have mgC:=W.mg_of X G aC;have jo:=Bq (st:=Bc) YJ YK Uk;have vi:=jo.binds (ps:=["self"]) λ_ _ _ _ _ _=>NC (λ_=>rfl);have Agd:Meth K C "__init__" f0:=⟨Ui,Uj,Uk⟩;have jq:=Bq (st:=Bd) YN YO Ul;have ao:=jq.binds (ps:=["self","word","inner"]) λ_ _ _ _ _ _=>KZ (λ_ _ _=>rfl);have aq:Meth K C "new_node" iR:=⟨YL,YM,Ul⟩;have jr:=Bq (st:=Bl) YS YT Um;have vj:=jr.binds (ps:=["self"]) λ_ _ _ _ _ _=>NC (λ_=>rfl);have vk:Meth K C "new_gap" iS:=⟨YQ,YR,Um⟩;have jt:=Bq (st:=Bx) YW YX Uo;have Oe:=jt.binds (ps:=["self","node"]) λ_ _ _ _ _ _=>JD D1;have Og:Meth K C "leader" iT:=⟨YU,YV,Uo⟩;have ju:=Bq (st:=Ax) Y' Z0 Up;have au:=ju.binds (ps:=["self","node"]) λ_ _ _ _ _ _=>JD D1;have av:Meth K C "inner_leaders" iU:=⟨YY,YZ,Up⟩;have jv:=Bq (st:=BU) Z5 Z6 Uq;have vm:=jv.binds (ps:=["self","node","level"]) λ_ _ _ _ _ _=>KZ (λ_ _ _=>rfl);have vo:Meth K C "sink" iV:=⟨Z3,Z4,Uq⟩;have jw:=Bq (st:=By) Z9 Za Ur;have vp:=jw.binds (ps:=["self","node","leader"]) λ_ _ _ _ _ _=>KZ (λ_ _ _=>rfl);have vq:Meth K C "follow" iW:=⟨Z7,Z8,Ur⟩;have jx:=Bq (st:=B3) Zd Ze Us;have vt:=jx.binds (ps:=["self","one","other"]) λ_ _ _ _ _ _=>KZ (λ_ _ _=>rfl);have vv:Meth K C "make_same" iX:=⟨Zb,Zc,Us⟩;have jy:=Bq (st:=B4) Zh Zi Ut;have vx:=jy.binds (ps:=["self"]) λ_ _ _ _ _ _=>NC (λ_=>rfl);have vy:Meth K C "go_deeper" iY:=⟨Zf,Zg,Ut⟩;have jz:=Bq (st:=AA) Zl Zm Uu;have vz:=jz.binds (ps:=["self","top"]) λ_ _ _ _ _ _=>JD D1;have vA:Meth K C "come_back" iZ:=⟨Zj,Zk,Uu⟩;have jA:=Bq (st:=B0) Zp Zq Uv;have vB:=jA.binds (ps:=["self","top","level"]) λ_ _ _ _ _ _=>KZ (λ_ _ _=>rfl);have vC:Meth K C "copied" QZ:=⟨Zn,Zo,Uv⟩;have jB:=Bq (st:=AW) Zu Zv Uw;have vD:=jB.binds (ps:=["self","tops"]) λ_ _ _ _ _ _=>JD D1;have vE:Meth K C "number_gaps" R0:=⟨Zs,Zt,Uw⟩;have jC:=Bq (st:=As) Zy Zz Ux;have vF:=jC.binds (ps:=["self","tops"]) λ_ _ _ _ _ _=>JD D1;have vG:Meth K C "kinds_under" R1:=⟨Zw,Zx,Ux⟩;have mgD:=W.mg_of X G aD;have jD:=Bq (st:=B5) ZA ZC UA;have vH:=jD.binds (ps:=["self"]) λ_ _ _ _ _ _=>NC (λ_=>rfl);have Agf:Meth K D "__init__" R3:=⟨Uy,Uz,UA⟩;have jE:=Bq (st:=BV) ZF ZG UB;have vI:=jE.binds (ps:=["self","tree","given","node"]) λ_ _ _ _ _ _=>Xc (λ_ _ _ _=>rfl);have vJ:Meth K D "ask" R4:=⟨ZD,ZE,UB⟩;have jF:=Bq (st:=AB) ZJ ZK UC;have vK:=jF.binds (ps:=["self","tree","given","node","first"]) λ_ _ _ _ _ _=>om (λ_ _ _ _ _=>rfl)
 have vL:Meth K D "ask_behind_first" R5:=⟨ZH,ZI,UC⟩;have jG:=Bq (st:=B6) ZO ZP UD;have vM:=jG.binds (ps:=["self","node","word","inner"]) λ_ _ _ _ _ _=>Xc (λ_ _ _ _=>rfl);have vN:Meth K D "has_sort" R6:=⟨ZL,ZN,UD⟩;have jH:=Bq (st:=AZ) ZS ZT UE;have vO:=jH.binds (ps:=["self","given","names"]) λ_ _ _ _ _ _=>KZ (λ_ _ _=>rfl);have vP:Meth K D "given_too" R7:=⟨ZQ,ZR,UE⟩;have jI:=Bq (st:=Be) ZW ZX UG;have vQ:=jI.binds (ps:=["self"]) λ_ _ _ _ _ _=>NC (λ_=>rfl);have vR:Meth K D "ask_all" R8:=⟨ZU,ZV,UG⟩;have jJ:=Bq (st:=B2) af ag ah;have vS:=jJ.binds (ps:=["self","name"]) λ_ _ _ _ _ _=>JD D1;obtain ⟨ax,ay,az,aA,aB,aE,aF,aH,aO,aP,aQ,aT,aU,aW,jK,UJ,UK,jL,jM,jN,jO,jP,UL,jQ,jR,jS,vT,vU,jT,vV,_⟩:=FL.get X G HF;obtain ⟨aX,jU,UM,jV,UN,Ra,aY,jW,vW,vX,_⟩:=cw.get X G HN;have vY:=Bq (st:=GU) ZY ZZ a8;have Agg:=W.mg_of X G UH;refine ⟨_,[],hK,?_,λs v=>(.of_eq rfl:BindsTo s (W.fnOf "law" "law" (AI GU) (Az GU) (Af GU) .none jf jg jh je YI ji) ⟨[v],[]⟩ [("_law_script",v)]),λbase KB GB hN=>?_⟩
 ·intro q hq;cases hq
 ·skip
  have T:BR K mg C:=⟨⟨uD,uE,uF,uG⟩,uJ,uK,uL,uM,uN,uO,mgC,Ra⟩;have TF:CL K mg D:=⟨⟨uP,hdD,uQ,uR⟩,uU,uV,uW,uX,mgD⟩;have EJ:=PySem.F.excBase_ValueError;have mJ:=W.mg_of X G aJ;have mN:=W.mg_of X G aN;have mM:=W.mg_of X G aM;have qt:=W.mg_of X G uY;have mRU:=W.mg_of X G v9;have vZ:Fq w K c6 (Vk Kc.toList):=⟨⟨Kc,jl,uZ,v5,v8,rfl⟩,by rw [vf];decide +kernel⟩;have w9:Fq w K uC _:=⟨⟨Od,jm,va,vd,ve,vh⟩,by simp only [List.map_cons,List.map_nil];decide +kernel⟩;have GL:=NI (Pr:=l.prog) (w:=w) (base:=base) jt T;have wa:=Xp (Pr:=l.prog) (w:=w) (base:=base) jq T;have GNg:=SN (Pr:=l.prog) (w:=w) (base:=base) jr T wa ao aq;have GDp:=SQ (Pr:=l.prog) (w:=w) (base:=base) jy T;have T5:=Qb (Pr:=l.prog) (w:=w) (base:=base) ju T GL Oe Og;have GSk:=SV (Pr:=l.prog) (w:=w) (base:=base) jv T GL Oe Og;have GFo:=NJ (Pr:=l.prog) (w:=w) (base:=base) jw T GSk vm vo;have GMs:=SX (Pr:=l.prog) (w:=w) (base:=base) jx T mJ x345 EJ UM vW GL Oe Og GFo vp vq;have GCp:=NQ (Pr:=l.prog) (w:=w) (base:=base) jA T GL Oe Og wa ao aq T5 au av;have GBk:=Ta (Pr:=l.prog) (w:=w) (base:=base) jz T vX GL Oe Og T5 au av;have Z:NM l.prog w K mg base C CJ:=⟨⟨_,_,wa,ao,aq⟩,⟨_,_,GNg,vj,vk⟩,⟨_,_,GDp,vx,vy⟩,⟨_,_,GMs,vt,vv⟩,⟨_,_,GBk,vz,vA⟩,⟨_,_,GCp,vB,vC⟩⟩;have Y:FM l.prog w K mg base C D CJ:=⟨⟨_,_,XO jE TF,vI,vJ⟩,⟨_,_,XQ jF TF,vK,vL⟩,⟨_,_,fU jG TF T Z,vM,vN⟩,⟨_,_,XT jH TF T jU,vO,vP⟩⟩;have R:F3 l.prog w K mg base (De l.prog w) 6 ["finder","tree","given","node"] [("name",.ref TV),("number",.ref TX),("truth",.ref TY),("empty",.ref T'),("fun",.ref U3),("rec",.ref U6),("call",.ref U8),("let",.ref Ua),("when",.ref Ub),("pair",.ref Uc),("open",.ref Ud),("link",.ref Ue),("split",.ref Ug),("op",.ref Uh)] (IU C D CJ):=(AJ ⟨TV,_,rfl,gb ax.F TF T Z Y,ax.F.kp,ax.b⟩ (AJ ⟨TX,_,rfl,fZ ay.F TF T Z Y,ay.F.kp,ay.b⟩ (AJ ⟨TY,_,rfl,g0 az.F TF T Z Y,az.F.kp,az.b⟩ (AJ ⟨T',_,rfl,gc aA.F TF T Z Y,aA.F.kp,aA.b⟩ (AJ ⟨U3,_,rfl,fX aB.F TF T Z Y,aB.F.kp,aB.b⟩ (AJ ⟨U6,_,rfl,gf aE.F TF T Z Y,aE.F.kp,aE.b⟩ (AJ ⟨U8,_,rfl,gp aF.F TF T Z Y,aF.F.kp,aF.b⟩ (AJ ⟨Ua,_,rfl,gy aH.F TF T Z Y,aH.F.kp,aH.b⟩ (AJ ⟨Ub,_,rfl,gq aO.F TF T Z Y,aO.F.kp,aO.b⟩ (AJ ⟨Uc,_,rfl,gg aP.F TF T Z Y,aP.F.kp,aP.b⟩ (AJ ⟨Ud,_,rfl,gv aQ.F TF T Z Y,aQ.F.kp,aQ.b⟩ (AJ ⟨Ue,_,rfl,gj aT.F TF T Z Y,aT.F.kp,aT.b⟩ (AJ ⟨Ug,_,rfl,gw aU.F TF T Z Y,aU.F.kp,aU.b⟩ (AJ ⟨Uh,_,rfl,gu aW.F TF T Z Y,aW.F.kp,aW.b⟩ Ls))))))))))))));have pX:Cl l.prog w K mg base 6 "go_on_behind_first" ["finder","tree","given","node","first"] (X' C D):=jK.cl (gC jK.F TF T Z Y)
  have ql:Mc l.prog w K mg base (De l.prog w) D 7 "ask_all" ["self"] (Qr C D CJ):=⟨_,_,Y0 jI TF w9 mRU R pX,vQ,vR⟩;have GNi:=gH (Pr:=l.prog) (w:=w) (base:=base) jo T;have GFi:=gJ (Pr:=l.prog) (w:=w) (base:=base) jD TF T Z ⟨uH,Ui,Uj,uI⟩ GNi vi;have cL:Mc l.prog w K mg base Bs C 1 "leader" ["self","node"] (Bh C):=⟨_,_,GL,Oe,Og⟩;have qm:Mc l.prog w K mg base Bs C 2 "number_gaps" ["self","tops"] (Qu C):=⟨_,_,Y3 jB T UM jV cL,vD,vE⟩;have qo:Mc l.prog w K mg base (De l.prog w) C 3 "kinds_under" ["self","tops"] (Qw C CJ):=⟨_,_,Y4 jC T mJ x345 EJ UN cL ⟨_,_,T5,au,av⟩,vF,vG⟩;have GW:=gW (Pr:=l.prog) (w:=w) (base:=base) UJ.F TF T Z Y ⟨uS,Uy,Uz,uT⟩ GFi vH UM aX ql qm qo cL;have wb:Cl l.prog w K mg base 1 "names_at" ["tree","places"] (Mv K):=jL.cl (Yd jL.F UN);have cPw:Cl l.prog w K mg base 2 "parts_with_names" ["tree"] QA:=jM.cl (Ye jM.F vZ qt (YG vg) wb);have cWn:Cl l.prog w K mg base 1 "with_names" ["given","names"] Yh:=jN.cl (gZ jN.F jU);have rg:Cl l.prog w K mg base 3 "missing_names" ["tree"] Yj:=jO.cl (hU jO.F jV cWn cPw);have rh:Cl l.prog w K mg base 4 "first_missing_name" ["tree"] Yt:=jP.cl (iD jP.F rg);have ZM:i8 K CM _ _ Oc:=⟨x350,ak,UI,a9⟩;have GM:=iB (Pr:=l.prog) (w:=w) (base:=base) (mg:=mg) jJ PySem.F.store_ValueError ZM;have Wq:yP K mg CJ CN CM _ _ _ _ _:=⟨mJ,mN,mM,x345,x346,ZM,EJ,EJ,rfl,x356⟩;have GK:=iG UK.F Wq GM vS rh GW UJ.m UJ.F.kp UJ.b;have ET:yS K mg CK CJ CN CM CS _ _ _:=⟨W.mg_of X G aK,mJ,mN,mM,W.mg_of X G aS,aY,x344,rfl,x350,⟨.inr ⟨_,_,x350⟩,rfl,rfl,aj,x352,x353⟩,⟨.inl ⟨_,x346⟩,rfl,rfl,x347,ai,x349⟩,UI,x357,x358,x359,x360,x361,x362,x363⟩;have cT:Cl l.prog w K mg base 10 "_law_kind_told" ["_law_tree"] Yu:=jT.cl (iH jT.F ET GK UK.m UK.F.kp UK.b);have cM:Cl l.prog w K mg base 2 "_law_mix" ME (Ik K):=jQ.cl (Yw jQ.F (TH UL.F Ra) UL.F.kp UL.b UL.m);have cI:Cl l.prog w K mg base 1 "_law_int" ["_law_number"] My:=jR.cl (Yx jR.F);have cN:Cl l.prog w K mg base 1 "_law_name" ["_law_number"] FO:=jS.cl (TJ jS.F);have cA:=QU (Pr:=l.prog) (w:=w) (base:=base) vT vU Ra cM cI cN 4;have cF:=QV (Pr:=l.prog) (w:=w) (base:=base) vV jW UM UN aY Ra aX 4;exact YE vY aY UN Ra jW aX cM cN cA cT cF
end K
namespace PySem.W.Fast
def tw8972523067872818141:=0
def tw12191096384202370874:=0
def tw4660517323243751940:=0
def tw13773164739053408931:=0
def tw10341114506620235398:=0
def tw565061033457804700:=0
def tw18018244913409284777:=0
def tw9967886980470560890:=0
def tw15023429861471742305:=0
def tw11865532901210642626:=0
def tw4315044977897086051:=0
def tw7670218517218177701:=0
def tw3883786991145159783:=0
def tw14074281353809358896:=0
def tw13697786066239651125:=0
def tw10705482570630690609:=0
def tw734833511798152164:=0
def tw15734197959249958305:=0
def tw7183240608408679649:=0
def tw14564625086888455101:=0
def tw7828223427197567303:=0
def tw16930412362568619274:=0
def tw4959949505150626952:=0
def tw5802420064008083674:=0
def tw15187356334816304802:=0
def tw16360937405197268513:=0
def tw9594367191101426927:=0
def tw5401075166567578782:=0
def tw4537535362100007903:=0
def tw5117984995111766597:=0
def tw6595928909483665543:=0
def tw9119945017710729457:=0
def tw4979018654619472720:=0
def tw9058275352980987105:=0
def tw12510712144007129497:=0
def tw2985953279940309371:=0
def tw15274942075816186754:=0
def tw4701679178656293250:=0
def tw3359927895851915734:=0
def tw8287994682264838917:=0
def tw14753620897475613690:=0
def tw18418864092331127020:=0
def tw16946472980394033524:=0
def tw9898242462266771897:=0
def tw867057211375086803:=0
def tw4344351049678918349:=0
def tw16735355566155718841:=0
def tw10222851990718835294:=0
def tw1953756580805484126:=0
def tw1484277384028604317:=0
def tw4202863088243641712:=0
def tw2397432406319507333:=0
def tw2497299977912107190:=0
def tw677484577324366623:=0
def tw9042343106263232827:=0
def tw7425854915417097497:=0
def tw3456941905460808983:=0
def tw11205144983575239270:=0
def tw10968532661576598097:=0
def tw9921648654072594446:=0
def tw18336811917407510346:=0
def tw1687282338223364227:=0
def tw1180393726362512208:=0
def tw6983025542349690284:=0
def tw86756484435738094:=0
def tw507129973239579147:=0
def tw15489783500721358860:=0
def tw9208643576063151374:=0
def tw4970045442604958237:=0
def tw4123251426503667993:=0
def tw968592834692950532:=0
def tw13109018851762801575:=0
def tw18316692340389398284:=0
def tw155951389198873239:=0
def tw11305226803717389961:=0
def tw11253713720346264080:=0
def tw1349039223732945807:=0
def tw732110255588776645:=0
def tw15127901071252816030:=0
def tw16051555178536940306:=0
def tw12684131823695235847:=0
def tw14525157615002998850:=0
def tw16693097969089391969:=0
def tw15254083672739238294:=0
def tw12168161709296910452:=0
def tw16782012904411456419:=0
def tw4997311849304081974:=0
def tw218790162270964208:=0
def tw2568622442726774310:=0
def tw16019698120101880430:=0
def tw17196817764915420313:=0
def tw4381188153942147911:=0
def tw1856976449340345690:=0
def tw17732685783418431156:=0
def tw12481836062120277991:=0
def tw6150725602522200420:=0
def tw10131944922345666223:=0
def tw6235468203558295735:=0
def tw9248084993934822513:=0
def tw2244516435435659849:=0
def tw17647016504507503358:=0
def tw10168869637800130784:=0
def tw17029582482603876589:=0
def tw2155652739614493792:=0
def tw12945779181980480545:=0
def tw15580742152247167235:=0
def tw8518126516728957825:=0
def tw4807278978769676410:=0
def tw6696351705925738485:=0
def tw13132728071641251222:=0
def tw9554820758558889641:=0
def tw16649982279076300773:=0
def tw6912245323984609015:=0
def tw5450346151020160722:=0
def tw15821098711619276700:=0
def tw12149887165613906596:=0
def tw8333490350660261061:=0
def tw4940298082932370479:=0
def tw5210060145191212713:=0
def tw5140457879935086628:=0
def tw12192967733836026337:=0
def tw13595090799495447821:=0
def tw2548978644128788423:=0
def tw15314086744081257268:=0
def tw13329977238782078601:=0
def tw9607895157222458342:=0
end PySem.W.Fast
open PySem PySem.W PyProof.Rows
set_option maxRecDepth 100000 in
set_option maxHeartbeats 0 in
theorem PySem.Challenge.cw_kindspan_k23_no_names_holds : PySem.Challenge.rw_kindspan_k23_no_names.Holds := by
 w_on;o_law;k_head;(case hw=>w_witness2)
 k_fill
 refine L2.dH (l:=PySem.Challenge.rw_kindspan_k23_no_names) (n:=63) (k:=12) (x:="_law_script") rfl (by decide) rfl ⟨rfl,by decide,by decide⟩ (fun w h Y=>PySem.W.kIn_of Y) ?F
 case F =>
  intro w mg mb Sf fa h KX T dn
  refine' K.all_mk (ts:=[]) KX (fun P hP=>by cases hP) T dn ?aCz_ ?Uiz_ ?Ujz_ ?YJz_ ?YKz_ ?Ukz_ ?YLz_ ?YMz_ ?YNz_ ?YOz_ ?Ulz_ ?YQz_ ?YRz_ ?YSz_ ?YTz_ ?Umz_ ?YUz_ ?YVz_ ?YWz_ ?YXz_ ?Uoz_ ?YYz_ ?YZz_ ?Y'z_ ?Z0z_ ?Upz_ ?Z3z_ ?Z4z_ ?Z5z_ ?Z6z_ ?Uqz_ ?Z7z_ ?Z8z_ ?Z9z_ ?Zaz_ ?Urz_ ?Zbz_ ?Zcz_ ?Zdz_ ?Zez_ ?Usz_ ?Zfz_ ?Zgz_ ?Zhz_ ?Ziz_ ?Utz_ ?Zjz_ ?Zkz_ ?Zlz_ ?Zmz_ ?Uuz_ ?Znz_ ?Zoz_ ?Zpz_ ?Zqz_ ?Uvz_ ?Zsz_ ?Ztz_ ?Zuz_ ?Zvz_ ?Uwz_ ?Zwz_ ?Zxz_ ?Zyz_ ?Zzz_ ?Uxz_ ?uDz_ ?uEz_ ?uFz_ ?uGz_ ?uHz_ ?uIz_ ?uJz_ ?uKz_ ?uLz_ ?uMz_ ?uNz_ ?uOz_ ?aDz_ ?Uyz_ ?Uzz_ ?ZAz_ ?ZCz_ ?UAz_ ?ZDz_ ?ZEz_ ?ZFz_ ?ZGz_ ?UBz_ ?ZHz_ ?ZIz_ ?ZJz_ ?ZKz_ ?UCz_ ?ZLz_ ?ZNz_ ?ZOz_ ?ZPz_ ?UDz_ ?ZQz_ ?ZRz_ ?ZSz_ ?ZTz_ ?UEz_ ?ZUz_ ?ZVz_ ?ZWz_ ?ZXz_ ?UGz_ ?uPz_ ?hdDz_ ?uQz_ ?uRz_ ?uSz_ ?uTz_ ?uUz_ ?uVz_ ?uWz_ ?uXz_ ?HFz_ ?HNz_ ?UHz_ ?ZYz_ ?ZZz_ ?a8z_ ?aKz_ ?aJz_ ?aNz_ ?aMz_ ?aSz_ ?jnz_ ?a9z_ ?afz_ ?agz_ ?ahz_ ?x344z_ ?x345z_ ?x346z_ ?x347z_ ?aiz_ ?x349z_ ?x350z_ ?ajz_ ?x352z_ ?x353z_ ?akz_ ?UIz_ ?x356z_ ?x357z_ ?x358z_ ?x359z_ ?x360z_ ?x361z_ ?x362z_ ?x363z_ ?uYz_ ?uZz_ ?v5z_ ?v8z_ ?v9z_ ?vaz_ ?vdz_ ?vez_ ?vfz_ ?vgz_ ?vhz_ ?hKz_
  (case aCz_|Uiz_|Ujz_|YJz_|YKz_|Ukz_|YLz_|YMz_|YNz_|YOz_|Ulz_|YQz_|YRz_|YSz_|YTz_|Umz_|YUz_|YVz_|YWz_|YXz_|Uoz_|YYz_|YZz_|Y'z_|Z0z_|Upz_|Z3z_|Z4z_|Z5z_|Z6z_|Uqz_|Z7z_|Z8z_|Z9z_|Zaz_|Urz_|Zbz_|Zcz_|Zdz_|Zez_|Usz_|Zfz_|Zgz_|Zhz_|Ziz_|Utz_|Zjz_|Zkz_|Zlz_|Zmz_|Uuz_|Znz_|Zoz_|Zpz_|Zqz_|Uvz_|Zsz_|Ztz_|Zuz_|Zvz_|Uwz_|Zwz_|Zxz_|Zyz_|Zzz_|Uxz_|uDz_|uEz_|uFz_|uGz_|uHz_|uIz_|uJz_|uKz_|uLz_|uMz_|uNz_|uOz_|aDz_|Uyz_|Uzz_|ZAz_|ZCz_|UAz_|ZDz_|ZEz_|ZFz_|ZGz_|UBz_|ZHz_|ZIz_|ZJz_|ZKz_|UCz_|ZLz_|ZNz_|ZOz_|ZPz_|UDz_|ZQz_|ZRz_|ZSz_|ZTz_|UEz_|ZUz_|ZVz_|ZWz_|ZXz_|UGz_|uPz_|hdDz_|uQz_|uRz_|uSz_|uTz_|uUz_|uVz_|uWz_|uXz_=>k_is)
  case HFz_=>
   iterate 30 (show _/\_;refine ⟨⟨by k_is,⟨⟨_,_,_,_,_,_,_,_,_,rfl,by k_is,by k_is⟩,by k_is⟩,fun _ _ _ _ _ _=>L2.Aeb (by first | exact .inl ⟨rfl,fun _=>rfl⟩ | exact .inr (.inl ⟨rfl,fun _ _=>rfl⟩) | exact .inr (.inr (.inl ⟨rfl,fun _ _ _=>rfl⟩)) | exact .inr (.inr (.inr (.inl ⟨rfl,fun _ _ _ _ _=>rfl⟩))) | exact .inr (.inr (.inr (.inr (.inl ⟨rfl,fun _ _ _ _ _ _ _=>rfl⟩)))) | exact .inr (.inr (.inr (.inr (.inr ⟨rfl,fun _ _ _ _=>rfl⟩)))))⟩,?_⟩)
   trivial
  case HNz_=>
   iterate 10 (show _/\_;refine ⟨by k_is,?_⟩)
   trivial
  (case UHz_|ZYz_|ZZz_|a8z_|aKz_|aJz_|aNz_|aMz_|aSz_|jnz_|a9z_|afz_|agz_|ahz_=>k_is)
  (case x344z_=>first | k_is | kernel_rfl)
  (case x345z_=>first | k_is | kernel_rfl)
  (case x346z_=>first | k_is | kernel_rfl)
  (case x347z_=>first | k_is | kernel_rfl)
  (case aiz_=>first | k_is | kernel_rfl)
  (case x349z_=>first | k_is | kernel_rfl)
  (case x350z_=>first | k_is | kernel_rfl)
  (case ajz_=>first | k_is | kernel_rfl)
  (case x352z_=>first | k_is | kernel_rfl)
  (case x353z_=>first | k_is | kernel_rfl)
  (case akz_=>first | k_is | kernel_rfl)
  (case UIz_=>first | k_is | kernel_rfl)
  (case x356z_=>first | k_is | kernel_rfl)
  (case x357z_=>first | k_is | kernel_rfl)
  (case x358z_=>first | k_is | kernel_rfl)
  (case x359z_=>first | k_is | kernel_rfl)
  (case x360z_=>first | k_is | kernel_rfl)
  (case x361z_=>first | k_is | kernel_rfl)
  (case x362z_=>first | k_is | kernel_rfl)
  (case x363z_=>first | k_is | kernel_rfl)
  (case uYz_|uZz_=>k_is)
  (case v5z_=>rfl)
  (case v8z_=>rfl)
  (case v9z_|vaz_=>k_is)
  (case vdz_=>rfl)
  (case vez_=>rfl)
  (case vfz_=>rfl)
  (case vgz_=>first | rfl | kernel_rfl)
  (case vhz_=>rfl)
  (case hKz_=>kernel_rfl)

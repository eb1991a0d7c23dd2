import PyProof.Rows.All
import Wide.All
import OpenK.AllK
import Wide.FinOn
import Lean
import PyProof.EqAt
import PyProof.EqKinds
import PyProof.TupleCall
import PyProof.ListNew
import PyProof.WalksMore
import PyProof.ListRange
import PyProof.RaisesMany
import PyProof.RulesTry
import PyProof.PassesOwn
import OpenK.KOwn
import PyProof.RulesAs
import PyProof.RulesDel
import PyProof.ExcArgsOwn
import PyProof.IsiBase
import KE.KIsAll
import KE.KDictOf
import PyProof.AttrMiss
import KE.KDictLaws
import PyProof.DictWalks
import PyProof.ZipIter
import PyProof.TupleIter
import KE.KPairComp
import KE.KNestM
import PySem.Challenge.RW_kindspan_k11_no_join
set_option Elab.async false
set_option linter.all false
set_option maxRecDepth 100000
set_option maxHeartbeats 4000000
namespace L2
open PySem PySem.Spec PyProof.Rows
abbrev Key:=Sum Int Str
def keyIs:Key->Value->Bool
 | .inl k,v=>Value.isInt k v
 | .inr x,v=>Value.isStrOf x v
def keyH (w:World):Key->Int
 | .inl k=>hashInt k
 | .inr x=>hashStr w x
theorem keyIs_shape:∀ {k:Key} {v:Value},keyIs k v=true->(∃ i t,k=Sum.inl i/\v=Value.int i t)\/(∃ x t,k=Sum.inr x/\v=Value.str x t)
 | .inl i,v,h=>by
  obtain ⟨t,e⟩:=Value.isInt_shape (k:=i) (v:=v) h
  exact .inl ⟨i,t,rfl,e⟩
 | .inr x,v,h=>by
  obtain ⟨t,e⟩:=Value.isStrOf_shape (x:=x) (v:=v) h
  exact .inr ⟨x,t,rfl,e⟩
theorem keyIs_int (i:Int)(t:Tok):keyIs (.inl i) (.int i t)=true:=by simp [keyIs,Value.isInt]
theorem keyIs_str (x:Str)(t:Tok):keyIs (.inr x) (.str x t)=true:=by simp [keyIs,Value.isStrOf]
theorem key_ll (a b:Int):decide ((Sum.inl a:Key)=Sum.inl b)=(a==b):=by
 by_cases e:a=b
 ·subst e;simp
 ·have h:¬ (Sum.inl a:Key)=Sum.inl b:=fun q=>e (Sum.inl.inj q)
  rw [decide_eq_false h]
  exact (beq_eq_false_iff_ne.mpr e).symm
theorem key_rr (a b:Str):decide ((Sum.inr a:Key)=Sum.inr b)=decide (a=b):=by
 by_cases e:a=b
 ·subst e;simp
 ·have h:¬ (Sum.inr a:Key)=Sum.inr b:=fun q=>e (Sum.inr.inj q)
  rw [decide_eq_false h,decide_eq_false e]
theorem key_lr (a:Int)(b:Str):decide ((Sum.inl a:Key)=Sum.inr b)=false:=decide_eq_false (fun q=>nomatch q)
theorem key_rl (a:Str)(b:Int):decide ((Sum.inr a:Key)=Sum.inl b)=false:=decide_eq_false (fun q=>nomatch q)
def mixKind (prog:Program)(w:World):PySem.KeyKind prog w Key where
 is:=keyIs
 hash:=keyH w
 inj:=fun v a b ha hb=>by
  rcases keyIs_shape ha with ⟨i,t,rfl,rfl⟩ | ⟨x,t,rfl,rfl⟩
  ·rcases keyIs_shape hb with ⟨j,u,rfl,e⟩ | ⟨y,u,rfl,e⟩
   ·injection e with e1 _;rw [e1]
   ·exact nomatch e
  ·rcases keyIs_shape hb with ⟨j,u,rfl,e⟩ | ⟨y,u,rfl,e⟩
   ·exact nomatch e
   ·injection e with e1 _;rw [e1]
 byValue:=fun k v h=>by
  rcases keyIs_shape h with ⟨i,t,rfl,rfl⟩ | ⟨x,t,rfl,rfl⟩ <;> rfl
 pyHash:=fun hv h=>by
  rcases keyIs_shape hv with ⟨i,t,rfl,rfl⟩ | ⟨x,t,rfl,rfl⟩
  ·exact wpAny_pyHash_int h
  ·exact wpAny_pyHash_str h
 eqBool:=fun hu hv h=>by
  rcases keyIs_shape hu with ⟨i,t,rfl,rfl⟩ | ⟨x,t,rfl,rfl⟩
  ·rcases keyIs_shape hv with ⟨j,u,rfl,rfl⟩ | ⟨y,u,rfl,rfl⟩
   ·rw [key_ll] at h;exact wpAny_eqBool_int h
   ·rw [key_lr] at h;exact SeqAt.EqAt.int_str i t y u _ _ _ _ h
  ·rcases keyIs_shape hv with ⟨j,u,rfl,rfl⟩ | ⟨y,u,rfl,rfl⟩
   ·rw [key_rl] at h;exact SeqAt.EqAt.str_int x t j u _ _ _ _ h
   ·rw [key_rr] at h;exact wpAny_eqBool_str h
 «strs»:=fun k x t v h=>by
  rcases keyIs_shape h with ⟨i,u,rfl,e⟩ | ⟨y,u,rfl,e⟩
  ·exact nomatch e
  ·injection e with e1 _
   subst e1
   cases v <;> rfl
theorem mixKind_int (prog:Program)(w:World)(i:Int)(t:Tok):(mixKind prog w).is (.inl i) (.int i t)=true:=keyIs_int i t
theorem mixKind_str (prog:Program)(w:World)(x:Str)(t:Tok):(mixKind prog w).is (.inr x) (.str x t)=true:=keyIs_str x t
end L2
namespace L2
open PySem PySem.Spec PyProof.Rows
inductive V where
 | non | bl (b:Bool) | int (i:Int) | str (x:Str) | byt (b:Array UInt8) | flt (b:UInt64) | ref (a:Addr) | ty (n:String)
 deriving DecidableEq
def RelV:V->Value->Prop
 | .non,u=>u=Value.none
 | .bl b,u=>u=Value.bool b
 | .int i,u=>∃ t,u=Value.int i t
 | .str x,u=>∃ t,u=Value.str x t
 | .byt b,u=>∃ t,u=Value.bytes b t
 | .flt b,u=>∃ t,u=Value.float b t
 | .ref a,u=>u=Value.ref a
 | .ty n,u=>u=Value.type n
abbrev Vals:List V->List Value->Prop:=Paired RelV
theorem Vals.length {xs:List V}{us:List Value}(r:Vals xs us):xs.length=us.length:=Paired.length r
theorem Vals.get:∀ {xs:List V} {us:List Value} {i:Nat} {x:V},Vals xs us->xs[i]?=some x->∃ u,us[i]?=some u/\RelV x u
 | _,_,_,_,.nil,e=>by simp at e
 | _,_,0,_,.cons r _,e=>by simp at e;subst e;exact ⟨_,rfl,r⟩
 | _,_,i+1,x,.cons _ t,e=>by
  obtain ⟨u,h1,h2⟩:=Vals.get (i:=i) (x:=x) t (by simpa using e)
  exact ⟨u,by simpa using h1,h2⟩
theorem Vals.set {x:V}{u:Value}(r:RelV x u):∀ {xs:List V} {us:List Value} (i:Nat),Vals xs us->Vals (xs.set i x) (us.set i u)
 | _,_,_,.nil=>.nil
 | _,_,0,.cons _ t=>.cons r t
 | _,_,i+1,.cons q t=>.cons q (Vals.set r i t)
theorem Vals.append:∀ {xs ys:List V} {us ws:List Value},Vals xs us->Vals ys ws->Vals (xs++ys) (us++ws)
 | _,_,_,_,.nil,s=>s
 | _,_,_,_,.cons r t,s=>.cons r (Vals.append t s)
theorem Vals.take:∀ {xs:List V} {us:List Value} (n:Nat),Vals xs us->Vals (xs.take n) (us.take n)
 | _,_,0,_=>.nil
 | _,_,_+1,.nil=>.nil
 | _,_,n+1,.cons r t=>.cons r (Vals.take n t)
theorem Vals.drop:∀ {xs:List V} {us:List Value} (n:Nat),Vals xs us->Vals (xs.drop n) (us.drop n)
 | _,_,0,r=>r
 | _,_,_+1,.nil=>.nil
 | _,_,n+1,.cons _ t=>Vals.drop n t
def RelO:Option V->Option Value->Prop
 | some v,some u=>RelV v u
 | none,none=>True
 | _,_=>False
def KV {κ:Type}:List (κ × V)->List (κ × Value)->Prop:=Paired fun (p:κ × V) (q:κ × Value)=>p.1=q.1/\RelV p.2 q.2
def kV:Key->V
 | .inl i=>.int i
 | .inr x=>.str x
inductive HO where
 /-- a list -/
 | lst (xs:List V)
 /-- a tuple (never changes) -/
 | tup (xs:List V)
 /-- a dict whose keys are ints and texts;one whose keys are tuples of ints and texts (the empty one is both) -/
 | dK (kvs:List (Key × V)) | dT (kvs:List (List Key × V))
 /-- a set of ints: its members,its size -/
 | set (S:Int->Bool) (n:Nat)
 /-- an instance of the class at C,its dict at dx,its attributes -/
 | ins (C dx:Addr) (fs:List (Str × V))
 /-- the dict of the instance at x -/
 | own (x:Addr)
 /-- the dict of an exception -/
 | xd (fs:List (Str × V))
 /-- a bound method,f of x -/
 | met (f x:Addr)
 /-- a range object lo,lo+1,.. below hi -/
 | rng (lo hi:Int)
 /-- a thing that is known to the object (the script;a dict while a loop walks it): read,never written while it is so -/
 | frz (o:Obj) (u:HO)
 /-- a code object's table -/
 | tbl (ps:Array Value)
 /-- any other thing,by what is true of its one object (a def of one's own: SetO a S n:=HO.ext fun h=>..) -/
 | ext (φ:Heap->Prop)
abbrev Hp:=Addr->Option HO
def upd (H:Hp)(a:Addr)(o:HO):Hp:=fun b=>if b=a then some o else H b
theorem upd_same {H:Hp}{a:Addr}{o:HO}:upd H a o a=some o:=by unfold upd;rw [if_pos rfl]
theorem upd_ne {H:Hp}{a b:Addr}{o:HO}(h:b≠a):upd H a o b=H b:=by unfold upd;rw [if_neg h]
theorem ne_of {H:Hp}{a b:Addr}{o u:HO}(h:H a=some o)(h':H b=some u)(d:o≠u):a≠b:=by
 intro e;subst e;rw [h] at h';exact d (Option.some.inj h')
theorem ne_of_none {H:Hp}{a b:Addr}{o:HO}(h:H a=some o)(h':H b=none):a≠b:=by
 intro e;subst e;rw [h] at h';cases h'
section
variable (P:Program)(w:World)
def ObjOk (H:Hp)(h:Heap)(a:Addr):HO->Prop
 | .lst xs=>xs.length<=sizeLine/\∃ (its:List Value) (n:Nat),Vals xs its/\h.get? a=some { cls:=.type "list",data:=.seq its.toArray n }
 | .tup xs=>xs.length<=sizeLine/\∃ its:List Value,Vals xs its/\IsTup h a its.toArray
 | .dK kvs=>kvs.length<=sizeLine/\(a==sysModules)=false/\∃ vs,KV kvs vs/\h.DictOf (mixKind P w) a vs
 | .dT kvs=>kvs.length<=sizeLine/\(a==sysModules)=false/\∃ xs:List (List Key × Addr × Value),
   Paired (fun (p:List Key × V) (q:List Key × Addr × Value)=>p.1=q.1/\H q.2.1=some (.tup (p.1.map kV))/\RelV p.2 q.2.2) kvs xs /\
   ∃ o es ep,h.get? a=some o/\o.ExactDict/\o.data=.dict es ep/\es.toList=xs.map (entryOfKey (tupleKind (mixKind P w)))/\(xs.map (·.1)).Nodup
 | .set S n=>h.SetOf (intKind P w) a S n
 | .ins C dx fs=>H dx=some (.own a)/\fs.length<=1000/\dx≠a/\h.get? a=some (PySem.W.instObj C dx) /\
   ∃ mA,h.Ns1 dx mA/\(∀ f,RelO (fs.lookup f) (mA f))/\PySem.Within mA (fs.map (·.1))
 | .own _=>∃ o,h.get? a=some o
 | .xd fs=>∃ mA,h.Ns1 a mA/\∀ f,RelO (fs.lookup f) (mA f)
 | .rng lo hi=>∃ t u v,h.get? a=some { cls:=.type "range",data:=.fields #[.int lo t,.int hi u,.int 1 v] }
 | .frz o u=>h.get? a=some o/\ObjOk H h a u
 | .tbl ps=>h.get? a=some { cls:=.none,data:=.fields ps }
 | .met f x=>h.get? a=some (PySem.W.methodObj (.ref f) (.ref x))
 | .ext φ=>φ h/\(∃ o,h.get? a=some o)/\∀ h1 h2:Heap,φ h1->(∀ o,h1.get? a=some o->h2.get? a=some o)->φ h2
def HOk (H:Hp)(h:Heap):Prop:=∀ a o,H a=some o->ObjOk P w H h a o
end
section
variable {P:Program}{w:World}{H H':Hp}{h h':Heap}{a:Addr}{o:HO}
theorem ObjOk.lt (x:ObjOk P w H h a o):a < h.objs.size:=by
 cases o with
 | lst xs=>obtain ⟨_,_,_,_,e⟩:=x;exact Heap.lt_size e
 | tup xs=>obtain ⟨_,_,_,p⟩:=x;exact p.lt
 | dK kvs=>obtain ⟨_,_,_,_,o,_,_,e,_⟩:=x;exact Heap.lt_size e
 | dT kvs=>obtain ⟨_,_,_,_,o,_,_,e,_⟩:=x;exact Heap.lt_size e
 | set S n=>obtain ⟨o,_,_,_,e,_⟩:=x;exact Heap.lt_size e
 | ins C dx fs=>obtain ⟨_,_,_,e,_⟩:=x;exact Heap.lt_size e
 | own y=>obtain ⟨_,e⟩:=x;exact Heap.lt_size e
 | xd fs=>obtain ⟨_,⟨_,_,_,e,_⟩,_⟩:=x;exact Heap.lt_size e
 | rng lo hi=>obtain ⟨_,_,_,e⟩:=x;exact Heap.lt_size e
 | frz ob u=>obtain ⟨e,_⟩:=x;exact Heap.lt_size e
 | tbl ps=>exact Heap.lt_size (show h.get? a=some _ from x)
 | met f y=>exact Heap.lt_size (show h.get? a=some _ from x)
 | ext φ=>obtain ⟨_,⟨_,e⟩,_⟩:=x;exact Heap.lt_size e
theorem Paired.mapP {α β:Type}{F G:α->β->Prop}:∀ {l₁:List α} {l₂:List β},Paired F l₁ l₂->(∀ a b,F a b->G a b)->Paired G l₁ l₂
 | _,_,.nil,_=>.nil
 | _,_,.cons r t,f=>.cons (f _ _ r) (Paired.mapP t f)
theorem ObjOk.stay (x:ObjOk P w H h a o)(k:∀ b u,(b=a\/H b=some (.own a))->h.get? b=some u->h'.get? b=some u)
  (ho:∀ b,H b=some (.own a)->H' b=some (.own a)) (ht:∀ b xs,H b=some (.tup xs)->H' b=some (.tup xs)):ObjOk P w H' h' a o:=by
 induction o with
 | lst xs=>obtain ⟨z,its,n,r,e⟩:=x;exact ⟨z,its,n,r,k _ _ (.inl rfl) e⟩
 | tup xs=>obtain ⟨z,its,r,ob,e,c⟩:=x;exact ⟨z,its,r,ob,k _ _ (.inl rfl) e,c⟩
 | dK kvs=>obtain ⟨z,y,vs,r,ob,es,ep,e,c⟩:=x;exact ⟨z,y,vs,r,ob,es,ep,k _ _ (.inl rfl) e,c⟩
 | dT kvs =>
  obtain ⟨z,y,xs,r,ob,es,ep,e,c⟩:=x
  exact ⟨z,y,xs,Paired.mapP r fun p q z=>⟨z.1,ht _ _ z.2.1,z.2.2⟩,ob,es,ep,k _ _ (.inl rfl) e,c⟩
 | set S n=>obtain ⟨ob,es,ep,t,e,c⟩:=x;exact ⟨ob,es,ep,t,k _ _ (.inl rfl) e,c⟩
 | ins C dx fs =>
  obtain ⟨d,z,ne,e,mA,⟨od,es,ep,e2,c⟩,r⟩:=x
  exact ⟨ho _ d,z,ne,k _ _ (.inl rfl) e,mA,⟨od,es,ep,k _ _ (.inr d) e2,c⟩,r⟩
 | own y=>obtain ⟨ob,e⟩:=x;exact ⟨ob,k _ _ (.inl rfl) e⟩
 | xd fs=>obtain ⟨mA,⟨od,es,ep,e,c⟩,r⟩:=x;exact ⟨mA,⟨od,es,ep,k _ _ (.inl rfl) e,c⟩,r⟩
 | rng lo hi=>obtain ⟨t,u,v,e⟩:=x;exact ⟨t,u,v,k _ _ (.inl rfl) e⟩
 | frz ob u ih=>obtain ⟨e,q⟩:=x;exact ⟨k _ _ (.inl rfl) e,ih q⟩
 | tbl ps =>
  have e:h.get? a=some { cls:=.none,data:=.fields ps }:=x
  show h'.get? a=some { cls:=.none,data:=.fields ps }
  exact k a _ (.inl rfl) e
 | met f y =>
  have e:h.get? a=some (PySem.W.methodObj (.ref f) (.ref y)):=x
  show h'.get? a=some (PySem.W.methodObj (.ref f) (.ref y))
  exact k a _ (.inl rfl) e
 | ext φ=>obtain ⟨p,⟨o,e⟩,st⟩:=x;exact ⟨st _ _ p fun o q=>k _ _ (.inl rfl) q,⟨o,k _ _ (.inl rfl) e⟩,st⟩
theorem HOk.lt (x:HOk P w H h)(e:H a=some o):a < h.objs.size:=(x a o e).lt
theorem HOk.fresh (x:HOk P w H h)(e:h.objs.size<=a):H a=none:=by
 cases q:H a with
 | none=>rfl
 | some u=>exact absurd (Nat.lt_of_lt_of_le (x.lt q) e) (Nat.lt_irrefl _)
theorem HOk.kept (x:HOk P w H h)(k:∀ b u,h.get? b=some u->h'.get? b=some u):HOk P w H h':=fun a o e =>
 (x a o e).stay (fun b u _ q=>k b u q) (fun _ q=>q) fun _ _ q=>q
theorem HOk.laid (x:HOk P w H h)(k:∀ b u,h.get? b=some u->h'.get? b=some u)(hp:h.objs.size<=a)(new:ObjOk P w (upd H a o) h' a o):HOk P w (upd H a o) h':=fun b u e=>by
 have hn:=x.fresh hp
 by_cases hb:b=a
 ·subst hb;rw [upd_same] at e;cases e;exact new
 ·rw [upd_ne hb] at e
  exact (x b u e).stay (fun c v _ q=>k c v q) (fun c q=>by rw [upd_ne (ne_of_none q hn)];exact q) fun c xs q=>by rw [upd_ne (ne_of_none q hn)];exact q
end
def Rd (H:Hp)(a:Addr)(u:HO):Prop:=H a=some u\/∃ o,H a=some (.frz o u)
theorem Rd.ok {P:Program}{w:World}{H:Hp}{h:Heap}{a:Addr}{u:HO}(r:Rd H a u)(x:HOk P w H h):ObjOk P w H h a u:=by
 rcases r with r | ⟨o,r⟩
 ·exact x a u r
 ·obtain ⟨_,q⟩:=x a _ r
  exact q
def Mut:Option HO->Prop
 | some (.lst _)=>True
 | some (.dK _)=>True
 | some (.dT _)=>True
 | some (.set _ _)=>True
 | some (.ins _ _ _)=>True
 | some (.ext _)=>True
 | _=>False
section
variable {P:Program}{w:World}{H:Hp}{h h':Heap}{x e:Addr}{o':HO}
theorem HOk.write (ok:HOk P w H h)(mu:Mut (H x))(he:e=x\/H e=some (.own x))(k:∀ b u,b≠e->h.get? b=some u->h'.get? b=some u)(heo:∃ u,h'.get? e=some u)
  (new:ObjOk P w (upd H x o') h' x o'):HOk P w (upd H x o') h':=fun b u q=>by
 have nown:∀ c y,H c=some (.own y)->c≠x:=fun c y r z=>by subst z;rw [r] at mu;exact mu
 have ntup:∀ c xs,H c=some (.tup xs)->c≠x:=fun c xs r z=>by subst z;rw [r] at mu;exact mu
 by_cases hb:b=x
 ·subst hb;rw [upd_same] at q;cases q;exact new
 ·rw [upd_ne hb] at q
  by_cases hbe:b=e
  ·have q':H b=some (.own x):=by
    rcases he with z | z
    ·exact absurd (hbe.trans z) hb
    ·rw [hbe];exact z
   rw [q] at q';cases q'
   obtain ⟨v,hv⟩:=heo
   exact ⟨v,by rw [hbe];exact hv⟩
  ·refine (ok b u q).stay (fun c v hc r=>k c v ?_ r) (fun c r=>by rw [upd_ne (nown c b r)];exact r) fun c xs r=>by rw [upd_ne (ntup c xs r)];exact r
   rcases hc with rfl | hc
   ·exact hbe
   ·rintro rfl
    rcases he with z | z
    ·exact nown c b hc z
    ·rw [hc] at z;cases z;exact hb rfl
end
structure Un (fs ex:List Addr)(H H':Hp)(h h':Heap):Prop where
 keep:∀ b o,h.get? b=some o->H b=none->b∉fs->b∉ex->h'.get? b=some o
 slot:∀ b o,h.get? b=some o->H b=none->b∈fs->b∉ex->∃ sl,h'.get? b=some { o with slots:=sl }
 free:∀ b o,h.get? b=some o->H b=none->b∉ex->H' b=none
 there:∀ b o,h.get? b=some o->b∉ex->∃ o',h'.get? b=some o'
 tups:∀ b xs,H b=some (.tup xs)->H' b=some (.tup xs)
 frzs:∀ b o u,H b=some (.frz o u)->H' b=some (.frz o u)
 tbls:∀ b ps,H b=some (.tbl ps)->∃ more,H' b=some (.tbl (ps++more))
section
variable {fs fs' ex ex':List Addr}{H H1 H2:Hp}{h h1 h2 h':Heap}{a x e:Addr}{o:HO}
theorem Un.any (u:Un fs ex H H1 h h1){b:Addr}{ob:Obj}(q:h.get? b=some ob)(n:H b=none)(hx:b∉ex):∃ sl,h1.get? b=some { ob with slots:=sl }:=by
 by_cases hb:b∈fs
 ·exact u.slot b ob q n hb hx
 ·exact ⟨ob.slots,u.keep b ob q n hb hx⟩
theorem Un.kept (k:∀ b u,h.get? b=some u->h'.get? b=some u):Un fs ex H H h h' :=
 ⟨fun b ob q _ _ _=>k b ob q,fun b ob q _ _ _=>⟨ob.slots,k b ob q⟩,fun _ _ _ n _=>n,fun b ob q _=>⟨ob,k b ob q⟩,fun _ _ q=>q,fun _ _ _ q=>q,fun _ ps q=>⟨#[],by rw [q];simp⟩⟩
theorem Un.refl:Un fs ex H H h h:=Un.kept fun _ _ q=>q
theorem Un.laid (k:∀ b u,h.get? b=some u->h'.get? b=some u)(hp:h.objs.size<=a)(hn:H a=none):Un fs ex H (upd H a o) h h' where
 keep:=fun b u q _ _ _=>k b u q
 slot:=fun b u q _ _ _=>⟨u.slots,k b u q⟩
 free:=fun b u q n _=>by rw [upd_ne (Nat.ne_of_lt (Nat.lt_of_lt_of_le (Heap.lt_size q) hp))];exact n
 there:=fun b u q _=>⟨u,k b u q⟩
 tups:=fun b xs q=>by rw [upd_ne (ne_of_none q hn)];exact q
 frzs:=fun b u xs q=>by rw [upd_ne (ne_of_none q hn)];exact q
 tbls:=fun b ps q=>⟨#[],by rw [upd_ne (ne_of_none q hn),q];simp⟩
theorem Un.write (mu:Mut (H x))(he:e=x\/H e=some (.own x))(k:∀ b u,b≠e->h.get? b=some u->h'.get? b=some u)(heo:∃ u,h'.get? e=some u):Un fs ex H (upd H x o) h h':=by
 have hx:∀ b,H b=none->b≠x:=fun b n z=>by subst z;rw [n] at mu;exact mu
 have hb:∀ b,H b=none->b≠e:=fun b n z=>by
  subst z
  rcases he with r | r
  ·exact hx b n r
  ·rw [n] at r;cases r
 have hm:∀ b u,H b=some u->¬ Mut (some u)->b≠x:=fun b u q nm z=>by subst z;rw [q] at mu;exact nm mu
 refine ⟨fun b u q n _ _=>k b u (hb b n) q,fun b u q n _ _=>⟨u.slots,k b u (hb b n) q⟩,fun b u q n _=>by rw [upd_ne (hx b n)];exact n,fun b u q _=>?_,
  fun b xs q=>by rw [upd_ne (hm b _ q fun z=>z)];exact q,fun b u xs q=>by rw [upd_ne (hm b _ q fun z=>z)];exact q,fun b ps q=>⟨#[],by rw [upd_ne (hm b _ q fun z=>z),q];simp⟩⟩
 by_cases hbe:b=e
 ·subst hbe;exact heo
 ·exact ⟨u,k b u hbe q⟩
end
def trk (h:Heap)(H:Hp):List Addr:=(List.range h.objs.size).filter fun a=>(H a).isSome
def hidT (h:Heap)(H:Hp):Heap:=PySem.W.hideAll h (trk h H)
theorem hidT_size (h:Heap)(H:Hp):(hidT h H).objs.size=h.objs.size:=PySem.W.hideAll_size _ _
theorem hidT_get {h:Heap}{H:Hp}{b:Addr}{o:Obj}(e:h.get? b=some o)(n:H b=none):(hidT h H).get? b=some o :=
 PySem.W.hideAll_get _ e fun hm=>by
  have q:(H b).isSome=true:=(List.mem_filter.mp hm).2
  rw [n] at q;simp at q
theorem of_hidT {h:Heap}{H:Hp}{b:Addr}{o:Obj}(e:(hidT h H).get? b=some o):h.get? b=some o/\H b=none:=by
 have e':h.get? b=some o:=PySem.W.of_hideAll (trk h H) e
 refine ⟨e',?_⟩
 cases q:H b with
 | none=>rfl
 | some x =>
  have hm:b∈trk h H:=List.mem_filter.mpr ⟨List.mem_range.mpr (Heap.lt_size e'),by simp [q]⟩
  have z:(hidT h H).get? b=none:=PySem.W.hideAll_none (trk h H) hm
  rw [z] at e;cases e
end L2
namespace L2
open PySem PySem.Spec PyProof.Rows
structure Mod (K:PySem.W.Frag)(mg:Str->Option Value)(base:Heap):Prop where
 kin:K.In base
 glob:base.Ns mainGlobals mg
 blt:∃ mb,base.Ns builtinsNs mb/\∀ x:Str,x≠"__name__"->mb x=bootBuiltins x
 nolimit:base.NoLimit
structure Cx where
 prog:Program
 w:World
 K:PySem.W.Frag
 mg:Str->Option Value
 base:Heap
 A:Around
 N:List Str
 s₀:Shared
 H₀:Hp
 env:Env
 outer:List Env
 stack:List Env
 ex:List Addr
 fn:Str->Bool
 calm:Bool
 pn:List (Addr × Obj)
 xe:Value->Shared->Prop
def frs (l:List Env):List Addr:=l.filterMap (·.frame)
abbrev Cx.fs (X:Cx):List Addr:=frs X.outer
def Vis (sc:Scope)(x:Str):Prop:=sc.names.lookup x=some .local\/sc.names.lookup x=some .cell\/sc.names.lookup x=some .free
def Loc (sc:Scope)(x:Str):Prop:=sc.names.lookup x=some .local\/sc.names.lookup x=some .cell
def Look (env:Env)(h:Heap)(m:Str->Option Value)(x:Str)(u:Value):Prop :=
 (env.kindOf x=some .local/\m x=some u)\/((env.kindOf x=some .cell\/env.kindOf x=some .free)/\∃ c,env.cells.lookup x=some c/\h.IsCell c (some u))
structure Cx.Ok (X:Cx):Prop where
 mod:Mod X.K X.mg X.base
 kind:X.env.scope.kind=.function
 glob:X.env.globals=mainGlobals
 blt:X.env.builtins=builtinsNs
 above:X.s₀.heap.objs.size<=X.env.locals
 inj:∀ x y c,X.env.cells.lookup x=some c->X.env.cells.lookup y=some c->x=y
 has:∀ x,(X.env.kindOf x=some .cell\/X.env.kindOf x=some .free)->∃ c,X.env.cells.lookup x=some c
 cab:∀ x c,X.fn x=true->X.env.cells.lookup x=some c->X.s₀.heap.objs.size<=c
 hd:X.calm=true->X.A.handled=none
 frames:X.A.frames=some X.stack
 stk:X.stack=X.outer\/(X.stack=X.env::X.outer/\X.env.frame=some X.env.locals)
 exf:∀ b∈X.ex,b≠X.env.locals/\∀ x c,X.env.cells.lookup x=some c->c≠b
 bs:∀ b o,X.base.get? b=some o->X.s₀.heap.get? b=some o/\X.H₀ b=none
 bsz:X.base.objs.size<=X.s₀.heap.objs.size
 noex:∀ b o,X.base.get? b=some o->b∉X.ex
 exfs:∀ b∈X.ex,b∉X.fs
 funs:X.s₀.heap.FunFrames X.base X.outer
 frf:∀ b∈X.fs,X.H₀ b=none
structure Inv (X:Cx)(pins:List (Addr × Obj))(σ:List (Option V))(H:Hp)(s:Shared):Prop where
 ok:X.Ok
 os:s.os=X.s₀.os
 bare:AllBare s.gens
 base:Un X.fs X.ex X.H₀ H X.s₀.heap s.heap
 loc:∃ m,s.heap.Ns X.env.locals m/\∀ (i:Nat) (x:Str) (v:V),X.N[i]?=some x->σ[i]?=some (some v)->Vis X.env.scope x->∃ u,RelV v u/\Look X.env s.heap m x u
 cell:∀ x c,X.env.cells.lookup x=some c->∃ v,s.heap.IsCell c v
 free:H X.env.locals=none
 freeC:∀ x c,X.env.cells.lookup x=some c->H c=none
 pin:∀ p∈X.pn++pins,s.heap.get? p.1=some p.2/\H p.1=none/\p.1≠X.env.locals/\p.1∉X.fs/\∀ v,p.2.data≠.cell v
 hok:HOk X.prog X.w H s.heap
 len:σ.length=X.N.length
section
variable {X:Cx}{pins:List (Addr × Obj)}{σ:List (Option V)}{H H':Hp}{s:Shared}{h':Heap}
theorem Cx.Ok.nofr (ok:X.Ok){b:Addr}{o:Obj}(e:X.base.get? b=some o):b∉X.fs:=fun hb=>by
 have:=(ok.funs.mem hb).1
 rw [e] at this;cases this
theorem Inv.bs (I:Inv X pins σ H s):∀ b o,X.base.get? b=some o->s.heap.get? b=some o/\H b=none:=fun b o e =>
 ⟨I.base.keep b o (I.ok.bs b o e).1 (I.ok.bs b o e).2 (I.ok.nofr e) (I.ok.noex b o e),I.base.free b o (I.ok.bs b o e).1 (I.ok.bs b o e).2 (I.ok.noex b o e)⟩
theorem Inv.bk (I:Inv X pins σ H s):∀ b o,X.base.get? b=some o->s.heap.get? b=some o:=fun b o e=>(I.bs b o e).1
theorem Inv.mod (I:Inv X pins σ H s):Mod X.K X.mg X.base:=I.ok.mod
theorem Inv.kIn (I:Inv X pins σ H s):X.K.In s.heap:=I.ok.mod.kin.keeps I.bk
theorem Inv.fr (I:Inv X pins σ H s):∃ m,Fr X.base X.env.locals s.heap m :=
 let ⟨m,hn,_⟩:=I.loc
 ⟨m,hn,I.bk,Nat.le_trans I.ok.bsz I.ok.above⟩
theorem Inv.lt (I:Inv X pins σ H s):X.env.locals < s.heap.objs.size:=let ⟨_,hn,_⟩:=I.loc;hn.lt
theorem Inv.sz (I:Inv X pins σ H s):X.s₀.heap.objs.size<=s.heap.objs.size:=Nat.le_trans I.ok.above (Nat.le_of_lt I.lt)
theorem Inv.nofs (I:Inv X pins σ H s){a:Addr}(h:s.heap.objs.size<=a):a∉X.fs:=fun hb=>by
 obtain ⟨_,o,ho,_⟩:=I.ok.funs.mem hb
 exact absurd (Nat.lt_of_lt_of_le (Heap.lt_size ho) (Nat.le_trans I.sz h)) (Nat.lt_irrefl _)
theorem Inv.cne (I:Inv X pins σ H s):∀ x c,X.env.cells.lookup x=some c->c≠X.env.locals:=fun x c e z=>by
 obtain ⟨v,o,ho,hd⟩:=I.cell x c e
 obtain ⟨m,⟨o',es,ep,ho',hd',_⟩,_⟩:=I.loc
 rw [z,ho'] at ho;cases ho;rw [hd'] at hd;cases hd
theorem Inv.funs (I:Inv X pins σ H s):s.heap.FunFrames X.base X.outer:=by
 have all:∀ (l:List Env),(∀ b∈frs l,b∈X.fs)->X.s₀.heap.FunFrames X.base l->s.heap.FunFrames X.base l:=by
  intro l
  induction l with
  | nil=>intro _ _;trivial
  | cons env r ih =>
   intro hs hl
   obtain ⟨hk,⟨L,o,hf,hn,ho,hd⟩,hr⟩:=hl
   have hL:L∈X.fs:=hs L (by unfold frs;rw [List.filterMap_cons,hf];exact List.mem_cons_self)
   obtain ⟨sl,e⟩:=I.base.slot L o ho (I.ok.frf L hL) hL fun z=>I.ok.exfs L z hL
   exact ⟨hk,⟨L,_,hf,hn,e,hd⟩,ih (fun b hb=>hs b (by unfold frs;rw [List.filterMap_cons,hf];exact List.mem_cons_of_mem _ hb)) hr⟩
 exact all X.outer (fun _ hb=>hb) I.ok.funs
theorem Inv.stack (I:Inv X pins σ H s):s.heap.FunFrames X.base X.stack:=by
 rcases I.ok.stk with e | ⟨e,hf⟩
 ·rw [e];exact I.funs
 ·rw [e]
  obtain ⟨m,hn,_⟩:=I.loc
  refine .cons (by rw [I.ok.kind];decide) hf hn ?_ I.funs
  exact Heap.get?_none_of_le (Nat.le_trans I.ok.bsz I.ok.above)
theorem Inv.stkSub (I:Inv X pins σ H s):∀ b∈frs X.stack,b∈X.env.locals::X.fs:=fun b hb=>by
 rcases I.ok.stk with e | ⟨e,hf⟩
 ·rw [e] at hb;exact List.mem_cons_of_mem _ hb
 ·rw [e] at hb
  unfold frs at hb
  rw [List.filterMap_cons,hf] at hb
  exact hb
theorem Inv.stkFree (I:Inv X pins σ H s):∀ b∈frs X.stack,H b=none:=fun b hb=>by
 rcases List.mem_cons.mp (I.stkSub b hb) with e | hb
 ·rw [e];exact I.free
 ·obtain ⟨_,o,ho,_⟩:=I.ok.funs.mem hb
  exact I.base.free b o ho (I.ok.frf b hb) fun z=>I.ok.exfs b z hb
theorem Inv.step {g':Array GenState}{t':Nat}{d':Drawn}{ch:List Addr}(I:Inv X pins σ H s)
  (hch:∀ b∈ch,(b∈X.ex\/X.s₀.heap.objs.size<=b)/\b≠X.env.locals/\(∀ x c,X.env.cells.lookup x=some c->c≠b)/\∀ p∈X.pn++pins,p.1≠b)
  (keep:∀ b o,b≠X.env.locals->b∉X.fs->b∉ch->s.heap.get? b=some o->H b=none->h'.get? b=some o)
  (slot:∀ b o,b≠X.env.locals->b∈X.fs->b∉ch->s.heap.get? b=some o->H b=none->∃ sl,h'.get? b=some { o with slots:=sl }) (free:∀ b o,b∉ch->s.heap.get? b=some o->H b=none->H' b=none)
  (there:∀ b o,b∉ch->s.heap.get? b=some o->∃ o',h'.get? b=some o')
  (tups:∀ b xs,H b=some (.tup xs)->H' b=some (.tup xs)) (frzs:∀ b o u,H b=some (.frz o u)->H' b=some (.frz o u)) (tbls:∀ b ps,H b=some (.tbl ps)->∃ more,H' b=some (.tbl (ps++more)))
  (ns:∀ m,s.heap.Ns X.env.locals m->h'.Ns X.env.locals m) (hok:HOk X.prog X.w H' h') (hg:AllBare g') :
  Inv X pins σ H' { s with heap:=h',gens:=g',drawn:=d',toks:=t' }:=by
 have neL:∀ b o,X.s₀.heap.get? b=some o->b≠X.env.locals:=fun b o e=>Nat.ne_of_lt (Nat.lt_of_lt_of_le (Heap.lt_size e) I.ok.above)
 have neC:∀ b o,X.s₀.heap.get? b=some o->b∉X.ex->b∉ch:=fun b o e hx hb=>by
  rcases (hch b hb).1 with z | z
  ·exact hx z
  ·exact absurd (Nat.lt_of_lt_of_le (Heap.lt_size e) z) (Nat.lt_irrefl _)
 have cellK:∀ x c,X.env.cells.lookup x=some c->∀ v,s.heap.IsCell c v->h'.IsCell c v:=fun x c e v ⟨o,ho,hd⟩=>by
  have nch:c∉ch:=fun z=>(hch c z).2.2.1 x c e rfl
  by_cases hc:c∈X.fs
  ·obtain ⟨sl,q⟩:=slot c o (I.cne x c e) hc nch ho (I.freeC x c e)
   exact ⟨_,q,hd⟩
  ·exact ⟨o,keep c o (I.cne x c e) hc nch ho (I.freeC x c e),hd⟩
 refine ⟨I.ok,I.os,hg,⟨fun b o e n hb hx=>?_,fun b o e n hb hx=>?_,fun b o e n hx=>?_,fun b o e hx=>?_,fun b xs e=>tups b xs (I.base.tups b xs e),fun b o xs e=>frzs b o xs (I.base.frzs b o xs e),fun b ps e=>?_⟩,?_,fun x c e=>?_,?_,fun x c e=>?_,fun p hp=>?_,hok,I.len⟩
 ·exact keep b o (neL b o e) hb (neC b o e hx) (I.base.keep b o e n hb hx) (I.base.free b o e n hx)
 ·obtain ⟨sl,e1⟩:=I.base.slot b o e n hb hx
  obtain ⟨sl',e2⟩:=slot b _ (neL b o e) hb (neC b o e hx) e1 (I.base.free b o e n hx)
  exact ⟨sl',e2⟩
 ·obtain ⟨o',e1⟩:=I.base.there b o e hx
  exact free b o' (neC b o e hx) e1 (I.base.free b o e n hx)
 ·obtain ⟨o',e1⟩:=I.base.there b o e hx
  exact there b o' (neC b o e hx) e1
 ·obtain ⟨m1,e1⟩:=I.base.tbls b ps e
  obtain ⟨m2,e2⟩:=tbls b _ e1
  exact ⟨m1++m2,by rw [e2,Array.append_assoc]⟩
 ·obtain ⟨m,hn,hl⟩:=I.loc
  refine ⟨m,ns m hn,fun i x v e1 e2 e3=>?_⟩
  obtain ⟨u,r,l⟩:=hl i x v e1 e2 e3
  refine ⟨u,r,?_⟩
  rcases l with l | ⟨k,c,e,z⟩
  ·exact .inl l
  ·exact .inr ⟨k,c,e,cellK x c e _ z⟩
 ·obtain ⟨v,z⟩:=I.cell x c e
  exact ⟨v,cellK x c e v z⟩
 ·obtain ⟨m,⟨o,_,_,ho,_⟩,_⟩:=I.loc
  exact free _ o (fun z=>(hch _ z).2.1 rfl) ho I.free
 ·obtain ⟨v,o,ho,hd⟩:=I.cell x c e
  exact free c o (fun z=>(hch c z).2.2.1 x c e rfl) ho (I.freeC x c e)
 ·obtain ⟨e,n,ne,nf,d⟩:=I.pin p hp
  have nch:p.1∉ch:=fun z=>(hch p.1 z).2.2.2 p hp rfl
  exact ⟨keep p.1 p.2 ne nf nch e n,free p.1 p.2 nch e n,ne,nf,d⟩
theorem Inv.un {t':Nat}(I:Inv X pins σ H s)(u:Un X.fs [] H H' s.heap h')(hok:HOk X.prog X.w H' h'):Inv X pins σ H' { s with heap:=h',toks:=t' }:=by
 obtain ⟨m,⟨o,es,ep,ho,r⟩,_⟩:=id I.loc
 obtain ⟨sl,hL⟩:=u.any ho I.free (by simp)
 exact I.step (g':=s.gens) (d':=s.drawn) (ch:=[]) (fun _ z=>nomatch z) (fun b o _ hb _ e n=>u.keep b o e n hb (by simp)) (fun b o _ hb _ e n=>u.slot b o e n hb (by simp)) (fun b o _ e n=>u.free b o e n (by simp)) (fun b o _ e=>u.there b o e (by simp)) u.tups u.frzs u.tbls (fun m' hm=>by
  obtain ⟨o',es',ep',ho',r'⟩:=hm
  rw [ho] at ho';cases ho'
  exact ⟨_,es',ep',hL,r'⟩) hok I.bare
theorem Inv.call {g':Array GenState}{t':Nat}{d':Drawn}{ch:List Addr}(I:Inv X pins σ H s)(u:Un (frs X.stack) ch H H' s.heap h')(hok:HOk X.prog X.w H' h')(hg:AllBare g')
  (hch:∀ b∈ch,(b∈X.ex\/X.s₀.heap.objs.size<=b)/\b≠X.env.locals/\(∀ x c,X.env.cells.lookup x=some c->c≠b)/\∀ p∈X.pn++pins,p.1≠b) :
  Inv X pins σ H' { s with heap:=h',gens:=g',drawn:=d',toks:=t' }:=by
 obtain ⟨m,⟨o,es,ep,ho,r⟩,_⟩:=id I.loc
 obtain ⟨sl,hL⟩:=u.any ho I.free fun z=>(hch _ z).2.1 rfl
 exact I.step (ch:=ch) hch (fun b o hL hb hc e n=>u.keep b o e n (fun z=>(List.mem_cons.mp (I.stkSub b z)).elim hL hb) hc) (fun b o _ _ hc e n=>u.any e n hc) (fun b o hc e n=>u.free b o e n hc) (fun b o hc e=>u.there b o e hc) u.tups u.frzs u.tbls (fun m' hm=>by
  obtain ⟨o',es',ep',ho',r'⟩:=hm
  rw [ho] at ho';cases ho'
  exact ⟨_,es',ep',hL,r'⟩) hok hg
theorem Inv.turned {t':Nat}{it:Addr}(I:Inv X pins σ H s)(k:∀ b o,b≠it->s.heap.get? b=some o->h'.get? b=some o)(hn:H it=none)(hL:it≠X.env.locals)
  (h1:it∈X.ex\/X.s₀.heap.objs.size<=it) (h2:∀ x c,X.env.cells.lookup x=some c->c≠it) (h3:∀ p∈X.pn++pins,p.1≠it):Inv X pins σ H { s with heap:=h',toks:=t' }:=by
 have nit:∀ b u,H b=some u->b≠it:=fun b u e z=>by rw [z,hn] at e;cases e
 refine I.step (g':=s.gens) (d':=s.drawn) (ch:=[it]) (fun b hb=>?_) (fun b o _ _ hc e _=>k b o (fun z=>hc (by simp [z])) e) (fun b o _ _ hc e _=>⟨o.slots,k b o (fun z=>hc (by simp [z])) e⟩) (fun _ _ _ _ n=>n)
  (fun b o hc e=>⟨o,k b o (fun z=>hc (by simp [z])) e⟩) (fun _ _ e=>e) (fun _ _ _ e=>e) (fun b ps e=>⟨#[],by rw [e];simp⟩) (fun m hm=>?_) (fun b u e=>?_) I.bare
 ·have e:b=it:=by simpa using hb
  subst e
  exact ⟨h1,hL,h2,h3⟩
 ·obtain ⟨o,es,ep,ho,r⟩:=hm
  exact ⟨o,es,ep,k _ o (Ne.symm hL) ho,r⟩
 ·refine (I.hok b u e).stay (fun c v hc q=>k c v ?_ q) (fun _ q=>q) fun _ _ q=>q
  rcases hc with z | z
  ·rw [z];exact nit b u e
  ·exact nit c _ z
theorem Inv.tok (I:Inv X pins σ H s)(t:Nat):Inv X pins σ H { s with toks:=t }:=I.un (h':=s.heap) (t':=t) Un.refl I.hok
theorem Inv.kept {t':Nat}(I:Inv X pins σ H s)(k:∀ b u,s.heap.get? b=some u->h'.get? b=some u):Inv X pins σ H { s with heap:=h',toks:=t' }:=I.un (Un.kept k) (I.hok.kept k)
theorem Inv.laid {a:Addr}{o:HO}{t':Nat}(I:Inv X pins σ H s)(k:∀ b u,s.heap.get? b=some u->h'.get? b=some u)(hp:s.heap.objs.size<=a)(new:ObjOk X.prog X.w (upd H a o) h' a o):
  Inv X pins σ (upd H a o) { s with heap:=h',toks:=t' }:=I.un (Un.laid k hp (I.hok.fresh hp)) (I.hok.laid k hp new)
theorem Inv.write {x e:Addr}{o:HO}{t':Nat}(I:Inv X pins σ H s)(mu:Mut (H x))(he:e=x\/H e=some (.own x))(k:∀ b u,b≠e->s.heap.get? b=some u->h'.get? b=some u)(heo:∃ u,h'.get? e=some u)
  (new:ObjOk X.prog X.w (upd H x o) h' x o):Inv X pins σ (upd H x o) { s with heap:=h',toks:=t' }:=I.un (Un.write mu he k heo) (I.hok.write mu he k heo new)
theorem Inv.weak {σ':List (Option V)}(I:Inv X pins σ H s)(hl:σ'.length=σ.length)(w:∀ (i:Nat) v,σ'[i]?=some (some v)->σ[i]?=some (some v)):Inv X pins σ' H s :=
 ⟨I.ok,I.os,I.bare,I.base,let ⟨m,hn,hl'⟩:=I.loc;⟨m,hn,fun i x v e1 e2 e3=>hl' i x v e1 (w i v e2) e3⟩,I.cell,I.free,I.freeC,I.pin,I.hok,hl.trans I.len⟩
theorem Inv.pins_of {pins':List (Addr × Obj)}(I:Inv X pins σ H s)(h:∀ p∈pins',s.heap.get? p.1=some p.2/\H p.1=none/\p.1≠X.env.locals/\p.1∉X.fs/\∀ v,p.2.data≠.cell v):Inv X pins' σ H s :=
 ⟨I.ok,I.os,I.bare,I.base,I.loc,I.cell,I.free,I.freeC,fun p hp=>(List.mem_append.mp hp).elim (fun z=>I.pin p (List.mem_append_left _ z)) (h p),I.hok,I.len⟩
theorem nodup_ix {N:List Str}(hN:N.Nodup){i j:Nat}{x:Str}(a:N[i]?=some x)(b:N[j]?=some x):i=j:=by
 obtain ⟨h1,e1⟩:=List.getElem?_eq_some_iff.mp a
 obtain ⟨h2,e2⟩:=List.getElem?_eq_some_iff.mp b
 exact (List.getElem_inj hN).mp (e1.trans e2.symm)
theorem store_ok2 {M:Model}{A:Around}{E:Value->Shared->Prop}{i:Nat}{x:Str}{v:V}{u:Value}{Q:Unit->Shared->Prop}(I:Inv X pins σ H s)(hN:X.N.Nodup)(hi:X.N[i]?=some x)(hx:Loc X.env.scope x)(r:RelV v u)
  (h:∀ s',Inv X pins (σ.set i (some v)) H s'->(∃ a,Heap.SameBut a s.heap s'.heap/\(a=X.env.locals\/X.env.cells.lookup x=some a))->Q () s') (hf:X.fn x=true\/X.env.scope.names.lookup x=some .local:=by first | exact .inl rfl | exact .inr rfl | assumption):wpAny M A (storeName X.env x u) Q E s:=by
 obtain ⟨m,hn,hl⟩:=id I.loc
 have hcls:(X.env.scope.kind==.class || (X.env.scope.kind==.module && X.env.locals != X.env.globals))=false:=by rw [I.ok.kind];rfl
 have hiσ:i < σ.length:=by rw [I.len];exact (List.getElem?_eq_some_iff.mp hi).1
 have cne:=I.cne
 have tracked:∀ {a:Addr} {h':Heap},(∃ o,s.heap.get? a=some o/\H a=none)->Heap.SameBut a s.heap h'->HOk X.prog X.w H h':=fun {a h'} ha hs b ob e=>by
  obtain ⟨_,_,hfree⟩:=ha
  refine (I.hok b ob e).stay (fun c w' hc q=>(hs.2 c ?_).trans q) (fun _ q=>q) fun _ _ q=>q
  rintro rfl
  rcases hc with rfl | hc
  ·rw [hfree] at e;cases e
  ·rw [hfree] at hc;cases hc
 rcases hx with hk | hk
 ·refine wpAny_storeName_local hk hn (fun h' hn' hs=>?_) hcls
  obtain ⟨oL,_,_,hoL,_⟩:=id hn
  refine h _ ⟨I.ok,I.os,I.bare,⟨fun b o e n hb hx=>?_,fun b o e n hb hx=>?_,I.base.free,fun b o e hx=>?_,I.base.tups,I.base.frzs,I.base.tbls⟩,⟨_,hn',fun j y v' e1 e2 e3=>?_⟩,fun y c e=>?_,I.free,I.freeC,fun p hp=>?_,tracked ⟨oL,hoL,I.free⟩ hs,by simpa using I.len⟩ ⟨_,hs,.inl rfl⟩
  ·exact (hs.2 b (Nat.ne_of_lt (Nat.lt_of_lt_of_le (Heap.lt_size e) I.ok.above))).trans (I.base.keep b o e n hb hx)
  ·obtain ⟨sl,e1⟩:=I.base.slot b o e n hb hx
   exact ⟨sl,(hs.2 b (Nat.ne_of_lt (Nat.lt_of_lt_of_le (Heap.lt_size e) I.ok.above))).trans e1⟩
  ·obtain ⟨o',e1⟩:=I.base.there b o e hx
   exact ⟨o',(hs.2 b (Nat.ne_of_lt (Nat.lt_of_lt_of_le (Heap.lt_size e) I.ok.above))).trans e1⟩
  ·by_cases hj:j=i
   ·subst hj
    rw [hi] at e1;cases e1
    rw [List.getElem?_set_self hiσ] at e2
    cases e2
    exact ⟨u,r,.inl ⟨hk,by simp⟩⟩
   ·rw [List.getElem?_set_ne (Ne.symm hj)] at e2
    obtain ⟨u',r',q⟩:=hl j y v' e1 e2 e3
    refine ⟨u',r',?_⟩
    rcases q with ⟨k,e⟩ | ⟨k,c,e,z⟩
    ·refine .inl ⟨k,?_⟩
     have:y≠x:=fun e=>hj (nodup_ix hN e1 (e▸hi))
     simp [this,e]
    ·exact .inr ⟨k,c,e,z.sameBut hs (cne y c e)⟩
  ·obtain ⟨w',z⟩:=I.cell y c e
   exact ⟨w',z.sameBut hs (cne y c e)⟩
  ·obtain ⟨e,n,ne,nf,d⟩:=I.pin p hp
   exact ⟨(hs.2 p.1 ne).trans e,n,ne,nf,d⟩
 ·have hfn:X.fn x=true:=by
   rcases hf with z | z
   ·exact z
   ·rw [z] at hk;cases hk
  obtain ⟨c,hc⟩:=I.ok.has x (.inl hk)
  obtain ⟨w',z⟩:=I.cell x c hc
  refine wpAny_storeName_cell I.ok.kind hk hc z (fun h' hc' hs=>?_)
  obtain ⟨oc,hoc,hocd⟩:=id z
  refine h { s with heap:=h' } ⟨I.ok,I.os,I.bare,⟨fun b o e n hb hx=>?_,fun b o e n hb hx=>?_,I.base.free,fun b o e hx=>?_,I.base.tups,I.base.frzs,I.base.tbls⟩,⟨m,hn.sameBut hs (Ne.symm (cne x c hc)),fun j y v' e1 e2 e3=>?_⟩,fun y c' e=>?_,I.free,I.freeC,fun p hp=>?_,tracked ⟨oc,hoc,I.freeC x c hc⟩ hs,by simpa using I.len⟩ ⟨c,hs,.inr hc⟩
  ·exact (hs.2 b (Nat.ne_of_lt (Nat.lt_of_lt_of_le (Heap.lt_size e) (I.ok.cab x c hfn hc)))).trans (I.base.keep b o e n hb hx)
  ·obtain ⟨sl,e1⟩:=I.base.slot b o e n hb hx
   exact ⟨sl,(hs.2 b (Nat.ne_of_lt (Nat.lt_of_lt_of_le (Heap.lt_size e) (I.ok.cab x c hfn hc)))).trans e1⟩
  ·obtain ⟨o',e1⟩:=I.base.there b o e hx
   exact ⟨o',(hs.2 b (Nat.ne_of_lt (Nat.lt_of_lt_of_le (Heap.lt_size e) (I.ok.cab x c hfn hc)))).trans e1⟩
  ·by_cases hj:j=i
   ·subst hj
    rw [hi] at e1;cases e1
    rw [List.getElem?_set_self hiσ] at e2
    cases e2
    exact ⟨u,r,.inr ⟨.inl hk,c,hc,hc'⟩⟩
   ·rw [List.getElem?_set_ne (Ne.symm hj)] at e2
    obtain ⟨u',r',q⟩:=hl j y v' e1 e2 e3
    refine ⟨u',r',?_⟩
    rcases q with q | ⟨k,c',e,z'⟩
    ·exact .inl q
    ·refine .inr ⟨k,c',e,z'.sameBut hs ?_⟩
     rintro rfl
     exact hj (nodup_ix hN e1 (I.ok.inj _ _ _ e hc▸hi))
  ·by_cases hcc:c'=c
   ·subst hcc;exact ⟨_,hc'⟩
   ·obtain ⟨w2,z2⟩:=I.cell y c' e
    exact ⟨w2,z2.sameBut hs hcc⟩
  ·obtain ⟨e,n,ne,nf,d⟩:=I.pin p hp
   refine ⟨(hs.2 p.1 ?_).trans e,n,ne,nf,d⟩
   intro q
   rw [q,hoc] at e
   have q':oc=p.2:=Option.some.inj e
   exact d w' (by rw [<- q'];exact hocd)
theorem store_ok {M:Model}{A:Around}{E:Value->Shared->Prop}{i:Nat}{x:Str}{v:V}{u:Value}{Q:Unit->Shared->Prop}(I:Inv X pins σ H s)(hN:X.N.Nodup)(hi:X.N[i]?=some x)(hx:Loc X.env.scope x)(r:RelV v u)
  (h:∀ s',Inv X pins (σ.set i (some v)) H s'->Q () s') (hf:X.fn x=true\/X.env.scope.names.lookup x=some .local:=by first | exact .inl rfl | exact .inr rfl | assumption):wpAny M A (storeName X.env x u) Q E s :=
 store_ok2 I hN hi hx r (fun s' I' _=>h s' I') hf
theorem Inv.call' {s':Shared}{ch:List Addr}(I:Inv X pins σ H s)(ho:s'.os=s.os)(u:Un (frs X.stack) ch H H' s.heap s'.heap)(hok:HOk X.prog X.w H' s'.heap)(hg:AllBare s'.gens)
  (hch:∀ b∈ch,(b∈X.ex\/X.s₀.heap.objs.size<=b)/\b≠X.env.locals/\(∀ x c,X.env.cells.lookup x=some c->c≠b)/\∀ p∈X.pn++pins,p.1≠b):Inv X pins σ H' s':=by
 obtain ⟨h',g',d',t',o'⟩:=s'
 have e:o'=s.os:=ho
 subst e
 exact I.call (g':=g') (t':=t') (d':=d') u hok hg hch
end
abbrev XK:=Value->Option Addr->Hp->Prop
abbrev St:=List (Option V)
abbrev VK:=V->Hp->Prop
abbrev TE:=St->Hp->VK->Prop
abbrev TT:=St->Hp->(Bool->Hp->Prop)->Prop
abbrev TA:=St->Hp->(List V->Hp->Prop)->Prop
structure Ends where
 nx:St->Hp->Prop
 rt:VK
 bk:St->Hp->Prop:=fun _ _=>False
 ct:St->Hp->Prop:=fun _ _=>False
abbrev TS:=Ends->St->Hp->Prop
def EP (X:Cx)(pins:List (Addr × Obj))(σ:St)(Q:VK)(u:Value)(s':Shared):Prop:=∃ v H',Inv X pins σ H' s'/\RelV v u/\Q v H'
def TP (X:Cx)(pins:List (Addr × Obj))(σ:St)(Q:Bool->Hp->Prop)(b:Bool)(s':Shared):Prop:=∃ H',Inv X pins σ H' s'/\Q b H'
def AP (X:Cx)(pins:List (Addr × Obj))(σ:St)(Q:List V->Hp->Prop)(us:List Value)(s':Shared):Prop:=∃ vs H',Inv X pins σ H' s'/\Vals vs us/\Q vs H'
def SP (X:Cx)(pins:List (Addr × Obj))(D:Ends)(f:Flow)(s':Shared):Prop :=
 match f with
 | .next=>∃ σ' H',Inv X pins σ' H' s'/\D.nx σ' H'
 | .brk=>∃ σ' H',Inv X pins σ' H' s'/\D.bk σ' H'
 | .cont=>∃ σ' H',Inv X pins σ' H' s'/\D.ct σ' H'
 | .ret u=>∃ v σ' H',Inv X pins σ' H' s'/\RelV v u/\D.rt v H'
def PE (X:Cx)(e:Expr)(t:TE):Prop :=
 ∀ (pins:List (Addr × Obj)) (s:Shared) (σ:St) (H:Hp) (Q:VK),Inv X pins σ H s->t σ H Q->wpAny (model X.prog X.w) X.A (eval e X.env) (EP X pins σ Q) X.xe s
def PT (X:Cx)(e:Expr)(t:TT):Prop :=
 ∀ (pins:List (Addr × Obj)) (s:Shared) (σ:St) (H:Hp) (Q:Bool->Hp->Prop),Inv X pins σ H s->t σ H Q->wpAny (model X.prog X.w) X.A (isTrue e X.env (eval e X.env)) (TP X pins σ Q) X.xe s
def PW (X:Cx)(e:Expr)(t:TT):Prop :=
 ∀ (whole:Sem Value) (pins:List (Addr × Obj)) (s:Shared) (σ:St) (H:Hp) (Q:Bool->Hp->Prop),Inv X pins σ H s->t σ H Q->wpAny (model X.prog X.w) X.A (isTrue e X.env whole) (TP X pins σ Q) X.xe s
theorem PW.pt {X:Cx}{e:Expr}{t:TT}(h:PW X e t):PT X e t:=h _
def PA (X:Cx)(es:List Expr)(t:TA):Prop :=
 ∀ (pos:Pos) (pins:List (Addr × Obj)) (s:Shared) (σ:St) (H:Hp) (Q:List V->Hp->Prop),Inv X pins σ H s->t σ H Q->wpAny (model X.prog X.w) X.A (spliced (backTo pos (starEach es X.env))) (AP X pins σ Q) X.xe s
def PS (X:Cx)(st:Stmt)(t:TS):Prop :=
 ∀ (pins:List (Addr × Obj)) (s:Shared) (σ:St) (H:Hp) (D:Ends),Inv X pins σ H s->t D σ H->wpAny (model X.prog X.w) X.A (exec st X.env) (SP X pins D) X.xe s
def PSs (X:Cx)(st:List Stmt)(t:TS):Prop :=
 ∀ (pins:List (Addr × Obj)) (s:Shared) (σ:St) (H:Hp) (D:Ends),Inv X pins σ H s->t D σ H->wpAny (model X.prog X.w) X.A (execs st X.env) (SP X pins D) X.xe s
theorem thn {α:Type}{t:Sem α}{Q Q':α->Shared->Prop}{M:Model}{A:Around}{E:Value->Shared->Prop}{s:Shared}(h:wpAny M A t Q E s)(hQ:∀ a s,Q a s->Q' a s):wpAny M A t Q' E s:=wpAny_mono h hQ fun _ _ x=>x
end L2
namespace L2
open PySem PySem.Spec PyProof.Rows
section
variable {X:Cx}
theorem bin {a b:Expr}{ta tb:TE}(ha:PE X a ta)(hb:PE X b tb){pins:List (Addr × Obj)}{s:Shared}{σ:St}{H:Hp}{R:V->V->Hp->Prop}(I:Inv X pins σ H s)(h:ta σ H fun x H1=>tb σ H1 fun y H2=>R x y H2)
  {α:Type} {Q:α->Shared->Prop} {f:Value->Value->Sem α}
  (hf:∀ v u s2 x y H2,Inv X pins σ H2 s2->RelV x v->RelV y u->R x y H2->wpAny (model X.prog X.w) X.A (f v u) Q X.xe s2) :
  wpAny (model X.prog X.w) X.A (eval a X.env) (fun v s₁=>wpAny (model X.prog X.w) X.A (eval b X.env) (fun u s₂=>wpAny (model X.prog X.w) X.A (f v u) Q X.xe s₂) X.xe s₁) X.xe s:=by
 refine thn (ha pins s σ H _ I h) fun v s1 ⟨x,H1,I1,r1,q1⟩=>?_
 refine thn (hb pins s1 σ H1 _ I1 q1) fun u s2 ⟨y,H2,I2,r2,q2⟩=>?_
 exact hf v u s2 x y H2 I2 r1 r2 q2
def tVar (i:Nat):TE:=fun σ H Q=>∃ v,σ[i]?=some (some v)/\Q v H
def tC (v:V):TE:=fun _ H Q=>Q v H
theorem pe_var {i:Nat}{x:Str}{pos:Pos}(hN:X.N[i]?=some x)(hv:Vis X.env.scope x)(hd:(x==("__debug__":Str))=false:=by decide)(hcd:(x==("__classdict__":Str))=false:=by decide):PE X (.Name x pos) (tVar i):=by
 intro pins s σ H Q I h
 obtain ⟨v,e,h⟩:=h
 obtain ⟨m,hn,hl⟩:=I.loc
 obtain ⟨u,r,l⟩:=hl i x v hN e hv
 have fin:EP X pins σ Q u s:=⟨v,H,I,r,h⟩
 rcases l with ⟨hk,hm⟩ | ⟨hk,c,hc,hcell⟩
 ·exact wpAny_Name (wpAny_loadName_local I.ok.kind hk hn hm fin) hd
 ·rcases hk with hk | hk
  ·exact wpAny_Name (wpAny_loadName_cell I.ok.kind hk hc hcell fin) hd
  ·exact wpAny_Name (wpAny_loadName_free I.ok.kind hk hc hcell fin hcd) hd
theorem pe_int {i j pos}:PE X (.Constant (.int i) j pos) (tC (.int i)):=fun _ _ _ H _ I h=>wpAny_Constant_int ⟨.int i,H,I.tok _,⟨_,rfl⟩,h⟩
theorem pe_bl {b j pos}:PE X (.Constant (.bool b) j pos) (tC (.bl b)):=fun _ _ _ H _ I h=>Constant_bool ⟨.bl b,H,I,rfl,h⟩
theorem pe_non {j pos}:PE X (.Constant .none j pos) (tC .non):=fun _ _ _ H _ I h=>Constant_none ⟨.non,H,I,rfl,h⟩
theorem pe_str {x j pos}:PE X (.Constant (.str x) j pos) (tC (.str x)):=fun _ _ _ H _ I h=>Calls.Constant_str ⟨.str x,H,I.tok _,⟨_,rfl⟩,h⟩
def Gl (X:Cx)(x:Str):Prop:=X.env.kindOf x=some .globalImplicit
theorem ld_glob {E:Value->Shared->Prop}{pins:List (Addr × Obj)}{s:Shared}{σ:St}{H:Hp}{x:Str}{u:Value}{pos:Pos}{Q:Value->Shared->Prop}(I:Inv X pins σ H s)(hg:Gl X x)(hm:X.mg x=some u)(h:Q u s)
  (hd:(x==("__debug__":Str))=false:=by decide):wpAny (model X.prog X.w) X.A (eval (.Name x pos) X.env) Q E s :=
 Calls.Name_function_global I.ok.kind hg (Calls.loadGlobal_global (by rw [I.ok.glob];exact I.mod.glob.keeps I.bk) hm h) hd
theorem ld_blt {E:Value->Shared->Prop}{pins:List (Addr × Obj)}{s:Shared}{σ:St}{H:Hp}{x:Str}{u:Value}{pos:Pos}{Q:Value->Shared->Prop}(I:Inv X pins σ H s)(hg:Gl X x)(hm:X.mg x=none)(hv:bootBuiltins x=some u)(h:Q u s)
  (hn:x≠"__name__":=by decide) (hd:(x==("__debug__":Str))=false:=by decide):wpAny (model X.prog X.w) X.A (eval (.Name x pos) X.env) Q E s:=by
 obtain ⟨mb,h1,h2⟩:=I.mod.blt
 exact Calls.Name_function_global I.ok.kind hg (Calls.loadGlobal_builtin (by rw [I.ok.glob];exact I.mod.glob.keeps I.bk) hm (by rw [I.ok.blt];exact h1.keeps I.bk) ((h2 x hn).trans hv) h) hd
theorem pe_glob {x:Str}{v:V}{u:Value}{pos:Pos}(hg:Gl X x)(hm:X.mg x=some u)(r:RelV v u)(hd:(x==("__debug__":Str))=false:=by decide):PE X (.Name x pos) (tC v) :=
 fun _ _ _ H _ I h=>ld_glob I hg hm ⟨v,H,I,r,h⟩ hd
theorem pe_bltn {x:Str}{v:V}{u:Value}{pos:Pos}(hg:Gl X x)(hm:X.mg x=none)(hv:bootBuiltins x=some u)(r:RelV v u)(hn:x≠"__name__":=by decide)(hd:(x==("__debug__":Str))=false:=by decide):PE X (.Name x pos) (tC v) :=
 fun _ _ _ H _ I h=>ld_blt I hg hm hv ⟨v,H,I,r,h⟩ hn hd
variable {a b:Expr}{ta tb:TE}{pos:Pos}
def PC (X:Cx)(op:CmpOp)(a b:Expr)(t:TE):Prop :=
 ∀ (pins:List (Addr × Obj)) (s:Shared) (σ:St) (H:Hp) (Q:VK),Inv X pins σ H s->t σ H Q ->
  wpAny (model X.prog X.w) X.A (eval a X.env) (fun v s₁=>wpAny (model X.prog X.w) X.A (eval b X.env) (fun u s₂=>wpAny (model X.prog X.w) X.A (compareOp op v u) (EP X pins σ Q) X.xe s₂) X.xe s₁) X.xe s
theorem nobehind (b:Expr){op:CmpOp}(h:op≠.In)(h2:op≠.NotIn):behindInMarks op b=false:=by
 have e1:(op==CmpOp.In)=false:=by cases op <;> first | rfl | exact absurd rfl h
 have e2:(op==CmpOp.NotIn)=false:=by cases op <;> first | rfl | exact absurd rfl h2
 cases b <;> simp [behindInMarks,e1,e2]
def tB (t:TE):TT:=fun σ H Q=>t σ H fun x H1=>∃ c,x=.bl c/\Q c H1
theorem pe_cmp {op:CmpOp}{t:TE}(h:PC X op a b t)(h1:behindInMarks op b=false:=by first | exact nobehind _ (by decide) (by decide) | rfl):PE X (.Compare a [op] [b] pos) t:=fun pins s σ H Q I hw=>wpAny_Compare1 (h pins s σ H Q I hw) h1
theorem pt_cmp {op:CmpOp}{t:TE}(h:PC X op a b t)(h1:behindInMarks op b=false:=by first | exact nobehind _ (by decide) (by decide) | rfl):PT X (.Compare a [op] [b] pos) (tB t):=by
 intro pins s σ H Q I hw
 refine wpAny_isTrue_Compare1 (thn (h pins s σ H _ I hw) fun v s1 h1=>thn h1 fun u s2 h2=>thn h2 fun c s3 ⟨x,H1,I1,r1,q1⟩=>?_) h1
 obtain ⟨d,rfl,q⟩:=q1
 cases r1
 exact wpAny_truthy_bool ⟨H1,I1,q⟩
theorem pt_val {e:Expr}{t:TE}(h:PE X e t)(he:∀ whole,isTrue e X.env whole=(do let v <- whole;standAt e.pos;holding [v] (truthy v)):=by intro _;rfl):PT X e (tB t):=by
 intro pins s σ H Q I hw
 refine isTrue_plain (thn (h pins s σ H _ I hw) fun v s1 ⟨x,H1,I1,r1,q1⟩=>?_) (he _)
 obtain ⟨d,rfl,q⟩:=q1
 cases r1
 exact wpAny_truthy_bool ⟨H1,I1,q⟩
variable {tA tB':TT}{rest:List Expr}
def tOr (t u:TT):TT:=fun σ H Q=>t σ H fun c H1=>if c=true then Q true H1 else u σ H1 Q
def tNot (t:TT):TT:=fun σ H Q=>t σ H fun c H1=>Q (!c) H1
theorem pw_or1 (ha:PT X a tA):PW X (.BoolOp .Or [a] pos) tA:=by
 intro wh pins s σ H Q I h
 refine isTrue_or (thn (ha pins s σ H Q I h) fun c s1 e=>?_)
 cases c with
 | false=>exact isTrue_or_nil e
 | true=>exact e
theorem pw_or (ha:PT X a tA)(hb:PW X (.BoolOp .Or (b::rest) pos) tB'):PW X (.BoolOp .Or (a::b::rest) pos) (tOr tA tB'):=by
 intro wh pins s σ H Q I h
 refine isTrue_or (thn (ha pins s σ H _ I h) fun c s1 ⟨H1,I1,q1⟩=>?_)
 cases c with
 | true=>exact ⟨H1,I1,q1⟩
 | false=>exact hb wh pins s1 σ H1 Q I1 q1
theorem pt_not (ha:PT X a tA):PT X (.UnaryOp .Not a pos) (tNot tA):=by
 intro pins s σ H Q I h
 exact isTrue_not (ha pins s σ H (fun c H1=>Q (!c) H1) I h)
def tAndV (ta tb:TE):TE:=fun σ H Q=>ta σ H fun x H1=>∃ c,x=.bl c/\if c=true then tb σ H1 Q else Q (.bl false) H1
def tNotV (ta:TE):TE:=fun σ H Q=>ta σ H fun x H1=>∃ c,x=.bl c/\Q (.bl (!c)) H1
theorem pe_one {op}{t:TE}(h:PE X a t):PE X (.BoolOp op [a] pos) t:=fun pins s σ H Q I hw=>BoolOp_one (h pins s σ H Q I hw)
theorem pe_and (ha:PE X a ta)(hb:PE X (.BoolOp .And (b::rest) pos) tb):PE X (.BoolOp .And (a::b::rest) pos) (tAndV ta tb):=by
 intro pins s σ H Q I h
 refine BoolOp_and (thn (ha pins s σ H _ I h) fun v s1 ⟨x,H1,I1,r1,q1⟩=>?_)
 obtain ⟨c,rfl,q1⟩:=q1
 cases r1
 refine wpAny_truthy_bool ?_
 cases c with
 | true=>exact hb pins s1 σ H1 Q I1 q1
 | false=>exact ⟨.bl false,H1,I1,rfl,q1⟩
theorem pe_not (ha:PE X a ta):PE X (.UnaryOp .Not a pos) (tNotV ta):=by
 intro pins s σ H Q I h
 refine UnaryOp_ (thn (ha pins s σ H _ I h) fun v s1 ⟨x,H1,I1,r1,q1⟩=>?_)
 obtain ⟨c,rfl,q1⟩:=q1
 cases r1
 exact not_of (wpAny_truthy_bool ⟨.bl (!c),H1,I1,rfl,q1⟩)
def tIf (t:TT)(ta tb:TE):TE:=fun σ H Q=>t σ H fun c H1=>if c=true then ta σ H1 Q else tb σ H1 Q
theorem pe_ifExp {c:Expr}(hc:PT X c tA)(ha:PE X a ta)(hb:PE X b tb):PE X (.IfExp c a b pos) (tIf tA ta tb):=by
 intro pins s σ H Q I h
 refine wpAny_IfExp (thn (hc pins s σ H _ I h) fun d s1 ⟨H1,I1,q1⟩=>?_)
 cases d with
 | true=>exact ha pins s1 σ H1 Q I1 q1
 | false=>exact hb pins s1 σ H1 Q I1 q1
end
end L2
namespace L2
open PySem PySem.Spec PyProof.Rows
def SqL (K:PySem.W.Frag)(H:Hp)(a:Addr)(xs:List V):Prop :=
 Rd H a (.lst xs) \/
  ∃ (o:Obj) (its:Array Value) (n:Nat),K.lookup a=some o/\o.cls=.type "list"/\o.dict=none/\o.data=.seq its n/\its.size<=sizeLine/\Vals xs its.toList
def SqT (K:PySem.W.Frag)(H:Hp)(a:Addr)(xs:List V):Prop :=
 Rd H a (.tup xs) \/
  ∃ (o:Obj) (its:Array Value) (n:Nat),K.lookup a=some o/\o.cls=.type "tuple"/\o.data=.seq its n/\its.size<=sizeLine/\Vals xs its.toList
def absV:Value->Option V
 | .none=>some .non
 | .bool b=>some (.bl b)
 | .int i _=>some (.int i)
 | .str x _=>some (.str x)
 | .bytes b _=>some (.byt b)
 | .float b _=>some (.flt b)
 | .ref a=>some (.ref a)
 | .type n=>some (.ty n)
 | _=>none
theorem RelV.abs {x:V}{u:Value}(r:RelV x u):absV u=some x:=by
 cases x with
 | non=>cases r;rfl
 | bl _=>cases r;rfl
 | int _=>obtain ⟨t,rfl⟩:=r;rfl
 | str _=>obtain ⟨t,rfl⟩:=r;rfl
 | byt _=>obtain ⟨t,rfl⟩:=r;rfl
 | flt _=>obtain ⟨t,rfl⟩:=r;rfl
 | ref _=>cases r;rfl
 | ty _=>cases r;rfl
theorem RelV.inj {x y:V}{u:Value}(r:RelV x u)(q:RelV y u):x=y:=Option.some.inj (r.abs.symm.trans q.abs)
theorem Vals.inj:∀ {xs ys:List V} {us:List Value},Vals xs us->Vals ys us->xs=ys
 | _,_,_,.nil,.nil=>rfl
 | _,_,_,.cons r t,.cons r' t'=>by rw [r.inj r',Vals.inj t t']
section
variable {X:Cx}{pins:List (Addr × Obj)}{σ:St}{H:Hp}{s:Shared}{a:Addr}{xs ys:List V}
theorem SqL.of {K:PySem.W.Frag}(h:H a=some (.lst xs)):SqL K H a xs:=.inl (.inl h)
theorem SqT.of {K:PySem.W.Frag}(h:H a=some (.tup xs)):SqT K H a xs:=.inl (.inl h)
theorem Inv.list (I:Inv X pins σ H s)(h:SqL X.K H a xs):∃ its:List Value,Vals xs its/\PlainL s.heap a its.toArray/\xs.length<=sizeLine:=by
 rcases h with h | ⟨o,its,n,hk,hc,hd,hs,hz,r⟩
 ·obtain ⟨z,its,n,r,e⟩:=h.ok I.hok
  exact ⟨its,r,⟨_,n,e,rfl,rfl,rfl⟩,z⟩
 ·refine ⟨its.toList,r,⟨o,n,I.kIn a o hk,hc,hd,by simpa using hs⟩,?_⟩
  have e:=r.length
  simp only [Array.length_toList] at e
  omega
theorem Inv.tuple (I:Inv X pins σ H s)(h:SqT X.K H a xs):∃ its:List Value,Vals xs its/\IsTup s.heap a its.toArray/\xs.length<=sizeLine:=by
 rcases h with h | ⟨o,its,n,hk,hc,hs,hz,r⟩
 ·obtain ⟨z,its,r,p⟩:=h.ok I.hok
  exact ⟨its,r,p,z⟩
 ·refine ⟨its.toList,r,⟨o,I.kIn a o hk,hc,n,by simpa using hs⟩,?_⟩
  have e:=r.length
  simp only [Array.length_toList] at e
  omega
theorem Inv.list_inj (I:Inv X pins σ H s)(h:SqL X.K H a xs)(h':SqL X.K H a ys):xs=ys:=by
 obtain ⟨its,r,⟨o,n,e,_,_,d⟩,_⟩:=I.list h
 obtain ⟨its',r',⟨o',n',e',_,_,d'⟩,_⟩:=I.list h'
 rw [e] at e';cases e'
 rw [d] at d'
 injection d' with d1 _
 have:its=its':=by simpa using congrArg Array.toList d1
 subst this
 exact r.inj r'
theorem Inv.tuple_inj (I:Inv X pins σ H s)(h:SqT X.K H a xs)(h':SqT X.K H a ys):xs=ys:=by
 obtain ⟨its,r,⟨o,e,_,n,d⟩,_⟩:=I.tuple h
 obtain ⟨its',r',⟨o',e',_,n',d'⟩,_⟩:=I.tuple h'
 rw [e] at e';cases e'
 rw [d] at d'
 injection d' with d1 _
 have:its=its':=by simpa using congrArg Array.toList d1
 subst this
 exact r.inj r'
end
abbrev Cx.wish (X:Cx)(E:Value->Shared->Prop):Cx:={ X with xe:=E }
abbrev Cx.nox (X:Cx):Cx:=X.wish fun _ _=>False
theorem Cx.Ok.wish {X:Cx}(ok:X.Ok)(E:Value->Shared->Prop):(X.wish E).Ok :=
 ⟨ok.mod,ok.kind,ok.glob,ok.blt,ok.above,ok.inj,ok.has,ok.cab,ok.hd,ok.frames,ok.stk,ok.exf,ok.bs,ok.bsz,ok.noex,ok.exfs,ok.funs,ok.frf⟩
theorem Cx.Ok.unwish {X:Cx}{E:Value->Shared->Prop}(ok:(X.wish E).Ok):X.Ok :=
 ⟨ok.mod,ok.kind,ok.glob,ok.blt,ok.above,ok.inj,ok.has,ok.cab,ok.hd,ok.frames,ok.stk,ok.exf,ok.bs,ok.bsz,ok.noex,ok.exfs,ok.funs,ok.frf⟩
section
variable {X:Cx}{pins:List (Addr × Obj)}{σ:St}{H:Hp}{s:Shared}{E:Value->Shared->Prop}
theorem Inv.wish (I:Inv X pins σ H s)(E:Value->Shared->Prop):Inv (X.wish E) pins σ H s:=⟨I.ok.wish E,I.os,I.bare,I.base,I.loc,I.cell,I.free,I.freeC,I.pin,I.hok,I.len⟩
theorem Inv.unwish (I:Inv (X.wish E) pins σ H s):Inv X pins σ H s:=⟨I.ok.unwish,I.os,I.bare,I.base,I.loc,I.cell,I.free,I.freeC,I.pin,I.hok,I.len⟩
theorem SP.unwish {D:Ends}{f:Flow}{s':Shared}(h:SP (X.wish E) pins D f s'):SP X pins D f s':=by
 cases f with
 | next=>obtain ⟨σ',H',I,q⟩:=h;exact ⟨σ',H',I.unwish,q⟩
 | brk=>obtain ⟨σ',H',I,q⟩:=h;exact ⟨σ',H',I.unwish,q⟩
 | cont=>obtain ⟨σ',H',I,q⟩:=h;exact ⟨σ',H',I.unwish,q⟩
 | ret u=>obtain ⟨v,σ',H',I,r,q⟩:=h;exact ⟨v,σ',H',I.unwish,r,q⟩
theorem PSs.nox {st:List Stmt}{t:TS}(h:PSs X.nox st t):PSs X st t:=fun pins s σ H D I hw =>
 wpAny_mono (h pins s σ H D (I.wish _) hw) (fun _ _ q=>q.unwish) fun _ _ z=>False.elim z
end
section
variable {X:Cx}{st:Stmt}{rest:List Stmt}{t u:TS}{e:Expr}{te:TE}{pos:Pos}
def tNext:TS:=fun D σ H=>D.nx σ H
def tSeq (t u:TS):TS:=fun D σ H=>t { D with nx:=u D } σ H
theorem pss_nil:PSs X [] tNext:=fun _ _ σ H _ I h=>wpAny_execs_nil ⟨σ,H,I,h⟩
theorem pss_cons (h1:PS X st t)(h2:PSs X rest u):PSs X (st::rest) (tSeq t u):=by
 intro pins s σ H D I h
 refine wpAny_execs_cons (thn (h1 pins s σ H { D with nx:=u D } I h) fun f s1 q=>?_)
 cases f with
 | next =>
  obtain ⟨σ',H',I',q⟩:=q
  exact h2 pins s1 σ' H' D I' q
 | ret v=>exact q
 | brk=>exact q
 | cont=>exact q
theorem pss_one (h1:PS X st t):PSs X [st] t:=by
 intro pins s σ H D I h
 refine wpAny_execs_cons (thn (h1 pins s σ H D I h) fun f s1 q=>?_)
 cases f with
 | next=>exact wpAny_execs_nil q
 | ret v=>exact q
 | brk=>exact q
 | cont=>exact q
def tCont:TS:=fun D σ H=>D.ct σ H
theorem ps_continue:PS X (.Continue pos) tCont:=fun _ _ σ H _ I h=>wpAny_Continue ⟨σ,H,I,h⟩
theorem Inv.quiet {pins:List (Addr × Obj)}{σ:St}{H:Hp}{s:Shared}(I:Inv X pins σ H s):interactive X.env=false:=by simp [interactive,I.ok.kind]
def tDrop (te:TE):TS:=fun D σ H=>te σ H fun _ H1=>D.nx σ H1
theorem ps_expr (he:PE X e te)(hs:swapsWith e none pos.line X.env=pure false:=by rfl):PS X (.Expr e pos) (tDrop te):=by
 intro pins s σ H D I h
 exact wpAny_Expr_any (thn (he pins s σ H _ I h) fun v s1 ⟨x,H1,I1,r1,q1⟩=>⟨σ,H1,I1,q1⟩) I.quiet hs
def tRet (te:TE):TS:=fun D σ H=>te σ H D.rt
theorem ps_ret (he:PE X e te):PS X (.Return (some e) pos) (tRet te):=by
 intro pins s σ H D I h
 exact wpAny_Return_some (thn (he pins s σ H _ I h) fun v s1 ⟨x,H1,I1,r1,q1⟩=>⟨x,σ,H1,I1,r1,q1⟩)
def tIfS (c:TT)(t u:TS):TS:=fun D σ H=>c σ H fun b H1=>if b=true then t D σ H1 else u D σ H1
theorem ps_if {c:Expr}{a b:List Stmt}{tc:TT}(hc:PT X c tc)(ha:PSs X a t)(hb:PSs X b u):PS X (.If c a b pos) (tIfS tc t u):=by
 intro pins s σ H D I h
 refine wpAny_If (thn (hc pins s σ H _ I h) fun d s1 ⟨H1,I1,q1⟩=>?_)
 cases d with
 | true=>exact ha pins s1 σ H1 D I1 q1
 | false=>exact hb pins s1 σ H1 D I1 q1
end
abbrev TG:=V->St->Hp->(St->Hp->Prop)->Prop
abbrev TGs:=List V->St->Hp->(St->Hp->Prop)->Prop
def PG (X:Cx)(target:Expr)(t:TG):Prop :=
 ∀ (pins:List (Addr × Obj)) (s:Shared) (σ:St) (H:Hp) (v:V) (u:Value) (Q:St->Hp->Prop),Inv X pins σ H s->RelV v u->t v σ H Q ->
  wpAny (model X.prog X.w) X.A (assign target X.env u) (fun _ s'=>∃ σ' H',Inv X pins σ' H' s'/\Q σ' H') X.xe s
def PGs (X:Cx)(ts:List Expr)(t:TGs):Prop :=
 ∀ (pins:List (Addr × Obj)) (s:Shared) (σ:St) (H:Hp) (vs:List V) (us:List Value) (Q:St->Hp->Prop),Inv X pins σ H s->Vals vs us->t vs σ H Q ->
  wpAny (model X.prog X.w) X.A (assignInOrder ((assignEach ts X.env).map (·.2)) us) (fun _ s'=>∃ σ' H',Inv X pins σ' H' s'/\Q σ' H') X.xe s
abbrev TSet:=V->V->V->Hp->(Hp->Prop)->Prop
def PSet (X:Cx)(t:TSet):Prop :=
 ∀ (pins:List (Addr × Obj)) (s:Shared) (σ:St) (H:Hp) (o i v:V) (ov iv u:Value) (Q:Hp->Prop),Inv X pins σ H s->RelV o ov->RelV i iv->RelV v u->t o i v H Q ->
  wpAny (model X.prog X.w) X.A (setItem ov iv u) (fun _ s'=>∃ H',Inv X pins σ H' s'/\Q H') X.xe s
section
variable {X:Cx}{pos:Pos}
def gName (i:Nat):TG:=fun v σ H Q=>Q (σ.set i (some v)) H
theorem pg_name {i:Nat}{x:Str}(hN:X.N.Nodup)(hi:X.N[i]?=some x)(hx:Loc X.env.scope x)(hf:X.fn x=true\/X.env.scope.names.lookup x=some .local:=by first | exact .inl rfl | exact .inr rfl | assumption):PG X (.Name x pos) (gName i):=by
 intro pins s σ H v u Q I r h
 exact wpAny_assign_Name (store_ok I hN hi hx r (fun s' I'=>⟨_,H,I',h⟩) hf)
def gNil:TGs:=fun vs σ H Q=>vs=[]/\Q σ H
def gCons (t:TG)(u:TGs):TGs:=fun vs σ H Q=>∃ v r,vs=v::r/\t v σ H fun σ' H'=>u r σ' H' Q
theorem pgs_nil:PGs X [] gNil:=by
 intro pins s σ H vs us Q I r h
 obtain ⟨e,h⟩:=h
 subst e
 cases r
 exact assignInOrder_nil ⟨σ,H,I,h⟩
theorem pgs_cons {e:Expr}{es:List Expr}{t:TG}{u:TGs}(h1:PG X e t)(h2:PGs X es u)
  (hs:(assignEach (e::es) X.env).map (·.2)=assign e X.env::(assignEach es X.env).map (·.2):=by rfl):PGs X (e::es) (gCons t u):=by
 intro pins s σ H vs us Q I r h
 obtain ⟨v,vr,e1,h⟩:=h
 subst e1
 cases r with
 | cons r rr =>
  rw [hs]
  refine assignInOrder_cons (thn (h1 pins s σ H _ _ _ I r h) fun _ s1 ⟨σ1,H1,I1,q1⟩=>?_)
  exact h2 pins s1 σ1 H1 _ _ Q I1 rr q1
def gTup (K:PySem.W.Frag)(n:Nat)(t:TGs):TG:=fun v σ H Q=>∃ a xs,v=.ref a/\SqT K H a xs/\xs.length=n/\t xs σ H Q
theorem pg_tup {es:List Expr}{k:Nat}{t:TGs}{n:Nat}(hc:X.calm=true)(h:PGs X es t)
  (hn:(assignEach es X.env).length=n:=by rfl) (hst:(assignEach es X.env).findIdx? (·.1)=none:=by rfl):PG X (.Tuple es k pos) (gTup X.K n t):=by
 intro pins s σ H v u Q I r hw
 obtain ⟨a,xs,e1,hq,hl,hw⟩:=hw
 subst e1
 cases r
 obtain ⟨its,rv,ht,hz⟩:=I.tuple hq
 refine assign_Tuple_tuple (I.ok.hd hc) ht (by simp [hn,<- hl,rv.length]) hst fun h' hx=>?_
 have I1:Inv X pins σ H { s with heap:=h' }:=I.kept (t':=s.toks) fun b o e=>hx b o (Nat.ne_of_lt (Heap.lt_size e)) e
 exact h pins _ σ H xs _ Q I1 (by simpa using rv) hw
def gSub (to ti:TE)(t:TSet):TG:=fun v σ H Q=>to σ H fun o H1=>ti σ H1 fun i H2=>t o i v H2 fun H3=>Q σ H3
theorem pg_sub {o i:Expr}{to ti:TE}{t:TSet}(ho:PE X o to)(hi:PE X i ti)(hs:PSet X t)
  (ha:∀ v,assign (.Subscript o i pos) X.env v=(do
   let ov <- holding [v] (eval o X.env)
   let iv <- holding [v,ov] (eval i X.env)
   standAt pos
   holding [v,ov,iv] (setItem ov iv v)
   release [v,ov,iv] []):=by intro _;rfl):PG X (.Subscript o i pos) (gSub to ti t):=by
 intro pins s σ H v u Q I r h
 rw [ha]
 refine wpAny_bind (wpAny_holding (thn (ho pins s σ H _ I h) fun ov s1 ⟨x,H1,I1,r1,q1⟩=>?_))
 refine wpAny_bind (wpAny_holding (thn (hi pins s1 σ H1 _ I1 q1) fun iv s2 ⟨y,H2,I2,r2,q2⟩=>?_))
 refine wpAny_bind (wpAny_standAt (wpAny_bind (wpAny_holding (thn (hs pins s2 σ H2 x y v ov iv u _ I2 r1 r2 r q2) fun _ s3 ⟨H3,I3,q3⟩=>?_))))
 exact wpAny_release ⟨σ,H3,I3,q3⟩
def tAsg (te:TE)(g:TG):TS:=fun D σ H=>te σ H fun x H1=>g x σ H1 D.nx
theorem ps_asg {tg e:Expr}{te:TE}{g:TG}(he:PE X e te)(hg:PG X tg g)(hs:swapsWithSole [tg] e pos.line X.env=pure false:=by rfl)(hw:swappedStores [tg] e X.env=pure none:=by rfl)
  (h1:(assignEach [tg] X.env).map (·.2)=[assign tg X.env]:=by rfl):PS X (.Assign [tg] e pos) (tAsg te g):=by
 intro pins s σ H D I h
 refine wpAny_Assign_stores (thn (he pins s σ H _ I h) fun v s1 ⟨x,H1,I1,r1,q1⟩=>?_) hs hw
 rw [h1]
 exact thn (hg pins s1 σ H1 x v _ I1 r1 q1) fun _ s2 q=>q
theorem ps_set {i:Nat}{x:Str}{e:Expr}{te:TE}{pos':Pos}(hN:X.N.Nodup)(hi:X.N[i]?=some x)(hx:Loc X.env.scope x)(he:PE X e te)(hs:swapsWith e (some (.Name x pos')) pos.line X.env=pure false:=by rfl)(hf:X.fn x=true\/X.env.scope.names.lookup x=some .local:=by first | exact .inl rfl | exact .inr rfl | assumption):
  PS X (.Assign [.Name x pos'] e pos) (tAsg te (gName i)):=by
 intro pins s σ H D I h
 refine wpAny_Assign_Name (thn (he pins s σ H _ I h) fun v s1 ⟨y,H1,I1,r1,q1⟩=>?_) hs
 exact store_ok I1 hN hi hx r1 (fun s2 I2=>⟨_,H1,I2,q1⟩) hf
def tPar (i j:Nat)(ta:TA):TS:=fun D σ H=>ta σ H fun vs H1=>∃ v w,vs=[v,w]/\D.nx ((σ.set i (some v)).set j (some w)) H1
theorem ps_par {i j:Nat}{x y:Str}{a b:Expr}{ta:TA}{px py pt:Pos}{kt k2 pt2}(hc:X.calm=true)(hN:X.N.Nodup)(hi:X.N[i]?=some x)(hj:X.N[j]?=some y)(hij:i≠j)
  (hx:X.env.scope.names.lookup x=some .local) (hy:X.env.scope.names.lookup y=some .local) (ha:PA X [a,b] ta)
  (hw:swappedStores [.Tuple [.Name x px,.Name y py] kt pt] (.Tuple [a,b] k2 pt2) X.env=pure (some [x,y]))
  (hs:swapsWithSole [.Tuple [.Name x px,.Name y py] kt pt] (.Tuple [a,b] k2 pt2) pos.line X.env=pure false:=by rfl) :
  PS X (.Assign [.Tuple [.Name x px,.Name y py] kt pt] (.Tuple [a,b] k2 pt2) pos) (tPar i j ta):=by
 intro pins s σ H D I h
 rw [exec_Assign_arm]
 refine wpAny_bind (wpAny_standAt ?_)
 rw [hs]
 refine wpAny_bind (wpAny_pure ?_)
 rw [if_neg (by decide)]
 refine wpAny_bind (Tuple_ (thn (ha _ pins s σ H _ I h) fun us s1 ⟨vs,H1,I1,r1,q1⟩=>?_))
 obtain ⟨v,w,e1,q1⟩:=q1
 subst e1
 obtain ⟨u1,u2,rfl,rv,rw'⟩:∃ u1 u2,us=[u1,u2]/\RelV v u1/\RelV w u2:=by
  cases r1 with
  | cons p q =>
   cases q with
   | cons p' q' =>
    cases q'
    exact ⟨_,_,rfl,p,p'⟩
 refine wpAny_newObj_type ?_ (by show 2<=sizeLine;decide)
 have I2:Inv X pins σ H1 { s1 with heap:=s1.heap.push { cls:=.type "tuple",data:=.seq [u1,u2].toArray } }:=I1.kept (t':=s1.toks) fun b o e=>Heap.get?_push_of_some _ e
 rw [hw]
 refine wpAny_bind (wpAny_pure ?_)
 show wpAny (model X.prog X.w) X.A (do rule "assign.swapped-stores";let items <- unpackItems (.ref s1.heap.objs.size) 2 none;assignInOrder [fun v=>bindName X.env y v,fun v=>bindName X.env x v] items.reverse;pure Flow.next) _ _ _
 refine wpAny_bind (wpAny_rule (wpAny_bind (unpackItems_tuple (items:=#[u1,u2]) (I.ok.hd hc) (IsTup.new s1.heap _) fun h' hx'=>?_)))
 have I3:=I2.kept (h':=h') (t':=s1.toks) fun b o e=>hx' b o (Nat.ne_of_lt (Heap.lt_size e)) e
 show wpAny _ _ (assignInOrder [fun v=>bindName X.env y v,fun v=>bindName X.env x v] [u2,u1] >>= fun _=>pure Flow.next) _ _ _
 refine wpAny_bind (assignInOrder_cons (wpAny_bindName (store_ok I3 hN hj (.inl hy) rw' (fun s2 I4=>?_) (.inr hy))))
 refine assignInOrder_cons (wpAny_bindName (store_ok I4 hN hi (.inl hx) rv (fun s3 I5=>assignInOrder_nil (wpAny_pure ?_)) (.inr hx)))
 rw [List.set_comm _ _ (Ne.symm hij)] at I5
 exact ⟨_,H1,I5,q1⟩
end
section
variable {X:Cx}{pos:Pos}
def tWhile (c:TT)(tb:TS):TS:=fun D σ H=>∃ W:Nat->St->Hp->Prop,(∃ m,W m σ H)/\∀ m σ H,W m σ H ->
 c σ H fun b H1=>if b=true then ∃ N:St->Hp->Prop,(∀ σ' H',N σ' H'->∃ m',m' < m/\W m' σ' H')/\tb { D with nx:=N,ct:=N,bk:=D.nx } σ H1 else D.nx σ H1
theorem ps_while {c:Expr}{body:List Stmt}{tc:TT}{tb:TS}(hp:PassesOwn (model X.prog X.w) X.A X.env X.xe)(hc:PT X c tc)(hb:PSs X body tb):PS X (.While c body [] pos) (tWhile tc tb):=by
 intro pins s σ H D I h
 obtain ⟨W,⟨m0,w0⟩,turn⟩:=h
 refine wpAny_While (codeAny_whileLoop (fun n s'=>∃ σ' H',Inv X pins σ' H' s'/\W n σ' H') ?_ m0 ⟨σ,H,I,w0⟩)
 rintro n s1 ⟨σ1,H1,I1,w1⟩
 refine wpAny_passesOwn hp (thn (hc pins s1 σ1 H1 _ I1 (turn n σ1 H1 w1)) fun b s2 ⟨H2,I2,q2⟩=>?_)
 cases b with
 | true =>
  obtain ⟨N,hN,q2⟩:=q2
  rw [if_pos rfl]
  refine wpAny_passesOwn hp (thn (hb pins s2 σ1 H2 _ I2 q2) fun f s3 q3=>?_)
  cases f with
  | next =>
   obtain ⟨σ3,H3,I3,n3⟩:=q3
   obtain ⟨m',hm,w3⟩:=hN σ3 H3 n3
   exact ⟨m',hm,σ3,H3,I3,w3⟩
  | cont =>
   obtain ⟨σ3,H3,I3,n3⟩:=q3
   obtain ⟨m',hm,w3⟩:=hN σ3 H3 n3
   exact ⟨m',hm,σ3,H3,I3,w3⟩
  | brk=>exact q3
  | ret v=>exact q3
 | false =>
  rw [if_neg Bool.false_ne_true]
  exact wpAny_execs_nil ⟨σ1,H2,I2,q2⟩
end
structure It where
 go:Nat->Hp->Prop
 yld:Nat->Hp->V->Hp->Prop
 stop:Nat->Hp->Prop
def FpOk (X:Cx)(pins:List (Addr × Obj))(H:Hp)(b:Addr):Prop :=
 H b=none/\b≠X.env.locals/\b∉X.fs/\(b∈X.ex\/X.s₀.heap.objs.size<=b)/\(∀ x c,X.env.cells.lookup x=some c->c≠b)/\∀ p∈X.pn++pins,p.1≠b
theorem Inv.fpOk {X:Cx}{pins:List (Addr × Obj)}{σ:St}{H H':Hp}{s:Shared}{b:Addr}(I:Inv X pins σ H s)(hb:s.heap.objs.size<=b)(hn:H' b=none):FpOk X pins H' b:=by
 refine ⟨hn,Nat.ne_of_gt (Nat.lt_of_lt_of_le I.lt hb),I.nofs hb,.inr (Nat.le_trans I.sz hb),fun x c e z=>?_,fun p hp z=>?_⟩
 ·obtain ⟨v,q⟩:=I.cell x c e
  exact absurd (Nat.lt_of_lt_of_le q.lt (by rw [z];exact hb)) (Nat.lt_irrefl _)
 ·exact absurd (Nat.lt_of_lt_of_le (Heap.lt_size (I.pin p hp).1) (by rw [z];exact hb)) (Nat.lt_irrefl _)
structure Turn (P:Program)(w:World)(K:PySem.W.Frag)(tg:Expr)(J:It)(fp:List Addr)(it:Addr)(tn:Nat->Heap->Prop):Prop where
 mem:it∈fp
 obj:∀ i h,tn i h->∀ b∈fp,∃ o,h.get? b=some o/\∀ v,o.data≠.cell v
 keep:∀ i h h',tn i h->(∀ b∈fp,∀ o,h.get? b=some o->h'.get? b=some o)->tn i h'
 item:∀ (X:Cx),X.prog=P->X.w=w->X.K=K->X.calm=true->∀ (i:Nat) (pins:List (Addr × Obj)) (s:Shared) (σ:St) (H:Hp) (E:Value->Shared->Prop),Inv X pins σ H s->(∀ b∈fp,FpOk X pins H b)->tn i s.heap->J.go i H ->
  wpAny (model P w) X.A (pyNext (.ref it)) (fun r s1=>∃ u,r=some u /\
   wpAny (model P w) X.A (letOwnedTupleGo tg (.ref it) u) (fun _ s2=>∃ x H',Inv X pins σ H' s2/\RelV x u/\J.yld i H x H'/\tn (i+1) s2.heap/\∀ b∈fp,H' b=none) E s1) E s
 done:∀ (X:Cx),X.prog=P->X.w=w->X.K=K->X.calm=true->∀ (i:Nat) (pins:List (Addr × Obj)) (s:Shared) (σ:St) (H:Hp) (E:Value->Shared->Prop),Inv X pins σ H s->(∀ b∈fp,FpOk X pins H b)->tn i s.heap->J.stop i H ->
  wpAny (model P w) X.A (pyNext (.ref it)) (fun r s1=>r=none/\Inv X pins σ H s1) E s
 self:∀ (A:Around) (i:Nat) (s:Shared) (Q:Value->Shared->Prop) (E:Value->Shared->Prop),tn i s.heap->Q (.ref it) s->wpAny (model P w) A (pyIter (.ref it)) Q E s
abbrev TI:=St->Hp->(It->Hp->Prop)->Prop
def PIE (X:Cx)(pins:List (Addr × Obj))(σ:St)(tg:Expr)(R:It->Hp->Prop)(itv:Value)(s2:Shared):Prop :=
 ∃ (it:Addr) (fp:List Addr) (tn:Nat->Heap->Prop) (J:It) (H':Hp),itv=.ref it/\Inv X pins σ H' s2/\Turn X.prog X.w X.K tg J fp it tn/\tn 0 s2.heap/\(∀ b∈fp,FpOk X pins H' b)/\R J H'
def PI (X:Cx)(tg iter:Expr)(wi:TI):Prop :=
 ∀ (pins:List (Addr × Obj)) (s:Shared) (σ:St) (H:Hp) (R:It->Hp->Prop),Inv X pins σ H s->wi σ H R ->
  wpAny (model X.prog X.w) X.A (eval iter X.env) (fun v s1=>wpAny (model X.prog X.w) X.A (pyIter v) (PIE X pins σ tg R) X.xe s1) X.xe s
theorem go_of {M:Model}{A:Around}{E:Value->Shared->Prop}{s:Shared}{tg:Expr}{it:Addr}{u:Value}{o:Obj}{n:String}{vs:Array Value}{Q:Unit->Shared->Prop}(ho:s.heap.get? it=some o)(hc:o.cls=.type n)(hd:o.data=.fields vs)
    (hn:["enumerate","zip","dict_itemiterator","dict_reverseitemiterator","odict_iterator","itertools.zip_longest","itertools.pairwise"].contains n=false) (hQ:Q () s):wpAny M A (letOwnedTupleGo tg (.ref it) u) Q E s:=by
  unfold letOwnedTupleGo
  cases tg <;> first
    | exact wpAny_pure hQ
    | (cases u <;> first
        | exact wpAny_pure hQ
        | (refine wpAny_bind (wpAny_load ho ?_)
           rw [hc,hd]
           show wpAny M A (if (["enumerate","zip","dict_itemiterator","dict_reverseitemiterator","odict_iterator","itertools.zip_longest","itertools.pairwise"].contains n && vs[0]?==some (rawInt _))=true then _ else _) Q E s
           rw [if_neg (by intro h;rw [hn,Bool.false_and] at h;cases h)]
           exact wpAny_pure hQ))
def Itl (K:PySem.W.Frag)(a:Addr):It :=
 ⟨fun i H=>∃ xs x,SqL K H a xs/\xs[i]?=some x,fun i H x H'=>H'=H/\∀ xs,SqL K H a xs->xs[i]?=some x,fun i H=>∃ xs,SqL K H a xs/\xs.length<=i⟩
def Itt (K:PySem.W.Frag)(a:Addr):It :=
 ⟨fun i H=>∃ xs x,SqT K H a xs/\xs[i]?=some x,fun i H x H'=>H'=H/\∀ xs,SqT K H a xs->xs[i]?=some x,fun i H=>∃ xs,SqT K H a xs/\xs.length<=i⟩
def Itr (lo:Int)(n:Nat):It:=⟨fun i _=>i < n,fun i H x H'=>H'=H/\x=.int (lo+i),fun i _=>n<=i⟩
theorem turn_list {P:Program}{w:World}{K:PySem.W.Frag}{tg:Expr}(a it:Addr):Turn P w K tg (Itl K a) [it] it (fun i h=>h.IsListIter it a i) where
 mem:=by simp
 obj:=fun i h st b hb=>by
  have e:b=it:=by simpa using hb
  subst e
  obtain ⟨o,e,c,d⟩:=st
  exact ⟨o,e,fun v z=>by rw [d] at z;cases z⟩
 keep:=fun i h h' st k=>st.at fun o e=>k it (by simp) o e
 item:=by
  intro X hP hw hK hc i pins s σ H E I hf st hg
  subst hP hw hK
  obtain ⟨xs,x,hq,hx⟩:=hg
  obtain ⟨its,rv,p,hz⟩:=I.list hq
  obtain ⟨u,hu,ru⟩:=rv.get hx
  obtain ⟨f0,f1,f2,f3,f4,f5⟩:=hf it (by simp)
  refine wpAny_pyNext_list_item st p.isList (x:=u) (by simpa using hu) fun h' st' sb=>?_
  have I1:Inv X pins σ H { s with heap:=h' }:=I.turned (t':=s.toks) (fun b o hb e=>(sb.2 b hb).trans e) f0 f1 f3 f4 f5
  obtain ⟨o,e,c,d⟩:=id st'
  exact ⟨u,rfl,go_of (s:={ s with heap:=h' }) e c d (by decide) ⟨x,H,I1,ru,⟨rfl,fun ys hy=>by rw [I.list_inj hy hq];exact hx⟩,st',fun b hb=>(hf b hb).1⟩⟩
 done:=by
  intro X hP hw hK hc i pins s σ H E I hf st hg
  subst hP hw hK
  obtain ⟨xs,hq,hx⟩:=hg
  obtain ⟨its,rv,p,hz⟩:=I.list hq
  obtain ⟨f0,f1,f2,f3,f4,f5⟩:=hf it (by simp)
  have hl:=rv.length
  exact wpAny_pyNext_list_end (I.ok.hd hc) st p.isList (by simp;omega) fun h' eb=>⟨rfl,I.turned (t':=s.toks) (fun b o hb e=>eb b o hb e) f0 f1 f3 f4 f5⟩
 self:=fun _ _ _ _ _ st h=>wpAny_pyIter_listiter st h
theorem turn_tuple {P:Program}{w:World}{K:PySem.W.Frag}{tg:Expr}(a it:Addr):Turn P w K tg (Itt K a) [it] it (fun i h=>h.IsTupleIter it a i) where
 mem:=by simp
 obj:=fun i h st b hb=>by
  have e:b=it:=by simpa using hb
  subst e
  obtain ⟨o,e,c,d⟩:=st
  exact ⟨o,e,fun v z=>by rw [d] at z;cases z⟩
 keep:=fun i h h' st k=>st.at fun o e=>k it (by simp) o e
 item:=by
  intro X hP hw hK hc i pins s σ H E I hf st hg
  subst hP hw hK
  obtain ⟨xs,x,hq,hx⟩:=hg
  obtain ⟨its,rv,p,hz⟩:=I.tuple hq
  obtain ⟨u,hu,ru⟩:=rv.get hx
  obtain ⟨f0,f1,f2,f3,f4,f5⟩:=hf it (by simp)
  refine wpAny_pyNext_tuple_item st (show s.heap.IsTuple a its.toArray from p) (x:=u) (by simpa using hu) fun h' st' sb=>?_
  have I1:Inv X pins σ H { s with heap:=h' }:=I.turned (t':=s.toks) (fun b o hb e=>(sb.2 b hb).trans e) f0 f1 f3 f4 f5
  obtain ⟨o,e,c,d⟩:=id st'
  exact ⟨u,rfl,go_of (s:={ s with heap:=h' }) e c d (by decide) ⟨x,H,I1,ru,⟨rfl,fun ys hy=>by rw [I.tuple_inj hy hq];exact hx⟩,st',fun b hb=>(hf b hb).1⟩⟩
 done:=by
  intro X hP hw hK hc i pins s σ H E I hf st hg
  subst hP hw hK
  obtain ⟨xs,hq,hx⟩:=hg
  obtain ⟨its,rv,p,hz⟩:=I.tuple hq
  obtain ⟨f0,f1,f2,f3,f4,f5⟩:=hf it (by simp)
  have hl:=rv.length
  exact wpAny_pyNext_tuple_end (I.ok.hd hc) st (show s.heap.IsTuple a its.toArray from p) (by simp;omega) fun h' eb=>⟨rfl,I.turned (t':=s.toks) (fun b o hb e=>eb b o hb e) f0 f1 f3 f4 f5⟩
 self:=fun _ _ _ _ _ st h=>wpAny_pyIter_tupleiter st h
theorem turn_range {P:Program}{w:World}{K:PySem.W.Frag}{tg:Expr}(it:Addr)(lo:Int)(n:Nat):Turn P w K tg (Itr lo n) [it] it (fun i h=>IsRangeIter h it (lo+(i:Nat) * 1) ((n:Int) - (i:Nat)) 1) where
 mem:=by simp
 obj:=fun i h st b hb=>by
  have e:b=it:=by simpa using hb
  subst e
  exact ⟨_,st,fun v z=>by
   have z':Data.fields _=Data.cell v:=z
   cases z'⟩
 keep:=fun i h h' st k=>k it (by simp) _ st
 item:=by
  intro X hP hw hK hc i pins s σ H E I hf st hg
  subst hP hw hK
  obtain ⟨f0,f1,f2,f3,f4,f5⟩:=hf it (by simp)
  have W:=Walks.range (prog:=X.prog) (w:=X.w) (I.ok.hd hc) it lo 1 n
  refine W.item i s _ _ hg st fun v h' tk hv st' kk=>?_
  obtain ⟨t,rfl⟩:=hv
  have I1:Inv X pins σ H { s with heap:=h',toks:=tk }:=I.turned (fun b o hb e=>kk b o (by simpa using hb) e) f0 f1 f3 f4 f5
  refine ⟨_,rfl,go_of (s:={ s with heap:=h',toks:=tk }) (n:="range_iterator") st' rfl rfl (by decide) ⟨.int (lo+i),H,I1,⟨t,?_⟩,⟨rfl,rfl⟩,st',fun b hb=>(hf b hb).1⟩⟩
  rw [Int.mul_one]
 done:=by
  intro X hP hw hK hc i pins s σ H E I hf st hg
  subst hP hw hK
  obtain ⟨f0,f1,f2,f3,f4,f5⟩:=hf it (by simp)
  exact wpAny_pyNext_range_end (I.ok.hd hc) st (by have:n<=i:=hg;omega) fun h' eb=>⟨rfl,I.turned (t':=s.toks) (fun b o hb e=>eb b o hb e) f0 f1 f3 f4 f5⟩
 self:=fun _ _ _ _ _ st h=>wpAny_pyIter_rangeiter st h
end L2
namespace L2
open PySem PySem.Spec PyProof.Rows
section
variable {X:Cx}{tg:Expr}
def iList (K:PySem.W.Frag)(tl:TE):TI:=fun σ H R=>tl σ H fun x H1=>∃ a,x=.ref a/\(∃ xs,SqL K H1 a xs)/\R (Itl K a) H1
def iTup (K:PySem.W.Frag)(tl:TE):TI:=fun σ H R=>tl σ H fun x H1=>∃ a,x=.ref a/\(∃ xs,SqT K H1 a xs)/\R (Itt K a) H1
theorem pi_list {l:Expr}{tl:TE}(hl:PE X l tl):PI X tg l (iList X.K tl):=by
 intro pins s σ H R I h
 refine thn (hl pins s σ H _ I h) fun v s1 ⟨x,H1,I1,r1,q1⟩=>?_
 obtain ⟨a,e,⟨xs,hq⟩,q⟩:=q1
 subst e
 cases r1
 obtain ⟨its,rv,p,hz⟩:=I1.list hq
 refine wpAny_pyIter_list p.isList ?_
 refine ⟨s1.heap.objs.size,[s1.heap.objs.size],_,_,H1,rfl,I1.kept (t':=s1.toks) fun b o e=>Heap.get?_push_of_some _ e,turn_list a _,⟨_,Heap.get?_push_size _ rfl,rfl,rfl⟩,fun b hb=>?_,q⟩
 have e:b=s1.heap.objs.size:=by simpa using hb
 subst e
 exact I1.fpOk (Nat.le_refl _) (I1.hok.fresh (Nat.le_refl _))
theorem pi_tup {l:Expr}{tl:TE}(hl:PE X l tl):PI X tg l (iTup X.K tl):=by
 intro pins s σ H R I h
 refine thn (hl pins s σ H _ I h) fun v s1 ⟨x,H1,I1,r1,q1⟩=>?_
 obtain ⟨a,e,⟨xs,hq⟩,q⟩:=q1
 subst e
 cases r1
 obtain ⟨its,rv,p,hz⟩:=I1.tuple hq
 refine wpAny_pyIter_tuple (show s1.heap.IsTuple a its.toArray from p) ?_
 refine ⟨s1.heap.objs.size,[s1.heap.objs.size],_,_,H1,rfl,I1.kept (t':=s1.toks) fun b o e=>Heap.get?_push_of_some _ e,turn_tuple a _,⟨_,Heap.get?_push_size _ rfl,rfl,rfl⟩,fun b hb=>?_,q⟩
 have e:b=s1.heap.objs.size:=by simpa using hb
 subst e
 exact I1.fpOk (Nat.le_refl _) (I1.hok.fresh (Nat.le_refl _))
theorem range_it {pins:List (Addr × Obj)}{σ:St}{H:Hp}{s:Shared}{R:It->Hp->Prop}{E:Value->Shared->Prop}{lo hi:Int}{t u v:Tok}{tk:Nat}(I:Inv X pins σ H s)(h1:-(2 ^ 62)<=lo)(h2:lo < 2 ^ 62)(h3:-(2 ^ 62)<=hi)(h4:hi < 2 ^ 62)
  (q:R (Itr lo (hi - lo).toNat) H):wpAny (model X.prog X.w) X.A (pyIter (.ref s.heap.objs.size)) (PIE X pins σ tg R) E { s with heap:=s.heap.push { cls:=.type "range",data:=.fields #[.int lo t,.int hi u,.int 1 v] },toks:=tk }:=by
 refine wpAny_pyIter_range (IsRange.new ..) (small_one h1 h2 h3 h4) ?_
 have I1:Inv X pins σ H { s with heap:=s.heap.push { cls:=.type "range",data:=.fields #[.int lo t,.int hi u,.int 1 v] },toks:=tk }:=I.kept fun b o e=>Heap.get?_push_of_some _ e
 refine ⟨(s.heap.push { cls:=.type "range",data:=.fields #[.int lo t,.int hi u,.int 1 v] }).objs.size,[(s.heap.push { cls:=.type "range",data:=.fields #[.int lo t,.int hi u,.int 1 v] }).objs.size],_,_,H,rfl,
  I1.kept (t':=tk) fun b o e=>Heap.get?_push_of_some _ e,turn_range _ lo (hi - lo).toNat,?_,fun b hb=>?_,q⟩
 ·have e1:lo+((0:Nat):Int) * 1=lo:=by simp
  have e2:(((hi - lo).toNat:Nat):Int) - ((0:Nat):Int)=Builtin.Range.rangeSize lo hi 1:=by rw [rangeSize_one];split <;> omega
  show IsRangeIter _ _ (lo+((0:Nat):Int) * 1) ((((hi - lo).toNat:Nat):Int) - ((0:Nat):Int)) 1
  rw [e1,e2]
  exact Heap.get?_push_size _ rfl
 ·have e:b=(s.heap.push { cls:=.type "range",data:=.fields #[.int lo t,.int hi u,.int 1 v] }).objs.size:=by simpa using hb
  subst e
  exact I1.fpOk (Nat.le_refl _) (I1.hok.fresh (Nat.le_refl _))
def iRng2 (ta:TA):TI:=fun σ H R=>ta σ H fun vs H1=>∃ i j:Int,vs=[.int i,.int j]/\(-(2 ^ 62)<=i/\i < 2 ^ 62/\-(2 ^ 62)<=j/\j < 2 ^ 62)/\R (Itr i (j - i).toNat) H1
theorem pi_range2 {a b:Expr}{ta:TA}{p pos:Pos}(hg:Gl X "range")(hm:X.mg "range"=none)(ha:PA X [a,b] ta)(hs:starEach [a,b] X.env=[(false,eval a X.env),(false,eval b X.env)]:=by rfl)(hs2:starEach [b] X.env=[(false,eval b X.env)]:=by rfl):
  PI X tg (.Call (.Name "range" p) [a,b] [] pos) (iRng2 ta):=by
 intro pins s σ H R I h
 refine Call_ (ld_blt I hg hm boot_range (PyProof.Rows.callWith_type1 (thn (ha pos pins s σ H _ I h) fun us s1 ⟨vs,H1,I1,r1,q1⟩=>?_) (by rw [hs,hs2]) (by rw [hs2];rfl)))
 obtain ⟨i,j,e,⟨q1,q2,q3,q4⟩,q⟩:=q1
 subst e
 cases r1 with
 | cons r rr =>
  cases rr with
  | cons r' rr =>
   cases rr
   obtain ⟨t,rfl⟩:=r
   obtain ⟨t',rfl⟩:=r'
   exact call_range_2 (range_it I1 q1 q2 q3 q4 q)
def tFor (wi:TI)(g:TG)(tb:TS):TS:=fun D σ H=>wi σ H fun J H1=>∃ W:Nat->Nat->St->Hp->Prop,(∃ m,W 0 m σ H1)/\∀ i m σ H,W i m σ H ->
 (J.stop i H/\D.nx σ H)\/(J.go i H/\∃ N:St->Hp->Prop,(∀ σ' H',N σ' H'->∃ m',m' < m/\W (i+1) m' σ' H')/\∀ x H',J.yld i H x H'->g x σ H' fun σ2 H2=>tb { D with nx:=N,ct:=N,bk:=D.nx } σ2 H2)
def pinsAt (fp:List Addr)(h:Heap):List (Addr × Obj):=fp.filterMap fun b=>(h.get? b).map fun o=>(b,o)
theorem mem_pinsAt {fp:List Addr}{h:Heap}{b:Addr}{o:Obj}(hb:b∈fp)(e:h.get? b=some o):(b,o)∈pinsAt fp h:=List.mem_filterMap.mpr ⟨b,hb,by rw [e];rfl⟩
theorem of_pinsAt {fp:List Addr}{h:Heap}{p:Addr × Obj}(hp:p∈pinsAt fp h):p.1∈fp/\h.get? p.1=some p.2:=by
 obtain ⟨b,hb,e⟩:=List.mem_filterMap.mp hp
 cases q:h.get? b with
 | none=>rw [q] at e;cases e
 | some o =>
  rw [q] at e
  have e':(b,o)=p:=Option.some.inj e
  subst e'
  exact ⟨hb,q⟩
theorem Inv.pinned {pins:List (Addr × Obj)}{σ:St}{H:Hp}{s:Shared}{fp:List Addr}(I:Inv X pins σ H s)(hf:∀ b∈fp,FpOk X pins H b)(ho:∀ b∈fp,∃ o,s.heap.get? b=some o/\∀ v,o.data≠.cell v):Inv X (pins++pinsAt fp s.heap) σ H s :=
 I.pins_of fun p hp=>(List.mem_append.mp hp).elim (fun z=>I.pin p (List.mem_append_right _ z)) fun z=>by
  obtain ⟨hb,e⟩:=of_pinsAt z
  obtain ⟨f0,f1,f2,_⟩:=hf p.1 hb
  obtain ⟨o,e',d⟩:=ho p.1 hb
  rw [e] at e';cases e'
  exact ⟨e,f0,f1,f2,d⟩
theorem Inv.unpinned {pins pl:List (Addr × Obj)}{σ:St}{H:Hp}{s:Shared}(I:Inv X (pins++pl) σ H s):Inv X pins σ H s:=I.pins_of fun p hp=>I.pin p (List.mem_append_right _ (List.mem_append_left _ hp))
theorem ps_for {iter:Expr}{body:List Stmt}{wi:TI}{g:TG}{tb:TS}{pos:Pos}(hp:PassesOwn (model X.prog X.w) X.A X.env X.xe)(hc:X.calm=true)(hi:PI X tg iter wi)(hg:PG X tg g)(hb:PSs X body tb)
  (hs:∀ x,foldedSetIterable iter X.env x=pure x:=by intro _;rfl):PS X (.For tg iter body [] pos) (tFor wi g tb):=by
 intro pins s σ H D I h
 refine wpAny_For (thn (hi pins s σ H _ I h) fun v s1 h1=>thn h1 fun itv s2 h2=>?_) hs
 obtain ⟨it,fp,tn,J,H2,e,I2,T,st2,f2,W,⟨m0,w0⟩,turn⟩:=h2
 subst e
 have stat:∀ {H':Hp},(∀ b∈fp,H' b=none)->∀ b∈fp,FpOk X pins H' b:=fun hn b hb=>⟨hn b hb,(f2 b hb).2⟩
 refine codeAny_forLoop_any (fun n s'=>∃ i σ' H',Inv X pins σ' H' s'/\tn i s'.heap/\(∀ b∈fp,H' b=none)/\W i n σ' H') ?_ m0 ⟨0,σ,H2,I2,st2,fun b hb=>(f2 b hb).1,w0⟩
 rintro n s3 ⟨i,σ3,H3,I3,st3,fr3,w3⟩
 rcases turn i n σ3 H3 w3 with ⟨stop,qn⟩ | ⟨go,N,hN,step⟩
 ·refine wpAny_passesOwn hp (thn (T.done X rfl rfl rfl hc i pins s3 σ3 H3 X.xe I3 (stat fr3) st3 stop) fun r s4 ⟨hr,I4⟩=>?_)
  subst hr
  exact wpAny_execs_nil ⟨σ3,H3,I4,qn⟩
 ·refine wpAny_passesOwn hp (thn (T.item X rfl rfl rfl hc i pins s3 σ3 H3 X.xe I3 (stat fr3) st3 go) fun r s4 ⟨u,hr,h4⟩=>?_)
  subst hr
  refine wpAny_passesOwn hp (thn h4 fun _ s5 ⟨x,H5,I5,r5,y5,st5,fr5⟩=>?_)
  have I5':=I5.pinned (stat fr5) (T.obj _ _ st5)
  refine wpAny_passesOwn hp (thn (hg _ s5 σ3 H5 x u _ I5' r5 (step x H5 y5)) fun _ s6 ⟨σ6,H6,I6,q6⟩=>?_)
  refine wpAny_passesOwn hp (thn (hb _ s6 σ6 H6 _ I6 q6) fun f s7 q7=>?_)
  have again:∀ {σ7:St} {H7:Hp},Inv X (pins++pinsAt fp s5.heap) σ7 H7 s7->N σ7 H7->∃ m,m < n/\∃ i σ' H',Inv X pins σ' H' s7/\tn i s7.heap/\(∀ b∈fp,H' b=none)/\W i m σ' H':=fun {σ7 H7} I7 n7=>by
   obtain ⟨m',hm,w7⟩:=hN σ7 H7 n7
   refine ⟨m',hm,i+1,σ7,H7,I7.unpinned,T.keep _ _ _ st5 fun b hb o e=>(I7.pin (b,o) (List.mem_append_right _ (List.mem_append_right _ (mem_pinsAt hb e)))).1,fun b hb=>?_,w7⟩
   obtain ⟨o,e,d⟩:=T.obj _ _ st5 b hb
   exact (I7.pin (b,o) (List.mem_append_right _ (List.mem_append_right _ (mem_pinsAt hb e)))).2.1
  cases f with
  | next=>obtain ⟨σ7,H7,I7,n7⟩:=q7;exact again I7 n7
  | cont=>obtain ⟨σ7,H7,I7,n7⟩:=q7;exact again I7 n7
  | brk=>obtain ⟨σ7,H7,I7,q7⟩:=q7;exact ⟨σ7,H7,I7.unpinned,q7⟩
  | ret v=>obtain ⟨x7,σ7,H7,I7,r7,q7⟩:=q7;exact ⟨x7,σ7,H7,I7.unpinned,r7,q7⟩
end
theorem for_list {K:PySem.W.Frag}{a:Addr}{xs:List V}{g:TG}{tb:TS}{D:Ends}{σ:St}{H:Hp}(Pv:Nat->St->Hp->Prop)(h0:Pv 0 σ H)(hl:∀ i σ H,i<=xs.length->Pv i σ H->SqL K H a xs)
  (hs:∀ i x σ H,xs[i]?=some x->Pv i σ H->g x σ H fun σ2 H2=>tb { D with nx:=Pv (i+1),ct:=Pv (i+1),bk:=D.nx } σ2 H2) (hd:∀ σ H,Pv xs.length σ H->D.nx σ H) :
  ∃ W:Nat->Nat->St->Hp->Prop,(∃ m,W 0 m σ H)/\∀ i m σ H,W i m σ H ->
   ((Itl K a).stop i H/\D.nx σ H)\/((Itl K a).go i H/\∃ N:St->Hp->Prop,(∀ σ' H',N σ' H'->∃ m',m' < m/\W (i+1) m' σ' H')/\∀ x H',(Itl K a).yld i H x H'->g x σ H' fun σ2 H2=>tb { D with nx:=N,ct:=N,bk:=D.nx } σ2 H2):=by
 refine ⟨fun i m σ H=>m=xs.length - i/\i<=xs.length/\Pv i σ H,⟨xs.length,by simp,Nat.zero_le _,h0⟩,?_⟩
 rintro i m σ H ⟨rfl,hi,p⟩
 have q:=hl i σ H hi p
 by_cases hlt:i < xs.length
 ·refine .inr ⟨⟨xs,xs[i],q,by simp [hlt]⟩,Pv (i+1),fun σ' H' p'=>⟨xs.length - (i+1),by omega,rfl,hlt,p'⟩,fun x H' y=>?_⟩
  obtain ⟨e,y⟩:=y
  subst e
  exact hs i x σ _ (y xs q) p
 ·have e:i=xs.length:=by omega
  subst e
  exact .inl ⟨⟨xs,q,Nat.le_refl _⟩,hd σ H p⟩
theorem for_tup {K:PySem.W.Frag}{a:Addr}{xs:List V}{g:TG}{tb:TS}{D:Ends}{σ:St}{H:Hp}(Pv:Nat->St->Hp->Prop)(h0:Pv 0 σ H)(hl:∀ i σ H,i<=xs.length->Pv i σ H->SqT K H a xs)
  (hs:∀ i x σ H,xs[i]?=some x->Pv i σ H->g x σ H fun σ2 H2=>tb { D with nx:=Pv (i+1),ct:=Pv (i+1),bk:=D.nx } σ2 H2) (hd:∀ σ H,Pv xs.length σ H->D.nx σ H) :
  ∃ W:Nat->Nat->St->Hp->Prop,(∃ m,W 0 m σ H)/\∀ i m σ H,W i m σ H ->
   ((Itt K a).stop i H/\D.nx σ H)\/((Itt K a).go i H/\∃ N:St->Hp->Prop,(∀ σ' H',N σ' H'->∃ m',m' < m/\W (i+1) m' σ' H')/\∀ x H',(Itt K a).yld i H x H'->g x σ H' fun σ2 H2=>tb { D with nx:=N,ct:=N,bk:=D.nx } σ2 H2):=by
 refine ⟨fun i m σ H=>m=xs.length - i/\i<=xs.length/\Pv i σ H,⟨xs.length,by simp,Nat.zero_le _,h0⟩,?_⟩
 rintro i m σ H ⟨rfl,hi,p⟩
 have q:=hl i σ H hi p
 by_cases hlt:i < xs.length
 ·refine .inr ⟨⟨xs,xs[i],q,by simp [hlt]⟩,Pv (i+1),fun σ' H' p'=>⟨xs.length - (i+1),by omega,rfl,hlt,p'⟩,fun x H' y=>?_⟩
  obtain ⟨e,y⟩:=y
  subst e
  exact hs i x σ _ (y xs q) p
 ·have e:i=xs.length:=by omega
  subst e
  exact .inl ⟨⟨xs,q,Nat.le_refl _⟩,hd σ H p⟩
theorem for_range {lo:Int}{n:Nat}{g:TG}{tb:TS}{D:Ends}{σ:St}{H:Hp}(Pv:Nat->St->Hp->Prop)(h0:Pv 0 σ H)
  (hs:∀ i σ H,i < n->Pv i σ H->g (.int (lo+i)) σ H fun σ2 H2=>tb { D with nx:=Pv (i+1),ct:=Pv (i+1),bk:=D.nx } σ2 H2) (hd:∀ σ H,Pv n σ H->D.nx σ H) :
  ∃ W:Nat->Nat->St->Hp->Prop,(∃ m,W 0 m σ H)/\∀ i m σ H,W i m σ H ->
   ((Itr lo n).stop i H/\D.nx σ H)\/((Itr lo n).go i H/\∃ N:St->Hp->Prop,(∀ σ' H',N σ' H'->∃ m',m' < m/\W (i+1) m' σ' H')/\∀ x H',(Itr lo n).yld i H x H'->g x σ H' fun σ2 H2=>tb { D with nx:=N,ct:=N,bk:=D.nx } σ2 H2):=by
 refine ⟨fun i m σ H=>m=n - i/\i<=n/\Pv i σ H,⟨n,by simp,Nat.zero_le _,h0⟩,?_⟩
 rintro i m σ H ⟨rfl,hi,p⟩
 by_cases hlt:i < n
 ·refine .inr ⟨hlt,Pv (i+1),fun σ' H' p'=>⟨n - (i+1),by omega,rfl,hlt,p'⟩,fun x H' y=>?_⟩
  obtain ⟨e,y⟩:=y
  subst e y
  exact hs i σ _ hlt p
 ·have e:i=n:=by omega
  subst e
  exact .inl ⟨Nat.le_refl _,hd σ H p⟩
end L2
namespace L2
open PySem PySem.Spec PyProof.Rows
abbrev R2:=V->V->Hp->VK->Prop
def OpR (X:Cx)(f:Value->Value->Sem Value)(r:R2):Prop :=
 ∀ (pins:List (Addr × Obj)) (s:Shared) (σ:St) (H:Hp) (x y:V) (v u:Value) (Q:VK),Inv X pins σ H s->RelV x v->RelV y u->r x y H Q ->
  wpAny (model X.prog X.w) X.A (f v u) (EP X pins σ Q) X.xe s
def UnR (X:Cx)(f:Value->Sem Value)(r:V->Hp->VK->Prop):Prop :=
 ∀ (pins:List (Addr × Obj)) (s:Shared) (σ:St) (H:Hp) (x:V) (v:Value) (Q:VK),Inv X pins σ H s->RelV x v->r x H Q ->
  wpAny (model X.prog X.w) X.A (f v) (EP X pins σ Q) X.xe s
def CallR (X:Cx)(f:Value)(r:List V->Hp->VK->Prop):Prop :=
 ∀ (pins:List (Addr × Obj)) (s:Shared) (σ:St) (H:Hp) (xs:List V) (us:List Value) (Q:VK),Inv X pins σ H s->Vals xs us->r xs H Q ->
  wpAny (model X.prog X.w) X.A (call f us) (EP X pins σ Q) X.xe s
def TruR (X:Cx)(r:V->Hp->(Bool->Hp->Prop)->Prop):Prop :=
 ∀ (pins:List (Addr × Obj)) (s:Shared) (σ:St) (H:Hp) (x:V) (v:Value) (Q:Bool->Hp->Prop),Inv X pins σ H s->RelV x v->r x H Q ->
  wpAny (model X.prog X.w) X.A (truthy v) (TP X pins σ Q) X.xe s
def tOp (r:R2)(ta tb:TE):TE:=fun σ H Q=>ta σ H fun x H1=>tb σ H1 fun y H2=>r x y H2 Q
def tUn (r:V->Hp->VK->Prop)(ta:TE):TE:=fun σ H Q=>ta σ H fun x H1=>r x H1 Q
def rI (C:Int->Int->Prop)(g:Int->Int->V):R2:=fun x y H Q=>∃ i j,x=.int i/\y=.int j/\C i j/\Q (g i j) H
def rI0 (g:Int->Int->V):R2:=fun x y H Q=>∃ i j,x=.int i/\y=.int j/\Q (g i j) H
def rU (g:Int->V):V->Hp->VK->Prop:=fun x H Q=>∃ i,x=.int i/\Q (g i) H
section
variable {X:Cx}{a b c:Expr}{ta tb tc:TE}{pos:Pos}
theorem binT (ha:PE X a ta)(hb:PE X b tb){pins:List (Addr × Obj)}{s:Shared}{σ:St}{H:Hp}{R:V->V->Hp->Prop}(I:Inv X pins σ H s)
  (h:ta σ H fun x H1=>tb σ H1 fun y H2=>R x y H2) {Q:Value->Shared->Prop} {f:Value->Value->Sem Value}
  (hf:∀ v u s2 x y H2,Inv X pins σ H2 s2->RelV x v->RelV y u->R x y H2->wpAny (model X.prog X.w) X.A (f v u) Q X.xe s2) :
  wpAny (model X.prog X.w) X.A (eval a X.env) (fun v s₁=>wpAny (model X.prog X.w) X.A (eval b X.env) (fun u s₂=>wpAny (model X.prog X.w) X.A (f v u) Q X.xe s₂) X.xe s₁) X.xe s:=by
 refine thn (ha pins s σ H _ I h) fun v s1 ⟨x,H1,I1,r1,q1⟩=>?_
 refine thn (hb pins s1 σ H1 _ I1 q1) fun u s2 ⟨y,H2,I2,r2,q2⟩=>?_
 exact hf v u s2 x y H2 I2 r1 r2 q2
theorem pe_op {op:Operator}{r:R2}(ho:OpR X (binaryOp op) r)(ha:PE X a ta)(hb:PE X b tb):PE X (.BinOp a op b pos) (tOp r ta tb):=by
 intro pins s σ H Q I h
 exact wpAny_BinOp (binT ha hb I h fun v u s2 x y H2 I2 rx ry q=>ho pins s2 σ H2 x y v u Q I2 rx ry q)
theorem pe_un {op:UnaryOp}{r:V->Hp->VK->Prop}(ho:UnR X (unaryOp op) r)(ha:PE X a ta):PE X (.UnaryOp op a pos) (tUn r ta):=by
 intro pins s σ H Q I h
 exact UnaryOp_ (thn (ha pins s σ H _ I h) fun v s1 ⟨x,H1,I1,r1,q1⟩=>ho pins s1 σ H1 x v Q I1 r1 q1)
theorem opI {f:Value->Value->Sem Value}{C:Int->Int->Prop}{g:Int->Int->Int}
  (rule:∀ (i j:Int) (t u:Tok) (s:Shared) (Q:Value->Shared->Prop) (E:Value->Shared->Prop),C i j->Q (.int (g i j) s.toks) { s with toks:=s.toks+1 }->wpAny (model X.prog X.w) X.A (f (.int i t) (.int j u)) Q E s) :
  OpR X f (rI C fun i j=>.int (g i j)):=by
 intro pins s σ H x y v u Q I rx ry h
 obtain ⟨i,j,rfl,rfl,hc,q⟩:=h
 obtain ⟨t,rfl⟩:=rx
 obtain ⟨t',rfl⟩:=ry
 exact rule i j t t' s _ _ hc ⟨.int (g i j),H,I.tok _,⟨_,rfl⟩,q⟩
theorem opI0 {f:Value->Value->Sem Value}{g:Int->Int->Int}
  (rule:∀ (i j:Int) (t u:Tok) (s:Shared) (Q:Value->Shared->Prop) (E:Value->Shared->Prop),Q (.int (g i j) s.toks) { s with toks:=s.toks+1 }->wpAny (model X.prog X.w) X.A (f (.int i t) (.int j u)) Q E s) :
  OpR X f (rI0 fun i j=>.int (g i j)):=by
 intro pins s σ H x y v u Q I rx ry h
 obtain ⟨i,j,rfl,rfl,q⟩:=h
 obtain ⟨t,rfl⟩:=rx
 obtain ⟨t',rfl⟩:=ry
 exact rule i j t t' s _ _ ⟨.int (g i j),H,I.tok _,⟨_,rfl⟩,q⟩
theorem opB0 {f:Value->Value->Sem Value}{g:Int->Int->Bool}
  (rule:∀ (i j:Int) (t u:Tok) (s:Shared) (Q:Value->Shared->Prop) (E:Value->Shared->Prop),Q (.bool (g i j)) s->wpAny (model X.prog X.w) X.A (f (.int i t) (.int j u)) Q E s) :
  OpR X f (rI0 fun i j=>.bl (g i j)):=by
 intro pins s σ H x y v u Q I rx ry h
 obtain ⟨i,j,rfl,rfl,q⟩:=h
 obtain ⟨t,rfl⟩:=rx
 obtain ⟨t',rfl⟩:=ry
 exact rule i j t t' s _ _ ⟨.bl (g i j),H,I,rfl,q⟩
def CDiv (i j:Int):Prop:=0 < j/\j < 1073741824
def CPow (i j:Int):Prop:=0<=j/\j<=1000000/\i.natAbs < 2 ^ 64
def CMul (i j:Int):Prop:=(-(2 ^ 64) < i/\i < 2 ^ 64)\/(-(2 ^ 64) < j/\j < 2 ^ 64)
theorem CMul.ok {i j:Int}(h:CMul i j):IntMulOk i j:=by
 rcases h with ⟨h1,h2⟩ | ⟨h1,h2⟩
 ·exact .of_left (intBits_le_64 h1 h2)
 ·exact .of_right (intBits_le_64 h1 h2)
theorem op_add:OpR X (binaryOp .Add) (rI0 fun i j=>.int (i+j)):=opI0 fun _ _ _ _ _ _ _ q=>add_int q
theorem op_sub:OpR X (binaryOp .Sub) (rI0 fun i j=>.int (i - j)):=opI0 fun _ _ _ _ _ _ _ q=>sub_int q
theorem op_mul:OpR X (binaryOp .Mult) (rI CMul fun i j=>.int (i * j)):=opI fun _ _ _ _ _ _ _ hc q=>mul_int q hc.ok
theorem op_fdiv:OpR X (binaryOp .FloorDiv) (rI CDiv fun i j=>.int (i / j)):=opI fun i j _ _ _ _ _ hc q=>by
 have h1:(0:Int) < j:=hc.1
 have h2:j < 1073741824:=hc.2
 exact floordiv_int (by omega) (by rw [Int.fdiv_eq_ediv_of_nonneg i (by omega)];exact q) (.inl (PyProof.noPylong_small (by omega)))
theorem op_mod:OpR X (binaryOp .Mod) (rI (fun _ j=>0 < j) fun i j=>.int (i % j)):=opI fun i j _ _ _ _ _ hc q=>by
 have h1:(0:Int) < j:=hc
 exact mod_int' (by omega) (by rw [Int.fmod_eq_emod_of_nonneg i (by omega)];exact q)
theorem op_pow:OpR X (binaryOp .Pow) (rI CPow fun i j=>.int (i ^ j.toNat)):=opI fun _ _ _ _ _ _ _ hc q=>pow_int_small hc.1 hc.2.1 hc.2.2 q
theorem unI {f:Value->Sem Value}{g:Int->Int}
  (rule:∀ (i:Int) (t:Tok) (s:Shared) (Q:Value->Shared->Prop) (E:Value->Shared->Prop),Q (.int (g i) s.toks) { s with toks:=s.toks+1 }->wpAny (model X.prog X.w) X.A (f (.int i t)) Q E s) :
  UnR X f (rU fun i=>.int (g i)):=by
 intro pins s σ H x v Q I rx h
 obtain ⟨i,rfl,q⟩:=h
 obtain ⟨t,rfl⟩:=rx
 exact rule i t s _ _ ⟨.int (g i),H,I.tok _,⟨_,rfl⟩,q⟩
theorem un_neg:UnR X (unaryOp .USub) (rU fun i=>.int (-i)):=unI fun _ _ _ _ _ q=>neg_int q
end
def scal:V->V->Bool
 | .non,.non=>true | .non,.int _=>true | .int _,.non=>true | .non,.bl _=>true | .bl _,.non=>true | .non,.str _=>true | .str _,.non=>true
 | .int _,.int _=>true | .bl _,.bl _=>true | .str _,.str _=>true | .byt _,.byt _=>true
 | .int _,.str _=>true | .str _,.int _=>true | .bl _,.str _=>true | .str _,.bl _=>true
 | _,_=>false
def rEq:R2:=fun x y H Q=>scal x y=true/\Q (.bl (decide (x=y))) H
def rNe:R2:=fun x y H Q=>scal x y=true/\Q (.bl (!decide (x=y))) H
theorem dec_int {i j:Int}:decide (V.int i=V.int j)=(i==j):=by
 rw [Bool.eq_iff_iff]
 simp
theorem dec_bl {i j:Bool}:decide (V.bl i=V.bl j)=(i==j):=by
 rw [Bool.eq_iff_iff]
 simp
theorem dec_str {i j:Str}:decide (V.str i=V.str j)=(i==j):=by
 rw [Bool.eq_iff_iff]
 simp
theorem dec_byt {i j:Array UInt8}:decide (V.byt i=V.byt j)=(i.toList==j.toList):=by
 rw [Bool.eq_iff_iff]
 cases i
 cases j
 simp
section
variable {X:Cx}{a b c:Expr}{ta tb tc:TE}{pos:Pos}
theorem fin_bl {pins:List (Addr × Obj)}{σ:St}{H:Hp}{s:Shared}{Q:VK}{k k':Bool}(I:Inv X pins σ H s)(q:Q (.bl k) H)(e:k=k'):EP X pins σ Q (.bool k') s:=by
 subst e
 exact ⟨.bl k,H,I,rfl,q⟩
theorem op_eq:OpR X (compareOp .Eq) rEq:=by
 intro pins s σ H x y v u Q I rx ry h
 obtain ⟨hs,q⟩:=h
 cases x with
 | non =>
  cases rx
  cases y with
  | non=>cases ry;exact PySem.EqNone.eq_none_none (fin_bl I q (by simp))
  | bl j=>cases ry;exact PySem.EqNone.eq_none_bool (fin_bl I q (by simp))
  | int j=>obtain ⟨t',rfl⟩:=ry;exact PySem.EqNone.eq_none_int (fin_bl I q (by simp))
  | str j=>obtain ⟨t',rfl⟩:=ry;exact PySem.EqNone.eq_none_str (fin_bl I q (by simp))
  | _=>exact absurd (show false=true from hs) Bool.false_ne_true
 | bl i =>
  cases rx
  cases y with
  | non=>cases ry;exact PySem.EqNone.eq_bool_none (fin_bl I q (by simp))
  | bl j=>cases ry;exact eq_bool (fin_bl I q dec_bl)
  | str j=>obtain ⟨t',rfl⟩:=ry;exact PySem.EqMixed.eq_bool_str (fin_bl I q (by simp))
  | _=>exact absurd (show false=true from hs) Bool.false_ne_true
 | int i =>
  obtain ⟨t,rfl⟩:=rx
  cases y with
  | non=>cases ry;exact PySem.EqNone.eq_int_none (fin_bl I q (by simp))
  | int j=>obtain ⟨t',rfl⟩:=ry;exact eq_int (fin_bl I q dec_int)
  | str j=>obtain ⟨t',rfl⟩:=ry;exact PySem.EqMixed.eq_int_str (fin_bl I q (by simp))
  | _=>exact absurd (show false=true from hs) Bool.false_ne_true
 | str i =>
  obtain ⟨t,rfl⟩:=rx
  cases y with
  | non=>cases ry;exact PySem.EqNone.eq_str_none (fin_bl I q (by simp))
  | bl j=>cases ry;exact PySem.EqMixed.eq_str_bool (fin_bl I q (by simp))
  | int j=>obtain ⟨t',rfl⟩:=ry;exact PySem.EqMixed.eq_str_int (fin_bl I q (by simp))
  | str j=>obtain ⟨t',rfl⟩:=ry;exact eq_str (fin_bl I q dec_str)
  | _=>exact absurd (show false=true from hs) Bool.false_ne_true
 | byt i =>
  obtain ⟨t,rfl⟩:=rx
  cases y with
  | byt j=>obtain ⟨t',rfl⟩:=ry;exact PySem.W.eq_bytes (fin_bl I q dec_byt)
  | _=>exact absurd (show false=true from hs) Bool.false_ne_true
 | _=>cases y <;> exact absurd (show false=true from hs) Bool.false_ne_true
theorem op_ne:OpR X (compareOp .NotEq) rNe:=by
 intro pins s σ H x y v u Q I rx ry h
 obtain ⟨hs,q⟩:=h
 cases x with
 | non =>
  cases rx
  cases y with
  | non=>cases ry;exact PySem.EqNone.ne_none_none (fin_bl I q (by simp))
  | bl j=>cases ry;exact PySem.EqNone.ne_none_bool (fin_bl I q (by simp))
  | int j=>obtain ⟨t',rfl⟩:=ry;exact PySem.EqNone.ne_none_int (fin_bl I q (by simp))
  | str j=>obtain ⟨t',rfl⟩:=ry;exact PySem.EqNone.ne_none_str (fin_bl I q (by simp))
  | _=>exact absurd (show false=true from hs) Bool.false_ne_true
 | bl i =>
  cases rx
  cases y with
  | non=>cases ry;exact PySem.EqNone.ne_bool_none (fin_bl I q (by simp))
  | bl j=>cases ry;exact ne_bool (fin_bl I q (congrArg not dec_bl))
  | str j=>obtain ⟨t',rfl⟩:=ry;exact PySem.EqMixed.ne_bool_str (fin_bl I q (by simp))
  | _=>exact absurd (show false=true from hs) Bool.false_ne_true
 | int i =>
  obtain ⟨t,rfl⟩:=rx
  cases y with
  | non=>cases ry;exact PySem.EqNone.ne_int_none (fin_bl I q (by simp))
  | int j=>obtain ⟨t',rfl⟩:=ry;exact ne_int (fin_bl I q (congrArg not dec_int))
  | str j=>obtain ⟨t',rfl⟩:=ry;exact PySem.EqMixed.ne_int_str (fin_bl I q (by simp))
  | _=>exact absurd (show false=true from hs) Bool.false_ne_true
 | str i =>
  obtain ⟨t,rfl⟩:=rx
  cases y with
  | non=>cases ry;exact PySem.EqNone.ne_str_none (fin_bl I q (by simp))
  | bl j=>cases ry;exact PySem.EqMixed.ne_str_bool (fin_bl I q (by simp))
  | int j=>obtain ⟨t',rfl⟩:=ry;exact PySem.EqMixed.ne_str_int (fin_bl I q (by simp))
  | str j=>obtain ⟨t',rfl⟩:=ry;exact ne_str (fin_bl I q (congrArg not dec_str))
  | _=>exact absurd (show false=true from hs) Bool.false_ne_true
 | byt i =>
  obtain ⟨t,rfl⟩:=rx
  cases y with
  | byt j=>obtain ⟨t',rfl⟩:=ry;exact PySem.W.ne_bytes (fin_bl I q (congrArg not dec_byt))
  | _=>exact absurd (show false=true from hs) Bool.false_ne_true
 | _=>cases y <;> exact absurd (show false=true from hs) Bool.false_ne_true
theorem op_lt:OpR X (compareOp .Lt) (rI0 fun i j=>.bl (decide (i < j))):=opB0 fun _ _ _ _ _ _ _ q=>lt_int q
theorem op_gt:OpR X (compareOp .Gt) (rI0 fun i j=>.bl (decide (j < i))):=opB0 fun _ _ _ _ _ _ _ q=>gt_int q
theorem op_ge:OpR X (compareOp .GtE) (rI0 fun i j=>.bl (decide (j<=i))):=opB0 fun _ _ _ _ _ _ _ q=>ge_int q
theorem op_isN:OpR X (compareOp .Is) (fun x y H Q=>y=.non/\Q (.bl (decide (x=.non))) H):=by
 intro pins s σ H x y v u Q I rx ry h
 obtain ⟨rfl,q⟩:=h
 cases ry
 refine is_none_gen (fin_bl I q ?_)
 cases x <;> first
  | (cases rx;rfl)
  | (obtain ⟨t,rfl⟩:=rx;rfl)
theorem op_notN:OpR X (compareOp .IsNot) (fun x y H Q=>y=.non/\Q (.bl (!decide (x=.non))) H):=by
 intro pins s σ H x y v u Q I rx ry h
 obtain ⟨rfl,q⟩:=h
 cases ry
 refine isnot_none_gen (fin_bl I q ?_)
 cases x <;> first
  | (cases rx;rfl)
  | (obtain ⟨t,rfl⟩:=rx;rfl)
theorem nomark (b:Expr){op:CmpOp}(h:op≠.In:=by decide)(h2:op≠.NotIn:=by decide):behindInMarks op b=false:=by
 have e1:(op==CmpOp.In)=false:=by cases op <;> first | rfl | exact absurd rfl h
 have e2:(op==CmpOp.NotIn)=false:=by cases op <;> first | rfl | exact absurd rfl h2
 cases b <;> simp [behindInMarks,e1,e2]
theorem pe_cmpR {op:CmpOp}{r:R2}(ho:OpR X (compareOp op) r)(ha:PE X a ta)(hb:PE X b tb)(hm:behindInMarks op b=false):PE X (.Compare a [op] [b] pos) (tOp r ta tb):=by
 intro pins s σ H Q I h
 exact wpAny_Compare1 (binT ha hb I h fun v u s2 x y H2 I2 rx ry q=>ho pins s2 σ H2 x y v u Q I2 rx ry q) hm
def tTest (t:TE):TT:=fun σ H Q=>t σ H fun x H'=>∃ k,x=.bl k/\Q k H'
theorem pt_cmpR {op:CmpOp}{r:R2}(ho:OpR X (compareOp op) r)(ha:PE X a ta)(hb:PE X b tb)(hm:behindInMarks op b=false):PT X (.Compare a [op] [b] pos) (tTest (tOp r ta tb)):=by
 intro pins s σ H Q I h
 refine wpAny_isTrue_Compare1 (thn (ha pins s σ H _ I h) fun v s1 ⟨x,H1,I1,r1,q1⟩=>thn (hb pins s1 σ H1 _ I1 q1) fun u s2 ⟨y,H2,I2,r2,q2⟩ =>
  thn (ho pins s2 σ H2 x y v u _ I2 r1 r2 q2) fun c s3 ⟨z,H3,I3,r3,k,e,q3⟩=>?_) hm
 subst e
 cases r3
 exact wpAny_truthy_bool ⟨H3,I3,q3⟩
def TruV (K:PySem.W.Frag)(x:V)(H:Hp)(k:Bool):Prop :=
 match x with
 | .non=>k=false
 | .bl b=>k=b
 | .int i=>k=(i != 0)
 | .str y=>y.length<=sizeLine/\k=((y.length:Int) != 0)
 | .byt y=>y.size<=sizeLine/\k=((y.size:Int) != 0)
 | .ref p=>(∃ xs,SqL K H p xs/\k=!xs.isEmpty)\/(∃ xs,SqT K H p xs/\k=!xs.isEmpty)\/∃ kvs,H p=some (.dK kvs)/\k=!kvs.isEmpty
 | _=>False
theorem isEmpty_kv {κ:Type}{kvs:List (κ × V)}{vs:List (κ × Value)}(r:KV kvs vs):(!vs.isEmpty)=!kvs.isEmpty:=by
 cases r <;> rfl
theorem isEmpty_of {xs:List V}{its:List Value}(r:Vals xs its):(!its.toArray.isEmpty)=!xs.isEmpty:=by
 cases r <;> simp
theorem line63:(sizeLine:Nat) < 2 ^ 63:=by rw [sizeLine_eq];decide
theorem tru_ok:TruR X (fun x H Q=>∃ k,TruV X.K x H k/\Q k H):=by
 intro pins s σ H x v Q I rx h
 obtain ⟨k,e,q⟩:=h
 have hl:=line63
 have hs:sizeLine=16777216:=sizeLine_eq
 cases x with
 | non =>
  cases rx
  have e':k=false:=e
  subst e'
  exact truthy_none ⟨H,I,q⟩
 | bl b =>
  cases rx
  have e':k=b:=e
  subst e'
  exact wpAny_truthy_bool ⟨H,I,q⟩
 | int i =>
  obtain ⟨t,rfl⟩:=rx
  have e':k=(i != 0):=e
  subst e'
  exact PySem.P.truthy_int ⟨H,I,q⟩
 | str y =>
  obtain ⟨t,rfl⟩:=rx
  obtain ⟨hy,e'⟩:y.length<=sizeLine/\k=((y.length:Int) != 0):=e
  subst e'
  exact PySem.P.truthy_str (by omega) ⟨H,I.tok _,q⟩
 | byt y =>
  obtain ⟨t,rfl⟩:=rx
  obtain ⟨hy,e'⟩:y.size<=sizeLine/\k=((y.size:Int) != 0):=e
  subst e'
  exact PySem.W.truthy_bytes (by omega) ⟨H,I.tok _,q⟩
 | ref p =>
  cases rx
  have e':(∃ xs,SqL X.K H p xs/\k=!xs.isEmpty)\/(∃ xs,SqT X.K H p xs/\k=!xs.isEmpty)\/∃ kvs,H p=some (.dK kvs)/\k=!kvs.isEmpty:=e
  rcases e' with ⟨xs,hx,e'⟩ | ⟨xs,hx,e'⟩ | ⟨kvs,hx,e'⟩
  ·subst e'
   obtain ⟨its,r,pl,hz⟩:=I.list hx
   have hlen:=r.length
   exact wpAny_truthy_list pl.isList (by simp only [List.size_toArray];omega) ⟨H,I.tok _,by rw [isEmpty_of r];exact q⟩
  ·subst e'
   obtain ⟨its,r,pl,hz⟩:=I.tuple hx
   have hlen:=r.length
   exact truthy_tuple pl (by simp only [List.size_toArray];omega) ⟨H,I.tok _,by rw [isEmpty_of r];exact q⟩
  ·subst e'
   obtain ⟨hz,hS,vs,r,m⟩:kvs.length<=sizeLine/\(p==sysModules)=false/\∃ vs,KV kvs vs/\s.heap.DictOf (mixKind X.prog X.w) p vs:=I.hok p _ hx
   have hlen:kvs.length=vs.length:=Paired.length r
   exact wpAny_truthy_dict hS m (by omega) ⟨H,I.tok _,by rw [isEmpty_kv r];exact q⟩
 | _=>exact (show False from e).elim
theorem pt_truth (ha:PE X a ta)(he:∀ whole,isTrue a X.env whole=(do let v <- whole;standAt a.pos;holding [v] (truthy v))):
  PT X a (fun σ H Q=>ta σ H fun x H'=>∃ k,TruV X.K x H' k/\Q k H'):=by
 intro pins s σ H Q I h
 exact isTrue_plain (thn (ha pins s σ H _ I h) fun v s1 ⟨x,H1,I1,r1,q1⟩=>tru_ok pins s1 σ H1 x v Q I1 r1 q1) (he _)
theorem vals1 {x:V}{us:List Value}(r:Vals [x] us):∃ u,us=[u]/\RelV x u:=by
 cases r with
 | cons r1 r2=>cases r2;exact ⟨_,rfl,r1⟩
theorem vals2 {x y:V}{us:List Value}(r:Vals [x,y] us):∃ u w',us=[u,w']/\RelV x u/\RelV y w':=by
 cases r with
 | cons r1 r2 =>
  cases r2 with
  | cons r3 r4=>cases r4;exact ⟨_,_,rfl,r1,r3⟩
end
end L2
namespace L2
open PySem PySem.Spec PyProof.Rows
structure ObjM (h:Heap)(x dx C:Addr)(mA:Str->Option Value):Prop where
 obj:h.get? x=some (PySem.W.instObj C dx)
 ns:h.Ns1 dx mA
 ne:dx≠x
theorem lookIn_ns {h:Heap}{dx:Addr}{mA:Str->Option Value}(n:h.Ns1 dx mA):∃ od,h.get? dx=some od/\∀ name,PySem.W.lookIn name od=some (mA name):=by
 obtain ⟨o,es,ep,ho,hd,hk,_,hm⟩:=n
 refine ⟨o,ho,fun name=>?_⟩
 have e:=hm name
 unfold nsFind findBy at e
 rw [<- Array.find?_toList] at e
 unfold PySem.W.lookIn
 rw [hd]
 dsimp only
 split
 ·rename_i y q
  rw [q] at e
  exact congrArg some e
 ·rename_i q
  rw [q] at e
  have a:es.toList.any (·.refKey)=false:=by
   rw [List.any_eq_false]
   intro y hy
   obtain ⟨z,t,hkey⟩:=hk y (Array.mem_toList_iff.mp hy)
   simp [DictEntry.refKey,hkey]
  have a':¬ es.toList.any (·.refKey)=true:=by rw [a];exact Bool.false_ne_true
  rw [if_neg a']
  exact congrArg some e
theorem ObjM.look {h:Heap}{x dx C:Addr}{mA:Str->Option Value}(I:ObjM h x dx C mA):∃ od,PySem.W.InstAt h x (PySem.W.instObj C dx) C (some od)/\∀ name,PySem.W.lookIn name od=some (mA name) :=
 let ⟨od,ho,hl⟩:=lookIn_ns I.ns
 ⟨od,⟨I.obj,rfl,rfl,ho⟩,hl⟩
section
variable {prog:Program}{w:World}{A:Around}{E:Value->Shared->Prop}{s:Shared}{K:PySem.W.Frag}{x dx C f:Addr}{mA:Str->Option Value}{name:Str}{v:Value}
theorem get_map {expr:Bool}{Q:Value->Shared->Prop}(X:K.In s.heap)(I:ObjM s.heap x dx C mA)(hg:PySem.W.plainGet K C name=true)(hh:PySem.W.hasDictIn K C=true)
  (ha:PySem.W.findIn K (.ref C) name=some none) (hv:mA name=some v) (hv':PySem.W.handedIn v=true) (h:Q v { s with toks:=s.toks+1 }) :
  wpAny (model prog w) A (getAttr (.ref x) name expr) Q E s:=by
 obtain ⟨od,J,hl⟩:=I.look
 exact PySem.W.get_value X J (PySem.W.plainGet_of hg).1 (PySem.W.findObj_own hh ha rfl (by rw [hl,hv])) hv' h
theorem get_meth {pl:Sem Bool}{Q:Value × List Value->Shared->Prop}(X:K.In s.heap)(I:ObjM s.heap x dx C mA)(hg:PySem.W.plainGet K C name=true)
  (hf:PySem.W.findIn K (.ref C) name=some (some (.ref f))) (ht:PySem.W.isFn K (.ref f)=true) (hv:mA name=none) (h:Q (.ref f,[.ref x]) s) :
  wpAny (model prog w) A (getMethod (.ref x) name pl) Q E s:=by
 obtain ⟨od,J,hl⟩:=I.look
 exact PySem.W.method_fn X J (PySem.W.plainGet_of hg).1 (PySem.W.plainGet_of hg).2 hf (beq_iff_eq.mp ht) (by show (PySem.W.lookIn name od).map (·.isSome)=some false;rw [hl,hv];rfl) h
theorem set_map {ns:List Str}{Q:Unit->Shared->Prop}(X:K.In s.heap)(I:ObjM s.heap x dx C mA)
  (hs:PySem.W.findIn K (.ref C) "__setattr__"=some (some (.builtin "object.__setattr__"))) (hp:PySem.W.plainOver K C=true) (ht:PySem.W.takerIn K C name=some none) (hh:PySem.W.hasDictIn K C=true)
  (hw:PySem.Within mA ns) (hsz:ns.length<=sizeLine)
  (h:∀ h',ObjM h' x dx C (fun y=>if y=name then some v else mA y)->Heap.SameBut dx s.heap h'->Q () { s with heap:=h',toks:=s.toks+2 }) :
  wpAny (model prog w) A (setAttr (.ref x) name v) Q E s:=by
 obtain ⟨od,J,hl⟩:=I.look
 refine PySem.W.set_plain X J hs (PySem.W.osa_open (s:={ s with toks:=s.toks+1 }) (r:=none) X J hp ht fun b=>?_)
 obtain ⟨cd,hc,hd'⟩:=PySem.W.any_some hh
 have hx:s.heap.get? x=some ⟨.ref C,some dx,.plain,#[]⟩:=I.obj
 refine wpAny_bind (wpAny_pure (wpAny_bind (wpAny_bind (wpAny_loadPart hx (wpAny_bind (PySem.W.Looks.here (s:={ s with toks:=s.toks+1 }) (PySem.W.looks_clsIn X hc) ?_))))))
 rw [hd']
 refine wpAny_pure (a:=some dx) (wpAny_bind (wpAny_pure (wpAny_bind ?_)))
 refine wpAny_nsSet1 (s:={ s with toks:=s.toks+1 }) I.ns fun h' hn2 hs2=>?_
 obtain ⟨oD,esD,epD,hoD,hdD,hcD⟩:=hn2.count (PySem.Within.cons name v hw)
 refine wpAny_bind (wpAny_lookBehind hoD (by rw [hdD];exact pastItsLine_dict (Nat.le_trans hcD (by rw [List.length_cons];omega))) ?_)
 exact wpAny_pure (h _ ⟨(hs2.2 _ (Ne.symm I.ne)).trans I.obj,hn2,I.ne⟩ hs2)
theorem make_map {R:Result->Shared->Prop}{vs:List Value}{kw:List (Str × Value)}(X:K.In s.heap)(hm:PySem.W.makesIn K C=true)
  (hi:PySem.W.findIn K (.ref C) "__init__"=some (some (.ref f))) (hf:PySem.W.typeIn K (.ref f)=some (.type "function"))
  (h:codeAny (model prog w) (A.under (.builtin "type.__call__" ⟨.ref C::vs,kw⟩)) (.call (.ref f) ⟨.ref (s.heap.objs.size+1)::vs,kw⟩) (PySem.W.InitBack (s.heap.objs.size+1) R)
   { s with heap:=(s.heap.push PySem.W.emptyDict).push (PySem.W.instObj C s.heap.objs.size) }) :
  codeAny (model prog w) A (.call (.ref C) ⟨vs,kw⟩) R s:=by
 obtain ⟨hh,g,d,t,os⟩:=s
 exact PySem.W.make_core (PySem.W.makes_of X hm) (PySem.W.looks_findIn X hi) (fun self=>PySem.W.bind_fn X self hf) (.inl rfl) h
end
def putF (f:Str)(v:V):List (Str × V)->List (Str × V)
 | []=>[(f,v)]
 | (g,x)::r=>if g=f then (g,v)::r else (g,x)::putF f v r
theorem lookup_putF (f g:Str)(v:V):∀ fs:List (Str × V),(putF f v fs).lookup g=if g=f then some v else fs.lookup g
 | []=>by
  show List.lookup g [(f,v)]=_
  by_cases h:g=f
  ·have hb:(g==f)=true:=beq_iff_eq.mpr h
   simp only [List.lookup,hb,if_pos h]
  ·have hb:(g==f)=false:=beq_eq_false_iff_ne.mpr h
   simp only [List.lookup,hb,if_neg h]
 | (k,x)::r=>by
  have ih:=lookup_putF f g v r
  rw [show putF f v ((k,x)::r)=(if k=f then (k,v)::r else (k,x)::putF f v r) from rfl]
  by_cases hk:k=f
  ·rw [if_pos hk]
   by_cases h:g=k
   ·have hb:(g==k)=true:=beq_iff_eq.mpr h
    simp only [List.lookup,hb,if_pos (h.trans hk)]
   ·have hb:(g==k)=false:=beq_eq_false_iff_ne.mpr h
    simp only [List.lookup,hb,if_neg (fun e:g=f=>h (e.trans hk.symm))]
  ·rw [if_neg hk]
   by_cases h:g=k
   ·have hb:(g==k)=true:=beq_iff_eq.mpr h
    simp only [List.lookup,hb,if_neg (fun e:g=f=>hk (h.symm.trans e))]
   ·have hb:(g==k)=false:=beq_eq_false_iff_ne.mpr h
    simp only [List.lookup,hb]
    exact ih
theorem keys_putF (f:Str)(v:V):∀ fs:List (Str × V),f∈(putF f v fs).map (·.1)/\∀ g,g∈fs.map (·.1)->g∈(putF f v fs).map (·.1)
 | []=>⟨by simp [putF],fun g h=>by simp at h⟩
 | (k,x)::r=>by
  obtain ⟨i1,i2⟩:=keys_putF f v r
  rw [show putF f v ((k,x)::r)=(if k=f then (k,v)::r else (k,x)::putF f v r) from rfl]
  by_cases hk:k=f
  ·rw [if_pos hk]
   subst hk
   exact ⟨by simp,fun g h=>by simpa using h⟩
  ·rw [if_neg hk]
   refine ⟨?_,fun g h=>?_⟩
   ·rw [List.map_cons]
    exact List.mem_cons_of_mem _ i1
   ·rw [List.map_cons] at h ⊢
    rcases List.mem_cons.mp h with e | e
    ·exact List.mem_cons.mpr (.inl e)
    ·exact List.mem_cons_of_mem _ (i2 g e)
theorem length_putF (f:Str)(v:V):∀ fs:List (Str × V),(putF f v fs).length<=fs.length+1
 | []=>by simp [putF]
 | (k,x)::r=>by
  have ih:=length_putF f v r
  rw [show putF f v ((k,x)::r)=(if k=f then (k,v)::r else (k,x)::putF f v r) from rfl]
  by_cases hk:k=f
  ·rw [if_pos hk,List.length_cons,List.length_cons];omega
  ·rw [if_neg hk,List.length_cons,List.length_cons];omega
theorem RelO.some_of {v:V}{o:Option Value}(r:RelO (some v) o):∃ u,o=some u/\RelV v u:=by
 cases o with
 | none=>exact (show False from r).elim
 | some u=>exact ⟨u,rfl,r⟩
theorem RelO.none_of {o:Option Value}(r:RelO none o):o=none:=by
 cases o with
 | none=>rfl
 | some u=>exact (show False from r).elim
theorem handed_of {v:V}{u:Value}(r:RelV v u):PySem.W.handedIn u=true:=by
 cases v with
 | non=>cases (show u=Value.none from r);rfl
 | bl b=>cases (show u=Value.bool b from r);rfl
 | int i=>obtain ⟨t,e⟩:=(show ∃ t,u=Value.int i t from r);cases e;rfl
 | str x=>obtain ⟨t,e⟩:=(show ∃ t,u=Value.str x t from r);cases e;rfl
 | byt b=>obtain ⟨t,e⟩:=(show ∃ t,u=Value.bytes b t from r);cases e;rfl
 | flt b=>obtain ⟨t,e⟩:=(show ∃ t,u=Value.float b t from r);cases e;rfl
 | ref a=>cases (show u=Value.ref a from r);rfl
 | ty n=>cases (show u=Value.type n from r);rfl
section
variable {P:Program}{w:World}{H H':Hp}{h h':Heap}{a C dx:Addr}{fs fs':List (Str × V)}
theorem ins_get (hok:HOk P w H h)(e:H a=some (.ins C dx fs)):∃ mA,ObjM h a dx C mA/\(∀ f,RelO (fs.lookup f) (mA f))/\PySem.Within mA (fs.map (·.1))/\fs.length<=1000/\H dx=some (.own a):=by
 obtain ⟨d,z,ne,ob,mA,n,r,q⟩:=(show ObjOk P w H h a (.ins C dx fs) from hok a _ e)
 exact ⟨mA,⟨ob,n,ne⟩,r,q,z,d⟩
end
structure Cls (K:PySem.W.Frag)(C:Addr):Prop where
 pg:PySem.W.plainGet K C Str.empty=true
 hd:PySem.W.hasDictIn K C=true
 po:PySem.W.plainOver K C=true
 sa:PySem.W.findIn K (.ref C) "__setattr__"=some (some (.builtin "object.__setattr__"))
theorem Cls.get {K:PySem.W.Frag}{C:Addr}(c:Cls K C)(f:Str):PySem.W.plainGet K C f=true:=c.pg
def NoAttr (K:PySem.W.Frag)(C:Addr)(f:Str):Prop:=PySem.W.findIn K (.ref C) f=some none
theorem NoAttr.taker {K:PySem.W.Frag}{C:Addr}{f:Str}(n:NoAttr K C f):PySem.W.takerIn K C f=some none:=by
 unfold PySem.W.takerIn
 rw [show PySem.W.findIn K (.ref C) f=some none from n]
 rfl
structure Con (K:PySem.W.Frag)(C:Addr)(f:Str)(v:V)(u:Value):Prop where
 at_:PySem.W.findIn K (.ref C) f=some (some u)
 rel:RelV v u
 get:PySem.W.specialIn K u "__get__"=some none
 cp:PySem.W.copiedNames.contains f=false
structure Meth (K:PySem.W.Frag)(C:Addr)(m:Str)(f:Addr):Prop where
 at_:PySem.W.findIn K (.ref C) m=some (some (.ref f))
 fn:PySem.W.isFn K (.ref f)=true
 kp:PySem.W.keepIn K (.ref f)=true
section
variable {X:Cx}{pins:List (Addr × Obj)}{σ:St}{H:Hp}{s:Shared}{a C dx:Addr}{fs:List (Str × V)}{f:Str}{v:V}{A:Around}{E:Value->Shared->Prop}
theorem getattr_ok {b:Bool}{Q:Value->Shared->Prop}(I:Inv X pins σ H s)(e:H a=some (.ins C dx fs))(c:Cls X.K C)(n:NoAttr X.K C f)(l:fs.lookup f=some v)
  (h:∀ u s',Inv X pins σ H s'->RelV v u->Q u s'):wpAny (model X.prog X.w) A (getAttr (.ref a) f b) Q E s:=by
 obtain ⟨mA,O,r,_,_,_⟩:=ins_get I.hok e
 obtain ⟨u,hu,ru⟩:=RelO.some_of (v:=v) (o:=mA f) (by rw [<- l];exact r f)
 exact get_map I.kIn O (c.get f) c.hd n hu (handed_of ru) (h u _ (I.tok _) ru)
theorem getmeth_ok {m:Str}{g:Addr}{pl:Sem Bool}{Q:Value × List Value->Shared->Prop}(I:Inv X pins σ H s)(e:H a=some (.ins C dx fs))(c:Cls X.K C)(k:Meth X.K C m g)(l:fs.lookup m=none)
  (h:Q (.ref g,[.ref a]) s):wpAny (model X.prog X.w) A (getMethod (.ref a) m pl) Q E s:=by
 obtain ⟨mA,O,r,_,_,_⟩:=ins_get I.hok e
 have hn:mA m=none:=RelO.none_of (by rw [<- l];exact r m)
 exact get_meth I.kIn O (c.get m) k.at_ k.fn hn h
theorem setattr_ok {y:V}{u:Value}{Q:Unit->Shared->Prop}(I:Inv X pins σ H s)(e:H a=some (.ins C dx fs))(c:Cls X.K C)(n:NoAttr X.K C f)(hl:fs.length < 1000)(ry:RelV y u)
  (h:∀ s',Inv X pins σ (upd H a (.ins C dx (putF f y fs))) s'->Q () s'):wpAny (model X.prog X.w) A (setAttr (.ref a) f u) Q E s:=by
 obtain ⟨mA,O,r,wi,_,ho⟩:=ins_get I.hok e
 have hz:(fs.map (·.1)).length<=sizeLine:=by rw [List.length_map,sizeLine_eq];omega
 refine set_map I.kIn O c.sa c.po n.taker c.hd wi hz fun h' O' sb=>h _ ?_
 have hd:∃ o,h'.get? dx=some o:=let ⟨o,_,_,e',_⟩:=O'.ns;⟨o,e'⟩
 refine I.write (x:=a) (e:=dx) (by rw [e];exact True.intro) (.inr ho) (fun b q hb z=>(sb.2 b hb).trans z) hd ?_
 refine ⟨by rw [upd_ne O.ne];exact ho,?_,O.ne,O'.obj,_,O'.ns,fun g=>?_,fun g hg=>?_⟩
 ·have:=length_putF f y fs;omega
 ·show RelO ((putF f y fs).lookup g) (if g=f then some u else mA g)
  rw [lookup_putF]
  by_cases q:g=f
  ·rw [if_pos q,if_pos q];exact ry
  ·rw [if_neg q,if_neg q];exact r g
 ·by_cases q:g=f
  ·rw [q];exact (keys_putF f y fs).1
  ·refine (keys_putF f y fs).2 g (wi g fun z=>hg ?_)
   show (if g=f then some u else mA g)=none
   rw [if_neg q];exact z
theorem Inv.made (I:Inv X pins σ H s):Inv X pins σ (upd (upd H s.heap.objs.size (.own (s.heap.objs.size+1))) (s.heap.objs.size+1) (.ins C s.heap.objs.size []))
  { s with heap:=(s.heap.push PySem.W.emptyDict).push (PySem.W.instObj C s.heap.objs.size) }:=by
 have e1:(s.heap.push PySem.W.emptyDict).get? s.heap.objs.size=some PySem.W.emptyDict:=Heap.get?_push_size s.heap rfl
 have e2:((s.heap.push PySem.W.emptyDict).push (PySem.W.instObj C s.heap.objs.size)).get? (s.heap.objs.size+1)=some (PySem.W.instObj C s.heap.objs.size):=by
  have:=Heap.get?_push_size (s.heap.push PySem.W.emptyDict) (o:=PySem.W.instObj C s.heap.objs.size) rfl
  rwa [Heap.size_push] at this
 have e3:(s.heap.push PySem.W.emptyDict).Ns s.heap.objs.size (fun _=>none):=⟨PySem.W.emptyDict,#[],_,e1,rfl,(fun e he=>absurd he (by simp)),fun _=>rfl⟩
 have I1:=I.laid (a:=s.heap.objs.size) (o:=.own (s.heap.objs.size+1)) (h':=s.heap.push PySem.W.emptyDict) (t':=s.toks) (fun b u q=>Heap.get?_push_of_some _ q) (Nat.le_refl _) ⟨_,e1⟩
 refine I1.laid (a:=s.heap.objs.size+1) (o:=.ins C s.heap.objs.size []) (t':=s.toks) (fun b u q=>Heap.get?_push_of_some _ q) (Nat.le_of_eq (Heap.size_push _ _)) ?_
 have ne:s.heap.objs.size≠s.heap.objs.size+1:=Nat.ne_of_lt (Nat.lt_succ_self _)
 refine ⟨by rw [upd_ne ne,upd_same],Nat.zero_le _,ne,e2,fun _=>none,(Heap.Ns1.of_empty e3).at fun o q=>Heap.get?_push_of_some _ q,fun _=>True.intro,fun y hy=>absurd rfl hy⟩
theorem attr_of {prog:Program}{w:World}{env:Env}{e:Expr}{f:Str}{pos:Pos}{s:Shared}{Q:Value->Shared->Prop}(hb:attributeBase e f env (eval e env)=eval e env)
  (h:wpAny (model prog w) A (eval e env) (fun o s₁=>wpAny (model prog w) A (getAttr o f true) Q E s₁) E s):wpAny (model prog w) A (eval (.Attribute e f pos) env) Q E s :=
 Attribute_any_ h (by rw [arm_eval_Attribute,hb])
end
def tFld (K:PySem.W.Frag)(ta:TE)(f:Str):TE:=fun σ H Q=>ta σ H fun x H1=>∃ a C dx fs v,x=.ref a/\H1 a=some (.ins C dx fs)/\Cls K C/\NoAttr K C f/\fs.lookup f=some v/\Q v H1
def sFld (K:PySem.W.Frag)(ta tv:TE)(f:Str):TS:=fun D σ H=>tv σ H fun y H1=>ta σ H1 fun x H2=>∃ a C dx fs,x=.ref a/\H2 a=some (.ins C dx fs)/\Cls K C/\NoAttr K C f/\fs.length < 1000 /\
 D.nx σ (upd H2 a (.ins C dx (putF f y fs)))
section
variable {X:Cx}{o e value:Expr}{f:Str}{pos pos' tpos:Pos}{ta tv:TE}
theorem pe_fld (he:PE X e ta)(hb:attributeBase e f X.env (eval e X.env)=eval e X.env):PE X (.Attribute e f pos) (tFld X.K ta f):=by
 intro pins s σ H Q I h
 refine attr_of hb (thn (he pins s σ H _ I h) fun u s1 ⟨x,H1,I1,rx,a,C,dx,fs,v,ex,ea,c,n,l,q⟩=>?_)
 subst ex
 obtain rfl:u=Value.ref a:=rx
 exact getattr_ok I1 ea c n l fun u' s2 I2 ru=>⟨v,H1,I2,ru,q⟩
theorem ps_fld (ha:PE X o ta)(hv:PE X value tv)(hs:swapsWith value (some (.Attribute o f pos')) pos.line X.env=pure false):PS X (.Assign [.Attribute o f pos'] value pos) (sFld X.K ta tv f):=by
 intro pins s σ H D I h
 refine plainObj_wpAny_Assign_Attribute (thn (hv pins s σ H _ I h) fun u s1 ⟨y,H1,I1,ry,q⟩=>thn (ha pins s1 σ H1 _ I1 q) fun ov s2 ⟨x,H2,I2,rx,a,C,dx,fs,ex,ea,c,n,l,q2⟩=>?_) hs
 subst ex
 obtain rfl:ov=Value.ref a:=rx
 exact setattr_ok I2 ea c n l ry fun s3 I3=>⟨σ,_,I3,q2⟩
theorem methcall_of {pl:Sem Bool}{m:Str}{apos:Pos}{args:List Expr}{pins:List (Addr × Obj)}{s:Shared}{σ:St}{H:Hp}{Q:Value->Shared->Prop}{te:TE}(he:PE X e te)(I:Inv X pins σ H s)
  (h:te σ H fun x H1=>∃ a C dx fs g,x=.ref a/\H1 a=some (.ins C dx fs)/\Cls X.K C/\Meth X.K C m g/\fs.lookup m=none /\
   ∀ s1,Inv X pins σ H1 s1->wpAny (model X.prog X.w) X.A (callWith pos (.ref g) [.ref a] (backTo pos (starEach args X.env)) (backToKw pos (keywordEach [] X.env))) Q X.xe s1)
  (ht:eval (.Call (.Attribute e m apos) args [] pos) X.env=(do
   let ov <- eval e X.env
   standAt apos.atName
   let (f,first) <- holding [ov] (getMethod ov m pl)
   callWith pos f first (backTo pos (starEach args X.env)) (backToKw pos (keywordEach [] X.env)))) :
  wpAny (model X.prog X.w) X.A (eval (.Call (.Attribute e m apos) args [] pos) X.env) Q X.xe s:=by
 refine PySem.W.methodCall_KW (pl:=pl) (thn (he pins s σ H _ I h) fun u s1 ⟨x,H1,I1,rx,a,C,dx,fs,g,ex,ea,c,k,l,q⟩=>?_) ht
 subst ex
 obtain rfl:u=Value.ref a:=rx
 exact getmeth_ok I1 ea c k l (q s1 I1)
end
section
variable {X:Cx}{pins:List (Addr × Obj)}{σ:St}{H:Hp}{s:Shared}{A:Around}{E:Value->Shared->Prop}{Q:Value->Shared->Prop}{c:Value}{b:Bool}
inductive TyOf (K:PySem.W.Frag)(H:Hp):V->Value->Prop where
 | non:TyOf K H .non (.type "NoneType")
 | bl (x:Bool):TyOf K H (.bl x) (.type "bool")
 | int (i:Int):TyOf K H (.int i) (.type "int")
 | str (x:Str):TyOf K H (.str x) (.type "str")
 | flt (x:UInt64):TyOf K H (.flt x) (.type "float")
 | lst {a:Addr} {xs:List V} (e:H a=some (.lst xs)):TyOf K H (.ref a) (.type "list")
 | frz {a:Addr} {o:Obj} {xs:List V} (e:H a=some (.frz o (.lst xs))):TyOf K H (.ref a) (.type "list")
 | tup {a:Addr} {xs:List V} (e:H a=some (.tup xs)):TyOf K H (.ref a) (.type "tuple")
 | dK {a:Addr} {kvs:List (Key × V)} (e:H a=some (.dK kvs)):TyOf K H (.ref a) (.type "dict")
 | dT {a:Addr} {kvs:List (List Key × V)} (e:H a=some (.dT kvs)):TyOf K H (.ref a) (.type "dict")
 | ins {a C dx:Addr} {fs:List (Str × V)} (e:H a=some (.ins C dx fs)) (cl:Cls K C) (ha:PySem.W.findIn K (.ref C) "__class__"=some (some (.builtin "object.__class__")))
   (hn:PySem.W.specialIn K (.builtin "object.__class__") "__get__"=some (some (.builtin "getset_descriptor.__get__"))) (htk:PySem.W.takesIn K (.builtin "object.__class__")=some true)
   (hm:PySem.W.mroIn K C (.type "object")=some true):TyOf K H (.ref a) (.ref C)
theorem isinst_ok {x:V}{u t:Value}(I:Inv X pins σ H s)(rx:RelV x u)(ty:TyOf X.K H x t)(e:PySem.W.kitOne X.K t c=some b)(h:∀ tk,Q (.bool b) { s with toks:=tk }):
  wpAny (model X.prog X.w) A (call (.builtin "isinstance") [u,c]) Q E s:=by
 cases ty with
 | non=>cases (show u=Value.none from rx);exact PySem.W.kia_one PySem.W.kitx_none I.kIn True.intro e (fun z=>nomatch z) h
 | bl y=>cases (show u=Value.bool y from rx);exact PySem.W.kia_one PySem.W.kitx_bool I.kIn True.intro e (fun z=>nomatch z) h
 | int i=>obtain ⟨t,q⟩:=(show ∃ t,u=Value.int i t from rx);cases q;exact PySem.W.kia_one PySem.W.kitx_int I.kIn True.intro e (fun z=>nomatch z) h
 | str y=>obtain ⟨t,q⟩:=(show ∃ t,u=Value.str y t from rx);cases q;exact PySem.W.kia_one PySem.W.kitx_str I.kIn True.intro e (fun z=>nomatch z) h
 | flt y=>obtain ⟨t,q⟩:=(show ∃ t,u=Value.float y t from rx);cases q;exact PySem.W.kia_one PySem.W.kitx_float I.kIn True.intro e (fun z=>nomatch z) h
 | @lst a xs ea =>
  cases (show u=Value.ref a from rx)
  obtain ⟨_,_,n,_,h1⟩:=(show ObjOk X.prog X.w H s.heap a (.lst xs) from I.hok a _ ea)
  exact PySem.W.kia_one PySem.W.kitx_list I.kIn ⟨_,h1,rfl⟩ e (fun z=>nomatch z) h
 | @frz a ob xs ea =>
  cases (show u=Value.ref a from rx)
  obtain ⟨_,_,_,n,_,h1⟩:=(show ObjOk X.prog X.w H s.heap a (.frz ob (.lst xs)) from I.hok a _ ea)
  exact PySem.W.kia_one PySem.W.kitx_list I.kIn ⟨_,h1,rfl⟩ e (fun z=>nomatch z) h
 | @tup a xs ea =>
  cases (show u=Value.ref a from rx)
  obtain ⟨_,_,_,p⟩:=(show ObjOk X.prog X.w H s.heap a (.tup xs) from I.hok a _ ea)
  obtain ⟨o,h1,h2,_⟩:=p
  exact PySem.W.kia_one PySem.W.kitx_tuple I.kIn ⟨o,h1,h2⟩ e (fun z=>nomatch z) h
 | @dK a kvs ea =>
  cases (show u=Value.ref a from rx)
  obtain ⟨_,_,vs,_,p⟩:=(show ObjOk X.prog X.w H s.heap a (.dK kvs) from I.hok a _ ea)
  obtain ⟨o,es,ep,h1,h2,_⟩:=p
  exact PySem.W.kia_one PySem.W.kitx_dict I.kIn ⟨o,h1,h2.1⟩ e (fun z=>nomatch z) h
 | @dT a kvs ea =>
  cases (show u=Value.ref a from rx)
  obtain ⟨_,_,xs,_,o,es,ep,h1,h2,_⟩:=(show ObjOk X.prog X.w H s.heap a (.dT kvs) from I.hok a _ ea)
  exact PySem.W.kia_one PySem.W.kitx_dict I.kIn ⟨o,h1,h2.1⟩ e (fun z=>nomatch z) h
 | @ins a C dx fs ea cl ha hn htk hm =>
  cases (show u=Value.ref a from rx)
  obtain ⟨mA,O,_⟩:=ins_get I.hok ea
  obtain ⟨od,J,_⟩:=O.look
  exact PySem.W.kia_one (PySem.W.kitx_own (cl.get _) cl.hd ha hn htk hm) I.kIn J e (fun z=>nomatch z) h
end
end L2
namespace L2
open PySem PySem.Spec PyProof.Rows
structure Room (k:Nat)(A:Around):Prop where
 hd:A.handled=none
 dp:A.depth+3 * k+5 < recursionLimit
 un:A.units+16 * k+200 < cLine
theorem Room.mono {j k:Nat}{A:Around}(r:Room k A)(h:j<=k):Room j A:=⟨r.hd,by have:=r.dp;omega,by have:=r.un;omega⟩
theorem Room.deeper {k:Nat}{A:Around}(r:Room (k+1) A)(env:Env):Room k (A.deeper env) :=
 ⟨r.hd,by have:=r.dp;show A.depth+1+3 * k+5 < _;omega,by have:=r.un;show A.units+3+16 * k+200 < _;omega⟩
theorem make_depth {A:Around}{C:Addr}{us:List Value}{kw:List (Str × Value)}:(A.under (.builtin "type.__call__" ⟨.ref C::us,kw⟩)).depth=A.depth+1:=by
 first | rfl | simp [Around.under,Code.weight,Code.isCreation,Code.isGuard,Code.isCaller,Code.frames,Code.isFrame,guardIds]
theorem make_units {A:Around}{C:Addr}{us:List Value}{kw:List (Str × Value)}:(A.under (.builtin "type.__call__" ⟨.ref C::us,kw⟩)).units=A.units+1:=by
 first | rfl | simp [Around.under,Code.cUnits,Code.frames,Code.isFrame]
theorem Room.make {k:Nat}{A:Around}(r:Room (k+1) A)(C:Addr)(us:List Value)(kw:List (Str × Value)):Room k (A.under (.builtin "type.__call__" ⟨.ref C::us,kw⟩)) :=
 ⟨r.hd,by have:=r.dp;rw [make_depth];omega,by have:=r.un;rw [make_units];omega⟩
theorem Room.depth {k:Nat}{A:Around}(r:Room k A):A.depth < recursionLimit:=by have:=r.dp;omega
theorem Room.units {k:Nat}{A:Around}(r:Room k A):A.units+64 < cLine:=by have:=r.un;omega
def tNil:TA:=fun _ H Q=>Q [] H
def tCons (ta:TE)(tr:TA):TA:=fun σ H Q=>ta σ H fun x H1=>tr σ H1 fun xs H2=>Q (x::xs) H2
section
variable {X:Cx}{e:Expr}{es:List Expr}{te:TE}{t:TA}{pos:Pos}
theorem pa_nil:PA X [] tNil:=fun _ _ _ _ H Q I h=>Calls.spliced_nil ⟨[],H,I,.nil,h⟩
theorem pa_cons (ha:PE X e te)(hr:PA X es t)(hs:starEach (e::es) X.env=(false,eval e X.env)::starEach es X.env:=by rfl):PA X (e::es) (tCons te t):=by
 intro pos pins s σ H Q I h
 rw [hs]
 show wpAny _ _ (spliced ((false,eval e X.env)::backTo pos (starEach es X.env))) _ _ s
 refine Calls.spliced_cons (thn (ha pins s σ H _ I h) fun u s1 ⟨x,H1,I1,r1,q1⟩=>?_)
 exact thn (hr pos pins s1 σ H1 _ I1 q1) fun us s2 ⟨xs,H2,I2,r2,q2⟩=>⟨x::xs,H2,I2,.cons r1 r2,q2⟩
def tTup (t:TA):TE:=fun σ H Q=>t σ H fun xs H1=>xs.length<=sizeLine/\∀ p,H1 p=none->Q (.ref p) (upd H1 p (.tup xs))
def tLst (t:TA):TE:=fun σ H Q=>t σ H fun xs H1=>xs.length<=sizeLine/\∀ p,H1 p=none->Q (.ref p) (upd H1 p (.lst xs))
theorem pe_tup {x1}(h:PA X es t):PE X (.Tuple es x1 pos) (tTup t):=by
 intro pins s σ H Q I hq
 refine wpAny_Tuple_spliced (thn (h pos pins s σ H _ I hq) fun us s1 ⟨xs,H1,I1,r,z,q⟩=>⟨by rw [<- r.length];exact z,?_⟩)
 have hf:H1 s1.heap.objs.size=none:=I1.hok.fresh (Nat.le_refl _)
 refine ⟨.ref s1.heap.objs.size,upd H1 s1.heap.objs.size (.tup xs),I1.laid (t':=s1.toks) (fun b u e=>Heap.get?_push_of_some _ e) (Nat.le_refl _) ?_,rfl,q _ hf⟩
 exact ⟨z,us,r,⟨_,Heap.get?_push_size _ rfl,rfl,_,rfl⟩⟩
theorem pe_lst (h:PA X es t):PE X (.List es pos) (tLst t):=by
 intro pins s σ H Q I hq
 refine wpAny_List_spliced (thn (h pos pins s σ H _ I hq) fun us s1 ⟨xs,H1,I1,r,z,q⟩=>⟨by rw [<- r.length];exact z,?_⟩)
 have hf:H1 s1.heap.objs.size=none:=I1.hok.fresh (Nat.le_refl _)
 refine ⟨.ref s1.heap.objs.size,upd H1 s1.heap.objs.size (.lst xs),I1.laid (t':=s1.toks) (fun b u e=>Heap.get?_push_of_some _ e) (Nat.le_refl _) ?_,rfl,q _ hf⟩
 exact ⟨z,us,0,r,Heap.get?_push_size _ rfl⟩
end
abbrev Sp:=List V->Hp->VK->XK->Prop
abbrev CXT:=List Env->Hp->Shared->XK->Value->Shared->Prop
structure Env0 (P:Program)(w:World)(K:PySem.W.Frag)(mg:Str->Option Value)(base:Heap)(A:Around)(outer:List Env)(s:Shared)(H:Hp):Prop where
 frames:A.frames=some outer
 mod:Mod K mg base
 bs:∀ b o,base.get? b=some o->s.heap.get? b=some o/\H b=none
 bsz:base.objs.size<=s.heap.objs.size
 funs:s.heap.FunFrames base outer
 frf:∀ b∈frs outer,H b=none
 hok:HOk P w H s.heap
 bare:AllBare s.gens
def CE (outer:List Env)(P:Program)(w:World)(H:Hp)(s:Shared)(Q:VK)(u:Value)(s':Shared):Prop :=
 ∃ v H',s'.os=s.os/\AllBare s'.gens/\Un (frs outer) [] H H' s.heap s'.heap/\HOk P w H' s'.heap/\RelV v u/\Q v H'
def CR (CX:CXT)(outer:List Env)(P:Program)(w:World)(H:Hp)(s:Shared)(Q:VK)(E:XK)(r:Result)(s':Shared):Prop :=
 match r with
 | .ok (.ret u)=>CE outer P w H s Q u s'
 | .ok _=>False
 | .error e=>CX outer H s E e s'
structure FnOk (P:Program)(w:World)(K:PySem.W.Frag)(mg:Str->Option Value)(base:Heap)(CX:CXT)(k:Nat)(f:Addr)(fd:FuncData)(ps:List Str)(sp:Sp):Prop where
 len:∀ vs H Q E,sp vs H Q E->vs.length=ps.length
 run:∀ (A:Around) (outer:List Env) (s:Shared) (H:Hp) (args:Args) (us:List Value) (vs:List V) (Q:VK) (E:XK),Room k A->Env0 P w K mg base A outer s H->BindsTo s fd args (ps.zip us)->Vals vs us->sp vs H Q E ->
  codeAny (model P w) A (.call (.ref f) args) (CR CX outer P w H s Q E) s
theorem FnOk.mono {P:Program}{w:World}{K:PySem.W.Frag}{mg:Str->Option Value}{base:Heap}{CX:CXT}{j k:Nat}{f:Addr}{fd:FuncData}{ps:List Str}{sp:Sp}(F:FnOk P w K mg base CX j f fd ps sp)(h:j<=k):
  FnOk P w K mg base CX k f fd ps sp:=⟨F.len,fun A outer s H args us vs Q E hr=>F.run A outer s H args us vs Q E (hr.mono h)⟩
theorem Env0.make {P:Program}{w:World}{K:PySem.W.Frag}{mg:Str->Option Value}{base:Heap}{A:Around}{outer:List Env}{s:Shared}{H:Hp}(e:Env0 P w K mg base A outer s H)(C:Addr)(us:List Value)(kw:List (Str × Value)):
  Env0 P w K mg base (A.under (.builtin "type.__call__" ⟨.ref C::us,kw⟩)) outer s H:=⟨by first | exact e.frames | (simpa [Around.under,Code.envs,Code.isFrame,pushEnvs] using e.frames),e.mod,e.bs,e.bsz,e.funs,e.frf,e.hok,e.bare⟩
section
variable {X:Cx}{pins:List (Addr × Obj)}{σ:St}{H:Hp}{s s':Shared}
theorem Inv.env0 (I:Inv X pins σ H s):Env0 X.prog X.w X.K X.mg X.base X.A X.stack s H :=
 ⟨I.ok.frames,I.ok.mod,I.bs,Nat.le_trans I.ok.bsz I.sz,I.stack,I.stkFree,I.hok,I.bare⟩
theorem Inv.after {Q:VK}{u:Value}(I:Inv X pins σ H s)(h:CE X.stack X.prog X.w H s Q u s'):EP X pins σ Q u s':=by
 obtain ⟨v,H',os,bare,un,hok,r,q⟩:=h
 obtain ⟨hh,g,d,t,os'⟩:=s'
 obtain rfl:os'=s.os:=os
 exact ⟨v,H',I.call (h':=hh) (g':=g) (d':=d) (t':=t) (ch:=[]) un hok bare (fun b z=>absurd z (by simp)),r,q⟩
end
def tCall (sp:Sp)(dvs:List V)(E:XK)(t:TA):TE:=fun σ H Q=>t σ H fun vs H1=>sp (vs++dvs) H1 Q E
def tMeth (C:Addr)(m:Str)(sp:Sp)(dvs:List V)(E:XK)(ta:TE)(t:TA):TE:=fun σ H Q=>ta σ H fun x H1=>∃ a dx fs,x=.ref a/\H1 a=some (.ins C dx fs)/\fs.lookup m=none /\
 t σ H1 fun vs H2=>sp (x::(vs++dvs)) H2 Q E
def tMake (C:Addr)(sp:Sp)(dvs:List V)(E:XK)(t:TA):TE:=fun σ H Q=>t σ H fun vs H1=>∀ x dx,H1 x=none->H1 dx=none->dx≠x ->
 sp (.ref x::(vs++dvs)) (upd (upd H1 dx (.own x)) x (.ins C dx [])) (fun v H2=>v=.non/\Q (.ref x) H2) E
def Binds (K:PySem.W.Frag)(fd:FuncData)(ps:List Str)(ds:List Value):Prop :=
 ∀ (s:Shared) (us:List Value),K.In s.heap->(us++ds).length=ps.length->BindsTo s fd ⟨us,[]⟩ (ps.zip (us++ds))
theorem Binds.all {K:PySem.W.Frag}{fd:FuncData}{ps:List Str}(h:∀ us:List Value,us.length=ps.length->bindArgs fd ⟨us,[]⟩=pure (ps.zip us)):Binds K fd ps []:=fun s us _ hl=>by
 rw [List.append_nil] at hl ⊢
 exact .of_eq (h us hl)
def Passes (CX:CXT)(X:Cx)(E:XK):Prop:=∀ (pins:List (Addr × Obj)) (σ:St) (H:Hp) (s:Shared) (e:Value) (s':Shared),Inv X pins σ H s->CX X.stack H s E e s'->X.xe e s'
section
variable {X:Cx}{CX:CXT}{k:Nat}{f C:Addr}{fd:FuncData}{ps:List Str}{sp:Sp}{dvs:List V}{ds:List Value}{E:XK}{x m:Str}{p pos apos:Pos}{e o:Expr}{es:List Expr}{ta:TE}{t:TA}
theorem run_fn {pins:List (Addr × Obj)}{σ:St}{H:Hp}{s:Shared}{Q:VK}{us:List Value}{vs:List V}(F:FnOk X.prog X.w X.K X.mg X.base CX k f fd ps sp)(hr:Room k X.A)(hb:Binds X.K fd ps ds)(hd:Vals dvs ds)(hx:Passes CX X E)
  (I:Inv X pins σ H s) (r:Vals vs us) (h:sp (vs++dvs) H Q E):wpAny (model X.prog X.w) X.A (call (.ref f) us) (EP X pins σ Q) X.xe s:=by
 have r2:Vals (vs++dvs) (us++ds):=r.append hd
 have hl:(us++ds).length=ps.length:=by rw [<- r2.length];exact F.len _ _ _ _ h
 refine wpAny_call (codeAny_mono (F.run X.A X.stack s H ⟨us,[]⟩ (us++ds) (vs++dvs) Q E hr I.env0 (hb s us I.kIn hl) r2 h) fun r s' hq=>?_)
 cases r with
 | error e=>exact hx pins σ H s e s' I hq
 | ok fl =>
  cases fl with
  | ret u=>exact I.after hq
  | next=>exact False.elim hq
  | brk=>exact False.elim hq
  | cont=>exact False.elim hq
theorem pe_call (F:FnOk X.prog X.w X.K X.mg X.base CX k f fd ps sp)(hr:Room k X.A)(hg:Gl X x)(hm:X.mg x=some (.ref f))(hk:PySem.W.keepIn X.K (.ref f)=true)(hb:Binds X.K fd ps ds)(hd:Vals dvs ds)(hx:Passes CX X E)
  (ha:PA X (e::es) t) (hdb:(x==("__debug__":Str))=false:=by decide) (he:starEach (e::es) X.env=(false,eval e X.env)::starEach es X.env:=by rfl) (hpl:(backTo pos (starEach es X.env)).any (·.1)=false:=by rfl) :
  PE X (.Call (.Name x p) (e::es) [] pos) (tCall sp dvs E t):=by
 intro pins s σ H Q I h
 refine wpAny_Call_Name_kw (ld_glob I hg hm ?_ hdb)
 refine PySem.W.callWith_K (h₀:=X.base) I.ok.mod.kin hk (thn (ha pos pins s σ H _ I h) fun us s1 ⟨vs,H1,I1,r,q⟩=>⟨I1.kIn,?_⟩) he hpl
 exact run_fn F hr hb hd hx I1 r q
theorem pe_meth {pl:Sem Bool}(he:PE X o ta)(c:Cls X.K C)(hm:Meth X.K C m f)(F:FnOk X.prog X.w X.K X.mg X.base CX k f fd ps sp)(hr:Room k X.A)(hb:Binds X.K fd ps ds)(hd:Vals dvs ds)(hx:Passes CX X E)(ha:PA X (e::es) t)
  (hst:starEach (e::es) X.env=(false,eval e X.env)::starEach es X.env:=by rfl) (hpl:(backTo pos (starEach es X.env)).any (·.1)=false:=by rfl)
  (ht:eval (.Call (.Attribute o m apos) (e::es) [] pos) X.env=(do
   let ov <- eval o X.env
   standAt apos.atName
   let (f,first) <- holding [ov] (getMethod ov m pl)
   callWith pos f first (backTo pos (starEach (e::es) X.env)) (backToKw pos (keywordEach [] X.env))):=by rfl) :
  PE X (.Call (.Attribute o m apos) (e::es) [] pos) (tMeth C m sp dvs E ta t):=by
 intro pins s σ H Q I h
 refine PySem.W.methodCall_KW (pl:=pl) (thn (he pins s σ H _ I h) fun u s1 ⟨x,H1,I1,rx,a,dx,fs,ex,ea,l,q⟩=>?_) ht
 subst ex
 obtain rfl:u=Value.ref a:=rx
 refine getmeth_ok I1 ea c hm l ?_
 refine PySem.W.callWith_K (first:=[.ref a]) (h₀:=X.base) I.ok.mod.kin hm.kp (thn (ha pos pins s1 σ H1 _ I1 q) fun us s2 ⟨vs,H2,I2,r,q2⟩=>⟨I2.kIn,?_⟩) hst hpl
 exact run_fn (us:=.ref a::us) (vs:=.ref a::vs) F hr hb hd hx I2 (.cons rfl r) q2
theorem pe_meth0 {pl:Sem Bool}(he:PE X o ta)(c:Cls X.K C)(hm:Meth X.K C m f)(F:FnOk X.prog X.w X.K X.mg X.base CX k f fd ps sp)(hr:Room k X.A)(hb:Binds X.K fd ps ds)(hd:Vals dvs ds)(hx:Passes CX X E)
  (ht:eval (.Call (.Attribute o m apos) [] [] pos) X.env=(do
   let ov <- eval o X.env
   standAt apos.atName
   let (f,first) <- holding [ov] (getMethod ov m pl)
   callWith pos f first (backTo pos (starEach [] X.env)) (backToKw pos (keywordEach [] X.env))):=by rfl) :
  PE X (.Call (.Attribute o m apos) [] [] pos) (tMeth C m sp dvs E ta tNil):=by
 intro pins s σ H Q I h
 refine PySem.W.methodCall_KW (pl:=pl) (thn (he pins s σ H _ I h) fun u s1 ⟨x,H1,I1,rx,a,dx,fs,ex,ea,l,q⟩=>?_) ht
 subst ex
 obtain rfl:u=Value.ref a:=rx
 refine getmeth_ok I1 ea c hm l ?_
 exact PySem.W.callWith_K0 (first:=[.ref a]) I1.kIn hm.kp (run_fn (us:=[.ref a]) (vs:=[.ref a]) F hr hb hd hx I1 (.cons rfl .nil) q)
structure Mk (K:PySem.W.Frag)(C f:Addr):Prop where
 makes:PySem.W.makesIn K C=true
 init:PySem.W.findIn K (.ref C) "__init__"=some (some (.ref f))
 fn:PySem.W.isFn K (.ref f)=true
 kp:PySem.W.keepIn K (.ref C)=true
theorem run_make {pins:List (Addr × Obj)}{σ:St}{H:Hp}{s:Shared}{Q:VK}{us:List Value}{vs:List V}(M:Mk X.K C f)(F:FnOk X.prog X.w X.K X.mg X.base CX k f fd ps sp)(hr:Room (k+1) X.A)(hb:Binds X.K fd ps ds)(hd:Vals dvs ds)
  (hx:Passes CX X E) (I:Inv X pins σ H s) (r:Vals vs us)
  (h:∀ x dx,H x=none->H dx=none->dx≠x->sp (.ref x::(vs++dvs)) (upd (upd H dx (.own x)) x (.ins C dx [])) (fun v H2=>v=.non/\Q (.ref x) H2) E) :
  wpAny (model X.prog X.w) X.A (call (.ref C) us) (EP X pins σ Q) X.xe s:=by
 have hq:=h (s.heap.objs.size+1) s.heap.objs.size (I.hok.fresh (Nat.le_succ _)) (I.hok.fresh (Nat.le_refl _)) (Nat.ne_of_lt (Nat.lt_succ_self _))
 have I2:=Inv.made (C:=C) I
 have r2:Vals (V.ref (s.heap.objs.size+1)::(vs++dvs)) (Value.ref (s.heap.objs.size+1)::(us++ds)):=.cons rfl (r.append hd)
 have hl:(Value.ref (s.heap.objs.size+1)::us++ds).length=ps.length:=by
  have e:=r2.length
  rw [F.len _ _ _ _ hq] at e
  exact e.symm
 refine wpAny_call (make_map (f:=f) I.kIn M.makes M.init (beq_iff_eq.mp M.fn) (codeAny_mono (F.run _ X.stack _ _ ⟨Value.ref (s.heap.objs.size+1)::us,[]⟩ (Value.ref (s.heap.objs.size+1)::(us++ds)) _ _ E (hr.make C us [])
  (I2.env0.make C us []) (hb _ (Value.ref (s.heap.objs.size+1)::us) I2.kIn hl) r2 hq) fun r s' hq'=>?_))
 cases r with
 | error e=>exact hx pins σ _ _ e s' I2 hq'
 | ok fl =>
  cases fl with
  | ret u =>
   obtain ⟨v,H',I3,rv,ev,q3⟩:=I2.after hq'
   subst ev
   exact ⟨rv,⟨V.ref (s.heap.objs.size+1),H',I3,rfl,q3⟩⟩
  | next=>exact False.elim hq'
  | brk=>exact False.elim hq'
  | cont=>exact False.elim hq'
theorem pe_make0 (M:Mk X.K C f)(F:FnOk X.prog X.w X.K X.mg X.base CX k f fd ps sp)(hr:Room (k+1) X.A)(hg:Gl X x)(hm:X.mg x=some (.ref C))(hb:Binds X.K fd ps ds)(hd:Vals dvs ds)(hx:Passes CX X E)
  (hdb:(x==("__debug__":Str))=false:=by decide):PE X (.Call (.Name x p) [] [] pos) (tMake C sp dvs E tNil):=by
 intro pins s σ H Q I h
 refine wpAny_Call_Name_kw (ld_glob I hg hm ?_ hdb)
 exact PySem.W.callWith_K0 I.kIn M.kp (run_make (us:=[]) M F hr hb hd hx I .nil h)
end
section
variable {X:Cx}{CX:CXT}{k:Nat}{f C:Addr}{fd:FuncData}{ps ks:List Str}{sp:Sp}{E:XK}{x m:Str}{p pos apos kpos:Pos}{e o:Expr}{es:List Expr}{kws:List Keyword}{te ta:TE}{t tk:TA}{nm:Option Str}
structure KBinds (K:PySem.W.Frag)(fd:FuncData)(ps ks:List Str)(g:List Value->List Value->List Value)(gV:List V->List V->List V):Prop where
 to:∀ (s:Shared) (us ws:List Value),K.In s.heap->(g us ws).length=ps.length->BindsTo s fd ⟨us,ks.zip ws⟩ (ps.zip (g us ws))
 rel:∀ {vs:List V} {us:List Value} {zs:List V} {ws:List Value},Vals vs us->Vals zs ws->Vals (gV vs zs) (g us ws)
variable {g:List Value->List Value->List Value}{gV:List V->List V->List V}
end
structure FnScope (N P:List Str)(sc:Scope):Prop where
 kind:sc.kind=.function
 co:sc.isCoroutine=false
 gen:sc.isGenerator=false
 nd:N.Nodup
 pre:N.take P.length=P
 par:∀ x∈P,sc.names.lookup x=some .local\/sc.names.lookup x=some .cell
 nofree:∀ y∈sc.names,y.2≠.free
theorem bindL_out {kindOf:Str->Option NameKind}{x:Str}:∀ {binds:List (Str × Value)} {m:Str->Option Value},(∀ v,(x,v)∉binds)->bindL kindOf binds m x=m x
 | [],_,_=>rfl
 | (n,v)::r,m,h=>by
  unfold bindL
  rw [bindL_out fun w hw=>h w (List.mem_cons_of_mem _ hw)]
  split
  ·have:x≠n:=by rintro rfl;exact h v List.mem_cons_self
   simp [this]
  ·rfl
theorem bindC_out {kindOf:Str->Option NameKind}{x:Str}:∀ {binds:List (Str × Value)} {m:Str->Option Value},(∀ v,(x,v)∉binds)->bindC kindOf binds m x=m x
 | [],_,_=>rfl
 | (n,v)::r,m,h=>by
  unfold bindC
  rw [bindC_out fun w hw=>h w (List.mem_cons_of_mem _ hw)]
  split
  ·rfl
  ·have:x≠n:=by rintro rfl;exact h v List.mem_cons_self
   simp [this]
theorem bindL_get {kindOf:Str->Option NameKind}{x:Str}{v:Value}:∀ {P:List Str} {vs:List Value} {i:Nat} {m:Str->Option Value},P.Nodup->P[i]?=some x->vs[i]?=some v->kindOf x=some .local ->
  bindL kindOf (P.zip vs) m x=some v
 | [],_,_,_,_,h,_,_=>by simp at h
 | _::_,[],_,_,_,_,h,_=>by simp at h
 | p::P,w::vs,0,m,nd,h1,h2,hk=>by
  simp at h1 h2;subst h1;subst h2
  show bindL kindOf ((p,w)::P.zip vs) m p=_
  unfold bindL
  rw [bindL_out fun v hv=>(List.nodup_cons.mp nd).1 (List.of_mem_zip hv).1,if_pos hk]
  simp
 | p::P,w::vs,i+1,m,nd,h1,h2,hk=>by
  show bindL kindOf ((p,w)::P.zip vs) m x=_
  unfold bindL
  exact bindL_get (i:=i) (List.nodup_cons.mp nd).2 (by simpa using h1) (by simpa using h2) hk
theorem bindC_get {kindOf:Str->Option NameKind}{x:Str}{v:Value}:∀ {P:List Str} {vs:List Value} {i:Nat} {m:Str->Option Value},P.Nodup->P[i]?=some x->vs[i]?=some v->kindOf x≠some .local ->
  bindC kindOf (P.zip vs) m x=some v
 | [],_,_,_,_,h,_,_=>by simp at h
 | _::_,[],_,_,_,_,h,_=>by simp at h
 | p::P,w::vs,0,m,nd,h1,h2,hk=>by
  simp at h1 h2;subst h1;subst h2
  show bindC kindOf ((p,w)::P.zip vs) m p=_
  unfold bindC
  rw [bindC_out fun v hv=>(List.nodup_cons.mp nd).1 (List.of_mem_zip hv).1,if_neg hk]
  simp
 | p::P,w::vs,i+1,m,nd,h1,h2,hk=>by
  show bindC kindOf ((p,w)::P.zip vs) m x=_
  unfold bindC
  exact bindC_get (i:=i) (List.nodup_cons.mp nd).2 (by simpa using h1) (by simpa using h2) hk
def start (N:List Str)(vs:List V):St:=vs.map some++List.replicate (N.length - vs.length) none
def cxOf (CX:CXT)(P:Program)(w:World)(K:PySem.W.Frag)(mg:Str->Option Value)(base:Heap)(N:List Str)(qual:Str)(scope:Scope)(f:Addr)(cd:Value)(A:Around)(outer:List Env)(s:Shared)(H:Hp)(E:XK):Cx where
 prog:=P
 w:=w
 K:=K
 mg:=mg
 base:=base
 A:=A.deeper (envOfC qual scope s.heap.objs.size f cd)
 N:=N
 s₀:=s
 H₀:=H
 env:=envOfC qual scope s.heap.objs.size f cd
 outer:=outer
 stack:=envOfC qual scope s.heap.objs.size f cd::outer
 ex:=[]
 calm:=true
 fn:=fun _=>true
 pn:=[]
 xe:=fun e s'=>wpAny (model P w) (A.deeper (envOfC qual scope s.heap.objs.size f cd)) (leaving (envOfC qual scope s.heap.objs.size f cd) e) (fun _ s''=>CX outer H s E e s'') (fun e' s''=>CX outer H s E e' s'') s'
theorem cell_has {sc:Scope}{n:Nat}{x:Str}(h:sc.names.lookup x=some .cell):∃ c,(cellsFrom n sc.names []).lookup x=some c:=by
 have q:=PySem.W.cellsFrom_some sc.names n [] (.inl h)
 exact Option.isSome_iff_exists.mp q
theorem inv_start {CX:CXT}{P:Program}{w:World}{K:PySem.W.Frag}{mg:Str->Option Value}{base:Heap}{N ps:List Str}{qual:Str}{scope:Scope}{f:Addr}{cd:Value}{A:Around}{outer:List Env}{s s1:Shared}{H:Hp}{E:XK}{us:List Value}{vs:List V}
  (S:FnScope N ps scope) (hd:A.handled=none) (e0:Env0 P w K mg base A outer s H) (hl:vs.length=ps.length) (r:Vals vs us)
  (x:InCallC s s.heap.objs.size (bindL (envOfC qual scope s.heap.objs.size f cd).kindOf (ps.zip us) fun _=>none) (cellsFrom (s.heap.objs.size+1) scope.names []) (bindC (envOfC qual scope s.heap.objs.size f cd).kindOf (ps.zip us) fun _=>none) s1) :
  Inv (cxOf CX P w K mg base N qual scope f cd A outer s H E) [] (start N vs) H s1:=by
 have hpl:ps.length<=N.length:=by have:=congrArg List.length S.pre;rw [List.length_take] at this;omega
 obtain ⟨h1,tk,rfl,hk⟩:=x.done
 have noA:∀ b:Addr,b∉(cxOf CX P w K mg base N qual scope f cd A outer s H E).ex:=fun b z=>absurd (show b∈([]:List Addr) from z) (by simp)
 refine ⟨⟨e0.mod,S.kind,rfl,rfl,Nat.le_refl _,fun y z c h1 h2=>?_,fun y hy=>?_,fun y c _ h=>?_,fun _=>hd,Around.frames_deeper e0.frames,.inr ⟨rfl,rfl⟩,fun b z=>absurd z (noA b),e0.bs,e0.bsz,fun b _ _=>noA b,fun b z=>absurd z (noA b),e0.funs,e0.frf⟩,
  rfl,e0.bare,Un.kept hk,⟨_,x.toInCall.ns,fun i y v h1 h2 h3=>?_⟩,fun y c h=>⟨_,x.cell y c h⟩,e0.hok.fresh (Nat.le_refl _),fun y c h=>?_,fun p hp=>absurd (show p∈([]:List (Addr × Obj)) from hp) (by simp),e0.hok.kept hk,?_⟩
 ·exact name_of_addr x.apart (PySem.mem_of_lookup h1) (PySem.mem_of_lookup h2)
 ·have hy:scope.names.lookup y=some .cell\/scope.names.lookup y=some .free:=hy
  rcases hy with hy | hy
  ·exact cell_has hy
  ·exact absurd rfl (S.nofree _ (PySem.mem_of_lookup hy))
 ·exact Nat.le_of_lt (x.above y c (PySem.mem_of_lookup h))
 ·have hi:i < vs.length:=by
   unfold start at h2
   by_cases hi:i < vs.length
   ·exact hi
   ·rw [List.getElem?_append_right (by simpa using hi)] at h2
    rw [List.getElem?_replicate] at h2
    split at h2 <;> cases h2
  have ha:vs[i]?=some v:=by
   unfold start at h2
   rw [List.getElem?_append_left (by simpa using hi),List.getElem?_map] at h2
   cases e:vs[i]? with
   | none=>rw [e] at h2;cases h2
   | some a=>rw [e] at h2;cases h2;rfl
  obtain ⟨u,hu,rv⟩:=r.get ha
  have hp:ps[i]?=some y:=by
   rw [<- S.pre,List.getElem?_take_of_lt (by omega)];exact h1
  have ndP:ps.Nodup:=by rw [<- S.pre];exact S.nd.sublist (List.take_sublist _ _)
  refine ⟨u,rv,?_⟩
  rcases S.par y (List.mem_of_getElem? hp) with k | k
  ·exact .inl ⟨k,bindL_get ndP hp hu k⟩
  ·obtain ⟨c,e⟩:=cell_has (n:=s.heap.objs.size+1) k
   refine .inr ⟨.inl k,c,e,?_⟩
   have q:=x.cell y c e
   rw [bindC_get ndP hp hu (by show scope.names.lookup y≠_;rw [k];decide)] at q
   exact q
 ·exact e0.hok.fresh (Nat.le_of_lt (x.above y c (PySem.mem_of_lookup h)))
 ·unfold start
  show _=N.length
  rw [List.length_append,List.length_map,List.length_replicate]
  omega
theorem fn_of {CX:CXT}{P:Program}{w:World}{K:PySem.W.Frag}{mg:Str->Option Value}{base:Heap}{k:Nat}{f:Addr}{name qual:Str}{params:Arguments}{body:List Stmt}{scope:Scope}{dV kV doc pm cdv ct oc:Value}{an od:Option Addr}
  {osl:Array (Option Value)} {N ps:List Str} {sp:Sp} (lk:K.lookup f=some ⟨oc,od,.func (PySem.W.fnOf name qual params body scope dV kV doc pm an cdv ct),osl⟩) (hcd:PySem.W.codeIn K cdv qual=true) (S:FnScope N ps scope)
  (len:∀ vs H Q E,sp vs H Q E->vs.length=ps.length)
  (hbody:∀ (A:Around) (outer:List Env) (s:Shared) (H:Hp) (vs:List V) (Q:VK) (E:XK),Room k (A.deeper (envOfC qual scope s.heap.objs.size f cdv))->sp vs H Q E ->
   ∃ t,PSs (cxOf CX P w K mg base N qual scope f cdv A outer s H E) body t/\t { nx:=fun _ H'=>Q .non H',rt:=Q } (start N vs) H) :
  FnOk P w K mg base CX (k+1) f (PySem.W.fnOf name qual params body scope dV kV doc pm an cdv ct) ps sp:=by
 refine ⟨len,fun A outer s H args us vs Q E hr e0 hb r hsp=>?_⟩
 have hl:=len _ _ _ _ hsp
 have KX:K.In s.heap:=e0.mod.kin.keeps fun b o e=>(e0.bs b o e).1
 have lim:s.heap.NoLimit:=e0.mod.nolimit.keeps fun b o e=>(e0.bs b o e).1
 have hkind:∀ y∈ps.zip us,scope.names.lookup y.1=some .local\/(scope.names.lookup y.1=some .cell/\((cellsFrom (s.heap.objs.size+1) scope.names []).lookup y.1).isSome=true):=fun ⟨n,v⟩ hy=>by
  rcases S.par n (List.of_mem_zip hy).1 with q | q
  ·exact .inl q
  ·exact .inr ⟨q,PySem.W.cellsFrom_some _ _ _ (.inl q)⟩
 refine codeAny_call_function hr.depth (KX _ _ lk) rfl S.co S.gen rfl (PySem.W.codeRec_of KX hcd) (hb _ _ _ _ ?_)
 refine wpAny_newFunctionEnv_cells S.kind hkind fun env he s1 x=>?_
 subst he
 refine ⟨lim.keeps x.toInCall.keep,codeAny_func ?_⟩
 obtain ⟨t,ht,hq⟩:=hbody A outer s H vs Q E (hr.deeper _) hsp
 have I:Inv (cxOf CX P w K mg base N qual scope f cdv A outer s H E) [] (start N vs) H s1:=inv_start S hr.hd e0 hl r x
 refine wpAny_mono (ht [] s1 (start N vs) H _ I hq) (fun fl s' hs=>?_) fun e s' hs=>hs
 have fin:∀ {σ':St} {H':Hp} {v:V} {u:Value},Inv (cxOf CX P w K mg base N qual scope f cdv A outer s H E) [] σ' H' s'->RelV v u->Q v H'->CE outer P w H s Q u s' :=
  fun {σ' H' v u} J rv q=>⟨v,H',J.os,J.bare,J.base,J.hok,rv,q⟩
 cases fl with
 | ret u =>
  obtain ⟨v,σ',H',J,rv,q⟩:=hs
  exact fin J rv q
 | next =>
  obtain ⟨σ',H',J,q⟩:=hs
  exact fin (v:=V.non) (u:=Value.none) J rfl q
 | brk =>
  obtain ⟨_,_,_,q⟩:=hs
  exact False.elim q
 | cont =>
  obtain ⟨_,_,_,q⟩:=hs
  exact False.elim q
end L2
namespace L2
open PySem PySem.Spec PyProof.Rows
section
variable {X:Cx}{x:Str}{p pos:Pos}{e:Expr}{es:List Expr}{t:TA}{id T:String}{r:List V->Hp->VK->Prop}
def tCB (r:List V->Hp->VK->Prop)(t:TA):TE:=fun σ H Q=>t σ H fun vs H1=>r vs H1 Q
theorem pe_callB (hc:CallR X (.builtin id) r)(hg:Gl X x)(hm:X.mg x=none)(hv:bootBuiltins x=some (.builtin id))(ha:PA X (e::es) t)(hn:x≠"__name__":=by decide)(hdb:(x==("__debug__":Str))=false:=by decide)
  (he:starEach (e::es) X.env=(false,eval e X.env)::starEach es X.env:=by rfl) (hpl:(backTo pos (starEach es X.env)).any (·.1)=false:=by rfl):PE X (.Call (.Name x p) (e::es) [] pos) (tCB r t):=by
 intro pins s σ H Q I h
 refine wpAny_Call_Name_kw (ld_blt I hg hm hv ?_ hn hdb)
 exact PyProof.Rows.callWith_builtin1 (thn (ha pos pins s σ H _ I h) fun us s1 ⟨vs,H1,I1,r1,q1⟩=>hc pins s1 σ H1 vs us Q I1 r1 q1) he hpl
theorem pe_callTy (hc:CallR X (.type T) r)(hg:Gl X x)(hm:X.mg x=none)(hv:bootBuiltins x=some (.type T))(ha:PA X (e::es) t)(hn:x≠"__name__":=by decide)(hdb:(x==("__debug__":Str))=false:=by decide)
  (he:starEach (e::es) X.env=(false,eval e X.env)::starEach es X.env:=by rfl) (hpl:(backTo pos (starEach es X.env)).any (·.1)=false:=by rfl):PE X (.Call (.Name x p) (e::es) [] pos) (tCB r t):=by
 intro pins s σ H Q I h
 refine wpAny_Call_Name_kw (ld_blt I hg hm hv ?_ hn hdb)
 exact PyProof.Rows.callWith_type1 (thn (ha pos pins s σ H _ I h) fun us s1 ⟨vs,H1,I1,r1,q1⟩=>hc pins s1 σ H1 vs us Q I1 r1 q1) he hpl
end
end L2
namespace HT
open PySem PyProof.Rows
section
open PySem.SeqAt
open PySem.AutoSeq1 (wpAny_loadPart')
open PySem.MeetsSeq PySem.MeetsSeq2 PySem.MeetsSeq3
end
section
variable {prog:Program}{w:World}{A:Around}{E:Value->Shared->Prop}{s:Shared}
theorem cat_tup {t b:Addr}{vs ws:List Value}{Q:Value->Shared->Prop}(ht:IsTup s.heap t vs.toArray)(hb:IsTup s.heap b ws.toArray)(hv:vs≠[])
  (h1:ws=[]->Q (.ref t) s) (h2:ws≠[]->Q (.ref s.heap.objs.size) { s with heap:=s.heap.push { cls:=.type "tuple",data:=.seq (vs++ws).toArray } })
  (hsz:vs.length+ws.length<=sizeLine):wpAny (model prog w) A (binaryOp .Add (.ref t) (.ref b)) Q E s:=by
 obtain ⟨⟨cls,dd,data,sl⟩,ho,hc,n,hd⟩:=id ht
 obtain ⟨⟨cls2,dd2,data2,sl2⟩,ho2,hc2,n2,hd2⟩:=id hb
 simp only at hc hd hc2 hd2
 subst hc hd hc2 hd2
 have e:vs.toArray++ws.toArray=(vs++ws).toArray:=by simp
 by_cases hw:ws=[]
 ·exact concat_meets ⟨_,ho,rfl⟩ ⟨_,ho2,rfl⟩ noFill_tuple_add seq_tuple_add PySem.F.slot_tuple_add PySem.F.entry_tuple_add (PySem.F.args_tuple_add_2 _ _)
   (tuple_addW1 t b vs.toArray ws.toArray n n2 dd dd2 sl sl2 (by simpa using hv) (by simp [hw])) ⟨ho,ho2,h1 hw⟩
 ·refine concat_meets ⟨_,ho,rfl⟩ ⟨_,ho2,rfl⟩ noFill_tuple_add seq_tuple_add PySem.F.slot_tuple_add PySem.F.entry_tuple_add (PySem.F.args_tuple_add_2 _ _)
   (tuple_addW2 t b vs.toArray ws.toArray n n2 dd dd2 sl sl2 (by simpa using hv) (by simpa using hw) (by rw [List.size_toArray,List.size_toArray];exact hsz)) ⟨ho,ho2,?_⟩
  rw [e]
  exact h2 hw
def sIx (n d:Nat):Option Int->Nat
 | none=>d
 | some v=>if v < 0 then (v+(n:Int)).toNat else min v.toNat n
theorem sIx_nat (n d k:Nat):sIx n d (some (k:Int))=min k n:=by
 show (if (k:Int) < 0 then ((k:Int)+(n:Int)).toNat else min (k:Int).toNat n)=min k n
 rw [if_neg (by omega),Int.toNat_natCast]
theorem sIx_le (n d:Nat)(hd:d<=n)(o:Option Int):sIx n d o<=n:=by
 cases o with
 | none=>exact hd
 | some v =>
  show (if v < 0 then (v+(n:Int)).toNat else min v.toNat n)<=n
  by_cases hv:v < 0
  ·rw [if_pos hv];omega
  ·rw [if_neg hv];exact Nat.min_le_right _ _
theorem clip_eq (v:Int)(n d:Nat):(if v < 0 then max (v+(n:Int)) 0 else min v (n:Int))=((sIx n d (some v):Nat):Int):=by
 show (if v < 0 then max (v+(n:Int)) 0 else min v (n:Int))=(((if v < 0 then (v+(n:Int)).toNat else min v.toNat n):Nat):Int)
 by_cases hv:v < 0
 ·simp only [if_pos hv];omega
 ·simp only [if_neg hv];omega
theorem adjust_gen (lo hi:Option Int)(n:Nat):Builtin.Slice.sliceAdjust lo hi 1 (n:Int)=(((sIx n 0 lo:Nat):Int),((sIx n n hi:Nat):Int)):=by
 have h1:¬ ((1:Int) < 0):=by omega
 unfold Builtin.Slice.sliceAdjust
 simp only [h1,if_false]
 refine Prod.ext ?_ ?_
 ·cases lo with
  | none=>rfl
  | some v=>exact clip_eq v n 0
 ·cases hi with
  | none=>rfl
  | some v=>exact clip_eq v n n
theorem places_gen (i j:Nat):Builtin.Slice.slicePlaces (i:Int) (j:Int) 1=j - i:=by
 unfold Builtin.Slice.slicePlaces
 have h1:(1:Int) > 0:=by omega
 simp only [h1,if_true,Int.ediv_one]
 split <;> omega
theorem slicePart_ {v:Value}{o:Option Int}{Q:Option Int->Shared->Prop}(p:IsPart v o)(h:Q o s):wpAny (model prog w) A (Builtin.Slice.slicePartIndex v) Q E s:=by
 cases p with
 | none=>exact slicePart_none h
 | int i t=>exact slicePart_int h
theorem sliceApplied_gen {sl:Addr}{vl vu:Value}{lo hi:Option Int}{n:Nat}{Q:Int × Int × Nat->Shared->Prop}(hs:s.heap.IsSliceOf sl vl vu .none)(pl:IsPart vl lo)(pu:IsPart vu hi)
  (h:Q (((sIx n 0 lo:Nat):Int),1,sIx n n hi - sIx n 0 lo) s):wpAny (model prog w) A (Builtin.Slice.sliceApplied (.ref sl) (pure (n:Int))) Q E s:=by
 obtain ⟨os,hos,hcs,hds⟩:=id hs
 unfold Builtin.Slice.sliceApplied Builtin.Slice.sliceFields
 refine wpAny_bind (wpAny_bind (wpAny_field hos hds (x:=vl) rfl (wpAny_bind (wpAny_field hos hds (x:=vu) rfl (wpAny_bind (wpAny_field hos hds (x:=.none) rfl (wpAny_pure ?_)))))))
 refine wpAny_bind (slicePart_none ?_)
 show wpAny _ _ (if ((1:Int)==0)=true then _ else _) _ _ s
 rw [if_neg (by decide)]
 refine wpAny_bind (slicePart_ pl (wpAny_bind (slicePart_ pu (wpAny_bind (wpAny_pure ?_)))))
 show wpAny _ _ (match Builtin.Slice.sliceAdjust lo hi 1 (n:Int) with | (lo,hi)=>pure (lo,(1:Int),Builtin.Slice.slicePlaces lo hi 1)) _ _ s
 rw [adjust_gen lo hi n]
 show wpAny _ _ (pure (((sIx n 0 lo:Nat):Int),(1:Int),Builtin.Slice.slicePlaces ((sIx n 0 lo:Nat):Int) ((sIx n n hi:Nat):Int) 1)) _ _ s
 rw [places_gen]
 exact wpAny_pure h
theorem pick_gen (xs:Array Value)(i k:Nat):((List.range k).filterMap fun (m:Nat)=>xs[((i:Int)+(m:Int) * 1).toNat]?).toArray=((xs.toList.drop i).take k).toArray:=by
 have e:(fun (m:Nat)=>xs[((i:Int)+(m:Int) * 1).toNat]?)=fun m=>xs[i+m]?:=by
  funext m
  have:((i:Int)+(m:Int) * 1).toNat=i+m:=by omega
  rw [this]
 rw [e]
 have:=pick_run xs i k
 rw [List.filterMap_map] at this
 have e2:((fun x=>xs[x]?) ∘ fun x=>i+x)=fun m=>xs[i+m]?:=rfl
 rw [e2] at this
 rw [this]
theorem getItem_tuple_cut {t sl:Addr}{items:Array Value}{vl vu:Value}{lo hi:Option Int}{Q:Value->Shared->Prop}(ht:IsTup s.heap t items)(hs:s.heap.IsSliceOf sl vl vu .none)(pl:IsPart vl lo)(pu:IsPart vu hi)
  (hw:¬ (sIx items.size 0 lo=0/\sIx items.size items.size hi=items.size))
  (h:Q (.ref s.heap.objs.size) { s with heap:=s.heap.push { cls:=.type "tuple",data:=.seq ((items.toList.drop (sIx items.size 0 lo)).take (sIx items.size items.size hi - sIx items.size 0 lo)).toArray } })
  (hsz:items.size<=sizeLine):wpAny (model prog w) A (getItem (.ref t) (.ref sl)) Q E s:=by
 have htake:sizeOk (.seq ((items.toList.drop (sIx items.size 0 lo)).take (sIx items.size items.size hi - sIx items.size 0 lo)).toArray):=by
  show ((items.toList.drop (sIx items.size 0 lo)).take (sIx items.size items.size hi - sIx items.size 0 lo)).toArray.size<=sizeLine
  rw [List.size_toArray,List.length_take,List.length_drop,Array.length_toList]
  omega
 have hj:sIx items.size items.size hi<=items.size:=sIx_le _ _ (Nat.le_refl _) hi
 obtain ⟨os,hos,hcs,hds⟩:=id hs
 have hTs:s.TypeIs (.ref sl) "slice":=⟨os,hos,hcs⟩
 unfold getItem
 try with_reducible refine wpAny_holding ?_
 first | refine wpAny_bind (wpAny_pure ?_) | skip
 refine wpAny_bind (wpAny_sequenceKey ht.typeIs (by decide) ?_)
 refine wpAny_bind (wpAny_callSpecial?_slot (name:=Str.ofString "__getitem__") ht.typeIs PyProof.Rows.slot_tuple_getitem
  (wpAny_call_entry PyProof.Rows.slot_tuple_getitem ht.typeIs entry_tuple_getitem ?_ (args_tuple_getitem _ _)))
 show wpAny _ _ (Builtin.Tuple.tupleItemsOf (.ref t) >>= _) _ _ s
 refine wpAny_bind (tupleItemsOf_ ht ?_)
 refine wpAny_bind (wpAny_typeOf hTs ?_)
 rw [if_pos (by decide)]
 refine wpAny_bind (sliceApplied_gen hs pl pu ?_)
 have hno:¬ ((((sIx items.size 0 lo:Nat):Int)==0 && (1:Int)==1 && (sIx items.size items.size hi - sIx items.size 0 lo)==items.size)=true):=by
  intro q
  rw [Bool.and_eq_true,Bool.and_eq_true] at q
  have q1:((sIx items.size 0 lo:Nat):Int)=0:=eq_of_beq q.1.1
  have q2:sIx items.size items.size hi - sIx items.size 0 lo=items.size:=eq_of_beq q.2
  exact hw ⟨by omega,by omega⟩
 show wpAny _ _ (if (((sIx items.size 0 lo:Nat):Int)==0 && (1:Int)==1 && (sIx items.size items.size hi - sIx items.size 0 lo)==items.size)=true then _ else _) _ _ s
 rw [if_neg hno,pick_gen]
 first
  | exact wpAny_bind (m:=Builtin.Tuple.tupleExact _) (wpAny_newObj_type (wpAny_pure ⟨_,rfl,wpAny_pure h⟩) htake)
  | exact wpAny_bind (m:=Builtin.Tuple.tupleExact _) (wpAny_newObj_type (wpAny_bind (wpAny_pure (wpAny_pure ⟨_,rfl,wpAny_pure h⟩))) htake)
  | exact wpAny_bind (wpAny_bind (m:=Builtin.Tuple.tupleExact _) (wpAny_newObj_type (wpAny_pure (wpAny_pure ⟨_,rfl,wpAny_pure h⟩)) htake))
  | exact wpAny_bind (wpAny_bind (m:=Builtin.Tuple.tupleExact _) (wpAny_newObj_type (wpAny_pure ⟨_,rfl,wpAny_pure h⟩) htake))
end
end HT
namespace L2
open PySem PySem.Spec PyProof.Rows
abbrev TO:=St->Hp->(Option Int->Hp->Prop)->Prop
def PO (X:Cx)(e:Option Expr)(t:TO):Prop :=
 ∀ (pins:List (Addr × Obj)) (s:Shared) (σ:St) (H:Hp) (Q:Option Int->Hp->Prop),Inv X pins σ H s->t σ H Q ->
  wpAny (model X.prog X.w) X.A (evalPart e X.env) (fun u s'=>∃ o H',Inv X pins σ H' s'/\IsPart u o/\Q o H') X.xe s
def tNoPart:TO:=fun _ H Q=>Q none H
def tPart (t:TE):TO:=fun σ H Q=>t σ H fun x H1=>∃ i,x=.int i/\Q (some i) H1
section
variable {X:Cx}{e:Expr}{te:TE}{lo hi:Option Expr}{tl th:TO}{pos p2:Pos}
theorem po_none:PO X none tNoPart:=by
 intro pins s σ H Q I h
 rw [evalPart_none]
 exact wpAny_pure ⟨none,H,I,.none,h⟩
theorem po_some (h:PE X e te):PO X (some e) (tPart te):=by
 intro pins s σ H Q I hw
 rw [evalPart_some]
 refine thn (h pins s σ H _ I hw) fun u s1 ⟨x,H1,I1,r1,q1⟩=>?_
 obtain ⟨i,rfl,q⟩:=q1
 obtain ⟨t,rfl⟩:=r1
 exact ⟨some i,H1,I1,.int i t,q⟩
def SlR (X:Cx)(r:V->Option Int->Option Int->Hp->VK->Prop):Prop :=
 ∀ (pins:List (Addr × Obj)) (s:Shared) (σ:St) (H:Hp) (x:V) (v vl vu:Value) (lo hi:Option Int) (sl:Addr) (Q:VK),Inv X pins σ H s->RelV x v->s.heap.IsSliceOf sl vl vu .none->IsPart vl lo->IsPart vu hi->r x lo hi H Q ->
  ∃ T id,typeLookup (.type T) "__getitem__"=pure (some (.builtin id))/\s.TypeIs v T/\wpAny (model X.prog X.w) X.A (getItem v (.ref sl)) (EP X pins σ Q) X.xe s
def tSl (r:V->Option Int->Option Int->Hp->VK->Prop)(te:TE)(tl th:TO):TE:=fun σ H Q=>te σ H fun x H1=>tl σ H1 fun l H2=>th σ H2 fun u H3=>r x l u H3 Q
theorem pe_slice {r:V->Option Int->Option Int->Hp->VK->Prop}(hr:SlR X r)(he:PE X e te)(hl:PO X lo tl)(hu:PO X hi th):PE X (.Subscript e (.Slice lo hi none p2) pos) (tSl r te tl th):=by
 intro pins s σ H Q I h
 refine Subscript_ (thn (he pins s σ H _ I h) fun v s1 ⟨x,H1,I1,r1,q1⟩=>?_)
 refine wpAny_Slice (thn (hl pins s1 σ H1 _ I1 q1) fun vl s2 ⟨l,H2,I2,pl,q2⟩=>thn (hu pins s2 σ H2 _ I2 q2) fun vu s3 ⟨u,H3,I3,pu,q3⟩=>?_)
 rw [evalPart_none]
 refine wpAny_pure ?_
 have I4:Inv X pins σ H3 { s3 with heap:=s3.heap.push { cls:=.type "slice",data:=.fields #[vl,vu,.none] } }:=I3.kept (t':=s3.toks) fun b ob q=>Heap.get?_push_of_some _ q
 obtain ⟨T,id,hT,ht,hg⟩:=hr pins { s3 with heap:=s3.heap.push { cls:=.type "slice",data:=.fields #[vl,vu,.none] } } σ H3 x v vl vu l u s3.heap.objs.size Q I4 r1 (Heap.IsSliceOf.new ..) pl pu q3
 show wpAny (model X.prog X.w) X.A (subscriptTail e (.Slice lo hi none p2) v (.ref s3.heap.objs.size)) (EP X pins σ Q) X.xe { s3 with heap:=s3.heap.push { cls:=.type "slice",data:=.fields #[vl,vu,.none] } }
 exact tail_any (ops:=[.ref s3.heap.objs.size,v]) ht hT hg (by with_unfolding_all rfl)
def cutV (xs:List V)(lo hi:Option Int):List V:=(xs.drop (HT.sIx xs.length 0 lo)).take (HT.sIx xs.length xs.length hi - HT.sIx xs.length 0 lo)
theorem cutV_length (xs:List V)(lo hi:Option Int):(cutV xs lo hi).length<=xs.length:=by
 unfold cutV
 rw [List.length_take,List.length_drop]
 omega
def rSlT (K:PySem.W.Frag):V->Option Int->Option Int->Hp->VK->Prop:=fun x lo hi H Q=>∃ a xs,x=.ref a/\SqT K H a xs /\
 ¬ (HT.sIx xs.length 0 lo=0/\HT.sIx xs.length xs.length hi=xs.length)/\∀ p,H p=none->Q (.ref p) (upd H p (.tup (cutV xs lo hi)))
theorem sl_tup:SlR X (rSlT X.K):=by
 intro pins s σ H x v vl vu lo hi sl Q I rx hs pl pu h
 obtain ⟨a,xs,rfl,hx,hw,q⟩:=h
 cases rx
 obtain ⟨its,r,ht,hz⟩:=I.tuple hx
 have hlen:its.toArray.size=xs.length:=by rw [List.size_toArray];exact r.length.symm
 refine ⟨"tuple",_,PyProof.Rows.slot_tuple_getitem.lookup,ht.typeIs,?_⟩
 refine HT.getItem_tuple_cut ht hs pl pu (by rw [hlen];exact hw) ?_ (by rw [hlen];exact hz)
 rw [hlen]
 refine ⟨.ref s.heap.objs.size,_,I.laid (t':=s.toks) (o:=.tup (cutV xs lo hi)) (fun b ob q=>Heap.get?_push_of_some _ q) (Nat.le_refl _) ?_,rfl,q _ (I.hok.fresh (Nat.le_refl _))⟩
 exact ⟨Nat.le_trans (cutV_length xs lo hi) hz,_,(r.drop (HT.sIx xs.length 0 lo)).take (HT.sIx xs.length xs.length hi - HT.sIx xs.length 0 lo),IsTup.new _ _⟩
def rCatT (K:PySem.W.Frag):R2:=fun x y H Q=>∃ a b xs ys,x=.ref a/\y=.ref b/\SqT K H a xs/\SqT K H b ys/\xs≠[]/\xs.length+ys.length<=sizeLine /\
 (ys=[]->Q (.ref a) H)/\(ys≠[]->∀ p,H p=none->Q (.ref p) (upd H p (.tup (xs++ys))))
theorem Vals.nil_iff {xs:List V}{us:List Value}(r:Vals xs us):us=[]↔xs=[]:=by
 cases r with
 | nil=>simp
 | cons _ _=>simp
theorem op_catT:OpR X (binaryOp .Add) (rCatT X.K):=by
 intro pins s σ H x y v u Q I rx ry h
 obtain ⟨a,b,xs,ys,rfl,rfl,ha,hb,hx,hz,q1,q2⟩:=h
 cases rx
 cases ry
 obtain ⟨its,r1,p1,_⟩:=I.tuple ha
 obtain ⟨its2,r2,p2,_⟩:=I.tuple hb
 refine HT.cat_tup p1 p2 (fun z=>hx (r1.nil_iff.mp z)) (fun z=>⟨.ref a,H,I,rfl,q1 (r2.nil_iff.mp z)⟩) (fun z=>?_) (by rw [<- r1.length,<- r2.length];exact hz)
 refine ⟨.ref s.heap.objs.size,_,I.laid (t':=s.toks) (o:=.tup (xs++ys)) (fun b ob q=>Heap.get?_push_of_some _ q) (Nat.le_refl _) ?_,rfl,q2 (fun w=>z (r2.nil_iff.mpr w)) _ (I.hok.fresh (Nat.le_refl _))⟩
 exact ⟨by rw [List.length_append];exact hz,_,r1.append r2,IsTup.new _ _⟩
end
end L2
namespace L2
open PySem PySem.Spec PyProof.Rows
def ixN (n:Nat)(i:Int):Option Nat:=if 0<=i then (if i < n then some i.toNat else none) else if -(n:Int)<=i then some (i+n).toNat else none
def atI {α:Type}(xs:List α)(i:Int):Option α:=(ixN xs.length i).bind fun j=>xs[j]?
theorem ixN_seq {n:Nat}{i:Int}{j:Nat}(h:ixN n i=some j):seqIndex? i n=some j/\j < n/\-(n:Int)<=i/\i < n:=by
 unfold ixN at h
 by_cases h0:0<=i
 ·rw [if_pos h0] at h
  by_cases h1:i < n
  ·rw [if_pos h1] at h
   have e:i.toNat=j:=Option.some.inj h
   exact ⟨by rw [seqIndex_of h0 h1,e],by omega,by omega,h1⟩
  ·rw [if_neg h1] at h;cases h
 ·rw [if_neg h0] at h
  by_cases h1:-(n:Int)<=i
  ·rw [if_pos h1] at h
   have e:(i+n).toNat=j:=Option.some.inj h
   exact ⟨by rw [seqIndex_neg (by omega) h1,e],by omega,h1,by omega⟩
  ·rw [if_neg h1] at h;cases h
theorem atI_get {α:Type}{xs:List α}{i:Int}{v:α}(h:atI xs i=some v):∃ j,seqIndex? i xs.length=some j/\xs[j]?=some v/\j < xs.length/\-(xs.length:Int)<=i/\i < xs.length:=by
 unfold atI at h
 cases e:ixN xs.length i with
 | none=>rw [e] at h;cases h
 | some j =>
  rw [e] at h
  obtain ⟨h1,h2,h3,h4⟩:=ixN_seq e
  exact ⟨j,h1,h,h2,h3,h4⟩
theorem atI_nat {α:Type}{xs:List α}{j:Nat}{v:α}(h:xs[j]?=some v):atI xs (j:Int)=some v:=by
 have hj:j < xs.length:=(List.getElem?_eq_some_iff.mp h).1
 have e:ixN xs.length (j:Int)=some j:=by
  unfold ixN
  rw [if_pos (by omega),if_pos (by omega)];simp
 unfold atI;rw [e];exact h
theorem atI_last {α:Type}(xs:List α)(v:α):atI (xs++[v]) (-1)=some v:=by
 have hl:(xs++[v]).length=xs.length+1:=by simp
 have e:ixN (xs++[v]).length (-1)=some xs.length:=by
  unfold ixN
  rw [hl,if_neg (by decide),if_pos (by omega)]
  congr 1
  omega
 unfold atI
 rw [e]
 show (xs++[v])[xs.length]?=some v
 simp
def PlainIx (b:Expr):Prop:=∀ o i,subscripted b false o i=operate [o,i] (getItem o i)
def IxR (X:Cx)(r:R2):Prop :=
 ∀ (value slice:Expr) (pins:List (Addr × Obj)) (s:Shared) (σ:St) (H:Hp) (x y:V) (v u:Value) (Q:VK),Inv X pins σ H s->RelV x v->RelV y u->r x y H Q ->
  subscripted slice false v u=operate [v,u] (getItem v u)->wpAny (model X.prog X.w) X.A (subscriptTail value slice v u) (EP X pins σ Q) X.xe s
def MtR (X:Cx)(id:String)(r:V->List V->Hp->VK->Prop):Prop :=
 ∀ (pins:List (Addr × Obj)) (s:Shared) (σ:St) (H:Hp) (x:V) (xs:List V) (v:Value) (us:List Value) (Q:VK),Inv X pins σ H s->RelV x v->Vals xs us->r x xs H Q ->
  wpAny (model X.prog X.w) X.A (call (.builtin id) (v::us)) (EP X pins σ Q) X.xe s
section
variable {X:Cx}{a b:Expr}{ta tb:TE}{pos:Pos}
theorem pe_ix {r:R2}(hr:IxR X r)(ha:PE X a ta)(hb:PE X b tb)(hs:PlainIx b):PE X (.Subscript a b pos) (tOp r ta tb):=by
 intro pins s σ H Q I h
 exact Subscript_ (binT ha hb I h fun v u s2 x y H2 I2 rx ry q=>hr a b pins s2 σ H2 x y v u Q I2 rx ry q (hs _ _))
def rIxL (K:PySem.W.Frag):R2:=fun x y H Q=>∃ p xs i v,x=.ref p/\y=.int i/\SqL K H p xs/\atI xs i=some v/\Q v H
def rIxT (K:PySem.W.Frag):R2:=fun x y H Q=>∃ p xs i v,x=.ref p/\y=.int i/\SqT K H p xs/\atI xs i=some v/\Q v H
theorem ix_list:IxR X (rIxL X.K):=by
 intro value slice pins s σ H x y v u Q I rx ry h hs
 obtain ⟨p,xs,i,z,rfl,rfl,hq,he,q⟩:=h
 cases rx
 obtain ⟨t,rfl⟩:=ry
 obtain ⟨its,r,pl,hz⟩:=I.list hq
 obtain ⟨j,h1,h2,h3,h4,h5⟩:=atI_get he
 obtain ⟨w,ew,rw'⟩:=r.get h2
 have hl:=r.length
 have hn:=line63
 have fin:EP X pins σ Q w s:=⟨z,H,I,rw',q⟩
 by_cases h0:0<=i
 ·have hj:i.toNat=j:=by
   rw [seqIndex_of h0 h5] at h1
   exact Option.some.inj h1
  exact item_listR pl.isList h0 (by omega) (by rw [hj];simpa using ew) fin hs
 ·have hj:(i+(its.toArray.size:Int)).toNat=j:=by
   rw [seqIndex_neg (by omega) h4] at h1
   rw [List.size_toArray,<- hl]
   exact Option.some.inj h1
  exact subscriptTail_builtinR (x:=w) pl.isList.typeIs slot_list_getitem.lookup
   (wpAny_getItem_list_neg (Q:=fun r s'=>r=w/\EP X pins σ Q r s') pl.isList (by omega) (by rw [List.size_toArray] <;> omega) (by omega) (by rw [hj];simpa using ew) ⟨rfl,fin⟩) hs
theorem ix_tup:IxR X (rIxT X.K):=by
 intro value slice pins s σ H x y v u Q I rx ry h hs
 obtain ⟨p,xs,i,z,rfl,rfl,hq,he,q⟩:=h
 cases rx
 obtain ⟨t,rfl⟩:=ry
 obtain ⟨its,r,pl,hz⟩:=I.tuple hq
 obtain ⟨j,h1,h2,h3,h4,h5⟩:=atI_get he
 obtain ⟨w,ew,rw'⟩:=r.get h2
 have hl:=r.length
 have hn:=line63
 have fin:EP X pins σ Q w s:=⟨z,H,I,rw',q⟩
 exact subscriptTail_builtinR (x:=w) pl.typeIs slot_tuple_getitem.lookup
  (getItem_tuple (j:=j) (Q:=fun r s'=>r=w/\EP X pins σ Q r s') pl (by omega) (by omega) (by rw [List.size_toArray,<- hl];exact h1) (by simpa using ew) ⟨rfl,fin⟩) hs
theorem mapSeq_set (its:List Value)(n j:Nat)(u:Value):Obj.mapSeq (·.setIfInBounds j u) { cls:=.type "list",data:=.seq its.toArray n }={ cls:=.type "list",data:=.seq (its.set j u).toArray n }:=by
 simp [Obj.mapSeq]
theorem Inv.lst {pins:List (Addr × Obj)}{σ:St}{H:Hp}{s:Shared}{p:Addr}{xs:List V}(I:Inv X pins σ H s)(h:H p=some (.lst xs)):
  ∃ (its:List Value) (n:Nat),Vals xs its/\s.heap.get? p=some { cls:=.type "list",data:=.seq its.toArray n }/\xs.length<=sizeLine:=by
 obtain ⟨z,its,n,r,e⟩:=I.hok p _ h
 exact ⟨its,n,r,e,z⟩
theorem Inv.lstUpd {pins:List (Addr × Obj)}{σ:St}{H:Hp}{s:Shared}{p:Addr}{xs ys:List V}{its its':List Value}{n n':Nat}{f:Obj->Obj}(I:Inv X pins σ H s)(h:H p=some (.lst xs))
  (ho:s.heap.get? p=some { cls:=.type "list",data:=.seq its.toArray n }) (hf:f { cls:=.type "list",data:=.seq its.toArray n }={ cls:=.type "list",data:=.seq its'.toArray n' }) (r:Vals ys its') (hz:ys.length<=sizeLine) (t:Nat) :
  Inv X pins σ (upd H p (.lst ys)) { s with heap:=s.heap.update p f,toks:=t }:=by
 have e:(s.heap.update p f).get? p=some { cls:=.type "list",data:=.seq its'.toArray n' }:=by
  rw [Heap.get?_update_self f ho (by rw [hf] <;> rfl),hf]
 refine I.write (x:=p) (e:=p) (by rw [h];trivial) (.inl rfl) (fun b u hb q=>(Heap.get?_update_other _ _ (Ne.symm hb)).trans q) ⟨_,e⟩ ?_
 exact ⟨hz,its',n',r,e⟩
def rSetL:V->V->V->Hp->(Hp->Prop)->Prop:=fun o i v H Q=>∃ p xs k j,o=.ref p/\i=.int k/\H p=some (.lst xs)/\ixN xs.length k=some j/\Q (upd H p (.lst (xs.set j v)))
theorem set_list:PSet X rSetL:=by
 intro pins s σ H o i v ov iv u Q I ro ri rv h
 obtain ⟨p,xs,k,j,rfl,rfl,hp,hj,q⟩:=h
 cases ro
 obtain ⟨t,rfl⟩:=ri
 obtain ⟨its,n,r,ho,hz⟩:=I.lst hp
 obtain ⟨h1,h2,h3,h4⟩:=ixN_seq hj
 have hl:=r.length
 have hn:=line63
 have I':Inv X pins σ (upd H p (.lst (xs.set j v))) { s with heap:=s.heap.update p (Obj.mapSeq (·.setIfInBounds j u)) } :=
  I.lstUpd hp ho (mapSeq_set its n j u) (r.set rv j) (by rw [List.length_set];exact hz) s.toks
 by_cases h0:0<=k
 ·have hk:k.toNat=j:=by
   rw [seqIndex_of h0 h4] at h1
   exact Option.some.inj h1
  exact PySem.W.ki_setAt ho h0 (by omega) (by rw [List.size_toArray,<- hl];exact h4) (by rw [hk];exact ⟨_,I',q⟩)
 ·have hk:(k+(its.toArray.size:Int)).toNat=j:=by
   rw [seqIndex_neg (by omega) h3] at h1
   rw [List.size_toArray,<- hl]
   exact Option.some.inj h1
  exact PySem.W.ki_setBack ho (by omega) (by rw [List.size_toArray,<- hl];exact h3) (by omega) (by rw [hk];exact ⟨_,I',q⟩)
theorem slice_bounds (lo hi:Option Int)(n:Nat):(sliceBounds lo hi none n).1=((HT.sIx n 0 lo:Nat):Int)/\(sliceBounds lo hi none n).2.1=((HT.sIx n n hi:Nat):Int)/\(sliceBounds lo hi none n).2.2=1:=by
 refine ⟨?_,?_,rfl⟩
 ·cases lo with
  | none=>simp [sliceBounds,HT.sIx]
  | some i =>
   simp only [sliceBounds,HT.sIx,Option.getD_none,show (1:Int) > 0 by decide,if_true]
   by_cases h:i < 0
   ·simp only [h,if_true] <;> omega
   ·simp only [h,if_false] <;> omega
 ·cases hi with
  | none=>simp [sliceBounds,HT.sIx]
  | some i =>
   simp only [sliceBounds,HT.sIx,Option.getD_none,show (1:Int) > 0 by decide,if_true]
   by_cases h:i < 0
   ·simp only [h,if_true] <;> omega
   ·simp only [h,if_false] <;> omega
theorem slicePick_cut (its:List Value)(lo hi:Option Int):slicePick its.toArray lo hi none=((its.drop (HT.sIx its.length 0 lo)).take (HT.sIx its.length its.length hi - HT.sIx its.length 0 lo)).toArray:=by
 obtain ⟨h1,h2,h3⟩:=slice_bounds lo hi its.toArray.size
 unfold slicePick
 rw [h1,h2,h3]
 simp only [sliceRange_one,pick_run,List.size_toArray] <;> rfl
def rSlL (K:PySem.W.Frag):V->Option Int->Option Int->Hp->VK->Prop:=fun x lo hi H Q=>∃ a xs,x=.ref a/\SqL K H a xs/\∀ p,H p=none->Q (.ref p) (upd H p (.lst (cutV xs lo hi)))
theorem sl_list:SlR X (rSlL X.K):=by
 intro pins s σ H x v vl vu lo hi sl Q I rx hs pl pu h
 obtain ⟨a,xs,rfl,hx,q⟩:=h
 cases rx
 obtain ⟨its,r,ht,hz⟩:=I.list hx
 have hlen:=r.length
 refine ⟨"list",_,slot_list_getitem.lookup,ht.isList.typeIs,?_⟩
 refine wpAny_getItem_list_slice ht.isList hs pl pu .none (by simp) ?_ (by rw [List.size_toArray] <;> omega)
 rw [slicePick_cut,<- hlen]
 refine ⟨.ref s.heap.objs.size,_,I.laid (t':=s.toks) (o:=.lst (cutV xs lo hi)) (fun b ob q=>Heap.get?_push_of_some _ q) (Nat.le_refl _) ?_,rfl,q _ (I.hok.fresh (Nat.le_refl _))⟩
 exact ⟨Nat.le_trans (cutV_length xs lo hi) hz,_,0,(r.drop (HT.sIx xs.length 0 lo)).take (HT.sIx xs.length xs.length hi - HT.sIx xs.length 0 lo),Heap.get?_push_size _ rfl⟩
def flatV:V->Bool
 | .non=>true
 | .bl _=>true
 | .int _=>true
 | .str _=>true
 | _=>false
def eqV:V->V->Bool
 | .non,.non=>true
 | .bl a,.bl b=>a==b
 | .bl a,.int b=>(if a then 1 else 0)==b
 | .int a,.bl b=>a==(if b then 1 else 0)
 | .int a,.int b=>a==b
 | .str a,.str b=>a==b
 | _,_=>false
theorem eqAt_V {A:Around}{s:Shared}{y x:V}{u v:Value}(ry:RelV y u)(rx:RelV x v)(fy:flatV y=true)(fx:flatV x=true):SeqAt.EqAt A s u v (eqV y x):=by
 cases y with
 | non =>
  cases ry
  cases x with
  | non=>cases rx;exact SeqAt.EqAt.same _
  | bl b=>cases rx;exact SeqAt.EqAt.none_bool b
  | int b=>obtain ⟨t,rfl⟩:=rx;exact SeqAt.EqAt.none_int b t
  | str b=>obtain ⟨t,rfl⟩:=rx;exact SeqAt.EqAt.none_str b t
  | _=>exact absurd (show false=true from fx) Bool.false_ne_true
 | bl a =>
  cases ry
  cases x with
  | non=>cases rx;exact SeqAt.EqAt.bool_none a
  | bl b=>cases rx;exact SeqAt.EqAt.bool_bool a b
  | int b=>obtain ⟨t,rfl⟩:=rx;exact SeqAt.EqAt.bool_int a b t
  | str b=>obtain ⟨t,rfl⟩:=rx;exact SeqAt.EqAt.bool_str a b t
  | _=>exact absurd (show false=true from fx) Bool.false_ne_true
 | int a =>
  obtain ⟨t',rfl⟩:=ry
  cases x with
  | non=>cases rx;exact SeqAt.EqAt.int_none a t'
  | bl b=>cases rx;exact SeqAt.EqAt.int_bool a t' b
  | int b=>obtain ⟨t,rfl⟩:=rx;exact SeqAt.EqAt.int_int a t' b t
  | str b=>obtain ⟨t,rfl⟩:=rx;exact SeqAt.EqAt.int_str a t' b t
  | _=>exact absurd (show false=true from fx) Bool.false_ne_true
 | str a =>
  obtain ⟨t',rfl⟩:=ry
  cases x with
  | non=>cases rx;exact SeqAt.EqAt.str_none a t'
  | bl b=>cases rx;exact SeqAt.EqAt.str_bool a t' b
  | int b=>obtain ⟨t,rfl⟩:=rx;exact SeqAt.EqAt.str_int a t' b t
  | str b=>obtain ⟨t,rfl⟩:=rx;exact SeqAt.EqAt.str_str a t' b t
  | _=>exact absurd (show false=true from fx) Bool.false_ne_true
 | _=>exact absurd (show false=true from fy) Bool.false_ne_true
def eqU (x:V)(u:Value):Bool:=match u with
 | .none=>eqV .non x
 | .bool b=>eqV (.bl b) x
 | .int i _=>eqV (.int i) x
 | .str z _=>eqV (.str z) x
 | _=>false
theorem eqU_of {x y:V}{u:Value}(r:RelV y u)(f:flatV y=true):eqU x u=eqV y x:=by
 cases y with
 | non=>cases r;rfl
 | bl b=>cases r;rfl
 | int i=>obtain ⟨t,rfl⟩:=r;rfl
 | str z=>obtain ⟨t,rfl⟩:=r;rfl
 | _=>exact absurd (show false=true from f) Bool.false_ne_true
theorem any_eqU {x:V}:∀ {xs:List V} {us:List Value},Vals xs us->xs.all flatV=true->us.any (eqU x)=xs.any fun y=>eqV y x
 | _,_,.nil,_=>rfl
 | y::xs,u::us,.cons r t,f=>by
  rw [List.all_cons,Bool.and_eq_true] at f
  rw [List.any_cons,List.any_cons,eqU_of r f.1,any_eqU t f.2]
theorem mem_eqAt {A:Around}{s:Shared}{x:V}{v:Value}(rx:RelV x v)(fx:flatV x=true):∀ {xs:List V} {us:List Value},Vals xs us->xs.all flatV=true->∀ u∈us,SeqAt.EqAt A s u v (eqU x u)
 | _,_,.nil,_=>fun u hu=>by cases hu
 | y::xs,u::us,.cons r t,f=>fun u' hu=>by
  rw [List.all_cons,Bool.and_eq_true] at f
  rcases List.mem_cons.mp hu with rfl | hu
  ·rw [eqU_of r f.1];exact eqAt_V r rx f.1 fx
  ·exact mem_eqAt rx fx t f.2 u' hu
def inV (x:V)(xs:List V):Bool:=xs.any fun y=>eqV y x
def rIn (K:PySem.W.Frag)(neg:Bool):R2:=fun x y H Q=>∃ p xs,y=.ref p/\(SqL K H p xs\/SqT K H p xs)/\flatV x=true/\xs.all flatV=true/\Q (.bl (if neg then !inV x xs else inV x xs)) H
theorem op_in_seq:OpR X (compareOp .In) (rIn X.K false):=by
 intro pins s σ H x y v u Q I rx ry h
 obtain ⟨p,xs,rfl,hq,fx,fs,q⟩:=h
 cases ry
 rcases hq with hq | hq
 ·obtain ⟨its,r,pl,hz⟩:=I.list hq
  refine SeqAt.in_listAt (eqU x) pl.isList (fun w hw=>mem_eqAt rx fx r fs w (by simpa using hw)) ⟨.bl _,H,I,rfl,?_⟩
  rw [show its.toArray.any (eqU x)=its.any (eqU x) by simp,any_eqU r fs]
  exact q
 ·obtain ⟨its,r,pl,hz⟩:=I.tuple hq
  refine SeqAt.in_tupleAt (eqU x) pl (fun w hw=>mem_eqAt rx fx r fs w (by simpa using hw)) ⟨.bl _,H,I,rfl,?_⟩
  rw [show its.toArray.any (eqU x)=its.any (eqU x) by simp,any_eqU r fs]
  exact q
theorem op_notIn_seq:OpR X (compareOp .NotIn) (rIn X.K true):=by
 intro pins s σ H x y v u Q I rx ry h
 obtain ⟨p,xs,rfl,hq,fx,fs,q⟩:=h
 cases ry
 rcases hq with hq | hq
 ·obtain ⟨its,r,pl,hz⟩:=I.list hq
  refine SeqAt.notIn_listAt (eqU x) pl.isList (fun w hw=>mem_eqAt rx fx r fs w (by simpa using hw)) ⟨.bl _,H,I,rfl,?_⟩
  rw [show its.toArray.any (eqU x)=its.any (eqU x) by simp,any_eqU r fs]
  exact q
 ·obtain ⟨its,r,pl,hz⟩:=I.tuple hq
  refine SeqAt.notIn_tupleAt (eqU x) pl (fun w hw=>mem_eqAt rx fx r fs w (by simpa using hw)) ⟨.bl _,H,I,rfl,?_⟩
  rw [show its.toArray.any (eqU x)=its.any (eqU x) by simp,any_eqU r fs]
  exact q
theorem call_len_seq:CallR X (.builtin "len") (fun xs H Q=>∃ p ys,xs=[.ref p]/\(SqL X.K H p ys\/SqT X.K H p ys)/\Q (.int ys.length) H):=by
 intro pins s σ H xs us Q I r h
 obtain ⟨p,ys,rfl,hq,q⟩:=h
 obtain ⟨u,rfl,rx⟩:=vals1 r
 cases rx
 have hn:=line63
 rcases hq with hq | hq
 ·obtain ⟨its,r',pl,hz⟩:=I.list hq
  have hlen:=r'.length
  exact Calls.call_len_list pl.isList (by simp only [List.size_toArray] <;> omega) ⟨.int ys.length,H,I.tok _,⟨s.toks+1,by rw [List.size_toArray,hlen]⟩,q⟩
 ·obtain ⟨its,r',pl,hz⟩:=I.tuple hq
  have hlen:=r'.length
  exact len_tuple pl (by simp only [List.size_toArray] <;> omega) ⟨.int ys.length,H,I.tok _,⟨s.toks+1,by rw [List.size_toArray,hlen]⟩,q⟩
theorem call_list_of:CallR X (.type "list") (fun xs H Q=>∃ p ys,xs=[.ref p]/\(SqL X.K H p ys\/SqT X.K H p ys)/\∀ l,H l=none->Q (.ref l) (upd H l (.lst ys))):=by
 intro pins s σ H xs us Q I r h
 obtain ⟨p,ys,rfl,hq,q⟩:=h
 obtain ⟨u,rfl,rx⟩:=vals1 r
 cases rx
 have fin:∀ (its:List Value),Vals ys its->ys.length<=sizeLine->∀ (h':Heap) (c':Nat),(∀ b o',s.heap.get? b=some o'->h'.get? b=some o') ->
   h'.get? s.heap.objs.size=some { cls:=.type "list",dict:=none,data:=.seq its.toArray c',slots:=#[] }->EP X pins σ Q (.ref s.heap.objs.size) { s with heap:=h' }:=fun its r' hz h' c' kp e =>
  ⟨.ref s.heap.objs.size,_,I.laid (t':=s.toks) kp (Nat.le_refl _) (show ObjOk X.prog X.w _ h' _ (.lst ys) from ⟨hz,its,c',r',e⟩),rfl,q _ (I.hok.fresh (Nat.le_refl _))⟩
 rcases hq with hq | hq
 ·obtain ⟨its,r',pl,hz⟩:=I.list hq
  have hlen:=r'.length
  obtain ⟨o,ho,hc,n,hd⟩:=pl.isList
  exact call_list_seq p (.inl rfl) ho hc hd (fun h' c' kp e=>fin its r' hz h' c' kp e) (by simp only [List.size_toArray] <;> omega)
 ·obtain ⟨its,r',pl,hz⟩:=I.tuple hq
  have hlen:=r'.length
  obtain ⟨o,ho,hc,n,hd⟩:=pl
  exact call_list_seq p (.inr rfl) ho hc hd (fun h' c' kp e=>fin its r' hz h' c' kp e) (by simp only [List.size_toArray] <;> omega)
theorem call_tuple_of:CallR X (.type "tuple") (fun xs H Q=>∃ p ys,xs=[.ref p]/\((SqL X.K H p ys/\∀ l,H l=none->Q (.ref l) (upd H l (.tup ys)))\/(SqT X.K H p ys/\Q (.ref p) H))):=by
 intro pins s σ H xs us Q I r h
 obtain ⟨p,ys,rfl,h⟩:=h
 obtain ⟨u,rfl,rx⟩:=vals1 r
 cases rx
 rcases h with ⟨hq,q⟩ | ⟨hq,q⟩
 ·obtain ⟨its,r',pl,hz⟩:=I.list hq
  have hlen:=r'.length
  refine call_tuple_list pl.isList (fun h' kp=>?_) (by simp only [List.size_toArray] <;> omega)
  have I1:Inv X pins σ H { s with heap:=h' }:=I.kept (t':=s.toks) kp
  have I2:Inv X pins σ (upd H h'.objs.size (.tup ys)) { s with heap:=h'.push { cls:=.type "tuple",data:=.seq its.toArray } } :=
   I1.laid (t':=s.toks) (fun b o e=>Heap.get?_push_of_some _ e) (Nat.le_refl _) (show ObjOk X.prog X.w _ _ _ (.tup ys) from ⟨hz,its,r',IsTup.new _ _⟩)
  exact ⟨.ref h'.objs.size,_,I2,rfl,q _ (I1.hok.fresh (Nat.le_refl _))⟩
 ·obtain ⟨its,r',pl,hz⟩:=I.tuple hq
  exact call_tuple_same pl ⟨.ref p,H,I,rfl,q⟩
def tyV (K:PySem.W.Frag)(T:String)(x:V)(H:Hp):Prop:=match x with
 | .str _=>T="str"
 | .int _=>T="int"
 | .ref p=>(T="list"/\∃ xs,SqL K H p xs)\/(T="tuple"/\∃ o,K.lookup p=some o/\o.cls=.type "tuple"/\o.dict=none) \/
   (T="dict"/\((∃ kvs,H p=some (.dK kvs))\/∃ kvs,H p=some (.dT kvs)))\/(T="set"/\∃ S n,H p=some (.set S n))
 | _=>False
theorem tyV_is {pins:List (Addr × Obj)}{σ:St}{H:Hp}{s:Shared}{T:String}{x:V}{v:Value}(I:Inv X pins σ H s)(r:RelV x v)(ty:tyV X.K T x H):
  s.TypeIs v T/\∀ a,v=.ref a->∃ ob,s.heap.get? a=some ob/\ob.dict=none:=by
 cases x with
 | str z =>
  obtain ⟨t,rfl⟩:=r
  cases (show T="str" from ty)
  exact ⟨typeIs_str s z t,fun _ e=>nomatch e⟩
 | int i =>
  obtain ⟨t,rfl⟩:=r
  cases (show T="int" from ty)
  exact ⟨typeIs_int s i t,fun _ e=>nomatch e⟩
 | ref p =>
  cases r
  rcases ty with ⟨rfl,xs,hq⟩ | ⟨rfl,o,hk,hc,hd⟩ | ⟨rfl,hk⟩ | ⟨rfl,S,n,hk⟩
  ·obtain ⟨its,_,pl,_⟩:=I.list hq
   refine ⟨pl.isList.typeIs,fun a e=>?_⟩
   cases e
   obtain ⟨o,n,e,c,hd,_⟩:=pl
   exact ⟨o,e,hd⟩
  ·refine ⟨⟨o,I.kIn p o hk,hc⟩,fun a e=>?_⟩
   cases e
   exact ⟨o,I.kIn _ o hk,hd⟩
  ·have z:∃ o,s.heap.get? p=some o/\o.ExactDict:=by
    rcases hk with ⟨kvs,hk⟩ | ⟨kvs,hk⟩
    ·obtain ⟨_,_,_,_,o,_,_,e,ex,_⟩:=I.hok p _ hk
     exact ⟨o,e,ex⟩
    ·obtain ⟨_,_,_,_,o,_,_,e,ex,_⟩:=I.hok p _ hk
     exact ⟨o,e,ex⟩
   obtain ⟨o,e,ex⟩:=z
   refine ⟨⟨o,e,ex.1⟩,fun a e2=>?_⟩
   cases e2
   exact ⟨o,e,ex.2.1⟩
  ·obtain ⟨o,_,_,_,e,ex,_⟩:=I.hok p _ hk
   refine ⟨⟨o,e,ex.1⟩,fun a e2=>?_⟩
   cases e2
   exact ⟨o,e,ex.2.1⟩
 | _=>exact False.elim ty
def tBM0 (K:PySem.W.Frag)(T:String)(r:V->List V->Hp->VK->Prop)(to:TE):TE:=fun σ H Q=>to σ H fun x H1=>tyV K T x H1/\r x [] H1 Q
def tBM (K:PySem.W.Frag)(T:String)(r:V->List V->Hp->VK->Prop)(to:TE)(t:TA):TE:=fun σ H Q=>to σ H fun x H1=>tyV K T x H1/\t σ H1 fun xs H2=>r x xs H2 Q
variable {o e:Expr}{es:List Expr}{to:TE}{t:TA}{name:Str}{apos cpos:Pos}{T id:String}{r:V->List V->Hp->VK->Prop}
theorem pe_bm0 (pa:PlainAttrs T)(slot:Slot T name id)(hty:typeOf (.builtin id)=pure (.type "method_descriptor"))(hm:MtR X id r)(ho:PE X o to)
  (hbase:attributeBase o name X.env (eval o X.env)=eval o X.env:=by rfl) (hline:(apos.endLine==cpos.line)=true:=by rfl):PE X (.Call (.Attribute o name apos) [] [] cpos) (tBM0 X.K T r to):=by
 intro pins s σ H Q I h
 refine wpAny_Call_method0_late hbase hline (thn (ho pins s σ H _ I h) fun v s1 ⟨x,H1,I1,r1,ty,q1⟩=>?_)
 obtain ⟨h1,h2⟩:=tyV_is I1 r1 ty
 exact ⟨T,id,pa,slot,hty,h1,h2,Calls.callWith_builtin rfl (PySem.evalArgs_none (hm pins s1 σ H1 x [] v [] Q I1 r1 .nil q1))⟩
theorem pe_bm (pa:PlainAttrs T)(slot:Slot T name id)(hty:typeOf (.builtin id)=pure (.type "method_descriptor"))(hm:MtR X id r)(ho:PE X o to)(ha:PA X (e::es) t)
  (hbase:attributeBase o name X.env (eval o X.env)=eval o X.env:=by rfl)
  (hfew:((backTo cpos (starEach (e::es) X.env)).all (fun x=>!x.1) && (backToKw cpos (keywordEach [] X.env)).all (fun x=>x.1.isSome)
   && decide ((e::es).length+([]:List Keyword).length+(if ([]:List Keyword).isEmpty then 0 else 1) < 30))=true:=by rfl)
  (hline:(apos.endLine==cpos.line)=true:=by rfl) (hs:starEach (e::es) X.env=(false,eval e X.env)::starEach es X.env:=by rfl) (hplain:(backTo cpos (starEach es X.env)).any (·.1)=false:=by rfl) :
  PE X (.Call (.Attribute o name apos) (e::es) [] cpos) (tBM X.K T r to t):=by
 intro pins s σ H Q I h
 refine wpAny_Call_method_late hbase hfew hline rfl (thn (ho pins s σ H _ I h) fun v s1 ⟨x,H1,I1,r1,ty,q1⟩=>?_)
 obtain ⟨h1,h2⟩:=tyV_is I1 r1 ty
 refine ⟨T,id,pa,slot,hty,h1,h2,?_⟩
 have hA:=ha cpos pins s1 σ H1 _ I1 q1
 rw [hs] at hA ⊢
 refine Calls.callWith_builtin (by show (false || (backTo cpos (starEach es X.env)).any (·.1))=false;rw [hplain] <;> rfl) (Calls.evalArgs_plain ?_)
 exact thn hA fun us s2 ⟨vs,H2,I2,r2,q2⟩=>hm pins s2 σ H2 x vs v us Q I2 r1 r2 q2
end
end L2
namespace L2
open PySem PySem.Spec PyProof.Rows
def MtM (X:Cx)(id:String)(r:V->List V->Hp->VK->Prop):Prop :=
 ∀ (pins:List (Addr × Obj)) (s:Shared) (σ:St) (H:Hp) (x:V) (xs:List V) (v:Value) (us:List Value) (Q:VK),Inv X pins σ H s->RelV x v->Vals xs us->r x xs H Q ->
  wpAny (model X.prog X.w) X.A (call (.builtin id) (v::us)) (EP X pins σ Q) X.xe s
theorem Vals.one:∀ {x:V} {us:List Value},Vals [x] us->∃ u,us=[u]/\RelV x u
 | _,_,.cons r .nil=>⟨_,rfl,r⟩
theorem Vals.zero:∀ {us:List Value},Vals [] us->us=[]
 | _,.nil=>rfl
theorem Vals.dropLast {xs:List V}{us:List Value}(h:Vals xs us):Vals xs.dropLast us.dropLast:=by
 induction h with
 | nil=>exact .nil
 | cons r t ih =>
  cases t with
  | nil=>exact .nil
  | cons q t'=>exact .cons r ih
theorem Vals.reverse {xs:List V}{us:List Value}(h:Vals xs us):Vals xs.reverse us.reverse:=by
 induction h with
 | nil=>exact .nil
 | cons r t ih=>rw [List.reverse_cons,List.reverse_cons];exact Vals.append ih (.cons r .nil)
theorem erase_last {α:Type}(l:List α):l.eraseIdx (l.length - 1)=l.dropLast:=by
 induction l with
 | nil=>rfl
 | cons a r ih =>
  cases r with
  | nil=>rfl
  | cons b r =>
   have e:(a::b::r).length - 1=((b::r).length - 1)+1:=by
    have h1:(a::b::r).length=r.length+2:=rfl
    have h2:(b::r).length=r.length+1:=rfl
    omega
   rw [e,List.eraseIdx_cons_succ,ih]
   all_goals rfl
section
variable {X:Cx}{pins:List (Addr × Obj)}{σ:St}{H:Hp}{s:Shared}{l b:Addr}{xs ys zs:List V}
theorem Inv.lset {its its':List Value}{n:Nat}{f:Array Value->Array Value}{t':Nat}(I:Inv X pins σ H s)(hH:H l=some (.lst xs))
  (e:s.heap.get? l=some { cls:=.type "list",data:=.seq its.toArray n }) (hf:f its.toArray=its'.toArray) (hv:Vals ys its') (hz:ys.length<=sizeLine) :
  Inv X pins σ (upd H l (.lst ys)) { s with heap:=s.heap.update l (Obj.mapSeq f),toks:=t' }:=by
 have q:=PySem.IsL.update e f
 rw [hf] at q
 refine I.write (x:=l) (e:=l) (by rw [hH];exact trivial) (.inl rfl) (fun b' u hb hu=>(Heap.get?_update_other s.heap (Obj.mapSeq f) (Ne.symm hb)).trans hu) ⟨_,q⟩ ?_
 exact ⟨hz,its',_,hv,q⟩
theorem Inv.lnew {its:List Value}{t':Nat}(I:Inv X pins σ H s)(hv:Vals ys its)(hz:ys.length<=sizeLine):
  Inv X pins σ (upd H s.heap.objs.size (.lst ys)) { s with heap:=s.heap.push { cls:=.type "list",data:=.seq its.toArray },toks:=t' } :=
 I.laid (fun _ _ q=>Heap.get?_push_of_some _ q) (Nat.le_refl _) ⟨hz,its,0,hv,Heap.get?_push_size _ rfl⟩
theorem Inv.fresh (I:Inv X pins σ H s):H s.heap.objs.size=none:=I.hok.fresh (Nat.le_refl _)
theorem Inv.lstM (I:Inv X pins σ H s)(hH:H l=some (.lst xs)):xs.length<=sizeLine/\∃ (its:List Value) (n:Nat),Vals xs its/\xs.length=its.length/\s.heap.get? l=some { cls:=.type "list",data:=.seq its.toArray n }:=by
 obtain ⟨z,its,n,r,e⟩:=I.hok l _ hH
 exact ⟨z,its,n,r,r.length,e⟩
theorem notLongL {n:Nat}(h:n<=sizeLine):Builtin.List.listTooLong n=false:=by
 unfold Builtin.List.listTooLong
 exact decide_eq_false (by omega)
end
section
variable {X:Cx}
def rAppend:V->List V->Hp->VK->Prop:=fun x vs H Q=>∃ l xs y,x=.ref l/\vs=[y]/\H l=some (.lst xs)/\xs.length < sizeLine/\Q .non (upd H l (.lst (xs++[y])))
theorem mt_append:MtM X "list.append" rAppend:=by
 intro pins s σ H x vs v us Q I rx rv h
 obtain ⟨l,xs,y,rfl,rfl,hH,hz,q⟩:=h
 cases rx
 obtain ⟨u,rfl,ru⟩:=rv.one
 obtain ⟨z,its,n,r,hl,e⟩:=I.lstM hH
 refine call_meets F.slot_list_append ⟨_,e,rfl⟩ F.entry_list_append (F.args_list_append_2 _ _) (PySem.list_append l its.toArray n u (by rw [List.size_toArray];omega)) ⟨e,?_⟩
 refine ⟨.non,_,I.lset (its':=its++[u]) hH e (by simp) (r.append (.cons ru .nil)) ?_,rfl,q⟩
 rw [List.length_append,List.length_singleton]
 omega
def rExtend:V->List V->Hp->VK->Prop:=fun x vs H Q=>∃ l b xs zs,x=.ref l/\vs=[.ref b]/\H l=some (.lst xs)/\H b=some (.lst zs)/\xs.length+zs.length<=sizeLine/\Q .non (upd H l (.lst (xs++zs)))
theorem mt_extend:MtM X "list.extend" rExtend:=by
 intro pins s σ H x vs v us Q I rx rv h
 obtain ⟨l,b,xs,zs,rfl,rfl,hH,hB,hz,q⟩:=h
 cases rx
 obtain ⟨u,rfl,ru⟩:=rv.one
 cases ru
 obtain ⟨z,its,n,r,hl,e⟩:=I.lstM hH
 obtain ⟨z2,its2,n2,r2,hl2,e2⟩:=I.lstM hB
 have hsz:its.toArray.size+its2.toArray.size<=sizeLine:=by rw [List.size_toArray,List.size_toArray];omega
 have hlong:¬ (!its.toArray.isEmpty && Builtin.List.listTooLong (its.toArray.size+its2.toArray.size))=true:=by
  rw [notLongL hsz,Bool.and_false]
  exact Bool.false_ne_true
 refine call_meets F.slot_list_extend ⟨_,e,rfl⟩ F.entry_list_extend (F.args_list_extend_2 _ _)
  (AutoSeq1.list_extend_list_list_0 l its.toArray n b its2.toArray n2 hlong (by rw [List.size_toArray];omega) (by omega)) ⟨e,e2,?_⟩
 refine ⟨.non,_,I.lset (its':=its++its2) hH e (by simp) (r.append r2) ?_,rfl,q⟩
 rw [List.length_append]
 omega
def rPop:V->List V->Hp->VK->Prop:=fun x vs H Q=>∃ l xs y,x=.ref l/\vs=[]/\H l=some (.lst xs)/\xs[xs.length - 1]?=some y/\Q y (upd H l (.lst xs.dropLast))
theorem mt_pop:MtM X "list.pop" rPop:=by
 intro pins s σ H x vs v us Q I rx rv h
 obtain ⟨l,xs,y,rfl,rfl,hH,hy,q⟩:=h
 cases rx
 have hus:=rv.zero
 subst hus
 obtain ⟨z,its,n,r,hl,e⟩:=I.lstM hH
 obtain ⟨u,hu,ru⟩:=r.get hy
 have hy':its.toArray[its.toArray.size - 1]?=some u:=by
  show its.toArray[its.length - 1]?=some u
  rw [<- Array.getElem?_toList,<- hl]
  exact hu
 refine call_meets F.slot_list_pop ⟨_,e,rfl⟩ F.entry_list_pop (F.args_list_pop_1 _) (MeetsSeq.list_pop_last l its.toArray n u hy' (by rw [List.size_toArray];omega)) ⟨e,?_⟩
 refine ⟨y,_,I.lset (its':=its.dropLast) hH e ?_ r.dropLast ?_,ru,q⟩
 ·show its.toArray.eraseIdxIfInBounds (its.toArray.size - 1)=its.dropLast.toArray
  rw [List.size_toArray,List.eraseIdxIfInBounds_toArray,erase_last]
 ·rw [List.length_dropLast]
  omega
def rCat:R2:=fun x y H Q=>∃ l b xs zs,x=.ref l/\y=.ref b/\H l=some (.lst xs)/\H b=some (.lst zs)/\xs.length+zs.length<=sizeLine/\∀ p,H p=none->Q (.ref p) (upd H p (.lst (xs++zs)))
theorem op_cat:OpR X (binaryOp .Add) rCat:=by
 intro pins s σ H x y v u Q I rx ry h
 obtain ⟨l,b,xs,zs,rfl,rfl,hH,hB,hz,q⟩:=h
 cases rx
 cases ry
 obtain ⟨z,its,n,r,hl,e⟩:=I.lstM hH
 obtain ⟨z2,its2,n2,r2,hl2,e2⟩:=I.lstM hB
 refine PySem.P.add_list e e2 ?_ (by rw [List.size_toArray,List.size_toArray];omega)
 have ea:its.toArray++its2.toArray=(its++its2).toArray:=by simp
 rw [ea]
 exact ⟨.ref _,_,I.lnew (t':=s.toks) (r.append r2) (by rw [List.length_append];omega),rfl,q _ I.fresh⟩
end
section
variable {prog:Program}{w:World}{A:Around}{E:Value->Shared->Prop}{s:Shared}
end
section
variable {X:Cx}
end
end L2
namespace L2
open PySem PySem.Spec PyProof.Rows
section
variable {κ:Type}[DecidableEq κ]
def valV (kvs:List (κ × V))(k:κ):Option V:=(kvs.find? fun kv=>decide (kv.1=k)).map (·.2)
def putK (kvs:List (κ × V))(k:κ)(v:V):List (κ × V) :=
 if (kvs.any fun kv=>decide (kv.1=k))=true then kvs.map (fun kv=>if kv.1=k then (kv.1,v) else kv) else kvs++[(k,v)]
theorem valV_pos {p:κ × V}{r:List (κ × V)}{k:κ}(e:p.1=k):valV (p::r) k=some p.2:=by simp [valV,List.find?_cons,e]
theorem valV_neg {p:κ × V}{r:List (κ × V)}{k:κ}(e:¬ p.1=k):valV (p::r) k=valV r k:=by simp [valV,List.find?_cons,e]
theorem valV_any (k:κ):∀ kvs:List (κ × V),(kvs.any fun kv=>decide (kv.1=k))=(valV kvs k).isSome
 | []=>rfl
 | p::r=>by
  rw [List.any_cons]
  by_cases e:p.1=k
  ·simp only [valV_pos e,decide_eq_true e,Bool.true_or,Option.isSome_some]
  ·rw [valV_neg e,decide_eq_false e,Bool.false_or];exact valV_any k r
theorem valV_map (k j:κ)(y:V):∀ kvs:List (κ × V),valV (kvs.map fun kv=>if kv.1=k then (kv.1,y) else kv) j=(valV kvs j).map fun x=>if j=k then y else x
 | []=>rfl
 | p::r=>by
  have ih:=valV_map k j y r
  rw [List.map_cons]
  by_cases h:p.1=k
  ·rw [if_pos h]
   by_cases e:p.1=j
   ·rw [valV_pos (p:=(p.1,y)) e,valV_pos e,Option.map_some,if_pos (e.symm.trans h)]
   ·rw [valV_neg (p:=(p.1,y)) e,valV_neg e,ih]
  ·rw [if_neg h]
   by_cases e:p.1=j
   ·rw [valV_pos (p:=p) e,valV_pos e,Option.map_some,if_neg (fun z=>h (e.trans z))]
   ·rw [valV_neg (p:=p) e,valV_neg e,ih]
theorem valV_snoc (k j:κ)(y:V):∀ kvs:List (κ × V),valV kvs k=none->valV (kvs++[(k,y)]) j=if j=k then some y else valV kvs j
 | [],_=>by
  by_cases e:k=j
  ·rw [if_pos e.symm];exact valV_pos (p:=(k,y)) e
  ·rw [if_neg (fun z=>e z.symm)];exact valV_neg (p:=(k,y)) e
 | p::r,hn=>by
  rw [List.cons_append]
  have hk:¬ p.1=k:=fun z=>by rw [valV_pos z] at hn;cases hn
  rw [valV_neg hk] at hn
  have ih:=valV_snoc k j y r hn
  by_cases e:p.1=j
  ·rw [valV_pos e,valV_pos e,if_neg (fun z=>hk (e.trans z))]
  ·rw [valV_neg e,valV_neg e,ih]
theorem valV_put (kvs:List (κ × V))(k j:κ)(y:V):valV (putK kvs k y) j=if j=k then some y else valV kvs j:=by
 unfold putK
 by_cases a:(kvs.any fun kv=>decide (kv.1=k))=true
 ·rw [if_pos a,valV_map]
  rw [valV_any] at a
  by_cases e:j=k
  ·obtain ⟨x,hx⟩:=Option.isSome_iff_exists.mp a
   rw [if_pos e,e,hx,Option.map_some,if_pos rfl]
  ·rw [if_neg e]
   cases valV kvs j with
   | none=>rfl
   | some x=>rw [Option.map_some,if_neg e]
 ·rw [if_neg a]
  refine valV_snoc k j y kvs ?_
  rw [valV_any] at a
  cases q:valV kvs k with
  | none=>rfl
  | some x=>rw [q] at a;exact (a rfl).elim
theorem length_putK (kvs:List (κ × V))(k:κ)(v:V):(putK kvs k v).length<=kvs.length+1:=by
 unfold putK
 split
 ·rw [List.length_map];omega
 ·rw [List.length_append,List.length_cons,List.length_nil];omega
theorem putK_new {kvs:List (κ × V)}{k:κ}(v:V)(h:valV kvs k=none):putK kvs k v=kvs++[(k,v)]:=by
 unfold putK
 rw [valV_any,h]
 exact if_neg (by decide)
theorem RelO.isSome_eq {o:Option V}{u:Option Value}(r:RelO o u):o.isSome=u.isSome:=by
 cases o with
 | none=>cases u with
  | none=>rfl
  | some _=>exact (show False from r).elim
 | some _=>cases u with
  | none=>exact (show False from r).elim
  | some _=>rfl
theorem RelO.getD {o:Option V}{u:Option Value}{d:V}{d':Value}(r:RelO o u)(rd:RelV d d'):RelV (o.getD d) (u.getD d'):=by
 cases o with
 | none=>cases u with
  | none=>exact rd
  | some _=>exact (show False from r).elim
 | some _=>cases u with
  | none=>exact (show False from r).elim
  | some _=>exact r
theorem KV.val {kvs:List (κ × V)}{vs:List (κ × Value)}(r:KV kvs vs)(k:κ):RelO (valV kvs k) (valueAt vs k):=by
 unfold KV at r
 induction r with
 | nil=>exact True.intro
 | @cons p q ps qs h t ih =>
  obtain ⟨h1,h2⟩:=h
  by_cases e:p.1=k
  ·have e':q.1=k:=h1.symm.trans e
   have b:valueAt (q::qs) k=some q.2:=by simp [valueAt,List.find?_cons,e']
   rw [valV_pos e,b];exact h2
  ·have e':¬ q.1=k:=fun z=>e (h1.trans z)
   have b:valueAt (q::qs) k=valueAt qs k:=by simp [valueAt,List.find?_cons,e']
   rw [valV_neg e,b];exact ih
theorem KV.any {kvs:List (κ × V)}{vs:List (κ × Value)}(r:KV kvs vs)(k:κ):(kvs.any fun kv=>decide (kv.1=k))=vs.any fun kv=>decide (kv.1=k):=by
 unfold KV at r
 induction r with
 | nil=>rfl
 | cons h t ih=>rw [List.any_cons,List.any_cons,ih,h.1]
theorem KV.repl {kvs:List (κ × V)}{vs:List (κ × Value)}(r:KV kvs vs)(k:κ){y:V}{u:Value}(ry:RelV y u):
  KV (kvs.map fun kv=>if kv.1=k then (kv.1,y) else kv) (vs.map fun kv=>if kv.1=k then (kv.1,u) else kv):=by
 unfold KV at r ⊢
 induction r with
 | nil=>exact .nil
 | @cons p q ps qs h t ih =>
  rw [List.map_cons,List.map_cons]
  refine .cons ?_ ih
  obtain ⟨h1,h2⟩:=h
  by_cases e:p.1=k
  ·rw [if_pos e,if_pos (h1.symm.trans e)];exact ⟨h1,ry⟩
  ·rw [if_neg e,if_neg (fun z=>e (h1.trans z))];exact ⟨h1,h2⟩
theorem KV.put {kvs:List (κ × V)}{vs:List (κ × Value)}(r:KV kvs vs)(k:κ){y:V}{u:Value}(ry:RelV y u):KV (putK kvs k y) (stored vs k u):=by
 unfold putK stored
 rw [r.any k]
 by_cases e:(vs.any fun kv=>decide (kv.1=k))=true
 ·rw [if_pos e,if_pos e];exact r.repl k ry
 ·rw [if_neg e,if_neg e];exact Paired.snoc r ⟨rfl,ry⟩
theorem KV.length {kvs:List (κ × V)}{vs:List (κ × Value)}(r:KV kvs vs):kvs.length=vs.length:=Paired.length r
end
theorem kV_is {P:Program}{w:World}{k:Key}{u:Value}(r:RelV (kV k) u):(mixKind P w).is k u=true:=by
 cases k with
 | inl i=>obtain ⟨t,e⟩:=(show ∃ t,u=Value.int i t from r);subst e;exact mixKind_int P w i t
 | inr x=>obtain ⟨t,e⟩:=(show ∃ t,u=Value.str x t from r);subst e;exact mixKind_str P w x t
theorem items_are {P:Program}{w:World}:∀ {ks:List Key} {us:List Value},Vals (ks.map kV) us->ItemsAre (mixKind P w) ks us
 | [],_,r=>by rw [List.map_nil] at r;cases r;exact .nil
 | k::ks,_,r=>by
  rw [List.map_cons] at r
  cases r with
  | cons h t=>exact .cons (kV_is h) (items_are t)
abbrev KT (H:Hp):List (List Key × V)->List (List Key × Addr × Value)->Prop:=Paired fun p q=>p.1=q.1/\H q.2.1=some (.tup (p.1.map kV))/\RelV p.2 q.2.2
theorem KT.val {H:Hp}{kvs:List (List Key × V)}{xs:List (List Key × Addr × Value)}(r:KT H kvs xs)(k:List Key):RelO (valV kvs k) ((atKey xs k).map (·.2)):=by
 induction r with
 | nil=>exact True.intro
 | @cons p q ps qs h t ih =>
  obtain ⟨h1,_,h2⟩:=h
  by_cases e:p.1=k
  ·have e':q.1=k:=h1.symm.trans e
   have b:atKey (q::qs) k=some q.2:=by simp [atKey,List.find?_cons,e']
   rw [valV_pos e,b];exact h2
  ·have e':¬ q.1=k:=fun z=>e (h1.trans z)
   have b:atKey (q::qs) k=atKey qs k:=by simp [atKey,List.find?_cons,e']
   rw [valV_neg e,b];exact ih
theorem KT.repl {H:Hp}{kvs:List (List Key × V)}{xs:List (List Key × Addr × Value)}(r:KT H kvs xs)(k:List Key){y:V}{u:Value}(ry:RelV y u):
  KT H (kvs.map fun kv=>if kv.1=k then (kv.1,y) else kv) (xs.map (putAt k u)):=by
 induction r with
 | nil=>exact .nil
 | @cons p q ps qs h t ih =>
  rw [List.map_cons,List.map_cons]
  refine .cons ?_ ih
  obtain ⟨h1,h2,h3⟩:=h
  unfold putAt
  by_cases e:p.1=k
  ·rw [if_pos e,if_pos (h1.symm.trans e)];exact ⟨h1,h2,ry⟩
  ·rw [if_neg e,if_neg (fun z=>e (h1.trans z))];exact ⟨h1,h2,h3⟩
theorem KT.put {H:Hp}{kvs:List (List Key × V)}{xs:List (List Key × Addr × Value)}(r:KT H kvs xs)(k:List Key){b:Addr}{y:V}{u:Value}(hb:H b=some (.tup (k.map kV)))(ry:RelV y u):
  KT H (putK kvs k y) (storedH xs k b u):=by
 have e:(kvs.any fun kv=>decide (kv.1=k))=(atKey xs k).isSome:=by
  rw [valV_any,(r.val k).isSome_eq,Option.isSome_map]
 unfold putK storedH
 rw [e]
 by_cases q:(atKey xs k).isSome=true
 ·rw [if_pos q,if_pos q];exact r.repl k ry
 ·rw [if_neg q,if_neg q];exact Paired.snoc r ⟨rfl,hb,ry⟩
theorem KT.keeps {H H':Hp}{kvs:List (List Key × V)}{xs:List (List Key × Addr × Value)}(r:KT H kvs xs)(ht:∀ b ys,H b=some (.tup ys)->H' b=some (.tup ys)):KT H' kvs xs :=
 Paired.mapP r fun _ _ z=>⟨z.1,ht _ _ z.2.1,z.2.2⟩
section
variable {P:Program}{w:World}{H:Hp}{h:Heap}{a:Addr}
theorem rd_of {u:HO}(ok:HOk P w H h)(e:Rd H a u):ObjOk P w H h a u:=e.ok ok
theorem dk_rd {kvs:List (Key × V)}(ok:HOk P w H h)(e:Rd H a (.dK kvs)):kvs.length<=sizeLine/\(a==sysModules)=false/\∃ vs,KV kvs vs/\h.DictOf (mixKind P w) a vs :=
 show ObjOk P w H h a (.dK kvs) from rd_of ok e
theorem dk_of {kvs:List (Key × V)}(ok:HOk P w H h)(e:H a=some (.dK kvs)):kvs.length<=sizeLine/\(a==sysModules)=false/\∃ vs,KV kvs vs/\h.DictOf (mixKind P w) a vs:=dk_rd ok (.inl e)
theorem key_of {ks:List Key}(ok:HOk P w H h)(e:H a=some (.tup (ks.map kV))):(tupleKind (mixKind P w)).is h ks a:=by
 obtain ⟨_,its,r,o,h1,h2,n,h3⟩:=(show ObjOk P w H h a (.tup (ks.map kV)) from ok a _ e)
 exact ⟨o,its.toArray,n,h1,h2,h3,by simpa using items_are r⟩
theorem dt_rd {kvs:List (List Key × V)}(ok:HOk P w H h)(e:Rd H a (.dT kvs)):kvs.length<=sizeLine/\(a==sysModules)=false /\
  ∃ xs,KT H kvs xs/\h.DictOfH (tupleKind (mixKind P w)) a xs:=by
 obtain ⟨z,y,xs,r,o,es,ep,h1,h2,h3,h4,h5⟩:=(show ObjOk P w H h a (.dT kvs) from rd_of ok e)
 refine ⟨z,y,xs,r,o,es,ep,h1,h2,h3,h4,fun x hx=>?_,h5⟩
 have all:∀ {l:List (List Key × V)} {m:List (List Key × Addr × Value)},KT H l m->∀ x∈m,(tupleKind (mixKind P w)).is h x.1 x.2.1:=by
  intro l m q
  induction q with
  | nil=>intro x hx;exact nomatch hx
  | @cons p q ps qs hq t ih =>
   intro x hx
   rcases List.mem_cons.mp hx with e | hx
   ·subst e
    exact key_of ok (by rw [<- hq.1];exact hq.2.1)
   ·exact ih x hx
 exact all r x hx
theorem dt_of {kvs:List (List Key × V)}(ok:HOk P w H h)(e:H a=some (.dT kvs)):kvs.length<=sizeLine/\(a==sysModules)=false /\
  ∃ xs,KT H kvs xs/\h.DictOfH (tupleKind (mixKind P w)) a xs:=dt_rd ok (.inl e)
end
def DGet (H:Hp)(a:Addr)(y:V)(r:Option V):Prop :=
 (∃ kvs k,Rd H a (.dK kvs)/\y=kV k/\r=valV kvs k)\/∃ kvs k b,Rd H a (.dT kvs)/\y=.ref b/\H b=some (.tup (k.map kV))/\r=valV kvs k
def DPut (H:Hp)(a:Addr)(y v:V)(H':Hp):Prop :=
 (∃ kvs k,H a=some (.dK kvs)/\y=kV k/\kvs.length < sizeLine/\H'=upd H a (.dK (putK kvs k v))) \/
 ∃ kvs k b,H a=some (.dT kvs)/\y=.ref b/\H b=some (.tup (k.map kV))/\kvs.length < sizeLine/\H'=upd H a (.dT (putK kvs k v))
theorem DGet.k {H:Hp}{a:Addr}{kvs:List (Key × V)}{k:Key}(e:H a=some (.dK kvs)):DGet H a (kV k) (valV kvs k):=.inl ⟨kvs,k,.inl e,rfl,rfl⟩
theorem DPut.k {H:Hp}{a:Addr}{kvs:List (Key × V)}{k:Key}{v:V}(e:H a=some (.dK kvs))(hl:kvs.length < sizeLine):DPut H a (kV k) v (upd H a (.dK (putK kvs k v))):=.inl ⟨kvs,k,e,rfl,hl,rfl⟩
section
variable {X:Cx}{pins:List (Addr × Obj)}{σ:St}{H:Hp}{s:Shared}{a:Addr}{y v:V}{u r:Value}{o:Option V}{A:Around}{E:Value->Shared->Prop}
theorem Inv.big (I:Inv X pins σ H s):sysModules < s.heap.objs.size:=by
 have h:mainGlobals < s.heap.objs.size:=(I.mod.glob.keeps I.bk).lt
 exact Nat.lt_trans (by decide) h
theorem d_getItem {Q:Value->Shared->Prop}(hu:A.units+1 < cLine)(I:Inv X pins σ H s)(g:DGet H a y (some v))(ry:RelV y u)(h:∀ w' s',Inv X pins σ H s'->RelV v w'->Q w' s'):
  wpAny (model X.prog X.w) A (getItem (.ref a) u) Q E s:=by
 rcases g with ⟨kvs,k,e,ey,l⟩ | ⟨kvs,k,b,e,ey,eb,l⟩
 ·subst ey
  obtain ⟨z,hd,vs,rel,dd⟩:=dk_rd I.hok e
  obtain ⟨w',hw,rw'⟩:=RelO.some_of (v:=v) (o:=valueAt vs k) (by rw [l];exact rel.val k)
  exact wpAny_getItem_of (kV_is ry) dd.mapOf hw (h w' _ (I.tok _) rw')
 ·subst ey
  cases (show u=Value.ref b from ry)
  obtain ⟨z,hd,xs,rel,dd⟩:=dt_rd I.hok e
  obtain ⟨w',hw,rw'⟩:=RelO.some_of (v:=v) (o:=(atKey xs k).map (·.2)) (by rw [l];exact rel.val k)
  obtain ⟨p,hp,hp2⟩:=Option.map_eq_some_iff.mp hw
  refine wpAny_getItem_heap (tupleKind_room_in1 hu) (key_of I.hok eb) dd hp ?_
  rw [hp2]
  exact h w' _ (I.tok _) rw'
theorem d_in {Q:Value->Shared->Prop}(hu:A.units+1 < cLine)(I:Inv X pins σ H s)(g:DGet H a y o)(ry:RelV y u)(h:∀ s',Inv X pins σ H s'->Q (.bool o.isSome) s'):
  wpAny (model X.prog X.w) A (compareOp .In u (.ref a)) Q E s:=by
 rcases g with ⟨kvs,k,e,ey,l⟩ | ⟨kvs,k,b,e,ey,eb,l⟩
 ·subst ey
  obtain ⟨z,hd,vs,rel,dd⟩:=dk_rd I.hok e
  refine wpAny_in_of (kV_is ry) hd dd.mapOf ?_
  rw [<- (rel.val k).isSome_eq,<- l]
  exact h _ (I.tok _)
 ·subst ey
  cases (show u=Value.ref b from ry)
  obtain ⟨z,hd,xs,rel,dd⟩:=dt_rd I.hok e
  refine wpAny_in_heap (tupleKind_room_in1 hu) (key_of I.hok eb) hd dd ?_
  have q:=(rel.val k).isSome_eq
  rw [Option.isSome_map] at q
  rw [<- q,<- l]
  exact h _ (I.tok _)
theorem d_notIn {Q:Value->Shared->Prop}(hu:A.units+1 < cLine)(I:Inv X pins σ H s)(g:DGet H a y o)(ry:RelV y u)(h:∀ s',Inv X pins σ H s'->Q (.bool (!o.isSome)) s'):
  wpAny (model X.prog X.w) A (compareOp .NotIn u (.ref a)) Q E s:=by
 rcases g with ⟨kvs,k,e,ey,l⟩ | ⟨kvs,k,b,e,ey,eb,l⟩
 ·subst ey
  obtain ⟨z,hd,vs,rel,dd⟩:=dk_rd I.hok e
  refine wpAny_notIn_of (kV_is ry) hd dd.mapOf ?_
  rw [<- (rel.val k).isSome_eq,<- l]
  exact h _ (I.tok _)
 ·subst ey
  cases (show u=Value.ref b from ry)
  obtain ⟨z,hd,xs,rel,dd⟩:=dt_rd I.hok e
  refine wpAny_notIn_heap (tupleKind_room_in1 hu) (key_of I.hok eb) hd dd ?_
  have q:=(rel.val k).isSome_eq
  rw [Option.isSome_map] at q
  rw [<- q,<- l]
  exact h _ (I.tok _)
theorem d_write {h':Heap}{t':Nat}{ob:HO}(I:Inv X pins σ H s)(mu:Mut (H a))(hs:Heap.SameBut a s.heap h')(he:∃ q,h'.get? a=some q)(new:ObjOk X.prog X.w (upd H a ob) h' a ob):
  Inv X pins σ (upd H a ob) { s with heap:=h',toks:=t' } :=
 I.write (x:=a) (e:=a) mu (.inl rfl) (fun b q hb z=>(hs.2 b hb).trans z) he new
theorem dk_new {P:Program}{w:World}{H':Hp}{h':Heap}{kvs:List (Key × V)}{vs:List (Key × Value)}(z:kvs.length<=sizeLine)(hd:(a==sysModules)=false)(rel:KV kvs vs)(dd:h'.DictOf (mixKind P w) a vs):
  ObjOk P w H' h' a (.dK kvs):=⟨z,hd,vs,rel,dd⟩
theorem d_setItem {H':Hp}{Q:Unit->Shared->Prop}(hu:A.units+1 < cLine)(I:Inv X pins σ H s)(g:DPut H a y v H')(ry:RelV y u)(rv:RelV v r)(h:∀ s',Inv X pins σ H' s'->Q () s'):
  wpAny (model X.prog X.w) A (setItem (.ref a) u r) Q E s:=by
 rcases g with ⟨kvs,k,e,ey,l,eH⟩ | ⟨kvs,k,b,e,ey,eb,l,eH⟩
 ·subst ey eH
  obtain ⟨z,hd,vs,rel,dd⟩:=dk_of I.hok e
  have hz:vs.length<=sizeLine:=by rw [<- rel.length];exact z
  have hl:(putK kvs k v).length<=sizeLine:=by have:=length_putK kvs k v;omega
  refine wpAny_setItem_pairs (hsz:=hz) (kV_is ry) dd fun h' dd' hs=>h _ ?_
  have he:∃ q,h'.get? a=some q:=let ⟨q,_,_,hq,_⟩:=dd';⟨q,hq⟩
  exact d_write I (by rw [e];exact True.intro) hs he (dk_new hl hd (rel.put k rv) dd')
 ·subst ey eH
  cases (show u=Value.ref b from ry)
  obtain ⟨z,hd,xs,rel,dd⟩:=dt_of I.hok e
  have hz:xs.length<=sizeLine:=by rw [<- Paired.length rel];exact z
  have hl:(putK kvs k v).length<=sizeLine:=by have:=length_putK kvs k v;omega
  refine wpAny_setItem_heap (hsz:=hz) (tupleKind_room_in1 hu) (key_of I.hok eb) dd fun h' dd' hs=>h _ ?_
  obtain ⟨q,es,ep,hq,h2,h3,h4,_,h5⟩:=dd'
  refine d_write I (by rw [e];exact True.intro) hs ⟨q,hq⟩ ⟨hl,hd,_,(rel.put k eb rv).keeps fun c ys ec=>?_,q,es,ep,hq,h2,h3,h4,h5⟩
  rw [upd_ne (ne_of ec e (fun z=>nomatch z))]
  exact ec
end
section
variable {X:Cx}{pins:List (Addr × Obj)}{σ:St}{H:Hp}{s:Shared}{a:Addr}{kvs:List (Key × V)}{k:Key}{u:Value}{A:Around}{E:Value->Shared->Prop}
end
def NoSl (i:Expr):Prop:=∀ ov iv,subscripted i false ov iv=operate [ov,iv] (getItem ov iv)
theorem subD_of {prog:Program}{w:World}{A:Around}{E:Value->Shared->Prop}{s:Shared}{env:Env}{value slice:Expr}{pos:Pos}{T id:String}{Q:Value->Shared->Prop}
  (hl:typeLookup (.type T) "__getitem__"=pure (some (.builtin id))) (hs:NoSl slice)
  (h:wpAny (model prog w) A (eval value env) (fun o s₁=>wpAny (model prog w) A (eval slice env) (fun i s₂=>s₂.TypeIs o T/\wpAny (model prog w) A (getItem o i) Q E s₂) E s₁) E s) :
  wpAny (model prog w) A (eval (.Subscript value slice pos) env) Q E s:=by
 refine Subscript_ (wpAny_mono h (fun o s₁ h₁=>wpAny_mono h₁ (fun i s₂ h₂=>?_) fun _ _ x=>x) fun _ _ x=>x)
 obtain ⟨hT,h₂⟩:=h₂
 unfold subscriptTail
 refine wpAny_bind ?_
 rw [getitemInPython_of_ne hT.not_modules]
 refine wpAny_bind (wpAny_specialOf hT hl ?_)
 have fin:wpAny (model prog w) A (subscripted slice false o i) (fun r s₃=>wpAny (model prog w) A (letTemporaryGo value o r >>= fun _=>pure r) Q E s₃) E s₂:=by
  rw [hs o i]
  exact wpAny_operating (wpAny_mono h₂ (fun r s₃ h₃=>wpAny_bind (wpAny_letTemporaryGo (wpAny_pure h₃))) fun _ _ x=>x)
 first
  | exact wpAny_pure (wpAny_bind fin)
  | exact wpAny_bind (wpAny_pure (wpAny_bind fin))
  | exact wpAny_bind fin
theorem dict_typeIs {X:Cx}{pins:List (Addr × Obj)}{σ:St}{H:Hp}{s:Shared}{a:Addr}{y:V}{o:Option V}(I:Inv X pins σ H s)(g:DGet H a y o):s.TypeIs (.ref a) "dict":=by
 rcases g with ⟨kvs,k,e,_,_⟩ | ⟨kvs,k,b,e,_,_,_⟩
 ·obtain ⟨_,_,vs,_,dd⟩:=dk_rd I.hok e
  exact dd.typeIs
 ·obtain ⟨_,_,xs,_,dd⟩:=dt_rd I.hok e
  exact dd.typeIs
def tDGet (td ty:TE):TE:=fun σ H Q=>td σ H fun x H1=>ty σ H1 fun y H2=>∃ a v,x=.ref a/\DGet H2 a y (some v)/\Q v H2
def tDIn (ty td:TE):TE:=fun σ H Q=>ty σ H fun y H1=>td σ H1 fun x H2=>∃ a o,x=.ref a/\DGet H2 a y o/\Q (.bl o.isSome) H2
def tDNotIn (ty td:TE):TE:=fun σ H Q=>ty σ H fun y H1=>td σ H1 fun x H2=>∃ a o,x=.ref a/\DGet H2 a y o/\Q (.bl (!o.isSome)) H2
def sDPut (td ty tv:TE):TS:=fun D σ H=>tv σ H fun v H1=>td σ H1 fun x H2=>ty σ H2 fun y H3=>∃ a H4,x=.ref a/\DPut H3 a y v H4/\D.nx σ H4
section
variable {X:Cx}{o i e value:Expr}{pos pos' tpos:Pos}{td ty tv:TE}
theorem pe_dget (hu:X.A.units+1 < cLine)(ho:PE X o td)(hi:PE X i ty)(hs:NoSl i):PE X (.Subscript o i pos) (tDGet td ty):=by
 intro pins s σ H Q I h
 refine subD_of PySem.F.slot_dict_getitem.lookup hs (thn (ho pins s σ H _ I h) fun u s1 ⟨x,H1,I1,rx,q1⟩=>thn (hi pins s1 σ H1 _ I1 q1) fun iv s2 ⟨y,H2,I2,ry,a,v,ex,g,q2⟩=>?_)
 subst ex
 obtain rfl:u=Value.ref a:=rx
 exact ⟨dict_typeIs I2 g,d_getItem hu I2 g ry fun w' s3 I3 rw'=>⟨v,H2,I3,rw',q2⟩⟩
theorem pc_din (hu:X.A.units+1 < cLine)(hi:PE X i ty)(ho:PE X o td):PC X .In i o (tDIn ty td):=by
 intro pins s σ H Q I h
 refine thn (hi pins s σ H _ I h) fun iv s1 ⟨y,H1,I1,ry,q1⟩=>thn (ho pins s1 σ H1 _ I1 q1) fun u s2 ⟨x,H2,I2,rx,a,ov,ex,g,q2⟩=>?_
 subst ex
 obtain rfl:u=Value.ref a:=rx
 exact d_in hu I2 g ry fun s3 I3=>⟨.bl ov.isSome,H2,I3,rfl,q2⟩
theorem pc_dnotin (hu:X.A.units+1 < cLine)(hi:PE X i ty)(ho:PE X o td):PC X .NotIn i o (tDNotIn ty td):=by
 intro pins s σ H Q I h
 refine thn (hi pins s σ H _ I h) fun iv s1 ⟨y,H1,I1,ry,q1⟩=>thn (ho pins s1 σ H1 _ I1 q1) fun u s2 ⟨x,H2,I2,rx,a,ov,ex,g,q2⟩=>?_
 subst ex
 obtain rfl:u=Value.ref a:=rx
 exact d_notIn hu I2 g ry fun s3 I3=>⟨.bl (!ov.isSome),H2,I3,rfl,q2⟩
theorem ps_dput (hu:X.A.units+1 < cLine)(ho:PE X o td)(hi:PE X i ty)(hv:PE X value tv)(hs:swapsWith value (some (.Subscript o i pos')) pos.line X.env=pure false):
  PS X (.Assign [.Subscript o i pos'] value pos) (sDPut td ty tv):=by
 intro pins s σ H D I h
 refine wpAny_Assign_Subscript (thn (hv pins s σ H _ I h) fun r s1 ⟨v,H1,I1,rv,q1⟩=>thn (ho pins s1 σ H1 _ I1 q1) fun u s2 ⟨x,H2,I2,rx,q2⟩=>thn (hi pins s2 σ H2 _ I2 q2) fun iv s3 ⟨y,H3,I3,ry,a,H4,ex,g,q3⟩=>?_) hs
 subst ex
 obtain rfl:u=Value.ref a:=rx
 exact d_setItem hu I3 g ry rv fun s4 I4=>⟨σ,H4,I4,q3⟩
end
theorem dk_empty {P:Program}{w:World}{H:Hp}(h:Heap)(hb:sysModules < h.objs.size):ObjOk P w H (h.push { cls:=.type "dict",data:=.dict #[] }) h.objs.size (.dK []) :=
 ⟨Nat.zero_le _,beq_eq_false_iff_ne.mpr (Ne.symm (Nat.ne_of_lt hb)),[],.nil,Heap.DictOf.new h⟩
def tDNewK:TE:=fun _ H Q=>∀ p,H p=none->Q (.ref p) (upd H p (.dK []))
section
variable {X:Cx}{pos:Pos}
theorem pe_dnewK:PE X (.Dict [] [] pos) tDNewK:=fun pins s σ H Q I h =>
 wpAny_Dict_empty ⟨.ref s.heap.objs.size,_,I.laid (a:=s.heap.objs.size) (o:=.dK []) (t':=s.toks) (fun _ _ q=>Heap.get?_push_of_some _ q) (Nat.le_refl _) (dk_empty s.heap I.big),rfl,h _ (I.hok.fresh (Nat.le_refl _))⟩
end
def tPairs:List (TE × TE)->St->Hp->(List (V × V)->Hp->Prop)->Prop
 | [],_,H,Q=>Q [] H
 | (tk,tv)::r,σ,H,Q=>tk σ H fun x H1=>tv σ H1 fun y H2=>tPairs r σ H2 fun ps H3=>Q ((x,y)::ps) H3
abbrev VV:List (V × V)->List (Value × Value)->Prop:=Paired fun p q=>RelV p.1 q.1/\RelV p.2 q.2
def PPs (X:Cx)(pos:Pos)(keys:List (Option Expr))(values:List Expr)(trs:List (TE × TE)):Prop :=
 ∀ (pins:List (Addr × Obj)) (s:Shared) (σ:St) (H:Hp) (Q:List (V × V)->Hp->Prop),Inv X pins σ H s->tPairs trs σ H Q ->
  wpAny (model X.prog X.w) X.A (evalPairs (pairTrees keys values X.env pos)) (fun vs s'=>∃ ps H',Inv X pins σ H' s'/\VV ps vs/\Q ps H') X.xe s
theorem pps_nil {X:Cx}{pos:Pos}:PPs X pos [] [] []:=fun pins s σ H Q I h=>pairTrees_nil_walk ⟨[],H,I,.nil,h⟩
theorem pps_cons {X:Cx}{pos:Pos}{k v:Expr}{ks:List (Option Expr)}{vs:List Expr}{tk tv:TE}{trs:List (TE × TE)}(hk:PE X k tk)(hv:PE X v tv)(hr:PPs X pos ks vs trs):
  PPs X pos (some k::ks) (v::vs) ((tk,tv)::trs):=fun pins s σ H Q I h =>
 pairTrees_cons_walk (thn (hk pins s σ H _ I h) fun u s1 ⟨x,H1,I1,rx,q1⟩=>thn (hv pins s1 σ H1 _ I1 q1) fun w2 s2 ⟨y,H2,I2,ry,q2⟩ =>
  thn (hr pins s2 σ H2 _ I2 q2) fun ws s3 ⟨ps,H3,I3,rel,q3⟩=>⟨(x,y)::ps,H3,I3,.cons ⟨rx,ry⟩ rel,q3⟩)
def mergeK (kvs more:List (Key × V)):List (Key × V):=more.foldl (fun acc kv=>putK acc kv.1 kv.2) kvs
theorem KV.merge:∀ {more:List (Key × V)} {rs:List (Key × Value)} {kvs:List (Key × V)} {vs:List (Key × Value)},KV more rs->KV kvs vs->KV (mergeK kvs more) (merged vs rs):=by
 intro more rs kvs vs r
 unfold KV at r
 induction r generalizing kvs vs with
 | nil=>intro q;exact q
 | @cons p q ps qs h t ih =>
  intro r0
  have e:KV (putK kvs p.1 p.2) (stored vs q.1 q.2):=by
   have:=r0.put p.1 h.2
   rw [<- h.1];exact this
  exact ih e
theorem length_mergeK:∀ (more kvs:List (Key × V)),(mergeK kvs more).length<=kvs.length+more.length
 | [],kvs=>by show kvs.length<=kvs.length+0;omega
 | p::r,kvs=>by
  have h1:=length_mergeK r (putK kvs p.1 p.2)
  have h2:=length_putK kvs p.1 p.2
  show (mergeK (putK kvs p.1 p.2) r).length<=_
  rw [List.length_cons];omega
theorem carries_of {P:Program}{w:World}:∀ {kvs:List (Key × V)} {ws:List (Value × Value)},VV (kvs.map fun kv=>(kV kv.1,kv.2)) ws->∃ rs,Carries (mixKind P w) ws rs/\KV kvs rs
 | [],_,r=>by rw [List.map_nil] at r;cases r;exact ⟨[],True.intro,.nil⟩
 | p::kvs,_,r=>by
  rw [List.map_cons] at r
  cases r with
  | @cons a b as bs h t =>
   obtain ⟨rs,c,q⟩:=carries_of (P:=P) (w:=w) t
   obtain ⟨b1,b2⟩:=b
   exact ⟨(p.1,b2)::rs,⟨kV_is h.1,rfl,c⟩,.cons ⟨rfl,h.2⟩ q⟩
def tDisp (trs:List (TE × TE)):TE:=fun σ H Q=>∀ p,H p=none->tPairs trs σ (upd H p (.dK [])) fun ps H2=>H2 p=some (.dK [])/\∃ kvs:List (Key × V),ps=kvs.map (fun kv=>(kV kv.1,kv.2))/\kvs.length<=15/\Q (.ref p) (upd H2 p (.dK (mergeK [] kvs)))
theorem pe_disp {X:Cx}{pos:Pos}{keys:List (Option Expr)}{values:List Expr}{trs:List (TE × TE)}(h:PPs X pos keys values trs)(hall:keys.all (·.isSome)=true)(hl:keys.length=values.length)(h0:keys≠[])
  (h15:keys.length<=15):PE X (.Dict keys values pos) (tDisp trs):=by
 intro pins s σ H Q I q
 have hn:=I.hok.fresh (Nat.le_refl s.heap.objs.size)
 have I1:=I.laid (a:=s.heap.objs.size) (o:=.dK []) (h':=s.heap.push { cls:=.type "dict",data:=.dict #[] }) (t':=s.toks) (fun _ _ q=>Heap.get?_push_of_some _ q) (Nat.le_refl _) (dk_empty s.heap I.big)
 refine wpAny_Dict_walk (knd:=mixKind X.prog X.w) hall hl h0 h15 (thn (h pins _ σ _ _ I1 (q _ hn)) fun ws s2 ⟨ps,H2,I2,rel,e,kvs,ep,lk,q2⟩=>?_)
 subst ep
 obtain ⟨rs,c,rk⟩:=carries_of (P:=X.prog) (w:=X.w) rel
 obtain ⟨z,hd,vs0,r0,dd⟩:=dk_of I2.hok e
 cases r0
 refine ⟨rs,c,dd,fun h' dd' hs=>⟨.ref s.heap.objs.size,_,?_,rfl,q2⟩⟩
 have hz:(mergeK [] kvs).length<=sizeLine:=by
  have h1:=length_mergeK kvs []
  rw [List.length_nil] at h1
  rw [sizeLine_eq];omega
 have he:∃ q,h'.get? s.heap.objs.size=some q:=let ⟨q,_,_,hq,_⟩:=dd';⟨q,hq⟩
 exact d_write I2 (by rw [e];exact True.intro) hs he (dk_new hz hd (rk.merge .nil) dd')
structure M1 (X:Cx)(o:Expr)(m:Str)(apos:Pos)(e:Expr)(cpos:Pos):Prop where
 base:attributeBase o m X.env (eval o X.env)=eval o X.env
 few:((backTo cpos (starEach [e] X.env)).all (fun x=>!x.1) && (backToKw cpos (keywordEach [] X.env)).all (fun x=>x.1.isSome)
  && decide (([e]:List Expr).length+([]:List Keyword).length+(if ([]:List Keyword).isEmpty then 0 else 1) < 30))=true
 line:(apos.endLine==cpos.line)=true
 trees:backTo cpos (starEach [e] X.env)=[(false,eval e X.env)]
structure M2 (X:Cx)(o:Expr)(m:Str)(apos:Pos)(e f:Expr)(cpos:Pos):Prop where
 base:attributeBase o m X.env (eval o X.env)=eval o X.env
 few:((backTo cpos (starEach [e,f] X.env)).all (fun x=>!x.1) && (backToKw cpos (keywordEach [] X.env)).all (fun x=>x.1.isSome)
  && decide (([e,f]:List Expr).length+([]:List Keyword).length+(if ([]:List Keyword).isEmpty then 0 else 1) < 30))=true
 line:(apos.endLine==cpos.line)=true
 trees:backTo cpos (starEach [e,f] X.env)=[(false,eval e X.env),(false,eval f X.env)]
def IsD (H:Hp)(a:Addr):Prop:=(∃ kvs,Rd H a (.dK kvs))\/∃ kvs,Rd H a (.dT kvs)
theorem isD_at {X:Cx}{pins:List (Addr × Obj)}{σ:St}{H:Hp}{s:Shared}{a:Addr}(I:Inv X pins σ H s)(d:IsD H a):
  s.TypeIs (.ref a) "dict"/\(∀ b,Value.ref a=.ref b->∃ ob,s.heap.get? b=some ob/\ob.dict=none)/\(a==sysModules)=false:=by
 rcases d with ⟨kvs,e⟩ | ⟨kvs,e⟩
 ·obtain ⟨_,hd,vs,_,dd⟩:=dk_rd I.hok e
  refine ⟨dd.typeIs,fun b q=>?_,hd⟩
  cases q
  obtain ⟨ob,_,_,h1,h2,_⟩:=dd
  exact ⟨ob,h1,h2.2.1⟩
 ·obtain ⟨_,hd,xs,_,dd⟩:=dt_rd I.hok e
  refine ⟨dd.typeIs,fun b q=>?_,hd⟩
  cases q
  obtain ⟨ob,_,_,h1,h2,_⟩:=dd
  exact ⟨ob,h1,h2.2.1⟩
section
variable {X:Cx}{pins:List (Addr × Obj)}{σ:St}{H:Hp}{s:Shared}{a:Addr}{y d:V}{u r:Value}{o:Option V}{A:Around}{E:Value->Shared->Prop}
theorem d_get2 {Q:Value->Shared->Prop}(hu:A.units+1 < cLine)(I:Inv X pins σ H s)(g:DGet H a y o)(ry:RelV y u)(rd:RelV d r)(h:∀ w' s',Inv X pins σ H s'->RelV (o.getD d) w'->Q w' s'):
  wpAny (model X.prog X.w) A (call (.builtin "dict.get") [.ref a,u,r]) Q E s:=by
 rcases g with ⟨kvs,k,e,ey,l⟩ | ⟨kvs,k,b,e,ey,eb,l⟩
 ·subst ey
  obtain ⟨z,hd,vs,rel,dd⟩:=dk_rd I.hok e
  refine call_meetsIn PySem.F.slot_dict_get dd.typeIs PySem.F.entry_dict_get (PySem.F.args_dict_get_3 _ _ _) (meets_dict_get_default (mixKind X.prog X.w) a (kV_is ry) hd r) ⟨_,dd.mapOf,h _ _ (I.tok _) ?_⟩
  rw [l]
  exact (rel.val k).getD rd
 ·subst ey
  cases (show u=Value.ref b from ry)
  obtain ⟨z,hd,xs,rel,dd⟩:=dt_rd I.hok e
  refine call_meetsIn PySem.F.slot_dict_get dd.typeIs PySem.F.entry_dict_get (PySem.F.args_dict_get_3 _ _ _) (meetsH_dict_get_default (tupleKind (mixKind X.prog X.w)) a b hd r) ⟨tupleKind_room_in1 hu,k,xs,key_of I.hok eb,dd,h _ _ (I.tok _) ?_⟩
  rw [l]
  exact (rel.val k).getD rd
end
def tDGet2 (td ty tx:TE):TE:=fun σ H Q=>td σ H fun x H1=>∃ a,x=.ref a/\IsD H1 a/\ty σ H1 fun y H2=>tx σ H2 fun z H3=>∃ o,DGet H3 a y o/\Q (o.getD z) H3
section
variable {X:Cx}{o e f:Expr}{apos cpos:Pos}{td ty tx:TE}
theorem pe_dget2 (hu:X.A.units+1 < cLine)(ho:PE X o td)(he:PE X e ty)(hf:PE X f tx)(m:M2 X o "get" apos e f cpos):PE X (.Call (.Attribute o "get" apos) [e,f] [] cpos) (tDGet2 td ty tx):=by
 intro pins s σ H Q I h
 refine wpAny_Call_method m.base m.few m.line PySem.F.plainAttrs_dict PySem.F.slot_dict_get PySem.F.type_dict_get (thn (ho pins s σ H _ I h) fun u s1 ⟨x,H1,I1,rx,a,ex,d,q1⟩=>?_)
 subst ex
 obtain rfl:u=Value.ref a:=rx
 obtain ⟨t1,t2,_⟩:=isD_at I1 d
 refine ⟨t1,t2,?_⟩
 rw [m.trees]
 refine Calls.callWith_builtin rfl (Calls.evalArgs_plain (Calls.spliced_cons (thn (he pins s1 σ H1 _ I1 q1) fun iv s2 ⟨y,H2,I2,ry,q2⟩ =>
  Calls.spliced_cons (thn (hf pins s2 σ H2 _ I2 q2) fun fv s3 ⟨z,H3,I3,rz,ov,g,q3⟩=>Calls.spliced_nil ?_))))
 exact d_get2 hu I3 g ry rz fun w' s4 I4 rw'=>⟨_,H3,I4,rw',q3⟩
end
section
variable {X:Cx}{pins:List (Addr × Obj)}{σ:St}{H:Hp}{s:Shared}{a:Addr}{kvs:List (Key × V)}{A:Around}{E:Value->Shared->Prop}
end
section
variable {X:Cx}{pins:List (Addr × Obj)}{σ:St}{H:Hp}{s:Shared}{a:Addr}{y:V}{u:Value}{A:Around}{E:Value->Shared->Prop}
end
end L2
namespace Att
open PySem PySem.W PySem.Calls PyProof.Rows
theorem ints_of_wellAll {P:Params}{h:Heap}:∀ (ns:List Int) (vs:List Value),WellAll P h vs (ns.map WData.int)->IntsAre vs ns:=by
 intro ns
 induction ns with
 | nil =>
  intro vs w
  rw [List.map_nil] at w
  cases w
  exact .nil
 | cons n ns ih =>
  intro vs w
  rw [List.map_cons] at w
  cases w with
  | cons a b =>
   cases a
   exact .cons _ _ (ih _ b)
theorem script_of {l:OpenLaw}{n:Nat}(hn:l.most=some n){P:Params}{h:Heap}{args:List WData}{vals:List Value}
  (hpre:l.row.toRowW.claim.pre args=true) (hwl:WellAll P h vals args) :
  ∃ a vs ns,vals=[Value.ref a]/\args=[WData.list (ns.map WData.int)]/\h.get? a=some { cls:=.type "list",data:=.seq vs.toArray }/\IntsAre vs ns/\ns.length<=n:=by
 have hsh:WShape.hasAll [] args [.list .int]=true:=(pre_splitW hpre).1
 have hc:l.pre.holds [] { args:=args }=true:=(pre_splitW hpre).2
 obtain ⟨d,r,rfl,h1,h2⟩:=hasAllW_cons hsh
 obtain rfl:=hasAllW_nil h2
 obtain ⟨xs,rfl,h3⟩:=hasW_list h1
 obtain ⟨ns,rfl⟩:=items_int h3
 have hlen:ns.length<=n:=by
  unfold OpenLaw.pre at hc
  have h4:(WTm.not (.lt (.lit (.int (n:Int))) (.len (.arg 0)))).holds [] { args:=[.list (ns.map .int)] }=true:=by
   have h4:=(holds_andW hc).1
   rw [hn] at h4
   exact h4
  have h5:=condW_of h4 (w_not (w_lt w_lit (w_len_list (w_arg rfl))))
  rw [List.length_map] at h5
  refine Nat.le_of_not_lt fun q=>?_
  have q':(n:Int) < ((ns.length:Nat):Int):=by omega
  first
   | (rw [decide_eq_true q'] at h5;exact absurd h5 (by decide))
   | (simp at h5;omega)
 cases hwl with
 | cons w1 w2 =>
  cases w2
  cases w1 with
  | list ho hall=>exact ⟨_,_,ns,rfl,rfl,ho,ints_of_wellAll ns _ hall,hlen⟩
theorem post_true (l:OpenLaw)(args:List WData):l.row.toRowW.claim.post args (.bool true) args=true :=
 postW_of (r:=l.row.toRowW) (X:=(true==true))
  (show WShape.has [] (.bool true) .bool=true by first | rfl | decide | simp [WShape.has,WShape.arms,WShape.armsAll])
  (show (WTm.eq .res (.lit (.bool true))).value [] { args:=args,res:=some (.bool true),after:=args }=some (.bool (true==true)) from w_eq_bool (w_res rfl) w_lit) rfl
theorem attach_call {l:OpenLaw}{n:Nat}{q:Program}{loose:List Str}{XP:(Str->Option Value)->Heap->Prop}{YP:World->Heap->Prop}{d:DefRec}
  (hn:l.most=some n) (hdf:d.params.defaults=[])
  (call:∀ (w:World) (s₀ s₁:Shared) (mg mb:Str->Option Value) (fa:Addr) (o:Obj) (pm cd doc:Value) (a:Addr) (vs:List Value) (ns:List Int),
   Ground q loose [] XP w s₀ mg mb s₁.heap->YP w s₁.heap ->
   s₁.heap.get? fa=some o->o.data=.func (docDef d.name d.params d.body d.scope pm cd doc)->s₁.heap.CodeRec cd d.name->mg d.name=some (.ref fa) ->
   s₁.heap.get? a=some { cls:=.type "list",data:=.seq vs.toArray }->IntsAre vs ns->ns.length<=n->s₁.gens=#[] ->
   codeAny (model l.prog w) callerA (.call (.ref fa) ⟨[.ref a],[]⟩) (fun r s'=>r=.ok (.ret (.bool true))/\OldK s₁.heap s'.heap/\s'.os=s₁.os/\AllBare s'.gens) s₁) :
  WalkO q loose XP YP l.row.toRowW d [] (fun f vs=>PySem.call f vs):=by
 intro w s₀ s₁ mg mb G Y fa o pm cd doc dV kV ho hd hcd hD hmg hg args vals as hpre hlay hrd hwl hlo
 obtain rfl:dV=.none:=Dflts.none hD hdf
 obtain rfl:kV=.none:=Dflts.noKw hD
 obtain ⟨a,vs,ns,rfl,rfl,hobj,hints,hlen⟩:=script_of hn hpre hwl
 refine enter_call (codeAny_mono (call w s₀ s₁ mg mb fa o pm cd doc a vs ns G Y ho (fd_plain hd) hcd hmg hobj hints hlen hg) fun r s' hq=>?_)
 obtain ⟨rfl,h2,h3,h4⟩:=hq
 exact ⟨.inl ⟨.bool true,.bool true,[],rfl,fun _=>rfl,.bool true,post_true l _,fun _=>⟨List.Pairwise.nil,fun _ hm=>(nomatch hm)⟩⟩,h2,h3,h4⟩
section
variable {prog:Program}{w:World}{A:Around}{E:Value->Shared->Prop}{s:Shared}{K:Frag}
end
end Att
namespace L2
open PySem PySem.Spec PyProof.Rows
theorem vals_ints:∀ {vs:List Value} {ns:List Int},IntsAre vs ns->Vals (ns.map V.int) vs
 | _,_,.nil=>.nil
 | _,_,.cons n t h=>.cons ⟨t,rfl⟩ (vals_ints h)
end L2
namespace L2
open PySem PySem.Spec PyProof.Rows
end L2
namespace L2
open PySem PySem.Spec PyProof.Rows
def inClass (s:Stmt)(j:Nat):Stmt:=match s with
 | .ClassDef _ _ _ body _ _ _ _ _ _ _=>body.getD j (.Pass ⟨0,0,0,0⟩)
 | _=>.Pass ⟨0,0,0,0⟩
def defArgs (s:Stmt):Arguments:=match s with
 | .FunctionDef _ a _ _ _ _ _ _ _ _=>a
 | _=>{ posonlyargs:=[],args:=[],vararg:=none,kwonlyargs:=[],kw_defaults:=[],kwarg:=none,defaults:=[] }
def defBody (s:Stmt):List Stmt:=match s with
 | .FunctionDef _ _ b _ _ _ _ _ _ _=>b
 | _=>[]
def defScope (s:Stmt):Scope:=match s with
 | .FunctionDef _ _ _ _ _ _ sc _ _ _=>sc
 | _=>{ kind:=.function,names:=[],isGenerator:=false,isCoroutine:=false }
abbrev CX0:CXT:=fun _ _ _ _ _ _=>False
abbrev E0:XK:=fun _ _ _=>False
theorem pass0 {X:Cx}:Passes CX0 X E0:=fun _ _ _ _ _ _ _ h=>h.elim
structure Fun (K:PySem.W.Frag)(x qual:Str)(st:Stmt)(f:Addr)(fd:FuncData):Prop where
 ex:∃ (oc:Value) (od:Option Addr) (kV doc pm:Value) (an:Option Addr) (cdv ct:Value) (osl:Array (Option Value)),
  fd=PySem.W.fnOf x qual (defArgs st) (defBody st) (defScope st) .none kV doc pm an cdv ct/\K.lookup f=some ⟨oc,od,.func fd,osl⟩/\PySem.W.codeIn K cdv qual=true
 kp:PySem.W.keepIn K (.ref f)=true
section
variable {P:Program}{w:World}{K:PySem.W.Frag}{mg:Str->Option Value}{base:Heap}
theorem Fun.ok {x qual:Str}{st:Stmt}{f:Addr}{fd:FuncData}{N ps:List Str}{k:Nat}{sp:Sp}(F:Fun K x qual st f fd)(S:FnScope N ps (defScope st))(len:∀ vs H Q E,sp vs H Q E->vs.length=ps.length)
  (hbody:∀ (cdv:Value) (A:Around) (outer:List Env) (s:Shared) (H:Hp) (vs:List V) (Q:VK) (E:XK),Room k (A.deeper (envOfC qual (defScope st) s.heap.objs.size f cdv))->sp vs H Q E ->
   ∃ t,PSs (cxOf CX0 P w K mg base N qual (defScope st) f cdv A outer s H E).nox (defBody st) t/\t { nx:=fun _ H'=>Q .non H',rt:=Q } (start N vs) H):FnOk P w K mg base CX0 (k+1) f fd ps sp:=by
 obtain ⟨oc,od,kV,doc,pm,an,cdv,ct,osl,rfl,lk,hcd⟩:=F.ex
 refine fn_of lk hcd S len fun A outer s H vs Q E hr hsp=>?_
 obtain ⟨t,h,q⟩:=hbody cdv A outer s H vs Q E hr hsp
 exact ⟨t,h.nox,q⟩
theorem Fun.binds {x qual:Str}{st:Stmt}{f:Addr}{fd:FuncData}{ps:List Str}(F:Fun K x qual st f fd)
  (h:∀ (kV doc pm:Value) (an:Option Addr) (cdv ct:Value) (us:List Value),us.length=ps.length->bindArgs (PySem.W.fnOf x qual (defArgs st) (defBody st) (defScope st) .none kV doc pm an cdv ct) ⟨us,[]⟩=pure (ps.zip us)):Binds K fd ps []:=by
 obtain ⟨oc,od,kV,doc,pm,an,cdv,ct,osl,rfl,lk,hcd⟩:=F.ex
 exact .all (h kV doc pm an cdv ct)
theorem fun_mk {x qual:Str}{st:Stmt}{f:Addr}{oc:Value}{od an:Option Addr}{osl:Array (Option Value)}{kV doc pm cdv ct:Value}(l:K.lookup f=some ⟨oc,od,.func (PySem.W.fnOf x qual (defArgs st) (defBody st) (defScope st) .none kV doc pm an cdv ct),osl⟩)
  (c:PySem.W.codeIn K cdv qual=true) (k:PySem.W.keepIn K (.ref f)=true):Fun K x qual st f (PySem.W.fnOf x qual (defArgs st) (defBody st) (defScope st) .none kV doc pm an cdv ct):=⟨⟨oc,od,kV,doc,pm,an,cdv,ct,osl,rfl,l,c⟩,k⟩
end
theorem hu_of {A:Around}{k:Nat}(hr:Room k A):A.units+1 < cLine:=Nat.lt_of_le_of_lt (Nat.add_le_add_left (by decide:1<=64) _) hr.units
section
variable {X:Cx}
theorem pv (i:Nat){x:Str}{pos:Pos}(hN:X.N[i]?=some x:=by rfl)(hv:Vis X.env.scope x:=by first | exact Or.inl rfl | exact Or.inr (Or.inl rfl) | exact Or.inr (Or.inr rfl))(hd:(x==("__debug__":Str))=false:=by decide)
  (hcd:(x==("__classdict__":Str))=false:=by decide):PE X (.Name x pos) (tVar i):=pe_var hN hv hd hcd
end
theorem iteF {A B:Prop}(h:B):if false=true then A else B:=by
 rw [if_neg Bool.false_ne_true]
 exact h
theorem iteT {A B:Prop}(h:A):if true=true then A else B:=by
 rw [if_pos rfl]
 exact h
theorem ite2 {c A B:Prop}[Decidable c](h1:c->A)(h2:¬ c->B):if c then A else B:=by
 by_cases h:c
 ·rw [if_pos h]
  exact h1 h
 ·rw [if_neg h]
  exact h2 h
def Same (H H':Hp):Prop:=∀ b o,H b=some o->H' b=some o
theorem Same.refl (H:Hp):Same H H:=fun _ _ h=>h
theorem Same.trans {H H1 H2:Hp}(a:Same H H1)(b:Same H1 H2):Same H H2:=fun c o h=>b c o (a c o h)
theorem Same.free {H H':Hp}(e:Same H H'){l:Addr}(h:H' l=Option.none):H l=Option.none:=by
 cases q:H l with
 | none=>rfl
 | some o =>
  rw [e l o q] at h
  cases h
theorem Same.seq {K:PySem.W.Frag}{H H':Hp}{a:Addr}{xs:List V}(e:Same H H')(h:SqL K H a xs):SqL K H' a xs:=by
 rcases h with (h | ⟨o,h⟩) | h
 ·exact .inl (.inl (e _ _ h))
 ·exact .inl (.inr ⟨o,e _ _ h⟩)
 ·exact .inr h
section
variable {X:Cx}
end
section
variable {κ:Type}[DecidableEq κ]
theorem valV_not {kvs:List (κ × V)}{k:κ}(h:valV kvs k=none):¬ k∈kvs.map (·.1):=by
 intro m
 obtain ⟨p,hp,e⟩:=List.mem_map.mp m
 have q:(kvs.any fun kv=>decide (kv.1=k))=true:=List.any_eq_true.mpr ⟨p,hp,decide_eq_true e⟩
 rw [valV_any,h] at q
 exact absurd q (by simp)
theorem nd_snoc:∀ {l:List κ} {k:κ},l.Nodup->¬ k∈l->(l++[k]).Nodup
 | [],k,_,_=>by simp
 | a::r,k,h,hk=>by
  obtain ⟨h1,h2⟩:=List.nodup_cons.mp h
  show (a::(r++[k])).Nodup
  refine List.nodup_cons.mpr ⟨fun m=>?_,nd_snoc h2 fun m=>hk (List.mem_cons.mpr (Or.inr m))⟩
  rcases List.mem_append.mp m with q | q
  ·exact h1 q
  ·exact hk (List.mem_cons.mpr (Or.inl (List.mem_singleton.mp q).symm))
theorem nd_putK {kvs:List (κ × V)}{k:κ}(v:V)(hn:(kvs.map (·.1)).Nodup)(h:valV kvs k=none):((putK kvs k v).map (·.1)).Nodup:=by
 rw [putK_new v h,List.map_append]
 exact nd_snoc hn (valV_not h)
end
end L2
namespace L2
open PySem PySem.Spec PyProof.Rows
section
variable {P:Program}{w:World}{H H1:Hp}{h h1:Heap}{a:Addr}{o:HO}{fs ex:List Addr}
theorem HOk.track (x:HOk P w H h)(hn:H a=none)(new:ObjOk P w (upd H a o) h a o):HOk P w (upd H a o) h:=by
 intro b u e
 by_cases hb:b=a
 ·subst hb
  rw [upd_same] at e
  cases e
  exact new
 ·rw [upd_ne hb] at e
  refine (x b u e).stay (fun c v _ q=>q) (fun c q=>?_) (fun c xs q=>?_)
  ·rw [upd_ne (ne_of_none q hn)];exact q
  ·rw [upd_ne (ne_of_none q hn)];exact q
theorem Un.track (u:Un fs ex H H1 h h1)(hn:H1 a=none)(ha:h.get? a=none):Un fs ex H (upd H1 a o) h h1 where
 keep:=u.keep
 slot:=u.slot
 free:=fun b ob q n hx=>by
  have hb:b≠a:=fun z=>by rw [z,ha] at q;cases q
  rw [upd_ne hb]
  exact u.free b ob q n hx
 there:=u.there
 tups:=fun b xs q=>by
  have z:=u.tups b xs q
  rw [upd_ne (ne_of_none z hn)]
  exact z
 frzs:=fun b ob xs q=>by
  have z:=u.frzs b ob xs q
  rw [upd_ne (ne_of_none z hn)]
  exact z
 tbls:=fun b ps q=>by
  obtain ⟨more,z⟩:=u.tbls b ps q
  exact ⟨more,by rw [upd_ne (ne_of_none z hn)];exact z⟩
end
section
variable {prog:Program}{w:World}{A:Around}{R:Result->Shared->Prop}{s:Shared}
abbrev noX:Value->Shared->Prop:=fun _ _=>False
theorem comp_turns {elt target iter:Expr}{ifs:List Expr}{scope:Scope}{pos:Pos}{it acc:Value}{env:Env}(J:Nat->Shared->Prop)
  (turn:∀ n s,J n s->wpAny (model prog w) A (pyNext it) (fun r s1=>match r with
   | none=>R (.ok .next) s1
   | some v=>wpAny (model prog w) A (letOwnedTupleGo target it v) (fun _ s2=>wpAny (model prog w) A (assign target env v) (fun _ s3 =>
     wpAny (model prog w) A (forIn ifs true fun c r=>if r=true then do let ok <- isTrue c env (eval c env);pure (ForInStep.yield ok) else pure (ForInStep.yield r)) (fun ok s4 =>
      if ok=true then wpAny (model prog w) A (eval elt env) (fun x s5=>wpAny (model prog w) A (call (.builtin "list.append") [acc,x]) (fun _ s6=>∃ m,m < n/\J m s6) noX s5) noX s4
      else ∃ m,m < n/\J m s4) noX s3) noX s2) noX s1) noX s)
  (n:Nat) (h:J n s):codeAny (model prog w) A (.compLoop (.ListComp elt [⟨target,iter,ifs,0⟩] scope pos) 0 it acc env) R s:=by
 refine codeAny_loop rfl J (fun n s hJ=>?_) n h
 show wpAny _ A ((compTurn (.ListComp elt [⟨target,iter,ifs,0⟩] scope pos) 0 it acc env).onRaise (fun x=>do noteFrame x env;theTreesLotGoes x)) _ _ s
 refine wpAny_noted ?_
 rw [compTurn_list]
 refine wpAny_bind (wpAny_standAt (wpAny_bind (wpAny_mono (turn n s hJ) (fun r s1 q1=>?_) fun _ _ z=>z.elim)))
 cases r with
 | none=>exact wpAny_pure q1
 | some v =>
  refine wpAny_bind (wpAny_mono q1 (fun _ s2 q2=>?_) fun _ _ z=>z.elim)
  refine wpAny_bind (wpAny_mono q2 (fun _ s3 q3=>?_) fun _ _ z=>z.elim)
  refine wpAny_bind (wpAny_mono q3 (fun ok s4 q4=>?_) fun _ _ z=>z.elim)
  cases ok with
  | false=>exact wpAny_pure ⟨rfl,q4⟩
  | true =>
   refine wpAny_bind (wpAny_bind (wpAny_mono q4 (fun x s5 q5=>?_) fun _ _ z=>z.elim))
   refine wpAny_bind (wpAny_mono q5 (fun _ s6 q6=>?_) fun _ _ z=>z.elim)
   exact wpAny_pure (wpAny_pure ⟨rfl,q6⟩)
end
def Cx.blk (X:Cx)(N:List Str)(env:Env)(s0:Shared)(H0:Hp)(ex:List Addr):Cx :=
 { X with N:=N,s₀:=s0,H₀:=H0,env:=env,outer:=X.stack,stack:=X.stack,ex:=ex,fn:=fun _=>false,pn:=[],xe:=noX }
structure CompSc (X:Cx)(scope:Scope)(cl:List (Str × Addr))(own fr:List Str)(js:List Nat):Prop where
 clos:closureFor scope X.env=pure cl
 cell:∀ y∈scope.names,y.2≠.cell
 kind:scope.kind=.function
 names:∀ y∈scope.names,y.2=.local->scope.names.lookup y.1=some .local
 sub:cl.map (fun p=>X.env.cells.lookup p.1)=cl.map (fun p=>some p.2)
 has:((relabel scope X.env).names.all fun y=>!(y.2==.cell || y.2==.free) || (cl.lookup y.1).isSome)=true
 fre:(fr.all fun y=>(X.env.kindOf y==some .cell || X.env.kindOf y==some .free) && ((relabel scope X.env).names.lookup y==some .cell || (relabel scope X.env).names.lookup y==some .free))=true
 here:js.map (fun j=>X.N[j]?)=fr.map some
def cBase (own:List Str)(js:List Nat)(σ:St):St:=own.map (fun _=>none)++js.map (fun j=>(σ[j]?).join)
def cEnv (X:Cx)(scope:Scope)(cl:List (Str × Addr))(C:Addr):Env:=compEnvC scope cl C X.env
abbrev Cx.cmp (X:Cx)(scope:Scope)(cl:List (Str × Addr))(own fr:List Str)(C:Addr)(s0:Shared)(H0:Hp)(ex:List Addr):Cx:=X.blk (own++fr) (cEnv X scope cl C) s0 H0 ex
theorem lookup_mem {α:Type}:∀ {l:List (Str × α)} {y:Str} {c:α},l.lookup y=some c->(y,c)∈l
 | [],_,_,h=>by simp at h
 | (z,d)::r,y,c,h=>by
  rw [List.lookup_cons] at h
  cases e:y==z with
  | true=>rw [e] at h;cases h;rw [eq_of_beq e];exact .head _
  | false=>rw [e] at h;exact .tail _ (lookup_mem h)
section
variable {X:Cx}{scope:Scope}{cl:List (Str × Addr)}{own fr:List Str}{js:List Nat}{pins:List (Addr × Obj)}{σ:St}{H:Hp}{s s':Shared}{fp:List Addr}{C:Addr}{m:Str->Option Value}
theorem CompSc.cells (S:CompSc X scope cl own fr js){y:Str}{c:Addr}(h:cl.lookup y=some c):X.env.cells.lookup y=some c:=by
 have hm:=lookup_mem h
 have e:∀ (l:List (Str × Addr)),l.map (fun p=>X.env.cells.lookup p.1)=l.map (fun p=>some p.2)->∀ p∈l,X.env.cells.lookup p.1=some p.2:=by
  intro l
  induction l with
  | nil=>intro _ p hp;cases hp
  | cons q r ih =>
   intro h p hp
   have h1:=(List.cons.inj h).1
   have h2:=(List.cons.inj h).2
   rcases List.mem_cons.mp hp with rfl | hp
   ·exact h1
   ·exact ih h2 p hp
 exact e cl S.sub _ hm
theorem CompSc.hasC (S:CompSc X scope cl own fr js){y:Str}(h:(relabel scope X.env).names.lookup y=some .cell\/(relabel scope X.env).names.lookup y=some .free):∃ c,cl.lookup y=some c:=by
 have key:∀ k:NameKind,(k=.cell\/k=.free)->(relabel scope X.env).names.lookup y=some k->∃ c,cl.lookup y=some c:=by
  intro k hk hl
  have q:=List.all_eq_true.mp S.has _ (lookup_mem hl)
  have kk:(k==NameKind.cell || k==NameKind.free)=true:=by
   rcases hk with rfl | rfl <;> rfl
  simp only [kk,Bool.not_true,Bool.false_or] at q
  exact Option.isSome_iff_exists.mp q
 rcases h with h | h
 ·exact key _ (.inl rfl) h
 ·exact key _ (.inr rfl) h
theorem CompSc.free (S:CompSc X scope cl own fr js){y:Str}(h:y∈fr):(X.env.kindOf y=some .cell\/X.env.kindOf y=some .free)/\((relabel scope X.env).names.lookup y=some .cell\/(relabel scope X.env).names.lookup y=some .free):=by
 have q:=List.all_eq_true.mp S.fre y h
 simpa [Bool.and_eq_true,Bool.or_eq_true] using q
theorem map_get {α β:Type}{f:α->β}{l:List α}{i:Nat}{b:β}(h:(l.map f)[i]?=some b):∃ a,l[i]?=some a/\f a=b:=by
 rw [List.getElem?_map] at h
 cases e:l[i]? with
 | none=>rw [e] at h;cases h
 | some a=>rw [e] at h;exact ⟨a,rfl,Option.some.inj h⟩
theorem blk_inv (S:CompSc X scope cl own fr js)(I:Inv X pins σ H s)(hf:∀ b∈fp,FpOk X pins H b)(hC:s.heap.objs.size<=C)(hns:s'.heap.Ns C m)(hfo:∀ b∈fp,b < s.heap.objs.size)
  (hos:s'.os=s.os) (hg:s'.gens=s.gens) (k:∀ b o,s.heap.get? b=some o->s'.heap.get? b=some o) :
  Inv (X.cmp scope cl own fr C s H fp) [] (cBase own js σ) H s':=by
 have cells:∀ x c,cl.lookup x=some c->X.env.cells.lookup x=some c:=fun x c h=>S.cells h
 refine ⟨⟨I.ok.mod,S.kind,I.ok.glob,I.ok.blt,hC,?_,?_,?_,I.ok.hd,I.ok.frames,.inl rfl,?_,I.bs,Nat.le_trans I.ok.bsz I.sz,?_,?_,I.stack,I.stkFree⟩,hos,?_,Un.kept k,⟨m,hns,?_⟩,?_,?_,?_,?_,I.hok.kept k,?_⟩
 ·intro x y c h1 h2
  exact I.ok.inj x y c (cells x c h1) (cells y c h2)
 ·intro x hx
  exact S.hasC hx
 ·intro x c h
  exact absurd (show false=true from h) Bool.false_ne_true
 ·intro b hb
  refine ⟨Nat.ne_of_lt (Nat.lt_of_lt_of_le (hfo b hb) hC),fun x c h=>?_⟩
  exact (hf b hb).2.2.2.2.1 x c (cells x c h)
 ·intro b o e hb
  rcases (hf b hb).2.2.2.1 with z | z
  ·exact I.ok.noex b o e z
  ·exact absurd (Nat.lt_of_lt_of_le (Nat.lt_of_lt_of_le (Heap.lt_size e) I.ok.bsz) z) (Nat.lt_irrefl _)
 ·intro b hb z
  rcases List.mem_cons.mp (I.stkSub b z) with e | e
  ·exact (hf b hb).2.1 e
  ·exact (hf b hb).2.2.1 e
 ·rw [hg];exact I.bare
 ·intro i x v h1 h2 _
  have hN:(X.cmp scope cl own fr C s H fp).N=own++fr:=rfl
  rw [hN] at h1
  by_cases hi:i < own.length
  ·have:(cBase own js σ)[i]?=some none:=by
    unfold cBase
    rw [List.getElem?_append_left (by simpa using hi),List.getElem?_map]
    simp [hi]
   rw [this] at h2
   cases h2
  ·have hi:own.length<=i:=Nat.not_lt.mp hi
   rw [List.getElem?_append_right hi] at h1
   unfold cBase at h2
   rw [List.getElem?_append_right (by simpa using hi),List.length_map] at h2
   obtain ⟨j,hj,ej⟩:=map_get h2
   have hXN:X.N[j]?=some x:=by
    have e1:(js.map (fun j=>X.N[j]?))[i - own.length]?=some (X.N[j]?):=by rw [List.getElem?_map,hj];rfl
    rw [S.here,List.getElem?_map,h1] at e1
    exact (Option.some.inj e1).symm
   have hσ:σ[j]?=some (some v):=by
    cases e:σ[j]? with
    | none=>rw [e] at ej;cases ej
    | some o=>rw [e] at ej;cases o with
     | none=>cases ej
     | some u=>cases ej;rfl
   obtain ⟨kx,kx'⟩:=S.free (List.mem_of_getElem? h1)
   obtain ⟨m0,_,hl⟩:=I.loc
   have vis:Vis X.env.scope x:=by
    rcases kx with z | z
    ·exact .inr (.inl z)
    ·exact .inr (.inr z)
   obtain ⟨u,r,lk⟩:=hl j x v hXN hσ vis
   refine ⟨u,r,.inr ⟨kx',?_⟩⟩
   obtain ⟨c,hc⟩:=S.hasC kx'
   rcases lk with ⟨z,_⟩ | ⟨_,c',e',q⟩
   ·rcases kx with y | y <;> (rw [y] at z;cases z)
   ·rw [S.cells hc] at e'
    cases e'
    obtain ⟨o,ho,hd⟩:=q
    exact ⟨c,hc,o,k _ _ ho,hd⟩
 ·intro x c h
  obtain ⟨v,o,ho,hd⟩:=I.cell x c (cells x c h)
  exact ⟨v,o,k _ _ ho,hd⟩
 ·exact I.hok.fresh hC
 ·intro x c h
  exact I.freeC x c (cells x c h)
 ·intro p hp
  exact absurd (show p∈([]:List (Addr × Obj)) from hp) (by simp)
 ·have e:js.length=fr.length:=by
   have:=congrArg List.length S.here
   simpa using this
  show (cBase own js σ).length=(own++fr).length
  unfold cBase
  simp [e]
end
def PIf (X:Cx)(ifs:List Expr)(t:TT):Prop :=
 ∀ (pins:List (Addr × Obj)) (s:Shared) (σ:St) (H:Hp) (Q:Bool->Hp->Prop),Inv X pins σ H s->t σ H Q ->
  wpAny (model X.prog X.w) X.A (forIn ifs true fun c r=>if r=true then do let ok <- isTrue c X.env (eval c X.env);pure (ForInStep.yield ok) else pure (ForInStep.yield r)) (TP X pins σ Q) X.xe s
def tYes:TT:=fun _ H Q=>Q true H
theorem pif_nil {X:Cx}:PIf X [] tYes:=fun _ _ _ H _ I h=>wpAny_tests_nil ⟨H,I,h⟩
theorem pif_one {X:Cx}{c:Expr}{t:TT}(h:PT X c t):PIf X [c] t:=fun pins s σ H Q I q=>wpAny_tests_one (h pins s σ H Q I q)
def Ext (σ σ':St):Prop:=σ'.length=σ.length/\∀ (i:Nat) v,σ[i]?=some (some v)->σ'[i]?=some (some v)
theorem Ext.set {σ:St}{i:Nat}{v:V}(h:σ[i]?=some none):Ext σ (σ.set i (some v)):=by
 refine ⟨by simp,fun j u e=>?_⟩
 by_cases hj:i=j
 ·subst hj;rw [h] at e;cases e
 ·rw [List.getElem?_set_ne hj];exact e
def cLoop (J:It)(H1:Hp)(σ:St)(g:TG)(tt:TT)(te:TE)(Fin:List V->Hp->Prop):Prop :=
  ∃ W:Nat->Nat->List V->Hp->Prop,(∃ m,W 0 m [] H1)/\∀ i m ys H,W i m ys H->ys.length<=sizeLine /\
    ((J.stop i H/\Fin ys H)\/(J.go i H/\ys.length < sizeLine/\∀ x H',J.yld i H x H'->g x σ H' fun σ2 H2=>Ext σ σ2/\tt σ2 H2 fun b H3 =>
      if b=true then te σ2 H3 fun y H4=>∃ m',m' < m/\W (i+1) m' (ys++[y]) H4 else ∃ m',m' < m/\W (i+1) m' ys H3))
section
variable {X:Cx}{scope:Scope}{cl:List (Str × Addr)}{own fr:List Str}{js:List Nat}{elt iter tg:Expr}{ifs:List Expr}{pos:Pos}{g:TG}{tt:TT}{te:TE}
 {pins:List (Addr × Obj)} {σ:St} {H2:Hp} {s2:Shared} {fp:List Addr} {it:Addr} {tn:Nat->Heap->Prop} {J:It} {Fin:List V->Hp->Prop} {E:Value->Shared->Prop}
theorem vals_snoc {ys:List V}{us:List Value}{y:V}{u:Value}(r:Vals ys us)(q:RelV y u):Vals (ys++[y]) (us++[u]):=r.append (.cons q .nil)
theorem comp_core (S:CompSc X scope cl own fr js)(hcalm:X.calm=true)
  (hg:∀ C s0 H0 ex,PG (X.cmp scope cl own fr C s0 H0 ex) tg g) (ht:∀ C s0 H0 ex,PIf (X.cmp scope cl own fr C s0 H0 ex) ifs tt) (he:∀ C s0 H0 ex,PE (X.cmp scope cl own fr C s0 H0 ex) elt te)
  (I2:Inv X pins σ H2 s2) (T:Turn X.prog X.w X.K tg J fp it tn) (st0:tn 0 s2.heap) (hf:∀ b∈fp,FpOk X pins H2 b) (L:cLoop J H2 (cBase own js σ) g tt te Fin)
  {RR:Value->Addr->Result->Shared->Prop}
  (hRR:∀ (D C:Addr) (s':Shared) (ys:List V) (its:List Value) (n:Nat) (H':Hp) (m':Str->Option Value),s2.heap.objs.size<=D->s2.heap.objs.size<=C->D≠C->s'.os=s2.os->AllBare s'.gens ->
   Un (frs X.stack) fp H2 H' s2.heap s'.heap->HOk X.prog X.w H' s'.heap->H' D=none->H' C=none->s'.heap.Ns C m'->Vals ys its->s'.heap.get? D=some { cls:=.type "list",data:=.seq its.toArray n }->ys.length<=sizeLine ->
   Fin ys H'->RR (.ref D) C (.ok .next) s') :
  wpAny (model X.prog X.w) X.A (newList []) (fun acc s3=>wpAny (model X.prog X.w) X.A (newFunctionEnv scope X.env.globals cl [] X.env.qual none .none (some X.env)) (fun cenv s4 =>
   codeAny (model X.prog X.w) X.A (.compStart (.ListComp elt [⟨tg,iter,ifs,0⟩] scope pos) 0 (.ref it) acc { cenv with scope:=relabel scope X.env }) (RR acc cenv.locals) s4) E s3) E s2:=by
 refine wpAny_newObj_type (wpAny_newFunctionEnv S.cell (by intro y hy;simp at hy) (fun h1 hns hsb=>?_) S.kind)
 dsimp only at hns hsb ⊢
 generalize hG:s2.heap.push { cls:=.type "list",dict:=none,data:=.seq ([]:List Value).toArray }=G at hns hsb ⊢
 have hC:G.objs.size=s2.heap.objs.size+1:=by rw [<- hG,Heap.size_push]
 have hDC:s2.heap.objs.size≠G.objs.size:=by omega
 have hCle:s2.heap.objs.size<=G.objs.size:=by omega
 have old:∀ b o,s2.heap.get? b=some o->h1.get? b=some o:=fun b o e=>by
  have hb:=Heap.lt_size e
  exact hsb.extBut b o (Nat.ne_of_lt (Nat.lt_of_lt_of_le hb hCle)) (Heap.get?_push_of_some _ (hG▸Heap.get?_push_of_some _ e))
 have hacc:h1.get? s2.heap.objs.size=some { cls:=.type "list",data:=.seq ([]:List Value).toArray 0 } :=
  hsb.extBut _ _ hDC (Heap.get?_push_of_some _ (hG▸Heap.get?_push_size _ rfl))
 have hfo:∀ b∈fp,b < s2.heap.objs.size:=fun b hb=>by
  obtain ⟨o,e,_⟩:=T.obj 0 _ st0 b hb
  exact Heap.lt_size e
 have hsame:∀ t:Nat,Inv (X.cmp scope cl own fr G.objs.size s2 H2 fp) [] (cBase own js σ) H2 { s2 with heap:=h1,toks:=t }:=fun t =>
  blk_inv S I2 hf hCle hns hfo rfl rfl old
 obtain ⟨W,⟨m0,w0⟩,turn⟩:=L
 have hDs:s2.heap.objs.size∉frs X.stack:=fun z=>by
  rcases List.mem_cons.mp (I2.stkSub _ z) with e | e
  ·exact absurd I2.lt (by rw [<- e];exact Nat.lt_irrefl _)
  ·exact I2.nofs (Nat.le_refl _) e
 have pinD:∀ {H:Hp} {s:Shared} {σ':St} {its:List Value} {n:Nat},Inv (X.cmp scope cl own fr G.objs.size s2 H2 fp) [] σ' H s->s.heap.get? s2.heap.objs.size=some { cls:=.type "list",data:=.seq its.toArray n }->H s2.heap.objs.size=none ->
   Inv (X.cmp scope cl own fr G.objs.size s2 H2 fp) [(s2.heap.objs.size,{ cls:=.type "list",data:=.seq its.toArray n })] σ' H s:=fun {H s σ' its n} I e hn=>I.pins_of fun p hp=>by
  obtain rfl:=List.mem_singleton.mp hp
  exact ⟨e,hn,hDC,hDs,fun v z=>by cases z⟩
 have fpok:∀ {H:Hp} {its:List Value} {n:Nat},(∀ b∈fp,H b=none)->∀ b∈fp,FpOk (X.cmp scope cl own fr G.objs.size s2 H2 fp) [(s2.heap.objs.size,{ cls:=.type "list",data:=.seq its.toArray n })] H b:=fun {H its n} hn b hb=>by
  have hlt:=hfo b hb
  refine ⟨hn b hb,?_,?_,.inl hb,?_,?_⟩
  ·exact Nat.ne_of_lt (Nat.lt_of_lt_of_le hlt hCle)
  ·intro z
   rcases List.mem_cons.mp (I2.stkSub b z) with e | e
   ·exact (hf b hb).2.1 e
   ·exact (hf b hb).2.2.1 e
  ·intro x c h
   exact (hf b hb).2.2.2.2.1 x c (S.cells h)
  ·intro p hp
   obtain rfl:=List.mem_singleton.mp (show p∈[(s2.heap.objs.size,_)] from hp)
   exact Ne.symm (Nat.ne_of_lt hlt)
 have loop:∀ t:Nat,codeAny (model X.prog X.w) X.A (.compLoop (.ListComp elt [⟨tg,iter,ifs,0⟩] scope pos) 0 (.ref it) (.ref s2.heap.objs.size) (cEnv X scope cl G.objs.size))
   (RR (.ref s2.heap.objs.size) G.objs.size) { s2 with heap:=h1,toks:=t }:=by
  intro t
  refine comp_turns (fun k s'=>∃ i ys its n H',Inv (X.cmp scope cl own fr G.objs.size s2 H2 fp) [(s2.heap.objs.size,{ cls:=.type "list",data:=.seq its.toArray n })] (cBase own js σ) H' s'/\tn i s'.heap/\(∀ b∈fp,H' b=none) /\
   Vals ys its/\W i k ys H') ?_ m0 ⟨0,[],[],0,H2,pinD (hsame t) hacc (I2.hok.fresh (Nat.le_refl _)),T.keep _ _ _ st0 fun b _ o e=>old b o e,fun b hb=>(hf b hb).1,.nil,w0⟩
  rintro n s3 ⟨i,ys,its,nn,H3,I3,st3,fr3,rv,w3⟩
  obtain ⟨hlen,w3⟩:=turn i n ys H3 w3
  have hlen':=rv.length
  rcases w3 with ⟨stop,fin⟩ | ⟨go,hlt,step⟩
  ·refine thn (T.done (X.cmp scope cl own fr G.objs.size s2 H2 fp) rfl rfl rfl hcalm i _ s3 _ H3 noX I3 (fpok fr3) st3 stop) fun r s4 q4=>?_
   obtain ⟨hr,I4⟩:=q4
   subst hr
   obtain ⟨eD,nD,_⟩:=I4.pin _ (List.mem_append_right _ (.head _))
   obtain ⟨m4,ns4,_⟩:=I4.loc
   exact hRR _ _ s4 ys its nn H3 m4 (Nat.le_refl _) hCle hDC I4.os I4.bare I4.base I4.hok nD I4.free ns4 rv eD hlen fin
  ·refine thn (T.item (X.cmp scope cl own fr G.objs.size s2 H2 fp) rfl rfl rfl hcalm i _ s3 _ H3 noX I3 (fpok fr3) st3 go) fun r s4 q4=>?_
   obtain ⟨u,hr,q4⟩:=q4
   subst hr
   refine thn q4 fun _ s5 q5=>?_
   obtain ⟨x,H5,I5,r5,y5,st5,fr5⟩:=q5
   have I5':=I5.pinned (fpok fr5) (T.obj _ _ st5)
   refine thn (hg G.objs.size s2 H2 fp _ s5 _ H5 x u _ I5' r5 (step x H5 y5)) fun _ s6 q6=>?_
   obtain ⟨σ6,H6,I6,ext6,q6⟩:=q6
   have fin:∀ {s7:Shared} {H7:Hp},Inv (X.cmp scope cl own fr G.objs.size s2 H2 fp) ([(s2.heap.objs.size,{ cls:=.type "list",data:=.seq its.toArray nn })]++pinsAt fp s5.heap) σ6 H7 s7 ->
     tn (i+1) s7.heap/\(∀ b∈fp,H7 b=none)/\s7.heap.get? s2.heap.objs.size=some { cls:=.type "list",data:=.seq its.toArray nn }/\H7 s2.heap.objs.size=none/\Inv (X.cmp scope cl own fr G.objs.size s2 H2 fp) [] (cBase own js σ) H7 s7:=fun {s7 H7} I7=>by
    have pd:=I7.pin _ (List.mem_append_right _ (List.mem_append_left _ (.head _)))
    refine ⟨T.keep _ _ _ st5 fun b hb o e=>(I7.pin (b,o) (List.mem_append_right _ (List.mem_append_right _ (mem_pinsAt hb e)))).1,fun b hb=>?_,pd.1,pd.2.1,?_⟩
    ·obtain ⟨o,e,d⟩:=T.obj _ _ st5 b hb
     exact (I7.pin (b,o) (List.mem_append_right _ (List.mem_append_right _ (mem_pinsAt hb e)))).2.1
    ·exact (I7.pins_of (pins':=[]) fun p hp=>absurd hp (by simp)).weak ext6.1.symm ext6.2
   refine thn (ht G.objs.size s2 H2 fp _ s6 σ6 H6 _ I6 q6) fun ok s7 q7=>?_
   obtain ⟨H7,I7,q7⟩:=q7
   cases ok with
   | false =>
    obtain ⟨m',hm,w7⟩:=q7
    obtain ⟨a1,a2,a3,a4,a5⟩:=fin I7
    exact ⟨m',hm,i+1,ys,its,nn,H7,pinD a5 a3 a4,a1,a2,rv,w7⟩
   | true =>
    refine thn (he G.objs.size s2 H2 fp _ s7 σ6 H7 _ I7 q7) fun v s8 q8=>?_
    obtain ⟨y,H8,I8,r8,m',hm,w8⟩:=q8
    obtain ⟨a1,a2,a3,a4,a5⟩:=fin I8
    refine append_at (its:=its.toArray) (n:=nn) a3 (fun h9 hs9 e9=>?_) (by rw [List.size_toArray,<- hlen'];exact hlen)
    have kp:∀ b o,b≠s2.heap.objs.size->s8.heap.get? b=some o->h9.get? b=some o:=fun b o hb e=>(hs9.2 b hb).trans e
    have I9:Inv (X.cmp scope cl own fr G.objs.size s2 H2 fp) [] (cBase own js σ) H8 { s8 with heap:=h9,toks:=s8.toks }:=by
     refine a5.turned kp a4 hDC (.inr (Nat.le_refl _)) (fun x c h z=>?_) (fun p hp=>absurd (show p∈([]:List (Addr × Obj)) from hp) (by simp))
     obtain ⟨v,o,ho,_⟩:=I2.cell x c (S.cells h)
     exact absurd z (Nat.ne_of_lt (Heap.lt_size ho))
    have e9':h9.get? s2.heap.objs.size=some { cls:=.type "list",data:=.seq (its++[v]).toArray (nn+1) }:=by
     rw [e9]
     simp
    refine ⟨m',hm,i+1,ys++[y],its++[v],nn+1,H8,pinD I9 e9' a4,T.keep _ _ _ a1 fun b hb o e=>kp b o ?_ e,a2,vals_snoc rv r8,w8⟩
    exact Nat.ne_of_lt (hfo b hb)
 exact codeAny_compStart_list (loop _) (T.self _ 0 _ _ _ (T.keep _ _ _ st0 fun b _ o e=>old b o e) (loop _))
theorem blk_out {H':Hp}{s':Shared}{D:Addr}{ys:List V}{its:List Value}{n:Nat}(I2:Inv X pins σ H2 s2)(hf:∀ b∈fp,FpOk X pins H2 b)(hD:s2.heap.objs.size<=D)(os:s'.os=s2.os)(bare:AllBare s'.gens)
  (un:Un (frs X.stack) fp H2 H' s2.heap s'.heap) (hok:HOk X.prog X.w H' s'.heap) (nD:H' D=none) (rv:Vals ys its) (e:s'.heap.get? D=some { cls:=.type "list",data:=.seq its.toArray n }) (hz:ys.length<=sizeLine) :
  Inv X pins σ (upd H' D (.lst ys)) s':=by
 refine I2.call' (ch:=fp) os (un.track nD (Heap.get?_none_of_le hD)) (hok.track nD ⟨hz,its,n,rv,e⟩) bare fun b hb=>?_
 obtain ⟨_,f1,_,f3,f4,f5⟩:=hf b hb
 exact ⟨f3,f1,f4,f5⟩
def tComp (own:List Str)(js:List Nat)(wi:TI)(g:TG)(tt:TT)(te:TE):TE:=fun σ H Q=>wi σ H fun J H1 =>
 cLoop J H1 (cBase own js σ) g tt te fun ys H2=>∀ D,H2 D=none->Q (.ref D) (upd H2 D (.lst ys))
theorem pe_comp {wi:TI}(S:CompSc X scope cl own fr js)(hcalm:X.calm=true)(hi:PI X tg iter wi)
  (hg:∀ C s0 H0 ex,PG (X.cmp scope cl own fr C s0 H0 ex) tg g) (ht:∀ C s0 H0 ex,PIf (X.cmp scope cl own fr C s0 H0 ex) ifs tt) (he:∀ C s0 H0 ex,PE (X.cmp scope cl own fr C s0 H0 ex) elt te)
  (hs:∀ x,foldedSetIterable iter X.env x=pure x:=by intro _;rfl):PE X (.ListComp elt [⟨tg,iter,ifs,0⟩] scope pos) (tComp own js wi g tt te):=by
 intro pins s σ H Q I h
 rw [eval_ListComp]
 refine wpAny_comprehension_free (use:=none) rfl hs S.clos S.kind S.names (thn (hi pins s σ H _ I h) fun v s1 q1=>thn q1 fun itv s2 q2=>?_)
 obtain ⟨it,fp,tn,J,H2,rfl,I2,T,st,hf,L⟩:=q2
 refine comp_core (RR:=fun acc C=>compPost (model X.prog X.w) X.A X.xe none (EP X pins σ Q) acc C) S hcalm hg ht he I2 T st hf L ?_
 intro D C s' ys its n H' m' hD hC hDC os bare un hok nD nC ns rv e hz fin
 refine ⟨m',ns,fun h'' hs''=>?_⟩
 have I3:=blk_out I2 hf hD os bare un hok nD rv e hz
 have nC':(upd H' D (.lst ys)) C=none:=by rw [upd_ne (Ne.symm hDC)];exact nC
 obtain ⟨f0,f1,_,f3,f4,f5⟩:=I2.fpOk hC nC'
 have I4:Inv X pins σ (upd H' D (.lst ys)) { s' with heap:=h'',toks:=s'.toks }:=I3.turned (fun b o hb q=>(hs''.2 b hb).trans q) f0 f1 f3 f4 f5
 exact ⟨.ref D,_,I4,rfl,fin D nD⟩
def tCompS (i:Nat)(own:List Str)(js:List Nat)(wi:TI)(g:TG)(tt:TT)(te:TE):TS:=fun D σ H=>wi σ H fun J H1 =>
 cLoop J H1 (cBase own js σ) g tt te fun ys H2=>∀ a,H2 a=none->D.nx (σ.set i (some (.ref a))) (upd H2 a (.lst ys))
theorem ps_comp {wi:TI}{i:Nat}{y:Str}{py spos:Pos}(hN:X.N.Nodup)(hy:X.N[i]?=some y)(hx:Loc X.env.scope y)(S:CompSc X scope cl own fr js)(hcalm:X.calm=true)(hi:PI X tg iter wi)
  (hg:∀ C s0 H0 ex,PG (X.cmp scope cl own fr C s0 H0 ex) tg g) (ht:∀ C s0 H0 ex,PIf (X.cmp scope cl own fr C s0 H0 ex) ifs tt) (he:∀ C s0 H0 ex,PE (X.cmp scope cl own fr C s0 H0 ex) elt te)
  (hsw:swapsWith (.ListComp elt [⟨tg,iter,ifs,0⟩] scope pos) (some (.Name y py)) spos.line X.env=pure true:=by rfl)
  (hf:X.fn y=true\/X.env.scope.names.lookup y=some .local:=by first | exact .inl rfl | exact .inr rfl | assumption)
  (hs:∀ x,foldedSetIterable iter X.env x=pure x:=by intro _;rfl):PS X (.Assign [.Name y py] (.ListComp elt [⟨tg,iter,ifs,0⟩] scope pos) spos) (tCompS i own js wi g tt te):=by
 intro pins s σ H D I h
 rw [exec_Assign_Name_used _ _ _ _ hsw]
 refine wpAny_bind (wpAny_standAt (wpAny_bind ?_))
 show wpAny _ X.A (do let _ <- comprehension (.ListComp elt [⟨tg,iter,ifs,0⟩] scope pos) scope X.env _ (newList []) false (eval iter X.env) (some (assign (.Name y py) X.env))) _ _ s
 refine wpAny_bind (thn (Q:=fun _ s'=>SP X pins D .next s') ?_ fun _ s' q=>wpAny_pure (wpAny_pure q))
 refine wpAny_comprehension_free (use:=some (assign (.Name y py) X.env)) rfl hs S.clos S.kind S.names (thn (hi pins s σ H _ I h) fun v s1 q1=>thn q1 fun itv s2 q2=>?_)
 obtain ⟨it,fp,tn,J,H2,rfl,I2,T,st,hfp,L⟩:=q2
 refine comp_core (RR:=fun acc C=>compPost (model X.prog X.w) X.A X.xe (some (assign (.Name y py) X.env)) (fun _ s'=>SP X pins D .next s') acc C) S hcalm hg ht he I2 T st hfp L ?_
 intro d C s' ys its n H' m' hD hC hDC os bare un hok nD nC ns rv e hz fin
 have I3:=blk_out I2 hfp hD os bare un hok nD rv e hz
 have nC':(upd H' d (.lst ys)) C=none:=by rw [upd_ne (Ne.symm hDC)];exact nC
 obtain ⟨f0,f1,_,f3,f4,f5⟩:=I2.fpOk hC nC'
 show wpAny _ X.A (assign (.Name y py) X.env (.ref d)) _ _ s'
 refine wpAny_assign_Name (store_ok2 I3 hN hy hx (v:=.ref d) rfl (fun s4 I4 ch=>?_) hf)
 obtain ⟨a,sb,ha⟩:=ch
 have hCa:C≠a:=by
  rcases ha with rfl | ha
  ·exact f1
  ·exact fun z=>f4 y a ha z.symm
 refine ⟨m',ns.sameBut sb hCa,fun h5 hs5=>?_⟩
 exact ⟨_,_,I4.turned (t':=s4.toks) (fun b o hb q=>(hs5.2 b hb).trans q) f0 f1 f3 f4 f5,fin d nD⟩
theorem comp_tup {K:PySem.W.Frag}{a:Addr}{xs:List V}{H:Hp}(Pv:Nat->List V->Hp->Prop)(h0:Pv 0 [] H)(hl:∀ i ys H,Pv i ys H->SqT K H a xs)(hn:xs.length < sizeLine)
  (hy:∀ i ys H,Pv i ys H->ys.length<=i)
  (hs:∀ i x ys H,xs[i]?=some x->Pv i ys H->g x σ H fun σ2 H2=>Ext σ σ2/\tt σ2 H2 fun b H3=>if b=true then te σ2 H3 fun y H4=>Pv (i+1) (ys++[y]) H4 else Pv (i+1) ys H3)
  (mg:∀ x σ H Q Q',(∀ σ' H',Q σ' H'->Q' σ' H')->g x σ H Q->g x σ H Q') (mt:∀ σ H Q Q',(∀ b H',Q b H'->Q' b H')->tt σ H Q->tt σ H Q') (me:∀ σ H Q Q',(∀ v H',Q v H'->Q' v H')->te σ H Q->te σ H Q')
  (hd:∀ ys H,Pv xs.length ys H->Fin ys H):cLoop (Itt K a) H σ g tt te Fin:=by
 refine ⟨fun i m ys H=>m=xs.length - i/\i<=xs.length/\Pv i ys H,⟨xs.length,by simp,Nat.zero_le _,h0⟩,?_⟩
 rintro i m ys H ⟨rfl,hi,p⟩
 have q:=hl i ys H p
 have hyl:=hy i ys H p
 refine ⟨by omega,?_⟩
 by_cases hlt:i < xs.length
 ·refine .inr ⟨⟨xs,xs[i],q,by simp [hlt]⟩,by omega,fun x H' y=>?_⟩
  obtain ⟨e,y⟩:=y
  subst e
  refine mg _ _ _ _ _ (fun σ2 H2 z=>⟨z.1,mt _ _ _ _ (fun b H3 z=>?_) z.2⟩) (hs i x ys _ (y xs q) p)
  cases b with
  | true=>exact me _ _ _ _ (fun y H4 z=>⟨xs.length - (i+1),by omega,rfl,hlt,z⟩) z
  | false=>exact ⟨xs.length - (i+1),by omega,rfl,hlt,z⟩
 ·have e:i=xs.length:=by omega
  subst e
  exact .inl ⟨⟨xs,q,Nat.le_refl _⟩,hd ys H p⟩
end
end L2
namespace L2
open PySem PySem.Spec PyProof.Rows
def ItRev (K:PySem.W.Frag)(a:Addr)(n:Nat):It :=
 ⟨fun i H=>∃ xs,SqL K H a xs/\xs.length=n/\i < n,fun i H x H'=>H'=H/\∀ xs,SqL K H a xs->xs.reverse[i]?=some x,fun i _=>n<=i⟩
theorem turn_rev {P:Program}{w:World}{K:PySem.W.Frag}{tg:Expr}(a it:Addr)(n:Nat):Turn P w K tg (ItRev K a n) [it] it (fun i h=>i<=n/\h.IsRevIter it a ((n:Int) - 1 - (i:Int))) where
 mem:=by simp
 obj:=by
  intro i h st b hb
  obtain rfl:b=it:=by simpa using hb
  obtain ⟨_,o,e,c,d⟩:=st
  exact ⟨o,e,fun v z=>by rw [d] at z;cases z⟩
 keep:=fun i h h' st k=>⟨st.1,st.2.at fun o e=>k it (by simp) o e⟩
 item:=by
  intro X hP hw hK hc i pins s σ H E I hf st hg
  subst hP hw hK
  obtain ⟨xs,hq,hn,hi⟩:=hg
  obtain ⟨its,rv,p,hz⟩:=I.list hq
  have hlen:=rv.length
  obtain ⟨f0,f1,f2,f3,f4,f5⟩:=hf it (by simp)
  have ix:n - 1 - i < xs.length:=by omega
  have hx:xs[n - 1 - i]?=some (xs[n - 1 - i]'ix):=List.getElem?_eq_getElem ix
  obtain ⟨u,hu,ru⟩:=rv.get hx
  have ei:(n:Int) - 1 - (i:Int)=((n - 1 - i:Nat):Int):=by omega
  have st':=st.2
  rw [ei] at st'
  refine wpAny_pyNext_rev_item st' p.isList (x:=u) (by simpa using hu) fun h' st2 sb=>?_
  have I1:Inv X pins σ H { s with heap:=h' }:=I.turned (t':=s.toks) (fun b o hb e=>(sb.2 b hb).trans e) f0 f1 f3 f4 f5
  have e2:((n - 1 - i:Nat):Int) - 1=(n:Int) - 1 - ((i+1:Nat):Int):=by omega
  rw [e2] at st2
  obtain ⟨o,e,c,d⟩:=id st2
  refine ⟨u,rfl,go_of (s:={ s with heap:=h' }) e c d (by decide) ⟨xs[n - 1 - i]'ix,H,I1,ru,⟨rfl,fun ys hy=>?_⟩,⟨hi,st2⟩,fun b hb=>(hf b hb).1⟩⟩
  rw [I.list_inj hy hq,List.getElem?_reverse (by omega),<- hx]
  congr 1
  omega
 done:=by
  intro X hP hw hK hc i pins s σ H E I hf st hg
  subst hP hw hK
  obtain ⟨f0,f1,f2,f3,f4,f5⟩:=hf it (by simp)
  have hg':n<=i:=hg
  have e1:(n:Int) - 1 - (i:Int)=-1:=by have:=st.1;omega
  have st':=st.2
  rw [e1] at st'
  exact wpAny_pyNext_rev_end (I.ok.hd hc) st' fun h' eb=>⟨rfl,I.turned (t':=s.toks) (fun b o hb e=>eb b o hb e) f0 f1 f3 f4 f5⟩
 self:=fun _ _ _ _ _ st h=>wpAny_pyIter_revIter st.2 h
section
variable {X:Cx}{tg:Expr}
def iRev (K:PySem.W.Frag)(ta:TA):TI:=fun σ H R=>ta σ H fun vs H1=>∃ a xs,vs=[.ref a]/\SqL K H1 a xs/\R (ItRev K a xs.length) H1
theorem pi_rev {a:Expr}{ta:TA}{p pos:Pos}(hg:Gl X "reversed")(hm:X.mg "reversed"=none)(ha:PA X [a] ta)(hs:starEach [a] X.env=[(false,eval a X.env)]:=by rfl):PI X tg (.Call (.Name "reversed" p) [a] [] pos) (iRev X.K ta):=by
 intro pins s σ H R I h
 refine Call_ (ld_blt I hg hm boot_reversed (PyProof.Rows.callWith_type1 (thn (ha pos pins s σ H _ I h) fun us s1 q1=>?_) hs rfl))
 obtain ⟨vs,H1,I1,r1,l,xs,rfl,hq,q⟩:=q1
 obtain ⟨u,rfl,ru⟩:=vals1 r1
 cases ru
 obtain ⟨its,rv,pl,hz⟩:=I1.list hq
 have hlen:=rv.length
 refine call_reversed_list pl.isList ?_
 have gr:(s1.heap.push (revObj l ((its.toArray.size:Int) - 1))).IsRevIter s1.heap.objs.size l ((xs.length:Int) - 1 - ((0:Nat):Int)):=by
  refine ⟨_,Heap.get?_push_size _ rfl,rfl,?_⟩
  show Data.fields #[.ref l,rawInt ((its.toArray.size:Int) - 1)]=_
  rw [List.size_toArray,<- hlen]
  simp
 refine wpAny_pyIter_revIter gr ?_
 refine ⟨s1.heap.objs.size,[s1.heap.objs.size],_,_,H1,rfl,I1.kept (t':=s1.toks) fun b o e=>Heap.get?_push_of_some _ e,turn_rev l _ xs.length,⟨Nat.zero_le _,gr⟩,fun b hb=>?_,q⟩
 obtain rfl:b=s1.heap.objs.size:=by simpa using hb
 exact I1.fpOk (Nat.le_refl _) (I1.hok.fresh (Nat.le_refl _))
end
theorem for_rev {K:PySem.W.Frag}{a:Addr}{xs:List V}{g:TG}{tb:TS}{D:Ends}{σ:St}{H:Hp}(Pv:Nat->St->Hp->Prop)(h0:Pv 0 σ H)(hl:∀ i σ H,i<=xs.length->Pv i σ H->SqL K H a xs)
  (hs:∀ i x σ H,xs.reverse[i]?=some x->Pv i σ H->g x σ H fun σ2 H2=>tb { D with nx:=Pv (i+1),ct:=Pv (i+1),bk:=D.nx } σ2 H2) (hd:∀ σ H,Pv xs.length σ H->D.nx σ H) :
  ∃ W:Nat->Nat->St->Hp->Prop,(∃ m,W 0 m σ H)/\∀ i m σ H,W i m σ H ->
   ((ItRev K a xs.length).stop i H/\D.nx σ H)\/((ItRev K a xs.length).go i H/\∃ N:St->Hp->Prop,(∀ σ' H',N σ' H'->∃ m',m' < m/\W (i+1) m' σ' H')/\∀ x H',(ItRev K a xs.length).yld i H x H'->g x σ H' fun σ2 H2=>tb { D with nx:=N,ct:=N,bk:=D.nx } σ2 H2):=by
 refine ⟨fun i m σ H=>m=xs.length - i/\i<=xs.length/\Pv i σ H,⟨xs.length,by simp,Nat.zero_le _,h0⟩,?_⟩
 rintro i m σ H ⟨rfl,hi,p⟩
 have q:=hl i σ H hi p
 by_cases hlt:i < xs.length
 ·refine .inr ⟨⟨xs,q,rfl,hlt⟩,Pv (i+1),fun σ' H' p'=>⟨xs.length - (i+1),by omega,rfl,hlt,p'⟩,fun x H' y=>?_⟩
  obtain ⟨e,y⟩:=y
  subst e
  exact hs i x σ _ (y xs q) p
 ·obtain rfl:i=xs.length:=by omega
  exact .inl ⟨Nat.le_refl _,hd σ H p⟩
end L2
namespace L2
open PySem PySem.Spec PyProof.Rows
open PySem.W (fnMade fnX envX CodeHd tabObj makeFunction_K makeFunction_hit nestDef_K FnAt callWith_F)
def ObO (a:Addr)(o:Obj):HO:=.ext fun h=>h.get? a=some o
def del (H:Hp)(a:Addr):Hp:=fun b=>if b=a then none else H b
section
variable {P:Program}{w:World}{H H':Hp}{h h':Heap}{a b:Addr}{o:Obj}{fs:List Addr}
theorem ObO.ok (e:h.get? a=some o):ObjOk P w H h a (ObO a o):=⟨e,⟨o,e⟩,fun h1 h2 p k=>k o p⟩
theorem ObO.get (x:HOk P w H h)(e:H a=some (ObO a o)):h.get? a=some o:=(x a _ e).1
theorem del_same:del H a a=none:=by unfold del;rw [if_pos rfl]
theorem del_ne (n:b≠a):del H a b=H b:=by unfold del;rw [if_neg n]
theorem del_none (n:H b=none):del H a b=none:=by
 unfold del
 split
 ·rfl
 ·exact n
theorem HOk.del {φ:Heap->Prop}(x:HOk P w H h)(e:H a=some (.ext φ)):HOk P w (del H a) h:=by
 intro b u q
 by_cases hb:b=a
 ·subst hb;rw [del_same] at q;cases q
 ·rw [del_ne hb] at q
  refine (x b u q).stay (fun _ _ _ z=>z) (fun c z=>?_) (fun c xs z=>?_)
  ·rw [del_ne]
   ·exact z
   ·intro y;subst y;rw [e] at z;cases z
  ·rw [del_ne]
   ·exact z
   ·intro y;subst y;rw [e] at z;cases z
theorem Un.lent (u:Un fs [] (upd H a (ObO a o)) H' h h')(hn:H a=none)(e:h.get? a=some o)(e':h'.get? a=some o):Un fs [] H (del H' a) h h' where
 keep:=fun b ob q n hb hx=>by
  by_cases z:b=a
  ·subst z;rw [e] at q;cases q;exact e'
  ·exact u.keep b ob q (by rw [upd_ne z];exact n) hb hx
 slot:=fun b ob q n hb hx=>by
  by_cases z:b=a
  ·subst z;rw [e] at q;cases q;exact ⟨o.slots,e'⟩
  ·exact u.slot b ob q (by rw [upd_ne z];exact n) hb hx
 free:=fun b ob q n hx=>by
  by_cases z:b=a
  ·subst z;exact del_same
  ·exact del_none (u.free b ob q (by rw [upd_ne z];exact n) hx)
 there:=fun b ob q hx=>u.there b ob q hx
 tups:=fun b xs q=>by
  have z:=ne_of_none q hn
  rw [del_ne z]
  exact u.tups b xs (by rw [upd_ne z];exact q)
 frzs:=fun b ob xs q=>by
  have z:=ne_of_none q hn
  rw [del_ne z]
  exact u.frzs b ob xs (by rw [upd_ne z];exact q)
 tbls:=fun b ps q=>by
  have z:=ne_of_none q hn
  obtain ⟨more,y⟩:=u.tbls b ps (by rw [upd_ne z];exact q)
  exact ⟨more,by rw [del_ne z];exact y⟩
theorem Un.unlent (u:Un fs [] (del H a) H' h h')(hn:H a=some (ObO a o))(e:h.get? a=some o):Un fs [] H (upd H' a (ObO a o)) h h' where
 keep:=fun b ob q n hb hx=>u.keep b ob q (del_none n) hb hx
 slot:=fun b ob q n hb hx=>u.slot b ob q (del_none n) hb hx
 free:=fun b ob q n hx=>by
  have z:b≠a:=fun z=>by rw [z,hn] at n;cases n
  rw [upd_ne z]
  exact u.free b ob q (del_none n) hx
 there:=fun b ob q hx=>u.there b ob q hx
 tups:=fun b xs q=>by
  have z:b≠a:=fun z=>by rw [z,hn] at q;cases q
  rw [upd_ne z]
  exact u.tups b xs (by rw [del_ne z];exact q)
 frzs:=fun b ob xs q=>by
  have z:b≠a:=fun z=>by rw [z,hn] at q;cases q
  rw [upd_ne z]
  exact u.frzs b ob xs (by rw [del_ne z];exact q)
 tbls:=fun b ps q=>by
  have z:b≠a:=fun z=>by rw [z,hn] at q;cases q
  obtain ⟨more,y⟩:=u.tbls b ps (by rw [del_ne z];exact q)
  exact ⟨more,by rw [upd_ne z];exact y⟩
end
section
variable {X:Cx}{k:Nat}{f:Addr}{fd:FuncData}{ps:List Str}{sp:Sp}{x y:Str}{p pos:Pos}{e:Expr}{es:List Expr}{t:TA}{i:Nat}
def tCallL (sp:Sp)(i:Nat)(c:Addr)(t:TA):TE:=fun σ H Q=>∃ v,σ[i]?=some (some v)/\t σ H fun vs H1=>∀ co u,H1 c=none->co.data=.cell (some u)->RelV v u ->
 sp vs (upd H1 c (ObO c co)) (fun r H2=>H2 c=some (ObO c co)/\Q r (del H2 c)) E0
theorem Inv.cellAt {pins:List (Addr × Obj)}{σ:St}{H:Hp}{s:Shared}{v:V}{c:Addr}(I:Inv X pins σ H s)(hi:X.N[i]?=some y)(hv:σ[i]?=some (some v))(hk:X.env.kindOf y=some .cell)(hc:X.env.cells.lookup y=some c):
  ∃ co u,s.heap.get? c=some co/\co.data=.cell (some u)/\RelV v u:=by
 obtain ⟨m,_,hl⟩:=I.loc
 obtain ⟨u,r,lk⟩:=hl i y v hi hv (.inr (.inl hk))
 rcases lk with ⟨z,_⟩ | ⟨_,c',e',o,ho,hd⟩
 ·rw [hk] at z;cases z
 ·rw [hc] at e';cases e'
  exact ⟨o,u,ho,hd,r⟩
theorem pe_callL {c:Addr}(F:FnOk X.prog X.w X.K X.mg X.base CX0 k f fd ps sp)(hr:Room k X.A)(hg:Gl X x)(hm:X.mg x=some (.ref f))(hk:PySem.W.keepIn X.K (.ref f)=true)(hb:Binds X.K fd ps [])
  (hi:X.N[i]?=some y) (hy:X.env.kindOf y=some .cell) (hc:X.env.cells.lookup y=some c) (hfn:X.fn y=true) (ha:PA X (e::es) t) (hdb:(x==("__debug__":Str))=false:=by decide)
  (he:starEach (e::es) X.env=(false,eval e X.env)::starEach es X.env:=by rfl) (hpl:(backTo pos (starEach es X.env)).any (·.1)=false:=by rfl) :
  PE X (.Call (.Name x p) (e::es) [] pos) (tCallL sp i c t):=by
 intro pins s σ H Q I h
 obtain ⟨v,hv,h⟩:=h
 refine wpAny_Call_Name_kw (ld_glob I hg hm ?_ hdb)
 refine PySem.W.callWith_K (h₀:=X.base) I.ok.mod.kin hk (thn (ha pos pins s σ H _ I h) fun us s1 q1=>?_) he hpl
 obtain ⟨vs,H1,I1,r1,q1⟩:=q1
 refine ⟨I1.kIn,?_⟩
 obtain ⟨co,u,eco,dco,ru⟩:=I1.cellAt hi hv hy hc
 have nc:H1 c=none:=I1.freeC y c hc
 have q:=q1 co u nc dco ru
 have cab:=I1.ok.cab y c hfn hc
 have hl:us.length=ps.length:=by rw [<- r1.length];exact F.len _ _ _ _ q
 have E1:Env0 X.prog X.w X.K X.mg X.base X.A X.stack s1 (upd H1 c (ObO c co)):=by
  obtain ⟨a1,a2,a3,a4,a5,a6,a7,a8⟩:=I1.env0
  refine ⟨a1,a2,fun b o z=>⟨(a3 b o z).1,?_⟩,a4,a5,fun b z=>?_,a7.track nc (ObO.ok eco),a8⟩
  ·rw [upd_ne]
   ·exact (a3 b o z).2
   ·intro w
    have h1:=Heap.lt_size z
    subst w
    exact absurd (Nat.lt_of_lt_of_le h1 (Nat.le_trans I1.ok.bsz cab)) (Nat.lt_irrefl _)
  ·rw [upd_ne]
   ·exact a6 b z
   ·intro w
    subst w
    rcases List.mem_cons.mp (I1.stkSub b z) with e1 | e1
    ·exact I1.cne y b hc e1
    ·obtain ⟨_,o,ho,_⟩:=I1.ok.funs.mem e1
     exact absurd (Nat.lt_of_lt_of_le (Heap.lt_size ho) cab) (Nat.lt_irrefl _)
 have hz:us++[]=us:=List.append_nil us
 have hbind:=hb s1 us I1.kIn (by rw [hz];exact hl)
 rw [hz] at hbind
 show wpAny _ _ (call (.ref f) ([]++us)) _ _ _
 refine wpAny_call (codeAny_mono (F.run X.A X.stack s1 _ ⟨us,[]⟩ us vs _ E0 hr E1 hbind r1 q) fun r s' hq=>?_)
 cases r with
 | error e=>exact False.elim hq
 | ok fl =>
  cases fl with
  | ret u' =>
   obtain ⟨v',H',os,bare,un,hok,rv,hc',q'⟩:=hq
   exact I1.after ⟨v',del H' c,os,bare,un.lent nc eco (ObO.get hok hc'),hok.del hc',rv,q'⟩
  | next=>exact False.elim hq
  | brk=>exact False.elim hq
  | cont=>exact False.elim hq
end
section
variable {X:Cx}{k:Nat}{f:Addr}{fd:FuncData}{ps:List Str}{sp:Sp}{x:Str}{p pos:Pos}{e:Expr}{es:List Expr}{t:TA}{i:Nat}{fo:Obj}
end
structure NestB (base:Heap)(mg:Str->Option Value)(c P:Addr):Prop where
 hd:CodeHd base c P
 bm:∃ bm ob,mg "__builtins__"=some (.ref bm)/\bm≠builtinsNs/\base.get? bm=some ob/\ob.cls=.type "module"/\ob.dict=some builtinsNs/\ob.data=.plain
def IsCodeO (q:Str)(oc:Obj):Prop:=∃ vs t,oc.data=.fields vs/\vs[1]?=some (.str q t)
section
variable {X:Cx}{c P:Addr}{name q:Str}{params:Arguments}{body:List Stmt}{scope:Scope}{pos:Pos}{clos:List (Str × Addr)}{i:Nat}
def tDef (i:Nat)(P:Addr)(pos:Pos)(mk:Value->Addr->Value->Obj)(q:Str):TS:=fun D σ H =>
 (H P=some (.tbl #[])/\∀ f c' oc ctv doc,IsCodeO q oc->H f=none->H c'=none->f≠c' ->
   D.nx (σ.set i (some (.ref f))) (upd (upd (upd H P (.tbl #[rawInt pos.line,rawInt pos.col,.ref c'])) c' (ObO c' oc)) f (ObO f (mk doc c' ctv)))) \/
 (∃ c',H P=some (.tbl #[rawInt pos.line,rawInt pos.col,.ref c'])/\∀ f ctv doc,H f=none->D.nx (σ.set i (some (.ref f))) (upd H f (ObO f (mk doc c' ctv))))
theorem ps_def (B:NestB X.base X.mg c P)(hcode:X.env.code=.ref c)(hcl:closureFor scope X.env=pure clos)(hq:qualnameIn X.env name name=q)(hd0:params.defaults=[])(hk0:params.kw_defaults=[])(ha:annTrees params none X.env=[])
  (hN:X.N.Nodup) (hi:X.N[i]?=some name) (hx:Loc X.env.scope name) (hf:X.fn name=true\/X.env.scope.names.lookup name=some .local:=by first | exact .inl rfl | exact .inr rfl | assumption) :
  PS X (.FunctionDef name params body [] none [] scope none name pos) (tDef i P pos (fun doc c' ctv=>fnMade name q params body scope clos doc ((X.mg "__name__").getD .none) c' ctv) q):=by
 intro pins s σ H D I h
 have hg:s.heap.Ns mainGlobals X.mg:=I.mod.glob.keeps I.bk
 have C:CodeHd s.heap c P:=B.hd.keeps I.bk
 refine nestDef_K hd0 hk0 ha ?_
 rw [hq]
 have hP:∃ ps,H P=some (.tbl ps):=by
  rcases h with ⟨z,_⟩ | ⟨_,z,_⟩
  ·exact ⟨_,z⟩
  ·exact ⟨_,z⟩
 have nP:∀ b o,X.base.get? b=some o->b≠P:=fun b o z w=>by
  obtain ⟨ps,hP⟩:=hP
  have:=(I.bs b o z).2
  rw [w,hP] at this
  cases this
 have hb:s.heap.BuiltinsAt X.mg P:=by
  obtain ⟨bm,ob,b1,b2,b3,b4,b5,b6⟩:=B.bm
  refine ⟨bm,ob,b1,b2,?_,nP _ _ b3,I.bk _ _ b3,b4,b5,b6⟩
  intro z
  obtain ⟨o,es,ep,e,hd,_⟩:=I.mod.glob
  rw [z,e] at b3;cases b3;rw [hd] at b6;cases b6
 have hgP:mainGlobals≠P:=by
  obtain ⟨o,es,ep,e,hd,_⟩:=I.mod.glob
  exact nP _ _ e
 rcases h with ⟨hP,h⟩ | ⟨c',hP,h⟩
 ·have gP:s.heap.get? P=some (tabObj #[]):=I.hok P _ hP
  refine makeFunction_K (mg:=X.mg) hcl I.ok.glob hg hcode C gP trivial rfl hgP hb fun c' ctv doc h' tk hx' hge hlt hrec htb=>?_
  obtain ⟨c2,oc,vs,t,e2,hoc,hod,hov⟩:=hrec
  cases e2
  have nf:H h'.objs.size=none:=I.hok.fresh (by omega)
  have nc:H c'=none:=I.hok.fresh hge
  have fc:h'.objs.size≠c':=by omega
  have hPlt:=Heap.lt_size gP
  have oldK:∀ b o,b≠P->s.heap.get? b=some o->(h'.push (fnMade name q params body scope clos doc ((X.mg "__name__").getD .none) c' ctv)).get? b=some o:=fun b o hb' z=>Heap.get?_push_of_some _ (hx' b o hb' z)
  have I1:Inv X pins σ (upd (upd (upd H P (.tbl #[rawInt pos.line,rawInt pos.col,.ref c'])) c' (ObO c' oc)) h'.objs.size (ObO h'.objs.size (fnMade name q params body scope clos doc ((X.mg "__name__").getD .none) c' ctv)))
    { s with heap:=h'.push (fnMade name q params body scope clos doc ((X.mg "__name__").getD .none) c' ctv),toks:=tk }:=by
   have look:∀ b,b≠P->b≠c'->b≠h'.objs.size->∀ o1 o2 o3,(upd (upd (upd H P o1) c' o2) h'.objs.size o3) b=H b:=fun b b1 b2 b3 o1 o2 o3=>by rw [upd_ne b3,upd_ne b2,upd_ne b1]
   have some_ne:∀ b u,H b=some u->(∀ ps,u≠.tbl ps)->b≠P/\b≠c'/\b≠h'.objs.size:=fun b u z hu=>⟨fun w=>by rw [w,hP] at z;exact hu _ (Option.some.inj z).symm,ne_of_none z nc,ne_of_none z nf⟩
   have lt_ne:∀ b o,s.heap.get? b=some o->b≠c'/\b≠h'.objs.size:=fun b o z=>by
    have:=Heap.lt_size z
    exact ⟨Nat.ne_of_lt (Nat.lt_of_lt_of_le this hge),Nat.ne_of_lt (Nat.lt_of_lt_of_le this (Nat.le_trans hge (Nat.le_of_lt hlt)))⟩
   refine I.un ⟨fun b o z n _ _=>?_,fun b o z n _ _=>?_,fun b o z n _=>?_,fun b o z _=>?_,fun b xs z=>?_,fun b o u z=>?_,fun b ps z=>?_⟩ (fun b u z=>?_)
   ·exact oldK b o (fun w=>by rw [w,hP] at n;cases n) z
   ·exact ⟨o.slots,oldK b o (fun w=>by rw [w,hP] at n;cases n) z⟩
   ·rw [look b (fun w=>by rw [w,hP] at n;cases n) (lt_ne b o z).1 (lt_ne b o z).2];exact n
   ·by_cases w:b=P
    ·subst w;exact ⟨_,Heap.get?_push_of_some _ htb⟩
    ·exact ⟨o,oldK b o w z⟩
   ·obtain ⟨n1,n2,n3⟩:=some_ne b _ z (fun _ w=>by cases w)
    rw [look b n1 n2 n3];exact z
   ·obtain ⟨n1,n2,n3⟩:=some_ne b _ z (fun _ w=>by cases w)
    rw [look b n1 n2 n3];exact z
   ·by_cases w:b=P
    ·subst w
     rw [hP] at z;cases z
     refine ⟨#[rawInt pos.line,rawInt pos.col,.ref c'],?_⟩
     rw [upd_ne (Ne.symm (ne_of_none hP nf).symm),upd_ne (Ne.symm (ne_of_none hP nc).symm),upd_same]
     simp
    ·refine ⟨#[],?_⟩
     rw [look b w (ne_of_none z nc) (ne_of_none z nf),z]
     simp
   ·by_cases w3:b=h'.objs.size
    ·subst w3
     rw [upd_same] at z;cases z
     exact ObO.ok (Heap.get?_push_size _ rfl)
    ·rw [upd_ne w3] at z
     by_cases w2:b=c'
     ·subst w2
      rw [upd_same] at z;cases z
      exact ObO.ok (Heap.get?_push_of_some _ hoc)
     ·rw [upd_ne w2] at z
      by_cases w1:b=P
      ·subst w1
       rw [upd_same] at z;cases z
       show (h'.push _).get? b=some _
       have htb':h'.get? b=some (tabObj #[rawInt pos.line,rawInt pos.col,.ref c']):=by simpa using htb
       exact Heap.get?_push_of_some _ htb'
      ·rw [upd_ne w1] at z
       refine (I.hok b u z).stay (fun d v hd' y=>oldK d v ?_ y) (fun d y=>?_) (fun d xs y=>?_)
       ·rcases hd' with rfl | hd'
        ·exact w1
        ·exact (some_ne d _ hd' (fun _ w=>by cases w)).1
       ·obtain ⟨n1,n2,n3⟩:=some_ne d _ y (fun _ w=>by cases w)
        rw [look d n1 n2 n3];exact y
       ·obtain ⟨n1,n2,n3⟩:=some_ne d _ y (fun _ w=>by cases w)
        rw [look d n1 n2 n3];exact y
  refine store_ok (v:=.ref h'.objs.size) I1 hN hi hx rfl (fun s2 I2=>?_) hf
  exact ⟨_,_,I2,h h'.objs.size c' oc ctv doc ⟨vs,t,hod,hov⟩ nf nc fc⟩
 ·have gP:s.heap.get? P=some (tabObj #[rawInt pos.line,rawInt pos.col,.ref c']):=I.hok P _ hP
  refine makeFunction_hit (mg:=X.mg) hcl I.ok.glob hg hcode C gP (by simp [TriplesOk,rawInt]) (cv:=.ref c') (by simp [codeAmong,rawInt]) hb fun ctv doc h' tk hk hsz=>?_
  have nf:H h'.objs.size=none:=I.hok.fresh hsz
  have I1:Inv X pins σ (upd H h'.objs.size (ObO h'.objs.size (fnMade name q params body scope clos doc ((X.mg "__name__").getD .none) c' ctv)))
    { s with heap:=h'.push (fnMade name q params body scope clos doc ((X.mg "__name__").getD .none) c' ctv),toks:=tk } :=
   I.laid (fun b o z=>Heap.get?_push_of_some _ (hk b o z)) hsz (ObO.ok (Heap.get?_push_size _ rfl))
  refine store_ok (v:=.ref h'.objs.size) I1 hN hi hx rfl (fun s2 I2=>?_) hf
  exact ⟨_,_,I2,h h'.objs.size ctv doc nf⟩
end
structure ClScope (N ps:List Str)(y:Str)(sc:Scope):Prop where
 kind:sc.kind=.function
 co:sc.isCoroutine=false
 gen:sc.isGenerator=false
 nd:N.Nodup
 pre:N.take (ps.length+1)=ps++[y]
 par:∀ x∈ps,sc.names.lookup x=some .local
 nocell:∀ z∈sc.names,z.2≠.cell
 fre:∀ z∈sc.names,z.2=.free->z.1=y
 isf:sc.names.lookup y=some .free
def cxCl (P:Program)(w:World)(K:PySem.W.Frag)(mg:Str->Option Value)(base:Heap)(N:List Str)(qual:Str)(scope:Scope)(f:Addr)(cd:Value)(clos:List (Str × Addr))(A:Around)(outer:List Env)(s:Shared)(H:Hp):Cx where
 prog:=P
 w:=w
 K:=K
 mg:=mg
 base:=base
 A:=A.deeper (envX qual scope s.heap.objs.size f cd clos)
 N:=N
 s₀:=s
 H₀:=H
 env:=envX qual scope s.heap.objs.size f cd clos
 outer:=outer
 stack:=envX qual scope s.heap.objs.size f cd clos::outer
 ex:=[]
 calm:=true
 fn:=fun _=>false
 pn:=[]
 xe:=noX
theorem zip_look:∀ {ps:List Str} {us:List Value} {i:Nat} {x:Str} {u:Value},ps.Nodup->ps[i]?=some x->us[i]?=some u->(ps.zip us).reverse.lookup x=some u
 | [],_,_,_,_,_,h,_=>by simp at h
 | _::_,[],_,_,_,_,_,h=>by simp at h
 | p::ps,w::us,0,x,u,nd,h1,h2=>by
  simp at h1 h2
  subst h1 h2
  have hn:(ps.zip us).reverse.lookup p=none:=by
   cases e:(ps.zip us).reverse.lookup p with
   | none=>rfl
   | some z =>
    have hm:=lookup_mem e
    rw [List.mem_reverse] at hm
    exact absurd (List.of_mem_zip hm).1 (List.nodup_cons.mp nd).1
  rw [List.zip_cons_cons,List.reverse_cons,List.lookup_append,hn]
  simp [List.lookup_cons]
 | p::ps,w::us,i+1,x,u,nd,h1,h2=>by
  have ih:=zip_look (ps:=ps) (us:=us) (i:=i) (List.nodup_cons.mp nd).2 (by simpa using h1) (by simpa using h2)
  rw [List.zip_cons_cons,List.reverse_cons,List.lookup_append,ih]
  rfl
section
variable {P:Program}{w:World}{K:PySem.W.Frag}{mg:Str->Option Value}{base:Heap}{N ps:List Str}{y qual:Str}{scope:Scope}{f c c':Addr}{A:Around}{outer:List Env}{s:Shared}{H:Hp}{us:List Value}{vs:List V}
theorem inv_startCl {h1:Heap}{tk:Nat}{co:Obj}{u:Value}{v:V}(S:ClScope N ps y scope)(hd:A.handled=none)(e0:Env0 P w K mg base A outer s H)(hl:vs.length=ps.length)(r:Vals vs us)(nc:H c=none)(gc:s.heap.get? c=some co)(dc:co.data=.cell (some u))
  (rv:RelV v u) (hns:h1.Ns s.heap.objs.size fun x=>(ps.zip us).reverse.lookup x) (hk:∀ b o,s.heap.get? b=some o->h1.get? b=some o) :
  Inv (cxCl P w K mg base N qual scope f (.ref c') [(y,c)] A outer s H) [] (start N (vs++[v])) H { s with heap:=h1,toks:=tk }:=by
 have hpl:ps.length+1<=N.length:=by have:=congrArg List.length S.pre;rw [List.length_take] at this;simp at this;omega
 have noA:∀ b:Addr,b∉(cxCl P w K mg base N qual scope f (.ref c') [(y,c)] A outer s H).ex:=fun b z=>absurd (show b∈([]:List Addr) from z) (by simp)
 have one:∀ x d,List.lookup x [(y,c)]=some d->x=y/\d=c:=fun x d z=>by
  have:=lookup_mem z
  simpa using this
 have hyc:List.lookup y [(y,c)]=some c:=by simp [List.lookup_cons]
 refine ⟨⟨e0.mod,S.kind,rfl,rfl,Nat.le_refl _,fun x z d h1 h2=>?_,fun x hx=>?_,fun x d z _=>?_,fun _=>hd,Around.frames_deeper e0.frames,.inr ⟨rfl,rfl⟩,fun b z=>absurd z (noA b),e0.bs,e0.bsz,fun b _ _=>noA b,fun b z=>absurd z (noA b),e0.funs,e0.frf⟩,
  rfl,e0.bare,Un.kept hk,⟨_,hns,fun i x v' h1 h2 h3=>?_⟩,fun x d z=>?_,e0.hok.fresh (Nat.le_refl _),fun x d z=>?_,fun p hp=>absurd (show p∈([]:List (Addr × Obj)) from hp) (by simp),e0.hok.kept hk,?_⟩
 ·exact (one _ _ h1).1.trans (one _ _ h2).1.symm
 ·have hx:scope.names.lookup x=some .cell\/scope.names.lookup x=some .free:=hx
  rcases hx with hx | hx
  ·exact absurd rfl (S.nocell _ (lookup_mem hx))
  ·have e:=S.fre _ (lookup_mem hx) rfl
   have e':x=y:=e
   subst e'
   exact ⟨c,hyc⟩
 ·exact absurd (show false=true from z) Bool.false_ne_true
 ·have hNl:i < ps.length+1:=by
   by_cases hi:i < ps.length+1
   ·exact hi
   ·unfold start at h2
    rw [List.getElem?_append_right (by simp;omega),List.getElem?_replicate] at h2
    split at h2 <;> cases h2
  have hN':(ps++[y])[i]?=some x:=by
   rw [<- S.pre,List.getElem?_take_of_lt hNl];exact h1
  have ha:(vs++[v])[i]?=some v':=by
   unfold start at h2
   rw [List.getElem?_append_left (by simp;omega),List.getElem?_map] at h2
   cases e:(vs++[v])[i]? with
   | none=>rw [e] at h2;cases h2
   | some a=>rw [e] at h2;cases h2;rfl
  have ndP:(ps++[y]).Nodup:=by rw [<- S.pre];exact S.nd.sublist (List.take_sublist _ _)
  by_cases hi:i < ps.length
  ·rw [List.getElem?_append_left hi] at hN'
   rw [List.getElem?_append_left (by omega)] at ha
   obtain ⟨u',hu',ru'⟩:=r.get ha
   exact ⟨u',ru',.inl ⟨S.par x (List.mem_of_getElem? hN'),zip_look (List.nodup_append.mp ndP).1 hN' hu'⟩⟩
  ·have hi':i=ps.length:=by omega
   subst hi'
   rw [List.getElem?_append_right (Nat.le_refl _)] at hN'
   rw [List.getElem?_append_right (by omega)] at ha
   simp [hl] at hN' ha
   subst hN' ha
   exact ⟨u,rv,.inr ⟨.inr S.isf,c,hyc,co,hk _ _ gc,dc⟩⟩
 ·obtain ⟨_,rfl⟩:=one _ _ z
  exact ⟨_,co,hk _ _ gc,dc⟩
 ·obtain ⟨_,rfl⟩:=one _ _ z
  exact nc
 ·unfold start
  show _=N.length
  rw [List.length_append,List.length_map,List.length_replicate]
  simp
  omega
theorem cl_of {k:Nat}{st:Stmt}{name:Str}{doc pm ctv u:Value}{oc co:Obj}{v:V}{sp:Sp}(S:ClScope N ps y (defScope st))(hoc:IsCodeO qual oc)(dc:co.data=.cell (some u))(rv:RelV v u)
  (len:∀ vs H Q E,sp vs H Q E->vs.length=ps.length)
  (tr:∀ vs H Q E,sp vs H Q E->H f=some (ObO f (fnMade name qual (defArgs st) (defBody st) (defScope st) [(y,c)] doc pm c' ctv))/\H c'=some (ObO c' oc)/\H c=some (ObO c co))
  (hbody:∀ (A:Around) (outer:List Env) (s:Shared) (H:Hp) (vs:List V) (Q:VK) (E:XK),Room k (A.deeper (envX qual (defScope st) s.heap.objs.size f (.ref c') [(y,c)]))->sp vs H Q E ->
   ∃ t,PSs (cxCl P w K mg base N qual (defScope st) f (.ref c') [(y,c)] A outer s (del H c)) (defBody st) t /\
    t { nx:=fun _ H'=>H' c=none->Q .non (upd H' c (ObO c co)),rt:=fun r H'=>H' c=none->Q r (upd H' c (ObO c co)) } (start N (vs++[v])) (del H c)) :
  FnOk P w K mg base CX0 (k+1) f (fnX name qual (defArgs st) (defBody st) (defScope st) [(y,c)] .none .none doc pm none (.ref c') ctv) ps sp:=by
 refine ⟨len,fun A outer s H args us vs Q E hr e0 hb r hsp=>?_⟩
 have hl:=len _ _ _ _ hsp
 obtain ⟨tf,tc',tc⟩:=tr _ _ _ _ hsp
 have gf:=ObO.get e0.hok tf
 have gc':=ObO.get e0.hok tc'
 have gc:=ObO.get e0.hok tc
 have lim:s.heap.NoLimit:=e0.mod.nolimit.keeps fun b o e=>(e0.bs b o e).1
 obtain ⟨ovs,ot,od,ov⟩:=hoc
 have ndP:ps.Nodup:=by
  have h:(ps++[y]).Nodup:=by rw [<- S.pre];exact S.nd.sublist (List.take_sublist _ _)
  exact (List.nodup_append.mp h).1
 refine codeAny_call_function hr.depth gf rfl S.co S.gen rfl ⟨c',oc,ovs,ot,rfl,gc',od,ov⟩ (hb _ _ _ _ ?_)
 refine wpAny_newFunctionEnv S.nocell (fun z hz=>S.par z.1 (List.of_mem_zip hz).1) (fun h1 hns hsb=>?_) S.kind
 have hk:∀ b o,s.heap.get? b=some o->h1.get? b=some o:=fun b o z=>hsb.extBut b o (Nat.ne_of_lt (Heap.lt_size z)) (Heap.get?_push_of_some _ z)
 refine ⟨lim.keeps hk,codeAny_func ?_⟩
 obtain ⟨t,ht,hq⟩:=hbody A outer s H vs Q E (hr.deeper _) hsp
 have E1:Env0 P w K mg base A outer s (del H c):=⟨e0.frames,e0.mod,fun b o z=>⟨(e0.bs b o z).1,del_none (e0.bs b o z).2⟩,e0.bsz,e0.funs,fun b z=>del_none (e0.frf b z),e0.hok.del tc,e0.bare⟩
 have I:=inv_startCl (N:=N) (qual:=qual) (f:=f) (c':=c') (tk:=s.toks+(ps.zip us).length) S hr.hd E1 hl r del_same gc dc rv hns hk
 refine wpAny_mono (ht [] _ _ _ _ I hq) (fun fl s' hs=>?_) fun e s' hs=>hs.elim
 have fin:∀ {σ':St} {H':Hp} {v:V} {u:Value},Inv (cxCl P w K mg base N qual (defScope st) f (.ref c') [(y,c)] A outer s (del H c)) [] σ' H' s'->RelV v u->(H' c=none->Q v (upd H' c (ObO c co)))->CE outer P w H s Q u s':=by
  intro σ' H' v u J rv q
  have nx:∀ b:Addr,b∉(cxCl P w K mg base N qual (defScope st) f (.ref c') [(y,c)] A outer s (del H c)).ex:=fun b z=>absurd (show b∈([]:List Addr) from z) (by simp)
  have nc:H' c=none:=J.base.free c co gc del_same (nx c)
  have ncf:c∉frs outer:=fun z=>by
   have:=e0.frf c z
   rw [tc] at this
   cases this
  have gk:s'.heap.get? c=some co:=J.base.keep c co gc del_same ncf (nx c)
  exact ⟨v,upd H' c (ObO c co),J.os,J.bare,J.base.unlent tc gc,J.hok.track nc (ObO.ok gk),rv,q nc⟩
 cases fl with
 | ret u =>
  obtain ⟨v,σ',H',J,rv,q⟩:=hs
  exact fin J rv q
 | next =>
  obtain ⟨σ',H',J,q⟩:=hs
  exact fin (v:=V.non) (u:=Value.none) J rfl q
 | brk =>
  obtain ⟨_,_,_,q⟩:=hs
  exact False.elim q
 | cont =>
  obtain ⟨_,_,_,q⟩:=hs
  exact False.elim q
end
end L2
namespace KM
inductive Kd where
 | num | tru | gap (k:Int) | fn (a b:Kd) | pr (a b:Kd) | ls (a:Kd)
 deriving DecidableEq
def isGap:Kd->Bool
 | .gap _=>true
 | _=>false
def parts:Kd->List Kd
 | .fn a b=>[a,b]
 | .pr a b=>[a,b]
 | .ls a=>[a]
 | _=>[]
def sz:Kd->Nat
 | .fn a b=>sz a+sz b+1
 | .pr a b=>sz a+sz b+1
 | .ls a=>sz a+1
 | _=>1
def dp:Kd->Nat
 | .fn a b=>max (dp a) (dp b)+1
 | .pr a b=>max (dp a) (dp b)+1
 | .ls a=>dp a+1
 | _=>0
def szs:List Kd->Nat
 | []=>0
 | t::ts=>sz t+szs ts
theorem szs_append (a b:List Kd):szs (a++b)=szs a+szs b:=by
 induction a with
 | nil=>simp [szs]
 | cons t ts ih=>simp only [List.cons_append,szs,ih];omega
theorem szs_parts (t:Kd):szs (parts t)+1=sz t:=by cases t <;> simp [szs,parts,sz]
theorem sz_pos (t:Kd):0 < sz t:=by have:=szs_parts t;omega
theorem parts_len (t:Kd):(parts t).length<=2:=by cases t <;> simp [parts]
def nxt:List Kd->List Kd
 | []=>[]
 | t::ts=>parts t++ts
theorem szs_nxt (t:Kd)(ts:List Kd):szs (nxt (t::ts))+1=szs (t::ts):=by
 simp only [nxt,szs_append,szs]
 have:=szs_parts t
 omega
def pres:Nat->List Kd->List Kd
 | 0,_=>[]
 | _+1,[]=>[]
 | n+1,t::ts=>t::pres n (parts t++ts)
def P (l:List Kd):List Kd:=pres (szs l) l
theorem P_cons (t:Kd)(ts:List Kd):P (t::ts)=t::P (parts t++ts):=by
 have e:=szs_nxt t ts
 unfold P
 rw [<- e]
 rfl
def fill (m:Int->Option Kd):Kd->Kd
 | .gap k=>(m k).getD (.gap k)
 | .fn a b=>.fn (fill m a) (fill m b)
 | .pr a b=>.pr (fill m a) (fill m b)
 | .ls a=>.ls (fill m a)
 | .num=>.num
 | .tru=>.tru
theorem fill_parts {m:Int->Option Kd}{t:Kd}(h:isGap t=false):parts (fill m t)=(parts t).map (fill m)/\isGap (fill m t)=false:=by
 cases t <;> first | exact ⟨rfl,rfl⟩ | (simp [isGap] at h)
theorem fill_none:∀ (t:Kd),fill (fun _=>none) t=t
 | .gap k=>rfl
 | .fn a b=>by simp only [fill,fill_none a,fill_none b]
 | .pr a b=>by simp only [fill,fill_none a,fill_none b]
 | .ls a=>by simp only [fill,fill_none a]
 | .num=>rfl
 | .tru=>rfl
def ok:Kd->Bool
 | .gap k=>decide (0<=k)
 | .fn a b=>ok a && ok b
 | .pr a b=>ok a && ok b
 | .ls a=>ok a
 | _=>true
end KM
namespace KS
open PySem PySem.Spec PyProof.Rows L2 KM
def word:Kd->Str
 | .num=>"number"
 | .tru=>"truth"
 | .gap _=>"any"
 | .fn _ _=>"fun"
 | .pr _ _=>"pair"
 | .ls _=>"list"
def KAt (H:Hp):Kd->V->Prop
 | .num,v=>∃ a,v=.ref a/\H a=some (.tup [.str "number"])
 | .tru,v=>∃ a,v=.ref a/\H a=some (.tup [.str "truth"])
 | .gap k,v=>∃ a,v=.ref a/\H a=some (.tup [.str "any",.int k])
 | .ls x,v=>∃ a u,v=.ref a/\H a=some (.tup [.str "list",u])/\KAt H x u
 | .fn x y,v=>∃ a u w,v=.ref a/\H a=some (.tup [.str "fun",u,w])/\KAt H x u/\KAt H y w
 | .pr x y,v=>∃ a u w,v=.ref a/\H a=some (.tup [.str "pair",u,w])/\KAt H x u/\KAt H y w
abbrev KAts (H:Hp):List Kd->List V->Prop:=Paired (KAt H)
def TSub (H H':Hp):Prop:=∀ a xs,H a=some (.tup xs)->H' a=some (.tup xs)
theorem TSub.trans {H H1 H2:Hp}(a:TSub H H1)(b:TSub H1 H2):TSub H H2:=fun c xs h=>b c xs (a c xs h)
theorem TSub.of_same {H H':Hp}(s:Same H H'):TSub H H':=fun a xs h=>s a _ h
theorem TSub.put {H:Hp}{a:Addr}{o:HO}(h:∀ xs,H a≠some (.tup xs)):TSub H (upd H a o):=fun b xs e=>by
 rw [upd_ne]
 ·exact e
 ·intro z;subst z;exact h xs e
theorem TSub.new {H:Hp}{a:Addr}{o:HO}(h:H a=none):TSub H (upd H a o):=TSub.put fun xs e=>by rw [h] at e;cases e
theorem TSub.drop {H:Hp}{a:Addr}(h:∀ xs,H a≠some (.tup xs)):TSub H (del H a):=fun b xs e=>by
 rw [del_ne]
 ·exact e
 ·intro z;subst z;exact h xs e
theorem KAt.mono {H H':Hp}(s:TSub H H'):∀ {t:Kd} {v:V},KAt H t v->KAt H' t v
 | .num,_,⟨a,e,h⟩=>⟨a,e,s _ _ h⟩
 | .tru,_,⟨a,e,h⟩=>⟨a,e,s _ _ h⟩
 | .gap _,_,⟨a,e,h⟩=>⟨a,e,s _ _ h⟩
 | .ls _,_,⟨a,u,e,h,p⟩=>⟨a,u,e,s _ _ h,KAt.mono s p⟩
 | .fn _ _,_,⟨a,u,w,e,h,p,q⟩=>⟨a,u,w,e,s _ _ h,KAt.mono s p,KAt.mono s q⟩
 | .pr _ _,_,⟨a,u,w,e,h,p,q⟩=>⟨a,u,w,e,s _ _ h,KAt.mono s p,KAt.mono s q⟩
theorem KAts.mono {H H':Hp}(s:TSub H H'){ts:List Kd}{us:List V}(p:KAts H ts us):KAts H' ts us:=Paired.mapP p fun _ _ q=>KAt.mono s q
theorem KAt.look {H:Hp}:∀ {t:Kd} {v:V},KAt H t v->∃ a us,v=.ref a/\H a=some (.tup (.str (word t)::us))/\(isGap t=false->KAts H (parts t) us)/\(∀ k,t=.gap k->us=[.int k])/\us.length<=2
 | .num,_,⟨a,e,h⟩=>⟨a,[],e,h,fun _=>.nil,fun _ z=>(by cases z),by simp⟩
 | .tru,_,⟨a,e,h⟩=>⟨a,[],e,h,fun _=>.nil,fun _ z=>(by cases z),by simp⟩
 | .gap k,_,⟨a,e,h⟩=>⟨a,[.int k],e,h,fun z=>(by simp [isGap] at z),fun _ z=>(by cases z;rfl),by simp⟩
 | .ls _,_,⟨a,u,e,h,p⟩=>⟨a,[u],e,h,fun _=>.cons p .nil,fun _ z=>(by cases z),by simp⟩
 | .fn _ _,_,⟨a,u,w,e,h,p,q⟩=>⟨a,[u,w],e,h,fun _=>.cons p (.cons q .nil),fun _ z=>(by cases z),by simp⟩
 | .pr _ _,_,⟨a,u,w,e,h,p,q⟩=>⟨a,[u,w],e,h,fun _=>.cons p (.cons q .nil),fun _ z=>(by cases z),by simp⟩
theorem KAt.mk {H:Hp}{t:Kd}{a:Addr}{us:List V}(g:isGap t=false)(h:H a=some (.tup (.str (word t)::us)))(p:KAts H (parts t) us):KAt H t (.ref a):=by
 cases t with
 | num=>cases p;exact ⟨a,rfl,h⟩
 | tru=>cases p;exact ⟨a,rfl,h⟩
 | gap k=>simp [isGap] at g
 | ls x=>cases p with | cons p1 p2=>cases p2;exact ⟨a,_,rfl,h,p1⟩
 | fn x y=>cases p with | cons p1 p2=>cases p2 with | cons p2 p3=>cases p3;exact ⟨a,_,_,rfl,h,p1,p2⟩
 | pr x y=>cases p with | cons p1 p2=>cases p2 with | cons p2 p3=>cases p3;exact ⟨a,_,_,rfl,h,p1,p2⟩
theorem word_any {t:Kd}:(word t=("any":Str))↔isGap t=true:=by
 cases t <;> simp [word,isGap] <;> decide
def pd:Kd->PyData
 | .num=>.tuple [.str "number"]
 | .tru=>.tuple [.str "truth"]
 | .gap k=>.tuple [.str "any",.int k]
 | .ls x=>.tuple [.str "list",pd x]
 | .fn x y=>.tuple [.str "fun",pd x,pd y]
 | .pr x y=>.tuple [.str "pair",pd x,pd y]
theorem ok_words:PyData.strOk (Str.ofString "number")=true/\PyData.strOk (Str.ofString "truth")=true/\PyData.strOk (Str.ofString "any")=true/\PyData.strOk (Str.ofString "list")=true/\PyData.strOk (Str.ofString "fun")=true/\PyData.strOk (Str.ofString "pair")=true:=by decide +kernel
theorem pd_lay:∀ t:Kd,(pd t).canLay0=true
 | .num=>by simp [pd,PyData.canLay0,PyData.canLayAll0,ok_words]
 | .tru=>by simp [pd,PyData.canLay0,PyData.canLayAll0,ok_words]
 | .gap k=>by simp [pd,PyData.canLay0,PyData.canLayAll0,ok_words]
 | .ls x=>by simp [pd,PyData.canLay0,PyData.canLayAll0,pd_lay x,ok_words]
 | .fn x y=>by simp [pd,PyData.canLay0,PyData.canLayAll0,pd_lay x,pd_lay y,ok_words]
 | .pr x y=>by simp [pd,PyData.canLay0,PyData.canLayAll0,pd_lay x,pd_lay y,ok_words]
theorem pd_depth:∀ t:Kd,(pd t).depth=dp t+1
 | .num=>by simp [pd,PyData.depth,PyData.depthAll,dp]
 | .tru=>by simp [pd,PyData.depth,PyData.depthAll,dp]
 | .gap k=>by simp [pd,PyData.depth,PyData.depthAll,dp]
 | .ls x=>by simp [pd,PyData.depth,PyData.depthAll,dp,pd_depth x]
 | .fn x y=>by simp [pd,PyData.depth,PyData.depthAll,dp,pd_depth x,pd_depth y]
 | .pr x y=>by simp [pd,PyData.depth,PyData.depthAll,dp,pd_depth x,pd_depth y]
theorem pd_shaped {t:Kd}(h:dp t<=60):SeqAt.shaped (pd t)=true:=by
 unfold SeqAt.shaped
 rw [pd_lay,pd_depth]
 simp
 omega
def tag:Kd->Nat
 | .num=>0
 | .tru=>1
 | .gap _=>2
 | .fn _ _=>3
 | .pr _ _=>4
 | .ls _=>5
def wordN:Nat->Str
 | 0=>"number"
 | 1=>"truth"
 | 2=>"any"
 | 3=>"fun"
 | 4=>"pair"
 | _=>"list"
theorem wordN_eq:∀ i,i < 6->∀ j,j < 6->(wordN i==wordN j)=(i==j):=by decide +kernel
theorem word_eq (t:Kd):word t=wordN (tag t):=by cases t <;> rfl
theorem tag_lt (t:Kd):tag t < 6:=by cases t <;> simp [tag]
theorem word_tag (t t':Kd):(word t==word t')=(tag t==tag t'):=by
 rw [word_eq,word_eq,wordN_eq _ (tag_lt t) _ (tag_lt t')]
theorem eqv_tup (xs ys:List PyData):PyData.eqv (.tuple xs) (.tuple ys)=PyData.eqvAll xs ys:=by rw [PyData.eqv]
theorem eqv_cons (x y:PyData)(xs ys:List PyData):PyData.eqvAll (x::xs) (y::ys)=(PyData.eqv x y && PyData.eqvAll xs ys):=by rw [PyData.eqvAll]
theorem eqv_nil:PyData.eqvAll [] []=true:=by rw [PyData.eqvAll]
theorem eqv_str (x y:Str):PyData.eqv (.str x) (.str y)=(x==y):=by rw [PyData.eqv]
theorem eqv_int (x y:Int):PyData.eqv (.int x) (.int y)=(x==y):=by rw [PyData.eqv]
def pds:Kd->List PyData
 | .num=>[]
 | .tru=>[]
 | .gap k=>[.int k]
 | .ls x=>[pd x]
 | .fn x y=>[pd x,pd y]
 | .pr x y=>[pd x,pd y]
theorem pd_eq (t:Kd):pd t=.tuple (.str (word t)::pds t):=by cases t <;> rfl
theorem pd_top (t t':Kd):PyData.eqv (pd t) (pd t')=((tag t==tag t') && PyData.eqvAll (pds t) (pds t')):=by
 rw [pd_eq,pd_eq,eqv_tup,eqv_cons,eqv_str,word_tag]
theorem pd_eqv:∀ t t':Kd,PyData.eqv (pd t) (pd t')=decide (t=t'):=by
 intro t
 induction t with
 | num=>intro t';rw [pd_top];cases t' <;> simp [tag,pds,eqv_nil]
 | tru=>intro t';rw [pd_top];cases t' <;> simp [tag,pds,eqv_nil]
 | gap k =>
  intro t';rw [pd_top]
  cases t' <;> simp only [tag,pds] <;> try (simp;done)
  rw [eqv_cons,eqv_int,eqv_nil,Bool.eq_iff_iff]
  simp
 | ls x ih =>
  intro t';rw [pd_top]
  cases t' <;> simp only [tag,pds] <;> try (simp;done)
  rw [eqv_cons,eqv_nil,ih,Bool.eq_iff_iff]
  simp
 | fn x y ih1 ih2 =>
  intro t';rw [pd_top]
  cases t' <;> simp only [tag,pds] <;> try (simp;done)
  rw [eqv_cons,eqv_cons,eqv_nil,ih1,ih2,Bool.eq_iff_iff]
  simp
 | pr x y ih1 ih2 =>
  intro t';rw [pd_top]
  cases t' <;> simp only [tag,pds] <;> try (simp;done)
  rw [eqv_cons,eqv_cons,eqv_nil,ih1,ih2,Bool.eq_iff_iff]
  simp
end KS
namespace PySem
open AutoSeq1 (wpAny_loadPart')
namespace F
theorem rt_owner:Manifest.owners.lookup (String.ofList ['d','e','s','r','e','v','e','r'].reverse)=some Manifest.sig_reversed:=by kernel_rfl
theorem rt_init:Slot "reversed" "__init__" "object.__init__" :=
 .of (owner:="object") (n:="__init__") (by rw [typeLookup_type,builtinLookup_eq_fast];kernel_rfl) (by decide +kernel) (by decide +kernel) (by decide +kernel) (by first | exact .inl (by decide +kernel) | exact .inr (by decide +kernel)) (by rw [isSubtype_type];kernel_rfl)
theorem rt_iter:Slot "reversed" "__iter__" "reversed.__iter__" :=
 .of (owner:="reversed") (n:="__iter__") (by rw [typeLookup_type,builtinLookup_eq_fast];kernel_rfl) (by decide +kernel) (by decide +kernel) (by decide +kernel) (by first | exact .inl (by decide +kernel) | exact .inr (by decide +kernel)) (by rw [isSubtype_type];kernel_rfl)
theorem rt_next:Slot "reversed" "__next__" "reversed.__next__" :=
 .of (owner:="reversed") (n:="__next__") (by rw [typeLookup_type,builtinLookup_eq_fast];kernel_rfl) (by decide +kernel) (by decide +kernel) (by decide +kernel) (by first | exact .inl (by decide +kernel) | exact .inr (by decide +kernel)) (by rw [isSubtype_type];kernel_rfl)
theorem rt_hint:Slot "reversed" "__length_hint__" "reversed.__length_hint__" :=
 .of (owner:="reversed") (n:="__length_hint__") (by rw [typeLookup_type,builtinLookup_eq_fast];kernel_rfl) (by decide +kernel) (by decide +kernel) (by decide +kernel) (by first | exact .inl (by decide +kernel) | exact .inr (by decide +kernel)) (by rw [isSubtype_type];kernel_rfl)
theorem rt_nolen:typeLookup (.type "reversed") "__len__"=pure none:=by rw [typeLookup_type,builtinLookup_eq_fast];kernel_rfl
theorem rt_tup_norev:typeLookup (.type "tuple") "__reversed__"=pure none:=by rw [typeLookup_type,builtinLookup_eq_fast];kernel_rfl
theorem rt_entry_next:entryFor table "reversed.__next__"=some Builtin.«reversed.__next__»:=entryFor_of_tree (by kernel_rfl)
theorem rt_entry_hint:entryFor table "reversed.__length_hint__"=some Builtin.«reversed.__length_hint__»:=entryFor_of_tree (by kernel_rfl)
theorem rt_entry_iter:entryFor table "reversed.__iter__"=some Builtin.«dict_keyiterator.__iter__» :=
 entryFor_alias (id':="dict_keyiterator.__iter__") (by kernel_rfl) (by first | rfl | decide +kernel | (unfold String.splitOn;simp +decide [String.splitOnAux])) (by decide +kernel) (by kernel_rfl)
theorem rt_args_next (a:Value):argsOk "reversed.__next__" ⟨[a],[]⟩:=by
 unfold argsOk;rw [signature?_of (id:="reversed.__next__") (n:=['_','_','t','x','e','n','_','_']) (o:=['d','e','s','r','e','v','e','r']) (by kernel_rfl) rt_owner];kernel_rfl
theorem rt_args_iter (a:Value):argsOk "reversed.__iter__" ⟨[a],[]⟩:=by
 unfold argsOk;rw [signature?_of (id:="reversed.__iter__") (n:=['_','_','r','e','t','i','_','_']) (o:=['d','e','s','r','e','v','e','r']) (by kernel_rfl) rt_owner];kernel_rfl
theorem rt_args_hint (a:Value):argsOk "reversed.__length_hint__" ⟨[a],[]⟩:=by
 unfold argsOk;rw [signature?_of (id:="reversed.__length_hint__") (n:="__tnih_htgnel__".toList) (o:=['d','e','s','r','e','v','e','r']) (by kernel_rfl) rt_owner];kernel_rfl
theorem rt_mro:mroOf (.type "reversed")=pure [.type "reversed",.type "object"]:=by rw [mroOf_type];kernel_rfl
theorem rt_look:typeLookup (.type "reversed") "__new__"=pure (some (.builtin "reversed.__new__")):=by rw [typeLookup_type,builtinLookup_eq_fast];kernel_rfl
theorem rt_made:Bind.madeBy (.type "reversed")=pure (some "reversed.__new__"):=madeBy_type rt_mro rt_look (by decide +kernel)
theorem rt_type1 (a:Value):checkTypeCall "reversed" ⟨[a],[]⟩=pure ():=by kernel_rfl
theorem rt_new1 (a:Value):checkBuiltinCall "reversed.__new__" ⟨[.type "reversed",a],[]⟩=pure ():=by kernel_rfl
theorem rt_entry_new:entryFor table "reversed.__new__"=some Builtin.«reversed.__new__»:=entryFor_of_tree (by kernel_rfl)
theorem rt_called:TypeCalled "reversed" "reversed.__new__" "object.__init__" :=
 ⟨by decide +kernel,by decide +kernel,⟨_,_,rt_mro⟩,rt_made,by decide +kernel,by rw [isSubtype_type];kernel_rfl,rt_init⟩
theorem rt_tup_nodict:isSubtype (.type "tuple") (.type "dict")=pure false:=by rw [isSubtype_type];kernel_rfl
end F
end PySem
namespace PySem
open AutoSeq1 (wpAny_loadPart')
abbrev rtObj (t:Addr)(i:Int):Obj:={ cls:=.type "reversed",data:=.fields #[.ref t,rawInt i] }
theorem meets_rt_new (l:Addr)(items:Array Value)(n:Nat)(dd:Option Addr)(sl:Array (Option Value)):
  Meets (Builtin.«reversed.__new__» ⟨[.type "reversed",.ref l],[]⟩) (fun A R s=>s.heap.get? l=some { cls:=.type "tuple",dict:=dd,data:=.seq items n,slots:=sl }/\¬ (items.size:Int) ≥ 2 ^ 63 /\
   R (.ok (.ret (.ref s.heap.objs.size))) { s with heap:=s.heap.push (rtObj l ((items.size:Int) - 1)),toks:=s.toks+1+1 }) :=
 .of_wp fun prog w A R s h=>by
  obtain ⟨hp,g,d,tk,os⟩:=s
  obtain ⟨hl,hf,h⟩:=h
  have hsub:=F.rt_called.sub
  have hsub2:=F.rt_tup_nodict
  have hgi:=F.slot_tuple_getitem.lookup
  wp_walk using wpAny_loadPart' hl
  refine wpAny_of_eq (show typeLookup _ _=pure none from F.rt_tup_norev) ?_
  dsimp only
  have hT:PyProof.Rows.IsTup (Shared.heap ⟨hp,g,d,tk,os⟩) l items:=⟨_,hl,rfl,n,rfl⟩
  have hf':((items.size:Nat):Int) < 2 ^ 63:=by omega
  wp_walk using wpAny_loadPart' hl,PyProof.Rows.len_tuple hT hf'
  exact ⟨_,rfl,h⟩
section
variable {prog:Program}{w:World}{A:Around}{E:Value->Shared->Prop}{s:Shared}
theorem call_rt {l:Addr}{items:Array Value}{Q:Value->Shared->Prop}(hl:PyProof.Rows.IsTup s.heap l items)(hf:¬ (items.size:Int) ≥ 2 ^ 63)
  (h:Q (.ref s.heap.objs.size) { s with heap:=s.heap.push (rtObj l ((items.size:Int) - 1)),toks:=s.toks+1+1 }):wpAny (model prog w) A (call (.type "reversed") [.ref l]) Q E s:=by
 obtain ⟨⟨cls,dd,da,sl⟩,ho,hc,n,hd⟩:=hl
 simp only at hc hd
 subst hc hd
 refine callType_new F.rt_called (by decide) (F.rt_type1 _) (F.rt_new1 _) (fun obj=>F.args_object_init_2 obj _) F.rt_entry_new (meets_rt_new l items n dd sl) ⟨ho,hf,?_⟩
 exact ⟨⟨_,Heap.get?_push_size _ rfl,rfl⟩,h⟩
def Heap.IsRt (h:Heap)(a l:Addr)(i:Int):Prop:=∃ o,h.get? a=some o/\o.cls=.type "reversed"/\o.data=.fields #[.ref l,rawInt i]
theorem Heap.IsRt.typeIs {a l:Addr}{i:Int}(x:s.heap.IsRt a l i):s.TypeIs (.ref a) "reversed":=let ⟨o,ho,hc,_⟩:=x;⟨o,ho,hc⟩
theorem Heap.IsRt.at {h h':Heap}{a l:Addr}{i:Int}(x:h.IsRt a l i)(e:∀ o,h.get? a=some o->h'.get? a=some o):h'.IsRt a l i:=let ⟨o,ho,r⟩:=x;⟨o,e _ ho,r⟩
theorem rt_pyIter {it l:Addr}{i:Int}{Q:Value->Shared->Prop}(hit:s.heap.IsRt it l i)(h:Q (.ref it) s):wpAny (model prog w) A (pyIter (.ref it)) Q E s:=by
 refine wpAny_pyIter_slot hit.typeIs F.rt_iter (wpAny_call_entry F.rt_iter hit.typeIs F.rt_entry_iter ?_ (F.rt_args_iter _))
 show wpAny _ _ (ret (.ref it)) _ _ s
 exact wpAny_pure ⟨_,rfl,"reversed",_,hit.typeIs,F.rt_next.lookup,h⟩
theorem rt_item {it l:Addr}{i:Nat}{items:Array Value}{x:Value}{Q:Option Value->Shared->Prop}(hit:s.heap.IsRt it l (i:Int))(hl:PyProof.Rows.IsTup s.heap l items)(hx:items[i]?=some x)(hf:items.size < 2 ^ 40)
  (hQ:∀ h' tk,h'.IsRt it l ((i:Int) - 1)->Heap.SameBut it s.heap h'->Q (some x) { s with heap:=h',toks:=tk }):wpAny (model prog w) A (pyNext (.ref it)) Q E s:=by
 obtain ⟨o,ho,hc,hd⟩:=id hit
 have hgi:=F.slot_tuple_getitem.lookup
 have hilt:i < items.size:=(Array.getElem?_eq_some_iff.mp hx).1
 unfold pyNext
 refine wpAny_bind (wpAny_attempt (wpAny_callSpecial?_slot (name:=Str.ofString "__next__") hit.typeIs F.rt_next
  (wpAny_call_entry F.rt_next hit.typeIs F.rt_entry_next ?_ (F.rt_args_next _))))
 unfold Builtin.«reversed.__next__»
 refine wpAny_bind (wpAny_of_eq (a:=(Value.ref it,[])) rfl ?_)
 try dsimp only
 refine wpAny_bind (wpAny_field ho hd (x:=.ref l) rfl ?_)
 refine wpAny_bind (wpAny_field ho hd (x:=rawInt (i:Int)) rfl ?_)
 show wpAny _ _ (if (i:Int) < 0 then _ else _) _ _ s
 rw [if_neg (by omega)]
 refine wpAny_bind (wpAny_specialOf hl.typeIs hgi ?_)
 rw [if_neg (show ¬ ((some (Value.builtin "tuple.__getitem__")).isNone=true) from Bool.false_ne_true)]
 refine wpAny_bind (wpAny_mkInt ?_)
 refine wpAny_bind (wpAny_attempt (PyProof.Rows.getItem_tuple (s:={ s with toks:=s.toks+1 }) hl (by omega) (by omega) (j:=i) (by simp [seqIndex?];omega) hx ?_))
 try dsimp only
 refine wpAny_bind (wpAny_field (s:={ s with toks:=s.toks+1 }) ho hd (x:=rawInt (i:Int)) rfl ?_)
 show wpAny _ _ (setField (.ref it) 1 (rawInt ((i:Int) - 1)) >>= fun _=>ret x) _ _ _
 refine wpAny_bind (wpAny_setField (s:={ s with toks:=s.toks+1 }) ho hd (by simp) ?_)
 refine wpAny_pure ⟨x,rfl,wpAny_pure (hQ _ _ ?_ (Heap.SameBut.update ..))⟩
 exact ⟨_,Heap.get?_update_self _ ho (Obj.isFreed_of_fields (Obj.data_mapFields hd _)),(Obj.cls_mapFields ..).trans hc,by rw [Obj.data_mapFields hd];simp⟩
theorem rt_done {it l:Addr}{Q:Option Value->Shared->Prop}(hh:A.handled=none)(hit:s.heap.IsRt it l (-1))(hQ:∀ h',Heap.ExtBut it s.heap h'->Q none { s with heap:=h' }):wpAny (model prog w) A (pyNext (.ref it)) Q E s:=by
 obtain ⟨o,ho,hc,hd⟩:=id hit
 unfold pyNext
 refine wpAny_bind (wpAny_attempt (wpAny_callSpecial?_slot (name:=Str.ofString "__next__") hit.typeIs F.rt_next
  (wpAny_call_entry F.rt_next hit.typeIs F.rt_entry_next ?_ (F.rt_args_next _))))
 unfold Builtin.«reversed.__next__»
 refine wpAny_bind (wpAny_of_eq (a:=(Value.ref it,[])) rfl ?_)
 try dsimp only
 refine wpAny_bind (wpAny_field ho hd (x:=.ref l) rfl ?_)
 refine wpAny_bind (wpAny_field ho hd (x:=rawInt (-1)) rfl ?_)
 show wpAny _ _ (if (-1:Int) < 0 then _ else _) _ _ s
 rw [if_pos (by decide)]
 refine wpAny_bind (wpAny_rule ?_)
 refine wpAny_bind ?_
 show wpAny _ _ (setField (.ref it) 1 (rawInt (-1)) >>= fun _=>setField (.ref it) 0 .none) _ _ s
 refine wpAny_bind (wpAny_setField ho hd (by simp) ?_)
 have ho2:=Heap.get?_update_self (Obj.mapFields fun vs=>vs.set! 1 (rawInt (-1))) ho (Obj.isFreed_of_fields (Obj.data_mapFields hd _))
 refine wpAny_setField ho2 (Obj.data_mapFields hd _) (by simp) ?_
 have ext2:Heap.ExtBut it s.heap ((s.heap.update it (Obj.mapFields fun vs=>vs.set! 1 (rawInt (-1)))).update it (Obj.mapFields fun vs=>vs.set! 0 Value.none)):=fun b o' hb e =>
  (Heap.get?_update_other _ _ (Ne.symm hb)).trans ((Heap.get?_update_other _ _ (Ne.symm hb)).trans e)
 refine wpAny_bind ?_
 show wpAny _ _ (newExc (.type "StopIteration") [] >>= _) _ _ _
 refine wpAny_bind ?_
 simp only [newExc,newTuple]
 refine wpAny_bind (wpAny_newObj_type ?_ (by size_fits))
 refine wpAny_bind (m:=firstArgMember _ _) (wpAny_of_eq (a:=Value.none) (by first | rfl | (simp only [firstArgMember];rfl)) ?_)
 refine wpAny_newObj_type ?_ (by size_fits)
 simp only [raiseNew]
 refine wpAny_bind (wpAny_handled ?_)
 first | rw [show A.in1.handled=none from hh] | rw [hh]
 refine wpAny_bind (wpAny_pure (wpAny_throw ?_))
 refine wpAny_bind (wpAny_isInstance (T:="StopIteration") (b:=true) ⟨_,Heap.get?_push_size _ rfl,rfl⟩ isSubtype_stop ?_)
 exact wpAny_pure (hQ _ ((ext2.push _).push _))
abbrev TupO (h:Heap)(l:Addr)(items:Array Value):Prop:=PyProof.Rows.IsTup h l items
theorem TupO.at {h h':Heap}{l:Addr}{items:Array Value}(x:TupO h l items)(e:∀ o,h.get? l=some o->h'.get? l=some o):TupO h' l items:=let ⟨o,ho,r⟩:=x;⟨o,e _ ho,r⟩
theorem Walks.rt (hh:A.handled=none)(I l:Addr)(hne:l≠I)(items:Array Value)(hf:items.size < 2 ^ 40):
  Walks prog w A I [I,l] [I] items.size (fun i v=>items[items.size - 1 - i]?=some v) (fun i h=>i<=items.size/\h.IsRt I l ((items.size:Int) - 1 - (i:Int))/\TupO h l items) where
 sub:=fun b hb=>by simp at hb;simp [hb]
 frame:=fun _ _ _ x hk=>⟨x.1,x.2.1.at fun o e=>hk I (by simp) o e,x.2.2.at fun o e=>hk l (by simp) o e⟩
 item:=fun i s Q E hi x hQ=>by
  have e:(items.size:Int) - 1 - (i:Int)=((items.size - 1 - i:Nat):Int):=by omega
  have hit:=x.2.1
  rw [e] at hit
  have hx:items[items.size - 1 - i]?=some (items[items.size - 1 - i]'(by omega)):=Array.getElem?_eq_getElem (by omega)
  refine rt_item hit x.2.2 hx hf fun h' tk hit' hs'=>?_
  have e2:((items.size - 1 - i:Nat):Int) - 1=(items.size:Int) - 1 - ((i+1:Nat):Int):=by omega
  rw [e2] at hit'
  exact hQ _ h' tk hx ⟨hi,hit',x.2.2.at fun o e=>(hs'.2 l hne).trans e⟩ fun b o hb eo=>hs'.extBut b o (fun h=>hb (by simp [h])) eo
 done:=fun s Q E x hQ=>by
  have e:(items.size:Int) - 1 - (items.size:Int)=-1:=by omega
  have hit:=x.2.1
  rw [e] at hit
  exact rt_done hh hit fun h' he'=>hQ h' s.toks fun b o hb eo=>he' b o (fun h=>hb (by simp [h])) eo
 self:=fun _ _ _ _ x hQ=>rt_pyIter x.2.1 hQ
end
end PySem
namespace PySem
open AutoSeq1 (wpAny_loadPart')
section
variable {prog:Program}{w:World}{A:Around}{E:Value->Shared->Prop}{s:Shared}
theorem rt_callHint {it l:Addr}{i:Int}{items:Array Value}{Q:Value->Shared->Prop}(hit:s.heap.IsRt it l i)(hl:TupO s.heap l items)(hi:i+1=items.size)(hf:items.size < 2 ^ 20)(h:∀ t tk,Q (.int items.size t) { s with toks:=tk }):
  wpAny (model prog w) A (call (.builtin "reversed.__length_hint__") [.ref it]) Q E s:=by
 obtain ⟨o,ho,hc,hd⟩:=id hit
 refine wpAny_call_entry F.rt_hint hit.typeIs F.rt_entry_hint ?_ (F.rt_args_hint _)
 unfold Builtin.«reversed.__length_hint__»
 refine wpAny_bind (wpAny_of_eq (a:=Value.ref it) rfl ?_)
 refine wpAny_bind (wpAny_field ho hd (x:=.ref l) rfl ?_)
 show wpAny _ _ (call (.builtin "len") [.ref l] >>= _) _ _ s
 refine wpAny_bind (PyProof.Rows.len_tuple hl (by omega) ?_)
 refine wpAny_bind (m:=asInt? _) (wpAny_pure ?_)
 dsimp only
 refine wpAny_bind (wpAny_field (s:={ s with toks:=s.toks+1+1 }) ho hd (x:=rawInt i) rfl ?_)
 show wpAny _ _ (if (items.size:Int) < i+1 then _ else _) _ _ _
 rw [if_neg (by omega),hi]
 unfold retInt
 refine wpAny_bind (wpAny_mkInt (wpAny_pure ⟨_,rfl,?_⟩))
 exact h _ _
theorem rt_lengthHint {it l:Addr}{i:Int}{items:Array Value}{Q:Bool->Shared->Prop}(hit:s.heap.IsRt it l i)(hl:TupO s.heap l items)(hi:i+1=items.size)(hf:items.size < 2 ^ 20)(h:∀ b tk,Q b { s with toks:=tk }):
  wpAny (model prog w) A (Builtin.List.listLengthHint (.ref it)) Q E s:=by
 obtain ⟨o,ho,hc,hd⟩:=id hit
 unfold Builtin.List.listLengthHint
 refine wpAny_bind (wpAny_specialOf hit.typeIs F.rt_nolen ?_)
 show wpAny _ A (specialOf (Value.ref it) (Str.ofString "__length_hint__") >>= _) _ _ _
 refine wpAny_bind (wpAny_specialOf hit.typeIs F.rt_hint.lookup ?_)
 generalize hid:("reversed.__length_hint__":String)=id0
 wp_delta
 rw [show splitId id0=some ("reversed","__length_hint__") from by subst hid;decide +kernel]
 subst hid
 refine wpAny_bind (wpAny_isInstance (T:="reversed") (b:=true) hit.typeIs F.rt_called.sub ?_)
 refine wpAny_ite_split (fun hab=>absurd hab (by decide)) (fun _=>?_)
 refine wpAny_ite_split (fun hab=>absurd hab (by decide +kernel)) (fun _=>?_)
 refine wpAny_bind (wpAny_rule ?_)
 refine wpAny_bind (wpAny_of_eq (F.rt_hint.bind (.ref it)) ?_)
 try dsimp only
 refine wpAny_bind (wpAny_attempt (rt_callHint hit hl hi hf fun t tk=>?_))
 have ez:∃ z:Int,z=((items.size:Nat):Int):=⟨_,rfl⟩
 obtain ⟨z,ez⟩:=ez
 rw [<- ez]
 show wpAny _ A (asInt? (Value.int z t) >>= _) _ _ _
 refine wpAny_bind (wpAny_of_eq (show asInt? (Value.int z t)=pure (some z) from rfl) ?_)
 try dsimp only
 have h1:Builtin.List.listFitsIndex z=true:=by rw [ez];simp [Builtin.List.listFitsIndex];omega
 have h2:Builtin.List.listTooLong z.toNat=false:=by rw [ez];simp [Builtin.List.listTooLong,sizeLine];omega
 refine wpAny_ite_split (fun hab=>absurd hab (by rw [h1];decide)) (fun _=>?_)
 refine wpAny_ite_split (fun hab=>absurd hab (by omega)) (fun _=>?_)
 refine wpAny_ite_split (fun hab=>absurd hab (by rw [h2];decide)) (fun _=>?_)
 exact wpAny_pure (h _ _)
theorem rt_extend {R:Result->Shared->Prop}{I l:Addr}{items:Array Value}(hh:A.handled=none)(hI:s.heap.IsRt I l ((items.size:Int) - 1))(hl:TupO s.heap l items)(hne:l≠I)(hlen:items.size < 2 ^ 20)(S:Addr)(res:Value)(c0:Nat)(hS:s.heap.get? S=some { cls:=.type "list",data:=.seq #[] c0 })(hSI:S≠I)(hSl:S≠l)
  (hR:∀ h' tk acc' c',(∀ b o,b≠S->b≠I->s.heap.get? b=some o->h'.get? b=some o)->h'.get? S=some { cls:=.type "list",dict:=none,data:=.seq acc' c',slots:=#[] } ->
   ItemsOf (fun i v=>items[items.size - 1 - i]?=some v) acc' items.size->R (.ok (.ret res)) { s with heap:=h',toks:=tk }) :
  wpAny (model prog w) A.in1 (Builtin.List.listExtendWith (.ref S) (.ref I) res)
   (fun fin s'=>match fin with | .done f=>R (.ok f) s' | .again c'=>c'.quiet=true/\codeAny (model prog w) A c' R s') (fun e s'=>R (.error e) s') s:=by
 have W:=(Walks.rt (prog:=prog) (w:=w) (A:=A.in1) hh I l hne items (by omega)).toS
 have hSf:S∉[I,l]:=by simp [hSI,hSl]
 have hT:s.TypeIs (.ref I) "reversed":=hI.typeIs
 have key:∀ (h:Heap) (c1 tk:Nat),h.IsRt I l ((items.size:Int) - 1)->TupO h l items->(∀ b o,b≠S->s.heap.get? b=some o->h.get? b=some o)->h.get? S=some { cls:=.type "list",data:=.seq #[] c1 } ->
   codeAny (model prog w) A (.builtin "list.extend.loop" ⟨[.ref S,.ref I,res],[]⟩) R { s with heap:=h,toks:=tk }:=by
  intro h c1 tk hit htu hk hS1
  refine codeAny_extend_loopS W (by rw [sizeLine_eq];omega) S hSf res items.size 0 _ #[] c1 rfl (Nat.zero_le _) ⟨Nat.zero_le _,by simpa using hit,htu⟩ hS1 (ItemsOf.nil _) fun s' acc' c' hm hS' hacc=>?_
  rw [Moved.eq_with hm]
  refine hR s'.heap s'.toks acc' c' (fun b o hb hbI e=>hm.heap b o (fun hmem=>?_) (hk b o hb e)) hS' hacc
  rcases List.mem_cons.mp hmem with e' | hmem
  ·exact hb e'
  ·exact hbI (List.mem_singleton.mp hmem)
 unfold Builtin.List.listExtendWith
 refine wpAny_bind (wpAny_typeOf hT ?_)
 have h1:Builtin.List.listSameRef (.ref S) (.ref I)=false:=by simp [Builtin.List.listSameRef,hSI]
 have h2:(Value.type "reversed"==Value.type "list")=false:=by decide
 have h3:(Value.type "reversed"==Value.type "tuple")=false:=by decide
 simp only [h1,h2,h3,Bool.or_false,Bool.false_eq_true,if_false]
 refine wpAny_bind (rt_pyIter hI ?_)
 refine wpAny_bind (wpAny_holding (rt_lengthHint hI hl (by omega) hlen fun b tk=>?_))
 have hS1:({ s with toks:=tk }:Shared).heap.get? S=some { cls:=.type "list",data:=.seq #[] c0 }:=hS
 refine wpAny_ite_split (fun _=>?_) (fun _=>wpAny_pure ⟨plainId_quiet F.plain_extend_loop _,key _ c0 _ hI hl (fun b o _ e=>e) hS⟩)
 refine wpAny_bind (wpAny_rule ?_)
 refine wpAny_bind ?_
 show wpAny _ _ (updateSeq S (·.push .none) >>= fun _=>updateSeq S (·.pop)) _ _ _
 refine wpAny_bind (wpAny_updateSeq hS1 rfl ?_)
 have hS2:=Heap.get?_update_self (Obj.mapSeq (·.push Value.none)) hS1 rfl
 refine wpAny_updateSeq (hz:=by seq_fits) hS2 rfl ?_
 have hS3:=Heap.get?_update_self (Obj.mapSeq (·.pop)) hS2 rfl
 have oth:∀ b o,b≠S->s.heap.get? b=some o->((s.heap.update S (Obj.mapSeq (·.push Value.none))).update S (Obj.mapSeq (·.pop))).get? b=some o:=fun b o hb e =>
  (Heap.get?_update_other _ _ (Ne.symm hb)).trans ((Heap.get?_update_other _ _ (Ne.symm hb)).trans e)
 exact wpAny_pure ⟨plainId_quiet F.plain_extend_loop _,key _ _ _ (hI.at fun o e=>oth I o (Ne.symm hSI) e) (hl.at fun o e=>oth l o (Ne.symm hSl) e) oth hS3⟩
theorem call_list_rt {Q:Value->Shared->Prop}{I l:Addr}{items:Array Value}(hh:A.handled=none)(hI:s.heap.IsRt I l ((items.size:Int) - 1))(hl:TupO s.heap l items)(hne:l≠I)(hlen:items.size < 2 ^ 20)
  (hQ:∀ h' tk acc' c',(∀ b o,b≠I->s.heap.get? b=some o->h'.get? b=some o)->h'.get? s.heap.objs.size=some { cls:=.type "list",dict:=none,data:=.seq acc' c',slots:=#[] } ->
   ItemsOf (fun i v=>items[items.size - 1 - i]?=some v) acc' items.size->Q (.ref s.heap.objs.size) { s with heap:=h',toks:=tk }):wpAny (model prog w) A (call (.type "list") [.ref I]) Q E s:=by
 have hIlt:I < s.heap.objs.size:=by obtain ⟨o,ho,_⟩:=hI;exact Heap.lt_size ho
 have hllt:l < s.heap.objs.size:=by obtain ⟨o,ho,_⟩:=hl;exact Heap.lt_size ho
 refine callType_codes (Q₁:=fun obj s1=>obj=.ref s.heap.objs.size/\s1={ s with heap:=s.heap.push { cls:=.type "list",data:=.seq #[] } }) F.called_list (F.typeCall_list_1 _) F.entry_list_init (code_list_new _ ⟨rfl,rfl⟩) fun obj s1 q1=>?_
 obtain ⟨rfl,rfl⟩:=q1
 have hS:(s.heap.push { cls:=.type "list",data:=.seq #[] }).get? s.heap.objs.size=some { cls:=.type "list",data:=.seq #[] }:=Heap.get?_push_size _ rfl
 refine ⟨⟨_,hS,rfl⟩,F.args_list_init_2 _ _,?_⟩
 show wpAny _ _ (do let old <- Builtin.List.listItems (.ref s.heap.objs.size);Builtin.List.listUpdate (.ref s.heap.objs.size) (fun _=>#[]);letGo old.toList.reverse;Builtin.List.listExtendWith (.ref s.heap.objs.size) (.ref I) .none) _ _ _
 refine wpAny_bind ?_
 unfold Builtin.List.listItems
 refine wpAny_bind (wpAny_seqItems hS rfl (wpAny_pure ?_))
 show wpAny _ _ (updateSeq s.heap.objs.size (fun _=>#[]) >>= fun _=>letGo (#[]:Array Value).toList.reverse >>= fun _=>Builtin.List.listExtendWith (.ref s.heap.objs.size) (.ref I) .none) _ _ _
 refine wpAny_bind (wpAny_updateSeq hS rfl ?_)
 have hS2:=Heap.get?_update_self (Obj.mapSeq (fun _=>(#[]:Array Value))) hS rfl
 have oth:∀ b o,b≠s.heap.objs.size->s.heap.get? b=some o->((s.heap.push { cls:=.type "list",data:=.seq #[] }).update s.heap.objs.size (Obj.mapSeq (fun _=>(#[]:Array Value)))).get? b=some o :=
  fun b o hb e=>(Heap.get?_update_other _ _ (Ne.symm hb)).trans (Heap.get?_push_of_some _ e)
 refine wpAny_bind (wpAny_letGo ?_)
 refine rt_extend (A:=A.in1) (I:=I) (l:=l) (items:=items) hh (hI.at fun o e=>oth I o (Nat.ne_of_lt hIlt) e) (hl.at fun o e=>oth l o (Nat.ne_of_lt hllt) e) hne hlen _ .none _ hS2 (Ne.symm (Nat.ne_of_lt hIlt)) (Ne.symm (Nat.ne_of_lt hllt)) fun h' tk acc' c' hk hS' hacc=>?_
 exact ⟨rfl,hQ h' tk acc' c' (fun b o hb e=>hk b o (Nat.ne_of_lt (Heap.lt_size e)) hb (oth b o (Nat.ne_of_lt (Heap.lt_size e)) e)) hS' hacc⟩
end
end PySem
namespace KS
open PySem PySem.Spec PyProof.Rows L2 KM
theorem tup_obj {P:Program}{w:World}{H:Hp}{h:Heap}{a:Addr}{xs:List V}(x:HOk P w H h)(e:H a=some (.tup xs)):∃ o its n,Vals xs its/\h.get? a=some o/\o.cls=.type "tuple"/\o.data=.seq its.toArray n:=by
 obtain ⟨_,its,r,o,h1,h2,n,h3⟩:=(show ObjOk P w H h a (.tup xs) from x a _ e)
 exact ⟨o,its,n,r,h1,h2,h3⟩
theorem KAt.reads {P:Program}{w:World}{H:Hp}{h:Heap}(x:HOk P w H h):∀ {t:Kd} {v:V} {u:Value},KAt H t v->RelV v u->∃ as,Reads h u (pd t) as
 | .num,_,_,⟨a,e,q⟩,r=>by
  subst e;cases r
  obtain ⟨o,its,n,rv,h1,h2,h3⟩:=tup_obj x q
  cases rv with | cons r1 rv=>cases rv;obtain ⟨t1,rfl⟩:=r1;exact ⟨_,.tuple h1 h2 h3 (.cons (.str _ _) .nil)⟩
 | .tru,_,_,⟨a,e,q⟩,r=>by
  subst e;cases r
  obtain ⟨o,its,n,rv,h1,h2,h3⟩:=tup_obj x q
  cases rv with | cons r1 rv=>cases rv;obtain ⟨t1,rfl⟩:=r1;exact ⟨_,.tuple h1 h2 h3 (.cons (.str _ _) .nil)⟩
 | .gap k,_,_,⟨a,e,q⟩,r=>by
  subst e;cases r
  obtain ⟨o,its,n,rv,h1,h2,h3⟩:=tup_obj x q
  cases rv with | cons r1 rv=>cases rv with | cons r2 rv=>cases rv;obtain ⟨t1,rfl⟩:=r1;obtain ⟨t2,rfl⟩:=r2;exact ⟨_,.tuple h1 h2 h3 (.cons (.str _ _) (.cons (.int _ _) .nil))⟩
 | .ls y,_,_,⟨a,u,e,q,p⟩,r=>by
  subst e;cases r
  obtain ⟨o,its,n,rv,h1,h2,h3⟩:=tup_obj x q
  cases rv with | cons r1 rv=>cases rv with | cons r2 rv =>
   cases rv;obtain ⟨t1,rfl⟩:=r1
   obtain ⟨as,ra⟩:=KAt.reads x p r2
   exact ⟨_,.tuple h1 h2 h3 (.cons (.str _ _) (.cons ra .nil))⟩
 | .fn y z,_,_,⟨a,u,u',e,q,p,p'⟩,r=>by
  subst e;cases r
  obtain ⟨o,its,n,rv,h1,h2,h3⟩:=tup_obj x q
  cases rv with | cons r1 rv=>cases rv with | cons r2 rv=>cases rv with | cons r3 rv =>
   cases rv;obtain ⟨t1,rfl⟩:=r1
   obtain ⟨as,ra⟩:=KAt.reads x p r2
   obtain ⟨bs,rb⟩:=KAt.reads x p' r3
   exact ⟨_,.tuple h1 h2 h3 (.cons (.str _ _) (.cons ra (.cons rb .nil)))⟩
 | .pr y z,_,_,⟨a,u,u',e,q,p,p'⟩,r=>by
  subst e;cases r
  obtain ⟨o,its,n,rv,h1,h2,h3⟩:=tup_obj x q
  cases rv with | cons r1 rv=>cases rv with | cons r2 rv=>cases rv with | cons r3 rv =>
   cases rv;obtain ⟨t1,rfl⟩:=r1
   obtain ⟨as,ra⟩:=KAt.reads x p r2
   obtain ⟨bs,rb⟩:=KAt.reads x p' r3
   exact ⟨_,.tuple h1 h2 h3 (.cons (.str _ _) (.cons ra (.cons rb .nil)))⟩
section
variable {X:Cx}
def rEqK:R2:=fun x y H Q=>∃ t t',KAt H t x/\KAt H t' y/\dp t<=60/\dp t'<=60/\Q (.bl (decide (t=t'))) H
theorem op_eqK (hu:X.A.units+64 < cLine):OpR X (compareOp .Eq) rEqK:=by
 intro pins s σ H x y v u Q I rx ry h
 obtain ⟨t,t',k1,k2,d1,d2,q⟩:=h
 obtain ⟨as,ra⟩:=KAt.reads I.hok k1 rx
 obtain ⟨bs,rb⟩:=KAt.reads I.hok k2 ry
 exact eq_dataH ra rb (pd_shaped d1) (pd_shaped d2) hu (fin_bl I q (pd_eqv t t').symm)
theorem call_isT:CallR X (.builtin "isinstance") (fun xs H Q=>∃ x t T b,xs=[x,.ty T]/\TyOf X.K H x t/\PySem.W.kitOne X.K t (.type T)=some b/\Q (.bl b) H):=by
 intro pins s σ H xs us Q I r h
 obtain ⟨x,t,T,b,rfl,ty,e,q⟩:=h
 obtain ⟨u,u',rfl,ru,ru'⟩:=vals2 r
 obtain rfl:u'=Value.type T:=ru'
 exact isinst_ok I ru ty e fun tk=>⟨.bl b,H,I.tok tk,rfl,q⟩
theorem all_bools:∀ (bs:List Bool),((List.range bs.length).all fun i=>bs.getD i true)=bs.all id:=by
 intro bs
 rw [Bool.eq_iff_iff]
 simp only [List.all_eq_true,List.mem_range,id]
 constructor
 ·intro h b hb
  obtain ⟨i,hi,e⟩:=List.mem_iff_getElem.mp hb
  have:=h i hi
  simpa [List.getD,List.getElem?_eq_getElem hi,e] using this
 ·intro h i hi
  have:=h bs[i] (List.getElem_mem hi)
  simpa [List.getD,List.getElem?_eq_getElem hi] using this
theorem call_allB (hc:X.calm=true):CallR X (.builtin "all") (fun xs H Q=>∃ (l:Addr) (bs:List Bool),xs=[.ref l]/\H l=some (.lst (bs.map V.bl))/\Q (.bl (bs.all id)) H):=by
 intro pins s σ H xs us Q I r h
 obtain ⟨l,bs,rfl,hl,q⟩:=h
 obtain ⟨u,rfl,ru⟩:=vals1 r
 obtain rfl:u=Value.ref l:=ru
 obtain ⟨hz,its,n,rv,e⟩:=(show ObjOk X.prog X.w H s.heap l (.lst (bs.map V.bl)) from I.hok l _ hl)
 have hlen:=rv.length
 rw [List.length_map] at hlen
 have hL:s.heap.IsList l its.toArray:=⟨_,e,rfl,n,rfl⟩
 have hlt:l < s.heap.objs.size:=Heap.lt_size e
 have hh:X.A.in1.handled=none:=I.ok.hd hc
 refine call_all_walk (wpAny_pyIter_list hL ?_)
 refine ⟨s.heap.objs.size,_,_,its.toArray.size,_,_,fun i=>bs.getD i true,rfl,Walks.list hh s.heap.objs.size l (Nat.ne_of_lt hlt) its.toArray,⟨⟨_,Heap.get?_push_size _ rfl,rfl,rfl⟩,⟨_,Heap.get?_push_of_some _ e,rfl,n,rfl⟩⟩,?_,fun h' tk hk=>?_⟩
 ·intro i v s' Q' E' hv hq
  have hv':its[i]?=some v:=by simpa using hv
  have hi:i < its.length:=(List.getElem?_eq_some_iff.mp hv').1
  have hb:(bs.map V.bl)[i]?=some (V.bl (bs[i]'(by omega))):=by rw [List.getElem?_map,List.getElem?_eq_getElem (by omega)];rfl
  obtain ⟨u,hu,ru⟩:=rv.get hb
  rw [hv'] at hu
  cases hu
  obtain rfl:v=Value.bool (bs[i]'(by omega)):=ru
  refine wpAny_truthy_bool ?_
  have e1:bs.getD i true=bs[i]'(by omega):=by simp [List.getD,List.getElem?_eq_getElem (show i < bs.length by omega)]
  rw [<- e1]
  exact hq
 ·have I1:Inv X pins σ H { s with heap:=h',toks:=tk }:=I.kept fun b o z=>hk b o (fun y=>absurd (List.mem_singleton.mp y) (Nat.ne_of_lt (Heap.lt_size z))) (Heap.get?_push_of_some _ z)
  refine fin_bl I1 q ?_
  rw [List.size_toArray,<- hlen]
  exact (all_bools bs).symm
def tListRev (K:PySem.W.Frag)(ta:TA):TE:=fun σ H Q=>ta σ H fun vs H1=>∃ a xs,vs=[.ref a]/\SqT K H1 a xs/\xs.length < 1000000/\∀ l,H1 l=none->Q (.ref l) (upd H1 l (.lst xs.reverse))
theorem items_rev {xs:List V}{its:List Value}{acc:Array Value}(rv:Vals xs its)(hA:ItemsOf (fun i v=>its.toArray[its.toArray.size - 1 - i]?=some v) acc its.toArray.size):Vals xs.reverse acc.toList:=by
 have hl:=rv.length
 have e:acc.toList=its.reverse:=by
  have hs:acc.size=its.length:=hA.1.trans (by simp)
  have hA:=hA.2
  refine List.ext_getElem? fun j=>?_
  by_cases hj:j < its.length
  ·have h1:acc[j]?=some (acc[j]'(by omega)):=Array.getElem?_eq_getElem (by omega)
   have h2:=hA j _ h1
   rw [List.getElem?_reverse hj]
   simp only [List.size_toArray,List.getElem?_toArray] at h2
   rw [h2]
   simpa using h1
  ·have h1:acc.toList[j]?=none:=List.getElem?_eq_none (by simp;omega)
   have h2:its.reverse[j]?=none:=List.getElem?_eq_none (by simp;omega)
   rw [h1,h2]
 rw [e]
 exact rv.reverse
theorem pe_listRev {a:Expr}{ta:TA}{p1 p2 pos1 pos2:Pos}(hc:X.calm=true)(hgL:Gl X "list")(hmL:X.mg "list"=none)(hgR:Gl X "reversed")(hmR:X.mg "reversed"=none)(ha:PA X [a] ta)
  (hs:starEach [a] X.env=[(false,eval a X.env)]:=by rfl)
  (he:starEach [.Call (.Name "reversed" p2) [a] [] pos2] X.env=(false,eval (.Call (.Name "reversed" p2) [a] [] pos2) X.env)::starEach [] X.env:=by rfl) :
  PE X (.Call (.Name "list" p1) [.Call (.Name "reversed" p2) [a] [] pos2] [] pos1) (tListRev X.K ta):=by
 intro pins s σ H Q I h
 refine wpAny_Call_Name_kw (ld_blt I hgL hmL boot_list ?_)
 refine PyProof.Rows.callWith_type1 ?_ he rfl
 rw [he]
 show wpAny _ _ (spliced ((false,eval (.Call (.Name "reversed" p2) [a] [] pos2) X.env)::backTo pos1 (starEach [] X.env))) _ _ s
 refine Calls.spliced_cons ?_
 refine Call_ (ld_blt I hgR hmR boot_reversed (PyProof.Rows.callWith_type1 (thn (ha pos2 pins s σ H _ I h) fun us s1 q1=>?_) hs rfl))
 obtain ⟨vs,H1,I1,r1,t,xs,rfl,hq,hx,q⟩:=q1
 obtain ⟨u,rfl,ru⟩:=vals1 r1
 obtain rfl:u=Value.ref t:=ru
 obtain ⟨its,rv,pl,hz⟩:=I1.tuple hq
 have hlen:=rv.length
 refine call_rt pl (by rw [List.size_toArray];omega) ?_
 refine Calls.spliced_nil ?_
 have hT:s1.heap.objs.size≠t:=Ne.symm (Nat.ne_of_lt pl.lt)
 have I2:Inv X pins σ H1 { s1 with heap:=s1.heap.push (rtObj t ((its.toArray.size:Int) - 1)),toks:=s1.toks+1+1 }:=I1.kept fun b o z=>Heap.get?_push_of_some _ z
 refine call_list_rt (I:=s1.heap.objs.size) (l:=t) (items:=its.toArray) (I.ok.hd hc) ⟨_,Heap.get?_push_size _ rfl,rfl,rfl⟩ (TupO.at pl fun o z=>Heap.get?_push_of_some _ z) (Ne.symm hT) (by rw [List.size_toArray];omega) fun h' tk acc c' hk hS hA=>?_
 have nI:H1 s1.heap.objs.size=none:=I1.hok.fresh (Nat.le_refl _)
 obtain ⟨f0,f1,_,f3,f4,f5⟩:=I1.fpOk (H':=H1) (Nat.le_refl _) nI
 have I3:Inv X pins σ H1 { s1 with heap:=h',toks:=tk }:=I2.turned (t':=tk) hk f0 f1 f3 f4 f5
 have nS:H1 (s1.heap.push (rtObj t ((its.toArray.size:Int) - 1))).objs.size=none:=I2.hok.fresh (Nat.le_refl _)
 have rv2:=items_rev rv hA
 have I4:Inv X pins σ (upd H1 (s1.heap.push (rtObj t ((its.toArray.size:Int) - 1))).objs.size (.lst xs.reverse)) { s1 with heap:=h',toks:=tk }:=by
  refine I2.call' (ch:=[s1.heap.objs.size]) rfl ?_ (I3.hok.track nS ⟨by rw [List.length_reverse];exact hz,acc.toList,c',rv2,by simpa using hS⟩) I2.bare ?_
  ·have u0:Un (frs X.stack) [s1.heap.objs.size] H1 H1 (s1.heap.push (rtObj t ((its.toArray.size:Int) - 1))) h':=by
    have kk:∀ b o,b∉[s1.heap.objs.size]->(s1.heap.push (rtObj t ((its.toArray.size:Int) - 1))).get? b=some o->h'.get? b=some o:=fun b o hb z=>hk b o (fun y=>hb (by simp [y])) z
    exact ⟨fun b o z _ _ hx=>kk b o hx z,fun b o z _ _ hx=>⟨o.slots,kk b o hx z⟩,fun b o z n _=>n,fun b o z hx=>⟨o,kk b o hx z⟩,fun _ _ z=>z,fun _ _ _ z=>z,fun b ps z=>⟨#[],by rw [z];simp⟩⟩
   exact u0.track nS (Heap.get?_none_of_le (Nat.le_refl _))
  ·intro b hb
   obtain rfl:=List.mem_singleton.mp hb
   exact ⟨f3,f1,f4,f5⟩
 exact ⟨.ref _,_,I4,rfl,q _ nS⟩
end
end KS
namespace L2
open PySem PySem.Spec PyProof.Rows
open PySem.W (CodeHd tabObj TabsAt noTabs mem_of_lookupK)
def OnlyT (tabs:List (Addr × Addr))(H:Hp):Prop:=∀ b,H b=none\/(∃ o xs,H b=some (.frz o (.lst xs)))\/(H b=some (.tbl #[])/\b∈tabs.map (·.2))
theorem K_noTab {K:PySem.W.Frag}(hK:noTabs K=true){b:Addr}{o:Obj}(e:K.lookup b=some o){ps:Array Value}:o≠tabObj ps:=by
 intro q
 have h2:=List.all_eq_true.mp hK (b,o) (mem_of_lookupK e)
 subst q
 exact absurd (show false=true from h2) Bool.false_ne_true
theorem law_callT {P:Program}{w:World}{K:PySem.W.Frag}{mg mb:Str->Option Value}{CX:CXT}{k:Nat}{fa a:Addr}{fd:FuncData}{x:Str}{sp:Sp}{s₁:Shared}{vs:List Value}{ns:List Int}{tabs:List (Addr × Addr)}
  (KX:K.In s₁.heap) (hns:s₁.heap.Ns mainGlobals mg) (hb:s₁.heap.Ns builtinsNs mb) (hbb:∀ x:Str,x≠"__name__"->mb x=bootBuiltins x) (hlim:s₁.heap.NoLimit) (hg:s₁.gens=#[])
  (hbm:∃ bm ob,mg "__builtins__"=some (.ref bm)/\bm≠builtinsNs/\s₁.heap.get? bm=some ob/\ob.cls=.type "module"/\ob.dict=some builtinsNs/\ob.data=.plain)
  (hT:TabsAt tabs s₁.heap) (hK:noTabs K=true)
  (ha:s₁.heap.get? a=some { cls:=.type "list",data:=.seq vs.toArray }) (hi:IntsAre vs ns) (hl:ns.length<=sizeLine) (hr:Room k callerA)
  (F:∀ base:Heap,K.In base->base.Ns mainGlobals mg->(∀ q∈tabs,NestB base mg q.1 q.2)->FnOk P w K mg base CX k fa fd [x] sp) (hbind:∀ (s:Shared) (u:Value),BindsTo s fd ⟨[u],[]⟩ [(x,u)])
  (hsp:∀ H:Hp,(∀ q∈tabs,H q.2=some (.tbl #[]))->SqL K H a (ns.map V.int)->sp [.ref a] H (fun v _=>v=.bl true) fun _ _ _=>False)
  (hCX:∀ H e s',CX [] H s₁ (fun _ _ _=>False) e s'->False) :
  codeAny (model P w) callerA (.call (.ref fa) ⟨[.ref a],[]⟩) (fun r s'=>r=.ok (.ret (.bool true))/\OldK s₁.heap s'.heap/\s'.os=s₁.os/\AllBare s'.gens) s₁:=by
 have rv:=vals_ints hi
 have lenV:=hi.length
 have tabOf:∀ {b:Addr},b∈tabs.map (·.2)->s₁.heap.get? b=some (tabObj #[]):=fun {b} hm=>by
  obtain ⟨q,hq,e⟩:=List.mem_map.mp hm
  rw [<- e]
  exact (hT q hq).2
 have core:∀ H:Hp,OnlyT tabs H->(∀ q∈tabs,H q.2=some (.tbl #[]))->SqL K H a (ns.map V.int)->HOk P w H s₁.heap->(∀ b,H b≠none->b=a\/b∈tabs.map (·.2))->(H a≠none->K.lookup a=none) ->
   codeAny (model P w) callerA (.call (.ref fa) ⟨[.ref a],[]⟩) (fun r s'=>r=.ok (.ret (.bool true))/\OldK s₁.heap s'.heap/\s'.os=s₁.os/\AllBare s'.gens) s₁:=by
  intro H hO hTb hS hok hA hKa
  have base_of:∀ {b:Addr} {o:Obj},s₁.heap.get? b=some o->H b=none->(hidT s₁.heap H).get? b=some o:=fun e n=>hidT_get e n
  have noA:∀ {b:Addr} {o:Obj},s₁.heap.get? b=some o->o≠{ cls:=.type "list",data:=.seq vs.toArray }->o≠tabObj #[]->H b=none:=fun {b o} e d1 d2=>by
   cases q:H b with
   | none=>rfl
   | some u =>
    rcases hA b (by rw [q];simp) with e' | e'
    ·subst e'
     rw [ha] at e;cases e
     exact absurd rfl d1
    ·rw [tabOf e'] at e;cases e
     exact absurd rfl d2
  have nsK:∀ {b:Addr} {m:Str->Option Value},s₁.heap.Ns b m->(hidT s₁.heap H).Ns b m:=fun {b m} ⟨o,es,ep,e,d,r⟩=>⟨o,es,ep,base_of e (noA e (fun z=>by rw [z] at d;cases d) (fun z=>by rw [z] at d;cases d)),d,r⟩
  have hKb:K.In (hidT s₁.heap H):=fun b o e=>base_of (KX b o e) (by
   cases q:H b with
   | none=>rfl
   | some u =>
    rcases hA b (by rw [q];simp) with e' | e'
    ·subst e'
     rw [hKa (by rw [q];simp)] at e;cases e
    ·have z:=KX b o e
     rw [tabOf e'] at z
     exact absurd (Option.some.inj z).symm (K_noTab hK e))
  have hM:Mod K mg (hidT s₁.heap H):=⟨hKb,nsK hns,⟨mb,nsK hb,hbb⟩,let ⟨mc,h1,h2⟩:=hlim;⟨mc,nsK h1,h2⟩⟩
  have e0:Env0 P w K mg (hidT s₁.heap H) callerA [] s₁ H:=⟨rfl,hM,fun b o e=>of_hidT e,Nat.le_of_eq (hidT_size _ _),trivial,fun b hb=>absurd (show b∈([]:List Addr) from hb) (by simp),hok,.of_eq hg⟩
  have hN:∀ q∈tabs,NestB (hidT s₁.heap H) mg q.1 q.2:=fun q hq=>by
   refine ⟨?_,?_⟩
   ·obtain ⟨o,vs',file,tf,flags,tg,inF,text,tt,e1,c1,r⟩:=(hT q hq).1
    exact ⟨o,vs',file,tf,flags,tg,inF,text,tt,base_of e1 (noA e1 (fun z=>by rw [z] at c1;exact absurd (show Value.type "list"=Value.type "code" from c1) (by decide)) (fun z=>by rw [z] at c1;cases c1)),c1,r⟩
   ·obtain ⟨bm,ob,b1,b2,b3,b4,b5⟩:=hbm
    exact ⟨bm,ob,b1,b2,base_of b3 (noA b3 (fun z=>by rw [z] at b4;exact absurd (show Value.type "list"=Value.type "module" from b4) (by decide)) (fun z=>by rw [z] at b4;cases b4)),b4,b5⟩
  refine codeAny_mono ((F _ hKb (nsK hns) hN).run callerA [] s₁ H ⟨[.ref a],[]⟩ [.ref a] [.ref a] _ _ hr e0 (hbind s₁ (.ref a)) (.cons rfl .nil) (hsp H hTb hS)) fun r s' h=>?_
  cases r with
  | error e=>exact (hCX H e s' h).elim
  | ok fl =>
   cases fl with
   | next=>exact False.elim h
   | brk=>exact False.elim h
   | cont=>exact False.elim h
   | ret u =>
    obtain ⟨v,H',os,bare,un,hok',r',q⟩:=h
    have q':v=.bl true:=q
    subst q'
    obtain rfl:u=Value.bool true:=r'
    have key:∀ b o,s₁.heap.get? b=some o->s'.heap.get? b=some o\/(b∈tabs.map (·.2)/\o=tabObj #[]/\∃ more,s'.heap.get? b=some (tabObj (#[]++more))):=fun b o e=>by
     cases q:H b with
     | none=>exact .inl (un.keep b o e q (by intro z;exact absurd (show b∈([]:List Addr) from z) (by simp)) (by simp))
     | some u =>
      rcases hO b with z | ⟨ob,xs,z⟩ | ⟨z,zm⟩
      ·rw [q] at z;cases z
      ·have z2:=un.frzs b ob _ z
       obtain ⟨e1,_⟩:=hok b _ z
       obtain ⟨e2,_⟩:=hok' b _ z2
       rw [e] at e1;cases e1
       exact .inl e2
      ·obtain ⟨more,z2⟩:=un.tbls b _ z
       have e2:s'.heap.get? b=some _:=hok' b _ z2
       have e1:=tabOf zm
       rw [e] at e1;cases e1
       exact .inr ⟨zm,rfl,more,e2⟩
    refine ⟨rfl,⟨fun b o e=>?_,fun b o e=>?_⟩,os,bare⟩
    ·rcases key b o e with z | ⟨zm,rfl,more,z⟩
     ·exact .inl z
     ·obtain ⟨q,hq,e'⟩:=List.mem_map.mp zm
      subst e'
      exact .inr (.inl ⟨((hT q hq).1.tab (hT q hq).2).isCodeTable,rfl,#[],more,rfl,z⟩)
    ·rcases key b o e with z | ⟨_,_,more,z⟩
     ·exact ⟨_,z⟩
     ·exact ⟨_,z⟩
 have notA:∀ q∈tabs,q.2≠a:=fun q hq z=>by
  have:=(hT q hq).2
  rw [z,ha] at this
  cases this
 cases hk:K.lookup a with
 | some o =>
  have e:=KX a o hk
  rw [ha] at e
  cases e
  refine core (fun b=>if b∈tabs.map (·.2) then some (.tbl #[]) else none) (fun b=>?_) (fun q hq=>if_pos (List.mem_map_of_mem hq)) (.inr ⟨_,vs.toArray,_,hk,rfl,rfl,rfl,by rw [List.size_toArray,lenV];exact hl,by simpa using rv⟩) (fun b u z=>?_) (fun b z=>?_) fun z=>?_
  ·by_cases hb:b∈tabs.map (·.2)
   ·exact .inr (.inr ⟨if_pos hb,hb⟩)
   ·exact .inl (if_neg hb)
  ·by_cases hb:b∈tabs.map (·.2)
   ·have z':=(if_pos hb).symm.trans z
    cases z'
    exact tabOf hb
   ·have z':=(if_neg hb).symm.trans z
    cases z'
  ·by_cases hb:b∈tabs.map (·.2)
   ·exact .inr hb
   ·exact absurd (if_neg hb) z
  ·by_cases hb:a∈tabs.map (·.2)
   ·obtain ⟨q,hq,e'⟩:=List.mem_map.mp hb
    exact absurd e' (notA q hq)
   ·exact absurd (if_neg hb) z
 | none =>
  refine core (fun b=>if b=a then some (.frz { cls:=.type "list",data:=.seq vs.toArray } (.lst (ns.map V.int))) else if b∈tabs.map (·.2) then some (.tbl #[]) else none) (fun b=>?_) (fun q hq=>?_)
   (.inl (.inr ⟨{ cls:=.type "list",data:=.seq vs.toArray },if_pos rfl⟩)) (fun b u z=>?_) (fun b z=>?_) fun _=>hk
  ·by_cases hb:b=a
   ·exact .inr (.inl ⟨_,_,if_pos hb⟩)
   ·by_cases hb2:b∈tabs.map (·.2)
    ·exact .inr (.inr ⟨(if_neg hb).trans (if_pos hb2),hb2⟩)
    ·exact .inl ((if_neg hb).trans (if_neg hb2))
  ·exact (if_neg (notA q hq)).trans (if_pos (List.mem_map_of_mem hq))
  ·by_cases hb:b=a
   ·have z':=(if_pos hb).symm.trans z
    cases z'
    subst hb
    exact ⟨ha,by rw [List.length_map];exact hl,vs,_,rv,ha⟩
   ·by_cases hb2:b∈tabs.map (·.2)
    ·have z':=((if_neg hb).trans (if_pos hb2)).symm.trans z
     cases z'
     exact tabOf hb2
    ·have z':=((if_neg hb).trans (if_neg hb2)).symm.trans z
     cases z'
  ·by_cases hb:b=a
   ·exact .inl hb
   ·by_cases hb2:b∈tabs.map (·.2)
    ·exact .inr hb2
    ·exact absurd ((if_neg hb).trans (if_neg hb2)) z
def spTop (K:PySem.W.Frag)(n:Nat)(ps:List Addr):Sp:=fun vs H Q _=>∃ (a:Addr) (ns:List Int),vs=[.ref a]/\SqL K H a (ns.map V.int)/\ns.length<=n/\(∀ p∈ps,H p=some (.tbl #[]))/\∀ H',Q (.bl true) H'
end L2
namespace L2
open PySem PySem.Spec PyProof.Rows
def NewRec (n0:Heap)(H:Hp)(h:Heap)(b:Addr):Prop:=n0.get? b=none/\H b=none/\∃ o vs,h.get? b=some o/\o.data=.fields vs
structure NK (fr:List Addr)(n0:Heap)(H:Hp)(h h':Heap):Prop where
 keep:∀ b o,h.get? b=some o->b∉fr->¬ NewRec n0 H h b->h'.get? b=some o
 slot:∀ b o,h.get? b=some o->(∀ vs,o.data≠.fields vs)->∃ sl,h'.get? b=some { o with slots:=sl }
 there:∀ b o,h.get? b=some o->∃ o',h'.get? b=some o'
 size:h.objs.size<=h'.objs.size
structure Fl (n0:Heap)(H:Hp)(a:Addr)(cls:Value)(h:Heap)(z:Option Value):Prop where
 new:n0.get? a=none
 un:H a=none
 ob:∃ oe vs,h.get? a=some oe/\oe.cls=cls/\oe.data=.fields vs/\1 < vs.size/\match z with
  | none=>vs[1]?=some .none
  | some z=>∃ T oT ts,vs[1]?=some (.ref T)/\n0.get? T=none/\H T=none/\T≠a/\h.get? T=some oT/\oT.data=.fields ts/\ts[3]?=some z
section
variable {fr:List Addr}{n0:Heap}{H:Hp}{h h1 h2:Heap}{a:Addr}{cls:Value}{z:Option Value}
theorem NK.refl:NK fr n0 H h h:=⟨fun _ _ e _ _=>e,fun _ o e _=>⟨o.slots,e⟩,fun _ o e=>⟨o,e⟩,Nat.le_refl _⟩
theorem NK.trans (x:NK fr n0 H h h1)(y:NK fr n0 H h1 h2)(hr:∀ b o,h.get? b=some o->b∉fr->¬ NewRec n0 H h b->¬ NewRec n0 H h1 b):NK fr n0 H h h2 :=
 ⟨fun b o e n m=>y.keep b o (x.keep b o e n m) n (hr b o e n m),fun b o e d=>by
  obtain ⟨sl,e1⟩:=x.slot b o e d
  obtain ⟨sl2,e2⟩:=y.slot b _ e1 d
  exact ⟨sl2,e2⟩,fun b o e=>let ⟨o1,e1⟩:=x.there b o e;y.there b o1 e1,Nat.le_trans x.size y.size⟩
theorem NK.trans' (x:NK fr n0 H h h1)(y:NK fr n0 H h1 h2):NK fr n0 H h h2:=x.trans y fun b o e n m z=>by
 have e1:=x.keep b o e n m
 obtain ⟨z1,z2,o',vs,e2,d⟩:=z
 rw [e1] at e2
 cases e2
 exact m ⟨z1,z2,o,vs,e,d⟩
end
section
variable {M:Model}{A:Around}{E:Value->Shared->Prop}{s:Shared}{env:Env}{outer:List Env}{L a:Addr}{cls:Value}{n0:Heap}{H:Hp}{base:Heap}{Q:Unit->Shared->Prop}
theorem note_entry {head:Value}{hadNext:Bool}{oe:Obj}{vs:Array Value}(hfr:A.frames=some (env::outer))(hl:s.heap.FunFrames base (env::outer))(hf:env.frame=some L)(hn:∀ b,s.heap.objs.size<=b->n0.get? b=none)(hH:∀ b,s.heap.objs.size<=b->H b=none)
  (ha:n0.get? a=none) (hun:H a=none) (he:s.heap.get? a=some oe) (hc:oe.cls=cls) (hd:oe.data=.fields vs) (hsz:1 < vs.size)
  (h:∀ h',NK (frs (env::outer)) n0 H s.heap h'->Fl n0 H a cls h' (some (rawInt L))->Q () { s with heap:=h' }) :
  wpAny M A (do let f <- frameOf env;let pl <- entryPlaceOf L hadNext;let b <- EntryCells.newEntry head f .none (rawInt L) .none pl;setField (.ref a) 1 b) Q E s:=by
 have hene:a∉(env::outer).filterMap (·.frame):=fun hm=>by
  obtain ⟨_,o,ho,hnf⟩:=hl.mem hm
  rw [he] at ho;cases ho;exact hnf vs hd
 refine wpAny_bind (wpAny_frameOf_fun hfr hl hf fun h₁ hs₁=>?_)
 refine wpAny_bind (wpAny_entryPlaceOf fun pl hpl=>?_)
 unfold EntryCells.newEntry newFields
 refine wpAny_bind (wpAny_newObj_type ?_ (hpl.sizeOk5 _ _ _ _ _))
 have he₁:h₁.get? a=some oe:=(hs₁.2.1 a hene).trans he
 have he₂:=Heap.get?_push_of_some (h:=h₁) { cls:=.type "traceback",dict:=none,data:=.fields ([head,.ref L,.none,rawInt L,.none]++(if pl.isEmpty then List.replicate 6 Value.none else pl)).toArray } he₁
 refine wpAny_setField he₂ hd hsz ?_
 have hTa:h₁.objs.size≠a:=Nat.ne_of_gt (Heap.lt_size he₁)
 have hd₃:=Obj.data_mapFields hd (·.setIfInBounds 1 (Value.ref h₁.objs.size))
 have he₃:=Heap.get?_update_self (Obj.mapFields (·.setIfInBounds 1 (Value.ref h₁.objs.size))) he₂ (Obj.isFreed_of_fields hd₃)
 have hT₃:=(Heap.get?_update_other (h₁.push { cls:=.type "traceback",dict:=none,data:=.fields ([head,.ref L,.none,rawInt L,.none]++(if pl.isEmpty then List.replicate 6 Value.none else pl)).toArray })
  (Obj.mapFields (·.setIfInBounds 1 (Value.ref h₁.objs.size))) (Ne.symm hTa)).trans (Heap.get?_push_size h₁ rfl)
 have keep:∀ b o,b≠a->h₁.get? b=some o->((h₁.push { cls:=.type "traceback",dict:=none,data:=.fields ([head,.ref L,.none,rawInt L,.none]++(if pl.isEmpty then List.replicate 6 Value.none else pl)).toArray }).update a (Obj.mapFields (·.setIfInBounds 1 (Value.ref h₁.objs.size)))).get? b=some o:=fun b o hb e=>by
  rw [Heap.get?_update_other _ _ (Ne.symm hb)]
  exact Heap.get?_push_of_some _ e
 refine h _ ⟨fun b o e n m=>?_,fun b o e d=>?_,fun b o e=>?_,?_⟩ ⟨ha,hun,_,_,he₃,(Obj.cls_mapFields ..).trans hc,hd₃,by simpa using hsz,h₁.objs.size,_,_,by simp [hsz],hn _ (by rw [hs₁.1];exact Nat.le_refl _),hH _ (by rw [hs₁.1];exact Nat.le_refl _),hTa,hT₃,rfl,by simp⟩
 ·refine keep b o (fun z=>m ?_) ((hs₁.2.1 b n).trans e)
  subst z
  exact ⟨ha,hun,oe,vs,he,hd⟩
 ·obtain ⟨sl,e1⟩:=hs₁.2.2 b o e
  refine ⟨sl,keep b _ (fun z=>?_) e1⟩
  subst z
  rw [he] at e
  cases e
  exact d vs hd
 ·obtain ⟨sl,e1⟩:=hs₁.2.2 b o e
  by_cases z:b=a
  ·subst z;exact ⟨_,he₃⟩
  ·exact ⟨_,keep b _ z e1⟩
 ·rw [Heap.size_after_update,Heap.size_push,hs₁.1]
  omega
theorem note_fl {z:Option Value}(hfr:A.frames=some (env::outer))(hl:s.heap.FunFrames base (env::outer))(hf:env.frame=some L)(hn:∀ b,s.heap.objs.size<=b->n0.get? b=none)(hH:∀ b,s.heap.objs.size<=b->H b=none)(x:Fl n0 H a cls s.heap z)
  (h:∀ h',NK (frs (env::outer)) n0 H s.heap h'->Fl n0 H a cls h' (some (rawInt L))->Q () { s with heap:=h' }):wpAny M A (noteFrame (.ref a) env) Q E s:=by
 obtain ⟨ha,hun,oe,vs,he,hc,hd,hsz,hz⟩:=x
 unfold noteFrame
 simp only [hf]
 cases z with
 | none =>
  refine wpAny_bind (wpAny_field he hd hz ?_)
  rw [if_neg (by decide)]
  exact note_entry hfr hl hf hn hH ha hun he hc hd hsz h
 | some z =>
  obtain ⟨T,oT,ts,h1,hnT,hHT,hTa,hT,hdT,h3⟩:=hz
  refine wpAny_bind (wpAny_field he hd h1 ?_)
  rw [if_pos (show (Value.ref T != Value.none)=true from by simp)]
  refine wpAny_bind (wpAny_field hT hdT h3 ?_)
  by_cases hzz:(z==rawInt L)=true
  ·rw [if_pos hzz]
   have e:z=rawInt L:=eq_of_beq hzz
   subst e
   exact wpAny_pure (h _ .refl ⟨ha,hun,oe,vs,he,hc,hd,hsz,T,oT,ts,h1,hnT,hHT,hTa,hT,hdT,h3⟩)
  ·rw [if_neg hzz]
   refine wpAny_bind (wpAny_setField hT hdT (Array.getElem?_eq_some_iff.mp h3).1 ?_)
   have other:∀ b,b≠T->(s.heap.update T (Obj.mapFields (·.setIfInBounds 3 Value.none))).get? b=s.heap.get? b:=fun b hb=>Heap.get?_update_other _ _ (Ne.symm hb)
   have noRecord:∀ b o,s.heap.get? b=some o->(∀ vs,o.data≠.fields vs)->b≠T:=fun b o hb hnf q=>by
    rw [q,hT] at hb;cases hb;exact hnf ts hdT
   have hs:(s.heap.update T (Obj.mapFields (·.setIfInBounds 3 Value.none))).objs.size=s.heap.objs.size:=Heap.size_after_update ..
   refine note_entry (s:={ s with heap:=s.heap.update T (Obj.mapFields (·.setIfInBounds 3 Value.none)) }) (base:=base) hfr (hl.of_keeps fun b o hb hnf=>⟨o,(other b (noRecord b o hb hnf)).trans hb,rfl⟩) hf (fun b hb=>hn b (by rw [hs] at hb;exact hb)) (fun b hb=>hH b (by rw [hs] at hb;exact hb)) ha hun ((other a (Ne.symm hTa)).trans he) hc hd hsz fun h' nk fl=>?_
   have nk0:NK (frs (env::outer)) n0 H s.heap (s.heap.update T (Obj.mapFields (·.setIfInBounds 3 Value.none))):=by
    refine ⟨fun b o e n m=>(other b fun z=>m ?_).trans e,fun b o e d=>⟨o.slots,(other b (noRecord b o e d)).trans e⟩,fun b o e=>?_,Nat.le_of_eq hs.symm⟩
    ·subst z;exact ⟨hnT,hHT,oT,ts,hT,hdT⟩
    ·by_cases z:b=T
     ·subst z;exact ⟨_,Heap.get?_update_self _ hT (Obj.isFreed_of_fields (Obj.data_mapFields hdT _))⟩
     ·exact ⟨o,(other b z).trans e⟩
   exact h h' (nk0.trans' nk) fl
theorem flight_fl {z:Value}{w:Option Addr}(x:Fl n0 H a cls s.heap (some z))(h:∀ h',NK (frs (env::outer)) n0 H s.heap h'->Fl n0 H a cls h' (some (w.elim .none fun f=>rawInt f))->Q () { s with heap:=h' }):wpAny M A (setFlight (.ref a) w) Q E s:=by
 obtain ⟨ha,hun,oe,vs,he,hc,hd,hsz,T,oT,ts,h1,hnT,hHT,hTa,hT,hdT,h3⟩:=x
 have hts:=(Array.getElem?_eq_some_iff.mp h3).1
 unfold setFlight
 refine wpAny_bind (wpAny_field he hd h1 ?_)
 rw [if_pos (show (Value.ref T != Value.none)=true from by simp)]
 refine wpAny_setField hT hdT hts ?_
 have other:∀ b,b≠T->(s.heap.update T (Obj.mapFields (·.setIfInBounds 3 (w.elim .none fun f=>rawInt f)))).get? b=s.heap.get? b:=fun b hb=>Heap.get?_update_other _ _ (Ne.symm hb)
 have noRecord:∀ b o,s.heap.get? b=some o->(∀ vs,o.data≠.fields vs)->b≠T:=fun b o hb hnf q=>by
  rw [q,hT] at hb;cases hb;exact hnf ts hdT
 have hTs:=Heap.get?_update_self (Obj.mapFields (·.setIfInBounds 3 (w.elim .none fun f=>rawInt f))) hT (Obj.isFreed_of_fields (Obj.data_mapFields hdT _))
 refine h _ ⟨fun b o e n m=>(other b fun z=>m ?_).trans e,fun b o e d=>⟨o.slots,(other b (noRecord b o e d)).trans e⟩,fun b o e=>?_,Nat.le_of_eq (Heap.size_after_update ..).symm⟩ ⟨ha,hun,oe,vs,(other a (Ne.symm hTa)).trans he,hc,hd,hsz,T,_,_,h1,hnT,hHT,hTa,hTs,Obj.data_mapFields hdT _,by simp [hts]⟩
 ·subst z;exact ⟨hnT,hHT,oT,ts,hT,hdT⟩
 ·by_cases z:b=T
  ·subst z;exact ⟨_,hTs⟩
  ·exact ⟨o,(other b z).trans e⟩
end
end L2
namespace L2
open PySem PySem.Spec PyProof.Rows KS
structure SE (X:Cx)(e:Expr)(t:TE):Prop where out:PE X e t
structure ST (X:Cx)(e:Expr)(t:TT):Prop where out:PT X e t
structure SW (X:Cx)(e:Expr)(t:TT):Prop where out:PW X e t
structure SA (X:Cx)(es:List Expr)(t:TA):Prop where out:PA X es t
structure SS (X:Cx)(st:Stmt)(t:TS):Prop where out:PS X st t
structure SB (X:Cx)(st:List Stmt)(t:TS):Prop where out:PSs X st t
structure SG (X:Cx)(tg:Expr)(g:TG):Prop where out:PG X tg g
structure SI (X:Cx)(tg iter:Expr)(wi:TI):Prop where out:PI X tg iter wi
structure SF (X:Cx)(ifs:List Expr)(t:TT):Prop where out:PIf X ifs t
structure SO (X:Cx)(e:Option Expr)(t:TO):Prop where out:PO X e t
structure SD (X:Cx)(pos:Pos)(keys:List (Option Expr))(values:List Expr)(trs:List (TE × TE)):Prop where out:PPs X pos keys values trs
section
variable {env:Env}{es:List Expr}
theorem st_con {c k p}:starEach (.Constant c k p::es) env=(false,eval (.Constant c k p) env)::starEach es env:=rfl
theorem st_bin {a o b p}:starEach (.BinOp a o b p::es) env=(false,eval (.BinOp a o b p) env)::starEach es env:=rfl
theorem st_tup {a k p}:starEach (.Tuple a k p::es) env=(false,eval (.Tuple a k p) env)::starEach es env:=rfl
theorem st_call {a b c p}:starEach (.Call a b c p::es) env=(false,eval (.Call a b c p) env)::starEach es env:=rfl
theorem st_name {a p}:starEach (.Name a p::es) env=(false,eval (.Name a p) env)::starEach es env:=rfl
theorem st_sub {a b p}:starEach (.Subscript a b p::es) env=(false,eval (.Subscript a b p) env)::starEach es env:=rfl
theorem st_lc {a b c p}:starEach (.ListComp a b c p::es) env=(false,eval (.ListComp a b c p) env)::starEach es env:=rfl
end
section
variable {X:Cx}
theorem e_v (i:Nat){x:Str}{pos:Pos}(hN:X.N[i]?=some x:=by rfl)(hv:Vis X.env.scope x:=by first | exact Or.inl rfl | exact Or.inr (Or.inl rfl) | exact Or.inr (Or.inr rfl))(hd:(x==("__debug__":Str))=false:=by decide)
  (hcd:(x==("__classdict__":Str))=false:=by decide):SE X (.Name x pos) (tVar i):=⟨pe_var hN hv hd hcd⟩
theorem e_int {i j pos}:SE X (.Constant (.int i) j pos) (tC (.int i)):=⟨pe_int⟩
theorem e_bl {b j pos}:SE X (.Constant (.bool b) j pos) (tC (.bl b)):=⟨pe_bl⟩
theorem e_non {j pos}:SE X (.Constant .none j pos) (tC .non):=⟨pe_non⟩
theorem e_str {x j pos}:SE X (.Constant (.str x) j pos) (tC (.str x)):=⟨pe_str⟩
theorem e_bltn {x:Str}{v:V}{u:Value}{pos:Pos}(hg:Gl X x)(hm:X.mg x=none)(hv:bootBuiltins x=some u)(r:RelV v u)(hn:x≠"__name__":=by decide)(hd:(x==("__debug__":Str))=false:=by decide):SE X (.Name x pos) (tC v):=⟨pe_bltn hg hm hv r hn hd⟩
variable {a b c e o:Expr}{es:List Expr}{ta tb te to ti tx:TE}{tA tB':TT}{t:TA}{pos apos cpos p:Pos}{rest:List Expr}
theorem e_ix {r:R2}(hr:IxR X r)(ha:SE X a ta)(hb:SE X b tb)(hs:PlainIx b):SE X (.Subscript a b pos) (tOp r ta tb):=⟨pe_ix hr ha.out hb.out hs⟩
theorem o_none:SO X none tNoPart:=⟨po_none⟩
theorem o_some (h:SE X e te):SO X (some e) (tPart te):=⟨po_some h.out⟩
theorem e_slice {lo hi:Option Expr}{tl th:TO}{p2:Pos}{r:V->Option Int->Option Int->Hp->VK->Prop}(hr:SlR X r)(he:SE X e te)(hl:SO X lo tl)(hu:SO X hi th):SE X (.Subscript e (.Slice lo hi none p2) pos) (tSl r te tl th):=⟨pe_slice hr he.out hl.out hu.out⟩
theorem e_cmp {op:CmpOp}{r:R2}(ho:OpR X (compareOp op) r)(ha:SE X a ta)(hb:SE X b tb)(hm:behindInMarks op b=false):SE X (.Compare a [op] [b] pos) (tOp r ta tb):=⟨pe_cmpR ho ha.out hb.out hm⟩
theorem t_cmp {op:CmpOp}{r:R2}(ho:OpR X (compareOp op) r)(ha:SE X a ta)(hb:SE X b tb)(hm:behindInMarks op b=false):ST X (.Compare a [op] [b] pos) (tTest (tOp r ta tb)):=⟨pt_cmpR ho ha.out hb.out hm⟩
theorem t_val (h:SE X e te)(he:∀ whole,isTrue e X.env whole=(do let v <- whole;standAt e.pos;holding [v] (truthy v)):=by intro _;rfl):ST X e (tB te):=⟨pt_val h.out he⟩
theorem t_truth (ha:SE X a ta)(he:∀ whole,isTrue a X.env whole=(do let v <- whole;standAt a.pos;holding [v] (truthy v)):=by intro _;rfl):ST X a (fun σ H Q=>ta σ H fun x H'=>∃ k,TruV X.K x H' k/\Q k H'):=⟨pt_truth ha.out he⟩
theorem t_not (ha:ST X a tA):ST X (.UnaryOp .Not a pos) (tNot tA):=⟨pt_not ha.out⟩
theorem w_or1 (ha:ST X a tA):SW X (.BoolOp .Or [a] pos) tA:=⟨pw_or1 ha.out⟩
theorem w_or (ha:ST X a tA)(hb:SW X (.BoolOp .Or (b::rest) pos) tB'):SW X (.BoolOp .Or (a::b::rest) pos) (tOr tA tB'):=⟨pw_or ha.out hb.out⟩
theorem t_w (h:SW X e tA):ST X e tA:=⟨PW.pt h.out⟩
theorem e_one {op}(h:SE X a ta):SE X (.BoolOp op [a] pos) ta:=⟨pe_one h.out⟩
theorem e_and (ha:SE X a ta)(hb:SE X (.BoolOp .And (b::rest) pos) tb):SE X (.BoolOp .And (a::b::rest) pos) (tAndV ta tb):=⟨pe_and ha.out hb.out⟩
theorem e_not (ha:SE X a ta):SE X (.UnaryOp .Not a pos) (tNotV ta):=⟨pe_not ha.out⟩
theorem e_if (hc:ST X c tA)(ha:SE X a ta)(hb:SE X b tb):SE X (.IfExp c a b pos) (tIf tA ta tb):=⟨pe_ifExp hc.out ha.out hb.out⟩
theorem e_op {op:Operator}{r:R2}(ho:OpR X (binaryOp op) r)(ha:SE X a ta)(hb:SE X b tb):SE X (.BinOp a op b pos) (tOp r ta tb):=⟨pe_op ho ha.out hb.out⟩
theorem a_nil:SA X [] tNil:=⟨pa_nil⟩
theorem a_cons (ha:SE X e te)(hr:SA X es t)(hs:starEach (e::es) X.env=(false,eval e X.env)::starEach es X.env:=by first | exact st_con | exact st_name | exact st_call | exact st_bin | exact st_tup | exact st_sub | exact st_lc | rfl):SA X (e::es) (tCons te t):=⟨pa_cons ha.out hr.out hs⟩
theorem e_tup {x1}(h:SA X es t):SE X (.Tuple es x1 pos) (tTup t):=⟨pe_tup h.out⟩
theorem e_lst (h:SA X es t):SE X (.List es pos) (tLst t):=⟨pe_lst h.out⟩
variable {k:Nat}{f:Addr}{fd:FuncData}{ps:List Str}{sp:Sp}{x:Str}
theorem e_call (F:FnOk X.prog X.w X.K X.mg X.base CX0 k f fd ps sp)(hr:Room k X.A)(hg:Gl X x)(hm:X.mg x=some (.ref f))(hk:PySem.W.keepIn X.K (.ref f)=true)(hb:Binds X.K fd ps [])(ha:SA X (e::es) t)(hdb:(x==("__debug__":Str))=false:=by decide)
  (he:starEach (e::es) X.env=(false,eval e X.env)::starEach es X.env:=by first | exact st_con | exact st_name | exact st_call | exact st_bin | exact st_tup | exact st_sub | exact st_lc | rfl) (hpl:(backTo pos (starEach es X.env)).any (·.1)=false:=by rfl) :
  SE X (.Call (.Name x p) (e::es) [] pos) (tCall sp [] E0 t):=⟨pe_call F hr hg hm hk hb .nil pass0 ha.out hdb he hpl⟩
theorem e_callB {id:String}{r:List V->Hp->VK->Prop}(hc:CallR X (.builtin id) r)(hg:Gl X x)(hm:X.mg x=none)(hv:bootBuiltins x=some (.builtin id))(ha:SA X (e::es) t)(hn:x≠"__name__":=by decide)(hdb:(x==("__debug__":Str))=false:=by decide)
  (he:starEach (e::es) X.env=(false,eval e X.env)::starEach es X.env:=by first | exact st_con | exact st_name | exact st_call | exact st_bin | exact st_tup | exact st_sub | exact st_lc | rfl) (hpl:(backTo pos (starEach es X.env)).any (·.1)=false:=by rfl):SE X (.Call (.Name x p) (e::es) [] pos) (tCB r t):=⟨pe_callB hc hg hm hv ha.out hn hdb he hpl⟩
theorem e_callTy {T:String}{r:List V->Hp->VK->Prop}(hc:CallR X (.type T) r)(hg:Gl X x)(hm:X.mg x=none)(hv:bootBuiltins x=some (.type T))(ha:SA X (e::es) t)(hn:x≠"__name__":=by decide)(hdb:(x==("__debug__":Str))=false:=by decide)
  (he:starEach (e::es) X.env=(false,eval e X.env)::starEach es X.env:=by first | exact st_con | exact st_name | exact st_call | exact st_bin | exact st_tup | exact st_sub | exact st_lc | rfl) (hpl:(backTo pos (starEach es X.env)).any (·.1)=false:=by rfl):SE X (.Call (.Name x p) (e::es) [] pos) (tCB r t):=⟨pe_callTy hc hg hm hv ha.out hn hdb he hpl⟩
theorem e_bm0 {T id:String}{name:Str}{r:V->List V->Hp->VK->Prop}(pa:PlainAttrs T)(slot:Slot T name id)(hty:typeOf (.builtin id)=pure (.type "method_descriptor"))(hm:MtR X id r)(ho:SE X o to)
  (hbase:attributeBase o name X.env (eval o X.env)=eval o X.env:=by rfl) (hline:(apos.endLine==cpos.line)=true:=by rfl):SE X (.Call (.Attribute o name apos) [] [] cpos) (tBM0 X.K T r to):=⟨pe_bm0 pa slot hty hm ho.out hbase hline⟩
theorem e_bm {T id:String}{name:Str}{r:V->List V->Hp->VK->Prop}(pa:PlainAttrs T)(slot:Slot T name id)(hty:typeOf (.builtin id)=pure (.type "method_descriptor"))(hm:MtR X id r)(ho:SE X o to)(ha:SA X (e::es) t)
  (hbase:attributeBase o name X.env (eval o X.env)=eval o X.env:=by rfl)
  (hfew:((backTo cpos (starEach (e::es) X.env)).all (fun x=>!x.1) && (backToKw cpos (keywordEach [] X.env)).all (fun x=>x.1.isSome)
   && decide ((e::es).length+([]:List Keyword).length+(if ([]:List Keyword).isEmpty then 0 else 1) < 30))=true:=by rfl)
  (hline:(apos.endLine==cpos.line)=true:=by rfl) (hs:starEach (e::es) X.env=(false,eval e X.env)::starEach es X.env:=by first | exact st_con | exact st_name | exact st_call | exact st_bin | exact st_tup | exact st_sub | exact st_lc | rfl) (hplain:(backTo cpos (starEach es X.env)).any (·.1)=false:=by rfl) :
  SE X (.Call (.Attribute o name apos) (e::es) [] cpos) (tBM X.K T r to t):=⟨pe_bm pa slot hty hm ho.out ha.out hbase hfew hline hs hplain⟩
theorem e_dget2 {f:Expr}(hu:X.A.units+1 < cLine)(ho:SE X o to)(he:SE X e te)(hf:SE X f tx)(m:M2 X o "get" apos e f cpos):SE X (.Call (.Attribute o "get" apos) [e,f] [] cpos) (tDGet2 to te tx):=⟨pe_dget2 hu ho.out he.out hf.out m⟩
theorem e_dget {i:Expr}(hu:X.A.units+1 < cLine)(ho:SE X o to)(hi:SE X i ti)(hs:NoSl i):SE X (.Subscript o i pos) (tDGet to ti):=⟨pe_dget hu ho.out hi.out hs⟩
theorem e_dnew:SE X (.Dict [] [] pos) tDNewK:=⟨pe_dnewK⟩
theorem d_nil:SD X pos [] [] []:=⟨pps_nil⟩
theorem d_cons {k v:Expr}{ks:List (Option Expr)}{vs:List Expr}{tk tv:TE}{trs:List (TE × TE)}(hk:SE X k tk)(hv:SE X v tv)(hr:SD X pos ks vs trs):SD X pos (some k::ks) (v::vs) ((tk,tv)::trs):=⟨pps_cons hk.out hv.out hr.out⟩
theorem e_disp {keys:List (Option Expr)}{values:List Expr}{trs:List (TE × TE)}(h:SD X pos keys values trs)(hall:keys.all (·.isSome)=true)(hl:keys.length=values.length)(h0:keys≠[])(h15:keys.length<=15):SE X (.Dict keys values pos) (tDisp trs):=⟨pe_disp h.out hall hl h0 h15⟩
theorem b_nil:SB X [] tNext:=⟨pss_nil⟩
variable {st:Stmt}{sts:List Stmt}{ts tu:TS}
theorem b_cons (h1:SS X st ts)(h2:SB X sts tu):SB X (st::sts) (tSeq ts tu):=⟨pss_cons h1.out h2.out⟩
theorem b_one (h1:SS X st ts):SB X [st] ts:=⟨pss_one h1.out⟩
theorem s_expr (he:SE X e te)(hs:swapsWith e none pos.line X.env=pure false:=by rfl):SS X (.Expr e pos) (tDrop te):=⟨ps_expr he.out hs⟩
theorem s_ret (he:SE X e te):SS X (.Return (some e) pos) (tRet te):=⟨ps_ret he.out⟩
theorem s_if {a b:List Stmt}(hc:ST X c tA)(ha:SB X a ts)(hb:SB X b tu):SS X (.If c a b pos) (tIfS tA ts tu):=⟨ps_if hc.out ha.out hb.out⟩
theorem s_set {i:Nat}{pos':Pos}(hN:X.N.Nodup)(hi:X.N[i]?=some x)(hx:Loc X.env.scope x)(he:SE X e te)(hs:swapsWith e (some (.Name x pos')) pos.line X.env=pure false:=by rfl)(hf:X.fn x=true\/X.env.scope.names.lookup x=some .local:=by first | exact .inl rfl | exact .inr rfl | assumption):
  SS X (.Assign [.Name x pos'] e pos) (tAsg te (gName i)):=⟨ps_set hN hi hx he.out hs hf⟩
theorem s_dput {i value:Expr}{tv:TE}{pos':Pos}(hu:X.A.units+1 < cLine)(ho:SE X o to)(hi:SE X i ti)(hv:SE X value tv)(hs:swapsWith value (some (.Subscript o i pos')) pos.line X.env=pure false):SS X (.Assign [.Subscript o i pos'] value pos) (sDPut to ti tv):=⟨ps_dput hu ho.out hi.out hv.out hs⟩
theorem s_while {body:List Stmt}(hp:PassesOwn (model X.prog X.w) X.A X.env X.xe)(hc:ST X c tA)(hb:SB X body ts):SS X (.While c body [] pos) (tWhile tA ts):=⟨ps_while hp hc.out hb.out⟩
variable {tg iter:Expr}{wi:TI}{g:TG}
theorem s_for {body:List Stmt}(hp:PassesOwn (model X.prog X.w) X.A X.env X.xe)(hc:X.calm=true)(hi:SI X tg iter wi)(hg:SG X tg g)(hb:SB X body ts)(hs:∀ x,foldedSetIterable iter X.env x=pure x:=by intro _;rfl):SS X (.For tg iter body [] pos) (tFor wi g ts):=⟨ps_for hp hc hi.out hg.out hb.out hs⟩
theorem i_list (hl:SE X e te):SI X tg e (iList X.K te):=⟨pi_list hl.out⟩
theorem i_tup (hl:SE X e te):SI X tg e (iTup X.K te):=⟨pi_tup hl.out⟩
theorem i_range2 {ta:TA}(hg:Gl X "range")(hm:X.mg "range"=none)(ha:SA X [a,b] ta)(hs:starEach [a,b] X.env=[(false,eval a X.env),(false,eval b X.env)]:=by rfl)(hs2:starEach [b] X.env=[(false,eval b X.env)]:=by rfl):SI X tg (.Call (.Name "range" p) [a,b] [] pos) (iRng2 ta):=⟨pi_range2 hg hm ha.out hs hs2⟩
theorem g_name {i:Nat}(hN:X.N.Nodup)(hi:X.N[i]?=some x)(hx:Loc X.env.scope x)(hf:X.fn x=true\/X.env.scope.names.lookup x=some .local:=by first | exact .inl rfl | exact .inr rfl | assumption):SG X (.Name x pos) (gName i):=⟨pg_name hN hi hx hf⟩
theorem f_nil:SF X [] tYes:=⟨pif_nil⟩
theorem f_one (h:ST X c tA):SF X [c] tA:=⟨pif_one h.out⟩
variable {scope:Scope}{cl:List (Str × Addr)}{own fr:List Str}{js:List Nat}{elt:Expr}{ifs:List Expr}{tt:TT}
theorem e_comp (S:CompSc X scope cl own fr js)(hcalm:X.calm=true)(hi:SI X tg iter wi)(hg:∀ C s0 H0 ex,SG (X.cmp scope cl own fr C s0 H0 ex) tg g)(ht:∀ C s0 H0 ex,SF (X.cmp scope cl own fr C s0 H0 ex) ifs tt)(he:∀ C s0 H0 ex,SE (X.cmp scope cl own fr C s0 H0 ex) elt te)
  (hs:∀ x,foldedSetIterable iter X.env x=pure x:=by intro _;rfl):SE X (.ListComp elt [⟨tg,iter,ifs,0⟩] scope pos) (tComp own js wi g tt te):=⟨pe_comp S hcalm hi.out (fun C s0 H0 ex=>(hg C s0 H0 ex).out) (fun C s0 H0 ex=>(ht C s0 H0 ex).out) (fun C s0 H0 ex=>(he C s0 H0 ex).out) hs⟩
end
section
variable {P:Program}{w:World}{K:PySem.W.Frag}{mg:Str->Option Value}{base:Heap}
theorem Fun.okS {x qual:Str}{st:Stmt}{f:Addr}{fd:FuncData}{N ps:List Str}{k:Nat}{sp:Sp}(F:Fun K x qual st f fd)(S:FnScope N ps (defScope st))(len:∀ vs H Q E,sp vs H Q E->vs.length=ps.length)
  (hbody:∀ (cdv:Value) (A:Around) (outer:List Env) (s:Shared) (H:Hp) (vs:List V) (Q:VK) (E:XK),Room k (A.deeper (envOfC qual (defScope st) s.heap.objs.size f cdv))->sp vs H Q E ->
   ∃ t,SB (cxOf CX0 P w K mg base N qual (defScope st) f cdv A outer s H E).nox (defBody st) t/\t { nx:=fun _ H'=>Q .non H',rt:=Q } (start N vs) H):FnOk P w K mg base CX0 (k+1) f fd ps sp :=
 F.ok S len fun cdv A outer s H vs Q E hr h=>let ⟨t,h1,h2⟩:=hbody cdv A outer s H vs Q E hr h;⟨t,h1.out,h2⟩
end
end L2
namespace L2
open PySem PySem.Spec PyProof.Rows
section
variable {X:Cx}{pins:List (Addr × Obj)}{σ:List (Option V)}{H H':Hp}{s:Shared}{h':Heap}
theorem Inv.stepN {g':Array GenState}{t':Nat}{d':Drawn}{ch:List Addr}(I:Inv X pins σ H s)
  (hch:∀ b∈ch,(b∈X.ex\/X.s₀.heap.get? b=none)/\b≠X.env.locals/\(∀ x c,X.env.cells.lookup x=some c->c≠b)/\∀ p∈X.pn++pins,p.1≠b)
  (keep:∀ b o,b≠X.env.locals->b∉X.fs->b∉ch->s.heap.get? b=some o->H b=none->h'.get? b=some o)
  (slot:∀ b o,b≠X.env.locals->b∈X.fs->b∉ch->s.heap.get? b=some o->H b=none->∃ sl,h'.get? b=some { o with slots:=sl }) (free:∀ b o,b∉ch->s.heap.get? b=some o->H b=none->H' b=none)
  (there:∀ b o,b∉ch->s.heap.get? b=some o->∃ o',h'.get? b=some o')
  (tups:∀ b xs,H b=some (.tup xs)->H' b=some (.tup xs)) (frzs:∀ b o u,H b=some (.frz o u)->H' b=some (.frz o u)) (tbls:∀ b ps,H b=some (.tbl ps)->∃ more,H' b=some (.tbl (ps++more)))
  (ns:∀ m,s.heap.Ns X.env.locals m->h'.Ns X.env.locals m) (hok:HOk X.prog X.w H' h') (hg:AllBare g') :
  Inv X pins σ H' { s with heap:=h',gens:=g',drawn:=d',toks:=t' }:=by
 have neL:∀ b o,X.s₀.heap.get? b=some o->b≠X.env.locals:=fun b o e=>Nat.ne_of_lt (Nat.lt_of_lt_of_le (Heap.lt_size e) I.ok.above)
 have neC:∀ b o,X.s₀.heap.get? b=some o->b∉X.ex->b∉ch:=fun b o e hx hb=>by
  rcases (hch b hb).1 with z | z
  ·exact hx z
  ·rw [e] at z;cases z
 have cellK:∀ x c,X.env.cells.lookup x=some c->∀ v,s.heap.IsCell c v->h'.IsCell c v:=fun x c e v ⟨o,ho,hd⟩=>by
  have nch:c∉ch:=fun z=>(hch c z).2.2.1 x c e rfl
  by_cases hc:c∈X.fs
  ·obtain ⟨sl,q⟩:=slot c o (I.cne x c e) hc nch ho (I.freeC x c e)
   exact ⟨_,q,hd⟩
  ·exact ⟨o,keep c o (I.cne x c e) hc nch ho (I.freeC x c e),hd⟩
 refine ⟨I.ok,I.os,hg,⟨fun b o e n hb hx=>?_,fun b o e n hb hx=>?_,fun b o e n hx=>?_,fun b o e hx=>?_,fun b xs e=>tups b xs (I.base.tups b xs e),fun b o xs e=>frzs b o xs (I.base.frzs b o xs e),fun b ps e=>?_⟩,?_,fun x c e=>?_,?_,fun x c e=>?_,fun p hp=>?_,hok,I.len⟩
 ·exact keep b o (neL b o e) hb (neC b o e hx) (I.base.keep b o e n hb hx) (I.base.free b o e n hx)
 ·obtain ⟨sl,e1⟩:=I.base.slot b o e n hb hx
  obtain ⟨sl',e2⟩:=slot b _ (neL b o e) hb (neC b o e hx) e1 (I.base.free b o e n hx)
  exact ⟨sl',e2⟩
 ·obtain ⟨o',e1⟩:=I.base.there b o e hx
  exact free b o' (neC b o e hx) e1 (I.base.free b o e n hx)
 ·obtain ⟨o',e1⟩:=I.base.there b o e hx
  exact there b o' (neC b o e hx) e1
 ·obtain ⟨m1,e1⟩:=I.base.tbls b ps e
  obtain ⟨m2,e2⟩:=tbls b _ e1
  exact ⟨m1++m2,by rw [e2,Array.append_assoc]⟩
 ·obtain ⟨m,hn,hl⟩:=I.loc
  refine ⟨m,ns m hn,fun i x v e1 e2 e3=>?_⟩
  obtain ⟨u,r,l⟩:=hl i x v e1 e2 e3
  refine ⟨u,r,?_⟩
  rcases l with l | ⟨k,c,e,z⟩
  ·exact .inl l
  ·exact .inr ⟨k,c,e,cellK x c e _ z⟩
 ·obtain ⟨v,z⟩:=I.cell x c e
  exact ⟨v,cellK x c e v z⟩
 ·obtain ⟨m,⟨o,_,_,ho,_⟩,_⟩:=I.loc
  exact free _ o (fun z=>(hch _ z).2.1 rfl) ho I.free
 ·obtain ⟨v,o,ho,hd⟩:=I.cell x c e
  exact free c o (fun z=>(hch c z).2.2.1 x c e rfl) ho (I.freeC x c e)
 ·obtain ⟨e,n,ne,nf,d⟩:=I.pin p hp
  have nch:p.1∉ch:=fun z=>(hch p.1 z).2.2.2 p hp rfl
  exact ⟨keep p.1 p.2 ne nf nch e n,free p.1 p.2 nch e n,ne,nf,d⟩
end
open Classical in
theorem Inv.noted {X:Cx}{σ:St}{H:Hp}{s:Shared}{h':Heap}{t':Nat}(hpn:X.pn=[])(I:Inv X [] σ H s)(nk:NK (frs X.stack) X.s₀.heap H s.heap h'):Inv X [] σ H { s with heap:=h',toks:=t' }:=by
 have mem:∀ b,b∈(List.range s.heap.objs.size).filter (fun b=>decide (NewRec X.s₀.heap H s.heap b))↔NewRec X.s₀.heap H s.heap b:=fun b=>by
  rw [List.mem_filter,List.mem_range,decide_eq_true_iff]
  exact ⟨fun z=>z.2,fun z=>⟨let ⟨_,_,o,_,e,_⟩:=z;Heap.lt_size e,z⟩⟩
 have sub:=I.stkSub
 have trk:∀ b u,H b=some u->∀ o,s.heap.get? b=some o->h'.get? b=some o:=fun b u e o q=>nk.keep b o q (fun z=>by rw [I.stkFree b z] at e;cases e) (fun z=>by rw [z.2.1] at e;cases e)
 refine I.stepN (g':=s.gens) (d':=s.drawn) (ch:=(List.range s.heap.objs.size).filter (fun b=>decide (NewRec X.s₀.heap H s.heap b))) (fun b hb=>?_) (fun b o hL hb hc e n=>?_) (fun b o hL hb hc e n=>?_) (fun _ _ _ _ n=>n) (fun b o _ e=>nk.there b o e) (fun _ _ e=>e) (fun _ _ _ e=>e) (fun b ps e=>⟨#[],by rw [e];simp⟩) (fun m hm=>?_) (fun b u e=>?_) I.bare
 ·obtain ⟨z1,z2,o,vs,e,d⟩:=(mem b).mp hb
  refine ⟨.inr z1,fun z=>?_,fun x c hx z=>?_,fun p hp=>by rw [hpn] at hp;cases hp⟩
  ·obtain ⟨m,⟨o',es,ep,e',d',_⟩,_⟩:=I.loc
   rw [<- z,e] at e'
   cases e'
   rw [d] at d'
   cases d'
  ·obtain ⟨v,o',e',d'⟩:=I.cell x c hx
   rw [z,e] at e'
   cases e'
   rw [d] at d'
   cases d'
 ·refine nk.keep b o e (fun z=>?_) fun z=>hc ((mem b).mpr z)
  rcases List.mem_cons.mp (sub b z) with z | z
  ·exact hL z
  ·exact hb z
 ·by_cases z:∃ vs,o.data=.fields vs
  ·obtain ⟨vs,d⟩:=z
   obtain ⟨_,o',e',nd⟩:=I.funs.mem hb
   rw [e] at e'
   cases e'
   exact absurd d (nd vs)
  ·exact nk.slot b o e fun vs d=>z ⟨vs,d⟩
 ·obtain ⟨o,es,ep,e,d,r⟩:=hm
  obtain ⟨sl,e'⟩:=nk.slot _ o e fun vs z=>by rw [d] at z;cases z
  exact ⟨_,es,ep,e',d,r⟩
 ·refine (I.hok b u e).stay (fun c v hc q=>?_) (fun _ q=>q) fun _ _ q=>q
  rcases hc with z | z
  ·subst z;exact trk c u e v q
  ·exact trk c _ z v q
structure Body (X:Cx):Prop where
 stk:X.stack=X.env::X.outer
 frm:X.env.frame=some X.env.locals
 pn:X.pn=[]
 ex:X.ex=[]
def InFly (X:Cx)(E:XK)(e:Value)(s':Shared):Prop:=∃ σ H' a cls z,e=.ref a/\Inv X [] σ H' s'/\Fl X.s₀.heap H' a cls s'.heap z/\E cls none H'
section
variable {X:Cx}{E:XK}
theorem fly_noted (B:Body X){σ:St}{H:Hp}{s:Shared}{a:Addr}{cls:Value}{z:Option Value}{Q:Unit->Shared->Prop}{E':Value->Shared->Prop}{M:Model}{A:Around}(hA:A.frames=some X.stack)(I:Inv X [] σ H s)(fl:Fl X.s₀.heap H a cls s.heap z)
  (h:∀ h',Inv X [] σ H { s with heap:=h',toks:=s.toks }->NK (frs X.stack) X.s₀.heap H s.heap h'->Fl X.s₀.heap H a cls h' (some (rawInt X.env.locals))->Q () { s with heap:=h' }):wpAny M A (noteFrame (.ref a) X.env) Q E' s:=by
 have fr:=I.stack
 rw [B.stk] at fr hA
 refine note_fl hA fr B.frm (fun b hb=>Heap.get?_none_of_le (Nat.le_trans I.sz hb)) (fun b hb=>I.hok.fresh hb) fl fun h' nk fl'=>?_
 rw [<- B.stk] at nk
 exact h h' (I.noted B.pn nk) nk fl'
theorem passesFly (B:Body X):PassesOwn (model X.prog X.w) X.A X.env (InFly X E):=by
 rintro e s' ⟨σ,H',a,cls,z,rfl,I,fl,q⟩
 refine fly_noted B I.ok.frames I fl fun h1 I1 nk1 fl1=>?_
 unfold cameBackBy
 obtain ⟨_,_,oe,vs,he,_,hd,_,T,oT,ts,hz1,_⟩:=id fl1
 refine wpAny_bind (wpAny_field (s:={ s' with heap:=h1 }) he hd hz1 ?_)
 rw [if_neg (by intro z;simp at z)]
 refine flight_fl (s:={ s' with heap:=h1 }) (env:=X.env) (outer:=X.outer) fl1 fun h2 nk2 fl2=>?_
 rw [<- B.stk] at nk2
 exact ⟨σ,H',a,cls,_,rfl,I1.noted (t':=s'.toks) B.pn nk2,fl2,q⟩
end
def CX1 (P:Program)(w:World):CXT:=fun outer H s E e s'=>∃ H' a cls z,e=.ref a/\s'.os=s.os/\AllBare s'.gens/\Un (frs outer) [] H H' s.heap s'.heap/\HOk P w H' s'.heap/\Fl s.heap H' a cls s'.heap z/\E cls none H'
theorem Fl.mono {n0 n1:Heap}{H:Hp}{a:Addr}{cls:Value}{h:Heap}{z:Option Value}(hn:∀ b,n0.get? b=none->n1.get? b=none)(x:Fl n0 H a cls h z):Fl n1 H a cls h z:=by
 obtain ⟨h1,h2,oe,vs,e1,e2,e3,e4,h3⟩:=x
 refine ⟨hn _ h1,h2,oe,vs,e1,e2,e3,e4,?_⟩
 cases z with
 | none=>exact h3
 | some z =>
  obtain ⟨T,oT,ts,g1,g2,g3⟩:=h3
  exact ⟨T,oT,ts,g1,hn _ g2,g3⟩
theorem passX {X:Cx}{E:XK}{E':Value->Shared->Prop}(B:Body X)(h:∀ e s',InFly X E e s'->E' e s'):Passes (CX1 X.prog X.w) (X.wish E') E:=by
 intro pins σ H s e s' I q
 obtain ⟨H',a,cls,z,rfl,os,bare,un,hok,fl,q⟩:=q
 have I0:Inv X pins σ H s:=I.unwish
 refine h _ _ ⟨σ,H',a,cls,z,rfl,?_,fl.mono (fun b z=>?_),q⟩
 rotate_left
 ·cases e:X.s₀.heap.get? b with
  | none=>rfl
  | some o =>
   obtain ⟨o',e'⟩:=I0.base.there b o e (by rw [B.ex];simp)
   rw [z] at e'
   cases e'
 obtain ⟨hh,g,d,t,os'⟩:=s'
 obtain rfl:os'=s.os:=os
 have I1:Inv X pins σ H' { s with heap:=hh,gens:=g,drawn:=d,toks:=t }:=I0.call (ch:=[]) un hok bare (fun b z=>absurd z (by simp))
 exact I1.pins_of fun p hp=>absurd hp (by simp)
theorem cx_body {CX:CXT}{P:Program}{w:World}{K:PySem.W.Frag}{mg:Str->Option Value}{base:Heap}{N:List Str}{qual:Str}{scope:Scope}{f:Addr}{cd:Value}{A:Around}{outer:List Env}{s:Shared}{H:Hp}{E:XK}:Body (cxOf CX P w K mg base N qual scope f cd A outer s H E):=⟨rfl,rfl,rfl,rfl⟩
theorem fly_leaves {P:Program}{w:World}{K:PySem.W.Frag}{mg:Str->Option Value}{base:Heap}{N:List Str}{qual:Str}{scope:Scope}{f:Addr}{cd:Value}{A:Around}{outer:List Env}{s:Shared}{H:Hp}{E:XK}{e:Value}{s':Shared}
  (h:InFly (cxOf (CX1 P w) P w K mg base N qual scope f cd A outer s H E) E e s'):(cxOf (CX1 P w) P w K mg base N qual scope f cd A outer s H E).xe e s':=by
 obtain ⟨σ,H',a,cls,z,rfl,I,fl,q⟩:=h
 show wpAny _ _ (leaving _ (.ref a)) _ _ s'
 unfold leaving
 refine wpAny_bind (fly_noted (X:=cxOf (CX1 P w) P w K mg base N qual scope f cd A outer s H E) cx_body I.ok.frames I fl fun h1 I1 nk1 fl1=>?_)
 refine flight_fl (s:={ s' with heap:=h1 }) (env:=envOfC qual scope s.heap.objs.size f cd) (outer:=outer) fl1 fun h2 nk2 fl2=>?_
 have I2:=I1.noted (t':=s'.toks) rfl nk2
 exact ⟨H',a,cls,_,rfl,I2.os,I2.bare,I2.base,I2.hok,fl2,q⟩
section
variable {P:Program}{w:World}{K:PySem.W.Frag}{mg:Str->Option Value}{base:Heap}
abbrev flyX (P:Program)(w:World)(K:PySem.W.Frag)(mg:Str->Option Value)(base:Heap)(N:List Str)(qual:Str)(scope:Scope)(f:Addr)(cd:Value)(A:Around)(outer:List Env)(s:Shared)(H:Hp)(E:XK):Cx :=
 (cxOf (CX1 P w) P w K mg base N qual scope f cd A outer s H E).wish (InFly (cxOf (CX1 P w) P w K mg base N qual scope f cd A outer s H E) E)
theorem Fun.okX {x qual:Str}{st:Stmt}{f:Addr}{fd:FuncData}{N ps:List Str}{k:Nat}{sp:Sp}(F:Fun K x qual st f fd)(S:FnScope N ps (defScope st))(len:∀ vs H Q E,sp vs H Q E->vs.length=ps.length)
  (hbody:∀ (cdv:Value) (A:Around) (outer:List Env) (s:Shared) (H:Hp) (vs:List V) (Q:VK) (E:XK),Room k (A.deeper (envOfC qual (defScope st) s.heap.objs.size f cdv))->sp vs H Q E ->
   ∃ t,SB (flyX P w K mg base N qual (defScope st) f cdv A outer s H E) (defBody st) t/\t { nx:=fun _ H'=>Q .non H',rt:=Q } (start N vs) H):FnOk P w K mg base (CX1 P w) (k+1) f fd ps sp:=by
 obtain ⟨oc,od,kV,doc,pm,an,cdv,ct,osl,rfl,lk,hcd⟩:=F.ex
 refine fn_of lk hcd S len fun A outer s H vs Q E hr hsp=>?_
 obtain ⟨t,h,q⟩:=hbody cdv A outer s H vs Q E hr hsp
 refine ⟨t,fun pins s1 σ H1 D I hw=>?_,q⟩
 exact wpAny_mono (h.out pins s1 σ H1 D (I.wish _) hw) (fun _ _ q=>q.unwish) fun e s' z=>fly_leaves z
end
section
variable {X:Cx}{k:Nat}{f C:Addr}{fd:FuncData}{ps:List Str}{sp:Sp}{x m:Str}{E:XK}{e o:Expr}{es:List Expr}{t:TA}{ta:TE}{p pos apos:Pos}
theorem e_methX {pl:Sem Bool}(he:SE X o ta)(c:Cls X.K C)(hm:Meth X.K C m f)(F:FnOk X.prog X.w X.K X.mg X.base (CX1 X.prog X.w) k f fd ps sp)(hx:Passes (CX1 X.prog X.w) X E)(hr:Room k X.A)(hb:Binds X.K fd ps [])(ha:SA X (e::es) t)
  (hst:starEach (e::es) X.env=(false,eval e X.env)::starEach es X.env:=by first | exact st_con | exact st_name | exact st_call | exact st_bin | exact st_tup | exact st_sub | exact st_lc | rfl) (hpl:(backTo pos (starEach es X.env)).any (·.1)=false:=by rfl)
  (ht:eval (.Call (.Attribute o m apos) (e::es) [] pos) X.env=(do
   let ov <- eval o X.env
   standAt apos.atName
   let (f,first) <- holding [ov] (getMethod ov m pl)
   callWith pos f first (backTo pos (starEach (e::es) X.env)) (backToKw pos (keywordEach [] X.env))):=by rfl) :
  SE X (.Call (.Attribute o m apos) (e::es) [] pos) (tMeth C m sp [] E ta t):=⟨pe_meth he.out c hm F hr hb .nil hx ha.out hst hpl ht⟩
theorem e_meth {pl:Sem Bool}(he:SE X o ta)(c:Cls X.K C)(hm:Meth X.K C m f)(F:FnOk X.prog X.w X.K X.mg X.base CX0 k f fd ps sp)(hr:Room k X.A)(hb:Binds X.K fd ps [])(ha:SA X (e::es) t)
  (hst:starEach (e::es) X.env=(false,eval e X.env)::starEach es X.env:=by first | exact st_con | exact st_name | exact st_call | exact st_bin | exact st_tup | exact st_sub | exact st_lc | rfl) (hpl:(backTo pos (starEach es X.env)).any (·.1)=false:=by rfl)
  (ht:eval (.Call (.Attribute o m apos) (e::es) [] pos) X.env=(do
   let ov <- eval o X.env
   standAt apos.atName
   let (f,first) <- holding [ov] (getMethod ov m pl)
   callWith pos f first (backTo pos (starEach (e::es) X.env)) (backToKw pos (keywordEach [] X.env))):=by rfl) :
  SE X (.Call (.Attribute o m apos) (e::es) [] pos) (tMeth C m sp [] E0 ta t):=⟨pe_meth he.out c hm F hr hb .nil pass0 ha.out hst hpl ht⟩
end
end L2
namespace L2
open PySem PySem.Spec PyProof.Rows
open PySem.W (excIn tailIn nsOkIn isNs_of_in nsMap_none_of_in tail_of_in)
theorem exc_of_in {K:PySem.W.Frag}{h:Heap}{C:Addr}{bmB:List Value}{newId:String}(X:K.In h)(q:excIn K C bmB newId=true):
  ∃ (nm qn:Str) (N:Addr) (bs bm:List Value) (hdct:Bool) (sn:List Str) (sub:List Value) (ab:Bool) (col:Option Bool) (dd:Option Addr) (k0 k1 k2 k3 k5:Option Value) (mN:Str->Option Value),
   h.get? C=some (excClassObj nm qn C N bs bm hdct sn sub ab col dd k0 k1 k2 k3 k5 newId)/\h.Ns N mN/\mN "__init__"=none/\OwnTail h bmB bm:=by
 unfold excIn at q
 split at q
 ·rename_i dd cd sl ho
  split at q
  ·rename_i C' bm k0 k1 k2 k3 n k5 hm hs
   simp only [Bool.and_eq_true,beq_iff_eq,Bool.not_eq_true'] at q
   obtain ⟨⟨⟨⟨⟨rfl,rfl⟩,hdel⟩,ht⟩,hok⟩,hni⟩:=q
   obtain ⟨nm,bs,mro,ns,qn,hd,sn,sub,ab,col,del⟩:=cd
   dsimp only at hm hdel hok hni
   subst hm hdel
   have hsl:sl=#[k0,k1,k2,k3,some (.builtin n),k5]:=by
    obtain ⟨l⟩:=sl
    simp only at hs
    rw [hs]
   subst hsl
   exact ⟨nm,qn,ns,bs,bm,hd,sn,sub,ab,col,dd,k0,k1,k2,k3,k5,_,X _ _ ho,.of_isNs (isNs_of_in X hok),nsMap_none_of_in X hok hni,tail_of_in X ht⟩
  ·cases q
 ·cases q
theorem objOk_there {P:Program}{w:World}{H:Hp}{h:Heap}{a:Addr}{o:HO}(x:ObjOk P w H h a o):∃ ob,h.get? a=some ob:=by
 cases o with
 | lst xs=>obtain ⟨_,_,_,_,e⟩:=x;exact ⟨_,e⟩
 | tup xs=>obtain ⟨_,_,_,o,e,_⟩:=x;exact ⟨o,e⟩
 | dK kvs=>obtain ⟨_,_,_,_,o,_,_,e,_⟩:=x;exact ⟨o,e⟩
 | dT kvs=>obtain ⟨_,_,_,_,o,_,_,e,_⟩:=x;exact ⟨o,e⟩
 | set S n=>obtain ⟨o,_,_,_,e,_⟩:=x;exact ⟨o,e⟩
 | ins C dx fs=>obtain ⟨_,_,_,e,_⟩:=x;exact ⟨_,e⟩
 | own y=>obtain ⟨o,e⟩:=x;exact ⟨o,e⟩
 | xd fs=>obtain ⟨_,⟨o,_,_,e,_⟩,_⟩:=x;exact ⟨o,e⟩
 | rng lo hi=>obtain ⟨_,_,_,e⟩:=x;exact ⟨_,e⟩
 | frz ob u=>obtain ⟨e,_⟩:=x;exact ⟨_,e⟩
 | tbl ps=>exact ⟨_,(show h.get? a=some _ from x)⟩
 | met f y=>exact ⟨_,(show h.get? a=some _ from x)⟩
 | ext φ=>obtain ⟨_,⟨o,e⟩,_⟩:=x;exact ⟨o,e⟩
def tRaise (C:Addr)(E:XK)(t:TA):TS:=fun _ σ H=>t σ H fun vs H1=>vs.length<=1000/\E (.ref C) none H1
section
variable {X:Cx}{E:XK}{E':Value->Shared->Prop}
theorem ps_raise {C:Addr}{bmB:List Value}{newId initId Bn:String}{x:Str}{np cpos pos:Pos}{e:Expr}{es:List Expr}{t:TA}(B:Body X)(hE:∀ e s',InFly X E e s'->E' e s')(hg:Gl X x)(hm:X.mg x=some (.ref C))(hq:excIn X.K C bmB newId=true)(F:ExcBaseFacts Bn newId initId bmB)(hc:X.calm=true)
  (ha:PA (X.wish E') (e::es) t) (hdb:(x==("__debug__":Str))=false:=by decide) (he:starEach (e::es) X.env=(false,eval e X.env)::starEach es X.env:=by rfl) (hpl:(backTo cpos (starEach (e::es) X.env)).any (·.1)=false:=by rfl) :
  PS (X.wish E') (.Raise (some (.Call (.Name x np) (e::es) [] cpos)) none pos) (tRaise C E t):=by
 intro pins s σ H D I h
 obtain ⟨nm,qn,N,bs,bm,hdct,sn,sub,ab,col,dd,k0,k1,k2,k3,k5,mN,hC,hN,hni,hT⟩:=exc_of_in I.ok.mod.kin hq
 refine wpAny_Raise_call_subT (C:=C) (nm:=nm) (q:=qn) (N:=N) (bs:=bs) (bm:=bm) (hdct:=hdct) (sn:=sn) (sub:=sub) (ab:=ab) (col:=col) (dd:=dd) (k0:=k0) (k1:=k1) (k2:=k2) (k3:=k3) (k5:=k5) F (mN:=mN) (hT.hasType F.hasBase) (I.ok.hd hc) hpl hni
  (ld_glob I hg hm ⟨rfl,?_⟩ hdb)
 have h0:=ha cpos pins s σ H _ I h
 have e0:backTo cpos (starEach (e::es) X.env)=(false,eval e X.env)::backTo cpos (starEach es X.env):=by rw [he];rfl
 rw [show (X.wish E').env=X.env from rfl,e0] at h0
 rw [show (X.wish E').env=X.env from rfl,e0]
 refine Calls.evalArgs_plain (thn h0 fun us s1 q1=>?_)
 obtain ⟨vs,H1,I1,r1,hlen,q⟩:=q1
 have hl:=r1.length
 have hb:=sizeLine_eq
 have kIn:∀ b o,X.base.get? b=some o->s1.heap.get? b=some o:=I1.bk
 refine ⟨rfl,by show us.length<=sizeLine;omega,kIn _ _ hC,hN.keeps kIn,hT.keeps kIn,fun h' a hx=>hE _ _ ?_⟩
 obtain ⟨t0,hx1,hx2,hx3⟩:=hx.there
 have I2:Inv (X.wish E') pins σ H1 { s1 with heap:=h',toks:=s1.toks }:=I1.kept hx.keeps
 have I3:Inv X [] σ H1 { s1 with heap:=h',toks:=s1.toks }:=I2.unwish.pins_of fun p hp=>absurd hp (by simp)
 have un:H1 a=none:=by
  cases z:H1 a with
  | none=>rfl
  | some u =>
   obtain ⟨ob,eo⟩:∃ ob,s1.heap.get? a=some ob:=by
    have lt:=(I1.hok a u z)
    exact objOk_there lt
   rw [hx.new] at eo
   cases eo
 refine ⟨σ,H1,a,.ref C,none,rfl,I3,⟨?_,un,_,_,hx1,rfl,rfl,by simp,rfl⟩,q⟩
 cases e0:X.s₀.heap.get? a with
 | none=>rfl
 | some o =>
  obtain ⟨o',e1⟩:=I1.unwish.base.there a o e0 (by rw [B.ex];simp)
  rw [hx.new] at e1
  cases e1
end
end L2
namespace L2
open PySem PySem.Spec PyProof.Rows
open PySem.W (excIn)
structure RefH (X:Cx)(pins:List (Addr × Obj))(h0:Heap):Prop where
 pin:∀ p∈X.pn++pins,∃ o,h0.get? p.1=some o
 ent:∀ b,h0.get? b=none->X.s₀.heap.get? b=none
theorem Inv.refH {X:Cx}{pins:List (Addr × Obj)}{σ:St}{H:Hp}{s:Shared}(hx:X.ex=[])(I:Inv X pins σ H s):RefH X pins s.heap:=⟨fun p hp=>⟨_,(I.pin p hp).1⟩,fun b z=>by
 cases e:X.s₀.heap.get? b with
 | none=>rfl
 | some o =>
  obtain ⟨o',e'⟩:=I.base.there b o e (by rw [hx];simp)
  rw [z] at e'
  cases e'⟩
def XP (X:Cx)(pins:List (Addr × Obj))(σ:St)(E:XK)(ex:Value)(s':Shared):Prop:=∃ h0 H' a cls z,ex=.ref a/\Inv X pins σ H' s'/\RefH X pins h0/\Fl h0 H' a cls s'.heap z/\(∀ b o,h0.get? b=some o->∃ o',s'.heap.get? b=some o')/\E cls none H'
def PEx (X:Cx)(e:Expr)(t:XK->TE):Prop :=
 ∀ (E:XK) (pins:List (Addr × Obj)) (s:Shared) (σ:St) (H:Hp) (Q:VK),Inv X pins σ H s->t E σ H Q->wpAny (model X.prog X.w) X.A (eval e X.env) (EP X pins σ Q) (XP X pins σ E) s
structure SEx (X:Cx)(e:Expr)(t:XK->TE):Prop where out:PEx X e t
section
variable {X:Cx}{k:Nat}{f:Addr}{fd:FuncData}{ps:List Str}{sp:Sp}{x:Str}{e:Expr}{es:List Expr}{t:TA}{p pos:Pos}
theorem pex_call (hex:X.ex=[])(F:FnOk X.prog X.w X.K X.mg X.base (CX1 X.prog X.w) k f fd ps sp)(hr:Room k X.A)(hg:Gl X x)(hm:X.mg x=some (.ref f))(hk:PySem.W.keepIn X.K (.ref f)=true)(hb:Binds X.K fd ps [])
  (ha:PA X.nox (e::es) t) (hdb:(x==("__debug__":Str))=false:=by decide) (he:starEach (e::es) X.env=(false,eval e X.env)::starEach es X.env:=by rfl) (hpl:(backTo pos (starEach es X.env)).any (·.1)=false:=by rfl) :
  PEx X (.Call (.Name x p) (e::es) [] pos) (fun E=>tCall sp [] E t):=by
 intro E pins s σ H Q I h
 refine wpAny_Call_Name_kw (ld_glob I hg hm ?_ hdb)
 have h0:=ha pos pins s σ H _ (I.wish _) h
 refine PySem.W.callWith_K (h₀:=X.base) I.ok.mod.kin hk (wpAny_mono h0 (fun us s1 q1=>?_) fun _ _ z=>z.elim) he hpl
 obtain ⟨vs,H1,I1,r1,q⟩:=q1
 have I1:=I1.unwish
 refine ⟨I1.kIn,?_⟩
 have hl:us.length=ps.length:=by rw [<- r1.length];have:=F.len _ _ _ _ q;simpa using this
 have hz:us++[]=us:=List.append_nil us
 have hbind:=hb s1 us I1.kIn (by rw [hz];exact hl)
 rw [hz] at hbind
 rw [show vs++[]=vs from List.append_nil vs] at q
 show wpAny _ _ (call (.ref f) ([]++us)) _ _ _
 refine wpAny_call (codeAny_mono (F.run X.A X.stack s1 H1 ⟨us,[]⟩ us vs Q E hr I1.env0 hbind r1 q) fun r s' hq=>?_)
 cases r with
 | ok fl =>
  cases fl with
  | ret u=>exact I1.after hq
  | next=>exact False.elim hq
  | brk=>exact False.elim hq
  | cont=>exact False.elim hq
 | error ex =>
  obtain ⟨H',a,cls,z,rfl,os,bare,un,hok,fl,qq⟩:=hq
  obtain ⟨hh,g,d,t',os'⟩:=s'
  obtain rfl:os'=s1.os:=os
  exact ⟨s1.heap,H',a,cls,z,rfl,I1.call (ch:=[]) un hok bare (fun b z=>absurd z (by simp)),I1.refH hex,fl,fun b o e=>un.there b o e (by simp),qq⟩
theorem ex_call (hex:X.ex=[])(F:FnOk X.prog X.w X.K X.mg X.base (CX1 X.prog X.w) k f fd ps sp)(hr:Room k X.A)(hg:Gl X x)(hm:X.mg x=some (.ref f))(hk:PySem.W.keepIn X.K (.ref f)=true)(hb:Binds X.K fd ps [])
  (ha:SA X.nox (e::es) t) (hdb:(x==("__debug__":Str))=false:=by decide) (he:starEach (e::es) X.env=(false,eval e X.env)::starEach es X.env:=by first | exact st_con | exact st_name | exact st_call | exact st_bin | exact st_tup | exact st_sub | exact st_lc | rfl) (hpl:(backTo pos (starEach es X.env)).any (·.1)=false:=by rfl) :
  SEx X (.Call (.Name x p) (e::es) [] pos) (fun E=>tCall sp [] E t):=⟨pex_call hex F hr hg hm hk hb ha.out hdb he hpl⟩
end
open Classical in
theorem Inv.notedP {X:Cx}{pins:List (Addr × Obj)}{σ:St}{H:Hp}{s:Shared}{h0 h':Heap}{t':Nat}(R:RefH X pins h0)(I:Inv X pins σ H s)(nk:NK (frs X.stack) h0 H s.heap h'):Inv X pins σ H { s with heap:=h',toks:=t' }:=by
 have mem:∀ b,b∈(List.range s.heap.objs.size).filter (fun b=>decide (NewRec h0 H s.heap b))↔NewRec h0 H s.heap b:=fun b=>by
  rw [List.mem_filter,List.mem_range,decide_eq_true_iff]
  exact ⟨fun z=>z.2,fun z=>⟨let ⟨_,_,o,_,e,_⟩:=z;Heap.lt_size e,z⟩⟩
 have sub:=I.stkSub
 have trk:∀ b u,H b=some u->∀ o,s.heap.get? b=some o->h'.get? b=some o:=fun b u e o q=>nk.keep b o q (fun z=>by rw [I.stkFree b z] at e;cases e) (fun z=>by rw [z.2.1] at e;cases e)
 refine I.stepN (g':=s.gens) (d':=s.drawn) (ch:=(List.range s.heap.objs.size).filter (fun b=>decide (NewRec h0 H s.heap b))) (fun b hb=>?_) (fun b o hL hb hc e n=>?_) (fun b o hL hb hc e n=>?_) (fun _ _ _ _ n=>n) (fun b o _ e=>nk.there b o e) (fun _ _ e=>e) (fun _ _ _ e=>e) (fun b ps e=>⟨#[],by rw [e];simp⟩) (fun m hm=>?_) (fun b u e=>?_) I.bare
 ·obtain ⟨z1,z2,o,vs,e,d⟩:=(mem b).mp hb
  refine ⟨.inr (R.ent b z1),fun z=>?_,fun x c hx z=>?_,fun p hp z=>?_⟩
  ·obtain ⟨m,⟨o',es,ep,e',d',_⟩,_⟩:=I.loc
   rw [<- z,e] at e'
   cases e'
   rw [d] at d'
   cases d'
  ·obtain ⟨v,o',e',d'⟩:=I.cell x c hx
   rw [z,e] at e'
   cases e'
   rw [d] at d'
   cases d'
  ·obtain ⟨o',e'⟩:=R.pin p hp
   rw [z,z1] at e'
   cases e'
 ·refine nk.keep b o e (fun z=>?_) fun z=>hc ((mem b).mpr z)
  rcases List.mem_cons.mp (sub b z) with z | z
  ·exact hL z
  ·exact hb z
 ·by_cases z:∃ vs,o.data=.fields vs
  ·obtain ⟨vs,d⟩:=z
   obtain ⟨_,o',e',nd⟩:=I.funs.mem hb
   rw [e] at e'
   cases e'
   exact absurd d (nd vs)
  ·exact nk.slot b o e fun vs d=>z ⟨vs,d⟩
 ·obtain ⟨o,es,ep,e,d,r⟩:=hm
  obtain ⟨sl,e'⟩:=nk.slot _ o e fun vs z=>by rw [d] at z;cases z
  exact ⟨_,es,ep,e',d,r⟩
 ·refine (I.hok b u e).stay (fun c v hc q=>?_) (fun _ q=>q) fun _ _ q=>q
  rcases hc with z | z
  ·subst z;exact trk c u e v q
  ·exact trk c _ z v q
def ClsO (a:Addr)(cls:Value):HO:=.ext fun h=>∃ o,h.get? a=some o/\o.cls=cls
theorem ClsO.ok {P:Program}{w:World}{H:Hp}{h:Heap}{a:Addr}{cls:Value}{o:Obj}(e:h.get? a=some o)(hc:o.cls=cls):ObjOk P w H h a (ClsO a cls):=⟨⟨o,e,hc⟩,⟨o,e⟩,fun h1 h2 ⟨o',e',c'⟩ k=>⟨o',k o' e',c'⟩⟩
theorem ClsO.get {P:Program}{w:World}{H:Hp}{h:Heap}{a:Addr}{cls:Value}(x:HOk P w H h)(e:H a=some (ClsO a cls)):∃ o,h.get? a=some o/\o.cls=cls:=(x a _ e).1
theorem Inv.track {X:Cx}{pins:List (Addr × Obj)}{σ:St}{H:Hp}{s:Shared}{a:Addr}{o:HO}(I:Inv X pins σ H s)(hn:H a=none)(h0:X.s₀.heap.get? a=none)(hL:a≠X.env.locals)(hc:∀ x c,X.env.cells.lookup x=some c->c≠a)(hp:∀ p∈X.pn++pins,p.1≠a)
  (new:ObjOk X.prog X.w (upd H a o) s.heap a o):Inv X pins σ (upd H a o) s:=by
 refine ⟨I.ok,I.os,I.bare,?_,I.loc,I.cell,by rw [upd_ne (Ne.symm hL)];exact I.free,fun x c e=>by rw [upd_ne (hc x c e)];exact I.freeC x c e,fun p q=>?_,I.hok.track hn new,I.len⟩
 ·have u:=I.base
  exact ⟨u.keep,u.slot,fun b ob q n hx=>by
   have hb:b≠a:=fun z=>by rw [z,h0] at q;cases q
   rw [upd_ne hb]
   exact u.free b ob q n hx,u.there,fun b xs q=>by
   have z:=u.tups b xs q
   rw [upd_ne (ne_of_none z hn)];exact z,fun b ob xs q=>by
   have z:=u.frzs b ob xs q
   rw [upd_ne (ne_of_none z hn)];exact z,fun b ps q=>by
   obtain ⟨more,z⟩:=u.tbls b ps q
   exact ⟨more,by rw [upd_ne (ne_of_none z hn)];exact z⟩⟩
 ·obtain ⟨e,n,r⟩:=I.pin p q
  exact ⟨e,by rw [upd_ne (hp p q)];exact n,r⟩
theorem unbind_ok {X:Cx}{pins:List (Addr × Obj)}{σ:St}{H:Hp}{s:Shared}{M:Model}{A:Around}{E:Value->Shared->Prop}{i:Nat}{x:Str}{v:V}{Q:Unit->Shared->Prop}(I:Inv X pins σ H s)(hN:X.N.Nodup)(hi:X.N[i]?=some x)(hk:X.env.scope.names.lookup x=some .local)(hσ:σ[i]?=some (some v))
  (h:∀ s',Inv X pins (σ.set i none) H s'->Q () s'):wpAny M A (unbindName X.env x) Q E s:=by
 obtain ⟨m,hn,hl⟩:=id I.loc
 have hcls:(X.env.scope.kind==.class || (X.env.scope.kind==.module && X.env.locals != X.env.globals))=false:=by rw [I.ok.kind];rfl
 have hiσ:i < σ.length:=by rw [I.len];exact (List.getElem?_eq_some_iff.mp hi).1
 obtain ⟨u0,_,lk⟩:=hl i x v hi hσ (.inl hk)
 have hv:m x=some u0:=by
  rcases lk with ⟨_,z⟩ | ⟨z,_⟩
  ·exact z
  ·have z':X.env.scope.names.lookup x=some .cell\/X.env.scope.names.lookup x=some .free:=z
   rw [hk] at z'
   rcases z' with z' | z' <;> cases z'
 refine wpAny_unbindName_local hk hn hv hcls fun h' u hn' hs=>?_
 obtain ⟨oL,_,_,hoL,_⟩:=id hn
 have tracked:HOk X.prog X.w H h':=fun b ob e=>by
  refine (I.hok b ob e).stay (fun c w' hc q=>(hs.2 c ?_).trans q) (fun _ q=>q) fun _ _ q=>q
  rintro rfl
  rcases hc with rfl | hc
  ·rw [I.free] at e;cases e
  ·rw [I.free] at hc;cases hc
 refine h _ ⟨I.ok,I.os,I.bare,⟨fun b o e n hb hx=>?_,fun b o e n hb hx=>?_,I.base.free,fun b o e hx=>?_,I.base.tups,I.base.frzs,I.base.tbls⟩,⟨_,hn',fun j y v' e1 e2 e3=>?_⟩,fun y c e=>?_,I.free,I.freeC,fun p hp=>?_,tracked,by simpa using I.len⟩
 ·exact (hs.2 b (Nat.ne_of_lt (Nat.lt_of_lt_of_le (Heap.lt_size e) I.ok.above))).trans (I.base.keep b o e n hb hx)
 ·obtain ⟨sl,e1⟩:=I.base.slot b o e n hb hx
  exact ⟨sl,(hs.2 b (Nat.ne_of_lt (Nat.lt_of_lt_of_le (Heap.lt_size e) I.ok.above))).trans e1⟩
 ·obtain ⟨o',e1⟩:=I.base.there b o e hx
  exact ⟨o',(hs.2 b (Nat.ne_of_lt (Nat.lt_of_lt_of_le (Heap.lt_size e) I.ok.above))).trans e1⟩
 ·by_cases hj:j=i
  ·subst hj
   rw [List.getElem?_set_self hiσ] at e2
   cases e2
  ·rw [List.getElem?_set_ne (Ne.symm hj)] at e2
   obtain ⟨u',r',q⟩:=hl j y v' e1 e2 e3
   refine ⟨u',r',?_⟩
   rcases q with ⟨k,e⟩ | ⟨k,c,e,z⟩
   ·refine .inl ⟨k,?_⟩
    have:y≠x:=fun e=>hj (nodup_ix hN e1 (e▸hi))
    simp [this,e]
   ·exact .inr ⟨k,c,e,z.sameBut hs (I.cne y c e)⟩
 ·obtain ⟨w',z⟩:=I.cell y c e
  exact ⟨w',z.sameBut hs (I.cne y c e)⟩
 ·obtain ⟨e,n,ne,nf,d⟩:=I.pin p hp
  exact ⟨(hs.2 p.1 ne).trans e,n,ne,nf,d⟩
end L2
namespace PySem
section
variable {M:Model}{A:Around}{E:Value->Shared->Prop}{nm q:Str}{C N:Addr}{bs bm:List Value}{hdct:Bool}{sn:List Str}{sub:List Value}{ab:Bool}{col:Option Bool}{dd:Option Addr}{k0 k1 k2 k3 k5:Option Value}{newId:String}
 {nm2 q2:Str} {C2 N2:Addr} {bs2 bm2:List Value} {hdct2:Bool} {sn2:List Str} {sub2:List Value} {ab2:Bool} {col2:Option Bool} {dd2:Option Addr} {j0 j1 j2 j3 j5:Option Value} {newId2:String}
theorem excMatches_own {h:Heap}{g:Array GenState}{d:Drawn}{t:Nat}{os:OsState}{e:Addr}{oe:Obj}{Q:Bool->Shared->Prop}
  (hC:h.get? C=some (excClassObj nm q C N bs bm hdct sn sub ab col dd k0 k1 k2 k3 k5 newId)) (hbase:bm.contains (.type "BaseException")=true)
  (hC2:h.get? C2=some (excClassObj nm2 q2 C2 N2 bs2 bm2 hdct2 sn2 sub2 ab2 col2 dd2 j0 j1 j2 j3 j5 newId2)) (he:h.get? e=some oe) (hcls:oe.cls=.ref C2) (hin:(Value.ref C2::bm2).contains (.ref C)=true)
  (hq:Q true ⟨h,g,d,t,os⟩):wpAny M A (excMatches (.ref e) (.ref C)) Q E ⟨h,g,d,t,os⟩:=by
 have hcB:(Value.ref C::bm).contains (.type "BaseException")=true:=by rw [List.contains_cons,hbase,Bool.or_true]
 have f:=tc_notTuple
 unfold excMatches
 repeat (first | (with_reducible refine wpAny_loadPart_at he ?_;rw [hcls]) | with_reducible refine wpAny_loadPart_at hC ?_ | (with_reducible refine wpAny_isSubtype_exc hC ?_;first | rw [hcB]) | (with_reducible refine wpAny_isSubtype_exc hC2 ?_;first | rw [hin]) | wp_step)
 exact hq
end
end PySem
namespace L2
open PySem PySem.Spec PyProof.Rows
open PySem.W (excIn tailIn nsOkIn isNs_of_in nsMap_none_of_in tail_of_in)
def mroL (K:PySem.W.Frag)(C:Addr):List Value:=match K.lookup C with
 | some ⟨_,_,.cls cd,_⟩=>cd.mro
 | _=>[]
theorem exc_of_in' {K:PySem.W.Frag}{h:Heap}{C:Addr}{bmB:List Value}{newId:String}(X:K.In h)(q:excIn K C bmB newId=true):
  ∃ (nm qn:Str) (N:Addr) (bs bm:List Value) (hdct:Bool) (sn:List Str) (sub:List Value) (ab:Bool) (col:Option Bool) (dd:Option Addr) (k0 k1 k2 k3 k5:Option Value),
   h.get? C=some (excClassObj nm qn C N bs bm hdct sn sub ab col dd k0 k1 k2 k3 k5 newId)/\OwnTail h bmB bm/\mroL K C=Value.ref C::bm:=by
 unfold excIn at q
 split at q
 ·rename_i dd cd sl ho
  split at q
  ·rename_i C' bm k0 k1 k2 k3 n k5 hm hs
   simp only [Bool.and_eq_true,beq_iff_eq,Bool.not_eq_true'] at q
   obtain ⟨⟨⟨⟨⟨rfl,rfl⟩,hdel⟩,ht⟩,hok⟩,hni⟩:=q
   obtain ⟨nm,bs,mro,ns,qn,hd,sn,sub,ab,col,del⟩:=cd
   dsimp only at hm hdel hok hni
   subst hm hdel
   have hsl:sl=#[k0,k1,k2,k3,some (.builtin n),k5]:=by
    obtain ⟨l⟩:=sl
    simp only at hs
    rw [hs]
   subst hsl
   exact ⟨nm,qn,ns,bs,bm,hd,sn,sub,ab,col,dd,k0,k1,k2,k3,k5,X _ _ ho,tail_of_in X ht,by unfold mroL;rw [ho]⟩
  ·cases q
 ·cases q
abbrev Cx.inExc (X:Cx)(a:Addr):Cx:={ X with A:=X.A.mark (some (.ref a)),calm:=false,xe:=fun _ _=>False }
section
variable {X:Cx}{pins:List (Addr × Obj)}{σ:St}{H:Hp}{s:Shared}{a:Addr}
theorem Inv.inExc (I:Inv X pins σ H s)(a:Addr):Inv (X.inExc a) pins σ H s:=by
 obtain ⟨ok,r1,r2,r3,r4,r5,r6,r7,r8,r9,r10⟩:=I
 exact ⟨⟨ok.mod,ok.kind,ok.glob,ok.blt,ok.above,ok.inj,ok.has,ok.cab,(fun z=>by cases z),ok.frames,ok.stk,ok.exf,ok.bs,ok.bsz,ok.noex,ok.exfs,ok.funs,ok.frf⟩,r1,r2,r3,r4,r5,r6,r7,r8,r9,r10⟩
theorem Inv.outExc (ok:X.Ok)(I:Inv (X.inExc a) pins σ H s):Inv X pins σ H s:=by
 obtain ⟨_,r1,r2,r3,r4,r5,r6,r7,r8,r9,r10⟩:=I
 exact ⟨ok,r1,r2,r3,r4,r5,r6,r7,r8,r9,r10⟩
end
def tTry (i j:Nat)(K:PySem.W.Frag)(C:Addr)(t:XK->TE)(ts:TS):TS:=fun D σ H =>
 t (fun cls _ H'=>∃ C2 bm newId,cls=.ref C2/\excIn K C2 bm newId=true/\(mroL K C2).contains (.ref C)=true/\∀ a,H' a=none ->
   ts { nx:=fun σ' H''=>∃ v,σ'[j]?=some (some v)/\D.nx (σ'.set j none) H'',rt:=fun _ _=>False } (σ.set j (some (.ref a))) (upd H' a (ClsO a cls))) σ H
  (fun v H'=>D.nx (σ.set i (some v)) H')
section
variable {X:Cx}{i j:Nat}{x y n:Str}{C:Addr}{bmB:List Value}{newId:String}{e:Expr}{t:XK->TE}{b₀:Stmt}{suite:List Stmt}{ts:TS}{py apos np hpos pos:Pos}
theorem ps_try (B:Body X)(hN:X.N.Nodup)(hi:X.N[i]?=some y)(hy:Loc X.env.scope y)(hj:X.N[j]?=some n)(hn:X.env.scope.names.lookup n=some .local)(hg:Gl X x)(hm:X.mg x=some (.ref C))(hq:excIn X.K C bmB newId=true)(hbase:bmB.contains (.type "BaseException")=true)
  (he:PEx X e t) (hsu:∀ a,PSs (X.inExc a) (b₀::suite) ts) (hs:swapsWith e (some (.Name y py)) apos.line X.env=pure false:=by rfl) (hf:X.fn y=true\/X.env.scope.names.lookup y=some .local:=by first | exact .inl rfl | exact .inr rfl | assumption) (hdb:(x==("__debug__":Str))=false:=by decide) :
  PS X (.Try [.Assign [.Name y py] e apos] [.ExceptHandler (some (.Name x np)) (some n) (b₀::suite) hpos] [] [] pos) (tTry i j X.K C t ts):=by
 intro pins s σ H D I h
 refine wpAny_Try_except ?_
 refine wpAny_execs_cons ?_
 refine wpAny_Assign_Name (wpAny_mono (he _ pins s σ H _ I h) (fun v s1 q1=>?_) fun ex s1 q1=>?_) hs
 ·obtain ⟨v',H1,I1,r1,q⟩:=q1
  refine store_ok I1 hN hi hy r1 (fun s2 I2=>?_) hf
  refine wpAny_execs_nil ?_
  exact wpAny_execs_nil ⟨_,H1,I2,q⟩
 ·obtain ⟨h0,H1,a,cls,z,rfl,I1,R,fl,th,C2,bm,nid,rfl,q2,q3,q4⟩:=q1
  have fr:=I1.stack
  have frs:=I1.ok.frames
  rw [B.stk] at fr frs
  refine note_fl frs fr B.frm (fun b hb=>?_) (fun b hb=>I1.hok.fresh hb) fl fun h1 nk1 fl1=>?_
  ·cases eb:h0.get? b with
   | none=>rfl
   | some o =>
    obtain ⟨o',e'⟩:=th b o eb
    exact absurd (Nat.lt_of_lt_of_le (Heap.lt_size e') hb) (Nat.lt_irrefl _)
  rw [<- B.stk] at nk1
  have I2:=I1.notedP (t':=s1.toks) R nk1
  refine flight_fl (s:={ s1 with heap:=h1 }) (env:=X.env) (outer:=X.outer) fl1 fun h2 nk2 fl2=>?_
  rw [<- B.stk] at nk2
  have I3:=I2.notedP (t':=s1.toks) R nk2
  refine wpAny_handleBy_cons (codeAny_handlers_test (ld_glob (I3.inExc a) hg hm ?_ hdb)) (by intro q;cases q)
  obtain ⟨nm,qn,N,bs,bmk,hdct,sn,sub,ab,col,dd,k0,k1,k2,k3,k5,hC,hT,hmC⟩:=exc_of_in' I3.kIn hq
  obtain ⟨nm',qn',N',bs',bm',hdct',sn',sub',ab',col',dd',j0,j1,j2,j3,j5,hC2,hT2,hmC2⟩:=exc_of_in' I3.kIn q2
  obtain ⟨_,_,oe,vs,hoe,hcl,hdat,_⟩:=id fl2
  refine excMatches_own hC (hT.hasType hbase) hC2 hoe hcl (by rw [<- hmC2];exact q3) ?_
  refine codeAny_handlers_suite_as ?_
  refine flight_fl (s:={ s1 with heap:=h2 }) (env:=X.env) (outer:=X.outer) fl2 fun h3 nk3 fl3=>?_
  rw [<- B.stk] at nk3
  have I4:=I3.notedP (t':=s1.toks) R nk3
  obtain ⟨_,_,oe3,vs3,hoe3,hcl3,hdat3,_⟩:=id fl3
  have I5:Inv X pins σ (upd H1 a (ClsO a (.ref C2))) { s1 with heap:=h3,toks:=s1.toks }:=by
   refine I4.track fl.un (R.ent a fl.new) (fun z=>?_) (fun x c hx z=>?_) (fun p hp z=>?_) (ClsO.ok hoe3 hcl3)
   ·obtain ⟨m,⟨o',es,ep,e',d',_⟩,_⟩:=I4.loc
    rw [<- z,hoe3] at e'
    cases e'
    rw [hdat3] at d'
    cases d'
   ·obtain ⟨v,o',e',d'⟩:=I4.cell x c hx
    rw [z,hoe3] at e'
    cases e'
    rw [hdat3] at d'
    cases d'
   ·obtain ⟨o',e'⟩:=R.pin p hp
    rw [z,fl.new] at e'
    cases e'
  refine store_ok (X:=X.inExc a) (I5.inExc a) hN hj (Or.inl hn) (v:=.ref a) rfl (fun s6 I6=>?_) (.inr hn)
  refine wpAny_mono (hsu a pins s6 _ _ _ I6 (q4 a fl.un)) (fun f s7 q7=>?_) fun _ _ z=>z.elim
  cases f with
  | next =>
   obtain ⟨σ7,H7,I7,v7,e7,n7⟩:=q7
   have I8:=I7.outExc I1.ok
   have hlt:j < σ7.length:=(List.getElem?_eq_some_iff.mp e7).1
   refine wpAny_bind (wpAny_bindName (store_ok I8 hN hj (Or.inl hn) (v:=.non) rfl (fun s9 I9=>?_) (.inr hn)))
   unfold unbindBehindTheSuite
   refine wpAny_onRaise (unbind_ok I9 hN hj hn (v:=.non) (by rw [List.getElem?_set_self hlt]) fun s10 I10=>?_)
   rw [List.set_set] at I10
   exact ⟨_,H7,I10,n7⟩
  | brk=>obtain ⟨_,_,_,z⟩:=q7;exact z.elim
  | cont=>obtain ⟨_,_,_,z⟩:=q7;exact z.elim
  | ret u=>obtain ⟨_,_,_,_,_,z⟩:=q7;exact z.elim
end
end L2
namespace PySem
open PySem.W (Looks looks_findIn findIn Frag)
section
variable {prog:Program}{w:World}{A:Around}{E:Value->Shared->Prop}{h:Heap}{g:Array GenState}{d:Drawn}{t:Nat}{os:OsState}{a:Addr}{o:Obj}{K:Frag}
 {nm q:Str} {C N:Addr} {bs bm bmB:List Value} {hdct:Bool} {sn:List Str} {sub:List Value} {ab:Bool} {col:Option Bool} {dd:Option Addr} {k0 k1 k2 k3 k5:Option Value} {newId:String}
theorem x6_get {R:Result->Shared->Prop}(hC:h.get? C=some (excClassObj nm q C N bs bm hdct sn sub ab col dd k0 k1 k2 k3 k5 newId))(ho:bm.contains (.type "object")=true)
  (hx:h.get? a=some o) (hc:o.cls=.ref C) (hq:R (.ok (.ret (.ref C))) ⟨h,g,d,t,os⟩) :
  codeAny (model prog w) A (.call (.builtin "getset_descriptor.__get__") ⟨[.builtin "object.__class__",.ref a,.ref C],[]⟩) R ⟨h,g,d,t,os⟩:=by
 have hT5:(⟨h,g,d,t,os⟩:Shared).TypeIs (.builtin "object.__class__") "getset_descriptor":=F.typeOf_object_class
 have hcB:(Value.ref C::bm).contains (.type (".".intercalate ("object.__class__".cutAt '.').dropLast))=true:=by
  rw [F.owner_object_class,List.contains_cons,ho];rfl
 refine codeAny_call_builtin F.slot_gs_get.plain F.entry_gs_get (F.slot_gs_get.check _ _ _ _ _ _ _ _ hT5 (F.args_gs_get _ _ _) ?_)
 repeat (any_goals (first | assumption | (with_reducible refine wpAny_loadPart_at hx ?_;rw [hc]) | (with_reducible refine wpAny_isSubtype_exc hC ?_;rw [hcB]) | wp_step))
 refine ⟨Code.quiet_builtin _ (by decide +kernel),codeAny_builtin F.entry_object_class ?_⟩
 repeat (any_goals (first | assumption | (with_reducible refine wpAny_loadPart_at hx ?_;rw [hc]) | wp_step))
theorem x6_entry {tk:Tok}{Q:Fin->Shared->Prop}(X:K.In h)(hC:h.get? C=some (excClassObj nm q C N bs bm hdct sn sub ab col dd k0 k1 k2 k3 k5 newId))(ho:bm.contains (.type "object")=true)
  (ec:findIn K (.ref C) "__class__"=some (some (.builtin "object.__class__"))) (hx:h.get? a=some o) (hc:o.cls=.ref C) (hq:Q (.done (.ret (.ref C))) ⟨h,g,d,t,os⟩) :
  wpAny (model prog w) A (Builtin.«object.__getattribute__» ⟨[.ref a,.str "__class__" tk],[]⟩) Q E ⟨h,g,d,t,os⟩:=by
 have hT5:(⟨h,g,d,t,os⟩:Shared).TypeIs (.builtin "object.__class__") "getset_descriptor":=F.typeOf_object_class
 have f5:=F.typeOf_object_class
 have f6:=F.slot_gs_get.lookup
 have f7:=F.slot_gs_set.lookup
 have L:=looks_findIn (M:=model prog w) X ec
 repeat (any_goals (first | assumption | (with_reducible refine wpAny_loadPart_at hx ?_;rw [hc]) | with_reducible refine PySem.W.Looks.at L ?_ | wp_step))
 refine x6_get hC ho hx hc ?_
 repeat (any_goals (first | assumption | wp_step))
theorem x6_attr {Q:Option Value->Shared->Prop}(X:K.In h)(hC:h.get? C=some (excClassObj nm q C N bs bm hdct sn sub ab col dd k0 k1 k2 k3 k5 newId))(ho:bm.contains (.type "object")=true)(hB:bm.contains (.type "BaseException")=true)
  (ec:findIn K (.ref C) "__class__"=some (some (.builtin "object.__class__"))) (eg:findIn K (.ref C) "__getattribute__"=some (some (.builtin "BaseException.__getattribute__"))) (ea:findIn K (.ref C) "__getattr__"=some none)
  (hx:h.get? a=some o) (hc:o.cls=.ref C) (hq:Q (some (.ref C)) ⟨h,g,d,t+1,os⟩):wpAny (model prog w) A (getAttr? (.ref a) "__class__") Q E ⟨h,g,d,t,os⟩:=by
 have L1:=looks_findIn (M:=model prog w) X eg
 have L2:=looks_findIn (M:=model prog w) X ea
 have f3:=F.attrBase_ValueError.ga.bind (.ref a)
 have hx2:(Value.builtin "BaseException.__getattribute__"==Value.builtin "object.__getattribute__")=false:=by decide +kernel
 have hx1:(onTheHeap (Value.ref C) && Value.builtin "BaseException.__getattribute__"==Value.builtin "object.__getattribute__")=false:=by rw [hx2];rfl
 have hx0:(false && onTheHeap (Value.builtin "BaseException.__getattribute__"))=false:=rfl
 have hk:builtinKind "BaseException.__getattribute__"=some .slot:=by decide +kernel
 have hsplit:splitId "BaseException.__getattribute__"=some ("BaseException","__getattribute__"):=by decide +kernel
 have hcB:(Value.ref C::bm).contains (.type "BaseException")=true:=by rw [List.contains_cons,hB];rfl
 have chk:∀ (nameV:Value) {Q:Unit->Shared->Prop} {E:Value->Shared->Prop} {A:Around} {t:Nat},Q () ⟨h,g,d,t,os⟩->wpAny (model prog w) A (checkBuiltinCall "BaseException.__getattribute__" ⟨[.ref a,nameV],[]⟩) Q E ⟨h,g,d,t,os⟩:=by
  intro nameV Q E A t hq
  have ha:=F.args_bexc_ga (.ref a) nameV
  simp only [checkBuiltinCall,hk,hsplit]
  refine wpAny_bind ?_
  ·unfold isInstance
   repeat (first | (with_reducible refine wpAny_loadPart_at hx ?_;rw [hc]) | (with_reducible refine wpAny_isSubtype_exc hC ?_;rw [hcB]) | wp_step)
   exact hq
 unfold getAttr? getAttrBy? getAttrBy
 repeat (any_goals (first | assumption | (with_reducible refine wpAny_loadPart_at hx ?_;rw [hc]) | with_reducible refine PySem.W.Looks.at L1 ?_ | with_reducible refine PySem.W.Looks.at L2 ?_ | wp_step))
 refine codeAny_call_builtin F.attrBase_ValueError.ga.plain F.entry_bexc_ga (chk _ (x6_entry X hC ho ec hx hc ?_))
 repeat (any_goals (first | assumption | wp_step))
end
end PySem
namespace L2
open PySem PySem.Spec PyProof.Rows
open PySem.W (excIn findIn kitOne kitAny KitX)
structure ExcK (K:PySem.W.Frag)(C:Addr)(bmB:List Value)(newId:String):Prop where
 ex:excIn K C bmB newId=true
 ob:bmB.contains (.type "object")=true
 be:bmB.contains (.type "BaseException")=true
 ec:findIn K (.ref C) "__class__"=some (some (.builtin "object.__class__"))
 eg:findIn K (.ref C) "__getattribute__"=some (some (.builtin "BaseException.__getattribute__"))
 ea:findIn K (.ref C) "__getattr__"=some none
theorem kitx_exc {K:PySem.W.Frag}{C a:Addr}{bmB:List Value}{newId:String}(Z:ExcK K C bmB newId):KitX K (.ref a) (.ref C) (fun h=>∃ o,h.get? a=some o/\o.cls=.ref C) where
 ty:=fun M h _ ⟨o,h1,h2⟩=>by
  exact h2▸(PySem.W.Looks.ld h1).andThen .now
 it:=fun M h X _=>by
  obtain ⟨nm,qn,N,bs,bm,hdct,sn,sub,ab,col,dd,k0,k1,k2,k3,k5,hC,hT,hm⟩:=exc_of_in' X Z.ex
  intro A' Q' E' s' k q
  unfold isType loadHead
  exact wpAny_bind (wpAny_loadPart (k _ _ hC) (wpAny_pure q))
 ne:=fun h tp dd its n sl X htp=>by
  obtain ⟨nm,qn,N,bs,bm,hdct,sn,sub,ab,col,dd',k0,k1,k2,k3,k5,hC,hT,hm⟩:=exc_of_in' X Z.ex
  refine Bool.eq_false_iff.mpr fun q=>?_
  have e:C=tp:=Value.ref.inj (beq_iff_eq.mp q)
  subst e
  rw [hC] at htp
  have z:=congrArg Obj.data (Option.some.inj htp)
  cases z
 ca:=fun {prog w A E Q s} X ⟨o,h1,h2⟩ k=>by
  obtain ⟨nm,qn,N,bs,bm,hdct,sn,sub,ab,col,dd',k0,k1,k2,k3,k5,hC,hT,hm⟩:=exc_of_in' X Z.ex
  obtain ⟨hh,g,d,t,os⟩:=s
  exact x6_attr X hC (hT.hasType Z.ob) (hT.hasType Z.be) Z.ec Z.eg Z.ea h1 h2 k
theorem vals_refs:∀ {ds:List Addr} {us:List Value},Vals (ds.map V.ref) us->us=ds.map Value.ref
 | [],_,.nil=>rfl
 | d::ds,_,.cons r1 r2=>by
  obtain rfl:_=Value.ref d:=r1
  rw [List.map_cons,vals_refs r2]
section
variable {X:Cx}
def clsV:V->Option Value
 | .ref D=>some (.ref D)
 | .ty T=>some (.type T)
 | _=>none
theorem call_isExc:CallR X (.builtin "isinstance") (fun xs H Q=>∃ a C bmB newId v c b,xs=[.ref a,v]/\clsV v=some c/\H a=some (ClsO a (.ref C))/\ExcK X.K C bmB newId/\kitOne X.K (.ref C) c=some b/\Q (.bl b) H):=by
 intro pins s σ H xs us Q I r h
 obtain ⟨a,C,bmB,newId,v,c,b,rfl,hv,ha,Z,e,q⟩:=h
 obtain ⟨u,u',rfl,ru,ru'⟩:=vals2 r
 obtain rfl:u=Value.ref a:=ru
 have hc:u'=c:=by
  cases v <;> simp only [clsV] at hv <;> cases hv <;> exact ru'
 subst hc
 exact PySem.W.kia_one (kitx_exc Z) I.kIn (ClsO.get I.hok ha) e (fun z=>nomatch z) fun tk=>⟨.bl b,H,I.tok tk,rfl,q⟩
theorem call_isExcT:CallR X (.builtin "isinstance") (fun xs H Q=>∃ (a C:Addr) (bmB:List Value) (newId:String) (p:Addr) (ds:List Addr) (b:Bool),xs=[.ref a,.ref p]/\H p=some (.tup (ds.map V.ref))/\H a=some (ClsO a (.ref C))/\ExcK X.K C bmB newId/\kitAny X.K (.ref C) (ds.map Value.ref)=some b/\Q (.bl b) H):=by
 intro pins s σ H xs us Q I r h
 obtain ⟨a,C,bmB,newId,p,ds,b,rfl,hp,ha,Z,e,q⟩:=h
 obtain ⟨u,u',rfl,ru,ru'⟩:=vals2 r
 obtain rfl:u=Value.ref a:=ru
 obtain rfl:u'=Value.ref p:=ru'
 obtain ⟨_,its,rv,o,h1,h2,n,h3⟩:=(show ObjOk X.prog X.w H s.heap p (.tup (ds.map V.ref)) from I.hok p _ hp)
 obtain ⟨oc,od,da,osl⟩:=o
 simp only at h2 h3
 subst h2 h3
 have ei:its=ds.map Value.ref:=vals_refs rv
 subst ei
 exact PySem.W.kia_tup (kitx_exc Z) I.kIn (ClsO.get I.hok ha) h1 e (fun z=>nomatch z) fun tk=>⟨.bl b,H,I.tok tk,rfl,q⟩
end
section
variable {X:Cx}{i j:Nat}{x y n:Str}{C:Addr}{bmB:List Value}{newId initId Bn:String}{e:Expr}{es:List Expr}{t:XK->TE}{ta:TA}{b₀:Stmt}{suite:List Stmt}{ts:TS}{py apos np hpos cpos pos:Pos}{E:XK}{E':Value->Shared->Prop}
theorem s_try (B:Body X)(hN:X.N.Nodup)(hi:X.N[i]?=some y)(hy:Loc X.env.scope y)(hj:X.N[j]?=some n)(hn:X.env.scope.names.lookup n=some .local)(hg:Gl X x)(hm:X.mg x=some (.ref C))(Z:ExcK X.K C bmB newId)
  (he:SEx X e t) (hsu:∀ a,SB (X.inExc a) (b₀::suite) ts) (hs:swapsWith e (some (.Name y py)) apos.line X.env=pure false:=by rfl) (hf:X.fn y=true\/X.env.scope.names.lookup y=some .local:=by first | exact .inl rfl | exact .inr rfl | assumption) (hdb:(x==("__debug__":Str))=false:=by decide) :
  SS X (.Try [.Assign [.Name y py] e apos] [.ExceptHandler (some (.Name x np)) (some n) (b₀::suite) hpos] [] [] pos) (tTry i j X.K C t ts):=⟨ps_try B hN hi hy hj hn hg hm Z.ex Z.be he.out (fun a=>(hsu a).out) hs hf hdb⟩
theorem s_raise (B:Body X)(hE:∀ e s',InFly X E e s'->E' e s')(hg:Gl X x)(hm:X.mg x=some (.ref C))(hq:excIn X.K C bmB newId=true)(F:ExcBaseFacts Bn newId initId bmB)(hc:X.calm=true)
  (ha:SA (X.wish E') (e::es) ta) (hdb:(x==("__debug__":Str))=false:=by decide) (he:starEach (e::es) X.env=(false,eval e X.env)::starEach es X.env:=by first | exact st_con | exact st_name | exact st_call | exact st_bin | exact st_tup | exact st_sub | exact st_lc | rfl) (hpl:(backTo cpos (starEach (e::es) X.env)).any (·.1)=false:=by rfl) :
  SS (X.wish E') (.Raise (some (.Call (.Name x np) (e::es) [] cpos)) none pos) (tRaise C E ta):=⟨ps_raise B hE hg hm hq F hc ha.out hdb he hpl⟩
theorem e_glob {v:V}{u:Value}(hg:Gl X x)(hm:X.mg x=some u)(r:RelV v u)(hd:(x==("__debug__":Str))=false:=by decide):SE X (.Name x pos) (tC v):=⟨pe_glob hg hm r hd⟩
end
end L2
namespace KS
open PySem L2 KM
theorem dec_any (t:Kd):decide (V.str (word t)=V.str "any")=isGap t:=by
 rw [Bool.eq_iff_iff,decide_eq_true_iff,V.str.injEq]
 exact word_any
theorem cut1 (x:V)(us:List V):cutV (x::us) (some 1) none=us:=by
 unfold cutV
 have e1:HT.sIx (x::us).length 0 (some 1)=1:=by
  have:=HT.sIx_nat (n:=(x::us).length) (d:=0) (k:=1)
  simp [HT.sIx]
 have e2:HT.sIx (x::us).length (x::us).length none=(x::us).length:=by simp [HT.sIx]
 rw [e1,e2]
 simp
theorem Same.put {H H':Hp}{a:Addr}{o:HO}(s:Same H H')(h:H a=none):Same H (upd H' a o):=fun b u e=>by
 rw [upd_ne (ne_of_none e h)]
 exact s b u e
theorem Same.new {H:Hp}{a:Addr}{o:HO}(h:H a=none):Same H (upd H a o):=Same.put (Same.refl H) h
theorem Paired.app {α β:Type}{F:α->β->Prop}:∀ {a b:List α} {c d:List β},Paired F a c->Paired F b d->Paired F (a++b) (c++d)
 | _,_,_,_,.nil,q=>q
 | _,_,_,_,.cons h t,q=>.cons h (Paired.app t q)
theorem Paired.split {α β:Type}{F:α->β->Prop}:∀ {a b:List α} {c:List β},Paired F (a++b) c->∃ c1 c2,c=c1++c2/\Paired F a c1/\Paired F b c2
 | [],_,c,q=>⟨[],c,rfl,.nil,q⟩
 | x::a,b,_,.cons h t=>by
  obtain ⟨c1,c2,e,p1,p2⟩:=Paired.split (a:=a) (b:=b) t
  exact ⟨_::c1,c2,by rw [e];rfl,.cons h p1,p2⟩
theorem Paired.at {α β:Type}{F:α->β->Prop}:∀ {a:List α} {c:List β} {i:Nat} {y:β},Paired F a c->c[i]?=some y->∃ x,a[i]?=some x/\F x y
 | _,_,_,_,.nil,e=>by simp at e
 | _,_,0,_,.cons h _,e=>by simp at e;subst e;exact ⟨_,rfl,h⟩
 | _,_,i+1,y,.cons _ t,e=>by
  obtain ⟨x,h1,h2⟩:=Paired.at (i:=i) t (by simpa using e)
  exact ⟨x,by simpa using h1,h2⟩
theorem line_big:16777216=sizeLine:=sizeLine_eq.symm
def noStmt:Stmt:=.Pass ⟨0,0,0,0⟩
def inDef (s:Stmt)(j:Nat):Stmt:=(defBody s).getD j noStmt
def inFor (s:Stmt)(j:Nat):Stmt:=match s with
 | .For _ _ b _ _=>b.getD j noStmt
 | _=>noStmt
def valueOf (s:Stmt):Expr:=match s with
 | .Assign _ v _=>v
 | .Return (some v) _=>v
 | .Expr v _=>v
 | _=>.Constant .none 0 ⟨0,0,0,0⟩
def scopeOf (e:Expr):Scope:=match e with
 | .ListComp _ _ sc _=>sc
 | _=>{ kind:=.function,names:=[],isGenerator:=false,isCoroutine:=false }
theorem rev_last (y:V)(c:List V):(y::c).reverse[(y::c).reverse.length - 1]?=some y:=by simp
theorem rev_drop (y:V)(c:List V):(y::c).reverse.dropLast=c.reverse:=by simp
theorem yes_then {σ:St}{H:Hp}{A B:Hp->Prop}(h:A H):tYes σ H (fun b H1=>if b=true then A H1 else B H1):=by
 unfold tYes
 exact iteT h
def DictK (H:Hp)(kvs:List (Key × V))(m:Int->Option Kd):Prop:=∀ k:Int,(valV kvs (Sum.inl k:Key)=none/\m k=none)\/∃ v t,valV kvs (Sum.inl k:Key)=some v/\m k=some t/\KAt H t v
theorem DictK.mono {H H':Hp}{kvs:List (Key × V)}{m:Int->Option Kd}(s:TSub H H')(h:DictK H kvs m):DictK H' kvs m:=fun k=>by
 rcases h k with z | ⟨v,t,h1,h2,h3⟩
 ·exact .inl z
 ·exact .inr ⟨v,t,h1,h2,KAt.mono s h3⟩
def SameX (Pt:Addr)(H H':Hp):Prop:=∀ b o,H b=some o->b≠Pt->H' b=some o
theorem SameX.of {Pt:Addr}{H H':Hp}(s:Same H H'):SameX Pt H H':=fun b o e _=>s b o e
theorem SameX.trans {Pt:Addr}{H H1 H2:Hp}(a:SameX Pt H H1)(b:SameX Pt H1 H2):SameX Pt H H2:=fun c o e n=>b c o (a c o e n) n
theorem word_fill {m:Int->Option Kd}{t:Kd}(h:isGap t=false):word (fill m t)=word t:=by
 cases t <;> first | rfl | (simp [isGap] at h)
theorem Paired.mapL {α β γ:Type}{F:γ->β->Prop}{g:α->γ}:∀ {a:List α} {c:List β},Paired (fun x y=>F (g x) y) a c->Paired F (a.map g) c
 | _,_,.nil=>.nil
 | _,_,.cons h t=>.cons h (Paired.mapL t)
theorem atI_in {α:Type}{xs:List α}{i:Int}(h0:0<=i)(h1:i < xs.length):∃ v,atI xs i=some v/\v∈xs:=by
 obtain ⟨j,rfl⟩:=Int.eq_ofNat_of_zero_le h0
 have hj:j < xs.length:=by omega
 exact ⟨xs[j],atI_nat (List.getElem?_eq_getElem hj),List.getElem_mem hj⟩
def spNo:Sp:=fun _ _ _ _=>False
theorem args3 (a:Addr)(k:Int)(n:Nat):[V.ref a,V.int k,V.int (((n+1:Nat):Int) - 1)]++[]=[V.ref a,V.int k,V.int (n:Int)]:=by
 rw [show ((n+1:Nat):Int) - 1=(n:Int) by omega]
 rfl
section
variable {Pr:Program}{w:World}{K:PySem.W.Frag}{mg:Str->Option Value}{base:Heap}
theorem ok_no {k:Nat}{f:Addr}{fd:FuncData}{ps:List Str}:FnOk Pr w K mg base CX0 k f fd ps spNo:=⟨fun _ _ _ _ h=>h.elim,fun _ _ _ _ _ _ _ _ _ _ _ _ _ h=>h.elim⟩
end
theorem dp_part {t s:Kd}(h:s∈parts t):dp s < dp t:=by
 cases t <;> simp [parts] at h
 ·rcases h with rfl | rfl <;> simp only [dp] <;> omega
 ·rcases h with rfl | rfl <;> simp only [dp] <;> omega
 ·subst h;simp only [dp];omega
theorem ok_part {t s:Kd}(h:ok t=true)(hs:s∈parts t):ok s=true:=by
 cases t <;> simp [parts] at hs
 ·simp only [ok,Bool.and_eq_true] at h;rcases hs with rfl | rfl
  ·exact h.1
  ·exact h.2
 ·simp only [ok,Bool.and_eq_true] at h;rcases hs with rfl | rfl
  ·exact h.1
  ·exact h.2
 ·subst hs;exact h
theorem iteP {c A B:Prop}[Decidable c](hc:c)(h:A):if c then A else B:=by
 rw [if_pos hc]
 exact h
theorem iteN {c A B:Prop}[Decidable c](hc:¬ c)(h:B):if c then A else B:=by
 rw [if_neg hc]
 exact h
section
variable {X:Cx}
end
theorem len_putK {κ:Type}[DecidableEq κ](kvs:List (κ × V))(k:κ)(v:V):(putK kvs k v).length<=kvs.length+1:=by
 unfold putK
 split
 ·rw [List.length_map];omega
 ·simp
theorem DictK.put {H:Hp}{kvs:List (Key × V)}{m:Int->Option Kd}{k:Int}{t:Kd}{v:V}(h:DictK H kvs m)(hv:KAt H t v):DictK H (putK kvs (Sum.inl k:Key) v) (fun j=>if j=k then some t else m j):=fun j=>by
 rw [valV_put]
 by_cases e:j=k
 ·subst e
  rw [if_pos rfl]
  exact .inr ⟨v,t,rfl,if_pos rfl,hv⟩
 ·rw [if_neg (fun z=>e (Sum.inl.inj z))]
  show (_/\(if j=k then some t else m j)=none)\/∃ v' t',_/\(if j=k then some t else m j)=some t'/\_
  rw [if_neg e]
  exact h j
theorem DictK.nil {H:Hp}:DictK H [] (fun _=>none):=fun _=>.inl ⟨rfl,rfl⟩
theorem SameX.sub {Pt:Addr}{H H':Hp}{ps:Array Value}(s:SameX Pt H H')(h:H Pt=some (.tbl ps)):TSub H H':=fun b xs e=>s b _ e (fun z=>by rw [z,h] at e;cases e)
end KS
namespace KM
def prs:Kd->Kd->Option (List (Int × Kd))
 | .gap k,b=>some [(k,b)]
 | .num,.num=>some []
 | .tru,.tru=>some []
 | .ls a,.ls b=>prs a b
 | .fn a a',.fn b b'=>(prs a b).bind fun x=>(prs a' b').map fun y=>x++y
 | .pr a a',.pr b b'=>(prs a b).bind fun x=>(prs a' b').map fun y=>x++y
 | _,_=>none
def lastV (l:List (Int × Kd))(k:Int):Option Kd:=l.foldl (fun m p=>if p.1=k then some p.2 else m) none
def wd (a b:Kd):Bool:=match prs a b with
 | none=>false
 | some l=>l.all fun p=>decide (lastV l p.1=some p.2)
theorem prs_of_fill {m:Int->Option Kd}:∀ (a:Kd),∃ l,prs a (fill m a)=some l/\∀ p∈l,p.2=(m p.1).getD (.gap p.1)
 | .gap k=>⟨_,rfl,fun p hp=>by rw [List.mem_singleton.mp hp];rfl⟩
 | .num=>⟨[],rfl,fun p hp=>by cases hp⟩
 | .tru=>⟨[],rfl,fun p hp=>by cases hp⟩
 | .ls a=>prs_of_fill a
 | .fn a b=>by
  obtain ⟨x,h1,h2⟩:=prs_of_fill (m:=m) a
  obtain ⟨y,h3,h4⟩:=prs_of_fill (m:=m) b
  refine ⟨x++y,by simp only [fill,prs,h1,h3,Option.bind_some,Option.map_some],fun p hp=>?_⟩
  rcases List.mem_append.mp hp with hp | hp
  ·exact h2 p hp
  ·exact h4 p hp
 | .pr a b=>by
  obtain ⟨x,h1,h2⟩:=prs_of_fill (m:=m) a
  obtain ⟨y,h3,h4⟩:=prs_of_fill (m:=m) b
  refine ⟨x++y,by simp only [fill,prs,h1,h3,Option.bind_some,Option.map_some],fun p hp=>?_⟩
  rcases List.mem_append.mp hp with hp | hp
  ·exact h2 p hp
  ·exact h4 p hp
theorem two_some {α:Type}{x y:Option (List α)}{l:List α}(h:(x.bind fun u=>y.map fun v=>u++v)=some l):∃ u v,x=some u/\y=some v/\l=u++v:=by
 cases x with
 | none=>cases h
 | some u =>
  cases y with
  | none=>cases h
  | some v=>exact ⟨u,v,rfl,rfl,(Option.some.inj h).symm⟩
theorem fill_of_prs {m:Int->Option Kd}:∀ (a b:Kd) (l:List (Int × Kd)),prs a b=some l->(∀ p∈l,(m p.1).getD (.gap p.1)=p.2)->fill m a=b
 | .gap k,b,l,h,hm=>by
  cases h
  exact hm (k,b) (List.mem_singleton.mpr rfl)
 | .num,b,l,h,hm=>by cases b <;> first | rfl | cases h
 | .tru,b,l,h,hm=>by cases b <;> first | rfl | cases h
 | .ls a,b,l,h,hm=>by
  cases b with
  | ls b=>show Kd.ls (fill m a)=_;rw [fill_of_prs a b l h hm]
  | _=>cases h
 | .fn a a',b,l,h,hm=>by
  cases b with
  | fn b b' =>
   obtain ⟨u,v,h1,h2,rfl⟩:=two_some h
   show Kd.fn (fill m a) (fill m a')=_
   rw [fill_of_prs a b u h1 fun p hp=>hm p (List.mem_append_left _ hp),fill_of_prs a' b' v h2 fun p hp=>hm p (List.mem_append_right _ hp)]
  | _=>cases h
 | .pr a a',b,l,h,hm=>by
  cases b with
  | pr b b' =>
   obtain ⟨u,v,h1,h2,rfl⟩:=two_some h
   show Kd.pr (fill m a) (fill m a')=_
   rw [fill_of_prs a b u h1 fun p hp=>hm p (List.mem_append_left _ hp),fill_of_prs a' b' v h2 fun p hp=>hm p (List.mem_append_right _ hp)]
  | _=>cases h
theorem lastV_go (k:Int):∀ (l:List (Int × Kd)) (m:Option Kd),l.foldl (fun m p=>if p.1=k then some p.2 else m) m=m/\(∀ p∈l,p.1≠k)\/∃ p∈l,p.1=k/\l.foldl (fun m p=>if p.1=k then some p.2 else m) m=some p.2
 | [],m=>.inl ⟨rfl,fun p hp=>by cases hp⟩
 | q::l,m=>by
  rw [List.foldl_cons]
  rcases lastV_go k l (if q.1=k then some q.2 else m) with ⟨h1,h2⟩ | ⟨p,hp,h1,h2⟩
  ·by_cases e:q.1=k
   ·refine .inr ⟨q,List.mem_cons_self,e,?_⟩
    rw [h1,if_pos e]
   ·refine .inl ⟨by rw [h1,if_neg e],fun p hp=>?_⟩
    rcases List.mem_cons.mp hp with rfl | hp
    ·exact e
    ·exact h2 p hp
  ·exact .inr ⟨p,List.mem_cons_of_mem _ hp,h1,h2⟩
theorem lastV_mem {l:List (Int × Kd)}{p:Int × Kd}(h:p∈l):∃ q∈l,q.1=p.1/\lastV l p.1=some q.2:=by
 rcases lastV_go p.1 l none with ⟨_,h2⟩ | ⟨q,hq,h1,h2⟩
 ·exact absurd rfl (h2 p h)
 ·exact ⟨q,hq,h1,h2⟩
theorem wd_iff (a b:Kd):wd a b=true↔∃ m:Int->Option Kd,fill m a=b:=by
 unfold wd
 constructor
 ·intro h
  cases e:prs a b with
  | none=>rw [e] at h;cases h
  | some l =>
   rw [e] at h
   refine ⟨lastV l,fill_of_prs a b l e fun p hp=>?_⟩
   have:=of_decide_eq_true (List.all_eq_true.mp h p hp)
   rw [this];rfl
 ·rintro ⟨m,rfl⟩
  obtain ⟨l,e,hl⟩:=prs_of_fill (m:=m) a
  rw [e]
  refine List.all_eq_true.mpr fun p hp=>decide_eq_true ?_
  obtain ⟨q,hq,h1,h2⟩:=lastV_mem hp
  rw [h2,hl q hq,hl p hp,h1]
theorem prs_len:∀ (a b:Kd) (l:List (Int × Kd)),prs a b=some l->l.length<=sz a
 | .gap k,b,l,h=>by cases h;simp [sz]
 | .num,b,l,h=>by cases b <;> first | (cases h;simp [sz]) | cases h
 | .tru,b,l,h=>by cases b <;> first | (cases h;simp [sz]) | cases h
 | .ls a,b,l,h=>by
  cases b with
  | ls b=>have:=prs_len a b l h;simp only [sz];omega
  | _=>cases h
 | .fn a a',b,l,h=>by
  cases b with
  | fn b b' =>
   obtain ⟨u,v,h1,h2,rfl⟩:=two_some h
   have i1:=prs_len a b u h1
   have i2:=prs_len a' b' v h2
   simp only [sz,List.length_append];omega
  | _=>cases h
 | .pr a a',b,l,h=>by
  cases b with
  | pr b b' =>
   obtain ⟨u,v,h1,h2,rfl⟩:=two_some h
   have i1:=prs_len a b u h1
   have i2:=prs_len a' b' v h2
   simp only [sz,List.length_append];omega
  | _=>cases h
theorem prs_dp:∀ (a b:Kd) (l:List (Int × Kd)),prs a b=some l->∀ p∈l,dp p.2<=dp b
 | .gap k,b,l,h,p,hp=>by cases h;rw [List.mem_singleton.mp hp];exact Nat.le_refl _
 | .num,b,l,h,p,hp=>by cases b <;> first | (cases h;cases hp) | cases h
 | .tru,b,l,h,p,hp=>by cases b <;> first | (cases h;cases hp) | cases h
 | .ls a,b,l,h,p,hp=>by
  cases b with
  | ls b=>have:=prs_dp a b l h p hp;simp only [dp];omega
  | _=>cases h
 | .fn a a',b,l,h,p,hp=>by
  cases b with
  | fn b b' =>
   obtain ⟨u,v,h1,h2,rfl⟩:=two_some h
   rcases List.mem_append.mp hp with hp | hp
   ·have:=prs_dp a b u h1 p hp;simp only [dp];omega
   ·have:=prs_dp a' b' v h2 p hp;simp only [dp];omega
  | _=>cases h
 | .pr a a',b,l,h,p,hp=>by
  cases b with
  | pr b b' =>
   obtain ⟨u,v,h1,h2,rfl⟩:=two_some h
   rcases List.mem_append.mp hp with hp | hp
   ·have:=prs_dp a b u h1 p hp;simp only [dp];omega
   ·have:=prs_dp a' b' v h2 p hp;simp only [dp];omega
  | _=>cases h
def app (acc l:List Int):List Int:=acc++l.filter fun n=>decide (n∉acc)
def gp:Kd->List Int
 | .gap k=>[k]
 | .ls a=>app [] (gp a)
 | .fn a b=>app (app [] (gp a)) (gp b)
 | .pr a b=>app (app [] (gp a)) (gp b)
 | _=>[]
theorem app_nil (l:List Int):app [] l=l:=by
 unfold app
 rw [List.nil_append,List.filter_eq_self]
 intro a _
 simp
theorem mem_app {acc l:List Int}{n:Int}:n∈app acc l↔n∈acc\/n∈l:=by
 unfold app
 rw [List.mem_append,List.mem_filter]
 constructor
 ·rintro (h | h)
  ·exact .inl h
  ·exact .inr h.1
 ·rintro (h | h)
  ·exact .inl h
  ·by_cases e:n∈acc
   ·exact .inl e
   ·exact .inr ⟨h,by simpa using e⟩
theorem app_len (acc l:List Int):(app acc l).length<=acc.length+l.length:=by
 unfold app
 rw [List.length_append]
 have:=List.length_filter_le (fun n=>decide (n∉acc)) l
 omega
theorem gp_len:∀ t:Kd,(gp t).length<=sz t
 | .gap k=>by simp [gp,sz]
 | .num=>by simp [gp,sz]
 | .tru=>by simp [gp,sz]
 | .ls a=>by have:=gp_len a;simp only [gp,app_nil,sz];omega
 | .fn a b=>by have h1:=gp_len a;have h2:=gp_len b;have h3:=app_len (gp a) (gp b);simp only [gp,app_nil,sz];omega
 | .pr a b=>by have h1:=gp_len a;have h2:=gp_len b;have h3:=app_len (gp a) (gp b);simp only [gp,app_nil,sz];omega
theorem gp_ok:∀ t:Kd,ok t=true->∀ k∈gp t,0<=k
 | .gap k,h,j,hj=>by rw [List.mem_singleton.mp hj];simpa [ok] using h
 | .num,h,j,hj=>by cases hj
 | .tru,h,j,hj=>by cases hj
 | .ls a,h,j,hj=>by rw [show gp (.ls a)=gp a from app_nil _] at hj;exact gp_ok a h j hj
 | .fn a b,h,j,hj=>by
  simp only [ok,Bool.and_eq_true] at h
  rw [show gp (.fn a b)=app (gp a) (gp b) from by show app (app [] (gp a)) (gp b)=_;rw [app_nil]] at hj
  rcases mem_app.mp hj with z | z
  ·exact gp_ok a h.1 j z
  ·exact gp_ok b h.2 j z
 | .pr a b,h,j,hj=>by
  simp only [ok,Bool.and_eq_true] at h
  rw [show gp (.pr a b)=app (gp a) (gp b) from by show app (app [] (gp a)) (gp b)=_;rw [app_nil]] at hj
  rcases mem_app.mp hj with z | z
  ·exact gp_ok a h.1 j z
  ·exact gp_ok b h.2 j z
theorem fill_congr {m m':Int->Option Kd}:∀ t:Kd,(∀ k∈gp t,fill m (.gap k)=fill m' (.gap k))->fill m t=fill m' t
 | .gap k,h=>h k (List.mem_singleton.mpr rfl)
 | .num,_=>rfl
 | .tru,_=>rfl
 | .ls a,h=>by
  show Kd.ls (fill m a)=Kd.ls (fill m' a)
  rw [fill_congr a fun k hk=>h k (by show k∈app [] (gp a);rw [app_nil];exact hk)]
 | .fn a b,h=>by
  show Kd.fn (fill m a) (fill m b)=Kd.fn (fill m' a) (fill m' b)
  rw [fill_congr a fun k hk=>h k (by show k∈app (app [] (gp a)) (gp b);rw [app_nil];exact mem_app.mpr (.inl hk)),
   fill_congr b fun k hk=>h k (by show k∈app (app [] (gp a)) (gp b);rw [app_nil];exact mem_app.mpr (.inr hk))]
 | .pr a b,h=>by
  show Kd.pr (fill m a) (fill m b)=Kd.pr (fill m' a) (fill m' b)
  rw [fill_congr a fun k hk=>h k (by show k∈app (app [] (gp a)) (gp b);rw [app_nil];exact mem_app.mpr (.inl hk)),
   fill_congr b fun k hk=>h k (by show k∈app (app [] (gp a)) (gp b);rw [app_nil];exact mem_app.mpr (.inr hk))]
theorem fill_fill {m m':Int->Option Kd}:∀ t:Kd,fill m' (fill m t)=fill (fun k=>some (fill m' (fill m (.gap k)))) t
 | .gap k=>rfl
 | .num=>rfl
 | .tru=>rfl
 | .ls a=>by show Kd.ls _=Kd.ls _;rw [fill_fill a]
 | .fn a b=>by show Kd.fn _ _=Kd.fn _ _;rw [fill_fill a,fill_fill b]
 | .pr a b=>by show Kd.pr _ _=Kd.pr _ _;rw [fill_fill a,fill_fill b]
end KM
namespace PySem
namespace F
theorem dp_entry_list_ga:entryFor table "list.__getattribute__"=some Builtin.«object.__getattribute__» :=
 entryFor_alias (id':="object.__getattribute__") (by kernel_rfl) (by decide +kernel) (by decide +kernel) (by kernel_rfl)
theorem dp_list_getattr_none:typeLookup (.type "list") "__getattr__"=pure none:=by rw [typeLookup_type,builtinLookup_eq_fast];kernel_rfl
theorem dp_list_keys:typeLookup (.type "list") "keys"=pure none:=by rw [typeLookup_type,builtinLookup_eq_fast];kernel_rfl
theorem dp_entry_loop:entryFor table "dict.update.loop"=some Builtin.«dict.update.loop»:=entryFor_of_tree (by kernel_rfl)
theorem dp_plain_loop:plainId "dict.update.loop"=true:=by decide +kernel
end F
theorem dp_miss (a:Addr)(items:Array Value)(n:Nat)(sl:Array (Option Value))(u:Tok)(hsz:("keys":Str).length+100<=sizeLine:=by size_fits):
  Meets (Builtin.«object.__getattribute__» ⟨[.ref a,.str "keys" u],[]⟩) (fun A R s=>s.heap.get? a=some ⟨.type "list",none,.seq items n,sl⟩/\raisesAttr (.ref a) "keys" A R s) :=
 Meets.of_wp fun prog w A R s hs=>by
  obtain ⟨hp,g,d,tk,os⟩:=s
  obtain ⟨hl,hs⟩:=hs
  have hT:(⟨hp,g,d,tk,os⟩:Shared).TypeIs (.ref a) "list":=⟨_,hl,rfl⟩
  have f1:=F.dp_list_keys
  unfold Builtin.«object.__getattribute__»
  repeat (any_goals (first | assumption | wp_step))
  exact wpAny_raiseAttrError hs.1 hs.2 (attrMsg_fits (by decide +kernel) hsz)
section
variable {prog:Program}{w:World}{A:Around}{E:Value->Shared->Prop}{s:Shared}
theorem dp_nokeys {a:Addr}{items:Array Value}{n:Nat}{sl:Array (Option Value)}{Q:Option Value->Shared->Prop}(hA:A.handled=none)(hl:s.heap.get? a=some ⟨.type "list",none,.seq items n,sl⟩)
  (h:∀ h' tk,(∀ b o,s.heap.get? b=some o->h'.get? b=some o)->Q none { s with heap:=h',toks:=tk }):wpAny (model prog w) A (getAttr? (.ref a) "keys") Q E s:=by
 obtain ⟨hp,g,d,tk,os⟩:=s
 have hT:(⟨hp,g,d,tk,os⟩:Shared).TypeIs (.ref a) "list":=⟨_,hl,rfl⟩
 have f1:=sub_AttributeError
 have f3:=F.slot_list_getattribute.lookup
 have f4:=F.slot_list_getattribute.bind (.ref a)
 have f5:=F.dp_list_getattr_none
 unfold getAttr? getAttrBy? getAttrBy
 repeat (any_goals (first | assumption | ((with_reducible show wpAny _ _ (call (Value.builtin "list.__getattribute__") _ _) _ _ _);refine call_meets F.slot_list_getattribute ⟨_,hl,rfl⟩ F.dp_entry_list_ga (F.args_list_getattribute_2 _ _) (dp_miss a items n sl _) ⟨hl,hA,fun h' tk' e hx=>?_⟩) | wp_step))
 obtain ⟨t',u',he⟩:=hx.there
 show wpAny _ _ (getattributeRaised _ _ _ _ _ _ _) _ _ _
 unfold getattributeRaised
 repeat (any_goals (first | assumption | wp_step))
 all_goals exact h _ _ hx.keeps
end
end PySem
namespace PySem
section
variable {prog:Program}{w:World}{A:Around}{E:Value->Shared->Prop}{s:Shared}
def dpUp {K:Type}[DecidableEq K](key:Nat->K)(vu:Nat->Value):Nat->List (K × Value)
 | 0=>[]
 | i+1=>stored (dpUp key vu i) (key i) (vu i)
theorem dpUp_len {K:Type}[DecidableEq K](key:Nat->K)(vu:Nat->Value):∀ i,(dpUp key vu i).length<=i
 | 0=>Nat.le_refl _
 | i+1=>by
  have ih:=dpUp_len key vu i
  show (stored _ _ _).length<=_
  unfold stored
  split
  ·rw [List.length_map];omega
  ·rw [List.length_append,List.length_singleton];omega
theorem dp_loop {K:Type}[DecidableEq K]{knd:KeyKind prog w K}{R:Result->Shared->Prop}{I:Addr}{fp wr:List Addr}{G:Array GenState->Array GenState->Prop}{n:Nat}{P:Nat->Value->Prop}{St:Nat->Shared->Prop}
  (W:WalksS prog w A.in1 I fp wr G n P St) (D:Addr) (hDf:D∉fp) (ps:Nat->Addr) (key:Nat->K) (ku vu:Nat->Value) (hP:∀ i v,P i v->v=.ref (ps i)) (hk:∀ i,i < n->knd.is (key i) (ku i)=true)
  (hD:∀ i,i < n->ps i≠D) (hw:∀ i,i < n->ps i∉wr) (hz:n<=sizeLine) :
  ∀ (k i:Nat) (s:Shared) (z:Int) (tz:Tok),n - i=k->i<=n->St i s->(∀ j,j < n->PyProof.Rows.IsTup s.heap (ps j) #[ku j,vu j])->s.heap.DictOf knd D (dpUp key vu i) ->
   (∀ s',Moved (D::wr) G s s'->s'.heap.DictOf knd D (dpUp key vu n)->R (.ok (.ret .none)) s') ->
   codeAny (model prog w) A (.builtin "dict.update.loop" ⟨[.ref D,.ref I,.int z tz,.none],[]⟩) R s:=by
 have hDw:D∉wr:=fun h=>hDf (W.sub _ h)
 have hsub:∀ b∈wr,b∈D::wr:=fun b hb=>List.mem_cons_of_mem _ hb
 have dmv:∀ {s s':Shared} {kvs:List (K × Value)},Moved wr G s s'->s.heap.DictOf knd D kvs->s'.heap.DictOf knd D kvs:=fun {s s' kvs} hm hd=>by
  obtain ⟨o,es,ep,ho,r⟩:=hd
  exact ⟨o,es,ep,hm.heap D _ hDw ho,r⟩
 intro k
 induction k with
 | zero =>
  intro i s z tz hk' hi hst hT hS hR
  obtain rfl:i=n:=by omega
  refine codeAny_builtin F.dp_entry_loop ?_
  rw [Around.under_plainId F.dp_plain_loop _]
  show wpAny _ A.in1 (pyNext (.ref I) >>= _) _ _ s
  refine wpAny_bind (W.done s _ _ hst fun s' hm=>?_)
  show wpAny _ A.in1 (Builtin.Dict.addKeywords D [] >>= fun _=>ret Value.none) _ _ s'
  exact wpAny_bind (wpAny_pure (wpAny_pure (hR s' (hm.mono hsub) (dmv hm hS))))
 | succ k ih =>
  intro i s z tz hk' hi hst hT hS hR
  have hlt:i < n:=by omega
  refine codeAny_builtin F.dp_entry_loop ?_
  rw [Around.under_plainId F.dp_plain_loop _]
  show wpAny _ A.in1 (pyNext (.ref I) >>= _) _ _ s
  refine wpAny_bind (W.item i s _ _ hlt hst fun v s' hv hst' hm=>?_)
  obtain rfl:=hP i v hv
  have hS':=dmv hm hS
  have hT':∀ j,j < n->PyProof.Rows.IsTup s'.heap (ps j) #[ku j,vu j]:=fun j hj=>by
   obtain ⟨o,ho,r⟩:=hT j hj
   exact ⟨o,hm.heap _ _ (hw j hj) ho,r⟩
  show wpAny _ A.in1 (holding [Value.ref (ps i)] _ >>= fun _=>again _) _ _ s'
  refine wpAny_bind (wpAny_holding (wpAny_bind (wpAny_tryCatch ?_)))
  obtain ⟨o,ho,hc,m,hd⟩:=hT' i hlt
  unfold Builtin.Dict.pairItems
  refine wpAny_bind (wpAny_typeOf (T:="tuple") ⟨o,ho,hc⟩ ?_)
  rw [if_pos (by decide)]
  refine wpAny_bind (wpAny_seqItems ho hd (wpAny_pure ?_))
  show wpAny _ A.in1 (holding [ku i,vu i] (dictSet D (ku i) (vu i))) _ _ s'
  refine wpAny_holding (wpAny_dictSet_pairs (hk i hlt) hS' (fun h' hd' hs'=>?_) (Nat.le_trans (dpUp_len key vu i) (by omega)))
  refine wpAny_pure ⟨plainId_quiet F.dp_plain_loop _,ih (i+1) _ _ _ (by omega) hlt (W.frame _ s' _ _ hst' (Nat.le_succ _) fun b hb o e=>?_) (fun j hj=>?_) hd' fun s'' hm'' hS''=>?_⟩
  ·exact (hs'.2 b (fun q:b=D=>hDf (by rw [<- q];exact hb))).trans e
  ·obtain ⟨o,ho,r⟩:=hT' j hj
   exact ⟨o,(hs'.2 _ (hD j hj)).trans ho,r⟩
  ·refine hR s'' (Moved.trans W.gtrans ((hm.mono hsub).then_heap (Nat.le_succ _) fun b o hb e=>?_) hm'') hS''
   exact (hs'.2 b (fun q:b=D=>hb (by rw [q];exact List.mem_cons_self))).trans e
theorem dp_call {K:Type}[DecidableEq K]{knd:KeyKind prog w K}{l:Addr}{items:Array Value}{n0:Nat}{sl:Array (Option Value)}{Q:Value->Shared->Prop}(hh:A.handled=none)(hl:s.heap.get? l=some ⟨.type "list",none,.seq items n0,sl⟩)
  (ps:Nat->Addr) (key:Nat->K) (ku vu:Nat->Value) (hP:∀ (i:Nat) (v:Value),items[i]?=some v->v=Value.ref (ps i)) (hk:∀ i,i < items.size->knd.is (key i) (ku i)=true) (hT:∀ j,j < items.size->PyProof.Rows.IsTup s.heap (ps j) #[ku j,vu j]) (hz:items.size<=sizeLine)
  (h:∀ h' tk,h'.DictOf knd s.heap.objs.size (dpUp key vu items.size)->(∀ b o,s.heap.get? b=some o->h'.get? b=some o)->Q (.ref s.heap.objs.size) { s with heap:=h',toks:=tk }) :
  wpAny (model prog w) A (call (.type "dict") [.ref l]) Q E s:=by
 refine callType_codes (Q₁:=fun obj s₁=>obj=.ref s.heap.objs.size/\s₁={ s with heap:=s.heap.push { cls:=.type "dict",data:=.dict #[] } }) F.kt_called_dict (F.kt_typeCall_dict_1 _) F.entry_dict_init (kt_code_dict_new _ ⟨rfl,rfl⟩) ?_
 rintro obj s₁ ⟨rfl,rfl⟩
 have hnew:(s.heap.push { cls:=.type "dict",data:=.dict #[] }).DictOf knd s.heap.objs.size []:=Heap.DictOf.new s.heap
 have hl1:(s.heap.push { cls:=.type "dict",data:=.dict #[] }).get? l=some ⟨.type "list",none,.seq items n0,sl⟩:=Heap.get?_push_of_some _ hl
 refine ⟨hnew.typeIs,F.args_dict_init_2 _ _,?_⟩
 unfold Builtin.«dict.__init__»
 refine wpAny_bind ?_
 unfold Builtin.Dict.selfAndRest
 refine wpAny_bind (wpAny_notOrdered_dict hnew.typeIs ?_)
 show wpAny _ _ (pure (s.heap.objs.size,[Value.ref l])) _ _ _
 refine wpAny_pure ?_
 show wpAny _ _ (Builtin.Dict.updateFrom "dict.__init__" s.heap.objs.size (.ref l) [] .none) _ _ _
 unfold Builtin.Dict.updateFrom
 refine wpAny_bind (wpAny_typeOf (T:="list") ⟨_,hl1,rfl⟩ ?_)
 rw [if_pos (by decide)]
 refine wpAny_bind (dp_nokeys hh hl1 fun h2 tk2 k2=>?_)
 rw [if_pos (by decide)]
 refine wpAny_bind (wpAny_rule ?_)
 have hl2:h2.IsList l items:=⟨_,k2 _ _ hl1,rfl,n0,rfl⟩
 refine wpAny_bind (wpAny_pyIter_list (s:={ s with heap:=h2,toks:=tk2 }) hl2 ?_)
 have big:s.heap.objs.size < h2.objs.size:=Heap.lt_size (k2 s.heap.objs.size _ (Heap.get?_push_size _ rfl))
 have hlt:l < s.heap.objs.size:=Heap.lt_size hl
 have hpl:∀ j,j < items.size->ps j < s.heap.objs.size:=fun j hj=>let ⟨o,ho,_⟩:=hT j hj;Heap.lt_size ho
 have W0:=(Walks.list (prog:=prog) (w:=w) (A:=A.in1.in1) (show A.in1.in1.handled=none from hh) h2.objs.size l (Nat.ne_of_lt (Nat.lt_trans hlt big)) items).toS
 refine wpAny_pure ⟨plainId_quiet F.dp_plain_loop _,dp_loop (knd:=knd) W0 s.heap.objs.size ?_ ps key ku vu hP hk (fun j hj=>Nat.ne_of_lt (hpl j hj)) (fun j hj=>?_) hz
  items.size 0 _ _ _ rfl (Nat.zero_le _) ⟨⟨_,Heap.get?_push_size _ rfl,rfl,rfl⟩,hl2.push _⟩ (fun j hj=>?_) ?_ fun s' hm hd=>?_⟩
 ·simp only [List.mem_cons,List.not_mem_nil,or_false,not_or]
  exact ⟨Nat.ne_of_lt big,Nat.ne_of_gt hlt⟩
 ·simp only [List.mem_cons,List.not_mem_nil,or_false]
  exact Nat.ne_of_lt (Nat.lt_trans (hpl j hj) big)
 ·obtain ⟨o,ho,r⟩:=hT j hj
  exact ⟨o,Heap.get?_push_of_some _ (k2 _ _ (Heap.get?_push_of_some _ ho)),r⟩
 ·obtain ⟨o,es,ep,ho,r⟩:=hnew
  exact ⟨o,es,ep,Heap.get?_push_of_some _ (k2 _ _ ho),r⟩
 ·obtain ⟨h',g',d',tk',os'⟩:=s'
  have eg:g'=s.gens:=hm.gens
  have ed:d'=s.drawn:=hm.drawn
  have eo:os'=s.os:=hm.os
  subst eg ed eo
  refine ⟨rfl,h h' tk' hd fun b o e=>?_⟩
  have hb:=Heap.lt_size e
  refine hm.heap b o ?_ (Heap.get?_push_of_some _ (k2 _ _ (Heap.get?_push_of_some _ e)))
  simp only [List.mem_cons,List.not_mem_nil,or_false,not_or]
  exact ⟨Nat.ne_of_lt hb,Nat.ne_of_lt (Nat.lt_trans hb big)⟩
end
end PySem
namespace KS
open PySem PySem.Spec PyProof.Rows L2 KM
def putAll (prs:List (Addr × Key × V)):List (Key × V):=prs.foldl (fun m p=>putK m p.2.1 p.2.2) []
theorem putAll_snoc (a:List (Addr × Key × V))(p:Addr × Key × V):putAll (a++[p])=putK (putAll a) p.2.1 p.2.2:=by
 unfold putAll
 rw [List.foldl_append]
 rfl
theorem putAll_len (prs:List (Addr × Key × V)):(putAll prs).length<=prs.length:=by
 have:∀ (prs:List (Addr × Key × V)) (m:List (Key × V)),(prs.foldl (fun m p=>putK m p.2.1 p.2.2) m).length<=m.length+prs.length:=by
  intro prs
  induction prs with
  | nil=>intro m;simp
  | cons p r ih =>
   intro m
   have h1:=ih (putK m p.2.1 p.2.2)
   have h2:=len_putK m p.2.1 p.2.2
   simp only [List.foldl_cons,List.length_cons]
   omega
 have:=this prs []
 simpa [putAll] using this
theorem kv_up {prs:List (Addr × Key × V)}{vu:Nat->Value}(hv:∀ (j:Nat) p,prs[j]?=some p->RelV p.2.2 (vu j)){key:Nat->Key}(hk:∀ (j:Nat) p,prs[j]?=some p->p.2.1=key j):
  ∀ i,i<=prs.length->KV (putAll (prs.take i)) (dpUp key vu i)
 | 0,_=>.nil
 | i+1,h=>by
  have ih:=kv_up hv hk i (by omega)
  have e:prs[i]?=some (prs[i]'(by omega)):=List.getElem?_eq_getElem (by omega)
  rw [List.take_add_one,e]
  show KV (putAll (prs.take i++[prs[i]])) (stored (dpUp key vu i) (key i) (vu i))
  rw [putAll_snoc,<- hk i _ e]
  exact ih.put _ (hv i _ e)
section
variable {X:Cx}
theorem call_dict_prs (hc:X.calm=true):CallR X (.type "dict") (fun xs H Q=>∃ (l:Addr) (prs:List (Addr × Key × V)),xs=[.ref l]/\H l=some (.lst (prs.map fun p=>V.ref p.1))/\(∀ p∈prs,H p.1=some (.tup [kV p.2.1,p.2.2]))/\∀ d,H d=none->Q (.ref d) (upd H d (.dK (putAll prs)))):=by
 intro pins s σ H xs us Q I r h
 obtain ⟨l,prs,rfl,hl,hp,q⟩:=h
 obtain ⟨u,rfl,ru⟩:=vals1 r
 obtain rfl:u=Value.ref l:=ru
 obtain ⟨hz,its,n0,rv,e⟩:=(show ObjOk X.prog X.w H s.heap l (.lst (prs.map fun p=>V.ref p.1)) from I.hok l _ hl)
 rw [List.length_map] at hz
 have hlen:=rv.length
 rw [List.length_map] at hlen
 have hT:∀ j,j < prs.length->∃ ku vu,∀ p,prs[j]?=some p->IsTup s.heap p.1 #[ku,vu]/\RelV (kV p.2.1) ku/\RelV p.2.2 vu:=fun j hj=>by
  have e1:prs[j]?=some (prs[j]'hj):=List.getElem?_eq_getElem hj
  obtain ⟨_,its2,r2,o,h1,h2,m,h3⟩:=(show ObjOk X.prog X.w H s.heap (prs[j]'hj).1 (.tup [kV (prs[j]'hj).2.1,(prs[j]'hj).2.2]) from I.hok _ _ (hp _ (List.getElem_mem hj)))
  obtain ⟨ku,vu,rfl,rk,rvv⟩:=vals2 r2
  refine ⟨ku,vu,fun p ep=>?_⟩
  rw [e1] at ep
  cases ep
  exact ⟨⟨o,h1,h2,m,h3⟩,rk,rvv⟩
 let ku:Nat->Value:=fun j=>if h:j < prs.length then Classical.choose (hT j h) else .none
 let vu:Nat->Value:=fun j=>if h:j < prs.length then Classical.choose (Classical.choose_spec (hT j h)) else .none
 have hT2:∀ (j:Nat) p,prs[j]?=some p->IsTup s.heap p.1 #[ku j,vu j]/\RelV (kV p.2.1) (ku j)/\RelV p.2.2 (vu j):=fun j p ep=>by
  have hj:j < prs.length:=(List.getElem?_eq_some_iff.mp ep).1
  have z:=Classical.choose_spec (Classical.choose_spec (hT j hj)) p ep
  have e1:ku j=Classical.choose (hT j hj):=dif_pos hj
  have e2:vu j=Classical.choose (Classical.choose_spec (hT j hj)):=dif_pos hj
  rw [e1,e2]
  exact z
 let ps:Nat->Addr:=fun j=>(prs[j]?.map (·.1)).getD 0
 let key:Nat->Key:=fun j=>(prs[j]?.map (·.2.1)).getD (Sum.inl 0)
 have hps:∀ (j:Nat) p,prs[j]?=some p->ps j=p.1:=fun j p ep=>by
  show (prs[j]?.map (·.1)).getD 0=_
  rw [ep];rfl
 have hkey:∀ (j:Nat) p,prs[j]?=some p->key j=p.2.1:=fun j p ep=>by
  show (prs[j]?.map (·.2.1)).getD _=_
  rw [ep];rfl
 have szE:its.toArray.size=prs.length:=by rw [List.size_toArray,hlen]
 refine dp_call (knd:=mixKind X.prog X.w) (I.ok.hd hc) e ps key ku vu (fun i v hv=>?_) (fun i hi=>?_) (fun i hi=>?_) (by omega) fun h' tk hd hk=>?_
 ·have hv':its[i]?=some v:=by simpa using hv
  have hi:i < its.length:=(List.getElem?_eq_some_iff.mp hv').1
  have e1:prs[i]?=some (prs[i]'(by omega)):=List.getElem?_eq_getElem (by omega)
  have e2:(prs.map fun p=>V.ref p.1)[i]?=some (V.ref (prs[i]'(by omega)).1):=by rw [List.getElem?_map,e1];rfl
  obtain ⟨u,hu,ru⟩:=rv.get e2
  rw [hv'] at hu
  cases hu
  rw [hps i _ e1]
  exact ru
 ·have hi':i < prs.length:=by omega
  have e1:prs[i]?=some (prs[i]'hi'):=List.getElem?_eq_getElem hi'
  rw [hkey i _ e1]
  exact kV_is (hT2 i _ e1).2.1
 ·have hi':i < prs.length:=by omega
  have e1:prs[i]?=some (prs[i]'hi'):=List.getElem?_eq_getElem hi'
  rw [hps i _ e1]
  exact (hT2 i _ e1).1
 ·rw [szE] at hd
  have kv:=kv_up (prs:=prs) (vu:=vu) (fun j p ep=>(hT2 j p ep).2.2) (key:=key) (fun j p ep=>(hkey j p ep).symm) prs.length (Nat.le_refl _)
  rw [List.take_length] at kv
  have hn:H s.heap.objs.size=none:=I.hok.fresh (Nat.le_refl _)
  exact ⟨.ref _,_,I.laid (a:=s.heap.objs.size) (o:=.dK (putAll prs)) (t':=tk) hk (Nat.le_refl _) (dk_new (Nat.le_trans (putAll_len prs) hz) (beq_eq_false_iff_ne.mpr (Ne.symm (Nat.ne_of_lt I.big))) kv hd),rfl,q _ hn⟩
end
end KS
namespace L2
open PySem PySem.Spec PyProof.Rows
section
variable {g:TG}{tt:TT}{te:TE}{σ:St}{Fin:List V->Hp->Prop}
theorem comp_list {K:PySem.W.Frag}{a:Addr}{xs:List V}{H:Hp}(Pv:Nat->List V->Hp->Prop)(h0:Pv 0 [] H)(hl:∀ i ys H,Pv i ys H->SqL K H a xs)(hn:xs.length < sizeLine)
  (hy:∀ i ys H,Pv i ys H->ys.length<=i)
  (hs:∀ i x ys H,xs[i]?=some x->Pv i ys H->g x σ H fun σ2 H2=>Ext σ σ2/\tt σ2 H2 fun b H3=>if b=true then te σ2 H3 fun y H4=>Pv (i+1) (ys++[y]) H4 else Pv (i+1) ys H3)
  (mg:∀ x σ H Q Q',(∀ σ' H',Q σ' H'->Q' σ' H')->g x σ H Q->g x σ H Q') (mt:∀ σ H Q Q',(∀ b H',Q b H'->Q' b H')->tt σ H Q->tt σ H Q') (me:∀ σ H Q Q',(∀ v H',Q v H'->Q' v H')->te σ H Q->te σ H Q')
  (hd:∀ ys H,Pv xs.length ys H->Fin ys H):cLoop (Itl K a) H σ g tt te Fin:=by
 refine ⟨fun i m ys H=>m=xs.length - i/\i<=xs.length/\Pv i ys H,⟨xs.length,by simp,Nat.zero_le _,h0⟩,?_⟩
 rintro i m ys H ⟨rfl,hi,p⟩
 have q:=hl i ys H p
 have hyl:=hy i ys H p
 refine ⟨by omega,?_⟩
 by_cases hlt:i < xs.length
 ·refine .inr ⟨⟨xs,xs[i],q,by simp [hlt]⟩,by omega,fun x H' y=>?_⟩
  obtain ⟨e,y⟩:=y
  subst e
  refine mg _ _ _ _ _ (fun σ2 H2 z=>⟨z.1,mt _ _ _ _ (fun b H3 z=>?_) z.2⟩) (hs i x ys _ (y xs q) p)
  cases b with
  | true=>exact me _ _ _ _ (fun y H4 z=>⟨xs.length - (i+1),by omega,rfl,hlt,z⟩) z
  | false=>exact ⟨xs.length - (i+1),by omega,rfl,hlt,z⟩
 ·have e:i=xs.length:=by omega
  subst e
  exact .inl ⟨⟨xs,q,Nat.le_refl _⟩,hd ys H p⟩
end
mutual
inductive DAt (H:Hp):PyData->V->Prop
 | non:DAt H .none .non
 | bl (b:Bool):DAt H (.bool b) (.bl b)
 | int (i:Int):DAt H (.int i) (.int i)
 | str (x:Str):DAt H (.str x) (.str x)
 | tup {a:Addr} {us:List V} {ds:List PyData}:H a=some (.tup us)->DAts H ds us->DAt H (.tuple ds) (.ref a)
 | lst {a:Addr} {us:List V} {ds:List PyData}:H a=some (.lst us)->DAts H ds us->DAt H (.list ds) (.ref a)
inductive DAts (H:Hp):List PyData->List V->Prop
 | nil:DAts H [] []
 | cons {d:PyData} {v:V} {ds:List PyData} {us:List V}:DAt H d v->DAts H ds us->DAts H (d::ds) (v::us)
end
mutual
theorem DAt.reads {P:Program}{w:World}{H:Hp}{h:Heap}(x:HOk P w H h):∀ {d:PyData} {v:V} {u:Value},DAt H d v->RelV v u->∃ as,Reads h u d as
 | _,_,_,.non,r=>by cases r;exact ⟨_,.none⟩
 | _,_,_,.bl b,r=>by cases r;exact ⟨_,.bool b⟩
 | _,_,_,.int i,r=>by obtain ⟨t,rfl⟩:=r;exact ⟨_,.int i t⟩
 | _,_,_,.str s,r=>by obtain ⟨t,rfl⟩:=r;exact ⟨_,.str s t⟩
 | _,_,_,.tup e q,r=>by
  cases r
  obtain ⟨_,its,rv,o,h1,h2,n,h3⟩:=(show ObjOk P w H h _ (.tup _) from x _ _ e)
  obtain ⟨as,ra⟩:=DAts.reads x q rv
  exact ⟨_,.tuple h1 h2 h3 ra⟩
 | _,_,_,.lst e q,r=>by
  cases r
  obtain ⟨_,its,n,rv,h1⟩:=(show ObjOk P w H h _ (.lst _) from x _ _ e)
  obtain ⟨as,ra⟩:=DAts.reads x q rv
  exact ⟨_,.list h1 rfl rfl ra⟩
theorem DAts.reads {P:Program}{w:World}{H:Hp}{h:Heap}(x:HOk P w H h):∀ {ds:List PyData} {vs:List V} {us:List Value},DAts H ds vs->Vals vs us->∃ as,ReadsAll h us ds as
 | _,_,_,.nil,.nil=>⟨_,.nil⟩
 | _,_,_,.cons q qs,.cons r rs=>by
  obtain ⟨as,ra⟩:=DAt.reads x q r
  obtain ⟨bs,rb⟩:=DAts.reads x qs rs
  exact ⟨_,.cons ra rb⟩
end
section
variable {X:Cx}
end
section
variable {X:Cx}
end
structure SGs (X:Cx)(tg:List Expr)(g:TGs):Prop where out:PGs X tg g
section
variable {X:Cx}{a b e:Expr}{es:List Expr}{ta tb:TE}{p1 p2 pos pos1 pos2:Pos}
theorem t_dnotin (hu:X.A.units+1 < cLine)(ha:SE X a ta)(hb:SE X b tb)(hm:behindInMarks .NotIn b=false:=by rfl):ST X (.Compare a [.NotIn] [b] pos) (tB (tDNotIn ta tb)):=⟨pt_cmp (pc_dnotin hu ha.out hb.out) hm⟩
theorem t_din (hu:X.A.units+1 < cLine)(ha:SE X a ta)(hb:SE X b tb)(hm:behindInMarks .In b=false:=by rfl):ST X (.Compare a [.In] [b] pos) (tB (tDIn ta tb)):=⟨pt_cmp (pc_din hu ha.out hb.out) hm⟩
theorem gs_nil:SGs X [] gNil:=⟨pgs_nil⟩
theorem gs_cons {t:TG}{u:TGs}(h1:SG X e t)(h2:SGs X es u)(hs:(assignEach (e::es) X.env).map (·.2)=assign e X.env::(assignEach es X.env).map (·.2):=by rfl):SGs X (e::es) (gCons t u):=⟨pgs_cons h1.out h2.out hs⟩
theorem g_tup {k:Nat}{t:TGs}{n:Nat}(hc:X.calm=true)(h:SGs X es t)(hn:(assignEach es X.env).length=n:=by rfl)(hst:(assignEach es X.env).findIdx? (·.1)=none:=by rfl):SG X (.Tuple es k pos) (gTup X.K n t):=⟨pg_tup hc h.out hn hst⟩
theorem s_comp {scope:Scope}{cl:List (Str × Addr)}{own fr:List Str}{js:List Nat}{elt iter tg:Expr}{ifs:List Expr}{g:TG}{tt:TT}{te:TE}{wi:TI}{i:Nat}{y:Str}{py spos:Pos}(hN:X.N.Nodup)(hy:X.N[i]?=some y)(hx:Loc X.env.scope y)(S:CompSc X scope cl own fr js)(hcalm:X.calm=true)(hi:SI X tg iter wi)
  (hg:∀ C s0 H0 ex,SG (X.cmp scope cl own fr C s0 H0 ex) tg g) (ht:∀ C s0 H0 ex,SF (X.cmp scope cl own fr C s0 H0 ex) ifs tt) (he:∀ C s0 H0 ex,SE (X.cmp scope cl own fr C s0 H0 ex) elt te)
  (hsw:swapsWith (.ListComp elt [⟨tg,iter,ifs,0⟩] scope pos) (some (.Name y py)) spos.line X.env=pure true:=by rfl)
  (hf:X.fn y=true\/X.env.scope.names.lookup y=some .local:=by first | exact .inl rfl | exact .inr rfl | assumption)
  (hs:∀ x,foldedSetIterable iter X.env x=pure x:=by intro _;rfl):SS X (.Assign [.Name y py] (.ListComp elt [⟨tg,iter,ifs,0⟩] scope pos) spos) (tCompS i own js wi g tt te) :=
 ⟨ps_comp hN hy hx S hcalm hi.out (fun C s0 H0 ex=>(hg C s0 H0 ex).out) (fun C s0 H0 ex=>(ht C s0 H0 ex).out) (fun C s0 H0 ex=>(he C s0 H0 ex).out) hsw hf hs⟩
end
end L2
namespace L2
open PySem PySem.Spec PyProof.Rows
section
variable {X:Cx}{pins:List (Addr × Obj)}{σ:St}{H:Hp}{s:Shared}{d:Addr}{o:Obj}{kvs:List (Key × V)}
theorem hok_swap {P:Program}{w:World}{h:Heap}{u u':HO}(x:HOk P w H h)(hd:H d=some u)(hm:∀ xs,u≠.tup xs)(ho:∀ y,u≠.own y)(hd':ObjOk P w (upd H d u') h d u'):HOk P w (upd H d u') h:=fun b v e=>by
 by_cases hb:b=d
 ·subst hb;rw [upd_same] at e;cases e;exact hd'
 ·rw [upd_ne hb] at e
  refine (x b v e).stay (fun _ _ _ q=>q) (fun c q=>?_) fun c xs q=>?_
  ·rw [upd_ne (fun z=>by rw [z,hd] at q;exact ho _ (Option.some.inj q))];exact q
  ·rw [upd_ne (fun z=>by rw [z,hd] at q;exact hm _ (Option.some.inj q))];exact q
theorem Inv.freeze (I:Inv X pins σ H s)(hd:H d=some (.dK kvs))(ho:s.heap.get? d=some o):Inv X pins σ (upd H d (.frz o (.dK kvs))) s:=by
 have ne:∀ b u,H b=some u->(u≠.dK kvs)->b≠d:=fun b u q n z=>by rw [z,hd] at q;exact n (Option.some.inj q).symm
 have:=I.un (t':=s.toks) (H':=upd H d (.frz o (.dK kvs))) (h':=s.heap) ⟨fun b v e _ _ _=>e,fun b v e _ _ _=>⟨v.slots,e⟩,fun b v e n _=>?_,fun b v e _=>⟨v,e⟩,fun b xs q=>?_,fun b v u q=>?_,fun b ps q=>⟨#[],?_⟩⟩ (hok_swap I.hok hd (fun _ z=>by cases z) (fun _ z=>by cases z) ⟨ho,?_⟩)
 ·exact this
 ·rw [upd_ne (fun z=>by rw [z,hd] at n;cases n)];exact n
 ·rw [upd_ne (ne b _ q (fun z=>by cases z))];exact q
 ·rw [upd_ne (ne b _ q (fun z=>by cases z))];exact q
 ·rw [upd_ne (ne b _ q (fun z=>by cases z)),q];simp
 ·exact I.hok d _ hd
theorem Inv.thaw (I:Inv X pins σ H s)(hd:H d=some (.frz o (.dK kvs)))(h0:∀ o' u,X.H₀ d≠some (.frz o' u)):Inv X pins σ (upd H d (.dK kvs)) s:=by
 have ne:∀ b u,H b=some u->(u≠.frz o (.dK kvs))->b≠d:=fun b u q n z=>by rw [z,hd] at q;exact n (Option.some.inj q).symm
 have nn:∀ b,H b=none->b≠d:=fun b n z=>by rw [z,hd] at n;cases n
 obtain ⟨ok,os,bare,base,loc,cell,free,freeC,pin,hok,len⟩:=I
 refine ⟨ok,os,bare,⟨base.keep,base.slot,fun b v e n hx=>?_,base.there,fun b xs q=>?_,fun b v u q=>?_,fun b ps q=>?_⟩,loc,cell,?_,fun x c e=>?_,fun p hp=>?_,hok_swap hok hd (fun _ z=>by cases z) (fun _ z=>by cases z) (hok d _ hd).2,len⟩
 ·have:=base.free b v e n hx
  rw [upd_ne (nn b this)];exact this
 ·have:=base.tups b xs q
  rw [upd_ne (ne b _ this (fun z=>by cases z))];exact this
 ·have:=base.frzs b v u q
  rw [upd_ne (fun z=>h0 v u (by rw [<- z];exact q))];exact this
 ·obtain ⟨more,this⟩:=base.tbls b ps q
  exact ⟨more,by rw [upd_ne (ne b _ this (fun z=>by cases z))];exact this⟩
 ·rw [upd_ne (nn _ free)];exact free
 ·rw [upd_ne (nn _ (freeC x c e))];exact freeC x c e
 ·obtain ⟨e,n,r⟩:=pin p hp
  exact ⟨e,by rw [upd_ne (nn _ n)];exact n,r⟩
theorem Inv.dictAt (I:Inv X pins σ H s)(hd:H d=some (.frz o (.dK kvs))){es:Array DictEntry}{ep:Nat}(he:o.data=.dict es ep):∃ vs,KV kvs vs/\s.heap.DictAt (mixKind X.prog X.w) d vs ep:=by
 obtain ⟨h1,_,_,vs,r,o',es',ep',e1,e2,e3,e4⟩:=I.hok d _ hd
 rw [h1] at e1
 cases e1
 rw [he] at e3
 cases e3
 exact ⟨vs,r,o,es,h1,e2,he,e4⟩
end
def ItD (o:Obj)(d:Addr)(kvs:List (Key × V)):It :=
 ⟨fun i H=>H d=some (.frz o (.dK kvs))/\i < kvs.length,fun i H x H'=>H'=H/\∃ p,kvs[i]?=some p/\x=kV p.1,fun i H=>H d=some (.frz o (.dK kvs))/\kvs.length<=i⟩
theorem relV_key {P:Program}{w:World}{k:Key}{v:Value}(h:(mixKind P w).is k v=true):RelV (kV k) v:=by
 rcases keyIs_shape (show keyIs k v=true from h) with ⟨i,t,rfl,rfl⟩ | ⟨x,t,rfl,rfl⟩
 ·exact ⟨t,rfl⟩
 ·exact ⟨t,rfl⟩
theorem KV.at {kvs:List (Key × V)}{vs:List (Key × Value)}(r:KV kvs vs){i:Nat}{p:Key × V}(h:kvs[i]?=some p):∃ v,vs[i]?=some (p.1,v)/\RelV p.2 v:=by
 induction r generalizing i with
 | nil=>simp at h
 | cons h1 h2 ih =>
  cases i with
  | zero =>
   simp at h
   subst h
   rename_i b _ _
   obtain ⟨b1,b2⟩:=b
   obtain ⟨e,q⟩:=h1
   exact ⟨b2,by simp at e ⊢;exact e.symm,q⟩
  | succ i =>
   simp at h
   obtain ⟨v,e,q⟩:=ih h
   exact ⟨v,by simpa using e,q⟩
theorem turn_dict {P:Program}{w:World}{K:PySem.W.Frag}{tg:Expr}{o:Obj}{d it:Addr}{kvs:List (Key × V)}{es:Array DictEntry}{ep:Nat}(he:o.data=.dict es ep):Turn P w K tg (ItD o d kvs) [it] it (fun i h=>h.IsKeyIter it d i kvs.length ep) where
 mem:=by simp
 obj:=fun i h st b hb=>by
  have e:b=it:=by simpa using hb
  subst e
  obtain ⟨o,e,c,d⟩:=st
  exact ⟨o,e,fun v z=>by rw [d] at z;cases z⟩
 keep:=fun i h h' st k=>st.at fun o e=>k it (by simp) o e
 item:=by
  intro X hP hw hK hc i pins s σ H E I hf st hg
  subst hP hw hK
  obtain ⟨hd,hi⟩:=hg
  obtain ⟨vs,r,ha⟩:=I.dictAt hd he
  obtain ⟨f0,f1,f2,f3,f4,f5⟩:=hf it (by simp)
  have hl:=r.length
  have hx:kvs[i]?=some kvs[i]:=List.getElem?_eq_getElem hi
  obtain ⟨v,hv,rv⟩:=r.at hx
  rw [hl] at st
  refine wpAny_pyNext_dict_item st ha hv fun key h' hk st' sb=>?_
  rw [<- hl] at st'
  have I1:Inv X pins σ H { s with heap:=h' }:=I.turned (t':=s.toks) (fun b o hb e=>(sb.2 b hb).trans e) f0 f1 f3 f4 f5
  obtain ⟨o',e,c,dd⟩:=id st'
  exact ⟨key,rfl,go_of (s:={ s with heap:=h' }) e c dd (by decide) ⟨kV kvs[i].1,H,I1,relV_key hk,⟨rfl,_,hx,rfl⟩,st',fun b hb=>(hf b hb).1⟩⟩
 done:=by
  intro X hP hw hK hc i pins s σ H E I hf st hg
  subst hP hw hK
  obtain ⟨hd,hi⟩:=hg
  obtain ⟨vs,r,ha⟩:=I.dictAt hd he
  obtain ⟨f0,f1,f2,f3,f4,f5⟩:=hf it (by simp)
  have hl:=r.length
  rw [hl] at st
  exact wpAny_pyNext_dict_end (I.ok.hd hc) st ha (by rw [List.getElem?_eq_none_iff];omega) fun h' eb=>⟨rfl,I.turned (t':=s.toks) (fun b o hb e=>eb b o hb e) f0 f1 f3 f4 f5⟩
 self:=fun _ _ _ _ _ st h=>wpAny_pyIter_keyiter st h
section
variable {X:Cx}{tg:Expr}
def iDict (te:TE):TI:=fun σ H R=>te σ H fun x H1=>∃ d kvs,x=.ref d/\((H1 d=some (.dK kvs)/\∀ o,R (ItD o d kvs) (upd H1 d (.frz o (.dK kvs))))\/∃ o,H1 d=some (.frz o (.dK kvs))/\R (ItD o d kvs) H1)
theorem pi_dict {l:Expr}{te:TE}(hl:PE X l te):PI X tg l (iDict te):=by
 intro pins s σ H R I h
 refine thn (hl pins s σ H _ I h) fun v s1 ⟨x,H1,I1,r1,q1⟩=>?_
 obtain ⟨d,kvs,e,q⟩:=q1
 subst e
 cases r1
 have main:∀ (H2:Hp) (o:Obj),Inv X pins σ H2 s1->H2 d=some (.frz o (.dK kvs))->R (ItD o d kvs) H2->wpAny (model X.prog X.w) X.A (pyIter (.ref d)) (PIE X pins σ tg R) X.xe s1:=by
  intro H2 o I2 hd q
  obtain ⟨h1,_,hs,vs,r,o',es,ep,e1,e2,e3,e4⟩:=id (I2.hok d _ hd)
  rw [h1] at e1
  cases e1
  obtain ⟨vs,r,ha⟩:=I2.dictAt hd e3
  refine wpAny_pyIter_dict hs ha ?_
  refine ⟨s1.heap.objs.size,[s1.heap.objs.size],_,_,H2,rfl,I2.kept (t':=s1.toks) fun b o e=>Heap.get?_push_of_some _ e,turn_dict e3,⟨_,Heap.get?_push_size _ rfl,rfl,?_⟩,fun b hb=>?_,q⟩
  ·show Data.fields _=Data.fields _
   rw [r.length]
   rfl
  ·have e:b=s1.heap.objs.size:=by simpa using hb
   subst e
   exact I2.fpOk (Nat.le_refl _) (I2.hok.fresh (Nat.le_refl _))
 rcases q with ⟨hd,q⟩ | ⟨o,hd,q⟩
 ·obtain ⟨_,_,vs,r,o,es,ep,e1,e2,e3,e4⟩:=id (I1.hok d _ hd)
  exact main _ o (I1.freeze hd e1) upd_same (q o)
 ·exact main H1 o I1 hd q
theorem i_dict {l:Expr}{te:TE}(hl:SE X l te):SI X tg l (iDict te):=⟨pi_dict hl.out⟩
end
theorem for_dict {o:Obj}{d:Addr}{kvs:List (Key × V)}{g:TG}{tb:TS}{D:Ends}{σ:St}{H:Hp}(Pv:Nat->St->Hp->Prop)(h0:Pv 0 σ H)(hl:∀ i σ H,i<=kvs.length->Pv i σ H->H d=some (.frz o (.dK kvs)))
  (hs:∀ i p σ H,kvs[i]?=some p->Pv i σ H->g (kV p.1) σ H fun σ2 H2=>tb { D with nx:=Pv (i+1),ct:=Pv (i+1),bk:=D.nx } σ2 H2) (hd:∀ σ H,Pv kvs.length σ H->D.nx σ H) :
  ∃ W:Nat->Nat->St->Hp->Prop,(∃ m,W 0 m σ H)/\∀ i m σ H,W i m σ H ->
   ((ItD o d kvs).stop i H/\D.nx σ H)\/((ItD o d kvs).go i H/\∃ N:St->Hp->Prop,(∀ σ' H',N σ' H'->∃ m',m' < m/\W (i+1) m' σ' H')/\∀ x H',(ItD o d kvs).yld i H x H'->g x σ H' fun σ2 H2=>tb { D with nx:=N,ct:=N,bk:=D.nx } σ2 H2):=by
 refine ⟨fun i m σ H=>m=kvs.length - i/\i<=kvs.length/\Pv i σ H,⟨kvs.length,by simp,Nat.zero_le _,h0⟩,?_⟩
 rintro i m σ H ⟨rfl,hi,p⟩
 have q:=hl i σ H hi p
 by_cases hlt:i < kvs.length
 ·refine .inr ⟨⟨q,hlt⟩,Pv (i+1),fun σ' H' p'=>⟨kvs.length - (i+1),by omega,rfl,hlt,p'⟩,fun x H' y=>?_⟩
  obtain ⟨e,p',hp,e2⟩:=y
  subst e e2
  exact hs i p' σ _ hp p
 ·obtain rfl:i=kvs.length:=by omega
  exact .inl ⟨⟨q,Nat.le_refl _⟩,hd σ H p⟩
section
variable {σ:St}{g:TG}{tt:TT}{te:TE}{Fin:List V->Hp->Prop}
theorem comp_dict {o:Obj}{d:Addr}{kvs:List (Key × V)}{H:Hp}(Pv:Nat->List V->Hp->Prop)(h0:Pv 0 [] H)(hl:∀ i ys H,Pv i ys H->H d=some (.frz o (.dK kvs)))(hn:kvs.length < sizeLine)
  (hy:∀ i ys H,Pv i ys H->ys.length<=i)
  (hs:∀ i p ys H,kvs[i]?=some p->Pv i ys H->g (kV p.1) σ H fun σ2 H2=>Ext σ σ2/\tt σ2 H2 fun b H3=>if b=true then te σ2 H3 fun y H4=>Pv (i+1) (ys++[y]) H4 else Pv (i+1) ys H3)
  (mg:∀ x σ H Q Q',(∀ σ' H',Q σ' H'->Q' σ' H')->g x σ H Q->g x σ H Q') (mt:∀ σ H Q Q',(∀ b H',Q b H'->Q' b H')->tt σ H Q->tt σ H Q') (me:∀ σ H Q Q',(∀ v H',Q v H'->Q' v H')->te σ H Q->te σ H Q')
  (hd:∀ ys H,Pv kvs.length ys H->Fin ys H):cLoop (ItD o d kvs) H σ g tt te Fin:=by
 refine ⟨fun i m ys H=>m=kvs.length - i/\i<=kvs.length/\Pv i ys H,⟨kvs.length,by simp,Nat.zero_le _,h0⟩,?_⟩
 rintro i m ys H ⟨rfl,hi,p⟩
 have q:=hl i ys H p
 have hyl:=hy i ys H p
 refine ⟨by omega,?_⟩
 by_cases hlt:i < kvs.length
 ·refine .inr ⟨⟨q,hlt⟩,by omega,fun x H' y=>?_⟩
  obtain ⟨e,p',hp,e2⟩:=y
  subst e e2
  refine mg _ _ _ _ _ (fun σ2 H2 z=>⟨z.1,mt _ _ _ _ (fun b H3 z=>?_) z.2⟩) (hs i p' ys _ hp p)
  cases b with
  | true=>exact me _ _ _ _ (fun y H4 z=>⟨kvs.length - (i+1),by omega,rfl,hlt,z⟩) z
  | false=>exact ⟨kvs.length - (i+1),by omega,rfl,hlt,z⟩
 ·have e:i=kvs.length:=by omega
  subst e
  exact .inl ⟨⟨q,Nat.le_refl _⟩,hd ys H p⟩
end
section
variable {X:Cx}
theorem any_bools:∀ (bs:List Bool),((List.range bs.length).any fun i=>bs.getD i true)=bs.any id:=by
 intro bs
 rw [Bool.eq_iff_iff]
 simp only [List.any_eq_true,List.mem_range,id]
 constructor
 ·rintro ⟨i,hi,h⟩
  refine ⟨bs[i],List.getElem_mem hi,?_⟩
  simpa [List.getD,List.getElem?_eq_getElem hi] using h
 ·rintro ⟨b,hb,h⟩
  obtain ⟨i,hi,e⟩:=List.mem_iff_getElem.mp hb
  exact ⟨i,hi,by simpa [List.getD,List.getElem?_eq_getElem hi,e] using h⟩
theorem call_anyB (hc:X.calm=true):CallR X (.builtin "any") (fun xs H Q=>∃ (l:Addr) (bs:List Bool),xs=[.ref l]/\H l=some (.lst (bs.map V.bl))/\Q (.bl (bs.any id)) H):=by
 intro pins s σ H xs us Q I r h
 obtain ⟨l,bs,rfl,hl,q⟩:=h
 obtain ⟨u,rfl,ru⟩:=vals1 r
 obtain rfl:u=Value.ref l:=ru
 obtain ⟨hz,its,n,rv,e⟩:=(show ObjOk X.prog X.w H s.heap l (.lst (bs.map V.bl)) from I.hok l _ hl)
 have hlen:=rv.length
 rw [List.length_map] at hlen
 have hL:s.heap.IsList l its.toArray:=⟨_,e,rfl,n,rfl⟩
 have hlt:l < s.heap.objs.size:=Heap.lt_size e
 have hh:X.A.in1.handled=none:=I.ok.hd hc
 refine call_any_walk (wpAny_pyIter_list hL ?_)
 refine ⟨s.heap.objs.size,_,_,its.toArray.size,_,_,fun i=>bs.getD i true,rfl,Walks.list hh s.heap.objs.size l (Nat.ne_of_lt hlt) its.toArray,⟨⟨_,Heap.get?_push_size _ rfl,rfl,rfl⟩,⟨_,Heap.get?_push_of_some _ e,rfl,n,rfl⟩⟩,?_,fun h' tk hk=>?_⟩
 ·intro i v s' Q' E' hv hq
  have hv':its[i]?=some v:=by simpa using hv
  have hi:i < its.length:=(List.getElem?_eq_some_iff.mp hv').1
  have hb:(bs.map V.bl)[i]?=some (V.bl (bs[i]'(by omega))):=by rw [List.getElem?_map,List.getElem?_eq_getElem (by omega)];rfl
  obtain ⟨u,hu,ru⟩:=rv.get hb
  rw [hv'] at hu
  cases hu
  obtain rfl:v=Value.bool (bs[i]'(by omega)):=ru
  refine wpAny_truthy_bool ?_
  have e1:bs.getD i true=bs[i]'(by omega):=by simp [List.getD,List.getElem?_eq_getElem (show i < bs.length by omega)]
  rw [<- e1]
  exact hq
 ·have I1:Inv X pins σ H { s with heap:=h',toks:=tk }:=I.kept fun b o z=>hk b o (fun y=>absurd (List.mem_singleton.mp y) (Nat.ne_of_lt (Heap.lt_size z))) (Heap.get?_push_of_some _ z)
  refine fin_bl I1 q ?_
  rw [List.size_toArray,<- hlen]
  exact (any_bools bs).symm
variable {a b o i value e:Expr}{ta tb td ty tv:TE}{pos pos':Pos}{f:Str}
theorem e_din (hu:X.A.units+1 < cLine)(hi:SE X i ty)(ho:SE X o td)(h1:behindInMarks .In o=false:=by first | exact nobehind _ (by decide) (by decide) | rfl):SE X (.Compare i [.In] [o] pos) (tDIn ty td):=⟨pe_cmp (pc_din hu hi.out ho.out) h1⟩
theorem e_fld (he:SE X e ta)(hb:attributeBase e f X.env (eval e X.env)=eval e X.env:=by rfl):SE X (.Attribute e f pos) (tFld X.K ta f):=⟨pe_fld he.out hb⟩
theorem s_fld (ha:SE X o ta)(hv:SE X value tv)(hs:swapsWith value (some (.Attribute o f pos')) pos.line X.env=pure false:=by rfl):SS X (.Assign [.Attribute o f pos'] value pos) (sFld X.K ta tv f):=⟨ps_fld ha.out hv.out hs⟩
end
def Thaw (H₀:Hp)(Q:Hp->Prop)(H:Hp):Prop:=Q H\/∃ d o kvs,H d=some (.frz o (.dK kvs))/\(∀ o' u,H₀ d≠some (.frz o' u))/\Q (upd H d (.dK kvs))
section
variable {X:Cx}{e:Expr}{te:TE}{st:Stmt}{ts:TS}
theorem s_thaw (h:SS X st ts):SS X st (fun D σ H=>ts { D with nx:=fun σ' H'=>Thaw X.H₀ (D.nx σ') H' } σ H):=⟨fun pins s σ H D I hw=>thn (h.out pins s σ H _ I hw) fun f s1 q=>by
 cases f with
 | next =>
  obtain ⟨σ1,H1,I1,q⟩:=q
  rcases q with q | ⟨d,o,kvs,hd,h0,q⟩
  ·exact ⟨σ1,H1,I1,q⟩
  ·exact ⟨σ1,_,I1.thaw hd h0,q⟩
 | brk=>exact q
 | cont=>exact q
 | ret u=>exact q⟩
end
theorem if_joinX {c:TT}{ta tb tu:TS}{D:Ends}{σ:St}{H:Hp}(P:St->Hp->Prop)(tail:∀ σ' H',P σ' H'->tu D σ' H')(h:(∀ σ' H',P σ' H'->tu D σ' H')->tSeq (tIfS c ta tb) tu D σ H):tSeq (tIfS c ta tb) tu D σ H:=h tail
theorem putK_old {kvs:List (Key × V)}{k:Key}{v u:V}(h:valV kvs k=some u):(putK kvs k v).map (·.1)=kvs.map (·.1):=by
 unfold putK
 rw [valV_any,h]
 rw [if_pos (show (some u).isSome=true from rfl),List.map_map]
 refine List.map_congr_left fun p _=>?_
 show (if p.1=k then (p.1,v) else p).1=p.1
 by_cases e:p.1=k
 ·rw [if_pos e]
 ·rw [if_neg e]
section
variable {X:Cx}{pos:Pos}
theorem s_par {i j:Nat}{x y:Str}{a b:Expr}{ta:TA}{px py pt:Pos}{kt k2 pt2}(hc:X.calm=true)(hN:X.N.Nodup)(hi:X.N[i]?=some x)(hj:X.N[j]?=some y)(hij:i≠j)
  (hx:X.env.scope.names.lookup x=some .local) (hy:X.env.scope.names.lookup y=some .local) (ha:SA X [a,b] ta)
  (hw:swappedStores [.Tuple [.Name x px,.Name y py] kt pt] (.Tuple [a,b] k2 pt2) X.env=pure (some [x,y]):=by rfl)
  (hs:swapsWithSole [.Tuple [.Name x px,.Name y py] kt pt] (.Tuple [a,b] k2 pt2) pos.line X.env=pure false:=by rfl) :
  SS X (.Assign [.Tuple [.Name x px,.Name y py] kt pt] (.Tuple [a,b] k2 pt2) pos) (tPar i j ta):=⟨ps_par hc hN hi hj hij hx hy ha.out hw hs⟩
end
theorem putK_len (kvs:List (Key × V))(k:Key)(v:V):(putK kvs k v).length<=kvs.length+1/\kvs.length<=(putK kvs k v).length:=by
 cases e:valV kvs k with
 | none=>rw [putK_new _ e,List.length_append];simp
 | some u =>
  have:=congrArg List.length (putK_old (v:=v) e)
  simp at this
  omega
section
variable {X:Cx}{pos:Pos}{tg e o i:Expr}{te to ti:TE}{g:TG}{t:TSet}
theorem s_asg (he:SE X e te)(hg:SG X tg g)(hs:swapsWithSole [tg] e pos.line X.env=pure false:=by rfl)(hw:swappedStores [tg] e X.env=pure none:=by rfl)
  (h1:(assignEach [tg] X.env).map (·.2)=[assign tg X.env]:=by rfl):SS X (.Assign [tg] e pos) (tAsg te g):=⟨ps_asg he.out hg.out hs hw h1⟩
theorem g_sub (ho:SE X o to)(hi:SE X i ti)(hs:PSet X t)
  (ha:∀ v,assign (.Subscript o i pos) X.env v=(do
   let ov <- holding [v] (eval o X.env)
   let iv <- holding [v,ov] (eval i X.env)
   standAt pos
   holding [v,ov,iv] (setItem ov iv v)
   release [v,ov,iv] []):=by intro _;rfl):SG X (.Subscript o i pos) (gSub to ti t):=⟨pg_sub ho.out hi.out hs ha⟩
theorem s_continue:SS X (.Continue pos) tCont:=⟨ps_continue⟩
theorem e_make0 {C f:Addr}{k:Nat}{fd:FuncData}{ps:List Str}{sp:Sp}{x:Str}{p:Pos}(M:Mk X.K C f)(F:FnOk X.prog X.w X.K X.mg X.base CX0 k f fd ps sp)(hr:Room (k+1) X.A)(hg:Gl X x)(hm:X.mg x=some (.ref C))(hb:Binds X.K fd ps [])
  (hdb:(x==("__debug__":Str))=false:=by decide):SE X (.Call (.Name x p) [] [] pos) (tMake C sp [] E0 tNil):=⟨pe_make0 M F hr hg hm hb .nil pass0 hdb⟩
end
theorem ixN_nat {n j:Nat}(h:j < n):ixN n (j:Int)=some j:=by
 have:=atI_nat (xs:=List.range n) (j:=j) (v:=j) (by simp [h])
 unfold atI at this
 rw [List.length_range] at this
 cases e:ixN n (j:Int) with
 | none=>rw [e] at this;cases this
 | some i =>
  rw [e] at this
  have this:(List.range n)[i]?=some j:=this
  obtain ⟨h1,h2⟩:=List.getElem?_eq_some_iff.mp this
  rw [List.getElem_range] at h2
  rw [h2]
end L2
namespace PySem
def ItB (tu:Bool)(h:Heap)(i l:Addr)(k:Nat):Prop:=if tu=true then h.IsTupleIter i l k else h.IsListIter i l k
def SqB (tu:Bool)(h:Heap)(l:Addr)(xs:Array Value):Prop:=if tu=true then h.IsTuple l xs else h.IsList l xs
section
variable {tu:Bool}{h h':Heap}{i l c:Addr}{k:Nat}{xs:Array Value}
theorem ItB.at (x:ItB tu h i l k)(e:∀ o,h.get? i=some o->h'.get? i=some o):ItB tu h' i l k:=by
 cases tu with
 | false=>exact Heap.IsListIter.at (h:=h) x e
 | true=>exact Heap.IsTupleIter.at (h:=h) x e
theorem SqB.at (x:SqB tu h l xs)(e:∀ o,h.get? l=some o->h'.get? l=some o):SqB tu h' l xs:=by
 cases tu with
 | false=>exact Heap.IsList.at (h:=h) x e
 | true =>
  have x:h.IsTuple l xs:=x
  obtain ⟨o,ho,r⟩:=x
  exact (show h'.IsTuple l xs from ⟨o,e o ho,r⟩)
theorem ItB.extBut (x:ItB tu h i l k)(hs:Heap.ExtBut c h h')(n:i≠c):ItB tu h' i l k:=x.at fun o e=>hs i o n e
theorem SqB.extBut (x:SqB tu h l xs)(hs:Heap.ExtBut c h h')(n:l≠c):SqB tu h' l xs:=x.at fun o e=>hs l o n e
theorem ItB.ex (x:ItB tu h i l k):∃ o,h.get? i=some o:=by
 cases tu with
 | false =>
  have x:h.IsListIter i l k:=x
  obtain ⟨o,e,_⟩:=x
  exact ⟨o,e⟩
 | true =>
  have x:h.IsTupleIter i l k:=x
  obtain ⟨o,e,_⟩:=x
  exact ⟨o,e⟩
theorem SqB.ex (x:SqB tu h l xs):∃ o,h.get? l=some o:=by
 cases tu with
 | false =>
  have x:h.IsList l xs:=x
  obtain ⟨o,e,_⟩:=x
  exact ⟨o,e⟩
 | true =>
  have x:h.IsTuple l xs:=x
  obtain ⟨o,e,_⟩:=x
  exact ⟨o,e⟩
end
section
variable {prog:Program}{w:World}{A:Around}{E:Value->Shared->Prop}{s:Shared}{tu:Bool}{it l:Addr}{i:Nat}{xs:Array Value}
theorem nx_item {x:Value}{Q:Value->Shared->Prop}(hit:ItB tu s.heap it l i)(hl:SqB tu s.heap l xs)(hx:xs[i]?=some x)
  (hQ:∀ h',ItB tu h' it l (i+1)->Heap.SameBut it s.heap h'->Q x { s with heap:=h' }):wpAny (model prog w) A (Builtin.SmallTypes.nextOf (.ref it)) Q E s:=by
 cases tu with
 | false=>exact wpAny_nextOf_list_item hit hl hx hQ
 | true =>
  have hit:s.heap.IsTupleIter it l i:=hit
  have hl:s.heap.IsTuple l xs:=hl
  have ty:=hit.typeIs
  obtain ⟨o,ho,hc,hd⟩:=hit
  obtain ⟨ol,hol,_,nl,hdl⟩:=hl
  unfold Builtin.SmallTypes.nextOf
  refine wpAny_bind (wpAny_callSpecial?_slot (name:=Str.ofString "__next__") ty F.slot_tuple_iterator_next (wpAny_call_entry F.slot_tuple_iterator_next ty F.entry_tuple_iterator_next ?_ (F.args_tuple_iterator_next_1 _)))
  show wpAny (model prog w) _ (field (Value.ref it) 0 >>= _) _ _ _
  refine wpAny_bind (wpAny_field ho hd (x:=.ref l) rfl ?_)
  show wpAny (model prog w) _ (if (Value.ref l==.none)=true then _ else _) _ _ _
  rw [if_neg (show ¬ (Value.ref l==.none)=true from Bool.false_ne_true)]
  show wpAny (model prog w) _ (field (Value.ref it) 1 >>= _) _ _ _
  refine wpAny_bind (wpAny_field ho hd (x:=.int i 0) rfl ?_)
  show wpAny (model prog w) _ (seqItems? (Value.ref l) >>= _) _ _ _
  refine wpAny_bind (wpAny_seqItems hol hdl ?_)
  simp only [Int.toNat_natCast,hx]
  refine wpAny_bind (wpAny_setField ho hd (by simp) (wpAny_pure ⟨x,rfl,wpAny_pure (hQ _ (show Heap.IsTupleIter _ it l (i+1) from ?_) (Heap.SameBut.update ..))⟩))
  refine ⟨_,Heap.get?_update_self _ ho (Obj.isFreed_of_fields (Obj.data_mapFields hd _)),(Obj.cls_mapFields ..).trans hc,?_⟩
  rw [Obj.data_mapFields hd]
  simp [rawInt]
theorem nx_end {Q:Value->Shared->Prop}(hh:A.handled=none)(hit:ItB tu s.heap it l i)(hl:SqB tu s.heap l xs)(hx:xs[i]?=none)
  (hE:∀ h' e,Heap.ExtBut it s.heap h'->(∃ o,h'.get? e=some o/\o.cls=.type "StopIteration")->E (.ref e) { s with heap:=h' }):wpAny (model prog w) A (Builtin.SmallTypes.nextOf (.ref it)) Q E s:=by
 cases tu with
 | false=>exact wpAny_nextOf_list_end hh hit hl hx hE
 | true =>
  have hit:s.heap.IsTupleIter it l i:=hit
  have hl:s.heap.IsTuple l xs:=hl
  have ty:=hit.typeIs
  obtain ⟨o,ho,hc,hd⟩:=hit
  obtain ⟨ol,hol,_,nl,hdl⟩:=hl
  unfold Builtin.SmallTypes.nextOf
  refine wpAny_bind (wpAny_callSpecial?_slot (name:=Str.ofString "__next__") ty F.slot_tuple_iterator_next (wpAny_call_entry F.slot_tuple_iterator_next ty F.entry_tuple_iterator_next ?_ (F.args_tuple_iterator_next_1 _)))
  show wpAny (model prog w) _ (field (Value.ref it) 0 >>= _) _ _ _
  refine wpAny_bind (wpAny_field ho hd (x:=.ref l) rfl ?_)
  show wpAny (model prog w) _ (if (Value.ref l==.none)=true then _ else _) _ _ _
  rw [if_neg (show ¬ (Value.ref l==.none)=true from Bool.false_ne_true)]
  show wpAny (model prog w) _ (field (Value.ref it) 1 >>= _) _ _ _
  refine wpAny_bind (wpAny_field ho hd (x:=.int i 0) rfl ?_)
  show wpAny (model prog w) _ (seqItems? (Value.ref l) >>= _) _ _ _
  refine wpAny_bind (wpAny_seqItems hol hdl ?_)
  simp only [Int.toNat_natCast,hx]
  refine wpAny_bind (wpAny_rule (wpAny_bind (wpAny_setField ho hd (by simp) ?_)))
  show wpAny (model prog w) _ (newExc (.type "StopIteration") [] >>= _) _ _ _
  refine wpAny_bind ?_
  simp only [newExc,newTuple]
  refine wpAny_bind (wpAny_newObj_type ?_ (by size_fits))
  refine wpAny_bind (m:=firstArgMember _ _) (wpAny_of_eq (a:=Value.none) (by first | rfl | (simp only [firstArgMember];rfl)) ?_)
  refine wpAny_newObj_type ?_ (by size_fits)
  simp only [raiseNew]
  refine wpAny_bind (wpAny_handled ?_)
  first | rw [show A.in1.handled=none from hh] | rw [hh]
  refine wpAny_bind (wpAny_pure (wpAny_throw ?_))
  exact hE _ _ (((Heap.SameBut.update ..).extBut.push _).push _) ⟨_,Heap.get?_push_size _ rfl,rfl⟩
end
theorem wpAny_alive {M:Model}{A:Around}{a:Addr}{Q:Option Obj->Shared->Prop}{E:Value->Shared->Prop}{s:Shared}(h:Q (s.heap.get? a) s):wpAny M A (loadIfAlive a) Q E s:=by
 intro Γ p _
 show Sem.wp M Γ (.loadIfAlive a .pure) _ _ p s
 rw [Sem.wp_loadIfAlive]
 simpa using h
abbrev IsZipB (h:Heap)(z TI TO:Addr)(f0 f1:Value):Prop :=
 h.get? z=some { cls:=.type "zip",dict:=none,data:=.fields #[f0,f1,.bool false,.ref TI,.ref TO],slots:=#[] }
section
variable {prog:Program}{w:World}{A:Around}{E:Value->Shared->Prop}{s:Shared}
theorem zb_notFree {z TI TO T:Addr}{b:Bool}{oT:Obj}{Q:Bool->Shared->Prop}(hz:IsZipB s.heap z TI TO (rawInt T) (.bool b))(hT:s.heap.get? T=some oT)
  (hQ:∀ h',IsZipB h' z TI TO (rawInt T) (.bool true)->Heap.SameBut z s.heap h'->Q false { s with heap:=h' }):wpAny (model prog w) A (Builtin.SmallTypes.ownedTupleIsFree (.ref z)) Q E s:=by
 unfold Builtin.SmallTypes.ownedTupleIsFree
 refine wpAny_bind (wpAny_field hz rfl (x:=rawInt T) rfl ?_)
 show wpAny _ _ (loadIfAlive (T:Int).toNat >>= _) _ _ _
 refine wpAny_bind (wpAny_alive ?_)
 rw [Int.toNat_natCast,hT]
 show wpAny _ _ (field (.ref z) 1 >>= _) _ _ _
 refine wpAny_bind (wpAny_field hz rfl (x:=.bool b) rfl ?_)
 cases b with
 | true =>
  show wpAny _ _ (pure false) _ _ _
  exact wpAny_pure (hQ _ hz (Heap.SameBut.refl _ _))
 | false =>
  show wpAny _ _ (setField (.ref z) 1 (.bool true) >>= fun _=>pure false) _ _ _
  refine wpAny_bind (wpAny_setField_rec hz (by simp) fun h₁ hz₁ hs₁=>wpAny_pure (hQ _ hz₁ hs₁))
theorem zb_item {tu:Bool}{z TI TO i1 i2 l1 l2 T:Addr}{b0:Bool}{oT:Obj}{k1 k2:Nat}{xs ys:Array Value}{x y a b:Value}{Q:Value->Shared->Prop}(D:ZipApart z TI TO i1 i2 l1 l2)
  (hz:IsZipB s.heap z TI TO (rawInt T) (.bool b0)) (hT:s.heap.get? T=some oT) (hTI:IsPair s.heap TI (.ref i1) (.ref i2))
  (h1:ItB tu s.heap i1 l1 k1) (h2:ItB tu s.heap i2 l2 k2) (hl1:SqB tu s.heap l1 xs) (hl2:SqB tu s.heap l2 ys) (hx:xs[k1]?=some x) (hy:ys[k2]?=some y)
  (hQ:∀ h',IsZipB h' z TI TO (rawInt T) (.bool true)->ItB tu h' i1 l1 (k1+1)->ItB tu h' i2 l2 (k2+1)->IsPair h' s.heap.objs.size x y->h'.objs.size=s.heap.objs.size+1 ->
   (∀ c o,c≠z->c≠i1->c≠i2->s.heap.get? c=some o->h'.get? c=some o)->Q (.ref s.heap.objs.size) { s with heap:=h' }) :
  wpAny (model prog w) A (Builtin.«zip.__next__» ⟨[.ref z],[]⟩) (fun fin s'=>∃ v,fin=.done (.ret v)/\Q v s') E s:=by
 show wpAny _ _ (field (.ref z) 2 >>= _) _ _ _
 refine wpAny_bind (wpAny_field hz rfl (x:=.bool false) rfl ?_)
 show wpAny _ _ (field (.ref z) 3 >>= _) _ _ _
 refine wpAny_bind (wpAny_field hz rfl (x:=.ref TI) rfl ?_)
 refine wpAny_bind (wpAny_seqItems hTI rfl ?_)
 show wpAny _ _ (Builtin.SmallTypes.ownedTupleIsFree (.ref z) >>= _) _ _ _
 refine wpAny_bind (zb_notFree hz hT fun h₁ hz₁ hs₁=>?_)
 simp only [Bool.false_eq_true,if_false]
 refine wpAny_bind ?_
 simp only [List.forIn_toArray,List.forIn_cons,List.forIn_nil]
 refine wpAny_bind (wpAny_bind (wpAny_holding ?_))
 show wpAny _ _ (Builtin.SmallTypes.nextOf (.ref i1) >>= _) _ _ _
 refine wpAny_bind (nx_item (h1.extBut hs₁.extBut D.i1z) (hl1.extBut hs₁.extBut D.l1z) hx fun h₂ h1₂ hs₂=>wpAny_pure (wpAny_pure ?_))
 refine wpAny_bind (wpAny_bind (wpAny_holding ?_))
 show wpAny _ _ (Builtin.SmallTypes.nextOf (.ref i2) >>= _) _ _ _
 refine wpAny_bind (nx_item ((h2.extBut hs₁.extBut D.i2z).extBut hs₂.extBut D.i12.symm) ((hl2.extBut hs₁.extBut D.l2z).extBut hs₂.extBut D.l2i1) hy fun h₃ h2₃ hs₃=>wpAny_pure (wpAny_pure (wpAny_pure ?_)))
 show wpAny _ _ (newTuple [x,y] >>= _) _ _ _
 refine wpAny_bind (wpAny_newTuple ?_)
 refine wpAny_pure ⟨_,rfl,?_⟩
 have hsz:h₃.objs.size=s.heap.objs.size:=by rw [hs₃.1,hs₂.1,hs₁.1]
 have hz₃:IsZipB h₃ z TI TO (rawInt T) (.bool true):=hs₃.extBut _ _ D.i2z.symm (hs₂.extBut _ _ D.i1z.symm hz₁)
 show Q (.ref h₃.objs.size) _
 have h1₃:ItB tu h₃ i1 l1 (k1+1):=h1₂.extBut hs₃.extBut D.i12
 have up:∀ c o,h₃.get? c=some o->(h₃.push { cls:=.type "tuple",data:=.seq #[x,y] }).get? c=some o:=fun c o e=>Heap.get?_push_of_some _ e
 have hT₃:(h₃.push { cls:=.type "tuple",data:=.seq #[x,y] }).get? s.heap.objs.size=some { cls:=.type "tuple",data:=.seq #[x,y] }:=by rw [<- hsz];exact Heap.get?_push_size _ rfl
 rw [hsz]
 exact hQ _ (up _ _ hz₃) (h1₃.at fun o e=>up _ o e) (h2₃.at fun o e=>up _ o e) hT₃ (by rw [Heap.size_push,hsz]) fun c o c1 c2 c3 e=>up c o (hs₃.extBut _ _ c3 (hs₂.extBut _ _ c2 (hs₁.extBut _ _ c1 e)))
theorem zb_end {tu:Bool}{z TI TO i1 i2 l1 l2 T:Addr}{b0:Bool}{oT:Obj}{k1 k2:Nat}{xs ys:Array Value}{Q:Fin->Shared->Prop}(hh:A.handled=none)(D:ZipApart z TI TO i1 i2 l1 l2)
  (hz:IsZipB s.heap z TI TO (rawInt T) (.bool b0)) (hT:s.heap.get? T=some oT) (hTI:IsPair s.heap TI (.ref i1) (.ref i2))
  (h1:ItB tu s.heap i1 l1 k1) (hl1:SqB tu s.heap l1 xs) (hx:xs[k1]?=none)
  (hE:∀ h' e,(∀ c o,c≠z->c≠i1->c≠i2->s.heap.get? c=some o->h'.get? c=some o)->(∃ o,h'.get? e=some o/\o.cls=.type "StopIteration")->E (.ref e) { s with heap:=h' }) :
  wpAny (model prog w) A (Builtin.«zip.__next__» ⟨[.ref z],[]⟩) Q E s:=by
 show wpAny _ _ (field (.ref z) 2 >>= _) _ _ _
 refine wpAny_bind (wpAny_field hz rfl (x:=.bool false) rfl ?_)
 show wpAny _ _ (field (.ref z) 3 >>= _) _ _ _
 refine wpAny_bind (wpAny_field hz rfl (x:=.ref TI) rfl ?_)
 refine wpAny_bind (wpAny_seqItems hTI rfl ?_)
 show wpAny _ _ (Builtin.SmallTypes.ownedTupleIsFree (.ref z) >>= _) _ _ _
 refine wpAny_bind (zb_notFree hz hT fun h₁ hz₁ hs₁=>?_)
 simp only [Bool.false_eq_true,if_false]
 refine wpAny_bind ?_
 simp only [List.forIn_toArray,List.forIn_cons,List.forIn_nil]
 refine wpAny_bind (wpAny_bind (wpAny_holding ?_))
 show wpAny _ _ (Builtin.SmallTypes.nextOf (.ref i1) >>= _) _ _ _
 refine wpAny_bind (nx_end hh (h1.extBut hs₁.extBut D.i1z) (hl1.extBut hs₁.extBut D.l1z) hx fun h₂ e hs₂ he=>?_)
 exact hE h₂ e (fun c o c1 c2 _ x=>hs₂ _ _ c2 (hs₁.extBut _ _ c1 x)) he
theorem zb_next_item {tu:Bool}{z TI TO i1 i2 l1 l2 T:Addr}{b0:Bool}{oT:Obj}{k1 k2:Nat}{xs ys:Array Value}{x y:Value}{Q:Option Value->Shared->Prop}(D:ZipApart z TI TO i1 i2 l1 l2)
  (hz:IsZipB s.heap z TI TO (rawInt T) (.bool b0)) (hT:s.heap.get? T=some oT) (hTI:IsPair s.heap TI (.ref i1) (.ref i2))
  (h1:ItB tu s.heap i1 l1 k1) (h2:ItB tu s.heap i2 l2 k2) (hl1:SqB tu s.heap l1 xs) (hl2:SqB tu s.heap l2 ys) (hx:xs[k1]?=some x) (hy:ys[k2]?=some y)
  (hQ:∀ h',IsZipB h' z TI TO (rawInt T) (.bool true)->ItB tu h' i1 l1 (k1+1)->ItB tu h' i2 l2 (k2+1)->IsPair h' s.heap.objs.size x y->h'.objs.size=s.heap.objs.size+1 ->
   (∀ c o,c≠z->c≠i1->c≠i2->s.heap.get? c=some o->h'.get? c=some o)->Q (some (.ref s.heap.objs.size)) { s with heap:=h' }):wpAny (model prog w) A (pyNext (.ref z)) Q E s:=by
 have hTy:s.TypeIs (.ref z) "zip":=⟨_,hz,rfl⟩
 unfold pyNext
 exact wpAny_bind (wpAny_attempt (wpAny_callSpecial?_slot (name:=Str.ofString "__next__") hTy F.slot_zip_next
  (wpAny_call_entry F.slot_zip_next hTy F.entry_zip_next
   (zb_item (a:=.none) (b:=.none) D hz hT hTI h1 h2 hl1 hl2 hx hy fun h' a1 a3 a4 a5 a6 a7=>wpAny_pure (hQ h' a1 a3 a4 a5 a6 a7)) (F.args_zip_next_1 _))))
theorem zb_next_end {tu:Bool}{z TI TO i1 i2 l1 l2 T:Addr}{b0:Bool}{oT:Obj}{k1 k2:Nat}{xs ys:Array Value}{Q:Option Value->Shared->Prop}(hh:A.handled=none)(D:ZipApart z TI TO i1 i2 l1 l2)
  (hz:IsZipB s.heap z TI TO (rawInt T) (.bool b0)) (hT:s.heap.get? T=some oT) (hTI:IsPair s.heap TI (.ref i1) (.ref i2))
  (h1:ItB tu s.heap i1 l1 k1) (hl1:SqB tu s.heap l1 xs) (hx:xs[k1]?=none)
  (hQ:∀ h',(∀ c o,c≠z->c≠i1->c≠i2->s.heap.get? c=some o->h'.get? c=some o)->Q none { s with heap:=h' }):wpAny (model prog w) A (pyNext (.ref z)) Q E s:=by
 have hTy:s.TypeIs (.ref z) "zip":=⟨_,hz,rfl⟩
 unfold pyNext
 refine wpAny_bind (wpAny_attempt (wpAny_callSpecial?_slot (name:=Str.ofString "__next__") hTy F.slot_zip_next
  (wpAny_call_entry F.slot_zip_next hTy F.entry_zip_next (zb_end (ys:=ys) (k2:=k2) hh D hz hT hTI h1 hl1 hx fun h' e hk he=>?_) (F.args_zip_next_1 _))))
 obtain ⟨o,ho,hc⟩:=he
 refine wpAny_bind (wpAny_isInstance (T:="StopIteration") (b:=true) ⟨o,ho,hc⟩ isSubtype_stop ?_)
 exact wpAny_pure (hQ _ hk)
theorem zf_item {tu:Bool}{z TI TO i1 i2 l1 l2:Addr}{k1 k2:Nat}{xs ys:Array Value}{x y a b:Value}{Q:Value->Shared->Prop}(D:ZipApart z TI TO i1 i2 l1 l2)
  (hz:IsZip s.heap z TI TO .none) (hTI:IsPair s.heap TI (.ref i1) (.ref i2)) (hTO:IsPair s.heap TO a b)
  (h1:ItB tu s.heap i1 l1 k1) (h2:ItB tu s.heap i2 l2 k2) (hl1:SqB tu s.heap l1 xs) (hl2:SqB tu s.heap l2 ys) (hx:xs[k1]?=some x) (hy:ys[k2]?=some y)
  (hQ:∀ h',IsZip h' z TI TO (rawInt s.heap.objs.size)->IsPair h' TO x y->ItB tu h' i1 l1 (k1+1)->ItB tu h' i2 l2 (k2+1)->IsPair h' s.heap.objs.size x y->h'.objs.size=s.heap.objs.size+1 ->
   (∀ c o,c≠z->c≠TO->c≠i1->c≠i2->s.heap.get? c=some o->h'.get? c=some o)->Q (.ref s.heap.objs.size) { s with heap:=h' }) :
  wpAny (model prog w) A (Builtin.«zip.__next__» ⟨[.ref z],[]⟩) (fun fin s'=>∃ v,fin=.done (.ret v)/\Q v s') E s:=by
 show wpAny (model prog w) _ (field (Value.ref z) 2 >>= _) _ _ _
 refine wpAny_bind (wpAny_field hz rfl (x:=.bool false) rfl ?_)
 show wpAny (model prog w) _ (field (Value.ref z) 3 >>= _) _ _ _
 refine wpAny_bind (wpAny_field hz rfl (x:=.ref TI) rfl ?_)
 refine wpAny_bind (wpAny_seqItems hTI rfl ?_)
 show wpAny (model prog w) _ (Builtin.SmallTypes.ownedTupleIsFree (Value.ref z) >>= _) _ _ _
 refine wpAny_bind ?_
 unfold Builtin.SmallTypes.ownedTupleIsFree
 refine wpAny_bind (wpAny_field hz rfl (x:=.none) rfl (wpAny_pure ?_))
 simp only [if_true]
 refine wpAny_bind (wpAny_rule ?_)
 refine wpAny_bind (wpAny_field hz rfl (x:=.ref TO) rfl ?_)
 refine wpAny_bind (wpAny_setField_rec hz (by simp) fun ha (hz1:IsZip ha z TI TO .ellipsis) sa=>?_)
 refine wpAny_bind ?_
 simp only [List.zipIdx_cons,List.zipIdx_nil,List.forIn_cons,List.forIn_nil]
 refine wpAny_bind (wpAny_bind (wpAny_onRaise ?_))
 show wpAny _ _ (Builtin.SmallTypes.nextOf (.ref i1) >>= _) _ _ _
 refine wpAny_bind (nx_item (h1.extBut sa.extBut D.i1z) (hl1.extBut sa.extBut D.l1z) hx fun hb h1b sb=>wpAny_pure ?_)
 have TOb:IsPair hb TO a b:=sb.extBut _ _ D.TOi1 (sa.extBut _ _ D.TOz hTO)
 refine wpAny_bind (wpAny_seqItems TOb rfl ?_)
 refine wpAny_bind (wpAny_updateSeq_pair TOb fun hc (TOc:IsPair hc TO x b) sc=>?_)
 refine wpAny_bind (wpAny_letGo (wpAny_pure ?_))
 refine wpAny_bind (wpAny_bind (wpAny_onRaise ?_))
 show wpAny _ _ (Builtin.SmallTypes.nextOf (.ref i2) >>= _) _ _ _
 refine wpAny_bind (nx_item (((h2.extBut sa.extBut D.i2z).extBut sb.extBut D.i12.symm).extBut sc.extBut D.TOi2.symm) (((hl2.extBut sa.extBut D.l2z).extBut sb.extBut D.l2i1).extBut sc.extBut D.l2TO) hy fun hd h2d sd=>wpAny_pure ?_)
 have TOd:IsPair hd TO x b:=sd.extBut _ _ D.TOi2 TOc
 refine wpAny_bind (wpAny_seqItems TOd rfl ?_)
 refine wpAny_bind (wpAny_updateSeq_pair TOd fun he (TOe:IsPair he TO x y) se=>?_)
 refine wpAny_bind (wpAny_letGo (wpAny_pure (wpAny_pure ?_)))
 refine wpAny_bind (wpAny_seqItems TOe rfl ?_)
 refine wpAny_bind (wpAny_newTuple ?_)
 have hsz:he.objs.size=s.heap.objs.size:=by rw [se.1,sd.1,sc.1,sb.1,sa.1]
 have hze:IsZip he z TI TO .ellipsis:=se.extBut _ _ D.TOz.symm (sd.extBut _ _ D.i2z.symm (sc.extBut _ _ D.TOz.symm (sb.extBut _ _ D.i1z.symm hz1)))
 have ke:∀ c o,c≠z->c≠TO->c≠i1->c≠i2->s.heap.get? c=some o->he.get? c=some o:=fun c o n1 n2 n3 n4 e=>se.extBut _ _ n2 (sd.extBut _ _ n4 (sc.extBut _ _ n2 (sb.extBut _ _ n3 (sa.extBut _ _ n1 e))))
 have h1e:ItB tu he i1 l1 (k1+1):=((h1b.extBut sc.extBut D.TOi1.symm).extBut sd.extBut D.i12).extBut se.extBut D.TOi1.symm
 have h2e:ItB tu he i2 l2 (k2+1):=h2d.extBut se.extBut D.TOi2.symm
 have zlt:z < he.objs.size:=Heap.lt_size hze
 show wpAny (model prog w) _ (Builtin.SmallTypes.ownedTupleHandOut (Value.ref z) (Value.ref he.objs.size) >>= _) _ _ _
 refine wpAny_bind ?_
 unfold Builtin.SmallTypes.ownedTupleHandOut
 have hzf:IsZip (he.push { cls:=.type "tuple",data:=.seq #[x,y] }) z TI TO .ellipsis:=Heap.get?_push_of_some _ hze
 refine wpAny_bind (wpAny_setField_rec hzf (by simp) fun hg (hzg:IsZip hg z TI TO (rawInt he.objs.size)) sg=>?_)
 refine wpAny_setField_rec hzg (by simp) fun hk (hzk:IsZip hk z TI TO (rawInt he.objs.size)) sk=>?_
 have up:∀ c o,c≠z->he.get? c=some o->hk.get? c=some o:=fun c o n e=>sk.extBut _ _ n (sg.extBut _ _ n (Heap.get?_push_of_some _ e))
 have Tk:IsPair hk he.objs.size x y:=sk.extBut _ _ (Nat.ne_of_gt zlt) (sg.extBut _ _ (Nat.ne_of_gt zlt) (Heap.get?_push_size _ rfl))
 have zk:hk.objs.size=he.objs.size+1:=by rw [sk.1,sg.1,Heap.size_push]
 rw [hsz] at hzk Tk zk
 refine wpAny_pure ⟨_,rfl,?_⟩
 show Q (.ref he.objs.size) _
 rw [hsz]
 exact hQ hk hzk (up _ _ D.TOz TOe) (h1e.at fun o e=>up _ o D.i1z e) (h2e.at fun o e=>up _ o D.i2z e) Tk zk fun c o n1 n2 n3 n4 e=>up c o n1 (ke c o n1 n2 n3 n4 e)
theorem zf_end {tu:Bool}{z TI TO i1 i2 l1 l2:Addr}{k1:Nat}{xs:Array Value}{a b:Value}{Q:Fin->Shared->Prop}(hh:A.handled=none)(D:ZipApart z TI TO i1 i2 l1 l2)
  (hz:IsZip s.heap z TI TO .none) (hTI:IsPair s.heap TI (.ref i1) (.ref i2)) (hTO:IsPair s.heap TO a b) (h1:ItB tu s.heap i1 l1 k1) (hl1:SqB tu s.heap l1 xs) (hx:xs[k1]?=none)
  (hE:∀ h' e,(∀ c o,c≠z->c≠TO->c≠i1->c≠i2->s.heap.get? c=some o->h'.get? c=some o)->(∃ o,h'.get? e=some o/\o.cls=.type "StopIteration")->E (.ref e) { s with heap:=h' }) :
  wpAny (model prog w) A (Builtin.«zip.__next__» ⟨[.ref z],[]⟩) Q E s:=by
 show wpAny (model prog w) _ (field (Value.ref z) 2 >>= _) _ _ _
 refine wpAny_bind (wpAny_field hz rfl (x:=.bool false) rfl ?_)
 show wpAny (model prog w) _ (field (Value.ref z) 3 >>= _) _ _ _
 refine wpAny_bind (wpAny_field hz rfl (x:=.ref TI) rfl ?_)
 refine wpAny_bind (wpAny_seqItems hTI rfl ?_)
 show wpAny (model prog w) _ (Builtin.SmallTypes.ownedTupleIsFree (Value.ref z) >>= _) _ _ _
 refine wpAny_bind ?_
 unfold Builtin.SmallTypes.ownedTupleIsFree
 refine wpAny_bind (wpAny_field hz rfl (x:=.none) rfl (wpAny_pure ?_))
 simp only [if_true]
 refine wpAny_bind (wpAny_rule ?_)
 refine wpAny_bind (wpAny_field hz rfl (x:=.ref TO) rfl ?_)
 refine wpAny_bind (wpAny_setField_rec hz (by simp) fun ha (hz1:IsZip ha z TI TO .ellipsis) sa=>?_)
 refine wpAny_bind ?_
 simp only [List.zipIdx_cons,List.zipIdx_nil,List.forIn_cons,List.forIn_nil]
 refine wpAny_bind (wpAny_bind (wpAny_onRaise ?_))
 show wpAny _ _ (Builtin.SmallTypes.nextOf (.ref i1) >>= _) _ _ _
 refine wpAny_bind (nx_end hh (h1.extBut sa.extBut D.i1z) (hl1.extBut sa.extBut D.l1z) hx fun hb e sb he=>?_)
 obtain ⟨oe,hoe,hce⟩:=he
 have hz2:IsZip hb z TI TO .ellipsis:=sb _ _ D.i1z.symm hz1
 have hez:e≠z:=fun q=>by
  subst q
  rw [hz2] at hoe
  cases hoe
  simp at hce
 exact wpAny_setField_rec hz2 (by simp) fun hc _ sc=>hE hc e (fun c o n1 _ n3 _ q=>sc.extBut _ _ n1 (sb _ _ n3 (sa.extBut _ _ n1 q))) ⟨oe,sc.extBut _ _ hez hoe,hce⟩
theorem zf_next_item {tu:Bool}{z TI TO i1 i2 l1 l2:Addr}{k1 k2:Nat}{xs ys:Array Value}{x y a b:Value}{Q:Option Value->Shared->Prop}(D:ZipApart z TI TO i1 i2 l1 l2)
  (hz:IsZip s.heap z TI TO .none) (hTI:IsPair s.heap TI (.ref i1) (.ref i2)) (hTO:IsPair s.heap TO a b)
  (h1:ItB tu s.heap i1 l1 k1) (h2:ItB tu s.heap i2 l2 k2) (hl1:SqB tu s.heap l1 xs) (hl2:SqB tu s.heap l2 ys) (hx:xs[k1]?=some x) (hy:ys[k2]?=some y)
  (hQ:∀ h',IsZip h' z TI TO (rawInt s.heap.objs.size)->IsPair h' TO x y->ItB tu h' i1 l1 (k1+1)->ItB tu h' i2 l2 (k2+1)->IsPair h' s.heap.objs.size x y->h'.objs.size=s.heap.objs.size+1 ->
   (∀ c o,c≠z->c≠TO->c≠i1->c≠i2->s.heap.get? c=some o->h'.get? c=some o)->Q (some (.ref s.heap.objs.size)) { s with heap:=h' }):wpAny (model prog w) A (pyNext (.ref z)) Q E s:=by
 have ty:s.TypeIs (.ref z) "zip":=⟨_,hz,rfl⟩
 unfold pyNext
 exact wpAny_bind (wpAny_attempt (wpAny_callSpecial?_slot (name:=Str.ofString "__next__") ty F.slot_zip_next (wpAny_call_entry F.slot_zip_next ty F.entry_zip_next (zf_item D hz hTI hTO h1 h2 hl1 hl2 hx hy fun h' a1 a2 a3 a4 a5 a6 a7=>wpAny_pure (hQ h' a1 a2 a3 a4 a5 a6 a7)) (F.args_zip_next_1 _))))
theorem zf_next_end {tu:Bool}{z TI TO i1 i2 l1 l2:Addr}{k1:Nat}{xs:Array Value}{a b:Value}{Q:Option Value->Shared->Prop}(hh:A.handled=none)(D:ZipApart z TI TO i1 i2 l1 l2)
  (hz:IsZip s.heap z TI TO .none) (hTI:IsPair s.heap TI (.ref i1) (.ref i2)) (hTO:IsPair s.heap TO a b) (h1:ItB tu s.heap i1 l1 k1) (hl1:SqB tu s.heap l1 xs) (hx:xs[k1]?=none)
  (hQ:∀ h',(∀ c o,c≠z->c≠TO->c≠i1->c≠i2->s.heap.get? c=some o->h'.get? c=some o)->Q none { s with heap:=h' }):wpAny (model prog w) A (pyNext (.ref z)) Q E s:=by
 have ty:s.TypeIs (.ref z) "zip":=⟨_,hz,rfl⟩
 unfold pyNext
 refine wpAny_bind (wpAny_attempt (wpAny_callSpecial?_slot (name:=Str.ofString "__next__") ty F.slot_zip_next (wpAny_call_entry F.slot_zip_next ty F.entry_zip_next (zf_end hh D hz hTI hTO h1 hl1 hx fun h' e hk he=>?_) (F.args_zip_next_1 _))))
 obtain ⟨o,ho,hc⟩:=he
 exact wpAny_bind (wpAny_isInstance (T:="StopIteration") (b:=true) ⟨o,ho,hc⟩ isSubtype_stop (wpAny_pure (hQ _ hk)))
def itO (tu:Bool)(l:Addr):Obj:={ cls:=.type (if tu=true then "tuple_iterator" else "list_iterator"),data:=.fields #[.ref l,.int 0 0] }
theorem itO_it {tu:Bool}{h:Heap}{i l:Addr}(e:h.get? i=some (itO tu l)):ItB tu h i l 0:=by
 cases tu with
 | false=>exact (show h.IsListIter i l 0 from ⟨_,e,rfl,rfl⟩)
 | true=>exact (show h.IsTupleIter i l 0 from ⟨_,e,rfl,rfl⟩)
theorem iter_B {tu:Bool}{l:Addr}{xs:Array Value}{Q:Value->Shared->Prop}(hl:SqB tu s.heap l xs)(hQ:Q (.ref s.heap.objs.size) { s with heap:=s.heap.push (itO tu l) }):wpAny (model prog w) A (pyIter (.ref l)) Q E s:=by
 cases tu with
 | false=>exact wpAny_pyIter_list hl hQ
 | true=>exact wpAny_pyIter_tuple hl hQ
abbrev zg1 (tu:Bool)(h:Heap)(l1:Addr):Heap:=h.push (itO tu l1)
abbrev zg2 (tu:Bool)(h:Heap)(l1 l2:Addr):Heap:=(zg1 tu h l1).push (itO tu l2)
abbrev zg3 (tu:Bool)(h:Heap)(l1 l2:Addr):Heap:=(zg2 tu h l1 l2).push { cls:=.type "tuple",data:=.seq #[.ref h.objs.size,.ref (zg1 tu h l1).objs.size] }
abbrev zg4 (tu:Bool)(h:Heap)(l1 l2:Addr):Heap:=(zg3 tu h l1 l2).push { cls:=.type "tuple",data:=.seq #[.none,.none] }
abbrev zg5 (tu:Bool)(h:Heap)(l1 l2:Addr):Heap:=(zg4 tu h l1 l2).push { cls:=.type "zip",data:=.fields #[.none,.bool false,.bool false,.ref (zg2 tu h l1 l2).objs.size,.ref (zg3 tu h l1 l2).objs.size] }
theorem meets_zg (tu:Bool)(l1 l2:Addr)(xs ys:Array Value):Meets (Builtin.«zip.__new__» ⟨[.type "zip",.ref l1,.ref l2],[]⟩) (fun _ R s=>SqB tu s.heap l1 xs/\SqB tu s.heap l2 ys/\R (.ok (.ret (.ref (zg4 tu s.heap l1 l2).objs.size))) { s with heap:=zg5 tu s.heap l1 l2 }) :=
 .of_wp fun prog w A R s h=>by
  obtain ⟨hp,g,d,tk,os⟩:=s
  obtain ⟨hl1,hl2,h⟩:=h
  have hsub:=sub_zip
  have L1:SqB tu (Shared.heap ⟨hp,g,d,tk,os⟩) l1 xs:=hl1
  have L2:SqB tu (Shared.heap ⟨hp.push (itO tu l1),g,d,tk,os⟩) l2 ys:=SqB.at hl2 fun o e=>Heap.get?_push_of_some _ e
  wp_walk using iter_B L1,iter_B L2
  exact ⟨_,rfl,h⟩
theorem call_zg {tu:Bool}{l1 l2:Addr}{xs ys:Array Value}{Q:Value->Shared->Prop}(hl1:SqB tu s.heap l1 xs)(hl2:SqB tu s.heap l2 ys)
  (h:∀ h',IsZip h' (s.heap.objs.size+4) (s.heap.objs.size+2) (s.heap.objs.size+3) .none->IsPair h' (s.heap.objs.size+2) (.ref s.heap.objs.size) (.ref (s.heap.objs.size+1)) ->
   IsPair h' (s.heap.objs.size+3) .none .none->ItB tu h' s.heap.objs.size l1 0->ItB tu h' (s.heap.objs.size+1) l2 0->h'.objs.size=s.heap.objs.size+5 ->
   (∀ c o,s.heap.get? c=some o->h'.get? c=some o)->Q (.ref (s.heap.objs.size+4)) { s with heap:=h' }):wpAny (model prog w) A (call (.type "zip") [.ref l1,.ref l2]) Q E s:=by
 refine callType_new F.called_zip (by decide) (F.typeCall_zip_2 _ _) (F.newCall_zip_2 _ _) (fun obj=>F.args_object_init_3 obj _ _) F.entry_zip_new (meets_zg tu l1 l2 xs ys) ⟨hl1,hl2,?_⟩
 have z1:(zg1 tu s.heap l1).objs.size=s.heap.objs.size+1:=Heap.size_push ..
 have z2:(zg2 tu s.heap l1 l2).objs.size=s.heap.objs.size+2:=by rw [Heap.size_push,z1]
 have z3:(zg3 tu s.heap l1 l2).objs.size=s.heap.objs.size+3:=by rw [Heap.size_push,z2]
 have z4:(zg4 tu s.heap l1 l2).objs.size=s.heap.objs.size+4:=by rw [Heap.size_push,z3]
 have z5:(zg5 tu s.heap l1 l2).objs.size=s.heap.objs.size+5:=by rw [Heap.size_push,z4]
 have g5:(zg5 tu s.heap l1 l2).get? (zg4 tu s.heap l1 l2).objs.size=some _:=Heap.get?_push_size _ rfl
 have g4:(zg5 tu s.heap l1 l2).get? (zg3 tu s.heap l1 l2).objs.size=some _:=Heap.get?_push_of_some _ (Heap.get?_push_size _ rfl)
 have g3:(zg5 tu s.heap l1 l2).get? (zg2 tu s.heap l1 l2).objs.size=some _:=Heap.get?_push_of_some _ (Heap.get?_push_of_some _ (Heap.get?_push_size _ rfl))
 have g2:(zg5 tu s.heap l1 l2).get? (zg1 tu s.heap l1).objs.size=some (itO tu l2):=Heap.get?_push_of_some _ (Heap.get?_push_of_some _ (Heap.get?_push_of_some _ (Heap.get?_push_size _ rfl)))
 have g1:(zg5 tu s.heap l1 l2).get? s.heap.objs.size=some (itO tu l1):=Heap.get?_push_of_some _ (Heap.get?_push_of_some _ (Heap.get?_push_of_some _ (Heap.get?_push_of_some _ (Heap.get?_push_size _ rfl))))
 show _/\_
 rw [z2,z3,z4] at g5
 rw [z1,z2] at g3
 rw [z3] at g4
 rw [z1] at g2
 rw [z4]
 exact ⟨⟨_,g5,rfl⟩,h _ g5 g3 g4 (itO_it g1) (itO_it g2) z5 fun c o x=>Heap.get?_push_of_some _ (Heap.get?_push_of_some _ (Heap.get?_push_of_some _ (Heap.get?_push_of_some _ (Heap.get?_push_of_some _ x))))⟩
structure ZipSt (tu:Bool)(h:Heap)(z TI TO i1 i2 l1 l2:Addr)(xs ys:Array Value)(Ts:List Addr):Prop where
 fz:(Ts=[]/\IsZip h z TI TO .none)\/∃ T b,T∈Ts/\IsZipB h z TI TO (rawInt T) (.bool b)
 fTI:IsPair h TI (.ref i1) (.ref i2)
 fTO:∃ a b,IsPair h TO a b
 f1:ItB tu h i1 l1 Ts.length
 f2:ItB tu h i2 l2 Ts.length
 g1:SqB tu h l1 xs
 g2:SqB tu h l2 ys
 fm:∀ (j:Nat) (T:Addr),Ts[j]?=some T->∃ x y,xs[j]?=some x/\ys[j]?=some y/\IsPair h T x y
theorem ZipSt.keep {h h':Heap}{tu:Bool}{z TI TO i1 i2 l1 l2:Addr}{xs ys:Array Value}{Ts:List Addr}(Z:ZipSt tu h z TI TO i1 i2 l1 l2 xs ys Ts)(k:∀ c o,c∈[z,TI,TO,i1,i2,l1,l2]++Ts->h.get? c=some o->h'.get? c=some o):ZipSt tu h' z TI TO i1 i2 l1 l2 xs ys Ts:=by
 refine ⟨?_,k _ _ (by simp) Z.fTI,?_,Z.f1.at fun o e=>k _ o (by simp) e,Z.f2.at fun o e=>k _ o (by simp) e,Z.g1.at fun o e=>k _ o (by simp) e,Z.g2.at fun o e=>k _ o (by simp) e,fun j T e=>?_⟩
 ·rcases Z.fz with ⟨e,hz⟩ | ⟨T,b,hT,hz⟩
  ·exact .inl ⟨e,k _ _ (by simp) hz⟩
  ·exact .inr ⟨T,b,hT,k _ _ (by simp) hz⟩
 ·obtain ⟨a,b,e⟩:=Z.fTO
  exact ⟨a,b,k _ _ (by simp) e⟩
 ·obtain ⟨x,y,h1,h2,h3⟩:=Z.fm j T e
  exact ⟨x,y,h1,h2,k _ _ (List.mem_append_right _ (List.mem_of_getElem? e)) h3⟩
theorem zl_loop {tu:Bool}{z TI TO i1 i2 l1 l2 S:Addr}{xs ys:Array Value}{R:Result->Shared->Prop}{res:Value}(hh:A.in1.handled=none)(D:ZipApart z TI TO i1 i2 l1 l2)(hxy:xs.size=ys.size)(hn:xs.size<=1000)(hS:S∉[z,TI,TO,i1,i2,l1,l2]):
  ∀ (k:Nat) (Ts:List Addr) (s:Shared) (c:Nat),xs.size - Ts.length=k->Ts.length<=xs.size->ZipSt tu s.heap z TI TO i1 i2 l1 l2 xs ys Ts->(∀ T∈Ts,T∉[S,z,TI,TO,i1,i2,l1,l2])->Ts.Nodup->s.heap.get? S=some { cls:=.type "list",dict:=none,data:=.seq (Ts.map Value.ref).toArray c,slots:=#[] } ->
  (∀ (h':Heap) (tk:Nat) (Ts':List Addr) (c':Nat),Ts'.length=xs.size->Ts'.Nodup->(∀ b o,b∉[S,z,TO,i1,i2]->s.heap.get? b=some o->h'.get? b=some o)->h'.get? S=some { cls:=.type "list",dict:=none,data:=.seq (Ts'.map Value.ref).toArray c',slots:=#[] } ->
   (∀ (j:Nat) (T:Addr),Ts'[j]?=some T->∃ x y,xs[j]?=some x/\ys[j]?=some y/\IsPair h' T x y)->(∀ T∈Ts',T∈Ts\/s.heap.get? T=none)->R (.ok (.ret res)) { s with heap:=h',toks:=tk }) ->
  codeAny (model prog w) A (.builtin "list.extend.loop" ⟨[.ref S,.ref z,res],[]⟩) R s:=by
 intro k
 induction k with
 | zero =>
  intro Ts s c hk hle Z hT hnd hSl hR
  have hlen:Ts.length=xs.size:=by omega
  have hend:xs[Ts.length]?=none:=Array.getElem?_eq_none (by omega)
  refine codeAny_builtin F.entry_extend_loop ?_
  rw [Around.under_plainId F.plain_extend_loop _]
  show wpAny _ A.in1 (pyNext (.ref z) >>= _) _ _ s
  have done:∀ h',(∀ b o,b≠z->b≠TO->b≠i1->b≠i2->s.heap.get? b=some o->h'.get? b=some o)->R (.ok (.ret res)) { s with heap:=h' }:=fun h' kk=>by
   have nS:S≠z/\S≠TO/\S≠i1/\S≠i2:=by simp at hS;exact ⟨hS.1,hS.2.2.1,hS.2.2.2.1,hS.2.2.2.2.1⟩
   refine hR h' s.toks Ts c hlen hnd (fun b o hb e=>?_) (kk S _ nS.1 nS.2.1 nS.2.2.1 nS.2.2.2 hSl) (fun j T e=>?_) (fun T h=>.inl h)
   ·simp at hb
    exact kk b o hb.2.1 hb.2.2.1 hb.2.2.2.1 hb.2.2.2.2 e
   ·obtain ⟨x,y,e1,e2,e3⟩:=Z.fm j T e
    have:=hT T (List.mem_of_getElem? e)
    simp at this
    exact ⟨x,y,e1,e2,kk T _ this.2.1 this.2.2.2.1 this.2.2.2.2.1 this.2.2.2.2.2.1 e3⟩
  obtain ⟨a,b,hTO⟩:=Z.fTO
  rcases Z.fz with ⟨e,hz⟩ | ⟨T,b,hTm,hz⟩
  ·exact wpAny_bind (zf_next_end hh D hz Z.fTI hTO Z.f1 Z.g1 hend fun h' kk=>wpAny_pure (done h' kk))
  ·obtain ⟨j,hj,ej⟩:=List.mem_iff_getElem.mp hTm
   obtain ⟨x,y,_,_,hp⟩:=Z.fm j T (by rw [List.getElem?_eq_getElem hj,ej])
   exact wpAny_bind (zb_next_end (ys:=ys) (k2:=0) hh D hz hp Z.fTI Z.f1 Z.g1 hend fun h' kk=>wpAny_pure (done h' fun b o b1 _ b3 b4 e=>kk b o b1 b3 b4 e))
 | succ k ih =>
  intro Ts s c hk hle Z hT hnd hSl hR
  have hlt:Ts.length < xs.size:=by omega
  have hx:xs[Ts.length]?=some xs[Ts.length]:=Array.getElem?_eq_getElem hlt
  have hy:ys[Ts.length]?=some (ys[Ts.length]'(by omega)):=Array.getElem?_eq_getElem (by omega)
  refine codeAny_builtin F.entry_extend_loop ?_
  rw [Around.under_plainId F.plain_extend_loop _]
  show wpAny _ A.in1 (pyNext (.ref z) >>= _) _ _ s
  simp at hS
  obtain ⟨s1,s2,s3,s4,s5,s6,s7⟩:=hS
  have hS0:S∉[z,TI,TO,i1,i2,l1,l2]:=by simp;exact ⟨s1,s2,s3,s4,s5,s6,s7⟩
  have Slt:S < s.heap.objs.size:=Heap.lt_size hSl
  have step:∀ (h':Heap) (b:Bool),(∃ T,T∈Ts++[s.heap.objs.size]/\IsZipB h' z TI TO (rawInt T) (.bool b))->(∃ a b,IsPair h' TO a b)->ItB tu h' i1 l1 (Ts.length+1)->ItB tu h' i2 l2 (Ts.length+1)->IsPair h' s.heap.objs.size xs[Ts.length] (ys[Ts.length]'(by omega)) ->
    (∀ b o,b≠z->b≠TO->b≠i1->b≠i2->s.heap.get? b=some o->h'.get? b=some o) ->
    wpAny (model prog w) A.in1 (updateSeq S (·.push (.ref s.heap.objs.size)) >>= fun _=>pure (Fin.again (.builtin "list.extend.loop" ⟨[.ref S,.ref z,res],[]⟩)))
     (fun fin s'=>match fin with | .done f=>R (.ok f) s' | .again c'=>c'.quiet=true/\codeAny (model prog w) A c' R s') (fun e s'=>R (.error e) s') { s with heap:=h' }:=by
   intro h' b hz' hTO' h1' h2' hp' kk
   have hSl':h'.get? S=some { cls:=.type "list",dict:=none,data:=.seq (Ts.map Value.ref).toArray c,slots:=#[] }:=kk S _ s1 s3 s4 s5 hSl
   refine wpAny_bind (wpAny_updateSeq (s:={ s with heap:=h' }) hSl' rfl (wpAny_pure ⟨plainId_quiet F.plain_extend_loop _,?_⟩))
   have hup:=Heap.get?_update_self (Obj.mapSeq (·.push (Value.ref s.heap.objs.size))) hSl' rfl
   obtain ⟨c1,hup1⟩:∃ c1,(h'.update S (Obj.mapSeq (·.push (Value.ref s.heap.objs.size)))).get? S=some { cls:=.type "list",dict:=none,data:=.seq ((Ts.map Value.ref).toArray.push (.ref s.heap.objs.size)) c1,slots:=#[] }:=⟨_,hup⟩
   have ea:(Ts.map Value.ref).toArray.push (Value.ref s.heap.objs.size)=((Ts++[s.heap.objs.size]).map Value.ref).toArray:=by simp
   rw [ea] at hup1
   have oth:∀ b o,b≠S->h'.get? b=some o->(h'.update S (Obj.mapSeq (·.push (Value.ref s.heap.objs.size)))).get? b=some o:=fun b o hb e=>(Heap.get?_update_other _ _ (Ne.symm hb)).trans e
   have ltz:∀ {b o},s.heap.get? b=some o->s.heap.objs.size≠b:=fun e=>Nat.ne_of_gt (Heap.lt_size e)
   have tiz:∃ o,s.heap.get? z=some o:=by
    rcases Z.fz with ⟨_,hz⟩ | ⟨_,_,_,hz⟩
    ·exact ⟨_,hz⟩
    ·exact ⟨_,hz⟩
   obtain ⟨oz,hoz⟩:=tiz
   obtain ⟨a0,b0,hTO0⟩:=Z.fTO
   have hi1:=Z.f1
   obtain ⟨o1,ho1⟩:=hi1.ex
   have hi2:=Z.f2
   obtain ⟨o2,ho2⟩:=hi2.ex
   have hL1:=Z.g1
   obtain ⟨ol1,hol1⟩:=hL1.ex
   have hL2:=Z.g2
   obtain ⟨ol2,hol2⟩:=hL2.ex
   have hTn:s.heap.objs.size∉[S,z,TI,TO,i1,i2,l1,l2]:=by
    simp
    exact ⟨ltz hSl,ltz hoz,ltz Z.fTI,ltz hTO0,ltz ho1,ltz ho2,ltz hol1,ltz hol2⟩
   have hT':∀ T∈Ts++[s.heap.objs.size],T∉[S,z,TI,TO,i1,i2,l1,l2]:=fun T h=>by
    rcases List.mem_append.mp h with y | y
    ·exact hT T y
    ·rw [List.mem_singleton.mp y];exact hTn
   have Z':ZipSt tu h' z TI TO i1 i2 l1 l2 xs ys (Ts++[s.heap.objs.size]):=by
    refine ⟨.inr ?_,kk _ _ D.TIz D.TITO D.TIi1 D.TIi2 Z.fTI,hTO',by rw [List.length_append];exact h1',by rw [List.length_append];exact h2',Z.g1.at fun o e=>kk _ o D.l1z D.l1TO D.l1i1 D.l1i2 e,Z.g2.at fun o e=>kk _ o D.l2z D.l2TO D.l2i1 D.l2i2 e,fun j T e=>?_⟩
    ·obtain ⟨T,h1,h2⟩:=hz'
     exact ⟨T,b,h1,h2⟩
    ·by_cases hj:j < Ts.length
     ·rw [List.getElem?_append_left hj] at e
      obtain ⟨x,y,e1,e2,e3⟩:=Z.fm j T e
      have:=hT T (List.mem_of_getElem? e)
      simp at this
      exact ⟨x,y,e1,e2,kk T _ this.2.1 this.2.2.2.1 this.2.2.2.2.1 this.2.2.2.2.2.1 e3⟩
     ·rw [List.getElem?_append_right (by omega)] at e
      have hj':j=Ts.length:=by
       have:=(List.getElem?_eq_some_iff.mp e).1
       simp at this
       omega
      subst hj'
      rw [Nat.sub_self] at e
      cases e
      exact ⟨_,_,hx,hy,hp'⟩
   have hnd':(Ts++[s.heap.objs.size]).Nodup:=by
    refine L2.nd_snoc hnd fun y=>?_
    obtain ⟨j,hj,ej⟩:=List.mem_iff_getElem.mp y
    obtain ⟨_,_,_,_,e3⟩:=Z.fm j _ (by rw [List.getElem?_eq_getElem hj,ej])
    exact absurd (Heap.lt_size e3) (Nat.lt_irrefl _)
   refine ih (Ts++[s.heap.objs.size]) { s with heap:=h'.update S (Obj.mapSeq (·.push (Value.ref s.heap.objs.size))) } c1 (by rw [List.length_append];simp;omega) (by rw [List.length_append];simp;omega) (Z'.keep fun b o hb e=>oth b o (fun zz=>?_) e) hT' hnd' hup1 fun h2 tk Ts' c' l2' nd2 kk2 hS2 m2 new2=>?_
   ·subst zz
    rcases List.mem_append.mp hb with y | y
    ·exact hS0 y
    ·exact absurd (List.mem_cons_self) (hT' b y)
   ·refine hR h2 tk Ts' c' l2' nd2 (fun b o hb e=>kk2 b o hb (oth b o (fun y=>hb (by simp [y])) (by simp at hb;exact kk b o hb.2.1 hb.2.2.1 hb.2.2.2.1 hb.2.2.2.2 e))) hS2 m2 fun T hT2=>?_
    rcases new2 T hT2 with y | y
    ·rcases List.mem_append.mp y with y | y
     ·exact .inl y
     ·right;rw [List.mem_singleton.mp y];exact Heap.get?_none_of_le (Nat.le_refl _)
    ·right
     cases e:s.heap.get? T with
     | none=>rfl
     | some o =>
      exfalso
      have y:(h'.update S (Obj.mapSeq (·.push (Value.ref s.heap.objs.size)))).get? T=none:=y
      by_cases q1:T=S
      ·rw [q1,hup] at y;cases y
      ·by_cases q2:T=z
       ·obtain ⟨T0,_,hz2⟩:=hz'
        rw [q2,oth z _ (Ne.symm s1) hz2] at y;cases y
       ·by_cases q3:T=TO
        ·obtain ⟨_,_,hq⟩:=hTO'
         rw [q3,oth TO _ (Ne.symm s3) hq] at y;cases y
        ·by_cases q4:T=i1
         ·obtain ⟨oo,hoo⟩:=h1'.ex
          rw [q4,oth i1 _ (Ne.symm s4) hoo] at y;cases y
         ·by_cases q5:T=i2
          ·obtain ⟨oo,hoo⟩:=h2'.ex
           rw [q5,oth i2 _ (Ne.symm s5) hoo] at y;cases y
          ·rw [oth T o q1 (kk T o q2 q3 q4 q5 e)] at y;cases y
  obtain ⟨a,b,hTO⟩:=Z.fTO
  rcases Z.fz with ⟨e,hz⟩ | ⟨T,b,hTm,hz⟩
  ·refine wpAny_bind (zf_next_item D hz Z.fTI hTO Z.f1 Z.f2 Z.g1 Z.g2 hx hy fun h' a1 a2 a3 a4 a5 a6 a7=>?_)
   exact step h' false ⟨_,List.mem_append_right _ (List.mem_singleton.mpr rfl),a1⟩ ⟨_,_,a2⟩ a3 a4 a5 fun b o b1 b2 b3 b4 e=>a7 b o b1 b2 b3 b4 e
  ·obtain ⟨j,hj,ej⟩:=List.mem_iff_getElem.mp hTm
   obtain ⟨x,y,_,_,hp⟩:=Z.fm j T (by rw [List.getElem?_eq_getElem hj,ej])
   refine wpAny_bind (zb_next_item D hz hp Z.fTI Z.f1 Z.f2 Z.g1 Z.g2 hx hy fun h' a1 a3 a4 a5 a6 a7=>?_)
   exact step h' true ⟨_,List.mem_append_left _ hTm,a1⟩ ⟨_,_,a7 _ _ D.TOz D.TOi1 D.TOi2 hTO⟩ a3 a4 a5 fun b o b1 _ b3 b4 e=>a7 b o b1 b3 b4 e
theorem zl_nolen:typeLookup (.type "zip") "__len__"=pure none:=by rw [typeLookup_type,builtinLookup_eq_fast];kernel_rfl
theorem zl_nohint:typeLookup (.type "zip") "__length_hint__"=pure none:=by rw [typeLookup_type,builtinLookup_eq_fast];kernel_rfl
theorem zl_hint {z:Addr}{Q:Bool->Shared->Prop}(hT:s.TypeIs (.ref z) "zip")(h:Q true s):wpAny (model prog w) A (Builtin.List.listLengthHint (.ref z)) Q E s:=by
 unfold Builtin.List.listLengthHint
 refine wpAny_bind (wpAny_specialOf hT zl_nolen ?_)
 show wpAny _ A (specialOf (Value.ref z) (Str.ofString "__length_hint__") >>= _) _ _ _
 refine wpAny_bind (wpAny_specialOf hT zl_nohint ?_)
 exact wpAny_pure h
theorem zl_extend {tu:Bool}{z TI TO i1 i2 l1 l2:Addr}{xs ys:Array Value}{R:Result->Shared->Prop}(hh:A.handled=none)(D:ZipApart z TI TO i1 i2 l1 l2)(hxy:xs.size=ys.size)(hn:xs.size<=1000)(hz:IsZip s.heap z TI TO .none)(Z:ZipSt tu s.heap z TI TO i1 i2 l1 l2 xs ys [])(S:Addr)(res:Value)(c0:Nat)
  (hS:s.heap.get? S=some { cls:=.type "list",data:=.seq #[] c0 }) (hSn:S∉[z,TI,TO,i1,i2,l1,l2])
  (hR:∀ (h':Heap) (tk:Nat) (Ts':List Addr) (c':Nat),Ts'.length=xs.size->Ts'.Nodup->(∀ b o,b∉[S,z,TO,i1,i2]->s.heap.get? b=some o->h'.get? b=some o)->h'.get? S=some { cls:=.type "list",dict:=none,data:=.seq (Ts'.map Value.ref).toArray c',slots:=#[] } ->
   (∀ (j:Nat) (T:Addr),Ts'[j]?=some T->∃ x y,xs[j]?=some x/\ys[j]?=some y/\IsPair h' T x y)->(∀ T∈Ts',s.heap.get? T=none)->R (.ok (.ret res)) { s with heap:=h',toks:=tk }) :
  wpAny (model prog w) A.in1 (Builtin.List.listExtendWith (.ref S) (.ref z) res)
   (fun fin s'=>match fin with | .done f=>R (.ok f) s' | .again c'=>c'.quiet=true/\codeAny (model prog w) A c' R s') (fun e s'=>R (.error e) s') s:=by
 have hT:s.TypeIs (.ref z) "zip":=⟨_,hz,rfl⟩
 have hSz:S≠z:=by simp at hSn;exact hSn.1
 have key:∀ (h:Heap) (c1:Nat),ZipSt tu h z TI TO i1 i2 l1 l2 xs ys []->(∀ b o,b≠S->s.heap.get? b=some o->h.get? b=some o)->h.get? S=some { cls:=.type "list",data:=.seq #[] c1 } ->
   codeAny (model prog w) A (.builtin "list.extend.loop" ⟨[.ref S,.ref z,res],[]⟩) R { s with heap:=h }:=by
  intro h c1 Z1 hk hS1
  refine zl_loop hh D hxy hn hSn xs.size [] { s with heap:=h } c1 (by simp) (by simp) Z1 (fun T hT=>by cases hT) List.nodup_nil hS1 fun h' tk Ts' c' l' nd' kk hS' m' new'=>?_
  refine hR h' tk Ts' c' l' nd' (fun b o hb e=>kk b o hb (hk b o (fun y=>hb (by simp [y])) e)) hS' m' fun T hT'=>?_
  rcases new' T hT' with y | y
  ·cases y
  ·cases e:s.heap.get? T with
   | none=>rfl
   | some o =>
    exfalso
    have y:h.get? T=none:=y
    by_cases q:T=S
    ·rw [q,hS1] at y;cases y
    ·rw [hk T o q e] at y;cases y
 unfold Builtin.List.listExtendWith
 refine wpAny_bind (wpAny_typeOf hT ?_)
 have h1:Builtin.List.listSameRef (.ref S) (.ref z)=false:=by simp [Builtin.List.listSameRef,hSz]
 have h2:(Value.type "zip"==Value.type "list")=false:=by decide
 have h3:(Value.type "zip"==Value.type "tuple")=false:=by decide
 simp only [h1,h2,h3,Bool.or_false,Bool.false_eq_true,if_false]
 refine wpAny_bind (wpAny_pyIter_zip hz ?_)
 refine wpAny_bind (wpAny_holding (zl_hint hT ?_))
 refine wpAny_ite_split (fun _=>?_) (fun _=>wpAny_pure ⟨plainId_quiet F.plain_extend_loop _,key _ c0 Z (fun b o _ e=>e) hS⟩)
 refine wpAny_bind (wpAny_rule ?_)
 refine wpAny_bind ?_
 show wpAny _ _ (updateSeq S (·.push .none) >>= fun _=>updateSeq S (·.pop)) _ _ _
 refine wpAny_bind (wpAny_updateSeq hS rfl ?_)
 have hS2:=Heap.get?_update_self (Obj.mapSeq (·.push Value.none)) hS rfl
 refine wpAny_updateSeq (hz:=by seq_fits) hS2 rfl ?_
 have hS3:=Heap.get?_update_self (Obj.mapSeq (·.pop)) hS2 rfl
 have oth:∀ b o,b≠S->s.heap.get? b=some o->((s.heap.update S (Obj.mapSeq (·.push Value.none))).update S (Obj.mapSeq (·.pop))).get? b=some o:=fun b o hb e =>
  (Heap.get?_update_other _ _ (Ne.symm hb)).trans ((Heap.get?_update_other _ _ (Ne.symm hb)).trans e)
 exact wpAny_pure ⟨plainId_quiet F.plain_extend_loop _,key _ _ (Z.keep fun b o hb e=>oth b o (fun y=>hSn (by rw [<- y];simpa using hb)) e) oth hS3⟩
theorem call_list_zip {tu:Bool}{z TI TO i1 i2 l1 l2:Addr}{xs ys:Array Value}{Q:Value->Shared->Prop}(hh:A.handled=none)(D:ZipApart z TI TO i1 i2 l1 l2)(hxy:xs.size=ys.size)(hn:xs.size<=1000)(hz:IsZip s.heap z TI TO .none)(Z:ZipSt tu s.heap z TI TO i1 i2 l1 l2 xs ys [])
  (hQ:∀ (h':Heap) (tk:Nat) (Ts':List Addr) (c':Nat),Ts'.length=xs.size->Ts'.Nodup->(∀ b o,b∉[z,TO,i1,i2]->s.heap.get? b=some o->h'.get? b=some o)->h'.get? s.heap.objs.size=some { cls:=.type "list",dict:=none,data:=.seq (Ts'.map Value.ref).toArray c',slots:=#[] } ->
   (∀ (j:Nat) (T:Addr),Ts'[j]?=some T->∃ x y,xs[j]?=some x/\ys[j]?=some y/\IsPair h' T x y)->(∀ T∈Ts',s.heap.get? T=none/\T≠s.heap.objs.size)->Q (.ref s.heap.objs.size) { s with heap:=h',toks:=tk }) :
  wpAny (model prog w) A (call (.type "list") [.ref z]) Q E s:=by
 obtain ⟨a0,b0,hTO⟩:=Z.fTO
 have hi1:=Z.f1
 obtain ⟨o1,ho1⟩:=hi1.ex
 have hi2:=Z.f2
 obtain ⟨o2,ho2⟩:=hi2.ex
 have hL1:=Z.g1
 obtain ⟨ol1,hol1⟩:=hL1.ex
 have hL2:=Z.g2
 obtain ⟨ol2,hol2⟩:=hL2.ex
 have lt:∀ {b o},s.heap.get? b=some o->s.heap.objs.size≠b:=fun e=>Nat.ne_of_gt (Heap.lt_size e)
 have hSn:s.heap.objs.size∉[z,TI,TO,i1,i2,l1,l2]:=by
  simp
  exact ⟨lt hz,lt Z.fTI,lt hTO,lt ho1,lt ho2,lt hol1,lt hol2⟩
 refine callType_codes (Q₁:=fun obj s1=>obj=.ref s.heap.objs.size/\s1={ s with heap:=s.heap.push { cls:=.type "list",data:=.seq #[] } }) F.called_list (F.typeCall_list_1 _) F.entry_list_init (code_list_new _ ⟨rfl,rfl⟩) fun obj s1 q1=>?_
 obtain ⟨rfl,rfl⟩:=q1
 have hS:(s.heap.push { cls:=.type "list",data:=.seq #[] }).get? s.heap.objs.size=some { cls:=.type "list",data:=.seq #[] }:=Heap.get?_push_size _ rfl
 refine ⟨⟨_,hS,rfl⟩,F.args_list_init_2 _ _,?_⟩
 show wpAny _ _ (do let old <- Builtin.List.listItems (.ref s.heap.objs.size);Builtin.List.listUpdate (.ref s.heap.objs.size) (fun _=>#[]);letGo old.toList.reverse;Builtin.List.listExtendWith (.ref s.heap.objs.size) (.ref z) .none) _ _ _
 refine wpAny_bind ?_
 unfold Builtin.List.listItems
 refine wpAny_bind (wpAny_seqItems hS rfl (wpAny_pure ?_))
 show wpAny _ _ (updateSeq s.heap.objs.size (fun _=>#[]) >>= fun _=>letGo (#[]:Array Value).toList.reverse >>= fun _=>Builtin.List.listExtendWith (.ref s.heap.objs.size) (.ref z) .none) _ _ _
 refine wpAny_bind (wpAny_updateSeq hS rfl ?_)
 have hS2:=Heap.get?_update_self (Obj.mapSeq (fun _=>(#[]:Array Value))) hS rfl
 have oth:∀ b o,b≠s.heap.objs.size->s.heap.get? b=some o->((s.heap.push { cls:=.type "list",data:=.seq #[] }).update s.heap.objs.size (Obj.mapSeq (fun _=>(#[]:Array Value)))).get? b=some o :=
  fun b o hb e=>(Heap.get?_update_other _ _ (Ne.symm hb)).trans (Heap.get?_push_of_some _ e)
 refine wpAny_bind (wpAny_letGo ?_)
 have Z2:=Z.keep (h':=(s.heap.push { cls:=.type "list",data:=.seq #[] }).update s.heap.objs.size (Obj.mapSeq (fun _=>(#[]:Array Value)))) fun b o _ e=>oth b o (Ne.symm (lt e)) e
 refine zl_extend (A:=A.in1) hh D hxy hn (oth _ _ (Ne.symm (lt hz)) hz) Z2 _ .none _ hS2 hSn fun h' tk Ts' c' l' nd' hk hS' m' new'=>?_
 refine ⟨rfl,hQ h' tk Ts' c' l' nd' (fun b o hb e=>hk b o (fun y=>?_) (oth b o (Ne.symm (lt e)) e)) hS' m' fun T hT=>?_⟩
 ·rcases List.mem_cons.mp y with y | y
  ·exact lt e y.symm
  ·exact hb y
 ·have hT2:=new' T hT
  have hne:T≠s.heap.objs.size:=fun y=>by rw [y,hS2] at hT2;cases hT2
  refine ⟨?_,hne⟩
  cases e:s.heap.get? T with
  | none=>rfl
  | some o=>rw [oth T o hne e] at hT2;cases hT2
end
end PySem
namespace L2
open PySem PySem.Spec PyProof.Rows KS
structure NewA (X:Cx)(pins:List (Addr × Obj))(a:Addr):Prop where
 ent:X.s₀.heap.get? a=none
 loc:a≠X.env.locals
 cel:∀ x c,X.env.cells.lookup x=some c->c≠a
 pin:∀ p∈X.pn++pins,p.1≠a
theorem Inv.newA {X:Cx}{pins:List (Addr × Obj)}{σ:St}{H:Hp}{s:Shared}(hex:X.ex=[])(I:Inv X pins σ H s){a:Addr}(h:s.heap.get? a=none):NewA X pins a where
 ent:=by
  cases e:X.s₀.heap.get? a with
  | none=>rfl
  | some o =>
   obtain ⟨o',e'⟩:=I.base.there a o e (by rw [hex];simp)
   rw [h] at e';cases e'
 loc:=fun z=>by
  obtain ⟨m,⟨o,_,_,e,_⟩,_⟩:=I.loc
  rw [<- z,h] at e;cases e
 cel:=fun x c hx z=>by
  obtain ⟨v,o,e,_⟩:=I.cell x c hx
  rw [z,h] at e;cases e
 pin:=fun p hp z=>by
  have:=(I.pin p hp).1
  rw [z,h] at this;cases this
theorem Inv.trackT {X:Cx}{pins:List (Addr × Obj)}{σ:St}{s:Shared}:∀ (qs:List (Addr × V × V)) (H:Hp),Inv X pins σ H s->(∀ q∈qs,H q.1=none/\NewA X pins q.1/\∃ x y,RelV q.2.1 x/\RelV q.2.2 y/\IsPair s.heap q.1 x y)->(qs.map (·.1)).Nodup ->
  ∃ H2,Inv X pins σ H2 s/\Same H H2/\(∀ q∈qs,H2 q.1=some (.tup [q.2.1,q.2.2]))/\∀ b,b∉qs.map (·.1)->H2 b=H b
 | [],H,I,_,_=>⟨H,I,Same.refl H,(fun q hq=>by cases hq),fun _ _=>rfl⟩
 | q::qs,H,I,hq,nd=>by
  obtain ⟨hn,N,x,y,rx,ry,hp⟩:=hq q List.mem_cons_self
  obtain ⟨n1,n2⟩:=List.nodup_cons.mp nd
  have I1:Inv X pins σ (upd H q.1 (.tup [q.2.1,q.2.2])) s:=I.track hn N.ent N.loc N.cel N.pin ⟨by show 2<=sizeLine;rw [sizeLine_eq];decide,[x,y],.cons rx (.cons ry .nil),⟨_,hp,rfl,_,rfl⟩⟩
  obtain ⟨H2,I2,sm,ht,fr⟩:=Inv.trackT qs _ I1 (fun r hr=>by
   obtain ⟨a1,a2,a3⟩:=hq r (List.mem_cons_of_mem _ hr)
   have hne:r.1≠q.1:=fun z=>n1 (List.mem_map.mpr ⟨r,hr,z⟩)
   exact ⟨by rw [upd_ne hne];exact a1,a2,a3⟩) n2
  refine ⟨H2,I2,Same.trans (Same.new hn) sm,fun r hr=>?_,fun b hb=>?_⟩
  ·rcases List.mem_cons.mp hr with z | z
   ·rw [z];exact sm _ _ upd_same
   ·exact ht r z
  ·have hb':b≠q.1/\b∉qs.map (·.1):=by simpa [not_or] using hb
   rw [fr b hb'.2,upd_ne hb'.1]
def tListZip (ta:TA):TE:=fun σ H Q=>ta σ H fun vs H1=>∃ p q xs ys,vs=[.ref p,.ref q]/\((H1 p=some (.lst xs)/\H1 q=some (.lst ys))\/(H1 p=some (.tup xs)/\H1 q=some (.tup ys)))/\xs.length=ys.length/\xs.length<=1000 /\
 ∀ (l:Addr) (ts:List Addr) (H2:Hp),H1 l=none->Same H1 H2->H2 l=some (.lst (ts.map V.ref))->ts.length=xs.length->(∀ (j:Nat) (t:Addr),ts[j]?=some t->∃ x y,xs[j]?=some x/\ys[j]?=some y/\H2 t=some (.tup [x,y]))->Q (.ref l) H2
theorem zapart (n p q:Nat)(h1:p < n)(h2:q < n):ZipApart (n+4) (n+2) (n+3) n (n+1) p q:=by
 constructor <;> (intro z;have z':((_:Nat)=_):=z;omega)
theorem refs_vals:∀ ts:List Addr,Vals (ts.map V.ref) (ts.map Value.ref)
 | []=>.nil
 | t::ts=>.cons rfl (refs_vals ts)
section
variable {X:Cx}
theorem pe_listZip {a b:Expr}{ta:TA}{p1 p2 pos1 pos2:Pos}(hc:X.calm=true)(hex:X.ex=[])(hgL:Gl X "list")(hmL:X.mg "list"=none)(hgZ:Gl X "zip")(hmZ:X.mg "zip"=none)(ha:PA X [a,b] ta)
  (hs:starEach [a,b] X.env=(false,eval a X.env)::starEach [b] X.env:=by rfl) (hpl:(backTo pos2 (starEach [b] X.env)).any (·.1)=false:=by rfl)
  (he:starEach [.Call (.Name "zip" p2) [a,b] [] pos2] X.env=(false,eval (.Call (.Name "zip" p2) [a,b] [] pos2) X.env)::starEach [] X.env:=by rfl) :
  PE X (.Call (.Name "list" p1) [.Call (.Name "zip" p2) [a,b] [] pos2] [] pos1) (tListZip ta):=by
 intro pins s σ H Q I h
 refine wpAny_Call_Name_kw (ld_blt I hgL hmL boot_list ?_)
 refine PyProof.Rows.callWith_type1 ?_ he rfl
 rw [he]
 show wpAny _ _ (spliced ((false,eval (.Call (.Name "zip" p2) [a,b] [] pos2) X.env)::backTo pos1 (starEach [] X.env))) _ _ s
 refine Calls.spliced_cons ?_
 refine wpAny_Call_Name_kw (ld_blt I hgZ hmZ boot_zip (PyProof.Rows.callWith_type1 (thn (ha pos2 pins s σ H _ I h) fun us s1 q1=>?_) hs hpl))
 obtain ⟨vs,H1,I1,r1,p,q,xs,ys,rfl,hpq,hxy,hn,fin⟩:=q1
 obtain ⟨u,u',rfl,ru,ru'⟩:=vals2 r1
 obtain rfl:u=Value.ref p:=ru
 obtain rfl:u'=Value.ref q:=ru'
 obtain ⟨tu,its,its',rv,rv',L1,L2⟩:∃ (tu:Bool) (its its':List Value),Vals xs its/\Vals ys its'/\SqB tu s1.heap p its.toArray/\SqB tu s1.heap q its'.toArray:=by
  rcases hpq with ⟨hp,hq⟩ | ⟨hp,hq⟩
  ·obtain ⟨its,n1,rv,ho,_⟩:=I1.lst hp
   obtain ⟨its',n2,rv',ho',_⟩:=I1.lst hq
   exact ⟨false,its,its',rv,rv',(show s1.heap.IsList p its.toArray from ⟨_,ho,rfl,n1,rfl⟩),(show s1.heap.IsList q its'.toArray from ⟨_,ho',rfl,n2,rfl⟩)⟩
  ·obtain ⟨o,its,n,rv,ho,hc,hd⟩:=tup_obj I1.hok hp
   obtain ⟨o',its',n',rv',ho',hc',hd'⟩:=tup_obj I1.hok hq
   exact ⟨true,its,its',rv,rv',(show s1.heap.IsTuple p its.toArray from ⟨o,ho,hc,n,hd⟩),(show s1.heap.IsTuple q its'.toArray from ⟨o',ho',hc',n',hd'⟩)⟩
 have hl:=rv.length
 have hl':=rv'.length
 obtain ⟨o1,ho⟩:=L1.ex
 obtain ⟨o2,ho'⟩:=L2.ex
 refine call_zg L1 L2 fun h1 a1 a2 a3 a4 a5 a6 a7=>?_
 refine Calls.spliced_nil ?_
 have lp:p < s1.heap.objs.size:=Heap.lt_size ho
 have lq:q < s1.heap.objs.size:=Heap.lt_size ho'
 have I2:Inv X pins σ H1 { s1 with heap:=h1,toks:=s1.toks }:=I1.kept a7
 have D:ZipApart (s1.heap.objs.size+4) (s1.heap.objs.size+2) (s1.heap.objs.size+3) s1.heap.objs.size (s1.heap.objs.size+1) p q:=zapart _ _ _ lp lq
 have Z:ZipSt tu h1 (s1.heap.objs.size+4) (s1.heap.objs.size+2) (s1.heap.objs.size+3) s1.heap.objs.size (s1.heap.objs.size+1) p q its.toArray its'.toArray [] :=
  ⟨.inl ⟨rfl,a1⟩,a2,⟨_,_,a3⟩,a4,a5,L1.at fun o e=>a7 _ o e,L2.at fun o e=>a7 _ o e,fun j T e=>by simp at e⟩
 refine call_list_zip (s:={ s1 with heap:=h1 }) (I.ok.hd hc) D (by simp;omega) (by simp;omega) a1 Z fun h' tk Ts c' hT nd hk hS hm new=>?_
 have fresh:∀ k,H1 (s1.heap.objs.size+k)=none:=fun k=>I1.hok.fresh (Nat.le_add_right _ _)
 have I3:Inv X pins σ H1 { s1 with heap:=h',toks:=tk }:=by
  refine I2.call' (s':={ s1 with heap:=h',toks:=tk }) (ch:=[s1.heap.objs.size+4,s1.heap.objs.size+3,s1.heap.objs.size,s1.heap.objs.size+1]) rfl ⟨fun b o e _ _ hb=>hk b o hb e,fun b o e _ _ hb=>⟨o.slots,hk b o hb e⟩,fun b o e n _=>n,fun b o e hb=>⟨o,hk b o hb e⟩,fun _ _ z=>z,fun _ _ _ z=>z,fun b ps z=>⟨#[],by rw [z];simp⟩⟩ ?_ I2.bare ?_
  ·intro b u e
   have hb:∀ c,(∃ u,H1 c=some u)->c∉[s1.heap.objs.size+4,s1.heap.objs.size+3,s1.heap.objs.size,s1.heap.objs.size+1]:=fun c ⟨u,hu⟩ hc'=>by
    simp at hc'
    have:=fresh 0
    have:=fresh 1
    have:=fresh 3
    have:=fresh 4
    rcases hc' with z | z | z | z <;> (rw [z] at hu;simp_all)
   exact (I2.hok b u e).stay (fun c v hc' q=>hk c v (hb c (by
    rcases hc' with rfl | z
    ·exact ⟨u,e⟩
    ·exact ⟨_,z⟩)) q) (fun _ q=>q) fun _ _ q=>q
  ·intro b hb
   simp at hb
   have key:∀ k,FpOk X pins H1 (s1.heap.objs.size+k):=fun k=>I1.fpOk (Nat.le_add_right _ _) (fresh k)
   have:FpOk X pins H1 b:=by
    rcases hb with rfl | rfl | rfl | rfl
    ·exact key 4
    ·exact key 3
    ·exact key 0
    ·exact key 1
   obtain ⟨_,f1,_,f3,f4,f5⟩:=this
   exact ⟨f3,f1,f4,f5⟩
 have pr:∃ qs:List (Addr × V × V),qs.map (·.1)=Ts/\∀ (j:Nat) (q:Addr × V × V),qs[j]?=some q->xs[j]?=some q.2.1/\ys[j]?=some q.2.2:=by
  have hTl:Ts.length=xs.length:=by rw [hT];simp;omega
  refine ⟨(Ts.zip (xs.zip ys)),?_,fun j q hj=>?_⟩
  ·rw [List.map_fst_zip]
   rw [List.length_zip];omega
  ·obtain ⟨h1,h2⟩:=List.getElem?_zip_eq_some.mp hj
   obtain ⟨h3,h4⟩:=List.getElem?_zip_eq_some.mp h2
   exact ⟨h3,h4⟩
 obtain ⟨qs,eq,hqs⟩:=pr
 have news:∀ T∈Ts,h1.get? T=none/\T≠h1.objs.size:=new
 obtain ⟨H2,I4,sm,ht,fr⟩:=I3.trackT qs H1 (fun q hq'=>by
  obtain ⟨j,hj,ej⟩:=List.mem_iff_getElem.mp hq'
  have hj':qs[j]?=some q:=by rw [List.getElem?_eq_getElem hj,ej]
  obtain ⟨x1,x2⟩:=hqs j q hj'
  have hTj:Ts[j]?=some q.1:=by rw [<- eq,List.getElem?_map,hj'];rfl
  obtain ⟨x,y,e1,e2,e3⟩:=hm j q.1 hTj
  obtain ⟨u1,hu1,r1⟩:=rv.get x1
  obtain ⟨u2,hu2,r2⟩:=rv'.get x2
  simp at e1 e2
  rw [hu1] at e1
  rw [hu2] at e2
  cases e1
  cases e2
  have hn0:=(news q.1 (List.mem_of_getElem? hTj)).1
  refine ⟨?_,I2.newA hex hn0,_,_,r1,r2,e3⟩
  cases z:H1 q.1 with
  | none=>rfl
  | some u =>
   obtain ⟨o,ho⟩:=objOk_there (I2.hok q.1 u z)
   have ho:h1.get? q.1=some o:=ho
   rw [hn0] at ho;cases ho) (by rw [eq];exact nd)
 have nl:H2 h1.objs.size=none:=by
  rw [fr _ (by rw [eq];exact fun z=>(news _ z).2 rfl)]
  exact I2.hok.fresh (Nat.le_refl _)
 have NL:NewA X pins h1.objs.size:=I2.newA hex (Heap.get?_none_of_le (Nat.le_refl _))
 have I5:Inv X pins σ (upd H2 h1.objs.size (.lst (Ts.map V.ref))) { s1 with heap:=h',toks:=tk }:=I4.track nl NL.ent NL.loc NL.cel NL.pin ⟨by rw [List.length_map,hT];simp;rw [sizeLine_eq];omega,Ts.map Value.ref,c',refs_vals Ts,hS⟩
 refine ⟨.ref _,_,I5,rfl,fin _ Ts _ (I2.hok.fresh (Nat.le_refl _)) (Same.trans sm (Same.new nl)) upd_same (by rw [hT];simp;omega) fun j t hj=>?_⟩
 have hj':∃ q,qs[j]?=some q/\q.1=t:=by
  rw [<- eq,List.getElem?_map] at hj
  cases e:qs[j]? with
  | none=>rw [e] at hj;cases hj
  | some q=>rw [e] at hj;exact ⟨q,rfl,Option.some.inj hj⟩
 obtain ⟨q,e1,e2⟩:=hj'
 obtain ⟨x1,x2⟩:=hqs j q e1
 refine ⟨_,_,x1,x2,?_⟩
 have:=ht q (List.mem_of_getElem? e1)
 rw [e2] at this
 rw [upd_ne (ne_of_none this nl)]
 exact this
theorem e_listZip {a b:Expr}{ta:TA}{p1 p2 pos1 pos2:Pos}(hc:X.calm=true)(hex:X.ex=[])(hgL:Gl X "list")(hmL:X.mg "list"=none)(hgZ:Gl X "zip")(hmZ:X.mg "zip"=none)(ha:SA X [a,b] ta)
  (hs:starEach [a,b] X.env=(false,eval a X.env)::starEach [b] X.env:=by rfl) (hpl:(backTo pos2 (starEach [b] X.env)).any (·.1)=false:=by rfl)
  (he:starEach [.Call (.Name "zip" p2) [a,b] [] pos2] X.env=(false,eval (.Call (.Name "zip" p2) [a,b] [] pos2) X.env)::starEach [] X.env:=by rfl) :
  SE X (.Call (.Name "list" p1) [.Call (.Name "zip" p2) [a,b] [] pos2] [] pos1) (tListZip ta):=⟨pe_listZip hc hex hgL hmL hgZ hmZ ha.out hs hpl he⟩
end
end L2
namespace L2
open PySem PySem.Spec PyProof.Rows KS
def ViewO (v d:Addr):HO:=.ext fun h=>h.IsItemsView v d
theorem ViewO.ok {P:Program}{w:World}{H:Hp}{h:Heap}{v d:Addr}(e:h.IsItemsView v d):ObjOk P w H h v (ViewO v d):=by
 obtain ⟨o,h1,h2⟩:=id e
 exact ⟨e,⟨o,h1⟩,fun a b ⟨o',e1,e2⟩ k=>⟨o',k o' e1,e2⟩⟩
def rItems:V->List V->Hp->VK->Prop:=fun x vs H Q=>∃ d kvs,x=.ref d/\vs=[]/\H d=some (.dK kvs)/\∀ v,H v=none->Q (.ref v) (upd H v (ViewO v d))
section
variable {X:Cx}
theorem mt_items:MtM X "dict.items" rItems:=by
 intro pins s σ H x vs v us Q I rx rv h
 obtain ⟨d,kvs,rfl,rfl,hH,q⟩:=h
 cases rx
 have hus:=rv.zero
 subst hus
 obtain ⟨_,hs,ws,r,hd⟩:=I.hok d _ hH
 refine call_meetsIn F.slot_dict_items hd.typeIs F.entry_dict_items (F.args_dict_items_1 _) (meets_dict_items (mixKind X.prog X.w) d hs) ⟨⟨_,hd⟩,?_⟩
 have hn:H s.heap.objs.size=none:=I.fresh
 exact ⟨.ref _,_,I.laid (fun _ _ q=>Heap.get?_push_of_some _ q) (Nat.le_refl _) (ViewO.ok ⟨_,Heap.get?_push_size _ rfl,rfl,rfl⟩),rfl,q _ hn⟩
end
def ItI (o:Obj)(d:Addr)(kvs:List (Key × V)):It :=
 ⟨fun i H=>H d=some (.frz o (.dK kvs))/\i < kvs.length,fun i H x H'=>∃ T p,H T=none/\kvs[i]?=some p/\x=.ref T/\H'=upd H T (.tup [kV p.1,p.2]),fun i H=>H d=some (.frz o (.dK kvs))/\kvs.length<=i⟩
theorem turn_items {P:Program}{w:World}{K:PySem.W.Frag}{elts:List Expr}{x1}{pos:Pos}{o:Obj}{d it:Addr}{kvs:List (Key × V)}{es:Array DictEntry}{ep:Nat}(he:o.data=.dict es ep):Turn P w K (.Tuple elts x1 pos) (ItI o d kvs) [it] it (fun i h=>∃ ok ov,IsItemIter h it d i kvs.length ep ok ov) where
 mem:=by simp
 obj:=fun i h st b hb=>by
  have e:b=it:=by simpa using hb
  subst e
  obtain ⟨ok,ov,st⟩:=st
  exact ⟨_,st,fun v z=>by
   have z':Data.fields _=Data.cell v:=z
   cases z'⟩
 keep:=fun i h h' ⟨ok,ov,st⟩ k=>⟨ok,ov,k it (by simp) _ st⟩
 item:=by
  intro X hP hw hK hc i pins s σ H E I hf st hg
  subst hP hw hK
  obtain ⟨hd,hi⟩:=hg
  obtain ⟨ok,ov,st⟩:=st
  obtain ⟨vs,r,ha⟩:=I.dictAt hd he
  obtain ⟨f0,f1,f2,f3,f4,f5⟩:=hf it (by simp)
  have hl:=r.length
  have hx:kvs[i]?=some kvs[i]:=List.getElem?_eq_getElem hi
  obtain ⟨v,hv,rv⟩:=r.at hx
  rw [hl] at st
  refine wpAny_pyNext_items_item st ha hv fun key h' hk st' hT hsz kk=>⟨_,rfl,?_⟩
  refine wpAny_letOwnedTupleGo_items (s:={ s with heap:=h' }) st' fun h2 st2 sb=>?_
  rw [<- hl] at st2
  have I1:Inv X pins σ H { s with heap:=h' }:=I.turned (t':=s.toks) (fun b o hb e=>kk b o hb e) f0 f1 f3 f4 f5
  have I2:Inv X pins σ H { s with heap:=h2 }:=I1.turned (t':=s.toks) (fun b o hb e=>(sb.2 b hb).trans e) f0 f1 f3 f4 f5
  have lit:it≠s.heap.objs.size:=Nat.ne_of_lt (Heap.lt_size st)
  have hn:H s.heap.objs.size=none:=I.hok.fresh (Nat.le_refl _)
  obtain ⟨_,g1,_,_,g4,g5⟩:=I.fpOk (H':=H) (Nat.le_refl _) hn
  have h2T:h2.get? s.heap.objs.size=some { cls:=.type "tuple",data:=.seq #[key,v] }:=(sb.2 _ (Ne.symm lit)).trans hT
  have I3:Inv X pins σ (upd H s.heap.objs.size (.tup [kV kvs[i].1,kvs[i].2])) { s with heap:=h2 } :=
   I2.track hn (Heap.get?_none_of_le I.sz) g1 g4 g5 ⟨by show 2<=sizeLine;rw [sizeLine_eq];decide,[key,v],.cons (relV_key hk) (.cons rv .nil),⟨_,h2T,rfl,_,rfl⟩⟩
  refine ⟨.ref s.heap.objs.size,_,I3,rfl,⟨_,_,hn,hx,rfl,rfl⟩,⟨_,_,st2⟩,fun b hb=>?_⟩
  have e:b=it:=by simpa using hb
  rw [e,upd_ne lit]
  exact f0
 done:=by
  intro X hP hw hK hc i pins s σ H E I hf st hg
  subst hP hw hK
  obtain ⟨hd,hi⟩:=hg
  obtain ⟨ok,ov,st⟩:=st
  obtain ⟨vs,r,ha⟩:=I.dictAt hd he
  obtain ⟨f0,f1,f2,f3,f4,f5⟩:=hf it (by simp)
  have hl:=r.length
  rw [hl] at st
  exact wpAny_pyNext_items_end (I.ok.hd hc) st ha (by rw [List.getElem?_eq_none_iff];omega) fun h' eb=>⟨rfl,I.turned (t':=s.toks) (fun b o hb e=>eb b o hb e) f0 f1 f3 f4 f5⟩
 self:=fun _ _ _ _ _ ⟨_,_,st⟩ h=>PySem.W.kcp_self st h
section
variable {X:Cx}{elts:List Expr}{x1}{tpos:Pos}
def iItems (te:TE):TI:=fun σ H R=>te σ H fun x H1=>∃ v d kvs,x=.ref v/\H1 v=some (ViewO v d)/\H1 d=some (.dK kvs)/\∀ o,R (ItI o d kvs) (upd H1 d (.frz o (.dK kvs)))
theorem i_items {l:Expr}{te:TE}(hl:SE X l te):SI X (.Tuple elts x1 tpos) l (iItems te):=⟨by
 intro pins s σ H R I h
 refine thn (hl.out pins s σ H _ I h) fun v s1 ⟨x,H1,I1,r1,q1⟩=>?_
 obtain ⟨vw,d,kvs,e,hv,hd,q⟩:=q1
 subst e
 cases r1
 obtain ⟨_,hs,vs,r,o,es,ep,e1,e2,e3,e4⟩:=id (I1.hok d _ hd)
 have I2:=I1.freeze hd e1
 obtain ⟨vs,r,ha⟩:=I2.dictAt upd_same e3
 have view:s1.heap.IsItemsView vw d:=(I1.hok vw _ hv).1
 refine wpAny_pyIter_items view ha ?_
 refine ⟨s1.heap.objs.size,[s1.heap.objs.size],_,_,_,rfl,I2.kept (t':=s1.toks) fun b o e=>Heap.get?_push_of_some _ e,turn_items e3,⟨.none,.none,?_⟩,fun b hb=>?_,q o⟩
 ·show (s1.heap.push _).get? s1.heap.objs.size=_
  rw [Heap.get?_push_size _ rfl,r.length]
  rfl
 ·have e:b=s1.heap.objs.size:=by simpa using hb
  subst e
  exact I2.fpOk (Nat.le_refl _) (I2.hok.fresh (Nat.le_refl _))⟩
end
theorem for_items {o:Obj}{d:Addr}{kvs:List (Key × V)}{g:TG}{tb:TS}{D:Ends}{σ:St}{H:Hp}(Pv:Nat->St->Hp->Prop)(h0:Pv 0 σ H)(hl:∀ i σ H,i<=kvs.length->Pv i σ H->H d=some (.frz o (.dK kvs)))
  (hs:∀ i p σ H T,kvs[i]?=some p->Pv i σ H->H T=none->g (.ref T) σ (upd H T (.tup [kV p.1,p.2])) fun σ2 H2=>tb { D with nx:=Pv (i+1),ct:=Pv (i+1),bk:=D.nx } σ2 H2) (hd:∀ σ H,Pv kvs.length σ H->D.nx σ H) :
  ∃ W:Nat->Nat->St->Hp->Prop,(∃ m,W 0 m σ H)/\∀ i m σ H,W i m σ H ->
   ((ItI o d kvs).stop i H/\D.nx σ H)\/((ItI o d kvs).go i H/\∃ N:St->Hp->Prop,(∀ σ' H',N σ' H'->∃ m',m' < m/\W (i+1) m' σ' H')/\∀ x H',(ItI o d kvs).yld i H x H'->g x σ H' fun σ2 H2=>tb { D with nx:=N,ct:=N,bk:=D.nx } σ2 H2):=by
 refine ⟨fun i m σ H=>m=kvs.length - i/\i<=kvs.length/\Pv i σ H,⟨kvs.length,by simp,Nat.zero_le _,h0⟩,?_⟩
 rintro i m σ H ⟨rfl,hi,p⟩
 have q:=hl i σ H hi p
 by_cases hlt:i < kvs.length
 ·refine .inr ⟨⟨q,hlt⟩,Pv (i+1),fun σ' H' p'=>⟨kvs.length - (i+1),by omega,rfl,hlt,p'⟩,fun x H' y=>?_⟩
  obtain ⟨T,p',hT,hp,e,e2⟩:=y
  subst e e2
  exact hs i p' σ H T hp p hT
 ·obtain rfl:i=kvs.length:=by omega
  exact .inl ⟨⟨q,Nat.le_refl _⟩,hd σ H p⟩
end L2
namespace KM
structure Gr where
 n:Nat
 tg:Nat->Nat
 ch:Nat->List Nat
 gn:Nat->Int
 gs:List (Int × Nat)
def arity:Nat->Nat
 | 3=>2
 | 4=>2
 | 5=>1
 | _=>0
def mkK:Nat->List Kd->Kd
 | 0,_=>.num
 | 1,_=>.tru
 | 3,[a,b]=>.fn a b
 | 4,[a,b]=>.pr a b
 | 5,[a]=>.ls a
 | _,_=>.num
structure Gr.Ok (G:Gr):Prop where
 tg:∀ i,i < G.n->G.tg i < 6
 ar:∀ i,i < G.n->(G.ch i).length=arity (G.tg i)
 lt:∀ i,i < G.n->∀ c∈G.ch i,c < i
 gs:∀ k g,(k,g)∈G.gs->g < G.n/\G.tg g=2/\G.gn g=k
 gg:∀ g,g < G.n->G.tg g=2->(G.gn g,g)∈G.gs
 nd:(G.gs.map (·.1)).Nodup
def fillT (T:Int->Kd)(t:Kd):Kd:=fill (fun k=>some (T k)) t
structure Rho (G:Gr)(T:Int->Kd)(ρ:Nat->Kd):Prop where
 gap:∀ g,g < G.n->G.tg g=2->ρ g=T (G.gn g)
 str:∀ i,i < G.n->G.tg i≠2->ρ i=mkK (G.tg i) ((G.ch i).map ρ)
def valF (G:Gr)(T:Int->Kd):Nat->Nat->Kd
 | 0,_=>.num
 | f+1,i=>if G.tg i=2 then T (G.gn i) else mkK (G.tg i) ((G.ch i).map (valF G T f))
theorem valF_eq {G:Gr}(W:G.Ok)(T:Int->Kd):∀ (f i:Nat),i < G.n->i < f->valF G T f i=valF G T (i+1) i:=by
 intro f
 induction f with
 | zero=>intro i _ h;omega
 | succ f ih =>
  intro i hi hf
  simp only [valF]
  by_cases e:G.tg i=2
  ·rw [if_pos e,if_pos e]
  ·rw [if_neg e,if_neg e]
   congr 1
   apply List.map_congr_left
   intro c hc
   have h1:=W.lt i hi c hc
   by_cases hfi:f=i
   ·rw [hfi]
   ·rw [ih c (by omega) (by omega)]
    have:∀ g,c < g->g<=f->valF G T g c=valF G T (c+1) c:=by
     intro g hg hgf
     by_cases hgf':g=f
     ·rw [hgf'];exact ih c (by omega) (by omega)
     ·clear hfi
      have key:∀ m,c < m->m<=f->valF G T m c=valF G T (c+1) c:=by
       intro m
       induction m with
       | zero=>intro h;omega
       | succ m ihm =>
        intro h1 h2
        by_cases hm:m=c
        ·rw [hm]
        ·have:=ihm (by omega) (by omega)
         rw [<- this]
         exact valF_step W T m c (by omega) (by omega)
      exact key g hg hgf
    exact (this i (by omega) (by omega)).symm
where
 valF_step {G:Gr} (W:G.Ok) (T:Int->Kd):∀ (m c:Nat),c < G.n->c < m->valF G T (m+1) c=valF G T m c:=by
  intro m
  induction m with
  | zero=>intro c _ h;omega
  | succ m ih =>
   intro c hc hm
   show (if G.tg c=2 then T (G.gn c) else mkK (G.tg c) ((G.ch c).map (valF G T (m+1))))=(if G.tg c=2 then T (G.gn c) else mkK (G.tg c) ((G.ch c).map (valF G T m)))
   by_cases e:G.tg c=2
   ·rw [if_pos e,if_pos e]
   ·rw [if_neg e,if_neg e]
    congr 1
    apply List.map_congr_left
    intro d hd
    have:=W.lt c hc d hd
    exact ih d (by omega) (by omega)
theorem rho_exists {G:Gr}(W:G.Ok)(T:Int->Kd):∃ ρ,Rho G T ρ:=by
 refine ⟨fun i=>valF G T (i+1) i,fun g hg e=>?_,fun i hi e=>?_⟩
 ·show (if G.tg g=2 then _ else _)=_
  rw [if_pos e]
 ·show (if G.tg i=2 then _ else mkK (G.tg i) ((G.ch i).map (valF G T i)))=_
  rw [if_neg e]
  congr 1
  apply List.map_congr_left
  intro c hc
  have h1:=W.lt i hi c hc
  exact valF_eq W T i c (by omega) (by omega)
def Tr (G:Gr):Kd->Nat->Prop
 | .num,i=>i < G.n/\G.tg i=0
 | .tru,i=>i < G.n/\G.tg i=1
 | .gap k,i=>i < G.n/\G.tg i=2/\G.gn i=k
 | .fn a b,i=>i < G.n/\G.tg i=3/\∃ x y,G.ch i=[x,y]/\Tr G a x/\Tr G b y
 | .pr a b,i=>i < G.n/\G.tg i=4/\∃ x y,G.ch i=[x,y]/\Tr G a x/\Tr G b y
 | .ls a,i=>i < G.n/\G.tg i=5/\∃ x,G.ch i=[x]/\Tr G a x
theorem Tr.lt {G:Gr}:∀ {d:Kd} {i:Nat},Tr G d i->i < G.n
 | .num,_,h=>h.1
 | .tru,_,h=>h.1
 | .gap _,_,h=>h.1
 | .fn _ _,_,h=>h.1
 | .pr _ _,_,h=>h.1
 | .ls _,_,h=>h.1
theorem tr_val {G:Gr}{T:Int->Kd}{ρ:Nat->Kd}(R:Rho G T ρ):∀ {d:Kd} {i:Nat},Tr G d i->ρ i=fillT T d
 | .num,i,⟨h,e⟩=>by rw [R.str i h (by omega),e];rfl
 | .tru,i,⟨h,e⟩=>by rw [R.str i h (by omega),e];rfl
 | .gap k,i,⟨h,e,g⟩=>by rw [R.gap i h e,g];rfl
 | .fn a b,i,⟨h,e,x,y,c,h1,h2⟩=>by
  rw [R.str i h (by omega),e,c]
  show Kd.fn (ρ x) (ρ y)=Kd.fn _ _
  rw [tr_val R h1,tr_val R h2]
  rfl
 | .pr a b,i,⟨h,e,x,y,c,h1,h2⟩=>by
  rw [R.str i h (by omega),e,c]
  show Kd.pr (ρ x) (ρ y)=Kd.pr _ _
  rw [tr_val R h1,tr_val R h2]
  rfl
 | .ls a,i,⟨h,e,x,c,h1⟩=>by
  rw [R.str i h (by omega),e,c]
  show Kd.ls (ρ x)=Kd.ls _
  rw [tr_val R h1]
  rfl
theorem mkK_tag {g g':Nat}{xs ys:List Kd}(h:g < 6)(h2:g≠2)(h':g' < 6)(h2':g'≠2)(l:xs.length=arity g)(l':ys.length=arity g')(e:mkK g xs=mkK g' ys):g=g'/\xs=ys:=by
 have c:g=0\/g=1\/g=3\/g=4\/g=5:=by omega
 have c':g'=0\/g'=1\/g'=3\/g'=4\/g'=5:=by omega
 have two:∀ {zs:List Kd},zs.length=2->∃ a b,zs=[a,b]:=fun {zs} h=>by
  match zs,h with | [a,b],_=>exact ⟨a,b,rfl⟩
 have one:∀ {zs:List Kd},zs.length=1->∃ a,zs=[a]:=fun {zs} h=>by
  match zs,h with | [a],_=>exact ⟨a,rfl⟩
 have zero:∀ {zs:List Kd},zs.length=0->zs=[]:=fun {zs} h=>List.length_eq_zero_iff.mp h
 rcases c with rfl | rfl | rfl | rfl | rfl <;> rcases c' with rfl | rfl | rfl | rfl | rfl <;> simp only [arity] at l l'
 all_goals first
  | (obtain rfl:=zero l;obtain rfl:=zero l';first | exact ⟨rfl,rfl⟩ | cases e)
  | (obtain rfl:=zero l;obtain ⟨a,b,rfl⟩:=two l';cases e)
  | (obtain rfl:=zero l;obtain ⟨a,rfl⟩:=one l';cases e)
  | (obtain ⟨a,b,rfl⟩:=two l;obtain rfl:=zero l';cases e)
  | (obtain ⟨a,rfl⟩:=one l;obtain rfl:=zero l';cases e)
  | (obtain ⟨a,b,rfl⟩:=two l;obtain ⟨a',b',rfl⟩:=two l';first | (cases e;exact ⟨rfl,rfl⟩) | cases e)
  | (obtain ⟨a,b,rfl⟩:=two l;obtain ⟨a',rfl⟩:=one l';cases e)
  | (obtain ⟨a,rfl⟩:=one l;obtain ⟨a',b',rfl⟩:=two l';cases e)
  | (obtain ⟨a,rfl⟩:=one l;obtain ⟨a',rfl⟩:=one l';cases e;exact ⟨rfl,rfl⟩)
def Rel (n:Nat)(rp:Nat->Nat)(W:List (Nat × Nat))(x y:Nat):Prop:=∀ f:Nat->Nat,(∀ i,i < n->f i=f (rp i))->(∀ p∈W,f p.1=f p.2)->f x=f y
structure Uni (G:Gr)(a b:Kd)(i0 j0:Nat)(rp:Nat->Nat)(W:List (Nat × Nat)):Prop where
 tops:Rel G.n rp W i0 j0
 idem:∀ i,i < G.n->rp i < G.n/\rp (rp i)=rp i
 sol:∀ T ρ,Rho G T ρ->(fillT T a=fillT T b↔(∀ i,i < G.n->ρ i=ρ (rp i))/\∀ p∈W,ρ p.1=ρ p.2)
 cong:∀ i,i < G.n->G.tg i≠2->G.tg (rp i)=G.tg i/\∀ p∈(G.ch i).zip (G.ch (rp i)),Rel G.n rp W p.1 p.2
 wb:∀ p∈W,p.1 < G.n/\p.2 < G.n
theorem uni_start {G:Gr}{a b:Kd}{i j:Nat}(hi:Tr G a i)(hj:Tr G b j):Uni G a b i j id [(i,j)] where
 tops:=fun f _ h=>h (i,j) (List.mem_singleton.mpr rfl)
 idem:=fun i h=>⟨h,rfl⟩
 sol:=fun T ρ R=>by
  rw [<- tr_val R hi,<- tr_val R hj]
  constructor
  ·intro h
   exact ⟨fun _ _=>rfl,fun p hp=>by rw [List.mem_singleton.mp hp];exact h⟩
  ·intro h
   exact h.2 (i,j) (List.mem_singleton.mpr rfl)
 cong:=fun i h _=>⟨rfl,fun p hp f _ _=>by
  have:∀ (l:List Nat) (p:Nat × Nat),p∈l.zip l->p.1=p.2:=by
   intro l
   induction l with
   | nil=>intro p hp;cases hp
   | cons x l ih =>
    intro p hp
    rcases List.mem_cons.mp hp with rfl | hp
    ·rfl
    ·exact ih p hp
  rw [this _ p hp]⟩
 wb:=fun p hp=>by rw [List.mem_singleton.mp hp];exact ⟨hi.lt,hj.lt⟩
theorem uni_same {G:Gr}{a b:Kd}{i0 j0:Nat}{rp:Nat->Nat}{W:List (Nat × Nat)}{x y:Nat}(U:Uni G a b i0 j0 rp ((x,y)::W))(e:rp x=rp y):Uni G a b i0 j0 rp W where
 tops:=fun f h1 h2=>U.tops f h1 fun q hq=>by
  rcases List.mem_cons.mp hq with rfl | hq
  ·show f x=f y
   rw [h1 x (U.wb (x,y) List.mem_cons_self).1,h1 y (U.wb (x,y) List.mem_cons_self).2,e]
  ·exact h2 q hq
 idem:=U.idem
 sol:=fun T ρ R=>by
  rw [U.sol T ρ R]
  have hx:=(U.wb (x,y) List.mem_cons_self).1
  have hy:=(U.wb (x,y) List.mem_cons_self).2
  constructor
  ·exact fun h=>⟨h.1,fun p hp=>h.2 p (List.mem_cons_of_mem _ hp)⟩
  ·refine fun h=>⟨h.1,fun p hp=>?_⟩
   rcases List.mem_cons.mp hp with rfl | hp
   ·show ρ x=ρ y
    rw [h.1 x hx,h.1 y hy,e]
   ·exact h.2 p hp
 cong:=fun i h t=>⟨(U.cong i h t).1,fun p hp f h1 h2=>(U.cong i h t).2 p hp f h1 fun q hq=>by
  rcases List.mem_cons.mp hq with rfl | hq
  ·show f x=f y
   rw [h1 x (U.wb (x,y) List.mem_cons_self).1,h1 y (U.wb (x,y) List.mem_cons_self).2,e]
  ·exact h2 q hq⟩
 wb:=fun p hp=>U.wb p (List.mem_cons_of_mem _ hp)
def glue (rp:Nat->Nat)(v u:Nat):Nat->Nat:=fun i=>if rp i=v then u else rp i
theorem uni_glue {G:Gr}{a b:Kd}{i0 j0:Nat}{rp:Nat->Nat}{W more:List (Nat × Nat)}{x y u v:Nat}(U:Uni G a b i0 j0 rp ((x,y)::W))(hxy:(rp x=u/\rp y=v)\/(rp x=v/\rp y=u))(ne:u≠v)
  (hsol:∀ T ρ,Rho G T ρ->(ρ v=ρ u↔ρ v=ρ u/\∀ p∈more,ρ p.1=ρ p.2)) (hcong:G.tg v≠2->G.tg u=G.tg v/\∀ p∈(G.ch v).zip (G.ch u),p∈more\/(p.2,p.1)∈more)
  (hlen:G.tg v≠2->(G.ch v).length=(G.ch u).length) (hv2:∀ i,i < G.n->G.tg i≠2->rp i=v->(G.ch i).length=(G.ch v).length) (hm:∀ p∈more,p.1 < G.n/\p.2 < G.n):Uni G a b i0 j0 (glue rp v u) (more++W):=by
 have hx:=(U.wb (x,y) List.mem_cons_self).1
 have hy:=(U.wb (x,y) List.mem_cons_self).2
 have hu:u < G.n/\rp u=u:=by
  rcases hxy with ⟨h,_⟩ | ⟨_,h⟩
  ·rw [<- h];exact U.idem x hx
  ·rw [<- h];exact U.idem y hy
 have hv:v < G.n/\rp v=v:=by
  rcases hxy with ⟨_,h⟩ | ⟨h,_⟩
  ·rw [<- h];exact U.idem y hy
  ·rw [<- h];exact U.idem x hx
 have gu:∀ i,rp i=v->glue rp v u i=u:=fun i h=>if_pos h
 have gn:∀ i,rp i≠v->glue rp v u i=rp i:=fun i h=>if_neg h
 have keepOld:∀ {β:Type} (f:Nat->β),(∀ i,i < G.n->f i=f (glue rp v u i))->(∀ i,i < G.n->f i=f (rp i))/\f v=f u:=by
  intro β f h
  have e1:f v=f u:=by rw [h v hv.1,gu v hv.2]
  refine ⟨fun i hi=>?_,e1⟩
  by_cases z:rp i=v
  ·rw [h i hi,gu i z,z,e1]
  ·rw [h i hi,gn i z]
 have keepNew:∀ {β:Type} (f:Nat->β),(∀ i,i < G.n->f i=f (rp i))->f v=f u->∀ i,i < G.n->f i=f (glue rp v u i):=by
  intro β f h e i hi
  by_cases z:rp i=v
  ·rw [gu i z,h i hi,z,e]
  ·rw [gn i z,h i hi]
 have pair:∀ {β:Type} (f:Nat->β),(∀ i,i < G.n->f i=f (rp i))->(f x=f y↔f v=f u):=by
  intro β f h
  rcases hxy with ⟨h1,h2⟩ | ⟨h1,h2⟩
  ·rw [h x hx,h y hy,h1,h2];exact ⟨fun z=>z.symm,fun z=>z.symm⟩
  ·rw [h x hx,h y hy,h1,h2]
 have relUp:∀ c d,Rel G.n rp ((x,y)::W) c d->Rel G.n (glue rp v u) (more++W) c d:=by
  intro c d h f h1 h2
  obtain ⟨o,e⟩:=keepOld f h1
  refine h f o fun p hp=>?_
  rcases List.mem_cons.mp hp with rfl | hp
  ·exact (pair f o).mpr e
  ·exact h2 p (List.mem_append_right _ hp)
 refine ⟨relUp _ _ U.tops,fun i hi=>?_,fun T ρ R=>?_,fun i hi ht=>?_,fun p hp=>?_⟩
 ·by_cases z:rp i=v
  ·rw [gu i z]
   exact ⟨hu.1,by rw [gn u (by rw [hu.2];exact ne),hu.2]⟩
  ·rw [gn i z]
   exact ⟨(U.idem i hi).1,by rw [gn (rp i) (by rw [(U.idem i hi).2];exact z),(U.idem i hi).2]⟩
 ·rw [U.sol T ρ R]
  constructor
  ·rintro ⟨h1,h2⟩
   have e:=(pair ρ h1).mp (h2 (x,y) List.mem_cons_self)
   refine ⟨keepNew ρ h1 e,fun p hp=>?_⟩
   rcases List.mem_append.mp hp with hp | hp
   ·exact ((hsol T ρ R).mp e).2 p hp
   ·exact h2 p (List.mem_cons_of_mem _ hp)
  ·rintro ⟨h1,h2⟩
   obtain ⟨o,e⟩:=keepOld ρ h1
   refine ⟨o,fun p hp=>?_⟩
   rcases List.mem_cons.mp hp with rfl | hp
   ·exact (pair ρ o).mpr e
   ·exact h2 p (List.mem_append_right _ hp)
 ·obtain ⟨c1,c2⟩:=U.cong i hi ht
  by_cases z:rp i=v
  ·rw [gu i z]
   rw [z] at c1 c2
   have hv2':G.tg v≠2:=by rw [c1];exact ht
   obtain ⟨d1,d2⟩:=hcong hv2'
   refine ⟨d1.trans c1,fun p hp=>?_⟩
   obtain ⟨k,hk,ek⟩:=List.mem_iff_getElem.mp hp
   have hk':k < (G.ch i).length/\k < (G.ch u).length:=by
    have:=hk
    rw [List.length_zip] at this
    omega
   have hlv:k < (G.ch v).length:=by rw [hlen hv2'];exact hk'.2
   rw [List.getElem_zip] at ek
   subst ek
   have r1:Rel G.n (glue rp v u) (more++W) (G.ch i)[k] (G.ch v)[k]:=relUp _ _ (c2 ((G.ch i)[k],(G.ch v)[k]) (by
    refine List.mem_iff_getElem.mpr ⟨k,by rw [List.length_zip];omega,?_⟩
    rw [List.getElem_zip]))
   have r2:Rel G.n (glue rp v u) (more++W) (G.ch v)[k] (G.ch u)[k]:=fun f h1 h2=>by
    rcases d2 ((G.ch v)[k],(G.ch u)[k]) (by
     refine List.mem_iff_getElem.mpr ⟨k,by rw [List.length_zip];omega,?_⟩
     rw [List.getElem_zip]) with z | z
    ·exact h2 _ (List.mem_append_left _ z)
    ·exact (h2 _ (List.mem_append_left _ z)).symm
   exact fun f h1 h2=>(r1 f h1 h2).trans (r2 f h1 h2)
  ·rw [gn i z]
   exact ⟨c1,fun p hp=>relUp _ _ (c2 p hp)⟩
 ·rcases List.mem_append.mp hp with hp | hp
  ·exact hm p hp
  ·exact U.wb p (List.mem_cons_of_mem _ hp)
theorem uni_differ {G:Gr}{a b:Kd}{i0 j0:Nat}{rp:Nat->Nat}{W:List (Nat × Nat)}{x y:Nat}(K:G.Ok)(U:Uni G a b i0 j0 rp ((x,y)::W))(h1:G.tg (rp x)≠2)(h2:G.tg (rp y)≠2)(h:G.tg (rp x)≠G.tg (rp y))(T:Int->Kd):fillT T a≠fillT T b:=by
 intro e
 obtain ⟨ρ,R⟩:=rho_exists K T
 obtain ⟨s1,s2⟩:=(U.sol T ρ R).mp e
 have hx:=(U.wb (x,y) List.mem_cons_self).1
 have hy:=(U.wb (x,y) List.mem_cons_self).2
 have e1:ρ (rp x)=ρ (rp y):=by rw [<- s1 x hx,<- s1 y hy];exact s2 (x,y) List.mem_cons_self
 have ix:=U.idem x hx
 have iy:=U.idem y hy
 rw [R.str _ ix.1 h1,R.str _ iy.1 h2] at e1
 exact h (mkK_tag (K.tg _ ix.1) h1 (K.tg _ iy.1) h2 (by rw [List.length_map];exact K.ar _ ix.1) (by rw [List.length_map];exact K.ar _ iy.1) e1).1
theorem zip_map_eq {α:Type}{ρ:Nat->α}:∀ {l r:List Nat},l.length=r.length->(l.map ρ=r.map ρ↔∀ p∈l.zip r,ρ p.1=ρ p.2)
 | [],[],_=>by simp
 | x::l,y::r,h=>by
  have:=zip_map_eq (ρ:=ρ) (show l.length=r.length by simpa using h)
  simp only [List.map_cons,List.cons.injEq,this,List.zip_cons_cons,List.mem_cons,forall_eq_or_imp]
theorem uni_struct {G:Gr}{a b:Kd}{i0 j0:Nat}{rp:Nat->Nat}{W:List (Nat × Nat)}{x y:Nat}(K:G.Ok)(U:Uni G a b i0 j0 rp ((x,y)::W))(ne:rp x≠rp y)(h1:G.tg (rp x)≠2)(h:G.tg (rp x)=G.tg (rp y)):
  Uni G a b i0 j0 (glue rp (rp y) (rp x)) ((G.ch (rp x)).zip (G.ch (rp y))++W):=by
 have hx:=(U.wb (x,y) List.mem_cons_self).1
 have hy:=(U.wb (x,y) List.mem_cons_self).2
 have ix:=U.idem x hx
 have iy:=U.idem y hy
 have hl:(G.ch (rp x)).length=(G.ch (rp y)).length:=by rw [K.ar _ ix.1,K.ar _ iy.1,h]
 refine uni_glue U (.inl ⟨rfl,rfl⟩) ne (fun T ρ R=>?_) (fun _=>⟨h,fun p hp=>.inr ?_⟩) (fun _=>hl.symm) (fun i hi ht z=>?_) (fun p hp=>?_)
 ·constructor
  ·intro e
   refine ⟨e,?_⟩
   rw [R.str _ ix.1 h1,R.str _ iy.1 (by rw [<- h];exact h1)] at e
   have:=(mkK_tag (K.tg _ iy.1) (by rw [<- h];exact h1) (K.tg _ ix.1) h1 (by rw [List.length_map];exact K.ar _ iy.1) (by rw [List.length_map];exact K.ar _ ix.1) e).2
   exact (zip_map_eq hl).mp this.symm
  ·exact fun e=>e.1
 ·obtain ⟨k,hk,ek⟩:=List.mem_iff_getElem.mp hp
  rw [List.length_zip] at hk
  rw [List.getElem_zip] at ek
  subst ek
  refine List.mem_iff_getElem.mpr ⟨k,by rw [List.length_zip];omega,?_⟩
  rw [List.getElem_zip]
 ·rw [K.ar i hi,K.ar _ iy.1,<- (U.cong i hi ht).1,z]
 ·have m:=List.of_mem_zip hp
  have:=K.lt _ ix.1 _ m.1
  have:=K.lt _ iy.1 _ m.2
  omega
theorem uni_any {G:Gr}{a b:Kd}{i0 j0:Nat}{rp:Nat->Nat}{W:List (Nat × Nat)}{x y u v:Nat}(U:Uni G a b i0 j0 rp ((x,y)::W))(hxy:(rp x=u/\rp y=v)\/(rp x=v/\rp y=u))(ne:u≠v)(h:G.tg v=2):Uni G a b i0 j0 (glue rp v u) W:=by
 have:=uni_glue (more:=[]) U hxy ne (fun T ρ R=>by simp) (fun z=>absurd h z) (fun z=>absurd h z) (fun i hi ht z=>?_) (fun p hp=>by cases hp)
 ·simpa using this
 ·have:=(U.cong i hi ht).1
  rw [z,h] at this
  exact absurd this.symm ht
end KM
namespace KM
structure Solved (G:Gr)(a b:Kd)(i0 j0:Nat)(rp:Nat->Nat):Prop where
 ok:G.Ok
 top:rp i0=rp j0
 idem:∀ i,i < G.n->rp i < G.n/\rp (rp i)=rp i
 sol:∀ T ρ,Rho G T ρ->(fillT T a=fillT T b↔∀ i,i < G.n->ρ i=ρ (rp i))
 cong:∀ i,i < G.n->G.tg i≠2->G.tg (rp i)=G.tg i/\(G.ch i).map rp=(G.ch (rp i)).map rp
theorem uni_end {G:Gr}{a b:Kd}{i0 j0:Nat}{rp:Nat->Nat}(K:G.Ok)(U:Uni G a b i0 j0 rp []):Solved G a b i0 j0 rp:=by
 have idm:∀ i,i < G.n->rp i=rp (rp i):=fun i h=>(U.idem i h).2.symm
 refine ⟨K,U.tops rp idm (fun p hp=>by cases hp),U.idem,fun T ρ R=>?_,fun i h t=>?_⟩
 ·rw [U.sol T ρ R]
  exact ⟨fun h=>h.1,fun h=>⟨h,fun p hp=>by cases hp⟩⟩
 ·obtain ⟨c1,c2⟩:=U.cong i h t
  refine ⟨c1,(zip_map_eq ?_).mpr fun p hp=>c2 p hp rp idm (fun p hp=>by cases hp)⟩
  rw [K.ar i h,K.ar _ (U.idem i h).1,c1]
structure Mad (G:Gr)(rp:Nat->Nat)(md:Nat->Option Kd):Prop where
 gap:∀ g,g < G.n->G.tg g=2->md g=some (.gap (G.gn g))
 str:∀ r t,md r=some t->r < G.n/\(G.tg r≠2->∃ ts,(G.ch r).map (fun c=>md (rp c))=ts.map some/\t=mkK (G.tg r) ts)
def lookG (gs:List (Int × Nat))(k:Int):Option Nat:=(gs.find? fun p=>decide (p.1=k)).map (·.2)
theorem lookG_mem {gs:List (Int × Nat)}(nd:(gs.map (·.1)).Nodup){k:Int}{g:Nat}(h:(k,g)∈gs):lookG gs k=some g:=by
 induction gs with
 | nil=>cases h
 | cons p r ih =>
  obtain ⟨n1,n2⟩:=List.nodup_cons.mp nd
  unfold lookG
  rcases List.mem_cons.mp h with rfl | h
  ·simp [List.find?_cons]
  ·have hne:¬ p.1=k:=fun z=>n1 (List.mem_map.mpr ⟨(k,g),h,z.symm⟩)
   have:=ih n2 h
   unfold lookG at this
   simpa [List.find?_cons,hne] using this
theorem lookG_some {gs:List (Int × Nat)}{k:Int}{g:Nat}(h:lookG gs k=some g):(k,g)∈gs:=by
 unfold lookG at h
 cases e:gs.find? fun p=>decide (p.1=k) with
 | none=>rw [e] at h;cases h
 | some p =>
  rw [e] at h
  cases h
  have h1:=List.mem_of_find?_eq_some e
  have h2:=List.find?_some e
  have h3:p.1=k:=of_decide_eq_true h2
  rw [<- h3]
  exact h1
def Ts (G:Gr)(rp:Nat->Nat)(md:Nat->Option Kd)(k:Int):Kd:=match lookG G.gs k with
 | some g=>(md (rp g)).getD (.gap k)
 | none=>.gap k
def told (G:Gr)(rp:Nat->Nat)(md:Nat->Option Kd)(k:Int):Option Kd:=match lookG G.gs k with
 | some g=>if rp g=g then none else md (rp g)
 | none=>none
section
variable {G:Gr}{a b:Kd}{i0 j0:Nat}{rp:Nat->Nat}{md:Nat->Option Kd}
theorem some_two {f:Nat->Option Kd}{x y:Nat}{ts:List Kd}(h:[x,y].map f=ts.map some):∃ u v,ts=[u,v]/\f x=some u/\f y=some v:=by
 match ts,h with
 | [],h=>simp at h
 | [_],h=>simp at h
 | [u,v],h =>
  simp at h
  exact ⟨u,v,rfl,h.1,h.2⟩
 | _::_::_::_,h=>simp at h
theorem some_one {f:Nat->Option Kd}{x:Nat}{ts:List Kd}(h:[x].map f=ts.map some):∃ u,ts=[u]/\f x=some u:=by
 match ts,h with
 | [],h=>simp at h
 | [u],h =>
  simp at h
  exact ⟨u,rfl,h⟩
 | _::_::_,h=>simp at h
theorem made_cong (S:Solved G a b i0 j0 rp)(M:Mad G rp md){i:Nat}(hi:i < G.n)(ht:G.tg i≠2){t:Kd}(h:md (rp i)=some t):∃ ts,(G.ch i).map (fun c=>md (rp c))=ts.map some/\t=mkK (G.tg i) ts:=by
 obtain ⟨c1,c2⟩:=S.cong i hi ht
 obtain ⟨ts,e1,e2⟩:=(M.str _ _ h).2 (by rw [c1];exact ht)
 refine ⟨ts,?_,by rw [<- c1];exact e2⟩
 rw [<- e1]
 have:∀ l:List Nat,l.map (fun c=>md (rp c))=(l.map rp).map md:=fun l=>by rw [List.map_map];rfl
 rw [this,this,c2]
theorem made_val (S:Solved G a b i0 j0 rp)(M:Mad G rp md):∀ {d:Kd} {i:Nat},Tr G d i->∀ t,md (rp i)=some t->t=fillT (Ts G rp md) d
 | .gap k,i,⟨h,e,g⟩,t,ht=>by
  have l:=lookG_mem S.ok.nd (S.ok.gg i h e)
  rw [g] at l
  show t=Ts G rp md k
  unfold Ts
  rw [l]
  show t=(md (rp i)).getD _
  rw [ht]
  rfl
 | .num,i,⟨h,e⟩,t,ht=>by
  obtain ⟨ts,_,e2⟩:=made_cong S M h (by omega) ht
  rw [e2,e]
  rfl
 | .tru,i,⟨h,e⟩,t,ht=>by
  obtain ⟨ts,_,e2⟩:=made_cong S M h (by omega) ht
  rw [e2,e]
  rfl
 | .fn x y,i,⟨h,e,p,q,c,h1,h2⟩,t,ht=>by
  obtain ⟨ts,e1,e2⟩:=made_cong S M h (by omega) ht
  rw [c] at e1
  obtain ⟨u,v,rfl,g1,g2⟩:=some_two e1
  rw [e2,e,made_val S M h1 u g1,made_val S M h2 v g2]
  rfl
 | .pr x y,i,⟨h,e,p,q,c,h1,h2⟩,t,ht=>by
  obtain ⟨ts,e1,e2⟩:=made_cong S M h (by omega) ht
  rw [c] at e1
  obtain ⟨u,v,rfl,g1,g2⟩:=some_two e1
  rw [e2,e,made_val S M h1 u g1,made_val S M h2 v g2]
  rfl
 | .ls x,i,⟨h,e,p,c,h1⟩,t,ht=>by
  obtain ⟨ts,e1,e2⟩:=made_cong S M h (by omega) ht
  rw [c] at e1
  obtain ⟨u,rfl,g1⟩:=some_one e1
  rw [e2,e,made_val S M h1 u g1]
  rfl
theorem made_gaps (S:Solved G a b i0 j0 rp)(M:Mad G rp md):∀ {d:Kd} {i:Nat},Tr G d i->(∃ t,md (rp i)=some t)->∀ k∈gp d,∃ g t,lookG G.gs k=some g/\md (rp g)=some t
 | .gap k,i,⟨h,e,g⟩,⟨t,ht⟩,k',hk=>by
  rw [List.mem_singleton.mp hk]
  have l:=lookG_mem S.ok.nd (S.ok.gg i h e)
  rw [g] at l
  exact ⟨i,t,l,ht⟩
 | .num,i,_,_,k,hk=>by cases hk
 | .tru,i,_,_,k,hk=>by cases hk
 | .fn x y,i,⟨h,e,p,q,c,h1,h2⟩,⟨t,ht⟩,k,hk=>by
  obtain ⟨ts,e1,e2⟩:=made_cong S M h (by omega) ht
  rw [c] at e1
  obtain ⟨u,v,rfl,g1,g2⟩:=some_two e1
  have hk:k∈app (app [] (gp x)) (gp y):=hk
  rw [app_nil] at hk
  rcases mem_app.mp hk with z | z
  ·exact made_gaps S M h1 ⟨u,g1⟩ k z
  ·exact made_gaps S M h2 ⟨v,g2⟩ k z
 | .pr x y,i,⟨h,e,p,q,c,h1,h2⟩,⟨t,ht⟩,k,hk=>by
  obtain ⟨ts,e1,e2⟩:=made_cong S M h (by omega) ht
  rw [c] at e1
  obtain ⟨u,v,rfl,g1,g2⟩:=some_two e1
  have hk:k∈app (app [] (gp x)) (gp y):=hk
  rw [app_nil] at hk
  rcases mem_app.mp hk with z | z
  ·exact made_gaps S M h1 ⟨u,g1⟩ k z
  ·exact made_gaps S M h2 ⟨v,g2⟩ k z
 | .ls x,i,⟨h,e,p,c,h1⟩,⟨t,ht⟩,k,hk=>by
  obtain ⟨ts,e1,e2⟩:=made_cong S M h (by omega) ht
  rw [c] at e1
  obtain ⟨u,rfl,g1⟩:=some_one e1
  have hk:k∈app [] (gp x):=hk
  rw [app_nil] at hk
  exact made_gaps S M h1 ⟨u,g1⟩ k hk
theorem fillT_mkK {T:Int->Kd}{g:Nat}{ts:List Kd}(h:g≠2)(h6:g < 6)(l:ts.length=arity g):fillT T (mkK g ts)=mkK g (ts.map (fillT T)):=by
 have c:g=0\/g=1\/g=3\/g=4\/g=5:=by omega
 rcases c with rfl | rfl | rfl | rfl | rfl <;> simp only [arity] at l
 ·rfl
 ·rfl
 ·match ts,l with | [a,b],_=>rfl
 ·match ts,l with | [a,b],_=>rfl
 ·match ts,l with | [a],_=>rfl
theorem sz_mkK {g:Nat}{ts:List Kd}(h:g≠2)(h6:g < 6)(l:ts.length=arity g):∀ t∈ts,sz t < sz (mkK g ts):=by
 have c:g=0\/g=1\/g=3\/g=4\/g=5:=by omega
 rcases c with rfl | rfl | rfl | rfl | rfl <;> simp only [arity] at l
 ·intro t ht;rw [List.length_eq_zero_iff.mp l] at ht;cases ht
 ·intro t ht;rw [List.length_eq_zero_iff.mp l] at ht;cases ht
 ·match ts,l with
  | [a,b],_ =>
   intro t ht
   simp at ht
   rcases ht with rfl | rfl <;> simp only [mkK,sz] <;> omega
 ·match ts,l with
  | [a,b],_ =>
   intro t ht
   simp at ht
   rcases ht with rfl | rfl <;> simp only [mkK,sz] <;> omega
 ·match ts,l with
  | [a],_ =>
   intro t ht
   simp at ht
   subst ht
   simp only [mkK,sz]
   omega
theorem len_of_some {α β:Type}{l:List α}{ts:List β}{f:α->Option β}(h:l.map f=ts.map some):l.length=ts.length:=by
 have:=congrArg List.length h
 simpa using this
theorem made_any (S:Solved G a b i0 j0 rp)(M:Mad G rp md){T:Int->Kd}{ρ:Nat->Kd}(R:Rho G T ρ)(hr:∀ i,i < G.n->ρ i=ρ (rp i)):∀ (m:Nat) (r:Nat) (t:Kd),sz t<=m->md r=some t->fillT T t=ρ r:=by
 intro m
 induction m with
 | zero=>intro r t h;have:=sz_pos t;omega
 | succ m ih =>
  intro r t hs h
  obtain ⟨hn,hstr⟩:=M.str r t h
  by_cases e:G.tg r=2
  ·rw [M.gap r hn e] at h
   cases h
   rw [R.gap r hn e]
   rfl
  ·obtain ⟨ts,e1,e2⟩:=hstr e
   have hl:ts.length=arity (G.tg r):=by rw [<- len_of_some e1];exact S.ok.ar r hn
   have hz:=sz_mkK e (S.ok.tg r hn) hl
   rw [e2,fillT_mkK e (S.ok.tg r hn) hl,R.str r hn e]
   congr 1
   rw [e2] at hs
   have key:∀ (l:List Nat) (us:List Kd),l.map (fun c=>md (rp c))=us.map some->(∀ c∈l,c < G.n)->(∀ u∈us,sz u<=m)->us.map (fillT T)=l.map ρ:=by
    intro l
    induction l with
    | nil =>
     intro us h _ _
     cases us with
     | nil=>rfl
     | cons _ _=>cases h
    | cons c l ihl =>
     intro us h hc hu
     cases us with
     | nil=>cases h
     | cons u us =>
      have h1:md (rp c)=some u:=(List.cons.inj h).1
      have h2:=(List.cons.inj h).2
      rw [List.map_cons,List.map_cons,ihl us h2 (fun x hx=>hc x (List.mem_cons_of_mem _ hx)) (fun x hx=>hu x (List.mem_cons_of_mem _ hx)),ih (rp c) u (hu u List.mem_cons_self) h1,hr c (hc c List.mem_cons_self)]
   exact key _ ts e1 (fun c hc=>by have:=S.ok.lt r hn c hc;omega) fun u hu=>by have:=hz u hu;omega
theorem most_gen (S:Solved G a b i0 j0 rp)(M:Mad G rp md){T:Int->Kd}(h:fillT T a=fillT T b)(k:Int):fillT T (Ts G rp md k)=T k:=by
 obtain ⟨ρ,R⟩:=rho_exists S.ok T
 have hr:=(S.sol T ρ R).mp h
 unfold Ts
 cases e:lookG G.gs k with
 | none=>rfl
 | some g =>
  obtain ⟨g1,g2,g3⟩:=S.ok.gs k g (lookG_some e)
  show fillT T ((md (rp g)).getD (.gap k))=_
  cases e2:md (rp g) with
  | none=>rfl
  | some t =>
   show fillT T t=_
   rw [made_any S M R hr _ _ _ (Nat.le_refl _) e2,<- hr g g1,R.gap g g1 g2,g3]
theorem made_free (S:Solved G a b i0 j0 rp)(M:Mad G rp md):∀ (m:Nat) (r:Nat) (t:Kd),sz t<=m->rp r=r->md r=some t->∀ k∈gp t,∃ g,(k,g)∈G.gs/\rp g=g:=by
 intro m
 induction m with
 | zero=>intro r t h;have:=sz_pos t;omega
 | succ m ih =>
  intro r t hs hroot h k hk
  obtain ⟨hn,hstr⟩:=M.str r t h
  by_cases e:G.tg r=2
  ·rw [M.gap r hn e] at h
   cases h
   rw [List.mem_singleton.mp hk]
   exact ⟨r,S.ok.gg r hn e,hroot⟩
  ·obtain ⟨ts,e1,e2⟩:=hstr e
   have hl:ts.length=arity (G.tg r):=by rw [<- len_of_some e1];exact S.ok.ar r hn
   have hz:=sz_mkK e (S.ok.tg r hn) hl
   rw [e2] at hs
   have mem:∃ u∈ts,k∈gp u:=by
    rw [e2] at hk
    have c:G.tg r=0\/G.tg r=1\/G.tg r=3\/G.tg r=4\/G.tg r=5:=by have:=S.ok.tg r hn;omega
    rcases c with c | c | c | c | c <;> rw [c] at hk hl <;> simp only [arity] at hl
    ·cases hk
    ·cases hk
    ·match ts,hl with
     | [x,y],_ =>
      have hk:k∈app (app [] (gp x)) (gp y):=hk
      rw [app_nil] at hk
      rcases mem_app.mp hk with z | z
      ·exact ⟨x,by simp,z⟩
      ·exact ⟨y,by simp,z⟩
    ·match ts,hl with
     | [x,y],_ =>
      have hk:k∈app (app [] (gp x)) (gp y):=hk
      rw [app_nil] at hk
      rcases mem_app.mp hk with z | z
      ·exact ⟨x,by simp,z⟩
      ·exact ⟨y,by simp,z⟩
    ·match ts,hl with
     | [x],_ =>
      have hk:k∈app [] (gp x):=hk
      rw [app_nil] at hk
      exact ⟨x,by simp,hk⟩
   obtain ⟨u,hu,hku⟩:=mem
   have:∃ c∈G.ch r,md (rp c)=some u:=by
    have hm:some u∈(G.ch r).map (fun c=>md (rp c)):=by rw [e1];exact List.mem_map_of_mem hu
    obtain ⟨c,hc,ec⟩:=List.mem_map.mp hm
    exact ⟨c,hc,ec⟩
   obtain ⟨c,hc,ec⟩:=this
   have hcn:c < G.n:=by have:=S.ok.lt r hn c hc;omega
   exact ih (rp c) u (by have:=hz u hu;omega) (S.idem c hcn).2 ec k hku
theorem told_none {k:Int}(h:told G rp md k=none)(M:Mad G rp md)(S:Solved G a b i0 j0 rp):Ts G rp md k=.gap k:=by
 unfold told at h
 unfold Ts
 cases e:lookG G.gs k with
 | none=>rfl
 | some g =>
  rw [e] at h
  obtain ⟨g1,g2,g3⟩:=S.ok.gs k g (lookG_some e)
  show (md (rp g)).getD (.gap k)=_
  by_cases z:rp g=g
  ·rw [z,M.gap g g1 g2,g3];rfl
  ·have h:(if rp g=g then none else md (rp g))=none:=h
   rw [if_neg z] at h
   rw [h];rfl
theorem told_some {k:Int}{t:Kd}(h:told G rp md k=some t):Ts G rp md k=t:=by
 unfold told at h
 unfold Ts
 cases e:lookG G.gs k with
 | none=>rw [e] at h;cases h
 | some g =>
  rw [e] at h
  have h:(if rp g=g then none else md (rp g))=some t:=h
  by_cases z:rp g=g
  ·rw [if_pos z] at h;cases h
  ·rw [if_neg z] at h
   show (md (rp g)).getD _=t
   rw [h];rfl
theorem fill_told (M:Mad G rp md)(S:Solved G a b i0 j0 rp)(d:Kd):fill (told G rp md) d=fillT (Ts G rp md) d:=by
 refine fill_congr d fun k _=>?_
 show (told G rp md k).getD (.gap k)=Ts G rp md k
 cases e:told G rp md k with
 | none=>exact (told_none e M S).symm
 | some t=>exact (told_some e).symm
structure Joins (a b:Kd)(m:Int->Option Kd):Prop where
 same:fill m a=fill m b
 keys:∀ k t,m k=some t->k∈gp a\/k∈gp b
 free:∀ k t,m k=some t->∀ j∈gp t,m j=none
 inn:∀ k t,m k=some t->∀ j∈gp t,j∈gp a\/j∈gp b
 wide:∀ T:Int->Kd,fillT T a=fillT T b->fillT T (fill m a)=fillT T a
theorem joins_of (S:Solved G a b i0 j0 rp)(M:Mad G rp md)(hi:Tr G a i0)(hj:Tr G b j0)(hk:∀ k g,(k,g)∈G.gs->k∈gp a\/k∈gp b){t:Kd}(ht:md (rp i0)=some t):Joins a b (told G rp md) where
 same:=by
  rw [fill_told M S,fill_told M S,<- made_val S M hi t ht,<- made_val S M hj t (by rw [<- S.top];exact ht)]
 keys:=fun k t' h=>by
  unfold told at h
  cases e:lookG G.gs k with
  | none=>rw [e] at h;cases h
  | some g=>exact hk k g (lookG_some e)
 free:=fun k t' h j hj'=>by
  have h0:=h
  unfold told at h
  cases e:lookG G.gs k with
  | none=>rw [e] at h;cases h
  | some g =>
   rw [e] at h
   have h:(if rp g=g then none else md (rp g))=some t':=h
   obtain ⟨g1,g2,g3⟩:=S.ok.gs k g (lookG_some e)
   by_cases z:rp g=g
   ·rw [if_pos z] at h;cases h
   ·rw [if_neg z] at h
    obtain ⟨g',hg',hr⟩:=made_free S M _ _ _ (Nat.le_refl _) (S.idem g g1).2 h j hj'
    unfold told
    rw [lookG_mem S.ok.nd hg']
    show (if rp g'=g' then none else md (rp g'))=none
    rw [if_pos hr]
 inn:=fun k t' h j hj'=>by
  unfold told at h
  cases e:lookG G.gs k with
  | none=>rw [e] at h;cases h
  | some g =>
   rw [e] at h
   have h:(if rp g=g then none else md (rp g))=some t':=h
   obtain ⟨g1,g2,g3⟩:=S.ok.gs k g (lookG_some e)
   by_cases z:rp g=g
   ·rw [if_pos z] at h;cases h
   ·rw [if_neg z] at h
    obtain ⟨g',hg',hr⟩:=made_free S M _ _ _ (Nat.le_refl _) (S.idem g g1).2 h j hj'
    exact hk j g' hg'
 wide:=fun T h=>by
  rw [fill_told M S]
  show fill _ (fill _ a)=_
  rw [fill_fill]
  refine fill_congr a fun k _=>?_
  show fillT T (Ts G rp md k)=T k
  exact most_gen S M h k
end
end KM
namespace KM
def cnt (p:Nat->Bool):Nat->Nat
 | 0=>0
 | n+1=>cnt p n+(if p n then 1 else 0)
theorem cnt_le {p q:Nat->Bool}(h:∀ i,p i=true->q i=true):∀ n,cnt p n<=cnt q n
 | 0=>Nat.le_refl _
 | n+1=>by
  have:=cnt_le h n
  show cnt p n+(if p n then 1 else 0)<=cnt q n+(if q n then 1 else 0)
  by_cases e:p n=true
  ·rw [if_pos e,if_pos (h n e)];omega
  ·rw [if_neg e];omega
theorem cnt_lt {p q:Nat->Bool}(h:∀ i,p i=true->q i=true){j:Nat}(h1:q j=true)(h2:¬ p j=true):∀ {n},j < n->cnt p n < cnt q n
 | 0,hj=>by omega
 | n+1,hj=>by
  show cnt p n+(if p n then 1 else 0) < cnt q n+(if q n then 1 else 0)
  by_cases e:j=n
  ·subst e
   rw [if_neg h2,if_pos h1]
   have:=cnt_le h j
   omega
  ·have:=cnt_lt h h1 h2 (n:=n) (by omega)
   by_cases e:p n=true
   ·rw [if_pos e,if_pos (h n e)];omega
   ·rw [if_neg e];omega
structure UF (n:Nat)(par rp rk:Nat->Nat):Prop where
 lt:∀ i,i < n->par i < n
 rpp:∀ i,i < n->rp (par i)=rp i
 root:∀ i,i < n->par i=i->rp i=i
 up:∀ i,i < n->par i≠i->rk (par i) < rk i
 idem:∀ i,i < n->rp i < n/\rp (rp i)=rp i
 top:∀ i,i < n->par (rp i)=rp i
def updP (f:Nat->Nat)(i x:Nat):Nat->Nat:=fun j=>if j=i then x else f j
theorem updP_same {f:Nat->Nat}{i x:Nat}:updP f i x i=x:=if_pos rfl
theorem updP_other {f:Nat->Nat}{i x j:Nat}(h:j≠i):updP f i x j=f j:=if_neg h
theorem UF.start (n:Nat):UF n id id (fun _=>0):=⟨fun _ h=>h,fun _ _=>rfl,fun _ _ _=>rfl,fun _ _ h=>absurd rfl h,fun _ h=>⟨h,rfl⟩,fun _ _=>rfl⟩
theorem UF.halve {n:Nat}{par rp rk:Nat->Nat}(U:UF n par rp rk){i:Nat}(hi:i < n)(hne:par i≠i):UF n (updP par i (par (par i))) rp rk where
 lt:=fun j hj=>by
  by_cases e:j=i
  ·rw [e,updP_same];exact U.lt _ (U.lt _ hi)
  ·rw [updP_other e];exact U.lt _ hj
 rpp:=fun j hj=>by
  by_cases e:j=i
  ·rw [e,updP_same,U.rpp _ (U.lt _ hi),U.rpp _ hi]
  ·rw [updP_other e];exact U.rpp _ hj
 root:=fun j hj h=>by
  by_cases e:j=i
  ·rw [e,updP_same] at h
   have h1:=U.up i hi hne
   by_cases z:par (par i)=par i
   ·rw [z] at h;exact absurd h hne
   ·have h2:=U.up _ (U.lt _ hi) z
    rw [h] at h2
    omega
  ·rw [updP_other e] at h;exact U.root _ hj h
 up:=fun j hj h=>by
  by_cases e:j=i
  ·rw [e,updP_same]
   have h1:=U.up i hi hne
   by_cases z:par (par i)=par i
   ·rw [z];exact h1
   ·have h2:=U.up _ (U.lt _ hi) z
    omega
  ·rw [updP_other e] at h ⊢;exact U.up _ hj h
 idem:=U.idem
 top:=fun j hj=>by
  have hne':rp j≠i:=fun z=>by
   have:=U.top j hj
   rw [z] at this
   exact hne this
  rw [updP_other hne']
  exact U.top j hj
theorem UF.union {n:Nat}{par rp rk:Nat->Nat}(U:UF n par rp rk){u v:Nat}(hu:u < n)(hv:v < n)(ru:rp u=u)(rv:rp v=v)(hne:u≠v):UF n (updP par v u) (glue rp v u) (fun i=>if rp i=v then rk i+rk u+1 else rk i) where
 lt:=fun j hj=>by
  by_cases e:j=v
  ·rw [e,updP_same];exact hu
  ·rw [updP_other e];exact U.lt _ hj
 rpp:=fun j hj=>by
  by_cases e:j=v
  ·rw [e,updP_same]
   show (if rp u=v then u else rp u)=(if rp v=v then u else rp v)
   rw [ru,if_neg hne,if_pos rv]
  ·rw [updP_other e]
   show (if rp (par j)=v then u else rp (par j))=(if rp j=v then u else rp j)
   rw [U.rpp j hj]
 root:=fun j hj h=>by
  by_cases e:j=v
  ·rw [e,updP_same] at h;exact absurd h hne
  ·rw [updP_other e] at h
   show (if rp j=v then u else rp j)=j
   rw [U.root j hj h,if_neg e]
 up:=fun j hj h=>by
  show (if rp (updP par v u j)=v then rk (updP par v u j)+rk u+1 else rk (updP par v u j)) < (if rp j=v then rk j+rk u+1 else rk j)
  by_cases e:j=v
  ·rw [e,updP_same,ru,if_neg hne,rv,if_pos rfl];omega
  ·rw [updP_other e] at h ⊢
   have:=U.up j hj h
   rw [U.rpp j hj]
   by_cases z:rp j=v
   ·rw [if_pos z,if_pos z];omega
   ·rw [if_neg z,if_neg z];exact this
 idem:=fun j hj=>by
  show (if rp j=v then u else rp j) < n/\(if rp (if rp j=v then u else rp j)=v then u else rp (if rp j=v then u else rp j))=(if rp j=v then u else rp j)
  by_cases z:rp j=v
  ·rw [if_pos z]
   exact ⟨hu,by rw [ru,if_neg hne]⟩
  ·rw [if_neg z]
   have:=U.idem j hj
   exact ⟨this.1,by rw [this.2,if_neg z]⟩
 top:=fun j hj=>by
  show updP par v u (if rp j=v then u else rp j)=(if rp j=v then u else rp j)
  by_cases z:rp j=v
  ·rw [if_pos z,updP_other hne]
   have:=U.top u hu
   rw [ru] at this
   exact this
  ·rw [if_neg z,updP_other z]
   exact U.top j hj
def roots (rp:Nat->Nat)(n:Nat):Nat:=cnt (fun i=>decide (rp i=i)) n
theorem roots_glue {n:Nat}{rp:Nat->Nat}{u v:Nat}(hv:v < n)(ru:rp u=u)(rv:rp v=v)(hne:u≠v):roots (glue rp v u) n < roots rp n:=by
 refine cnt_lt (j:=v) (fun i h=>?_) (decide_eq_true rv) (fun h=>?_) hv
 ·have h:(if rp i=v then u else rp i)=i:=of_decide_eq_true h
  refine decide_eq_true ?_
  by_cases z:rp i=v
  ·rw [if_pos z] at h
   rw [<- h,ru]
  ·rw [if_neg z] at h;exact h
 ·have h:(if rp v=v then u else rp v)=v:=of_decide_eq_true h
  rw [if_pos rv] at h
  exact hne h
theorem Uni.perm {G:Gr}{a b:Kd}{i0 j0:Nat}{rp:Nat->Nat}{W W':List (Nat × Nat)}(U:Uni G a b i0 j0 rp W)(h:∀ p,p∈W↔p∈W'):Uni G a b i0 j0 rp W':=by
 have hr:∀ x y,Rel G.n rp W x y->Rel G.n rp W' x y:=fun x y r f h1 h2=>r f h1 fun p hp=>h2 p ((h p).mp hp)
 refine ⟨hr _ _ U.tops,U.idem,fun T ρ R=>?_,fun i hi ht=>⟨(U.cong i hi ht).1,fun p hp=>hr _ _ ((U.cong i hi ht).2 p hp)⟩,fun p hp=>U.wb p ((h p).mpr hp)⟩
 rw [U.sol T ρ R]
 exact ⟨fun z=>⟨z.1,fun p hp=>z.2 p ((h p).mpr hp)⟩,fun z=>⟨z.1,fun p hp=>z.2 p ((h p).mp hp)⟩⟩
def Ed (G:Gr)(rp:Nat->Nat)(x y:Nat):Prop:=x < G.n/\∃ c∈G.ch x,y=rp c
inductive Rch (G:Gr)(rp:Nat->Nat):Nat->Nat->Prop
 | one {x y}:Ed G rp x y->Rch G rp x y
 | more {x y z}:Rch G rp x y->Ed G rp y z->Rch G rp x z
section
variable {G:Gr}{a b:Kd}{i0 j0:Nat}{rp:Nat->Nat}{md:Nat->Option Kd}
theorem ch_tag (K:G.Ok){x c:Nat}(hx:x < G.n)(hc:c∈G.ch x):G.tg x≠2:=fun e=>by
 have:=K.ar x hx
 rw [e] at this
 rw [List.length_eq_zero_iff.mp this] at hc
 cases hc
theorem Ed.sz (S:Solved G a b i0 j0 rp){T:Int->Kd}{ρ:Nat->Kd}(R:Rho G T ρ)(hr:∀ i,i < G.n->ρ i=ρ (rp i)){x y:Nat}(h:Ed G rp x y):sz (ρ y) < sz (ρ x):=by
 obtain ⟨hx,c,hc,rfl⟩:=h
 have ht:=ch_tag S.ok hx hc
 have hl:=S.ok.lt x hx c hc
 rw [R.str x hx ht,<- hr c (by omega)]
 refine sz_mkK ht (S.ok.tg x hx) (by rw [List.length_map];exact S.ok.ar x hx) _ (List.mem_map_of_mem hc)
theorem Rch.sz (S:Solved G a b i0 j0 rp){T:Int->Kd}{ρ:Nat->Kd}(R:Rho G T ρ)(hr:∀ i,i < G.n->ρ i=ρ (rp i)){x y:Nat}(h:Rch G rp x y):sz (ρ y) < sz (ρ x):=by
 induction h with
 | one h=>exact h.sz S R hr
 | more _ h ih=>have:=h.sz S R hr;omega
theorem no_cycle (S:Solved G a b i0 j0 rp){x:Nat}(h:Rch G rp x x)(T:Int->Kd):fillT T a≠fillT T b:=by
 intro e
 obtain ⟨ρ,R⟩:=rho_exists S.ok T
 have:=h.sz S R ((S.sol T ρ R).mp e)
 omega
structure Dfs (G:Gr)(rp:Nat->Nat)(root:Nat)(md:Nat->Option Kd)(bg:Nat->Bool)(stk:List Nat):Prop where
 mad:Mad G rp md
 sub:∀ x∈stk,x < G.n/\rp x=x
 act:∀ x,bg x=true->md x=none->∃ pre post,stk=pre++x::post/\(∀ y∈pre,Rch G rp x y)/\∀ c∈G.ch x,md (rp c)≠none\/rp c∈pre
 got:md root≠none\/root∈stk
def updK (md:Nat->Option Kd)(i:Nat)(t:Kd):Nat->Option Kd:=fun j=>if j=i then some t else md j
def miss (G:Gr)(rp:Nat->Nat)(md:Nat->Option Kd)(x:Nat):List Nat:=((G.ch x).map rp).filter fun c=>(md c).isNone
def gapsMade (G:Gr)(r:Nat):Option Kd:=if r < G.n/\G.tg r=2 then some (.gap (G.gn r)) else none
theorem dfs_start {root:Nat}(h:root < G.n)(hr:rp root=root):Dfs G rp root (gapsMade G) (fun _=>false) [root] where
 mad:=⟨fun g hg e=>if_pos ⟨hg,e⟩,fun r t h=>by
  unfold gapsMade at h
  by_cases z:r < G.n/\G.tg r=2
  ·exact ⟨z.1,fun z'=>absurd z.2 z'⟩
  ·rw [if_neg z] at h;cases h⟩
 sub:=fun x hx=>by rw [List.mem_singleton.mp hx];exact ⟨h,hr⟩
 act:=fun x hx=>by cases hx
 got:=.inr (List.mem_singleton.mpr rfl)
variable {root x:Nat}{bg:Nat->Bool}{rest:List Nat}
theorem dfs_pop (D:Dfs G rp root md bg (x::rest))(h:md x≠none):Dfs G rp root md bg rest where
 mad:=D.mad
 sub:=fun y hy=>D.sub y (List.mem_cons_of_mem _ hy)
 act:=fun y hb hm=>by
  obtain ⟨pre,post,e,h1,h2⟩:=D.act y hb hm
  cases pre with
  | nil =>
   rw [List.nil_append] at e
   rw [(List.cons.inj e).1] at h
   exact absurd hm h
  | cons z pre =>
   obtain ⟨e1,e2⟩:=List.cons.inj e
   refine ⟨pre,post,e2,fun w hw=>h1 w (List.mem_cons_of_mem _ hw),fun c hc=>?_⟩
   rcases h2 c hc with z' | z'
   ·exact .inl z'
   ·rcases List.mem_cons.mp z' with z' | z'
    ·rw [<- e1] at z'
     rw [z']
     exact .inl h
    ·exact .inr z'
 got:=by
  rcases D.got with z | z
  ·exact .inl z
  ·rcases List.mem_cons.mp z with z | z
   ·rw [z];exact .inl h
   ·exact .inr z
theorem dfs_make (D:Dfs G rp root md bg (x::rest))(h:md x=none){ts:List Kd}(ht:(G.ch x).map (fun c=>md (rp c))=ts.map some):Dfs G rp root (updK md x (mkK (G.tg x) ts)) bg (x::rest) where
 mad:=by
  have hx:=(D.sub x List.mem_cons_self).1
  have keep:∀ c t,md c=some t->updK md x (mkK (G.tg x) ts) c=some t:=fun c t hc=>by
   unfold updK
   by_cases z:c=x
   ·rw [z,h] at hc;cases hc
   ·rw [if_neg z];exact hc
  have keepL:∀ (l:List Nat) (us:List Kd),l.map (fun c=>md (rp c))=us.map some->l.map (fun c=>updK md x (mkK (G.tg x) ts) (rp c))=us.map some:=by
   intro l
   induction l with
   | nil=>intro us h;exact h
   | cons c l ih =>
    intro us h
    cases us with
    | nil=>cases h
    | cons u us =>
     have h1:md (rp c)=some u:=(List.cons.inj h).1
     rw [List.map_cons,List.map_cons,ih us (List.cons.inj h).2,keep _ _ h1]
  refine ⟨fun g hg e=>keep _ _ (D.mad.gap g hg e),fun r t hr=>?_⟩
  by_cases z:r=x
  ·subst z
   have hr:(if r=r then some (mkK (G.tg r) ts) else md r)=some t:=hr
   rw [if_pos rfl] at hr
   exact ⟨hx,fun _=>⟨ts,keepL _ _ ht,(Option.some.inj hr).symm⟩⟩
  ·have hr:(if r=x then some (mkK (G.tg x) ts) else md r)=some t:=hr
   rw [if_neg z] at hr
   obtain ⟨h1,h2⟩:=D.mad.str r t hr
   refine ⟨h1,fun e=>?_⟩
   obtain ⟨us,e1,e2⟩:=h2 e
   exact ⟨us,keepL _ _ e1,e2⟩
 sub:=D.sub
 act:=fun y hb hm=>by
  have hm:(if y=x then some (mkK (G.tg x) ts) else md y)=none:=hm
  by_cases z:y=x
  ·rw [if_pos z] at hm;cases hm
  ·rw [if_neg z] at hm
   obtain ⟨pre,post,e,h1,h2⟩:=D.act y hb hm
   refine ⟨pre,post,e,h1,fun c hc=>?_⟩
   rcases h2 c hc with z' | z'
   ·refine .inl fun z''=>z' ?_
    have z'':(if rp c=x then some (mkK (G.tg x) ts) else md (rp c))=none:=z''
    by_cases q:rp c=x
    ·rw [if_pos q] at z'';cases z''
    ·rw [if_neg q] at z'';exact z''
   ·exact .inr z'
 got:=by
  rcases D.got with z | z
  ·refine .inl fun z''=>z ?_
   have z'':(if root=x then some (mkK (G.tg x) ts) else md root)=none:=z''
   by_cases q:root=x
   ·rw [if_pos q] at z'';cases z''
   ·rw [if_neg q] at z'';exact z''
  ·exact .inr z
theorem miss_nil (h:miss G rp md x=[]):∃ ts:List Kd,(G.ch x).map (fun c=>md (rp c))=ts.map some:=by
 unfold miss at h
 generalize G.ch x=l at h
 induction l with
 | nil=>exact ⟨[],rfl⟩
 | cons c l ih =>
  rw [List.map_cons,List.filter_cons] at h
  cases e:md (rp c) with
  | none=>rw [e] at h;cases h
  | some t =>
   rw [e] at h
   obtain ⟨ts,hts⟩:=ih h
   exact ⟨t::ts,by rw [List.map_cons,List.map_cons,hts,e]⟩
theorem mem_miss {c:Nat}(h:c∈G.ch x)(hm:md (rp c)=none):rp c∈miss G rp md x:=List.mem_filter.mpr ⟨List.mem_map_of_mem h,by show (md (rp c)).isNone=true;rw [hm];rfl⟩
theorem of_miss {y:Nat}(h:y∈miss G rp md x):∃ c∈G.ch x,y=rp c/\md y=none:=by
 obtain ⟨h1,h2⟩:=List.mem_filter.mp h
 obtain ⟨c,hc,e⟩:=List.mem_map.mp h1
 exact ⟨c,hc,e.symm,Option.isNone_iff_eq_none.mp h2⟩
theorem dfs_begin (S:Solved G a b i0 j0 rp)(D:Dfs G rp root md bg (x::rest))(h:md x=none)(hb:bg x=false):Dfs G rp root md (fun y=>if y=x then true else bg y) ((miss G rp md x).reverse++x::rest) where
 mad:=D.mad
 sub:=fun y hy=>by
  rcases List.mem_append.mp hy with z | z
  ·obtain ⟨c,hc,e,_⟩:=of_miss (List.mem_reverse.mp z)
   have hx:=(D.sub x List.mem_cons_self).1
   have:=S.ok.lt x hx c hc
   rw [e]
   exact S.idem c (by omega)
  ·exact D.sub y z
 act:=fun y hy hm=>by
  have hx:=(D.sub x List.mem_cons_self).1
  have ed:∀ w∈miss G rp md x,Ed G rp x w:=fun w hw=>by
   obtain ⟨c,hc,e,_⟩:=of_miss hw
   exact ⟨hx,c,hc,e⟩
  by_cases z:y=x
  ·subst z
   refine ⟨_,rest,rfl,fun w hw=>.one (ed w (List.mem_reverse.mp hw)),fun c hc=>?_⟩
   cases e:md (rp c) with
   | none=>exact .inr (List.mem_reverse.mpr (mem_miss hc e))
   | some t=>exact .inl (by simp)
  ·have hy:(if y=x then true else bg y)=true:=hy
   rw [if_neg z] at hy
   obtain ⟨pre,post,e,h1,h2⟩:=D.act y hy hm
   cases pre with
   | nil=>exact absurd (List.cons.inj e).1.symm z
   | cons w pre =>
    have e1:=(List.cons.inj e).1
    refine ⟨(miss G rp md x).reverse++w::pre,post,by rw [List.append_assoc,e],fun q hq=>?_,fun c hc=>?_⟩
    ·rcases List.mem_append.mp hq with z' | z'
     ·have:=h1 w List.mem_cons_self
      rw [<- e1] at this
      exact .more this (ed q (List.mem_reverse.mp z'))
     ·exact h1 q z'
    ·rcases h2 c hc with z' | z'
     ·exact .inl z'
     ·exact .inr (List.mem_append_right _ z')
 got:=by
  rcases D.got with z | z
  ·exact .inl z
  ·exact .inr (List.mem_append_right _ z)
theorem dfs_cycle (D:Dfs G rp root md bg (x::rest))(h:md x=none)(hb:bg x=true)(hm:miss G rp md x≠[]):Rch G rp x x:=by
 obtain ⟨pre,post,e,h1,h2⟩:=D.act x hb h
 cases pre with
 | nil =>
  exfalso
  obtain ⟨y,hy⟩:=List.exists_mem_of_ne_nil _ hm
  obtain ⟨c,hc,ec,en⟩:=of_miss hy
  rcases h2 c hc with z | z
  ·rw [<- ec] at z;exact z en
  ·cases z
 | cons w pre =>
  have e1:=(List.cons.inj e).1
  have:=h1 w List.mem_cons_self
  rw [<- e1] at this
  exact this
theorem dfs_end (D:Dfs G rp root md bg []):∃ t,md root=some t:=by
 rcases D.got with z | z
 ·cases e:md root with
  | none=>exact absurd e z
  | some t=>exact ⟨t,rfl⟩
 ·cases z
theorem miss_len (S:Solved G a b i0 j0 rp)(hx:x < G.n):(miss G rp md x).length<=2:=by
 have h1:(miss G rp md x).length<=(G.ch x).length:=by
  have:=List.length_filter_le (fun c=>(md c).isNone) ((G.ch x).map rp)
  rw [List.length_map] at this
  exact this
 have h2:=S.ok.ar x hx
 have:∀ g,arity g<=2:=fun g=>by unfold arity;split <;> omega
 have:=this (G.tg x)
 omega
def left (G:Gr)(md:Nat->Option Kd)(bg:Nat->Bool)(stk:List Nat):Nat:=cnt (fun i=>(md i).isNone) G.n+3 * cnt (fun i=>!bg i) G.n+stk.length
theorem left_make (hx:x < G.n)(h:md x=none)(t:Kd)(stk:List Nat):left G (updK md x t) bg stk < left G md bg stk:=by
 have:cnt (fun i=>(updK md x t i).isNone) G.n < cnt (fun i=>(md i).isNone) G.n:=by
  refine cnt_lt (j:=x) (fun i hi=>?_) (by show (md x).isNone=true;rw [h];rfl) (fun hi=>?_) hx
  ·have hi:(if i=x then some t else md i).isNone=true:=hi
   by_cases z:i=x
   ·rw [if_pos z] at hi;cases hi
   ·rw [if_neg z] at hi;exact hi
  ·have hi:(if x=x then some t else md x).isNone=true:=hi
   rw [if_pos rfl] at hi
   cases hi
 unfold left
 omega
theorem left_begin (S:Solved G a b i0 j0 rp)(hx:x < G.n)(hb:bg x=false)(stk:List Nat):left G md (fun y=>if y=x then true else bg y) ((miss G rp md x).reverse++stk) < left G md bg stk:=by
 have:cnt (fun i=>!(if i=x then true else bg i)) G.n < cnt (fun i=>!bg i) G.n:=by
  refine cnt_lt (j:=x) (fun i hi=>?_) (by show (!bg x)=true;rw [hb];rfl) (fun hi=>?_) hx
  ·by_cases z:i=x
   ·rw [z,hb];rfl
   ·have hi:(!(if i=x then true else bg i))=true:=hi
    rw [if_neg z] at hi;exact hi
  ·have hi:(!(if x=x then true else bg x))=true:=hi
   rw [if_pos rfl] at hi
   cases hi
 have h2:=miss_len (md:=md) S hx
 unfold left
 show _+3 * cnt (fun i=>!(if i=x then true else bg i)) G.n+_ < _
 rw [List.length_append,List.length_reverse]
 omega
theorem left_pop (stk:List Nat):left G md bg stk < left G md bg (x::stk):=by
 unfold left
 rw [List.length_cons]
 omega
end
end KM
namespace KM
theorem gp_part {t s:Kd}(h:s∈parts t){k:Int}(hk:k∈gp s):k∈gp t:=by
 cases t with
 | num=>cases h
 | tru=>cases h
 | gap _=>cases h
 | fn a b =>
  show k∈app (app [] (gp a)) (gp b)
  rw [app_nil]
  simp [parts] at h
  rcases h with rfl | rfl
  ·exact mem_app.mpr (.inl hk)
  ·exact mem_app.mpr (.inr hk)
 | pr a b =>
  show k∈app (app [] (gp a)) (gp b)
  rw [app_nil]
  simp [parts] at h
  rcases h with rfl | rfl
  ·exact mem_app.mpr (.inl hk)
  ·exact mem_app.mpr (.inr hk)
 | ls a =>
  show k∈app [] (gp a)
  rw [app_nil]
  simp [parts] at h
  rw [<- h];exact hk
theorem sz_dp:∀ t:Kd,sz t < 2 ^ (dp t+1)
 | .num=>by decide
 | .tru=>by decide
 | .gap _=>by show 1 < 2 ^ 1;decide
 | .fn a b=>by
  have h1:=sz_dp a
  have h2:=sz_dp b
  have p1:2 ^ (dp a+1)<=2 ^ (max (dp a) (dp b)+1):=Nat.pow_le_pow_right (by decide) (by omega)
  have p2:2 ^ (dp b+1)<=2 ^ (max (dp a) (dp b)+1):=Nat.pow_le_pow_right (by decide) (by omega)
  show sz a+sz b+1 < 2 ^ (max (dp a) (dp b)+1+1)
  rw [Nat.pow_succ 2 (max (dp a) (dp b)+1)]
  omega
 | .pr a b=>by
  have h1:=sz_dp a
  have h2:=sz_dp b
  have p1:2 ^ (dp a+1)<=2 ^ (max (dp a) (dp b)+1):=Nat.pow_le_pow_right (by decide) (by omega)
  have p2:2 ^ (dp b+1)<=2 ^ (max (dp a) (dp b)+1):=Nat.pow_le_pow_right (by decide) (by omega)
  show sz a+sz b+1 < 2 ^ (max (dp a) (dp b)+1+1)
  rw [Nat.pow_succ 2 (max (dp a) (dp b)+1)]
  omega
 | .ls a=>by
  have h1:=sz_dp a
  have:=Nat.pow_succ 2 (dp a+1)
  show sz a+1 < 2 ^ (dp a+1+1)
  omega
theorem ok_gp:∀ t:Kd,(∀ k∈gp t,0<=k)->ok t=true
 | .num,_=>rfl
 | .tru,_=>rfl
 | .gap k,h=>by simpa [ok] using h k (by simp [gp])
 | .fn a b,h=>by
  have h1:=ok_gp a fun k hk=>h k (gp_part (t:=.fn a b) (by simp [parts]) hk)
  have h2:=ok_gp b fun k hk=>h k (gp_part (t:=.fn a b) (by simp [parts]) hk)
  simp [ok,h1,h2]
 | .pr a b,h=>by
  have h1:=ok_gp a fun k hk=>h k (gp_part (t:=.pr a b) (by simp [parts]) hk)
  have h2:=ok_gp b fun k hk=>h k (gp_part (t:=.pr a b) (by simp [parts]) hk)
  simp [ok,h1,h2]
 | .ls a,h=>by
  have h1:=ok_gp a fun k hk=>h k (gp_part (t:=.ls a) (by simp [parts]) hk)
  simp [ok,h1]
theorem dp_fill_ge {T:Int->Kd}:∀ t:Kd,dp t<=dp (fillT T t)
 | .num=>Nat.le_refl _
 | .tru=>Nat.le_refl _
 | .gap k=>Nat.zero_le _
 | .fn a b=>by
  have h1:=dp_fill_ge (T:=T) a
  have h2:=dp_fill_ge (T:=T) b
  show max (dp a) (dp b)+1<=max (dp (fillT T a)) (dp (fillT T b))+1
  omega
 | .pr a b=>by
  have h1:=dp_fill_ge (T:=T) a
  have h2:=dp_fill_ge (T:=T) b
  show max (dp a) (dp b)+1<=max (dp (fillT T a)) (dp (fillT T b))+1
  omega
 | .ls a=>by
  have h1:=dp_fill_ge (T:=T) a
  show dp a+1<=dp (fillT T a)+1
  omega
theorem dp_fill_gap {m:Int->Option Kd}:∀ (t:Kd) (k:Int),k∈gp t->dp (fill m (.gap k))<=dp (fill m t)
 | .num,k,h=>by cases h
 | .tru,k,h=>by cases h
 | .gap j,k,h=>by rw [List.mem_singleton.mp h];exact Nat.le_refl _
 | .fn a b,k,h=>by
  have h:k∈app (app [] (gp a)) (gp b):=h
  rw [app_nil] at h
  show _<=max (dp (fill m a)) (dp (fill m b))+1
  rcases mem_app.mp h with z | z
  ·have:=dp_fill_gap (m:=m) a k z;omega
  ·have:=dp_fill_gap (m:=m) b k z;omega
 | .pr a b,k,h=>by
  have h:k∈app (app [] (gp a)) (gp b):=h
  rw [app_nil] at h
  show _<=max (dp (fill m a)) (dp (fill m b))+1
  rcases mem_app.mp h with z | z
  ·have:=dp_fill_gap (m:=m) a k z;omega
  ·have:=dp_fill_gap (m:=m) b k z;omega
 | .ls a,k,h=>by
  have h:k∈app [] (gp a):=h
  rw [app_nil] at h
  show _<=dp (fill m a)+1
  have:=dp_fill_gap (m:=m) a k h;omega
theorem gp_fill {m:Int->Option Kd}:∀ (t:Kd) (j:Int),j∈gp (fill m t)->∃ k∈gp t,j∈gp (fill m (.gap k))
 | .num,j,h=>by cases h
 | .tru,j,h=>by cases h
 | .gap k,j,h=>⟨k,by simp [gp],h⟩
 | .fn a b,j,h=>by
  have h:j∈app (app [] (gp (fill m a))) (gp (fill m b)):=h
  rw [app_nil] at h
  rcases mem_app.mp h with z | z
  ·obtain ⟨k,h1,h2⟩:=gp_fill a j z;exact ⟨k,gp_part (t:=.fn a b) (by simp [parts]) h1,h2⟩
  ·obtain ⟨k,h1,h2⟩:=gp_fill b j z;exact ⟨k,gp_part (t:=.fn a b) (by simp [parts]) h1,h2⟩
 | .pr a b,j,h=>by
  have h:j∈app (app [] (gp (fill m a))) (gp (fill m b)):=h
  rw [app_nil] at h
  rcases mem_app.mp h with z | z
  ·obtain ⟨k,h1,h2⟩:=gp_fill a j z;exact ⟨k,gp_part (t:=.pr a b) (by simp [parts]) h1,h2⟩
  ·obtain ⟨k,h1,h2⟩:=gp_fill b j z;exact ⟨k,gp_part (t:=.pr a b) (by simp [parts]) h1,h2⟩
 | .ls a,j,h=>by
  have h:j∈app [] (gp (fill m a)):=h
  rw [app_nil] at h
  obtain ⟨k,h1,h2⟩:=gp_fill a j h;exact ⟨k,gp_part (t:=.ls a) (by simp [parts]) h1,h2⟩
end KM
namespace KM
def addN (G:Gr)(tg:Nat)(ch:List Nat)(gn:Int):Gr:=⟨G.n+1,fun i=>if i=G.n then tg else G.tg i,fun i=>if i=G.n then ch else G.ch i,fun i=>if i=G.n then gn else G.gn i,G.gs⟩
def addG (G:Gr)(k:Int):Gr:={ addN G 2 [] k with gs:=G.gs++[(k,G.n)] }
structure ExtG (G G':Gr):Prop where
 le:G.n<=G'.n
 tg:∀ i,i < G.n->G'.tg i=G.tg i
 ch:∀ i,i < G.n->G'.ch i=G.ch i
 gn:∀ i,i < G.n->G'.gn i=G.gn i
theorem ExtG.refl (G:Gr):ExtG G G:=⟨Nat.le_refl _,fun _ _=>rfl,fun _ _=>rfl,fun _ _=>rfl⟩
theorem ExtG.trans {G G1 G2:Gr}(a:ExtG G G1)(b:ExtG G1 G2):ExtG G G2:=⟨Nat.le_trans a.le b.le,fun i h=>(b.tg i (Nat.lt_of_lt_of_le h a.le)).trans (a.tg i h),fun i h=>(b.ch i (Nat.lt_of_lt_of_le h a.le)).trans (a.ch i h),fun i h=>(b.gn i (Nat.lt_of_lt_of_le h a.le)).trans (a.gn i h)⟩
theorem ext_addN (G:Gr)(tg:Nat)(ch:List Nat)(gn:Int):ExtG G (addN G tg ch gn):=⟨Nat.le_succ _,fun i h=>if_neg (Nat.ne_of_lt h),fun i h=>if_neg (Nat.ne_of_lt h),fun i h=>if_neg (Nat.ne_of_lt h)⟩
theorem ext_addG (G:Gr)(k:Int):ExtG G (addG G k):=⟨Nat.le_succ _,fun i h=>if_neg (Nat.ne_of_lt h),fun i h=>if_neg (Nat.ne_of_lt h),fun i h=>if_neg (Nat.ne_of_lt h)⟩
theorem Tr.ext {G G':Gr}(x:ExtG G G'):∀ {d:Kd} {i:Nat},Tr G d i->Tr G' d i
 | .num,i,⟨h,e⟩=>⟨Nat.lt_of_lt_of_le h x.le,by rw [x.tg i h];exact e⟩
 | .tru,i,⟨h,e⟩=>⟨Nat.lt_of_lt_of_le h x.le,by rw [x.tg i h];exact e⟩
 | .gap k,i,⟨h,e,g⟩=>⟨Nat.lt_of_lt_of_le h x.le,by rw [x.tg i h];exact e,by rw [x.gn i h];exact g⟩
 | .fn a b,i,⟨h,e,p,q,c,h1,h2⟩=>⟨Nat.lt_of_lt_of_le h x.le,by rw [x.tg i h];exact e,p,q,by rw [x.ch i h];exact c,Tr.ext x h1,Tr.ext x h2⟩
 | .pr a b,i,⟨h,e,p,q,c,h1,h2⟩=>⟨Nat.lt_of_lt_of_le h x.le,by rw [x.tg i h];exact e,p,q,by rw [x.ch i h];exact c,Tr.ext x h1,Tr.ext x h2⟩
 | .ls a,i,⟨h,e,p,c,h1⟩=>⟨Nat.lt_of_lt_of_le h x.le,by rw [x.tg i h];exact e,p,by rw [x.ch i h];exact c,Tr.ext x h1⟩
def gr0:Gr:=⟨0,fun _=>0,fun _=>[],fun _=>0,[]⟩
theorem gr0_ok:gr0.Ok:=⟨fun i h=>absurd h (Nat.not_lt_zero _),fun i h=>absurd h (Nat.not_lt_zero _),fun i h=>absurd h (Nat.not_lt_zero _),(fun k g h=>by cases h),fun i h=>absurd h (Nat.not_lt_zero _),List.nodup_nil⟩
theorem addN_ok {G:Gr}(K:G.Ok){tg:Nat}{ch:List Nat}{gn:Int}(h6:tg < 6)(h2:tg≠2)(ha:ch.length=arity tg)(hc:∀ c∈ch,c < G.n):(addN G tg ch gn).Ok:=by
 have X:=ext_addN G tg ch gn
 have lt:∀ i,i < (addN G tg ch gn).n->i≠G.n->i < G.n:=fun i h n=>by have:i < G.n+1:=h;omega
 have t1:(addN G tg ch gn).tg G.n=tg:=if_pos rfl
 have c1:(addN G tg ch gn).ch G.n=ch:=if_pos rfl
 refine ⟨fun i h=>?_,fun i h=>?_,fun i h=>?_,fun k g h=>?_,fun g h e=>?_,K.nd⟩
 ·by_cases z:i=G.n
  ·rw [z,t1];exact h6
  ·rw [X.tg i (lt i h z)];exact K.tg i (lt i h z)
 ·by_cases z:i=G.n
  ·rw [z,t1,c1];exact ha
  ·rw [X.tg i (lt i h z),X.ch i (lt i h z)];exact K.ar i (lt i h z)
 ·by_cases z:i=G.n
  ·rw [z,c1];exact hc
  ·rw [X.ch i (lt i h z)];exact K.lt i (lt i h z)
 ·obtain ⟨a,b,c⟩:=K.gs k g h
  exact ⟨Nat.lt_of_lt_of_le a X.le,by rw [X.tg g a];exact b,by rw [X.gn g a];exact c⟩
 ·by_cases z:g=G.n
  ·rw [z,t1] at e;exact absurd e h2
  ·rw [X.tg g (lt g h z)] at e
   rw [X.gn g (lt g h z)]
   exact K.gg g (lt g h z) e
theorem addG_ok {G:Gr}(K:G.Ok){k:Int}(hk:∀ g,(k,g)∉G.gs):(addG G k).Ok:=by
 have X:=ext_addG G k
 have lt:∀ i,i < (addG G k).n->i≠G.n->i < G.n:=fun i h n=>by have:i < G.n+1:=h;omega
 have t1:(addG G k).tg G.n=2:=if_pos rfl
 have c1:(addG G k).ch G.n=[]:=if_pos rfl
 have g1:(addG G k).gn G.n=k:=if_pos rfl
 refine ⟨fun i h=>?_,fun i h=>?_,fun i h=>?_,fun j g h=>?_,fun g h e=>?_,?_⟩
 ·by_cases z:i=G.n
  ·rw [z,t1];decide
  ·rw [X.tg i (lt i h z)];exact K.tg i (lt i h z)
 ·by_cases z:i=G.n
  ·rw [z,t1,c1];rfl
  ·rw [X.tg i (lt i h z),X.ch i (lt i h z)];exact K.ar i (lt i h z)
 ·by_cases z:i=G.n
  ·rw [z,c1];intro c hc;cases hc
  ·rw [X.ch i (lt i h z)];exact K.lt i (lt i h z)
 ·have h:(j,g)∈G.gs++[(k,G.n)]:=h
  rcases List.mem_append.mp h with z | z
  ·obtain ⟨a,b,c⟩:=K.gs j g z
   exact ⟨Nat.lt_of_lt_of_le a X.le,by rw [X.tg g a];exact b,by rw [X.gn g a];exact c⟩
  ·have z:=List.mem_singleton.mp z
   cases z
   exact ⟨Nat.lt_succ_self _,t1,g1⟩
 ·show (_,g)∈G.gs++[(k,G.n)]
  by_cases z:g=G.n
  ·rw [z,g1];exact List.mem_append_right _ (List.mem_singleton.mpr rfl)
  ·rw [X.gn g (lt g h z)]
   rw [X.tg g (lt g h z)] at e
   exact List.mem_append_left _ (K.gg g (lt g h z) e)
 ·show ((G.gs++[(k,G.n)]).map (·.1)).Nodup
  rw [List.map_append,List.nodup_append]
  refine ⟨K.nd,by simp,?_⟩
  intro a ha b hb e
  have hb:b=k:=by simpa using hb
  obtain ⟨q,hq,e'⟩:=List.mem_map.mp ha
  refine hk q.2 ?_
  have:q=(k,q.2):=by rw [<- hb,<- e,<- e']
  rw [<- this]
  exact hq
theorem nodup_le:∀ (n:Nat) (l:List Nat),l.Nodup->(∀ x∈l,x < n)->l.length<=n
 | 0,l,_,h=>by
  cases l with
  | nil=>exact Nat.le_refl _
  | cons x l=>exact absurd (h x List.mem_cons_self) (Nat.not_lt_zero _)
 | n+1,l,nd,h=>by
  have h1:=nodup_le n (l.erase n) (nd.erase n) fun x hx=>by
   have hx1:=h x (List.mem_of_mem_erase hx)
   have hx2:x≠n:=((nd.mem_erase_iff).mp hx).1
   omega
  have h2:l.length<=(l.erase n).length+1:=by
   rw [List.length_erase]
   split <;> omega
  omega
theorem gs_len {G:Gr}(K:G.Ok):G.gs.length<=G.n:=by
 have h:(G.gs.map (·.2)).Nodup:=by
  have nd:=K.nd
  have gs:=K.gs
  generalize G.gs=l at nd gs
  induction l with
  | nil=>exact List.nodup_nil
  | cons q l ih =>
   rw [List.map_cons] at nd ⊢
   obtain ⟨n1,n2⟩:=List.nodup_cons.mp nd
   refine List.nodup_cons.mpr ⟨fun z=>n1 ?_,ih n2 fun k g h=>gs k g (List.mem_cons_of_mem _ h)⟩
   obtain ⟨r,hr,e⟩:=List.mem_map.mp z
   have h1:=(gs q.1 q.2 List.mem_cons_self).2.2
   have h2:=(gs r.1 r.2 (List.mem_cons_of_mem _ hr)).2.2
   rw [e,h1] at h2
   exact List.mem_map.mpr ⟨r,hr,h2.symm⟩
 have:=nodup_le G.n _ h fun x hx=>by
  obtain ⟨q,hq,e⟩:=List.mem_map.mp hx
  rw [<- e]
  exact (K.gs q.1 q.2 hq).1
 rw [List.length_map] at this
 exact this
end KM
namespace KG
variable {α:Type}
def szs (sz:α->Nat):List α->Nat
 | []=>0
 | t::ts=>sz t+szs sz ts
theorem szs_append (sz:α->Nat)(a b:List α):szs sz (a++b)=szs sz a+szs sz b:=by
 induction a with
 | nil=>simp [szs]
 | cons t ts ih=>simp only [List.cons_append,szs,ih];omega
variable {kids:α->List α}{sz:α->Nat}
def nxt (kids:α->List α):List α->List α
 | []=>[]
 | t::ts=>kids t++ts
def pres (kids:α->List α):Nat->List α->List α
 | 0,_=>[]
 | _+1,[]=>[]
 | n+1,t::ts=>t::pres kids n (kids t++ts)
def P (kids:α->List α)(sz:α->Nat)(l:List α):List α:=pres kids (szs sz l) l
theorem P_nil:P kids sz []=[]:=rfl
def Fo (kids:α->List α):List α->Nat->List α
 | l,0=>l
 | l,j+1=>Fo kids (nxt kids l) j
theorem Fo_succ:∀ (j:Nat) (l:List α),Fo kids l (j+1)=nxt kids (Fo kids l j)
 | 0,_=>rfl
 | j+1,l=>by show Fo kids (nxt kids l) (j+1)=_;rw [Fo_succ j (nxt kids l)];rfl
theorem Fo_nil:∀ j,Fo kids [] j=[]
 | 0=>rfl
 | j+1=>Fo_nil j
section
variable (hs:∀ t,szs sz (kids t)+1=sz t)
include hs
theorem sz_pos (t:α):0 < sz t:=by have:=hs t;omega
theorem szs_nxt (t:α)(ts:List α):szs sz (nxt kids (t::ts))+1=szs sz (t::ts):=by
 simp only [nxt,szs_append,szs]
 have:=hs t
 omega
theorem P_cons (t:α)(ts:List α):P kids sz (t::ts)=t::P kids sz (kids t++ts):=by
 have e:=szs_nxt hs t ts
 unfold P
 rw [<- e]
 rfl
theorem P_len:∀ (n:Nat) (l:List α),szs sz l=n->(P kids sz l).length=n
 | 0,[],_=>rfl
 | 0,t::ts,h=>by have:=sz_pos hs t;simp only [szs] at h;omega
 | n+1,[],h=>by simp [szs] at h
 | n+1,t::ts,h=>by
  have e:=szs_nxt hs t ts
  rw [P_cons hs,List.length_cons,P_len n (kids t++ts) (by show szs sz (nxt kids (t::ts))=n;omega)]
theorem P_one (t:α):(P kids sz [t]).length=sz t:=by
 have:=P_len hs _ [t] rfl
 simpa [szs] using this
theorem P_get:∀ (j:Nat) (l:List α),(P kids sz l)[j]?=(Fo kids l j).head?
 | 0,[]=>rfl
 | 0,t::ts=>by rw [P_cons hs];rfl
 | j+1,[]=>by show (P kids sz [])[j+1]?=(Fo kids [] j).head?;rw [Fo_nil,P_nil];rfl
 | j+1,t::ts=>by
  rw [P_cons hs]
  show (P kids sz (kids t++ts))[j]?=(Fo kids (nxt kids (t::ts)) j).head?
  exact P_get j _
theorem Fo_size:∀ (j:Nat) (l:List α),szs sz (Fo kids l j)=szs sz l - j
 | 0,_=>rfl
 | j+1,[]=>by rw [Fo_nil];simp [szs]
 | j+1,t::ts=>by
  show szs sz (Fo kids (nxt kids (t::ts)) j)=_
  rw [Fo_size j]
  have:=szs_nxt hs t ts
  omega
theorem szs_zero {l:List α}(h:szs sz l=0):l=[]:=by
 cases l with
 | nil=>rfl
 | cons t ts=>have:=sz_pos hs t;simp only [szs] at h;omega
theorem Fo_step {l:List α}{j:Nat}{x:α}(h:(P kids sz l)[j]?=some x):∃ r,Fo kids l j=x::r/\Fo kids l (j+1)=kids x++r:=by
 rw [P_get hs] at h
 cases e:Fo kids l j with
 | nil=>rw [e] at h;cases h
 | cons y r =>
  rw [e] at h
  cases h
  exact ⟨r,rfl,by rw [Fo_succ,e];rfl⟩
theorem Fo_end (l:List α):Fo kids l (szs sz l)=[]:=szs_zero hs (by rw [Fo_size hs];omega)
theorem szs_len (l:List α):l.length<=szs sz l:=by
 induction l with
 | nil=>simp [szs]
 | cons t ts ih=>have:=sz_pos hs t;simp only [szs,List.length_cons];omega
theorem kids_len (t:α):(kids t).length < sz t:=by
 have h1:=szs_len hs (kids t)
 have h2:=hs t
 omega
theorem P_mem_sz:∀ (n:Nat) (l:List α) (d:α),szs sz l=n->d∈P kids sz l->sz d<=szs sz l
 | 0,[],d,_,h=>by cases h
 | 0,t::ts,d,h,_=>by have:=sz_pos hs t;simp only [szs] at h;omega
 | n+1,[],d,h,_=>by simp [szs] at h
 | n+1,t::ts,d,h,hm=>by
  have e:=szs_nxt hs t ts
  rw [P_cons hs] at hm
  rcases List.mem_cons.mp hm with z | z
  ·rw [z];simp only [szs];omega
  ·have:=P_mem_sz n (kids t++ts) d (by show szs sz (nxt kids (t::ts))=n;omega) z
   have e2:szs sz (kids t++ts)=szs sz (nxt kids (t::ts)):=rfl
   omega
end
end KG
namespace KM
theorem szsK (l:List Kd):KG.szs sz l=szs l:=by
 induction l with
 | nil=>rfl
 | cons t ts ih=>simp only [KG.szs,szs,ih]
theorem szK (t:Kd):KG.szs sz (parts t)+1=sz t:=by rw [szsK];exact szs_parts t
theorem presK:∀ (n:Nat) (l:List Kd),KG.pres parts n l=pres n l
 | 0,_=>rfl
 | n+1,[]=>rfl
 | n+1,t::ts=>by show t::_=t::_;rw [presK n]
theorem PK (l:List Kd):KG.P parts sz l=P l:=by unfold KG.P P;rw [szsK,presK]
end KM
namespace L2
open PySem PySem.Spec PyProof.Rows KS
open PySem.W (fnMade fnX envX CodeHd tabObj makeFunction_K makeFunction_hit nestDef_K FnAt callWith_F)
def Cal (K:PySem.W.Frag)(fd:FuncData)(f:Addr)(H:Hp):Prop:=PySem.W.keepIn K (.ref f)=true\/∃ fo:Obj,fo.data=.func fd/\H f=some (ObO f fo)
theorem Cal.mono {K:PySem.W.Frag}{fd:FuncData}{f:Addr}{H H':Hp}(h:∀ b φ,H b=some (.ext φ)->H' b=some (.ext φ))(c:Cal K fd f H):Cal K fd f H':=by
 rcases c with c | ⟨fo,e,c⟩
 ·exact .inl c
 ·exact .inr ⟨fo,e,h _ _ c⟩
section
variable {X:Cx}{k:Nat}{f:Addr}{fd:FuncData}{ps:List Str}{sp:Sp}{x:Str}{p pos:Pos}{e:Expr}{es:List Expr}{t:TA}{i:Nat}
def tCallU (K:PySem.W.Frag)(fd:FuncData)(sp:Sp)(i:Nat)(f:Addr)(t:TA):TE:=fun σ H Q=>σ[i]?=some (some (.ref f))/\Cal K fd f H/\t σ H fun vs H1=>Cal K fd f H1/\sp vs H1 Q E0
theorem pe_callU (F:FnOk X.prog X.w X.K X.mg X.base CX0 k f fd ps sp)(hr:Room k X.A)(hb:Binds X.K fd ps [])(hN:X.N[i]?=some x)(hv:Vis X.env.scope x)(ha:PA X (e::es) t)
  (hd:(x==("__debug__":Str))=false:=by decide) (hcd:(x==("__classdict__":Str))=false:=by decide)
  (he:starEach (e::es) X.env=(false,eval e X.env)::starEach es X.env:=by rfl) (hpl:(backTo pos (starEach es X.env)).any (·.1)=false:=by rfl) :
  PE X (.Call (.Name x p) (e::es) [] pos) (tCallU X.K fd sp i f t):=by
 intro pins s σ H Q I h
 obtain ⟨hv1,hf1,h⟩:=h
 refine wpAny_Call_Name_kw (thn ((pe_var (pos:=p) hN hv hd hcd) pins s σ H (fun w G=>w=.ref f/\G=H) I ⟨_,hv1,rfl,rfl⟩) fun u s1 q1=>?_)
 obtain ⟨y,H1,I1,r1,ey,eH⟩:=q1
 subst ey eH
 obtain rfl:u=Value.ref f:=r1
 have hz:∀ us:List Value,us++[]=us:=fun us=>List.append_nil us
 rcases hf1 with hk | ⟨fo,hfo,hf1⟩
 ·refine PySem.W.callWith_K (h₀:=X.base) I.ok.mod.kin hk (thn (ha pos pins s1 σ H1 _ I1 h) fun us s2 q2=>?_) he hpl
  obtain ⟨vs,H2,I2,r2,hf2,q2⟩:=q2
  refine ⟨I2.kIn,?_⟩
  exact run_fn (us:=us) (dvs:=[]) (ds:=[]) F hr hb .nil pass0 I2 r2 (by rw [List.append_nil];exact q2)
 ·have at':∀ {s:Shared} {H:Hp},Inv X pins σ H s->Cal X.K fd f H->FnAt f s.heap\/PySem.W.keepIn X.K (.ref f)=true:=fun {s H} J z=>by
   rcases z with z | ⟨fo,hfo,z⟩
   ·exact .inr z
   ·have g:=ObO.get J.hok z
    obtain ⟨oc,od,da,sl⟩:=fo
    have hfo':da=.func fd:=hfo
    subst hfo'
    exact .inl ⟨oc,od,fd,sl,g⟩
  by_cases hk:PySem.W.keepIn X.K (.ref f)=true
  ·refine PySem.W.callWith_K (h₀:=X.base) I.ok.mod.kin hk (thn (ha pos pins s1 σ H1 _ I1 h) fun us s2 q2=>?_) he hpl
   obtain ⟨vs,H2,I2,r2,hf2,q2⟩:=q2
   exact ⟨I2.kIn,run_fn (us:=us) (dvs:=[]) (ds:=[]) F hr hb .nil pass0 I2 r2 (by rw [List.append_nil];exact q2)⟩
  ·refine callWith_F ((at' I1 (.inr ⟨fo,hfo,hf1⟩)).resolve_right hk) (thn (ha pos pins s1 σ H1 _ I1 h) fun us s2 q2=>?_) he hpl
   obtain ⟨vs,H2,I2,r2,hf2,q2⟩:=q2
   exact ⟨(at' I2 hf2).resolve_right hk,run_fn (us:=us) (dvs:=[]) (ds:=[]) F hr hb .nil pass0 I2 r2 (by rw [List.append_nil];exact q2)⟩
end
def NSub (M:Addr->Prop)(H H':Hp):Prop:=∀ b o,H b=some o->¬ M b->(∀ xs,o≠.lst xs)->H' b=some o
theorem NSub.trans {M:Addr->Prop}{H H1 H2:Hp}(a:NSub M H H1)(b:NSub M H1 H2):NSub M H H2:=fun c o e m n=>b c o (a c o e m n) m n
theorem NSub.of_same {M:Addr->Prop}{H H':Hp}(s:Same H H'):NSub M H H':=fun b o e _ _=>s b o e
theorem NSub.put {M:Addr->Prop}{H:Hp}{a:Addr}{xs:List V}{o:HO}(h:H a=some (.lst xs)):NSub M H (upd H a o):=fun b u e _ n=>by
 rw [upd_ne]
 ·exact e
 ·intro z;rw [z,h] at e;exact n xs (Option.some.inj e).symm
theorem NSub.new {M:Addr->Prop}{H:Hp}{a:Addr}{o:HO}(h:H a=none):NSub M H (upd H a o):=NSub.of_same (Same.new h)
theorem NSub.tsub {M:Addr->Prop}{H H':Hp}(s:NSub M H H')(hm:∀ b xs,M b->H b≠some (.tup xs)):TSub H H':=fun b xs e=>s b _ e (fun m=>hm b xs m e) (by intro _ z;cases z)
def NoM:Addr->Prop:=fun _=>False
theorem NSub.tsub0 {H H':Hp}(s:NSub NoM H H'):TSub H H':=s.tsub fun _ _ m=>m.elim
theorem len1 {R:List Value->Prop}(h:∀ a0,R [a0]):∀ us:List Value,us.length=1->R us
 | [a0],_=>h a0
theorem len2 {R:List Value->Prop}(h:∀ a0 a1,R [a0,a1]):∀ us:List Value,us.length=2->R us
 | [a0,a1],_=>h a0 a1
theorem len3 {R:List Value->Prop}(h:∀ a0 a1 a2,R [a0,a1,a2]):∀ us:List Value,us.length=3->R us
 | [a0,a1,a2],_=>h a0 a1 a2
end L2
namespace L2
open PySem PySem.Spec PyProof.Rows KS
section
variable {X:Cx}{k:Nat}{f C:Addr}{fd:FuncData}{ps:List Str}{sp:Sp}{m:Str}{o:Expr}{ta:TE}{pos apos:Pos}
theorem e_meth0 {pl:Sem Bool}(he:SE X o ta)(c:Cls X.K C)(hm:Meth X.K C m f)(F:FnOk X.prog X.w X.K X.mg X.base CX0 k f fd ps sp)(hr:Room k X.A)(hb:Binds X.K fd ps [])
  (ht:eval (.Call (.Attribute o m apos) [] [] pos) X.env=(do
   let ov <- eval o X.env
   standAt apos.atName
   let (f,first) <- holding [ov] (getMethod ov m pl)
   callWith pos f first (backTo pos (starEach [] X.env)) (backToKw pos (keywordEach [] X.env))):=by rfl) :
  SE X (.Call (.Attribute o m apos) [] [] pos) (tMeth C m sp [] E0 ta tNil):=⟨pe_meth0 he.out c hm F hr hb .nil pass0 ht⟩
end
end L2
namespace PySem.F
end PySem.F
namespace PySem
open AutoSeq1 (wpAny_loadPart')
end PySem
namespace L2
open PySem PySem.Spec PyProof.Rows
section
variable {X:Cx}{pins:List (Addr × Obj)}{σ:St}{H:Hp}{s:Shared}{a:Addr}{kvs:List (Key × V)}{k:Key}{d:V}{u r:Value}{A:Around}{E:Value->Shared->Prop}
end
section
variable {X:Cx}{o e f:Expr}{td ty tx:TE}{apos cpos:Pos}
end
end L2
namespace KM
end KM
namespace KS
open PySem L2 KM
theorem tag_of_word {a b:Kd}(h:word a=word b):tag a=tag b:=by
 rw [word_eq,word_eq] at h
 have:=wordN_eq (tag a) (by cases a <;> simp [tag]) (tag b) (by cases b <;> simp [tag])
 rw [h] at this
 simpa using this
end KS
namespace KS
end KS
namespace K
open PySem L2
def top (i:Nat):Stmt:=PySem.Challenge.pw_kindspan_k11_no_join.main.body.getD i (.Pass ⟨0,0,0,0⟩)
abbrev s_Nodes___init__:Stmt:=inClass (top 7) 0
abbrev s_Nodes_new_node:Stmt:=inClass (top 7) 1
abbrev s_Nodes_new_gap:Stmt:=inClass (top 7) 2
abbrev s_Nodes_numbered_gap:Stmt:=inClass (top 7) 3
abbrev s_Nodes_leader:Stmt:=inClass (top 7) 4
abbrev s_Nodes_inner_leaders:Stmt:=inClass (top 7) 5
abbrev s_Nodes_sink:Stmt:=inClass (top 7) 6
abbrev s_Nodes_follow:Stmt:=inClass (top 7) 7
abbrev s_Nodes_make_same:Stmt:=inClass (top 7) 8
abbrev s_Nodes_kinds_under:Stmt:=inClass (top 7) 13
abbrev sAll:Stmt:=top 9
abbrev sBuilt:Stmt:=top 10
abbrev sIsGap:Stmt:=top 12
abbrev sParts:Stmt:=top 13
abbrev s_node_of:Stmt:=top 14
abbrev sJoined:Stmt:=top 15
abbrev sCell:Stmt:=top 17
abbrev sMix:Stmt:=top 18
abbrev sWhole:Stmt:=top 19
abbrev sGapL:Stmt:=top 20
abbrev sKind:Stmt:=top 21
abbrev sFillL:Stmt:=top 22
abbrev sGaps:Stmt:=top 23
abbrev sPairs:Stmt:=top 24
abbrev sWider:Stmt:=top 25
abbrev sIsKind:Stmt:=top 26
abbrev sSolve:Stmt:=top 27
abbrev sTold:Stmt:=top 28
abbrev sJoins:Stmt:=top 29
abbrev sLaw:Stmt:=top 30
end K
namespace K
open PySem L2 KM KS
section
variable {Pr:Program}{w:World}{K:PySem.W.Frag}{mg:Str->Option Value}{base:Heap}
def spCell (K:PySem.W.Frag):Sp:=fun vs H Q _=>∃ (a:Addr) (ns:List Int) (k:Int),vs=[.ref a,.int k]/\SqL K H a (ns.map V.int)/\∀ n,Q (.int n) H
theorem scCell:FnScope ["_law_script","_law_k"] ["_law_script","_law_k"] (defScope sCell):=⟨rfl,rfl,rfl,by decide +kernel,rfl,by decide +kernel,by decide +kernel⟩
theorem ok_cell {f:Addr}{fd:FuncData}(F:Fun K "_law_cell" "_law_cell" sCell f fd)(mLen:mg "len"=none):FnOk Pr w K mg base CX0 1 f fd ["_law_script","_law_k"] (spCell K):=by
 refine F.ok scCell (fun vs H Q E h=>?_) (fun cdv A outer s H vs Q E hr h=>?_)
 ·obtain ⟨a,ns,k,rfl,_⟩:=h
  rfl
 ·obtain ⟨a,ns,k,rfl,hs,q⟩:=h
  refine ⟨_,pss_cons (ps_if (pt_truth (pv 0) (fun _=>rfl)) (pss_one (ps_ret (pe_ix ix_list (pv 0) (pe_op op_mod (pv 1) (pe_callB call_len_seq (by rfl) mLen PySem.boot_len (pa_cons (pv 0) pa_nil))) (fun _ _=>rfl)))) pss_nil) (pss_one (ps_ret pe_int)),?_⟩
  refine ⟨_,rfl,!(ns.map V.int).isEmpty,.inl ⟨_,hs,rfl⟩,?_⟩
  cases ns with
  | nil=>exact iteF (q _)
  | cons n ns =>
   refine iteT ?_
   have hpos:(0:Int) < (((n::ns).map V.int).length:Nat):=by simp
   refine ⟨_,rfl,_,rfl,_,rfl,a,_,rfl,.inl hs,_,_,rfl,rfl,hpos,?_⟩
   obtain ⟨v,hv,hm⟩:=atI_in (xs:=(n::ns).map V.int) (i:=k % (((n::ns).map V.int).length:Int)) (Int.emod_nonneg _ (by omega)) (Int.emod_lt_of_pos _ hpos)
   obtain ⟨z,_,rfl⟩:=List.mem_map.mp hm
   exact ⟨a,_,_,_,rfl,rfl,hs,hv,q z⟩
def spMix (K:PySem.W.Frag):Sp:=fun vs H Q _=>∃ (a:Addr) (ns:List Int) (k:Int),vs=[.ref a,.int k]/\SqL K H a (ns.map V.int)/\∀ n,0<=n->Q (.int n) H
theorem scMix:FnScope ["_law_script","_law_k","_law_number"] ["_law_script","_law_k"] (defScope sMix):=⟨rfl,rfl,rfl,by decide +kernel,rfl,by decide +kernel,by decide +kernel⟩
theorem ok_mix {f fC:Addr}{fd fdC:FuncData}(F:Fun K "_law_mix" "_law_mix" sMix f fd)(G:FnOk Pr w K mg base CX0 1 fC fdC ["_law_script","_law_k"] (spCell K))(kC:PySem.W.keepIn K (.ref fC)=true)(bC:Binds K fdC ["_law_script","_law_k"] [])(mC:mg "_law_cell"=some (.ref fC)):FnOk Pr w K mg base CX0 2 f fd ["_law_script","_law_k"] (spMix K):=by
 refine F.ok scMix (fun vs H Q E h=>?_) (fun cdv A outer s H vs Q E hr h=>?_)
 ·obtain ⟨a,ns,k,rfl,_⟩:=h
  rfl
 ·obtain ⟨a,ns,k,rfl,hs,q⟩:=h
  refine ⟨_,pss_cons (ps_set (i:=2) scMix.nd rfl (Or.inl rfl) (pe_op op_mod (pe_op op_add (pe_call G hr rfl mC kC bC .nil pass0 (pa_cons (pv 0) (pa_cons (pv 1) pa_nil))) (pe_op op_mul pe_int (pe_op op_add (pv 1) pe_int))) pe_int))
   (pss_cons (ps_set (i:=2) scMix.nd rfl (Or.inl rfl) (pe_op op_mod (pe_op op_mul (pv 2) pe_int) pe_int))
   (pss_one (ps_ret (pe_op op_mod (pe_op op_add (pe_op op_mul (pe_op op_fdiv (pv 2) pe_int) pe_int) (pv 2)) pe_int)))),?_⟩
  refine ⟨_,rfl,_,rfl,a,ns,k,rfl,hs,fun n=>⟨_,rfl,_,_,rfl,rfl,_,_,rfl,rfl,.inl ⟨by decide,by decide⟩,_,_,rfl,rfl,_,_,rfl,rfl,(by show (0:Int) < 4294967291;decide),?_⟩⟩
  refine ⟨_,rfl,_,_,rfl,rfl,.inr ⟨by decide,by decide⟩,_,_,rfl,rfl,(by show (0:Int) < 4294967279;decide),?_⟩
  refine ⟨_,rfl,_,_,rfl,rfl,⟨by decide,by decide⟩,_,_,rfl,rfl,.inr ⟨by decide,by decide⟩,_,rfl,_,_,rfl,rfl,_,_,rfl,rfl,(by show (0:Int) < 4294967231;decide),?_⟩
  exact q _ (Int.emod_nonneg _ (by decide))
end
end K
namespace K
open PySem L2 KM KS
theorem pow_ok:CPow 10 30:=⟨by decide,by decide,by decide⟩
theorem pow_nn:(0:Int)<=10 ^ (30:Int).toNat:=by decide
def GV:List Int:=[0,1,2,3,7,10 ^ 30]
def GVn (n k:Int):Prop:=GV[(n % 6).toNat]?=some k
def okG:Kd->Bool
 | .gap k=>decide (k∈GV)
 | .fn a b=>okG a && okG b
 | .pr a b=>okG a && okG b
 | .ls a=>okG a
 | _=>true
theorem GVn.mem {n k:Int}(h:GVn n k):k∈GV:=List.mem_of_getElem? h
theorem GVn.ok {n k:Int}(h:GVn n k):okG (.gap k)=true:=decide_eq_true h.mem
theorem okG_gp:∀ t:Kd,okG t=true->∀ g∈gp t,g∈GV
 | .gap k,h,j,hj=>by rw [List.mem_singleton.mp hj];exact of_decide_eq_true h
 | .num,h,j,hj=>by cases hj
 | .tru,h,j,hj=>by cases hj
 | .ls a,h,j,hj=>by rw [show gp (.ls a)=gp a from app_nil _] at hj;exact okG_gp a h j hj
 | .fn a b,h,j,hj=>by
  simp only [okG,Bool.and_eq_true] at h
  rw [show gp (.fn a b)=app (gp a) (gp b) from by show app (app [] (gp a)) (gp b)=_;rw [app_nil]] at hj
  rcases mem_app.mp hj with z | z
  ·exact okG_gp a h.1 j z
  ·exact okG_gp b h.2 j z
 | .pr a b,h,j,hj=>by
  simp only [okG,Bool.and_eq_true] at h
  rw [show gp (.pr a b)=app (gp a) (gp b) from by show app (app [] (gp a)) (gp b)=_;rw [app_nil]] at hj
  rcases mem_app.mp hj with z | z
  ·exact okG_gp a h.1 j z
  ·exact okG_gp b h.2 j z
theorem okG_ok {t:Kd}(h:okG t=true):ok t=true:=ok_gp t fun k hk=>by
 have:=okG_gp t h k hk
 simp only [GV,List.mem_cons,List.not_mem_nil,or_false] at this
 omega
theorem gv_at (n:Int):∃ k,GVn n k/\atI [V.int 0,V.int 1,V.int 2,V.int 3,V.int 7,V.int (10 ^ (30:Int).toNat)] (n % 6)=some (V.int k):=by
 have h6:n % 6=0\/n % 6=1\/n % 6=2\/n % 6=3\/n % 6=4\/n % 6=5:=by omega
 unfold GVn
 rcases h6 with h | h | h | h | h | h <;> rw [h]
 ·exact ⟨0,rfl,atI_nat (j:=0) rfl⟩
 ·exact ⟨1,rfl,atI_nat (j:=1) rfl⟩
 ·exact ⟨2,rfl,atI_nat (j:=2) rfl⟩
 ·exact ⟨3,rfl,atI_nat (j:=3) rfl⟩
 ·exact ⟨7,rfl,atI_nat (j:=4) rfl⟩
 ·exact ⟨10 ^ 30,rfl,atI_nat (j:=5) rfl⟩
section
variable {Pr:Program}{w:World}{K:PySem.W.Frag}{mg:Str->Option Value}{base:Heap}
def spGapL:Sp:=fun vs H Q _=>∃ n:Int,vs=[.int n]/\∀ r k H',Same H H'->GVn n k->KAt H' (.gap k) r->Q r H'
theorem scGapL:FnScope ["_law_number"] ["_law_number"] (defScope sGapL):=⟨rfl,rfl,rfl,by decide +kernel,rfl,by decide +kernel,by decide +kernel⟩
theorem ok_gapL {f:Addr}{fd:FuncData}(F:Fun K "_law_gap" "_law_gap" sGapL f fd):FnOk Pr w K mg base CX0 1 f fd ["_law_number"] spGapL:=by
 refine F.okS scGapL (fun vs H Q E h=>?_) (fun cdv A outer s H vs Q E hr h=>?_)
 ·obtain ⟨n,rfl,_⟩:=h
  rfl
 ·obtain ⟨n,rfl,q⟩:=h
  have hb:=line_big
  refine ⟨_,b_one (s_ret (e_tup (a_cons e_str (a_cons (e_ix ix_list (e_lst (a_cons e_int (a_cons e_int (a_cons e_int (a_cons e_int (a_cons e_int (a_cons (e_op op_pow e_int e_int) a_nil))))))) (e_op op_mod (e_v 0) e_int) (fun _ _=>rfl)) a_nil)))),?_⟩
  refine ⟨10,30,rfl,rfl,pow_ok,?_⟩
  have nn:=pow_nn
  refine ⟨by show 6<=sizeLine;omega,fun l hl=>⟨_,rfl,_,_,rfl,rfl,(by show (0:Int) < 6;decide),?_⟩⟩
  obtain ⟨k,hk,hv⟩:=gv_at n
  refine ⟨l,_,_,_,rfl,rfl,SqL.of upd_same,hv,by show 2<=sizeLine;omega,fun p hp=>?_⟩
  have hp0:H p=none:=by
   by_cases z:p=l
   ·rw [z];exact hl
   ·rw [upd_ne z] at hp;exact hp
  exact q _ k _ (Same.put (Same.new hl) hp0) hk ⟨p,rfl,upd_same⟩
def spWhole:Sp:=fun vs H Q _=>∃ n:Int,vs=[.int n]/\Q (.bl true) H
theorem scWhole:FnScope ["_law_found"] ["_law_found"] (defScope sWhole):=⟨rfl,rfl,rfl,by decide +kernel,rfl,by decide +kernel,by decide +kernel⟩
theorem kit_int_bool:PySem.W.kitOne K (.type "int") (.type "bool")=some false:=by rfl
theorem ok_whole {f:Addr}{fd:FuncData}(F:Fun K "_law_whole" "_law_whole" sWhole f fd)(mI:mg "isinstance"=none)(mInt:mg "int"=none)(mBool:mg "bool"=none):FnOk Pr w K mg base CX0 1 f fd ["_law_found"] spWhole:=by
 refine F.okS scWhole (fun vs H Q E h=>?_) (fun cdv A outer s H vs Q E hr h=>?_)
 ·obtain ⟨n,rfl,_⟩:=h
  rfl
 ·obtain ⟨n,rfl,q⟩:=h
  refine ⟨_,b_one (s_ret (e_and (e_callB call_isT rfl mI PyProof.Rows.boot_isinstance (a_cons (e_v 0) (a_cons (e_bltn (v:=.ty "int") rfl mInt PyProof.Rows.boot_int rfl) a_nil)))
   (e_one (e_not (e_callB call_isT rfl mI PyProof.Rows.boot_isinstance (a_cons (e_v 0) (a_cons (e_bltn (v:=.ty "bool") rfl mBool PyProof.Rows.boot_bool rfl) a_nil))))))),?_⟩
  refine ⟨_,rfl,_,_,_,true,rfl,TyOf.int n,rfl,_,rfl,iteT ?_⟩
  exact ⟨_,rfl,_,_,_,false,rfl,TyOf.int n,kit_int_bool,_,rfl,q⟩
end
end K
namespace K
open PySem L2 KM KS
section
variable {Pr:Program}{w:World}{K:PySem.W.Frag}{mg:Str->Option Value}{base:Heap}
def spKind (K:PySem.W.Frag)(n:Nat):Sp:=fun vs H Q _=>∃ (a:Addr) (ns:List Int) (k:Int),vs=[.ref a,.int k,.int n]/\SqL K H a (ns.map V.int)/\∀ t r H',Same H H'->dp t<=n->okG t=true->KAt H' t r->Q r H'
def spPrev (K:PySem.W.Frag):Nat->Sp
 | 0=>spNo
 | n+1=>spKind K n
theorem scKind:FnScope ["_law_script","_law_k","_law_deep","_law_number","_law_some","_law_word"] ["_law_script","_law_k","_law_deep"] (defScope sKind):=⟨rfl,rfl,rfl,by decide +kernel,rfl,by decide +kernel,by decide +kernel⟩
theorem ok_kind1 {f fM fG:Addr}{fd fdM fdG:FuncData}{n:Nat}(F:Fun K "_law_kind" "_law_kind" sKind f fd)(b:Binds K fd ["_law_script","_law_k","_law_deep"] [])(mf:mg "_law_kind"=some (.ref f))
  (G:FnOk Pr w K mg base CX0 (n+2) f fd ["_law_script","_law_k","_law_deep"] (spPrev K n))
  (GM:FnOk Pr w K mg base CX0 2 fM fdM ["_law_script","_law_k"] (spMix K)) (kM:PySem.W.keepIn K (.ref fM)=true) (bM:Binds K fdM ["_law_script","_law_k"] []) (mM:mg "_law_mix"=some (.ref fM))
  (GG:FnOk Pr w K mg base CX0 1 fG fdG ["_law_number"] spGapL) (kG:PySem.W.keepIn K (.ref fG)=true) (bG:Binds K fdG ["_law_number"] []) (mG:mg "_law_gap"=some (.ref fG)) :
  FnOk Pr w K mg base CX0 (n+3) f fd ["_law_script","_law_k","_law_deep"] (spKind K n):=by
 refine F.okS scKind (fun vs H Q E h=>?_) (fun cdv A outer s H vs Q E hr h=>?_)
 ·obtain ⟨a,ns,k,rfl,_⟩:=h
  rfl
 ·obtain ⟨a,ns,k,rfl,hs,q⟩:=h
  have hb:=line_big
  have hr2:Room 2 _:=hr.mono (by omega)
  have hr1:Room 1 _:=hr.mono (by omega)
  refine ⟨_,b_cons (s_set (i:=3) scKind.nd rfl (Or.inl rfl) (e_call GM hr2 rfl mM kM bM (a_cons (e_v 0) (a_cons (e_v 1) a_nil))))
   (b_cons (s_if (t_w (w_or (t_cmp op_eq (e_v 2) e_int (nomark _)) (w_or1 (t_cmp op_lt (e_op op_mod (e_v 3) e_int) e_int (nomark _)))))
    (b_cons (s_set (i:=4) scKind.nd rfl (Or.inl rfl) (e_lst (a_cons (e_tup (a_cons e_str a_nil)) (a_cons (e_tup (a_cons e_str a_nil)) (a_cons (e_call GG hr1 rfl mG kG bG (a_cons (e_op op_fdiv (e_v 3) e_int) a_nil)) (a_cons (e_call GG hr1 rfl mG kG bG (a_cons (e_op op_fdiv (e_v 3) e_int) a_nil)) a_nil))))))
    (b_one (s_ret (e_ix ix_list (e_v 4) (e_op op_mod (e_op op_fdiv (e_v 3) e_int) e_int) (fun _ _=>rfl))))) b_nil)
   (b_cons (s_if (t_cmp op_eq (e_op op_mod (e_v 3) e_int) e_int (nomark _))
    (b_one (s_ret (e_tup (a_cons e_str (a_cons (e_call G hr rfl mf F.kp b (a_cons (e_v 0) (a_cons (e_op op_add (e_op op_mul e_int (e_v 1)) e_int) (a_cons (e_op op_sub (e_v 2) e_int) a_nil)))) a_nil))))) b_nil)
   (b_cons (s_set (i:=5) scKind.nd rfl (Or.inl rfl) (e_ix ix_list (e_lst (a_cons e_str (a_cons e_str a_nil))) (e_op op_mod (e_v 3) e_int) (fun _ _=>rfl)))
   (b_one (s_ret (e_tup (a_cons (e_v 5) (a_cons (e_call G hr rfl mf F.kp b (a_cons (e_v 0) (a_cons (e_op op_add (e_op op_mul e_int (e_v 1)) e_int) (a_cons (e_op op_sub (e_v 2) e_int) a_nil))))
    (a_cons (e_call G hr rfl mf F.kp b (a_cons (e_v 0) (a_cons (e_op op_add (e_op op_mul e_int (e_v 1)) e_int) (a_cons (e_op op_sub (e_v 2) e_int) a_nil)))) a_nil))))))))),?_⟩
  refine ⟨_,rfl,_,rfl,a,ns,k,rfl,hs,fun m hm=>?_⟩
  have leaf:∀ (D:Ends) ,D.rt=Q->tSeq (tAsg (tLst (tCons (tTup (tCons (tC (.str "number")) tNil)) (tCons (tTup (tCons (tC (.str "truth")) tNil)) (tCons (tCall spGapL [] E0 (tCons (tOp (rI CDiv fun i j=>.int (i / j)) (tVar 3) (tC (.int 28))) tNil)) (tCons (tCall spGapL [] E0 (tCons (tOp (rI CDiv fun i j=>.int (i / j)) (tVar 3) (tC (.int 28))) tNil)) tNil))))) (gName 4))
    (tRet (tOp (rIxL K) (tVar 4) (tOp (rI (fun _ j=>0 < j) fun i j=>.int (i % j)) (tOp (rI CDiv fun i j=>.int (i / j)) (tVar 3) (tC (.int 7))) (tC (.int 4))))) D [some (.ref a),some (.int k),some (.int n),some (.int m),none,none] H:=by
   intro D hD
   refine ⟨by show 1<=sizeLine;omega,fun p1 h1=>⟨by show 1<=sizeLine;omega,fun p2 h2=>?_⟩⟩
   refine ⟨_,rfl,_,_,rfl,rfl,⟨by decide,by decide⟩,_,rfl,fun r1 k1 H1 s1 g1 a1=>?_⟩
   refine ⟨_,rfl,_,_,rfl,rfl,⟨by decide,by decide⟩,_,rfl,fun r2 k2 H2 s2 g2 a2=>⟨by show 4<=sizeLine;omega,fun l hl=>?_⟩⟩
   refine ⟨_,rfl,_,rfl,_,_,rfl,rfl,⟨by decide,by decide⟩,_,_,rfl,rfl,(by show (0:Int) < 4;decide),?_⟩
   obtain ⟨v,hv,hmem⟩:=atI_in (xs:=[V.ref p1,V.ref p2,r1,r2]) (i:=m / 7 % 4) (Int.emod_nonneg _ (by decide)) (Int.emod_lt_of_pos _ (by decide))
   refine ⟨l,_,_,v,rfl,rfl,SqL.of upd_same,hv,?_⟩
   rw [hD]
   have n12:p1≠p2:=fun z=>by rw [<- z,upd_same] at h2;cases h2
   have hp2:H p2=none:=by rw [upd_ne (Ne.symm n12)] at h2;exact h2
   have s0:Same H (upd (upd H p1 (.tup [.str "number"])) p2 (.tup [.str "truth"])):=Same.put (Same.new h1) hp2
   have s02:=Same.trans (Same.trans s0 s1) s2
   have hl0:H l=none:=s02.free hl
   have sm:Same H (upd H2 l (.lst [V.ref p1,V.ref p2,r1,r2])):=Same.put s02 hl0
   have s12:=Same.trans s1 s2
   have t1:H2 p1=some (.tup [.str "number"]):=s12 p1 _ (by rw [upd_ne n12,upd_same])
   have t2:H2 p2=some (.tup [.str "truth"]):=s12 p2 _ upd_same
   have sub:TSub H2 (upd H2 l (.lst [V.ref p1,V.ref p2,r1,r2])):=TSub.new hl
   simp only [List.mem_cons,List.not_mem_nil,or_false] at hmem
   rcases hmem with rfl | rfl | rfl | rfl
   ·exact q .num _ _ sm (by simp [dp]) rfl (KAt.mono sub ⟨p1,rfl,t1⟩)
   ·exact q .tru _ _ sm (by simp [dp]) rfl (KAt.mono sub ⟨p2,rfl,t2⟩)
   ·exact q (.gap k1) _ _ sm (by simp [dp]) (GVn.ok g1) (KAt.mono (TSub.trans (TSub.of_same s2) sub) a1)
   ·exact q (.gap k2) _ _ sm (by simp [dp]) (GVn.ok g2) (KAt.mono sub a2)
  refine ⟨_,rfl,rfl,_,rfl,?_⟩
  refine ite2 (fun hz=>iteT (leaf _ rfl)) (fun hz=>?_)
  refine ⟨_,rfl,_,_,rfl,rfl,(by show (0:Int) < 7;decide),_,_,rfl,rfl,_,rfl,?_⟩
  refine ite2 (fun _=>leaf _ rfl) (fun _=>?_)
  cases n with
  | zero=>exact absurd (decide_eq_true rfl) hz
  | succ n =>
   have e1:((n+1:Nat):Int) - 1=(n:Int):=by omega
   refine ⟨_,rfl,_,_,rfl,rfl,(by show (0:Int) < 7;decide),rfl,_,rfl,?_⟩
   refine ite2 (fun _=>?_) (fun _=>?_)
   ·refine ⟨_,rfl,_,rfl,_,_,rfl,rfl,.inl ⟨by decide,by decide⟩,_,_,rfl,rfl,_,rfl,_,_,rfl,rfl,a,ns,_,args3 a _ n,hs,fun t r H' sm hd hk ka=>⟨by show 2<=sizeLine;omega,fun p hp=>?_⟩⟩
    have hp0:=sm.free hp
    exact q (.ls t) _ _ (Same.put sm hp0) (by simp only [dp];omega) hk ⟨p,r,rfl,upd_same,KAt.mono (TSub.new hp) ka⟩
   ·refine ⟨by show 2<=sizeLine;omega,fun l hl=>⟨_,rfl,_,_,rfl,rfl,(by show (0:Int) < 2;decide),?_⟩⟩
    obtain ⟨v,hv,hmem⟩:=atI_in (xs:=[V.str "fun",V.str "pair"]) (i:=m % 2) (Int.emod_nonneg _ (by decide)) (Int.emod_lt_of_pos _ (by decide))
    refine ⟨l,_,_,v,rfl,rfl,SqL.of upd_same,hv,?_⟩
    have sl:Same H (upd H l (.lst [V.str "fun",V.str "pair"])):=Same.new hl
    refine ⟨_,rfl,_,rfl,_,rfl,_,_,rfl,rfl,.inl ⟨by decide,by decide⟩,_,_,rfl,rfl,_,rfl,_,_,rfl,rfl,a,ns,_,args3 a _ n,sl.seq hs,fun t1 r1 H1 sm1 hd1 hk1 ka1=>?_⟩
    refine ⟨_,rfl,_,rfl,_,_,rfl,rfl,.inl ⟨by decide,by decide⟩,_,_,rfl,rfl,_,rfl,_,_,rfl,rfl,a,ns,_,args3 a _ n,(Same.trans sl sm1).seq hs,fun t2 r2 H2 sm2 hd2 hk2 ka2=>⟨by show 3<=sizeLine;omega,fun p hp=>?_⟩⟩
    have sm:=Same.trans (Same.trans sl sm1) sm2
    have hp0:=sm.free hp
    have sub:TSub H2 (upd H2 p (.tup [v,r1,r2])):=TSub.new hp
    have ka1':=KAt.mono (TSub.trans (TSub.of_same sm2) sub) ka1
    have ka2':=KAt.mono sub ka2
    simp only [List.mem_cons,List.not_mem_nil,or_false] at hmem
    rcases hmem with rfl | rfl
    ·exact q (.fn t1 t2) _ _ (Same.put sm hp0) (by simp only [dp];omega) (by simp [okG,hk1,hk2]) ⟨p,r1,r2,rfl,upd_same,ka1',ka2'⟩
    ·exact q (.pr t1 t2) _ _ (Same.put sm hp0) (by simp only [dp];omega) (by simp [okG,hk1,hk2]) ⟨p,r1,r2,rfl,upd_same,ka1',ka2'⟩
theorem ok_kind {f fM fG:Addr}{fd fdM fdG:FuncData}(F:Fun K "_law_kind" "_law_kind" sKind f fd)(b:Binds K fd ["_law_script","_law_k","_law_deep"] [])(mf:mg "_law_kind"=some (.ref f))
  (GM:FnOk Pr w K mg base CX0 2 fM fdM ["_law_script","_law_k"] (spMix K)) (kM:PySem.W.keepIn K (.ref fM)=true) (bM:Binds K fdM ["_law_script","_law_k"] []) (mM:mg "_law_mix"=some (.ref fM))
  (GG:FnOk Pr w K mg base CX0 1 fG fdG ["_law_number"] spGapL) (kG:PySem.W.keepIn K (.ref fG)=true) (bG:Binds K fdG ["_law_number"] []) (mG:mg "_law_gap"=some (.ref fG)) :
  ∀ n,FnOk Pr w K mg base CX0 (n+3) f fd ["_law_script","_law_k","_law_deep"] (spKind K n)
 | 0=>ok_kind1 F b mf ok_no GM kM bM mM GG kG bG mG
 | n+1=>ok_kind1 F b mf (ok_kind F b mf GM kM bM mM GG kG bG mG n) GM kM bM mM GG kG bG mG
end
end K
namespace K
open PySem L2 KM KS
section
variable {Pr:Program}{w:World}{K:PySem.W.Frag}{mg:Str->Option Value}{base:Heap}
def spIsKind (n:Nat):Sp:=fun vs H Q _=>∃ (t:Kd) (v:V),vs=[v]/\KAt H t v/\dp t<=n/\ok t=true/\∀ H',Same H H'->Q (.bl true) H'
def spIsKindP:Nat->Sp
 | 0=>spNo
 | n+1=>spIsKind n
theorem scIsKind:FnScope ["_law_found","_law_size"] ["_law_found"] (defScope sIsKind):=⟨rfl,rfl,rfl,by decide +kernel,rfl,by decide +kernel,by decide +kernel⟩
def sizes:List (Key × V):=[(Sum.inr "number",.int 1),(Sum.inr "truth",.int 1),(Sum.inr "fun",.int 3),(Sum.inr "pair",.int 3),(Sum.inr "list",.int 2)]
theorem size_at {t:Kd}(h:isGap t=false):valV (mergeK [] sizes) (Sum.inr (word t):Key)=some (.int (1+(parts t).length:Nat)):=by
 cases t <;> first | rfl | (simp [isGap] at h)
theorem ok_isKind1 {f fW:Addr}{fd fdW:FuncData}{n:Nat}(F:Fun K "_law_is_kind" "_law_is_kind" sIsKind f fd)(b:Binds K fd ["_law_found"] [])(mf:mg "_law_is_kind"=some (.ref f))
  (mI:mg "isinstance"=none) (mT:mg "tuple"=none) (mS:mg "str"=none) (mLen:mg "len"=none) (mAll:mg "all"=none)
  (GW:FnOk Pr w K mg base CX0 1 fW fdW ["_law_found"] spWhole) (kW:PySem.W.keepIn K (.ref fW)=true) (bW:Binds K fdW ["_law_found"] []) (mW:mg "_law_whole"=some (.ref fW))
  (G:FnOk Pr w K mg base CX0 (n+1) f fd ["_law_found"] (spIsKindP n)):FnOk Pr w K mg base CX0 (n+2) f fd ["_law_found"] (spIsKind n):=by
 refine F.okS scIsKind (fun vs H Q E h=>?_) (fun cdv A outer s H vs Q E hr h=>?_)
 ·obtain ⟨t,v,rfl,_⟩:=h
  rfl
 ·obtain ⟨t,v,rfl,kv,hdp,hok,q⟩:=h
  have hb:=line_big
  have hu:=hu_of hr
  have hr1:Room 1 _:=hr.mono (by omega)
  obtain ⟨a,us,ea,ha,hp,hg,hul⟩:=kv.look
  subst ea
  have S:CompSc (cxOf CX0 Pr w K mg base ["_law_found","_law_size"] "_law_is_kind" (defScope sIsKind) f cdv A outer s H E).nox (scopeOf (match valueOf (inDef sIsKind 3) with | .BoolOp _ [_,.Call _ [e] _ _] _=>e | _=>.Constant .none 0 ⟨0,0,0,0⟩)) [] ["_law_part"] [] [] :=
   ⟨rfl,by decide +kernel,rfl,by decide +kernel,rfl,rfl,rfl,rfl⟩
  refine ⟨_,b_cons (s_if (t_w (w_or (t_not (t_val (e_callB call_isT rfl mI PyProof.Rows.boot_isinstance (a_cons (e_v 0) (a_cons (e_bltn (v:=.ty "tuple") rfl mT PyProof.Rows.boot_tuple rfl) a_nil)))))
    (w_or (t_not (t_truth (e_v 0))) (w_or1 (t_not (t_val (e_callB call_isT rfl mI PyProof.Rows.boot_isinstance (a_cons (e_ix ix_tup (e_v 0) e_int (fun _ _=>rfl)) (a_cons (e_bltn (v:=.ty "str") rfl mS PyProof.Rows.boot_str rfl) a_nil))))))))) (b_one (s_ret e_bl)) b_nil)
   (b_cons (s_if (t_cmp op_eq (e_ix ix_tup (e_v 0) e_int (fun _ _=>rfl)) e_str (nomark _))
    (b_one (s_ret (e_and (e_cmp op_eq (e_callB call_len_seq rfl mLen PySem.boot_len (a_cons (e_v 0) a_nil)) e_int (nomark _)) (e_and (e_call GW hr1 rfl mW kW bW (a_cons (e_ix ix_tup (e_v 0) e_int (fun _ _=>rfl)) a_nil)) (e_one (e_cmp op_ge (e_ix ix_tup (e_v 0) e_int (fun _ _=>rfl)) e_int (nomark _))))))) b_nil)
   (b_cons (s_set (i:=1) scIsKind.nd rfl (Or.inl rfl) (e_dget2 hu (e_disp (d_cons e_str e_int (d_cons e_str e_int (d_cons e_str e_int (d_cons e_str e_int (d_cons e_str e_int d_nil))))) rfl rfl (by simp) (by decide)) (e_ix ix_tup (e_v 0) e_int (fun _ _=>rfl)) e_int ⟨rfl,rfl,rfl,rfl⟩))
   (b_one (s_ret (e_and (e_cmp op_eq (e_callB call_len_seq rfl mLen PySem.boot_len (a_cons (e_v 0) a_nil)) (e_v 1) (nomark _))
    (e_one (e_callB (call_allB rfl) rfl mAll PyProof.Rows.boot_all (a_cons (e_comp (te:=tCall (spIsKindP n) [] E0 (tCons (tVar 0) tNil)) S rfl (i_tup (e_slice sl_tup (e_v 0) (o_some e_int) o_none)) (fun C s0 H0 ex=>g_name (i:=0) (show (["_law_part"]:List Str).Nodup by decide +kernel) rfl (Or.inl rfl)) (fun _ _ _ _=>f_nil)
     (fun C s0 H0 ex=>e_call G hr rfl mf F.kp b (a_cons (e_v 0) a_nil))) a_nil)))))))),?_⟩
  refine ⟨_,rfl,_,_,_,true,rfl,TyOf.tup ha,rfl,_,rfl,iteF ?_⟩
  refine ⟨_,rfl,true,.inr (.inl ⟨_,SqT.of ha,rfl⟩),iteF ?_⟩
  refine ⟨_,rfl,a,_,_,_,rfl,rfl,SqT.of ha,atI_nat (j:=0) rfl,_,_,_,true,rfl,TyOf.str _,rfl,_,rfl,iteF ?_⟩
  refine ⟨_,rfl,a,_,_,_,rfl,rfl,SqT.of ha,atI_nat (j:=0) rfl,rfl,_,rfl,?_⟩
  rw [dec_any]
  cases e:isGap t with
  | true =>
   obtain ⟨k,rfl⟩:∃ k,t=.gap k:=by cases t <;> simp [isGap] at e;exact ⟨_,rfl⟩
   obtain rfl:=hg k rfl
   refine iteT ⟨_,rfl,a,_,rfl,.inr (SqT.of ha),rfl,_,rfl,iteP (by simp) ?_⟩
   refine ⟨_,rfl,a,_,_,_,rfl,rfl,SqT.of ha,atI_nat (j:=1) rfl,k,rfl,_,rfl,iteT ?_⟩
   refine ⟨_,rfl,a,_,_,_,rfl,rfl,SqT.of ha,atI_nat (j:=1) rfl,_,_,rfl,rfl,?_⟩
   have hk:decide (0<=k)=true:=hok
   show Q (.bl (decide (0<=k))) H
   rw [hk]
   exact q H (Same.refl H)
  | false =>
   have pk:=hp e
   have hlen:us.length=(parts t).length:=(Paired.length pk).symm
   refine iteF ?_
   intro p hp0
   have nap:a≠p:=ne_of_none ha hp0
   have ha1:(upd (upd H p (.dK [])) p (.dK (mergeK [] sizes))) a=some (.tup (.str (word t)::us)):=by rw [upd_ne nap,upd_ne nap];exact ha
   refine ⟨upd_same,sizes,rfl,by decide,p,rfl,.inl ⟨_,.inl upd_same⟩,_,rfl,a,_,_,_,rfl,rfl,SqT.of ha1,atI_nat (j:=0) rfl,_,DGet.k (k:=Sum.inr (word t)) upd_same,?_⟩
   rw [size_at e]
   generalize hH1:upd (upd H p (.dK [])) p (.dK (mergeK [] sizes))=H1 at ha1 ⊢
   have s1:Same H H1:=by rw [<- hH1];exact Same.put (Same.new hp0) hp0
   refine ⟨_,rfl,a,_,rfl,.inr (SqT.of ha1),_,rfl,rfl,_,rfl,iteP ?_ ?_⟩
   ·rw [decide_eq_true_iff]
    show V.int ((us.length+1:Nat):Int)=V.int (1+(parts t).length:Nat)
    rw [hlen,Nat.add_comm]
   refine ⟨_,rfl,_,rfl,a,_,rfl,SqT.of ha1,(by intro z;have:=z.1;simp [HT.sIx] at this),fun p2 hp2=>⟨p2,rfl,⟨_,SqT.of upd_same⟩,?_⟩⟩
   rw [cut1]
   have s2:Same H (upd H1 p2 (.tup us)):=Same.put s1 (s1.free hp2)
   refine comp_tup (K:=K) (a:=p2) (xs:=us) (fun i ys H3=>ys=(List.replicate i true).map V.bl/\Same H H3/\H3 p2=some (.tup us)) ⟨rfl,s2,upd_same⟩ (fun i ys H3 z=>SqT.of z.2.2) (by omega) (fun i ys H3 z=>?_) (fun i x ys H3 hx z=>?_)
    (fun x σ H Q Q' h z=>h _ _ z) (fun σ H Q Q' h z=>h _ _ z) (fun σ H Q Q' h z=>?_) (fun ys H3 z=>?_)
   ·rw [z.1];simp
   ·obtain ⟨e1,sm,h3⟩:=z
    obtain ⟨s',hs',kx⟩:=Paired.at pk hx
    have hmem:=List.mem_of_getElem? hs'
    have hlt:=dp_part hmem
    refine ⟨Ext.set rfl,yes_then ?_⟩
    refine ⟨_,rfl,?_⟩
    cases n with
    | zero=>omega
    | succ n =>
     refine ⟨s',x,rfl,KAt.mono (TSub.of_same sm) kx,by omega,ok_part hok hmem,fun H4 sm4=>⟨?_,Same.trans sm sm4,sm4 _ _ h3⟩⟩
     rw [e1,List.replicate_succ',List.map_append]
     rfl
   ·cases n with
    | zero=>obtain ⟨v',e1,z⟩:=z;exact z.elim
    | succ n =>
     obtain ⟨v',e1,t',v2,e2,k2,d2,o2,z⟩:=z
     exact ⟨v',e1,t',v2,e2,k2,d2,o2,fun H' sm=>h _ _ (z H' sm)⟩
   ·obtain ⟨e1,sm,h3⟩:=z
    intro D hD
    refine ⟨D,List.replicate us.length true,rfl,by rw [e1];exact upd_same,?_⟩
    have ea:(List.replicate us.length true).all id=true:=by simp
    rw [ea]
    exact q _ (Same.put sm (sm.free hD))
theorem ok_isKind {f fW:Addr}{fd fdW:FuncData}(F:Fun K "_law_is_kind" "_law_is_kind" sIsKind f fd)(b:Binds K fd ["_law_found"] [])(mf:mg "_law_is_kind"=some (.ref f))
  (mI:mg "isinstance"=none) (mT:mg "tuple"=none) (mS:mg "str"=none) (mLen:mg "len"=none) (mAll:mg "all"=none)
  (GW:FnOk Pr w K mg base CX0 1 fW fdW ["_law_found"] spWhole) (kW:PySem.W.keepIn K (.ref fW)=true) (bW:Binds K fdW ["_law_found"] []) (mW:mg "_law_whole"=some (.ref fW)):∀ n,FnOk Pr w K mg base CX0 (n+2) f fd ["_law_found"] (spIsKind n)
 | 0=>ok_isKind1 F b mf mI mT mS mLen mAll GW kW bW mW ok_no
 | n+1=>ok_isKind1 F b mf mI mT mS mLen mAll GW kW bW mW (ok_isKind F b mf mI mT mS mLen mAll GW kW bW mW n)
end
end K
namespace K
open PySem L2 KM KS
section
variable {Pr:Program}{w:World}{K:PySem.W.Frag}{mg:Str->Option Value}{base:Heap}
def spGaps (n:Nat):Sp:=fun vs H Q _=>∃ (t:Kd) (v:V),vs=[v]/\KAt H t v/\dp t<=n/\sz t<=100000/\∀ l H',Same H H'->H l=none->H' l=some (.lst ((gp t).map V.int))->Q (.ref l) H'
def spGapsP:Nat->Sp
 | 0=>spNo
 | n+1=>spGaps n
theorem scGaps:FnScope ["_law_kind_here","_law_found","_law_part"] ["_law_kind_here"] (defScope sGaps):=⟨rfl,rfl,rfl,by decide +kernel,rfl,by decide +kernel,by decide +kernel⟩
def gpf (ts:List Kd):List Int:=ts.foldl (fun acc s=>app acc (gp s)) []
theorem gpf_snoc (ts:List Kd)(s:Kd):gpf (ts++[s])=app (gpf ts) (gp s):=by
 unfold gpf
 rw [List.foldl_append]
 rfl
theorem gp_parts {t:Kd}(h:isGap t=false):gp t=gpf (parts t):=by
 cases t <;> first | rfl | (simp [isGap] at h)
theorem inV_ints (n:Int)(acc:List Int):inV (.int n) (acc.map V.int)=decide (n∈acc):=by
 unfold inV
 rw [Bool.eq_iff_iff,List.any_map]
 simp [eqV,Function.comp]
theorem flat_ints (acc:List Int):(acc.map V.int).all flatV=true:=by
 rw [List.all_map]
 simp [Function.comp,flatV]
theorem gpf_len (ts:List Kd):(gpf ts).length<=szs ts:=by
 have:∀ (ts:List Kd) (acc:List Int),(ts.foldl (fun acc s=>app acc (gp s)) acc).length<=acc.length+szs ts:=by
  intro ts
  induction ts with
  | nil=>intro acc;simp [szs]
  | cons t ts ih =>
   intro acc
   have h1:=ih (app acc (gp t))
   have h2:=app_len acc (gp t)
   have h3:=gp_len t
   simp only [List.foldl_cons,szs]
   omega
 simpa [gpf] using this ts []
theorem szs_take (ts:List Kd)(i:Nat):szs (ts.take i)<=szs ts:=by
 conv=>rhs;rw [<- List.take_append_drop i ts]
 rw [szs_append]
 omega
theorem sz_part {t s:Kd}(h:s∈parts t):sz s < sz t:=by
 cases t <;> simp [parts] at h
 ·rcases h with rfl | rfl <;> simp only [sz] <;> omega
 ·rcases h with rfl | rfl <;> simp only [sz] <;> omega
 ·subst h;simp only [sz];omega
theorem ok_gaps1 {f:Addr}{fd:FuncData}{n:Nat}(F:Fun K "_law_gaps" "_law_gaps" sGaps f fd)(b:Binds K fd ["_law_kind_here"] [])(mf:mg "_law_gaps"=some (.ref f))
  (G:FnOk Pr w K mg base CX0 (n+1) f fd ["_law_kind_here"] (spGapsP n)):FnOk Pr w K mg base CX0 (n+2) f fd ["_law_kind_here"] (spGaps n):=by
 refine F.okS scGaps (fun vs H Q E h=>?_) (fun cdv A outer s H vs Q E hr h=>?_)
 ·obtain ⟨t,v,rfl,_⟩:=h
  rfl
 ·obtain ⟨t,v,rfl,kv,hdp,hsz,q⟩:=h
  have hb:=line_big
  obtain ⟨a,us,ea,ha,hp,hg,hul⟩:=kv.look
  subst ea
  have S:CompSc (cxOf CX0 Pr w K mg base ["_law_kind_here","_law_found","_law_part"] "_law_gaps" (defScope sGaps) f cdv A outer s H E).nox (scopeOf (match valueOf (inFor (inDef sGaps 2) 0) with | .BinOp _ _ e _=>e | _=>.Constant .none 0 ⟨0,0,0,0⟩)) [("_law_found",s.heap.objs.size+1)] ["_law_number"] ["_law_found"] [1] :=
   ⟨rfl,by decide +kernel,rfl,by decide +kernel,rfl,rfl,rfl,rfl⟩
  refine ⟨_,b_cons (s_if (t_cmp op_eq (e_ix ix_tup (e_v 0) e_int (fun _ _=>rfl)) e_str (nomark _)) (b_one (s_ret (e_lst (a_cons (e_ix ix_tup (e_v 0) e_int (fun _ _=>rfl)) a_nil)))) b_nil)
   (b_cons (s_set (i:=1) scGaps.nd rfl (Or.inr rfl) (e_lst a_nil))
   (b_cons (s_for PassesOwn.never rfl (i_tup (e_slice sl_tup (e_v 0) (o_some e_int) o_none)) (g_name (i:=2) scGaps.nd rfl (Or.inl rfl))
    (b_one (s_set (i:=1) scGaps.nd rfl (Or.inr rfl) (e_op op_cat (e_v 1) (e_comp (tt:=tTest (tOp (rIn K true) (tVar 0) (tVar 1))) (te:=tVar 0) S rfl (i_list (e_call G hr rfl mf F.kp b (a_cons (e_v 2) a_nil))) (fun C s0 H0 ex=>g_name (i:=0) (show (["_law_number","_law_found"]:List Str).Nodup by decide +kernel) rfl (Or.inl rfl))
     (fun C s0 H0 ex=>f_one (t_cmp op_notIn_seq (e_v 0) (e_v 1) rfl)) (fun C s0 H0 ex=>e_v 0))))))
   (b_one (s_ret (e_v 1))))),?_⟩
  refine ⟨_,rfl,a,_,_,_,rfl,rfl,SqT.of ha,atI_nat (j:=0) rfl,rfl,_,rfl,?_⟩
  rw [dec_any]
  cases e:isGap t with
  | true =>
   obtain ⟨k,rfl⟩:∃ k,t=.gap k:=by cases t <;> simp [isGap] at e;exact ⟨_,rfl⟩
   obtain rfl:=hg k rfl
   refine iteT ⟨_,rfl,a,_,_,_,rfl,rfl,SqT.of ha,atI_nat (j:=1) rfl,by show 1<=sizeLine;omega,fun l hl=>?_⟩
   exact q l _ (Same.new hl) hl upd_same
  | false =>
   have pk:=hp e
   have hlen:us.length=(parts t).length:=(Paired.length pk).symm
   refine iteF ⟨by simp,fun lf hlf=>?_⟩
   have ha1:(upd H lf (.lst [])) a=some (.tup (.str (word t)::us)):=by rw [upd_ne (ne_of_none ha hlf)];exact ha
   refine ⟨_,rfl,_,rfl,a,_,rfl,SqT.of ha1,(by intro z;have:=z.1;simp [HT.sIx] at this),fun p hp0=>⟨p,rfl,⟨_,SqT.of upd_same⟩,?_⟩⟩
   have npf:lf≠p:=fun z=>by rw [<- z,upd_same] at hp0;cases hp0
   have hpH:H p=none:=by rw [upd_ne (Ne.symm npf)] at hp0;exact hp0
   rw [cut1]
   have s1:Same H (upd (upd H lf (.lst [])) p (.tup us)):=Same.put (Same.new hlf) hpH
   refine for_tup (K:=K) (a:=p) (xs:=us) (fun i σ H2=>∃ lg pt,σ=[some (.ref a),some (.ref lg),pt]/\Same H H2/\H2 p=some (.tup us)/\H lg=none/\H2 lg=some (.lst ((gpf ((parts t).take i)).map V.int)))
    ⟨lf,none,rfl,s1,upd_same,hlf,by rw [upd_ne npf,upd_same];rfl⟩ (fun i σ H2 _ z=>?_) (fun i x σ H2 hx z=>?_) (fun σ H2 z=>?_)
   ·obtain ⟨lg,pt,rfl,_,h1,_⟩:=z
    exact SqT.of h1
   ·obtain ⟨lg,pt,rfl,sm,h1,hlg0,h2⟩:=z
    obtain ⟨s',hs',kx⟩:=Paired.at pk hx
    have hmem:=List.mem_of_getElem? hs'
    have hlt:=dp_part hmem
    have hszp:=sz_part hmem
    have hacc:(gpf ((parts t).take i)).length<=100000:=by
     have h3:=gpf_len ((parts t).take i)
     have h4:=szs_take (parts t) i
     have h5:=szs_parts t
     omega
    have hgl:(gp s').length<=100000:=by have:=gp_len s';omega
    refine ⟨_,rfl,_,rfl,?_⟩
    cases n with
    | zero=>omega
    | succ n =>
     refine ⟨s',x,rfl,KAt.mono (TSub.of_same sm) kx,by omega,by omega,fun l3 H3 sm3 hl30 hl3=>⟨l3,rfl,⟨_,SqL.of hl3⟩,?_⟩⟩
     have h23:=sm3 lg _ h2
     have n3g:lg≠l3:=fun z=>by rw [<- z,h2] at hl30;cases hl30
     generalize hA:gpf ((parts t).take i)=acc at h2 h23 hacc
     refine comp_list (K:=K) (a:=l3) (xs:=(gp s').map V.int) (fun j ys H4=>H4=H3/\ys=(((gp s').take j).filter fun n=>decide (n∉acc)).map V.int) ⟨rfl,rfl⟩ (fun j ys H4 z=>?_) (by rw [List.length_map];omega) (fun j ys H4 z=>?_) (fun j x ys H4 hx z=>?_)
      (fun x σ H Q Q' h z=>h _ _ z) (fun σ H Q Q' h z=>?_) (fun σ H Q Q' h z=>?_) (fun ys H4 z=>?_)
     ·rw [z.1];exact SqL.of hl3
     ·rw [z.2,List.length_map]
      have h6:=List.length_filter_le (fun n=>decide (n∉acc)) ((gp s').take j)
      rw [List.length_take] at h6
      omega
     ·obtain ⟨rfl,rfl⟩:=z
      rw [List.getElem?_map] at hx
      cases ej:(gp s')[j]? with
      | none=>rw [ej] at hx;cases hx
      | some m =>
       rw [ej] at hx
       cases hx
       refine ⟨Ext.set rfl,_,rfl,_,rfl,lg,_,rfl,.inl (SqL.of h23),rfl,flat_ints acc,_,rfl,?_⟩
       rw [inV_ints]
       have et:(gp s').take (j+1)=(gp s').take j++[m]:=by rw [List.take_add_one,ej];rfl
       by_cases hin:m∈acc
       ·have e1:(!decide (m∈acc))=false:=by simp [hin]
        show if (!decide (m∈acc))=true then _ else _
        rw [e1]
        refine iteF ⟨rfl,?_⟩
        rw [et,List.filter_append]
        simp [hin]
       ·have e1:(!decide (m∈acc))=true:=by simp [hin]
        show if (!decide (m∈acc))=true then _ else _
        rw [e1]
        refine iteT ⟨_,rfl,rfl,?_⟩
        rw [et,List.filter_append]
        simp [hin]
     ·obtain ⟨v1,z1,v2,z2,p1,x1,z3,z4,z5,z6,k1,z7,z8⟩:=z
      exact ⟨v1,z1,v2,z2,p1,x1,z3,z4,z5,z6,k1,z7,h _ _ z8⟩
     ·obtain ⟨v1,z1,z2⟩:=z
      exact ⟨v1,z1,h _ _ z2⟩
     ·obtain ⟨rfl,rfl⟩:=z
      intro D hD
      rw [List.length_map,List.take_length]
      have ngD:lg≠D:=ne_of_none h23 hD
      refine ⟨lg,D,_,_,rfl,rfl,by rw [upd_ne ngD];exact h23,upd_same,?_,fun r hr0=>?_⟩
      ·rw [List.length_map,List.length_map]
       have h6:=List.length_filter_le (fun n=>decide (n∉acc)) (gp s')
       omega
      ·have smD:=Same.trans sm sm3
       have hD0:H D=none:=smD.free hD
       have smU:Same H (upd H4 D (.lst (((gp s').filter fun n=>decide (n∉acc)).map V.int))):=Same.put smD hD0
       have hr00:H r=none:=smU.free hr0
       refine ⟨r,_,rfl,Same.put smU hr00,?_,hr00,?_⟩
       ·have npD:p≠D:=ne_of_none (sm3 p _ h1) hD
        have npr:p≠r:=ne_of_none (o:=.tup us) (by rw [upd_ne npD];exact sm3 p _ h1) hr0
        rw [upd_ne npr,upd_ne npD]
        exact sm3 p _ h1
       ·rw [upd_same,<- List.map_append,List.take_add_one,hs']
        show some (HO.lst ((acc++_).map V.int))=some (HO.lst ((gpf ((parts t).take i++[s'])).map V.int))
        rw [gpf_snoc,hA]
        rfl
   ·obtain ⟨lg,pt,rfl,sm,h1,hlg0,h2⟩:=z
    refine ⟨_,rfl,?_⟩
    rw [hlen,List.take_length,<- gp_parts e] at h2
    exact q lg H2 sm hlg0 h2
theorem ok_gaps {f:Addr}{fd:FuncData}(F:Fun K "_law_gaps" "_law_gaps" sGaps f fd)(b:Binds K fd ["_law_kind_here"] [])(mf:mg "_law_gaps"=some (.ref f)):∀ n,FnOk Pr w K mg base CX0 (n+2) f fd ["_law_kind_here"] (spGaps n)
 | 0=>ok_gaps1 F b mf ok_no
 | n+1=>ok_gaps1 F b mf (ok_gaps F b mf n)
end
end K
namespace K
open PySem L2 KM KS
def prl:List Kd->List Kd->Option (List (Int × Kd))
 | a::as,b::bs=>(prs a b).bind fun x=>(prl as bs).map fun y=>x++y
 | [],[]=>some []
 | _,_=>none
theorem prs_parts {a b:Kd}(g:isGap a=false)(h:word a=word b):prs a b=prl (parts a) (parts b)/\(parts a).length=(parts b).length/\isGap b=false:=by
 have ht:tag a=tag b:=by
  rw [word_eq,word_eq] at h
  have:=wordN_eq (tag a) (by cases a <;> simp [tag]) (tag b) (by cases b <;> simp [tag])
  rw [h] at this
  simpa using this
 cases a <;> cases b <;> simp [isGap,tag] at g ht
 ·exact ⟨rfl,rfl,rfl⟩
 ·exact ⟨rfl,rfl,rfl⟩
 ·rename_i a1 a2 b1 b2
  refine ⟨?_,rfl,rfl⟩
  show (prs a1 b1).bind _=(prs a1 b1).bind fun x=>((prs a2 b2).bind fun y=>some (y++[])).map fun y=>x++y
  cases prs a1 b1 <;> cases prs a2 b2 <;> simp
 ·rename_i a1 a2 b1 b2
  refine ⟨?_,rfl,rfl⟩
  show (prs a1 b1).bind _=(prs a1 b1).bind fun x=>((prs a2 b2).bind fun y=>some (y++[])).map fun y=>x++y
  cases prs a1 b1 <;> cases prs a2 b2 <;> simp
 ·rename_i a1 b1
  refine ⟨?_,rfl,rfl⟩
  show prs a1 b1=(prs a1 b1).bind fun x=>some (x++[])
  cases prs a1 b1 <;> simp
theorem prs_differ {a b:Kd}(g:isGap a=false)(h:word a≠word b):prs a b=none:=by
 cases a <;> cases b <;> first | rfl | (simp [isGap] at g;done) | exact absurd rfl h
theorem prl_append:∀ {as bs cs ds:List Kd},as.length=bs.length->prl (as++cs) (bs++ds)=(prl as bs).bind fun x=>(prl cs ds).map fun y=>x++y
 | [],[],cs,ds,_=>by simp [prl]
 | a::as,b::bs,cs,ds,h=>by
  have ih:=prl_append (cs:=cs) (ds:=ds) (show as.length=bs.length by simpa using h)
  simp only [List.cons_append,prl,ih]
  cases prs a b <;> cases prl as bs <;> cases prl cs ds <;> simp
abbrev PrsAt (H:Hp):List (Int × Kd)->List V->Prop:=Paired (fun p v=>∃ a u,v=.ref a/\H a=some (.tup [.int p.1,u])/\KAt H p.2 u)
theorem PrsAt.mono {H H':Hp}(s:TSub H H'){ps:List (Int × Kd)}{us:List V}(h:PrsAt H ps us):PrsAt H' ps us :=
 Paired.mapP h fun p v ⟨a,u,e,h1,h2⟩=>⟨a,u,e,s _ _ h1,KAt.mono s h2⟩
section
variable {Pr:Program}{w:World}{K:PySem.W.Frag}{mg:Str->Option Value}{base:Heap}
def spPairs (n:Nat):Sp:=fun vs H Q _=>∃ (a b:Kd) (v u:V),vs=[v,u]/\KAt H a v/\KAt H b u/\dp a<=n/\sz a<=100000/\(prs a b=none->∀ H',Same H H'->Q .non H') /\
 ∀ ps,prs a b=some ps->∀ l us H',Same H H'->H l=none->H' l=some (.lst us)->PrsAt H' ps us->Q (.ref l) H'
def spPairsP:Nat->Sp
 | 0=>spNo
 | n+1=>spPairs n
theorem scPairs:FnScope ["_law_wide","_law_kind_here","_law_found","_law_k","_law_more"] ["_law_wide","_law_kind_here"] (defScope sPairs):=⟨rfl,rfl,rfl,by decide +kernel,rfl,by decide +kernel,by decide +kernel⟩
theorem szW_part {t s:Kd}(h:s∈parts t):sz s < sz t:=by
 cases t <;> simp [parts] at h
 ·rcases h with rfl | rfl <;> simp only [sz] <;> omega
 ·rcases h with rfl | rfl <;> simp only [sz] <;> omega
 ·subst h;simp only [sz];omega
theorem prl_len:∀ (as bs:List Kd) (l:List (Int × Kd)),prl as bs=some l->l.length<=szs as
 | [],[],l,h=>by cases h;simp
 | [],_::_,l,h=>by cases h
 | _::_,[],l,h=>by cases h
 | a::as,b::bs,l,h=>by
  obtain ⟨u,v,h1,h2,rfl⟩:=two_some h
  have i1:=prs_len a b u h1
  have i2:=prl_len as bs v h2
  simp only [List.length_append,szs]
  omega
theorem szsW_take (ts:List Kd)(i:Nat):szs (ts.take i)<=szs ts:=by
 conv=>rhs;rw [<- List.take_append_drop i ts]
 rw [szs_append]
 omega
theorem atI_one {x:V}{us:List V}{i:Nat}{v:V}(h:us[i]?=some v):atI (x::us) (1+(i:Int))=some v:=by
 rw [show (1:Int)+(i:Int)=((i+1:Nat):Int) by omega]
 exact atI_nat (by simpa using h)
theorem ok_pairs1 {f:Addr}{fd:FuncData}{n:Nat}(F:Fun K "_law_pairs" "_law_pairs" sPairs f fd)(bi:Binds K fd ["_law_wide","_law_kind_here"] [])(mf:mg "_law_pairs"=some (.ref f))(mR:mg "range"=none)(mLen:mg "len"=none)
  (G:FnOk Pr w K mg base CX0 (n+1) f fd ["_law_wide","_law_kind_here"] (spPairsP n)):FnOk Pr w K mg base CX0 (n+2) f fd ["_law_wide","_law_kind_here"] (spPairs n):=by
 refine F.okS scPairs (fun vs H Q E h=>?_) (fun cdv A outer s H vs Q E hr h=>?_)
 ·obtain ⟨a,b,v,u,rfl,_⟩:=h
  rfl
 ·obtain ⟨a,b,v,u,rfl,kv,ku,hdp,hsz,qn,qs⟩:=h
  have hb:=line_big
  obtain ⟨pa,us,ea,ha,hpa,hga,hul⟩:=kv.look
  subst ea
  obtain ⟨pb,us',eb,hb',hpb,hgb,hul'⟩:=ku.look
  subst eb
  refine ⟨_,b_cons (s_if (t_cmp op_eq (e_ix ix_tup (e_v 0) e_int (fun _ _=>rfl)) e_str (nomark _)) (b_one (s_ret (e_lst (a_cons (e_tup (a_cons (e_ix ix_tup (e_v 0) e_int (fun _ _=>rfl)) (a_cons (e_v 1) a_nil))) a_nil)))) b_nil)
   (b_cons (s_if (t_cmp op_ne (e_ix ix_tup (e_v 0) e_int (fun _ _=>rfl)) (e_ix ix_tup (e_v 1) e_int (fun _ _=>rfl)) (nomark _)) (b_one (s_ret e_non)) b_nil)
   (b_cons (s_set (i:=2) scPairs.nd rfl (Or.inl rfl) (e_lst a_nil))
   (b_cons (s_for PassesOwn.never rfl (i_range2 rfl mR (a_cons e_int (a_cons (e_callB call_len_seq rfl mLen PySem.boot_len (a_cons (e_v 0) a_nil)) a_nil))) (g_name (i:=3) scPairs.nd rfl (Or.inl rfl))
    (b_cons (s_set (i:=4) scPairs.nd rfl (Or.inl rfl) (e_call G hr rfl mf F.kp bi (a_cons (e_ix ix_tup (e_v 0) (e_v 3) (fun _ _=>rfl)) (a_cons (e_ix ix_tup (e_v 1) (e_v 3) (fun _ _=>rfl)) a_nil))))
    (b_cons (s_if (t_cmp op_isN (e_v 4) e_non rfl) (b_one (s_ret e_non)) b_nil)
    (b_one (s_set (i:=2) scPairs.nd rfl (Or.inl rfl) (e_op op_cat (e_v 2) (e_v 4)))))))
   (b_one (s_ret (e_v 2)))))),?_⟩
  refine ⟨_,rfl,pa,_,_,_,rfl,rfl,SqT.of ha,atI_nat (j:=0) rfl,rfl,_,rfl,?_⟩
  rw [dec_any]
  cases e:isGap a with
  | true =>
   obtain ⟨k,rfl⟩:∃ k,a=.gap k:=by cases a <;> simp [isGap] at e;exact ⟨_,rfl⟩
   obtain rfl:=hga k rfl
   refine iteT ⟨_,rfl,pa,_,_,_,rfl,rfl,SqT.of ha,atI_nat (j:=1) rfl,_,rfl,by show 2<=sizeLine;omega,fun p hp=>⟨by show 1<=sizeLine;omega,fun l hl=>?_⟩⟩
   have npl:p≠l:=fun z=>by rw [<- z,upd_same] at hl;cases hl
   have hl0:H l=none:=by rw [upd_ne (Ne.symm npl)] at hl;exact hl
   have sm:Same H (upd (upd H p (.tup [.int k,.ref pb])) l (.lst [.ref p])):=Same.put (Same.new hp) hl0
   exact qs _ rfl l _ _ sm hl0 upd_same (.cons ⟨p,_,rfl,by rw [upd_ne npl,upd_same],KAt.mono (TSub.of_same sm) ku⟩ .nil)
  | false =>
   refine iteF ⟨_,rfl,pa,_,_,_,rfl,rfl,SqT.of ha,atI_nat (j:=0) rfl,_,rfl,pb,_,_,_,rfl,rfl,SqT.of hb',atI_nat (j:=0) rfl,rfl,_,rfl,?_⟩
   by_cases hw:word a=word b
   ·refine iteN (by simp [hw]) ?_
    obtain ⟨ep,elen,egb⟩:=prs_parts e hw
    have pk:=hpa e
    have pk':=hpb egb
    have hlen:us.length=(parts a).length:=(Paired.length pk).symm
    have hlen':us'.length=(parts b).length:=(Paired.length pk').symm
    have hpl:=parts_len a
    have hszp:=szs_parts a
    refine ⟨by simp,fun lf hlf=>?_⟩
    have ha1:(upd H lf (.lst [])) pa=some (.tup (.str (word a)::us)):=by rw [upd_ne (ne_of_none ha hlf)];exact ha
    have elen2:(((us.length+1:Nat):Int) - 1).toNat=us.length:=by omega
    refine ⟨_,rfl,pa,_,rfl,.inr (SqT.of ha1),1,_,rfl,⟨by omega,by omega,by show -(2 ^ 62)<=((us.length+1:Nat):Int);omega,by show ((us.length+1:Nat):Int) < 2 ^ 62;omega⟩,?_⟩
    show ∃ W:Nat->Nat->St->Hp->Prop,_
    have elen3:(((V.str (word a)::us).length:Int) - 1).toNat=us.length:=by simp
    rw [elen3]
    refine for_range (fun i σ H2=>∃ lg kk mm acc us2,σ=[some (.ref pa),some (.ref pb),some (.ref lg),kk,mm]/\Same H H2/\prl ((parts a).take i) ((parts b).take i)=some acc/\H lg=none/\H2 lg=some (.lst us2)/\PrsAt H2 acc us2)
     ⟨lf,none,none,[],[],rfl,Same.new hlf,rfl,hlf,upd_same,.nil⟩ (fun i σ H2 hi z=>?_) (fun σ H2 z=>?_)
    ·obtain ⟨lg,kk,mm,acc,us2,rfl,sm,hacc,hlg0,hlg,pacc⟩:=z
     obtain ⟨x,hx⟩:∃ x,us[i]?=some x:=⟨_,List.getElem?_eq_getElem (by omega)⟩
     obtain ⟨x',hx'⟩:∃ x',us'[i]?=some x':=⟨_,List.getElem?_eq_getElem (by omega)⟩
     obtain ⟨s1,hs1,kx⟩:=Paired.at pk hx
     obtain ⟨s2,hs2,kx'⟩:=Paired.at pk' hx'
     have hmem:=List.mem_of_getElem? hs1
     have hlt:=dp_part hmem
     have hszs:=szW_part hmem
     have hal:=prl_len _ _ _ hacc
     have hal2:=szsW_take (parts a) i
     have taken:((parts a).take i).length=((parts b).take i).length:=by rw [List.length_take,List.length_take,elen]
     have stepE:prl ((parts a).take (i+1)) ((parts b).take (i+1))=(prs s1 s2).map fun y=>acc++y:=by
      rw [List.take_add_one,List.take_add_one,hs1,hs2]
      show prl (_++[s1]) (_++[s2])=_
      rw [prl_append taken,hacc]
      show (((prs s1 s2).bind fun x=>some (x++[])).map fun y=>acc++y)=_
      cases prs s1 s2 <;> simp
     refine ⟨_,rfl,_,rfl,pa,_,_,_,rfl,rfl,SqT.of (sm pa _ ha),atI_one hx,_,rfl,_,rfl,pb,_,_,_,rfl,rfl,SqT.of (sm pb _ hb'),atI_one hx',?_⟩
     cases n with
     | zero=>omega
     | succ n =>
      refine ⟨s1,s2,x,x',rfl,KAt.mono (TSub.of_same sm) kx,KAt.mono (TSub.of_same sm) kx',by omega,by omega,fun en H3 sm3=>?_,fun ps eps l3 us3 H3 sm3 hl30 hl3 p3=>?_⟩
      ·refine ⟨_,rfl,rfl,_,rfl,iteP rfl ?_⟩
       refine qn ?_ H3 (Same.trans sm sm3)
       rw [ep,<- List.take_append_drop (i+1) (parts a),<- List.take_append_drop (i+1) (parts b),prl_append (by rw [List.length_take,List.length_take,elen]),stepE,en]
       rfl
      ·refine ⟨_,rfl,rfl,_,rfl,iteN (by simp) ?_⟩
       have hg3:=sm3 lg _ hlg
       have hml:=prs_len _ _ _ eps
       have h2l:us2.length=acc.length:=(Paired.length pacc).symm
       have h3l:us3.length=ps.length:=(Paired.length p3).symm
       refine ⟨_,rfl,_,rfl,lg,l3,us2,us3,rfl,rfl,hg3,hl3,by omega,fun r hr0=>?_⟩
       have sm':=Same.trans sm sm3
       have hr00:H r=none:=sm'.free hr0
       refine ⟨r,_,_,acc++ps,us2++us3,rfl,Same.put sm' hr00,?_,hr00,upd_same,?_⟩
       ·rw [stepE,eps];rfl
       ·exact Paired.app (PrsAt.mono (TSub.trans (TSub.of_same sm3) (TSub.new hr0)) pacc) (PrsAt.mono (TSub.new hr0) p3)
    ·obtain ⟨lg,kk,mm,acc,us2,rfl,sm,hacc,hlg0,hlg,pacc⟩:=z
     refine ⟨_,rfl,?_⟩
     have h1:(parts a).take us.length=parts a:=List.take_of_length_le (by omega)
     have h2:(parts b).take us.length=parts b:=List.take_of_length_le (by omega)
     rw [h1,h2] at hacc
     exact qs acc (by rw [ep];exact hacc) lg us2 H2 sm hlg0 hlg pacc
   ·refine iteP (by simp [hw]) ?_
    exact qn (prs_differ e hw) H (Same.refl H)
theorem ok_pairs {f:Addr}{fd:FuncData}(F:Fun K "_law_pairs" "_law_pairs" sPairs f fd)(bi:Binds K fd ["_law_wide","_law_kind_here"] [])(mf:mg "_law_pairs"=some (.ref f))(mR:mg "range"=none)(mLen:mg "len"=none):
  ∀ n,FnOk Pr w K mg base CX0 (n+2) f fd ["_law_wide","_law_kind_here"] (spPairs n)
 | 0=>ok_pairs1 F bi mf mR mLen ok_no
 | n+1=>ok_pairs1 F bi mf mR mLen (ok_pairs F bi mf mR mLen n)
theorem PrsAt.list {H:Hp}:∀ {ps:List (Int × Kd)} {us:List V},PrsAt H ps us->∃ qs:List (Addr × Key × V),us=qs.map (fun q=>V.ref q.1)/\(∀ q∈qs,H q.1=some (.tup [kV q.2.1,q.2.2]))/\Paired (fun p q=>q.2.1=(Sum.inl p.1:Key)/\KAt H p.2 q.2.2) ps qs
 | _,_,.nil=>⟨[],rfl,(fun q hq=>by cases hq),.nil⟩
 | _,_,.cons (a:=p) ⟨a,u,e,h1,h2⟩ t=>by
  obtain ⟨qs,e2,h3,h4⟩:=PrsAt.list t
  subst e
  refine ⟨(a,Sum.inl p.1,u)::qs,by rw [e2];rfl,fun q hq=>?_,.cons ⟨rfl,h2⟩ h4⟩
  rcases List.mem_cons.mp hq with rfl | hq
  ·exact h1
  ·exact h3 q hq
theorem dict_last {H:Hp}:∀ {ps:List (Int × Kd)} {qs:List (Addr × Key × V)} (kvs:List (Key × V)) (m:Int->Option Kd),Paired (fun p q=>q.2.1=(Sum.inl p.1:Key)/\KAt H p.2 q.2.2) ps qs->DictK H kvs m ->
  DictK H (qs.foldl (fun m p=>putK m p.2.1 p.2.2) kvs) (fun k=>ps.foldl (fun m p=>if p.1=k then some p.2 else m) (m k))
 | _,_,kvs,m,.nil,h=>h
 | _,_,kvs,m,.cons (a:=p) (b:=q) ⟨e,kq⟩ t,h=>by
  have ih:=dict_last (putK kvs q.2.1 q.2.2) (fun j=>if j=p.1 then some p.2 else m j) t (by rw [e];exact DictK.put h kq)
  have e2:∀ k,(if p.1=k then some p.2 else m k)=(if k=p.1 then some p.2 else m k):=fun k=>by
   by_cases z:p.1=k
   ·rw [if_pos z,if_pos z.symm]
   ·rw [if_neg z,if_neg (fun y=>z y.symm)]
  simp only [List.foldl_cons,e2]
  exact ih
def spWider (n:Nat):Sp:=fun vs H Q _=>∃ (a b:Kd) (v u:V),vs=[v,u]/\KAt H a v/\KAt H b u/\dp a<=n/\sz a<=100000/\dp b<=60/\∀ H',Same H H'->Q (.bl (wd a b)) H'
theorem scWider:FnScope ["_law_wide","_law_kind_here","_law_pairs_here","_law_told_here"] ["_law_wide","_law_kind_here"] (defScope sWider):=⟨rfl,rfl,rfl,by decide +kernel,rfl,by decide +kernel,by decide +kernel⟩
theorem ok_wider {f fP:Addr}{fd fdP:FuncData}{n:Nat}(F:Fun K "_law_wider" "_law_wider" sWider f fd)(mD:mg "dict"=none)(mA:mg "all"=none)
  (GP:FnOk Pr w K mg base CX0 (n+2) fP fdP ["_law_wide","_law_kind_here"] (spPairs n)) (kP:PySem.W.keepIn K (.ref fP)=true) (bP:Binds K fdP ["_law_wide","_law_kind_here"] []) (mP:mg "_law_pairs"=some (.ref fP)) :
  FnOk Pr w K mg base CX0 (n+3) f fd ["_law_wide","_law_kind_here"] (spWider n):=by
 refine F.okS scWider (fun vs H Q E h=>?_) (fun cdv A outer s H vs Q E hr h=>?_)
 ·obtain ⟨a,b,v,u,rfl,_⟩:=h
  rfl
 ·obtain ⟨a,b,v,u,rfl,kv,ku,hdp,hsz,hdb,q⟩:=h
  have hb:=line_big
  have hu:=hu_of hr
  have hu64:=hr.units
  have S:CompSc (cxOf CX0 Pr w K mg base ["_law_wide","_law_kind_here","_law_pairs_here","_law_told_here"] "_law_wider" (defScope sWider) f cdv A outer s H E).nox (scopeOf (match valueOf (inDef sWider 3) with | .Call _ [e] _ _=>e | _=>.Constant .none 0 ⟨0,0,0,0⟩)) [("_law_told_here",s.heap.objs.size+1)] ["_law_gap_here","_law_part"] ["_law_told_here"] [3] :=
   ⟨rfl,by decide +kernel,rfl,by decide +kernel,rfl,rfl,rfl,rfl⟩
  refine ⟨_,b_cons (s_set (i:=2) scWider.nd rfl (Or.inl rfl) (e_call GP hr rfl mP kP bP (a_cons (e_v 0) (a_cons (e_v 1) a_nil))))
   (b_cons (s_if (t_cmp op_isN (e_v 2) e_non rfl) (b_one (s_ret e_bl)) b_nil)
   (b_cons (s_set (i:=3) scWider.nd rfl (Or.inr rfl) (e_callTy (call_dict_prs rfl) rfl mD PyProof.Rows.boot_dict (a_cons (e_v 2) a_nil)))
   (b_one (s_ret (e_callB (call_allB rfl) rfl mA PyProof.Rows.boot_all (a_cons (e_comp (g:=gTup K 2 (gCons (gName 0) (gCons (gName 1) gNil))) (te:=tOp rEqK (tDGet (tVar 2) (tVar 0)) (tVar 1)) S rfl (i_list (e_v 2))
    (fun C s0 H0 ex=>g_tup rfl (gs_cons (g_name (i:=0) (show (["_law_gap_here","_law_part","_law_told_here"]:List Str).Nodup by decide +kernel) rfl (Or.inl rfl)) (gs_cons (g_name (i:=1) (show (["_law_gap_here","_law_part","_law_told_here"]:List Str).Nodup by decide +kernel) rfl (Or.inl rfl)) gs_nil)))
    (fun _ _ _ _=>f_nil) (fun C s0 H0 ex=>e_cmp (op_eqK hu64) (e_dget hu (e_v 2) (e_v 0) (fun _ _=>rfl)) (e_v 1) (nomark _))) a_nil)))))),?_⟩
  refine ⟨_,rfl,_,rfl,a,b,v,u,rfl,kv,ku,hdp,hsz,fun en H1 sm1=>?_,fun ps eps l us H1 sm1 hl0 hl1 pu=>?_⟩
  ·refine ⟨_,rfl,rfl,_,rfl,iteP rfl ?_⟩
   have e1:wd a b=false:=by unfold wd;rw [en]
   have:=q H1 sm1
   rw [e1] at this
   exact this
  ·refine ⟨_,rfl,rfl,_,rfl,iteN (by simp) ?_⟩
   obtain ⟨qs,eu,hq,pq⟩:=PrsAt.list pu
   subst eu
   have hql:qs.length=ps.length:=(Paired.length pq).symm
   have hpl:=prs_len _ _ _ eps
   refine ⟨_,rfl,l,qs,rfl,hl1,hq,fun d hd=>?_⟩
   have dk0:DictK H1 (putAll qs) (lastV ps):=dict_last [] (fun _=>none) pq DictK.nil
   have sd:Same H1 (upd H1 d (.dK (putAll qs))):=Same.new hd
   have hl2:(upd H1 d (.dK (putAll qs))) l=some (.lst (qs.map fun q=>V.ref q.1)):=sd l _ hl1
   generalize hH2:upd H1 d (.dK (putAll qs))=H2 at sd hl2 ⊢
   have hd2:H2 d=some (.dK (putAll qs)):=by rw [<- hH2,upd_same]
   have dk:=DictK.mono (TSub.of_same sd) dk0
   refine ⟨_,rfl,l,rfl,⟨_,SqL.of hl2⟩,?_⟩
   refine comp_list (K:=K) (a:=l) (xs:=qs.map fun q=>V.ref q.1) (fun i ys H3=>H3=H2/\ys=((ps.take i).map fun p=>decide (lastV ps p.1=some p.2)).map V.bl) ⟨rfl,rfl⟩ (fun i ys H3 z=>by rw [z.1];exact SqL.of hl2) (by rw [List.length_map];omega)
    (fun i ys H3 z=>?_) (fun i x ys H3 hx z=>?_) (fun x σ H Q Q' h z=>?_) (fun σ H Q Q' h z=>h _ _ z) (fun σ H Q Q' h z=>?_) (fun ys H3 z=>?_)
   ·rw [z.2,List.length_map,List.length_map,List.length_take];omega
   ·obtain ⟨rfl,rfl⟩:=z
    rw [List.getElem?_map] at hx
    cases eq:qs[i]? with
    | none=>rw [eq] at hx;cases hx
    | some q0 =>
     rw [eq] at hx
     cases hx
     obtain ⟨p0,hp0,ek,kq⟩:=Paired.at pq eq
     have ht:=sd _ _ (hq q0 (List.mem_of_getElem? eq))
     refine ⟨q0.1,_,rfl,SqT.of ht,rfl,_,_,rfl,_,_,rfl,rfl,⟨rfl,?_⟩,yes_then ?_⟩
     ·intro j v hj
      cases j with
      | zero=>cases hj
      | succ j=>cases j with
       | zero=>cases hj
       | succ j=>exact hj
     ·have hmp:=List.mem_of_getElem? hp0
      obtain ⟨p1,hp1,e11,e12⟩:=lastV_mem hmp
      rcases dk p0.1 with ⟨_,z2⟩ | ⟨v',t',z1,z2,z3⟩
      ·rw [e12] at z2;cases z2
      refine ⟨_,rfl,_,rfl,d,v',rfl,?_,_,rfl,t',p0.2,z3,KAt.mono (TSub.of_same sd) kq,?_,?_,?_⟩
      ·have:=DGet.k (k:=q0.2.1) hd2
       rw [ek,z1] at this
       rw [ek]
       exact this
      ·rw [e12] at z2
       cases z2
       exact Nat.le_trans (prs_dp _ _ _ eps p1 hp1) hdb
      ·exact Nat.le_trans (prs_dp _ _ _ eps p0 hmp) hdb
      ·refine ⟨rfl,?_⟩
       rw [List.take_add_one,hp0,List.map_append,List.map_append]
       show _=_++[V.bl (decide (lastV ps p0.1=some p0.2))]
       have e3:decide (some t'=some p0.2)=decide (t'=p0.2):=by simp
       rw [z2,e3]
   ·obtain ⟨a1,x1,z1,z2,z3,v1,r1,z4,v2,r2,z5,z6,z7⟩:=z
    exact ⟨a1,x1,z1,z2,z3,v1,r1,z4,v2,r2,z5,z6,h _ _ z7⟩
   ·obtain ⟨v1,z1,v2,z2,a1,v3,z3,z4,v4,z5,t1,t2,z6,z7,z8,z9,z10⟩:=z
    exact ⟨v1,z1,v2,z2,a1,v3,z3,z4,v4,z5,t1,t2,z6,z7,z8,z9,h _ _ z10⟩
   ·obtain ⟨rfl,rfl⟩:=z
    intro D hD
    refine ⟨D,_,rfl,upd_same,?_⟩
    rw [List.length_map,hql,List.take_length]
    have e1:((ps.map fun p=>decide (lastV ps p.1=some p.2)).all id)=wd a b:=by
     unfold wd
     rw [eps,List.all_map]
     rfl
    rw [e1]
    exact q _ (Same.put (Same.trans sm1 sd) ((Same.trans sm1 sd).free hD))
end
end K
namespace K
open PySem L2 KM KS
section
variable {Pr:Program}{w:World}{K:PySem.W.Frag}{mg:Str->Option Value}{base:Heap}
def spFillL (n:Nat):Sp:=fun vs H Q _=>∃ (t:Kd) (v:V) (d:Addr) (kvs:List (Key × V)) (m:Int->Option Kd),vs=[v,.ref d]/\KAt H t v/\dp t<=n/\H d=some (.dK kvs)/\DictK H kvs m/\∀ r H',Same H H'->KAt H' (fill m t) r->Q r H'
def spFillP:Nat->Sp
 | 0=>spNo
 | n+1=>spFillL n
theorem scFillL:FnScope ["_law_kind_here","_law_told_here","_law_found","_law_part"] ["_law_kind_here","_law_told_here"] (defScope sFillL):=⟨rfl,rfl,rfl,by decide +kernel,rfl,by decide +kernel,by decide +kernel⟩
theorem ok_fillL1 {f:Addr}{fd:FuncData}{n:Nat}(F:Fun K "_law_filled" "_law_filled" sFillL f fd)(b:Binds K fd ["_law_kind_here","_law_told_here"] [])(mf:mg "_law_filled"=some (.ref f))(mT:mg "tuple"=none)
  (G:FnOk Pr w K mg base CX0 (n+1) f fd ["_law_kind_here","_law_told_here"] (spFillP n)):FnOk Pr w K mg base CX0 (n+2) f fd ["_law_kind_here","_law_told_here"] (spFillL n):=by
 refine F.okS scFillL (fun vs H Q E h=>?_) (fun cdv A outer s H vs Q E hr h=>?_)
 ·obtain ⟨t,v,d,kvs,m,rfl,_⟩:=h
  rfl
 ·obtain ⟨t,v,d,kvs,m,rfl,kv,hdp,hd,hm,q⟩:=h
  have hb:=line_big
  have hu:=hu_of hr
  obtain ⟨a,us,ea,ha,hp,hg,hul⟩:=kv.look
  subst ea
  refine ⟨_,b_cons (s_if (t_cmp op_eq (e_ix ix_tup (e_v 0) e_int (fun _ _=>rfl)) e_str (nomark _)) (b_one (s_ret (e_dget2 hu (e_v 1) (e_ix ix_tup (e_v 0) e_int (fun _ _=>rfl)) (e_v 0) ⟨rfl,rfl,rfl,rfl⟩))) b_nil)
   (b_cons (s_set (i:=2) scFillL.nd rfl (Or.inl rfl) (e_lst (a_cons (e_ix ix_tup (e_v 0) e_int (fun _ _=>rfl)) a_nil)))
   (b_cons (s_for PassesOwn.never rfl (i_tup (e_slice sl_tup (e_v 0) (o_some e_int) o_none)) (g_name (i:=3) scFillL.nd rfl (Or.inl rfl))
    (b_one (s_expr (e_bm PySem.F.plainAttrs_list PySem.F.slot_list_append PySem.F.type_list_append mt_append (e_v 2) (a_cons (e_call G hr rfl mf F.kp b (a_cons (e_v 3) (a_cons (e_v 1) a_nil))) a_nil)))))
   (b_one (s_ret (e_callTy call_tuple_of rfl mT PyProof.Rows.boot_tuple (a_cons (e_v 2) a_nil)))))),?_⟩
  refine ⟨_,rfl,a,_,_,_,rfl,rfl,SqT.of ha,atI_nat (j:=0) rfl,rfl,_,rfl,?_⟩
  rw [dec_any]
  cases e:isGap t with
  | true =>
   obtain ⟨k,rfl⟩:∃ k,t=.gap k:=by cases t <;> simp [isGap] at e;exact ⟨_,rfl⟩
   obtain rfl:=hg k rfl
   refine iteT ⟨_,rfl,d,rfl,.inl ⟨kvs,.inl hd⟩,_,rfl,a,_,_,_,rfl,rfl,SqT.of ha,atI_nat (j:=1) rfl,_,rfl,_,DGet.k (k:=Sum.inl k) hd,?_⟩
   refine q _ H (Same.refl H) ?_
   show KAt H ((m k).getD (.gap k)) _
   rcases hm k with ⟨z1,z2⟩ | ⟨v',t',z1,z2,z3⟩
   ·rw [z1,z2];exact kv
   ·rw [z1,z2];exact z3
  | false =>
   have pk:=hp e
   have hlen:us.length=(parts t).length:=(Paired.length pk).symm
   refine iteF ⟨_,rfl,a,_,_,_,rfl,rfl,SqT.of ha,atI_nat (j:=0) rfl,by show 1<=sizeLine;omega,fun lf hlf=>?_⟩
   have ha1:(upd H lf (.lst [.str (word t)])) a=some (.tup (.str (word t)::us)):=by rw [upd_ne (ne_of_none ha hlf)];exact ha
   refine ⟨_,rfl,_,rfl,a,_,rfl,SqT.of ha1,(by intro z;have:=z.1;simp [HT.sIx] at this),fun p hp0=>⟨p,rfl,⟨_,SqT.of upd_same⟩,?_⟩⟩
   have npf:lf≠p:=fun z=>by rw [<- z,upd_same] at hp0;cases hp0
   have hpH:H p=none:=by rw [upd_ne (Ne.symm npf)] at hp0;exact hp0
   rw [cut1]
   have s1:Same H (upd (upd H lf (.lst [.str (word t)])) p (.tup us)):=Same.put (Same.new hlf) hpH
   refine for_tup (K:=K) (a:=p) (xs:=us) (fun i σ H2=>∃ fs pt,σ=[some (.ref a),some (.ref d),some (.ref lf),pt]/\Same H H2/\H2 p=some (.tup us)/\H2 lf=some (.lst (.str (word t)::fs))/\Paired (fun s r=>KAt H2 (fill m s) r) ((parts t).take i) fs)
    ⟨[],none,rfl,s1,upd_same,by rw [upd_ne npf,upd_same],.nil⟩ (fun i σ H2 _ z=>?_) (fun i x σ H2 hx z=>?_) (fun σ H2 z=>?_)
   ·obtain ⟨fs,pt,rfl,_,h1,_⟩:=z
    exact SqT.of h1
   ·obtain ⟨fs,pt,rfl,sm,h1,h2,pf⟩:=z
    obtain ⟨s',hs',kx⟩:=Paired.at pk hx
    have hmem:=List.mem_of_getElem? hs'
    have hlt:=dp_part hmem
    have hfl:fs.length<=2:=by
     have:=Paired.length pf
     have h3:=parts_len t
     rw [List.length_take] at this
     omega
    refine ⟨_,rfl,.inl ⟨rfl,_,SqL.of h2⟩,_,rfl,_,rfl,?_⟩
    cases n with
    | zero=>omega
    | succ n =>
     refine ⟨s',x,d,kvs,m,rfl,KAt.mono (TSub.of_same sm) kx,by omega,sm d _ hd,DictK.mono (TSub.of_same sm) hm,fun r H3 sm3 kr=>?_⟩
     have h3:=sm3 lf _ h2
     refine ⟨lf,_,r,rfl,rfl,h3,by simp;omega,?_⟩
     have sub:TSub H3 (upd H3 lf (.lst (.str (word t)::fs++[r]))):=TSub.put fun xs z=>by rw [h3] at z;cases z
     refine ⟨fs++[r],_,rfl,Same.put (Same.trans sm sm3) hlf,?_,upd_same,?_⟩
     ·rw [upd_ne (Ne.symm npf)]
      exact sm3 p _ h1
     ·rw [List.take_add_one,hs']
      exact Paired.app (Paired.mapP pf fun _ _ z=>KAt.mono (TSub.trans (TSub.of_same sm3) sub) z) (.cons (KAt.mono sub kr) .nil)
   ·obtain ⟨fs,pt,rfl,sm,h1,h2,pf⟩:=z
    refine ⟨_,rfl,lf,_,rfl,.inl ⟨SqL.of h2,fun r hr0=>?_⟩⟩
    rw [hlen,List.take_length] at pf
    obtain ⟨e1,e2⟩:=fill_parts (m:=m) e
    refine q _ _ (Same.put sm (sm.free hr0)) (KAt.mk e2 (by rw [word_fill e];exact upd_same) ?_)
    rw [e1]
    exact Paired.mapL (Paired.mapP pf fun _ _ z=>KAt.mono (TSub.new hr0) z)
theorem ok_fillL {f:Addr}{fd:FuncData}(F:Fun K "_law_filled" "_law_filled" sFillL f fd)(b:Binds K fd ["_law_kind_here","_law_told_here"] [])(mf:mg "_law_filled"=some (.ref f))(mT:mg "tuple"=none):∀ n,FnOk Pr w K mg base CX0 (n+2) f fd ["_law_kind_here","_law_told_here"] (spFillL n)
 | 0=>ok_fillL1 F b mf mT ok_no
 | n+1=>ok_fillL1 F b mf mT (ok_fillL F b mf mT n)
end
end K
namespace K
open PySem L2 KM KS
structure ErrK (K:PySem.W.Frag)(mg:Str->Option Value)(CK CJ CN CS:Addr)(bK bJ:List Value)(nK nJ:String):Prop where
 mK:mg "KindError"=some (.ref CK)
 mJ:mg "NoJoin"=some (.ref CJ)
 mN:mg "NoKind"=some (.ref CN)
 mS:mg "Stuck"=some (.ref CS)
 mV:mg "ValueError"=none
 mI:mg "isinstance"=none
 zK:ExcK K CK bK nK
 zJ:ExcK K CJ bJ nJ
 sub:(mroL K CJ).contains (.ref CK)=true
 iJ:PySem.W.kitOne K (.ref CJ) (.ref CJ)=some true
 iV:PySem.W.kitOne K (.ref CJ) (.type "ValueError")=some true
 iNS:PySem.W.kitAny K (.ref CJ) [.ref CN,.ref CS]=some false
def IntK (kvs:List (Key × V)):Prop:=(kvs.map (·.1)).Nodup/\∀ p∈kvs,∃ k:Int,p.1=Sum.inl k
def spJoined (Pt:Addr)(Tb:Hp->Prop)(CJ:Addr):Sp:=fun vs H Q E=>∃ (a b:Kd) (v u:V),vs=[v,u]/\KAt H a v/\KAt H b u/\sz a<=500/\sz b<=500/\Tb H /\
 (∀ d kvs m H',SameX Pt H H'->Tb H'->H d=none->H' d=some (.dK kvs)->DictK H' kvs m->IntK kvs->kvs.length<=1000->Joins a b m->Q (.ref d) H') /\
 ((∀ T,fillT T a≠fillT T b)->∀ H',SameX Pt H H'->Tb H'->E (.ref CJ) none H')
def spTold (Pt:Addr)(Tb:Hp->Prop):Sp:=fun vs H Q E=>∃ (a b:Kd) (v u:V),vs=[v,u]/\KAt H a v/\KAt H b u/\sz a<=500/\sz b<=500/\Tb H /\
 (∀ d kvs m H',SameX Pt H H'->Tb H'->H d=none->H' d=some (.dK kvs)->DictK H' kvs m->IntK kvs->kvs.length<=1000->Joins a b m->Q (.ref d) H') /\
 ((∀ T,fillT T a≠fillT T b)->∀ H',SameX Pt H H'->Tb H'->Q (.str "no") H')
section
variable {Pr:Program}{w:World}{K:PySem.W.Frag}{mg:Str->Option Value}{base:Heap}
theorem scTold:FnScope ["_law_one","_law_other","_law_found","_law_kept","e","_law_good"] ["_law_one","_law_other"] (defScope sTold):=⟨rfl,rfl,rfl,by decide +kernel,rfl,by decide +kernel,by decide +kernel⟩
theorem ok_told {k:Nat}{f fJ CK CJ CN CS Pt:Addr}{fd fdJ:FuncData}{bK bJ:List Value}{nK nJ:String}{Tb:Hp->Prop}(TbS:∀ H H',Same H H'->Tb H->Tb H')(F:Fun K "_law_told" "_law_told" sTold f fd)(Z:ErrK K mg CK CJ CN CS bK bJ nK nJ)
  (G:FnOk Pr w K mg base (CX1 Pr w) k fJ fdJ ["one","other"] (spJoined Pt Tb CJ)) (kJ:PySem.W.keepIn K (.ref fJ)=true) (bi:Binds K fdJ ["one","other"] []) (mJ:mg "joined"=some (.ref fJ)) :
  FnOk Pr w K mg base CX0 (k+1) f fd ["_law_one","_law_other"] (spTold Pt Tb):=by
 refine F.okS scTold (fun vs H Q E h=>?_) (fun cdv A outer s H vs Q E hr h=>?_)
 ·obtain ⟨a,b,v,u,rfl,_⟩:=h
  rfl
 ·obtain ⟨a,b,v,u,rfl,ka,kb,sa,sb,tb,q1,q2⟩:=h
  have hb:=line_big
  refine ⟨_,b_cons (s_set (i:=2) scTold.nd rfl (Or.inl rfl) e_non)
   (b_cons (s_set (i:=3) scTold.nd rfl (Or.inl rfl) e_non)
   (b_cons (s_try (i:=2) (j:=4) ⟨rfl,rfl,rfl,rfl⟩ scTold.nd rfl (Or.inl rfl) rfl rfl rfl Z.mK Z.zK (ex_call rfl G hr rfl mJ kJ bi (a_cons (e_v 0) (a_cons (e_v 1) a_nil)))
    (fun a=>b_one (s_set (i:=3) scTold.nd rfl (Or.inl rfl) (e_v 4))))
   (b_cons (s_if (t_cmp op_notN (e_v 3) e_non rfl)
    (b_cons (s_set (i:=5) scTold.nd rfl (Or.inl rfl) (e_and (e_callB call_isExc rfl Z.mI PyProof.Rows.boot_isinstance (a_cons (e_v 3) (a_cons (e_glob (v:=.ref CJ) rfl Z.mJ rfl) a_nil)))
     (e_and (e_callB call_isExc rfl Z.mI PyProof.Rows.boot_isinstance (a_cons (e_v 3) (a_cons (e_bltn (v:=.ty "ValueError") rfl Z.mV rfl rfl) a_nil)))
     (e_one (e_not (e_callB call_isExcT rfl Z.mI PyProof.Rows.boot_isinstance (a_cons (e_v 3) (a_cons (e_tup (a_cons (e_glob (v:=.ref CN) rfl Z.mN rfl) (a_cons (e_glob (v:=.ref CS) rfl Z.mS rfl) a_nil))) a_nil))))))))
    (b_one (s_ret (e_if (t_val (e_v 5)) e_str e_str)))) b_nil)
   (b_one (s_ret (e_v 2)))))),?_⟩
  refine ⟨_,rfl,_,rfl,a,b,v,u,rfl,ka,kb,sa,sb,tb,fun d kvs m H' sx tb' hd0 hd dk ik hl jn=>?_,fun no H' sx tb'=>?_⟩
  ·refine ⟨_,rfl,rfl,_,rfl,iteF ?_⟩
   exact ⟨_,rfl,q1 d kvs m H' sx tb' hd0 hd dk ik hl jn⟩
  ·refine ⟨CJ,bJ,nJ,rfl,Z.zJ.ex,Z.sub,fun x hx=>?_⟩
   refine ⟨_,rfl,_,rfl,?_⟩
   have sm:Same H' (upd H' x (ClsO x (.ref CJ))):=Same.new hx
   refine ⟨_,rfl,rfl,_,rfl,iteT ?_⟩
   refine ⟨_,rfl,x,CJ,bJ,nJ,.ref CJ,.ref CJ,true,rfl,rfl,upd_same,Z.zJ,Z.iJ,_,rfl,iteT ?_⟩
   refine ⟨_,rfl,x,CJ,bJ,nJ,.ty "ValueError",.type "ValueError",true,rfl,rfl,upd_same,Z.zJ,Z.iV,_,rfl,iteT ?_⟩
   refine ⟨_,rfl,by show 2<=sizeLine;omega,fun p hp=>?_⟩
   have npx:x≠p:=fun z=>by rw [<- z,upd_same] at hp;cases hp
   refine ⟨x,CJ,bJ,nJ,p,[CN,CS],false,rfl,upd_same,by rw [upd_ne npx,upd_same],Z.zJ,Z.iNS,_,rfl,?_⟩
   refine ⟨_,rfl,_,rfl,iteT ?_⟩
   have sm2:Same H' (upd (upd H' x (ClsO x (.ref CJ))) p (.tup [.ref CN,.ref CS])):=Same.put sm (sm.free hp)
   exact q2 no _ (SameX.trans sx (SameX.of sm2)) (TbS _ _ sm2 tb')
end
end K
namespace K
open PySem L2 KM KS
def xJoins1:Expr:=match inDef sJoins 0 with
 | .If (.BoolOp _ [_,.UnaryOp _ (.Call _ [e] _ _) _] _) _ _ _=>e
 | _=>.Constant .none 0 ⟨0,0,0,0⟩
def xJoins2:Expr:=match inFor (inDef sJoins 1) 1 with
 | .If (.Call _ [e] _ _) _ _ _=>e
 | _=>.Constant .none 0 ⟨0,0,0,0⟩
def spJoins (n:Nat):Sp:=fun vs H Q _=>∃ (a b:Kd) (v u:V) (d:Addr) (kvs:List (Key × V)) (m:Int->Option Kd),vs=[.ref d,v,u]/\H d=some (.dK kvs)/\DictK H kvs m/\IntK kvs/\kvs.length<=1000/\KAt H a v/\KAt H b u/\Joins a b m /\
 (∀ k t,m k=some t->ok t=true/\dp t<=n/\sz t<=100000)/\dp a<=n/\dp b<=n/\sz a<=100000/\sz b<=100000/\dp (fill m a)<=60/\∀ H',Same H H'->Q (.bl true) H'
section
variable {Pr:Program}{w:World}{K:PySem.W.Frag}{mg:Str->Option Value}{base:Heap}
theorem scJoins:FnScope ["_law_found","_law_one","_law_other","_law_number"] ["_law_found","_law_one","_law_other"] (defScope sJoins):=⟨rfl,rfl,rfl,by decide +kernel,rfl,by decide +kernel,by decide +kernel⟩
theorem keyAt {H:Hp}{kvs:List (Key × V)}{m:Int->Option Kd}(dk:DictK H kvs m)(ik:IntK kvs){i:Nat}{p:Key × V}(h:kvs[i]?=some p):∃ k v t,p.1=Sum.inl k/\valV kvs (Sum.inl k:Key)=some v/\m k=some t/\KAt H t v:=by
 have hm:=List.mem_of_getElem? h
 obtain ⟨k,ek⟩:=ik.2 p hm
 rcases dk k with ⟨z,_⟩ | ⟨v,t,z1,z2,z3⟩
 ·exact absurd (List.mem_map.mpr ⟨p,hm,ek⟩) (valV_not z)
 ·exact ⟨k,v,t,ek,z1,z2,z3⟩
theorem ok_joins {n:Nat}{f fW fI fG fF:Addr}{fd fdW fdI fdG fdF:FuncData}(F:Fun K "_law_joins" "_law_joins" sJoins f fd)(mI:mg "isinstance"=none)(mD:mg "dict"=none)(mAll:mg "all"=none)(mAny:mg "any"=none)
  (GW:FnOk Pr w K mg base CX0 1 fW fdW ["_law_found"] spWhole) (kW:PySem.W.keepIn K (.ref fW)=true) (bW:Binds K fdW ["_law_found"] []) (mW:mg "_law_whole"=some (.ref fW))
  (GI:FnOk Pr w K mg base CX0 (n+2) fI fdI ["_law_found"] (spIsKind n)) (kI:PySem.W.keepIn K (.ref fI)=true) (bI:Binds K fdI ["_law_found"] []) (mIs:mg "_law_is_kind"=some (.ref fI))
  (GG:FnOk Pr w K mg base CX0 (n+2) fG fdG ["_law_kind_here"] (spGaps n)) (kG:PySem.W.keepIn K (.ref fG)=true) (bG:Binds K fdG ["_law_kind_here"] []) (mG:mg "_law_gaps"=some (.ref fG))
  (GF:FnOk Pr w K mg base CX0 (n+2) fF fdF ["_law_kind_here","_law_told_here"] (spFillL n)) (kF:PySem.W.keepIn K (.ref fF)=true) (bF:Binds K fdF ["_law_kind_here","_law_told_here"] []) (mF:mg "_law_filled"=some (.ref fF)) :
  FnOk Pr w K mg base CX0 (n+3) f fd ["_law_found","_law_one","_law_other"] (spJoins n):=by
 refine F.okS scJoins (fun vs H Q E h=>?_) (fun cdv A outer s H vs Q E hr h=>?_)
 ·obtain ⟨a,b,v,u,d,kvs,m,rfl,_⟩:=h
  rfl
 ·obtain ⟨a,b,v,u,d,kvs,m,rfl,hd,dk,ik,hkl,ka,kb,jn,hm,da,db,sa,sb,dpf,q⟩:=h
  have hb:=line_big
  have hu:=hu_of hr
  have hu64:=hr.units
  have hr1:Room 1 _:=hr.mono (by omega)
  have S1:CompSc (cxOf CX0 Pr w K mg base ["_law_found","_law_one","_law_other","_law_number"] "_law_joins" (defScope sJoins) f cdv A outer s H E).nox (scopeOf xJoins1) [] ["_law_number"] [] [] :=
   ⟨rfl,by decide +kernel,rfl,by decide +kernel,rfl,rfl,rfl,rfl⟩
  have S2:CompSc (cxOf CX0 Pr w K mg base ["_law_found","_law_one","_law_other","_law_number"] "_law_joins" (defScope sJoins) f cdv A outer s H E).nox (scopeOf xJoins2) [("_law_found",s.heap.objs.size+1)] ["_law_gap_here"] ["_law_found"] [0] :=
   ⟨rfl,by decide +kernel,rfl,by decide +kernel,rfl,rfl,rfl,rfl⟩
  refine ⟨_,b_cons (s_if (t_w (w_or (t_not (t_val (e_callB call_isT rfl mI PyProof.Rows.boot_isinstance (a_cons (e_v 0) (a_cons (e_bltn (v:=.ty "dict") rfl mD PyProof.Rows.boot_dict rfl) a_nil)))))
    (w_or1 (t_not (t_val (e_callB (call_allB rfl) rfl mAll PyProof.Rows.boot_all (a_cons (e_comp (te:=tCall spWhole [] E0 (tCons (tVar 0) tNil)) S1 rfl (i_dict (e_v 0)) (fun C s0 H0 ex=>g_name (i:=0) (show (["_law_number"]:List Str).Nodup by decide +kernel) rfl (Or.inl rfl)) (fun _ _ _ _=>f_nil)
     (fun C s0 H0 ex=>e_call GW hr1 rfl mW kW bW (a_cons (e_v 0) a_nil))) a_nil))))))) (b_one (s_ret e_bl)) b_nil)
   (b_cons (s_thaw (s_for PassesOwn.never rfl (i_dict (e_v 0)) (g_name (i:=3) scJoins.nd rfl (Or.inl rfl))
    (b_cons (s_if (t_w (w_or (t_not (t_val (e_call GI hr rfl mIs kI bI (a_cons (e_dget hu (e_v 0) (e_v 3) (fun _ _=>rfl)) a_nil))))
     (w_or1 (t_cmp op_notIn_seq (e_v 3) (e_op op_cat (e_call GG hr rfl mG kG bG (a_cons (e_v 1) a_nil)) (e_call GG hr rfl mG kG bG (a_cons (e_v 2) a_nil))) rfl)))) (b_one (s_ret e_bl)) b_nil)
    (b_one (s_if (t_val (e_callB (call_anyB rfl) rfl mAny PyProof.Rows.boot_any (a_cons (e_comp (te:=tDIn (tVar 0) (tVar 1)) S2 rfl (i_list (e_call GG hr rfl mG kG bG (a_cons (e_dget hu (e_v 0) (e_v 3) (fun _ _=>rfl)) a_nil))) (fun C s0 H0 ex=>g_name (i:=0) (show (["_law_gap_here","_law_found"]:List Str).Nodup by decide +kernel) rfl (Or.inl rfl)) (fun _ _ _ _=>f_nil)
     (fun C s0 H0 ex=>e_din hu (e_v 0) (e_v 1))) a_nil))) (b_one (s_ret e_bl)) b_nil)))))
   (b_one (s_ret (e_cmp (op_eqK hu64) (e_call GF hr rfl mF kF bF (a_cons (e_v 1) (a_cons (e_v 0) a_nil))) (e_call GF hr rfl mF kF bF (a_cons (e_v 2) (a_cons (e_v 0) a_nil))) (nomark _))))),?_⟩
  have nf0:∀ o' u',H d≠some (.frz o' u'):=fun o' u' z=>by rw [hd] at z;cases z
  refine ⟨_,rfl,_,_,_,true,rfl,TyOf.dK hd,rfl,_,rfl,iteF ?_⟩
  refine ⟨_,rfl,d,kvs,rfl,.inl ⟨hd,fun o=>?_⟩⟩
  have sub0:∀ H2,SameX d H H2->TSub H H2:=fun H2 sx b xs e=>sx b _ e (fun z=>by rw [z,hd] at e;cases e)
  have sx0:SameX d H (upd H d (.frz o (.dK kvs))):=fun b o' e n=>by rw [upd_ne n];exact e
  refine comp_dict (o:=o) (d:=d) (kvs:=kvs) (fun i ys H3=>ys=(List.replicate i true).map V.bl/\H3=upd H d (.frz o (.dK kvs))) ⟨rfl,rfl⟩ (fun i ys H3 z=>by rw [z.2];exact upd_same) (by omega) (fun i ys H3 z=>by rw [z.1];simp) (fun i p ys H3 hp z=>?_)
   (fun x σ H Q Q' h z=>h _ _ z) (fun σ H Q Q' h z=>h _ _ z) (fun σ H Q Q' h z=>?_) (fun ys H3 z=>?_)
  ·obtain ⟨rfl,rfl⟩:=z
   obtain ⟨k,_,_,ek,_⟩:=keyAt dk ik hp
   refine ⟨Ext.set rfl,yes_then ?_⟩
   rw [ek]
   refine ⟨_,rfl,k,rfl,?_,rfl⟩
   rw [List.replicate_succ',List.map_append]
   rfl
  ·obtain ⟨v',e1,k',e2,z⟩:=z
   exact ⟨v',e1,k',e2,h _ _ z⟩
  ·obtain ⟨rfl,rfl⟩:=z
   intro D hD
   refine ⟨D,List.replicate kvs.length true,rfl,upd_same,?_⟩
   have ea:(List.replicate kvs.length true).all id=true:=by simp
   rw [ea]
   refine ⟨_,rfl,iteF ?_⟩
   have hdf:(upd H d (.frz o (.dK kvs))) d=some (.frz o (.dK kvs)):=upd_same
   have ndD:d≠D:=ne_of_none hdf hD
   have hd1:(upd (upd H d (.frz o (.dK kvs))) D (.lst ((List.replicate kvs.length true).map V.bl))) d=some (.frz o (.dK kvs)):=by rw [upd_ne ndD];exact hdf
   have sx1:SameX d H (upd (upd H d (.frz o (.dK kvs))) D (.lst ((List.replicate kvs.length true).map V.bl))):=SameX.trans sx0 (SameX.of (Same.new hD))
   generalize upd (upd H d (.frz o (.dK kvs))) D (.lst ((List.replicate kvs.length true).map V.bl))=H1 at hd1 sx1 ⊢
   refine ⟨_,rfl,d,kvs,rfl,.inr ⟨o,hd1,?_⟩⟩
   refine for_dict (o:=o) (d:=d) (kvs:=kvs) (fun i σ H2=>∃ x,σ=[some (.ref d),some v,some u,x]/\SameX d H H2/\H2 d=some (.frz o (.dK kvs))) ⟨none,rfl,sx1,hd1⟩ (fun i σ H2 _ z=>?_) (fun i p σ H2 hp z=>?_) (fun σ H2 z=>?_)
   ·obtain ⟨x,_,_,z⟩:=z
    exact z
   ·obtain ⟨x,rfl,sx,hd2⟩:=z
    obtain ⟨k,vk,tk,ek,ev,em,kt⟩:=keyAt dk ik hp
    obtain ⟨o1,o2,o3⟩:=hm k tk em
    have get:∀ H3,H3 d=some (.frz o (.dK kvs))->DGet H3 d (.int k) (some vk):=fun H3 h3=>.inl ⟨kvs,Sum.inl k,.inr ⟨o,h3⟩,rfl,ev.symm⟩
    rw [ek]
    refine ⟨_,rfl,_,rfl,d,vk,rfl,get _ hd2,tk,vk,rfl,KAt.mono (sub0 _ sx) kt,o2,o1,fun H3 sm3=>⟨_,rfl,iteF ?_⟩⟩
    have sx3:=SameX.trans sx (SameX.of (Pt:=d) sm3)
    have hd3:=sm3 _ _ hd2
    refine ⟨_,rfl,_,rfl,a,v,rfl,KAt.mono (sub0 _ sx3) ka,da,sa,fun l1 H4 sm4 hl10 hl1=>?_⟩
    have sx4:=SameX.trans sx3 (SameX.of (Pt:=d) sm4)
    have hd4:=sm4 _ _ hd3
    refine ⟨_,rfl,b,u,rfl,KAt.mono (sub0 _ sx4) kb,db,sb,fun l2 H5 sm5 hl20 hl2=>?_⟩
    have sx5:=SameX.trans sx4 (SameX.of (Pt:=d) sm5)
    have hd5:=sm5 _ _ hd4
    have l1a:=gp_len a
    have l1b:=gp_len b
    refine ⟨l1,l2,_,_,rfl,rfl,sm5 _ _ hl1,hl2,by rw [List.length_map,List.length_map];omega,fun r hr0=>?_⟩
    have sm6:Same H5 (upd H5 r (.lst ((gp a).map V.int++(gp b).map V.int))):=Same.new hr0
    have sx6:=SameX.trans sx5 (SameX.of (Pt:=d) sm6)
    have hd6:=sm6 _ _ hd5
    rw [<- List.map_append] at sm6 sx6 hd6 ⊢
    have hr1:(upd H5 r (.lst ((gp a++gp b).map V.int))) r=some (.lst ((gp a++gp b).map V.int)):=upd_same
    generalize upd H5 r (.lst ((gp a++gp b).map V.int))=H6 at sm6 sx6 hd6 hr1 ⊢
    have hin:inV (.int k) ((gp a++gp b).map V.int)=true:=by rw [inV_ints];exact decide_eq_true (List.mem_append.mpr (jn.keys k tk em))
    refine ⟨r,_,rfl,.inl (SqL.of hr1),rfl,flat_ints _,false,(by show V.bl (!inV (.int k) _)=_;rw [hin];rfl),iteF ?_⟩
    refine ⟨_,rfl,_,rfl,d,vk,rfl,get _ hd6,tk,vk,rfl,KAt.mono (sub0 _ sx6) kt,o2,o3,fun l3 H7 sm7 hl30 hl3=>⟨l3,rfl,⟨_,SqL.of hl3⟩,?_⟩⟩
    have sx7:=SameX.trans sx6 (SameX.of (Pt:=d) sm7)
    have hd7:=sm7 _ _ hd6
    have l3l:=gp_len tk
    refine comp_list (K:=K) (a:=l3) (xs:=(gp tk).map V.int) (fun j ys H8=>H8=H7/\ys=(List.replicate j false).map V.bl) ⟨rfl,rfl⟩ (fun j ys H8 z=>by rw [z.1];exact SqL.of hl3) (by rw [List.length_map];omega) (fun j ys H8 z=>by rw [z.2];simp) (fun j x ys H8 hx z=>?_)
     (fun x σ H Q Q' h z=>h _ _ z) (fun σ H Q Q' h z=>h _ _ z) (fun σ H Q Q' h z=>?_) (fun ys H8 z=>?_)
    ·obtain ⟨rfl,rfl⟩:=z
     rw [List.getElem?_map] at hx
     cases ej:(gp tk)[j]? with
     | none=>rw [ej] at hx;cases hx
     | some g =>
      rw [ej] at hx
      cases hx
      have hg:=jn.free k tk em g (List.mem_of_getElem? ej)
      have hv:valV kvs (Sum.inl g:Key)=none:=by
       rcases dk g with ⟨z,_⟩ | ⟨_,_,_,z2,_⟩
       ·exact z
       ·rw [hg] at z2;cases z2
      refine ⟨Ext.set rfl,yes_then ?_⟩
      refine ⟨_,rfl,_,rfl,d,none,rfl,.inl ⟨kvs,Sum.inl g,.inr ⟨o,hd7⟩,rfl,hv.symm⟩,rfl,?_⟩
      rw [List.replicate_succ',List.map_append]
      rfl
    ·obtain ⟨v1,z1,v2,z2,a1,r1,z3,z4,z5⟩:=z
     exact ⟨v1,z1,v2,z2,a1,r1,z3,z4,h _ _ z5⟩
    ·obtain ⟨rfl,rfl⟩:=z
     intro D2 hD2
     refine ⟨D2,List.replicate ((gp tk).map V.int).length false,rfl,upd_same,?_⟩
     have ea2:(List.replicate ((gp tk).map V.int).length false).any id=false:=by simp
     rw [ea2]
     refine ⟨_,rfl,iteF ?_⟩
     exact ⟨_,rfl,SameX.trans sx7 (SameX.of (Same.new hD2)),by rw [upd_ne (ne_of_none hd7 hD2)];exact hd7⟩
   ·obtain ⟨x,rfl,sx,hd2⟩:=z
    refine .inr ⟨d,o,kvs,hd2,nf0,?_⟩
    have sm:Same H (upd H2 d (.dK kvs)):=fun b' o' e=>by
     by_cases z:b'=d
     ·subst z;rw [hd] at e;cases e;exact upd_same
     ·rw [upd_ne z];exact sx b' o' e z
    have hdd:(upd H2 d (.dK kvs)) d=some (.dK kvs):=upd_same
    generalize upd H2 d (.dK kvs)=H3 at sm hdd ⊢
    refine ⟨_,rfl,_,rfl,a,v,d,kvs,m,rfl,KAt.mono (TSub.of_same sm) ka,da,hdd,DictK.mono (TSub.of_same sm) dk,fun r1 H4 sm4 k1=>?_⟩
    have smA:=Same.trans sm sm4
    refine ⟨_,rfl,_,rfl,b,u,d,kvs,m,rfl,KAt.mono (TSub.of_same smA) kb,db,sm4 _ _ hdd,DictK.mono (TSub.of_same smA) dk,fun r2 H5 sm5 k2=>?_⟩
    refine ⟨_,_,KAt.mono (TSub.of_same sm5) k1,k2,dpf,by rw [<- jn.same];exact dpf,?_⟩
    rw [decide_eq_true jn.same]
    exact q _ (Same.trans smA sm5)
end
end K
namespace KM
def oneM (g:Int)(t:Kd):Int->Option Kd:=fun k=>if k=g then some t else none
def Abs (M m:Int->Option Kd):Prop:=∀ k t,m k=some t->fill M t=fill M (.gap k)
theorem abs_fill {M m:Int->Option Kd}(h:Abs M m):∀ s:Kd,fill M (fill m s)=fill M s
 | .gap k=>by
  show fill M ((m k).getD (.gap k))=_
  cases e:m k with
  | none=>rfl
  | some t=>exact h k t e
 | .fn a b=>by simp only [fill,abs_fill h a,abs_fill h b]
 | .pr a b=>by simp only [fill,abs_fill h a,abs_fill h b]
 | .ls a=>by simp only [fill,abs_fill h a]
 | .num=>rfl
 | .tru=>rfl
theorem fill_free {m:Int->Option Kd}:∀ t:Kd,(∀ j∈gp t,m j=none)->fill m t=t:=fun t h=>by
 have e:=fill_congr (m:=m) (m':=fun _=>none) t fun k hk=>by
  show (m k).getD (.gap k)=_
  rw [h k hk];rfl
 rw [e];exact fill_none t
def inn:Kd->List Kd
 | .fn a b=>.fn a b::(inn a++inn b)
 | .pr a b=>.pr a b::(inn a++inn b)
 | .ls a=>.ls a::inn a
 | _=>[]
def subs:Kd->List Kd
 | .fn a b=>.fn a b::(subs a++subs b)
 | .pr a b=>.pr a b::(subs a++subs b)
 | .ls a=>.ls a::subs a
 | t=>[t]
theorem inn_len:∀ t:Kd,(inn t).length+1<=2 ^ dp t
 | .gap _=>by simp [inn,dp]
 | .num=>by simp [inn,dp]
 | .tru=>by simp [inn,dp]
 | .ls a=>by
  have h:=inn_len a
  simp only [inn,dp,List.length_cons,Nat.pow_succ]
  omega
 | .fn a b=>by
  have h1:=inn_len a
  have h2:=inn_len b
  have e1:2 ^ dp a<=2 ^ max (dp a) (dp b):=Nat.pow_le_pow_right (by decide) (by omega)
  have e2:2 ^ dp b<=2 ^ max (dp a) (dp b):=Nat.pow_le_pow_right (by decide) (by omega)
  simp only [inn,dp,List.length_cons,List.length_append,Nat.pow_succ]
  omega
 | .pr a b=>by
  have h1:=inn_len a
  have h2:=inn_len b
  have e1:2 ^ dp a<=2 ^ max (dp a) (dp b):=Nat.pow_le_pow_right (by decide) (by omega)
  have e2:2 ^ dp b<=2 ^ max (dp a) (dp b):=Nat.pow_le_pow_right (by decide) (by omega)
  simp only [inn,dp,List.length_cons,List.length_append,Nat.pow_succ]
  omega
theorem subs_self:∀ t:Kd,t∈subs t:=fun t=>by cases t <;> simp [subs]
theorem subs_parts:∀ {t s c:Kd},s∈subs t->c∈parts s->c∈subs t:=by
 intro t
 induction t with
 | num=>intro s c h hc;simp [subs] at h;subst h;cases hc
 | tru=>intro s c h hc;simp [subs] at h;subst h;cases hc
 | gap k=>intro s c h hc;simp [subs] at h;subst h;cases hc
 | ls a ih =>
  intro s c h hc
  rcases List.mem_cons.mp h with rfl | h
  ·simp [parts] at hc;subst hc;exact List.mem_cons_of_mem _ (subs_self _)
  ·exact List.mem_cons_of_mem _ (ih h hc)
 | fn a b ia ib =>
  intro s c h hc
  rcases List.mem_cons.mp h with rfl | h
  ·simp [parts] at hc
   rcases hc with rfl | rfl
   ·exact List.mem_cons_of_mem _ (List.mem_append_left _ (subs_self _))
   ·exact List.mem_cons_of_mem _ (List.mem_append_right _ (subs_self _))
  ·rcases List.mem_append.mp h with h | h
   ·exact List.mem_cons_of_mem _ (List.mem_append_left _ (ia h hc))
   ·exact List.mem_cons_of_mem _ (List.mem_append_right _ (ib h hc))
 | pr a b ia ib =>
  intro s c h hc
  rcases List.mem_cons.mp h with rfl | h
  ·simp [parts] at hc
   rcases hc with rfl | rfl
   ·exact List.mem_cons_of_mem _ (List.mem_append_left _ (subs_self _))
   ·exact List.mem_cons_of_mem _ (List.mem_append_right _ (subs_self _))
  ·rcases List.mem_append.mp h with h | h
   ·exact List.mem_cons_of_mem _ (List.mem_append_left _ (ia h hc))
   ·exact List.mem_cons_of_mem _ (List.mem_append_right _ (ib h hc))
theorem inn_of_subs {t:Kd}:∀ {s:Kd},s∈subs t->parts s≠[]->s∈inn t:=by
 induction t with
 | num=>intro s h hp;simp [subs] at h;subst h;exact absurd rfl hp
 | tru=>intro s h hp;simp [subs] at h;subst h;exact absurd rfl hp
 | gap k=>intro s h hp;simp [subs] at h;subst h;exact absurd rfl hp
 | ls a ih =>
  intro s h hp
  rcases List.mem_cons.mp h with rfl | h
  ·exact List.mem_cons_self
  ·exact List.mem_cons_of_mem _ (ih h hp)
 | fn a b ia ib =>
  intro s h hp
  rcases List.mem_cons.mp h with rfl | h
  ·exact List.mem_cons_self
  ·rcases List.mem_append.mp h with h | h
   ·exact List.mem_cons_of_mem _ (List.mem_append_left _ (ia h hp))
   ·exact List.mem_cons_of_mem _ (List.mem_append_right _ (ib h hp))
 | pr a b ia ib =>
  intro s h hp
  rcases List.mem_cons.mp h with rfl | h
  ·exact List.mem_cons_self
  ·rcases List.mem_append.mp h with h | h
   ·exact List.mem_cons_of_mem _ (List.mem_append_left _ (ia h hp))
   ·exact List.mem_cons_of_mem _ (List.mem_append_right _ (ib h hp))
theorem inn_sz:∀ {t u:Kd},u∈inn t->sz u<=sz t:=by
 intro t
 induction t with
 | num=>intro u h;cases h
 | tru=>intro u h;cases h
 | gap k=>intro u h;cases h
 | ls a ih =>
  intro u h
  rcases List.mem_cons.mp h with rfl | h
  ·exact Nat.le_refl _
  ·have:=ih h;simp only [sz];omega
 | fn a b ia ib =>
  intro u h
  rcases List.mem_cons.mp h with rfl | h
  ·exact Nat.le_refl _
  ·rcases List.mem_append.mp h with h | h
   ·have:=ia h;simp only [sz];omega
   ·have:=ib h;simp only [sz];omega
 | pr a b ia ib =>
  intro u h
  rcases List.mem_cons.mp h with rfl | h
  ·exact Nat.le_refl _
  ·rcases List.mem_append.mp h with h | h
   ·have:=ia h;simp only [sz];omega
   ·have:=ib h;simp only [sz];omega
theorem inn_part {t c u:Kd}(hc:c∈parts t)(hu:u∈inn c):u∈inn t/\sz u < sz t:=by
 have h:=inn_sz hu
 cases t with
 | num=>cases hc
 | tru=>cases hc
 | gap k=>cases hc
 | ls a=>simp [parts] at hc;subst hc;exact ⟨List.mem_cons_of_mem _ hu,by simp only [sz];omega⟩
 | fn a b =>
  simp [parts] at hc
  rcases hc with rfl | rfl
  ·exact ⟨List.mem_cons_of_mem _ (List.mem_append_left _ hu),by simp only [sz];omega⟩
  ·exact ⟨List.mem_cons_of_mem _ (List.mem_append_right _ hu),by simp only [sz];omega⟩
 | pr a b =>
  simp [parts] at hc
  rcases hc with rfl | rfl
  ·exact ⟨List.mem_cons_of_mem _ (List.mem_append_left _ hu),by simp only [sz];omega⟩
  ·exact ⟨List.mem_cons_of_mem _ (List.mem_append_right _ hu),by simp only [sz];omega⟩
theorem dp_parts {t:Kd}{n:Nat}(h:∀ c∈parts t,dp c+1<=n):dp t<=n:=by
 cases t with
 | num=>simp [dp]
 | tru=>simp [dp]
 | gap k=>simp [dp]
 | ls a=>have:=h a (by simp [parts]);simp only [dp];omega
 | fn a b=>have h1:=h a (by simp [parts]);have h2:=h b (by simp [parts]);simp only [dp];omega
 | pr a b=>have h1:=h a (by simp [parts]);have h2:=h b (by simp [parts]);simp only [dp];omega
theorem dp_part {t c:Kd}(h:c∈parts t):dp c+1<=dp t:=by
 cases t <;> simp [parts] at h
 ·rcases h with rfl | rfl <;> simp only [dp] <;> omega
 ·rcases h with rfl | rfl <;> simp only [dp] <;> omega
 ·subst h;simp only [dp];omega
theorem dp_pig (f:Kd->Kd):∀ (n:Nat) (L:List Kd) (t:Kd),L.length<=n->(∀ u∈inn t,∃ s∈L,f s=u)->dp t<=n
 | 0,L,t,hl,h=>by
  have e:L=[]:=List.length_eq_zero_iff.mp (by omega)
  subst e
  cases t with
  | num=>simp [dp]
  | tru=>simp [dp]
  | gap k=>simp [dp]
  | ls a=>obtain ⟨s,hs,_⟩:=h _ List.mem_cons_self;cases hs
  | fn a b=>obtain ⟨s,hs,_⟩:=h _ List.mem_cons_self;cases hs
  | pr a b=>obtain ⟨s,hs,_⟩:=h _ List.mem_cons_self;cases hs
 | n+1,L,t,hl,h=>by
  refine dp_parts fun c hc=>?_
  have ht:t∈inn t:=by cases t <;> first | (simp [parts] at hc;done) | exact List.mem_cons_self
  obtain ⟨s0,hs0,e0⟩:=h t ht
  have:=dp_pig f n (L.erase s0) c (by rw [List.length_erase_of_mem hs0];omega) fun u hu=>by
   obtain ⟨i1,i2⟩:=inn_part hc hu
   obtain ⟨s,hs,e⟩:=h u i1
   refine ⟨s,?_,e⟩
   have hne:s≠s0:=fun z=>by
    rw [z,e0] at e
    rw [e] at i2
    omega
   exact (List.mem_erase_of_ne hne).mpr hs
  omega
def Org (a b:Kd)(m:Int->Option Kd):Prop:=∀ k t,m k=some t->∃ s∈subs a++subs b,fill m s=t/\(isGap t=false->isGap s=false)
theorem parts_fill {m:Int->Option Kd}{s:Kd}(h:isGap s=false):parts (fill m s)=(parts s).map (fill m):=(fill_parts h).1
theorem org_nongap {a b:Kd}{m:Int->Option Kd}(O:Org a b m){s:Kd}(hs:s∈subs a++subs b)(h:isGap (fill m s)=false):∃ s'∈subs a++subs b,fill m s'=fill m s/\isGap s'=false:=by
 cases e:isGap s with
 | false=>exact ⟨s,hs,rfl,e⟩
 | true =>
  obtain ⟨k,rfl⟩:∃ k,s=.gap k:=by cases s <;> simp [isGap] at e;exact ⟨_,rfl⟩
  cases ek:m k with
  | none =>
   have:fill m (.gap k)=.gap k:=by show (m k).getD _=_;rw [ek];rfl
   rw [this] at h;simp [isGap] at h
  | some t =>
   have et:fill m (.gap k)=t:=by show (m k).getD _=_;rw [ek];rfl
   rw [et] at h ⊢
   obtain ⟨s',h1,h2,h3⟩:=O k t ek
   exact ⟨s',h1,h2,h3 h⟩
theorem org_inn {a b:Kd}{m:Int->Option Kd}(O:Org a b m):∀ (n:Nat) (s:Kd),s∈subs a++subs b->sz (fill m s)<=n->∀ u∈inn (fill m s),∃ s'∈inn a++inn b,fill m s'=u
 | 0,s,hs,hz,u,hu=>by have:=sz_pos (fill m s);omega
 | n+1,s,hs,hz,u,hu=>by
  have hg:isGap (fill m s)=false:=by
   cases e:fill m s with
   | gap k=>rw [e] at hu;cases hu
   | _=>rfl
  obtain ⟨s',hs',e',g'⟩:=org_nongap O hs hg
  rw [<- e'] at hu hz
  have hp:=parts_fill (m:=m) g'
  have key:u=fill m s'\/∃ c∈parts (fill m s'),u∈inn c:=by
   generalize fill m s'=w at hu
   cases w with
   | num=>cases hu
   | tru=>cases hu
   | gap k=>cases hu
   | ls x =>
    rcases List.mem_cons.mp hu with h | h
    ·exact .inl h
    ·exact .inr ⟨x,by simp [parts],h⟩
   | fn x y =>
    rcases List.mem_cons.mp hu with h | h
    ·exact .inl h
    ·rcases List.mem_append.mp h with h | h
     ·exact .inr ⟨x,by simp [parts],h⟩
     ·exact .inr ⟨y,by simp [parts],h⟩
   | pr x y =>
    rcases List.mem_cons.mp hu with h | h
    ·exact .inl h
    ·rcases List.mem_append.mp h with h | h
     ·exact .inr ⟨x,by simp [parts],h⟩
     ·exact .inr ⟨y,by simp [parts],h⟩
  rcases key with h | ⟨c,hc,hc2⟩
  ·refine ⟨s',?_,h.symm⟩
   have hne:parts s'≠[]:=fun z=>by
    rw [z] at hp
    rw [h] at hu
    generalize fill m s'=w at hu hp
    cases w <;> first | (simp [parts] at hp;done) | cases hu
   rcases List.mem_append.mp hs' with z | z
   ·exact List.mem_append_left _ (inn_of_subs z hne)
   ·exact List.mem_append_right _ (inn_of_subs z hne)
  ·rw [hp] at hc
   obtain ⟨c',hc',rfl⟩:=List.mem_map.mp hc
   have hmem:c'∈subs a++subs b:=by
    rcases List.mem_append.mp hs' with z | z
    ·exact List.mem_append_left _ (subs_parts z hc')
    ·exact List.mem_append_right _ (subs_parts z hc')
   have hlt:sz (fill m c') < sz (fill m s'):=by
    have h1:=szs_parts (fill m s')
    rw [hp] at h1
    have h2:sz (fill m c')<=szs ((parts s').map (fill m)):=by
     have:∀ (l:List Kd) (x:Kd),x∈l->sz x<=szs l:=by
      intro l
      induction l with
      | nil=>intro x h;cases h
      | cons y l ih =>
       intro x h
       rcases List.mem_cons.mp h with rfl | h
       ·simp only [szs];omega
       ·have:=ih x h;simp only [szs];omega
     exact this _ _ (List.mem_map_of_mem hc')
    omega
   exact org_inn O n c' hmem (by omega) u hc2
theorem org_dp {a b:Kd}{m:Int->Option Kd}(O:Org a b m)(ha:dp a<=3)(hb:dp b<=3){s:Kd}(hs:s∈subs a++subs b):dp (fill m s)<=14:=by
 refine dp_pig (fill m) 14 (inn a++inn b) _ ?_ (org_inn O _ s hs (Nat.le_refl _))
 have h1:=inn_len a
 have h2:=inn_len b
 have e1:2 ^ dp a<=2 ^ 3:=Nat.pow_le_pow_right (by decide) ha
 have e2:2 ^ dp b<=2 ^ 3:=Nat.pow_le_pow_right (by decide) hb
 rw [List.length_append]
 omega
end KM
namespace KM
open KS
def DD (a b:Kd)(M:Int->Option Kd):Nat:=max (dp (fill M a)) (dp (fill M b))
structure Sv (a b:Kd)(m:Int->Option Kd)(W:List (Kd × Kd)):Prop where
 sol:∀ T:Int->Kd,fillT T a=fillT T b↔(∀ k t,m k=some t->T k=fillT T t)/\∀ p∈W,fillT T p.1=fillT T p.2
 free:∀ k t,m k=some t->∀ j∈gp t,m j=none
 dom:∀ k t,m k=some t->k∈gp a\/k∈gp b
 org:Org a b m
 orgW:∀ p∈W,(∃ s∈subs a++subs b,fill m s=fill m p.1)/\∃ s∈subs a++subs b,fill m s=fill m p.2
 gin:∀ k t,m k=some t->∀ j∈gp t,j∈gp a\/j∈gp b
 ginW:∀ p∈W,∀ j,(j∈gp p.1\/j∈gp p.2)->j∈gp a\/j∈gp b
 lvl:∀ i p,W[i]?=some p->∀ M,Abs M m->dp (fill M p.1)+i<=DD a b M/\dp (fill M p.2)+i<=DD a b M
theorem sv_start (a b:Kd):Sv a b (fun _=>none) [(a,b)] where
 sol:=fun T=>⟨fun h=>⟨(fun k t e=>by cases e),(fun p hp=>by rw [List.mem_singleton.mp hp];exact h)⟩,fun h=>h.2 (a,b) List.mem_cons_self⟩
 free:=fun k t e=>by cases e
 dom:=fun k t e=>by cases e
 org:=fun k t e=>by cases e
 orgW:=fun p hp=>by
  rw [List.mem_singleton.mp hp]
  exact ⟨⟨a,List.mem_append_left _ (subs_self a),rfl⟩,⟨b,List.mem_append_right _ (subs_self b),rfl⟩⟩
 gin:=fun k t e=>by cases e
 ginW:=fun p hp j hj=>by rw [List.mem_singleton.mp hp] at hj;exact hj
 lvl:=fun i p h M _=>by
  cases i with
  | zero =>
   cases h
   unfold DD
   exact ⟨by show dp (fill M a)+0<=_;omega,by show dp (fill M b)+0<=_;omega⟩
  | succ i=>simp at h
section
variable {a b:Kd}{m:Int->Option Kd}{W:List (Kd × Kd)}{x y:Kd}
theorem Sv.absT (S:Sv a b m W){T:Int->Kd}(h:∀ k t,m k=some t->T k=fillT T t):Abs (fun k=>some (T k)) m:=fun k t e=>(h k t e).symm
theorem Sv.absSelf (S:Sv a b m W):Abs m m:=fun k t e=>by
 rw [fill_free t (S.free k t e)]
 show t=(m k).getD _
 rw [e];rfl
theorem Sv.idem (S:Sv a b m W)(s:Kd):fill m (fill m s)=fill m s:=abs_fill S.absSelf s
theorem Sv.gpFill (S:Sv a b m W){s:Kd}{j:Int}(h:j∈gp (fill m s)):m j=none:=by
 obtain ⟨k,_,hk⟩:=gp_fill s j h
 cases e:m k with
 | none =>
  have:fill m (.gap k)=.gap k:=by show (m k).getD _=_;rw [e];rfl
  rw [this] at hk
  simp [gp] at hk
  rw [hk];exact e
 | some t =>
  have:fill m (.gap k)=t:=by show (m k).getD _=_;rw [e];rfl
  rw [this] at hk
  exact S.free k t e j hk
theorem Sv.gpIn (S:Sv a b m W){s:Kd}(hs:∀ j∈gp s,j∈gp a\/j∈gp b):∀ j∈gp (fill m s),j∈gp a\/j∈gp b:=fun j hj=>by
 obtain ⟨k,hk,hk2⟩:=gp_fill s j hj
 cases e:m k with
 | none =>
  have:fill m (.gap k)=.gap k:=by show (m k).getD _=_;rw [e];rfl
  rw [this] at hk2
  simp [gp] at hk2
  rw [hk2];exact hs k hk
 | some t =>
  have:fill m (.gap k)=t:=by show (m k).getD _=_;rw [e];rfl
  rw [this] at hk2
  exact S.gin k t e j hk2
theorem Sv.pop (S:Sv a b m (W++[(x,y)])):(∀ p∈W,p∈W++[(x,y)])/\∀ (i:Nat) (p:Kd × Kd),W[i]?=some p->(W++[(x,y)])[i]?=some p :=
 ⟨fun p hp=>List.mem_append_left _ hp,fun i p h=>by rw [List.getElem?_append_left (List.getElem?_eq_some_iff.mp h).1];exact h⟩
theorem Sv.top {x y:Kd}(S:Sv a b m (W++[(x,y)]))(T:Int->Kd):fillT T a=fillT T b↔(∀ k t,m k=some t->T k=fillT T t)/\(∀ p∈W,fillT T p.1=fillT T p.2)/\fillT T (fill m x)=fillT T (fill m y):=by
 rw [S.sol T]
 constructor
 ·rintro ⟨h1,h2⟩
  refine ⟨h1,fun p hp=>h2 p (List.mem_append_left _ hp),?_⟩
  have A:=S.absT h1
  show fill _ (fill m x)=fill _ (fill m y)
  rw [abs_fill A,abs_fill A]
  exact h2 (x,y) (List.mem_append_right _ List.mem_cons_self)
 ·rintro ⟨h1,h2,h3⟩
  refine ⟨h1,fun p hp=>?_⟩
  rcases List.mem_append.mp hp with z | z
  ·exact h2 p z
  ·rw [List.mem_singleton.mp z]
   have A:=S.absT h1
   have h3:fill _ (fill m x)=fill _ (fill m y):=h3
   rw [abs_fill A,abs_fill A] at h3
   exact h3
theorem sv_same {x y:Kd}(S:Sv a b m (W++[(x,y)]))(e:fill m x=fill m y):Sv a b m W where
 sol:=fun T=>by
  rw [S.top T,e]
  exact ⟨fun h=>⟨h.1,h.2.1⟩,fun h=>⟨h.1,h.2,rfl⟩⟩
 free:=S.free
 dom:=S.dom
 org:=S.org
 orgW:=fun p hp=>S.orgW p (S.pop.1 p hp)
 gin:=S.gin
 ginW:=fun p hp=>S.ginW p (S.pop.1 p hp)
 lvl:=fun i p h=>S.lvl i p (S.pop.2 i p h)
theorem parts_eq {u v:Kd}(g:isGap u=false)(g':isGap v=false):u=v↔tag u=tag v/\∀ p∈(parts u).zip (parts v),p.1=p.2:=by
 cases u <;> cases v <;> simp [tag,parts,isGap] at *
theorem tag_fill {M:Int->Option Kd}{u:Kd}(g:isGap u=false):tag (fill M u)=tag u/\isGap (fill M u)=false:=by
 cases u <;> first | exact ⟨rfl,rfl⟩ | (simp [isGap] at g)
theorem sv_differ {x y:Kd}(S:Sv a b m (W++[(x,y)]))(gx:isGap (fill m x)=false)(gy:isGap (fill m y)=false)(h:tag (fill m x)≠tag (fill m y))(T:Int->Kd):fillT T a≠fillT T b:=fun e=>by
 have e3:=((S.top T).mp e).2.2
 have h1:=(tag_fill (M:=fun k=>some (T k)) gx).1
 have h2:=(tag_fill (M:=fun k=>some (T k)) gy).1
 unfold fillT at e3
 rw [e3] at h1
 exact h (h1.symm.trans h2)
theorem sv_struct {x y:Kd}(S:Sv a b m (W++[(x,y)]))(gx:isGap (fill m x)=false)(gy:isGap (fill m y)=false)(h:tag (fill m x)=tag (fill m y)):Sv a b m (W++(parts (fill m x)).zip (parts (fill m y))):=by
 have hin:(x,y)∈W++[(x,y)]:=List.mem_append_right _ List.mem_cons_self
 have part:∀ {z c:Kd},isGap (fill m z)=false->c∈parts (fill m z)->(∃ s∈subs a++subs b,fill m s=fill m z)->(∀ j∈gp z,j∈gp a\/j∈gp b)->(∃ s∈subs a++subs b,fill m s=fill m c)/\(∀ j∈gp c,j∈gp a\/j∈gp b):=by
  intro z c gz hc hs hj
  obtain ⟨s,hs,es⟩:=hs
  rw [<- es] at gz hc
  obtain ⟨s',hs',e',g'⟩:=org_nongap S.org hs gz
  refine ⟨?_,fun j hjc=>S.gpIn hj j (by rw [<- es];exact gp_part hc hjc)⟩
  rw [<- e',parts_fill g'] at hc
  obtain ⟨c',hc',rfl⟩:=List.mem_map.mp hc
  refine ⟨c',?_,(S.idem c').symm⟩
  rcases List.mem_append.mp hs' with w | w
  ·exact List.mem_append_left _ (subs_parts w hc')
  ·exact List.mem_append_right _ (subs_parts w hc')
 have zin:∀ p∈(parts (fill m x)).zip (parts (fill m y)),p.1∈parts (fill m x)/\p.2∈parts (fill m y):=fun p hp=>⟨(List.of_mem_zip hp).1,(List.of_mem_zip hp).2⟩
 refine ⟨fun T=>?_,S.free,S.dom,S.org,fun p hp=>?_,S.gin,fun p hp j hj=>?_,fun i p hp M A=>?_⟩
 ·rw [S.top T]
  have key:fillT T (fill m x)=fillT T (fill m y)↔∀ p∈(parts (fill m x)).zip (parts (fill m y)),fillT T p.1=fillT T p.2:=by
   obtain ⟨t1,g1⟩:=tag_fill (M:=fun k=>some (T k)) gx
   obtain ⟨t2,g2⟩:=tag_fill (M:=fun k=>some (T k)) gy
   unfold fillT
   rw [parts_eq g1 g2,t1,t2,parts_fill gx,parts_fill gy]
   constructor
   ·rintro ⟨_,h2⟩ p hp
    exact h2 (fill _ p.1,fill _ p.2) (by rw [List.zip_map];exact List.mem_map.mpr ⟨p,hp,rfl⟩)
   ·intro h2
    refine ⟨h,fun p hp=>?_⟩
    rw [List.zip_map] at hp
    obtain ⟨q,hq,rfl⟩:=List.mem_map.mp hp
    exact h2 q hq
  constructor
  ·rintro ⟨h1,h2,h3⟩
   refine ⟨h1,fun p hp=>?_⟩
   rcases List.mem_append.mp hp with z | z
   ·exact h2 p z
   ·exact key.mp h3 p z
  ·rintro ⟨h1,h2⟩
   exact ⟨h1,fun p hp=>h2 p (List.mem_append_left _ hp),key.mpr fun p hp=>h2 p (List.mem_append_right _ hp)⟩
 ·rcases List.mem_append.mp hp with z | z
  ·exact S.orgW p (S.pop.1 p z)
  ·obtain ⟨z1,z2⟩:=zin p z
   obtain ⟨o1,o2⟩:=S.orgW (x,y) hin
   exact ⟨(part gx z1 o1 fun j hj=>S.ginW (x,y) hin j (.inl hj)).1,(part gy z2 o2 fun j hj=>S.ginW (x,y) hin j (.inr hj)).1⟩
 ·rcases List.mem_append.mp hp with z | z
  ·exact S.ginW p (S.pop.1 p z) j hj
  ·obtain ⟨z1,z2⟩:=zin p z
   obtain ⟨o1,o2⟩:=S.orgW (x,y) hin
   rcases hj with hj | hj
   ·exact (part gx z1 o1 fun j hj=>S.ginW (x,y) hin j (.inl hj)).2 j hj
   ·exact (part gy z2 o2 fun j hj=>S.ginW (x,y) hin j (.inr hj)).2 j hj
 ·by_cases hi:i < W.length
  ·rw [List.getElem?_append_left hi] at hp
   exact S.lvl i p (S.pop.2 i p hp) M A
  ·rw [List.getElem?_append_right (by omega)] at hp
   obtain ⟨z1,z2⟩:=zin p (List.mem_of_getElem? hp)
   have hl:=S.lvl W.length (x,y) (by rw [List.getElem?_append_right (Nat.le_refl _),Nat.sub_self];rfl) M A
   have up:∀ {z c:Kd},isGap (fill m z)=false->c∈parts (fill m z)->dp (fill M c)+1<=dp (fill M z):=fun {z c} gz hc=>by
    rw [<- abs_fill A z]
    exact dp_part (by rw [parts_fill gz];exact List.mem_map_of_mem hc)
   have u1:=up gx z1
   have u2:=up gy z2
   have hz:i - W.length < 2:=by
    have h1:=(List.getElem?_eq_some_iff.mp hp).1
    rw [List.length_zip] at h1
    have h2:=parts_len (fill m x)
    omega
   have hl1:dp (fill M x)+W.length<=DD a b M:=hl.1
   have hl2:dp (fill M y)+W.length<=DD a b M:=hl.2
   omega
def bind1 (m:Int->Option Kd)(g:Int)(t:Kd):Int->Option Kd:=fun k=>if k=g then some t else (m k).map (fill (oneM g t))
theorem bind_fill {g:Int}{t:Kd}(S:Sv a b m W)(hg:m g=none):∀ s:Kd,fill (bind1 m g t) s=fill (oneM g t) (fill m s)
 | .gap k=>by
  show (if k=g then some t else (m k).map (fill (oneM g t))).getD (.gap k)=fill (oneM g t) ((m k).getD (.gap k))
  by_cases e:k=g
  ·rw [if_pos e,e,hg]
   show t=(if g=g then some t else none).getD _
   rw [if_pos rfl];rfl
  ·rw [if_neg e]
   cases ek:m k with
   | none =>
    show Kd.gap k=(if k=g then some t else none).getD _
    rw [if_neg e];rfl
   | some u=>rfl
 | .fn x y=>by simp only [fill,bind_fill S hg x,bind_fill S hg y]
 | .pr x y=>by simp only [fill,bind_fill S hg x,bind_fill S hg y]
 | .ls x=>by simp only [fill,bind_fill S hg x]
 | .num=>rfl
 | .tru=>rfl
theorem sub_sz {T:Int->Kd}{g:Int}:∀ t:Kd,g∈gp t->t≠.gap g->sz (T g) < sz (fillT T t)
 | .gap k,h,hn=>by simp [gp] at h;rw [h] at hn;exact absurd rfl hn
 | .num,h,_=>by cases h
 | .tru,h,_=>by cases h
 | .ls x,h,_=>by
  have h:g∈gp x:=by rw [<- app_nil (gp x)];exact h
  by_cases e:x=.gap g
  ·subst e;show sz (T g) < sz (T g)+1;omega
  ·have:=sub_sz (T:=T) x h e;show _ < sz (fillT T x)+1;omega
 | .fn x y,h,_=>by
  show _ < sz (fillT T x)+sz (fillT T y)+1
  rcases mem_app.mp h with h | h
  ·rw [app_nil] at h
   by_cases e:x=.gap g
   ·subst e;show sz (T g) < sz (T g)+_+1;omega
   ·have:=sub_sz (T:=T) x h e;omega
  ·by_cases e:y=.gap g
   ·subst e;show sz (T g) < _+sz (T g)+1;omega
   ·have:=sub_sz (T:=T) y h e;omega
 | .pr x y,h,_=>by
  show _ < sz (fillT T x)+sz (fillT T y)+1
  rcases mem_app.mp h with h | h
  ·rw [app_nil] at h
   by_cases e:x=.gap g
   ·subst e;show sz (T g) < sz (T g)+_+1;omega
   ·have:=sub_sz (T:=T) x h e;omega
  ·by_cases e:y=.gap g
   ·subst e;show sz (T g) < _+sz (T g)+1;omega
   ·have:=sub_sz (T:=T) y h e;omega
theorem sv_cyc {x y:Kd}{g:Int}{t:Kd}(S:Sv a b m (W++[(x,y)]))(h:(fill m x=.gap g/\fill m y=t)\/(fill m y=.gap g/\fill m x=t))(hn:t≠.gap g)(hg:g∈gp t)(T:Int->Kd):fillT T a≠fillT T b:=fun e=>by
 have e3:=((S.top T).mp e).2.2
 have e4:T g=fillT T t:=by
  rcases h with ⟨h1,h2⟩ | ⟨h1,h2⟩
  ·rw [h1,h2] at e3;exact e3
  ·rw [h1,h2] at e3;exact e3.symm
 have:=sub_sz (T:=T) t hg hn
 rw [<- e4] at this
 omega
theorem sv_bind {x y:Kd}{g:Int}{t:Kd}(S:Sv a b m (W++[(x,y)]))(h:(fill m x=.gap g/\fill m y=t)\/(fill m y=.gap g/\fill m x=t))(hg:g∉gp t):Sv a b (bind1 m g t) W/\m g=none/\(g∈gp a\/g∈gp b):=by
 have hin:(x,y)∈W++[(x,y)]:=List.mem_append_right _ List.mem_cons_self
 have ht:∃ z,fill m z=t/\(∃ s∈subs a++subs b,fill m s=t)/\∀ j∈gp z,j∈gp a\/j∈gp b:=by
  rcases h with ⟨_,h2⟩ | ⟨_,h2⟩
  ·exact ⟨y,h2,by rw [<- h2];exact (S.orgW _ hin).2,fun j hj=>S.ginW _ hin j (.inr hj)⟩
  ·exact ⟨x,h2,by rw [<- h2];exact (S.orgW _ hin).1,fun j hj=>S.ginW _ hin j (.inl hj)⟩
 have hgz:∃ z,fill m z=.gap g/\∀ j∈gp z,j∈gp a\/j∈gp b:=by
  rcases h with ⟨h1,_⟩ | ⟨h1,_⟩
  ·exact ⟨x,h1,fun j hj=>S.ginW _ hin j (.inl hj)⟩
  ·exact ⟨y,h1,fun j hj=>S.ginW _ hin j (.inr hj)⟩
 obtain ⟨zg,eg,ging⟩:=hgz
 obtain ⟨zt,et,⟨st,hst,est⟩,gint⟩:=ht
 have mg:m g=none:=S.gpFill (s:=zg) (by rw [eg];simp [gp])
 have gin:g∈gp a\/g∈gp b:=S.gpIn ging g (by rw [eg];simp [gp])
 have bf:=fun s=>bind_fill (t:=t) S mg s
 have ft:fill (oneM g t) t=t:=fill_free t fun j hj=>if_neg fun z:j=g=>hg (z▸hj)
 have bt:fill (bind1 m g t) st=t:=by rw [bf,est,ft]
 have tin:∀ j∈gp t,j∈gp a\/j∈gp b:=by rw [<- et];exact S.gpIn gint
 have tfree:∀ j∈gp t,m j=none:=fun j hj=>S.gpFill (s:=zt) (by rw [et];exact hj)
 have bnone:∀ j,j≠g->m j=none->bind1 m g t j=none:=fun j hj e=>by show (if j=g then _ else (m j).map _)=none;rw [if_neg hj,e];rfl
 have one_gp:∀ (u:Kd) (j:Int),j∈gp (fill (oneM g t) u)->(j∈gp u/\j≠g)\/j∈gp t:=fun u j hj=>by
  obtain ⟨k,hk,hk2⟩:=gp_fill u j hj
  by_cases e:k=g
  ·have:fill (oneM g t) (.gap k)=t:=by show (if k=g then some t else none).getD _=t;rw [if_pos e];rfl
   rw [this] at hk2;exact .inr hk2
  ·have:fill (oneM g t) (.gap k)=.gap k:=by show (if k=g then some t else none).getD _=_;rw [if_neg e];rfl
   rw [this] at hk2
   simp [gp] at hk2
   rw [hk2];exact .inl ⟨hk,e⟩
 have cases_b:∀ k u,bind1 m g t k=some u->(k=g/\u=t)\/(k≠g/\∃ u0,m k=some u0/\u=fill (oneM g t) u0):=fun k u e=>by
  have e:(if k=g then some t else (m k).map (fill (oneM g t)))=some u:=e
  by_cases z:k=g
  ·rw [if_pos z] at e;exact .inl ⟨z,(Option.some.inj e).symm⟩
  ·rw [if_neg z] at e
   cases ek:m k with
   | none=>rw [ek] at e;cases e
   | some u0=>rw [ek] at e;exact .inr ⟨z,u0,rfl,(Option.some.inj e).symm⟩
 have absb:∀ M,Abs M (bind1 m g t)->Abs M m/\Abs M (oneM g t):=fun M A=>by
  have a1:Abs M (oneM g t):=fun k u e=>by
   have e:(if k=g then some t else none)=some u:=e
   by_cases z:k=g
   ·rw [if_pos z] at e
    cases e
    exact A k t (by show (if k=g then _ else _)=_;rw [if_pos z])
   ·rw [if_neg z] at e;cases e
  refine ⟨fun k u e=>?_,a1⟩
  have hk:k≠g:=fun z=>by rw [z,mg] at e;cases e
  have:=A k (fill (oneM g t) u) (by show (if k=g then _ else (m k).map _)=_;rw [if_neg hk,e];rfl)
  rw [abs_fill a1] at this
  exact this
 refine ⟨⟨fun T=>?_,fun k u e j hj=>?_,fun k u e=>?_,fun k u e=>?_,fun p hp=>?_,fun k u e j hj=>?_,fun p hp=>S.ginW p (S.pop.1 p hp),fun i p hp M A=>S.lvl i p (S.pop.2 i p hp) M (absb M A).1⟩,mg,gin⟩
 ·rw [S.top T]
  have e3:fillT T (fill m x)=fillT T (fill m y)↔T g=fillT T t:=by
   rcases h with ⟨h1,h2⟩ | ⟨h1,h2⟩
   ·rw [h1,h2];exact Iff.rfl
   ·rw [h1,h2];exact eq_comm
  have one:T g=fillT T t->∀ u,fillT T (fill (oneM g t) u)=fillT T u:=fun e u=>abs_fill (M:=fun k=>some (T k)) (m:=oneM g t) (fun k v ev=>by
   have ev:(if k=g then some t else none)=some v:=ev
   by_cases z:k=g
   ·rw [if_pos z] at ev
    cases ev
    rw [z];exact e.symm
   ·rw [if_neg z] at ev;cases ev) u
  rw [e3]
  constructor
  ·rintro ⟨h1,h2,h3⟩
   refine ⟨fun k u e=>?_,h2⟩
   rcases cases_b k u e with ⟨rfl,rfl⟩ | ⟨_,u0,e0,rfl⟩
   ·exact h3
   ·rw [one h3];exact h1 k u0 e0
  ·rintro ⟨h1,h2⟩
   have h3:T g=fillT T t:=h1 g t (by show (if g=g then _ else _)=_;rw [if_pos rfl])
   refine ⟨fun k u e=>?_,h2,h3⟩
   have hk:k≠g:=fun z=>by rw [z,mg] at e;cases e
   have:=h1 k (fill (oneM g t) u) (by show (if k=g then _ else (m k).map _)=_;rw [if_neg hk,e];rfl)
   rw [one h3] at this
   exact this
 ·rcases cases_b k u e with ⟨rfl,rfl⟩ | ⟨_,u0,e0,rfl⟩
  ·exact bnone j (fun z=>hg (z▸hj)) (tfree j hj)
  ·rcases one_gp u0 j hj with ⟨z1,z2⟩ | z
   ·exact bnone j z2 (S.free k u0 e0 j z1)
   ·exact bnone j (fun z'=>hg (z'▸z)) (tfree j z)
 ·rcases cases_b k u e with ⟨rfl,rfl⟩ | ⟨_,u0,e0,rfl⟩
  ·exact gin
  ·exact S.dom k u0 e0
 ·rcases cases_b k u e with ⟨rfl,rfl⟩ | ⟨_,u0,e0,rfl⟩
  ·by_cases gt:isGap u=false
   ·obtain ⟨s',hs',e',g'⟩:=org_nongap S.org hst (by rw [est];exact gt)
    exact ⟨s',hs',by rw [bf,e',est,ft],fun _=>g'⟩
   ·exact ⟨st,hst,bt,fun z=>absurd z gt⟩
  ·obtain ⟨s,hs,es,gs⟩:=S.org k u0 e0
   by_cases g0:isGap u0=false
   ·exact ⟨s,hs,by rw [bf,es],fun _=>gs g0⟩
   ·-- u0 is a gap: its kind now may be t
    obtain ⟨i,rfl⟩:∃ i,u0=.gap i:=by cases u0 <;> simp [isGap] at g0;exact ⟨_,rfl⟩
    by_cases ei:i=g
    ·have e1:fill (oneM g t) (.gap i)=t:=by show (if i=g then some t else none).getD _=t;rw [if_pos ei];rfl
     rw [e1]
     by_cases gt:isGap t=false
     ·obtain ⟨s',hs',e',g'⟩:=org_nongap S.org hst (by rw [est];exact gt)
      exact ⟨s',hs',by rw [bf,e',est,ft],fun _=>g'⟩
     ·exact ⟨st,hst,bt,fun z=>absurd z gt⟩
    ·have e1:fill (oneM g t) (.gap i)=.gap i:=by show (if i=g then some t else none).getD _=_;rw [if_neg ei];rfl
     exact ⟨s,hs,by rw [bf,es],fun z=>by rw [e1] at z;simp [isGap] at z⟩
 ·obtain ⟨⟨s1,q1,e1⟩,⟨s2,q2,e2⟩⟩:=S.orgW p (S.pop.1 p hp)
  exact ⟨⟨s1,q1,by rw [bf,bf,e1]⟩,⟨s2,q2,by rw [bf,bf,e2]⟩⟩
 ·rcases cases_b k u e with ⟨rfl,rfl⟩ | ⟨_,u0,e0,rfl⟩
  ·exact tin j hj
  ·rcases one_gp u0 j hj with ⟨z1,_⟩ | z
   ·exact S.gin k u0 e0 j z1
   ·exact tin j z
theorem sv_end (S:Sv a b m []):fill m a=fill m b/\∀ T,fillT T a=fillT T b->fillT T (fill m a)=fillT T a:=by
 constructor
 ·have:=(S.sol fun k=>(m k).getD (.gap k)).mpr ⟨fun k t e=>?_,fun p hp=>by cases hp⟩
  ·have c:∀ s,fillT (fun k=>(m k).getD (.gap k)) s=fill m s:=fun s=>fill_congr s fun k _=>rfl
   rw [c,c] at this
   exact this
  ·have c:fillT (fun k=>(m k).getD (.gap k)) t=fill m t:=fill_congr t fun k _=>rfl
   rw [c,fill_free t (S.free k t e),e];rfl
 ·intro T h
  exact abs_fill (S.absT ((S.sol T).mp h).1) a
theorem sv_dp (S:Sv a b m W)(ha:dp a<=3)(hb:dp b<=3){p:Kd × Kd}(hp:p∈W):dp (fill m p.1)<=14/\dp (fill m p.2)<=14:=by
 obtain ⟨⟨s1,q1,e1⟩,⟨s2,q2,e2⟩⟩:=S.orgW p hp
 rw [<- e1,<- e2]
 exact ⟨org_dp S.org ha hb q1,org_dp S.org ha hb q2⟩
theorem sv_told (S:Sv a b m W)(ha:dp a<=3)(hb:dp b<=3){k:Int}{t:Kd}(h:m k=some t):dp t<=14:=by
 obtain ⟨s,hs,e,_⟩:=S.org k t h
 rw [<- e]
 exact org_dp S.org ha hb hs
theorem sv_len (S:Sv a b m W)(ha:dp a<=3)(hb:dp b<=3):W.length<=15:=by
 cases e:W.length with
 | zero=>omega
 | succ n =>
  have hlt:n < W.length:=by omega
  obtain ⟨h1,_⟩:=S.lvl n W[n] (List.getElem?_eq_getElem hlt) m S.absSelf
  have d1:=org_dp S.org ha hb (List.mem_append_left _ (subs_self a))
  have d2:=org_dp S.org ha hb (List.mem_append_right _ (subs_self b))
  unfold DD at h1
  omega
def szW (m:Int->Option Kd):List (Kd × Kd)->Nat
 | []=>0
 | p::W=>sz (fill m p.1)+sz (fill m p.2)+szW m W
theorem szW_app (m:Int->Option Kd)(W W':List (Kd × Kd)):szW m (W++W')=szW m W+szW m W':=by
 induction W with
 | nil=>simp [szW]
 | cons p W ih=>simp only [List.cons_append,szW,ih];omega
theorem szW_le {n:Nat}:∀ W:List (Kd × Kd),(∀ p∈W,sz (fill m p.1)+sz (fill m p.2)<=n)->szW m W<=W.length * n
 | [],_=>by simp [szW]
 | p::W,h=>by
  have h1:=h p List.mem_cons_self
  have h2:=szW_le W fun q hq=>h q (List.mem_cons_of_mem _ hq)
  simp only [szW,List.length_cons,Nat.succ_mul]
  omega
theorem sv_sum (S:Sv a b m W)(ha:dp a<=3)(hb:dp b<=3):szW m W<=1000000:=by
 have h:=szW_le (m:=m) (n:=65536) W fun p hp=>by
  obtain ⟨d1,d2⟩:=sv_dp S ha hb hp
  have s1:=sz_dp (fill m p.1)
  have s2:=sz_dp (fill m p.2)
  have e1:2 ^ (dp (fill m p.1)+1)<=2 ^ 15:=Nat.pow_le_pow_right (by decide) (by omega)
  have e2:2 ^ (dp (fill m p.2)+1)<=2 ^ 15:=Nat.pow_le_pow_right (by decide) (by omega)
  omega
 have hl:=sv_len S ha hb
 have:W.length * 65536<=15 * 65536:=Nat.mul_le_mul_right _ hl
 omega
theorem szW_zip (S:Sv a b m W){x y:Kd}(h:tag (fill m x)=tag (fill m y)):szW m ((parts (fill m x)).zip (parts (fill m y)))+2<=sz (fill m x)+sz (fill m y):=by
 have key:∀ {z c:Kd},c∈parts (fill m z)->fill m c=c:=fun {z c} hc=>fill_free c fun j hj=>S.gpFill (s:=z) (gp_part hc hj)
 have kx:∀ c,c∈parts (fill m x)->fill m c=c:=fun c=>key
 have ky:∀ c,c∈parts (fill m y)->fill m c=c:=fun c=>key
 generalize fill m x=u at *
 generalize fill m y=v at *
 cases u <;> cases v <;> simp [tag] at h <;> simp only [parts,List.zip_cons_cons,List.zip_nil_right,List.zip_nil_left,szW,sz] <;> simp [parts] at kx ky
 all_goals first | omega | (simp only [kx,ky];omega)
def untold (m:Int->Option Kd)(l:List Int):Nat:=(l.filter fun k=>(m k).isNone).length
theorem untold_bind {g:Int}{t:Kd}{l:List Int}(hg:m g=none)(hl:g∈l):untold (bind1 m g t) l < untold m l:=by
 unfold untold
 have le:∀ l:List Int,(l.filter fun k=>(bind1 m g t k).isNone).length<=(l.filter fun k=>(m k).isNone).length:=by
  intro l
  induction l with
  | nil=>exact Nat.le_refl _
  | cons k l ih =>
   simp only [List.filter_cons]
   by_cases e:(bind1 m g t k).isNone=true
   ·have hm:(m k).isNone=true:=by
     have e:((if k=g then some t else (m k).map (fill (oneM g t))):Option Kd).isNone=true:=e
     by_cases z:k=g
     ·rw [if_pos z] at e;cases e
     ·rw [if_neg z] at e
      cases ek:m k with
      | none=>rfl
      | some u=>rw [ek] at e;cases e
    rw [if_pos e,if_pos hm]
    simp only [List.length_cons];omega
   ·rw [if_neg e]
    split
    ·simp only [List.length_cons];omega
    ·exact ih
 induction l with
 | nil=>cases hl
 | cons k l ih =>
  simp only [List.filter_cons]
  rcases List.mem_cons.mp hl with rfl | hl
  ·have h1:(bind1 m g t g).isNone=false:=by show ((if g=g then some t else _):Option Kd).isNone=false;rw [if_pos rfl];rfl
   have h2:(m g).isNone=true:=by rw [hg];rfl
   rw [if_neg (by rw [h1];exact Bool.false_ne_true),if_pos h2]
   have:=le l
   simp only [List.length_cons];omega
  ·have ih:=ih hl
   by_cases e:(bind1 m g t k).isNone=true
   ·have hm:(m k).isNone=true:=by
     have e:((if k=g then some t else (m k).map (fill (oneM g t))):Option Kd).isNone=true:=e
     by_cases z:k=g
     ·rw [if_pos z] at e;cases e
     ·rw [if_neg z] at e
      cases ek:m k with
      | none=>rfl
      | some u=>rw [ek] at e;cases e
    rw [if_pos e,if_pos hm]
    simp only [List.length_cons];omega
   ·rw [if_neg e]
    split
    ·simp only [List.length_cons];omega
    ·exact ih
theorem sv_swap (S:Sv a b m (W++[(x,y)])):Sv a b m (W++[(y,x)]):=by
 have hin:(x,y)∈W++[(x,y)]:=List.mem_append_right _ List.mem_cons_self
 refine ⟨fun T=>?_,S.free,S.dom,S.org,fun p hp=>?_,S.gin,fun p hp j hj=>?_,fun i p hp M A=>?_⟩
 ·rw [S.sol T]
  constructor
  ·rintro ⟨h1,h2⟩
   refine ⟨h1,fun p hp=>?_⟩
   rcases List.mem_append.mp hp with z | z
   ·exact h2 p (List.mem_append_left _ z)
   ·rw [List.mem_singleton.mp z];exact (h2 (x,y) hin).symm
  ·rintro ⟨h1,h2⟩
   refine ⟨h1,fun p hp=>?_⟩
   rcases List.mem_append.mp hp with z | z
   ·exact h2 p (List.mem_append_left _ z)
   ·rw [List.mem_singleton.mp z];exact (h2 (y,x) (List.mem_append_right _ List.mem_cons_self)).symm
 ·rcases List.mem_append.mp hp with z | z
  ·exact S.orgW p (S.pop.1 p z)
  ·rw [List.mem_singleton.mp z];exact ⟨(S.orgW _ hin).2,(S.orgW _ hin).1⟩
 ·rcases List.mem_append.mp hp with z | z
  ·exact S.ginW p (S.pop.1 p z) j hj
  ·rw [List.mem_singleton.mp z] at hj;exact S.ginW _ hin j hj.symm
 ·by_cases hi:i < W.length
  ·rw [List.getElem?_append_left hi] at hp
   exact S.lvl i p (S.pop.2 i p hp) M A
  ·rw [List.getElem?_append_right (by omega)] at hp
   have h0:i - W.length=0:=by
    have:=(List.getElem?_eq_some_iff.mp hp).1
    simp at this
    omega
   rw [h0] at hp
   cases hp
   have hl:=S.lvl W.length (x,y) (by rw [List.getElem?_append_right (Nat.le_refl _),Nat.sub_self];rfl) M A
   have:i=W.length:=by omega
   rw [this]
   exact ⟨hl.2,hl.1⟩
theorem szW_pos (m:Int->Option Kd)(W:List (Kd × Kd))(x y:Kd):szW m W+2<=szW m (W++[(x,y)])/\szW m (W++[(x,y)])=szW m W+(sz (fill m x)+sz (fill m y)):=by
 have h1:=sz_pos (fill m x)
 have h2:=sz_pos (fill m y)
 rw [szW_app]
 simp only [szW]
 omega
theorem dp_le_fill (t:Kd):dp t<=dp (fill m t):=by
 have e:fillT (fun k=>(m k).getD (.gap k)) t=fill m t:=fill_congr t fun k _=>rfl
 rw [<- e]
 exact dp_fill_ge t
end
end KM
namespace PySem
open L2
section
variable {prog:Program}{w:World}{A:Around}{E:Value->Shared->Prop}{s:Shared}
theorem ld_len:typeLookup (.type "dict") "__len__"=pure (some (.builtin "dict.__len__")):=by rw [typeLookup_type,builtinLookup_eq_fast];kernel_rfl
theorem ld_hint {d:Addr}{Q:Bool->Shared->Prop}(hT:s.TypeIs (.ref d) "dict")(h:Q false s):wpAny (model prog w) A (Builtin.List.listLengthHint (.ref d)) Q E s:=by
 unfold Builtin.List.listLengthHint
 refine wpAny_bind (wpAny_specialOf hT ld_len ?_)
 generalize hid:("dict.__len__":String)=id0
 wp_delta
 rw [show splitId id0=some ("dict","__len__") from by subst hid;decide +kernel]
 subst hid
 refine wpAny_bind (wpAny_isInstance (T:="dict") (b:=true) hT (by first | exact isSubtype_refl _ | rfl | kernel_rfl) ?_)
 refine wpAny_ite_split (fun hab=>absurd hab (by decide)) (fun _=>?_)
 refine wpAny_ite_split (fun _=>?_) (fun hab=>absurd (by decide +kernel) hab)
 refine wpAny_bind (wpAny_typeOf hT ?_)
 exact wpAny_pure h
theorem ld_extend {R:Result->Shared->Prop}{d:Addr}{kvs:List (Key × Value)}{ep:Nat}(hh:A.handled=none)(hd0:(d==sysModules)=false)(hm:s.heap.DictAt (mixKind prog w) d kvs ep)(hlen:kvs.length<=sizeLine)(S:Addr)(res:Value)(c0:Nat)(hS:s.heap.get? S=some { cls:=.type "list",data:=.seq #[] c0 })(hSd:S≠d)
  (hR:∀ h' tk acc' c',(∀ b o,b≠S->s.heap.get? b=some o->h'.get? b=some o)->h'.get? S=some { cls:=.type "list",dict:=none,data:=.seq acc' c',slots:=#[] } ->
   ItemsOf (fun i v=>∃ k x,kvs[i]?=some (k,x)/\(mixKind prog w).is k v=true) acc' kvs.length->R (.ok (.ret res)) { s with heap:=h',toks:=tk }) :
  wpAny (model prog w) A.in1 (Builtin.List.listExtendWith (.ref S) (.ref d) res)
   (fun fin s'=>match fin with | .done f=>R (.ok f) s' | .again c'=>c'.quiet=true/\codeAny (model prog w) A c' R s') (fun e s'=>R (.error e) s') s:=by
 have hT:s.TypeIs (.ref d) "dict":=hm.dictOf.typeIs
 obtain ⟨od,hod⟩:∃ o,s.heap.get? d=some o:=by
  obtain ⟨o,e,_⟩:=hT
  exact ⟨o,e⟩
 have dlt:=Heap.lt_size hod
 have Slt:=Heap.lt_size hS
 have nI:d≠s.heap.objs.size:=Nat.ne_of_lt dlt
 have W:=(Walks.dictKeys (prog:=prog) (w:=w) (knd:=mixKind prog w) (A:=A.in1) hh s.heap.objs.size d nI kvs ep).toS
 have hSf:S∉[s.heap.objs.size,d]:=by
  intro z
  rcases List.mem_cons.mp z with z | z
  ·exact absurd z (Nat.ne_of_lt Slt)
  ·exact hSd (List.mem_singleton.mp z)
 have key:∀ (h:Heap) (c1 tk:Nat),h.IsKeyIter s.heap.objs.size d 0 kvs.length ep->h.DictAt (mixKind prog w) d kvs ep->(∀ b o,b≠S->s.heap.get? b=some o->h.get? b=some o)->h.get? S=some { cls:=.type "list",data:=.seq #[] c1 } ->
   codeAny (model prog w) A (.builtin "list.extend.loop" ⟨[.ref S,.ref s.heap.objs.size,res],[]⟩) R { s with heap:=h,toks:=tk }:=by
  intro h c1 tk hit hda hk hS1
  refine codeAny_extend_loopS W hlen S hSf res kvs.length 0 _ #[] c1 rfl (Nat.zero_le _) ⟨hit,hda⟩ hS1 (ItemsOf.nil _) fun s' acc' c' hmv hS' hacc=>?_
  rw [Moved.eq_with hmv]
  refine hR s'.heap s'.toks acc' c' (fun b o hb e=>hmv.heap b o (fun hmem=>?_) (hk b o hb e)) hS' hacc
  rcases List.mem_cons.mp hmem with e' | hmem
  ·exact hb e'
  ·have e':=List.mem_singleton.mp hmem
   exact absurd e' (Nat.ne_of_lt (Heap.lt_size e))
 unfold Builtin.List.listExtendWith
 refine wpAny_bind (wpAny_typeOf hT ?_)
 have h1:Builtin.List.listSameRef (.ref S) (.ref d)=false:=by simp [Builtin.List.listSameRef,hSd]
 have h2:(Value.type "dict"==Value.type "list")=false:=by decide
 have h3:(Value.type "dict"==Value.type "tuple")=false:=by decide
 simp only [h1,h2,h3,Bool.or_false,Bool.false_eq_true,if_false]
 refine wpAny_bind (wpAny_pyIter_dict hd0 hm ?_)
 have up:∀ b o,s.heap.get? b=some o->(s.heap.push { cls:=.type "dict_keyiterator",data:=.fields #[.ref d,.int 0 0,.int kvs.length 0,.int ep 0] }).get? b=some o:=fun b o e=>Heap.get?_push_of_some _ e
 have it1:(s.heap.push { cls:=.type "dict_keyiterator",data:=.fields #[.ref d,.int 0 0,.int kvs.length 0,.int ep 0] }).IsKeyIter s.heap.objs.size d 0 kvs.length ep:=⟨_,Heap.get?_push_size _ rfl,rfl,rfl⟩
 have da1:(s.heap.push { cls:=.type "dict_keyiterator",data:=.fields #[.ref d,.int 0 0,.int kvs.length 0,.int ep 0] }).DictAt (mixKind prog w) d kvs ep:=hm.at' fun o e=>up d o e
 have hS1:=up S _ hS
 generalize s.heap.push { cls:=.type "dict_keyiterator",data:=.fields #[.ref d,.int 0 0,.int kvs.length 0,.int ep 0] }=h1 at up it1 da1 hS1 ⊢
 refine wpAny_bind (wpAny_holding (ld_hint (s:={ s with heap:=h1 }) (by
  obtain ⟨o,e,c⟩:=hT
  exact ⟨o,up d o e,c⟩) ?_))
 refine wpAny_ite_split (fun _=>?_) (fun _=>wpAny_pure ⟨plainId_quiet F.plain_extend_loop _,key h1 c0 s.toks it1 da1 (fun b o _ e=>up b o e) hS1⟩)
 refine wpAny_bind (wpAny_rule ?_)
 refine wpAny_bind ?_
 show wpAny (model prog w) _ (updateSeq S (·.push .none) >>= fun _=>updateSeq S (·.pop)) _ _ _
 refine wpAny_bind (wpAny_updateSeq (s:={ s with heap:=h1 }) hS1 rfl ?_)
 have hS2:=Heap.get?_update_self (Obj.mapSeq (·.push Value.none)) hS1 rfl
 refine wpAny_updateSeq (hz:=by seq_fits) hS2 rfl ?_
 have hS3:=Heap.get?_update_self (Obj.mapSeq (·.pop)) hS2 rfl
 have oth:∀ b o,b≠S->h1.get? b=some o->((h1.update S (Obj.mapSeq (·.push Value.none))).update S (Obj.mapSeq (·.pop))).get? b=some o:=fun b o hb e =>
  (Heap.get?_update_other _ _ (Ne.symm hb)).trans ((Heap.get?_update_other _ _ (Ne.symm hb)).trans e)
 exact wpAny_pure ⟨plainId_quiet F.plain_extend_loop _,key _ _ s.toks (it1.at fun o e=>oth _ o (Ne.symm (Nat.ne_of_lt Slt)) e) (da1.at' fun o e=>oth d o (Ne.symm hSd) e) (fun b o hb e=>oth b o hb (up b o e)) hS3⟩
theorem call_list_dict {Q:Value->Shared->Prop}{d:Addr}{kvs:List (Key × Value)}{ep:Nat}(hh:A.handled=none)(hd0:(d==sysModules)=false)(hm:s.heap.DictAt (mixKind prog w) d kvs ep)(hlen:kvs.length<=sizeLine)
  (hQ:∀ h' tk acc' c',(∀ b o,s.heap.get? b=some o->h'.get? b=some o)->h'.get? s.heap.objs.size=some { cls:=.type "list",dict:=none,data:=.seq acc' c',slots:=#[] } ->
   ItemsOf (fun i v=>∃ k x,kvs[i]?=some (k,x)/\(mixKind prog w).is k v=true) acc' kvs.length->Q (.ref s.heap.objs.size) { s with heap:=h',toks:=tk }):wpAny (model prog w) A (call (.type "list") [.ref d]) Q E s:=by
 have dlt:d < s.heap.objs.size:=by
  obtain ⟨o,e,_⟩:=hm.dictOf.typeIs (s:=s)
  exact Heap.lt_size e
 refine callType_codes (Q₁:=fun obj s1=>obj=.ref s.heap.objs.size/\s1={ s with heap:=s.heap.push { cls:=.type "list",data:=.seq #[] } }) F.called_list (F.typeCall_list_1 _) F.entry_list_init (code_list_new _ ⟨rfl,rfl⟩) fun obj s1 q1=>?_
 obtain ⟨rfl,rfl⟩:=q1
 have hS:(s.heap.push { cls:=.type "list",data:=.seq #[] }).get? s.heap.objs.size=some { cls:=.type "list",data:=.seq #[] }:=Heap.get?_push_size _ rfl
 refine ⟨⟨_,hS,rfl⟩,F.args_list_init_2 _ _,?_⟩
 show wpAny (model prog w) _ (do let old <- Builtin.List.listItems (.ref s.heap.objs.size);Builtin.List.listUpdate (.ref s.heap.objs.size) (fun _=>#[]);letGo old.toList.reverse;Builtin.List.listExtendWith (.ref s.heap.objs.size) (.ref d) .none) _ _ _
 refine wpAny_bind ?_
 unfold Builtin.List.listItems
 refine wpAny_bind (wpAny_seqItems hS rfl (wpAny_pure ?_))
 show wpAny (model prog w) _ (updateSeq s.heap.objs.size (fun _=>#[]) >>= fun _=>letGo (#[]:Array Value).toList.reverse >>= fun _=>Builtin.List.listExtendWith (.ref s.heap.objs.size) (.ref d) .none) _ _ _
 refine wpAny_bind (wpAny_updateSeq hS rfl ?_)
 have hS2:=Heap.get?_update_self (Obj.mapSeq (fun _=>(#[]:Array Value))) hS rfl
 have oth:∀ b o,b≠s.heap.objs.size->s.heap.get? b=some o->((s.heap.push { cls:=.type "list",data:=.seq #[] }).update s.heap.objs.size (Obj.mapSeq (fun _=>(#[]:Array Value)))).get? b=some o :=
  fun b o hb e=>(Heap.get?_update_other _ _ (Ne.symm hb)).trans (Heap.get?_push_of_some _ e)
 refine wpAny_bind (wpAny_letGo ?_)
 refine ld_extend (A:=A.in1) (d:=d) (kvs:=kvs) (ep:=ep) hh hd0 (hm.at' fun o e=>oth d o (Nat.ne_of_lt dlt) e) hlen _ .none _ hS2 (Ne.symm (Nat.ne_of_lt dlt)) fun h' tk acc' c' hk hS' hacc=>?_
 exact ⟨rfl,hQ h' tk acc' c' (fun b o e=>hk b o (Nat.ne_of_lt (Heap.lt_size e)) (oth b o (Nat.ne_of_lt (Heap.lt_size e)) e)) hS' hacc⟩
end
end PySem
namespace L2
open PySem PySem.Spec PyProof.Rows
section
variable {X:Cx}
theorem keys_vals {P:Program}{w:World}{kvs:List (Key × V)}{vs:List (Key × Value)}(r:KV kvs vs){us:List Value}(hl:us.length=kvs.length)(h:∀ (i:Nat) (u:Value),us[i]?=some u->∃ k x,vs[i]?=some (k,x)/\(mixKind P w).is k u=true):Vals (kvs.map fun p=>kV p.1) us:=by
 have key:∀ (ks:List V) (us:List Value),ks.length=us.length->(∀ (i:Nat) k u,ks[i]?=some k->us[i]?=some u->RelV k u)->Vals ks us:=by
  intro ks
  induction ks with
  | nil=>intro us h1 _;cases us with | nil=>exact .nil | cons _ _=>simp at h1
  | cons k ks ih =>
   intro us h1 h2
   cases us with
   | nil=>simp at h1
   | cons u us=>exact .cons (h2 0 k u rfl rfl) (ih us (by simpa using h1) fun i k' u' e1 e2=>h2 (i+1) k' u' (by simpa using e1) (by simpa using e2))
 refine key _ _ (by rw [List.length_map];exact hl.symm) fun i k u e1 e2=>?_
 rw [List.getElem?_map] at e1
 cases e:kvs[i]? with
 | none=>rw [e] at e1;cases e1
 | some p =>
  rw [e] at e1
  cases e1
  obtain ⟨v,hv,_⟩:=r.at e
  obtain ⟨k',x,h1,h2⟩:=h i u e2
  rw [hv] at h1
  cases h1
  exact relV_key h2
theorem call_listD (hc:X.calm=true):CallR X (.type "list") (fun xs H Q=>∃ d kvs,xs=[.ref d]/\H d=some (.dK kvs)/\∀ l,H l=none->Q (.ref l) (upd H l (.lst (kvs.map fun p=>kV p.1)))):=by
 intro pins s σ H xs us Q I r h
 obtain ⟨d,kvs,rfl,hd,q⟩:=h
 obtain ⟨u,rfl,rx⟩:=vals1 r
 cases rx
 obtain ⟨hz,hs,vs,rk,o,es,ep,e1,e2,e3,e4⟩:=(show ObjOk X.prog X.w H s.heap d (.dK kvs) from I.hok d _ hd)
 have hl:=rk.length
 refine call_list_dict (d:=d) (kvs:=vs) (ep:=ep) (I.ok.hd hc) hs ⟨o,es,e1,e2,e3,e4⟩ (by omega) fun h' tk acc c hk hS hA=>?_
 refine ⟨.ref _,_,I.laid (o:=.lst (kvs.map fun p=>kV p.1)) (t':=tk) hk (Nat.le_refl _) ⟨by rw [List.length_map];omega,acc.toList,c,keys_vals (P:=X.prog) (w:=X.w) rk (by rw [Array.length_toList,hA.1];exact hl.symm) (fun i u hu=>hA.2 i u (by simpa using hu)),by simpa using hS⟩,rfl,q _ (I.hok.fresh (Nat.le_refl _))⟩
end
end L2
namespace K
open PySem L2 KM KS
def PrAt (H:Hp)(p:Kd × Kd)(v:V):Prop:=∃ t x y,v=.ref t/\H t=some (.tup [x,y])/\KAt H p.1 x/\KAt H p.2 y
theorem PrAt.mono {H H':Hp}(s:TSub H H'){p:Kd × Kd}{v:V}(h:PrAt H p v):PrAt H' p v:=by
 obtain ⟨t,x,y,rfl,h1,h2,h3⟩:=h
 exact ⟨t,x,y,rfl,s _ _ h1,KAt.mono s h2,KAt.mono s h3⟩
theorem Paired.last {α β:Type}{F:α->β->Prop}:∀ {as:List α} {bs:List β},PySem.Paired F as bs->as≠[]->∃ as' a bs' b,as=as'++[a]/\bs=bs'++[b]/\PySem.Paired F as' bs'/\F a b
 | _,_,.nil,h=>absurd rfl h
 | _,_,.cons (a:=a) (b:=b) (l₁:=as) (l₂:=bs) h t,_=>by
  cases t with
  | nil=>exact ⟨[],a,[],b,rfl,rfl,.nil,h⟩
  | cons h2 t2 =>
   obtain ⟨as',a',bs',b',e1,e2,p,f⟩:=Paired.last (.cons h2 t2) (by simp)
   exact ⟨a::as',a',b::bs',b',by rw [e1];rfl,by rw [e2];rfl,.cons h p,f⟩
theorem prat_zip {H:Hp}:∀ {ds es:List Kd} {us ws:List V} {ts:List Addr},KAts H ds us->KAts H es ws->ts.length=us.length->us.length=ws.length->(∀ (j:Nat) (t:Addr),ts[j]?=some t->∃ x y,us[j]?=some x/\ws[j]?=some y/\H t=some (.tup [x,y]))->PySem.Paired (PrAt H) (ds.zip es) (ts.map V.ref)
 | [],[],[],[],[],_,_,_,_,_=>.nil
 | [],_::_,[],_,_,_,k,_,l,_=>by cases k;simp at l
 | _::_,[],_,[],_,h,_,_,l,_=>by cases h;simp at l
 | d::ds,e::es,u::us,w::ws,t::ts,.cons h1 h2,.cons k1 k2,l1,l2,h3=>by
  refine .cons ?_ (prat_zip h2 k2 (by simpa using l1) (by simpa using l2) fun j t' e'=>?_)
  ·obtain ⟨x,y,e1,e2,e3⟩:=h3 0 t rfl
   cases e1
   cases e2
   exact ⟨t,_,_,rfl,e3,h1,k1⟩
  ·obtain ⟨x,y,e1,e2,e3⟩:=h3 (j+1) t' (by simpa using e')
   exact ⟨x,y,by simpa using e1,by simpa using e2,e3⟩
theorem nodup_inl:∀ ks:List Int,(ks.map (Sum.inl:Int->Key)).Nodup->ks.Nodup
 | [],_=>List.nodup_nil
 | k::ks,h=>by
  obtain ⟨h1,h2⟩:=List.nodup_cons.mp h
  exact List.nodup_cons.mpr ⟨fun z=>h1 (List.mem_map_of_mem z),nodup_inl ks h2⟩
theorem int_keys {kvs:List (Key × V)}(h:IntK kvs):∃ ks:List Int,kvs.map (·.1)=ks.map Sum.inl/\ks.Nodup:=by
 have key:∀ l:List (Key × V),(∀ p∈l,∃ k:Int,p.1=Sum.inl k)->∃ ks:List Int,l.map (·.1)=ks.map Sum.inl:=by
  intro l
  induction l with
  | nil=>intro _;exact ⟨[],rfl⟩
  | cons p l ih =>
   intro hl
   obtain ⟨k,ek⟩:=hl p List.mem_cons_self
   obtain ⟨ks,e⟩:=ih fun q hq=>hl q (List.mem_cons_of_mem _ hq)
   exact ⟨k::ks,by simp only [List.map_cons,ek,e]⟩
 obtain ⟨ks,e⟩:=key kvs h.2
 refine ⟨ks,e,nodup_inl ks ?_⟩
 have nd:=h.1
 rw [e] at nd
 exact nd
theorem key_in {H:Hp}{kvs:List (Key × V)}{m:Int->Option Kd}{ks:List Int}(dk:DictK H kvs m)(e:kvs.map (·.1)=ks.map Sum.inl)(k:Int):k∈ks↔∃ t,m k=some t:=by
 have h1:(valV kvs (Sum.inl k:Key)).isSome=true↔k∈ks:=by
  rw [<- valV_any]
  constructor
  ·intro h
   obtain ⟨p,hp,ep⟩:=List.any_eq_true.mp h
   have hm:p.1∈kvs.map (·.1):=List.mem_map_of_mem hp
   rw [e] at hm
   obtain ⟨j,hj,ej⟩:=List.mem_map.mp hm
   have:p.1=Sum.inl k:=by simpa using ep
   rw [this] at ej
   cases ej
   exact hj
  ·intro h
   have hm:(Sum.inl k:Key)∈kvs.map (·.1):=by rw [e];exact List.mem_map_of_mem h
   obtain ⟨p,hp,ep⟩:=List.mem_map.mp hm
   exact List.any_eq_true.mpr ⟨p,hp,by simpa using ep⟩
 rw [<- h1]
 rcases dk k with ⟨z1,z2⟩ | ⟨v,t,z1,z2,_⟩
 ·rw [z1,z2];simp
 ·rw [z1,z2];simp
theorem IntK.put0 {kvs:List (Key × V)}{g:Int}{v:V}(h:IntK kvs):IntK (putK kvs (Sum.inl g:Key) v):=by
 cases e:valV kvs (Sum.inl g:Key) with
 | none =>
  refine ⟨nd_putK _ h.1 e,fun p hp=>?_⟩
  rw [putK_new _ e] at hp
  rcases List.mem_append.mp hp with y | y
  ·exact h.2 p y
  ·rw [List.mem_singleton.mp y];exact ⟨g,rfl⟩
 | some u =>
  have e1:=putK_old (v:=v) e
  refine ⟨by rw [e1];exact h.1,fun p hp=>?_⟩
  have:p.1∈kvs.map (·.1):=by rw [<- e1];exact List.mem_map_of_mem hp
  obtain ⟨p',hp',e'⟩:=List.mem_map.mp this
  obtain ⟨j,ej⟩:=h.2 p' hp'
  exact ⟨j,by rw [<- e',ej]⟩
theorem gname_in {i:Nat}{v:V}{σ:St}{H:Hp}{Q:St->Hp->Prop}(h:Q (σ.set i (some v)) H):gName i v σ H Q:=h
theorem ends_nx {A:St->Hp->Prop}{rt:VK}{bk ct:St->Hp->Prop}{σ:St}{H:Hp}(h:A σ H):({ nx:=A,rt:=rt,bk:=bk,ct:=ct }:Ends).nx σ H:=h
theorem tag_len (d:Kd):(match tag d with | 3=>2 | 4=>2 | 5=>1 | _=>0)=(parts d).length:=by cases d <;> rfl
def upM (m:Int->Option Kd)(ks:List Int)(i:Nat)(g:Int)(t:Kd):Int->Option Kd:=fun k=>if k∈ks.take i then (m k).map (fill (oneM g t)) else m k
def spSolve:Sp:=fun vs H Q _=>∃ (a b:Kd) (v u:V) (lp tp:Addr),vs=[.ref lp]/\H lp=some (.lst [.ref tp])/\H tp=some (.tup [v,u])/\KAt H a v/\KAt H b u/\dp a<=3/\dp b<=3 /\
 (∀ d kvs m H',Same H H'->H d=none->H' d=some (.dK kvs)->DictK H' kvs m->Sv a b m []->Q (.ref d) H')/\((∀ T,fillT T a≠fillT T b)->∀ H',Same H H'->Q .non H')
abbrev nSolve:List Str:=["_law_pairs_here","_law_told_here","_law_left","_law_one","_law_other","_law_number"]
section
variable {Pr:Program}{w:World}{K:PySem.W.Frag}{mg:Str->Option Value}{base:Heap}
theorem scSolve:FnScope nSolve ["_law_pairs_here"] (defScope sSolve):=⟨rfl,rfl,rfl,by decide +kernel,rfl,by decide +kernel,by decide +kernel⟩
theorem ok_solve {f fF fG:Addr}{fd fdF fdG:FuncData}(F:Fun K "_law_solve" "_law_solve" sSolve f fd)(mL:mg "list"=none)(mZ:mg "zip"=none)
  (GG:FnOk Pr w K mg base CX0 16 fG fdG ["_law_kind_here"] (spGaps 14)) (kG:PySem.W.keepIn K (.ref fG)=true) (bG:Binds K fdG ["_law_kind_here"] []) (mG:mg "_law_gaps"=some (.ref fG))
  (GF:FnOk Pr w K mg base CX0 16 fF fdF ["_law_kind_here","_law_told_here"] (spFillL 14)) (kF:PySem.W.keepIn K (.ref fF)=true) (bF:Binds K fdF ["_law_kind_here","_law_told_here"] []) (mF:mg "_law_filled"=some (.ref fF)) :
  FnOk Pr w K mg base CX0 17 f fd ["_law_pairs_here"] spSolve:=by
 refine F.okS scSolve (fun vs H Q E h=>?_) (fun cdv A outer s H vs Q E hr h=>?_)
 ·obtain ⟨a,b,v,u,lp,tp,rfl,_⟩:=h
  rfl
 ·obtain ⟨a,b,v,u,lp,tp,rfl,hlp,htp,ka,kb,da,db,q1,q2⟩:=h
  have hb:=line_big
  have hu:=hu_of hr
  have hu64:=hr.units
  refine ⟨_,b_cons (s_set (i:=1) scSolve.nd rfl (Or.inl rfl) e_dnew)
   (b_cons (s_set (i:=2) scSolve.nd rfl (Or.inl rfl) (e_callTy call_list_of rfl mL PyProof.Rows.boot_list (a_cons (e_v 0) a_nil)))
   (b_cons (s_while PassesOwn.never (t_truth (e_v 2))
    (b_cons (s_asg (e_bm0 PySem.F.plainAttrs_list PySem.F.slot_list_pop PySem.F.type_list_pop mt_pop (e_v 2)) (g_tup rfl (gs_cons (g_name (i:=3) scSolve.nd rfl (Or.inl rfl)) (gs_cons (g_name (i:=4) scSolve.nd rfl (Or.inl rfl)) gs_nil))))
    (b_cons (s_set (i:=3) scSolve.nd rfl (Or.inl rfl) (e_call GF hr rfl mF kF bF (a_cons (e_v 3) (a_cons (e_v 1) a_nil))))
    (b_cons (s_set (i:=4) scSolve.nd rfl (Or.inl rfl) (e_call GF hr rfl mF kF bF (a_cons (e_v 4) (a_cons (e_v 1) a_nil))))
    (b_cons (s_if (t_cmp op_ne (e_ix ix_tup (e_v 3) e_int (fun _ _=>rfl)) e_str (nomark _)) (b_one (s_par (i:=3) (j:=4) rfl scSolve.nd rfl rfl (by decide) rfl rfl (a_cons (e_v 4) (a_cons (e_v 3) a_nil)))) b_nil)
    (b_cons (s_if (t_cmp (op_eqK hu64) (e_v 3) (e_v 4) (nomark _)) (b_one s_continue) b_nil)
    (b_one (s_if (t_cmp op_eq (e_ix ix_tup (e_v 3) e_int (fun _ _=>rfl)) e_str (nomark _))
     (b_cons (s_if (t_cmp op_in_seq (e_ix ix_tup (e_v 3) e_int (fun _ _=>rfl)) (e_call GG hr rfl mG kG bG (a_cons (e_v 4) a_nil)) rfl) (b_one (s_ret e_non)) b_nil)
     (b_cons (s_for PassesOwn.never rfl (i_list (e_callTy (call_listD rfl) rfl mL PyProof.Rows.boot_list (a_cons (e_v 1) a_nil))) (g_name (i:=5) scSolve.nd rfl (Or.inl rfl))
      (b_one (s_dput hu (e_v 1) (e_v 5) (e_call GF hr rfl mF kF bF (a_cons (e_dget hu (e_v 1) (e_v 5) (fun _ _=>rfl)) (a_cons (e_disp (d_cons (e_ix ix_tup (e_v 3) e_int (fun _ _=>rfl)) (e_v 4) d_nil) rfl rfl (by simp) (by decide)) a_nil))) rfl)))
     (b_one (s_dput hu (e_v 1) (e_ix ix_tup (e_v 3) e_int (fun _ _=>rfl)) (e_v 4) rfl))))
     (b_one (s_if (t_cmp op_ne (e_ix ix_tup (e_v 3) e_int (fun _ _=>rfl)) (e_ix ix_tup (e_v 4) e_int (fun _ _=>rfl)) (nomark _)) (b_one (s_ret e_non))
      (b_one (s_set (i:=2) scSolve.nd rfl (Or.inl rfl) (e_op op_cat (e_v 2) (e_listZip rfl rfl rfl mL rfl mZ (a_cons (e_slice sl_tup (e_v 3) (o_some e_int) o_none) (a_cons (e_slice sl_tup (e_v 4) (o_some e_int) o_none) a_nil))))))))))))))))
   (b_one (s_ret (e_v 1))))),?_⟩
  have gla:(gp a++gp b).length<=40:=by
   have h1:=gp_len a
   have h2:=gp_len b
   have s1:=sz_dp a
   have s2:=sz_dp b
   have e1:2 ^ (dp a+1)<=2 ^ 4:=Nat.pow_le_pow_right (by decide) (by omega)
   have e2:2 ^ (dp b+1)<=2 ^ 4:=Nat.pow_le_pow_right (by decide) (by omega)
   rw [List.length_append]
   omega
  have small:∀ {t:Kd},dp t<=14->sz t<=100000:=fun {t} h=>by
   have s1:=sz_dp t
   have e1:2 ^ (dp t+1)<=2 ^ 15:=Nat.pow_le_pow_right (by decide) (by omega)
   omega
  intro dt hdt
  have sm1:Same H (upd H dt (.dK [])):=Same.new hdt
  have hdt1:(upd H dt (.dK [])) dt=some (.dK []):=upd_same
  generalize upd H dt (.dK [])=H1 at sm1 hdt1 ⊢
  refine ⟨_,rfl,lp,_,rfl,.inl (SqL.of (sm1 _ _ hlp)),fun lw hlw=>?_⟩
  have sm2:Same H1 (upd H1 lw (.lst [.ref tp])):=Same.new hlw
  have hlw0:H lw=none:=sm1.free hlw
  have ndl:dt≠lw:=ne_of_none hdt1 hlw
  refine ⟨fun mm σ H2=>∃ m W x3 x4 x5 kvs ws lw,σ=[some (.ref lp),some (.ref dt),some (.ref lw),x3,x4,x5]/\mm=untold m (gp a++gp b) * 2000000+szW m W/\Sv a b m W/\Same H H2/\H2 dt=some (.dK kvs)/\DictK H2 kvs m/\IntK kvs/\kvs.length+untold m (gp a++gp b)<=40/\H lw=none/\dt≠lw/\H2 lw=some (.lst ws)/\PySem.Paired (PrAt H2) W ws,
   ⟨_,fun _=>none,[(a,b)],none,none,none,[],[.ref tp],lw,rfl,rfl,sv_start a b,Same.trans sm1 sm2,sm2 _ _ hdt1,DictK.nil,⟨List.nodup_nil,fun p hp=>by cases hp⟩,?_,hlw0,ndl,upd_same,.cons ⟨tp,v,u,rfl,sm2 _ _ (sm1 _ _ htp),KAt.mono (TSub.of_same (Same.trans sm1 sm2)) ka,KAt.mono (TSub.of_same (Same.trans sm1 sm2)) kb⟩ .nil⟩,?_⟩
  ·have:untold (fun _=>none) (gp a++gp b)<=(gp a++gp b).length:=List.length_filter_le _ _
   simp only [List.length_nil]
   omega
  rintro mm σ H2 ⟨m,W,x3,x4,x5,kvs,ws,lw,rfl,rfl,S,sm,hd,dk,ik,hkl,hlw0,ndl,hw,pw⟩
  refine ⟨_,rfl,!ws.isEmpty,.inl ⟨ws,SqL.of hw,rfl⟩,?_⟩
  by_cases hW:W=[]
  ·subst hW
   cases pw
   refine iteF ⟨_,rfl,q1 dt kvs m H2 sm hdt hd dk S⟩
  obtain ⟨W',⟨x,y⟩,ws',v0,rfl,rfl,pw',t0,vx,vy,rfl,ht0,kx,ky⟩:=Paired.last pw hW
  have hne:(!(ws'++[V.ref t0]).isEmpty)=true:=by simp
  rw [hne]
  refine iteT ⟨_,fun σ' H' z=>z,?_⟩
  have hlen:=sv_len S da db
  rw [List.length_append] at hlen
  have hwl:ws'.length=W'.length:=(Paired.length pw').symm
  obtain ⟨dx,dy⟩:=sv_dp S da db (p:=(x,y)) (List.mem_append_right _ List.mem_cons_self)
  have dx:dp (fill m x)<=14:=dx
  have dy:dp (fill m y)<=14:=dy
  have dx0:=dp_le_fill (m:=m) x
  have dy0:=dp_le_fill (m:=m) y
  have dtl:∀ k t,m k=some t->dp t<=14:=fun k t e=>sv_told S da db e
  refine ⟨_,rfl,.inl ⟨rfl,_,SqL.of hw⟩,lw,_,V.ref t0,rfl,rfl,hw,by simp,?_⟩
  rw [List.dropLast_concat]
  have sm3:Same H (upd H2 lw (.lst ws')):=Same.put sm hlw0
  have sub3:TSub H2 (upd H2 lw (.lst ws')):=TSub.put fun xs z=>by rw [hw] at z;cases z
  have hd3:(upd H2 lw (.lst ws')) dt=some (.dK kvs):=by rw [upd_ne ndl];exact hd
  have hw3:(upd H2 lw (.lst ws')) lw=some (.lst ws'):=upd_same
  have ht3:=sub3 _ _ ht0
  have dk3:=DictK.mono sub3 dk
  have kx3:=KAt.mono sub3 kx
  have ky3:=KAt.mono sub3 ky
  have pw3:PySem.Paired (PrAt (upd H2 lw (.lst ws'))) W' ws':=Paired.mapP pw' fun _ _ z=>z.mono sub3
  generalize upd H2 lw (.lst ws')=H3 at sm3 hd3 hw3 ht3 dk3 kx3 ky3 pw3 ⊢
  refine ⟨t0,_,rfl,SqT.of ht3,rfl,_,_,rfl,_,_,rfl,rfl,?_⟩
  refine ⟨_,rfl,_,rfl,x,vx,dt,kvs,m,rfl,kx3,by omega,hd3,dk3,fun r1 H4 sm4 kr1=>?_⟩
  refine ⟨_,rfl,_,rfl,y,vy,dt,kvs,m,rfl,KAt.mono (TSub.of_same sm4) ky3,by omega,sm4 _ _ hd3,DictK.mono (TSub.of_same sm4) dk3,fun r2 H5 sm5 kr2=>?_⟩
  have sm35:=Same.trans sm4 sm5
  have smH5:Same H H5:=Same.trans sm3 sm35
  have hd5:=sm35 _ _ hd3
  have hw5:=sm35 _ _ hw3
  have dk5:=DictK.mono (TSub.of_same sm35) dk3
  have pw5:PySem.Paired (PrAt H5) W' ws':=Paired.mapP pw3 fun _ _ z=>z.mono (TSub.of_same sm35)
  have kr1':=KAt.mono (TSub.of_same sm5) kr1
  have smm:szW m W'+2<=szW m (W'++[(x,y)]):=(szW_pos m W' x y).1
  refine gname_in (ends_nx ?_)
  refine if_joinX (fun σ' H'=>H'=H5/\∃ xx yy vp vq,σ'=[some (.ref lp),some (.ref dt),some (.ref lw),some vp,some vq,x5]/\Sv a b m (W'++[(xx,yy)])/\szW m (W'++[(xx,yy)])=szW m (W'++[(x,y)])/\KAt H5 (fill m xx) vp/\KAt H5 (fill m yy) vq/\dp (fill m xx)<=14/\dp (fill m yy)<=14/\(isGap (fill m xx)=false->isGap (fill m yy)=false)) (fun σ' H' z=>?_) (fun tl=>?_)
  rotate_left
  ·obtain ⟨pa,us,epa,hpa,hpp,hgg,hul⟩:=kr1'.look
   subst epa
   refine ⟨_,rfl,pa,_,_,_,rfl,rfl,SqT.of hpa,atI_nat (j:=0) rfl,rfl,_,rfl,?_⟩
   rw [dec_any]
   cases e:isGap (fill m x) with
   | true =>
    refine iteF ?_
    exact tl _ _ ⟨rfl,x,y,_,_,rfl,S,rfl,kr1',kr2,dx,dy,fun z=>by rw [e] at z;cases z⟩
   | false =>
    refine iteT ?_
    refine ⟨_,rfl,_,rfl,_,_,rfl,?_⟩
    refine tl _ _ ⟨rfl,y,x,_,_,rfl,sv_swap S,?_,kr2,kr1',dy,dx,fun _=>e⟩
    rw [(szW_pos m W' y x).2,(szW_pos m W' x y).2]
    omega
  obtain ⟨eH,xx,yy,vp,vq,rfl,S5,esz,kp,kq,dp1,dp2,gpq⟩:=z
  rw [eH]
  refine ⟨_,rfl,_,rfl,fill m xx,fill m yy,kp,kq,by omega,by omega,_,rfl,?_⟩
  by_cases e:fill m xx=fill m yy
  ·refine iteP (by simp [e]) ?_
   exact ⟨untold m (gp a++gp b) * 2000000+szW m W',by omega,m,W',_,_,x5,kvs,ws',lw,rfl,rfl,sv_same S5 e,smH5,hd5,dk5,ik,hkl,hlw0,ndl,hw5,pw5⟩
  refine iteN (by simp [e]) ?_
  obtain ⟨pa,us,epa,hpa,hpp,hgg,hul⟩:=kp.look
  subst epa
  refine ⟨_,rfl,pa,_,_,_,rfl,rfl,SqT.of hpa,atI_nat (j:=0) rfl,rfl,_,rfl,?_⟩
  rw [dec_any]
  cases eg:isGap (fill m xx) with
  | true =>
   refine iteT ?_
   obtain ⟨g,hg⟩:∃ g,fill m xx=.gap g:=by cases e9:fill m xx <;> rw [e9] at eg <;> simp [isGap] at eg;exact ⟨_,rfl⟩
   obtain rfl:=hgg g hg
   refine ⟨_,rfl,pa,_,_,_,rfl,rfl,SqT.of hpa,atI_nat (j:=1) rfl,_,rfl,fill m yy,vq,rfl,kq,dp2,small dp2,fun l6 H6 sm6 hl60 hl6=>?_⟩
   by_cases hin:g∈gp (fill m yy)
   ·refine ⟨l6,_,rfl,.inl (SqL.of hl6),rfl,flat_ints _,true,(by show V.bl (inV (.int g) _)=_;rw [inV_ints,decide_eq_true hin]),iteT ?_⟩
    exact q2 (fun T=>sv_cyc S5 (.inl ⟨hg,rfl⟩) (fun z=>e (by rw [hg,z])) hin T) H6 (Same.trans smH5 sm6)
   refine ⟨l6,_,rfl,.inl (SqL.of hl6),rfl,flat_ints _,false,(by show V.bl (inV (.int g) _)=_;rw [inV_ints,decide_eq_false hin]),iteF ?_⟩
   obtain ⟨SB,mgN,gin⟩:=sv_bind S5 (.inl ⟨hg,rfl⟩) hin
   obtain ⟨ks,eks,ndk⟩:=int_keys ik
   have smH6:Same H H6:=Same.trans smH5 sm6
   have hd6:=sm6 _ _ hd5
   have exs:kvs.map (fun p=>kV p.1)=ks.map V.int:=by
    have h1:kvs.map (fun p=>kV p.1)=(kvs.map (·.1)).map kV:=by rw [List.map_map];rfl
    rw [h1,eks,List.map_map]
    rfl
   have hkn:ks.length=kvs.length:=by
    have:=congrArg List.length eks
    simpa using this.symm
   refine ⟨_,rfl,dt,kvs,rfl,hd6,fun lk hlk=>⟨lk,rfl,⟨_,SqL.of upd_same⟩,?_⟩⟩
   rw [exs]
   have sm7:Same H6 (upd H6 lk (.lst (ks.map V.int))):=Same.new hlk
   have sm57:=Same.trans sm6 sm7
   have hlk7:(upd H6 lk (.lst (ks.map V.int))) lk=some (.lst (ks.map V.int)):=upd_same
   have hd7:=sm7 _ _ hd6
   have ndk':dt≠lk:=ne_of_none hd6 hlk
   have smH7:=Same.trans smH6 sm7
   have hw7:=sm57 _ _ hw5
   have pw7:PySem.Paired (PrAt (upd H6 lk (.lst (ks.map V.int)))) W' ws':=Paired.mapP pw5 fun _ _ z=>z.mono (TSub.of_same sm57)
   have kp7:=KAt.mono (TSub.of_same sm57) kp
   have kq7:=KAt.mono (TSub.of_same sm57) kq
   have dk7:=DictK.mono (TSub.of_same sm57) dk5
   generalize upd H6 lk (.lst (ks.map V.int))=H7 at sm7 sm57 hlk7 hd7 smH7 hw7 pw7 kp7 kq7 dk7 ⊢
   refine for_list (K:=K) (a:=lk) (xs:=ks.map V.int) (fun i σ H8=>∃ x5' kv',σ=[some (.ref lp),some (.ref dt),some (.ref lw),some (.ref pa),some vq,x5']/\Same H H8/\H8 lk=some (.lst (ks.map V.int))/\H8 dt=some (.dK kv')/\kv'.map (·.1)=kvs.map (·.1)/\DictK H8 kv' (upM m ks i g (fill m yy))/\H8 lw=some (.lst ws')/\PySem.Paired (PrAt H8) W' ws'/\KAt H8 (fill m xx) (.ref pa)/\KAt H8 (fill m yy) vq)
    ⟨x5,kvs,rfl,smH7,hlk7,hd7,rfl,?_,hw7,pw7,kp7,kq7⟩ (fun i σ H8 _ z=>?_) (fun i x0 σ H8 hx0 z=>?_) (fun σ H8 z=>?_)
   ·have:upM m ks 0 g (fill m yy)=m:=by funext k;unfold upM;simp
    rw [this];exact dk7
   ·obtain ⟨_,_,_,_,z,_⟩:=z
    exact SqL.of z
   ·obtain ⟨x5',kv',rfl,sm8,hlk8,hd8,ek8,dk8,hw8,pw8,kp8,kq8⟩:=z
    rw [List.getElem?_map] at hx0
    cases ek:ks[i]? with
    | none=>rw [ek] at hx0;cases hx0
    | some k =>
     rw [ek] at hx0
     cases hx0
     have hkm:=List.mem_of_getElem? ek
     obtain ⟨tk,htk⟩:=(key_in dk eks k).mp hkm
     have hil:=(List.getElem?_eq_some_iff.mp ek).1
     have hnk:k∉ks.take i:=fun z=>by
      have nd:=ndk
      rw [<- List.take_append_drop (i+1) ks,List.take_add_one,ek] at nd
      have nd1:=(List.nodup_append.mp nd).1
      exact (List.nodup_append.mp nd1).2.2 k z k (by simp) rfl
     have hup:upM m ks i g (fill m yy) k=some tk:=by unfold upM;rw [if_neg hnk];exact htk
     rcases dk8 k with ⟨_,z2⟩ | ⟨vk,t2,z1,z2,z3⟩
     ·rw [hup] at z2;cases z2
     rw [hup] at z2
     cases z2
     have hkl8:kv'.length=kvs.length:=by
      have:=congrArg List.length ek8
      simpa using this
     refine ⟨_,rfl,_,rfl,dt,vk,rfl,.inl ⟨kv',Sum.inl k,.inl hd8,rfl,z1.symm⟩,fun pd hpd=>?_⟩
     have smp:Same H8 (upd H8 pd (.dK [])):=Same.new hpd
     obtain ⟨pa2,us2,epa2,hpa2,_,hgg2,_⟩:=(KAt.mono (TSub.of_same smp) kp8).look
     cases epa2
     obtain rfl:=hgg2 g hg
     refine ⟨_,rfl,pa,_,_,_,rfl,rfl,SqT.of hpa2,atI_nat (j:=1) rfl,_,rfl,upd_same,[(Sum.inl g,vq)],rfl,by simp,?_⟩
     have eup:upd (upd H8 pd (.dK [])) pd (.dK (mergeK [] [((Sum.inl g:Key),vq)]))=upd H8 pd (.dK [((Sum.inl g:Key),vq)]):=by
      funext b
      by_cases zb:b=pd
      ·rw [zb,upd_same,upd_same];rfl
      ·rw [upd_ne zb,upd_ne zb,upd_ne zb]
     rw [eup]
     have smq:Same H8 (upd H8 pd (.dK [((Sum.inl g:Key),vq)])):=Same.new hpd
     have sub8:=TSub.of_same smq
     refine ⟨tk,vk,pd,_,oneM g (fill m yy),rfl,KAt.mono sub8 z3,dtl k tk htk,upd_same,DictK.put (kvs:=[]) DictK.nil (KAt.mono sub8 kq8),fun r9 H9 sm9 kr9=>?_⟩
     have sm89:=Same.trans smq sm9
     have hd9:=sm89 _ _ hd8
     refine ⟨_,rfl,_,rfl,dt,_,rfl,DPut.k (k:=Sum.inl k) hd9 (by omega),?_⟩
     have sub9:TSub H9 (upd H9 dt (.dK (putK kv' (Sum.inl k:Key) r9))):=TSub.put fun xs z=>by rw [hd9] at z;cases z
     have sub89:=TSub.trans (TSub.of_same sm89) sub9
     have eold:(valV kv' (Sum.inl k:Key))=some vk:=z1
     refine ⟨_,putK kv' (Sum.inl k:Key) r9,rfl,Same.put (Same.trans sm8 sm89) hdt,by rw [upd_ne (Ne.symm ndk')];exact sm89 _ _ hlk8,upd_same,by rw [putK_old eold];exact ek8,?_,by rw [upd_ne (Ne.symm ndl)];exact sm89 _ _ hw8,Paired.mapP pw8 fun _ _ z=>z.mono sub89,KAt.mono sub89 kp8,KAt.mono sub89 kq8⟩
     have eup2:upM m ks (i+1) g (fill m yy)=fun j=>if j=k then some (fill (oneM g (fill m yy)) tk) else upM m ks i g (fill m yy) j:=by
      funext j
      unfold upM
      rw [List.take_add_one,ek]
      by_cases zj:j=k
      ·rw [if_pos zj,zj,if_pos (by simp),htk];rfl
      ·rw [if_neg zj]
       by_cases zm:j∈ks.take i
       ·rw [if_pos zm,if_pos (by simp [zm])]
       ·rw [if_neg zm,if_neg (by simp [zm,zj])]
     rw [eup2]
     exact DictK.put (DictK.mono sub89 dk8) (KAt.mono sub9 kr9)
   ·obtain ⟨x5',kv',rfl,sm8,hlk8,hd8,ek8,dk8,hw8,pw8,kp8,kq8⟩:=z
    rw [List.length_map] at dk8
    have eup3:upM m ks ks.length g (fill m yy)=fun k=>(m k).map (fill (oneM g (fill m yy))):=by
     funext k
     unfold upM
     rw [List.take_length]
     by_cases zk:k∈ks
     ·rw [if_pos zk]
     ·rw [if_neg zk]
      cases ek:m k with
      | none=>rfl
      | some tk=>exact absurd ((key_in dk eks k).mpr ⟨tk,ek⟩) zk
    rw [eup3] at dk8
    have hkl8:kv'.length=kvs.length:=by
     have:=congrArg List.length ek8
     simpa using this
    obtain ⟨pa2,us2,epa2,hpa2,_,hgg2,_⟩:=kp8.look
    cases epa2
    obtain rfl:=hgg2 g hg
    refine ⟨_,rfl,_,rfl,_,rfl,pa,_,_,_,rfl,rfl,SqT.of hpa2,atI_nat (j:=1) rfl,dt,_,rfl,DPut.k (k:=Sum.inl g) hd8 (by omega),?_⟩
    have sub9:TSub H8 (upd H8 dt (.dK (putK kv' (Sum.inl g:Key) vq))):=TSub.put fun xs z=>by rw [hd8] at z;cases z
    have hnew:valV kv' (Sum.inl g:Key)=none:=by
     rcases dk8 g with ⟨z,_⟩ | ⟨_,_,_,z2,_⟩
     ·exact z
     ·have z2:(m g).map _=some _:=z2
      rw [mgN] at z2;cases z2
    have hun:=untold_bind (t:=fill m yy) mgN (List.mem_append.mpr gin)
    have hsum:=sv_sum SB da db
    have ik8:IntK kv':=⟨by rw [ek8];exact ik.1,fun p hp=>by
     have:p.1∈kvs.map (·.1):=by rw [<- ek8];exact List.mem_map_of_mem hp
     obtain ⟨p',hp',e'⟩:=List.mem_map.mp this
     obtain ⟨j,ej⟩:=ik.2 p' hp'
     exact ⟨j,by rw [<- e',ej]⟩⟩
    refine ⟨untold (bind1 m g (fill m yy)) (gp a++gp b) * 2000000+szW (bind1 m g (fill m yy)) W',by omega,bind1 m g (fill m yy),W',_,_,_,putK kv' (Sum.inl g:Key) vq,ws',lw,rfl,rfl,SB,Same.put sm8 hdt,upd_same,?_,ik8.put0,?_,hlw0,ndl,by rw [upd_ne (Ne.symm ndl)];exact hw8,Paired.mapP pw8 fun _ _ z=>z.mono sub9⟩
    ·exact DictK.put (DictK.mono sub9 dk8) (KAt.mono sub9 kq8)
    ·rw [putK_new _ hnew,List.length_append]
     simp only [List.length_cons,List.length_nil]
     omega
  | false =>
   refine iteF ?_
   have eg2:=gpq eg
   obtain ⟨qa,us2,eqa,hqa,hqq,_,hul2⟩:=kq.look
   subst eqa
   refine ⟨_,rfl,pa,_,_,_,rfl,rfl,SqT.of hpa,atI_nat (j:=0) rfl,_,rfl,qa,_,_,_,rfl,rfl,SqT.of hqa,atI_nat (j:=0) rfl,rfl,_,rfl,?_⟩
   by_cases ht:tag (fill m xx)=tag (fill m yy)
   ·have ew:word (fill m xx)=word (fill m yy):=by rw [word_eq,word_eq,ht]
    refine iteN (by simp [ew]) ?_
    have kus:=hpp eg
    have kus2:=hqq eg2
    have lu:us.length=(parts (fill m xx)).length:=(Paired.length kus).symm
    have lu2:us2.length=(parts (fill m yy)).length:=(Paired.length kus2).symm
    have lpp:(parts (fill m xx)).length=(parts (fill m yy)).length:=by rw [<- tag_len,<- tag_len,ht]
    refine ⟨_,rfl,_,rfl,_,rfl,pa,_,rfl,SqT.of hpa,?_,fun p1 hp1=>?_⟩
    ·intro z
     have:=z.1
     simp [HT.sIx] at this
    rw [cut1]
    have sma:Same H5 (upd H5 p1 (.tup us)):=Same.new hp1
    have hqa2:=sma _ _ hqa
    have hp12:(upd H5 p1 (.tup us)) p1=some (.tup us):=upd_same
    have hwa:=sma _ _ hw5
    generalize upd H5 p1 (.tup us)=H6 at sma hqa2 hp12 hwa ⊢
    refine ⟨_,rfl,_,rfl,qa,_,rfl,SqT.of hqa2,?_,fun p2 hp2=>?_⟩
    ·intro z
     have:=z.1
     simp [HT.sIx] at this
    rw [cut1]
    have smb:Same H6 (upd H6 p2 (.tup us2)):=Same.new hp2
    have hp13:=smb _ _ hp12
    have hp22:(upd H6 p2 (.tup us2)) p2=some (.tup us2):=upd_same
    have hwb:=smb _ _ hwa
    have smab:=Same.trans sma smb
    generalize upd H6 p2 (.tup us2)=H7 at smb hp13 hp22 hwb smab ⊢
    refine ⟨p1,p2,us,us2,rfl,.inr ⟨hp13,hp22⟩,by omega,by omega,fun l ts H8 hl0 sm8 hl8 lts hts=>?_⟩
    have sm58:=Same.trans smab sm8
    have hw8:=sm8 _ _ hwb
    refine ⟨lw,l,ws',ts.map V.ref,rfl,rfl,hw8,hl8,by rw [List.length_map];omega,fun lw2 hlw2=>?_⟩
    have sm9:Same H8 (upd H8 lw2 (.lst (ws'++ts.map V.ref))):=Same.new hlw2
    have sm59:=Same.trans sm58 sm9
    have smH8:Same H H8:=Same.trans smH5 sm58
    have S6:=sv_struct S5 eg eg2 ht
    have hz:=szW_zip S5 ht
    have hp0:=(szW_pos m W' xx yy).2
    have sub59:=TSub.of_same sm59
    refine ⟨untold m (gp a++gp b) * 2000000+szW m (W'++(parts (fill m xx)).zip (parts (fill m yy))),?_,m,_,_,_,x5,kvs,ws'++ts.map V.ref,lw2,rfl,rfl,S6,Same.trans smH5 sm59,sm59 _ _ hd5,DictK.mono sub59 dk5,ik,hkl,smH8.free hlw2,ne_of_none (sm58 _ _ hd5) hlw2,upd_same,?_⟩
    ·rw [szW_app]
     omega
    ·refine Paired.app (Paired.mapP pw5 fun _ _ z=>z.mono sub59) (prat_zip (KAts.mono sub59 kus) (KAts.mono sub59 kus2) lts (by omega) fun j t' e'=>?_)
     obtain ⟨x1,y1,e1,e2,e3⟩:=hts j t' e'
     exact ⟨x1,y1,e1,e2,sm9 _ _ e3⟩
   ·have ew:word (fill m xx)≠word (fill m yy):=fun z=>ht (tag_of_word z)
    refine iteP (by simp [ew]) ?_
    exact q2 (fun T=>sv_differ S5 eg eg2 ht T) H5 smH5
end
end K
namespace K
open PySem L2 KM KS
section
variable {Pr:Program}{w:World}{K:PySem.W.Frag}{mg:Str->Option Value}{base:Heap}
abbrev nLaw:List Str:=["_law_script","_law_one","_law_other","_law_found","_law_due","_law_same"]
theorem scLaw:FnScope nLaw ["_law_script"] (defScope sLaw):=⟨rfl,rfl,rfl,by decide +kernel,rfl,by decide +kernel,by decide +kernel⟩
theorem sz15 {t:Kd}{n:Nat}(h:dp t<=n):sz t < 2 ^ (n+1):=Nat.lt_of_lt_of_le (sz_dp t) (Nat.pow_le_pow_right (by decide) (by omega))
theorem fill_T {m:Int->Option Kd}(t:Kd):fillT (fun k=>(m k).getD (.gap k)) t=fill m t:=fill_congr t fun k _=>rfl
theorem ok_law {f fM fK fF fS fT fJ fW Pt:Addr}{fd fdM fdK fdF fdS fdT fdJ fdW:FuncData}{Tb:Hp->Prop}(TbS:∀ H H',Same H H'->Tb H->Tb H')(Tb0:∀ H,H Pt=some (.tbl #[])->Tb H)(TbP:∀ H,Tb H->∃ ps,H Pt=some (.tbl ps))
  (F:Fun K "law" "law" sLaw f fd) (mD:mg "dict"=none) (mI:mg "isinstance"=none)
  (GM:FnOk Pr w K mg base CX0 2 fM fdM ["_law_script","_law_k"] (spMix K)) (kM:PySem.W.keepIn K (.ref fM)=true) (bM:Binds K fdM ["_law_script","_law_k"] []) (mM:mg "_law_mix"=some (.ref fM))
  (GK:∀ n,FnOk Pr w K mg base CX0 (n+3) fK fdK ["_law_script","_law_k","_law_deep"] (spKind K n)) (kK:PySem.W.keepIn K (.ref fK)=true) (bK:Binds K fdK ["_law_script","_law_k","_law_deep"] []) (mK:mg "_law_kind"=some (.ref fK))
  (GF:∀ n,FnOk Pr w K mg base CX0 (n+2) fF fdF ["_law_kind_here","_law_told_here"] (spFillL n)) (kF:PySem.W.keepIn K (.ref fF)=true) (bF:Binds K fdF ["_law_kind_here","_law_told_here"] []) (mF:mg "_law_filled"=some (.ref fF))
  (GS:FnOk Pr w K mg base CX0 17 fS fdS ["_law_pairs_here"] spSolve) (kS:PySem.W.keepIn K (.ref fS)=true) (bS:Binds K fdS ["_law_pairs_here"] []) (mS:mg "_law_solve"=some (.ref fS))
  (GT:FnOk Pr w K mg base CX0 9 fT fdT ["_law_one","_law_other"] (spTold Pt Tb)) (kT:PySem.W.keepIn K (.ref fT)=true) (bT:Binds K fdT ["_law_one","_law_other"] []) (mT:mg "_law_told"=some (.ref fT))
  (GJ:∀ n,FnOk Pr w K mg base CX0 (n+3) fJ fdJ ["_law_found","_law_one","_law_other"] (spJoins n)) (kJ:PySem.W.keepIn K (.ref fJ)=true) (bJ:Binds K fdJ ["_law_found","_law_one","_law_other"] []) (mJ:mg "_law_joins"=some (.ref fJ))
  (GW:∀ n,FnOk Pr w K mg base CX0 (n+3) fW fdW ["_law_wide","_law_kind_here"] (spWider n)) (kW:PySem.W.keepIn K (.ref fW)=true) (bW:Binds K fdW ["_law_wide","_law_kind_here"] []) (mW:mg "_law_wider"=some (.ref fW)) :
  FnOk Pr w K mg base CX0 18 f fd ["_law_script"] (spTop K 63 [Pt]):=by
 refine F.okS scLaw (fun vs H Q E h=>?_) (fun cdv A outer s H vs Q E hr h=>?_)
 ·obtain ⟨a,ns,rfl,_⟩:=h
  rfl
 ·obtain ⟨a,ns,rfl,hs,hlen,htb,q⟩:=h
  have hb:=line_big
  have hu:=hu_of hr
  have tab0:Tb H:=Tb0 _ (htb Pt (List.mem_singleton.mpr rfl))
  have hr16:Room 16 _:=hr.mono (by omega)
  have hr9:Room 9 _:=hr.mono (by omega)
  have hr6:Room 6 _:=hr.mono (by omega)
  have hr2:Room 2 _:=hr.mono (by omega)
  refine ⟨_,b_cons (s_set (i:=1) scLaw.nd rfl (Or.inl rfl) (e_call (GK 3) hr6 rfl mK kK bK (a_cons (e_v 0) (a_cons e_int (a_cons e_int a_nil)))))
   (b_cons (s_set (i:=2) scLaw.nd rfl (Or.inl rfl) (e_call (GK 3) hr6 rfl mK kK bK (a_cons (e_v 0) (a_cons (e_op op_add e_int (e_op op_mod (e_call GM hr2 rfl mM kM bM (a_cons (e_v 0) (a_cons e_int a_nil))) e_int)) (a_cons e_int a_nil)))))
   (b_cons (s_set (i:=3) scLaw.nd rfl (Or.inl rfl) (e_call GT hr9 rfl mT kT bT (a_cons (e_v 1) (a_cons (e_v 2) a_nil))))
   (b_cons (s_set (i:=4) scLaw.nd rfl (Or.inl rfl) (e_call GS hr rfl mS kS bS (a_cons (e_lst (a_cons (e_tup (a_cons (e_v 1) (a_cons (e_v 2) a_nil))) a_nil)) a_nil)))
   (b_cons (s_if (t_cmp op_isN (e_v 4) e_non rfl) (b_one (s_ret (e_and (e_cmp op_eq (e_v 3) e_str (nomark _)) (e_one (e_cmp op_eq (e_call GT hr9 rfl mT kT bT (a_cons (e_v 2) (a_cons (e_v 1) a_nil))) e_str (nomark _)))))) b_nil)
   (b_cons (s_if (t_w (w_or (t_not (t_val (e_callB call_isT rfl mI PyProof.Rows.boot_isinstance (a_cons (e_v 3) (a_cons (e_bltn (v:=.ty "dict") rfl mD PyProof.Rows.boot_dict rfl) a_nil)))))
    (w_or1 (t_not (t_val (e_call (GJ 14) hr rfl mJ kJ bJ (a_cons (e_v 3) (a_cons (e_v 1) (a_cons (e_v 2) a_nil))))))))) (b_one (s_ret e_bl)) b_nil)
   (b_cons (s_set (i:=5) scLaw.nd rfl (Or.inl rfl) (e_call (GF 14) hr16 rfl mF kF bF (a_cons (e_v 1) (a_cons (e_v 4) a_nil))))
   (b_one (s_ret (e_and (e_call (GW 14) hr rfl mW kW bW (a_cons (e_call (GF 14) hr16 rfl mF kF bF (a_cons (e_v 1) (a_cons (e_v 3) a_nil))) (a_cons (e_v 5) a_nil))) (e_one (e_call (GW 14) hr rfl mW kW bW (a_cons (e_v 5) (a_cons (e_call (GF 14) hr16 rfl mF kF bF (a_cons (e_v 1) (a_cons (e_v 3) a_nil))) a_nil))))))))))))),?_⟩
  refine ⟨_,rfl,a,ns,_,rfl,hs,fun t1 r1 H1 sm1 dp1 g1 ka1=>?_⟩
  refine ⟨_,rfl,_,rfl,a,ns,_,rfl,sm1.seq hs,fun n1 hn1=>⟨_,_,rfl,rfl,(by show (0:Int) < 20;decide),_,_,rfl,rfl,a,ns,_,rfl,sm1.seq hs,fun t2 r2 H2 sm2 dp2 g2 ka2=>?_⟩⟩
  have smH2:=Same.trans sm1 sm2
  have ka1':KAt H2 t1 r1:=KAt.mono (TSub.of_same sm2) ka1
  have tab2:Tb H2:=TbS _ _ smH2 tab0
  have s1:=sz15 dp1
  have s2:=sz15 dp2
  have o1:=okG_ok g1
  have o2:=okG_ok g2
  obtain ⟨ps2,hPt2⟩:=TbP _ tab2
  refine ⟨_,rfl,_,rfl,t1,t2,r1,r2,rfl,ka1',ka2,by omega,by omega,tab2,fun d kvs mj H3 sx3 tb3 hd0 hd3 dk3 ik3 hl3 jn=>?_,fun no H3 sx3 tb3=>?_⟩
  ·have sub3:TSub H2 H3:=SameX.sub sx3 hPt2
   have k13:=KAt.mono sub3 ka1'
   have k23:=KAt.mono sub3 ka2
   refine ⟨_,rfl,_,rfl,by show 2<=sizeLine;omega,fun tp htp=>⟨by show 1<=sizeLine;omega,fun lp hlp=>?_⟩⟩
   have smt:Same H3 (upd H3 tp (.tup [r1,r2])):=Same.new htp
   have sml:Same (upd H3 tp (.tup [r1,r2])) (upd (upd H3 tp (.tup [r1,r2])) lp (.lst [.ref tp])):=Same.new hlp
   have sm34:=Same.trans smt sml
   have hlp4:(upd (upd H3 tp (.tup [r1,r2])) lp (.lst [.ref tp])) lp=some (.lst [.ref tp]):=upd_same
   have htp4:=sml _ _ (show (upd H3 tp (.tup [r1,r2])) tp=some (.tup [r1,r2]) from upd_same)
   generalize upd (upd H3 tp (.tup [r1,r2])) lp (.lst [.ref tp])=H4 at sml sm34 hlp4 htp4 ⊢
   have k14:=KAt.mono (TSub.of_same sm34) k13
   have k24:=KAt.mono (TSub.of_same sm34) k23
   have uni:fillT (fun k=>(mj k).getD (.gap k)) t1=fillT (fun k=>(mj k).getD (.gap k)) t2:=by rw [fill_T,fill_T];exact jn.same
   refine ⟨t1,t2,r1,r2,lp,tp,rfl,hlp4,htp4,k14,k24,dp1,dp2,fun ds kvs5 m H5 sm5 hds0 hds dk5 SV=>?_,fun no=>absurd uni (no _)⟩
   obtain ⟨same,wide⟩:=sv_end SV
   have sm35:=Same.trans sm34 sm5
   have hd5:=sm35 _ _ hd3
   have dkj5:=DictK.mono (TSub.of_same sm35) dk3
   have k15:=KAt.mono (TSub.of_same sm5) k14
   have k25:=KAt.mono (TSub.of_same sm5) k24
   have dpm:dp (fill m t1)<=14:=org_dp SV.org dp1 dp2 (List.mem_append_left _ (subs_self t1))
   have uniM:fillT (fun k=>(m k).getD (.gap k)) t1=fillT (fun k=>(m k).getD (.gap k)) t2:=by rw [fill_T,fill_T];exact same
   have w1:fillT (fun k=>(m k).getD (.gap k)) (fill mj t1)=fill m t1:=by rw [jn.wide _ uniM,fill_T]
   have w2:fillT (fun k=>(mj k).getD (.gap k)) (fill m t1)=fill mj t1:=by rw [wide _ uni,fill_T]
   have dpj:dp (fill mj t1)<=14:=by
    have:=dp_fill_ge (T:=fun k=>(m k).getD (.gap k)) (fill mj t1)
    rw [w1] at this
    omega
   have szm:=sz15 dpm
   have szj:=sz15 dpj
   have each:∀ k t,mj k=some t->ok t=true/\dp t<=14/\sz t<=100000:=fun k t e=>by
    have ef:fill mj (.gap k)=t:=by show (mj k).getD _=t;rw [e];rfl
    have dt:dp t<=14:=by
     rcases jn.keys k t e with z | z
     ·have:=dp_fill_gap (m:=mj) t1 k z
      rw [ef] at this
      omega
     ·have:=dp_fill_gap (m:=mj) t2 k z
      rw [ef,<- jn.same] at this
      omega
    have szt:=sz15 dt
    refine ⟨ok_gp t fun j hj=>?_,dt,by omega⟩
    rcases jn.inn k t e j hj with z | z
    ·exact gp_ok t1 o1 j z
    ·exact gp_ok t2 o2 j z
   refine ⟨_,rfl,rfl,_,rfl,iteN (by simp) ?_⟩
   refine ⟨_,rfl,_,_,_,true,rfl,TyOf.dK hd5,rfl,_,rfl,iteF ?_⟩
   refine ⟨_,rfl,_,rfl,_,rfl,t1,t2,r1,r2,d,kvs,mj,rfl,hd5,dkj5,ik3,hl3,k15,k25,jn,each,by omega,by omega,by omega,by omega,by omega,fun H6 sm6=>⟨_,rfl,iteF ?_⟩⟩
   have hds6:=sm6 _ _ hds
   have hd6:=sm6 _ _ hd5
   refine ⟨_,rfl,_,rfl,t1,r1,ds,kvs5,m,rfl,KAt.mono (TSub.of_same sm6) k15,by omega,hds6,DictK.mono (TSub.of_same sm6) dk5,fun r7 H7 sm7 k7=>?_⟩
   have sm57:=Same.trans sm6 sm7
   refine ⟨_,rfl,_,rfl,t1,r1,d,kvs,mj,rfl,KAt.mono (TSub.of_same sm57) k15,by omega,sm57 _ _ hd5,DictK.mono (TSub.of_same sm57) dkj5,fun r8 H8 sm8 k8=>?_⟩
   refine ⟨_,rfl,fill mj t1,fill m t1,r8,r7,rfl,k8,KAt.mono (TSub.of_same sm8) k7,dpj,by omega,by omega,fun H9 sm9=>?_⟩
   rw [(wd_iff _ _).mpr ⟨_,w1⟩]
   refine ⟨_,rfl,iteT ?_⟩
   have sm59:=Same.trans sm57 (Same.trans sm8 sm9)
   refine ⟨_,rfl,_,rfl,_,rfl,t1,r1,d,kvs,mj,rfl,KAt.mono (TSub.of_same sm59) k15,by omega,sm59 _ _ hd5,DictK.mono (TSub.of_same sm59) dkj5,fun r10 H10 sm10 k10=>?_⟩
   refine ⟨fill m t1,fill mj t1,r7,r10,rfl,KAt.mono (TSub.of_same (Same.trans (Same.trans sm8 sm9) sm10)) k7,k10,dpm,by omega,by omega,fun H11 _=>?_⟩
   rw [(wd_iff _ _).mpr ⟨_,w2⟩]
   exact q H11
  ·have sub3:TSub H2 H3:=SameX.sub sx3 hPt2
   have k13:=KAt.mono sub3 ka1'
   have k23:=KAt.mono sub3 ka2
   refine ⟨_,rfl,_,rfl,by show 2<=sizeLine;omega,fun tp htp=>⟨by show 1<=sizeLine;omega,fun lp hlp=>?_⟩⟩
   have smt:Same H3 (upd H3 tp (.tup [r1,r2])):=Same.new htp
   have sml:Same (upd H3 tp (.tup [r1,r2])) (upd (upd H3 tp (.tup [r1,r2])) lp (.lst [.ref tp])):=Same.new hlp
   have sm34:=Same.trans smt sml
   have hlp4:(upd (upd H3 tp (.tup [r1,r2])) lp (.lst [.ref tp])) lp=some (.lst [.ref tp]):=upd_same
   have htp4:=sml _ _ (show (upd H3 tp (.tup [r1,r2])) tp=some (.tup [r1,r2]) from upd_same)
   generalize upd (upd H3 tp (.tup [r1,r2])) lp (.lst [.ref tp])=H4 at sml sm34 hlp4 htp4 ⊢
   have k14:=KAt.mono (TSub.of_same sm34) k13
   have k24:=KAt.mono (TSub.of_same sm34) k23
   refine ⟨t1,t2,r1,r2,lp,tp,rfl,hlp4,htp4,k14,k24,dp1,dp2,fun ds kvs5 m H5 sm5 hds0 hds dk5 SV=>?_,fun _ H5 sm5=>?_⟩
   ·exact absurd (by rw [fill_T,fill_T];exact (sv_end SV).1) (no fun k=>(m k).getD (.gap k))
   have sm35:=Same.trans sm34 sm5
   have tb5:Tb H5:=TbS _ _ sm35 tb3
   have k15:=KAt.mono (TSub.of_same sm5) k14
   have k25:=KAt.mono (TSub.of_same sm5) k24
   refine ⟨_,rfl,rfl,_,rfl,iteP (by simp) ?_⟩
   refine ⟨_,rfl,rfl,_,rfl,iteP (by simp) ?_⟩
   refine ⟨_,rfl,_,rfl,t2,t1,r2,r1,rfl,k25,k15,by omega,by omega,tb5,fun d kvs mj H6 _ _ _ _ _ _ _ jn=>?_,fun _ H6 _ _=>?_⟩
   ·exact absurd (by rw [fill_T,fill_T];exact jn.same.symm) (no fun k=>(mj k).getD (.gap k))
   ·refine ⟨rfl,?_⟩
    exact q H6
end
end K
namespace K
open PySem L2 KM KS
structure NA where
 p:Addr
 dx:Addr
 s:Addr
 i:Addr
 l:Addr
 g:Addr
 v:Addr
def nflds (N:NA):List (Str × V):=putF "gaps" (.ref N.g) (putF "level" (.int 0) (putF "levels" (.ref N.v) (putF "leaders" (.ref N.l) (putF "inner" (.ref N.i) (putF "sorts" (.ref N.s) [])))))
theorem nf_s (N:NA):(nflds N).lookup ("sorts":Str)=some (.ref N.s):=by
 unfold nflds
 rw [lookup_putF,if_neg (by decide +kernel),lookup_putF,if_neg (by decide +kernel),lookup_putF,if_neg (by decide +kernel),lookup_putF,if_neg (by decide +kernel),lookup_putF,if_neg (by decide +kernel),lookup_putF,if_pos rfl]
theorem nf_i (N:NA):(nflds N).lookup ("inner":Str)=some (.ref N.i):=by
 unfold nflds
 rw [lookup_putF,if_neg (by decide +kernel),lookup_putF,if_neg (by decide +kernel),lookup_putF,if_neg (by decide +kernel),lookup_putF,if_neg (by decide +kernel),lookup_putF,if_pos rfl]
theorem nf_l (N:NA):(nflds N).lookup ("leaders":Str)=some (.ref N.l):=by
 unfold nflds
 rw [lookup_putF,if_neg (by decide +kernel),lookup_putF,if_neg (by decide +kernel),lookup_putF,if_neg (by decide +kernel),lookup_putF,if_pos rfl]
theorem nf_v (N:NA):(nflds N).lookup ("levels":Str)=some (.ref N.v):=by
 unfold nflds
 rw [lookup_putF,if_neg (by decide +kernel),lookup_putF,if_neg (by decide +kernel),lookup_putF,if_pos rfl]
theorem nf_k (N:NA):(nflds N).lookup ("level":Str)=some (.int 0):=by
 unfold nflds
 rw [lookup_putF,if_neg (by decide +kernel),lookup_putF,if_pos rfl]
theorem nf_g (N:NA):(nflds N).lookup ("gaps":Str)=some (.ref N.g):=by
 unfold nflds
 rw [lookup_putF,if_pos rfl]
theorem nf_no (N:NA){m:Str}(h:∀ x∈(["gaps","level","levels","leaders","inner","sorts"]:List Str),¬ m=x):(nflds N).lookup m=none:=by
 unfold nflds
 rw [lookup_putF,if_neg (h _ (by simp)),lookup_putF,if_neg (h _ (by simp)),lookup_putF,if_neg (h _ (by simp)),lookup_putF,if_neg (h _ (by simp)),lookup_putF,if_neg (h _ (by simp)),lookup_putF,if_neg (h _ (by simp))]
 rfl
def lsZ (n:Nat):List V:=List.replicate n (.int 0)
theorem lsZ_add {n:Nat}:lsZ (n+1)=lsZ n++[.int 0]:=List.replicate_succ'
theorem lsZ_at {n j:Nat}(h:j < n):(lsZ n)[j]?=some (.int 0):=by simp [lsZ,h]
theorem lsZ_len {n:Nat}:(lsZ n).length=n:=by simp [lsZ]
def lsS (G:Gr):List V:=(List.range G.n).map fun j=>V.str (wordN (G.tg j))
def lsL (n:Nat)(par:Nat->Nat):List V:=(List.range n).map fun j=>V.int ((par j:Nat):Int)
def lsC (cs:List Nat):List V:=cs.map fun c=>V.int ((c:Nat):Int)
def dG (gs:List (Int × Nat)):List (Key × V):=gs.map fun q=>(Sum.inl q.1,V.int ((q.2:Nat):Int))
theorem lsS_at {G:Gr}{j:Nat}(h:j < G.n):(lsS G)[j]?=some (V.str (wordN (G.tg j))):=by simp [lsS,h]
theorem lsL_at {n:Nat}{par:Nat->Nat}{j:Nat}(h:j < n):(lsL n par)[j]?=some (V.int ((par j:Nat):Int)):=by simp [lsL,h]
theorem lsL_len {n:Nat}{par:Nat->Nat}:(lsL n par).length=n:=by simp [lsL]
theorem lsL_set {n:Nat}{par:Nat->Nat}{j x:Nat}:(lsL n par).set j (V.int ((x:Nat):Int))=lsL n (updP par j x):=by
 refine List.ext_getElem? fun i=>?_
 unfold lsL
 by_cases hi:i < n
 ·by_cases e:j=i
  ·subst e
   rw [List.getElem?_set_self (by simp [hi])]
   simp [hi,updP]
  ·rw [List.getElem?_set_ne e]
   simp [hi,updP,Ne.symm e]
 ·rw [List.getElem?_eq_none (by simp;omega),List.getElem?_eq_none (by simp;omega)]
theorem lsS_add {G:Gr}{tg:Nat}{ch:List Nat}{gn:Int}:lsS (addN G tg ch gn)=lsS G++[V.str (wordN tg)]:=by
 unfold lsS
 show (List.range (G.n+1)).map (fun j=>V.str (wordN (if j=G.n then tg else G.tg j)))=_
 rw [List.range_succ,List.map_append]
 congr 1
 ·refine List.map_congr_left fun j hj=>?_
  rw [if_neg (Nat.ne_of_lt (List.mem_range.mp hj))]
 ·simp
theorem lsL_add {n:Nat}:lsL (n+1) id=lsL n id++[V.int ((n:Nat):Int)]:=by
 unfold lsL
 rw [List.range_succ,List.map_append]
 rfl
structure NodesAt (C:Addr)(N:NA)(H:Hp)(G:Gr)(par:Nat->Nat)(ls:List Addr):Prop where
 ins:H N.p=some (.ins C N.dx (nflds N))
 sorts:H N.s=some (.lst (lsS G))
 inner:H N.i=some (.lst (ls.map V.ref))
 leaders:H N.l=some (.lst (lsL G.n par))
 gaps:Rd H N.g (.dK (dG G.gs))
 len:ls.length=G.n
 chs:∀ j l,ls[j]?=some l->H l=some (.lst (lsC (G.ch j)))
 away:∀ l∈ls,l≠N.s/\l≠N.i/\l≠N.l/\l≠N.v
 si:N.s≠N.i
 sl:N.s≠N.l
 il:N.i≠N.l
 levels:H N.v=some (.lst (lsZ G.n))
 vn:N.v≠N.s/\N.v≠N.i/\N.v≠N.l
section
variable {C:Addr}{N:NA}{H H':Hp}{G:Gr}{par par':Nat->Nat}{ls:List Addr}
theorem Rd.keep {a:Addr}{u:HO}(r:Rd H a u)(h:∀ o,H a=some o->H' a=some o):Rd H' a u:=by
 rcases r with z | ⟨o,z⟩
 ·exact .inl (h _ z)
 ·exact .inr ⟨o,h _ z⟩
theorem Rd.ne {a b:Addr}{u:HO}{o:HO}(r:Rd H a u)(h:H b=some o)(d1:o≠u)(d2:∀ x,o≠.frz x u):a≠b:=fun z=>by
 subst z
 rcases r with y | ⟨x,y⟩
 ·rw [y] at h;exact d1 (Option.some.inj h).symm
 ·rw [y] at h;exact d2 x (Option.some.inj h).symm
def NodesAt.on (N:NA)(ls:List Addr)(b:Addr):Prop:=b=N.p\/b=N.s\/b=N.i\/b=N.l\/b=N.g\/b∈ls\/b=N.v
theorem NodesAt.same (A:NodesAt C N H G par ls)(h:∀ b o,NodesAt.on N ls b->H b=some o->H' b=some o):NodesAt C N H' G par ls :=
 ⟨h _ _ (.inl rfl) A.ins,h _ _ (.inr (.inl rfl)) A.sorts,h _ _ (.inr (.inr (.inl rfl))) A.inner,h _ _ (.inr (.inr (.inr (.inl rfl)))) A.leaders,Rd.keep A.gaps fun o z=>h _ _ (.inr (.inr (.inr (.inr (.inl rfl))))) z,A.len,
  fun j l e=>h _ _ (.inr (.inr (.inr (.inr (.inr (.inl (List.mem_of_getElem? e))))))) (A.chs j l e),A.away,A.si,A.sl,A.il,h _ _ (.inr (.inr (.inr (.inr (.inr (.inr rfl)))))) A.levels,A.vn⟩
theorem NodesAt.off (A:NodesAt C N H G par ls){z:Addr}(hz:H z=none)(b:Addr)(hb:NodesAt.on N ls b):b≠z:=fun e=>by
 rcases hb with y | y | y | y | y | y | y
 ·have:=A.ins;rw [<- y,e,hz] at this;cases this
 ·have:=A.sorts;rw [<- y,e,hz] at this;cases this
 ·have:=A.inner;rw [<- y,e,hz] at this;cases this
 ·have:=A.leaders;rw [<- y,e,hz] at this;cases this
 ·rcases A.gaps with w | ⟨_,w⟩
  ·rw [<- y,e,hz] at w;cases w
  ·rw [<- y,e,hz] at w;cases w
 ·obtain ⟨k,hk,ek⟩:=List.mem_iff_getElem.mp y
  have:=A.chs k b (by rw [List.getElem?_eq_getElem hk,ek])
  rw [e,hz] at this;cases this
 ·have:=A.levels;rw [<- y,e,hz] at this;cases this
theorem NodesAt.lead (A:NodesAt C N H G par ls)(par':Nat->Nat):NodesAt C N (upd H N.l (.lst (lsL G.n par'))) G par' ls:=by
 have np:N.p≠N.l:=ne_of A.ins A.leaders (by intro z;cases z)
 have ng:N.g≠N.l:=Rd.ne A.gaps A.leaders (by intro z;cases z) (by intro _ z;cases z)
 refine ⟨by rw [upd_ne np];exact A.ins,by rw [upd_ne A.sl];exact A.sorts,by rw [upd_ne A.il];exact A.inner,upd_same,Rd.keep A.gaps fun o z=>by rw [upd_ne ng];exact z,A.len,fun j l e=>?_,A.away,A.si,A.sl,A.il,by rw [upd_ne A.vn.2.2];exact A.levels,A.vn⟩
 rw [upd_ne (A.away l (List.mem_of_getElem? e)).2.2.1]
 exact A.chs j l e
end
structure NTxt (K:PySem.W.Frag)(mg:Str->Option Value)(C:Addr):Prop where
 cl:Cls K C
 nS:NoAttr K C "sorts"
 nI:NoAttr K C "inner"
 nL:NoAttr K C "leaders"
 nV:NoAttr K C "levels"
 nK:NoAttr K C "level"
 nG:NoAttr K C "gaps"
 mgC:mg "Nodes"=some (.ref C)
 len:mg "len"=none
section
variable {Pr:Program}{w:World}{K:PySem.W.Frag}{mg:Str->Option Value}{base:Heap}
def spLeader (C:Addr):Sp:=fun vs H Q _=>∃ (N:NA) (G:Gr) (ls:List Addr) (par rp rk:Nat->Nat) (i:Nat),vs=[.ref N.p,.int ((i:Nat):Int)]/\NodesAt C N H G par ls/\UF G.n par rp rk/\i < G.n /\
 ∀ par' H',NodesAt C N H' G par' ls->UF G.n par' rp rk->(∀ b,b≠N.l->H' b=H b)->Q (.int ((rp i:Nat):Int)) H'
theorem scLeader:FnScope ["self","node"] ["self","node"] (defScope s_Nodes_leader):=⟨rfl,rfl,rfl,by decide +kernel,rfl,by decide +kernel,by decide +kernel⟩
theorem ok_leader {f C:Addr}{fd:FuncData}(F:Fun K "leader" "Nodes.leader" s_Nodes_leader f fd)(T:NTxt K mg C):FnOk Pr w K mg base CX0 1 f fd ["self","node"] (spLeader C):=by
 refine F.okS scLeader (fun vs H Q E h=>?_) (fun cdv A outer s H vs Q E hr h=>?_)
 ·obtain ⟨N,G,ls,par,rp,rk,i,rfl,_⟩:=h
  rfl
 ·obtain ⟨N,G,ls,par,rp,rk,i,rfl,A0,U0,hi,q⟩:=h
  refine ⟨_,b_cons (s_while PassesOwn.never (t_cmp op_ne (e_ix ix_list (e_fld (e_v 0)) (e_v 1) (fun _ _=>rfl)) (e_v 1) (nomark _))
    (b_cons (s_asg (e_ix ix_list (e_fld (e_v 0)) (e_ix ix_list (e_fld (e_v 0)) (e_v 1) (fun _ _=>rfl)) (fun _ _=>rfl)) (g_sub (e_fld (e_v 0)) (e_v 1) set_list))
    (b_one (s_set (i:=1) scLeader.nd rfl (Or.inl rfl) (e_ix ix_list (e_fld (e_v 0)) (e_v 1) (fun _ _=>rfl))))))
   (b_one (s_ret (e_v 1))),?_⟩
  refine ⟨fun m σ H2=>∃ j par',σ=[some (.ref N.p),some (.int ((j:Nat):Int))]/\m=rk j/\j < G.n/\rp j=rp i/\NodesAt C N H2 G par' ls/\UF G.n par' rp rk/\∀ b,b≠N.l->H2 b=H b,⟨_,i,par,rfl,rfl,hi,rfl,A0,U0,fun _ _=>rfl⟩,?_⟩
  rintro m σ H2 ⟨j,par',rfl,rfl,hj,ej,A1,U1,fr⟩
  refine ⟨_,rfl,N.p,C,N.dx,_,_,rfl,A1.ins,T.cl,T.nL,nf_l N,_,rfl,N.l,_,_,_,rfl,rfl,SqL.of A1.leaders,atI_nat (lsL_at hj),_,rfl,rfl,_,rfl,?_⟩
  by_cases e:par' j=j
  ·refine iteN (by simp [e]) ?_
   have er:=U1.root j hj e
   have:=q par' H2 A1 U1 fr
   rw [<- ej,er] at this
   exact ⟨_,rfl,this⟩
  ·refine iteP (by simp;omega) ?_
   have hpj:=U1.lt j hj
   refine ⟨_,fun σ' H' z=>z,?_⟩
   refine ⟨_,rfl,N.p,C,N.dx,_,_,rfl,A1.ins,T.cl,T.nL,nf_l N,_,rfl,N.p,C,N.dx,_,_,rfl,A1.ins,T.cl,T.nL,nf_l N,_,rfl,N.l,_,_,_,rfl,rfl,SqL.of A1.leaders,atI_nat (lsL_at hj),N.l,_,_,_,rfl,rfl,SqL.of A1.leaders,atI_nat (lsL_at hpj),?_⟩
   refine ⟨_,rfl,N.p,C,N.dx,_,_,rfl,A1.ins,T.cl,T.nL,nf_l N,_,rfl,N.l,_,_,j,rfl,rfl,A1.leaders,ixN_nat (by rw [lsL_len];exact hj),?_⟩
   rw [lsL_set]
   have A2:=A1.lead (updP par' j (par' (par' j)))
   have U2:=U1.halve hj e
   refine ⟨_,rfl,N.p,C,N.dx,_,_,rfl,A2.ins,T.cl,T.nL,nf_l N,_,rfl,N.l,_,_,_,rfl,rfl,SqL.of A2.leaders,atI_nat (lsL_at hj),?_⟩
   refine ⟨rk (updP par' j (par' (par' j)) j),?_,updP par' j (par' (par' j)) j,_,rfl,rfl,U2.lt j hj,?_,A2,U2,fun b hb=>by rw [upd_ne hb];exact fr b hb⟩
   ·refine U2.up j hj ?_
    intro z
    have h1:=U1.up j hj e
    rw [updP_same] at z
    by_cases y:par' (par' j)=par' j
    ·rw [y] at z;exact e z
    ·have h2:=U1.up _ hpj y
     rw [z] at h2
     omega
   ·rw [U2.rpp j hj];exact ej
theorem NodesAt.more {C:Addr}{N:NA}{H H':Hp}{G:Gr}{ls:List Addr}(A:NodesAt C N H G id ls){tg:Nat}{ch:List Nat}{gn:Int}{l:Addr}(hl:H l=some (.lst (lsC ch)))(h1:l≠N.s)(h2:l≠N.i)(h3:l≠N.l)(h4:l≠N.v)
  (e1:H' N.s=some (.lst (lsS G++[V.str (wordN tg)]))) (e2:H' N.i=some (.lst (ls.map V.ref++[V.ref l]))) (e3:H' N.l=some (.lst (lsL G.n id++[V.int ((G.n:Nat):Int)]))) (e4:H' N.v=some (.lst (lsZ G.n++[.int 0]))) (fr:∀ b,b≠N.s->b≠N.i->b≠N.l->b≠N.v->H' b=H b) :
  NodesAt C N H' (addN G tg ch gn) id (ls++[l]):=by
 have np:N.p≠N.s/\N.p≠N.i/\N.p≠N.l/\N.p≠N.v:=⟨ne_of A.ins A.sorts (by intro z;cases z),ne_of A.ins A.inner (by intro z;cases z),ne_of A.ins A.leaders (by intro z;cases z),ne_of A.ins A.levels (by intro z;cases z)⟩
 have ng:N.g≠N.s/\N.g≠N.i/\N.g≠N.l/\N.g≠N.v:=⟨Rd.ne A.gaps A.sorts (by intro z;cases z) (by intro _ z;cases z),Rd.ne A.gaps A.inner (by intro z;cases z) (by intro _ z;cases z),Rd.ne A.gaps A.leaders (by intro z;cases z) (by intro _ z;cases z),Rd.ne A.gaps A.levels (by intro z;cases z) (by intro _ z;cases z)⟩
 refine ⟨by rw [fr _ np.1 np.2.1 np.2.2.1 np.2.2.2];exact A.ins,by rw [lsS_add];exact e1,by rw [List.map_append];exact e2,?_,Rd.keep A.gaps fun o z=>by rw [fr _ ng.1 ng.2.1 ng.2.2.1 ng.2.2.2];exact z,by rw [List.length_append,A.len];rfl,fun j l' e=>?_,fun l' hl'=>?_,A.si,A.sl,A.il,?_,A.vn⟩
 ·show H' N.l=some (.lst (lsL (G.n+1) id))
  rw [lsL_add];exact e3
 ·by_cases hj:j < ls.length
  ·rw [List.getElem?_append_left hj] at e
   obtain ⟨a1,a2,a3,a4⟩:=A.away l' (List.mem_of_getElem? e)
   rw [fr _ a1 a2 a3 a4,(ext_addN G tg ch gn).ch j (by rw [<- A.len];exact hj)]
   exact A.chs j l' e
  ·rw [List.getElem?_append_right (by omega)] at e
   have hj':j=G.n:=by
    have:=(List.getElem?_eq_some_iff.mp e).1
    have:=A.len
    simp at *
    omega
   subst hj'
   rw [A.len,Nat.sub_self] at e
   cases e
   rw [fr _ h1 h2 h3 h4]
   show H l=some (.lst (lsC (if G.n=G.n then ch else G.ch G.n)))
   rw [if_pos rfl];exact hl
 ·rcases List.mem_append.mp hl' with z | z
  ·exact A.away l' z
  ·rw [List.mem_singleton.mp z];exact ⟨h1,h2,h3,h4⟩
 ·show H' N.v=some (.lst (lsZ (G.n+1)))
  rw [lsZ_add];exact e4
def spNew (C:Addr):Sp:=fun vs H Q _=>∃ (N:NA) (G:Gr) (ls:List Addr) (tg:Nat) (ch:List Nat) (gn:Int) (l:Addr),vs=[.ref N.p,.str (wordN tg),.ref l]/\NodesAt C N H G id ls/\H l=some (.lst (lsC ch))/\l≠N.s/\l≠N.i/\l≠N.l/\l≠N.v/\G.n < 5000 /\
 ∀ H',NodesAt C N H' (addN G tg ch gn) id (ls++[l])->(∀ b,b≠N.s->b≠N.i->b≠N.l->b≠N.v->H' b=H b)->Q (.int ((G.n:Nat):Int)) H'
theorem scNew:FnScope ["self","word","inner","node"] ["self","word","inner"] (defScope s_Nodes_new_node):=⟨rfl,rfl,rfl,by decide +kernel,rfl,by decide +kernel,by decide +kernel⟩
theorem ok_new {f C:Addr}{fd:FuncData}(F:Fun K "new_node" "Nodes.new_node" s_Nodes_new_node f fd)(T:NTxt K mg C):FnOk Pr w K mg base CX0 1 f fd ["self","word","inner"] (spNew C):=by
 refine F.okS scNew (fun vs H Q E h=>?_) (fun cdv A outer s H vs Q E hr h=>?_)
 ·obtain ⟨N,G,ls,tg,ch,gn,l,rfl,_⟩:=h
  rfl
 ·obtain ⟨N,G,ls,tg,ch,gn,l,rfl,A0,hl,h1,h2,h3,h4,hn,q⟩:=h
  have hb:=line_big
  refine ⟨_,b_cons (s_set (i:=3) scNew.nd rfl (Or.inl rfl) (e_callB call_len_seq rfl T.len PySem.boot_len (a_cons (e_fld (e_v 0)) a_nil)))
   (b_cons (s_expr (e_bm PySem.F.plainAttrs_list PySem.F.slot_list_append PySem.F.type_list_append mt_append (e_fld (e_v 0)) (a_cons (e_v 1) a_nil)))
   (b_cons (s_expr (e_bm PySem.F.plainAttrs_list PySem.F.slot_list_append PySem.F.type_list_append mt_append (e_fld (e_v 0)) (a_cons (e_v 2) a_nil)))
   (b_cons (s_expr (e_bm PySem.F.plainAttrs_list PySem.F.slot_list_append PySem.F.type_list_append mt_append (e_fld (e_v 0)) (a_cons (e_v 3) a_nil)))
   (b_cons (s_expr (e_bm PySem.F.plainAttrs_list PySem.F.slot_list_append PySem.F.type_list_append mt_append (e_fld (e_v 0)) (a_cons (e_fld (e_v 0)) a_nil)))
   (b_one (s_ret (e_v 3))))))),?_⟩
  have np1:N.p≠N.s:=ne_of A0.ins A0.sorts (by intro z;cases z)
  have np2:N.p≠N.i:=ne_of A0.ins A0.inner (by intro z;cases z)
  refine ⟨_,rfl,N.p,C,N.dx,_,_,rfl,A0.ins,T.cl,T.nL,nf_l N,N.l,_,rfl,.inl (SqL.of A0.leaders),?_⟩
  rw [lsL_len]
  refine ⟨_,rfl,N.p,C,N.dx,_,_,rfl,A0.ins,T.cl,T.nS,nf_s N,.inl ⟨rfl,_,SqL.of A0.sorts⟩,_,rfl,N.s,_,_,rfl,rfl,A0.sorts,by simp [lsS];omega,?_⟩
  have i1:(upd H N.s (.lst (lsS G++[V.str (wordN tg)]))) N.p=some (.ins C N.dx (nflds N)):=by rw [upd_ne np1];exact A0.ins
  have n1:(upd H N.s (.lst (lsS G++[V.str (wordN tg)]))) N.i=some (.lst (ls.map V.ref)):=by rw [upd_ne (Ne.symm A0.si)];exact A0.inner
  refine ⟨_,rfl,N.p,C,N.dx,_,_,rfl,i1,T.cl,T.nI,nf_i N,.inl ⟨rfl,_,SqL.of n1⟩,_,rfl,N.i,_,_,rfl,rfl,n1,by simp [A0.len];omega,?_⟩
  have i2:(upd (upd H N.s (.lst (lsS G++[V.str (wordN tg)]))) N.i (.lst (ls.map V.ref++[V.ref l]))) N.p=some (.ins C N.dx (nflds N)):=by rw [upd_ne np2];exact i1
  have n2:(upd (upd H N.s (.lst (lsS G++[V.str (wordN tg)]))) N.i (.lst (ls.map V.ref++[V.ref l]))) N.l=some (.lst (lsL G.n id)):=by rw [upd_ne (Ne.symm A0.il),upd_ne (Ne.symm A0.sl)];exact A0.leaders
  refine ⟨_,rfl,N.p,C,N.dx,_,_,rfl,i2,T.cl,T.nL,nf_l N,.inl ⟨rfl,_,SqL.of n2⟩,_,rfl,N.l,_,_,rfl,rfl,n2,by rw [lsL_len];omega,?_⟩
  have i3:(upd (upd (upd H N.s (.lst (lsS G++[V.str (wordN tg)]))) N.i (.lst (ls.map V.ref++[V.ref l]))) N.l (.lst (lsL G.n id++[V.int ((G.n:Nat):Int)]))) N.p=some (.ins C N.dx (nflds N)):=by rw [upd_ne (ne_of A0.ins A0.leaders (by intro z;cases z))];exact i2
  have n3:(upd (upd (upd H N.s (.lst (lsS G++[V.str (wordN tg)]))) N.i (.lst (ls.map V.ref++[V.ref l]))) N.l (.lst (lsL G.n id++[V.int ((G.n:Nat):Int)]))) N.v=some (.lst (lsZ G.n)):=by rw [upd_ne A0.vn.2.2,upd_ne A0.vn.2.1,upd_ne A0.vn.1];exact A0.levels
  refine ⟨_,rfl,N.p,C,N.dx,_,_,rfl,i3,T.cl,T.nV,nf_v N,.inl ⟨rfl,_,SqL.of n3⟩,_,rfl,N.p,C,N.dx,_,_,rfl,i3,T.cl,T.nK,nf_k N,N.v,_,_,rfl,rfl,n3,by rw [lsZ_len];omega,?_⟩
  refine ⟨_,rfl,q _ (A0.more hl h1 h2 h3 h4 ?_ ?_ ?_ upd_same fun b b1 b2 b3 b4=>by rw [upd_ne b4,upd_ne b3,upd_ne b2,upd_ne b1]) fun b b1 b2 b3 b4=>by rw [upd_ne b4,upd_ne b3,upd_ne b2,upd_ne b1]⟩
  ·rw [upd_ne (Ne.symm A0.vn.1),upd_ne A0.sl,upd_ne A0.si,upd_same]
  ·rw [upd_ne (Ne.symm A0.vn.2.1),upd_ne A0.il,upd_same]
  ·rw [upd_ne (Ne.symm A0.vn.2.2),upd_same]
theorem ini {H0 H:Hp}{p a:Addr}{o u x:HO}(k:∀ b o,H0 b=some o->b≠p->H b=some o)(hp:H p=some x)(ha:H a=none):
  (upd (upd H a o) p u) p=some u/\(upd (upd H a o) p u) a=some o/\(∀ b y,H b=some y->b≠p->(upd (upd H a o) p u) b=some y)/\(∀ b o',H0 b=some o'->b≠p->(upd (upd H a o) p u) b=some o')/\a≠p:=by
 have n:a≠p:=Ne.symm (ne_of_none hp ha)
 have kk:∀ b y,H b=some y->b≠p->(upd (upd H a o) p u) b=some y:=fun b y e nb=>by rw [upd_ne nb,upd_ne (ne_of_none e ha)];exact e
 exact ⟨upd_same,by rw [upd_ne n,upd_same],kk,fun b o' e nb=>kk b o' (k b o' e nb) nb,n⟩
theorem putF_len (f:Str)(v:V)(fs:List (Str × V)):(putF f v fs).length<=fs.length+1:=by
 induction fs with
 | nil=>simp [putF]
 | cons x r ih =>
  simp only [putF]
  split
  ·simp
  ·simp;omega
def spInitN (C:Addr):Sp:=fun vs H Q _=>∃ (p dx:Addr),vs=[.ref p]/\H p=some (.ins C dx [])/\∀ (N:NA) (H':Hp),N.p=p->NodesAt C N H' gr0 id []->H' N.g=some (.dK (dG []))->H N.s=none->H N.i=none->H N.l=none->H N.g=none->H N.v=none->(∀ b o,H b=some o->b≠p->H' b=some o)->Q .non H'
theorem scInitN:FnScope ["self"] ["self"] (defScope s_Nodes___init__):=⟨rfl,rfl,rfl,by decide +kernel,rfl,by decide +kernel,by decide +kernel⟩
theorem ok_initN {f C:Addr}{fd:FuncData}(F:Fun K "__init__" "Nodes.__init__" s_Nodes___init__ f fd)(T:NTxt K mg C):FnOk Pr w K mg base CX0 1 f fd ["self"] (spInitN C):=by
 refine F.okS scInitN (fun vs H Q E h=>?_) (fun cdv A outer s H vs Q E hr h=>?_)
 ·obtain ⟨p,dx,rfl,_⟩:=h
  rfl
 ·obtain ⟨p,dx,rfl,hp,q⟩:=h
  refine ⟨_,b_cons (s_fld (e_v 0) (e_lst a_nil)) (b_cons (s_fld (e_v 0) (e_lst a_nil)) (b_cons (s_fld (e_v 0) (e_lst a_nil)) (b_cons (s_fld (e_v 0) (e_lst a_nil)) (b_cons (s_fld (e_v 0) e_int) (b_one (s_fld (e_v 0) e_dnew)))))),?_⟩
  have free:∀ {H':Hp} {a:Addr},(∀ b o,H b=some o->b≠p->H' b=some o)->H' a=none->a≠p->H a=none:=fun {H' a} k e n=>by
   cases z:H a with
   | none=>rfl
   | some o=>rw [k a o z n] at e;cases e
  have l1:=putF_len "sorts" (V.ref p) []
  refine ⟨by simp,fun aS hS=>⟨_,rfl,p,C,dx,_,rfl,by rw [upd_ne (ne_of_none hp hS)];exact hp,T.cl,T.nS,by simp,?_⟩⟩
  obtain ⟨p1,s1,k1,g1,nS⟩:=ini (o:=.lst []) (u:=.ins C dx (putF "sorts" (.ref aS) [])) (fun b o e _=>e) hp hS
  generalize upd (upd H aS (.lst [])) p (.ins C dx (putF "sorts" (.ref aS) []))=H1 at p1 s1 k1 g1 ⊢
  refine ⟨by simp,fun aI hI=>⟨_,rfl,p,C,dx,_,rfl,by rw [upd_ne (ne_of_none p1 hI)];exact p1,T.cl,T.nI,by have:=putF_len "sorts" (V.ref aS) [];simp at this;omega,?_⟩⟩
  obtain ⟨p2,i2,k2,g2,nI⟩:=ini (o:=.lst []) (u:=.ins C dx (putF "inner" (.ref aI) (putF "sorts" (.ref aS) []))) g1 p1 hI
  have si:aS≠aI:=ne_of_none s1 hI
  have s2:=k2 _ _ s1 nS
  have fI:=free g1 hI nI
  generalize upd (upd H1 aI (.lst [])) p (.ins C dx (putF "inner" (.ref aI) (putF "sorts" (.ref aS) [])))=H2 at p2 i2 k2 g2 s2 ⊢
  have l2:=putF_len "inner" (V.ref aI) (putF "sorts" (.ref aS) [])
  have l1:=putF_len "sorts" (V.ref aS) []
  simp only [List.length_nil] at l1
  refine ⟨by simp,fun aL hL=>⟨_,rfl,p,C,dx,_,rfl,by rw [upd_ne (ne_of_none p2 hL)];exact p2,T.cl,T.nL,by omega,?_⟩⟩
  obtain ⟨p3,l3,k3,g3,nL⟩:=ini (o:=.lst []) (u:=.ins C dx (putF "leaders" (.ref aL) (putF "inner" (.ref aI) (putF "sorts" (.ref aS) [])))) g2 p2 hL
  have sl:aS≠aL:=ne_of_none s2 hL
  have il:aI≠aL:=ne_of_none i2 hL
  have s3:=k3 _ _ s2 nS
  have i3:=k3 _ _ i2 nI
  have fL:=free g2 hL nL
  have q3:=putF_len "leaders" (V.ref aL) (putF "inner" (.ref aI) (putF "sorts" (.ref aS) []))
  generalize upd (upd H2 aL (.lst [])) p (.ins C dx (putF "leaders" (.ref aL) (putF "inner" (.ref aI) (putF "sorts" (.ref aS) []))))=H3 at p3 l3 k3 g3 s3 i3 ⊢
  refine ⟨by simp,fun aV hV=>⟨_,rfl,p,C,dx,_,rfl,by rw [upd_ne (ne_of_none p3 hV)];exact p3,T.cl,T.nV,by omega,?_⟩⟩
  obtain ⟨p4,v4,k4,g4,nV⟩:=ini (o:=.lst []) (u:=.ins C dx (putF "levels" (.ref aV) (putF "leaders" (.ref aL) (putF "inner" (.ref aI) (putF "sorts" (.ref aS) []))))) g3 p3 hV
  have sv:aV≠aS/\aV≠aI/\aV≠aL:=⟨Ne.symm (ne_of_none s3 hV),Ne.symm (ne_of_none i3 hV),Ne.symm (ne_of_none l3 hV)⟩
  have s4:=k4 _ _ s3 nS
  have i4:=k4 _ _ i3 nI
  have l4:=k4 _ _ l3 nL
  have fV:=free g3 hV nV
  have q4:=putF_len "levels" (V.ref aV) (putF "leaders" (.ref aL) (putF "inner" (.ref aI) (putF "sorts" (.ref aS) [])))
  generalize upd (upd H3 aV (.lst [])) p (.ins C dx (putF "levels" (.ref aV) (putF "leaders" (.ref aL) (putF "inner" (.ref aI) (putF "sorts" (.ref aS) [])))))=H4 at p4 v4 k4 g4 s4 i4 l4 ⊢
  refine ⟨_,rfl,p,C,dx,_,rfl,p4,T.cl,T.nK,by omega,?_⟩
  have q5:=putF_len "level" (V.int 0) (putF "levels" (.ref aV) (putF "leaders" (.ref aL) (putF "inner" (.ref aI) (putF "sorts" (.ref aS) []))))
  have k5:∀ b y,H4 b=some y->b≠p->(upd H4 p (.ins C dx (putF "level" (.int 0) (putF "levels" (.ref aV) (putF "leaders" (.ref aL) (putF "inner" (.ref aI) (putF "sorts" (.ref aS) []))))))) b=some y:=fun b y e n=>by rw [upd_ne n];exact e
  have p5:(upd H4 p (.ins C dx (putF "level" (.int 0) (putF "levels" (.ref aV) (putF "leaders" (.ref aL) (putF "inner" (.ref aI) (putF "sorts" (.ref aS) []))))))) p=_:=upd_same
  generalize upd H4 p (.ins C dx (putF "level" (.int 0) (putF "levels" (.ref aV) (putF "leaders" (.ref aL) (putF "inner" (.ref aI) (putF "sorts" (.ref aS) []))))))=H5 at p5 k5 ⊢
  have g5:∀ b o,H b=some o->b≠p->H5 b=some o:=fun b o e n=>k5 b o (g4 b o e n) n
  intro aG hG
  refine ⟨_,rfl,p,C,dx,_,rfl,by rw [upd_ne (ne_of_none p5 hG)];exact p5,T.cl,T.nG,by omega,?_⟩
  obtain ⟨p6,d6,k6,g6,nG⟩:=ini (o:=.dK []) (u:=.ins C dx (nflds ⟨p,dx,aS,aI,aL,aG,aV⟩)) g5 p5 hG
  have up:∀ b y,H4 b=some y->b≠p->_:=fun b y e n=>k6 b y (k5 b y e n) n
  exact q ⟨p,dx,aS,aI,aL,aG,aV⟩ _ rfl ⟨p6,up _ _ s4 nS,up _ _ i4 nI,up _ _ l4 nL,.inl d6,rfl,(fun j l e=>by simp at e),(fun l hl=>by cases hl),si,sl,il,up _ _ v4 nV,sv⟩ d6 hS fI fL (free g5 hG nG) fV g6
theorem dG_val:∀ (gs:List (Int × Nat)) (k:Int),valV (dG gs) (Sum.inl k:Key)=(lookG gs k).map fun g=>V.int ((g:Nat):Int)
 | [],k=>rfl
 | q::gs,k=>by
  have ih:=dG_val gs k
  unfold dG lookG at *
  simp only [List.map_cons,List.find?_cons,valV] at *
  by_cases e:q.1=k
  ·subst e;simp
  ·have h2:¬ (Sum.inl q.1:Key)=Sum.inl k:=fun z=>e (Sum.inl.inj z)
   simp [e,h2] at *
   exact ih
theorem NodesAt.gap {C:Addr}{N:NA}{H H':Hp}{G:Gr}{par:Nat->Nat}{ls:List Addr}(A:NodesAt C N H G par ls){gs':List (Int × Nat)}(h1:H' N.g=some (.dK (dG gs')))(fr:∀ b,b≠N.g->H' b=H b):NodesAt C N H' { G with gs:=gs' } par ls:=by
 have ng:∀ b xs,H b=some (.lst xs)->b≠N.g:=fun b xs e=>Ne.symm (Rd.ne A.gaps e (by intro z;cases z) (by intro _ z;cases z))
 have np:N.p≠N.g:=Ne.symm (Rd.ne A.gaps A.ins (by intro z;cases z) (by intro _ z;cases z))
 refine ⟨by rw [fr _ np];exact A.ins,by rw [fr _ (ng _ _ A.sorts)];exact A.sorts,by rw [fr _ (ng _ _ A.inner)];exact A.inner,by rw [fr _ (ng _ _ A.leaders)];exact A.leaders,.inl h1,A.len,fun j l e=>?_,A.away,A.si,A.sl,A.il,by rw [fr _ (ng _ _ A.levels)];exact A.levels,A.vn⟩
 have:=A.chs j l e
 rw [fr _ (ng _ _ this)]
 exact this
def Grow (N:NA)(H H':Hp):Prop:=∀ b o,H b=some o->b≠N.s->b≠N.i->b≠N.l->b≠N.g->b≠N.v->H' b=some o
theorem Grow.trans {N:NA}{H H1 H2:Hp}(a:Grow N H H1)(b:Grow N H1 H2):Grow N H H2:=fun c o e c1 c2 c3 c4 c5=>b c o (a c o e c1 c2 c3 c4 c5) c1 c2 c3 c4 c5
theorem Grow.of {N:NA}{H H1:Hp}(a:Same H H1):Grow N H H1:=fun c o e _ _ _ _ _=>a c o e
def spGapN (C:Addr):Sp:=fun vs H Q _=>∃ (N:NA) (G:Gr) (ls:List Addr) (k:Int),vs=[.ref N.p,.int k]/\NodesAt C N H G id ls/\H N.g=some (.dK (dG G.gs))/\G.Ok/\G.n < 5000 /\
 ∀ G' ls' i H',NodesAt C N H' G' id ls'->H' N.g=some (.dK (dG G'.gs))->G'.Ok->ExtG G G'->G'.n<=G.n+1->i < G'.n->G'.tg i=2->G'.gn i=k->(∀ q∈G'.gs,q∈G.gs\/q.1=k)->(∀ l∈ls',l∈ls\/H l=none)->Grow N H H'->Q (.int ((i:Nat):Int)) H'
def spNewG (C:Addr):Sp:=fun vs H Q _=>∃ (N:NA) (G:Gr) (ls:List Addr) (k:Int),vs=[.ref N.p]/\NodesAt C N H G id ls/\G.n < 5000 /\
 ∀ l H',H l=none->NodesAt C N H' (addN G 2 [] k) id (ls++[l])->(∀ b o,H b=some o->b≠N.s->b≠N.i->b≠N.l->b≠N.v->H' b=some o)->Q (.int ((G.n:Nat):Int)) H'
theorem scNewG:FnScope ["self"] ["self"] (defScope s_Nodes_new_gap):=⟨rfl,rfl,rfl,by decide +kernel,rfl,by decide +kernel,by decide +kernel⟩
theorem ok_newG {f C fN:Addr}{fd fdN:FuncData}(F:Fun K "new_gap" "Nodes.new_gap" s_Nodes_new_gap f fd)(T:NTxt K mg C)(GN:FnOk Pr w K mg base CX0 1 fN fdN ["self","word","inner"] (spNew C))(bN:Binds K fdN ["self","word","inner"] [])(mN:Meth K C "new_node" fN):
  FnOk Pr w K mg base CX0 2 f fd ["self"] (spNewG C):=by
 refine F.okS scNewG (fun vs H Q E h=>?_) (fun cdv A outer s H vs Q E hr h=>?_)
 ·obtain ⟨N,G,ls,k,rfl,_⟩:=h
  rfl
 ·obtain ⟨N,G,ls,k,rfl,A0,hn,q⟩:=h
  refine ⟨_,b_one (s_ret (e_meth (e_v 0) T.cl mN GN hr bN (a_cons e_str (a_cons (e_lst a_nil) a_nil)))),?_⟩
  refine ⟨_,rfl,N.p,N.dx,_,rfl,A0.ins,nf_no N (by decide +kernel),by simp,fun l hl=>?_⟩
  have sm1:Same H (upd H l (.lst [])):=Same.new hl
  have A1:NodesAt C N (upd H l (.lst [])) G id ls:=A0.same fun b o _ z=>sm1 b o z
  exact ⟨N,G,ls,2,[],k,l,rfl,A1,upd_same,Ne.symm (ne_of_none A0.sorts hl),Ne.symm (ne_of_none A0.inner hl),Ne.symm (ne_of_none A0.leaders hl),Ne.symm (ne_of_none A0.levels hl),hn,fun H2 A2 fr2=>q l H2 hl A2 fun b o e b1 b2 b3 b4=>by rw [fr2 b b1 b2 b3 b4];exact sm1 b o e⟩
theorem scGapN:FnScope ["self","number"] ["self","number"] (defScope s_Nodes_numbered_gap):=⟨rfl,rfl,rfl,by decide +kernel,rfl,by decide +kernel,by decide +kernel⟩
theorem ok_gapN {f C fN:Addr}{fd fdN:FuncData}(F:Fun K "numbered_gap" "Nodes.numbered_gap" s_Nodes_numbered_gap f fd)(T:NTxt K mg C)(GN:FnOk Pr w K mg base CX0 2 fN fdN ["self"] (spNewG C))(bN:Binds K fdN ["self"] [])(mN:Meth K C "new_gap" fN):
  FnOk Pr w K mg base CX0 3 f fd ["self","number"] (spGapN C):=by
 refine F.okS scGapN (fun vs H Q E h=>?_) (fun cdv A outer s H vs Q E hr h=>?_)
 ·obtain ⟨N,G,ls,k,rfl,_⟩:=h
  rfl
 ·obtain ⟨N,G,ls,k,rfl,A0,hg,ok,hn,q⟩:=h
  have hb:=line_big
  have hu:=hu_of hr
  refine ⟨_,b_cons (s_if (t_dnotin hu (e_v 1) (e_fld (e_v 0))) (b_one (s_dput hu (e_fld (e_v 0)) (e_v 1) (e_meth0 (e_v 0) T.cl mN GN hr bN) rfl)) b_nil)
   (b_one (s_ret (e_dget hu (e_fld (e_v 0)) (e_v 1) (fun _ _=>rfl)))),?_⟩
  refine ⟨_,rfl,_,rfl,N.p,C,N.dx,_,_,rfl,A0.ins,T.cl,T.nG,nf_g N,N.g,_,rfl,DGet.k (k:=Sum.inl k) hg,_,rfl,?_⟩
  rw [dG_val]
  cases e:lookG G.gs k with
  | some g =>
   refine iteF ?_
   have hm:=lookG_some e
   obtain ⟨g1,g2,g3⟩:=ok.gs k g hm
   refine ⟨_,rfl,N.p,C,N.dx,_,_,rfl,A0.ins,T.cl,T.nG,nf_g N,_,rfl,N.g,_,rfl,?_,q G ls g H A0 hg ok (ExtG.refl G) (Nat.le_succ _) g1 g2 g3 (fun q hq=>.inl hq) (fun l hl=>.inl hl) (Grow.of (Same.refl H))⟩
   have:=DGet.k (k:=Sum.inl k) hg
   rw [dG_val,e] at this
   exact this
  | none =>
   refine iteT ?_
   refine ⟨_,rfl,N.p,N.dx,_,rfl,A0.ins,nf_no N (by decide +kernel),N,G,ls,k,rfl,A0,hn,fun l H2 hl A2 fr2=>?_⟩
   have ng:N.g≠N.s/\N.g≠N.i/\N.g≠N.l/\N.g≠N.v:=⟨ne_of hg A0.sorts (by intro z;cases z),ne_of hg A0.inner (by intro z;cases z),ne_of hg A0.leaders (by intro z;cases z),ne_of hg A0.levels (by intro z;cases z)⟩
   have hg2:H2 N.g=some (.dK (dG G.gs)):=fr2 _ _ hg ng.1 ng.2.1 ng.2.2.1 ng.2.2.2
   have hgl:(dG G.gs).length<=5000:=by
    unfold dG
    rw [List.length_map]
    exact Nat.le_trans (gs_len ok) (by omega)
   refine ⟨_,rfl,N.p,C,N.dx,_,_,rfl,A2.ins,T.cl,T.nG,nf_g N,_,rfl,N.g,_,rfl,DPut.k (k:=Sum.inl k) hg2 (by omega),?_⟩
   have ev:valV (dG G.gs) (Sum.inl k:Key)=none:=by rw [dG_val,e];rfl
   have ep:putK (dG G.gs) (Sum.inl k:Key) (V.int ((G.n:Nat):Int))=dG (G.gs++[(k,G.n)]):=by
    rw [putK_new _ ev]
    unfold dG
    rw [List.map_append]
    rfl
   rw [ep]
   have A3:NodesAt C N (upd H2 N.g (.dK (dG (G.gs++[(k,G.n)])))) (addG G k) id (ls++[l]):=A2.gap upd_same fun b hb=>upd_ne hb
   have hk:∀ g,(k,g)∉G.gs:=fun g hm=>by rw [lookG_mem ok.nd hm] at e;cases e
   refine ⟨_,rfl,N.p,C,N.dx,_,_,rfl,A3.ins,T.cl,T.nG,nf_g N,_,rfl,N.g,_,rfl,?_,q (addG G k) (ls++[l]) G.n _ A3 upd_same (addG_ok ok hk) (ext_addG G k) (Nat.le_refl _) (Nat.lt_succ_self _) (if_pos rfl) (if_pos rfl) (fun q hq=>?_) (fun l' hl'=>?_) fun b o eb b1 b2 b3 b4 b5=>?_⟩
   ·have:=DGet.k (k:=Sum.inl k) (show (upd H2 N.g (.dK (dG (G.gs++[(k,G.n)])))) N.g=some (.dK (dG (G.gs++[(k,G.n)]))) from upd_same)
    have el:lookG (G.gs++[(k,G.n)]) k=some G.n:=lookG_mem (addG_ok ok hk).nd (show (k,G.n)∈(addG G k).gs from List.mem_append_right _ (List.mem_singleton.mpr rfl))
    rw [dG_val,el] at this
    exact this
   ·rcases List.mem_append.mp hq with z | z
    ·exact .inl z
    ·right;rw [List.mem_singleton.mp z]
   ·rcases List.mem_append.mp hl' with z | z
    ·exact .inl z
    ·right;rw [List.mem_singleton.mp z];exact hl
   ·rw [upd_ne b4]
    exact fr2 b o eb b1 b2 b3 b5
end
end K
namespace K
open PySem L2 KM KS
theorem lsC_app (a b:List Nat):lsC (a++b)=lsC a++lsC b:=by simp [lsC]
section
variable {Pr:Program}{w:World}{K:PySem.W.Frag}{mg:Str->Option Value}{base:Heap}
theorem lead_me {C:Addr}{σ:St}{H:Hp}{Q Q':VK}(h:∀ v H',Q v H'->Q' v H')(z:tMeth C "leader" (spLeader C) [] E0 (tVar 1) (tCons (tVar 0) tNil) σ H Q):tMeth C "leader" (spLeader C) [] E0 (tVar 1) (tCons (tVar 0) tNil) σ H Q':=by
 obtain ⟨v',e1,a1,dx1,fs1,e2,h1,h2,v2,e3,N',G',ls',par',rp',rk',i',e4,A',U',hi',z⟩:=z
 exact ⟨v',e1,a1,dx1,fs1,e2,h1,h2,v2,e3,N',G',ls',par',rp',rk',i',e4,A',U',hi',fun p1 H1 y1 y2 y3=>h _ _ (z p1 H1 y1 y2 y3)⟩
theorem lead_all {C:Addr}{N:NA}{G:Gr}{ls:List Addr}{par rp rk:Nat->Nat}{H:Hp}{l1:Addr}{cs:List Nat}{σ:St}{Fin:List V->Hp->Prop}(T:NTxt K mg C)(A:NodesAt C N H G par ls)(U:UF G.n par rp rk)(hl:H l1=some (.lst (lsC cs)))(hn:l1≠N.l)(hc:∀ c∈cs,c < G.n)(hlen:cs.length < 10000)
  (s0:σ=[none,some (.ref N.p)]) (fin:∀ par' H',NodesAt C N H' G par' ls->UF G.n par' rp rk->(∀ b,b≠N.l->H' b=H b)->Fin (lsC (cs.map rp)) H') :
  cLoop (Itl K l1) H σ (gName 0) tYes (tMeth C "leader" (spLeader C) [] E0 (tVar 1) (tCons (tVar 0) tNil)) Fin:=by
 have hb:=line_big
 subst s0
 refine comp_list (K:=K) (a:=l1) (xs:=lsC cs) (fun k ys H3=>∃ par3,ys=lsC ((cs.take k).map rp)/\NodesAt C N H3 G par3 ls/\UF G.n par3 rp rk/\∀ b,b≠N.l->H3 b=H b) ⟨par,by simp [lsC],A,U,fun _ _=>rfl⟩ (fun k ys H3 z=>?_) (by simp [lsC];omega) (fun k ys H3 z=>?_) (fun k c' ys H3 hc' z=>?_)
  (fun x σ H Q Q' h z=>h _ _ z) (fun σ H Q Q' h z=>h _ _ z) (fun σ H Q Q' h z=>lead_me h z) (fun ys H3 z=>?_)
 ·obtain ⟨par3,_,A3,_,f3⟩:=z
  refine SqL.of ?_
  rw [f3 _ hn];exact hl
 ·obtain ⟨par3,e,_⟩:=z
  rw [e]
  simp [lsC]
  omega
 ·obtain ⟨par3,e,A3,U3,f3⟩:=z
  unfold lsC at hc'
  rw [List.getElem?_map] at hc'
  cases ec:cs[k]? with
  | none=>rw [ec] at hc';cases hc'
  | some c =>
   rw [ec] at hc'
   cases hc'
   have hcn:c < G.n:=hc c (List.mem_of_getElem? ec)
   refine ⟨Ext.set rfl,yes_then ?_⟩
   refine ⟨_,rfl,N.p,N.dx,_,rfl,A3.ins,nf_no N (by decide +kernel),_,rfl,N,G,ls,par3,rp,rk,c,rfl,A3,U3,hcn,fun par4 H4 A4 U4 e4=>⟨par4,?_,A4,U4,fun b hb=>by rw [e4 b hb,f3 b hb]⟩⟩
   rw [e,List.take_add_one,ec,List.map_append,lsC_app]
   rfl
 ·obtain ⟨par3,e,A3,U3,f3⟩:=z
  have el:(lsC cs).length=cs.length:=by simp [lsC]
  rw [el,List.take_length] at e
  subst e
  exact fin par3 H3 A3 U3 f3
def spInner (C:Addr):Sp:=fun vs H Q _=>∃ (N:NA) (G:Gr) (ls:List Addr) (par rp rk:Nat->Nat) (x:Nat),vs=[.ref N.p,.int ((x:Nat):Int)]/\NodesAt C N H G par ls/\UF G.n par rp rk/\x < G.n/\(∀ c∈G.ch x,c < G.n)/\(G.ch x).length<=2 /\
 ∀ par' li H',NodesAt C N H' G par' ls->UF G.n par' rp rk->H li=none->H' li=some (.lst (lsC ((G.ch x).map rp)))->(∀ b,b≠N.l->b≠li->H' b=H b)->Q (.ref li) H'
theorem scInner:FnScope ["self","node"] ["self","node"] (defScope s_Nodes_inner_leaders):=⟨rfl,rfl,rfl,by decide +kernel,rfl,by decide +kernel,by decide +kernel⟩
theorem ok_inner {f C fL:Addr}{fd fdL:FuncData}(F:Fun K "inner_leaders" "Nodes.inner_leaders" s_Nodes_inner_leaders f fd)(T:NTxt K mg C)
  (GL:FnOk Pr w K mg base CX0 1 fL fdL ["self","node"] (spLeader C)) (bL:Binds K fdL ["self","node"] []) (mL:Meth K C "leader" fL):FnOk Pr w K mg base CX0 2 f fd ["self","node"] (spInner C):=by
 refine F.okS scInner (fun vs H Q E h=>?_) (fun cdv A outer s H vs Q E hr h=>?_)
 ·obtain ⟨N,G,ls,par,rp,rk,x,rfl,_⟩:=h
  rfl
 ·obtain ⟨N,G,ls,par,rp,rk,x,rfl,A0,U0,hx,hc,hlen,q⟩:=h
  have S1:CompSc (cxOf CX0 Pr w K mg base ["self","node"] "Nodes.inner_leaders" (defScope s_Nodes_inner_leaders) f cdv A outer s H E).nox (scopeOf (valueOf (inDef s_Nodes_inner_leaders 0))) [("self",s.heap.objs.size+1)] ["part"] ["self"] [0] :=
   ⟨rfl,by decide +kernel,rfl,by decide +kernel,rfl,rfl,rfl,rfl⟩
  have nd1:(["part","self"]:List Str).Nodup:=by decide +kernel
  refine ⟨_,b_one (s_ret (e_comp (te:=tMeth C "leader" (spLeader C) [] E0 (tVar 1) (tCons (tVar 0) tNil)) S1 rfl (i_list (e_ix ix_list (e_fld (e_v 0)) (e_v 1) (fun _ _=>rfl))) (fun C' s0 H0 ex=>g_name (i:=0) nd1 rfl (Or.inl rfl)) (fun _ _ _ _=>f_nil) (fun C' s0 H0 ex=>e_meth (e_v 1) T.cl mL GL hr bL (a_cons (e_v 0) a_nil)))),?_⟩
  obtain ⟨l1,hl1⟩:∃ l1,ls[x]?=some l1:=⟨_,List.getElem?_eq_getElem (by rw [A0.len];exact hx)⟩
  refine ⟨_,rfl,N.p,C,N.dx,_,_,rfl,A0.ins,T.cl,T.nI,nf_i N,_,rfl,N.i,_,_,_,rfl,rfl,SqL.of A0.inner,atI_nat (v:=V.ref l1) (by rw [List.getElem?_map,hl1];rfl),l1,rfl,⟨_,SqL.of (A0.chs _ _ hl1)⟩,?_⟩
  refine lead_all T A0 U0 (A0.chs _ _ hl1) (A0.away l1 (List.mem_of_getElem? hl1)).2.2.1 hc (by omega) rfl fun par' H' A' U' f'=>?_
  intro li hli
  have sm:Same H' (upd H' li (.lst (lsC ((G.ch x).map rp)))):=Same.new hli
  have hli0:H li=none:=by
   rw [<- f' li (Ne.symm (ne_of_none A'.leaders hli))]
   exact hli
  exact q par' li _ (A'.same fun b o _ e=>sm b o e) U' hli0 upd_same fun b b1 b2=>by rw [upd_ne b2,f' b b1]
def spSink (C:Addr):Sp:=fun vs H Q _=>∃ (N:NA) (G:Gr) (ls:List Addr) (par rp rk:Nat->Nat) (x:Nat),vs=[.ref N.p,.int ((x:Nat):Int),.int 0]/\NodesAt C N H G par ls/\UF G.n par rp rk/\x < G.n /\
 ∀ par' H',NodesAt C N H' G par' ls->UF G.n par' rp rk->(∀ b o,H b=some o->b≠N.l->H' b=some o)->Q .non H'
theorem scSink:FnScope ["self","node","level","waiting","at"] ["self","node","level"] (defScope s_Nodes_sink):=⟨rfl,rfl,rfl,by decide +kernel,rfl,by decide +kernel,by decide +kernel⟩
theorem ok_sink {f C fL:Addr}{fd fdL:FuncData}(F:Fun K "sink" "Nodes.sink" s_Nodes_sink f fd)(T:NTxt K mg C)
  (GL:FnOk Pr w K mg base CX0 1 fL fdL ["self","node"] (spLeader C)) (bL:Binds K fdL ["self","node"] []) (mL:Meth K C "leader" fL):FnOk Pr w K mg base CX0 2 f fd ["self","node","level"] (spSink C):=by
 refine F.okS scSink (fun vs H Q E h=>?_) (fun cdv A outer s H vs Q E hr h=>?_)
 ·obtain ⟨N,G,ls,par,rp,rk,x,rfl,_⟩:=h
  rfl
 ·obtain ⟨N,G,ls,par,rp,rk,x,rfl,A0,U0,hx,q⟩:=h
  have hb:=line_big
  refine ⟨_,b_cons (s_set (i:=3) scSink.nd rfl (Or.inl rfl) (e_lst (a_cons (e_v 1) a_nil)))
   (b_one (s_while PassesOwn.never (t_truth (e_v 3))
    (b_cons (s_set (i:=4) scSink.nd rfl (Or.inl rfl) (e_meth (e_v 0) T.cl mL GL hr bL (a_cons (e_bm0 PySem.F.plainAttrs_list PySem.F.slot_list_pop PySem.F.type_list_pop mt_pop (e_v 3)) a_nil)))
    (b_one (s_if (t_cmp op_gt (e_ix ix_list (e_fld (e_v 0)) (e_v 4) (fun _ _=>rfl)) (e_v 2) (nomark _))
     (b_cons (s_asg (e_v 2) (g_sub (e_fld (e_v 0)) (e_v 4) set_list))
     (b_one (s_expr (e_bm PySem.F.plainAttrs_list PySem.F.slot_list_extend PySem.F.type_list_extend mt_extend (e_v 3) (a_cons (e_ix ix_list (e_fld (e_v 0)) (e_v 4) (fun _ _=>rfl)) a_nil))))) b_nil))))),?_⟩
  refine ⟨_,rfl,by show 1<=sizeLine;omega,fun lw hlw=>?_⟩
  have sm1:Same H (upd H lw (.lst [.int ((x:Nat):Int)])):=Same.new hlw
  refine ⟨fun m σ H2=>∃ par2 x4 ws,σ=[some (.ref N.p),some (.int ((x:Nat):Int)),some (.int 0),some (.ref lw),x4]/\m=ws.length/\(ws=[]\/ws=[.int ((x:Nat):Int)])/\NodesAt C N H2 G par2 ls/\UF G.n par2 rp rk/\H2 lw=some (.lst ws)/\∀ b o,H b=some o->b≠N.l->H2 b=some o,
   ⟨1,par,none,[.int ((x:Nat):Int)],rfl,rfl,.inr rfl,A0.same fun b o _ e=>sm1 b o e,U0,upd_same,fun b o e _=>sm1 b o e⟩,?_⟩
  rintro m σ H2 ⟨par2,x4,ws,rfl,rfl,hws,A2,U2,hw2,f2⟩
  refine ⟨_,rfl,!ws.isEmpty,.inl ⟨ws,SqL.of hw2,rfl⟩,?_⟩
  rcases hws with rfl | rfl
  ·exact iteF (q par2 H2 A2 U2 f2)
  ·refine iteT ⟨_,fun σ' H' z=>z,?_⟩
   refine ⟨_,rfl,N.p,N.dx,_,rfl,A2.ins,nf_no N (by decide +kernel),_,rfl,.inl ⟨rfl,_,SqL.of hw2⟩,lw,_,_,rfl,rfl,hw2,rfl,?_⟩
   have offw:∀ b,NodesAt.on N ls b->b≠lw:=fun b hb=>A0.off hlw b hb
   have A3:NodesAt C N (upd H2 lw (.lst ([V.int ((x:Nat):Int)]:List V).dropLast)) G par2 ls:=A2.same fun b o hb e=>by rw [upd_ne (offw b hb)];exact e
   refine ⟨N,G,ls,par2,rp,rk,x,rfl,A3,U2,hx,fun par4 H4 A4 U4 e4=>?_⟩
   have hr4:=(U2.idem x hx).1
   refine ⟨_,rfl,N.p,C,N.dx,_,_,rfl,A4.ins,T.cl,T.nV,nf_v N,_,rfl,N.v,_,_,_,rfl,rfl,SqL.of A4.levels,atI_nat (lsZ_at hr4),_,rfl,?_⟩
   refine ⟨_,_,rfl,rfl,_,rfl,iteN (by simp) ?_⟩
   have lwl:lw≠N.l:=Ne.symm (ne_of_none A0.leaders hlw)
   exact ⟨0,by simp,par4,_,[],rfl,rfl,.inl rfl,A4,U4,by rw [e4 lw lwl,upd_same];rfl,fun b o e n=>by rw [e4 b n,upd_ne (ne_of_none e hlw)];exact f2 b o e n⟩
def spFollow (C:Addr):Sp:=fun vs H Q _=>∃ (N:NA) (G:Gr) (ls:List Addr) (par rp rk:Nat->Nat) (v u:Nat),vs=[.ref N.p,.int ((v:Nat):Int),.int ((u:Nat):Int)]/\NodesAt C N H G par ls/\UF G.n par rp rk/\u < G.n/\v < G.n/\rp u=u/\rp v=v/\u≠v /\
 ∀ par' rk' H',NodesAt C N H' G par' ls->UF G.n par' (glue rp v u) rk'->(∀ b o,H b=some o->b≠N.l->H' b=some o)->Q .non H'
theorem scFollow:FnScope ["self","node","leader"] ["self","node","leader"] (defScope s_Nodes_follow):=⟨rfl,rfl,rfl,by decide +kernel,rfl,by decide +kernel,by decide +kernel⟩
theorem ok_follow {f C fS:Addr}{fd fdS:FuncData}(F:Fun K "follow" "Nodes.follow" s_Nodes_follow f fd)(T:NTxt K mg C)
  (GS:FnOk Pr w K mg base CX0 2 fS fdS ["self","node","level"] (spSink C)) (bS:Binds K fdS ["self","node","level"] []) (mS:Meth K C "sink" fS):FnOk Pr w K mg base CX0 3 f fd ["self","node","leader"] (spFollow C):=by
 refine F.okS scFollow (fun vs H Q E h=>?_) (fun cdv A outer s H vs Q E hr h=>?_)
 ·obtain ⟨N,G,ls,par,rp,rk,v,u,rfl,_⟩:=h
  rfl
 ·obtain ⟨N,G,ls,par,rp,rk,v,u,rfl,A0,U0,hu,hv,ru,rv,hne,q⟩:=h
  refine ⟨_,b_cons (s_asg (e_v 2) (g_sub (e_fld (e_v 0)) (e_v 1) set_list))
   (b_one (s_expr (e_meth (e_v 0) T.cl mS GS hr bS (a_cons (e_v 2) (a_cons (e_ix ix_list (e_fld (e_v 0)) (e_v 1) (fun _ _=>rfl)) a_nil))))),?_⟩
  refine ⟨_,rfl,_,rfl,N.p,C,N.dx,_,_,rfl,A0.ins,T.cl,T.nL,nf_l N,_,rfl,N.l,_,_,v,rfl,rfl,A0.leaders,ixN_nat (by rw [lsL_len];exact hv),?_⟩
  rw [lsL_set]
  have A1:=A0.lead (updP par v u)
  refine ⟨_,rfl,N.p,N.dx,_,rfl,A1.ins,nf_no N (by decide +kernel),_,rfl,_,rfl,N.p,C,N.dx,_,_,rfl,A1.ins,T.cl,T.nV,nf_v N,_,rfl,N.v,_,_,_,rfl,rfl,SqL.of A1.levels,atI_nat (lsZ_at hv),?_⟩
  exact ⟨N,G,ls,updP par v u,_,_,u,rfl,A1,U0.union hu hv ru rv hne,hu,fun par' H' A' U' f'=>q par' _ H' A' U' fun b o e n=>f' b o (by rw [upd_ne n];exact e) n⟩
end
end K
namespace K
open PySem L2 KM KS
theorem word_any {g:Nat}(h:g < 6):decide (V.str (wordN g)=V.str "any")=decide (g=2):=by
 have c:g=0\/g=1\/g=2\/g=3\/g=4\/g=5:=by omega
 rcases c with rfl | rfl | rfl | rfl | rfl | rfl <;> decide +kernel
theorem word_two {g g':Nat}(h:g < 6)(h':g' < 6):decide (V.str (wordN g)=V.str (wordN g'))=decide (g=g'):=by
 have:=wordN_eq g h g' h'
 rw [Bool.eq_iff_iff]
 simp only [decide_eq_true_iff]
 constructor
 ·intro e
  have e:wordN g=wordN g':=by injection e
  rw [e] at this
  simpa using this
 ·intro e;rw [e]
abbrev PsAt (H:Hp):List (Nat × Nat)->List V->Prop:=Paired fun q v=>∃ t,v=.ref t/\H t=some (.tup [.int ((q.1:Nat):Int),.int ((q.2:Nat):Int)])
theorem PsAt.mono {H H':Hp}(s:TSub H H'){ps:List (Nat × Nat)}{vs:List V}(h:PsAt H ps vs):PsAt H' ps vs:=Paired.mapP h fun _ _ ⟨t,e,z⟩=>⟨t,e,s _ _ z⟩
theorem Paired.snoc {α β:Type}{F:α->β->Prop}:∀ {as:List α} {bs:List β},Paired F as bs->as≠[]->∃ as' a bs' b,as=as'++[a]/\bs=bs'++[b]/\Paired F as' bs'/\F a b
 | _,_,.nil,h=>absurd rfl h
 | _,_,.cons (a:=a) (b:=b) (l₁:=as) (l₂:=bs) h t,_=>by
  cases t with
  | nil=>exact ⟨[],a,[],b,rfl,rfl,.nil,h⟩
  | cons h2 t2 =>
   obtain ⟨as',a',bs',b',e1,e2,p,f⟩:=Paired.snoc (.cons h2 t2) (by simp)
   exact ⟨a::as',a',b::bs',b',by rw [e1];rfl,by rw [e2];rfl,.cons h p,f⟩
theorem cnt_n (p:Nat->Bool):∀ n,cnt p n<=n
 | 0=>Nat.le_refl _
 | n+1=>by
  have:=cnt_n p n
  show cnt p n+(if p n then 1 else 0)<=n+1
  split <;> omega
theorem psat_zip {H:Hp}:∀ {xs ys:List Nat} {ts:List Addr},ts.length=xs.length->xs.length=ys.length->(∀ (j:Nat) (t:Addr),ts[j]?=some t->∃ x y,(lsC xs)[j]?=some x/\(lsC ys)[j]?=some y/\H t=some (.tup [x,y]))->PsAt H (xs.zip ys) (ts.map V.ref)
 | [],[],[],_,_,_=>.nil
 | x::xs,y::ys,t::ts,h1,h2,h3=>by
  refine .cons ?_ (psat_zip (by simpa using h1) (by simpa using h2) fun j t' e=>?_)
  ·obtain ⟨u,v,e1,e2,e3⟩:=h3 0 t rfl
   simp [lsC] at e1 e2
   exact ⟨t,rfl,by rw [e3,<- e1,<- e2]⟩
  ·obtain ⟨u,v,e1,e2,e3⟩:=h3 (j+1) t' (by simpa using e)
   exact ⟨u,v,by simpa [lsC] using e1,by simpa [lsC] using e2,e3⟩
section
variable {Pr:Program}{w:World}{K:PySem.W.Frag}{mg:Str->Option Value}{base:Heap}
def FrL (N:NA)(H H':Hp):Prop:=∀ b o,H b=some o->b≠N.l->H' b=some o
def spSame (C CJ:Addr):Sp:=fun vs H Q E=>∃ (N:NA) (G:Gr) (ls:List Addr) (par rk:Nat->Nat) (a b:Kd) (i j:Nat),vs=[.ref N.p,.int ((i:Nat):Int),.int ((j:Nat):Int)]/\NodesAt C N H G par ls/\UF G.n par id rk/\Uni G a b i j id [(i,j)]/\G.Ok/\G.n<=4000 /\
 (∀ par' rp' rk' H',NodesAt C N H' G par' ls->UF G.n par' rp' rk'->Solved G a b i j rp'->FrL N H H'->Q .non H')/\((∀ T,fillT T a≠fillT T b)->∀ H',FrL N H H'->E (.ref CJ) none H')
abbrev nSame:List Str:=["self","one","other","waiting","pair","first","second"]
theorem scSame:FnScope nSame ["self","one","other"] (defScope s_Nodes_make_same):=⟨rfl,rfl,rfl,by decide +kernel,rfl,by decide +kernel,by decide +kernel⟩
theorem ok_same {f C CJ fL fF:Addr}{fd fdL fdF:FuncData}{bJ:List Value}{nJ:String}(F:Fun K "make_same" "Nodes.make_same" s_Nodes_make_same f fd)(T:NTxt K mg C)(mJ:mg "NoJoin"=some (.ref CJ))(qJ:PySem.W.excIn K CJ bJ nJ=true){initId Bn:String}(FJ:ExcBaseFacts Bn nJ initId bJ)(mLi:mg "list"=none)(mZ:mg "zip"=none)
  (GL:FnOk Pr w K mg base CX0 1 fL fdL ["self","node"] (spLeader C)) (bL:Binds K fdL ["self","node"] []) (mL:Meth K C "leader" fL)
  (GF:FnOk Pr w K mg base CX0 3 fF fdF ["self","node","leader"] (spFollow C)) (bF:Binds K fdF ["self","node","leader"] []) (mF:Meth K C "follow" fF) :
  FnOk Pr w K mg base (CX1 Pr w) 4 f fd ["self","one","other"] (spSame C CJ):=by
 refine F.okX scSame (fun vs H Q E h=>?_) (fun cdv A outer s H vs Q E hr h=>?_)
 ·obtain ⟨N,G,ls,par,rk,a,b,i,j,rfl,_⟩:=h
  rfl
 ·obtain ⟨N,G,ls,par,rk,a,b,i,j,rfl,A0,U0,UN0,ok,hn,q1,q2⟩:=h
  have hb:=line_big
  have hr1:Room 1 _:=hr.mono (by decide)
  refine ⟨_,b_cons (s_set (i:=3) scSame.nd rfl (Or.inl rfl) (e_lst (a_cons (e_tup (a_cons (e_v 1) (a_cons (e_v 2) a_nil))) a_nil)))
   (b_one (s_while (passesFly cx_body) (t_truth (e_v 3))
    (b_cons (s_set (i:=4) scSame.nd rfl (Or.inl rfl) (e_bm0 PySem.F.plainAttrs_list PySem.F.slot_list_pop PySem.F.type_list_pop mt_pop (e_v 3)))
    (b_cons (s_set (i:=5) scSame.nd rfl (Or.inl rfl) (e_meth (e_v 0) T.cl mL GL hr1 bL (a_cons (e_ix ix_tup (e_v 4) e_int (fun _ _=>rfl)) a_nil)))
    (b_cons (s_set (i:=6) scSame.nd rfl (Or.inl rfl) (e_meth (e_v 0) T.cl mL GL hr1 bL (a_cons (e_ix ix_tup (e_v 4) e_int (fun _ _=>rfl)) a_nil)))
    (b_cons (s_if (t_cmp op_eq (e_v 5) (e_v 6) (nomark _)) (b_one s_continue) b_nil)
    (b_one (s_if (t_cmp op_eq (e_ix ix_list (e_fld (e_v 0)) (e_v 6) (fun _ _=>rfl)) e_str (nomark _)) (b_one (s_expr (e_meth (e_v 0) T.cl mF GF hr bF (a_cons (e_v 6) (a_cons (e_v 5) a_nil)))))
     (b_one (s_if (t_cmp op_eq (e_ix ix_list (e_fld (e_v 0)) (e_v 5) (fun _ _=>rfl)) e_str (nomark _)) (b_one (s_expr (e_meth (e_v 0) T.cl mF GF hr bF (a_cons (e_v 5) (a_cons (e_v 6) a_nil)))))
      (b_one (s_if (t_cmp op_ne (e_ix ix_list (e_fld (e_v 0)) (e_v 5) (fun _ _=>rfl)) (e_ix ix_list (e_fld (e_v 0)) (e_v 6) (fun _ _=>rfl)) (nomark _))
       (b_one (s_raise cx_body (fun _ _ h=>h) rfl mJ qJ FJ rfl (a_cons e_str a_nil)))
       (b_cons (s_expr (e_meth (e_v 0) T.cl mF GF hr bF (a_cons (e_v 6) (a_cons (e_v 5) a_nil))))
       (b_one (s_expr (e_bm PySem.F.plainAttrs_list PySem.F.slot_list_extend PySem.F.type_list_extend mt_extend (e_v 3) (a_cons (e_listZip rfl rfl rfl mLi rfl mZ (a_cons (e_ix ix_list (e_fld (e_v 0)) (e_v 5) (fun _ _=>rfl)) (a_cons (e_ix ix_list (e_fld (e_v 0)) (e_v 6) (fun _ _=>rfl)) a_nil))) a_nil))))))))))))))))),?_⟩
  refine ⟨_,rfl,_,rfl,by show 2<=sizeLine;omega,fun t0 ht0=>⟨by show 1<=sizeLine;omega,fun lw hlw=>?_⟩⟩
  have nt0:t0≠lw:=fun z=>by rw [<- z,upd_same] at hlw;cases hlw
  have hlw0:H lw=none:=by rw [upd_ne (Ne.symm nt0)] at hlw;exact hlw
  have lwL:lw≠N.l:=Ne.symm (ne_of_none A0.leaders hlw0)
  have lwon:∀ b,NodesAt.on N ls b->b≠lw:=fun b hb=>A0.off hlw0 b hb
  have sm1:Same H (upd (upd H t0 (.tup [.int ((i:Nat):Int),.int ((j:Nat):Int)])) lw (.lst [.ref t0])):=Same.put (Same.new ht0) hlw0
  have rn:∀ rp:Nat->Nat,roots rp G.n<=G.n:=fun rp=>cnt_n _ _
  refine ⟨fun m σ H2=>∃ ws ps par rp rk x4 x5 x6,σ=[some (.ref N.p),some (.int ((i:Nat):Int)),some (.int ((j:Nat):Int)),some (.ref lw),x4,x5,x6]/\m=3 * roots rp G.n+ps.length/\m<=13000/\NodesAt C N H2 G par ls/\UF G.n par rp rk/\Uni G a b i j rp ps/\FrL N H H2/\H2 lw=some (.lst ws)/\PsAt H2 ps ws,
   ⟨_,[.ref t0],[(i,j)],par,id,rk,none,none,none,rfl,rfl,by have:=rn id;simp;omega,A0.same fun b o _ e=>sm1 b o e,U0,UN0,fun b o e _=>sm1 b o e,upd_same,.cons ⟨t0,rfl,by rw [upd_ne nt0,upd_same]⟩ .nil⟩,?_⟩
  rintro m σ H2 ⟨ws,ps,par,rp,rk,x4,x5,x6,rfl,rfl,hm,A2,U2,UN2,fr2,hw2,pw2⟩
  refine ⟨_,rfl,!ws.isEmpty,.inl ⟨ws,SqL.of hw2,rfl⟩,?_⟩
  by_cases hps:ps=[]
  ·subst hps
   cases pw2
   refine iteF ?_
   exact q1 par rp rk H2 A2 U2 (uni_end ok UN2) fr2
  ·obtain ⟨ps',⟨x,y⟩,ws',v,rfl,rfl,pw',t,rfl,ht⟩:=Paired.snoc pw2 hps
   have hne:(!(ws'++[V.ref t]).isEmpty)=true:=by simp
   rw [hne]
   refine iteT ⟨_,fun σ' H' z=>z,?_⟩
   have UN3:Uni G a b i j rp ((x,y)::ps'):=UN2.perm fun p=>by simp [or_comm]
   obtain ⟨hx,hy⟩:=UN3.wb (x,y) List.mem_cons_self
   have hx:x < G.n:=hx
   have hy:y < G.n:=hy
   refine ⟨_,rfl,.inl ⟨rfl,_,SqL.of hw2⟩,lw,_,V.ref t,rfl,rfl,hw2,by simp,?_⟩
   rw [List.dropLast_concat]
   have A3:NodesAt C N (upd H2 lw (.lst ws')) G par ls:=A2.same fun b o hb e=>by rw [upd_ne (lwon b hb)];exact e
   have tlw:t≠lw:=ne_of ht hw2 (by intro z;cases z)
   have ht3:(upd H2 lw (.lst ws')) t=some (.tup [.int ((x:Nat):Int),.int ((y:Nat):Int)]):=by rw [upd_ne tlw];exact ht
   have hw3:(upd H2 lw (.lst ws')) lw=some (.lst ws'):=upd_same
   have pw3:PsAt (upd H2 lw (.lst ws')) ps' ws':=PsAt.mono (TSub.put fun xs z=>by rw [hw2] at z;cases z) pw'
   have fr3:FrL N H (upd H2 lw (.lst ws')):=fun b o e n=>by rw [upd_ne (ne_of_none e hlw0)];exact fr2 b o e n
   generalize upd H2 lw (.lst ws')=H3 at A3 ht3 hw3 pw3 fr3 ⊢
   refine ⟨_,rfl,N.p,N.dx,_,rfl,A3.ins,nf_no N (by decide +kernel),_,rfl,t,_,_,_,rfl,rfl,SqT.of ht3,atI_nat (j:=0) rfl,N,G,ls,par,rp,rk,x,rfl,A3,U2,hx,fun par4 H4 A4 U4 e4=>?_⟩
   have tL:t≠N.l:=ne_of ht3 A3.leaders (by intro z;cases z)
   have ht4:H4 t=some (.tup [.int ((x:Nat):Int),.int ((y:Nat):Int)]):=by rw [e4 t tL];exact ht3
   refine ⟨_,rfl,N.p,N.dx,_,rfl,A4.ins,nf_no N (by decide +kernel),_,rfl,t,_,_,_,rfl,rfl,SqT.of ht4,atI_nat (j:=1) rfl,N,G,ls,par4,rp,rk,y,rfl,A4,U4,hy,fun par5 H5 A5 U5 e5=>?_⟩
   have e35:∀ b,b≠N.l->H5 b=H3 b:=fun b hb=>by rw [e5 b hb,e4 b hb]
   have hw5:H5 lw=some (.lst ws'):=by rw [e35 lw lwL];exact hw3
   have sub5:TSub H3 H5:=fun b xs e=>by rw [e35 b (ne_of e A3.leaders (by intro z;cases z))];exact e
   have pw5:=PsAt.mono sub5 pw3
   have fr5:FrL N H H5:=fun b o e n=>by rw [e35 b n];exact fr3 b o e n
   obtain ⟨ix,ixi⟩:=UN3.idem x hx
   obtain ⟨iy,iyi⟩:=UN3.idem y hy
   have hl0:(ps'++[(x,y)]).length=ps'.length+1:=by simp
   rw [hl0] at hm ⊢
   have glueW:∀ (x4 x5 x6:Option V) (u v:Nat) (par6 rk6:Nat->Nat) (more:List (Nat × Nat)) (ws6:List V) (H6:Hp),u < G.n->v < G.n->rp u=u->rp v=v->u≠v->more.length<=2->NodesAt C N H6 G par6 ls->UF G.n par6 (glue rp v u) rk6->Uni G a b i j (glue rp v u) (ps'++more)->FrL N H H6->H6 lw=some (.lst ws6)->PsAt H6 (ps'++more) ws6 ->
     ∃ m',m' < 3 * roots rp G.n+(ps'.length+1)/\∃ ws ps par rp rk x4' x5' x6',([some (.ref N.p),some (.int ((i:Nat):Int)),some (.int ((j:Nat):Int)),some (.ref lw),x4,x5,x6]:List (Option V))=[some (.ref N.p),some (.int ((i:Nat):Int)),some (.int ((j:Nat):Int)),some (.ref lw),x4',x5',x6']/\m'=3 * roots rp G.n+ps.length/\m'<=13000/\NodesAt C N H6 G par ls/\UF G.n par rp rk/\Uni G a b i j rp ps/\FrL N H H6/\H6 lw=some (.lst ws)/\PsAt H6 ps ws:=by
    intro x4 x5 x6 u v par6 rk6 more ws6 H6 hu hv ru rv hne hml A6 U6 UN6 fr6 hw6 pw6
    have hr0:=roots_glue (n:=G.n) hv ru rv hne
    have hml2:(ps'++more).length=ps'.length+more.length:=List.length_append
    exact ⟨3 * roots (glue rp v u) G.n+(ps'++more).length,by omega,ws6,ps'++more,par6,glue rp v u,rk6,x4,x5,x6,rfl,rfl,by omega,A6,U6,UN6,fr6,hw6,pw6⟩
   refine ⟨_,rfl,_,rfl,rfl,_,rfl,?_⟩
   by_cases exy:rp x=rp y
   ·refine iteP (by simp [exy]) ?_
    exact ⟨3 * roots rp G.n+ps'.length,by omega,ws',ps',par5,rp,rk,_,_,_,rfl,rfl,by omega,A5,U5,uni_same UN3 exy,fr5,hw5,pw5⟩
   ·refine iteN (by simp;omega) ?_
    have tgx:=ok.tg _ ix
    have tgy:=ok.tg _ iy
    have frSet:∀ {H6:Hp},(∀ b o,H5 b=some o->b≠N.l->H6 b=some o)->FrL N H H6:=fun {H6} k b ob e n=>k b ob (fr5 b ob e n) n
    have lwSet:∀ {H6:Hp},(∀ b o,H5 b=some o->b≠N.l->H6 b=some o)->H6 lw=some (.lst ws'):=fun {H6} k=>k lw _ hw5 lwL
    have pwSet:∀ {H6:Hp},(∀ b o,H5 b=some o->b≠N.l->H6 b=some o)->PsAt H6 ps' ws':=fun {H6} k=>PsAt.mono (fun b xs e=>k b _ e (ne_of e A5.leaders (by intro z;cases z))) pw5
    refine ⟨_,rfl,N.p,C,N.dx,_,_,rfl,A5.ins,T.cl,T.nS,nf_s N,_,rfl,N.s,_,_,_,rfl,rfl,SqL.of A5.sorts,atI_nat (lsS_at iy),rfl,_,rfl,?_⟩
    rw [word_any tgy]
    by_cases e2:G.tg (rp y)=2
    ·refine iteP (by simp [e2]) ?_
     refine ⟨_,rfl,N.p,N.dx,_,rfl,A5.ins,nf_no N (by decide +kernel),_,rfl,_,rfl,N,G,ls,par5,rp,rk,rp y,rp x,rfl,A5,U5,ix,iy,ixi,iyi,exy,fun par6 rk6 H6 A6 U6 k6=>?_⟩
     exact glueW _ _ _ (rp x) (rp y) par6 rk6 [] ws' _ ix iy ixi iyi exy (by simp) A6 U6 (by rw [List.append_nil];exact uni_any UN3 (.inl ⟨rfl,rfl⟩) exy e2) (frSet k6) (lwSet k6) (by rw [List.append_nil];exact pwSet k6)
    ·refine iteN (by simp [e2]) ?_
     refine ⟨_,rfl,N.p,C,N.dx,_,_,rfl,A5.ins,T.cl,T.nS,nf_s N,_,rfl,N.s,_,_,_,rfl,rfl,SqL.of A5.sorts,atI_nat (lsS_at ix),rfl,_,rfl,?_⟩
     rw [word_any tgx]
     by_cases e1:G.tg (rp x)=2
     ·refine iteP (by simp [e1]) ?_
      refine ⟨_,rfl,N.p,N.dx,_,rfl,A5.ins,nf_no N (by decide +kernel),_,rfl,_,rfl,N,G,ls,par5,rp,rk,rp x,rp y,rfl,A5,U5,iy,ix,iyi,ixi,Ne.symm exy,fun par6 rk6 H6 A6 U6 k6=>?_⟩
      exact glueW _ _ _ (rp y) (rp x) par6 rk6 [] ws' _ iy ix iyi ixi (Ne.symm exy) (by simp) A6 U6 (by rw [List.append_nil];exact uni_any UN3 (.inr ⟨rfl,rfl⟩) (Ne.symm exy) e1) (frSet k6) (lwSet k6) (by rw [List.append_nil];exact pwSet k6)
     ·refine iteN (by simp [e1]) ?_
      refine ⟨_,rfl,N.p,C,N.dx,_,_,rfl,A5.ins,T.cl,T.nS,nf_s N,_,rfl,N.s,_,_,_,rfl,rfl,SqL.of A5.sorts,atI_nat (lsS_at ix),_,rfl,N.p,C,N.dx,_,_,rfl,A5.ins,T.cl,T.nS,nf_s N,_,rfl,N.s,_,_,_,rfl,rfl,SqL.of A5.sorts,atI_nat (lsS_at iy),rfl,_,rfl,?_⟩
      rw [word_two tgx tgy]
      by_cases e3:G.tg (rp x)=G.tg (rp y)
      ·refine iteN (by simp [e3]) ?_
       refine ⟨_,rfl,N.p,N.dx,_,rfl,A5.ins,nf_no N (by decide +kernel),_,rfl,_,rfl,N,G,ls,par5,rp,rk,rp y,rp x,rfl,A5,U5,ix,iy,ixi,iyi,exy,fun par6 rk6 H6 A6 U6 k6=>?_⟩
       have hw6:=lwSet k6
       have fr6:=frSet k6
       have pw6:=pwSet k6
       obtain ⟨l1,hl1⟩:∃ l1,ls[rp x]?=some l1:=⟨_,List.getElem?_eq_getElem (by rw [A6.len];exact ix)⟩
       obtain ⟨l2,hl2⟩:∃ l2,ls[rp y]?=some l2:=⟨_,List.getElem?_eq_getElem (by rw [A6.len];exact iy)⟩
       have lenE:(G.ch (rp x)).length=(G.ch (rp y)).length:=by rw [ok.ar _ ix,ok.ar _ iy,e3]
       have len2:(G.ch (rp x)).length<=2:=by
        rw [ok.ar _ ix]
        unfold arity
        split <;> omega
       refine ⟨_,rfl,.inl ⟨rfl,_,SqL.of hw6⟩,_,rfl,N.p,C,N.dx,_,_,rfl,A6.ins,T.cl,T.nI,nf_i N,_,rfl,N.i,_,_,_,rfl,rfl,SqL.of A6.inner,atI_nat (v:=V.ref l1) (by rw [List.getElem?_map,hl1];rfl),_,rfl,N.p,C,N.dx,_,_,rfl,A6.ins,T.cl,T.nI,nf_i N,_,rfl,N.i,_,_,_,rfl,rfl,SqL.of A6.inner,atI_nat (v:=V.ref l2) (by rw [List.getElem?_map,hl2];rfl),
        l1,l2,_,_,rfl,.inl ⟨A6.chs _ _ hl1,A6.chs _ _ hl2⟩,by simp [lsC];exact lenE,by simp [lsC];omega,fun l ts H7 hl0 sm7 hl7 lts hts=>?_⟩
       have hw7:=sm7 _ _ hw6
       have psl:ws'.length=ps'.length:=(Paired.length pw6).symm
       have tsl:ts.length<=2:=by rw [lts];simp [lsC];omega
       have llw:l≠lw:=fun z=>by rw [z,hw6] at hl0;cases hl0
       refine ⟨lw,l,ws',ts.map V.ref,rfl,rfl,hw7,hl7,by rw [List.length_map];omega,?_⟩
       have A7:NodesAt C N (upd H7 lw (.lst (ws'++ts.map V.ref))) G par6 ls:=A6.same fun b o hb e=>by rw [upd_ne (lwon b hb)];exact sm7 b o e
       have sub7:TSub H7 (upd H7 lw (.lst (ws'++ts.map V.ref))):=TSub.put fun xs z=>by rw [hw7] at z;cases z
       have US:=uni_struct ok UN3 exy e1 e3
       refine glueW _ _ _ (rp x) (rp y) par6 rk6 ((G.ch (rp x)).zip (G.ch (rp y))) _ _ ix iy ixi iyi exy (by rw [List.length_zip];omega) A7 U6 (US.perm fun p=>by simp [or_comm]) (fun b o e n=>?_) upd_same ?_
       ·rw [upd_ne (ne_of_none e hlw0)];exact sm7 b o (fr6 b o e n)
       ·exact Paired.app (PsAt.mono (TSub.trans (TSub.of_same sm7) sub7) pw6) (PsAt.mono sub7 (psat_zip (by rw [lts];simp [lsC]) lenE hts))
      ·refine iteP (by simp [e3]) ?_
       exact ⟨by simp,q2 (fun T0=>uni_differ ok UN3 e1 e2 e3 T0) H5 fr5⟩
end
end K
namespace K
open PySem L2 KM KS
abbrev nUnder:List Str:=["self","tops","made","number","gap","begun","waiting","at","inner","missing"]
def inWhile (s:Stmt)(j:Nat):Stmt:=match s with
 | .While _ b _ _=>b.getD j noStmt
 | _=>noStmt
def xU1:Expr:=valueOf (inDef s_Nodes_kinds_under 3)
def xU2:Expr:=valueOf (inWhile (inDef s_Nodes_kinds_under 4) 2)
def xU3:Expr:=match inWhile (inDef s_Nodes_kinds_under 4) 3 with
 | .If _ _ [.If _ [.Assign _ (.BinOp _ _ (.Call _ [e] _ _) _) _] _ _] _=>e
 | _=>.Constant .none 0 ⟨0,0,0,0⟩
def mI (md:Nat->Option Kd)(k:Int):Option Kd:=if 0<=k then md k.toNat else none
theorem mI_nat (md:Nat->Option Kd)(r:Nat):mI md (r:Int)=md r:=by
 unfold mI
 rw [if_pos (by omega),Int.toNat_natCast]
theorem mI_put (md:Nat->Option Kd)(r:Nat)(t:Kd):mI (updK md r t)=fun j=>if j=(r:Int) then some t else mI md j:=by
 funext j
 by_cases e:j=(r:Int)
 ·rw [if_pos e,e,mI_nat]
  exact if_pos rfl
 ·rw [if_neg e]
  unfold mI
  by_cases h0:0<=j
  ·rw [if_pos h0,if_pos h0]
   exact if_neg (fun z=>e (by omega))
  ·rw [if_neg h0,if_neg h0]
theorem kat_mk {H:Hp}{g:Nat}{ts:List Kd}{vs:List V}{a:Addr}(h6:g < 6)(h2:g≠2)(hl:ts.length=arity g)(hv:KAts H ts vs)(ha:H a=some (.tup (.str (wordN g)::vs))):KAt H (mkK g ts) (.ref a):=by
 have c:g=0\/g=1\/g=3\/g=4\/g=5:=by omega
 rcases c with rfl | rfl | rfl | rfl | rfl <;> simp only [arity] at hl
 ·rw [List.length_eq_zero_iff.mp hl] at hv
  cases hv
  exact ⟨a,rfl,ha⟩
 ·rw [List.length_eq_zero_iff.mp hl] at hv
  cases hv
  exact ⟨a,rfl,ha⟩
 ·match ts,hl with
  | [t1,t2],_=>exact KAt.mk (t:=.fn t1 t2) rfl ha hv
 ·match ts,hl with
  | [t1,t2],_=>exact KAt.mk (t:=.pr t1 t2) rfl ha hv
 ·match ts,hl with
  | [t1],_=>exact KAt.mk (t:=.ls t1) rfl ha hv
structure USt (C:Addr)(N:NA)(G:Gr)(ls:List Addr)(rp rk:Nat->Nat)(H:Hp)(dm db lw:Addr)(H2:Hp)(par:Nat->Nat)(md:Nat->Option Kd)(bg:Nat->Bool)(kvs kvsB:List (Key × V))(stk:List Nat):Prop where
 at_:NodesAt C N H2 G par ls
 g:H2 N.g=some (.dK (dG G.gs))
 uf:UF G.n par rp rk
 fr:FrL N H H2
 m:H2 dm=some (.dK kvs)
 dk:DictK H2 kvs (mI md)
 b:H2 db=some (.dK kvsB)
 bk:∀ r:Nat,(valV kvsB (Sum.inl (r:Int):Key)).isSome=bg r
 w:H2 lw=some (.lst (lsC stk.reverse))
theorem USt.same {C:Addr}{N:NA}{G:Gr}{ls:List Addr}{rp rk:Nat->Nat}{H:Hp}{dm db lw:Addr}{H2 H3:Hp}{par:Nat->Nat}{md:Nat->Option Kd}{bg:Nat->Bool}{kvs kvsB:List (Key × V)}{stk:List Nat}(U:USt C N G ls rp rk H dm db lw H2 par md bg kvs kvsB stk)(s:Same H2 H3):USt C N G ls rp rk H dm db lw H3 par md bg kvs kvsB stk :=
 ⟨U.at_.same fun b o _ e=>s b o e,s _ _ U.g,U.uf,fun b o e n=>s b o (U.fr b o e n),s _ _ U.m,DictK.mono (TSub.of_same s) U.dk,s _ _ U.b,U.bk,s _ _ U.w⟩
section
variable {Pr:Program}{w:World}{K:PySem.W.Frag}{mg:Str->Option Value}{base:Heap}
theorem scUnder:FnScope nUnder ["self","tops"] (defScope s_Nodes_kinds_under):=⟨rfl,rfl,rfl,by decide +kernel,rfl,by decide +kernel,by decide +kernel⟩
def spUnder (C CJ:Addr):Sp:=fun vs H Q E=>∃ (N:NA) (G:Gr) (ls:List Addr) (par rp rk:Nat->Nat) (a b:Kd) (i0 j0 i:Nat) (lt:Addr),vs=[.ref N.p,.ref lt]/\H lt=some (.lst (lsC [i]))/\lt≠N.l/\NodesAt C N H G par ls/\H N.g=some (.dK (dG G.gs))/\UF G.n par rp rk/\Solved G a b i0 j0 rp/\i < G.n/\G.n<=4000 /\
 (∀ d kvs md par' t H',NodesAt C N H' G par' ls->H' N.g=some (.dK (dG G.gs))->UF G.n par' rp rk->Mad G rp md->md (rp i)=some t->FrL N H H'->H d=none->H' d=some (.dK kvs)->DictK H' kvs (fun k=>if 0<=k then md k.toNat else none)->Q (.ref d) H')/\((∀ T,fillT T a≠fillT T b)->∀ H',FrL N H H'->E (.ref CJ) none H')
theorem ok_under {f C CJ fL fIn:Addr}{fd fdL fdIn:FuncData}{bJ:List Value}{nJ:String}(F:Fun K "kinds_under" "Nodes.kinds_under" s_Nodes_kinds_under f fd)(T:NTxt K mg C)(mJ:mg "NoJoin"=some (.ref CJ))(qJ:PySem.W.excIn K CJ bJ nJ=true){initId Bn:String}(FJ:ExcBaseFacts Bn nJ initId bJ)(mT:mg "tuple"=none)
  (GL:FnOk Pr w K mg base CX0 1 fL fdL ["self","node"] (spLeader C)) (bL:Binds K fdL ["self","node"] []) (mL:Meth K C "leader" fL)
  (GIn:FnOk Pr w K mg base CX0 2 fIn fdIn ["self","node"] (spInner C)) (bIn:Binds K fdIn ["self","node"] []) (mIn:Meth K C "inner_leaders" fIn) :
  FnOk Pr w K mg base (CX1 Pr w) 3 f fd ["self","tops"] (spUnder C CJ):=by
 refine F.okX scUnder (fun vs H Q E h=>?_) (fun cdv A outer s H vs Q E hr h=>?_)
 ·obtain ⟨N,G,ls,par,rp,rk,a,b,i0,j0,i,lt,rfl,_⟩:=h
  rfl
 ·obtain ⟨N,G,ls,par,rp,rk,a,b,i0,j0,i,lt,rfl,hlt,nlt,A0,hg0,U0,SV,hi,hn,q1,q2⟩:=h
  have hr1:Room 1 _:=hr.mono (by decide)
  have hb:=line_big
  have hu:=hu_of hr
  have S1:CompSc (flyX Pr w K mg base nUnder "Nodes.kinds_under" (defScope s_Nodes_kinds_under) f cdv A outer s H E) (scopeOf xU1) [("self",s.heap.objs.size+1)] ["node"] ["self"] [0] :=
   ⟨rfl,by decide +kernel,rfl,by decide +kernel,rfl,rfl,rfl,rfl⟩
  have S2:CompSc (flyX Pr w K mg base nUnder "Nodes.kinds_under" (defScope s_Nodes_kinds_under) f cdv A outer s H E) (scopeOf xU2) [("made",s.heap.objs.size+2)] ["part"] ["made"] [2] :=
   ⟨rfl,by decide +kernel,rfl,by decide +kernel,rfl,rfl,rfl,rfl⟩
  have S3:CompSc (flyX Pr w K mg base nUnder "Nodes.kinds_under" (defScope s_Nodes_kinds_under) f cdv A outer s H E) (scopeOf xU3) [("made",s.heap.objs.size+2)] ["part"] ["made"] [2] :=
   ⟨rfl,by decide +kernel,rfl,by decide +kernel,rfl,rfl,rfl,rfl⟩
  have nd1:(["node","self"]:List Str).Nodup:=by decide +kernel
  have nd2:(["part","made"]:List Str).Nodup:=by decide +kernel
  refine ⟨_,b_cons (s_set (i:=2) scUnder.nd rfl (Or.inr rfl) e_dnew)
   (b_cons (s_thaw (s_for (passesFly cx_body) rfl (i_items (e_bm0 PySem.F.plainAttrs_dict PySem.F.slot_dict_items PySem.F.type_dict_items mt_items (e_fld (e_v 0)))) (g_tup rfl (gs_cons (g_name (i:=3) scUnder.nd rfl (Or.inl rfl)) (gs_cons (g_name (i:=4) scUnder.nd rfl (Or.inl rfl)) gs_nil)))
    (b_one (s_dput hu (e_v 2) (e_v 4) (e_tup (a_cons e_str (a_cons (e_v 3) a_nil))) rfl))))
   (b_cons (s_set (i:=5) scUnder.nd rfl (Or.inl rfl) e_dnew)
   (b_cons (s_comp (i:=6) scUnder.nd rfl (Or.inl rfl) (te:=tMeth C "leader" (spLeader C) [] E0 (tVar 1) (tCons (tVar 0) tNil)) S1 rfl (i_list (e_v 1)) (fun C' s0 H0 ex=>g_name (i:=0) nd1 rfl (Or.inl rfl)) (fun _ _ _ _=>f_nil) (fun C' s0 H0 ex=>e_meth (e_v 1) T.cl mL GL hr1 bL (a_cons (e_v 0) a_nil)))
   (b_cons (s_while (passesFly cx_body) (t_truth (e_v 6))
    (b_cons (s_set (i:=7) scUnder.nd rfl (Or.inl rfl) (e_ix ix_list (e_v 6) ⟨pe_un un_neg pe_int⟩ (fun _ _=>rfl)))
    (b_cons (s_set (i:=8) scUnder.nd rfl (Or.inl rfl) (e_meth (e_v 0) T.cl mIn GIn hr bIn (a_cons (e_v 7) a_nil)))
    (b_cons (s_comp (i:=9) scUnder.nd rfl (Or.inl rfl) (tt:=tB (tDNotIn (tVar 0) (tVar 1))) (te:=tVar 0) S2 rfl (i_list (e_v 8)) (fun C' s0 H0 ex=>g_name (i:=0) nd2 rfl (Or.inl rfl)) (fun C' s0 H0 ex=>f_one (t_dnotin hu (e_v 0) (e_v 1))) (fun C' s0 H0 ex=>e_v 0))
    (b_one (s_if (t_din hu (e_v 7) (e_v 2)) (b_one (s_expr (e_bm0 PySem.F.plainAttrs_list PySem.F.slot_list_pop PySem.F.type_list_pop mt_pop (e_v 6))))
     (b_one (s_if (t_not (t_truth (e_v 9))) (b_one (s_dput hu (e_v 2) (e_v 7) (e_op op_catT (e_tup (a_cons (e_ix ix_list (e_fld (e_v 0)) (e_v 7) (fun _ _=>rfl)) a_nil)) (e_callTy call_tuple_of rfl mT PyProof.Rows.boot_tuple (a_cons (e_comp (te:=tDGet (tVar 1) (tVar 0)) S3 rfl (i_list (e_v 8)) (fun C' s0 H0 ex=>g_name (i:=0) nd2 rfl (Or.inl rfl)) (fun _ _ _ _=>f_nil) (fun C' s0 H0 ex=>e_dget hu (e_v 1) (e_v 0) (fun _ _=>rfl))) a_nil))) rfl))
      (b_one (s_if (t_din hu (e_v 7) (e_v 5)) (b_one (s_raise cx_body (fun _ _ h=>h) rfl mJ qJ FJ rfl (a_cons e_str a_nil)))
       (b_cons (s_dput hu (e_v 5) (e_v 7) e_bl rfl) (b_one (s_expr (e_bm PySem.F.plainAttrs_list PySem.F.slot_list_extend PySem.F.type_list_extend mt_extend (e_v 6) (a_cons (e_v 9) a_nil)))))))))))))))
   (b_one (s_ret (e_v 2))))))),?_⟩
  have K0:=SV.ok
  intro dm hdm
  have nfg:∀ o' u',H N.g≠some (.frz o' u'):=fun o' u' z=>by rw [hg0] at z;cases z
  have offH:∀ z,H z=none->∀ b,NodesAt.on N ls b->b≠z:=fun z hz b hb=>A0.off hz b hb
  have ng:N.g≠dm:=offH dm hdm N.g (.inr (.inr (.inr (.inr (.inl rfl)))))
  have sm1:Same H (upd H dm (.dK [])):=Same.new hdm
  have A1:NodesAt C N (upd H dm (.dK [])) G par ls:=A0.same fun b o _ e=>sm1 b o e
  have hg1:=sm1 _ _ hg0
  have hdm1:(upd H dm (.dK [])) dm=some (.dK []):=upd_same
  generalize upd H dm (.dK [])=H1 at sm1 A1 hg1 hdm1 ⊢
  refine ⟨_,rfl,N.p,C,N.dx,_,_,rfl,A1.ins,T.cl,T.nG,nf_g N,.inr (.inr (.inl ⟨rfl,.inl ⟨_,hg1⟩⟩)),N.g,dG G.gs,rfl,rfl,hg1,fun vw hvw=>⟨vw,N.g,dG G.gs,rfl,upd_same,by rw [upd_ne (ne_of_none hg1 hvw)];exact hg1,fun o=>?_⟩⟩
  have sm2:Same H1 (upd H1 vw (ViewO vw N.g)):=Same.new hvw
  have gsl:(dG G.gs).length=G.gs.length:=by simp [dG]
  have gsn:=gs_len K0
  refine for_items (o:=o) (d:=N.g) (kvs:=dG G.gs) (fun k σ H3=>∃ kvs md x3 x4,σ=[some (.ref N.p),some (.ref lt),some (.ref dm),x3,x4,none,none,none,none,none]/\(∀ b o',H b=some o'->b≠N.g->H3 b=some o')/\H3 N.g=some (.frz o (.dK (dG G.gs)))/\H3 dm=some (.dK kvs)/\kvs.length<=k/\DictK H3 kvs (mI md) /\
    (∀ r t,md r=some t->∃ q∈G.gs.take k,q.2=r/\t=.gap q.1)/\∀ q∈G.gs.take k,md q.2=some (.gap q.1))
   ⟨[],fun _=>none,none,none,rfl,fun b o' e n=>by rw [upd_ne n];exact sm2 b o' (sm1 b o' e),upd_same,by rw [upd_ne (Ne.symm ng)];exact sm2 _ _ hdm1,Nat.le_refl _,fun k=>.inl ⟨rfl,by unfold mI;split <;> rfl⟩,(fun r t h=>by cases h),(fun q h=>by cases h)⟩ (fun k σ H3 _ z=>?_) (fun k p σ H3 tT hp z htT=>?_) (fun σ H3 z=>?_)
  ·obtain ⟨_,_,_,_,_,_,z,_⟩:=z
   exact z
  ·obtain ⟨kvs,md,x3,x4,rfl,fr3,hg3,hdm3,hkl,dk3,md1,md2⟩:=z
   unfold dG at hp
   rw [List.getElem?_map] at hp
   cases eq:G.gs[k]? with
   | none=>rw [eq] at hp;cases hp
   | some q =>
    rw [eq] at hp
    cases hp
    have hqm:=List.mem_of_getElem? eq
    obtain ⟨qn,qt,qg⟩:=K0.gs q.1 q.2 hqm
    have hkn:k < G.gs.length:=(List.getElem?_eq_some_iff.mp eq).1
    refine ⟨tT,_,rfl,SqT.of upd_same,rfl,_,_,rfl,_,_,rfl,rfl,?_⟩
    have sm4:Same H3 (upd H3 tT (.tup [.int q.1,.int ((q.2:Nat):Int)])):=Same.new htT
    refine ⟨_,rfl,by show 2<=sizeLine;omega,fun pt hpt=>?_⟩
    have sm5:Same (upd H3 tT (.tup [.int q.1,.int ((q.2:Nat):Int)])) (upd (upd H3 tT (.tup [.int q.1,.int ((q.2:Nat):Int)])) pt (.tup [.str "any",.int q.1])):=Same.new hpt
    have kpt:KAt (upd (upd H3 tT (.tup [.int q.1,.int ((q.2:Nat):Int)])) pt (.tup [.str "any",.int q.1])) (.gap q.1) (.ref pt):=⟨pt,rfl,upd_same⟩
    have smA:=Same.trans sm4 sm5
    have hdmA:=smA _ _ hdm3
    have hgA:=smA _ _ hg3
    refine ⟨_,rfl,_,rfl,dm,_,rfl,DPut.k (k:=Sum.inl ((q.2:Nat):Int)) hdmA (by omega),?_⟩
    have sub:TSub (upd (upd H3 tT (.tup [.int q.1,.int ((q.2:Nat):Int)])) pt (.tup [.str "any",.int q.1])) (upd (upd (upd H3 tT (.tup [.int q.1,.int ((q.2:Nat):Int)])) pt (.tup [.str "any",.int q.1])) dm (.dK (putK kvs (Sum.inl ((q.2:Nat):Int):Key) (.ref pt)))):=TSub.put fun xs z=>by rw [hdmA] at z;cases z
    refine ⟨_,updK md q.2 (.gap q.1),_,_,rfl,fun b o' e n=>?_,by rw [upd_ne ng];exact hgA,upd_same,?_,?_,fun r t h=>?_,fun q' hq'=>?_⟩
    ·rw [upd_ne (ne_of_none e hdm)];exact smA b o' (fr3 b o' e n)
    ·have:=(putK_len kvs (Sum.inl ((q.2:Nat):Int):Key) (.ref pt)).1;omega
    ·rw [mI_put]
     exact DictK.put (DictK.mono (TSub.trans (TSub.of_same smA) sub) dk3) (KAt.mono sub kpt)
    ·rw [List.take_add_one,eq]
     have h:(if r=q.2 then some (Kd.gap q.1) else md r)=some t:=h
     by_cases z:r=q.2
     ·rw [if_pos z] at h
      cases h
      exact ⟨q,List.mem_append_right _ (List.mem_singleton.mpr rfl),z.symm,rfl⟩
     ·rw [if_neg z] at h
      obtain ⟨q',h1,h2⟩:=md1 r t h
      exact ⟨q',List.mem_append_left _ h1,h2⟩
    ·rw [List.take_add_one,eq] at hq'
     show (if q'.2=q.2 then some (Kd.gap q.1) else md q'.2)=_
     rcases List.mem_append.mp hq' with z | z
     ·by_cases y:q'.2=q.2
      ·rw [if_pos y]
       have:=(K0.gs q'.1 q'.2 (List.mem_of_mem_take z)).2.2
       rw [y,qg] at this
       rw [this]
      ·rw [if_neg y];exact md2 q' z
     ·rw [List.mem_singleton.mp z,if_pos rfl]
  ·obtain ⟨kvs,md,x3,x4,rfl,fr3,hg3,hdm3,hkl,dk3,md1,md2⟩:=z
   rw [gsl,List.take_length] at md1 md2
   have emd:md=gapsMade G:=by
    funext r
    unfold gapsMade
    by_cases z:r < G.n/\G.tg r=2
    ·rw [if_pos z];exact md2 _ (K0.gg r z.1 z.2)
    ·rw [if_neg z]
     cases e:md r with
     | none=>rfl
     | some t =>
      obtain ⟨q,hq,e1,e2⟩:=md1 r t e
      obtain ⟨g1,g2,_⟩:=K0.gs q.1 q.2 hq
      rw [e1] at g1 g2
      exact absurd ⟨g1,g2⟩ z
   subst emd
   refine .inr ⟨N.g,o,dG G.gs,hg3,nfg,?_⟩
   have sm4:Same H (upd H3 N.g (.dK (dG G.gs))):=fun b o' e=>by
    by_cases z:b=N.g
    ·subst z;rw [hg0] at e;cases e;exact upd_same
    ·rw [upd_ne z];exact fr3 b o' e z
   have hdm4:(upd H3 N.g (.dK (dG G.gs))) dm=some (.dK kvs):=by rw [upd_ne (Ne.symm ng)];exact hdm3
   have dk4:DictK (upd H3 N.g (.dK (dG G.gs))) kvs (mI (gapsMade G)):=DictK.mono (TSub.put fun xs z=>by rw [hg3] at z;cases z) dk3
   generalize upd H3 N.g (.dK (dG G.gs))=H4 at sm4 hdm4 dk4 ⊢
   intro db hdb
   have ndb:dm≠db:=ne_of_none hdm4 hdb
   have hdb0:H db=none:=sm4.free hdb
   have sm5:Same H4 (upd H4 db (.dK [])):=Same.new hdb
   have hdb5:(upd H4 db (.dK [])) db=some (.dK []):=upd_same
   have hdm5:=sm5 _ _ hdm4
   have dk5:=DictK.mono (TSub.of_same sm5) dk4
   have smH5:=Same.trans sm4 sm5
   generalize upd H4 db (.dK [])=H5 at sm5 hdb5 hdm5 dk5 smH5 ⊢
   have A5:NodesAt C N H5 G par ls:=A0.same fun b o _ e=>smH5 b o e
   refine ⟨_,rfl,lt,rfl,⟨_,SqL.of (smH5 _ _ hlt)⟩,lead_all T A5 U0 (smH5 _ _ hlt) nlt (fun c hc=>by rw [List.mem_singleton.mp hc];exact hi) (by simp) rfl fun par6 H6 A6 U6 e6=>?_⟩
   intro lw hlw
   show tSeq _ _ _ _ (upd H6 lw (.lst [.int ((rp i:Nat):Int)]))
   have NL:∀ z,H z=none->z≠N.l:=fun z hz=>Ne.symm (offH z hz N.l (.inr (.inr (.inr (.inl rfl)))))
   have NG:∀ z,H z=none->z≠N.g:=fun z hz=>Ne.symm (offH z hz N.g (.inr (.inr (.inr (.inr (.inl rfl))))))
   have hg5:=smH5 _ _ hg0
   have ngl:N.g≠N.l:=ne_of hg0 A0.leaders (by intro z;cases z)
   have sub6:TSub H5 H6:=fun b xs e=>by rw [e6 b (ne_of e A5.leaders (by intro z;cases z))];exact e
   have smL:Same H6 (upd H6 lw (.lst [.int ((rp i:Nat):Int)])):=Same.new hlw
   have hlw0:H lw=none:=by
    cases z:H lw with
    | none=>rfl
    | some o' =>
     by_cases y:lw=N.l
     ·rw [y,A6.leaders] at hlw;cases hlw
     ·rw [e6 lw y,smH5 _ _ z] at hlw;cases hlw
   have hdm6:H6 dm=some (.dK kvs):=by rw [e6 dm (NL dm hdm)];exact hdm5
   have hdb6:H6 db=some (.dK []):=by rw [e6 db (NL db hdb0)];exact hdb5
   have nml:dm≠lw:=ne_of_none hdm6 hlw
   have nbl:db≠lw:=ne_of_none hdb6 hlw
   have keepN:∀ {H2 H3:Hp} {par:Nat->Nat},NodesAt C N H2 G par ls->(∀ b o,b≠dm->b≠db->b≠lw->H2 b=some o->H3 b=some o)->NodesAt C N H3 G par ls:=fun A' hk=>A'.same fun b o hb e=>hk b o (offH dm hdm b hb) (offH db hdb0 b hb) (offH lw hlw0 b hb) e
   have ix:=U0.idem i hi
   have U1:USt C N G ls rp rk H dm db lw (upd H6 lw (.lst [.int ((rp i:Nat):Int)])) par6 (gapsMade G) (fun _=>false) kvs [] [rp i] :=
    ⟨A6.same fun b o _ e=>smL b o e,smL _ _ (by rw [e6 _ ngl];exact hg5),U6,fun b o' e n=>smL b o' (by rw [e6 b n];exact smH5 b o' e),smL _ _ hdm6,DictK.mono (TSub.trans sub6 (TSub.of_same smL)) dk5,smL _ _ hdb6,fun r=>rfl,upd_same⟩
   rw [gsl] at hkl
   have c1:=cnt_n (fun r=>(gapsMade G r).isNone) G.n
   have c2:=cnt_n (fun r=>!(fun _:Nat=>false) r) G.n
   refine ⟨fun m σ H2=>∃ par md bg kvs kvsB stk x7 x8 x9,σ=[some (.ref N.p),some (.ref lt),some (.ref dm),x3,x4,some (.ref db),some (.ref lw),x7,x8,x9]/\m=left G md bg stk/\m<=17000/\USt C N G ls rp rk H dm db lw H2 par md bg kvs kvsB stk/\Dfs G rp (rp i) md bg stk/\kvs.length+cnt (fun r=>(md r).isNone) G.n<=9000/\kvsB.length+cnt (fun r=>!bg r) G.n<=9000,
    ⟨_,par6,gapsMade G,fun _=>false,kvs,[],[rp i],none,none,none,rfl,rfl,by show cnt (fun r=>(gapsMade G r).isNone) G.n+3 * cnt (fun r=>!(fun _:Nat=>false) r) G.n+1<=17000;omega,U1,dfs_start ix.1 ix.2,by omega,by show 0+cnt (fun r=>!(fun _:Nat=>false) r) G.n<=9000;omega⟩,?_⟩
   rintro m σ H2 ⟨par,md,bg,kvs,kvsB,stk,x7,x8,x9,rfl,rfl,hm,U2,D2,hk1,hk2⟩
   refine ⟨_,rfl,!(lsC stk.reverse).isEmpty,.inl ⟨_,SqL.of U2.w,rfl⟩,?_⟩
   cases stk with
   | nil =>
    refine iteF ⟨_,rfl,?_⟩
    obtain ⟨t,ht⟩:=dfs_end D2
    exact q1 dm kvs md par t H2 U2.at_ U2.g U2.uf D2.mad ht U2.fr hdm U2.m U2.dk
   | cons x rest =>
    have hne:(!(lsC (x::rest).reverse).isEmpty)=true:=by simp [lsC]
    rw [hne]
    refine iteT ⟨_,fun σ' H' z=>z,?_⟩
    have hx:=(D2.sub x List.mem_cons_self).1
    have ew:lsC (x::rest).reverse=lsC rest.reverse++[V.int ((x:Nat):Int)]:=by rw [List.reverse_cons,lsC_app];rfl
    have hlen:rest.length<=17000:=by unfold left at hm;simp at hm;omega
    refine ⟨_,rfl,1,rfl,lw,_,_,_,rfl,rfl,SqL.of U2.w,by rw [ew];exact atI_last _ _,?_⟩
    have chl:(G.ch x).length<=2:=by
     rw [K0.ar _ hx]
     unfold arity
     split <;> omega
    refine ⟨_,rfl,N.p,N.dx,_,rfl,U2.at_.ins,nf_no N (by decide +kernel),_,rfl,N,G,ls,par,rp,rk,x,rfl,U2.at_,U2.uf,hx,(fun c hc=>by have:=K0.lt x hx c hc;omega),chl,fun par3 li H4 A4 U4' hli0 hli4 f4=>?_⟩
    ·have sub3:TSub H2 H4:=fun b xs e=>by rw [f4 b (ne_of e U2.at_.leaders (by intro z;cases z)) (ne_of_none e hli0)];exact e
     have lwL:=NL lw hlw0
     have U4:USt C N G ls rp rk H dm db lw H4 par3 md bg kvs kvsB (x::rest) :=
      ⟨A4,by rw [f4 _ ngl (ne_of_none U2.g hli0)];exact U2.g,U4',fun b o' e n=>by rw [f4 b n (ne_of_none (U2.fr b o' e n) hli0)];exact U2.fr b o' e n,by rw [f4 dm (NL dm hdm) (ne_of_none U2.m hli0)];exact U2.m,DictK.mono sub3 U2.dk,by rw [f4 db (NL db hdb0) (ne_of_none U2.b hli0)];exact U2.b,U2.bk,by rw [f4 lw lwL (ne_of_none U2.w hli0)];exact U2.w⟩
     have inl:((G.ch x).map rp).length<=2:=by rw [List.length_map];exact chl
     refine ⟨_,rfl,li,rfl,⟨_,SqL.of hli4⟩,?_⟩
     have inMade:∀ r:Nat,(valV kvs (Sum.inl (r:Int):Key)).isSome=(md r).isSome:=fun r=>by
      rcases U4.dk (r:Int) with ⟨z1,z2⟩ | ⟨v,t,z1,z2,_⟩
      ·rw [mI_nat] at z2;rw [z1,z2];rfl
      ·rw [mI_nat] at z2;rw [z1,z2];rfl
     refine comp_list (K:=K) (a:=li) (xs:=lsC ((G.ch x).map rp)) (fun k ys H5=>H5=H4/\ys=lsC ((((G.ch x).map rp).take k).filter fun c=>(md c).isNone)) ⟨rfl,by simp [lsC]⟩ (fun k ys H5 z=>by rw [z.1];exact SqL.of hli4) (by simp [lsC];omega) (fun k ys H5 z=>?_) (fun k c' ys H5 hc' z=>?_)
      (fun x σ H Q Q' h z=>h _ _ z) (fun σ H Q Q' h z=>?_) (fun σ H Q Q' h z=>?_) (fun ys H5 z=>?_)
     ·rw [z.2]
      have h1:=List.length_filter_le (fun c=>(md c).isNone) (((G.ch x).map rp).take k)
      rw [List.length_take] at h1
      simp only [lsC,List.length_map]
      omega
     ·obtain ⟨rfl,rfl⟩:=z
      unfold lsC at hc'
      rw [List.getElem?_map] at hc'
      cases ec:((G.ch x).map rp)[k]? with
      | none=>rw [ec] at hc';cases hc'
      | some c =>
       rw [ec] at hc'
       cases hc'
       refine ⟨Ext.set rfl,_,rfl,_,rfl,dm,_,rfl,DGet.k (k:=Sum.inl (c:Int)) U4.m,_,rfl,?_⟩
       rw [inMade c]
       have et:((G.ch x).map rp).take (k+1)=((G.ch x).map rp).take k++[c]:=by rw [List.take_add_one,ec];rfl
       cases emc:md c with
       | none =>
        refine iteT ⟨_,rfl,rfl,?_⟩
        rw [et,List.filter_append]
        simp [emc,lsC]
       | some t =>
        refine iteF ⟨rfl,?_⟩
        rw [et,List.filter_append]
        simp [emc]
     ·obtain ⟨v1,z1,v2,z2,a1,o1,z3,z4,b1,z5,z6⟩:=z
      exact ⟨v1,z1,v2,z2,a1,o1,z3,z4,b1,z5,h _ _ z6⟩
     ·obtain ⟨v1,z1,z2⟩:=z
      exact ⟨v1,z1,h _ _ z2⟩
     ·obtain ⟨rfl,rfl⟩:=z
      have el2:(lsC ((G.ch x).map rp)).length=((G.ch x).map rp).length:=by simp [lsC]
      have emiss:((G.ch x).map rp).filter (fun c=>(md c).isNone)=miss G rp md x:=rfl
      rw [el2,List.take_length,emiss]
      intro lm hlm
      have smM:Same H5 (upd H5 lm (.lst (lsC (miss G rp md x)))):=Same.new hlm
      have U5:=U4.same smM
      have hli5:=smM _ _ hli4
      have hlm5:(upd H5 lm (.lst (lsC (miss G rp md x)))) lm=some (.lst (lsC (miss G rp md x))):=upd_same
      generalize upd H5 lm (.lst (lsC (miss G rp md x)))=H6' at smM U5 hli5 hlm5 ⊢
      refine ⟨_,rfl,_,rfl,dm,_,rfl,DGet.k (k:=Sum.inl (x:Int)) U5.m,_,rfl,?_⟩
      rw [inMade x]
      cases emx:md x with
      | some t =>
       refine iteT ?_
       refine ⟨_,rfl,.inl ⟨rfl,_,SqL.of U5.w⟩,lw,_,V.int ((x:Nat):Int),rfl,rfl,U5.w,by rw [ew];simp,?_⟩
       have sub:TSub H6' (upd H6' lw (.lst (lsC (x::rest).reverse).dropLast)):=TSub.put fun xs z=>by rw [U5.w] at z;cases z
       refine ⟨left G md bg rest,left_pop rest,par3,md,bg,kvs,kvsB,rest,_,_,_,rfl,rfl,by have:=left_pop (G:=G) (md:=md) (bg:=bg) (x:=x) rest;omega,⟨keepN U5.at_ fun b o' _ _ b3 e=>by rw [upd_ne b3];exact e,by rw [upd_ne (Ne.symm (NG lw hlw0))];exact U5.g,U5.uf,fun b o' e n=>by rw [upd_ne (ne_of_none e hlw0)];exact U5.fr b o' e n,by rw [upd_ne nml];exact U5.m,DictK.mono sub U5.dk,by rw [upd_ne nbl];exact U5.b,U5.bk,by rw [upd_same,ew,List.dropLast_concat]⟩,dfs_pop D2 (by rw [emx];simp),hk1,hk2⟩
      | none =>
       refine iteF ?_
       refine ⟨_,rfl,!(lsC (miss G rp md x)).isEmpty,.inl ⟨_,SqL.of hlm5,rfl⟩,?_⟩
       by_cases hmiss:miss G rp md x=[]
       ·have eb:(!(!(lsC (miss G rp md x)).isEmpty))=true:=by rw [hmiss];rfl
        show if (!(!(lsC (miss G rp md x)).isEmpty))=true then _ else _
        rw [eb]
        refine iteT ?_
        obtain ⟨ts,hts⟩:=miss_nil hmiss
        have tgx:=K0.tg x hx
        have tg2:G.tg x≠2:=fun z=>by rw [D2.mad.gap x hx z] at emx;cases emx
        have htl:ts.length=arity (G.tg x):=by rw [<- len_of_some hts];exact K0.ar x hx
        refine ⟨_,rfl,N.p,C,N.dx,_,_,rfl,U5.at_.ins,T.cl,T.nS,nf_s N,_,rfl,N.s,_,_,_,rfl,rfl,SqL.of U5.at_.sorts,atI_nat (lsS_at hx),by show 1<=sizeLine;omega,fun p1 hp1=>?_⟩
        have sm7:Same H6' (upd H6' p1 (.tup [.str (wordN (G.tg x))])):=Same.new hp1
        have U7:=U5.same sm7
        have hli7:=sm7 _ _ hli5
        have hp17:(upd H6' p1 (.tup [.str (wordN (G.tg x))])) p1=some (.tup [.str (wordN (G.tg x))]):=upd_same
        generalize upd H6' p1 (.tup [.str (wordN (G.tg x))])=H7 at sm7 U7 hli7 hp17 ⊢
        obtain ⟨kvs0,ekvs0⟩:∃ k0,k0=kvs:=⟨kvs,rfl⟩
        have fin:∀ (x7 x8 x9:Option V) (a:Addr) (vs:List V) (H9:Hp),Same H7 H9->KAts H7 ts vs->H9 a=some (.tup (.str (wordN (G.tg x))::vs)) ->
          ∃ m',m' < left G md bg (x::rest)/\∃ par md bg kvs kvsB stk x7' x8' x9',([some (.ref N.p),some (.ref lt),some (.ref dm),x3,x4,some (.ref db),some (.ref lw),x7,x8,x9]:List (Option V))=[some (.ref N.p),some (.ref lt),some (.ref dm),x3,x4,some (.ref db),some (.ref lw),x7',x8',x9']/\m'=left G md bg stk/\m'<=17000/\USt C N G ls rp rk H dm db lw (upd H9 dm (.dK (putK kvs0 (Sum.inl (x:Int):Key) (.ref a)))) par md bg kvs kvsB stk/\Dfs G rp (rp i) md bg stk/\kvs.length+cnt (fun r=>(md r).isNone) G.n<=9000/\kvsB.length+cnt (fun r=>!bg r) G.n<=9000:=by
         intro x7 x8 x9 a vs H9 sm9 kvs9 ha9
         rw [ekvs0]
         have U9:=U7.same sm9
         have kat:KAt H9 (mkK (G.tg x) ts) (.ref a):=kat_mk tgx tg2 htl (KAts.mono (TSub.of_same sm9) kvs9) ha9
         have sub:TSub H9 (upd H9 dm (.dK (putK kvs (Sum.inl (x:Int):Key) (.ref a)))):=TSub.put fun xs z=>by rw [U9.m] at z;cases z
         have lm0:=left_make (bg:=bg) hx emx (mkK (G.tg x) ts) (x::rest)
         have pl:=putK_len kvs (Sum.inl (x:Int):Key) (.ref a)
         refine ⟨_,lm0,par3,updK md x (mkK (G.tg x) ts),bg,putK kvs (Sum.inl (x:Int):Key) (.ref a),kvsB,x::rest,x7,x8,x9,rfl,rfl,by omega,⟨keepN U9.at_ fun b o' b1 _ _ e=>by rw [upd_ne b1];exact e,by rw [upd_ne ng];exact U9.g,U9.uf,fun b o' e n=>by rw [upd_ne (ne_of_none e hdm)];exact U9.fr b o' e n,upd_same,?_,by rw [upd_ne (Ne.symm ndb)];exact U9.b,U9.bk,by rw [upd_ne (Ne.symm nml)];exact U9.w⟩,dfs_make D2 emx hts,?_,hk2⟩
         ·rw [mI_put]
          exact DictK.put (DictK.mono sub U9.dk) (KAt.mono sub kat)
         ·unfold left at lm0
          omega
        rw [ekvs0] at fin
        refine ⟨_,rfl,li,rfl,⟨_,SqL.of hli7⟩,?_⟩
        refine comp_list (K:=K) (a:=li) (xs:=lsC ((G.ch x).map rp)) (fun k ys H8=>H8=H7/\KAts H7 (ts.take k) ys/\ys.length=k) ⟨rfl,.nil,rfl⟩ (fun k ys H8 z=>by rw [z.1];exact SqL.of hli7) (by simp [lsC];omega) (fun k ys H8 z=>by rw [z.2.2];exact Nat.le_refl _) (fun k c' ys H8 hc' z=>?_)
         (fun x σ H Q Q' h z=>h _ _ z) (fun σ H Q Q' h z=>h _ _ z) (fun σ H Q Q' h z=>?_) (fun ys H8 z=>?_)
        ·obtain ⟨rfl,kys,ylen⟩:=z
         unfold lsC at hc'
         rw [List.map_map,List.getElem?_map] at hc'
         cases ec:(G.ch x)[k]? with
         | none=>rw [ec] at hc';cases hc'
         | some c =>
          rw [ec] at hc'
          cases hc'
          have hk':((G.ch x).map (fun c=>md (rp c)))[k]?=some (md (rp c)):=by rw [List.getElem?_map,ec];rfl
          rw [hts,List.getElem?_map] at hk'
          cases et:ts[k]? with
          | none=>rw [et] at hk';cases hk'
          | some t =>
           rw [et] at hk'
           have hmd:md (rp c)=some t:=(Option.some.inj hk').symm
           rcases U7.dk ((rp c:Nat):Int) with ⟨_,z2⟩ | ⟨v,t',z1,z2,z3⟩
           ·rw [mI_nat,hmd] at z2;cases z2
           ·rw [mI_nat,hmd] at z2
            cases z2
            refine ⟨Ext.set rfl,yes_then ⟨_,rfl,_,rfl,dm,v,rfl,.inl ⟨kvs,Sum.inl ((rp c:Nat):Int),.inl U7.m,rfl,z1.symm⟩,rfl,?_,by simp [ylen]⟩⟩
            rw [List.take_add_one,et]
            exact Paired.app kys (.cons z3 .nil)
        ·obtain ⟨v1,z1,v2,z2,a1,v3,z3,z4,z5⟩:=z
         exact ⟨v1,z1,v2,z2,a1,v3,z3,z4,h _ _ z5⟩
        ·obtain ⟨rfl,kys,ylen⟩:=z
         have et:ts.take (lsC ((G.ch x).map rp)).length=ts:=by
          refine List.take_of_length_le ?_
          rw [<- len_of_some hts]
          simp [lsC]
         rw [et] at kys
         intro D hD
         have smD:Same H8 (upd H8 D (.lst ys)):=Same.new hD
         refine ⟨D,ys,rfl,.inl ⟨SqL.of upd_same,fun q hq=>?_⟩⟩
         have smq:Same (upd H8 D (.lst ys)) (upd (upd H8 D (.lst ys)) q (.tup ys)):=Same.new hq
         have smDq:=Same.trans smD smq
         have hp9:=smDq _ _ hp17
         have yl:ys.length<=2:=by rw [ylen];simp [lsC];omega
         refine ⟨p1,q,_,ys,rfl,rfl,SqT.of hp9,SqT.of upd_same,by simp,by show 1+ys.length<=sizeLine;omega,fun z=>?_,fun z r hr0=>?_⟩
         ·subst z
          refine ⟨_,rfl,_,rfl,dm,_,rfl,DPut.k (k:=Sum.inl (x:Int)) (U7.same smDq).m (by omega),fin _ _ _ p1 [] _ smDq kys hp9⟩
         ·have smr:Same (upd (upd H8 D (.lst ys)) q (.tup ys)) (upd (upd (upd H8 D (.lst ys)) q (.tup ys)) r (.tup ([.str (wordN (G.tg x))]++ys))):=Same.new hr0
          have sm9:=Same.trans smDq smr
          refine ⟨_,rfl,_,rfl,dm,_,rfl,DPut.k (k:=Sum.inl (x:Int)) (U7.same sm9).m (by omega),fin _ _ _ r ys _ sm9 kys upd_same⟩
       ·have eb:(!(!(lsC (miss G rp md x)).isEmpty))=false:=by
         cases e:miss G rp md x with
         | nil=>exact absurd e hmiss
         | cons _ _=>rfl
        show if (!(!(lsC (miss G rp md x)).isEmpty))=true then _ else _
        rw [eb]
        refine iteF ?_
        refine ⟨_,rfl,_,rfl,db,_,rfl,DGet.k (k:=Sum.inl (x:Int)) U5.b,_,rfl,?_⟩
        rw [U5.bk x]
        cases ebx:bg x with
        | true =>
         refine iteT ?_
         exact ⟨by simp,q2 (fun T0=>no_cycle SV (dfs_cycle D2 emx ebx hmiss) T0) H6' U5.fr⟩
        | false =>
         refine iteF ?_
         have ml:=miss_len (md:=md) SV hx
         refine ⟨_,rfl,_,rfl,db,_,rfl,DPut.k (k:=Sum.inl (x:Int)) U5.b (by omega),?_⟩
         have nlmdb:lm≠db:=ne_of hlm5 U5.b (by intro z;cases z)
         have w7:(upd H6' db (.dK (putK kvsB (Sum.inl (x:Int):Key) (.bl true)))) lw=some (.lst (lsC (x::rest).reverse)):=by rw [upd_ne (Ne.symm nbl)];exact U5.w
         have lm7:(upd H6' db (.dK (putK kvsB (Sum.inl (x:Int):Key) (.bl true)))) lm=some (.lst (lsC (miss G rp md x))):=by rw [upd_ne nlmdb];exact hlm5
         have l1':(lsC (x::rest).reverse).length=rest.length+1:=by simp [lsC]
         have l2':(lsC (miss G rp md x)).length=(miss G rp md x).length:=by simp [lsC]
         refine ⟨_,rfl,.inl ⟨rfl,_,SqL.of w7⟩,_,rfl,lw,lm,_,_,rfl,rfl,w7,lm7,by omega,?_⟩
         have lb:=left_begin (md:=md) SV hx ebx (x::rest)
         have pl:=putK_len kvsB (Sum.inl (x:Int):Key) (.bl true)
         have sub1:TSub H6' (upd H6' db (.dK (putK kvsB (Sum.inl (x:Int):Key) (.bl true)))):=TSub.put fun xs z=>by rw [U5.b] at z;cases z
         have sub2:TSub H6' (upd (upd H6' db (.dK (putK kvsB (Sum.inl (x:Int):Key) (.bl true)))) lw (.lst (lsC (x::rest).reverse++lsC (miss G rp md x)))):=TSub.trans sub1 (TSub.put fun xs z=>by rw [w7] at z;cases z)
         have cl:cnt (fun r=>!(if r=x then true else bg r)) G.n < cnt (fun r=>!bg r) G.n:=by
          refine cnt_lt (j:=x) (fun r hr'=>?_) (by show (!bg x)=true;rw [ebx];rfl) (fun hr'=>?_) hx
          ·by_cases z:r=x
           ·rw [z,ebx];rfl
           ·have hr':(!(if r=x then true else bg r))=true:=hr'
            rw [if_neg z] at hr';exact hr'
          ·have hr':(!(if x=x then true else bg x))=true:=hr'
           rw [if_pos rfl] at hr';cases hr'
         refine ⟨_,lb,par3,md,fun y=>if y=x then true else bg y,kvs,putK kvsB (Sum.inl (x:Int):Key) (.bl true),(miss G rp md x).reverse++x::rest,_,_,_,rfl,rfl,by omega,⟨keepN U5.at_ fun b o' _ b2 b3 e=>by rw [upd_ne b3,upd_ne b2];exact e,by rw [upd_ne (Ne.symm (NG lw hlw0)),upd_ne (Ne.symm (NG db hdb0))];exact U5.g,U5.uf,fun b o' e n=>by rw [upd_ne (ne_of_none e hlw0),upd_ne (ne_of_none e hdb0)];exact U5.fr b o' e n,by rw [upd_ne nml,upd_ne ndb];exact U5.m,DictK.mono sub2 U5.dk,by rw [upd_ne nbl,upd_same],fun r=>?_,by rw [upd_same,<- lsC_app,List.reverse_append,List.reverse_reverse]⟩,dfs_begin SV D2 emx ebx,hk1,by show _+cnt (fun r=>!(if r=x then true else bg r)) G.n<=9000;omega⟩
         rw [valV_put]
         by_cases z:r=x
         ·rw [if_pos (by rw [z]),if_pos z];rfl
         ·rw [if_neg (fun y=>z (by have:=Sum.inl.inj y;omega)),if_neg z]
          exact U5.bk r
end
end K
namespace K
open PySem L2 KS
section
variable {Pr:Program}{w:World}{K:PySem.W.Frag}{mg:Str->Option Value}{base:Heap}
def Ent {α:Type}(kids:α->List α)(At:Hp->α->V->Prop)(H:Hp)(d:α)(u:V):Prop:=∃ p q x ws,u=.ref p/\H p=some (.tup [x,.ref q])/\At H d x/\H q=some (.tup ws)/\Paired (At H) (kids d) ws
theorem Ent.mono {α:Type}{kids:α->List α}{At:Hp->α->V->Prop}{M:Addr->Prop}{H H':Hp}(hm:∀ H' H'' d x,(∀ b xs,M b->H' b≠some (.tup xs))->NSub M H' H''->At H' d x->At H'' d x)(s:NSub M H H')(ht:∀ b xs,M b->H b≠some (.tup xs)){d:α}{u:V}(h:Ent kids At H d u):Ent kids At H' d u:=by
 obtain ⟨p,q,x,ws,rfl,h1,h2,h3,h4⟩:=h
 exact ⟨p,q,x,ws,rfl,s.tsub ht _ _ h1,hm _ _ _ _ ht s h2,s.tsub ht _ _ h3,Paired.mapP h4 fun _ _ z=>hm _ _ _ _ ht s z⟩
structure PartsOk (Pr:Program)(w:World)(K:PySem.W.Frag)(mg:Str->Option Value)(base:Heap){α:Type}(kids:α->List α)(At:Hp->α->V->Prop)(H:Hp)(f:Addr):Prop where
 ex:∃ fd p sp,FnOk Pr w K mg base CX0 4 f fd [p] sp/\Binds K fd [p] []/\Cal K fd f H /\
  ∀ H' d x Q',NSub NoM H H'->At H' d x->(∀ q us H'',Same H' H''->H' q=none->H'' q=some (.tup us)->Paired (At H'') (kids d) us->Q' (.ref q) H'')->sp [x] H' Q' E0
 mono:∀ H' H'' d x,NSub NoM H' H''->At H' d x->At H'' d x
def spAll (Pr:Program)(w:World)(K:PySem.W.Frag)(mg:Str->Option Value)(base:Heap):Sp:=fun vs H Q _=>∃ (α:Type) (kids:α->List α) (sz:α->Nat) (At:Hp->α->V->Prop) (t:α) (v:V) (f:Addr),vs=[v,.ref f] /\
 (∀ t,KG.szs sz (kids t)+1=sz t)/\At H t v/\sz t<=500000/\PartsOk Pr w K mg base kids At H f /\
 ∀ l us H',Same H H'->H l=none->H' l=some (.lst us)->Paired (Ent kids At H') (KG.P kids sz [t]) us->Q (.ref l) H'
theorem scA:FnScope ["top","parts_of","found","waiting","one","parts"] ["top","parts_of"] (defScope sAll):=⟨rfl,rfl,rfl,by decide +kernel,rfl,by decide +kernel,by decide +kernel⟩
theorem ok_all {f:Addr}{fd:FuncData}(F:Fun K "all_within" "all_within" sAll f fd)(mL:mg "list"=none)(mR:mg "reversed"=none):FnOk Pr w K mg base CX0 5 f fd ["top","parts_of"] (spAll Pr w K mg base):=by
 refine F.ok scA (fun vs H Q E h=>?_) (fun cdv A outer s H vs Q E hr h=>?_)
 ·obtain ⟨α,kids,sz,At,t,v,f,rfl,_⟩:=h
  rfl
 ·obtain ⟨α,kids,sz,At,t,v,fP,rfl,hs,ht,hsz,⟨⟨fdP,pP,spP,GP,bP,cP,hP⟩,mono⟩,k⟩:=h
  have hPl:=KG.P_one hs t
  refine ⟨_,pss_cons (ps_set (i:=2) scA.nd rfl (Or.inl rfl) (pe_lst pa_nil))
   (pss_cons (ps_set (i:=3) scA.nd rfl (Or.inl rfl) (pe_lst (pa_cons (pv 0) pa_nil)))
   (pss_cons (ps_while PassesOwn.never (pt_truth (pv 3) (fun _=>rfl))
    (pss_cons (ps_set (i:=4) scA.nd rfl (Or.inl rfl) (pe_bm0 PySem.F.plainAttrs_list PySem.F.slot_list_pop PySem.F.type_list_pop mt_pop (pv 3)))
    (pss_cons (ps_set (i:=5) scA.nd rfl (Or.inl rfl) (pe_callU GP hr bP (i:=1) rfl (Or.inl rfl) (pa_cons (pv 4) pa_nil)))
    (pss_cons (ps_expr (pe_bm PySem.F.plainAttrs_list PySem.F.slot_list_append PySem.F.type_list_append mt_append (pv 2) (pa_cons (pe_tup (pa_cons (pv 4) (pa_cons (pv 5) pa_nil))) pa_nil)))
    (pss_one (ps_expr (pe_bm PySem.F.plainAttrs_list PySem.F.slot_list_extend PySem.F.type_list_extend mt_extend (pv 3) (pa_cons (pe_listRev rfl rfl mL rfl mR (pa_cons (pv 5) pa_nil)) pa_nil))))))))
   (pss_one (ps_ret (pv 2))))),?_⟩
  refine ⟨by simp,fun lf hlf=>⟨_,rfl,by show 1<=sizeLine;rw [sizeLine_eq];decide,fun lw hlw=>?_⟩⟩
  have nfw:lf≠lw:=fun z=>by rw [z,upd_same] at hlw;cases hlw
  have hw0:H lw=none:=by rw [upd_ne (Ne.symm nfw)] at hlw;exact hlw
  have sm0:Same H (upd (upd H lf (.lst [])) lw (.lst [v])):=Same.put (Same.new hlf) hw0
  refine ⟨fun m σ H'=>∃ fs ws pt pp ts ds,σ=[some v,some (.ref fP),some (.ref lf),some (.ref lw),pt,pp]/\m=KG.szs sz ds/\Same H H'/\H' lf=some (.lst fs)/\H' lw=some (.lst ws)/\Paired (Ent kids At H') ts fs/\Paired (At H') ds ws.reverse/\ts++KG.P kids sz ds=KG.P kids sz [t],
   ⟨KG.szs sz [t],[],[v],none,none,[],[t],rfl,rfl,sm0,by rw [upd_ne nfw,upd_same],upd_same,.nil,.cons (mono _ _ _ _ (NSub.of_same sm0) ht) .nil,rfl⟩,?_⟩
  rintro m σ H' ⟨fs,ws,pt,pp,ts,ds,rfl,rfl,sm,hf,hw,kf,kw,e⟩
  refine ⟨_,rfl,!ws.isEmpty,.inl ⟨ws,SqL.of hw,rfl⟩,?_⟩
  cases ds with
  | nil =>
   have hws:ws=[]:=by
    have:=Paired.length kw
    simpa using this.symm
   subst hws
   refine iteF ⟨_,rfl,?_⟩
   rw [KG.P_nil,List.append_nil] at e
   rw [e] at kf
   exact k lf fs H' sm hlf hf kf
  | cons d ds =>
   have hlen:fs.length=ts.length:=(Paired.length kf).symm
   have hsum:ts.length+KG.szs sz (d::ds)=sz t:=by
    have h1:=congrArg List.length e
    rw [List.length_append,hPl,KG.P_len hs _ (d::ds) rfl] at h1
    exact h1
   obtain ⟨x,xs,hx,kx,kxs⟩:∃ x xs,ws.reverse=x::xs/\At H' d x/\Paired (At H') ds xs:=by
    generalize ws.reverse=rs at kw
    cases kw with
    | cons k1 k2=>exact ⟨_,_,rfl,k1,k2⟩
   have hws:ws=xs.reverse++[x]:=by
    have:=congrArg List.reverse hx
    simpa using this
   have hwl:ws.length<=KG.szs sz (d::ds):=by
    have h1:=KG.szs_len hs (d::ds)
    have h2:ws.length=(d::ds).length:=by
     have:=Paired.length kw
     simpa using this.symm
    omega
   have hb:=line_big
   have ne:(!ws.isEmpty)=true:=by rw [hws];simp
   rw [ne]
   refine iteT ⟨fun σ' H'=>∃ m',m' < KG.szs sz (d::ds)/\∃ fs ws pt pp ts ds,σ'=[some v,some (.ref fP),some (.ref lf),some (.ref lw),pt,pp]/\m'=KG.szs sz ds/\Same H H'/\H' lf=some (.lst fs)/\H' lw=some (.lst ws)/\Paired (Ent kids At H') ts fs/\Paired (At H') ds ws.reverse/\ts++KG.P kids sz ds=KG.P kids sz [t],fun σ' H' q=>q,?_⟩
   refine ⟨_,rfl,.inl ⟨rfl,_,SqL.of hw⟩,lw,ws,x,rfl,rfl,hw,by rw [hws];simp,?_⟩
   have sub1:NSub NoM H' (upd H' lw (.lst ws.dropLast)):=NSub.put hw
   have sm1:Same H (upd H' lw (.lst ws.dropLast)):=Same.put sm hw0
   have hf1:(upd H' lw (.lst ws.dropLast)) lf=some (.lst fs):=by rw [upd_ne nfw];exact hf
   have hw1:(upd H' lw (.lst ws.dropLast)) lw=some (.lst ws.dropLast):=upd_same
   generalize hH1:upd H' lw (.lst ws.dropLast)=H1 at *
   have cP1:Cal K fdP fP H1:=cP.mono fun b φ z=>sm1 b _ z
   refine ⟨rfl,cP1,_,rfl,cP1,hP H1 d x _ (NSub.of_same sm1) (mono _ _ _ _ sub1 kx) fun q us H2 sm2 hq0 hq kq=>?_⟩
   have hf2:=sm2 _ _ hf1
   have hw2:=sm2 _ _ hw1
   have smH2:Same H H2:=Same.trans sm1 sm2
   have hq0':H q=none:=sm1.free hq0
   have hul:us.length=(kids d).length:=(Paired.length kq).symm
   have hkl:=KG.kids_len hs d
   have hdz:sz d<=KG.szs sz (d::ds):=by simp only [KG.szs];omega
   refine ⟨_,rfl,.inl ⟨rfl,_,SqL.of hf2⟩,_,rfl,_,rfl,by show 2<=sizeLine;omega,fun p hp=>?_⟩
   have hp0:H p=none:=smH2.free hp
   have nfp:lf≠p:=ne_of_none hf2 hp
   have nwp:lw≠p:=ne_of_none hw2 hp
   have nqp:q≠p:=ne_of_none hq hp
   have hf3:(upd H2 p (.tup [x,.ref q])) lf=some (.lst fs):=by rw [upd_ne nfp];exact hf2
   refine ⟨lf,fs,.ref p,rfl,rfl,hf3,by omega,?_⟩
   have nqf:q≠lf:=fun z=>by rw [z,hf1] at hq0;cases hq0
   have nqw:q≠lw:=fun z=>by rw [z,hw1] at hq0;cases hq0
   have sub3:NSub NoM H2 (upd (upd H2 p (.tup [x,.ref q])) lf (.lst (fs++[.ref p]))):=NSub.trans (NSub.new hp) (NSub.put hf3)
   have sm3:Same H (upd (upd H2 p (.tup [x,.ref q])) lf (.lst (fs++[.ref p]))):=Same.put (Same.put smH2 hp0) hlf
   have hp3:(upd (upd H2 p (.tup [x,.ref q])) lf (.lst (fs++[.ref p]))) p=some (.tup [x,.ref q]):=by rw [upd_ne (Ne.symm nfp),upd_same]
   have hq3:(upd (upd H2 p (.tup [x,.ref q])) lf (.lst (fs++[.ref p]))) q=some (.tup us):=by rw [upd_ne nqf,upd_ne nqp];exact hq
   have hw3:(upd (upd H2 p (.tup [x,.ref q])) lf (.lst (fs++[.ref p]))) lw=some (.lst ws.dropLast):=by rw [upd_ne (Ne.symm nfw),upd_ne nwp];exact hw2
   have hf3':(upd (upd H2 p (.tup [x,.ref q])) lf (.lst (fs++[.ref p]))) lf=some (.lst (fs++[.ref p])):=upd_same
   generalize hH3:upd (upd H2 p (.tup [x,.ref q])) lf (.lst (fs++[.ref p]))=H3 at *
   refine ⟨_,rfl,.inl ⟨rfl,_,SqL.of hw3⟩,_,rfl,q,us,rfl,SqT.of hq3,by omega,fun l hl=>?_⟩
   have nlw:lw≠l:=ne_of_none hw3 hl
   have nlf:lf≠l:=ne_of_none hf3' hl
   have hw4:(upd H3 l (.lst us.reverse)) lw=some (.lst ws.dropLast):=by rw [upd_ne nlw];exact hw3
   refine ⟨lw,l,ws.dropLast,us.reverse,rfl,rfl,hw4,upd_same,by rw [List.length_dropLast,List.length_reverse];omega,?_⟩
   have sub4:NSub NoM H3 (upd (upd H3 l (.lst us.reverse)) lw (.lst (ws.dropLast++us.reverse))):=NSub.trans (NSub.new hl) (NSub.put hw4)
   have sub24:=NSub.trans sub3 sub4
   have sub5:=NSub.trans (NSub.trans sub1 (NSub.of_same sm2)) sub24
   refine ⟨KG.szs sz (kids d++ds),?_,fs++[.ref p],ws.dropLast++us.reverse,_,_,ts++[d],kids d++ds,rfl,rfl,?_,?_,upd_same,?_,?_,?_⟩
   ·have:=KG.szs_nxt hs d ds
    show KG.szs sz (KG.nxt kids (d::ds)) < _
    omega
   ·exact Same.put (Same.put sm3 (sm3.free hl)) hw0
   ·rw [upd_ne nfw,upd_ne nlf];exact hf3'
   ·have tup:∀ b xs,H3 b=some (.tup xs)->(upd (upd H3 l (.lst us.reverse)) lw (.lst (ws.dropLast++us.reverse))) b=some (.tup xs):=sub4.tsub0
    refine Paired.app (Paired.mapP kf fun _ _ z=>z.mono (fun H1 H2 d x _=>mono H1 H2 d x) sub5 (fun _ _ m=>m.elim)) (.cons ⟨p,q,x,us,rfl,tup _ _ hp3,mono _ _ _ _ sub5 kx,tup _ _ hq3,Paired.mapP kq fun _ _ z=>mono _ _ _ _ sub24 z⟩ .nil)
   ·have e1:(ws.dropLast++us.reverse).reverse=us++xs:=by rw [hws];simp
    rw [e1]
    exact Paired.app (Paired.mapP kq fun _ _ z=>mono _ _ _ _ sub24 z) (Paired.mapP kxs fun _ _ z=>mono _ _ _ _ sub5 z)
   ·rw [<- e,KG.P_cons hs]
    simp
end
end K
namespace K
open PySem L2 KS
section
variable {Pr:Program}{w:World}{K:PySem.W.Frag}{mg:Str->Option Value}{base:Heap}
def Fr (M:Addr->Prop)(H H':Hp):Prop:=∀ b o,H b=some o->¬ M b->H' b=some o
def FrP (M:Addr->Prop)(pl:Addr)(H H':Hp):Prop:=∀ b o,b≠pl->H b=some o->¬ M b->H' b=some o
structure MakeOk (Pr:Program)(w:World)(K:PySem.W.Frag)(mg:Str->Option Value)(base:Heap){α S:Type}(kids:α->List α)(sz:α->Nat)(At:Hp->α->V->Prop)(t:α)(H:Hp)(f:Addr)(M:Addr->Prop)(J:S->Hp->Prop)(Out:S->Addr->Prop)(Le:S->S->Prop)(c:S->Nat)
  (s0:S) (R:Addr->S->Hp->α->V->Prop):Prop where
 ex:∃ fd p1 p2 sp,FnOk Pr w K mg base CX0 5 f fd [p1,p2] sp/\Binds K fd [p1,p2] []/\Cal K fd f H /\
  ∀ pl ps s H' d x l ms Q',Fr M H H'->J s H'->c s < c s0+sz t->d∈KG.P kids sz [t]->At H' d x->H' l=some (.lst ms)->H l=none->H pl=none->H' pl=some (.lst ps)->Out s pl->pl≠l->Paired (R pl s H') (kids d) ms ->
   (∀ s' r H'',Le s s'->c s'<=c s+1->Fr M H' H''->J s' H''->Out s' pl->R pl s' H'' d r->Q' r H'')->sp [x,.ref l] H' Q' E0
 mono:∀ H' H'' d x,(∀ b xs,M b->H' b≠some (.tup xs))->NSub M H' H''->At H' d x->At H'' d x
 monoR:∀ pl ps s s' H' H'' d r,Le s s'->H' pl=some (.lst ps)->FrP M pl H' H''->R pl s H' d r->R pl s' H'' d r
 refl:∀ s,Le s s
 stab:∀ s H' H'' pl,J s H'->Out s pl->(∀ b o,b≠pl->H' b=some o->H'' b=some o)->J s H''
 noT:∀ s H' b xs,J s H'->M b->H' b≠some (.tup xs)
 here:∀ s H' b,J s H'->M b->H' b≠none
 noE:∀ b φ,M b->H b≠some (.ext φ)
 out0:∀ b,H b=none->Out s0 b
 j0:J s0 H
def spBuilt (Pr:Program)(w:World)(K:PySem.W.Frag)(mg:Str->Option Value)(base:Heap):Sp:=fun vs H Q _=>∃ (α S:Type) (kids:α->List α) (sz:α->Nat) (At:Hp->α->V->Prop) (t:α) (v:V) (f fm:Addr) (M:Addr->Prop) (J:S->Hp->Prop) (Out:S->Addr->Prop) (Le:S->S->Prop) (c:S->Nat) (s0:S) (R:Addr->S->Hp->α->V->Prop),
 vs=[v,.ref f,.ref fm]/\(∀ t,KG.szs sz (kids t)+1=sz t)/\At H t v/\sz t<=500000/\PartsOk Pr w K mg base kids At H f/\MakeOk Pr w K mg base kids sz At t H fm M J Out Le c s0 R /\
 ∀ pl s r H',H pl=none->Fr M H H'->J s H'->c s<=c s0+sz t->R pl s H' t r->Q r H'
theorem scB:FnScope ["top","parts_of","make","pile","one","parts","made"] ["top","parts_of","make"] (defScope sBuilt):=⟨rfl,rfl,rfl,by decide +kernel,rfl,by decide +kernel,by decide +kernel⟩
theorem ok_built {f fA:Addr}{fd fdA:FuncData}(F:Fun K "built" "built" sBuilt f fd)
  (GA:FnOk Pr w K mg base CX0 5 fA fdA ["top","parts_of"] (spAll Pr w K mg base)) (kA:PySem.W.keepIn K (.ref fA)=true) (bA:Binds K fdA ["top","parts_of"] []) (mA:mg "all_within"=some (.ref fA)) (mR:mg "reversed"=none):FnOk Pr w K mg base CX0 6 f fd ["top","parts_of","make"] (spBuilt Pr w K mg base):=by
 refine F.ok scB (fun vs H Q E h=>?_) (fun cdv A outer s H vs Q E hr h=>?_)
 ·obtain ⟨α,S,kids,sz,At,t,v,f,fm,M,J,Out,Le,c,s0,R,rfl,_⟩:=h
  rfl
 ·obtain ⟨α,S,kids,sz,At,t,v,fP,fm,M,J,Out,Le,c,s0,R,rfl,hs,ht,hsz,PO,MO,k⟩:=h
  obtain ⟨⟨fdm,p1,p2,spm,GM,bM,cM,mk⟩,monoA,Rm,refl,stab,noT,here,noE,out0,j0⟩:=MO
  have there:∀ b,M b->H b≠none:=fun b=>here s0 H b j0
  have hb:=line_big
  have Sc:CompSc (cxOf CX0 Pr w K mg base ["top","parts_of","make","pile","one","parts","made"] "built" (defScope sBuilt) f cdv A outer s H E).nox (scopeOf (valueOf (inFor (inDef sBuilt 1) 0))) [("pile",s.heap.objs.size+1)] ["part"] ["pile"] [3] :=
   ⟨rfl,by decide +kernel,rfl,by decide +kernel,rfl,rfl,rfl,rfl⟩
  refine ⟨_,pss_cons (ps_set (i:=3) scB.nd rfl (Or.inr rfl) (pe_lst pa_nil))
   (pss_cons (ps_for PassesOwn.never rfl (pi_rev rfl mR (pa_cons (pe_call GA hr rfl mA kA bA .nil pass0 (pa_cons (pv 0) (pa_cons (pv 1) pa_nil))) pa_nil)) (pg_tup rfl (pgs_cons (pg_name (i:=4) scB.nd rfl (Or.inl rfl)) (pgs_cons (pg_name (i:=5) scB.nd rfl (Or.inl rfl)) pgs_nil)))
    (pss_cons (ps_comp (te:=tBM0 K "list" rPop (tVar 1)) (i:=6) scB.nd rfl (Or.inl rfl) Sc rfl (pi_tup (pv 5)) (fun C s0 H0 ex=>pg_name (i:=0) (show (["part","pile"]:List Str).Nodup by decide +kernel) rfl (Or.inl rfl)) (fun _ _ _ _=>pif_nil)
     (fun C s0 H0 ex=>pe_bm0 PySem.F.plainAttrs_list PySem.F.slot_list_pop PySem.F.type_list_pop mt_pop (pv 1)))
    (pss_one (ps_expr (pe_bm PySem.F.plainAttrs_list PySem.F.slot_list_append PySem.F.type_list_append mt_append (pv 3) (pa_cons (pe_callU GM hr bM (i:=2) rfl (Or.inl rfl) (pa_cons (pv 4) (pa_cons (pv 6) pa_nil))) pa_nil))))))
   (pss_one (ps_ret (pe_bm0 PySem.F.plainAttrs_list PySem.F.slot_list_pop PySem.F.type_list_pop mt_pop (pv 3))))),?_⟩
  refine ⟨by simp,fun pl hpl=>?_⟩
  have mono0:∀ H' H'' d x,NSub NoM H' H''->At H' d x->At H'' d x:=PO.mono
  have smp:Same H (upd H pl (.lst [])):=Same.new hpl
  have PO1:PartsOk Pr w K mg base kids At (upd H pl (.lst [])) fP:=by
   obtain ⟨⟨fdP,pP,spP,GP,bP,cP,hP⟩,mo⟩:=PO
   exact ⟨⟨fdP,pP,spP,GP,bP,cP.mono fun b φ z=>smp b _ z,fun H' d x Q' n a q=>hP H' d x Q' (NSub.trans (NSub.of_same smp) n) a q⟩,mo⟩
  refine ⟨_,rfl,_,rfl,α,kids,sz,At,t,v,fP,rfl,hs,mono0 _ _ _ _ (NSub.of_same smp) ht,hsz,PO1,fun la us H1 sm1 hla0 hla kus=>?_⟩
  refine ⟨la,us,rfl,SqL.of hla,?_⟩
  have hP:=KG.P_one hs t
  have hn:us.length=sz t:=by rw [<- hP];exact (Paired.length kus).symm
  have hpos:=KG.sz_pos hs t
  have hp1:H1 pl=some (.lst []):=sm1 pl _ upd_same
  have npl:la≠pl:=fun z=>by rw [z,upd_same] at hla0;cases hla0
  have hlaH:H la=none:=by rw [upd_ne npl] at hla0;exact hla0
  have smH:Same H H1:=Same.trans smp sm1
  have mN:∀ b,H b=none->¬ M b:=fun b e m=>there b m e
  have mpl:=mN pl hpl
  have mla:=mN la hlaH
  have hFo:KG.Fo kids [t] us.length=[]:=by
   have:=KG.Fo_end hs [t]
   rw [show KG.szs sz [t]=us.length by rw [hn];simp [KG.szs]] at this
   exact this
  refine for_rev (K:=K) (a:=la) (xs:=us) (fun i σ H2=>∃ ps pt pp md s,σ=[some v,some (.ref fP),some (.ref fm),some (.ref pl),pt,pp,md]/\Fr M H H2/\J s H2/\Out s pl/\c s<=c s0+i/\H2 la=some (.lst us)/\Paired (Ent kids At H2) (KG.P kids sz [t]) us/\H2 pl=some (.lst ps)/\Paired (R pl s H2) (KG.Fo kids [t] (us.length - i)) ps.reverse)
   ⟨[],none,none,none,s0,rfl,fun b o e _=>smH b o e,stab s0 H H1 pl j0 (out0 pl hpl) (fun b o _ e=>smH b o e),out0 pl hpl,Nat.le_refl _,hla,kus,hp1,by rw [Nat.sub_zero,hFo];exact .nil⟩ (fun i σ H2 _ q=>?_) (fun i x σ H2 hx q=>?_) (fun σ H2 q=>?_)
  ·obtain ⟨ps,pt,pp,md,s,rfl,_,_,_,_,hla2,_⟩:=q
   exact SqL.of hla2
  ·obtain ⟨ps,pt,pp,md,s,rfl,fr,js,os,cs,hla2,kus2,hp,pr⟩:=q
   have hi:i < us.length:=by
    have:=(List.getElem?_eq_some_iff.mp hx).1
    simpa using this
   rw [List.getElem?_reverse hi] at hx
   obtain ⟨d,hd,kx⟩:=Paired.at kus2 hx
   obtain ⟨r,f1,f2⟩:=KG.Fo_step hs hd
   have ej:us.length - 1 - i+1=us.length - i:=by omega
   rw [ej] at f2
   rw [f2] at pr
   obtain ⟨ms,rest,hps,pm,prest⟩:=Paired.split pr
   have hml:ms.length=(kids d).length:=(Paired.length pm).symm
   have hdz:(kids d).length < sz t:=by
    have h1:=KG.kids_len hs d
    have h2:=KG.P_mem_sz hs _ [t] d rfl (List.mem_of_getElem? hd)
    simp [KG.szs] at h2
    omega
   obtain ⟨p,q,x,us',rfl,hp',kx,hq,kq⟩:=kx
   have hul:us'.length=ms.length:=by rw [hml];exact (Paired.length kq).symm
   refine ⟨p,_,rfl,SqT.of hp',rfl,_,_,rfl,_,_,rfl,rfl,_,rfl,q,rfl,⟨us',SqT.of hq⟩,?_⟩
   have npq:pl≠q:=ne_of hp hq (by intro z;cases z)
   refine comp_tup (xs:=us') (fun i ys H3=>ys=ms.take i/\H3 pl=some (.lst ((ms.drop i++rest).reverse))/\∀ b,b≠pl->H3 b=H2 b)
    ⟨rfl,?_,fun _ _=>rfl⟩ (fun i ys H3 q=>?_) (by omega) (fun i ys H3 q=>?_) (fun i x' ys H3 hx' q=>?_) (fun x σ H Q Q' h q=>h _ _ q) (fun σ H Q Q' h q=>h _ _ q) (fun σ H Q Q' h q=>?_) (fun ys H3 q=>?_)
   ·rw [hp,List.drop_zero,<- hps,List.reverse_reverse]
   ·refine SqT.of ?_
    rw [q.2.2 _ (Ne.symm npq)]
    exact hq
   ·rw [q.1]
    exact Nat.le_trans (List.length_take_le _ _) (Nat.le_refl _)
   ·obtain ⟨e1,e2,e3⟩:=q
    have hi':i < ms.length:=by
     have:=(List.getElem?_eq_some_iff.mp hx').1
     omega
    have hcons:ms.drop i++rest=ms[i]::(ms.drop (i+1)++rest):=by rw [List.drop_eq_getElem_cons hi'];rfl
    refine ⟨Ext.set rfl,yes_then ?_⟩
    refine ⟨_,rfl,.inl ⟨rfl,_,SqL.of e2⟩,pl,_,ms[i],rfl,rfl,e2,?_,?_⟩
    ·rw [hcons]
     exact rev_last _ _
    ·refine ⟨?_,?_,fun b hb'=>?_⟩
     ·rw [e1,List.take_add_one,List.getElem?_eq_getElem hi']
      rfl
     ·rw [upd_same,hcons,rev_drop]
     ·rw [upd_ne hb']
      exact e3 b hb'
   ·obtain ⟨v',e1,ty,l,xs,y,a1,a2,a3,a4,q⟩:=q
    exact ⟨v',e1,ty,l,xs,y,a1,a2,a3,a4,h _ _ q⟩
   ·obtain ⟨e1,e2,e3⟩:=q
    rw [hul,List.take_length] at e1
    rw [hul,List.drop_length,List.nil_append] at e2
    subst e1
    intro a ha
    have npa:pl≠a:=ne_of_none e2 ha
    have k24:∀ b o,b≠pl->H2 b=some o->(upd H3 a (.lst ys)) b=some o:=fun b o hb' e=>by
     have h3:H3 b=some o:=by rw [e3 b hb'];exact e
     rw [upd_ne (ne_of_none h3 ha)]
     exact h3
    have fr4:Fr M H (upd H3 a (.lst ys)):=fun b o e m=>k24 b o (ne_of_none e hpl) (fr b o e m)
    have ha0:H a=none:=by
     cases z:H a with
     | none=>rfl
     | some o =>
      have hap:a≠pl:=Ne.symm npa
      have h2:H2 a=none:=by rw [<- e3 a hap];exact ha
      by_cases m:M a
      ·exact absurd h2 (here s H2 a js m)
      ·have:=fr a o z m
       rw [h2] at this;cases this
    have js4:J s (upd H3 a (.lst ys)):=stab s H2 _ pl js os k24
    have hpl4:(upd H3 a (.lst ys)) pl=some (.lst rest.reverse):=by rw [upd_ne npa];exact e2
    have hla4:(upd H3 a (.lst ys)) la=some (.lst us):=k24 la _ npl hla2
    have sub4:NSub M H2 (upd H3 a (.lst ys)):=fun b o e m n=>k24 b o (fun z=>by rw [z,hp] at e;exact n _ (Option.some.inj e).symm) e
    have cM4:Cal K fdm fm (upd H3 a (.lst ys)):=cM.mono fun b φ z=>fr4 b _ z fun m=>noE b φ m z
    refine ⟨_,rfl,.inl ⟨rfl,_,SqL.of hpl4⟩,rfl,cM4,_,rfl,_,rfl,cM4,?_⟩
    refine mk pl _ s _ d x a ys _ fr4 js4 (by omega) (List.mem_of_getElem? hd) (monoA _ _ _ _ (fun b xs m=>noT s H2 b xs js m) sub4 kx) upd_same ha0 hpl hpl4 os npa (Paired.mapP pm fun _ _ z=>Rm pl _ s s _ _ _ _ (refl s) hp (fun b o hb' e _=>k24 b o hb' e) z) fun s' r' H5 le5 c5 fr5 j5 o5 hR=>?_
    have hrl:rest.length<=sz t:=by
     have h1:=KG.Fo_size hs (us.length - 1 - i) [t]
     have h2:=KG.szs_len hs (KG.Fo kids [t] (us.length - 1 - i))
     rw [f1] at h1 h2
     have h3:rest.length=r.length:=(Paired.length prest).symm
     simp [KG.szs] at h1 h2
     omega
    have hp5:H5 pl=some (.lst rest.reverse):=fr5 pl _ hpl4 mpl
    refine ⟨pl,rest.reverse,r',rfl,rfl,hp5,by rw [List.length_reverse];omega,?_⟩
    have k56:∀ b o,b≠pl->H5 b=some o->(upd H5 pl (.lst (rest.reverse++[r']))) b=some o:=fun b o hb' e=>by rw [upd_ne hb'];exact e
    have sub56:NSub M H5 (upd H5 pl (.lst (rest.reverse++[r']))):=NSub.put hp5
    have sub45:NSub M (upd H3 a (.lst ys)) H5:=fun b o e m _=>fr5 b o e m
    have sub6:NSub M H2 (upd H5 pl (.lst (rest.reverse++[r']))):=NSub.trans (NSub.trans sub4 sub45) sub56
    refine ⟨rest.reverse++[r'],_,_,_,s',rfl,fun b o e m=>k56 b o (ne_of_none e hpl) (fr5 b o (fr4 b o e m) m),stab s' H5 _ pl j5 o5 k56,o5,by omega,?_,Paired.mapP kus2 fun _ _ z=>Ent.mono monoA sub6 (fun b xs m=>noT s H2 b xs js m) z,upd_same,?_⟩
    ·rw [upd_ne npl]
     exact fr5 la _ hla4 mla
    ·have e5:us.length - (i+1)=us.length - 1 - i:=by omega
     rw [e5,f1]
     have e6:(rest.reverse++[r']).reverse=r'::rest:=by simp
     rw [e6]
     exact .cons (Rm pl _ s' s' _ _ _ _ (refl s') hp5 (fun b o hb' e _=>k56 b o hb' e) hR) (Paired.mapP prest fun _ _ z=>Rm pl _ s s' _ _ _ _ le5 hp (fun b o hb' e m=>k56 b o hb' (fr5 b o (k24 b o hb' e) m)) z)
  ·obtain ⟨ps,pt,pp,md,s,rfl,fr,js,os,cs,hla2,kus2,hp,pr⟩:=q
   rw [Nat.sub_self] at pr
   have pr:Paired (R pl s H2) [t] ps.reverse:=pr
   obtain ⟨r,hr1,hps⟩:∃ r,R pl s H2 t r/\ps.reverse=[r]:=by
    generalize ps.reverse=rs at pr
    cases pr with
    | cons k1 k2=>cases k2;exact ⟨_,k1,rfl⟩
   have hps:ps=[r]:=by
    have:=congrArg List.reverse hps
    simpa using this
   subst hps
   refine ⟨_,rfl,.inl ⟨rfl,_,SqL.of hp⟩,pl,_,r,rfl,rfl,hp,rfl,?_⟩
   have k2:∀ b o,b≠pl->H2 b=some o->(upd H2 pl (.lst ([r]:List V).dropLast)) b=some o:=fun b o hb' e=>by rw [upd_ne hb'];exact e
   exact k pl s r _ hpl (fun b o e m=>k2 b o (ne_of_none e hpl) (fr b o e m)) (stab s H2 _ pl js os k2) (by omega) (Rm pl _ s s _ _ _ _ (refl s) hp (fun b o hb' e _=>k2 b o hb' e) hr1)
end
end K
namespace K
open PySem L2 KM KS
section
variable {Pr:Program}{w:World}{K:PySem.W.Frag}{mg:Str->Option Value}{base:Heap}
def spIsGap:Sp:=fun vs H Q _=>∃ t v,vs=[v]/\KAt H t v/\Q (.bl (isGap t)) H
theorem scG:FnScope ["kind"] ["kind"] (defScope sIsGap):=⟨rfl,rfl,rfl,by decide +kernel,rfl,by decide +kernel,by decide +kernel⟩
theorem ok_isGap {f:Addr}{fd:FuncData}(F:Fun K "is_gap" "is_gap" sIsGap f fd):FnOk Pr w K mg base CX0 1 f fd ["kind"] spIsGap:=by
 refine F.ok scG (fun vs H Q E h=>?_) (fun cdv A outer s H vs Q E hr h=>?_)
 ·obtain ⟨t,v,rfl,_⟩:=h
  rfl
 ·obtain ⟨t,v,rfl,ht,k⟩:=h
  obtain ⟨a,us,rfl,ha,_⟩:=ht.look
  refine ⟨_,pss_one (ps_ret (pe_cmpR op_eq (pe_ix ix_tup (pv 0) pe_int (fun _ _=>rfl)) pe_str (nomark _))),?_⟩
  refine ⟨_,rfl,a,_,_,_,rfl,rfl,SqT.of ha,atI_nat (j:=0) rfl,rfl,?_⟩
  rw [dec_any]
  exact k
def spParts:Sp:=fun vs H Q _=>∃ t v,vs=[v]/\KAt H t v/\∀ p us,H p=none->KAts H (parts t) us->us.length<=2->Q (.ref p) (upd H p (.tup us))
theorem scP:FnScope ["kind"] ["kind"] (defScope sParts):=⟨rfl,rfl,rfl,by decide +kernel,rfl,by decide +kernel,by decide +kernel⟩
theorem ok_parts {f fG:Addr}{fd fdG:FuncData}(F:Fun K "parts_of" "parts_of" sParts f fd)(FG:Fun K "is_gap" "is_gap" sIsGap fG fdG)(bG:Binds K fdG ["kind"] [])(mG:mg "is_gap"=some (.ref fG)):FnOk Pr w K mg base CX0 2 f fd ["kind"] spParts:=by
 have G:FnOk Pr w K mg base CX0 1 fG fdG ["kind"] spIsGap:=ok_isGap FG
 refine F.ok scP (fun vs H Q E h=>?_) (fun cdv A outer s H vs Q E hr h=>?_)
 ·obtain ⟨t,v,rfl,_⟩:=h
  rfl
 ·obtain ⟨t,v,rfl,ht,k⟩:=h
  obtain ⟨a,us,rfl,ha,hp,hg,hl⟩:=ht.look
  refine ⟨_,pss_one (ps_ret (pe_ifExp (pt_val (pe_call G hr rfl mG FG.kp bG .nil pass0 (pa_cons (pv 0) pa_nil))) (pe_tup pa_nil) (pe_slice sl_tup (pv 0) (po_some pe_int) po_none))),?_⟩
  refine ⟨_,rfl,t,_,rfl,ht,_,rfl,?_⟩
  cases e:isGap t with
  | true =>
   refine iteT ⟨by simp,fun p hp=>k p [] hp ?_ (by simp)⟩
   cases t <;> simp [isGap] at e
   exact .nil
  | false =>
   refine iteF ⟨_,rfl,_,rfl,a,_,rfl,SqT.of ha,?_,fun p hn=>?_⟩
   ·intro z
    have:=z.1
    simp [HT.sIx] at this
   ·rw [cut1]
    exact k p us hn (hp e) hl
end
end K
namespace K
open PySem L2 KM KS
section
variable {Pr:Program}{w:World}{K:PySem.W.Frag}{mg:Str->Option Value}{base:Heap}
theorem parts_ok {f:Addr}{fd:FuncData}{H:Hp}(GP:FnOk Pr w K mg base CX0 2 f fd ["kind"] spParts)(kP:PySem.W.keepIn K (.ref f)=true)(bP:Binds K fd ["kind"] []):PartsOk Pr w K mg base parts KAt H f :=
 ⟨⟨fd,"kind",spParts,GP.mono (by decide),bP,.inl kP,fun H' d x Q' _ ka q=>⟨d,x,rfl,ka,fun p us hn hk _=>q p us _ (Same.new hn) hn upd_same (KAts.mono (TSub.new hn) hk)⟩⟩,fun _ _ _ _ s z=>KAt.mono s.tsub0 z⟩
end
end K
namespace K
open PySem L2 KM KS
abbrev sMakeN:Stmt:=inDef s_node_of 0
section
variable {C:Addr}{N:NA}{H H':Hp}{G:Gr}{ls:List Addr}
theorem Grow.free {G':Gr}{ls':List Addr}(A:NodesAt C N H' G' id ls')(g:Grow N H H'){b:Addr}(e:H' b=none):H b=none:=by
 cases z:H b with
 | none=>rfl
 | some o =>
  have:=g b o z (Ne.symm (ne_of_none A.sorts e)) (Ne.symm (ne_of_none A.inner e)) (Ne.symm (ne_of_none A.leaders e)) (fun y=>by
   rcases A.gaps with w | ⟨_,w⟩
   ·rw [<- y,e] at w;cases w
   ·rw [<- y,e] at w;cases w) (Ne.symm (ne_of_none A.levels e))
  rw [e] at this
  cases this
end
def TrV (G:Gr)(d:Kd)(v:V):Prop:=∃ i:Nat,v=.int ((i:Nat):Int)/\Tr G d i
theorem TrV.ext {G G':Gr}(x:ExtG G G'){d:Kd}{v:V}(h:TrV G d v):TrV G' d v:=let ⟨i,e,t⟩:=h;⟨i,e,t.ext x⟩
theorem trv_list {G:Gr}:∀ {ds:List Kd} {vs:List V},Paired (TrV G) ds vs->∃ cs:List Nat,vs=lsC cs/\Paired (Tr G) ds cs
 | _,_,.nil=>⟨[],rfl,.nil⟩
 | _,_,.cons ⟨i,e,t⟩ r=>by
  obtain ⟨cs,e2,p⟩:=trv_list r
  exact ⟨i::cs,by rw [e,e2];rfl,.cons t p⟩
structure NSt (C:Addr)(N:NA)(H:Hp)(G:Gr)(t:Kd)(H':Hp)(G':Gr)(ls':List Addr):Prop where
 at_:NodesAt C N H' G' id ls'
 g:H' N.g=some (.dK (dG G'.gs))
 ok:G'.Ok
 ext:ExtG G G'
 gr:Grow N H H'
 gs:∀ q∈G'.gs,q∈G.gs\/q.1∈gp t
theorem gap_in {k:Int}:∀ (n:Nat) (l:List Kd),szs l=n->Kd.gap k∈P l->∃ t∈l,k∈gp t
 | 0,[],_,h=>by cases h
 | 0,t::ts,h,_=>by have:=sz_pos t;simp only [szs] at h;omega
 | n+1,[],h,_=>by simp [szs] at h
 | n+1,t::ts,h,hm=>by
  have e:=szs_nxt t ts
  rw [P_cons] at hm
  rcases List.mem_cons.mp hm with z | z
  ·exact ⟨t,List.mem_cons_self,by rw [<- z];simp [gp]⟩
  ·obtain ⟨s,hs,hk⟩:=gap_in n (parts t++ts) (by show szs (nxt (t::ts))=n;omega) z
   rcases List.mem_append.mp hs with y | y
   ·exact ⟨t,List.mem_cons_self,gp_part y hk⟩
   ·exact ⟨s,List.mem_cons_of_mem _ y,hk⟩
theorem tag_gap {d:Kd}(h:isGap d=false):tag d≠2:=by cases d <;> simp [tag,isGap] at *
theorem tag_ar {d:Kd}:arity (tag d)=(parts d).length:=by cases d <;> rfl
theorem tr_add {G:Gr}{d:Kd}{cs:List Nat}{gn:Int}(h:isGap d=false)(p:Paired (Tr G) (parts d) cs):Tr (addN G (tag d) cs gn) d G.n:=by
 have X:=ext_addN G (tag d) cs gn
 have t1:(addN G (tag d) cs gn).tg G.n=tag d:=if_pos rfl
 have c1:(addN G (tag d) cs gn).ch G.n=cs:=if_pos rfl
 have lt:G.n < (addN G (tag d) cs gn).n:=Nat.lt_succ_self _
 cases d with
 | num=>exact ⟨lt,t1⟩
 | tru=>exact ⟨lt,t1⟩
 | gap k=>cases h
 | fn a b =>
  cases p with
  | cons p1 p2 =>
   cases p2 with
   | cons p2 p3 =>
    cases p3
    exact ⟨lt,t1,_,_,c1,p1.ext X,p2.ext X⟩
 | pr a b =>
  cases p with
  | cons p1 p2 =>
   cases p2 with
   | cons p2 p3 =>
    cases p3
    exact ⟨lt,t1,_,_,c1,p1.ext X,p2.ext X⟩
 | ls a =>
  cases p with
  | cons p1 p2 =>
   cases p2
   exact ⟨lt,t1,_,c1,p1.ext X⟩
theorem trs_lt {G:Gr}:∀ {ds:List Kd} {cs:List Nat},Paired (Tr G) ds cs->∀ c∈cs,c < G.n
 | _,_,.nil,c,h=>by cases h
 | _,_,.cons t r,c,h=>by
  rcases List.mem_cons.mp h with z | z
  ·rw [z];exact t.lt
  ·exact trs_lt r c z
section
variable {Pr:Program}{w:World}{K:PySem.W.Frag}{mg:Str->Option Value}{base:Heap}
def spMakeN (C f c' c p:Addr)(fo oc co:Obj):Sp:=fun vs H Q _=>∃ (N:NA) (H0:Hp) (G0:Gr) (t:Kd) (G:Gr) (ls:List Addr) (d:Kd) (x:V) (l:Addr) (cs:List Nat),N.p=p/\vs=[x,.ref l]/\NSt C N H0 G0 t H G ls/\G.n < 5000/\d∈P [t]/\KAt H d x/\H l=some (.lst (lsC cs)) /\
 l≠N.s/\l≠N.i/\l≠N.l/\l≠N.v/\Paired (Tr G) (parts d) cs/\H0 c=some (ObO c co)/\H f=some (ObO f fo)/\H c'=some (ObO c' oc)/\H c=some (ObO c co) /\
 ∀ i H'' G'' ls'',NSt C N H0 G0 t H'' G'' ls''->ExtG G G''->G''.n<=G.n+1->Grow N H H''->(∀ b∈ls'',b∈ls\/b=l\/H b=none)->Tr G'' d i->Q (.int ((i:Nat):Int)) H''
theorem scMN:ClScope ["part","made","nodes"] ["part","made"] "nodes" (defScope sMakeN):=⟨rfl,rfl,rfl,by decide +kernel,rfl,by decide +kernel,by decide +kernel,by decide +kernel,rfl⟩
theorem ok_makeN {f c' c p C fG fNN fGN:Addr}{fdG fdNN fdGN:FuncData}{doc pm ctv u:Value}{oc co:Obj}(T:NTxt K mg C)(hoc:IsCodeO "node_of.<locals>.make" oc)(dc:co.data=.cell (some u))(rv:RelV (.ref p) u)
  (G1:FnOk Pr w K mg base CX0 1 fG fdG ["kind"] spIsGap) (kG:PySem.W.keepIn K (.ref fG)=true) (bG:Binds K fdG ["kind"] []) (mG:mg "is_gap"=some (.ref fG))
  (GN:FnOk Pr w K mg base CX0 1 fNN fdNN ["self","word","inner"] (spNew C)) (bN:Binds K fdNN ["self","word","inner"] []) (mN:Meth K C "new_node" fNN)
  (GGN:FnOk Pr w K mg base CX0 3 fGN fdGN ["self","number"] (spGapN C)) (bGN:Binds K fdGN ["self","number"] []) (mGN:Meth K C "numbered_gap" fGN) :
  FnOk Pr w K mg base CX0 4 f (PySem.W.fnX "make" "node_of.<locals>.make" (defArgs sMakeN) (defBody sMakeN) (defScope sMakeN) [("nodes",c)] .none .none doc pm none (.ref c') ctv) ["part","made"]
   (spMakeN C f c' c p (PySem.W.fnMade "make" "node_of.<locals>.make" (defArgs sMakeN) (defBody sMakeN) (defScope sMakeN) [("nodes",c)] doc pm c' ctv) oc co):=by
 refine cl_of (st:=sMakeN) (k:=3) scMN hoc dc rv (fun vs H Q E h=>?_) (fun vs H Q E h=>?_) (fun A outer s H vs Q E hr h=>?_)
 ·obtain ⟨N,H0,G0,t,G,ls,d,x,l,cs,_,rfl,_⟩:=h
  rfl
 ·obtain ⟨N,H0,G0,t,G,ls,d,x,l,cs,_,rfl,_,_,_,_,_,_,_,_,_,_,_,h1,h2,h3,_⟩:=h
  exact ⟨h1,h2,h3⟩
 ·obtain ⟨N,H0,G0,t,G,ls,d,x,l,cs,rfl,rfl,S,hn,hd,kx,hl,l1,l2,l3,l4,pcs,h0c,h1,h2,h3,q⟩:=h
  have hu:=hu_of hr
  have hb:=line_big
  have hr1:Room 1 _:=hr.mono (by decide)
  have A0:=S.at_
  have nc:∀ b o,H b=some o->o≠ObO c co->b≠c:=fun b o e n z=>by rw [z,h3] at e;exact n (Option.some.inj e).symm
  have back:∀ H',H' c=none->∀ b,b≠c->(upd H' c (ObO c co)) b=H' b:=fun H' _ b hb=>upd_ne hb
  have sub:TSub H (del H c):=TSub.drop fun xs z=>by rw [h3] at z;cases z
  have kx1:KAt (del H c) d x:=KAt.mono sub kx
  have A1:NodesAt C N (del H c) G id ls:=A0.same fun b o hb e=>by
   rw [del_ne]
   ·exact e
   ·rcases hb with rfl | rfl | rfl | rfl | rfl | hb | rfl
    ·exact nc _ _ A0.ins (by intro z;cases z)
    ·exact nc _ _ A0.sorts (by intro z;cases z)
    ·exact nc _ _ A0.inner (by intro z;cases z)
    ·exact nc _ _ A0.leaders (by intro z;cases z)
    ·exact nc _ _ S.g (by intro z;cases z)
    ·obtain ⟨j,hj,ej⟩:=List.mem_iff_getElem.mp hb
     exact nc _ _ (A0.chs j b (by rw [List.getElem?_eq_getElem hj,ej])) (by intro z;cases z)
    ·exact nc _ _ A0.levels (by intro z;cases z)
  have hg1:(del H c) N.g=some (.dK (dG G.gs)):=by rw [del_ne (nc _ _ S.g (by intro z;cases z))];exact S.g
  have hl1:(del H c) l=some (.lst (lsC cs)):=by rw [del_ne (nc _ _ hl (by intro z;cases z))];exact hl
  have fin:∀ (i:Nat) (H':Hp) (G':Gr) (ls':List Addr),H' c=none->NodesAt C N H' G' id ls'->H' N.g=some (.dK (dG G'.gs))->G'.Ok->ExtG G G'->G'.n<=G.n+1->(∀ q∈G'.gs,q∈G.gs\/q.1∈gp t)->Grow N (del H c) H'->(∀ b∈ls',b∈ls\/b=l\/(del H c) b=none)->Tr G' d i->Q (.int ((i:Nat):Int)) (upd H' c (ObO c co)):=by
   intro i H' G' ls' hc' A' g' ok' ext' n' gs' gr' new' tr'
   have up:∀ b o,H' b=some o->(upd H' c (ObO c co)) b=some o:=fun b o e=>by rw [upd_ne (ne_of_none e hc')];exact e
   have grow:Grow N H (upd H' c (ObO c co)):=fun b o e b1 b2 b3 b4 b5=>by
    by_cases z:b=c
    ·subst z;rw [h3] at e;cases e;exact upd_same
    ·exact up b o (gr' b o (by rw [del_ne z];exact e) b1 b2 b3 b4 b5)
   have notc:∀ b∈ls',b≠c:=fun b hb z=>by
    obtain ⟨j,hj,ej⟩:=List.mem_iff_getElem.mp hb
    have:=A'.chs j b (by rw [List.getElem?_eq_getElem hj,ej])
    rw [z,hc'] at this;cases this
   refine q i _ G' ls' ⟨A'.same fun b o _ e=>up b o e,up _ _ g',ok',S.ext.trans ext',S.gr.trans grow,fun q hq=>?_⟩ ext' n' grow (fun b hb=>?_) tr'
   ·rcases gs' q hq with z | z
    ·exact S.gs q z
    ·exact .inr z
   ·rcases new' b hb with z | z | z
    ·exact .inl z
    ·exact .inr (.inl z)
    ·rw [del_ne (notc b hb)] at z;exact .inr (.inr z)
  obtain ⟨a,us,ea,ha,hp,hg,hul⟩:=kx1.look
  subst ea
  refine ⟨_,SB.out (b_cons (s_if (t_val (e_call G1 hr1 rfl mG kG bG (a_cons (e_v 0) a_nil))) (b_one (s_ret (e_meth (e_v 2) T.cl mGN GGN hr bGN (a_cons (e_ix ix_tup (e_v 0) e_int (fun _ _=>rfl)) a_nil)))) b_nil)
   (b_one (s_ret (e_meth (e_v 2) T.cl mN GN hr1 bN (a_cons (e_ix ix_tup (e_v 0) e_int (fun _ _=>rfl)) (a_cons (e_v 1) a_nil)))))),?_⟩
  refine ⟨_,rfl,d,_,rfl,kx1,_,rfl,?_⟩
  cases e:isGap d with
  | true =>
   obtain ⟨k,rfl⟩:∃ k,d=.gap k:=by cases d <;> simp [isGap] at e;exact ⟨_,rfl⟩
   obtain rfl:=hg k rfl
   refine iteT ⟨_,rfl,N.p,N.dx,_,rfl,A1.ins,nf_no N (by decide +kernel),_,rfl,a,_,_,_,rfl,rfl,SqT.of ha,atI_nat (j:=1) rfl,?_⟩
   obtain ⟨s',hs',hk⟩:=gap_in _ [t] rfl hd
   rw [List.mem_singleton.mp hs'] at hk
   refine ⟨N,G,ls,k,rfl,A1,hg1,S.ok,hn,fun G' ls' i H' A' g' ok' ext' n' i1 i2 i3 gs' new' gr' hc'=>?_⟩
   exact fin i H' G' ls' hc' A' g' ok' ext' n' (fun q hq=>by
    rcases gs' q hq with z | z
    ·exact .inl z
    ·rw [z];exact .inr hk) gr' (fun b hb=>by
    rcases new' b hb with z | z
    ·exact .inl z
    ·exact .inr (.inr z)) ⟨i1,i2,i3⟩
  | false =>
   refine iteF ⟨_,rfl,N.p,N.dx,_,rfl,A1.ins,nf_no N (by decide +kernel),_,rfl,a,_,_,_,rfl,rfl,SqT.of ha,atI_nat (j:=0) rfl,_,rfl,?_⟩
   refine ⟨N,G,ls,tag d,cs,0,l,by rw [<- word_eq];rfl,A1,hl1,l1,l2,l3,l4,hn,fun H' A' fr' hc'=>?_⟩
   have ng:N.g≠N.s/\N.g≠N.i/\N.g≠N.l/\N.g≠N.v:=⟨ne_of S.g A0.sorts (by intro z;cases z),ne_of S.g A0.inner (by intro z;cases z),ne_of S.g A0.leaders (by intro z;cases z),ne_of S.g A0.levels (by intro z;cases z)⟩
   have hcl:cs.length=arity (tag d):=by rw [tag_ar];exact (Paired.length pcs).symm
   exact fin G.n H' _ _ hc' A' (by rw [fr' _ ng.1 ng.2.1 ng.2.2.1 ng.2.2.2];exact hg1) (addN_ok S.ok (tag_lt d) (tag_gap e) hcl (trs_lt pcs)) (ext_addN G _ _ _) (Nat.le_refl _) (fun q hq=>.inl hq) (fun b o eb b1 b2 b3 _ b5=>by rw [fr' b b1 b2 b3 b5];exact eb) (fun b hb=>by
    rcases List.mem_append.mp hb with z | z
    ·exact .inl z
    ·exact .inr (.inl (List.mem_singleton.mp z))) (tr_add e pcs)
def TabN (Pt:Addr)(H:Hp):Prop:=H Pt=some (.tbl #[])\/∃ c' oc,H Pt=some (.tbl #[rawInt (Stmt.pos sMakeN).line,rawInt (Stmt.pos sMakeN).col,.ref c'])/\H c'=some (ObO c' oc)/\IsCodeO "node_of.<locals>.make" oc
theorem TabN.tab {Pt:Addr}{H:Hp}(h:TabN Pt H):∃ ps,H Pt=some (.tbl ps):=by
 rcases h with z | ⟨c,oc,z1,z2,z3⟩
 ·exact ⟨_,z⟩
 ·exact ⟨_,z1⟩
theorem TabN.same {Pt:Addr}{H H':Hp}(s:∀ b o,H b=some o->(∀ xs,o≠.lst xs)->(∀ xs,o≠.dK xs)->H' b=some o)(h:TabN Pt H):TabN Pt H':=by
 rcases h with z | ⟨c,oc,z1,z2,z3⟩
 ·exact .inl (s _ _ z (by intro _ y;cases y) (by intro _ y;cases y))
 ·exact .inr ⟨c,oc,s _ _ z1 (by intro _ y;cases y) (by intro _ y;cases y),s _ _ z2 (by intro _ y;cases y) (by intro _ y;cases y),z3⟩
def GrowX (Pt:Addr)(N:NA)(H H':Hp):Prop:=∀ b o,H b=some o->b≠Pt->b≠N.s->b≠N.i->b≠N.l->b≠N.g->b≠N.v->H' b=some o
def spNodeOf (C Pt:Addr):Sp:=fun vs H Q _=>∃ (t:Kd) (v:V) (N:NA) (G:Gr) (ls:List Addr),vs=[.ref N.p,v]/\KAt H t v/\sz t<=1000/\NodesAt C N H G id ls/\H N.g=some (.dK (dG G.gs))/\G.Ok/\G.n<=2000/\TabN Pt H /\
 ∀ i G' ls' H',NodesAt C N H' G' id ls'->H' N.g=some (.dK (dG G'.gs))->G'.Ok->ExtG G G'->GrowX Pt N H H'->(∀ q∈G'.gs,q∈G.gs\/q.1∈gp t)->G'.n<=G.n+sz t->Tr G' t i->TabN Pt H'->Q (.int ((i:Nat):Int)) H'
theorem scNO:FnScope ["nodes","kind","make"] ["nodes","kind"] (defScope s_node_of):=⟨rfl,rfl,rfl,by decide +kernel,rfl,by decide +kernel,by decide +kernel⟩
theorem ok_nodeOf {f c0 Pt C fG fP fB fNN fGN:Addr}{fdG fdP fdB fdNN fdGN:FuncData}{oc kV doc pm ct:Value}{od an:Option Addr}{osl:Array (Option Value)}(T:NTxt K mg C)
  (lk:K.lookup f=some ⟨oc,od,.func (PySem.W.fnOf "node_of" "node_of" (defArgs s_node_of) (defBody s_node_of) (defScope s_node_of) .none kV doc pm an (.ref c0) ct),osl⟩) (hcd:PySem.W.codeIn K (.ref c0) "node_of"=true)
  (B:NestB base mg c0 Pt) (G1:FnOk Pr w K mg base CX0 1 fG fdG ["kind"] spIsGap) (kG:PySem.W.keepIn K (.ref fG)=true) (bG:Binds K fdG ["kind"] []) (mG:mg "is_gap"=some (.ref fG))
  (GN:FnOk Pr w K mg base CX0 1 fNN fdNN ["self","word","inner"] (spNew C)) (bN:Binds K fdNN ["self","word","inner"] []) (mN:Meth K C "new_node" fNN)
  (GGN:FnOk Pr w K mg base CX0 3 fGN fdGN ["self","number"] (spGapN C)) (bGN:Binds K fdGN ["self","number"] []) (mGN:Meth K C "numbered_gap" fGN)
  (GP:FnOk Pr w K mg base CX0 2 fP fdP ["kind"] spParts) (kP:PySem.W.keepIn K (.ref fP)=true) (bP:Binds K fdP ["kind"] []) (mP:mg "parts_of"=some (.ref fP))
  (GB:FnOk Pr w K mg base CX0 6 fB fdB ["top","parts_of","make"] (spBuilt Pr w K mg base)) (kB:PySem.W.keepIn K (.ref fB)=true) (bB:Binds K fdB ["top","parts_of","make"] []) (mB:mg "built"=some (.ref fB)) :
  FnOk Pr w K mg base CX0 7 f (PySem.W.fnOf "node_of" "node_of" (defArgs s_node_of) (defBody s_node_of) (defScope s_node_of) .none kV doc pm an (.ref c0) ct) ["nodes","kind"] (spNodeOf C Pt):=by
 refine fn_of lk hcd scNO (fun vs H Q E h=>?_) (fun A outer s H vs Q E hr h=>?_)
 ·obtain ⟨t,v,N,G,ls,rfl,_⟩:=h
  rfl
 ·obtain ⟨t,v,N,G,ls,rfl,kv,hsz,A0,hg,ok,hn,tab,kq⟩:=h
  suffices hh:∃ tt,PSs (cxOf CX0 Pr w K mg base ["nodes","kind","make"] "node_of" (defScope s_node_of) f (.ref c0) A outer s H E).nox (defBody s_node_of) tt/\tt { nx:=fun _ H'=>Q .non H',rt:=Q } (start ["nodes","kind","make"] [.ref N.p,v]) H by
   obtain ⟨tt,h1,h2⟩:=hh
   exact ⟨tt,h1.nox,h2⟩
  refine ⟨_,pss_cons (ps_def (i:=2) (q:="node_of.<locals>.make") (clos:=[("nodes",s.heap.objs.size+1)]) B rfl rfl rfl rfl rfl rfl scNO.nd rfl (Or.inl rfl))
   (pss_one (ps_ret (pe_callL GB hr rfl mB kB bB (i:=0) (y:="nodes") (c:=s.heap.objs.size+1) rfl rfl rfl rfl (pa_cons (pv 1) (pa_cons (pe_glob (v:=.ref fP) rfl mP rfl) (pa_cons (pv 2) pa_nil)))))),?_⟩
  generalize hc:s.heap.objs.size+1=c
  have nPt:∀ b o,H b=some o->(∀ ps,o≠.tbl ps)->b≠Pt:=fun b o e n z=>by
   obtain ⟨ps,h⟩:=tab.tab
   rw [z,h] at e
   exact n ps (Option.some.inj e).symm
  have main:∀ (fm c':Addr) (om:Obj) (ctv dc:Value) (H1:Hp),IsCodeO "node_of.<locals>.make" om->SameX Pt H H1->H1 c'=some (ObO c' om)->TabN Pt H1 ->
    H1 fm=some (ObO fm (PySem.W.fnMade "make" "node_of.<locals>.make" (defArgs sMakeN) (defBody sMakeN) (defScope sMakeN) [("nodes",c)] dc ((mg "__name__").getD .none) c' ctv)) ->
    tRet (tCallL (spBuilt Pr w K mg base) 0 c (tCons (tVar 1) (tCons (tC (.ref fP)) (tCons (tVar 2) tNil)))) { nx:=fun _ H'=>Q .non H',rt:=Q } [some (.ref N.p),some v,some (.ref fm)] H1:=by
   intro fm c' om ctv dc H1 iom sx hc' tab1 hfm
   have sub1:TSub H H1:=fun b xs e=>sx b _ e (nPt b _ e (by intro _ z;cases z))
   refine ⟨_,rfl,_,rfl,_,rfl,fun co u nc dco ru=>?_⟩
   have smc:Same H1 (upd H1 c (ObO c co)):=Same.new nc
   have keep1:∀ b o,H b=some o->(∀ ps,o≠.tbl ps)->(upd H1 c (ObO c co)) b=some o:=fun b o e n=>smc b o (sx b o e (nPt b o e n))
   have A1:NodesAt C N (upd H1 c (ObO c co)) G id ls:=by
    refine ⟨keep1 _ _ A0.ins (by intro _ z;cases z),keep1 _ _ A0.sorts (by intro _ z;cases z),keep1 _ _ A0.inner (by intro _ z;cases z),keep1 _ _ A0.leaders (by intro _ z;cases z),.inl (keep1 _ _ hg (by intro _ z;cases z)),A0.len,fun j l e=>keep1 _ _ (A0.chs j l e) (by intro _ z;cases z),A0.away,A0.si,A0.sl,A0.il,keep1 _ _ A0.levels (by intro _ z;cases z),A0.vn⟩
   have hg1:(upd H1 c (ObO c co)) N.g=some (.dK (dG G.gs)):=keep1 _ _ hg (by intro _ z;cases z)
   have hcc:(upd H1 c (ObO c co)) c=some (ObO c co):=upd_same
   have S1:NSt C N (upd H1 c (ObO c co)) G t (upd H1 c (ObO c co)) G ls:=⟨A1,hg1,ok,ExtG.refl G,Grow.of (Same.refl _),fun q hq=>.inl hq⟩
   have far:∀ b (o:HO),(upd H1 c (ObO c co)) b=some o->(∀ xs,o≠.lst xs)->(∀ kvs,o≠.dK kvs)->b≠N.s/\b≠N.i/\b≠N.l/\b≠N.g/\b≠N.v:=fun b o e n1 n2=>⟨ne_of e A1.sorts (n1 _),ne_of e A1.inner (n1 _),ne_of e A1.leaders (n1 _),ne_of e hg1 (n2 _),ne_of e A1.levels (n1 _)⟩
   have through:∀ {H2:Hp} {b:Addr} {φ:Heap->Prop},Grow N (upd H1 c (ObO c co)) H2->(upd H1 c (ObO c co)) b=some (.ext φ)->H2 b=some (.ext φ):=fun {H2 b φ} g e=>by
    obtain ⟨a1,a2,a3,a4,a5⟩:=far b _ e (by intro _ z;cases z) (by intro _ z;cases z)
    exact g b _ e a1 a2 a3 a4 a5
   have hM:∀ b,(b=N.s\/b=N.i\/b=N.l\/b=N.g\/b=N.v)->∀ {H':Hp} {G':Gr} {ls':List Addr},NSt C N (upd H1 c (ObO c co)) G t H' G' ls'->(∃ xs,H' b=some (.lst xs))\/∃ ks,H' b=some (.dK ks):=by
    intro b hb H' G' ls' S'
    rcases hb with rfl | rfl | rfl | rfl | rfl
    ·exact .inl ⟨_,S'.at_.sorts⟩
    ·exact .inl ⟨_,S'.at_.inner⟩
    ·exact .inl ⟨_,S'.at_.leaders⟩
    ·exact .inr ⟨_,S'.g⟩
    ·exact .inl ⟨_,S'.at_.levels⟩
   have frG:∀ {H2 H3:Hp},Grow N H2 H3->Fr (fun b=>b=N.s\/b=N.i\/b=N.l\/b=N.g\/b=N.v) H2 H3:=fun g b o e m=>g b o e (fun z=>m (.inl z)) (fun z=>m (.inr (.inl z))) (fun z=>m (.inr (.inr (.inl z)))) (fun z=>m (.inr (.inr (.inr (.inl z))))) (fun z=>m (.inr (.inr (.inr (.inr z)))))
   have notls:∀ {b:Addr} {H':Hp} {G':Gr} {ls':List Addr},NodesAt C N H' G' id ls'->b∈ls'->∃ xs,H' b=some (.lst xs):=fun {b H' G' ls'} A' hb=>by
    obtain ⟨j,hj,ej⟩:=List.mem_iff_getElem.mp hb
    exact ⟨_,A'.chs j b (by rw [List.getElem?_eq_getElem hj,ej])⟩
   refine ⟨Kd,Gr × List Addr,parts,sz,KAt,t,v,fP,fm,fun b=>b=N.s\/b=N.i\/b=N.l\/b=N.g\/b=N.v,fun s H'=>NSt C N (upd H1 c (ObO c co)) G t H' s.1 s.2/\∀ b∈s.2,b∈ls\/(upd H1 c (ObO c co)) b=none,fun s b=>b∉s.2/\(upd H1 c (ObO c co)) b=none,fun s s'=>ExtG s.1 s'.1,fun s=>s.1.n,(G,ls),fun _ s _ d r=>TrV s.1 d r,rfl,szK,KAt.mono (TSub.trans sub1 (TSub.of_same smc)) kv,by omega,parts_ok GP kP bP,
    ⟨⟨_,"part","made",_,(ok_makeN (f:=fm) (c':=c') (c:=c) (p:=N.p) (oc:=om) (co:=co) T iom dco ru G1 kG bG mG GN bN mN GGN bGN mGN).mono (by decide),Binds.all (fun us hl=>match us,hl with | [_,_],_=>rfl),.inr ⟨_,rfl,smc fm _ hfm⟩,?_⟩,?_,?_,fun s=>ExtG.refl _,?_,?_,?_,?_,?_,⟨S1,fun b hb=>.inl hb⟩⟩,?_⟩
   ·intro pl ps s H' d x l ms Q' fr js hcs hd kx hl hl0 hpl0 hpl os npl pm cont
    obtain ⟨G',ls'⟩:=s
    obtain ⟨S',new'⟩:=js
    obtain ⟨cs,rfl,pcs⟩:=trv_list pm
    have far0:∀ {b b2:Addr} {o:HO},(upd H1 c (ObO c co)) b=none->(upd H1 c (ObO c co)) b2=some o->b≠b2:=fun e e2=>Ne.symm (ne_of_none e2 e)
    have hcs:G'.n < G.n+sz t:=hcs
    rw [KM.PK] at hd
    refine ⟨N,_,G,t,G',ls',d,x,l,cs,rfl,rfl,S',by omega,hd,kx,hl,far0 hl0 A1.sorts,far0 hl0 A1.inner,far0 hl0 A1.leaders,far0 hl0 A1.levels,pcs,hcc,through S'.gr (smc fm _ hfm),through S'.gr (smc c' _ hc'),through S'.gr hcc,fun i H'' G'' ls'' S'' ext'' n'' gr'' new'' tr''=>?_⟩
    have back:∀ b,H' b=none->(upd H1 c (ObO c co)) b=none:=fun b e=>S'.gr.free S'.at_ e
    refine cont (G'',ls'') _ H'' ext'' n'' (frG gr'') ⟨S'',fun b hb=>?_⟩ ⟨fun z=>?_,hpl0⟩ ⟨i,rfl,tr''⟩
    ·rcases new'' b hb with y | y | y
     ·exact new' b y
     ·rw [y];exact .inr hl0
     ·exact .inr (back b y)
    ·rcases new'' pl z with y | y | y
     ·exact os.1 y
     ·exact npl y
     ·rw [hpl] at y;cases y
   ·intro H' H'' d x ht s z
    exact KAt.mono (s.tsub ht) z
   ·intro pl ps s s' H' H'' d r le _ _ z
    exact z.ext le
   ·intro s H' H'' pl js os k
    obtain ⟨S',new'⟩:=js
    have offs:∀ b,NodesAt.on N s.2 b->b≠pl:=fun b hb z=>by
     have hp0:=os.2
     rcases hb with y | y | y | y | y | y | y
     ·have:=A1.ins;rw [<- y,z,hp0] at this;cases this
     ·have:=A1.sorts;rw [<- y,z,hp0] at this;cases this
     ·have:=A1.inner;rw [<- y,z,hp0] at this;cases this
     ·have:=A1.leaders;rw [<- y,z,hp0] at this;cases this
     ·rw [<- y,z,hp0] at hg1;cases hg1
     ·exact os.1 (z▸y)
     ·have:=A1.levels;rw [<- y,z,hp0] at this;cases this
    exact ⟨⟨S'.at_.same fun b o hb e=>k b o (offs b hb) e,k _ _ (offs _ (.inr (.inr (.inr (.inr (.inl rfl)))))) S'.g,S'.ok,S'.ext,fun b o e b1 b2 b3 b4 b5=>k b o (ne_of_none e os.2) (S'.gr b o e b1 b2 b3 b4 b5),S'.gs⟩,new'⟩
   ·intro s H' b xs js m z
    rcases hM b m js.1 with ⟨_,y⟩ | ⟨_,y⟩
    ·rw [y] at z;cases z
    ·rw [y] at z;cases z
   ·intro s H' b js m z
    rcases hM b m js.1 with ⟨_,y⟩ | ⟨_,y⟩
    ·rw [y] at z;cases z
    ·rw [y] at z;cases z
   ·intro b φ m z
    rcases hM b m S1 with ⟨_,y⟩ | ⟨_,y⟩
    ·rw [y] at z;cases z
    ·rw [y] at z;cases z
   ·intro b e
    refine ⟨fun z=>?_,e⟩
    obtain ⟨xs,y⟩:=notls A1 z
    rw [e] at y;cases y
   intro pl s r H2 _ _ js hn2 tr2'
   obtain ⟨G',ls'⟩:=s
   obtain ⟨S2,new2⟩:=js
   obtain ⟨i,rfl,tr2⟩:=tr2'
   ·have hc2:H2 c=some (ObO c co):=through S2.gr hcc
    have A2:=S2.at_
    have nd:∀ b o,H2 b=some o->o≠ObO c co->(del H2 c) b=some o:=fun b o e n=>by
     rw [del_ne]
     ·exact e
     ·intro z;rw [z,hc2] at e;exact n (Option.some.inj e).symm
    have A3:NodesAt C N (del H2 c) G' id ls':=by
     refine ⟨nd _ _ A2.ins (by intro z;cases z),nd _ _ A2.sorts (by intro z;cases z),nd _ _ A2.inner (by intro z;cases z),nd _ _ A2.leaders (by intro z;cases z),.inl (nd _ _ S2.g (by intro z;cases z)),A2.len,fun j l e=>nd _ _ (A2.chs j l e) (by intro z;cases z),A2.away,A2.si,A2.sl,A2.il,nd _ _ A2.levels (by intro z;cases z),A2.vn⟩
    refine ⟨hc2,kq i G' ls' _ A3 (nd _ _ S2.g (by intro z;cases z)) S2.ok S2.ext (fun b o e bP b1 b2 b3 b4 b5=>?_) S2.gs hn2 tr2 ?_⟩
    ·have e1:=sx b o e bP
     rw [del_ne (ne_of_none e1 nc)]
     exact S2.gr b o (smc b o e1) b1 b2 b3 b4 b5
    ·refine TabN.same (fun b o e n1 n2=>?_) tab1
     obtain ⟨a1,a2,a3,a4,a5⟩:=far b o (smc b o e) n1 n2
     rw [del_ne (ne_of_none e nc)]
     exact S2.gr b o (smc b o e) a1 a2 a3 a4 a5
  rcases tab with tb | ⟨c',om,tb,hom,iom⟩
  ·refine .inl ⟨tb,fun fm c' om ctv dc hco hf hc' hfc=>?_⟩
   have n1:Pt≠c':=ne_of_none tb hc'
   have n2:Pt≠fm:=ne_of_none tb hf
   refine main fm c' om ctv dc _ hco (fun b o e nb=>?_) ?_ (.inr ⟨c',om,?_,?_,hco⟩) upd_same
   ·rw [upd_ne (ne_of_none e hf),upd_ne (ne_of_none e hc'),upd_ne nb];exact e
   ·rw [upd_ne (Ne.symm hfc),upd_same]
   ·rw [upd_ne n2,upd_ne n1,upd_same];rfl
   ·rw [upd_ne (Ne.symm hfc),upd_same]
  ·refine .inr ⟨c',tb,fun fm ctv dc hf=>?_⟩
   refine main fm c' om ctv dc _ iom (SameX.of (Same.new hf)) ?_ (.inr ⟨c',om,?_,?_,iom⟩) upd_same
   ·rw [upd_ne (ne_of_none hom hf)];exact hom
   ·rw [upd_ne (ne_of_none tb hf)];exact tb
   ·rw [upd_ne (ne_of_none hom hf)];exact hom
end
end K
namespace K
open PySem L2 KM KS
theorem lookG_snoc (l:List (Int × Nat))(q:Int × Nat)(key:Int):lookG (l++[q]) key=match lookG l key with | some g=>some g | none=>if q.1=key then some q.2 else none:=by
 unfold lookG
 rw [List.find?_append]
 cases e:l.find? fun p=>decide (p.1=key) with
 | some p=>rfl
 | none =>
  by_cases z:q.1=key
  ·simp [List.find?_cons,z]
  ·simp [List.find?_cons,z]
theorem IntKput {kvs:List (Key × V)}{g:Int}{v:V}(h:IntK kvs):IntK (putK kvs (Sum.inl g:Key) v):=by
 cases e:valV kvs (Sum.inl g:Key) with
 | none =>
  refine ⟨nd_putK _ h.1 e,fun p hp=>?_⟩
  rw [putK_new _ e] at hp
  rcases List.mem_append.mp hp with y | y
  ·exact h.2 p y
  ·rw [List.mem_singleton.mp y];exact ⟨g,rfl⟩
 | some u =>
  have e1:=putK_old (v:=v) e
  refine ⟨by rw [e1];exact h.1,fun p hp=>?_⟩
  have:p.1∈kvs.map (·.1):=by rw [<- e1];exact List.mem_map_of_mem hp
  obtain ⟨p',hp',e'⟩:=List.mem_map.mp this
  obtain ⟨j,ej⟩:=h.2 p' hp'
  exact ⟨j,by rw [<- e',ej]⟩
abbrev nJoined:List Str:=["one","other","nodes","top","made","told","number","gap","leader"]
section
variable {Pr:Program}{w:World}{K:PySem.W.Frag}{mg:Str->Option Value}{base:Heap}
theorem scJoined:FnScope nJoined ["one","other"] (defScope sJoined):=⟨rfl,rfl,rfl,by decide +kernel,rfl,by decide +kernel,by decide +kernel⟩
theorem ok_joined {f C CJ Pt fI fNO fS fU fL:Addr}{fd fdI fdNO fdS fdU fdL:FuncData}(F:Fun K "joined" "joined" sJoined f fd)(T:NTxt K mg C)(M:Mk K C fI)
  (GI:FnOk Pr w K mg base CX0 1 fI fdI ["self"] (spInitN C)) (bI:Binds K fdI ["self"] [])
  (GNO:FnOk Pr w K mg base CX0 7 fNO fdNO ["nodes","kind"] (spNodeOf C Pt)) (kNO:PySem.W.keepIn K (.ref fNO)=true) (bNO:Binds K fdNO ["nodes","kind"] []) (mNO:mg "node_of"=some (.ref fNO))
  (GS:FnOk Pr w K mg base (CX1 Pr w) 4 fS fdS ["self","one","other"] (spSame C CJ)) (bS:Binds K fdS ["self","one","other"] []) (mS:Meth K C "make_same" fS)
  (GU:FnOk Pr w K mg base (CX1 Pr w) 3 fU fdU ["self","tops"] (spUnder C CJ)) (bU:Binds K fdU ["self","tops"] []) (mU:Meth K C "kinds_under" fU)
  (GL:FnOk Pr w K mg base CX0 1 fL fdL ["self","node"] (spLeader C)) (bL:Binds K fdL ["self","node"] []) (mL:Meth K C "leader" fL) :
  FnOk Pr w K mg base (CX1 Pr w) 8 f fd ["one","other"] (spJoined Pt (TabN Pt) CJ):=by
 refine F.okX scJoined (fun vs H Q E h=>?_) (fun cdv A outer s H vs Q E hr h=>?_)
 ·obtain ⟨a,b,v,u,rfl,_⟩:=h
  rfl
 ·obtain ⟨a,b,v,u,rfl,ka,kb,sa,sb,tb,q1,q2⟩:=h
  have hb:=line_big
  have hu:=hu_of hr
  have hr4:Room 4 _:=hr.mono (by decide)
  have hr3:Room 3 _:=hr.mono (by decide)
  have hr2:Room 2 _:=hr.mono (by decide)
  have hr1:Room 1 _:=hr.mono (by decide)
  have PX:Passes (CX1 Pr w) (flyX Pr w K mg base nJoined "joined" (defScope sJoined) f cdv A outer s H E) E:=passX (X:=cxOf (CX1 Pr w) Pr w K mg base nJoined "joined" (defScope sJoined) f cdv A outer s H E) cx_body (fun _ _ h=>h)
  refine ⟨_,b_cons (s_set (i:=2) scJoined.nd rfl (Or.inl rfl) (e_make0 M GI hr2 rfl T.mgC bI))
   (b_cons (s_set (i:=3) scJoined.nd rfl (Or.inl rfl) (e_call GNO hr rfl mNO kNO bNO (a_cons (e_v 2) (a_cons (e_v 0) a_nil))))
   (b_cons (s_expr (e_methX (e_v 2) T.cl mS GS PX hr4 bS (a_cons (e_v 3) (a_cons (e_call GNO hr rfl mNO kNO bNO (a_cons (e_v 2) (a_cons (e_v 1) a_nil))) a_nil))))
   (b_cons (s_set (i:=4) scJoined.nd rfl (Or.inl rfl) (e_methX (e_v 2) T.cl mU GU PX hr3 bU (a_cons (e_lst (a_cons (e_v 3) a_nil)) a_nil)))
   (b_cons (s_set (i:=5) scJoined.nd rfl (Or.inl rfl) e_dnew)
   (b_cons (s_for (passesFly cx_body) rfl (i_items (e_bm0 PySem.F.plainAttrs_dict PySem.F.slot_dict_items PySem.F.type_dict_items mt_items (e_fld (e_v 2)))) (g_tup rfl (gs_cons (g_name (i:=6) scJoined.nd rfl (Or.inl rfl)) (gs_cons (g_name (i:=7) scJoined.nd rfl (Or.inl rfl)) gs_nil)))
    (b_cons (s_set (i:=8) scJoined.nd rfl (Or.inl rfl) (e_meth (e_v 2) T.cl mL GL hr1 bL (a_cons (e_v 7) a_nil)))
    (b_one (s_if (t_cmp op_ne (e_v 8) (e_v 7) (nomark _)) (b_one (s_dput hu (e_v 5) (e_v 6) (e_dget hu (e_v 4) (e_v 8) (fun _ _=>rfl)) rfl)) b_nil))))
   (b_one (s_ret (e_v 5)))))))),?_⟩
  intro x dx nx ndx nex
  refine ⟨x,dx,rfl,upd_same,fun N H1 eN A1 hg1 fS' fI' fL' fG' fV' kp=>⟨rfl,?_⟩⟩
  subst eN
  have sm1:Same H H1:=fun b' o e=>kp b' o (by rw [upd_ne (ne_of_none e nx),upd_ne (ne_of_none e ndx)];exact e) (ne_of_none e nx)
  have free:∀ z,(upd (upd H dx (.own N.p)) N.p (.ins C dx [])) z=none->H z=none:=fun z h=>by
   cases e:H z with
   | none=>rfl
   | some o=>rw [upd_ne (ne_of_none e nx),upd_ne (ne_of_none e ndx),e] at h;cases h
  have offN:∀ b' o,H b'=some o->b'≠N.s/\b'≠N.i/\b'≠N.l/\b'≠N.g/\b'≠N.v:=fun b' o e=>⟨ne_of_none e (free _ fS'),ne_of_none e (free _ fI'),ne_of_none e (free _ fL'),ne_of_none e (free _ fG'),ne_of_none e (free _ fV')⟩
  have tab1:TabN Pt H1:=TabN.same (fun b' o e _ _=>sm1 b' o e) tb
  obtain ⟨psT,hPt⟩:=tb.tab
  have tupPt:∀ {H':Hp},(∀ b' o,H b'=some o->b'≠Pt->H' b'=some o)->TSub H H':=fun {H'} h b' xs e=>h b' _ e (fun z=>by rw [z,hPt] at e;cases e)
  refine ⟨_,rfl,_,rfl,a,v,N,gr0,[],rfl,KAt.mono (TSub.of_same sm1) ka,by omega,A1,hg1,gr0_ok,by show 0<=2000;omega,tab1,fun i G1 ls1 H2 A2 hg2 ok2 ext2 gx2 gs2 n2 tr2 tab2=>?_⟩
  have n2:G1.n<=0+sz a:=n2
  have fx2:∀ b' o,H b'=some o->b'≠Pt->H2 b'=some o:=fun b' o e n=>by
   obtain ⟨o1,o2,o3,o4,o5⟩:=offN b' o e
   exact gx2 b' o (sm1 b' o e) n o1 o2 o3 o4 o5
  refine ⟨_,rfl,N.p,N.dx,_,rfl,A2.ins,nf_no N (by decide +kernel),_,rfl,_,rfl,_,rfl,b,u,N,G1,ls1,rfl,KAt.mono (tupPt fx2) kb,by omega,A2,hg2,ok2,by omega,tab2,fun j G2 ls2 H3 A3 hg3 ok3 ext3 gx3 gs3 n3 tr3 tab3=>?_⟩
  have fx3:∀ b' o,H b'=some o->b'≠Pt->H3 b'=some o:=fun b' o e n=>by
   obtain ⟨o1,o2,o3,o4,o5⟩:=offN b' o e
   exact gx3 b' o (fx2 b' o e n) n o1 o2 o3 o4 o5
  have tr2':=tr2.ext ext3
  have ngl:N.g≠N.l:=ne_of hg3 A3.leaders (by intro z;cases z)
  have afterL:∀ {H4:Hp},FrL N H3 H4->(∀ b' o,H b'=some o->b'≠Pt->H4 b'=some o)/\TabN Pt H4:=fun {H4} fr4=>⟨fun b' o e n=>fr4 b' o (fx3 b' o e n) (offN b' o e).2.2.1,TabN.same (fun b' o e n1 _=>fr4 b' o e (ne_of e A3.leaders (n1 _))) tab3⟩
  refine ⟨N,G2,ls2,id,fun _=>0,a,b,i,j,rfl,A3,UF.start _,uni_start tr2' tr3,ok3,by omega,fun par4 rp rk H4 A4 U4 SV fr4=>?_,fun no H4 fr4=>q2 no H4 (afterL fr4).1 (afterL fr4).2⟩
  have hg4:=fr4 _ _ hg3 ngl
  have A4o:=A4
  have fr4o:=fr4
  refine ⟨_,rfl,N.p,N.dx,_,rfl,A4.ins,nf_no N (by decide +kernel),_,rfl,by show 1<=sizeLine;omega,fun lt hlt=>?_⟩
  have smt:Same H4 (upd H4 lt (.lst [V.int ((i:Nat):Int)])):=Same.new hlt
  have hlt5:(upd H4 lt (.lst [V.int ((i:Nat):Int)])) lt=some (.lst (lsC [i])):=upd_same
  have nlt:lt≠N.l:=Ne.symm (ne_of_none A4.leaders hlt)
  replace A4:NodesAt C N (upd H4 lt (.lst [V.int ((i:Nat):Int)])) G2 par4 ls2:=A4o.same fun b' o _ e=>smt b' o e
  replace fr4:FrL N H3 (upd H4 lt (.lst [V.int ((i:Nat):Int)])):=fun b' o e n=>smt b' o (fr4o b' o e n)
  replace hg4:=smt _ _ hg4
  generalize upd H4 lt (.lst [V.int ((i:Nat):Int)])=H4 at hlt5 A4 fr4 hg4 ⊢
  refine ⟨N,G2,ls2,par4,rp,rk,a,b,i,j,i,lt,rfl,hlt5,nlt,A4,hg4,U4,SV,tr2'.lt,by omega,fun d kvs md par5 t H5 A5 hg5 U5 mad5 ht5 fr5 hd0 hd5 dk5=>?_,fun no H5 fr5=>?_⟩
  rotate_left
  ·have fr45:FrL N H3 H5:=fun b' o e n=>fr5 b' o (fr4 b' o e n) n
   exact q2 no H5 (afterL fr45).1 (afterL fr45).2
  have ngd:d≠N.g:=Ne.symm (ne_of_none hg4 hd0)
  have fr45:FrL N H3 H5:=fun b' o e n=>fr5 b' o (fr4 b' o e n) n
  obtain ⟨fx5,tab5⟩:=afterL fr45
  have hkk:∀ k g,(k,g)∈G2.gs->k∈gp a\/k∈gp b:=fun k g hq=>by
   rcases gs3 _ hq with z | z
   ·rcases gs2 _ z with y | y
    ·cases y
    ·exact .inl y
   ·exact .inr z
  have madeAt:∀ k g,(k,g)∈G2.gs->∃ t,md (rp g)=some t:=fun k g hq=>by
   have lk:=lookG_mem ok3.nd hq
   rcases hkk k g hq with z | z
   ·obtain ⟨g',t',e1,e2⟩:=made_gaps SV mad5 tr2' ⟨t,ht5⟩ k z
    rw [lk] at e1;cases e1
    exact ⟨t',e2⟩
   ·obtain ⟨g',t',e1,e2⟩:=made_gaps SV mad5 tr3 ⟨t,by rw [<- SV.top];exact ht5⟩ k z
    rw [lk] at e1;cases e1
    exact ⟨t',e2⟩
  intro dt hdt
  have sm6:Same H5 (upd H5 dt (.dK [])):=Same.new hdt
  have hdt6:(upd H5 dt (.dK [])) dt=some (.dK []):=upd_same
  have hdtH:H dt=none:=by
   cases z:H dt with
   | none=>rfl
   | some o =>
    by_cases y:dt=Pt
    ·obtain ⟨_,w'⟩:=tab5.tab
     rw [y,w'] at hdt;cases hdt
    ·rw [fx5 dt o z y] at hdt;cases hdt
  have ndg:N.g≠dt:=ne_of_none hg5 hdt
  have ndl:N.l≠dt:=ne_of_none A5.leaders hdt
  have ndd:d≠dt:=ne_of_none hd5 hdt
  have ndPt:Pt≠dt:=by
   obtain ⟨_,w'⟩:=tab5.tab
   exact ne_of_none w' hdt
  have onne:∀ b',NodesAt.on N ls2 b'->b'≠dt:=fun b' hb'=>A5.off hdt b' hb'
  have A6:NodesAt C N (upd H5 dt (.dK [])) G2 par5 ls2:=A5.same fun b' o _ e=>sm6 b' o e
  have hg6:=sm6 _ _ hg5
  have hd6:=sm6 _ _ hd5
  have dk6:=DictK.mono (TSub.of_same sm6) dk5
  have tab6:TabN Pt (upd H5 dt (.dK [])):=TabN.same (fun b' o e _ _=>sm6 b' o e) tab5
  have fx6:∀ b' o,H b'=some o->b'≠Pt->(upd H5 dt (.dK [])) b'=some o:=fun b' o e n=>sm6 b' o (fx5 b' o e n)
  generalize upd H5 dt (.dK [])=H6 at sm6 hdt6 A6 hg6 hd6 dk6 tab6 fx6 ⊢
  refine ⟨_,rfl,N.p,C,N.dx,_,_,rfl,A6.ins,T.cl,T.nG,nf_g N,.inr (.inr (.inl ⟨rfl,.inl ⟨_,hg6⟩⟩)),N.g,dG G2.gs,rfl,rfl,hg6,fun vw hvw=>⟨vw,N.g,dG G2.gs,rfl,upd_same,by rw [upd_ne (ne_of_none hg6 hvw)];exact hg6,fun o=>?_⟩⟩
  have gsl:(dG G2.gs).length=G2.gs.length:=by simp [dG]
  have gsn:=gs_len ok3
  refine for_items (o:=o) (d:=N.g) (kvs:=dG G2.gs) (fun k σ H7=>∃ kvsT mt x6 x7 x8 par7,σ=[some v,some u,some (.ref N.p),some (.int ((i:Nat):Int)),some (.ref d),some (.ref dt),x6,x7,x8]/\(∀ b' o',H b'=some o'->b'≠Pt->H7 b'=some o')/\TabN Pt H7/\NodesAt C N H7 G2 par7 ls2/\UF G2.n par7 rp rk/\H7 N.g=some (.frz o (.dK (dG G2.gs)))/\H7 d=some (.dK kvs)/\DictK H7 kvs (mI md)/\H7 dt=some (.dK kvsT)/\DictK H7 kvsT mt/\IntK kvsT/\kvsT.length<=k /\
    ∀ key,mt key=match lookG (G2.gs.take k) key with | some g=>if rp g=g then none else md (rp g) | none=>none)
   ⟨[],fun _=>none,none,none,none,par5,rfl,fun b' o' e n=>?_,?_,?_,U5,upd_same,?_,?_,?_,DictK.nil,⟨List.nodup_nil,fun _ z=>by cases z⟩,Nat.le_refl _,fun key=>rfl⟩ (fun k σ H7 _ z=>?_) (fun k p σ H7 tT hp z htT=>?_) (fun σ H7 z=>?_)
  ·rw [upd_ne (offN b' o' e).2.2.2.1,upd_ne (ne_of_none (fx6 b' o' e n) hvw)];exact fx6 b' o' e n
  ·refine TabN.same (fun b' o' e _ n2=>?_) tab6
   rw [upd_ne (ne_of e hg6 (n2 _)),upd_ne (ne_of_none e hvw)];exact e
  ·have np:N.p≠N.g:=ne_of A6.ins hg6 (by intro z;cases z)
   have nv:∀ b' o',H6 b'=some o'->b'≠N.g->(upd (upd H6 vw (ViewO vw N.g)) N.g (.frz o (.dK (dG G2.gs)))) b'=some o':=fun b' o' e n=>by rw [upd_ne n,upd_ne (ne_of_none e hvw)];exact e
   exact ⟨nv _ _ A6.ins np,nv _ _ A6.sorts (ne_of A6.sorts hg6 (by intro z;cases z)),nv _ _ A6.inner (ne_of A6.inner hg6 (by intro z;cases z)),nv _ _ A6.leaders (ne_of A6.leaders hg6 (by intro z;cases z)),.inr ⟨o,upd_same⟩,A6.len,fun j' l e=>nv _ _ (A6.chs j' l e) (ne_of (A6.chs j' l e) hg6 (by intro z;cases z)),A6.away,A6.si,A6.sl,A6.il,nv _ _ A6.levels (ne_of A6.levels hg6 (by intro z;cases z)),A6.vn⟩
  ·have ndg':d≠N.g:=ngd
   rw [upd_ne ndg',upd_ne (ne_of_none hd6 hvw)];exact hd6
  ·refine DictK.mono (TSub.trans (TSub.new hvw) (TSub.put fun xs z=>?_)) dk6
   rw [upd_ne (ne_of_none hg6 hvw),hg6] at z;cases z
  ·rw [upd_ne (Ne.symm ndg),upd_ne (ne_of_none hdt6 hvw)];exact hdt6
  ·obtain ⟨_,_,_,_,_,_,_,_,_,_,_,z,_⟩:=z
   exact z
  ·obtain ⟨kvsT,mt,x6,x7,x8,par7,rfl,fx7,tab7,A7,U7,hg7,hd7,dk7,hdt7,dkT,ikT,hkT,hmt⟩:=z
   unfold dG at hp
   rw [List.getElem?_map] at hp
   cases eq:G2.gs[k]? with
   | none=>rw [eq] at hp;cases hp
   | some q =>
    rw [eq] at hp
    cases hp
    have hqm:=List.mem_of_getElem? eq
    obtain ⟨qn,qt,qg⟩:=ok3.gs q.1 q.2 hqm
    have hkn:k < G2.gs.length:=(List.getElem?_eq_some_iff.mp eq).1
    refine ⟨tT,_,rfl,SqT.of upd_same,rfl,_,_,rfl,_,_,rfl,rfl,?_⟩
    have sm8:Same H7 (upd H7 tT (.tup [.int q.1,.int ((q.2:Nat):Int)])):=Same.new htT
    have A8:NodesAt C N (upd H7 tT (.tup [.int q.1,.int ((q.2:Nat):Int)])) G2 par7 ls2:=A7.same fun b' o' _ e=>sm8 b' o' e
    refine ⟨_,rfl,N.p,N.dx,_,rfl,A8.ins,nf_no N (by decide +kernel),_,rfl,N,G2,ls2,par7,rp,rk,q.2,rfl,A8,U7,qn,fun par9 H9 A9 U9 e9=>?_⟩
    have f9:∀ b' o',H7 b'=some o'->b'≠N.l->H9 b'=some o':=fun b' o' e n=>by rw [e9 b' n];exact sm8 b' o' e
    have notL:∀ b' o',H7 b'=some o'->(∀ xs,o'≠.lst xs)->H9 b'=some o':=fun b' o' e n=>f9 b' o' e (ne_of e A7.leaders (n _))
    have sub9:TSub H7 H9:=fun b' xs e=>notL b' _ e (by intro _ z;cases z)
    have hg9:=notL _ _ hg7 (by intro _ z;cases z)
    have hd9:=notL _ _ hd7 (by intro _ z;cases z)
    have hdt9:=notL _ _ hdt7 (by intro _ z;cases z)
    have tab9:TabN Pt H9:=TabN.same (fun b' o' e n1 _=>notL b' o' e n1) tab7
    have fx9:∀ b' o',H b'=some o'->b'≠Pt->H9 b'=some o':=fun b' o' e n=>f9 b' o' (fx7 b' o' e n) (offN b' o' e).2.2.1
    have nolook:lookG (G2.gs.take k) q.1=none:=by
     cases e:lookG (G2.gs.take k) q.1 with
     | none=>rfl
     | some g =>
      exfalso
      have hm:=lookG_some e
      have nd:=ok3.nd
      rw [<- List.take_append_drop (k+1) G2.gs,List.take_add_one,eq,List.map_append,List.map_append] at nd
      have nd1:=(List.nodup_append.mp nd).1
      have:=(List.nodup_append.mp nd1).2.2 q.1 (List.mem_map.mpr ⟨(q.1,g),hm,rfl⟩) q.1 (by simp)
      exact this rfl
    refine ⟨_,rfl,_,rfl,rfl,_,rfl,?_⟩
    by_cases er:rp q.2=q.2
    ·refine iteN (by simp [er]) ?_
     refine ⟨kvsT,mt,_,_,_,par9,rfl,fx9,tab9,A9,U9,hg9,hd9,DictK.mono sub9 dk7,hdt9,DictK.mono sub9 dkT,ikT,by omega,fun key=>?_⟩
     rw [List.take_add_one,eq,hmt key]
     show _=match lookG (G2.gs.take k++[q]) key with | some g=>if rp g=g then none else md (rp g) | none=>none
     rw [lookG_snoc]
     cases e:lookG (G2.gs.take k) key with
     | some g=>rfl
     | none =>
      by_cases z:q.1=key
      ·simp [z,er]
      ·simp [z]
    ·refine iteP (by simp;omega) ?_
     obtain ⟨t',ht'⟩:=madeAt q.1 q.2 hqm
     rcases dk7 ((rp q.2:Nat):Int) with ⟨_,z2⟩ | ⟨v',t2,z1,z2,z3⟩
     ·rw [mI_nat,ht'] at z2;cases z2
     ·rw [mI_nat,ht'] at z2
      cases z2
      refine ⟨_,rfl,_,rfl,d,v',rfl,.inl ⟨kvs,Sum.inl ((rp q.2:Nat):Int),.inl hd9,rfl,z1.symm⟩,_,rfl,_,rfl,dt,_,rfl,DPut.k (k:=Sum.inl q.1) hdt9 (by omega),?_⟩
      have sub:TSub H9 (upd H9 dt (.dK (putK kvsT (Sum.inl q.1:Key) v'))):=TSub.put fun xs z=>by rw [hdt9] at z;cases z
      have pl:=putK_len kvsT (Sum.inl q.1:Key) v'
      refine ⟨_,fun key=>if key=q.1 then some t' else mt key,_,_,_,par9,rfl,fun b' o' e n=>?_,?_,A9.same (fun b' o' hb' e=>by rw [upd_ne (onne b' hb')];exact e),U9,by rw [upd_ne ndg];exact hg9,by rw [upd_ne ndd];exact hd9,DictK.mono (TSub.trans sub9 sub) dk7,upd_same,DictK.put (DictK.mono (TSub.trans sub9 sub) dkT) (KAt.mono (TSub.trans sub9 sub) z3),IntKput ikT,by omega,fun key=>?_⟩
      ·rw [upd_ne (ne_of_none e hdtH)];exact fx9 b' o' e n
      ·refine TabN.same (fun b' o' e _ n2=>?_) tab9
       rw [upd_ne (ne_of e hdt9 (n2 _))];exact e
      ·rw [List.take_add_one,eq]
       show (if key=q.1 then some t' else mt key)=match lookG (G2.gs.take k++[q]) key with | some g=>if rp g=g then none else md (rp g) | none=>none
       rw [lookG_snoc]
       by_cases z:key=q.1
       ·rw [if_pos z,z,nolook]
        simp [er,ht']
       ·rw [if_neg z,hmt key]
        cases e:lookG (G2.gs.take k) key with
        | some g=>rfl
        | none=>simp [Ne.symm z]
  ·obtain ⟨kvsT,mt,x6,x7,x8,par7,rfl,fx7,tab7,A7,U7,hg7,hd7,dk7,hdt7,dkT,ikT,hkT,hmt⟩:=z
   rw [gsl,List.take_length] at hmt
   have emt:mt=told G2 rp md:=by
    funext key
    rw [hmt key]
    rfl
   rw [emt] at dkT
   rw [gsl] at hkT
   exact ⟨_,rfl,q1 dt kvsT (told G2 rp md) H7 fx7 tab7 hdtH hdt7 dkT ikT (by omega) (joins_of SV mad5 tr2' tr3 hkk ht5)⟩
end
end K
namespace L2
open PySem PySem.Spec PyProof.Rows
open PySem.W (CodeHd tabObj TabsAt noTabs)
theorem walk_ofT2 {l:PySem.W.OpenLaw}{n k:Nat}{q:Program}{loose:List Str}{XP:(Str->Option Value)->Heap->Prop}{YP:World->Heap->Prop}{d:DefRec}{K:Params->PySem.W.Frag}{x:Str}{ts:List Addr}
  (hn:l.most=some n) (hn2:n<=sizeLine) (hdf:d.params.defaults=[]) (hr:Room k callerA)
  (hY:∀ (w:World) (h:Heap),YP w h->(K w.params).In h/\∀ P∈ts,h.get? P=some (tabObj #[]))
  (F:∀ (w:World) (mg mb:Str->Option Value) (mean:ExcName->Option Value) (fa:Addr) (h:Heap),(K w.params).In h->(∀ P∈ts,h.get? P=some (tabObj #[]))->Top q (PySem.W.looseW q loose) mean mg mb h->mg d.name=some (.ref fa) ->
   ∃ (fd:FuncData) (tabs:List (Addr × Addr)),noTabs (K w.params)=true/\TabsAt tabs h/\(∀ (s:Shared) (u:Value),BindsTo s fd ⟨[u],[]⟩ [(x,u)]) /\
    ∀ base:Heap,(K w.params).In base->base.Ns mainGlobals mg->(∀ q∈tabs,NestB base mg q.1 q.2)->FnOk l.prog w (K w.params) mg base CX0 k fa fd [x] (spTop (K w.params) n (tabs.map (·.2)))) :
  PySem.W.WalkO q loose XP YP l.row.toRowW d [] (fun f vs=>PySem.call f vs):=by
 refine Att.attach_call hn hdf fun w s₀ s₁ mg mb fa o pm cd doc a vs ns G Y ho hd hcd hmg hobj hints hlen hg=>?_
 obtain ⟨KX,hts⟩:=hY w _ Y
 obtain ⟨fd,tabs,hK,hT,hb,hF⟩:=F w mg mb _ fa _ KX hts G.T hmg
 refine law_callT KX G.T.g G.T.b G.T.builtins G.T.nolimit hg G.T.bmain hT hK hobj hints (Nat.le_trans hlen hn2) hr hF hb (fun H hTb hS=>⟨a,ns,rfl,hS,hlen,fun p hp=>?_,fun _=>rfl⟩) fun H e s' z=>z
 obtain ⟨q,hq,e'⟩:=List.mem_map.mp hp
 rw [<- e']
 exact hTb q hq
def tabOf (K:PySem.W.Frag)(c:Addr):Option Addr:=match K.lookup c with
 | some ⟨_,_,.fields vs,_⟩=>match (vs[11]?:Option Value) with
  | some (.ref P)=>some P
  | _=>none
 | _=>none
def tabIn (K:PySem.W.Frag)(ts:List Addr)(c:Addr):Bool:=match tabOf K c with
 | some P=>PySem.W.codeHdIn K c P && ts.contains P
 | none=>false
theorem tabIn_at {K:PySem.W.Frag}{ts:List Addr}{c:Addr}{h:Heap}(X:K.In h)(hts:∀ P∈ts,h.get? P=some (tabObj #[]))(e:tabIn K ts c=true):∃ P,CodeHd h c P/\h.get? P=some (tabObj #[]):=by
 unfold tabIn at e
 split at e
 ·rename_i P _
  rw [Bool.and_eq_true] at e
  exact ⟨P,PySem.W.codeHd_of_K X e.1,hts P (List.contains_iff_mem.mp e.2)⟩
 ·cases e
end L2
namespace K
open PySem L2 KM KS
theorem all_mk {l:PySem.W.OpenLaw}{q:Program}{loose:List Str}{w:World}{K:PySem.W.Frag}{h:Heap}{mg mb:Str->Option Value}{mean:ExcName->Option Value}{fa:Addr}{ts:List Addr}(X:K.In h)(hts:∀ P∈ts,h.get? P=some (PySem.W.tabObj #[]))(T0:PyProof.Rows.Top q loose mean mg mb h)(hfa:mg "law"=some (.ref fa))
  {C:Addr}
  {f0:Addr} {o1 a2:Option Addr} {s3:Array (Option Value)} {o4 k5 d6 p7 c8:Value}
  {c9:Value}
  {f10:Addr} {o11 a12:Option Addr} {s13:Array (Option Value)} {o14 k15 d16 p17 c18:Value}
  {c19:Value}
  {f20:Addr} {o21 a22:Option Addr} {s23:Array (Option Value)} {o24 k25 d26 p27 c28:Value}
  {c29:Value}
  {f30:Addr} {o31 a32:Option Addr} {s33:Array (Option Value)} {o34 k35 d36 p37 c38:Value}
  {c39:Value}
  {f40:Addr} {o41 a42:Option Addr} {s43:Array (Option Value)} {o44 k45 d46 p47 c48:Value}
  {c49:Value}
  {f50:Addr} {o51 a52:Option Addr} {s53:Array (Option Value)} {o54 k55 d56 p57 c58:Value}
  {c59:Value}
  {f60:Addr} {o61 a62:Option Addr} {s63:Array (Option Value)} {o64 k65 d66 p67 c68:Value}
  {c69:Value}
  {f70:Addr} {o71 a72:Option Addr} {s73:Array (Option Value)} {o74 k75 d76 p77 c78:Value}
  {c79:Value}
  {f80:Addr} {o81 a82:Option Addr} {s83:Array (Option Value)} {o84 k85 d86 p87 c88:Value}
  {c89:Value}
  {f90:Addr} {o91 a92:Option Addr} {s93:Array (Option Value)} {o94 k95 d96 p97 c98:Value}
  {c99:Value}
  {f100:Addr} {o101 a102:Option Addr} {s103:Array (Option Value)} {o104 k105 d106 p107 c108:Value}
  {c109:Value}
  {f110:Addr} {o111 a112:Option Addr} {s113:Array (Option Value)} {o114 k115 d116 p117 c118:Value}
  {c119:Value}
  {f120:Addr} {o121 a122:Option Addr} {s123:Array (Option Value)} {o124 k125 d126 p127 c128:Value}
  {c129:Value}
  {f130:Addr} {o131 a132:Option Addr} {s133:Array (Option Value)} {o134 k135 d136 p137 c138:Value}
  {c139:Value}
  {f140:Addr} {o141 a142:Option Addr} {s143:Array (Option Value)} {o144 k145 d146 p147 c148:Value}
  {c149:Addr}
  {f150:Addr} {o151 a152:Option Addr} {s153:Array (Option Value)} {o154 k155 d156 p157 c158:Value}
  {c159:Value}
  {f160:Addr} {o161 a162:Option Addr} {s163:Array (Option Value)} {o164 k165 d166 p167 c168:Value}
  {c169:Value}
  {f170:Addr} {o171 a172:Option Addr} {s173:Array (Option Value)} {o174 k175 d176 p177 c178:Value}
  {c179:Value}
  {f180:Addr} {o181 a182:Option Addr} {s183:Array (Option Value)} {o184 k185 d186 p187 c188:Value}
  {c189:Value}
  {f190:Addr} {o191 a192:Option Addr} {s193:Array (Option Value)} {o194 k195 d196 p197 c198:Value}
  {c199:Value}
  {f200:Addr} {o201 a202:Option Addr} {s203:Array (Option Value)} {o204 k205 d206 p207 c208:Value}
  {c209:Value}
  {f210:Addr} {o211 a212:Option Addr} {s213:Array (Option Value)} {o214 k215 d216 p217 c218:Value}
  {c219:Value}
  {f220:Addr} {o221 a222:Option Addr} {s223:Array (Option Value)} {o224 k225 d226 p227 c228:Value}
  {c229:Value}
  {f230:Addr} {o231 a232:Option Addr} {s233:Array (Option Value)} {o234 k235 d236 p237 c238:Value}
  {c239:Value}
  {f240:Addr} {o241 a242:Option Addr} {s243:Array (Option Value)} {o244 k245 d246 p247 c248:Value}
  {c249:Value}
  {f250:Addr} {o251 a252:Option Addr} {s253:Array (Option Value)} {o254 k255 d256 p257 c258:Value}
  {c259:Value}
  {f260:Addr} {o261 a262:Option Addr} {s263:Array (Option Value)} {o264 k265 d266 p267 c268:Value}
  {c269:Value}
  {f270:Addr} {o271 a272:Option Addr} {s273:Array (Option Value)} {o274 k275 d276 p277 c278:Value}
  {c279:Value}
  {f280:Addr} {o281 a282:Option Addr} {s283:Array (Option Value)} {o284 k285 d286 p287 c288:Value}
  {c289:Value}
  {f290:Addr} {o291 a292:Option Addr} {s293:Array (Option Value)} {o294 k295 d296 p297 c298:Value}
  {c299:Value}
  {CK CJ CN CS:Addr}
  (aC:PySem.W.nsIn K mainGlobals "Nodes"=some (some (.ref C)))
  (a300:PySem.W.findIn K (.ref C) "__init__"=some (some (.ref f0)))
  (i301:PySem.W.isFn K (.ref f0)=true)
  (l302:K.lookup f0=some ⟨o4,o1,.func (PySem.W.fnOf "__init__" "Nodes.__init__" (defArgs s_Nodes___init__) (defBody s_Nodes___init__) (defScope s_Nodes___init__) .none k5 d6 p7 a2 c9 c8),s3⟩)
  (e303:PySem.W.codeIn K c9 "Nodes.__init__"=true)
  (k304:PySem.W.keepIn K (.ref f0)=true)
  (a305:PySem.W.findIn K (.ref C) "new_node"=some (some (.ref f10)))
  (i306:PySem.W.isFn K (.ref f10)=true)
  (l307:K.lookup f10=some ⟨o14,o11,.func (PySem.W.fnOf "new_node" "Nodes.new_node" (defArgs s_Nodes_new_node) (defBody s_Nodes_new_node) (defScope s_Nodes_new_node) .none k15 d16 p17 a12 c19 c18),s13⟩)
  (e308:PySem.W.codeIn K c19 "Nodes.new_node"=true)
  (k309:PySem.W.keepIn K (.ref f10)=true)
  (a310:PySem.W.findIn K (.ref C) "new_gap"=some (some (.ref f20)))
  (i311:PySem.W.isFn K (.ref f20)=true)
  (l312:K.lookup f20=some ⟨o24,o21,.func (PySem.W.fnOf "new_gap" "Nodes.new_gap" (defArgs s_Nodes_new_gap) (defBody s_Nodes_new_gap) (defScope s_Nodes_new_gap) .none k25 d26 p27 a22 c29 c28),s23⟩)
  (e313:PySem.W.codeIn K c29 "Nodes.new_gap"=true)
  (k314:PySem.W.keepIn K (.ref f20)=true)
  (a315:PySem.W.findIn K (.ref C) "numbered_gap"=some (some (.ref f30)))
  (i316:PySem.W.isFn K (.ref f30)=true)
  (l317:K.lookup f30=some ⟨o34,o31,.func (PySem.W.fnOf "numbered_gap" "Nodes.numbered_gap" (defArgs s_Nodes_numbered_gap) (defBody s_Nodes_numbered_gap) (defScope s_Nodes_numbered_gap) .none k35 d36 p37 a32 c39 c38),s33⟩)
  (e318:PySem.W.codeIn K c39 "Nodes.numbered_gap"=true)
  (k319:PySem.W.keepIn K (.ref f30)=true)
  (a320:PySem.W.findIn K (.ref C) "leader"=some (some (.ref f40)))
  (i321:PySem.W.isFn K (.ref f40)=true)
  (l322:K.lookup f40=some ⟨o44,o41,.func (PySem.W.fnOf "leader" "Nodes.leader" (defArgs s_Nodes_leader) (defBody s_Nodes_leader) (defScope s_Nodes_leader) .none k45 d46 p47 a42 c49 c48),s43⟩)
  (e323:PySem.W.codeIn K c49 "Nodes.leader"=true)
  (k324:PySem.W.keepIn K (.ref f40)=true)
  (a325:PySem.W.findIn K (.ref C) "inner_leaders"=some (some (.ref f50)))
  (i326:PySem.W.isFn K (.ref f50)=true)
  (l327:K.lookup f50=some ⟨o54,o51,.func (PySem.W.fnOf "inner_leaders" "Nodes.inner_leaders" (defArgs s_Nodes_inner_leaders) (defBody s_Nodes_inner_leaders) (defScope s_Nodes_inner_leaders) .none k55 d56 p57 a52 c59 c58),s53⟩)
  (e328:PySem.W.codeIn K c59 "Nodes.inner_leaders"=true)
  (k329:PySem.W.keepIn K (.ref f50)=true)
  (a330:PySem.W.findIn K (.ref C) "sink"=some (some (.ref f60)))
  (i331:PySem.W.isFn K (.ref f60)=true)
  (l332:K.lookup f60=some ⟨o64,o61,.func (PySem.W.fnOf "sink" "Nodes.sink" (defArgs s_Nodes_sink) (defBody s_Nodes_sink) (defScope s_Nodes_sink) .none k65 d66 p67 a62 c69 c68),s63⟩)
  (e333:PySem.W.codeIn K c69 "Nodes.sink"=true)
  (k334:PySem.W.keepIn K (.ref f60)=true)
  (a335:PySem.W.findIn K (.ref C) "follow"=some (some (.ref f70)))
  (i336:PySem.W.isFn K (.ref f70)=true)
  (l337:K.lookup f70=some ⟨o74,o71,.func (PySem.W.fnOf "follow" "Nodes.follow" (defArgs s_Nodes_follow) (defBody s_Nodes_follow) (defScope s_Nodes_follow) .none k75 d76 p77 a72 c79 c78),s73⟩)
  (e338:PySem.W.codeIn K c79 "Nodes.follow"=true)
  (k339:PySem.W.keepIn K (.ref f70)=true)
  (a340:PySem.W.findIn K (.ref C) "make_same"=some (some (.ref f80)))
  (i341:PySem.W.isFn K (.ref f80)=true)
  (l342:K.lookup f80=some ⟨o84,o81,.func (PySem.W.fnOf "make_same" "Nodes.make_same" (defArgs s_Nodes_make_same) (defBody s_Nodes_make_same) (defScope s_Nodes_make_same) .none k85 d86 p87 a82 c89 c88),s83⟩)
  (e343:PySem.W.codeIn K c89 "Nodes.make_same"=true)
  (k344:PySem.W.keepIn K (.ref f80)=true)
  (a345:PySem.W.findIn K (.ref C) "kinds_under"=some (some (.ref f90)))
  (i346:PySem.W.isFn K (.ref f90)=true)
  (l347:K.lookup f90=some ⟨o94,o91,.func (PySem.W.fnOf "kinds_under" "Nodes.kinds_under" (defArgs s_Nodes_kinds_under) (defBody s_Nodes_kinds_under) (defScope s_Nodes_kinds_under) .none k95 d96 p97 a92 c99 c98),s93⟩)
  (e348:PySem.W.codeIn K c99 "Nodes.kinds_under"=true)
  (k349:PySem.W.keepIn K (.ref f90)=true)
  (pg:PySem.W.plainGet K C Str.empty=true)
  (hd:PySem.W.hasDictIn K C=true)
  (po:PySem.W.plainOver K C=true)
  (sa:PySem.W.findIn K (.ref C) "__setattr__"=some (some (.builtin "object.__setattr__")))
  (mkC:PySem.W.makesIn K C=true)
  (kcC:PySem.W.keepIn K (.ref C)=true)
  (nS:PySem.W.findIn K (.ref C) "sorts"=some none)
  (nI:PySem.W.findIn K (.ref C) "inner"=some none)
  (nL:PySem.W.findIn K (.ref C) "leaders"=some none)
  (nV:PySem.W.findIn K (.ref C) "levels"=some none)
  (nK:PySem.W.findIn K (.ref C) "level"=some none)
  (nGg:PySem.W.findIn K (.ref C) "gaps"=some none)
  (a350:PySem.W.nsIn K mainGlobals "is_gap"=some (some (.ref f100)))
  (l351:K.lookup f100=some ⟨o104,o101,.func (PySem.W.fnOf "is_gap" "is_gap" (defArgs sIsGap) (defBody sIsGap) (defScope sIsGap) .none k105 d106 p107 a102 c109 c108),s103⟩)
  (e352:PySem.W.codeIn K c109 "is_gap"=true)
  (k353:PySem.W.keepIn K (.ref f100)=true)
  (a354:PySem.W.nsIn K mainGlobals "parts_of"=some (some (.ref f110)))
  (l355:K.lookup f110=some ⟨o114,o111,.func (PySem.W.fnOf "parts_of" "parts_of" (defArgs sParts) (defBody sParts) (defScope sParts) .none k115 d116 p117 a112 c119 c118),s113⟩)
  (e356:PySem.W.codeIn K c119 "parts_of"=true)
  (k357:PySem.W.keepIn K (.ref f110)=true)
  (a358:PySem.W.nsIn K mainGlobals "all_within"=some (some (.ref f120)))
  (l359:K.lookup f120=some ⟨o124,o121,.func (PySem.W.fnOf "all_within" "all_within" (defArgs sAll) (defBody sAll) (defScope sAll) .none k125 d126 p127 a122 c129 c128),s123⟩)
  (e360:PySem.W.codeIn K c129 "all_within"=true)
  (k361:PySem.W.keepIn K (.ref f120)=true)
  (a362:PySem.W.nsIn K mainGlobals "built"=some (some (.ref f130)))
  (l363:K.lookup f130=some ⟨o134,o131,.func (PySem.W.fnOf "built" "built" (defArgs sBuilt) (defBody sBuilt) (defScope sBuilt) .none k135 d136 p137 a132 c139 c138),s133⟩)
  (e364:PySem.W.codeIn K c139 "built"=true)
  (k365:PySem.W.keepIn K (.ref f130)=true)
  (a366:PySem.W.nsIn K mainGlobals "node_of"=some (some (.ref f140)))
  (l367:K.lookup f140=some ⟨o144,o141,.func (PySem.W.fnOf "node_of" "node_of" (defArgs s_node_of) (defBody s_node_of) (defScope s_node_of) .none k145 d146 p147 a142 (.ref c149) c148),s143⟩)
  (e368:PySem.W.codeIn K (.ref c149) "node_of"=true)
  (k369:PySem.W.keepIn K (.ref f140)=true)
  (a370:PySem.W.nsIn K mainGlobals "joined"=some (some (.ref f150)))
  (l371:K.lookup f150=some ⟨o154,o151,.func (PySem.W.fnOf "joined" "joined" (defArgs sJoined) (defBody sJoined) (defScope sJoined) .none k155 d156 p157 a152 c159 c158),s153⟩)
  (e372:PySem.W.codeIn K c159 "joined"=true)
  (k373:PySem.W.keepIn K (.ref f150)=true)
  (a374:PySem.W.nsIn K mainGlobals "_law_cell"=some (some (.ref f160)))
  (l375:K.lookup f160=some ⟨o164,o161,.func (PySem.W.fnOf "_law_cell" "_law_cell" (defArgs sCell) (defBody sCell) (defScope sCell) .none k165 d166 p167 a162 c169 c168),s163⟩)
  (e376:PySem.W.codeIn K c169 "_law_cell"=true)
  (k377:PySem.W.keepIn K (.ref f160)=true)
  (a378:PySem.W.nsIn K mainGlobals "_law_mix"=some (some (.ref f170)))
  (l379:K.lookup f170=some ⟨o174,o171,.func (PySem.W.fnOf "_law_mix" "_law_mix" (defArgs sMix) (defBody sMix) (defScope sMix) .none k175 d176 p177 a172 c179 c178),s173⟩)
  (e380:PySem.W.codeIn K c179 "_law_mix"=true)
  (k381:PySem.W.keepIn K (.ref f170)=true)
  (a382:PySem.W.nsIn K mainGlobals "_law_whole"=some (some (.ref f180)))
  (l383:K.lookup f180=some ⟨o184,o181,.func (PySem.W.fnOf "_law_whole" "_law_whole" (defArgs sWhole) (defBody sWhole) (defScope sWhole) .none k185 d186 p187 a182 c189 c188),s183⟩)
  (e384:PySem.W.codeIn K c189 "_law_whole"=true)
  (k385:PySem.W.keepIn K (.ref f180)=true)
  (a386:PySem.W.nsIn K mainGlobals "_law_gap"=some (some (.ref f190)))
  (l387:K.lookup f190=some ⟨o194,o191,.func (PySem.W.fnOf "_law_gap" "_law_gap" (defArgs sGapL) (defBody sGapL) (defScope sGapL) .none k195 d196 p197 a192 c199 c198),s193⟩)
  (e388:PySem.W.codeIn K c199 "_law_gap"=true)
  (k389:PySem.W.keepIn K (.ref f190)=true)
  (a390:PySem.W.nsIn K mainGlobals "_law_kind"=some (some (.ref f200)))
  (l391:K.lookup f200=some ⟨o204,o201,.func (PySem.W.fnOf "_law_kind" "_law_kind" (defArgs sKind) (defBody sKind) (defScope sKind) .none k205 d206 p207 a202 c209 c208),s203⟩)
  (e392:PySem.W.codeIn K c209 "_law_kind"=true)
  (k393:PySem.W.keepIn K (.ref f200)=true)
  (a394:PySem.W.nsIn K mainGlobals "_law_filled"=some (some (.ref f210)))
  (l395:K.lookup f210=some ⟨o214,o211,.func (PySem.W.fnOf "_law_filled" "_law_filled" (defArgs sFillL) (defBody sFillL) (defScope sFillL) .none k215 d216 p217 a212 c219 c218),s213⟩)
  (e396:PySem.W.codeIn K c219 "_law_filled"=true)
  (k397:PySem.W.keepIn K (.ref f210)=true)
  (a398:PySem.W.nsIn K mainGlobals "_law_gaps"=some (some (.ref f220)))
  (l399:K.lookup f220=some ⟨o224,o221,.func (PySem.W.fnOf "_law_gaps" "_law_gaps" (defArgs sGaps) (defBody sGaps) (defScope sGaps) .none k225 d226 p227 a222 c229 c228),s223⟩)
  (e400:PySem.W.codeIn K c229 "_law_gaps"=true)
  (k401:PySem.W.keepIn K (.ref f220)=true)
  (a402:PySem.W.nsIn K mainGlobals "_law_pairs"=some (some (.ref f230)))
  (l403:K.lookup f230=some ⟨o234,o231,.func (PySem.W.fnOf "_law_pairs" "_law_pairs" (defArgs sPairs) (defBody sPairs) (defScope sPairs) .none k235 d236 p237 a232 c239 c238),s233⟩)
  (e404:PySem.W.codeIn K c239 "_law_pairs"=true)
  (k405:PySem.W.keepIn K (.ref f230)=true)
  (a406:PySem.W.nsIn K mainGlobals "_law_wider"=some (some (.ref f240)))
  (l407:K.lookup f240=some ⟨o244,o241,.func (PySem.W.fnOf "_law_wider" "_law_wider" (defArgs sWider) (defBody sWider) (defScope sWider) .none k245 d246 p247 a242 c249 c248),s243⟩)
  (e408:PySem.W.codeIn K c249 "_law_wider"=true)
  (k409:PySem.W.keepIn K (.ref f240)=true)
  (a410:PySem.W.nsIn K mainGlobals "_law_is_kind"=some (some (.ref f250)))
  (l411:K.lookup f250=some ⟨o254,o251,.func (PySem.W.fnOf "_law_is_kind" "_law_is_kind" (defArgs sIsKind) (defBody sIsKind) (defScope sIsKind) .none k255 d256 p257 a252 c259 c258),s253⟩)
  (e412:PySem.W.codeIn K c259 "_law_is_kind"=true)
  (k413:PySem.W.keepIn K (.ref f250)=true)
  (a414:PySem.W.nsIn K mainGlobals "_law_told"=some (some (.ref f260)))
  (l415:K.lookup f260=some ⟨o264,o261,.func (PySem.W.fnOf "_law_told" "_law_told" (defArgs sTold) (defBody sTold) (defScope sTold) .none k265 d266 p267 a262 c269 c268),s263⟩)
  (e416:PySem.W.codeIn K c269 "_law_told"=true)
  (k417:PySem.W.keepIn K (.ref f260)=true)
  (a418:PySem.W.nsIn K mainGlobals "_law_joins"=some (some (.ref f270)))
  (l419:K.lookup f270=some ⟨o274,o271,.func (PySem.W.fnOf "_law_joins" "_law_joins" (defArgs sJoins) (defBody sJoins) (defScope sJoins) .none k275 d276 p277 a272 c279 c278),s273⟩)
  (e420:PySem.W.codeIn K c279 "_law_joins"=true)
  (k421:PySem.W.keepIn K (.ref f270)=true)
  (a422:PySem.W.nsIn K mainGlobals "_law_solve"=some (some (.ref f280)))
  (l423:K.lookup f280=some ⟨o284,o281,.func (PySem.W.fnOf "_law_solve" "_law_solve" (defArgs sSolve) (defBody sSolve) (defScope sSolve) .none k285 d286 p287 a282 c289 c288),s283⟩)
  (e424:PySem.W.codeIn K c289 "_law_solve"=true)
  (k425:PySem.W.keepIn K (.ref f280)=true)
  (a426:PySem.W.nsIn K mainGlobals "law"=some (some (.ref f290)))
  (l427:K.lookup f290=some ⟨o294,o291,.func (PySem.W.fnOf "law" "law" (defArgs sLaw) (defBody sLaw) (defScope sLaw) .none k295 d296 p297 a292 c299 c298),s293⟩)
  (e428:PySem.W.codeIn K c299 "law"=true)
  (k429:PySem.W.keepIn K (.ref f290)=true)
  (z430:PySem.W.nsIn K mainGlobals "range"=some none)
  (z431:PySem.W.nsIn K mainGlobals "dict"=some none)
  (z432:PySem.W.nsIn K mainGlobals "list"=some none)
  (z433:PySem.W.nsIn K mainGlobals "reversed"=some none)
  (z434:PySem.W.nsIn K mainGlobals "tuple"=some none)
  (z435:PySem.W.nsIn K mainGlobals "len"=some none)
  (z436:PySem.W.nsIn K mainGlobals "isinstance"=some none)
  (z437:PySem.W.nsIn K mainGlobals "int"=some none)
  (z438:PySem.W.nsIn K mainGlobals "bool"=some none)
  (z439:PySem.W.nsIn K mainGlobals "str"=some none)
  (z440:PySem.W.nsIn K mainGlobals "all"=some none)
  (z441:PySem.W.nsIn K mainGlobals "any"=some none)
  (z442:PySem.W.nsIn K mainGlobals "zip"=some none)
  (z443:PySem.W.nsIn K mainGlobals "ValueError"=some none)
  (aK:PySem.W.nsIn K mainGlobals "KindError"=some (some (.ref CK)))
  (aJ:PySem.W.nsIn K mainGlobals "NoJoin"=some (some (.ref CJ)))
  (aN:PySem.W.nsIn K mainGlobals "NoKind"=some (some (.ref CN)))
  (aS:PySem.W.nsIn K mainGlobals "Stuck"=some (some (.ref CS)))
  (x444:PySem.W.excIn K CK [.type "ValueError",.type "Exception",.type "BaseException",.type "object"] "ValueError.__new__"=true)
  (x445:PySem.W.findIn K (.ref CK) "__class__"=some (some (.builtin "object.__class__")))
  (x446:PySem.W.findIn K (.ref CK) "__getattribute__"=some (some (.builtin "BaseException.__getattribute__")))
  (x447:PySem.W.findIn K (.ref CK) "__getattr__"=some none)
  (x448:PySem.W.excIn K CJ [.type "ValueError",.type "Exception",.type "BaseException",.type "object"] "ValueError.__new__"=true)
  (x449:PySem.W.findIn K (.ref CJ) "__class__"=some (some (.builtin "object.__class__")))
  (x450:PySem.W.findIn K (.ref CJ) "__getattribute__"=some (some (.builtin "BaseException.__getattribute__")))
  (x451:PySem.W.findIn K (.ref CJ) "__getattr__"=some none)
  (x452:(mroL K CJ).contains (.ref CK)=true)
  (x453:PySem.W.kitOne K (.ref CJ) (.ref CJ)=some true)
  (x454:PySem.W.kitOne K (.ref CJ) (.type "ValueError")=some true)
  (x455:PySem.W.kitAny K (.ref CJ) [.ref CN,.ref CS]=some false)
  (hK:PySem.W.noTabs K=true)
  (tbM:tabIn K ts c149=true) :
  ∃ (fd:FuncData) (tabs:List (Addr × Addr)),PySem.W.noTabs K=true/\PySem.W.TabsAt tabs h/\(∀ (s:Shared) (u:Value),BindsTo s fd ⟨[u],[]⟩ [("_law_script",u)]) /\
    ∀ base:Heap,K.In base->base.Ns mainGlobals mg->(∀ q∈tabs,NestB base mg q.1 q.2)->FnOk l.prog w K mg base CX0 18 fa fd ["_law_script"] (spTop K 63 (tabs.map (·.2))):=by
 have G:=T0.g
 have e0:=hfa.symm.trans (PySem.W.mg_of X G a426)
 cases e0
 have mgC:=PySem.W.mg_of X G aC
 have F456:=fun_mk (st:=s_Nodes___init__) l302 e303 k304
 have b457:=F456.binds (ps:=["self"]) fun _ _ _ _ _ _=>len1 (fun _=>rfl)
 have M458:Meth K C "__init__" f0:=⟨a300,i301,k304⟩
 have F459:=fun_mk (st:=s_Nodes_new_node) l307 e308 k309
 have b460:=F459.binds (ps:=["self","word","inner"]) fun _ _ _ _ _ _=>len3 (fun _ _ _=>rfl)
 have M461:Meth K C "new_node" f10:=⟨a305,i306,k309⟩
 have F462:=fun_mk (st:=s_Nodes_new_gap) l312 e313 k314
 have b463:=F462.binds (ps:=["self"]) fun _ _ _ _ _ _=>len1 (fun _=>rfl)
 have M464:Meth K C "new_gap" f20:=⟨a310,i311,k314⟩
 have F465:=fun_mk (st:=s_Nodes_numbered_gap) l317 e318 k319
 have b466:=F465.binds (ps:=["self","number"]) fun _ _ _ _ _ _=>len2 (fun _ _=>rfl)
 have M467:Meth K C "numbered_gap" f30:=⟨a315,i316,k319⟩
 have F468:=fun_mk (st:=s_Nodes_leader) l322 e323 k324
 have b469:=F468.binds (ps:=["self","node"]) fun _ _ _ _ _ _=>len2 (fun _ _=>rfl)
 have M470:Meth K C "leader" f40:=⟨a320,i321,k324⟩
 have F471:=fun_mk (st:=s_Nodes_inner_leaders) l327 e328 k329
 have b472:=F471.binds (ps:=["self","node"]) fun _ _ _ _ _ _=>len2 (fun _ _=>rfl)
 have M473:Meth K C "inner_leaders" f50:=⟨a325,i326,k329⟩
 have F474:=fun_mk (st:=s_Nodes_sink) l332 e333 k334
 have b475:=F474.binds (ps:=["self","node","level"]) fun _ _ _ _ _ _=>len3 (fun _ _ _=>rfl)
 have M476:Meth K C "sink" f60:=⟨a330,i331,k334⟩
 have F477:=fun_mk (st:=s_Nodes_follow) l337 e338 k339
 have b478:=F477.binds (ps:=["self","node","leader"]) fun _ _ _ _ _ _=>len3 (fun _ _ _=>rfl)
 have M479:Meth K C "follow" f70:=⟨a335,i336,k339⟩
 have F480:=fun_mk (st:=s_Nodes_make_same) l342 e343 k344
 have b481:=F480.binds (ps:=["self","one","other"]) fun _ _ _ _ _ _=>len3 (fun _ _ _=>rfl)
 have M482:Meth K C "make_same" f80:=⟨a340,i341,k344⟩
 have F483:=fun_mk (st:=s_Nodes_kinds_under) l347 e348 k349
 have b484:=F483.binds (ps:=["self","tops"]) fun _ _ _ _ _ _=>len2 (fun _ _=>rfl)
 have M485:Meth K C "kinds_under" f90:=⟨a345,i346,k349⟩
 have F486:=fun_mk (st:=sIsGap) l351 e352 k353
 have m487:=PySem.W.mg_of X G a350
 have b488:=F486.binds (ps:=["kind"]) fun _ _ _ _ _ _=>len1 (fun _=>rfl)
 have F489:=fun_mk (st:=sParts) l355 e356 k357
 have m490:=PySem.W.mg_of X G a354
 have b491:=F489.binds (ps:=["kind"]) fun _ _ _ _ _ _=>len1 (fun _=>rfl)
 have F492:=fun_mk (st:=sAll) l359 e360 k361
 have m493:=PySem.W.mg_of X G a358
 have b494:=F492.binds (ps:=["top","parts_of"]) fun _ _ _ _ _ _=>len2 (fun _ _=>rfl)
 have F495:=fun_mk (st:=sBuilt) l363 e364 k365
 have m496:=PySem.W.mg_of X G a362
 have b497:=F495.binds (ps:=["top","parts_of","make"]) fun _ _ _ _ _ _=>len3 (fun _ _ _=>rfl)
 have F498:=fun_mk (st:=s_node_of) l367 e368 k369
 have m499:=PySem.W.mg_of X G a366
 have b500:=F498.binds (ps:=["nodes","kind"]) fun _ _ _ _ _ _=>len2 (fun _ _=>rfl)
 have F501:=fun_mk (st:=sJoined) l371 e372 k373
 have m502:=PySem.W.mg_of X G a370
 have b503:=F501.binds (ps:=["one","other"]) fun _ _ _ _ _ _=>len2 (fun _ _=>rfl)
 have F504:=fun_mk (st:=sCell) l375 e376 k377
 have m505:=PySem.W.mg_of X G a374
 have b506:=F504.binds (ps:=["_law_script","_law_k"]) fun _ _ _ _ _ _=>len2 (fun _ _=>rfl)
 have F507:=fun_mk (st:=sMix) l379 e380 k381
 have m508:=PySem.W.mg_of X G a378
 have b509:=F507.binds (ps:=["_law_script","_law_k"]) fun _ _ _ _ _ _=>len2 (fun _ _=>rfl)
 have F510:=fun_mk (st:=sWhole) l383 e384 k385
 have m511:=PySem.W.mg_of X G a382
 have b512:=F510.binds (ps:=["_law_found"]) fun _ _ _ _ _ _=>len1 (fun _=>rfl)
 have F513:=fun_mk (st:=sGapL) l387 e388 k389
 have m514:=PySem.W.mg_of X G a386
 have b515:=F513.binds (ps:=["_law_number"]) fun _ _ _ _ _ _=>len1 (fun _=>rfl)
 have F516:=fun_mk (st:=sKind) l391 e392 k393
 have m517:=PySem.W.mg_of X G a390
 have b518:=F516.binds (ps:=["_law_script","_law_k","_law_deep"]) fun _ _ _ _ _ _=>len3 (fun _ _ _=>rfl)
 have F519:=fun_mk (st:=sFillL) l395 e396 k397
 have m520:=PySem.W.mg_of X G a394
 have b521:=F519.binds (ps:=["_law_kind_here","_law_told_here"]) fun _ _ _ _ _ _=>len2 (fun _ _=>rfl)
 have F522:=fun_mk (st:=sGaps) l399 e400 k401
 have m523:=PySem.W.mg_of X G a398
 have b524:=F522.binds (ps:=["_law_kind_here"]) fun _ _ _ _ _ _=>len1 (fun _=>rfl)
 have F525:=fun_mk (st:=sPairs) l403 e404 k405
 have m526:=PySem.W.mg_of X G a402
 have b527:=F525.binds (ps:=["_law_wide","_law_kind_here"]) fun _ _ _ _ _ _=>len2 (fun _ _=>rfl)
 have F528:=fun_mk (st:=sWider) l407 e408 k409
 have m529:=PySem.W.mg_of X G a406
 have b530:=F528.binds (ps:=["_law_wide","_law_kind_here"]) fun _ _ _ _ _ _=>len2 (fun _ _=>rfl)
 have F531:=fun_mk (st:=sIsKind) l411 e412 k413
 have m532:=PySem.W.mg_of X G a410
 have b533:=F531.binds (ps:=["_law_found"]) fun _ _ _ _ _ _=>len1 (fun _=>rfl)
 have F534:=fun_mk (st:=sTold) l415 e416 k417
 have m535:=PySem.W.mg_of X G a414
 have b536:=F534.binds (ps:=["_law_one","_law_other"]) fun _ _ _ _ _ _=>len2 (fun _ _=>rfl)
 have F537:=fun_mk (st:=sJoins) l419 e420 k421
 have m538:=PySem.W.mg_of X G a418
 have b539:=F537.binds (ps:=["_law_found","_law_one","_law_other"]) fun _ _ _ _ _ _=>len3 (fun _ _ _=>rfl)
 have F540:=fun_mk (st:=sSolve) l423 e424 k425
 have m541:=PySem.W.mg_of X G a422
 have b542:=F540.binds (ps:=["_law_pairs_here"]) fun _ _ _ _ _ _=>len1 (fun _=>rfl)
 have F543:=fun_mk (st:=sLaw) l427 e428 k429
 have m544:=PySem.W.mg_of X G a426
 have n545:=PySem.W.mg_none_of X G z430
 have n546:=PySem.W.mg_none_of X G z431
 have n547:=PySem.W.mg_none_of X G z432
 have n548:=PySem.W.mg_none_of X G z433
 have n549:=PySem.W.mg_none_of X G z434
 have n550:=PySem.W.mg_none_of X G z435
 have n551:=PySem.W.mg_none_of X G z436
 have n552:=PySem.W.mg_none_of X G z437
 have n553:=PySem.W.mg_none_of X G z438
 have n554:=PySem.W.mg_none_of X G z439
 have n555:=PySem.W.mg_none_of X G z440
 have n556:=PySem.W.mg_none_of X G z441
 have n557:=PySem.W.mg_none_of X G z442
 have n558:=PySem.W.mg_none_of X G z443
 obtain ⟨PT,hdT,htT⟩:=tabIn_at X hts tbM
 refine ⟨_,[(c149,PT)],hK,?_,fun s v=>(.of_eq rfl:BindsTo s (PySem.W.fnOf "law" "law" (defArgs sLaw) (defBody sLaw) (defScope sLaw) .none k295 d296 p297 a292 c299 c298) ⟨[v],[]⟩ [("_law_script",v)]),fun base KB GB hN=>?_⟩
 ·intro q hq
  simp only [List.mem_cons,List.not_mem_nil,or_false] at hq
  subst hq
  exact ⟨hdT,htT⟩
 ·have NB:NestB base mg c149 PT:=hN (c149,PT) (.head _)
  have TX:NTxt K mg C:=⟨⟨pg,hd,po,sa⟩,nS,nI,nL,nV,nK,nGg,mgC,n550⟩
  have mK:=PySem.W.mg_of X G aK
  have mJ:=PySem.W.mg_of X G aJ
  have EZ:ErrK K mg CK CJ CN CS _ _ _ _:=⟨mK,mJ,PySem.W.mg_of X G aN,PySem.W.mg_of X G aS,n558,n551,⟨x444,rfl,rfl,x445,x446,x447⟩,⟨x448,rfl,rfl,x449,x450,x451⟩,x452,x453,x454,x455⟩
  have G1:FnOk l.prog w K mg base CX0 1 f100 _ ["kind"] spIsGap:=ok_isGap F486
  have G2:FnOk l.prog w K mg base CX0 2 f110 _ ["kind"] spParts:=ok_parts F489 F486 b488 m487
  have G3:FnOk l.prog w K mg base CX0 5 f120 _ ["top","parts_of"] (spAll l.prog w K mg base):=ok_all F492 n547 n548
  have G4:FnOk l.prog w K mg base CX0 6 f130 _ ["top","parts_of","make"] (spBuilt l.prog w K mg base):=ok_built F495 G3 k361 b494 m493 n548
  have GI0:FnOk l.prog w K mg base CX0 1 f0 _ ["self"] (spInitN C):=ok_initN F456 TX
  have GN0:FnOk l.prog w K mg base CX0 1 f10 _ ["self","word","inner"] (spNew C):=ok_new F459 TX
  have GNg:FnOk l.prog w K mg base CX0 2 f20 _ ["self"] (spNewG C):=ok_newG F462 TX GN0 b460 M461
  have GGN:FnOk l.prog w K mg base CX0 3 f30 _ ["self","number"] (spGapN C):=ok_gapN F465 TX GNg b463 M464
  have GLd:FnOk l.prog w K mg base CX0 1 f40 _ ["self","node"] (spLeader C):=ok_leader F468 TX
  have GIn:FnOk l.prog w K mg base CX0 2 f50 _ ["self","node"] (spInner C):=ok_inner F471 TX GLd b469 M470
  have GSi:FnOk l.prog w K mg base CX0 2 f60 _ ["self","node","level"] (spSink C):=ok_sink F474 TX GLd b469 M470
  have GFo:FnOk l.prog w K mg base CX0 3 f70 _ ["self","node","leader"] (spFollow C):=ok_follow F477 TX GSi b475 M476
  have GNO:FnOk l.prog w K mg base CX0 7 f140 _ ["nodes","kind"] (spNodeOf C PT):=ok_nodeOf TX l367 e368 NB G1 k353 b488 m487 GN0 b460 M461 GGN b466 M467 G2 k357 b491 m490 G4 k365 b497 m496
  have GSm:FnOk l.prog w K mg base (CX1 l.prog w) 4 f80 _ ["self","one","other"] (spSame C CJ):=ok_same F480 TX mJ x448 PySem.F.excBase_ValueError n547 n557 GLd b469 M470 GFo b478 M479
  have GUn:FnOk l.prog w K mg base (CX1 l.prog w) 3 f90 _ ["self","tops"] (spUnder C CJ):=ok_under F483 TX mJ x448 PySem.F.excBase_ValueError n549 GLd b469 M470 GIn b472 M473
  have GJn:FnOk l.prog w K mg base (CX1 l.prog w) 8 f150 _ ["one","other"] (spJoined PT (TabN PT) CJ):=ok_joined F501 TX ⟨mkC,a300,i301,kcC⟩ GI0 b457 GNO k369 b500 m499 GSm b481 M482 GUn b484 M485 GLd b469 M470
  have TbS:∀ H H',Same H H'->TabN PT H->TabN PT H':=fun H H' s=>TabN.same fun b o e _ _=>s b o e
  have GC:FnOk l.prog w K mg base CX0 1 f160 _ ["_law_script","_law_k"] (spCell K):=ok_cell F504 n550
  have GM:FnOk l.prog w K mg base CX0 2 f170 _ ["_law_script","_law_k"] (spMix K):=ok_mix F507 GC k377 b506 m505
  have GW:FnOk l.prog w K mg base CX0 1 f180 _ ["_law_found"] spWhole:=ok_whole F510 n551 n552 n553
  have GG:FnOk l.prog w K mg base CX0 1 f190 _ ["_law_number"] spGapL:=ok_gapL F513
  have GK:=fun n=>ok_kind (Pr:=l.prog) (w:=w) (base:=base) F516 b518 m517 GM k381 b509 m508 GG k389 b515 m514 n
  have GF:=fun n=>ok_fillL (Pr:=l.prog) (w:=w) (base:=base) F519 b521 m520 n549 n
  have GA:=fun n=>ok_gaps (Pr:=l.prog) (w:=w) (base:=base) F522 b524 m523 n
  have GP:=fun n=>ok_pairs (Pr:=l.prog) (w:=w) (base:=base) F525 b527 m526 n545 n550 n
  have GWd:=fun n=>ok_wider (Pr:=l.prog) (w:=w) (base:=base) F528 n546 n555 (GP n) k405 b527 m526
  have GIs:=fun n=>ok_isKind (Pr:=l.prog) (w:=w) (base:=base) F531 b533 m532 n551 n549 n554 n550 n555 GW k385 b512 m511 n
  have GT:FnOk l.prog w K mg base CX0 9 f260 _ ["_law_one","_law_other"] (spTold PT (TabN PT)):=ok_told TbS F534 EZ GJn k373 b503 m502
  have GJs:=fun n=>ok_joins (Pr:=l.prog) (w:=w) (base:=base) F537 n551 n546 n555 n556 GW k385 b512 m511 (GIs n) k413 b533 m532 (GA n) k401 b524 m523 (GF n) k397 b521 m520
  have GS:FnOk l.prog w K mg base CX0 17 f280 _ ["_law_pairs_here"] spSolve:=ok_solve F540 n547 n557 (GA 14) k401 b524 m523 (GF 14) k397 b521 m520
  exact ok_law TbS (fun H h=>.inl h) (fun H h=>h.tab) F543 n546 n551 GM k381 b509 m508 GK k393 b518 m517 GF k397 b521 m520 GS k425 b542 m541 GT k417 b536 m535 GJs k421 b539 m538 GWd k409 b530 m529
end K
def PySem.W.Fast.tw11887210353039771347:Nat:=0
def PySem.W.Fast.tw12164330082734953630:Nat:=0
def PySem.W.Fast.tw1317339705333609081:Nat:=0
def PySem.W.Fast.tw13768392429316828417:Nat:=0
def PySem.W.Fast.tw13785489436090768838:Nat:=0
def PySem.W.Fast.tw14795652348181016056:Nat:=0
def PySem.W.Fast.tw164551417420645812:Nat:=0
def PySem.W.Fast.tw17092551336194304651:Nat:=0
def PySem.W.Fast.tw17790408461248240851:Nat:=0
def PySem.W.Fast.tw271295661390880559:Nat:=0
def PySem.W.Fast.tw3508334309356243787:Nat:=0
def PySem.W.Fast.tw4139515889202291886:Nat:=0
def PySem.W.Fast.tw5432092603594534359:Nat:=0
def PySem.W.Fast.tw607365548817044192:Nat:=0
def PySem.W.Fast.tw7024577918629480949:Nat:=0
def PySem.W.Fast.tw7361790771820759898:Nat:=0
def PySem.W.Fast.tw7684395612830231124:Nat:=0
def PySem.W.Fast.tw8506511026475572115:Nat:=0
def PySem.W.Fast.tw8684155089880263184:Nat:=0
open PySem PySem.W PyProof.Rows
set_option maxRecDepth 100000 in
set_option maxHeartbeats 0 in
theorem PySem.Challenge.cw_kindspan_k11_no_join_holds : PySem.Challenge.rw_kindspan_k11_no_join.Holds := by
 w_on;o_law;k_head;(case hw=>w_witness2)
 k_fill
 refine L2.walk_ofT2 (l:=PySem.Challenge.rw_kindspan_k11_no_join) (n:=63) (k:=18) (x:="_law_script") rfl (by decide) rfl ⟨rfl,by decide,by decide⟩ (fun w h Y=>⟨PySem.W.km_in_of Y,PySem.W.km_tabs_of Y⟩) ?F
 case F =>
  intro w mg mb mean fa h KX hts T hmg
  refine' K.all_mk KX hts T hmg ?aC ?a300 ?i301 ?l302 ?e303 ?k304 ?a305 ?i306 ?l307 ?e308 ?k309 ?a310 ?i311 ?l312 ?e313 ?k314 ?a315 ?i316 ?l317 ?e318 ?k319 ?a320 ?i321 ?l322 ?e323 ?k324 ?a325 ?i326 ?l327 ?e328 ?k329 ?a330 ?i331 ?l332 ?e333 ?k334 ?a335 ?i336 ?l337 ?e338 ?k339 ?a340 ?i341 ?l342 ?e343 ?k344 ?a345 ?i346 ?l347 ?e348 ?k349 ?pg ?hd ?po ?sa ?mkC ?kcC ?nS ?nI ?nL ?nV ?nK ?nGg ?a350 ?l351 ?e352 ?k353 ?a354 ?l355 ?e356 ?k357 ?a358 ?l359 ?e360 ?k361 ?a362 ?l363 ?e364 ?k365 ?a366 ?l367 ?e368 ?k369 ?a370 ?l371 ?e372 ?k373 ?a374 ?l375 ?e376 ?k377 ?a378 ?l379 ?e380 ?k381 ?a382 ?l383 ?e384 ?k385 ?a386 ?l387 ?e388 ?k389 ?a390 ?l391 ?e392 ?k393 ?a394 ?l395 ?e396 ?k397 ?a398 ?l399 ?e400 ?k401 ?a402 ?l403 ?e404 ?k405 ?a406 ?l407 ?e408 ?k409 ?a410 ?l411 ?e412 ?k413 ?a414 ?l415 ?e416 ?k417 ?a418 ?l419 ?e420 ?k421 ?a422 ?l423 ?e424 ?k425 ?a426 ?l427 ?e428 ?k429 ?z430 ?z431 ?z432 ?z433 ?z434 ?z435 ?z436 ?z437 ?z438 ?z439 ?z440 ?z441 ?z442 ?z443 ?aK ?aJ ?aN ?aS ?x444 ?x445 ?x446 ?x447 ?x448 ?x449 ?x450 ?x451 ?x452 ?x453 ?x454 ?x455 ?hK ?tbM
  (case aC=>k_is)
  (case a300=>k_is)
  (case i301=>k_is)
  (case l302=>k_is)
  (case e303=>k_is)
  (case k304=>k_is)
  (case a305=>k_is)
  (case i306=>k_is)
  (case l307=>k_is)
  (case e308=>k_is)
  (case k309=>k_is)
  (case a310=>k_is)
  (case i311=>k_is)
  (case l312=>k_is)
  (case e313=>k_is)
  (case k314=>k_is)
  (case a315=>k_is)
  (case i316=>k_is)
  (case l317=>k_is)
  (case e318=>k_is)
  (case k319=>k_is)
  (case a320=>k_is)
  (case i321=>k_is)
  (case l322=>k_is)
  (case e323=>k_is)
  (case k324=>k_is)
  (case a325=>k_is)
  (case i326=>k_is)
  (case l327=>k_is)
  (case e328=>k_is)
  (case k329=>k_is)
  (case a330=>k_is)
  (case i331=>k_is)
  (case l332=>k_is)
  (case e333=>k_is)
  (case k334=>k_is)
  (case a335=>k_is)
  (case i336=>k_is)
  (case l337=>k_is)
  (case e338=>k_is)
  (case k339=>k_is)
  (case a340=>k_is)
  (case i341=>k_is)
  (case l342=>k_is)
  (case e343=>k_is)
  (case k344=>k_is)
  (case a345=>k_is)
  (case i346=>k_is)
  (case l347=>k_is)
  (case e348=>k_is)
  (case k349=>k_is)
  (case pg=>k_is)
  (case hd=>k_is)
  (case po=>k_is)
  (case sa=>k_is)
  (case mkC=>k_is)
  (case kcC=>k_is)
  (case nS=>k_is)
  (case nI=>k_is)
  (case nL=>k_is)
  (case nV=>k_is)
  (case nK=>k_is)
  (case nGg=>k_is)
  (case a350=>k_is)
  (case l351=>k_is)
  (case e352=>k_is)
  (case k353=>k_is)
  (case a354=>k_is)
  (case l355=>k_is)
  (case e356=>k_is)
  (case k357=>k_is)
  (case a358=>k_is)
  (case l359=>k_is)
  (case e360=>k_is)
  (case k361=>k_is)
  (case a362=>k_is)
  (case l363=>k_is)
  (case e364=>k_is)
  (case k365=>k_is)
  (case a366=>k_is)
  (case l367=>k_is)
  (case e368=>k_is)
  (case k369=>k_is)
  (case a370=>k_is)
  (case l371=>k_is)
  (case e372=>k_is)
  (case k373=>k_is)
  (case a374=>k_is)
  (case l375=>k_is)
  (case e376=>k_is)
  (case k377=>k_is)
  (case a378=>k_is)
  (case l379=>k_is)
  (case e380=>k_is)
  (case k381=>k_is)
  (case a382=>k_is)
  (case l383=>k_is)
  (case e384=>k_is)
  (case k385=>k_is)
  (case a386=>k_is)
  (case l387=>k_is)
  (case e388=>k_is)
  (case k389=>k_is)
  (case a390=>k_is)
  (case l391=>k_is)
  (case e392=>k_is)
  (case k393=>k_is)
  (case a394=>k_is)
  (case l395=>k_is)
  (case e396=>k_is)
  (case k397=>k_is)
  (case a398=>k_is)
  (case l399=>k_is)
  (case e400=>k_is)
  (case k401=>k_is)
  (case a402=>k_is)
  (case l403=>k_is)
  (case e404=>k_is)
  (case k405=>k_is)
  (case a406=>k_is)
  (case l407=>k_is)
  (case e408=>k_is)
  (case k409=>k_is)
  (case a410=>k_is)
  (case l411=>k_is)
  (case e412=>k_is)
  (case k413=>k_is)
  (case a414=>k_is)
  (case l415=>k_is)
  (case e416=>k_is)
  (case k417=>k_is)
  (case a418=>k_is)
  (case l419=>k_is)
  (case e420=>k_is)
  (case k421=>k_is)
  (case a422=>k_is)
  (case l423=>k_is)
  (case e424=>k_is)
  (case k425=>k_is)
  (case a426=>k_is)
  (case l427=>k_is)
  (case e428=>k_is)
  (case k429=>k_is)
  (case z430=>k_is)
  (case z431=>k_is)
  (case z432=>k_is)
  (case z433=>k_is)
  (case z434=>k_is)
  (case z435=>k_is)
  (case z436=>k_is)
  (case z437=>k_is)
  (case z438=>k_is)
  (case z439=>k_is)
  (case z440=>k_is)
  (case z441=>k_is)
  (case z442=>k_is)
  (case z443=>k_is)
  (case aK=>k_is)
  (case aJ=>k_is)
  (case aN=>k_is)
  (case aS=>k_is)
  (case x444=>first | k_is | kernel_rfl)
  (case x445=>first | k_is | kernel_rfl)
  (case x446=>first | k_is | kernel_rfl)
  (case x447=>first | k_is | kernel_rfl)
  (case x448=>first | k_is | kernel_rfl)
  (case x449=>first | k_is | kernel_rfl)
  (case x450=>first | k_is | kernel_rfl)
  (case x451=>first | k_is | kernel_rfl)
  (case x452=>first | k_is | kernel_rfl)
  (case x453=>first | k_is | kernel_rfl)
  (case x454=>first | k_is | kernel_rfl)
  (case x455=>first | k_is | kernel_rfl)
  (case hK=>kernel_rfl)
  (case tbM=>kernel_rfl)

import PyProof.Rows.All
import Wide.All
import OpenK.AllK
import Wide.FinOn
import Lean
import PyProof.EqAt
import PyProof.EqKinds
import PyProof.TupleCall
import PyProof.ListNew
import PyProof.WalksMore
import PyProof.ListRange
import PyProof.RaisesMany
import PyProof.RulesTry
import PyProof.PassesOwn
import OpenK.KOwn
import PyProof.RulesAs
import PyProof.RulesDel
import PyProof.ExcArgsOwn
import PyProof.IsiBase
import KE.KIsAll
import KE.KDictOf
import PyProof.AttrMiss
import KE.KDictLaws
import PyProof.DictWalks
import PyProof.ZipIter
import PyProof.TupleIter
import KE.KPairComp
import PyProof.MinMaxWalk
import KE.KNestM
import PySem.Challenge.RW_kindspan_k20_whole_widest
open Bool renaming false_ne_true->lc,eq_iff_iff->Do,and_eq_true->Ev,false_eq_true->Tl
open Classical renaming byContradiction->OA
open Int renaming emod_lt_of_pos->xL,emod_nonneg->BC,toNat_natCast->Q2
open List renaming mem_singleton->al,getElem?_eq_getElem->ap,length_map->ba,mem_append->bn,length_append->ca,mem_of_getElem?->ci,getElem?_eq_some_iff->cr,mem_append_left->ee,size_toArray->f8,mem_cons->gz,mem_append_right->ir,getElem?_map->jp,mem_map->ln,mem_iff_getElem->na,length_take->pc,length_cons->sB,take_length->sK,length_eq_zero_iff->ul,map_congr_left->vc,take_add_one->wP,map_append->wT,map_cons->xz,not_mem_nil->AD,length_filter_le->AM,mem_filter->AT,mem_cons_of_mem->Da,mem_cons_self->Db,mem_range->FB,getElem?_append_right->Gc,getElem?_append_left->GE,append_nil->G2,nodup_cons->Ix,mem_map_of_mem->Of,length_reverse->Op,length_singleton->OC,getElem?_eq_none->OE,all_eq_true->OP,filter_append->OT,dropLast_concat->Q1,find?_cons->Re,nodup_nil->SC,eq_nil_or_concat->Tu,concat_eq_append->TD
open Nat renaming le_refl->am,le_trans->ce,ne_of_lt->dL,lt_of_lt_of_le->kt,zero_le->mi,le_of_ble_eq_true->no,pow_le_pow_right->wE,le_succ->IR,not_lt_zero->Os,lt_succ_of_lt->Q3,lt_irrefl->Sa
open Ne renaming symm->be
open Option.some renaming inj->ss
open PyProof.Rows renaming callWith_type1->u8,boot_isinstance->IN,boot_tuple->Q4
open PySem renaming wpAny_bind->aa,wpAny_pure->bv,wpAny_field->At,wpAny_seqItems->Ch,wpAny_callSpecial?_slot->Fk,wpAny_Call_Name_kw->FS,wpAny_holding->Go,wpAny_updateSeq->IM,plainId_quiet->KF,wpAny_truthy_bool->Mo,wpAny_newObj_type->NE,builtinLookup_eq_fast->OF,wpAny_mono->OH,boot_len->PP,sizeLine_eq->Sc,wpAny_call_entry->Su,wpAny_setField_rec->SZ,wpAny_passesOwn->TW
open PySem.Around renaming under_plainId->PM
open PySem.Calls renaming spliced_cons->OK
open PySem.F renaming plainAttrs_list->im,slot_list_append->v6,type_list_append->wf,slot_list_pop->EQ,type_list_pop->Fa,slot_list_extend->GM,type_list_extend->GT,plain_extend_loop->On,slot_zip_next->Rs,slot_tuple_iterator_next->SL
open PySem.Heap renaming get?_push_of_some->ac,lt_size->ii,get?_push_size->io,get?_update_other->pi,get?_update_self->wS,size_push->No,get?_none_of_le->Ps
open PySem.Paired renaming length->AC
open PySem.PassesOwn renaming never->v0
set_option Elab.async false
set_option linter.all false
set_option maxRecDepth 100000
set_option maxHeartbeats 16000000
set_option compiler.extract_closed false
noncomputable section
set_option hygiene false
local macro_rules | `(tactic| exfalso)=>`(tactic| first | exact .inl rfl | exact .inr rfl | exact .inr (.inl rfl) | exact .inr (.inr rfl) | exact L2.Rx _ ⟨⟩ ⟨⟩ | exact L2.DZ | exact L2.Dk | exact L2.Dj | exact D' | exact L2.E1 | exact L2.E2 | exact L2.FJ | rfl | assumption)
set_option hygiene true
open Lean Parser.Tactic in
local macro_rules | `(fun $[$xs:term]* => $b)=>do
 let k:=fun (s:Syntax)=>s.isOfKind ``Lean.Parser.Term.anonymousCtor
 if !xs.any (k ·.raw) || (b.raw.find? (·.isOfKind ``Lean.Parser.Term.syntheticHole)).isSome then Macro.throwUnsupported
 let mut r:=b
 for x in xs.reverse do
  if k x.raw then
   let p<- x.raw.rewriteBottomUpM (m:=MacroM) fun
    | `(⟨$ys,*⟩)=>do
     let zs<- ys.getElems.mapM fun y=>`(rcasesPatLo| $(⟨y.raw⟩):rcasesPat)
     return (<- `(rcasesPat| ⟨$zs,*⟩)).raw
    | `($x:ident)=>return (<- `(rcasesPat| $x:ident)).raw
    | `(_)=>return (<- `(rcasesPat| _)).raw
    | s=>return s
   r<- `(by rintro $(⟨p⟩):rcasesPat; exact $r)
  else r<- `(fun $x=>$r)
 return r
local macro_rules | `(term| nofun)=>`(term| ⟨rfl,rfl,rfl,by decide +kernel,rfl,by decide +kernel,by decide +kernel⟩)
local macro_rules | `(term| ())=>`(term| (by omega))
local macro_rules | `(term| ⟨⟩)=>`(term| (by decide))
theorem D0 {α:Sort _}{β:α->Sort _}{γ:∀ a,β a->Sort _}{x:∀ a b,γ a b}:∀ a b,x a b=x a b:=λ_ _=>rfl
abbrev J1:List PySem.Str:=["_law_script","_law_k","_law_goal","_law_names","_law_deep"]
abbrev KL:List PySem.Str:=["_law_script","_law_k"]
namespace L2
open PySem PySem.Spec PyProof.Rows
abbrev Key:=Sum Int Str
noncomputable def Hs:Key->Value->Bool
 | .inl k,v=>Value.isInt k v
 | .inr x,v=>Value.isStrOf x v
noncomputable def rQ (w:World):Key->Int
 | .inl k=>hashInt k
 | .inr x=>hashStr w x
theorem Bq:∀ {k:Key} {v:Value},Hs k v=true->(∃ i t,k=Sum.inl i/\v=Value.int i t)\/(∃ x t,k=Sum.inr x/\v=Value.str x t)
 | .inl i,v,h=>by
  obtain ⟨t,e⟩:=Value.isInt_shape (k:=i) (v:=v) h;exact .inl ⟨i,t,rfl,e⟩
 | .inr x,v,h=>by
  obtain ⟨t,e⟩:=Value.isStrOf_shape (x:=x) (v:=v) h;exact .inr ⟨x,t,rfl,e⟩
theorem PJ (i:Int)(t:Tok):Hs (.inl i) (.int i t)=true:=by simp [Hs,Value.isInt]
theorem PK (x:Str)(t:Tok):Hs (.inr x) (.str x t)=true:=by simp [Hs,Value.isStrOf]
theorem YX (a b:Int):decide ((Sum.inl a:Key)=Sum.inl b)=(a==b):=by
 by_cases e:a=b
 ·subst e;simp
 ·have h:¬ (Sum.inl a:Key)=Sum.inl b:=λq=>e (Sum.inl.inj q);rw [decide_eq_false h];exact (beq_eq_false_iff_ne.mpr e).symm
theorem MD (a b:Str):decide ((Sum.inr a:Key)=Sum.inr b)=decide (a=b):=by
 by_cases e:a=b
 ·subst e;simp
 ·have h:¬ (Sum.inr a:Key)=Sum.inr b:=λq=>e (Sum.inr.inj q);rw [decide_eq_false h,decide_eq_false e]
theorem YY (a:Int)(b:Str):decide ((Sum.inl a:Key)=Sum.inr b)=false:=decide_eq_false (λq=>nomatch q)
theorem YZ (a:Str)(b:Int):decide ((Sum.inr a:Key)=Sum.inl b)=false:=decide_eq_false (λq=>nomatch q)
noncomputable def B1 (prog:Program)(w:World):PySem.KeyKind prog w Key where
 is:=Hs
 hash:=rQ w
 inj:=λv a b ha hb=>by
  rcases Bq ha with ⟨i,t,rfl,rfl⟩ | ⟨x,t,rfl,rfl⟩
  ·rcases Bq hb with ⟨j,u,rfl,e⟩ | ⟨y,u,rfl,e⟩
   ·injection e with e1 _;rw [e1]
   ·exact nomatch e
  ·rcases Bq hb with ⟨j,u,rfl,e⟩ | ⟨y,u,rfl,e⟩
   ·exact nomatch e
   ·injection e with e1 _;rw [e1]
 byValue:=λk v h=>by
  rcases Bq h with ⟨i,t,rfl,rfl⟩ | ⟨x,t,rfl,rfl⟩ <;> rfl
 pyHash:=λhv h=>by
  rcases Bq hv with ⟨i,t,rfl,rfl⟩ | ⟨x,t,rfl,rfl⟩
  ·exact wpAny_pyHash_int h
  ·exact wpAny_pyHash_str h
 eqBool:=λhu hv h=>by
  rcases Bq hu with ⟨i,t,rfl,rfl⟩ | ⟨x,t,rfl,rfl⟩
  ·rcases Bq hv with ⟨j,u,rfl,rfl⟩ | ⟨y,u,rfl,rfl⟩
   ·rw [YX] at h;exact wpAny_eqBool_int h
   ·rw [YY] at h;exact SeqAt.EqAt.int_str i t y u _ _ _ _ h
  ·rcases Bq hv with ⟨j,u,rfl,rfl⟩ | ⟨y,u,rfl,rfl⟩
   ·rw [YZ] at h;exact SeqAt.EqAt.str_int x t j u _ _ _ _ h
   ·rw [MD] at h;exact wpAny_eqBool_str h
 «strs»:=λk x t v h=>by
  rcases Bq h with ⟨i,u,rfl,e⟩ | ⟨y,u,rfl,e⟩
  ·exact nomatch e
  ·injection e with e1 _;subst e1;cases v <;> rfl
theorem KU (prog:Program)(w:World)(i:Int)(t:Tok):(B1 prog w).is (.inl i) (.int i t)=true:=PJ i t
theorem Eo (prog:Program)(w:World)(x:Str)(t:Tok):(B1 prog w).is (.inr x) (.str x t)=true:=PK x t
inductive V where
 | non | bl (b:Bool) | int (i:Int) | str (x:Str) | byt (b:Array UInt8) | flt (b:UInt64) | ref (a:Addr) | ty (n:String)
 deriving DecidableEq
noncomputable def RelV:V->Value->Prop
 | .non,u=>u=Value.none
 | .bl b,u=>u=Value.bool b
 | .int i,u=>∃ t,u=Value.int i t
 | .str x,u=>∃ t,u=Value.str x t
 | .byt b,u=>∃ t,u=Value.bytes b t
 | .flt b,u=>∃ t,u=Value.float b t
 | .ref a,u=>u=Value.ref a
 | .ty n,u=>u=Value.type n
abbrev Vals:List V->List Value->Prop:=Paired RelV
theorem Vals.length (r:Vals xs us):xs.length=us.length:=AC r
theorem Vals.get:∀ {xs:List V} {us:List Value} {i:Nat} {x:V},Vals xs us->xs[i]?=some x->∃ u,us[i]?=some u/\RelV x u
 | _,_,_,_,.nil,e=>by simp at e
 | _,_,0,_,.cons r _,e=>by simp at e;subst e;exact ⟨_,rfl,r⟩
 | _,_,i+1,x,.cons _ t,e=>by
  obtain ⟨u,h1,h2⟩:=Vals.get (i:=i) (x:=x) t (by simpa using e);exact ⟨u,by simpa using h1,h2⟩
theorem Vals.set {x:V}{u:Value}(r:RelV x u):∀ {xs:List V} {us:List Value} (i:Nat),Vals xs us->Vals (xs.set i x) (us.set i u)
 | _,_,_,.nil=>.nil
 | _,_,0,.cons _ t=>.cons r t
 | _,_,i+1,.cons q t=>.cons q (Vals.set r i t)
theorem Vals.append:∀ {xs ys:List V} {us ws:List Value},Vals xs us->Vals ys ws->Vals (xs++ys) (us++ws):=by
 intro xs ys us ws h s
 induction h with
 | nil=>exact s
 | cons r _ ih=>exact .cons r ih
theorem Vals.take:∀ {xs:List V} {us:List Value} (n:Nat),Vals xs us->Vals (xs.take n) (us.take n)
 | _,_,0,_=>.nil
 | _,_,_+1,.nil=>.nil
 | _,_,n+1,.cons r t=>.cons r (Vals.take n t)
theorem Vals.drop:∀ {xs:List V} {us:List Value} (n:Nat),Vals xs us->Vals (xs.drop n) (us.drop n)
 | _,_,0,r=>r
 | _,_,_+1,.nil=>.nil
 | _,_,n+1,.cons _ t=>Vals.drop n t
noncomputable def Ek:Option V->Option Value->Prop
 | some v,some u=>RelV v u
 | none,none=>True
 | _,_=>False
noncomputable def KV {κ:Type}:List (κ × V)->List (κ × Value)->Prop:=Paired λ(p:κ × V) (q:κ × Value)=>p.1=q.1/\RelV p.2 q.2
noncomputable def kV:Key->V
 | .inl i=>.int i
 | .inr x=>.str x
inductive HO where
 /-- a list -/
 | lst (xs:List V)
 /-- a tuple (never changes) -/
 | tup (xs:List V)
 /-- a dict whose keys are ints and texts;one whose keys are tuples of ints and texts (the empty one is both) -/
 | dK (kvs:List (Key × V)) | dT (kvs:List (List Key × V))
 /-- a set of ints: its members,its size -/
 | set (S:Int->Bool) (n:Nat)
 /-- an instance of the class at C,its dict at dx,its attributes -/
 | ins (C dx:Addr) (fs:List (Str × V))
 /-- the dict of the instance at x -/
 | own (x:Addr)
 /-- the dict of an exception -/
 | xd (fs:List (Str × V))
 /-- a bound method,f of x -/
 | met (f x:Addr)
 /-- a range object lo,lo+1,.. below hi -/
 | rng (lo hi:Int)
 /-- a iT that is known to the object (the rR;a dict while a loop walks it): read,never written while it is so -/
 | frz (o:Obj) (u:HO)
 /-- a code iU table -/
 | tbl (ps:Array Value)
 /-- any other iT,by what is true of its one object (a def of Aa4 own: Afb a S n:=HO.ext λh=>..) -/
 | ext (φ:Heap->Prop)
abbrev Hp:=Addr->Option HO
noncomputable def upd (H:Hp)(a:Addr)(o:HO):Hp:=λb=>if b=a then some o else H b
theorem Ad:upd H a o a=some o:=by unfold upd;rw [if_pos rfl]
theorem Ac (h:b≠a):upd H a o b=H b:=by unfold upd;rw [if_neg h]
theorem AW {H:Hp}{a b:Addr}{o u:HO}(h:H a=some o)(h':H b=some u)(d:o≠u):a≠b:=by
 intro e;subst e;rw [h] at h';exact d (ss h')
theorem Ab {H:Hp}{a b:Addr}{o:HO}(h:H a=some o)(h':H b=none):a≠b:=by
 intro e;subst e;rw [h] at h';cases h'
section
variable (P:Program)(w:World)
noncomputable def B6 (H:Hp)(h:Heap)(a:Addr):HO->Prop
 | .lst xs=>xs.length<=sizeLine/\∃ (its:List Value) (n:Nat),Vals xs its/\h.get? a=some { cls:=.type "list",data:=.seq its.toArray n }
 | .tup xs=>xs.length<=sizeLine/\∃ its:List Value,Vals xs its/\IsTup h a its.toArray
 | .dK kvs=>kvs.length<=sizeLine/\(a==sysModules)=false/\∃ vs,KV kvs vs/\h.DictOf (B1 P w) a vs
 | .dT kvs=>kvs.length<=sizeLine/\(a==sysModules)=false/\∃ xs:List (List Key × Addr × Value),
   Paired (λ(p:List Key × V) (q:List Key × Addr × Value)=>p.1=q.1/\H q.2.1=some (.tup (p.1.map kV))/\RelV p.2 q.2.2) kvs xs /\
   ∃ o es ep,h.get? a=some o/\o.ExactDict/\o.data=.dict es ep/\es.toList=xs.map (entryOfKey (tupleKind (B1 P w)))/\(xs.map (·.1)).Nodup
 | .set S n=>h.SetOf (intKind P w) a S n
 | .ins C dx fs=>H dx=some (.own a)/\fs.length<=1000/\dx≠a/\h.get? a=some (W.instObj C dx) /\
   ∃ mA,h.Ns1 dx mA/\(∀ f,Ek (fs.lookup f) (mA f))/\PySem.Within mA (fs.map (·.1))
 | .own _=>∃ o,h.get? a=some o
 | .xd fs=>∃ mA,h.Ns1 a mA/\∀ f,Ek (fs.lookup f) (mA f)
 | .rng lo hi=>∃ t u v,h.get? a=some { cls:=.type "range",data:=.fields #[.int lo t,.int hi u,.int 1 v] }
 | .frz o u=>h.get? a=some o/\B6 H h a u
 | .tbl ps=>h.get? a=some { cls:=.none,data:=.fields ps }
 | .met f x=>h.get? a=some (W.methodObj (.ref f) (.ref x))
 | .ext φ=>φ h/\(∃ o,h.get? a=some o)/\∀ h1 h2:Heap,φ h1->(∀ o,h1.get? a=some o->h2.get? a=some o)->φ h2
noncomputable def DM (H:Hp)(h:Heap):Prop:=∀ a o,H a=some o->B6 P w H h a o
end
section
variable {P:Program}{w:World}{H H':Hp}{h h':Heap}{a:Addr}{o:HO}
theorem B6.lt (x:B6 P w H h a o):a < h.objs.size:=by
 cases o with
 | lst xs=>obtain ⟨_,_,_,_,e⟩:=x;exact ii e
 | tup xs=>obtain ⟨_,_,_,p⟩:=x;exact p.lt
 | dK kvs=>obtain ⟨_,_,_,_,o,_,_,e,_⟩:=x;exact ii e
 | dT kvs=>obtain ⟨_,_,_,_,o,_,_,e,_⟩:=x;exact ii e
 | set S n=>obtain ⟨o,_,_,_,e,_⟩:=x;exact ii e
 | ins C dx fs=>obtain ⟨_,_,_,e,_⟩:=x;exact ii e
 | own y=>obtain ⟨_,e⟩:=x;exact ii e
 | xd fs=>obtain ⟨_,⟨_,_,_,e,_⟩,_⟩:=x;exact ii e
 | rng lo hi=>obtain ⟨_,_,_,e⟩:=x;exact ii e
 | frz ob u=>obtain ⟨e,_⟩:=x;exact ii e
 | tbl ps=>exact ii (show h.get? a=some _ from x)
 | met f y=>exact ii (show h.get? a=some _ from x)
 | ext φ=>obtain ⟨_,⟨_,e⟩,_⟩:=x;exact ii e
theorem Paired.aar {α β:Type}{F G:α->β->Prop}:∀ {l₁:List α} {l₂:List β},Paired F l₁ l₂->(∀ a b,F a b->G a b)->Paired G l₁ l₂
 | _,_,.nil,_=>.nil
 | _,_,.cons r t,f=>.cons (f _ _ r) (Paired.aar t f)
theorem B6.aa0 (x:B6 P w H h a o)(k:∀ b u,(b=a\/H b=some (.own a))->h.get? b=some u->h'.get? b=some u)(ho:∀ b,H b=some (.own a)->H' b=some (.own a))(ht:∀ b xs,H b=some (.tup xs)->H' b=some (.tup xs)):B6 P w H' h' a o:=by
 induction o with
 | lst xs=>obtain ⟨z,its,n,r,e⟩:=x;exact ⟨z,its,n,r,k _ _ (.inl rfl) e⟩
 | tup xs=>obtain ⟨z,its,r,ob,e,c⟩:=x;exact ⟨z,its,r,ob,k _ _ (.inl rfl) e,c⟩
 | dK kvs=>obtain ⟨z,y,vs,r,ob,es,ep,e,c⟩:=x;exact ⟨z,y,vs,r,ob,es,ep,k _ _ (.inl rfl) e,c⟩
 | dT kvs =>
  obtain ⟨z,y,xs,r,ob,es,ep,e,c⟩:=x;exact ⟨z,y,xs,Paired.aar r λp q z=>⟨z.1,ht _ _ z.2.1,z.2.2⟩,ob,es,ep,k _ _ (.inl rfl) e,c⟩
 | set S n=>obtain ⟨ob,es,ep,t,e,c⟩:=x;exact ⟨ob,es,ep,t,k _ _ (.inl rfl) e,c⟩
 | ins C dx fs =>
  obtain ⟨d,z,ne,e,mA,⟨od,es,ep,e2,c⟩,r⟩:=x;exact ⟨ho _ d,z,ne,k _ _ (.inl rfl) e,mA,⟨od,es,ep,k _ _ (.inr d) e2,c⟩,r⟩
 | own y=>obtain ⟨ob,e⟩:=x;exact ⟨ob,k _ _ (.inl rfl) e⟩
 | xd fs=>obtain ⟨mA,⟨od,es,ep,e,c⟩,r⟩:=x;exact ⟨mA,⟨od,es,ep,k _ _ (.inl rfl) e,c⟩,r⟩
 | rng lo hi=>obtain ⟨t,u,v,e⟩:=x;exact ⟨t,u,v,k _ _ (.inl rfl) e⟩
 | frz ob u ih=>obtain ⟨e,q⟩:=x;exact ⟨k _ _ (.inl rfl) e,ih q⟩
 | tbl ps =>
  have e:h.get? a=some { cls:=.none,data:=.fields ps }:=x;show h'.get? a=some { cls:=.none,data:=.fields ps };exact k a _ (.inl rfl) e
 | met f y =>
  have e:h.get? a=some (W.methodObj (.ref f) (.ref y)):=x;show h'.get? a=some (W.methodObj (.ref f) (.ref y));exact k a _ (.inl rfl) e
 | ext φ=>obtain ⟨p,⟨o,e⟩,st⟩:=x;exact ⟨st _ _ p λo q=>k _ _ (.inl rfl) q,⟨o,k _ _ (.inl rfl) e⟩,st⟩
theorem DM.lt (x:DM P w H h)(e:H a=some o):a < h.objs.size:=(x a o e).lt
theorem DM.fresh (x:DM P w H h)(e:h.objs.size<=a):H a=none:=by
 cases q:H a with
 | none=>rfl
 | some u=>exact absurd (kt (x.lt q) e) (Sa _)
theorem DM.kept (x:DM P w H h)(k:∀ b u,h.get? b=some u->h'.get? b=some u):DM P w H h':=λa o e =>
 (x a o e).aa0 (λb u _ q=>k b u q) (λ_ q=>q) λ_ _ q=>q
theorem DM.laid (x:DM P w H h)(k:∀ b u,h.get? b=some u->h'.get? b=some u)(hp:h.objs.size<=a)(new:B6 P w (upd H a o) h' a o):DM P w (upd H a o) h':=λb u e=>by
 have hn:=x.fresh hp;by_cases hb:b=a
 ·subst hb;rw [Ad] at e;cases e;exact new
 ·rw [Ac hb] at e;exact (x b u e).aa0 (λc v _ q=>k c v q) (λc q=>by rw [Ac (Ab q hn)];exact q) λc xs q=>by rw [Ac (Ab q hn)];exact q
end
noncomputable def Rd (H:Hp)(a:Addr)(u:HO):Prop:=H a=some u\/∃ o,H a=some (.frz o u)
theorem Rd.ok (r:Rd H a u)(x:DM P w H h):B6 P w H h a u:=by
 rcases r with r | ⟨o,r⟩
 ·exact x a u r
 ·obtain ⟨_,q⟩:=x a _ r;exact q
noncomputable def iV:Option HO->Prop
 | some (.lst _)=>True
 | some (.dK _)=>True
 | some (.dT _)=>True
 | some (.set _ _)=>True
 | some (.ins _ _ _)=>True
 | some (.ext _)=>True
 | _=>False
section
variable {P:Program}{w:World}{H:Hp}{h h':Heap}{x e:Addr}{o':HO}
theorem DM.write (ok:DM P w H h)(mu:iV (H x))(he:e=x\/H e=some (.own x))(k:∀ b u,b≠e->h.get? b=some u->h'.get? b=some u)(gR:∃ u,h'.get? e=some u)(new:B6 P w (upd H x o') h' x o'):DM P w (upd H x o') h':=λb u q=>by
 have iW:∀ c y,H c=some (.own y)->c≠x:=λc y r z=>by subst z;rw [r] at mu;exact mu
 have rS:∀ c xs,H c=some (.tup xs)->c≠x:=λc xs r z=>by subst z;rw [r] at mu;exact mu
 by_cases hb:b=x
 ·subst hb;rw [Ad] at q;cases q;exact new
 ·rw [Ac hb] at q;by_cases Y':b=e
  ·have q':H b=some (.own x):=by
    rcases he with z | z
    ·exact absurd (Y'.trans z) hb
    ·rw [Y'];exact z
   rw [q] at q';cases q';obtain ⟨v,hv⟩:=gR;exact ⟨v,by rw [Y'];exact hv⟩
  ·refine (ok b u q).aa0 (λc v hc r=>k c v ?_ r) (λc r=>by rw [Ac (iW c b r)];exact r) λc xs r=>(by rw [Ac (rS c xs r)];exact r);rcases hc with rfl | hc
   ·exact Y'
   ·rintro rfl;rcases he with z | z
    ·exact iW c b hc z
    ·rw [hc] at z;cases z;exact hb rfl
end
structure Un (fs ex:List Addr)(H H':Hp)(h h':Heap):Prop where
 keep:∀ b o,h.get? b=some o->H b=none->b∉fs->b∉ex->h'.get? b=some o
 slot:∀ b o,h.get? b=some o->H b=none->b∈fs->b∉ex->∃ sl,h'.get? b=some { o with slots:=sl }
 free:∀ b o,h.get? b=some o->H b=none->b∉ex->H' b=none
 there:∀ b o,h.get? b=some o->b∉ex->∃ o',h'.get? b=some o'
 aa2:∀ b xs,H b=some (.tup xs)->H' b=some (.tup xs)
 aax:∀ b o u,H b=some (.frz o u)->H' b=some (.frz o u)
 aay:∀ b ps,H b=some (.tbl ps)->∃ more,H' b=some (.tbl (ps++more))
section
variable {fs gS ex ex':List Addr}{H H1 H2:Hp}{h h1 h2 h':Heap}{a x e:Addr}{o:HO}
theorem Un.any (u:Un fs ex H H1 h h1)(q:h.get? b=some ob)(n:H b=none)(hx:b∉ex):∃ sl,h1.get? b=some { ob with slots:=sl }:=by
 by_cases hb:b∈fs
 ·exact u.slot b ob q n hb hx
 ·exact ⟨ob.slots,u.keep b ob q n hb hx⟩
theorem Un.kept (k:∀ b u,h.get? b=some u->h'.get? b=some u):Un fs ex H H h h' :=
 ⟨λb ob q _ _ _=>k b ob q,λb ob q _ _ _=>⟨ob.slots,k b ob q⟩,λ_ _ _ n _=>n,λb ob q _=>⟨ob,k b ob q⟩,λ_ _ q=>q,λ_ _ _ q=>q,λ_ ps q=>⟨#[],by rw [q];simp⟩⟩
theorem Un.refl:Un fs ex H H h h:=Un.kept λ_ _ q=>q
theorem Un.laid (k:∀ b u,h.get? b=some u->h'.get? b=some u)(hp:h.objs.size<=a)(hn:H a=none):Un fs ex H (upd H a o) h h' where
 keep:=λb u q _ _ _=>k b u q
 slot:=λb u q _ _ _=>⟨u.slots,k b u q⟩
 free:=λb u q n _=>by rw [Ac (dL (kt (ii q) hp))];exact n
 there:=λb u q _=>⟨u,k b u q⟩
 aa2:=λb xs q=>by rw [Ac (Ab q hn)];exact q
 aax:=λb u xs q=>by rw [Ac (Ab q hn)];exact q
 aay:=λb ps q=>⟨#[],by rw [Ac (Ab q hn),q];simp⟩
theorem Un.write (mu:iV (H x))(he:e=x\/H e=some (.own x))(k:∀ b u,b≠e->h.get? b=some u->h'.get? b=some u)(gR:∃ u,h'.get? e=some u):Un fs ex H (upd H x o) h h':=by
 have hx:∀ b,H b=none->b≠x:=λb n z=>by subst z;rw [n] at mu;exact mu
 have hb:∀ b,H b=none->b≠e:=λb n z=>by
  subst z;rcases he with r | r
  ·exact hx b n r
  ·rw [n] at r;cases r
 have hm:∀ b u,H b=some u->¬ iV (some u)->b≠x:=λb u q nm z=>by subst z;rw [q] at mu;exact nm mu
 refine ⟨λb u q n _ _=>k b u (hb b n) q,λb u q n _ _=>⟨u.slots,k b u (hb b n) q⟩,λb u q n _=>by rw [Ac (hx b n)];exact n,λb u q _=>?_,
  λb xs q=>by rw [Ac (hm b _ q λz=>z)];exact q,λb u xs q=>by rw [Ac (hm b _ q λz=>z)];exact q,λb ps q=>⟨#[],by rw [Ac (hm b _ q λz=>z),q];simp⟩⟩
 by_cases Y':b=e
 ·subst Y';exact gR
 ·exact ⟨u,k b u Y' q⟩
end
noncomputable def pE (h:Heap)(H:Hp):List Addr:=(List.range h.objs.size).filter λa=>(H a).isSome
noncomputable def IH (h:Heap)(H:Hp):Heap:=W.hideAll h (pE h H)
theorem PL (h:Heap)(H:Hp):(IH h H).objs.size=h.objs.size:=W.hideAll_size _ _
theorem Ru (e:h.get? b=some o)(n:H b=none):(IH h H).get? b=some o :=
 W.hideAll_get _ e λhm=>by
  have q:(H b).isSome=true:=(AT.mp hm).2;rw [n] at q;simp at q
theorem V9 (e:(IH h H).get? b=some o):h.get? b=some o/\H b=none:=by
 have e':h.get? b=some o:=W.of_hideAll (pE h H) e;refine ⟨e',?_⟩;cases q:H b with
 | none=>rfl
 | some x =>
  have hm:b∈pE h H:=AT.mpr ⟨FB.mpr (ii e'),by simp [q]⟩;have z:(IH h H).get? b=none:=W.hideAll_none (pE h H) hm;rw [z] at e;cases e
structure Mod (K:W.Frag)(mg:Str->Option Value)(base:Heap):Prop where
 kin:K.In base
 glob:base.Ns mainGlobals mg
 blt:∃ mb,base.Ns builtinsNs mb/\∀ x:Str,x≠"__name__"->mb x=bootBuiltins x
 nolimit:base.NoLimit
structure Cx where
 prog:Program
 w:World
 K:W.Frag
 mg:Str->Option Value
 base:Heap
 A:Around
 N:List Str
 s₀:Shared
 H₀:Hp
 env:Env
 outer:List Env
 stack:List Env
 ex:List Addr
 fn:Str->Bool
 calm:Bool
 pn:List (Addr × Obj)
 xe:Value->Shared->Prop
noncomputable def Mv (l:List Env):List Addr:=l.filterMap (·.frame)
abbrev Cx.fs (X:Cx):List Addr:=Mv X.outer
noncomputable def gT (sc:Scope)(x:Str):Prop:=sc.names.lookup x=some .local\/sc.names.lookup x=some .cell\/sc.names.lookup x=some .free
noncomputable def Loc (sc:Scope)(x:Str):Prop:=sc.names.lookup x=some .local\/sc.names.lookup x=some .cell
noncomputable def Look (env:Env)(h:Heap)(m:Str->Option Value)(x:Str)(u:Value):Prop :=
 (env.kindOf x=some .local/\m x=some u)\/((env.kindOf x=some .cell\/env.kindOf x=some .free)/\∃ c,env.cells.lookup x=some c/\h.IsCell c (some u))
structure Cx.Ok (X:Cx):Prop where
 mod:Mod X.K X.mg X.base
 kind:X.env.scope.kind=.function
 glob:X.env.globals=mainGlobals
 blt:X.env.builtins=builtinsNs
 above:X.s₀.heap.objs.size<=X.env.locals
 inj:∀ x y c,X.env.cells.lookup x=some c->X.env.cells.lookup y=some c->x=y
 has:∀ x,(X.env.kindOf x=some .cell\/X.env.kindOf x=some .free)->∃ c,X.env.cells.lookup x=some c
 cab:∀ x c,X.fn x=true->X.env.cells.lookup x=some c->X.s₀.heap.objs.size<=c
 hd:X.calm=true->X.A.handled=none
 frames:X.A.frames=some X.stack
 stk:X.stack=X.outer\/(X.stack=X.env::X.outer/\X.env.frame=some X.env.locals)
 exf:∀ b∈X.ex,b≠X.env.locals/\∀ x c,X.env.cells.lookup x=some c->c≠b
 bs:∀ b o,X.base.get? b=some o->X.s₀.heap.get? b=some o/\X.H₀ b=none
 bsz:X.base.objs.size<=X.s₀.heap.objs.size
 abk:∀ b o,X.base.get? b=some o->b∉X.ex
 abp:∀ b∈X.ex,b∉X.fs
 aa1:X.s₀.heap.FunFrames X.base X.outer
 frf:∀ b∈X.fs,X.H₀ b=none
structure Inv (X:Cx)(pins:List (Addr × Obj))(σ:List (Option V))(H:Hp)(s:Shared):Prop where
 ok:X.Ok
 os:s.os=X.s₀.os
 bare:AllBare s.gens
 base:Un X.fs X.ex X.H₀ H X.s₀.heap s.heap
 loc:∃ m,s.heap.Ns X.env.locals m/\∀ (i:Nat) (x:Str) (v:V),X.N[i]?=some x->σ[i]?=some (some v)->gT X.env.scope x->∃ u,RelV v u/\Look X.env s.heap m x u
 cell:∀ x c,X.env.cells.lookup x=some c->∃ v,s.heap.IsCell c v
 free:H X.env.locals=none
 aah:∀ x c,X.env.cells.lookup x=some c->H c=none
 pin:∀ p∈X.pn++pins,s.heap.get? p.1=some p.2/\H p.1=none/\p.1≠X.env.locals/\p.1∉X.fs/\∀ v,p.2.data≠.cell v
 hok:DM X.prog X.w H s.heap
 len:σ.length=X.N.length
section
variable {X:Cx}{pins:List (Addr × Obj)}{σ:List (Option V)}{H H':Hp}{s:Shared}{h':Heap}
theorem Cx.Ok.ab7 (ok:X.Ok)(e:X.base.get? b=some o):b∉X.fs:=λhb=>by
 have:=(ok.aa1.mem hb).1;rw [e] at this;cases this
theorem Inv.bs (I:Inv X pins σ H s):∀ b o,X.base.get? b=some o->s.heap.get? b=some o/\H b=none:=λb o e =>
 ⟨I.base.keep b o (I.ok.bs b o e).1 (I.ok.bs b o e).2 (I.ok.ab7 e) (I.ok.abk b o e),I.base.free b o (I.ok.bs b o e).1 (I.ok.bs b o e).2 (I.ok.abk b o e)⟩
theorem Inv.bk (I:Inv X pins σ H s):∀ b o,X.base.get? b=some o->s.heap.get? b=some o:=λb o e=>(I.bs b o e).1
theorem Inv.mod (I:Inv X pins σ H s):Mod X.K X.mg X.base:=I.ok.mod
theorem Inv.kIn (I:Inv X pins σ H s):X.K.In s.heap:=I.ok.mod.kin.keeps I.bk
theorem Inv.fr (I:Inv X pins σ H s):∃ m,Fr X.base X.env.locals s.heap m :=
 let ⟨m,hn,_⟩:=I.loc
 ⟨m,hn,I.bk,ce I.ok.bsz I.ok.above⟩
theorem Inv.lt (I:Inv X pins σ H s):X.env.locals < s.heap.objs.size:=let ⟨_,hn,_⟩:=I.loc;hn.lt
theorem Inv.sz (I:Inv X pins σ H s):X.s₀.heap.objs.size<=s.heap.objs.size:=ce I.ok.above (Nat.le_of_lt I.lt)
theorem Inv.abz (I:Inv X pins σ H s)(h:s.heap.objs.size<=a):a∉X.fs:=λhb=>by
 obtain ⟨_,o,ho,_⟩:=I.ok.aa1.mem hb;exact absurd (kt (ii ho) (ce I.sz h)) (Sa _)
theorem Inv.cne (I:Inv X pins σ H s):∀ x c,X.env.cells.lookup x=some c->c≠X.env.locals:=λx c e z=>by
 obtain ⟨v,o,ho,hd⟩:=I.cell x c e;obtain ⟨m,⟨o',es,ep,PN,Rv,_⟩,_⟩:=I.loc;rw [z,PN] at ho;cases ho;rw [Rv] at hd;cases hd
theorem Inv.aa1 (I:Inv X pins σ H s):s.heap.FunFrames X.base X.outer:=by
 have all:∀ (l:List Env),(∀ b∈Mv l,b∈X.fs)->X.s₀.heap.FunFrames X.base l->s.heap.FunFrames X.base l:=by
  intro l
  induction l with
  | nil=>intro _ _;trivial
  | cons env r ih =>
   intro hs hl;obtain ⟨hk,⟨L,o,hf,hn,ho,hd⟩,hr⟩:=hl;have hL:L∈X.fs:=hs L (by unfold Mv;rw [List.filterMap_cons,hf];exact Db);obtain ⟨sl,e⟩:=I.base.slot L o ho (I.ok.frf L hL) hL λz=>I.ok.abp L z hL;exact ⟨hk,⟨L,_,hf,hn,e,hd⟩,ih (λb hb=>hs b (by unfold Mv;rw [List.filterMap_cons,hf];exact Da _ hb)) hr⟩
 exact all X.outer (λ_ hb=>hb) I.ok.aa1
theorem Inv.stack (I:Inv X pins σ H s):s.heap.FunFrames X.base X.stack:=by
 rcases I.ok.stk with e | ⟨e,hf⟩
 ·rw [e];exact I.aa1
 ·rw [e];obtain ⟨m,hn,_⟩:=I.loc;refine .cons (by rw [I.ok.kind];decide) hf hn ?_ I.aa1;exact Ps (ce I.ok.bsz I.ok.above)
theorem Inv.aas (I:Inv X pins σ H s):∀ b∈Mv X.stack,b∈X.env.locals::X.fs:=λb hb=>by
 rcases I.ok.stk with e | ⟨e,hf⟩
 ·rw [e] at hb;exact Da _ hb
 ·rw [e] at hb;unfold Mv at hb;rw [List.filterMap_cons,hf] at hb;exact hb
theorem Inv.aa3 (I:Inv X pins σ H s):∀ b∈Mv X.stack,H b=none:=λb hb=>by
 rcases gz.mp (I.aas b hb) with e | hb
 ·rw [e];exact I.free
 ·obtain ⟨_,o,ho,_⟩:=I.ok.aa1.mem hb;exact I.base.free b o ho (I.ok.frf b hb) λz=>I.ok.abp b z hb
theorem Inv.step {g':Array GenState}{t':Nat}{d':Drawn}{ch:List Addr}(I:Inv X pins σ H s)
  (ME:∀ b∈ch,(b∈X.ex\/X.s₀.heap.objs.size<=b)/\b≠X.env.locals/\(∀ x c,X.env.cells.lookup x=some c->c≠b)/\∀ p∈X.pn++pins,p.1≠b)
  (keep:∀ b o,b≠X.env.locals->b∉X.fs->b∉ch->s.heap.get? b=some o->H b=none->h'.get? b=some o)
  (slot:∀ b o,b≠X.env.locals->b∈X.fs->b∉ch->s.heap.get? b=some o->H b=none->∃ sl,h'.get? b=some { o with slots:=sl }) (free:∀ b o,b∉ch->s.heap.get? b=some o->H b=none->H' b=none)
  (there:∀ b o,b∉ch->s.heap.get? b=some o->∃ o',h'.get? b=some o')
  (aa2:∀ b xs,H b=some (.tup xs)->H' b=some (.tup xs)) (aax:∀ b o u,H b=some (.frz o u)->H' b=some (.frz o u)) (aay:∀ b ps,H b=some (.tbl ps)->∃ more,H' b=some (.tbl (ps++more)))
  (ns:∀ m,s.heap.Ns X.env.locals m->h'.Ns X.env.locals m) (hok:DM X.prog X.w H' h') (hg:AllBare g') :
  Inv X pins σ H' { s with heap:=h',gens:=g',drawn:=d',toks:=t' }:=by
 have gU:∀ b o,X.s₀.heap.get? b=some o->b≠X.env.locals:=λb o e=>dL (kt (ii e) I.ok.above);have pF:∀ b o,X.s₀.heap.get? b=some o->b∉X.ex->b∉ch:=λb o e hx hb=>by
  rcases (ME b hb).1 with z | z
  ·exact hx z
  ·exact absurd (kt (ii e) z) (Sa _)
 have cellK:∀ x c,X.env.cells.lookup x=some c->∀ v,s.heap.IsCell c v->h'.IsCell c v:=λx c e v ⟨o,ho,hd⟩=>by
  have iX:c∉ch:=λz=>(ME c z).2.2.1 x c e rfl;by_cases hc:c∈X.fs
  ·obtain ⟨sl,q⟩:=slot c o (I.cne x c e) hc iX ho (I.aah x c e);exact ⟨_,q,hd⟩
  ·exact ⟨o,keep c o (I.cne x c e) hc iX ho (I.aah x c e),hd⟩
 refine ⟨I.ok,I.os,hg,⟨λb o e n hb hx=>?_,λb o e n hb hx=>?_,λb o e n hx=>?_,λb o e hx=>?_,λb xs e=>aa2 b xs (I.base.aa2 b xs e),λb o xs e=>aax b o xs (I.base.aax b o xs e),λb ps e=>?_⟩,?_,λx c e=>?_,?_,λx c e=>?_,λp hp=>?_,hok,I.len⟩
 ·exact keep b o (gU b o e) hb (pF b o e hx) (I.base.keep b o e n hb hx) (I.base.free b o e n hx)
 ·obtain ⟨sl,e1⟩:=I.base.slot b o e n hb hx;obtain ⟨sl',e2⟩:=slot b _ (gU b o e) hb (pF b o e hx) e1 (I.base.free b o e n hx);exact ⟨sl',e2⟩
 ·obtain ⟨o',e1⟩:=I.base.there b o e hx;exact free b o' (pF b o e hx) e1 (I.base.free b o e n hx)
 ·obtain ⟨o',e1⟩:=I.base.there b o e hx;exact there b o' (pF b o e hx) e1
 ·obtain ⟨m1,e1⟩:=I.base.aay b ps e;obtain ⟨m2,e2⟩:=aay b _ e1;exact ⟨m1++m2,by rw [e2,Array.append_assoc]⟩
 ·obtain ⟨m,hn,hl⟩:=I.loc;refine ⟨m,ns m hn,λi x v e1 e2 e3=>?_⟩;obtain ⟨u,r,l⟩:=hl i x v e1 e2 e3;refine ⟨u,r,?_⟩;rcases l with l | ⟨k,c,e,z⟩
  ·exact .inl l
  ·exact .inr ⟨k,c,e,cellK x c e _ z⟩
 ·obtain ⟨v,z⟩:=I.cell x c e;exact ⟨v,cellK x c e v z⟩
 ·obtain ⟨m,⟨o,_,_,ho,_⟩,_⟩:=I.loc;exact free _ o (λz=>(ME _ z).2.1 rfl) ho I.free
 ·obtain ⟨v,o,ho,hd⟩:=I.cell x c e;exact free c o (λz=>(ME c z).2.2.1 x c e rfl) ho (I.aah x c e)
 ·obtain ⟨e,n,ne,nf,d⟩:=I.pin p hp;have iX:p.1∉ch:=λz=>(ME p.1 z).2.2.2 p hp rfl;exact ⟨keep p.1 p.2 ne nf iX e n,free p.1 p.2 iX e n,ne,nf,d⟩
theorem Inv.un (I:Inv X pins σ H s)(u:Un X.fs [] H H' s.heap h')(hok:DM X.prog X.w H' h'):Inv X pins σ H' { s with heap:=h',toks:=t' }:=by
 obtain ⟨m,⟨o,es,ep,ho,r⟩,_⟩:=id I.loc;obtain ⟨sl,hL⟩:=u.any ho I.free (by simp);exact I.step (g':=s.gens) (d':=s.drawn) (ch:=[]) (λ_ z=>nomatch z) (λb o _ hb _ e n=>u.keep b o e n hb (by simp)) (λb o _ hb _ e n=>u.slot b o e n hb (by simp)) (λb o _ e n=>u.free b o e n (by simp)) (λb o _ e=>u.there b o e (by simp)) u.aa2 u.aax u.aay (λm' hm=>by
  obtain ⟨o',pG,pH,PN,r'⟩:=hm;rw [ho] at PN;cases PN;exact ⟨_,pG,pH,hL,r'⟩) hok I.bare
theorem Inv.call (I:Inv X pins σ H s)(u:Un (Mv X.stack) ch H H' s.heap h')(hok:DM X.prog X.w H' h')(hg:AllBare g')(ME:∀ b∈ch,(b∈X.ex\/X.s₀.heap.objs.size<=b)/\b≠X.env.locals/\(∀ x c,X.env.cells.lookup x=some c->c≠b)/\∀ p∈X.pn++pins,p.1≠b) :
  Inv X pins σ H' { s with heap:=h',gens:=g',drawn:=d',toks:=t' }:=by
 obtain ⟨m,⟨o,es,ep,ho,r⟩,_⟩:=id I.loc;obtain ⟨sl,hL⟩:=u.any ho I.free λz=>(ME _ z).2.1 rfl;exact I.step (ch:=ch) ME (λb o hL hb hc e n=>u.keep b o e n (λz=>(gz.mp (I.aas b z)).elim hL hb) hc) (λb o _ _ hc e n=>u.any e n hc) (λb o hc e n=>u.free b o e n hc) (λb o hc e=>u.there b o e hc) u.aa2 u.aax u.aay (λm' hm=>by
  obtain ⟨o',pG,pH,PN,r'⟩:=hm;rw [ho] at PN;cases PN;exact ⟨_,pG,pH,hL,r'⟩) hok hg
theorem Inv.turned (I:Inv X pins σ H s)(k:∀ b o,b≠it->s.heap.get? b=some o->h'.get? b=some o)(hn:H it=none)(hL:it≠X.env.locals)(h1:it∈X.ex\/X.s₀.heap.objs.size<=it)(h2:∀ x c,X.env.cells.lookup x=some c->c≠it)(h3:∀ p∈X.pn++pins,p.1≠it):Inv X pins σ H { s with heap:=h',toks:=t' }:=by
 have nit:∀ b u,H b=some u->b≠it:=λb u e z=>by rw [z,hn] at e;cases e
 refine I.step (g':=s.gens) (d':=s.drawn) (ch:=[it]) (λb hb=>?_) (λb o _ _ hc e _=>k b o (λz=>hc (by simp [z])) e) (λb o _ _ hc e _=>⟨o.slots,k b o (λz=>hc (by simp [z])) e⟩) (λ_ _ _ _ n=>n)
  (λb o hc e=>⟨o,k b o (λz=>hc (by simp [z])) e⟩) (λ_ _ e=>e) (λ_ _ _ e=>e) (λb ps e=>⟨#[],by rw [e];simp⟩) (λm hm=>?_) (λb u e=>?_) I.bare
 ·have e:b=it:=by simpa using hb
  subst e;exact ⟨h1,hL,h2,h3⟩
 ·obtain ⟨o,es,ep,ho,r⟩:=hm;exact ⟨o,es,ep,k _ o (be hL) ho,r⟩
 ·refine (I.hok b u e).aa0 (λc v hc q=>k c v ?_ q) (λ_ q=>q) λ_ _ q=>q;rcases hc with z | z
  ·rw [z];exact nit b u e
  ·exact nit c _ z
theorem Inv.tok (I:Inv X pins σ H s)(t:Nat):Inv X pins σ H { s with toks:=t }:=I.un (h':=s.heap) (t':=t) Un.refl I.hok
theorem Inv.kept (I:Inv X pins σ H s)(k:∀ b u,s.heap.get? b=some u->h'.get? b=some u):Inv X pins σ H { s with heap:=h',toks:=t' }:=I.un (Un.kept k) (I.hok.kept k)
theorem Inv.laid (I:Inv X pins σ H s)(k:∀ b u,s.heap.get? b=some u->h'.get? b=some u)(hp:s.heap.objs.size<=a)(new:B6 X.prog X.w (upd H a o) h' a o):
  Inv X pins σ (upd H a o) { s with heap:=h',toks:=t' }:=I.un (Un.laid k hp (I.hok.fresh hp)) (I.hok.laid k hp new)
theorem Inv.write (I:Inv X pins σ H s)(mu:iV (H x))(he:e=x\/H e=some (.own x))(k:∀ b u,b≠e->s.heap.get? b=some u->h'.get? b=some u)(gR:∃ u,h'.get? e=some u)(new:B6 X.prog X.w (upd H x o) h' x o):Inv X pins σ (upd H x o) { s with heap:=h',toks:=t' }:=I.un (Un.write mu he k gR) (I.hok.write mu he k gR new)
theorem Inv.weak (I:Inv X pins σ H s)(hl:σ'.length=σ.length)(w:∀ (i:Nat) v,σ'[i]?=some (some v)->σ[i]?=some (some v)):Inv X pins σ' H s :=
 ⟨I.ok,I.os,I.bare,I.base,let ⟨m,hn,gV⟩:=I.loc;⟨m,hn,λi x v e1 e2 e3=>gV i x v e1 (w i v e2) e3⟩,I.cell,I.free,I.aah,I.pin,I.hok,hl.trans I.len⟩
theorem Inv.aap (I:Inv X pins σ H s)(h:∀ p∈pins',s.heap.get? p.1=some p.2/\H p.1=none/\p.1≠X.env.locals/\p.1∉X.fs/\∀ v,p.2.data≠.cell v):Inv X pins' σ H s :=
 ⟨I.ok,I.os,I.bare,I.base,I.loc,I.cell,I.free,I.aah,λp hp=>(bn.mp hp).elim (λz=>I.pin p (ee _ z)) (h p),I.hok,I.len⟩
theorem KW {N:List Str}(hN:N.Nodup){i j:Nat}{x:Str}(a:N[i]?=some x)(b:N[j]?=some x):i=j:=by
 obtain ⟨h1,e1⟩:=cr.mp a;obtain ⟨h2,e2⟩:=cr.mp b;exact (List.getElem_inj hN).mp (e1.trans e2.symm)
theorem J2 (I:Inv X pins σ H s)(hN:X.N.Nodup)(hi:X.N[i]?=some x)(hx:Loc X.env.scope x)(r:RelV v u)(h:∀ s',Inv X pins (σ.set i (some v)) H s'->(∃ a,Heap.SameBut a s.heap s'.heap/\(a=X.env.locals\/X.env.cells.lookup x=some a))->Q .unit s')(hf:X.fn x=true\/X.env.scope.names.lookup x=some .local:=by exfalso):wpAny M A (storeName X.env x u) Q E s:=by
 obtain ⟨m,hn,hl⟩:=id I.loc;have rT:(X.env.scope.kind==.class || (X.env.scope.kind==.module && X.env.locals != X.env.globals))=false:=by rw [I.ok.kind];rfl
 have hiσ:i < σ.length:=by rw [I.len];exact (cr.mp hi).1
 have cne:=I.cne;have tracked:∀ {a:Addr} {h':Heap},(∃ o,s.heap.get? a=some o/\H a=none)->Heap.SameBut a s.heap h'->DM X.prog X.w H h':=λ{a h'} ha hs b ob e=>by
  obtain ⟨_,_,Y0⟩:=ha;refine (I.hok b ob e).aa0 (λc w' hc q=>(hs.2 c ?_).trans q) (λ_ q=>q) λ_ _ q=>q;rintro rfl;rcases hc with rfl | hc
  ·rw [Y0] at e;cases e
  ·rw [Y0] at hc;cases hc
 rcases hx with hk | hk
 ·refine wpAny_storeName_local hk hn (λh' gW hs=>?_) rT;obtain ⟨oL,_,_,hoL,_⟩:=id hn;refine h _ ⟨I.ok,I.os,I.bare,⟨λb o e n hb hx=>?_,λb o e n hb hx=>?_,I.base.free,λb o e hx=>?_,I.base.aa2,I.base.aax,I.base.aay⟩,⟨_,gW,λj y v' e1 e2 e3=>?_⟩,λy c e=>?_,I.free,I.aah,λp hp=>?_,tracked ⟨oL,hoL,I.free⟩ hs,by simpa using I.len⟩ ⟨_,hs,.inl rfl⟩
  ·exact (hs.2 b (dL (kt (ii e) I.ok.above))).trans (I.base.keep b o e n hb hx)
  ·obtain ⟨sl,e1⟩:=I.base.slot b o e n hb hx;exact ⟨sl,(hs.2 b (dL (kt (ii e) I.ok.above))).trans e1⟩
  ·obtain ⟨o',e1⟩:=I.base.there b o e hx;exact ⟨o',(hs.2 b (dL (kt (ii e) I.ok.above))).trans e1⟩
  ·by_cases hj:j=i
   ·subst hj;rw [hi] at e1;cases e1;rw [List.getElem?_set_self hiσ] at e2;cases e2;exact ⟨u,r,.inl ⟨hk,by simp⟩⟩
   ·rw [List.getElem?_set_ne (be hj)] at e2;obtain ⟨u',r',q⟩:=hl j y v' e1 e2 e3;refine ⟨u',r',?_⟩;rcases q with ⟨k,e⟩ | ⟨k,c,e,z⟩
    ·refine .inl ⟨k,?_⟩;have:y≠x:=λe=>hj (KW hN e1 (e▸hi));simp [this,e]
    ·exact .inr ⟨k,c,e,z.sameBut hs (cne y c e)⟩
  ·obtain ⟨w',z⟩:=I.cell y c e;exact ⟨w',z.sameBut hs (cne y c e)⟩
  ·obtain ⟨e,n,ne,nf,d⟩:=I.pin p hp;exact ⟨(hs.2 p.1 ne).trans e,n,ne,nf,d⟩
 ·have rV:X.fn x=true:=by
   rcases hf with z | z
   ·exact z
   ·rw [z] at hk;cases hk
  obtain ⟨c,hc⟩:=I.ok.has x (.inl hk);obtain ⟨w',z⟩:=I.cell x c hc;refine wpAny_storeName_cell I.ok.kind hk hc z (λh' CS hs=>?_);obtain ⟨oc,hoc,rW⟩:=id z;refine h { s with heap:=h' } ⟨I.ok,I.os,I.bare,⟨λb o e n hb hx=>?_,λb o e n hb hx=>?_,I.base.free,λb o e hx=>?_,I.base.aa2,I.base.aax,I.base.aay⟩,⟨m,hn.sameBut hs (be (cne x c hc)),λj y v' e1 e2 e3=>?_⟩,λy c' e=>?_,I.free,I.aah,λp hp=>?_,tracked ⟨oc,hoc,I.aah x c hc⟩ hs,by simpa using I.len⟩ ⟨c,hs,.inr hc⟩
  ·exact (hs.2 b (dL (kt (ii e) (I.ok.cab x c rV hc)))).trans (I.base.keep b o e n hb hx)
  ·obtain ⟨sl,e1⟩:=I.base.slot b o e n hb hx;exact ⟨sl,(hs.2 b (dL (kt (ii e) (I.ok.cab x c rV hc)))).trans e1⟩
  ·obtain ⟨o',e1⟩:=I.base.there b o e hx;exact ⟨o',(hs.2 b (dL (kt (ii e) (I.ok.cab x c rV hc)))).trans e1⟩
  ·by_cases hj:j=i
   ·subst hj;rw [hi] at e1;cases e1;rw [List.getElem?_set_self hiσ] at e2;cases e2;exact ⟨u,r,.inr ⟨.inl hk,c,hc,CS⟩⟩
   ·rw [List.getElem?_set_ne (be hj)] at e2;obtain ⟨u',r',q⟩:=hl j y v' e1 e2 e3;refine ⟨u',r',?_⟩;rcases q with q | ⟨k,c',e,z'⟩
    ·exact .inl q
    ·refine .inr ⟨k,c',e,z'.sameBut hs ?_⟩;rintro rfl;exact hj (KW hN e1 (I.ok.inj _ _ _ e hc▸hi))
  ·by_cases hcc:c'=c
   ·subst hcc;exact ⟨_,CS⟩
   ·obtain ⟨w2,z2⟩:=I.cell y c' e;exact ⟨w2,z2.sameBut hs hcc⟩
  ·obtain ⟨e,n,ne,nf,d⟩:=I.pin p hp;refine ⟨(hs.2 p.1 ?_).trans e,n,ne,nf,d⟩;intro q;rw [q,hoc] at e;have q':oc=p.2:=ss e;exact d w' (by rw [<- q'];exact rW)
theorem Ht (I:Inv X pins σ H s)(hN:X.N.Nodup)(hi:X.N[i]?=some x)(hx:Loc X.env.scope x)(r:RelV v u)(h:∀ s',Inv X pins (σ.set i (some v)) H s'->Q .unit s')(hf:X.fn x=true\/X.env.scope.names.lookup x=some .local:=by exfalso):wpAny M A (storeName X.env x u) Q E s :=
 J2 I hN hi hx r (λs' I' _=>h s' I') hf
theorem Inv.abe (I:Inv X pins σ H s)(ho:s'.os=s.os)(u:Un (Mv X.stack) ch H H' s.heap s'.heap)(hok:DM X.prog X.w H' s'.heap)(hg:AllBare s'.gens)(ME:∀ b∈ch,(b∈X.ex\/X.s₀.heap.objs.size<=b)/\b≠X.env.locals/\(∀ x c,X.env.cells.lookup x=some c->c≠b)/\∀ p∈X.pn++pins,p.1≠b):Inv X pins σ H' s':=by
 obtain ⟨h',g',d',t',o'⟩:=s';have e:o'=s.os:=ho;subst e;exact I.call (g':=g') (t':=t') (d':=d') u hok hg ME
end
abbrev XK:=Value->Option Addr->Hp->Prop
abbrev St:=List (Option V)
abbrev VK:=V->Hp->Prop
abbrev TE:=St->Hp->VK->Prop
abbrev TT:=St->Hp->(Bool->Hp->Prop)->Prop
abbrev TA:=St->Hp->(List V->Hp->Prop)->Prop
structure Ends where
 nx:St->Hp->Prop
 rt:VK
 bk:St->Hp->Prop:=λ_ _=>False
 ct:St->Hp->Prop:=λ_ _=>False
abbrev TS:=Ends->St->Hp->Prop
noncomputable def EP (X:Cx)(pins:List (Addr × Obj))(σ:St)(Q:VK)(u:Value)(s':Shared):Prop:=∃ v H',Inv X pins σ H' s'/\RelV v u/\Q v H'
noncomputable def TP (X:Cx)(pins:List (Addr × Obj))(σ:St)(Q:Bool->Hp->Prop)(b:Bool)(s':Shared):Prop:=∃ H',Inv X pins σ H' s'/\Q b H'
noncomputable def AP (X:Cx)(pins:List (Addr × Obj))(σ:St)(Q:List V->Hp->Prop)(us:List Value)(s':Shared):Prop:=∃ vs H',Inv X pins σ H' s'/\Vals vs us/\Q vs H'
noncomputable def SP (X:Cx)(pins:List (Addr × Obj))(D:Ends)(f:Flow)(s':Shared):Prop :=
 match f with
 | .next=>∃ σ' H',Inv X pins σ' H' s'/\D.nx σ' H'
 | .brk=>∃ σ' H',Inv X pins σ' H' s'/\D.bk σ' H'
 | .cont=>∃ σ' H',Inv X pins σ' H' s'/\D.ct σ' H'
 | .ret u=>∃ v σ' H',Inv X pins σ' H' s'/\RelV v u/\D.rt v H'
noncomputable def PE (X:Cx)(e:Expr)(t:TE):Prop :=
 ∀ (pins:List (Addr × Obj)) (s:Shared) (σ:St) (H:Hp) (Q:VK),Inv X pins σ H s->t σ H Q->wpAny (model X.prog X.w) X.A (eval e X.env) (EP X pins σ Q) X.xe s
noncomputable def PT (X:Cx)(e:Expr)(t:TT):Prop :=
 ∀ (pins:List (Addr × Obj)) (s:Shared) (σ:St) (H:Hp) (Q:Bool->Hp->Prop),Inv X pins σ H s->t σ H Q->wpAny (model X.prog X.w) X.A (isTrue e X.env (eval e X.env)) (TP X pins σ Q) X.xe s
noncomputable def PW (X:Cx)(e:Expr)(t:TT):Prop :=
 ∀ (whole:Sem Value) (pins:List (Addr × Obj)) (s:Shared) (σ:St) (H:Hp) (Q:Bool->Hp->Prop),Inv X pins σ H s->t σ H Q->wpAny (model X.prog X.w) X.A (isTrue e X.env whole) (TP X pins σ Q) X.xe s
theorem PW.pt (h:PW X e t):PT X e t:=h _
noncomputable def PA (X:Cx)(es:List Expr)(t:TA):Prop :=
 ∀ (pos:Pos) (pins:List (Addr × Obj)) (s:Shared) (σ:St) (H:Hp) (Q:List V->Hp->Prop),Inv X pins σ H s->t σ H Q->wpAny (model X.prog X.w) X.A (spliced (backTo pos (starEach es X.env))) (AP X pins σ Q) X.xe s
noncomputable def PS (X:Cx)(st:Stmt)(t:TS):Prop :=
 ∀ (pins:List (Addr × Obj)) (s:Shared) (σ:St) (H:Hp) (D:Ends),Inv X pins σ H s->t D σ H->wpAny (model X.prog X.w) X.A (exec st X.env) (SP X pins D) X.xe s
noncomputable def Oa (X:Cx)(st:List Stmt)(t:TS):Prop :=
 ∀ (pins:List (Addr × Obj)) (s:Shared) (σ:St) (H:Hp) (D:Ends),Inv X pins σ H s->t D σ H->wpAny (model X.prog X.w) X.A (execs st X.env) (SP X pins D) X.xe s
theorem Bc (h:wpAny M A t Q E s)(hQ:∀ a s,Q a s->Q' a s):wpAny M A t Q' E s:=OH h hQ λ_ _ x=>x
section
variable {X:Cx}
theorem bin {a b:Expr}{ta tb:TE}(ha:PE X a ta)(hb:PE X b tb){pins:List (Addr × Obj)}{s:Shared}{σ:St}{H:Hp}{R:V->V->Hp->Prop}(I:Inv X pins σ H s)(h:ta σ H λx H1=>tb σ H1 λy H2=>R x y H2)
  {α:Type} {Q:α->Shared->Prop} {f:Value->Value->Sem α}
  (hf:∀ v u s2 x y H2,Inv X pins σ H2 s2->RelV x v->RelV y u->R x y H2->wpAny (model X.prog X.w) X.A (f v u) Q X.xe s2) :
  wpAny (model X.prog X.w) X.A (eval a X.env) (λv s₁=>wpAny (model X.prog X.w) X.A (eval b X.env) (λu s₂=>wpAny (model X.prog X.w) X.A (f v u) Q X.xe s₂) X.xe s₁) X.xe s:=by
 refine Bc (ha pins s σ H _ I h) λv s1 AR=>?_;obtain ⟨x,H1,I1,r1,q1⟩:=AR;refine Bc (hb pins s1 σ H1 _ I1 q1) λu s2 AR=>?_;obtain ⟨y,H2,I2,r2,q2⟩:=AR;exact hf v u s2 x y H2 I2 r1 r2 q2
noncomputable def AS (i:Nat):TE:=fun σ H Q=>∃ v,σ[i]?=some (some v)/\Q v H
noncomputable def tC (v:V):TE:=λ_ H Q=>Q v H
theorem Rw (hN:X.N[i]?=some x)(hv:gT X.env.scope x)(hd:(x==("__debug__":Str))=false:=by decide)(MG:(x==("__classdict__":Str))=false:=by decide):PE X (.Name x pos) (AS i):=by
 intro pins s σ H Q I h;obtain ⟨v,e,h⟩:=h;obtain ⟨m,hn,hl⟩:=I.loc;obtain ⟨u,r,l⟩:=hl i x v hN e hv;have fin:EP X pins σ Q u s:=⟨v,H,I,r,h⟩;rcases l with ⟨hk,hm⟩ | ⟨hk,c,hc,Y1⟩
 ·exact wpAny_Name (wpAny_loadName_local I.ok.kind hk hn hm fin) hd
 ·rcases hk with hk | hk
  ·exact wpAny_Name (wpAny_loadName_cell I.ok.kind hk hc Y1 fin) hd
  ·exact wpAny_Name (wpAny_loadName_free I.ok.kind hk hc Y1 fin MG) hd
theorem Dc {i j pos}:PE X (.Constant (.int i) j pos) (tC (.int i)):=λ_ _ _ H _ I h=>wpAny_Constant_int ⟨.int i,H,I.tok _,⟨_,rfl⟩,h⟩
theorem iY {b j pos}:PE X (.Constant (.bool b) j pos) (tC (.bl b)):=λ_ _ _ H _ I h=>Constant_bool ⟨.bl b,H,I,rfl,h⟩
theorem Z0 {j pos}:PE X (.Constant .none j pos) (tC .non):=λ_ _ _ H _ I h=>Constant_none ⟨.non,H,I,rfl,h⟩
theorem Z3 {x j pos}:PE X (.Constant (.str x) j pos) (tC (.str x)):=λ_ _ _ H _ I h=>Calls.Constant_str ⟨.str x,H,I.tok _,⟨_,rfl⟩,h⟩
noncomputable def Gl (X:Cx)(x:Str):Prop:=X.env.kindOf x=some .globalImplicit
theorem JG (I:Inv X pins σ H s)(hg:Gl X x)(hm:X.mg x=some u)(h:Q u s)(hd:(x==("__debug__":Str))=false:=by decide):wpAny (model X.prog X.w) X.A (eval (.Name x pos) X.env) Q E s :=
 Calls.Name_function_global I.ok.kind hg (Calls.loadGlobal_global (by rw [I.ok.glob];exact I.mod.glob.keeps I.bk) hm h) hd
theorem CU (I:Inv X pins σ H s)(hg:Gl X x)(hm:X.mg x=none)(hv:bootBuiltins x=some u)(h:Q u s)(hn:x≠"__name__":=by decide)(hd:(x==("__debug__":Str))=false:=by decide):wpAny (model X.prog X.w) X.A (eval (.Name x pos) X.env) Q E s:=by
 obtain ⟨mb,h1,h2⟩:=I.mod.blt;exact Calls.Name_function_global I.ok.kind hg (Calls.loadGlobal_builtin (by rw [I.ok.glob];exact I.mod.glob.keeps I.bk) hm (by rw [I.ok.blt];exact h1.keeps I.bk) ((h2 x hn).trans hv) h) hd
theorem JH (hg:Gl X x)(hm:X.mg x=some u)(r:RelV v u)(hd:(x==("__debug__":Str))=false:=by decide):PE X (.Name x pos) (tC v) :=
 λ_ _ _ H _ I h=>JG I hg hm ⟨v,H,I,r,h⟩ hd
theorem Va (hg:Gl X x)(hm:X.mg x=none)(hv:bootBuiltins x=some u)(r:RelV v u)(hn:x≠"__name__":=by decide)(hd:(x==("__debug__":Str))=false:=by decide):PE X (.Name x pos) (tC v) :=
 λ_ _ _ H _ I h=>CU I hg hm hv ⟨v,H,I,r,h⟩ hn hd
variable {a b:Expr}{ta tb:TE}{pos:Pos}
noncomputable def PC (X:Cx)(op:CmpOp)(a b:Expr)(t:TE):Prop :=
 ∀ (pins:List (Addr × Obj)) (s:Shared) (σ:St) (H:Hp) (Q:VK),Inv X pins σ H s->t σ H Q ->
  wpAny (model X.prog X.w) X.A (eval a X.env) (λv s₁=>wpAny (model X.prog X.w) X.A (eval b X.env) (λu s₂=>wpAny (model X.prog X.w) X.A (compareOp op v u) (EP X pins σ Q) X.xe s₂) X.xe s₁) X.xe s
theorem Rx (b:Expr)(h:op≠.In)(h2:op≠.NotIn):behindInMarks op b=false:=by
 have e1:(op==CmpOp.In)=false:=by cases op <;> first | rfl | exact absurd rfl h
 have e2:(op==CmpOp.NotIn)=false:=by cases op <;> first | rfl | exact absurd rfl h2
 cases b <;> simp [behindInMarks,e1,e2]
noncomputable def tB (t:TE):TT:=fun σ H Q=>t σ H λx H1=>∃ c,x=.bl c/\Q c H1
theorem Ry (h:PC X op a b t)(h1:behindInMarks op b=false:=by exfalso):PT X (.Compare a [op] [b] pos) (tB t):=by
 intro pins s σ H Q I hw;refine wpAny_isTrue_Compare1 (Bc (h pins s σ H _ I hw) λv s1 h1=>Bc h1 λu s2 h2=>Bc h2 λc s3 AR=>?_) h1;obtain ⟨x,H1,I1,r1,q1⟩:=AR;obtain ⟨d,rfl,q⟩:=q1;cases r1;exact Mo ⟨H1,I1,q⟩
theorem Z4 (h:PE X e t)(he:∀ whole,isTrue e X.env whole=(do let v <- whole;standAt e.pos;holding [v] (truthy v)):=by intro _;rfl):PT X e (tB t):=by
 intro pins s σ H Q I hw;refine isTrue_plain (Bc (h pins s σ H _ I hw) λv s1 AR=>?_) (he _);obtain ⟨x,H1,I1,r1,q1⟩:=AR;obtain ⟨d,rfl,q⟩:=q1;cases r1;exact Mo ⟨H1,I1,q⟩
variable {tA Vb:TT}{rest:List Expr}
noncomputable def Z5 (t u:TT):TT:=fun σ H Q=>t σ H λc H1=>if c=true then u σ H1 Q else Q false H1
noncomputable def rX (t u:TT):TT:=fun σ H Q=>t σ H λc H1=>if c=true then Q true H1 else u σ H1 Q
noncomputable def Z6 (t:TT):TT:=fun σ H Q=>t σ H λc H1=>Q (!c) H1
theorem Vc (ha:PT X a tA):PW X (.BoolOp .And [a] pos) tA:=by
 intro wh pins s σ H Q I h;refine isTrue_and (Bc (ha pins s σ H Q I h) λc s1 e=>?_);cases c with
 | true=>exact isTrue_and_nil e
 | false=>exact e
theorem Z7 (ha:PT X a tA):PW X (.BoolOp .Or [a] pos) tA:=by
 intro wh pins s σ H Q I h;refine isTrue_or (Bc (ha pins s σ H Q I h) λc s1 e=>?_);cases c with
 | false=>exact isTrue_or_nil e
 | true=>exact e
theorem Z8 (ha:PT X a tA)(hb:PW X (.BoolOp .And (b::rest) pos) Vb):PW X (.BoolOp .And (a::b::rest) pos) (Z5 tA Vb):=by
 intro wh pins s σ H Q I h;refine isTrue_and (Bc (ha pins s σ H _ I h) λc s1 AR=>?_);obtain ⟨H1,I1,q1⟩:=AR;cases c with
 | true=>exact hb wh pins s1 σ H1 Q I1 q1
 | false=>exact ⟨H1,I1,q1⟩
theorem iZ (ha:PT X a tA)(hb:PW X (.BoolOp .Or (b::rest) pos) Vb):PW X (.BoolOp .Or (a::b::rest) pos) (rX tA Vb):=by
 intro wh pins s σ H Q I h;refine isTrue_or (Bc (ha pins s σ H _ I h) λc s1 AR=>?_);obtain ⟨H1,I1,q1⟩:=AR;cases c with
 | true=>exact ⟨H1,I1,q1⟩
 | false=>exact hb wh pins s1 σ H1 Q I1 q1
theorem Z9 (ha:PT X a tA):PT X (.UnaryOp .Not a pos) (Z6 tA):=by
 intro pins s σ H Q I h;exact isTrue_not (ha pins s σ H (λc H1=>Q (!c) H1) I h)
noncomputable def Rz (ta tb:TE):TE:=fun σ H Q=>ta σ H λx H1=>∃ c,x=.bl c/\if c=true then tb σ H1 Q else Q (.bl false) H1
noncomputable def Y2 (ta:TE):TE:=fun σ H Q=>ta σ H λx H1=>∃ c,x=.bl c/\Q (.bl (!c)) H1
theorem Za {op}(h:PE X a t):PE X (.BoolOp op [a] pos) t:=λpins s σ H Q I hw=>BoolOp_one (h pins s σ H Q I hw)
theorem Zb (ha:PE X a ta)(hb:PE X (.BoolOp .And (b::rest) pos) tb):PE X (.BoolOp .And (a::b::rest) pos) (Rz ta tb):=by
 intro pins s σ H Q I h;refine BoolOp_and (Bc (ha pins s σ H _ I h) λv s1 AR=>?_);obtain ⟨x,H1,I1,r1,q1⟩:=AR;obtain ⟨c,rfl,q1⟩:=q1;cases r1;refine Mo ?_;cases c with
 | true=>exact hb pins s1 σ H1 Q I1 q1
 | false=>exact ⟨.bl false,H1,I1,rfl,q1⟩
theorem Zc (ha:PE X a ta):PE X (.UnaryOp .Not a pos) (Y2 ta):=by
 intro pins s σ H Q I h;refine UnaryOp_ (Bc (ha pins s σ H _ I h) λv s1 AR=>?_);obtain ⟨x,H1,I1,r1,q1⟩:=AR;obtain ⟨c,rfl,q1⟩:=q1;cases r1;exact not_of (Mo ⟨.bl (!c),H1,I1,rfl,q1⟩)
noncomputable def rY (t:TT)(ta tb:TE):TE:=fun σ H Q=>t σ H λc H1=>if c=true then ta σ H1 Q else tb σ H1 Q
theorem RA (hc:PT X c tA)(ha:PE X a ta)(hb:PE X b tb):PE X (.IfExp c a b pos) (rY tA ta tb):=by
 intro pins s σ H Q I h;refine wpAny_IfExp (Bc (hc pins s σ H _ I h) λd s1 AR=>?_);obtain ⟨H1,I1,q1⟩:=AR;cases d with
 | true=>exact ha pins s1 σ H1 Q I1 q1
 | false=>exact hb pins s1 σ H1 Q I1 q1
end
noncomputable def AI (K:W.Frag)(H:Hp)(a:Addr)(xs:List V):Prop :=
 Rd H a (.lst xs) \/
  ∃ (o:Obj) (its:Array Value) (n:Nat),K.lookup a=some o/\o.cls=.type "list"/\o.dict=none/\o.data=.seq its n/\its.size<=sizeLine/\Vals xs its.toList
noncomputable def BL (K:W.Frag)(H:Hp)(a:Addr)(xs:List V):Prop :=
 Rd H a (.tup xs) \/
  ∃ (o:Obj) (its:Array Value) (n:Nat),K.lookup a=some o/\o.cls=.type "tuple"/\o.data=.seq its n/\its.size<=sizeLine/\Vals xs its.toList
noncomputable def rZ:Value->Option V
 | .none=>some .non
 | .bool b=>some (.bl b)
 | .int i _=>some (.int i)
 | .str x _=>some (.str x)
 | .bytes b _=>some (.byt b)
 | .float b _=>some (.flt b)
 | .ref a=>some (.ref a)
 | .type n=>some (.ty n)
 | _=>none
theorem RelV.abs (r:RelV x u):rZ u=some x:=by
 cases x with
 | non=>cases r;rfl
 | bl _=>cases r;rfl
 | int _=>obtain ⟨t,rfl⟩:=r;rfl
 | str _=>obtain ⟨t,rfl⟩:=r;rfl
 | byt _=>obtain ⟨t,rfl⟩:=r;rfl
 | flt _=>obtain ⟨t,rfl⟩:=r;rfl
 | ref _=>cases r;rfl
 | ty _=>cases r;rfl
theorem RelV.inj (r:RelV x u)(q:RelV y u):x=y:=ss (r.abs.symm.trans q.abs)
theorem Vals.inj:∀ {xs ys:List V} {us:List Value},Vals xs us->Vals ys us->xs=ys:=by
 intro xs ys us h
 revert ys
 induction h with
 | nil=>intro ys k;cases k;rfl
 | cons r _ ih =>
  intro ys k;cases k with
  | cons r' t'=>rw [r.inj r',ih t']
section
variable {X:Cx}{pins:List (Addr × Obj)}{σ:St}{H:Hp}{s:Shared}{a:Addr}{xs ys:List V}
theorem AI.of {K:W.Frag}(h:H a=some (.lst xs)):AI K H a xs:=.inl (.inl h)
theorem BL.of {K:W.Frag}(h:H a=some (.tup xs)):BL K H a xs:=.inl (.inl h)
theorem Inv.list (I:Inv X pins σ H s)(h:AI X.K H a xs):∃ its:List Value,Vals xs its/\PlainL s.heap a its.toArray/\xs.length<=sizeLine:=by
 rcases h with h | ⟨o,its,n,hk,hc,hd,hs,hz,r⟩
 ·obtain ⟨z,its,n,r,e⟩:=h.ok I.hok;exact ⟨its,r,⟨_,n,e,rfl,rfl,rfl⟩,z⟩
 ·refine ⟨its.toList,r,⟨o,n,I.kIn a o hk,hc,hd,by simpa using hs⟩,?_⟩;have e:=r.length;simp only [Array.length_toList] at e;omega
theorem Inv.tuple (I:Inv X pins σ H s)(h:BL X.K H a xs):∃ its:List Value,Vals xs its/\IsTup s.heap a its.toArray/\xs.length<=sizeLine:=by
 rcases h with h | ⟨o,its,n,hk,hc,hs,hz,r⟩
 ·obtain ⟨z,its,r,p⟩:=h.ok I.hok;exact ⟨its,r,p,z⟩
 ·refine ⟨its.toList,r,⟨o,I.kIn a o hk,hc,n,by simpa using hs⟩,?_⟩;have e:=r.length;simp only [Array.length_toList] at e;omega
theorem Inv.aaw (I:Inv X pins σ H s)(h:AI X.K H a xs)(h':AI X.K H a ys):xs=ys:=by
 obtain ⟨its,r,⟨o,n,e,_,_,d⟩,_⟩:=I.list h;obtain ⟨its',r',⟨o',n',e',_,_,d'⟩,_⟩:=I.list h';rw [e] at e';cases e';rw [d] at d';injection d' with d1 _;have:its=its':=by simpa using congrArg Array.toList d1
 subst this;exact r.inj r'
theorem Inv.aa4 (I:Inv X pins σ H s)(h:BL X.K H a xs)(h':BL X.K H a ys):xs=ys:=by
 obtain ⟨its,r,⟨o,e,_,n,d⟩,_⟩:=I.tuple h;obtain ⟨its',r',⟨o',e',_,n',d'⟩,_⟩:=I.tuple h';rw [e] at e';cases e';rw [d] at d';injection d' with d1 _;have:its=its':=by simpa using congrArg Array.toList d1
 subst this;exact r.inj r'
end
abbrev Cx.aa6 (X:Cx)(E:Value->Shared->Prop):Cx:={ X with xe:=E }
abbrev Cx.nox (X:Cx):Cx:=X.aa6 λ_ _=>False
theorem Cx.Ok.aa6 {X:Cx}(ok:X.Ok)(E:Value->Shared->Prop):(X.aa6 E).Ok :=
 ⟨ok.mod,ok.kind,ok.glob,ok.blt,ok.above,ok.inj,ok.has,ok.cab,ok.hd,ok.frames,ok.stk,ok.exf,ok.bs,ok.bsz,ok.abk,ok.abp,ok.aa1,ok.frf⟩
theorem Cx.Ok.aal {X:Cx}{E:Value->Shared->Prop}(ok:(X.aa6 E).Ok):X.Ok :=
 ⟨ok.mod,ok.kind,ok.glob,ok.blt,ok.above,ok.inj,ok.has,ok.cab,ok.hd,ok.frames,ok.stk,ok.exf,ok.bs,ok.bsz,ok.abk,ok.abp,ok.aa1,ok.frf⟩
section
variable {X:Cx}{pins:List (Addr × Obj)}{σ:St}{H:Hp}{s:Shared}{E:Value->Shared->Prop}
theorem Inv.aa6 (I:Inv X pins σ H s)(E:Value->Shared->Prop):Inv (X.aa6 E) pins σ H s:=⟨I.ok.aa6 E,I.os,I.bare,I.base,I.loc,I.cell,I.free,I.aah,I.pin,I.hok,I.len⟩
theorem Inv.aal (I:Inv (X.aa6 E) pins σ H s):Inv X pins σ H s:=⟨I.ok.aal,I.os,I.bare,I.base,I.loc,I.cell,I.free,I.aah,I.pin,I.hok,I.len⟩
theorem SP.aal (h:SP (X.aa6 E) pins D f s'):SP X pins D f s':=by
 cases f with
 | next=>obtain ⟨σ',H',I,q⟩:=h;exact ⟨σ',H',I.aal,q⟩
 | brk=>obtain ⟨σ',H',I,q⟩:=h;exact ⟨σ',H',I.aal,q⟩
 | cont=>obtain ⟨σ',H',I,q⟩:=h;exact ⟨σ',H',I.aal,q⟩
 | ret u=>obtain ⟨v,σ',H',I,r,q⟩:=h;exact ⟨v,σ',H',I.aal,r,q⟩
theorem Oa.nox {st:List Stmt}{t:TS}(h:Oa X.nox st t):Oa X st t:=λpins s σ H D I hw =>
 OH (h pins s σ H D (I.aa6 _) hw) (λ_ _ q=>q.aal) λ_ _ z=>False.elim z
end
section
variable {X:Cx}{st:Stmt}{rest:List Stmt}{t u:TS}{e:Expr}{te:TE}{pos:Pos}
noncomputable def RB:TS:=λD σ H=>D.nx σ H
noncomputable def C8 (t u:TS):TS:=λD σ H=>t { D with nx:=u D } σ H
theorem Ob:Oa X [] RB:=λ_ _ σ H _ I h=>wpAny_execs_nil ⟨σ,H,I,h⟩
theorem FE (h1:PS X st t)(h2:Oa X rest u):Oa X (st::rest) (C8 t u):=by
 intro pins s σ H D I h;refine wpAny_execs_cons (Bc (h1 pins s σ H { D with nx:=u D } I h) λf s1 q=>?_);cases f with
 | next =>
  obtain ⟨σ',H',I',q⟩:=q;exact h2 pins s1 σ' H' D I' q
 | ret v=>exact q
 | brk=>exact q
 | cont=>exact q
theorem GZ (h1:PS X st t):Oa X [st] t:=by
 intro pins s σ H D I h;refine wpAny_execs_cons (Bc (h1 pins s σ H D I h) λf s1 q=>?_);cases f with
 | next=>exact wpAny_execs_nil q
 | ret v=>exact q
 | brk=>exact q
 | cont=>exact q
noncomputable def Y3:TS:=λD σ H=>D.ct σ H
theorem KY:PS X (.Continue pos) Y3:=λ_ _ σ H _ I h=>wpAny_Continue ⟨σ,H,I,h⟩
theorem Inv.quiet (I:Inv X pins σ H s):interactive X.env=false:=by simp [interactive,I.ok.kind]
noncomputable def Oc (te:TE):TS:=λD σ H=>te σ H λ_ H1=>D.nx σ H1
theorem Vd (he:PE X e te)(hs:swapsWith e none pos.line X.env=pure false:=by rfl):PS X (.Expr e pos) (Oc te):=by
 intro pins s σ H D I h;exact wpAny_Expr_any (Bc (he pins s σ H _ I h) λv s1 ⟨x,H1,I1,r1,q1⟩=>⟨σ,H1,I1,q1⟩) I.quiet hs
noncomputable def RC (te:TE):TS:=λD σ H=>te σ H D.rt
theorem JI (he:PE X e te):PS X (.Return (some e) pos) (RC te):=by
 intro pins s σ H D I h;exact wpAny_Return_some (Bc (he pins s σ H _ I h) λv s1 ⟨x,H1,I1,r1,q1⟩=>⟨x,σ,H1,I1,r1,q1⟩)
noncomputable def RD (c:TT)(t u:TS):TS:=λD σ H=>c σ H λb H1=>if b=true then t D σ H1 else u D σ H1
theorem Y4 (hc:PT X c tc)(ha:Oa X a t)(hb:Oa X b u):PS X (.If c a b pos) (RD tc t u):=by
 intro pins s σ H D I h;refine wpAny_If (Bc (hc pins s σ H _ I h) λd s1 AR=>?_);obtain ⟨H1,I1,q1⟩:=AR;cases d with
 | true=>exact ha pins s1 σ H1 D I1 q1
 | false=>exact hb pins s1 σ H1 D I1 q1
end
abbrev TG:=V->St->Hp->(St->Hp->Prop)->Prop
abbrev US:=List V->St->Hp->(St->Hp->Prop)->Prop
noncomputable def PG (X:Cx)(target:Expr)(t:TG):Prop :=
 ∀ (pins:List (Addr × Obj)) (s:Shared) (σ:St) (H:Hp) (v:V) (u:Value) (Q:St->Hp->Prop),Inv X pins σ H s->RelV v u->t v σ H Q ->
  wpAny (model X.prog X.w) X.A (assign target X.env u) (λ_ s'=>∃ σ' H',Inv X pins σ' H' s'/\Q σ' H') X.xe s
noncomputable def j4 (X:Cx)(ts:List Expr)(t:US):Prop :=
 ∀ (pins:List (Addr × Obj)) (s:Shared) (σ:St) (H:Hp) (vs:List V) (us:List Value) (Q:St->Hp->Prop),Inv X pins σ H s->Vals vs us->t vs σ H Q ->
  wpAny (model X.prog X.w) X.A (assignInOrder ((assignEach ts X.env).map (·.2)) us) (λ_ s'=>∃ σ' H',Inv X pins σ' H' s'/\Q σ' H') X.xe s
abbrev Ve:=V->V->V->Hp->(Hp->Prop)->Prop
noncomputable def Zd (X:Cx)(t:Ve):Prop :=
 ∀ (pins:List (Addr × Obj)) (s:Shared) (σ:St) (H:Hp) (o i v:V) (ov iv u:Value) (Q:Hp->Prop),Inv X pins σ H s->RelV o ov->RelV i iv->RelV v u->t o i v H Q ->
  wpAny (model X.prog X.w) X.A (setItem ov iv u) (λ_ s'=>∃ H',Inv X pins σ H' s'/\Q H') X.xe s
section
variable {X:Cx}{pos:Pos}
noncomputable def Cn (i:Nat):TG:=λv σ H Q=>Q (σ.set i (some v)) H
theorem Vf (hN:X.N.Nodup)(hi:X.N[i]?=some x)(hx:Loc X.env.scope x)(hf:X.fn x=true\/X.env.scope.names.lookup x=some .local:=by exfalso):PG X (.Name x pos) (Cn i):=by
 intro pins s σ H v u Q I r h;exact wpAny_assign_Name (Ht I hN hi hx r (λs' I'=>⟨_,H,I',h⟩) hf)
noncomputable def RE:US:=λvs σ H Q=>vs=[]/\Q σ H
noncomputable def GA (t:TG)(u:US):US:=λvs σ H Q=>∃ v r,vs=v::r/\t v σ H fun σ' H'=>u r σ' H' Q
theorem Vg:j4 X [] RE:=by
 intro pins s σ H vs us Q I r h;obtain ⟨e,h⟩:=h;subst e;cases r;exact assignInOrder_nil ⟨σ,H,I,h⟩
theorem RF (h1:PG X e t)(h2:j4 X es u)(hs:(assignEach (e::es) X.env).map (·.2)=assign e X.env::(assignEach es X.env).map (·.2):=by rfl):j4 X (e::es) (GA t u):=by
 intro pins s σ H vs us Q I r h;obtain ⟨v,vr,e1,h⟩:=h;subst e1;cases r with
 | cons r rr =>
  rw [hs];refine assignInOrder_cons (Bc (h1 pins s σ H _ _ _ I r h) λ_ s1 AR=>?_);obtain ⟨σ1,H1,I1,q1⟩:=AR;exact h2 pins s1 σ1 H1 _ _ Q I1 rr q1
noncomputable def RG (K:W.Frag)(n:Nat)(t:US):TG:=λv σ H Q=>∃ a xs,v=.ref a/\BL K H a xs/\xs.length=n/\t xs σ H Q
theorem Ze (hc:X.calm=true)(h:j4 X es t)(hn:(assignEach es X.env).length=n:=by rfl)(JJ:(assignEach es X.env).findIdx? (·.1)=none:=by rfl):PG X (.Tuple es k pos) (RG X.K n t):=by
 intro pins s σ H v u Q I r hw;obtain ⟨a,xs,e1,hq,hl,hw⟩:=hw;subst e1;cases r;obtain ⟨its,rv,ht,hz⟩:=I.tuple hq;refine assign_Tuple_tuple (I.ok.hd hc) ht (by simp [hn,<- hl,rv.length]) JJ λh' hx=>?_;have I1:Inv X pins σ H { s with heap:=h' }:=I.kept (t':=s.toks) λb o e=>hx b o (dL (ii e)) e;exact h pins _ σ H xs _ Q I1 (by simpa using rv) hw
noncomputable def j6 (to ti:TE)(t:Ve):TG:=λv σ H Q=>to σ H λo H1=>ti σ H1 λi H2=>t o i v H2 λH3=>Q σ H3
theorem Zf (ho:PE X o to)(hi:PE X i ti)(hs:Zd X t)(ha:∀ v,assign (.Subscript o i pos) X.env v=(do
   let ov <- holding [v] (eval o X.env)
   let iv <- holding [v,ov] (eval i X.env)
   standAt pos
   holding [v,ov,iv] (setItem ov iv v)
   release [v,ov,iv] []):=by intro _;rfl):PG X (.Subscript o i pos) (j6 to ti t):=by
 intro pins s σ H v u Q I r h;rw [ha];refine aa (Go (Bc (ho pins s σ H _ I h) λov s1 AR=>?_));obtain ⟨x,H1,I1,r1,q1⟩:=AR;refine aa (Go (Bc (hi pins s1 σ H1 _ I1 q1) λiv s2 AR=>?_));obtain ⟨y,H2,I2,r2,q2⟩:=AR;refine aa (wpAny_standAt (aa (Go (Bc (hs pins s2 σ H2 x y v ov iv u _ I2 r1 r2 r q2) λ_ s3 AR=>?_))));obtain ⟨H3,I3,q3⟩:=AR;exact wpAny_release ⟨σ,H3,I3,q3⟩
noncomputable def PQ (te:TE)(g:TG):TS:=λD σ H=>te σ H λx H1=>g x σ H1 D.nx
theorem Zg (he:PE X e te)(hg:PG X tg g)(hs:swapsWithSole [tg] e pos.line X.env=pure false:=by rfl)(hw:swappedStores [tg] e X.env=pure none:=by rfl)(h1:(assignEach [tg] X.env).map (·.2)=[assign tg X.env]:=by rfl):PS X (.Assign [tg] e pos) (PQ te g):=by
 intro pins s σ H D I h;refine wpAny_Assign_stores (Bc (he pins s σ H _ I h) λv s1 AR=>?_) hs hw;obtain ⟨x,H1,I1,r1,q1⟩:=AR;rw [h1];exact Bc (hg pins s1 σ H1 x v _ I1 r1 q1) λ_ s2 q=>q
theorem MH (hN:X.N.Nodup)(hi:X.N[i]?=some x)(hx:Loc X.env.scope x)(he:PE X e te)(hs:swapsWith e (some (.Name x pos')) pos.line X.env=pure false:=by rfl)(hf:X.fn x=true\/X.env.scope.names.lookup x=some .local:=by exfalso):
  PS X (.Assign [.Name x pos'] e pos) (PQ te (Cn i)):=by
 intro pins s σ H D I h;refine wpAny_Assign_Name (Bc (he pins s σ H _ I h) λv s1 AR=>?_) hs;obtain ⟨y,H1,I1,r1,q1⟩:=AR;exact Ht I1 hN hi hx r1 (λs2 I2=>⟨_,H1,I2,q1⟩) hf
noncomputable def RH (c:TT)(tb:TS):TS:=λD σ H=>∃ W:Nat->St->Hp->Prop,(∃ m,W m σ H)/\∀ m σ H,W m σ H ->
 c σ H λb H1=>if b=true then ∃ N:St->Hp->Prop,(∀ σ' H',N σ' H'->∃ m',m' < m/\W m' σ' H')/\tb { D with nx:=N,ct:=N,bk:=D.nx } σ H1 else D.nx σ H1
theorem RI (hp:PassesOwn (model X.prog X.w) X.A X.env X.xe)(hc:PT X c tc)(hb:Oa X body tb):PS X (.While c body [] pos) (RH tc tb):=by
 intro pins s σ H D I h;obtain ⟨W,⟨m0,w0⟩,turn⟩:=h;refine wpAny_While (codeAny_whileLoop (λn s'=>∃ σ' H',Inv X pins σ' H' s'/\W n σ' H') ?_ m0 ⟨σ,H,I,w0⟩);rintro n s1 ⟨σ1,H1,I1,w1⟩;refine TW hp (Bc (hc pins s1 σ1 H1 _ I1 (turn n σ1 H1 w1)) λb s2 AR=>?_);obtain ⟨H2,I2,q2⟩:=AR;cases b with
 | true =>
  obtain ⟨N,hN,q2⟩:=q2;rw [if_pos rfl];refine TW hp (Bc (hb pins s2 σ1 H2 _ I2 q2) λf s3 q3=>?_);cases f with
  | next =>
   obtain ⟨σ3,H3,I3,n3⟩:=q3;obtain ⟨m',hm,w3⟩:=hN σ3 H3 n3;exact ⟨m',hm,σ3,H3,I3,w3⟩
  | cont =>
   obtain ⟨σ3,H3,I3,n3⟩:=q3;obtain ⟨m',hm,w3⟩:=hN σ3 H3 n3;exact ⟨m',hm,σ3,H3,I3,w3⟩
  | brk=>exact q3
  | ret v=>exact q3
 | false =>
  rw [if_neg lc];exact wpAny_execs_nil ⟨σ1,H2,I2,q2⟩
end
structure It where
 go:Nat->Hp->Prop
 yld:Nat->Hp->V->Hp->Prop
 stop:Nat->Hp->Prop
noncomputable def GO (X:Cx)(pins:List (Addr × Obj))(H:Hp)(b:Addr):Prop :=
 H b=none/\b≠X.env.locals/\b∉X.fs/\(b∈X.ex\/X.s₀.heap.objs.size<=b)/\(∀ x c,X.env.cells.lookup x=some c->c≠b)/\∀ p∈X.pn++pins,p.1≠b
theorem Inv.aa7 (I:Inv X pins σ H s)(hb:s.heap.objs.size<=b)(hn:H' b=none):GO X pins H' b:=by
 refine ⟨hn,Nat.ne_of_gt (kt I.lt hb),I.abz hb,.inr (ce I.sz hb),λx c e z=>?_,λp hp z=>?_⟩
 ·obtain ⟨v,q⟩:=I.cell x c e;exact absurd (kt q.lt (by rw [z];exact hb)) (Sa _)
 ·exact absurd (kt (ii (I.pin p hp).1) (by rw [z];exact hb)) (Sa _)
structure Turn (P:Program)(w:World)(K:W.Frag)(tg:Expr)(J:It)(fp:List Addr)(it:Addr)(tn:Nat->Heap->Prop):Prop where
 mem:it∈fp
 obj:∀ i h,tn i h->∀ b∈fp,∃ o,h.get? b=some o/\∀ v,o.data≠.cell v
 keep:∀ i h h',tn i h->(∀ b∈fp,∀ o,h.get? b=some o->h'.get? b=some o)->tn i h'
 item:∀ (X:Cx),X.prog=P->X.w=w->X.K=K->X.calm=true->∀ (i:Nat) (pins:List (Addr × Obj)) (s:Shared) (σ:St) (H:Hp) (E:Value->Shared->Prop),Inv X pins σ H s->(∀ b∈fp,GO X pins H b)->tn i s.heap->J.go i H ->
  wpAny (model P w) X.A (pyNext (.ref it)) (λr s1=>∃ u,r=some u /\
   wpAny (model P w) X.A (letOwnedTupleGo tg (.ref it) u) (λ_ s2=>∃ x H',Inv X pins σ H' s2/\RelV x u/\J.yld i H x H'/\tn (i+1) s2.heap/\∀ b∈fp,H' b=none) E s1) E s
 done:∀ (X:Cx),X.prog=P->X.w=w->X.K=K->X.calm=true->∀ (i:Nat) (pins:List (Addr × Obj)) (s:Shared) (σ:St) (H:Hp) (E:Value->Shared->Prop),Inv X pins σ H s->(∀ b∈fp,GO X pins H b)->tn i s.heap->J.stop i H ->
  wpAny (model P w) X.A (pyNext (.ref it)) (λr s1=>r=none/\Inv X pins σ H s1) E s
 self:∀ (A:Around) (i:Nat) (s:Shared) (Q:Value->Shared->Prop) (E:Value->Shared->Prop),tn i s.heap->Q (.ref it) s->wpAny (model P w) A (pyIter (.ref it)) Q E s
abbrev TI:=St->Hp->(It->Hp->Prop)->Prop
noncomputable def PIE (X:Cx)(pins:List (Addr × Obj))(σ:St)(tg:Expr)(R:It->Hp->Prop)(pI:Value)(s2:Shared):Prop :=
 ∃ (it:Addr) (fp:List Addr) (tn:Nat->Heap->Prop) (J:It) (H':Hp),pI=.ref it/\Inv X pins σ H' s2/\Turn X.prog X.w X.K tg J fp it tn/\tn 0 s2.heap/\(∀ b∈fp,GO X pins H' b)/\R J H'
noncomputable def PI (X:Cx)(tg iter:Expr)(wi:TI):Prop :=
 ∀ (pins:List (Addr × Obj)) (s:Shared) (σ:St) (H:Hp) (R:It->Hp->Prop),Inv X pins σ H s->wi σ H R ->
  wpAny (model X.prog X.w) X.A (eval iter X.env) (λv s1=>wpAny (model X.prog X.w) X.A (pyIter v) (PIE X pins σ tg R) X.xe s1) X.xe s
theorem Od (ho:s.heap.get? it=some o)(hc:o.cls=.type n)(hd:o.data=.fields vs)(hn:["enumerate","zip","dict_itemiterator","dict_reverseitemiterator","odict_iterator","itertools.zip_longest","itertools.pairwise"].contains n=false)(hQ:Q .unit s):wpAny M A (letOwnedTupleGo tg (.ref it) u) Q E s:=by
  unfold letOwnedTupleGo;cases tg <;> first
    | exact bv hQ
    | (cases u <;> first
        | exact bv hQ
        | (refine aa (wpAny_load ho ?_)
           rw [hc,hd];show wpAny M A (if (["enumerate","zip","dict_itemiterator","dict_reverseitemiterator","odict_iterator","itertools.zip_longest","itertools.pairwise"].contains n && vs[0]?==some (rawInt _))=true then _ else _) Q E s
           rw [if_neg (by intro h;rw [hn,Bool.false_and] at h;cases h)];exact bv hQ))
noncomputable def Rj (K:W.Frag)(a:Addr):It :=
 ⟨λi H=>∃ xs x,AI K H a xs/\xs[i]?=some x,λi H x H'=>H'=H/\∀ xs,AI K H a xs->xs[i]?=some x,λi H=>∃ xs,AI K H a xs/\xs.length<=i⟩
noncomputable def Y5 (K:W.Frag)(a:Addr):It :=
 ⟨λi H=>∃ xs x,BL K H a xs/\xs[i]?=some x,λi H x H'=>H'=H/\∀ xs,BL K H a xs->xs[i]?=some x,λi H=>∃ xs,BL K H a xs/\xs.length<=i⟩
noncomputable def Y6 (lo:Int)(n:Nat):It:=⟨λi _=>i < n,λi H x H'=>H'=H/\x=.int (lo+i),λi _=>n<=i⟩
theorem PR {P:Program}{w:World}{K:W.Frag}{tg:Expr}(a it:Addr):Turn P w K tg (Rj K a) [it] it (λi h=>h.IsListIter it a i) where
 mem:=by simp
 obj:=λi h st b hb=>by
  have e:b=it:=by simpa using hb
  subst e;obtain ⟨o,e,c,d⟩:=st;exact ⟨o,e,λv z=>by rw [d] at z;cases z⟩
 keep:=λi h h' st k=>st.at λo e=>k it (by simp) o e
 item:=by
  intro X hP hw hK hc i pins s σ H E I hf st hg;subst hP hw hK;obtain ⟨xs,x,hq,hx⟩:=hg;obtain ⟨its,rv,p,hz⟩:=I.list hq;obtain ⟨u,hu,ru⟩:=rv.get hx;obtain ⟨f0,f1,f2,f3,f4,f5⟩:=hf it (by simp);refine wpAny_pyNext_list_item st p.isList (x:=u) (by simpa using hu) λh' G5 sb=>?_;have I1:Inv X pins σ H { s with heap:=h' }:=I.turned (t':=s.toks) (λb o hb e=>(sb.2 b hb).trans e) f0 f1 f3 f4 f5;obtain ⟨o,e,c,d⟩:=id G5;exact ⟨u,rfl,Od (s:={ s with heap:=h' }) e c d ⟨⟩ ⟨x,H,I1,ru,⟨rfl,λys hy=>by rw [I.aaw hy hq];exact hx⟩,G5,λb hb=>(hf b hb).1⟩⟩
 done:=by
  intro X hP hw hK hc i pins s σ H E I hf st hg;subst hP hw hK;obtain ⟨xs,hq,hx⟩:=hg;obtain ⟨its,rv,p,hz⟩:=I.list hq;obtain ⟨f0,f1,f2,f3,f4,f5⟩:=hf it (by simp);have hl:=rv.length;exact wpAny_pyNext_list_end (I.ok.hd hc) st p.isList (by simp;omega) λh' eb=>⟨rfl,I.turned (t':=s.toks) (λb o hb e=>eb b o hb e) f0 f1 f3 f4 f5⟩
 self:=λ_ _ _ _ _ st h=>wpAny_pyIter_listiter st h
theorem MJ {P:Program}{w:World}{K:W.Frag}{tg:Expr}(a it:Addr):Turn P w K tg (Y5 K a) [it] it (λi h=>h.IsTupleIter it a i) where
 mem:=by simp
 obj:=λi h st b hb=>by
  have e:b=it:=by simpa using hb
  subst e;obtain ⟨o,e,c,d⟩:=st;exact ⟨o,e,λv z=>by rw [d] at z;cases z⟩
 keep:=λi h h' st k=>st.at λo e=>k it (by simp) o e
 item:=by
  intro X hP hw hK hc i pins s σ H E I hf st hg;subst hP hw hK;obtain ⟨xs,x,hq,hx⟩:=hg;obtain ⟨its,rv,p,hz⟩:=I.tuple hq;obtain ⟨u,hu,ru⟩:=rv.get hx;obtain ⟨f0,f1,f2,f3,f4,f5⟩:=hf it (by simp);refine wpAny_pyNext_tuple_item st (show s.heap.IsTuple a its.toArray from p) (x:=u) (by simpa using hu) λh' G5 sb=>?_;have I1:Inv X pins σ H { s with heap:=h' }:=I.turned (t':=s.toks) (λb o hb e=>(sb.2 b hb).trans e) f0 f1 f3 f4 f5;obtain ⟨o,e,c,d⟩:=id G5;exact ⟨u,rfl,Od (s:={ s with heap:=h' }) e c d ⟨⟩ ⟨x,H,I1,ru,⟨rfl,λys hy=>by rw [I.aa4 hy hq];exact hx⟩,G5,λb hb=>(hf b hb).1⟩⟩
 done:=by
  intro X hP hw hK hc i pins s σ H E I hf st hg;subst hP hw hK;obtain ⟨xs,hq,hx⟩:=hg;obtain ⟨its,rv,p,hz⟩:=I.tuple hq;obtain ⟨f0,f1,f2,f3,f4,f5⟩:=hf it (by simp);have hl:=rv.length;exact wpAny_pyNext_tuple_end (I.ok.hd hc) st (show s.heap.IsTuple a its.toArray from p) (by simp;omega) λh' eb=>⟨rfl,I.turned (t':=s.toks) (λb o hb e=>eb b o hb e) f0 f1 f3 f4 f5⟩
 self:=λ_ _ _ _ _ st h=>wpAny_pyIter_tupleiter st h
theorem MK {P:Program}{w:World}{K:W.Frag}{tg:Expr}(it:Addr)(lo:Int)(n:Nat):Turn P w K tg (Y6 lo n) [it] it (λi h=>IsRangeIter h it (lo+(i:Nat) * 1) ((n:Int) - (i:Nat)) 1) where
 mem:=by simp
 obj:=λi h st b hb=>by
  have e:b=it:=by simpa using hb
  subst e;exact ⟨_,st,λv z=>by
   have z':Data.fields _=Data.cell v:=z;cases z'⟩
 keep:=λi h h' st k=>k it (by simp) _ st
 item:=by
  intro X hP hw hK hc i pins s σ H E I hf st hg;subst hP hw hK;obtain ⟨f0,f1,f2,f3,f4,f5⟩:=hf it (by simp);have W:=Walks.range (prog:=X.prog) (w:=X.w) (I.ok.hd hc) it lo 1 n;refine W.item i s _ _ hg st λv h' tk hv G5 kk=>?_;obtain ⟨t,rfl⟩:=hv;have I1:Inv X pins σ H { s with heap:=h',toks:=tk }:=I.turned (λb o hb e=>kk b o (by simpa using hb) e) f0 f1 f3 f4 f5;refine ⟨_,rfl,Od (s:={ s with heap:=h',toks:=tk }) (n:="range_iterator") G5 rfl rfl ⟨⟩ ⟨.int (lo+i),H,I1,⟨t,?_⟩,⟨rfl,rfl⟩,G5,λb hb=>(hf b hb).1⟩⟩;rw [Int.mul_one]
 done:=by
  intro X hP hw hK hc i pins s σ H E I hf st hg;subst hP hw hK;obtain ⟨f0,f1,f2,f3,f4,f5⟩:=hf it (by simp);exact wpAny_pyNext_range_end (I.ok.hd hc) st (by have:n<=i:=hg;omega) λh' eb=>⟨rfl,I.turned (t':=s.toks) (λb o hb e=>eb b o hb e) f0 f1 f3 f4 f5⟩
 self:=λ_ _ _ _ _ st h=>wpAny_pyIter_rangeiter st h
section
variable {X:Cx}{tg:Expr}
noncomputable def Oe (K:W.Frag)(tl:TE):TI:=fun σ H R=>tl σ H λx H1=>∃ a,x=.ref a/\(∃ xs,AI K H1 a xs)/\R (Rj K a) H1
noncomputable def Zh (K:W.Frag)(tl:TE):TI:=fun σ H R=>tl σ H λx H1=>∃ a,x=.ref a/\(∃ xs,BL K H1 a xs)/\R (Y5 K a) H1
theorem Vh (hl:PE X l tl):PI X tg l (Oe X.K tl):=by
 intro pins s σ H R I h;refine Bc (hl pins s σ H _ I h) λv s1 AR=>?_;obtain ⟨x,H1,I1,r1,q1⟩:=AR;obtain ⟨a,e,⟨xs,hq⟩,q⟩:=q1;subst e;cases r1;obtain ⟨its,rv,p,hz⟩:=I1.list hq;refine wpAny_pyIter_list p.isList ?_;refine ⟨s1.heap.objs.size,[s1.heap.objs.size],_,_,H1,rfl,I1.kept (t':=s1.toks) λb o e=>ac _ e,PR a _,⟨_,io _ rfl,rfl,rfl⟩,λb hb=>?_,q⟩;have e:b=s1.heap.objs.size:=by simpa using hb
 subst e;exact I1.aa7 (am _) (I1.hok.fresh (am _))
theorem Zi (hl:PE X l tl):PI X tg l (Zh X.K tl):=by
 intro pins s σ H R I h;refine Bc (hl pins s σ H _ I h) λv s1 AR=>?_;obtain ⟨x,H1,I1,r1,q1⟩:=AR;obtain ⟨a,e,⟨xs,hq⟩,q⟩:=q1;subst e;cases r1;obtain ⟨its,rv,p,hz⟩:=I1.tuple hq;refine wpAny_pyIter_tuple (show s1.heap.IsTuple a its.toArray from p) ?_;refine ⟨s1.heap.objs.size,[s1.heap.objs.size],_,_,H1,rfl,I1.kept (t':=s1.toks) λb o e=>ac _ e,MJ a _,⟨_,io _ rfl,rfl,rfl⟩,λb hb=>?_,q⟩;have e:b=s1.heap.objs.size:=by simpa using hb
 subst e;exact I1.aa7 (am _) (I1.hok.fresh (am _))
theorem KZ {pins:List (Addr × Obj)}{σ:St}{H:Hp}{s:Shared}{R:It->Hp->Prop}{E:Value->Shared->Prop}{lo hi:Int}{t u v:Tok}{tk:Nat}(I:Inv X pins σ H s)(h1:-(2 ^ 62)<=lo)(h2:lo < 2 ^ 62)(h3:-(2 ^ 62)<=hi)(h4:hi < 2 ^ 62)
  (q:R (Y6 lo (hi - lo).toNat) H):wpAny (model X.prog X.w) X.A (pyIter (.ref s.heap.objs.size)) (PIE X pins σ tg R) E { s with heap:=s.heap.push { cls:=.type "range",data:=.fields #[.int lo t,.int hi u,.int 1 v] },toks:=tk }:=by
 refine wpAny_pyIter_range (IsRange.new ..) (small_one h1 h2 h3 h4) ?_;have I1:Inv X pins σ H { s with heap:=s.heap.push { cls:=.type "range",data:=.fields #[.int lo t,.int hi u,.int 1 v] },toks:=tk }:=I.kept λb o e=>ac _ e;refine ⟨(s.heap.push { cls:=.type "range",data:=.fields #[.int lo t,.int hi u,.int 1 v] }).objs.size,[(s.heap.push { cls:=.type "range",data:=.fields #[.int lo t,.int hi u,.int 1 v] }).objs.size],_,_,H,rfl,
  I1.kept (t':=tk) λb o e=>ac _ e,MK _ lo (hi - lo).toNat,?_,λb hb=>?_,q⟩
 ·have e1:lo+((0:Nat):Int) * 1=lo:=by simp
  have e2:(((hi - lo).toNat:Nat):Int) - ((0:Nat):Int)=Builtin.Range.rangeSize lo hi 1:=by rw [rangeSize_one];split <;> omega
  show IsRangeIter _ _ (lo+((0:Nat):Int) * 1) ((((hi - lo).toNat:Nat):Int) - ((0:Nat):Int)) 1;rw [e1,e2];exact io _ rfl
 ·have e:b=(s.heap.push { cls:=.type "range",data:=.fields #[.int lo t,.int hi u,.int 1 v] }).objs.size:=by simpa using hb
  subst e;exact I1.aa7 (am _) (I1.hok.fresh (am _))
noncomputable def Y7 (ta:TA):TI:=fun σ H R=>ta σ H λvs H1=>∃ j:Int,vs=[.int j]/\-(2 ^ 62)<=j/\j < 2 ^ 62/\R (Y6 0 j.toNat) H1
noncomputable def Y8 (ta:TA):TI:=fun σ H R=>ta σ H λvs H1=>∃ i j:Int,vs=[.int i,.int j]/\(-(2 ^ 62)<=i/\i < 2 ^ 62/\-(2 ^ 62)<=j/\j < 2 ^ 62)/\R (Y6 i (j - i).toNat) H1
theorem PU (hg:Gl X "range")(hm:X.mg "range"=none)(ha:PA X [a] ta)(hs:starEach [a] X.env=[(false,eval a X.env)]:=by rfl):PI X tg (.Call (.Name "range" p) [a] [] pos) (Y7 ta):=by
 intro pins s σ H R I h;refine Call_ (CU I hg hm boot_range (u8 (Bc (ha pos pins s σ H _ I h) λus s1 AR=>?_) hs rfl));obtain ⟨vs,H1,I1,r1,q1⟩:=AR;obtain ⟨j,e,q1,q2,q⟩:=q1;subst e;cases r1 with
 | cons r rr =>
  cases rr;obtain ⟨t,rfl⟩:=r;exact call_range_1 (KZ I1 () () q1 q2 (by simpa using q))
theorem PV (hg:Gl X "range")(hm:X.mg "range"=none)(ha:PA X [a,b] ta)(hs:starEach [a,b] X.env=[(false,eval a X.env),(false,eval b X.env)]:=by rfl)(RJ:starEach [b] X.env=[(false,eval b X.env)]:=by rfl):
  PI X tg (.Call (.Name "range" p) [a,b] [] pos) (Y8 ta):=by
 intro pins s σ H R I h;refine Call_ (CU I hg hm boot_range (u8 (Bc (ha pos pins s σ H _ I h) λus s1 AR=>?_) (by rw [hs,RJ]) (by rw [RJ];rfl)));obtain ⟨vs,H1,I1,r1,q1⟩:=AR;obtain ⟨i,j,e,⟨q1,q2,q3,q4⟩,q⟩:=q1;subst e;cases r1 with
 | cons r rr =>
  cases rr with
  | cons r' rr =>
   cases rr;obtain ⟨t,rfl⟩:=r;obtain ⟨t',rfl⟩:=r';exact call_range_2 (KZ I1 q1 q2 q3 q4 q)
noncomputable def Vi (wi:TI)(g:TG)(tb:TS):TS:=λD σ H=>wi σ H λJ H1=>∃ W:Nat->Nat->St->Hp->Prop,(∃ m,W 0 m σ H1)/\∀ i m σ H,W i m σ H ->
 (J.stop i H/\D.nx σ H)\/(J.go i H/\∃ N:St->Hp->Prop,(∀ σ' H',N σ' H'->∃ m',m' < m/\W (i+1) m' σ' H')/\∀ x H',J.yld i H x H'->g x σ H' fun σ2 H2=>tb { D with nx:=N,ct:=N,bk:=D.nx } σ2 H2)
noncomputable def Hu (fp:List Addr)(h:Heap):List (Addr × Obj):=fp.filterMap λb=>(h.get? b).map λo=>(b,o)
theorem DX (hb:b∈fp)(e:h.get? b=some o):(b,o)∈Hu fp h:=List.mem_filterMap.mpr ⟨b,hb,by rw [e];rfl⟩
theorem PX (hp:p∈Hu fp h):p.1∈fp/\h.get? p.1=some p.2:=by
 obtain ⟨b,hb,e⟩:=List.mem_filterMap.mp hp;cases q:h.get? b with
 | none=>rw [q] at e;cases e
 | some o =>
  rw [q] at e;have e':(b,o)=p:=ss e;subst e';exact ⟨hb,q⟩
theorem Inv.pinned (I:Inv X pins σ H s)(hf:∀ b∈fp,GO X pins H b)(ho:∀ b∈fp,∃ o,s.heap.get? b=some o/\∀ v,o.data≠.cell v):Inv X (pins++Hu fp s.heap) σ H s :=
 I.aap λp hp=>(bn.mp hp).elim (λz=>I.pin p (ir _ z)) λz=>by
  obtain ⟨hb,e⟩:=PX z;obtain ⟨f0,f1,f2,_⟩:=hf p.1 hb;obtain ⟨o,e',d⟩:=ho p.1 hb;rw [e] at e';cases e';exact ⟨e,f0,f1,f2,d⟩
theorem Inv.aaq (I:Inv X (pins++pl) σ H s):Inv X pins σ H s:=I.aap λp hp=>I.pin p (ir _ (ee _ hp))
theorem Zj (hp:PassesOwn (model X.prog X.w) X.A X.env X.xe)(hc:X.calm=true)(hi:PI X tg iter wi)(hg:PG X tg g)(hb:Oa X body tb)(hs:∀ x,foldedSetIterable iter X.env x=pure x:=by intro _;rfl):PS X (.For tg iter body [] pos) (Vi wi g tb):=by
 intro pins s σ H D I h;refine wpAny_For (Bc (hi pins s σ H _ I h) λv s1 h1=>Bc h1 λpI s2 h2=>?_) hs;obtain ⟨it,fp,tn,J,H2,e,I2,T,Y9,f2,W,⟨m0,w0⟩,turn⟩:=h2;subst e;have Zk:∀ {H':Hp},(∀ b∈fp,H' b=none)->∀ b∈fp,GO X pins H' b:=λhn b hb=>⟨hn b hb,(f2 b hb).2⟩;refine codeAny_forLoop_any (λn s'=>∃ i σ' H',Inv X pins σ' H' s'/\tn i s'.heap/\(∀ b∈fp,H' b=none)/\W i n σ' H') ?_ m0 ⟨0,σ,H2,I2,Y9,λb hb=>(f2 b hb).1,w0⟩;rintro n s3 ⟨i,σ3,H3,I3,j7,Rk,w3⟩;rcases turn i n σ3 H3 w3 with ⟨stop,qn⟩ | ⟨go,N,hN,step⟩
 ·refine TW hp (Bc (T.done X rfl rfl rfl hc i pins s3 σ3 H3 X.xe I3 (Zk Rk) j7 stop) λr s4 AR=>?_);obtain ⟨hr,I4⟩:=AR;subst hr;exact wpAny_execs_nil ⟨σ3,H3,I4,qn⟩
 ·refine TW hp (Bc (T.item X rfl rfl rfl hc i pins s3 σ3 H3 X.xe I3 (Zk Rk) j7 go) λr s4 AR=>?_);obtain ⟨u,hr,h4⟩:=AR;subst hr;refine TW hp (Bc h4 λ_ s5 AR=>?_);obtain ⟨x,H5,I5,r5,y5,Zl,UT⟩:=AR;have sh:=I5.pinned (Zk UT) (T.obj _ _ Zl);refine TW hp (Bc (hg _ s5 σ3 H5 x u _ sh r5 (step x H5 y5)) λ_ s6 AR=>?_);obtain ⟨σ6,H6,I6,q6⟩:=AR;refine TW hp (Bc (hb _ s6 σ6 H6 _ I6 q6) λf s7 q7=>?_);have again:∀ {σ7:St} {H7:Hp},Inv X (pins++Hu fp s5.heap) σ7 H7 s7->N σ7 H7->∃ m,m < n/\∃ i σ' H',Inv X pins σ' H' s7/\tn i s7.heap/\(∀ b∈fp,H' b=none)/\W i m σ' H':=λ{σ7 H7} I7 n7=>by
   obtain ⟨m',hm,w7⟩:=hN σ7 H7 n7;refine ⟨m',hm,i+1,σ7,H7,I7.aaq,T.keep _ _ _ Zl λb hb o e=>(I7.pin (b,o) (ir _ (ir _ (DX hb e)))).1,λb hb=>?_,w7⟩;obtain ⟨o,e,d⟩:=T.obj _ _ Zl b hb;exact (I7.pin (b,o) (ir _ (ir _ (DX hb e)))).2.1
  cases f with
  | next=>obtain ⟨σ7,H7,I7,n7⟩:=q7;exact again I7 n7
  | cont=>obtain ⟨σ7,H7,I7,n7⟩:=q7;exact again I7 n7
  | brk=>obtain ⟨σ7,H7,I7,q7⟩:=q7;exact ⟨σ7,H7,I7.aaq,q7⟩
  | ret v=>obtain ⟨x7,σ7,H7,I7,r7,q7⟩:=q7;exact ⟨x7,σ7,H7,I7.aaq,r7,q7⟩
end
theorem RK {K:W.Frag}{a:Addr}{xs:List V}{g:TG}{tb:TS}{D:Ends}{σ:St}{H:Hp}(Pv:Nat->St->Hp->Prop)(h0:Pv 0 σ H)(hl:∀ i σ H,i<=xs.length->Pv i σ H->AI K H a xs)
  (hs:∀ i x σ H,xs[i]?=some x->Pv i σ H->g x σ H fun σ2 H2=>tb { D with nx:=Pv (i+1),ct:=Pv (i+1),bk:=D.nx } σ2 H2) (hd:∀ σ H,Pv xs.length σ H->D.nx σ H) :
  ∃ W:Nat->Nat->St->Hp->Prop,(∃ m,W 0 m σ H)/\∀ i m σ H,W i m σ H ->
   ((Rj K a).stop i H/\D.nx σ H)\/((Rj K a).go i H/\∃ N:St->Hp->Prop,(∀ σ' H',N σ' H'->∃ m',m' < m/\W (i+1) m' σ' H')/\∀ x H',(Rj K a).yld i H x H'->g x σ H' fun σ2 H2=>tb { D with nx:=N,ct:=N,bk:=D.nx } σ2 H2):=by
 refine ⟨λi m σ H=>m=xs.length - i/\i<=xs.length/\Pv i σ H,⟨xs.length,by simp,mi _,h0⟩,?_⟩;rintro i m σ H ⟨rfl,hi,p⟩;have q:=hl i σ H hi p;by_cases CV:i < xs.length
 ·refine .inr ⟨⟨xs,xs[i],q,by simp [CV]⟩,Pv (i+1),fun σ' H' p'=>⟨xs.length - (i+1),(),rfl,CV,p'⟩,λx H' y=>?_⟩;obtain ⟨e,y⟩:=y;subst e;exact hs i x σ _ (y xs q) p
 ·have e:i=xs.length:=by omega
  subst e;exact .inl ⟨⟨xs,q,am _⟩,hd σ H p⟩
theorem JK {K:W.Frag}{a:Addr}{xs:List V}{g:TG}{tb:TS}{D:Ends}{σ:St}{H:Hp}(Pv:Nat->St->Hp->Prop)(h0:Pv 0 σ H)(hl:∀ i σ H,i<=xs.length->Pv i σ H->BL K H a xs)
  (hs:∀ i x σ H,xs[i]?=some x->Pv i σ H->g x σ H fun σ2 H2=>tb { D with nx:=Pv (i+1),ct:=Pv (i+1),bk:=D.nx } σ2 H2) (hd:∀ σ H,Pv xs.length σ H->D.nx σ H) :
  ∃ W:Nat->Nat->St->Hp->Prop,(∃ m,W 0 m σ H)/\∀ i m σ H,W i m σ H ->
   ((Y5 K a).stop i H/\D.nx σ H)\/((Y5 K a).go i H/\∃ N:St->Hp->Prop,(∀ σ' H',N σ' H'->∃ m',m' < m/\W (i+1) m' σ' H')/\∀ x H',(Y5 K a).yld i H x H'->g x σ H' fun σ2 H2=>tb { D with nx:=N,ct:=N,bk:=D.nx } σ2 H2):=by
 refine ⟨λi m σ H=>m=xs.length - i/\i<=xs.length/\Pv i σ H,⟨xs.length,by simp,mi _,h0⟩,?_⟩;rintro i m σ H ⟨rfl,hi,p⟩;have q:=hl i σ H hi p;by_cases CV:i < xs.length
 ·refine .inr ⟨⟨xs,xs[i],q,by simp [CV]⟩,Pv (i+1),fun σ' H' p'=>⟨xs.length - (i+1),(),rfl,CV,p'⟩,λx H' y=>?_⟩;obtain ⟨e,y⟩:=y;subst e;exact hs i x σ _ (y xs q) p
 ·have e:i=xs.length:=by omega
  subst e;exact .inl ⟨⟨xs,q,am _⟩,hd σ H p⟩
theorem PY {lo:Int}{n:Nat}{g:TG}{tb:TS}{D:Ends}{σ:St}{H:Hp}(Pv:Nat->St->Hp->Prop)(h0:Pv 0 σ H)
  (hs:∀ i σ H,i < n->Pv i σ H->g (.int (lo+i)) σ H fun σ2 H2=>tb { D with nx:=Pv (i+1),ct:=Pv (i+1),bk:=D.nx } σ2 H2) (hd:∀ σ H,Pv n σ H->D.nx σ H) :
  ∃ W:Nat->Nat->St->Hp->Prop,(∃ m,W 0 m σ H)/\∀ i m σ H,W i m σ H ->
   ((Y6 lo n).stop i H/\D.nx σ H)\/((Y6 lo n).go i H/\∃ N:St->Hp->Prop,(∀ σ' H',N σ' H'->∃ m',m' < m/\W (i+1) m' σ' H')/\∀ x H',(Y6 lo n).yld i H x H'->g x σ H' fun σ2 H2=>tb { D with nx:=N,ct:=N,bk:=D.nx } σ2 H2):=by
 refine ⟨λi m σ H=>m=n - i/\i<=n/\Pv i σ H,⟨n,by simp,mi _,h0⟩,?_⟩;rintro i m σ H ⟨rfl,hi,p⟩;by_cases CV:i < n
 ·refine .inr ⟨CV,Pv (i+1),fun σ' H' p'=>⟨n - (i+1),(),rfl,CV,p'⟩,λx H' y=>?_⟩;obtain ⟨e,y⟩:=y;subst e y;exact hs i σ _ CV p
 ·have e:i=n:=by omega
  subst e;exact .inl ⟨am _,hd σ H p⟩
abbrev R2:=V->V->Hp->VK->Prop
noncomputable def G6 (X:Cx)(f:Value->Value->Sem Value)(r:R2):Prop :=
 ∀ (pins:List (Addr × Obj)) (s:Shared) (σ:St) (H:Hp) (x y:V) (v u:Value) (Q:VK),Inv X pins σ H s->RelV x v->RelV y u->r x y H Q ->
  wpAny (model X.prog X.w) X.A (f v u) (EP X pins σ Q) X.xe s
noncomputable def pJ (X:Cx)(f:Value->Sem Value)(r:V->Hp->VK->Prop):Prop :=
 ∀ (pins:List (Addr × Obj)) (s:Shared) (σ:St) (H:Hp) (x:V) (v:Value) (Q:VK),Inv X pins σ H s->RelV x v->r x H Q ->
  wpAny (model X.prog X.w) X.A (f v) (EP X pins σ Q) X.xe s
noncomputable def Ds (X:Cx)(f:Value)(r:List V->Hp->VK->Prop):Prop :=
 ∀ (pins:List (Addr × Obj)) (s:Shared) (σ:St) (H:Hp) (xs:List V) (us:List Value) (Q:VK),Inv X pins σ H s->Vals xs us->r xs H Q ->
  wpAny (model X.prog X.w) X.A (call f us) (EP X pins σ Q) X.xe s
noncomputable def sj (X:Cx)(r:V->Hp->(Bool->Hp->Prop)->Prop):Prop :=
 ∀ (pins:List (Addr × Obj)) (s:Shared) (σ:St) (H:Hp) (x:V) (v:Value) (Q:Bool->Hp->Prop),Inv X pins σ H s->RelV x v->r x H Q ->
  wpAny (model X.prog X.w) X.A (truthy v) (TP X pins σ Q) X.xe s
noncomputable def G7 (r:R2)(ta tb:TE):TE:=fun σ H Q=>ta σ H λx H1=>tb σ H1 λy H2=>r x y H2 Q
noncomputable def su (r:V->Hp->VK->Prop)(ta:TE):TE:=fun σ H Q=>ta σ H λx H1=>r x H1 Q
noncomputable def rI (C:Int->Int->Prop)(g:Int->Int->V):R2:=λx y H Q=>∃ i j,x=.int i/\y=.int j/\C i j/\Q (g i j) H
noncomputable def RL (g:Int->Int->V):R2:=λx y H Q=>∃ i j,x=.int i/\y=.int j/\Q (g i j) H
noncomputable def rU (g:Int->V):V->Hp->VK->Prop:=λx H Q=>∃ i,x=.int i/\Q (g i) H
section
variable {X:Cx}{a b c:Expr}{ta tb tc:TE}{pos:Pos}
theorem Zm (ha:PE X a ta)(hb:PE X b tb){pins:List (Addr × Obj)}{s:Shared}{σ:St}{H:Hp}{R:V->V->Hp->Prop}(I:Inv X pins σ H s)
  (h:ta σ H λx H1=>tb σ H1 λy H2=>R x y H2) {Q:Value->Shared->Prop} {f:Value->Value->Sem Value}
  (hf:∀ v u s2 x y H2,Inv X pins σ H2 s2->RelV x v->RelV y u->R x y H2->wpAny (model X.prog X.w) X.A (f v u) Q X.xe s2) :
  wpAny (model X.prog X.w) X.A (eval a X.env) (λv s₁=>wpAny (model X.prog X.w) X.A (eval b X.env) (λu s₂=>wpAny (model X.prog X.w) X.A (f v u) Q X.xe s₂) X.xe s₁) X.xe s:=by
 refine Bc (ha pins s σ H _ I h) λv s1 AR=>?_;obtain ⟨x,H1,I1,r1,q1⟩:=AR;refine Bc (hb pins s1 σ H1 _ I1 q1) λu s2 AR=>?_;obtain ⟨y,H2,I2,r2,q2⟩:=AR;exact hf v u s2 x y H2 I2 r1 r2 q2
theorem Ee (ho:G6 X (binaryOp op) r)(ha:PE X a ta)(hb:PE X b tb):PE X (.BinOp a op b pos) (G7 r ta tb):=by
 intro pins s σ H Q I h;exact wpAny_BinOp (Zm ha hb I h λv u s2 x y H2 I2 rx ry q=>ho pins s2 σ H2 x y v u Q I2 rx ry q)
theorem Ya (ho:pJ X (unaryOp op) r)(ha:PE X a ta):PE X (.UnaryOp op a pos) (su r ta):=by
 intro pins s σ H Q I h;exact UnaryOp_ (Bc (ha pins s σ H _ I h) λv s1 ⟨x,H1,I1,r1,q1⟩=>ho pins s1 σ H1 x v Q I1 r1 q1)
theorem pK {f:Value->Value->Sem Value}{C:Int->Int->Prop}{g:Int->Int->Int}
  (rule:∀ (i j:Int) (t u:Tok) (s:Shared) (Q:Value->Shared->Prop) (E:Value->Shared->Prop),C i j->Q (.int (g i j) s.toks) { s with toks:=s.toks+1 }->wpAny (model X.prog X.w) X.A (f (.int i t) (.int j u)) Q E s) :
  G6 X f (rI C λi j=>.int (g i j)):=by
 intro pins s σ H x y v u Q I rx ry h;obtain ⟨i,j,rfl,rfl,hc,q⟩:=h;obtain ⟨t,rfl⟩:=rx;obtain ⟨t',rfl⟩:=ry;exact rule i j t t' s _ _ hc ⟨.int (g i j),H,I.tok _,⟨_,rfl⟩,q⟩
theorem j8 {f:Value->Value->Sem Value}{g:Int->Int->Int}
  (rule:∀ (i j:Int) (t u:Tok) (s:Shared) (Q:Value->Shared->Prop) (E:Value->Shared->Prop),Q (.int (g i j) s.toks) { s with toks:=s.toks+1 }->wpAny (model X.prog X.w) X.A (f (.int i t) (.int j u)) Q E s) :
  G6 X f (RL λi j=>.int (g i j)):=by
 intro pins s σ H x y v u Q I rx ry h;obtain ⟨i,j,rfl,rfl,q⟩:=h;obtain ⟨t,rfl⟩:=rx;obtain ⟨t',rfl⟩:=ry;exact rule i j t t' s _ _ ⟨.int (g i j),H,I.tok _,⟨_,rfl⟩,q⟩
theorem Zn {f:Value->Value->Sem Value}{g:Int->Int->Bool}
  (rule:∀ (i j:Int) (t u:Tok) (s:Shared) (Q:Value->Shared->Prop) (E:Value->Shared->Prop),Q (.bool (g i j)) s->wpAny (model X.prog X.w) X.A (f (.int i t) (.int j u)) Q E s) :
  G6 X f (RL λi j=>.bl (g i j)):=by
 intro pins s σ H x y v u Q I rx ry h;obtain ⟨i,j,rfl,rfl,q⟩:=h;obtain ⟨t,rfl⟩:=rx;obtain ⟨t',rfl⟩:=ry;exact rule i j t t' s _ _ ⟨.bl (g i j),H,I,rfl,q⟩
noncomputable def sv (i j:Int):Prop:=0 < j/\j < 1073741824
noncomputable def sy (i j:Int):Prop:=0<=j/\j<=1000000/\i.natAbs < 2 ^ 64
noncomputable def Vj (i j:Int):Prop:=(-(2 ^ 64) < i/\i < 2 ^ 64)\/(-(2 ^ 64) < j/\j < 2 ^ 64)
theorem Vj.ok (h:Vj i j):IntMulOk i j:=by
 rcases h with ⟨h1,h2⟩ | ⟨h1,h2⟩
 ·exact .of_left (intBits_le_64 h1 h2)
 ·exact .of_right (intBits_le_64 h1 h2)
theorem B9:G6 X (binaryOp .Add) (RL λi j=>.int (i+j)):=j8 λ_ _ _ _ _ _ _ q=>add_int q
theorem Ep:G6 X (binaryOp .Sub) (RL λi j=>.int (i - j)):=j8 λ_ _ _ _ _ _ _ q=>sub_int q
theorem BK:G6 X (binaryOp .Mult) (rI Vj λi j=>.int (i * j)):=pK λ_ _ _ _ _ _ _ hc q=>mul_int q hc.ok
theorem C4:G6 X (binaryOp .FloorDiv) (rI sv λi j=>.int (i / j)):=pK λi j _ _ _ _ _ hc q=>by
 have h1:(0:Int) < j:=hc.1;have h2:j < 1073741824:=hc.2;exact floordiv_int () (by rw [Int.fdiv_eq_ediv_of_nonneg i ()];exact q) (.inl (PyProof.noPylong_small ()))
theorem AU:G6 X (binaryOp .Mod) (rI (λ_ j=>0 < j) λi j=>.int (i % j)):=pK λi j _ _ _ _ _ hc q=>by
 have h1:(0:Int) < j:=hc;exact mod_int' () (by rw [Int.fmod_eq_emod_of_nonneg i ()];exact q)
theorem RM:G6 X (binaryOp .Pow) (rI sy λi j=>.int (i ^ j.toNat)):=pK λ_ _ _ _ _ _ _ hc q=>pow_int_small hc.1 hc.2.1 hc.2.2 q
theorem unI {f:Value->Sem Value}{g:Int->Int}
  (rule:∀ (i:Int) (t:Tok) (s:Shared) (Q:Value->Shared->Prop) (E:Value->Shared->Prop),Q (.int (g i) s.toks) { s with toks:=s.toks+1 }->wpAny (model X.prog X.w) X.A (f (.int i t)) Q E s) :
  pJ X f (rU λi=>.int (g i)):=by
 intro pins s σ H x v Q I rx h;obtain ⟨i,rfl,q⟩:=h;obtain ⟨t,rfl⟩:=rx;exact rule i t s _ _ ⟨.int (g i),H,I.tok _,⟨_,rfl⟩,q⟩
theorem RN:pJ X (unaryOp .USub) (rU λi=>.int (-i)):=unI λ_ _ _ _ _ q=>neg_int q
end
noncomputable def Vk:V->V->Bool
 | .non,.non=>true | .non,.int _=>true | .int _,.non=>true | .non,.bl _=>true | .bl _,.non=>true | .non,.str _=>true | .str _,.non=>true
 | .int _,.int _=>true | .bl _,.bl _=>true | .str _,.str _=>true | .byt _,.byt _=>true
 | .int _,.str _=>true | .str _,.int _=>true | .bl _,.str _=>true | .str _,.bl _=>true
 | _,_=>false
noncomputable def rEq:R2:=λx y H Q=>Vk x y=true/\Q (.bl (decide (x=y))) H
noncomputable def rNe:R2:=λx y H Q=>Vk x y=true/\Q (.bl (!decide (x=y))) H
theorem Og:decide (V.int i=V.int j)=(i==j):=by
 rw [Do];simp
theorem RO:decide (V.bl i=V.bl j)=(i==j):=by
 rw [Do];simp
theorem Oh:decide (V.str i=V.str j)=(i==j):=by
 rw [Do];simp
theorem Oi:decide (V.byt i=V.byt j)=(i.toList==j.toList):=by
 rw [Do];cases i;cases j;simp
section
variable {X:Cx}{a b c:Expr}{ta tb tc:TE}{pos:Pos}
theorem AO (I:Inv X pins σ H s)(q:Q (.bl k) H)(e:k=k'):EP X pins σ Q (.bool k') s:=by
 subst e;exact ⟨.bl k,H,I,rfl,q⟩
theorem Bb:G6 X (compareOp .Eq) rEq:=by
 intro pins s σ H x y v u Q I rx ry h;obtain ⟨hs,q⟩:=h;cases x with
 | non =>
  cases rx;cases y with
  | non=>cases ry;exact PySem.EqNone.eq_none_none (AO I q (by simp))
  | bl j=>cases ry;exact PySem.EqNone.eq_none_bool (AO I q (by simp))
  | int j=>obtain ⟨t',rfl⟩:=ry;exact PySem.EqNone.eq_none_int (AO I q (by simp))
  | str j=>obtain ⟨t',rfl⟩:=ry;exact PySem.EqNone.eq_none_str (AO I q (by simp))
  | _=>exact absurd (show false=true from hs) lc
 | bl i =>
  cases rx;cases y with
  | non=>cases ry;exact PySem.EqNone.eq_bool_none (AO I q (by simp))
  | bl j=>cases ry;exact eq_bool (AO I q RO)
  | str j=>obtain ⟨t',rfl⟩:=ry;exact PySem.EqMixed.eq_bool_str (AO I q (by simp))
  | _=>exact absurd (show false=true from hs) lc
 | int i =>
  obtain ⟨t,rfl⟩:=rx;cases y with
  | non=>cases ry;exact PySem.EqNone.eq_int_none (AO I q (by simp))
  | int j=>obtain ⟨t',rfl⟩:=ry;exact eq_int (AO I q Og)
  | str j=>obtain ⟨t',rfl⟩:=ry;exact PySem.EqMixed.eq_int_str (AO I q (by simp))
  | _=>exact absurd (show false=true from hs) lc
 | str i =>
  obtain ⟨t,rfl⟩:=rx;cases y with
  | non=>cases ry;exact PySem.EqNone.eq_str_none (AO I q (by simp))
  | bl j=>cases ry;exact PySem.EqMixed.eq_str_bool (AO I q (by simp))
  | int j=>obtain ⟨t',rfl⟩:=ry;exact PySem.EqMixed.eq_str_int (AO I q (by simp))
  | str j=>obtain ⟨t',rfl⟩:=ry;exact eq_str (AO I q Oh)
  | _=>exact absurd (show false=true from hs) lc
 | byt i =>
  obtain ⟨t,rfl⟩:=rx;cases y with
  | byt j=>obtain ⟨t',rfl⟩:=ry;exact W.eq_bytes (AO I q Oi)
  | _=>exact absurd (show false=true from hs) lc
 | _=>cases y <;> exact absurd (show false=true from hs) lc
theorem K':G6 X (compareOp .NotEq) rNe:=by
 intro pins s σ H x y v u Q I rx ry h;obtain ⟨hs,q⟩:=h;cases x with
 | non =>
  cases rx;cases y with
  | non=>cases ry;exact PySem.EqNone.ne_none_none (AO I q (by simp))
  | bl j=>cases ry;exact PySem.EqNone.ne_none_bool (AO I q (by simp))
  | int j=>obtain ⟨t',rfl⟩:=ry;exact PySem.EqNone.ne_none_int (AO I q (by simp))
  | str j=>obtain ⟨t',rfl⟩:=ry;exact PySem.EqNone.ne_none_str (AO I q (by simp))
  | _=>exact absurd (show false=true from hs) lc
 | bl i =>
  cases rx;cases y with
  | non=>cases ry;exact PySem.EqNone.ne_bool_none (AO I q (by simp))
  | bl j=>cases ry;exact ne_bool (AO I q (congrArg not RO))
  | str j=>obtain ⟨t',rfl⟩:=ry;exact PySem.EqMixed.ne_bool_str (AO I q (by simp))
  | _=>exact absurd (show false=true from hs) lc
 | int i =>
  obtain ⟨t,rfl⟩:=rx;cases y with
  | non=>cases ry;exact PySem.EqNone.ne_int_none (AO I q (by simp))
  | int j=>obtain ⟨t',rfl⟩:=ry;exact ne_int (AO I q (congrArg not Og))
  | str j=>obtain ⟨t',rfl⟩:=ry;exact PySem.EqMixed.ne_int_str (AO I q (by simp))
  | _=>exact absurd (show false=true from hs) lc
 | str i =>
  obtain ⟨t,rfl⟩:=rx;cases y with
  | non=>cases ry;exact PySem.EqNone.ne_str_none (AO I q (by simp))
  | bl j=>cases ry;exact PySem.EqMixed.ne_str_bool (AO I q (by simp))
  | int j=>obtain ⟨t',rfl⟩:=ry;exact PySem.EqMixed.ne_str_int (AO I q (by simp))
  | str j=>obtain ⟨t',rfl⟩:=ry;exact ne_str (AO I q (congrArg not Oh))
  | _=>exact absurd (show false=true from hs) lc
 | byt i =>
  obtain ⟨t,rfl⟩:=rx;cases y with
  | byt j=>obtain ⟨t',rfl⟩:=ry;exact W.ne_bytes (AO I q (congrArg not Oi))
  | _=>exact absurd (show false=true from hs) lc
 | _=>cases y <;> exact absurd (show false=true from hs) lc
theorem Oj:G6 X (compareOp .Lt) (RL λi j=>.bl (decide (i < j))):=Zn λ_ _ _ _ _ _ _ q=>lt_int q
theorem Ol:G6 X (compareOp .Gt) (RL λi j=>.bl (decide (j < i))):=Zn λ_ _ _ _ _ _ _ q=>gt_int q
theorem j9:G6 X (compareOp .GtE) (RL λi j=>.bl (decide (j<=i))):=Zn λ_ _ _ _ _ _ _ q=>ge_int q
theorem ML:G6 X (compareOp .Is) (λx y H Q=>y=.non/\Q (.bl (decide (x=.non))) H):=by
 intro pins s σ H x y v u Q I rx ry h;obtain ⟨rfl,q⟩:=h;cases ry;refine is_none_gen (AO I q ?_);cases x <;> first
  | (cases rx;rfl)
  | (obtain ⟨t,rfl⟩:=rx;rfl)
theorem Om:G6 X (compareOp .IsNot) (λx y H Q=>y=.non/\Q (.bl (!decide (x=.non))) H):=by
 intro pins s σ H x y v u Q I rx ry h;obtain ⟨rfl,q⟩:=h;cases ry;refine isnot_none_gen (AO I q ?_);cases x <;> first
  | (cases rx;rfl)
  | (obtain ⟨t,rfl⟩:=rx;rfl)
theorem Aw (b:Expr)(h:op≠.In:=by decide)(h2:op≠.NotIn:=by decide):behindInMarks op b=false:=by
 have e1:(op==CmpOp.In)=false:=by cases op <;> first | rfl | exact absurd rfl h
 have e2:(op==CmpOp.NotIn)=false:=by cases op <;> first | rfl | exact absurd rfl h2
 cases b <;> simp [behindInMarks,e1,e2]
theorem Vl (ho:G6 X (compareOp op) r)(ha:PE X a ta)(hb:PE X b tb)(hm:behindInMarks op b=false):PE X (.Compare a [op] [b] pos) (G7 r ta tb):=by
 intro pins s σ H Q I h;exact wpAny_Compare1 (Zm ha hb I h λv u s2 x y H2 I2 rx ry q=>ho pins s2 σ H2 x y v u Q I2 rx ry q) hm
noncomputable def L7 (t:TE):TT:=fun σ H Q=>t σ H λx H'=>∃ k,x=.bl k/\Q k H'
theorem Vm (ho:G6 X (compareOp op) r)(ha:PE X a ta)(hb:PE X b tb)(hm:behindInMarks op b=false):PT X (.Compare a [op] [b] pos) (L7 (G7 r ta tb)):=by
 intro pins s σ H Q I h;refine wpAny_isTrue_Compare1 (Bc (ha pins s σ H _ I h) λv s1 AR=>?_) hm;obtain ⟨x,H1,I1,r1,q1⟩:=AR;refine Bc (hb pins s1 σ H1 _ I1 q1) λu s2 AR=>?_;obtain ⟨y,H2,I2,r2,q2⟩:=AR;refine Bc (ho pins s2 σ H2 x y v u _ I2 r1 r2 q2) λc s3 AR=>?_;obtain ⟨z,H3,I3,r3,k,e,q3⟩:=AR;subst e;cases r3;exact Mo ⟨H3,I3,q3⟩
noncomputable def Zo (K:W.Frag)(x:V)(H:Hp)(k:Bool):Prop :=
 match x with
 | .non=>k=false
 | .bl b=>k=b
 | .int i=>k=(i != 0)
 | .str y=>y.length<=sizeLine/\k=((y.length:Int) != 0)
 | .byt y=>y.size<=sizeLine/\k=((y.size:Int) != 0)
 | .ref p=>(∃ xs,AI K H p xs/\k=!xs.isEmpty)\/(∃ xs,BL K H p xs/\k=!xs.isEmpty)\/∃ kvs,H p=some (.dK kvs)/\k=!kvs.isEmpty
 | _=>False
theorem MM (r:KV kvs vs):(!vs.isEmpty)=!kvs.isEmpty:=by
 cases r <;> rfl
theorem Hv (r:Vals xs its):(!its.toArray.isEmpty)=!xs.isEmpty:=by
 cases r <;> simp
theorem Hw:(sizeLine:Nat) < 2 ^ 63:=by rw [Sc];decide
theorem Zp:sj X (λx H Q=>∃ k,Zo X.K x H k/\Q k H):=by
 intro pins s σ H x v Q I rx h;obtain ⟨k,e,q⟩:=h;have hl:=Hw;have hs:sizeLine=16777216:=Sc;cases x with
 | non =>
  cases rx;have e':k=false:=e;subst e';exact truthy_none ⟨H,I,q⟩
 | bl b =>
  cases rx;have e':k=b:=e;subst e';exact Mo ⟨H,I,q⟩
 | int i =>
  obtain ⟨t,rfl⟩:=rx;have e':k=(i != 0):=e;subst e';exact PySem.P.truthy_int ⟨H,I,q⟩
 | str y =>
  obtain ⟨t,rfl⟩:=rx;obtain ⟨hy,e'⟩:y.length<=sizeLine/\k=((y.length:Int) != 0):=e;subst e';exact PySem.P.truthy_str () ⟨H,I.tok _,q⟩
 | byt y =>
  obtain ⟨t,rfl⟩:=rx;obtain ⟨hy,e'⟩:y.size<=sizeLine/\k=((y.size:Int) != 0):=e;subst e';exact W.truthy_bytes () ⟨H,I.tok _,q⟩
 | ref p =>
  cases rx;have e':(∃ xs,AI X.K H p xs/\k=!xs.isEmpty)\/(∃ xs,BL X.K H p xs/\k=!xs.isEmpty)\/∃ kvs,H p=some (.dK kvs)/\k=!kvs.isEmpty:=e;rcases e' with ⟨xs,hx,e'⟩ | ⟨xs,hx,e'⟩ | ⟨kvs,hx,e'⟩
  ·subst e';obtain ⟨its,r,pl,hz⟩:=I.list hx;have hlen:=r.length;exact wpAny_truthy_list pl.isList (by simp only [f8];omega) ⟨H,I.tok _,by rw [Hv r];exact q⟩
  ·subst e';obtain ⟨its,r,pl,hz⟩:=I.tuple hx;have hlen:=r.length;exact truthy_tuple pl (by simp only [f8];omega) ⟨H,I.tok _,by rw [Hv r];exact q⟩
  ·subst e';obtain ⟨hz,hS,vs,r,m⟩:kvs.length<=sizeLine/\(p==sysModules)=false/\∃ vs,KV kvs vs/\s.heap.DictOf (B1 X.prog X.w) p vs:=I.hok p _ hx;have hlen:kvs.length=vs.length:=AC r;exact wpAny_truthy_dict hS m () ⟨H,I.tok _,by rw [MM r];exact q⟩
 | _=>exact (show False from e).elim
theorem L9 (ha:PE X a ta)(he:∀ whole,isTrue a X.env whole=(do let v <- whole;standAt a.pos;holding [v] (truthy v))):
  PT X a (fun σ H Q=>ta σ H λx H'=>∃ k,Zo X.K x H' k/\Q k H'):=by
 intro pins s σ H Q I h;exact isTrue_plain (Bc (ha pins s σ H _ I h) λv s1 ⟨x,H1,I1,r1,q1⟩=>Zp pins s1 σ H1 x v Q I1 r1 q1) (he _)
theorem vals1 (r:Vals [x] us):∃ u,us=[u]/\RelV x u:=by
 cases r with
 | cons r1 r2=>cases r2;exact ⟨_,rfl,r1⟩
theorem vals2 (r:Vals [x,y] us):∃ u w',us=[u,w']/\RelV x u/\RelV y w':=by
 cases r with
 | cons r1 r2 =>
  cases r2 with
  | cons r3 r4=>cases r4;exact ⟨_,_,rfl,r1,r3⟩
theorem PZ (hc:X.calm=true):Ds X (.builtin "max") (λxs H Q=>∃ i j,xs=[.int i,.int j]/\Q (.int (if j > i then j else i)) H):=by
 intro pins s σ H xs us Q I r h;obtain ⟨i,j,rfl,q⟩:=h;obtain ⟨u,w',rfl,⟨t,rfl⟩,⟨t',rfl⟩⟩:=vals2 r;refine max_two_ints (I.ok.hd hc) λh' tk k=>⟨_,H,I.kept k,?_,q⟩;by_cases hj:j > i
 ·rw [if_pos hj,if_pos hj];exact ⟨_,rfl⟩
 ·rw [if_neg hj,if_neg hj];exact ⟨_,rfl⟩
theorem P':Ds X (.type "int") (λxs H Q=>(∃ i,xs=[.int i]/\Q (.int i) H)\/∃ k,xs=[.bl k]/\Q (.int (if k then 1 else 0)) H):=by
 intro pins s σ H xs us Q I r h;rcases h with ⟨i,rfl,q⟩ | ⟨k,rfl,q⟩
 ·obtain ⟨u,rfl,t,rfl⟩:=vals1 r;exact call_int_int ⟨.int i,H,I,⟨_,rfl⟩,q⟩
 ·obtain ⟨u,rfl,r1⟩:=vals1 r;cases r1;exact call_int_bool ⟨.int (if k then 1 else 0),H,I.tok _,⟨_,rfl⟩,q⟩
end
structure MO (h:Heap)(x dx C:Addr)(mA:Str->Option Value):Prop where
 obj:h.get? x=some (W.instObj C dx)
 ns:h.Ns1 dx mA
 ne:dx≠x
theorem Q0 {h:Heap}{dx:Addr}{mA:Str->Option Value}(n:h.Ns1 dx mA):∃ od,h.get? dx=some od/\∀ name,W.lookIn name od=some (mA name):=by
 obtain ⟨o,es,ep,ho,hd,hk,_,hm⟩:=n;refine ⟨o,ho,λname=>?_⟩;have e:=hm name;unfold nsFind findBy at e;rw [<- Array.find?_toList] at e;unfold W.lookIn;rw [hd];dsimp only;split
 ·rename_i y q;rw [q] at e;exact congrArg some e
 ·rename_i q;rw [q] at e;have a:es.toList.any (·.refKey)=false:=by
   rw [List.any_eq_false];intro y hy;obtain ⟨z,t,Vn⟩:=hk y (Array.mem_toList_iff.mp hy);simp [DictEntry.refKey,Vn]
  have a':¬ es.toList.any (·.refKey)=true:=by rw [a];exact lc
  rw [if_neg a'];exact congrArg some e
theorem MO.look (I:MO h x dx C mA):∃ od,W.InstAt h x (W.instObj C dx) C (some od)/\∀ name,W.lookIn name od=some (mA name) :=
 let ⟨od,ho,hl⟩:=Q0 I.ns
 ⟨od,⟨I.obj,rfl,rfl,ho⟩,hl⟩
section
variable {prog:Program}{w:World}{A:Around}{E:Value->Shared->Prop}{s:Shared}{K:W.Frag}{x dx C f:Addr}{mA:Str->Option Value}{name:Str}{v:Value}
theorem get_map (X:K.In s.heap)(I:MO s.heap x dx C mA)(hg:W.plainGet K C name=true)(hh:W.hasDictIn K C=true)(ha:W.findIn K (.ref C) name=some none)(hv:mA name=some v)(Rm:W.handedIn v=true)(h:Q v { s with toks:=s.toks+1 }) :
  wpAny (model prog w) A (getAttr (.ref x) name expr) Q E s:=by
 obtain ⟨od,J,hl⟩:=I.look;exact W.get_value X J (W.plainGet_of hg).1 (W.findObj_own hh ha rfl (by rw [hl,hv])) Rm h
theorem RP (X:K.In s.heap)(I:MO s.heap x dx C mA)(hg:W.plainGet K C name=true)(hf:W.findIn K (.ref C) name=some (some (.ref f)))(ht:W.isFn K (.ref f)=true)(hv:mA name=none)(h:Q (.ref f,[.ref x]) s) :
  wpAny (model prog w) A (getMethod (.ref x) name pl) Q E s:=by
 obtain ⟨od,J,hl⟩:=I.look;exact W.method_fn X J (W.plainGet_of hg).1 (W.plainGet_of hg).2 hf (beq_iff_eq.mp ht) (by show (W.lookIn name od).map (·.isSome)=some false;rw [hl,hv];rfl) h
theorem Vo (X:K.In s.heap)(I:MO s.heap x dx C mA)(hs:W.findIn K (.ref C) "__setattr__"=some (some (.builtin "object.__setattr__")))(hp:W.plainOver K C=true)(ht:W.takerIn K C name=some none)(hh:W.hasDictIn K C=true)(hw:PySem.Within mA ns)(hsz:ns.length<=sizeLine)(h:∀ h',MO h' x dx C (λy=>if y=name then some v else mA y)->Heap.SameBut dx s.heap h'->Q .unit { s with heap:=h',toks:=s.toks+2 }) :
  wpAny (model prog w) A (setAttr (.ref x) name v) Q E s:=by
 obtain ⟨od,J,hl⟩:=I.look;refine W.set_plain X J hs (W.osa_open (s:={ s with toks:=s.toks+1 }) (r:=none) X J hp ht λb=>?_);obtain ⟨cd,hc,Rv⟩:=W.any_some hh;have hx:s.heap.get? x=some ⟨.ref C,some dx,.plain,#[]⟩:=I.obj;refine aa (bv (aa (aa (wpAny_loadPart hx (aa (W.Looks.here (s:={ s with toks:=s.toks+1 }) (W.looks_clsIn X hc) ?_))))));rw [Rv];refine bv (a:=some dx) (aa (bv (aa ?_)));refine wpAny_nsSet1 (s:={ s with toks:=s.toks+1 }) I.ns λh' Yb RJ=>?_;obtain ⟨oD,esD,epD,hoD,hdD,hcD⟩:=Yb.count (PySem.Within.cons name v hw);refine aa (wpAny_lookBehind hoD (by rw [hdD];exact pastItsLine_dict (ce hcD (by rw [sB];omega))) ?_);exact bv (h _ ⟨(RJ.2 _ (be I.ne)).trans I.obj,Yb,I.ne⟩ RJ)
theorem RQ (X:K.In s.heap)(hm:W.makesIn K C=true)(hi:W.findIn K (.ref C) "__init__"=some (some (.ref f)))(hf:W.typeIn K (.ref f)=some (.type "function"))(h:codeAny (model prog w) (A.under (.builtin "type.__call__" ⟨.ref C::vs,kw⟩)) (.call (.ref f) ⟨.ref (s.heap.objs.size+1)::vs,kw⟩) (W.InitBack (s.heap.objs.size+1) R)
   { s with heap:=(s.heap.push W.emptyDict).push (W.instObj C s.heap.objs.size) }) :
  codeAny (model prog w) A (.call (.ref C) ⟨vs,kw⟩) R s:=by
 obtain ⟨hh,g,d,t,os⟩:=s;exact W.make_core (W.makes_of X hm) (W.looks_findIn X hi) (λself=>W.bind_fn X self hf) (.inl rfl) h
end
noncomputable def AZ (f:Str)(v:V):List (Str × V)->List (Str × V)
 | []=>[(f,v)]
 | (g,x)::r=>if g=f then (g,v)::r else (g,x)::AZ f v r
theorem GC (f g:Str)(v:V):∀ fs:List (Str × V),(AZ f v fs).lookup g=if g=f then some v else fs.lookup g
 | []=>by
  show List.lookup g [(f,v)]=_;by_cases h:g=f
  ·have hb:(g==f)=true:=beq_iff_eq.mpr h;simp only [List.lookup,hb,if_pos h]
  ·have hb:(g==f)=false:=beq_eq_false_iff_ne.mpr h;simp only [List.lookup,hb,if_neg h]
 | (k,x)::r=>by
  have ih:=GC f g v r;rw [show AZ f v ((k,x)::r)=(if k=f then (k,v)::r else (k,x)::AZ f v r) from rfl]
  by_cases hk:k=f
  ·rw [if_pos hk];by_cases h:g=k
   ·have hb:(g==k)=true:=beq_iff_eq.mpr h;simp only [List.lookup,hb,if_pos (h.trans hk)]
   ·have hb:(g==k)=false:=beq_eq_false_iff_ne.mpr h;simp only [List.lookup,hb,if_neg (λe:g=f=>h (e.trans hk.symm))]
  ·rw [if_neg hk];by_cases h:g=k
   ·have hb:(g==k)=true:=beq_iff_eq.mpr h;simp only [List.lookup,hb,if_neg (λe:g=f=>hk (h.symm.trans e))]
   ·have hb:(g==k)=false:=beq_eq_false_iff_ne.mpr h;simp only [List.lookup,hb];exact ih
theorem G8 (f:Str)(v:V):∀ fs:List (Str × V),f∈(AZ f v fs).map (·.1)/\∀ g,g∈fs.map (·.1)->g∈(AZ f v fs).map (·.1)
 | []=>⟨by simp [AZ],λg h=>by simp at h⟩
 | (k,x)::r=>by
  obtain ⟨i1,i2⟩:=G8 f v r;rw [show AZ f v ((k,x)::r)=(if k=f then (k,v)::r else (k,x)::AZ f v r) from rfl]
  by_cases hk:k=f
  ·rw [if_pos hk];subst hk;exact ⟨by simp,λg h=>by simpa using h⟩
  ·rw [if_neg hk];refine ⟨?_,λg h=>?_⟩
   ·rw [xz];exact Da _ i1
   ·rw [xz] at h ⊢;rcases gz.mp h with e | e
    ·exact gz.mpr (.inl e)
    ·exact Da _ (i2 g e)
theorem GD (f:Str)(v:V):∀ fs:List (Str × V),(AZ f v fs).length<=fs.length+1
 | []=>by simp [AZ]
 | (k,x)::r=>by
  have ih:=GD f v r;rw [show AZ f v ((k,x)::r)=(if k=f then (k,v)::r else (k,x)::AZ f v r) from rfl]
  by_cases hk:k=f
  ·rw [if_pos hk,sB,sB];omega
  ·rw [if_neg hk,sB,sB];omega
theorem Ek.some_of (r:Ek (some v) o):∃ u,o=some u/\RelV v u:=by
 cases o with
 | none=>exact (show False from r).elim
 | some u=>exact ⟨u,rfl,r⟩
theorem Ek.none_of (r:Ek none o):o=none:=by
 cases o with
 | none=>rfl
 | some u=>exact (show False from r).elim
theorem Q5 (r:RelV v u):W.handedIn u=true:=by
 cases v with
 | non=>cases (show u=Value.none from r);rfl
 | bl b=>cases (show u=Value.bool b from r);rfl
 | int i=>obtain ⟨t,e⟩:=(show ∃ t,u=Value.int i t from r);cases e;rfl
 | str x=>obtain ⟨t,e⟩:=(show ∃ t,u=Value.str x t from r);cases e;rfl
 | byt b=>obtain ⟨t,e⟩:=(show ∃ t,u=Value.bytes b t from r);cases e;rfl
 | flt b=>obtain ⟨t,e⟩:=(show ∃ t,u=Value.float b t from r);cases e;rfl
 | ref a=>cases (show u=Value.ref a from r);rfl
 | ty n=>cases (show u=Value.type n from r);rfl
section
variable {P:Program}{w:World}{H H':Hp}{h h':Heap}{a C dx:Addr}{fs gS:List (Str × V)}
theorem G' (hok:DM P w H h)(e:H a=some (.ins C dx fs)):∃ mA,MO h a dx C mA/\(∀ f,Ek (fs.lookup f) (mA f))/\PySem.Within mA (fs.map (·.1))/\fs.length<=1000/\H dx=some (.own a):=by
 obtain ⟨d,z,ne,ob,mA,n,r,q⟩:=(show B6 P w H h a (.ins C dx fs) from hok a _ e);exact ⟨mA,⟨ob,n,ne⟩,r,q,z,d⟩
end
structure ID (K:W.Frag)(C:Addr):Prop where
 pg:W.plainGet K C Str.empty=true
 hd:W.hasDictIn K C=true
 po:W.plainOver K C=true
 sa:W.findIn K (.ref C) "__setattr__"=some (some (.builtin "object.__setattr__"))
theorem ID.get {K:W.Frag}{C:Addr}(c:ID K C)(f:Str):W.plainGet K C f=true:=c.pg
noncomputable def BW (K:W.Frag)(C:Addr)(f:Str):Prop:=W.findIn K (.ref C) f=some none
theorem BW.abr {K:W.Frag}{C:Addr}{f:Str}(n:BW K C f):W.takerIn K C f=some none:=by
 unfold W.takerIn;rw [show W.findIn K (.ref C) f=some none from n];rfl
structure Meth (K:W.Frag)(C:Addr)(m:Str)(f:Addr):Prop where
 at_:W.findIn K (.ref C) m=some (some (.ref f))
 fn:W.isFn K (.ref f)=true
 kp:W.keepIn K (.ref f)=true
section
variable {X:Cx}{pins:List (Addr × Obj)}{σ:St}{H:Hp}{s:Shared}{a C dx:Addr}{fs:List (Str × V)}{f:Str}{v:V}{A:Around}{E:Value->Shared->Prop}
theorem Hx (I:Inv X pins σ H s)(e:H a=some (.ins C dx fs))(c:ID X.K C)(n:BW X.K C f)(l:fs.lookup f=some v)(h:∀ u s',Inv X pins σ H s'->RelV v u->Q u s'):wpAny (model X.prog X.w) A (getAttr (.ref a) f b) Q E s:=by
 obtain ⟨mA,O,r,_,_,_⟩:=G' I.hok e;obtain ⟨u,hu,ru⟩:=Ek.some_of (v:=v) (o:=mA f) (by rw [<- l];exact r f);exact get_map I.kIn O (c.get f) c.hd n hu (Q5 ru) (h u _ (I.tok _) ru)
theorem Fm (I:Inv X pins σ H s)(e:H a=some (.ins C dx fs))(c:ID X.K C)(k:Meth X.K C m g)(l:fs.lookup m=none)(h:Q (.ref g,[.ref a]) s):wpAny (model X.prog X.w) A (getMethod (.ref a) m pl) Q E s:=by
 obtain ⟨mA,O,r,_,_,_⟩:=G' I.hok e;have hn:mA m=none:=Ek.none_of (by rw [<- l];exact r m);exact RP I.kIn O (c.get m) k.at_ k.fn hn h
theorem Hy (I:Inv X pins σ H s)(e:H a=some (.ins C dx fs))(c:ID X.K C)(n:BW X.K C f)(hl:fs.length < 1000)(ry:RelV y u)(h:∀ s',Inv X pins σ (upd H a (.ins C dx (AZ f y fs))) s'->Q .unit s'):wpAny (model X.prog X.w) A (setAttr (.ref a) f u) Q E s:=by
 obtain ⟨mA,O,r,wi,_,ho⟩:=G' I.hok e;have hz:(fs.map (·.1)).length<=sizeLine:=by rw [ba,Sc];omega
 refine Vo I.kIn O c.sa c.po n.abr c.hd wi hz λh' O' sb=>h _ ?_;have hd:∃ o,h'.get? dx=some o:=let ⟨o,_,_,e',_⟩:=O'.ns;⟨o,e'⟩;refine I.write (x:=a) (e:=dx) (by rw [e];exact True.intro) (.inr ho) (λb q hb z=>(sb.2 b hb).trans z) hd ?_;refine ⟨by rw [Ac O.ne];exact ho,?_,O.ne,O'.obj,_,O'.ns,λg=>?_,λg hg=>?_⟩
 ·have:=GD f y fs;omega
 ·show Ek ((AZ f y fs).lookup g) (if g=f then some u else mA g)
  rw [GC];by_cases q:g=f
  ·rw [if_pos q,if_pos q];exact ry
  ·rw [if_neg q,if_neg q];exact r g
 ·by_cases q:g=f
  ·rw [q];exact (G8 f y fs).1
  ·refine (G8 f y fs).2 g (wi g λz=>hg ?_);show (if g=f then some u else mA g)=none
   rw [if_neg q];exact z
theorem Inv.made (I:Inv X pins σ H s):Inv X pins σ (upd (upd H s.heap.objs.size (.own (s.heap.objs.size+1))) (s.heap.objs.size+1) (.ins C s.heap.objs.size []))
  { s with heap:=(s.heap.push W.emptyDict).push (W.instObj C s.heap.objs.size) }:=by
 have e1:(s.heap.push W.emptyDict).get? s.heap.objs.size=some W.emptyDict:=io s.heap rfl;have e2:((s.heap.push W.emptyDict).push (W.instObj C s.heap.objs.size)).get? (s.heap.objs.size+1)=some (W.instObj C s.heap.objs.size):=by
  have:=io (s.heap.push W.emptyDict) (o:=W.instObj C s.heap.objs.size) rfl
  rwa [No] at this
 have e3:(s.heap.push W.emptyDict).Ns s.heap.objs.size (λ_=>none):=⟨W.emptyDict,#[],_,e1,rfl,(λe he=>absurd he (by simp)),λ_=>rfl⟩;have I1:=I.laid (a:=s.heap.objs.size) (o:=.own (s.heap.objs.size+1)) (h':=s.heap.push W.emptyDict) (t':=s.toks) (λb u q=>ac _ q) (am _) ⟨_,e1⟩;refine I1.laid (a:=s.heap.objs.size+1) (o:=.ins C s.heap.objs.size []) (t':=s.toks) (λb u q=>ac _ q) (Nat.le_of_eq (No _ _)) ?_;have ne:s.heap.objs.size≠s.heap.objs.size+1:=dL (Nat.lt_succ_self _);refine ⟨by rw [Ac ne,Ad],mi _,ne,e2,λ_=>none,(Heap.Ns1.of_empty e3).at λo q=>ac _ q,λ_=>True.intro,λy hy=>absurd rfl hy⟩
theorem Vp {f:Str}{s:Shared}(hb:attributeBase e f env (eval e env)=eval e env)(h:wpAny (model prog w) A (eval e env) (λo s₁=>wpAny (model prog w) A (getAttr o f true) Q E s₁) E s):wpAny (model prog w) A (eval (.Attribute e f pos) env) Q E s :=
 Attribute_any_ h (by rw [arm_eval_Attribute,hb])
end
noncomputable def MP (K:W.Frag)(ta:TE)(f:Str):TE:=fun σ H Q=>ta σ H λx H1=>∃ a C dx fs v,x=.ref a/\H1 a=some (.ins C dx fs)/\ID K C/\BW K C f/\fs.lookup f=some v/\Q v H1
noncomputable def ja (K:W.Frag)(ta tv:TE)(f:Str):TS:=λD σ H=>tv σ H λy H1=>ta σ H1 λx H2=>∃ a C dx fs,x=.ref a/\H2 a=some (.ins C dx fs)/\ID K C/\BW K C f/\fs.length < 1000 /\
 D.nx σ (upd H2 a (.ins C dx (AZ f y fs)))
noncomputable def Vq (X:Cx)(op:Operator)(left:V->V->Hp->VK->Prop):Prop :=
 ∀ (pins:List (Addr × Obj)) (s:Shared) (σ:St) (H:Hp) (x y:V) (u v:Value) (Q:VK),Inv X pins σ H s->RelV x u->RelV y v->left x y H Q->wpAny (model X.prog X.w) X.A (inplaceOp op u v) (EP X pins σ Q) X.xe s
noncomputable def Oo (K:W.Frag)(ta tv:TE)(left:V->V->Hp->VK->Prop)(f:Str):TS:=λD σ H=>ta σ H λx H1=>∃ a C dx fs v,x=.ref a/\H1 a=some (.ins C dx fs)/\ID K C/\BW K C f/\fs.lookup f=some v /\
 tv σ H1 λy H2=>left v y H2 λz H3=>∃ sA gS,H3 a=some (.ins C sA gS)/\gS.length < 1000/\D.nx σ (upd H3 a (.ins C sA (AZ f z gS)))
section
variable {X:Cx}{o e value:Expr}{f:Str}{pos pos' Q6:Pos}{ta tv:TE}
theorem Zq (he:PE X e ta)(hb:attributeBase e f X.env (eval e X.env)=eval e X.env):PE X (.Attribute e f pos) (MP X.K ta f):=by
 intro pins s σ H Q I h;refine Vp hb (Bc (he pins s σ H _ I h) λu s1 AR=>?_);obtain ⟨x,H1,I1,rx,a,C,dx,fs,v,ex,ea,c,n,l,q⟩:=AR;subst ex;obtain rfl:u=Value.ref a:=rx;exact Hx I1 ea c n l λu' s2 I2 ru=>⟨v,H1,I2,ru,q⟩
theorem Zs (ha:PE X o ta)(hv:PE X value tv)(hs:swapsWith value (some (.Attribute o f pos')) pos.line X.env=pure false):PS X (.Assign [.Attribute o f pos'] value pos) (ja X.K ta tv f):=by
 intro pins s σ H D I h;refine plainObj_wpAny_Assign_Attribute (Bc (hv pins s σ H _ I h) λu s1 AR=>?_) hs;obtain ⟨y,H1,I1,ry,q⟩:=AR;refine Bc (ha pins s1 σ H1 _ I1 q) λov s2 AR=>?_;obtain ⟨x,H2,I2,rx,a,C,dx,fs,ex,ea,c,n,l,q2⟩:=AR;subst ex;obtain rfl:ov=Value.ref a:=rx;exact Hy I2 ea c n l ry λs3 I3=>⟨σ,_,I3,q2⟩
theorem Q7 (ha:PE X o ta)(hv:PE X value tv)(sC:Vq X op left):PS X (.AugAssign (.Attribute o f Q6) op value pos) (Oo X.K ta tv left f):=by
 intro pins s σ H D I h;refine wpAny_AugAssign_AttributeAny (Bc (ha pins s σ H _ I h) λov s1 AR=>?_);obtain ⟨x,H1,I1,rx,a,C,dx,fs,v,ex,ea,c,n,l,q⟩:=AR;subst ex;obtain rfl:ov=Value.ref a:=rx;refine Hx I1 ea c n l λu s2 I2 ru=>Bc (hv pins s2 σ H1 _ I2 q) λw3 s3 AR=>?_;obtain ⟨y,H2,I3,ry,q3⟩:=AR;refine Bc (sC pins s3 σ H2 v y u w3 _ I3 ru ry q3) λw4 s4 AR=>?_;obtain ⟨z,H3,I4,rz,sA,gS,ea',l',q4⟩:=AR;exact Hy I4 ea' c n l' rz λs5 I5=>⟨σ,_,I5,q4⟩
noncomputable def sD:V->V->Hp->VK->Prop:=λx y H Q=>∃ i j,x=.int i/\y=.int j/\Q (.int (i+j)) H
noncomputable def sE:V->V->Hp->VK->Prop:=λx y H Q=>∃ i j,x=.int i/\y=.int j/\Q (.int (i - j)) H
theorem Zt:Vq X .Add sD:=by
 rintro pins s σ H x y u v Q I rx ry ⟨i,j,rfl,rfl,q⟩;obtain ⟨t,rfl⟩:=(show ∃ t,u=Value.int i t from rx);obtain ⟨t',rfl⟩:=(show ∃ t',v=Value.int j t' from ry);exact PyProof.Rows.iadd_int ⟨.int (i+j),H,I.tok _,⟨_,rfl⟩,q⟩
theorem Zu:Vq X .Sub sE:=by
 rintro pins s σ H x y u v Q I rx ry ⟨i,j,rfl,rfl,q⟩;obtain ⟨t,rfl⟩:=(show ∃ t,u=Value.int i t from rx);obtain ⟨t',rfl⟩:=(show ∃ t',v=Value.int j t' from ry);exact PyProof.Rows.isub_int ⟨.int (i - j),H,I.tok _,⟨_,rfl⟩,q⟩
theorem Yc (he:PE X e te)(I:Inv X pins σ H s)(h:te σ H λx H1=>∃ a C dx fs g,x=.ref a/\H1 a=some (.ins C dx fs)/\ID X.K C/\Meth X.K C m g/\fs.lookup m=none /\
   ∀ s1,Inv X pins σ H1 s1->wpAny (model X.prog X.w) X.A (callWith pos (.ref g) [.ref a] (backTo pos (starEach args X.env)) (backToKw pos (keywordEach [] X.env))) Q X.xe s1)(ht:eval (.Call (.Attribute e m apos) args [] pos) X.env=(do
   let ov <- eval e X.env
   standAt apos.atName
   let (f,first) <- holding [ov] (getMethod ov m pl)
   callWith pos f first (backTo pos (starEach args X.env)) (backToKw pos (keywordEach [] X.env)))) :
  wpAny (model X.prog X.w) X.A (eval (.Call (.Attribute e m apos) args [] pos) X.env) Q X.xe s:=by
 refine W.methodCall_KW (pl:=pl) (Bc (he pins s σ H _ I h) λu s1 AR=>?_) ht;obtain ⟨x,H1,I1,rx,a,C,dx,fs,g,ex,ea,c,k,l,q⟩:=AR;subst ex;obtain rfl:u=Value.ref a:=rx;exact Fm I1 ea c k l (q s1 I1)
end
section
variable {X:Cx}{pins:List (Addr × Obj)}{σ:St}{H:Hp}{s:Shared}{A:Around}{E:Value->Shared->Prop}{Q:Value->Shared->Prop}{c:Value}{b:Bool}
inductive DY (K:W.Frag)(H:Hp):V->Value->Prop where
 | non:DY K H .non (.type "NoneType")
 | bl (x:Bool):DY K H (.bl x) (.type "bool")
 | int (i:Int):DY K H (.int i) (.type "int")
 | str (x:Str):DY K H (.str x) (.type "str")
 | flt (x:UInt64):DY K H (.flt x) (.type "float")
 | lst {a:Addr} {xs:List V} (e:H a=some (.lst xs)):DY K H (.ref a) (.type "list")
 | frz {a:Addr} {o:Obj} {xs:List V} (e:H a=some (.frz o (.lst xs))):DY K H (.ref a) (.type "list")
 | tup {a:Addr} {xs:List V} (e:H a=some (.tup xs)):DY K H (.ref a) (.type "tuple")
 | dK {a:Addr} {kvs:List (Key × V)} (e:H a=some (.dK kvs)):DY K H (.ref a) (.type "dict")
 | dT {a:Addr} {kvs:List (List Key × V)} (e:H a=some (.dT kvs)):DY K H (.ref a) (.type "dict")
 | ins {a C dx:Addr} {fs:List (Str × V)} (e:H a=some (.ins C dx fs)) (cl:ID K C) (ha:W.findIn K (.ref C) "__class__"=some (some (.builtin "object.__class__")))
   (hn:W.specialIn K (.builtin "object.__class__") "__get__"=some (some (.builtin "getset_descriptor.__get__"))) (htk:W.takesIn K (.builtin "object.__class__")=some true)
   (hm:W.mroIn K C (.type "object")=some true):DY K H (.ref a) (.ref C)
theorem J3 (I:Inv X pins σ H s)(rx:RelV x u)(ty:DY X.K H x t)(e:W.kitOne X.K t c=some b)(h:∀ tk,Q (.bool b) { s with toks:=tk }):
  wpAny (model X.prog X.w) A (call (.builtin "isinstance") [u,c]) Q E s:=by
 cases ty with
 | non=>cases (show u=Value.none from rx);exact W.kia_one W.kitx_none I.kIn True.intro e (λz=>nomatch z) h
 | bl y=>cases (show u=Value.bool y from rx);exact W.kia_one W.kitx_bool I.kIn True.intro e (λz=>nomatch z) h
 | int i=>obtain ⟨t,q⟩:=(show ∃ t,u=Value.int i t from rx);cases q;exact W.kia_one W.kitx_int I.kIn True.intro e (λz=>nomatch z) h
 | str y=>obtain ⟨t,q⟩:=(show ∃ t,u=Value.str y t from rx);cases q;exact W.kia_one W.kitx_str I.kIn True.intro e (λz=>nomatch z) h
 | flt y=>obtain ⟨t,q⟩:=(show ∃ t,u=Value.float y t from rx);cases q;exact W.kia_one W.kitx_float I.kIn True.intro e (λz=>nomatch z) h
 | @lst a xs ea =>
  cases (show u=Value.ref a from rx);obtain ⟨_,_,n,_,h1⟩:=(show B6 X.prog X.w H s.heap a (.lst xs) from I.hok a _ ea);exact W.kia_one W.kitx_list I.kIn ⟨_,h1,rfl⟩ e (λz=>nomatch z) h
 | @frz a ob xs ea =>
  cases (show u=Value.ref a from rx);obtain ⟨_,_,_,n,_,h1⟩:=(show B6 X.prog X.w H s.heap a (.frz ob (.lst xs)) from I.hok a _ ea);exact W.kia_one W.kitx_list I.kIn ⟨_,h1,rfl⟩ e (λz=>nomatch z) h
 | @tup a xs ea =>
  cases (show u=Value.ref a from rx);obtain ⟨_,_,_,p⟩:=(show B6 X.prog X.w H s.heap a (.tup xs) from I.hok a _ ea);obtain ⟨o,h1,h2,_⟩:=p;exact W.kia_one W.kitx_tuple I.kIn ⟨o,h1,h2⟩ e (λz=>nomatch z) h
 | @dK a kvs ea =>
  cases (show u=Value.ref a from rx);obtain ⟨_,_,vs,_,p⟩:=(show B6 X.prog X.w H s.heap a (.dK kvs) from I.hok a _ ea);obtain ⟨o,es,ep,h1,h2,_⟩:=p;exact W.kia_one W.kitx_dict I.kIn ⟨o,h1,h2.1⟩ e (λz=>nomatch z) h
 | @dT a kvs ea =>
  cases (show u=Value.ref a from rx);obtain ⟨_,_,xs,_,o,es,ep,h1,h2,_⟩:=(show B6 X.prog X.w H s.heap a (.dT kvs) from I.hok a _ ea);exact W.kia_one W.kitx_dict I.kIn ⟨o,h1,h2.1⟩ e (λz=>nomatch z) h
 | @ins a C dx fs ea cl ha hn htk hm =>
  cases (show u=Value.ref a from rx);obtain ⟨mA,O,_⟩:=G' I.hok ea;obtain ⟨od,J,_⟩:=O.look;exact W.kia_one (W.kitx_own (cl.get _) cl.hd ha hn htk hm) I.kIn J e (λz=>nomatch z) h
end
structure Ax (k:Nat)(A:Around):Prop where
 hd:A.handled=none
 dp:A.depth+2 * k+5 < recursionLimit
 un:A.units+16 * k+200 < cLine
theorem Ax.mono (r:Ax k A)(h:j<=k):Ax j A:=⟨r.hd,by have:=r.dp;omega,by have:=r.un;omega⟩
theorem Ax.deeper (r:Ax (k+1) A)(env:Env):Ax k (A.deeper env) :=
 ⟨r.hd,by have:=r.dp;show A.depth+1+2 * k+5 < _;omega,by have:=r.un;show A.units+3+16 * k+200 < _;omega⟩
theorem MQ {A:Around}{C:Addr}{us:List Value}{kw:List (Str × Value)}:(A.under (.builtin "type.__call__" ⟨.ref C::us,kw⟩)).depth=A.depth+1:=by
 first | rfl | simp [Around.under,Code.weight,Code.isCreation,Code.isGuard,Code.isCaller,Code.frames,Code.isFrame,guardIds]
theorem MR {A:Around}{C:Addr}{us:List Value}{kw:List (Str × Value)}:(A.under (.builtin "type.__call__" ⟨.ref C::us,kw⟩)).units=A.units+1:=by
 first | rfl | simp [Around.under,Code.cUnits,Code.frames,Code.isFrame]
theorem Ax.make (r:Ax (k+1) A)(C:Addr)(us:List Value)(kw:List (Str × Value)):Ax k (A.under (.builtin "type.__call__" ⟨.ref C::us,kw⟩)) :=
 ⟨r.hd,by have:=r.dp;rw [MQ];omega,by have:=r.un;rw [MR];omega⟩
theorem Ax.depth (r:Ax k A):A.depth < recursionLimit:=by have:=r.dp;omega
theorem Ax.units (r:Ax k A):A.units+64 < cLine:=by have:=r.un;omega
noncomputable def Di:TA:=λ_ H Q=>Q [] H
noncomputable def Br (ta:TE)(tr:TA):TA:=fun σ H Q=>ta σ H λx H1=>tr σ H1 λxs H2=>Q (x::xs) H2
section
variable {X:Cx}{e:Expr}{es:List Expr}{te:TE}{t:TA}{pos:Pos}
theorem MS:PA X [] Di:=λ_ _ _ _ H Q I h=>Calls.spliced_nil ⟨[],H,I,.nil,h⟩
theorem Hc (ha:PE X e te)(hr:PA X es t)(hs:starEach (e::es) X.env=(false,eval e X.env)::starEach es X.env:=by rfl):PA X (e::es) (Br te t):=by
 intro pos pins s σ H Q I h;rw [hs];show wpAny _ _ (spliced ((false,eval e X.env)::backTo pos (starEach es X.env))) _ _ s;refine OK (Bc (ha pins s σ H _ I h) λu s1 AR=>?_);obtain ⟨x,H1,I1,r1,q1⟩:=AR;exact Bc (hr pos pins s1 σ H1 _ I1 q1) λus s2 ⟨xs,H2,I2,r2,q2⟩=>⟨x::xs,H2,I2,.cons r1 r2,q2⟩
noncomputable def Q8 (t:TA):TE:=fun σ H Q=>t σ H λxs H1=>xs.length<=sizeLine/\∀ p,H1 p=none->Q (.ref p) (upd H1 p (.tup xs))
noncomputable def Zv (t:TA):TE:=fun σ H Q=>t σ H λxs H1=>xs.length<=sizeLine/\∀ p,H1 p=none->Q (.ref p) (upd H1 p (.lst xs))
theorem Zw {x1}(h:PA X es t):PE X (.Tuple es x1 pos) (Q8 t):=by
 intro pins s σ H Q I hq;refine wpAny_Tuple_spliced (Bc (h pos pins s σ H _ I hq) λus s1 AR=>?_);obtain ⟨xs,H1,I1,r,z,q⟩:=AR;refine ⟨by rw [<- r.length];exact z,?_⟩;have hf:H1 s1.heap.objs.size=none:=I1.hok.fresh (am _);refine ⟨.ref s1.heap.objs.size,upd H1 s1.heap.objs.size (.tup xs),I1.laid (t':=s1.toks) (λb u e=>ac _ e) (am _) ?_,rfl,q _ hf⟩;exact ⟨z,us,r,⟨_,io _ rfl,rfl,_,rfl⟩⟩
theorem Zx (h:PA X es t):PE X (.List es pos) (Zv t):=by
 intro pins s σ H Q I hq;refine wpAny_List_spliced (Bc (h pos pins s σ H _ I hq) λus s1 AR=>?_);obtain ⟨xs,H1,I1,r,z,q⟩:=AR;refine ⟨by rw [<- r.length];exact z,?_⟩;have hf:H1 s1.heap.objs.size=none:=I1.hok.fresh (am _);refine ⟨.ref s1.heap.objs.size,upd H1 s1.heap.objs.size (.lst xs),I1.laid (t':=s1.toks) (λb u e=>ac _ e) (am _) ?_,rfl,q _ hf⟩;exact ⟨z,us,0,r,io _ rfl⟩
end
abbrev Sp:=List V->Hp->VK->XK->Prop
abbrev Mw:=List Env->Hp->Shared->XK->Value->Shared->Prop
structure MT (P:Program)(w:World)(K:W.Frag)(mg:Str->Option Value)(base:Heap)(A:Around)(outer:List Env)(s:Shared)(H:Hp):Prop where
 frames:A.frames=some outer
 mod:Mod K mg base
 bs:∀ b o,base.get? b=some o->s.heap.get? b=some o/\H b=none
 bsz:base.objs.size<=s.heap.objs.size
 aa1:s.heap.FunFrames base outer
 frf:∀ b∈Mv outer,H b=none
 hok:DM P w H s.heap
 bare:AllBare s.gens
noncomputable def CE (outer:List Env)(P:Program)(w:World)(H:Hp)(s:Shared)(Q:VK)(u:Value)(s':Shared):Prop :=
 ∃ v H',s'.os=s.os/\AllBare s'.gens/\Un (Mv outer) [] H H' s.heap s'.heap/\DM P w H' s'.heap/\RelV v u/\Q v H'
noncomputable def CR (CX:Mw)(outer:List Env)(P:Program)(w:World)(H:Hp)(s:Shared)(Q:VK)(E:XK)(r:Result)(s':Shared):Prop :=
 match r with
 | .ok (.ret u)=>CE outer P w H s Q u s'
 | .ok _=>False
 | .error e=>CX outer H s E e s'
structure Au (P:Program)(w:World)(K:W.Frag)(mg:Str->Option Value)(base:Heap)(CX:Mw)(k:Nat)(f:Addr)(fd:FuncData)(ps:List Str)(sp:Sp):Prop where
 len:∀ vs H Q E,sp vs H Q E->vs.length=ps.length
 run:∀ (A:Around) (outer:List Env) (s:Shared) (H:Hp) (args:Args) (us:List Value) (vs:List V) (Q:VK) (E:XK),Ax k A->MT P w K mg base A outer s H->BindsTo s fd args (ps.zip us)->Vals vs us->sp vs H Q E ->
  codeAny (model P w) A (.call (.ref f) args) (CR CX outer P w H s Q E) s
theorem Au.mono {P:Program}{w:World}{K:W.Frag}{mg:Str->Option Value}{base:Heap}{CX:Mw}{j k:Nat}{f:Addr}{fd:FuncData}{ps:List Str}{sp:Sp}(F:Au P w K mg base CX j f fd ps sp)(h:j<=k):
  Au P w K mg base CX k f fd ps sp:=⟨F.len,λA outer s H args us vs Q E hr=>F.run A outer s H args us vs Q E (hr.mono h)⟩
theorem MT.make {P:Program}{w:World}{K:W.Frag}{mg:Str->Option Value}{base:Heap}{A:Around}{outer:List Env}{s:Shared}{H:Hp}(e:MT P w K mg base A outer s H)(C:Addr)(us:List Value)(kw:List (Str × Value)):
  MT P w K mg base (A.under (.builtin "type.__call__" ⟨.ref C::us,kw⟩)) outer s H:=⟨by first | exact e.frames | (simpa [Around.under,Code.envs,Code.isFrame,pushEnvs] using e.frames),e.mod,e.bs,e.bsz,e.aa1,e.frf,e.hok,e.bare⟩
section
variable {X:Cx}{pins:List (Addr × Obj)}{σ:St}{H:Hp}{s s':Shared}
theorem Inv.ab0 (I:Inv X pins σ H s):MT X.prog X.w X.K X.mg X.base X.A X.stack s H :=
 ⟨I.ok.frames,I.ok.mod,I.bs,ce I.ok.bsz I.sz,I.stack,I.aa3,I.hok,I.bare⟩
theorem Inv.after (I:Inv X pins σ H s)(h:CE X.stack X.prog X.w H s Q u s'):EP X pins σ Q u s':=by
 obtain ⟨v,H',os,bare,un,hok,r,q⟩:=h;obtain ⟨hh,g,d,t,sF⟩:=s';obtain rfl:sF=s.os:=os;exact ⟨v,H',I.call (h':=hh) (g':=g) (d':=d) (t':=t) (ch:=[]) un hok bare (λb z=>absurd z (by simp)),r,q⟩
end
noncomputable def FF (sp:Sp)(II:List V)(E:XK)(t:TA):TE:=fun σ H Q=>t σ H λvs H1=>sp (vs++II) H1 Q E
noncomputable def DD (C:Addr)(m:Str)(sp:Sp)(II:List V)(E:XK)(ta:TE)(t:TA):TE:=fun σ H Q=>ta σ H λx H1=>∃ a dx fs,x=.ref a/\H1 a=some (.ins C dx fs)/\fs.lookup m=none /\
 t σ H1 λvs H2=>sp (x::(vs++II)) H2 Q E
noncomputable def Yd (C:Addr)(sp:Sp)(II:List V)(E:XK)(t:TA):TE:=fun σ H Q=>t σ H λvs H1=>∀ x dx,H1 x=none->H1 dx=none->dx≠x ->
 sp (.ref x::(vs++II)) (upd (upd H1 dx (.own x)) x (.ins C dx [])) (λv H2=>v=.non/\Q (.ref x) H2) E
noncomputable def Binds (K:W.Frag)(fd:FuncData)(ps:List Str)(ds:List Value):Prop :=
 ∀ (s:Shared) (us:List Value),K.In s.heap->(us++ds).length=ps.length->BindsTo s fd ⟨us,[]⟩ (ps.zip (us++ds))
theorem Binds.all {K:W.Frag}{fd:FuncData}{ps:List Str}(h:∀ us:List Value,us.length=ps.length->bindArgs fd ⟨us,[]⟩=pure (ps.zip us)):Binds K fd ps []:=λs us _ hl=>by
 rw [G2] at hl ⊢;exact .of_eq (h us hl)
noncomputable def Passes (CX:Mw)(X:Cx)(E:XK):Prop:=∀ (pins:List (Addr × Obj)) (σ:St) (H:Hp) (s:Shared) (e:Value) (s':Shared),Inv X pins σ H s->CX X.stack H s E e s'->X.xe e s'
section
variable {X:Cx}{CX:Mw}{k:Nat}{f C:Addr}{fd:FuncData}{ps:List Str}{sp:Sp}{II:List V}{ds:List Value}{E:XK}{x m:Str}{p pos apos:Pos}{e o:Expr}{es:List Expr}{ta:TE}{t:TA}
theorem JL (F:Au X.prog X.w X.K X.mg X.base CX k f fd ps sp)(hr:Ax k X.A)(hb:Binds X.K fd ps ds)(hd:Vals II ds)(hx:Passes CX X E)(I:Inv X pins σ H s)(r:Vals vs us)(h:sp (vs++II) H Q E):wpAny (model X.prog X.w) X.A (call (.ref f) us) (EP X pins σ Q) X.xe s:=by
 have r2:Vals (vs++II) (us++ds):=r.append hd;have hl:(us++ds).length=ps.length:=by rw [<- r2.length];exact F.len _ _ _ _ h
 refine wpAny_call (codeAny_mono (F.run X.A X.stack s H ⟨us,[]⟩ (us++ds) (vs++II) Q E hr I.ab0 (hb s us I.kIn hl) r2 h) λr s' hq=>?_);cases r with
 | error e=>exact hx pins σ H s e s' I hq
 | ok fl =>
  cases fl with
  | ret u=>exact I.after hq
  | next=>exact False.elim hq
  | brk=>exact False.elim hq
  | cont=>exact False.elim hq
theorem Oq (F:Au X.prog X.w X.K X.mg X.base CX k f fd ps sp)(hr:Ax k X.A)(hg:Gl X x)(hm:X.mg x=some (.ref f))(hk:W.keepIn X.K (.ref f)=true)(hb:Binds X.K fd ps ds)(hd:Vals II ds)(hx:Passes CX X E)(ha:PA X (e::es) t)(Ef:(x==("__debug__":Str))=false:=by decide)(he:starEach (e::es) X.env=(false,eval e X.env)::starEach es X.env:=by rfl)(Er:(backTo pos (starEach es X.env)).any (·.1)=false:=by rfl) :
  PE X (.Call (.Name x p) (e::es) [] pos) (FF sp II E t):=by
 intro pins s σ H Q I h;refine FS (JG I hg hm ?_ Ef);refine W.callWith_K (h₀:=X.base) I.ok.mod.kin hk (Bc (ha pos pins s σ H _ I h) λus s1 AR=>?_) he Er;obtain ⟨vs,H1,I1,r,q⟩:=AR;refine ⟨I1.kIn,?_⟩;exact JL F hr hb hd hx I1 r q
theorem Ot (he:PE X o ta)(c:ID X.K C)(hm:Meth X.K C m f)(F:Au X.prog X.w X.K X.mg X.base CX k f fd ps sp)(hr:Ax k X.A)(hb:Binds X.K fd ps ds)(hd:Vals II ds)(hx:Passes CX X E)(ha:PA X (e::es) t)(JJ:starEach (e::es) X.env=(false,eval e X.env)::starEach es X.env:=by rfl)(Er:(backTo pos (starEach es X.env)).any (·.1)=false:=by rfl)(ht:eval (.Call (.Attribute o m apos) (e::es) [] pos) X.env=(do
   let ov <- eval o X.env
   standAt apos.atName
   let (f,first) <- holding [ov] (getMethod ov m pl)
   callWith pos f first (backTo pos (starEach (e::es) X.env)) (backToKw pos (keywordEach [] X.env))):=by rfl) :
  PE X (.Call (.Attribute o m apos) (e::es) [] pos) (DD C m sp II E ta t):=by
 intro pins s σ H Q I h;refine W.methodCall_KW (pl:=pl) (Bc (he pins s σ H _ I h) λu s1 AR=>?_) ht;obtain ⟨x,H1,I1,rx,a,dx,fs,ex,ea,l,q⟩:=AR;subst ex;obtain rfl:u=Value.ref a:=rx;refine Fm I1 ea c hm l ?_;refine W.callWith_K (first:=[.ref a]) (h₀:=X.base) I.ok.mod.kin hm.kp (Bc (ha pos pins s1 σ H1 _ I1 q) λus s2 AR=>?_) JJ Er
 obtain ⟨vs,H2,I2,r,q2⟩:=AR;refine ⟨I2.kIn,?_⟩;exact JL (us:=.ref a::us) (vs:=.ref a::vs) F hr hb hd hx I2 (.cons rfl r) q2
theorem Lb (he:PE X o ta)(c:ID X.K C)(hm:Meth X.K C m f)(F:Au X.prog X.w X.K X.mg X.base CX k f fd ps sp)(hr:Ax k X.A)(hb:Binds X.K fd ps ds)(hd:Vals II ds)(hx:Passes CX X E)(ht:eval (.Call (.Attribute o m apos) [] [] pos) X.env=(do
   let ov <- eval o X.env
   standAt apos.atName
   let (f,first) <- holding [ov] (getMethod ov m pl)
   callWith pos f first (backTo pos (starEach [] X.env)) (backToKw pos (keywordEach [] X.env))):=by rfl) :
  PE X (.Call (.Attribute o m apos) [] [] pos) (DD C m sp II E ta Di):=by
 intro pins s σ H Q I h;refine W.methodCall_KW (pl:=pl) (Bc (he pins s σ H _ I h) λu s1 AR=>?_) ht;obtain ⟨x,H1,I1,rx,a,dx,fs,ex,ea,l,q⟩:=AR;subst ex;obtain rfl:u=Value.ref a:=rx;refine Fm I1 ea c hm l ?_;exact W.callWith_K0 (first:=[.ref a]) I1.kIn hm.kp (JL (us:=[.ref a]) (vs:=[.ref a]) F hr hb hd hx I1 (.cons rfl .nil) q)
structure Mk (K:W.Frag)(C f:Addr):Prop where
 makes:W.makesIn K C=true
 init:W.findIn K (.ref C) "__init__"=some (some (.ref f))
 fn:W.isFn K (.ref f)=true
 kp:W.keepIn K (.ref C)=true
theorem RS (M:Mk X.K C f)(F:Au X.prog X.w X.K X.mg X.base CX k f fd ps sp)(hr:Ax (k+1) X.A)(hb:Binds X.K fd ps ds)(hd:Vals II ds)(hx:Passes CX X E)(I:Inv X pins σ H s)(r:Vals vs us)(h:∀ x dx,H x=none->H dx=none->dx≠x->sp (.ref x::(vs++II)) (upd (upd H dx (.own x)) x (.ins C dx [])) (λv H2=>v=.non/\Q (.ref x) H2) E) :
  wpAny (model X.prog X.w) X.A (call (.ref C) us) (EP X pins σ Q) X.xe s:=by
 have hq:=h (s.heap.objs.size+1) s.heap.objs.size (I.hok.fresh (IR _)) (I.hok.fresh (am _)) (dL (Nat.lt_succ_self _));have I2:=Inv.made (C:=C) I;have r2:Vals (V.ref (s.heap.objs.size+1)::(vs++II)) (Value.ref (s.heap.objs.size+1)::(us++ds)):=.cons rfl (r.append hd);have hl:(Value.ref (s.heap.objs.size+1)::us++ds).length=ps.length:=by
  have e:=r2.length;rw [F.len _ _ _ _ hq] at e;exact e.symm
 refine wpAny_call (RQ (f:=f) I.kIn M.makes M.init (beq_iff_eq.mp M.fn) (codeAny_mono (F.run _ X.stack _ _ ⟨Value.ref (s.heap.objs.size+1)::us,[]⟩ (Value.ref (s.heap.objs.size+1)::(us++ds)) _ _ E (hr.make C us [])
  (I2.ab0.make C us []) (hb _ (Value.ref (s.heap.objs.size+1)::us) I2.kIn hl) r2 hq) λr s' Zy=>?_))
 cases r with
 | error e=>exact hx pins σ _ _ e s' I2 Zy
 | ok fl =>
  cases fl with
  | ret u =>
   obtain ⟨v,H',I3,rv,ev,q3⟩:=I2.after Zy;subst ev;exact ⟨rv,⟨V.ref (s.heap.objs.size+1),H',I3,rfl,q3⟩⟩
  | next=>exact False.elim Zy
  | brk=>exact False.elim Zy
  | cont=>exact False.elim Zy
theorem RT (M:Mk X.K C f)(F:Au X.prog X.w X.K X.mg X.base CX k f fd ps sp)(hr:Ax (k+1) X.A)(hg:Gl X x)(hm:X.mg x=some (.ref C))(hb:Binds X.K fd ps ds)(hd:Vals II ds)(hx:Passes CX X E)(Ef:(x==("__debug__":Str))=false:=by decide):PE X (.Call (.Name x p) [] [] pos) (Yd C sp II E Di):=by
 intro pins s σ H Q I h;refine FS (JG I hg hm ?_ Ef);exact W.callWith_K0 I.kIn M.kp (RS (us:=[]) M F hr hb hd hx I .nil h)
end
structure Am (N P:List Str)(sc:Scope):Prop where
 kind:sc.kind=.function
 co:sc.isCoroutine=false
 gen:sc.isGenerator=false
 nd:N.Nodup
 pre:N.take P.length=P
 par:∀ x∈P,sc.names.lookup x=some .local\/sc.names.lookup x=some .cell
 abl:∀ y∈sc.names,y.2≠.free
theorem J4 {kindOf:Str->Option NameKind}{x:Str}:∀ {binds:List (Str × Value)} {m:Str->Option Value},(∀ v,(x,v)∉binds)->bindL kindOf binds m x=m x
 | [],_,_=>rfl
 | (n,v)::r,m,h=>by
  unfold bindL;rw [J4 λw hw=>h w (Da _ hw)];split
  ·have:x≠n:=(by rintro rfl;exact h v Db);simp [this]
  ·rfl
theorem J5 {kindOf:Str->Option NameKind}{x:Str}:∀ {binds:List (Str × Value)} {m:Str->Option Value},(∀ v,(x,v)∉binds)->bindC kindOf binds m x=m x
 | [],_,_=>rfl
 | (n,v)::r,m,h=>by
  unfold bindC;rw [J5 λw hw=>h w (Da _ hw)];split
  ·rfl
  ·have:x≠n:=(by rintro rfl;exact h v Db);simp [this]
theorem J6 {kindOf:Str->Option NameKind}{x:Str}{v:Value}:∀ {P:List Str} {vs:List Value} {i:Nat} {m:Str->Option Value},P.Nodup->P[i]?=some x->vs[i]?=some v->kindOf x=some .local ->
  bindL kindOf (P.zip vs) m x=some v
 | [],_,_,_,_,h,_,_=>by simp at h
 | _::_,[],_,_,_,_,h,_=>by simp at h
 | p::P,w::vs,0,m,nd,h1,h2,hk=>by
  simp at h1 h2;subst h1;subst h2;show bindL kindOf ((p,w)::P.zip vs) m p=_;unfold bindL;rw [J4 λv hv=>(Ix.mp nd).1 (List.of_mem_zip hv).1,if_pos hk];simp
 | p::P,w::vs,i+1,m,nd,h1,h2,hk=>by
  show bindL kindOf ((p,w)::P.zip vs) m x=_;unfold bindL;exact J6 (i:=i) (Ix.mp nd).2 (by simpa using h1) (by simpa using h2) hk
theorem J7 {kindOf:Str->Option NameKind}{x:Str}{v:Value}:∀ {P:List Str} {vs:List Value} {i:Nat} {m:Str->Option Value},P.Nodup->P[i]?=some x->vs[i]?=some v->kindOf x≠some .local ->
  bindC kindOf (P.zip vs) m x=some v
 | [],_,_,_,_,h,_,_=>by simp at h
 | _::_,[],_,_,_,_,h,_=>by simp at h
 | p::P,w::vs,0,m,nd,h1,h2,hk=>by
  simp at h1 h2;subst h1;subst h2;show bindC kindOf ((p,w)::P.zip vs) m p=_;unfold bindC;rw [J5 λv hv=>(Ix.mp nd).1 (List.of_mem_zip hv).1,if_neg hk];simp
 | p::P,w::vs,i+1,m,nd,h1,h2,hk=>by
  show bindC kindOf ((p,w)::P.zip vs) m x=_;unfold bindC;exact J7 (i:=i) (Ix.mp nd).2 (by simpa using h1) (by simpa using h2) hk
noncomputable def start (N:List Str)(vs:List V):St:=vs.map some++List.replicate (N.length - vs.length) none
noncomputable def Dt (CX:Mw)(P:Program)(w:World)(K:W.Frag)(mg:Str->Option Value)(base:Heap)(N:List Str)(qual:Str)(scope:Scope)(f:Addr)(cd:Value)(A:Around)(outer:List Env)(s:Shared)(H:Hp)(E:XK):Cx where
 prog:=P
 w:=w
 K:=K
 mg:=mg
 base:=base
 A:=A.deeper (envOfC qual scope s.heap.objs.size f cd)
 N:=N
 s₀:=s
 H₀:=H
 env:=envOfC qual scope s.heap.objs.size f cd
 outer:=outer
 stack:=envOfC qual scope s.heap.objs.size f cd::outer
 ex:=[]
 calm:=true
 fn:=λ_=>true
 pn:=[]
 xe:=λe s'=>wpAny (model P w) (A.deeper (envOfC qual scope s.heap.objs.size f cd)) (leaving (envOfC qual scope s.heap.objs.size f cd) e) (λ_ Ou=>CX outer H s E e Ou) (λe' Ou=>CX outer H s E e' Ou) s'
theorem Lc {sc:Scope}{n:Nat}{x:Str}(h:sc.names.lookup x=some .cell):∃ c,(cellsFrom n sc.names []).lookup x=some c:=by
 have q:=W.cellsFrom_some sc.names n [] (.inl h);exact Option.isSome_iff_exists.mp q
theorem Q9 {CX:Mw}{P:Program}{w:World}{K:W.Frag}{mg:Str->Option Value}{base:Heap}{N ps:List Str}{qual:Str}{scope:Scope}{f:Addr}{cd:Value}{A:Around}{outer:List Env}{s s1:Shared}{H:Hp}{E:XK}{us:List Value}{vs:List V}
  (S:Am N ps scope) (hd:A.handled=none) (e0:MT P w K mg base A outer s H) (hl:vs.length=ps.length) (r:Vals vs us)
  (x:InCallC s s.heap.objs.size (bindL (envOfC qual scope s.heap.objs.size f cd).kindOf (ps.zip us) λ_=>none) (cellsFrom (s.heap.objs.size+1) scope.names []) (bindC (envOfC qual scope s.heap.objs.size f cd).kindOf (ps.zip us) λ_=>none) s1) :
  Inv (Dt CX P w K mg base N qual scope f cd A outer s H E) [] (start N vs) H s1:=by
 have Er:ps.length<=N.length:=by have:=congrArg List.length S.pre;rw [pc] at this;omega
 obtain ⟨h1,tk,rfl,hk⟩:=x.done;have Zz:∀ b:Addr,b∉(Dt CX P w K mg base N qual scope f cd A outer s H E).ex:=λb z=>absurd (show b∈([]:List Addr) from z) (by simp);refine ⟨⟨e0.mod,S.kind,rfl,rfl,am _,λy z c h1 h2=>?_,λy hy=>?_,λy c _ h=>?_,λ_=>hd,Around.frames_deeper e0.frames,.inr ⟨rfl,rfl⟩,λb z=>absurd z (Zz b),e0.bs,e0.bsz,λb _ _=>Zz b,λb z=>absurd z (Zz b),e0.aa1,e0.frf⟩,
  rfl,e0.bare,Un.kept hk,⟨_,x.toInCall.ns,λi y v h1 h2 h3=>?_⟩,λy c h=>⟨_,x.cell y c h⟩,e0.hok.fresh (am _),λy c h=>?_,λp hp=>absurd (show p∈([]:List (Addr × Obj)) from hp) (by simp),e0.hok.kept hk,?_⟩
 ·exact name_of_addr x.apart (PySem.mem_of_lookup h1) (PySem.mem_of_lookup h2)
 ·have hy:scope.names.lookup y=some .cell\/scope.names.lookup y=some .free:=hy;rcases hy with hy | hy
  ·exact Lc hy
  ·exact absurd rfl (S.abl _ (PySem.mem_of_lookup hy))
 ·exact Nat.le_of_lt (x.above y c (PySem.mem_of_lookup h))
 ·have hi:i < vs.length:=by
   unfold start at h2;by_cases hi:i < vs.length
   ·exact hi
   ·rw [Gc (by simpa using hi)] at h2;rw [List.getElem?_replicate] at h2;split at h2 <;> cases h2
  have ha:vs[i]?=some v:=by
   unfold start at h2;rw [GE (by simpa using hi),jp] at h2;cases e:vs[i]? with
   | none=>rw [e] at h2;cases h2
   | some a=>rw [e] at h2;cases h2;rfl
  obtain ⟨u,hu,rv⟩:=r.get ha;have hp:ps[i]?=some y:=by
   rw [<- S.pre,List.getElem?_take_of_lt ()];exact h1
  have ndP:ps.Nodup:=by rw [<- S.pre];exact S.nd.sublist (List.take_sublist _ _)
  refine ⟨u,rv,?_⟩;rcases S.par y (ci hp) with k | k
  ·exact .inl ⟨k,J6 ndP hp hu k⟩
  ·obtain ⟨c,e⟩:=Lc (n:=s.heap.objs.size+1) k;refine .inr ⟨.inl k,c,e,?_⟩;have q:=x.cell y c e;rw [J7 ndP hp hu (by show scope.names.lookup y≠_;rw [k];decide)] at q;exact q
 ·exact e0.hok.fresh (Nat.le_of_lt (x.above y c (PySem.mem_of_lookup h)))
 ·unfold start;show _=N.length;rw [ca,ba,List.length_replicate];omega
theorem jb {CX:Mw}{P:Program}{w:World}{K:W.Frag}{mg:Str->Option Value}{base:Heap}{k:Nat}{f:Addr}{name qual:Str}{params:Arguments}{body:List Stmt}{scope:Scope}{dV kV doc pm Be ct oc:Value}{an od:Option Addr}
  {Ye:Array (Option Value)} {N ps:List Str} {sp:Sp} (lk:K.lookup f=some ⟨oc,od,.func (W.fnOf name qual params body scope dV kV doc pm an Be ct),Ye⟩) (MG:W.codeIn K Be qual=true) (S:Am N ps scope)
  (len:∀ vs H Q E,sp vs H Q E->vs.length=ps.length)
  (Ld:∀ (A:Around) (outer:List Env) (s:Shared) (H:Hp) (vs:List V) (Q:VK) (E:XK),Ax k (A.deeper (envOfC qual scope s.heap.objs.size f Be))->sp vs H Q E ->
   ∃ t,Oa (Dt CX P w K mg base N qual scope f Be A outer s H E) body t/\t { nx:=λ_ H'=>Q .non H',rt:=Q } (start N vs) H) :
  Au P w K mg base CX (k+1) f (W.fnOf name qual params body scope dV kV doc pm an Be ct) ps sp:=by
 refine ⟨len,λA outer s H args us vs Q E hr e0 hb r gX=>?_⟩;have hl:=len _ _ _ _ gX;have KX:K.In s.heap:=e0.mod.kin.keeps λb o e=>(e0.bs b o e).1;have lim:s.heap.NoLimit:=e0.mod.nolimit.keeps λb o e=>(e0.bs b o e).1;have jc:∀ y∈ps.zip us,scope.names.lookup y.1=some .local\/(scope.names.lookup y.1=some .cell/\((cellsFrom (s.heap.objs.size+1) scope.names []).lookup y.1).isSome=true):=λ⟨n,v⟩ hy=>by
  rcases S.par n (List.of_mem_zip hy).1 with q | q
  ·exact .inl q
  ·exact .inr ⟨q,W.cellsFrom_some _ _ _ (.inl q)⟩
 refine codeAny_call_function hr.depth (KX _ _ lk) rfl S.co S.gen rfl (W.codeRec_of KX MG) (hb _ _ _ _ ?_);refine wpAny_newFunctionEnv_cells S.kind jc λenv he s1 x=>?_;subst he;refine ⟨lim.keeps x.toInCall.keep,codeAny_func ?_⟩;obtain ⟨t,ht,hq⟩:=Ld A outer s H vs Q E (hr.deeper _) gX;have I:Inv (Dt CX P w K mg base N qual scope f Be A outer s H E) [] (start N vs) H s1:=Q9 S hr.hd e0 hl r x;refine OH (ht [] s1 (start N vs) H _ I hq) (λfl s' hs=>?_) λe s' hs=>hs;have fin:∀ {σ':St} {H':Hp} {v:V} {u:Value},Inv (Dt CX P w K mg base N qual scope f Be A outer s H E) [] σ' H' s'->RelV v u->Q v H'->CE outer P w H s Q u s' :=
  λ{σ' H' v u} J rv q=>⟨v,H',J.os,J.bare,J.base,J.hok,rv,q⟩
 cases fl with
 | ret u =>
  obtain ⟨v,σ',H',J,rv,q⟩:=hs;exact fin J rv q
 | next =>
  obtain ⟨σ',H',J,q⟩:=hs;exact fin (v:=V.non) (u:=Value.none) J rfl q
 | brk =>
  obtain ⟨_,_,_,q⟩:=hs;exact False.elim q
 | cont =>
  obtain ⟨_,_,_,q⟩:=hs;exact False.elim q
section
variable {X:Cx}{x:Str}{p pos:Pos}{e:Expr}{es:List Expr}{t:TA}{id T:String}{r:List V->Hp->VK->Prop}
noncomputable def ZA (r:List V->Hp->VK->Prop)(t:TA):TE:=fun σ H Q=>t σ H λvs H1=>r vs H1 Q
theorem Lg (hc:Ds X (.builtin id) r)(hg:Gl X x)(hm:X.mg x=none)(hv:bootBuiltins x=some (.builtin id))(ha:PA X (e::es) t)(hn:x≠"__name__":=by decide)(Ef:(x==("__debug__":Str))=false:=by decide)(he:starEach (e::es) X.env=(false,eval e X.env)::starEach es X.env:=by rfl)(Er:(backTo pos (starEach es X.env)).any (·.1)=false:=by rfl):PE X (.Call (.Name x p) (e::es) [] pos) (ZA r t):=by
 intro pins s σ H Q I h;refine FS (CU I hg hm hv ?_ hn Ef);exact PyProof.Rows.callWith_builtin1 (Bc (ha pos pins s σ H _ I h) λus s1 ⟨vs,H1,I1,r1,q1⟩=>hc pins s1 σ H1 vs us Q I1 r1 q1) he Er
theorem Qa (hc:Ds X (.type T) r)(hg:Gl X x)(hm:X.mg x=none)(hv:bootBuiltins x=some (.type T))(ha:PA X (e::es) t)(hn:x≠"__name__":=by decide)(Ef:(x==("__debug__":Str))=false:=by decide)(he:starEach (e::es) X.env=(false,eval e X.env)::starEach es X.env:=by rfl)(Er:(backTo pos (starEach es X.env)).any (·.1)=false:=by rfl):PE X (.Call (.Name x p) (e::es) [] pos) (ZA r t):=by
 intro pins s σ H Q I h;refine FS (CU I hg hm hv ?_ hn Ef);exact u8 (Bc (ha pos pins s σ H _ I h) λus s1 ⟨vs,H1,I1,r1,q1⟩=>hc pins s1 σ H1 vs us Q I1 r1 q1) he Er
end
end L2
namespace HT
open PySem PyProof.Rows
section
variable {prog:Program}{w:World}{A:Around}{E:Value->Shared->Prop}{s:Shared}
theorem abg (ht:IsTup s.heap t vs.toArray)(hb:IsTup s.heap b ws.toArray)(hv:vs≠[])(h1:ws=[]->Q (.ref t) s)(h2:ws≠[]->Q (.ref s.heap.objs.size) { s with heap:=s.heap.push { cls:=.type "tuple",data:=.seq (vs++ws).toArray } })(hsz:vs.length+ws.length<=sizeLine):wpAny (model prog w) A (binaryOp .Add (.ref t) (.ref b)) Q E s:=by
 obtain ⟨⟨cls,dd,data,sl⟩,ho,hc,n,hd⟩:=id ht;obtain ⟨⟨Afj,sG,data2,sl2⟩,Yf,hc2,n2,hd2⟩:=id hb;simp only at hc hd hc2 hd2;subst hc hd hc2 hd2;have e:vs.toArray++ws.toArray=(vs++ws).toArray:=by simp
 by_cases hw:ws=[]
 ·exact concat_meets ⟨_,ho,rfl⟩ ⟨_,Yf,rfl⟩ noFill_tuple_add seq_tuple_add PySem.F.slot_tuple_add PySem.F.entry_tuple_add (PySem.F.args_tuple_add_2 _ _)
   (tuple_addW1 t b vs.toArray ws.toArray n n2 dd sG sl sl2 (by simpa using hv) (by simp [hw])) ⟨ho,Yf,h1 hw⟩
 ·refine concat_meets ⟨_,ho,rfl⟩ ⟨_,Yf,rfl⟩ noFill_tuple_add seq_tuple_add PySem.F.slot_tuple_add PySem.F.entry_tuple_add (PySem.F.args_tuple_add_2 _ _)
   (tuple_addW2 t b vs.toArray ws.toArray n n2 dd sG sl sl2 (by simpa using hv) (by simpa using hw) (by rw [f8,f8];exact hsz)) ⟨ho,Yf,?_⟩
  rw [e];exact h2 hw
noncomputable def sIx (n d:Nat):Option Int->Nat
 | none=>d
 | some v=>if v < 0 then (v+(n:Int)).toNat else min v.toNat n
theorem abh (n d k:Nat):sIx n d (some (k:Int))=min k n:=by
 show (if (k:Int) < 0 then ((k:Int)+(n:Int)).toNat else min (k:Int).toNat n)=min k n
 rw [if_neg (),Q2]
theorem ZC (n d:Nat)(hd:d<=n)(o:Option Int):sIx n d o<=n:=by
 cases o with
 | none=>exact hd
 | some v =>
  show (if v < 0 then (v+(n:Int)).toNat else min v.toNat n)<=n
  by_cases hv:v < 0
  ·rw [if_pos hv];omega
  ·rw [if_neg hv];exact Nat.min_le_right _ _
theorem Ov (v:Int)(n d:Nat):(if v < 0 then max (v+(n:Int)) 0 else min v (n:Int))=((sIx n d (some v):Nat):Int):=by
 show (if v < 0 then max (v+(n:Int)) 0 else min v (n:Int))=(((if v < 0 then (v+(n:Int)).toNat else min v.toNat n):Nat):Int)
 by_cases hv:v < 0
 ·simp only [if_pos hv];omega
 ·simp only [if_neg hv];omega
theorem MU (lo hi:Option Int)(n:Nat):Builtin.Slice.sliceAdjust lo hi 1 (n:Int)=(((sIx n 0 lo:Nat):Int),((sIx n n hi:Nat):Int)):=by
 have h1:¬ ((1:Int) < 0):=by omega
 unfold Builtin.Slice.sliceAdjust;simp only [h1,if_false];refine Prod.ext ?_ ?_
 ·cases lo with
  | none=>rfl
  | some v=>exact Ov v n 0
 ·cases hi with
  | none=>rfl
  | some v=>exact Ov v n n
theorem MV (i j:Nat):Builtin.Slice.slicePlaces (i:Int) (j:Int) 1=j - i:=by
 unfold Builtin.Slice.slicePlaces;have h1:(1:Int) > 0:=by omega
 simp only [h1,if_true,Int.ediv_one];split <;> omega
theorem Hz (p:IsPart v o)(h:Q o s):wpAny (model prog w) A (Builtin.Slice.slicePartIndex v) Q E s:=by
 cases p with
 | none=>exact slicePart_none h
 | int i t=>exact slicePart_int h
theorem G9 {sl:Addr}{vl vu:Value}{lo hi:Option Int}{n:Nat}{Q:Int × Int × Nat->Shared->Prop}(hs:s.heap.IsSliceOf sl vl vu .none)(pl:IsPart vl lo)(pu:IsPart vu hi)
  (h:Q (((sIx n 0 lo:Nat):Int),1,sIx n n hi - sIx n 0 lo) s):wpAny (model prog w) A (Builtin.Slice.sliceApplied (.ref sl) (pure (n:Int))) Q E s:=by
 obtain ⟨os,ZD,hcs,jd⟩:=id hs;unfold Builtin.Slice.sliceApplied Builtin.Slice.sliceFields;refine aa (aa (At ZD jd (x:=vl) rfl (aa (At ZD jd (x:=vu) rfl (aa (At ZD jd (x:=.none) rfl (bv ?_)))))));refine aa (slicePart_none ?_);show wpAny _ _ (if ((1:Int)==0)=true then _ else _) _ _ s
 rw [if_neg ⟨⟩];refine aa (Hz pl (aa (Hz pu (aa (bv ?_)))));show wpAny _ _ (match Builtin.Slice.sliceAdjust lo hi 1 (n:Int) with | (lo,hi)=>pure (lo,(1:Int),Builtin.Slice.slicePlaces lo hi 1)) _ _ s
 rw [MU lo hi n];show wpAny _ _ (pure (((sIx n 0 lo:Nat):Int),(1:Int),Builtin.Slice.slicePlaces ((sIx n 0 lo:Nat):Int) ((sIx n n hi:Nat):Int) 1)) _ _ s;rw [MV];exact bv h
theorem RU (xs:Array Value)(i k:Nat):((List.range k).filterMap λ(m:Nat)=>xs[((i:Int)+(m:Int) * 1).toNat]?).toArray=((xs.toList.drop i).take k).toArray:=by
 have e:(λ(m:Nat)=>xs[((i:Int)+(m:Int) * 1).toNat]?)=λm=>xs[i+m]?:=by
  funext m
  have:((i:Int)+(m:Int) * 1).toNat=i+m:=by omega
  rw [this]
 rw [e];have:=pick_run xs i k;rw [List.filterMap_map] at this;have e2:((λx=>xs[x]?) ∘ λx=>i+x)=λm=>xs[i+m]?:=rfl;rw [e2] at this;rw [this]
theorem aak {t sl:Addr}{items:Array Value}{vl vu:Value}{lo hi:Option Int}{Q:Value->Shared->Prop}(ht:IsTup s.heap t items)(hs:s.heap.IsSliceOf sl vl vu .none)(pl:IsPart vl lo)(pu:IsPart vu hi)
  (hw:¬ (sIx items.size 0 lo=0/\sIx items.size items.size hi=items.size))
  (h:Q (.ref s.heap.objs.size) { s with heap:=s.heap.push { cls:=.type "tuple",data:=.seq ((items.toList.drop (sIx items.size 0 lo)).take (sIx items.size items.size hi - sIx items.size 0 lo)).toArray } })
  (hsz:items.size<=sizeLine):wpAny (model prog w) A (getItem (.ref t) (.ref sl)) Q E s:=by
 have Ow:sizeOk (.seq ((items.toList.drop (sIx items.size 0 lo)).take (sIx items.size items.size hi - sIx items.size 0 lo)).toArray):=by
  show ((items.toList.drop (sIx items.size 0 lo)).take (sIx items.size items.size hi - sIx items.size 0 lo)).toArray.size<=sizeLine;rw [f8,pc,List.length_drop,Array.length_toList];omega
 have hj:sIx items.size items.size hi<=items.size:=ZC _ _ (am _) hi;obtain ⟨os,ZD,hcs,jd⟩:=id hs;have hTs:s.TypeIs (.ref sl) "slice":=⟨os,ZD,hcs⟩;unfold getItem
 try with_reducible refine Go ?_
 first | refine aa (bv ?_) | skip
 refine aa (wpAny_sequenceKey ht.typeIs ⟨⟩ ?_);refine aa (Fk (name:=Str.ofString "__getitem__") ht.typeIs PyProof.Rows.slot_tuple_getitem
  (Su PyProof.Rows.slot_tuple_getitem ht.typeIs entry_tuple_getitem ?_ (args_tuple_getitem _ _)))
 show wpAny _ _ (Builtin.Tuple.tupleItemsOf (.ref t) >>= _) _ _ s;refine aa (tupleItemsOf_ ht ?_);refine aa (wpAny_typeOf hTs ?_);rw [if_pos ⟨⟩];refine aa (G9 hs pl pu ?_);have hno:¬ ((((sIx items.size 0 lo:Nat):Int)==0 && (1:Int)==1 && (sIx items.size items.size hi - sIx items.size 0 lo)==items.size)=true):=by
  intro q;rw [Ev,Ev] at q;have q1:((sIx items.size 0 lo:Nat):Int)=0:=eq_of_beq q.1.1;have q2:sIx items.size items.size hi - sIx items.size 0 lo=items.size:=eq_of_beq q.2;exact hw ⟨(),()⟩
 show wpAny _ _ (if (((sIx items.size 0 lo:Nat):Int)==0 && (1:Int)==1 && (sIx items.size items.size hi - sIx items.size 0 lo)==items.size)=true then _ else _) _ _ s
 rw [if_neg hno,RU]
 first
  | exact aa (m:=Builtin.Tuple.tupleExact _) (NE (bv ⟨_,rfl,bv h⟩) Ow)
  | exact aa (m:=Builtin.Tuple.tupleExact _) (NE (aa (bv (bv ⟨_,rfl,bv h⟩))) Ow)
  | exact aa (aa (m:=Builtin.Tuple.tupleExact _) (NE (bv (bv ⟨_,rfl,bv h⟩)) Ow))
  | exact aa (aa (m:=Builtin.Tuple.tupleExact _) (NE (bv ⟨_,rfl,bv h⟩) Ow))
end
end HT
namespace L2
open PySem PySem.Spec PyProof.Rows
abbrev TO:=St->Hp->(Option Int->Hp->Prop)->Prop
noncomputable def PO (X:Cx)(e:Option Expr)(t:TO):Prop :=
 ∀ (pins:List (Addr × Obj)) (s:Shared) (σ:St) (H:Hp) (Q:Option Int->Hp->Prop),Inv X pins σ H s->t σ H Q ->
  wpAny (model X.prog X.w) X.A (evalPart e X.env) (λu s'=>∃ o H',Inv X pins σ H' s'/\IsPart u o/\Q o H') X.xe s
noncomputable def JM:TO:=λ_ H Q=>Q none H
noncomputable def RV (t:TE):TO:=fun σ H Q=>t σ H λx H1=>∃ i,x=.int i/\Q (some i) H1
section
variable {X:Cx}{e:Expr}{te:TE}{lo hi:Option Expr}{tl th:TO}{pos p2:Pos}
theorem Vr:PO X none JM:=by
 intro pins s σ H Q I h;rw [evalPart_none];exact bv ⟨none,H,I,.none,h⟩
theorem Vs (h:PE X e te):PO X (some e) (RV te):=by
 intro pins s σ H Q I hw;rw [evalPart_some];refine Bc (h pins s σ H _ I hw) λu s1 AR=>?_;obtain ⟨x,H1,I1,r1,q1⟩:=AR;obtain ⟨i,rfl,q⟩:=q1;obtain ⟨t,rfl⟩:=r1;exact ⟨some i,H1,I1,.int i t,q⟩
noncomputable def pL (X:Cx)(r:V->Option Int->Option Int->Hp->VK->Prop):Prop :=
 ∀ (pins:List (Addr × Obj)) (s:Shared) (σ:St) (H:Hp) (x:V) (v vl vu:Value) (lo hi:Option Int) (sl:Addr) (Q:VK),Inv X pins σ H s->RelV x v->s.heap.IsSliceOf sl vl vu .none->IsPart vl lo->IsPart vu hi->r x lo hi H Q ->
  ∃ T id,typeLookup (.type T) "__getitem__"=pure (some (.builtin id))/\s.TypeIs v T/\wpAny (model X.prog X.w) X.A (getItem v (.ref sl)) (EP X pins σ Q) X.xe s
noncomputable def sH (r:V->Option Int->Option Int->Hp->VK->Prop)(te:TE)(tl th:TO):TE:=fun σ H Q=>te σ H λx H1=>tl σ H1 λl H2=>th σ H2 λu H3=>r x l u H3 Q
theorem RW (hr:pL X r)(he:PE X e te)(hl:PO X lo tl)(hu:PO X hi th):PE X (.Subscript e (.Slice lo hi none p2) pos) (sH r te tl th):=by
 intro pins s σ H Q I h;refine Subscript_ (Bc (he pins s σ H _ I h) λv s1 AR=>?_);obtain ⟨x,H1,I1,r1,q1⟩:=AR;refine wpAny_Slice (Bc (hl pins s1 σ H1 _ I1 q1) λvl s2 AR=>?_);obtain ⟨l,H2,I2,pl,q2⟩:=AR;refine Bc (hu pins s2 σ H2 _ I2 q2) λvu s3 AR=>?_;obtain ⟨u,H3,I3,pu,q3⟩:=AR;rw [evalPart_none];refine bv ?_;have I4:Inv X pins σ H3 { s3 with heap:=s3.heap.push { cls:=.type "slice",data:=.fields #[vl,vu,.none] } }:=I3.kept (t':=s3.toks) λb ob q=>ac _ q;obtain ⟨T,id,hT,ht,hg⟩:=hr pins { s3 with heap:=s3.heap.push { cls:=.type "slice",data:=.fields #[vl,vu,.none] } } σ H3 x v vl vu l u s3.heap.objs.size Q I4 r1 (Heap.IsSliceOf.new ..) pl pu q3;show wpAny (model X.prog X.w) X.A (subscriptTail e (.Slice lo hi none p2) v (.ref s3.heap.objs.size)) (EP X pins σ Q) X.xe { s3 with heap:=s3.heap.push { cls:=.type "slice",data:=.fields #[vl,vu,.none] } };exact tail_any (ops:=[.ref s3.heap.objs.size,v]) ht hT hg (by with_unfolding_all rfl)
noncomputable def Es (xs:List V)(lo hi:Option Int):List V:=(xs.drop (HT.sIx xs.length 0 lo)).take (HT.sIx xs.length xs.length hi - HT.sIx xs.length 0 lo)
theorem GG (xs:List V)(lo hi:Option Int):(Es xs lo hi).length<=xs.length:=by
 unfold Es;rw [pc,List.length_drop];omega
noncomputable def ZE (K:W.Frag):V->Option Int->Option Int->Hp->VK->Prop:=λx lo hi H Q=>∃ a xs,x=.ref a/\BL K H a xs /\
 ¬ (HT.sIx xs.length 0 lo=0/\HT.sIx xs.length xs.length hi=xs.length)/\∀ p,H p=none->Q (.ref p) (upd H p (.tup (Es xs lo hi)))
theorem JN:pL X (ZE X.K):=by
 intro pins s σ H x v vl vu lo hi sl Q I rx hs pl pu h;obtain ⟨a,xs,rfl,hx,hw,q⟩:=h;cases rx;obtain ⟨its,r,ht,hz⟩:=I.tuple hx;have hlen:its.toArray.size=xs.length:=by rw [f8];exact r.length.symm
 refine ⟨"tuple",_,PyProof.Rows.slot_tuple_getitem.lookup,ht.typeIs,?_⟩;refine HT.aak ht hs pl pu (by rw [hlen];exact hw) ?_ (by rw [hlen];exact hz);rw [hlen];refine ⟨.ref s.heap.objs.size,_,I.laid (t':=s.toks) (o:=.tup (Es xs lo hi)) (λb ob q=>ac _ q) (am _) ?_,rfl,q _ (I.hok.fresh (am _))⟩;exact ⟨ce (GG xs lo hi) hz,_,(r.drop (HT.sIx xs.length 0 lo)).take (HT.sIx xs.length xs.length hi - HT.sIx xs.length 0 lo),IsTup.new _ _⟩
noncomputable def Ox (K:W.Frag):R2:=λx y H Q=>∃ a b xs ys,x=.ref a/\y=.ref b/\BL K H a xs/\BL K H b ys/\xs≠[]/\xs.length+ys.length<=sizeLine /\
 (ys=[]->Q (.ref a) H)/\(ys≠[]->∀ p,H p=none->Q (.ref p) (upd H p (.tup (xs++ys))))
theorem Vals.aau (r:Vals xs us):us=[]↔xs=[]:=by
 cases r with
 | nil=>simp
 | cons _ _=>simp
theorem Oy:G6 X (binaryOp .Add) (Ox X.K):=by
 intro pins s σ H x y v u Q I rx ry h;obtain ⟨a,b,xs,ys,rfl,rfl,ha,hb,hx,hz,q1,q2⟩:=h;cases rx;cases ry;obtain ⟨its,r1,p1,_⟩:=I.tuple ha;obtain ⟨JO,r2,p2,_⟩:=I.tuple hb;refine HT.abg p1 p2 (λz=>hx (r1.aau.mp z)) (λz=>⟨.ref a,H,I,rfl,q1 (r2.aau.mp z)⟩) (λz=>?_) (by rw [<- r1.length,<- r2.length];exact hz);refine ⟨.ref s.heap.objs.size,_,I.laid (t':=s.toks) (o:=.tup (xs++ys)) (λb ob q=>ac _ q) (am _) ?_,rfl,q2 (λw=>z (r2.aau.mpr w)) _ (I.hok.fresh (am _))⟩;exact ⟨by rw [ca];exact hz,_,r1.append r2,IsTup.new _ _⟩
end
noncomputable def RX (n:Nat)(i:Int):Option Nat:=if 0<=i then (if i < n then some i.toNat else none) else if -(n:Int)<=i then some (i+n).toNat else none
noncomputable def Oz {α:Type}(xs:List α)(i:Int):Option α:=(RX xs.length i).bind λj=>xs[j]?
theorem OB (h:RX n i=some j):seqIndex? i n=some j/\j < n/\-(n:Int)<=i/\i < n:=by
 unfold RX at h;by_cases h0:0<=i
 ·rw [if_pos h0] at h;by_cases h1:i < n
  ·rw [if_pos h1] at h;have e:i.toNat=j:=ss h;exact ⟨by rw [seqIndex_of h0 h1,e],(),(),h1⟩
  ·rw [if_neg h1] at h;cases h
 ·rw [if_neg h0] at h;by_cases h1:-(n:Int)<=i
  ·rw [if_pos h1] at h;have e:(i+n).toNat=j:=ss h;exact ⟨by rw [seqIndex_neg () h1,e],(),h1,()⟩
  ·rw [if_neg h1] at h;cases h
theorem OD (h:Oz xs i=some v):∃ j,seqIndex? i xs.length=some j/\xs[j]?=some v/\j < xs.length/\-(xs.length:Int)<=i/\i < xs.length:=by
 unfold Oz at h;cases e:RX xs.length i with
 | none=>rw [e] at h;cases h
 | some j =>
  rw [e] at h;obtain ⟨h1,h2,h3,h4⟩:=OB e;exact ⟨j,h1,h,h2,h3,h4⟩
theorem Ao {α:Type}{xs:List α}{j:Nat}{v:α}(h:xs[j]?=some v):Oz xs (j:Int)=some v:=by
 have hj:j < xs.length:=(cr.mp h).1;have e:RX xs.length (j:Int)=some j:=by
  unfold RX;rw [if_pos (),if_pos ()];simp
 unfold Oz;rw [e];exact h
theorem RY (xs:List α)(v:α):Oz (xs++[v]) (-1)=some v:=by
 have hl:(xs++[v]).length=xs.length+1:=by simp
 have e:RX (xs++[v]).length (-1)=some xs.length:=by
  unfold RX;rw [hl,if_neg ⟨⟩,if_pos ()]
  congr 1
  omega
 unfold Oz;rw [e];show (xs++[v])[xs.length]?=some v;simp
noncomputable def OG (b:Expr):Prop:=∀ o i,subscripted b false o i=operate [o,i] (getItem o i)
noncomputable def pM (X:Cx)(r:R2):Prop :=
 ∀ (value slice:Expr) (pins:List (Addr × Obj)) (s:Shared) (σ:St) (H:Hp) (x y:V) (v u:Value) (Q:VK),Inv X pins σ H s->RelV x v->RelV y u->r x y H Q ->
  subscripted slice false v u=operate [v,u] (getItem v u)->wpAny (model X.prog X.w) X.A (subscriptTail value slice v u) (EP X pins σ Q) X.xe s
noncomputable def pO (X:Cx)(id:String)(r:V->List V->Hp->VK->Prop):Prop :=
 ∀ (pins:List (Addr × Obj)) (s:Shared) (σ:St) (H:Hp) (x:V) (xs:List V) (v:Value) (us:List Value) (Q:VK),Inv X pins σ H s->RelV x v->Vals xs us->r x xs H Q ->
  wpAny (model X.prog X.w) X.A (call (.builtin id) (v::us)) (EP X pins σ Q) X.xe s
section
variable {X:Cx}{a b:Expr}{ta tb:TE}{pos:Pos}
theorem Yg (hr:pM X r)(ha:PE X a ta)(hb:PE X b tb)(hs:OG b):PE X (.Subscript a b pos) (G7 r ta tb):=by
 intro pins s σ H Q I h;exact Subscript_ (Zm ha hb I h λv u s2 x y H2 I2 rx ry q=>hr a b pins s2 σ H2 x y v u Q I2 rx ry q (hs _ _))
noncomputable def Du (K:W.Frag):R2:=λx y H Q=>∃ p xs i v,x=.ref p/\y=.int i/\AI K H p xs/\Oz xs i=some v/\Q v H
noncomputable def GQ (K:W.Frag):R2:=λx y H Q=>∃ p xs i v,x=.ref p/\y=.int i/\BL K H p xs/\Oz xs i=some v/\Q v H
theorem AA:pM X (Du X.K):=by
 intro value slice pins s σ H x y v u Q I rx ry h hs;obtain ⟨p,xs,i,z,rfl,rfl,hq,he,q⟩:=h;cases rx;obtain ⟨t,rfl⟩:=ry;obtain ⟨its,r,pl,hz⟩:=I.list hq;obtain ⟨j,h1,h2,h3,h4,h5⟩:=OD he;obtain ⟨w,ew,RZ⟩:=r.get h2;have hl:=r.length;have hn:=Hw;have fin:EP X pins σ Q w s:=⟨z,H,I,RZ,q⟩;by_cases h0:0<=i
 ·have hj:i.toNat=j:=by
   rw [seqIndex_of h0 h5] at h1;exact ss h1
  exact item_listR pl.isList h0 () (by rw [hj];simpa using ew) fin hs
 ·have hj:(i+(its.toArray.size:Int)).toNat=j:=by
   rw [seqIndex_neg () h4] at h1;rw [f8,<- hl];exact ss h1
  exact subscriptTail_builtinR (x:=w) pl.isList.typeIs slot_list_getitem.lookup
   (wpAny_getItem_list_neg (Q:=λr s'=>r=w/\EP X pins σ Q r s') pl.isList () (by rw [f8] <;> omega) () (by rw [hj];simpa using ew) ⟨rfl,fin⟩) hs
theorem Et:pM X (GQ X.K):=by
 intro value slice pins s σ H x y v u Q I rx ry h hs;obtain ⟨p,xs,i,z,rfl,rfl,hq,he,q⟩:=h;cases rx;obtain ⟨t,rfl⟩:=ry;obtain ⟨its,r,pl,hz⟩:=I.tuple hq;obtain ⟨j,h1,h2,h3,h4,h5⟩:=OD he;obtain ⟨w,ew,RZ⟩:=r.get h2;have hl:=r.length;have hn:=Hw;have fin:EP X pins σ Q w s:=⟨z,H,I,RZ,q⟩;exact subscriptTail_builtinR (x:=w) pl.typeIs slot_tuple_getitem.lookup
  (getItem_tuple (j:=j) (Q:=λr s'=>r=w/\EP X pins σ Q r s') pl () () (by rw [f8,<- hl];exact h1) (by simpa using ew) ⟨rfl,fin⟩) hs
theorem MW (its:List Value)(n j:Nat)(u:Value):Obj.mapSeq (·.setIfInBounds j u) { cls:=.type "list",data:=.seq its.toArray n }={ cls:=.type "list",data:=.seq (its.set j u).toArray n }:=by
 simp [Obj.mapSeq]
theorem Inv.lst {pins:List (Addr × Obj)}{σ:St}{H:Hp}{s:Shared}{p:Addr}{xs:List V}(I:Inv X pins σ H s)(h:H p=some (.lst xs)):
  ∃ (its:List Value) (n:Nat),Vals xs its/\s.heap.get? p=some { cls:=.type "list",data:=.seq its.toArray n }/\xs.length<=sizeLine:=by
 obtain ⟨z,its,n,r,e⟩:=I.hok p _ h;exact ⟨its,n,r,e,z⟩
theorem Inv.abm {pins:List (Addr × Obj)}{σ:St}{H:Hp}{s:Shared}{p:Addr}{xs ys:List V}{its its':List Value}{n n':Nat}{f:Obj->Obj}(I:Inv X pins σ H s)(h:H p=some (.lst xs))
  (ho:s.heap.get? p=some { cls:=.type "list",data:=.seq its.toArray n }) (hf:f { cls:=.type "list",data:=.seq its.toArray n }={ cls:=.type "list",data:=.seq its'.toArray n' }) (r:Vals ys its') (hz:ys.length<=sizeLine) (t:Nat) :
  Inv X pins σ (upd H p (.lst ys)) { s with heap:=s.heap.update p f,toks:=t }:=by
 have e:(s.heap.update p f).get? p=some { cls:=.type "list",data:=.seq its'.toArray n' }:=by
  rw [wS f ho (by rw [hf] <;> rfl),hf]
 refine I.write (x:=p) (e:=p) (by rw [h];trivial) (.inl rfl) (λb u hb q=>(pi _ _ (be hb)).trans q) ⟨_,e⟩ ?_;exact ⟨hz,its',n',r,e⟩
noncomputable def je:V->V->V->Hp->(Hp->Prop)->Prop:=λo i v H Q=>∃ p xs k j,o=.ref p/\i=.int k/\H p=some (.lst xs)/\RX xs.length k=some j/\Q (upd H p (.lst (xs.set j v)))
theorem set_list:Zd X je:=by
 intro pins s σ H o i v ov iv u Q I ro ri rv h;obtain ⟨p,xs,k,j,rfl,rfl,hp,hj,q⟩:=h;cases ro;obtain ⟨t,rfl⟩:=ri;obtain ⟨its,n,r,ho,hz⟩:=I.lst hp;obtain ⟨h1,h2,h3,h4⟩:=OB hj;have hl:=r.length;have hn:=Hw;have I':Inv X pins σ (upd H p (.lst (xs.set j v))) { s with heap:=s.heap.update p (Obj.mapSeq (·.setIfInBounds j u)) } :=
  I.abm hp ho (MW its n j u) (r.set rv j) (by rw [List.length_set];exact hz) s.toks
 by_cases h0:0<=k
 ·have hk:k.toNat=j:=by
   rw [seqIndex_of h0 h4] at h1;exact ss h1
  exact W.ki_setAt ho h0 () (by rw [f8,<- hl];exact h4) (by rw [hk];exact ⟨_,I',q⟩)
 ·have hk:(k+(its.toArray.size:Int)).toNat=j:=by
   rw [seqIndex_neg () h3] at h1;rw [f8,<- hl];exact ss h1
  exact W.ki_setBack ho () (by rw [f8,<- hl];exact h3) () (by rw [hk];exact ⟨_,I',q⟩)
theorem JP (lo hi:Option Int)(n:Nat):(sliceBounds lo hi none n).1=((HT.sIx n 0 lo:Nat):Int)/\(sliceBounds lo hi none n).2.1=((HT.sIx n n hi:Nat):Int)/\(sliceBounds lo hi none n).2.2=1:=by
 refine ⟨?_,?_,rfl⟩
 ·cases lo with
  | none=>simp [sliceBounds,HT.sIx]
  | some i =>
   simp only [sliceBounds,HT.sIx,Option.getD_none,show (1:Int) > 0 by decide,if_true];by_cases h:i < 0
   ·simp only [h,if_true] <;> omega
   ·simp only [h,if_false] <;> omega
 ·cases hi with
  | none=>simp [sliceBounds,HT.sIx]
  | some i =>
   simp only [sliceBounds,HT.sIx,Option.getD_none,show (1:Int) > 0 by decide,if_true];by_cases h:i < 0
   ·simp only [h,if_true] <;> omega
   ·simp only [h,if_false] <;> omega
theorem IJ (its:List Value)(lo hi:Option Int):slicePick its.toArray lo hi none=((its.drop (HT.sIx its.length 0 lo)).take (HT.sIx its.length its.length hi - HT.sIx its.length 0 lo)).toArray:=by
 obtain ⟨h1,h2,h3⟩:=JP lo hi its.toArray.size;unfold slicePick;rw [h1,h2,h3];simp only [sliceRange_one,pick_run,f8] <;> rfl
noncomputable def ZF (K:W.Frag):V->Option Int->Option Int->Hp->VK->Prop:=λx lo hi H Q=>∃ a xs,x=.ref a/\AI K H a xs/\∀ p,H p=none->Q (.ref p) (upd H p (.lst (Es xs lo hi)))
theorem Vt:pL X (ZF X.K):=by
 intro pins s σ H x v vl vu lo hi sl Q I rx hs pl pu h;obtain ⟨a,xs,rfl,hx,q⟩:=h;cases rx;obtain ⟨its,r,ht,hz⟩:=I.list hx;have hlen:=r.length;refine ⟨"list",_,slot_list_getitem.lookup,ht.isList.typeIs,?_⟩;refine wpAny_getItem_list_slice ht.isList hs pl pu .none (by simp) ?_ (by rw [f8] <;> omega);rw [IJ,<- hlen];refine ⟨.ref s.heap.objs.size,_,I.laid (t':=s.toks) (o:=.lst (Es xs lo hi)) (λb ob q=>ac _ q) (am _) ?_,rfl,q _ (I.hok.fresh (am _))⟩;exact ⟨ce (GG xs lo hi) hz,_,0,(r.drop (HT.sIx xs.length 0 lo)).take (HT.sIx xs.length xs.length hi - HT.sIx xs.length 0 lo),io _ rfl⟩
noncomputable def Eg:V->Bool
 | .non=>true
 | .bl _=>true
 | .int _=>true
 | .str _=>true
 | _=>false
noncomputable def Vu:V->V->Bool
 | .non,.non=>true
 | .bl a,.bl b=>a==b
 | .bl a,.int b=>(if a then 1 else 0)==b
 | .int a,.bl b=>a==(if b then 1 else 0)
 | .int a,.int b=>a==b
 | .str a,.str b=>a==b
 | _,_=>false
theorem ZG (ry:RelV y u)(rx:RelV x v)(fy:Eg y=true)(fx:Eg x=true):SeqAt.EqAt A s u v (Vu y x):=by
 cases y with
 | non =>
  cases ry;cases x with
  | non=>cases rx;exact SeqAt.EqAt.same _
  | bl b=>cases rx;exact SeqAt.EqAt.none_bool b
  | int b=>obtain ⟨t,rfl⟩:=rx;exact SeqAt.EqAt.none_int b t
  | str b=>obtain ⟨t,rfl⟩:=rx;exact SeqAt.EqAt.none_str b t
  | _=>exact absurd (show false=true from fx) lc
 | bl a =>
  cases ry;cases x with
  | non=>cases rx;exact SeqAt.EqAt.bool_none a
  | bl b=>cases rx;exact SeqAt.EqAt.bool_bool a b
  | int b=>obtain ⟨t,rfl⟩:=rx;exact SeqAt.EqAt.bool_int a b t
  | str b=>obtain ⟨t,rfl⟩:=rx;exact SeqAt.EqAt.bool_str a b t
  | _=>exact absurd (show false=true from fx) lc
 | int a =>
  obtain ⟨t',rfl⟩:=ry;cases x with
  | non=>cases rx;exact SeqAt.EqAt.int_none a t'
  | bl b=>cases rx;exact SeqAt.EqAt.int_bool a t' b
  | int b=>obtain ⟨t,rfl⟩:=rx;exact SeqAt.EqAt.int_int a t' b t
  | str b=>obtain ⟨t,rfl⟩:=rx;exact SeqAt.EqAt.int_str a t' b t
  | _=>exact absurd (show false=true from fx) lc
 | str a =>
  obtain ⟨t',rfl⟩:=ry;cases x with
  | non=>cases rx;exact SeqAt.EqAt.str_none a t'
  | bl b=>cases rx;exact SeqAt.EqAt.str_bool a t' b
  | int b=>obtain ⟨t,rfl⟩:=rx;exact SeqAt.EqAt.str_int a t' b t
  | str b=>obtain ⟨t,rfl⟩:=rx;exact SeqAt.EqAt.str_str a t' b t
  | _=>exact absurd (show false=true from fx) lc
 | _=>exact absurd (show false=true from fy) lc
noncomputable def MX (x:V)(u:Value):Bool:=match u with
 | .none=>Vu .non x
 | .bool b=>Vu (.bl b) x
 | .int i _=>Vu (.int i) x
 | .str z _=>Vu (.str z) x
 | _=>false
theorem R' (r:RelV y u)(f:Eg y=true):MX x u=Vu y x:=by
 cases y with
 | non=>cases r;rfl
 | bl b=>cases r;rfl
 | int i=>obtain ⟨t,rfl⟩:=r;rfl
 | str z=>obtain ⟨t,rfl⟩:=r;rfl
 | _=>exact absurd (show false=true from f) lc
theorem Hd:∀ {xs:List V} {us:List Value},Vals xs us->xs.all Eg=true->us.any (MX x)=xs.any λy=>Vu y x:=by
 intro xs us h
 induction h with
 | nil=>exact λ_=>rfl
 | cons r t ih =>
  intro f;rw [List.all_cons,Ev] at f;rw [List.any_cons,List.any_cons,R' r f.1,ih f.2]
theorem Eu {A:Around}{s:Shared}{x:V}{v:Value}(rx:RelV x v)(fx:Eg x=true):∀ {xs:List V} {us:List Value},Vals xs us->xs.all Eg=true->∀ u∈us,SeqAt.EqAt A s u v (MX x u)
 | _,_,.nil,_=>λu hu=>by cases hu
 | y::xs,u::us,.cons r t,f=>λu' hu=>by
  rw [List.all_cons,Ev] at f;rcases gz.mp hu with rfl | hu
  ·rw [R' r f.1];exact ZG r rx f.1 fx
  ·exact Eu rx fx t f.2 u' hu
noncomputable def OI (x:V)(xs:List V):Bool:=xs.any λy=>Vu y x
noncomputable def ZH (K:W.Frag)(neg:Bool):R2:=λx y H Q=>∃ p xs,y=.ref p/\(AI K H p xs\/BL K H p xs)/\Eg x=true/\xs.all Eg=true/\Q (.bl (if neg then !OI x xs else OI x xs)) H
theorem J8:G6 X (compareOp .In) (ZH X.K false):=by
 intro pins s σ H x y v u Q I rx ry h;obtain ⟨p,xs,rfl,hq,fx,fs,q⟩:=h;cases ry;rcases hq with hq | hq
 ·obtain ⟨its,r,pl,hz⟩:=I.list hq;refine SeqAt.in_listAt (MX x) pl.isList (λw hw=>Eu rx fx r fs w (by simpa using hw)) ⟨.bl _,H,I,rfl,?_⟩;rw [show its.toArray.any (MX x)=its.any (MX x) by simp,Hd r fs];exact q
 ·obtain ⟨its,r,pl,hz⟩:=I.tuple hq;refine SeqAt.in_tupleAt (MX x) pl (λw hw=>Eu rx fx r fs w (by simpa using hw)) ⟨.bl _,H,I,rfl,?_⟩;rw [show its.toArray.any (MX x)=its.any (MX x) by simp,Hd r fs];exact q
theorem FG:G6 X (compareOp .NotIn) (ZH X.K true):=by
 intro pins s σ H x y v u Q I rx ry h;obtain ⟨p,xs,rfl,hq,fx,fs,q⟩:=h;cases ry;rcases hq with hq | hq
 ·obtain ⟨its,r,pl,hz⟩:=I.list hq;refine SeqAt.notIn_listAt (MX x) pl.isList (λw hw=>Eu rx fx r fs w (by simpa using hw)) ⟨.bl _,H,I,rfl,?_⟩;rw [show its.toArray.any (MX x)=its.any (MX x) by simp,Hd r fs];exact q
 ·obtain ⟨its,r,pl,hz⟩:=I.tuple hq;refine SeqAt.notIn_tupleAt (MX x) pl (λw hw=>Eu rx fx r fs w (by simpa using hw)) ⟨.bl _,H,I,rfl,?_⟩;rw [show its.toArray.any (MX x)=its.any (MX x) by simp,Hd r fs];exact q
theorem BX:Ds X (.builtin "len") (λxs H Q=>∃ p ys,xs=[.ref p]/\(AI X.K H p ys\/BL X.K H p ys)/\Q (.int ys.length) H):=by
 intro pins s σ H xs us Q I r h;obtain ⟨p,ys,rfl,hq,q⟩:=h;obtain ⟨u,rfl,rx⟩:=vals1 r;cases rx;have hn:=Hw;rcases hq with hq | hq
 ·obtain ⟨its,r',pl,hz⟩:=I.list hq;have hlen:=r'.length;exact Calls.call_len_list pl.isList (by simp only [f8] <;> omega) ⟨.int ys.length,H,I.tok _,⟨s.toks+1,by rw [f8,hlen]⟩,q⟩
 ·obtain ⟨its,r',pl,hz⟩:=I.tuple hq;have hlen:=r'.length;exact len_tuple pl (by simp only [f8] <;> omega) ⟨.int ys.length,H,I.tok _,⟨s.toks+1,by rw [f8,hlen]⟩,q⟩
theorem JQ:Ds X (.type "list") (λxs H Q=>∃ p ys,xs=[.ref p]/\(AI X.K H p ys\/BL X.K H p ys)/\∀ l,H l=none->Q (.ref l) (upd H l (.lst ys))):=by
 intro pins s σ H xs us Q I r h;obtain ⟨p,ys,rfl,hq,q⟩:=h;obtain ⟨u,rfl,rx⟩:=vals1 r;cases rx;have fin:∀ (its:List Value),Vals ys its->ys.length<=sizeLine->∀ (h':Heap) (c':Nat),(∀ b o',s.heap.get? b=some o'->h'.get? b=some o') ->
   h'.get? s.heap.objs.size=some { cls:=.type "list",dict:=none,data:=.seq its.toArray c',slots:=#[] }->EP X pins σ Q (.ref s.heap.objs.size) { s with heap:=h' }:=λits r' hz h' c' kp e =>
  ⟨.ref s.heap.objs.size,_,I.laid (t':=s.toks) kp (am _) (show B6 X.prog X.w _ h' _ (.lst ys) from ⟨hz,its,c',r',e⟩),rfl,q _ (I.hok.fresh (am _))⟩
 rcases hq with hq | hq
 ·obtain ⟨its,r',pl,hz⟩:=I.list hq;have hlen:=r'.length;obtain ⟨o,ho,hc,n,hd⟩:=pl.isList;exact call_list_seq p (.inl rfl) ho hc hd (λh' c' kp e=>fin its r' hz h' c' kp e) (by simp only [f8] <;> omega)
 ·obtain ⟨its,r',pl,hz⟩:=I.tuple hq;have hlen:=r'.length;obtain ⟨o,ho,hc,n,hd⟩:=pl;exact call_list_seq p (.inr rfl) ho hc hd (λh' c' kp e=>fin its r' hz h' c' kp e) (by simp only [f8] <;> omega)
theorem D1:Ds X (.type "tuple") (λxs H Q=>∃ p ys,xs=[.ref p]/\((AI X.K H p ys/\∀ l,H l=none->Q (.ref l) (upd H l (.tup ys)))\/(BL X.K H p ys/\Q (.ref p) H))):=by
 intro pins s σ H xs us Q I r h;obtain ⟨p,ys,rfl,h⟩:=h;obtain ⟨u,rfl,rx⟩:=vals1 r;cases rx;rcases h with ⟨hq,q⟩ | ⟨hq,q⟩
 ·obtain ⟨its,r',pl,hz⟩:=I.list hq;have hlen:=r'.length;refine call_tuple_list pl.isList (λh' kp=>?_) (by simp only [f8] <;> omega);have I1:Inv X pins σ H { s with heap:=h' }:=I.kept (t':=s.toks) kp;have I2:Inv X pins σ (upd H h'.objs.size (.tup ys)) { s with heap:=h'.push { cls:=.type "tuple",data:=.seq its.toArray } } :=
   I1.laid (t':=s.toks) (λb o e=>ac _ e) (am _) (show B6 X.prog X.w _ _ _ (.tup ys) from ⟨hz,its,r',IsTup.new _ _⟩)
  exact ⟨.ref h'.objs.size,_,I2,rfl,q _ (I1.hok.fresh (am _))⟩
 ·obtain ⟨its,r',pl,hz⟩:=I.tuple hq;exact call_tuple_same pl ⟨.ref p,H,I,rfl,q⟩
noncomputable def jf (K:W.Frag)(T:String)(x:V)(H:Hp):Prop:=match x with
 | .str _=>T="str"
 | .int _=>T="int"
 | .ref p=>(T="list"/\∃ xs,AI K H p xs)\/(T="tuple"/\∃ o,K.lookup p=some o/\o.cls=.type "tuple"/\o.dict=none) \/
   (T="dict"/\((∃ kvs,H p=some (.dK kvs))\/∃ kvs,H p=some (.dT kvs)))\/(T="set"/\∃ S n,H p=some (.set S n))
 | _=>False
theorem S0 (I:Inv X pins σ H s)(r:RelV x v)(ty:jf X.K T x H):
  s.TypeIs v T/\∀ a,v=.ref a->∃ ob,s.heap.get? a=some ob/\ob.dict=none:=by
 cases x with
 | str z =>
  obtain ⟨t,rfl⟩:=r;cases (show T="str" from ty);exact ⟨typeIs_str s z t,λ_ e=>nomatch e⟩
 | int i =>
  obtain ⟨t,rfl⟩:=r;cases (show T="int" from ty);exact ⟨typeIs_int s i t,λ_ e=>nomatch e⟩
 | ref p =>
  cases r;rcases ty with ⟨rfl,xs,hq⟩ | ⟨rfl,o,hk,hc,hd⟩ | ⟨rfl,hk⟩ | ⟨rfl,S,n,hk⟩
  ·obtain ⟨its,_,pl,_⟩:=I.list hq;refine ⟨pl.isList.typeIs,λa e=>?_⟩;cases e;obtain ⟨o,n,e,c,hd,_⟩:=pl;exact ⟨o,e,hd⟩
  ·refine ⟨⟨o,I.kIn p o hk,hc⟩,λa e=>?_⟩;cases e;exact ⟨o,I.kIn _ o hk,hd⟩
  ·have z:∃ o,s.heap.get? p=some o/\o.ExactDict:=by
    rcases hk with ⟨kvs,hk⟩ | ⟨kvs,hk⟩
    ·obtain ⟨_,_,_,_,o,_,_,e,ex,_⟩:=I.hok p _ hk;exact ⟨o,e,ex⟩
    ·obtain ⟨_,_,_,_,o,_,_,e,ex,_⟩:=I.hok p _ hk;exact ⟨o,e,ex⟩
   obtain ⟨o,e,ex⟩:=z;refine ⟨⟨o,e,ex.1⟩,λa e2=>?_⟩;cases e2;exact ⟨o,e,ex.2.1⟩
  ·obtain ⟨o,_,_,_,e,ex,_⟩:=I.hok p _ hk;refine ⟨⟨o,e,ex.1⟩,λa e2=>?_⟩;cases e2;exact ⟨o,e,ex.2.1⟩
 | _=>exact False.elim ty
noncomputable def ZI (K:W.Frag)(T:String)(r:V->List V->Hp->VK->Prop)(to:TE):TE:=fun σ H Q=>to σ H λx H1=>jf K T x H1/\r x [] H1 Q
noncomputable def sI (K:W.Frag)(T:String)(r:V->List V->Hp->VK->Prop)(to:TE)(t:TA):TE:=fun σ H Q=>to σ H λx H1=>jf K T x H1/\t σ H1 λxs H2=>r x xs H2 Q
variable {o e:Expr}{es:List Expr}{to:TE}{t:TA}{name:Str}{apos CP:Pos}{T id:String}{r:V->List V->Hp->VK->Prop}
theorem ZJ (pa:PlainAttrs T)(slot:Slot T name id)(ZK:typeOf (.builtin id)=pure (.type "method_descriptor"))(hm:pO X id r)(ho:PE X o to)(HA:attributeBase o name X.env (eval o X.env)=eval o X.env:=by rfl)(HB:(apos.endLine==CP.line)=true:=by rfl):PE X (.Call (.Attribute o name apos) [] [] CP) (ZI X.K T r to):=by
 intro pins s σ H Q I h;refine wpAny_Call_method0_late HA HB (Bc (ho pins s σ H _ I h) λv s1 AR=>?_);obtain ⟨x,H1,I1,r1,ty,q1⟩:=AR;obtain ⟨h1,h2⟩:=S0 I1 r1 ty;exact ⟨T,id,pa,slot,ZK,h1,h2,Calls.callWith_builtin rfl (PySem.evalArgs_none (hm pins s1 σ H1 x [] v [] Q I1 r1 .nil q1))⟩
theorem jg (pa:PlainAttrs T)(slot:Slot T name id)(ZK:typeOf (.builtin id)=pure (.type "method_descriptor"))(hm:pO X id r)(ho:PE X o to)(ha:PA X (e::es) t)(HA:attributeBase o name X.env (eval o X.env)=eval o X.env:=by rfl)(ZL:((backTo CP (starEach (e::es) X.env)).all (λx=>!x.1) && (backToKw CP (keywordEach [] X.env)).all (λx=>x.1.isSome)
   && decide ((e::es).length+([]:List Keyword).length+(if ([]:List Keyword).isEmpty then 0 else 1) < 30))=true:=by rfl)(HB:(apos.endLine==CP.line)=true:=by rfl)(hs:starEach (e::es) X.env=(false,eval e X.env)::starEach es X.env:=by rfl)(MY:(backTo CP (starEach es X.env)).any (·.1)=false:=by rfl) :
  PE X (.Call (.Attribute o name apos) (e::es) [] CP) (sI X.K T r to t):=by
 intro pins s σ H Q I h;refine wpAny_Call_method_late HA ZL HB rfl (Bc (ho pins s σ H _ I h) λv s1 AR=>?_);obtain ⟨x,H1,I1,r1,ty,q1⟩:=AR;obtain ⟨h1,h2⟩:=S0 I1 r1 ty;refine ⟨T,id,pa,slot,ZK,h1,h2,?_⟩;have hA:=ha CP pins s1 σ H1 _ I1 q1;rw [hs] at hA ⊢;refine Calls.callWith_builtin (by show (false || (backTo CP (starEach es X.env)).any (·.1))=false;rw [MY] <;> rfl) (Calls.evalArgs_plain ?_);exact Bc hA λus s2 ⟨vs,H2,I2,r2,q2⟩=>hm pins s2 σ H2 x vs v us Q I2 r1 r2 q2
end
noncomputable def pP (X:Cx)(id:String)(r:V->List V->Hp->VK->Prop):Prop :=
 ∀ (pins:List (Addr × Obj)) (s:Shared) (σ:St) (H:Hp) (x:V) (xs:List V) (v:Value) (us:List Value) (Q:VK),Inv X pins σ H s->RelV x v->Vals xs us->r x xs H Q ->
  wpAny (model X.prog X.w) X.A (call (.builtin id) (v::us)) (EP X pins σ Q) X.xe s
theorem Vals.one:∀ {x:V} {us:List Value},Vals [x] us->∃ u,us=[u]/\RelV x u:=by
 intro x us h;cases h with
 | cons r t=>cases t;exact ⟨_,rfl,r⟩
theorem Vals.zero:∀ {us:List Value},Vals [] us->us=[]
 | _,.nil=>rfl
theorem Vals.dropLast (h:Vals xs us):Vals xs.dropLast us.dropLast:=by
 induction h with
 | nil=>exact .nil
 | cons r t ih =>
  cases t with
  | nil=>exact .nil
  | cons q t'=>exact .cons r ih
theorem Vals.reverse (h:Vals xs us):Vals xs.reverse us.reverse:=by
 induction h with
 | nil=>exact .nil
 | cons r t ih=>rw [List.reverse_cons,List.reverse_cons];exact Vals.append ih (.cons r .nil)
theorem MZ (l:List α):l.eraseIdx (l.length - 1)=l.dropLast:=by
 induction l with
 | nil=>rfl
 | cons a r ih =>
  cases r with
  | nil=>rfl
  | cons b r =>
   have e:(a::b::r).length - 1=((b::r).length - 1)+1:=by
    have h1:(a::b::r).length=r.length+2:=rfl;have h2:(b::r).length=r.length+1:=rfl;omega
   rw [e,List.eraseIdx_cons_succ,ih]
   all_goals rfl
section
variable {X:Cx}{pins:List (Addr × Obj)}{σ:St}{H:Hp}{s:Shared}{l b:Addr}{xs ys zs:List V}
theorem Inv.abt {its its':List Value}{n:Nat}{f:Array Value->Array Value}{t':Nat}(I:Inv X pins σ H s)(hH:H l=some (.lst xs))
  (e:s.heap.get? l=some { cls:=.type "list",data:=.seq its.toArray n }) (hf:f its.toArray=its'.toArray) (hv:Vals ys its') (hz:ys.length<=sizeLine) :
  Inv X pins σ (upd H l (.lst ys)) { s with heap:=s.heap.update l (Obj.mapSeq f),toks:=t' }:=by
 have q:=PySem.IsL.update e f;rw [hf] at q;refine I.write (x:=l) (e:=l) (by rw [hH];exact trivial) (.inl rfl) (λb' u hb hu=>(pi s.heap (Obj.mapSeq f) (be hb)).trans hu) ⟨_,q⟩ ?_;exact ⟨hz,its',_,hv,q⟩
theorem Inv.ab8 (I:Inv X pins σ H s)(hv:Vals ys its)(hz:ys.length<=sizeLine):
  Inv X pins σ (upd H s.heap.objs.size (.lst ys)) { s with heap:=s.heap.push { cls:=.type "list",data:=.seq its.toArray },toks:=t' } :=
 I.laid (λ_ _ q=>ac _ q) (am _) ⟨hz,its,0,hv,io _ rfl⟩
theorem Inv.fresh (I:Inv X pins σ H s):H s.heap.objs.size=none:=I.hok.fresh (am _)
theorem Inv.abj (I:Inv X pins σ H s)(hH:H l=some (.lst xs)):xs.length<=sizeLine/\∃ (its:List Value) (n:Nat),Vals xs its/\xs.length=its.length/\s.heap.get? l=some { cls:=.type "list",data:=.seq its.toArray n }:=by
 obtain ⟨z,its,n,r,e⟩:=I.hok l _ hH;exact ⟨z,its,n,r,r.length,e⟩
theorem S4 (h:n<=sizeLine):Builtin.List.listTooLong n=false:=by
 unfold Builtin.List.listTooLong;exact decide_eq_false ()
end
section
variable {X:Cx}
noncomputable def OJ:V->List V->Hp->VK->Prop:=λx vs H Q=>∃ l xs y,x=.ref l/\vs=[y]/\H l=some (.lst xs)/\xs.length < sizeLine/\Q .non (upd H l (.lst (xs++[y])))
theorem B':pP X "list.append" OJ:=by
 intro pins s σ H x vs v us Q I rx rv h;obtain ⟨l,xs,y,rfl,rfl,hH,hz,q⟩:=h;cases rx;obtain ⟨u,rfl,ru⟩:=rv.one;obtain ⟨z,its,n,r,hl,e⟩:=I.abj hH;refine call_meets F.slot_list_append ⟨_,e,rfl⟩ F.entry_list_append (F.args_list_append_2 _ _) (PySem.list_append l its.toArray n u (by rw [f8];omega)) ⟨e,?_⟩;refine ⟨.non,_,I.abt (its':=its++[u]) hH e (by simp) (r.append (.cons ru .nil)) ?_,rfl,q⟩;rw [ca,OC];omega
noncomputable def Vv:V->List V->Hp->VK->Prop:=λx vs H Q=>∃ l b xs zs,x=.ref l/\vs=[.ref b]/\H l=some (.lst xs)/\H b=some (.lst zs)/\xs.length+zs.length<=sizeLine/\Q .non (upd H l (.lst (xs++zs)))
theorem Dq:pP X "list.extend" Vv:=by
 intro pins s σ H x vs v us Q I rx rv h;obtain ⟨l,b,xs,zs,rfl,rfl,hH,hB,hz,q⟩:=h;cases rx;obtain ⟨u,rfl,ru⟩:=rv.one;cases ru;obtain ⟨z,its,n,r,hl,e⟩:=I.abj hH;obtain ⟨z2,JO,n2,r2,D9,e2⟩:=I.abj hB;have hsz:its.toArray.size+JO.toArray.size<=sizeLine:=by rw [f8,f8];omega
 have jh:¬ (!its.toArray.isEmpty && Builtin.List.listTooLong (its.toArray.size+JO.toArray.size))=true:=by
  rw [S4 hsz,Bool.and_false];exact lc
 refine call_meets F.slot_list_extend ⟨_,e,rfl⟩ F.entry_list_extend (F.args_list_extend_2 _ _)
  (AutoSeq1.list_extend_list_list_0 l its.toArray n b JO.toArray n2 jh (by rw [f8];omega) ()) ⟨e,e2,?_⟩
 refine ⟨.non,_,I.abt (its':=its++JO) hH e (by simp) (r.append r2) ?_,rfl,q⟩;rw [ca];omega
noncomputable def sJ:V->List V->Hp->VK->Prop:=λx vs H Q=>∃ l xs y,x=.ref l/\vs=[]/\H l=some (.lst xs)/\xs[xs.length - 1]?=some y/\Q y (upd H l (.lst xs.dropLast))
theorem Ew:pP X "list.pop" sJ:=by
 intro pins s σ H x vs v us Q I rx rv h;obtain ⟨l,xs,y,rfl,rfl,hH,hy,q⟩:=h;cases rx;have sL:=rv.zero;subst sL;obtain ⟨z,its,n,r,hl,e⟩:=I.abj hH;obtain ⟨u,hu,ru⟩:=r.get hy;have hy':its.toArray[its.toArray.size - 1]?=some u:=by
  show its.toArray[its.length - 1]?=some u;rw [<- Array.getElem?_toList,<- hl];exact hu
 refine call_meets F.slot_list_pop ⟨_,e,rfl⟩ F.entry_list_pop (F.args_list_pop_1 _) (MeetsSeq.list_pop_last l its.toArray n u hy' (by rw [f8];omega)) ⟨e,?_⟩;refine ⟨y,_,I.abt (its':=its.dropLast) hH e ?_ r.dropLast ?_,ru,q⟩
 ·show its.toArray.eraseIdxIfInBounds (its.toArray.size - 1)=its.dropLast.toArray;rw [f8,List.eraseIdxIfInBounds_toArray,MZ]
 ·rw [List.length_dropLast];omega
noncomputable def ji:R2:=λx y H Q=>∃ l b xs zs,x=.ref l/\y=.ref b/\H l=some (.lst xs)/\H b=some (.lst zs)/\xs.length+zs.length<=sizeLine/\∀ p,H p=none->Q (.ref p) (upd H p (.lst (xs++zs)))
theorem JR:G6 X (binaryOp .Add) ji:=by
 intro pins s σ H x y v u Q I rx ry h;obtain ⟨l,b,xs,zs,rfl,rfl,hH,hB,hz,q⟩:=h;cases rx;cases ry;obtain ⟨z,its,n,r,hl,e⟩:=I.abj hH;obtain ⟨z2,JO,n2,r2,D9,e2⟩:=I.abj hB;refine PySem.P.add_list e e2 ?_ (by rw [f8,f8];omega);have ea:its.toArray++JO.toArray=(its++JO).toArray:=by simp
 rw [ea];exact ⟨.ref _,_,I.ab8 (t':=s.toks) (r.append r2) (by rw [ca];omega),rfl,q _ I.fresh⟩
end
section
variable {κ:Type}[DecidableEq κ]
noncomputable def Bw (kvs:List (κ × V))(k:κ):Option V:=(kvs.find? λkv=>decide (kv.1=k)).map (·.2)
noncomputable def putK (kvs:List (κ × V))(k:κ)(v:V):List (κ × V) :=
 if (kvs.any λkv=>decide (kv.1=k))=true then kvs.map (λkv=>if kv.1=k then (kv.1,v) else kv) else kvs++[(k,v)]
theorem BP {p:κ × V}{r:List (κ × V)}{k:κ}(e:p.1=k):Bw (p::r) k=some p.2:=by simp [Bw,Re,e]
theorem Bo {p:κ × V}{r:List (κ × V)}{k:κ}(e:¬ p.1=k):Bw (p::r) k=Bw r k:=by simp [Bw,Re,e]
theorem DN (k:κ):∀ kvs:List (κ × V),(kvs.any λkv=>decide (kv.1=k))=(Bw kvs k).isSome
 | []=>rfl
 | p::r=>by
  rw [List.any_cons];by_cases e:p.1=k
  ·simp only [BP e,decide_eq_true e,Bool.true_or,Option.isSome_some]
  ·rw [Bo e,decide_eq_false e,Bool.false_or];exact DN k r
theorem Lh (k j:κ)(y:V):∀ kvs:List (κ × V),Bw (kvs.map λkv=>if kv.1=k then (kv.1,y) else kv) j=(Bw kvs j).map λx=>if j=k then y else x
 | []=>rfl
 | p::r=>by
  have ih:=Lh k j y r;rw [xz];by_cases h:p.1=k
  ·rw [if_pos h];by_cases e:p.1=j
   ·rw [BP (p:=(p.1,y)) e,BP e,Option.map_some,if_pos (e.symm.trans h)]
   ·rw [Bo (p:=(p.1,y)) e,Bo e,ih]
  ·rw [if_neg h];by_cases e:p.1=j
   ·rw [BP (p:=p) e,BP e,Option.map_some,if_neg (λz=>h (e.trans z))]
   ·rw [Bo (p:=p) e,Bo e,ih]
theorem J9 (k j:κ)(y:V):∀ kvs:List (κ × V),Bw kvs k=none->Bw (kvs++[(k,y)]) j=if j=k then some y else Bw kvs j
 | [],_=>by
  by_cases e:k=j
  ·rw [if_pos e.symm];exact BP (p:=(k,y)) e
  ·rw [if_neg (λz=>e z.symm)];exact Bo (p:=(k,y)) e
 | p::r,hn=>by
  rw [List.cons_append];have hk:¬ p.1=k:=λz=>by rw [BP z] at hn;cases hn
  rw [Bo hk] at hn;have ih:=J9 k j y r hn;by_cases e:p.1=j
  ·rw [BP e,BP e,if_neg (λz=>hk (e.trans z))]
  ·rw [Bo e,Bo e,ih]
theorem Ey (kvs:List (κ × V))(k j:κ)(y:V):Bw (putK kvs k y) j=if j=k then some y else Bw kvs j:=by
 unfold putK;by_cases a:(kvs.any λkv=>decide (kv.1=k))=true
 ·rw [if_pos a,Lh];rw [DN] at a;by_cases e:j=k
  ·obtain ⟨x,hx⟩:=Option.isSome_iff_exists.mp a;rw [if_pos e,e,hx,Option.map_some,if_pos rfl]
  ·rw [if_neg e];cases Bw kvs j with
   | none=>rfl
   | some x=>rw [Option.map_some,if_neg e]
 ·rw [if_neg a];refine J9 k j y kvs ?_;rw [DN] at a;cases q:Bw kvs k with
  | none=>rfl
  | some x=>rw [q] at a;exact (a rfl).elim
theorem Ez (kvs:List (κ × V))(k:κ)(v:V):(putK kvs k v).length<=kvs.length+1:=by
 unfold putK;split
 ·rw [ba];omega
 ·rw [ca,sB,List.length_nil];omega
theorem DO {kvs:List (κ × V)}{k:κ}(v:V)(h:Bw kvs k=none):putK kvs k v=kvs++[(k,v)]:=by
 unfold putK;rw [DN,h];exact if_neg ⟨⟩
theorem Ek.aae (r:Ek o u):o.isSome=u.isSome:=by
 cases o with
 | none=>cases u with
  | none=>rfl
  | some _=>exact (show False from r).elim
 | some _=>cases u with
  | none=>exact (show False from r).elim
  | some _=>rfl
theorem Ek.getD (r:Ek o u)(left:RelV d d'):RelV (o.getD d) (u.getD d'):=by
 cases o with
 | none=>cases u with
  | none=>exact left
  | some _=>exact (show False from r).elim
 | some _=>cases u with
  | none=>exact (show False from r).elim
  | some _=>exact r
theorem KV.val (r:KV kvs vs)(k:κ):Ek (Bw kvs k) (valueAt vs k):=by
 unfold KV at r
 induction r with
 | nil=>exact True.intro
 | @cons p q ps qs h t ih =>
  obtain ⟨h1,h2⟩:=h;by_cases e:p.1=k
  ·have e':q.1=k:=h1.symm.trans e;have b:valueAt (q::qs) k=some q.2:=(by simp [valueAt,Re,e']);rw [BP e,b];exact h2
  ·have e':¬ q.1=k:=λz=>e (h1.trans z);have b:valueAt (q::qs) k=valueAt qs k:=(by simp [valueAt,Re,e']);rw [Bo e,b];exact ih
theorem KV.any (r:KV kvs vs)(k:κ):(kvs.any λkv=>decide (kv.1=k))=vs.any λkv=>decide (kv.1=k):=by
 unfold KV at r
 induction r with
 | nil=>rfl
 | cons h t ih=>rw [List.any_cons,List.any_cons,ih,h.1]
theorem KV.abu (r:KV kvs vs)(k:κ)(ry:RelV y u):
  KV (kvs.map λkv=>if kv.1=k then (kv.1,y) else kv) (vs.map λkv=>if kv.1=k then (kv.1,u) else kv):=by
 unfold KV at r ⊢
 induction r with
 | nil=>exact .nil
 | @cons p q ps qs h t ih =>
  rw [xz,xz];refine .cons ?_ ih;obtain ⟨h1,h2⟩:=h;by_cases e:p.1=k
  ·rw [if_pos e,if_pos (h1.symm.trans e)];exact ⟨h1,ry⟩
  ·rw [if_neg e,if_neg (λz=>e (h1.trans z))];exact ⟨h1,h2⟩
theorem KV.put (r:KV kvs vs)(k:κ)(ry:RelV y u):KV (putK kvs k y) (stored vs k u):=by
 unfold putK stored;rw [r.any k];by_cases e:(vs.any λkv=>decide (kv.1=k))=true
 ·rw [if_pos e,if_pos e];exact r.abu k ry
 ·rw [if_neg e,if_neg e];exact Paired.snoc r ⟨rfl,ry⟩
theorem KV.length (r:KV kvs vs):kvs.length=vs.length:=AC r
end
theorem F9 (r:RelV (kV k) u):(B1 P w).is k u=true:=by
 cases k with
 | inl i=>obtain ⟨t,e⟩:=(show ∃ t,u=Value.int i t from r);subst e;exact KU P w i t
 | inr x=>obtain ⟨t,e⟩:=(show ∃ t,u=Value.str x t from r);subst e;exact Eo P w x t
theorem Ja {P:Program}{w:World}:∀ {ks:List Key} {us:List Value},Vals (ks.map kV) us->ItemsAre (B1 P w) ks us
 | [],_,r=>by rw [List.map_nil] at r;cases r;exact .nil
 | k::ks,_,r=>by
  rw [xz] at r;cases r with
  | cons h t=>exact .cons (F9 h) (Ja t)
abbrev KT (H:Hp):List (List Key × V)->List (List Key × Addr × Value)->Prop:=Paired λp q=>p.1=q.1/\H q.2.1=some (.tup (p.1.map kV))/\RelV p.2 q.2.2
theorem KT.val (r:KT H kvs xs)(k:List Key):Ek (Bw kvs k) ((atKey xs k).map (·.2)):=by
 induction r with
 | nil=>exact True.intro
 | @cons p q ps qs h t ih =>
  obtain ⟨h1,_,h2⟩:=h;by_cases e:p.1=k
  ·have e':q.1=k:=h1.symm.trans e;have b:atKey (q::qs) k=some q.2:=(by simp [atKey,Re,e']);rw [BP e,b];exact h2
  ·have e':¬ q.1=k:=λz=>e (h1.trans z);have b:atKey (q::qs) k=atKey qs k:=(by simp [atKey,Re,e']);rw [Bo e,b];exact ih
theorem KT.abu (r:KT H kvs xs)(k:List Key)(ry:RelV y u):
  KT H (kvs.map λkv=>if kv.1=k then (kv.1,y) else kv) (xs.map (putAt k u)):=by
 induction r with
 | nil=>exact .nil
 | @cons p q ps qs h t ih =>
  rw [xz,xz];refine .cons ?_ ih;obtain ⟨h1,h2,h3⟩:=h;unfold putAt;by_cases e:p.1=k
  ·rw [if_pos e,if_pos (h1.symm.trans e)];exact ⟨h1,h2,ry⟩
  ·rw [if_neg e,if_neg (λz=>e (h1.trans z))];exact ⟨h1,h2,h3⟩
theorem KT.put (r:KT H kvs xs)(k:List Key)(hb:H b=some (.tup (k.map kV)))(ry:RelV y u):
  KT H (putK kvs k y) (storedH xs k b u):=by
 have e:(kvs.any λkv=>decide (kv.1=k))=(atKey xs k).isSome:=by
  rw [DN,(r.val k).aae,Option.isSome_map]
 unfold putK storedH;rw [e];by_cases q:(atKey xs k).isSome=true
 ·rw [if_pos q,if_pos q];exact r.abu k ry
 ·rw [if_neg q,if_neg q];exact Paired.snoc r ⟨rfl,hb,ry⟩
theorem KT.keeps (r:KT H kvs xs)(ht:∀ b ys,H b=some (.tup ys)->H' b=some (.tup ys)):KT H' kvs xs :=
 Paired.aar r λ_ _ z=>⟨z.1,ht _ _ z.2.1,z.2.2⟩
section
variable {P:Program}{w:World}{H:Hp}{h:Heap}{a:Addr}
theorem Yh (ok:DM P w H h)(e:Rd H a u):B6 P w H h a u:=e.ok ok
theorem FH (ok:DM P w H h)(e:Rd H a (.dK kvs)):kvs.length<=sizeLine/\(a==sysModules)=false/\∃ vs,KV kvs vs/\h.DictOf (B1 P w) a vs :=
 show B6 P w H h a (.dK kvs) from Yh ok e
theorem Yi (ok:DM P w H h)(e:H a=some (.dK kvs)):kvs.length<=sizeLine/\(a==sysModules)=false/\∃ vs,KV kvs vs/\h.DictOf (B1 P w) a vs:=FH ok (.inl e)
theorem Ga (ok:DM P w H h)(e:H a=some (.tup (ks.map kV))):(tupleKind (B1 P w)).is h ks a:=by
 obtain ⟨_,its,r,o,h1,h2,n,h3⟩:=(show B6 P w H h a (.tup (ks.map kV)) from ok a _ e);exact ⟨o,its.toArray,n,h1,h2,h3,by simpa using Ja r⟩
theorem HC (ok:DM P w H h)(e:Rd H a (.dT kvs)):kvs.length<=sizeLine/\(a==sysModules)=false /\
  ∃ xs,KT H kvs xs/\h.DictOfH (tupleKind (B1 P w)) a xs:=by
 obtain ⟨z,y,xs,r,o,es,ep,h1,h2,h3,h4,h5⟩:=(show B6 P w H h a (.dT kvs) from Yh ok e);refine ⟨z,y,xs,r,o,es,ep,h1,h2,h3,h4,λx hx=>?_,h5⟩;have all:∀ {l:List (List Key × V)} {m:List (List Key × Addr × Value)},KT H l m->∀ x∈m,(tupleKind (B1 P w)).is h x.1 x.2.1:=by
  intro l m q
  induction q with
  | nil=>intro x hx;exact nomatch hx
  | @cons p q ps qs hq t ih =>
   intro x hx;rcases gz.mp hx with e | hx
   ·subst e;exact Ga ok (by rw [<- hq.1];exact hq.2.1)
   ·exact ih x hx
 exact all r x hx
theorem jj (ok:DM P w H h)(e:H a=some (.dT kvs)):kvs.length<=sizeLine/\(a==sysModules)=false /\
  ∃ xs,KT H kvs xs/\h.DictOfH (tupleKind (B1 P w)) a xs:=HC ok (.inl e)
end
noncomputable def Cr (H:Hp)(a:Addr)(y:V)(r:Option V):Prop :=
 (∃ kvs k,Rd H a (.dK kvs)/\y=kV k/\r=Bw kvs k)\/∃ kvs k b,Rd H a (.dT kvs)/\y=.ref b/\H b=some (.tup (k.map kV))/\r=Bw kvs k
noncomputable def IK (H:Hp)(a:Addr)(y v:V)(H':Hp):Prop :=
 (∃ kvs k,H a=some (.dK kvs)/\y=kV k/\kvs.length < sizeLine/\H'=upd H a (.dK (putK kvs k v))) \/
 ∃ kvs k b,H a=some (.dT kvs)/\y=.ref b/\H b=some (.tup (k.map kV))/\kvs.length < sizeLine/\H'=upd H a (.dT (putK kvs k v))
theorem Cr.k {H:Hp}{a:Addr}{kvs:List (Key × V)}{k:Key}(e:H a=some (.dK kvs)):Cr H a (kV k) (Bw kvs k):=.inl ⟨kvs,k,.inl e,rfl,rfl⟩
theorem IK.k {H:Hp}{a:Addr}{kvs:List (Key × V)}{k:Key}{v:V}(e:H a=some (.dK kvs))(hl:kvs.length < sizeLine):IK H a (kV k) v (upd H a (.dK (putK kvs k v))):=.inl ⟨kvs,k,e,rfl,hl,rfl⟩
section
variable {X:Cx}{pins:List (Addr × Obj)}{σ:St}{H:Hp}{s:Shared}{a:Addr}{y v:V}{u r:Value}{o:Option V}{A:Around}{E:Value->Shared->Prop}
theorem Inv.big (I:Inv X pins σ H s):sysModules < s.heap.objs.size:=by
 have h:mainGlobals < s.heap.objs.size:=(I.mod.glob.keeps I.bk).lt;exact Nat.lt_trans ⟨⟩ h
theorem Qb (hu:A.units+1 < cLine)(I:Inv X pins σ H s)(g:Cr H a y (some v))(ry:RelV y u)(h:∀ w' s',Inv X pins σ H s'->RelV v w'->Q w' s'):
  wpAny (model X.prog X.w) A (getItem (.ref a) u) Q E s:=by
 rcases g with ⟨kvs,k,e,ey,l⟩ | ⟨kvs,k,b,e,ey,eb,l⟩
 ·subst ey;obtain ⟨z,hd,vs,rel,dd⟩:=FH I.hok e;obtain ⟨w',hw,RZ⟩:=Ek.some_of (v:=v) (o:=valueAt vs k) (by rw [l];exact rel.val k);exact wpAny_getItem_of (F9 ry) dd.mapOf hw (h w' _ (I.tok _) RZ)
 ·subst ey;cases (show u=Value.ref b from ry);obtain ⟨z,hd,xs,rel,dd⟩:=HC I.hok e;obtain ⟨w',hw,RZ⟩:=Ek.some_of (v:=v) (o:=(atKey xs k).map (·.2)) (by rw [l];exact rel.val k);obtain ⟨p,hp,sM⟩:=Option.map_eq_some_iff.mp hw;refine wpAny_getItem_heap (tupleKind_room_in1 hu) (Ga I.hok eb) dd hp ?_;rw [sM];exact h w' _ (I.tok _) RZ
theorem sN (hu:A.units+1 < cLine)(I:Inv X pins σ H s)(g:Cr H a y o)(ry:RelV y u)(h:∀ s',Inv X pins σ H s'->Q (.bool o.isSome) s'):
  wpAny (model X.prog X.w) A (compareOp .In u (.ref a)) Q E s:=by
 rcases g with ⟨kvs,k,e,ey,l⟩ | ⟨kvs,k,b,e,ey,eb,l⟩
 ·subst ey;obtain ⟨z,hd,vs,rel,dd⟩:=FH I.hok e;refine wpAny_in_of (F9 ry) hd dd.mapOf ?_;rw [<- (rel.val k).aae,<- l];exact h _ (I.tok _)
 ·subst ey;cases (show u=Value.ref b from ry);obtain ⟨z,hd,xs,rel,dd⟩:=HC I.hok e;refine wpAny_in_heap (tupleKind_room_in1 hu) (Ga I.hok eb) hd dd ?_;have q:=(rel.val k).aae;rw [Option.isSome_map] at q;rw [<- q,<- l];exact h _ (I.tok _)
theorem Vw (hu:A.units+1 < cLine)(I:Inv X pins σ H s)(g:Cr H a y o)(ry:RelV y u)(h:∀ s',Inv X pins σ H s'->Q (.bool (!o.isSome)) s'):
  wpAny (model X.prog X.w) A (compareOp .NotIn u (.ref a)) Q E s:=by
 rcases g with ⟨kvs,k,e,ey,l⟩ | ⟨kvs,k,b,e,ey,eb,l⟩
 ·subst ey;obtain ⟨z,hd,vs,rel,dd⟩:=FH I.hok e;refine wpAny_notIn_of (F9 ry) hd dd.mapOf ?_;rw [<- (rel.val k).aae,<- l];exact h _ (I.tok _)
 ·subst ey;cases (show u=Value.ref b from ry);obtain ⟨z,hd,xs,rel,dd⟩:=HC I.hok e;refine wpAny_notIn_heap (tupleKind_room_in1 hu) (Ga I.hok eb) hd dd ?_;have q:=(rel.val k).aae;rw [Option.isSome_map] at q;rw [<- q,<- l];exact h _ (I.tok _)
theorem JS (I:Inv X pins σ H s)(mu:iV (H a))(hs:Heap.SameBut a s.heap h')(he:∃ q,h'.get? a=some q)(new:B6 X.prog X.w (upd H a ob) h' a ob):
  Inv X pins σ (upd H a ob) { s with heap:=h',toks:=t' } :=
 I.write (x:=a) (e:=a) mu (.inl rfl) (λb q hb z=>(hs.2 b hb).trans z) he new
theorem JT (z:kvs.length<=sizeLine)(hd:(a==sysModules)=false)(rel:KV kvs vs)(dd:h'.DictOf (B1 P w) a vs):
  B6 P w H' h' a (.dK kvs):=⟨z,hd,vs,rel,dd⟩
theorem Qc (hu:A.units+1 < cLine)(I:Inv X pins σ H s)(g:IK H a y v H')(ry:RelV y u)(rv:RelV v r)(h:∀ s',Inv X pins σ H' s'->Q .unit s'):
  wpAny (model X.prog X.w) A (setItem (.ref a) u r) Q E s:=by
 rcases g with ⟨kvs,k,e,ey,l,eH⟩ | ⟨kvs,k,b,e,ey,eb,l,eH⟩
 ·subst ey eH;obtain ⟨z,hd,vs,rel,dd⟩:=Yi I.hok e;have hz:vs.length<=sizeLine:=by rw [<- rel.length];exact z
  have hl:(putK kvs k v).length<=sizeLine:=by have:=Ez kvs k v;omega
  refine wpAny_setItem_pairs (hsz:=hz) (F9 ry) dd λh' Vx hs=>h _ ?_;have he:∃ q,h'.get? a=some q:=let ⟨q,_,_,hq,_⟩:=Vx;⟨q,hq⟩;exact JS I (by rw [e];exact True.intro) hs he (JT hl hd (rel.put k rv) Vx)
 ·subst ey eH;cases (show u=Value.ref b from ry);obtain ⟨z,hd,xs,rel,dd⟩:=jj I.hok e;have hz:xs.length<=sizeLine:=by rw [<- AC rel];exact z
  have hl:(putK kvs k v).length<=sizeLine:=by have:=Ez kvs k v;omega
  refine wpAny_setItem_heap (hsz:=hz) (tupleKind_room_in1 hu) (Ga I.hok eb) dd λh' Vx hs=>h _ ?_;obtain ⟨q,es,ep,hq,h2,h3,h4,_,h5⟩:=Vx;refine JS I (by rw [e];exact True.intro) hs ⟨q,hq⟩ ⟨hl,hd,_,(rel.put k eb rv).keeps λc ys ec=>?_,q,es,ep,hq,h2,h3,h4,h5⟩;rw [Ac (AW ec e (λz=>nomatch z))];exact ec
end
section
variable {X:Cx}{pins:List (Addr × Obj)}{σ:St}{H:Hp}{s:Shared}{a:Addr}{kvs:List (Key × V)}{k:Key}{u:Value}{A:Around}{E:Value->Shared->Prop}
theorem jk (I:Inv X pins σ H s)(e:Rd H a (.dK kvs))(h:∀ t s',Inv X pins σ H s'->Q (.int kvs.length t) s'):wpAny (model X.prog X.w) A (call (.builtin "len") [.ref a]) Q E s:=by
 obtain ⟨z,hd,vs,rel,dd⟩:=FH I.hok e;refine call_len_dict hd dd (by rw [<- rel.length];rw [Sc] at z;omega) ?_;rw [<- rel.length];exact h _ _ (I.tok _)
end
noncomputable def N7 (i:Expr):Prop:=∀ ov iv,subscripted i false ov iv=operate [ov,iv] (getItem ov iv)
theorem JU {prog:Program}{w:World}{A:Around}{E:Value->Shared->Prop}{s:Shared}{env:Env}{value slice:Expr}{pos:Pos}{T id:String}{Q:Value->Shared->Prop}
  (hl:typeLookup (.type T) "__getitem__"=pure (some (.builtin id))) (hs:N7 slice)
  (h:wpAny (model prog w) A (eval value env) (λo s₁=>wpAny (model prog w) A (eval slice env) (λi s₂=>s₂.TypeIs o T/\wpAny (model prog w) A (getItem o i) Q E s₂) E s₁) E s) :
  wpAny (model prog w) A (eval (.Subscript value slice pos) env) Q E s:=by
 refine Subscript_ (OH h (λo s₁ h₁=>OH h₁ (λi s₂ h₂=>?_) λ_ _ x=>x) λ_ _ x=>x);obtain ⟨hT,h₂⟩:=h₂;unfold subscriptTail;refine aa ?_;rw [getitemInPython_of_ne hT.not_modules];refine aa (wpAny_specialOf hT hl ?_);have fin:wpAny (model prog w) A (subscripted slice false o i) (λr s₃=>wpAny (model prog w) A (letTemporaryGo value o r >>= λ_=>pure r) Q E s₃) E s₂:=by
  rw [hs o i];exact wpAny_operating (OH h₂ (λr s₃ h₃=>aa (wpAny_letTemporaryGo (bv h₃))) λ_ _ x=>x)
 first
  | exact bv (aa fin)
  | exact aa (bv (aa fin))
  | exact aa fin
theorem Li (I:Inv X pins σ H s)(g:Cr H a y o):s.TypeIs (.ref a) "dict":=by
 rcases g with ⟨kvs,k,e,_,_⟩ | ⟨kvs,k,b,e,_,_,_⟩
 ·obtain ⟨_,_,vs,_,dd⟩:=FH I.hok e;exact dd.typeIs
 ·obtain ⟨_,_,xs,_,dd⟩:=HC I.hok e;exact dd.typeIs
noncomputable def Lj (td ty:TE):TE:=fun σ H Q=>td σ H λx H1=>ty σ H1 λy H2=>∃ a v,x=.ref a/\Cr H2 a y (some v)/\Q v H2
noncomputable def ZM (ty td:TE):TE:=fun σ H Q=>ty σ H λy H1=>td σ H1 λx H2=>∃ a o,x=.ref a/\Cr H2 a y o/\Q (.bl o.isSome) H2
noncomputable def He (ty td:TE):TE:=fun σ H Q=>ty σ H λy H1=>td σ H1 λx H2=>∃ a o,x=.ref a/\Cr H2 a y o/\Q (.bl (!o.isSome)) H2
noncomputable def S6 (td ty tv:TE):TS:=λD σ H=>tv σ H λv H1=>td σ H1 λx H2=>ty σ H2 λy H3=>∃ a H4,x=.ref a/\IK H3 a y v H4/\D.nx σ H4
section
variable {X:Cx}{o i e value:Expr}{pos pos' Q6:Pos}{td ty tv:TE}
theorem Vy (hu:X.A.units+1 < cLine)(ho:PE X o td)(hi:PE X i ty)(hs:N7 i):PE X (.Subscript o i pos) (Lj td ty):=by
 intro pins s σ H Q I h;refine JU PySem.F.slot_dict_getitem.lookup hs (Bc (ho pins s σ H _ I h) λu s1 AR=>?_);obtain ⟨x,H1,I1,rx,q1⟩:=AR;refine Bc (hi pins s1 σ H1 _ I1 q1) λiv s2 AR=>?_;obtain ⟨y,H2,I2,ry,a,v,ex,g,q2⟩:=AR;subst ex;obtain rfl:u=Value.ref a:=rx;exact ⟨Li I2 g,Qb hu I2 g ry λw' s3 I3 RZ=>⟨v,H2,I3,RZ,q2⟩⟩
theorem ZN (hu:X.A.units+1 < cLine)(hi:PE X i ty)(ho:PE X o td):PC X .In i o (ZM ty td):=by
 intro pins s σ H Q I h;refine Bc (hi pins s σ H _ I h) λiv s1 AR=>?_;obtain ⟨y,H1,I1,ry,q1⟩:=AR;refine Bc (ho pins s1 σ H1 _ I1 q1) λu s2 AR=>?_;obtain ⟨x,H2,I2,rx,a,ov,ex,g,q2⟩:=AR;subst ex;obtain rfl:u=Value.ref a:=rx;exact sN hu I2 g ry λs3 I3=>⟨.bl ov.isSome,H2,I3,rfl,q2⟩
theorem Qd (hu:X.A.units+1 < cLine)(hi:PE X i ty)(ho:PE X o td):PC X .NotIn i o (He ty td):=by
 intro pins s σ H Q I h;refine Bc (hi pins s σ H _ I h) λiv s1 AR=>?_;obtain ⟨y,H1,I1,ry,q1⟩:=AR;refine Bc (ho pins s1 σ H1 _ I1 q1) λu s2 AR=>?_;obtain ⟨x,H2,I2,rx,a,ov,ex,g,q2⟩:=AR;subst ex;obtain rfl:u=Value.ref a:=rx;exact Vw hu I2 g ry λs3 I3=>⟨.bl (!ov.isSome),H2,I3,rfl,q2⟩
theorem Vz (hu:X.A.units+1 < cLine)(ho:PE X o td)(hi:PE X i ty)(hv:PE X value tv)(hs:swapsWith value (some (.Subscript o i pos')) pos.line X.env=pure false):
  PS X (.Assign [.Subscript o i pos'] value pos) (S6 td ty tv):=by
 intro pins s σ H D I h;refine wpAny_Assign_Subscript (Bc (hv pins s σ H _ I h) λr s1 AR=>?_) hs;obtain ⟨v,H1,I1,rv,q1⟩:=AR;refine Bc (ho pins s1 σ H1 _ I1 q1) λu s2 AR=>?_;obtain ⟨x,H2,I2,rx,q2⟩:=AR;refine Bc (hi pins s2 σ H2 _ I2 q2) λiv s3 AR=>?_;obtain ⟨y,H3,I3,ry,a,H4,ex,g,q3⟩:=AR;subst ex;obtain rfl:u=Value.ref a:=rx;exact Qc hu I3 g ry rv λs4 I4=>⟨σ,H4,I4,q3⟩
end
theorem Lk (h:Heap)(hb:sysModules < h.objs.size):B6 P w H (h.push { cls:=.type "dict",data:=.dict #[] }) h.objs.size (.dK []) :=
 ⟨mi _,beq_eq_false_iff_ne.mpr (be (dL hb)),[],.nil,Heap.DictOf.new h⟩
noncomputable def S7:TE:=λ_ H Q=>∀ p,H p=none->Q (.ref p) (upd H p (.dK []))
section
variable {X:Cx}{pos:Pos}
theorem S8:PE X (.Dict [] [] pos) S7:=λpins s σ H Q I h =>
 wpAny_Dict_empty ⟨.ref s.heap.objs.size,_,I.laid (a:=s.heap.objs.size) (o:=.dK []) (t':=s.toks) (λ_ _ q=>ac _ q) (am _) (Lk s.heap I.big),rfl,h _ (I.hok.fresh (am _))⟩
end
noncomputable def Fn:List (TE × TE)->St->Hp->(List (V × V)->Hp->Prop)->Prop
 | [],_,H,Q=>Q [] H
 | (tk,tv)::r,σ,H,Q=>tk σ H λx H1=>tv σ H1 λy H2=>Fn r σ H2 λps H3=>Q ((x,y)::ps) H3
abbrev VV:List (V × V)->List (Value × Value)->Prop:=Paired λp q=>RelV p.1 q.1/\RelV p.2 q.2
noncomputable def jl (X:Cx)(pos:Pos)(keys:List (Option Expr))(values:List Expr)(Jb:List (TE × TE)):Prop :=
 ∀ (pins:List (Addr × Obj)) (s:Shared) (σ:St) (H:Hp) (Q:List (V × V)->Hp->Prop),Inv X pins σ H s->Fn Jb σ H Q ->
  wpAny (model X.prog X.w) X.A (evalPairs (pairTrees keys values X.env pos)) (λvs s'=>∃ ps H',Inv X pins σ H' s'/\VV ps vs/\Q ps H') X.xe s
theorem VA:jl X pos [] [] []:=λpins s σ H Q I h=>pairTrees_nil_walk ⟨[],H,I,.nil,h⟩
theorem S9 (hk:PE X k tk)(hv:PE X v tv)(hr:jl X pos ks vs Jb):
  jl X pos (some k::ks) (v::vs) ((tk,tv)::Jb):=λpins s σ H Q I h =>
 pairTrees_cons_walk (Bc (hk pins s σ H _ I h) λu s1 ⟨x,H1,I1,rx,q1⟩=>Bc (hv pins s1 σ H1 _ I1 q1) λw2 s2 ⟨y,H2,I2,ry,q2⟩ =>
  Bc (hr pins s2 σ H2 _ I2 q2) λws s3 ⟨ps,H3,I3,rel,q3⟩=>⟨(x,y)::ps,H3,I3,.cons ⟨rx,ry⟩ rel,q3⟩)
noncomputable def CC (kvs more:List (Key × V)):List (Key × V):=more.foldl (λacc kv=>putK acc kv.1 kv.2) kvs
theorem KV.merge:∀ {more:List (Key × V)} {rs:List (Key × Value)} {kvs:List (Key × V)} {vs:List (Key × Value)},KV more rs->KV kvs vs->KV (CC kvs more) (merged vs rs):=by
 intro more rs kvs vs r;unfold KV at r
 induction r generalizing kvs vs with
 | nil=>intro q;exact q
 | @cons p q ps qs h t ih =>
  intro r0;have e:KV (putK kvs p.1 p.2) (stored vs q.1 q.2):=by
   have:=r0.put p.1 h.2;rw [<- h.1];exact this
  exact ih e
theorem Fb:∀ (more kvs:List (Key × V)),(CC kvs more).length<=kvs.length+more.length
 | [],kvs=>by show kvs.length<=kvs.length+0;omega
 | p::r,kvs=>by
  have h1:=Fb r (putK kvs p.1 p.2);have h2:=Ez kvs p.1 p.2;show (CC (putK kvs p.1 p.2) r).length<=_;rw [sB];omega
theorem HD {P:Program}{w:World}:∀ {kvs:List (Key × V)} {ws:List (Value × Value)},VV (kvs.map λkv=>(kV kv.1,kv.2)) ws->∃ rs,Carries (B1 P w) ws rs/\KV kvs rs
 | [],_,r=>by rw [List.map_nil] at r;cases r;exact ⟨[],True.intro,.nil⟩
 | p::kvs,_,r=>by
  rw [xz] at r;cases r with
  | @cons a b as bs h t =>
   obtain ⟨rs,c,q⟩:=HD (P:=P) (w:=w) t;obtain ⟨b1,b2⟩:=b;exact ⟨(p.1,b2)::rs,⟨F9 h.1,rfl,c⟩,.cons ⟨rfl,h.2⟩ q⟩
noncomputable def Sd (Jb:List (TE × TE)):TE:=fun σ H Q=>∀ p,H p=none->Fn Jb σ (upd H p (.dK [])) λps H2=>H2 p=some (.dK [])/\∃ kvs:List (Key × V),ps=kvs.map (λkv=>(kV kv.1,kv.2))/\kvs.length<=15/\Q (.ref p) (upd H2 p (.dK (CC [] kvs)))
theorem VB (h:jl X pos keys values Jb)(Nc:keys.all (·.isSome)=true)(hl:keys.length=values.length)(h0:keys≠[])(sO:keys.length<=15):PE X (.Dict keys values pos) (Sd Jb):=by
 intro pins s σ H Q I q;have hn:=I.hok.fresh (am s.heap.objs.size);have I1:=I.laid (a:=s.heap.objs.size) (o:=.dK []) (h':=s.heap.push { cls:=.type "dict",data:=.dict #[] }) (t':=s.toks) (λ_ _ q=>ac _ q) (am _) (Lk s.heap I.big);refine wpAny_Dict_walk (knd:=B1 X.prog X.w) Nc hl h0 sO (Bc (h pins _ σ _ _ I1 (q _ hn)) λws s2 AR=>?_);obtain ⟨ps,H2,I2,rel,e,kvs,ep,lk,q2⟩:=AR;subst ep;obtain ⟨rs,c,rk⟩:=HD (P:=X.prog) (w:=X.w) rel;obtain ⟨z,hd,vs0,r0,dd⟩:=Yi I2.hok e;cases r0;refine ⟨rs,c,dd,λh' Vx hs=>⟨.ref s.heap.objs.size,_,?_,rfl,q2⟩⟩;have hz:(CC [] kvs).length<=sizeLine:=by
  have h1:=Fb kvs [];rw [List.length_nil] at h1;rw [Sc];omega
 have he:∃ q,h'.get? s.heap.objs.size=some q:=let ⟨q,_,_,hq,_⟩:=Vx;⟨q,hq⟩;exact JS I2 (by rw [e];exact True.intro) hs he (JT hz hd (rk.merge .nil) Vx)
structure M2 (X:Cx)(o:Expr)(m:Str)(apos:Pos)(e f:Expr)(CP:Pos):Prop where
 base:attributeBase o m X.env (eval o X.env)=eval o X.env
 few:((backTo CP (starEach [e,f] X.env)).all (λx=>!x.1) && (backToKw CP (keywordEach [] X.env)).all (λx=>x.1.isSome)
  && decide (([e,f]:List Expr).length+([]:List Keyword).length+(if ([]:List Keyword).isEmpty then 0 else 1) < 30))=true
 line:(apos.endLine==CP.line)=true
 trees:backTo CP (starEach [e,f] X.env)=[(false,eval e X.env),(false,eval f X.env)]
noncomputable def sP (H:Hp)(a:Addr):Prop:=(∃ kvs,Rd H a (.dK kvs))\/∃ kvs,Rd H a (.dT kvs)
theorem ZO (I:Inv X pins σ H s)(d:sP H a):
  s.TypeIs (.ref a) "dict"/\(∀ b,Value.ref a=.ref b->∃ ob,s.heap.get? b=some ob/\ob.dict=none)/\(a==sysModules)=false:=by
 rcases d with ⟨kvs,e⟩ | ⟨kvs,e⟩
 ·obtain ⟨_,hd,vs,_,dd⟩:=FH I.hok e;refine ⟨dd.typeIs,λb q=>?_,hd⟩;cases q;obtain ⟨ob,_,_,h1,h2,_⟩:=dd;exact ⟨ob,h1,h2.2.1⟩
 ·obtain ⟨_,hd,xs,_,dd⟩:=HC I.hok e;refine ⟨dd.typeIs,λb q=>?_,hd⟩;cases q;obtain ⟨ob,_,_,h1,h2,_⟩:=dd;exact ⟨ob,h1,h2.2.1⟩
section
variable {X:Cx}{pins:List (Addr × Obj)}{σ:St}{H:Hp}{s:Shared}{a:Addr}{y d:V}{u r:Value}{o:Option V}{A:Around}{E:Value->Shared->Prop}
theorem ZP (hu:A.units+1 < cLine)(I:Inv X pins σ H s)(g:Cr H a y o)(ry:RelV y u)(left:RelV d r)(h:∀ w' s',Inv X pins σ H s'->RelV (o.getD d) w'->Q w' s'):
  wpAny (model X.prog X.w) A (call (.builtin "dict.get") [.ref a,u,r]) Q E s:=by
 rcases g with ⟨kvs,k,e,ey,l⟩ | ⟨kvs,k,b,e,ey,eb,l⟩
 ·subst ey;obtain ⟨z,hd,vs,rel,dd⟩:=FH I.hok e;refine call_meetsIn PySem.F.slot_dict_get dd.typeIs PySem.F.entry_dict_get (PySem.F.args_dict_get_3 _ _ _) (meets_dict_get_default (B1 X.prog X.w) a (F9 ry) hd r) ⟨_,dd.mapOf,h _ _ (I.tok _) ?_⟩;rw [l];exact (rel.val k).getD left
 ·subst ey;cases (show u=Value.ref b from ry);obtain ⟨z,hd,xs,rel,dd⟩:=HC I.hok e;refine call_meetsIn PySem.F.slot_dict_get dd.typeIs PySem.F.entry_dict_get (PySem.F.args_dict_get_3 _ _ _) (meetsH_dict_get_default (tupleKind (B1 X.prog X.w)) a b hd r) ⟨tupleKind_room_in1 hu,k,xs,Ga I.hok eb,dd,h _ _ (I.tok _) ?_⟩;rw [l];exact (rel.val k).getD left
end
noncomputable def HE (td ty tx:TE):TE:=fun σ H Q=>td σ H λx H1=>∃ a,x=.ref a/\sP H1 a/\ty σ H1 λy H2=>tx σ H2 λz H3=>∃ o,Cr H3 a y o/\Q (o.getD z) H3
section
variable {X:Cx}{o e f:Expr}{apos CP:Pos}{td ty tx:TE}
theorem Se (hu:X.A.units+1 < cLine)(ho:PE X o td)(he:PE X e ty)(hf:PE X f tx)(m:M2 X o "get" apos e f CP):PE X (.Call (.Attribute o "get" apos) [e,f] [] CP) (HE td ty tx):=by
 intro pins s σ H Q I h;refine wpAny_Call_method m.base m.few m.line PySem.F.plainAttrs_dict PySem.F.slot_dict_get PySem.F.type_dict_get (Bc (ho pins s σ H _ I h) λu s1 AR=>?_);obtain ⟨x,H1,I1,rx,a,ex,d,q1⟩:=AR;subst ex;obtain rfl:u=Value.ref a:=rx;obtain ⟨t1,t2,_⟩:=ZO I1 d;refine ⟨t1,t2,?_⟩;rw [m.trees];refine Calls.callWith_builtin rfl (Calls.evalArgs_plain (OK (Bc (he pins s1 σ H1 _ I1 q1) λiv s2 AR=>?_)));obtain ⟨y,H2,I2,ry,q2⟩:=AR;refine OK (Bc (hf pins s2 σ H2 _ I2 q2) λfv s3 AR=>?_);obtain ⟨z,H3,I3,rz,ov,g,q3⟩:=AR;refine Calls.spliced_nil ?_;exact ZP hu I3 g ry rz λw' s4 I4 RZ=>⟨_,H3,I4,RZ,q3⟩
end
section
variable {X:Cx}{pins:List (Addr × Obj)}{σ:St}{H:Hp}{s:Shared}{a:Addr}{kvs:List (Key × V)}{A:Around}{E:Value->Shared->Prop}
theorem Sf (I:Inv X pins σ H s)(e:Rd H a (.dK kvs))(h:∀ p s',H p=none->Inv X pins σ (upd H p (.dK kvs)) s'->Q (.ref p) s'):wpAny (model X.prog X.w) A (call (.type "dict") [.ref a]) Q E s:=by
 obtain ⟨z,hd,vs,rel,dd⟩:=FH I.hok e;refine kt_call_dict hd dd (by rw [<- rel.length];exact z) λh' Vx hs=>?_;refine h _ _ (I.hok.fresh (am _)) (I.laid (a:=s.heap.objs.size) (o:=.dK kvs) (t':=s.toks) (λb q hq=>?_) (am _) (JT z (beq_eq_false_iff_ne.mpr (be (dL I.big))) rel Vx));exact (hs.2 b (dL (ii hq))).trans (ac _ hq)
end
end L2
namespace Att
open PySem PySem.W PySem.Calls PyProof.Rows
theorem GR:∀ (ns:List Int) (vs:List Value),WellAll P h vs (ns.map WData.int)->IntsAre vs ns:=by
 intro ns
 induction ns with
 | nil =>
  intro vs w;rw [List.map_nil] at w;cases w;exact .nil
 | cons n ns ih =>
  intro vs w;rw [xz] at w;cases w with
  | cons a b =>
   cases a;exact .cons _ _ (ih _ b)
theorem Qe {l:OpenLaw}{n:Nat}(hn:l.most=some n){P:Params}{h:Heap}{args:List WData}{vals:List Value}
  (VC:l.row.toRowW.claim.pre args=true) (sQ:WellAll P h vals args) :
  ∃ a vs ns,vals=[Value.ref a]/\args=[WData.list (ns.map WData.int)]/\h.get? a=some { cls:=.type "list",data:=.seq vs.toArray }/\IntsAre vs ns/\ns.length<=n:=by
 have sR:WShape.hasAll [] args [.list .int]=true:=(pre_splitW VC).1;have hc:l.pre.holds [] { args:=args }=true:=(pre_splitW VC).2;obtain ⟨d,r,rfl,h1,h2⟩:=hasAllW_cons sR;obtain rfl:=hasAllW_nil h2;obtain ⟨xs,rfl,h3⟩:=hasW_list h1;obtain ⟨ns,rfl⟩:=items_int h3;have hlen:ns.length<=n:=by
  unfold OpenLaw.pre at hc;have h4:(WTm.not (.lt (.lit (.int (n:Int))) (.len (.arg 0)))).holds [] { args:=[.list (ns.map .int)] }=true:=by
   have h4:=(holds_andW hc).1;rw [hn] at h4;exact h4
  have h5:=condW_of h4 (w_not (w_lt w_lit (w_len_list (w_arg rfl))));rw [ba] at h5;refine Nat.le_of_not_lt λq=>?_;have q':(n:Int) < ((ns.length:Nat):Int):=by omega
  first
   | (rw [decide_eq_true q'] at h5;exact absurd h5 ⟨⟩)
   | (simp at h5;omega)
 cases sQ with
 | cons w1 w2 =>
  cases w2;cases w1 with
  | list ho Nc=>exact ⟨_,_,ns,rfl,rfl,ho,GR ns _ Nc,hlen⟩
theorem Qf (l:OpenLaw)(args:List WData):l.row.toRowW.claim.post args (.bool true) args=true :=
 postW_of (r:=l.row.toRowW) (X:=(true==true))
  (show WShape.has [] (.bool true) .bool=true by first | rfl | decide | simp [WShape.has,WShape.arms,WShape.armsAll])
  (show (WTm.eq .res (.lit (.bool true))).value [] { args:=args,res:=some (.bool true),after:=args }=some (.bool (true==true)) from w_eq_bool (w_res rfl) w_lit) rfl
theorem aav {l:OpenLaw}{n:Nat}{q:Program}{loose:List Str}{XP:(Str->Option Value)->Heap->Prop}{YP:World->Heap->Prop}{d:DefRec}
  (hn:l.most=some n) (sS:d.params.defaults=[])
  (call:∀ (w:World) (s₀ s₁:Shared) (mg mb:Str->Option Value) (fa:Addr) (o:Obj) (pm cd doc:Value) (a:Addr) (vs:List Value) (ns:List Int),
   Ground q loose [] XP w s₀ mg mb s₁.heap->YP w s₁.heap ->
   s₁.heap.get? fa=some o->o.data=.func (docDef d.name d.params d.body d.scope pm cd doc)->s₁.heap.CodeRec cd d.name->mg d.name=some (.ref fa) ->
   s₁.heap.get? a=some { cls:=.type "list",data:=.seq vs.toArray }->IntsAre vs ns->ns.length<=n->s₁.gens=#[] ->
   codeAny (model l.prog w) callerA (.call (.ref fa) ⟨[.ref a],[]⟩) (λr s'=>r=.ok (.ret (.bool true))/\OldK s₁.heap s'.heap/\s'.os=s₁.os/\AllBare s'.gens) s₁) :
  WalkO q loose XP YP l.row.toRowW d [] (λf vs=>PySem.call f vs):=by
 intro w s₀ s₁ mg mb G Y fa o pm cd doc dV kV ho hd MG hD jm hg args vals as VC hlay hrd sQ hlo;obtain rfl:dV=.none:=Dflts.none hD sS;obtain rfl:kV=.none:=Dflts.noKw hD;obtain ⟨a,vs,ns,rfl,rfl,ZQ,hints,hlen⟩:=Qe hn VC sQ;refine enter_call (codeAny_mono (call w s₀ s₁ mg mb fa o pm cd doc a vs ns G Y ho (fd_plain hd) MG jm ZQ hints hlen hg) λr s' hq=>?_);obtain ⟨rfl,h2,h3,h4⟩:=hq;exact ⟨.inl ⟨.bool true,.bool true,[],rfl,λ_=>rfl,.bool true,Qf l _,λ_=>⟨List.Pairwise.nil,λ_ hm=>(nomatch hm)⟩⟩,h2,h3,h4⟩
end Att
namespace L2
open PySem PySem.Spec PyProof.Rows
theorem Jc:∀ {vs:List Value} {ns:List Int},IntsAre vs ns->Vals (ns.map V.int) vs
 | _,_,.nil=>.nil
 | _,_,.cons n t h=>.cons ⟨t,rfl⟩ (Jc h)
noncomputable def inClass (s:Stmt)(j:Nat):Stmt:=match s with
 | .ClassDef _ _ _ body _ _ _ _ _ _ _=>body.getD j (.Pass ⟨0,0,0,0⟩)
 | _=>.Pass ⟨0,0,0,0⟩
noncomputable def AX (s:Stmt):Arguments:=match s with
 | .FunctionDef _ a _ _ _ _ _ _ _ _=>a
 | _=>{ posonlyargs:=[],args:=[],vararg:=none,kwonlyargs:=[],kw_defaults:=[],kwarg:=none,defaults:=[] }
noncomputable def AJ (s:Stmt):List Stmt:=match s with
 | .FunctionDef _ _ b _ _ _ _ _ _ _=>b
 | _=>[]
noncomputable def Ah (s:Stmt):Scope:=match s with
 | .FunctionDef _ _ _ _ _ _ sc _ _ _=>sc
 | _=>{ kind:=.function,names:=[],isGenerator:=false,isCoroutine:=false }
abbrev AN:Mw:=λ_ _ _ _ _ _=>False
abbrev E0:XK:=λ_ _ _=>False
theorem Jd:Passes AN X E0:=λ_ _ _ _ _ _ _ h=>h.elim
structure C7 (K:W.Frag)(x qual:Str)(st:Stmt)(f:Addr)(fd:FuncData):Prop where
 ex:∃ (oc:Value) (od:Option Addr) (kV doc pm:Value) (an:Option Addr) (Be ct:Value) (Ye:Array (Option Value)),
  fd=W.fnOf x qual (AX st) (AJ st) (Ah st) .none kV doc pm an Be ct/\K.lookup f=some ⟨oc,od,.func fd,Ye⟩/\W.codeIn K Be qual=true
 kp:W.keepIn K (.ref f)=true
section
variable {P:Program}{w:World}{K:W.Frag}{mg:Str->Option Value}{base:Heap}
theorem C7.ok {x qual:Str}{st:Stmt}{f:Addr}{fd:FuncData}{N ps:List Str}{k:Nat}{sp:Sp}(F:C7 K x qual st f fd)(S:Am N ps (Ah st))(len:∀ vs H Q E,sp vs H Q E->vs.length=ps.length)
  (Ld:∀ (Be:Value) (A:Around) (outer:List Env) (s:Shared) (H:Hp) (vs:List V) (Q:VK) (E:XK),Ax k (A.deeper (envOfC qual (Ah st) s.heap.objs.size f Be))->sp vs H Q E ->
   ∃ t,Oa (Dt AN P w K mg base N qual (Ah st) f Be A outer s H E).nox (AJ st) t/\t { nx:=λ_ H'=>Q .non H',rt:=Q } (start N vs) H):Au P w K mg base AN (k+1) f fd ps sp:=by
 obtain ⟨oc,od,kV,doc,pm,an,Be,ct,Ye,rfl,lk,MG⟩:=F.ex;refine jb lk MG S len λA outer s H vs Q E hr gX=>?_;obtain ⟨t,h,q⟩:=Ld Be A outer s H vs Q E hr gX;exact ⟨t,h.nox,q⟩
theorem C7.binds {x qual:Str}{st:Stmt}{f:Addr}{fd:FuncData}{ps:List Str}(F:C7 K x qual st f fd)
  (h:∀ (kV doc pm:Value) (an:Option Addr) (Be ct:Value) (us:List Value),us.length=ps.length->bindArgs (W.fnOf x qual (AX st) (AJ st) (Ah st) .none kV doc pm an Be ct) ⟨us,[]⟩=pure (ps.zip us)):Binds K fd ps []:=by
 obtain ⟨oc,od,kV,doc,pm,an,Be,ct,Ye,rfl,lk,MG⟩:=F.ex;exact .all (h kV doc pm an Be ct)
theorem BQ {x qual:Str}{st:Stmt}{f:Addr}{oc:Value}{od an:Option Addr}{Ye:Array (Option Value)}{kV doc pm Be ct:Value}(l:K.lookup f=some ⟨oc,od,.func (W.fnOf x qual (AX st) (AJ st) (Ah st) .none kV doc pm an Be ct),Ye⟩)
  (c:W.codeIn K Be qual=true) (k:W.keepIn K (.ref f)=true):C7 K x qual st f (W.fnOf x qual (AX st) (AJ st) (Ah st) .none kV doc pm an Be ct):=⟨⟨oc,od,kV,doc,pm,an,Be,ct,Ye,rfl,l,c⟩,k⟩
end
theorem DE (hr:Ax k A):A.units+1 < cLine:=Nat.lt_of_le_of_lt (Nat.add_le_add_left (by decide:1<=64) _) hr.units
section
variable {X:Cx}
theorem pv (i:Nat)(hN:X.N[i]?=some x:=by rfl)(hv:gT X.env.scope x:=by exfalso)(hd:(x==("__debug__":Str))=false:=by decide)(MG:(x==("__classdict__":Str))=false:=by decide):PE X (.Name x pos) (AS i):=Rw hN hv hd MG
end
theorem Bx {A B:Prop}(h:B):if false=true then A else B:=by
 rw [if_neg lc];exact h
theorem CQ {A B:Prop}(h:A):if true=true then A else B:=by
 rw [if_pos rfl];exact h
theorem EA {c A B:Prop}[Decidable c](h1:c->A)(h2:¬ c->B):if c then A else B:=by
 by_cases h:c
 ·rw [if_pos h];exact h1 h
 ·rw [if_neg h];exact h2 h
noncomputable def Ai (H H':Hp):Prop:=∀ b o,H b=some o->H' b=some o
theorem Ai.refl (H:Hp):Ai H H:=λ_ _ h=>h
theorem Ai.trans (a:Ai H H1)(b:Ai H1 H2):Ai H H2:=λc o h=>b c o (a c o h)
theorem Ai.free (e:Ai H H')(h:H' l=Option.none):H l=Option.none:=by
 cases q:H l with
 | none=>rfl
 | some o =>
  rw [e l o q] at h;cases h
theorem Ai.seq {K:W.Frag}{H H':Hp}{a:Addr}{xs:List V}(e:Ai H H')(h:AI K H a xs):AI K H' a xs:=by
 rcases h with (h | ⟨o,h⟩) | h
 ·exact .inl (.inl (e _ _ h))
 ·exact .inl (.inr ⟨o,e _ _ h⟩)
 ·exact .inr h
section
variable {X:Cx}
theorem Je:Ds X (.builtin "len") (λxs H Q=>∃ a kvs,xs=[V.ref a]/\H a=some (.dK kvs)/\Q (.int kvs.length) H):=by
 intro pins s σ H xs us Q I r h;obtain ⟨a,kvs,rfl,ha,q⟩:=h;obtain ⟨u,rfl,ru⟩:=vals1 r;cases ru;exact jk I (.inl ha) λt s' I'=>⟨.int kvs.length,H,I',⟨t,rfl⟩,q⟩
end
section
variable {κ:Type}[DecidableEq κ]
theorem VD:∀ {l:List κ} {k:κ},l.Nodup->¬ k∈l->(l++[k]).Nodup
 | [],k,_,_=>by simp
 | a::r,k,h,hk=>by
  obtain ⟨h1,h2⟩:=Ix.mp h;show (a::(r++[k])).Nodup;refine Ix.mpr ⟨λm=>?_,VD h2 λm=>hk (gz.mpr (Or.inr m))⟩;rcases bn.mp m with q | q
  ·exact h1 q
  ·exact hk (gz.mpr (Or.inl (al.mp q).symm))
end
section
variable {P:Program}{w:World}{H H1:Hp}{h h1:Heap}{a:Addr}{o:HO}{fs ex:List Addr}
theorem DM.aao (x:DM P w H h)(hn:H a=none)(new:B6 P w (upd H a o) h a o):DM P w (upd H a o) h:=by
 intro b u e;by_cases hb:b=a
 ·subst hb;rw [Ad] at e;cases e;exact new
 ·rw [Ac hb] at e;refine (x b u e).aa0 (λc v _ q=>q) (λc q=>?_) (λc xs q=>?_)
  ·rw [Ac (Ab q hn)];exact q
  ·rw [Ac (Ab q hn)];exact q
theorem Un.aao (u:Un fs ex H H1 h h1)(hn:H1 a=none)(ha:h.get? a=none):Un fs ex H (upd H1 a o) h h1 where
 keep:=u.keep
 slot:=u.slot
 free:=λb ob q n hx=>by
  have hb:b≠a:=λz=>by rw [z,ha] at q;cases q
  rw [Ac hb];exact u.free b ob q n hx
 there:=u.there
 aa2:=λb xs q=>by
  have z:=u.aa2 b xs q;rw [Ac (Ab z hn)];exact z
 aax:=λb ob xs q=>by
  have z:=u.aax b ob xs q;rw [Ac (Ab z hn)];exact z
 aay:=λb ps q=>by
  obtain ⟨more,z⟩:=u.aay b ps q;exact ⟨more,by rw [Ac (Ab z hn)];exact z⟩
end
section
variable {prog:Program}{w:World}{A:Around}{R:Result->Shared->Prop}{s:Shared}
abbrev VE:Value->Shared->Prop:=λ_ _=>False
theorem Nd (J:Nat->Shared->Prop)(turn:∀ n s,J n s->wpAny (model prog w) A (pyNext it) (λr s1=>match r with
   | none=>R (.ok .next) s1
   | some v=>wpAny (model prog w) A (letOwnedTupleGo target it v) (λ_ s2=>wpAny (model prog w) A (assign target env v) (λ_ s3 =>
     wpAny (model prog w) A (forIn ifs true λc r=>if r=true then do let ok <- isTrue c env (eval c env);pure (ForInStep.yield ok) else pure (ForInStep.yield r)) (λok s4 =>
      if ok=true then wpAny (model prog w) A (eval elt env) (λx s5=>wpAny (model prog w) A (call (.builtin "list.append") [acc,x]) (λ_ s6=>∃ m,m < n/\J m s6) VE s5) VE s4
      else ∃ m,m < n/\J m s4) VE s3) VE s2) VE s1) VE s)(n:Nat)(h:J n s):codeAny (model prog w) A (.compLoop (.ListComp elt [⟨target,iter,ifs,0⟩] scope pos) 0 it acc env) R s:=by
 refine codeAny_loop rfl J (λn s hJ=>?_) n h;show wpAny _ A ((compTurn (.ListComp elt [⟨target,iter,ifs,0⟩] scope pos) 0 it acc env).onRaise (λx=>do noteFrame x env;theTreesLotGoes x)) _ _ s
 refine wpAny_noted ?_;rw [compTurn_list];refine aa (wpAny_standAt (aa (OH (turn n s hJ) (λr s1 q1=>?_) λ_ _ z=>z.elim)));cases r with
 | none=>exact bv q1
 | some v =>
  refine aa (OH q1 (λ_ s2 q2=>?_) λ_ _ z=>z.elim);refine aa (OH q2 (λ_ s3 q3=>?_) λ_ _ z=>z.elim);refine aa (OH q3 (λok s4 q4=>?_) λ_ _ z=>z.elim);cases ok with
  | false=>exact bv ⟨rfl,q4⟩
  | true =>
   refine aa (aa (OH q4 (λx s5 q5=>?_) λ_ _ z=>z.elim));refine aa (OH q5 (λ_ s6 q6=>?_) λ_ _ z=>z.elim);exact bv (bv ⟨rfl,q6⟩)
end
noncomputable def Cx.blk (X:Cx)(N:List Str)(env:Env)(s0:Shared)(H0:Hp)(ex:List Addr):Cx :=
 { X with N:=N,s₀:=s0,H₀:=H0,env:=env,outer:=X.stack,stack:=X.stack,ex:=ex,fn:=λ_=>false,pn:=[],xe:=VE }
structure B7 (X:Cx)(scope:Scope)(cl:List (Str × Addr))(own fr:List Str)(js:List Nat):Prop where
 ab3:closureFor scope X.env=pure cl
 cell:∀ y∈scope.names,y.2≠.cell
 kind:scope.kind=.function
 names:∀ y∈scope.names,y.2=.local->scope.names.lookup y.1=some .local
 sub:cl.map (λp=>X.env.cells.lookup p.1)=cl.map (λp=>some p.2)
 has:((relabel scope X.env).names.all λy=>!(y.2==.cell || y.2==.free) || (cl.lookup y.1).isSome)=true
 fre:(fr.all λy=>(X.env.kindOf y==some .cell || X.env.kindOf y==some .free) && ((relabel scope X.env).names.lookup y==some .cell || (relabel scope X.env).names.lookup y==some .free))=true
 here:js.map (λj=>X.N[j]?)=fr.map some
noncomputable def Dv (own:List Str)(js:List Nat)(σ:St):St:=own.map (λ_=>none)++js.map (λj=>(σ[j]?).join)
noncomputable def jn (X:Cx)(scope:Scope)(cl:List (Str × Addr))(C:Addr):Env:=compEnvC scope cl C X.env
abbrev Cx.cmp (X:Cx)(scope:Scope)(cl:List (Str × Addr))(own fr:List Str)(C:Addr)(s0:Shared)(H0:Hp)(ex:List Addr):Cx:=X.blk (own++fr) (jn X scope cl C) s0 H0 ex
theorem lookup_mem {α:Type}:∀ {l:List (Str × α)} {y:Str} {c:α},l.lookup y=some c->(y,c)∈l
 | [],_,_,h=>by simp at h
 | (z,d)::r,y,c,h=>by
  rw [List.lookup_cons] at h;cases e:y==z with
  | true=>rw [e] at h;cases h;rw [eq_of_beq e];exact .head _
  | false=>rw [e] at h;exact .tail _ (lookup_mem h)
section
variable {X:Cx}{scope:Scope}{cl:List (Str × Addr)}{own fr:List Str}{js:List Nat}{pins:List (Addr × Obj)}{σ:St}{H:Hp}{s s':Shared}{fp:List Addr}{C:Addr}{m:Str->Option Value}
theorem B7.cells (S:B7 X scope cl own fr js)(h:cl.lookup y=some c):X.env.cells.lookup y=some c:=by
 have hm:=lookup_mem h;have e:∀ (l:List (Str × Addr)),l.map (λp=>X.env.cells.lookup p.1)=l.map (λp=>some p.2)->∀ p∈l,X.env.cells.lookup p.1=some p.2:=by
  intro l
  induction l with
  | nil=>intro _ p hp;cases hp
  | cons q r ih =>
   intro h p hp;have h1:=(List.cons.inj h).1;have h2:=(List.cons.inj h).2;rcases gz.mp hp with rfl | hp
   ·exact h1
   ·exact ih h2 p hp
 exact e cl S.sub _ hm
theorem B7.ab1 (S:B7 X scope cl own fr js)(h:(relabel scope X.env).names.lookup y=some .cell\/(relabel scope X.env).names.lookup y=some .free):∃ c,cl.lookup y=some c:=by
 have key:∀ k:NameKind,(k=.cell\/k=.free)->(relabel scope X.env).names.lookup y=some k->∃ c,cl.lookup y=some c:=by
  intro k hk hl;have q:=OP.mp S.has _ (lookup_mem hl);have kk:(k==NameKind.cell || k==NameKind.free)=true:=by
   rcases hk with rfl | rfl <;> rfl
  simp only [kk,Bool.not_true,Bool.false_or] at q;exact Option.isSome_iff_exists.mp q
 rcases h with h | h
 ·exact key _ (.inl rfl) h
 ·exact key _ (.inr rfl) h
theorem B7.free (S:B7 X scope cl own fr js)(h:y∈fr):(X.env.kindOf y=some .cell\/X.env.kindOf y=some .free)/\((relabel scope X.env).names.lookup y=some .cell\/(relabel scope X.env).names.lookup y=some .free):=by
 have q:=OP.mp S.fre y h;simpa [Ev,Bool.or_eq_true] using q
theorem VF {α β:Type}{f:α->β}{l:List α}{i:Nat}{b:β}(h:(l.map f)[i]?=some b):∃ a,l[i]?=some a/\f a=b:=by
 rw [jp] at h;cases e:l[i]? with
 | none=>rw [e] at h;cases h
 | some a=>rw [e] at h;exact ⟨a,rfl,ss h⟩
theorem VG (S:B7 X scope cl own fr js)(I:Inv X pins σ H s)(hf:∀ b∈fp,GO X pins H b)(hC:s.heap.objs.size<=C)(UU:s'.heap.Ns C m)(jo:∀ b∈fp,b < s.heap.objs.size)(ZD:s'.os=s.os)(hg:s'.gens=s.gens)(k:∀ b o,s.heap.get? b=some o->s'.heap.get? b=some o) :
  Inv (X.cmp scope cl own fr C s H fp) [] (Dv own js σ) H s':=by
 have cells:∀ x c,cl.lookup x=some c->X.env.cells.lookup x=some c:=λx c h=>S.cells h;refine ⟨⟨I.ok.mod,S.kind,I.ok.glob,I.ok.blt,hC,?_,?_,?_,I.ok.hd,I.ok.frames,.inl rfl,?_,I.bs,ce I.ok.bsz I.sz,?_,?_,I.stack,I.aa3⟩,ZD,?_,Un.kept k,⟨m,UU,?_⟩,?_,?_,?_,?_,I.hok.kept k,?_⟩
 ·intro x y c h1 h2;exact I.ok.inj x y c (cells x c h1) (cells y c h2)
 ·intro x hx;exact S.ab1 hx
 ·intro x c h;exact absurd (show false=true from h) lc
 ·intro b hb;refine ⟨dL (kt (jo b hb) hC),λx c h=>?_⟩;exact (hf b hb).2.2.2.2.1 x c (cells x c h)
 ·intro b o e hb;rcases (hf b hb).2.2.2.1 with z | z
  ·exact I.ok.abk b o e z
  ·exact absurd (kt (kt (ii e) I.ok.bsz) z) (Sa _)
 ·intro b hb z;rcases gz.mp (I.aas b z) with e | e
  ·exact (hf b hb).2.1 e
  ·exact (hf b hb).2.2.1 e
 ·rw [hg];exact I.bare
 ·intro i x v h1 h2 _;have hN:(X.cmp scope cl own fr C s H fp).N=own++fr:=rfl;rw [hN] at h1;by_cases hi:i < own.length
  ·have:(Dv own js σ)[i]?=some none:=by
    unfold Dv;rw [GE (by simpa using hi),jp];simp [hi]
   rw [this] at h2;cases h2
  ·have hi:own.length<=i:=Nat.not_lt.mp hi;rw [Gc hi] at h1;unfold Dv at h2;rw [Gc (by simpa using hi),ba] at h2;obtain ⟨j,hj,ej⟩:=VF h2;have hXN:X.N[j]?=some x:=by
    have e1:(js.map (λj=>X.N[j]?))[i - own.length]?=some (X.N[j]?):=(by rw [jp,hj];rfl);rw [S.here,jp,h1] at e1;exact (ss e1).symm
   have hσ:σ[j]?=some (some v):=by
    cases e:σ[j]? with
    | none=>rw [e] at ej;cases ej
    | some o=>rw [e] at ej;cases o with
     | none=>cases ej
     | some u=>cases ej;rfl
   obtain ⟨kx,pQ⟩:=S.free (ci h1);obtain ⟨m0,_,hl⟩:=I.loc;have vis:gT X.env.scope x:=by
    rcases kx with z | z
    ·exact .inr (.inl z)
    ·exact .inr (.inr z)
   obtain ⟨u,r,lk⟩:=hl j x v hXN hσ vis;refine ⟨u,r,.inr ⟨pQ,?_⟩⟩;obtain ⟨c,hc⟩:=S.ab1 pQ;rcases lk with ⟨z,_⟩ | ⟨_,c',e',q⟩
   ·rcases kx with y | y <;> (rw [y] at z;cases z)
   ·rw [S.cells hc] at e';cases e';obtain ⟨o,ho,hd⟩:=q;exact ⟨c,hc,o,k _ _ ho,hd⟩
 ·intro x c h;obtain ⟨v,o,ho,hd⟩:=I.cell x c (cells x c h);exact ⟨v,o,k _ _ ho,hd⟩
 ·exact I.hok.fresh hC
 ·intro x c h;exact I.aah x c (cells x c h)
 ·intro p hp;exact absurd (show p∈([]:List (Addr × Obj)) from hp) (by simp)
 ·have e:js.length=fr.length:=by
   have:=congrArg List.length S.here;simpa using this
  show (Dv own js σ).length=(own++fr).length;unfold Dv;simp [e]
end
noncomputable def gY (X:Cx)(ifs:List Expr)(t:TT):Prop :=
 ∀ (pins:List (Addr × Obj)) (s:Shared) (σ:St) (H:Hp) (Q:Bool->Hp->Prop),Inv X pins σ H s->t σ H Q ->
  wpAny (model X.prog X.w) X.A (forIn ifs true λc r=>if r=true then do let ok <- isTrue c X.env (eval c X.env);pure (ForInStep.yield ok) else pure (ForInStep.yield r)) (TP X pins σ Q) X.xe s
noncomputable def HG:TT:=λ_ H Q=>Q true H
theorem VH:gY X [] HG:=λ_ _ _ H _ I h=>wpAny_tests_nil ⟨H,I,h⟩
theorem VI (h:PT X c t):gY X [c] t:=λpins s σ H Q I q=>wpAny_tests_one (h pins s σ H Q I q)
noncomputable def Ext (σ σ':St):Prop:=σ'.length=σ.length/\∀ (i:Nat) v,σ[i]?=some (some v)->σ'[i]?=some (some v)
theorem Ext.set (h:σ[i]?=some none):Ext σ (σ.set i (some v)):=by
 refine ⟨by simp,λj u e=>?_⟩;by_cases hj:i=j
 ·subst hj;rw [h] at e;cases e
 ·rw [List.getElem?_set_ne hj];exact e
noncomputable def De (J:It)(H1:Hp)(σ:St)(g:TG)(tt:TT)(te:TE)(Fin:List V->Hp->Prop):Prop :=
  ∃ W:Nat->Nat->List V->Hp->Prop,(∃ m,W 0 m [] H1)/\∀ i m ys H,W i m ys H->ys.length<=sizeLine /\
    ((J.stop i H/\Fin ys H)\/(J.go i H/\ys.length < sizeLine/\∀ x H',J.yld i H x H'->g x σ H' fun σ2 H2=>Ext σ σ2/\tt σ2 H2 λb H3 =>
      if b=true then te σ2 H3 λy H4=>∃ m',m' < m/\W (i+1) m' (ys++[y]) H4 else ∃ m',m' < m/\W (i+1) m' ys H3))
section
variable {X:Cx}{scope:Scope}{cl:List (Str × Addr)}{own fr:List Str}{js:List Nat}{elt iter tg:Expr}{ifs:List Expr}{pos:Pos}{g:TG}{tt:TT}{te:TE}
 {pins:List (Addr × Obj)} {σ:St} {H2:Hp} {s2:Shared} {fp:List Addr} {it:Addr} {tn:Nat->Heap->Prop} {J:It} {Fin:List V->Hp->Prop} {E:Value->Shared->Prop}
theorem Qg (r:Vals ys us)(q:RelV y u):Vals (ys++[y]) (us++[u]):=r.append (.cons q .nil)
theorem Jf (S:B7 X scope cl own fr js)(Fc:X.calm=true)
  (hg:∀ C s0 H0 ex,PG (X.cmp scope cl own fr C s0 H0 ex) tg g) (ht:∀ C s0 H0 ex,gY (X.cmp scope cl own fr C s0 H0 ex) ifs tt) (he:∀ C s0 H0 ex,PE (X.cmp scope cl own fr C s0 H0 ex) elt te)
  (I2:Inv X pins σ H2 s2) (T:Turn X.prog X.w X.K tg J fp it tn) (sT:tn 0 s2.heap) (hf:∀ b∈fp,GO X pins H2 b) (L:De J H2 (Dv own js σ) g tt te Fin)
  {RR:Value->Addr->Result->Shared->Prop}
  (hRR:∀ (D C:Addr) (s':Shared) (ys:List V) (its:List Value) (n:Nat) (H':Hp) (m':Str->Option Value),s2.heap.objs.size<=D->s2.heap.objs.size<=C->D≠C->s'.os=s2.os->AllBare s'.gens ->
   Un (Mv X.stack) fp H2 H' s2.heap s'.heap->DM X.prog X.w H' s'.heap->H' D=none->H' C=none->s'.heap.Ns C m'->Vals ys its->s'.heap.get? D=some { cls:=.type "list",data:=.seq its.toArray n }->ys.length<=sizeLine ->
   Fin ys H'->RR (.ref D) C (.ok .next) s') :
  wpAny (model X.prog X.w) X.A (newList []) (λacc s3=>wpAny (model X.prog X.w) X.A (newFunctionEnv scope X.env.globals cl [] X.env.qual none .none (some X.env)) (λjq s4 =>
   codeAny (model X.prog X.w) X.A (.compStart (.ListComp elt [⟨tg,iter,ifs,0⟩] scope pos) 0 (.ref it) acc { jq with scope:=relabel scope X.env }) (RR acc jq.locals) s4) E s3) E s2:=by
 refine NE (wpAny_newFunctionEnv S.cell (by intro y hy;simp at hy) (λh1 UU pR=>?_) S.kind);dsimp only at UU pR ⊢;generalize hG:s2.heap.push { cls:=.type "list",dict:=none,data:=.seq ([]:List Value).toArray }=G at UU pR ⊢;have hC:G.objs.size=s2.heap.objs.size+1:=by rw [<- hG,No]
 have Yj:s2.heap.objs.size≠G.objs.size:=by omega
 have VJ:s2.heap.objs.size<=G.objs.size:=by omega
 have old:∀ b o,s2.heap.get? b=some o->h1.get? b=some o:=λb o e=>by
  have hb:=ii e;exact pR.extBut b o (dL (kt hb VJ)) (ac _ (hG▸ac _ e))
 have Gb:h1.get? s2.heap.objs.size=some { cls:=.type "list",data:=.seq ([]:List Value).toArray 0 } :=
  pR.extBut _ _ Yj (ac _ (hG▸io _ rfl))
 have jo:∀ b∈fp,b < s2.heap.objs.size:=λb hb=>by
  obtain ⟨o,e,_⟩:=T.obj 0 _ sT b hb;exact ii e
 have jr:∀ t:Nat,Inv (X.cmp scope cl own fr G.objs.size s2 H2 fp) [] (Dv own js σ) H2 { s2 with heap:=h1,toks:=t }:=λt =>
  VG S I2 hf VJ UU jo rfl rfl old
 obtain ⟨W,⟨m0,w0⟩,turn⟩:=L;have hDs:s2.heap.objs.size∉Mv X.stack:=λz=>by
  rcases gz.mp (I2.aas _ z) with e | e
  ·exact absurd I2.lt (by rw [<- e];exact Sa _)
  ·exact I2.abz (am _) e
 have ZR:∀ {H:Hp} {s:Shared} {σ':St} {its:List Value} {n:Nat},Inv (X.cmp scope cl own fr G.objs.size s2 H2 fp) [] σ' H s->s.heap.get? s2.heap.objs.size=some { cls:=.type "list",data:=.seq its.toArray n }->H s2.heap.objs.size=none ->
   Inv (X.cmp scope cl own fr G.objs.size s2 H2 fp) [(s2.heap.objs.size,{ cls:=.type "list",data:=.seq its.toArray n })] σ' H s:=λ{H s σ' its n} I e hn=>I.aap λp hp=>by
  obtain rfl:=al.mp hp;exact ⟨e,hn,Yj,hDs,λv z=>by cases z⟩
 have ZS:∀ {H:Hp} {its:List Value} {n:Nat},(∀ b∈fp,H b=none)->∀ b∈fp,GO (X.cmp scope cl own fr G.objs.size s2 H2 fp) [(s2.heap.objs.size,{ cls:=.type "list",data:=.seq its.toArray n })] H b:=λ{H its n} hn b hb=>by
  have CV:=jo b hb;refine ⟨hn b hb,?_,?_,.inl hb,?_,?_⟩
  ·exact dL (kt CV VJ)
  ·intro z;rcases gz.mp (I2.aas b z) with e | e
   ·exact (hf b hb).2.1 e
   ·exact (hf b hb).2.2.1 e
  ·intro x c h;exact (hf b hb).2.2.2.2.1 x c (S.cells h)
  ·intro p hp;obtain rfl:=al.mp (show p∈[(s2.heap.objs.size,_)] from hp);exact be (dL CV)
 have loop:∀ t:Nat,codeAny (model X.prog X.w) X.A (.compLoop (.ListComp elt [⟨tg,iter,ifs,0⟩] scope pos) 0 (.ref it) (.ref s2.heap.objs.size) (jn X scope cl G.objs.size))
   (RR (.ref s2.heap.objs.size) G.objs.size) { s2 with heap:=h1,toks:=t }:=by
  intro t;refine Nd (λk s'=>∃ i ys its n H',Inv (X.cmp scope cl own fr G.objs.size s2 H2 fp) [(s2.heap.objs.size,{ cls:=.type "list",data:=.seq its.toArray n })] (Dv own js σ) H' s'/\tn i s'.heap/\(∀ b∈fp,H' b=none) /\
   Vals ys its/\W i k ys H') ?_ m0 ⟨0,[],[],0,H2,ZR (jr t) Gb (I2.hok.fresh (am _)),T.keep _ _ _ sT λb _ o e=>old b o e,λb hb=>(hf b hb).1,.nil,w0⟩
  rintro n s3 ⟨i,ys,its,nn,H3,I3,j7,Rk,rv,w3⟩;obtain ⟨hlen,w3⟩:=turn i n ys H3 w3;have Yk:=rv.length;rcases w3 with ⟨stop,fin⟩ | ⟨go,CV,step⟩
  ·refine Bc (T.done (X.cmp scope cl own fr G.objs.size s2 H2 fp) rfl rfl rfl Fc i _ s3 _ H3 VE I3 (ZS Rk) j7 stop) λr s4 q4=>?_;obtain ⟨hr,I4⟩:=q4;subst hr;obtain ⟨eD,nD,_⟩:=I4.pin _ (ir _ (.head _));obtain ⟨m4,ns4,_⟩:=I4.loc;exact hRR _ _ s4 ys its nn H3 m4 (am _) VJ Yj I4.os I4.bare I4.base I4.hok nD I4.free ns4 rv eD hlen fin
  ·refine Bc (T.item (X.cmp scope cl own fr G.objs.size s2 H2 fp) rfl rfl rfl Fc i _ s3 _ H3 VE I3 (ZS Rk) j7 go) λr s4 q4=>?_;obtain ⟨u,hr,q4⟩:=q4;subst hr;refine Bc q4 λ_ s5 q5=>?_;obtain ⟨x,H5,I5,r5,y5,Zl,UT⟩:=q5;have sh:=I5.pinned (ZS UT) (T.obj _ _ Zl);refine Bc (hg G.objs.size s2 H2 fp _ s5 _ H5 x u _ sh r5 (step x H5 y5)) λ_ s6 q6=>?_;obtain ⟨σ6,H6,I6,jt,q6⟩:=q6;have fin:∀ {s7:Shared} {H7:Hp},Inv (X.cmp scope cl own fr G.objs.size s2 H2 fp) ([(s2.heap.objs.size,{ cls:=.type "list",data:=.seq its.toArray nn })]++Hu fp s5.heap) σ6 H7 s7 ->
     tn (i+1) s7.heap/\(∀ b∈fp,H7 b=none)/\s7.heap.get? s2.heap.objs.size=some { cls:=.type "list",data:=.seq its.toArray nn }/\H7 s2.heap.objs.size=none/\Inv (X.cmp scope cl own fr G.objs.size s2 H2 fp) [] (Dv own js σ) H7 s7:=λ{s7 H7} I7=>by
    have pd:=I7.pin _ (ir _ (ee _ (.head _)));refine ⟨T.keep _ _ _ Zl λb hb o e=>(I7.pin (b,o) (ir _ (ir _ (DX hb e)))).1,λb hb=>?_,pd.1,pd.2.1,?_⟩
    ·obtain ⟨o,e,d⟩:=T.obj _ _ Zl b hb;exact (I7.pin (b,o) (ir _ (ir _ (DX hb e)))).2.1
    ·exact (I7.aap (pins':=[]) λp hp=>absurd hp (by simp)).weak jt.1.symm jt.2
   refine Bc (ht G.objs.size s2 H2 fp _ s6 σ6 H6 _ I6 q6) λok s7 q7=>?_;obtain ⟨H7,I7,q7⟩:=q7;cases ok with
   | false =>
    obtain ⟨m',hm,w7⟩:=q7;obtain ⟨a1,a2,a3,a4,a5⟩:=fin I7;exact ⟨m',hm,i+1,ys,its,nn,H7,ZR a5 a3 a4,a1,a2,rv,w7⟩
   | true =>
    refine Bc (he G.objs.size s2 H2 fp _ s7 σ6 H7 _ I7 q7) λv s8 q8=>?_;obtain ⟨y,H8,I8,r8,m',hm,w8⟩:=q8;obtain ⟨a1,a2,a3,a4,a5⟩:=fin I8;refine append_at (its:=its.toArray) (n:=nn) a3 (λh9 hs9 e9=>?_) (by rw [f8,<- Yk];exact hlen);have kp:∀ b o,b≠s2.heap.objs.size->s8.heap.get? b=some o->h9.get? b=some o:=λb o hb e=>(hs9.2 b hb).trans e;have I9:Inv (X.cmp scope cl own fr G.objs.size s2 H2 fp) [] (Dv own js σ) H8 { s8 with heap:=h9,toks:=s8.toks }:=by
     refine a5.turned kp a4 Yj (.inr (am _)) (λx c h z=>?_) (λp hp=>absurd (show p∈([]:List (Addr × Obj)) from hp) (by simp));obtain ⟨v,o,ho,_⟩:=I2.cell x c (S.cells h);exact absurd z (dL (ii ho))
    have sU:h9.get? s2.heap.objs.size=some { cls:=.type "list",data:=.seq (its++[v]).toArray (nn+1) }:=by
     rw [e9];simp
    refine ⟨m',hm,i+1,ys++[y],its++[v],nn+1,H8,ZR I9 sU a4,T.keep _ _ _ a1 λb hb o e=>kp b o ?_ e,a2,Qg rv r8,w8⟩;exact dL (jo b hb)
 exact codeAny_compStart_list (loop _) (T.self _ 0 _ _ _ (T.keep _ _ _ sT λb _ o e=>old b o e) (loop _))
theorem OL (I2:Inv X pins σ H2 s2)(hf:∀ b∈fp,GO X pins H2 b)(hD:s2.heap.objs.size<=D)(os:s'.os=s2.os)(bare:AllBare s'.gens)(un:Un (Mv X.stack) fp H2 H' s2.heap s'.heap)(hok:DM X.prog X.w H' s'.heap)(nD:H' D=none)(rv:Vals ys its)(e:s'.heap.get? D=some { cls:=.type "list",data:=.seq its.toArray n })(hz:ys.length<=sizeLine) :
  Inv X pins σ (upd H' D (.lst ys)) s':=by
 refine I2.abe (ch:=fp) os (un.aao nD (Ps hD)) (hok.aao nD ⟨hz,its,n,rv,e⟩) bare λb hb=>?_;obtain ⟨_,f1,_,f3,f4,f5⟩:=hf b hb;exact ⟨f3,f1,f4,f5⟩
noncomputable def OM (own:List Str)(js:List Nat)(wi:TI)(g:TG)(tt:TT)(te:TE):TE:=fun σ H Q=>wi σ H λJ H1 =>
 De J H1 (Dv own js σ) g tt te λys H2=>∀ D,H2 D=none->Q (.ref D) (upd H2 D (.lst ys))
theorem VL (S:B7 X scope cl own fr js)(Fc:X.calm=true)(hi:PI X tg iter wi)(hg:∀ C s0 H0 ex,PG (X.cmp scope cl own fr C s0 H0 ex) tg g)(ht:∀ C s0 H0 ex,gY (X.cmp scope cl own fr C s0 H0 ex) ifs tt)(he:∀ C s0 H0 ex,PE (X.cmp scope cl own fr C s0 H0 ex) elt te)(hs:∀ x,foldedSetIterable iter X.env x=pure x:=by intro _;rfl):PE X (.ListComp elt [⟨tg,iter,ifs,0⟩] scope pos) (OM own js wi g tt te):=by
 intro pins s σ H Q I h;rw [eval_ListComp];refine wpAny_comprehension_free (use:=none) rfl hs S.ab3 S.kind S.names (Bc (hi pins s σ H _ I h) λv s1 q1=>Bc q1 λpI s2 q2=>?_);obtain ⟨it,fp,tn,J,H2,rfl,I2,T,st,hf,L⟩:=q2;refine Jf (RR:=λacc C=>compPost (model X.prog X.w) X.A X.xe none (EP X pins σ Q) acc C) S Fc hg ht he I2 T st hf L ?_;intro D C s' ys its n H' m' hD hC Yj os bare un hok nD nC ns rv e hz fin;refine ⟨m',ns,λsV sW=>?_⟩;have I3:=OL I2 hf hD os bare un hok nD rv e hz;have sX:(upd H' D (.lst ys)) C=none:=by rw [Ac (be Yj)];exact nC
 obtain ⟨f0,f1,_,f3,f4,f5⟩:=I2.aa7 hC sX;have I4:Inv X pins σ (upd H' D (.lst ys)) { s' with heap:=sV,toks:=s'.toks }:=I3.turned (λb o hb q=>(sW.2 b hb).trans q) f0 f1 f3 f4 f5;exact ⟨.ref D,_,I4,rfl,fin D nD⟩
noncomputable def Nf (i:Nat)(own:List Str)(js:List Nat)(wi:TI)(g:TG)(tt:TT)(te:TE):TS:=λD σ H=>wi σ H λJ H1 =>
 De J H1 (Dv own js σ) g tt te λys H2=>∀ a,H2 a=none->D.nx (σ.set i (some (.ref a))) (upd H2 a (.lst ys))
theorem VM (hN:X.N.Nodup)(hy:X.N[i]?=some y)(hx:Loc X.env.scope y)(S:B7 X scope cl own fr js)(Fc:X.calm=true)(hi:PI X tg iter wi)(hg:∀ C s0 H0 ex,PG (X.cmp scope cl own fr C s0 H0 ex) tg g)(ht:∀ C s0 H0 ex,gY (X.cmp scope cl own fr C s0 H0 ex) ifs tt)(he:∀ C s0 H0 ex,PE (X.cmp scope cl own fr C s0 H0 ex) elt te)(sY:swapsWith (.ListComp elt [⟨tg,iter,ifs,0⟩] scope pos) (some (.Name y py)) Sh.line X.env=pure true:=by rfl)(hf:X.fn y=true\/X.env.scope.names.lookup y=some .local:=by exfalso)(hs:∀ x,foldedSetIterable iter X.env x=pure x:=by intro _;rfl):PS X (.Assign [.Name y py] (.ListComp elt [⟨tg,iter,ifs,0⟩] scope pos) Sh) (Nf i own js wi g tt te):=by
 intro pins s σ H D I h;rw [exec_Assign_Name_used _ _ _ _ sY];refine aa (wpAny_standAt (aa ?_));show wpAny _ X.A (do let _ <- comprehension (.ListComp elt [⟨tg,iter,ifs,0⟩] scope pos) scope X.env _ (newList []) false (eval iter X.env) (some (assign (.Name y py) X.env))) _ _ s
 refine aa (Bc (Q:=λ_ s'=>SP X pins D .next s') ?_ λ_ s' q=>bv (bv q))
 refine wpAny_comprehension_free (use:=some (assign (.Name y py) X.env)) rfl hs S.ab3 S.kind S.names (Bc (hi pins s σ H _ I h) λv s1 q1=>Bc q1 λpI s2 q2=>?_);obtain ⟨it,fp,tn,J,H2,rfl,I2,T,st,hfp,L⟩:=q2;refine Jf (RR:=λacc C=>compPost (model X.prog X.w) X.A X.xe (some (assign (.Name y py) X.env)) (λ_ s'=>SP X pins D .next s') acc C) S Fc hg ht he I2 T st hfp L ?_
 intro d C s' ys its n H' m' hD hC Yj os bare un hok nD nC ns rv e hz fin;have I3:=OL I2 hfp hD os bare un hok nD rv e hz;have sX:(upd H' d (.lst ys)) C=none:=by rw [Ac (be Yj)];exact nC
 obtain ⟨f0,f1,_,f3,f4,f5⟩:=I2.aa7 hC sX;show wpAny _ X.A (assign (.Name y py) X.env (.ref d)) _ _ s';refine wpAny_assign_Name (J2 I3 hN hy hx (v:=.ref d) rfl (λs4 I4 ch=>?_) hf);obtain ⟨a,sb,ha⟩:=ch;have hCa:C≠a:=by
  rcases ha with rfl | ha
  ·exact f1
  ·exact λz=>f4 y a ha z.symm
 refine ⟨m',ns.sameBut sb hCa,λh5 sZ=>?_⟩;exact ⟨_,_,I4.turned (t':=s4.toks) (λb o hb q=>(sZ.2 b hb).trans q) f0 f1 f3 f4 f5,fin d nD⟩
theorem Si {K:W.Frag}{a:Addr}{xs:List V}{H:Hp}(Pv:Nat->List V->Hp->Prop)(h0:Pv 0 [] H)(hl:∀ i ys H,Pv i ys H->BL K H a xs)(hn:xs.length < sizeLine)
  (hy:∀ i ys H,Pv i ys H->ys.length<=i)
  (hs:∀ i x ys H,xs[i]?=some x->Pv i ys H->g x σ H fun σ2 H2=>Ext σ σ2/\tt σ2 H2 λb H3=>if b=true then te σ2 H3 λy H4=>Pv (i+1) (ys++[y]) H4 else Pv (i+1) ys H3)
  (mg:∀ x σ H Q Q',(∀ σ' H',Q σ' H'->Q' σ' H')->g x σ H Q->g x σ H Q') (mt:∀ σ H Q Q',(∀ b H',Q b H'->Q' b H')->tt σ H Q->tt σ H Q') (me:∀ σ H Q Q',(∀ v H',Q v H'->Q' v H')->te σ H Q->te σ H Q')
  (hd:∀ ys H,Pv xs.length ys H->Fin ys H):De (Y5 K a) H σ g tt te Fin:=by
 refine ⟨λi m ys H=>m=xs.length - i/\i<=xs.length/\Pv i ys H,⟨xs.length,by simp,mi _,h0⟩,?_⟩;rintro i m ys H ⟨rfl,hi,p⟩;have q:=hl i ys H p;have hyl:=hy i ys H p;refine ⟨(),?_⟩;by_cases CV:i < xs.length
 ·refine .inr ⟨⟨xs,xs[i],q,by simp [CV]⟩,(),λx H' y=>?_⟩;obtain ⟨e,y⟩:=y;subst e;refine mg _ _ _ _ _ (fun σ2 H2 z=>⟨z.1,mt _ _ _ _ (λb H3 z=>?_) z.2⟩) (hs i x ys _ (y xs q) p);cases b with
  | true=>exact me _ _ _ _ (λy H4 z=>⟨xs.length - (i+1),(),rfl,CV,z⟩) z
  | false=>exact ⟨xs.length - (i+1),(),rfl,CV,z⟩
 ·have e:i=xs.length:=by omega
  subst e;exact .inl ⟨⟨xs,q,am _⟩,hd ys H p⟩
end
noncomputable def Jg (K:W.Frag)(a:Addr)(n:Nat):It :=
 ⟨λi H=>∃ xs,AI K H a xs/\xs.length=n/\i < n,λi H x H'=>H'=H/\∀ xs,AI K H a xs->xs.reverse[i]?=some x,λi _=>n<=i⟩
theorem Sj {P:Program}{w:World}{K:W.Frag}{tg:Expr}(a it:Addr)(n:Nat):Turn P w K tg (Jg K a n) [it] it (λi h=>i<=n/\h.IsRevIter it a ((n:Int) - 1 - (i:Int))) where
 mem:=by simp
 obj:=by
  intro i h st b hb;obtain rfl:b=it:=by simpa using hb
  obtain ⟨_,o,e,c,d⟩:=st;exact ⟨o,e,λv z=>by rw [d] at z;cases z⟩
 keep:=λi h h' st k=>⟨st.1,st.2.at λo e=>k it (by simp) o e⟩
 item:=by
  intro X hP hw hK hc i pins s σ H E I hf st hg;subst hP hw hK;obtain ⟨xs,hq,hn,hi⟩:=hg;obtain ⟨its,rv,p,hz⟩:=I.list hq;have hlen:=rv.length;obtain ⟨f0,f1,f2,f3,f4,f5⟩:=hf it (by simp);have ix:n - 1 - i < xs.length:=by omega
  have hx:xs[n - 1 - i]?=some (xs[n - 1 - i]'ix):=ap ix;obtain ⟨u,hu,ru⟩:=rv.get hx;have ei:(n:Int) - 1 - (i:Int)=((n - 1 - i:Nat):Int):=by omega
  have G5:=st.2;rw [ei] at G5;refine wpAny_pyNext_rev_item G5 p.isList (x:=u) (by simpa using hu) λh' Y9 sb=>?_;have I1:Inv X pins σ H { s with heap:=h' }:=I.turned (t':=s.toks) (λb o hb e=>(sb.2 b hb).trans e) f0 f1 f3 f4 f5;have e2:((n - 1 - i:Nat):Int) - 1=(n:Int) - 1 - ((i+1:Nat):Int):=by omega
  rw [e2] at Y9;obtain ⟨o,e,c,d⟩:=id Y9;refine ⟨u,rfl,Od (s:={ s with heap:=h' }) e c d ⟨⟩ ⟨xs[n - 1 - i]'ix,H,I1,ru,⟨rfl,λys hy=>?_⟩,⟨hi,Y9⟩,λb hb=>(hf b hb).1⟩⟩;rw [I.aaw hy hq,List.getElem?_reverse (),<- hx]
  congr 1
  omega
 done:=by
  intro X hP hw hK hc i pins s σ H E I hf st hg;subst hP hw hK;obtain ⟨f0,f1,f2,f3,f4,f5⟩:=hf it (by simp);have Yl:n<=i:=hg;have e1:(n:Int) - 1 - (i:Int)=-1:=by have:=st.1;omega
  have G5:=st.2;rw [e1] at G5;exact wpAny_pyNext_rev_end (I.ok.hd hc) G5 λh' eb=>⟨rfl,I.turned (t':=s.toks) (λb o hb e=>eb b o hb e) f0 f1 f3 f4 f5⟩
 self:=λ_ _ _ _ _ st h=>wpAny_pyIter_revIter st.2 h
section
variable {X:Cx}{tg:Expr}
noncomputable def ZT (K:W.Frag)(ta:TA):TI:=fun σ H R=>ta σ H λvs H1=>∃ a xs,vs=[.ref a]/\AI K H1 a xs/\R (Jg K a xs.length) H1
theorem ZU (hg:Gl X "reversed")(hm:X.mg "reversed"=none)(ha:PA X [a] ta)(hs:starEach [a] X.env=[(false,eval a X.env)]:=by rfl):PI X tg (.Call (.Name "reversed" p) [a] [] pos) (ZT X.K ta):=by
 intro pins s σ H R I h;refine Call_ (CU I hg hm boot_reversed (u8 (Bc (ha pos pins s σ H _ I h) λus s1 q1=>?_) hs rfl));obtain ⟨vs,H1,I1,r1,l,xs,rfl,hq,q⟩:=q1;obtain ⟨u,rfl,ru⟩:=vals1 r1;cases ru;obtain ⟨its,rv,pl,hz⟩:=I1.list hq;have hlen:=rv.length;refine call_reversed_list pl.isList ?_;have gr:(s1.heap.push (revObj l ((its.toArray.size:Int) - 1))).IsRevIter s1.heap.objs.size l ((xs.length:Int) - 1 - ((0:Nat):Int)):=by
  refine ⟨_,io _ rfl,rfl,?_⟩;show Data.fields #[.ref l,rawInt ((its.toArray.size:Int) - 1)]=_;rw [f8,<- hlen];simp
 refine wpAny_pyIter_revIter gr ?_;refine ⟨s1.heap.objs.size,[s1.heap.objs.size],_,_,H1,rfl,I1.kept (t':=s1.toks) λb o e=>ac _ e,Sj l _ xs.length,⟨mi _,gr⟩,λb hb=>?_,q⟩;obtain rfl:b=s1.heap.objs.size:=by simpa using hb
 exact I1.aa7 (am _) (I1.hok.fresh (am _))
end
theorem VN {K:W.Frag}{a:Addr}{xs:List V}{g:TG}{tb:TS}{D:Ends}{σ:St}{H:Hp}(Pv:Nat->St->Hp->Prop)(h0:Pv 0 σ H)(hl:∀ i σ H,i<=xs.length->Pv i σ H->AI K H a xs)
  (hs:∀ i x σ H,xs.reverse[i]?=some x->Pv i σ H->g x σ H fun σ2 H2=>tb { D with nx:=Pv (i+1),ct:=Pv (i+1),bk:=D.nx } σ2 H2) (hd:∀ σ H,Pv xs.length σ H->D.nx σ H) :
  ∃ W:Nat->Nat->St->Hp->Prop,(∃ m,W 0 m σ H)/\∀ i m σ H,W i m σ H ->
   ((Jg K a xs.length).stop i H/\D.nx σ H)\/((Jg K a xs.length).go i H/\∃ N:St->Hp->Prop,(∀ σ' H',N σ' H'->∃ m',m' < m/\W (i+1) m' σ' H')/\∀ x H',(Jg K a xs.length).yld i H x H'->g x σ H' fun σ2 H2=>tb { D with nx:=N,ct:=N,bk:=D.nx } σ2 H2):=by
 refine ⟨λi m σ H=>m=xs.length - i/\i<=xs.length/\Pv i σ H,⟨xs.length,by simp,mi _,h0⟩,?_⟩;rintro i m σ H ⟨rfl,hi,p⟩;have q:=hl i σ H hi p;by_cases CV:i < xs.length
 ·refine .inr ⟨⟨xs,q,rfl,CV⟩,Pv (i+1),fun σ' H' p'=>⟨xs.length - (i+1),(),rfl,CV,p'⟩,λx H' y=>?_⟩;obtain ⟨e,y⟩:=y;subst e;exact hs i x σ _ (y xs q) p
 ·obtain rfl:i=xs.length:=by omega
  exact .inl ⟨am _,hd σ H p⟩
open PySem.W (fnMade fnX envX CodeHd tabObj makeFunction_K makeFunction_hit nestDef_K FnAt callWith_F)
structure ON (base:Heap)(mg:Str->Option Value)(c P:Addr):Prop where
 hd:CodeHd base c P
 bm:∃ bm ob,mg "__builtins__"=some (.ref bm)/\bm≠builtinsNs/\base.get? bm=some ob/\ob.cls=.type "module"/\ob.dict=some builtinsNs/\ob.data=.plain
end L2
namespace KM
inductive Kd where
 | num | tru | gap (k:Int) | fn (a b:Kd) | pr (a b:Kd) | ls (a:Kd)
 deriving DecidableEq
noncomputable def BM:Kd->Bool
 | .gap _=>true
 | _=>false
noncomputable def parts:Kd->List Kd
 | .fn a b=>[a,b]
 | .pr a b=>[a,b]
 | .ls a=>[a]
 | _=>[]
noncomputable def sz:Kd->Nat
 | .fn a b=>sz a+sz b+1
 | .pr a b=>sz a+sz b+1
 | .ls a=>sz a+1
 | _=>1
noncomputable def dp:Kd->Nat
 | .fn a b=>max (dp a) (dp b)+1
 | .pr a b=>max (dp a) (dp b)+1
 | .ls a=>dp a+1
 | _=>0
noncomputable def IE:List Kd->Nat
 | []=>0
 | t::ts=>sz t+IE ts
theorem HH (a b:List Kd):IE (a++b)=IE a+IE b:=by
 induction a with
 | nil=>simp [IE]
 | cons t ts ih=>simp only [List.cons_append,IE,ih];omega
theorem Gd (t:Kd):IE (parts t)+1=sz t:=by cases t <;> rfl
theorem aad (t:Kd):0 < sz t:=by have:=Gd t;omega
theorem Jh (t:Kd):(parts t).length<=2:=by cases t <;> first | exact am _ | exact mi _ | exact IR _
noncomputable def fill (m:Int->Option Kd):Kd->Kd
 | .gap k=>(m k).getD (.gap k)
 | .fn a b=>.fn (fill m a) (fill m b)
 | .pr a b=>.pr (fill m a) (fill m b)
 | .ls a=>.ls (fill m a)
 | .num=>.num
 | .tru=>.tru
theorem Ng (h:BM t=false):parts (fill m t)=(parts t).map (fill m)/\BM (fill m t)=false:=by
 cases t <;> first | exact ⟨rfl,rfl⟩ | (simp [BM] at h)
theorem Dr:∀ (t:Kd),fill (λ_=>none) t=t
 | .gap k=>rfl
 | .fn a b=>by simp only [fill,Dr a,Dr b]
 | .pr a b=>by simp only [fill,Dr a,Dr b]
 | .ls a=>by simp only [fill,Dr a]
 | .num=>rfl
 | .tru=>rfl
noncomputable def ok:Kd->Bool
 | .gap k=>decide (0<=k)
 | .fn a b=>ok a && ok b
 | .pr a b=>ok a && ok b
 | .ls a=>ok a
 | _=>true
end KM
namespace KS
open PySem PySem.Spec PyProof.Rows L2 KM
noncomputable def word:Kd->Str
 | .num=>"number"
 | .tru=>"truth"
 | .gap _=>"any"
 | .fn _ _=>"fun"
 | .pr _ _=>"pair"
 | .ls _=>"list"
noncomputable def B3 (H:Hp):Kd->V->Prop
 | .num,v=>∃ a,v=.ref a/\H a=some (.tup [.str "number"])
 | .tru,v=>∃ a,v=.ref a/\H a=some (.tup [.str "truth"])
 | .gap k,v=>∃ a,v=.ref a/\H a=some (.tup [.str "any",.int k])
 | .ls x,v=>∃ a u,v=.ref a/\H a=some (.tup [.str "list",u])/\B3 H x u
 | .fn x y,v=>∃ a u w,v=.ref a/\H a=some (.tup [.str "fun",u,w])/\B3 H x u/\B3 H y w
 | .pr x y,v=>∃ a u w,v=.ref a/\H a=some (.tup [.str "pair",u,w])/\B3 H x u/\B3 H y w
abbrev JV (H:Hp):List Kd->List V->Prop:=Paired (B3 H)
noncomputable def TSub (H H':Hp):Prop:=∀ a xs,H a=some (.tup xs)->H' a=some (.tup xs)
theorem TSub.trans (a:TSub H H1)(b:TSub H1 H2):TSub H H2:=λc xs h=>b c xs (a c xs h)
theorem TSub.of_same (s:Ai H H'):TSub H H':=λa xs h=>s a _ h
theorem TSub.put (h:∀ xs,H a≠some (.tup xs)):TSub H (upd H a o):=λb xs e=>by
 rw [Ac]
 ·exact e
 ·intro z;subst z;exact h xs e
theorem TSub.new (h:H a=none):TSub H (upd H a o):=TSub.put λxs e=>by rw [h] at e;cases e
theorem B3.mono (s:TSub H H'):∀ {t:Kd} {v:V},B3 H t v->B3 H' t v:=by
 intro t
 induction t with
 | num | tru | gap _=>rintro v ⟨a,e,h⟩;exact ⟨a,e,s _ _ h⟩
 | ls _ ih=>rintro v ⟨a,u,e,h,p⟩;exact ⟨a,u,e,s _ _ h,ih p⟩
 | fn _ _ ih ij | pr _ _ ih ij=>rintro v ⟨a,u,w,e,h,p,q⟩;exact ⟨a,u,w,e,s _ _ h,ih p,ij q⟩
theorem JV.mono (s:TSub H H')(p:JV H ts us):JV H' ts us:=Paired.aar p λ_ _ q=>B3.mono s q
theorem B3.look:∀ {t:Kd} {v:V},B3 H t v->∃ a us,v=.ref a/\H a=some (.tup (.str (word t)::us))/\(BM t=false->JV H (parts t) us)/\(∀ k,t=.gap k->us=[.int k])/\us.length<=2:=by
 intro t;cases t with
 | num | tru=>rintro v ⟨a,e,h⟩;exact ⟨a,[],e,h,λ_=>.nil,λ_ z=>(by cases z),mi _⟩
 | gap k=>rintro v ⟨a,e,h⟩;exact ⟨a,[.int k],e,h,λz=>(by cases z),λ_ z=>(by cases z;rfl),IR _⟩
 | ls _=>rintro v ⟨a,u,e,h,p⟩;exact ⟨a,[u],e,h,λ_=>.cons p .nil,λ_ z=>(by cases z),IR _⟩
 | fn _ _ | pr _ _=>rintro v ⟨a,u,w,e,h,p,q⟩;exact ⟨a,[u,w],e,h,λ_=>.cons p (.cons q .nil),λ_ z=>(by cases z),am _⟩
theorem B3.mk (g:BM t=false)(h:H a=some (.tup (.str (word t)::us)))(p:JV H (parts t) us):B3 H t (.ref a):=by
 cases t with
 | num=>cases p;exact ⟨a,rfl,h⟩
 | tru=>cases p;exact ⟨a,rfl,h⟩
 | gap k=>simp [BM] at g
 | ls x=>cases p with | cons p1 p2=>cases p2;exact ⟨a,_,rfl,h,p1⟩
 | fn x y=>cases p with | cons p1 p2=>cases p2 with | cons p2 p3=>cases p3;exact ⟨a,_,_,rfl,h,p1,p2⟩
 | pr x y=>cases p with | cons p1 p2=>cases p2 with | cons p2 p3=>cases p3;exact ⟨a,_,_,rfl,h,p1,p2⟩
theorem DP:(word t=("any":Str))↔BM t=true:=by
 cases t <;> simp [word,BM] <;> decide
noncomputable def pd:Kd->PyData
 | .num=>.tuple [.str "number"]
 | .tru=>.tuple [.str "truth"]
 | .gap k=>.tuple [.str "any",.int k]
 | .ls x=>.tuple [.str "list",pd x]
 | .fn x y=>.tuple [.str "fun",pd x,pd y]
 | .pr x y=>.tuple [.str "pair",pd x,pd y]
theorem DQ:PyData.strOk (Str.ofString "number")=true/\PyData.strOk (Str.ofString "truth")=true/\PyData.strOk (Str.ofString "any")=true/\PyData.strOk (Str.ofString "list")=true/\PyData.strOk (Str.ofString "fun")=true/\PyData.strOk (Str.ofString "pair")=true:=by decide +kernel
theorem Ge:∀ t:Kd,(pd t).canLay0=true
 | .num=>by simp [pd,PyData.canLay0,PyData.canLayAll0,DQ]
 | .tru=>by simp [pd,PyData.canLay0,PyData.canLayAll0,DQ]
 | .gap k=>by simp [pd,PyData.canLay0,PyData.canLayAll0,DQ]
 | .ls x=>by simp [pd,PyData.canLay0,PyData.canLayAll0,Ge x,DQ]
 | .fn x y=>by simp [pd,PyData.canLay0,PyData.canLayAll0,Ge x,Ge y,DQ]
 | .pr x y=>by simp [pd,PyData.canLay0,PyData.canLayAll0,Ge x,Ge y,DQ]
theorem DR:∀ t:Kd,(pd t).depth=dp t+1
 | .num=>by simp [pd,PyData.depth,PyData.depthAll,dp]
 | .tru=>by simp [pd,PyData.depth,PyData.depthAll,dp]
 | .gap k=>by simp [pd,PyData.depth,PyData.depthAll,dp]
 | .ls x=>by simp [pd,PyData.depth,PyData.depthAll,dp,DR x]
 | .fn x y=>by simp [pd,PyData.depth,PyData.depthAll,dp,DR x,DR y]
 | .pr x y=>by simp [pd,PyData.depth,PyData.depthAll,dp,DR x,DR y]
theorem Ji (h:dp t<=60):SeqAt.shaped (pd t)=true:=by
 unfold SeqAt.shaped;rw [Ge,DR];simp;omega
noncomputable def tag:Kd->Nat
 | .num=>0
 | .tru=>1
 | .gap _=>2
 | .fn _ _=>3
 | .pr _ _=>4
 | .ls _=>5
noncomputable def BB:Nat->Str
 | 0=>"number"
 | 1=>"truth"
 | 2=>"any"
 | 3=>"fun"
 | 4=>"pair"
 | _=>"list"
theorem HI:∀ i,i < 6->∀ j,j < 6->(BB i==BB j)=(i==j):=by decide +kernel
theorem Hf (t:Kd):word t=BB (tag t):=by cases t <;> rfl
theorem Sl (t:Kd):tag t < 6:=by cases t <;> simp [tag]
theorem Sm (t t':Kd):(word t==word t')=(tag t==tag t'):=by
 rw [Hf,Hf,HI _ (Sl t) _ (Sl t')]
theorem VO (xs ys:List PyData):PyData.eqv (.tuple xs) (.tuple ys)=PyData.eqvAll xs ys:=by rw [PyData.eqv]
theorem Dw (x y:PyData)(xs ys:List PyData):PyData.eqvAll (x::xs) (y::ys)=(PyData.eqv x y && PyData.eqvAll xs ys):=by rw [PyData.eqvAll]
theorem EU:PyData.eqvAll [] []=true:=by rw [PyData.eqvAll]
theorem VP (x y:Str):PyData.eqv (.str x) (.str y)=(x==y):=by rw [PyData.eqv]
theorem VQ (x y:Int):PyData.eqv (.int x) (.int y)=(x==y):=by rw [PyData.eqv]
noncomputable def VR:Kd->List PyData
 | .num=>[]
 | .tru=>[]
 | .gap k=>[.int k]
 | .ls x=>[pd x]
 | .fn x y=>[pd x,pd y]
 | .pr x y=>[pd x,pd y]
theorem Ym (t:Kd):pd t=.tuple (.str (word t)::VR t):=by cases t <;> rfl
theorem Gf (t t':Kd):PyData.eqv (pd t) (pd t')=((tag t==tag t') && PyData.eqvAll (VR t) (VR t')):=by
 rw [Ym,Ym,VO,Dw,VP,Sm]
theorem ZV:∀ t t':Kd,PyData.eqv (pd t) (pd t')=decide (t=t'):=by
 intro t
 induction t with
 | num=>intro t';rw [Gf];cases t' <;> simp [tag,VR,EU]
 | tru=>intro t';rw [Gf];cases t' <;> simp [tag,VR,EU]
 | gap k =>
  intro t';rw [Gf];cases t' <;> simp only [tag,VR] <;> try (simp;done)
  rw [Dw,VQ,EU,Do];simp
 | ls x ih =>
  intro t';rw [Gf];cases t' <;> simp only [tag,VR] <;> try (simp;done)
  rw [Dw,EU,ih,Do];simp
 | fn x y tj tq =>
  intro t';rw [Gf];cases t' <;> simp only [tag,VR] <;> try (simp;done)
  rw [Dw,Dw,EU,tj,tq,Do];simp
 | pr x y tj tq =>
  intro t';rw [Gf];cases t' <;> simp only [tag,VR] <;> try (simp;done)
  rw [Dw,Dw,EU,tj,tq,Do];simp
end KS
namespace L2
open PySem PySem.Spec PyProof.Rows
mutual
inductive Rn (H:Hp):PyData->V->Prop
 | non:Rn H .none .non
 | bl (b:Bool):Rn H (.bool b) (.bl b)
 | int (i:Int):Rn H (.int i) (.int i)
 | str (x:Str):Rn H (.str x) (.str x)
 | tup {a:Addr} {us:List V} {ds:List PyData}:H a=some (.tup us)->Sn H ds us->Rn H (.tuple ds) (.ref a)
 | lst {a:Addr} {us:List V} {ds:List PyData}:H a=some (.lst us)->Sn H ds us->Rn H (.list ds) (.ref a)
inductive Sn (H:Hp):List PyData->List V->Prop
 | nil:Sn H [] []
 | cons {d:PyData} {v:V} {ds:List PyData} {us:List V}:Rn H d v->Sn H ds us->Sn H (d::ds) (v::us)
end
theorem Rn.reads (x:DM P w H h)(k:Rn H d v):RelV v u->∃ as,Reads h u d as:=by
 revert u
 refine Rn.rec (motive_1:=λd v _=>∀ {u},RelV v u->∃ as,Reads h u d as) (motive_2:=λds vs _=>∀ {us},Vals vs us->∃ as,ReadsAll h us ds as) ?_ ?_ ?_ ?_ ?_ ?_ ?_ ?_ k
 ·intro u r;cases r;exact ⟨_,.none⟩
 ·intro b u r;cases r;exact ⟨_,.bool b⟩
 ·intro i u r;obtain ⟨t,rfl⟩:=r;exact ⟨_,.int i t⟩
 ·intro s u r;obtain ⟨t,rfl⟩:=r;exact ⟨_,.str s t⟩
 ·intro a us ds e _ ih u r;cases r;obtain ⟨_,its,rv,o,h1,h2,n,h3⟩:=(show B6 P w H h _ (.tup _) from x _ _ e);obtain ⟨as,ra⟩:=ih rv;exact ⟨_,.tuple h1 h2 h3 ra⟩
 ·intro a us ds e _ ih u r;cases r;obtain ⟨_,its,n,rv,h1⟩:=(show B6 P w H h _ (.lst _) from x _ _ e);obtain ⟨as,ra⟩:=ih rv;exact ⟨_,.list h1 rfl rfl ra⟩
 ·intro us r;cases r;exact ⟨_,.nil⟩
 ·intro d v ds us _ _ ih ij ws r;cases r with
  | cons r rs =>
   obtain ⟨as,ra⟩:=ih r;obtain ⟨bs,rb⟩:=ij rs;exact ⟨_,.cons ra rb⟩
end L2
namespace KS
open PySem PySem.Spec PyProof.Rows L2 KM
theorem OO (x:DM P w H h)(e:H a=some (.tup xs)):∃ o its n,Vals xs its/\h.get? a=some o/\o.cls=.type "tuple"/\o.data=.seq its.toArray n:=by
 obtain ⟨_,its,r,o,h1,h2,n,h3⟩:=(show B6 P w H h a (.tup xs) from x a _ e);exact ⟨o,its,n,r,h1,h2,h3⟩
theorem B3.dat:∀ {v:V},B3 H t v->Rn H (pd t) v:=by
 induction t with
 | num | tru=>rintro v ⟨a,rfl,q⟩;exact .tup q (.cons (.str _) .nil)
 | gap k=>rintro v ⟨a,rfl,q⟩;exact .tup q (.cons (.str _) (.cons (.int _) .nil))
 | ls _ ih=>rintro v ⟨a,u,rfl,q,p⟩;exact .tup q (.cons (.str _) (.cons (ih p) .nil))
 | fn _ _ ih ij | pr _ _ ih ij=>rintro v ⟨a,u,w,rfl,q,p,p'⟩;exact .tup q (.cons (.str _) (.cons (ih p) (.cons (ij p') .nil)))
theorem B3.reads (x:DM P w H h)(k:B3 H t v)(r:RelV v u):∃ as,Reads h u (pd t) as:=Rn.reads x (B3.dat k) r
section
variable {X:Cx}
noncomputable def ju:R2:=λx y H Q=>∃ t t',B3 H t x/\B3 H t' y/\dp t<=60/\dp t'<=60/\Q (.bl (decide (t=t'))) H
theorem So (hu:X.A.units+64 < cLine):G6 X (compareOp .Eq) ju:=by
 intro pins s σ H x y v u Q I rx ry h;obtain ⟨t,t',k1,k2,d1,d2,q⟩:=h;obtain ⟨as,ra⟩:=B3.reads I.hok k1 rx;obtain ⟨bs,rb⟩:=B3.reads I.hok k2 ry;exact eq_dataH ra rb (Ji d1) (Ji d2) hu (AO I q (ZV t t').symm)
theorem FI:Ds X (.builtin "isinstance") (λxs H Q=>∃ x t T b,xs=[x,.ty T]/\DY X.K H x t/\W.kitOne X.K t (.type T)=some b/\Q (.bl b) H):=by
 intro pins s σ H xs us Q I r h;obtain ⟨x,t,T,b,rfl,ty,e,q⟩:=h;obtain ⟨u,u',rfl,ru,jv⟩:=vals2 r;obtain rfl:u'=Value.type T:=jv;exact J3 I ru ty e λtk=>⟨.bl b,H,I.tok tk,rfl,q⟩
theorem all_bools:∀ (bs:List Bool),((List.range bs.length).all λi=>bs.getD i true)=bs.all id:=by
 intro bs;rw [Do];simp only [OP,FB,id]
 constructor
 ·intro h b hb;obtain ⟨i,hi,e⟩:=na.mp hb;have:=h i hi;simpa [List.getD,ap hi,e] using this
 ·intro h i hi;have:=h bs[i] (List.getElem_mem hi);simpa [List.getD,ap hi] using this
theorem Jj (hc:X.calm=true):Ds X (.builtin "all") (λxs H Q=>∃ (l:Addr) (bs:List Bool),xs=[.ref l]/\H l=some (.lst (bs.map V.bl))/\Q (.bl (bs.all id)) H):=by
 intro pins s σ H xs us Q I r h;obtain ⟨l,bs,rfl,hl,q⟩:=h;obtain ⟨u,rfl,ru⟩:=vals1 r;obtain rfl:u=Value.ref l:=ru;obtain ⟨hz,its,n,rv,e⟩:=(show B6 X.prog X.w H s.heap l (.lst (bs.map V.bl)) from I.hok l _ hl);have hlen:=rv.length;rw [ba] at hlen;have hL:s.heap.IsList l its.toArray:=⟨_,e,rfl,n,rfl⟩;have CV:l < s.heap.objs.size:=ii e;have hh:X.A.in1.handled=none:=I.ok.hd hc;refine call_all_walk (wpAny_pyIter_list hL ?_);refine ⟨s.heap.objs.size,_,_,its.toArray.size,_,_,λi=>bs.getD i true,rfl,Walks.list hh s.heap.objs.size l (dL CV) its.toArray,⟨⟨_,io _ rfl,rfl,rfl⟩,⟨_,ac _ e,rfl,n,rfl⟩⟩,?_,λh' tk hk=>?_⟩
 ·intro i v s' Q' E' hv hq;have Rm:its[i]?=some v:=by simpa using hv
  have hi:i < its.length:=(cr.mp Rm).1;have hb:(bs.map V.bl)[i]?=some (V.bl (bs[i]'())):=by rw [jp,ap ()];rfl
  obtain ⟨u,hu,ru⟩:=rv.get hb;rw [Rm] at hu;cases hu;obtain rfl:v=Value.bool (bs[i]'()):=ru;refine Mo ?_;have e1:bs.getD i true=bs[i]'():=by simp [List.getD,ap (show i < bs.length by omega)]
  rw [<- e1];exact hq
 ·have I1:Inv X pins σ H { s with heap:=h',toks:=tk }:=I.kept λb o z=>hk b o (λy=>absurd (al.mp y) (dL (ii z))) (ac _ z);refine AO I1 q ?_;rw [f8,<- hlen];exact (all_bools bs).symm
theorem Qh (rv:Vals xs its)(hA:ItemsOf (λi v=>its.toArray[its.toArray.size - 1 - i]?=some v) acc its.toArray.size):Vals xs.reverse acc.toList:=by
 have hl:=rv.length;have e:acc.toList=its.reverse:=by
  have hs:acc.size=its.length:=hA.1.trans (by simp);have hA:=hA.2;refine List.ext_getElem? λj=>?_;by_cases hj:j < its.length
  ·have h1:acc[j]?=some (acc[j]'()):=Array.getElem?_eq_getElem ();have h2:=hA j _ h1;rw [List.getElem?_reverse hj];simp only [f8,List.getElem?_toArray] at h2;rw [h2];simpa using h1
  ·have h1:acc.toList[j]?=none:=OE (by simp;omega);have h2:its.reverse[j]?=none:=OE (by simp;omega);rw [h1,h2]
 rw [e];exact rv.reverse
end
end KS
namespace L2
open PySem PySem.Spec PyProof.Rows
open PySem.W (CodeHd tabObj TabsAt noTabs mem_of_lookupK)
noncomputable def jw (tabs:List (Addr × Addr))(H:Hp):Prop:=∀ b,H b=none\/(∃ o xs,H b=some (.frz o (.lst xs)))\/(H b=some (.tbl #[])/\b∈tabs.map (·.2))
theorem VS {K:W.Frag}(hK:noTabs K=true){b:Addr}{o:Obj}(e:K.lookup b=some o){ps:Array Value}:o≠tabObj ps:=by
 intro q;have h2:=OP.mp hK (b,o) (mem_of_lookupK e);subst q;exact absurd (show false=true from h2) lc
theorem Qi {P:Program}{w:World}{K:W.Frag}{mg mb:Str->Option Value}{CX:Mw}{k:Nat}{fa a:Addr}{fd:FuncData}{x:Str}{sp:Sp}{s₁:Shared}{vs:List Value}{ns:List Int}{tabs:List (Addr × Addr)}
  (KX:K.In s₁.heap) (UU:s₁.heap.Ns mainGlobals mg) (hb:s₁.heap.Ns builtinsNs mb) (hbb:∀ x:Str,x≠"__name__"->mb x=bootBuiltins x) (tw:s₁.heap.NoLimit) (hg:s₁.gens=#[])
  (hbm:∃ bm ob,mg "__builtins__"=some (.ref bm)/\bm≠builtinsNs/\s₁.heap.get? bm=some ob/\ob.cls=.type "module"/\ob.dict=some builtinsNs/\ob.data=.plain)
  (hT:TabsAt tabs s₁.heap) (hK:noTabs K=true)
  (ha:s₁.heap.get? a=some { cls:=.type "list",data:=.seq vs.toArray }) (hi:IntsAre vs ns) (hl:ns.length<=sizeLine) (hr:Ax k callerA)
  (F:∀ base:Heap,K.In base->base.Ns mainGlobals mg->(∀ q∈tabs,ON base mg q.1 q.2)->Au P w K mg base CX k fa fd [x] sp) (jx:∀ (s:Shared) (u:Value),BindsTo s fd ⟨[u],[]⟩ [(x,u)])
  (gX:∀ H:Hp,(∀ q∈tabs,H q.2=some (.tbl #[]))->AI K H a (ns.map V.int)->sp [.ref a] H (λv _=>v=.bl true) λ_ _ _=>False)
  (hCX:∀ H e s',CX [] H s₁ (λ_ _ _=>False) e s'->False) :
  codeAny (model P w) callerA (.call (.ref fa) ⟨[.ref a],[]⟩) (λr s'=>r=.ok (.ret (.bool true))/\OldK s₁.heap s'.heap/\s'.os=s₁.os/\AllBare s'.gens) s₁:=by
 have rv:=Jc hi;have tD:=hi.length;have tabOf:∀ {b:Addr},b∈tabs.map (·.2)->s₁.heap.get? b=some (tabObj #[]):=λ{b} hm=>by
  obtain ⟨q,hq,e⟩:=ln.mp hm;rw [<- e];exact (hT q hq).2
 have core:∀ H:Hp,jw tabs H->(∀ q∈tabs,H q.2=some (.tbl #[]))->AI K H a (ns.map V.int)->DM P w H s₁.heap->(∀ b,H b≠none->b=a\/b∈tabs.map (·.2))->(H a≠none->K.lookup a=none) ->
   codeAny (model P w) callerA (.call (.ref fa) ⟨[.ref a],[]⟩) (λr s'=>r=.ok (.ret (.bool true))/\OldK s₁.heap s'.heap/\s'.os=s₁.os/\AllBare s'.gens) s₁:=by
  intro H hO tE hS hok hA hKa;have Hg:∀ {b:Addr} {o:Obj},s₁.heap.get? b=some o->H b=none->(IH s₁.heap H).get? b=some o:=λe n=>Ru e n;have Zz:∀ {b:Addr} {o:Obj},s₁.heap.get? b=some o->o≠{ cls:=.type "list",data:=.seq vs.toArray }->o≠tabObj #[]->H b=none:=λ{b o} e d1 d2=>by
   cases q:H b with
   | none=>rfl
   | some u =>
    rcases hA b (by rw [q];simp) with e' | e'
    ·subst e';rw [ha] at e;cases e;exact absurd rfl d1
    ·rw [tabOf e'] at e;cases e;exact absurd rfl d2
  have pS:∀ {b:Addr} {m:Str->Option Value},s₁.heap.Ns b m->(IH s₁.heap H).Ns b m:=λ{b m} ⟨o,es,ep,e,d,r⟩=>⟨o,es,ep,Hg e (Zz e (λz=>by rw [z] at d;cases d) (λz=>by rw [z] at d;cases d)),d,r⟩;have hKb:K.In (IH s₁.heap H):=λb o e=>Hg (KX b o e) (by
   cases q:H b with
   | none=>rfl
   | some u =>
    rcases hA b (by rw [q];simp) with e' | e'
    ·subst e';rw [hKa (by rw [q];simp)] at e;cases e
    ·have z:=KX b o e;rw [tabOf e'] at z;exact absurd (ss z).symm (VS hK e))
  have hM:Mod K mg (IH s₁.heap H):=⟨hKb,pS UU,⟨mb,pS hb,hbb⟩,let ⟨mc,h1,h2⟩:=tw;⟨mc,pS h1,h2⟩⟩;have e0:MT P w K mg (IH s₁.heap H) callerA [] s₁ H:=⟨rfl,hM,λb o e=>V9 e,Nat.le_of_eq (PL _ _),trivial,λb hb=>absurd (show b∈([]:List Addr) from hb) (by simp),hok,.of_eq hg⟩;have hN:∀ q∈tabs,ON (IH s₁.heap H) mg q.1 q.2:=λq hq=>by
   refine ⟨?_,?_⟩
   ·obtain ⟨o,vs',file,tf,flags,tg,inF,text,tt,e1,c1,r⟩:=(hT q hq).1;exact ⟨o,vs',file,tf,flags,tg,inF,text,tt,Hg e1 (Zz e1 (λz=>by rw [z] at c1;exact absurd (show Value.type "list"=Value.type "code" from c1) ⟨⟩) (λz=>by rw [z] at c1;cases c1)),c1,r⟩
   ·obtain ⟨bm,ob,b1,b2,b3,b4,b5⟩:=hbm;exact ⟨bm,ob,b1,b2,Hg b3 (Zz b3 (λz=>by rw [z] at b4;exact absurd (show Value.type "list"=Value.type "module" from b4) ⟨⟩) (λz=>by rw [z] at b4;cases b4)),b4,b5⟩
  refine codeAny_mono ((F _ hKb (pS UU) hN).run callerA [] s₁ H ⟨[.ref a],[]⟩ [.ref a] [.ref a] _ _ hr e0 (jx s₁ (.ref a)) (.cons rfl .nil) (gX H tE hS)) λr s' h=>?_;cases r with
  | error e=>exact (hCX H e s' h).elim
  | ok fl =>
   cases fl with
   | next=>exact False.elim h
   | brk=>exact False.elim h
   | cont=>exact False.elim h
   | ret u =>
    obtain ⟨v,H',os,bare,un,jy,r',q⟩:=h;have q':v=.bl true:=q;subst q';obtain rfl:u=Value.bool true:=r';have key:∀ b o,s₁.heap.get? b=some o->s'.heap.get? b=some o\/(b∈tabs.map (·.2)/\o=tabObj #[]/\∃ more,s'.heap.get? b=some (tabObj (#[]++more))):=λb o e=>by
     cases q:H b with
     | none=>exact .inl (un.keep b o e q (by intro z;exact absurd (show b∈([]:List Addr) from z) (by simp)) (by simp))
     | some u =>
      rcases hO b with z | ⟨ob,xs,z⟩ | ⟨z,zm⟩
      ·rw [q] at z;cases z
      ·have z2:=un.aax b ob _ z;obtain ⟨e1,_⟩:=hok b _ z;obtain ⟨e2,_⟩:=jy b _ z2;rw [e] at e1;cases e1;exact .inl e2
      ·obtain ⟨more,z2⟩:=un.aay b _ z;have e2:s'.heap.get? b=some _:=jy b _ z2;have e1:=tabOf zm;rw [e] at e1;cases e1;exact .inr ⟨zm,rfl,more,e2⟩
    refine ⟨rfl,⟨λb o e=>?_,λb o e=>?_⟩,os,bare⟩
    ·rcases key b o e with z | ⟨zm,rfl,more,z⟩
     ·exact .inl z
     ·obtain ⟨q,hq,e'⟩:=ln.mp zm;subst e';exact .inr (.inl ⟨((hT q hq).1.tab (hT q hq).2).isCodeTable,rfl,#[],more,rfl,z⟩)
    ·rcases key b o e with z | ⟨_,_,more,z⟩
     ·exact ⟨_,z⟩
     ·exact ⟨_,z⟩
 have jz:∀ q∈tabs,q.2≠a:=λq hq z=>by
  have:=(hT q hq).2;rw [z,ha] at this;cases this
 cases hk:K.lookup a with
 | some o =>
  have e:=KX a o hk;rw [ha] at e;cases e;refine core (λb=>if b∈tabs.map (·.2) then some (.tbl #[]) else none) (λb=>?_) (λq hq=>if_pos (Of hq)) (.inr ⟨_,vs.toArray,_,hk,rfl,rfl,rfl,by rw [f8,tD];exact hl,by simpa using rv⟩) (λb u z=>?_) (λb z=>?_) λz=>?_
  ·by_cases hb:b∈tabs.map (·.2)
   ·exact .inr (.inr ⟨if_pos hb,hb⟩)
   ·exact .inl (if_neg hb)
  ·by_cases hb:b∈tabs.map (·.2)
   ·have z':=(if_pos hb).symm.trans z;cases z';exact tabOf hb
   ·have z':=(if_neg hb).symm.trans z;cases z'
  ·by_cases hb:b∈tabs.map (·.2)
   ·exact .inr hb
   ·exact absurd (if_neg hb) z
  ·by_cases hb:a∈tabs.map (·.2)
   ·obtain ⟨q,hq,e'⟩:=ln.mp hb;exact absurd e' (jz q hq)
   ·exact absurd (if_neg hb) z
 | none =>
  refine core (λb=>if b=a then some (.frz { cls:=.type "list",data:=.seq vs.toArray } (.lst (ns.map V.int))) else if b∈tabs.map (·.2) then some (.tbl #[]) else none) (λb=>?_) (λq hq=>?_)
   (.inl (.inr ⟨{ cls:=.type "list",data:=.seq vs.toArray },if_pos rfl⟩)) (λb u z=>?_) (λb z=>?_) λ_=>hk
  ·by_cases hb:b=a
   ·exact .inr (.inl ⟨_,_,if_pos hb⟩)
   ·by_cases UW:b∈tabs.map (·.2)
    ·exact .inr (.inr ⟨(if_neg hb).trans (if_pos UW),UW⟩)
    ·exact .inl ((if_neg hb).trans (if_neg UW))
  ·exact (if_neg (jz q hq)).trans (if_pos (Of hq))
  ·by_cases hb:b=a
   ·have z':=(if_pos hb).symm.trans z;cases z';subst hb;exact ⟨ha,by rw [ba];exact hl,vs,_,rv,ha⟩
   ·by_cases UW:b∈tabs.map (·.2)
    ·have z':=((if_neg hb).trans (if_pos UW)).symm.trans z;cases z';exact tabOf UW
    ·have z':=((if_neg hb).trans (if_neg UW)).symm.trans z;cases z'
  ·by_cases hb:b=a
   ·exact .inl hb
   ·by_cases UW:b∈tabs.map (·.2)
    ·exact .inr UW
    ·exact absurd ((if_neg hb).trans (if_neg UW)) z
noncomputable def Sq (K:W.Frag)(n:Nat)(ps:List Addr):Sp:=λvs H Q _=>∃ (a:Addr) (ns:List Int),vs=[.ref a]/\AI K H a (ns.map V.int)/\ns.length<=n/\(∀ p∈ps,H p=some (.tbl #[]))/\∀ H',Q (.bl true) H'
theorem jA {l:W.OpenLaw}{n k:Nat}{q:Program}{loose:List Str}{XP:(Str->Option Value)->Heap->Prop}{YP:World->Heap->Prop}{d:DefRec}{K:Params->W.Frag}{x:Str}
  (hn:l.most=some n) (Yb:n<=sizeLine) (sS:d.params.defaults=[]) (hr:Ax k callerA)
  (hY:∀ (w:World) (h:Heap),YP w h->(K w.params).In h)
  (F:∀ (w:World) (mg mb:Str->Option Value) (VT:ExcName->Option Value) (fa:Addr) (h:Heap),(K w.params).In h->Top q (W.looseW q loose) VT mg mb h->mg d.name=some (.ref fa) ->
   ∃ (fd:FuncData) (tabs:List (Addr × Addr)),noTabs (K w.params)=true/\TabsAt tabs h/\(∀ (s:Shared) (u:Value),BindsTo s fd ⟨[u],[]⟩ [(x,u)]) /\
    ∀ base:Heap,(K w.params).In base->base.Ns mainGlobals mg->(∀ q∈tabs,ON base mg q.1 q.2)->Au l.prog w (K w.params) mg base AN k fa fd [x] (Sq (K w.params) n (tabs.map (·.2)))) :
  W.WalkO q loose XP YP l.row.toRowW d [] (λf vs=>PySem.call f vs):=by
 refine Att.aav hn sS λw s₀ s₁ mg mb fa o pm cd doc a vs ns G Y ho hd MG jm ZQ hints hlen hg=>?_;have KX:=hY w _ Y;obtain ⟨fd,tabs,hK,hT,hb,hF⟩:=F w mg mb _ fa _ KX G.T jm;refine Qi KX G.T.g G.T.b G.T.builtins G.T.nolimit hg G.T.bmain hT hK ZQ hints (ce hlen Yb) hr hF hb (λH tE hS=>⟨a,ns,rfl,hS,hlen,λp hp=>?_,λ_=>rfl⟩) λH e s' z=>z;obtain ⟨q,hq,e'⟩:=ln.mp hp;rw [<- e'];exact tE q hq
end L2
namespace L2
open PySem PySem.Spec PyProof.Rows
structure Fl (n0:Heap)(H:Hp)(a:Addr)(cls:Value)(h:Heap)(z:Option Value)(dz:Option Addr)(c:Bool):Prop where
 new:n0.get? a=none
 un:H a=none
 ob:∃ oe vs,h.get? a=some oe/\oe.cls=cls/\oe.data=.fields vs/\1 < vs.size/\oe.dict=dz/\(c=true->vs[2]?=some .none)/\match z with
  | none=>vs[1]?=some .none
  | some z=>∃ T oT ts,vs[1]?=some (.ref T)/\n0.get? T=none/\H T=none/\T≠a/\h.get? T=some oT/\oT.data=.fields ts/\ts[3]?=some z
open KS
structure SE (X:Cx)(e:Expr)(t:TE):Prop where out:PE X e t
structure ST (X:Cx)(e:Expr)(t:TT):Prop where out:PT X e t
structure SW (X:Cx)(e:Expr)(t:TT):Prop where out:PW X e t
structure SA (X:Cx)(es:List Expr)(t:TA):Prop where out:PA X es t
structure SS (X:Cx)(st:Stmt)(t:TS):Prop where out:PS X st t
structure SB (X:Cx)(st:List Stmt)(t:TS):Prop where out:Oa X st t
structure SG (X:Cx)(tg:Expr)(g:TG):Prop where out:PG X tg g
structure SI (X:Cx)(tg iter:Expr)(wi:TI):Prop where out:PI X tg iter wi
structure SF (X:Cx)(ifs:List Expr)(t:TT):Prop where out:gY X ifs t
structure SO (X:Cx)(e:Option Expr)(t:TO):Prop where out:PO X e t
structure SD (X:Cx)(pos:Pos)(keys:List (Option Expr))(values:List Expr)(Jb:List (TE × TE)):Prop where out:jl X pos keys values Jb
section
variable {env:Env}{es:List Expr}
theorem DZ {c k p}:starEach (.Constant c k p::es) env=(false,eval (.Constant c k p) env)::starEach es env:=rfl
theorem D' {a o b p}:starEach (.BinOp a o b p::es) env=(false,eval (.BinOp a o b p) env)::starEach es env:=rfl
theorem E1 {a k p}:starEach (.Tuple a k p::es) env=(false,eval (.Tuple a k p) env)::starEach es env:=rfl
theorem Dj {a b c p}:starEach (.Call a b c p::es) env=(false,eval (.Call a b c p) env)::starEach es env:=rfl
theorem Dk {a p}:starEach (.Name a p::es) env=(false,eval (.Name a p) env)::starEach es env:=rfl
theorem E2 {a b p}:starEach (.Subscript a b p::es) env=(false,eval (.Subscript a b p) env)::starEach es env:=rfl
theorem FJ {a b c p}:starEach (.ListComp a b c p::es) env=(false,eval (.ListComp a b c p) env)::starEach es env:=rfl
end
section
variable {X:Cx}
theorem Ag (i:Nat)(hN:X.N[i]?=some x:=by rfl)(hv:gT X.env.scope x:=by exfalso)(hd:(x==("__debug__":Str))=false:=by decide)(MG:(x==("__classdict__":Str))=false:=by decide):SE X (.Name x pos) (AS i):=⟨Rw hN hv hd MG⟩
theorem Aj {i j pos}:SE X (.Constant (.int i) j pos) (tC (.int i)):=⟨Dc⟩
theorem IL {b j pos}:SE X (.Constant (.bool b) j pos) (tC (.bl b)):=⟨iY⟩
theorem EB {j pos}:SE X (.Constant .none j pos) (tC .non):=⟨Z0⟩
theorem Ap {x j pos}:SE X (.Constant (.str x) j pos) (tC (.str x)):=⟨Z3⟩
theorem JW (hg:Gl X x)(hm:X.mg x=none)(hv:bootBuiltins x=some u)(r:RelV v u)(hn:x≠"__name__":=by decide)(hd:(x==("__debug__":Str))=false:=by decide):SE X (.Name x pos) (tC v):=⟨Va hg hm hv r hn hd⟩
variable {a b c e o:Expr}{es:List Expr}{ta tb te to ti tx:TE}{tA Vb:TT}{t:TA}{pos apos CP p:Pos}{rest:List Expr}
theorem BN (hr:pM X r)(ha:SE X a ta)(hb:SE X b tb)(hs:OG b):SE X (.Subscript a b pos) (G7 r ta tb):=⟨Yg hr ha.out hb.out hs⟩
theorem eI (i:Nat){p p2:Pos}{k}(hN:X.N[i]?=some x:=by rfl)(hv:gT X.env.scope x:=by exfalso)(hd:(x==("__debug__":Str))=false:=by decide)(MG:(x==("__classdict__":Str))=false:=by decide):SE X (.Subscript (.Name x p) (.Constant (.int j) k p2) pos) (G7 (GQ X.K) (AS i) (tC (.int j))):=BN Et (Ag i hN hv hd MG) Aj D0
theorem HJ:SO X none JM:=⟨Vr⟩
theorem HL (h:SE X e te):SO X (some e) (RV te):=⟨Vs h.out⟩
theorem FK {lo hi:Option Expr}{tl th:TO}{p2:Pos}{r:V->Option Int->Option Int->Hp->VK->Prop}(hr:pL X r)(he:SE X e te)(hl:SO X lo tl)(hu:SO X hi th):SE X (.Subscript e (.Slice lo hi none p2) pos) (sH r te tl th):=⟨RW hr he.out hl.out hu.out⟩
theorem HM (ho:G6 X (compareOp op) r)(ha:SE X a ta)(hb:SE X b tb)(hm:behindInMarks op b=false):SE X (.Compare a [op] [b] pos) (G7 r ta tb):=⟨Vl ho ha.out hb.out hm⟩
theorem AE (ho:G6 X (compareOp op) r)(ha:SE X a ta)(hb:SE X b tb)(hm:behindInMarks op b=false):ST X (.Compare a [op] [b] pos) (L7 (G7 r ta tb)):=⟨Vm ho ha.out hb.out hm⟩
theorem Jk (h:SE X e te)(he:∀ whole,isTrue e X.env whole=(do let v <- whole;standAt e.pos;holding [v] (truthy v)):=by intro _;rfl):ST X e (tB te):=⟨Z4 h.out he⟩
theorem Cf (ha:SE X a ta)(he:∀ whole,isTrue a X.env whole=(do let v <- whole;standAt a.pos;holding [v] (truthy v)):=by intro _;rfl):ST X a (fun σ H Q=>ta σ H λx H'=>∃ k,Zo X.K x H' k/\Q k H'):=⟨L9 ha.out he⟩
theorem Ll (ha:ST X a tA):ST X (.UnaryOp .Not a pos) (Z6 tA):=⟨Z9 ha.out⟩
theorem DI (ha:ST X a tA):SW X (.BoolOp .And [a] pos) tA:=⟨Vc ha.out⟩
theorem Lm (ha:ST X a tA):SW X (.BoolOp .Or [a] pos) tA:=⟨Z7 ha.out⟩
theorem w_and (ha:ST X a tA)(hb:SW X (.BoolOp .And (b::rest) pos) Vb):SW X (.BoolOp .And (a::b::rest) pos) (Z5 tA Vb):=⟨Z8 ha.out hb.out⟩
theorem w_or (ha:ST X a tA)(hb:SW X (.BoolOp .Or (b::rest) pos) Vb):SW X (.BoolOp .Or (a::b::rest) pos) (rX tA Vb):=⟨iZ ha.out hb.out⟩
theorem Nh (h:SW X e tA):ST X e tA:=⟨PW.pt h.out⟩
theorem OQ {op}(h:SE X a ta):SE X (.BoolOp op [a] pos) ta:=⟨Za h.out⟩
theorem Ln (ha:SE X a ta)(hb:SE X (.BoolOp .And (b::rest) pos) tb):SE X (.BoolOp .And (a::b::rest) pos) (Rz ta tb):=⟨Zb ha.out hb.out⟩
theorem jB (ha:SE X a ta):SE X (.UnaryOp .Not a pos) (Y2 ta):=⟨Zc ha.out⟩
theorem Qj (hc:ST X c tA)(ha:SE X a ta)(hb:SE X b tb):SE X (.IfExp c a b pos) (rY tA ta tb):=⟨RA hc.out ha.out hb.out⟩
theorem Ay (ho:G6 X (binaryOp op) r)(ha:SE X a ta)(hb:SE X b tb):SE X (.BinOp a op b pos) (G7 r ta tb):=⟨Ee ho ha.out hb.out⟩
theorem Ae:SA X [] Di:=⟨MS⟩
theorem Aa (ha:SE X e te)(hr:SA X es t)(hs:starEach (e::es) X.env=(false,eval e X.env)::starEach es X.env:=by exfalso):SA X (e::es) (Br te t):=⟨Hc ha.out hr.out hs⟩
theorem Az {x1}(h:SA X es t):SE X (.Tuple es x1 pos) (Q8 t):=⟨Zw h.out⟩
theorem B0 (h:SA X es t):SE X (.List es pos) (Zv t):=⟨Zx h.out⟩
variable {k:Nat}{f:Addr}{fd:FuncData}{ps:List Str}{sp:Sp}{x:Str}
theorem Fo (F:Au X.prog X.w X.K X.mg X.base AN k f fd ps sp)(hr:Ax k X.A)(hg:Gl X x)(hm:X.mg x=some (.ref f))(hk:W.keepIn X.K (.ref f)=true)(hb:Binds X.K fd ps [])(ha:SA X (e::es) t)(Ef:(x==("__debug__":Str))=false:=by decide)(he:starEach (e::es) X.env=(false,eval e X.env)::starEach es X.env:=by exfalso)(Er:(backTo pos (starEach es X.env)).any (·.1)=false:=by rfl) :
  SE X (.Call (.Name x p) (e::es) [] pos) (FF sp [] E0 t):=⟨Oq F hr hg hm hk hb .nil Jd ha.out Ef he Er⟩
theorem BO {id:String}{r:List V->Hp->VK->Prop}(hc:Ds X (.builtin id) r)(hg:Gl X x)(hm:X.mg x=none)(hv:bootBuiltins x=some (.builtin id))(ha:SA X (e::es) t)(hn:x≠"__name__":=by decide)(Ef:(x==("__debug__":Str))=false:=by decide)
  (he:starEach (e::es) X.env=(false,eval e X.env)::starEach es X.env:=by exfalso) (Er:(backTo pos (starEach es X.env)).any (·.1)=false:=by rfl):SE X (.Call (.Name x p) (e::es) [] pos) (ZA r t):=⟨Lg hc hg hm hv ha.out hn Ef he Er⟩
theorem CD (hc:Ds X (.type T) r)(hg:Gl X x)(hm:X.mg x=none)(hv:bootBuiltins x=some (.type T))(ha:SA X (e::es) t)(hn:x≠"__name__":=by decide)(Ef:(x==("__debug__":Str))=false:=by decide)(he:starEach (e::es) X.env=(false,eval e X.env)::starEach es X.env:=by exfalso)(Er:(backTo pos (starEach es X.env)).any (·.1)=false:=by rfl):SE X (.Call (.Name x p) (e::es) [] pos) (ZA r t):=⟨Qa hc hg hm hv ha.out hn Ef he Er⟩
theorem EC {T id:String}{name:Str}{r:V->List V->Hp->VK->Prop}(pa:PlainAttrs T)(slot:Slot T name id)(ZK:typeOf (.builtin id)=pure (.type "method_descriptor"))(hm:pO X id r)(ho:SE X o to)
  (HA:attributeBase o name X.env (eval o X.env)=eval o X.env:=by rfl) (HB:(apos.endLine==CP.line)=true:=by rfl):SE X (.Call (.Attribute o name apos) [] [] CP) (ZI X.K T r to):=⟨ZJ pa slot ZK hm ho.out HA HB⟩
theorem F4 {T id:String}{name:Str}{r:V->List V->Hp->VK->Prop}(pa:PlainAttrs T)(slot:Slot T name id)(ZK:typeOf (.builtin id)=pure (.type "method_descriptor"))(hm:pO X id r)(ho:SE X o to)(ha:SA X (e::es) t)
  (HA:attributeBase o name X.env (eval o X.env)=eval o X.env:=by rfl)
  (ZL:((backTo CP (starEach (e::es) X.env)).all (λx=>!x.1) && (backToKw CP (keywordEach [] X.env)).all (λx=>x.1.isSome)
   && decide ((e::es).length+([]:List Keyword).length+(if ([]:List Keyword).isEmpty then 0 else 1) < 30))=true:=by rfl)
  (HB:(apos.endLine==CP.line)=true:=by rfl) (hs:starEach (e::es) X.env=(false,eval e X.env)::starEach es X.env:=by exfalso) (MY:(backTo CP (starEach es X.env)).any (·.1)=false:=by rfl) :
  SE X (.Call (.Attribute o name apos) (e::es) [] CP) (sI X.K T r to t):=⟨jg pa slot ZK hm ho.out ha.out HA ZL HB hs MY⟩
theorem EV {f:Expr}(hu:X.A.units+1 < cLine)(ho:SE X o to)(he:SE X e te)(hf:SE X f tx)(m:M2 X o "get" apos e f CP):SE X (.Call (.Attribute o "get" apos) [e,f] [] CP) (HE to te tx):=⟨Se hu ho.out he.out hf.out m⟩
theorem JX (hu:X.A.units+1 < cLine)(ho:SE X o to)(hi:SE X i ti)(hs:N7 i):SE X (.Subscript o i pos) (Lj to ti):=⟨Vy hu ho.out hi.out hs⟩
theorem E3:SE X (.Dict [] [] pos) S7:=⟨S8⟩
theorem GH:SD X pos [] [] []:=⟨VA⟩
theorem Ck {k v:Expr}(hk:SE X k tk)(hv:SE X v tv)(hr:SD X pos ks vs Jb):SD X pos (some k::ks) (v::vs) ((tk,tv)::Jb):=⟨S9 hk.out hv.out hr.out⟩
theorem ED (h:SD X pos keys values Jb)(Nc:keys.all (·.isSome)=true)(hl:keys.length=values.length)(h0:keys≠[])(sO:keys.length<=15):SE X (.Dict keys values pos) (Sd Jb):=⟨VB h.out Nc hl h0 sO⟩
theorem Bf:SB X [] RB:=⟨Ob⟩
variable {st:Stmt}{sts:List Stmt}{ts tu:TS}
theorem Af (h1:SS X st ts)(h2:SB X sts tu):SB X (st::sts) (C8 ts tu):=⟨FE h1.out h2.out⟩
theorem Ak (h1:SS X st ts):SB X [st] ts:=⟨GZ h1.out⟩
theorem As (he:SE X e te)(hs:swapsWith e none pos.line X.env=pure false:=by rfl):SS X (.Expr e pos) (Oc te):=⟨Vd he.out hs⟩
theorem AH (he:SE X e te):SS X (.Return (some e) pos) (RC te):=⟨JI he.out⟩
theorem BE {a b:List Stmt}(hc:ST X c tA)(ha:SB X a ts)(hb:SB X b tu):SS X (.If c a b pos) (RD tA ts tu):=⟨Y4 hc.out ha.out hb.out⟩
theorem Aq (hN:X.N.Nodup)(hi:X.N[i]?=some x)(hx:Loc X.env.scope x)(he:SE X e te)(hs:swapsWith e (some (.Name x pos')) pos.line X.env=pure false:=by rfl)(hf:X.fn x=true\/X.env.scope.names.lookup x=some .local:=by exfalso):
  SS X (.Assign [.Name x pos'] e pos) (PQ te (Cn i)):=⟨MH hN hi hx he.out hs hf⟩
theorem DJ (hu:X.A.units+1 < cLine)(ho:SE X o to)(hi:SE X i ti)(hv:SE X value tv)(hs:swapsWith value (some (.Subscript o i pos')) pos.line X.env=pure false):SS X (.Assign [.Subscript o i pos'] value pos) (S6 to ti tv):=⟨Vz hu ho.out hi.out hv.out hs⟩
theorem Dl (hp:PassesOwn (model X.prog X.w) X.A X.env X.xe)(hc:ST X c tA)(hb:SB X body ts):SS X (.While c body [] pos) (RH tA ts):=⟨RI hp hc.out hb.out⟩
variable {tg iter:Expr}{wi:TI}{g:TG}
theorem FN (hp:PassesOwn (model X.prog X.w) X.A X.env X.xe)(hc:X.calm=true)(hi:SI X tg iter wi)(hg:SG X tg g)(hb:SB X body ts)(hs:∀ x,foldedSetIterable iter X.env x=pure x:=by intro _;rfl):SS X (.For tg iter body [] pos) (Vi wi g ts):=⟨Zj hp hc hi.out hg.out hb.out hs⟩
theorem CW (hl:SE X e te):SI X tg e (Oe X.K te):=⟨Vh hl.out⟩
theorem Jl (hl:SE X e te):SI X tg e (Zh X.K te):=⟨Zi hl.out⟩
theorem Sr {ta:TA}(hg:Gl X "range")(hm:X.mg "range"=none)(ha:SA X [a] ta)(hs:starEach [a] X.env=[(false,eval a X.env)]:=by rfl):SI X tg (.Call (.Name "range" p) [a] [] pos) (Y7 ta):=⟨PU hg hm ha.out hs⟩
theorem Ss {ta:TA}(hg:Gl X "range")(hm:X.mg "range"=none)(ha:SA X [a,b] ta)(hs:starEach [a,b] X.env=[(false,eval a X.env),(false,eval b X.env)]:=by rfl)(RJ:starEach [b] X.env=[(false,eval b X.env)]:=by rfl):SI X tg (.Call (.Name "range" p) [a,b] [] pos) (Y8 ta):=⟨PV hg hm ha.out hs RJ⟩
theorem jC {ta:TA}(hg:Gl X "reversed")(hm:X.mg "reversed"=none)(ha:SA X [a] ta)(hs:starEach [a] X.env=[(false,eval a X.env)]:=by rfl):SI X tg (.Call (.Name "reversed" p) [a] [] pos) (ZT X.K ta):=⟨ZU hg hm ha.out hs⟩
theorem B2 (hN:X.N.Nodup)(hi:X.N[i]?=some x)(hx:Loc X.env.scope x)(hf:X.fn x=true\/X.env.scope.names.lookup x=some .local:=by exfalso):SG X (.Name x pos) (Cn i):=⟨Vf hN hi hx hf⟩
theorem Eh:SF X [] HG:=⟨VH⟩
theorem OR (h:ST X c tA):SF X [c] tA:=⟨VI h.out⟩
variable {scope:Scope}{cl:List (Str × Addr)}{own fr:List Str}{js:List Nat}{elt:Expr}{ifs:List Expr}{tt:TT}
theorem Dx (S:B7 X scope cl own fr js)(Fc:X.calm=true)(hi:SI X tg iter wi)(hg:∀ C s0 H0 ex,SG (X.cmp scope cl own fr C s0 H0 ex) tg g)(ht:∀ C s0 H0 ex,SF (X.cmp scope cl own fr C s0 H0 ex) ifs tt)(he:∀ C s0 H0 ex,SE (X.cmp scope cl own fr C s0 H0 ex) elt te)(hs:∀ x,foldedSetIterable iter X.env x=pure x:=by intro _;rfl):SE X (.ListComp elt [⟨tg,iter,ifs,0⟩] scope pos) (OM own js wi g tt te):=⟨VL S Fc hi.out (λC s0 H0 ex=>(hg C s0 H0 ex).out) (λC s0 H0 ex=>(ht C s0 H0 ex).out) (λC s0 H0 ex=>(he C s0 H0 ex).out) hs⟩
end
section
variable {P:Program}{w:World}{K:W.Frag}{mg:Str->Option Value}{base:Heap}
theorem C7.okS {x qual:Str}{st:Stmt}{f:Addr}{fd:FuncData}{N ps:List Str}{k:Nat}{sp:Sp}(F:C7 K x qual st f fd)(S:Am N ps (Ah st))(Ld:∀ (Be:Value) (A:Around) (outer:List Env) (s:Shared) (H:Hp) (vs:List V) (Q:VK) (E:XK),Ax k (A.deeper (envOfC qual (Ah st) s.heap.objs.size f Be))->sp vs H Q E ->
   ∃ t,SB (Dt AN P w K mg base N qual (Ah st) f Be A outer s H E).nox (AJ st) t/\t { nx:=λ_ H'=>Q .non H',rt:=Q } (start N vs) H) (len:∀ vs H Q E,sp vs H Q E->vs.length=ps.length:=by intro vs H Q E h;repeat (first | (obtain ⟨rfl,_⟩:=h;rfl) | obtain ⟨_,h⟩:=h)):Au P w K mg base AN (k+1) f fd ps sp :=
 F.ok S len λBe A outer s H vs Q E hr h=>let ⟨t,h1,h2⟩:=Ld Be A outer s H vs Q E hr h;⟨t,h1.out,h2⟩
end
end L2
namespace L2
open PySem PySem.Spec PyProof.Rows
noncomputable def pT (P:Program)(w:World):Mw:=λouter H s E e s'=>∃ H' a cls z dz,e=.ref a/\s'.os=s.os/\AllBare s'.gens/\Un (Mv outer) [] H H' s.heap s'.heap/\DM P w H' s'.heap/\Fl s.heap H' a cls s'.heap z dz true/\E cls dz H'
section
variable {X:Cx}{k:Nat}{f C:Addr}{fd:FuncData}{ps:List Str}{sp:Sp}{x m:Str}{E:XK}{e o:Expr}{es:List Expr}{t:TA}{ta:TE}{p pos apos:Pos}
theorem pU (he:SE X o ta)(c:ID X.K C)(hm:Meth X.K C m f)(F:Au X.prog X.w X.K X.mg X.base (pT X.prog X.w) k f fd ps sp)(hx:Passes (pT X.prog X.w) X E)(hr:Ax k X.A)(hb:Binds X.K fd ps [])(ha:SA X (e::es) t)(JJ:starEach (e::es) X.env=(false,eval e X.env)::starEach es X.env:=by exfalso)(Er:(backTo pos (starEach es X.env)).any (·.1)=false:=by rfl)(ht:eval (.Call (.Attribute o m apos) (e::es) [] pos) X.env=(do
   let ov <- eval o X.env
   standAt apos.atName
   let (f,first) <- holding [ov] (getMethod ov m pl)
   callWith pos f first (backTo pos (starEach (e::es) X.env)) (backToKw pos (keywordEach [] X.env))):=by rfl) :
  SE X (.Call (.Attribute o m apos) (e::es) [] pos) (DD C m sp [] E ta t):=⟨Ot he.out c hm F hr hb .nil hx ha.out JJ Er ht⟩
theorem C0 (he:SE X o ta)(c:ID X.K C)(hm:Meth X.K C m f)(F:Au X.prog X.w X.K X.mg X.base AN k f fd ps sp)(hr:Ax k X.A)(hb:Binds X.K fd ps [])(ha:SA X (e::es) t)(JJ:starEach (e::es) X.env=(false,eval e X.env)::starEach es X.env:=by exfalso)(Er:(backTo pos (starEach es X.env)).any (·.1)=false:=by rfl)(ht:eval (.Call (.Attribute o m apos) (e::es) [] pos) X.env=(do
   let ov <- eval o X.env
   standAt apos.atName
   let (f,first) <- holding [ov] (getMethod ov m pl)
   callWith pos f first (backTo pos (starEach (e::es) X.env)) (backToKw pos (keywordEach [] X.env))):=by rfl) :
  SE X (.Call (.Attribute o m apos) (e::es) [] pos) (DD C m sp [] E0 ta t):=⟨Ot he.out c hm F hr hb .nil Jd ha.out JJ Er ht⟩
end
open PySem.W (excIn tailIn nsOkIn isNs_of_in nsMap_none_of_in tail_of_in)
theorem Lo (x:B6 P w H h a o):∃ ob,h.get? a=some ob:=by
 cases o with
 | lst xs=>obtain ⟨_,_,_,_,e⟩:=x;exact ⟨_,e⟩
 | tup xs=>obtain ⟨_,_,_,o,e,_⟩:=x;exact ⟨o,e⟩
 | dK kvs=>obtain ⟨_,_,_,_,o,_,_,e,_⟩:=x;exact ⟨o,e⟩
 | dT kvs=>obtain ⟨_,_,_,_,o,_,_,e,_⟩:=x;exact ⟨o,e⟩
 | set S n=>obtain ⟨o,_,_,_,e,_⟩:=x;exact ⟨o,e⟩
 | ins C dx fs=>obtain ⟨_,_,_,e,_⟩:=x;exact ⟨_,e⟩
 | own y=>obtain ⟨o,e⟩:=x;exact ⟨o,e⟩
 | xd fs=>obtain ⟨_,⟨o,_,_,e,_⟩,_⟩:=x;exact ⟨o,e⟩
 | rng lo hi=>obtain ⟨_,_,_,e⟩:=x;exact ⟨_,e⟩
 | frz ob u=>obtain ⟨e,_⟩:=x;exact ⟨_,e⟩
 | tbl ps=>exact ⟨_,(show h.get? a=some _ from x)⟩
 | met f y=>exact ⟨_,(show h.get? a=some _ from x)⟩
 | ext φ=>obtain ⟨_,⟨o,e⟩,_⟩:=x;exact ⟨o,e⟩
end L2
namespace L2
open PySem PySem.Spec PyProof.Rows
open PySem.W (excIn)
theorem Inv.aao (I:Inv X pins σ H s)(hn:H a=none)(h0:X.s₀.heap.get? a=none)(hL:a≠X.env.locals)(hc:∀ x c,X.env.cells.lookup x=some c->c≠a)(hp:∀ p∈X.pn++pins,p.1≠a)(new:B6 X.prog X.w (upd H a o) s.heap a o):Inv X pins σ (upd H a o) s:=by
 refine ⟨I.ok,I.os,I.bare,?_,I.loc,I.cell,by rw [Ac (be hL)];exact I.free,λx c e=>by rw [Ac (hc x c e)];exact I.aah x c e,λp q=>?_,I.hok.aao hn new,I.len⟩
 ·have u:=I.base;exact ⟨u.keep,u.slot,λb ob q n hx=>by
   have hb:b≠a:=λz=>(by rw [z,h0] at q;cases q);rw [Ac hb];exact u.free b ob q n hx,u.there,λb xs q=>by
   have z:=u.aa2 b xs q;rw [Ac (Ab z hn)];exact z,λb ob xs q=>by
   have z:=u.aax b ob xs q;rw [Ac (Ab z hn)];exact z,λb ps q=>by
   obtain ⟨more,z⟩:=u.aay b ps q;exact ⟨more,by rw [Ac (Ab z hn)];exact z⟩⟩
 ·obtain ⟨e,n,r⟩:=I.pin p q;exact ⟨e,by rw [Ac (hp p q)];exact n,r⟩
end L2
namespace PySem
section
variable {M:Model}{A:Around}{E:Value->Shared->Prop}{nm q:Str}{C N:Addr}{bs bm:List Value}{tF:Bool}{sn:List Str}{sub:List Value}{ab:Bool}{col:Option Bool}{dd:Option Addr}{k0 k1 k2 k3 k5:Option Value}{newId:String}
 {pV q2:Str} {C2 N2:Addr} {bs2 bm2:List Value} {Abn:Bool} {sn2:List Str} {VU:List Value} {ab2:Bool} {Af0:Option Bool} {sG:Option Addr} {j0 j1 j2 j3 j5:Option Value} {tG:String}
end
open PySem.W (Looks looks_findIn findIn Frag)
section
variable {prog:Program}{w:World}{A:Around}{E:Value->Shared->Prop}{h:Heap}{g:Array GenState}{d:Drawn}{t:Nat}{os:OsState}{a:Addr}{o:Obj}{K:Frag}
 {nm q:Str} {C N:Addr} {bs bm bmB:List Value} {tF:Bool} {sn:List Str} {sub:List Value} {ab:Bool} {col:Option Bool} {dd:Option Addr} {k0 k1 k2 k3 k5:Option Value} {newId:String}
end
end PySem
namespace L2
open PySem PySem.Spec PyProof.Rows
open PySem.W (excIn findIn kitOne kitAny KitX)
section
variable {X:Cx}{i j:Nat}{x y n:Str}{C:Addr}{bmB:List Value}{newId tH Bn:String}{e:Expr}{es:List Expr}{t:XK->TE}{ta:TA}{b₀:Stmt}{OS:List Stmt}{ts:TS}{py apos np IP CP pos:Pos}{E:XK}{E':Value->Shared->Prop}
theorem ZW (hg:Gl X x)(hm:X.mg x=some u)(r:RelV v u)(hd:(x==("__debug__":Str))=false:=by decide):SE X (.Name x pos) (tC v):=⟨JH hg hm r hd⟩
end
end L2
namespace KS
open PySem L2 KM
theorem Hh (t:Kd):decide (V.str (word t)=V.str "any")=BM t:=by
 rw [Do,decide_eq_true_iff,V.str.injEq];exact DP
theorem ZX (x:V)(us:List V):Es (x::us) (some 1) none=us:=by
 unfold Es;have e1:HT.sIx (x::us).length 0 (some 1)=1:=by
  have:=HT.abh (n:=(x::us).length) (d:=0) (k:=1);simp [HT.sIx]
 have e2:HT.sIx (x::us).length (x::us).length none=(x::us).length:=by simp [HT.sIx]
 rw [e1,e2];simp
theorem Ai.put (s:Ai H H')(h:H a=none):Ai H (upd H' a o):=λb u e=>by
 rw [Ac (Ab e h)];exact s b u e
theorem Ai.new (h:H a=none):Ai H (upd H a o):=Ai.put (Ai.refl H) h
theorem Paired.app:∀ {a b:List α} {c d:List β},Paired F a c->Paired F b d->Paired F (a++b) (c++d):=by
 intro a b c d p q
 induction p with
 | nil=>exact q
 | cons h _ ih=>exact .cons h ih
theorem Paired.at {α β:Type}{F:α->β->Prop}:∀ {a:List α} {c:List β} {i:Nat} {y:β},Paired F a c->c[i]?=some y->∃ x,a[i]?=some x/\F x y
 | _,_,_,_,.nil,e=>by simp at e
 | _,_,0,_,.cons h _,e=>by simp at e;subst e;exact ⟨_,rfl,h⟩
 | _,_,i+1,y,.cons _ t,e=>by
  obtain ⟨x,h1,h2⟩:=Paired.at (i:=i) t (by simpa using e);exact ⟨x,by simpa using h1,h2⟩
theorem B8:16777216=sizeLine:=Sc.symm
noncomputable def E4:Stmt:=.Pass ⟨0,0,0,0⟩
noncomputable def inDef (s:Stmt)(j:Nat):Stmt:=(AJ s).getD j E4
noncomputable def Yn (s:Stmt)(j:Nat):Stmt:=match s with
 | .For _ _ b _ _=>b.getD j E4
 | _=>E4
noncomputable def valueOf (s:Stmt):Expr:=match s with
 | .Assign _ v _=>v
 | .Return (some v) _=>v
 | .Expr v _=>v
 | _=>.Constant .none 0 ⟨0,0,0,0⟩
noncomputable def BJ (e:Expr):Scope:=match e with
 | .ListComp _ _ sc _=>sc
 | _=>{ kind:=.function,names:=[],isGenerator:=false,isCoroutine:=false }
theorem Dy {σ:St}{H:Hp}{A B:Hp->Prop}(h:A H):HG σ H (λb H1=>if b=true then A H1 else B H1):=by
 unfold HG;exact CQ h
noncomputable def CG (H:Hp)(kvs:List (Key × V))(m:Int->Option Kd):Prop:=∀ k:Int,(Bw kvs (Sum.inl k:Key)=none/\m k=none)\/∃ v t,Bw kvs (Sum.inl k:Key)=some v/\m k=some t/\B3 H t v
theorem CG.mono (s:TSub H H')(h:CG H kvs m):CG H' kvs m:=λk=>by
 rcases h k with z | ⟨v,t,h1,h2,h3⟩
 ·exact .inl z
 ·exact .inr ⟨v,t,h1,h2,B3.mono s h3⟩
theorem Qk (h:BM t=false):word (fill m t)=word t:=by
 cases t <;> first | rfl | (simp [BM] at h)
theorem Paired.ab4 {α β γ:Type}{F:γ->β->Prop}{g:α->γ}:∀ {a:List α} {c:List β},Paired (λx y=>F (g x) y) a c->Paired F (a.map g) c
 | _,_,.nil=>.nil
 | _,_,.cons h t=>.cons h (Paired.ab4 t)
theorem Sv (h0:0<=i)(h1:i < xs.length):∃ v,Oz xs i=some v/\v∈xs:=by
 obtain ⟨j,rfl⟩:=Int.eq_ofNat_of_zero_le h0;have hj:j < xs.length:=by omega
 exact ⟨xs[j],Ao (ap hj),List.getElem_mem hj⟩
noncomputable def Ni:Sp:=λ_ _ _ _=>False
section
variable {Pr:Program}{w:World}{K:W.Frag}{mg:Str->Option Value}{base:Heap}
theorem Jm:Au Pr w K mg base AN k f fd ps Ni:=⟨λ_ _ _ _ h=>h.elim,λ_ _ _ _ _ _ _ _ _ _ _ _ _ h=>h.elim⟩
end
theorem Hi (h:s∈parts t):dp s < dp t:=by
 cases t with
 | fn a b | pr a b =>
  cases h with
  | head=>simp only [dp];omega
  | tail _ h =>
   cases h with
   | head=>simp only [dp];omega
   | tail _ h=>cases h
 | ls a =>
  cases h with
  | head=>simp only [dp];omega
  | tail _ h=>cases h
 | _=>cases h
theorem VW (h:ok t=true)(hs:s∈parts t):ok s=true:=by
 cases t <;> simp [parts] at hs
 ·simp only [ok,Ev] at h;rcases hs with rfl | rfl
  ·exact h.1
  ·exact h.2
 ·simp only [ok,Ev] at h;rcases hs with rfl | rfl
  ·exact h.1
  ·exact h.2
 ·subst hs;exact h
theorem Cm {c A B:Prop}[Decidable c](hc:c)(h:A):if c then A else B:=by
 rw [if_pos hc];exact h
theorem BY {c A B:Prop}[Decidable c](hc:¬ c)(h:B):if c then A else B:=by
 rw [if_neg hc];exact h
section
variable {X:Cx}
theorem FO:Ds X (.type "dict") (λxs H Q=>∃ a kvs,xs=[.ref a]/\Rd H a (.dK kvs)/\∀ p,H p=none->Q (.ref p) (upd H p (.dK kvs))):=by
 intro pins s σ H xs us Q I r h;obtain ⟨a,kvs,rfl,e,q⟩:=h;obtain ⟨u,rfl,ru⟩:=vals1 r;obtain rfl:u=Value.ref a:=ru;exact Sf I e λp s' hp I'=>⟨.ref p,_,I',rfl,q p hp⟩
end
theorem Sw [DecidableEq κ](kvs:List (κ × V))(k:κ)(v:V):(putK kvs k v).length<=kvs.length+1:=by
 unfold putK;split
 ·rw [ba];omega
 ·simp
theorem CG.put (h:CG H kvs m)(hv:B3 H t v):CG H (putK kvs (Sum.inl k:Key) v) (λj=>if j=k then some t else m j):=λj=>by
 rw [Ey];by_cases e:j=k
 ·subst e;rw [if_pos rfl];exact .inr ⟨v,t,rfl,if_pos rfl,hv⟩
 ·rw [if_neg (λz=>e (Sum.inl.inj z))];show (_/\(if j=k then some t else m j)=none)\/∃ v' t',_/\(if j=k then some t else m j)=some t'/\_
  rw [if_neg e];exact h j
theorem CG.nil:CG H [] (λ_=>none):=λ_=>.inl ⟨rfl,rfl⟩
end KS
namespace KM
noncomputable def prs:Kd->Kd->Option (List (Int × Kd))
 | .gap k,b=>some [(k,b)]
 | .num,.num=>some []
 | .tru,.tru=>some []
 | .ls a,.ls b=>prs a b
 | .fn a a',.fn b b'=>(prs a b).bind λx=>(prs a' b').map λy=>x++y
 | .pr a a',.pr b b'=>(prs a b).bind λx=>(prs a' b').map λy=>x++y
 | _,_=>none
noncomputable def HP (l:List (Int × Kd))(k:Int):Option Kd:=l.foldl (λm p=>if p.1=k then some p.2 else m) none
noncomputable def wd (a b:Kd):Bool:=match prs a b with
 | none=>false
 | some l=>l.all λp=>decide (HP l p.1=some p.2)
theorem Sx {α:Type}{x y:Option (List α)}{u v:List α}(h1:x=some u)(h2:y=some v):(x.bind λu=>y.map λv=>u++v)=some (u++v):=by
 rw [h1,h2];rfl
theorem Cv {m:Int->Option Kd}:∀ (a:Kd),∃ l,prs a (fill m a)=some l/\∀ p∈l,p.2=(m p.1).getD (.gap p.1)
 | .gap k=>⟨_,rfl,λp hp=>by rw [al.mp hp];rfl⟩
 | .num=>⟨[],rfl,λp hp=>by cases hp⟩
 | .tru=>⟨[],rfl,λp hp=>by cases hp⟩
 | .ls a=>Cv a
 | .fn a b=>by
  obtain ⟨x,h1,h2⟩:=Cv (m:=m) a;obtain ⟨y,h3,h4⟩:=Cv (m:=m) b;refine ⟨x++y,Sx h1 h3,λp hp=>?_⟩;rcases bn.mp hp with hp | hp
  ·exact h2 p hp
  ·exact h4 p hp
 | .pr a b=>by
  obtain ⟨x,h1,h2⟩:=Cv (m:=m) a;obtain ⟨y,h3,h4⟩:=Cv (m:=m) b;refine ⟨x++y,Sx h1 h3,λp hp=>?_⟩;rcases bn.mp hp with hp | hp
  ·exact h2 p hp
  ·exact h4 p hp
theorem HQ {α:Type}{x y:Option (List α)}{l:List α}(h:(x.bind λu=>y.map λv=>u++v)=some l):∃ u v,x=some u/\y=some v/\l=u++v:=by
 cases x with
 | none=>cases h
 | some u =>
  cases y with
  | none=>cases h
  | some v=>exact ⟨u,v,rfl,rfl,(ss h).symm⟩
inductive Mx:Kd->Kd->List (Int × Kd)->Prop
 | gap (k:Int) (b:Kd):Mx (.gap k) b [(k,b)]
 | num:Mx .num .num []
 | tru:Mx .tru .tru []
 | ls {a b:Kd} {l:List (Int × Kd)}:Mx a b l->Mx (.ls a) (.ls b) l
 | fn {a a' b b':Kd} {u v:List (Int × Kd)}:Mx a b u->Mx a' b' v->Mx (.fn a a') (.fn b b') (u++v)
 | pr {a a' b b':Kd} {u v:List (Int × Kd)}:Mx a b u->Mx a' b' v->Mx (.pr a a') (.pr b b') (u++v)
theorem Mx.of:∀ {b:Kd} {l:List (Int × Kd)},prs a b=some l->Mx a b l:=by
 induction a with
 | gap k=>intro b l h;cases h;exact .gap k b
 | num=>intro b l h;cases b <;> cases h;exact .num
 | tru=>intro b l h;cases b <;> cases h;exact .tru
 | ls a ih =>
  intro b l h;cases b with
  | ls b=>exact .ls (ih h)
  | _=>cases h
 | fn a a' ih Ql =>
  intro b l h;cases b with
  | fn b b' =>
   obtain ⟨u,v,h1,h2,rfl⟩:=HQ h;exact .fn (ih h1) (Ql h2)
  | _=>cases h
 | pr a a' ih Ql =>
  intro b l h;cases b with
  | pr b b' =>
   obtain ⟨u,v,h1,h2,rfl⟩:=HQ h;exact .pr (ih h1) (Ql h2)
  | _=>cases h
theorem Lp (a b:Kd)(l:List (Int × Kd))(h:prs a b=some l)(hm:∀ p∈l,(m p.1).getD (.gap p.1)=p.2):fill m a=b:=by
 replace h:=Mx.of h
 induction h with
 | gap k b=>exact hm (k,b) (al.mpr rfl)
 | num | tru=>rfl
 | ls _ ih=>exact congrArg Kd.ls (ih hm)
 | fn _ _ ih Ql=>show Kd.fn _ _=_;exact congr (congrArg Kd.fn (ih λp hp=>hm p (ee _ hp))) (Ql λp hp=>hm p (ir _ hp))
 | pr _ _ ih Ql=>show Kd.pr _ _=_;exact congr (congrArg Kd.pr (ih λp hp=>hm p (ee _ hp))) (Ql λp hp=>hm p (ir _ hp))
theorem Lq (k:Int):∀ (l:List (Int × Kd)) (m:Option Kd),l.foldl (λm p=>if p.1=k then some p.2 else m) m=m/\(∀ p∈l,p.1≠k)\/∃ p∈l,p.1=k/\l.foldl (λm p=>if p.1=k then some p.2 else m) m=some p.2
 | [],m=>.inl ⟨rfl,λp hp=>by cases hp⟩
 | q::l,m=>by
  rw [List.foldl_cons];rcases Lq k l (if q.1=k then some q.2 else m) with ⟨h1,h2⟩ | ⟨p,hp,h1,h2⟩
  ·by_cases e:q.1=k
   ·refine .inr ⟨q,Db,e,?_⟩;rw [h1,if_pos e]
   ·refine .inl ⟨by rw [h1,if_neg e],λp hp=>?_⟩;rcases gz.mp hp with rfl | hp
    ·exact e
    ·exact h2 p hp
  ·exact .inr ⟨p,Da _ hp,h1,h2⟩
theorem Jo (h:p∈l):∃ q∈l,q.1=p.1/\HP l p.1=some q.2:=by
 rcases Lq p.1 l none with ⟨_,h2⟩ | ⟨q,hq,h1,h2⟩
 ·exact absurd rfl (h2 p h)
 ·exact ⟨q,hq,h1,h2⟩
theorem Sy (a b:Kd):wd a b=true↔∃ m:Int->Option Kd,fill m a=b:=by
 unfold wd
 constructor
 ·intro h;cases e:prs a b with
  | none=>rw [e] at h;cases h
  | some l =>
   rw [e] at h;refine ⟨HP l,Lp a b l e λp hp=>?_⟩;have:=of_decide_eq_true (OP.mp h p hp);rw [this];rfl
 ·rintro ⟨m,rfl⟩;obtain ⟨l,e,hl⟩:=Cv (m:=m) a;rw [e];refine OP.mpr λp hp=>decide_eq_true ?_;obtain ⟨q,hq,h1,h2⟩:=Jo hp;rw [h2,hl q hq,hl p hp,h1]
theorem JY (a b:Kd)(l:List (Int × Kd))(h:prs a b=some l):l.length<=sz a:=by
 replace h:=Mx.of h
 induction h with
 | gap k b=>exact am _
 | num | tru=>exact mi _
 | ls _ ih=>exact Nat.le_succ_of_le ih
 | fn _ _ ih Ql | pr _ _ ih Ql=>rw [ca];exact Nat.le_succ_of_le (Nat.add_le_add ih Ql)
theorem Sz (a b:Kd)(l:List (Int × Kd))(h:prs a b=some l):∀ p∈l,dp p.2<=dp b:=by
 replace h:=Mx.of h
 induction h with
 | gap k b=>intro p hp;rw [al.mp hp];exact am _
 | num | tru=>intro p hp;cases hp
 | ls _ ih=>exact λp hp=>Nat.le_succ_of_le (ih p hp)
 | fn _ _ ih Ql | pr _ _ ih Ql =>
  intro p hp;rcases bn.mp hp with hp | hp
  ·have:=ih p hp;simp only [dp];omega
  ·have:=Ql p hp;simp only [dp];omega
noncomputable def app (acc l:List Int):List Int:=acc++l.filter λn=>decide (n∉acc)
noncomputable def gp:Kd->List Int
 | .gap k=>[k]
 | .ls a=>app [] (gp a)
 | .fn a b=>app (app [] (gp a)) (gp b)
 | .pr a b=>app (app [] (gp a)) (gp b)
 | _=>[]
theorem AQ (l:List Int):app [] l=l:=by
 unfold app;rw [List.nil_append,List.filter_eq_self];intro a _;simp
theorem AK:n∈app acc l↔n∈acc\/n∈l:=by
 unfold app;rw [bn,AT]
 constructor
 ·rintro (h | h)
  ·exact .inl h
  ·exact .inr h.1
 ·rintro (h | h)
  ·exact .inl h
  ·by_cases e:n∈acc
   ·exact .inl e
   ·exact .inr ⟨h,by simpa using e⟩
theorem Gg (h1:acc.Nodup)(h2:l.Nodup):(app acc l).Nodup:=by
 unfold app;rw [List.nodup_append];refine ⟨h1,h2.filter _,λa ha b hb e=>?_⟩;subst e;have:=(AT.mp hb).2;simp at this;exact this ha
theorem Jp (a b c:List Int):app (app a b) c=app a (app b c):=by
 unfold app;rw [OT,List.filter_filter,List.append_assoc]
 congr 2
 apply List.filter_congr;intro x _;by_cases h1:x∈a <;> by_cases h2:x∈b <;> simp [h1,h2]
theorem CH:∀ t:Kd,(gp t).Nodup
 | .gap k=>Ix.mpr ⟨by simp,SC⟩
 | .num=>SC
 | .tru=>SC
 | .ls a=>by show (app [] (gp a)).Nodup;rw [AQ];exact CH a
 | .fn a b=>by show (app (app [] (gp a)) (gp b)).Nodup;rw [AQ];exact Gg (CH a) (CH b)
 | .pr a b=>by show (app (app [] (gp a)) (gp b)).Nodup;rw [AQ];exact Gg (CH a) (CH b)
theorem JZ (acc l:List Int):(app acc l).length<=acc.length+l.length:=by
 unfold app;rw [ca];have:=AM (λn=>decide (n∉acc)) l;omega
theorem EE:∀ t:Kd,(gp t).length<=sz t
 | .gap k=>by simp [gp,sz]
 | .num=>by simp [gp,sz]
 | .tru=>by simp [gp,sz]
 | .ls a=>by have:=EE a;simp only [gp,AQ,sz];omega
 | .fn a b=>by have h1:=EE a;have h2:=EE b;have h3:=JZ (gp a) (gp b);simp only [gp,AQ,sz];omega
 | .pr a b=>by have h1:=EE a;have h2:=EE b;have h3:=JZ (gp a) (gp b);simp only [gp,AQ,sz];omega
theorem Cs {m m':Int->Option Kd}:∀ t:Kd,(∀ k∈gp t,fill m (.gap k)=fill m' (.gap k))->fill m t=fill m' t
 | .gap k,h=>h k (al.mpr rfl)
 | .num,_=>rfl
 | .tru,_=>rfl
 | .ls a,h=>by
  show Kd.ls (fill m a)=Kd.ls (fill m' a);rw [Cs a λk hk=>h k (by show k∈app [] (gp a);rw [AQ];exact hk)]
 | .fn a b,h=>by
  show Kd.fn (fill m a) (fill m b)=Kd.fn (fill m' a) (fill m' b);rw [Cs a λk hk=>h k (by show k∈app (app [] (gp a)) (gp b);rw [AQ];exact AK.mpr (.inl hk)),
   Cs b λk hk=>h k (by show k∈app (app [] (gp a)) (gp b);rw [AQ];exact AK.mpr (.inr hk))]
 | .pr a b,h=>by
  show Kd.pr (fill m a) (fill m b)=Kd.pr (fill m' a) (fill m' b);rw [Cs a λk hk=>h k (by show k∈app (app [] (gp a)) (gp b);rw [AQ];exact AK.mpr (.inl hk)),
   Cs b λk hk=>h k (by show k∈app (app [] (gp a)) (gp b);rw [AQ];exact AK.mpr (.inr hk))]
theorem VX (acc:List Int)(k:Int):app acc [k]=if k∈acc then acc else acc++[k]:=by
 unfold app;by_cases h:k∈acc <;> simp [h]
noncomputable def UX (ks:List Int)(k:Int):Option Kd:=if k∈ks then some (.gap (ks.idxOf k)) else none
noncomputable def CK (t:Kd):Kd:=fill (UX (gp t)) t
theorem OU (hf:∀ x y,x∈acc\/x∈l->y∈acc\/y∈l->f x=f y->x=y):app (acc.map f) (l.map f)=(app acc l).map f:=by
 unfold app;rw [wT,List.filter_map]
 congr 2
 apply List.filter_congr;intro x hx;have:f x∈acc.map f↔x∈acc:=by
  constructor
  ·intro h;obtain ⟨y,hy,e⟩:=ln.mp h;rw [<- hf y x (.inl hy) (.inr hx) e];exact hy
  ·exact Of
 simp only [Function.comp,this]
theorem Gh {f:Int->Int}{m:Int->Option Kd}:∀ t:Kd,(∀ k∈gp t,m k=some (.gap (f k)))->(∀ x∈gp t,∀ y∈gp t,f x=f y->x=y)->gp (fill m t)=(gp t).map f
 | .gap k,hm,_=>by
  show gp ((m k).getD (.gap k))=_;rw [hm k (al.mpr rfl)];rfl
 | .num,_,_=>rfl
 | .tru,_,_=>rfl
 | .ls a,hm,hf=>by
  have e:gp (.ls a)=gp a:=AQ _;rw [e] at hm hf ⊢;show app [] (gp (fill m a))=_;rw [AQ,Gh a hm hf]
 | .fn a b,hm,hf=>by
  have e:gp (.fn a b)=app (gp a) (gp b):=by show app (app [] (gp a)) (gp b)=_;rw [AQ]
  rw [e] at hm hf ⊢;show app (app [] (gp (fill m a))) (gp (fill m b))=_;rw [AQ,Gh a (λk hk=>hm k (AK.mpr (.inl hk))) (λx hx y hy=>hf x (AK.mpr (.inl hx)) y (AK.mpr (.inl hy))),
   Gh b (λk hk=>hm k (AK.mpr (.inr hk))) (λx hx y hy=>hf x (AK.mpr (.inr hx)) y (AK.mpr (.inr hy)))]
  exact OU λx y hx hy=>hf x (AK.mpr hx) y (AK.mpr hy)
 | .pr a b,hm,hf=>by
  have e:gp (.pr a b)=app (gp a) (gp b):=by show app (app [] (gp a)) (gp b)=_;rw [AQ]
  rw [e] at hm hf ⊢;show app (app [] (gp (fill m a))) (gp (fill m b))=_;rw [AQ,Gh a (λk hk=>hm k (AK.mpr (.inl hk))) (λx hx y hy=>hf x (AK.mpr (.inl hx)) y (AK.mpr (.inl hy))),
   Gh b (λk hk=>hm k (AK.mpr (.inr hk))) (λx hx y hy=>hf x (AK.mpr (.inr hx)) y (AK.mpr (.inr hy)))]
  exact OU λx y hx hy=>hf x (AK.mpr hx) y (AK.mpr hy)
theorem VY {ks:List Int}:∀ x∈ks,∀ y∈ks,((ks.idxOf x:Nat):Int)=((ks.idxOf y:Nat):Int)->x=y:=λx hx y hy e=>by
 have e':ks.idxOf x=ks.idxOf y:=by omega
 have h1:ks[ks.idxOf x]?=some x:=by
  rw [ap (List.idxOf_lt_length_of_mem hx),List.getElem_idxOf]
 have h2:ks[ks.idxOf y]?=some y:=by
  rw [ap (List.idxOf_lt_length_of_mem hy),List.getElem_idxOf]
 rw [e',h2] at h1;exact (ss h1).symm
theorem Qm {ks:List Int}(h:ks.Nodup):ks.map (λk=>((ks.idxOf k:Nat):Int))=(List.range ks.length).map (λi:Nat=>(i:Int)):=by
 refine List.ext_getElem? λi=>?_;rw [jp,jp];by_cases hi:i < ks.length
 ·rw [ap hi,List.getElem?_range hi];simp only [Option.map_some];rw [h.idxOf_getElem i hi]
 ·rw [OE (),OE (by simp;omega)];rfl
theorem J' (h:k∈ks):UX ks k=some (.gap (ks.idxOf k)):=if_pos h
theorem Lr (t:Kd):gp (CK t)=(List.range (gp t).length).map (λi:Nat=>(i:Int)):=by
 unfold CK;rw [Gh (f:=λk=>((gp t).idxOf k:Nat)) t (λk hk=>J' hk) VY];exact Qm (CH t)
theorem Ls (t:Kd):CK (CK t)=CK t:=by
 have e:=Lr t;show fill (UX (gp (CK t))) (CK t)=CK t;rw [e]
 conv=>rhs;rw [<- Dr (CK t)]
 refine Cs _ λk hk=>?_;rw [e] at hk;show (UX _ k).getD (.gap k)=Kd.gap k;rw [J' hk];obtain ⟨i,hi,rfl⟩:=ln.mp hk;have K0:i < (gp t).length:=FB.mp hi;have e2:((List.range (gp t).length).map (λi:Nat=>(i:Int))).idxOf (i:Int)=i:=by
  have nd:((List.range (gp t).length).map (λi:Nat=>(i:Int))).Nodup:=by rw [<- e];exact CH _
  have h3:=nd.idxOf_getElem i (by simpa using K0);simpa using h3
 rw [e2];rfl
end KM
namespace PySem
namespace F
theorem aam:entryFor table "list.__getattribute__"=some Builtin.«object.__getattribute__» :=
 entryFor_alias (id':="object.__getattribute__") (by kernel_rfl) (by decide +kernel) (by decide +kernel) (by kernel_rfl)
theorem aag:typeLookup (.type "list") "__getattr__"=pure none:=by rw [typeLookup_type,OF];kernel_rfl
theorem aat:typeLookup (.type "list") "keys"=pure none:=by rw [typeLookup_type,OF];kernel_rfl
theorem aai:entryFor table "dict.update.loop"=some Builtin.«dict.update.loop»:=entryFor_of_tree (by kernel_rfl)
theorem aac:plainId "dict.update.loop"=true:=by decide +kernel
end F
theorem VZ (a:Addr)(items:Array Value)(n:Nat)(sl:Array (Option Value))(u:Tok)(hsz:("keys":Str).length+100<=sizeLine:=by size_fits):
  Meets (Builtin.«object.__getattribute__» ⟨[.ref a,.str "keys" u],[]⟩) (λA R s=>s.heap.get? a=some ⟨.type "list",none,.seq items n,sl⟩/\raisesAttr (.ref a) "keys" A R s) :=
 Meets.of_wp λprog w A R s hs=>by
  obtain ⟨hp,g,d,tk,os⟩:=s;obtain ⟨hl,hs⟩:=hs;have hT:(⟨hp,g,d,tk,os⟩:Shared).TypeIs (.ref a) "list":=⟨_,hl,rfl⟩;have f1:=F.aat;unfold Builtin.«object.__getattribute__»
  repeat (any_goals (first | assumption | wp_step))
  exact wpAny_raiseAttrError hs.1 hs.2 (attrMsg_fits (by decide +kernel) hsz)
section
variable {prog:Program}{w:World}{A:Around}{E:Value->Shared->Prop}{s:Shared}
theorem Qn (hA:A.handled=none)(hl:s.heap.get? a=some ⟨.type "list",none,.seq items n,sl⟩)(h:∀ h' tk,(∀ b o,s.heap.get? b=some o->h'.get? b=some o)->Q none { s with heap:=h',toks:=tk }):wpAny (model prog w) A (getAttr? (.ref a) "keys") Q E s:=by
 obtain ⟨hp,g,d,tk,os⟩:=s;have hT:(⟨hp,g,d,tk,os⟩:Shared).TypeIs (.ref a) "list":=⟨_,hl,rfl⟩;have f1:=sub_AttributeError;have f3:=F.slot_list_getattribute.lookup;have f4:=F.slot_list_getattribute.bind (.ref a);have f5:=F.aag;unfold getAttr? getAttrBy? getAttrBy
 repeat (any_goals (first | assumption | ((with_reducible show wpAny _ _ (call (Value.builtin "list.__getattribute__") _ _) _ _ _);refine call_meets F.slot_list_getattribute ⟨_,hl,rfl⟩ F.aam (F.args_list_getattribute_2 _ _) (VZ a items n sl _) ⟨hl,hA,λh' pW e hx=>?_⟩) | wp_step))
 obtain ⟨t',u',he⟩:=hx.there;show wpAny _ _ (getattributeRaised _ _ _ _ _ _ _) _ _ _;unfold getattributeRaised
 repeat (any_goals (first | assumption | wp_step))
 all_goals exact h _ _ hx.keeps
noncomputable def Nj {K:Type}[DecidableEq K](key:Nat->K)(vu:Nat->Value):Nat->List (K × Value)
 | 0=>[]
 | i+1=>stored (Nj key vu i) (key i) (vu i)
theorem Lu {K:Type}[DecidableEq K](key:Nat->K)(vu:Nat->Value):∀ i,(Nj key vu i).length<=i
 | 0=>am _
 | i+1=>by
  have ih:=Lu key vu i;show (stored _ _ _).length<=_;unfold stored;split
  ·rw [ba];omega
  ·rw [ca,OC];omega
theorem V' {K:Type}[DecidableEq K]{knd:KeyKind prog w K}{R:Result->Shared->Prop}{I:Addr}{fp wr:List Addr}{G:Array GenState->Array GenState->Prop}{n:Nat}{P:Nat->Value->Prop}{St:Nat->Shared->Prop}
  (W:WalksS prog w A.in1 I fp wr G n P St) (D:Addr) (hDf:D∉fp) (ps:Nat->Addr) (key:Nat->K) (ku vu:Nat->Value) (hP:∀ i v,P i v->v=.ref (ps i)) (hk:∀ i,i < n->knd.is (key i) (ku i)=true)
  (hD:∀ i,i < n->ps i≠D) (hw:∀ i,i < n->ps i∉wr) (hz:n<=sizeLine) :
  ∀ (k i:Nat) (s:Shared) (z:Int) (tz:Tok),n - i=k->i<=n->St i s->(∀ j,j < n->PyProof.Rows.IsTup s.heap (ps j) #[ku j,vu j])->s.heap.DictOf knd D (Nj key vu i) ->
   (∀ s',Moved (D::wr) G s s'->s'.heap.DictOf knd D (Nj key vu n)->R (.ok (.ret .none)) s') ->
   codeAny (model prog w) A (.builtin "dict.update.loop" ⟨[.ref D,.ref I,.int z tz,.none],[]⟩) R s:=by
 have hDw:D∉wr:=λh=>hDf (W.sub _ h);have ZY:∀ b∈wr,b∈D::wr:=λb hb=>Da _ hb;have dmv:∀ {s s':Shared} {kvs:List (K × Value)},Moved wr G s s'->s.heap.DictOf knd D kvs->s'.heap.DictOf knd D kvs:=λ{s s' kvs} hm hd=>by
  obtain ⟨o,es,ep,ho,r⟩:=hd;exact ⟨o,es,ep,hm.heap D _ hDw ho,r⟩
 intro k
 induction k with
 | zero =>
  intro i s z tz hk' hi JJ hT hS hR;obtain rfl:i=n:=by omega
  refine codeAny_builtin F.aai ?_;rw [PM F.aac _];show wpAny _ A.in1 (pyNext (.ref I) >>= _) _ _ s;refine aa (W.done s _ _ JJ λs' hm=>?_);show wpAny _ A.in1 (Builtin.Dict.addKeywords D [] >>= λ_=>ret Value.none) _ _ s';exact aa (bv (bv (hR s' (hm.mono ZY) (dmv hm hS))))
 | succ k ih =>
  intro i s z tz hk' hi JJ hT hS hR;have CV:i < n:=by omega
  refine codeAny_builtin F.aai ?_;rw [PM F.aac _];show wpAny _ A.in1 (pyNext (.ref I) >>= _) _ _ s;refine aa (W.item i s _ _ CV JJ λv s' hv tI hm=>?_);obtain rfl:=hP i v hv;have Lv:=dmv hm hS;have ZZ:∀ j,j < n->PyProof.Rows.IsTup s'.heap (ps j) #[ku j,vu j]:=λj hj=>by
   obtain ⟨o,ho,r⟩:=hT j hj;exact ⟨o,hm.heap _ _ (hw j hj) ho,r⟩
  show wpAny _ A.in1 (holding [Value.ref (ps i)] _ >>= λ_=>again _) _ _ s';refine aa (Go (aa (wpAny_tryCatch ?_)));obtain ⟨o,ho,hc,m,hd⟩:=ZZ i CV;unfold Builtin.Dict.pairItems;refine aa (wpAny_typeOf (T:="tuple") ⟨o,ho,hc⟩ ?_);rw [if_pos ⟨⟩];refine aa (Ch ho hd (bv ?_));show wpAny _ A.in1 (holding [ku i,vu i] (dictSet D (ku i) (vu i))) _ _ s';refine Go (wpAny_dictSet_pairs (hk i CV) Lv (λh' Rv Qo=>?_) (ce (Lu key vu i) ()));refine bv ⟨KF F.aac _,ih (i+1) _ _ _ () CV (W.frame _ s' _ _ tI (IR _) λb hb o e=>?_) (λj hj=>?_) Rv λOu tJ tK=>?_⟩
  ·exact (Qo.2 b (λq:b=D=>hDf (by rw [<- q];exact hb))).trans e
  ·obtain ⟨o,ho,r⟩:=ZZ j hj;exact ⟨o,(Qo.2 _ (hD j hj)).trans ho,r⟩
  ·refine hR Ou (Moved.trans W.gtrans ((hm.mono ZY).then_heap (IR _) λb o hb e=>?_) tJ) tK;exact (Qo.2 b (λq:b=D=>hb (by rw [q];exact Db))).trans e
theorem W2 {K:Type}[DecidableEq K]{knd:KeyKind prog w K}{l:Addr}{items:Array Value}{n0:Nat}{sl:Array (Option Value)}{Q:Value->Shared->Prop}(hh:A.handled=none)(hl:s.heap.get? l=some ⟨.type "list",none,.seq items n0,sl⟩)
  (ps:Nat->Addr) (key:Nat->K) (ku vu:Nat->Value) (hP:∀ (i:Nat) (v:Value),items[i]?=some v->v=Value.ref (ps i)) (hk:∀ i,i < items.size->knd.is (key i) (ku i)=true) (hT:∀ j,j < items.size->PyProof.Rows.IsTup s.heap (ps j) #[ku j,vu j]) (hz:items.size<=sizeLine)
  (h:∀ h' tk,h'.DictOf knd s.heap.objs.size (Nj key vu items.size)->(∀ b o,s.heap.get? b=some o->h'.get? b=some o)->Q (.ref s.heap.objs.size) { s with heap:=h',toks:=tk }) :
  wpAny (model prog w) A (call (.type "dict") [.ref l]) Q E s:=by
 refine callType_codes (Q₁:=λobj s₁=>obj=.ref s.heap.objs.size/\s₁={ s with heap:=s.heap.push { cls:=.type "dict",data:=.dict #[] } }) F.kt_called_dict (F.kt_typeCall_dict_1 _) F.entry_dict_init (kt_code_dict_new _ ⟨rfl,rfl⟩) ?_;rintro obj s₁ ⟨rfl,rfl⟩;have a8:(s.heap.push { cls:=.type "dict",data:=.dict #[] }).DictOf knd s.heap.objs.size []:=Heap.DictOf.new s.heap;have CB:(s.heap.push { cls:=.type "dict",data:=.dict #[] }).get? l=some ⟨.type "list",none,.seq items n0,sl⟩:=ac _ hl;refine ⟨a8.typeIs,F.args_dict_init_2 _ _,?_⟩;unfold Builtin.«dict.__init__»;refine aa ?_;unfold Builtin.Dict.selfAndRest;refine aa (wpAny_notOrdered_dict a8.typeIs ?_);show wpAny _ _ (pure (s.heap.objs.size,[Value.ref l])) _ _ _;refine bv ?_;show wpAny _ _ (Builtin.Dict.updateFrom "dict.__init__" s.heap.objs.size (.ref l) [] .none) _ _ _;unfold Builtin.Dict.updateFrom;refine aa (wpAny_typeOf (T:="list") ⟨_,CB,rfl⟩ ?_);rw [if_pos ⟨⟩];refine aa (Qn hh CB λh2 tk2 k2=>?_);rw [if_pos ⟨⟩];refine aa (wpAny_rule ?_);have D9:h2.IsList l items:=⟨_,k2 _ _ CB,rfl,n0,rfl⟩;refine aa (wpAny_pyIter_list (s:={ s with heap:=h2,toks:=tk2 }) D9 ?_);have big:s.heap.objs.size < h2.objs.size:=ii (k2 s.heap.objs.size _ (io _ rfl));have CV:l < s.heap.objs.size:=ii hl;have Er:∀ j,j < items.size->ps j < s.heap.objs.size:=λj hj=>let ⟨o,ho,_⟩:=hT j hj;ii ho;have W0:=(Walks.list (prog:=prog) (w:=w) (A:=A.in1.in1) (show A.in1.in1.handled=none from hh) h2.objs.size l (dL (Nat.lt_trans CV big)) items).toS;refine bv ⟨KF F.aac _,V' (knd:=knd) W0 s.heap.objs.size ?_ ps key ku vu hP hk (λj hj=>dL (Er j hj)) (λj hj=>?_) hz
  items.size 0 _ _ _ rfl (mi _) ⟨⟨_,io _ rfl,rfl,rfl⟩,D9.push _⟩ (λj hj=>?_) ?_ λs' hm hd=>?_⟩
 ·simp only [gz,AD,or_false,not_or];exact ⟨dL big,Nat.ne_of_gt CV⟩
 ·simp only [gz,AD,or_false];exact dL (Nat.lt_trans (Er j hj) big)
 ·obtain ⟨o,ho,r⟩:=hT j hj;exact ⟨o,ac _ (k2 _ _ (ac _ ho)),r⟩
 ·obtain ⟨o,es,ep,ho,r⟩:=a8;exact ⟨o,es,ep,ac _ (k2 _ _ ho),r⟩
 ·obtain ⟨h',g',d',pW,sF⟩:=s';have eg:g'=s.gens:=hm.gens;have ed:d'=s.drawn:=hm.drawn;have eo:sF=s.os:=hm.os;subst eg ed eo;refine ⟨rfl,h h' pW hd λb o e=>?_⟩;have hb:=ii e;refine hm.heap b o ?_ (ac _ (k2 _ _ (ac _ e)));simp only [gz,AD,or_false,not_or];exact ⟨dL hb,dL (Nat.lt_trans hb big)⟩
end
end PySem
namespace KS
open PySem PySem.Spec PyProof.Rows L2 KM
noncomputable def putAll (prs:List (Addr × Key × V)):List (Key × V):=prs.foldl (λm p=>putK m p.2.1 p.2.2) []
theorem putAll_snoc (a:List (Addr × Key × V))(p:Addr × Key × V):putAll (a++[p])=putK (putAll a) p.2.1 p.2.2:=by
 unfold putAll;rw [List.foldl_append];rfl
theorem Nk (prs:List (Addr × Key × V)):(putAll prs).length<=prs.length:=by
 have:∀ (prs:List (Addr × Key × V)) (m:List (Key × V)),(prs.foldl (λm p=>putK m p.2.1 p.2.2) m).length<=m.length+prs.length:=by
  intro prs
  induction prs with
  | nil=>intro m;simp
  | cons p r ih =>
   intro m;have h1:=ih (putK m p.2.1 p.2.2);have h2:=Sw m p.2.1 p.2.2;simp only [List.foldl_cons,sB];omega
 have:=this prs [];simpa [putAll] using this
theorem Yo {prs:List (Addr × Key × V)}{vu:Nat->Value}(hv:∀ (j:Nat) p,prs[j]?=some p->RelV p.2.2 (vu j)){key:Nat->Key}(hk:∀ (j:Nat) p,prs[j]?=some p->p.2.1=key j):
  ∀ i,i<=prs.length->KV (putAll (prs.take i)) (Nj key vu i)
 | 0,_=>.nil
 | i+1,h=>by
  have ih:=Yo hv hk i ();have e:prs[i]?=some (prs[i]'()):=ap ();rw [wP,e];show KV (putAll (prs.take i++[prs[i]])) (stored (Nj key vu i) (key i) (vu i));rw [putAll_snoc,<- hk i _ e];exact ih.put _ (hv i _ e)
section
variable {X:Cx}
theorem IQ (hc:X.calm=true):Ds X (.type "dict") (λxs H Q=>∃ (l:Addr) (prs:List (Addr × Key × V)),xs=[.ref l]/\H l=some (.lst (prs.map λp=>V.ref p.1))/\(∀ p∈prs,H p.1=some (.tup [kV p.2.1,p.2.2]))/\∀ d,H d=none->Q (.ref d) (upd H d (.dK (putAll prs)))):=by
 intro pins s σ H xs us Q I r h;obtain ⟨l,prs,rfl,hl,hp,q⟩:=h;obtain ⟨u,rfl,ru⟩:=vals1 r;obtain rfl:u=Value.ref l:=ru;obtain ⟨hz,its,n0,rv,e⟩:=(show B6 X.prog X.w H s.heap l (.lst (prs.map λp=>V.ref p.1)) from I.hok l _ hl);rw [ba] at hz;have hlen:=rv.length;rw [ba] at hlen;have hT:∀ j,j < prs.length->∃ ku vu,∀ p,prs[j]?=some p->IsTup s.heap p.1 #[ku,vu]/\RelV (kV p.2.1) ku/\RelV p.2.2 vu:=λj hj=>by
  have e1:prs[j]?=some (prs[j]'hj):=ap hj;obtain ⟨_,JO,r2,o,h1,h2,m,h3⟩:=(show B6 X.prog X.w H s.heap (prs[j]'hj).1 (.tup [kV (prs[j]'hj).2.1,(prs[j]'hj).2.2]) from I.hok _ _ (hp _ (List.getElem_mem hj)));obtain ⟨ku,vu,rfl,rk,rvv⟩:=vals2 r2;refine ⟨ku,vu,λp ep=>?_⟩;rw [e1] at ep;cases ep;exact ⟨⟨o,h1,h2,m,h3⟩,rk,rvv⟩
 let ku:Nat->Value:=λj=>if h:j < prs.length then Classical.choose (hT j h) else .none
 let vu:Nat->Value:=λj=>if h:j < prs.length then Classical.choose (Classical.choose_spec (hT j h)) else .none
 have UY:∀ (j:Nat) p,prs[j]?=some p->IsTup s.heap p.1 #[ku j,vu j]/\RelV (kV p.2.1) (ku j)/\RelV p.2.2 (vu j):=λj p ep=>by
  have hj:j < prs.length:=(cr.mp ep).1;have z:=Classical.choose_spec (Classical.choose_spec (hT j hj)) p ep;have e1:ku j=Classical.choose (hT j hj):=dif_pos hj;have e2:vu j=Classical.choose (Classical.choose_spec (hT j hj)):=dif_pos hj;rw [e1,e2];exact z
 let ps:Nat->Addr:=λj=>(prs[j]?.map (·.1)).getD 0
 let key:Nat->Key:=λj=>(prs[j]?.map (·.2.1)).getD (Sum.inl 0)
 have jD:∀ (j:Nat) p,prs[j]?=some p->ps j=p.1:=λj p ep=>by
  show (prs[j]?.map (·.1)).getD 0=_;rw [ep];rfl
 have Vn:∀ (j:Nat) p,prs[j]?=some p->key j=p.2.1:=λj p ep=>by
  show (prs[j]?.map (·.2.1)).getD _=_;rw [ep];rfl
 have a9:its.toArray.size=prs.length:=by rw [f8,hlen]
 refine W2 (knd:=B1 X.prog X.w) (I.ok.hd hc) e ps key ku vu (λi v hv=>?_) (λi hi=>?_) (λi hi=>?_) () λh' tk hd hk=>?_
 ·have Rm:its[i]?=some v:=by simpa using hv
  have hi:i < its.length:=(cr.mp Rm).1;have e1:prs[i]?=some (prs[i]'()):=ap ();have e2:(prs.map λp=>V.ref p.1)[i]?=some (V.ref (prs[i]'()).1):=by rw [jp,e1];rfl
  obtain ⟨u,hu,ru⟩:=rv.get e2;rw [Rm] at hu;cases hu;rw [jD i _ e1];exact ru
 ·have K0:i < prs.length:=by omega
  have e1:prs[i]?=some (prs[i]'K0):=ap K0;rw [Vn i _ e1];exact F9 (UY i _ e1).2.1
 ·have K0:i < prs.length:=by omega
  have e1:prs[i]?=some (prs[i]'K0):=ap K0;rw [jD i _ e1];exact (UY i _ e1).1
 ·rw [a9] at hd;have kv:=Yo (prs:=prs) (vu:=vu) (λj p ep=>(UY j p ep).2.2) (key:=key) (λj p ep=>(Vn j p ep).symm) prs.length (am _);rw [sK] at kv;have hn:H s.heap.objs.size=none:=I.hok.fresh (am _);exact ⟨.ref _,_,I.laid (a:=s.heap.objs.size) (o:=.dK (putAll prs)) (t':=tk) hk (am _) (JT (ce (Nk prs) hz) (beq_eq_false_iff_ne.mpr (be (dL I.big))) kv hd),rfl,q _ hn⟩
end
end KS
namespace L2
open PySem PySem.Spec PyProof.Rows
section
variable {g:TG}{tt:TT}{te:TE}{σ:St}{Fin:List V->Hp->Prop}
theorem Cw {K:W.Frag}{a:Addr}{xs:List V}{H:Hp}(Pv:Nat->List V->Hp->Prop)(h0:Pv 0 [] H)(hl:∀ i ys H,Pv i ys H->AI K H a xs)(hn:xs.length < sizeLine)
  (hy:∀ i ys H,Pv i ys H->ys.length<=i)
  (hs:∀ i x ys H,xs[i]?=some x->Pv i ys H->g x σ H fun σ2 H2=>Ext σ σ2/\tt σ2 H2 λb H3=>if b=true then te σ2 H3 λy H4=>Pv (i+1) (ys++[y]) H4 else Pv (i+1) ys H3)
  (mg:∀ x σ H Q Q',(∀ σ' H',Q σ' H'->Q' σ' H')->g x σ H Q->g x σ H Q') (mt:∀ σ H Q Q',(∀ b H',Q b H'->Q' b H')->tt σ H Q->tt σ H Q') (me:∀ σ H Q Q',(∀ v H',Q v H'->Q' v H')->te σ H Q->te σ H Q')
  (hd:∀ ys H,Pv xs.length ys H->Fin ys H):De (Rj K a) H σ g tt te Fin:=by
 refine ⟨λi m ys H=>m=xs.length - i/\i<=xs.length/\Pv i ys H,⟨xs.length,by simp,mi _,h0⟩,?_⟩;rintro i m ys H ⟨rfl,hi,p⟩;have q:=hl i ys H p;have hyl:=hy i ys H p;refine ⟨(),?_⟩;by_cases CV:i < xs.length
 ·refine .inr ⟨⟨xs,xs[i],q,by simp [CV]⟩,(),λx H' y=>?_⟩;obtain ⟨e,y⟩:=y;subst e;refine mg _ _ _ _ _ (fun σ2 H2 z=>⟨z.1,mt _ _ _ _ (λb H3 z=>?_) z.2⟩) (hs i x ys _ (y xs q) p);cases b with
  | true=>exact me _ _ _ _ (λy H4 z=>⟨xs.length - (i+1),(),rfl,CV,z⟩) z
  | false=>exact ⟨xs.length - (i+1),(),rfl,CV,z⟩
 ·have e:i=xs.length:=by omega
  subst e;exact .inl ⟨⟨xs,q,am _⟩,hd ys H p⟩
end
section
variable {X:Cx}
noncomputable def Lw (ta:TA):TE:=fun σ H Q=>ta σ H λvs H1=>∃ n:Nat,vs=[.int n]/\n<=1000000/\∀ l,H1 l=none->Q (.ref l) (upd H1 l (.lst ((List.range n).map λi:Nat=>V.int i)))
theorem Nl (hc:X.calm=true)(SH:Gl X "list")(SJ:X.mg "list"=none)(af:Gl X "range")(ag:X.mg "range"=none)(ha:PA X [a] ta)(hs:starEach [a] X.env=[(false,eval a X.env)]:=by rfl)(he:starEach [.Call (.Name "range" p2) [a] [] Ct] X.env=(false,eval (.Call (.Name "range" p2) [a] [] Ct) X.env)::starEach [] X.env:=by rfl) :
  PE X (.Call (.Name "list" p1) [.Call (.Name "range" p2) [a] [] Ct] [] FP) (Lw ta):=by
 intro pins s σ H Q I h;refine FS (CU I SH SJ boot_list ?_);refine u8 ?_ he rfl;rw [he];show wpAny _ _ (spliced ((false,eval (.Call (.Name "range" p2) [a] [] Ct) X.env)::backTo FP (starEach [] X.env))) _ _ s;refine OK ?_;refine Call_ (CU I af ag boot_range (u8 (Bc (ha Ct pins s σ H _ I h) λus s1 q1=>?_) hs rfl));obtain ⟨vs,H1,I1,r1,n,rfl,hn,q⟩:=q1;obtain ⟨u,rfl,ru⟩:=vals1 r1;obtain ⟨t,rfl⟩:=ru;refine call_range_1 ?_;refine Calls.spliced_nil ?_;have I2:Inv X pins σ H1 { s1 with heap:=s1.heap.push { cls:=.type "range",data:=.fields #[.int 0 s1.toks,.int n t,.int 1 (s1.toks+1)] },toks:=s1.toks+1+1 }:=I1.kept λb o z=>ac _ z;refine call_list_range (I.ok.hd hc) (IsRange.new ..) (small_one () () () ()) (n:=n) (by rw [rangeSize_one];split <;> omega) () λh' tk acc c hk hS hA=>?_;have nS:H1 (s1.heap.push { cls:=.type "range",data:=.fields #[.int 0 s1.toks,.int n t,.int 1 (s1.toks+1)] }).objs.size=none:=I2.hok.fresh (am _);have hb:=Sc;refine ⟨.ref _,_,I2.laid (o:=.lst ((List.range n).map λi:Nat=>V.int i)) (t':=tk) hk (am _) ⟨by rw [ba,List.length_range];omega,acc.toList,c,?_,by simpa using hS⟩,rfl,q _ nS⟩;have key:∀ (k:Nat) (us:List Value),us.length=k->(∀ (i:Nat) u,us[i]?=some u->∃ t,u=.int (i:Int) t)->Vals ((List.range k).map λi:Nat=>V.int i) us:=by
  intro k
  induction k with
  | zero=>intro us h1 _;cases us with | nil=>exact .nil | cons _ _=>simp at h1
  | succ k ih =>
   intro us h1 h2;rw [List.range_succ,wT];have hk:k < us.length:=(by omega);have e:us=us.take k++[us[k]]:=by
    have:=List.take_append_getElem hk;rw [this,List.take_of_length_le ()]
   rw [e];refine Vals.append (ih _ (by rw [pc];omega) λi u hu=>?_) (.cons ?_ .nil)
   ·rw [List.getElem?_take] at hu;split at hu
    ·exact h2 i u hu
    ·cases hu
   ·exact h2 k _ (ap hk)
 refine key n acc.toList (by rw [Array.length_toList];exact hA.1) λi u hu=>?_;obtain ⟨t',e⟩:=hA.2 i u (by simpa using hu);exact ⟨t',by rw [e];simp⟩
end
structure pX (X:Cx)(tg:List Expr)(g:US):Prop where out:j4 X tg g
section
variable {X:Cx}{a b e:Expr}{es:List Expr}{ta tb:TE}{p1 p2 pos FP Ct:Pos}
theorem Qp (hc:X.calm=true)(SH:Gl X "list")(SJ:X.mg "list"=none)(af:Gl X "range")(ag:X.mg "range"=none)(ha:SA X [a] t)(hs:starEach [a] X.env=[(false,eval a X.env)]:=by rfl)(he:starEach [.Call (.Name "range" p2) [a] [] Ct] X.env=(false,eval (.Call (.Name "range" p2) [a] [] Ct) X.env)::starEach [] X.env:=by rfl) :
  SE X (.Call (.Name "list" p1) [.Call (.Name "range" p2) [a] [] Ct] [] FP) (Lw t):=⟨Nl hc SH SJ af ag ha.out hs he⟩
theorem EF (hu:X.A.units+1 < cLine)(ha:SE X a ta)(hb:SE X b tb)(hm:behindInMarks .NotIn b=false:=by rfl):ST X (.Compare a [.NotIn] [b] pos) (tB (He ta tb)):=⟨Ry (Qd hu ha.out hb.out) hm⟩
theorem SK (hu:X.A.units+1 < cLine)(ha:SE X a ta)(hb:SE X b tb)(hm:behindInMarks .In b=false:=by rfl):ST X (.Compare a [.In] [b] pos) (tB (ZM ta tb)):=⟨Ry (ZN hu ha.out hb.out) hm⟩
theorem Gi:pX X [] RE:=⟨Vg⟩
theorem Co (h1:SG X e t)(h2:pX X es u)(hs:(assignEach (e::es) X.env).map (·.2)=assign e X.env::(assignEach es X.env).map (·.2):=by rfl):pX X (e::es) (GA t u):=⟨RF h1.out h2.out hs⟩
theorem Jq (hc:X.calm=true)(h:pX X es t)(hn:(assignEach es X.env).length=n:=by rfl)(JJ:(assignEach es X.env).findIdx? (·.1)=none:=by rfl):SG X (.Tuple es k pos) (RG X.K n t):=⟨Ze hc h.out hn JJ⟩
theorem HR (hN:X.N.Nodup)(hy:X.N[i]?=some y)(hx:Loc X.env.scope y)(S:B7 X scope cl own fr js)(Fc:X.calm=true)(hi:SI X tg iter wi)(hg:∀ C s0 H0 ex,SG (X.cmp scope cl own fr C s0 H0 ex) tg g)(ht:∀ C s0 H0 ex,SF (X.cmp scope cl own fr C s0 H0 ex) ifs tt)(he:∀ C s0 H0 ex,SE (X.cmp scope cl own fr C s0 H0 ex) elt te)(sY:swapsWith (.ListComp elt [⟨tg,iter,ifs,0⟩] scope pos) (some (.Name y py)) Sh.line X.env=pure true:=by rfl)(hf:X.fn y=true\/X.env.scope.names.lookup y=some .local:=by exfalso)(hs:∀ x,foldedSetIterable iter X.env x=pure x:=by intro _;rfl):SS X (.Assign [.Name y py] (.ListComp elt [⟨tg,iter,ifs,0⟩] scope pos) Sh) (Nf i own js wi g tt te) :=
 ⟨VM hN hy hx S Fc hi.out (λC s0 H0 ex=>(hg C s0 H0 ex).out) (λC s0 H0 ex=>(ht C s0 H0 ex).out) (λC s0 H0 ex=>(he C s0 H0 ex).out) sY hf hs⟩
end
section
variable {X:Cx}{pins:List (Addr × Obj)}{σ:St}{H:Hp}{s:Shared}{d:Addr}{o:Obj}{kvs:List (Key × V)}
theorem Lx (x:DM P w H h)(hd:H d=some u)(hm:∀ xs,u≠.tup xs)(ho:∀ y,u≠.own y)(Rv:B6 P w (upd H d u') h d u'):DM P w (upd H d u') h:=λb v e=>by
 by_cases hb:b=d
 ·subst hb;rw [Ad] at e;cases e;exact Rv
 ·rw [Ac hb] at e;refine (x b v e).aa0 (λ_ _ _ q=>q) (λc q=>?_) λc xs q=>?_
  ·rw [Ac (λz=>by rw [z,hd] at q;exact ho _ (ss q))];exact q
  ·rw [Ac (λz=>by rw [z,hd] at q;exact hm _ (ss q))];exact q
theorem Inv.freeze (I:Inv X pins σ H s)(hd:H d=some (.dK kvs))(ho:s.heap.get? d=some o):Inv X pins σ (upd H d (.frz o (.dK kvs))) s:=by
 have ne:∀ b u,H b=some u->(u≠.dK kvs)->b≠d:=λb u q n z=>by rw [z,hd] at q;exact n (ss q).symm
 have:=I.un (t':=s.toks) (H':=upd H d (.frz o (.dK kvs))) (h':=s.heap) ⟨λb v e _ _ _=>e,λb v e _ _ _=>⟨v.slots,e⟩,λb v e n _=>?_,λb v e _=>⟨v,e⟩,λb xs q=>?_,λb v u q=>?_,λb ps q=>⟨#[],?_⟩⟩ (Lx I.hok hd (λ_ z=>by cases z) (λ_ z=>by cases z) ⟨ho,?_⟩)
 ·exact this
 ·rw [Ac (λz=>by rw [z,hd] at n;cases n)];exact n
 ·rw [Ac (ne b _ q (λz=>by cases z))];exact q
 ·rw [Ac (ne b _ q (λz=>by cases z))];exact q
 ·rw [Ac (ne b _ q (λz=>by cases z)),q];simp
 ·exact I.hok d _ hd
theorem Inv.ab9 (I:Inv X pins σ H s)(hd:H d=some (.frz o (.dK kvs)))(h0:∀ o' u,X.H₀ d≠some (.frz o' u)):Inv X pins σ (upd H d (.dK kvs)) s:=by
 have ne:∀ b u,H b=some u->(u≠.frz o (.dK kvs))->b≠d:=λb u q n z=>by rw [z,hd] at q;exact n (ss q).symm
 have nn:∀ b,H b=none->b≠d:=λb n z=>by rw [z,hd] at n;cases n
 obtain ⟨ok,os,bare,base,loc,cell,free,aah,pin,hok,len⟩:=I;refine ⟨ok,os,bare,⟨base.keep,base.slot,λb v e n hx=>?_,base.there,λb xs q=>?_,λb v u q=>?_,λb ps q=>?_⟩,loc,cell,?_,λx c e=>?_,λp hp=>?_,Lx hok hd (λ_ z=>by cases z) (λ_ z=>by cases z) (hok d _ hd).2,len⟩
 ·have:=base.free b v e n hx;rw [Ac (nn b this)];exact this
 ·have:=base.aa2 b xs q;rw [Ac (ne b _ this (λz=>by cases z))];exact this
 ·have:=base.aax b v u q;rw [Ac (λz=>h0 v u (by rw [<- z];exact q))];exact this
 ·obtain ⟨more,this⟩:=base.aay b ps q;exact ⟨more,by rw [Ac (ne b _ this (λz=>by cases z))];exact this⟩
 ·rw [Ac (nn _ free)];exact free
 ·rw [Ac (nn _ (aah x c e))];exact aah x c e
 ·obtain ⟨e,n,r⟩:=pin p hp;exact ⟨e,by rw [Ac (nn _ n)];exact n,r⟩
theorem Inv.dictAt (I:Inv X pins σ H s)(hd:H d=some (.frz o (.dK kvs)))(he:o.data=.dict es ep):∃ vs,KV kvs vs/\s.heap.DictAt (B1 X.prog X.w) d vs ep:=by
 obtain ⟨h1,_,_,vs,r,o',pG,pH,e1,e2,e3,e4⟩:=I.hok d _ hd;rw [h1] at e1;cases e1;rw [he] at e3;cases e3;exact ⟨vs,r,o,es,h1,e2,he,e4⟩
end
theorem SM (h:(B1 P w).is k v=true):RelV (kV k) v:=by
 rcases Bq (show Hs k v=true from h) with ⟨i,t,rfl,rfl⟩ | ⟨x,t,rfl,rfl⟩
 ·exact ⟨t,rfl⟩
 ·exact ⟨t,rfl⟩
theorem KV.at {kvs:List (Key × V)}{vs:List (Key × Value)}(r:KV kvs vs){i:Nat}{p:Key × V}(h:kvs[i]?=some p):∃ v,vs[i]?=some (p.1,v)/\RelV p.2 v:=by
 induction r generalizing i with
 | nil=>simp at h
 | cons h1 h2 ih =>
  cases i with
  | zero =>
   simp at h;subst h;rename_i b _ _;obtain ⟨b1,b2⟩:=b;obtain ⟨e,q⟩:=h1;exact ⟨b2,by simp at e ⊢;exact e.symm,q⟩
  | succ i =>
   simp at h;obtain ⟨v,e,q⟩:=ih h;exact ⟨v,by simpa using e,q⟩
section
variable {X:Cx}
variable {a b o i value e:Expr}{ta tb td ty tv:TE}{pos pos':Pos}{f:Str}
theorem Ar (he:SE X e ta)(hb:attributeBase e f X.env (eval e X.env)=eval e X.env:=by rfl):SE X (.Attribute e f pos) (MP X.K ta f):=⟨Zq he.out hb⟩
theorem Fd (ha:SE X o ta)(hv:SE X value tv)(hs:swapsWith value (some (.Attribute o f pos')) pos.line X.env=pure false:=by rfl):SS X (.Assign [.Attribute o f pos'] value pos) (ja X.K ta tv f):=⟨Zs ha.out hv.out hs⟩
end
noncomputable def tM (H₀:Hp)(Q:Hp->Prop)(H:Hp):Prop:=Q H\/∃ d o kvs,H d=some (.frz o (.dK kvs))/\(∀ o' u,H₀ d≠some (.frz o' u))/\Q (upd H d (.dK kvs))
section
variable {X:Cx}{e:Expr}{te:TE}{st:Stmt}{ts:TS}
theorem SN (h:SS X st ts):SS X st (λD σ H=>ts { D with nx:=fun σ' H'=>tM X.H₀ (D.nx σ') H' } σ H):=⟨λpins s σ H D I hw=>Bc (h.out pins s σ H _ I hw) λf s1 q=>by
 cases f with
 | next =>
  obtain ⟨σ1,H1,I1,q⟩:=q;rcases q with q | ⟨d,o,kvs,hd,h0,q⟩
  ·exact ⟨σ1,H1,I1,q⟩
  ·exact ⟨σ1,_,I1.ab9 hd h0,q⟩
 | brk=>exact q
 | cont=>exact q
 | ret u=>exact q⟩
end
theorem SQ {kvs:List (Key × V)}{k:Key}{v u:V}(h:Bw kvs k=some u):(putK kvs k v).map (·.1)=kvs.map (·.1):=by
 unfold putK;rw [DN,h];rw [if_pos (show (some u).isSome=true from rfl),List.map_map];refine vc λp _=>?_;show (if p.1=k then (p.1,v) else p).1=p.1
 by_cases e:p.1=k
 ·rw [if_pos e]
 ·rw [if_neg e]
theorem EG (kvs:List (Key × V))(k:Key)(v:V):(putK kvs k v).length<=kvs.length+1/\kvs.length<=(putK kvs k v).length:=by
 cases e:Bw kvs k with
 | none=>rw [DO _ e,ca];simp
 | some u =>
  have:=congrArg List.length (SQ (v:=v) e);simp at this;omega
section
variable {X:Cx}{pos:Pos}{tg e o i:Expr}{te to ti:TE}{g:TG}{t:Ve}
theorem Ly (he:SE X e te)(hg:SG X tg g)(hs:swapsWithSole [tg] e pos.line X.env=pure false:=by rfl)(hw:swappedStores [tg] e X.env=pure none:=by rfl)(h1:(assignEach [tg] X.env).map (·.2)=[assign tg X.env]:=by rfl):SS X (.Assign [tg] e pos) (PQ te g):=⟨Zg he.out hg.out hs hw h1⟩
theorem Lz (ho:SE X o to)(hi:SE X i ti)(hs:Zd X t)(ha:∀ v,assign (.Subscript o i pos) X.env v=(do
   let ov <- holding [v] (eval o X.env)
   let iv <- holding [v,ov] (eval i X.env)
   standAt pos
   holding [v,ov,iv] (setItem ov iv v)
   release [v,ov,iv] []):=by intro _;rfl):SG X (.Subscript o i pos) (j6 to ti t):=⟨Zf ho.out hi.out hs ha⟩
theorem Nm:SS X (.Continue pos) Y3:=⟨KY⟩
theorem OV (M:Mk X.K C f)(F:Au X.prog X.w X.K X.mg X.base AN k f fd ps sp)(hr:Ax (k+1) X.A)(hg:Gl X x)(hm:X.mg x=some (.ref C))(hb:Binds X.K fd ps [])(Ef:(x==("__debug__":Str))=false:=by decide):SE X (.Call (.Name x p) [] [] pos) (Yd C sp [] E0 Di):=⟨RT M F hr hg hm hb .nil Jd Ef⟩
end
theorem FQ (h:j < n):RX n (j:Int)=some j:=by
 have:=Ao (xs:=List.range n) (j:=j) (v:=j) (by simp [h]);unfold Oz at this;rw [List.length_range] at this;cases e:RX n (j:Int) with
 | none=>rw [e] at this;cases this
 | some i =>
  rw [e] at this;have this:(List.range n)[i]?=some j:=this;obtain ⟨h1,h2⟩:=cr.mp this;rw [List.getElem_range] at h2;rw [h2]
end L2
namespace PySem
noncomputable def DS (tu:Bool)(h:Heap)(i l:Addr)(k:Nat):Prop:=if tu=true then h.IsTupleIter i l k else h.IsListIter i l k
noncomputable def EW (tu:Bool)(h:Heap)(l:Addr)(xs:Array Value):Prop:=if tu=true then h.IsTuple l xs else h.IsList l xs
section
variable {tu:Bool}{h h':Heap}{i l c:Addr}{k:Nat}{xs:Array Value}
theorem DS.at (x:DS tu h i l k)(e:∀ o,h.get? i=some o->h'.get? i=some o):DS tu h' i l k:=by
 cases tu with
 | false=>exact Heap.IsListIter.at (h:=h) x e
 | true=>exact Heap.IsTupleIter.at (h:=h) x e
theorem EW.at (x:EW tu h l xs)(e:∀ o,h.get? l=some o->h'.get? l=some o):EW tu h' l xs:=by
 cases tu with
 | false=>exact Heap.IsList.at (h:=h) x e
 | true =>
  have x:h.IsTuple l xs:=x;obtain ⟨o,ho,r⟩:=x;exact (show h'.IsTuple l xs from ⟨o,e o ho,r⟩)
theorem DS.extBut (x:DS tu h i l k)(hs:Heap.ExtBut c h h')(n:i≠c):DS tu h' i l k:=x.at λo e=>hs i o n e
theorem EW.extBut (x:EW tu h l xs)(hs:Heap.ExtBut c h h')(n:l≠c):EW tu h' l xs:=x.at λo e=>hs l o n e
theorem DS.ex (x:DS tu h i l k):∃ o,h.get? i=some o:=by
 cases tu with
 | false =>
  have x:h.IsListIter i l k:=x;obtain ⟨o,e,_⟩:=x;exact ⟨o,e⟩
 | true =>
  have x:h.IsTupleIter i l k:=x;obtain ⟨o,e,_⟩:=x;exact ⟨o,e⟩
theorem EW.ex (x:EW tu h l xs):∃ o,h.get? l=some o:=by
 cases tu with
 | false =>
  have x:h.IsList l xs:=x;obtain ⟨o,e,_⟩:=x;exact ⟨o,e⟩
 | true =>
  have x:h.IsTuple l xs:=x;obtain ⟨o,e,_⟩:=x;exact ⟨o,e⟩
end
section
variable {prog:Program}{w:World}{A:Around}{E:Value->Shared->Prop}{s:Shared}{tu:Bool}{it l:Addr}{i:Nat}{xs:Array Value}
theorem Hj (hit:DS tu s.heap it l i)(hl:EW tu s.heap l xs)(hx:xs[i]?=some x)(hQ:∀ h',DS tu h' it l (i+1)->Heap.SameBut it s.heap h'->Q x { s with heap:=h' }):wpAny (model prog w) A (Builtin.SmallTypes.nextOf (.ref it)) Q E s:=by
 cases tu with
 | false=>exact wpAny_nextOf_list_item hit hl hx hQ
 | true =>
  have hit:s.heap.IsTupleIter it l i:=hit;have hl:s.heap.IsTuple l xs:=hl;have ty:=hit.typeIs;obtain ⟨o,ho,hc,hd⟩:=hit;obtain ⟨ol,tN,_,nl,tO⟩:=hl;unfold Builtin.SmallTypes.nextOf;refine aa (Fk (name:=Str.ofString "__next__") ty SL (Su SL ty F.entry_tuple_iterator_next ?_ (F.args_tuple_iterator_next_1 _)));show wpAny (model prog w) _ (field (Value.ref it) 0 >>= _) _ _ _;refine aa (At ho hd (x:=.ref l) rfl ?_);show wpAny (model prog w) _ (if (Value.ref l==.none)=true then _ else _) _ _ _
  rw [if_neg (show ¬ (Value.ref l==.none)=true from lc)];show wpAny (model prog w) _ (field (Value.ref it) 1 >>= _) _ _ _;refine aa (At ho hd (x:=.int i 0) rfl ?_);show wpAny (model prog w) _ (seqItems? (Value.ref l) >>= _) _ _ _;refine aa (Ch tN tO ?_);simp only [Q2,hx];refine aa (wpAny_setField ho hd (by simp) (bv ⟨x,rfl,bv (hQ _ (show Heap.IsTupleIter _ it l (i+1) from ?_) (Heap.SameBut.update ..))⟩));refine ⟨_,wS _ ho (Obj.isFreed_of_fields (Obj.data_mapFields hd _)),(Obj.cls_mapFields ..).trans hc,?_⟩;rw [Obj.data_mapFields hd];simp [rawInt]
theorem SR (hh:A.handled=none)(hit:DS tu s.heap it l i)(hl:EW tu s.heap l xs)(hx:xs[i]?=none)(hE:∀ h' e,Heap.ExtBut it s.heap h'->(∃ o,h'.get? e=some o/\o.cls=.type "StopIteration")->E (.ref e) { s with heap:=h' }):wpAny (model prog w) A (Builtin.SmallTypes.nextOf (.ref it)) Q E s:=by
 cases tu with
 | false=>exact wpAny_nextOf_list_end hh hit hl hx hE
 | true =>
  have hit:s.heap.IsTupleIter it l i:=hit;have hl:s.heap.IsTuple l xs:=hl;have ty:=hit.typeIs;obtain ⟨o,ho,hc,hd⟩:=hit;obtain ⟨ol,tN,_,nl,tO⟩:=hl;unfold Builtin.SmallTypes.nextOf;refine aa (Fk (name:=Str.ofString "__next__") ty SL (Su SL ty F.entry_tuple_iterator_next ?_ (F.args_tuple_iterator_next_1 _)));show wpAny (model prog w) _ (field (Value.ref it) 0 >>= _) _ _ _;refine aa (At ho hd (x:=.ref l) rfl ?_);show wpAny (model prog w) _ (if (Value.ref l==.none)=true then _ else _) _ _ _
  rw [if_neg (show ¬ (Value.ref l==.none)=true from lc)];show wpAny (model prog w) _ (field (Value.ref it) 1 >>= _) _ _ _;refine aa (At ho hd (x:=.int i 0) rfl ?_);show wpAny (model prog w) _ (seqItems? (Value.ref l) >>= _) _ _ _;refine aa (Ch tN tO ?_);simp only [Q2,hx];refine aa (wpAny_rule (aa (wpAny_setField ho hd (by simp) ?_)));show wpAny (model prog w) _ (newExc (.type "StopIteration") [] >>= _) _ _ _;refine aa ?_;simp only [newExc,newTuple];refine aa (NE ?_ (by size_fits));refine aa (m:=firstArgMember _ _) (wpAny_of_eq (a:=Value.none) (by first | rfl | (simp only [firstArgMember];rfl)) ?_)
  refine NE ?_ (by size_fits);simp only [raiseNew];refine aa (wpAny_handled ?_)
  first | rw [show A.in1.handled=none from hh] | rw [hh]
  refine aa (bv (wpAny_throw ?_));exact hE _ _ (((Heap.SameBut.update ..).extBut.push _).push _) ⟨_,io _ rfl,rfl⟩
end
theorem LA (h:Q (s.heap.get? a) s):wpAny M A (loadIfAlive a) Q E s:=by
 intro Γ p _;show Sem.wp M Γ (.loadIfAlive a .pure) _ _ p s;rw [Sem.wp_loadIfAlive];simpa using h
abbrev Dz (h:Heap)(z TI TO:Addr)(f0 f1:Value):Prop :=
 h.get? z=some { cls:=.type "zip",dict:=none,data:=.fields #[f0,f1,.bool false,.ref TI,.ref TO],slots:=#[] }
section
variable {prog:Program}{w:World}{A:Around}{E:Value->Shared->Prop}{s:Shared}
theorem HS {z TI TO T:Addr}{b:Bool}{oT:Obj}{Q:Bool->Shared->Prop}(hz:Dz s.heap z TI TO (rawInt T) (.bool b))(hT:s.heap.get? T=some oT)
  (hQ:∀ h',Dz h' z TI TO (rawInt T) (.bool true)->Heap.SameBut z s.heap h'->Q false { s with heap:=h' }):wpAny (model prog w) A (Builtin.SmallTypes.ownedTupleIsFree (.ref z)) Q E s:=by
 unfold Builtin.SmallTypes.ownedTupleIsFree;refine aa (At hz rfl (x:=rawInt T) rfl ?_);show wpAny _ _ (loadIfAlive (T:Int).toNat >>= _) _ _ _;refine aa (LA ?_);rw [Q2,hT];show wpAny _ _ (field (.ref z) 1 >>= _) _ _ _;refine aa (At hz rfl (x:=.bool b) rfl ?_);cases b with
 | true =>
  show wpAny _ _ (pure false) _ _ _;exact bv (hQ _ hz (Heap.SameBut.refl _ _))
 | false =>
  show wpAny _ _ (setField (.ref z) 1 (.bool true) >>= λ_=>pure false) _ _ _;refine aa (SZ hz (by simp) λh₁ hz₁ hs₁=>bv (hQ _ hz₁ hs₁))
theorem W3 {tu:Bool}{z TI TO i1 i2 l1 l2 T:Addr}{b0:Bool}{oT:Obj}{k1 k2:Nat}{xs ys:Array Value}{x y a b:Value}{Q:Value->Shared->Prop}(D:ZipApart z TI TO i1 i2 l1 l2)
  (hz:Dz s.heap z TI TO (rawInt T) (.bool b0)) (hT:s.heap.get? T=some oT) (Np:IsPair s.heap TI (.ref i1) (.ref i2))
  (h1:DS tu s.heap i1 l1 k1) (h2:DS tu s.heap i2 l2 k2) (CB:EW tu s.heap l1 xs) (D9:EW tu s.heap l2 ys) (hx:xs[k1]?=some x) (hy:ys[k2]?=some y)
  (hQ:∀ h',Dz h' z TI TO (rawInt T) (.bool true)->DS tu h' i1 l1 (k1+1)->DS tu h' i2 l2 (k2+1)->IsPair h' s.heap.objs.size x y->h'.objs.size=s.heap.objs.size+1 ->
   (∀ c o,c≠z->c≠i1->c≠i2->s.heap.get? c=some o->h'.get? c=some o)->Q (.ref s.heap.objs.size) { s with heap:=h' }) :
  wpAny (model prog w) A (Builtin.«zip.__next__» ⟨[.ref z],[]⟩) (λfin s'=>∃ v,fin=.done (.ret v)/\Q v s') E s:=by
 show wpAny _ _ (field (.ref z) 2 >>= _) _ _ _;refine aa (At hz rfl (x:=.bool false) rfl ?_);show wpAny _ _ (field (.ref z) 3 >>= _) _ _ _;refine aa (At hz rfl (x:=.ref TI) rfl ?_);refine aa (Ch Np rfl ?_);show wpAny _ _ (Builtin.SmallTypes.ownedTupleIsFree (.ref z) >>= _) _ _ _;refine aa (HS hz hT λh₁ hz₁ hs₁=>?_);simp only [Tl,if_false];refine aa ?_;simp only [List.forIn_toArray,List.forIn_cons,List.forIn_nil];refine aa (aa (Go ?_));show wpAny _ _ (Builtin.SmallTypes.nextOf (.ref i1) >>= _) _ _ _;refine aa (Hj (h1.extBut hs₁.extBut D.i1z) (CB.extBut hs₁.extBut D.l1z) hx λh₂ h1₂ hs₂=>bv (bv ?_));refine aa (aa (Go ?_));show wpAny _ _ (Builtin.SmallTypes.nextOf (.ref i2) >>= _) _ _ _;refine aa (Hj ((h2.extBut hs₁.extBut D.i2z).extBut hs₂.extBut D.i12.symm) ((D9.extBut hs₁.extBut D.l2z).extBut hs₂.extBut D.l2i1) hy λh₃ h2₃ hs₃=>bv (bv (bv ?_)));show wpAny _ _ (newTuple [x,y] >>= _) _ _ _;refine aa (wpAny_newTuple ?_);refine bv ⟨_,rfl,?_⟩;have hsz:h₃.objs.size=s.heap.objs.size:=by rw [hs₃.1,hs₂.1,hs₁.1]
 have hz₃:Dz h₃ z TI TO (rawInt T) (.bool true):=hs₃.extBut _ _ D.i2z.symm (hs₂.extBut _ _ D.i1z.symm hz₁);show Q (.ref h₃.objs.size) _;have h1₃:DS tu h₃ i1 l1 (k1+1):=h1₂.extBut hs₃.extBut D.i12;have up:∀ c o,h₃.get? c=some o->(h₃.push { cls:=.type "tuple",data:=.seq #[x,y] }).get? c=some o:=λc o e=>ac _ e;have hT₃:(h₃.push { cls:=.type "tuple",data:=.seq #[x,y] }).get? s.heap.objs.size=some { cls:=.type "tuple",data:=.seq #[x,y] }:=by rw [<- hsz];exact io _ rfl
 rw [hsz];exact hQ _ (up _ _ hz₃) (h1₃.at λo e=>up _ o e) (h2₃.at λo e=>up _ o e) hT₃ (by rw [No,hsz]) λc o c1 c2 c3 e=>up c o (hs₃.extBut _ _ c3 (hs₂.extBut _ _ c2 (hs₁.extBut _ _ c1 e)))
theorem ah {tu:Bool}{z TI TO i1 i2 l1 l2 T:Addr}{b0:Bool}{oT:Obj}{k1 k2:Nat}{xs ys:Array Value}{Q:Fin->Shared->Prop}(hh:A.handled=none)(D:ZipApart z TI TO i1 i2 l1 l2)
  (hz:Dz s.heap z TI TO (rawInt T) (.bool b0)) (hT:s.heap.get? T=some oT) (Np:IsPair s.heap TI (.ref i1) (.ref i2))
  (h1:DS tu s.heap i1 l1 k1) (CB:EW tu s.heap l1 xs) (hx:xs[k1]?=none)
  (hE:∀ h' e,(∀ c o,c≠z->c≠i1->c≠i2->s.heap.get? c=some o->h'.get? c=some o)->(∃ o,h'.get? e=some o/\o.cls=.type "StopIteration")->E (.ref e) { s with heap:=h' }) :
  wpAny (model prog w) A (Builtin.«zip.__next__» ⟨[.ref z],[]⟩) Q E s:=by
 show wpAny _ _ (field (.ref z) 2 >>= _) _ _ _;refine aa (At hz rfl (x:=.bool false) rfl ?_);show wpAny _ _ (field (.ref z) 3 >>= _) _ _ _;refine aa (At hz rfl (x:=.ref TI) rfl ?_);refine aa (Ch Np rfl ?_);show wpAny _ _ (Builtin.SmallTypes.ownedTupleIsFree (.ref z) >>= _) _ _ _;refine aa (HS hz hT λh₁ hz₁ hs₁=>?_);simp only [Tl,if_false];refine aa ?_;simp only [List.forIn_toArray,List.forIn_cons,List.forIn_nil];refine aa (aa (Go ?_));show wpAny _ _ (Builtin.SmallTypes.nextOf (.ref i1) >>= _) _ _ _;refine aa (SR hh (h1.extBut hs₁.extBut D.i1z) (CB.extBut hs₁.extBut D.l1z) hx λh₂ e hs₂ he=>?_);exact hE h₂ e (λc o c1 c2 _ x=>hs₂ _ _ c2 (hs₁.extBut _ _ c1 x)) he
theorem K1 {tu:Bool}{z TI TO i1 i2 l1 l2 T:Addr}{b0:Bool}{oT:Obj}{k1 k2:Nat}{xs ys:Array Value}{x y:Value}{Q:Option Value->Shared->Prop}(D:ZipApart z TI TO i1 i2 l1 l2)
  (hz:Dz s.heap z TI TO (rawInt T) (.bool b0)) (hT:s.heap.get? T=some oT) (Np:IsPair s.heap TI (.ref i1) (.ref i2))
  (h1:DS tu s.heap i1 l1 k1) (h2:DS tu s.heap i2 l2 k2) (CB:EW tu s.heap l1 xs) (D9:EW tu s.heap l2 ys) (hx:xs[k1]?=some x) (hy:ys[k2]?=some y)
  (hQ:∀ h',Dz h' z TI TO (rawInt T) (.bool true)->DS tu h' i1 l1 (k1+1)->DS tu h' i2 l2 (k2+1)->IsPair h' s.heap.objs.size x y->h'.objs.size=s.heap.objs.size+1 ->
   (∀ c o,c≠z->c≠i1->c≠i2->s.heap.get? c=some o->h'.get? c=some o)->Q (some (.ref s.heap.objs.size)) { s with heap:=h' }):wpAny (model prog w) A (pyNext (.ref z)) Q E s:=by
 have jE:s.TypeIs (.ref z) "zip":=⟨_,hz,rfl⟩;unfold pyNext;exact aa (wpAny_attempt (Fk (name:=Str.ofString "__next__") jE Rs
  (Su Rs jE F.entry_zip_next
   (W3 (a:=.none) (b:=.none) D hz hT Np h1 h2 CB D9 hx hy λh' a1 a3 a4 a5 a6 a7=>bv (hQ h' a1 a3 a4 a5 a6 a7)) (F.args_zip_next_1 _))))
theorem LB {tu:Bool}{z TI TO i1 i2 l1 l2 T:Addr}{b0:Bool}{oT:Obj}{k1 k2:Nat}{xs ys:Array Value}{Q:Option Value->Shared->Prop}(hh:A.handled=none)(D:ZipApart z TI TO i1 i2 l1 l2)
  (hz:Dz s.heap z TI TO (rawInt T) (.bool b0)) (hT:s.heap.get? T=some oT) (Np:IsPair s.heap TI (.ref i1) (.ref i2))
  (h1:DS tu s.heap i1 l1 k1) (CB:EW tu s.heap l1 xs) (hx:xs[k1]?=none)
  (hQ:∀ h',(∀ c o,c≠z->c≠i1->c≠i2->s.heap.get? c=some o->h'.get? c=some o)->Q none { s with heap:=h' }):wpAny (model prog w) A (pyNext (.ref z)) Q E s:=by
 have jE:s.TypeIs (.ref z) "zip":=⟨_,hz,rfl⟩;unfold pyNext;refine aa (wpAny_attempt (Fk (name:=Str.ofString "__next__") jE Rs
  (Su Rs jE F.entry_zip_next (ah (ys:=ys) (k2:=k2) hh D hz hT Np h1 CB hx λh' e hk he=>?_) (F.args_zip_next_1 _))))
 obtain ⟨o,ho,hc⟩:=he;refine aa (wpAny_isInstance (T:="StopIteration") (b:=true) ⟨o,ho,hc⟩ isSubtype_stop ?_);exact bv (hQ _ hk)
theorem W4 {tu:Bool}{z TI TO i1 i2 l1 l2:Addr}{k1 k2:Nat}{xs ys:Array Value}{x y a b:Value}{Q:Value->Shared->Prop}(D:ZipApart z TI TO i1 i2 l1 l2)
  (hz:IsZip s.heap z TI TO .none) (Np:IsPair s.heap TI (.ref i1) (.ref i2)) (Qq:IsPair s.heap TO a b)
  (h1:DS tu s.heap i1 l1 k1) (h2:DS tu s.heap i2 l2 k2) (CB:EW tu s.heap l1 xs) (D9:EW tu s.heap l2 ys) (hx:xs[k1]?=some x) (hy:ys[k2]?=some y)
  (hQ:∀ h',IsZip h' z TI TO (rawInt s.heap.objs.size)->IsPair h' TO x y->DS tu h' i1 l1 (k1+1)->DS tu h' i2 l2 (k2+1)->IsPair h' s.heap.objs.size x y->h'.objs.size=s.heap.objs.size+1 ->
   (∀ c o,c≠z->c≠TO->c≠i1->c≠i2->s.heap.get? c=some o->h'.get? c=some o)->Q (.ref s.heap.objs.size) { s with heap:=h' }) :
  wpAny (model prog w) A (Builtin.«zip.__next__» ⟨[.ref z],[]⟩) (λfin s'=>∃ v,fin=.done (.ret v)/\Q v s') E s:=by
 show wpAny (model prog w) _ (field (Value.ref z) 2 >>= _) _ _ _;refine aa (At hz rfl (x:=.bool false) rfl ?_);show wpAny (model prog w) _ (field (Value.ref z) 3 >>= _) _ _ _;refine aa (At hz rfl (x:=.ref TI) rfl ?_);refine aa (Ch Np rfl ?_);show wpAny (model prog w) _ (Builtin.SmallTypes.ownedTupleIsFree (Value.ref z) >>= _) _ _ _;refine aa ?_;unfold Builtin.SmallTypes.ownedTupleIsFree;refine aa (At hz rfl (x:=.none) rfl (bv ?_));simp only [if_true];refine aa (wpAny_rule ?_);refine aa (At hz rfl (x:=.ref TO) rfl ?_);refine aa (SZ hz (by simp) λha (tP:IsZip ha z TI TO .ellipsis) sa=>?_);refine aa ?_;simp only [List.zipIdx_cons,List.zipIdx_nil,List.forIn_cons,List.forIn_nil];refine aa (aa (wpAny_onRaise ?_));show wpAny _ _ (Builtin.SmallTypes.nextOf (.ref i1) >>= _) _ _ _;refine aa (Hj (h1.extBut sa.extBut D.i1z) (CB.extBut sa.extBut D.l1z) hx λhb h1b sb=>bv ?_);have TOb:IsPair hb TO a b:=sb.extBut _ _ D.TOi1 (sa.extBut _ _ D.TOz Qq);refine aa (Ch TOb rfl ?_);refine aa (wpAny_updateSeq_pair TOb λhc (TOc:IsPair hc TO x b) sc=>?_);refine aa (wpAny_letGo (bv ?_));refine aa (aa (wpAny_onRaise ?_));show wpAny _ _ (Builtin.SmallTypes.nextOf (.ref i2) >>= _) _ _ _;refine aa (Hj (((h2.extBut sa.extBut D.i2z).extBut sb.extBut D.i12.symm).extBut sc.extBut D.TOi2.symm) (((D9.extBut sa.extBut D.l2z).extBut sb.extBut D.l2i1).extBut sc.extBut D.l2TO) hy λhd h2d sd=>bv ?_);have TOd:IsPair hd TO x b:=sd.extBut _ _ D.TOi2 TOc;refine aa (Ch TOd rfl ?_);refine aa (wpAny_updateSeq_pair TOd λhe (TOe:IsPair he TO x y) se=>?_);refine aa (wpAny_letGo (bv (bv ?_)));refine aa (Ch TOe rfl ?_);refine aa (wpAny_newTuple ?_);have hsz:he.objs.size=s.heap.objs.size:=by rw [se.1,sd.1,sc.1,sb.1,sa.1]
 have hze:IsZip he z TI TO .ellipsis:=se.extBut _ _ D.TOz.symm (sd.extBut _ _ D.i2z.symm (sc.extBut _ _ D.TOz.symm (sb.extBut _ _ D.i1z.symm tP)));have ke:∀ c o,c≠z->c≠TO->c≠i1->c≠i2->s.heap.get? c=some o->he.get? c=some o:=λc o n1 n2 n3 n4 e=>se.extBut _ _ n2 (sd.extBut _ _ n4 (sc.extBut _ _ n2 (sb.extBut _ _ n3 (sa.extBut _ _ n1 e))));have h1e:DS tu he i1 l1 (k1+1):=((h1b.extBut sc.extBut D.TOi1.symm).extBut sd.extBut D.i12).extBut se.extBut D.TOi1.symm;have h2e:DS tu he i2 l2 (k2+1):=h2d.extBut se.extBut D.TOi2.symm;have zlt:z < he.objs.size:=ii hze;show wpAny (model prog w) _ (Builtin.SmallTypes.ownedTupleHandOut (Value.ref z) (Value.ref he.objs.size) >>= _) _ _ _;refine aa ?_;unfold Builtin.SmallTypes.ownedTupleHandOut;have hzf:IsZip (he.push { cls:=.type "tuple",data:=.seq #[x,y] }) z TI TO .ellipsis:=ac _ hze;refine aa (SZ hzf (by simp) λhg (hzg:IsZip hg z TI TO (rawInt he.objs.size)) sg=>?_);refine SZ hzg (by simp) λhk (hzk:IsZip hk z TI TO (rawInt he.objs.size)) sk=>?_;have up:∀ c o,c≠z->he.get? c=some o->hk.get? c=some o:=λc o n e=>sk.extBut _ _ n (sg.extBut _ _ n (ac _ e));have Tk:IsPair hk he.objs.size x y:=sk.extBut _ _ (Nat.ne_of_gt zlt) (sg.extBut _ _ (Nat.ne_of_gt zlt) (io _ rfl));have zk:hk.objs.size=he.objs.size+1:=by rw [sk.1,sg.1,No]
 rw [hsz] at hzk Tk zk;refine bv ⟨_,rfl,?_⟩;show Q (.ref he.objs.size) _;rw [hsz];exact hQ hk hzk (up _ _ D.TOz TOe) (h1e.at λo e=>up _ o D.i1z e) (h2e.at λo e=>up _ o D.i2z e) Tk zk λc o n1 n2 n3 n4 e=>up c o n1 (ke c o n1 n2 n3 n4 e)
theorem ai (hh:A.handled=none)(D:ZipApart z TI TO i1 i2 l1 l2)(hz:IsZip s.heap z TI TO .none)(Np:IsPair s.heap TI (.ref i1) (.ref i2))(Qq:IsPair s.heap TO a b)(h1:DS tu s.heap i1 l1 k1)(CB:EW tu s.heap l1 xs)(hx:xs[k1]?=none)(hE:∀ h' e,(∀ c o,c≠z->c≠TO->c≠i1->c≠i2->s.heap.get? c=some o->h'.get? c=some o)->(∃ o,h'.get? e=some o/\o.cls=.type "StopIteration")->E (.ref e) { s with heap:=h' }) :
  wpAny (model prog w) A (Builtin.«zip.__next__» ⟨[.ref z],[]⟩) Q E s:=by
 show wpAny (model prog w) _ (field (Value.ref z) 2 >>= _) _ _ _;refine aa (At hz rfl (x:=.bool false) rfl ?_);show wpAny (model prog w) _ (field (Value.ref z) 3 >>= _) _ _ _;refine aa (At hz rfl (x:=.ref TI) rfl ?_);refine aa (Ch Np rfl ?_);show wpAny (model prog w) _ (Builtin.SmallTypes.ownedTupleIsFree (Value.ref z) >>= _) _ _ _;refine aa ?_;unfold Builtin.SmallTypes.ownedTupleIsFree;refine aa (At hz rfl (x:=.none) rfl (bv ?_));simp only [if_true];refine aa (wpAny_rule ?_);refine aa (At hz rfl (x:=.ref TO) rfl ?_);refine aa (SZ hz (by simp) λha (tP:IsZip ha z TI TO .ellipsis) sa=>?_);refine aa ?_;simp only [List.zipIdx_cons,List.zipIdx_nil,List.forIn_cons,List.forIn_nil];refine aa (aa (wpAny_onRaise ?_));show wpAny _ _ (Builtin.SmallTypes.nextOf (.ref i1) >>= _) _ _ _;refine aa (SR hh (h1.extBut sa.extBut D.i1z) (CB.extBut sa.extBut D.l1z) hx λhb e sb he=>?_);obtain ⟨oe,tQ,hce⟩:=he;have pY:IsZip hb z TI TO .ellipsis:=sb _ _ D.i1z.symm tP;have hez:e≠z:=λq=>by
  subst q;rw [pY] at tQ;cases tQ;simp at hce
 exact SZ pY (by simp) λhc _ sc=>hE hc e (λc o n1 _ n3 _ q=>sc.extBut _ _ n1 (sb _ _ n3 (sa.extBut _ _ n1 q))) ⟨oe,sc.extBut _ _ hez tQ,hce⟩
theorem K2 (D:ZipApart z TI TO i1 i2 l1 l2)(hz:IsZip s.heap z TI TO .none)(Np:IsPair s.heap TI (.ref i1) (.ref i2))(Qq:IsPair s.heap TO a b)(h1:DS tu s.heap i1 l1 k1)(h2:DS tu s.heap i2 l2 k2)(CB:EW tu s.heap l1 xs)(D9:EW tu s.heap l2 ys)(hx:xs[k1]?=some x)(hy:ys[k2]?=some y)(hQ:∀ h',IsZip h' z TI TO (rawInt s.heap.objs.size)->IsPair h' TO x y->DS tu h' i1 l1 (k1+1)->DS tu h' i2 l2 (k2+1)->IsPair h' s.heap.objs.size x y->h'.objs.size=s.heap.objs.size+1 ->
   (∀ c o,c≠z->c≠TO->c≠i1->c≠i2->s.heap.get? c=some o->h'.get? c=some o)->Q (some (.ref s.heap.objs.size)) { s with heap:=h' }):wpAny (model prog w) A (pyNext (.ref z)) Q E s:=by
 have ty:s.TypeIs (.ref z) "zip":=⟨_,hz,rfl⟩;unfold pyNext;exact aa (wpAny_attempt (Fk (name:=Str.ofString "__next__") ty Rs (Su Rs ty F.entry_zip_next (W4 D hz Np Qq h1 h2 CB D9 hx hy λh' a1 a2 a3 a4 a5 a6 a7=>bv (hQ h' a1 a2 a3 a4 a5 a6 a7)) (F.args_zip_next_1 _))))
theorem LC (hh:A.handled=none)(D:ZipApart z TI TO i1 i2 l1 l2)(hz:IsZip s.heap z TI TO .none)(Np:IsPair s.heap TI (.ref i1) (.ref i2))(Qq:IsPair s.heap TO a b)(h1:DS tu s.heap i1 l1 k1)(CB:EW tu s.heap l1 xs)(hx:xs[k1]?=none)(hQ:∀ h',(∀ c o,c≠z->c≠TO->c≠i1->c≠i2->s.heap.get? c=some o->h'.get? c=some o)->Q none { s with heap:=h' }):wpAny (model prog w) A (pyNext (.ref z)) Q E s:=by
 have ty:s.TypeIs (.ref z) "zip":=⟨_,hz,rfl⟩;unfold pyNext;refine aa (wpAny_attempt (Fk (name:=Str.ofString "__next__") ty Rs (Su Rs ty F.entry_zip_next (ai hh D hz Np Qq h1 CB hx λh' e hk he=>?_) (F.args_zip_next_1 _))));obtain ⟨o,ho,hc⟩:=he;exact aa (wpAny_isInstance (T:="StopIteration") (b:=true) ⟨o,ho,hc⟩ isSubtype_stop (bv (hQ _ hk)))
noncomputable def aj (tu:Bool)(l:Addr):Obj:={ cls:=.type (if tu=true then "tuple_iterator" else "list_iterator"),data:=.fields #[.ref l,.int 0 0] }
theorem SU (e:h.get? i=some (aj tu l)):DS tu h i l 0:=by
 cases tu with
 | false=>exact (show h.IsListIter i l 0 from ⟨_,e,rfl,rfl⟩)
 | true=>exact (show h.IsTupleIter i l 0 from ⟨_,e,rfl,rfl⟩)
theorem SV (hl:EW tu s.heap l xs)(hQ:Q (.ref s.heap.objs.size) { s with heap:=s.heap.push (aj tu l) }):wpAny (model prog w) A (pyIter (.ref l)) Q E s:=by
 cases tu with
 | false=>exact wpAny_pyIter_list hl hQ
 | true=>exact wpAny_pyIter_tuple hl hQ
abbrev pZ (tu:Bool)(h:Heap)(l1:Addr):Heap:=h.push (aj tu l1)
abbrev q9 (tu:Bool)(h:Heap)(l1 l2:Addr):Heap:=(pZ tu h l1).push (aj tu l2)
abbrev qb (tu:Bool)(h:Heap)(l1 l2:Addr):Heap:=(q9 tu h l1 l2).push { cls:=.type "tuple",data:=.seq #[.ref h.objs.size,.ref (pZ tu h l1).objs.size] }
abbrev qc (tu:Bool)(h:Heap)(l1 l2:Addr):Heap:=(qb tu h l1 l2).push { cls:=.type "tuple",data:=.seq #[.none,.none] }
abbrev ak (tu:Bool)(h:Heap)(l1 l2:Addr):Heap:=(qc tu h l1 l2).push { cls:=.type "zip",data:=.fields #[.none,.bool false,.bool false,.ref (q9 tu h l1 l2).objs.size,.ref (qb tu h l1 l2).objs.size] }
theorem SX (tu:Bool)(l1 l2:Addr)(xs ys:Array Value):Meets (Builtin.«zip.__new__» ⟨[.type "zip",.ref l1,.ref l2],[]⟩) (λ_ R s=>EW tu s.heap l1 xs/\EW tu s.heap l2 ys/\R (.ok (.ret (.ref (qc tu s.heap l1 l2).objs.size))) { s with heap:=ak tu s.heap l1 l2 }) :=
 .of_wp λprog w A R s h=>by
  obtain ⟨hp,g,d,tk,os⟩:=s;obtain ⟨CB,D9,h⟩:=h;have ZY:=sub_zip;have L1:EW tu (Shared.heap ⟨hp,g,d,tk,os⟩) l1 xs:=CB;have L2:EW tu (Shared.heap ⟨hp.push (aj tu l1),g,d,tk,os⟩) l2 ys:=EW.at D9 λo e=>ac _ e
  wp_walk using SV L1,SV L2
  exact ⟨_,rfl,h⟩
theorem W6 (CB:EW tu s.heap l1 xs)(D9:EW tu s.heap l2 ys)(h:∀ h',IsZip h' (s.heap.objs.size+4) (s.heap.objs.size+2) (s.heap.objs.size+3) .none->IsPair h' (s.heap.objs.size+2) (.ref s.heap.objs.size) (.ref (s.heap.objs.size+1)) ->
   IsPair h' (s.heap.objs.size+3) .none .none->DS tu h' s.heap.objs.size l1 0->DS tu h' (s.heap.objs.size+1) l2 0->h'.objs.size=s.heap.objs.size+5 ->
   (∀ c o,s.heap.get? c=some o->h'.get? c=some o)->Q (.ref (s.heap.objs.size+4)) { s with heap:=h' }):wpAny (model prog w) A (call (.type "zip") [.ref l1,.ref l2]) Q E s:=by
 refine callType_new F.called_zip ⟨⟩ (F.typeCall_zip_2 _ _) (F.newCall_zip_2 _ _) (λobj=>F.args_object_init_3 obj _ _) F.entry_zip_new (SX tu l1 l2 xs ys) ⟨CB,D9,?_⟩;have z1:(pZ tu s.heap l1).objs.size=s.heap.objs.size+1:=No ..;have z2:(q9 tu s.heap l1 l2).objs.size=s.heap.objs.size+2:=by rw [No,z1]
 have z3:(qb tu s.heap l1 l2).objs.size=s.heap.objs.size+3:=by rw [No,z2]
 have z4:(qc tu s.heap l1 l2).objs.size=s.heap.objs.size+4:=by rw [No,z3]
 have z5:(ak tu s.heap l1 l2).objs.size=s.heap.objs.size+5:=by rw [No,z4]
 have g5:(ak tu s.heap l1 l2).get? (qc tu s.heap l1 l2).objs.size=some _:=io _ rfl;have g4:(ak tu s.heap l1 l2).get? (qb tu s.heap l1 l2).objs.size=some _:=ac _ (io _ rfl);have g3:(ak tu s.heap l1 l2).get? (q9 tu s.heap l1 l2).objs.size=some _:=ac _ (ac _ (io _ rfl));have g2:(ak tu s.heap l1 l2).get? (pZ tu s.heap l1).objs.size=some (aj tu l2):=ac _ (ac _ (ac _ (io _ rfl)));have g1:(ak tu s.heap l1 l2).get? s.heap.objs.size=some (aj tu l1):=ac _ (ac _ (ac _ (ac _ (io _ rfl))));show _/\_;rw [z2,z3,z4] at g5;rw [z1,z2] at g3;rw [z3] at g4;rw [z1] at g2;rw [z4];exact ⟨⟨_,g5,rfl⟩,h _ g5 g3 g4 (SU g1) (SU g2) z5 λc o x=>ac _ (ac _ (ac _ (ac _ (ac _ x))))⟩
structure FR (tu:Bool)(h:Heap)(z TI TO i1 i2 l1 l2:Addr)(xs ys:Array Value)(Ts:List Addr):Prop where
 fz:(Ts=[]/\IsZip h z TI TO .none)\/∃ T b,T∈Ts/\Dz h z TI TO (rawInt T) (.bool b)
 fTI:IsPair h TI (.ref i1) (.ref i2)
 fTO:∃ a b,IsPair h TO a b
 f1:DS tu h i1 l1 Ts.length
 f2:DS tu h i2 l2 Ts.length
 g1:EW tu h l1 xs
 g2:EW tu h l2 ys
 fm:∀ (j:Nat) (T:Addr),Ts[j]?=some T->∃ x y,xs[j]?=some x/\ys[j]?=some y/\IsPair h T x y
theorem FR.keep (Z:FR tu h z TI TO i1 i2 l1 l2 xs ys Ts)(k:∀ c o,c∈[z,TI,TO,i1,i2,l1,l2]++Ts->h.get? c=some o->h'.get? c=some o):FR tu h' z TI TO i1 i2 l1 l2 xs ys Ts:=by
 refine ⟨?_,k _ _ (by simp) Z.fTI,?_,Z.f1.at λo e=>k _ o (by simp) e,Z.f2.at λo e=>k _ o (by simp) e,Z.g1.at λo e=>k _ o (by simp) e,Z.g2.at λo e=>k _ o (by simp) e,λj T e=>?_⟩
 ·rcases Z.fz with ⟨e,hz⟩ | ⟨T,b,hT,hz⟩
  ·exact .inl ⟨e,k _ _ (by simp) hz⟩
  ·exact .inr ⟨T,b,hT,k _ _ (by simp) hz⟩
 ·obtain ⟨a,b,e⟩:=Z.fTO;exact ⟨a,b,k _ _ (by simp) e⟩
 ·obtain ⟨x,y,h1,h2,h3⟩:=Z.fm j T e;exact ⟨x,y,h1,h2,k _ _ (ir _ (ci e)) h3⟩
theorem W7 (hh:A.in1.handled=none)(D:ZipApart z TI TO i1 i2 l1 l2)(Nq:xs.size=ys.size)(hn:xs.size<=1000)(hS:S∉[z,TI,TO,i1,i2,l1,l2]):
  ∀ (k:Nat) (Ts:List Addr) (s:Shared) (c:Nat),xs.size - Ts.length=k->Ts.length<=xs.size->FR tu s.heap z TI TO i1 i2 l1 l2 xs ys Ts->(∀ T∈Ts,T∉[S,z,TI,TO,i1,i2,l1,l2])->Ts.Nodup->s.heap.get? S=some { cls:=.type "list",dict:=none,data:=.seq (Ts.map Value.ref).toArray c,slots:=#[] } ->
  (∀ (h':Heap) (tk:Nat) (HU:List Addr) (c':Nat),HU.length=xs.size->HU.Nodup->(∀ b o,b∉[S,z,TO,i1,i2]->s.heap.get? b=some o->h'.get? b=some o)->h'.get? S=some { cls:=.type "list",dict:=none,data:=.seq (HU.map Value.ref).toArray c',slots:=#[] } ->
   (∀ (j:Nat) (T:Addr),HU[j]?=some T->∃ x y,xs[j]?=some x/\ys[j]?=some y/\IsPair h' T x y)->(∀ T∈HU,T∈Ts\/s.heap.get? T=none)->R (.ok (.ret res)) { s with heap:=h',toks:=tk }) ->
  codeAny (model prog w) A (.builtin "list.extend.loop" ⟨[.ref S,.ref z,res],[]⟩) R s:=by
 intro k
 induction k with
 | zero =>
  intro Ts s c hk hle Z hT tR Yp hR;have hlen:Ts.length=xs.size:=by omega
  have jF:xs[Ts.length]?=none:=Array.getElem?_eq_none ();refine codeAny_builtin F.entry_extend_loop ?_;rw [PM On _];show wpAny _ A.in1 (pyNext (.ref z) >>= _) _ _ s;have done:∀ h',(∀ b o,b≠z->b≠TO->b≠i1->b≠i2->s.heap.get? b=some o->h'.get? b=some o)->R (.ok (.ret res)) { s with heap:=h' }:=λh' kk=>by
   have nS:S≠z/\S≠TO/\S≠i1/\S≠i2:=(by simp at hS;exact ⟨hS.1,hS.2.2.1,hS.2.2.2.1,hS.2.2.2.2.1⟩);refine hR h' s.toks Ts c hlen tR (λb o hb e=>?_) (kk S _ nS.1 nS.2.1 nS.2.2.1 nS.2.2.2 Yp) (λj T e=>?_) (λT h=>.inl h)
   ·simp at hb;exact kk b o hb.2.1 hb.2.2.1 hb.2.2.2.1 hb.2.2.2.2 e
   ·obtain ⟨x,y,e1,e2,e3⟩:=Z.fm j T e;have:=hT T (ci e);simp at this;exact ⟨x,y,e1,e2,kk T _ this.2.1 this.2.2.2.1 this.2.2.2.2.1 this.2.2.2.2.2.1 e3⟩
  obtain ⟨a,b,Qq⟩:=Z.fTO;rcases Z.fz with ⟨e,hz⟩ | ⟨T,b,qd,hz⟩
  ·exact aa (LC hh D hz Z.fTI Qq Z.f1 Z.g1 jF λh' kk=>bv (done h' kk))
  ·obtain ⟨j,hj,ej⟩:=na.mp qd;obtain ⟨x,y,_,_,hp⟩:=Z.fm j T (by rw [ap hj,ej]);exact aa (LB (ys:=ys) (k2:=0) hh D hz hp Z.fTI Z.f1 Z.g1 jF λh' kk=>bv (done h' λb o b1 _ b3 b4 e=>kk b o b1 b3 b4 e))
 | succ k ih =>
  intro Ts s c hk hle Z hT tR Yp hR;have CV:Ts.length < xs.size:=by omega
  have hx:xs[Ts.length]?=some xs[Ts.length]:=Array.getElem?_eq_getElem CV;have hy:ys[Ts.length]?=some (ys[Ts.length]'()):=Array.getElem?_eq_getElem ();refine codeAny_builtin F.entry_extend_loop ?_;rw [PM On _];show wpAny _ A.in1 (pyNext (.ref z) >>= _) _ _ s;simp at hS;obtain ⟨s1,s2,s3,s4,s5,s6,s7⟩:=hS;have hS0:S∉[z,TI,TO,i1,i2,l1,l2]:=by simp;exact ⟨s1,s2,s3,s4,s5,s6,s7⟩
  have Slt:S < s.heap.objs.size:=ii Yp;have step:∀ (h':Heap) (b:Bool),(∃ T,T∈Ts++[s.heap.objs.size]/\Dz h' z TI TO (rawInt T) (.bool b))->(∃ a b,IsPair h' TO a b)->DS tu h' i1 l1 (Ts.length+1)->DS tu h' i2 l2 (Ts.length+1)->IsPair h' s.heap.objs.size xs[Ts.length] (ys[Ts.length]'()) ->
    (∀ b o,b≠z->b≠TO->b≠i1->b≠i2->s.heap.get? b=some o->h'.get? b=some o) ->
    wpAny (model prog w) A.in1 (updateSeq S (·.push (.ref s.heap.objs.size)) >>= λ_=>pure (Fin.again (.builtin "list.extend.loop" ⟨[.ref S,.ref z,res],[]⟩)))
     (λfin s'=>match fin with | .done f=>R (.ok f) s' | .again c'=>c'.quiet=true/\codeAny (model prog w) A c' R s') (λe s'=>R (.error e) s') { s with heap:=h' }:=by
   intro h' b gZ jG h1' jH hp' kk;have jI:h'.get? S=some { cls:=.type "list",dict:=none,data:=.seq (Ts.map Value.ref).toArray c,slots:=#[] }:=kk S _ s1 s3 s4 s5 Yp;refine aa (IM (s:={ s with heap:=h' }) jI rfl (bv ⟨KF On _,?_⟩));have hup:=wS (Obj.mapSeq (·.push (Value.ref s.heap.objs.size))) jI rfl;obtain ⟨c1,jJ⟩:∃ c1,(h'.update S (Obj.mapSeq (·.push (Value.ref s.heap.objs.size)))).get? S=some { cls:=.type "list",dict:=none,data:=.seq ((Ts.map Value.ref).toArray.push (.ref s.heap.objs.size)) c1,slots:=#[] }:=⟨_,hup⟩;have ea:(Ts.map Value.ref).toArray.push (Value.ref s.heap.objs.size)=((Ts++[s.heap.objs.size]).map Value.ref).toArray:=(by simp);rw [ea] at jJ;have HV:∀ b o,b≠S->h'.get? b=some o->(h'.update S (Obj.mapSeq (·.push (Value.ref s.heap.objs.size)))).get? b=some o:=λb o hb e=>(pi _ _ (be hb)).trans e;have Yq:∀ {b o},s.heap.get? b=some o->s.heap.objs.size≠b:=λe=>Nat.ne_of_gt (ii e);have tiz:∃ o,s.heap.get? z=some o:=by
    rcases Z.fz with ⟨_,hz⟩ | ⟨_,_,_,hz⟩
    ·exact ⟨_,hz⟩
    ·exact ⟨_,hz⟩
   obtain ⟨oz,hoz⟩:=tiz;obtain ⟨a0,b0,tS⟩:=Z.fTO;have tU:=Z.f1;obtain ⟨o1,tV⟩:=tU.ex;have tW:=Z.f2;obtain ⟨o2,Yf⟩:=tW.ex;have tX:=Z.g1;obtain ⟨ol1,ao⟩:=tX.ex;have tY:=Z.g2;obtain ⟨ol2,aq⟩:=tY.ex;have hTn:s.heap.objs.size∉[S,z,TI,TO,i1,i2,l1,l2]:=by
    simp;exact ⟨Yq Yp,Yq hoz,Yq Z.fTI,Yq tS,Yq tV,Yq Yf,Yq ao,Yq aq⟩
   have ZZ:∀ T∈Ts++[s.heap.objs.size],T∉[S,z,TI,TO,i1,i2,l1,l2]:=λT h=>by
    rcases bn.mp h with y | y
    ·exact hT T y
    ·rw [al.mp y];exact hTn
   have Z':FR tu h' z TI TO i1 i2 l1 l2 xs ys (Ts++[s.heap.objs.size]):=by
    refine ⟨.inr ?_,kk _ _ D.TIz D.TITO D.TIi1 D.TIi2 Z.fTI,jG,by rw [ca];exact h1',by rw [ca];exact jH,Z.g1.at λo e=>kk _ o D.l1z D.l1TO D.l1i1 D.l1i2 e,Z.g2.at λo e=>kk _ o D.l2z D.l2TO D.l2i1 D.l2i2 e,λj T e=>?_⟩
    ·obtain ⟨T,h1,h2⟩:=gZ;exact ⟨T,b,h1,h2⟩
    ·by_cases hj:j < Ts.length
     ·rw [GE hj] at e;obtain ⟨x,y,e1,e2,e3⟩:=Z.fm j T e;have:=hT T (ci e);simp at this;exact ⟨x,y,e1,e2,kk T _ this.2.1 this.2.2.2.1 this.2.2.2.2.1 this.2.2.2.2.2.1 e3⟩
     ·rw [Gc ()] at e;have Yr:j=Ts.length:=by
       have:=(cr.mp e).1;simp at this;omega
      subst Yr;rw [Nat.sub_self] at e;cases e;exact ⟨_,_,hx,hy,hp'⟩
   have tZ:(Ts++[s.heap.objs.size]).Nodup:=by
    refine L2.VD tR λy=>?_;obtain ⟨j,hj,ej⟩:=na.mp y;obtain ⟨_,_,_,_,e3⟩:=Z.fm j _ (by rw [ap hj,ej]);exact absurd (ii e3) (Sa _)
   refine ih (Ts++[s.heap.objs.size]) { s with heap:=h'.update S (Obj.mapSeq (·.push (Value.ref s.heap.objs.size))) } c1 (by rw [ca];simp;omega) (by rw [ca];simp;omega) (Z'.keep λb o hb e=>HV b o (λzz=>?_) e) ZZ tZ jJ λh2 tk HU c' l2' Ys kk2 My m2 u3=>?_
   ·subst zz;rcases bn.mp hb with y | y
    ·exact hS0 y
    ·exact absurd (Db) (ZZ b y)
   ·refine hR h2 tk HU c' l2' Ys (λb o hb e=>kk2 b o hb (HV b o (λy=>hb (by simp [y])) (by simp at hb;exact kk b o hb.2.1 hb.2.2.1 hb.2.2.2.1 hb.2.2.2.2 e))) My m2 λT UY=>?_;rcases u3 T UY with y | y
    ·rcases bn.mp y with y | y
     ·exact .inl y
     ·right;rw [al.mp y];exact Ps (am _)
    ·right
     cases e:s.heap.get? T with
     | none=>rfl
     | some o =>
      exfalso;have y:(h'.update S (Obj.mapSeq (·.push (Value.ref s.heap.objs.size)))).get? T=none:=y;by_cases q1:T=S
      ·rw [q1,hup] at y;cases y
      ·by_cases q2:T=z
       ·obtain ⟨T0,_,pY⟩:=gZ;rw [q2,HV z _ (be s1) pY] at y;cases y
       ·by_cases q3:T=TO
        ·obtain ⟨_,_,hq⟩:=jG;rw [q3,HV TO _ (be s3) hq] at y;cases y
        ·by_cases q4:T=i1
         ·obtain ⟨oo,u4⟩:=h1'.ex;rw [q4,HV i1 _ (be s4) u4] at y;cases y
         ·by_cases q5:T=i2
          ·obtain ⟨oo,u4⟩:=jH.ex;rw [q5,HV i2 _ (be s5) u4] at y;cases y
          ·rw [HV T o q1 (kk T o q2 q3 q4 q5 e)] at y;cases y
  obtain ⟨a,b,Qq⟩:=Z.fTO;rcases Z.fz with ⟨e,hz⟩ | ⟨T,b,qd,hz⟩
  ·refine aa (K2 D hz Z.fTI Qq Z.f1 Z.f2 Z.g1 Z.g2 hx hy λh' a1 a2 a3 a4 a5 a6 a7=>?_);exact step h' false ⟨_,ir _ (al.mpr rfl),a1⟩ ⟨_,_,a2⟩ a3 a4 a5 λb o b1 b2 b3 b4 e=>a7 b o b1 b2 b3 b4 e
  ·obtain ⟨j,hj,ej⟩:=na.mp qd;obtain ⟨x,y,_,_,hp⟩:=Z.fm j T (by rw [ap hj,ej]);refine aa (K1 D hz hp Z.fTI Z.f1 Z.f2 Z.g1 Z.g2 hx hy λh' a1 a3 a4 a5 a6 a7=>?_);exact step h' true ⟨_,ee _ qd,a1⟩ ⟨_,_,a7 _ _ D.TOz D.TOi1 D.TOi2 Qq⟩ a3 a4 a5 λb o b1 _ b3 b4 e=>a7 b o b1 b3 b4 e
theorem SY:typeLookup (.type "zip") "__len__"=pure none:=by rw [typeLookup_type,OF];kernel_rfl
theorem Qr:typeLookup (.type "zip") "__length_hint__"=pure none:=by rw [typeLookup_type,OF];kernel_rfl
theorem W8 (hT:s.TypeIs (.ref z) "zip")(h:Q true s):wpAny (model prog w) A (Builtin.List.listLengthHint (.ref z)) Q E s:=by
 unfold Builtin.List.listLengthHint;refine aa (wpAny_specialOf hT SY ?_);show wpAny _ A (specialOf (Value.ref z) (Str.ofString "__length_hint__") >>= _) _ _ _;refine aa (wpAny_specialOf hT Qr ?_);exact bv h
theorem Qs (hh:A.handled=none)(D:ZipApart z TI TO i1 i2 l1 l2)(Nq:xs.size=ys.size)(hn:xs.size<=1000)(hz:IsZip s.heap z TI TO .none)(Z:FR tu s.heap z TI TO i1 i2 l1 l2 xs ys [])(S:Addr)(res:Value)(c0:Nat)(hS:s.heap.get? S=some { cls:=.type "list",data:=.seq #[] c0 })(hX:S∉[z,TI,TO,i1,i2,l1,l2])(hR:∀ (h':Heap) (tk:Nat) (HU:List Addr) (c':Nat),HU.length=xs.size->HU.Nodup->(∀ b o,b∉[S,z,TO,i1,i2]->s.heap.get? b=some o->h'.get? b=some o)->h'.get? S=some { cls:=.type "list",dict:=none,data:=.seq (HU.map Value.ref).toArray c',slots:=#[] } ->
   (∀ (j:Nat) (T:Addr),HU[j]?=some T->∃ x y,xs[j]?=some x/\ys[j]?=some y/\IsPair h' T x y)->(∀ T∈HU,s.heap.get? T=none)->R (.ok (.ret res)) { s with heap:=h',toks:=tk }) :
  wpAny (model prog w) A.in1 (Builtin.List.listExtendWith (.ref S) (.ref z) res)
   (λfin s'=>match fin with | .done f=>R (.ok f) s' | .again c'=>c'.quiet=true/\codeAny (model prog w) A c' R s') (λe s'=>R (.error e) s') s:=by
 have hT:s.TypeIs (.ref z) "zip":=⟨_,hz,rfl⟩;have hSz:S≠z:=by simp at hX;exact hX.1
 have key:∀ (h:Heap) (c1:Nat),FR tu h z TI TO i1 i2 l1 l2 xs ys []->(∀ b o,b≠S->s.heap.get? b=some o->h.get? b=some o)->h.get? S=some { cls:=.type "list",data:=.seq #[] c1 } ->
   codeAny (model prog w) A (.builtin "list.extend.loop" ⟨[.ref S,.ref z,res],[]⟩) R { s with heap:=h }:=by
  intro h c1 Z1 hk W9;refine W7 hh D Nq hn hX xs.size [] { s with heap:=h } c1 (by simp) (by simp) Z1 (λT hT=>by cases hT) SC W9 λh' tk HU c' l' hZ kk Lv m' au=>?_;refine hR h' tk HU c' l' hZ (λb o hb e=>kk b o hb (hk b o (λy=>hb (by simp [y])) e)) Lv m' λT ZZ=>?_;rcases au T ZZ with y | y
  ·cases y
  ·cases e:s.heap.get? T with
   | none=>rfl
   | some o =>
    exfalso;have y:h.get? T=none:=y;by_cases q:T=S
    ·rw [q,W9] at y;cases y
    ·rw [hk T o q e] at y;cases y
 unfold Builtin.List.listExtendWith;refine aa (wpAny_typeOf hT ?_);have h1:Builtin.List.listSameRef (.ref S) (.ref z)=false:=by simp [Builtin.List.listSameRef,hSz]
 have h2:(Value.type "zip"==Value.type "list")=false:=by decide
 have h3:(Value.type "zip"==Value.type "tuple")=false:=by decide
 simp only [h1,h2,h3,Bool.or_false,Tl,if_false];refine aa (wpAny_pyIter_zip hz ?_);refine aa (Go (W8 hT ?_));refine wpAny_ite_split (λ_=>?_) (λ_=>bv ⟨KF On _,key _ c0 Z (λb o _ e=>e) hS⟩);refine aa (wpAny_rule ?_);refine aa ?_;show wpAny _ _ (updateSeq S (·.push .none) >>= λ_=>updateSeq S (·.pop)) _ _ _;refine aa (IM hS rfl ?_);have My:=wS (Obj.mapSeq (·.push Value.none)) hS rfl;refine IM (hz:=by seq_fits) My rfl ?_;have u5:=wS (Obj.mapSeq (·.pop)) My rfl;have HV:∀ b o,b≠S->s.heap.get? b=some o->((s.heap.update S (Obj.mapSeq (·.push Value.none))).update S (Obj.mapSeq (·.pop))).get? b=some o:=λb o hb e =>
  (pi _ _ (be hb)).trans ((pi _ _ (be hb)).trans e)
 exact bv ⟨KF On _,key _ _ (Z.keep λb o hb e=>HV b o (λy=>hX (by rw [<- y];simpa using hb)) e) HV u5⟩
theorem IS (hh:A.handled=none)(D:ZipApart z TI TO i1 i2 l1 l2)(Nq:xs.size=ys.size)(hn:xs.size<=1000)(hz:IsZip s.heap z TI TO .none)(Z:FR tu s.heap z TI TO i1 i2 l1 l2 xs ys [])(hQ:∀ (h':Heap) (tk:Nat) (HU:List Addr) (c':Nat),HU.length=xs.size->HU.Nodup->(∀ b o,b∉[z,TO,i1,i2]->s.heap.get? b=some o->h'.get? b=some o)->h'.get? s.heap.objs.size=some { cls:=.type "list",dict:=none,data:=.seq (HU.map Value.ref).toArray c',slots:=#[] } ->
   (∀ (j:Nat) (T:Addr),HU[j]?=some T->∃ x y,xs[j]?=some x/\ys[j]?=some y/\IsPair h' T x y)->(∀ T∈HU,s.heap.get? T=none/\T≠s.heap.objs.size)->Q (.ref s.heap.objs.size) { s with heap:=h',toks:=tk }) :
  wpAny (model prog w) A (call (.type "list") [.ref z]) Q E s:=by
 obtain ⟨a0,b0,Qq⟩:=Z.fTO;have tU:=Z.f1;obtain ⟨o1,tV⟩:=tU.ex;have tW:=Z.f2;obtain ⟨o2,Yf⟩:=tW.ex;have tX:=Z.g1;obtain ⟨ol1,ao⟩:=tX.ex;have tY:=Z.g2;obtain ⟨ol2,aq⟩:=tY.ex;have lt:∀ {b o},s.heap.get? b=some o->s.heap.objs.size≠b:=λe=>Nat.ne_of_gt (ii e);have hX:s.heap.objs.size∉[z,TI,TO,i1,i2,l1,l2]:=by
  simp;exact ⟨lt hz,lt Z.fTI,lt Qq,lt tV,lt Yf,lt ao,lt aq⟩
 refine callType_codes (Q₁:=λobj s1=>obj=.ref s.heap.objs.size/\s1={ s with heap:=s.heap.push { cls:=.type "list",data:=.seq #[] } }) F.called_list (F.typeCall_list_1 _) F.entry_list_init (code_list_new _ ⟨rfl,rfl⟩) λobj s1 q1=>?_;obtain ⟨rfl,rfl⟩:=q1;have hS:(s.heap.push { cls:=.type "list",data:=.seq #[] }).get? s.heap.objs.size=some { cls:=.type "list",data:=.seq #[] }:=io _ rfl;refine ⟨⟨_,hS,rfl⟩,F.args_list_init_2 _ _,?_⟩;show wpAny _ _ (do let old <- Builtin.List.listItems (.ref s.heap.objs.size);Builtin.List.listUpdate (.ref s.heap.objs.size) (λ_=>#[]);letGo old.toList.reverse;Builtin.List.listExtendWith (.ref s.heap.objs.size) (.ref z) .none) _ _ _
 refine aa ?_;unfold Builtin.List.listItems;refine aa (Ch hS rfl (bv ?_));show wpAny _ _ (updateSeq s.heap.objs.size (λ_=>#[]) >>= λ_=>letGo (#[]:Array Value).toList.reverse >>= λ_=>Builtin.List.listExtendWith (.ref s.heap.objs.size) (.ref z) .none) _ _ _;refine aa (IM hS rfl ?_);have My:=wS (Obj.mapSeq (λ_=>(#[]:Array Value))) hS rfl;have HV:∀ b o,b≠s.heap.objs.size->s.heap.get? b=some o->((s.heap.push { cls:=.type "list",data:=.seq #[] }).update s.heap.objs.size (Obj.mapSeq (λ_=>(#[]:Array Value)))).get? b=some o :=
  λb o hb e=>(pi _ _ (be hb)).trans (ac _ e)
 refine aa (wpAny_letGo ?_);have Z2:=Z.keep (h':=(s.heap.push { cls:=.type "list",data:=.seq #[] }).update s.heap.objs.size (Obj.mapSeq (λ_=>(#[]:Array Value)))) λb o _ e=>HV b o (be (lt e)) e;refine Qs (A:=A.in1) hh D Nq hn (HV _ _ (be (lt hz)) hz) Z2 _ .none _ My hX λh' tk HU c' l' hZ hk Lv m' au=>?_;refine ⟨rfl,hQ h' tk HU c' l' hZ (λb o hb e=>hk b o (λy=>?_) (HV b o (be (lt e)) e)) Lv m' λT hT=>?_⟩
 ·rcases gz.mp y with y | y
  ·exact lt e y.symm
  ·exact hb y
 ·have UY:=au T hT;have DT:T≠s.heap.objs.size:=λy=>by rw [y,My] at UY;cases UY
  refine ⟨?_,DT⟩;cases e:s.heap.get? T with
  | none=>rfl
  | some o=>rw [HV T o DT e] at UY;cases UY
end
end PySem
namespace L2
open PySem PySem.Spec PyProof.Rows KS
structure av (X:Cx)(pins:List (Addr × Obj))(a:Addr):Prop where
 ent:X.s₀.heap.get? a=none
 loc:a≠X.env.locals
 cel:∀ x c,X.env.cells.lookup x=some c->c≠a
 pin:∀ p∈X.pn++pins,p.1≠a
theorem Inv.ab5 {X:Cx}{pins:List (Addr × Obj)}{σ:St}{H:Hp}{s:Shared}(hex:X.ex=[])(I:Inv X pins σ H s){a:Addr}(h:s.heap.get? a=none):av X pins a where
 ent:=by
  cases e:X.s₀.heap.get? a with
  | none=>rfl
  | some o =>
   obtain ⟨o',e'⟩:=I.base.there a o e (by rw [hex];simp);rw [h] at e';cases e'
 loc:=λz=>by
  obtain ⟨m,⟨o,_,_,e,_⟩,_⟩:=I.loc;rw [<- z,h] at e;cases e
 cel:=λx c hx z=>by
  obtain ⟨v,o,e,_⟩:=I.cell x c hx;rw [z,h] at e;cases e
 pin:=λp hp z=>by
  have:=(I.pin p hp).1;rw [z,h] at this;cases this
theorem Inv.abd {X:Cx}{pins:List (Addr × Obj)}{σ:St}{s:Shared}:∀ (qs:List (Addr × V × V)) (H:Hp),Inv X pins σ H s->(∀ q∈qs,H q.1=none/\av X pins q.1/\∃ x y,RelV q.2.1 x/\RelV q.2.2 y/\IsPair s.heap q.1 x y)->(qs.map (·.1)).Nodup ->
  ∃ H2,Inv X pins σ H2 s/\Ai H H2/\(∀ q∈qs,H2 q.1=some (.tup [q.2.1,q.2.2]))/\∀ b,b∉qs.map (·.1)->H2 b=H b
 | [],H,I,_,_=>⟨H,I,Ai.refl H,(λq hq=>by cases hq),λ_ _=>rfl⟩
 | q::qs,H,I,hq,nd=>by
  obtain ⟨hn,N,x,y,rx,ry,hp⟩:=hq q Db;obtain ⟨n1,n2⟩:=Ix.mp nd;have I1:Inv X pins σ (upd H q.1 (.tup [q.2.1,q.2.2])) s:=I.aao hn N.ent N.loc N.cel N.pin ⟨by show 2<=sizeLine;rw [Sc];decide,[x,y],.cons rx (.cons ry .nil),⟨_,hp,rfl,_,rfl⟩⟩;obtain ⟨H2,I2,sm,ht,fr⟩:=Inv.abd qs _ I1 (λr hr=>by
   obtain ⟨a1,a2,a3⟩:=hq r (Da _ hr);have DT:r.1≠q.1:=λz=>n1 (ln.mpr ⟨r,hr,z⟩);exact ⟨by rw [Ac DT];exact a1,a2,a3⟩) n2
  refine ⟨H2,I2,Ai.trans (Ai.new hn) sm,λr hr=>?_,λb hb=>?_⟩
  ·rcases gz.mp hr with z | z
   ·rw [z];exact sm _ _ Ad
   ·exact ht r z
  ·have jK:b≠q.1/\b∉qs.map (·.1):=(by simpa [not_or] using hb);rw [fr b jK.2,Ac jK.1]
noncomputable def LD (ta:TA):TE:=fun σ H Q=>ta σ H λvs H1=>∃ p q xs ys,vs=[.ref p,.ref q]/\((H1 p=some (.lst xs)/\H1 q=some (.lst ys))\/(H1 p=some (.tup xs)/\H1 q=some (.tup ys)))/\xs.length=ys.length/\xs.length<=1000 /\
 ∀ (l:Addr) (ts:List Addr) (H2:Hp),H1 l=none->Ai H1 H2->H2 l=some (.lst (ts.map V.ref))->ts.length=xs.length->(∀ (j:Nat) (t:Addr),ts[j]?=some t->∃ x y,xs[j]?=some x/\ys[j]?=some y/\H2 t=some (.tup [x,y]))->Q (.ref l) H2
theorem ax (n p q:Nat)(h1:p < n)(h2:q < n):ZipApart (n+4) (n+2) (n+3) n (n+1) p q:=by
 constructor <;> (intro z;have z':((_:Nat)=_):=z;omega)
theorem Jr:∀ ts:List Addr,Vals (ts.map V.ref) (ts.map Value.ref)
 | []=>.nil
 | t::ts=>.cons rfl (Jr ts)
section
variable {X:Cx}
theorem Nr (hc:X.calm=true)(hex:X.ex=[])(SH:Gl X "list")(SJ:X.mg "list"=none)(u6:Gl X "zip")(u7:X.mg "zip"=none)(ha:PA X [a,b] ta)(hs:starEach [a,b] X.env=(false,eval a X.env)::starEach [b] X.env:=by rfl)(Er:(backTo Ct (starEach [b] X.env)).any (·.1)=false:=by rfl)(he:starEach [.Call (.Name "zip" p2) [a,b] [] Ct] X.env=(false,eval (.Call (.Name "zip" p2) [a,b] [] Ct) X.env)::starEach [] X.env:=by rfl) :
  PE X (.Call (.Name "list" p1) [.Call (.Name "zip" p2) [a,b] [] Ct] [] FP) (LD ta):=by
 intro pins s σ H Q I h;refine FS (CU I SH SJ boot_list ?_);refine u8 ?_ he rfl;rw [he];show wpAny _ _ (spliced ((false,eval (.Call (.Name "zip" p2) [a,b] [] Ct) X.env)::backTo FP (starEach [] X.env))) _ _ s;refine OK ?_;refine FS (CU I u6 u7 boot_zip (u8 (Bc (ha Ct pins s σ H _ I h) λus s1 q1=>?_) hs Er));obtain ⟨vs,H1,I1,r1,p,q,xs,ys,rfl,jL,Nq,hn,fin⟩:=q1;obtain ⟨u,u',rfl,ru,jv⟩:=vals2 r1;obtain rfl:u=Value.ref p:=ru;obtain rfl:u'=Value.ref q:=jv;obtain ⟨tu,its,its',rv,i5,L1,L2⟩:∃ (tu:Bool) (its its':List Value),Vals xs its/\Vals ys its'/\EW tu s1.heap p its.toArray/\EW tu s1.heap q its'.toArray:=by
  rcases jL with ⟨hp,hq⟩ | ⟨hp,hq⟩
  ·obtain ⟨its,n1,rv,ho,_⟩:=I1.lst hp;obtain ⟨its',n2,i5,PN,_⟩:=I1.lst hq;exact ⟨false,its,its',rv,i5,(show s1.heap.IsList p its.toArray from ⟨_,ho,rfl,n1,rfl⟩),(show s1.heap.IsList q its'.toArray from ⟨_,PN,rfl,n2,rfl⟩)⟩
  ·obtain ⟨o,its,n,rv,ho,hc,hd⟩:=OO I1.hok hp;obtain ⟨o',its',n',i5,PN,CS,Rv⟩:=OO I1.hok hq;exact ⟨true,its,its',rv,i5,(show s1.heap.IsTuple p its.toArray from ⟨o,ho,hc,n,hd⟩),(show s1.heap.IsTuple q its'.toArray from ⟨o',PN,CS,n',Rv⟩)⟩
 have hl:=rv.length;have gV:=i5.length;obtain ⟨o1,ho⟩:=L1.ex;obtain ⟨o2,PN⟩:=L2.ex;refine W6 L1 L2 λh1 a1 a2 a3 a4 a5 a6 a7=>?_;refine Calls.spliced_nil ?_;have lp:p < s1.heap.objs.size:=ii ho;have lq:q < s1.heap.objs.size:=ii PN;have I2:Inv X pins σ H1 { s1 with heap:=h1,toks:=s1.toks }:=I1.kept a7;have D:ZipApart (s1.heap.objs.size+4) (s1.heap.objs.size+2) (s1.heap.objs.size+3) s1.heap.objs.size (s1.heap.objs.size+1) p q:=ax _ _ _ lp lq;have Z:FR tu h1 (s1.heap.objs.size+4) (s1.heap.objs.size+2) (s1.heap.objs.size+3) s1.heap.objs.size (s1.heap.objs.size+1) p q its.toArray its'.toArray [] :=
  ⟨.inl ⟨rfl,a1⟩,a2,⟨_,_,a3⟩,a4,a5,L1.at λo e=>a7 _ o e,L2.at λo e=>a7 _ o e,λj T e=>by simp at e⟩
 refine IS (s:={ s1 with heap:=h1 }) (I.ok.hd hc) D (by simp;omega) (by simp;omega) a1 Z λh' tk Ts c' hT nd hk hS hm new=>?_;have fresh:∀ k,H1 (s1.heap.objs.size+k)=none:=λk=>I1.hok.fresh (Nat.le_add_right _ _);have I3:Inv X pins σ H1 { s1 with heap:=h',toks:=tk }:=by
  refine I2.abe (s':={ s1 with heap:=h',toks:=tk }) (ch:=[s1.heap.objs.size+4,s1.heap.objs.size+3,s1.heap.objs.size,s1.heap.objs.size+1]) rfl ⟨λb o e _ _ hb=>hk b o hb e,λb o e _ _ hb=>⟨o.slots,hk b o hb e⟩,λb o e n _=>n,λb o e hb=>⟨o,hk b o hb e⟩,λ_ _ z=>z,λ_ _ _ z=>z,λb ps z=>⟨#[],by rw [z];simp⟩⟩ ?_ I2.bare ?_
  ·intro b u e;have hb:∀ c,(∃ u,H1 c=some u)->c∉[s1.heap.objs.size+4,s1.heap.objs.size+3,s1.heap.objs.size,s1.heap.objs.size+1]:=λc ⟨u,hu⟩ CS=>by
    simp at CS;have:=fresh 0;have:=fresh 1;have:=fresh 3;have:=fresh 4;rcases CS with z | z | z | z <;> (rw [z] at hu;simp_all)
   exact (I2.hok b u e).aa0 (λc v CS q=>hk c v (hb c (by
    rcases CS with rfl | z
    ·exact ⟨u,e⟩
    ·exact ⟨_,z⟩)) q) (λ_ q=>q) λ_ _ q=>q
  ·intro b hb;simp at hb;have key:∀ k,GO X pins H1 (s1.heap.objs.size+k):=λk=>I1.aa7 (Nat.le_add_right _ _) (fresh k);have:GO X pins H1 b:=by
    rcases hb with rfl | rfl | rfl | rfl
    ·exact key 4
    ·exact key 3
    ·exact key 0
    ·exact key 1
   obtain ⟨_,f1,_,f3,f4,f5⟩:=this;exact ⟨f3,f1,f4,f5⟩
 have pr:∃ qs:List (Addr × V × V),qs.map (·.1)=Ts/\∀ (j:Nat) (q:Addr × V × V),qs[j]?=some q->xs[j]?=some q.2.1/\ys[j]?=some q.2.2:=by
  have hTl:Ts.length=xs.length:=by rw [hT];simp;omega
  refine ⟨(Ts.zip (xs.zip ys)),?_,λj q hj=>?_⟩
  ·rw [List.map_fst_zip];rw [List.length_zip];omega
  ·obtain ⟨h1,h2⟩:=List.getElem?_zip_eq_some.mp hj;obtain ⟨h3,h4⟩:=List.getElem?_zip_eq_some.mp h2;exact ⟨h3,h4⟩
 obtain ⟨qs,eq,hqs⟩:=pr;have news:∀ T∈Ts,h1.get? T=none/\T≠h1.objs.size:=new;obtain ⟨H2,I4,sm,ht,fr⟩:=I3.abd qs H1 (λq Zy=>by
  obtain ⟨j,hj,ej⟩:=na.mp Zy;have Yr:qs[j]?=some q:=by rw [ap hj,ej]
  obtain ⟨x1,x2⟩:=hqs j q Yr;have hTj:Ts[j]?=some q.1:=by rw [<- eq,jp,Yr];rfl
  obtain ⟨x,y,e1,e2,e3⟩:=hm j q.1 hTj;obtain ⟨u1,hu1,r1⟩:=rv.get x1;obtain ⟨u2,hu2,r2⟩:=i5.get x2;simp at e1 e2;rw [hu1] at e1;rw [hu2] at e2;cases e1;cases e2;have hn0:=(news q.1 (ci hTj)).1;refine ⟨?_,I2.ab5 hex hn0,_,_,r1,r2,e3⟩;cases z:H1 q.1 with
  | none=>rfl
  | some u =>
   obtain ⟨o,ho⟩:=Lo (I2.hok q.1 u z);have ho:h1.get? q.1=some o:=ho;rw [hn0] at ho;cases ho) (by rw [eq];exact nd)
 have nl:H2 h1.objs.size=none:=by
  rw [fr _ (by rw [eq];exact λz=>(news _ z).2 rfl)];exact I2.hok.fresh (am _)
 have NL:av X pins h1.objs.size:=I2.ab5 hex (Ps (am _));have I5:Inv X pins σ (upd H2 h1.objs.size (.lst (Ts.map V.ref))) { s1 with heap:=h',toks:=tk }:=I4.aao nl NL.ent NL.loc NL.cel NL.pin ⟨by rw [ba,hT];simp;rw [Sc];omega,Ts.map Value.ref,c',Jr Ts,hS⟩;refine ⟨.ref _,_,I5,rfl,fin _ Ts _ (I2.hok.fresh (am _)) (Ai.trans sm (Ai.new nl)) Ad (by rw [hT];simp;omega) λj t hj=>?_⟩;have Yr:∃ q,qs[j]?=some q/\q.1=t:=by
  rw [<- eq,jp] at hj;cases e:qs[j]? with
  | none=>rw [e] at hj;cases hj
  | some q=>rw [e] at hj;exact ⟨q,rfl,ss hj⟩
 obtain ⟨q,e1,e2⟩:=Yr;obtain ⟨x1,x2⟩:=hqs j q e1;refine ⟨_,_,x1,x2,?_⟩;have:=ht q (ci e1);rw [e2] at this;rw [Ac (Ab this nl)];exact this
theorem Qt (hc:X.calm=true)(hex:X.ex=[])(SH:Gl X "list")(SJ:X.mg "list"=none)(u6:Gl X "zip")(u7:X.mg "zip"=none)(ha:SA X [a,b] ta)(hs:starEach [a,b] X.env=(false,eval a X.env)::starEach [b] X.env:=by rfl)(Er:(backTo Ct (starEach [b] X.env)).any (·.1)=false:=by rfl)(he:starEach [.Call (.Name "zip" p2) [a,b] [] Ct] X.env=(false,eval (.Call (.Name "zip" p2) [a,b] [] Ct) X.env)::starEach [] X.env:=by rfl) :
  SE X (.Call (.Name "list" p1) [.Call (.Name "zip" p2) [a,b] [] Ct] [] FP) (LD ta):=⟨Nr hc hex SH SJ u6 u7 ha.out hs Er he⟩
end
noncomputable def GJ (v d:Addr):HO:=.ext λh=>h.IsItemsView v d
theorem GJ.ok (e:h.IsItemsView v d):B6 P w H h v (GJ v d):=by
 obtain ⟨o,h1,h2⟩:=id e;exact ⟨e,⟨o,h1⟩,λa b ⟨o',e1,e2⟩ k=>⟨o',k o' e1,e2⟩⟩
noncomputable def ay:V->List V->Hp->VK->Prop:=λx vs H Q=>∃ d kvs,x=.ref d/\vs=[]/\H d=some (.dK kvs)/\∀ v,H v=none->Q (.ref v) (upd H v (GJ v d))
section
variable {X:Cx}
theorem HW:pP X "dict.items" ay:=by
 intro pins s σ H x vs v us Q I rx rv h;obtain ⟨d,kvs,rfl,rfl,hH,q⟩:=h;cases rx;have sL:=rv.zero;subst sL;obtain ⟨_,hs,ws,r,hd⟩:=I.hok d _ hH;refine call_meetsIn F.slot_dict_items hd.typeIs F.entry_dict_items (F.args_dict_items_1 _) (meets_dict_items (B1 X.prog X.w) d hs) ⟨⟨_,hd⟩,?_⟩;have hn:H s.heap.objs.size=none:=I.fresh;exact ⟨.ref _,_,I.laid (λ_ _ q=>ac _ q) (am _) (GJ.ok ⟨_,io _ rfl,rfl,rfl⟩),rfl,q _ hn⟩
end
noncomputable def jM (o:Obj)(d:Addr)(kvs:List (Key × V)):It :=
 ⟨λi H=>H d=some (.frz o (.dK kvs))/\i < kvs.length,λi H x H'=>∃ T p,H T=none/\kvs[i]?=some p/\x=.ref T/\H'=upd H T (.tup [kV p.1,p.2]),λi H=>H d=some (.frz o (.dK kvs))/\kvs.length<=i⟩
theorem Nt {P:Program}{w:World}{K:W.Frag}{elts:List Expr}{x1}{pos:Pos}{o:Obj}{d it:Addr}{kvs:List (Key × V)}{es:Array DictEntry}{ep:Nat}(he:o.data=.dict es ep):Turn P w K (.Tuple elts x1 pos) (jM o d kvs) [it] it (λi h=>∃ ok ov,IsItemIter h it d i kvs.length ep ok ov) where
 mem:=by simp
 obj:=λi h st b hb=>by
  have e:b=it:=by simpa using hb
  subst e;obtain ⟨ok,ov,st⟩:=st;exact ⟨_,st,λv z=>by
   have z':Data.fields _=Data.cell v:=z;cases z'⟩
 keep:=λi h h' ⟨ok,ov,st⟩ k=>⟨ok,ov,k it (by simp) _ st⟩
 item:=by
  intro X hP hw hK hc i pins s σ H E I hf st hg;subst hP hw hK;obtain ⟨hd,hi⟩:=hg;obtain ⟨ok,ov,st⟩:=st;obtain ⟨vs,r,ha⟩:=I.dictAt hd he;obtain ⟨f0,f1,f2,f3,f4,f5⟩:=hf it (by simp);have hl:=r.length;have hx:kvs[i]?=some kvs[i]:=ap hi;obtain ⟨v,hv,rv⟩:=r.at hx;rw [hl] at st;refine wpAny_pyNext_items_item st ha hv λkey h' hk G5 hT hsz kk=>⟨_,rfl,?_⟩;refine wpAny_letOwnedTupleGo_items (s:={ s with heap:=h' }) G5 λh2 Y9 sb=>?_;rw [<- hl] at Y9;have I1:Inv X pins σ H { s with heap:=h' }:=I.turned (t':=s.toks) (λb o hb e=>kk b o hb e) f0 f1 f3 f4 f5;have I2:Inv X pins σ H { s with heap:=h2 }:=I1.turned (t':=s.toks) (λb o hb e=>(sb.2 b hb).trans e) f0 f1 f3 f4 f5;have lit:it≠s.heap.objs.size:=dL (ii st);have hn:H s.heap.objs.size=none:=I.hok.fresh (am _);obtain ⟨_,g1,_,_,g4,g5⟩:=I.aa7 (H':=H) (am _) hn;have h2T:h2.get? s.heap.objs.size=some { cls:=.type "tuple",data:=.seq #[key,v] }:=(sb.2 _ (be lit)).trans hT;have I3:Inv X pins σ (upd H s.heap.objs.size (.tup [kV kvs[i].1,kvs[i].2])) { s with heap:=h2 } :=
   I2.aao hn (Ps I.sz) g1 g4 g5 ⟨by show 2<=sizeLine;rw [Sc];decide,[key,v],.cons (SM hk) (.cons rv .nil),⟨_,h2T,rfl,_,rfl⟩⟩
  refine ⟨.ref s.heap.objs.size,_,I3,rfl,⟨_,_,hn,hx,rfl,rfl⟩,⟨_,_,Y9⟩,λb hb=>?_⟩;have e:b=it:=by simpa using hb
  rw [e,Ac lit];exact f0
 done:=by
  intro X hP hw hK hc i pins s σ H E I hf st hg;subst hP hw hK;obtain ⟨hd,hi⟩:=hg;obtain ⟨ok,ov,st⟩:=st;obtain ⟨vs,r,ha⟩:=I.dictAt hd he;obtain ⟨f0,f1,f2,f3,f4,f5⟩:=hf it (by simp);have hl:=r.length;rw [hl] at st;exact wpAny_pyNext_items_end (I.ok.hd hc) st ha (by rw [List.getElem?_eq_none_iff];omega) λh' eb=>⟨rfl,I.turned (t':=s.toks) (λb o hb e=>eb b o hb e) f0 f1 f3 f4 f5⟩
 self:=λ_ _ _ _ _ ⟨_,_,st⟩ h=>W.kcp_self st h
section
variable {X:Cx}{elts:List Expr}{x1}{Q6:Pos}
noncomputable def az (te:TE):TI:=fun σ H R=>te σ H λx H1=>∃ v d kvs,x=.ref v/\H1 v=some (GJ v d)/\H1 d=some (.dK kvs)/\∀ o,R (jM o d kvs) (upd H1 d (.frz o (.dK kvs)))
theorem K3 (hl:SE X l te):SI X (.Tuple elts x1 Q6) l (az te):=⟨by
 intro pins s σ H R I h;refine Bc (hl.out pins s σ H _ I h) λv s1 AR=>?_;obtain ⟨x,H1,I1,r1,q1⟩:=AR;obtain ⟨vw,d,kvs,e,hv,hd,q⟩:=q1;subst e;cases r1;obtain ⟨_,hs,vs,r,o,es,ep,e1,e2,e3,e4⟩:=id (I1.hok d _ hd);have I2:=I1.freeze hd e1;obtain ⟨vs,r,ha⟩:=I2.dictAt Ad e3;have view:s1.heap.IsItemsView vw d:=(I1.hok vw _ hv).1;refine wpAny_pyIter_items view ha ?_;refine ⟨s1.heap.objs.size,[s1.heap.objs.size],_,_,_,rfl,I2.kept (t':=s1.toks) λb o e=>ac _ e,Nt e3,⟨.none,.none,?_⟩,λb hb=>?_,q o⟩
 ·show (s1.heap.push _).get? s1.heap.objs.size=_;rw [io _ rfl,r.length];rfl
 ·have e:b=s1.heap.objs.size:=by simpa using hb
  subst e;exact I2.aa7 (am _) (I2.hok.fresh (am _))⟩
end
theorem Gj {o:Obj}{d:Addr}{kvs:List (Key × V)}{g:TG}{tb:TS}{D:Ends}{σ:St}{H:Hp}(Pv:Nat->St->Hp->Prop)(h0:Pv 0 σ H)(hl:∀ i σ H,i<=kvs.length->Pv i σ H->H d=some (.frz o (.dK kvs)))
  (hs:∀ i p σ H T,kvs[i]?=some p->Pv i σ H->H T=none->g (.ref T) σ (upd H T (.tup [kV p.1,p.2])) fun σ2 H2=>tb { D with nx:=Pv (i+1),ct:=Pv (i+1),bk:=D.nx } σ2 H2) (hd:∀ σ H,Pv kvs.length σ H->D.nx σ H) :
  ∃ W:Nat->Nat->St->Hp->Prop,(∃ m,W 0 m σ H)/\∀ i m σ H,W i m σ H ->
   ((jM o d kvs).stop i H/\D.nx σ H)\/((jM o d kvs).go i H/\∃ N:St->Hp->Prop,(∀ σ' H',N σ' H'->∃ m',m' < m/\W (i+1) m' σ' H')/\∀ x H',(jM o d kvs).yld i H x H'->g x σ H' fun σ2 H2=>tb { D with nx:=N,ct:=N,bk:=D.nx } σ2 H2):=by
 refine ⟨λi m σ H=>m=kvs.length - i/\i<=kvs.length/\Pv i σ H,⟨kvs.length,by simp,mi _,h0⟩,?_⟩;rintro i m σ H ⟨rfl,hi,p⟩;have q:=hl i σ H hi p;by_cases CV:i < kvs.length
 ·refine .inr ⟨⟨q,CV⟩,Pv (i+1),fun σ' H' p'=>⟨kvs.length - (i+1),(),rfl,CV,p'⟩,λx H' y=>?_⟩;obtain ⟨T,p',hT,hp,e,e2⟩:=y;subst e e2;exact hs i p' σ H T hp p hT
 ·obtain rfl:i=kvs.length:=by omega
  exact .inl ⟨⟨q,am _⟩,hd σ H p⟩
end L2
namespace KG
variable {α:Type}
noncomputable def IE (sz:α->Nat):List α->Nat
 | []=>0
 | t::ts=>sz t+IE sz ts
variable {kids:α->List α}{sz:α->Nat}
end KG
namespace L2
open PySem PySem.Spec PyProof.Rows KS
open PySem.W (fnMade fnX envX CodeHd tabObj makeFunction_K makeFunction_hit nestDef_K FnAt callWith_F)
theorem Qu {R:List Value->Prop}(h:∀ a0,R [a0]):∀ us:List Value,us.length=1->R us:=by
 intro us e;cases us with
 | nil=>cases e
 | cons a t=>cases List.eq_nil_of_length_eq_zero (Nat.succ.inj e);exact h a
theorem Nu {R:List Value->Prop}(h:∀ a0 a1,R [a0,a1]):∀ us:List Value,us.length=2->R us:=by
 intro us e;cases us with
 | nil=>cases e
 | cons a t=>exact Qu (R:=λt=>R (a::t)) (h a) t (Nat.succ.inj e)
theorem Nv {R:List Value->Prop}(h:∀ a0 a1 a2,R [a0,a1,a2]):∀ us:List Value,us.length=3->R us:=by
 intro us e;cases us with
 | nil=>cases e
 | cons a t=>exact Nu (R:=λt=>R (a::t)) (h a) t (Nat.succ.inj e)
theorem aA {R:List Value->Prop}(h:∀ a0 a1 a2 a3,R [a0,a1,a2,a3]):∀ us:List Value,us.length=4->R us:=by
 intro us e;cases us with
 | nil=>cases e
 | cons a t=>exact Nv (R:=λt=>R (a::t)) (h a) t (Nat.succ.inj e)
theorem u9 {R:List Value->Prop}(h:∀ a0 a1 a2 a3 a4,R [a0,a1,a2,a3,a4]):∀ us:List Value,us.length=5->R us:=by
 intro us e;cases us with
 | nil=>cases e
 | cons a t=>exact aA (R:=λt=>R (a::t)) (h a) t (Nat.succ.inj e)
end L2
namespace L2
open PySem PySem.Spec PyProof.Rows KS
section
variable {X:Cx}{k:Nat}{f C:Addr}{fd:FuncData}{ps:List Str}{sp:Sp}{m:Str}{o:Expr}{ta:TE}{pos apos:Pos}
theorem Wa (he:SE X o ta)(c:ID X.K C)(hm:Meth X.K C m f)(F:Au X.prog X.w X.K X.mg X.base AN k f fd ps sp)(hr:Ax k X.A)(hb:Binds X.K fd ps [])(ht:eval (.Call (.Attribute o m apos) [] [] pos) X.env=(do
   let ov <- eval o X.env
   standAt apos.atName
   let (f,first) <- holding [ov] (getMethod ov m pl)
   callWith pos f first (backTo pos (starEach [] X.env)) (backToKw pos (keywordEach [] X.env))):=by rfl) :
  SE X (.Call (.Attribute o m apos) [] [] pos) (DD C m sp [] E0 ta Di):=⟨Lb he.out c hm F hr hb .nil Jd ht⟩
end
noncomputable def LF (n:Nat)(o:HO)(H1:Hp)(Q:VK):Prop:=n<=sizeLine/\∀ p,H1 p=none->Q (.ref p) (upd H1 p o)
section
variable {σ:St}{H:Hp}{Q:VK}{QB:Bool->Hp->Prop}{D:Ends}
theorem T1 (h:σ[i]?=some (some v))(q:Q v H):AS i σ H Q:=⟨v,h,q⟩
theorem ua (q:Q v H):tC v σ H Q:=q
theorem Ab3 (q:ta σ H λx H1=>tb σ H1 λy H2=>r x y H2 Q):G7 r ta tb σ H Q:=q
theorem Ab4 (q:ta σ H λx H1=>r x H1 Q):su r ta σ H Q:=q
theorem jN (c:C i j)(q:Q (g i j) H):rI C g (.int i) (.int j) H Q:=⟨i,j,rfl,rfl,c,q⟩
theorem ub (q:Q (g i j) H):RL g (.int i) (.int j) H Q:=⟨i,j,rfl,rfl,q⟩
theorem Ab5 (q:Q (g i) H):rU g (.int i) H Q:=⟨i,rfl,q⟩
theorem uc (h:Vk x y=true)(q:Q (.bl (decide (x=y))) H):rEq x y H Q:=⟨h,q⟩
theorem ud (h:Vk x y=true)(q:Q (.bl (!decide (x=y))) H):rNe x y H Q:=⟨h,q⟩
theorem qe (q:t σ H λx H'=>∃ k,x=.bl k/\QB k H'):L7 t σ H QB:=q
theorem Ab6 (q:t σ H λx H'=>∃ k,x=.bl k/\QB k H'):tB t σ H QB:=q
theorem Ab7 {b:Bool}{P:Bool->Prop}(q:P b):∃ k,V.bl b=V.bl k/\P k:=⟨b,rfl,q⟩
theorem ue (q:t σ H λc H1=>QB (!c) H1):Z6 t σ H QB:=q
theorem ug (q:t σ H λc H1=>if c=true then u σ H1 QB else QB false H1):Z5 t u σ H QB:=q
theorem Ab8 (q:t σ H λc H1=>if c=true then QB true H1 else u σ H1 QB):rX t u σ H QB:=q
theorem Ab9 (q:t σ H λc H1=>if c=true then ta σ H1 Q else tb σ H1 Q):rY t ta tb σ H Q:=q
theorem qf (q:ta σ H λx H1=>∃ c,x=.bl c/\if c=true then tb σ H1 Q else Q (.bl false) H1):Rz ta tb σ H Q:=q
theorem i6 (q:te σ H λx H1=>u D (σ.set i (some x)) H1):C8 (PQ te (Cn i)) u D σ H:=q
theorem T2 (q:te σ H λx H1=>D.nx (σ.set i (some x)) H1):PQ te (Cn i) D σ H:=q
theorem i7 (q:c σ H λb H1=>if b=true then t { D with nx:=u D } σ H1 else u D σ H1):C8 (RD c t RB) u D σ H:=q
theorem uh (q:c σ H λb H1=>if b=true then t D σ H1 else u D σ H1):RD c t u D σ H:=q
theorem aB (q:te σ H λ_ H1=>u D σ H1):C8 (Oc te) u D σ H:=q
theorem qg (q:te σ H λ_ H1=>D.nx σ H1):Oc te D σ H:=q
theorem ui (q:te σ H D.rt):RC te D σ H:=q
theorem uj {Q:List V->Hp->Prop}(q:Q [] H):Di σ H Q:=q
theorem qh {Q:List V->Hp->Prop}(q:te σ H λx H1=>t σ H1 λxs H2=>Q (x::xs) H2):Br te t σ H Q:=q
theorem uk (q:t σ H λxs H1=>LF xs.length (.tup xs) H1 Q):Q8 t σ H Q:=q
theorem um (q:t σ H λxs H1=>LF xs.length (.lst xs) H1 Q):Zv t σ H Q:=q
theorem qi (q:t σ H λvs H1=>sp vs H1 Q E):FF sp [] E t σ H Q:=by
 have e:(λvs H1=>sp (vs++[]) H1 Q E)=λvs H1=>sp vs H1 Q E:=by funext vs H1;rw [G2]
 show t σ H λvs H1=>sp (vs++[]) H1 Q E;rw [e];exact q
theorem Aca (q:t σ H λvs H1=>r vs H1 Q):ZA r t σ H Q:=q
theorem T3 {K:W.Frag}{p:Addr}{xs:List V}{i:Int}{v:V}(h:AI K H p xs)(e:Oz xs i=some v)(q:Q v H):Du K (.ref p) (.int i) H Q:=⟨p,xs,i,v,rfl,rfl,h,e,q⟩
theorem aE {K:W.Frag}{p:Addr}{xs:List V}{i:Int}{v:V}(h:BL K H p xs)(e:Oz xs i=some v)(q:Q v H):GQ K (.ref p) (.int i) H Q:=⟨p,xs,i,v,rfl,rfl,h,e,q⟩
theorem An {K:W.Frag}{p:Addr}{xs:List V}{i:Int}{v:V}(h:H p=some (.tup xs))(e:Oz xs i=some v)(q:Q v H):GQ K (.ref p) (.int i) H Q:=aE (BL.of h) e q
theorem DF {K:W.Frag}{p:Addr}{xs:List V}{i:Int}(h:AI K H p xs)(h0:0<=i)(h1:i < xs.length)(q:∀ v,v∈xs->Q v H):Du K (.ref p) (.int i) H Q:=by
 obtain ⟨v,hv,hm⟩:=Sv h0 h1;exact ⟨p,xs,i,v,rfl,rfl,h,hv,q v hm⟩
end
theorem jO {c:Prop}[Decidable c]{A T R:Prop}(hR:R)(hA:c->R->A):if c then A else (if false=true then T else R):=by
 by_cases h:c
 ·rw [if_pos h];exact hA h hR
 ·rw [if_neg h];exact Bx hR
theorem qj {c:Prop}[Decidable c]{A T R:Prop}(hT:T)(hA:¬ c->T->A):if c then (if true=true then T else R) else A:=by
 by_cases h:c
 ·rw [if_pos h];exact CQ hT
 ·rw [if_neg h];exact hA h hT
theorem Nw (n:Nat):((n+1:Nat):Int) - 1=(n:Int):=by omega
theorem DU (h:n<=16777216):n<=sizeLine:=B8▸h
theorem Ei (h:n < 16777216):n < sizeLine:=B8▸h
end L2
local macro_rules | `(tactic| fail)=>do
 let mut r<- `(tactic| with_reducible refine L2.Aca ?_)
 for s in "L2.qi L2.um L2.uk L2.qh L2.uj ql L2.ui L2.qg L2.aB L2.uh L2.i7 L2.T2 L2.i6 L2.qf qk L2.Ab9 L2.Ab8 L2.ug L2.ue L2.Ab7 L2.Ab6 L2.qe L2.Ab5 L2.ub L2.Ab4 L2.Ab3 L2.ua".splitOn " " do r<- `(tactic| first | with_reducible refine $(Lean.mkIdent s.toName) ?_ | $r:tactic)
 `(tactic| first
 | ((with_reducible refine L2.T1 (v:=?v) ?h ?q);(case h=>rfl))
 | ((with_reducible refine L2.jN ?c ?q);(case c=>first | exact ⟨⟨⟩,⟨⟩⟩ | decide | exact .inl ⟨⟨⟩,⟨⟩⟩ | exact .inr ⟨⟨⟩,⟨⟩⟩ | exact ⟨⟨⟩,⟨⟩,⟨⟩⟩))
 | ((with_reducible refine L2.uc ?h ?q);(case h=>rfl))
 | ((with_reducible refine L2.ud ?h ?q);(case h=>rfl))
 | ((with_reducible refine qm ?_);dsimp only)
 | $r:tactic)
local macro_rules | `(tactic| left)=>`(tactic| repeat fail)
namespace L2
open PySem PySem.Spec PyProof.Rows KS
theorem DV (h:n<=sizeLine)(q:∀ p H2,H1 p=none->Ai H1 H2->H2 p=some o->R (.ref p) H2):LF n o H1 R :=
 ⟨h,λp hp=>q p _ hp (Ai.new hp) Ad⟩
end L2
local macro_rules | `(tactic| intros $p:ident $h:ident $s:ident $e:ident)=>`(tactic| ((refine L2.DV ?hh fun $p $h hn $s $e=>?qq);(case hh=>first | exact L2.DU (by decide) | (simp only [sB,List.length_nil];exact L2.DU (by decide)))))
namespace L2
open PySem PySem.Spec PyProof.Rows KS
theorem OW (hl:H l=some (.lst xs))(hb:H b=some (.lst zs))(hn:xs.length+zs.length<=sizeLine)(q:∀ p H2,H p=none->Ai H H2->H2 p=some (.lst (xs++zs))->Q (.ref p) H2):ji (.ref l) (.ref b) H Q :=
 ⟨l,b,xs,zs,rfl,rfl,hl,hb,hn,λp hp=>q p _ hp (Ai.new hp) Ad⟩
noncomputable def Cl (Pr:Program)(w:World)(K:W.Frag)(mg:Str->Option Value)(base:Heap)(k:Nat)(x:Str)(ps:List Str)(sp:Sp):Prop:=∃ f fd,Au Pr w K mg base AN k f fd ps sp/\W.keepIn K (.ref f)=true/\Binds K fd ps []/\mg x=some (.ref f)
section
variable {X:Cx}{k:Nat}{ps:List Str}{sp:Sp}{x:Str}{p pos:Pos}{e:Expr}{es:List Expr}{t:TA}
theorem Bd (F:Cl X.prog X.w X.K X.mg X.base k x ps sp)(hr:Ax k X.A)(hg:Gl X x)(ha:SA X (e::es) t)(Ef:(x==("__debug__":Str))=false:=by decide)(he:starEach (e::es) X.env=(false,eval e X.env)::starEach es X.env:=by exfalso)(Er:(backTo pos (starEach es X.env)).any (·.1)=false:=by rfl) :
  SE X (.Call (.Name x p) (e::es) [] pos) (FF sp [] E0 t):=by
 obtain ⟨f,fd,h1,h2,h3,h4⟩:=F;exact Fo h1 hr hg h4 h2 h3 ha Ef he Er
end
theorem Cl.mono {Pr:Program}{w:World}{K:W.Frag}{mg:Str->Option Value}{base:Heap}{j k:Nat}{x:Str}{ps:List Str}{sp:Sp}(h:j<=k)(F:Cl Pr w K mg base j x ps sp):Cl Pr w K mg base k x ps sp:=by
 obtain ⟨f,fd,h1,h2⟩:=F;exact ⟨f,fd,h1.mono h,h2⟩
structure Df (K:W.Frag)(mg:Str->Option Value)(x:Str)(st:Stmt)(ps:List Str)(f:Addr)(fd:FuncData):Prop where
 F:C7 K x x st f fd
 b:Binds K fd ps []
 m:mg x=some (.ref f)
theorem Df.cl {Pr:Program}{w:World}{K:W.Frag}{mg:Str->Option Value}{base:Heap}{k:Nat}{x:Str}{st:Stmt}{ps:List Str}{f:Addr}{fd:FuncData}{sp:Sp}(D:Df K mg x st ps f fd)(G:Au Pr w K mg base AN k f fd ps sp):Cl Pr w K mg base k x ps sp:=⟨f,fd,G,D.F.kp,D.b,D.m⟩
end L2
namespace K
open PySem L2
noncomputable def top (i:Nat):Stmt:=PySem.Challenge.pw_kindspan_k20_whole_widest.main.body.getD i (.Pass ⟨0,0,0,0⟩)
abbrev Bs:Stmt:=inClass (top 8) 0
abbrev Bt:Stmt:=inClass (top 8) 1
abbrev BF:Stmt:=inClass (top 8) 2
abbrev BR:Stmt:=inClass (top 8) 4
abbrev AB:Stmt:=inClass (top 8) 5
abbrev Cg:Stmt:=inClass (top 8) 6
abbrev BS:Stmt:=inClass (top 8) 7
abbrev Bi:Stmt:=inClass (top 8) 8
abbrev Bj:Stmt:=inClass (top 8) 9
abbrev AF:Stmt:=inClass (top 8) 10
abbrev Bh:Stmt:=inClass (top 8) 11
abbrev B5:Stmt:=inClass (top 8) 12
abbrev Av:Stmt:=inClass (top 8) 13
abbrev DA:Stmt:=top 11
abbrev By:Stmt:=top 12
abbrev E5:Stmt:=top 13
abbrev Dd:Stmt:=top 14
abbrev C9:Stmt:=top 15
abbrev Bl:Stmt:=inClass (top 17) 0
abbrev Ci:Stmt:=inClass (top 17) 1
abbrev AG:Stmt:=inClass (top 17) 2
abbrev Bm:Stmt:=inClass (top 17) 3
abbrev Ba:Stmt:=inClass (top 17) 4
abbrev Bu:Stmt:=inClass (top 17) 5
abbrev EH:Stmt:=top 18
abbrev DK:Stmt:=top 19
abbrev E6:Stmt:=top 20
abbrev E7:Stmt:=top 21
abbrev Fp:Stmt:=top 22
abbrev Fq:Stmt:=top 23
abbrev EI:Stmt:=top 24
abbrev Fs:Stmt:=top 25
abbrev Ca:Stmt:=top 26
abbrev EJ:Stmt:=top 27
abbrev EK:Stmt:=top 28
abbrev EL:Stmt:=top 29
abbrev EM:Stmt:=top 30
abbrev E8:Stmt:=top 31
abbrev Gk:Stmt:=top 32
abbrev HX:Stmt:=top 34
abbrev Gn:Stmt:=top 35
abbrev T4:Stmt:=top 37
abbrev aF:Stmt:=top 38
abbrev Ny:Stmt:=top 39
abbrev K4:Stmt:=top 40
abbrev Js:Stmt:=top 41
abbrev K5:Stmt:=top 42
abbrev HY:Stmt:=top 43
abbrev EX:Stmt:=top 44
abbrev E9:Stmt:=top 45
abbrev Ft:Stmt:=top 46
abbrev EN:Stmt:=top 47
abbrev D2:Stmt:=top 48
abbrev Cy:Stmt:=top 49
abbrev Cz:Stmt:=top 50
abbrev Cj:Stmt:=top 51
abbrev Dm:Stmt:=top 52
abbrev Ea:Stmt:=top 53
abbrev CY:Stmt:=top 54
abbrev K7:Stmt:=top 55
end K
namespace L2
open PySem PySem.Spec PyProof.Rows KS
noncomputable def Nx (n i:Nat)(Pv:Nat->List V->Hp->Prop)(ys:List V)(H:Hp):Prop:=∃ m,m < n - i/\m=n - (i+1)/\i+1<=n/\Pv (i+1) ys H
theorem Nx.mk (hi:i < n)(h:Pv (i+1) ys H):Nx n i Pv ys H:=⟨n - (i+1),(),rfl,hi,h⟩
section
variable {g:TG}{tt:TT}{te:TE}{σ:St}{Fin:List V->Hp->Prop}{K:W.Frag}{a:Addr}{xs:List V}{H:Hp}
theorem FT (Pv:Nat->List V->Hp->Prop)(h0:Pv 0 [] H)(hn:n < sizeLine)(hy:∀ i ys H,Pv i ys H->ys.length<=i)(uo:∀ i ys H,i < n->Pv i ys H->J.go i H)(JJ:∀ ys H,Pv n ys H->J.stop n H)(hs:∀ i ys H x H',i < n->Pv i ys H->J.yld i H x H'->g x σ H' fun σ2 H2=>Ext σ σ2/\tt σ2 H2 λb H3=>if b=true then te σ2 H3 λy H4=>Nx n i Pv (ys++[y]) H4 else Nx n i Pv ys H3)(hd:∀ ys H,Pv n ys H->Fin ys H):De J H σ g tt te Fin:=by
 refine ⟨λi m ys H=>m=n - i/\i<=n/\Pv i ys H,⟨n,by simp,mi _,h0⟩,?_⟩;rintro i m ys H ⟨rfl,hi,p⟩;have hyl:=hy i ys H p;refine ⟨(),?_⟩;by_cases CV:i < n
 ·exact .inr ⟨uo i ys H CV p,(),λx H' y=>hs i ys H x H' CV p y⟩
 ·have e:i=n:=by omega
  subst e;exact .inl ⟨JJ ys H p,hd ys H p⟩
theorem K8 (Pv:Nat->List V->Hp->Prop)(h0:Pv 0 [] H)(hl:∀ i ys H,Pv i ys H->AI K H a xs)(hn:xs.length < sizeLine)(hy:∀ i ys H,Pv i ys H->ys.length<=i)(e0:σ[0]?=some none)(hs:∀ i x ys H,xs[i]?=some x->Pv i ys H->tt (σ.set 0 (some x)) H λb H3=>if b=true then te (σ.set 0 (some x)) H3 λy H4=>Nx xs.length i Pv (ys++[y]) H4 else Nx xs.length i Pv ys H3)(hd:∀ ys H,Pv xs.length ys H->Fin ys H):De (Rj K a) H σ (Cn 0) tt te Fin :=
 FT Pv h0 hn hy (λi ys H hi p=>⟨xs,xs[i],hl i ys H p,by simp [hi]⟩) (λys H p=>⟨xs,hl _ ys H p,am _⟩)
  (λi ys H x H' hi p y=>by
   obtain ⟨rfl,y⟩:=y;exact ⟨Ext.set e0,hs i x ys _ (y xs (hl i ys _ p)) p⟩) hd
theorem T5 (Pv:Nat->List V->Hp->Prop)(h0:Pv 0 [] H)(hl:∀ i ys H,Pv i ys H->BL K H a xs)(hn:xs.length < sizeLine)(hy:∀ i ys H,Pv i ys H->ys.length<=i)(e0:σ[0]?=some none)(hs:∀ i x ys H,xs[i]?=some x->Pv i ys H->tt (σ.set 0 (some x)) H λb H3=>if b=true then te (σ.set 0 (some x)) H3 λy H4=>Nx xs.length i Pv (ys++[y]) H4 else Nx xs.length i Pv ys H3)(hd:∀ ys H,Pv xs.length ys H->Fin ys H):De (Y5 K a) H σ (Cn 0) tt te Fin :=
 FT Pv h0 hn hy (λi ys H hi p=>⟨xs,xs[i],hl i ys H p,by simp [hi]⟩) (λys H p=>⟨xs,hl _ ys H p,am _⟩)
  (λi ys H x H' hi p y=>by
   obtain ⟨rfl,y⟩:=y;exact ⟨Ext.set e0,hs i x ys _ (y xs (hl i ys _ p)) p⟩) hd
theorem T6 {lo:Int}{n:Nat}(Pv:Nat->List V->Hp->Prop)(h0:Pv 0 [] H)(hn:n < sizeLine)(hy:∀ i ys H,Pv i ys H->ys.length<=i)(e0:σ[0]?=some none)
  (hs:∀ i ys H,i < n->Pv i ys H->tt (σ.set 0 (some (.int (lo+i)))) H λb H3=>if b=true then te (σ.set 0 (some (.int (lo+i)))) H3 λy H4=>Nx n i Pv (ys++[y]) H4 else Nx n i Pv ys H3)
  (hd:∀ ys H,Pv n ys H->Fin ys H):De (Y6 lo n) H σ (Cn 0) tt te Fin :=
 FT Pv h0 hn hy (λi ys H hi p=>hi) (λys H p=>am _)
  (λi ys H x H' hi p y=>by
   obtain ⟨rfl,rfl⟩:=y;exact ⟨Ext.set e0,hs i ys _ hi p⟩) hd
theorem T7 (Pv:Nat->List V->Hp->Prop)(h0:Pv 0 [] H)(hn:n < sizeLine)(hy:∀ i ys H,Pv i ys H->ys.length<=i)(e0:σ[0]?=some none)(e1:σ[1]?=some none)(uo:∀ i ys H,i < n->Pv i ys H->L.go i H)(JJ:∀ ys H,Pv n ys H->L.stop n H)(hs:∀ i ys H x H',i < n->Pv i ys H->L.yld i H x H'->∃ q u v,x=.ref q/\BL K H' q [u,v]/\tt ((σ.set 0 (some u)).set 1 (some v)) H' λb H3=>if b=true then te ((σ.set 0 (some u)).set 1 (some v)) H3 λy H4=>Nx n i Pv (ys++[y]) H4 else Nx n i Pv ys H3)(hd:∀ ys H,Pv n ys H->Fin ys H):De L H σ (RG K 2 (GA (Cn 0) (GA (Cn 1) RE))) tt te Fin :=
 FT Pv h0 hn hy uo JJ (λi ys H x H' hi p y=>by
   obtain ⟨q,u,v,rfl,h1,h2⟩:=hs i ys H x H' hi p y;refine ⟨q,[u,v],rfl,h1,rfl,u,[v],rfl,v,[],rfl,rfl,⟨by simp,λj z hj=>?_⟩,h2⟩;cases j with
   | zero=>rw [e0] at hj;cases hj
   | succ j=>cases j with
    | zero=>rw [e1] at hj;cases hj
    | succ j=>simpa using hj) hd
theorem OX (Jn:St->Hp->Prop)(fin:∀ σ' H',Jn σ' H'->u D σ' H')(q:(∀ σ' H',Jn σ' H'->u D σ' H')->C8 t u D σ H):C8 t u D σ H:=q fin
theorem OY (Jn:St->Hp->Prop)(fin:∀ σ' H',Jn σ' H'->u D σ' H')(q:∀ N:St->Hp->Prop,(∀ σ' H',Jn σ' H'->N σ' H')->t { D with nx:=N } σ H):C8 t u D σ H:=q (u D) fin
theorem LG (q:c σ H λb H1=>if b=true then t { D with nx:=u D } σ H1 else e { D with nx:=u D } σ H1):C8 (RD c t e) u D σ H:=q
theorem uq (q:QB true H):HG σ H QB:=q
theorem qo (q:wi σ H λJ H1=>De J H1 (Dv own js σ) g tt te λys H2=>LF 0 (.lst ys) H2 Q):OM own js wi g tt te σ H Q:=by
 have e:(λys (H2:Hp)=>LF 0 (.lst ys) H2 Q)=λys H2=>∀ D,H2 D=none->Q (.ref D) (upd H2 D (.lst ys)):=by funext ys H2;exact propext ⟨λh=>h.2,λh=>⟨mi _,h⟩⟩
 rw [e] at q;exact q
theorem Yt (q:wi σ H λJ H1=>De J H1 (Dv own js σ) g tt te λys H2=>LF 0 (.lst ys) H2 λv H3=>u D (σ.set i (some v)) H3):C8 (Nf i own js wi g tt te) u D σ H:=by
 have e:(λys (H2:Hp)=>LF 0 (.lst ys) H2 λv H3=>u D (σ.set i (some v)) H3)=λys H2=>∀ a,H2 a=none->u D (σ.set i (some (.ref a))) (upd H2 a (.lst ys)):=by funext ys H2;exact propext ⟨λh=>h.2,λh=>⟨mi _,h⟩⟩
 rw [e] at q;exact q
theorem jP (q:tl σ H λx H1=>∃ a,x=.ref a/\(∃ xs,AI K H1 a xs)/\R (Rj K a) H1):Oe K tl σ H R:=q
theorem qp (q:tl σ H λx H1=>∃ a,x=.ref a/\(∃ xs,BL K H1 a xs)/\R (Y5 K a) H1):Zh K tl σ H R:=q
theorem T8 (h:AI K H p ys\/BL K H p ys)(fx:Eg x=true)(fy:ys.all Eg=true)(q:Q (.bl (if neg then !OI x ys else OI x ys)) H):ZH K neg x (.ref p) H Q:=⟨p,ys,rfl,h,fx,fy,q⟩
end
section
variable {σ:St}{H:Hp}{Q:VK}{K:W.Frag}
theorem jQ (q:td σ H λx H1=>∃ a,x=.ref a/\sP H1 a/\ty σ H1 λy H2=>tx σ H2 λz H3=>∃ o,Cr H3 a y o/\Q (o.getD z) H3):HE td ty tx σ H Q:=q
theorem qr (q:td σ H λx H1=>ty σ H1 λy H2=>∃ a v,x=.ref a/\Cr H2 a y (some v)/\Q v H2):Lj td ty σ H Q:=q
theorem ur (q:ty σ H λy H1=>td σ H1 λx H2=>∃ a o,x=.ref a/\Cr H2 a y o/\Q (.bl o.isSome) H2):ZM ty td σ H Q:=q
theorem qt (q:R [] H):Fn [] σ H R:=q
theorem uu (q:tk σ H λk H1=>tv σ H1 λv H2=>Fn r σ H2 λps H3=>R ((k,v)::ps) H3):Fn ((tk,tv)::r) σ H R:=q
theorem Eb (q:∀ p H1,H p=none->Ai H H1->H1 p=some (.dK [])->Fn Jb σ H1 λps H2=>H2 p=some (.dK [])/\∃ kvs:List (Key × V),ps=kvs.map (λkv=>(kV kv.1,kv.2))/\kvs.length<=15/\∀ H3,(∀ b,b≠p->H3 b=H2 b)->H3 p=some (.dK (CC [] kvs))->Q (.ref p) H3):Sd Jb σ H Q:=λp hp=>by
 have h:=q p _ hp (Ai.new hp) Ad;have e:(λps (H2:Hp)=>H2 p=some (.dK [])/\∃ kvs:List (Key × V),ps=kvs.map (λkv=>(kV kv.1,kv.2))/\kvs.length<=15/\∀ H3,(∀ b,b≠p->H3 b=H2 b)->H3 p=some (.dK (CC [] kvs))->Q (.ref p) H3) =
  λps (H2:Hp)=>H2 p=some (.dK [])/\∃ kvs:List (Key × V),ps=kvs.map (λkv=>(kV kv.1,kv.2))/\kvs.length<=15/\Q (.ref p) (upd H2 p (.dK (CC [] kvs))):=by
  funext ps H2
  refine propext ⟨?_,?_⟩
  ·rintro ⟨h1,kvs,h2,h3,h4⟩;exact ⟨h1,kvs,h2,h3,h4 _ (λb hb=>Ac hb) Ad⟩
  ·rintro ⟨h1,kvs,h2,h3,h4⟩;refine ⟨h1,kvs,h2,h3,λH3 a b=>?_⟩;have:H3=upd H2 p (.dK (CC [] kvs)):=by
    funext c
    by_cases hc:c=p
    ·subst hc;rw [b,Ad]
    ·rw [a c hc,Ac hc]
   rw [this];exact h4
 rw [e] at h;exact h
theorem Acb (q:te σ H λx H1=>tl σ H1 λl H2=>th σ H2 λu H3=>r x l u H3 Q):sH r te tl th σ H Q:=q
theorem i8 (q:R none H):JM σ H R:=q
theorem qu (q:t σ H λx H1=>∃ i,x=.int i/\R (some i) H1):RV t σ H R:=q
theorem uv {i:Int}{P:Int->Prop}(q:P i):∃ k,V.int i=V.int k/\P k:=⟨i,rfl,q⟩
theorem Nz {a:Addr}{xs:List V}{lo hi:Option Int}(h:BL K H a xs)(n:¬ (HT.sIx xs.length 0 lo=0/\HT.sIx xs.length xs.length hi=xs.length))(q:∀ p H2,H p=none->Ai H H2->H2 p=some (.tup (Es xs lo hi))->Q (.ref p) H2):ZE K (.ref a) lo hi H Q:=⟨a,xs,rfl,h,n,λp hp=>q p _ hp (Ai.new hp) Ad⟩
theorem T9 {a:Addr}{xs:List V}{lo hi:Option Int}(h:AI K H a xs)(q:∀ p H2,H p=none->Ai H H2->H2 p=some (.lst (Es xs lo hi))->Q (.ref p) H2):ZF K (.ref a) lo hi H Q:=⟨a,xs,rfl,h,λp hp=>q p _ hp (Ai.new hp) Ad⟩
theorem Wb (ha:BL K H a xs)(hb:BL K H b ys)(n:xs≠[])(hn:xs.length+ys.length<=sizeLine)(h1:ys=[]->Q (.ref a) H)(h2:∀ p H2,H p=none->Ai H H2->H2 p=some (.tup (xs++ys))->Q (.ref p) H2):Ox K (.ref a) (.ref b) H Q:=⟨a,b,xs,ys,rfl,rfl,ha,hb,n,hn,h1,λ_ p hp=>h2 p _ hp (Ai.new hp) Ad⟩
end
end L2
local macro_rules | `(tactic| fail)=>do
 let mut r<- `(tactic| with_reducible refine L2.uv ?_)
 for s in "L2.qu L2.i8 L2.Acb L2.uu L2.qt L2.ur L2.qr L2.jQ".splitOn " " do r<- `(tactic| first | with_reducible refine $(Lean.mkIdent s.toName) ?_ | $r:tactic)
 return r
local macro_rules | `(tactic| fail)=>do
 let mut r<- `(tactic| with_reducible refine L2.qp ?_)
 for s in "L2.jP L2.Yt L2.qo L2.uq".splitOn " " do r<- `(tactic| first | with_reducible refine $(Lean.mkIdent s.toName) ?_ | $r:tactic)
 return r
namespace L2
open PySem PySem.Spec PyProof.Rows KS
theorem Paired.len (h:Paired F a b):a.length=b.length:=AC h
theorem Paired.at1:∀ {a:List α} {b:List β} {i:Nat} {x:α},Paired F a b->a[i]?=some x->∃ y,b[i]?=some y/\F x y:=by
 intro a b i x p
 revert i
 induction p with
 | nil=>intro i e;simp at e
 | cons r _ ih =>
  intro i e;cases i with
  | zero=>cases e;exact ⟨_,rfl,r⟩
  | succ i=>exact ih (i:=i) e
noncomputable def strOf:Value->Str
 | .str x _=>x
 | _=>Str.empty
noncomputable def K9:Value->Bool
 | .str _ _=>true
 | _=>false
noncomputable def NB (w:World)(e:DictEntry):DictEntry:=⟨hashStr w (strOf e.key),e.key,e.val⟩
noncomputable def Yu (es:List DictEntry):List (Str × Value):=es.map λe=>(strOf e.key,e.val)
structure FU (w:World)(K:W.Frag)(a:Addr)(rows:List (Str × Value)):Prop where
 ex:∃ es ep,K.lookup a=some ⟨.type "dict",none,.dict es ep,#[]⟩/\es.toList=es.toList.map (NB w)/\(es.toList.all λe=>K9 e.key)=true/\Yu es.toList=rows
 nd:(rows.map (·.1)).Nodup
theorem Yv {P:Program}{w:World}{K:W.Frag}{a:Addr}{rows:List (Str × Value)}(d:FU w K a rows){h:Heap}(hk:∀ o,K.lookup a=some o->h.get? a=some o):h.DictOf (B1 P w) a (rows.map λr=>(.inr r.1,r.2)):=by
 obtain ⟨⟨es,ep,hl,hh,ha,rfl⟩,nd⟩:=d;refine ⟨_,es,ep,hk _ hl,⟨rfl,rfl,rfl⟩,rfl,λe he=>?_,?_,?_⟩
 ·have uw:e∈es.toList:=by simpa using he
  have hs:=OP.mp ha e uw;rw [hh] at uw;obtain ⟨e0,h0,rfl⟩:=ln.mp uw;have Qo:K9 e0.key=true:=hs;obtain ⟨sR,key,val⟩:=e0;cases key with
  | str x t=>exact ⟨.inr x,Eo P w x t,rfl⟩
  | _=>cases Qo
 ·generalize es.toList=l at ha;clear hh hl nd
  induction l with
  | nil=>exact .nil
  | cons e r ih =>
   rw [List.all_cons,Ev] at ha;refine .cons ?_ rfl (ih ha.2);obtain ⟨sR,key,val⟩:=e;cases key with
   | str x t=>exact Eo P w x t
   | _=>exact (show false=true from ha.1) |> λz=>by cases z
 ·rw [List.map_map];have e:(Yu es.toList).map (λr=>(Sum.inr r.1:Key))=((Yu es.toList).map (·.1)).map Sum.inr:=by rw [List.map_map];rfl
  show ((Yu es.toList).map (λr=>(Sum.inr r.1:Key))).Nodup;rw [e];have inj:∀ (l:List Str),l.Nodup->(l.map (Sum.inr:Str->Key)).Nodup:=λl hl=>by
   induction hl with
   | nil=>exact .nil
   | cons h1 h2 ih =>
    refine Ix.mpr ⟨λz=>?_,ih⟩;obtain ⟨y,hy,e⟩:=ln.mp z;cases e;exact h1 _ hy rfl
  exact inj _ nd
noncomputable def rowAt (rows:List (Str × Value))(x:Str):Option Value:=(rows.find? λr=>decide (r.1=x)).map (·.2)
theorem LH (rows:List (Str × Value))(x:Str):valueAt (rows.map λr=>((.inr r.1:Key),r.2)) (.inr x)=rowAt rows x:=by
 unfold valueAt rowAt
 induction rows with
 | nil=>rfl
 | cons r l ih =>
  rw [xz,Re,Re];by_cases e:r.1=x
  ·have h1:decide ((Sum.inr r.1:Key)=Sum.inr x)=true:=(by rw [MD];exact decide_eq_true e);rw [h1,decide_eq_true e];rfl
  ·have h1:decide ((Sum.inr r.1:Key)=Sum.inr x)=false:=(by rw [MD];exact decide_eq_false e);rw [h1,decide_eq_false e];exact ih
section
variable {X:Cx}{x:Str}{a:Addr}{rows:List (Str × Value)}{i:Expr}{ty:TE}{p pos:Pos}
noncomputable def Ta (rows:List (Str × Value))(ty:TE):TE:=fun σ H Q=>ty σ H λy H1=>∃ (k:Str) (u:Value) (v:V),y=.str k/\rowAt rows k=some u/\RelV v u/\Q v H1
theorem Wc (d:FU X.w X.K a rows)(hg:Gl X x)(hm:X.mg x=some (.ref a))(hi:PE X i ty)(hs:N7 i)(Ef:(x==("__debug__":Str))=false:=by decide):PE X (.Subscript (.Name x p) i pos) (Ta rows ty):=by
 intro pins s σ H Q I h;refine JU PySem.F.slot_dict_getitem.lookup hs (Bc (JH (v:=.ref a) hg hm rfl Ef pins s σ H (λy H1=>y=.ref a/\H1=H) I ⟨rfl,rfl⟩) λu s1 AR=>?_);obtain ⟨x',H1,I1,rx,e1,e2⟩:=AR;subst e1 e2;obtain rfl:u=Value.ref a:=rx;refine Bc (hi pins s1 σ H1 _ I1 h) λiv s2 AR=>?_;obtain ⟨y,H2,I2,ry,k,u,v,ey,hk,rv,q⟩:=AR;subst ey;have dd:s2.heap.DictOf (B1 X.prog X.w) a (rows.map λr=>(.inr r.1,r.2)):=Yv d λo ho=>I2.kIn a o ho;refine ⟨dd.typeIs,wpAny_getItem_of (F9 (k:=.inr k) ry) dd.mapOf (v:=u) (by rw [LH];exact hk) ⟨v,H2,I2.tok _,rv,q⟩⟩
theorem aH (d:FU X.w X.K a rows)(hg:Gl X x)(hm:X.mg x=some (.ref a))(hi:SE X i ty)(hs:N7 i)(Ef:(x==("__debug__":Str))=false:=by decide):SE X (.Subscript (.Name x p) i pos) (Ta rows ty):=⟨Wc d hg hm hi.out hs Ef⟩
variable {CX:Mw}{k:Nat}{ps:List Str}{E:XK}{e:Expr}{es:List Expr}{t:TA}{OZ:List (Str × Sp)}{pn:Pos}
noncomputable def Fu (P:Program)(w:World)(K:W.Frag)(mg:Str->Option Value)(base:Heap)(CX:Mw)(k:Nat)(ps:List Str)(rows:List (Str × Value))(OZ:List (Str × Sp)):Prop :=
 ∀ x sp,(x,sp)∈OZ->∃ f fd,rowAt rows x=some (.ref f)/\Au P w K mg base CX k f fd ps sp/\W.keepIn K (.ref f)=true/\Binds K fd ps []
noncomputable def NC (OZ:List (Str × Sp))(E:XK)(ty:TE)(t:TA):TE:=fun σ H Q=>ty σ H λy H1=>∃ (x:Str) (sp:Sp),y=.str x/\(x,sp)∈OZ/\t σ H1 λvs H2=>sp vs H2 Q E
theorem Tb (d:FU X.w X.K a rows)(R:Fu X.prog X.w X.K X.mg X.base CX k ps rows OZ)(hx:Passes CX X E)(hr:Ax k X.A)(hg:Gl X x)(hm:X.mg x=some (.ref a))(hi:PE X i ty)(hs:N7 i)(ha:PA X (e::es) t)(Ef:(x==("__debug__":Str))=false:=by decide)(he:starEach (e::es) X.env=(false,eval e X.env)::starEach es X.env:=by rfl)(Er:(backTo pos (starEach es X.env)).any (·.1)=false:=by rfl):PE X (.Call (.Subscript (.Name x pn) i p) (e::es) [] pos) (NC OZ E ty t):=by
 intro pins s σ H Q I h;have arm:eval (.Call (.Subscript (.Name x pn) i p) (e::es) [] pos) X.env=(eval (.Subscript (.Name x pn) i p) X.env >>= λf=>callWith pos f [] (backTo pos (starEach (e::es) X.env)) (backToKw pos (keywordEach [] X.env))):=rfl;rw [arm];refine aa ?_;refine JU PySem.F.slot_dict_getitem.lookup hs (Bc (JH (v:=.ref a) hg hm rfl Ef pins s σ H (λy H1=>y=.ref a/\H1=H) I ⟨rfl,rfl⟩) λu s1 AR=>?_);obtain ⟨x',H1,I1,rx,e1,e2⟩:=AR;subst e1 e2;obtain rfl:u=Value.ref a:=rx;refine Bc (hi pins s1 σ H1 _ I1 h) λiv s2 AR=>?_;obtain ⟨y,H2,I2,ry,x',sp,ey,F5,q⟩:=AR;subst ey;obtain ⟨f,fd,aJ,F,hk,hb⟩:=R x' sp F5;have dd:s2.heap.DictOf (B1 X.prog X.w) a (rows.map λr=>(.inr r.1,r.2)):=Yv d λo ho=>I2.kIn a o ho;refine ⟨dd.typeIs,wpAny_getItem_of (F9 (k:=.inr x') ry) dd.mapOf (v:=.ref f) (by rw [LH];exact aJ) ?_⟩;have I3:=I2.tok (s2.toks+1);refine W.callWith_K (h₀:=X.base) I3.ok.mod.kin hk (Bc (ha pos pins _ σ H2 _ I3 q) λus s4 AR=>?_) he Er;obtain ⟨vs,H4,I4,r,q⟩:=AR;refine ⟨I4.kIn,?_⟩;exact JL F hr hb .nil hx I4 r (by rw [G2];exact q)
theorem Wd (d:FU X.w X.K a rows)(R:Fu X.prog X.w X.K X.mg X.base CX k ps rows OZ)(hx:Passes CX X E)(hr:Ax k X.A)(hg:Gl X x)(hm:X.mg x=some (.ref a))(hi:SE X i ty)(hs:N7 i)(ha:SA X (e::es) t)(Ef:(x==("__debug__":Str))=false:=by decide)(he:starEach (e::es) X.env=(false,eval e X.env)::starEach es X.env:=by rfl)(Er:(backTo pos (starEach es X.env)).any (·.1)=false:=by rfl):SE X (.Call (.Subscript (.Name x pn) i p) (e::es) [] pos) (NC OZ E ty t):=⟨Tb d R hx hr hg hm hi.out hs ha.out Ef he Er⟩
end
end L2
namespace PySem
open AutoSeq1 (wpAny_loadPart')
namespace F
theorem aa5:typeLookup (.type "list_reverseiterator") "__len__"=pure none:=by rw [typeLookup_type,OF];kernel_rfl
theorem aa8:Slot "list_reverseiterator" "__length_hint__" "list_reverseiterator.__length_hint__" :=
 .of (owner:="list_reverseiterator") (n:="__length_hint__") (by rw [typeLookup_type,OF];kernel_rfl) (by decide +kernel) (by decide +kernel) (by decide +kernel) (by first | exact .inl (by decide +kernel) | exact .inr (by decide +kernel)) (by rw [isSubtype_type];kernel_rfl)
theorem abi:isSubtype (.type "list_reverseiterator") (.type "list_reverseiterator")=pure true:=by rw [isSubtype_type];kernel_rfl
end F
section
variable {prog:Program}{w:World}{A:Around}{E:Value->Shared->Prop}{s:Shared}
theorem HZ (hit:s.heap.IsRevIter it l i)(h:∀ b tk,Q b { s with toks:=tk }):
  wpAny (model prog w) A (Builtin.List.listLengthHint (.ref it)) Q E s:=by
 obtain ⟨o,ho,hc,hd⟩:=id hit;unfold Builtin.List.listLengthHint;refine aa (wpAny_specialOf hit.typeIs F.aa5 ?_);show wpAny _ A (specialOf (Value.ref it) (Str.ofString "__length_hint__") >>= _) _ _ _;refine aa (wpAny_specialOf hit.typeIs F.aa8.lookup ?_);generalize hid:("list_reverseiterator.__length_hint__":String)=id0
 wp_delta
 rw [show splitId id0=some ("list_reverseiterator","__length_hint__") from by subst hid;decide +kernel];subst hid;refine aa (wpAny_isInstance (T:="list_reverseiterator") (b:=true) hit.typeIs F.abi ?_);refine wpAny_ite_split (λjR=>absurd jR ⟨⟩) (λ_=>?_);refine wpAny_ite_split (λ_=>?_) (λjR=>absurd (by decide +kernel) jR);refine wpAny_ite_split (λjR=>absurd jR (by decide +kernel)) (λ_=>?_);exact bv (h _ _)
theorem ND (hh:A.handled=none)(hI:s.heap.IsRevIter I l ((items.size:Int) - 1))(hl:s.heap.IsList l items)(DT:l≠I)(hlen:items.size < 2 ^ 20)(S:Addr)(res:Value)(c0:Nat)(hS:s.heap.get? S=some { cls:=.type "list",data:=.seq #[] c0 })(ux:S≠I)(Yp:S≠l)(hR:∀ h' tk Ka c',(∀ b o,b≠S->b≠I->s.heap.get? b=some o->h'.get? b=some o)->h'.get? S=some { cls:=.type "list",dict:=none,data:=.seq Ka c',slots:=#[] } ->
   ItemsOf (λi v=>items[items.size - 1 - i]?=some v) Ka items.size->R (.ok (.ret res)) { s with heap:=h',toks:=tk }) :
  wpAny (model prog w) A.in1 (Builtin.List.listExtendWith (.ref S) (.ref I) res)
   (λfin s'=>match fin with | .done f=>R (.ok f) s' | .again c'=>c'.quiet=true/\codeAny (model prog w) A c' R s') (λe s'=>R (.error e) s') s:=by
 have W:=(Walks.listRev (prog:=prog) (w:=w) (A:=A.in1) hh I l DT items).toS;have hSf:S∉[I,l]:=by simp [ux,Yp]
 have hT:s.TypeIs (.ref I) "list_reverseiterator":=hI.typeIs;have key:∀ (h:Heap) (c1 tk:Nat),h.IsRevIter I l ((items.size:Int) - 1)->h.IsList l items->(∀ b o,b≠S->s.heap.get? b=some o->h.get? b=some o)->h.get? S=some { cls:=.type "list",data:=.seq #[] c1 } ->
   codeAny (model prog w) A (.builtin "list.extend.loop" ⟨[.ref S,.ref I,res],[]⟩) R { s with heap:=h,toks:=tk }:=by
  intro h c1 tk hit htu hk W9;refine codeAny_extend_loopS W (by rw [Sc];omega) S hSf res items.size 0 _ #[] c1 rfl (mi _) ⟨mi _,by simpa using hit,htu⟩ W9 (ItemsOf.nil _) λs' Ka c' hm Lv Gb=>?_;rw [Moved.eq_with hm];refine hR s'.heap s'.toks Ka c' (λb o hb hbI e=>hm.heap b o (λF5=>?_) (hk b o hb e)) Lv Gb;rcases gz.mp F5 with e' | F5
  ·exact hb e'
  ·exact hbI (al.mp F5)
 unfold Builtin.List.listExtendWith;refine aa (wpAny_typeOf hT ?_);have h1:Builtin.List.listSameRef (.ref S) (.ref I)=false:=by simp [Builtin.List.listSameRef,ux]
 have h2:(Value.type "list_reverseiterator"==Value.type "list")=false:=by decide
 have h3:(Value.type "list_reverseiterator"==Value.type "tuple")=false:=by decide
 simp only [h1,h2,h3,Bool.or_false,Tl,if_false];refine aa (wpAny_pyIter_revIter hI ?_);refine aa (Go (HZ hI λb tk=>?_));have W9:({ s with toks:=tk }:Shared).heap.get? S=some { cls:=.type "list",data:=.seq #[] c0 }:=hS;refine wpAny_ite_split (λ_=>?_) (λ_=>bv ⟨KF On _,key _ c0 _ hI hl (λb o _ e=>e) hS⟩);refine aa (wpAny_rule ?_);refine aa ?_;show wpAny _ _ (updateSeq S (·.push .none) >>= λ_=>updateSeq S (·.pop)) _ _ _;refine aa (IM W9 rfl ?_);have My:=wS (Obj.mapSeq (·.push Value.none)) W9 rfl;refine IM (hz:=by seq_fits) My rfl ?_;have u5:=wS (Obj.mapSeq (·.pop)) My rfl;have HV:∀ b o,b≠S->s.heap.get? b=some o->((s.heap.update S (Obj.mapSeq (·.push Value.none))).update S (Obj.mapSeq (·.pop))).get? b=some o:=λb o hb e =>
  (pi _ _ (be hb)).trans ((pi _ _ (be hb)).trans e)
 exact bv ⟨KF On _,key _ _ _ (hI.at λo e=>HV I o (be ux) e) (hl.at λo e=>HV l o (be Yp) e) HV u5⟩
theorem IT (hh:A.handled=none)(hI:s.heap.IsRevIter I l ((items.size:Int) - 1))(hl:s.heap.IsList l items)(DT:l≠I)(hlen:items.size < 2 ^ 20)(hQ:∀ h' tk Ka c',(∀ b o,b≠I->s.heap.get? b=some o->h'.get? b=some o)->h'.get? s.heap.objs.size=some { cls:=.type "list",dict:=none,data:=.seq Ka c',slots:=#[] } ->
   ItemsOf (λi v=>items[items.size - 1 - i]?=some v) Ka items.size->Q (.ref s.heap.objs.size) { s with heap:=h',toks:=tk }):wpAny (model prog w) A (call (.type "list") [.ref I]) Q E s:=by
 have jS:I < s.heap.objs.size:=by obtain ⟨o,ho,_⟩:=hI;exact ii ho
 have jT:l < s.heap.objs.size:=by obtain ⟨o,ho,_⟩:=hl;exact ii ho
 refine callType_codes (Q₁:=λobj s1=>obj=.ref s.heap.objs.size/\s1={ s with heap:=s.heap.push { cls:=.type "list",data:=.seq #[] } }) F.called_list (F.typeCall_list_1 _) F.entry_list_init (code_list_new _ ⟨rfl,rfl⟩) λobj s1 q1=>?_;obtain ⟨rfl,rfl⟩:=q1;have hS:(s.heap.push { cls:=.type "list",data:=.seq #[] }).get? s.heap.objs.size=some { cls:=.type "list",data:=.seq #[] }:=io _ rfl;refine ⟨⟨_,hS,rfl⟩,F.args_list_init_2 _ _,?_⟩;show wpAny _ _ (do let old <- Builtin.List.listItems (.ref s.heap.objs.size);Builtin.List.listUpdate (.ref s.heap.objs.size) (λ_=>#[]);letGo old.toList.reverse;Builtin.List.listExtendWith (.ref s.heap.objs.size) (.ref I) .none) _ _ _
 refine aa ?_;unfold Builtin.List.listItems;refine aa (Ch hS rfl (bv ?_));show wpAny _ _ (updateSeq s.heap.objs.size (λ_=>#[]) >>= λ_=>letGo (#[]:Array Value).toList.reverse >>= λ_=>Builtin.List.listExtendWith (.ref s.heap.objs.size) (.ref I) .none) _ _ _;refine aa (IM hS rfl ?_);have My:=wS (Obj.mapSeq (λ_=>(#[]:Array Value))) hS rfl;have HV:∀ b o,b≠s.heap.objs.size->s.heap.get? b=some o->((s.heap.push { cls:=.type "list",data:=.seq #[] }).update s.heap.objs.size (Obj.mapSeq (λ_=>(#[]:Array Value)))).get? b=some o :=
  λb o hb e=>(pi _ _ (be hb)).trans (ac _ e)
 refine aa (wpAny_letGo ?_);refine ND (A:=A.in1) (I:=I) (l:=l) (items:=items) hh (hI.at λo e=>HV I o (dL jS) e) (hl.at λo e=>HV l o (dL jT) e) DT hlen _ .none _ My (be (dL jS)) (be (dL jT)) λh' tk Ka c' hk Lv Gb=>?_;exact ⟨rfl,hQ h' tk Ka c' (λb o hb e=>hk b o (dL (ii e)) hb (HV b o (dL (ii e)) e)) Lv Gb⟩
end
end PySem
namespace L2
open PySem PySem.Spec PyProof.Rows KS
section
variable {X:Cx}
noncomputable def Jt (K:W.Frag)(ta:TA):TE:=fun σ H Q=>ta σ H λvs H1=>∃ a xs,vs=[.ref a]/\AI K H1 a xs/\xs.length < 1000000/\∀ l,H1 l=none->Q (.ref l) (upd H1 l (.lst xs.reverse))
theorem LI (hc:X.calm=true)(SH:Gl X "list")(SJ:X.mg "list"=none)(af:Gl X "reversed")(ag:X.mg "reversed"=none)(ha:PA X [a] ta)(hs:starEach [a] X.env=[(false,eval a X.env)]:=by rfl)(he:starEach [.Call (.Name "reversed" p2) [a] [] Ct] X.env=(false,eval (.Call (.Name "reversed" p2) [a] [] Ct) X.env)::starEach [] X.env:=by rfl) :
  PE X (.Call (.Name "list" p1) [.Call (.Name "reversed" p2) [a] [] Ct] [] FP) (Jt X.K ta):=by
 intro pins s σ H Q I h;refine FS (CU I SH SJ boot_list ?_);refine u8 ?_ he rfl;rw [he];show wpAny _ _ (spliced ((false,eval (.Call (.Name "reversed" p2) [a] [] Ct) X.env)::backTo FP (starEach [] X.env))) _ _ s;refine OK ?_;refine Call_ (CU I af ag boot_reversed (u8 (Bc (ha Ct pins s σ H _ I h) λus s1 q1=>?_) hs rfl));obtain ⟨vs,H1,I1,r1,t,xs,rfl,hq,hx,q⟩:=q1;obtain ⟨u,rfl,ru⟩:=vals1 r1;obtain rfl:u=Value.ref t:=ru;obtain ⟨its,rv,pl,hz⟩:=I1.list hq;have hlen:=rv.length;refine call_reversed_list pl.isList ?_;refine Calls.spliced_nil ?_;have ltt:t < s1.heap.objs.size:=by obtain ⟨o,n,e,_⟩:=pl;exact ii e
 have hT:s1.heap.objs.size≠t:=be (dL ltt);have I2:Inv X pins σ H1 { s1 with heap:=s1.heap.push (revObj t ((its.toArray.size:Int) - 1)) }:=I1.kept (t':=s1.toks) λb o z=>ac _ z;refine IT (I:=s1.heap.objs.size) (l:=t) (items:=its.toArray) (I.ok.hd hc) ⟨_,io _ rfl,rfl,rfl⟩ (pl.isList.at λo z=>ac _ z) (be hT) (by rw [f8];omega) λh' tk acc c' hk hS hA=>?_;have nI:H1 s1.heap.objs.size=none:=I1.hok.fresh (am _);obtain ⟨f0,f1,_,f3,f4,f5⟩:=I1.aa7 (H':=H1) (am _) nI;have I3:Inv X pins σ H1 { s1 with heap:=h',toks:=tk }:=I2.turned (t':=tk) hk f0 f1 f3 f4 f5;have nS:H1 (s1.heap.push (revObj t ((its.toArray.size:Int) - 1))).objs.size=none:=I2.hok.fresh (am _);have rv2:=Qh rv hA;have I4:Inv X pins σ (upd H1 (s1.heap.push (revObj t ((its.toArray.size:Int) - 1))).objs.size (.lst xs.reverse)) { s1 with heap:=h',toks:=tk }:=by
  refine I2.abe (ch:=[s1.heap.objs.size]) rfl ?_ (I3.hok.aao nS ⟨by rw [Op];exact hz,acc.toList,c',rv2,by simpa using hS⟩) I2.bare ?_
  ·have u0:Un (Mv X.stack) [s1.heap.objs.size] H1 H1 (s1.heap.push (revObj t ((its.toArray.size:Int) - 1))) h':=by
    have kk:∀ b o,b∉[s1.heap.objs.size]->(s1.heap.push (revObj t ((its.toArray.size:Int) - 1))).get? b=some o->h'.get? b=some o:=λb o hb z=>hk b o (λy=>hb (by simp [y])) z;exact ⟨λb o z _ _ hx=>kk b o hx z,λb o z _ _ hx=>⟨o.slots,kk b o hx z⟩,λb o z n _=>n,λb o z hx=>⟨o,kk b o hx z⟩,λ_ _ z=>z,λ_ _ _ z=>z,λb ps z=>⟨#[],by rw [z];simp⟩⟩
   exact u0.aao nS (Ps (am _))
  ·intro b hb;obtain rfl:=al.mp hb;exact ⟨f3,f1,f4,f5⟩
 exact ⟨.ref _,_,I4,rfl,q _ nS⟩
theorem I0 (hc:X.calm=true)(SH:Gl X "list")(SJ:X.mg "list"=none)(af:Gl X "reversed")(ag:X.mg "reversed"=none)(ha:SA X [a] ta)(hs:starEach [a] X.env=[(false,eval a X.env)]:=by rfl)(he:starEach [.Call (.Name "reversed" p2) [a] [] Ct] X.env=(false,eval (.Call (.Name "reversed" p2) [a] [] Ct) X.env)::starEach [] X.env:=by rfl) :
  SE X (.Call (.Name "list" p1) [.Call (.Name "reversed" p2) [a] [] Ct] [] FP) (Jt X.K ta):=⟨LI hc SH SJ af ag ha.out hs he⟩
end
end L2
section
local macro_rules | `(tactic| omega)=>`(tactic| lia)
local macro_rules | `(tactic| apply $t)=>`(tactic| (left;refine $t))
namespace KX
open PySem
inductive Ex where
 | nm (x:Str) | num (i:Int) | tru (b:Bool) | emp
 | fn (x:Str) (b:Ex) | rc (f x:Str) (b:Ex) | cal (a b:Ex) | lt (x:Str) (a b:Ex) | wh (a b c:Ex) | pr (a b:Ex)
 | opn (a:Ex) (x y:Str) (b:Ex) | lk (a b:Ex) | spl (a b:Ex) (x y:Str) (c:Ex) | op (o:Str) (a b:Ex)
namespace Ex
noncomputable def np:Ex->Nat
 | nm _ | num _ | tru _ | emp=>0
 | fn _ b=>np b | rc _ _ b=>np b | cal a b=>np a+np b | lt _ a b=>np a+np b | wh a b c=>np a+np b+np c | pr a b=>1+np a+np b
 | opn a _ _ b=>np a+np b | lk a b=>1+np a+np b | spl a b _ _ c=>np a+np b+np c | op _ a b=>np a+np b
noncomputable def sz:Ex->Nat
 | nm _ | num _ | tru _ | emp=>1
 | fn _ b=>1+sz b | rc _ _ b=>1+sz b | cal a b=>1+sz a+sz b | lt _ a b=>1+sz a+sz b | wh a b c=>1+sz a+sz b+sz c | pr a b=>1+sz a+sz b
 | opn a _ _ b=>1+sz a+sz b | lk a b=>1+sz a+sz b | spl a b _ _ c=>1+sz a+sz b+sz c | op _ a b=>1+sz a+sz b
noncomputable def cl (xs:List Str):Ex->Prop
 | nm x=>x∈xs
 | num _ | tru _ | emp=>True
 | fn x b=>cl (x::xs) b | rc f x b=>cl (x::f::xs) b | cal a b=>cl xs a/\cl xs b | lt x a b=>cl xs a/\cl (x::xs) b | wh a b c=>cl xs a/\cl xs b/\cl xs c | pr a b=>cl xs a/\cl xs b
 | opn a x y b=>cl xs a/\cl (y::x::xs) b | lk a b=>cl xs a/\cl xs b | spl a b x y c=>cl xs a/\cl xs b/\cl (y::x::xs) c | op _ a b=>cl xs a/\cl xs b
theorem cl.mono:∀ {xs ys:List Str},(∀ x∈xs,x∈ys)->cl xs e->cl ys e:=by
 have c1:∀ {xs ys:List Str} (x:Str),(∀ x∈xs,x∈ys)->∀ z∈x::xs,z∈x::ys:=λx h z hz=>by
  rcases gz.mp hz with rfl | hz
  ·exact .head _
  ·exact .tail _ (h _ hz)
 induction e with
 | nm x=>exact λh q=>h _ q
 | num _ | tru _ | emp=>exact λ_ _=>trivial
 | fn x b ih=>exact λh q=>ih (c1 x h) q
 | rc f x b ih=>exact λh q=>ih (c1 x (c1 f h)) q
 | cal a b ia ib=>exact λh q=>⟨ia h q.1,ib h q.2⟩
 | lt x a b ia ib=>exact λh q=>⟨ia h q.1,ib (c1 x h) q.2⟩
 | wh a b c ia ib ic=>exact λh q=>⟨ia h q.1,ib h q.2.1,ic h q.2.2⟩
 | pr a b ia ib=>exact λh q=>⟨ia h q.1,ib h q.2⟩
 | opn a x y b ia ib=>exact λh q=>⟨ia h q.1,ib (c1 y (c1 x h)) q.2⟩
 | lk a b ia ib=>exact λh q=>⟨ia h q.1,ib h q.2⟩
 | spl a b x y c ia ib ic=>exact λh q=>⟨ia h q.1,ib h q.2.1,ic (c1 y (c1 x h)) q.2.2⟩
 | op o a b ia ib=>exact λh q=>⟨ia h q.1,ib h q.2⟩
end Ex
end KX
namespace L2
open PySem PySem.Spec PyProof.Rows KS KX
noncomputable def BD (H:Hp):Ex->V->Prop
 | .nm x,r=>∃ p,r=.ref p/\H p=some (.tup [.str "name",.str x])
 | .num i,r=>∃ p,r=.ref p/\H p=some (.tup [.str "number",.int i])
 | .tru b,r=>∃ p,r=.ref p/\H p=some (.tup [.str "truth",.bl b])
 | .emp,r=>∃ p,r=.ref p/\H p=some (.tup [.str "empty"])
 | .fn x b,r=>∃ p rb,r=.ref p/\H p=some (.tup [.str "fun",.str x,rb])/\BD H b rb
 | .rc f x b,r=>∃ p rb,r=.ref p/\H p=some (.tup [.str "rec",.str f,.str x,rb])/\BD H b rb
 | .cal a b,r=>∃ p ra rb,r=.ref p/\H p=some (.tup [.str "call",ra,rb])/\BD H a ra/\BD H b rb
 | .lt x a b,r=>∃ p ra rb,r=.ref p/\H p=some (.tup [.str "let",.str x,ra,rb])/\BD H a ra/\BD H b rb
 | .wh a b c,r=>∃ p ra rb rc,r=.ref p/\H p=some (.tup [.str "when",ra,rb,rc])/\BD H a ra/\BD H b rb/\BD H c rc
 | .pr a b,r=>∃ p ra rb,r=.ref p/\H p=some (.tup [.str "pair",ra,rb])/\BD H a ra/\BD H b rb
 | .opn a x y b,r=>∃ p ra rb,r=.ref p/\H p=some (.tup [.str "open",ra,.str x,.str y,rb])/\BD H a ra/\BD H b rb
 | .lk a b,r=>∃ p ra rb,r=.ref p/\H p=some (.tup [.str "link",ra,rb])/\BD H a ra/\BD H b rb
 | .spl a b x y c,r=>∃ p ra rb rc,r=.ref p/\H p=some (.tup [.str "split",ra,rb,.str x,.str y,rc])/\BD H a ra/\BD H b rb/\BD H c rc
 | .op o a b,r=>∃ p ra rb,r=.ref p/\H p=some (.tup [.str "op",.str o,ra,rb])/\BD H a ra/\BD H b rb
theorem BD.mono (s:TSub H H'):∀ {r:V},BD H e r->BD H' e r:=by
 induction e with
 | nm _=>intro r h;obtain ⟨p,h1,h2⟩:=h;exact ⟨p,h1,s _ _ h2⟩
 | num _=>intro r h;obtain ⟨p,h1,h2⟩:=h;exact ⟨p,h1,s _ _ h2⟩
 | tru _=>intro r h;obtain ⟨p,h1,h2⟩:=h;exact ⟨p,h1,s _ _ h2⟩
 | emp=>intro r h;obtain ⟨p,h1,h2⟩:=h;exact ⟨p,h1,s _ _ h2⟩
 | fn _ _ ib=>intro r h;obtain ⟨p,rb,h1,h2,h3⟩:=h;exact ⟨p,rb,h1,s _ _ h2,ib h3⟩
 | rc _ _ _ ib=>intro r h;obtain ⟨p,rb,h1,h2,h3⟩:=h;exact ⟨p,rb,h1,s _ _ h2,ib h3⟩
 | cal _ _ ia ib=>intro r h;obtain ⟨p,ra,rb,h1,h2,h3,h4⟩:=h;exact ⟨p,ra,rb,h1,s _ _ h2,ia h3,ib h4⟩
 | lt _ _ _ ia ib=>intro r h;obtain ⟨p,ra,rb,h1,h2,h3,h4⟩:=h;exact ⟨p,ra,rb,h1,s _ _ h2,ia h3,ib h4⟩
 | wh _ _ _ ia ib ic=>intro r h;obtain ⟨p,ra,rb,rc,h1,h2,h3,h4,h5⟩:=h;exact ⟨p,ra,rb,rc,h1,s _ _ h2,ia h3,ib h4,ic h5⟩
 | pr _ _ ia ib=>intro r h;obtain ⟨p,ra,rb,h1,h2,h3,h4⟩:=h;exact ⟨p,ra,rb,h1,s _ _ h2,ia h3,ib h4⟩
 | opn _ _ _ _ ia ib=>intro r h;obtain ⟨p,ra,rb,h1,h2,h3,h4⟩:=h;exact ⟨p,ra,rb,h1,s _ _ h2,ia h3,ib h4⟩
 | lk _ _ ia ib=>intro r h;obtain ⟨p,ra,rb,h1,h2,h3,h4⟩:=h;exact ⟨p,ra,rb,h1,s _ _ h2,ia h3,ib h4⟩
 | spl _ _ _ _ _ ia ib ic=>intro r h;obtain ⟨p,ra,rb,rc,h1,h2,h3,h4,h5⟩:=h;exact ⟨p,ra,rb,rc,h1,s _ _ h2,ia h3,ib h4,ic h5⟩
 | op _ _ _ ia ib=>intro r h;obtain ⟨p,ra,rb,h1,h2,h3,h4⟩:=h;exact ⟨p,ra,rb,h1,s _ _ h2,ia h3,ib h4⟩
section
variable {X:Cx}{a:Expr}{pos:Pos}{ta:TE}
theorem uy (ho:pJ X (unaryOp op) r)(ha:SE X a ta):SE X (.UnaryOp op a pos) (su r ta):=⟨Ya ho ha.out⟩
end
end L2
namespace L2
open PySem PySem.Spec PyProof.Rows KS
section
variable {X:Cx}{o e value:Expr}{f x:Str}{pos Q6 p pos':Pos}{ta tv te:TE}{es:List Expr}{t:TA}
theorem LJ (sC:Vq X op left)(ha:SE X o ta)(hv:SE X value tv):SS X (.AugAssign (.Attribute o f Q6) op value pos) (Oo X.K ta tv left f):=⟨Q7 ha.out hv.out sC⟩
end
section
variable {K:W.Frag}{σ:St}{H:Hp}{Q:VK}{D:Ends}{ta tv te:TE}{f:Str}{t:TA}{C:Addr}{sp:Sp}{E:XK}{u:TS}
theorem uA (q:ta σ H λx H1=>∃ a C dx fs v,x=.ref a/\H1 a=some (.ins C dx fs)/\ID K C/\BW K C f/\fs.lookup f=some v/\Q v H1):MP K ta f σ H Q:=q
noncomputable def jU (J:It)(g:TG)(tb:TS)(D:Ends)(σ:St)(H:Hp):Prop:=∃ W:Nat->Nat->St->Hp->Prop,(∃ m,W 0 m σ H)/\∀ i m σ H,W i m σ H ->
 (J.stop i H/\D.nx σ H)\/(J.go i H/\∃ N:St->Hp->Prop,(∀ σ' H',N σ' H'->∃ m',m' < m/\W (i+1) m' σ' H')/\∀ x H',J.yld i H x H'->g x σ H' fun σ2 H2=>tb { D with nx:=N,ct:=N,bk:=D.nx } σ2 H2)
theorem i9 (q:wi σ H λJ H1=>jU J g tb { D with nx:=u D } σ H1):C8 (Vi wi g tb) u D σ H:=q
theorem qv (q:t σ H λvs H1=>∃ a xs,vs=[.ref a]/\AI K H1 a xs/\R (Jg K a xs.length) H1):ZT K t σ H R:=q
theorem Tc (q:R (σ.set i (some x)) H):Cn i x σ H R:=q
theorem qw (q:ta σ H λy H1=>∃ (k:Str) (u:Value) (v:V),y=.str k/\rowAt rows k=some u/\RelV v u/\Q v H1):Ta rows ta σ H Q:=q
theorem jV (q:ta σ H λy H1=>∃ (x:Str) (sp:Sp),y=.str x/\(x,sp)∈OZ/\t σ H1 λvs H2=>sp vs H2 Q E):NC OZ E ta t σ H Q:=q
theorem uB (q:ta σ H λx H1=>jf K T x H1/\r x [] H1 Q):ZI K T r ta σ H Q:=q
theorem Ace (q:ta σ H λx H1=>jf K T x H1/\t σ H1 λxs H2=>r x xs H2 Q):sI K T r ta t σ H Q:=q
theorem qz (q:ta σ H λx H1=>∃ a dx fs,x=.ref a/\H1 a=some (.ins C dx fs)/\fs.lookup m=none/\t σ H1 λvs H2=>sp (x::(vs++[])) H2 Q E):DD C m sp [] E ta t σ H Q:=q
end
end L2
local macro_rules | `(tactic| fail)=>do
 let mut r<- `(tactic| with_reducible refine Yw ?_)
 for s in "L2.qz L2.Ace L2.uB L2.jV L2.qv L2.Tc L2.i9 L2.qw ie Wh aN qC aK qB L2.uA".splitOn " " do r<- `(tactic| first | with_reducible refine $(Lean.mkIdent s.toName) ?_ | $r:tactic)
 `(tactic| first
 | ((with_reducible refine uC (x:=?v) ?h ?q);(case h=>rfl))
 | $r:tactic)
namespace L2
open PySem PySem.Spec PyProof.Rows KS
noncomputable def LK (K:W.Frag)(a:Addr)(xs:List V):Prop:=∃ (o:Obj) (its:Array Value) (n:Nat),K.lookup a=some o/\o.cls=.type "tuple"/\o.data=.seq its n/\its.size<=sizeLine/\Vals xs its.toList
theorem LK.sq {K:W.Frag}{a:Addr}{xs:List V}(h:LK K a xs)(H:Hp):BL K H a xs:=.inr h
end L2
namespace KX
open PySem
namespace Ex
noncomputable def wd:Ex->Str
 | nm _=>"name" | num _=>"number" | tru _=>"truth" | emp=>"empty" | fn _ _=>"fun" | rc _ _ _=>"rec" | cal _ _=>"call" | lt _ _ _=>"let" | wh _ _ _=>"when" | pr _ _=>"pair"
 | opn _ _ _ _=>"open" | lk _ _=>"link" | spl _ _ _ _ _=>"split" | op _ _ _=>"op"
noncomputable def prt:Ex->List (Ex × List Str)
 | nm _ | num _ | tru _ | emp=>[]
 | fn x b=>[(b,[x])] | rc f x b=>[(b,[f,x])] | cal a b=>[(a,[]),(b,[])] | lt x a b=>[(a,[]),(b,[x])] | wh a b c=>[(a,[]),(b,[]),(c,[])] | pr a b=>[(a,[]),(b,[])]
 | opn a x y b=>[(a,[]),(b,[x,y])] | lk a b=>[(a,[]),(b,[])] | spl a b x y c=>[(a,[]),(b,[]),(c,[x,y])] | op _ a b=>[(a,[]),(b,[])]
noncomputable def plc:Ex->List (Nat × List Nat)
 | nm _ | num _ | tru _ | emp=>[]
 | fn _ _=>[(2,[1])] | rc _ _ _=>[(3,[1,2])] | cal _ _=>[(1,[]),(2,[])] | lt _ _ _=>[(2,[]),(3,[1])] | wh _ _ _=>[(1,[]),(2,[]),(3,[])] | pr _ _=>[(1,[]),(2,[])]
 | opn _ _ _ _=>[(1,[]),(4,[2,3])] | lk _ _=>[(1,[]),(2,[])] | spl _ _ _ _ _=>[(1,[]),(2,[]),(5,[3,4])] | op _ _ _=>[(2,[]),(3,[])]
end Ex
end KX
namespace L2
open PySem PySem.Spec PyProof.Rows KS KX
noncomputable def uD (H:Hp)(us:List V)(row:Nat × List Nat)(pt:Ex × List Str):Prop:=(∃ re,us[row.1]?=some re/\BD H pt.1 re)/\Paired (λn x=>us[n]?=some (V.str x)) row.2 pt.2
theorem BD.look (h:BD H e r):∃ p us,r=.ref p/\H p=some (.tup (.str e.wd::us))/\Paired (uD H (.str e.wd::us)) e.plc e.prt/\us.length<=5:=by
 cases e with
 | nm _=>obtain ⟨p,h1,h2⟩:=h;exact ⟨p,_,h1,h2,.nil,by simp⟩
 | num _=>obtain ⟨p,h1,h2⟩:=h;exact ⟨p,_,h1,h2,.nil,by simp⟩
 | tru _=>obtain ⟨p,h1,h2⟩:=h;exact ⟨p,_,h1,h2,.nil,by simp⟩
 | emp=>obtain ⟨p,h1,h2⟩:=h;exact ⟨p,_,h1,h2,.nil,by simp⟩
 | fn _ _=>obtain ⟨p,rb,h1,h2,h3⟩:=h;exact ⟨p,_,h1,h2,.cons ⟨⟨rb,rfl,h3⟩,.cons rfl .nil⟩ .nil,by simp⟩
 | rc _ _ _=>obtain ⟨p,rb,h1,h2,h3⟩:=h;exact ⟨p,_,h1,h2,.cons ⟨⟨rb,rfl,h3⟩,.cons rfl (.cons rfl .nil)⟩ .nil,by simp⟩
 | cal _ _=>obtain ⟨p,ra,rb,h1,h2,h3,h4⟩:=h;exact ⟨p,_,h1,h2,.cons ⟨⟨ra,rfl,h3⟩,.nil⟩ (.cons ⟨⟨rb,rfl,h4⟩,.nil⟩ .nil),by simp⟩
 | lt _ _ _=>obtain ⟨p,ra,rb,h1,h2,h3,h4⟩:=h;exact ⟨p,_,h1,h2,.cons ⟨⟨ra,rfl,h3⟩,.nil⟩ (.cons ⟨⟨rb,rfl,h4⟩,.cons rfl .nil⟩ .nil),by simp⟩
 | wh _ _ _=>obtain ⟨p,ra,rb,rc,h1,h2,h3,h4,h5⟩:=h;exact ⟨p,_,h1,h2,.cons ⟨⟨ra,rfl,h3⟩,.nil⟩ (.cons ⟨⟨rb,rfl,h4⟩,.nil⟩ (.cons ⟨⟨rc,rfl,h5⟩,.nil⟩ .nil)),by simp⟩
 | pr _ _=>obtain ⟨p,ra,rb,h1,h2,h3,h4⟩:=h;exact ⟨p,_,h1,h2,.cons ⟨⟨ra,rfl,h3⟩,.nil⟩ (.cons ⟨⟨rb,rfl,h4⟩,.nil⟩ .nil),by simp⟩
 | opn _ _ _ _=>obtain ⟨p,ra,rb,h1,h2,h3,h4⟩:=h;exact ⟨p,_,h1,h2,.cons ⟨⟨ra,rfl,h3⟩,.nil⟩ (.cons ⟨⟨rb,rfl,h4⟩,.cons rfl (.cons rfl .nil)⟩ .nil),by simp⟩
 | lk _ _=>obtain ⟨p,ra,rb,h1,h2,h3,h4⟩:=h;exact ⟨p,_,h1,h2,.cons ⟨⟨ra,rfl,h3⟩,.nil⟩ (.cons ⟨⟨rb,rfl,h4⟩,.nil⟩ .nil),by simp⟩
 | spl _ _ _ _ _=>obtain ⟨p,ra,rb,rc,h1,h2,h3,h4,h5⟩:=h;exact ⟨p,_,h1,h2,.cons ⟨⟨ra,rfl,h3⟩,.nil⟩ (.cons ⟨⟨rb,rfl,h4⟩,.nil⟩ (.cons ⟨⟨rc,rfl,h5⟩,.cons rfl (.cons rfl .nil)⟩ .nil)),by simp⟩
 | op _ _ _=>obtain ⟨p,ra,rb,h1,h2,h3,h4⟩:=h;exact ⟨p,_,h1,h2,.cons ⟨⟨ra,rfl,h3⟩,.nil⟩ (.cons ⟨⟨rb,rfl,h4⟩,.nil⟩ .nil),by simp⟩
noncomputable def Wi (K:W.Frag)(row:Nat × List Nat)(u:V):Prop:=∃ b c,u=.ref b/\LK K b [.int row.1,.ref c]/\LK K c (row.2.map λn:Nat=>V.int n)
noncomputable def KPl (K:W.Frag)(rows:List (Str × Value)):Prop:=∀ e:Ex,∃ a us,rowAt rows e.wd=some (.ref a)/\LK K a us/\Paired (Wi K) e.plc us
end L2
namespace KM
noncomputable def arity:Nat->Nat
 | 3=>2
 | 4=>2
 | 5=>1
 | _=>0
noncomputable def IF:Nat->List Kd->Kd
 | 0,_=>.num
 | 1,_=>.tru
 | 3,[a,b]=>.fn a b
 | 4,[a,b]=>.pr a b
 | 5,[a]=>.ls a
 | _,_=>.num
noncomputable def Td (T:Int->Kd)(t:Kd):Kd:=fill (λk=>some (T k)) t
theorem Kb (h:g < 6)(h2:g≠2)(h':g' < 6)(jH:g'≠2)(l:xs.length=arity g)(l':ys.length=arity g')(e:IF g xs=IF g' ys):g=g'/\xs=ys:=by
 have c:g=0\/g=1\/g=3\/g=4\/g=5:=by omega
 have c':g'=0\/g'=1\/g'=3\/g'=4\/g'=5:=by omega
 have two:∀ {zs:List Kd},zs.length=2->∃ a b,zs=[a,b]:=λ{zs} h=>by
  match zs,h with | [a,b],_=>exact ⟨a,b,rfl⟩
 have one:∀ {zs:List Kd},zs.length=1->∃ a,zs=[a]:=λ{zs} h=>by
  match zs,h with | [a],_=>exact ⟨a,rfl⟩
 have zero:∀ {zs:List Kd},zs.length=0->zs=[]:=λ{zs} h=>ul.mp h;rcases c with rfl | rfl | rfl | rfl | rfl <;> rcases c' with rfl | rfl | rfl | rfl | rfl <;> simp only [arity] at l l'
 all_goals first
  | (obtain rfl:=zero l;obtain rfl:=zero l';first | exact ⟨rfl,rfl⟩ | cases e)
  | (obtain rfl:=zero l;obtain ⟨a,b,rfl⟩:=two l';cases e)
  | (obtain rfl:=zero l;obtain ⟨a,rfl⟩:=one l';cases e)
  | (obtain ⟨a,b,rfl⟩:=two l;obtain rfl:=zero l';cases e)
  | (obtain ⟨a,rfl⟩:=one l;obtain rfl:=zero l';cases e)
  | (obtain ⟨a,b,rfl⟩:=two l;obtain ⟨a',b',rfl⟩:=two l';first | (cases e;exact ⟨rfl,rfl⟩) | cases e)
  | (obtain ⟨a,b,rfl⟩:=two l;obtain ⟨a',rfl⟩:=one l';cases e)
  | (obtain ⟨a,rfl⟩:=one l;obtain ⟨a',b',rfl⟩:=two l';cases e)
  | (obtain ⟨a,rfl⟩:=one l;obtain ⟨a',rfl⟩:=one l';cases e;exact ⟨rfl,rfl⟩)
noncomputable def glue (rp:Nat->Nat)(v u:Nat):Nat->Nat:=λi=>if rp i=v then u else rp i
theorem Fv {α:Type}{ρ:Nat->α}:∀ {l r:List Nat},l.length=r.length->(l.map ρ=r.map ρ↔∀ p∈l.zip r,ρ p.1=ρ p.2)
 | [],[],_=>by simp
 | x::l,y::r,h=>by
  have:=Fv (ρ:=ρ) (show l.length=r.length by simpa using h);simp only [xz,List.cons.injEq,this,List.zip_cons_cons,gz,forall_eq_or_imp]
section
variable {G:Gr}{a b:Kd}{i0 j0:Nat}{rp:Nat->Nat}{md:Nat->Option Kd}
theorem Qv (h:g≠2)(h6:g < 6)(l:ts.length=arity g):Td T (IF g ts)=IF g (ts.map (Td T)):=by
 have c:g=0\/g=1\/g=3\/g=4\/g=5:=by omega
 rcases c with rfl | rfl | rfl | rfl | rfl <;> simp only [arity] at l
 ·rfl
 ·rfl
 ·match ts,l with | [a,b],_=>rfl
 ·match ts,l with | [a,b],_=>rfl
 ·match ts,l with | [a],_=>rfl
theorem NF (h:g≠2)(h6:g < 6)(l:ts.length=arity g):∀ t∈ts,sz t < sz (IF g ts):=by
 have c:g=0\/g=1\/g=3\/g=4\/g=5:=by omega
 rcases c with rfl | rfl | rfl | rfl | rfl <;> simp only [arity] at l
 ·intro t ht;rw [ul.mp l] at ht;cases ht
 ·intro t ht;rw [ul.mp l] at ht;cases ht
 ·match ts,l with
  | [a,b],_ =>
   intro t ht;simp at ht;rcases ht with rfl | rfl <;> simp only [IF,sz] <;> omega
 ·match ts,l with
  | [a,b],_ =>
   intro t ht;simp at ht;rcases ht with rfl | rfl <;> simp only [IF,sz] <;> omega
 ·match ts,l with
  | [a],_ =>
   intro t ht;simp at ht;subst ht;simp only [IF,sz];omega
end
noncomputable def cnt (p:Nat->Bool):Nat->Nat
 | 0=>0
 | n+1=>cnt p n+(if p n then 1 else 0)
theorem Te {p q:Nat->Bool}(h:∀ i,p i=true->q i=true):∀ n,cnt p n<=cnt q n
 | 0=>am _
 | n+1=>by
  have:=Te h n;show cnt p n+(if p n then 1 else 0)<=cnt q n+(if q n then 1 else 0)
  by_cases e:p n=true
  ·rw [if_pos e,if_pos (h n e)];omega
  ·rw [if_neg e];omega
theorem Tf {p q:Nat->Bool}(h:∀ i,p i=true->q i=true){j:Nat}(h1:q j=true)(h2:¬ p j=true):∀ {n},j < n->cnt p n < cnt q n
 | 0,hj=>by omega
 | n+1,hj=>by
  show cnt p n+(if p n then 1 else 0) < cnt q n+(if q n then 1 else 0)
  by_cases e:j=n
  ·subst e;rw [if_neg h2,if_pos h1];have:=Te h j;omega
  ·have:=Tf h h1 h2 (n:=n) ();by_cases e:p n=true
   ·rw [if_pos e,if_pos (h n e)];omega
   ·rw [if_neg e];omega
structure UF (n:Nat)(par rp rk:Nat->Nat):Prop where
 lt:∀ i,i < n->par i < n
 rpp:∀ i,i < n->rp (par i)=rp i
 root:∀ i,i < n->par i=i->rp i=i
 up:∀ i,i < n->par i≠i->rk (par i) < rk i
 idem:∀ i,i < n->rp i < n/\rp (rp i)=rp i
 top:∀ i,i < n->par (rp i)=rp i
noncomputable def D5 (f:Nat->Nat)(i x:Nat):Nat->Nat:=λj=>if j=i then x else f j
theorem BG:D5 f i x i=x:=if_pos rfl
theorem AV (h:j≠i):D5 f i x j=f j:=if_neg h
theorem UF.start (n:Nat):UF n id id (λ_=>0):=⟨λ_ h=>h,λ_ _=>rfl,λ_ _ _=>rfl,λ_ _ h=>absurd rfl h,λ_ h=>⟨h,rfl⟩,λ_ _=>rfl⟩
theorem UF.abv {n:Nat}{par rp rk:Nat->Nat}(U:UF n par rp rk){i:Nat}(hi:i < n)(DT:par i≠i):UF n (D5 par i (par (par i))) rp rk where
 lt:=λj hj=>by
  by_cases e:j=i
  ·rw [e,BG];exact U.lt _ (U.lt _ hi)
  ·rw [AV e];exact U.lt _ hj
 rpp:=λj hj=>by
  by_cases e:j=i
  ·rw [e,BG,U.rpp _ (U.lt _ hi),U.rpp _ hi]
  ·rw [AV e];exact U.rpp _ hj
 root:=λj hj h=>by
  by_cases e:j=i
  ·rw [e,BG] at h;have h1:=U.up i hi DT;by_cases z:par (par i)=par i
   ·rw [z] at h;exact absurd h DT
   ·have h2:=U.up _ (U.lt _ hi) z;rw [h] at h2;omega
  ·rw [AV e] at h;exact U.root _ hj h
 up:=λj hj h=>by
  by_cases e:j=i
  ·rw [e,BG];have h1:=U.up i hi DT;by_cases z:par (par i)=par i
   ·rw [z];exact h1
   ·have h2:=U.up _ (U.lt _ hi) z;omega
  ·rw [AV e] at h ⊢;exact U.up _ hj h
 idem:=U.idem
 top:=λj hj=>by
  have uE:rp j≠i:=λz=>by
   have:=U.top j hj;rw [z] at this;exact DT this
  rw [AV uE];exact U.top j hj
theorem UF.union {n:Nat}{par rp rk:Nat->Nat}(U:UF n par rp rk){u v:Nat}(hu:u < n)(hv:v < n)(ru:rp u=u)(rv:rp v=v)(DT:u≠v):UF n (D5 par v u) (glue rp v u) (λi=>if rp i=v then rk i+rk u+1 else rk i) where
 lt:=λj hj=>by
  by_cases e:j=v
  ·rw [e,BG];exact hu
  ·rw [AV e];exact U.lt _ hj
 rpp:=λj hj=>by
  by_cases e:j=v
  ·rw [e,BG];show (if rp u=v then u else rp u)=(if rp v=v then u else rp v)
   rw [ru,if_neg DT,if_pos rv]
  ·rw [AV e];show (if rp (par j)=v then u else rp (par j))=(if rp j=v then u else rp j)
   rw [U.rpp j hj]
 root:=λj hj h=>by
  by_cases e:j=v
  ·rw [e,BG] at h;exact absurd h DT
  ·rw [AV e] at h;show (if rp j=v then u else rp j)=j
   rw [U.root j hj h,if_neg e]
 up:=λj hj h=>by
  show (if rp (D5 par v u j)=v then rk (D5 par v u j)+rk u+1 else rk (D5 par v u j)) < (if rp j=v then rk j+rk u+1 else rk j)
  by_cases e:j=v
  ·rw [e,BG,ru,if_neg DT,rv,if_pos rfl];omega
  ·rw [AV e] at h ⊢;have:=U.up j hj h;rw [U.rpp j hj];by_cases z:rp j=v
   ·rw [if_pos z,if_pos z];omega
   ·rw [if_neg z,if_neg z];exact this
 idem:=λj hj=>by
  show (if rp j=v then u else rp j) < n/\(if rp (if rp j=v then u else rp j)=v then u else rp (if rp j=v then u else rp j))=(if rp j=v then u else rp j)
  by_cases z:rp j=v
  ·rw [if_pos z];exact ⟨hu,by rw [ru,if_neg DT]⟩
  ·rw [if_neg z];have:=U.idem j hj;exact ⟨this.1,by rw [this.2,if_neg z]⟩
 top:=λj hj=>by
  show D5 par v u (if rp j=v then u else rp j)=(if rp j=v then u else rp j)
  by_cases z:rp j=v
  ·rw [if_pos z,AV DT];have:=U.top u hu;rw [ru] at this;exact this
  ·rw [if_neg z,AV z];exact U.top j hj
end KM
namespace KN
open KM
structure Ns where
 n:Nat
 tg:Nat->Nat
 ch:Nat->List Nat
 rp:Nat->Nat
 lv:Nat->Nat
 k:Nat
structure Ok (s:Ns)(A:Nat->Prop):Prop where
 rp:∀ i,i < s.n->s.rp i < s.n/\s.rp (s.rp i)=s.rp i
 ch:∀ i,i < s.n->∀ c∈s.ch i,c < s.n
 ar:∀ i,i < s.n->(s.ch i).length<=2
 lt:∀ i,A i->i < s.n
 li:∀ i,i < s.n->(A (s.rp i)↔A i)
 cl:∀ x,A x->s.rp x=x->∀ c∈s.ch x,A c
 mo:∀ x,A x->s.rp x=x->∀ c∈s.ch x,s.lv (s.rp c)<=s.lv x
 le:∀ x,A x->s.rp x=x->s.lv x<=s.k
theorem Ok.lev (o:Ok s A)(h:A x):s.lv (s.rp x)<=s.k :=
 o.le _ ((o.li _ (o.lt _ h)).mpr h) (o.rp _ (o.lt _ h)).2
structure Le (s:Ns)(A:Nat->Prop)(s':Ns)(A':Nat->Prop):Prop where
 n:s.n<=s'.n
 k:s'.k=s.k
 tg:∀ i,i < s.n->s'.tg i=s.tg i
 ch:∀ i,i < s.n->s'.ch i=s.ch i
 fr:∀ i,i < s.n->¬ A i->¬ A' i/\s'.rp i=s.rp i/\s'.lv (s.rp i)=s.lv (s.rp i)
 li:∀ i,A i->A' i/\s'.lv (s'.rp i)<=s.lv (s.rp i)
theorem Le.refl (s:Ns)(A:Nat->Prop):Le s A s A:=⟨am _,rfl,λ_ _=>rfl,λ_ _=>rfl,λ_ _ h=>⟨h,rfl,rfl⟩,λ_ h=>⟨h,am _⟩⟩
theorem Le.trans {s s' Ou:Ns}{A A' jW:Nat->Prop}(o:Ok s A)(a:Le s A s' A')(b:Le s' A' Ou jW):Le s A Ou jW where
 n:=ce a.n b.n
 k:=b.k.trans a.k
 tg:=λi h=>(b.tg i (kt h a.n)).trans (a.tg i h)
 ch:=λi h=>(b.ch i (kt h a.n)).trans (a.ch i h)
 fr:=λi h hA=>by
  obtain ⟨h1,h2,h3⟩:=a.fr i h hA;obtain ⟨h4,h5,h6⟩:=b.fr i (kt h a.n) h1;refine ⟨h4,h5.trans h2,?_⟩;rw [h2] at h6;exact h6.trans h3
 li:=λi h=>by
  obtain ⟨h1,h2⟩:=a.li i h;obtain ⟨h3,h4⟩:=b.li i h1;exact ⟨h3,ce h4 h2⟩
noncomputable def Ent (s:Ns)(A:Nat->Prop)(c e l:Nat):Prop:=e < s.n/\∃ ds:List Nat,ds.length<=c/\(∀ x∈ds,x < s.n/\¬ A x/\s.rp x=x) /\
 ∀ x,(x=e\/∃ y∈ds,x∈s.ch y)->(s.lv (s.rp x)<=l/\A x)\/(l < s.lv (s.rp x)/\s.rp x∈ds)
theorem Ent.more (h:Ent s A c e l)(hc:c<=c'):Ent s A c' e l :=
 ⟨h.1,h.2.choose,ce h.2.choose_spec.1 hc,h.2.choose_spec.2⟩
theorem Ent.live (o:Ok s A)(h:A e)(hl:s.lv (s.rp e)<=l):Ent s A c e l :=
 ⟨o.lt _ h,[],mi _,λx hx=>(by cases hx),λx hx=>by
  rcases hx with rfl | ⟨y,hy,_⟩
  ·exact .inl ⟨hl,h⟩
  ·cases hy⟩
theorem Ent.mono (o:Ok s A)(r:Le s A s' A')(h:Ent s A c e l):Ent s' A' c e l:=by
 obtain ⟨he,ds,h1,h2,h3⟩:=h;refine ⟨kt he r.n,ds,h1,λx hx=>?_,λx hx=>?_⟩
 ·obtain ⟨a,b,d⟩:=h2 x hx;obtain ⟨f1,f2,_⟩:=r.fr x a b;exact ⟨kt a r.n,f1,f2.trans d⟩
 ·have IU:x=e\/∃ y∈ds,x∈s.ch y:=by
   rcases hx with z | ⟨y,hy,z⟩
   ·exact .inl z
   ·exact .inr ⟨y,hy,by rw [<- r.ch y (h2 y hy).1];exact z⟩
  have xn:x < s.n:=by
   rcases IU with rfl | ⟨y,hy,z⟩
   ·exact he
   ·exact o.ch y (h2 y hy).1 x z
  rcases h3 x IU with ⟨a,b⟩ | ⟨a,b⟩
  ·obtain ⟨g1,g2⟩:=r.li x b;exact .inl ⟨ce g2 a,g1⟩
  ·have nA:¬ A x:=λz=>(h2 _ b).2.1 ((o.li x xn).mpr z);obtain ⟨_,f2,f3⟩:=r.fr x xn nA;rw [f2,f3];exact .inr ⟨a,b⟩
structure Down (s:Ns)(A:Nat->Prop)(s':Ns):Prop where
 n:s'.n=s.n
 k:s.k=s'.k+1
 tg:s'.tg=s.tg
 ch:s'.ch=s.ch
 rp:s'.rp=s.rp
 fr:∀ x,¬ A x->s'.lv x=s.lv x
 le:∀ x,s'.lv x<=s.lv x
 mo:∀ x,A x->s.rp x=x->∀ c∈s.ch x,s'.lv (s.rp c)<=s'.lv x
 gp:∀ x,s.rp x=x->s.tg x=2->s'.lv x=s.lv x
noncomputable def Gp (s':Ns)(A:Nat->Prop):Nat->Prop:=λx=>A x/\s'.lv (s'.rp x)<=s'.k
theorem Down.ok {s s':Ns}{A:Nat->Prop}(o:Ok s A)(d:Down s A s'):Ok s' (Gp s' A) where
 rp:=λi h=>by rw [d.rp,d.n];exact o.rp i (by rw [<- d.n];exact h)
 ch:=λi h=>by rw [d.ch,d.n];exact o.ch i (by rw [<- d.n];exact h)
 ar:=λi h=>by rw [d.ch];exact o.ar i (by rw [<- d.n];exact h)
 lt:=λi h=>by rw [d.n];exact o.lt i h.1
 li:=λi h=>by
  have h':i < s.n:=by rw [<- d.n];exact h
  unfold Gp;rw [d.rp,(o.rp i h').2,o.li i h']
 cl:=λx hx e c hc=>by
  rw [d.rp] at e;rw [d.ch] at hc;have:=d.mo x hx.1 e c hc;have h2:=hx.2;rw [d.rp,e] at h2;refine ⟨o.cl x hx.1 e c hc,?_⟩;rw [d.rp];omega
 mo:=λx hx e c hc=>by
  rw [d.rp] at e;rw [d.ch] at hc;rw [d.rp];exact d.mo x hx.1 e c hc
 le:=λx hx e=>by
  have h2:=hx.2;rw [e] at h2;exact h2
theorem Down.ent (o:Ok s A)(d:Down s A s')(hl:l<=s'.k)(h:Ent s A c e l):Ent s' (Gp s' A) c e l:=by
 obtain ⟨he,ds,h1,h2,h3⟩:=h;refine ⟨by rw [d.n];exact he,ds,h1,λx hx=>?_,λx hx=>?_⟩
 ·obtain ⟨a,b,z⟩:=h2 x hx;exact ⟨by rw [d.n];exact a,λq=>b q.1,by rw [d.rp];exact z⟩
 ·rw [d.ch] at hx;have xn:x < s.n:=by
   rcases hx with rfl | ⟨y,hy,z⟩
   ·exact he
   ·exact o.ch y (h2 y hy).1 x z
  rw [d.rp];rcases h3 x hx with ⟨a,b⟩ | ⟨a,b⟩
  ·have:=d.le (s.rp x);refine .inl ⟨(),b,?_⟩;rw [d.rp];omega
  ·exact .inr ⟨by rw [d.fr _ (h2 _ b).2.1];exact a,b⟩
end KN
namespace KN
structure Pre (s:Ns)(A:Nat->Prop)(l top:Nat):Prop where
 rp:∀ i,i < s.n->s.rp i < s.n/\s.rp (s.rp i)=s.rp i
 ch:∀ i,i < s.n->∀ c∈s.ch i,c < s.n
 ar:∀ i,i < s.n->(s.ch i).length<=2
 lt:∀ i,A i->i < s.n
 li:∀ i,i < s.n->(A (s.rp i)↔A i)
 cl:∀ x,A x->s.rp x=x->∀ c∈s.ch x,A c
 mo:∀ x,A x->s.rp x=x->∀ c∈s.ch x,s.lv (s.rp c)<=s.lv x\/(l<=s.lv x/\s.rp c=s.rp top)
 le:∀ x,A x->s.rp x=x->s.lv x<=s.k
 tp:A top
structure LL (s:Ns)(A:Nat->Prop)(l top:Nat)(lv:Nat->Nat)(W:List Nat):Prop where
 le:∀ x,lv x<=s.lv x
 fr:∀ x,¬ A x->lv x=s.lv x
 wA:∀ y∈W,A y
 mo:∀ x,A x->s.rp x=x->∀ c∈s.ch x,lv (s.rp c)<=lv x\/(l<=lv x/\∃ y∈W,s.rp y=s.rp c)
 tp:lv (s.rp top)<=l\/∃ y∈W,s.rp y=s.rp top
 qq:∀ Q:Nat->Prop,Q (s.rp top)->(∀ x,A x->s.rp x=x->Q x->∀ c∈s.ch x,Q (s.rp c))->(∀ x,lv x=s.lv x\/(lv x=l/\Q x))/\∀ y∈W,Q (s.rp y)
noncomputable def deep (n l:Nat)(lv:Nat->Nat):Nat:=(List.range n).countP λx=>decide (l < lv x)
theorem LL.start (p:Pre s A l top):LL s A l top s.lv [top] :=
 ⟨λ_=>am _,λ_ _=>rfl,λy hy=>by rw [al.mp hy];exact p.tp,λx hx e c hc=>(p.mo x hx e c hc).imp id λz=>⟨z.1,top,.head _,z.2.symm⟩,.inr ⟨top,.head _,rfl⟩,λQ h _=>⟨λ_=>.inl rfl,λy hy=>by rw [al.mp hy];exact h⟩⟩
theorem LL.skip {s:Ns}{A:Nat->Prop}{l top y:Nat}{lv:Nat->Nat}{W:List Nat}(h:LL s A l top lv (W++[y]))(hy:lv (s.rp y)<=l):LL s A l top lv W where
 le:=h.le
 fr:=h.fr
 wA:=λz hz=>h.wA z (ee _ hz)
 mo:=λx hx e c hc=>by
  rcases h.mo x hx e c hc with q | ⟨q,z,hz,ez⟩
  ·exact .inl q
  ·rcases bn.mp hz with hz | hz
   ·exact .inr ⟨q,z,hz,ez⟩
   ·rw [al.mp hz] at ez;exact .inl (by rw [<- ez];omega)
 tp:=by
  rcases h.tp with q | ⟨z,hz,ez⟩
  ·exact .inl q
  ·rcases bn.mp hz with hz | hz
   ·exact .inr ⟨z,hz,ez⟩
   ·rw [al.mp hz] at ez;exact .inl (by rw [<- ez];exact hy)
 qq:=λQ a c=>⟨(h.qq Q a c).1,λy hy=>(h.qq Q a c).2 y (ee _ hy)⟩
theorem LL.go (p:Pre s A l top)(h:LL s A l top lv (W++[y]))(hy:l < lv (s.rp y)):
  LL s A l top (λj=>if j=s.rp y then l else lv j) (W++s.ch (s.rp y)):=by
 have yA:A y:=h.wA y (by simp);have rA:A (s.rp y):=(p.li y (p.lt y yA)).mpr yA;have rr:=(p.rp y (p.lt y yA)).2;have low:∀ j,(if j=s.rp y then l else lv j)<=lv j:=λj=>by
  by_cases e:j=s.rp y
  ·rw [if_pos e,e];omega
  ·rw [if_neg e];exact am _
 refine ⟨λx=>ce (low x) (h.le x),λx hx=>?_,λz hz=>?_,λx hx e c hc=>?_,?_,λQ hq hc=>?_⟩
 ·rw [if_neg (λe:x=s.rp y=>hx (by rw [e];exact rA))];exact h.fr x hx
 ·rcases bn.mp hz with hz | hz
  ·exact h.wA z (ee _ hz)
  ·exact p.cl _ rA rr z hz
 ·by_cases ex:x=s.rp y
  ·subst ex;rw [if_pos rfl];exact .inr ⟨am _,c,ir _ hc,rfl⟩
  ·rw [if_neg ex];by_cases ec:s.rp c=s.rp y
   ·rw [if_pos ec];rcases h.mo x hx e c hc with q | ⟨q,_⟩
    ·rw [ec] at q;exact .inl ()
    ·exact .inl q
   ·rw [if_neg ec];rcases h.mo x hx e c hc with q | ⟨q,z,hz,ez⟩
    ·exact .inl q
    ·rcases bn.mp hz with hz | hz
     ·exact .inr ⟨q,z,ee _ hz,ez⟩
     ·rw [al.mp hz] at ez;exact absurd ez.symm ec
 ·by_cases ec:s.rp top=s.rp y
  ·rw [if_pos ec];exact .inl (am _)
  ·rw [if_neg ec];rcases h.tp with q | ⟨z,hz,ez⟩
   ·exact .inl q
   ·rcases bn.mp hz with hz | hz
    ·exact .inr ⟨z,ee _ hz,ez⟩
    ·rw [al.mp hz] at ez;exact absurd ez.symm ec
 ·obtain ⟨q1,q2⟩:=h.qq Q hq hc;have qy:Q (s.rp y):=q2 y (by simp);refine ⟨λx=>?_,λz hz=>?_⟩
  ·by_cases e:x=s.rp y
   ·rw [if_pos e,e];exact .inr ⟨rfl,qy⟩
   ·rw [if_neg e];exact q1 x
  ·rcases bn.mp hz with hz | hz
   ·exact q2 z (ee _ hz)
   ·exact hc _ rA rr qy z hz
theorem Ju:∀ {l:List α} {x:α},x∈l->(∀ y,q y=true->p y=true)->p x=true->q x=false->l.countP q < l.countP p:=by
 intro l
 induction l with
 | nil=>intro x h;cases h
 | cons a l ih =>
  intro x hx jL px qx;have mono:l.countP q<=l.countP p:=List.countP_mono_left λy _=>jL y;rw [List.countP_cons,List.countP_cons];rcases gz.mp hx with rfl | hx
  ·simp only [px,qx,if_true];simp;omega
  ·have:=ih hx jL px qx;cases hq:q a
   ·cases p a <;> simp <;> omega
   ·rw [jL a hq];simp;omega
theorem Wj (hy:y < n)(h:l < lv y):deep n l (λj=>if j=y then l else lv j) < deep n l lv:=by
 unfold deep;refine Ju (x:=y) (FB.mpr hy) (λz hz=>?_) (decide_eq_true h) (by simp);by_cases e:z=y
 ·subst e;simp at hz
 ·simpa [e] using hz
theorem Wk (n l:Nat)(lv:Nat->Nat):deep n l lv<=n:=by
 unfold deep;exact ce List.countP_le_length (by simp)
theorem LL.done (p:Pre s A l top)(h:LL s A l top lv []):Ok { s with lv:=lv } A/\lv (s.rp top)<=l:=by
 refine ⟨⟨p.rp,p.ch,p.ar,p.lt,p.li,p.cl,λx hx e c hc=>?_,λx hx e=>ce (h.le x) (p.le x hx e)⟩,?_⟩
 ·rcases h.mo x hx e c hc with q | ⟨_,z,hz,_⟩
  ·exact q
  ·cases hz
 ·rcases h.tp with q | ⟨z,hz,_⟩
  ·exact q
  ·cases hz
noncomputable def Ns.glue (s:Ns)(v u:Nat):Ns:={ s with rp:=λi=>if s.rp i=v then u else s.rp i }
theorem Ok.glue (o:Ok s A)(hu:A u)(hv:A v)(ru:s.rp u=u)(rv:s.rp v=v)(ne:u≠v):Pre (s.glue v u) A (s.lv v) u:=by
 have e0:(s.glue v u).rp u=u:=by show (if s.rp u=v then u else s.rp u)=u;rw [ru,if_neg ne]
 have back:∀ x,(s.glue v u).rp x=x->A x->s.rp x=x/\x≠v:=λx e hx=>by
  have e:(if s.rp x=v then u else s.rp x)=x:=e
  by_cases q:s.rp x=v
  ·rw [if_pos q] at e;rw [<- e,ru] at q;exact absurd q ne
  ·rw [if_neg q] at e;exact ⟨e,λz=>q (by rw [e];exact z)⟩
 refine ⟨λi hi=>?_,o.ch,o.ar,o.lt,λi hi=>?_,λx hx e=>o.cl x hx (back x e hx).1,λx hx e c hc=>?_,λx hx e=>o.le x hx (back x e hx).1,hu⟩
 ·show (if s.rp i=v then u else s.rp i) < s.n/\(s.glue v u).rp (if s.rp i=v then u else s.rp i)=(if s.rp i=v then u else s.rp i)
  by_cases q:s.rp i=v
  ·rw [if_pos q];exact ⟨o.lt u hu,e0⟩
  ·rw [if_neg q];refine ⟨(o.rp i hi).1,?_⟩;show (if s.rp (s.rp i)=v then u else s.rp (s.rp i))=s.rp i
   rw [(o.rp i hi).2,if_neg q]
 ·show A (if s.rp i=v then u else s.rp i)↔A i
  by_cases q:s.rp i=v
  ·rw [if_pos q,<- o.li i hi,q];exact ⟨λ_=>hv,λ_=>hu⟩
  ·rw [if_neg q];exact o.li i hi
 ·obtain ⟨ex,_⟩:=back x e hx;have m:=o.mo x hx ex c hc;show s.lv (if s.rp c=v then u else s.rp c)<=s.lv x\/(s.lv v<=s.lv x/\(if s.rp c=v then u else s.rp c)=(s.glue v u).rp u)
  rw [e0];by_cases q:s.rp c=v
  ·rw [if_pos q];rw [q] at m;exact .inr ⟨m,rfl⟩
  ·rw [if_neg q];exact .inl m
theorem Le.abn (o:Ok s A)(hu:A u)(hv:A v)(ru:s.rp u=u)(rv:s.rp v=v)(ne:u≠v)(h:LL (s.glue v u) A (s.lv v) u lv []):
  Ok { s.glue v u with lv:=lv } A/\Le s A { s.glue v u with lv:=lv } A:=by
 have p:=o.glue hu hv ru rv ne;obtain ⟨h1,h2⟩:=h.done p;have e0:(s.glue v u).rp u=u:=by show (if s.rp u=v then u else s.rp u)=u;rw [ru,if_neg ne]
 rw [e0] at h2;refine ⟨h1,am _,rfl,λ_ _=>rfl,λ_ _=>rfl,λi hi nA=>?_,λi hA=>⟨hA,?_⟩⟩
 ·have q:s.rp i≠v:=λz=>nA ((o.li i hi).mp (z▸hv));have nr:¬ A (s.rp i):=λz=>nA ((o.li i hi).mp z);exact ⟨nA,if_neg q,h.fr _ nr⟩
 ·show lv (if s.rp i=v then u else s.rp i)<=s.lv (s.rp i)
  by_cases q:s.rp i=v
  ·rw [if_pos q,q];exact h2
  ·rw [if_neg q];exact h.le _
open KM
noncomputable def plus (A:Nat->Prop)(x:Nat):Nat->Prop:=λi=>A i\/i=x
noncomputable def Ns.add (s:Ns)(t:Nat)(cs:List Nat):Ns where
 n:=s.n+1
 tg:=λj=>if j=s.n then t else s.tg j
 ch:=λj=>if j=s.n then cs else s.ch j
 rp:=λj=>if j=s.n then s.n else s.rp j
 lv:=λj=>if j=s.n then s.k else s.lv j
 k:=s.k
theorem Ok.add (o:Ok s A)(hc:∀ c∈cs,A c)(hl:cs.length<=2):Ok (s.add t cs) (plus A s.n):=by
 have rpo:∀ i,i < s.n->(s.add t cs).rp i=s.rp i:=λi h=>if_neg (dL h);have qD:∀ i,i < s.n->(s.add t cs).ch i=s.ch i:=λi h=>if_neg (dL h);have aO:∀ i,i < s.n->(s.add t cs).lv i=s.lv i:=λi h=>if_neg (dL h);have uF:(s.add t cs).rp s.n=s.n:=if_pos rfl;have qE:(s.add t cs).ch s.n=cs:=if_pos rfl;have lvn:(s.add t cs).lv s.n=s.k:=if_pos rfl;have two:∀ i,i < (s.add t cs).n->i < s.n\/i=s.n:=λi h=>by
  have h:i < s.n+1:=h;omega
 have old:∀ x,plus A s.n x->(s.add t cs).rp x=x->(A x/\x < s.n/\s.rp x=x)\/x=s.n:=λx hx e=>by
  rcases hx with hx | hx
  ·exact .inl ⟨hx,o.lt x hx,by rw [rpo x (o.lt x hx)] at e;exact e⟩
  ·exact .inr hx
 refine ⟨λi hi=>?_,λi hi c h=>?_,λi hi=>?_,λi hi=>?_,λi hi=>?_,λx hx e c h=>?_,λx hx e c h=>?_,λx hx e=>?_⟩
 ·rcases two i hi with h | h
  ·obtain ⟨h1,h2⟩:=o.rp i h;rw [rpo i h,rpo _ h1];exact ⟨Q3 h1,h2⟩
  ·rw [h,uF,uF];exact ⟨Nat.lt_succ_self _,rfl⟩
 ·rcases two i hi with h' | h'
  ·rw [qD i h'] at h;exact Q3 (o.ch i h' c h)
  ·rw [h',qE] at h;exact Q3 (o.lt c (hc c h))
 ·rcases two i hi with h | h
  ·rw [qD i h];exact o.ar i h
  ·rw [h,qE];exact hl
 ·rcases hi with h | h
  ·exact Q3 (o.lt i h)
  ·rw [h];exact Nat.lt_succ_self _
 ·rcases two i hi with h | h
  ·obtain ⟨h1,_⟩:=o.rp i h;rw [rpo i h];show (A (s.rp i)\/s.rp i=s.n)↔(A i\/i=s.n);have a:s.rp i≠s.n:=dL h1;have b:i≠s.n:=dL h;simp only [a,b,or_false];exact o.li i h
  ·rw [h,uF]
 ·rcases old x hx e with ⟨a,b,d⟩ | h'
  ·rw [qD x b] at h;exact .inl (o.cl x a d c h)
  ·rw [h',qE] at h;exact .inl (hc c h)
 ·rcases old x hx e with ⟨a,b,d⟩ | h'
  ·rw [qD x b] at h;have cn:=o.lt c (o.cl x a d c h);rw [rpo c cn,aO _ (o.rp c cn).1,aO x b];exact o.mo x a d c h
  ·rw [h',qE] at h;have cn:=o.lt c (hc c h);rw [rpo c cn,aO _ (o.rp c cn).1,h',lvn];exact o.lev (hc c h)
 ·rcases old x hx e with ⟨a,b,d⟩ | h'
  ·rw [aO x b];exact o.le x a d
  ·rw [h',lvn];exact am _
theorem Le.add (o:Ok s A):Le s A (s.add t cs) (plus A s.n):=by
 have rpo:∀ i,i < s.n->(s.add t cs).rp i=s.rp i:=λi h=>if_neg (dL h);have aO:∀ i,i < s.n->(s.add t cs).lv i=s.lv i:=λi h=>if_neg (dL h);refine ⟨IR _,rfl,λi h=>if_neg (dL h),λi h=>if_neg (dL h),λi h nA=>⟨λz=>?_,rpo i h,aO _ (o.rp i h).1⟩,λi h=>⟨.inl h,?_⟩⟩
 ·rcases z with z | z
  ·exact nA z
  ·omega
 ·have:=o.lt i h;rw [rpo i this,aO _ (o.rp i this).1];exact am _
noncomputable def Ns.setC (s:Ns)(i:Nat)(cs:List Nat):Ns:={ s with ch:=λj=>if j=i then cs else s.ch j }
theorem Ok.setC (o:Ok s A)(hi:A i)(hk:s.lv i=s.k)(hc:∀ c∈cs,A c)(hl:cs.length<=2):Ok (s.setC i cs) A:=by
 have two:∀ j,(j=i/\(s.setC i cs).ch j=cs)\/(s.setC i cs).ch j=s.ch j:=λj=>by
  by_cases e:j=i
  ·exact .inl ⟨e,if_pos e⟩
  ·exact .inr (if_neg e)
 refine ⟨o.rp,λj hj c h=>?_,λj hj=>?_,o.lt,o.li,λx hx e c h=>?_,λx hx e c h=>?_,o.le⟩
 ·rcases two j with ⟨_,q⟩ | q
  ·rw [q] at h;exact o.lt c (hc c h)
  ·rw [q] at h;exact o.ch j hj c h
 ·rcases two j with ⟨_,q⟩ | q
  ·rw [q];exact hl
  ·rw [q];exact o.ar j hj
 ·rcases two x with ⟨_,q⟩ | q
  ·rw [q] at h;exact hc c h
  ·rw [q] at h;exact o.cl x hx e c h
 ·rcases two x with ⟨z,q⟩ | q
  ·rw [q] at h;show s.lv (s.rp c)<=s.lv x;rw [z,hk];exact o.lev (hc c h)
  ·rw [q] at h;exact o.mo x hx e c h
theorem Le.setC (r:Le s0 A0 s A)(hi:s0.n<=i):Le s0 A0 (s.setC i cs) A :=
 ⟨r.n,r.k,r.tg,λj h=>(if_neg (dL (kt h hi))).trans (r.ch j h),r.fr,r.li⟩
theorem Ok.deeper (o:Ok s A):Ok { s with k:=s.k+1 } A :=
 ⟨o.rp,o.ch,o.ar,o.lt,o.li,o.cl,o.mo,λx hx e=>Nat.le_succ_of_le (o.le x hx e)⟩
noncomputable def roots (n:Nat)(rp:Nat->Nat):Nat:=(List.range n).countP λi=>decide (rp i=i)
theorem aa9 (n:Nat)(rp:Nat->Nat):roots n rp<=n:=by
 unfold roots;exact ce List.countP_le_length (by simp)
theorem aaz {s:Ns}{u v:Nat}(hv:v < s.n)(ru:s.rp u=u)(rv:s.rp v=v)(ne:u≠v):roots s.n (s.glue v u).rp < roots s.n s.rp:=by
 unfold roots;refine Ju (x:=v) (FB.mpr hv) (λy hy=>?_) (decide_eq_true rv) ?_
 ·have e:(if s.rp y=v then u else s.rp y)=y:=of_decide_eq_true hy
  by_cases q:s.rp y=v
  ·rw [if_pos q] at e;rw [<- e,ru] at q;exact absurd q ne
  ·rw [if_neg q] at e;exact decide_eq_true e
 ·refine decide_eq_false λe=>?_;have e:(if s.rp v=v then u else s.rp v)=v:=e
  rw [if_pos rv] at e;exact ne e
theorem LM {l m:List Nat}(h:l.Nodup)(s:∀ x∈l,x∈m):l.length<=m.length:=by
 induction l generalizing m with
 | nil=>exact mi _
 | cons a l ih =>
  obtain ⟨h1,h2⟩:=Ix.mp h;have ha:=s a (.head _);have:=ih h2 (m:=m.erase a) λx hx=>(List.mem_erase_of_ne (λe:x=a=>h1 (by rw [<- e];exact hx))).mpr (s x (.tail _ hx));rw [List.length_erase_of_mem ha] at this;have:0 < m.length:=List.length_pos_of_mem ha;simp only [sB];omega
structure Cp (s:Ns)(A:Nat->Prop)(ds:List Nat)(e l:Nat)(s1:Ns)(A1:Nat->Prop)(ks W:List Nat):Prop where
 ok:Ok s1 A1
 le:Le s A s1 A1
 n:s1.n=s.n+ks.length
 new:∀ j,j < ks.length->A1 (s.n+j)/\s1.lv (s.n+j)=s1.k/\s1.rp (s.n+j)=s.n+j
 rpo:∀ i,i < s.n->s1.rp i=s.rp i/\s1.lv i=s.lv i
 lvA:∀ i,A1 i->A i\/s.n<=i
 nd:ks.Nodup
 sub:∀ x∈ks,x∈ds
 wt:∀ y∈W,y=e\/∃ x∈ks,y∈s.ch x
 all:∀ y,(y=e\/∃ x∈ks,y∈s.ch x)->y∈W\/s.lv (s.rp y)<=l\/s.rp y∈ks
theorem Cp.start {s:Ns}{A:Nat->Prop}{ds:List Nat}{e l:Nat}(o:Ok s A):Cp s A ds e l s A [] [e] where
 ok:=o
 le:=Le.refl s A
 n:=rfl
 new:=λj h=>absurd h (Os _)
 rpo:=λi h=>⟨rfl,rfl⟩
 lvA:=λi h=>.inl h
 nd:=SC
 sub:=λx hx=>by cases hx
 wt:=λy hy=>.inl (al.mp hy)
 all:=λy hy=>by
  rcases hy with rfl | ⟨x,hx,_⟩
  ·exact .inl (.head _)
  ·cases hx
theorem Cp.skip (c:Cp s A ds e l s1 A1 ks (W++[y]))(h:s.lv (s.rp y)<=l\/s.rp y∈ks):Cp s A ds e l s1 A1 ks W :=
 { c with
  wt:=λz hz=>c.wt z (ee _ hz)
  all:=λz hz=>by
   rcases c.all z hz with q | q
   ·rcases bn.mp q with q | q
    ·exact .inl q
    ·rw [al.mp q];exact .inr h
   ·exact .inr q }
theorem Cp.go (o:Ok s A)(hE:∀ x,(x=e\/∃ z∈ds,x∈s.ch z)->(s.lv (s.rp x)<=l/\A x)\/(l < s.lv (s.rp x)/\s.rp x∈ds))(c:Cp s A ds e l s1 A1 ks (W++[y]))(h1:l < s.lv (s.rp y))(h2:s.rp y∉ks):Cp s A ds e l (s1.add t []) (plus A1 s1.n) (ks++[s.rp y]) (W++s.ch (s.rp y)):=by
 have yin:s.rp y∈ds:=by
  have q:y=e\/∃ z∈ds,y∈s.ch z:=(c.wt y (by simp)).imp id λ⟨x,hx,z⟩=>⟨x,c.sub x hx,z⟩;rcases hE y q with ⟨z,_⟩ | ⟨_,z⟩
  ·omega
  ·exact z
 refine ⟨c.ok.add (λx hx=>by cases hx) (mi _),Le.trans o c.le (Le.add c.ok),?_,λj hj=>?_,λi hi=>?_,λi hi=>?_,?_,λx hx=>?_,λz hz=>?_,λz hz=>?_⟩
 ·show s1.n+1=_;rw [c.n,ca];rfl
 ·rw [ca] at hj;have hj:j < ks.length+1:=hj;by_cases q:j < ks.length
  ·obtain ⟨a,b,d⟩:=c.new j q;have ne:s.n+j≠s1.n:=(by rw [c.n];omega);refine ⟨.inl a,?_,?_⟩
   ·show (if s.n+j=s1.n then s1.k else s1.lv (s.n+j))=s1.k
    rw [if_neg ne];exact b
   ·show (if s.n+j=s1.n then s1.n else s1.rp (s.n+j))=s.n+j
    rw [if_neg ne];exact d
  ·have e1:s.n+j=s1.n:=(by rw [c.n];omega);refine ⟨.inr e1,?_,?_⟩
   ·show (if s.n+j=s1.n then s1.k else s1.lv (s.n+j))=s1.k
    rw [if_pos e1]
   ·show (if s.n+j=s1.n then s1.n else s1.rp (s.n+j))=s.n+j
    rw [if_pos e1];exact e1.symm
 ·have ne:i≠s1.n:=by rw [c.n];omega
  obtain ⟨a,b⟩:=c.rpo i hi;exact ⟨(if_neg ne).trans a,(if_neg ne).trans b⟩
 ·rcases hi with q | q
  ·exact c.lvA i q
  ·exact .inr (by rw [q,c.n];omega)
 ·refine List.nodup_append.mpr ⟨c.nd,by simp,λa ha b hb=>?_⟩;rw [al.mp hb];exact λz=>h2 (z▸ha)
 ·rcases bn.mp hx with q | q
  ·exact c.sub x q
  ·rw [al.mp q];exact yin
 ·rcases bn.mp hz with q | q
  ·exact (c.wt z (ee _ q)).imp id λ⟨x,hx,r⟩=>⟨x,ee _ hx,r⟩
  ·exact .inr ⟨s.rp y,by simp,q⟩
 ·have key:(z=e\/∃ x∈ks,z∈s.ch x)\/z∈s.ch (s.rp y):=by
   rcases hz with q | ⟨x,hx,r⟩
   ·exact .inl (.inl q)
   ·rcases bn.mp hx with hx | hx
    ·exact .inl (.inr ⟨x,hx,r⟩)
    ·rw [al.mp hx] at r;exact .inr r
  rcases key with q | q
  ·rcases c.all z q with r | r | r
   ·rcases bn.mp r with r | r
    ·exact .inl (ee _ r)
    ·rw [al.mp r];exact .inr (.inr (by simp))
   ·exact .inr (.inl r)
   ·exact .inr (.inr (ee _ r))
  ·exact .inl (ir _ q)
theorem Cp.few (c:Cp s A ds e l s1 A1 ks W):ks.length<=ds.length:=LM c.nd c.sub
theorem Cp.part (hE:∀ x,(x=e\/∃ z∈ds,x∈s.ch z)->(s.lv (s.rp x)<=l/\A x)\/(l < s.lv (s.rp x)/\s.rp x∈ds))(c:Cp s A ds e l s1 A1 ks [])(hy:y=e\/∃ x∈ks,y∈s.ch x):s.rp y∈ks\/A y:=by
 rcases c.all y hy with q | q | q
 ·cases q
 ·have q':y=e\/∃ z∈ds,y∈s.ch z:=hy.imp id λ⟨x,hx,z⟩=>⟨x,c.sub x hx,z⟩;rcases hE y q' with ⟨_,z⟩ | ⟨z,_⟩
  ·exact .inr z
  ·omega
 ·exact .inl q
open KX
open PySem
abbrev Gv:=Str->Option (Nat × Nat)
structure Fe where
 e:Ex
 g:Gv
 nd:Nat
 fs:Option Nat
noncomputable def Hl (s:Ns)(A:Nat->Prop)(k C:Nat)(g:Gv):Prop:=∀ x p,g x=some p->Ent s A C p.1 p.2/\p.2<=k
noncomputable def Ia (g:Gv)(xs:List Str):Prop:=∀ y∈xs,(g y).isSome=true
theorem Hl.mono (o:Ok s A)(r:Le s A s' A')(h:Hl s A k C g):Hl s' A' k C g:=λx p e=>⟨(h x p e).1.mono o r,(h x p e).2⟩
theorem Hl.more (h:Hl s A k C g)(hk:k<=k')(hC:C<=C'):Hl s A k' C' g:=λx p e=>⟨(h x p e).1.more hC,ce (h x p e).2 hk⟩
noncomputable def Gv.put (g:Gv)(x:Str)(p:Nat × Nat):Gv:=λy=>if y=x then some p else g y
theorem Hl.put (h:Hl s A k C g)(hp:Ent s A C p.1 p.2)(hk:p.2<=k):Hl s A k C (g.put x p):=λy q e=>by
 unfold Gv.put at e;by_cases z:y=x
 ·rw [if_pos z] at e;cases e;exact ⟨hp,hk⟩
 ·rw [if_neg z] at e;exact h y q e
theorem Ia.put (h:Ia g xs):Ia (g.put x p) (x::xs):=λy hy=>by
 unfold Gv.put;by_cases z:y=x
 ·rw [if_pos z];rfl
 ·rw [if_neg z];exact h y ((gz.mp hy).resolve_left z)
structure Hm (s:Ns):Prop where
 tg:∀ i,i < s.n->s.tg i < 6
 ar:∀ i,i < s.n->(s.ch i).length=KM.arity (s.tg i)
theorem Hm.le (a:Hm s)(h:Le s A s' A')(e:s'.n=s.n):Hm s' :=
 ⟨λi hi=>by rw [e] at hi;rw [h.tg i hi];exact a.tg i hi,λi hi=>by rw [e] at hi;rw [h.tg i hi,h.ch i hi];exact a.ar i hi⟩
theorem Hm.add (a:Hm s)(ht:t < 6)(hc:cs.length=KM.arity t):Hm (s.add t cs):=by
 have two:∀ i,i < s.n+1->(i < s.n/\i≠s.n)\/i=s.n:=λi h=>by omega
 refine ⟨λi hi=>?_,λi hi=>?_⟩
 all_goals rcases two i hi with ⟨h,ne⟩ | h
 ·show (if i=s.n then t else s.tg i) < 6;rw [if_neg ne];exact a.tg i h
 ·show (if i=s.n then t else s.tg i) < 6;rw [if_pos h];exact ht
 ·show (if i=s.n then cs else s.ch i).length=KM.arity (if i=s.n then t else s.tg i);rw [if_neg ne,if_neg ne];exact a.ar i h
 ·show (if i=s.n then cs else s.ch i).length=KM.arity (if i=s.n then t else s.tg i);rw [if_pos h,if_pos h];exact hc
end KN
namespace L2
open PySem PySem.Spec PyProof.Rows KS KM KN
noncomputable def Cc (n:Nat)(f:Nat->Nat):List V:=(List.range n).map λj=>V.int ((f j:Nat):Int)
noncomputable def lsN (cs:List Nat):List V:=cs.map λc=>V.int ((c:Nat):Int)
noncomputable def DB (n:Nat)(tg:Nat->Nat):List V:=(List.range n).map λj=>V.str (BB (tg j))
theorem CL (h:j < n):(Cc n f)[j]?=some (V.int ((f j:Nat):Int)):=by simp [Cc,h]
theorem D6 (h:j < n):(DB n f)[j]?=some (V.str (BB (f j))):=by simp [DB,h]
theorem CA:(Cc n f).length=n:=by simp [Cc]
theorem Qw:(DB n f).length=n:=by simp [DB]
theorem EY:(Cc n f).set j (V.int ((x:Nat):Int))=Cc n (D5 f j x):=by
 refine List.ext_getElem? λi=>?_;unfold Cc;by_cases hi:i < n
 ·by_cases e:j=i
  ·subst e;rw [List.getElem?_set_self (by simp [hi])];simp [hi,D5]
  ·rw [List.getElem?_set_ne e];simp [hi,D5,be e]
 ·rw [OE (by simp;omega),OE (by simp;omega)]
theorem Jv:Cc (n+1) (λj=>if j=n then x else f j)=Cc n f++[V.int ((x:Nat):Int)]:=by
 unfold Cc;rw [List.range_succ,wT]
 congr 1
 ·exact vc λj hj=>by dsimp only;rw [if_neg (dL (FB.mp hj))]
 ·simp
theorem Qx:DB (n+1) (λj=>if j=n then x else f j)=DB n f++[V.str (BB x)]:=by
 unfold DB;rw [List.range_succ,wT]
 congr 1
 ·exact vc λj hj=>by dsimp only;rw [if_neg (dL (FB.mp hj))]
 ·simp
structure NA where
 p:Addr
 dx:Addr
 s:Addr
 i:Addr
 l:Addr
 v:Addr
 g:Addr
 gk:List (Key × V)
noncomputable def Qy (N:NA)(k:Nat):List (Str × V):=[("sorts",.ref N.s),("inner",.ref N.i),("leaders",.ref N.l),("levels",.ref N.v),("level",.int ((k:Nat):Int)),("gaps",.ref N.g)]
structure Bv (C:Addr)(N:NA)(H:Hp)(s:Ns)(ls:List Addr):Prop where
 ins:H N.p=some (.ins C N.dx (Qy N s.k))
 sorts:H N.s=some (.lst (DB s.n s.tg))
 inner:H N.i=some (.lst (ls.map V.ref))
 uf:∃ par rk,UF s.n par s.rp rk/\H N.l=some (.lst (Cc s.n par))
 levels:H N.v=some (.lst (Cc s.n s.lv))
 aaj:H N.g=some (.dK N.gk)
 len:ls.length=s.n
 chs:∀ j l,ls[j]?=some l->H l=some (.lst (lsN (s.ch j)))
 away:∀ l∈ls,l≠N.s/\l≠N.i/\l≠N.l/\l≠N.v
 ne:N.s≠N.i/\N.s≠N.l/\N.i≠N.l/\N.v≠N.s/\N.v≠N.i/\N.v≠N.l
noncomputable def BU (N:NA)(H H':Hp):Prop:=∀ b o,H b=some o->b≠N.p->b≠N.s->b≠N.i->b≠N.l->b≠N.v->H' b=some o
theorem BU.of_same (s:Ai H H'):BU N H H':=λb o e _ _ _ _ _=>s b o e
theorem BU.trans (a:BU N H1 H2)(b:BU N H2 H3):BU N H1 H3:=λc o e p q r s t=>b c o (a c o e p q r s t) p q r s t
section
variable {C:Addr}{N:NA}{H H':Hp}{s:Ns}{ls:List Addr}
theorem Bv.lead (A:Bv C N H s ls):∃ xs,H N.l=some (.lst xs):=let ⟨par,_,_,h⟩:=A.uf;⟨_,h⟩
theorem Bv.np (A:Bv C N H s ls):N.p≠N.s/\N.p≠N.i/\N.p≠N.l/\N.p≠N.v:=by
 obtain ⟨_,hl⟩:=A.lead;exact ⟨AW A.ins A.sorts (by intro z;cases z),AW A.ins A.inner (by intro z;cases z),AW A.ins hl (by intro z;cases z),AW A.ins A.levels (by intro z;cases z)⟩
theorem Bv.ng (A:Bv C N H s ls):N.g≠N.p/\N.g≠N.s/\N.g≠N.i/\N.g≠N.l/\N.g≠N.v:=by
 obtain ⟨_,hl⟩:=A.lead;exact ⟨AW A.aaj A.ins (by intro z;cases z),AW A.aaj A.sorts (by intro z;cases z),AW A.aaj A.inner (by intro z;cases z),AW A.aaj hl (by intro z;cases z),AW A.aaj A.levels (by intro z;cases z)⟩
theorem Bv.lp (A:Bv C N H s ls)(h:l∈ls):l≠N.p:=by
 obtain ⟨k,hk,ek⟩:=na.mp h;exact AW (A.chs k l (by rw [ap hk,ek])) A.ins (by intro z;cases z)
theorem Bv.same (A:Bv C N H s ls)(h:Ai H H'):Bv C N H' s ls :=
 ⟨h _ _ A.ins,h _ _ A.sorts,h _ _ A.inner,(let ⟨a,b,c,d⟩:=A.uf;⟨a,b,c,h _ _ d⟩),h _ _ A.levels,h _ _ A.aaj,A.len,λj l e=>h _ _ (A.chs j l e),A.away,A.ne⟩
theorem Bv.off (A:Bv C N H s ls)(h1:w≠N.p)(h2:w≠N.s)(h3:w≠N.i)(h4:w≠N.l)(h5:w≠N.v)(h6:w≠N.g)(h7:w∉ls):Bv C N (upd H w o) s ls :=
 ⟨by rw [Ac (be h1)];exact A.ins,by rw [Ac (be h2)];exact A.sorts,by rw [Ac (be h3)];exact A.inner,(let ⟨a,b,c,d⟩:=A.uf;⟨a,b,c,by rw [Ac (be h4)];exact d⟩),by rw [Ac (be h5)];exact A.levels,by rw [Ac (be h6)];exact A.aaj,A.len,
  λj l e=>by rw [Ac (λz:l=w=>h7 (by rw [<- z];exact ci e))];exact A.chs j l e,A.away,A.ne⟩
theorem Bv.abo (A:Bv C N H s ls)(U:UF s.n par rp rk):Bv C N (upd H N.l (.lst (Cc s.n par))) { s with rp:=rp } ls:=by
 obtain ⟨_,_,p3,_⟩:=A.np;obtain ⟨_,_,_,g4,_⟩:=A.ng;obtain ⟨_,n2,n3,_,_,n6⟩:=A.ne;refine ⟨by rw [Ac p3];exact A.ins,by rw [Ac n2];exact A.sorts,by rw [Ac n3];exact A.inner,⟨par,rk,U,Ad⟩,by rw [Ac n6];exact A.levels,by rw [Ac g4];exact A.aaj,A.len,λj l e=>?_,A.away,A.ne⟩;rw [Ac (A.away l (ci e)).2.2.1];exact A.chs j l e
theorem Bv.ab6 (A:Bv C N H s ls)(lv:Nat->Nat):Bv C N (upd H N.v (.lst (Cc s.n lv))) { s with lv:=lv } ls:=by
 obtain ⟨_,_,_,p4⟩:=A.np;obtain ⟨_,_,_,_,g5⟩:=A.ng;obtain ⟨_,_,_,n4,n5,n6⟩:=A.ne;refine ⟨by rw [Ac p4];exact A.ins,by rw [Ac (be n4)];exact A.sorts,by rw [Ac (be n5)];exact A.inner,(let ⟨a,b,c,d⟩:=A.uf;⟨a,b,c,by rw [Ac (be n6)];exact d⟩),Ad,by rw [Ac g5];exact A.aaj,A.len,λj l e=>?_,A.away,A.ne⟩;rw [Ac (A.away l (ci e)).2.2.2];exact A.chs j l e
theorem Bv.level (A:Bv C N H s ls)(k:Nat):Bv C N (upd H N.p (.ins C N.dx (Qy N k))) { s with k:=k } ls:=by
 obtain ⟨p1,p2,p3,p4⟩:=A.np;refine ⟨Ad,by rw [Ac (be p1)];exact A.sorts,by rw [Ac (be p2)];exact A.inner,(let ⟨a,b,c,d⟩:=A.uf;⟨a,b,c,by rw [Ac (be p3)];exact d⟩),by rw [Ac (be p4)];exact A.levels,by rw [Ac A.ng.1];exact A.aaj,A.len,λj l e=>?_,A.away,A.ne⟩;rw [Ac (A.lp (ci e))];exact A.chs j l e
theorem UF.add (U:UF n par rp rk):UF (n+1) (λj=>if j=n then n else par j) (λj=>if j=n then n else rp j) rk:=by
 have two:∀ i,i < n+1->(i < n/\i≠n)\/i=n:=λi h=>by omega
 have nn:∀ {i},i < n->i≠n:=λh=>dL h;refine ⟨λi h=>?_,λi h=>?_,λi h e=>?_,λi h e=>?_,λi h=>?_,λi h=>?_⟩
 all_goals rcases two i h with ⟨a,b⟩ | b
 ·simp only [b,if_false];exact Q3 (U.lt i a)
 ·simp [b]
 ·simp only [b,nn (U.lt i a),if_false];exact U.rpp i a
 ·simp [b]
 ·simp only [b,if_false] at e ⊢;exact U.root i a e
 ·simp [b]
 ·simp only [b,if_false] at e ⊢;exact U.up i a e
 ·simp [b] at e
 ·simp only [b,nn (U.idem i a).1,if_false];exact ⟨Q3 (U.idem i a).1,(U.idem i a).2⟩
 ·simp [b]
 ·simp only [b,nn (U.idem i a).1,if_false];exact U.top i a
 ·simp [b]
theorem Bv.add (A:Bv C N H s ls)(hl:H l=some (.lst (lsN cs)))(h1:l≠N.s)(h2:l≠N.i)(h3:l≠N.l)(h4:l≠N.v)(ex:H N.l=some (.lst xs))(e1:H' N.s=some (.lst (DB s.n s.tg++[V.str (BB t)])))(e2:H' N.i=some (.lst (ls.map V.ref++[V.ref l])))(e3:H' N.l=some (.lst (xs++[V.int ((s.n:Nat):Int)])))(e4:H' N.v=some (.lst (Cc s.n s.lv++[V.int ((s.k:Nat):Int)])))(fr:∀ b,b≠N.s->b≠N.i->b≠N.l->b≠N.v->H' b=H b) :
  Bv C N H' (s.add t cs) (ls++[l]):=by
 obtain ⟨p1,p2,p3,p4⟩:=A.np;obtain ⟨_,g2,g3,g4,g5⟩:=A.ng;obtain ⟨par,rk,U,hp⟩:=A.uf;rw [ex] at hp;cases hp;refine ⟨by rw [fr _ p1 p2 p3 p4];exact A.ins,by rw [e1];exact congrArg some (congrArg HO.lst Qx.symm),by rw [wT];exact e2,⟨_,rk,UF.add U,by rw [e3];exact congrArg some (congrArg HO.lst Jv.symm)⟩,by rw [e4];exact congrArg some (congrArg HO.lst Jv.symm),by rw [fr _ g2 g3 g4 g5];exact A.aaj,by rw [ca,A.len];rfl,λj l' e=>?_,λl' gV=>?_,A.ne⟩
 ·by_cases hj:j < ls.length
  ·rw [GE hj] at e;obtain ⟨a1,a2,a3,a4⟩:=A.away l' (ci e);rw [fr _ a1 a2 a3 a4];show H l'=some (.lst (lsN (if j=s.n then cs else s.ch j)))
   rw [if_neg (by rw [<- A.len];omega)];exact A.chs j l' e
  ·rw [Gc ()] at e;have Yr:j=s.n:=by
    have:=(cr.mp e).1;have:=A.len;simp at *;omega
   subst Yr;rw [A.len,Nat.sub_self] at e;cases e;rw [fr _ h1 h2 h3 h4];show H l=some (.lst (lsN (if s.n=s.n then cs else s.ch s.n)))
   rw [if_pos rfl];exact hl
 ·rcases bn.mp gV with z | z
  ·exact A.away l' z
  ·rw [al.mp z];exact ⟨h1,h2,h3,h4⟩
theorem Bv.setC (A:Bv C N H s ls)(hl:H l=some (.lst (lsN cs)))(h1:l≠N.s)(h2:l≠N.i)(h3:l≠N.l)(h4:l≠N.v):Bv C N (upd H N.i (.lst ((ls.set i l).map V.ref))) (s.setC i cs) (ls.set i l):=by
 obtain ⟨_,p2,_⟩:=A.np;obtain ⟨_,_,g3,_⟩:=A.ng;obtain ⟨n1,_,n3,_,n5,_⟩:=A.ne;refine ⟨by rw [Ac p2];exact A.ins,by rw [Ac n1];exact A.sorts,Ad,(let ⟨a,b,c,d⟩:=A.uf;⟨a,b,c,by rw [Ac (be n3)];exact d⟩),by rw [Ac n5];exact A.levels,by rw [Ac g3];exact A.aaj,by rw [List.length_set];exact A.len,λj l' e=>?_,λl' gV=>?_,A.ne⟩
 ·show (upd H N.i _) l'=some (.lst (lsN (if j=i then cs else s.ch j)))
  by_cases q:j=i
  ·subst q;rw [if_pos rfl];have:l'=l:=by
    rw [List.getElem?_set] at e;simp only [if_true] at e;split at e
    ·cases e;rfl
    ·cases e
   rw [this,Ac h2];exact hl
  ·rw [if_neg q];rw [List.getElem?_set_ne (be q)] at e;rw [Ac (A.away l' (ci e)).2.1];exact A.chs j l' e
 ·rcases List.mem_or_eq_of_mem_set gV with z | z
  ·exact A.away l' z
  ·rw [z];exact ⟨h1,h2,h3,h4⟩
end
end L2
namespace KN
open KM
structure Bk (s:Ns)(A:Nat->Prop)(lv:Nat->Nat):Prop where
 le:∀ x,lv x<=s.lv x
 fr:∀ x,¬ A x->lv x=s.lv x
 mo:∀ x,A x->s.rp x=x->∀ c∈s.ch x,lv (s.rp c)<=lv x
 gp:∀ x,s.rp x=x->s.tg x=2->lv x=s.lv x
theorem Bk.start (o:Ok s A):Bk s A s.lv:=⟨λ_=>am _,λ_ _=>rfl,o.mo,λ_ _ _=>rfl⟩
theorem Bk.put (b:Bk s A lv)(ha:A a)(hr:s.rp a=a)(ht:s.tg a≠2)(hM:(s.ch a=[]/\M=0)\/((∃ c∈s.ch a,M=lv (s.rp c))/\∀ c∈s.ch a,lv (s.rp c)<=M)):Bk s A (D5 lv a M):=by
 have low:M<=lv a:=by
  rcases hM with ⟨_,rfl⟩ | ⟨⟨c,hc,rfl⟩,_⟩
  ·exact mi _
  ·exact b.mo a ha hr c hc
 have all:∀ c∈s.ch a,lv (s.rp c)<=M:=by
  rcases hM with ⟨e,_⟩ | ⟨_,h⟩
  ·intro c hc;rw [e] at hc;cases hc
  ·exact h
 have two:∀ x,D5 lv a M x<=lv x:=λx=>by
  by_cases e:x=a
  ·rw [e,BG];exact low
  ·rw [AV e];exact am _
 refine ⟨λx=>ce (two x) (b.le x),λx hx=>?_,λx hx ex c hc=>?_,λx ex et=>by rw [AV (show x≠a from λe=>ht (by rw [<- e];exact et))];exact b.gp x ex et⟩
 ·rw [AV (λe=>hx (by rw [e];exact ha))];exact b.fr x hx
 ·by_cases e:x=a
  ·subst e;rw [BG];by_cases ec:s.rp c=x
   ·rw [ec,BG];exact am _
   ·rw [AV ec];exact all c hc
  ·rw [AV e];exact ce (two _) (b.mo x hx ex c hc)
theorem Bk.down (b:Bk s A lv)(h:s.k=k+1):Down s A { s with lv:=lv,k:=k }:=⟨rfl,h,rfl,rfl,rfl,b.fr,b.le,b.mo,b.gp⟩
theorem nodup_range {n:Nat}{l:List Nat}(h:l.Nodup)(b:∀ x∈l,x < n):l.length<=n:=by
 have:=LM h (m:=List.range n) λx hx=>FB.mpr (b x hx);simpa using this
end KN
namespace KX
open PySem Ex KM
abbrev Gm:=Str->Kd->Prop
noncomputable def Gm.put (Γ:Gm)(x:Str)(T:Kd->Prop):Gm:=λy t=>if y=x then T t else Γ y t
noncomputable def g0:Gm:=λ_ _=>False
noncomputable def Yx (o:Str):Kd:=if o="plus" then .num else if o="minus" then .num else .tru
inductive HK:Gm->Ex->Kd->Prop
 | nm {Γ:Gm} {x:Str} {g:Kd}:Γ x g->HK Γ (.nm x) g
 | num {Γ:Gm} (i:Int):HK Γ (.num i) .num
 | tru {Γ:Gm} (b:Bool):HK Γ (.tru b) .tru
 | emp {Γ:Gm} (a:Kd):HK Γ .emp (.ls a)
 | fn {Γ:Gm} {x:Str} {b:Ex} {a r:Kd}:HK (Γ.put x (·=a)) b r->HK Γ (.fn x b) (.fn a r)
 | rc {Γ:Gm} {f x:Str} {b:Ex} {a r:Kd}:HK ((Γ.put f (·=.fn a r)).put x (·=a)) b r->HK Γ (.rc f x b) (.fn a r)
 | cal {Γ:Gm} {e e':Ex} {a r:Kd}:HK Γ e (.fn a r)->HK Γ e' a->HK Γ (.cal e e') r
 | lt {Γ:Gm} {x:Str} {e e':Ex} {g t0:Kd} (T:Kd->Prop):sz t0<=7->HK Γ e t0->(∀ t,T t->HK Γ e t)->HK (Γ.put x T) e' g->HK Γ (.lt x e e') g
 | wh {Γ:Gm} {e e1 e2:Ex} {g:Kd}:HK Γ e .tru->HK Γ e1 g->HK Γ e2 g->HK Γ (.wh e e1 e2) g
 | pr {Γ:Gm} {e e':Ex} {a b:Kd}:HK Γ e a->HK Γ e' b->HK Γ (.pr e e') (.pr a b)
 | lk {Γ:Gm} {e e':Ex} {a:Kd}:HK Γ e a->HK Γ e' (.ls a)->HK Γ (.lk e e') (.ls a)
 | opn {Γ:Gm} {x y:Str} {e e':Ex} {a b g:Kd}:HK Γ e (.pr a b)->HK ((Γ.put x (·=a)).put y (·=b)) e' g->HK Γ (.opn e x y e') g
 | spl {Γ:Gm} {x y:Str} {e e1 e2:Ex} {a g:Kd}:HK Γ e (.ls a)->HK Γ e1 g->HK ((Γ.put x (·=a)).put y (·=.ls a)) e2 g->HK Γ (.spl e e1 x y e2) g
 | op {Γ:Gm} {o:Str} {e e':Ex} {g:Kd}:g=Yx o->HK Γ e .num->HK Γ e' .num->HK Γ (.op o e e') g
noncomputable def HKi (Γ:Gm):Ex->Kd->Prop
 | .nm x,g=>Γ x g
 | .num _,g=>g=.num
 | .tru _,g=>g=.tru
 | .emp,g=>∃ a,g=.ls a
 | .fn x b,g=>∃ a r,g=.fn a r/\HK (Γ.put x (·=a)) b r
 | .rc f x b,g=>∃ a r,g=.fn a r/\HK ((Γ.put f (·=.fn a r)).put x (·=a)) b r
 | .cal e e',r=>∃ a,HK Γ e (.fn a r)/\HK Γ e' a
 | .lt x e e',g=>∃ T t0,KM.sz t0<=7/\HK Γ e t0/\(∀ t,T t->HK Γ e t)/\HK (Γ.put x T) e' g
 | .wh e a b,g=>HK Γ e .tru/\HK Γ a g/\HK Γ b g
 | .pr e e',g=>∃ a b,g=.pr a b/\HK Γ e a/\HK Γ e' b
 | .lk e e',g=>∃ a,g=.ls a/\HK Γ e a/\HK Γ e' (.ls a)
 | .opn e x y e',g=>∃ a b,HK Γ e (.pr a b)/\HK ((Γ.put x (·=a)).put y (·=b)) e' g
 | .spl e e1 x y e2,g=>∃ a,HK Γ e (.ls a)/\HK Γ e1 g/\HK ((Γ.put x (·=a)).put y (·=.ls a)) e2 g
 | .op o e e',g=>g=Yx o/\HK Γ e .num/\HK Γ e' .num
theorem HK.inv (h:HK Γ e g):HKi Γ e g:=by
 cases h with
 | nm h=>exact h
 | num _=>exact rfl
 | tru _=>exact rfl
 | emp a=>exact ⟨a,rfl⟩
 | fn h=>exact ⟨_,_,rfl,h⟩
 | rc h=>exact ⟨_,_,rfl,h⟩
 | cal h1 h2=>exact ⟨_,h1,h2⟩
 | lt T hz h0 h1 h2=>exact ⟨T,_,hz,h0,h1,h2⟩
 | wh h1 h2 h3=>exact ⟨h1,h2,h3⟩
 | pr h1 h2=>exact ⟨_,_,rfl,h1,h2⟩
 | lk h1 h2=>exact ⟨_,rfl,h1,h2⟩
 | opn h1 h2=>exact ⟨_,_,h1,h2⟩
 | spl h1 h2 h3=>exact ⟨_,h1,h2,h3⟩
 | op h h1 h2=>exact ⟨h,h1,h2⟩
noncomputable def Gm.Le (Γ Δ:Gm):Prop:=∀ y t,Γ y t->Δ y t
theorem Gm.Le.put {Γ Δ:Gm}(h:Γ.Le Δ)(x:Str)(T:Kd->Prop):(Γ.put x T).Le (Δ.put x T):=λy t z=>by
 simp only [Gm.put] at z ⊢;split
 ·rename_i e;rw [if_pos e] at z;exact z
 ·rename_i e;rw [if_neg e] at z;exact h y t z
theorem HK.mono (h:HK Γ e g):∀ {Δ:Gm},Γ.Le Δ->HK Δ e g:=by
 induction h with
 | nm h=>exact λl=>.nm (l _ _ h)
 | num i=>exact λ_=>.num i
 | tru b=>exact λ_=>.tru b
 | emp a=>exact λ_=>.emp a
 | fn _ ih=>exact λl=>.fn (ih (l.put _ _))
 | rc _ ih=>exact λl=>.rc (ih ((l.put _ _).put _ _))
 | cal _ _ ia ib=>exact λl=>.cal (ia l) (ib l)
 | lt T hz _ _ _ i0 i1 i2=>exact λl=>.lt T hz (i0 l) (λt z=>i1 t z l) (i2 (l.put _ _))
 | wh _ _ _ ia ib ic=>exact λl=>.wh (ia l) (ib l) (ic l)
 | pr _ _ ia ib=>exact λl=>.pr (ia l) (ib l)
 | lk _ _ ia ib=>exact λl=>.lk (ia l) (ib l)
 | opn _ _ ia ib=>exact λl=>.opn (ia l) (ib ((l.put _ _).put _ _))
 | spl _ _ _ ia ib ic=>exact λl=>.spl (ia l) (ib l) (ic ((l.put _ _).put _ _))
 | op q _ _ ia ib=>exact λl=>.op q (ia l) (ib l)
noncomputable def Yy (xs:List (Str × Kd)):Gm:=λy g=>∃ k,(y,k)∈xs/\∃ m,fill m k=g
structure QA (xs:List (Str × Kd))(g:Kd)(c:Nat)(e:Ex):Prop where
 cl:e.cl (xs.map (·.1))
 sz:e.sz<=c
 ty:HK (Yy xs) e g
end KX
namespace KN
open KM KX PySem
abbrev Sg:=Nat->Kd
noncomputable def Ib (s:Ns)(σ:Sg)(i:Nat):Prop:=σ i=σ (s.rp i)/\(s.tg (s.rp i)≠2->σ (s.rp i)=IF (s.tg (s.rp i)) ((s.ch (s.rp i)).map σ))
noncomputable def BA (s:Ns)(σ:Sg):Prop:=∀ i,i < s.n->Ib s σ i
noncomputable def Ic (n:Nat)(σ τ:Sg):Prop:=∀ i,i < n->σ i=τ i
theorem Ic.symm (h:Ic n σ τ):Ic n τ σ:=λi hi=>(h i hi).symm
theorem Ic.trans (h:Ic n σ τ)(k:Ic n τ υ):Ic n σ υ:=λi hi=>(h i hi).trans (k i hi)
theorem Ic.less (h:Ic n σ τ)(q:m<=n):Ic m σ τ:=λi hi=>h i (kt hi q)
theorem BA.eqn (o:Ok s A)(h:BA s σ)(e:Ic s.n σ τ):BA s τ:=λi hi=>by
 obtain ⟨a,b⟩:=h i hi;have rn:=(o.rp i hi).1;refine ⟨by rw [<- e i hi,<- e _ rn];exact a,λt=>?_⟩;rw [<- e _ rn,b t]
 congr 1
 exact vc λc hc=>e c (o.ch _ rn c hc)
noncomputable def GU (s:Ns)(ps:List (Nat × Nat))(σ:Sg):Prop:=BA s σ/\∀ p∈ps,σ p.1=σ p.2
noncomputable def jX (s:Ns)(A:Nat->Prop)(ps:List (Nat × Nat))(n0 k:Nat):Prop:=∀ σ τ,GU s ps σ->GU s ps τ->Ic n0 σ τ->∀ x,A x->s.lv (s.rp x)<=k->σ x=τ x
noncomputable def ig (s:Ns)(A:Nat->Prop)(n0 k:Nat):Prop:=∀ σ τ,BA s σ->BA s τ->Ic n0 σ τ->∀ x,A x->s.lv (s.rp x)<=k->σ x=τ x
structure Lf (s:Ns)(A:Nat->Prop)(s':Ns)(A':Nat->Prop):Prop where
 le:Le s A s' A'
 sb:∀ σ,BA s' σ->BA s σ
 dt:∀ n0 k,k < s.k->ig s A n0 k->ig s' A' n0 k
 nw:∀ i,s.n<=i->i < s'.n->A' i
theorem Lf.refl (s:Ns)(A:Nat->Prop):Lf s A s A:=⟨Le.refl s A,λ_ h=>h,λ_ _ _ h=>h,λi a b=>by omega⟩
theorem Lf.trans (o:Ok s A)(a:Lf s A s' A')(b:Lf s' A' Ou jW):Lf s A Ou jW :=
 ⟨Le.trans o a.le b.le,fun σ h=>a.sb σ (b.sb σ h),λn0 k hk h=>b.dt n0 k (by rw [a.le.k];exact hk) (a.dt n0 k hk h),λi h1 h2=>by
  by_cases q:i < s'.n
  ·exact (b.le.li i (a.nw i h1 q)).1
  ·exact b.nw i () h2⟩
theorem Lf.old (l:Lf s A s' A')(hi:i < s.n)(h:A' i):A i:=OA λz=>(l.le.fr i hi z).1 h
theorem Lf.still (o:Ok s A)(le:Le s A s' A')(h:∀ i,i < s.n->s'.rp i=s.rp i/\s'.lv i=s.lv i)(nl:∀ i,s.n<=i->i < s'.n->A' i/\s'.lv (s'.rp i)=s'.k)(lt:∀ i,A' i->i < s'.n):Lf s A s' A':=by
 have sb:∀ σ,BA s' σ->BA s σ:=fun σ z i hi=>by
  obtain ⟨a,b⟩:=z i (kt hi le.n);have rn:=(o.rp i hi).1;rw [(h i hi).1] at a b;rw [le.tg _ rn,le.ch _ rn] at b;exact ⟨a,b⟩
 refine ⟨le,sb,λn0 k hk z σ τ h1 h2 e x hx hl=>?_,λi a b=>(nl i a b).1⟩;by_cases q:x < s.n
 ·have xA:A x:=OA λz=>(le.fr x q z).1 hx;refine z σ τ (sb σ h1) (sb τ h2) e x xA ?_;rw [(h x q).1,(h _ (o.rp x q).1).2] at hl;exact hl
 ·have:=(nl x () (lt x hx)).2;rw [le.k] at this;omega
theorem Lf.add (o:Ok s A):Lf s A (s.add t cs) (plus A s.n):=by
 refine Lf.still o (Le.add o) (λi h=>⟨if_neg (dL h),if_neg (dL h)⟩) (λi h1 h2=>?_) (λi h=>?_)
 ·have h2:i < s.n+1:=h2;have e:i=s.n:=by omega
  subst e;refine ⟨.inr rfl,?_⟩;have r:(s.add t cs).rp s.n=s.n:=if_pos rfl;rw [r];exact if_pos rfl
 ·show i < s.n+1;rcases h with h | h
  ·exact Q3 (o.lt i h)
  ·omega
theorem BA.add (o:Ok s A)(h:BA s σ)(hv:t≠2->σ s.n=IF t (cs.map σ)):BA (s.add t cs) σ:=λi hi=>by
 have hi:i < s.n+1:=hi;by_cases e:i=s.n
 ·subst e;have r:(s.add t cs).rp s.n=s.n:=if_pos rfl;have r1:(s.add t cs).tg s.n=t:=if_pos rfl;have r2:(s.add t cs).ch s.n=cs:=if_pos rfl;unfold Ib;rw [r,r1,r2];exact ⟨rfl,hv⟩
 ·have hi:i < s.n:=by omega
  have rn:=(o.rp i hi).1;have ne:s.rp i≠s.n:=dL rn;have r:(s.add t cs).rp i=s.rp i:=if_neg e;have r1:(s.add t cs).tg (s.rp i)=s.tg (s.rp i):=if_neg ne;have r2:(s.add t cs).ch (s.rp i)=s.ch (s.rp i):=if_neg ne;unfold Ib;rw [r,r1,r2];exact h i hi
structure Us (s:Ns)(A:Nat->Prop)(ps:List (Nat × Nat))(s':Ns)(Ie:List (Nat × Nat)):Prop where
 sf:∀ σ,GU s ps σ->GU s' Ie σ
 sb:∀ σ,GU s' Ie σ->GU s ps σ
 dt:∀ n0 k,jX s A ps n0 k->jX s' A Ie n0 k
theorem Us.refl (s:Ns)(A:Nat->Prop)(ps:List (Nat × Nat)):Us s A ps s ps:=⟨λ_ h=>h,λ_ h=>h,λ_ _ h=>h⟩
theorem Us.trans (a:Us s A ps s' Ie)(b:Us s' A Ie Ou jY):Us s A ps Ou jY :=
 ⟨fun σ h=>b.sf σ (a.sf σ h),fun σ h=>a.sb σ (b.sb σ h),λn0 k h=>b.dt n0 k (a.dt n0 k h)⟩
theorem Us.lf (u:Us s A [(i,j)] s' [])(le:Le s A s' A)(en:s'.n=s.n):Lf s A s' A :=
 ⟨le,fun σ h=>(u.sb σ ⟨h,λp hp=>by cases hp⟩).1,λn0 k _ z σ τ h1 h2 e x hx hl=>u.dt n0 k (fun σ τ h1 h2=>z σ τ h1.1 h2.1) σ τ ⟨h1,λp hp=>by cases hp⟩ ⟨h2,λp hp=>by cases hp⟩ e x hx hl,λi a b=>by omega⟩
theorem Us.sol (u:Us s A [(i,j)] s' [])(h:BA s σ)(e:σ i=σ j):BA s' σ :=
 (u.sf σ ⟨h,λp hp=>by rw [al.mp hp];exact e⟩).1
theorem Us.skip (hx:x < s.n)(hy:y < s.n)(e:s.rp x=s.rp y):Us s A (ps++[(x,y)]) s ps:=by
 have sb:∀ σ,GU s ps σ->GU s (ps++[(x,y)]) σ:=fun σ h=>⟨h.1,λp hp=>by
  rcases bn.mp hp with z | z
  ·exact h.2 p z
  ·rw [al.mp z];show σ x=σ y;rw [(h.1 x hx).1,(h.1 y hy).1,e]⟩
 exact ⟨fun σ h=>⟨h.1,λp hp=>h.2 p (ee _ hp)⟩,sb,λn0 k h σ τ h1 h2=>h σ τ (sb σ h1) (sb τ h2)⟩
noncomputable def Fl (s:Ns)(A:Nat->Prop)(v u:Nat)(s':Ns):Prop:=∀ Q:Nat->Prop,Q u->(∀ x,A x->(s.glue v u).rp x=x->Q x->∀ c∈s.ch x,Q ((s.glue v u).rp c))->∀ x,s'.lv x=s.lv x\/(s'.lv x=s.lv v/\Q x)
theorem LL.fl (ru:s.rp u=u)(ne:u≠v)(h:LL (s.glue v u) A (s.lv v) u lv []):Fl s A v u { s.glue v u with lv:=lv }:=λQ hq hc=>by
 have e0:(s.glue v u).rp u=u:=by show (if s.rp u=v then u else s.rp u)=u;rw [ru,if_neg ne]
 exact (h.qq Q (by rw [e0];exact hq) hc).1
theorem Us.glue (o:Ok s A)(o':Ok s' A)(ar:Hm s)(le:Le s A s' A)(er:s'.rp=(s.glue v u).rp)(en:s'.n=s.n)(fl:Fl s A v u s')(hx:x < s.n)(hy:y < s.n)(hu:A u)(hv:A v)(ru:s.rp u=u)(rv:s.rp v=v)(ne:u≠v)(Nq:(s.rp x=u/\s.rp y=v)\/(s.rp x=v/\s.rp y=u))(hm:(s.tg v=2/\more=[])\/(s.tg v=s.tg u/\s.tg u≠2/\(more=(s.ch u).zip (s.ch v)\/more=(s.ch v).zip (s.ch u)))):Us s A (ps++[(x,y)]) s' (ps++more):=by
 have un:=o.lt u hu;have vn:=o.lt v hv;have qF:∀ i,s.rp i=v->s'.rp i=u:=λi h=>by rw [er];show (if s.rp i=v then u else s.rp i)=u;rw [if_pos h]
 have rpo:∀ i,s.rp i≠v->s'.rp i=s.rp i:=λi h=>by rw [er];show (if s.rp i=v then u else s.rp i)=s.rp i;rw [if_neg h]
 have s'u:s'.rp u=u:=by rw [rpo u (by rw [ru];exact ne),ru]
 have zip2:∀ σ:Sg,s.tg v=s.tg u->((∀ p∈(s.ch u).zip (s.ch v),σ p.1=σ p.2)↔(s.ch u).map σ=(s.ch v).map σ):=fun σ h=>(Fv (by rw [ar.ar u un,ar.ar v vn,h])).symm;have uG:∀ σ:Sg,s.tg v=s.tg u->((∀ p∈(s.ch v).zip (s.ch u),σ p.1=σ p.2)↔(s.ch v).map σ=(s.ch u).map σ):=fun σ h=>(Fv (by rw [ar.ar u un,ar.ar v vn,h])).symm;have Yz:∀ σ:Sg,s.tg v=s.tg u->(more=(s.ch u).zip (s.ch v)\/more=(s.ch v).zip (s.ch u))->((∀ p∈more,σ p.1=σ p.2)↔(s.ch u).map σ=(s.ch v).map σ):=fun σ h hm=>by
  rcases hm with rfl | rfl
  ·exact zip2 σ h
  ·rw [uG σ h];exact eq_comm
 have xyE:∀ σ:Sg,BA s σ->(σ x=σ y↔σ u=σ v):=fun σ h=>by
  rw [(h x hx).1,(h y hy).1];rcases Nq with ⟨a,b⟩ | ⟨a,b⟩
  ·rw [a,b]
  ·rw [a,b];exact eq_comm
 have sf:∀ σ,GU s (ps++[(x,y)]) σ->GU s' (ps++more) σ:=fun σ ⟨h1,h2⟩=>by
  have aP:σ u=σ v:=(xyE σ h1).mp (h2 (x,y) (by simp));have hU:=(h1 u un).2;have hV:=(h1 v vn).2;rw [ru] at hU;rw [rv] at hV;refine ⟨λi hi=>?_,λp hp=>?_⟩
  ·rw [en] at hi;obtain ⟨a,b⟩:=h1 i hi;by_cases q:s.rp i=v
   ·unfold Ib;rw [qF i q,le.tg u un,le.ch u un];exact ⟨by rw [a,q,aP],hU⟩
   ·have rn:=(o.rp i hi).1;unfold Ib;rw [rpo i q,le.tg _ rn,le.ch _ rn];exact ⟨a,b⟩
  ·rcases bn.mp hp with z | z
   ·exact h2 p (ee _ z)
   ·rcases hm with ⟨_,rfl⟩ | ⟨e1,e2,hm⟩
    ·cases z
    ·refine (Yz σ e1 hm).mpr ?_ p z;have:=aP;rw [hU e2,hV (by rw [e1];exact e2)] at this;exact (Kb (ar.tg u un) e2 (ar.tg v vn) (by rw [e1];exact e2) (by rw [ba];exact ar.ar u un) (by rw [ba];exact ar.ar v vn) this).2
 have sb:∀ σ,GU s' (ps++more) σ->GU s (ps++[(x,y)]) σ/\σ u=σ v:=fun σ ⟨h1,h2⟩=>by
  have aP:σ u=σ v:=by rw [(h1 v (by rw [en];exact vn)).1,qF v rv]
  have hU:=(h1 u (by rw [en];exact un)).2;rw [s'u,le.tg u un,le.ch u un] at hU;have S:BA s σ:=λi hi=>by
   obtain ⟨a,b⟩:=h1 i (by rw [en];exact hi);by_cases q:s.rp i=v
   ·rw [qF i q] at a;unfold Ib;rw [q];refine ⟨by rw [a,aP],λt=>?_⟩;rcases hm with ⟨e,_⟩ | ⟨e1,e2,hm⟩
    ·exact absurd e t
    ·rw [<- aP,hU e2,(Yz σ e1 hm).mp λp hp=>h2 p (ir _ hp),e1]
   ·have rn:=(o.rp i hi).1;rw [rpo i q] at a b;rw [le.tg _ rn,le.ch _ rn] at b;exact ⟨a,b⟩
  refine ⟨⟨S,λp hp=>?_⟩,aP⟩;rcases bn.mp hp with z | z
  ·exact h2 p (ee _ z)
  ·rw [al.mp z];exact (xyE σ S).mpr aP
 refine ⟨sf,fun σ h=>(sb σ h).1,λn0 k D σ τ h1 h2 e z hz hl=>?_⟩;obtain ⟨b1,u1⟩:=sb σ h1;obtain ⟨b2,u2⟩:=sb τ h2;have old:=D σ τ b1 b2 e;have zn:=o.lt z hz;have Qz:=fl (λw=>σ w=τ w);have r1:=(h1.1 z (by rw [en];exact zn)).1;have r2:=(h2.1 z (by rw [en];exact zn)).1;have clo:∀ w,A w->(s.glue v u).rp w=w->σ w=τ w->∀ c∈s.ch w,σ ((s.glue v u).rp c)=τ ((s.glue v u).rp c):=λw hw rw_ ew c hc=>by
  have wn:=o.lt w hw;have g1:=(h1.1 w (by rw [en];exact wn)).2;have g2:=(h2.1 w (by rw [en];exact wn)).2;have cn:=o.ch w wn c hc;rw [<- er] at rw_;rw [rw_,le.tg w wn,le.ch w wn] at g1 g2;have t2:s.tg w≠2:=λz=>by
   have:=ar.ar w wn;rw [z] at this;rw [ul.mp this] at hc;cases hc
  have ew:=ew;rw [g1 t2,g2 t2] at ew;have m:=(Kb (ar.tg w wn) t2 (ar.tg w wn) t2 (by rw [ba];exact ar.ar w wn) (by rw [ba];exact ar.ar w wn) ew).2;rw [<- er,<- (h1.1 c (by rw [en];exact cn)).1,<- (h2.1 c (by rw [en];exact cn)).1];exact List.map_inj_left.mp m c hc
 have key:σ (s'.rp z)=τ (s'.rp z):=by
  by_cases q:s'.lv (s'.rp z)=s.lv (s'.rp z)
  ·rw [q] at hl;by_cases w:s.rp z=v
   ·rw [qF z w] at hl ⊢;exact old u hu (by rw [ru];exact hl)
   ·rw [rpo z w] at hl ⊢;rw [<- (b1.1 z zn).1,<- (b2.1 z zn).1];exact old z hz hl
  ·have fz:∀ Q:Nat->Prop,Q u->(∀ x,A x->(s.glue v u).rp x=x->Q x->∀ c∈s.ch x,Q ((s.glue v u).rp c))->s'.lv (s'.rp z)=s.lv v/\Q (s'.rp z):=λQ a b=>(fl Q a b (s'.rp z)).resolve_left q;have lvv:=(fz (λ_=>True) trivial (λ_ _ _ _ _ _=>trivial)).1;have ev:σ v=τ v:=old v hv (by rw [rv,<- lvv];exact hl);exact (fz (λw=>σ w=τ w) (by rw [u1,u2];exact ev) clo).2
 rw [r1,r2];exact key
theorem BA.tags (o:Ok s A)(ar:Hm s)(h:BA s σ)(hx:x < s.n)(hy:y < s.n)(e:σ x=σ y)(t1:s.tg (s.rp x)≠2)(t2:s.tg (s.rp y)≠2):s.tg (s.rp x)=s.tg (s.rp y):=by
 obtain ⟨a1,b1⟩:=h x hx;obtain ⟨a2,b2⟩:=h y hy;have n1:=(o.rp x hx).1;have n2:=(o.rp y hy).1;rw [a1,a2,b1 t1,b2 t2] at e;exact (Kb (ar.tg _ n1) t1 (ar.tg _ n2) t2 (by rw [ba];exact ar.ar _ n1) (by rw [ba];exact ar.ar _ n2) e).1
theorem BA.down (d:Down s A s'):BA s' σ↔BA s σ:=by unfold BA Ib;rw [d.n,d.rp,d.tg,d.ch]
theorem BA.aaf (o:Ok s A)(ar:Hm s)(h:BA s σ)(hx:x < s.n)(t:s.tg (s.rp x)≠2)(hc:c∈s.ch (s.rp x)):sz (σ c) < sz (σ x):=by
 obtain ⟨a,b⟩:=h x hx;have rn:=(o.rp x hx).1;rw [a,b t];exact NF t (ar.tg _ rn) (by rw [ba];exact ar.ar _ rn) _ (Of hc)
theorem ig.down (o:Ok s A)(ar:Hm s)(d:Down s A s')(h:ig s A n0 k):ig s' (Gp s' A) n0 k:=fun σ τ h1 h2 e=>by
 have h1:=(BA.down d).mp h1;have h2:=(BA.down d).mp h2;have key:∀ m x,sz (σ x)<=m->A x->s'.lv (s.rp x)<=k->σ x=τ x:=by
  intro m
  induction m with
  | zero=>intro x hs;have:=KM.aad (σ x);omega
  | succ m ih =>
   intro x hs hx hl;have xn:=o.lt x hx;obtain ⟨rn,rr⟩:=o.rp x xn;have rA:=(o.li x xn).mpr hx;by_cases t:s.tg (s.rp x)=2
   ·rw [d.gp _ rr t] at hl;exact h σ τ h1 h2 e x hx hl
   ·rw [(h1 x xn).1,(h2 x xn).1,(h1 x xn).2 t,(h2 x xn).2 t]
    congr 1
    refine vc λc hc=>?_;have:=d.mo _ rA rr c hc;have:=h1.aaf o ar xn t hc;exact ih c () (o.cl _ rA rr c hc) ()
 exact λx hx hl=>key _ x (am _) hx.1 (by rw [d.rp] at hl;exact hl)
theorem Wm (h:g≠2)(h6:g < 6)(l:ts.length=arity g):IE ts+1=sz (IF g ts):=by
 have c:g=0\/g=1\/g=3\/g=4\/g=5:=by omega
 rcases c with rfl | rfl | rfl | rfl | rfl <;> simp only [arity] at l
 ·rw [ul.mp l];rfl
 ·rw [ul.mp l];rfl
 ·match ts,l with | [a,b],_=>rfl
 ·match ts,l with | [a,b],_=>rfl
 ·match ts,l with | [a],_=>rfl
theorem BA.reach (o:Ok s A)(ar:Hm s)(h:BA s σ):∀ m x,sz (σ x)<=m->A x->∃ l:List Nat,l.length<=sz (σ x)/\s.rp x∈l/\(∀ y∈l,A y/\s.rp y=y)/\∀ y∈l,∀ c∈s.ch y,s.rp c∈l:=by
 intro m
 induction m with
 | zero=>intro x hs;have:=KM.aad (σ x);omega
 | succ m ih =>
  intro x hs hx;have xn:=o.lt x hx;obtain ⟨rn,rr⟩:=o.rp x xn;have rA:=(o.li x xn).mpr hx;by_cases t:s.tg (s.rp x)=2
  ·have e:s.ch (s.rp x)=[]:=by
    have:=ar.ar _ rn;rw [t] at this;exact ul.mp this
   refine ⟨[s.rp x],KM.aad _,.head _,λy hy=>?_,λy hy c hc=>?_⟩
   ·rw [al.mp hy];exact ⟨rA,rr⟩
   ·rw [al.mp hy,e] at hc;cases hc
  ·have all:∀ cs:List Nat,(∀ c∈cs,sz (σ c)<=m/\A c)->∃ l:List Nat,l.length<=IE (cs.map σ)/\(∀ c∈cs,s.rp c∈l)/\(∀ y∈l,A y/\s.rp y=y)/\∀ y∈l,∀ c∈s.ch y,s.rp c∈l:=by
    intro cs
    induction cs with
    | nil=>exact λ_=>⟨[],am _,(λc hc=>by cases hc),(λc hc=>by cases hc),λc hc=>by cases hc⟩
    | cons c cs ihc =>
     intro q;obtain ⟨l1,a1,a2,a3,a4⟩:=ih c (q c (.head _)).1 (q c (.head _)).2;obtain ⟨l2,b1,b2,b3,b4⟩:=ihc λc hc=>q c (.tail _ hc);refine ⟨l1++l2,by rw [ca,xz];simp only [IE];omega,λd hd=>?_,λy hy=>(bn.mp hy).elim (a3 y) (b3 y),λy hy d hd=>?_⟩
     ·rcases gz.mp hd with rfl | hd
      ·exact ee _ a2
      ·exact ir _ (b2 d hd)
     ·rcases bn.mp hy with hy | hy
      ·exact ee _ (a4 y hy d hd)
      ·exact ir _ (b4 y hy d hd)
   obtain ⟨l,l1,l2,l3,l4⟩:=all (s.ch (s.rp x)) λc hc=>⟨by have:=h.aaf o ar xn t hc;omega,o.cl _ rA rr c hc⟩;refine ⟨s.rp x::l,?_,.head _,λy hy=>?_,λy hy c hc=>?_⟩
   ·rw [(h x xn).1,(h x xn).2 t,<- Wm t (ar.tg _ rn) (by rw [ba];exact ar.ar _ rn),sB];omega
   ·rcases gz.mp hy with rfl | hy
    ·exact ⟨rA,rr⟩
    ·exact l3 y hy
   ·rcases gz.mp hy with rfl | hy
    ·exact .tail _ (l2 c hc)
    ·exact .tail _ (l4 y hy c hc)
open Classical in
theorem Down.kind (o:Ok s A)(ar:Hm s)(d:Down s A s')(h:BA s σ)(hf:A f):Ent s' (Gp s' A) (sz (σ f)) f s'.k:=by
 obtain ⟨l,l1,l2,l3,l4⟩:=h.reach o ar _ f (am _) hf;refine ⟨by rw [d.n];exact o.lt f hf,l.filter λx=>decide (s'.k < s'.lv x),ce (AM _ _) l1,λx hx=>?_,λx hx=>?_⟩
 ·obtain ⟨h1,h2⟩:=AT.mp hx;obtain ⟨a,b⟩:=l3 x h1;have h2:=of_decide_eq_true h2;refine ⟨by rw [d.n];exact o.lt x a,λq=>?_,by rw [d.rp];exact b⟩;have:=q.2;rw [d.rp,b] at this;omega
 ·have xl:A x/\s.rp x∈l:=by
   rcases hx with rfl | ⟨y,hy,z⟩
   ·exact ⟨hf,l2⟩
   ·obtain ⟨h1,_⟩:=AT.mp hy;obtain ⟨a,b⟩:=l3 y h1;rw [d.ch] at z;exact ⟨o.cl y a b x z,l4 y h1 x z⟩
  rw [d.rp];by_cases q:s'.lv (s.rp x)<=s'.k
  ·exact .inl ⟨q,xl.1,by rw [d.rp];exact q⟩
  ·exact .inr ⟨(),AT.mpr ⟨xl.2,decide_eq_true ()⟩⟩
noncomputable def Mz (s:Ns)(A:Nat->Prop)(σ:Sg)(e:Nat)(t:Kd):Prop:=e < s.n/\∃ τ,BA s τ/\(∀ i,A i->τ i=σ i)/\τ e=t
theorem Mz.live (o:Ok s A)(h:BA s σ)(he:A e):Mz s A σ e (σ e):=⟨o.lt e he,σ,h,λ_ _=>rfl,rfl⟩
theorem Mz.eqn (o:Ok s A)(h:Mz s A σ e t)(q:Ic s.n σ σ1):Mz s A σ1 e t:=by
 obtain ⟨h0,τ,h1,h2,h3⟩:=h;exact ⟨h0,τ,h1,λi hi=>(h2 i hi).trans (q i (o.lt i hi)),h3⟩
theorem Mz.down (d:Down s A s')(h:Mz s A σ e t):Mz s' (Gp s' A) σ e t:=by
 obtain ⟨h0,τ,h1,h2,h3⟩:=h;exact ⟨by rw [d.n];exact h0,τ,(BA.down d).mpr h1,λi hi=>h2 i hi.1,h3⟩
open Classical in
theorem Mz.lf (o:Ok s A)(o':Ok s' A')(l:Lf s A s' A')(hs:BA s' σ)(h:Mz s A σ e t):Mz s' A' σ e t:=by
 obtain ⟨h0,τ,h1,h2,h3⟩:=h
 let τ':Sg:=λi=>if i < s.n/\¬ A i then τ i else σ i
 have dead:∀ i,i < s.n->¬ A i->τ' i=τ i:=λi a b=>if_pos ⟨a,b⟩;have old:∀ i,i < s.n->τ' i=τ i:=λi a=>by
  by_cases q:A i
  ·show (if i < s.n/\¬ A i then τ i else σ i)=τ i
   rw [if_neg (λz=>z.2 q)];exact (h2 i q).symm
  ·exact dead i a q
 have live:∀ i,A' i->τ' i=σ i:=λi q=>if_neg λz=>z.2 (l.old z.1 q);refine ⟨kt h0 l.le.n,τ',λi hi=>?_,live,by rw [old e h0];exact h3⟩;by_cases q:i < s.n/\¬ A i
 ·obtain ⟨qn,qA⟩:=q;obtain ⟨rn,rr⟩:=o.rp i qn;obtain ⟨_,e1,_⟩:=l.le.fr i qn qA;obtain ⟨a,b⟩:=h1 i qn;unfold Ib;rw [e1,l.le.tg _ rn,l.le.ch _ rn,old i qn,old _ rn];refine ⟨a,λt=>?_⟩;rw [b t]
  congr 1
  exact vc λc hc=>(old c (o.ch _ rn c hc)).symm
 ·have iA:A' i:=by
   by_cases z:i < s.n
   ·exact (l.le.li i (OA λw=>q ⟨z,w⟩)).1
   ·exact l.nw i () hi
  have rA:=(o'.li i hi).mpr iA;have rr:=(o'.rp i hi).2;obtain ⟨a,b⟩:=hs i hi;unfold Ib;rw [live i iA,live _ rA];refine ⟨a,λt=>?_⟩;rw [b t]
  congr 1
  exact vc λc hc=>(live c (o'.cl _ rA rr c hc)).symm
noncomputable def Gs (s:Ns)(A:Nat->Prop)(σ:Sg)(g:Gv)(Γ:Gm):Prop:=∀ x p,g x=some p->∀ t,Γ x t->Mz s A σ p.1 t
theorem Gs.put (h:Gs s A σ g Γ)(q:∀ t,T t->Mz s A σ p.1 t):Gs s A σ (g.put x p) (Γ.put x T):=λy r e t z=>by
 unfold Gv.put at e;simp only [Gm.put] at z;by_cases w:y=x
 ·rw [if_pos w] at e z;cases e;exact q t z
 ·rw [if_neg w] at e z;exact h y r e t z
noncomputable def Rl (n:Nat)(S S1:Sg->Prop):Prop:=(∀ σ,S σ->∃ σ1,S1 σ1/\Ic n σ σ1)/\∀ σ1,S1 σ1->∃ σ,S σ/\Ic n σ σ1
noncomputable def Hk (s:Ns)(A:Nat->Prop)(S:Sg->Prop)(g:Gv)(e:Ex)(nd:Nat):Prop:=∀ σ,S σ->∃ Γ,Gs s A σ g Γ/\HK Γ e (σ nd)
noncomputable def Hb (s:Ns)(A:Nat->Prop)(S:Sg->Prop)(n0:Nat)(x:Str)(g:Gv)(b:Ex)(nd f:Nat):Prop:=∀ σ,S σ->∃ Γ T t0,sz t0<=7/\Gs s A σ g Γ/\HK (Γ.put x T) b (σ nd)/\∀ t,T t\/t=t0->∃ σ',S σ'/\Ic n0 σ σ'/\σ' f=t
inductive Sk (s:Ns)(A:Nat->Prop)(S:Sg->Prop)(lim:Nat):Nat->Nat->List Fe->Prop
 | nil {m:Nat}:m<=lim->Sk s A S lim 0 m []
 | ask {k m:Nat} {e:Ex} {g:Gv} {nd:Nat} {xs:List Str} {r:List Fe}:A nd->s.lv (s.rp nd)<=k->Hl s A k 7 g->e.cl xs->Ia g xs->Hk s A S g e nd->Sk s A S lim k (m+10 * e.sz) r->Sk s A S lim k m (⟨e,g,nd,none⟩::r)
 | back {k m:Nat} {x:Str} {a b:Ex} {g:Gv} {nd f n0:Nat} {xs:List Str} {r:List Fe}:A nd->s.lv (s.rp nd)<=k->A f/\s.lv (s.rp f)<=k+1->Hl s A k 7 g->b.cl (x::xs)->Ia g xs->Hb s A S n0 x g b nd f->n0<=s.n->ig s A n0 k->Sk s A S lim k (m+10 * b.sz) r->Sk s A S lim (k+1) m (⟨.lt x a b,g,nd,some f⟩::r)
section
variable {s s':Ns}{A A':Nat->Prop}{S S1:Sg->Prop}{lim k m:Nat}{L r:List Fe}
theorem Sk.lm (h:Sk s A S lim k m L):m<=lim:=by
 induction h with
 | nil h=>exact h
 | ask _ _ _ _ _ _ _ ih=>omega
 | back _ _ _ _ _ _ _ _ _ _ ih=>omega
theorem Sk.less (h:Sk s A S lim k m L):∀ {m':Nat},m'<=m->Sk s A S lim k m' L:=by
 induction h with
 | nil h=>exact λq=>.nil (ce q h)
 | ask h1 h2 h3 h4 h5 h6 _ ih=>exact λq=>.ask h1 h2 h3 h4 h5 h6 (ih ())
 | back h1 h2 h3 h4 h5 h6 h7 h8 h9 _ ih=>exact λq=>.back h1 h2 h3 h4 h5 h6 h7 h8 h9 (ih ())
theorem Sk.lf (o:Ok s A)(o':Ok s' A')(l:Lf s A s' A')(hs:∀ σ,S σ->BA s' σ)(h:Sk s A S lim k m L):k<=s.k->Sk s' A' S lim k m L:=by
 have lev:∀ {i l},A i->s.lv (s.rp i)<=l->s'.lv (s'.rp i)<=l:=λa b=>ce (l.le.li _ a).2 b;have gs:∀ {σ g Γ},S σ->Gs s A σ g Γ->Gs s' A' σ g Γ:=λa b x p e t z=>(b x p e t z).lf o o' l (hs _ a)
 induction h with
 | nil h=>exact λ_=>.nil h
 | ask h1 h2 h3 h4 h5 h6 _ ih=>exact λq=>.ask (l.le.li _ h1).1 (lev h1 h2) (h3.mono o l.le) h4 h5 (fun σ z=>let ⟨Γ,a,b⟩:=h6 σ z;⟨Γ,gs z a,b⟩) (ih q)
 | back h1 h2 h3 h4 h5 h6 h7 h8 h9 _ ih =>
  exact λq=>.back (l.le.li _ h1).1 (lev h1 h2) ⟨(l.le.li _ h3.1).1,lev h3.1 h3.2⟩ (h4.mono o l.le) h5 h6 (fun σ z=>let ⟨Γ,T,t0,z0,a,b,c⟩:=h7 σ z;⟨Γ,T,t0,z0,gs z a,b,c⟩) (ce h8 l.le.n) (l.dt _ _ () h9) (ih ())
theorem Hk.eqn (o:Ok s A)(q:Rl s.n S S1)(hn:A nd)(h:Hk s A S g e nd):Hk s A S1 g e nd:=fun σ1 z=>by
 obtain ⟨σ,z,eq⟩:=q.2 σ1 z;obtain ⟨Γ,a,b⟩:=h σ z;exact ⟨Γ,λx p e t w=>(a x p e t w).eqn o eq,by rw [<- eq nd (o.lt nd hn)];exact b⟩
theorem Sk.eqn (o:Ok s A)(q:Rl s.n S S1)(h:Sk s A S lim k m L):Sk s A S1 lim k m L:=by
 induction h with
 | nil h=>exact .nil h
 | ask h1 h2 h3 h4 h5 h6 _ ih=>exact .ask h1 h2 h3 h4 h5 (h6.eqn o q h1) ih
 | @back k m x a b g nd f n0 xs r h1 h2 h3 h4 h5 h6 h7 h8 h9 _ ih =>
  refine .back h1 h2 h3 h4 h5 h6 (fun σ1 z=>?_) h8 h9 ih;obtain ⟨σ,z,eq⟩:=q.2 σ1 z;obtain ⟨Γ,T,t0,z0,a,b,c⟩:=h7 σ z;refine ⟨Γ,T,t0,z0,λx p e t w=>(a x p e t w).eqn o eq,by rw [<- eq nd (o.lt nd h1)];exact b,λt w=>?_⟩;obtain ⟨σ',c1,c2,c3⟩:=c t w;obtain ⟨σ1',d1,d2⟩:=q.1 σ' c1;exact ⟨σ1',d1,((eq.less h8).symm.trans c2).trans (d2.less h8),by rw [<- d2 f (o.lt f h3.1)];exact c3⟩
theorem Hl.down (o:Ok s A)(d:Down s A s')(h:Hl s A k C g)(hk:k<=s'.k):Hl s' (Gp s' A) k C g:=λx p e=>⟨Down.ent o d (ce (h x p e).2 hk) (h x p e).1,(h x p e).2⟩
theorem Sk.down (o:Ok s A)(ar:Hm s)(d:Down s A s')(h:Sk s A S lim k m L):k<=s'.k->Sk s' (Gp s' A) S lim k m L:=by
 have lev:∀ {i l},s.lv (s.rp i)<=l->s'.lv (s'.rp i)<=l:=λb=>by rw [d.rp];exact ce (d.le _) b
 have gs:∀ {σ g Γ},Gs s A σ g Γ->Gs s' (Gp s' A) σ g Γ:=λb x p e t z=>(b x p e t z).down d
 induction h with
 | nil h=>exact λ_=>.nil h
 | ask h1 h2 h3 h4 h5 h6 _ ih=>exact λq=>.ask ⟨h1,ce (lev h2) q⟩ (lev h2) (h3.down o d q) h4 h5 (fun σ z=>let ⟨Γ,a,b⟩:=h6 σ z;⟨Γ,gs a,b⟩) (ih q)
 | @back k m x a b g nd f n0 xs r h1 h2 h3 h4 h5 h6 h7 h8 h9 _ ih =>
  intro q;have hk:k<=s'.k:=by omega
  exact .back ⟨h1,ce (lev h2) hk⟩ (lev h2) ⟨⟨h3.1,ce (lev h3.2) q⟩,lev h3.2⟩ (h4.down o d hk) h5 h6 (fun σ z=>let ⟨Γ,T,t0,z0,a,b,c⟩:=h7 σ z;⟨Γ,T,t0,z0,gs a,b,c⟩) (by rw [d.n];exact h8) (h9.down o ar d) (ih hk)
structure Sb (s:Ns)(A:Nat->Prop)(S:Sg->Prop)(p:Fe):Prop where
 fs:p.fs=none
 nd:A p.nd
 g:Hl s A s.k 7 p.g
 cl:∃ xs,p.e.cl xs/\Ia p.g xs
 hk:Hk s A S p.g p.e p.nd
noncomputable def a9 (L:List Fe):Nat:=(L.map λp=>p.e.sz).sum
theorem Sk.push (o:Ok s A)(h:∀ p∈L,Sb s A S p):∀ {m:Nat},Sk s A S lim s.k (m+10 * a9 L) r->Sk s A S lim s.k m (L++r):=by
 induction L with
 | nil=>exact λq=>q
 | cons p L ih =>
  intro m q;obtain ⟨e,g,nd,fs⟩:=p;obtain ⟨h1,h2,h3,⟨xs,h4,h5⟩,h6⟩:=h _ (.head _);cases h1;refine .ask h2 (o.lev h2) h3 h4 h5 h6 (ih (λp hp=>h p (.tail _ hp)) ?_);simp only [a9,xz,List.sum_cons,Nat.mul_add] at q;rw [Nat.add_assoc];exact q
theorem Sk.rule {e:Ex}{j:Nat}(o:Ok s A)(o':Ok s' A')(l:Lf s A s' A')(hS:∀ σ,S σ->BA s' σ)(h:Sk s A S lim s.k (m+10 * e.sz) r)(hm:s.n<=m)(hj:s'.n<=s.n+j)
  (hs:∀ p∈L,Sb s' A' S p) (hc:j+10 * a9 L<=10 * e.sz):Sk s' A' S lim s'.k s'.n (L++r):=by
 refine Sk.push o' hs ?_;rw [l.le.k];exact (h.lf o o' l hS (am _)).less ()
noncomputable def ups (σ:Sg)(n:Nat)(l:List Kd):Sg:=λi=>if i < n then σ i else (l[i - n]?).getD .num
theorem D3:Ic n σ (ups σ n l):=λi h=>(if_pos h).symm
theorem P1 (j:Nat):ups σ n l (n+j)=(l[j]?).getD .num:=by
 show (if n+j < n then σ (n+j) else (l[n+j - n]?).getD .num)=_
 rw [if_neg (),Nat.add_sub_cancel_left]
theorem pick {n:Nat}{P:Sg->Prop}(h:∀ σ,S σ->∃ σ1,Ic n σ σ1/\P σ1):∃ S1,Rl n S S1/\∀ σ1,S1 σ1->P σ1 :=
 ⟨fun σ1=>∃ σ,S σ/\Ic n σ σ1/\P σ1,⟨fun σ z=>let ⟨σ1,a,b⟩:=h σ z;⟨σ1,⟨σ,z,a,b⟩,a⟩,fun σ1 ⟨σ,z,a,_⟩=>⟨σ,z,a⟩⟩,λ_ ⟨_,_,_,b⟩=>b⟩
theorem Rl.sol (o:Ok s A)(q:Rl s.n S S1)(h:∀ σ,S σ->BA s σ):∀ σ,S1 σ->BA s σ:=fun σ1 z=>by
 obtain ⟨σ,z,e⟩:=q.2 σ1 z;exact (h σ z).eqn o e
theorem Rl.ne (q:Rl n S S1)(h:∃ σ,S σ):∃ σ,S1 σ:=by
 obtain ⟨σ,z⟩:=h;obtain ⟨σ1,z,_⟩:=q.1 σ z;exact ⟨σ1,z⟩
theorem Sk.abw (o:Ok s A)(hS:∀ σ,S σ->BA s σ)(hn:A nd)(hg:Hl s A s.k 7 g)(hc:(Ex.lt x a b).cl xs)(hh:Ia g xs)(hk:Hk s A S g (.lt x a b) nd)(h:Sk s A S lim s.k (m+10 * (Ex.lt x a b).sz) r)(hm:s.n<=m) :
  ∃ S1,(∀ σ,S1 σ->BA ({ s with k:=s.k+1 }.add 2 []) σ)/\Rl s.n S S1/\Sk ({ s with k:=s.k+1 }.add 2 []) (plus A s.n) S1 lim (s.k+1) (s.n+1) (⟨a,g,s.n,none⟩::⟨.lt x a b,g,nd,some s.n⟩::r):=by
 have oD:=o.deeper;have o':Ok ({ s with k:=s.k+1 }.add 2 []) (plus A s.n):=oD.add (λc hc=>by cases hc) (mi _);have lf:Lf { s with k:=s.k+1 } A ({ s with k:=s.k+1 }.add 2 []) (plus A s.n):=Lf.add oD;have an:plus A s.n s.n:=.inr rfl
 let W:Sg->Gm->(Kd->Prop)->Kd->Prop:=fun σ Γ T t0=>S σ/\sz t0<=7/\Gs s A σ g Γ/\HK Γ a t0/\(∀ t,T t->HK Γ a t)/\HK (Γ.put x T) b (σ nd)
 let S1:Sg->Prop:=fun σ1=>∃ σ Γ T t0 t,W σ Γ T t0/\(T t\/t=t0)/\σ1=ups σ s.n [t]
 have hW:∀ σ,S σ->∃ Γ T t0,W σ Γ T t0:=fun σ z=>by
  obtain ⟨Γ,g1,h1⟩:=hk σ z;obtain ⟨T,t0,z0,h0,h1,h2⟩:=h1.inv;exact ⟨Γ,T,t0,z,z0,g1,h0,h1,h2⟩
 have rl:Rl s.n S S1:=⟨fun σ z=>let ⟨Γ,T,t0,w⟩:=hW σ z;⟨_,⟨σ,Γ,T,t0,t0,w,.inr rfl,rfl⟩,D3⟩,fun σ1 ⟨σ,Γ,T,t0,t,w,_,e⟩=>⟨σ,w.1,by rw [e];exact D3⟩⟩;have W9:∀ σ,S1 σ->BA s σ:=rl.sol o hS;have uH:∀ {σ},BA s σ->BA { s with k:=s.k+1 } σ:=λh=>h;have My:∀ σ,S1 σ->BA ({ s with k:=s.k+1 }.add 2 []) σ:=fun σ z=>BA.add oD (uH (W9 σ z)) λz=>absurd rfl z;have gsD:∀ {σ σ1 Γ},S1 σ1->Ic s.n σ σ1->Gs s A σ g Γ->Gs ({ s with k:=s.k+1 }.add 2 []) (plus A s.n) σ1 g Γ:=λz e q y p ep t w=>by
  have i1:=(q y p ep t w).eqn o e;have i0:Mz { s with k:=s.k+1 } A _ p.1 t:=i1;exact i0.lf oD o' lf (My _ z)
 have skD:∀ {k m L},Sk s A S1 lim k m L->Sk { s with k:=s.k+1 } A S1 lim k m L:=λ{k m L} h=>by
  induction h with
  | nil h=>exact .nil h
  | ask h1 h2 h3 h4 h5 h6 _ ih=>exact .ask h1 h2 h3 h4 h5 h6 ih
  | back h1 h2 h3 h4 h5 h6 h7 h8 h9 _ ih=>exact .back h1 h2 h3 h4 h5 h6 h7 h8 h9 ih
 have gD:Hl { s with k:=s.k+1 } A s.k 7 g:=hg;have hZ:=lf.le.li nd hn;have lnd:s.lv (s.rp nd)<=s.k:=o.lev hn;have eN:∀ {σ t},ups σ s.n [t] s.n=t:=λ{σ t}=>P1 (σ:=σ) (n:=s.n) (l:=[t]) 0;refine ⟨S1,My,rl,.ask an (o'.lev an) ((gD.mono oD lf.le).more (IR _) (am _)) hc.1 hh ?_ (.back (n0:=s.n) hZ.1 (ce hZ.2 lnd) ⟨an,o'.lev an⟩ (gD.mono oD lf.le) hc.2 hh ?_ (IR _) ?_ ?_)⟩
 ·rintro σ1 ⟨σ,Γ,T,t0,t,w,q,rfl⟩;refine ⟨Γ,gsD ⟨σ,Γ,T,t0,t,w,q,rfl⟩ D3 w.2.2.1,?_⟩;show HK Γ a (ups σ s.n [t] s.n);rw [eN];rcases q with q | rfl
  ·exact w.2.2.2.2.1 t q
  ·exact w.2.2.2.1
 ·rintro σ1 ⟨σ,Γ,T,t0,t,w,q,rfl⟩;refine ⟨Γ,T,t0,w.2.1,gsD ⟨σ,Γ,T,t0,t,w,q,rfl⟩ D3 w.2.2.1,by rw [<- D3 nd (o.lt nd hn)];exact w.2.2.2.2.2,λt' q'=>⟨_,⟨σ,Γ,T,t0,t',w,q',rfl⟩,D3.symm.trans D3,eN⟩⟩
 ·intro σ τ h1 h2 e y hy hl;rcases hy with hy | hy
  ·exact e y (o.lt y hy)
  ·subst hy;have r:({ s with k:=s.k+1 }.add 2 []).rp s.n=s.n:=if_pos rfl;have q:({ s with k:=s.k+1 }.add 2 []).lv s.n=s.k+1:=if_pos rfl;rw [r,q] at hl;omega
 ·refine ((skD (h.eqn o rl)).lf oD o' lf My (IR _)).less ?_;simp only [Ex.sz];omega
theorem Sk.abx (o:Ok s A)(ar:Hm s)(hS:∀ σ,S σ->BA s σ)(ne:∃ σ,S σ)(d:Down s A s')(hk:s.k=k+1)(h:Sk s A S lim (k+1) m (⟨.lt x a b,g,nd,some f⟩::r)):Sk s' (Gp s' A) S lim k m (⟨b,g.put x (f,k),nd,none⟩::r):=by
 have ek:s'.k=k:=by have:=d.k;omega
 cases h with
 | @back _ _ _ _ _ _ _ _ n0 xs _ h1 h2 h3 h4 h5 h6 h7 h8 h9 uI =>
  have hn:s'.lv (s'.rp nd)<=k:=by rw [d.rp];exact ce (d.le _) h2
  have fn:=o.lt f h3.1;have en:Ent s' (Gp s' A) 7 f k:=by
   obtain ⟨σ,z⟩:=ne;obtain ⟨Γ,T,t0,z0,_,_,c⟩:=h7 σ z;obtain ⟨σ',c1,_,c3⟩:=c t0 (.inr rfl);have:=Down.kind o ar d (hS σ' c1) h3.1;rw [c3,ek] at this;exact this.more z0
  refine .ask ⟨h1,by rw [ek];exact hn⟩ hn ((h4.down o d ()).put en (am _)) h5 h6.put (fun σ z=>?_) (uI.down o ar d ());obtain ⟨Γ,T,t0,z0,g1,g2,c⟩:=h7 σ z;refine ⟨Γ.put x T,Gs.put (λy p e t w=>(g1 y p e t w).down d) λt q=>?_,g2⟩;obtain ⟨σ',c1,c2,c3⟩:=c t (.inl q);exact ⟨by rw [d.n];exact fn,σ',(BA.down d).mpr (hS σ' c1),λi hi=>(h9.down o ar d) σ' σ ((BA.down d).mpr (hS σ' c1)) ((BA.down d).mpr (hS σ z)) c2.symm i hi (by rw [<- ek];exact hi.2),c3⟩
end
end KN
namespace K
open PySem L2 KM KS KN
structure Cd (K:W.Frag)(mg:Str->Option Value)(C:Addr):Prop where
 cl:ID K C
 nS:BW K C "sorts"
 nI:BW K C "inner"
 nL:BW K C "leaders"
 nV:BW K C "levels"
 nK:BW K C "level"
 nG:BW K C "gaps"
 mgC:mg "Nodes"=some (.ref C)
 len:mg "len"=none
section
variable {Pr:Program}{w:World}{K:W.Frag}{mg:Str->Option Value}{base:Heap}
noncomputable def Bz (C:Addr):Sp:=λvs H Q _=>∃ (N:NA) (s:Ns) (ls:List Addr) (i:Nat),vs=[.ref N.p,.int ((i:Nat):Int)]/\Bv C N H s ls/\i < s.n /\
 ∀ H',Bv C N H' s ls->(∀ b,b≠N.l->H' b=H b)->Q (.int ((s.rp i:Nat):Int)) H'
theorem LN:Am ["self","node"] ["self","node"] (Ah BR):=nofun
theorem QC (F:C7 K "leader" "Nodes.leader" BR f fd)(T:Cd K mg C):Au Pr w K mg base AN 1 f fd ["self","node"] (Bz C):=by
 refine F.okS LN (λBe A outer s0 H vs Q E hr h=>?_)
 ·obtain ⟨N,s,ls,i,rfl,A0,hi,q⟩:=h;obtain ⟨par,rk,U0,L0⟩:=A0.uf;refine ⟨_,Af (Dl v0 (AE K' (BN AA (Ar (Ag 0)) (Ag 1) D0) (Ag 1) (Aw _))
    (Af (Ly (BN AA (Ar (Ag 0)) (BN AA (Ar (Ag 0)) (Ag 1) D0) D0) (Lz (Ar (Ag 0)) (Ag 1) set_list))
    (Ak (Aq (i:=1) LN.nd rfl (.inl rfl) (BN AA (Ar (Ag 0)) (Ag 1) D0)))))
   (Ak (AH (Ag 1))),?_⟩
  refine ⟨λm σ H2=>∃ j par',σ=[some (.ref N.p),some (.int ((j:Nat):Int))]/\m=rk j/\j < s.n/\s.rp j=s.rp i/\Bv C N H2 s ls/\UF s.n par' s.rp rk/\H2 N.l=some (.lst (Cc s.n par'))/\∀ b,b≠N.l->H2 b=H b,⟨_,i,par,rfl,rfl,hi,rfl,A0,U0,L0,λ_ _=>rfl⟩,?_⟩;rintro m σ H2 ⟨j,par',rfl,rfl,hj,ej,A1,U1,L1,fr⟩;refine ⟨_,rfl,N.p,C,N.dx,_,_,rfl,A1.ins,T.cl,T.nL,rfl,_,rfl,N.l,_,_,_,rfl,rfl,AI.of L1,Ao (CL hj),_,rfl,rfl,_,rfl,?_⟩;by_cases e:par' j=j
  ·refine BY (by simp [e]) ?_;have er:=U1.root j hj e;have:=q H2 A1 fr;rw [<- ej,er] at this;exact ⟨_,rfl,this⟩
  ·refine Cm (by simp;omega) ?_;have hpj:=U1.lt j hj;refine ⟨_,fun σ' H' z=>z,?_⟩;refine ⟨_,rfl,N.p,C,N.dx,_,_,rfl,A1.ins,T.cl,T.nL,rfl,_,rfl,N.p,C,N.dx,_,_,rfl,A1.ins,T.cl,T.nL,rfl,_,rfl,N.l,_,_,_,rfl,rfl,AI.of L1,Ao (CL hj),N.l,_,_,_,rfl,rfl,AI.of L1,Ao (CL hpj),?_⟩;refine ⟨_,rfl,N.p,C,N.dx,_,_,rfl,A1.ins,T.cl,T.nL,rfl,_,rfl,N.l,_,_,j,rfl,rfl,L1,FQ (by rw [CA];exact hj),?_⟩;rw [EY];have U2:=U1.abv hj e;have A2:Bv C N _ s ls:=A1.abo U2;have jZ:(upd H2 N.l (.lst (Cc s.n (D5 par' j (par' (par' j)))))) N.l=_:=Ad;refine ⟨_,rfl,N.p,C,N.dx,_,_,rfl,A2.ins,T.cl,T.nL,rfl,_,rfl,N.l,_,_,_,rfl,rfl,AI.of jZ,Ao (CL hj),?_⟩;refine ⟨rk (D5 par' j (par' (par' j)) j),?_,D5 par' j (par' (par' j)) j,_,rfl,rfl,U2.lt j hj,?_,A2,U2,jZ,λb hb=>by rw [Ac hb];exact fr b hb⟩
   ·refine U2.up j hj ?_;intro z;have h1:=U1.up j hj e;rw [BG] at z;by_cases y:par' (par' j)=par' j
    ·rw [y] at z;exact e z
    ·have h2:=U1.up _ hpj y;rw [z] at h2;omega
   ·rw [U2.rpp j hj];exact ej
noncomputable def Jw (C:Addr):Sp:=λvs H Q _=>∃ (N:NA) (s:Ns) (ls:List Addr) (t:Nat) (cs:List Nat) (l:Addr),vs=[.ref N.p,.str (BB t),.ref l]/\Bv C N H s ls/\H l=some (.lst (lsN cs))/\l≠N.s/\l≠N.i/\l≠N.l/\l≠N.v/\s.n < 1000000 /\
 ∀ H',Bv C N H' (s.add t cs) (ls++[l])->(∀ b,b≠N.s->b≠N.i->b≠N.l->b≠N.v->H' b=H b)->Q (.int ((s.n:Nat):Int)) H'
theorem YA:Am ["self","word","inner","node"] ["self","word","inner"] (Ah Bt):=nofun
theorem aQ (F:C7 K "new_node" "Nodes.new_node" Bt f fd)(T:Cd K mg C):Au Pr w K mg base AN 1 f fd ["self","word","inner"] (Jw C):=by
 refine F.okS YA (λBe A outer s0 H vs Q E hr h=>?_)
 ·obtain ⟨N,s,ls,t,cs,l,rfl,A0,hl,h1,h2,h3,h4,hn,q⟩:=h;have hb:=B8;obtain ⟨par,rk,U0,L0⟩:=A0.uf;obtain ⟨np1,np2,np3,np4⟩:=A0.np;obtain ⟨n1,n2,n3,n4,n5,n6⟩:=A0.ne;refine ⟨_,Af (Aq (i:=3) YA.nd rfl (.inl rfl) (BO BX rfl T.len PP (Aa (Ar (Ag 0)) Ae)))
   (Af (As (F4 im v6 wf B' (Ar (Ag 0)) (Aa (Ag 1) Ae)))
   (Af (As (F4 im v6 wf B' (Ar (Ag 0)) (Aa (Ag 2) Ae)))
   (Af (As (F4 im v6 wf B' (Ar (Ag 0)) (Aa (Ag 3) Ae)))
   (Af (As (F4 im v6 wf B' (Ar (Ag 0)) (Aa (Ar (Ag 0)) Ae)))
   (Ak (AH (Ag 3))))))),?_⟩
  refine ⟨_,rfl,N.p,C,N.dx,_,_,rfl,A0.ins,T.cl,T.nL,rfl,N.l,_,rfl,.inl (AI.of L0),?_⟩;rw [CA];refine ⟨_,rfl,N.p,C,N.dx,_,_,rfl,A0.ins,T.cl,T.nS,rfl,.inl ⟨rfl,_,AI.of A0.sorts⟩,_,rfl,N.s,_,_,rfl,rfl,A0.sorts,by rw [Qw];omega,?_⟩;have i1:(upd H N.s (.lst (DB s.n s.tg++[V.str (BB t)]))) N.p=some (.ins C N.dx (Qy N s.k)):=by rw [Ac np1];exact A0.ins
  have e1:(upd H N.s (.lst (DB s.n s.tg++[V.str (BB t)]))) N.i=some (.lst (ls.map V.ref)):=by rw [Ac (be n1)];exact A0.inner
  refine ⟨_,rfl,N.p,C,N.dx,_,_,rfl,i1,T.cl,T.nI,rfl,.inl ⟨rfl,_,AI.of e1⟩,_,rfl,N.i,_,_,rfl,rfl,e1,by simp [A0.len];omega,?_⟩;have i2:(upd (upd H N.s (.lst (DB s.n s.tg++[V.str (BB t)]))) N.i (.lst (ls.map V.ref++[V.ref l]))) N.p=some (.ins C N.dx (Qy N s.k)):=by rw [Ac np2];exact i1
  have e2:(upd (upd H N.s (.lst (DB s.n s.tg++[V.str (BB t)]))) N.i (.lst (ls.map V.ref++[V.ref l]))) N.l=some (.lst (Cc s.n par)):=by rw [Ac (be n3),Ac (be n2)];exact L0
  refine ⟨_,rfl,N.p,C,N.dx,_,_,rfl,i2,T.cl,T.nL,rfl,.inl ⟨rfl,_,AI.of e2⟩,_,rfl,N.l,_,_,rfl,rfl,e2,by rw [CA];omega,?_⟩;have i3:(upd (upd (upd H N.s (.lst (DB s.n s.tg++[V.str (BB t)]))) N.i (.lst (ls.map V.ref++[V.ref l]))) N.l (.lst (Cc s.n par++[V.int ((s.n:Nat):Int)]))) N.p=some (.ins C N.dx (Qy N s.k)):=by rw [Ac np3];exact i2
  have e3:(upd (upd (upd H N.s (.lst (DB s.n s.tg++[V.str (BB t)]))) N.i (.lst (ls.map V.ref++[V.ref l]))) N.l (.lst (Cc s.n par++[V.int ((s.n:Nat):Int)]))) N.v=some (.lst (Cc s.n s.lv)):=by rw [Ac n6,Ac n5,Ac n4];exact A0.levels
  refine ⟨_,rfl,N.p,C,N.dx,_,_,rfl,i3,T.cl,T.nV,rfl,.inl ⟨rfl,_,AI.of e3⟩,_,rfl,N.p,C,N.dx,_,_,rfl,i3,T.cl,T.nK,rfl,N.v,_,_,rfl,rfl,e3,by rw [CA];omega,?_⟩;refine ⟨_,rfl,q _ (A0.add hl h1 h2 h3 h4 L0 ?_ ?_ ?_ Ad λb b1 b2 b3 b4=>by rw [Ac b4,Ac b3,Ac b2,Ac b1]) λb b1 b2 b3 b4=>by rw [Ac b4,Ac b3,Ac b2,Ac b1]⟩
  ·rw [Ac (be n4),Ac n2,Ac n1,Ad]
  ·rw [Ac (be n5),Ac n3,Ad]
  ·rw [Ac (be n6),Ad]
noncomputable def Kc (C:Addr):Sp:=λvs H Q _=>∃ (N:NA) (s:Ns) (ls:List Addr),vs=[.ref N.p]/\Bv C N H s ls/\s.n < 1000000 /\
 ∀ l H',H l=none->Bv C N H' (s.add 2 []) (ls++[l])->BU N H H'->Q (.int ((s.n:Nat):Int)) H'
theorem aT:Am ["self"] ["self"] (Ah BF):=nofun
theorem Wn (F:C7 K "new_gap" "Nodes.new_gap" BF f fd)(T:Cd K mg C)(GN:Au Pr w K mg base AN 1 fN k7 ["self","word","inner"] (Jw C))(bN:Binds K k7 ["self","word","inner"] [])(mN:Meth K C "new_node" fN):
  Au Pr w K mg base AN 2 f fd ["self"] (Kc C):=by
 refine F.okS aT (λBe A outer s0 H vs Q E hr h=>?_)
 ·obtain ⟨N,s,ls,rfl,A0,hn,q⟩:=h;refine ⟨_,Ak (AH (C0 (Ag 0) T.cl mN GN hr bN (Aa Ap (Aa (B0 Ae) Ae)))),?_⟩;refine ⟨_,rfl,N.p,N.dx,_,rfl,A0.ins,rfl,by simp,λl hl=>?_⟩;have Fw:Ai H (upd H l (.lst [])):=Ai.new hl;obtain ⟨_,L0⟩:=A0.lead;exact ⟨N,s,ls,2,[],l,rfl,A0.same Fw,Ad,be (Ab A0.sorts hl),be (Ab A0.inner hl),be (Ab L0 hl),be (Ab A0.levels hl),hn,λH2 A2 qG=>q l H2 hl A2 λb o e _ b1 b2 b3 b4=>by rw [qG b b1 b2 b3 b4];exact Fw b o e⟩
noncomputable def Tg (C:Addr):Sp:=λvs H Q _=>∃ (N:NA) (s:Ns) (ls:List Addr),vs=[.ref N.p]/\Bv C N H s ls/\∀ H',Bv C N H' { s with k:=s.k+1 } ls->BU N H H'->Q .non H'
theorem aU:Am ["self"] ["self"] (Ah Bj):=nofun
theorem Wo (F:C7 K "go_deeper" "Nodes.go_deeper" Bj f fd)(T:Cd K mg C):Au Pr w K mg base AN 1 f fd ["self"] (Tg C):=by
 refine F.okS aU (λBe A outer s0 H vs Q E hr h=>?_)
 ·obtain ⟨N,s,ls,rfl,A0,q⟩:=h;refine ⟨_,Ak (LJ Zt (Ag 0) Aj),?_⟩;refine ⟨_,rfl,N.p,C,N.dx,_,_,rfl,A0.ins,T.cl,T.nK,rfl,_,_,rfl,rfl,?_⟩;refine ⟨N.dx,_,A0.ins,by show 6 < 1000;decide,?_⟩;have e:AZ "level" (.int ((s.k:Int)+1)) (Qy N s.k)=Qy N (s.k+1):=rfl;rw [e];exact q _ (A0.level (s.k+1)) λb o e b1 _ _ _ _=>by rw [Ac b1];exact e
theorem Cq (a b:List Nat):lsN (a++b)=lsN a++lsN b:=by simp [lsN]
theorem Wq (h:∀ v H',Q v H'->Q' v H')(z:DD C "leader" (Bz C) [] E0 (AS 1) (Br (AS 0) Di) σ H Q):DD C "leader" (Bz C) [] E0 (AS 1) (Br (AS 0) Di) σ H Q':=by
 obtain ⟨v',e1,a1,uJ,uK,e2,h1,h2,v2,e3,N',s',CN,i',e4,A',K0,z⟩:=z;exact ⟨v',e1,a1,uJ,uK,e2,h1,h2,v2,e3,N',s',CN,i',e4,A',K0,λH1 y1 y2=>h _ _ (z H1 y1 y2)⟩
theorem LO {C:Addr}{N:NA}{s:Ns}{ls:List Addr}{H:Hp}{l1:Addr}{cs:List Nat}{σ:St}{Fin:List V->Hp->Prop}(T:Cd K mg C)(A:Bv C N H s ls)(hl:H l1=some (.lst (lsN cs)))(hn:l1≠N.l)(hc:∀ c∈cs,c < s.n)(hlen:cs.length < 1000000)
  (s0:σ=[none,some (.ref N.p)]) (fin:∀ H',Bv C N H' s ls->(∀ b,b≠N.l->H' b=H b)->Fin (lsN (cs.map s.rp)) H') :
  De (Rj K l1) H σ (Cn 0) HG (DD C "leader" (Bz C) [] E0 (AS 1) (Br (AS 0) Di)) Fin:=by
 have hb:=B8;subst s0;refine Cw (K:=K) (a:=l1) (xs:=lsN cs) (λk ys H3=>ys=lsN ((cs.take k).map s.rp)/\Bv C N H3 s ls/\∀ b,b≠N.l->H3 b=H b) ⟨by simp [lsN],A,λ_ _=>rfl⟩ (λk ys H3 z=>?_) (by simp [lsN];omega) (λk ys H3 z=>?_) (λk c' ys H3 CS z=>?_)
  (λx σ H Q Q' h z=>h _ _ z) (fun σ H Q Q' h z=>h _ _ z) (fun σ H Q Q' h z=>Wq h z) (λys H3 z=>?_)
 ·obtain ⟨_,A3,f3⟩:=z;refine AI.of ?_;rw [f3 _ hn];exact hl
 ·obtain ⟨e,_⟩:=z;rw [e];simp [lsN];omega
 ·obtain ⟨e,A3,f3⟩:=z;unfold lsN at CS;rw [jp] at CS;cases ec:cs[k]? with
  | none=>rw [ec] at CS;cases CS
  | some c =>
   rw [ec] at CS;cases CS;have hcn:c < s.n:=hc c (ci ec);refine ⟨Ext.set rfl,Dy ?_⟩;refine ⟨_,rfl,N.p,N.dx,_,rfl,A3.ins,rfl,_,rfl,N,s,ls,c,rfl,A3,hcn,λH4 A4 e4=>⟨?_,A4,λb hb=>by rw [e4 b hb,f3 b hb]⟩⟩;rw [e,wP,ec,wT,Cq];rfl
 ·obtain ⟨e,A3,f3⟩:=z;have el:(lsN cs).length=cs.length:=by simp [lsN]
  rw [el,sK] at e;subst e;exact fin H3 A3 f3
noncomputable def Hn (C:Addr):Sp:=λvs H Q _=>∃ (N:NA) (s:Ns) (ls:List Addr) (x:Nat),vs=[.ref N.p,.int ((x:Nat):Int)]/\Bv C N H s ls/\x < s.n/\(∀ c∈s.ch x,c < s.n)/\(s.ch x).length<=2 /\
 ∀ li H',Bv C N H' s ls->H li=none->H' li=some (.lst (lsN ((s.ch x).map s.rp)))->(∀ b,b≠N.l->b≠li->H' b=H b)->Q (.ref li) H'
theorem Wr:Am ["self","node"] ["self","node"] (Ah AB):=nofun
theorem Ti (F:C7 K "inner_leaders" "Nodes.inner_leaders" AB f fd)(T:Cd K mg C)(GL:Au Pr w K mg base AN 1 fL NH ["self","node"] (Bz C))(bL:Binds K NH ["self","node"] [])(mL:Meth K C "leader" fL):Au Pr w K mg base AN 2 f fd ["self","node"] (Hn C):=by
 refine F.okS Wr (λBe A outer s0 H vs Q E hr h=>?_)
 ·obtain ⟨N,s,ls,x,rfl,A0,hx,hc,hlen,q⟩:=h;have S1:B7 (Dt AN Pr w K mg base ["self","node"] "Nodes.inner_leaders" (Ah AB) f Be A outer s0 H E).nox (BJ (valueOf (inDef AB 0))) [("self",s0.heap.objs.size+1)] ["part"] ["self"] [0] :=
   ⟨rfl,by decide +kernel,rfl,by decide +kernel,rfl,rfl,rfl,rfl⟩
  have KO:(["part","self"]:List Str).Nodup:=by decide +kernel
  refine ⟨_,Ak (AH (Dx (te:=DD C "leader" (Bz C) [] E0 (AS 1) (Br (AS 0) Di)) S1 rfl (CW (BN AA (Ar (Ag 0)) (Ag 1) D0)) (λC' s0 H0 ex=>B2 (i:=0) KO rfl (.inl rfl)) (λ_ _ _ _=>Eh) (λC' s0 H0 ex=>C0 (Ag 1) T.cl mL GL hr bL (Aa (Ag 0) Ae)))),?_⟩;obtain ⟨l1,CB⟩:∃ l1,ls[x]?=some l1:=⟨_,ap (by rw [A0.len];exact hx)⟩;refine ⟨_,rfl,N.p,C,N.dx,_,_,rfl,A0.ins,T.cl,T.nI,rfl,_,rfl,N.i,_,_,_,rfl,rfl,AI.of A0.inner,Ao (v:=V.ref l1) (by rw [jp,CB];rfl),l1,rfl,⟨_,AI.of (A0.chs _ _ CB)⟩,?_⟩;refine LO T A0 (A0.chs _ _ CB) (A0.away l1 (ci CB)).2.2.1 hc () rfl λH' A' f'=>?_;intro li FC;have sm:Ai H' (upd H' li (.lst (lsN ((s.ch x).map s.rp)))):=Ai.new FC;obtain ⟨_,L'⟩:=A'.lead;have LP:H li=none:=by
   rw [<- f' li (be (Ab L' FC))];exact FC
  exact q li _ (A'.same sm) LP Ad λb b1 b2=>by rw [Ac b2,f' b b1]
noncomputable def Tj (C:Addr):Sp:=λvs H Q _=>∃ (N:NA) (s:Ns) (ls:List Addr) (Al:Nat->Prop) (x l:Nat),vs=[.ref N.p,.int ((x:Nat):Int),.int ((l:Nat):Int)]/\Bv C N H s ls/\Pre s Al l x/\s.n < 1000000 /\
 ∀ lv H',Bv C N H' { s with lv:=lv } ls->LL s Al l x lv []->BU N H H'->Q .non H'
theorem NJ:Am ["self","node","level","waiting","at"] ["self","node","level"] (Ah Cg):=nofun
theorem Wt (F:C7 K "sink" "Nodes.sink" Cg f fd)(T:Cd K mg C)(GL:Au Pr w K mg base AN 1 fL NH ["self","node"] (Bz C))(bL:Binds K NH ["self","node"] [])(mL:Meth K C "leader" fL):Au Pr w K mg base AN 2 f fd ["self","node","level"] (Tj C):=by
 refine F.okS NJ (λBe A outer s0 H vs Q E hr h=>?_)
 ·obtain ⟨N,s,ls,Al,x,l,rfl,A0,P0,hn,q⟩:=h;have hb:=B8;refine ⟨_,Af (Aq (i:=3) NJ.nd rfl (.inl rfl) (B0 (Aa (Ag 1) Ae)))
   (Ak (Dl v0 (Cf (Ag 3))
    (Af (Aq (i:=4) NJ.nd rfl (.inl rfl) (C0 (Ag 0) T.cl mL GL hr bL (Aa (EC im EQ Fa Ew (Ag 3)) Ae)))
    (Ak (BE (AE Ol (BN AA (Ar (Ag 0)) (Ag 4) D0) (Ag 2) (Aw _))
     (Af (Ly (Ag 2) (Lz (Ar (Ag 0)) (Ag 4) set_list))
     (Ak (As (F4 im GM GT Dq (Ag 3) (Aa (BN AA (Ar (Ag 0)) (Ag 4) D0) Ae))))) Bf))))),?_⟩
  refine ⟨_,rfl,by show 1<=sizeLine;omega,λlw CO=>?_⟩;have Fw:Ai H (upd H lw (.lst [.int ((x:Nat):Int)])):=Ai.new CO;obtain ⟨_,L0⟩:=A0.lead;have w1:lw≠N.p:=be (Ab A0.ins CO);have w2:lw≠N.s:=be (Ab A0.sorts CO);have w3:lw≠N.i:=be (Ab A0.inner CO);have w4:lw≠N.l:=be (Ab L0 CO);have w5:lw≠N.v:=be (Ab A0.levels CO);have w6:lw≠N.g:=be (Ab A0.aaj CO);have w7:lw∉ls:=λz=>by
   obtain ⟨k,hk,ek⟩:=na.mp z;have:=A0.chs k lw (by rw [ap hk,ek]);rw [CO] at this;cases this
  refine ⟨λm σ H2=>∃ lv x4 W,σ=[some (.ref N.p),some (.int ((x:Nat):Int)),some (.int ((l:Nat):Int)),some (.ref lw),x4]/\m=3 * deep s.n l lv+W.length/\Bv C N H2 { s with lv:=lv } ls/\LL s Al l x lv W/\H2 lw=some (.lst (lsN W))/\W.length+2 * deep s.n l lv<=2 * s.n+1/\BU N H H2,
   ⟨_,s.lv,none,[x],rfl,rfl,A0.same Fw,LL.start P0,Ad,by have:=Wk s.n l s.lv;simp only [OC];omega,BU.of_same Fw⟩,?_⟩
  rintro m σ H2 ⟨lv,x4,W,rfl,rfl,A2,S2,Fx,Tn,f2⟩;refine ⟨_,rfl,!(lsN W).isEmpty,.inl ⟨_,AI.of Fx,rfl⟩,?_⟩;rcases Tu W with rfl | ⟨W',y,rfl⟩
  ·exact Bx (q lv H2 A2 S2 f2)
  ·rw [TD] at *;have yA:Al y:=S2.wA y (by simp);have yn:=P0.lt y yA;refine Cm (by simp [lsN]) ⟨_,fun σ' H' z=>z,?_⟩;have eW:lsN (W'++[y])=lsN W'++[V.int ((y:Nat):Int)]:=Cq _ _;rw [eW] at Fx;refine ⟨_,rfl,N.p,N.dx,_,rfl,A2.ins,rfl,_,rfl,.inl ⟨rfl,_,AI.of Fx⟩,lw,_,V.int ((y:Nat):Int),rfl,rfl,Fx,by simp,?_⟩;rw [Q1];have A3:Bv C N (upd H2 lw (.lst (lsN W'))) { s with lv:=lv } ls:=A2.off w1 w2 w3 w4 w5 w6 w7;refine ⟨N,_,ls,y,rfl,A3,yn,λH4 A4 e4=>?_⟩;have rn:=(P0.rp y yn).1;have UZ:H4 lw=some (.lst (lsN W')):=(by rw [e4 lw w4,Ad]);have f4:BU N H H4:=λb o e b1 b2 b3 b4 b5=>(by rw [e4 b b4,Ac (Ab e CO)];exact f2 b o e b1 b2 b3 b4 b5);refine ⟨_,rfl,N.p,C,N.dx,_,_,rfl,A4.ins,T.cl,T.nV,rfl,_,rfl,N.v,_,_,_,rfl,rfl,AI.of A4.levels,Ao (CL rn),_,rfl,?_⟩;refine ⟨_,_,rfl,rfl,_,rfl,?_⟩;have lW:(W'++[y]).length=W'.length+1:=(by simp);rw [lW] at Tn;by_cases c:l < lv (s.rp y)
   ·refine Cm (by simp;omega) ?_;refine ⟨_,rfl,_,rfl,N.p,C,N.dx,_,_,rfl,A4.ins,T.cl,T.nV,rfl,_,rfl,N.v,_,_,s.rp y,rfl,rfl,A4.levels,FQ (by rw [CA];exact rn),?_⟩;rw [EY];have A5:Bv C N _ { s with lv:=D5 lv (s.rp y) l } ls:=A4.ab6 (D5 lv (s.rp y) l);obtain ⟨l1,CB⟩:∃ l1,ls[s.rp y]?=some l1:=⟨_,ap (by rw [A0.len];exact rn)⟩;have ik:(upd H4 N.v (.lst (Cc s.n (D5 lv (s.rp y) l)))) lw=some (.lst (lsN W')):=(by rw [Ac w5];exact UZ);have ar:=P0.ar _ rn;have dl:=Wj (n:=s.n) (lv:=lv) rn c;have sg:LL s Al l x (D5 lv (s.rp y) l) (W'++s.ch (s.rp y)):=S2.go P0 c;refine ⟨_,rfl,.inl ⟨rfl,_,AI.of ik⟩,_,rfl,N.p,C,N.dx,_,_,rfl,A5.ins,T.cl,T.nI,rfl,_,rfl,N.i,_,_,_,rfl,rfl,AI.of A5.inner,Ao (v:=V.ref l1) (by rw [jp,CB];rfl),?_⟩;refine ⟨lw,l1,_,_,rfl,rfl,ik,A5.chs _ _ CB,by simp only [lsN,ba];omega,?_⟩;rw [<- Cq];refine ⟨_,?_,D5 lv (s.rp y) l,_,_,rfl,rfl,A5.off w1 w2 w3 w4 w5 w6 w7,sg,Ad,?_,λb o e b1 b2 b3 b4 b5=>?_⟩
    ·rw [lW,ca];have dl:deep s.n l (D5 lv (s.rp y) l) < deep s.n l lv:=dl;omega
    ·rw [ca];have dl:deep s.n l (D5 lv (s.rp y) l) < deep s.n l lv:=dl;omega
    ·rw [Ac (Ab e CO),Ac b5];exact f4 b o e b1 b2 b3 b4 b5
   ·refine BY (by simp;omega) ?_;exact ⟨_,by rw [lW];omega,lv,_,W',rfl,rfl,A4,S2.skip (),UZ,(),f4⟩
noncomputable def LQ (C:Addr):Sp:=λvs H Q _=>∃ (N:NA) (s:Ns) (ls:List Addr) (Al:Nat->Prop) (v u:Nat),vs=[.ref N.p,.int ((v:Nat):Int),.int ((u:Nat):Int)]/\Bv C N H s ls/\Ok s Al/\Al u/\Al v/\s.rp u=u/\s.rp v=v/\u≠v/\s.n < 1000000 /\
 ∀ s' H',Bv C N H' s' ls->Ok s' Al->Le s Al s' Al->s'.rp=(s.glue v u).rp->Fl s Al v u s'->BU N H H'->Q .non H'
theorem To:Am ["self","node","leader"] ["self","node","leader"] (Ah BS):=nofun
theorem QD (F:C7 K "follow" "Nodes.follow" BS f fd)(T:Cd K mg C)(GS:Au Pr w K mg base AN 2 fS fdS ["self","node","level"] (Tj C))(bS:Binds K fdS ["self","node","level"] [])(mS:Meth K C "sink" fS):Au Pr w K mg base AN 3 f fd ["self","node","leader"] (LQ C):=by
 refine F.okS To (λBe A outer s0 H vs Q E hr h=>?_)
 ·obtain ⟨N,s,ls,Al,v,u,rfl,A0,o,hu,hv,ru,rv,DT,hn,q⟩:=h;have un:=o.lt u hu;have vn:=o.lt v hv;obtain ⟨par,rk,U0,L0⟩:=A0.uf;refine ⟨_,Af (Ly (Ag 2) (Lz (Ar (Ag 0)) (Ag 1) set_list))
   (Ak (As (C0 (Ag 0) T.cl mS GS hr bS (Aa (Ag 2) (Aa (BN AA (Ar (Ag 0)) (Ag 1) D0) Ae))))),?_⟩
  refine ⟨_,rfl,_,rfl,N.p,C,N.dx,_,_,rfl,A0.ins,T.cl,T.nL,rfl,_,rfl,N.l,_,_,v,rfl,rfl,L0,FQ (by rw [CA];exact vn),?_⟩;rw [EY];have A1:Bv C N _ (s.glue v u) ls:=A0.abo (U0.union un vn ru rv DT);refine ⟨_,rfl,N.p,N.dx,_,rfl,A1.ins,rfl,_,rfl,_,rfl,N.p,C,N.dx,_,_,rfl,A1.ins,T.cl,T.nV,rfl,_,rfl,N.v,_,_,_,rfl,rfl,AI.of A1.levels,Ao (CL vn),?_⟩;refine ⟨N,_,ls,Al,u,s.lv v,rfl,A1,o.glue hu hv ru rv DT,hn,λlv H' A' S' f'=>?_⟩;obtain ⟨o',YB⟩:=Le.abn o hu hv ru rv DT S';exact q _ H' A' o' YB rfl (S'.fl ru DT) λb o e b1 b2 b3 b4 b5=>f' b o (by rw [Ac b4];exact e) b1 b2 b3 b4 b5
end
end K
namespace L2
open PySem PySem.Spec PyProof.Rows KS KX
section
variable {X:Cx}{k:Nat}{f C:Addr}{fd:FuncData}{ps:List Str}{sp:Sp}{m:Str}{E:XK}{o:Expr}{ta:TE}{pos apos:Pos}
theorem k8 (he:SE X o ta)(c:ID X.K C)(hm:Meth X.K C m f)(F:Au X.prog X.w X.K X.mg X.base (pT X.prog X.w) k f fd ps sp)(hx:Passes (pT X.prog X.w) X E)(hr:Ax k X.A)(hb:Binds X.K fd ps [])(ht:eval (.Call (.Attribute o m apos) [] [] pos) X.env=(do
   let ov <- eval o X.env
   standAt apos.atName
   let (f,first) <- holding [ov] (getMethod ov m pl)
   callWith pos f first (backTo pos (starEach [] X.env)) (backToKw pos (keywordEach [] X.env))):=by rfl) :
  SE X (.Call (.Attribute o m apos) [] [] pos) (DD C m sp [] E ta Di):=⟨Lb he.out c hm F hr hb .nil hx ht⟩
end
end L2
local macro_rules | `(tactic| fail)=>`(tactic| with_reducible refine L2.abq ?_)
namespace L2
open PySem PySem.Spec PyProof.Rows KS KX
noncomputable def Mc (Pr:Program)(w:World)(K:W.Frag)(mg:Str->Option Value)(base:Heap)(CX:Mw)(C:Addr)(k:Nat)(m:Str)(ps:List Str)(sp:Sp):Prop:=∃ f fd,Au Pr w K mg base CX k f fd ps sp/\Binds K fd ps []/\Meth K C m f
section
variable {X:Cx}{k:Nat}{C:Addr}{ps:List Str}{sp:Sp}{m:Str}{E:XK}{o e:Expr}{es:List Expr}{ta:TE}{t:TA}{pos apos:Pos}
theorem Bp (he:SE X o ta)(c:ID X.K C)(M:Mc X.prog X.w X.K X.mg X.base AN C k m ps sp)(hr:Ax k X.A)(ha:SA X (e::es) t)(JJ:starEach (e::es) X.env=(false,eval e X.env)::starEach es X.env:=by exfalso)(Er:(backTo pos (starEach es X.env)).any (·.1)=false:=by rfl)(ht:eval (.Call (.Attribute o m apos) (e::es) [] pos) X.env=(do
   let ov <- eval o X.env
   standAt apos.atName
   let (f,first) <- holding [ov] (getMethod ov m pl)
   callWith pos f first (backTo pos (starEach (e::es) X.env)) (backToKw pos (keywordEach [] X.env))):=by rfl) :
  SE X (.Call (.Attribute o m apos) (e::es) [] pos) (DD C m sp [] E0 ta t):=by
 obtain ⟨f,fd,F,hb,hm⟩:=M;exact C0 he c hm F hr hb ha JJ Er ht
end
noncomputable def tNo:TS:=λ_ _ _=>False
section
variable {X:Cx}
theorem Ig:SS X (.Raise e c pos) tNo:=⟨λ_ _ _ _ _ _ h=>h.elim⟩
noncomputable def k9 (i:Nat)(t:TE):TS:=λD σ H=>t σ H (λv H'=>D.nx (σ.set i (some v)) H')
variable {i:Nat}{y:Str}{e o:Expr}{t ta:TE}{b₀:Stmt}{OS:List Stmt}{py apos IP pos:Pos}{hx:Option Expr}{n:Option Str}{C f:Addr}{m:Str}{k:Nat}{ps:List Str}{sp:Sp}
theorem aW (hN:X.N.Nodup)(hi:X.N[i]?=some y)(hy:Loc X.env.scope y)(he:SE X e t)(uL:X.xe=λ_ _=>False:=by rfl)(hs:swapsWith e (some (.Name y py)) apos.line X.env=pure false:=by rfl)(hf:X.fn y=true\/X.env.scope.names.lookup y=some .local:=by exfalso):
  SS X (.Try [.Assign [.Name y py] e apos] [.ExceptHandler hx n (b₀::OS) IP] [] [] pos) (k9 i t):=⟨by
 intro pins s σ H D I h;refine wpAny_Try_except ?_;refine wpAny_execs_cons ?_;refine wpAny_Assign_Name (OH (he.out pins s σ H _ I h) (λv s1 q1=>?_) λex s1 q1=>?_) hs
 ·obtain ⟨v',H1,I1,r1,q⟩:=q1;refine Ht I1 hN hi hy r1 (λs2 I2=>?_) hf;refine wpAny_execs_nil ?_;exact wpAny_execs_nil ⟨_,H1,I2,q⟩
 ·rw [uL] at q1;exact q1.elim⟩
theorem Dh (he:SE X o ta)(c:ID X.K C)(M:Mc X.prog X.w X.K X.mg X.base AN C k m ps sp)(hr:Ax k X.A)(ht:eval (.Call (.Attribute o m apos) [] [] pos) X.env=(do
   let ov <- eval o X.env
   standAt apos.atName
   let (f,first) <- holding [ov] (getMethod ov m pl)
   callWith pos f first (backTo pos (starEach [] X.env)) (backToKw pos (keywordEach [] X.env))):=by rfl) :
  SE X (.Call (.Attribute o m apos) [] [] pos) (DD C m sp [] E0 ta Di):=by
 obtain ⟨f,fd,F,hb,hm⟩:=M;exact Wa he c hm F hr hb ht
end
end L2
namespace K
open PySem L2 KM KS KN
theorem DP (h:g < 6):decide (V.str (BB g)=V.str "any")=decide (g=2):=by
 have c:g=0\/g=1\/g=2\/g=3\/g=4\/g=5:=by omega
 rcases c with rfl | rfl | rfl | rfl | rfl | rfl <;> decide +kernel
theorem Tp (h:g < 6)(h':g' < 6):decide (V.str (BB g)=V.str (BB g'))=decide (g=g'):=by
 have:=HI g h g' h';rw [Do];simp only [decide_eq_true_iff]
 constructor
 ·intro e;have e:BB g=BB g':=by injection e
  rw [e] at this;simpa using this
 ·intro e;rw [e]
abbrev Gq (H:Hp):List (Nat × Nat)->List V->Prop:=Paired λq v=>∃ t,v=.ref t/\H t=some (.tup [.int ((q.1:Nat):Int),.int ((q.2:Nat):Int)])
theorem Gq.mono (s:TSub H H')(h:Gq H ps vs):Gq H' ps vs:=Paired.aar h λ_ _ z=>by
 obtain ⟨t,e,z⟩:=z;exact ⟨t,e,s _ _ z⟩
theorem Paired.snoc (h:Paired F as bs):as≠[]->∃ qH a qI b,as=qH++[a]/\bs=qI++[b]/\Paired F qH qI/\F a b:=by
 induction h with
 | nil=>exact λh=>absurd rfl h
 | @cons a b as bs h t ih =>
  intro _;cases t with
  | nil=>exact ⟨[],a,[],b,rfl,rfl,.nil,h⟩
  | cons h2 t2 =>
   obtain ⟨qH,a',qI,b',e1,e2,p,f⟩:=ih (by simp);exact ⟨a::qH,a',b::qI,b',by rw [e1];rfl,by rw [e2];rfl,.cons h p,f⟩
theorem Tq:∀ {ys:List Nat} {ts:List Addr},ts.length=xs.length->xs.length=ys.length->(∀ (j:Nat) (t:Addr),ts[j]?=some t->∃ x y,(lsN xs)[j]?=some x/\(lsN ys)[j]?=some y/\H t=some (.tup [x,y]))->Gq H (xs.zip ys) (ts.map V.ref):=by
 induction xs with
 | nil =>
  intro ys ts h1 h2 h3;cases ts with
  | nil=>cases ys <;> first | exact .nil | cases h2
  | cons _ _=>cases h1
 | cons x xs ih =>
  intro ys ts h1 h2 h3;cases ts with
  | nil=>cases h1
  | cons t ts =>
   cases ys with
   | nil=>cases h2
   | cons y ys =>
    refine .cons ?_ (ih (by simpa using h1) (by simpa using h2) λj t' e=>?_)
    ·obtain ⟨u,v,e1,e2,e3⟩:=h3 0 t rfl;simp [lsN] at e1 e2;exact ⟨t,rfl,by rw [e3,<- e1,<- e2]⟩
    ·obtain ⟨u,v,e1,e2,e3⟩:=h3 (j+1) t' (by simpa using e);exact ⟨u,v,by simpa [lsN] using e1,by simpa [lsN] using e2,e3⟩
section
variable {Pr:Program}{w:World}{K:W.Frag}{mg:Str->Option Value}{base:Heap}
inductive SI (C:Addr)(N:NA)(s:Ns)(Al:Nat->Prop)(ls:List Addr)(i j:Nat)(lw:Addr)(H:Hp)(m:Nat)(σ:St)(H2:Hp):Prop
 | mk (ws:List V) (ps:List (Nat × Nat)) (s2:Ns) (x4 x5 x6:Option V):σ=[some (.ref N.p),some (.int ((i:Nat):Int)),some (.int ((j:Nat):Int)),some (.ref lw),x4,x5,x6]->m=3 * KN.roots s.n s2.rp+ps.length->m<=3 * s.n+1->Bv C N H2 s2 ls->Ok s2 Al->Le s Al s2 Al->s2.n=s.n->Us s Al [(i,j)] s2 ps->(∀ p∈ps,Al p.1/\Al p.2)->BU N H H2->H2 lw=some (.lst ws)->Gq H2 ps ws->SI C N s Al ls i j lw H m σ H2
noncomputable def Ke (C:Addr):Sp:=λvs H Q _=>∃ (N:NA) (s:Ns) (ls:List Addr) (Al:Nat->Prop) (i j:Nat),vs=[.ref N.p,.int ((i:Nat):Int),.int ((j:Nat):Int)]/\Bv C N H s ls/\Ok s Al/\Hm s/\Al i/\Al j/\s.n < 1000000/\(∃ σ,BA s σ/\σ i=σ j) /\
 ∀ s' H',Bv C N H' s' ls->Ok s' Al->Le s Al s' Al->s'.n=s.n->Us s Al [(i,j)] s' []->BU N H H'->Q .non H'
abbrev kf:List Str:=["self","one","other","waiting","pair","first","second"]
theorem Ih:Am kf ["self","one","other"] (Ah Bi):=nofun
theorem Wu (F:C7 K "make_same" "Nodes.make_same" Bi f fd)(T:Cd K mg C)(mLi:mg "list"=none)(mZ:mg "zip"=none)(GL:Au Pr w K mg base AN 1 fL NH ["self","node"] (Bz C))(bL:Binds K NH ["self","node"] [])(mL:Meth K C "leader" fL)(GF:Au Pr w K mg base AN 3 fF fdF ["self","node","leader"] (LQ C))(bF:Binds K fdF ["self","node","leader"] [])(mF:Meth K C "follow" fF) :
  Au Pr w K mg base AN 4 f fd ["self","one","other"] (Ke C):=by
 refine F.okS Ih (λBe A outer s0 H vs Q E hr h=>?_)
 ·obtain ⟨N,s,ls,Al,i,j,rfl,A0,o0,U',hi,hj,hn,⟨σ0,so,eo⟩,q1⟩:=h;have hb:=B8;have BZ:Ax 1 _:=hr.mono ⟨⟩;refine ⟨_,Af (Aq (i:=3) Ih.nd rfl (.inl rfl) (B0 (Aa (Az (Aa (Ag 1) (Aa (Ag 2) Ae))) Ae)))
   (Ak (Dl v0 (Cf (Ag 3))
    (Af (Aq (i:=4) Ih.nd rfl (.inl rfl) (EC im EQ Fa Ew (Ag 3)))
    (Af (Aq (i:=5) Ih.nd rfl (.inl rfl) (C0 (Ag 0) T.cl mL GL BZ bL (Aa (eI 4) Ae)))
    (Af (Aq (i:=6) Ih.nd rfl (.inl rfl) (C0 (Ag 0) T.cl mL GL BZ bL (Aa (eI 4) Ae)))
    (Af (BE (AE Bb (Ag 5) (Ag 6) (Aw _)) (Ak Nm) Bf)
    (Ak (BE (AE Bb (BN AA (Ar (Ag 0)) (Ag 6) D0) Ap (Aw _)) (Ak (As (C0 (Ag 0) T.cl mF GF hr bF (Aa (Ag 6) (Aa (Ag 5) Ae)))))
     (Ak (BE (AE Bb (BN AA (Ar (Ag 0)) (Ag 5) D0) Ap (Aw _)) (Ak (As (C0 (Ag 0) T.cl mF GF hr bF (Aa (Ag 5) (Aa (Ag 6) Ae)))))
      (Ak (BE (AE K' (BN AA (Ar (Ag 0)) (Ag 5) D0) (BN AA (Ar (Ag 0)) (Ag 6) D0) (Aw _))
       (Ak Ig)
       (Af (As (C0 (Ag 0) T.cl mF GF hr bF (Aa (Ag 6) (Aa (Ag 5) Ae))))
       (Ak (As (F4 im GM GT Dq (Ag 3) (Aa (Qt rfl rfl rfl mLi rfl mZ (Aa (BN AA (Ar (Ag 0)) (Ag 5) D0) (Aa (BN AA (Ar (Ag 0)) (Ag 6) D0) Ae))) Ae))))))))))))))))),?_⟩
  refine ⟨_,rfl,_,rfl,by show 2<=sizeLine;omega,λt0 ip=>⟨by show 1<=sizeLine;omega,λlw CO=>?_⟩⟩;have nt0:t0≠lw:=λz=>by rw [<- z,Ad] at CO;cases CO
  have BV:H lw=none:=by rw [Ac (be nt0)] at CO;exact CO
  obtain ⟨_,L0⟩:=A0.lead;have w1:lw≠N.p:=be (Ab A0.ins BV);have w2:lw≠N.s:=be (Ab A0.sorts BV);have w3:lw≠N.i:=be (Ab A0.inner BV);have w4:lw≠N.l:=be (Ab L0 BV);have w5:lw≠N.v:=be (Ab A0.levels BV);have w6:lw≠N.g:=be (Ab A0.aaj BV);have w7:lw∉ls:=λz=>by
   obtain ⟨k,hk,ek⟩:=na.mp z;have:=A0.chs k lw (by rw [ap hk,ek]);rw [BV] at this;cases this
  have Fw:Ai H (upd (upd H t0 (.tup [.int ((i:Nat):Int),.int ((j:Nat):Int)])) lw (.lst [.ref t0])):=Ai.put (Ai.new ip) BV;refine ⟨SI C N s Al ls i j lw H,
   ⟨_,[.ref t0],[(i,j)],s,none,none,none,rfl,rfl,by have:=KN.aa9 s.n s.rp;simp;omega,A0.same Fw,o0,Le.refl _ _,rfl,Us.refl _ _ _,λp hp=>by rw [al.mp hp];exact ⟨hi,hj⟩,BU.of_same Fw,Ad,.cons ⟨t0,rfl,by rw [Ac nt0,Ad]⟩ .nil⟩,?_⟩
  rintro m σ H2 ⟨ws,ps,s2,x4,x5,x6,rfl,rfl,hm,A2,o2,qJ,en,QE,kg,qG,Fx,kh⟩;refine ⟨_,rfl,!ws.isEmpty,.inl ⟨ws,AI.of Fx,rfl⟩,?_⟩;by_cases jD:ps=[]
  ·subst jD;cases kh;refine Bx ?_;exact q1 s2 H2 A2 o2 qJ en QE qG
  ·obtain ⟨Ie,⟨x,y⟩,CT,v,rfl,rfl,uM,t,rfl,ht⟩:=Paired.snoc kh jD;have DT:(!(CT++[V.ref t]).isEmpty)=true:=(by simp);rw [DT];refine CQ ⟨_,fun σ' H' z=>z,?_⟩;obtain ⟨xA,yA⟩:=kg (x,y) (by simp);have hx:x < s2.n:=o2.lt x xA;have hy:y < s2.n:=o2.lt y yA;have km:∀ p∈Ie,Al p.1/\Al p.2:=λp hp=>kg p (ee _ hp);have V0:=U'.le qJ en;refine ⟨_,rfl,.inl ⟨rfl,_,AI.of Fx⟩,lw,_,V.ref t,rfl,rfl,Fx,by simp,?_⟩;rw [Q1];have A3:Bv C N (upd H2 lw (.lst CT)) s2 ls:=A2.off w1 w2 w3 w4 w5 w6 w7;have uN:t≠lw:=AW ht Fx (by intro z;cases z);have Wv:(upd H2 lw (.lst CT)) t=some (.tup [.int ((x:Nat):Int),.int ((y:Nat):Int)]):=(by rw [Ac uN];exact ht);have Ww:(upd H2 lw (.lst CT)) lw=some (.lst CT):=Ad;have ko:Gq (upd H2 lw (.lst CT)) Ie CT:=Gq.mono (TSub.put λxs z=>by rw [Fx] at z;cases z) uM;have Rk:BU N H (upd H2 lw (.lst CT)):=λb o e b1 b2 b3 b4 b5=>(by rw [Ac (Ab e BV)];exact qG b o e b1 b2 b3 b4 b5);generalize upd H2 lw (.lst CT)=H3 at A3 Wv Ww ko Rk ⊢;refine ⟨_,rfl,N.p,N.dx,_,rfl,A3.ins,rfl,_,rfl,t,_,_,_,rfl,rfl,BL.of Wv,Ao (j:=0) rfl,N,s2,ls,x,rfl,A3,hx,λH4 A4 e4=>?_⟩;obtain ⟨_,L3⟩:=A3.lead;have tL:t≠N.l:=AW Wv L3 (by intro z;cases z);have ht4:H4 t=some (.tup [.int ((x:Nat):Int),.int ((y:Nat):Int)]):=(by rw [e4 t tL];exact Wv);refine ⟨_,rfl,N.p,N.dx,_,rfl,A4.ins,rfl,_,rfl,t,_,_,_,rfl,rfl,BL.of ht4,Ao (j:=1) rfl,N,s2,ls,y,rfl,A4,hy,λH5 A5 e5=>?_⟩;have uO:∀ b,b≠N.l->H5 b=H3 b:=λb hb=>(by rw [e5 b hb,e4 b hb]);have iq:H5 lw=some (.lst CT):=(by rw [uO lw w4];exact Ww);have uP:TSub H3 H5:=λb xs e=>(by rw [uO b (AW e L3 (by intro z;cases z))];exact e);have iu:=Gq.mono uP ko;have UT:BU N H H5:=λb o e b1 b2 b3 b4 b5=>(by rw [uO b b4];exact Rk b o e b1 b2 b3 b4 b5);obtain ⟨ix,V1⟩:=o2.rp x hx;obtain ⟨iy,V2⟩:=o2.rp y hy;have V3:Al (s2.rp x):=(o2.li x hx).mpr xA;have V4:Al (s2.rp y):=(o2.li y hy).mpr yA;have Wx:(Ie++[(x,y)]).length=Ie.length+1:=(by simp);rw [Wx] at hm ⊢;have Tr:∀ (x4 x5 x6:Option V) (u v:Nat) (s6:Ns) (more:List (Nat × Nat)) (qK:List V) (H6:Hp),Al u->Al v->s2.rp u=u->s2.rp v=v->u≠v->more.length<=2->(∀ p∈more,Al p.1/\Al p.2)->Bv C N H6 s6 ls->Ok s6 Al->Le s2 Al s6 Al->s6.rp=(s2.glue v u).rp->s6.n=s2.n->Us s2 Al (Ie++[(x,y)]) s6 (Ie++more)->BU N H H6->H6 lw=some (.lst qK)->Gq H6 (Ie++more) qK ->
     ∃ m',m' < 3 * KN.roots s.n s2.rp+(Ie.length+1)/\SI C N s Al ls i j lw H m' [some (.ref N.p),some (.int ((i:Nat):Int)),some (.int ((j:Nat):Int)),some (.ref lw),x4,x5,x6] H6:=by
    intro x4 x5 x6 u v s6 more qK H6 hu hv ru rv DT uQ hmA A6 o6 Ro V5 qL us6 NK V6 YC;have QF:=KN.aaz (s:=s2) (o2.lt v hv) ru rv DT;rw [en,<- V5] at QF;have Ahc:(Ie++more).length=Ie.length+more.length:=ca;exact ⟨3 * KN.roots s.n s6.rp+(Ie++more).length,(),qK,Ie++more,s6,x4,x5,x6,rfl,rfl,(),A6,o6,Le.trans o0 qJ Ro,qL.trans en,QE.trans us6,λp hp=>(bn.mp hp).elim (km p) (hmA p),NK,V6,YC⟩
   refine ⟨_,rfl,_,rfl,rfl,_,rfl,?_⟩;have Yb:s2.n < 1000000:=(by rw [en];exact hn);by_cases Tt:s2.rp x=s2.rp y
   ·refine Cm (by simp [Tt]) ?_;exact ⟨3 * KN.roots s.n s2.rp+Ie.length,(),CT,Ie,s2,_,_,_,rfl,rfl,(),A5,o2,qJ,en,QE.trans (Us.skip hx hy Tt),km,UT,iq,iu⟩
   ·refine BY (by simp;omega) ?_;have qM:=V0.tg _ ix;have tgy:=V0.tg _ iy;have Tv:∀ {H6:Hp},BU N H5 H6->H6 lw=some (.lst CT):=λ{H6} k=>k lw _ iq w1 w2 w3 w4 w5;have Tw:∀ {H6:Hp},BU N H5 H6->Gq H6 Ie CT:=λ{H6} k=>by
     obtain ⟨_,L5⟩:=A5.lead;exact Gq.mono (λb xs e=>k b _ e (AW e A5.ins (by intro z;cases z)) (AW e A5.sorts (by intro z;cases z)) (AW e A5.inner (by intro z;cases z)) (AW e L5 (by intro z;cases z)) (AW e A5.levels (by intro z;cases z))) iu
    refine ⟨_,rfl,N.p,C,N.dx,_,_,rfl,A5.ins,T.cl,T.nS,rfl,_,rfl,N.s,_,_,_,rfl,rfl,AI.of A5.sorts,Ao (D6 iy),rfl,_,rfl,?_⟩;rw [DP tgy];by_cases e2:s2.tg (s2.rp y)=2
    ·refine Cm (by simp [e2]) ?_;refine ⟨_,rfl,N.p,N.dx,_,rfl,A5.ins,rfl,_,rfl,_,rfl,N,s2,ls,Al,s2.rp y,s2.rp x,rfl,A5,o2,V3,V4,V1,V2,Tt,Yb,λs6 H6 A6 o6 Ro V5 ky k6=>?_⟩;exact Tr _ _ _ (s2.rp x) (s2.rp y) s6 [] CT _ V3 V4 V1 V2 Tt (by simp) (λp hp=>by cases hp) A6 o6 Ro V5 (A6.len.symm.trans A5.len) (Us.glue o2 o6 V0 Ro V5 (A6.len.symm.trans A5.len) ky hx hy V3 V4 V1 V2 Tt (.inl ⟨rfl,rfl⟩) (.inl ⟨e2,rfl⟩)) (UT.trans k6) (Tv k6) (by rw [G2];exact Tw k6)
    ·refine BY (by simp [e2]) ?_;refine ⟨_,rfl,N.p,C,N.dx,_,_,rfl,A5.ins,T.cl,T.nS,rfl,_,rfl,N.s,_,_,_,rfl,rfl,AI.of A5.sorts,Ao (D6 ix),rfl,_,rfl,?_⟩;rw [DP qM];by_cases e1:s2.tg (s2.rp x)=2
     ·refine Cm (by simp [e1]) ?_;refine ⟨_,rfl,N.p,N.dx,_,rfl,A5.ins,rfl,_,rfl,_,rfl,N,s2,ls,Al,s2.rp x,s2.rp y,rfl,A5,o2,V4,V3,V2,V1,be Tt,Yb,λs6 H6 A6 o6 Ro V5 ky k6=>?_⟩;exact Tr _ _ _ (s2.rp y) (s2.rp x) s6 [] CT _ V4 V3 V2 V1 (be Tt) (by simp) (λp hp=>by cases hp) A6 o6 Ro V5 (A6.len.symm.trans A5.len) (Us.glue o2 o6 V0 Ro V5 (A6.len.symm.trans A5.len) ky hx hy V4 V3 V2 V1 (be Tt) (.inr ⟨rfl,rfl⟩) (.inl ⟨e1,rfl⟩)) (UT.trans k6) (Tv k6) (by rw [G2];exact Tw k6)
     ·refine BY (by simp [e1]) ?_;refine ⟨_,rfl,N.p,C,N.dx,_,_,rfl,A5.ins,T.cl,T.nS,rfl,_,rfl,N.s,_,_,_,rfl,rfl,AI.of A5.sorts,Ao (D6 ix),_,rfl,N.p,C,N.dx,_,_,rfl,A5.ins,T.cl,T.nS,rfl,_,rfl,N.s,_,_,_,rfl,rfl,AI.of A5.sorts,Ao (D6 iy),rfl,_,rfl,?_⟩;rw [Tp qM tgy];by_cases e3:s2.tg (s2.rp x)=s2.tg (s2.rp y)
      ·refine BY (by simp [e3]) ?_;refine ⟨_,rfl,N.p,N.dx,_,rfl,A5.ins,rfl,_,rfl,_,rfl,N,s2,ls,Al,s2.rp y,s2.rp x,rfl,A5,o2,V3,V4,V1,V2,Tt,Yb,λs6 H6 A6 o6 Ro V5 ky k6=>?_⟩;have V6:=Tv k6;have NK:=UT.trans k6;have YC:=Tw k6;have qL:s6.n=s2.n:=A6.len.symm.trans A5.len;obtain ⟨l1,CB⟩:∃ l1,ls[s2.rp x]?=some l1:=⟨_,ap (by rw [A5.len];exact ix)⟩;obtain ⟨l2,D9⟩:∃ l2,ls[s2.rp y]?=some l2:=⟨_,ap (by rw [A5.len];exact iy)⟩;have kz:(s2.ch (s2.rp x)).length=(s2.ch (s2.rp y)).length:=(by rw [V0.ar _ ix,V0.ar _ iy,e3]);have Nu:(s2.ch (s2.rp x)).length<=2:=o2.ar _ ix;have c1:=A6.chs _ _ CB;have c2:=A6.chs _ _ D9;rw [Ro.ch _ ix] at c1;rw [Ro.ch _ iy] at c2;refine ⟨_,rfl,.inl ⟨rfl,_,AI.of V6⟩,_,rfl,N.p,C,N.dx,_,_,rfl,A6.ins,T.cl,T.nI,rfl,_,rfl,N.i,_,_,_,rfl,rfl,AI.of A6.inner,Ao (v:=V.ref l1) (by rw [jp,CB];rfl),_,rfl,N.p,C,N.dx,_,_,rfl,A6.ins,T.cl,T.nI,rfl,_,rfl,N.i,_,_,_,rfl,rfl,AI.of A6.inner,Ao (v:=V.ref l2) (by rw [jp,D9];rfl),
        l1,l2,_,_,rfl,.inl ⟨c1,c2⟩,by simp [lsN];exact kz,by simp [lsN];omega,λl ts H7 Wx QG iw lts qN=>?_⟩
       have iz:=QG _ _ V6;have psl:CT.length=Ie.length:=(AC YC).symm;have tsl:ts.length<=2:=(by rw [lts];simp [lsN];omega);refine ⟨lw,l,CT,ts.map V.ref,rfl,rfl,iz,iw,by rw [ba];omega,?_⟩;have A7:Bv C N (upd H7 lw (.lst (CT++ts.map V.ref))) s6 ls:=(A6.same QG).off w1 w2 w3 w4 w5 w6 w7;have kA:TSub H7 (upd H7 lw (.lst (CT++ts.map V.ref))):=TSub.put λxs z=>(by rw [iz] at z;cases z);refine Tr _ _ _ (s2.rp x) (s2.rp y) s6 ((s2.ch (s2.rp x)).zip (s2.ch (s2.rp y))) _ _ V3 V4 V1 V2 Tt (by rw [List.length_zip];omega) (λp hp=>?_) A7 o6 Ro V5 qL (Us.glue o2 o6 V0 Ro V5 qL ky hx hy V3 V4 V1 V2 Tt (.inl ⟨rfl,rfl⟩) (.inr ⟨e3.symm,e1,.inl rfl⟩)) (λb o e b1 b2 b3 b4 b5=>?_) Ad ?_
       ·obtain ⟨h1,h2⟩:=List.of_mem_zip hp;exact ⟨o2.cl _ V3 V1 _ h1,o2.cl _ V4 V2 _ h2⟩
       ·rw [Ac (Ab e BV)];exact QG b o (NK b o e b1 b2 b3 b4 b5)
       ·exact Paired.app (Gq.mono (TSub.trans (TSub.of_same QG) kA) YC) (Gq.mono kA (Tq (by rw [lts];simp [lsN]) kz qN))
      ·refine Cm (by simp [e3]) ?_;have uz:=QE.sf σ0 ⟨so,λp hp=>by rw [al.mp hp];exact eo⟩;exact e3 (uz.1.tags o2 V0 hx hy (uz.2 (x,y) (by simp)) e1 e2)
end
end K
namespace KN
open KM KX PySem
theorem BA.copy {s s':Ns}{A A':Nat->Prop}{ks:List Nat}{g:Nat->Nat}(o:Ok s A)(le:Le s A s' A')(n:s'.n=s.n+ks.length)(rp:∀ i,i < s.n->s'.rp i=s.rp i)
  (new:∀ j x,ks[j]?=some x->x < s.n/\s.rp x=x/\s'.rp (s.n+j)=s.n+j/\s'.tg (s.n+j)=s.tg x/\s'.ch (s.n+j)=(s.ch x).map λc=>g (s.rp c))
  (hg:∀ x∈ks,∀ c∈s.ch x,(∃ j,ks[j]?=some (s.rp c)/\g (s.rp c)=s.n+j)\/(A c/\g (s.rp c)=s.rp c)) {σ τ:Sg} (h1:BA s σ) (h2:BA s τ) (ha:∀ i,A i->τ i=σ i) :
  ∃ σ1,Ic s.n σ σ1/\BA s' σ1/\∀ j x,ks[j]?=some x->σ1 (s.n+j)=τ x:=by
 let σ1:Sg:=λi=>if i < s.n then σ i else τ ((ks[i - s.n]?).getD 0)
 have e0:∀ i,i < s.n->σ1 i=σ i:=λi h=>if_pos h;have e1:∀ j x,ks[j]?=some x->σ1 (s.n+j)=τ x:=λj x h=>by
  show (if s.n+j < s.n then σ (s.n+j) else τ ((ks[s.n+j - s.n]?).getD 0))=τ x
  rw [if_neg (),Nat.add_sub_cancel_left,h];rfl
 refine ⟨σ1,λi h=>(e0 i h).symm,λi hi=>?_,e1⟩;by_cases q:i < s.n
 ·obtain ⟨a,b⟩:=h1 i q;have rn:=(o.rp i q).1;unfold Ib;rw [rp i q,le.tg _ rn,le.ch _ rn,e0 i q,e0 _ rn];refine ⟨a,λt=>?_⟩;rw [b t]
  congr 1
  exact vc λc hc=>(e0 c (o.ch _ rn c hc)).symm
 ·obtain ⟨j,rfl⟩:∃ j,i=s.n+j:=⟨i - s.n,()⟩;obtain ⟨x,hx⟩:∃ x,ks[j]?=some x:=⟨_,ap ()⟩;obtain ⟨xn,xr,r1,r2,r3⟩:=new j x hx;unfold Ib;rw [r1,r2,r3];refine ⟨rfl,λt=>?_⟩;have b:=(h2 x xn).2;rw [xr] at b;rw [e1 j x hx,b t,List.map_map]
  congr 1
  refine vc λc hc=>?_;have cn:=o.ch x xn c hc;show τ c=σ1 (g (s.rp c));rcases hg x (ci hx) c hc with ⟨j',q1,q2⟩ | ⟨q1,q2⟩
  ·rw [q2,e1 j' _ q1];exact (h2 c cn).1
  ·rw [q2,e0 _ (o.rp c cn).1,<- (h1 c cn).1];exact ha c q1
end KN
namespace KX
open PySem L2
inductive Itm where
 | sc (v:V) | pt (e:Ex)
namespace Ex
noncomputable def its:Ex->List Itm
 | nm x=>[.sc (.str x)] | num i=>[.sc (.int i)] | tru b=>[.sc (.bl b)] | emp=>[]
 | fn x b=>[.sc (.str x),.pt b] | rc f x b=>[.sc (.str f),.sc (.str x),.pt b] | cal a b=>[.pt a,.pt b] | lt x a b=>[.sc (.str x),.pt a,.pt b] | wh a b c=>[.pt a,.pt b,.pt c] | pr a b=>[.pt a,.pt b]
 | opn a x y b=>[.pt a,.sc (.str x),.sc (.str y),.pt b] | lk a b=>[.pt a,.pt b] | spl a b x y c=>[.pt a,.pt b,.sc (.str x),.sc (.str y),.pt c] | op o a b=>[.sc (.str o),.pt a,.pt b]
end Ex
open Ex
end KX
namespace L2
open PySem PySem.Spec PyProof.Rows KS KX
noncomputable def uR (H:Hp):Itm->V->Prop
 | .sc v,u=>u=v
 | .pt e,u=>BD H e u
theorem BD.its (h:BD H e r):∃ p us,r=.ref p/\H p=some (.tup (.str e.wd::us))/\Paired (uR H) e.its us:=by
 cases e with
 | nm _=>obtain ⟨p,h1,h2⟩:=h;exact ⟨p,_,h1,h2,.cons rfl .nil⟩
 | num _=>obtain ⟨p,h1,h2⟩:=h;exact ⟨p,_,h1,h2,.cons rfl .nil⟩
 | tru _=>obtain ⟨p,h1,h2⟩:=h;exact ⟨p,_,h1,h2,.cons rfl .nil⟩
 | emp=>obtain ⟨p,h1,h2⟩:=h;exact ⟨p,_,h1,h2,.nil⟩
 | fn _ _=>obtain ⟨p,rb,h1,h2,h3⟩:=h;exact ⟨p,_,h1,h2,.cons rfl (.cons h3 .nil)⟩
 | rc _ _ _=>obtain ⟨p,rb,h1,h2,h3⟩:=h;exact ⟨p,_,h1,h2,.cons rfl (.cons rfl (.cons h3 .nil))⟩
 | cal _ _=>obtain ⟨p,ra,rb,h1,h2,h3,h4⟩:=h;exact ⟨p,_,h1,h2,.cons h3 (.cons h4 .nil)⟩
 | lt _ _ _=>obtain ⟨p,ra,rb,h1,h2,h3,h4⟩:=h;exact ⟨p,_,h1,h2,.cons rfl (.cons h3 (.cons h4 .nil))⟩
 | wh _ _ _=>obtain ⟨p,ra,rb,rc,h1,h2,h3,h4,h5⟩:=h;exact ⟨p,_,h1,h2,.cons h3 (.cons h4 (.cons h5 .nil))⟩
 | pr _ _=>obtain ⟨p,ra,rb,h1,h2,h3,h4⟩:=h;exact ⟨p,_,h1,h2,.cons h3 (.cons h4 .nil)⟩
 | opn _ _ _ _=>obtain ⟨p,ra,rb,h1,h2,h3,h4⟩:=h;exact ⟨p,_,h1,h2,.cons h3 (.cons rfl (.cons rfl (.cons h4 .nil)))⟩
 | lk _ _=>obtain ⟨p,ra,rb,h1,h2,h3,h4⟩:=h;exact ⟨p,_,h1,h2,.cons h3 (.cons h4 .nil)⟩
 | spl _ _ _ _ _=>obtain ⟨p,ra,rb,rc,h1,h2,h3,h4,h5⟩:=h;exact ⟨p,_,h1,h2,.cons h3 (.cons h4 (.cons rfl (.cons rfl (.cons h5 .nil))))⟩
 | op _ _ _=>obtain ⟨p,ra,rb,h1,h2,h3,h4⟩:=h;exact ⟨p,_,h1,h2,.cons rfl (.cons h3 (.cons h4 .nil))⟩
end L2
namespace K
open PySem L2 KM KS KN
noncomputable def FV (n:Nat):List Nat->List (Key × V)
 | []=>[]
 | x::r=>(Sum.inl ((x:Nat):Int),.int ((n:Nat):Int))::FV (n+1) r
theorem Wy:∀ {n x:Nat},FV n (ks++[x])=FV n ks++[(Sum.inl ((x:Nat):Int),.int (((n+ks.length:Nat):Nat):Int))]:=by
 induction ks with
 | nil=>intro n x;rfl
 | cons y r ih =>
  intro n x;show (Sum.inl ((y:Nat):Int),V.int ((n:Nat):Int))::FV (n+1) (r++[x])=_;rw [ih];have e:n+1+r.length=n+(y::r).length:=by simp only [sB];omega
  rw [e];rfl
theorem Pa:∀ {n:Nat},(FV n ks).length=ks.length:=by
 induction ks with
 | nil=>intro n;rfl
 | cons y r ih=>intro n;show (FV (n+1) r).length+1=_;rw [ih];rfl
theorem Kf:∀ {n y:Nat},(y∉ks/\Bw (FV n ks) (Sum.inl ((y:Nat):Int):Key)=none)\/(y∈ks/\∃ j,j < ks.length/\Bw (FV n ks) (Sum.inl ((y:Nat):Int):Key)=some (.int (((n+j:Nat):Nat):Int))/\ks[j]?=some y):=by
 induction ks with
 | nil=>intro n y;exact .inl ⟨by simp,rfl⟩
 | cons x r ih =>
  intro n y;by_cases e:x=y
  ·subst e;exact .inr ⟨.head _,0,by simp,BP rfl,rfl⟩
  ·have h:¬ (Sum.inl ((x:Nat):Int):Key)=Sum.inl ((y:Nat):Int):=λz=>e (by have:=Sum.inl.inj z;omega);rcases ih (n:=n+1) (y:=y) with ⟨a,b⟩ | ⟨a,j,b,d,dd⟩
   ·exact .inl ⟨by simp only [gz,not_or];exact ⟨λz=>e z.symm,a⟩,(Bo h).trans b⟩
   ·refine .inr ⟨.tail _ a,j+1,by simp only [sB];omega,(Bo h).trans ?_,dd⟩;rw [d];have e:n+1+j=n+(j+1):=(by omega);rw [e]
theorem aX:∀ {n j:Nat} {p:Key × V},(FV n ks)[j]?=some p->∃ x,ks[j]?=some x/\p=(Sum.inl ((x:Nat):Int),.int (((n+j:Nat):Nat):Int)):=by
 induction ks with
 | nil=>intro n j p h;cases h
 | cons y r ih =>
  intro n j p h;cases j with
  | zero=>cases h;exact ⟨y,rfl,rfl⟩
  | succ j =>
   obtain ⟨x,h1,h2⟩:=ih (n:=n+1) (j:=j) h;refine ⟨x,h1,h2.trans ?_⟩;have e:n+1+j=n+(j+1):=(by omega);rw [e]
section
variable {Pr:Program}{w:World}{K:W.Frag}{mg:Str->Option Value}{base:Heap}
theorem Wz {H:Hp}{l1 d:Addr}{ps:List Nat}{kvs:List (Key × V)}{g:Nat->Nat}{σ:St}{Fin:List V->Hp->Prop}(hl:H l1=some (.lst (lsN ps)))(hd:Rd H d (.dK kvs))(hlen:ps.length < 10000)
  (hg:∀ p∈ps,((Bw kvs (Sum.inl ((p:Nat):Int):Key)).getD (.int ((p:Nat):Int)))=.int ((g p:Nat):Int)) (s0:σ=[none,some (.ref d)]) (fin:Fin (lsN (ps.map g)) H) :
  De (Rj K l1) H σ (Cn 0) HG (HE (AS 1) (AS 0) (AS 0)) Fin:=by
 have hb:=B8;subst s0;refine Cw (K:=K) (a:=l1) (xs:=lsN ps) (λk ys H3=>ys=lsN ((ps.take k).map g)/\H3=H) ⟨by simp [lsN],rfl⟩ (λk ys H3 z=>?_) (by simp [lsN];omega) (λk ys H3 z=>?_) (λk c' ys H3 CS z=>?_)
  (λx σ H Q Q' h z=>h _ _ z) (fun σ H Q Q' h z=>h _ _ z) (fun σ H Q Q' h z=>?_) (λys H3 z=>?_)
 ·rw [z.2];exact AI.of hl
 ·rw [z.1];simp [lsN];omega
 ·obtain ⟨e,rfl⟩:=z;unfold lsN at CS;rw [jp] at CS;cases ec:ps[k]? with
  | none=>rw [ec] at CS;cases CS
  | some c =>
   rw [ec] at CS;cases CS;refine ⟨Ext.set rfl,Dy ?_⟩;refine ⟨_,rfl,d,rfl,.inl ⟨_,hd⟩,_,rfl,_,rfl,_,.inl ⟨_,Sum.inl ((c:Nat):Int),hd,rfl,rfl⟩,?_,rfl⟩;rw [hg c (ci ec),e,wP,ec,wT,Cq];rfl
 ·obtain ⟨v1,e1,a,e2,i1,v2,e3,v3,e4,o,d1,q⟩:=z;exact ⟨v1,e1,a,e2,i1,v2,e3,v3,e4,o,d1,h _ _ q⟩
 ·obtain ⟨e,rfl⟩:=z;have el:(lsN ps).length=ps.length:=by simp [lsN]
  rw [el,sK] at e;rw [e];exact fin
inductive CI (C:Addr)(N:NA)(s:Ns)(Al:Nat->Prop)(ls:List Addr)(ds:List Nat)(e l:Nat)(d lw:Addr)(H:Hp)(m:Nat)(σ:St)(H2:Hp):Prop
 | mk (s1:Ns) (A1:Nat->Prop) (Ho:List Addr) (ks W:List Nat) (x5:Option V):σ=[some (.ref N.p),some (.int ((e:Nat):Int)),some (.int ((l:Nat):Int)),some (.ref d),some (.ref lw),x5,none]->m=3 * (ds.length - ks.length)+W.length->Bv C N H2 s1 Ho->Cp s Al ds e l s1 A1 ks W->(∀ j x,ks[j]?=some x->s1.tg (s.n+j)=s.tg x)->H2 d=some (.dK (FV s.n ks))->H2 lw=some (.lst (lsN W))->W.length<=2 * ks.length+1->lw∉Ho->d∉Ho->BU N H H2->(∀ b∈Ho,b∈ls\/H b=none)->CI C N s Al ls ds e l d lw H m σ H2
inductive CJ (C:Addr)(N:NA)(s s1:Ns)(Al A1:Nat->Prop)(ls:List Addr)(ks:List Nat)(g:Nat->Nat)(e l:Nat)(d lw:Addr)(o:Obj)(H:Hp)(i:Nat)(σ:St)(H3:Hp):Prop
 | mk (s2:Ns) (IV:List Addr) (x5 x6:Option V):σ=[some (.ref N.p),some (.int ((e:Nat):Int)),some (.int ((l:Nat):Int)),some (.ref d),some (.ref lw),x5,x6]->Bv C N H3 s2 IV->Ok s2 A1->Le s Al s2 A1->s2.n=s1.n->s2.rp=s1.rp->s2.lv=s1.lv->s2.tg=s1.tg->s2.k=s1.k->(∀ j x,j < i->ks[j]?=some x->s2.ch (s.n+j)=(s.ch x).map λc=>g (s.rp c))->H3 d=some (.frz o (.dK (FV s.n ks)))->d∉IV->BU N H H3->(∀ b∈IV,b∈ls\/H b=none)->CJ C N s s1 Al A1 ls ks g e l d lw o H i σ H3
noncomputable def Ii (C:Addr):Sp:=λvs H Q _=>∃ (N:NA) (s:Ns) (ls:List Addr) (Al:Nat->Prop) (c e l:Nat),vs=[.ref N.p,.int ((e:Nat):Int),.int ((l:Nat):Int)]/\Bv C N H s ls/\Ok s Al/\Hm s/\Ent s Al c e l/\s.n+c < 1000000 /\
 ∀ s' CN A' r H',Bv C N H' s' CN->Ok s' A'->Hm s'->Lf s Al s' A'->A' r->s'.n<=s.n+c->(∀ σ τ,BA s σ->BA s τ->(∀ i,Al i->τ i=σ i)->∃ σ1,Ic s.n σ σ1/\BA s' σ1/\σ1 r=τ e)->BU N H H'->(∀ b∈CN,b∈ls\/H b=none)->Q (.int ((r:Nat):Int)) H'
theorem QH:Am ["self","top","level","fresh","waiting","at","node"] ["self","top","level"] (Ah Bh):=nofun
theorem QI (F:C7 K "copied" "Nodes.copied" Bh f fd)(T:Cd K mg C)(GL:Au Pr w K mg base AN 1 fL NH ["self","node"] (Bz C))(bL:Binds K NH ["self","node"] [])(mL:Meth K C "leader" fL)(GN:Au Pr w K mg base AN 1 fN k7 ["self","word","inner"] (Jw C))(bN:Binds K k7 ["self","word","inner"] [])(mN:Meth K C "new_node" fN)(WA:Au Pr w K mg base AN 2 iB QJ ["self","node"] (Hn C))(kB:Binds K QJ ["self","node"] [])(kD:Meth K C "inner_leaders" iB) :
  Au Pr w K mg base AN 3 f fd ["self","top","level"] (Ii C):=by
 refine F.okS QH (λBe A outer s0 H vs Q E hr h=>?_)
 ·obtain ⟨N,s,ls,Al,c,e,l,rfl,A0,o0,U',⟨qO,ds,jd,NN,hE⟩,hn,q⟩:=h;have hb:=B8;have BZ:Ax 1 _:=hr.mono ⟨⟩;have hu:=DE hr;have KO:(["part","fresh"]:List Str).Nodup:=by decide +kernel
  have S1:B7 (Dt AN Pr w K mg base ["self","top","level","fresh","waiting","at","node"] "Nodes.copied" (Ah Bh) f Be A outer s0 H E).nox (BJ (valueOf (Yn (inDef Bh 3) 0))) [("fresh",s0.heap.objs.size+1)] ["part"] ["fresh"] [3] :=
   ⟨rfl,by decide +kernel,rfl,by decide +kernel,rfl,rfl,rfl,rfl⟩
  refine ⟨_,(Af (Aq (i:=3) QH.nd rfl (.inr rfl) E3)
   (Af (Aq (i:=4) QH.nd rfl (.inl rfl) (B0 (Aa (Ag 1) Ae)))
   (Af (Dl v0 (Cf (Ag 4)) (Af (Aq (i:=5) QH.nd rfl (.inl rfl) (C0 (Ag 0) T.cl mL GL BZ bL (Aa (EC im EQ Fa Ew (Ag 4)) Ae)))
   (Ak (BE (Nh (w_and (AE Ol (BN (r:=Du K) AA (Ar (Ag 0)) (Ag 5) D0) (Ag 2) (Aw _)) (DI (EF hu (Ag 5) (Ag 3))))) (Af (DJ hu (Ag 3) (Ag 5) (C0 (Ag 0) T.cl mN GN BZ bN (Aa (BN (r:=Du K) AA (Ar (Ag 0)) (Ag 5) D0) (Aa (B0 Ae) Ae))) rfl)
   (Ak (As (F4 im GM GT Dq (Ag 4) (Aa (BN (r:=Du K) AA (Ar (Ag 0)) (Ag 5) D0) Ae))))) Bf))))
   (Af (SN (FN v0 rfl (K3 (EC PySem.F.plainAttrs_dict PySem.F.slot_dict_items PySem.F.type_dict_items HW (Ag 3))) (Jq rfl (Co (B2 (i:=5) QH.nd rfl (.inl rfl)) (Co (B2 (i:=6) QH.nd rfl (.inl rfl)) Gi))) (Ak (Ly (Dx (te:=HE (AS 1) (AS 0) (AS 0)) S1 rfl (CW (C0 (Ag 0) T.cl kD WA hr kB (Aa (Ag 5) Ae))) (λC' s0 H0 ex=>B2 (i:=0) KO rfl (.inl rfl)) (λ_ _ _ _=>Eh) (λC' s0 H0 ex=>EV hu (Ag 1) (Ag 0) (Ag 0) ⟨rfl,rfl,rfl,rfl⟩)) (Lz (Ar (Ag 0)) (Ag 6) set_list)))))
   (Ak (AH (EV hu (Ag 3) (C0 (Ag 0) T.cl mL GL BZ bL (Aa (Ag 1) Ae)) (Ag 1) ⟨rfl,rfl,rfl,rfl⟩))))))),?_⟩
  refine λd GK=>?_;refine ⟨_,rfl,by show 1<=sizeLine;omega,λlw CO=>?_⟩;have BV:H lw=none:=by
   by_cases z:lw=d
   ·rw [z,Ad] at CO;cases CO
   ·rw [Ac z] at CO;exact CO
  have qP:d≠lw:=λz=>by rw [<- z,Ad] at CO;cases CO
  obtain ⟨_,L0⟩:=A0.lead;have free:∀ {b:Addr},H b=none->b≠N.p/\b≠N.s/\b≠N.i/\b≠N.l/\b≠N.v/\b≠N.g:=λ{b} h=>⟨be (Ab A0.ins h),be (Ab A0.sorts h),be (Ab A0.inner h),be (Ab L0 h),be (Ab A0.levels h),be (Ab A0.aaj h)⟩;obtain ⟨w1,w2,w3,w4,w5,w6⟩:=free BV;obtain ⟨d1,d2,d3,d4,d5,d6⟩:=free GK;have F6:∀ {b:Addr},H b=none->b∉ls:=λ{b} h z=>by
   obtain ⟨k,hk,ek⟩:=na.mp z;have:=A0.chs k b (by rw [ap hk,ek]);rw [h] at this;cases this
  have Fw:Ai H (upd (upd H d (.dK [])) lw (.lst [.int ((e:Nat):Int)])):=Ai.put (Ai.new GK) BV;refine ⟨CI C N s Al ls ds e l d lw H,
   ⟨_,s,Al,ls,[],[e],none,rfl,rfl,A0.same Fw,Cp.start o0,(λj x h=>by cases h),by rw [Ac qP,Ad];rfl,Ad,by simp,F6 BV,F6 GK,BU.of_same Fw,λb hb=>.inl hb⟩,?_⟩
  rintro m σ H2 ⟨s1,A1,Ho,ks,W,x5,rfl,rfl,A2,cp,iC,hd2,Fx,Tn,nw,nd,f2,nb⟩;refine ⟨_,rfl,!(lsN W).isEmpty,.inl ⟨_,AI.of Fx,rfl⟩,?_⟩;have Ahd:=cp.few;have n1:s1.n=s.n+ks.length:=cp.n;rcases Tu W with rfl | ⟨W',y,rfl⟩
  ·refine Bx ?_;have hv:∀ p:Nat,∃ v:Nat,(Bw (FV s.n ks) (Sum.inl ((p:Nat):Int):Key)).getD (.int ((p:Nat):Int))=.int ((v:Nat):Int)/\(p∈ks->∃ j,j < ks.length/\v=s.n+j/\ks[j]?=some p)/\(p∉ks->v=p):=λp=>by
    rcases Kf (ks:=ks) (n:=s.n) (y:=p) with ⟨a,b⟩ | ⟨a,j,b,z,zz⟩
    ·exact ⟨p,by rw [b];rfl,λz=>absurd z a,λ_=>rfl⟩
    ·exact ⟨s.n+j,by rw [z];rfl,λ_=>⟨j,b,rfl,zz⟩,λz=>absurd a z⟩
   obtain ⟨g,hg⟩:=Classical.axiomOfChoice hv;have gA:∀ {y},(y=e\/∃ x∈ks,y∈s.ch x)->y < s.n->A1 (g (s.rp y)):=λ{y} hy yn=>by
    rcases cp.part hE hy with z | z
    ·obtain ⟨j,hj,ej,_⟩:=(hg (s.rp y)).2.1 z;rw [ej];exact (cp.new j hj).1
    ·have nk:s.rp y∉ks:=λq=>(NN _ (cp.sub _ q)).2.1 ((o0.li y yn).mpr z);rw [(hg (s.rp y)).2.2 nk];exact (cp.le.li _ ((o0.li y yn).mpr z)).1
   refine ⟨_,rfl,.inr (.inr (.inl ⟨rfl,.inl ⟨_,hd2⟩⟩)),d,FV s.n ks,rfl,rfl,hd2,λvw YD=>⟨vw,d,FV s.n ks,rfl,Ad,by rw [Ac (Ab hd2 YD)];exact hd2,λo=>?_⟩⟩;have iD:Ai H2 (upd H2 vw (GJ vw d)):=Ai.new YD;refine Gj (o:=o) (d:=d) (kvs:=FV s.n ks) (CJ C N s s1 Al A1 ls ks g e l d lw o H)
    ⟨s1,Ho,_,_,rfl,(A2.same iD).off d1 d2 d3 d4 d5 d6 nd,cp.ok,cp.le,rfl,rfl,rfl,rfl,rfl,(λj x h=>absurd h (Os _)),Ad,nd,λb u e b1 b2 b3 b4 b5=>by rw [Ac (Ab e GK)];exact iD _ _ (f2 b u e b1 b2 b3 b4 b5),nb⟩ (λi σ H3 _ z=>?_) (λi p σ H3 tT hp z hT=>?_) (fun σ H3 z=>?_)
   ·obtain ⟨_,_,_,_,_,_,_,_,_,_,_,_,_,_,z,_⟩:=z;exact z
   ·obtain ⟨s2,IV,x5,x6,rfl,A3,o3,YE,uS,WB,aY,kE,qQ,LR,MA,nd3,f3,qR⟩:=z;obtain ⟨x,hx,rfl⟩:=aX hp;have hi:i < ks.length:=(cr.mp hx).1;have xk:x∈ks:=ci hx;have xn:x < s.n:=(NN x (cp.sub x xk)).1;have xch:s2.ch x=s.ch x:=YE.ch x xn;have aZ:Ai H3 (upd H3 tT (.tup [.int ((x:Nat):Int),.int (((s.n+i:Nat):Nat):Int)])):=Ai.new hT;refine ⟨tT,_,rfl,BL.of Ad,rfl,_,_,rfl,_,_,rfl,rfl,?_⟩;have A4:=A3.same aZ;have hd4:=aZ _ _ MA;have f4:BU N H _:=f3.trans (BU.of_same aZ);have dT:∀ b,H3 b=none->b≠tT->True:=λ_ _ _=>trivial;refine ⟨_,rfl,N.p,N.dx,_,rfl,A4.ins,rfl,_,rfl,N,s2,IV,x,rfl,A4,(),λc hc=>o3.ch x () c hc,o3.ar x (),λli H6 A6 FC h6 NK=>?_⟩;have dli:d≠li:=Ab hd4 FC;have b7:H6 d=some (.frz o (.dK (FV s.n ks))):=(by rw [NK d d4 dli];exact hd4);have ar3:=o3.ar x ();refine ⟨li,rfl,⟨_,AI.of h6⟩,Wz (g:=g) h6 (.inr ⟨o,b7⟩) (by rw [ba];omega) (λp _=>(hg p).1) rfl ?_⟩;refine λlj Jx=>?_;have b8:Ai H6 (upd H6 lj (.lst (lsN (((s2.ch x).map s2.rp).map g)))):=Ai.new Jx;have A7:=A6.same b8;obtain ⟨_,L6⟩:=A6.lead;have e7:(upd H6 lj (.lst (lsN (((s2.ch x).map s2.rp).map g)))) lj=some (.lst (lsN (((s2.ch x).map s2.rp).map g))):=Ad;have A8:=A7.setC (i:=s.n+i) e7 (be (Ab A6.sorts Jx)) (be (Ab A6.inner Jx)) (be (Ab L6 Jx)) (be (Ab A6.levels Jx));refine ⟨_,rfl,N.p,C,N.dx,_,_,rfl,A7.ins,T.cl,T.nI,rfl,_,rfl,N.i,_,_,s.n+i,rfl,rfl,A7.inner,FQ (by rw [ba,A7.len];omega),?_⟩;have es:(IV.map V.ref).set (s.n+i) (V.ref lj)=(IV.set (s.n+i) lj).map V.ref:=(by rw [List.map_set]);rw [es];obtain ⟨nA,nl,nr⟩:=cp.new i hi;have hcA:∀ c∈((s2.ch x).map s2.rp).map g,A1 c:=λc hc=>by
     obtain ⟨p,LS,rfl⟩:=ln.mp hc;obtain ⟨y,hy,rfl⟩:=ln.mp LS;rw [xch] at hy;have yn:=o0.ch x xn y hy;rw [WB,(cp.rpo y yn).1];exact gA (.inr ⟨x,xk,hy⟩) yn
    have o8:=o3.setC (i:=s.n+i) nA (by rw [aY,qQ];exact nl) hcA (by rw [ba,ba];exact ar3);refine ⟨_,_,_,_,rfl,A8,o8,YE.setC (Nat.le_add_right _ _),uS,WB,aY,kE,qQ,λj x' hj IU=>?_,?_,λz=>?_,λb u e b1 b2 b3 b4 b5=>?_,λb hb=>?_⟩
    ·show (if s.n+j=s.n+i then _ else s2.ch (s.n+j))=_
     by_cases ej:j=i
     ·subst ej;rw [if_pos rfl];rw [hx] at IU;cases IU;rw [List.map_map,xch];refine vc λc hc=>?_;show g (s2.rp c)=g (s.rp c);rw [WB,(cp.rpo c (o0.ch x xn c hc)).1]
     ·rw [if_neg ()];exact LR j x' () IU
    ·rw [Ac d3,Ac (Ab b7 Jx)];exact b7
    ·rcases List.mem_or_eq_of_mem_set z with z | z
     ·exact nd3 z
     ·rw [<- z,b7] at Jx;cases Jx
    ·have h5:=f4 b u e b1 b2 b3 b4 b5;have h6:H6 b=some u:=(by rw [NK b b4 (Ab h5 FC)];exact h5);rw [Ac b3,Ac (Ab h6 Jx)];exact h6
    ·rcases List.mem_or_eq_of_mem_set hb with z | rfl
     ·exact qR b z
     ·refine .inr (OA λz=>?_);obtain ⟨u,uT⟩:=Option.ne_none_iff_exists'.mp z;obtain ⟨q1,q2,q3,q4,q5⟩:b≠N.p/\b≠N.s/\b≠N.i/\b≠N.l/\b≠N.v:=⟨be (Ab A6.ins Jx),be (Ab A6.sorts Jx),be (Ab A6.inner Jx),be (Ab L6 Jx),be (Ab A6.levels Jx)⟩;have h5:=f4 b u uT q1 q2 q3 q4 q5;have h6:H6 b=some u:=(by rw [NK b q4 (Ab h5 FC)];exact h5);rw [Jx] at h6;cases h6
   ·obtain ⟨s2,IV,x5,x6,rfl,A3,o3,YE,uS,WB,aY,kE,qQ,LR,MA,nd3,f3,qR⟩:=z;rw [Pa] at LR;refine .inl ?_;refine ⟨_,rfl,d,rfl,.inl ⟨_,.inr ⟨o,MA⟩⟩,_,rfl,N.p,N.dx,_,rfl,A3.ins,rfl,_,rfl,N,s2,IV,e,rfl,A3,(),λH4 A4 e4=>?_⟩;refine ⟨_,rfl,_,.inl ⟨_,Sum.inl ((s2.rp e:Nat):Int),.inr ⟨o,by rw [e4 d d4];exact MA⟩,rfl,rfl⟩,?_⟩;have re:s2.rp e=s.rp e:=(by rw [WB];exact (cp.rpo e qO).1);have n2:s2.n=s.n+ks.length:=uS.trans n1;have art:Hm s2:=by
     refine ⟨λi hi=>?_,λi hi=>?_⟩
     all_goals by_cases h:i < s.n
     ·rw [YE.tg i h];exact U'.tg i h
     ·obtain ⟨x,hx⟩:∃ x,ks[i - s.n]?=some x:=⟨_,ap ()⟩;have ei:s.n+(i - s.n)=i:=(by omega);have:=iC _ _ hx;rw [ei,<- kE] at this;rw [this];exact U'.tg x (NN x (cp.sub x (ci hx))).1
     ·rw [YE.tg i h,YE.ch i h];exact U'.ar i h
     ·obtain ⟨x,hx⟩:∃ x,ks[i - s.n]?=some x:=⟨_,ap ()⟩;have ei:s.n+(i - s.n)=i:=(by omega);have h1:=iC _ _ hx;have h2:=LR _ _ () hx;rw [ei,<- kE] at h1;rw [ei] at h2;rw [h1,h2,ba];exact U'.ar x (NN x (cp.sub x (ci hx))).1
    have f4:BU N H H4:=λb u e b1 b2 b3 b4 b5=>(by rw [e4 b b4];exact f3 b u e b1 b2 b3 b4 b5);rw [re];have lf3:Lf s Al s2 A1:=Lf.still o0 YE (λi hi=>by rw [WB,aY];exact cp.rpo i hi) (λi h1 h2=>by
     obtain ⟨a,b,c⟩:=cp.new (i - s.n) ();have ei:s.n+(i - s.n)=i:=(by omega);rw [ei] at a b c;exact ⟨a,by rw [WB,aY,c,qQ];exact b⟩) o3.lt
    have cpy:=fun σ τ (h1:BA s σ) (h2:BA s τ) ha=>BA.copy (ks:=ks) (g:=g) o0 YE n2 (λi hi=>by rw [WB];exact (cp.rpo i hi).1) (λj x hx=>by
     have hj:=(cr.mp hx).1;obtain ⟨z1,_,z3⟩:=NN x (cp.sub x (ci hx));exact ⟨z1,z3,by rw [WB];exact (cp.new j hj).2.2,by rw [kE];exact iC j x hx,LR j x hj hx⟩) (λx hx c hc=>by
     rcases cp.part hE (.inr ⟨x,hx,hc⟩) with z | z
     ·obtain ⟨j,_,ej,ekj⟩:=(hg (s.rp c)).2.1 z;exact .inl ⟨j,ekj,ej⟩
     ·have cn:=o0.lt c z;have nk:s.rp c∉ks:=λq=>(NN _ (cp.sub _ q)).2.1 ((o0.li c cn).mpr z);exact .inr ⟨z,(hg (s.rp c)).2.2 nk⟩) h1 h2 ha
    rcases Kf (ks:=ks) (n:=s.n) (y:=s.rp e) with ⟨ka,kb⟩ | ⟨ka,j,kj,kd,kk⟩
    ·rw [kb];have eA0:Al e:=(cp.part hE (.inl rfl)).resolve_left ka;exact q s2 IV A1 e H4 A4 o3 art lf3 (cp.le.li e eA0).1 () (fun σ τ h1 h2 ha=>by
      obtain ⟨σ1,c1,c2,_⟩:=cpy σ τ h1 h2 ha;exact ⟨σ1,c1,c2,by rw [<- c1 e qO];exact (ha e eA0).symm⟩) f4 qR
    ·rw [kd];exact q s2 IV A1 (s.n+j) H4 A4 o3 art lf3 (cp.new j kj).1 () (fun σ τ h1 h2 ha=>by
      obtain ⟨σ1,c1,c2,c3⟩:=cpy σ τ h1 h2 ha;exact ⟨σ1,c1,c2,by rw [c3 j _ kk];exact (h2 e qO).1.symm⟩) f4 qR
  ·rw [TD] at *;have yn:y < s.n:=by
    rcases cp.wt y (by simp) with z | ⟨x,hx,z⟩
    ·rw [z];exact qO
    ·exact o0.ch x (NN x (cp.sub x hx)).1 y z
   have yn1:y < s1.n:=(by omega);obtain ⟨ry,rlv⟩:=cp.rpo y yn;have rn:s.rp y < s.n:=(o0.rp y yn).1;refine Cm (by simp [lsN]) ⟨_,fun σ' H' z=>z,?_⟩;have eW:lsN (W'++[y])=lsN W'++[V.int ((y:Nat):Int)]:=Cq _ _;rw [eW] at Fx;refine ⟨_,rfl,N.p,N.dx,_,rfl,A2.ins,rfl,_,rfl,.inl ⟨rfl,_,AI.of Fx⟩,lw,_,V.int ((y:Nat):Int),rfl,rfl,Fx,by simp,?_⟩;rw [Q1];have A3:Bv C N (upd H2 lw (.lst (lsN W'))) s1 Ho:=A2.off w1 w2 w3 w4 w5 w6 nw;refine ⟨N,_,Ho,y,rfl,A3,yn1,λH4 A4 e4=>?_⟩;have UZ:H4 lw=some (.lst (lsN W')):=(by rw [e4 lw w4,Ad]);have WC:H4 d=some (.dK (FV s.n ks)):=(by rw [e4 d d4,Ac qP];exact hd2);have f4:BU N H H4:=λb o e b1 b2 b3 b4 b5=>(by rw [e4 b b4,Ac (Ab e BV)];exact f2 b o e b1 b2 b3 b4 b5);have lW:(W'++[y]).length=W'.length+1:=(by simp);rw [lW] at Tn;have lvy:s1.lv (s1.rp y)=s.lv (s.rp y):=(by rw [ry];exact (cp.rpo _ rn).2);have kF:s1.rp y < s1.n:=(by rw [ry];omega);refine ⟨_,rfl,N.p,C,N.dx,_,_,rfl,A4.ins,T.cl,T.nV,rfl,_,rfl,N.v,_,_,_,rfl,rfl,AI.of A4.levels,Ao (CL kF),_,rfl,?_⟩;refine ⟨_,_,rfl,rfl,_,rfl,?_⟩;rw [lvy];by_cases c:l < s.lv (s.rp y)
   ·refine Cm (by simp;omega) ?_;have Tx:Cr H4 d (.int ((s1.rp y:Nat):Int)) (Bw (FV s.n ks) (Sum.inl ((s1.rp y:Nat):Int):Key)):=.inl ⟨FV s.n ks,Sum.inl ((s1.rp y:Nat):Int),.inl WC,rfl,rfl⟩;refine ⟨_,rfl,_,rfl,d,_,rfl,Tx,_,rfl,?_⟩;rcases Kf (ks:=ks) (n:=s.n) (y:=s1.rp y) with ⟨ka,kb⟩ | ⟨ka,j,kb,kd,_⟩
    ·rw [kb];refine CQ ?_;rw [ry] at ka;refine ⟨_,rfl,N.p,N.dx,_,rfl,A4.ins,rfl,_,rfl,N.p,C,N.dx,_,_,rfl,A4.ins,T.cl,T.nS,rfl,_,rfl,N.s,_,_,_,rfl,rfl,AI.of A4.sorts,Ao (D6 kF),by simp,λli FC=>?_⟩;obtain ⟨_,L4⟩:=A4.lead;have YF:Ai H4 (upd H4 li (.lst [])):=Ai.new FC;refine ⟨N,s1,Ho,s1.tg (s1.rp y),[],li,rfl,A4.same YF,Ad,be (Ab A4.sorts FC),be (Ab A4.inner FC),be (Ab L4 FC),be (Ab A4.levels FC),(),λH6 A6 NK=>?_⟩;have kG:H6 d=some (.dK (FV s.n ks)):=(by rw [NK d d2 d3 d4 d5];exact YF _ _ WC);have kH:H6 lw=some (.lst (lsN W')):=(by rw [NK lw w2 w3 w4 w5];exact YF _ _ UZ);refine ⟨_,rfl,_,rfl,d,_,rfl,.inl ⟨FV s.n ks,Sum.inl ((s1.rp y:Nat):Int),kG,rfl,by rw [Pa];omega,rfl⟩,?_⟩;have ep:putK (FV s.n ks) (Sum.inl ((s1.rp y:Nat):Int):Key) (V.int ((s1.n:Nat):Int))=FV s.n (ks++[s.rp y]):=by
      rw [DO _ kb,Wy,ry,n1]
     rw [ep];have ndl:d∉Ho++[li]:=λz=>by
      rcases bn.mp z with z | z
      ·exact nd z
      ·rw [<- al.mp z,WC] at FC;cases FC
     have nwl:lw∉Ho++[li]:=λz=>by
      rcases bn.mp z with z | z
      ·exact nw z
      ·rw [<- al.mp z,UZ] at FC;cases FC
     have A7:Bv C N (upd H6 d (.dK (FV s.n (ks++[s.rp y])))) _ _:=A6.off d1 d2 d3 d4 d5 d6 ndl;have uU:(upd H6 d (.dK (FV s.n (ks++[s.rp y])))) lw=some (.lst (lsN W')):=(by rw [Ac (be qP)];exact kH);have h7d:(upd H6 d (.dK (FV s.n (ks++[s.rp y])))) d=some (.dK (FV s.n (ks++[s.rp y]))):=Ad;have f7:BU N H (upd H6 d (.dK (FV s.n (ks++[s.rp y])))):=λb u e b1 b2 b3 b4 b5=>by
      rw [Ac (Ab e GK),NK b b2 b3 b4 b5];exact YF _ _ (f4 b u e b1 b2 b3 b4 b5)
     generalize upd H6 d (.dK (FV s.n (ks++[s.rp y])))=H7 at A7 uU h7d f7 ⊢;obtain ⟨l1,CB⟩:∃ l1,Ho[s1.rp y]?=some l1:=⟨_,ap (by rw [A4.len];exact kF)⟩;have kI:(Ho++[li])[s1.rp y]?=some l1:=(by rw [GE (by rw [A4.len];exact kF)];exact CB);have ech:(s1.add (s1.tg (s1.rp y)) []).ch (s1.rp y)=s.ch (s.rp y):=by
      show (if s1.rp y=s1.n then [] else s1.ch (s1.rp y))=_
      rw [if_neg (dL kF),ry];exact cp.le.ch _ rn
     have ME:=A7.chs _ _ kI;rw [ech] at ME;have ar:=o0.ar _ rn;have cg:=cp.go (t:=s1.tg (s1.rp y)) o0 hE c ka;have few:=cg.few;rw [ca,OC] at few;refine ⟨_,rfl,.inl ⟨rfl,_,AI.of uU⟩,_,rfl,N.p,C,N.dx,_,_,rfl,A7.ins,T.cl,T.nI,rfl,_,rfl,N.i,_,_,_,rfl,rfl,AI.of A7.inner,Ao (v:=V.ref l1) (by rw [jp,kI];rfl),lw,l1,_,_,rfl,rfl,uU,ME,by simp only [lsN,ba];omega,?_⟩;rw [<- Cq];refine ⟨_,?_,_,_,_,ks++[s.rp y],W'++s.ch (s.rp y),_,rfl,rfl,A7.off w1 w2 w3 w4 w5 w6 nwl,cg,λj x hj=>?_,by rw [Ac qP];exact h7d,Ad,?_,nwl,ndl,(λb u e b1 b2 b3 b4 b5=>by rw [Ac (Ab e BV)];exact f7 b u e b1 b2 b3 b4 b5),λb hb=>?_⟩
     ·rw [lW,ca,ca,OC];omega
     ·show (if s.n+j=s1.n then s1.tg (s1.rp y) else s1.tg (s.n+j))=s.tg x
      by_cases h:j < ks.length
      ·rw [GE h] at hj;rw [if_neg ()];exact iC j x hj
      ·rw [Gc ()] at hj;have ej:j=ks.length:=by
        have:=(cr.mp hj).1;simp at this;omega
       subst ej;rw [Nat.sub_self] at hj;cases hj;rw [if_pos n1.symm,ry];exact cp.le.tg _ rn
     ·rw [ca,ca,OC];omega
     ·rcases bn.mp hb with z | z
      ·exact nb b z
      ·rw [al.mp z];refine .inr (OA λz=>?_);obtain ⟨u,uT⟩:=Option.ne_none_iff_exists'.mp z;have:=f4 li u uT (be (Ab A4.ins FC)) (be (Ab A4.sorts FC)) (be (Ab A4.inner FC)) (be (Ab L4 FC)) (be (Ab A4.levels FC));rw [FC] at this;cases this
    ·rw [kd];refine Bx ?_;rw [ry] at ka;exact ⟨_,by rw [lW];omega,s1,A1,Ho,ks,W',_,rfl,rfl,A4,cp.skip (.inr ka),iC,WC,UZ,(),nw,nd,f4,nb⟩
   ·refine BY (by simp;omega) ?_;refine BY (by simp) ?_;exact ⟨_,by rw [lW];omega,s1,A1,Ho,ks,W',_,rfl,rfl,A4,cp.skip (.inl ()),iC,WC,UZ,(),nw,nd,f4,nb⟩
end
end K
namespace PySem
open PySem.Spec PyProof.Rows
section
variable {prog:Program}{w:World}{A:Around}{R:Result->Shared->Prop}{I:Addr}{fp wr:List Addr}{n:Nat}{P:Nat->Value->Prop}{St:Nat->Heap->Prop}
theorem QK (W:Walks prog w A.in1 I fp wr n P St)(hc:CmpOf prog w A.in1 .Gt P bt)(hf:S∉fp)(k:Nat):∀ (j:Nat) (s:Shared) (old:Array Value) (c:Nat),n - j=k->j<=n->St j s.heap ->
  (j=0/\old=#[]\/∃ i v,j=i+1/\P (argBest bt i) v/\old=#[v,v])->s.heap.get? S=some ⟨.type "list",none,.seq old c,#[]⟩ ->
  (∀ v h tk,(n=0/\v=d\/∃ i,n=i+1/\P (argBest bt i) v)->(∀ b o,b∉wr->b≠S->s.heap.get? b=some o->h.get? b=some o)->R (.ok (.ret v)) { s with heap:=h,toks:=tk }) ->
  codeAny (model prog w) A (.builtin "max.loop" ⟨[.ref I,.none,.ref S],[(x,d)]⟩) R s:=by
 have nm:(toString "max"++toString ".loop":String)="max.loop":=by decide
 have sw:S∉wr:=λz=>hf (W.sub _ z)
 induction k with
 | zero =>
  intro j s old c hk hj st ho hS q;obtain rfl:j=n:=by clear ho q;omega
  refine codeAny_builtin F.entry_max_loop ?_;rw [PM F.plain_max_loop _];refine aa (Ch hS rfl (aa (wpAny_tryCatch (W.done s _ _ st λh tk kp=>?_))));have Lv:=kp S _ sw hS;rcases ho with ⟨rfl,rfl⟩ | ⟨i,v,rfl,pv,rfl⟩
  ·refine aa (wpAny_rule ?_);exact bv (q d h tk (.inl ⟨rfl,rfl⟩) λb o hb _ e=>kp b o hb e)
  ·refine aa (IM Lv rfl (aa (wpAny_letGo (bv (q v _ tk (.inr ⟨i,rfl,pv⟩) λb o hb ne e=>?_)))));exact (pi _ _ (be ne)).trans (kp b o hb e)
 | succ k ih =>
  intro j s old c hk hj st ho hS q;have b1:n - (j+1)=k:=by clear ho q;omega
  have b2:j+1<=n:=by clear ho q;omega
  refine codeAny_builtin F.entry_max_loop ?_;rw [PM F.plain_max_loop _];refine aa (Ch hS rfl (aa (wpAny_tryCatch (W.item j s _ _ b2 st λv h tk pv G5 kp=>?_))));have Lv:=kp S _ sw hS;have on:∀ {s':Shared} {o' c'},s'.heap.get? S=some ⟨.type "list",none,.seq o' c',#[]⟩->St (j+1) s'.heap->(∃ v,P (argBest bt j) v/\o'=#[v,v])->(∀ b o,b∉wr->b≠S->s.heap.get? b=some o->s'.heap.get? b=some o) ->
    (s'.gens=s.gens/\s'.drawn=s.drawn/\s'.os=s.os)->codeAny (model prog w) A (.builtin "max.loop" ⟨[.ref I,.none,.ref S],[(x,d)]⟩) R s':=λ{s' o' c'} h1 h2 h3 h4 h5=>by
   obtain ⟨v',pv',rfl⟩:=h3;obtain ⟨hp,gs,dr,pW,os⟩:=s';obtain ⟨rfl,rfl,rfl⟩:=h5;exact ih (j+1) _ _ _ b1 b2 h2 (.inr ⟨j,v',rfl,pv',rfl⟩) h1 λu sV uV hu k''=>q u sV uV hu λb o hb ne e=>k'' b o hb ne (h4 b o hb ne e)
  rcases ho with ⟨rfl,rfl⟩ | ⟨i,vb,rfl,pb,rfl⟩
  ·show wpAny _ A.in1 (updateSeq S (λ_=>#[v,v]) >>= _) _ _ _;refine aa (IM Lv rfl ?_);rw [nm];refine bv ⟨KF F.plain_max_loop _,on (wS _ Lv rfl) (W.frame _ _ _ G5 λb hb o e=>?_) ⟨v,pv,rfl⟩ (λb o hb ne e=>?_) ⟨rfl,rfl,rfl⟩⟩
   ·exact (pi _ _ (λz:S=b=>hf (by rw [z];exact hb))).trans e
   ·exact (pi _ _ (be ne)).trans (kp b o hb e)
  ·show wpAny _ A.in1 (tryCatch (holding [v,v] (richCompare .Gt v vb >>= _)) _ >>= _) _ _ _;refine aa (wpAny_tryCatch (Go (aa (hc (i+1) (argBest bt i) v vb _ _ _ pv pb (aa (Go (Mo (aa (wpAny_letGo (bv ?_))))))))));cases hb:bt (i+1) (argBest bt i) with
   | true =>
    rw [if_pos rfl];refine aa (IM Lv rfl (aa (wpAny_letGo ?_)));rw [nm];refine bv ⟨KF F.plain_max_loop _,on (wS _ Lv rfl) (W.frame _ _ _ G5 λb hb o e=>?_) ⟨v,by simp only [argBest,hb,if_true];exact pv,rfl⟩ (λb o hb ne e=>?_) ⟨rfl,rfl,rfl⟩⟩
    ·exact (pi _ _ (λz:S=b=>hf (by rw [z];exact hb))).trans e
    ·exact (pi _ _ (be ne)).trans (kp b o hb e)
   | false =>
    rw [if_neg ⟨⟩];refine aa (wpAny_letGo ?_);rw [nm];exact bv ⟨KF F.plain_max_loop _,on Lv G5 ⟨vb,by simp only [argBest,hb,Tl,if_false];exact pb,rfl⟩ (λb o hb ne e=>kp b o hb e) ⟨rfl,rfl,rfl⟩⟩
end
section
variable {prog:Program}{w:World}{A:Around}{E:Value->Shared->Prop}{s:Shared}
theorem Kg {id:String}{b:Builtin}{args:List Value}{kw:List (Str × Value)}{Q:Value->Shared->Prop}(hk:builtinKind id=none)(hp:plainId id=true)(hb:entryFor table id=some b)(ha:argsOk id ⟨args,kw⟩)
  (h:wpAny (model prog w) A.in1 (b ⟨args,kw⟩) (λfin s'=>match fin with
   | .done f=>(match (Except.ok f:Result) with | .ok (.ret v)=>Q v s' | .ok _=>False | .error e=>E e s')
   | .again c=>c.quiet=true/\codeAny (model prog w) A c (λr s'=>match r with | .ok (.ret v)=>Q v s' | .ok _=>False | .error e=>E e s') s') E s):wpAny (model prog w) A (call (.builtin id) args kw) Q E s:=by
 refine wpAny_call (codeAny_call_builtin hp hb ?_);simp only [checkBuiltinCall,hk];cases z:Manifest.signature? id with
 | none=>exact bv h
 | some g =>
  simp only [argsOk,z] at ha;have e:Bind.checkArgs id g ⟨args,kw⟩=pure Unit.unit:=ha;show wpAny _ A.in1 (Bind.checkArgs id g ⟨args,kw⟩) _ _ s;rw [e];exact bv h
theorem QL (a d:Value):argsOk "max" ⟨[a],[("default",d)]⟩:=by unfold argsOk;kernel_rfl
theorem QM {l:Addr}{its:Array Value}{ns:Nat->Int}{d:Value}{Q:Value->Shared->Prop}(hh:A.handled=none)(hl:s.heap.IsList l its)(hi:∀ (i:Nat) (v:Value),its[i]?=some v->∃ t,v=Value.int (ns i) t)
  (q:∀ (v:Value) (h:Heap) (tk:Nat),(its.size=0/\v=d\/∃ j t,j < its.size/\v=Value.int (ns j) t/\∀ i,i < its.size->ns i<=ns j)->(∀ b o,s.heap.get? b=some o->h.get? b=some o)->Q v { s with heap:=h,toks:=tk }) :
  wpAny (model prog w) A (call (.builtin "max") [.ref l] [("default",d)]) Q E s:=by
 have nm:(toString "max"++toString ".loop":String)="max.loop":=by decide
 refine Kg F.kind_max F.plain_max F.entry_max (QL _ _) ?_;refine aa (wpAny_of_eq (show Builtin.Builtins.bindParams "max" ["key","default"] 0 ⟨[],[("default",d)]⟩=pure [none,some d] from rfl) ?_);refine aa (bv (aa (wpAny_pyIter_list hl (aa (NE ?_)))));rw [nm];obtain ⟨o,e,h1,h2⟩:=id hl;have CV:=ii e;have W:=Walks.list (prog:=prog) (w:=w) (A:=A.in1) hh s.heap.objs.size l (dL CV) its;have hs:∀ o:Obj,(s.heap.push o).objs.size=s.heap.objs.size+1:=λo=>by simp [Heap.push]
 refine bv ⟨KF F.plain_max_loop _,QK (x:="default") (d:=d) W (CmpOf.ints_gt ns hi) (λz=>?_) _ 0 _ #[] _ rfl (mi _) ⟨⟨_,ac _ (io _ rfl),rfl,rfl⟩,⟨_,ac _ (ac _ e),h1,h2⟩⟩ (.inl ⟨rfl,rfl⟩) (io _ rfl) λv h tk hv kp=>?_⟩
 ·rcases gz.mp z with z | z
  ·have z:(s.heap.push _).objs.size=s.heap.objs.size:=z;rw [hs] at z;exact Nat.succ_ne_self _ z
  ·have z:(s.heap.push _).objs.size=l:=al.mp z;rw [hs] at z;rw [<- z] at CV;exact absurd CV (Nat.not_lt.mpr (IR _))
 ·refine q v h tk ?_ λb ob eb=>kp b ob (λz=>?_) (λz=>?_) (ac _ (ac _ eb))
  ·rcases hv with z | ⟨i,ei,pv⟩
   ·exact .inl z
   ·obtain ⟨t,rfl⟩:=hi _ _ pv;obtain ⟨g1,g2⟩:=argBest_gt ns i;exact .inr ⟨_,t,(),rfl,λi' h'=>g2 i' ()⟩
  ·have:=ii eb;rw [al.mp z] at this;exact Sa _ this
  ·have h0:=ii eb;have z:b=(s.heap.push _).objs.size:=z;rw [hs] at z;rw [z] at h0;exact absurd h0 (Nat.not_lt.mpr (IR _))
end
end PySem
namespace L2
open PySem PySem.Spec PyProof.Rows
section
variable {X:Cx}
noncomputable def YG (tl:TE)(d:Int):TE:=fun σ H Q=>tl σ H λx H1=>∃ (l:Addr) (is:List Int),x=.ref l/\H1 l=some (.lst (is.map V.int))/\∀ M,(is=[]/\M=d\/M∈is/\∀ a∈is,a<=M)->Q (.int M) H1
theorem WD (hc:X.calm=true)(hg:Gl X x)(hm:X.mg x=none)(hv:bootBuiltins x=some (.builtin "max"))(ha:PE X e te)(hn:x≠"__name__":=by decide)(Ef:(x==("__debug__":Str))=false:=by decide)(he:backTo pos (starEach [e] X.env)=[(false,eval e X.env)]:=by rfl)(hk:∃ dp kp,backToKw pos (keywordEach kJ X.env)=[(some ("default":Str),do let v <- eval (.Constant (.int d) dp kp) X.env;standAt pos;pure v)]):PE X (.Call (.Name x p) [e] kJ pos) (YG te d):=by
 intro pins s σ H Q I h;refine FS (CU I hg hm hv ?_ hn Ef);obtain ⟨dp,kp,hk⟩:=hk;rw [he,hk];refine PyProof.Rows.callWith_builtin_kwB rfl rfl (PyProof.Rows.evalArgs_kwB rfl (OK (Bc (ha pins s σ H _ I h) λv s1 hP=>Calls.spliced_nil ?_)));obtain ⟨y,H1,I1,r1,l,is,rfl,hl,q⟩:=hP;cases r1;refine PyProof.Rows.evalAll_cons (aa (Bc (Dc (j:=dp) (pos:=kp) pins s1 σ H1 (λv H'=>v=.int d/\H'=H1) I1 ⟨rfl,rfl⟩) λu s2 hP=>aa (wpAny_standAt (bv (PyProof.Rows.evalAll_nil ?_)))));obtain ⟨z,H2,I2,r2,rfl,rfl⟩:=hP;obtain ⟨tk,rfl⟩:=r2;obtain ⟨its,rv,⟨oL,nL,e1,e2,e3,e4⟩,_⟩:=I2.list (AI.of hl);have len:=rv.length;rw [ba] at len;have at':∀ (i:Nat) (v:Value),its.toArray[i]?=some v->∃ t,v=Value.int (is.getD i 0) t:=λi v hv=>by
  have Rm:its[i]?=some v:=by simpa using hv
  have hi:i < its.length:=(cr.mp Rm).1;have hb:(is.map V.int)[i]?=some (V.int (is[i]'())):=by rw [jp,ap ()];rfl
  obtain ⟨u,hu,ru⟩:=rv.get hb;rw [Rm] at hu;cases hu;obtain ⟨t,rfl⟩:=ru;exact ⟨t,by simp [List.getD,ap (show i < is.length by omega)]⟩
 refine QM (ns:=λi=>is.getD i 0) (I2.ok.hd hc) ⟨oL,e1,e2,nL,e4⟩ at' λv h pW hv kp=>?_;have sz:its.toArray.size=is.length:=by simp;omega
 rw [sz] at hv;have gd:∀ i (hi:i < is.length),is.getD i 0=is[i]:=λi hi=>by simp [List.getD,ap hi]
 rcases hv with ⟨z,rfl⟩ | ⟨j,t,hj,rfl,Nc⟩
 ·exact ⟨.int d,_,I2.kept kp,⟨_,rfl⟩,q d (.inl ⟨List.eq_nil_of_length_eq_zero z,rfl⟩)⟩
 ·refine ⟨.int (is.getD j 0),_,I2.kept kp,⟨_,rfl⟩,q _ (.inr ⟨by rw [gd j hj];exact List.getElem_mem _,λa ha=>?_⟩)⟩;obtain ⟨i,hi,rfl⟩:=na.mp ha;have:=Nc i hi;rw [gd i hi] at this;exact this
theorem bb (hc:X.calm=true)(hg:Gl X x)(hm:X.mg x=none)(hv:bootBuiltins x=some (.builtin "max"))(ha:SE X e te)(hk:∃ dp kp,backToKw pos (keywordEach kJ X.env)=[(some ("default":Str),do let v <- eval (.Constant (.int d) dp kp) X.env;standAt pos;pure v)])(he:backTo pos (starEach [e] X.env)=[(false,eval e X.env)]:=by rfl)(hn:x≠"__name__":=by decide)(Ef:(x==("__debug__":Str))=false:=by decide):SE X (.Call (.Name x p) [e] kJ pos) (YG te d):=⟨WD hc hg hm hv ha.out hn Ef he hk⟩
end
end L2
namespace L2
open PySem
noncomputable def bc:Expr:=.Constant .none 0 ⟨0,0,0,0⟩
noncomputable def Kh:Expr->Expr
 | .Call _ es _ _=>es.getD 0 bc
 | _=>bc
end L2
namespace K
open PySem L2 KM KS KN
noncomputable def WE (s:Stmt)(j:Nat):Stmt:=match s with
 | .While _ b _ _=>b.getD j E4
 | _=>E4
noncomputable def kK (n:Nat):Stmt->Stmt
 | .If _ b _ _=>b.getD n E4
 | _=>E4
noncomputable def uW (n:Nat):Stmt->Stmt
 | .If _ _ b _=>b.getD n E4
 | _=>E4
noncomputable def uX:Stmt->Expr
 | .Expr e _=>e
 | _=>bc
section
variable {Pr:Program}{w:World}{K:W.Frag}{mg:Str->Option Value}{base:Heap}
theorem WG {C:Addr}{N:NA}{s:Ns}{ls:List Addr}{H:Hp}{l1:Addr}{cs:List Nat}{σ:St}{Fin:List V->Hp->Prop}(T:Cd K mg C)(A:Bv C N H s ls)(hl:H l1=some (.lst (lsN cs)))(hc:∀ c∈cs,c < s.n)(hlen:cs.length < 10000)
  (s0:σ=[none,some (.ref N.p)]) (fin:Fin (lsN (cs.map s.lv)) H):De (Rj K l1) H σ (Cn 0) HG (G7 (Du K) (MP K (AS 1) "levels") (AS 0)) Fin:=by
 have hb:=B8;subst s0;refine Cw (K:=K) (a:=l1) (xs:=lsN cs) (λk ys H3=>ys=lsN ((cs.take k).map s.lv)/\H3=H) ⟨by simp [lsN],rfl⟩ (λk ys H3 z=>?_) (by simp [lsN];omega) (λk ys H3 z=>?_) (λk c' ys H3 CS z=>?_)
  (λx σ H Q Q' h z=>h _ _ z) (fun σ H Q Q' h z=>h _ _ z) (fun σ H Q Q' h z=>?_) (λys H3 z=>?_)
 ·rw [z.2];exact AI.of hl
 ·rw [z.1];simp [lsN];omega
 ·obtain ⟨e,rfl⟩:=z;unfold lsN at CS;rw [jp] at CS;cases ec:cs[k]? with
  | none=>rw [ec] at CS;cases CS
  | some c =>
   rw [ec] at CS;cases CS;refine ⟨Ext.set rfl,Dy ?_⟩;refine ⟨_,rfl,N.p,C,N.dx,_,_,rfl,A.ins,T.cl,T.nV,rfl,_,rfl,N.v,_,_,_,rfl,rfl,AI.of A.levels,Ao (CL (hc c (ci ec))),?_,rfl⟩;rw [e,wP,ec,wT,Cq];rfl
 ·obtain ⟨v1,e1,p1,C1,uJ,uK,u1,e2,i1,c1,n1,k1,v2,e3,l2,xs2,i2,w2,e4,e5,sq,at',q⟩:=z;exact ⟨v1,e1,p1,C1,uJ,uK,u1,e2,i1,c1,n1,k1,v2,e3,l2,xs2,i2,w2,e4,e5,sq,at',h _ _ q⟩
 ·obtain ⟨e,rfl⟩:=z;have el:(lsN cs).length=cs.length:=by simp [lsN]
  rw [el,sK] at e;rw [e];exact fin
abbrev El (H:Hp):List (Nat × Bool)->List V->Prop:=Paired λq v=>∃ t,v=.ref t/\H t=some (.tup [.int ((q.1:Nat):Int),.bl q.2])
theorem El.mono (s:TSub H H')(h:El H ps vs):El H' ps vs:=Paired.aar h λ_ _ z=>by
 obtain ⟨t,e,z⟩:=z;exact ⟨t,e,s _ _ z⟩
theorem Tz {H:Hp}{l1:Addr}{cs:List Nat}{σ:St}{Fin:List V->Hp->Prop}(hl:H l1=some (.lst (lsN cs)))(hlen:cs.length < 10000)
  (s0:σ=[none]) (fin:∀ ys H',Ai H H'->El H' (cs.map λc=>(c,false)) ys->Fin ys H'):De (Rj K l1) H σ (Cn 0) HG (Q8 (Br (AS 0) (Br (tC (.bl false)) Di))) Fin:=by
 have hb:=B8;subst s0;refine Cw (K:=K) (a:=l1) (xs:=lsN cs) (λk ys H3=>Ai H H3/\El H3 ((cs.take k).map λc=>(c,false)) ys) ⟨Ai.refl _,.nil⟩ (λk ys H3 z=>?_) (by simp [lsN];omega) (λk ys H3 z=>?_) (λk c' ys H3 CS z=>?_)
  (λx σ H Q Q' h z=>h _ _ z) (fun σ H Q Q' h z=>h _ _ z) (fun σ H Q Q' h z=>?_) (λys H3 z=>?_)
 ·exact AI.of (z.1 _ _ hl)
 ·have:=Paired.len z.2;rw [ba,pc] at this;omega
 ·obtain ⟨sm,pr⟩:=z;unfold lsN at CS;rw [jp] at CS;cases ec:cs[k]? with
  | none=>rw [ec] at CS;cases CS
  | some c =>
   rw [ec] at CS;cases CS;refine ⟨Ext.set rfl,Dy ?_⟩;refine ⟨_,rfl,by show 2<=sizeLine;omega,λt ht=>⟨sm.trans (Ai.new ht),?_⟩⟩;rw [wP,ec,wT];exact Paired.app (El.mono (TSub.of_same (Ai.new ht)) pr) (.cons ⟨t,rfl,Ad⟩ .nil)
 ·obtain ⟨v1,e1,hz,k⟩:=z;exact ⟨v1,e1,hz,λt ht=>h _ _ (k t ht)⟩
 ·have el:(lsN cs).length=cs.length:=by simp [lsN]
  rw [el,sK] at z;exact fin ys H3 z.1 z.2
noncomputable def Em (ks:List Nat):List (Key × V):=ks.map λy=>(Sum.inl ((y:Nat):Int),.bl true)
theorem Pc:(y∉ks/\Bw (Em ks) (Sum.inl ((y:Nat):Int):Key)=none)\/(y∈ks/\Bw (Em ks) (Sum.inl ((y:Nat):Int):Key)=some (.bl true)):=by
 induction ks with
 | nil=>exact .inl ⟨by simp,rfl⟩
 | cons x r ih =>
  by_cases e:x=y
  ·subst e;exact .inr ⟨.head _,BP rfl⟩
  ·have h:¬ (Sum.inl ((x:Nat):Int):Key)=Sum.inl ((y:Nat):Int):=λz=>e (by have:=Sum.inl.inj z;omega);rcases ih with ⟨a,b⟩ | ⟨a,b⟩
   ·exact .inl ⟨by simp only [gz,not_or];exact ⟨λz=>e z.symm,a⟩,(Bo h).trans b⟩
   ·exact .inr ⟨.tail _ a,(Bo h).trans b⟩
inductive BI (C:Addr)(N:NA)(s:Ns)(Al:Nat->Prop)(ls:List Addr)(x k:Nat)(d lw:Addr)(H1:Hp)(m:Nat)(σ:St)(H2:Hp):Prop
 | mk (lv:Nat->Nat) (ks:List Nat) (W:List (Nat × Bool)) (ws:List V) (x4 x5 x6:Option V):σ=[some (.ref N.p),some (.int ((x:Nat):Int)),some (.ref d),some (.ref lw),x4,x5,x6]->m=3 * (s.n - ks.length)+W.length->Bv C N H2 { s with lv:=lv,k:=k } ls->Bk s Al lv->ks.Nodup->(∀ y∈ks,y < s.n)->H2 d=some (.dK (Em ks))->H2 lw=some (.lst ws)->El H2 W ws->(∀ p∈W,Al p.1/\(p.2=true->s.tg (s.rp p.1)≠2))->W.length<=2 * ks.length+1->BU N H1 H2->BI C N s Al ls x k d lw H1 m σ H2
noncomputable def TB (C:Addr):Sp:=λvs H Q _=>∃ (N:NA) (s:Ns) (ls:List Addr) (Al:Nat->Prop) (x:Nat),vs=[.ref N.p,.int ((x:Nat):Int)]/\Bv C N H s ls/\Ok s Al/\Hm s/\Al x/\0 < s.k/\s.n < 1000000 /\
 ∀ s' H',Bv C N H' s' ls->Down s Al s'->BU N H H'->Q .non H'
theorem QN:Am ["self","top","seen","waiting","entry","at","inner"] ["self","top"] (Ah AF):=nofun
theorem WH (F:C7 K "come_back" "Nodes.come_back" AF f fd)(T:Cd K mg C)(Jy:mg "max"=none)(GL:Au Pr w K mg base AN 1 fL NH ["self","node"] (Bz C))(bL:Binds K NH ["self","node"] [])(mL:Meth K C "leader" fL)(WA:Au Pr w K mg base AN 2 iB QJ ["self","node"] (Hn C))(kB:Binds K QJ ["self","node"] [])(kD:Meth K C "inner_leaders" iB) :
  Au Pr w K mg base AN 3 f fd ["self","top"] (TB C):=by
 refine F.okS QN (λBe A outer s0 H vs Q E hr h=>?_)
 ·obtain ⟨N,s,ls,Al,x,rfl,A0,o0,U',hx,hk,hn,q⟩:=h;have hb:=B8;have BZ:Ax 1 _:=hr.mono ⟨⟩;have hu:=DE hr;have KO:(["part","self"]:List Str).Nodup:=by decide +kernel
  have Ys:(["part"]:List Str).Nodup:=by decide +kernel
  have S1:B7 (Dt AN Pr w K mg base ["self","top","seen","waiting","entry","at","inner"] "Nodes.come_back" (Ah AF) f Be A outer s0 H E).nox (BJ (Kh (valueOf (kK 0 (WE (inDef AF 3) 3))))) [("self",s0.heap.objs.size+1)] ["part"] ["self"] [0] :=
   ⟨rfl,by decide +kernel,rfl,by decide +kernel,rfl,rfl,rfl,rfl⟩
  have S2:B7 (Dt AN Pr w K mg base ["self","top","seen","waiting","entry","at","inner"] "Nodes.come_back" (Ah AF) f Be A outer s0 H E).nox (BJ (Kh (uX (kK 2 (uW 0 (WE (inDef AF 3) 3)))))) [] ["part"] [] [] :=
   ⟨rfl,by decide +kernel,rfl,by decide +kernel,rfl,rfl,rfl,rfl⟩
  refine ⟨_,(Af (LJ Zu (Ag 0) Aj)
   (Af (Aq (i:=2) QN.nd rfl (.inl rfl) E3)
   (Af (Aq (i:=3) QN.nd rfl (.inl rfl) (B0 (Aa (Az (Aa (Ag 1) (Aa IL Ae))) Ae)))
   (Ak (Dl v0 (Cf (Ag 3)) (Af (Aq (i:=4) QN.nd rfl (.inl rfl) (EC im EQ Fa Ew (Ag 3)))
   (Af (Aq (i:=5) QN.nd rfl (.inl rfl) (C0 (Ag 0) T.cl mL GL BZ bL (Aa (eI 4) Ae)))
   (Af (Aq (i:=6) QN.nd rfl (.inl rfl) (C0 (Ag 0) T.cl kD WA hr kB (Aa (Ag 5) Ae)))
   (Ak (BE (Jk (eI 4)) (Ak (Ly (bb rfl rfl Jy PyProof.Rows.boot_max (Dx (te:=G7 (Du K) (MP K (AS 1) "levels") (AS 0)) S1 rfl (CW (Ag 6)) (λC' s0 H0 ex=>B2 (i:=0) KO rfl (.inl rfl)) (λ_ _ _ _=>Eh) (λC' s0 H0 ex=>BN (r:=Du K) AA (Ar (Ag 1)) (Ag 0) D0)) ⟨_,_,rfl⟩) (Lz (Ar (Ag 0)) (Ag 5) set_list))) (Ak (BE (Nh (w_and (AE Ol (BN (r:=Du K) AA (Ar (Ag 0)) (Ag 5) D0) (Ar (Ag 0)) (Aw _)) (w_and (AE K' (BN (r:=Du K) AA (Ar (Ag 0)) (Ag 5) D0) Ap (Aw _)) (DI (EF hu (Ag 5) (Ag 2)))))) (Af (DJ hu (Ag 2) (Ag 5) IL rfl)
   (Af (As (F4 im v6 wf B' (Ag 3) (Aa (Az (Aa (Ag 5) (Aa IL Ae))) Ae)))
   (Ak (As (F4 im GM GT Dq (Ag 3) (Aa (Dx (te:=Q8 (Br (AS 0) (Br (tC (.bl false)) Di))) S2 rfl (CW (Ag 6)) (λC' s0 H0 ex=>B2 (i:=0) Ys rfl (.inl rfl)) (λ_ _ _ _=>Eh) (λC' s0 H0 ex=>Az (Aa (Ag 0) (Aa IL Ae)))) Ae)))))) Bf)))))))))))),?_⟩
  obtain ⟨k,ek⟩:∃ k,s.k=k+1:=⟨s.k - 1,()⟩;refine ⟨_,rfl,N.p,C,N.dx,_,_,rfl,A0.ins,T.cl,T.nK,rfl,_,_,rfl,rfl,?_⟩;refine ⟨N.dx,_,A0.ins,by show 6 < 1000;decide,?_⟩;have e0:AZ "level" (.int ((s.k:Int) - 1)) (Qy N s.k)=Qy N k:=by
   rw [ek,show (((k+1:Nat):Int) - 1)=(k:Int) by omega];rfl
  rw [e0];have A1:=A0.level k;have f1:BU N H (upd H N.p (.ins C N.dx (Qy N k))):=λb o e b1 _ _ _ _=>by rw [Ac b1];exact e
  generalize upd H N.p (.ins C N.dx (Qy N k))=H1 at A1 f1 ⊢;refine λd GK=>?_;refine ⟨_,rfl,by show 2<=sizeLine;omega,λt0 ip=>⟨by show 1<=sizeLine;omega,λlw CO=>?_⟩⟩;have dt:d≠t0:=λz=>by rw [<- z,Ad] at ip;cases ip
  have uY:H1 t0=none:=by rw [Ac (be dt)] at ip;exact ip
  have tl:t0≠lw:=λz=>by rw [<- z,Ad] at CO;cases CO
  have dl:d≠lw:=λz=>by rw [<- z,Ac dt,Ad] at CO;cases CO
  have BV:H1 lw=none:=by rw [Ac (be tl),Ac (be dl)] at CO;exact CO
  obtain ⟨_,L1⟩:=A1.lead;have free:∀ {b:Addr},H1 b=none->b≠N.p/\b≠N.s/\b≠N.i/\b≠N.l/\b≠N.v/\b≠N.g:=λ{b} h=>⟨be (Ab A1.ins h),be (Ab A1.sorts h),be (Ab A1.inner h),be (Ab L1 h),be (Ab A1.levels h),be (Ab A1.aaj h)⟩;obtain ⟨w1,w2,w3,w4,w5,w6⟩:=free BV;obtain ⟨d1,d2,d3,d4,d5,d6⟩:=free GK;have F6:∀ {b:Addr},H1 b=none->b∉ls:=λ{b} h z=>by
   obtain ⟨j,hj,ej⟩:=na.mp z;have:=A1.chs j b (by rw [ap hj,ej]);rw [h] at this;cases this
  have Fw:Ai H1 (upd (upd (upd H1 d (.dK [])) t0 (.tup [.int ((x:Nat):Int),.bl false])) lw (.lst [.ref t0])):=Ai.put (Ai.put (Ai.new GK) uY) BV;refine ⟨BI C N s Al ls x k d lw H1,
   ⟨_,s.lv,[],[(x,false)],[.ref t0],none,none,none,rfl,rfl,A1.same Fw,Bk.start o0,SC,(λy hy=>by cases hy),by rw [Ac dl,Ac dt,Ad];rfl,Ad,.cons ⟨t0,rfl,by rw [Ac tl,Ad]⟩ .nil,(λp hp=>by rw [al.mp hp];exact ⟨hx,λz=>by cases z⟩),by simp,BU.of_same Fw⟩,?_⟩
  rintro m σ H2 ⟨lv,ks,W,ws,x4,x5,x6,rfl,rfl,A2,bk,knd,kn,hd2,Fx,kh,wA,Tn,f2⟩;refine ⟨_,rfl,!ws.isEmpty,.inl ⟨ws,AI.of Fx,rfl⟩,?_⟩;have few:=nodup_range knd kn;by_cases hW:W=[]
  ·subst hW;cases kh;refine Bx ?_;exact q _ H2 A2 (bk.down ek) (f1.trans f2)
  ·obtain ⟨W',⟨y,b⟩,CT,v,rfl,rfl,uM,t,rfl,ht⟩:=Paired.snoc kh hW;refine Cm (by simp) ⟨_,fun σ' H' z=>z,?_⟩;have yA:Al y:=(wA (y,b) (by simp)).1;have yn:=o0.lt y yA;obtain ⟨rn,rr⟩:=o0.rp y yn;have rA:Al (s.rp y):=(o0.li y yn).mpr yA;have lW:(W'++[(y,b)]).length=W'.length+1:=(by simp);rw [lW] at Tn;refine ⟨_,rfl,.inl ⟨rfl,_,AI.of Fx⟩,lw,_,V.ref t,rfl,rfl,Fx,by simp,?_⟩;rw [Q1];have A3:Bv C N (upd H2 lw (.lst CT)) { s with lv:=lv,k:=k } ls:=A2.off w1 w2 w3 w4 w5 w6 (F6 BV);have uN:t≠lw:=AW ht Fx (by intro z;cases z);have Wv:(upd H2 lw (.lst CT)) t=some (.tup [.int ((y:Nat):Int),.bl b]):=(by rw [Ac uN];exact ht);have Ww:(upd H2 lw (.lst CT)) lw=some (.lst CT):=Ad;have MA:(upd H2 lw (.lst CT)) d=some (.dK (Em ks)):=(by rw [Ac dl];exact hd2);have ko:El (upd H2 lw (.lst CT)) W' CT:=El.mono (TSub.put λxs z=>by rw [Fx] at z;cases z) uM;have f3:BU N H1 (upd H2 lw (.lst CT)):=λb o e b1 b2 b3 b4 b5=>(by rw [Ac (Ab e BV)];exact f2 b o e b1 b2 b3 b4 b5);generalize upd H2 lw (.lst CT)=H3 at A3 Wv Ww MA ko f3 ⊢;refine ⟨_,rfl,N.p,N.dx,_,rfl,A3.ins,rfl,_,rfl,t,_,_,_,rfl,rfl,BL.of Wv,Ao (j:=0) rfl,N,_,ls,y,rfl,A3,yn,λH4 A4 e4=>?_⟩;refine ⟨_,rfl,N.p,N.dx,_,rfl,A4.ins,rfl,_,rfl,N,_,ls,s.rp y,rfl,A4,rn,o0.ch _ rn,o0.ar _ rn,λli H5 A5 FC h5 UT=>?_⟩;have lli:li≠N.l:=λz=>by
    obtain ⟨_,L4⟩:=A4.lead;rw [<- z,FC] at L4;cases L4
   have keep:∀ b o,H3 b=some o->b≠N.l->H5 b=some o:=λb o e b4=>by
    have e':H4 b=some o:=(by rw [e4 b b4];exact e);rw [UT b b4 (Ab e' FC)];exact e'
   have tl4:t≠N.l:=λz=>by
    obtain ⟨_,L3⟩:=A3.lead;rw [<- z,Wv] at L3;cases L3
   have h5:H5 li=some (.lst (lsN ((s.ch (s.rp y)).map s.rp))):=h5;have ht5:=keep t _ Wv tl4;have iq:=keep lw _ Ww w4;have iE:=keep d _ MA d4;have ts5:TSub H3 H5:=λb xs e=>keep b _ e λz=>by
    obtain ⟨_,L3⟩:=A3.lead;rw [<- z,e] at L3;cases L3
   have iu:=El.mono ts5 ko;have f5:BU N H1 H5:=λb o e b1 b2 b3 b4 b5=>keep b o (f3 b o e b1 b2 b3 b4 b5) b4;have rch:∀ c∈(s.ch (s.rp y)).map s.rp,c < s.n:=λc hc=>by
    obtain ⟨p,hp,rfl⟩:=ln.mp hc;exact (o0.rp p (o0.ch _ rn p hp)).1
   have rar:=o0.ar _ rn;have Ahs:((s.ch (s.rp y)).map s.rp).length<=2:=(by rw [ba];exact rar);refine ⟨_,rfl,t,_,_,_,rfl,rfl,BL.of ht5,Ao (j:=1) rfl,_,rfl,?_⟩;cases b with
   | true =>
    refine CQ ?_;refine ⟨_,rfl,li,rfl,⟨_,AI.of h5⟩,WG T A5 h5 rch () rfl ?_⟩;refine λlj Jx=>?_;have b8:Ai H5 (upd H5 lj (.lst (lsN (((s.ch (s.rp y)).map s.rp).map lv)))):=Ai.new Jx;have e6:(upd H5 lj (.lst (lsN (((s.ch (s.rp y)).map s.rp).map lv)))) lj=some (.lst (((((s.ch (s.rp y)).map s.rp).map lv).map λc=>((c:Nat):Int)).map V.int)):=by
     rw [Ad];simp only [lsN,List.map_map];rfl
    refine ⟨lj,_,rfl,e6,λM hM=>?_⟩;obtain ⟨M',rfl,hM'⟩:∃ M':Nat,M=(M':Int)/\((s.ch (s.rp y)=[]/\M'=0)\/((∃ c∈s.ch (s.rp y),M'=lv (s.rp c))/\∀ c∈s.ch (s.rp y),lv (s.rp c)<=M')):=by
     rcases hM with ⟨a,b⟩ | ⟨a,b⟩
     ·exact ⟨0,b,.inl ⟨by simpa using a,rfl⟩⟩
     ·obtain ⟨z,hz,rfl⟩:=ln.mp a;obtain ⟨z',gZ,rfl⟩:=ln.mp hz;obtain ⟨c,hc,rfl⟩:=ln.mp gZ;refine ⟨lv (s.rp c),rfl,.inr ⟨⟨c,hc,rfl⟩,λc' CS=>?_⟩⟩;have:=b (lv (s.rp c'):Int) (ln.mpr ⟨_,ln.mpr ⟨_,ln.mpr ⟨c',CS,rfl⟩,rfl⟩,rfl⟩);omega
    have A6:=A5.same b8;have A7:Bv C N _ { s with lv:=D5 lv (s.rp y) M',k:=k } ls:=A6.ab6 (D5 lv (s.rp y) M');refine ⟨_,rfl,N.p,C,N.dx,_,_,rfl,A6.ins,T.cl,T.nV,rfl,_,rfl,N.v,_,_,s.rp y,rfl,rfl,A6.levels,FQ (by rw [CA];exact rn),?_⟩;rw [EY];have dv:∀ b,b≠N.v->(upd (upd H5 lj (.lst (lsN (((s.ch (s.rp y)).map s.rp).map lv)))) N.v (.lst (Cc s.n (D5 lv (s.rp y) M')))) b=(upd H5 lj (.lst (lsN (((s.ch (s.rp y)).map s.rp).map lv)))) b:=λb h=>Ac h;refine ⟨_,?_,_,ks,W',CT,_,_,_,rfl,rfl,A7,bk.put rA rr ((wA (y,true) (by simp)).2 rfl) hM',knd,kn,(dv d d5).trans (b8 _ _ iE),(dv lw w5).trans (b8 _ _ iq),El.mono (λb xs e=>?_) iu,(λp hp=>wA p (by simp [hp])),(),λb o e b1 b2 b3 b4 b5=>(dv b b5).trans (b8 _ _ (f5 b o e b1 b2 b3 b4 b5))⟩
    ·rw [lW];omega
    ·have:=b8 _ _ e;rw [dv b (λz=>by rw [z] at this;have:=A6.levels.symm.trans this;cases this)];exact this
   | false =>
    refine Bx ?_;have aa0:∃ m',m' < 3 * (s.n - ks.length)+(W'++[(y,false)]).length/\BI C N s Al ls x k d lw H1 m' [some (.ref N.p),some (.int ((x:Nat):Int)),some (.ref d),some (.ref lw),some (.ref t),some (.int ((s.rp y:Nat):Int)),some (.ref li)] H5 :=
     ⟨_,by rw [lW];omega,lv,ks,W',CT,_,_,_,rfl,rfl,A5,bk,knd,kn,iE,iq,iu,(λp hp=>wA p (by simp [hp])),(),f5⟩
    refine ⟨_,rfl,N.p,C,N.dx,_,_,rfl,A5.ins,T.cl,T.nV,rfl,_,rfl,N.v,_,_,_,rfl,rfl,AI.of A5.levels,Ao (CL rn),_,rfl,N.p,C,N.dx,_,_,rfl,A5.ins,T.cl,T.nK,rfl,?_⟩;refine ⟨_,_,rfl,rfl,_,rfl,?_⟩;by_cases c:k < lv (s.rp y)
    ·refine Cm (by simp;omega) ?_;refine ⟨_,rfl,N.p,C,N.dx,_,_,rfl,A5.ins,T.cl,T.nS,rfl,_,rfl,N.s,_,_,_,rfl,rfl,AI.of A5.sorts,Ao (D6 rn),?_⟩;refine ⟨rfl,_,rfl,?_⟩;rw [DP (U'.tg _ rn)];by_cases e2:s.tg (s.rp y)=2
     ·refine BY (by simp [e2]) ?_;refine BY (by simp) ?_;exact aa0
     ·refine Cm (by simp [e2]) ?_;have Tx:Cr H5 d (.int ((s.rp y:Nat):Int)) (Bw (Em ks) (Sum.inl ((s.rp y:Nat):Int):Key)):=.inl ⟨Em ks,Sum.inl ((s.rp y:Nat):Int),.inl iE,rfl,rfl⟩;refine ⟨_,rfl,_,rfl,d,_,rfl,Tx,_,rfl,?_⟩;rcases Pc (ks:=ks) (y:=s.rp y) with ⟨ka,kb⟩ | ⟨ka,kb⟩
      ·rw [kb];refine CQ ?_;refine ⟨_,rfl,_,rfl,d,_,rfl,.inl ⟨Em ks,Sum.inl ((s.rp y:Nat):Int),iE,rfl,by rw [Em,ba];omega,rfl⟩,?_⟩;have ep:putK (Em ks) (Sum.inl ((s.rp y:Nat):Int):Key) (V.bl true)=Em (ks++[s.rp y]):=by
        rw [DO _ kb,Em,Em,wT];rfl
       rw [ep];have A6:Bv C N (upd H5 d (.dK (Em (ks++[s.rp y])))) _ ls:=A5.off d1 d2 d3 d4 d5 d6 (F6 GK);have b7:(upd H5 d (.dK (Em (ks++[s.rp y])))) d=some (.dK (Em (ks++[s.rp y]))):=Ad;have V6:(upd H5 d (.dK (Em (ks++[s.rp y])))) lw=some (.lst CT):=(by rw [Ac (be dl)];exact iq);have h6:(upd H5 d (.dK (Em (ks++[s.rp y])))) li=some (.lst (lsN ((s.ch (s.rp y)).map s.rp))):=(by rw [Ac (AW h5 iE (by intro z;cases z))];exact h5);have YC:El (upd H5 d (.dK (Em (ks++[s.rp y])))) W' CT:=El.mono (TSub.put λxs z=>by rw [iE] at z;cases z) iu;have f6:BU N H1 (upd H5 d (.dK (Em (ks++[s.rp y])))):=λb o e b1 b2 b3 b4 b5=>(by rw [Ac (Ab e GK)];exact f5 b o e b1 b2 b3 b4 b5);generalize upd H5 d (.dK (Em (ks++[s.rp y])))=H6 at A6 b7 V6 h6 YC f6 ⊢;have lws:=Paired.len YC;refine ⟨_,rfl,.inl ⟨rfl,_,AI.of V6⟩,_,rfl,by show 2<=sizeLine;omega,λt2 uZ=>?_⟩;have YH:Ai H6 (upd H6 t2 (.tup [.int ((s.rp y:Nat):Int),.bl true])):=Ai.new uZ;have v5:(upd H6 t2 (.tup [.int ((s.rp y:Nat):Int),.bl true])) t2=some (.tup [.int ((s.rp y:Nat):Int),.bl true]):=Ad;refine ⟨lw,_,_,rfl,rfl,YH _ _ V6,(),?_⟩;have tw2:t2≠lw:=λz=>(by rw [z,V6] at uZ;cases uZ);have iz:(upd (upd H6 t2 (.tup [.int ((s.rp y:Nat):Int),.bl true])) lw (.lst (CT++[.ref t2]))) lw=some (.lst (CT++[.ref t2])):=Ad;have QG:∀ b o,H6 b=some o->b≠lw->(upd (upd H6 t2 (.tup [.int ((s.rp y:Nat):Int),.bl true])) lw (.lst (CT++[.ref t2]))) b=some o:=λb o e h=>(by rw [Ac h];exact YH _ _ e);have A7:Bv C N (upd (upd H6 t2 (.tup [.int ((s.rp y:Nat):Int),.bl true])) lw (.lst (CT++[.ref t2]))) _ ls:=(A6.same YH).off w1 w2 w3 w4 w5 w6 (F6 BV);have pw7:El (upd (upd H6 t2 (.tup [.int ((s.rp y:Nat):Int),.bl true])) lw (.lst (CT++[.ref t2]))) (W'++[(s.rp y,true)]) (CT++[.ref t2]) :=
        Paired.app (El.mono (λb xs e=>QG b _ e λz=>by rw [z,V6] at e;cases e) YC) (.cons ⟨t2,rfl,by rw [Ac tw2];exact v5⟩ .nil)
       have h7:=QG _ _ h6 (be (Ab (show H4 lw=some (.lst CT) by rw [e4 lw w4];exact Ww) FC));have hd7:=QG _ _ b7 dl;have f7:BU N H1 _:=λb o e b1 b2 b3 b4 b5=>QG b o (f6 b o e b1 b2 b3 b4 b5) (Ab e BV);generalize upd (upd H6 t2 (.tup [.int ((s.rp y:Nat):Int),.bl true])) lw (.lst (CT++[.ref t2]))=H7 at A7 hd7 iz h7 pw7 f7;refine ⟨_,rfl,.inl ⟨rfl,_,AI.of iz⟩,_,rfl,li,rfl,⟨_,AI.of h7⟩,Tz h7 () rfl λys H8 sm8 pr8 lj Jx=>?_⟩;have TC:=sm8.trans (Ai.new (o:=.lst ys) Jx);have hw9:=TC _ _ iz;have lys:=Paired.len pr8;rw [ba] at lys;refine ⟨lw,lj,_,_,rfl,rfl,hw9,Ad,by rw [ca];simp;omega,?_⟩;have pw9:=Paired.app (El.mono (TSub.of_same TC) pw7) (El.mono (TSub.of_same (Ai.new (o:=.lst ys) Jx)) pr8);have A9:=(A7.same TC).off (o:=.lst (CT++[.ref t2]++ys)) w1 w2 w3 w4 w5 w6 (F6 BV);have QO:(ks++[s.rp y]).Nodup:=List.nodup_append.mpr ⟨knd,by simp,λa ha b hb=>by rw [al.mp hb];exact λz=>ka (by rw [<- z];exact ha)⟩;have Rp:∀ z∈ks++[s.rp y],z < s.n:=λz hz=>(bn.mp hz).elim (kn z) λh=>(by rw [al.mp h];exact rn);have bf:=nodup_range QO Rp;have lk:(ks++[s.rp y]).length=ks.length+1:=(by simp);have lW2:(W'++[(s.rp y,true)]++((s.ch (s.rp y)).map s.rp).map λc=>(c,false)).length=W'.length+1+((s.ch (s.rp y)).map s.rp).length:=(by simp;omega);rw [lk] at bf;refine ⟨_,?_,lv,ks++[s.rp y],_,_,_,_,_,rfl,rfl,A9,bk,QO,Rp,by rw [Ac dl];exact TC _ _ hd7,Ad,El.mono (TSub.put λxs z=>by rw [hw9] at z;cases z) pw9,λp hp=>?_,by rw [lW2,lk];omega,λb o e b1 b2 b3 b4 b5=>by rw [Ac (Ab e BV)];exact TC _ _ (f7 b o e b1 b2 b3 b4 b5)⟩
       ·rw [lW,lW2,lk];omega
       ·rcases bn.mp hp with z | z
        ·rcases bn.mp z with z | z
         ·exact wA p (by simp [z])
         ·rw [al.mp z];exact ⟨rA,λ_=>by rw [rr];exact e2⟩
        ·obtain ⟨c,hc,rfl⟩:=ln.mp z;obtain ⟨c',CS,rfl⟩:=ln.mp hc;have cn:=o0.ch _ rn c' CS;exact ⟨(o0.li c' cn).mpr (o0.cl _ rA rr c' CS),λz=>by cases z⟩
      ·rw [kb];exact Bx aa0
    ·refine BY (by simp;omega) ?_;refine BY (by simp) ?_;exact aa0
end
end K
namespace KN
open KM KX PySem
noncomputable def Gv.aan (g:Gv)(k:Nat):List (Str × Nat)->Gv
 | []=>g
 | (x,n)::r=>Gv.aan (g.put x (n,k)) k r
theorem Hl.aan (o:Ok s A):∀ {g:Gv},Hl s A s.k C g->(∀ p∈ks,A p.2)->Hl s A s.k C (g.aan s.k ks):=by
 induction ks with
 | nil=>exact λh _=>h
 | cons p r ih =>
  obtain ⟨x,n⟩:=p;intro g h ha;have hn:A n:=ha _ (.head _);exact ih (h.put (p:=(n,s.k)) (Ent.live o hn (o.lev hn)) (am _)) λp hp=>ha p (.tail _ hp)
theorem Ia.aan:∀ {g:Gv} {xs:List Str},Ia g xs->Ia (g.aan k ks) ((ks.map (·.1)).reverse++xs):=by
 induction ks with
 | nil=>exact λh=>h
 | cons p r ih =>
  obtain ⟨x,n⟩:=p;intro g xs h;have:=ih (h.put (x:=x) (p:=(n,k)));show Ia ((g.put x (n,k)).aan k r) _;simpa using this
theorem Ia.sub (h:Ia g xs)(q:∀ y∈ys,y∈xs):Ia g ys:=λy hy=>h y (q y hy)
noncomputable def Gu (x y:Str)(a b:Nat):List (Str × Nat):=if x=y then [(y,b)] else [(x,a),(y,b)]
theorem Ia.two (h:Ia g xs):Ia (g.aan k (Gu x y a b)) (y::x::xs):=by
 unfold Gu;by_cases e:x=y
 ·rw [if_pos e];exact (Ia.aan (k:=k) (ks:=[(y,b)]) h).sub λz hz=>by subst e;simpa using hz
 ·rw [if_neg e];exact (Ia.aan (k:=k) (ks:=[(x,a),(y,b)]) h).sub λz hz=>by simpa using hz
theorem Ki {x y:Str}{a b:Nat}{A:Nat->Prop}(ha:A a)(hb:A b):∀ p∈Gu x y a b,A p.2:=λp hp=>by
 unfold Gu at hp;split at hp
 ·rw [al.mp hp];exact hb
 ·rcases gz.mp hp with rfl | hp
  ·exact ha
  ·rw [al.mp hp];exact hb
theorem Kj (x y:Str)(a b:Nat):(Gu x y a b).length<=2:=by unfold Gu;split <;> simp
noncomputable def bh (p:Fe):Nat:=match p.fs with
 | none=>2 * p.e.sz
 | some _=>2 * p.e.sz - 1 - 2 * (match p.e with | .lt _ a _=>a.sz | _=>0)
noncomputable def fm (L:List Fe):Nat:=(L.map bh).sum
theorem DH (p:Fe)(L:List Fe):fm (p::L)=bh p+fm L:=by simp [fm]
theorem bj (M L:List Fe):fm (M++L)=fm M+fm L:=by simp [fm]
theorem aad (e:Ex):1<=e.sz:=by cases e <;> simp [Ex.sz] <;> omega
theorem TH (h:∀ p∈L,1<=bh p):L.length<=fm L:=by
 induction L with
 | nil=>exact am _
 | cons p r ih =>
  rw [DH,sB];have:=h p (.head _);have:=ih λp hp=>h p (.tail _ hp);omega
end KN
namespace L2
open PySem PySem.Spec PyProof.Rows KS KM KN KX
structure FA where
 p:Addr
 dx:Addr
 w:Addr
 N:NA
noncomputable def ffl (F:FA):List (Str × V):=[("nodes",.ref F.N.p),("number",.int 0),("truth",.int 1),("waiting",.ref F.w)]
noncomputable def KS (H H':Hp):Prop:=∀ b o,H b=some o->(∀ xs,o≠.lst xs)->(∀ c d f,o≠.ins c d f)->H' b=some o
theorem KS.of_same (s:Ai H H'):KS H H':=λb o e _ _=>s b o e
theorem KS.trans (a:KS H1 H2)(b:KS H2 H3):KS H1 H3:=λc o e x y=>b c o (a c o e x y) x y
theorem KS.tup {H H':Hp}(s:KS H H'):TSub H H':=λb xs e=>s b _ e (λ_=>by intro z;cases z) (λ_ _ _=>by intro z;cases z)
theorem KS.dk (s:KS H H')(e:H b=some (.dK kvs)):H' b=some (.dK kvs):=s b _ e (λ_=>by intro z;cases z) (λ_ _ _=>by intro z;cases z)
theorem KS.put (h:H w=some (.lst xs)):KS H (upd H w o):=λb u e h1 _=>by
 rw [Ac (λz:b=w=>by rw [z,h] at e;cases e;exact h1 _ rfl)];exact e
theorem KS.off (A:Bv C N H s ls)(f:BU N H H'):KS H H':=λb o e h1 h2=>by
 obtain ⟨_,L⟩:=A.lead;have q:∀ {x:Addr} {xs:List V},H x=some (.lst xs)->b≠x:=λh z=>by rw [z,h] at e;cases e;exact h1 _ rfl
 exact f b o e (λz=>by rw [z,A.ins] at e;cases e;exact h2 _ _ _ rfl) (q A.sorts) (q A.inner) (q L) (q A.levels)
noncomputable def GV (H:Hp)(d:Addr)(g:Gv)(b:Nat):Prop:=∃ kvs:List (Key × V),H d=some (.dK kvs)/\kvs.length<=b/\∀ y p,g y=some p->∃ t,Bw kvs (.inr y:Key)=some (.ref t)/\H t=some (.tup [.int ((p.1:Nat):Int),.int ((p.2:Nat):Int)])
theorem GV.mono (s:KS H H')(h:GV H d g b):GV H' d g b:=by
 obtain ⟨kvs,h1,h2,h3⟩:=h;exact ⟨kvs,s.dk h1,h2,λy p e=>let ⟨t,a,c⟩:=h3 y p e;⟨t,a,s.tup _ _ c⟩⟩
theorem GV.more (h:GV H d g b)(q:b<=b'):GV H d g b':=by
 obtain ⟨kvs,h1,h2,h3⟩:=h;exact ⟨kvs,h1,ce h2 q,h3⟩
noncomputable def bo:Option Nat->V
 | none=>.non
 | some f=>.int ((f:Nat):Int)
noncomputable def NO (H:Hp)(p:Fe)(v:V):Prop:=∃ t rt gd b,v=.ref t/\H t=some (.tup [rt,.ref gd,.int ((p.nd:Nat):Int),bo p.fs])/\BD H p.e rt/\GV H gd p.g b/\b+2 * p.e.sz<=900000
theorem NO.mono (s:KS H H')(h:NO H p v):NO H' p v:=by
 obtain ⟨t,rt,gd,b,h1,h2,h3,h4,h5⟩:=h;exact ⟨t,rt,gd,b,h1,s.tup _ _ h2,BD.mono s.tup h3,h4.mono s,h5⟩
noncomputable def Zr (s:Ns)(A:Nat->Prop)(i:Nat):Prop:=A i/\s.lv (s.rp i)<=0
theorem Zr.le (h:Zr s A i)(l:Le s A s' A'):Zr s' A' i:=⟨(l.li i h.1).1,ce (l.li i h.1).2 h.2⟩
theorem Zr.down (h:Zr s A i)(d:Down s A s'):Zr s' (Gp s' A) i:=by
 have:s'.lv (s'.rp i)<=0:=by rw [d.rp];exact ce (d.le _) h.2
 exact ⟨⟨h.1,ce this (mi _)⟩,this⟩
structure DC (C CF:Addr)(F:FA)(H:Hp)(s:Ns)(ls:List Addr)(A:Nat->Prop)(L:List Fe):Prop where
 ins:H F.p=some (.ins CF F.dx (ffl F))
 nod:Bv C F.N H s ls
 ok:Ok s A
 art:Hm s
 z0:Zr s A 0
 z1:Zr s A 1
 pp:F.p≠F.N.p
 wt:∃ ws,H F.w=some (.lst ws)/\Paired (NO H) L ws.reverse
 aw:F.w≠F.N.s/\F.w≠F.N.i/\F.w≠F.N.l/\F.w≠F.N.v/\F.w∉ls
theorem V0 (h:t < 6):KM.arity t<=2:=by
 have c:t=0\/t=1\/t=2\/t=3\/t=4\/t=5:=by omega
 rcases c with rfl | rfl | rfl | rfl | rfl | rfl <;> decide
noncomputable def kL (F:FA)(l:Addr):Prop:=l≠F.w/\l≠F.N.s/\l≠F.N.i/\l≠F.N.l/\l≠F.N.v
section
variable {C CF:Addr}{F:FA}{H H':Hp}{s s':Ns}{ls CN:List Addr}{A A':Nat->Prop}{L:List Fe}
theorem DC.same (M:DC C CF F H s ls A L)(sm:Ai H H'):DC C CF F H' s ls A L:=by
 obtain ⟨ws,h1,h2⟩:=M.wt;exact ⟨sm _ _ M.ins,M.nod.same sm,M.ok,M.art,M.z0,M.z1,M.pp,⟨ws,sm _ _ h1,Paired.aar h2 λ_ _ z=>z.mono (KS.of_same sm)⟩,M.aw⟩
theorem DC.fre (M:DC C CF F H s ls A L)(h:H l=none):kL F l:=by
 obtain ⟨ws,h1,_⟩:=M.wt;obtain ⟨_,L0⟩:=M.nod.lead;exact ⟨be (Ab h1 h),be (Ab M.nod.sorts h),be (Ab M.nod.inner h),be (Ab L0 h),be (Ab M.nod.levels h)⟩
theorem DC.work (M:DC C CF F H s ls A L)(N:Bv C F.N H' s' CN)(o:Ok s' A')(ar:Hm s')(z0:Zr s' A' 0)(z1:Zr s' A' 1)(f:BU F.N H H')(w:F.w∉CN):DC C CF F H' s' CN A' L:=by
 obtain ⟨ws,h1,h2⟩:=M.wt;obtain ⟨w1,w2,w3,w4,_⟩:=M.aw;obtain ⟨_,L0⟩:=M.nod.lead;refine ⟨f _ _ M.ins M.pp (AW M.ins M.nod.sorts (by intro z;cases z)) (AW M.ins M.nod.inner (by intro z;cases z)) (AW M.ins L0 (by intro z;cases z)) (AW M.ins M.nod.levels (by intro z;cases z)),N,o,ar,z0,z1,M.pp,⟨ws,f _ _ h1 (AW h1 M.nod.ins (by intro z;cases z)) w1 w2 w3 w4,Paired.aar h2 λ_ _ z=>z.mono (KS.off M.nod f)⟩,w1,w2,w3,w4,w⟩
theorem DC.wait (M:DC C CF F H s ls A L)(h:Paired (NO H) L' ws.reverse):DC C CF F (upd H F.w (.lst ws)) s ls A L'/\KS H (upd H F.w (.lst ws)):=by
 obtain ⟨ws0,h1,h2⟩:=M.wt;obtain ⟨w1,w2,w3,w4,w5⟩:=M.aw;have k:KS H (upd H F.w (.lst ws)):=KS.put h1;exact ⟨⟨by rw [Ac (AW M.ins h1 (by intro z;cases z))];exact M.ins,M.nod.off (AW h1 M.nod.ins (by intro z;cases z)) w1 w2 w3 w4 (AW h1 M.nod.aaj (by intro z;cases z)) w5,M.ok,M.art,M.z0,M.z1,M.pp,⟨ws,Ad,Paired.aar h λ_ _ z=>z.mono k⟩,M.aw⟩,k⟩
theorem DC.add (M:DC C CF F H s ls A L)(hl:l≠F.w)(hc:∀ c∈cs,A c)(ht:t < 6)(h2:cs.length=KM.arity t)(N:Bv C F.N H' (s.add t cs) (ls++[l]))(f:∀ b,b≠F.N.s->b≠F.N.i->b≠F.N.l->b≠F.N.v->H' b=H b):DC C CF F H' (s.add t cs) (ls++[l]) (plus A s.n) L/\KS H H':=by
 have k:BU F.N H H':=λb o e _ b2 b3 b4 b5=>by rw [f b b2 b3 b4 b5];exact e
 refine ⟨M.work N (M.ok.add hc (by rw [h2];exact V0 ht)) (M.art.add ht h2) (M.z0.le (Le.add M.ok)) (M.z1.le (Le.add M.ok)) k λz=>?_,KS.off M.nod k⟩;rcases bn.mp z with z | z
 ·exact M.aw.2.2.2.2 z
 ·exact hl (al.mp z).symm
end
end L2
namespace K
open PySem L2 KM KS KN KX
structure D7 (K:W.Frag)(mg:Str->Option Value)(CF:Addr):Prop where
 cl:ID K CF
 nN:BW K CF "nodes"
 nU:BW K CF "number"
 nT:BW K CF "truth"
 nW:BW K CF "waiting"
 mC:mg "Finder"=some (.ref CF)
section
variable {Pr:Program}{w:World}{K:W.Frag}{mg:Str->Option Value}{base:Heap}{C CF:Addr}
noncomputable def LU (C CF:Addr):Sp:=λvs H Q _=>∃ (F:FA) (s:Ns) (ls:List Addr) (A:Nat->Prop) (L:List Fe) (e:Ex) (g:Gv) (nd b:Nat) (rt:V) (gd:Addr),vs=[.ref F.p,rt,.ref gd,.int ((nd:Nat):Int)]/\DC C CF F H s ls A L/\BD H e rt/\GV H gd g b/\b+2 * e.sz<=900000/\L.length<=900000 /\
 ∀ H',DC C CF F H' s ls A (⟨e,g,nd,none⟩::L)->KS H H'->Q .non H'
noncomputable def YI (C CF:Addr):Sp:=λvs H Q _=>∃ (F:FA) (s:Ns) (ls:List Addr) (A:Nat->Prop) (L:List Fe) (e:Ex) (g:Gv) (nd b f:Nat) (rt:V) (gd:Addr),vs=[.ref F.p,rt,.ref gd,.int ((nd:Nat):Int),.int ((f:Nat):Int)]/\DC C CF F H s ls A L/\BD H e rt/\GV H gd g b/\b+2 * e.sz<=900000/\L.length<=900000 /\
 ∀ H',DC C CF F H' s ls A (⟨e,g,nd,some f⟩::L)->KS H H'->Q .non H'
theorem Jz {F:FA}{s:Ns}{ls:List Addr}{A:Nat->Prop}{L:List Fe}{H:Hp}{p:Fe}{rt:V}{gd:Addr}{b:Nat}{R:Hp->Prop}(T:D7 K mg CF)(M:DC C CF F H s ls A L)(he:BD H p.e rt)(hg:GV H gd p.g b)(hs:b+2 * p.e.sz<=900000)(hl:L.length<=900000)
  (q:∀ H',DC C CF F H' s ls A (p::L)->KS H H'->R H') {t:Addr} (ht:H t=none) :
  ∃ l xs y,V.ref F.w=.ref l/\[V.ref t]=[y]/\(upd H t (.tup [rt,.ref gd,.int ((p.nd:Nat):Int),bo p.fs])) l=some (.lst xs)/\xs.length < sizeLine/\R (upd (upd H t (.tup [rt,.ref gd,.int ((p.nd:Nat):Int),bo p.fs])) l (.lst (xs++[y]))):=by
 have sm:Ai H (upd H t (.tup [rt,.ref gd,.int ((p.nd:Nat):Int),bo p.fs])):=Ai.new ht;have M1:=M.same sm;obtain ⟨ws,h1,h2⟩:=M1.wt;have ll:=Paired.len h2;rw [Op] at ll;obtain ⟨M2,k2⟩:=M1.wait (L':=p::L) (ws:=ws++[.ref t]) (by
  rw [List.reverse_append];exact .cons ⟨t,rt,gd,b,rfl,Ad,BD.mono (TSub.of_same sm) he,hg.mono (KS.of_same sm),hs⟩ h2)
 exact ⟨F.w,ws,.ref t,rfl,rfl,h1,Ei (),q _ M2 ((KS.of_same sm).trans k2)⟩
theorem kM:Am ["self","tree","given","node"] ["self","tree","given","node"] (Ah Ci):=nofun
theorem bp (F:C7 K "ask" "Finder.ask" Ci f fd)(T:D7 K mg CF):Au Pr w K mg base AN 1 f fd ["self","tree","given","node"] (LU C CF):=by
 refine F.okS kM (λBe A0 outer s0 H vs Q E hr h=>?_)
 ·obtain ⟨F,s,ls,A,L,e,g,nd,b,rt,gd,rfl,M,he,hg,hs,hl,q⟩:=h;obtain ⟨ws,h1,_⟩:=id M.wt;refine ⟨_,(Ak (As (F4 im v6 wf B' (Ar (Ag 0)) (Aa (Az (Aa (Ag 1) (Aa (Ag 2) (Aa (Ag 3) (Aa EB Ae))))) Ae)))),?_⟩;refine ⟨_,rfl,F.p,CF,F.dx,_,_,rfl,M.ins,T.cl,T.nW,rfl,.inl ⟨rfl,_,AI.of h1⟩,_,rfl,_,rfl,_,rfl,DU (no rfl),λt ht=>?_⟩;exact Jz (p:=⟨e,g,nd,none⟩) T M he hg hs hl q ht
theorem kN:Am ["self","tree","given","node","first"] ["self","tree","given","node","first"] (Ah AG):=nofun
theorem bq (F:C7 K "ask_behind_first" "Finder.ask_behind_first" AG f fd)(T:D7 K mg CF):Au Pr w K mg base AN 1 f fd ["self","tree","given","node","first"] (YI C CF):=by
 refine F.okS kN (λBe A0 outer s0 H vs Q E hr h=>?_)
 ·obtain ⟨F,s,ls,A,L,e,g,nd,b,f,rt,gd,rfl,M,he,hg,hs,hl,q⟩:=h;obtain ⟨ws,h1,_⟩:=id M.wt;refine ⟨_,(Ak (As (F4 im v6 wf B' (Ar (Ag 0)) (Aa (Az (Aa (Ag 1) (Aa (Ag 2) (Aa (Ag 3) (Aa (Ag 4) Ae))))) Ae)))),?_⟩;refine ⟨_,rfl,F.p,CF,F.dx,_,_,rfl,M.ins,T.cl,T.nW,rfl,.inl ⟨rfl,_,AI.of h1⟩,_,rfl,_,rfl,_,rfl,_,rfl,DU (no rfl),λt ht=>?_⟩;exact Jz (p:=⟨e,g,nd,some f⟩) T M he hg hs hl q ht
structure NM (Pr:Program)(w:World)(K:W.Frag)(mg:Str->Option Value)(base:Heap)(C:Addr):Prop where
 nn:Mc Pr w K mg base AN C 1 "new_node" ["self","word","inner"] (Jw C)
 ng:Mc Pr w K mg base AN C 2 "new_gap" ["self"] (Kc C)
 dp:Mc Pr w K mg base AN C 1 "go_deeper" ["self"] (Tg C)
 ms:Mc Pr w K mg base AN C 4 "make_same" ["self","one","other"] (Ke C)
 cb:Mc Pr w K mg base AN C 3 "come_back" ["self","top"] (TB C)
 cp:Mc Pr w K mg base AN C 3 "copied" ["self","top","level"] (Ii C)
theorem Pd (M:DC C CF F H s ls A L)(hi:A i)(hj:A j)(hn:s.n < 1000000)(hs:∃ σ,BA s σ/\σ i=σ j)(q1:∀ s' H',DC C CF F H' s' ls A L->Lf s A s' A->(∀ σ,BA s σ->σ i=σ j->BA s' σ)->s'.n=s.n->KS H H'->Q .non H'):Ke C [.ref F.N.p,.int ((i:Nat):Int),.int ((j:Nat):Int)] H Q E :=
 ⟨F.N,s,ls,A,i,j,rfl,M.nod,M.ok,M.art,hi,hj,hn,hs,λs' H' N' o' YB en us f=>q1 s' H' (M.work N' o' (M.art.le YB en) (M.z0.le YB) (M.z1.le YB) f M.aw.2.2.2.2) (us.lf YB en) (λ_ a b=>us.sol a b) en (KS.off M.nod f)⟩
theorem Pe (M:DC C CF F H s ls A L)(hl:H l=some (.lst (lsN cs)))(fr:kL F l)(hc:∀ c∈cs,A c)(ht:t < 6)(h2:cs.length=arity t)(hn:s.n < 1000000)(q:∀ H',DC C CF F H' (s.add t cs) (ls++[l]) (plus A s.n) L->KS H H'->Q (.int ((s.n:Nat):Int)) H'):Jw C [.ref F.N.p,.str (BB t),.ref l] H Q E :=
 ⟨F.N,s,ls,t,cs,l,rfl,M.nod,hl,fr.2.1,fr.2.2.1,fr.2.2.2.1,fr.2.2.2.2,hn,λH' N' f=>let z:=M.add fr.1 hc ht h2 N' f;q H' z.1 z.2⟩
theorem NP (M:DC C CF F H s ls A L)(hn:s.n < 1000000)(q:∀ CN H',DC C CF F H' (s.add 2 []) CN (plus A s.n) L->KS H H'->Q (.int ((s.n:Nat):Int)) H'):Kc C [.ref F.N.p] H Q E :=
 ⟨F.N,s,ls,rfl,M.nod,hn,λl H' hl N' f=>q _ H' (M.work N' (M.ok.add (λc hc=>by cases hc) (mi _)) (M.art.add ⟨⟩ rfl) (M.z0.le (Le.add M.ok)) (M.z1.le (Le.add M.ok)) f λz=>by
  rcases bn.mp z with z | z
  ·exact M.aw.2.2.2.2 z
  ·exact (M.fre hl).1 (al.mp z).symm) (KS.off M.nod f)⟩
noncomputable def br (C CF:Addr):Sp:=λvs H Q _=>∃ (F:FA) (s:Ns) (ls:List Addr) (A:Nat->Prop) (L:List Fe) (nd t:Nat) (cs:List Nat) (l:Addr),vs=[.ref F.p,.int ((nd:Nat):Int),.str (BB t),.ref l]/\DC C CF F H s ls A L/\H l=some (.lst (lsN cs))/\kL F l/\A nd/\(∀ c∈cs,A c)/\t < 6/\cs.length=arity t/\s.n < 900000/\(∃ σ,BA s σ/\σ nd=σ s.n/\(t≠2->σ s.n=IF t (cs.map σ))) /\
 ∀ s' CN A' H',DC C CF F H' s' CN A' L->Lf s A s' A'->(∀ σ,BA s σ->σ nd=σ s.n->(t≠2->σ s.n=IF t (cs.map σ))->BA s' σ)->s'.n=s.n+1->KS H H'->Q .non H'
theorem v7:Am ["self","node","word","inner"] ["self","node","word","inner"] (Ah Bm):=nofun
theorem kO (F:C7 K "has_sort" "Finder.has_sort" Bm f fd)(TF:D7 K mg CF)(T:Cd K mg C)(Z:NM Pr w K mg base C):Au Pr w K mg base AN 5 f fd ["self","node","word","inner"] (br C CF):=by
 refine F.okS v7 (λBe A0 outer s0 H vs Q E hr h=>?_)
 ·obtain ⟨F,s,ls,A,L,nd,t,cs,l,rfl,M,hl,fr,hn,hc,ht,h2,hb,⟨σ0,y0,y1,y2⟩,q1⟩:=h;have BZ:Ax 1 _:=hr.mono ⟨⟩;have QP:Ax 4 _:=hr;have cMs:=Z.ms;have cNn:=Z.nn;refine ⟨_,(Ak (As (Bp (Ar (Ag 0)) T.cl cMs QP (Aa (Ag 1) (Aa (Bp (Ar (Ag 0)) T.cl cNn BZ (Aa (Ag 2) (Aa (Ag 3) Ae))) Ae))))),?_⟩;refine ⟨_,rfl,F.p,CF,F.dx,_,_,rfl,M.ins,TF.cl,TF.nN,rfl,F.N.p,F.N.dx,_,rfl,M.nod.ins,rfl,_,rfl,_,rfl,F.p,CF,F.dx,_,_,rfl,M.ins,TF.cl,TF.nN,rfl,F.N.p,F.N.dx,_,rfl,M.nod.ins,rfl,_,rfl,_,rfl,?_⟩;apply Pe M hl fr hc ht h2 () λH1 M1 k1=>?_;have le1:Lf s A (s.add t cs) (plus A s.n):=Lf.add M.ok;refine Pd (E:=E0) M1 (.inl hn) (.inr rfl) (by show s.n+1 < 1000000;omega) ⟨σ0,y0.add M.ok y2,y1⟩ λs' H' M' YB so' en k'=>?_;exact q1 s' _ _ H' M' (Lf.trans M.ok le1 YB) (fun σ a b c=>so' σ (a.add M.ok c) b) en (k1.trans k')
noncomputable def TJ (ks:List (Str × Nat)):List (Key × V):=ks.map λq=>((.inr q.1:Key),.int ((q.2:Nat):Int))
theorem QQ:∀ {g:Gv},g.aan k (ks++[(x,n)])=(g.aan k ks).put x (n,k):=by
 induction ks with
 | nil=>exact rfl
 | cons p r ih =>
  obtain ⟨y,m⟩:=p;exact ih
theorem GV.put (hd:H d=some (.dK kvs))(h:GV H d g b)(s:TSub H H')(ht:H' t=some (.tup [.int ((n:Nat):Int),.int ((k:Nat):Int)]))(h':H' d=some (.dK (putK kvs (.inr x) (.ref t)))):GV H' d (g.put x (n,k)) (b+1):=by
 obtain ⟨Ah2,h1,h2,h3⟩:=h;rw [hd] at h1;cases h1;refine ⟨_,h',by have:=(EG kvs (.inr x) (.ref t)).1;omega,λy p e=>?_⟩;unfold Gv.put at e;rw [Ey];by_cases z:y=x
 ·subst z;rw [if_pos rfl] at e;cases e;exact ⟨t,if_pos rfl,ht⟩
 ·rw [if_neg z] at e;obtain ⟨u,a,c⟩:=h3 y p e;exact ⟨u,by rw [if_neg (λq=>z (Sum.inr.inj q))];exact a,s _ _ c⟩
noncomputable def TK (C CF:Addr):Sp:=λvs H Q _=>∃ (F:FA) (s:Ns) (ls:List Addr) (A:Nat->Prop) (L:List Fe) (g:Gv) (b:Nat) (gd nl:Addr) (ks:List (Str × Nat)) (H0:Hp),vs=[.ref F.p,.ref gd,.ref nl]/\DC C CF F H0 s ls A L/\Ai H0 H/\H0 nl=none/\H nl=some (.dK (TJ ks))/\GV H0 gd g b/\ks.length<=2/\b<=900000 /\
 ∀ d H',Ai H0 H'->GV H' d (g.aan s.k ks) (b+ks.length)->Q (.ref d) H'
theorem Pf:Am ["self","given","names","wider","name","node"] ["self","given","names"] (Ah Ba):=nofun
theorem bu (F:C7 K "given_too" "Finder.given_too" Ba f fd)(TF:D7 K mg CF)(T:Cd K mg C)(NQ:mg "dict"=none):Au Pr w K mg base AN 1 f fd ["self","given","names"] (TK C CF):=by
 refine F.okS Pf (λBe A0 outer s0 H vs Q E hr h=>?_)
 ·obtain ⟨F,s,ls,A,L,g,b,gd,nl,ks,H0,rfl,M,s0,KP,hn,G0,h2,h9,q⟩:=h;have hu:=DE hr;obtain ⟨kvs,GK,hb,hg⟩:=id G0;have hd:=s0 _ _ GK;refine ⟨_,(Af (Aq (i:=3) Pf.nd rfl (.inl rfl) (CD FO (by rfl) NQ PyProof.Rows.boot_dict (Aa (Ag 1) Ae)))
   (Af (FN v0 rfl (K3 (EC PySem.F.plainAttrs_dict PySem.F.slot_dict_items PySem.F.type_dict_items HW (Ag 2))) (Jq rfl (Co (B2 (i:=4) Pf.nd rfl (.inl rfl)) (Co (B2 (i:=5) Pf.nd rfl (.inl rfl)) Gi))) (Ak (DJ hu (Ag 3) (Ag 4) (Az (Aa (Ag 5) (Aa (Ar (Ar (Ag 0))) Ae))) rfl)))
   (Ak (AH (Ag 3))))),?_⟩
  apply ⟨gd,_,rfl,.inl hd,λp1 LS=>?_⟩;have JA:H0 p1=none:=by
   cases z:H0 p1 with
   | none=>rfl
   | some o=>rw [s0 _ _ z] at LS;cases LS
  have s1:Ai H (upd H p1 (.dK kvs)):=Ai.new LS;have e1:(upd H p1 (.dK kvs)) p1=some (.dK kvs):=Ad;have np:p1≠nl:=λz=>by rw [z,hn] at LS;cases LS
  generalize upd H p1 (.dK kvs)=H1 at s1 e1 ⊢;have bw:=s1 _ _ hn;have qS:=s0.trans s1;apply ⟨_,rfl,.inr (.inr (.inl ⟨rfl,.inl ⟨_,bw⟩⟩)),nl,TJ ks,rfl,rfl,bw,λvw YD=>⟨vw,nl,TJ ks,rfl,Ad,by rw [Ac (Ab bw YD)];exact bw,λo=>?_⟩⟩;have iD:Ai H1 (upd H1 vw (GJ vw nl)):=Ai.new YD;have G1:GV H1 p1 g b:=⟨kvs,e1,hb,λy p e=>let ⟨t,a,c⟩:=hg y p e;⟨t,a,qS _ _ c⟩⟩;refine Gj (o:=o) (d:=nl) (kvs:=TJ ks) (λi σ H3=>∃ x4 x5,σ=[some (.ref F.p),some (.ref gd),some (.ref nl),some (.ref p1),x4,x5]/\Ai H0 H3/\GV H3 p1 (g.aan s.k (ks.take i)) (b+i)/\H3 nl=some (.frz o (.dK (TJ ks))))
   ⟨_,_,rfl,Ai.put (qS.trans iD) KP,?_,Ad⟩ (λi σ H3 _ z=>?_) (λi p σ H3 tT hp z hT=>?_) (fun σ H3 z=>?_)
  ·rw [List.take_zero];obtain ⟨kv,a1,a2,a3⟩:=G1.mono (KS.of_same iD);refine ⟨kv,by rw [Ac np];exact a1,a2,λy p e=>?_⟩;obtain ⟨t,b1,b2⟩:=a3 y p e;exact ⟨t,b1,by rw [Ac (λz:t=nl=>by rw [z,iD _ _ bw] at b2;cases b2)];exact b2⟩
  ·obtain ⟨_,_,_,_,_,z⟩:=z;exact z
  ·obtain ⟨x4,x5,rfl,s3,G3,hn3⟩:=z;unfold TJ at hp;rw [jp] at hp;obtain ⟨⟨x,n⟩,hx,rfl⟩:=Option.map_eq_some_iff.mp hp;have hi:=(cr.mp hx).1;have aZ:Ai H3 (upd H3 tT (.tup [.str x,.int ((n:Nat):Int)])):=Ai.new hT;refine ⟨tT,_,rfl,BL.of Ad,rfl,_,_,rfl,_,_,rfl,rfl,?_⟩;have s4:=s3.trans aZ;have G4:=G3.mono (KS.of_same aZ);have kQ:=aZ _ _ hn3;have M4:=M.same s4;refine ⟨_,rfl,_,rfl,F.p,CF,F.dx,_,_,rfl,M4.ins,TF.cl,TF.nN,rfl,F.N.p,C,F.N.dx,_,_,rfl,M4.nod.ins,T.cl,T.nK,rfl,DU (no rfl),λt ht=>?_⟩;have ht:(upd H3 tT (.tup [.str x,.int ((n:Nat):Int)])) t=none:=ht;obtain ⟨kv,a1,a2,a3⟩:=id G4;have NR:Ai (upd H3 tT (.tup [.str x,.int ((n:Nat):Int)])) (upd (upd H3 tT (.tup [.str x,.int ((n:Nat):Int)])) t (.tup [.int ((n:Nat):Int),.int ((s.k:Nat):Int)])):=Ai.new ht;have tp:t≠p1:=λz=>(by rw [z,a1] at ht;cases ht);refine ⟨_,rfl,_,rfl,p1,_,rfl,.inl ⟨kv,.inr x,NR _ _ a1,rfl,Ei (),rfl⟩,?_⟩;refine ⟨_,_,rfl,Ai.put (s4.trans NR) JA,?_,by rw [Ac (be np)];exact NR _ _ kQ⟩;rw [List.take_succ,hx,Option.toList_some,QQ];exact GV.put a1 G4 (λb xs e=>by rw [Ac (λz:b=p1=>by rw [z,a1] at e;cases e)];exact NR _ _ e) (by rw [Ac tp,Ad]) Ad
  ·obtain ⟨x4,x5,rfl,s3,G3,hn3⟩:=z;have el:(TJ ks).length=ks.length:=ba ..;rw [el,sK] at G3;left;exact q p1 H3 s3 G3
end
end K
namespace KN
open KM KX PySem
theorem Sb.lf (o:Ok s A)(o':Ok s' A')(l:Lf s A s' A')(so:∀ σ,S σ->BA s' σ)(h:Sb s A S p):Sb s' A' S p :=
 ⟨h.fs,(l.le.li _ h.nd).1,by rw [l.le.k];exact h.g.mono o l.le,h.cl,fun σ z=>let ⟨Γ,a,b⟩:=h.hk σ z;⟨Γ,λx p e t w=>(a x p e t w).lf o o' l (so σ z),b⟩⟩
structure Kn (s:Ns)(S:Sg->Prop)(G:Kd):Prop where
 sol:∀ σ,S σ->BA s σ
 ne:∃ σ,S σ
 z:∀ σ,S σ->σ 0=.num/\σ 1=.tru/\σ 2=G
 n:3<=s.n
theorem Kn.rl (o:Ok s A)(k:Kn s S G)(q:Rl s.n S S1):Kn s S1 G :=
 ⟨q.sol o k.sol,q.ne k.ne,fun σ1 h=>by
  obtain ⟨σ,h,e⟩:=q.2 σ1 h;have n:=k.n;rw [<- e 0 (),<- e 1 (),<- e 2 ()];exact k.z σ h,k.n⟩
theorem Kn.on (k:Kn s S G)(so:∀ σ,S σ->BA s' σ)(n:s.n<=s'.n):Kn s' S G:=⟨so,k.ne,k.z,ce k.n n⟩
noncomputable def LV (σ:Sg):Gm->List (Str × Nat)->Gm
 | Γ,[]=>Γ
 | Γ,(x,n)::r=>LV σ (Γ.put x (·=σ n)) r
theorem Gs.aan (o:Ok s A)(so:BA s σ):∀ {g:Gv} {Γ:Gm},Gs s A σ g Γ->(∀ p∈ks,A p.2)->Gs s A σ (g.aan k ks) (LV σ Γ ks):=by
 induction ks with
 | nil=>exact λh _=>h
 | cons p r ih =>
  obtain ⟨x,n⟩:=p;intro g Γ h ha;exact ih (h.put (p:=(n,k)) λt e=>by rw [e];exact Mz.live o so (ha _ (.head _))) λp hp=>ha p (.tail _ hp)
theorem HK.two (h:HK ((Γ.put x (·=σ a)).put y (·=σ b)) e t):HK (LV σ Γ (Gu x y a b)) e t:=by
 unfold Gu;by_cases q:x=y
 ·rw [if_pos q];refine h.mono λz u w=>?_;subst q;simp only [LV,Gm.put] at w ⊢;by_cases v:z=x
  ·rw [if_pos v] at w ⊢;exact w
  ·rw [if_neg v,if_neg v] at w;rw [if_neg v];exact w
 ·rw [if_neg q];exact h
end KN
namespace K
open PySem L2 KM KS KN KX
section
variable {Pr:Program}{w:World}{K:W.Frag}{mg:Str->Option Value}{base:Heap}{C CF:Addr}
structure FM (Pr:Program)(w:World)(K:W.Frag)(mg:Str->Option Value)(base:Heap)(C CF:Addr):Prop where
 ask:Mc Pr w K mg base AN CF 1 "ask" ["self","tree","given","node"] (LU C CF)
 abf:Mc Pr w K mg base AN CF 1 "ask_behind_first" ["self","tree","given","node","first"] (YI C CF)
 hs:Mc Pr w K mg base AN CF 5 "has_sort" ["self","node","word","inner"] (br C CF)
 gt:Mc Pr w K mg base AN CF 1 "given_too" ["self","given","names"] (TK C CF)
structure DL (C CF:Addr)(F:FA)(G:Kd)(H:Hp)(s:Ns)(ls:List Addr)(A:Nat->Prop)(L:List Fe)(e:Ex)(g:Gv)(nd b:Nat)(rt:V)(gd:Addr)(S:Sg->Prop)(lim:Nat)(xs:List Str):Prop where
 M:DC C CF F H s ls A L
 he:BD H e rt
 hg:GV H gd g b
 hb:b+2 * e.sz<=900000
 hn:A nd
 gk:Hl s A s.k 7 g
 cl:e.cl xs
 hs:Ia g xs
 hk:Hk s A S g e nd
 kn:Kn s S G
 st:Sk s A S lim s.k (s.n+10 * e.sz) L
 lm:lim<=800000
 ll:fm L+2 * e.sz<=800000
noncomputable def B4 (C CF:Addr)(P:Ex->Prop):Sp:=λvs H Q _=>∃ (F:FA) (G:Kd) (s:Ns) (ls:List Addr) (A:Nat->Prop) (L:List Fe) (e:Ex) (g:Gv) (nd b:Nat) (rt:V) (gd:Addr) (S:Sg->Prop) (lim:Nat) (xs:List Str),vs=[.ref F.p,rt,.ref gd,.int ((nd:Nat):Int)]/\P e/\DL C CF F G H s ls A L e g nd b rt gd S lim xs /\
 ∀ s' CN A' S' L' H',DC C CF F H' s' CN A' L'->Kn s' S' G->Sk s' A' S' lim s'.k s'.n L'->fm L' < fm L+2 * e.sz->KS H H'->s.n<=s'.n->Q .non H'
structure Th (C CF:Addr)(F:FA)(S:Sg->Prop)(H0:Hp)(s0:Ns)(A0:Nat->Prop)(L0:List Fe)(j:Nat)(M:List Fe)(H:Hp)(s:Ns)(ls:List Addr)(A:Nat->Prop):Prop where
 fa:DC C CF F H s ls A (M++L0)
 lf:Lf s0 A0 s A
 sol:∀ σ,S σ->BA s σ
 n:s.n<=s0.n+j
 ks:KS H0 H
 sub:∀ p∈M,Sb s A S p
section
variable {F:FA}{S:Sg->Prop}{H0 H H':Hp}{s0 s s':Ns}{A0 A A':Nat->Prop}{L0 M:List Fe}{j i:Nat}{ls CN:List Addr}{Q:VK}{E:XK}
theorem Th.step (o:Ok s0 A0)(t:Th C CF F S H0 s0 A0 L0 j M H s ls A)(M':DC C CF F H' s' CN A' (M++L0))(lf:Lf s A s' A')(so:∀ σ,S σ->BA s' σ)(n:s'.n<=s.n+i)(k:KS H H'):Th C CF F S H0 s0 A0 L0 (j+i) M H' s' CN A' :=
 ⟨M',Lf.trans o t.lf lf,so,by have:=t.n;omega,t.ks.trans k,λp hp=>(t.sub p hp).lf t.fa.ok M'.ok lf so⟩
theorem Th.same (t:Th C CF F S H0 s0 A0 L0 j M H s ls A)(sm:Ai H H'):Th C CF F S H0 s0 A0 L0 j M H' s ls A:=⟨t.fa.same sm,t.lf,t.sol,t.n,t.ks.trans (KS.of_same sm),t.sub⟩
theorem Th.gap (o:Ok s0 A0)(t:Th C CF F S H0 s0 A0 L0 j M H s ls A)(hj:s0.n+j < 900000)(q:∀ CN H',Th C CF F S H0 s0 A0 L0 (j+1) M H' (s.add 2 []) CN (plus A s.n)->Q (.int ((s.n:Nat):Int)) H'):Kc C [.ref F.N.p] H Q E :=
 NP t.fa (by have:=t.n;omega) λCN H' M' k=>q CN H' (t.step o M' (Lf.add t.fa.ok) (fun σ z=>(t.sol σ z).add t.fa.ok λz=>absurd rfl z) (am _) k)
theorem Th.node (o:Ok s0 A0)(t:Th C CF F S H0 s0 A0 L0 j M H s ls A)(hl:H l=some (.lst (lsN cs)))(fr:kL F l)(hc:∀ c∈cs,A c)(ht:g < 6)(h2:cs.length=arity g)(hj:s0.n+j < 900000)(hv:∀ σ,S σ->σ s.n=IF g (cs.map σ))(q:∀ CN H',Th C CF F S H0 s0 A0 L0 (j+1) M H' (s.add g cs) CN (plus A s.n)->Q (.int ((s.n:Nat):Int)) H'):Jw C [.ref F.N.p,.str (BB g),.ref l] H Q E :=
 Pe t.fa hl fr hc ht h2 (by have:=t.n;omega) λH' M' k=>q _ H' (t.step o M' (Lf.add t.fa.ok) (fun σ z=>(t.sol σ z).add t.fa.ok λ_=>hv σ z) (am _) k)
theorem Th.sort (o:Ok s0 A0)(t:Th C CF F S H0 s0 A0 L0 j M H s ls A)(hl:H l=some (.lst (lsN cs)))(fr:kL F l)(hn:A nd)(hc:∀ c∈cs,A c)(ht:g < 6)(h2:cs.length=arity g)(hj:s0.n+j < 900000)(ne:∃ σ,S σ)(hv:∀ σ,S σ->σ nd=σ s.n/\σ s.n=IF g (cs.map σ))(q:∀ s' CN A' H',Th C CF F S H0 s0 A0 L0 (j+1) M H' s' CN A'->(∀ i,A i->A' i)->Q .non H'):br C CF [.ref F.p,.int ((nd:Nat):Int),.str (BB g),.ref l] H Q E :=
 ⟨F,s,ls,A,M++L0,nd,g,cs,l,rfl,t.fa,hl,fr,hn,hc,ht,h2,by have:=t.n;omega,(let ⟨σ,z⟩:=ne;⟨σ,t.sol σ z,(hv σ z).1,λ_=>(hv σ z).2⟩),λs' CN A' H' M' lf so en k=>q s' CN A' H' (t.step o M' lf (fun σ z=>so σ (t.sol σ z) (hv σ z).1 λ_=>(hv σ z).2) (Nat.le_of_eq en) k) λi hi=>(lf.le.li i hi).1⟩
theorem Th.abb (o:Ok s0 A0)(t:Th C CF F S H0 s0 A0 L0 j M H s ls A)(hx:A x)(hy:A y)(hj:s0.n+j < 900000)(ne:∃ σ,S σ)(hv:∀ σ,S σ->σ x=σ y)(q:∀ s' H',Th C CF F S H0 s0 A0 L0 j M H' s' ls A->Q .non H'):Ke C [.ref F.N.p,.int ((x:Nat):Int),.int ((y:Nat):Int)] H Q E :=
 Pd t.fa hx hy (by have:=t.n;omega) (let ⟨σ,z⟩:=ne;⟨σ,t.sol σ z,hv σ z⟩) λs' H' M' lf so en k=>q s' H' (t.step (i:=0) o M' lf (fun σ z=>so σ (t.sol σ z) (hv σ z)) (Nat.le_of_eq en) k)
theorem Th.asks (t:Th C CF F S H0 s0 A0 L0 j M H s ls A)(he:BD H e rt)(hg:GV H gd g b)(hb:b+2 * e.sz<=900000)(hl:M.length+L0.length<=900000)(hn:A nd)(gk:Hl s A s.k 7 g)(cl:e.cl xs)(hs:Ia g xs)(hk:Hk s A S g e nd)(q:∀ H',Th C CF F S H0 s0 A0 L0 j (⟨e,g,nd,none⟩::M) H' s ls A->KS H H'->Q .non H'):LU C CF [.ref F.p,rt,.ref gd,.int ((nd:Nat):Int)] H Q E :=
 ⟨F,s,ls,A,M++L0,e,g,nd,b,rt,gd,rfl,t.fa,he,hg,hb,by rw [ca];exact hl,λH' M' k=>q H' ⟨M',t.lf,t.sol,t.n,t.ks.trans k,λp hp=>by
  rcases gz.mp hp with rfl | hp
  ·exact ⟨rfl,hn,gk,⟨xs,cl,hs⟩,hk⟩
  ·exact t.sub p hp⟩ k⟩
theorem Th.too (t:Th C CF F S H0 s0 A0 L0 j M H s ls A){g:Gv}{b:Nat}{gd nl:Addr}{ks:List (Str × Nat)}{H1:Hp}(hg:GV H gd g b)(sm:Ai H H1)(KP:H nl=none)(h1:H1 nl=some (.dK (TJ ks)))(h2:ks.length<=2)(hb:b<=900000)
  (q:∀ d H',Ai H H'->Th C CF F S H0 s0 A0 L0 j M H' s ls A->GV H' d (g.aan s.k ks) (b+2)->Q (.ref d) H'):TK C CF [.ref F.p,.ref gd,.ref nl] H1 Q E :=
 ⟨F,s,ls,A,M++L0,g,b,gd,nl,ks,H,rfl,t.fa,sm,KP,h1,hg,h2,hb,λd H' s' g'=>q d H' s' (t.same s') (g'.more ())⟩
end
section
variable {F:FA}{G:Kd}{H:Hp}{s:Ns}{ls:List Addr}{A:Nat->Prop}{L:List Fe}{e:Ex}{g:Gv}{nd b:Nat}{rt:V}{gd:Addr}{S:Sg->Prop}{lim:Nat}{xs:List Str}
theorem DL.swap (P:DL C CF F G H s ls A L e g nd b rt gd S lim xs)(q:Rl s.n S S1):DL C CF F G H s ls A L e g nd b rt gd S1 lim xs :=
 { P with hk:=P.hk.eqn P.M.ok q P.hn,kn:=P.kn.rl P.M.ok q,st:=P.st.eqn P.M.ok q }
theorem DL.pick (P:DL C CF F G H s ls A L e g nd b rt gd S lim xs){Φ:Gm->Sg->Prop}(h:∀ (σ:Sg) (Γ:Gm),HK Γ e (σ nd)->∃ l:List Kd,∀ σ1:Sg,σ1 nd=σ nd->(∀ j,σ1 (s.n+j)=(l[j]?).getD .num)->Φ Γ σ1):
  ∃ S1,DL C CF F G H s ls A L e g nd b rt gd S1 lim xs/\∀ σ,S1 σ->∃ Γ,Gs s A σ g Γ/\Φ Γ σ:=by
 obtain ⟨S1,q,hS⟩:=KN.pick (S:=S) (n:=s.n) (P:=fun σ1=>∃ Γ,Gs s A σ1 g Γ/\Φ Γ σ1) fun σ z=>by
  obtain ⟨Γ,h1,h2⟩:=P.hk σ z;obtain ⟨l,h3⟩:=h σ Γ h2;exact ⟨ups σ s.n l,D3,Γ,λx p e t w=>(h1 x p e t w).eqn P.M.ok D3,h3 _ (D3 nd (P.M.ok.lt nd P.hn)).symm P1⟩
 exact ⟨S1,P.swap q,hS⟩
theorem DL.th (P:DL C CF F G H s ls A L e g nd b rt gd S lim xs):Th C CF F S H s A L 0 [] H s ls A:=⟨P.M,Lf.refl _ _,P.kn.sol,am _,KS.of_same (Ai.refl _),λp hp=>by cases hp⟩
theorem _root_.L2.Ej (P:DL C CF F G H s ls A L e g nd b rt gd S lim xs){j:Nat}{M:List Fe}{H':Hp}{s':Ns}{CN:List Addr}{A':Nat->Prop}{Q:VK}(q:∀ s' CN A' S' L' H',DC C CF F H' s' CN A' L'->Kn s' S' G->Sk s' A' S' lim s'.k s'.n L'->fm L' < fm L+2 * e.sz->KS H H'->s.n<=s'.n->Q .non H')
  (t:Th C CF F S H s A L j M H' s' CN A') (hc:j+10 * a9 M<=10 * e.sz:=by simp only [a9,Ex.sz,xz,List.map_nil,List.sum_cons,List.sum_nil];omega) (hm:fm M < 2 * e.sz:=by simp only [fm,bh,Ex.sz,xz,List.map_nil,List.sum_cons,List.sum_nil];omega):Q .non H' :=
 q s' CN A' S (M++L) H' t.fa (P.kn.on t.sol t.lf.le.n) (Sk.rule P.M.ok t.fa.ok t.lf t.sol P.st (am _) t.n t.sub hc) (by rw [bj];omega) t.ks t.lf.le.n
theorem DL.nn (P:DL C CF F G H s ls A L e g nd b rt gd S lim xs):s.n+10 * e.sz<=800000:=ce P.st.lm P.lm
theorem DL.b9 (P:DL C CF F G H s ls A L e g nd b rt gd S lim xs):b<=900000:=by have:=P.hb;omega
theorem Sk.pos {s:Ns}{A:Nat->Prop}{S:Sg->Prop}{lim k m:Nat}{L:List Fe}(h:Sk s A S lim k m L):∀ p∈L,1<=bh p:=by
 induction h with
 | nil=>intro p hp;cases hp
 | @ask _ _ e _ _ _ _ _ _ _ _ _ _ _ ih =>
  intro p hp;rcases gz.mp hp with rfl | hp
  ·have:=KN.aad e;show 1<=2 * e.sz;omega
  ·exact ih p hp
 | @back _ _ _ a b _ _ _ _ _ _ _ _ _ _ _ _ _ _ _ _ ih =>
  intro p hp;rcases gz.mp hp with rfl | hp
  ·show 1<=2 * (1+a.sz+b.sz) - 1 - 2 * a.sz;omega
  ·exact ih p hp
theorem DL.len (P:DL C CF F G H s ls A L e g nd b rt gd S lim xs):L.length<=800000:=by
 have:=TH (Sk.pos P.st);have:=P.ll;omega
theorem _root_.L2.QR (P:DL C CF F G H s ls A L e g nd b rt gd S lim xs)(t:Th C CF F S H s A L j M H' s' CN A')(ha:BD H e' ra)(hn:A' n)(cl:e'.cl xs)(hk:∀ σ,S σ->∃ Γ,Gs s A σ g Γ/\HK Γ e' (σ n))(q:∀ IW,Th C CF F S H s A L j (⟨e',g,n,none⟩::M) IW s' CN A'->Q .non IW)(hz:e'.sz<=e.sz:=by simp only [Ex.sz];omega)(hl:M.length<=3:=by simp):LU C CF [.ref F.p,ra,.ref gd,.int ((n:Nat):Int)] H' Q E :=
 t.asks (BD.mono t.ks.tup ha) (P.hg.mono t.ks) (by have:=P.hb;omega) (by have:=P.len;omega) hn (t.lf.le.k▸P.gk.mono P.M.ok t.lf.le) cl P.hs (fun σ z=>let ⟨Γ,a,b⟩:=hk σ z;⟨Γ,λx p e u w=>(a x p e u w).lf P.M.ok t.fa.ok t.lf (t.sol σ z),b⟩) λIW t' _=>q IW t'
theorem _root_.L2.v8 (P:DL C CF F G H s ls A L e g nd b rt gd S lim xs)(t:Th C CF F S H s A L j M H' s' CN A')(g':GV H' d (g.aan s'.k ks) (b+2))(ha:BD H e' ra)(hn:A' n)(hks:∀ p∈ks,A' p.2)(cl:e'.cl ys)(hs:Ia (g.aan s'.k ks) ys)(hk:∀ σ,S σ->∃ Γ,Gs s A σ g Γ/\HK (LV σ Γ ks) e' (σ n))(q:∀ IW,Th C CF F S H s A L j (⟨e',g.aan s'.k ks,n,none⟩::M) IW s' CN A'->Q .non IW)(hz:e'.sz+1<=e.sz:=by simp only [Ex.sz];omega)(hl:M.length<=3:=by simp):LU C CF [.ref F.p,ra,.ref d,.int ((n:Nat):Int)] H' Q E :=
 t.asks (BD.mono t.ks.tup ha) g' (by have:=P.hb;omega) (by have:=P.len;omega) hn (Hl.aan t.fa.ok (t.lf.le.k▸P.gk.mono P.M.ok t.lf.le) hks) cl hs (fun σ z=>let ⟨Γ,a,b⟩:=hk σ z;⟨_,Gs.aan t.fa.ok (t.sol σ z) (λx p e u w=>(a x p e u w).lf P.M.ok t.fa.ok t.lf (t.sol σ z)) hks,b⟩) λIW t' _=>q IW t'
theorem DL.copy (P:DL C CF F G H s ls A L e g nd b rt gd S lim xs)(hx:g x=some (en,l))(hj:s.n+7 < 900000)(hk:∀ σ,S σ->Mz s A σ en (σ nd))(q:∀ S1 s' CN A' r H',DL C CF F G H s ls A L e g nd b rt gd S1 lim xs->Th C CF F S1 H s A L 7 [] H' s' CN A'->A' r->A' nd->(∀ σ,S1 σ->σ nd=σ r)->Q (.int ((r:Nat):Int)) H'):Ii C [.ref F.N.p,.int ((en:Nat):Int),.int ((l:Nat):Int)] H Q E :=
 ⟨F.N,s,ls,A,7,en,l,rfl,P.M.nod,P.M.ok,P.M.art,(P.gk x _ hx).1,(),λs' CN A' r H' N' o' ar' lf hr n cp f nb=>by
  obtain ⟨S1,rl,hS⟩:=KN.pick (S:=S) (n:=s.n) (P:=fun σ1=>BA s' σ1/\σ1 nd=σ1 r) fun σ z=>by
   obtain ⟨_,τ,t1,t2,t3⟩:=hk σ z;obtain ⟨σ1,c1,c2,c3⟩:=cp σ τ (P.kn.sol σ z) t1 t2;exact ⟨σ1,c1,c2,by rw [c3,t3,c1 nd (P.M.ok.lt nd P.hn)]⟩
  have M':=P.M.work N' o' ar' (P.M.z0.le lf.le) (P.M.z1.le lf.le) f λz=>by
   obtain ⟨ws,hw,_⟩:=P.M.wt;rcases nb _ z with z | z
   ·exact P.M.aw.2.2.2.2 z
   ·rw [hw] at z;cases z
  exact q S1 s' CN A' r H' (P.swap rl) ⟨M',lf,fun σ z=>(hS σ z).1,n,KS.off P.M.nod f,λp hp=>by cases hp⟩ hr (lf.le.li nd P.hn).1 fun σ z=>(hS σ z).2⟩
end
theorem AL {F:FA}{H:Hp}{s:Ns}{ls:List Addr}{A:Nat->Prop}{L:List Fe}(M:DC C CF F H s ls A L)(TF:D7 K mg CF){m:Str}{P:V->Prop}(h:(Qy F.N s.k).lookup m=none)(q:P (.ref F.N.p)):
  ∃ a C' dx fs v,V.ref F.p=.ref a/\H a=some (.ins C' dx fs)/\ID K C'/\BW K C' "nodes"/\fs.lookup ("nodes":Str)=some v/\∃ a dx fs,v=.ref a/\H a=some (.ins C dx fs)/\fs.lookup m=none/\P v :=
 ⟨F.p,CF,F.dx,_,_,rfl,M.ins,TF.cl,TF.nN,rfl,F.N.p,F.N.dx,_,rfl,M.nod.ins,h,q⟩
theorem Ij {A:Nat->Prop}{a b:Nat}(ha:A a)(hb:A b):∀ c∈[a,b],A c:=λc hc=>by
 rcases gz.mp hc with rfl | hc
 ·exact ha
 ·rw [al.mp hc];exact hb
theorem NS {A:Nat->Prop}{a:Nat}(ha:A a):∀ c∈[a],A c:=λc hc=>by rw [al.mp hc];exact ha
theorem pV:CC [] [((.inr x:Key),V.int ((m:Nat):Int)),((.inr y:Key),V.int ((n:Nat):Int))]=TJ (Gu x y m n):=by
 unfold Gu;by_cases e:x=y
 ·subst e;rw [if_pos rfl];show putK [((.inr x:Key),V.int ((m:Nat):Int))] (.inr x) (V.int ((n:Nat):Int))=_;simp [putK,TJ]
 ·rw [if_neg e];show putK [((.inr x:Key),V.int ((m:Nat):Int))] (.inr y) (V.int ((n:Nat):Int))=_;simp [putK,TJ,e]
theorem bx:Am ["finder","tree","given","node","taken","told"] ["finder","tree","given","node"] (Ah Fp):=nofun
theorem kR (F:C7 K "find_fun" "find_fun" Fp f fd)(TF:D7 K mg CF)(T:Cd K mg C)(Z:NM Pr w K mg base C)(Y:FM Pr w K mg base C CF):Au Pr w K mg base AN 6 f fd ["finder","tree","given","node"] (B4 C CF λe=>∃ x b,e=.fn x b):=by
 refine F.okS bx (λBe A0 outer s0 H vs Q E hr h=>?_)
 ·obtain ⟨F,G,s,ls,A,L,_,g,nd,b,rt,gd,S,lim,xs,rfl,⟨x,eb,rfl⟩,P,q1⟩:=h;obtain ⟨S1,P,hS⟩:=P.pick (Φ:=fun Γ σ=>σ nd=.fn (σ s.n) (σ (s.n+1))/\σ nd=σ (s.n+2)/\HK (Γ.put x (·=σ s.n)) eb (σ (s.n+1))) fun σ Γ h=>by
   obtain ⟨a,r,e1,h1⟩:=h.inv;refine ⟨[a,r,σ nd],fun σ1 w w'=>?_⟩;rw [w,show σ1 s.n=a from w' 0,show σ1 (s.n+1)=r from w' 1,show σ1 (s.n+2)=σ nd from w' 2];exact ⟨e1,rfl,h1⟩
  have BZ:Ax 1 _:=hr.mono ⟨⟩;have DW:Ax 2 _:=hr.mono ⟨⟩;obtain ⟨p,rb,rfl,hp,hb⟩:=P.he;refine ⟨_,(Af (Aq (i:=4) bx.nd rfl (.inl rfl) (Dh (Ar (Ag 0)) T.cl Z.ng DW))
   (Af (Aq (i:=5) bx.nd rfl (.inl rfl) (Dh (Ar (Ag 0)) T.cl Z.ng DW))
   (Af (As (Bp (Ag 0) TF.cl Y.hs hr (Aa (Ag 3) (Aa Ap (Aa (B0 (Aa (Ag 4) (Aa (Ag 5) Ae))) Ae)))))
   (Ak (As (Bp (Ag 0) TF.cl Y.ask BZ (Aa (eI 1) (Aa (Bp (Ag 0) TF.cl Y.gt BZ (Aa (Ag 2) (Aa (ED (Ck (eI 1) (Ag 4) GH) rfl rfl (by simp) ⟨⟩) Ae))) (Aa (Ag 5) Ae))))))))),?_⟩
  have o:=P.M.ok;have nn:=P.nn;simp only [Ex.sz] at nn;apply AL P.M TF rfl ?_;apply P.th.gap o () λHo H1 t1=>?_;apply AL t1.fa TF rfl ?_;apply t1.gap o () λIV H2 t2=>?_;apply ⟨F.p,F.dx,_,rfl,t2.fa.ins,rfl,?_⟩;apply DV (DU (no rfl)) λl H3 hl s3 e3=>?_;left;have a1:plus (plus A s.n) (s.add 2 []).n s.n:=.inl (.inr rfl);have a2:plus (plus A s.n) (s.add 2 []).n (s.n+1):=.inr rfl;refine (t2.same s3).sort (g:=3) (cs:=[s.n,s.n+1]) o e3 (t2.fa.fre hl) (.inl (.inl P.hn)) (Ij a1 a2) ⟨⟩ rfl () P.kn.ne (fun σ z=>let ⟨_,_,y1,y2,_⟩:=hS σ z;⟨y2,y2.symm.trans y1⟩) λs4 kS A4 H4 t4 l4=>?_;apply ⟨F.p,F.dx,_,rfl,t4.fa.ins,rfl,?_⟩;left;have hp4:=t4.ks.tup _ _ hp;refine An hp4 (v:=rb) rfl ?_;apply ⟨F.p,F.dx,_,rfl,t4.fa.ins,rfl,?_⟩;apply Eb λnl H5 KP s5 e5=>?_;apply An (s5 _ _ hp4) (v:=.str x) rfl ?_;apply ⟨e5,[(.inr x,.int ((s.n:Nat):Int))],rfl,by simp,λH6 k6 e6=>?_⟩;left;have s6:Ai H4 H6:=λb o e=>by rw [k6 b (Ab e KP)];exact s5 _ _ e
  refine t4.too (ks:=[(x,s.n)]) (P.hg.mono t4.ks) s6 KP e6 (by simp) P.b9 λd H7 s7 t7 g7=>?_;apply v8 P t7 g7 hb (l4 _ a2) (λp hp=>by rw [al.mp hp];exact l4 _ a1) P.cl (P.hs.aan (ks:=[(x,s.n)])) (fun σ z=>let ⟨Γ,y0,_,_,y3⟩:=hS σ z;⟨Γ,y0,y3⟩) λH8 t8=>?_;left;exact Ej P q1 t8
theorem WI {σ:Sg}{G:Kd}{ow:Str}{x:Nat}(z:σ 0=.num/\σ 1=.tru/\σ 2=G)(h:(OI (.str ow) [.str "plus",.str "minus"]=true/\x=0)\/(OI (.str ow) [.str "plus",.str "minus"]=false/\x=1)):Yx ow=σ x:=by
 have e:OI (.str ow) [.str "plus",.str "minus"]=(decide (("plus":Str)=ow) || (decide (("minus":Str)=ow) || false)):=rfl;rw [e] at h;unfold Yx;by_cases a:ow="plus"
 ·rw [if_pos a];rcases h with ⟨_,rfl⟩ | ⟨h,_⟩
  ·exact z.1.symm
  ·rw [a] at h;simp at h
 ·rw [if_neg a];by_cases b:ow="minus"
  ·rw [if_pos b];rcases h with ⟨_,rfl⟩ | ⟨h,_⟩
   ·exact z.1.symm
   ·rw [b] at h;simp at h
  ·rw [if_neg b];rcases h with ⟨h,_⟩ | ⟨_,rfl⟩
   ·simp [be a,be b] at h
   ·exact z.2.1.symm
theorem WJ (h:σ[0]?=some (some (.ref F.p)))(M:DC C CF F H s ls A L)(TF:D7 K mg CF)(q:∀ x:Nat,A x->((b=true/\x=0)\/(b=false/\x=1))->Q (.int ((x:Nat):Int)) H):if b=true then MP K (AS 0) "number" σ H Q else MP K (AS 0) "truth" σ H Q:=by
 cases b with
 | true=>exact CQ ⟨_,h,F.p,CF,F.dx,_,_,rfl,M.ins,TF.cl,TF.nU,rfl,q 0 M.z0.1 (.inl ⟨rfl,rfl⟩)⟩
 | false=>exact Bx ⟨_,h,F.p,CF,F.dx,_,_,rfl,M.ins,TF.cl,TF.nT,rfl,q 1 M.z1.1 (.inr ⟨rfl,rfl⟩)⟩
theorem v9:Am ["finder","tree","given","node"] ["finder","tree","given","node"] (Ah DK):=nofun
theorem kT (F:C7 K "find_number" "find_number" DK f fd)(TF:D7 K mg CF)(T:Cd K mg C)(Z:NM Pr w K mg base C)(Y:FM Pr w K mg base C CF):Au Pr w K mg base AN 6 f fd ["finder","tree","given","node"] (B4 C CF λe=>∃ i,e=.num i):=by
 refine F.okS v9 (λBe A0 outer s0 H vs Q E hr h=>?_)
 ·obtain ⟨F,G,s,ls,A,L,_,g,nd,b,rt,gd,S,lim,xs,rfl,⟨i,rfl⟩,P,q1⟩:=h;have QP:Ax 4 _:=hr.mono ⟨⟩;obtain ⟨p,rfl,hp⟩:=P.he;refine ⟨_,(Ak (As (Bp (Ar (Ag 0)) T.cl Z.ms QP (Aa (Ag 3) (Aa (Ar (Ag 0)) Ae))))),?_⟩;have o:=P.M.ok;have nn:=P.nn;simp only [Ex.sz] at nn;apply AL P.M TF rfl ?_;apply ⟨F.p,CF,F.dx,_,_,rfl,P.M.ins,TF.cl,TF.nU,rfl,?_⟩;apply P.th.abb o P.hn P.M.z0.1 () P.kn.ne (fun σ z=>let ⟨_,_,y⟩:=P.hk σ z;y.inv.trans (P.kn.z σ z).1.symm) λs1 H1 t1=>?_;left;exact Ej P q1 t1
theorem va:Am ["finder","tree","given","node"] ["finder","tree","given","node"] (Ah E6):=nofun
theorem kU (F:C7 K "find_truth" "find_truth" E6 f fd)(TF:D7 K mg CF)(T:Cd K mg C)(Z:NM Pr w K mg base C)(Y:FM Pr w K mg base C CF):Au Pr w K mg base AN 6 f fd ["finder","tree","given","node"] (B4 C CF λe=>∃ i,e=.tru i):=by
 refine F.okS va (λBe A0 outer s0 H vs Q E hr h=>?_)
 ·obtain ⟨F,G,s,ls,A,L,_,g,nd,b,rt,gd,S,lim,xs,rfl,⟨i,rfl⟩,P,q1⟩:=h;have QP:Ax 4 _:=hr.mono ⟨⟩;obtain ⟨p,rfl,hp⟩:=P.he;refine ⟨_,(Ak (As (Bp (Ar (Ag 0)) T.cl Z.ms QP (Aa (Ag 3) (Aa (Ar (Ag 0)) Ae))))),?_⟩;have o:=P.M.ok;have nn:=P.nn;simp only [Ex.sz] at nn;apply AL P.M TF rfl ?_;apply ⟨F.p,CF,F.dx,_,_,rfl,P.M.ins,TF.cl,TF.nT,rfl,?_⟩;apply P.th.abb o P.hn P.M.z1.1 () P.kn.ne (fun σ z=>let ⟨_,_,y⟩:=P.hk σ z;y.inv.trans (P.kn.z σ z).2.1.symm) λs1 H1 t1=>?_;left;exact Ej P q1 t1
theorem kX:Am ["finder","tree","given","node","entry"] ["finder","tree","given","node"] (Ah EH):=nofun
theorem kY (F:C7 K "find_name" "find_name" EH f fd)(TF:D7 K mg CF)(T:Cd K mg C)(Z:NM Pr w K mg base C)(Y:FM Pr w K mg base C CF):Au Pr w K mg base AN 6 f fd ["finder","tree","given","node"] (B4 C CF λe=>∃ x,e=.nm x):=by
 refine F.okS kX (λBe A0 outer s0 H vs Q E hr h=>?_)
 ·obtain ⟨F,G,s,ls,A,L,_,g,nd,b,rt,gd,S,lim,xs,rfl,⟨x,rfl⟩,P,q1⟩:=h;have bz:Ax 3 _:=hr.mono ⟨⟩;have QP:Ax 4 _:=hr.mono ⟨⟩;have hu:=DE hr;obtain ⟨p,rfl,hp⟩:=P.he;refine ⟨_,(Af (Aq (i:=4) kX.nd rfl (.inl rfl) (JX hu (Ag 2) (eI 1) D0))
   (Ak (As (Bp (Ar (Ag 0)) T.cl Z.ms QP (Aa (Ag 3) (Aa (Bp (Ar (Ag 0)) T.cl Z.cp bz (Aa (eI 4) (Aa (eI 4) Ae))) Ae)))))),?_⟩
  have o:=P.M.ok;have nn:=P.nn;simp only [Ex.sz] at nn;apply An hp (v:=.str x) rfl ?_;obtain ⟨⟨en,lv⟩,hx⟩:=Option.isSome_iff_exists.mp (P.hs x P.cl);obtain ⟨kvs,hd,_,hv⟩:=P.hg;obtain ⟨te,qT,hte⟩:=hv x _ hx;refine ⟨gd,.ref te,rfl,.inl ⟨kvs,.inr x,.inl hd,rfl,qT.symm⟩,?_⟩;apply AL P.M TF rfl ?_;apply AL P.M TF rfl ?_;apply An hte (v:=.int ((en:Nat):Int)) rfl ?_;apply An hte (v:=.int ((lv:Nat):Int)) rfl ?_;apply P.copy hx () (fun σ z=>let ⟨Γ,y0,y1⟩:=P.hk σ z;y0 x _ hx _ y1.inv) λS1 s1 Ho A1 r H1 P t1 TL gW e1=>?_;apply t1.abb o gW TL () P.kn.ne e1 λs2 H2 t2=>?_;left;exact Ej P q1 t2
theorem vd:Am ["finder","tree","given","node"] ["finder","tree","given","node"] (Ah E7):=nofun
theorem kZ (F:C7 K "find_empty" "find_empty" E7 f fd)(TF:D7 K mg CF)(T:Cd K mg C)(Z:NM Pr w K mg base C)(Y:FM Pr w K mg base C CF):Au Pr w K mg base AN 6 f fd ["finder","tree","given","node"] (B4 C CF λe=>e=.emp):=by
 refine F.okS vd (λBe A0 outer s0 H vs Q E hr h=>?_)
 ·obtain ⟨F,G,s,ls,A,L,_,g,nd,b,rt,gd,S,lim,xs,rfl,rfl,P,q1⟩:=h;obtain ⟨S1,P,hS⟩:=P.pick (Φ:=fun Γ σ=>σ nd=.ls (σ s.n)/\σ nd=σ (s.n+1)) fun σ Γ h=>by
   obtain ⟨a,e1⟩:=h.inv;refine ⟨[a,σ nd],fun σ1 w w'=>?_⟩;simp only [w,show σ1 s.n=a from w' 0,show σ1 (s.n+1)=σ nd from w' 1];exact ⟨e1,trivial⟩
  have DW:Ax 2 _:=hr.mono ⟨⟩;obtain ⟨p,rfl,hp⟩:=P.he;refine ⟨_,(Ak (As (Bp (Ag 0) TF.cl Y.hs hr (Aa (Ag 3) (Aa Ap (Aa (B0 (Aa (Dh (Ar (Ag 0)) T.cl Z.ng DW) Ae)) Ae)))))),?_⟩;have o:=P.M.ok;have nn:=P.nn;simp only [Ex.sz] at nn;apply ⟨F.p,F.dx,_,rfl,P.M.ins,rfl,?_⟩;left;apply AL P.M TF rfl ?_;apply P.th.gap o () λHo H1 t1=>?_;apply DV (DU (no rfl)) λl2 H2 D9 s2 e2=>?_;apply (t1.same s2).sort (g:=5) (cs:=[s.n]) o e2 (t1.fa.fre D9) (.inl P.hn) (NS (.inr rfl)) ⟨⟩ rfl () P.kn.ne (fun σ z=>let ⟨Γ,y0,y1,y2⟩:=hS σ z;⟨y2,y2.symm.trans y1⟩) λs4 kS A4 H4 t4 l4=>?_;left;exact Ej P q1 t4
theorem bA:Am ["finder","tree","given","node","taken","told"] ["finder","tree","given","node"] (Ah Fq):=nofun
theorem l5 (F:C7 K "find_rec" "find_rec" Fq f fd)(TF:D7 K mg CF)(T:Cd K mg C)(Z:NM Pr w K mg base C)(Y:FM Pr w K mg base C CF):Au Pr w K mg base AN 6 f fd ["finder","tree","given","node"] (B4 C CF λe=>∃ f x b,e=.rc f x b):=by
 refine F.okS bA (λBe A0 outer s0 H vs Q E hr h=>?_)
 ·obtain ⟨F,G,s,ls,A,L,_,g,nd,b,rt,gd,S,lim,xs,rfl,⟨x,y,eb,rfl⟩,P,q1⟩:=h;obtain ⟨S1,P,hS⟩:=P.pick (Φ:=fun Γ σ=>σ nd=.fn (σ s.n) (σ (s.n+1))/\σ nd=σ (s.n+2)/\HK ((Γ.put x (·=σ nd)).put y (·=σ s.n)) eb (σ (s.n+1))) fun σ Γ h=>by
   obtain ⟨a,r,e1,h1⟩:=h.inv;refine ⟨[a,r,σ nd],fun σ1 w w'=>?_⟩;simp only [w,show σ1 s.n=a from w' 0,show σ1 (s.n+1)=r from w' 1,show σ1 (s.n+2)=σ nd from w' 2];exact ⟨e1,trivial,by rw [e1];exact h1⟩
  have BZ:Ax 1 _:=hr.mono ⟨⟩;have DW:Ax 2 _:=hr.mono ⟨⟩;obtain ⟨p,rb,rfl,hp,hb⟩:=P.he;refine ⟨_,(Af (Aq (i:=4) bA.nd rfl (.inl rfl) (Dh (Ar (Ag 0)) T.cl Z.ng DW))
   (Af (Aq (i:=5) bA.nd rfl (.inl rfl) (Dh (Ar (Ag 0)) T.cl Z.ng DW))
   (Af (As (Bp (Ag 0) TF.cl Y.hs hr (Aa (Ag 3) (Aa Ap (Aa (B0 (Aa (Ag 4) (Aa (Ag 5) Ae))) Ae)))))
   (Ak (As (Bp (Ag 0) TF.cl Y.ask BZ (Aa (eI 1) (Aa (Bp (Ag 0) TF.cl Y.gt BZ (Aa (Ag 2) (Aa (ED (Ck (eI 1) (Ag 3) (Ck (eI 1) (Ag 4) GH)) rfl rfl (by simp) ⟨⟩) Ae))) (Aa (Ag 5) Ae))))))))),?_⟩
  have o:=P.M.ok;have nn:=P.nn;simp only [Ex.sz] at nn;apply AL P.M TF rfl ?_;apply P.th.gap o () λHo H1 t1=>?_;apply AL t1.fa TF rfl ?_;apply t1.gap o () λIV H2 t2=>?_;apply ⟨F.p,F.dx,_,rfl,t2.fa.ins,rfl,?_⟩;apply DV (DU (no rfl)) λl3 H3 MB s3 e3=>?_;left;have a1:plus (plus A s.n) (s.add 2 []).n s.n:=.inl (.inr rfl);have a2:plus (plus A s.n) (s.add 2 []).n (s.n+1):=.inr rfl;have a3:plus (plus A s.n) (s.add 2 []).n nd:=.inl (.inl P.hn);refine (t2.same s3).sort (g:=3) (cs:=[s.n,s.n+1]) o e3 (t2.fa.fre MB) a3 (Ij a1 a2) ⟨⟩ rfl () P.kn.ne (fun σ z=>let ⟨Γ,y0,y1,y2,_⟩:=hS σ z;⟨y2,y2.symm.trans y1⟩) λs4 kS A4 H4 t4 l4=>?_;apply ⟨F.p,F.dx,_,rfl,t4.fa.ins,rfl,?_⟩;apply An (t4.ks.tup _ _ hp) (v:=rb) rfl ?_;apply ⟨F.p,F.dx,_,rfl,t4.fa.ins,rfl,?_⟩;apply Eb λnl H5 KP s5 e5=>?_;apply An (s5 _ _ (t4.ks.tup _ _ hp)) (v:=.str x) rfl ?_;apply An (s5 _ _ (t4.ks.tup _ _ hp)) (v:=.str y) rfl ?_;apply ⟨e5,[(.inr x,.int ((nd:Nat):Int)),(.inr y,.int ((s.n:Nat):Int))],rfl,by simp,λK6 k6 e6=>?_⟩;left;have s6:Ai _ K6:=λb o e=>by rw [k6 b (Ab e KP)];exact s5 _ _ e
  rw [pV] at e6;refine t4.too (ks:=Gu x y (nd) (s.n)) (P.hg.mono t4.ks) s6 KP e6 (Kj ..) P.b9 λd H6 s6 t6 g6=>?_;apply v8 P t6 g6 hb (l4 _ a2) (Ki (l4 _ a3) (l4 _ a1)) P.cl P.hs.two (fun σ z=>let ⟨Γ,y0,_,_,y3⟩:=hS σ z;⟨Γ,y0,HK.two y3⟩) λH8 t8=>?_;left;exact Ej P q1 t8
theorem bB:Am ["finder","tree","given","node","one","other"] ["finder","tree","given","node"] (Ah EK):=nofun
theorem l6 (F:C7 K "find_pair" "find_pair" EK f fd)(TF:D7 K mg CF)(T:Cd K mg C)(Z:NM Pr w K mg base C)(Y:FM Pr w K mg base C CF):Au Pr w K mg base AN 6 f fd ["finder","tree","given","node"] (B4 C CF λe=>∃ a b,e=.pr a b):=by
 refine F.okS bB (λBe A0 outer s0 H vs Q E hr h=>?_)
 ·obtain ⟨F,G,s,ls,A,L,_,g,nd,b,rt,gd,S,lim,xs,rfl,⟨ea,eb,rfl⟩,P,q1⟩:=h;obtain ⟨S1,P,hS⟩:=P.pick (Φ:=fun Γ σ=>σ nd=.pr (σ s.n) (σ (s.n+1))/\σ nd=σ (s.n+2)/\HK Γ ea (σ s.n)/\HK Γ eb (σ (s.n+1))) fun σ Γ h=>by
   obtain ⟨a,r,e1,h1,h2⟩:=h.inv;refine ⟨[a,r,σ nd],fun σ1 w w'=>?_⟩;simp only [w,show σ1 s.n=a from w' 0,show σ1 (s.n+1)=r from w' 1,show σ1 (s.n+2)=σ nd from w' 2];exact ⟨e1,trivial,h1,h2⟩
  have BZ:Ax 1 _:=hr.mono ⟨⟩;have DW:Ax 2 _:=hr.mono ⟨⟩;obtain ⟨p,ra,rb,rfl,hp,ha,hb⟩:=P.he;refine ⟨_,(Af (Aq (i:=4) bB.nd rfl (.inl rfl) (Dh (Ar (Ag 0)) T.cl Z.ng DW))
   (Af (Aq (i:=5) bB.nd rfl (.inl rfl) (Dh (Ar (Ag 0)) T.cl Z.ng DW))
   (Af (As (Bp (Ag 0) TF.cl Y.hs hr (Aa (Ag 3) (Aa Ap (Aa (B0 (Aa (Ag 4) (Aa (Ag 5) Ae))) Ae)))))
   (Af (As (Bp (Ag 0) TF.cl Y.ask BZ (Aa (eI 1) (Aa (Ag 2) (Aa (Ag 4) Ae)))))
   (Ak (As (Bp (Ag 0) TF.cl Y.ask BZ (Aa (eI 1) (Aa (Ag 2) (Aa (Ag 5) Ae)))))))))),?_⟩
  have o:=P.M.ok;have nn:=P.nn;simp only [Ex.sz] at nn;apply AL P.M TF rfl ?_;apply P.th.gap o () λHo H1 t1=>?_;apply AL t1.fa TF rfl ?_;apply t1.gap o () λIV H2 t2=>?_;apply ⟨F.p,F.dx,_,rfl,t2.fa.ins,rfl,?_⟩;apply DV (DU (no rfl)) λl3 H3 MB s3 e3=>?_;left;have a1:plus (plus A s.n) (s.add 2 []).n s.n:=.inl (.inr rfl);have a2:plus (plus A s.n) (s.add 2 []).n (s.n+1):=.inr rfl;have a3:plus (plus A s.n) (s.add 2 []).n nd:=.inl (.inl P.hn);refine (t2.same s3).sort (g:=4) (cs:=[s.n,s.n+1]) o e3 (t2.fa.fre MB) a3 (Ij a1 a2) ⟨⟩ rfl () P.kn.ne (fun σ z=>let ⟨Γ,y0,y1,y2,_⟩:=hS σ z;⟨y2,y2.symm.trans y1⟩) λs4 kS A4 H4 t4 l4=>?_;apply ⟨F.p,F.dx,_,rfl,t4.fa.ins,rfl,?_⟩;apply An (t4.ks.tup _ _ hp) (v:=ra) rfl ?_;apply QR P t4 ha (l4 _ a1) P.cl.1 (fun σ z=>let ⟨Γ,y0,_,_,y3,_⟩:=hS σ z;⟨Γ,y0,y3⟩) λH5 t5=>?_;apply ⟨F.p,F.dx,_,rfl,t5.fa.ins,rfl,?_⟩;apply An (t5.ks.tup _ _ hp) (v:=rb) rfl ?_;apply QR P t5 hb (l4 _ a2) P.cl.2 (fun σ z=>let ⟨Γ,y0,_,_,_,y3⟩:=hS σ z;⟨Γ,y0,y3⟩) λH6 t6=>?_;left;exact Ej P q1 t6
theorem l7:Am ["finder","tree","given","node","one"] ["finder","tree","given","node"] (Ah EM):=nofun
theorem l8 (F:C7 K "find_link" "find_link" EM f fd)(TF:D7 K mg CF)(T:Cd K mg C)(Z:NM Pr w K mg base C)(Y:FM Pr w K mg base C CF):Au Pr w K mg base AN 6 f fd ["finder","tree","given","node"] (B4 C CF λe=>∃ a b,e=.lk a b):=by
 refine F.okS l7 (λBe A0 outer s0 H vs Q E hr h=>?_)
 ·obtain ⟨F,G,s,ls,A,L,_,g,nd,b,rt,gd,S,lim,xs,rfl,⟨ea,eb,rfl⟩,P,q1⟩:=h;obtain ⟨S1,P,hS⟩:=P.pick (Φ:=fun Γ σ=>σ nd=.ls (σ s.n)/\σ nd=σ (s.n+1)/\HK Γ ea (σ s.n)/\HK Γ eb (σ nd)) fun σ Γ h=>by
   obtain ⟨a,e1,h1,h2⟩:=h.inv;refine ⟨[a,σ nd],fun σ1 w w'=>?_⟩;simp only [w,show σ1 s.n=a from w' 0,show σ1 (s.n+1)=σ nd from w' 1];exact ⟨e1,trivial,h1,by rw [e1];exact h2⟩
  have BZ:Ax 1 _:=hr.mono ⟨⟩;have DW:Ax 2 _:=hr.mono ⟨⟩;obtain ⟨p,ra,rb,rfl,hp,ha,hb⟩:=P.he;refine ⟨_,(Af (Aq (i:=4) l7.nd rfl (.inl rfl) (Dh (Ar (Ag 0)) T.cl Z.ng DW))
   (Af (As (Bp (Ag 0) TF.cl Y.hs hr (Aa (Ag 3) (Aa Ap (Aa (B0 (Aa (Ag 4) Ae)) Ae)))))
   (Af (As (Bp (Ag 0) TF.cl Y.ask BZ (Aa (eI 1) (Aa (Ag 2) (Aa (Ag 4) Ae)))))
   (Ak (As (Bp (Ag 0) TF.cl Y.ask BZ (Aa (eI 1) (Aa (Ag 2) (Aa (Ag 3) Ae))))))))),?_⟩
  have o:=P.M.ok;have nn:=P.nn;simp only [Ex.sz] at nn;apply AL P.M TF rfl ?_;apply P.th.gap o () λHo H1 t1=>?_;apply ⟨F.p,F.dx,_,rfl,t1.fa.ins,rfl,?_⟩;apply DV (DU (no rfl)) λl3 H3 MB s3 e3=>?_;apply (t1.same s3).sort (g:=5) (cs:=[s.n]) o e3 (t1.fa.fre MB) (.inl P.hn) (NS (.inr rfl)) ⟨⟩ rfl () P.kn.ne (fun σ z=>let ⟨Γ,y0,y1,y2,_⟩:=hS σ z;⟨y2,y2.symm.trans y1⟩) λs4 kS A4 H4 t4 l4=>?_;apply ⟨F.p,F.dx,_,rfl,t4.fa.ins,rfl,?_⟩;apply An (t4.ks.tup _ _ hp) (v:=ra) rfl ?_;apply QR P t4 ha (l4 _ (.inr rfl)) P.cl.1 (fun σ z=>let ⟨Γ,y0,_,_,y3,_⟩:=hS σ z;⟨Γ,y0,y3⟩) λH5 t5=>?_;apply ⟨F.p,F.dx,_,rfl,t5.fa.ins,rfl,?_⟩;apply An (t5.ks.tup _ _ hp) (v:=rb) rfl ?_;apply QR P t5 hb (l4 _ (.inl P.hn)) P.cl.2 (fun σ z=>let ⟨Γ,y0,_,_,_,y3⟩:=hS σ z;⟨Γ,y0,y3⟩) λH6 t6=>?_;left;exact Ej P q1 t6
theorem l9:Am ["finder","tree","given","node","taken"] ["finder","tree","given","node"] (Ah EI):=nofun
theorem la (F:C7 K "find_call" "find_call" EI f fd)(TF:D7 K mg CF)(T:Cd K mg C)(Z:NM Pr w K mg base C)(Y:FM Pr w K mg base C CF):Au Pr w K mg base AN 6 f fd ["finder","tree","given","node"] (B4 C CF λe=>∃ a b,e=.cal a b):=by
 refine F.okS l9 (λBe A0 outer s0 H vs Q E hr h=>?_)
 ·obtain ⟨F,G,s,ls,A,L,_,g,nd,b,rt,gd,S,lim,xs,rfl,⟨ea,eb,rfl⟩,P,q1⟩:=h;obtain ⟨S1,P,hS⟩:=P.pick (Φ:=fun Γ σ=>σ (s.n+1)=.fn (σ s.n) (σ nd)/\HK Γ ea (σ (s.n+1))/\HK Γ eb (σ s.n)) fun σ Γ h=>by
   obtain ⟨a,h1,h2⟩:=h.inv;refine ⟨[a,.fn a (σ nd)],fun σ1 w w'=>?_⟩;simp only [w,show σ1 s.n=a from w' 0,show σ1 (s.n+1)=.fn a (σ nd) from w' 1];exact ⟨trivial,h1,h2⟩
  have BZ:Ax 1 _:=hr.mono ⟨⟩;have DW:Ax 2 _:=hr.mono ⟨⟩;obtain ⟨p,ra,rb,rfl,hp,ha,hb⟩:=P.he;refine ⟨_,(Af (Aq (i:=4) l9.nd rfl (.inl rfl) (Dh (Ar (Ag 0)) T.cl Z.ng DW))
   (Af (As (Bp (Ag 0) TF.cl Y.ask BZ (Aa (eI 1) (Aa (Ag 2) (Aa (Bp (Ar (Ag 0)) T.cl Z.nn BZ (Aa Ap (Aa (B0 (Aa (Ag 4) (Aa (Ag 3) Ae))) Ae))) Ae)))))
   (Ak (As (Bp (Ag 0) TF.cl Y.ask BZ (Aa (eI 1) (Aa (Ag 2) (Aa (Ag 4) Ae)))))))),?_⟩
  have o:=P.M.ok;have nn:=P.nn;simp only [Ex.sz] at nn;apply AL P.M TF rfl ?_;apply P.th.gap o () λHo H1 t1=>?_;apply ⟨F.p,F.dx,_,rfl,t1.fa.ins,rfl,?_⟩;apply An (t1.ks.tup _ _ hp) (v:=ra) rfl ?_;apply AL t1.fa TF rfl ?_;apply DV (DU (no rfl)) λl2 H2 D9 s2 e2=>?_;apply (t1.same s2).node (g:=3) (cs:=[s.n,nd]) o e2 (t1.fa.fre D9) (Ij (.inr rfl) (.inl P.hn)) ⟨⟩ rfl () (fun σ z=>let ⟨Γ,y0,y1,_⟩:=hS σ z;y1) λls3 H3 t3=>?_;apply QR P t3 ha (.inr rfl) P.cl.1 (fun σ z=>let ⟨Γ,y0,_,y2,_⟩:=hS σ z;⟨Γ,y0,y2⟩) λH4 t4=>?_;apply ⟨F.p,F.dx,_,rfl,t4.fa.ins,rfl,?_⟩;apply An (t4.ks.tup _ _ hp) (v:=rb) rfl ?_;apply QR P t4 hb (.inl (.inr rfl)) P.cl.2 (fun σ z=>let ⟨Γ,y0,_,_,y2⟩:=hS σ z;⟨Γ,y0,y2⟩) λH5 t5=>?_;left;exact Ej P q1 t5
theorem ve:Am ["finder","tree","given","node"] ["finder","tree","given","node"] (Ah EJ):=nofun
theorem lb (F:C7 K "find_when" "find_when" EJ f fd)(TF:D7 K mg CF)(T:Cd K mg C)(Z:NM Pr w K mg base C)(Y:FM Pr w K mg base C CF):Au Pr w K mg base AN 6 f fd ["finder","tree","given","node"] (B4 C CF λe=>∃ a b c,e=.wh a b c):=by
 refine F.okS ve (λBe A0 outer s0 H vs Q E hr h=>?_)
 ·obtain ⟨F,G,s,ls,A,L,_,g,nd,b,rt,gd,S,lim,xs,rfl,⟨ea,eb,ec,rfl⟩,P,q1⟩:=h;have BZ:Ax 1 _:=hr.mono ⟨⟩;obtain ⟨p,ra,rb,rc,rfl,hp,ha,hb,hc⟩:=P.he;refine ⟨_,(Af (As (Bp (Ag 0) TF.cl Y.ask BZ (Aa (eI 1) (Aa (Ag 2) (Aa (Ar (Ag 0)) Ae)))))
   (Af (As (Bp (Ag 0) TF.cl Y.ask BZ (Aa (eI 1) (Aa (Ag 2) (Aa (Ag 3) Ae)))))
   (Ak (As (Bp (Ag 0) TF.cl Y.ask BZ (Aa (eI 1) (Aa (Ag 2) (Aa (Ag 3) Ae)))))))),?_⟩
  have o:=P.M.ok;have nn:=P.nn;simp only [Ex.sz] at nn;apply ⟨F.p,F.dx,_,rfl,P.M.ins,rfl,?_⟩;apply An (P.th.ks.tup _ _ hp) (v:=ra) rfl ?_;apply ⟨F.p,CF,F.dx,_,_,rfl,P.M.ins,TF.cl,TF.nT,rfl,?_⟩;apply QR P (n:=1) P.th ha P.M.z1.1 P.cl.1 (fun σ z=>let ⟨Γ,y0,y⟩:=P.hk σ z;⟨Γ,y0,by rw [(P.kn.z σ z).2.1];exact y.inv.1⟩) λH1 t1=>?_;apply ⟨F.p,F.dx,_,rfl,t1.fa.ins,rfl,?_⟩;apply An (t1.ks.tup _ _ hp) (v:=rb) rfl ?_;apply QR P t1 hb P.hn P.cl.2.1 (fun σ z=>let ⟨Γ,y0,y⟩:=P.hk σ z;⟨Γ,y0,y.inv.2.1⟩) λH2 t2=>?_;apply ⟨F.p,F.dx,_,rfl,t2.fa.ins,rfl,?_⟩;apply An (t2.ks.tup _ _ hp) (v:=rc) rfl ?_;apply QR P t2 hc P.hn P.cl.2.2 (fun σ z=>let ⟨Γ,y0,y⟩:=P.hk σ z;⟨Γ,y0,y.inv.2.2⟩) λH3 t3=>?_;left;exact Ej P q1 t3
theorem vf:Am ["finder","tree","given","node"] ["finder","tree","given","node"] (Ah Gk):=nofun
theorem lh (F:C7 K "find_op" "find_op" Gk f fd)(TF:D7 K mg CF)(T:Cd K mg C)(Z:NM Pr w K mg base C)(Y:FM Pr w K mg base C CF):Au Pr w K mg base AN 6 f fd ["finder","tree","given","node"] (B4 C CF λe=>∃ w a b,e=.op w a b):=by
 refine F.okS vf (λBe A0 outer s0 H vs Q E hr h=>?_)
 ·obtain ⟨F,G,s,ls,A,L,_,g,nd,b,rt,gd,S,lim,xs,rfl,⟨ow,ea,eb,rfl⟩,P,q1⟩:=h;have BZ:Ax 1 _:=hr.mono ⟨⟩;have QP:Ax 4 _:=hr.mono ⟨⟩;obtain ⟨p,ra,rb,rfl,hp,ha,hb⟩:=P.he;refine ⟨_,(Af (As (Bp (Ar (Ag 0)) T.cl Z.ms QP (Aa (Ag 3) (Aa (Qj (AE (r:=ZH K false) J8 (eI 1) (Az (Aa Ap (Aa Ap Ae))) rfl) (Ar (Ag 0)) (Ar (Ag 0))) Ae))))
   (Af (As (Bp (Ag 0) TF.cl Y.ask BZ (Aa (eI 1) (Aa (Ag 2) (Aa (Ar (Ag 0)) Ae)))))
   (Ak (As (Bp (Ag 0) TF.cl Y.ask BZ (Aa (eI 1) (Aa (Ag 2) (Aa (Ar (Ag 0)) Ae)))))))),?_⟩
  have o:=P.M.ok;have nn:=P.nn;simp only [Ex.sz] at nn;apply AL P.M TF rfl ?_;apply An hp (v:=.str ow) rfl ?_;apply DV (DU (no rfl)) λl1 H1 CB s1 e1=>?_;have t1:=P.th.same s1;apply T8 (.inr (BL.of e1)) rfl rfl ?_;apply WJ rfl t1.fa TF λx hx hbx=>?_;apply t1.abb o P.hn hx () P.kn.ne (fun σ z=>let ⟨_,_,y⟩:=P.hk σ z;y.inv.1.trans (WI (P.kn.z σ z) hbx)) λs2 H2 t2=>?_;apply ⟨F.p,F.dx,_,rfl,t2.fa.ins,rfl,?_⟩;apply An (t2.ks.tup _ _ hp) (v:=ra) rfl ?_;apply ⟨F.p,CF,F.dx,_,_,rfl,t2.fa.ins,TF.cl,TF.nU,rfl,?_⟩;apply QR P (n:=0) t2 ha t2.fa.z0.1 P.cl.1 (fun σ z=>let ⟨Γ,y0,y⟩:=P.hk σ z;⟨Γ,y0,by rw [(P.kn.z σ z).1];exact y.inv.2.1⟩) λH3 t3=>?_;apply ⟨F.p,F.dx,_,rfl,t3.fa.ins,rfl,?_⟩;apply An (t3.ks.tup _ _ hp) (v:=rb) rfl ?_;apply ⟨F.p,CF,F.dx,_,_,rfl,t3.fa.ins,TF.cl,TF.nU,rfl,?_⟩;apply QR P (n:=0) t3 hb t3.fa.z0.1 P.cl.2 (fun σ z=>let ⟨Γ,y0,y⟩:=P.hk σ z;⟨Γ,y0,by rw [(P.kn.z σ z).1];exact y.inv.2.2⟩) λH4 t4=>?_;left;exact Ej P q1 t4
theorem bD:Am ["finder","tree","given","node","one","other"] ["finder","tree","given","node"] (Ah EL):=nofun
theorem lu (F:C7 K "find_open" "find_open" EL f fd)(TF:D7 K mg CF)(T:Cd K mg C)(Z:NM Pr w K mg base C)(Y:FM Pr w K mg base C CF):Au Pr w K mg base AN 6 f fd ["finder","tree","given","node"] (B4 C CF λe=>∃ a x y b,e=.opn a x y b):=by
 refine F.okS bD (λBe A0 outer s0 H vs Q E hr h=>?_)
 ·obtain ⟨F,G,s,ls,A,L,_,g,nd,b,rt,gd,S,lim,xs,rfl,⟨ea,x,y,eb,rfl⟩,P,q1⟩:=h;obtain ⟨S1,P,hS⟩:=P.pick (Φ:=fun Γ σ=>σ (s.n+2)=.pr (σ s.n) (σ (s.n+1))/\HK Γ ea (σ (s.n+2))/\HK ((Γ.put x (·=σ s.n)).put y (·=σ (s.n+1))) eb (σ nd)) fun σ Γ h=>by
   obtain ⟨a,r,h1,h2⟩:=h.inv;refine ⟨[a,r,.pr a r],fun σ1 w w'=>?_⟩;simp only [w,show σ1 s.n=a from w' 0,show σ1 (s.n+1)=r from w' 1,show σ1 (s.n+2)=.pr a r from w' 2];exact ⟨trivial,h1,h2⟩
  have BZ:Ax 1 _:=hr.mono ⟨⟩;have DW:Ax 2 _:=hr.mono ⟨⟩;obtain ⟨p,ra,rb,rfl,hp,ha,hb⟩:=P.he;refine ⟨_,(Af (Aq (i:=4) bD.nd rfl (.inl rfl) (Dh (Ar (Ag 0)) T.cl Z.ng DW))
   (Af (Aq (i:=5) bD.nd rfl (.inl rfl) (Dh (Ar (Ag 0)) T.cl Z.ng DW))
   (Af (As (Bp (Ag 0) TF.cl Y.ask BZ (Aa (eI 1) (Aa (Ag 2) (Aa (Bp (Ar (Ag 0)) T.cl Z.nn BZ (Aa Ap (Aa (B0 (Aa (Ag 4) (Aa (Ag 5) Ae))) Ae))) Ae)))))
   (Ak (As (Bp (Ag 0) TF.cl Y.ask BZ (Aa (eI 1) (Aa (Bp (Ag 0) TF.cl Y.gt BZ (Aa (Ag 2) (Aa (ED (Ck (eI 1) (Ag 4) (Ck (eI 1) (Ag 5) GH)) rfl rfl (by simp) ⟨⟩) Ae))) (Aa (Ag 3) Ae))))))))),?_⟩
  have o:=P.M.ok;have nn:=P.nn;simp only [Ex.sz] at nn;apply AL P.M TF rfl ?_;apply P.th.gap o () λHo H1 t1=>?_;apply AL t1.fa TF rfl ?_;apply t1.gap o () λIV H2 t2=>?_;apply ⟨F.p,F.dx,_,rfl,t2.fa.ins,rfl,?_⟩;apply An (t2.ks.tup _ _ hp) (v:=ra) rfl ?_;apply AL t2.fa TF rfl ?_;apply DV (DU (no rfl)) λl3 H3 MB s3 e3=>?_;left;have a1:plus (plus A s.n) (s.add 2 []).n s.n:=.inl (.inr rfl);have a2:plus (plus A s.n) (s.add 2 []).n (s.n+1):=.inr rfl;have a3:plus (plus A s.n) (s.add 2 []).n nd:=.inl (.inl P.hn);refine (t2.same s3).node (g:=4) (cs:=[s.n,s.n+1]) o e3 (t2.fa.fre MB) (Ij a1 a2) ⟨⟩ rfl () (fun σ z=>let ⟨Γ,y0,y1,_⟩:=hS σ z;y1) λkS H4 t4=>?_;apply QR P t4 ha (.inr rfl) P.cl.1 (fun σ z=>let ⟨Γ,y0,_,y2,_⟩:=hS σ z;⟨Γ,y0,y2⟩) λH5 t5=>?_;apply ⟨F.p,F.dx,_,rfl,t5.fa.ins,rfl,?_⟩;apply An (t5.ks.tup _ _ hp) (v:=rb) rfl ?_;apply ⟨F.p,F.dx,_,rfl,t5.fa.ins,rfl,?_⟩;apply Eb λnl H6 KP s6 e6=>?_;apply An (s6 _ _ (t5.ks.tup _ _ hp)) (v:=.str x) rfl ?_;apply An (s6 _ _ (t5.ks.tup _ _ hp)) (v:=.str y) rfl ?_;apply ⟨e6,[(.inr x,.int ((s.n:Nat):Int)),(.inr y,.int ((s.n+1:Nat):Int))],rfl,by simp,λK6 k6 e6=>?_⟩;left;have s6:Ai _ K6:=λb o e=>by rw [k6 b (Ab e KP)];exact s6 _ _ e
  rw [pV] at e6;refine t5.too (ks:=Gu x y (s.n) (s.n+1)) (P.hg.mono t5.ks) s6 KP e6 (Kj ..) P.b9 λd H7 s7 t7 g7=>?_;apply v8 P t7 g7 hb (.inl a3) (Ki (.inl a1) (.inl a2)) P.cl.2 P.hs.two (fun σ z=>let ⟨Γ,y0,_,_,y3⟩:=hS σ z;⟨Γ,y0,HK.two y3⟩) λH8 t8=>?_;left;exact Ej P q1 t8
theorem bE:Am ["finder","tree","given","node","one","whole"] ["finder","tree","given","node"] (Ah E8):=nofun
theorem lx (F:C7 K "find_split" "find_split" E8 f fd)(TF:D7 K mg CF)(T:Cd K mg C)(Z:NM Pr w K mg base C)(Y:FM Pr w K mg base C CF):Au Pr w K mg base AN 6 f fd ["finder","tree","given","node"] (B4 C CF λe=>∃ a b x y c,e=.spl a b x y c):=by
 refine F.okS bE (λBe A0 outer s0 H vs Q E hr h=>?_)
 ·obtain ⟨F,G,s,ls,A,L,_,g,nd,b,rt,gd,S,lim,xs,rfl,⟨ea,eb,x,y,ec,rfl⟩,P,q1⟩:=h;obtain ⟨S1,P,hS⟩:=P.pick (Φ:=fun Γ σ=>σ (s.n+1)=.ls (σ s.n)/\HK Γ ea (σ (s.n+1))/\HK Γ eb (σ nd)/\HK ((Γ.put x (·=σ s.n)).put y (·=σ (s.n+1))) ec (σ nd)) fun σ Γ h=>by
   obtain ⟨a,h1,h2,h3⟩:=h.inv;refine ⟨[a,.ls a],fun σ1 w w'=>?_⟩;simp only [w,show σ1 s.n=a from w' 0,show σ1 (s.n+1)=.ls a from w' 1];exact ⟨trivial,h1,h2,h3⟩
  have BZ:Ax 1 _:=hr.mono ⟨⟩;have DW:Ax 2 _:=hr.mono ⟨⟩;obtain ⟨p,ra,rb,rc,rfl,hp,ha,hb,hc⟩:=P.he;refine ⟨_,(Af (Aq (i:=4) bE.nd rfl (.inl rfl) (Dh (Ar (Ag 0)) T.cl Z.ng DW))
   (Af (Aq (i:=5) bE.nd rfl (.inl rfl) (Bp (Ar (Ag 0)) T.cl Z.nn BZ (Aa Ap (Aa (B0 (Aa (Ag 4) Ae)) Ae))))
   (Af (As (Bp (Ag 0) TF.cl Y.ask BZ (Aa (eI 1) (Aa (Ag 2) (Aa (Ag 5) Ae)))))
   (Af (As (Bp (Ag 0) TF.cl Y.ask BZ (Aa (eI 1) (Aa (Ag 2) (Aa (Ag 3) Ae)))))
   (Ak (As (Bp (Ag 0) TF.cl Y.ask BZ (Aa (eI 1) (Aa (Bp (Ag 0) TF.cl Y.gt BZ (Aa (Ag 2) (Aa (ED (Ck (eI 1) (Ag 4) (Ck (eI 1) (Ag 5) GH)) rfl rfl (by simp) ⟨⟩) Ae))) (Aa (Ag 3) Ae)))))))))),?_⟩
  have o:=P.M.ok;have nn:=P.nn;simp only [Ex.sz] at nn;apply AL P.M TF rfl ?_;apply P.th.gap o () λHo H1 t1=>?_;apply AL t1.fa TF rfl ?_;apply DV (DU (no rfl)) λl2 H2 D9 s2 e2=>?_;apply (t1.same s2).node (g:=5) (cs:=[s.n]) o e2 (t1.fa.fre D9) (NS (.inr rfl)) ⟨⟩ rfl () (fun σ z=>let ⟨Γ,y0,y1,_⟩:=hS σ z;y1) λls3 H3 t3=>?_;have a1:plus (plus A s.n) (s.add 2 []).n s.n:=.inl (.inr rfl);have a2:plus (plus A s.n) (s.add 2 []).n (s.n+1):=.inr rfl;have a3:plus (plus A s.n) (s.add 2 []).n nd:=.inl (.inl P.hn);apply ⟨F.p,F.dx,_,rfl,t3.fa.ins,rfl,?_⟩;apply An (t3.ks.tup _ _ hp) (v:=ra) rfl ?_;apply QR P t3 ha a2 P.cl.1 (fun σ z=>let ⟨Γ,y0,_,y2,_⟩:=hS σ z;⟨Γ,y0,y2⟩) λH4 t4=>?_;apply ⟨F.p,F.dx,_,rfl,t4.fa.ins,rfl,?_⟩;apply An (t4.ks.tup _ _ hp) (v:=rb) rfl ?_;apply QR P t4 hb a3 P.cl.2.1 (fun σ z=>let ⟨Γ,y0,_,_,y2,_⟩:=hS σ z;⟨Γ,y0,y2⟩) λH5 t5=>?_;apply ⟨F.p,F.dx,_,rfl,t5.fa.ins,rfl,?_⟩;apply An (t5.ks.tup _ _ hp) (v:=rc) rfl ?_;apply ⟨F.p,F.dx,_,rfl,t5.fa.ins,rfl,?_⟩;apply Eb λnl H6 KP s6 e6=>?_;apply An (s6 _ _ (t5.ks.tup _ _ hp)) (v:=.str x) rfl ?_;apply An (s6 _ _ (t5.ks.tup _ _ hp)) (v:=.str y) rfl ?_;apply ⟨e6,[(.inr x,.int ((s.n:Nat):Int)),(.inr y,.int ((s.n+1:Nat):Int))],rfl,by simp,λK6 k6 e6=>?_⟩;left;have s6:Ai _ K6:=λb o e=>by rw [k6 b (Ab e KP)];exact s6 _ _ e
  rw [pV] at e6;refine t5.too (ks:=Gu x y (s.n) (s.n+1)) (P.hg.mono t5.ks) s6 KP e6 (Kj ..) P.b9 λd H7 s7 t7 g7=>?_;apply v8 P t7 g7 hc a3 (Ki a1 a2) P.cl.2.2 P.hs.two (fun σ z=>let ⟨Γ,y0,_,_,_,y3⟩:=hS σ z;⟨Γ,y0,HK.two y3⟩) λH8 t8=>?_;left;exact Ej P q1 t8
theorem lz:Am ["finder","tree","given","node","first"] ["finder","tree","given","node"] (Ah Fs):=nofun
theorem lA (F:C7 K "find_let" "find_let" Fs f fd)(TF:D7 K mg CF)(T:Cd K mg C)(Z:NM Pr w K mg base C)(Y:FM Pr w K mg base C CF):Au Pr w K mg base AN 6 f fd ["finder","tree","given","node"] (B4 C CF λe=>∃ x a b,e=.lt x a b):=by
 refine F.okS lz (λBe A0 outer s0 H vs Q E hr h=>?_)
 ·obtain ⟨F,G,s,ls,A,L,_,g,nd,b,rt,gd,S,lim,xs,rfl,⟨x,ea,eb,rfl⟩,P,q1⟩:=h;have BZ:Ax 1 _:=hr.mono ⟨⟩;have DW:Ax 2 _:=hr.mono ⟨⟩;have he:=P.he;obtain ⟨p,ra,rb,rfl,hp,ha,hb⟩:=id he;refine ⟨_,(Af (As (Dh (Ar (Ag 0)) T.cl Z.dp BZ))
   (Af (Aq (i:=4) lz.nd rfl (.inl rfl) (Dh (Ar (Ag 0)) T.cl Z.ng DW))
   (Af (As (Bp (Ag 0) TF.cl Y.abf BZ (Aa (Ag 1) (Aa (Ag 2) (Aa (Ag 3) (Aa (Ag 4) Ae))))))
   (Ak (As (Bp (Ag 0) TF.cl Y.ask BZ (Aa (eI 1) (Aa (Ag 2) (Aa (Ag 4) Ae))))))))),?_⟩
  have o:=P.M.ok;have nn:=P.nn;have ll:=P.len;have hz:=P.hb;simp only [Ex.sz] at nn;apply AL P.M TF rfl ?_;apply ⟨F.N,s,ls,rfl,P.M.nod,λH1 N1 f1=>?_⟩;have oD:Ok { s with k:=s.k+1 } A:=o.deeper;have M1:DC C CF F H1 { s with k:=s.k+1 } ls A L:=P.M.work N1 oD ⟨P.M.art.tg,P.M.art.ar⟩ P.M.z0 P.M.z1 f1 P.M.aw.2.2.2.2;have k1:=KS.off P.M.nod f1;apply AL M1 TF rfl ?_;apply NP M1 (by show s.n < 1000000;omega) λIV H2 M2 k2=>?_;have lB:=k1.trans k2;apply ⟨F.p,F.dx,_,rfl,M2.ins,rfl,?_⟩;apply ⟨F,_,IV,_,L,.lt x ea eb,g,nd,b,s.n,.ref p,gd,rfl,M2,BD.mono lB.tup he,P.hg.mono lB,hz,(),λH3 M3 k3=>?_⟩;have TM:=lB.trans k3;apply ⟨F.p,F.dx,_,rfl,M3.ins,rfl,?_⟩;apply An (TM.tup _ _ hp) (v:=ra) rfl ?_;left;have h1:(Ex.lt x ea eb).sz=1+ea.sz+eb.sz:=rfl;refine ⟨F,_,IV,_,_,ea,g,s.n,b,ra,gd,rfl,M3,BD.mono TM.tup ha,P.hg.mono TM,(),by rw [sB];omega,λH4 M4 k4=>?_⟩;left;obtain ⟨S1,so1,rl1,sk1⟩:=Sk.abw o P.kn.sol P.hn P.gk P.cl P.hs P.hk P.st (am _);refine q1 _ _ _ S1 _ H4 M4 ((P.kn.rl o rl1).on so1 (IR _)) sk1 ?_ (TM.trans k4) (IR _);rw [DH,DH];show 2 * ea.sz+(2 * (1+ea.sz+eb.sz) - 1 - 2 * ea.sz+fm L) < fm L+2 * (1+ea.sz+eb.sz);omega
noncomputable def bG (C CF:Addr):Sp:=λvs H Q _=>∃ (F:FA) (G:Kd) (S:Sg->Prop) (s:Ns) (ls:List Addr) (A:Nat->Prop) (L:List Fe) (x:Str) (a e:Ex) (g:Gv) (nd b f:Nat) (rt:V) (gd:Addr) (lim:Nat),vs=[.ref F.p,rt,.ref gd,.int ((nd:Nat):Int),.int ((f:Nat):Int)]/\DC C CF F H s ls A L/\BD H (.lt x a e) rt/\GV H gd g b/\b+2 * (Ex.lt x a e).sz<=900000/\Kn s S G/\Sk s A S lim s.k s.n (⟨.lt x a e,g,nd,some f⟩::L)/\lim<=800000/\L.length<=800000 /\
 ∀ s' CN A' S' L' H',DC C CF F H' s' CN A' L'->Kn s' S' G->Sk s' A' S' lim s'.k s'.n L'->fm L' < fm (⟨.lt x a e,g,nd,some f⟩::L)->KS H H'->s.n<=s'.n->Q .non H'
theorem vg:Am ["finder","tree","given","node","first"] ["finder","tree","given","node","first"] (Ah Ca):=nofun
theorem lC (F:C7 K "go_on_behind_first" "go_on_behind_first" Ca f fd)(TF:D7 K mg CF)(T:Cd K mg C)(Z:NM Pr w K mg base C)(Y:FM Pr w K mg base C CF):Au Pr w K mg base AN 6 f fd ["finder","tree","given","node","first"] (bG C CF):=by
 refine F.okS vg (λBe A0 outer s0 H vs Q E hr h=>?_)
 ·obtain ⟨F,G,S,s,ls,A,L,x,ea,eb,g,nd,b,f,rt,gd,lim,rfl,M,he,hg,hz,kn,st,lm,ll,q⟩:=h;have BZ:Ax 1 _:=hr.mono ⟨⟩;have bz:Ax 3 _:=hr.mono ⟨⟩;obtain ⟨p,ra,rb,rfl,hp,ha,hb⟩:=id he;refine ⟨_,(Af (As (Bp (Ar (Ag 0)) T.cl Z.cb bz (Aa (Ag 4) Ae)))
   (Ak (As (Bp (Ag 0) TF.cl Y.ask BZ (Aa (eI 1) (Aa (Bp (Ag 0) TF.cl Y.gt BZ (Aa (Ag 2) (Aa (ED (Ck (eI 1) (Ag 4) GH) rfl rfl (by simp) ⟨⟩) Ae))) (Aa (Ag 3) Ae))))))),?_⟩
  have nl:=st.lm;obtain ⟨k,ek,hf⟩:∃ k,s.k=k+1/\A f:=by
   generalize s.k=k0 at st;cases st with
   | back _ _ h _ _ _ _ _ _ _=>exact ⟨_,rfl,h.1⟩
  apply AL M TF rfl ?_;apply ⟨F.N,s,ls,A,f,rfl,M.nod,M.ok,M.art,hf,(),(),λs1 H1 N1 d1 f1=>?_⟩;have M1:DC C CF F H1 s1 ls (Gp s1 A) L:=M.work N1 (Down.ok M.ok d1) ⟨λi hi=>by rw [d1.tg];exact M.art.tg i (by rw [<- d1.n];exact hi),λi hi=>by rw [d1.tg,d1.ch];exact M.art.ar i (by rw [<- d1.n];exact hi)⟩ (M.z0.down d1) (M.z1.down d1) f1 M.aw.2.2.2.2;have k1:=KS.off M.nod f1;have ek1:s1.k=k:=by have:=d1.k;omega
  apply ⟨F.p,F.dx,_,rfl,M1.ins,rfl,?_⟩;apply An (k1.tup _ _ hp) (v:=rb) rfl ?_;apply ⟨F.p,F.dx,_,rfl,M1.ins,rfl,?_⟩;apply Eb λnl H2 KP s2 e2=>?_;apply An (s2 _ _ (k1.tup _ _ hp)) (v:=.str x) rfl ?_;apply ⟨e2,[(.inr x,.int ((f:Nat):Int))],rfl,by simp,λK6 k6 e6=>?_⟩;left;have s6:Ai H1 K6:=λb o e=>by rw [k6 b (Ab e KP)];exact s2 _ _ e
  refine ⟨F,s1,ls,_,L,g,b,gd,nl,[(x,f)],H1,rfl,M1,s6,KP,e6,hg.mono k1,by simp,(),λd H3 s3 g3=>?_⟩;have M3:=M1.same s3;have k3:=k1.trans (KS.of_same s3);left;have h1:(Ex.lt x ea eb).sz=1+ea.sz+eb.sz:=rfl;refine ⟨F,s1,ls,_,L,eb,g.aan s1.k [(x,f)],nd,b+1,rb,d,rfl,M3,BD.mono k3.tup hb,g3,(),(),λH4 M4 k4=>?_⟩;left;have G5:=Sk.abx M.ok M.art kn.sol kn.ne d1 ek (ek▸st);refine q s1 ls _ S _ H4 M4 (kn.on (fun σ z=>(BA.down d1).mpr (kn.sol σ z)) (Nat.le_of_eq d1.n.symm)) ?_ ?_ (k3.trans k4) (Nat.le_of_eq d1.n.symm)
  ·rw [d1.n,ek1];exact G5
  ·rw [DH,DH];show 2 * eb.sz+fm L < 2 * (1+ea.sz+eb.sz) - 1 - 2 * ea.sz+fm L;omega
noncomputable def Kk (C CF:Addr):List (Str × Sp):=[("name",B4 C CF λe=>∃ x,e=.nm x),("number",B4 C CF λe=>∃ i,e=.num i),("truth",B4 C CF λe=>∃ i,e=.tru i),("empty",B4 C CF λe=>e=.emp),("fun",B4 C CF λe=>∃ x b,e=.fn x b),("rec",B4 C CF λe=>∃ f x b,e=.rc f x b),("call",B4 C CF λe=>∃ a b,e=.cal a b),("let",B4 C CF λe=>∃ x a b,e=.lt x a b),("when",B4 C CF λe=>∃ a b c,e=.wh a b c),("pair",B4 C CF λe=>∃ a b,e=.pr a b),("open",B4 C CF λe=>∃ a x y b,e=.opn a x y b),("link",B4 C CF λe=>∃ a b,e=.lk a b),("split",B4 C CF λe=>∃ a b x y c,e=.spl a b x y c),("op",B4 C CF λe=>∃ w a b,e=.op w a b)]
theorem QS (e:Ex):∃ P:Ex->Prop,(e.wd,B4 C CF P)∈Kk C CF/\P e:=by
 cases e <;> exact ⟨_,by simp only [Kk,Ex.wd,gz];first | exact .inl rfl | exact .inr (.inl rfl) | exact .inr (.inr (.inl rfl)) | exact .inr (.inr (.inr (.inl rfl))) | exact .inr (.inr (.inr (.inr (.inl rfl)))) | exact .inr (.inr (.inr (.inr (.inr (.inl rfl))))) | exact .inr (.inr (.inr (.inr (.inr (.inr (.inl rfl)))))) | exact .inr (.inr (.inr (.inr (.inr (.inr (.inr (.inl rfl))))))) | exact .inr (.inr (.inr (.inr (.inr (.inr (.inr (.inr (.inl rfl)))))))) | exact .inr (.inr (.inr (.inr (.inr (.inr (.inr (.inr (.inr (.inl rfl))))))))) | exact .inr (.inr (.inr (.inr (.inr (.inr (.inr (.inr (.inr (.inr (.inl rfl)))))))))) | exact .inr (.inr (.inr (.inr (.inr (.inr (.inr (.inr (.inr (.inr (.inr (.inl rfl))))))))))) | exact .inr (.inr (.inr (.inr (.inr (.inr (.inr (.inr (.inr (.inr (.inr (.inr (.inl rfl)))))))))))) | exact .inr (.inr (.inr (.inr (.inr (.inr (.inr (.inr (.inr (.inr (.inr (.inr (.inr (.inl rfl))))))))))))),by simp⟩
theorem WK (h:Sk s A S lim k m (p::r)):(∃ e g nd xs,p=⟨e,g,nd,none⟩/\A nd/\Hl s A k 7 g/\e.cl xs/\Ia g xs/\Hk s A S g e nd/\Sk s A S lim k (m+10 * e.sz) r)\/∃ x a e g nd f,p=⟨.lt x a e,g,nd,some f⟩:=by
 cases h with
 | ask h1 h2 h3 h4 h5 h6 h7=>exact .inl ⟨_,_,_,_,rfl,h1,h3,h4,h5,h6,h7⟩
 | back=>exact .inr ⟨_,_,_,_,_,_,rfl⟩
noncomputable def TN (C CF:Addr):Sp:=λvs H Q _=>∃ (F:FA) (G:Kd) (S:Sg->Prop) (s:Ns) (ls:List Addr) (A:Nat->Prop) (L:List Fe) (lim:Nat),vs=[.ref F.p]/\DC C CF F H s ls A L/\Kn s S G/\Sk s A S lim s.k s.n L/\lim<=800000/\fm L<=800000 /\
 ∀ s' CN A' S' H',DC C CF F H' s' CN A' []->Kn s' S' G->s'.n<=lim->s.n<=s'.n->KS H H'->Q .non H'
theorem lD:Am ["self","entry"] ["self"] (Ah Bu):=nofun
theorem bH (F:C7 K "ask_all" "Finder.ask_all" Bu f fd)(TF:D7 K mg CF)(kd:FU w K aR rows)(mR:mg "RULES"=some (.ref aR))(R:Fu Pr w K mg base AN 6 ["finder","tree","given","node"] rows (Kk C CF))(vh:Cl Pr w K mg base 6 "go_on_behind_first" ["finder","tree","given","node","first"] (bG C CF)):Au Pr w K mg base AN 7 f fd ["self"] (TN C CF):=by
 refine F.okS lD (λBe A0 outer s0 H vs Q E hr h=>?_)
 ·obtain ⟨F,G,S,s,ls,A,L,lim,rfl,M,kn,st,lm,fl,q1⟩:=h;have lE:Ax 6 _:=hr;refine ⟨_,(Ak (Dl v0 (Cf (Ar (Ag 0))) (Af (Aq (i:=1) lD.nd rfl (.inl rfl) (EC im EQ Fa Ew (Ar (Ag 0))))
   (Ak (BE (AE ML (eI 1) EB (Aw _)) (Ak (As (Wd kd R Jd lE rfl mR (BN (r:=GQ K) Et (eI 1) Aj D0) D0 (Aa (Ag 0) (Aa (eI 1) (Aa (eI 1) (Aa (eI 1) Ae))))))) (Ak (As (Bd vh lE rfl (Aa (Ag 0) (Aa (eI 1) (Aa (eI 1) (Aa (eI 1) (Aa (eI 1) Ae))))))))))))),?_⟩
  obtain ⟨vi,e0⟩:∃ k,s.n=k:=⟨_,rfl⟩;have q1:∀ s' CN A' S' H',DC C CF F H' s' CN A' []->Kn s' S' G->s'.n<=lim->vi<=s'.n->KS H H'->Q .non H':=λs' CN A' S' H' a k b c=>q1 s' CN A' S' H' a k b (by rw [e0];exact c);refine ⟨λm σ H2=>∃ s ls A S L x1,σ=[some (.ref F.p),x1]/\m=fm L/\DC C CF F H2 s ls A L/\Kn s S G/\Sk s A S lim s.k s.n L/\fm L<=800000/\KS H H2/\vi<=s.n,⟨_,s,ls,A,S,L,_,rfl,rfl,M,kn,st,fl,KS.of_same (Ai.refl _),Nat.le_of_eq e0.symm⟩,?_⟩;clear M kn st fl e0 ls A S L;rintro m σ H2 ⟨s,ls,A,S,L,x1,rfl,rfl,M,kn,st,fl,k2,ge⟩;obtain ⟨ws,hw,pw⟩:=M.wt;refine ⟨_,rfl,F.p,CF,F.dx,_,_,rfl,M.ins,TF.cl,TF.nW,rfl,!ws.isEmpty,.inl ⟨ws,AI.of hw,rfl⟩,?_⟩;cases L with
  | nil =>
   have TQ:ws=[]:=by
    have:=AC pw;simpa using this.symm
   subst TQ;refine Bx ?_;have sl:=st.lm;exact q1 s ls A S H2 M kn sl ge k2
  | cons p L =>
   obtain ⟨v,vs,hv,fv,fvs⟩:∃ v vs,ws.reverse=v::vs/\NO H2 p v/\Paired (NO H2) L vs:=by
    generalize ws.reverse=rs at pw;cases pw with
    | cons k1 k2=>exact ⟨_,_,rfl,k1,k2⟩
   have TQ:ws=vs.reverse++[v]:=by
    have:=congrArg List.reverse hv;simpa using this
   have ne:(!ws.isEmpty)=true:=(by rw [TQ];simp);rw [ne];refine CQ ⟨_,fun σ' H' z=>z,?_⟩;have dl:ws.dropLast=vs.reverse:=(by rw [TQ];simp);obtain ⟨M3,k3⟩:=M.wait (L':=L) (ws:=vs.reverse) (by rw [List.reverse_reverse];exact fvs);apply ⟨F.p,CF,F.dx,_,_,rfl,M.ins,TF.cl,TF.nW,rfl,.inl ⟨rfl,_,AI.of hw⟩,F.w,ws,v,rfl,rfl,hw,by rw [TQ];simp,?_⟩;rw [dl];generalize upd H2 F.w (.lst vs.reverse)=H3 at M3 k3 ⊢;obtain ⟨t,rt,gd,b,rfl,ht,he,hg,hb⟩:=fv.mono k3;have TM:=k2.trans k3;apply An ht (v:=bo p.fs) rfl ?_;apply ⟨rfl,_,rfl,?_⟩;rw [DH] at fl;have step:∀ s' CN A' S' L' H',DC C CF F H' s' CN A' L'->Kn s' S' G->Sk s' A' S' lim s'.k s'.n L'->fm L' < fm (p::L)->KS H H'->s.n<=s'.n->∃ m',m' < fm (p::L)/\∃ s ls A S L x1,([some (.ref F.p),some (.ref t)]:St)=[some (.ref F.p),x1]/\m'=fm L/\DC C CF F H' s ls A L/\Kn s S G/\Sk s A S lim s.k s.n L/\fm L<=800000/\KS H H'/\vi<=s.n :=
    λs' CN A' S' L' H' M' Rp G5 f' k' g'=>⟨_,f',s',CN,A',S',L',_,rfl,rfl,M',Rp,G5,by rw [DH] at f';omega,k',ce ge g'⟩
   rcases WK st with ⟨e,g,nd,xs,rfl,h1,h3,h4,h5,h6,h7⟩ | ⟨x,a,e,g,nd,f,rfl⟩
   ·refine Cm rfl ?_;apply An ht (v:=rt) rfl ?_;have he:BD H3 e rt:=he;obtain ⟨p0,us,rfl,JA,_,_⟩:=he.look;apply An JA (v:=.str e.wd) (Ao (j:=0) rfl) ?_;obtain ⟨P,hm,hP⟩:=QS (C:=C) (CF:=CF) e;refine ⟨_,_,rfl,hm,?_⟩;apply An ht (v:=.ref p0) rfl ?_;apply An ht (v:=.ref gd) rfl ?_;apply An ht (v:=.int ((nd:Nat):Int)) rfl ?_;left;have f1:bh ⟨e,g,nd,none⟩=2 * e.sz:=rfl;refine ⟨F,G,s,ls,A,L,e,g,nd,b,.ref p0,gd,S,lim,xs,rfl,hP,⟨M3,he,hg,hb,h1,h3,h4,h5,h6,kn,h7,lm,()⟩,λs' CN A' S' L' H' M' Rp G5 f' k' g'=>?_⟩;exact step s' CN A' S' L' H' M' Rp G5 (by rw [DH];omega) (TM.trans k') g'
   ·refine BY (by show ¬ (decide (bo (some f)=V.non)=true);simp [bo]) ?_;apply An ht (v:=rt) rfl ?_;apply An ht (v:=.ref gd) rfl ?_;apply An ht (v:=.int ((nd:Nat):Int)) rfl ?_;apply An ht (v:=.int ((f:Nat):Int)) rfl ?_;left;have lL:=TH λq hq=>Sk.pos st q (.tail _ hq);refine ⟨F,G,S,s,ls,A,L,x,a,e,g,nd,b,f,rt,gd,lim,rfl,M3,he,hg,hb,kn,st,lm,(),λs' CN A' S' L' H' M' Rp G5 f' k' g'=>?_⟩;exact step s' CN A' S' L' H' M' Rp G5 f' (TM.trans k') g'
theorem lF {H0 H:Hp}{p a:Addr}{o u x:HO}(k:∀ b o,H0 b=some o->b≠p->H b=some o)(hp:H p=some x)(ha:H a=none):
  (upd (upd H a o) p u) p=some u/\(upd (upd H a o) p u) a=some o/\(∀ b y,H b=some y->b≠p->(upd (upd H a o) p u) b=some y)/\(∀ b o',H0 b=some o'->b≠p->(upd (upd H a o) p u) b=some o')/\a≠p:=by
 have n:a≠p:=be (Ab hp ha);have kk:∀ b y,H b=some y->b≠p->(upd (upd H a o) p u) b=some y:=λb y e nb=>by rw [Ac nb,Ac (Ab e ha)];exact e
 exact ⟨Ad,by rw [Ac n,Ad],kk,λb o' e nb=>kk b o' (k b o' e nb) nb,n⟩
noncomputable def LW:Ns:={ n:=0,tg:=λ_=>0,ch:=λ_=>[],rp:=id,lv:=λ_=>0,k:=0 }
noncomputable def lG (C:Addr):Sp:=λvs H Q _=>∃ (p dx:Addr),vs=[.ref p]/\H p=some (.ins C dx [])/\∀ (N:NA) H',N.p=p->N.gk=[]->Bv C N H' LW []->(∀ b o,H b=some o->b≠p->H' b=some o)->Q .non H'
theorem vj:Am ["self"] ["self"] (Ah Bs):=nofun
theorem lH (F:C7 K "__init__" "Nodes.__init__" Bs f fd)(T:Cd K mg C):Au Pr w K mg base AN 1 f fd ["self"] (lG C):=by
 refine F.okS vj (λBe A0 outer s0 H vs Q E hr h=>?_)
 ·obtain ⟨p,dx,rfl,hp,q⟩:=h;refine ⟨_,(Af (Fd (Ag 0) (B0 Ae))
   (Af (Fd (Ag 0) (B0 Ae))
   (Af (Fd (Ag 0) (B0 Ae))
   (Af (Fd (Ag 0) (B0 Ae))
   (Af (Fd (Ag 0) Aj)
   (Ak (Fd (Ag 0) E3))))))),?_⟩
  refine ⟨by simp,λaS hS=>⟨_,rfl,p,C,dx,_,rfl,by rw [Ac (Ab hp hS)];exact hp,T.cl,T.nS,by simp,?_⟩⟩;obtain ⟨p1,s1,k1,g1,nS⟩:=lF (o:=.lst []) (u:=.ins C dx (AZ "sorts" (.ref aS) [])) (λb o e _=>e) hp hS;generalize upd (upd H aS (.lst [])) p (.ins C dx (AZ "sorts" (.ref aS) []))=H1 at p1 s1 k1 g1 ⊢;refine ⟨by simp,λaI hI=>⟨_,rfl,p,C,dx,_,rfl,by rw [Ac (Ab p1 hI)];exact p1,T.cl,T.nI,by show 1 < 1000;decide,?_⟩⟩;obtain ⟨p2,i2,k2,g2,nI⟩:=lF (o:=.lst []) (u:=.ins C dx (AZ "inner" (.ref aI) (AZ "sorts" (.ref aS) []))) g1 p1 hI;have si:aS≠aI:=Ab s1 hI;have s2:=k2 _ _ s1 nS;generalize upd (upd H1 aI (.lst [])) p (.ins C dx (AZ "inner" (.ref aI) (AZ "sorts" (.ref aS) [])))=H2 at p2 i2 k2 g2 s2 ⊢;refine ⟨by simp,λaL hL=>⟨_,rfl,p,C,dx,_,rfl,by rw [Ac (Ab p2 hL)];exact p2,T.cl,T.nL,by show 2 < 1000;decide,?_⟩⟩;obtain ⟨p3,l3,k3,g3,nL⟩:=lF (o:=.lst []) (u:=.ins C dx (AZ "leaders" (.ref aL) (AZ "inner" (.ref aI) (AZ "sorts" (.ref aS) [])))) g2 p2 hL;have sl:aS≠aL:=Ab s2 hL;have il:aI≠aL:=Ab i2 hL;have s3:=k3 _ _ s2 nS;have i3:=k3 _ _ i2 nI;generalize upd (upd H2 aL (.lst [])) p (.ins C dx (AZ "leaders" (.ref aL) (AZ "inner" (.ref aI) (AZ "sorts" (.ref aS) []))))=H3 at p3 l3 k3 g3 s3 i3 ⊢;refine ⟨by simp,λaV hV=>⟨_,rfl,p,C,dx,_,rfl,by rw [Ac (Ab p3 hV)];exact p3,T.cl,T.nV,by show 3 < 1000;decide,?_⟩⟩;obtain ⟨p4,v4,k4,g4,nV⟩:=lF (o:=.lst []) (u:=.ins C dx (AZ "levels" (.ref aV) (AZ "leaders" (.ref aL) (AZ "inner" (.ref aI) (AZ "sorts" (.ref aS) []))))) g3 p3 hV;have s4:=k4 _ _ s3 nS;have i4:=k4 _ _ i3 nI;have l4:=k4 _ _ l3 nL;generalize upd (upd H3 aV (.lst [])) p (.ins C dx (AZ "levels" (.ref aV) (AZ "leaders" (.ref aL) (AZ "inner" (.ref aI) (AZ "sorts" (.ref aS) [])))))=H4 at p4 v4 k4 g4 s4 i4 l4 ⊢;refine ⟨_,rfl,p,C,dx,_,rfl,p4,T.cl,T.nK,by show 4 < 1000;decide,?_⟩;have k5:∀ b y,H4 b=some y->b≠p->(upd H4 p (.ins C dx (AZ "level" (.int 0) (AZ "levels" (.ref aV) (AZ "leaders" (.ref aL) (AZ "inner" (.ref aI) (AZ "sorts" (.ref aS) []))))))) b=some y:=λb y e n=>by rw [Ac n];exact e
  have p5:(upd H4 p (.ins C dx (AZ "level" (.int 0) (AZ "levels" (.ref aV) (AZ "leaders" (.ref aL) (AZ "inner" (.ref aI) (AZ "sorts" (.ref aS) []))))))) p=_:=Ad;generalize upd H4 p (.ins C dx (AZ "level" (.int 0) (AZ "levels" (.ref aV) (AZ "leaders" (.ref aL) (AZ "inner" (.ref aI) (AZ "sorts" (.ref aS) []))))))=H5 at p5 k5 ⊢;have g5:∀ b o,H b=some o->b≠p->H5 b=some o:=λb o e n=>k5 b o (g4 b o e n) n;intro aG hG;refine ⟨_,rfl,p,C,dx,_,rfl,by rw [Ac (Ab p5 hG)];exact p5,T.cl,T.nG,by show 5 < 1000;decide,?_⟩;obtain ⟨p6,d6,k6,g6,nG⟩:=lF (o:=.dK []) (u:=.ins C dx (Qy ⟨p,dx,aS,aI,aL,aV,aG,[]⟩ 0)) g5 p5 hG;have up:∀ b y,H4 b=some y->b≠p->_:=λb y e n=>k6 b y (k5 b y e n) n;exact q ⟨p,dx,aS,aI,aL,aV,aG,[]⟩ _ rfl rfl ⟨p6,up _ _ s4 nS,up _ _ i4 nI,⟨id,λ_=>0,UF.start 0,up _ _ l4 nL⟩,up _ _ v4 nV,d6,rfl,(λj l e=>by cases j <;> cases e),(λl hl=>by cases hl),si,sl,il,be (Ab s3 hV),be (Ab i3 hV),be (Ab l3 hV)⟩ g6
noncomputable def qU:Ns:=(LW.add 0 []).add 1 []
noncomputable def lI (C CF:Addr):Sp:=λvs H Q _=>∃ (p dx:Addr),vs=[.ref p]/\H p=some (.ins CF dx [])/\∀ (F:FA) ls A H',F.p=p->F.N.gk=[]->DC C CF F H' qU ls A []->KS H H'->Q .non H'
theorem vk:Am ["self"] ["self"] (Ah Bl):=nofun
theorem lJ (F:C7 K "__init__" "Finder.__init__" Bl f fd)(TF:D7 K mg CF)(T:Cd K mg C)(Z:NM Pr w K mg base C)(MN:Mk K C fI)(GI:Au Pr w K mg base AN 1 fI lK ["self"] (lG C))(bI:Binds K lK ["self"] []):Au Pr w K mg base AN 3 f fd ["self"] (lI C CF):=by
 refine F.okS vk (λBe A0 outer s0 H vs Q E hr h=>?_)
 ·obtain ⟨p,dx,rfl,hp,q⟩:=h;have BZ:Ax 1 _:=hr.mono ⟨⟩;have DW:Ax 2 _:=hr;refine ⟨_,(Af (Fd (Ag 0) (OV MN GI DW rfl T.mgC bI))
   (Af (Fd (Ag 0) (Bp (Ar (Ag 0)) T.cl Z.nn BZ (Aa Ap (Aa (B0 Ae) Ae))))
   (Af (Fd (Ag 0) (Bp (Ar (Ag 0)) T.cl Z.nn BZ (Aa Ap (Aa (B0 Ae) Ae))))
   (Ak (Fd (Ag 0) (B0 Ae)))))),?_⟩
  intro y dy hy qV DT;refine ⟨y,dy,rfl,Ad,λN H1 eN eg N1 k1=>⟨rfl,?_⟩⟩;have py:p≠y:=Ab hp hy;have pdy:p≠dy:=Ab hp qV;have up1:∀ b o,H b=some o->H1 b=some o:=λb o e=>k1 b o (by rw [Ac (Ab e hy),Ac (Ab e qV)];exact e) (Ab e hy);have p1:=up1 _ _ hp;have pN:p≠N.p:=by rw [eN];exact py
  have WL:∀ {H':Hp} {s:Ns} {ls:List Addr} {fs:List (Str × V)} {o:HO},Bv C N H' s ls->H' p=some (.ins CF dx fs)->Bv C N (upd H' p o) s ls:=λ{H' s ls fs o} N' e=>by
   obtain ⟨_,L'⟩:=N'.lead;exact N'.off pN (AW e N'.sorts (by intro z;cases z)) (AW e N'.inner (by intro z;cases z)) (AW e L' (by intro z;cases z)) (AW e N'.levels (by intro z;cases z)) (AW e N'.aaj (by intro z;cases z)) λz=>N'.lp z |> λ_=>by
    obtain ⟨k,hk,ek⟩:=na.mp z;have:=N'.chs k p (by rw [ap hk,ek]);rw [e] at this;cases this
  have keep:∀ {H' IW:Hp} {s:Ns} {ls:List Addr} {fs:List (Str × V)},Bv C N H' s ls->H' p=some (.ins CF dx fs)->(∀ b,b≠N.s->b≠N.i->b≠N.l->b≠N.v->IW b=H' b)->IW p=some (.ins CF dx fs):=λ{H' IW s ls fs} N' e f=>by
   obtain ⟨_,L'⟩:=N'.lead;rw [f p (AW e N'.sorts (by intro z;cases z)) (AW e N'.inner (by intro z;cases z)) (AW e L' (by intro z;cases z)) (AW e N'.levels (by intro z;cases z))];exact e
  have ksN:∀ {H' IW:Hp} {s:Ns} {ls:List Addr},Bv C N H' s ls->(∀ b,b≠N.s->b≠N.i->b≠N.l->b≠N.v->IW b=H' b)->KS H' IW:=λ{H' IW s ls} N' f=>KS.off N' λb o e _ b1 b2 b3 b4=>by rw [f b b1 b2 b3 b4];exact e
  have qW:∀ {H':Hp} {fs:List (Str × V)} {o:HO},H' p=some (.ins CF dx fs)->KS H' (upd H' p o):=λ{H' fs o} e b u eb _ h2=>by
   rw [Ac (λz:b=p=>by rw [z,e] at eb;cases eb;exact h2 _ _ _ rfl)];exact eb
  have ksl:∀ {H':Hp} {l:Addr} {o:HO},H' l=none->Ai H' (upd H' l o):=λh=>Ai.new h;refine ⟨_,rfl,p,CF,dx,_,rfl,p1,TF.cl,TF.nN,by simp,?_⟩;have N2:Bv C N _ LW []:=WL (o:=.ins CF dx (AZ "nodes" (.ref y) [])) N1 p1;have p2:(upd H1 p (.ins CF dx (AZ "nodes" (.ref y) []))) p=some (.ins CF dx [("nodes",.ref N.p)]):=by rw [Ad,eN];rfl
  have k2:KS H (upd H1 p (.ins CF dx (AZ "nodes" (.ref y) []))):=KS.trans (λb o e _ _=>up1 b o e) (qW p1);generalize upd H1 p (.ins CF dx (AZ "nodes" (.ref y) []))=H2 at N2 p2 k2 ⊢;have gU:∀ {H':Hp} {s:Ns} {ls:List Addr} {l:Addr},Bv C N H' s ls->H' l=none->l≠N.s/\l≠N.i/\l≠N.l/\l≠N.v:=λ{H' s ls l} N' h=>by
   obtain ⟨_,L'⟩:=N'.lead;exact ⟨be (Ab N'.sorts h),be (Ab N'.inner h),be (Ab L' h),be (Ab N'.levels h)⟩
  refine ⟨_,rfl,p,CF,dx,_,_,rfl,p2,TF.cl,TF.nN,rfl,N.p,N.dx,_,rfl,N2.ins,rfl,by simp,λl1 CB=>?_⟩;obtain ⟨a1,a2,a3,a4⟩:=gU N2 CB;refine ⟨N,LW,[],0,[],l1,rfl,N2.same (Ai.new CB),Ad,a1,a2,a3,a4,⟨⟩,λH3 N3 f3=>?_⟩;have p3:H3 p=some (.ins CF dx [("nodes",.ref N.p)]):=keep (N2.same (Ai.new (o:=.lst []) CB)) (Ai.new (o:=.lst []) CB _ _ p2) f3;have k3:KS H H3:=(k2.trans (KS.of_same (Ai.new (o:=.lst []) CB))).trans (ksN (N2.same (Ai.new (o:=.lst []) CB)) f3);refine ⟨_,rfl,p,CF,dx,_,rfl,p3,TF.cl,TF.nU,by show 1 < 1000;decide,?_⟩;have N4:Bv C N _ (LW.add 0 []) [l1]:=WL (o:=.ins CF dx (AZ "number" (.int ((LW.n:Nat):Int)) [("nodes",.ref N.p)])) N3 p3;have p4:(upd H3 p (.ins CF dx (AZ "number" (.int ((LW.n:Nat):Int)) [("nodes",.ref N.p)]))) p=some (.ins CF dx [("nodes",.ref N.p),("number",.int 0)]):=by rw [Ad];rfl
  have k4:=k3.trans (qW (o:=.ins CF dx (AZ "number" (.int ((LW.n:Nat):Int)) [("nodes",.ref N.p)])) p3);generalize upd H3 p (.ins CF dx (AZ "number" (.int ((LW.n:Nat):Int)) [("nodes",.ref N.p)]))=H4 at N4 p4 k4 ⊢;refine ⟨_,rfl,p,CF,dx,_,_,rfl,p4,TF.cl,TF.nN,rfl,N.p,N.dx,_,rfl,N4.ins,rfl,by simp,λl2 D9=>?_⟩;obtain ⟨a1,a2,a3,a4⟩:=gU N4 D9;refine ⟨N,LW.add 0 [],[l1],1,[],l2,rfl,N4.same (Ai.new D9),Ad,a1,a2,a3,a4,⟨⟩,λH5 N5 f5=>?_⟩;have p5:H5 p=some (.ins CF dx [("nodes",.ref N.p),("number",.int 0)]):=keep (N4.same (Ai.new (o:=.lst []) D9)) (Ai.new (o:=.lst []) D9 _ _ p4) f5;have k5:KS H H5:=(k4.trans (KS.of_same (Ai.new (o:=.lst []) D9))).trans (ksN (N4.same (Ai.new (o:=.lst []) D9)) f5);refine ⟨_,rfl,p,CF,dx,_,rfl,p5,TF.cl,TF.nT,by show 2 < 1000;decide,?_⟩;have N6:Bv C N _ qU ([l1]++[l2]):=WL (o:=.ins CF dx (AZ "truth" (.int (((LW.add 0 []).n:Nat):Int)) [("nodes",.ref N.p),("number",.int 0)])) N5 p5;have p6:(upd H5 p (.ins CF dx (AZ "truth" (.int (((LW.add 0 []).n:Nat):Int)) [("nodes",.ref N.p),("number",.int 0)]))) p=some (.ins CF dx [("nodes",.ref N.p),("number",.int 0),("truth",.int 1)]):=by rw [Ad];rfl
  have k6:=k5.trans (qW (o:=.ins CF dx (AZ "truth" (.int (((LW.add 0 []).n:Nat):Int)) [("nodes",.ref N.p),("number",.int 0)])) p5);generalize upd H5 p (.ins CF dx (AZ "truth" (.int (((LW.add 0 []).n:Nat):Int)) [("nodes",.ref N.p),("number",.int 0)]))=H6 at N6 p6 k6 ⊢;refine ⟨by simp,λlw CO=>⟨_,rfl,p,CF,dx,_,rfl,by rw [Ac (Ab p6 CO)];exact p6,TF.cl,TF.nW,by show 3 < 1000;decide,?_⟩⟩;have sw:=Ai.new (o:=.lst []) CO;obtain ⟨w1,w2,w3,w4⟩:=gU N6 CO;have o0:Ok LW (λ_=>False):=⟨λi h=>absurd h (Os _),λi h=>absurd h (Os _),λi h=>absurd h (Os _),λi h=>h.elim,λi h=>absurd h (Os _),λx h=>h.elim,λx h=>h.elim,λx h=>h.elim⟩;have o1:Ok (LW.add 0 []) _:=o0.add (λc hc=>by cases hc) (mi _);have U':Hm LW:=⟨λi h=>absurd h (Os _),λi h=>absurd h (Os _)⟩;have ww:lw∉[l1]++[l2]:=λz=>by
   obtain ⟨k,hk,ek⟩:=na.mp z;have:=N6.chs k lw (by rw [ap hk,ek]);rw [CO] at this;cases this
  refine q ⟨p,dx,lw,N⟩ _ _ _ rfl eg ⟨Ad,WL (N6.same sw) (sw _ _ p6),o1.add (λc hc=>by cases hc) (mi _),(U'.add ⟨⟩ rfl).add ⟨⟩ rfl,⟨.inl (.inr rfl),⟨⟩⟩,⟨.inr rfl,⟨⟩⟩,pN,⟨[],by rw [Ac (be (Ab p6 CO)),Ad],.nil⟩,w1,w2,w3,w4,ww⟩ ((k6.trans (KS.of_same sw)).trans (qW (sw _ _ p6)))
end
end K
namespace KN
open KM KX PySem
structure Wg (s:Ns):Prop where
 rp:∀ i,i < s.n->s.rp i < s.n/\s.rp (s.rp i)=s.rp i
 ch:∀ i,i < s.n->∀ c∈s.ch i,c < s.n
 tg:∀ i,i < s.n->s.tg i < 6
 ar:∀ i,i < s.n->(s.ch i).length=KM.arity (s.tg i)
section
variable {s:Ns}{σ υ ρ:Sg}
theorem Wg.aaf (W:Wg s)(h:BA s σ)(hx:x < s.n)(t:s.tg (s.rp x)≠2)(hc:c∈s.ch (s.rp x)):sz (σ c) < sz (σ x):=by
 obtain ⟨a,b⟩:=h x hx;have rn:=(W.rp x hx).1;rw [a,b t];exact NF t (W.tg _ rn) (by rw [ba];exact W.ar _ rn) _ (Of hc)
noncomputable def QT (s:Ns)(num:Nat->Int):Nat->Nat->Kd
 | 0,_=>.num
 | f+1,x=>if s.tg (s.rp x)=2 then .gap (num (s.rp x)) else IF (s.tg (s.rp x)) ((s.ch (s.rp x)).map (QT s num f))
theorem bJ (W:Wg s)(h:BA s σ):∀ f f' x,x < s.n->sz (σ x)<=f->sz (σ x)<=f'->QT s num f x=QT s num f' x:=by
 intro f
 induction f with
 | zero=>intro f' x _ h1;have:=KM.aad (σ x);omega
 | succ f ih =>
  intro f' x hx h1 h2;cases f' with
  | zero=>have:=KM.aad (σ x);omega
  | succ f' =>
   show (if s.tg (s.rp x)=2 then _ else _)=(if s.tg (s.rp x)=2 then _ else _)
   by_cases t:s.tg (s.rp x)=2
   ·rw [if_pos t,if_pos t]
   ·rw [if_neg t,if_neg t]
    congr 1
    refine vc λc hc=>?_;have:=W.aaf h hx t hc;exact ih f' c (W.ch _ (W.rp x hx).1 c hc) () ()
theorem BA.gen (W:Wg s)(h:BA s σ)(num:Nat->Int):∃ υ,BA s υ/\∀ g,g < s.n->s.rp g=g->s.tg g=2->υ g=.gap (num g):=by
 refine ⟨λx=>QT s num (sz (σ x)) x,λx hx=>?_,λg hg hr ht=>?_⟩
 ·obtain ⟨rn,rr⟩:=W.rp x hx;have e0:sz (σ (s.rp x))=sz (σ x):=by rw [<- (h x hx).1]
  have e1:∀ f,QT s num f x=QT s num f (s.rp x):=λf=>by
   cases f with
   | zero=>rfl
   | succ f=>show (if s.tg (s.rp x)=2 then _ else _)=(if s.tg (s.rp (s.rp x))=2 then _ else _);rw [rr]
  refine ⟨by show QT s num (sz (σ x)) x=QT s num (sz (σ (s.rp x))) (s.rp x);rw [e0];exact e1 _,λt=>?_⟩;show QT s num (sz (σ (s.rp x))) (s.rp x)=_;obtain ⟨f,ef⟩:∃ f,sz (σ x)=f+1:=⟨sz (σ x) - 1,by have:=KM.aad (σ x);omega⟩;rw [e0,ef];show (if s.tg (s.rp (s.rp x))=2 then _ else IF (s.tg (s.rp (s.rp x))) ((s.ch (s.rp (s.rp x))).map (QT s num f)))=_
  rw [rr,if_neg t]
  congr 1
  refine vc λc hc=>?_;have:=W.aaf h hx t hc;exact bJ W h f _ c (W.ch _ rn c hc) () (am _)
 ·show QT s num (sz (σ g)) g=_;obtain ⟨f,ef⟩:∃ f,sz (σ g)=f+1:=⟨sz (σ g) - 1,by have:=KM.aad (σ g);omega⟩;rw [ef];show (if s.tg (s.rp g)=2 then Kd.gap (num (s.rp g)) else _)=_
  rw [hr,if_pos ht]
theorem BA.rel (W:Wg s)(h:BA s υ)(k:BA s ρ){back:Int->Nat}(hg:∀ g,g < s.n->s.rp g=g->s.tg g=2->∃ j,υ g=.gap j/\back j=g):∀ m x,sz (υ x)<=m->x < s.n->ρ x=Td (λj=>ρ (back j)) (υ x):=by
 intro m
 induction m with
 | zero=>intro x hs;have:=KM.aad (υ x);omega
 | succ m ih =>
  intro x hs hx;obtain ⟨rn,rr⟩:=W.rp x hx;rw [(h x hx).1,(k x hx).1];by_cases t:s.tg (s.rp x)=2
  ·obtain ⟨j,e1,e2⟩:=hg _ rn rr t;rw [e1];show ρ (s.rp x)=ρ (back j);rw [e2]
  ·rw [(h x hx).2 t,(k x hx).2 t,Qv t (W.tg _ rn) (by rw [ba];exact W.ar _ rn),List.map_map]
   congr 1
   refine vc λc hc=>?_;have:=W.aaf h hx t hc;exact ih c () (W.ch _ rn c hc)
theorem BA.aaj (W:Wg s)(h:BA s υ){P:Int->Prop}(hg:∀ g,g < s.n->s.rp g=g->s.tg g=2->∀ k∈gp (υ g),P k):∀ m x,sz (υ x)<=m->x < s.n->∀ k∈gp (υ x),P k:=by
 intro m
 induction m with
 | zero=>intro x hs;have:=KM.aad (υ x);omega
 | succ m ih =>
  intro x hs hx k hk;obtain ⟨rn,rr⟩:=W.rp x hx;rw [(h x hx).1] at hk;by_cases t:s.tg (s.rp x)=2
  ·exact hg _ rn rr t k hk
  ·rw [(h x hx).2 t] at hk;have mem:∀ {g:Nat} {ts:List Kd},g≠2->g < 6->ts.length=arity g->k∈gp (IF g ts)->∃ t∈ts,k∈gp t:=λ{g ts} a b l z=>by
    have c:g=0\/g=1\/g=3\/g=4\/g=5:=(by omega);rcases c with rfl | rfl | rfl | rfl | rfl <;> simp only [arity] at l
    ·cases z
    ·cases z
    ·match ts,l with
     | [a,b],_ =>
      rcases AK.mp z with z | z
      ·rw [AQ] at z;exact ⟨a,.head _,z⟩
      ·exact ⟨b,.tail _ (.head _),z⟩
    ·match ts,l with
     | [a,b],_ =>
      rcases AK.mp z with z | z
      ·rw [AQ] at z;exact ⟨a,.head _,z⟩
      ·exact ⟨b,.tail _ (.head _),z⟩
    ·match ts,l with
     | [a],_=>rw [show gp (IF 5 [a])=gp a from AQ _] at z;exact ⟨a,.head _,z⟩
   obtain ⟨u,hu,z⟩:=mem t (W.tg _ rn) (by rw [ba];exact W.ar _ rn) hk;obtain ⟨c,hc,rfl⟩:=ln.mp hu;have:=W.aaf h hx t hc;exact ih c () (W.ch _ rn c hc) k z
inductive NG (s:Ns):List Nat->List Nat->List Nat->List Nat->Prop
 | nil {ks gl:List Nat}:NG s ks [] gl gl
 | skip {ks W gl r:List Nat} {y:Nat}:s.rp y∈ks->NG s ks W gl r->NG s ks (y::W) gl r
 | go {ks W gl r:List Nat} {y:Nat}:s.rp y∉ks->NG s (ks++[s.rp y]) (s.ch (s.rp y)++W) (if s.tg (s.rp y)=2 then gl++[s.rp y] else gl) r->NG s ks (y::W) gl r
noncomputable def iL (l:List Nat):List Int:=l.map λi=>((i:Nat):Int)
theorem Ik:((i:Nat):Int)∈iL l↔i∈l:=by
 unfold iL;rw [ln];exact ⟨λ⟨j,a,b⟩=>by rw [<- show j=i by omega];exact a,λh=>⟨i,h,rfl⟩⟩
theorem Kl (h:∀ k∈l,k∈a):app a l=a:=by
 unfold app;have:l.filter (λn=>decide (n∉a))=[]:=List.filter_eq_nil_iff.mpr λk hk=>by simp [h k hk]
 rw [this,G2]
theorem WM (h:g≠2)(h6:g < 6)(l:ts.length=arity g)(a:List Int):app a (gp (IF g ts))=ts.foldl (λa t=>app a (gp t)) a:=by
 have c:g=0\/g=1\/g=3\/g=4\/g=5:=by omega
 rcases c with rfl | rfl | rfl | rfl | rfl <;> simp only [arity] at l
 ·rw [ul.mp l];exact Kl λk hk=>by cases hk
 ·rw [ul.mp l];exact Kl λk hk=>by cases hk
 ·match ts,l with | [x,y],_=>show app a (app (app [] (gp x)) (gp y))=app (app a (gp x)) (gp y);rw [AQ,Jp]
 ·match ts,l with | [x,y],_=>show app a (app (app [] (gp x)) (gp y))=app (app a (gp x)) (gp y);rw [AQ,Jp]
 ·match ts,l with | [x],_=>show app a (app [] (gp x))=app a (gp x);rw [AQ]
noncomputable def Cl (s:Ns)(υ:Sg)(ks gl:List Nat)(d:Nat):Prop:=(∀ g∈gl,g∈ks)/\∀ y∈ks,y < s.n/\s.rp y=y/\(sz (υ y)<=d->∀ k∈gp (υ y),k∈iL gl)
noncomputable def Bg (s:Ns)(υ:Sg)(x:Nat):Prop:=∀ ks gl W,Cl s υ ks gl (sz (υ x))->∃ bK V7,iL V7=app (iL gl) (gp (υ x))/\(∀ g∈V7,g∈bK)/\(∀ y∈bK,y∈ks\/(y < s.n/\s.rp y=y/\∀ k∈gp (υ y),k∈iL V7))/\∀ r,NG s bK W V7 r->NG s ks (x::W) gl r
theorem NG.list:(∀ c∈cs,sz (υ c)<=d/\Bg s υ c)->∀ ks gl W,Cl s υ ks gl d->∃ bK V7,iL V7=(cs.map υ).foldl (λa t=>app a (gp t)) (iL gl)/\(∀ k∈iL gl,k∈iL V7)/\(∀ g∈V7,g∈bK)/\(∀ y∈bK,y∈ks\/(y < s.n/\s.rp y=y/\∀ k∈gp (υ y),k∈iL V7))/\∀ r,NG s bK W V7 r->NG s ks (cs++W) gl r:=by
 induction cs with
 | nil=>exact λ_ ks gl W c=>⟨ks,gl,rfl,λ_ h=>h,c.1,λy h=>.inl h,λ_ h=>h⟩
 | cons c cs ih =>
  intro q ks gl W cl;obtain ⟨k1,g1,a1,a2,a3,a4⟩:=(q c (.head _)).2 ks gl (cs++W) ⟨cl.1,λy hy=>⟨(cl.2 y hy).1,(cl.2 y hy).2.1,λz=>(cl.2 y hy).2.2 (ce z (q c (.head _)).1)⟩⟩;have m1:∀ k∈iL gl,k∈iL g1:=λk hk=>by rw [a1];exact AK.mpr (.inl hk)
  have vm:Cl s υ k1 g1 d:=⟨a2,λy hy=>by
   rcases a3 y hy with z | ⟨z1,z2,z3⟩
   ·obtain ⟨b1,b2,b3⟩:=cl.2 y z;exact ⟨b1,b2,λw k hk=>m1 k (b3 w k hk)⟩
   ·exact ⟨z1,z2,λ_=>z3⟩⟩
  obtain ⟨k2,g2,b1,b0,b2,b3,b4⟩:=ih (λc hc=>q c (.tail _ hc)) k1 g1 W vm;refine ⟨k2,g2,by rw [b1,a1];rfl,λk hk=>b0 k (m1 k hk),b2,λy hy=>?_,λr h=>a4 r (b4 r h)⟩;rcases b3 y hy with z | z
  ·rcases a3 y z with w | ⟨w1,w2,w3⟩
   ·exact .inl w
   ·exact .inr ⟨w1,w2,λk hk=>b0 k (w3 k hk)⟩
  ·exact .inr z
theorem NG.big (W:Wg s)(h:BA s υ)(hg:∀ g,g < s.n->s.rp g=g->s.tg g=2->υ g=.gap ((g:Nat):Int)):∀ m x,sz (υ x)<=m->x < s.n->Bg s υ x:=by
 intro m
 induction m with
 | zero=>intro x hs;have:=KM.aad (υ x);omega
 | succ m ih =>
  intro x hs hx ks gl Ws cl;obtain ⟨rn,rr⟩:=W.rp x hx;have ex:=(h x hx).1;by_cases q:s.rp x∈ks
  ·have c:=(cl.2 _ q).2.2 (by rw [<- ex];exact am _);rw [<- ex] at c;exact ⟨ks,gl,(Kl c).symm,cl.1,λy hy=>.inl hy,λr z=>.skip q z⟩
  ·by_cases t:s.tg (s.rp x)=2
   ·have e0:s.ch (s.rp x)=[]:=by
     have:=W.ar _ rn;rw [t] at this;exact ul.mp this
    have e1:=hg _ rn rr t;have e2:gp (υ x)=[((s.rp x:Nat):Int)]:=(by rw [ex,e1];rfl);have e3:gp (υ (s.rp x))=[((s.rp x:Nat):Int)]:=(by rw [e1];rfl);have ng:¬ ((s.rp x:Nat):Int)∈iL gl:=λz=>q (cl.1 _ (Ik.mp z));refine ⟨ks++[s.rp x],gl++[s.rp x],?_,λg Yl=>?_,λy hy=>?_,λr z=>.go q (by rw [e0,if_pos t];exact z)⟩
    ·rw [e2,VX,if_neg ng];simp [iL]
    ·rcases bn.mp Yl with w | w
     ·exact ee _ (cl.1 g w)
     ·exact ir _ w
    ·rcases bn.mp hy with w | w
     ·exact .inl w
     ·rw [al.mp w];refine .inr ⟨rn,rr,λk hk=>?_⟩;rw [e3,al] at hk;rw [hk];exact Ik.mpr (by simp)
   ·have vm:Cl s υ (ks++[s.rp x]) gl (sz (υ x) - 1):=⟨λg Yl=>ee _ (cl.1 g Yl),λy hy=>by
     rcases bn.mp hy with w | w
     ·obtain ⟨b1,b2,b3⟩:=cl.2 y w;exact ⟨b1,b2,λz=>b3 ()⟩
     ·rw [al.mp w];refine ⟨rn,rr,λz=>?_⟩;rw [<- ex] at z;have:=KM.aad (υ x);omega⟩
    obtain ⟨k2,g2,b1,b0,b2,b3,b4⟩:=NG.list (s:=s) (υ:=υ) (d:=sz (υ x) - 1) (cs:=s.ch (s.rp x)) (λc hc=>by
     have:=W.aaf h hx t hc;exact ⟨(),ih c () (W.ch _ rn c hc)⟩) (ks++[s.rp x]) gl Ws vm
    have e2:iL g2=app (iL gl) (gp (υ x)):=by
     rw [ex,(h x hx).2 t,WM t (W.tg _ rn) (by rw [ba];exact W.ar _ rn)];exact b1
    refine ⟨k2,g2,e2,b2,λy hy=>?_,λr z=>.go q (by rw [if_neg t];exact b4 r z)⟩;rcases b3 y hy with z | z
    ·rcases bn.mp z with w | w
     ·exact .inl w
     ·rw [al.mp w];refine .inr ⟨rn,rr,λk hk=>?_⟩;rw [e2];rw [<- ex] at hk;exact AK.mpr (.inr hk)
    ·exact .inr z
theorem TR:∀ (ts:List Kd) (a:List Int),∃ r,ts.foldl (λa t=>app a (gp t)) a=a++r:=by
 intro ts
 induction ts with
 | nil=>exact λa=>⟨[],(G2 a).symm⟩
 | cons t ts ih =>
  intro a;obtain ⟨r,e⟩:=ih (app a (gp t));refine ⟨(gp t).filter (λn=>decide (n∉a))++r,?_⟩;show ts.foldl _ (app a (gp t))=_;rw [e];unfold app;rw [List.append_assoc]
theorem NT:∀ (ts:List Kd) (a:List Int),a.Nodup->(ts.foldl (λa t=>app a (gp t)) a).Nodup:=by
 intro ts
 induction ts with
 | nil=>exact λa h=>h
 | cons t ts ih=>exact λa h=>ih _ (Gg h (CH t))
theorem LX:∀ (ts:List Kd) (a:List Int) (k:Int),k∈ts.foldl (λa t=>app a (gp t)) a↔k∈a\/∃ t∈ts,k∈gp t:=by
 intro ts
 induction ts with
 | nil=>intro a k;simp
 | cons t ts ih =>
  intro a k;show k∈ts.foldl _ (app a (gp t))↔_;rw [ih,AK];simp only [gz,exists_eq_or_imp,or_assoc]
theorem BA.told (W:Wg s)(h:BA s σ)(hx:x < s.n):∃ gl τ,NG s [] ([x]++List.range s.n) [] gl/\BA s τ/\(∀ j g,gl[j]?=some g->g < s.n/\s.rp g=g/\s.tg g=2/\τ g=.gap ((j:Nat):Int))/\(∀ g,g < s.n->s.rp g=g->s.tg g=2->g∈gl)/\gl.Nodup /\
  CK (τ x)=τ x/\ok (τ x)=true/\∃ m,fill m (τ x)=σ x:=by
 obtain ⟨υ,hυ,hg⟩:=h.gen W λi=>((i:Nat):Int);have bd:∀ l:List Nat,∃ d,∀ c∈l,sz (υ c)<=d:=λl=>by
  induction l with
  | nil=>exact ⟨0,λc hc=>by cases hc⟩
  | cons a l ih =>
   obtain ⟨d,hd⟩:=ih;refine ⟨d+sz (υ a),λc hc=>?_⟩;rcases gz.mp hc with rfl | hc
   ·omega
   ·have:=hd c hc;omega
 obtain ⟨d,hd⟩:=bd ([x]++List.range s.n);obtain ⟨ks,gl,e1,_,_,_,e5⟩:=NG.list (s:=s) (υ:=υ) (d:=d) (cs:=[x]++List.range s.n) (λc hc=>by
  rcases bn.mp hc with z | z
  ·rw [al.mp z];exact ⟨hd x (ee _ (.head _)),NG.big W hυ hg _ _ (am _) hx⟩
  ·exact ⟨hd c (ir _ z),NG.big W hυ hg _ _ (am _) (FB.mp z)⟩) [] [] [] ⟨(λg Yl=>by cases Yl),λy hy=>by cases hy⟩
 rw [G2] at e5;have ng:=e5 _ .nil;have bM:(iL gl).Nodup:=by rw [e1];exact NT _ _ SC
 have nod:gl.Nodup:=by
  unfold iL at bM;exact (List.pairwise_map.mp bM).imp λh e=>h (by rw [e])
 have lM:∀ k∈iL gl,∃ g:Nat,k=((g:Nat):Int)/\g < s.n/\s.rp g=g/\s.tg g=2:=λk hk=>by
  rw [e1] at hk;rcases (LX _ _ k).mp hk with z | ⟨t,ht,z⟩
  ·cases z
  ·obtain ⟨c,hc,rfl⟩:=ln.mp ht;have cn:c < s.n:=by
    rcases bn.mp hc with w | w
    ·rw [al.mp w];exact hx
    ·exact FB.mp w
   exact BA.aaj W hυ (P:=λk=>∃ g:Nat,k=((g:Nat):Int)/\g < s.n/\s.rp g=g/\s.tg g=2) (λg a b d k hk=>by
    rw [hg g a b d] at hk;exact ⟨g,al.mp hk,a,b,d⟩) _ c (am _) cn k z
 have WN:∀ g,g < s.n->s.rp g=g->s.tg g=2->g∈gl:=λg a b d=>by
  refine Ik.mp ?_;rw [e1];refine (LX _ _ _).mpr (.inr ⟨υ g,ln.mpr ⟨g,ir _ (FB.mpr a),rfl⟩,?_⟩);rw [hg g a b d];exact .head _
 obtain ⟨τ,hτ,gτ⟩:=h.gen W λi=>((gl.idxOf i:Nat):Int);have gi:∀ g,g∈gl->gl[gl.idxOf g]?=some g:=λg Yl=>by
  rw [ap (List.idxOf_lt_length_of_mem Yl),List.getElem_idxOf]
 have gj:∀ j g,gl[j]?=some g->g < s.n/\s.rp g=g/\s.tg g=2/\τ g=.gap ((j:Nat):Int):=λj g e=>by
  have m:=ci e;obtain ⟨g',e',a,b,d⟩:=lM _ (Ik.mpr m);have e':g=g':=by omega
  subst e';obtain ⟨hj,ej⟩:=cr.mp e;have:=nod.idxOf_getElem j hj;rw [ej] at this;exact ⟨a,b,d,by rw [gτ g a b d,this]⟩
 have pre:∃ r,iL gl=gp (υ x)++r:=by
  rw [e1];show ∃ r,((List.range s.n).map υ).foldl _ (app [] (gp (υ x)))=_;rw [AQ];exact TR _ _
 obtain ⟨r,pre⟩:=pre;have tx:τ x=CK (υ x):=by
  rw [BA.rel W hυ hτ (back:=Int.toNat) (λg a b d=>⟨_,hg g a b d,Q2 g⟩) _ x (am _) hx];refine Cs _ λk hk=>?_;have ki:k∈iL gl:=by rw [pre];exact ee _ hk
  obtain ⟨g,rfl,a,b,d⟩:=lM k ki;show τ (Int.toNat ((g:Nat):Int))=(UX (gp (υ x)) ((g:Nat):Int)).getD _;rw [Q2,gτ g a b d,J' hk];show Kd.gap ((gl.idxOf g:Nat):Int)=Kd.gap (((gp (υ x)).idxOf ((g:Nat):Int):Nat):Int);have e2:(gp (υ x)).idxOf ((g:Nat):Int)=(iL gl).idxOf ((g:Nat):Int):=by rw [pre,List.idxOf_append,if_pos hk]
  have gm:=Ik.mp ki;have e3:(iL gl).idxOf ((g:Nat):Int)=gl.idxOf g:=by
   have h1:(iL gl)[gl.idxOf g]?=some ((g:Nat):Int):=(by unfold iL;rw [jp,gi g gm];rfl);obtain ⟨hj,ej⟩:=cr.mp h1;have:=bM.idxOf_getElem _ hj;rw [ej] at this;exact this
  rw [e2,e3]
 refine ⟨gl,τ,ng,hτ,gj,WN,nod,by rw [tx];exact Ls _,?_,?_⟩
 ·have okG:∀ t:Kd,(∀ k∈gp t,0<=k)->ok t=true:=by
   intro t
   induction t with
   | num=>exact λ_=>rfl
   | tru=>exact λ_=>rfl
   | gap k=>exact λq=>by simpa [ok] using q k (.head _)
   | ls a ih=>exact λq=>ih λk hk=>q k (by rw [show gp (.ls a)=gp a from AQ _];exact hk)
   | fn a b ia ib =>
    intro q;have e:gp (.fn a b)=app (gp a) (gp b):=(by show app (app [] (gp a)) (gp b)=_;rw [AQ]);rw [e] at q;simp only [ok,Ev];exact ⟨ia λk hk=>q k (AK.mpr (.inl hk)),ib λk hk=>q k (AK.mpr (.inr hk))⟩
   | pr a b ia ib =>
    intro q;have e:gp (.pr a b)=app (gp a) (gp b):=(by show app (app [] (gp a)) (gp b)=_;rw [AQ]);rw [e] at q;simp only [ok,Ev];exact ⟨ia λk hk=>q k (AK.mpr (.inl hk)),ib λk hk=>q k (AK.mpr (.inr hk))⟩
  refine okG _ λk hk=>?_;rw [tx,Lr] at hk;obtain ⟨i,_,rfl⟩:=ln.mp hk;exact Int.natCast_nonneg i
 ·exact ⟨_,(BA.rel W hτ h (back:=λk=>(gl[k.toNat]?).getD 0) (λg a b d=>⟨_,gτ g a b d,by show (gl[Int.toNat ((gl.idxOf g:Nat):Int)]?).getD 0=g;rw [Q2,gi g (WN g a b d)];rfl⟩) _ x (am _) hx).symm⟩
end
theorem bO (h:NG s ks [] gl r):r=gl:=by cases h;rfl
theorem lN (h:NG s ks (y::W) gl r):(s.rp y∈ks->NG s ks W gl r)/\(s.rp y∉ks->NG s (ks++[s.rp y]) (s.ch (s.rp y)++W) (if s.tg (s.rp y)=2 then gl++[s.rp y] else gl) r):=by
 cases h with
 | skip a b=>exact ⟨λ_=>b,λz=>absurd a z⟩
 | go a b=>exact ⟨λz=>absurd z a,λ_=>b⟩
noncomputable def setB (f:Nat->Bool)(x:Nat):Nat->Bool:=λy=>if y=x then true else f y
noncomputable def Dg (s:Ns)(τ:Sg)(md bg:Nat->Bool)(W:List Nat):Prop:=∀ x,bg x=true->md x=false->∃ lo hi,W=lo++[x]++hi/\(∀ y∈hi,sz (τ y) < sz (τ x))/\∀ c∈s.ch x,md (s.rp c)=false->s.rp c∈hi
section
variable {s:Ns}{τ:Sg}{md bg:Nat->Bool}{W1:List Nat}{x:Nat}
theorem Il {W1 lo hi:List Nat}{x y:Nat}(e:W1++[x]=lo++[y]++hi):(hi=[]/\y=x)\/∃ K0,hi=K0++[x]/\W1=lo++[y]++K0:=by
 rcases Tu hi with rfl | ⟨K0,z,rfl⟩
 ·rw [G2] at e;have:=List.append_inj_right' e rfl;exact .inl ⟨rfl,(List.cons.inj this).1.symm⟩
 ·rw [TD] at *;rw [<- List.append_assoc] at e;have h1:=List.append_inj_right' e rfl;have h2:=List.append_inj_left' e rfl;exact .inr ⟨K0,by rw [(List.cons.inj h1).1],h2⟩
theorem Dg.pop (h:Dg s τ md bg (W1++[x]))(m:md x=true):Dg s τ md bg W1:=λy hb hm=>by
 obtain ⟨lo,hi,e,a,b⟩:=h y hb hm;rcases Il e with ⟨_,rfl⟩ | ⟨K0,rfl,e'⟩
 ·rw [m] at hm;cases hm
 ·refine ⟨lo,K0,e',λz hz=>a z (ee _ hz),λc hc hz=>?_⟩;rcases bn.mp (b c hc hz) with w | w
  ·exact w
  ·rw [al.mp w,m] at hz;cases hz
theorem LY {x y:Nat}(h:setB f x y=false):f y=false:=by
 unfold setB at h;by_cases e:y=x
 ·rw [if_pos e] at h;cases h
 ·rw [if_neg e] at h;exact h
theorem Dg.make (h:Dg s τ md bg W):Dg s τ (setB md x) bg W:=λy hb hm=>by
 obtain ⟨lo,hi,e,a,b⟩:=h y hb (LY hm);exact ⟨lo,hi,e,a,λc hc hz=>b c hc (LY hz)⟩
theorem Dg.begin (h:Dg s τ md bg (W1++[x]))(hb:bg x=false)(h1:∀ y∈ms,sz (τ y) < sz (τ x))(h2:∀ c∈s.ch x,md (s.rp c)=false->s.rp c∈ms):Dg s τ md (setB bg x) (W1++[x]++ms):=λy hy hm=>by
 by_cases e:y=x
 ·subst e;exact ⟨W1,ms,rfl,h1,h2⟩
 ·have hy:bg y=true:=by unfold setB at hy;rw [if_neg e] at hy;exact hy
  obtain ⟨lo,hi,q,a,b⟩:=h y hy hm;rcases Il q with ⟨_,z⟩ | ⟨K0,rfl,q'⟩
  ·exact absurd z e
  ·refine ⟨lo,K0++[x]++ms,by rw [q'];simp,λz hz=>?_,λc hc hz=>ee _ (b c hc hz)⟩;rcases bn.mp hz with w | w
   ·exact a z w
   ·have:=a x (by simp);have:=h1 z w;omega
theorem Dg.stuck (h:Dg s τ md bg (W1++[x]))(hb:bg x=true)(hm:md x=false):∀ c∈s.ch x,md (s.rp c)=true:=λc hc=>by
 cases z:md (s.rp c) with
 | true=>rfl
 | false =>
  obtain ⟨lo,hi,q,a,b⟩:=h x hb hm;have m:=b c hc z;rcases Il q with ⟨rfl,_⟩ | ⟨K0,rfl,_⟩
  ·cases m
  ·have:=a x (by simp);omega
end
end KN
namespace K
open PySem L2 KM KS KN KX
section
variable {Pr:Program}{w:World}{K:W.Frag}{mg:Str->Option Value}{base:Heap}{C CF:Addr}
noncomputable def EZ (n:Nat):List Nat->List (Key × V)
 | []=>[]
 | x::r=>(Sum.inl ((n:Nat):Int),.int ((x:Nat):Int))::EZ (n+1) r
theorem Km:∀ {n:Nat},(EZ n gs).length=gs.length:=by
 induction gs with
 | nil=>exact rfl
 | cons x r ih=>intro n;simp [EZ,ih]
theorem WO:∀ {n:Nat},EZ n (gs++[x])=EZ n gs++[(Sum.inl (((n+gs.length:Nat):Nat):Int),.int ((x:Nat):Int))]:=by
 induction gs with
 | nil=>exact rfl
 | cons y r ih =>
  intro n;show (Sum.inl ((n:Nat):Int),V.int ((y:Nat):Int))::EZ (n+1) (r++[x])=_;rw [ih,sB,show n+1+r.length=n+(r.length+1) by omega];rfl
theorem bQ:∀ {n m:Nat},n+gs.length<=m->Bw (EZ n gs) (Sum.inl ((m:Nat):Int):Key)=none:=by
 induction gs with
 | nil=>exact λ_=>rfl
 | cons y r ih =>
  intro n m h;rw [sB] at h;have e:¬ (Sum.inl ((n:Nat):Int):Key)=Sum.inl ((m:Nat):Int):=λz=>by have:=Sum.inl.inj z;omega
  exact (Bo e).trans (ih ())
theorem bR:∀ {n i:Nat} {p:Key × V},(EZ n gs)[i]?=some p->∃ x,gs[i]?=some x/\p=(Sum.inl (((n+i:Nat):Nat):Int),.int ((x:Nat):Int)):=by
 induction gs with
 | nil=>intro n i p h;cases i <;> cases h
 | cons y r ih =>
  intro n i p h;cases i with
  | zero=>cases h;exact ⟨y,rfl,rfl⟩
  | succ i =>
   obtain ⟨x,a,b⟩:=ih (n:=n+1) (i:=i) h;exact ⟨x,a,by rw [b,show n+1+i=n+(i+1) by omega]⟩
structure Wf (s:Ns):Prop where
 rp:∀ i,i < s.n->s.rp i < s.n/\s.rp (s.rp i)=s.rp i
 ch:∀ i,i < s.n->∀ c∈s.ch i,c < s.n
 ar:∀ i,i < s.n->(s.ch i).length<=2
 tg:∀ i,i < s.n->s.tg i < 6
 n:s.n < 900000
theorem TU (A:Bv C N H s ls)(kvs:List (Key × V)):Bv C { N with gk:=kvs } (upd H N.g (.dK kvs)) s ls:=by
 obtain ⟨_,L0⟩:=A.lead;obtain ⟨g1,g2,g3,g4,g5⟩:=A.ng;refine ⟨by rw [Ac (be g1)];exact A.ins,by rw [Ac (be g2)];exact A.sorts,by rw [Ac (be g3)];exact A.inner,(let ⟨a,b,c,d⟩:=A.uf;⟨a,b,c,by rw [Ac (be g4)];exact d⟩),by rw [Ac (be g5)];exact A.levels,Ad,A.len,λj l e=>?_,A.away,A.ne⟩;have:=A.chs j l e;rw [Ac (AW this A.aaj (by intro z;cases z))];exact this
inductive NI (C:Addr)(N:NA)(s:Ns)(ls:List Addr)(ts r:List Nat)(lt d lw:Addr)(H:Hp)(m:Nat)(σ:St)(H2:Hp):Prop
 | mk (gs ks W:List Nat) (x4:Option V):σ=[some (.ref N.p),some (.ref lt),some (.ref d),some (.ref lw),x4]->m=3 * (s.n - ks.length)+W.length->Bv C { N with gk:=EZ 0 gs } H2 s ls->ks.Nodup->(∀ y∈ks,y < s.n)->(∀ y∈gs,y < s.n)->gs.length<=ks.length->H2 d=some (.dK (Em ks))->H2 lw=some (.lst (lsN W))->(∀ y∈W,y < s.n)->W.length<=ts.length+2 * ks.length->NG s ks W.reverse gs r->(∀ b o,H b=some o->b≠N.l->b≠N.g->H2 b=some o)->NI C N s ls ts r lt d lw H m σ H2
noncomputable def TV (C:Addr):Sp:=λvs H Q _=>∃ (N:NA) (s:Ns) (ls:List Addr) (ts r:List Nat) (lt:Addr),vs=[.ref N.p,.ref lt]/\N.gk=[]/\Bv C N H s ls/\Wf s/\H lt=some (.lst (lsN ts))/\(∀ t∈ts,t < s.n)/\ts.length<=900000/\NG s [] ts [] r /\
 ∀ H',Bv C { N with gk:=EZ 0 r } H' s ls->(∀ b o,H b=some o->b≠N.l->b≠N.g->H' b=some o)->Q .non H'
theorem Pg:Am ["self","tops","met","waiting","at"] ["self","tops"] (Ah B5):=nofun
theorem bT (F:C7 K "number_gaps" "Nodes.number_gaps" B5 f fd)(T:Cd K mg C)(Ec:mg "list"=none)(Ed:mg "reversed"=none)(cL:Mc Pr w K mg base AN C 1 "leader" ["self","node"] (Bz C)):Au Pr w K mg base AN 2 f fd ["self","tops"] (TV C):=by
 refine F.okS Pg (λBe A0 outer s0 H vs Q E hr h=>?_)
 ·obtain ⟨N,s,ls,ts,r,lt,rfl,gk,A0,W,CV,qX,htl,ng0,q⟩:=h;have hu:=DE hr;have BZ:Ax 1 _:=hr;have wn:=W.n;refine ⟨_,(Af (Aq (i:=2) Pg.nd rfl (.inl rfl) E3)
   (Af (Aq (i:=3) Pg.nd rfl (.inl rfl) (I0 rfl rfl Ec rfl Ed (Aa (Ag 1) Ae)))
   (Ak (Dl v0 (Cf (Ag 3)) (Af (Aq (i:=4) Pg.nd rfl (.inl rfl) (Bp (Ag 0) T.cl cL BZ (Aa (EC im EQ Fa Ew (Ag 3)) Ae)))
   (Ak (BE (EF hu (Ag 4) (Ag 2)) (Af (DJ hu (Ag 2) (Ag 4) IL rfl)
   (Af (As (F4 im GM GT Dq (Ag 3) (Aa (I0 rfl rfl Ec rfl Ed (Aa (BN (r:=Du K) AA (Ar (Ag 0)) (Ag 4) D0) Ae)) Ae)))
   (Ak (BE (AE Bb (BN (r:=Du K) AA (Ar (Ag 0)) (Ag 4) D0) Ap (Aw _)) (Ak (DJ hu (Ar (Ag 0)) (BO Je rfl T.len PP (Aa (Ar (Ag 0)) Ae)) (Ag 4) rfl)) Bf)))) Bf))))))),?_⟩
  refine λd GK=>?_;have smd:Ai H (upd H d (.dK [])):=Ai.new GK;refine ⟨_,rfl,lt,_,rfl,AI.of (smd _ _ CV),by simp only [lsN,ba];omega,λlw CO=>?_⟩;have vo:(lsN ts).reverse=lsN ts.reverse:=by simp [lsN]
  rw [vo];have dl:d≠lw:=λz=>by rw [<- z,Ad] at CO;cases CO
  have BV:H lw=none:=by rw [Ac (be dl)] at CO;exact CO
  have Fw:Ai H (upd (upd H d (.dK [])) lw (.lst (lsN ts.reverse))):=Ai.put smd BV;obtain ⟨_,L0⟩:=A0.lead;have free:∀ {b:Addr},H b=none->b≠N.p/\b≠N.s/\b≠N.i/\b≠N.l/\b≠N.v/\b≠N.g:=λ{b} h=>⟨be (Ab A0.ins h),be (Ab A0.sorts h),be (Ab A0.inner h),be (Ab L0 h),be (Ab A0.levels h),be (Ab A0.aaj h)⟩;obtain ⟨w1,w2,w3,w4,w5,w6⟩:=free BV;obtain ⟨d1,d2,d3,d4,d5,d6⟩:=free GK;have F6:∀ {b:Addr},H b=none->b∉ls:=λ{b} h z=>by
   obtain ⟨j,hj,ej⟩:=na.mp z;have:=A0.chs j b (by rw [ap hj,ej]);rw [h] at this;cases this
  have eN:({ N with gk:=EZ 0 [] }:NA)=N:=by
   obtain ⟨_,_,_,_,_,_,_,g⟩:=N;have e:g=[]:=gk;subst e;rfl
  refine ⟨NI C N s ls ts r lt d lw H,
   ⟨_,[],[],ts.reverse,none,rfl,rfl,(by rw [eN];exact A0.same Fw),SC,(λy hy=>by cases hy),(λy hy=>by cases hy),am _,by rw [Ac dl,Ad];rfl,Ad,(λy hy=>qX y (List.mem_reverse.mp hy)),by simp,by rw [List.reverse_reverse];exact ng0,λb o e _ _=>Fw b o e⟩,?_⟩
  rintro m σ H2 ⟨gs,ks,W',x4,rfl,rfl,A2,knd,kn,gn,gl,hd2,Fx,vp,Tn,vq,f2⟩;have few:=nodup_range knd kn;refine ⟨_,rfl,!(lsN W').isEmpty,.inl ⟨_,AI.of Fx,rfl⟩,?_⟩;rcases Tu W' with rfl | ⟨W1,y,rfl⟩
  ·refine Bx ?_;obtain rfl:=bO vq;exact q H2 A2 f2
  ·rw [TD] at *;have yn:y < s.n:=vp y (by simp);obtain ⟨rn,rr⟩:=W.rp y yn;rw [List.reverse_append] at vq;have vt:=lN (y:=y) (W:=W1.reverse) vq;refine Cm (by simp [lsN]) ⟨_,fun σ' H' z=>z,?_⟩;have eW:lsN (W1++[y])=lsN W1++[V.int ((y:Nat):Int)]:=Cq _ _;rw [eW] at Fx;have lW:(W1++[y]).length=W1.length+1:=(by simp);rw [lW] at Tn;refine ⟨_,rfl,N.p,N.dx,_,rfl,A2.ins,rfl,_,rfl,.inl ⟨rfl,_,AI.of Fx⟩,lw,_,V.int ((y:Nat):Int),rfl,rfl,Fx,by simp,?_⟩;rw [Q1];have A3:Bv C { N with gk:=EZ 0 gs } (upd H2 lw (.lst (lsN W1))) s ls:=A2.off w1 w2 w3 w4 w5 w6 (F6 BV);refine ⟨{ N with gk:=EZ 0 gs },_,ls,y,rfl,A3,yn,λH4 A4 e4=>?_⟩;have e4:∀ b,b≠N.l->H4 b=(upd H2 lw (.lst (lsN W1))) b:=e4;have UZ:H4 lw=some (.lst (lsN W1)):=(by rw [e4 lw w4,Ad]);have WC:H4 d=some (.dK (Em ks)):=(by rw [e4 d d4,Ac dl];exact hd2);have f4:∀ b o,H b=some o->b≠N.l->b≠N.g->H4 b=some o:=λb o e b1 b2=>(by rw [e4 b b1,Ac (Ab e BV)];exact f2 b o e b1 b2);have Tx:Cr H4 d (.int ((s.rp y:Nat):Int)) (Bw (Em ks) (Sum.inl ((s.rp y:Nat):Int):Key)):=.inl ⟨Em ks,Sum.inl ((s.rp y:Nat):Int),.inl WC,rfl,rfl⟩;refine ⟨_,rfl,_,rfl,d,_,rfl,Tx,_,rfl,?_⟩;rcases Pc (ks:=ks) (y:=s.rp y) with ⟨ka,kb⟩ | ⟨ka,kb⟩
   ·rw [kb];refine CQ ?_;refine ⟨_,rfl,_,rfl,d,_,rfl,.inl ⟨Em ks,Sum.inl ((s.rp y:Nat):Int),WC,rfl,by rw [Em,ba];exact Ei (),rfl⟩,?_⟩;have ep:putK (Em ks) (Sum.inl ((s.rp y:Nat):Int):Key) (V.bl true)=Em (ks++[s.rp y]):=by
     rw [DO _ kb,Em,Em,wT];rfl
    rw [ep];have QO:(ks++[s.rp y]).Nodup:=List.nodup_append.mpr ⟨knd,by simp,λa ha b hb=>by rw [al.mp hb];exact λz=>ka (by rw [<- z];exact ha)⟩;have Rp:∀ z∈ks++[s.rp y],z < s.n:=λz hz=>(bn.mp hz).elim (kn z) λh=>(by rw [al.mp h];exact rn);have bf:=nodup_range QO Rp;have lk:(ks++[s.rp y]).length=ks.length+1:=(by simp);rw [lk] at bf;have A5:Bv C { N with gk:=EZ 0 gs } (upd H4 d (.dK (Em (ks++[s.rp y])))) s ls:=A4.off d1 d2 d3 d4 d5 d6 (F6 GK);have ik:(upd H4 d (.dK (Em (ks++[s.rp y])))) lw=some (.lst (lsN W1)):=(by rw [Ac (be dl)];exact UZ);have h5d:(upd H4 d (.dK (Em (ks++[s.rp y])))) d=some (.dK (Em (ks++[s.rp y]))):=Ad;have f5:∀ b o,H b=some o->b≠N.l->b≠N.g->(upd H4 d (.dK (Em (ks++[s.rp y])))) b=some o:=λb o e b1 b2=>(by rw [Ac (Ab e GK)];exact f4 b o e b1 b2);generalize upd H4 d (.dK (Em (ks++[s.rp y])))=H5 at A5 ik h5d f5 ⊢;obtain ⟨l1,CB⟩:∃ l1,ls[s.rp y]?=some l1:=⟨_,ap (by rw [A0.len];exact rn)⟩;have ME:=A5.chs _ _ CB;have rar:=W.ar _ rn;refine ⟨_,rfl,.inl ⟨rfl,_,AI.of ik⟩,_,rfl,N.p,C,N.dx,_,_,rfl,A5.ins,T.cl,T.nI,rfl,_,rfl,N.i,_,_,_,rfl,rfl,AI.of A5.inner,Ao (v:=V.ref l1) (by rw [jp,CB];rfl),l1,_,rfl,AI.of ME,by simp only [lsN,ba];omega,λlr hlr=>?_⟩;have sr:=Ai.new (o:=.lst (lsN (s.ch (s.rp y))).reverse) hlr;have qY:(lsN (s.ch (s.rp y))).reverse=lsN (s.ch (s.rp y)).reverse:=(by simp [lsN]);refine ⟨lw,lr,_,_,rfl,rfl,sr _ _ ik,Ad,by simp only [lsN,ba,Op];exact DU (),?_⟩;rw [qY,<- Cq];have A6:Bv C { N with gk:=EZ 0 gs } (upd (upd H5 lr (.lst (lsN (s.ch (s.rp y)).reverse))) lw (.lst (lsN (W1++(s.ch (s.rp y)).reverse)))) s ls:=by
     rw [<- qY];exact (A5.same sr).off w1 w2 w3 w4 w5 w6 (F6 BV)
    have kG:(upd (upd H5 lr (.lst (lsN (s.ch (s.rp y)).reverse))) lw (.lst (lsN (W1++(s.ch (s.rp y)).reverse)))) d=some (.dK (Em (ks++[s.rp y]))):=(by rw [Ac dl,<- qY];exact sr _ _ h5d);have kH:(upd (upd H5 lr (.lst (lsN (s.ch (s.rp y)).reverse))) lw (.lst (lsN (W1++(s.ch (s.rp y)).reverse)))) lw=_:=Ad;have f6:∀ b o,H b=some o->b≠N.l->b≠N.g->(upd (upd H5 lr (.lst (lsN (s.ch (s.rp y)).reverse))) lw (.lst (lsN (W1++(s.ch (s.rp y)).reverse)))) b=some o:=λb o e b1 b2=>(by rw [Ac (Ab e BV),<- qY];exact sr _ _ (f5 b o e b1 b2));generalize upd (upd H5 lr (.lst (lsN (s.ch (s.rp y)).reverse))) lw (.lst (lsN (W1++(s.ch (s.rp y)).reverse)))=H6 at A6 kG kH f6 ⊢;have wn6:∀ z∈W1++(s.ch (s.rp y)).reverse,z < s.n:=λz hz=>(bn.mp hz).elim (λh=>vp z (by simp [h])) λh=>W.ch _ rn z (List.mem_reverse.mp h);have qZ:(W1++(s.ch (s.rp y)).reverse).length=W1.length+(s.ch (s.rp y)).length:=(by simp);refine ⟨_,rfl,N.p,C,N.dx,_,_,rfl,A6.ins,T.cl,T.nS,rfl,_,rfl,N.s,_,_,_,rfl,rfl,AI.of A6.sorts,Ao (D6 rn),rfl,_,rfl,?_⟩;rw [DP (W.tg _ rn)];by_cases e2:s.tg (s.rp y)=2
    ·refine Cm (by simp [e2]) ?_;refine ⟨_,rfl,_,rfl,N.p,C,N.dx,_,_,rfl,A6.ins,T.cl,T.nG,rfl,_,rfl,N.p,C,N.dx,_,_,rfl,A6.ins,T.cl,T.nG,rfl,N.g,_,rfl,A6.aaj,N.g,_,rfl,.inl ⟨EZ 0 gs,Sum.inl (((EZ 0 gs).length:Nat):Int),A6.aaj,rfl,by rw [Km];exact Ei (),rfl⟩,?_⟩;have eg:putK (EZ 0 gs) (Sum.inl (((EZ 0 gs).length:Nat):Int):Key) (V.int ((s.rp y:Nat):Int))=EZ 0 (gs++[s.rp y]):=by
      rw [Km,DO _ (bQ ()),WO,Nat.zero_add]
     rw [eg];refine ⟨_,?_,gs++[s.rp y],ks++[s.rp y],W1++(s.ch (s.rp y)).reverse,_,rfl,rfl,TU A6 _,QO,Rp,(λz hz=>(bn.mp hz).elim (gn z) λh=>by rw [al.mp h];exact rn),by rw [ca,lk];simp;omega,by rw [Ac d6];exact kG,by rw [Ac w6];exact kH,wn6,by rw [qZ,lk];omega,(by have:=vt.2 ka;rw [if_pos e2] at this;rw [List.reverse_append,List.reverse_reverse];exact this),λb o e b1 b2=>by rw [Ac b2];exact f6 b o e b1 b2⟩;rw [lW,qZ,lk];omega
    ·refine BY (by simp [e2]) ?_;refine ⟨_,?_,gs,ks++[s.rp y],W1++(s.ch (s.rp y)).reverse,_,rfl,rfl,A6,QO,Rp,gn,by rw [lk];omega,kG,kH,wn6,by rw [qZ,lk];omega,(by have:=vt.2 ka;rw [if_neg e2] at this;rw [List.reverse_append,List.reverse_reverse];exact this),f6⟩;rw [lW,qZ,lk];omega
   ·rw [kb];refine Bx ?_;exact ⟨_,by rw [lW];omega,gs,ks,W1,_,rfl,rfl,A4,knd,kn,gn,gl,WC,UZ,(λz hz=>vp z (by simp [hz])),(),vt.1 ka,f4⟩
end
abbrev Ko:List Str:=["self","tops","made","number","gap","begun","waiting","at","inner","missing"]
noncomputable def xU1:Expr:=valueOf (inDef Av 3)
noncomputable def xU2:Expr:=valueOf (WE (inDef Av 4) 2)
noncomputable def xU3:Expr:=match WE (inDef Av 4) 3 with
 | .If _ _ [.If _ [.Assign _ (.BinOp _ _ (.Call _ [e] _ _) _) _] _ _] _=>e
 | _=>.Constant .none 0 ⟨0,0,0,0⟩
theorem bU (h6:g < 6)(h2:g≠2)(hl:ts.length=arity g)(hv:JV H ts vs)(ha:H a=some (.tup (.str (BB g)::vs))):B3 H (IF g ts) (.ref a):=by
 have c:g=0\/g=1\/g=3\/g=4\/g=5:=by omega
 rcases c with rfl | rfl | rfl | rfl | rfl <;> simp only [arity] at hl
 ·rw [ul.mp hl] at hv;cases hv;exact ⟨a,rfl,ha⟩
 ·rw [ul.mp hl] at hv;cases hv;exact ⟨a,rfl,ha⟩
 ·match ts,hl with
  | [t1,t2],_=>exact B3.mk (t:=.fn t1 t2) rfl ha hv
 ·match ts,hl with
  | [t1,t2],_=>exact B3.mk (t:=.pr t1 t2) rfl ha hv
 ·match ts,hl with
  | [t1],_=>exact B3.mk (t:=.ls t1) rfl ha hv
noncomputable def GX (H:Hp)(kvs:List (Key × V))(md:Nat->Bool)(τ:Sg):Prop:=∀ y:Nat,(md y=false/\Bw kvs (Sum.inl ((y:Nat):Int):Key)=none)\/(md y=true/\∃ v,Bw kvs (Sum.inl ((y:Nat):Int):Key)=some v/\B3 H (τ y) v)
theorem GX.mono (s:TSub H H')(h:GX H kvs md τ):GX H' kvs md τ:=λy=>(h y).imp id λ⟨a,v,b,c⟩=>⟨a,v,b,B3.mono s c⟩
theorem GX.put (h:GX H kvs md τ)(hv:B3 H (τ x) v):GX H (putK kvs (Sum.inl ((x:Nat):Int)) v) (setB md x) τ:=λy=>by
 unfold setB;rw [Ey];by_cases e:y=x
 ·subst e;rw [if_pos rfl,if_pos rfl];exact .inr ⟨rfl,v,rfl,hv⟩
 ·rw [if_neg e,if_neg (λz=>e (by have:=Sum.inl.inj z;omega))];exact h y
theorem GX.some (h:GX H kvs md τ)(y:Nat):(Bw kvs (Sum.inl ((y:Nat):Int):Key)).isSome=md y:=by
 rcases h y with ⟨a,b⟩ | ⟨a,v,b,_⟩
 ·rw [a,b];rfl
 ·rw [a,b];rfl
theorem TX (p:Nat->Bool)(n:Nat):cnt p n<=n:=by
 induction n with
 | zero=>exact am _
 | succ n ih =>
  show cnt p n+(if p n then 1 else 0)<=n+1
  split <;> omega
theorem LZ (hx:x < n)(h:f x=false):cnt (λr=>!setB f x r) n < cnt (λr=>!f r) n:=by
 refine Tf (j:=x) (λr TL=>?_) (by show (!f x)=true;rw [h];rfl) (λTL=>?_) hx
 ·by_cases z:r=x
  ·rw [z,h];rfl
  ·have TL:(!(if r=x then true else f r))=true:=TL
   rw [if_neg z] at TL;exact TL
 ·have TL:(!(if x=x then true else f x))=true:=TL
  rw [if_pos rfl] at TL;cases TL
noncomputable def Ph (n:Nat)(md bg:Nat->Bool)(W:List Nat):Nat:=cnt (λr=>!md r) n+3 * cnt (λr=>!bg r) n+W.length
section
variable {Pr:Program}{w:World}{K:W.Frag}{mg:Str->Option Value}{base:Heap}{C CF:Addr}
structure UQ (C:Addr)(N:NA)(s:Ns)(τ:Sg)(ls:List Addr)(H:Hp)(dm db lw:Addr)(H2:Hp)(md bg:Nat->Bool)(kvs En:List (Key × V))(W:List Nat):Prop where
 at_:Bv C N H2 s ls
 fr:∀ b o,H b=some o->b≠N.l->H2 b=some o
 m:H2 dm=some (.dK kvs)
 dk:GX H2 kvs md τ
 b:H2 db=some (.dK En)
 bk:∀ y:Nat,(Bw En (Sum.inl ((y:Nat):Int):Key)).isSome=bg y
 w:H2 lw=some (.lst (lsN W))
theorem UQ.same (U:UQ C N s τ ls H dm db lw H2 md bg kvs En W)(sm:Ai H2 H3):UQ C N s τ ls H dm db lw H3 md bg kvs En W :=
 ⟨U.at_.same sm,λb o e n=>sm _ _ (U.fr b o e n),sm _ _ U.m,U.dk.mono (TSub.of_same sm),sm _ _ U.b,U.bk,sm _ _ U.w⟩
theorem Dn:Am Ko ["self","tops"] (Ah Av):=nofun
inductive UI (C:Addr)(N:NA)(s:Ns)(τ:Sg)(ls:List Addr)(ts:List Nat)(H:Hp)(dm db lw lt:Addr)(x3 x4:Option V)(m:Nat)(σ:St)(H2:Hp):Prop
 | mk (md bg:Nat->Bool) (kvs En:List (Key × V)) (W:List Nat) (x7 x8 x9:Option V):σ=[some (.ref N.p),some (.ref lt),some (.ref dm),x3,x4,some (.ref db),some (.ref lw),x7,x8,x9]->m=Ph s.n md bg W->m<=5000000->UQ C N s τ ls H dm db lw H2 md bg kvs En W->(∀ y∈W,y < s.n/\s.rp y=y)->(∀ g,g < s.n->s.rp g=g->s.tg g=2->md g=true)->Dg s τ md bg W->(∀ t∈ts,md (s.rp t)=true\/s.rp t∈W)->kvs.length+cnt (λr=>!md r) s.n<=2000000->En.length+cnt (λr=>!bg r) s.n<=2000000->UI C N s τ ls ts H dm db lw lt x3 x4 m σ H2
noncomputable def TY (C:Addr):Sp:=λvs H Q _=>∃ (N:NA) (s:Ns) (τ:Sg) (ls:List Addr) (ts gs:List Nat) (lt:Addr),vs=[.ref N.p,.ref lt]/\N.gk=EZ 0 gs/\Bv C N H s ls/\Wf s/\Hm s/\BA s τ/\(∀ j g,gs[j]?=some g->g < s.n/\τ g=.gap ((j:Nat):Int))/\(∀ g,g < s.n->s.rp g=g->s.tg g=2->g∈gs)/\gs.length<=s.n/\H lt=some (.lst (lsN ts))/\lt≠N.l/\(∀ t∈ts,t < s.n)/\ts.length<=900000 /\
 ∀ d kvs md H',Bv C N H' s ls->H' d=some (.dK kvs)->GX H' kvs md τ->(∀ t∈ts,md (s.rp t)=true)->(∀ b o,H b=some o->b≠N.l->H' b=some o)->d≠N.l->Q (.ref d) H'
theorem bV (F:C7 K "kinds_under" "Nodes.kinds_under" Av f fd)(T:Cd K mg C)(mT:mg "tuple"=none)(cL:Mc Pr w K mg base AN C 1 "leader" ["self","node"] (Bz C))(cIn:Mc Pr w K mg base AN C 2 "inner_leaders" ["self","node"] (Hn C)):Au Pr w K mg base AN 3 f fd ["self","tops"] (TY C):=by
 obtain ⟨fL,NH,GL,bL,mL⟩:=cL;obtain ⟨iB,QJ,WA,kB,kD⟩:=cIn;refine F.okS Dn (λBe A0 outer s0 H vs Q E hr h=>?_)
 ·obtain ⟨N,s,τ,ls,ts,gs,lt,rfl,egk,N0,W,ar,sτ,gn,ga,gl,CV,nlt,qX,htl,q1⟩:=h;have BZ:Ax 1 _:=hr.mono ⟨⟩;have hb:=B8;have hu:=DE hr;have wn:=W.n;have S1:B7 (Dt AN Pr w K mg base Ko "Nodes.kinds_under" (Ah Av) f Be A0 outer s0 H E).nox (BJ xU1) [("self",s0.heap.objs.size+1)] ["node"] ["self"] [0] :=
   ⟨rfl,by decide +kernel,rfl,by decide +kernel,rfl,rfl,rfl,rfl⟩
  have S2:B7 (Dt AN Pr w K mg base Ko "Nodes.kinds_under" (Ah Av) f Be A0 outer s0 H E).nox (BJ xU2) [("made",s0.heap.objs.size+2)] ["part"] ["made"] [2] :=
   ⟨rfl,by decide +kernel,rfl,by decide +kernel,rfl,rfl,rfl,rfl⟩
  have S3:B7 (Dt AN Pr w K mg base Ko "Nodes.kinds_under" (Ah Av) f Be A0 outer s0 H E).nox (BJ xU3) [("made",s0.heap.objs.size+2)] ["part"] ["made"] [2] :=
   ⟨rfl,by decide +kernel,rfl,by decide +kernel,rfl,rfl,rfl,rfl⟩
  have KO:(["node","self"]:List Str).Nodup:=by decide +kernel
  have Ys:(["part","made"]:List Str).Nodup:=by decide +kernel
  refine ⟨_,Af (Aq (i:=2) Dn.nd rfl (.inr rfl) E3)
   (Af (SN (FN v0 rfl (K3 (EC PySem.F.plainAttrs_dict PySem.F.slot_dict_items PySem.F.type_dict_items HW (Ar (Ag 0)))) (Jq rfl (Co (B2 (i:=3) Dn.nd rfl (.inl rfl)) (Co (B2 (i:=4) Dn.nd rfl (.inl rfl)) Gi)))
    (Ak (DJ hu (Ag 2) (Ag 4) (Az (Aa Ap (Aa (Ag 3) Ae))) rfl))))
   (Af (Aq (i:=5) Dn.nd rfl (.inl rfl) E3)
   (Af (HR (i:=6) Dn.nd rfl (.inl rfl) (te:=DD C "leader" (Bz C) [] E0 (AS 1) (Br (AS 0) Di)) S1 rfl (CW (Ag 1)) (λC' s0 H0 ex=>B2 (i:=0) KO rfl (.inl rfl)) (λ_ _ _ _=>Eh) (λC' s0 H0 ex=>C0 (Ag 1) T.cl mL GL BZ bL (Aa (Ag 0) Ae)))
   (Af (Dl v0 (Cf (Ag 6))
    (Af (Aq (i:=7) Dn.nd rfl (.inl rfl) (BN AA (Ag 6) ⟨Ya RN Dc⟩ D0))
    (Af (Aq (i:=8) Dn.nd rfl (.inl rfl) (C0 (Ag 0) T.cl kD WA hr kB (Aa (Ag 7) Ae)))
    (Af (HR (i:=9) Dn.nd rfl (.inl rfl) (tt:=tB (He (AS 0) (AS 1))) (te:=AS 0) S2 rfl (CW (Ag 8)) (λC' s0 H0 ex=>B2 (i:=0) Ys rfl (.inl rfl)) (λC' s0 H0 ex=>OR (EF hu (Ag 0) (Ag 1))) (λC' s0 H0 ex=>Ag 0))
    (Ak (BE (SK hu (Ag 7) (Ag 2)) (Ak (As (EC im EQ Fa Ew (Ag 6))))
     (Ak (BE (Ll (Cf (Ag 9))) (Ak (DJ hu (Ag 2) (Ag 7) (Ay Oy (Az (Aa (BN AA (Ar (Ag 0)) (Ag 7) D0) Ae)) (CD D1 rfl mT Q4 (Aa (Dx (te:=Lj (AS 1) (AS 0)) S3 rfl (CW (Ag 8)) (λC' s0 H0 ex=>B2 (i:=0) Ys rfl (.inl rfl)) (λ_ _ _ _=>Eh) (λC' s0 H0 ex=>JX hu (Ag 1) (Ag 0) D0)) Ae))) rfl))
      (Ak (BE (SK hu (Ag 7) (Ag 5)) (Ak Ig)
       (Af (DJ hu (Ag 5) (Ag 7) IL rfl) (Ak (As (F4 im GM GT Dq (Ag 6) (Aa (Ag 9) Ae)))))))))))))))
   (Ak (AH (Ag 2))))))),?_⟩
  have IG:H N.g=some (.dK (EZ 0 gs)):=by rw [<- egk];exact N0.aaj
  obtain ⟨_,L0⟩:=N0.lead;have free:∀ {b:Addr},H b=none->b≠N.p/\b≠N.s/\b≠N.i/\b≠N.l/\b≠N.v/\b≠N.g:=λ{b} h=>⟨be (Ab N0.ins h),be (Ab N0.sorts h),be (Ab N0.inner h),be (Ab L0 h),be (Ab N0.levels h),be (Ab N0.aaj h)⟩;have F6:∀ {b:Addr},H b=none->b∉ls:=λ{b} h z=>by
   obtain ⟨j,hj,ej⟩:=na.mp z;have:=N0.chs j b (by rw [ap hj,ej]);rw [h] at this;cases this
  intro dm iF;have nfg:∀ o' u',H N.g≠some (.frz o' u'):=λo' u' z=>by rw [IG] at z;cases z
  have ng:N.g≠dm:=be (free iF).2.2.2.2.2;have Fw:Ai H (upd H dm (.dK [])):=Ai.new iF;have A1:=N0.same Fw;have YJ:=Fw _ _ IG;have lO:(upd H dm (.dK [])) dm=some (.dK []):=Ad;generalize upd H dm (.dK [])=H1 at Fw A1 YJ lO ⊢;refine ⟨_,rfl,N.p,C,N.dx,_,_,rfl,A1.ins,T.cl,T.nG,rfl,.inr (.inr (.inl ⟨rfl,.inl ⟨_,YJ⟩⟩)),N.g,EZ 0 gs,rfl,rfl,YJ,λvw YD=>⟨vw,N.g,EZ 0 gs,rfl,Ad,by rw [Ac (Ab YJ YD)];exact YJ,λo=>?_⟩⟩;have YH:Ai H1 (upd H1 vw (GJ vw N.g)):=Ai.new YD;have gsl:(EZ 0 gs).length=gs.length:=Km;refine Gj (o:=o) (d:=N.g) (kvs:=EZ 0 gs) (λk σ H3=>∃ kvs md x3 x4,σ=[some (.ref N.p),some (.ref lt),some (.ref dm),x3,x4,none,none,none,none,none]/\(∀ b o',H b=some o'->b≠N.g->H3 b=some o')/\H3 N.g=some (.frz o (.dK (EZ 0 gs)))/\H3 dm=some (.dK kvs)/\kvs.length<=k/\GX H3 kvs md τ/\∀ j y,j < k->gs[j]?=some y->md y=true)
   ⟨[],λ_=>false,none,none,rfl,λb o' e n=>by rw [Ac n];exact YH b o' (Fw b o' e),Ad,by rw [Ac (be ng)];exact YH _ _ lO,am _,(λk=>.inl ⟨rfl,rfl⟩),λj y hj=>absurd hj (Os _)⟩ (λk σ H3 _ z=>?_) (λk p σ H3 tT hp z htT=>?_) (fun σ H3 z=>?_)
  ·obtain ⟨_,_,_,_,_,_,z,_⟩:=z;exact z
  ·obtain ⟨kvs,md,x3,x4,rfl,Rk,iG,WQ,vv,r9,rd⟩:=z;obtain ⟨x,hx,rfl⟩:=bR hp;have hkn:=(cr.mp hx).1;refine ⟨tT,_,rfl,BL.of Ad,rfl,_,_,rfl,_,_,rfl,rfl,?_⟩;have YK:Ai H3 (upd H3 tT (.tup [.int (((0+k:Nat):Nat):Int),.int ((x:Nat):Int)])):=Ai.new htT;refine ⟨_,rfl,by show 2<=sizeLine;omega,λpt bX=>?_⟩;have NR:Ai (upd H3 tT (.tup [.int (((0+k:Nat):Nat):Int),.int ((x:Nat):Int)])) (upd (upd H3 tT (.tup [.int (((0+k:Nat):Nat):Int),.int ((x:Nat):Int)])) pt (.tup [.str "any",.int (((0+k:Nat):Nat):Int)])):=Ai.new bX;have wpt:B3 (upd (upd H3 tT (.tup [.int (((0+k:Nat):Nat):Int),.int ((x:Nat):Int)])) pt (.tup [.str "any",.int (((0+k:Nat):Nat):Int)])) (τ x) (.ref pt):=by
    rw [(gn k x hx).2];exact ⟨pt,rfl,by rw [Ad,Nat.zero_add]⟩
   have rf:=Ai.trans YK NR;have lP:=rf _ _ WQ;have hgA:=rf _ _ iG;have dkA:=r9.mono (TSub.of_same rf);refine ⟨_,rfl,_,rfl,dm,_,rfl,IK.k (k:=Sum.inl ((x:Nat):Int)) lP (),?_⟩;refine ⟨_,setB md x,_,_,rfl,λb o' e n=>?_,by rw [Ac ng];exact hgA,Ad,?_,?_⟩
   ·rw [Ac (Ab e iF)];exact rf b o' (Rk b o' e n)
   ·have:=(EG kvs (Sum.inl ((x:Nat):Int):Key) (.ref pt)).1;omega
   ·refine ⟨(dkA.put wpt).mono (TSub.put λxs z=>by cases lP.symm.trans z),λj y hj hy=>?_⟩;unfold setB;by_cases z:j < k
    ·split
     ·rfl
     ·exact rd j y z hy
    ·have:j=k:=(by omega);subst this;rw [hx] at hy;cases hy;rw [if_pos rfl]
  ·obtain ⟨kvs,md,x3,x4,rfl,Rk,iG,WQ,vv,r9,rd⟩:=z;rw [gsl] at vv rd;have gm3:∀ g,g < s.n->s.rp g=g->s.tg g=2->md g=true:=λg a b c=>by
    obtain ⟨j,hj,ej⟩:=na.mp (ga g a b c);exact rd j g hj (by rw [ap hj,ej])
   refine .inr ⟨N.g,o,EZ 0 gs,iG,nfg,?_⟩;have YK:Ai H (upd H3 N.g (.dK (EZ 0 gs))):=λb o' e=>by
    by_cases z:b=N.g
    ·subst z;rw [IG] at e;cases e;exact Ad
    ·rw [Ac z];exact Rk b o' e z
   have WR:(upd H3 N.g (.dK (EZ 0 gs))) dm=some (.dK kvs):=(by rw [Ac (be ng)];exact WQ);have vx:GX (upd H3 N.g (.dK (EZ 0 gs))) kvs md τ:=r9.mono (TSub.put λxs z=>by rw [iG] at z;cases z);generalize upd H3 N.g (.dK (EZ 0 gs))=H4 at YK WR vx ⊢;intro db Ef;have ndb:dm≠db:=Ab WR Ef;have QT:∀ {H':Hp} {b:Addr},Ai H H'->H' b=none->H b=none:=λ{H' b} sm h=>by
    cases z:H b with
    | none=>rfl
    | some o=>rw [sm _ _ z] at h;cases h
   have bY:H db=none:=QT YK Ef;have NR:Ai H4 (upd H4 db (.dK [])):=Ai.new Ef;have bZ:(upd H4 db (.dK [])) db=some (.dK []):=Ad;have c4:=NR _ _ WR;have vy:=vx.mono (TSub.of_same NR);have T':=Ai.trans YK NR;generalize upd H4 db (.dK [])=H5 at NR bZ c4 vy T' ⊢;have A5:=N0.same T';refine ⟨_,rfl,lt,rfl,⟨_,AI.of (T' _ _ CV)⟩,LO T A5 (T' _ _ CV) nlt qX () rfl λH6 A6 e6=>?_⟩;intro lw CO;have NK:∀ b o,H b=some o->b≠N.l->H6 b=some o:=λb o e n=>(by rw [e6 b n];exact T' _ _ e);have BV:H lw=none:=by
    cases z:H lw with
    | none=>rfl
    | some o' =>
     by_cases y:lw=N.l
     ·obtain ⟨_,L6⟩:=A6.lead;rw [y,L6] at CO;cases CO
     ·rw [NK lw o' z y] at CO;cases CO
   obtain ⟨m1,m2,m3,m4,m5,m6⟩:=free iF;obtain ⟨b1,b2,b3,b4,b5,b6⟩:=free bY;obtain ⟨w1,w2,w3,w4,w5,w6⟩:=free BV;have c5:H6 dm=some (.dK kvs):=(by rw [e6 dm m4];exact c4);have c6:H6 db=some (.dK []):=(by rw [e6 db b4];exact bZ);have vz:dm≠lw:=Ab c5 CO;have vA:db≠lw:=Ab c6 CO;have lQ:TSub H5 H6:=λb xs e=>by
    obtain ⟨_,L5⟩:=A5.lead;rw [e6 b (AW e L5 (by intro z;cases z))];exact e
   have iH:Ai H6 (upd H6 lw (.lst (lsN (ts.map s.rp)))):=Ai.new CO;have U1:UQ C N s τ ls H dm db lw (upd H6 lw (.lst (lsN (ts.map s.rp)))) md (λ_=>false) kvs [] (ts.map s.rp) :=
    ⟨A6.same iH,λb o e n=>iH _ _ (NK b o e n),iH _ _ c5,vy.mono (TSub.trans lQ (TSub.of_same iH)),iH _ _ c6,λr=>rfl,Ad⟩
   have c1:=TX (λr=>!md r) s.n;have c2:=TX (λr=>!(λ_:Nat=>false) r) s.n;refine ⟨UI C N s τ ls ts H dm db lw lt x3 x4,
    ⟨_,md,λ_=>false,kvs,[],ts.map s.rp,none,none,none,rfl,rfl,by unfold Ph;rw [ba];omega,U1,(λy hy=>by obtain ⟨t,ht,rfl⟩:=ln.mp hy;exact W.rp t (qX t ht)),gm3,(λx h=>by cases h),(λt ht=>.inr (ln.mpr ⟨t,ht,rfl⟩)),(),ce (Nat.le_of_eq (Nat.zero_add _)) (ce (TX _ _) ())⟩,?_⟩
   clear U1 c5 c6 vy c4 bZ vx WR r9 WQ c1 c2 vv CO iH A6 e6 NK lQ;rintro m σ H2 ⟨md,bg,kvs,En,Wl,x7,x8,x9,rfl,rfl,hm,U2,wl,gm,dg,tm,iI,c7⟩;refine ⟨_,rfl,!(lsN Wl).isEmpty,.inl ⟨_,AI.of U2.w,rfl⟩,?_⟩;rcases Tu Wl with rfl | ⟨W1,x,rfl⟩
   ·refine Bx ⟨_,rfl,?_⟩;exact q1 dm kvs md H2 U2.at_ U2.m U2.dk (λt ht=>(tm t ht).resolve_right (by simp)) U2.fr m4
   ·rw [TD] at *;obtain ⟨xn,xr⟩:=wl x (by simp);have ew:lsN (W1++[x])=lsN W1++[V.int ((x:Nat):Int)]:=Cq _ _;have DT:(!(lsN (W1++[x])).isEmpty)=true:=(by simp [lsN]);rw [DT];refine CQ ⟨_,fun σ' H' z=>z,?_⟩;have lW:(W1++[x]).length=W1.length+1:=(by simp);have hlen:W1.length<=5000000:=(by unfold Ph at hm;rw [lW] at hm;omega);refine ⟨_,rfl,1,rfl,lw,_,_,_,rfl,rfl,AI.of U2.w,by rw [ew];exact RY _ _,?_⟩;have chl:=W.ar x xn;refine ⟨_,rfl,N.p,N.dx,_,rfl,U2.at_.ins,rfl,_,rfl,N,s,ls,x,rfl,U2.at_,xn,W.ch x xn,chl,λli H4 A4 LP WS f4=>?_⟩;obtain ⟨_,jZ⟩:=U2.at_.lead;have lR:TSub H2 H4:=λb xs e=>(by rw [f4 b (AW e jZ (by intro z;cases z)) (Ab e LP)];exact e);have U4:UQ C N s τ ls H dm db lw H4 md bg kvs En (W1++[x]) :=
     ⟨A4,λb o e n=>by rw [f4 b n (Ab (U2.fr b o e n) LP)];exact U2.fr b o e n,by rw [f4 dm m4 (Ab U2.m LP)];exact U2.m,U2.dk.mono lR,by rw [f4 db b4 (Ab U2.b LP)];exact U2.b,U2.bk,by rw [f4 lw w4 (Ab U2.w LP)];exact U2.w⟩
    have inl:((s.ch x).map s.rp).length<=2:=(by rw [ba];exact chl);have NU:∀ c∈(s.ch x).map s.rp,(c < s.n/\s.rp c=c)/\∃ p∈s.ch x,s.rp p=c:=λc hc=>by
     obtain ⟨p,hp,rfl⟩:=ln.mp hc;exact ⟨W.rp p (W.ch x xn p hp),p,hp,rfl⟩
    have cτ:((s.ch x).map s.rp).map τ=(s.ch x).map τ:=by
     rw [List.map_map];exact vc λc hc=>((sτ c (W.ch x xn c hc)).1).symm
    have cM:∀ c∈s.ch x,s.rp c∈(s.ch x).map s.rp:=λc hc=>Of hc;have cL:((s.ch x).map s.rp).length=arity (s.tg x):=(by rw [ba];exact ar.ar x xn);generalize (s.ch x).map s.rp=cs at WS inl NU cτ cM cL;clear lR jZ f4 A4 LP;refine ⟨_,rfl,li,rfl,⟨_,AI.of WS⟩,?_⟩;refine Cw (K:=K) (a:=li) (xs:=lsN cs) (λk ys H5=>H5=H4/\ys=lsN ((cs.take k).filter λc=>!md c)) ⟨rfl,by simp [lsN]⟩ (λk ys H5 z=>by rw [z.1];exact AI.of WS) (by simp [lsN];omega) (λk ys H5 z=>?_) (λk c' ys H5 CS z=>?_)
     (λx σ H Q Q' h z=>h _ _ z) (fun σ H Q Q' h z=>?_) (fun σ H Q Q' h z=>?_) (λys H5 z=>?_)
    ·rw [z.2];have h1:=AM (λc=>!md c) (cs.take k);rw [pc] at h1;simp only [lsN,ba];omega
    ·obtain ⟨rfl,rfl⟩:=z;unfold lsN at CS;rw [jp] at CS;cases ec:cs[k]? with
     | none=>rw [ec] at CS;cases CS
     | some c =>
      rw [ec] at CS;cases CS;refine ⟨Ext.set rfl,_,rfl,_,rfl,dm,_,rfl,Cr.k (k:=Sum.inl (c:Int)) U4.m,_,rfl,?_⟩;rw [U4.dk.some c];have et:cs.take (k+1)=cs.take k++[c]:=(by rw [wP,ec];rfl);cases emc:md c with
      | false =>
       refine CQ ⟨_,rfl,rfl,?_⟩;rw [et,OT];simp [emc,lsN]
      | true =>
       refine Bx ⟨rfl,?_⟩;rw [et,OT];simp [emc]
    ·obtain ⟨v1,z1,v2,z2,a1,o1,z3,z4,b1,z5,z6⟩:=z;exact ⟨v1,z1,v2,z2,a1,o1,z3,z4,b1,z5,h _ _ z6⟩
    ·obtain ⟨v1,z1,z2⟩:=z;exact ⟨v1,z1,h _ _ z2⟩
    ·obtain ⟨rfl,rfl⟩:=z;have el2:(lsN cs).length=cs.length:=(by simp [lsN]);rw [el2,sK];intro lm vB;have ms2:(cs.filter λc=>!md c).length<=2:=ce (AM _ _) inl;have rh:∀ y∈cs.filter (λc=>!md c),(y < s.n/\s.rp y=y)/\md y=false/\∃ p∈s.ch x,s.rp p=y:=λy hy=>by
      obtain ⟨h1,h2⟩:=AT.mp hy;exact ⟨(NU y h1).1,by simpa using h2,(NU y h1).2⟩
     have msA:∀ c∈cs,md c=false->c∈cs.filter (λc=>!md c):=λc hc e=>AT.mpr ⟨hc,by rw [e];rfl⟩;have msE:cs.filter (λc=>!md c)=[]->∀ c∈cs,md c=true:=λh c hc=>by
      cases e:md c with
      | true=>rfl
      | false =>
       have:c∈cs.filter (λc=>!md c):=AT.mpr ⟨hc,by rw [e];rfl⟩;rw [h] at this;cases this
     generalize cs.filter (λc=>!md c)=KQ at vB ms2 rh msE msA;have vC:Ai H5 (upd H5 lm (.lst (lsN KQ))):=Ai.new vB;have U5:=U4.same vC;have lS:=vC _ _ WS;have WT:(upd H5 lm (.lst (lsN KQ))) lm=some (.lst (lsN KQ)):=Ad;generalize upd H5 lm (.lst (lsN KQ))=Rq at vC U5 lS WT ⊢;refine ⟨_,rfl,_,rfl,dm,_,rfl,Cr.k (k:=Sum.inl (x:Int)) U5.m,_,rfl,?_⟩;rw [U5.dk.some x];cases YL:md x with
     | true =>
      refine CQ ?_;refine ⟨_,rfl,.inl ⟨rfl,_,AI.of U5.w⟩,lw,_,V.int ((x:Nat):Int),rfl,rfl,U5.w,by rw [ew];simp,?_⟩;have sub:TSub Rq (upd Rq lw (.lst (lsN (W1++[x])).dropLast)):=TSub.put λxs z=>(by rw [U5.w] at z;cases z);have lp:Ph s.n md bg W1 < Ph s.n md bg (W1++[x]):=(by unfold Ph;rw [lW];omega);refine ⟨Ph s.n md bg W1,lp,md,bg,kvs,En,W1,_,_,_,rfl,rfl,(),⟨U5.at_.off w1 w2 w3 w4 w5 w6 (F6 BV),λb o e n=>by rw [Ac (Ab e BV)];exact U5.fr b o e n,by rw [Ac vz];exact U5.m,U5.dk.mono sub,by rw [Ac vA];exact U5.b,U5.bk,by rw [Ad,ew,Q1]⟩,(λy hy=>wl y (by simp [hy])),gm,dg.pop YL,λt ht=>?_,iI,c7⟩;rcases tm t ht with z | z
      ·exact .inl z
      ·rcases bn.mp z with z | z
       ·exact .inr z
       ·rw [al.mp z];exact .inl YL
     | false =>
      refine Bx ?_;refine ⟨_,rfl,!(lsN KQ).isEmpty,.inl ⟨_,AI.of WT,rfl⟩,?_⟩;by_cases Pj:KQ=[]
      ·have eb:(!(!(lsN KQ).isEmpty))=true:=(by rw [Pj];rfl);show if (!(!(lsN KQ).isEmpty))=true then _ else _
       rw [eb];refine CQ ?_;have all:=msE Pj;have qM:=W.tg x xn;have lT:s.tg x≠2:=λz=>(by rw [gm x xn xr z] at YL;cases YL);have tx:τ x=IF (s.tg x) (cs.map τ):=by
        have:=(sτ x xn).2;rw [xr] at this;rw [this lT,cτ]
       refine ⟨_,rfl,N.p,C,N.dx,_,_,rfl,U5.at_.ins,T.cl,T.nS,rfl,_,rfl,N.s,_,_,_,rfl,rfl,AI.of U5.at_.sorts,Ao (D6 xn),by show 1<=sizeLine;omega,λp1 LS=>?_⟩;have QG:Ai Rq (upd Rq p1 (.tup [.str (BB (s.tg x))])):=Ai.new LS;have U7:=U5.same QG;have cc:=QG _ _ lS;have lU:(upd Rq p1 (.tup [.str (BB (s.tg x))])) p1=some (.tup [.str (BB (s.tg x))]):=Ad;generalize upd Rq p1 (.tup [.str (BB (s.tg x))])=H7 at QG U7 cc lU ⊢;have fin:∀ (x7 x8 x9:Option V) (a:Addr) (vs:List V) (H9:Hp),Ai H7 H9->JV H7 (cs.map τ) vs->H9 a=some (.tup (.str (BB (s.tg x))::vs)) ->
         ∃ m',m' < Ph s.n md bg (W1++[x])/\UI C N s τ ls ts H dm db lw lt x3 x4 m' [some (.ref N.p),some (.ref lt),some (.ref dm),x3,x4,some (.ref db),some (.ref lw),x7,x8,x9] (upd H9 dm (.dK (putK kvs (Sum.inl (x:Int):Key) (.ref a)))):=by
        intro x7 x8 x9 a vs H9 TC kv9 ha9;have kat:B3 H9 (τ x) (.ref a):=by
         rw [tx];exact bU qM lT (by rw [ba];exact cL) (JV.mono (TSub.of_same TC) kv9) ha9
        have U9:=U7.same TC;have sub:TSub H9 (upd H9 dm (.dK (putK kvs (Sum.inl (x:Int):Key) (.ref a)))):=TSub.put λxs z=>(by rw [U9.m] at z;cases z);have cs:=LZ (f:=md) xn YL;have lp:Ph s.n (setB md x) bg (W1++[x]) < Ph s.n md bg (W1++[x]):=(by unfold Ph;omega);have pl:=(EG kvs (Sum.inl (x:Int):Key) (.ref a)).1;refine ⟨_,lp,setB md x,bg,_,En,W1++[x],x7,x8,x9,rfl,rfl,(),⟨U9.at_.off m1 m2 m3 m4 m5 m6 (F6 iF),λb o e n=>by rw [Ac (Ab e iF)];exact U9.fr b o e n,Ad,(U9.dk.put kat).mono sub,by rw [Ac (be ndb)];exact U9.b,U9.bk,by rw [Ac (be vz)];exact U9.w⟩,wl,(λg a b c=>by
         show (if g=x then true else md g)=true
         split
         ·rfl
         ·exact gm g a b c),dg.make,λt ht=>?_,(),c7⟩
        rcases tm t ht with z | z
        ·refine .inl ?_;show (if s.rp t=x then true else md (s.rp t))=true
         split
         ·rfl
         ·exact z
        ·exact .inr z
       refine ⟨_,rfl,li,rfl,⟨_,AI.of cc⟩,?_⟩;refine Cw (K:=K) (a:=li) (xs:=lsN cs) (λk ys H8=>H8=H7/\ys.length=k/\JV H7 ((cs.take k).map τ) ys) ⟨rfl,rfl,.nil⟩ (λk ys H8 z=>by rw [z.1];exact AI.of cc) (by simp [lsN];omega) (λk ys H8 z=>by rw [z.2.1];exact am _) (λk c' ys H8 CS z=>?_)
        (λx σ H Q Q' h z=>h _ _ z) (fun σ H Q Q' h z=>h _ _ z) (fun σ H Q Q' h z=>?_) (λys H8 z=>?_)
       ·obtain ⟨rfl,cf,lV⟩:=z;unfold lsN at CS;rw [jp] at CS;cases ec:cs[k]? with
        | none=>rw [ec] at CS;cases CS
        | some c =>
         rw [ec] at CS;cases CS;rcases U7.dk c with ⟨z1,_⟩ | ⟨_,v,z1,zk⟩
         ·rw [all c (ci ec)] at z1;cases z1
         ·exact ⟨Ext.set rfl,Dy ⟨_,rfl,_,rfl,dm,v,rfl,.inl ⟨kvs,Sum.inl ((c:Nat):Int),.inl U7.m,rfl,z1.symm⟩,rfl,by simp [cf],by rw [wP,ec,wT];exact Paired.app lV (.cons zk .nil)⟩⟩
       ·obtain ⟨v1,z1,v2,z2,a1,v3,z3,z4,z5⟩:=z;exact ⟨v1,z1,v2,z2,a1,v3,z3,z4,h _ _ z5⟩
       ·obtain ⟨rfl,cf,lV⟩:=z;have aY:(lsN cs).length=cs.length:=(by simp [lsN]);rw [aY,sK] at lV;intro D hD;have rj:Ai H8 (upd H8 D (.lst ys)):=Ai.new hD;refine ⟨D,ys,rfl,.inl ⟨AI.of Ad,λq hq=>?_⟩⟩;have smq:Ai (upd H8 D (.lst ys)) (upd (upd H8 D (.lst ys)) q (.tup ys)):=Ai.new hq;have WU:=Ai.trans rj smq;have hp9:=WU _ _ lU;have yl:ys.length<=2:=(by rw [cf];simp [lsN];omega);refine ⟨p1,q,_,ys,rfl,rfl,BL.of hp9,BL.of Ad,by simp,by show 1+ys.length<=sizeLine;omega,λz=>?_,λz r QF=>?_⟩
        ·subst z;exact ⟨_,rfl,_,rfl,dm,_,rfl,IK.k (k:=Sum.inl (x:Int)) (U7.same WU).m (),fin _ _ _ p1 [] _ WU lV hp9⟩
        ·have smr:Ai (upd (upd H8 D (.lst ys)) q (.tup ys)) (upd (upd (upd H8 D (.lst ys)) q (.tup ys)) r (.tup ([.str (BB (s.tg x))]++ys))):=Ai.new QF;have TC:=Ai.trans WU smr;exact ⟨_,rfl,_,rfl,dm,_,rfl,IK.k (k:=Sum.inl (x:Int)) (U7.same TC).m (),fin _ _ _ r ys _ TC lV Ad⟩
      ·have eb:(!(!(lsN KQ).isEmpty))=false:=by
        cases e:KQ with
        | nil=>exact absurd e Pj
        | cons _ _=>rfl
       show if (!(!(lsN KQ).isEmpty))=true then _ else _
       rw [eb];refine Bx ?_;refine ⟨_,rfl,_,rfl,db,_,rfl,Cr.k (k:=Sum.inl (x:Int)) U5.b,_,rfl,?_⟩;rw [U5.bk x];cases vD:bg x with
       | true =>
        exfalso;cases e:KQ with
        | nil=>exact Pj e
        | cons y r =>
         obtain ⟨_,a2,p,a3,a4⟩:=rh y (by rw [e];exact .head _);have:=dg.stuck vD YL p a3;rw [a4,a2] at this;cases this
       | false =>
        refine Bx ?_;refine ⟨_,rfl,_,rfl,db,_,rfl,IK.k (k:=Sum.inl (x:Int)) U5.b (),?_⟩;have lX:lm≠db:=AW WT U5.b (by intro z;cases z);have w7:(upd Rq db (.dK (putK En (Sum.inl (x:Int):Key) (.bl true)))) lw=some (.lst (lsN (W1++[x]))):=(by rw [Ac (be vA)];exact U5.w);have lm7:(upd Rq db (.dK (putK En (Sum.inl (x:Int):Key) (.bl true)))) lm=some (.lst (lsN KQ)):=(by rw [Ac lX];exact WT);have l1':(lsN (W1++[x])).length=W1.length+1:=(by simp [lsN]);have l2':(lsN KQ).length=KQ.length:=(by simp [lsN]);refine ⟨_,rfl,.inl ⟨rfl,_,AI.of w7⟩,_,rfl,lw,lm,_,_,rfl,rfl,w7,lm7,(),?_⟩;have cs':=LZ (f:=bg) xn vD;have lp:Ph s.n md (setB bg x) (W1++[x]++KQ) < Ph s.n md bg (W1++[x]):=(by unfold Ph;rw [ca];omega);have pl:=(EG En (Sum.inl (x:Int):Key) (.bl true)).1;have Nw:TSub Rq (upd Rq db (.dK (putK En (Sum.inl (x:Int):Key) (.bl true)))):=TSub.put λxs z=>(by rw [U5.b] at z;cases z);have VU:TSub Rq (upd (upd Rq db (.dK (putK En (Sum.inl (x:Int):Key) (.bl true)))) lw (.lst (lsN (W1++[x])++lsN KQ))):=TSub.trans Nw (TSub.put λxs z=>by rw [w7] at z;cases z);refine ⟨_,lp,md,setB bg x,kvs,putK En (Sum.inl (x:Int):Key) (.bl true),W1++[x]++KQ,_,_,_,rfl,rfl,(),⟨(U5.at_.off b1 b2 b3 b4 b5 b6 (F6 bY)).off w1 w2 w3 w4 w5 w6 (F6 BV),λb o e n=>by rw [Ac (Ab e BV),Ac (Ab e bY)];exact U5.fr b o e n,by rw [Ac vz,Ac ndb];exact U5.m,U5.dk.mono VU,by rw [Ac vA,Ad],λr=>?_,by rw [Ad,<- Cq]⟩,(λy hy=>(bn.mp hy).elim (wl y) λz=>(rh y z).1),gm,(dg.begin vD (λy hy=>by
         obtain ⟨_,_,p,a3,a4⟩:=rh y hy;have lT:s.tg x≠2:=λz=>(by rw [gm x xn xr z] at YL;cases YL);have pn:=W.ch x xn p a3;rw [<- a4,<- (sτ p pn).1];have:=(sτ x xn).2;rw [xr] at this;rw [this lT];exact NF lT (W.tg x xn) (by rw [ba];exact ar.ar x xn) _ (Of a3)) λc hc z=>msA _ (cM c hc) z),(λt ht=>(tm t ht).imp id λz=>bn.mpr (.inl z)),iI,()⟩
        rw [Ey];show _=if r=x then true else bg r
        by_cases z:r=x
        ·rw [if_pos (by rw [z]),if_pos z];rfl
        ·rw [if_neg (λy=>z (by have:=Sum.inl.inj y;omega)),if_neg z];exact U5.bk r
noncomputable def cj:Sp:=λvs H Q _=>∃ (e:Ex) (rt:V) (G:Kd),vs=[rt]/\BD H e rt/\e.cl []/\e.sz<=3000/\HK g0 e G/\∀ v t H',TSub H H'->B3 H' t v->CK t=t->ok t=true->(∃ m,fill m t=G)->Q v H'
noncomputable def sg0 (G:Kd):Sg:=λi=>if i=0 then .num else if i=1 then .tru else G
theorem kn0 (G:Kd):Kn (qU.add 2 []) (fun σ=>σ=sg0 G) G:=⟨fun σ z i hi=>by
 have hi:i < 3:=hi;have c:i=0\/i=1\/i=2:=by omega
 subst z;rcases c with rfl | rfl | rfl
 ·exact ⟨rfl,λ_=>rfl⟩
 ·exact ⟨rfl,λ_=>rfl⟩
 ·exact ⟨rfl,λt=>absurd rfl t⟩,⟨_,rfl⟩,fun σ z=>by subst z;exact ⟨rfl,rfl,rfl⟩,am _⟩
theorem lY (o:Ok s A)(a:Hm s)(h:s.n < 900000):Wf s:=⟨o.rp,o.ch,o.ar,a.tg,h⟩
theorem U3:Am ["tree","finder","nodes","top","tops"] ["tree"] (Ah HX):=nofun
theorem lZ (F:C7 K "widest" "widest" HX f fd)(TF:D7 K mg CF)(T:Cd K mg C)(Z:NM Pr w K mg base C)(Y:FM Pr w K mg base C CF)(MF:Mk K CF fI)(GF:Au Pr w K mg base AN 3 fI lK ["self"] (lI C CF))(bF:Binds K lK ["self"] [])(Ec:mg "list"=none)(F0:mg "range"=none)(vE:Mc Pr w K mg base AN CF 7 "ask_all" ["self"] (TN C CF))(vF:Mc Pr w K mg base AN C 2 "number_gaps" ["self","tops"] (TV C))(vG:Mc Pr w K mg base AN C 3 "kinds_under" ["self","tops"] (TY C))(cL:Mc Pr w K mg base AN C 1 "leader" ["self","node"] (Bz C)) :
  Au Pr w K mg base AN 8 f fd ["tree"] cj:=by
 refine F.okS U3 (λBe A0 outer s0 H vs Q E hr h=>?_)
 ·obtain ⟨e,rt,G,rfl,he,cl,hz,hk,q1⟩:=h;have BZ:Ax 1 _:=hr.mono ⟨⟩;have DW:Ax 2 _:=hr.mono ⟨⟩;have bz:Ax 3 _:=hr.mono ⟨⟩;have QP:Ax 4 _:=hr.mono ⟨⟩;have hr7:Ax 7 _:=hr;have hu:=DE hr;refine ⟨_,(Af (Aq (i:=1) U3.nd rfl (.inl rfl) (OV MF GF QP rfl TF.mC bF))
   (Af (Aq (i:=2) U3.nd rfl (.inl rfl) (Ar (Ag 1)))
   (Af (Aq (i:=3) U3.nd rfl (.inl rfl) (Dh (Ag 2) T.cl Z.ng DW))
   (Af (As (Bp (Ag 1) TF.cl Y.ask BZ (Aa (Ag 0) (Aa E3 (Aa (Ag 3) Ae)))))
   (Af (As (Dh (Ag 1) TF.cl vE hr7))
   (Af (Aq (i:=4) U3.nd rfl (.inl rfl) (Ay JR (B0 (Aa (Ag 3) Ae)) (Qp rfl rfl Ec rfl F0 (Aa (BO BX rfl T.len PP (Aa (Ar (Ag 2)) Ae)) Ae))))
   (Af (As (Bp (Ag 2) T.cl vF DW (Aa (Ag 4) Ae)))
   (Ak (AH (JX hu (Bp (Ag 2) T.cl vG bz (Aa (Ag 4) Ae)) (Bp (Ag 2) T.cl cL BZ (Aa (Ag 3) Ae)) D0)))))))))),?_⟩
  intro y dy hy qV DT;refine ⟨y,dy,rfl,Ad,λF ls A H1 eF eg M1 k1=>⟨rfl,?_⟩⟩;have k01:KS H H1:=KS.trans (KS.of_same λb o e=>by rw [Ac (Ab e hy),Ac (Ab e qV)];exact e) k1;subst eF;apply ⟨F.p,CF,F.dx,_,_,rfl,M1.ins,TF.cl,TF.nN,rfl,?_⟩;apply ⟨F.N.p,F.N.dx,_,rfl,M1.nod.ins,rfl,?_⟩;apply NP M1 ⟨⟩ λIV H2 M2 k2=>?_;have lB:=k01.trans k2;apply ⟨F.p,F.dx,_,rfl,M2.ins,rfl,?_⟩;apply λd hd=>?_;have sd:Ai H2 (upd H2 d (.dK [])):=Ai.new hd;have M3:=M2.same sd;have TM:=lB.trans (KS.of_same sd);have gd:GV (upd H2 d (.dK [])) d (λ_=>none) 0:=⟨[],Ad,am _,λy p z=>by cases z⟩;generalize upd H2 d (.dK [])=H3 at M3 TM gd ⊢;apply ⟨F,_,IV,_,[],e,λ_=>none,2,0,rt,d,rfl,M3,BD.mono TM.tup he,gd,(),by simp,λH4 M4 k4=>?_⟩;have k04:=TM.trans k4;apply ⟨F.p,F.dx,_,rfl,M4.ins,rfl,?_⟩;left;have a2:plus A qU.n 2:=.inr rfl;refine ⟨F,G,_,_,IV,_,_,3+10 * e.sz,rfl,M4,kn0 G,.ask (xs:=[]) a2 (M4.ok.lev a2) (λx p z=>by cases z) cl (λy hy=>by cases hy) (fun σ z=>⟨g0,(λx p e=>by cases e),by rw [z];exact hk⟩) (.nil (am _)),(),by simp [fm,bh];omega,λs5 vH A5 S5 H5 M5 vI n5 g5 k5=>?_⟩;have g5:3<=s5.n:=g5;have k05:=k04.trans k5;have N5:=M5.nod;have W5:Wf s5:=lY M5.ok M5.art ();obtain ⟨σ5,z5⟩:=vI.ne;obtain ⟨gl,τ,ng,hτ,gj,WN,nod,pl,vJ,mt⟩:=BA.told (x:=2) ⟨M5.ok.rp,M5.ok.ch,M5.art.tg,M5.art.ar⟩ (vI.sol σ5 z5) ();rw [(vI.z σ5 z5).2.2] at mt;have gll:gl.length<=s5.n:=nodup_range nod λx hx=>by
   obtain ⟨j,hj,ej⟩:=na.mp hx;exact (gj j x (by rw [ap hj,ej])).1
  obtain ⟨par,rk,U5,L5⟩:=id N5.uf;apply DV (DU (no rfl)) λl1 H6 CB s6 e6=>?_;have N6:=N5.same s6;apply ⟨_,rfl,F.N.p,C,F.N.dx,_,_,rfl,N6.ins,T.cl,T.nL,rfl,F.N.l,_,rfl,.inl (AI.of (s6 _ _ L5)),s5.n,by rw [CA],(),λl2 D9=>?_⟩;have s7:=Ai.new (o:=.lst ((List.range s5.n).map λi:Nat=>V.int i)) D9;refine OW (xs:=lsN [2]) (zs:=lsN (List.range s5.n)) (s7 _ _ e6) Ad (by simp only [lsN,ba,List.length_range,sB,List.length_nil];exact DU ()) λl3 H8 MB s8 e8=>?_;rw [<- Cq] at e8;have YM:=(s6.trans s7).trans s8;have N8:=N5.same YM;have Wx:H5 l3=none:=(s6.trans s7).free MB;obtain ⟨_,L0⟩:=N5.lead;have n3l:l3≠F.N.l:=be (Ab L0 Wx);have n3g:l3≠F.N.g:=be (Ab N5.aaj Wx);have k08:=k05.trans (KS.of_same YM);have tn:∀ t∈[2]++List.range s5.n,t < s5.n:=λt ht=>by
   rcases bn.mp ht with z | z
   ·rw [al.mp z];omega
   ·exact FB.mp z
  apply ⟨F.N.p,F.N.dx,_,rfl,N8.ins,rfl,?_⟩;apply ⟨F.N,s5,vH,[2]++List.range s5.n,gl,l3,rfl,eg,N8,W5,e8,tn,by simp;omega,ng,λH9 N9 f9=>?_⟩;have t89:TSub H8 H9:=λb xs e=>f9 b _ e (λz=>by
   obtain ⟨_,L8⟩:=N8.lead;rw [z,L8] at e;cases e) (λz=>by rw [z,N8.aaj] at e;cases e)
  have t09:TSub H H9:=k08.tup.trans t89;have h9:H9 l3=some (.lst (lsN ([2]++List.range s5.n))):=f9 _ _ e8 n3l n3g;apply ⟨F.N.p,F.N.dx,_,rfl,N9.ins,rfl,?_⟩;left;have tnl:∀ {H' IW:Hp} {N:NA} {s:Ns} {ls:List Addr},Bv C N H' s ls->(∀ b o,H' b=some o->b≠N.l->IW b=some o)->TSub H' IW:=λ{H' IW N s ls} N' f b xs e=>f b _ e λz=>by
   obtain ⟨_,L'⟩:=N'.lead;rw [z,L'] at e;cases e
  refine ⟨{ F.N with gk:=EZ 0 gl },s5,τ,vH,[2]++List.range s5.n,gl,l3,rfl,rfl,N9,W5,M5.art,hτ,(λj g e=>⟨(gj j g e).1,(gj j g e).2.2.2⟩),WN,gll,h9,n3l,tn,by simp;omega,λdd kvs md Ha Na hda m7 qN fa nda=>?_⟩;have t9a:=tnl N9 fa;apply ⟨F.N.p,F.N.dx,_,rfl,Na.ins,rfl,?_⟩;apply ⟨{ F.N with gk:=EZ 0 gl },s5,vH,2,rfl,Na,(),λHb Nb fb=>?_⟩;have tab:TSub Ha Hb:=λb xs e=>by
   obtain ⟨_,La⟩:=Na.lead;rw [fb b (AW e La (by intro z;cases z))];exact e
  have Ef:Hb dd=some (.dK kvs):=by rw [fb dd nda];exact hda
  rcases m7 (s5.rp 2) with ⟨z,_⟩ | ⟨_,v,hv,wv⟩
  ·rw [qN 2 (by simp)] at z;cases z
  ·refine ⟨dd,v,rfl,.inl ⟨kvs,Sum.inl ((s5.rp 2:Nat):Int),.inl Ef,rfl,hv.symm⟩,?_⟩;rw [<- (hτ 2 ()).1] at wv;exact q1 v _ Hb ((t09.trans t9a).trans tab) (B3.mono tab wv) pl vJ mt
end
end K
namespace K
open PySem L2 KM KS KX
section
variable {Pr:Program}{w:World}{K:W.Frag}{mg:Str->Option Value}{base:Heap}
noncomputable def Pk (K:W.Frag):Sp:=λvs H Q _=>∃ (p c:Addr) (us:List V) (ns:List Nat) (xs:List Str),vs=[.ref p,.ref c]/\H p=some (.tup us)/\LK K c (ns.map λn:Nat=>V.int n)/\Paired (λn x=>us[n]?=some (V.str x)) ns xs/\ns.length<=10 /\
 ∀ q H',Ai H H'->H' q=some (.tup (xs.map V.str))->Q (.ref q) H'
noncomputable def vK:Expr:=match valueOf (inDef DA 0) with
 | .Call _ [e] _ _=>e
 | _=>.Constant .none 0 ⟨0,0,0,0⟩
theorem m8:Am ["tree","places"] ["tree","places"] (Ah DA):=nofun
theorem ck (F:C7 K "names_at" "names_at" DA f fd)(F1:mg "tuple"=none):Au Pr w K mg base AN 1 f fd ["tree","places"] (Pk K):=by
 refine F.okS m8 (λBe A outer s H vs Q E hr h=>?_)
 ·obtain ⟨p,c,us,ns,xs,rfl,hp,hc,hx,hn,q⟩:=h;have S:B7 (Dt AN Pr w K mg base ["tree","places"] "names_at" (Ah DA) f Be A outer s H E).nox (BJ vK) [("tree",s.heap.objs.size+1)] ["place"] ["tree"] [0] :=
   ⟨rfl,by decide +kernel,rfl,by decide +kernel,rfl,rfl,rfl,rfl⟩
  have KO:(["place","tree"]:List Str).Nodup:=by decide +kernel
  refine ⟨_,(Ak (AH (CD D1 rfl F1 Q4 (Aa (Dx (te:=G7 (GQ K) (AS 1) (AS 0)) S rfl (Jl (Ag 1)) (λC s0 H0 ex=>B2 (i:=0) KO rfl (.inl rfl)) (λ_ _ _ _=>Eh) (λC s0 H0 ex=>BN Et (Ag 1) (Ag 0) D0)) Ae)))),?_⟩;apply ⟨c,rfl,⟨_,hc.sq H⟩,?_⟩;refine T5 (K:=K) (a:=c) (xs:=ns.map λn:Nat=>V.int n) (λi ys H'=>H'=H/\ys=(xs.take i).map V.str) ⟨rfl,rfl⟩ (λi ys H' z=>hc.sq H') (by rw [ba];exact Ei ()) (λi ys H' z=>?_) rfl (λi x ys H1 IU z=>?_) (λys H1 z=>?_)
  ·rw [z.2,ba,pc];omega
  ·obtain ⟨rfl,rfl⟩:=z;obtain ⟨n,gW,rfl⟩:∃ n,ns[i]?=some n/\V.int (n:Nat)=x:=by
    rw [jp] at IU;exact Option.map_eq_some_iff.mp IU
   obtain ⟨x,rm,hxx⟩:=Paired.at1 hx gW;have hi:=(cr.mp gW).1;apply CQ ?_;apply An hp (Ao hxx) ?_;refine Nx.mk (by rw [ba];exact hi) ⟨rfl,?_⟩;rw [List.take_succ,rm];simp
  ·obtain ⟨rfl,rfl⟩:=z;intros d H2 s2 e2;refine ⟨d,_,rfl,.inl ⟨AI.of e2,λl hl=>?_⟩⟩;have e5:xs.take (ns.map λn:Nat=>V.int n).length=xs:=(by rw [ba,Paired.len hx,sK]);rw [e5];exact q l _ (s2.trans (Ai.new hl)) Ad
noncomputable def NV (H:Hp)(r:V)(pt:Ex × List Str):Prop:=∃ p q re,r=.ref p/\H p=some (.tup [re,.ref q])/\BD H pt.1 re/\H q=some (.tup (pt.2.map V.str))
theorem NV.mono (s:TSub H H')(h:NV H r pt):NV H' r pt:=by
 obtain ⟨p,q,re,h1,h2,h3,h4⟩:=h;exact ⟨p,q,re,h1,s _ _ h2,BD.mono s h3,s _ _ h4⟩
noncomputable def U6:Sp:=λvs H Q _=>∃ (e:Ex) (re:V),vs=[re]/\BD H e re/\∀ l rs H',Ai H H'->H l=none->H' l=some (.lst rs)->Paired (NV H') rs e.prt->Q (.ref l) H'
theorem m9:Am ["tree"] ["tree"] (Ah By):=nofun
theorem QU (e:Ex):e.plc.length<=3/\∀ r∈e.plc,r.2.length<=2:=by
 cases e <;> simp [Ex.plc]
theorem cm (F:C7 K "parts_with_names" "parts_with_names" By f fd)(kd:FU w K iJ rows)(vL:mg "PLACES"=some (.ref iJ))(kp:KPl K rows)(cN:Cl Pr w K mg base 1 "names_at" ["tree","places"] (Pk K)):Au Pr w K mg base AN 2 f fd ["tree"] U6:=by
 refine F.okS m9 (λBe A outer s H vs Q E hr h=>?_)
 ·obtain ⟨e,re,rfl,he,q⟩:=h;have S:B7 (Dt AN Pr w K mg base ["tree"] "parts_with_names" (Ah By) f Be A outer s H E).nox (BJ (valueOf (inDef By 0))) [("tree",s.heap.objs.size+1)] ["place","names"] ["tree"] [0] :=
   ⟨rfl,by decide +kernel,rfl,by decide +kernel,rfl,rfl,rfl,rfl⟩
  have KO:(["place","names","tree"]:List Str).Nodup:=by decide +kernel
  refine ⟨_,(Ak (AH (Dx (g:=RG K 2 (GA (Cn 0) (GA (Cn 1) RE))) (te:=Q8 (Br (G7 (GQ K) (AS 2) (AS 0)) (Br (FF (Pk K) [] E0 (Br (AS 2) (Br (AS 1) Di))) Di))) S rfl (Jl (aH kd rfl vL (eI 0) D0)) (λC s0 H0 ex=>Jq rfl (Co (B2 (i:=0) KO rfl (.inl rfl)) (Co (B2 (i:=1) KO rfl (.inl rfl)) Gi))) (λ_ _ _ _=>Eh) (λC s0 H0 ex=>Az (Aa (BN Et (Ag 2) (Ag 0) D0) (Aa (Bd cN hr rfl (Aa (Ag 2) (Aa (Ag 1) Ae))) Ae)))))),?_⟩;obtain ⟨p,us,rfl,hp,bX,_⟩:=he.look;obtain ⟨a,rs,aJ,rq,hkr⟩:=kp e;obtain ⟨Fw,YH⟩:=QU e;have lr:=Paired.len hkr;have lp:=Paired.len bX;apply An hp (v:=.str e.wd) (Ao (j:=0) rfl) ?_;refine ⟨e.wd,.ref a,.ref a,rfl,aJ,rfl,a,rfl,⟨_,rq.sq H⟩,?_⟩;refine T7 (K:=K) (n:=rs.length) (λi ys H'=>Ai H H'/\Paired (NV H') ys (e.prt.take i)) ⟨Ai.refl _,.nil⟩ (by exact Ei ()) (λi ys H' z=>?_) rfl rfl (λi ys H' hi z=>⟨rs,rs[i],rq.sq H',by simp [hi]⟩) (λys H' z=>⟨rs,rq.sq H',am _⟩) (λi ys H1 x H1' hi z hy=>?_) (λys H1 z=>?_)
  ·rw [Paired.len z.2,pc];omega
  ·obtain ⟨rfl,hy⟩:=hy;obtain ⟨s1,z⟩:=z;have rm:=hy rs (rq.sq _);have hil:i < e.plc.length:=(by omega);have YN:e.plc[i]?=some e.plc[i]:=(by simp [hil]);obtain ⟨x',IU,b,c,rfl,kb,kc⟩:=Paired.at1 hkr YN;rw [IU] at rm;cases rm;obtain ⟨pt,hpi,⟨re',hre,ae⟩,UU⟩:=Paired.at1 bX YN;refine ⟨b,_,_,rfl,kb.sq _,?_⟩;apply CQ ?_;apply An (s1 _ _ hp) (Ao hre) ?_;apply ⟨p,c,_,_,pt.2,rfl,s1 _ _ hp,kc,UU,ce (YH _ (List.getElem_mem hil)) ⟨⟩,λq' H2 s2 e2=>?_⟩;left;intros t H3 s3 e3;refine Nx.mk hi ⟨s1.trans (s2.trans s3),?_⟩;rw [List.take_succ,hpi];refine Paired.app (Paired.aar z λ_ _ y=>NV.mono (TSub.of_same (s2.trans s3)) y) (.cons ⟨t,q',re',rfl,e3,BD.mono (TSub.of_same (s1.trans (s2.trans s3))) ae,s3 _ _ e2⟩ .nil)
  ·obtain ⟨s1,z⟩:=z;refine DV (mi _) λl H2 hl s2 e2=>?_;rw [show rs.length=e.prt.length by omega,sK] at z;exact q l _ H2 (s1.trans s2) (s1.free hl) e2 (Paired.aar z λ_ _ y=>NV.mono (TSub.of_same s2) y)
end
end K
namespace L2
open PySem PySem.Spec PyProof.Rows KS KX
section
variable {σ:St}{H:Hp}{D:Ends}
theorem cq (q:wi σ H λJ H1=>jU J g tb D σ H1):Vi wi g tb D σ H:=q
theorem WV (q:tv σ H λv H1=>td σ H1 λx H2=>ty σ H2 λy H3=>∃ a H4,x=.ref a/\IK H3 a y v H4/\D.nx σ H4):S6 td ty tv D σ H:=q
theorem QV (q:ty σ H λy H1=>td σ H1 λx H2=>∃ a o,x=.ref a/\Cr H2 a y o/\Q (.bl (!o.isSome)) H2):He ty td σ H Q:=q
end
noncomputable def NL (H H':Hp):Prop:=∀ b o,H b=some o->(∀ xs,o≠.lst xs)->H' b=some o
theorem NL.of_same (s:Ai H H'):NL H H':=λb o e _=>s b o e
theorem NL.trans (a:NL H1 H2)(b:NL H2 H3):NL H1 H3:=λc o e n=>b c o (a c o e n) n
theorem NL.put (h:H a=some (.lst xs)):NL H (upd H a (.lst ys)):=λb o e n=>by
 rw [Ac]
 ·exact e
 ·intro z;subst z;rw [h] at e;exact n xs (ss e).symm
theorem NL.aby (s:NL H H'):_root_.KS.TSub H H':=λb xs e=>s b _ e (by intro _ z;cases z)
noncomputable def QW (H:Hp)(d:Addr)(xs:List Str):Prop:=∃ kvs:List (Key × V),H d=some (.dK kvs)/\kvs.length<=xs.length/\∀ y,(Bw kvs (.inr y:Key)).isSome=true↔y∈xs
end L2
namespace KX
open PySem Ex
theorem cu {e:Ex}{xs:List Str}(h:e.cl xs):∀ p∈e.prt,p.1.cl (p.2.reverse++xs):=by
 cases e <;> simp_all [prt,cl]
noncomputable def Pl (L:List (Ex × List Str)):Nat:=(L.map λp=>p.1.sz).sum
theorem Im (p:Ex × List Str)(L:List (Ex × List Str)):Pl (p::L)=p.1.sz+Pl L:=by simp [Pl]
theorem Pn (L M:List (Ex × List Str)):Pl (L++M)=Pl L+Pl M:=by simp [Pl]
theorem U8 (e:Ex):(e.prt.map λp=>p.1.sz).sum+1=e.sz:=by cases e <;> simp [prt,sz] <;> omega
theorem cv (e:Ex):∀ p∈e.prt,p.1.sz+1<=e.sz/\p.2.length<=2:=by cases e <;> simp [prt,sz] <;> omega
theorem WW (e:Ex):e.prt.length<=3:=by cases e <;> simp [prt]
end KX
namespace K
open PySem L2 KM KS KX
section
variable {Pr:Program}{w:World}{K:W.Frag}{mg:Str->Option Value}{base:Heap}
noncomputable def cw:Sp:=λvs H Q _=>∃ (d q:Addr) (xs ns:List Str),vs=[.ref d,.ref q]/\QW H d xs/\H q=some (.tup (ns.map V.str))/\ns.length<=2/\xs.length<=900000/\∀ d' H',Ai H H'->QW H' d' (ns.reverse++xs)->Q (.ref d') H'
theorem cx:Am ["given","names","wider","name"] ["given","names"] (Ah E5):=nofun
theorem ma (F:C7 K "with_names" "with_names" E5 f fd)(NQ:mg "dict"=none):Au Pr w K mg base AN 1 f fd ["given","names"] cw:=by
 refine F.okS cx (λBe A outer s H vs Q E hr h=>?_)
 ·obtain ⟨d,q,xs,ns,rfl,⟨kvs,hd,hl,hk⟩,hq,hn,hx,k⟩:=h;have hu:=DE hr;refine ⟨_,(Af (Aq (i:=2) cx.nd rfl (.inl rfl) (CD FO (by rfl) NQ PyProof.Rows.boot_dict (Aa (Ag 0) Ae)))
   (Af (FN v0 rfl (Jl (Ag 1)) (B2 (i:=3) cx.nd rfl (.inl rfl)) (Ak (DJ hu (Ag 2) (Ag 3) IL rfl)))
   (Ak (AH (Ag 2))))),?_⟩
  apply ⟨d,_,rfl,.inl hd,λp1 LS=>?_⟩;have s1:Ai H (upd H p1 (.dK kvs)):=Ai.new LS;have e1:(upd H p1 (.dK kvs)) p1=some (.dK kvs):=Ad;generalize upd H p1 (.dK kvs)=H1 at s1 e1 ⊢;apply ⟨q,rfl,⟨_,BL.of (s1 _ _ hq)⟩,?_⟩;refine JK (K:=K) (a:=q) (xs:=ns.map V.str) (λi σ H'=>∃ nm,σ=[some (.ref d),some (.ref q),some (.ref p1),nm]/\Ai H H'/\QW H' p1 ((ns.take i).reverse++xs)) ⟨none,rfl,s1,kvs,e1,hl,hk⟩ (λi σ H' _ z=>?_) (λi x σ H' IU z=>?_) fun σ H' z=>?_
  ·obtain ⟨nm,_,s,_⟩:=z;exact BL.of (s _ _ hq)
  ·obtain ⟨nm,rfl,s,kv,g1,g2,g3⟩:=z;rw [jp] at IU;obtain ⟨y,hy,rfl⟩:=Option.map_eq_some_iff.mp IU;have hi:=(cr.mp hy).1;rw [ca,Op,pc] at g2;refine Tc ?_;refine WV ?_;apply ⟨p1,_,rfl,.inl ⟨kv,.inr y,g1,rfl,Ei (),rfl⟩,?_⟩;refine ⟨some (.str y),rfl,Ai.put s LS,_,Ad,?_,λz=>?_⟩
   ·have:=EG kv (.inr y) (.bl true);rw [ca,Op,pc];omega
   ·rw [Ey,List.take_succ,hy];simp only [bn,List.mem_reverse,Option.toList_some,al,Sum.inr.injEq];by_cases e:z=y
    ·simp [e]
    ·rw [if_neg e,g3 z];simp [e]
  ·obtain ⟨nm,rfl,s,g⟩:=z;rw [ba,sK] at g;left;exact k p1 H' s g
noncomputable def WX (H:Hp)(t:Ex × List Str)(r:V):Prop:=∃ p re d,r=.ref p/\H p=some (.tup [re,.ref d])/\BD H t.1 re/\QW H d t.2/\t.2.length+2 * t.1.sz<=900000
theorem WX.mono (s:NL H H')(h:WX H t r):WX H' t r:=by
 obtain ⟨p,re,d,h1,h2,h3,⟨kv,h4,h5⟩,h6⟩:=h;exact ⟨p,re,d,h1,s _ _ h2 (by intro _ z;cases z),BD.mono s.aby h3,⟨kv,s _ _ h4 (by intro _ z;cases z),h5⟩,h6⟩
inductive MI (e:Ex)(rt:V)(lm lw:Addr)(H:Hp)(m:Nat)(σ:St)(H':Hp):Prop
 | mk (ws:List V) (en pa gi NU M0:Option V) (L:List (Ex × List Str)):σ=[some rt,some (.ref lm),some (.ref lw),en,pa,gi,NU,M0]->m=Pl L->m<=e.sz->Ai H H'->H' lm=some (.lst [])->H' lw=some (.lst ws)->Paired (WX H') L ws.reverse->(∀ t∈L,t.1.cl t.2)->MI e rt lm lw H m σ H'
noncomputable def cy:Sp:=λvs H Q _=>∃ (e:Ex) (rt:V),vs=[rt]/\BD H e rt/\e.cl []/\e.sz<=400000/\∀ l H',Ai H H'->H' l=some (.lst [])->Q (.ref l) H'
theorem M6:Am ["tree","missing","waiting","entry","part","given","inner","names"] ["tree"] (Ah Dd):=nofun
theorem mh (F:C7 K "missing_names" "missing_names" Dd f fd)(Ed:mg "reversed"=none)(cW:Cl Pr w K mg base 1 "with_names" ["given","names"] cw)(cP:Cl Pr w K mg base 2 "parts_with_names" ["tree"] U6):Au Pr w K mg base AN 3 f fd ["tree"] cy:=by
 refine F.okS M6 (λBe A outer s H vs Q E hr h=>?_)
 ·obtain ⟨e,rt,rfl,he,hcl,hsz,k⟩:=h;have hu:=DE hr;have BZ:Ax 1 _:=hr.mono ⟨⟩;have DW:Ax 2 _:=hr;refine ⟨_,(Af (Aq (i:=1) M6.nd rfl (.inl rfl) (B0 Ae))
   (Af (Aq (i:=2) M6.nd rfl (.inl rfl) (B0 (Aa (Az (Aa (Ag 0) (Aa E3 Ae))) Ae)))
   (Af (Dl v0 (Cf (Ag 2)) (Af (Aq (i:=3) M6.nd rfl (.inl rfl) (EC im EQ Fa Ew (Ag 2)))
   (Af (Aq (i:=4) M6.nd rfl (.inl rfl) (eI 3))
   (Af (Aq (i:=5) M6.nd rfl (.inl rfl) (eI 3))
   (Af (BE (Nh (w_and (AE Bb (eI 4) Ap (Aw _)) (DI (EF hu (eI 4) (Ag 5))))) (Ak (As (F4 im v6 wf B' (Ag 1) (Aa (eI 4) Ae)))) Bf)
   (Ak (FN v0 rfl (jC rfl Ed (Aa (Bd cP DW rfl (Aa (Ag 4) Ae)) Ae)) (Jq rfl (Co (B2 (i:=6) M6.nd rfl (.inl rfl)) (Co (B2 (i:=7) M6.nd rfl (.inl rfl)) Gi))) (Ak (As (F4 im v6 wf B' (Ag 2) (Aa (Az (Aa (Ag 6) (Aa (Qj (Cf (Ag 7)) (Bd cW BZ rfl (Aa (Ag 5) (Aa (Ag 7) Ae))) (Ag 5)) Ae))) Ae)))))))))))
   (Ak (AH (Ag 1)))))),?_⟩
  apply DV (DU ⟨⟩) λlm H1 vB s1 e1=>?_;left;intro d hd;have s2:Ai H1 (upd H1 d (.dK [])):=Ai.new hd;have e2:(upd H1 d (.dK [])) d=some (.dK []):=Ad;generalize upd H1 d (.dK [])=H2 at s2 e2 ⊢;left;intros p3 H3 s3 e3;apply DV (DU (no rfl)) λlw H4 CO s4 e4=>?_;left;have Kp:=s2.trans (s3.trans s4);have iK:=s1.trans Kp;have BV:H lw=none:=by
   cases z:H lw with
   | none=>rfl
   | some o=>rw [((s1.trans s2).trans s3) _ _ z] at CO;cases CO
  have nmw:lm≠lw:=λz=>by rw [<- z,(s2.trans s3) _ _ e1] at CO;cases CO
  refine ⟨MI e rt lm lw H,
   ⟨e.sz,[.ref p3],none,none,none,none,none,[(e,[])],rfl,by simp [Pl],am _,iK,Kp _ _ e1,e4,.cons ⟨p3,rt,d,rfl,s4 _ _ e3,BD.mono (TSub.of_same iK) he,⟨[],(s3.trans s4) _ _ e2,am _,λy=>by simp [Bw]⟩,by simp only [List.length_nil];omega⟩ .nil,λt ht=>by rw [al.mp ht];exact hcl⟩,?_⟩
  rintro m σ' H' ⟨ws,en,pa,gi,NU,M0,L,rfl,rfl,hm,sm,mj,WY,kw,vM⟩;apply ⟨!ws.isEmpty,.inl ⟨ws,AI.of WY,rfl⟩,?_⟩;cases L with
  | nil =>
   have TQ:ws=[]:=by
    have:=AC kw;simpa using this.symm
   subst TQ;refine Bx ?_;left;exact k lm H' sm mj
  | cons t L =>
   obtain ⟨x,xs,hx,kx,kxs⟩:∃ x xs,ws.reverse=x::xs/\WX H' t x/\Paired (WX H') L xs:=by
    generalize ws.reverse=rs at kw;cases kw with
    | cons k1 k2=>exact ⟨_,_,rfl,k1,k2⟩
   have TQ:ws=xs.reverse++[x]:=by
    have:=congrArg List.reverse hx;simpa using this
   have ne:(!ws.isEmpty)=true:=(by rw [TQ];simp);rw [ne];rw [Im] at hm;have szl:L.length<=Pl L:=by
    have:∀ L:List (Ex × List Str),L.length<=Pl L:=λL=>by
     induction L with
     | nil=>exact am _
     | cons a r ih=>rw [Im,sB];have:=U8 a.1;omega
    exact this L
   have lxs:=Paired.len kxs;refine CQ ⟨fun σ' H'=>∃ m',m' < Pl (t::L)/\MI e rt lm lw H m' σ' H',fun σ' H' q=>q,?_⟩;apply ⟨.inl ⟨rfl,_,AI.of WY⟩,lw,ws,x,rfl,rfl,WY,by rw [TQ];simp,?_⟩;have dl:ws.dropLast=xs.reverse:=(by rw [TQ];simp);rw [dl];have vN:NL H' (upd H' lw (.lst xs.reverse)):=NL.put WY;have NR:Ai H (upd H' lw (.lst xs.reverse)):=Ai.put sm BV;have vO:(upd H' lw (.lst xs.reverse)) lm=some (.lst []):=(by rw [Ac nmw];exact mj);have vP:(upd H' lw (.lst xs.reverse)) lw=some (.lst xs.reverse):=Ad;generalize upd H' lw (.lst xs.reverse)=H5 at vN NR vO vP ⊢;obtain ⟨p,re,d',rfl,hp,het,hgv,hbd⟩:=kx.mono vN;have vQ:=Paired.aar kxs λ_ _ z=>z.mono vN;apply An hp (v:=re) rfl ?_;apply An hp (v:=.ref d') rfl ?_;refine OY (fun σ6 H6=>σ6=[some rt,some (.ref lm),some (.ref lw),some (.ref p),some re,some (.ref d'),NU,M0]/\Ai H H6/\NL H5 H6/\H6 lm=some (.lst [])/\H6 lw=some (.lst xs.reverse)) (fun σ6 H6 hj=>?_) λNn hN=>?_
   ·obtain ⟨rfl,sm6,vR,lm6,lw6⟩:=hj;refine cq ?_;apply ⟨t.1,re,rfl,BD.mono vR.aby het,λl rs H7 s7 iw e7 hpr=>?_⟩;have lpr:=Paired.len hpr;have lp3:=WW t.1;refine ⟨l,rs,rfl,AI.of e7,?_⟩;have nlw:l≠lw:=λz=>(by rw [z,lw6] at iw;cases iw);have nlm:l≠lm:=λz=>(by rw [z,lm6] at iw;cases iw);refine VN (K:=K) (a:=l) (xs:=rs) (λi σ' H'=>∃ NU M0 CT,σ'=[some rt,some (.ref lm),some (.ref lw),some (.ref p),some re,some (.ref d'),NU,M0]/\Ai H H'/\NL H7 H'/\H' l=some (.lst rs)/\H' lm=some (.lst [])/\H' lw=some (.lst CT)/\Paired (WX H') (((t.1.prt.drop (rs.length - i)).map λp=>(p.1,p.2.reverse++t.2))++L) CT.reverse)
     ⟨NU,M0,xs.reverse,rfl,sm6.trans s7,NL.of_same (Ai.refl _),e7,s7 _ _ lm6,s7 _ _ lw6,?_⟩ (λi σ' H' _ z=>?_) (λi x σ' H' IU z=>?_) fun σ' H' z=>?_
    ·rw [Nat.sub_zero,List.drop_eq_nil_of_le (),List.reverse_reverse];exact Paired.aar vQ λ_ _ z=>z.mono (vR.trans (NL.of_same s7))
    ·obtain ⟨NU,M0,CT,_,_,_,h,_⟩:=z;exact AI.of h
    ·obtain ⟨NU,M0,CT,rfl,YF,iM,FC,vS,rB,ml⟩:=z;have hi:i < rs.length:=by
      have:=(cr.mp IU).1;simpa using this
     rw [List.getElem?_reverse hi] at IU;obtain ⟨pt,bX,pa,qa,ra,rfl,a1,a2,a3⟩:=Paired.at1 hpr IU;have hdr:t.1.prt.drop (rs.length - (i+1))=pt::t.1.prt.drop (rs.length - i):=by
      rw [show rs.length - i=rs.length - (i+1)+1 by omega];exact List.drop_eq_getElem?_toList_append .. |>.trans (by rw [show rs.length - (i+1)=rs.length - 1 - i by omega,bX];rfl)
     obtain ⟨p1,p2⟩:=cv t.1 pt (ci bX);have vT:NL H5 H':=(vR.trans (NL.of_same s7)).trans iM;have hgi:QW H' d' t.2:=by
      obtain ⟨kv,h4,h5⟩:=hgv;exact ⟨kv,vT _ _ h4 (by intro _ z;cases z),h5⟩
     have lwl:=Paired.len ml;rw [ca,ba,List.length_drop,Op] at lwl;refine ⟨pa,_,rfl,BL.of (iM _ _ a1 (by intro _ z;cases z)),rfl,_,_,rfl,_,_,rfl,rfl,?_⟩;apply ⟨.inl ⟨rfl,_,AI.of rB⟩,?_⟩;left;have a3':=iM _ _ a3 (by intro _ z;cases z);refine ⟨!(pt.2.map V.str).isEmpty,.inr (.inl ⟨_,BL.of a3',rfl⟩),?_⟩;have fin:∀ d2 H8,Ai H' H8->QW H8 d2 (pt.2.reverse++t.2)->LF 2 (.tup [ra,.ref d2]) H8 λv H2=>OJ (.ref lw) [v] H2 λ_ H3=>∃ NU M0 CT,([some rt,some (.ref lm),some (.ref lw),some (.ref p),some re,some (.ref d'),some ra,some (.ref qa)]:St)=[some rt,some (.ref lm),some (.ref lw),some (.ref p),some re,some (.ref d'),NU,M0]/\Ai H H3/\NL H7 H3/\H3 l=some (.lst rs)/\H3 lm=some (.lst [])/\H3 lw=some (.lst CT)/\Paired (WX H3) (((t.1.prt.drop (rs.length - (i+1))).map λp=>(p.1,p.2.reverse++t.2))++L) CT.reverse:=by
      intro d2 H8 s8 g8;intros p9 H9 s9 e9;have iN:=s8.trans s9;have lw9:=iN _ _ rB;refine ⟨lw,CT,.ref p9,rfl,rfl,lw9,Ei (),?_⟩;have nla:NL H9 (upd H9 lw (.lst (CT++[.ref p9]))):=NL.put lw9;have mn:NL H' (upd H9 lw (.lst (CT++[.ref p9]))):=(NL.of_same iN).trans nla;refine ⟨_,_,CT++[.ref p9],rfl,Ai.put (YF.trans iN) BV,iM.trans mn,?_,?_,Ad,?_⟩
      ·rw [Ac nlw];exact iN _ _ FC
      ·rw [Ac nmw];exact iN _ _ vS
      ·rw [hdr,xz,List.cons_append,List.reverse_append];refine .cons (WX.mono nla ⟨p9,ra,d2,rfl,e9,BD.mono (iM.trans (NL.of_same iN)).aby a2,?_,?_⟩) (Paired.aar ml λ_ _ z=>z.mono mn)
       ·obtain ⟨kv,h4,h5⟩:=g8;exact ⟨kv,s9 _ _ h4,h5⟩
       ·simp only [ca,Op];omega
     rcases iO:pt.2 with _ | ⟨n0,nr⟩
     ·refine BY (by simp) ?_;left;exact fin d' H' (Ai.refl _) (by rw [iO];exact hgi)
     ·refine Cm (by simp) ?_;apply ⟨d',qa,t.2,pt.2,rfl,hgi,a3',p2,(),λd2 H8 s8 g8=>?_⟩;left;exact fin d2 H8 s8 g8
    ·obtain ⟨NU,M0,CT,rfl,YF,iM,FC,vS,rB,ml⟩:=z;rw [Nat.sub_self,List.drop_zero] at ml;have Ajn:Pl (t.1.prt.map λp=>(p.1,p.2.reverse++t.2))+1=t.1.sz:=by
      unfold Pl;rw [List.map_map];exact U8 t.1
     refine ⟨_,?_,CT,_,_,_,_,_,_,rfl,rfl,?_,YF,vS,rB,ml,λq hq=>?_⟩
     ·rw [Pn,Im];omega
     ·rw [Pn];omega
     ·rcases bn.mp hq with z | z
      ·obtain ⟨p,hp,rfl⟩:=ln.mp z;exact cu (vM t (.head _)) p hp
      ·exact vM q (.tail _ z)
   ·left;obtain ⟨pt,ut,rfl,ht,hi⟩:=het.its;refine An ht (v:=.str t.1.wd) (Ao (j:=0) rfl) ?_;left;by_cases c1:t.1.wd="name"
    ·obtain ⟨y,hy⟩:∃ y,t.1=.nm y:=by
      cases ht1:t.1 <;> rw [ht1] at c1 <;> first | exact ⟨_,rfl⟩ | exact absurd c1 (by simp only [Ex.wd];decide)
     rw [hy] at het;obtain ⟨pt',h1,ht'⟩:=het;cases h1;refine Cm (by simp [c1]) ?_;apply QV ?_;apply An ht' (v:=.str y) rfl ?_;obtain ⟨kv,h4,h5,h6⟩:=hgv;apply ⟨d',_,rfl,Cr.k (k:=.inr y) h4,?_⟩;left;have WZ:y∈t.2:=(by have:=vM t (.head _);rw [hy] at this;exact this);rw [(h6 y).mpr WZ];refine Bx ?_;exact hN _ _ ⟨rfl,NR,NL.of_same (Ai.refl _),vO,vP⟩
    ·refine BY (by simpa using c1) (Bx ?_);exact hN _ _ ⟨rfl,NR,NL.of_same (Ai.refl _),vO,vP⟩
end
end K
namespace L2
open PySem PySem.Spec PyProof.Rows KS KX
section
variable {X:Cx}{e:Expr}{t:TE}{b₀:Stmt}{OS:List Stmt}{vU IP pos:Pos}{hx:Option Expr}{n:Option Str}
theorem Ua (he:SE X e t)(uL:X.xe=λ_ _=>False:=by rfl):SS X (.Try [.Return (some e) vU] [.ExceptHandler hx n (b₀::OS) IP] [] [] pos) (RC t):=⟨by
 intro pins s σ H D I h;refine wpAny_Try_except ?_;refine wpAny_execs_cons ?_;refine wpAny_Return_some (OH (he.out pins s σ H _ I h) (λv s1 q1=>?_) λex s1 q1=>?_)
 ·obtain ⟨v',H1,I1,r1,q⟩:=q1;exact ⟨v',σ,H1,I1,r1,q⟩
 ·rw [uL] at q1;exact q1.elim⟩
theorem mq {st:Stmt}:SS X st tNo:=⟨λ_ _ _ _ _ _ h=>h.elim⟩
theorem Ub:Ds X (.builtin "isinstance") (λxs H Q=>∃ x t C b,xs=[x,.ref C]/\DY X.K H x t/\W.kitOne X.K t (.ref C)=some b/\Q (.bl b) H):=by
 intro pins s σ H xs us Q I r h;obtain ⟨x,t,C,b,rfl,ty,e,q⟩:=h;obtain ⟨u,u',rfl,ru,jv⟩:=vals2 r;obtain rfl:u'=Value.ref C:=jv;exact J3 I ru ty e λtk=>⟨.bl b,H,I.tok tk,rfl,q⟩
end
end L2
namespace K
open PySem L2 KM KS KN KX
section
variable {Pr:Program}{w:World}{K:W.Frag}{mg:Str->Option Value}{base:Heap}
noncomputable def cz:Sp:=λvs H Q _=>∃ (e:Ex) (rt:V),vs=[rt]/\BD H e rt/\e.cl []/\e.sz<=400000/\∀ H',Ai H H'->Q .non H'
theorem mr:Am ["tree","missing"] ["tree"] (Ah C9):=nofun
theorem mv (F:C7 K "first_missing_name" "first_missing_name" C9 f fd)(vV:Cl Pr w K mg base 3 "missing_names" ["tree"] cy):Au Pr w K mg base AN 4 f fd ["tree"] cz:=by
 refine F.okS mr (λBe A0 outer s0 H vs Q E hr h=>?_)
 ·obtain ⟨e,rt,rfl,he,cl,hz,q⟩:=h;have bz:Ax 3 _:=hr;refine ⟨_,(Af (Aq (i:=1) mr.nd rfl (.inl rfl) (Bd vV bz rfl (Aa (Ag 0) Ae)))
   (Ak (AH (Qj (Cf (Ag 1)) (BN (r:=Du K) AA (Ag 1) Aj D0) EB)))),?_⟩
  apply ⟨e,rt,rfl,he,cl,hz,λl H1 s1 hl=>?_⟩;apply ⟨_,.inl ⟨_,AI.of hl,rfl⟩,?_⟩;refine Bx ?_;exact q H1 s1
noncomputable def QX:Sp:=λvs H Q _=>∃ (e:Ex) (rt:V) (G:Kd),vs=[rt]/\BD H e rt/\e.cl []/\e.sz<=3000/\HK g0 e G/\∀ v t H',TSub H H'->B3 H' t v->CK t=t->ok t=true->(∃ m,fill m t=G)->Q v H'
theorem mw:Am ["tree","missing"] ["tree"] (Ah Gn):=nofun
theorem mx (F:C7 K "kind_of" "kind_of" Gn f fd)(vW:Cl Pr w K mg base 4 "first_missing_name" ["tree"] cz)(vX:Cl Pr w K mg base 8 "widest" ["tree"] cj):Au Pr w K mg base AN 9 f fd ["tree"] QX:=by
 refine F.okS mw (λBe A0 outer s0 H vs Q E hr h=>?_)
 ·obtain ⟨e,rt,G,rfl,he,cl,hz,hk,q⟩:=h;have QP:Ax 4 _:=hr.mono ⟨⟩;have hr8:Ax 8 _:=hr;refine ⟨_,(Af (Aq (i:=1) mw.nd rfl (.inl rfl) (Bd vW QP rfl (Aa (Ag 0) Ae)))
   (Af (BE (AE Om (Ag 1) EB (Aw _)) (Ak Ig) Bf)
   (Ak (Ua (Bd vX hr8 rfl (Aa (Ag 0) Ae)))))),?_⟩
  apply ⟨e,rt,rfl,he,cl,(),λH1 s1=>?_⟩;apply ⟨rfl,_,rfl,?_⟩;refine Bx ?_;exact ⟨_,rfl,e,rt,G,rfl,BD.mono (TSub.of_same s1) he,cl,hz,hk,λv t H' t' kv a b c=>q v t H' ((TSub.of_same s1).trans t') kv a b c⟩
theorem X1:Am ["_law_tree","_law_kept","_law_found","e"] ["_law_tree"] (Ah CY):=nofun
theorem my (F:C7 K "_law_kind_told" "_law_kind_told" CY f fd)(mI:mg "isinstance"=none)(mM:mg "NoName"=some (.ref CM))(i0M:W.kitOne K (.type "NoneType") (.ref CM)=some false)(cK:Cl Pr w K mg base 9 "kind_of" ["tree"] QX):Au Pr w K mg base AN 10 f fd ["_law_tree"] QX:=by
 refine F.okS X1 (λBe A0 outer s0 H vs Q E hr h=>?_)
 ·obtain ⟨e,rt,G,rfl,he,cl,hz,hk,q⟩:=h;refine ⟨_,(Af (Aq (i:=1) X1.nd rfl (.inl rfl) EB)
   (Af (Aq (i:=2) X1.nd rfl (.inl rfl) EB)
   (Af (aW (i:=2) X1.nd rfl (.inl rfl) (Bd cK hr rfl (Aa (Ag 0) Ae)))
   (Af (BE (Jk (BO Ub rfl mI IN (Aa (Ag 1) (Aa (ZW (v:=.ref CM) rfl mM rfl) Ae)))) (Ak mq) Bf)
   (Af (BE (AE Om (Ag 1) EB rfl) (Ak mq) Bf)
   (Ak (AH (Ag 2)))))))),?_⟩
  refine ⟨_,rfl,e,rt,G,rfl,he,cl,hz,hk,λv t H' t' kv a b c=>?_⟩;refine ⟨_,rfl,_,_,_,false,rfl,DY.non,i0M,_,rfl,Bx ?_⟩;refine ⟨_,rfl,rfl,_,rfl,Bx ?_⟩;exact ⟨_,rfl,q v t H' t' kv a b c⟩
end
end K
namespace K
open PySem L2 KM KS
section
variable {Pr:Program}{w:World}{K:W.Frag}{mg:Str->Option Value}{base:Heap}
noncomputable def Kq:Sp:=λvs H Q _=>∃ n:Int,vs=[.int n]/\Q (.bl true) H
theorem X2:Am ["_law_found"] ["_law_found"] (Ah Ny):=nofun
theorem Kr:W.kitOne K (.type "int") (.type "bool")=some false:=by rfl
theorem Uc (F:C7 K "_law_whole" "_law_whole" Ny f fd)(mI:mg "isinstance"=none)(vY:mg "int"=none)(mB:mg "bool"=none):Au Pr w K mg base AN 1 f fd ["_law_found"] Kq:=by
 refine F.okS X2 (λBe A outer s H vs Q E hr h=>?_)
 ·obtain ⟨n,rfl,q⟩:=h;refine ⟨_,Ak (AH (Ln (BO FI rfl mI IN (Aa (Ag 0) (Aa (JW (v:=.ty "int") rfl vY PyProof.Rows.boot_int rfl) Ae)))
   (OQ (jB (BO FI rfl mI IN (Aa (Ag 0) (Aa (JW (v:=.ty "bool") rfl mB PyProof.Rows.boot_bool rfl) Ae))))))),?_⟩
  refine ⟨_,rfl,_,_,_,true,rfl,DY.int n,rfl,_,rfl,CQ ?_⟩;exact ⟨_,rfl,_,_,_,false,rfl,DY.int n,Kr,_,rfl,q⟩
noncomputable def EO (n:Nat):Sp:=λvs H Q _=>∃ (t:Kd) (v:V),vs=[v]/\B3 H t v/\dp t<=n/\ok t=true/\∀ H',Ai H H'->Q (.bl true) H'
noncomputable def JB:Nat->Sp
 | 0=>Ni
 | n+1=>EO n
theorem M7:Am ["_law_found","_law_size"] ["_law_found"] (Ah EX):=nofun
noncomputable def Po:List (Key × V):=[(Sum.inr "number",.int 1),(Sum.inr "truth",.int 1),(Sum.inr "fun",.int 3),(Sum.inr "pair",.int 3),(Sum.inr "list",.int 2)]
theorem X3 (h:BM t=false):Bw (CC [] Po) (Sum.inr (word t):Key)=some (.int (1+(parts t).length:Nat)):=by
 cases t <;> first | rfl | (simp [BM] at h)
theorem Io (F:C7 K "_law_is_kind" "_law_is_kind" EX f fd)(b:Binds K fd ["_law_found"] [])(mf:mg "_law_is_kind"=some (.ref f))(mI:mg "isinstance"=none)(mT:mg "tuple"=none)(mS:mg "str"=none)(F7:mg "len"=none)(Ud:mg "all"=none)(GW:Au Pr w K mg base AN 1 fW mG ["_law_found"] Kq)(kW:W.keepIn K (.ref fW)=true)(bW:Binds K mG ["_law_found"] [])(mW:mg "_law_whole"=some (.ref fW))(G:Au Pr w K mg base AN (n+1) f fd ["_law_found"] (JB n)):Au Pr w K mg base AN (n+2) f fd ["_law_found"] (EO n):=by
 refine F.okS M7 (λBe A outer s H vs Q E hr h=>?_)
 ·obtain ⟨t,v,rfl,kv,YO,hok,q⟩:=h;have hb:=B8;have hu:=DE hr;have BZ:Ax 1 _:=hr.mono ();obtain ⟨a,us,ea,ha,hp,hg,vZ⟩:=kv.look;subst ea;have S:B7 (Dt AN Pr w K mg base ["_law_found","_law_size"] "_law_is_kind" (Ah EX) f Be A outer s H E).nox (BJ (match valueOf (inDef EX 3) with | .BoolOp _ [_,.Call _ [e] _ _] _=>e | _=>.Constant .none 0 ⟨0,0,0,0⟩)) [] ["_law_part"] [] [] :=
   ⟨rfl,by decide +kernel,rfl,by decide +kernel,rfl,rfl,rfl,rfl⟩
  refine ⟨_,Af (BE (Nh (w_or (Ll (Jk (BO FI rfl mI IN (Aa (Ag 0) (Aa (JW (v:=.ty "tuple") rfl mT Q4 rfl) Ae)))))
    (w_or (Ll (Cf (Ag 0))) (Lm (Ll (Jk (BO FI rfl mI IN (Aa (eI 0) (Aa (JW (v:=.ty "str") rfl mS PyProof.Rows.boot_str rfl) Ae))))))))) (Ak (AH IL)) Bf)
   (Af (BE (AE Bb (eI 0) Ap (Aw _))
    (Ak (AH (Ln (HM Bb (BO BX rfl F7 PP (Aa (Ag 0) Ae)) Aj (Aw _)) (Ln (Fo GW BZ rfl mW kW bW (Aa (eI 0) Ae)) (OQ (HM j9 (eI 0) Aj (Aw _))))))) Bf)
   (Af (Aq (i:=1) M7.nd rfl (.inl rfl) (EV hu (ED (Ck Ap Aj (Ck Ap Aj (Ck Ap Aj (Ck Ap Aj (Ck Ap Aj GH))))) rfl rfl (by simp) ⟨⟩) (eI 0) Aj ⟨rfl,rfl,rfl,rfl⟩))
   (Ak (AH (Ln (HM Bb (BO BX rfl F7 PP (Aa (Ag 0) Ae)) (Ag 1) (Aw _))
    (OQ (BO (Jj rfl) rfl Ud PyProof.Rows.boot_all (Aa (Dx (te:=FF (JB n) [] E0 (Br (AS 0) Di)) S rfl (Jl (FK JN (Ag 0) (HL Aj) HJ)) (λC s0 H0 ex=>B2 (i:=0) (show (["_law_part"]:List Str).Nodup by decide +kernel) rfl (.inl rfl)) (λ_ _ _ _=>Eh)
     (λC s0 H0 ex=>Fo G hr rfl mf F.kp b (Aa (Ag 0) Ae))) Ae)))))))),?_⟩
  refine ⟨_,rfl,_,_,_,true,rfl,DY.tup ha,rfl,_,rfl,Bx ?_⟩;refine ⟨_,rfl,true,.inr (.inl ⟨_,BL.of ha,rfl⟩),Bx ?_⟩;refine ⟨_,rfl,a,_,_,_,rfl,rfl,BL.of ha,Ao (j:=0) rfl,_,_,_,true,rfl,DY.str _,rfl,_,rfl,Bx ?_⟩;refine ⟨_,rfl,a,_,_,_,rfl,rfl,BL.of ha,Ao (j:=0) rfl,rfl,_,rfl,?_⟩;rw [Hh];cases e:BM t with
  | true =>
   obtain ⟨k,rfl⟩:∃ k,t=.gap k:=(by cases t <;> simp [BM] at e;exact ⟨_,rfl⟩);obtain rfl:=hg k rfl;refine CQ ⟨_,rfl,a,_,rfl,.inr (BL.of ha),rfl,_,rfl,Cm (by simp) ?_⟩;refine ⟨_,rfl,a,_,_,_,rfl,rfl,BL.of ha,Ao (j:=1) rfl,k,rfl,_,rfl,CQ ?_⟩;refine ⟨_,rfl,a,_,_,_,rfl,rfl,BL.of ha,Ao (j:=1) rfl,_,_,rfl,rfl,?_⟩;have hk:decide (0<=k)=true:=hok;show Q (.bl (decide (0<=k))) H;rw [hk];exact q H (Ai.refl H)
  | false =>
   have pk:=hp e;have hlen:us.length=(parts t).length:=(AC pk).symm;refine Bx ?_;intro p JA;have nap:a≠p:=Ab ha JA;have Rr:(upd (upd H p (.dK [])) p (.dK (CC [] Po))) a=some (.tup (.str (word t)::us)):=(by rw [Ac nap,Ac nap];exact ha);refine ⟨Ad,Po,rfl,⟨⟩,p,rfl,.inl ⟨_,.inl Ad⟩,_,rfl,a,_,_,_,rfl,rfl,BL.of Rr,Ao (j:=0) rfl,_,Cr.k (k:=Sum.inr (word t)) Ad,?_⟩;rw [X3 e];generalize hH1:upd (upd H p (.dK [])) p (.dK (CC [] Po))=H1 at Rr ⊢;have s1:Ai H H1:=(by rw [<- hH1];exact Ai.put (Ai.new JA) JA);refine ⟨_,rfl,a,_,rfl,.inr (BL.of Rr),_,rfl,rfl,_,rfl,Cm ?_ ?_⟩
   ·rw [decide_eq_true_iff];show V.int ((us.length+1:Nat):Int)=V.int (1+(parts t).length:Nat);rw [hlen,Nat.add_comm]
   refine ⟨_,rfl,_,rfl,a,_,rfl,BL.of Rr,(by intro z;have:=z.1;simp [HT.sIx] at this),λp2 sM=>⟨p2,rfl,⟨_,BL.of Ad⟩,?_⟩⟩;rw [ZX];have s2:Ai H (upd H1 p2 (.tup us)):=Ai.put s1 (s1.free sM);refine Si (K:=K) (a:=p2) (xs:=us) (λi ys H3=>ys=(List.replicate i true).map V.bl/\Ai H H3/\H3 p2=some (.tup us)) ⟨rfl,s2,Ad⟩ (λi ys H3 z=>BL.of z.2.2) () (λi ys H3 z=>?_) (λi x ys H3 hx z=>?_)
    (λx σ H Q Q' h z=>h _ _ z) (fun σ H Q Q' h z=>h _ _ z) (fun σ H Q Q' h z=>?_) (λys H3 z=>?_)
   ·rw [z.1];simp
   ·obtain ⟨e1,sm,h3⟩:=z;obtain ⟨s',Qo,kx⟩:=Paired.at pk hx;have F5:=ci Qo;have CV:=Hi F5;refine ⟨Ext.set rfl,Dy ?_⟩;refine ⟨_,rfl,?_⟩;cases n with
    | zero=>omega
    | succ n =>
     refine ⟨s',x,rfl,B3.mono (TSub.of_same sm) kx,(),VW hok F5,λH4 YK=>⟨?_,Ai.trans sm YK,YK _ _ h3⟩⟩;rw [e1,List.replicate_succ',wT];rfl
   ·cases n with
    | zero=>obtain ⟨v',e1,z⟩:=z;exact z.elim
    | succ n =>
     obtain ⟨v',e1,t',v2,e2,k2,d2,o2,z⟩:=z;exact ⟨v',e1,t',v2,e2,k2,d2,o2,λH' sm=>h _ _ (z H' sm)⟩
   ·obtain ⟨e1,sm,h3⟩:=z;intro D hD;refine ⟨D,List.replicate us.length true,rfl,by rw [e1];exact Ad,?_⟩;have ea:(List.replicate us.length true).all id=true:=(by simp);rw [ea];exact q _ (Ai.put sm (sm.free hD))
theorem JC {f fW:Addr}{fd mG:FuncData}(F:C7 K "_law_is_kind" "_law_is_kind" EX f fd)(b:Binds K fd ["_law_found"] [])(mf:mg "_law_is_kind"=some (.ref f))
  (mI:mg "isinstance"=none) (mT:mg "tuple"=none) (mS:mg "str"=none) (F7:mg "len"=none) (Ud:mg "all"=none)
  (GW:Au Pr w K mg base AN 1 fW mG ["_law_found"] Kq) (kW:W.keepIn K (.ref fW)=true) (bW:Binds K mG ["_law_found"] []) (mW:mg "_law_whole"=some (.ref fW)):∀ n,Au Pr w K mg base AN (n+2) f fd ["_law_found"] (EO n)
 | 0=>Io F b mf mI mT mS F7 Ud GW kW bW mW Jm
 | n+1=>Io F b mf mI mT mS F7 Ud GW kW bW mW (JC F b mf mI mT mS F7 Ud GW kW bW mW n)
noncomputable def Ip (n:Nat):Sp:=λvs H Q _=>∃ (t:Kd) (v:V),vs=[v]/\B3 H t v/\dp t<=n/\sz t<=1000/\∀ l H',Ai H H'->H l=none->H' l=some (.lst ((gp t).map V.int))->Q (.ref l) H'
noncomputable def X4:Nat->Sp
 | 0=>Ni
 | n+1=>Ip n
theorem Ks:Am ["_law_kind","_law_found","_law_part"] ["_law_kind"] (Ah Js):=nofun
noncomputable def V8 (ts:List Kd):List Int:=ts.foldl (λacc s=>app acc (gp s)) []
theorem Ue (ts:List Kd)(s:Kd):V8 (ts++[s])=app (V8 ts) (gp s):=by
 unfold V8;rw [List.foldl_append];rfl
theorem Ug (h:BM t=false):gp t=V8 (parts t):=by
 cases t <;> first | rfl | (simp [BM] at h)
theorem Uh (n:Int)(acc:List Int):OI (.int n) (acc.map V.int)=decide (n∈acc):=by
 unfold OI;rw [Do,List.any_map];simp [Vu,Function.comp]
theorem QY (acc:List Int):(acc.map V.int).all Eg=true:=by
 rw [List.all_map];simp [Function.comp,Eg]
theorem X5 (ts:List Kd):(V8 ts).length<=IE ts:=by
 have:∀ (ts:List Kd) (acc:List Int),(ts.foldl (λacc s=>app acc (gp s)) acc).length<=acc.length+IE ts:=by
  intro ts
  induction ts with
  | nil=>intro acc;simp [IE]
  | cons t ts ih =>
   intro acc;have h1:=ih (app acc (gp t));have h2:=JZ acc (gp t);have h3:=EE t;simp only [List.foldl_cons,IE];omega
 simpa [V8] using this ts []
theorem Ui (ts:List Kd)(i:Nat):IE (ts.take i)<=IE ts:=by
 conv=>rhs;rw [<- List.take_append_drop i ts]
 rw [HH];omega
theorem X6 (h:s∈parts t):sz s < sz t:=by
 cases t <;> simp [parts] at h
 ·rcases h with rfl | rfl <;> simp only [sz] <;> omega
 ·rcases h with rfl | rfl <;> simp only [sz] <;> omega
 ·subst h;simp only [sz];omega
theorem M8 (F:C7 K "_law_gaps" "_law_gaps" Js f fd)(b:Binds K fd ["_law_kind"] [])(mf:mg "_law_gaps"=some (.ref f))(G:Au Pr w K mg base AN (n+1) f fd ["_law_kind"] (X4 n)):Au Pr w K mg base AN (n+2) f fd ["_law_kind"] (Ip n):=by
 refine F.okS Ks (λBe A outer s H vs Q E hr h=>?_)
 ·obtain ⟨t,v,rfl,kv,YO,hsz,q⟩:=h;have hb:=B8;obtain ⟨a,us,ea,ha,hp,hg,vZ⟩:=kv.look;subst ea;have S:B7 (Dt AN Pr w K mg base ["_law_kind","_law_found","_law_part"] "_law_gaps" (Ah Js) f Be A outer s H E).nox (BJ (match valueOf (Yn (inDef Js 2) 0) with | .BinOp _ _ e _=>e | _=>.Constant .none 0 ⟨0,0,0,0⟩)) [("_law_found",s.heap.objs.size+1)] ["_law_number"] ["_law_found"] [1] :=
   ⟨rfl,by decide +kernel,rfl,by decide +kernel,rfl,rfl,rfl,rfl⟩
  refine ⟨_,Af (BE (AE Bb (eI 0) Ap (Aw _)) (Ak (AH (B0 (Aa (eI 0) Ae)))) Bf)
   (Af (Aq (i:=1) Ks.nd rfl (.inr rfl) (B0 Ae))
   (Af (FN v0 rfl (Jl (FK JN (Ag 0) (HL Aj) HJ)) (B2 (i:=2) Ks.nd rfl (.inl rfl))
    (Ak (Aq (i:=1) Ks.nd rfl (.inr rfl) (Ay JR (Ag 1) (Dx (tt:=L7 (G7 (ZH K true) (AS 0) (AS 1))) (te:=AS 0) S rfl (CW (Fo G hr rfl mf F.kp b (Aa (Ag 2) Ae))) (λC s0 H0 ex=>B2 (i:=0) (show (["_law_number","_law_found"]:List Str).Nodup by decide +kernel) rfl (.inl rfl))
     (λC s0 H0 ex=>OR (AE FG (Ag 0) (Ag 1) rfl)) (λC s0 H0 ex=>Ag 0))))))
   (Ak (AH (Ag 1))))),?_⟩
  refine ⟨_,rfl,a,_,_,_,rfl,rfl,BL.of ha,Ao (j:=0) rfl,rfl,_,rfl,?_⟩;rw [Hh];cases e:BM t with
  | true =>
   obtain ⟨k,rfl⟩:∃ k,t=.gap k:=(by cases t <;> simp [BM] at e;exact ⟨_,rfl⟩);obtain rfl:=hg k rfl;refine CQ ⟨_,rfl,a,_,_,_,rfl,rfl,BL.of ha,Ao (j:=1) rfl,by show 1<=sizeLine;omega,λl hl=>?_⟩;exact q l _ (Ai.new hl) hl Ad
  | false =>
   have pk:=hp e;have hlen:us.length=(parts t).length:=(AC pk).symm;refine Bx ⟨by simp,λlf Uj=>?_⟩;have Rr:(upd H lf (.lst [])) a=some (.tup (.str (word t)::us)):=(by rw [Ac (Ab ha Uj)];exact ha);refine ⟨_,rfl,_,rfl,a,_,rfl,BL.of Rr,(by intro z;have:=z.1;simp [HT.sIx] at this),λp JA=>⟨p,rfl,⟨_,BL.of Ad⟩,?_⟩⟩;have iP:lf≠p:=λz=>(by rw [<- z,Ad] at JA;cases JA);have w9:H p=none:=(by rw [Ac (be iP)] at JA;exact JA);rw [ZX];have s1:Ai H (upd (upd H lf (.lst [])) p (.tup us)):=Ai.put (Ai.new Uj) w9;refine JK (K:=K) (a:=p) (xs:=us) (λi σ H2=>∃ lg pt,σ=[some (.ref a),some (.ref lg),pt]/\Ai H H2/\H2 p=some (.tup us)/\H lg=none/\H2 lg=some (.lst ((V8 ((parts t).take i)).map V.int)))
    ⟨lf,none,rfl,s1,Ad,Uj,by rw [Ac iP,Ad];rfl⟩ (λi σ H2 _ z=>?_) (λi x σ H2 hx z=>?_) (fun σ H2 z=>?_)
   ·obtain ⟨lg,pt,rfl,_,h1,_⟩:=z;exact BL.of h1
   ·obtain ⟨lg,pt,rfl,sm,h1,Uk,h2⟩:=z;obtain ⟨s',Qo,kx⟩:=Paired.at pk hx;have F5:=ci Qo;have CV:=Hi F5;have wa:=X6 F5;have Gb:(V8 ((parts t).take i)).length<=1000:=by
     have h3:=X5 ((parts t).take i);have h4:=Ui (parts t) i;have h5:=Gd t;omega
    have hgl:(gp s').length<=1000:=(by have:=EE s';omega);refine ⟨_,rfl,_,rfl,?_⟩;cases n with
    | zero=>omega
    | succ n =>
     refine ⟨s',x,rfl,B3.mono (TSub.of_same sm) kx,(),(),λl3 H3 MC cA MB=>⟨l3,rfl,⟨_,AI.of MB⟩,?_⟩⟩;have rC:=MC lg _ h2;have n3g:lg≠l3:=λz=>(by rw [<- z,h2] at cA;cases cA);generalize hA:V8 ((parts t).take i)=acc at h2 rC Gb;refine Cw (K:=K) (a:=l3) (xs:=(gp s').map V.int) (λj ys H4=>H4=H3/\ys=(((gp s').take j).filter λn=>decide (n∉acc)).map V.int) ⟨rfl,rfl⟩ (λj ys H4 z=>?_) (by rw [ba];omega) (λj ys H4 z=>?_) (λj x ys H4 hx z=>?_)
      (λx σ H Q Q' h z=>h _ _ z) (fun σ H Q Q' h z=>?_) (fun σ H Q Q' h z=>?_) (λys H4 z=>?_)
     ·rw [z.1];exact AI.of MB
     ·rw [z.2,ba];have h6:=AM (λn=>decide (n∉acc)) ((gp s').take j);rw [pc] at h6;omega
     ·obtain ⟨rfl,rfl⟩:=z;rw [jp] at hx;cases ej:(gp s')[j]? with
      | none=>rw [ej] at hx;cases hx
      | some m =>
       rw [ej] at hx;cases hx;refine ⟨Ext.set rfl,_,rfl,_,rfl,lg,_,rfl,.inl (AI.of rC),rfl,QY acc,_,rfl,?_⟩;rw [Uh];have et:(gp s').take (j+1)=(gp s').take j++[m]:=(by rw [wP,ej];rfl);by_cases WZ:m∈acc
       ·have e1:(!decide (m∈acc))=false:=(by simp [WZ]);show if (!decide (m∈acc))=true then _ else _
        rw [e1];refine Bx ⟨rfl,?_⟩;rw [et,OT];simp [WZ]
       ·have e1:(!decide (m∈acc))=true:=(by simp [WZ]);show if (!decide (m∈acc))=true then _ else _
        rw [e1];refine CQ ⟨_,rfl,rfl,?_⟩;rw [et,OT];simp [WZ]
     ·obtain ⟨v1,z1,v2,z2,p1,x1,z3,z4,z5,z6,k1,z7,z8⟩:=z;exact ⟨v1,z1,v2,z2,p1,x1,z3,z4,z5,z6,k1,z7,h _ _ z8⟩
     ·obtain ⟨v1,z1,z2⟩:=z;exact ⟨v1,z1,h _ _ z2⟩
     ·obtain ⟨rfl,rfl⟩:=z;intro D hD;rw [ba,sK];have ngD:lg≠D:=Ab rC hD;refine ⟨lg,D,_,_,rfl,rfl,by rw [Ac ngD];exact rC,Ad,?_,λr QF=>?_⟩
      ·rw [ba,ba];have h6:=AM (λn=>decide (n∉acc)) (gp s');omega
      ·have rj:=Ai.trans sm MC;have hD0:H D=none:=rj.free hD;have smU:Ai H (upd H4 D (.lst (((gp s').filter λn=>decide (n∉acc)).map V.int))):=Ai.put rj hD0;have Ul:H r=none:=smU.free QF;refine ⟨r,_,rfl,Ai.put smU Ul,?_,Ul,?_⟩
       ·have npD:p≠D:=Ab (MC p _ h1) hD;have npr:p≠r:=Ab (o:=.tup us) (by rw [Ac npD];exact MC p _ h1) QF;rw [Ac npr,Ac npD];exact MC p _ h1
       ·rw [Ad,<- wT,wP,Qo];show some (HO.lst ((acc++_).map V.int))=some (HO.lst ((V8 ((parts t).take i++[s'])).map V.int));rw [Ue,hA];rfl
   ·obtain ⟨lg,pt,rfl,sm,h1,Uk,h2⟩:=z;refine ⟨_,rfl,?_⟩;rw [hlen,sK,<- Ug e] at h2;exact q lg H2 sm Uk h2
theorem Pp {f:Addr}{fd:FuncData}(F:C7 K "_law_gaps" "_law_gaps" Js f fd)(b:Binds K fd ["_law_kind"] [])(mf:mg "_law_gaps"=some (.ref f)):∀ n,Au Pr w K mg base AN (n+2) f fd ["_law_kind"] (Ip n)
 | 0=>M8 F b mf Jm
 | n+1=>M8 F b mf (Pp F b mf n)
noncomputable def FW (n:Nat):Sp:=λvs H Q _=>∃ (t:Kd) (v:V) (d:Addr) (kvs:List (Key × V)) (m:Int->Option Kd),vs=[v,.ref d]/\B3 H t v/\dp t<=n/\H d=some (.dK kvs)/\CG H kvs m/\∀ r H',Ai H H'->B3 H' (fill m t) r->Q r H'
noncomputable def X7:Nat->Sp
 | 0=>Ni
 | n+1=>FW n
theorem Kt:Am ["_law_kind","_law_told","_law_found","_law_part"] ["_law_kind","_law_told"] (Ah K4):=nofun
theorem JD (F:C7 K "_law_filled" "_law_filled" K4 f fd)(b:Binds K fd ["_law_kind","_law_told"] [])(mf:mg "_law_filled"=some (.ref f))(mT:mg "tuple"=none)(G:Au Pr w K mg base AN (n+1) f fd ["_law_kind","_law_told"] (X7 n)):Au Pr w K mg base AN (n+2) f fd ["_law_kind","_law_told"] (FW n):=by
 refine F.okS Kt (λBe A outer s H vs Q E hr h=>?_)
 ·obtain ⟨t,v,d,kvs,m,rfl,kv,YO,hd,hm,q⟩:=h;have hb:=B8;have hu:=DE hr;obtain ⟨a,us,ea,ha,hp,hg,vZ⟩:=kv.look;subst ea;refine ⟨_,Af (BE (AE Bb (eI 0) Ap (Aw _)) (Ak (AH (EV hu (Ag 1) (eI 0) (Ag 0) ⟨rfl,rfl,rfl,rfl⟩))) Bf)
   (Af (Aq (i:=2) Kt.nd rfl (.inl rfl) (B0 (Aa (eI 0) Ae)))
   (Af (FN v0 rfl (Jl (FK JN (Ag 0) (HL Aj) HJ)) (B2 (i:=3) Kt.nd rfl (.inl rfl))
    (Ak (As (F4 im v6 wf B' (Ag 2) (Aa (Fo G hr rfl mf F.kp b (Aa (Ag 3) (Aa (Ag 1) Ae))) Ae)))))
   (Ak (AH (CD D1 rfl mT Q4 (Aa (Ag 2) Ae)))))),?_⟩
  refine ⟨_,rfl,a,_,_,_,rfl,rfl,BL.of ha,Ao (j:=0) rfl,rfl,_,rfl,?_⟩;rw [Hh];cases e:BM t with
  | true =>
   obtain ⟨k,rfl⟩:∃ k,t=.gap k:=(by cases t <;> simp [BM] at e;exact ⟨_,rfl⟩);obtain rfl:=hg k rfl;refine CQ ⟨_,rfl,d,rfl,.inl ⟨kvs,.inl hd⟩,_,rfl,a,_,_,_,rfl,rfl,BL.of ha,Ao (j:=1) rfl,_,rfl,_,Cr.k (k:=Sum.inl k) hd,?_⟩;refine q _ H (Ai.refl H) ?_;show B3 H ((m k).getD (.gap k)) _;rcases hm k with ⟨z1,z2⟩ | ⟨v',t',z1,z2,z3⟩
   ·rw [z1,z2];exact kv
   ·rw [z1,z2];exact z3
  | false =>
   have pk:=hp e;have hlen:us.length=(parts t).length:=(AC pk).symm;refine Bx ⟨_,rfl,a,_,_,_,rfl,rfl,BL.of ha,Ao (j:=0) rfl,by show 1<=sizeLine;omega,λlf Uj=>?_⟩;have Rr:(upd H lf (.lst [.str (word t)])) a=some (.tup (.str (word t)::us)):=(by rw [Ac (Ab ha Uj)];exact ha);refine ⟨_,rfl,_,rfl,a,_,rfl,BL.of Rr,(by intro z;have:=z.1;simp [HT.sIx] at this),λp JA=>⟨p,rfl,⟨_,BL.of Ad⟩,?_⟩⟩;have iP:lf≠p:=λz=>(by rw [<- z,Ad] at JA;cases JA);have w9:H p=none:=(by rw [Ac (be iP)] at JA;exact JA);rw [ZX];have s1:Ai H (upd (upd H lf (.lst [.str (word t)])) p (.tup us)):=Ai.put (Ai.new Uj) w9;refine JK (K:=K) (a:=p) (xs:=us) (λi σ H2=>∃ fs pt,σ=[some (.ref a),some (.ref d),some (.ref lf),pt]/\Ai H H2/\H2 p=some (.tup us)/\H2 lf=some (.lst (.str (word t)::fs))/\Paired (λs r=>B3 H2 (fill m s) r) ((parts t).take i) fs)
    ⟨[],none,rfl,s1,Ad,by rw [Ac iP,Ad],.nil⟩ (λi σ H2 _ z=>?_) (λi x σ H2 hx z=>?_) (fun σ H2 z=>?_)
   ·obtain ⟨fs,pt,rfl,_,h1,_⟩:=z;exact BL.of h1
   ·obtain ⟨fs,pt,rfl,sm,h1,h2,pf⟩:=z;obtain ⟨s',Qo,kx⟩:=Paired.at pk hx;have F5:=ci Qo;have CV:=Hi F5;have hfl:fs.length<=2:=by
     have:=AC pf;have h3:=Jh t;rw [pc] at this;omega
    refine ⟨_,rfl,.inl ⟨rfl,_,AI.of h2⟩,_,rfl,_,rfl,?_⟩;cases n with
    | zero=>omega
    | succ n =>
     refine ⟨s',x,d,kvs,m,rfl,B3.mono (TSub.of_same sm) kx,(),sm d _ hd,CG.mono (TSub.of_same sm) hm,λr H3 MC kr=>?_⟩;have h3:=MC lf _ h2;refine ⟨lf,_,r,rfl,rfl,h3,by simp;omega,?_⟩;have sub:TSub H3 (upd H3 lf (.lst (.str (word t)::fs++[r]))):=TSub.put λxs z=>(by rw [h3] at z;cases z);refine ⟨fs++[r],_,rfl,Ai.put (Ai.trans sm MC) Uj,?_,Ad,?_⟩
     ·rw [Ac (be iP)];exact MC p _ h1
     ·rw [wP,Qo];exact Paired.app (Paired.aar pf λ_ _ z=>B3.mono (TSub.trans (TSub.of_same MC) sub) z) (.cons (B3.mono sub kr) .nil)
   ·obtain ⟨fs,pt,rfl,sm,h1,h2,pf⟩:=z;refine ⟨_,rfl,lf,_,rfl,.inl ⟨AI.of h2,λr QF=>?_⟩⟩;rw [hlen,sK] at pf;obtain ⟨e1,e2⟩:=Ng (m:=m) e;refine q _ _ (Ai.put sm (sm.free QF)) (B3.mk e2 (by rw [Qk e];exact Ad) ?_);rw [e1];exact Paired.ab4 (Paired.aar pf λ_ _ z=>B3.mono (TSub.new QF) z)
theorem M9 {f:Addr}{fd:FuncData}(F:C7 K "_law_filled" "_law_filled" K4 f fd)(b:Binds K fd ["_law_kind","_law_told"] [])(mf:mg "_law_filled"=some (.ref f))(mT:mg "tuple"=none):∀ n,Au Pr w K mg base AN (n+2) f fd ["_law_kind","_law_told"] (FW n)
 | 0=>JD F b mf mT Jm
 | n+1=>JD F b mf mT (M9 F b mf mT n)
end
theorem Um (h:k∉ks):(λj=>if j=k then some (Kd.gap (ks.length:Int)) else UX ks j)=UX (ks++[k]):=by
 funext j
 unfold UX;by_cases e:j=k
 ·subst e;rw [if_pos rfl,if_pos (ir _ (al.mpr rfl)),List.idxOf_append,if_neg h];simp
 ·rw [if_neg e];by_cases m:j∈ks
  ·rw [if_pos m,if_pos (ee _ m),List.idxOf_append,if_pos m]
  ·rw [if_neg m,if_neg];intro z;rcases bn.mp z with z | z
   ·exact m z
   ·exact e (al.mp z)
section
variable {Pr:Program}{w:World}{K:W.Frag}{mg:Str->Option Value}{base:Heap}
noncomputable def Uo (n:Nat):Sp:=λvs H Q _=>∃ (t:Kd) (v:V),vs=[v]/\B3 H t v/\dp t<=n/\sz t<=1000/\∀ r H',Ai H H'->B3 H' (CK t) r->Q r H'
theorem Up:Am ["_law_kind","_law_told","_law_number"] ["_law_kind"] (Ah E9):=nofun
theorem cC (F:C7 K "_law_plain" "_law_plain" E9 f fd)(F7:mg "len"=none)(cG:Cl Pr w K mg base (n+2) "_law_gaps" ["_law_kind"] (Ip n))(cF:Cl Pr w K mg base (n+2) "_law_filled" ["_law_kind","_law_told"] (FW n)):Au Pr w K mg base AN (n+3) f fd ["_law_kind"] (Uo n):=by
 refine F.okS Up (λBe A outer s H vs Q E hr h=>?_)
 ·obtain ⟨t,v,rfl,kv,YO,hsz,q⟩:=h;have hb:=B8;have hu:=DE hr;refine ⟨_,Af (Aq (i:=1) Up.nd rfl (.inl rfl) E3)
   (Af (FN v0 rfl (CW (Bd cG hr rfl (Aa (Ag 0) Ae))) (B2 (i:=2) Up.nd rfl (.inl rfl))
    (Ak (DJ hu (Ag 1) (Ag 2) (Az (Aa Ap (Aa (BO Je rfl F7 PP (Aa (Ag 1) Ae)) Ae))) rfl)))
   (Ak (AH (Bd cF hr rfl (Aa (Ag 0) (Aa (Ag 1) Ae)))))),?_⟩
  intro p hp;refine ⟨_,rfl,t,v,rfl,B3.mono (TSub.new hp) kv,YO,hsz,λl H1 Fw _ CB=>⟨l,rfl,⟨_,AI.of CB⟩,?_⟩⟩;have LS:H1 p=some (.dK []):=Fw p _ Ad;have wb:Ai H H1:=λb o e=>Fw b o (by rw [Ac (Ab e hp)];exact e);have rD:p≠l:=AW LS CB (by intro z;cases z);have gl:=EE t;have nd:=CH t;refine RK (K:=K) (a:=l) (xs:=(gp t).map V.int) (λi σ H2=>∃ kvs x,σ=[some v,some (.ref p),x]/\Ai H H2/\H2 l=some (.lst ((gp t).map V.int))/\H2 p=some (.dK kvs)/\CG H2 kvs (UX ((gp t).take i))/\kvs.length=((gp t).take i).length)
   ⟨[],none,rfl,wb,CB,LS,(λk=>.inl ⟨rfl,rfl⟩),rfl⟩ (λi σ H2 _ z=>?_) (λi x σ H2 hx z=>?_) (fun σ H2 z=>?_)
  ·obtain ⟨kvs,x,rfl,_,h1,_⟩:=z;exact AI.of h1
  ·obtain ⟨kvs,x0,rfl,sm,h1,h2,dk,hl⟩:=z;rw [jp] at hx;obtain ⟨k,hk,rfl⟩:∃ k,(gp t)[i]?=some k/\x=V.int k:=by
    cases e:(gp t)[i]? with
    | none=>rw [e] at hx;cases hx
    | some k=>rw [e] at hx;cases hx;exact ⟨k,rfl,rfl⟩
   obtain ⟨hi,ek⟩:=cr.mp hk;have et:(gp t).take (i+1)=(gp t).take i++[k]:=(by rw [wP,hk];rfl);have WZ:k∉(gp t).take i:=λz=>by
    have:((gp t).take (i+1)).Nodup:=nd.sublist (List.take_sublist _ _);rw [et] at this;exact (List.nodup_append.mp this).2.2 k z k (.head _) rfl
   have hn:Bw kvs (Sum.inl k:Key)=none:=by
    rcases dk k with ⟨z1,_⟩ | ⟨v',t',z1,z2,_⟩
    ·exact z1
    ·unfold UX at z2;rw [if_neg WZ] at z2;cases z2
   have hle:((gp t).take i).length<=1000:=(by rw [pc];omega);refine ⟨_,rfl,p,kvs,rfl,h2,by show 2<=sizeLine;omega,λpn iO=>?_⟩;have h2n:(upd H2 pn (.tup [.str "any",.int kvs.length])) p=some (.dK kvs):=(by rw [Ac (Ab h2 iO)];exact h2);refine ⟨_,rfl,_,rfl,p,_,rfl,IK.k (k:=Sum.inl k) h2n (),?_⟩;have sub:TSub (upd H2 pn (.tup [.str "any",.int kvs.length])) (upd (upd H2 pn (.tup [.str "any",.int kvs.length])) p (.dK (putK kvs (Sum.inl k:Key) (.ref pn)))):=TSub.put λxs z=>(by rw [h2n] at z;cases z);have VU:=TSub.trans (TSub.new iO) sub;have nlp:l≠pn:=Ab h1 iO;refine ⟨_,_,rfl,Ai.put (Ai.put sm (sm.free iO)) hp,by rw [Ac (be rD),Ac nlp];exact h1,Ad,?_,?_⟩
   ·rw [et,<- Um WZ,<- hl];exact CG.put (CG.mono VU dk) (B3.mono sub ⟨pn,rfl,Ad⟩)
   ·rw [et,DO _ hn,ca,hl,ca];rfl
  ·obtain ⟨kvs,x,rfl,sm,h1,h2,dk,hl⟩:=z;rw [ba,sK] at dk;exact ⟨_,rfl,_,rfl,t,v,p,kvs,_,rfl,B3.mono (TSub.of_same sm) kv,YO,h2,dk,λr H3 sx kr=>q r H3 (sm.trans sx) kr⟩
end
end K
namespace L2
open PySem
section
variable {σ:St}{H:Hp}{D:Ends}
theorem QZ (Jn:St->Hp->Prop)(fin:∀ σ' H',Jn σ' H'->u D σ' H')(q:∀ N:St->Hp->Prop,(∀ σ' H',Jn σ' H'->N σ' H')->C8 t0 (C8 t1 (C8 t2 (C8 t3 (C8 t4 (C8 t5 (C8 t6 (C8 t7 (C8 t8 t9)))))))) { D with nx:=N } σ H):C8 t0 (C8 t1 (C8 t2 (C8 t3 (C8 t4 (C8 t5 (C8 t6 (C8 t7 (C8 t8 (C8 t9 u))))))))) D σ H:=q (u D) fin
theorem Uq (Jn:St->Hp->Prop)(fin:∀ σ' H',Jn σ' H'->u D σ' H')(q:∀ N:St->Hp->Prop,(∀ σ' H',Jn σ' H'->N σ' H')->C8 t0 (C8 t1 t2) { D with nx:=N } σ H):C8 t0 (C8 t1 (C8 t2 u)) D σ H:=q (u D) fin
end
end L2
namespace K
open PySem L2 KM KS
section
variable {Pr:Program}{w:World}{K:W.Frag}{mg:Str->Option Value}{base:Heap}
noncomputable def Ur (K:W.Frag):Sp:=λvs H Q _=>∃ (a:Addr) (ns:List Int) (k:Int),vs=[.ref a,.int k]/\AI K H a (ns.map V.int)/\∀ n,Q (.int n) H
theorem cE:Am KL KL (Ah T4):=nofun
theorem X8 (F:C7 K "_law_cell" "_law_cell" T4 f fd)(F7:mg "len"=none):Au Pr w K mg base AN 1 f fd KL (Ur K):=by
 refine F.ok cE (λvs H Q E h=>?_) (λBe A outer s H vs Q E hr h=>?_)
 ·obtain ⟨a,ns,k,rfl,_⟩:=h;rfl
 ·obtain ⟨a,ns,k,rfl,hs,q⟩:=h;refine ⟨_,FE (Y4 (L9 (pv 0) (λ_=>rfl)) (GZ (JI (Yg AA (pv 0) (Ee AU (pv 1) (Lg BX (by rfl) F7 PP (Hc (pv 0) MS))) D0))) Ob) (GZ (JI Dc)),?_⟩;refine ⟨_,rfl,!(ns.map V.int).isEmpty,.inl ⟨_,hs,rfl⟩,?_⟩;cases ns with
  | nil=>exact Bx (q _)
  | cons n ns =>
   refine CQ ?_;have IP:(0:Int) < (((n::ns).map V.int).length:Nat):=(by simp);refine ⟨_,rfl,_,rfl,_,rfl,a,_,rfl,.inl hs,_,_,rfl,rfl,IP,?_⟩;obtain ⟨v,hv,hm⟩:=Sv (xs:=(n::ns).map V.int) (i:=k % (((n::ns).map V.int).length:Int)) (BC _ ()) (xL _ IP);obtain ⟨z,_,rfl⟩:=ln.mp hm;exact ⟨a,_,_,_,rfl,rfl,hs,hv,q z⟩
noncomputable def Ff (K:W.Frag):Sp:=λvs H Q _=>∃ (a:Addr) (ns:List Int) (k:Int),vs=[.ref a,.int k]/\AI K H a (ns.map V.int)/\∀ n,0<=n->Q (.int n) H
theorem Ut:Am ["_law_script","_law_k","_law_number"] KL (Ah aF):=nofun
theorem cH (F:C7 K "_law_mix" "_law_mix" aF f fd)(G:Au Pr w K mg base AN 1 fC fdC KL (Ur K))(kC:W.keepIn K (.ref fC)=true)(bC:Binds K fdC KL [])(mC:mg "_law_cell"=some (.ref fC)):Au Pr w K mg base AN 2 f fd KL (Ff K):=by
 refine F.ok Ut (λvs H Q E h=>?_) (λBe A outer s H vs Q E hr h=>?_)
 ·obtain ⟨a,ns,k,rfl,_⟩:=h;rfl
 ·obtain ⟨a,ns,k,rfl,hs,q⟩:=h;refine ⟨_,FE (MH (i:=2) Ut.nd rfl (.inl rfl) (Ee AU (Ee B9 (Oq G hr rfl mC kC bC .nil Jd (Hc (pv 0) (Hc (pv 1) MS))) (Ee BK Dc (Ee B9 (pv 1) Dc))) Dc))
   (FE (MH (i:=2) Ut.nd rfl (.inl rfl) (Ee AU (Ee BK (pv 2) Dc) Dc))
   (GZ (JI (Ee AU (Ee B9 (Ee BK (Ee C4 (pv 2) Dc) Dc) (pv 2)) Dc)))),?_⟩
  refine ⟨_,rfl,_,rfl,a,ns,k,rfl,hs,λn=>⟨_,rfl,_,_,rfl,rfl,_,_,rfl,rfl,.inl ⟨⟨⟩,⟨⟩⟩,_,_,rfl,rfl,_,_,rfl,rfl,(by show (0:Int) < 4294967291;decide),?_⟩⟩;refine ⟨_,rfl,_,_,rfl,rfl,.inr ⟨⟨⟩,⟨⟩⟩,_,_,rfl,rfl,(by show (0:Int) < 4294967279;decide),?_⟩;refine ⟨_,rfl,_,_,rfl,rfl,⟨⟨⟩,⟨⟩⟩,_,_,rfl,rfl,.inr ⟨⟨⟩,⟨⟩⟩,_,rfl,_,_,rfl,rfl,_,_,rfl,rfl,(by show (0:Int) < 4294967231;decide),?_⟩;exact q _ (BC _ ⟨⟩)
end
open KX
section
variable {Pr:Program}{w:World}{K:W.Frag}{mg:Str->Option Value}{base:Heap}
noncomputable def Pq:Sp:=λvs H Q _=>∃ m:Int,vs=[.int m]/\∀ i H',Ai H H'->Q (.int i) H'
theorem YQ:Am ["_law_number","_law_some"] ["_law_number"] (Ah Ft):=nofun
theorem cJ (F:C7 K "_law_int" "_law_int" Ft f fd):Au Pr w K mg base AN 1 f fd ["_law_number"] Pq:=by
 refine F.okS YQ (λBe A outer s H vs Q E hr h=>?_)
 ·obtain ⟨m,rfl,q⟩:=h;refine ⟨_,(Af (Aq (i:=1) YQ.nd rfl (.inl rfl) (B0 (Aa Aj (Aa Aj (Aa (uy RN Aj) (Aa Aj (Aa Aj (Aa (Ay Ep (Ay RM Aj Aj) Aj) (Aa (Ay Ep Aj (Ay RM Aj Aj)) (Aa (Ay AU (Ag 0) Aj) Ae))))))))))
   (Ak (AH (BN (r:=Du K) AA (Ag 1) (Ay AU (Ay C4 (Ag 0) Aj) Aj) D0)))),?_⟩
  left;intros l H2 s2 e2;apply DF (AI.of e2) (BC _ ⟨⟩) (xL _ ⟨⟩) λv hv=>?_;simp only [gz,AD,or_false] at hv;rcases hv with rfl | rfl | rfl | rfl | rfl | rfl | rfl | rfl <;> exact q _ _ s2
noncomputable def Iq:Sp:=λvs H Q _=>∃ m:Int,vs=[.int m]/\∀ x H',Ai H H'->Q (.str x) H'
theorem cO:Am ["_law_number"] ["_law_number"] (Ah EN):=nofun
theorem X9 (F:C7 K "_law_name" "_law_name" EN f fd):Au Pr w K mg base AN 1 f fd ["_law_number"] Iq:=by
 refine F.okS cO (λBe A outer s H vs Q E hr h=>?_)
 ·obtain ⟨m,rfl,q⟩:=h;refine ⟨_,(Ak (AH (BN (r:=Du K) AA (B0 (Aa Ap (Aa Ap (Aa Ap (Aa Ap (Aa Ap Ae)))))) (Ay AU (Ag 0) Aj) D0))),?_⟩;left;intros l H2 s2 e2;apply DF (AI.of e2) (BC _ ⟨⟩) (xL _ ⟨⟩) λv hv=>?_;simp only [gz,AD,or_false] at hv;rcases hv with rfl | rfl | rfl | rfl | rfl <;> exact q _ _ s2
noncomputable def KR:Kd->Prop
 | .num | .tru=>True
 | .gap _=>False
 | .ls a=>KR a
 | .fn a b=>KR a/\KR b
 | .pr a b=>KR a/\KR b
noncomputable def D8 (K:W.Frag)(n:Nat):Sp:=λvs H Q _=>∃ (a:Addr) (ns:List Int) (k:Int) (j:Nat),vs=[.ref a,.int k,.int j]/\j<=n/\AI K H a (ns.map V.int)/\∀ t r H',Ai H H'->B3 H' t r->KR t->dp t<=j->Q r H'
noncomputable def R0 (K:W.Frag):Nat->Sp
 | 0=>Ni
 | n+1=>D8 K n
theorem Ir:Am ["_law_script","_law_k","_law_deep","_law_number","_law_word"] ["_law_script","_law_k","_law_deep"] (Ah D2):=nofun
theorem Iu (F:C7 K "_law_ground" "_law_ground" D2 f fd)(cM:Cl Pr w K mg base 2 "_law_mix" KL (Ff K))(cG:Cl Pr w K mg base (n+2) "_law_ground" ["_law_script","_law_k","_law_deep"] (R0 K n)) :
  Au Pr w K mg base AN (n+3) f fd ["_law_script","_law_k","_law_deep"] (D8 K n):=by
 refine F.okS Ir (λBe A outer s H vs Q E hr h=>?_)
 ·obtain ⟨a,ns,k,j,rfl,hj,hs,q⟩:=h;have DW:Ax 2 _:=hr.mono ();refine ⟨_,(Af (Aq (i:=3) Ir.nd rfl (.inl rfl) (Bd cM DW rfl (Aa (Ag 0) (Aa (Ag 1) Ae))))
   (Af (BE (Nh (w_or (AE Bb (Ag 2) Aj (Aw _)) (Lm (AE Oj (Ay AU (Ag 3) Aj) Aj (Aw _))))) (Ak (AH (BN (r:=Du K) AA (B0 (Aa (Az (Aa Ap Ae)) (Aa (Az (Aa Ap Ae)) Ae))) (Ay AU (Ay C4 (Ag 3) Aj) Aj) D0))) Bf)
   (Af (BE (AE Bb (Ay AU (Ag 3) Aj) Aj (Aw _)) (Ak (AH (Az (Aa Ap (Aa (Bd cG hr rfl (Aa (Ag 0) (Aa (Ay B9 (Ay BK Aj (Ag 1)) Aj) (Aa (Ay Ep (Ag 2) Aj) Ae)))) Ae))))) Bf)
   (Af (Aq (i:=4) Ir.nd rfl (.inl rfl) (BN (r:=Du K) AA (B0 (Aa Ap (Aa Ap Ae))) (Ay AU (Ag 3) Aj) D0))
   (Ak (AH (Az (Aa (Ag 4) (Aa (Bd cG hr rfl (Aa (Ag 0) (Aa (Ay B9 (Ay BK Aj (Ag 1)) Aj) (Aa (Ay Ep (Ag 2) Aj) Ae)))) (Aa (Bd cG hr rfl (Aa (Ag 0) (Aa (Ay B9 (Ay BK Aj (Ag 1)) Aj) (Aa (Ay Ep (Ag 2) Aj) Ae)))) Ae)))))))))),?_⟩
  apply ⟨a,ns,k,rfl,hs,λm hm=>?_⟩;apply qj ?_ λh0 leaf=>?_
  ·left;intros p1 H2 s2 e1;left;intros p2 H3 s3 e2;left;intros p3 H4 s4 e3;apply DF (AI.of e3) (BC _ ⟨⟩) (xL _ ⟨⟩) λv hv=>?_;have st:=s2.trans (s3.trans s4);simp only [gz,AD,or_false] at hv;rcases hv with rfl | rfl
   ·exact q .num _ _ st ⟨p1,rfl,s4 _ _ (s3 _ _ e1)⟩ trivial (mi _)
   ·exact q .tru _ _ st ⟨p2,rfl,s4 _ _ e2⟩ trivial (mi _)
  ·apply EA (λ_=>leaf) λ_=>?_;cases j with
   | zero=>exact absurd (decide_eq_true rfl) h0
   | succ j =>
    obtain ⟨n,rfl⟩:∃ m,n=m+1:=⟨n - 1,()⟩;apply EA (λ_=>?_) λ_=>?_
    ·apply ⟨a,ns,_,j,by rw [Nw],(),hs,λt r H1 s1 ha hg hd=>?_⟩;left;intros p H2 s2 e2;exact q (.ls t) _ _ (s1.trans s2) ⟨p,r,rfl,e2,B3.mono (TSub.of_same s2) ha⟩ hg (by simp only [dp];omega)
    ·left;intros l H1 s1 e1;apply DF (AI.of e1) (BC _ ⟨⟩) (xL _ ⟨⟩) λv hv=>?_;apply ⟨a,ns,_,j,by rw [Nw],(),s1.seq hs,λt1 r1 H2 s2 Rr YJ NN=>?_⟩;apply ⟨a,ns,_,j,by rw [Nw],(),(s1.trans s2).seq hs,λt2 r2 H3 s3 ha2 hg2 hd2=>?_⟩;left;intros p H4 s4 e4;have st:=s1.trans (s2.trans (s3.trans s4));have k1:=B3.mono (TSub.of_same (s3.trans s4)) Rr;have k2:=B3.mono (TSub.of_same s4) ha2;simp only [gz,AD,or_false] at hv;rcases hv with rfl | rfl
     ·exact q (.fn t1 t2) _ _ st ⟨p,r1,r2,rfl,e4,k1,k2⟩ ⟨YJ,hg2⟩ (by simp only [dp];omega)
     ·exact q (.pr t1 t2) _ _ st ⟨p,r1,r2,rfl,e4,k1,k2⟩ ⟨YJ,hg2⟩ (by simp only [dp];omega)
theorem Gw {f:Addr}{fd:FuncData}(DG:Df K mg "_law_ground" D2 ["_law_script","_law_k","_law_deep"] f fd)(cM:Cl Pr w K mg base 2 "_law_mix" KL (Ff K)):
  ∀ n,Cl Pr w K mg base (n+3) "_law_ground" ["_law_script","_law_k","_law_deep"] (D8 K n)
 | 0=>DG.cl (Iu (n:=0) DG.F cM (DG.cl Jm))
 | n+1=>DG.cl (Iu (n:=n+1) DG.F cM (Gw DG cM n))
noncomputable def Xa (H:Hp)(r:V)(x:Str × Kd):Prop:=∃ p rk,r=.ref p/\H p=some (.tup [.str x.1,rk])/\B3 H x.2 rk
theorem Xa.mono (s:TSub H H')(h:Xa H r x):Xa H' r x:=by
 obtain ⟨p,rk,h1,h2,h3⟩:=h;exact ⟨p,rk,h1,s _ _ h2,B3.mono s h3⟩
noncomputable def cQ (H:Hp)(rs:List V)(xs:List (Str × Kd)):Prop:=Paired (Xa H) rs xs
theorem cQ.mono (s:TSub H H')(h:cQ H rs xs):cQ H' rs xs:=Paired.aar h λ_ _ z=>Xa.mono s z
noncomputable def Iv (H:Hp)(l:Addr)(xs:List (Str × Kd)):Prop:=∃ rs,H l=some (.lst rs)/\cQ H rs xs
theorem Iv.mono (s:Ai H H')(h:Iv H l xs):Iv H' l xs:=by
 obtain ⟨rs,h1,h2⟩:=h;exact ⟨rs,s _ _ h1,h2.mono (TSub.of_same s)⟩
noncomputable def Fg (more:List (Str × Kd))(x:Str × Kd):Bool:=!OI (.str x.1) (more.map λm=>V.str m.1)
noncomputable def YR (xs more:List (Str × Kd)):List (Str × Kd):=xs.filter (Fg more)++more
theorem F2 (h:z∈YR xs more):z∈more\/z∈xs:=by
 rcases bn.mp h with h | h
 ·exact .inr (AT.mp h).1
 ·exact .inl h
theorem FX (xs more:List (Str × Kd)):(YR xs more).length<=xs.length+more.length:=by
 unfold YR;rw [ca];have:=AM (Fg more) xs;omega
noncomputable def Gx:Sp:=λvs H Q _=>∃ (l m:Addr) (xs more:List (Str × Kd)),vs=[.ref l,.ref m]/\Iv H l xs/\Iv H m more/\xs.length+more.length<=10000/\∀ p H',Ai H H'->Iv H' p (YR xs more)->Q (.ref p) H'
theorem Uu:Am ["_law_names","_law_more","_law_kept"] ["_law_names","_law_more"] (Ah Cy):=nofun
noncomputable def NW:Expr:=valueOf (inDef Cy 0)
noncomputable def cR:Expr:=match NW with
 | .ListComp _ [⟨_,_,[.Compare _ _ [e] _],_⟩] _ _=>e
 | _=>.Constant .none 0 ⟨0,0,0,0⟩
theorem Xb (F:C7 K "_law_with" "_law_with" Cy f fd):Au Pr w K mg base AN 1 f fd ["_law_names","_law_more"] Gx:=by
 refine F.okS Uu (λBe A outer s H vs Q E hr h=>?_)
 ·obtain ⟨l,m,xs,more,rfl,hl,hm,hn,q⟩:=h;have S:B7 (Dt AN Pr w K mg base ["_law_names","_law_more","_law_kept"] "_law_with" (Ah Cy) f Be A outer s H E).nox (BJ NW) [("_law_more",s.heap.objs.size+1)] ["_law_one"] ["_law_more"] [1] :=
   ⟨rfl,by decide +kernel,rfl,by decide +kernel,rfl,rfl,rfl,rfl⟩
  have S2:∀ C s0 H0 ex,B7 ((Dt AN Pr w K mg base ["_law_names","_law_more","_law_kept"] "_law_with" (Ah Cy) f Be A outer s H E).nox.cmp (BJ NW) [("_law_more",s.heap.objs.size+1)] ["_law_one"] ["_law_more"] C s0 H0 ex) (BJ cR) [] ["_law_new"] [] [] :=
   λC s0 H0 ex=>⟨rfl,by decide +kernel,rfl,by decide +kernel,rfl,rfl,rfl,rfl⟩
  have KO:(["_law_one","_law_more"]:List Str).Nodup:=by decide +kernel
  have Ys:(["_law_new"]:List Str).Nodup:=by decide +kernel
  refine ⟨_,Af (HR (i:=2) Uu.nd rfl (.inl rfl) (tt:=L7 (G7 (ZH K true) (G7 (GQ K) (AS 0) (tC (.int 0))) (OM ["_law_new"] [] (Oe K (AS 1)) (Cn 0) HG (G7 (GQ K) (AS 0) (tC (.int 0)))))) (te:=AS 0) S rfl (CW (Ag 0)) (λC s0 H0 ex=>B2 (i:=0) KO rfl (.inl rfl))
    (λC s0 H0 ex=>OR (AE FG (eI 0) (Dx (te:=G7 (GQ K) (AS 0) (tC (.int 0))) (S2 C s0 H0 ex) rfl (CW (Ag 1)) (λC' s0' H0' ex'=>B2 (i:=0) Ys rfl (.inl rfl)) (λ_ _ _ _=>Eh) (λC' s0' H0' ex'=>BN Et (Ag 0) Aj D0)) rfl))
    (λC s0 H0 ex=>Ag 0))
   (Ak (AH (Ay JR (Ag 2) (Ag 1)))),?_⟩
  obtain ⟨rs,CB,D9⟩:=hl;obtain ⟨ms,cS,Tn⟩:=hm;have lr:=Paired.len D9;have lm:=Paired.len Tn;apply ⟨l,rfl,⟨_,AI.of CB⟩,?_⟩;refine K8 (K:=K) (a:=l) (xs:=rs) (λi ys H'=>Ai H H'/\cQ H' ys ((xs.take i).filter (Fg more))) ⟨Ai.refl _,.nil⟩ (λi ys H' z=>AI.of (z.1 _ _ CB)) (by exact Ei ()) (λi ys H' z=>?_) rfl (λi x ys H1 hx z=>?_) (λys H1 z=>?_)
  ·rw [Paired.len z.2];exact ce (AM _ _) (by rw [pc];omega)
  ·obtain ⟨s1,z⟩:=z;obtain ⟨x0,mH,p,rk,rfl,h2,h3⟩:=Paired.at1 D9 hx;apply An (s1 _ _ h2) rfl ?_;apply ⟨m,rfl,⟨_,AI.of (s1 _ _ cS)⟩,?_⟩;refine K8 (K:=K) (a:=m) (xs:=ms) (λj zs H'=>H'=H1/\zs=(more.take j).map λm=>V.str m.1) ⟨rfl,rfl⟩ (λj zs H' z=>AI.of (by rw [z.1];exact s1 _ _ cS)) (by exact Ei ()) (λj zs H' z=>?_) rfl (λj y zs H2 hy z=>?_) (λzs H2 z=>?_)
   ·rw [z.2,ba,pc];omega
   ·obtain ⟨rfl,rfl⟩:=z;obtain ⟨y0,hy0,p',rk',rfl,jH,h3'⟩:=Paired.at1 Tn hy;have hj:=(cr.mp hy0).1;apply CQ ?_;apply An (s1 _ _ jH) rfl ?_;refine Nx.mk () ⟨rfl,?_⟩;rw [List.take_succ,hy0];simp
   ·obtain ⟨rfl,rfl⟩:=z;intros d H3 s3 e3;refine T8 (.inl (AI.of e3)) rfl (by rw [OP];intro v hv;obtain ⟨_,_,rfl⟩:=ln.mp hv;rfl) ?_;left;have hi:=(cr.mp mH).1;have e5:(more.take ms.length)=more:=(by rw [lm,sK]);rw [e5];have hk:(if true=true then !OI (.str x0.1) (more.map λm=>V.str m.1) else OI (.str x0.1) (more.map λm=>V.str m.1))=Fg more x0:=rfl
    rw [hk];cases ek:Fg more x0 with
    | true =>
     refine CQ ?_;apply Nx.mk () ⟨s1.trans s3,?_⟩;rw [List.take_succ,mH,OT];refine Paired.app (z.mono (TSub.of_same s3)) ?_;show cQ H3 [.ref p] (List.filter (Fg more) [x0]);rw [List.filter_cons,ek];exact .cons ⟨p,rk,rfl,s3 _ _ (s1 _ _ h2),B3.mono (TSub.of_same (s1.trans s3)) h3⟩ .nil
    | false =>
     refine Bx (Nx.mk () ⟨s1.trans s3,?_⟩);rw [List.take_succ,mH,OT];show cQ H3 ys (_++List.filter (Fg more) [x0]);rw [List.filter_cons,ek];simp only [Tl,↓reduceIte,List.filter_nil,G2];exact z.mono (TSub.of_same s3)
  ·obtain ⟨s1,z⟩:=z;rw [lr,sK] at z;intros d H2 s2 e2;left;have ly:=Paired.len z;have lf:=AM (Fg more) xs;refine OW e2 (s2 _ _ (s1 _ _ cS)) (DU ()) λp H3 _ s3 e3=>?_;exact q p H3 (s1.trans (s2.trans s3)) ⟨_,e3,Paired.app (z.mono (TSub.of_same (s2.trans s3))) (Tn.mono (TSub.of_same (s1.trans (s2.trans s3))))⟩
end
end K
namespace K
open PySem L2 KM KS
noncomputable def R1:List Kd->List Kd->Option (List (Int × Kd))
 | a::as,b::bs=>(prs a b).bind λx=>(R1 as bs).map λy=>x++y
 | [],[]=>some []
 | _,_=>none
theorem R3 (g:BM a=false)(h:word a=word b):prs a b=R1 (parts a) (parts b)/\(parts a).length=(parts b).length/\BM b=false:=by
 have ht:tag a=tag b:=by
  rw [Hf,Hf] at h;have:=HI (tag a) (by cases a <;> simp [tag]) (tag b) (by cases b <;> simp [tag]);rw [h] at this;simpa using this
 cases a <;> cases b <;> simp [BM,tag] at g ht
 ·exact ⟨rfl,rfl,rfl⟩
 ·exact ⟨rfl,rfl,rfl⟩
 ·rename_i a1 a2 b1 b2;refine ⟨?_,rfl,rfl⟩;show (prs a1 b1).bind _=(prs a1 b1).bind λx=>((prs a2 b2).bind λy=>some (y++[])).map λy=>x++y;cases prs a1 b1 <;> cases prs a2 b2 <;> simp
 ·rename_i a1 a2 b1 b2;refine ⟨?_,rfl,rfl⟩;show (prs a1 b1).bind _=(prs a1 b1).bind λx=>((prs a2 b2).bind λy=>some (y++[])).map λy=>x++y;cases prs a1 b1 <;> cases prs a2 b2 <;> simp
 ·rename_i a1 b1;refine ⟨?_,rfl,rfl⟩;show prs a1 b1=(prs a1 b1).bind λx=>some (x++[]);cases prs a1 b1 <;> simp
theorem NX (g:BM a=false)(h:word a≠word b):prs a b=none:=by
 cases a <;> cases b <;> first | rfl | (simp [BM] at g;done) | exact absurd rfl h
theorem Fy:∀ {as bs cs ds:List Kd},as.length=bs.length->R1 (as++cs) (bs++ds)=(R1 as bs).bind λx=>(R1 cs ds).map λy=>x++y
 | [],[],cs,ds,_=>by simp [R1]
 | a::as,b::bs,cs,ds,h=>by
  have ih:=Fy (cs:=cs) (ds:=ds) (show as.length=bs.length by simpa using h);simp only [List.cons_append,R1,ih];cases prs a b <;> cases R1 as bs <;> cases R1 cs ds <;> simp
abbrev Fh (H:Hp):List (Int × Kd)->List V->Prop:=Paired (λp v=>∃ a u,v=.ref a/\H a=some (.tup [.int p.1,u])/\B3 H p.2 u)
theorem Fh.mono (s:TSub H H')(h:Fh H ps us):Fh H' ps us :=
 Paired.aar h λp v ⟨a,u,e,h1,h2⟩=>⟨a,u,e,s _ _ h1,B3.mono s h2⟩
section
variable {Pr:Program}{w:World}{K:W.Frag}{mg:Str->Option Value}{base:Heap}
noncomputable def Hr (n:Nat):Sp:=λvs H Q _=>∃ (a b:Kd) (v u:V),vs=[v,u]/\B3 H a v/\B3 H b u/\dp a<=n/\sz a<=1000/\(prs a b=none->∀ H',Ai H H'->Q .non H') /\
 ∀ ps,prs a b=some ps->∀ l us H',Ai H H'->H l=none->H' l=some (.lst us)->Fh H' ps us->Q (.ref l) H'
noncomputable def Uv:Nat->Sp
 | 0=>Ni
 | n+1=>Hr n
theorem FY:Am ["_law_wide","_law_kind","_law_found","_law_k","_law_more"] ["_law_wide","_law_kind"] (Ah K5):=nofun
theorem Uw (h:s∈parts t):sz s < sz t:=by
 cases t with
 | fn a b | pr a b =>
  cases h with
  | head=>simp only [sz];omega
  | tail _ h =>
   cases h with
   | head=>simp only [sz];omega
   | tail _ h=>cases h
 | ls a =>
  cases h with
  | head=>simp only [sz];omega
  | tail _ h=>cases h
 | _=>cases h
theorem Pt:∀ (as bs:List Kd) (l:List (Int × Kd)),R1 as bs=some l->l.length<=IE as
 | [],[],l,h=>by cases h;simp
 | [],_::_,l,h=>by cases h
 | _::_,[],l,h=>by cases h
 | a::as,b::bs,l,h=>by
  obtain ⟨u,v,h1,h2,rfl⟩:=HQ h;have i1:=JY a b u h1;have i2:=Pt as bs v h2;simp only [ca,IE];omega
theorem R4 (ts:List Kd)(i:Nat):IE (ts.take i)<=IE ts:=by
 conv=>rhs;rw [<- List.take_append_drop i ts]
 rw [HH];omega
theorem Pu {x:V}{us:List V}{i:Nat}{v:V}(h:us[i]?=some v):Oz (x::us) (1+(i:Int))=some v:=by
 rw [show (1:Int)+(i:Int)=((i+1:Nat):Int) by omega];exact Ao (by simpa using h)
theorem JE (F:C7 K "_law_pairs" "_law_pairs" K5 f fd)(bi:Binds K fd ["_law_wide","_law_kind"] [])(mf:mg "_law_pairs"=some (.ref f))(mR:mg "range"=none)(F7:mg "len"=none)(G:Au Pr w K mg base AN (n+1) f fd ["_law_wide","_law_kind"] (Uv n)):Au Pr w K mg base AN (n+2) f fd ["_law_wide","_law_kind"] (Hr n):=by
 refine F.okS FY (λBe A outer s H vs Q E hr h=>?_)
 ·obtain ⟨a,b,v,u,rfl,kv,ku,YO,hsz,qn,qs⟩:=h;have hb:=B8;obtain ⟨pa,us,ea,ha,hpa,mJ,vZ⟩:=kv.look;subst ea;obtain ⟨pb,us',eb,jK,hpb,hgb,Aj2⟩:=ku.look;subst eb;refine ⟨_,Af (BE (AE Bb (eI 0) Ap (Aw _)) (Ak (AH (B0 (Aa (Az (Aa (eI 0) (Aa (Ag 1) Ae))) Ae)))) Bf)
   (Af (BE (AE K' (eI 0) (eI 1) (Aw _)) (Ak (AH EB)) Bf)
   (Af (Aq (i:=2) FY.nd rfl (.inl rfl) (B0 Ae))
   (Af (FN v0 rfl (Ss rfl mR (Aa Aj (Aa (BO BX rfl F7 PP (Aa (Ag 0) Ae)) Ae))) (B2 (i:=3) FY.nd rfl (.inl rfl))
    (Af (Aq (i:=4) FY.nd rfl (.inl rfl) (Fo G hr rfl mf F.kp bi (Aa (BN Et (Ag 0) (Ag 3) D0) (Aa (BN Et (Ag 1) (Ag 3) D0) Ae))))
    (Af (BE (AE ML (Ag 4) EB rfl) (Ak (AH EB)) Bf)
    (Ak (Aq (i:=2) FY.nd rfl (.inl rfl) (Ay JR (Ag 2) (Ag 4)))))))
   (Ak (AH (Ag 2)))))),?_⟩
  refine ⟨_,rfl,pa,_,_,_,rfl,rfl,BL.of ha,Ao (j:=0) rfl,rfl,_,rfl,?_⟩;rw [Hh];cases e:BM a with
  | true =>
   obtain ⟨k,rfl⟩:∃ k,a=.gap k:=(by cases a <;> simp [BM] at e;exact ⟨_,rfl⟩);obtain rfl:=mJ k rfl;refine CQ ⟨_,rfl,pa,_,_,_,rfl,rfl,BL.of ha,Ao (j:=1) rfl,_,rfl,by show 2<=sizeLine;omega,λp hp=>⟨by show 1<=sizeLine;omega,λl hl=>?_⟩⟩;have rD:p≠l:=λz=>(by rw [<- z,Ad] at hl;cases hl);have Wx:H l=none:=(by rw [Ac (be rD)] at hl;exact hl);have sm:Ai H (upd (upd H p (.tup [.int k,.ref pb])) l (.lst [.ref p])):=Ai.put (Ai.new hp) Wx;exact qs _ rfl l _ _ sm Wx Ad (.cons ⟨p,_,rfl,by rw [Ac rD,Ad],B3.mono (TSub.of_same sm) ku⟩ .nil)
  | false =>
   refine Bx ⟨_,rfl,pa,_,_,_,rfl,rfl,BL.of ha,Ao (j:=0) rfl,_,rfl,pb,_,_,_,rfl,rfl,BL.of jK,Ao (j:=0) rfl,rfl,_,rfl,?_⟩;by_cases hw:word a=word b
   ·refine BY (by simp [hw]) ?_;obtain ⟨ep,mK,egb⟩:=R3 e hw;have pk:=hpa e;have pk':=hpb egb;have hlen:us.length=(parts a).length:=(AC pk).symm;have Yk:us'.length=(parts b).length:=(AC pk').symm;have Er:=Jh a;have wa:=Gd a;refine ⟨by simp,λlf Uj=>?_⟩;have Rr:(upd H lf (.lst [])) pa=some (.tup (.str (word a)::us)):=(by rw [Ac (Ab ha Uj)];exact ha);have Aea:(((us.length+1:Nat):Int) - 1).toNat=us.length:=(by omega);refine ⟨_,rfl,pa,_,rfl,.inr (BL.of Rr),1,_,rfl,⟨(),(),by show -(2 ^ 62)<=((us.length+1:Nat):Int);omega,by show ((us.length+1:Nat):Int) < 2 ^ 62;omega⟩,?_⟩;show ∃ W:Nat->Nat->St->Hp->Prop,_;have mO:(((V.str (word a)::us).length:Int) - 1).toNat=us.length:=(by simp);rw [mO];refine PY (λi σ H2=>∃ lg kk mm acc QE,σ=[some (.ref pa),some (.ref pb),some (.ref lg),kk,mm]/\Ai H H2/\R1 ((parts a).take i) ((parts b).take i)=some acc/\H lg=none/\H2 lg=some (.lst QE)/\Fh H2 acc QE)
     ⟨lf,none,none,[],[],rfl,Ai.new Uj,rfl,Uj,Ad,.nil⟩ (λi σ H2 hi z=>?_) (fun σ H2 z=>?_)
    ·obtain ⟨lg,kk,mm,acc,QE,rfl,sm,Gb,Uk,wc,Xc⟩:=z;obtain ⟨x,hx⟩:∃ x,us[i]?=some x:=⟨_,ap ()⟩;obtain ⟨x',IU⟩:∃ x',us'[i]?=some x':=⟨_,ap ()⟩;obtain ⟨s1,rE,kx⟩:=Paired.at pk hx;obtain ⟨s2,RJ,pQ⟩:=Paired.at pk' IU;have F5:=ci rE;have CV:=Hi F5;have Aj4:=Uw F5;have hal:=Pt _ _ _ Gb;have Aj5:=R4 (parts a) i;have taken:((parts a).take i).length=((parts b).take i).length:=(by rw [pc,pc,mK]);have YS:R1 ((parts a).take (i+1)) ((parts b).take (i+1))=(prs s1 s2).map λy=>acc++y:=by
      rw [wP,wP,rE,RJ];show R1 (_++[s1]) (_++[s2])=_;rw [Fy taken,Gb];show (((prs s1 s2).bind λx=>some (x++[])).map λy=>acc++y)=_;cases prs s1 s2 <;> simp
     refine ⟨_,rfl,_,rfl,pa,_,_,_,rfl,rfl,BL.of (sm pa _ ha),Pu hx,_,rfl,_,rfl,pb,_,_,_,rfl,rfl,BL.of (sm pb _ jK),Pu IU,?_⟩;cases n with
     | zero=>omega
     | succ n =>
      refine ⟨s1,s2,x,x',rfl,B3.mono (TSub.of_same sm) kx,B3.mono (TSub.of_same sm) pQ,(),(),λen H3 MC=>?_,λps cU l3 we H3 MC cA MB p3=>?_⟩
      ·refine ⟨_,rfl,rfl,_,rfl,Cm rfl ?_⟩;refine qn ?_ H3 (Ai.trans sm MC);rw [ep,<- List.take_append_drop (i+1) (parts a),<- List.take_append_drop (i+1) (parts b),Fy (by rw [pc,pc,mK]),YS,en];rfl
      ·refine ⟨_,rfl,rfl,_,rfl,BY (by simp) ?_⟩;have iG:=MC lg _ wc;have uQ:=JY _ _ _ cU;have h2l:QE.length=acc.length:=(AC Xc).symm;have h3l:we.length=ps.length:=(AC p3).symm;refine ⟨_,rfl,_,rfl,lg,l3,QE,we,rfl,rfl,iG,MB,(),λr QF=>?_⟩;have sm':=Ai.trans sm MC;have Ul:H r=none:=sm'.free QF;refine ⟨r,_,_,acc++ps,QE++we,rfl,Ai.put sm' Ul,?_,Ul,Ad,?_⟩
       ·rw [YS,cU];rfl
       ·exact Paired.app (Fh.mono (TSub.trans (TSub.of_same MC) (TSub.new QF)) Xc) (Fh.mono (TSub.new QF) p3)
    ·obtain ⟨lg,kk,mm,acc,QE,rfl,sm,Gb,Uk,wc,Xc⟩:=z;refine ⟨_,rfl,?_⟩;have h1:(parts a).take us.length=parts a:=List.take_of_length_le ();have h2:(parts b).take us.length=parts b:=List.take_of_length_le ();rw [h1,h2] at Gb;exact qs acc (by rw [ep];exact Gb) lg QE H2 sm Uk wc Xc
   ·refine Cm (by simp [hw]) ?_;exact qn (NX e hw) H (Ai.refl H)
theorem Ma {f:Addr}{fd:FuncData}(F:C7 K "_law_pairs" "_law_pairs" K5 f fd)(bi:Binds K fd ["_law_wide","_law_kind"] [])(mf:mg "_law_pairs"=some (.ref f))(mR:mg "range"=none)(F7:mg "len"=none):
  ∀ n,Au Pr w K mg base AN (n+2) f fd ["_law_wide","_law_kind"] (Hr n)
 | 0=>JE F bi mf mR F7 Jm
 | n+1=>JE F bi mf mR F7 (Ma F bi mf mR F7 n)
theorem Fh.list:∀ {ps:List (Int × Kd)} {us:List V},Fh H ps us->∃ qs:List (Addr × Key × V),us=qs.map (λq=>V.ref q.1)/\(∀ q∈qs,H q.1=some (.tup [kV q.2.1,q.2.2]))/\Paired (λp q=>q.2.1=(Sum.inl p.1:Key)/\B3 H p.2 q.2.2) ps qs:=by
 intro ps us h
 induction h with
 | nil=>exact ⟨[],rfl,(λq hq=>by cases hq),.nil⟩
 | @cons p _ _ _ c _ ih =>
  obtain ⟨a,u,rfl,h1,h2⟩:=c;obtain ⟨qs,rfl,h3,h4⟩:=ih;refine ⟨(a,Sum.inl p.1,u)::qs,rfl,λq hq=>?_,.cons ⟨rfl,h2⟩ h4⟩;rcases gz.mp hq with rfl | hq
  ·exact h1
  ·exact h3 q hq
theorem R5:∀ {ps:List (Int × Kd)} {qs:List (Addr × Key × V)} (kvs:List (Key × V)) (m:Int->Option Kd),Paired (λp q=>q.2.1=(Sum.inl p.1:Key)/\B3 H p.2 q.2.2) ps qs->CG H kvs m ->
  CG H (qs.foldl (λm p=>putK m p.2.1 p.2.2) kvs) (λk=>ps.foldl (λm p=>if p.1=k then some p.2 else m) (m k)):=by
 intro ps qs kvs m c
 revert kvs m
 induction c with
 | nil=>exact λkvs m h=>h
 | @cons p q _ _ c t ih =>
  intro kvs m h;obtain ⟨e,kq⟩:=c;have ih:=ih (putK kvs q.2.1 q.2.2) (λj=>if j=p.1 then some p.2 else m j) (by rw [e];exact CG.put h kq)
  have e2:∀ k,(if p.1=k then some p.2 else m k)=(if k=p.1 then some p.2 else m k):=λk=>by
   by_cases z:p.1=k
   ·rw [if_pos z,if_pos z.symm]
   ·rw [if_neg z,if_neg (λy=>z y.symm)]
  simp only [List.foldl_cons,e2];exact ih
noncomputable def F3 (n:Nat):Sp:=λvs H Q _=>∃ (a b:Kd) (v u:V),vs=[v,u]/\B3 H a v/\B3 H b u/\dp a<=n/\sz a<=1000/\dp b<=60/\∀ H',Ai H H'->Q (.bl (wd a b)) H'
theorem Ku:Am ["_law_wide","_law_kind","_law_pairs_here","_law_told"] ["_law_wide","_law_kind"] (Ah HY):=nofun
theorem Ux (F:C7 K "_law_wider" "_law_wider" HY f fd)(mD:mg "dict"=none)(mA:mg "all"=none)(GP:Au Pr w K mg base AN (n+2) fP fdP ["_law_wide","_law_kind"] (Hr n))(kP:W.keepIn K (.ref fP)=true)(bP:Binds K fdP ["_law_wide","_law_kind"] [])(mP:mg "_law_pairs"=some (.ref fP)) :
  Au Pr w K mg base AN (n+3) f fd ["_law_wide","_law_kind"] (F3 n):=by
 refine F.okS Ku (λBe A outer s H vs Q E hr h=>?_)
 ·obtain ⟨a,b,v,u,rfl,kv,ku,YO,hsz,Ef,q⟩:=h;have hb:=B8;have hu:=DE hr;have cX:=hr.units;have S:B7 (Dt AN Pr w K mg base ["_law_wide","_law_kind","_law_pairs_here","_law_told"] "_law_wider" (Ah HY) f Be A outer s H E).nox (BJ (Kh (valueOf (inDef HY 3)))) [("_law_told",s.heap.objs.size+1)] ["_law_gap","_law_part"] ["_law_told"] [3] :=
   ⟨rfl,by decide +kernel,rfl,by decide +kernel,rfl,rfl,rfl,rfl⟩
  refine ⟨_,Af (Aq (i:=2) Ku.nd rfl (.inl rfl) (Fo GP hr rfl mP kP bP (Aa (Ag 0) (Aa (Ag 1) Ae))))
   (Af (BE (AE ML (Ag 2) EB rfl) (Ak (AH IL)) Bf)
   (Af (Aq (i:=3) Ku.nd rfl (.inr rfl) (CD (IQ rfl) rfl mD PyProof.Rows.boot_dict (Aa (Ag 2) Ae)))
   (Ak (AH (BO (Jj rfl) rfl mA PyProof.Rows.boot_all (Aa (Dx (g:=RG K 2 (GA (Cn 0) (GA (Cn 1) RE))) (te:=G7 ju (Lj (AS 2) (AS 0)) (AS 1)) S rfl (CW (Ag 2))
    (λC s0 H0 ex=>Jq rfl (Co (B2 (i:=0) (show (["_law_gap","_law_part","_law_told"]:List Str).Nodup by decide +kernel) rfl (.inl rfl)) (Co (B2 (i:=1) (show (["_law_gap","_law_part","_law_told"]:List Str).Nodup by decide +kernel) rfl (.inl rfl)) Gi)))
    (λ_ _ _ _=>Eh) (λC s0 H0 ex=>HM (So cX) (JX hu (Ag 2) (Ag 0) D0) (Ag 1) (Aw _))) Ae)))))),?_⟩
  refine ⟨_,rfl,_,rfl,a,b,v,u,rfl,kv,ku,YO,hsz,λen H1 Fw=>?_,λps cU l us H1 Fw Wx CB pu=>?_⟩
  ·refine ⟨_,rfl,rfl,_,rfl,Cm rfl ?_⟩;have e1:wd a b=false:=(by unfold wd;rw [en]);have:=q H1 Fw;rw [e1] at this;exact this
  ·refine ⟨_,rfl,rfl,_,rfl,BY (by simp) ?_⟩;obtain ⟨qs,eu,hq,pq⟩:=Fh.list pu;subst eu;have hql:qs.length=ps.length:=(AC pq).symm;have Er:=JY _ _ _ cU;refine ⟨_,rfl,l,qs,rfl,CB,hq,λd hd=>?_⟩;have wg:CG H1 (putAll qs) (HP ps):=R5 [] (λ_=>none) pq CG.nil;have sd:Ai H1 (upd H1 d (.dK (putAll qs))):=Ai.new hd;have D9:(upd H1 d (.dK (putAll qs))) l=some (.lst (qs.map λq=>V.ref q.1)):=sd l _ CB;generalize hH2:upd H1 d (.dK (putAll qs))=H2 at sd D9 ⊢;have hd2:H2 d=some (.dK (putAll qs)):=(by rw [<- hH2,Ad]);have dk:=CG.mono (TSub.of_same sd) wg;refine ⟨_,rfl,l,rfl,⟨_,AI.of D9⟩,?_⟩;refine Cw (K:=K) (a:=l) (xs:=qs.map λq=>V.ref q.1) (λi ys H3=>H3=H2/\ys=((ps.take i).map λp=>decide (HP ps p.1=some p.2)).map V.bl) ⟨rfl,rfl⟩ (λi ys H3 z=>by rw [z.1];exact AI.of D9) (by rw [ba];omega)
    (λi ys H3 z=>?_) (λi x ys H3 hx z=>?_) (λx σ H Q Q' h z=>?_) (fun σ H Q Q' h z=>h _ _ z) (fun σ H Q Q' h z=>?_) (λys H3 z=>?_)
   ·rw [z.2,ba,ba,pc];omega
   ·obtain ⟨rfl,rfl⟩:=z;rw [jp] at hx;cases eq:qs[i]? with
    | none=>rw [eq] at hx;cases hx
    | some q0 =>
     rw [eq] at hx;cases hx;obtain ⟨p0,JA,ek,kq⟩:=Paired.at pq eq;have ht:=sd _ _ (hq q0 (ci eq));refine ⟨q0.1,_,rfl,BL.of ht,rfl,_,_,rfl,_,_,rfl,rfl,⟨rfl,?_⟩,Dy ?_⟩
     ·intro j v hj;cases j with
      | zero=>cases hj
      | succ j=>cases j with
       | zero=>cases hj
       | succ j=>exact hj
     ·have hmp:=ci JA;obtain ⟨p1,LS,Mb,YT⟩:=Jo hmp;rcases dk p0.1 with ⟨_,z2⟩ | ⟨v',t',z1,z2,z3⟩
      ·rw [YT] at z2;cases z2
      refine ⟨_,rfl,_,rfl,d,v',rfl,?_,_,rfl,t',p0.2,z3,B3.mono (TSub.of_same sd) kq,?_,?_,?_⟩
      ·have:=Cr.k (k:=q0.2.1) hd2;rw [ek,z1] at this;rw [ek];exact this
      ·rw [YT] at z2;cases z2;exact ce (Sz _ _ _ cU p1 LS) Ef
      ·exact ce (Sz _ _ _ cU p0 hmp) Ef
      ·refine ⟨rfl,?_⟩;rw [wP,JA,wT,wT];show _=_++[V.bl (decide (HP ps p0.1=some p0.2))];have e3:decide (some t'=some p0.2)=decide (t'=p0.2):=(by simp);rw [z2,e3]
   ·obtain ⟨a1,x1,z1,z2,z3,v1,r1,z4,v2,r2,z5,z6,z7⟩:=z;exact ⟨a1,x1,z1,z2,z3,v1,r1,z4,v2,r2,z5,z6,h _ _ z7⟩
   ·obtain ⟨v1,z1,v2,z2,a1,v3,z3,z4,v4,z5,t1,t2,z6,z7,z8,z9,z10⟩:=z;exact ⟨v1,z1,v2,z2,a1,v3,z3,z4,v4,z5,t1,t2,z6,z7,z8,z9,h _ _ z10⟩
   ·obtain ⟨rfl,rfl⟩:=z;intro D hD;refine ⟨D,_,rfl,Ad,?_⟩;rw [ba,hql,sK];have e1:((ps.map λp=>decide (HP ps p.1=some p.2)).all id)=wd a b:=by
     unfold wd;rw [cU,List.all_map];rfl
    rw [e1];exact q _ (Ai.put (Ai.trans Fw sd) ((Ai.trans Fw sd).free hD))
end
open KX
section
variable {Pr:Program}{w:World}{K:W.Frag}{mg:Str->Option Value}{base:Heap}
noncomputable def sk:Kd->Nat
 | .num | .tru | .gap _=>1
 | .ls a=>1+sk a
 | .fn _ b=>1+sk b
 | .pr a b=>1+sk a+sk b
theorem cY (t:Kd):1<=sk t:=by cases t <;> simp [sk] <;> omega
noncomputable def C:Nat->Nat->Nat
 | 0,s=>s
 | d+1,s=>1+C d 11+C d (1+s)+2 * C d s
theorem CZ:∀ (d:Nat) {p q:Nat},p<=q->C d p<=C d q
 | 0,_,_,h=>h
 | d+1,p,q,h=>by have:=CZ d h;have:=CZ d (Nat.add_le_add_left h 1);simp only [C];omega
theorem mQ:∀ (d p:Nat),p<=C d p
 | 0,_=>am _
 | d+1,p=>by have:=mQ d p;simp only [C];omega
theorem Iw:∀ t,sk t+1<=2 ^ (dp t+1)
 | .num | .tru | .gap _=>by simp [sk,dp]
 | .ls a=>by have:=Iw a;simp only [sk,dp,Nat.pow_succ] at *;omega
 | .fn a b=>by
  have:=Iw b;have h:=wE (n:=2) ⟨⟩ (Nat.le_max_right (dp a) (dp b));simp only [sk,dp,Nat.pow_succ] at *;omega
 | .pr a b=>by
  have h1:=Iw a;have h2:=Iw b;have h3:=wE (n:=2) ⟨⟩ (Nat.le_max_left (dp a) (dp b));have h4:=wE (n:=2) ⟨⟩ (Nat.le_max_right (dp a) (dp b));simp only [sk,dp,Nat.pow_succ] at *;omega
theorem Iy:∀ t,sz t+1<=2 ^ (dp t+1)
 | .num | .tru | .gap _=>by simp [sz,dp]
 | .ls a=>by have:=Iy a;simp only [sz,dp,Nat.pow_succ] at *;omega
 | .fn a b=>by
  have h1:=Iy a;have h2:=Iy b;have h3:=wE (n:=2) ⟨⟩ (Nat.le_max_left (dp a) (dp b));have h4:=wE (n:=2) ⟨⟩ (Nat.le_max_right (dp a) (dp b));simp only [sz,dp,Nat.pow_succ] at *;omega
 | .pr a b=>by
  have h1:=Iy a;have h2:=Iy b;have h3:=wE (n:=2) ⟨⟩ (Nat.le_max_left (dp a) (dp b));have h4:=wE (n:=2) ⟨⟩ (Nat.le_max_right (dp a) (dp b));simp only [sz,dp,Nat.pow_succ] at *;omega
theorem sz8 (h:dp t<=8):sz t<=1000:=by
 have h1:=Iy t;have h2:2 ^ (dp t+1)<=2 ^ 9:=wE ⟨⟩ ();have h3:2 ^ 9=512:=rfl;omega
theorem wj (h:dp t<=2):dp t<=3/\sk t<=7:=by
 have h2:=Iw t;have h4:2 ^ (dp t+1)<=2 ^ 3:=wE ⟨⟩ ();have h6:2 ^ 3=8:=rfl;omega
theorem pk1 (h:dp t<=1):dp t<=1/\sk t<=3:=by
 have h2:=Iw t;have h4:2 ^ (dp t+1)<=2 ^ 2:=wE ⟨⟩ ();have h5:2 ^ 2=4:=rfl;omega
noncomputable def Pm (d:Nat)(g:Kd):Prop:=d<=3\/(d=4/\dp g<=2)
noncomputable def Pb (d:Nat)(g:Kd):Prop:=d<=2\/(d=3/\dp g<=2)
noncomputable def mu:Nat->Kd->Nat
 | 0,g=>dp g
 | d+1,g=>max 3 (dp g)+2 * (d+1)
structure Gy (K:W.Frag)(H:Hp)(a:Addr)(ns:List Int)(g:Kd)(rg:V)(l:Addr)(xs:List (Str × Kd)):Prop where
 hs:AI K H a (ns.map V.int)
 hg:B3 H g rg
 gd:KR g
 hl:Iv H l xs
 hx:∀ x∈xs,dp x.2<=8
theorem Gy.mono {K:W.Frag}(s:Ai H H')(h:Gy K H a ns g rg l xs):Gy K H' a ns g rg l xs :=
 ⟨s.seq h.hs,B3.mono (TSub.of_same s) h.hg,h.gd,h.hl.mono s,h.hx⟩
abbrev M0 (xs:List (Str × Kd)):List Str:=xs.map (·.1)
noncomputable def Uy (K:W.Frag)(n:Nat):Sp:=λvs H Q _=>∃ (a:Addr) (ns:List Int) (k:Int) (g:Kd) (rg:V) (l:Addr) (xs:List (Str × Kd)) (d:Nat),vs=[.ref a,.int k,rg,.ref l,.int d]/\Gy K H a ns g rg l xs/\mu d g<=n/\max 3 (dp g)+d<=8/\Pm d g/\xs.length+2 * n<=1000 /\
 ∀ e r H',Ai H H'->BD H' e r->QA xs g (C d (sk g)) e->Q r H'
noncomputable def Dp (K:W.Frag):Nat->Sp
 | 0=>Ni
 | n+1=>Uy K n
noncomputable def Cb:Nat->Nat->Nat
 | 0,s=>s
 | d+1,s=>1+2 * C (d+1) s
noncomputable def FZ (K:W.Frag)(n:Nat):Sp:=λvs H Q _=>∃ (a:Addr) (ns:List Int) (k:Int) (g:Kd) (rg:V) (l:Addr) (xs:List (Str × Kd)) (d:Nat),vs=[.ref a,.int k,rg,.ref l,.int d]/\Gy K H a ns g rg l xs/\(d=0->dp g<=n)/\(0 < d->max 3 (dp g)+2 * d+1<=n)/\max 3 (dp g)+d<=8/\Pb d g/\xs.length+2 * n<=1000 /\
 ∀ e r H',Ai H H'->BD H' e r->QA xs g (Cb d (sk g)) e->Q r H'
noncomputable def Pw (K:W.Frag)(n:Nat):Sp:=λvs H Q _=>∃ (a:Addr) (ns:List Int) (k:Int) (g:Kd) (rg:V) (l:Addr) (xs:List (Str × Kd)) (d:Nat),vs=[.ref a,.int k,rg,.ref l,.int d]/\Gy K H a ns g rg l xs/\max 3 (dp g)+2 * d+2<=n/\max 3 (dp g)+d+1<=8/\d<=3/\xs.length+2 * n<=1000 /\
 ∀ e r H',Ai H H'->BD H' e r->QA xs g (C (d+1) (sk g)) e->Q r H'
theorem mU (d p:Nat):Cb d p<=C (d+1) p:=by
 cases d with
 | zero=>simp only [Cb,C];omega
 | succ d=>simp only [Cb];show 1+2 * C (d+1) p<=1+C (d+1) 11+C (d+1) (1+p)+2 * C (d+1) p;omega
theorem NY:Am ["_law_script","_law_k","_law_goal","_law_names","_law_deep","_law_number","_law_good"] J1 (Ah Cz):=nofun
theorem Uz (F:C7 K "_law_made" "_law_made" Cz f fd)(Px:mg "len"=none)(Jy:mg "max"=none)(cZ:11<=r)(cM:Cl Pr w K mg base 2 "_law_mix" KL (Ff K))(cW:Cl Pr w K mg base 11 "_law_wider" ["_law_wide","_law_kind"] (F3 8))(cB:Cl Pr w K mg base r "_law_built" J1 (FZ K n))(cT:Cl Pr w K mg base r "_law_taken" J1 (Pw K n)) :
  Au Pr w K mg base AN (r+1) f fd J1 (Uy K n):=by
 refine F.okS NY (λBe A outer s H vs Q E hr h=>?_)
 ·obtain ⟨a,ns,k,g,rg,l,xs,d,rfl,P,d7,h8,hPm,hx,q⟩:=h;have DW:Ax 2 _:=hr.mono ();have d8:Ax 11 _:=hr.mono ();have S:B7 (Dt AN Pr w K mg base ["_law_script","_law_k","_law_goal","_law_names","_law_deep","_law_number","_law_good"] "_law_made" (Ah Cz) f Be A outer s H E).nox (BJ (valueOf (inDef Cz 1))) [("_law_goal",s.heap.objs.size+1)] ["_law_one"] ["_law_goal"] [2] :=
   ⟨rfl,by decide +kernel,rfl,by decide +kernel,rfl,rfl,rfl,rfl⟩
  have KO:(["_law_one","_law_goal"]:List Str).Nodup:=by decide +kernel
  refine ⟨_,(Af (Aq (i:=5) NY.nd rfl (.inl rfl) (Bd cM DW rfl (Aa (Ag 0) (Aa (Ag 1) Ae))))
   (Af (HR (i:=6) NY.nd rfl (.inl rfl) (tt:=tB (FF (F3 8) [] E0 (Br (G7 (GQ K) (AS 0) (tC (.int 1))) (Br (AS 1) Di)))) (te:=G7 (GQ K) (AS 0) (tC (.int 0))) S rfl (CW (Ag 3)) (λC s0 H0 ex=>B2 (i:=0) KO rfl (.inl rfl)) (λC s0 H0 ex=>OR (Jk (Bd cW d8 rfl (Aa (eI 0) (Aa (Ag 1) Ae))))) (λC s0 H0 ex=>BN Et (Ag 0) Aj D0))
   (Af (BE (Nh (w_and (Cf (Ag 6)) (DI (AE Bb (Ay AU (Ag 5) Aj) Aj (Aw _))))) (Ak (AH (Az (Aa Ap (Aa (BN (r:=Du K) AA (Ag 6) (Ay AU (Ay C4 (Ag 5) Aj) (BO BX (by rfl) Px PP (Aa (Ag 6) Ae))) D0) Ae))))) Bf)
   (Af (BE (Nh (w_and (AE Ol (Ag 4) Aj (Aw _)) (DI (AE Oj (Ay AU (Ag 5) Aj) Aj (Aw _))))) (Ak (AH (Bd cT hr rfl (Aa (Ag 0) (Aa (Ag 1) (Aa (Ag 2) (Aa (Ag 3) (Aa (Ay Ep (Ag 4) Aj) Ae)))))))) Bf)
   (Ak (AH (Bd cB hr rfl (Aa (Ag 0) (Aa (Ag 1) (Aa (Ag 2) (Aa (Ag 3) (Aa (BO (PZ rfl) (by rfl) Jy PyProof.Rows.boot_max (Aa Aj (Aa (Ay Ep (Ag 4) Aj) Ae))) Ae)))))))))))),?_⟩
  apply ⟨a,ns,k,rfl,P.hs,λm hm=>?_⟩;left;obtain ⟨rs,CB,D9⟩:=P.hl;have lr:=Paired.len D9;refine ⟨l,rfl,⟨_,AI.of CB⟩,?_⟩;refine K8 (K:=K) (a:=l) (xs:=rs) (λi ys H'=>Ai H H'/\ys.length<=i/\∀ y∈ys,∃ x∈xs,y=.str x.1/\wd x.2 g=true) ⟨Ai.refl _,mi _,λy hy=>by cases hy⟩ (λi ys H' z=>AI.of (z.1 _ _ CB)) (by exact Ei ()) (λi ys H' z=>z.2.1) rfl (λi x ys H1 hx z=>?_) (λys H1 z=>?_)
  ·obtain ⟨s1,z1,z2⟩:=z;obtain ⟨x0,mH,p,rk,rfl,h2,h3⟩:=Paired.at1 D9 hx;have hi:=(cr.mp hx).1;have wm:=ci mH;apply An (s1 _ _ h2) rfl ?_;left;have GK:=P.hx x0 wm;refine ⟨x0.2,g,rk,rg,rfl,B3.mono (TSub.of_same s1) h3,B3.mono (TSub.of_same s1) P.hg,GK,sz8 GK,(),λH2 s2=>?_⟩;apply EA (λwo=>?_) λ_=>?_
   ·apply An (s2 _ _ (s1 _ _ h2)) rfl ?_;refine Nx.mk hi ⟨s1.trans s2,by rw [ca];simp;omega,λy hy=>?_⟩;rcases bn.mp hy with hy | hy
    ·exact z2 y hy
    ·rw [al.mp hy];exact ⟨x0,wm,rfl,wo⟩
   ·exact Nx.mk hi ⟨s1.trans s2,(),z2⟩
  ·obtain ⟨s1,z1,z2⟩:=z;intros gl H2 s2 e2;apply ⟨!ys.isEmpty,.inl ⟨_,AI.of e2,rfl⟩,?_⟩;have IX:=s1.trans s2;have P2:=P.mono IX;refine jO ?_ λhc rest=>?_
   ·left;have tk:∀ d',d=d'+1->∀ r,QA xs g (C (d'+1) (sk g)) r->QA xs g (C d (sk g)) r:=λd' e r h=>e▸h;have blt:∀ d':Nat,(d=0/\d'=0)\/d=d'+1->FZ K n [.ref a,.int k,rg,.ref l,.int d'] H2 Q E0:=λd' hd=>by
     refine ⟨a,ns,k,g,rg,l,xs,d',rfl,P2,λz=>?_,λz=>?_,(),(by unfold Pm at hPm;unfold Pb;omega),(),λe r H3 s3 ha ho=>q e r H3 (IX.trans s3) ha ?_⟩
     ·rcases hd with ⟨h1,h2⟩ | hd
      ·subst h1;exact d7
      ·subst hd;subst z;have:max 3 (dp g)+2 * (0+1)<=n:=d7;omega
     ·rcases hd with ⟨h1,h2⟩ | hd
      ·omega
      ·subst hd;have:max 3 (dp g)+2 * (d'+1)<=n:=d7;omega
     ·rcases hd with ⟨h1,h2⟩ | hd
      ·subst h1 h2;exact ho
      ·subst hd;exact ⟨ho.cl,ce ho.sz (mU d' _),ho.ty⟩
    have built:∀ D:Ends,D.rt=Q->RC (FF (FZ K n) [] E0 (Br (AS 0) (Br (AS 1) (Br (AS 2) (Br (AS 3) (Br (ZA (λxs H Q=>∃ i j,xs=[.int i,.int j]/\Q (.int (if j > i then j else i)) H) (Br (tC (.int 0)) (Br (G7 (RL λi j=>.int (i - j)) (AS 4) (tC (.int 1))) Di))) Di)))))) D [some (.ref a),some (.int k),some rg,some (.ref l),some (.int d),some (.int m),some (.ref gl)] H2:=by
     intro D hD;apply ⟨_,_,rfl,?_⟩;left;rw [hD];cases d with
     | zero=>exact blt 0 (.inl ⟨rfl,rfl⟩)
     | succ d' =>
      rw [Nw];have e:(if (d':Int) > 0 then (d':Int) else 0)=(d':Int):=by split <;> omega
      rw [e];exact blt d' (.inr rfl)
    refine EA (λc1=>?_) λ_=>Bx (built _ rfl);apply EA (λ_=>?_) λ_=>built _ rfl;left;cases d with
    | zero=>exact absurd (of_decide_eq_true c1) ⟨⟩
    | succ d' =>
     refine ⟨a,ns,k,g,rg,l,xs,d',by rw [Nw],P2,?_,?_,(by unfold Pm at hPm;omega),(),λe r H3 s3 ha ho=>q e r H3 (IX.trans s3) ha ho⟩
     ·have:max 3 (dp g)+2 * (d'+1)<=n:=d7;omega
     ·omega
   ·apply EA (λ_=>?_) λ_=>rest;apply ⟨gl,_,rfl,.inl (AI.of e2),?_⟩;have IP:(0:Int) < (ys.length:Nat):=by
     cases ys with
     | nil=>simp at hc
     | cons x xs=>simp
    refine jN IP (DF (AI.of e2) (BC _ ()) (xL _ IP) λv hv=>?_);left;intros p H3 s3 e3;obtain ⟨x,hx,rfl,wo⟩:=z2 v hv;exact q (.nm x.1) _ _ (IX.trans s3) ⟨p,rfl,e3⟩ ⟨ln.mpr ⟨x,hx,rfl⟩,ce (cY g) (mQ d _),.nm ⟨x.2,hx,(Sy _ _).mp wo⟩⟩
theorem mV:∀ d,C d 7+4<=C d 11
 | 0=>by simp [C]
 | d+1=>by have:=mV d;have:=CZ d (show 1+7<=1+11 by omega);simp only [C];omega
theorem sz7 (h:dp t<=2):sz t<=7:=by
 have h2:=Iy t;have h4:2 ^ (dp t+1)<=2 ^ 3:=wE ⟨⟩ ();have h6:2 ^ 3=8:=rfl;omega
theorem d9 (h1:a<=C d 7+4)(h2:b<=C d s):1+a+b<=C (d+1) s:=by have:=mV d;simp only [C];omega
theorem Md (h1:a<=C d 11)(h2:b<=C d s)(h3:c<=C d s):1+a+b+c<=C (d+1) s:=by simp only [C];omega
theorem da (h1:a<=C d 11)(h2:b<=C d s):1+a+b<=C (d+1) s:=by simp only [C];omega
theorem dc (h1:a<=C d (1+s))(h2:b<=C d 11\/b<=C d s):1+a+b<=C (d+1) s:=by simp only [C];omega
noncomputable def YU (K:W.Frag)(n:Nat):Sp:=λvs H Q _=>∃ (a:Addr) (ns:List Int) (k:Int) (g:Kd) (rg:V) (l:Addr) (xs:List (Str × Kd)) (d:Nat) (x:Str) (kd:Kd) (rk:V),vs=[.ref a,.int k,rg,.ref l,.int d,.str x,rk]/\Gy K H a ns g rg l xs/\B3 H kd rk/\KR kd/\dp kd<=2/\max 3 (dp g)+2 * d+2<=n/\max 3 (dp g)+d+1<=8/\d<=3/\xs.length+2 * n<=1000 /\
 ∀ e r H',Ai H H'->BD H' e r->QA xs g (C (d+1) (sk g)) e->Q r H'
theorem BH {K:W.Frag}(P:Gy K H a ns g rg l xs)(hd:left=.int d)(h3:dp g<=max 3 (n - 1 - 2 * d))(hn:2 * d+4<=n)(h8:max 3 (dp g)+d<=8)(MA:d<=3)(hx:xs.length+2 * n<=1002)(q:∀ e r H',Ai H H'->BD H' e r->QA xs g (C d (sk g)) e->Q r H'):Dp K n [.ref a,.int k,rg,.ref l,left] H Q E:=by
 subst hd;cases n with
 | zero=>omega
 | succ n =>
  refine ⟨a,ns,k,g,rg,l,xs,d,rfl,P,?_,h8,.inl MA,(),q⟩;cases d with
  | zero=>simp only [mu];omega
  | succ d=>simp only [mu];omega
theorem Gy.with {K:W.Frag}(P:Gy K H a ns g rg l xs)(hg:B3 H g' rg')(gd:KR g')(hl:Iv H l' wq)(hx:∀ x∈wq,dp x.2<=8):Gy K H a ns g' rg' l' wq:=⟨P.hs,hg,gd,hl,hx⟩
theorem Ce (m:Int->Option Kd):∀ {k:Kd},KR k->fill m k=k
 | .num,_=>rfl
 | .tru,_=>rfl
 | .gap _,h=>h.elim
 | .ls a,h=>by show Kd.ls (fill m a)=_;rw [Ce m (k:=a) h]
 | .fn a b,h=>by show Kd.fn (fill m a) (fill m b)=_;rw [Ce m h.1,Ce m h.2]
 | .pr a b,h=>by show Kd.pr (fill m a) (fill m b)=_;rw [Ce m h.1,Ce m h.2]
theorem Py (h:Fg more x=true):∀ m∈more,x.1≠m.1:=λm hm e=>by
 unfold Fg OI at h;rw [Bool.not_eq_true'] at h;rw [List.any_eq_false] at h;exact h _ (ln.mpr ⟨m,hm,rfl⟩) (by rw [e];exact beq_self_eq_true _)
theorem Me:(Yy (YR xs [(x,wk)])).Le ((Yy xs).put x λt=>∃ m,fill m wk=t):=by
 rintro y t ⟨k,hk,m,e⟩;simp only [Gm.put];rcases bn.mp hk with hk | hk
 ·obtain ⟨h1,h2⟩:=AT.mp hk;have:=Py h2 (x,wk) (.head _);rw [if_neg this];exact ⟨k,h1,m,e⟩
 ·cases al.mp hk;rw [if_pos rfl];exact ⟨m,e⟩
theorem R6 (g:KR wk):(Yy (YR xs [(x,wk)])).Le ((Yy xs).put x (·=wk)):=λy t h=>by
 have:=Me y t h;simp only [Gm.put] at this ⊢;split
 ·rename_i e;rw [if_pos e] at this;obtain ⟨m,rfl⟩:=this;exact Ce m g
 ·rename_i e;rw [if_neg e] at this;exact this
theorem Iz (ga:KR a)(gb:KR b)(h:(x=y/\more=[(y,b)])\/(x≠y/\more=[(x,a),(y,b)])):(Yy (YR xs more)).Le (((Yy xs).put x (·=a)).put y (·=b)):=by
 rintro z t ⟨k,hk,m,e⟩;simp only [Gm.put];rcases bn.mp hk with hk | hk
 ·obtain ⟨h1,h2⟩:=AT.mp hk;have k1:=Py h2;have ny:z≠y:=by rcases h with ⟨_,rfl⟩ | ⟨_,rfl⟩ <;> exact k1 (y,b) (by simp)
  have nx:z≠x:=by
   rcases h with ⟨rfl,_⟩ | ⟨_,rfl⟩
   ·exact ny
   ·exact k1 (x,a) (by simp)
  rw [if_neg ny,if_neg nx];exact ⟨k,h1,m,e⟩
 ·rcases h with ⟨rfl,rfl⟩ | ⟨n,rfl⟩
  ·cases al.mp hk;rw [if_pos rfl,<- e];exact Ce m gb
  ·simp only [gz,AD,or_false,Prod.mk.injEq] at hk;rcases hk with ⟨rfl,rfl⟩ | ⟨rfl,rfl⟩
   ·rw [if_neg n,if_pos rfl,<- e];exact Ce m ga
   ·rw [if_pos rfl,<- e];exact Ce m gb
theorem F' {xs more:List (Str × Kd)}{e:Ex}{ys:List Str}(h:e.cl (M0 (YR xs more)))(hm:∀ m∈more,m.1∈ys)(hx:∀ x∈M0 xs,x∈ys):e.cl ys:=by
 refine Ex.cl.mono (λz hz=>?_) h;obtain ⟨y,hy,rfl⟩:=ln.mp hz;rcases F2 hy with hy | hy
 ·exact hm y hy
 ·exact hx _ (ln.mpr ⟨y,hy,rfl⟩)
theorem Fi:Am ["_law_script","_law_k","_law_goal","_law_names","_law_deep","_law_a","_law_kind","_law_number","_law_one","_law_wide"] ["_law_script","_law_k","_law_goal","_law_names","_law_deep","_law_a","_law_kind"] (Ah Ea):=nofun
theorem de (F:C7 K "_law_let" "_law_let" Ea f fd)(cZ:11<=r)(cM:Cl Pr w K mg base 2 "_law_mix" KL (Ff K))(cV:Cl Pr w K mg base 1 "_law_with" ["_law_names","_law_more"] Gx)(cD:Cl Pr w K mg base r "_law_made" J1 (Dp K n)) :
  Au Pr w K mg base AN (r+1) f fd ["_law_script","_law_k","_law_goal","_law_names","_law_deep","_law_a","_law_kind"] (YU K n):=by
 refine F.okS Fi (λBe A outer s H vs Q E hr h=>?_)
 ·obtain ⟨a,ns,k,g,rg,l,xs,d,x,kd,rk,rfl,P,hk,gk,dk,d7,h8,h3,hx,q⟩:=h;have DW:Ax 2 _:=hr.mono ();have BZ:Ax 1 _:=hr.mono ();refine ⟨_,(Af (Aq (i:=7) Fi.nd rfl (.inl rfl) (Bd cM DW rfl (Aa (Ag 0) (Aa (Ay B9 (Ag 1) Aj) Ae))))
   (Af (Aq (i:=8) Fi.nd rfl (.inl rfl) (Az (Aa Ap Ae)))
   (Af (Aq (i:=9) Fi.nd rfl (.inl rfl) (Az (Aa Ap (Aa (Az (Aa Ap (Aa Aj Ae))) Ae))))
   (Af (BE (AE Bb (Ay AU (Ag 7) Aj) Aj (Aw _)) (Af (Aq (i:=8) Fi.nd rfl (.inl rfl) (Az (Aa Ap (Aa Ap (Aa (Az (Aa Ap (Aa Ap Ae))) Ae)))))
   (Ak (Aq (i:=9) Fi.nd rfl (.inl rfl) (Az (Aa Ap (Aa (Az (Aa Ap (Aa Aj Ae))) (Aa (Az (Aa Ap (Aa Aj Ae))) Ae))))))) (Ak (BE (AE Bb (Ay AU (Ag 7) Aj) Aj (Aw _)) (Af (Aq (i:=8) Fi.nd rfl (.inl rfl) (Az (Aa Ap (Aa Ap (Aa (Az (Aa Ap (Aa (Az (Aa Ap (Aa Ap Ae))) (Aa (Az (Aa Ap (Aa Ap Ae))) Ae)))) Ae)))))
   (Ak (Aq (i:=9) Fi.nd rfl (.inl rfl) (Az (Aa Ap (Aa (Az (Aa Ap (Aa Aj Ae))) (Aa (Az (Aa Ap (Aa (Az (Aa Ap (Aa Aj Ae))) (Aa (Az (Aa Ap (Aa Aj Ae))) Ae)))) Ae))))))) (Ak (BE (AE Bb (Ay AU (Ag 7) Aj) Aj (Aw _)) (Af (Aq (i:=8) Fi.nd rfl (.inl rfl) (Bd cD hr rfl (Aa (Ag 0) (Aa (Ay B9 (Ay BK Aj (Ag 1)) Aj) (Aa (Ag 6) (Aa (Ag 3) (Aa (Ag 4) Ae)))))))
   (Ak (Aq (i:=9) Fi.nd rfl (.inl rfl) (Ag 6)))) Bf)))))
   (Ak (AH (Az (Aa Ap (Aa (Ag 5) (Aa (Ag 8) (Aa (Bd cD hr rfl (Aa (Ag 0) (Aa (Ay B9 (Ay BK Aj (Ag 1)) Aj) (Aa (Ag 2) (Aa (Bd cV BZ rfl (Aa (Ag 3) (Aa (B0 (Aa (Az (Aa (Ag 5) (Aa (Ag 9) Ae))) Ae)) Ae))) (Aa (Ag 4) Ae)))))) Ae))))))))))),?_⟩
  apply ⟨a,ns,_,rfl,P.hs,λm hm=>?_⟩;left;intros p1 H1 s1 e1;left;intros p2 H2 s2 e2;left;intros p3 H3 s3 e3;left;have Pz:=s1.trans (s2.trans s3);refine OX (fun σ' H'=>∃ e1 r1 wk rw,σ'=[some (.ref a),some (.int k),some rg,some (.ref l),some (.int d),some (.str x),some rk,some (.int m),some r1,some rw]/\Ai H3 H'/\BD H' e1 r1/\e1.cl (M0 xs)/\e1.sz<=C d 7+4/\B3 H' wk rw/\dp wk<=8/\(∀ m',HK (Yy xs) e1 (fill m' wk))/\∃ m',sz (fill m' wk)<=7) ?_ λfin=>?_
  ·rintro σ' H' ⟨e1,r1,wk,rw,rfl,s4,a1,c1,z1,kw,dw,ty1,mz,hz7⟩;have iK:=Pz.trans s4;left;intros p4 H5 s5 e5;left;intros p5 H6 s6 e6;left;have mX:=s5.trans s6;have nm1:Iv H6 p5 [(x,wk)]:=⟨_,e6,.cons ⟨p4,rw,rfl,s6 _ _ e5,B3.mono (TSub.of_same mX) kw⟩ .nil⟩;refine ⟨l,p5,xs,[(x,wk)],rfl,P.hl.mono (iK.trans mX),nm1,by simp;omega,λl2 H7 s7 D9=>?_⟩;left;have P7:=P.mono (iK.trans (mX.trans s7));refine BH (P7.with P7.hg P.gd D9 λy hy=>?_) rfl () () () h3 ?_ λe2 r2 H8 s8 a2 o2=>?_
   ·rcases F2 hy with hy | hy
    ·rw [al.mp hy];exact dw
    ·exact P.hx y hy
   ·have:=FX xs [(x,wk)];simp at this;omega
   left;intros p6 H9 s9 e9;refine q (.lt x e1 e2) _ _ (iK.trans (mX.trans (s7.trans (s8.trans s9)))) ⟨p6,r1,r2,rfl,e9,BD.mono (TSub.of_same (mX.trans (s7.trans (s8.trans s9)))) a1,BD.mono (TSub.of_same s9) a2⟩ ⟨⟨c1,?_⟩,?_,.lt _ hz7 (ty1 mz) (λt ⟨m',z⟩=>z▸ty1 m') (o2.ty.mono Me)⟩
   ·exact F' o2.cl (λm hm=>by rw [al.mp hm];exact .head _) (λz hz=>.tail _ hz)
   ·exact d9 z1 o2.sz
  ·refine LG ?_;apply EA (λ_=>?_) λ_=>?_
   ·left;intros p4 H4 s4 e4;left;intros p5 H5 s5 e5;left;intros p6 H6 s6 e6;left;intros p7 H7 s7 e7;left;intros p8 H8 s8 e8;exact fin _ _ ⟨.fn "y" (.nm "y"),.ref p5,.fn (.gap 0) (.gap 0),.ref p8,rfl,s4.trans (s5.trans (s6.trans (s7.trans s8))),⟨p5,.ref p4,rfl,s8 _ _ (s7 _ _ (s6 _ _ e5)),p4,rfl,s8 _ _ (s7 _ _ (s6 _ _ (s5 _ _ e4)))⟩,Db,by simp [Ex.sz],⟨p8,.ref p6,.ref p7,rfl,e8,⟨p6,rfl,s8 _ _ (s7 _ _ e6)⟩,⟨p7,rfl,s8 _ _ e7⟩⟩,by simp [dp],(λm'=>.fn (.nm (by simp [Gm.put]))),λ_=>some .num,⟨⟩⟩
   apply EA (λ_=>?_) λ_=>?_
   ·left;intros p4 H4 s4 e4;left;intros p5 H5 s5 e5;left;intros p6 H6 s6 e6;left;intros p7 H7 s7 e7;left;intros p8 H8 s8 e8;left;intros p9 H9 s9 e9;left;intros p10 R7 Fj R8;left;intros p11 Rt F8 Mb;left;intros p12 rF Kv YT;have t7:=s8.trans (s9.trans (Fj.trans (F8.trans Kv)));exact fin _ _ ⟨.fn "y" (.pr (.nm "y") (.nm "y")),.ref p7,.fn (.gap 0) (.pr (.gap 0) (.gap 0)),.ref p12,rfl,s4.trans (s5.trans (s6.trans (s7.trans t7))),⟨p7,.ref p6,rfl,t7 _ _ e7,p6,.ref p4,.ref p5,rfl,t7 _ _ (s7 _ _ e6),⟨p4,rfl,t7 _ _ (s7 _ _ (s6 _ _ (s5 _ _ e4)))⟩,⟨p5,rfl,t7 _ _ (s7 _ _ (s6 _ _ e5))⟩⟩,⟨Db,Db⟩,by simp [Ex.sz],⟨p12,.ref p8,.ref p11,rfl,YT,⟨p8,rfl,Kv _ _ (F8 _ _ (Fj _ _ (s9 _ _ e8)))⟩,p11,.ref p9,.ref p10,rfl,Kv _ _ Mb,⟨p9,rfl,Kv _ _ (F8 _ _ (Fj _ _ e9))⟩,⟨p10,rfl,Kv _ _ (F8 _ _ R8)⟩⟩,by simp [dp],(λm'=>.fn (.pr (.nm (by simp [Gm.put])) (.nm (by simp [Gm.put])))),λ_=>some .num,⟨⟩⟩
   left;have hk3:=B3.mono (TSub.of_same Pz) hk;refine EA (λ_=>?_) λ_=>?_
   ·left;have P3:=P.mono Pz;refine BH (P3.with hk3 gk P3.hl P.hx) rfl () () () h3 () λe1 r1 H4 s4 a1 o1=>?_;have hp:=wj dk;refine T2 (T1 (v:=rk) rfl ?_);exact fin _ _ ⟨e1,r1,kd,rk,rfl,s4,a1,o1.cl,ce o1.sz (ce (CZ d hp.2) ()),B3.mono (TSub.of_same s4) hk3,(),(λm'=>by rw [Ce m' gk];exact o1.ty),λ_=>none,by rw [Ce _ gk];exact sz7 dk⟩
   ·exact fin _ _ ⟨.emp,.ref p1,.ls (.gap 0),.ref p3,rfl,Ai.refl _,⟨p1,rfl,s3 _ _ (s2 _ _ e1)⟩,trivial,by simp [Ex.sz],⟨p3,.ref p2,rfl,e3,p2,rfl,s3 _ _ e2⟩,by simp [dp],(λm'=>.emp _),λ_=>some .num,⟨⟩⟩
theorem C5:Am ["_law_script","_law_k","_law_goal","_law_names","_law_deep","_law_number","_law_a","_law_b","_law_kind","_law_one","_law_other","_law_second","_law_word","_law_given","_law_last"] J1 (Ah Dm):=nofun
theorem UA (F:C7 K "_law_taken" "_law_taken" Dm f fd)(PD:mg "int"=none)(cZ:11<=r)(cM:Cl Pr w K mg base 2 "_law_mix" KL (Ff K))(cN:Cl Pr w K mg base 1 "_law_name" ["_law_number"] Iq)(cV:Cl Pr w K mg base 1 "_law_with" ["_law_names","_law_more"] Gx)(cG:Cl Pr w K mg base 5 "_law_ground" ["_law_script","_law_k","_law_deep"] (D8 K 2))(cD:Cl Pr w K mg base r "_law_made" J1 (Dp K n))(cL:Cl Pr w K mg base (r+1) "_law_let" ["_law_script","_law_k","_law_goal","_law_names","_law_deep","_law_a","_law_kind"] (YU K n)) :
  Au Pr w K mg base AN (r+2) f fd J1 (Pw K n):=by
 refine F.okS C5 (λBe A outer s H vs Q E hr h=>?_)
 ·obtain ⟨a,ns,k,g,rg,l,xs,d,rfl,P,d7,h8,h3,hx,q⟩:=h;have DW:Ax 2 _:=hr.mono ();have BZ:Ax 1 _:=hr.mono ();have rG:Ax 5 _:=hr.mono ();have YV:Ax r _:=hr.mono ();refine ⟨_,(Af (Aq (i:=5) C5.nd rfl (.inl rfl) (Bd cM DW rfl (Aa (Ag 0) (Aa (Ay B9 (Ag 1) Aj) Ae))))
   (Af (Aq (i:=6) C5.nd rfl (.inl rfl) (Bd cN BZ rfl (Aa (Ay C4 (Ag 5) Aj) Ae)))
   (Af (Aq (i:=7) C5.nd rfl (.inl rfl) (Bd cN BZ rfl (Aa (Ay C4 (Ag 5) Aj) Ae)))
   (Af (Aq (i:=8) C5.nd rfl (.inl rfl) (Bd cG rG rfl (Aa (Ag 0) (Aa (Ay B9 (Ay BK Aj (Ag 1)) Aj) (Aa (Ay B9 Aj (Ay AU (Ay C4 (Ag 5) Aj) Aj)) Ae)))))
   (Af (BE (Nh (w_and (AE (r:=ZH K false) J8 (Ay AU (Ag 5) Aj) (Az (Aa Aj (Aa Aj Ae))) rfl) (DI (AE Bb (Ay AU (Ay C4 (Ag 5) Aj) Aj) Aj (Aw _))))) (Ak (Aq (i:=8) C5.nd rfl (.inl rfl) (Ag 2))) Bf)
   (Af (BE (AE Oj (Ay AU (Ag 5) Aj) Aj (Aw _)) (Ak (AH (Bd cL hr rfl (Aa (Ag 0) (Aa (Ag 1) (Aa (Ag 2) (Aa (Ag 3) (Aa (Ag 4) (Aa (Ag 6) (Aa (Ag 8) Ae)))))))))) Bf)
   (Af (BE (AE Bb (Ay AU (Ag 5) Aj) Aj (Aw _)) (Af (Aq (i:=9) C5.nd rfl (.inl rfl) (Bd cD YV rfl (Aa (Ag 0) (Aa (Ay B9 (Ay BK Aj (Ag 1)) Aj) (Aa (Az (Aa Ap Ae)) (Aa (Ag 3) (Aa (Ag 4) Ae)))))))
   (Af (Aq (i:=10) C5.nd rfl (.inl rfl) (Bd cD YV rfl (Aa (Ag 0) (Aa (Ay B9 (Ay BK Aj (Ag 1)) Aj) (Aa (Ag 2) (Aa (Ag 3) (Aa (Ag 4) Ae)))))))
   (Ak (AH (Az (Aa Ap (Aa (Ag 9) (Aa (Ag 10) (Aa (Bd cD YV rfl (Aa (Ag 0) (Aa (Ay B9 (Ay BK Aj (Ag 1)) Aj) (Aa (Ag 2) (Aa (Ag 3) (Aa (Ag 4) Ae)))))) Ae))))))))) Bf)
   (Af (BE (AE Oj (Ay AU (Ag 5) Aj) Aj (Aw _)) (Af (Aq (i:=9) C5.nd rfl (.inl rfl) (Bd cD YV rfl (Aa (Ag 0) (Aa (Ay B9 (Ay BK Aj (Ag 1)) Aj) (Aa (Az (Aa Ap (Aa (Ag 8) (Aa (Ag 2) Ae)))) (Aa (Ag 3) (Aa (Ag 4) Ae)))))))
   (Ak (AH (Az (Aa Ap (Aa (Ag 9) (Aa (Bd cD YV rfl (Aa (Ag 0) (Aa (Ay B9 (Ay BK Aj (Ag 1)) Aj) (Aa (Ag 8) (Aa (Ag 3) (Aa (Ag 4) Ae)))))) Ae))))))) Bf)
   (Af (Aq (i:=11) C5.nd rfl (.inl rfl) (Bd cG rG rfl (Aa (Ag 0) (Aa (Ay B9 (Ay BK Aj (Ag 1)) Aj) (Aa Aj Ae)))))
   (Af (Aq (i:=12) C5.nd rfl (.inl rfl) (BN (r:=Du K) AA (B0 (Aa Ap (Aa Ap Ae))) (Ay Ep (Ay AU (Ag 5) Aj) Aj) D0))
   (Af (Aq (i:=9) C5.nd rfl (.inl rfl) (Bd cD YV rfl (Aa (Ag 0) (Aa (Ay B9 (Ay BK Aj (Ag 1)) Aj) (Aa (Qj (AE Bb (Ag 12) Ap (Aw _)) (Az (Aa Ap (Aa (Ag 8) (Aa (Ag 11) Ae)))) (Az (Aa Ap (Aa (Ag 8) Ae)))) (Aa (Ag 3) (Aa (Ag 4) Ae)))))))
   (Af (Aq (i:=13) C5.nd rfl (.inl rfl) (FK (r:=ZF K) Vt (B0 (Aa (Az (Aa (Ag 6) (Aa (Ag 8) Ae))) (Aa (Az (Aa (Ag 7) (Aa (Qj (AE Bb (Ag 12) Ap (Aw _)) (Ag 11) (Az (Aa Ap (Aa (Ag 8) Ae)))) Ae))) Ae))) (HL (CD P' (by rfl) PD PyProof.Rows.boot_int (Aa (HM Bb (Ag 6) (Ag 7) (Aw _)) Ae))) HJ))
   (Af (Aq (i:=14) C5.nd rfl (.inl rfl) (Bd cD YV rfl (Aa (Ag 0) (Aa (Ay B9 (Ay BK Aj (Ag 1)) Aj) (Aa (Ag 2) (Aa (Bd cV BZ rfl (Aa (Ag 3) (Aa (Ag 13) Ae))) (Aa (Ag 4) Ae)))))))
   (Af (BE (AE Bb (Ag 12) Ap (Aw _)) (Ak (AH (Az (Aa Ap (Aa (Ag 9) (Aa (Ag 6) (Aa (Ag 7) (Aa (Ag 14) Ae)))))))) Bf)
   (Ak (AH (Az (Aa Ap (Aa (Ag 9) (Aa (Bd cD YV rfl (Aa (Ag 0) (Aa (Ay B9 (Ay BK Aj (Ag 1)) Aj) (Aa (Ag 2) (Aa (Ag 3) (Aa (Ag 4) Ae)))))) (Aa (Ag 6) (Aa (Ag 7) (Aa (Ag 14) Ae))))))))))))))))))))))),?_⟩
  apply ⟨a,ns,_,rfl,P.hs,λm hm=>?_⟩;apply ⟨_,rfl,λx H1 s1=>?_⟩;apply ⟨_,rfl,λy H2 s2=>?_⟩;left;have IX:=s1.trans s2;have lo:=BC (m / 200) (b:=2) ⟨⟩;have hi:=xL (m / 200) (b:=2) ⟨⟩;refine ⟨a,ns,3 * k+7,(1+m / 200 % 2).toNat,?_,(),IX.seq P.hs,λkd0 rk0 H3 s3 hk0 gk0 wg=>?_⟩
  ·rw [Int.toNat_of_nonneg ()]
  have wu:dp kd0<=2:=by omega
  clear lo hi wg;have Pz:=IX.trans s3;have P3:=P.mono Pz;refine OX (fun σ' H'=>∃ kd rk,σ'=[some (.ref a),some (.int k),some rg,some (.ref l),some (.int d),some (.int m),some (.str x),some (.str y),some rk,none,none,none,none,none,none]/\Ai H3 H'/\B3 H' kd rk/\KR kd/\(dp kd<=2\/(kd=g/\2 < m % 7/\m % 7 < 5))) ?_ λfin=>?_
  rotate_left
  ·have iI:=hk0;refine LG ?_;left;intros pq Hq sq eq;apply T8 (.inr (BL.of eq)) rfl rfl ?_;refine ⟨_,rfl,?_⟩;have un:∀ {H4:Hp},Ai Hq H4->∃ kd rk,[some (V.ref a),some (.int k),some rg,some (.ref l),some (.int d),some (.int m),some (.str x),some (.str y),some rk0,none,none,none,none,none,none]=[some (V.ref a),some (.int k),some rg,some (.ref l),some (.int d),some (.int m),some (.str x),some (.str y),some rk,none,none,none,none,none,none]/\Ai H3 H4/\B3 H4 kd rk/\KR kd/\(dp kd<=2\/(kd=g/\2 < m % 7/\m % 7 < 5)):=λs4=>⟨kd0,rk0,rfl,sq.trans s4,B3.mono (TSub.of_same (sq.trans s4)) hk0,gk0,.inl wu⟩;cases hb:OI (V.int (m % 7)) [V.int 3,V.int 4] with
   | false=>exact Bx (Bx (fin _ _ (un (Ai.refl _))))
   | true =>
    refine CQ ?_;apply EA (λ_=>?_) λ_=>fin _ _ (un (Ai.refl _));refine T2 (T1 (v:=rg) rfl ?_);have hb:((3:Int)==m % 7 || ((4:Int)==m % 7 || false))=true:=hb;have h34:m % 7=3\/m % 7=4:=by
     simp only [Bool.or_eq_true,beq_iff_eq,Bool.or_false] at hb;omega
    exact fin _ _ ⟨g,rg,rfl,sq,B3.mono (TSub.of_same sq) P3.hg,P.gd,.inr ⟨rfl,(),()⟩⟩
  rintro σ' H3' ⟨kd,rk,rfl,s3',hk,gk,mY⟩;have Pz:=Pz.trans s3';have P3:=P3.mono s3';have dpk:dp kd<=max 2 (dp g):=by rcases mY with z | ⟨rfl,_⟩ <;> omega
  apply EA (λw0=>?_) λw1=>?_
  ·have wx:dp kd<=2:=mY.elim id λz=>(by have:=of_decide_eq_true w0;omega);left;exact ⟨a,ns,k,g,rg,l,xs,d,x,kd,rk,rfl,P3,hk,gk,wx,d7,h8,h3,hx,λe r H' s' ha ho=>q e r H' (Pz.trans s') ha ho⟩
  apply EA (λ_=>?_) λw2=>?_
  ·left;intros p1 H4 s4 e4;left;have P4:=P3.mono s4;refine BH (P4.with (g':=.tru) ⟨p1,rfl,e4⟩ trivial P4.hl P.hx) rfl (by simp only [dp];omega) () (by simp only [dp];omega) h3 () λe1 r1 H5 s5 a1 o1=>?_;left;have P5:=P4.mono s5;refine BH P5 rfl () () () h3 () λe2 r2 H6 s6 a2 o2=>?_;left;have P6:=P5.mono s6;refine BH P6 rfl () () () h3 () λe3 r3 H7 s7 a3 o3=>?_;left;intros p2 H8 s8 e8;have z1:=o1.sz;have z2:=o2.sz;have z3:=o3.sz;have c3:=CZ d (show sk .tru<=11 by simp [sk]);refine q (.wh e1 e2 e3) _ _ (Pz.trans (s4.trans (s5.trans (s6.trans (s7.trans s8))))) ⟨p2,r1,r2,r3,rfl,e8,BD.mono (TSub.of_same (s6.trans (s7.trans s8))) a1,BD.mono (TSub.of_same (s7.trans s8)) a2,BD.mono (TSub.of_same s8) a3⟩ ⟨⟨o1.cl,o2.cl,o3.cl⟩,?_,.wh o1.ty o2.ty o3.ty⟩
   ·exact Md (ce z1 c3) z2 z3
  apply EA (λ_=>?_) λw3=>?_
  ·left;intros p1 H4 s4 e4;left;have P4:=P3.mono s4;have rH:=B3.mono (TSub.of_same s4) hk;refine BH (P4.with (g':=.fn kd g) ⟨p1,rk,rg,rfl,e4,rH,P4.hg⟩ ⟨gk,P.gd⟩ P4.hl P.hx) rfl (by simp only [dp];omega) () (by simp only [dp];omega) h3 () λe1 r1 H5 s5 a1 o1=>?_;left;have P5:=P4.mono s5;refine BH (P5.with (B3.mono (TSub.of_same s5) rH) gk P5.hl P.hx) rfl () () () h3 () λe2 r2 H6 s6 a2 o2=>?_;left;intros p2 H8 s8 e8;have z1:=o1.sz;have z2:=o2.sz;refine q (.cal e1 e2) _ _ (Pz.trans (s4.trans (s5.trans (s6.trans s8)))) ⟨p2,r1,r2,rfl,e8,BD.mono (TSub.of_same (s6.trans s8)) a1,BD.mono (TSub.of_same s8) a2⟩ ⟨⟨o1.cl,o2.cl⟩,?_,.cal o1.ty o2.ty⟩
   ·refine dc z1 ?_;rcases mY with z | ⟨rfl,_⟩
    ·exact .inl (ce z2 (CZ d (by have:=(wj z).2;omega)))
    ·exact .inr z2
  apply ⟨a,ns,_,1,rfl,(),P3.hs,λsd rs H4 s4 RJ gs ds=>?_⟩;have ps:=pk1 ds;have P4:=P3.mono s4;have rH:=B3.mono (TSub.of_same s4) hk;left;intros pw H5 s5 e5;left;have ne:∀ j:Int,¬ decide (V.int (m % 7)=V.int j)=true->m % 7≠j:=λj h z=>h (decide_eq_true (by rw [z]));have w2':=ne _ w2;have w1':¬ m % 7 < 2:=λz=>w1 (decide_eq_true z);have w3':¬ m % 7 < 5:=λz=>w3 (decide_eq_true z);have lo7:=BC m (b:=7) ⟨⟩;have hi7:=xL m (b:=7) ⟨⟩;have wx:dp kd<=2:=mY.elim id λz=>absurd z.2.2 w3';have pk3:=wj wx;have P5:=P4.mono s5;have hk5:=B3.mono (TSub.of_same s5) rH;have sZ:=B3.mono (TSub.of_same s5) RJ;have s05:=Pz.trans (s4.trans s5);have two:∀ z∈(if x=y then [y] else [x,y]),z=y\/z=x:=by
   intro z hz;split at hz
   ·exact .inl (al.mp hz)
   ·simp only [gz,AD,or_false] at hz;exact hz.symm
  refine DF (AI.of e5) () (by simp;omega) λv hv=>?_;clear lo7 hi7 w1' w2' w3' w1 w2 w3 ne mY dpk;left;have Rm:v=.str "open"\/v=.str "split":=by simpa using hv
  rcases Rm with rfl | rfl
  ·apply Cm (decide_eq_true rfl) ?_;left;intros p1 H6 s6 e6;left;have P6:=P5.mono s6;have n8:=B3.mono (TSub.of_same s6) hk5;have hs6:=B3.mono (TSub.of_same s6) sZ;refine BH (P6.with (g':=.pr kd sd) ⟨p1,rk,rs,rfl,e6,n8,hs6⟩ ⟨gk,gs⟩ P6.hl P.hx) rfl (by simp only [dp];omega) () (by simp only [dp];omega) h3 () λe1 r1 H7 s7 a1 o1=>?_;left;intros q1 H8 s8 e8;apply Cm (decide_eq_true rfl) ?_;left;intros q2 H9 s9 e9;left;intros q3 R7 Fj R8;apply .inr ⟨_,rfl,?_⟩;left;have Mf:=s7.trans (s8.trans (s9.trans Fj));have Xd:=B3.mono (TSub.of_same Mf) n8;have wy:=B3.mono (TSub.of_same Mf) hs6;refine T9 (AI.of R8) λq4 Rt _ F8 Mb=>?_;left;have n9:=P6.mono (Mf.trans F8);have ent:∃ more:List (Str × Kd),Iv Rt q4 more/\more.length<=2/\(∀ z∈more,z.1=y\/z.1=x)/\(∀ z∈more,dp z.2<=8)/\((x=y/\more=[(y,sd)])\/(x≠y/\more=[(x,kd),(y,sd)])):=by
    have n1:Xa Rt (.ref q1) (x,kd):=⟨q1,rk,rfl,F8 _ _ (Fj _ _ (s9 _ _ e8)),B3.mono (TSub.of_same F8) Xd⟩;have n2:Xa Rt (.ref q2) (y,sd):=⟨q2,rs,rfl,F8 _ _ (Fj _ _ e9),B3.mono (TSub.of_same F8) wy⟩;by_cases Nq:x=y
    ·subst Nq;simp only [decide_true,↓reduceIte] at Mb;exact ⟨[(x,sd)],⟨_,Mb,.cons n2 .nil⟩,by simp,by simp,by simp;omega,.inl ⟨rfl,rfl⟩⟩
    ·have ed:decide (V.str x=V.str y)=false:=(by simp [Nq]);rw [ed] at Mb;exact ⟨[(x,kd),(y,sd)],⟨_,Mb,.cons n1 (.cons n2 .nil)⟩,by simp,by simp,by simp;omega,.inr ⟨Nq,rfl⟩⟩
   obtain ⟨more,wz,uQ,wB,m7,wC⟩:=ent;refine ⟨l,q4,xs,more,rfl,n9.hl,wz,(),λl2 rF Kv D9=>?_⟩;left;have iQ:=n9.mono Kv;refine BH (iQ.with iQ.hg P.gd D9 λz hz=>?_) rfl () () () h3 ?_ λe2 r2 wD JF a2 o2=>?_
   ·rcases F2 hz with hz | hz
    ·exact m7 z hz
    ·exact P.hx z hz
   ·have:=FX xs more;omega
   apply Cm (decide_eq_true rfl) ?_;left;intros p2 wF Kp df;have z1:=o1.sz;have z2:=o2.sz;have c3:=CZ d (show sk (.pr kd sd)<=11 by simp only [sk];omega);refine q (.opn e1 x y e2) _ _ (s05.trans (s6.trans (Mf.trans (F8.trans (Kv.trans (JF.trans Kp)))))) ⟨p2,r1,r2,rfl,df,BD.mono (TSub.of_same (s8.trans (s9.trans (Fj.trans (F8.trans (Kv.trans (JF.trans Kp))))))) a1,BD.mono (TSub.of_same Kp) a2⟩ ⟨⟨o1.cl,?_⟩,?_,.opn o1.ty (o2.ty.mono (Iz gk gs wC))⟩
   ·refine F' o2.cl (λm hm=>?_) (λz hz=>.tail _ (.tail _ hz));rcases wB m hm with h | h
    ·rw [h];exact .head _
    ·rw [h];exact .tail _ (.head _)
   ·exact da (ce z1 c3) z2
  ·apply BY ⟨⟩ ?_;left;intros p1 H6 s6 e6;left;have P6:=P5.mono s6;have n8:=B3.mono (TSub.of_same s6) hk5;refine BH (P6.with (g':=.ls kd) ⟨p1,rk,rfl,e6,n8⟩ gk P6.hl P.hx) rfl (by simp only [dp];omega) () (by simp only [dp];omega) h3 () λe1 r1 H7 s7 a1 o1=>?_;left;intros q1 H8 s8 e8;apply BY ⟨⟩ ?_;left;intros q0 H9' wG sU;left;intros q2 H9 s9 e9;left;intros q3 R7 Fj R8;apply .inr ⟨_,rfl,?_⟩;left;have Mf:=s7.trans (s8.trans (wG.trans (s9.trans Fj)));have Xd:=B3.mono (TSub.of_same Mf) n8;refine T9 (AI.of R8) λq4 Rt _ F8 Mb=>?_;left;have n9:=P6.mono (Mf.trans F8);have ent:∃ more:List (Str × Kd),Iv Rt q4 more/\more.length<=2/\(∀ z∈more,z.1=y\/z.1=x)/\(∀ z∈more,dp z.2<=8)/\((x=y/\more=[(y,.ls kd)])\/(x≠y/\more=[(x,kd),(y,.ls kd)])):=by
    have n1:Xa Rt (.ref q1) (x,kd):=⟨q1,rk,rfl,F8 _ _ (Fj _ _ (s9 _ _ (wG _ _ e8))),B3.mono (TSub.of_same F8) Xd⟩;have n2:Xa Rt (.ref q2) (y,.ls kd):=⟨q2,.ref q0,rfl,F8 _ _ (Fj _ _ e9),q0,rk,rfl,F8 _ _ (Fj _ _ (s9 _ _ sU)),B3.mono (TSub.of_same F8) Xd⟩;by_cases Nq:x=y
    ·subst Nq;simp only [decide_true,↓reduceIte] at Mb;exact ⟨[(x,.ls kd)],⟨_,Mb,.cons n2 .nil⟩,by simp,by simp,by simp [dp];omega,.inl ⟨rfl,rfl⟩⟩
    ·have ed:decide (V.str x=V.str y)=false:=(by simp [Nq]);rw [ed] at Mb;exact ⟨[(x,kd),(y,.ls kd)],⟨_,Mb,.cons n1 (.cons n2 .nil)⟩,by simp,by simp,by simp [dp];omega,.inr ⟨Nq,rfl⟩⟩
   obtain ⟨more,wz,uQ,wB,m7,wC⟩:=ent;refine ⟨l,q4,xs,more,rfl,n9.hl,wz,(),λl2 rF Kv D9=>?_⟩;left;have iQ:=n9.mono Kv;refine BH (iQ.with iQ.hg P.gd D9 λz hz=>?_) rfl () () () h3 ?_ λe2 r2 wD JF a2 o2=>?_
   ·rcases F2 hz with hz | hz
    ·exact m7 z hz
    ·exact P.hx z hz
   ·have:=FX xs more;omega
   apply BY ⟨⟩ ?_;left;have P13:=iQ.mono JF;refine BH P13 rfl () () () h3 () λe3 r3 H15 wH a3 o3=>?_;left;intros p2 wF Kp df;have z1:=o1.sz;have z2:=o2.sz;have z3:=o3.sz;have c3:=CZ d (show sk (.ls kd)<=11 by simp only [sk];omega);refine q (.spl e1 e3 x y e2) _ _ (s05.trans (s6.trans (Mf.trans (F8.trans (Kv.trans (JF.trans (wH.trans Kp))))))) ⟨p2,r1,r3,r2,rfl,df,BD.mono (TSub.of_same (s8.trans (wG.trans (s9.trans (Fj.trans (F8.trans (Kv.trans (JF.trans (wH.trans Kp))))))))) a1,BD.mono (TSub.of_same Kp) a3,BD.mono (TSub.of_same (wH.trans Kp)) a2⟩ ⟨⟨o1.cl,o3.cl,?_⟩,?_,.spl o1.ty o3.ty (o2.ty.mono (Iz gk (show KR (.ls kd) from gk) wC))⟩
   ·refine F' o2.cl (λm hm=>?_) (λz hz=>.tail _ (.tail _ hz));rcases wB m hm with h | h
    ·rw [h];exact .head _
    ·rw [h];exact .tail _ (.head _)
   ·exact Md (ce z1 c3) z3 z2
noncomputable def PB (H1:Hp)(dh:List (Str × Kd))(d:Nat)(ka kb:Kd):Nat->List V->Hp->Prop
 | 0,ys,H'=>ys=[]/\Ai H1 H'
 | 1,ys,H'=>Ai H1 H'/\∃ e1 r1,ys=[r1]/\BD H' e1 r1/\QA dh ka (C d (sk ka)) e1
 | 2,ys,H'=>Ai H1 H'/\∃ e1 r1 e2 r2,ys=[r1,r2]/\BD H' e1 r1/\QA dh ka (C d (sk ka)) e1/\BD H' e2 r2/\QA dh kb (C d (sk kb)) e2
 | _,_,_=>False
theorem PB.same {H1:Hp}{dh:List (Str × Kd)}{d:Nat}{ka kb:Kd}:∀ {i:Nat} {ys:List V} {H':Hp},PB H1 dh d ka kb i ys H'->Ai H1 H'
 | 0,_,_,h=>h.2
 | 1,_,_,h=>h.1
 | 2,_,_,h=>h.1
 | _+3,_,_,h=>h.elim
theorem PB.len {H1:Hp}{dh:List (Str × Kd)}{d:Nat}{ka kb:Kd}:∀ {i:Nat} {ys:List V} {H':Hp},PB H1 dh d ka kb i ys H'->ys.length<=i
 | 0,_,_,h=>by rw [h.1];exact am _
 | 1,_,_,⟨_,e1,r1,h,_⟩=>by rw [h];exact am _
 | 2,_,_,⟨_,e1,r1,e2,r2,h,_⟩=>by rw [h];exact am _
 | _+3,_,_,h=>h.elim
structure BSt (K:W.Frag)(H:Hp)(a:Addr)(ns:List Int)(g:Kd)(rg:V)(l:Addr)(xs:List (Str × Kd))(d n:Nat)(wl kl w1 w2:Addr)(o1 o2:Str)(ka kb:Kd)(ra rb:V):Prop where
 P:Gy K H a ns g rg l xs
 hw:H wl=some (.dK [(.inr "number",.ref w1),(.inr "truth",.ref w2)])
 h1:H w1=some (.tup [.str "op",.str o1])
 h2:H w2=some (.tup [.str "op",.str o2])
 j1:Yx o1=.num
 j2:Yx o2=.tru
 hk:H kl=some (.lst [ra,rb])
 h3:B3 H ka ra
 h4:B3 H kb rb
 g1:KR ka
 g2:KR kb
 m1:max 3 (dp ka)+d<=8
 m2:max 3 (dp kb)+d<=8
 u1:mu d ka+1<=n
 u2:mu d kb+1<=n
 c:(g=.pr ka kb)\/(0 < d/\(g=.num\/g=.tru)/\ka=.num/\kb=.num)\/(0 < d/\g=.ls ka/\kb=g)
theorem rJ {K:W.Frag}(P:Gy K H a ns g rg l xs)(hu:mu d g+1<=n)(h8:max 3 (dp g)+d<=8)(h3:d<=3)(hx:xs.length+2 * n<=1002)(q:∀ e r H',Ai H H'->BD H' e r->QA xs g (C d (sk g)) e->Q r H'):Dp K n [.ref a,.int k,rg,.ref l,.int d] H Q E:=by
 cases n with
 | zero=>omega
 | succ n=>exact ⟨a,ns,k,g,rg,l,xs,d,rfl,P,(),h8,.inl h3,(),q⟩
theorem D4:Am ["_law_script","_law_k","_law_goal","_law_names","_law_deep","_law_number","_law_a","_law_b","_law_inner","_law_words","_law_kinds","_law_pieces"] J1 (Ah Cj):=nofun
theorem R9 (F:C7 K "_law_built" "_law_built" Cj f fd)(Ec:mg "list"=none)(F1:mg "tuple"=none)(F0:mg "range"=none)(cZ:11<=r)(cM:Cl Pr w K mg base 2 "_law_mix" KL (Ff K))(cN:Cl Pr w K mg base 1 "_law_name" ["_law_number"] Iq)(cV:Cl Pr w K mg base 1 "_law_with" ["_law_names","_law_more"] Gx)(cI:Cl Pr w K mg base 1 "_law_int" ["_law_number"] Pq)(cD:Cl Pr w K mg base r "_law_made" J1 (Dp K n)) :
  Au Pr w K mg base AN (r+1) f fd J1 (FZ K n):=by
 refine F.okS D4 (λBe A outer s H vs Q E hr h=>?_)
 ·obtain ⟨a,ns,k,g,rg,l,xs,d,rfl,P,GK,NN,h8,hPb,hx,q⟩:=h;have MA:d<=3:=by unfold Pb at hPb;omega
  have DW:Ax 2 _:=hr.mono ();have BZ:Ax 1 _:=hr.mono ();have hu:=DE hr;have S:B7 (Dt AN Pr w K mg base ["_law_script","_law_k","_law_goal","_law_names","_law_deep","_law_number","_law_a","_law_b","_law_inner","_law_words","_law_kinds","_law_pieces"] "_law_built" (Ah Cj) f Be A outer s H E).nox (BJ (valueOf (inDef Cj 10))) [("_law_script",s.heap.objs.size+1),("_law_names",s.heap.objs.size+3),("_law_kinds",s.heap.objs.size+5),("_law_k",s.heap.objs.size+2),("_law_deep",s.heap.objs.size+4)] ["_law_j"] ["_law_script","_law_names","_law_kinds","_law_k","_law_deep"] [0,3,10,1,4] :=
   ⟨rfl,by decide +kernel,rfl,by decide +kernel,rfl,rfl,rfl,rfl⟩
  have KO:(["_law_j","_law_script","_law_names","_law_kinds","_law_k","_law_deep"]:List Str).Nodup:=by decide +kernel
  refine ⟨_,(Af (Aq (i:=5) D4.nd rfl (.inl rfl) (Bd cM DW rfl (Aa (Ag 0) (Aa (Ay B9 (Ag 1) Aj) Ae))))
   (Af (Aq (i:=6) D4.nd rfl (.inl rfl) (Bd cN BZ rfl (Aa (Ay C4 (Ag 5) Aj) Ae)))
   (Af (Aq (i:=7) D4.nd rfl (.inl rfl) (Bd cN BZ rfl (Aa (Ay C4 (Ag 5) Aj) Ae)))
   (Af (BE (AE Bb (eI 2) Ap (Aw _)) (Af (Aq (i:=8) D4.nd rfl (.inl rfl) (Bd cV BZ rfl (Aa (Ag 3) (Aa (B0 (Aa (Az (Aa (Ag 6) (Aa (eI 2) Ae))) Ae)) Ae))))
   (Af (BE (Nh (w_and (AE K' (Ag 6) (Ag 7) (Aw _)) (DI (AE Bb (Ay AU (Ag 5) Aj) Aj (Aw _))))) (Af (Aq (i:=8) D4.nd rfl (.inl rfl) (Bd cV BZ rfl (Aa (Ag 3) (Aa (B0 (Aa (Az (Aa (Ag 7) (Aa (Ag 2) Ae))) (Aa (Az (Aa (Ag 6) (Aa (eI 2) Ae))) Ae))) Ae))))
   (Ak (AH (Az (Aa Ap (Aa (Ag 7) (Aa (Ag 6) (Aa (Bd cD hr rfl (Aa (Ag 0) (Aa (Ay B9 (Ay BK Aj (Ag 1)) Aj) (Aa (eI 2) (Aa (Ag 8) (Aa (Ag 4) Ae)))))) Ae)))))))) Bf)
   (Ak (AH (Az (Aa Ap (Aa (Ag 6) (Aa (Bd cD hr rfl (Aa (Ag 0) (Aa (Ay B9 (Ay BK Aj (Ag 1)) Aj) (Aa (eI 2) (Aa (Ag 8) (Aa (Ag 4) Ae)))))) Ae)))))))) Bf)
   (Af (BE (Nh (w_and (AE Bb (eI 2) Ap (Aw _)) (DI (Nh (w_or (AE Bb (Ag 4) Aj (Aw _)) (Lm (AE Bb (Ay AU (Ag 5) Aj) Aj (Aw _)))))))) (Ak (AH (Az (Aa Ap Ae)))) Bf)
   (Af (BE (Nh (w_and (AE Bb (eI 2) Ap (Aw _)) (DI (Nh (w_or (AE Bb (Ag 4) Aj (Aw _)) (Lm (AE Bb (Ay AU (Ag 5) Aj) Aj (Aw _)))))))) (Ak (AH (Az (Aa Ap (Aa (Bd cI BZ rfl (Aa (Ay C4 (Ag 5) Aj) Ae)) Ae))))) Bf)
   (Af (BE (Nh (w_and (AE Bb (eI 2) Ap (Aw _)) (DI (Nh (w_or (AE Bb (Ag 4) Aj (Aw _)) (Lm (AE Bb (Ay AU (Ag 5) Aj) Aj (Aw _)))))))) (Ak (AH (Az (Aa Ap (Aa (HM Bb (Ay AU (Ay C4 (Ag 5) Aj) Aj) Aj (Aw _)) Ae))))) Bf)
   (Af (Aq (i:=9) D4.nd rfl (.inl rfl) (ED (Ck Ap (Az (Aa Ap (Aa (BN (r:=Du K) AA (B0 (Aa Ap (Aa Ap Ae))) (Ay AU (Ay C4 (Ag 5) Aj) Aj) D0) Ae))) (Ck Ap (Az (Aa Ap (Aa (BN (r:=Du K) AA (B0 (Aa Ap (Aa Ap Ae))) (Ay AU (Ay C4 (Ag 5) Aj) Aj) D0) Ae))) GH)) rfl rfl (by simp) ⟨⟩))
   (Af (Aq (i:=10) D4.nd rfl (.inr rfl) (Qj (AE Bb (eI 2) Ap (Aw _)) (B0 (Aa (eI 2) (Aa (Ag 2) Ae))) (CD JQ (by rfl) Ec PyProof.Rows.boot_list (Aa (FK (r:=ZE K) JN (Ag 2) (HL Aj) HJ) Ae))))
   (Af (BE (SK hu (eI 2) (Ag 9)) (Ak (Aq (i:=10) D4.nd rfl (.inr rfl) (B0 (Aa (Az (Aa Ap Ae)) (Aa (Az (Aa Ap Ae)) Ae))))) Bf)
   (Af (HR (i:=11) D4.nd rfl (.inl rfl) (tt:=HG) (te:=FF (Dp K n) [] E0 (Br (AS 1) (Br (G7 (RL λi j=>.int (i+j)) (G7 (RL λi j=>.int (i+j)) (G7 (rI Vj λi j=>.int (i * j)) (tC (.int 3)) (AS 4)) (tC (.int 1))) (AS 0)) (Br (G7 (Du K) (AS 3) (AS 0)) (Br (AS 2) (Br (AS 5) Di)))))) S rfl (Sr rfl F0 (Aa Aj Ae)) (λC s0 H0 ex=>B2 (i:=0) KO rfl (.inl rfl)) (λC s0 H0 ex=>Eh) (λC s0 H0 ex=>Bd cD hr rfl (Aa (Ag 1) (Aa (Ay B9 (Ay B9 (Ay BK Aj (Ag 4)) Aj) (Ag 0)) (Aa (BN AA (Ag 3) (Ag 0) D0) (Aa (Ag 2) (Aa (Ag 5) Ae)))))))
   (Ak (AH (Ay (r:=Ox K) Oy (EV hu (Ag 9) (eI 2) (Az (Aa (EV hu (ED (Ck Ap Ap GH) rfl rfl (by simp) ⟨⟩) (eI 2) Ap ⟨rfl,rfl,rfl,rfl⟩) Ae)) ⟨rfl,rfl,rfl,rfl⟩) (CD D1 (by rfl) F1 Q4 (Aa (Ag 11) Ae)))))))))))))))),?_⟩
  refine QZ (fun σ' H'=>∃ (m:Int) (x y:V) (o:Option V) (wl kl w1 w2:Addr) (o1 o2:Str) (ka kb:Kd) (ra rb:V),σ'=[some (.ref a),some (.int k),some rg,some (.ref l),some (.int d),some (.int m),some x,some y,o,some (.ref wl),some (.ref kl),none]/\Ai H H'/\BSt K H' a ns g rg l xs d n wl kl w1 w2 o1 o2 ka kb ra rb) ?_ λN10 fin=>?_
  ·rintro σ' H1 ⟨m,x,y,o,wl,kl,w1,w2,o1,o2,ka,kb,ra,rb,rfl,qS,T⟩;apply ⟨2,rfl,⟨⟩,⟨⟩,?_⟩;refine T6 (n:=2) (PB H1 xs d ka kb) ⟨rfl,Ai.refl _⟩ (by exact Ei ⟨⟩) (λi ys H' z=>z.len) rfl (λi ys H2 hi z=>?_) (λys H2 z=>?_)
   ·have s2:=z.same;have P2:=T.P.mono s2;have c7:=s2 _ _ T.hk;have t2:=TSub.of_same s2;apply CQ ?_;left;cases i with
    | zero =>
     refine T3 (AI.of c7) (v:=ra) rfl ?_;apply rJ (P2.with (B3.mono t2 T.h3) T.g1 P2.hl P2.hx) T.u1 T.m1 MA () λe r H3 s3 ha ho=>?_;refine Nx.mk ⟨⟩ ⟨s2.trans s3,e,r,by rw [z.1];rfl,ha,ho⟩
    | succ i=>cases i with
     | zero =>
      obtain ⟨_,e1,r1,rfl,z2,z3⟩:=z;refine T3 (AI.of c7) (v:=rb) rfl ?_;apply rJ (P2.with (B3.mono t2 T.h4) T.g2 P2.hl P2.hx) T.u2 T.m2 MA () λe r H3 s3 ha ho=>?_;refine Nx.mk ⟨⟩ ⟨s2.trans s3,e1,r1,e,r,rfl,BD.mono (TSub.of_same s3) z2,z3,ha,ho⟩
     | succ i=>omega
   ·obtain ⟨Kv,e1,r1,e2,r2,rfl,a1,k1,a2,k2⟩:=z;intros pl H3 s3 e3;left;have JF:=Kv.trans s3;have Ww:=JF _ _ T.hw;have z1:=k1.sz;have z2:=k2.sz;refine ⟨wl,rfl,.inl ⟨_,.inl Ww⟩,?_⟩;have pkb:C d (sk ka)<=C d (sk g)/\C d (sk kb)<=C d (sk g):=by
     rcases T.c with h | ⟨_,h | h,h1,h2⟩ | ⟨_,h,h1⟩
     ·subst h;exact ⟨CZ d (by simp only [sk];omega),CZ d (by simp only [sk];omega)⟩
     ·subst h h1 h2;exact ⟨am _,am _⟩
     ·subst h h1 h2;exact ⟨am _,am _⟩
     ·subst h1 h;exact ⟨CZ d (by simp only [sk];omega),am _⟩
    have rK:(0 < d\/g=.pr ka kb)->∀ e:Ex,e.sz<=1+e1.sz+e2.sz->e.sz<=Cb d (sk g):=by
     intro hd e h2;cases d with
     | zero =>
      rcases hd with hd | hd
      ·omega
      ·subst hd;simp only [C] at z1 z2;simp only [Cb,sk];omega
     | succ d=>simp only [Cb];omega
    have Rv:0 < d\/g=.pr ka kb:=by
     rcases T.c with h | ⟨h,_⟩ | ⟨h,_⟩
     ·exact .inr h
     ·exact .inl h
     ·exact .inl h
    have last:∀ (H4:Hp) (pw:Addr) (ws:List V) (e:Ex),Ai H3 H4->H4 pw=some (.tup ws)->ws≠[]->ws.length<=2->(∀ H5 p,Ai H4 H5->H5 p=some (.tup (ws++[r1,r2]))->BD H5 e (.ref p))->QA xs g (Cb d (sk g)) e ->
      ZA (λxs H Q=>∃ p ys,xs=[.ref p]/\((AI K H p ys/\∀ l,H l=none->Q (.ref l) (upd H l (.tup ys)))\/(BL K H p ys/\Q (.ref p) H))) (Br (AS 11) Di) [some (.ref a),some (.int k),some rg,some (.ref l),some (.int d),some (.int m),some x,some y,o,some (.ref wl),some (.ref kl),some (.ref pl)] H4 λy' H5=>Ox K (.ref pw) y' H5 Q:=by
     intro H4 pw ws e s4 hw DT CO he hok;apply ⟨pl,_,rfl,.inl ⟨AI.of (s4 _ _ e3),λp hp=>?_⟩⟩;have s5:Ai H4 (upd H4 p (.tup [r1,r2])):=Ai.new hp;refine Wb (BL.of (s5 _ _ hw)) (BL.of Ad) DT (DU (by simp;omega)) (λz=>by cases z) λp6 H6 _ s6 e6=>?_;exact q e _ H6 (qS.trans (JF.trans (s4.trans (s5.trans s6)))) (he H6 p6 (s5.trans s6) e6) hok
    have mE:∀ {H5:Hp},Ai H3 H5->BD H5 e1 r1/\BD H5 e2 r2:=λh=>⟨BD.mono (TSub.of_same (s3.trans h)) a1,BD.mono (TSub.of_same (s3.trans h)) a2⟩;have cs:∃ (pg:Addr) (wd:Str) (us:List V) (z1:V) (o2:Option Addr) (ws:List V) (e:Ex),rg=.ref pg/\H3 pg=some (.tup (.str wd::us))/\(Bw [(.inr "pair",V.str "pair")] (Sum.inr wd:Key)).getD (.str "link")=z1/\Bw [(.inr "number",V.ref w1),(.inr "truth",V.ref w2)] (Sum.inr wd:Key)=o2.map V.ref /\
      (o2=none->ws=[z1])/\(∀ p,o2=some p->H3 p=some (.tup ws))/\ws≠[]/\ws.length<=2/\(∀ H5 p,Ai H3 H5->H5 p=some (.tup (ws++[r1,r2]))->BD H5 e (.ref p))/\QA xs g (Cb d (sk g)) e:=by
     have hG:=B3.mono (TSub.of_same JF) T.P.hg;have b:=rK Rv;rcases T.c with h | ⟨_,h | h,h1,h2⟩ | ⟨_,h,h1⟩
     ·subst h;obtain ⟨pg,ga,gb,rfl,hg,_⟩:=hG;have b:=b (.pr e1 e2) (by simp only [Ex.sz];omega);exact ⟨pg,_,_,.str "pair",none,[.str "pair"],.pr e1 e2,rfl,hg,rfl,rfl,λ_=>rfl,λp z=>(by cases z),by simp,by simp,λH5 p s5 h5=>⟨p,r1,r2,rfl,h5,mE s5⟩,⟨⟨k1.cl,k2.cl⟩,b,.pr k1.ty k2.ty⟩⟩
     ·subst h;obtain ⟨pg,rfl,hg⟩:=hG;have b:=b (.op o1 e1 e2) (by simp only [Ex.sz];omega);exact ⟨pg,_,_,.str "link",some w1,[.str "op",.str o1],.op o1 e1 e2,rfl,hg,rfl,rfl,λz=>(by cases z),λp z=>(by cases z;exact JF _ _ T.h1),by simp,by simp,λH5 p s5 h5=>⟨p,r1,r2,rfl,h5,mE s5⟩,⟨⟨k1.cl,k2.cl⟩,b,.op T.j1.symm (h1▸k1.ty) (h2▸k2.ty)⟩⟩
     ·subst h;obtain ⟨pg,rfl,hg⟩:=hG;have b:=b (.op o2 e1 e2) (by simp only [Ex.sz];omega);exact ⟨pg,_,_,.str "link",some w2,[.str "op",.str o2],.op o2 e1 e2,rfl,hg,rfl,rfl,λz=>(by cases z),λp z=>(by cases z;exact JF _ _ T.h2),by simp,by simp,λH5 p s5 h5=>⟨p,r1,r2,rfl,h5,mE s5⟩,⟨⟨k1.cl,k2.cl⟩,b,.op T.j2.symm (h1▸k1.ty) (h2▸k2.ty)⟩⟩
     ·subst h;obtain ⟨pg,ga,rfl,hg,_⟩:=hG;have b:=b (.lk e1 e2) (by simp only [Ex.sz];omega);exact ⟨pg,_,_,.str "link",none,[.str "link"],.lk e1 e2,rfl,hg,rfl,rfl,λ_=>rfl,λp z=>(by cases z),by simp,by simp,λH5 p s5 h5=>⟨p,r1,r2,rfl,h5,mE s5⟩,⟨⟨k1.cl,k2.cl⟩,b,.lk k1.ty (h1▸k2.ty)⟩⟩
    obtain ⟨pg,wd,us,z1,o2',ws,e,rfl,hg,hz,ho,bw,rE,DT,CO,hat,hok⟩:=cs;apply An hg (v:=.str wd) (Ao (j:=0) rfl) ?_;apply Eb λp4 H4 kQ s4 e4=>?_;apply ⟨e4,[(.inr "pair",.str "pair")],rfl,⟨⟩,λH5 o5 e5=>?_⟩;have s35:Ai H3 H5:=λb o hb=>by
     have wI:b≠p4:=λz=>(by rw [z,kQ] at hb;cases hb);rw [o5 b wI];exact s4 _ _ hb
    refine ⟨p4,rfl,.inl ⟨_,.inl e5⟩,?_⟩;apply An (s35 _ _ hg) (v:=.str wd) (Ao (j:=0) rfl) ?_;apply ⟨_,Cr.k (k:=.inr wd) e5,?_⟩;have gZ:(Bw (CC [] [(Sum.inr "pair",V.str "pair")]) (Sum.inr wd:Key)).getD (.str "link")=z1:=hz;left;rw [gZ];intros p6 H6 s6 e6;have iR:=s35.trans s6;refine ⟨_,Cr.k (k:=.inr wd) (iR _ _ Ww),?_⟩;rw [ho];cases o2' with
    | none=>exact last H6 p6 ws e iR (by rw [bw rfl];exact e6) DT CO (λH5 p s5 h5=>hat H5 p (iR.trans s5) h5) hok
    | some p7=>exact last H6 p7 ws e iR (iR _ _ (rE p7 rfl)) DT CO (λH5 p s5 h5=>hat H5 p (iR.trans s5) h5) hok
  ·apply ⟨a,ns,_,rfl,P.hs,λm hm=>?_⟩;apply ⟨_,rfl,λx H1 s1=>?_⟩;apply ⟨_,rfl,λy H2 s2=>?_⟩;have IX:=s1.trans s2;have P2:=P.mono IX;obtain ⟨pg,us,rfl,hg,_⟩:=B3.look P2.hg;have rest:(∃ g1 g2,g=.fn g1 g2)\/word g="number"\/word g="truth"\/word g="pair"\/word g="list":=by
    have:=P.gd;cases g with
    | num=>exact .inr (.inl rfl)
    | tru=>exact .inr (.inr (.inl rfl))
    | gap i=>exact this.elim
    | fn a b=>exact .inl ⟨a,b,rfl⟩
    | pr a b=>exact .inr (.inr (.inr (.inl rfl)))
    | ls a=>exact .inr (.inr (.inr (.inr rfl)))
   refine OY (fun σ' H'=>(word g="number"\/word g="truth"\/word g="pair"\/word g="list")/\σ'=[some (.ref a),some (.int k),some (.ref pg),some (.ref l),some (.int d),some (.int m),some (.str x),some (.str y),none,none,none,none]/\H'=H2) ?_ λN0 wJ=>?_
   ·rintro _ _ ⟨rest,rfl,rfl⟩;refine Uq (fun σ' H'=>σ'=[some (.ref a),some (.int k),some (.ref pg),some (.ref l),some (.int d),some (.int m),some (.str x),some (.str y),none,none,none,none]/\Ai H H'/\(d=0->∃ a b,g=.pr a b)) ?_ λN3 fin2=>?_
    ·rintro σ' H3 ⟨rfl,Pz,hd⟩;apply Eb λp4 H4 kQ s4 e4=>?_;left;intros l1 H5 s5 e5;apply DF (AI.of e5) (BC _ ⟨⟩) (xL _ ⟨⟩) λv1 qT=>?_;left;intros w1 H6 s6 e6;left;intros l2 H7 s7 e7;apply DF (AI.of e7) (BC _ ⟨⟩) (xL _ ⟨⟩) λv2 hv2=>?_;left;intros w2 H8 s8 e8;left;have rL:=s5.trans (s6.trans (s7.trans s8));refine ⟨rL _ _ e4,[(.inr "number",.ref w1),(.inr "truth",.ref w2)],rfl,no rfl,λH9 o9 e9=>?_⟩;have s39:Ai H3 H9:=λb o hb=>by
      have wI:b≠p4:=λz=>(by rw [z,kQ] at hb;cases hb);rw [o9 b wI];exact rL _ _ (s4 _ _ hb)
     have ow:∀ b o,H8 b=some o->b≠p4->H9 b=some o:=λb o hb DT=>(by rw [o9 b DT];exact hb);have rM:H9 w1=some (.tup [.str "op",v1]):=ow _ _ (s8 _ _ (s7 _ _ e6)) (λz=>by have h1:=s8 _ _ (s7 _ _ e6);have h2:=rL _ _ e4;rw [z,h2] at h1;cases h1);have Fx:H9 w2=some (.tup [.str "op",v2]):=ow _ _ e8 (λz=>by have h1:=e8;have h2:=rL _ _ e4;rw [z,h2] at h1;cases h1);obtain ⟨o1,rfl,rN⟩:∃ o1,v1=.str o1/\Yx o1=.num:=by
      simp only [gz,AD,or_false] at qT;rcases qT with rfl | rfl
      ·exact ⟨_,rfl,⟨⟩⟩
      ·exact ⟨_,rfl,⟨⟩⟩
     obtain ⟨o2,rfl,rO⟩:∃ o2,v2=.str o2/\Yx o2=.tru:=by
      simp only [gz,AD,or_false] at hv2;rcases hv2 with rfl | rfl
      ·exact ⟨_,rfl,⟨⟩⟩
      ·exact ⟨_,rfl,⟨⟩⟩
     left;have P9:=P.mono (Pz.trans s39);have rP:=Pz.trans s39;cases g with
     | gap i=>exact P.gd.elim
     | fn a b=>exact (by rcases rest with h | h | h | h <;> exact absurd (show (Str.ofString "fun")=_ from h) ⟨⟩)
     | ls ka =>
      obtain ⟨p0,ga,e0,IG,mJ⟩:=P9.hg;cases e0;refine An IG (v:=.str "list") rfl ?_;apply Cm (decide_eq_true rfl) ?_;apply An IG (v:=ga) rfl ?_;left;intros kl R7 Fj R8;apply An (Fj _ _ IG) (v:=.str "list") rfl ?_;apply ⟨p4,_,rfl,Cr.k (k:=.inr "list") (Fj _ _ e9),?_⟩;apply BY (by show ¬ (false=true);decide) ?_;have d0:0 < d:=Nat.pos_of_ne_zero λz=>(by obtain ⟨_,_,h⟩:=hd z;cases h);have h1:=NN d0;have dk:dp (Kd.ls ka)=dp ka+1:=rfl;refine fin _ _ ⟨m,.str x,.str y,none,p4,kl,w1,w2,o1,o2,ka,.ls ka,ga,.ref pg,rfl,rP.trans Fj,P9.mono Fj,Fj _ _ e9,Fj _ _ rM,Fj _ _ Fx,rN,rO,R8,B3.mono (TSub.of_same Fj) mJ,B3.mono (TSub.of_same Fj) P9.hg,P.gd,P.gd,(),(),?_,?_,.inr (.inr ⟨d0,rfl,rfl⟩)⟩
      ·cases d with
       | zero=>omega
       | succ d=>simp only [mu];omega
      ·cases d with
       | zero=>omega
       | succ d=>simp only [mu];omega
     | pr ka kb =>
      obtain ⟨p0,ga,gb,e0,IG,mJ,hgb⟩:=P9.hg;cases e0;refine An IG (v:=.str "pair") rfl ?_;apply BY ⟨⟩ ?_;apply Nz (BL.of IG) (λz=>absurd (show (1:Nat)=0 from z.1) ⟨⟩) λp5 R7 _ Fj R8=>?_;apply ⟨p5,_,rfl,.inr (BL.of R8),λkl hl=>?_⟩;have F8:Ai R7 (upd R7 kl (.lst (Es [.str "pair",ga,gb] (some 1) none))):=Ai.new hl;have Mb:(upd R7 kl (.lst (Es [.str "pair",ga,gb] (some 1) none))) kl=some (.lst [ga,gb]):=Ad;generalize (upd R7 kl (.lst (Es [.str "pair",ga,gb] (some 1) none)))=Rt at F8 Mb ⊢;have ER:=Fj.trans F8;apply An (ER _ _ IG) (v:=.str "pair") rfl ?_;apply ⟨p4,_,rfl,Cr.k (k:=.inr "pair") (ER _ _ e9),?_⟩;apply BY (by show ¬ (false=true);decide) ?_;have dk:dp (Kd.pr ka kb)=max (dp ka) (dp kb)+1:=rfl;refine fin _ _ ⟨m,.str x,.str y,none,p4,kl,w1,w2,o1,o2,ka,kb,ga,gb,rfl,rP.trans ER,P9.mono ER,ER _ _ e9,ER _ _ rM,ER _ _ Fx,rN,rO,Mb,B3.mono (TSub.of_same ER) mJ,B3.mono (TSub.of_same ER) hgb,P.gd.1,P.gd.2,(),(),?_,?_,.inl rfl⟩
      ·cases d with
       | zero=>have:=GK rfl;simp only [mu];omega
       | succ d=>have:=NN (Nat.succ_pos _);simp only [mu];omega
      ·cases d with
       | zero=>have:=GK rfl;simp only [mu];omega
       | succ d=>have:=NN (Nat.succ_pos _);simp only [mu];omega
     | num =>
      obtain ⟨p0,e0,IG⟩:=P9.hg;cases e0;refine An IG (v:=.str "number") rfl ?_;apply BY ⟨⟩ ?_;apply Nz (BL.of IG) (λz=>absurd (show (1:Nat)=0 from z.1) ⟨⟩) λp5 R7 _ Fj R8=>?_;apply ⟨p5,_,rfl,.inr (BL.of R8),λkl hl=>?_⟩;have F8:=Ai.new (o:=.lst (Es [.str "number"] (some 1) none)) hl;generalize upd R7 kl (.lst (Es [.str "number"] (some 1) none))=Rt at F8 ⊢;have ER:=Fj.trans F8;apply An (ER _ _ IG) (v:=.str "number") rfl ?_;apply ⟨p4,_,rfl,Cr.k (k:=.inr "number") (ER _ _ e9),?_⟩;apply Cm rfl ?_;left;intros q1 rF Kv YT;left;intros q2 wD JF wK;left;intros q3 wF Kp df;have IA:=ER.trans (Kv.trans (JF.trans Kp));have d0:0 < d:=Nat.pos_of_ne_zero λz=>(by obtain ⟨_,_,h⟩:=hd z;cases h);have h1:=NN d0;have dk:dp Kd.num=0:=rfl;refine fin _ _ ⟨m,.str x,.str y,none,p4,q3,w1,w2,o1,o2,.num,.num,.ref q1,.ref q2,rfl,rP.trans IA,P9.mono IA,IA _ _ e9,IA _ _ rM,IA _ _ Fx,rN,rO,df,⟨q1,rfl,Kp _ _ (JF _ _ YT)⟩,⟨q2,rfl,Kp _ _ wK⟩,P.gd,P.gd,(),(),?_,?_,.inr (.inl ⟨d0,.inl rfl,rfl,rfl⟩)⟩
      ·cases d with
       | zero=>omega
       | succ d=>simp only [mu];omega
      ·cases d with
       | zero=>omega
       | succ d=>simp only [mu];omega
     | tru =>
      obtain ⟨p0,e0,IG⟩:=P9.hg;cases e0;refine An IG (v:=.str "truth") rfl ?_;apply BY ⟨⟩ ?_;apply Nz (BL.of IG) (λz=>absurd (show (1:Nat)=0 from z.1) ⟨⟩) λp5 R7 _ Fj R8=>?_;apply ⟨p5,_,rfl,.inr (BL.of R8),λkl hl=>?_⟩;have F8:=Ai.new (o:=.lst (Es [.str "truth"] (some 1) none)) hl;generalize upd R7 kl (.lst (Es [.str "truth"] (some 1) none))=Rt at F8 ⊢;have ER:=Fj.trans F8;apply An (ER _ _ IG) (v:=.str "truth") rfl ?_;apply ⟨p4,_,rfl,Cr.k (k:=.inr "truth") (ER _ _ e9),?_⟩;apply Cm rfl ?_;left;intros q1 rF Kv YT;left;intros q2 wD JF wK;left;intros q3 wF Kp df;have IA:=ER.trans (Kv.trans (JF.trans Kp));have d0:0 < d:=Nat.pos_of_ne_zero λz=>(by obtain ⟨_,_,h⟩:=hd z;cases h);have h1:=NN d0;have dk:dp Kd.num=0:=rfl;have dk':dp Kd.tru=0:=rfl;refine fin _ _ ⟨m,.str x,.str y,none,p4,q3,w1,w2,o1,o2,.num,.num,.ref q1,.ref q2,rfl,rP.trans IA,P9.mono IA,IA _ _ e9,IA _ _ rM,IA _ _ Fx,rN,rO,df,⟨q1,rfl,Kp _ _ (JF _ _ YT)⟩,⟨q2,rfl,Kp _ _ wK⟩,P.gd,P.gd,(),(),?_,?_,.inr (.inl ⟨d0,.inr rfl,rfl,rfl⟩)⟩
      ·cases d with
       | zero=>omega
       | succ d=>simp only [mu];omega
      ·cases d with
       | zero=>omega
       | succ d=>simp only [mu];omega
    ·apply An hg (v:=.str (word g)) (Ao (j:=0) rfl) ?_;left;have ne:∀ j:Int,¬ decide (V.int d=V.int j)=true->(d:Int)≠j:=λj h z=>h (decide_eq_true (by rw [z]));have Aey:word g="number"\/word g="truth"\/word g="pair"->∀ {A B:Prop},B->if decide (V.str (word g)=V.str "list")=true then A else B:=λh A B hB=>BY (by rcases h with h | h | h <;> rw [h] <;> decide) hB
     cases g with
     | gap i=>exact P.gd.elim
     | fn a b=>exact (by rcases rest with h | h | h | h <;> exact absurd (show (Str.ofString "fun")=_ from h) ⟨⟩)
     | ls ka =>
      refine Cm (decide_eq_true rfl) ?_;apply qj ?_ λh1 emp=>?_
      ·left;intros p3 H3 s3 e3;exact q .emp _ _ (IX.trans s3) ⟨p3,rfl,e3⟩ ⟨trivial,by cases d <;> simp only [Cb,Ex.sz,sk] <;> omega,.emp _⟩
      ·apply EA (λ_=>emp) λ_=>?_;apply An hg (v:=.str "list") (Ao (j:=0) rfl) ?_;apply BY ⟨⟩ (Bx ?_);apply An hg (v:=.str "list") (Ao (j:=0) rfl) ?_;apply BY ⟨⟩ (Bx ?_);exact fin2 _ _ ⟨rfl,IX,λz=>absurd (ne 0 h1) (by simp [z])⟩
     | pr ka kb =>
      refine BY (show ¬ decide (V.str "pair"=V.str "list")=true by decide) (Bx ?_);apply An hg (v:=.str "pair") (Ao (j:=0) rfl) ?_;apply BY ⟨⟩ (Bx ?_);apply An hg (v:=.str "pair") (Ao (j:=0) rfl) ?_;apply BY ⟨⟩ (Bx ?_);exact fin2 _ _ ⟨rfl,IX,λz=>⟨_,_,rfl⟩⟩
     | num =>
      refine BY ⟨⟩ (Bx ?_);apply An hg (v:=.str "number") (Ao (j:=0) rfl) ?_;apply Cm (decide_eq_true rfl) ?_;apply qj ?_ λh1 emp=>?_
      ·apply ⟨_,rfl,λi H3 s3=>?_⟩;left;intros p3 H4 s4 e4;exact q (.num i) _ _ (IX.trans (s3.trans s4)) ⟨p3,rfl,e4⟩ ⟨trivial,by cases d <;> simp only [Cb,Ex.sz,sk] <;> omega,.num _⟩
      ·apply EA (λ_=>emp) λ_=>?_;apply An hg (v:=.str "number") (Ao (j:=0) rfl) ?_;apply BY ⟨⟩ (Bx ?_);exact fin2 _ _ ⟨rfl,IX,λz=>absurd (ne 0 h1) (by simp [z])⟩
     | tru =>
      refine BY ⟨⟩ (Bx ?_);apply An hg (v:=.str "truth") (Ao (j:=0) rfl) ?_;apply BY ⟨⟩ (Bx ?_);apply An hg (v:=.str "truth") (Ao (j:=0) rfl) ?_;apply Cm (decide_eq_true rfl) ?_;apply qj ?_ λh1 emp=>?_
      ·left;intros p3 H4 s4 e4;exact q (.tru _) _ _ (IX.trans s4) ⟨p3,rfl,e4⟩ ⟨trivial,by cases d <;> simp only [Cb,Ex.sz,sk] <;> omega,.tru _⟩
      ·apply EA (λ_=>emp) λ_=>?_;exact fin2 _ _ ⟨rfl,IX,λz=>absurd (ne 0 h1) (by simp [z])⟩
   ·apply An hg (v:=.str (word g)) (Ao (j:=0) rfl) ?_;left;rcases rest with ⟨g1,g2,rfl⟩ | rest
    ·refine Cm (decide_eq_true rfl) ?_;obtain ⟨p0,r1,r2,e0,IG,iI,c7⟩:=P2.hg;cases e0;apply An IG (v:=r1) rfl ?_;left;intros q1 H3 s3 e3;left;intros q2 H4 s4 e4;left;have di:=s3.trans s4;have P4:=P2.mono di;have dk:dp (Kd.fn g1 g2)=max (dp g1) (dp g2)+1:=rfl;have cS:mu d g2+1<=n:=by
      cases d with
      | zero=>have:=GK rfl;simp only [mu];omega
      | succ d=>have:=NN (Nat.succ_pos _);simp only [mu];omega
     have rK:∀ (e0 e:Ex),e0.sz<=C d (sk g2)->e.sz=1+e0.sz->e.sz<=Cb d (sk (.fn g1 g2)):=by
      intro e0 e h2 h4;cases d with
      | zero=>simp only [C] at h2;simp only [Cb,sk];omega
      | succ d =>
       have:=CZ (d+1) (show sk g2<=1+sk g2 by omega);simp only [Cb,sk] at *;omega
     refine ⟨l,q2,xs,[(x,g1)],rfl,P4.hl,⟨_,e4,.cons ⟨q1,r1,rfl,s4 _ _ e3,B3.mono (TSub.of_same di) iI⟩ .nil⟩,by simp;omega,λl2 H5 s5 D9=>?_⟩;left;have P5:=P4.mono s5;have nc:=B3.mono (TSub.of_same (di.trans s5)) c7;have wL:=B3.mono (TSub.of_same (di.trans s5)) iI;have wM:=s5 _ _ (di _ _ IG);refine jO ?_ λDT other=>?_
     ·apply An wM (v:=r2) rfl ?_;apply rJ (P5.with nc P.gd.2 D9 λz hz=>?_) cS () MA ?_ λe2 wN H6 s6 a2 o2=>?_
      ·rcases F2 hz with hz | hz
       ·rw [al.mp hz];show dp g1<=8;omega
       ·exact P.hx z hz
      ·have:=FX xs [(x,g1)];simp at this;omega
      left;intros p7 H7 s7 e7;have b:=rK e2 (.fn x e2) o2.sz rfl;refine q (.fn x e2) _ _ (IX.trans (di.trans (s5.trans (s6.trans s7)))) ⟨p7,wN,rfl,e7,BD.mono (TSub.of_same s7) a2⟩ ⟨?_,b,.fn (o2.ty.mono (R6 P.gd.1))⟩;exact show e2.cl (x::M0 xs) from F' o2.cl (λm hm=>by rw [al.mp hm];exact .head _) (λz hz=>.tail _ hz)
     ·apply EA (λ_=>?_) λ_=>other;left;intros q3 H6 s6 e6;apply An (s6 _ _ wM) (v:=r1) rfl ?_;left;intros q4 H7 s7 e7;left;intros q5 H8 s8 e8;left;have YM:=s6.trans (s7.trans s8);have P8:=P5.mono YM;refine ⟨l,q5,xs,[(y,.fn g1 g2),(x,g1)],rfl,P8.hl,⟨_,e8,.cons ⟨q3,.ref pg,rfl,s8 _ _ (s7 _ _ e6),P8.hg⟩ (.cons ⟨q4,r1,rfl,s8 _ _ e7,B3.mono (TSub.of_same YM) wL⟩ .nil)⟩,by simp;omega,λl3 H9 s9 MB=>?_⟩;left;have P9:=P8.mono s9;refine An (s9 _ _ (YM _ _ wM)) (v:=r2) rfl ?_;apply rJ (P9.with (B3.mono (TSub.of_same (YM.trans s9)) nc) P.gd.2 MB λz hz=>?_) cS () MA ?_ λe2 wN R7 Fj a2 o2=>?_
      ·rcases F2 hz with hz | hz
       ·simp only [gz,AD,or_false] at hz;rcases hz with rfl | rfl
        ·show dp (Kd.fn g1 g2)<=8;omega
        ·show dp g1<=8;omega
       ·exact P.hx z hz
      ·have:=FX xs [(y,.fn g1 g2),(x,g1)];simp at this;omega
      left;intros p7 Rt F8 Mb;have b:=rK e2 (.rc y x e2) o2.sz rfl;refine q (.rc y x e2) _ _ (IX.trans (di.trans (s5.trans (YM.trans (s9.trans (Fj.trans F8)))))) ⟨p7,wN,rfl,Mb,BD.mono (TSub.of_same F8) a2⟩ ⟨?_,b,.rc (o2.ty.mono (Iz P.gd P.gd.1 (.inr ⟨λz=>by subst z;simp at DT,rfl⟩)))⟩;refine show e2.cl (x::y::M0 xs) from F' o2.cl (λm hm=>?_) (λz hz=>.tail _ (.tail _ hz));simp only [gz,AD,or_false] at hm;rcases hm with rfl | rfl
      ·exact .tail _ (.head _)
      ·exact .head _
    ·refine BY (by rcases rest with h | h | h | h <;> rw [h] <;> decide) ?_;exact wJ _ _ ⟨rest,rfl,rfl⟩
end
theorem NZ (m:Int->Option Kd)(t:Kd):dp t<=dp (fill m t):=by
 induction t with
 | num | tru | gap _=>exact mi _
 | ls a ih=>exact Nat.succ_le_succ ih
 | fn a b ia ib | pr a b ia ib=>exact Nat.succ_le_succ ()
section
variable {Pr:Program}{w:World}{K:W.Frag}{mg:Str->Option Value}{base:Heap}
structure Tie (K:W.Frag)(mg:Str->Option Value)(fd ft fb fl:Addr)(dd dt db dl:FuncData):Prop where
 D:Df K mg "_law_made" Cz J1 fd dd
 T:Df K mg "_law_taken" Dm J1 ft dt
 B:Df K mg "_law_built" Cj J1 fb db
 L:Df K mg "_law_let" Ea ["_law_script","_law_k","_law_goal","_law_names","_law_deep","_law_a","_law_kind"] fl dl
theorem Mg {fd ft fb fl:Addr}{dd dt db dl:FuncData}(T:Tie K mg fd ft fb fl dd dt db dl)(Px:mg "len"=none)(Jy:mg "max"=none)(PD:mg "int"=none)(Ec:mg "list"=none)(F1:mg "tuple"=none)(F0:mg "range"=none)
  (cM:Cl Pr w K mg base 2 "_law_mix" KL (Ff K)) (cN:Cl Pr w K mg base 1 "_law_name" ["_law_number"] Iq) (cV:Cl Pr w K mg base 1 "_law_with" ["_law_names","_law_more"] Gx) (cI:Cl Pr w K mg base 1 "_law_int" ["_law_number"] Pq)
  (cG:Cl Pr w K mg base 5 "_law_ground" ["_law_script","_law_k","_law_deep"] (D8 K 2)) (cW:Cl Pr w K mg base 11 "_law_wider" ["_law_wide","_law_kind"] (F3 8)) :
  ∀ n,Cl Pr w K mg base (12+3 * n) "_law_made" J1 (Dp K n)
 | 0=>T.D.cl Jm
 | n+1=>by
  have c:=Mg T Px Jy PD Ec F1 F0 cM cN cV cI cG cW n;have cL:=T.L.cl (de T.L.F () cM cV c);have cT:=T.T.cl (UA T.T.F PD () cM cN cV cG c cL);have cB:=T.B.cl (R9 T.B.F Ec F1 F0 () cM cN cV cI c);exact T.D.cl (Uz (r:=12+3 * n+2) T.D.F Px Jy () cM cW (cB.mono ()) cT)
theorem C3 (h:d<=3)(hs:s<=15):C d s<=870:=by
 have h1:=CZ d hs;rcases d with _ | _ | _ | _ | d
 ·exact ce h1 ⟨⟩
 ·exact ce h1 ⟨⟩
 ·exact ce h1 ⟨⟩
 ·exact ce h1 ⟨⟩
 ·omega
theorem PF:Am ["_law_script","_law_goal","_law_tree","_law_found"] ["_law_script"] (Ah K7):=nofun
theorem dj (F:C7 K "law" "law" K7 f fd)(cM:Cl Pr w K mg base 2 "_law_mix" KL (Ff K))(cG:Cl Pr w K mg base 6 "_law_ground" ["_law_script","_law_k","_law_deep"] (D8 K 3))(cD:Cl Pr w K mg base 48 "_law_made" J1 (Dp K 12))(cT:Cl Pr w K mg base 10 "_law_kind_told" ["_law_tree"] QX)(cI:Cl Pr w K mg base 5 "_law_is_kind" ["_law_found"] (EO 3))(cP:Cl Pr w K mg base 6 "_law_plain" ["_law_kind"] (Uo 3))(cW:Cl Pr w K mg base 11 "_law_wider" ["_law_wide","_law_kind"] (F3 8)) :
  Au Pr w K mg base AN 49 f fd ["_law_script"] (Sq K 63 []):=by
 refine F.okS PF (λBe A outer s H vs Q E hr h=>?_)
 ·obtain ⟨a,ns,rfl,hs,hlen,_,q⟩:=h;have DW:Ax 2 _:=hr.mono ();have rG:Ax 5 _:=hr.mono ();have lE:Ax 6 _:=hr.mono ();have wO:Ax 10 _:=hr.mono ();have d8:Ax 11 _:=hr.mono ();have cX:=hr.units;refine ⟨_,(Af (Aq (i:=1) PF.nd rfl (.inl rfl) (Bd cG lE rfl (Aa (Ag 0) (Aa Aj (Aa (Ay AU (Bd cM DW rfl (Aa (Ag 0) (Aa Aj Ae))) Aj) Ae)))))
   (Af (Aq (i:=2) PF.nd rfl (.inl rfl) (Bd cD hr rfl (Aa (Ag 0) (Aa Aj (Aa (Ag 1) (Aa (B0 Ae) (Aa (Ay B9 Aj (Ay AU (Bd cM DW rfl (Aa (Ag 0) (Aa Aj Ae))) Aj)) Ae)))))))
   (Af (Aq (i:=3) PF.nd rfl (.inl rfl) (Bd cT wO rfl (Aa (Ag 2) Ae)))
   (Af (BE (Ll (Jk (Bd cI rG rfl (Aa (Ag 3) Ae)))) (Ak (AH IL)) Bf)
   (Ak (AH (Ln (HM (So cX) (Bd cP lE rfl (Aa (Ag 3) Ae)) (Ag 3) (Aw _)) (OQ (Bd cW d8 rfl (Aa (Ag 3) (Aa (Ag 1) Ae))))))))))),?_⟩
  apply ⟨a,ns,_,rfl,hs,λm0 wm=>?_⟩;left;obtain ⟨d0,GK,wQ⟩:∃ d:Nat,m0 % 4=(d:Int)/\d<=3:=by
   have h1:=BC m0 (b:=4) ⟨⟩;have h2:=xL m0 (b:=4) ⟨⟩;exact ⟨(m0 % 4).toNat,(),()⟩
  rw [GK];refine ⟨a,ns,0,d0,rfl,wQ,hs,λg rg H1 s1 hg gg dg=>?_⟩;left;intros l0 H2 s2 e2;left;have IX:=s1.trans s2;refine ⟨a,ns,_,rfl,IX.seq hs,λm1 cS=>?_⟩;left;obtain ⟨d,hd,MA⟩:∃ d:Nat,1+m1 % 3=(d:Int)/\d<=3:=by
   have h1:=BC m1 (b:=3) ⟨⟩;have h2:=xL m1 (b:=3) ⟨⟩;exact ⟨(1+m1 % 3).toNat,(),()⟩
  rw [hd];have skg:sk g<=15:=by
   have h2:=Iw g;have h4:2 ^ (dp g+1)<=2 ^ 4:=wE ⟨⟩ ();have h6:2 ^ 4=16:=rfl;omega
  refine ⟨a,ns,1,g,rg,l0,[],d,rfl,⟨IX.seq hs,B3.mono (TSub.of_same s2) hg,gg,⟨_,e2,.nil⟩,λx hx=>(by cases hx)⟩,?_,(),?_,by simp,λe r H3 s3 he ho=>?_⟩
  ·rcases d with _ | d
   ·simp only [mu];omega
   ·simp only [mu];omega
  ·unfold Pm;omega
  have hcz:=C3 MA skg;have o2:=ho.sz;have ty0:HK g0 e g:=ho.ty.mono λy t z=>by obtain ⟨k,hk,_⟩:=z;cases hk
  apply ⟨e,r,g,rfl,he,ho.cl,(),ty0,λv t H4 t4 kv pl vJ hm=>?_⟩;obtain ⟨m,em⟩:=id hm;have dpt:dp t<=3:=by have:=NZ m t;rw [em] at this;omega
  have szt:sz t<=1000:=sz8 ();apply ⟨t,v,rfl,kv,dpt,vJ,λH5 s5=>?_⟩;apply Bx ?_;apply ⟨t,v,rfl,B3.mono (TSub.of_same s5) kv,dpt,szt,λr6 H6 s6 k6=>?_⟩;left;rw [pl] at k6;have wR:=s5.trans s6;refine ⟨t,t,k6,B3.mono (TSub.of_same wR) kv,(),(),?_⟩;apply Cm (by simp) ?_;apply ⟨t,g,v,rg,rfl,B3.mono (TSub.of_same wR) kv,B3.mono ((TSub.of_same (s2.trans s3)).trans (t4.trans (TSub.of_same wR))) hg,(),szt,(),λH7 s7=>?_⟩;rw [(Sy t g).mpr hm];exact q _
end
end K
namespace L2
open PySem PySem.Spec PyProof.Rows KS KX
theorem O0 {P:Program}{w:World}{K:W.Frag}{mg:Str->Option Value}{base:Heap}{CX:Mw}{k:Nat}{ps:List Str}{rows:List (Str × Value)}:Fu P w K mg base CX k ps rows []:=λ_ _ h=>by cases h
theorem AY {P:Program}{w:World}{K:W.Frag}{mg:Str->Option Value}{base:Heap}{CX:Mw}{k:Nat}{ps:List Str}{rows:List (Str × Value)}{x:Str}{sp:Sp}{OZ:List (Str × Sp)}(h:∃ f fd,rowAt rows x=some (.ref f)/\Au P w K mg base CX k f fd ps sp/\W.keepIn K (.ref f)=true/\Binds K fd ps [])
  (t:Fu P w K mg base CX k ps rows OZ):Fu P w K mg base CX k ps rows ((x,sp)::OZ):=λy sp' hm=>by
 rcases gz.mp hm with e | hm
 ·cases e;exact h
 ·exact t y sp' hm
noncomputable def wU:Value->Bool
 | .type s=>decide (s="tuple")
 | _=>false
noncomputable def wV (p:List Value->Bool):Data->Bool
 | .seq its _=>p its.toList
 | _=>false
noncomputable def tupP (K:W.Frag)(p:List Value->Bool):Value->Bool
 | .ref a=>(K.lookup a).any λo=>wU o.cls && wV p o.data
 | _=>false
noncomputable def all2 {α β:Type}(f:α->β->Bool):List α->List β->Bool
 | [],[]=>true
 | a::r,b::s=>f a b && all2 f r s
 | _,_=>false
noncomputable def UB (ns:List Nat)(xs:List Value):Bool:=all2 (λ(n:Nat) v=>Value.isInt n v) ns xs
noncomputable def UC (K:W.Frag)(row:Nat × List Nat)(v:Value):Bool:=tupP K (λl=>all2 (λf x=>f x) [Value.isInt row.1,tupP K (UB row.2)] l) v
noncomputable def YW (r:Nat × List Nat):Bool:=decide (r.2.length<=10)
noncomputable def Cu (K:W.Frag)(rows:List (Str × Value))(w:Str)(prs:List (Nat × List Nat)):Bool:=(rowAt rows w).any (tupP K λxs=>all2 (λr v=>YW r && UC K r v) prs xs && decide (prs.length<=10))
noncomputable def UD (K:W.Frag)(rows:List (Str × Value)):Bool :=
 Cu K rows "name" [] && Cu K rows "number" [] && Cu K rows "truth" [] && Cu K rows "empty" [] && Cu K rows "fun" [(2,[1])] && Cu K rows "rec" [(3,[1,2])] && Cu K rows "call" [(1,[]),(2,[])] && Cu K rows "let" [(2,[]),(3,[1])] && Cu K rows "when" [(1,[]),(2,[]),(3,[])]
 && Cu K rows "pair" [(1,[]),(2,[])] && Cu K rows "open" [(1,[]),(4,[2,3])] && Cu K rows "link" [(1,[]),(2,[])] && Cu K rows "split" [(1,[]),(2,[]),(5,[3,4])] && Cu K rows "op" [(2,[]),(3,[])]
theorem O1 (h:(a && b)=true):a=true/\b=true:=by
 cases a
 ·cases h
 ·exact ⟨rfl,h⟩
theorem PH (h:o.any p=true):∃ a,o=some a/\p a=true:=by
 cases o
 ·cases h
 ·exact ⟨_,rfl,h⟩
theorem IB {K:W.Frag}{p:List Value->Bool}{v:Value}(h:tupP K p v=true):∃ a,v=.ref a/\∃ its n o,K.lookup a=some o/\o.cls=.type "tuple"/\o.data=.seq its n/\p its.toList=true:=by
 cases v with
 | ref a =>
  obtain ⟨⟨c,x,d,y⟩,h1,h2⟩:=PH h;obtain ⟨h2,h3⟩:=O1 h2;cases c with
  | type s =>
   cases d with
   | seq its n=>exact ⟨a,rfl,its,n,_,h1,congrArg _ (of_decide_eq_true h2),rfl,h3⟩
   | _=>cases h3
  | _=>cases h2
 | _=>cases h
theorem O2 {K:W.Frag}{a:Addr}{its:Array Value}{n:Nat}{o:Obj}(h1:K.lookup a=some o)(h2:o.cls=.type "tuple")(h3:o.data=.seq its n){vs:List V}(r:Vals vs its.toList)(hl:vs.length<=1000):LK K a vs :=
 ⟨o,its,n,h1,h2,h3,DU (by have:=r.length;simp at this;omega),r⟩
theorem ints_of:∀ {xs:List Value},UB ns xs=true->Vals (ns.map λn:Nat=>V.int n) xs:=by
 induction ns with
 | nil =>
  intro xs h;cases xs
  ·exact .nil
  ·cases h
 | cons n ns ih =>
  intro xs h;cases xs with
  | nil=>cases h
  | cons x xs =>
   obtain ⟨h1,h2⟩:=O1 h;obtain ⟨t,rfl⟩:=Value.isInt_shape h1;exact .cons ⟨t,rfl⟩ (ih h2)
theorem dn {K:W.Frag}{v:Value}{row:Nat × List Nat}(hr:row.2.length<=10)(h:UC K row v=true):∃ b,v=.ref b/\Wi K row (.ref b):=by
 obtain ⟨b,rfl,its,n,o,h1,h2,h3,h4⟩:=IB h;generalize e:its.toList=l at h4;cases l with
 | nil=>cases h4
 | cons x l =>
  obtain ⟨h5,h6⟩:=O1 h4;cases l with
  | nil=>cases h6
  | cons y l =>
   obtain ⟨h7,h8⟩:=O1 h6;cases l with
   | cons _ _=>cases h8
   | nil =>
    obtain ⟨t,rfl⟩:=Value.isInt_shape h5;obtain ⟨c,rfl,its',n',o',k1,k2,k3,k4⟩:=IB h7;exact ⟨b,rfl,b,c,rfl,O2 h1 h2 h3 (e▸.cons ⟨t,rfl⟩ (.cons rfl .nil)) (by simp),O2 k1 k2 k3 (ints_of k4) (by simp;omega)⟩
theorem Xe {K:W.Frag}{rs:List (Nat × List Nat)}:∀ {vs:List Value},all2 (λr v=>YW r && UC K r v) rs vs=true->∃ us,Vals us vs/\Paired (Wi K) rs us:=by
 induction rs with
 | nil =>
  intro vs h;cases vs
  ·exact ⟨[],.nil,.nil⟩
  ·cases h
 | cons r rs ih =>
  intro vs h;cases vs with
  | nil=>cases h
  | cons v vs =>
   obtain ⟨h1,h2⟩:=O1 h;obtain ⟨h3,h1⟩:=O1 h1;obtain ⟨b,rfl,kb⟩:=dn (of_decide_eq_true h3) h1;obtain ⟨us,h1,h2⟩:=ih h2;exact ⟨.ref b::us,.cons rfl h1,.cons kb h2⟩
theorem C6 {K:W.Frag}{rows:List (Str × Value)}{w:Str}{prs:List (Nat × List Nat)}(h:Cu K rows w prs=true):∃ a us,rowAt rows w=some (.ref a)/\LK K a us/\Paired (Wi K) prs us:=by
 obtain ⟨v,e,h⟩:=PH h;obtain ⟨a,rfl,its,n,o,h1,h2,h3,h4⟩:=IB h;obtain ⟨h4,h5⟩:=O1 h4;obtain ⟨us,g1,g2⟩:=Xe h4;have:=Paired.len g2;have:=of_decide_eq_true h5;exact ⟨a,us,e,O2 h1 h2 h3 g1 (),g2⟩
theorem dq {K:W.Frag}{rows:List (Str × Value)}(h:UD K rows=true):KPl K rows:=by
 simp only [UD,Ev] at h;obtain ⟨⟨⟨⟨⟨⟨⟨⟨⟨⟨⟨⟨⟨h1,h2⟩,h3⟩,h4⟩,h5⟩,h6⟩,h7⟩,h8⟩,h9⟩,uI⟩,h11⟩,h12⟩,h13⟩,h14⟩:=h;intro e;cases e
 ·exact C6 h1
 ·exact C6 h2
 ·exact C6 h3
 ·exact C6 h4
 ·exact C6 h5
 ·exact C6 h6
 ·exact C6 h7
 ·exact C6 h8
 ·exact C6 h9
 ·exact C6 uI
 ·exact C6 h11
 ·exact C6 h12
 ·exact C6 h13
 ·exact C6 h14
end L2
end
namespace L2
open PySem PySem.Spec PyProof.Rows KS
abbrev fe (n:Str)(st:Stmt)(ps:List Str)(f:Addr)(d:FuncData):Str × Stmt × List Str × Addr × FuncData:=(n,st,ps,f,d)
noncomputable def FL (K:W.Frag):List (Str × Stmt × List Str × Addr × FuncData)->Prop
 | []=>True
 | (n,st,ps,f,d)::r=>(W.nsIn K mainGlobals n=some (some (.ref f))/\C7 K n n st f d/\∀ (kV doc pm:Value) (an:Option Addr) (Be ct:Value) (us:List Value),us.length=ps.length->bindArgs (W.fnOf n n (AX st) (AJ st) (Ah st) .none kV doc pm an Be ct) ⟨us,[]⟩=pure (ps.zip us))/\FL K r
noncomputable def FD (K:W.Frag)(mg:Str->Option Value):List (Str × Stmt × List Str × Addr × FuncData)->Prop
 | []=>True
 | (n,st,ps,f,d)::r=>Df K mg n st ps f d/\FD K mg r
theorem FL.get {K:W.Frag}{mg:Str->Option Value}{h:Heap}(X:K.In h)(G:h.Ns mainGlobals mg):∀ {l:List (Str × Stmt × List Str × Addr × FuncData)},FL K l->FD K mg l
 | [],_=>trivial
 | (_,_,_,_,_)::_,q=>⟨⟨q.1.2.1,q.1.2.1.binds q.1.2.2,W.mg_of X G q.1.1⟩,FL.get X G q.2⟩
noncomputable def iS (K:W.Frag):List Str->Prop
 | []=>True
 | n::r=>W.nsIn K mainGlobals n=some none/\iS K r
noncomputable def ND0 (mg:Str->Option Value):List Str->Prop
 | []=>True
 | n::r=>mg n=none/\ND0 mg r
theorem iS.get {K:W.Frag}{mg:Str->Option Value}{h:Heap}(X:K.In h)(G:h.Ns mainGlobals mg):∀ {l:List Str},iS K l->ND0 mg l
 | [],_=>trivial
 | _::_,q=>⟨W.mg_none_of X G q.1,iS.get X G q.2⟩
theorem Akv {R:List Value->Prop}{n:Nat}(h:(n=1/\∀ a,R [a])\/(n=2/\∀ a b,R [a,b])\/(n=3/\∀ a b c,R [a,b,c])\/(n=5/\∀ a b c d e,R [a,b,c,d,e])\/(n=7/\∀ a b c d e f g,R [a,b,c,d,e,f,g])\/(n=4/\∀ a b c d,R [a,b,c,d]))(us:List Value)(hu:us.length=n):R us:=by
 rcases h with ⟨rfl,h⟩ | ⟨rfl,h⟩ | ⟨rfl,h⟩ | ⟨rfl,h⟩ | ⟨rfl,h⟩ | ⟨rfl,h⟩
 ·rcases us with _ | ⟨a,_ | ⟨b,us⟩⟩ <;> simp at hu;exact h a
 ·rcases us with _ | ⟨a,_ | ⟨b,_ | ⟨c,us⟩⟩⟩ <;> simp at hu;exact h a b
 ·rcases us with _ | ⟨a,_ | ⟨b,_ | ⟨c,_ | ⟨d,us⟩⟩⟩⟩ <;> simp at hu;exact h a b c
 ·rcases us with _ | ⟨a,_ | ⟨b,_ | ⟨c,_ | ⟨d,_ | ⟨e,_ | ⟨f,us⟩⟩⟩⟩⟩⟩ <;> simp at hu;exact h a b c d e
 ·rcases us with _ | ⟨a,_ | ⟨b,_ | ⟨c,_ | ⟨d,_ | ⟨e,_ | ⟨f,_ | ⟨g,_ | ⟨i,us⟩⟩⟩⟩⟩⟩⟩⟩ <;> simp at hu;exact h a b c d e f g
 ·rcases us with _ | ⟨a,_ | ⟨b,_ | ⟨c,_ | ⟨d,_ | ⟨e,us⟩⟩⟩⟩⟩ <;> simp at hu;exact h a b c d
end L2
namespace K
open PySem L2 KM KS KX KN
theorem all_mk {l:W.OpenLaw}{q:Program}{loose:List Str}{w:World}{K:W.Frag}{h:Heap}{mg mb:Str->Option Value}{VT:ExcName->Option Value}{fa:Addr}{ts:List Addr}(X:K.In h)(qN:∀ P∈ts,h.get? P=some (W.tabObj #[]))(T0:PyProof.Rows.Top q loose VT mg mb h)(hfa:mg "law"=some (.ref fa))
  {C:Addr}
  {f0:Addr} {o1 a2:Option Addr} {s3:Array (Option Value)} {o4 k5 d6 p7 c8:Value}
  {c9:Value}
  {nh:Addr} {o11 a12:Option Addr} {JF:Array (Option Value)} {o14 k15 d16 p17 c18:Value}
  {c19:Value}
  {ni:Addr} {o21 a22:Option Addr} {s23:Array (Option Value)} {o24 k25 d26 p27 c28:Value}
  {c29:Value}
  {nj:Addr} {o31 a32:Option Addr} {s33:Array (Option Value)} {o34 k35 d36 p37 c38:Value}
  {c39:Value}
  {nq:Addr} {o41 a42:Option Addr} {s43:Array (Option Value)} {o44 k45 d46 p47 c48:Value}
  {c49:Value}
  {nt:Addr} {o51 a52:Option Addr} {s53:Array (Option Value)} {o54 k55 d56 p57 c58:Value}
  {c59:Value}
  {nu:Addr} {o61 a62:Option Addr} {s63:Array (Option Value)} {o64 k65 d66 p67 c68:Value}
  {c69:Value}
  {nv:Addr} {o71 a72:Option Addr} {s73:Array (Option Value)} {o74 k75 d76 p77 c78:Value}
  {c79:Value}
  {nz:Addr} {o81 a82:Option Addr} {s83:Array (Option Value)} {o84 k85 d86 p87 c88:Value}
  {c89:Value}
  {nB:Addr} {o91 a92:Option Addr} {s93:Array (Option Value)} {o94 k95 d96 p97 c98:Value}
  {c99:Value}
  {UE:Addr} {wW wX:Option Addr} {wY:Array (Option Value)} {wZ xa xb xc xf:Value}
  {nE:Value}
  {UG:Addr} {xg xh:Option Addr} {xi:Array (Option Value)} {xj xm xo xp xq:Value}
  {nF:Value}
  {UH:Addr} {xt xu:Option Addr} {xv:Array (Option Value)} {xw xx xy xB xC:Value}
  {nH:Value}
  {D:Addr}
  {UJ:Addr} {xD xE:Option Addr} {xF:Array (Option Value)} {xG xH xI xJ xK:Value}
  {nJ:Value}
  {UK:Addr} {xM xN:Option Addr} {xO:Array (Option Value)} {xP xQ xR xS xT:Value}
  {nM:Value}
  {UL:Addr} {xU xV:Option Addr} {xW:Array (Option Value)} {xX xY xZ y4 y6:Value}
  {nO:Value}
  {UM:Addr} {y7 y8:Option Addr} {y9:Array (Option Value)} {ya yb yc yd ye:Value}
  {nP:Value}
  {UN:Addr} {yf yg:Option Addr} {yh:Array (Option Value)} {yi yj yk ym yo:Value}
  {nQ:Value}
  {UO:Addr} {yp yq:Option Addr} {yr:Array (Option Value)} {yt yu yv yw yx:Value}
  {nR:Value}
  {Xf Xg Xh Xi Xj Xk Xl Xm Xn Xo Xp Xq Xr Xs yy yz yB yC yD yE yF yG yH yI yJ yK yL yM yN yO yP yQ yR yS yT yU yV yW yX yY:Addr} {Mh IY Kw Kx O3 O4 Mi O5 Mj Ml Mm Mn Ky Ra ES UP Rb O6 Fz Kz GY ET Mp O7 KA IZ Mq KC KD IC KH O8 Mr J0 Ms Mt KI KJ O9 Gz:FuncData}
  {du:Addr} {yZ nX:Option Addr} {za:Array (Option Value)} {zb nY nZ o7 oa:Value}
  {dA:Value}
  {CM iJ zc:Addr} {Mu Rc:Array DictEntry} {og oh:Nat}
  (aC:W.nsIn K mainGlobals "Nodes"=some (some (.ref C)))
  (Xt:W.findIn K (.ref C) "__init__"=some (some (.ref f0)))
  (Xu:W.isFn K (.ref f0)=true)
  (dB:K.lookup f0=some ⟨o4,o1,.func (W.fnOf "__init__" "Nodes.__init__" (AX Bs) (AJ Bs) (Ah Bs) .none k5 d6 p7 a2 c9 c8),s3⟩)
  (dC:W.codeIn K c9 "Nodes.__init__"=true)
  (Xv:W.keepIn K (.ref f0)=true)
  (dD:W.findIn K (.ref C) "new_node"=some (some (.ref nh)))
  (dE:W.isFn K (.ref nh)=true)
  (dF:K.lookup nh=some ⟨o14,o11,.func (W.fnOf "new_node" "Nodes.new_node" (AX Bt) (AJ Bt) (Ah Bt) .none k15 d16 p17 a12 c19 c18),JF⟩)
  (dG:W.codeIn K c19 "Nodes.new_node"=true)
  (Xw:W.keepIn K (.ref nh)=true)
  (dH:W.findIn K (.ref C) "new_gap"=some (some (.ref ni)))
  (dI:W.isFn K (.ref ni)=true)
  (dJ:K.lookup ni=some ⟨o24,o21,.func (W.fnOf "new_gap" "Nodes.new_gap" (AX BF) (AJ BF) (Ah BF) .none k25 d26 p27 a22 c29 c28),s23⟩)
  (dM:W.codeIn K c29 "Nodes.new_gap"=true)
  (Xx:W.keepIn K (.ref ni)=true)
  (dN:W.findIn K (.ref C) "leader"=some (some (.ref nj)))
  (dO:W.isFn K (.ref nj)=true)
  (dP:K.lookup nj=some ⟨o34,o31,.func (W.fnOf "leader" "Nodes.leader" (AX BR) (AJ BR) (Ah BR) .none k35 d36 p37 a32 c39 c38),s33⟩)
  (dQ:W.codeIn K c39 "Nodes.leader"=true)
  (Xy:W.keepIn K (.ref nj)=true)
  (dR:W.findIn K (.ref C) "inner_leaders"=some (some (.ref nq)))
  (dS:W.isFn K (.ref nq)=true)
  (dU:K.lookup nq=some ⟨o44,o41,.func (W.fnOf "inner_leaders" "Nodes.inner_leaders" (AX AB) (AJ AB) (Ah AB) .none k45 d46 p47 a42 c49 c48),s43⟩)
  (dW:W.codeIn K c49 "Nodes.inner_leaders"=true)
  (Xz:W.keepIn K (.ref nq)=true)
  (dX:W.findIn K (.ref C) "sink"=some (some (.ref nt)))
  (dY:W.isFn K (.ref nt)=true)
  (dZ:K.lookup nt=some ⟨o54,o51,.func (W.fnOf "sink" "Nodes.sink" (AX Cg) (AJ Cg) (Ah Cg) .none k55 d56 p57 a52 c59 c58),s53⟩)
  (eh:W.codeIn K c59 "Nodes.sink"=true)
  (XA:W.keepIn K (.ref nt)=true)
  (eA:W.findIn K (.ref C) "follow"=some (some (.ref nu)))
  (eB:W.isFn K (.ref nu)=true)
  (eC:K.lookup nu=some ⟨o64,o61,.func (W.fnOf "follow" "Nodes.follow" (AX BS) (AJ BS) (Ah BS) .none k65 d66 p67 a62 c69 c68),s63⟩)
  (eE:W.codeIn K c69 "Nodes.follow"=true)
  (XB:W.keepIn K (.ref nu)=true)
  (eG:W.findIn K (.ref C) "make_same"=some (some (.ref nv)))
  (eJ:W.isFn K (.ref nv)=true)
  (eK:K.lookup nv=some ⟨o74,o71,.func (W.fnOf "make_same" "Nodes.make_same" (AX Bi) (AJ Bi) (Ah Bi) .none k75 d76 p77 a72 c79 c78),s73⟩)
  (eL:W.codeIn K c79 "Nodes.make_same"=true)
  (XC:W.keepIn K (.ref nv)=true)
  (eM:W.findIn K (.ref C) "go_deeper"=some (some (.ref nz)))
  (eO:W.isFn K (.ref nz)=true)
  (eP:K.lookup nz=some ⟨o84,o81,.func (W.fnOf "go_deeper" "Nodes.go_deeper" (AX Bj) (AJ Bj) (Ah Bj) .none k85 d86 p87 a82 c89 c88),s83⟩)
  (eQ:W.codeIn K c89 "Nodes.go_deeper"=true)
  (XD:W.keepIn K (.ref nz)=true)
  (eR:W.findIn K (.ref C) "come_back"=some (some (.ref nB)))
  (eS:W.isFn K (.ref nB)=true)
  (eT:K.lookup nB=some ⟨o94,o91,.func (W.fnOf "come_back" "Nodes.come_back" (AX AF) (AJ AF) (Ah AF) .none k95 d96 p97 a92 c99 c98),s93⟩)
  (eU:W.codeIn K c99 "Nodes.come_back"=true)
  (XE:W.keepIn K (.ref nB)=true)
  (eV:W.findIn K (.ref C) "copied"=some (some (.ref UE)))
  (eX:W.isFn K (.ref UE)=true)
  (eY:K.lookup UE=some ⟨wZ,wW,.func (W.fnOf "copied" "Nodes.copied" (AX Bh) (AJ Bh) (Ah Bh) .none xa xb xc wX nE xf),wY⟩)
  (eZ:W.codeIn K nE "Nodes.copied"=true)
  (XF:W.keepIn K (.ref UE)=true)
  (fc:W.findIn K (.ref C) "number_gaps"=some (some (.ref UG)))
  (ff:W.isFn K (.ref UG)=true)
  (fg:K.lookup UG=some ⟨xj,xg,.func (W.fnOf "number_gaps" "Nodes.number_gaps" (AX B5) (AJ B5) (Ah B5) .none xm xo xp xh nF xq),xi⟩)
  (fh:W.codeIn K nF "Nodes.number_gaps"=true)
  (XG:W.keepIn K (.ref UG)=true)
  (fi:W.findIn K (.ref C) "kinds_under"=some (some (.ref UH)))
  (fj:W.isFn K (.ref UH)=true)
  (fk:K.lookup UH=some ⟨xw,xt,.func (W.fnOf "kinds_under" "Nodes.kinds_under" (AX Av) (AJ Av) (Ah Av) .none xx xy xB xu nH xC),xv⟩)
  (fo:W.codeIn K nH "Nodes.kinds_under"=true)
  (XH:W.keepIn K (.ref UH)=true)
  (zd:W.plainGet K C Str.empty=true)
  (ze:W.hasDictIn K C=true)
  (zf:W.plainOver K C=true)
  (zg:W.findIn K (.ref C) "__setattr__"=some (some (.builtin "object.__setattr__")))
  (zh:W.makesIn K C=true)
  (zi:W.keepIn K (.ref C)=true)
  (zj:W.findIn K (.ref C) "sorts"=some none)
  (zl:W.findIn K (.ref C) "inner"=some none)
  (zo:W.findIn K (.ref C) "leaders"=some none)
  (zp:W.findIn K (.ref C) "levels"=some none)
  (zq:W.findIn K (.ref C) "level"=some none)
  (zr:W.findIn K (.ref C) "gaps"=some none)
  (aD:W.nsIn K mainGlobals "Finder"=some (some (.ref D)))
  (XI:W.findIn K (.ref D) "__init__"=some (some (.ref UJ)))
  (XJ:W.isFn K (.ref UJ)=true)
  (fq:K.lookup UJ=some ⟨xG,xD,.func (W.fnOf "__init__" "Finder.__init__" (AX Bl) (AJ Bl) (Ah Bl) .none xH xI xJ xE nJ xK),xF⟩)
  (fu:W.codeIn K nJ "Finder.__init__"=true)
  (XM:W.keepIn K (.ref UJ)=true)
  (fw:W.findIn K (.ref D) "ask"=some (some (.ref UK)))
  (fA:W.isFn K (.ref UK)=true)
  (fB:K.lookup UK=some ⟨xP,xM,.func (W.fnOf "ask" "Finder.ask" (AX Ci) (AJ Ci) (Ah Ci) .none xQ xR xS xN nM xT),xO⟩)
  (fD:W.codeIn K nM "Finder.ask"=true)
  (XN:W.keepIn K (.ref UK)=true)
  (fE:W.findIn K (.ref D) "ask_behind_first"=some (some (.ref UL)))
  (fG:W.isFn K (.ref UL)=true)
  (fH:K.lookup UL=some ⟨xX,xU,.func (W.fnOf "ask_behind_first" "Finder.ask_behind_first" (AX AG) (AJ AG) (Ah AG) .none xY xZ y4 xV nO y6),xW⟩)
  (fJ:W.codeIn K nO "Finder.ask_behind_first"=true)
  (XO:W.keepIn K (.ref UL)=true)
  (fK:W.findIn K (.ref D) "has_sort"=some (some (.ref UM)))
  (fM:W.isFn K (.ref UM)=true)
  (fO:K.lookup UM=some ⟨ya,y7,.func (W.fnOf "has_sort" "Finder.has_sort" (AX Bm) (AJ Bm) (Ah Bm) .none yb yc yd y8 nP ye),y9⟩)
  (fQ:W.codeIn K nP "Finder.has_sort"=true)
  (XQ:W.keepIn K (.ref UM)=true)
  (fR:W.findIn K (.ref D) "given_too"=some (some (.ref UN)))
  (fT:W.isFn K (.ref UN)=true)
  (fU:K.lookup UN=some ⟨yi,yf,.func (W.fnOf "given_too" "Finder.given_too" (AX Ba) (AJ Ba) (Ah Ba) .none yj yk ym yg nQ yo),yh⟩)
  (fV:W.codeIn K nQ "Finder.given_too"=true)
  (XR:W.keepIn K (.ref UN)=true)
  (fX:W.findIn K (.ref D) "ask_all"=some (some (.ref UO)))
  (fY:W.isFn K (.ref UO)=true)
  (fZ:K.lookup UO=some ⟨yt,yp,.func (W.fnOf "ask_all" "Finder.ask_all" (AX Bu) (AJ Bu) (Ah Bu) .none yu yv yw yq nR yx),yr⟩)
  (g9:W.codeIn K nR "Finder.ask_all"=true)
  (XS:W.keepIn K (.ref UO)=true)
  (zt:W.plainGet K D Str.empty=true)
  (hdD:W.hasDictIn K D=true)
  (zu:W.plainOver K D=true)
  (zv:W.findIn K (.ref D) "__setattr__"=some (some (.builtin "object.__setattr__")))
  (zw:W.makesIn K D=true)
  (zx:W.keepIn K (.ref D)=true)
  (zy:W.findIn K (.ref D) "nodes"=some none)
  (zA:W.findIn K (.ref D) "number"=some none)
  (zB:W.findIn K (.ref D) "truth"=some none)
  (zC:W.findIn K (.ref D) "waiting"=some none)
  (HF:FL K [fe "find_name" EH ["finder","tree","given","node"] Xf Mh,fe "find_number" DK ["finder","tree","given","node"] Xg IY,fe "find_truth" E6 ["finder","tree","given","node"] Xh Kw,fe "find_empty" E7 ["finder","tree","given","node"] Xi Kx,fe "find_fun" Fp ["finder","tree","given","node"] Xj O3,fe "find_rec" Fq ["finder","tree","given","node"] Xk O4,fe "find_call" EI ["finder","tree","given","node"] Xl Mi,fe "find_let" Fs ["finder","tree","given","node"] Xm O5,fe "find_when" EJ ["finder","tree","given","node"] Xn Mj,fe "find_pair" EK ["finder","tree","given","node"] Xo Ml,fe "find_open" EL ["finder","tree","given","node"] Xp Mm,fe "find_link" EM ["finder","tree","given","node"] Xq Mn,fe "find_split" E8 ["finder","tree","given","node"] Xr Ky,fe "find_op" Gk ["finder","tree","given","node"] Xs Ra,fe "go_on_behind_first" Ca ["finder","tree","given","node","first"] yy ES,fe "widest" HX ["tree"] yz UP,fe "kind_of" Gn ["tree"] yB Rb,fe "names_at" DA ["tree","places"] yC O6,fe "parts_with_names" By ["tree"] yD Fz,fe "with_names" E5 ["given","names"] yE Kz,fe "missing_names" Dd ["tree"] yF GY,fe "first_missing_name" C9 ["tree"] yG ET,fe "_law_cell" T4 KL yH Mp,fe "_law_mix" aF KL yI O7,fe "_law_whole" Ny ["_law_found"] yJ KA,fe "_law_filled" K4 ["_law_kind","_law_told"] yK IZ,fe "_law_gaps" Js ["_law_kind"] yL Mq,fe "_law_pairs" K5 ["_law_wide","_law_kind"] yM KC,fe "_law_wider" HY ["_law_wide","_law_kind"] yN KD,fe "_law_is_kind" EX ["_law_found"] yO IC,fe "_law_plain" E9 ["_law_kind"] yP KH,fe "_law_int" Ft ["_law_number"] yQ O8,fe "_law_name" EN ["_law_number"] yR Mr,fe "_law_ground" D2 ["_law_script","_law_k","_law_deep"] yS J0,fe "_law_with" Cy ["_law_names","_law_more"] yT Ms,fe "_law_made" Cz J1 yU Mt,fe "_law_built" Cj J1 yV KI,fe "_law_taken" Dm J1 yW KJ,fe "_law_let" Ea ["_law_script","_law_k","_law_goal","_law_names","_law_deep","_law_a","_law_kind"] yX O9,fe "_law_kind_told" CY ["_law_tree"] yY Gz])
  (HN:iS K ["range","dict","list","reversed","tuple","len","isinstance","int","bool","str","all","zip","max"])
  (XT:W.nsIn K mainGlobals "law"=some (some (.ref du)))
  (gc:K.lookup du=some ⟨zb,yZ,.func (W.fnOf "law" "law" (AX K7) (AJ K7) (Ah K7) .none nY nZ o7 nX dA oa),za⟩)
  (gf:W.codeIn K dA "law"=true)
  (gh:W.keepIn K (.ref du)=true)
  (aM:W.nsIn K mainGlobals "NoName"=some (some (.ref CM)))
  (x339:W.kitOne K (.type "NoneType") (.ref CM)=some false)
  (zD:W.nsIn K mainGlobals "PLACES"=some (some (.ref iJ)))
  (zE:K.lookup iJ=some ⟨.type "dict",none,.dict Mu og,#[]⟩)
  (zF:Mu.toList=Mu.toList.map (NB w))
  (zG:(Mu.toList.all λe=>K9 e.key)=true)
  (zH:W.nsIn K mainGlobals "RULES"=some (some (.ref zc)))
  (zI:K.lookup zc=some ⟨.type "dict",none,.dict Rc oh,#[]⟩)
  (zJ:Rc.toList=Rc.toList.map (NB w))
  (zK:(Rc.toList.all λe=>K9 e.key)=true)
  (zL:(Yu Mu.toList).map (·.1)=(["name","number","truth","empty","fun","rec","call","let","when","pair","open","link","split","op"]:List Str))
  (zM:UD K (Yu Mu.toList)=true)
  (zN:Yu Rc.toList=([("name",.ref Xf),("number",.ref Xg),("truth",.ref Xh),("empty",.ref Xi),("fun",.ref Xj),("rec",.ref Xk),("call",.ref Xl),("let",.ref Xm),("when",.ref Xn),("pair",.ref Xo),("open",.ref Xp),("link",.ref Xq),("split",.ref Xr),("op",.ref Xs)]:List (Str × Value)))
  (hK:W.noTabs K=true) :
  ∃ (fd:FuncData) (tabs:List (Addr × Addr)),W.noTabs K=true/\W.TabsAt tabs h/\(∀ (s:Shared) (u:Value),BindsTo s fd ⟨[u],[]⟩ [("_law_script",u)]) /\
    ∀ base:Heap,K.In base->base.Ns mainGlobals mg->(∀ q∈tabs,ON base mg q.1 q.2)->Au l.prog w K mg base AN 49 fa fd ["_law_script"] (Sq K 63 (tabs.map (·.2))):=by
 have G:=T0.g;have e0:=hfa.symm.trans (W.mg_of X G XT);cases e0;have mgC:=W.mg_of X G aC;have oi:=BQ (st:=Bs) dB dC Xv;have zO:=oi.binds (ps:=["self"]) λ_ _ _ _ _ _=>Qu (λ_=>rfl);have Amz:Meth K C "__init__" f0:=⟨Xt,Xu,Xv⟩;have oj:=BQ (st:=Bt) dF dG Xw;have gq:=oj.binds (ps:=["self","word","inner"]) λ_ _ _ _ _ _=>Nv (λ_ _ _=>rfl);have gu:Meth K C "new_node" nh:=⟨dD,dE,Xw⟩;have om:=BQ (st:=BF) dJ dM Xx;have zP:=om.binds (ps:=["self"]) λ_ _ _ _ _ _=>Qu (λ_=>rfl);have zQ:Meth K C "new_gap" ni:=⟨dH,dI,Xx⟩;have oq:=BQ (st:=BR) dP dQ Xy;have Rf:=oq.binds (ps:=["self","node"]) λ_ _ _ _ _ _=>Nu D0;have Rg:Meth K C "leader" nj:=⟨dN,dO,Xy⟩;have ot:=BQ (st:=AB) dU dW Xz;have gv:=ot.binds (ps:=["self","node"]) λ_ _ _ _ _ _=>Nu D0;have gw:Meth K C "inner_leaders" nq:=⟨dR,dS,Xz⟩;have ou:=BQ (st:=Cg) dZ eh XA;have zR:=ou.binds (ps:=["self","node","level"]) λ_ _ _ _ _ _=>Nv (λ_ _ _=>rfl);have zS:Meth K C "sink" nt:=⟨dX,dY,XA⟩;have ox:=BQ (st:=BS) eC eE XB;have zT:=ox.binds (ps:=["self","node","leader"]) λ_ _ _ _ _ _=>Nv (λ_ _ _=>rfl);have zU:Meth K C "follow" nu:=⟨eA,eB,XB⟩;have oy:=BQ (st:=Bi) eK eL XC;have zV:=oy.binds (ps:=["self","one","other"]) λ_ _ _ _ _ _=>Nv (λ_ _ _=>rfl);have zW:Meth K C "make_same" nv:=⟨eG,eJ,XC⟩;have oA:=BQ (st:=Bj) eP eQ XD;have zX:=oA.binds (ps:=["self"]) λ_ _ _ _ _ _=>Qu (λ_=>rfl);have zY:Meth K C "go_deeper" nz:=⟨eM,eO,XD⟩;have oB:=BQ (st:=AF) eT eU XE;have zZ:=oB.binds (ps:=["self","top"]) λ_ _ _ _ _ _=>Nu D0;have Aaa:Meth K C "come_back" nB:=⟨eR,eS,XE⟩;have oC:=BQ (st:=Bh) eY eZ XF;have Aab:=oC.binds (ps:=["self","top","level"]) λ_ _ _ _ _ _=>Nv (λ_ _ _=>rfl);have Aac:Meth K C "copied" UE:=⟨eV,eX,XF⟩;have oE:=BQ (st:=B5) fg fh XG;have Aad:=oE.binds (ps:=["self","tops"]) λ_ _ _ _ _ _=>Nu D0;have Aae:Meth K C "number_gaps" UG:=⟨fc,ff,XG⟩;have oF:=BQ (st:=Av) fk fo XH;have Aaf:=oF.binds (ps:=["self","tops"]) λ_ _ _ _ _ _=>Nu D0;have Aag:Meth K C "kinds_under" UH:=⟨fi,fj,XH⟩;have mgD:=W.mg_of X G aD;have oG:=BQ (st:=Bl) fq fu XM;have Aah:=oG.binds (ps:=["self"]) λ_ _ _ _ _ _=>Qu (λ_=>rfl);have Am1:Meth K D "__init__" UJ:=⟨XI,XJ,XM⟩;have oH:=BQ (st:=Ci) fB fD XN;have Aai:=oH.binds (ps:=["self","tree","given","node"]) λ_ _ _ _ _ _=>aA (λ_ _ _ _=>rfl);have Aaj:Meth K D "ask" UK:=⟨fw,fA,XN⟩;have oI:=BQ (st:=AG) fH fJ XO;have Aak:=oI.binds (ps:=["self","tree","given","node","first"]) λ_ _ _ _ _ _=>u9 (λ_ _ _ _ _=>rfl)
 have Aal:Meth K D "ask_behind_first" UL:=⟨fE,fG,XO⟩;have oJ:=BQ (st:=Bm) fO fQ XQ;have Aam:=oJ.binds (ps:=["self","node","word","inner"]) λ_ _ _ _ _ _=>aA (λ_ _ _ _=>rfl);have Aan:Meth K D "has_sort" UM:=⟨fK,fM,XQ⟩;have oK:=BQ (st:=Ba) fU fV XR;have Aao:=oK.binds (ps:=["self","given","names"]) λ_ _ _ _ _ _=>Nv (λ_ _ _=>rfl);have Aap:Meth K D "given_too" UN:=⟨fR,fT,XR⟩;have oM:=BQ (st:=Bu) fZ g9 XS;have Aaq:=oM.binds (ps:=["self"]) λ_ _ _ _ _ _=>Qu (λ_=>rfl);have Aar:Meth K D "ask_all" UO:=⟨fX,fY,XS⟩;obtain ⟨gx,gy,gB,gC,gE,gF,gG,gH,gI,gJ,gK,gL,gM,gN,oN,oO,oP,oQ,oR,oS,oU,oV,XU,oW,XW,XX,XY,Rh,oX,XZ,oY,oZ,pe,ph,pj,Aas,Aat,Aau,Aav,pz,_⟩:=FL.get X G HF;obtain ⟨gO,gP,X',pA,UR,Ri,gQ,pB,Aaw,Aax,pC,Aay,pD,_⟩:=iS.get X G HN;have Aaz:=BQ (st:=K7) gc gf gh;have Am2:=W.mg_of X G XT;refine ⟨_,[],hK,?_,λs v=>(.of_eq rfl:BindsTo s (W.fnOf "law" "law" (AX K7) (AJ K7) (Ah K7) .none nY nZ o7 nX dA oa) ⟨[v],[]⟩ [("_law_script",v)]),λbase KB GB hN=>?_⟩
 ·intro q hq;cases hq
 ·skip
  have T:Cd K mg C:=⟨⟨zd,ze,zf,zg⟩,zj,zl,zo,zp,zq,zr,mgC,Ri⟩;have TF:D7 K mg D:=⟨⟨zt,hdD,zu,zv⟩,zy,zA,zB,zC,mgD⟩;have mM:=W.mg_of X G aM;have vL:=W.mg_of X G zD;have mRU:=W.mg_of X G zH;have Aa0:FU w K iJ (Yu Mu.toList):=⟨⟨Mu,og,zE,zF,zG,rfl⟩,by rw [zL];decide +kernel⟩;have Aa1:FU w K zc _:=⟨⟨Rc,oh,zI,zJ,zK,zN⟩,by simp only [xz,List.map_nil];decide +kernel⟩;have GL:=QC (Pr:=l.prog) (w:=w) (base:=base) oq T;have GNn:=aQ (Pr:=l.prog) (w:=w) (base:=base) oj T;have GNg:=Wn (Pr:=l.prog) (w:=w) (base:=base) om T GNn gq gu;have GDp:=Wo (Pr:=l.prog) (w:=w) (base:=base) oA T;have WA:=Ti (Pr:=l.prog) (w:=w) (base:=base) ot T GL Rf Rg;have GSk:=Wt (Pr:=l.prog) (w:=w) (base:=base) ou T GL Rf Rg;have GFo:=QD (Pr:=l.prog) (w:=w) (base:=base) ox T GSk zR zS;have GMs:=Wu (Pr:=l.prog) (w:=w) (base:=base) oy T X' Aay GL Rf Rg GFo zT zU;have GCp:=QI (Pr:=l.prog) (w:=w) (base:=base) oC T GL Rf Rg GNn gq gu WA gv gw;have GBk:=WH (Pr:=l.prog) (w:=w) (base:=base) oB T pD GL Rf Rg WA gv gw;have Z:NM l.prog w K mg base C:=⟨⟨_,_,GNn,gq,gu⟩,⟨_,_,GNg,zP,zQ⟩,⟨_,_,GDp,zX,zY⟩,⟨_,_,GMs,zV,zW⟩,⟨_,_,GBk,zZ,Aaa⟩,⟨_,_,GCp,Aab,Aac⟩⟩;have Y:FM l.prog w K mg base C D:=⟨⟨_,_,bp oH TF,Aai,Aaj⟩,⟨_,_,bq oI TF,Aak,Aal⟩,⟨_,_,kO oJ TF T Z,Aam,Aan⟩,⟨_,_,bu oK TF T gP,Aao,Aap⟩⟩;have R:Fu l.prog w K mg base AN 6 ["finder","tree","given","node"] [("name",.ref Xf),("number",.ref Xg),("truth",.ref Xh),("empty",.ref Xi),("fun",.ref Xj),("rec",.ref Xk),("call",.ref Xl),("let",.ref Xm),("when",.ref Xn),("pair",.ref Xo),("open",.ref Xp),("link",.ref Xq),("split",.ref Xr),("op",.ref Xs)] (Kk C D):=(AY ⟨Xf,_,rfl,kY gx.F TF T Z Y,gx.F.kp,gx.b⟩ (AY ⟨Xg,_,rfl,kT gy.F TF T Z Y,gy.F.kp,gy.b⟩ (AY ⟨Xh,_,rfl,kU gB.F TF T Z Y,gB.F.kp,gB.b⟩ (AY ⟨Xi,_,rfl,kZ gC.F TF T Z Y,gC.F.kp,gC.b⟩ (AY ⟨Xj,_,rfl,kR gE.F TF T Z Y,gE.F.kp,gE.b⟩ (AY ⟨Xk,_,rfl,l5 gF.F TF T Z Y,gF.F.kp,gF.b⟩ (AY ⟨Xl,_,rfl,la gG.F TF T Z Y,gG.F.kp,gG.b⟩ (AY ⟨Xm,_,rfl,lA gH.F TF T Z Y,gH.F.kp,gH.b⟩ (AY ⟨Xn,_,rfl,lb gI.F TF T Z Y,gI.F.kp,gI.b⟩ (AY ⟨Xo,_,rfl,l6 gJ.F TF T Z Y,gJ.F.kp,gJ.b⟩ (AY ⟨Xp,_,rfl,lu gK.F TF T Z Y,gK.F.kp,gK.b⟩ (AY ⟨Xq,_,rfl,l8 gL.F TF T Z Y,gL.F.kp,gL.b⟩ (AY ⟨Xr,_,rfl,lx gM.F TF T Z Y,gM.F.kp,gM.b⟩ (AY ⟨Xs,_,rfl,lh gN.F TF T Z Y,gN.F.kp,gN.b⟩ O0))))))))))))));have vh:Cl l.prog w K mg base 6 "go_on_behind_first" ["finder","tree","given","node","first"] (bG C D):=oN.cl (lC oN.F TF T Z Y)
  have vE:Mc l.prog w K mg base AN D 7 "ask_all" ["self"] (TN C D):=⟨_,_,bH oM TF Aa1 mRU R vh,Aaq,Aar⟩;have GNi:=lH (Pr:=l.prog) (w:=w) (base:=base) oi T;have GFi:=lJ (Pr:=l.prog) (w:=w) (base:=base) oG TF T Z ⟨zh,Xt,Xu,zi⟩ GNi zO;have cL:Mc l.prog w K mg base AN C 1 "leader" ["self","node"] (Bz C):=⟨_,_,GL,Rf,Rg⟩;have vF:Mc l.prog w K mg base AN C 2 "number_gaps" ["self","tops"] (TV C):=⟨_,_,bT oE T X' pA cL,Aad,Aae⟩;have vG:Mc l.prog w K mg base AN C 3 "kinds_under" ["self","tops"] (TY C):=⟨_,_,bV oF T UR cL ⟨_,_,WA,gv,gw⟩,Aaf,Aag⟩;have vX:Cl l.prog w K mg base 8 "widest" ["tree"] cj:=oO.cl (lZ oO.F TF T Z Y ⟨zw,XI,XJ,zx⟩ GFi Aah X' gO vE vF vG cL);have Aa3:Cl l.prog w K mg base 1 "names_at" ["tree","places"] (Pk K):=oQ.cl (ck oQ.F UR);have cPw:Cl l.prog w K mg base 2 "parts_with_names" ["tree"] U6:=oR.cl (cm oR.F Aa0 vL (dq zM) Aa3);have cWn:Cl l.prog w K mg base 1 "with_names" ["given","names"] cw:=oS.cl (ma oS.F gP);have vV:Cl l.prog w K mg base 3 "missing_names" ["tree"] cy:=oU.cl (mh oU.F pA cWn cPw);have vW:Cl l.prog w K mg base 4 "first_missing_name" ["tree"] cz:=oV.cl (mv oV.F vV);have cKo:Cl l.prog w K mg base 9 "kind_of" ["tree"] QX:=oP.cl (mx oP.F vW vX);have cT:Cl l.prog w K mg base 10 "_law_kind_told" ["_law_tree"] QX:=pz.cl (my pz.F gQ mM x339 cKo);have cM:Cl l.prog w K mg base 2 "_law_mix" KL (Ff K):=oW.cl (cH oW.F (X8 XU.F Ri) XU.F.kp XU.b XU.m);have cI:Cl l.prog w K mg base 1 "_law_int" ["_law_number"] Pq:=oZ.cl (cJ oZ.F);have cN:Cl l.prog w K mg base 1 "_law_name" ["_law_number"] Iq:=pe.cl (X9 pe.F);have cV:Cl l.prog w K mg base 1 "_law_with" ["_law_names","_law_more"] Gx:=pj.cl (Xb pj.F);have cG:Cl l.prog w K mg base 5 "_law_ground" ["_law_script","_law_k","_law_deep"] (D8 K 2):=Gw ph cM 2;have cG3:Cl l.prog w K mg base 6 "_law_ground" ["_law_script","_law_k","_law_deep"] (D8 K 3):=Gw ph cM 3;have GP:=λn=>Ma (Pr:=l.prog) (w:=w) (base:=base) Rh.F Rh.b Rh.m gO Ri n;have cW:Cl l.prog w K mg base 11 "_law_wider" ["_law_wide","_law_kind"] (F3 8):=oX.cl (Ux (n:=8) oX.F gP pC (GP 8) Rh.F.kp Rh.b Rh.m);have cMd:Cl l.prog w K mg base 48 "_law_made" J1 (Dp K 12):=Mg ⟨Aas,Aau,Aat,Aav⟩ Ri pD pB X' UR gO cM cN cV cI cG cW 12;have cIk:Cl l.prog w K mg base 5 "_law_is_kind" ["_law_found"] (EO 3):=XZ.cl (JC XZ.F XZ.b XZ.m gQ UR Aax Ri pC (Uc XW.F gQ pB Aaw) XW.F.kp XW.b XW.m 3);have cGa:Cl l.prog w K mg base 5 "_law_gaps" ["_law_kind"] (Ip 3):=XY.cl (Pp XY.F XY.b XY.m 3);have cFl:Cl l.prog w K mg base 5 "_law_filled" ["_law_kind","_law_told"] (FW 3):=XX.cl (M9 XX.F XX.b XX.m UR 3);have cPl:Cl l.prog w K mg base 6 "_law_plain" ["_law_kind"] (Uo 3):=oY.cl (cC oY.F Ri cGa cFl);exact dj Aaz cM cG3 cMd cT cIk cPl cW
end K
namespace PySem.W.Fast
def tw3832894132824532645:=0
def tw8162861303029657317:=0
def tw15882922294807016800:=0
def tw93183743269844896:=0
def tw189021131782520404:=0
def tw5355064556910262406:=0
def tw8184291332255291136:=0
def tw9861413285462164404:=0
def tw14013858468636976351:=0
def tw14518354734976836564:=0
def tw15118980551359690879:=0
def tw16558058970825148219:=0
def tw12206633672764860421:=0
def tw2619893285128173261:=0
def tw12829148540339902376:=0
def tw7221528500599679903:=0
def tw412599585738551941:=0
def tw15840788601143320381:=0
def tw14863465382553631113:=0
def tw12079823412141724490:=0
def tw11682549323469851635:=0
def tw141997591608771189:=0
def tw1982089558007935113:=0
def tw10503172177621912824:=0
def tw1533110666737656951:=0
def tw8698198421083099012:=0
def tw4931966657748470109:=0
def tw15173678070172618591:=0
def tw17282359021489466191:=0
def tw16202139518214096898:=0
def tw16771707181114517074:=0
def tw2909900372134033111:=0
def tw2724527473061343139:=0
def tw12766761057111670518:=0
def tw13061820956495761051:=0
def tw7818411845255184463:=0
def tw4800333992873415858:=0
def tw11311221667815651270:=0
def tw14998079635634651841:=0
def tw5828998884795894015:=0
def tw9367187235224543140:=0
def tw916075842390092554:=0
def tw4276138048550858296:=0
def tw7187182109183607419:=0
def tw9396935232042524081:=0
def tw17052517354111591302:=0
def tw13070279801075489414:=0
def tw10239827144909464974:=0
def tw17273468955921415603:=0
def tw5933391507776888767:=0
def tw4645469096453657814:=0
def tw1610823197523913557:=0
def tw703902469675129037:=0
def tw15902556969815444988:=0
def tw17058172167695251001:=0
def tw1480788654846227641:=0
def tw3834784503651847435:=0
def tw17449749658230406211:=0
def tw9644747871975067963:=0
def tw9412696647709294412:=0
def tw2450067271794641124:=0
def tw17110422919730741738:=0
def tw14658107186621632715:=0
def tw13286567284340267687:=0
def tw10871901286906492077:=0
def tw3791759170239183550:=0
def tw15456964973493028823:=0
def tw7610290685139447641:=0
def tw5683538245631128955:=0
def tw12348592561372741796:=0
def tw273406216567998924:=0
def tw7981470302950260331:=0
def tw11667653011026306812:=0
def tw2011819788925636156:=0
def tw16868064820251269299:=0
def tw3421834481234940217:=0
def tw13903946364732232932:=0
def tw8024942455312559362:=0
def tw1468537134227040534:=0
def tw11340368136057730907:=0
def tw13443058942441161234:=0
def tw15195468547653298074:=0
def tw18323496864681221310:=0
def tw4813072786100063944:=0
def tw15836539368912834889:=0
def tw12157143774154543500:=0
def tw6692657764057663811:=0
def tw7780694300015022070:=0
def tw2645851320303586769:=0
def tw91000468908165467:=0
def tw2351152338037316136:=0
def tw239102244786475785:=0
def tw1020614046334794399:=0
def tw3277034279606893240:=0
def tw8389369219165862317:=0
def tw10376451646662923242:=0
def tw1711210296463421327:=0
def tw16098438204681996045:=0
def tw11662384816457650571:=0
def tw7490638035131569374:=0
def tw9322893234985868699:=0
def tw17774115215216673187:=0
def tw17684529746081213559:=0
def tw18398256137742571922:=0
def tw14076216561611770442:=0
def tw9375930605661388251:=0
def tw10476938351129019664:=0
def tw6297105102825604834:=0
def tw11931778399457432622:=0
def tw11252508555047944512:=0
def tw9654836716369479451:=0
def tw11332858017967256648:=0
def tw4659472828356960164:=0
def tw17083768136719917560:=0
def tw1823221321600731733:=0
def tw9333765820360000590:=0
def tw13894366749125150589:=0
def tw9178270720465972479:=0
def tw15804218950662648717:=0
def tw580322678329564234:=0
def tw8240807880877519815:=0
def tw18218987457170870355:=0
def tw15752557620848989659:=0
def tw9857821014554808205:=0
def tw10123766020702111332:=0
def tw10364249391038105055:=0
def tw1546943533354380347:=0
def tw13799178988747295167:=0
def tw11821948071278962080:=0
def tw16762213232438185874:=0
def tw15527834338590016678:=0
def tw15743946668442163918:=0
def tw3356160700485866084:=0
def tw3437642216147135769:=0
def tw13609031273350822269:=0
def tw453079280401795541:=0
def tw2591255493906728508:=0
def tw4009758236201205596:=0
def tw8412969016616356906:=0
def tw7536474131212884427:=0
def tw1726426332714596733:=0
def tw11266728551022883051:=0
def tw4787057444249149825:=0
def tw13209404741945382099:=0
def tw1826066284372474448:=0
def tw9130795434973686256:=0
def tw8740462285540933865:=0
def tw18232599935551218186:=0
def tw17547981712076203082:=0
def tw3491553058545968105:=0
def tw15918487856545567846:=0
def tw8911360911713752637:=0
def tw6941608092240695473:=0
def tw10567114428089341958:=0
def tw4858474672496460919:=0
def tw9761756319537751732:=0
def tw2075576009180360100:=0
def tw12370944307079114668:=0
def tw14092958256183993581:=0
def tw8136011163809900755:=0
def tw11219946429203545278:=0
def tw18074873987972117501:=0
def tw14267520316001190662:=0
def tw8231792541442955614:=0
def tw4638184765746360547:=0
def tw921738311098721325:=0
def tw1345997765507295541:=0
def tw9691537208404575849:=0
def tw18292131332399128272:=0
def tw7784332389369934352:=0
def tw8578180847275790975:=0
def tw7548979274579268420:=0
def tw8595202854879551576:=0
def tw3103427684118316365:=0
def tw14146068678000343821:=0
def tw17559699419044928420:=0
def tw6392220021489873064:=0
def tw8924758732665081340:=0
def tw6186043311526962523:=0
def tw6614096445215123045:=0
def tw1429438611730249289:=0
def tw11450623369440821072:=0
def tw12125980824437228970:=0
def tw15872279164006268780:=0
def tw1483814478661437267:=0
def tw6034049042663357838:=0
def tw7394434364205638477:=0
def tw12247198930807555036:=0
def tw8218960103225456602:=0
def tw11788069774505378653:=0
def tw6187726603114789695:=0
def tw17887417922026781922:=0
def tw5636536160727412062:=0
def tw8716098763716398101:=0
def tw4969821621678063630:=0
def tw9596093170264093221:=0
def tw3007047355937756942:=0
def tw3161522403741595555:=0
def tw17142201090738030030:=0
def tw18182350510481450699:=0
def tw15808665041812285239:=0
def tw10108197886626436768:=0
def tw11622508988861181863:=0
def tw17321150879796030266:=0
def tw7447811379210591228:=0
def tw6515600416729791902:=0
def tw17469790009529552314:=0
def tw4023056780413633619:=0
def tw6336141025662462235:=0
def tw11633886747062265632:=0
def tw12747049307962090935:=0
def tw16352333496121016828:=0
def tw5533368405962578988:=0
def tw6160899916472913231:=0
def tw17778706298827253238:=0
def tw2987633225277206941:=0
def tw14455639509526211486:=0
def tw2086624253394262174:=0
def tw13869197943553312228:=0
def tw5747256169491000643:=0
def tw6573799248535890974:=0
def tw16289519917342135710:=0
def tw5104774281885281603:=0
def tw4164178580082456256:=0
def tw11869978469312542427:=0
def tw10472590664898009791:=0
def tw6549730175468323079:=0
def tw16133766317968679139:=0
def tw17984704584830737943:=0
def tw16109810833899395281:=0
def tw6940830673426251925:=0
def tw7071206468680674328:=0
def tw8463138994780422553:=0
def tw7412686299780866938:=0
def tw11883468060148774700:=0
def tw90029111954886593:=0
def tw4204958662538115684:=0
def tw17208106545075137226:=0
def tw6089127920257035317:=0
def tw18236143341364602223:=0
def tw17420922246792727466:=0
def tw4583510418686923092:=0
def tw11914651502437299467:=0
def tw12981109143940520633:=0
def tw13366327711092138802:=0
def tw9009286786848395120:=0
def tw7180855346041563929:=0
def tw738660224853471419:=0
def tw7364043704268957675:=0
def tw5416235514194731406:=0
def tw11898536035458729160:=0
def tw825770882666156426:=0
def tw12858627793898200083:=0
def tw17182463380246398607:=0
def tw8322849172417542376:=0
def tw4012064323708595630:=0
def tw17533580734017680466:=0
def tw7321790398051779690:=0
def tw3302732939631754901:=0
def tw13353118639371114955:=0
def tw11044187447668080430:=0
def tw3347019951197832348:=0
end PySem.W.Fast
open PySem PySem.W PyProof.Rows
set_option maxRecDepth 100000 in
set_option maxHeartbeats 0 in
theorem PySem.Challenge.cw_kindspan_k20_whole_widest_holds : PySem.Challenge.rw_kindspan_k20_whole_widest.Holds := by
 w_on;o_law;k_head;(case hw=>w_witness2)
 k_fill
 refine L2.jA (l:=PySem.Challenge.rw_kindspan_k20_whole_widest) (n:=63) (k:=49) (x:="_law_script") rfl (by decide) rfl ⟨rfl,by decide,by decide⟩ (fun w h Y=>PySem.W.kIn_of Y) ?F
 case F =>
  intro w mg mb VT fa h KX T jm
  refine' K.all_mk (ts:=[]) KX (fun P hP=>by cases hP) T jm ?aCz_ ?Xtz_ ?Xuz_ ?dBz_ ?dCz_ ?Xvz_ ?dDz_ ?dEz_ ?dFz_ ?dGz_ ?Xwz_ ?dHz_ ?dIz_ ?dJz_ ?dMz_ ?Xxz_ ?dNz_ ?dOz_ ?dPz_ ?dQz_ ?Xyz_ ?dRz_ ?dSz_ ?dUz_ ?dWz_ ?Xzz_ ?dXz_ ?dYz_ ?dZz_ ?ehz_ ?XAz_ ?eAz_ ?eBz_ ?eCz_ ?eEz_ ?XBz_ ?eGz_ ?eJz_ ?eKz_ ?eLz_ ?XCz_ ?eMz_ ?eOz_ ?ePz_ ?eQz_ ?XDz_ ?eRz_ ?eSz_ ?eTz_ ?eUz_ ?XEz_ ?eVz_ ?eXz_ ?eYz_ ?eZz_ ?XFz_ ?fcz_ ?ffz_ ?fgz_ ?fhz_ ?XGz_ ?fiz_ ?fjz_ ?fkz_ ?foz_ ?XHz_ ?zdz_ ?zez_ ?zfz_ ?zgz_ ?zhz_ ?ziz_ ?zjz_ ?zlz_ ?zoz_ ?zpz_ ?zqz_ ?zrz_ ?aDz_ ?XIz_ ?XJz_ ?fqz_ ?fuz_ ?XMz_ ?fwz_ ?fAz_ ?fBz_ ?fDz_ ?XNz_ ?fEz_ ?fGz_ ?fHz_ ?fJz_ ?XOz_ ?fKz_ ?fMz_ ?fOz_ ?fQz_ ?XQz_ ?fRz_ ?fTz_ ?fUz_ ?fVz_ ?XRz_ ?fXz_ ?fYz_ ?fZz_ ?g9z_ ?XSz_ ?ztz_ ?hdDz_ ?zuz_ ?zvz_ ?zwz_ ?zxz_ ?zyz_ ?zAz_ ?zBz_ ?zCz_ ?HFz_ ?HNz_ ?XTz_ ?gcz_ ?gfz_ ?ghz_ ?aMz_ ?x339z_ ?zDz_ ?zEz_ ?zFz_ ?zGz_ ?zHz_ ?zIz_ ?zJz_ ?zKz_ ?zLz_ ?zMz_ ?zNz_ ?hKz_
  (case aCz_|Xtz_|Xuz_|dBz_|dCz_|Xvz_|dDz_|dEz_|dFz_|dGz_|Xwz_|dHz_|dIz_|dJz_|dMz_|Xxz_|dNz_|dOz_|dPz_|dQz_|Xyz_|dRz_|dSz_|dUz_|dWz_|Xzz_|dXz_|dYz_|dZz_|ehz_|XAz_|eAz_|eBz_|eCz_|eEz_|XBz_|eGz_|eJz_|eKz_|eLz_|XCz_|eMz_|eOz_|ePz_|eQz_|XDz_|eRz_|eSz_|eTz_|eUz_|XEz_|eVz_|eXz_|eYz_|eZz_|XFz_|fcz_|ffz_|fgz_|fhz_|XGz_|fiz_|fjz_|fkz_|foz_|XHz_|zdz_|zez_|zfz_|zgz_|zhz_|ziz_|zjz_|zlz_|zoz_|zpz_|zqz_|zrz_|aDz_|XIz_|XJz_|fqz_|fuz_|XMz_|fwz_|fAz_|fBz_|fDz_|XNz_|fEz_|fGz_|fHz_|fJz_|XOz_|fKz_|fMz_|fOz_|fQz_|XQz_|fRz_|fTz_|fUz_|fVz_|XRz_|fXz_|fYz_|fZz_|g9z_|XSz_|ztz_|hdDz_|zuz_|zvz_|zwz_|zxz_|zyz_|zAz_|zBz_|zCz_=>k_is)
  case HFz_=>
   iterate 40 (show _/\_;refine ⟨⟨by k_is,⟨⟨_,_,_,_,_,_,_,_,_,rfl,by k_is,by k_is⟩,by k_is⟩,fun _ _ _ _ _ _=>L2.Akv (by first | exact .inl ⟨rfl,fun _=>rfl⟩ | exact .inr (.inl ⟨rfl,fun _ _=>rfl⟩) | exact .inr (.inr (.inl ⟨rfl,fun _ _ _=>rfl⟩)) | exact .inr (.inr (.inr (.inl ⟨rfl,fun _ _ _ _ _=>rfl⟩))) | exact .inr (.inr (.inr (.inr (.inl ⟨rfl,fun _ _ _ _ _ _ _=>rfl⟩)))) | exact .inr (.inr (.inr (.inr (.inr ⟨rfl,fun _ _ _ _=>rfl⟩)))))⟩,?_⟩)
   trivial
  case HNz_=>
   iterate 13 (show _/\_;refine ⟨by k_is,?_⟩)
   trivial
  (case XTz_|gcz_|gfz_|ghz_|aMz_=>k_is)
  (case x339z_=>first | k_is | kernel_rfl)
  (case zDz_|zEz_=>k_is)
  (case zFz_=>rfl)
  (case zGz_=>rfl)
  (case zHz_|zIz_=>k_is)
  (case zJz_=>rfl)
  (case zKz_=>rfl)
  (case zLz_=>rfl)
  (case zMz_=>first | rfl | kernel_rfl)
  (case zNz_=>rfl)
  (case hKz_=>kernel_rfl)

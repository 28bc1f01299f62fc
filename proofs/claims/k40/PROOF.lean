import PyProof.Rows.All
import Wide.All
import OpenK.AllK
import Wide.FinOn
import Lean
import PyProof.EqAt
import PyProof.EqKinds
import PyProof.TupleCall
import PyProof.NeKinds
import PyProof.SumAny
import KE.KDictList
import KE.KDictOf
import PyProof.AttrMissHeap
import PyProof.Conv_int_bool
import PyProof.TupleOfStr
import PyProof.CollectIter
import PyProof.ListRange
import PyProof.DictWalks
import PyProof.ConsumeS
import PyProof.WalkInts
import PyProof.Draws
import PyProof.EnumFor
import PyProof.EnumStmt
import KE.KDictLaws
import KE.KRevIter
import KE.KDictSum
import PyProof.SeqRoads2
import PyProof.EqAt
import PyProof.EnumMake
import PyProof.ZipIter
import PyProof.InstStore
import PyProof.InstStoreFacts
import PyProof.ExcInit
import PyProof.ExcClass2
import PyProof.NsDelKeeps
import PyProof.ExcArgsOwn
import PyProof.Rows.SetFrom
import PyProof.SetRoads
import KE.KIsAll
import KE.IntTextText
import KE.KIntText
import PyProof.StrBlock2
import PyProof.FString5
import PyProof.CallStr
import PyProof.StrWalks
import PyProof.StrCalls
import PyProof.StrCalls2
import PyProof.SliceStr2
import PyProof.StrBlockI
import PyProof.Rows.StrJoin2
import PyProof.CallRoads3
import PyProof.TupleKey
import PyProof.Rows.Range3
import PyProof.AutoListH
import PyProof.Rows.SortShell
import PyProof.SetRoads
import PyProof.Rows.SetFrom
import PyProof.WalkInts
import PyProof.EqAt
import PySem.Challenge.RW_tryweir_k40_whole_tries_counted
open PySem.W (Frag)
open List (mem_filter mem_range filterMap_cons mem_cons_self mem_cons_of_mem mem_cons mem_append mem_append_left mem_append_right length_cons map_cons length_map append_nil nodup_cons of_mem_zip length_take getElem?_append_right getElem?_append_left getElem?_map mem_of_getElem? length_append length_replicate size_toArray length_drop length_set all_cons any_cons replicate_succ flatten_cons append_assoc foldl_cons length_singleton map_nil find?_cons length_nil lookup_cons all_eq_true getElem_of_mem getElem_mem nil_append mem_singleton take_length getElem?_set getElem?_eq_getElem mem_map getElem?_range getElem_toArray map_append map_take map_drop map_congr_left getElem?_cons_succ ext_getElem? getElem?_eq_none map_map mem_iff_getElem? set_append_right getD_eq_getElem?_getD not_mem_nil length_range take_succ range_succ drop_zero sum_cons take_of_length_le filter_append filter_cons filter_nil)
set_option Elab.async false
set_option linter.all false
set_option maxRecDepth 100000
local macro_rules | `(tactic| ac_rfl) => `(tactic| exact ⟨rfl, rfl, rfl, by decide +kernel, rfl, by decide +kernel, by decide +kernel⟩)
abbrev Q0:=@List.getElem?_eq_getElem
abbrev Q1:=@PySem.wpAny_bind
abbrev Q2:=@PySem.Heap.get?_push_of_some
abbrev Q3:=@Nat.le_refl
abbrev Q4:=@Bool.false_ne_true
abbrev Q5:=@Nat.lt_of_lt_of_le
abbrev Q6:=@List.getElem?_append_left
abbrev Q7:=@List.getD_eq_getElem?_getD
abbrev Q8:=@List.getElem?_append_right
abbrev Q9:=@Int.fmod_eq_emod_of_nonneg
abbrev Qa:=@List.mem_of_getElem?
abbrev Qb:=@List.getElem?_map
abbrev Qc:=@List.getElem?_set
abbrev Qd:=@Option.some.inj
abbrev Qe:=@PySem.Heap.lt_size
abbrev Qf:=@PySem.wpAny_pure
abbrev Qg:=@PySem.wpAny_mono
abbrev Qh:=@List.length_map
abbrev Qi:=@List.size_toArray
abbrev Qj:=@Nat.le_trans
abbrev Qk:=@Nat.ne_of_lt
abbrev Ql:=@PySem.Heap.get?_push_size
abbrev Qm:=@List.mem_append_right
abbrev Qn:=@List.length_append
abbrev Qo:=@Nat.lt_irrefl
abbrev Qp:=@List.length_cons
abbrev Qq:=@List.map_append
abbrev Qr:=@List.length_take
abbrev Qs:=@Bool.and_eq_true
abbrev Qt:=@PySem.wpAny_newObj_type
abbrev Qu:=@List.length_singleton
abbrev Qv:=@Nat.sub_self
abbrev Qw:=@decide_eq_true
abbrev Qx:=@decide_eq_false
abbrev Qy:=@beq_self_eq_true
abbrev Qz:=@List.getElem?_eq_some_iff
abbrev QA:=@if_pos
abbrev QB:=@if_neg
abbrev QC:=@PySem.F.plainAttrs_list
abbrev QD:=@List.mem_cons
abbrev QE:=@PySem.F.type_list_append
abbrev QF:=@PySem.F.slot_list_append
abbrev QG:=@List.map_cons
abbrev QH:=@Int.toNat_natCast
abbrev QI:=@List.mem_singleton
namespace My
open PySem
noncomputable def zsj:Stmt->Bool
 | .Assign [.Name x _] _ _=>!(x == "__name__")
 | _=>true
noncomputable abbrev pg:Program:=PySem.Challenge.rw_tryweir_k40_whole_tries_counted.prog
noncomputable def vw:Program:={ pg with main:={ pg.main with body:=pg.main.body.filter zsj } }
end My
section
open PySem PySem.W PyProof.Rows in
local macro_rules | `(tactic| o_head $H) => `(tactic| refine holds_open (q := My.vw) (loose := []) (Xt := fun s => xlAt My.vw [] s && recOk (RowW.records (OpenRow.toRowW (OpenLaw.row PySem.Challenge.rw_tryweir_k40_whole_tries_counted))) s) (XP := XL My.vw []) (Yf := Hook.obs $H) (Ya := Hook.val $H) (YP := Hook.says $H) (N := 40000) (by intro w; kernel_rfl) (Hook.of $H) (Hook.keeps $H) (fun s e => xl_of s (Bool.and_eq_true_iff.mp e).1) XL.keeps (by rfl) (by rfl) (by rfl) (fun s e => recFacts_of (Bool.and_eq_true_iff.mp e).2) (by rfl) (by first | assumption | decide +kernel) (by decide +kernel) ⟨rfl, rfl, rfl, rfl, rfl, by decide +kernel⟩ ?hw ?hc)
open PySem PySem.W PyProof.Rows in
set_option maxHeartbeats 0 in
noncomputable def My.hdD:Σ' P:Prop,P->PySem.Challenge.rw_tryweir_k40_whole_tries_counted.Holds:=by
 refine ⟨?P,fun hc=>?_⟩
 rotate_left
 ·w_on;o_law;k_head;(case hw=>w_witness2)
  exact hc
end
namespace L2
open PySem PySem.Spec PyProof.Rows
noncomputable abbrev Key:=Sum Int Str
noncomputable def ze0:Key->Value->Bool
 | .inl k,v=>Value.isInt k v
 | .inr x,v=>Value.isStrOf x v
noncomputable def zsh (w:World):Key->Int
 | .inl k=>hashInt k
 | .inr x=>hashStr w x
theorem zS:∀ {k:Key} {v:Value},ze0 k v = true->(∃ i t,k = Sum.inl i/\v = Value.int i t)\/(∃ x t,k = Sum.inr x/\v = Value.str x t)
 | .inl i,v,h=>by
  obtain ⟨t,e⟩:=Value.isInt_shape (k:=i) (v:=v) h
  exact .inl ⟨i,t,rfl,e⟩
 | .inr x,v,h=>by
  obtain ⟨t,e⟩:=Value.isStrOf_shape (x:=x) (v:=v) h
  exact .inr ⟨x,t,rfl,e⟩
theorem zle (i:Int) (t:Tok):ze0 (.inl i) (.int i t) = true:=by simp [ze0,Value.isInt]
theorem zld (x:Str) (t:Tok):ze0 (.inr x) (.str x t) = true:=by simp [ze0,Value.isStrOf]
theorem zpO (a b:Int):decide ((Sum.inl a:Key) = Sum.inl b) = (a == b):=by
 by_cases e:a = b
 ·subst e;simp
 ·have h:¬ (Sum.inl a:Key) = Sum.inl b:=fun q=>e (Sum.inl.inj q)
  rw [Qx h]
  exact (beq_eq_false_iff_ne.mpr e).symm
theorem zpL (a b:Str):decide ((Sum.inr a:Key) = Sum.inr b) = decide (a = b):=by
 by_cases e:a = b
 ·subst e;simp
 ·have h:¬ (Sum.inr a:Key) = Sum.inr b:=fun q=>e (Sum.inr.inj q)
  rw [Qx h,Qx e]
theorem zpN (a:Int) (b:Str):decide ((Sum.inl a:Key) = Sum.inr b) = false:=Qx (fun q=>nomatch q)
theorem zpM (a:Str) (b:Int):decide ((Sum.inr a:Key) = Sum.inl b) = false:=Qx (fun q=>nomatch q)
noncomputable def yO (prog:Program) (w:World):PySem.KeyKind prog w Key where
 is:=ze0
 hash:=zsh w
 inj:=fun v a b ha hb=>by
  rcases zS ha with ⟨i,t,rfl,rfl⟩ | ⟨x,t,rfl,rfl⟩
  ·rcases zS hb with ⟨j,u,rfl,e⟩ | ⟨y,u,rfl,e⟩
   ·injection e with e1 _;rw [e1]
   ·exact nomatch e
  ·rcases zS hb with ⟨j,u,rfl,e⟩ | ⟨y,u,rfl,e⟩
   ·exact nomatch e
   ·injection e with e1 _;rw [e1]
 byValue:=fun k v h=>by
  rcases zS h with ⟨i,t,rfl,rfl⟩ | ⟨x,t,rfl,rfl⟩ <;> rfl
 pyHash:=fun hv h=>by
  rcases zS hv with ⟨i,t,rfl,rfl⟩ | ⟨x,t,rfl,rfl⟩
  ·exact wpAny_pyHash_int h
  ·exact wpAny_pyHash_str h
 eqBool:=fun hu hv h=>by
  rcases zS hu with ⟨i,t,rfl,rfl⟩ | ⟨x,t,rfl,rfl⟩
  ·rcases zS hv with ⟨j,u,rfl,rfl⟩ | ⟨y,u,rfl,rfl⟩
   ·rw [zpO] at h;exact wpAny_eqBool_int h
   ·rw [zpN] at h;exact SeqAt.EqAt.int_str i t y u _ _ _ _ h
  ·rcases zS hv with ⟨j,u,rfl,rfl⟩ | ⟨y,u,rfl,rfl⟩
   ·rw [zpM] at h;exact SeqAt.EqAt.str_int x t j u _ _ _ _ h
   ·rw [zpL] at h;exact wpAny_eqBool_str h
 «strs»:=fun k x t v h=>by
  rcases zS h with ⟨i,u,rfl,e⟩ | ⟨y,u,rfl,e⟩
  ·exact nomatch e
  ·injection e with e1 _
   subst e1
   cases v <;> rfl
theorem zjb (prog:Program) (w:World) (i:Int) (t:Tok):(yO prog w).is (.inl i) (.int i t) = true:=zle i t
theorem zja (prog:Program) (w:World) (x:Str) (t:Tok):(yO prog w).is (.inr x) (.str x t) = true:=zld x t
inductive V where
 | non | bl (b:Bool) | int (i:Int) | str (x:Str) | byt (b:Array UInt8) | flt (b:UInt64) | ref (a:Addr) | ty (n:String)
 deriving DecidableEq
noncomputable def RelV:V->Value->Prop
 | .non,u=>u = Value.none
 | .bl b,u=>u = Value.bool b
 | .int i,u=>∃ t,u = Value.int i t
 | .str x,u=>∃ t,u = Value.str x t
 | .byt b,u=>∃ t,u = Value.bytes b t
 | .flt b,u=>∃ t,u = Value.float b t
 | .ref a,u=>u = Value.ref a
 | .ty n,u=>u = Value.type n
noncomputable abbrev Vals:List V->List Value->Prop:=Paired RelV
variable {xs:List V} {us:List Value}
theorem Vals.length (r:Vals xs us):xs.length = us.length:=Paired.length r
theorem Vals.get:∀ {xs:List V} {us:List Value} {i:Nat} {x:V},Vals xs us->xs[i]? = some x->∃ u,us[i]? = some u/\RelV x u
 | _,_,_,_,.nil,e=>by simp at e
 | _,_,0,_,.cons r _,e=>by simp at e;subst e;exact ⟨_,rfl,r⟩
 | _,_,i + 1,x,.cons _ t,e=>by
  obtain ⟨u,h1,h2⟩:=Vals.get (i:=i) (x:=x) t (by simpa using e)
  exact ⟨u,by simpa using h1,h2⟩
theorem Vals.set {x:V} {u:Value} (r:RelV x u):∀ {xs:List V} {us:List Value} (i:Nat),Vals xs us->Vals (xs.set i x) (us.set i u)
 | _,_,_,.nil=>.nil
 | _,_,0,.cons _ t=>.cons r t
 | _,_,i + 1,.cons q t=>.cons q (Vals.set r i t)
theorem Vals.append:∀ {xs ys:List V} {us ws:List Value},Vals xs us->Vals ys ws->Vals (xs ++ ys) (us ++ ws)
 | _,_,_,_,.nil,s=>s
 | _,_,_,_,.cons r t,s=>.cons r (Vals.append t s)
theorem Vals.take:∀ {xs:List V} {us:List Value} (n:Nat),Vals xs us->Vals (xs.take n) (us.take n)
 | _,_,0,_=>.nil
 | _,_,_ + 1,.nil=>.nil
 | _,_,n + 1,.cons r t=>.cons r (Vals.take n t)
theorem Vals.drop:∀ {xs:List V} {us:List Value} (n:Nat),Vals xs us->Vals (xs.drop n) (us.drop n)
 | _,_,0,r=>r
 | _,_,_ + 1,.nil=>.nil
 | _,_,n + 1,.cons _ t=>Vals.drop n t
theorem Vals.none_of:∀ {xs:List V} {us:List Value} {i:Nat},Vals xs us->xs[i]? = none->us[i]? = none:=fun {xs us i} r e=>by
 have h1:=r.length
 have h2:xs.length<=i:=List.getElem?_eq_none_iff.mp e
 exact List.getElem?_eq_none_iff.mpr (by omega)
noncomputable def RelO:Option V->Option Value->Prop
 | some v,some u=>RelV v u
 | none,none=>True
 | _,_=>False
noncomputable def KV {κ:Type}:List (κ × V)->List (κ × Value)->Prop:=Paired fun (p:κ × V) (q:κ × Value)=>p.1 = q.1/\RelV p.2 q.2
noncomputable def kV:Key->V
 | .inl i=>.int i
 | .inr x=>.str x
inductive HO where
 | lst (xs:List V)
 | tup (xs:List V)
 | dK (kvs:List (Key × V)) | dT (kvs:List (List Key × V))
 | set (S:Int->Bool) (n:Nat)
 | ins (C dx:Addr) (fs:List (Str × V))
 | own (x:Addr)
 | xd (fs:List (Str × V))
 | met (f x:Addr)
 | rng (lo hi:Int)
 | frz (o:Obj) (u:HO)
 | tbl (ps:Array Value)
 | ext (φ:Heap->Prop)
noncomputable abbrev Hp:=Addr->Option HO
noncomputable def upd (H:Hp) (a:Addr) (o:HO):Hp:=fun b=>if b = a then some o else H b
variable {o:HO} {H:Hp}
theorem yC {a:Addr} :upd H a o a = some o:=by unfold upd;rw [QA rfl]
theorem zm {a b:Addr} (h:b ≠ a):upd H a o b = H b:=by unfold upd;rw [QB h]
theorem zeZ {a b:Addr} {u:HO} (h:H a = some o) (h':H b = some u) (d:o ≠ u):a ≠ b:=by
 intro e;subst e;rw [h] at h';exact d (Qd h')
theorem zE {a b:Addr} (h:H a = some o) (h':H b = none):a ≠ b:=by
 intro e;subst e;rw [h] at h';cases h'
def NoDict (h:Heap) (a:Addr):Prop:=∀ o,h.get? a = some o->o.dict = none
variable {h:Heap} {n:Nat}
theorem NoDict.new {its:Array Value} {n:Nat}:NoDict (h.push { cls:=.type "tuple",data:=.seq its n }) h.objs.size:=fun o e=>by
 rw [Ql _ rfl] at e;cases e;rfl
section
variable (P:Program) (w:World)
noncomputable def ObjOk (H:Hp) (h:Heap) (a:Addr):HO->Prop
 | .lst xs=>xs.length<=sizeLine/\∃ (its:List Value) (n:Nat),Vals xs its/\h.get? a = some { cls:=.type "list",data:=.seq its.toArray n }
 | .tup xs=>xs.length<=sizeLine/\∃ its:List Value,Vals xs its/\IsTup h a its.toArray/\NoDict h a
 | .dK kvs=>kvs.length<=sizeLine/\(a == sysModules) = false/\∃ vs,KV kvs vs/\h.DictOf (yO P w) a vs
 | .dT kvs=>kvs.length<=sizeLine/\(a == sysModules) = false/\∃ xs:List (List Key × Addr × Value),
   Paired (fun (p:List Key × V) (q:List Key × Addr × Value)=>p.1 = q.1/\H q.2.1 = some (.tup (p.1.map kV))/\RelV p.2 q.2.2) kvs xs /\
   ∃ o es ep,h.get? a = some o/\o.ExactDict/\o.data = .dict es ep/\es.toList = xs.map (entryOfKey (tupleKind (yO P w)))/\(xs.map (·.1)).Nodup
 | .set S n=>h.SetOf (intKind P w) a S n
 | .ins C dx fs=>H dx = some (.own a)/\fs.length<=1000/\dx ≠ a/\h.get? a = some (PySem.W.instObj C dx) /\
   ∃ mA,h.Ns1 dx mA/\(∀ f,RelO (fs.lookup f) (mA f))/\PySem.Within mA (fs.map (·.1))
 | .own _=>∃ o,h.get? a = some o
 | .xd fs=>∃ mA,h.Ns1 a mA/\∀ f,RelO (fs.lookup f) (mA f)
 | .rng lo hi=>∃ t u v,h.get? a = some { cls:=.type "range",data:=.fields #[.int lo t,.int hi u,.int 1 v] }
 | .frz o u=>h.get? a = some o/\ObjOk H h a u
 | .tbl ps=>h.get? a = some { cls:=.none,data:=.fields ps }
 | .met f x=>h.get? a = some (PySem.W.methodObj (.ref f) (.ref x))
 | .ext φ=>φ h/\(∃ o,h.get? a = some o)/\∀ h1 h2:Heap,φ h1->(∀ o,h1.get? a = some o->h2.get? a = some o)->φ h2
def HOk (H:Hp) (h:Heap):Prop:=∀ a o,H a = some o->ObjOk P w H h a o
end
variable {h':Heap} {H':Hp} {P:Program} {w:World}
section
variable {a:Addr}
theorem ObjOk.lt (x:ObjOk P w H h a o):a < h.objs.size:=by
 cases o with
 | lst xs=>obtain ⟨_,_,_,_,e⟩:=x;exact Qe e
 | tup xs=>obtain ⟨_,_,_,p,_⟩:=x;exact p.lt
 | dK kvs=>obtain ⟨_,_,_,_,o,_,_,e,_⟩:=x;exact Qe e
 | dT kvs=>obtain ⟨_,_,_,_,o,_,_,e,_⟩:=x;exact Qe e
 | set S n=>obtain ⟨o,_,_,_,e,_⟩:=x;exact Qe e
 | ins C dx fs=>obtain ⟨_,_,_,e,_⟩:=x;exact Qe e
 | own y=>obtain ⟨_,e⟩:=x;exact Qe e
 | xd fs=>obtain ⟨_,⟨_,_,_,e,_⟩,_⟩:=x;exact Qe e
 | rng lo hi=>obtain ⟨_,_,_,e⟩:=x;exact Qe e
 | frz ob u=>obtain ⟨e,_⟩:=x;exact Qe e
 | tbl ps=>exact Qe (show h.get? a = some _ from x)
 | met f y=>exact Qe (show h.get? a = some _ from x)
 | ext φ=>obtain ⟨_,⟨_,e⟩,_⟩:=x;exact Qe e
theorem Paired.mapP {α β:Type} {F G:α->β->Prop}:∀ {l₁:List α} {l₂:List β},Paired F l₁ l₂->(∀ a b,F a b->G a b)->Paired G l₁ l₂
 | _,_,.nil,_=>.nil
 | _,_,.cons r t,f=>.cons (f _ _ r) (Paired.mapP t f)
theorem ObjOk.stay (x:ObjOk P w H h a o) (k:∀ b u,(b = a\/H b = some (.own a))->h.get? b = some u->h'.get? b = some u)
  (ho:∀ b,H b = some (.own a)->H' b = some (.own a)) (ht:∀ b xs,H b = some (.tup xs)->H' b = some (.tup xs)):ObjOk P w H' h' a o:=by
 induction o with
 | lst xs=>obtain ⟨z,its,n,r,e⟩:=x;exact ⟨z,its,n,r,k _ _ (.inl rfl) e⟩
 | tup xs=>obtain ⟨z,its,r,⟨ob,e,c⟩,nd⟩:=x;exact ⟨z,its,r,⟨ob,k _ _ (.inl rfl) e,c⟩,fun o q=>nd o (by rw [k _ _ (.inl rfl) e] at q;rw [e];exact q)⟩
 | dK kvs=>obtain ⟨z,y,vs,r,ob,es,ep,e,c⟩:=x;exact ⟨z,y,vs,r,ob,es,ep,k _ _ (.inl rfl) e,c⟩
 | dT kvs=>
  obtain ⟨z,y,xs,r,ob,es,ep,e,c⟩:=x
  exact ⟨z,y,xs,Paired.mapP r fun p q z=>⟨z.1,ht _ _ z.2.1,z.2.2⟩,ob,es,ep,k _ _ (.inl rfl) e,c⟩
 | set S n=>obtain ⟨ob,es,ep,t,e,c⟩:=x;exact ⟨ob,es,ep,t,k _ _ (.inl rfl) e,c⟩
 | ins C dx fs=>
  obtain ⟨d,z,ne,e,mA,⟨od,es,ep,e2,c⟩,r⟩:=x
  exact ⟨ho _ d,z,ne,k _ _ (.inl rfl) e,mA,⟨od,es,ep,k _ _ (.inr d) e2,c⟩,r⟩
 | own y=>obtain ⟨ob,e⟩:=x;exact ⟨ob,k _ _ (.inl rfl) e⟩
 | xd fs=>obtain ⟨mA,⟨od,es,ep,e,c⟩,r⟩:=x;exact ⟨mA,⟨od,es,ep,k _ _ (.inl rfl) e,c⟩,r⟩
 | rng lo hi=>obtain ⟨t,u,v,e⟩:=x;exact ⟨t,u,v,k _ _ (.inl rfl) e⟩
 | frz ob u ih=>obtain ⟨e,q⟩:=x;exact ⟨k _ _ (.inl rfl) e,ih q⟩
 | tbl ps=>
  have e:h.get? a = some { cls:=.none,data:=.fields ps }:=x
  show h'.get? a = some { cls:=.none,data:=.fields ps }
  exact k a _ (.inl rfl) e
 | met f y=>
  have e:h.get? a = some (PySem.W.methodObj (.ref f) (.ref y)):=x
  show h'.get? a = some (PySem.W.methodObj (.ref f) (.ref y))
  exact k a _ (.inl rfl) e
 | ext φ=>obtain ⟨p,⟨o,e⟩,st⟩:=x;exact ⟨st _ _ p fun o q=>k _ _ (.inl rfl) q,⟨o,k _ _ (.inl rfl) e⟩,st⟩
theorem HOk.lt (x:HOk P w H h) (e:H a = some o):a < h.objs.size:=(x a o e).lt
theorem HOk.fresh (x:HOk P w H h) (e:h.objs.size<=a):H a = none:=by
 cases q:H a with
 | none=>rfl
 | some u=>exact absurd (Q5 (x.lt q) e) (Qo _)
theorem HOk.kept (x:HOk P w H h) (k:∀ b u,h.get? b = some u->h'.get? b = some u):HOk P w H h':=fun a o e=>
 (x a o e).stay (fun b u _ q=>k b u q) (fun _ q=>q) fun _ _ q=>q
theorem HOk.laid (x:HOk P w H h) (k:∀ b u,h.get? b = some u->h'.get? b = some u) (hp:h.objs.size<=a) (new:ObjOk P w (upd H a o) h' a o):HOk P w (upd H a o) h':=fun b u e=>by
 have hn:=x.fresh hp
 by_cases hb:b = a
 ·subst hb;rw [yC] at e;cases e;exact new
 ·rw [zm hb] at e
  exact (x b u e).stay (fun c v _ q=>k c v q) (fun c q=>by rw [zm (zE q hn)];exact q) fun c xs q=>by rw [zm (zE q hn)];exact q
end
def Rd (H:Hp) (a:Addr) (u:HO):Prop:=H a = some u\/∃ o,H a = some (.frz o u)
theorem Rd.ok {a:Addr} {u:HO} (r:Rd H a u) (x:HOk P w H h):ObjOk P w H h a u:=by
 rcases r with r | ⟨o,r⟩
 ·exact x a u r
 ·obtain ⟨_,q⟩:=x a _ r
  exact q
noncomputable def Mut:Option HO->Prop
 | some (.lst _)=>True
 | some (.dK _)=>True
 | some (.dT _)=>True
 | some (.set _ _)=>True
 | some (.ins _ _ _)=>True
 | some (.ext _)=>True
 | _=>False
section
variable {x e:Addr} {o':HO}
theorem HOk.write (ok:HOk P w H h) (mu:Mut (H x)) (he:e = x\/H e = some (.own x)) (k:∀ b u,b ≠ e->h.get? b = some u->h'.get? b = some u) (heo:∃ u,h'.get? e = some u)
  (new:ObjOk P w (upd H x o') h' x o'):HOk P w (upd H x o') h':=fun b u q=>by
 have nown:∀ c y,H c = some (.own y)->c ≠ x:=fun c y r z=>by subst z;rw [r] at mu;exact mu
 have ntup:∀ c xs,H c = some (.tup xs)->c ≠ x:=fun c xs r z=>by subst z;rw [r] at mu;exact mu
 by_cases hb:b = x
 ·subst hb;rw [yC] at q;cases q;exact new
 ·rw [zm hb] at q
  by_cases hbe:b = e
  ·have q':H b = some (.own x):=by
    rcases he with z | z
    ·exact absurd (hbe.trans z) hb
    ·rw [hbe];exact z
   rw [q] at q';cases q'
   obtain ⟨v,hv⟩:=heo
   exact ⟨v,by rw [hbe];exact hv⟩
  ·refine (ok b u q).stay (fun c v hc r=>k c v ?_ r) (fun c r=>by rw [zm (nown c b r)];exact r) fun c xs r=>by rw [zm (ntup c xs r)];exact r
   rcases hc with rfl | hc
   ·exact hbe
   ·rintro rfl
    rcases he with z | z
    ·exact nown c b hc z
    ·rw [hc] at z;cases z;exact hb rfl
end
structure Un (fs ex:List Addr) (H H':Hp) (h h':Heap):Prop where
 keep:∀ b o,h.get? b = some o->H b = none->b ∉ fs->b ∉ ex->h'.get? b = some o
 slot:∀ b o,h.get? b = some o->H b = none->b ∈ fs->b ∉ ex->∃ sl,h'.get? b = some { o with slots:=sl }
 free:∀ b o,h.get? b = some o->H b = none->b ∉ ex->H' b = none
 there:∀ b o,h.get? b = some o->b ∉ ex->∃ o',h'.get? b = some o'
 tups:∀ b xs,H b = some (.tup xs)->H' b = some (.tup xs)
 frzs:∀ b o u,H b = some (.frz o u)->H' b = some (.frz o u)
 tbls:∀ b ps,H b = some (.tbl ps)->∃ more,H' b = some (.tbl (ps ++ more))
section
variable {fs fs' ex ex':List Addr} {H1 H2:Hp} {h1 h2:Heap} {a x e:Addr}
theorem Un.any (u:Un fs ex H H1 h h1) {b:Addr} {ob:Obj} (q:h.get? b = some ob) (n:H b = none) (hx:b ∉ ex):∃ sl,h1.get? b = some { ob with slots:=sl }:=by
 by_cases hb:b ∈ fs
 ·exact u.slot b ob q n hb hx
 ·exact ⟨ob.slots,u.keep b ob q n hb hx⟩
theorem Un.kept (k:∀ b u,h.get? b = some u->h'.get? b = some u):Un fs ex H H h h':=
 ⟨fun b ob q _ _ _=>k b ob q,fun b ob q _ _ _=>⟨ob.slots,k b ob q⟩,fun _ _ _ n _=>n,fun b ob q _=>⟨ob,k b ob q⟩,fun _ _ q=>q,fun _ _ _ q=>q,fun _ ps q=>⟨#[],by rw [q];simp⟩⟩
theorem Un.refl:Un fs ex H H h h:=Un.kept fun _ _ q=>q
theorem Un.laid (k:∀ b u,h.get? b = some u->h'.get? b = some u) (hp:h.objs.size<=a) (hn:H a = none):Un fs ex H (upd H a o) h h' where
 keep:=fun b u q _ _ _=>k b u q
 slot:=fun b u q _ _ _=>⟨u.slots,k b u q⟩
 free:=fun b u q n _=>by rw [zm (Qk (Q5 (Qe q) hp))];exact n
 there:=fun b u q _=>⟨u,k b u q⟩
 tups:=fun b xs q=>by rw [zm (zE q hn)];exact q
 frzs:=fun b u xs q=>by rw [zm (zE q hn)];exact q
 tbls:=fun b ps q=>⟨#[],by rw [zm (zE q hn),q];simp⟩
theorem Un.write (mu:Mut (H x)) (he:e = x\/H e = some (.own x)) (k:∀ b u,b ≠ e->h.get? b = some u->h'.get? b = some u) (heo:∃ u,h'.get? e = some u):Un fs ex H (upd H x o) h h':=by
 have hx:∀ b,H b = none->b ≠ x:=fun b n z=>by subst z;rw [n] at mu;exact mu
 have hb:∀ b,H b = none->b ≠ e:=fun b n z=>by
  subst z
  rcases he with r | r
  ·exact hx b n r
  ·rw [n] at r;cases r
 have hm:∀ b u,H b = some u->¬ Mut (some u)->b ≠ x:=fun b u q nm z=>by subst z;rw [q] at mu;exact nm mu
 refine ⟨fun b u q n _ _=>k b u (hb b n) q,fun b u q n _ _=>⟨u.slots,k b u (hb b n) q⟩,fun b u q n _=>by rw [zm (hx b n)];exact n,fun b u q _=>?_,
  fun b xs q=>by rw [zm (hm b _ q fun z=>z)];exact q,fun b u xs q=>by rw [zm (hm b _ q fun z=>z)];exact q,fun b ps q=>⟨#[],by rw [zm (hm b _ q fun z=>z),q];simp⟩⟩
 by_cases hbe:b = e
 ·subst hbe;exact heo
 ·exact ⟨u,k b u hbe q⟩
end
noncomputable def trk (h:Heap) (H:Hp):List Addr:=(List.range h.objs.size).filter fun a=>(H a).isSome
noncomputable def zeb (h:Heap) (H:Hp):Heap:=PySem.W.hideAll h (trk h H)
theorem zlk (h:Heap) (H:Hp):(zeb h H).objs.size = h.objs.size:=PySem.W.hideAll_size _ _
theorem zmt {b:Addr} {o:Obj} (e:h.get? b = some o) (n:H b = none):(zeb h H).get? b = some o:=
 PySem.W.hideAll_get _ e fun hm=>by
  have q:(H b).isSome = true:=(mem_filter.mp hm).2
  rw [n] at q;simp at q
theorem znL {b:Addr} {o:Obj} (e:(zeb h H).get? b = some o):h.get? b = some o/\H b = none:=by
 have e':h.get? b = some o:=PySem.W.of_hideAll (trk h H) e
 refine ⟨e',?_⟩
 cases q:H b with
 | none=>rfl
 | some x=>
  have hm:b ∈ trk h H:=mem_filter.mpr ⟨mem_range.mpr (Qe e'),by simp [q]⟩
  have z:(zeb h H).get? b = none:=PySem.W.hideAll_none (trk h H) hm
  rw [z] at e;cases e
noncomputable def zow (g h:Heap) (L:Addr):List (Addr × Obj):=(List.range h.objs.size).filterMap fun a=>if a = L\/(g.get? a).isSome = true then none else (h.get? a).map fun o=>(a,o)
noncomputable def rest (g h:Heap) (L d:Addr):List (Addr × Obj):=(zow g h L).filter fun p=>decide (p.1 ≠ d)
structure Mod (K:Frag) (mg:Str->Option Value) (base:Heap):Prop where
 kin:K.In base
 glob:base.Ns mainGlobals mg
 blt:∃ mb,base.Ns builtinsNs mb/\∀ x:Str,x ≠ "__name__"->mb x = bootBuiltins x
 nolimit:base.NoLimit
structure Cx where
 prog:Program
 w:World
 K:Frag
 mg:Str->Option Value
 base:Heap
 A:Around
 N:List Str
 s₀:Shared
 H₀:Hp
 env:Env
 outer:List Env
 stack:List Env
 ex:List Addr
 fn:Str->Bool
 calm:Bool
 pn:List (Addr × Obj)
 xe:Value->Shared->Prop
noncomputable def frs (l:List Env):List Addr:=l.filterMap (·.frame)
noncomputable abbrev Cx.fs (X:Cx):List Addr:=frs X.outer
def Vis (sc:Scope) (x:Str):Prop:=sc.names.lookup x = some .local\/sc.names.lookup x = some .cell\/sc.names.lookup x = some .free
def Loc (sc:Scope) (x:Str):Prop:=sc.names.lookup x = some .local\/sc.names.lookup x = some .cell
def Look (env:Env) (h:Heap) (m:Str->Option Value) (x:Str) (u:Value):Prop:=
 (env.kindOf x = some .local/\m x = some u)\/((env.kindOf x = some .cell\/env.kindOf x = some .free)/\∃ c,env.cells.lookup x = some c/\h.IsCell c (some u))
structure Cx.Ok (X:Cx):Prop where
 mod:Mod X.K X.mg X.base
 kind:X.env.scope.kind = .function
 glob:X.env.globals = mainGlobals
 blt:X.env.builtins = builtinsNs
 above:X.s₀.heap.objs.size<=X.env.locals
 inj:∀ x y c,X.env.cells.lookup x = some c->X.env.cells.lookup y = some c->x = y
 has:∀ x,(X.env.kindOf x = some .cell\/X.env.kindOf x = some .free)->∃ c,X.env.cells.lookup x = some c
 cab:∀ x c,X.fn x = true->X.env.cells.lookup x = some c->X.s₀.heap.objs.size<=c
 hd:X.calm = true->X.A.handled = none
 frames:X.A.frames = some X.stack
 stk:X.stack = X.outer\/(X.stack = X.env :: X.outer/\X.env.frame = some X.env.locals)
 exf:∀ b ∈ X.ex,b ≠ X.env.locals/\∀ x c,X.env.cells.lookup x = some c->c ≠ b
 bs:∀ b o,X.base.get? b = some o->X.s₀.heap.get? b = some o/\X.H₀ b = none
 bsz:X.base.objs.size<=X.s₀.heap.objs.size
 noex:∀ b o,X.base.get? b = some o->b ∉ X.ex
 exfs:∀ b ∈ X.ex,b ∉ X.fs
 funs:X.s₀.heap.FunFrames X.base X.outer
 frf:∀ b ∈ X.fs,X.H₀ b = none
structure Inv (X:Cx) (pins:List (Addr × Obj)) (σ:List (Option V)) (H:Hp) (s:Shared):Prop where
 ok:X.Ok
 os:s.os = X.s₀.os
 bare:AllBare s.gens
 base:Un X.fs X.ex X.H₀ H X.s₀.heap s.heap
 loc:∃ m,s.heap.Ns X.env.locals m/\∀ (i:Nat) (x:Str) (v:V),X.N[i]? = some x->σ[i]? = some (some v)->Vis X.env.scope x->∃ u,RelV v u/\Look X.env s.heap m x u
 cell:∀ x c,X.env.cells.lookup x = some c->∃ v,s.heap.IsCell c v
 free:H X.env.locals = none
 freeC:∀ x c,X.env.cells.lookup x = some c->H c = none
 pin:∀ p ∈ X.pn ++ pins,s.heap.get? p.1 = some p.2/\H p.1 = none/\p.1 ≠ X.env.locals/\p.1 ∉ X.fs/\∀ v,p.2.data ≠ .cell v
 hok:HOk X.prog X.w H s.heap
 len:σ.length = X.N.length
variable {it:Addr} {A:Around} {g':Array GenState} {X:Cx} {d':Drawn} {pins:List (Addr × Obj)} {ch:List Addr} {N:List Str} {M:Model} {i j t':Nat} {s s':Shared} {x:Str} {v:V} {u:Value} {E:Value->Shared->Prop}
section
variable {σ:List (Option V)}
theorem Cx.Ok.nofr (ok:X.Ok) {b:Addr} {o:Obj} (e:X.base.get? b = some o):b ∉ X.fs:=fun hb=>by
 have:=(ok.funs.mem hb).1
 rw [e] at this;cases this
theorem Inv.bs (I:Inv X pins σ H s):∀ b o,X.base.get? b = some o->s.heap.get? b = some o/\H b = none:=fun b o e=>
 ⟨I.base.keep b o (I.ok.bs b o e).1 (I.ok.bs b o e).2 (I.ok.nofr e) (I.ok.noex b o e),I.base.free b o (I.ok.bs b o e).1 (I.ok.bs b o e).2 (I.ok.noex b o e)⟩
theorem Inv.bk (I:Inv X pins σ H s):∀ b o,X.base.get? b = some o->s.heap.get? b = some o:=fun b o e=>(I.bs b o e).1
theorem Inv.mod (I:Inv X pins σ H s):Mod X.K X.mg X.base:=I.ok.mod
theorem Inv.kIn (I:Inv X pins σ H s):X.K.In s.heap:=I.ok.mod.kin.keeps I.bk
theorem Inv.fr (I:Inv X pins σ H s):∃ m,Fr X.base X.env.locals s.heap m:=
 let ⟨m,hn,_⟩:=I.loc
 ⟨m,hn,I.bk,Qj I.ok.bsz I.ok.above⟩
theorem Inv.lt (I:Inv X pins σ H s):X.env.locals < s.heap.objs.size:=let ⟨_,hn,_⟩:=I.loc;hn.lt
theorem Inv.sz (I:Inv X pins σ H s):X.s₀.heap.objs.size<=s.heap.objs.size:=Qj I.ok.above (Nat.le_of_lt I.lt)
theorem Inv.nofs (I:Inv X pins σ H s) {a:Addr} (h:s.heap.objs.size<=a):a ∉ X.fs:=fun hb=>by
 obtain ⟨_,o,ho,_⟩:=I.ok.funs.mem hb
 exact absurd (Q5 (Qe ho) (Qj I.sz h)) (Qo _)
theorem Inv.cne (I:Inv X pins σ H s):∀ x c,X.env.cells.lookup x = some c->c ≠ X.env.locals:=fun x c e z=>by
 obtain ⟨v,o,ho,hd⟩:=I.cell x c e
 obtain ⟨m,⟨o',es,ep,ho',hd',_⟩,_⟩:=I.loc
 rw [z,ho'] at ho;cases ho;rw [hd'] at hd;cases hd
theorem Inv.funs (I:Inv X pins σ H s):s.heap.FunFrames X.base X.outer:=by
 have all:∀ (l:List Env),(∀ b ∈ frs l,b ∈ X.fs)->X.s₀.heap.FunFrames X.base l->s.heap.FunFrames X.base l:=by
  intro l
  induction l with
  | nil=>intro _ _;trivial
  | cons env r ih=>
   intro hs hl
   obtain ⟨hk,⟨L,o,hf,hn,ho,hd⟩,hr⟩:=hl
   have hL:L ∈ X.fs:=hs L (by unfold frs;rw [filterMap_cons,hf];exact mem_cons_self)
   obtain ⟨sl,e⟩:=I.base.slot L o ho (I.ok.frf L hL) hL fun z=>I.ok.exfs L z hL
   exact ⟨hk,⟨L,_,hf,hn,e,hd⟩,ih (fun b hb=>hs b (by unfold frs;rw [filterMap_cons,hf];exact mem_cons_of_mem _ hb)) hr⟩
 exact all X.outer (fun _ hb=>hb) I.ok.funs
theorem Inv.stack (I:Inv X pins σ H s):s.heap.FunFrames X.base X.stack:=by
 rcases I.ok.stk with e | ⟨e,hf⟩
 ·rw [e];exact I.funs
 ·rw [e]
  obtain ⟨m,hn,_⟩:=I.loc
  refine .cons (by rw [I.ok.kind];decide) hf hn ?_ I.funs
  exact Heap.get?_none_of_le (Qj I.ok.bsz I.ok.above)
theorem Inv.stkSub (I:Inv X pins σ H s):∀ b ∈ frs X.stack,b ∈ X.env.locals :: X.fs:=fun b hb=>by
 rcases I.ok.stk with e | ⟨e,hf⟩
 ·rw [e] at hb;exact mem_cons_of_mem _ hb
 ·rw [e] at hb
  unfold frs at hb
  rw [filterMap_cons,hf] at hb
  exact hb
theorem Inv.stkFree (I:Inv X pins σ H s):∀ b ∈ frs X.stack,H b = none:=fun b hb=>by
 rcases QD.mp (I.stkSub b hb) with e | hb
 ·rw [e];exact I.free
 ·obtain ⟨_,o,ho,_⟩:=I.ok.funs.mem hb
  exact I.base.free b o ho (I.ok.frf b hb) fun z=>I.ok.exfs b z hb
theorem Inv.step {t':Nat} {d':Drawn} (I:Inv X pins σ H s)
 (hch:∀ b ∈ ch,(b ∈ X.ex\/X.s₀.heap.objs.size<=b)/\b ≠ X.env.locals/\(∀ x c,X.env.cells.lookup x = some c->c ≠ b)/\∀ p ∈ X.pn ++ pins,p.1 ≠ b)
 (keep:∀ b o,b ≠ X.env.locals->b ∉ X.fs->b ∉ ch->s.heap.get? b = some o->H b = none->h'.get? b = some o)
 (slot:∀ b o,b ≠ X.env.locals->b ∈ X.fs->b ∉ ch->s.heap.get? b = some o->H b = none->∃ sl,h'.get? b = some { o with slots:=sl }) (free:∀ b o,b ∉ ch->s.heap.get? b = some o->H b = none->H' b = none)
 (there:∀ b o,b ∉ ch->s.heap.get? b = some o->∃ o',h'.get? b = some o')
 (tups:∀ b xs,H b = some (.tup xs)->H' b = some (.tup xs)) (frzs:∀ b o u,H b = some (.frz o u)->H' b = some (.frz o u)) (tbls:∀ b ps,H b = some (.tbl ps)->∃ more,H' b = some (.tbl (ps ++ more)))
 (ns:∀ m,s.heap.Ns X.env.locals m->h'.Ns X.env.locals m) (hok:HOk X.prog X.w H' h') (hg:AllBare g') :
  Inv X pins σ H' { s with heap:=h',gens:=g',drawn:=d',toks:=t' }:=by
 have neL:∀ b o,X.s₀.heap.get? b = some o->b ≠ X.env.locals:=fun b o e=>Qk (Q5 (Qe e) I.ok.above)
 have neC:∀ b o,X.s₀.heap.get? b = some o->b ∉ X.ex->b ∉ ch:=fun b o e hx hb=>by
  rcases (hch b hb).1 with z | z
  ·exact hx z
  ·exact absurd (Q5 (Qe e) z) (Qo _)
 have cellK:∀ x c,X.env.cells.lookup x = some c->∀ v,s.heap.IsCell c v->h'.IsCell c v:=fun x c e v h9=>by
  obtain ⟨o,ho,hd⟩:=h9
  have nch:c ∉ ch:=fun z=>(hch c z).2.2.1 x c e rfl
  by_cases hc:c ∈ X.fs
  ·obtain ⟨sl,q⟩:=slot c o (I.cne x c e) hc nch ho (I.freeC x c e)
   exact ⟨_,q,hd⟩
  ·exact ⟨o,keep c o (I.cne x c e) hc nch ho (I.freeC x c e),hd⟩
 refine ⟨I.ok,I.os,hg,⟨fun b o e n hb hx=>?_,fun b o e n hb hx=>?_,fun b o e n hx=>?_,fun b o e hx=>?_,fun b xs e=>tups b xs (I.base.tups b xs e),fun b o xs e=>frzs b o xs (I.base.frzs b o xs e),fun b ps e=>?_⟩,?_,fun x c e=>?_,?_,fun x c e=>?_,fun p hp=>?_,hok,I.len⟩
 ·exact keep b o (neL b o e) hb (neC b o e hx) (I.base.keep b o e n hb hx) (I.base.free b o e n hx)
 ·obtain ⟨sl,e1⟩:=I.base.slot b o e n hb hx
  obtain ⟨sl',e2⟩:=slot b _ (neL b o e) hb (neC b o e hx) e1 (I.base.free b o e n hx)
  exact ⟨sl',e2⟩
 ·obtain ⟨o',e1⟩:=I.base.there b o e hx
  exact free b o' (neC b o e hx) e1 (I.base.free b o e n hx)
 ·obtain ⟨o',e1⟩:=I.base.there b o e hx
  exact there b o' (neC b o e hx) e1
 ·obtain ⟨m1,e1⟩:=I.base.tbls b ps e
  obtain ⟨m2,e2⟩:=tbls b _ e1
  exact ⟨m1 ++ m2,by rw [e2,Array.append_assoc]⟩
 ·obtain ⟨m,hn,hl⟩:=I.loc
  refine ⟨m,ns m hn,fun i x v e1 e2 e3=>?_⟩
  obtain ⟨u,r,l⟩:=hl i x v e1 e2 e3
  refine ⟨u,r,?_⟩
  rcases l with l | ⟨k,c,e,z⟩
  ·exact .inl l
  ·exact .inr ⟨k,c,e,cellK x c e _ z⟩
 ·obtain ⟨v,z⟩:=I.cell x c e
  exact ⟨v,cellK x c e v z⟩
 ·obtain ⟨m,⟨o,_,_,ho,_⟩,_⟩:=I.loc
  exact free _ o (fun z=>(hch _ z).2.1 rfl) ho I.free
 ·obtain ⟨v,o,ho,hd⟩:=I.cell x c e
  exact free c o (fun z=>(hch c z).2.2.1 x c e rfl) ho (I.freeC x c e)
 ·obtain ⟨e,n,ne,nf,d⟩:=I.pin p hp
  have nch:p.1 ∉ ch:=fun z=>(hch p.1 z).2.2.2 p hp rfl
  exact ⟨keep p.1 p.2 ne nf nch e n,free p.1 p.2 nch e n,ne,nf,d⟩
theorem Inv.un {t':Nat} (I:Inv X pins σ H s) (u:Un X.fs [] H H' s.heap h') (hok:HOk X.prog X.w H' h'):Inv X pins σ H' { s with heap:=h',toks:=t' }:=by
 obtain ⟨m,⟨o,es,ep,ho,r⟩,_⟩:=id I.loc
 obtain ⟨sl,hL⟩:=u.any ho I.free (by simp)
 exact I.step (g':=s.gens) (d':=s.drawn) (ch:=[]) (fun _ z=>nomatch z) (fun b o _ hb _ e n=>u.keep b o e n hb (by simp)) (fun b o _ hb _ e n=>u.slot b o e n hb (by simp)) (fun b o _ e n=>u.free b o e n (by simp)) (fun b o _ e=>u.there b o e (by simp)) u.tups u.frzs u.tbls (fun m' hm=>by
  obtain ⟨o',es',ep',ho',r'⟩:=hm
  rw [ho] at ho';cases ho'
  exact ⟨_,es',ep',hL,r'⟩) hok I.bare
theorem Inv.call {t':Nat} {d':Drawn} (I:Inv X pins σ H s) (u:Un (frs X.stack) ch H H' s.heap h') (hok:HOk X.prog X.w H' h') (hg:AllBare g')
 (hch:∀ b ∈ ch,(b ∈ X.ex\/X.s₀.heap.objs.size<=b)/\b ≠ X.env.locals/\(∀ x c,X.env.cells.lookup x = some c->c ≠ b)/\∀ p ∈ X.pn ++ pins,p.1 ≠ b) :
  Inv X pins σ H' { s with heap:=h',gens:=g',drawn:=d',toks:=t' }:=by
 obtain ⟨m,⟨o,es,ep,ho,r⟩,_⟩:=id I.loc
 obtain ⟨sl,hL⟩:=u.any ho I.free fun z=>(hch _ z).2.1 rfl
 exact I.step (ch:=ch) hch (fun b o hL hb hc e n=>u.keep b o e n (fun z=>(QD.mp (I.stkSub b z)).elim hL hb) hc) (fun b o _ _ hc e n=>u.any e n hc) (fun b o hc e n=>u.free b o e n hc) (fun b o hc e=>u.there b o e hc) u.tups u.frzs u.tbls (fun m' hm=>by
  obtain ⟨o',es',ep',ho',r'⟩:=hm
  rw [ho] at ho';cases ho'
  exact ⟨_,es',ep',hL,r'⟩) hok hg
theorem Inv.turned {t':Nat} (I:Inv X pins σ H s) (k:∀ b o,b ≠ it->s.heap.get? b = some o->h'.get? b = some o) (hn:H it = none) (hL:it ≠ X.env.locals)
 (h1:it ∈ X.ex\/X.s₀.heap.objs.size<=it) (h2:∀ x c,X.env.cells.lookup x = some c->c ≠ it) (h3:∀ p ∈ X.pn ++ pins,p.1 ≠ it):Inv X pins σ H { s with heap:=h',toks:=t' }:=by
 have nit:∀ b u,H b = some u->b ≠ it:=fun b u e z=>by rw [z,hn] at e;cases e
 refine I.step (g':=s.gens) (d':=s.drawn) (ch:=[it]) (fun b hb=>?_) (fun b o _ _ hc e _=>k b o (fun z=>hc (by simp [z])) e) (fun b o _ _ hc e _=>⟨o.slots,k b o (fun z=>hc (by simp [z])) e⟩) (fun _ _ _ _ n=>n)
  (fun b o hc e=>⟨o,k b o (fun z=>hc (by simp [z])) e⟩) (fun _ _ e=>e) (fun _ _ _ e=>e) (fun b ps e=>⟨#[],by rw [e];simp⟩) (fun m hm=>?_) (fun b u e=>?_) I.bare
 ·have e:b = it:=by simpa using hb
  subst e
  exact ⟨h1,hL,h2,h3⟩
 ·obtain ⟨o,es,ep,ho,r⟩:=hm
  exact ⟨o,es,ep,k _ o (Ne.symm hL) ho,r⟩
 ·refine (I.hok b u e).stay (fun c v hc q=>k c v ?_ q) (fun _ q=>q) fun _ _ q=>q
  rcases hc with z | z
  ·rw [z];exact nit b u e
  ·exact nit c _ z
theorem Inv.tok (I:Inv X pins σ H s) (t:Nat):Inv X pins σ H { s with toks:=t }:=I.un (h':=s.heap) (t':=t) Un.refl I.hok
theorem Inv.kept {t':Nat} (I:Inv X pins σ H s) (k:∀ b u,s.heap.get? b = some u->h'.get? b = some u):Inv X pins σ H { s with heap:=h',toks:=t' }:=I.un (Un.kept k) (I.hok.kept k)
theorem Inv.laid {a:Addr} {t':Nat} (I:Inv X pins σ H s) (k:∀ b u,s.heap.get? b = some u->h'.get? b = some u) (hp:s.heap.objs.size<=a) (new:ObjOk X.prog X.w (upd H a o) h' a o) :
  Inv X pins σ (upd H a o) { s with heap:=h',toks:=t' }:=I.un (Un.laid k hp (I.hok.fresh hp)) (I.hok.laid k hp new)
theorem Inv.write {x e:Addr} {t':Nat} (I:Inv X pins σ H s) (mu:Mut (H x)) (he:e = x\/H e = some (.own x)) (k:∀ b u,b ≠ e->s.heap.get? b = some u->h'.get? b = some u) (heo:∃ u,h'.get? e = some u)
 (new:ObjOk X.prog X.w (upd H x o) h' x o):Inv X pins σ (upd H x o) { s with heap:=h',toks:=t' }:=I.un (Un.write mu he k heo) (I.hok.write mu he k heo new)
theorem Inv.pins_of {pins':List (Addr × Obj)} (I:Inv X pins σ H s) (h:∀ p ∈ pins',s.heap.get? p.1 = some p.2/\H p.1 = none/\p.1 ≠ X.env.locals/\p.1 ∉ X.fs/\∀ v,p.2.data ≠ .cell v):Inv X pins' σ H s:=
 ⟨I.ok,I.os,I.bare,I.base,I.loc,I.cell,I.free,I.freeC,fun p hp=>(mem_append.mp hp).elim (fun z=>I.pin p (mem_append_left _ z)) (h p),I.hok,I.len⟩
theorem zh7 (hN:N.Nodup) (a:N[i]? = some x) (b:N[j]? = some x):i = j:=by
 obtain ⟨h1,e1⟩:=Qz.mp a
 obtain ⟨h2,e2⟩:=Qz.mp b
 exact (List.getElem_inj hN).mp (e1.trans e2.symm)
theorem zg0 {Q:Unit->Shared->Prop} (I:Inv X pins σ H s) (hN:X.N.Nodup) (hi:X.N[i]? = some x) (hx:Loc X.env.scope x) (r:RelV v u)
 (h:∀ s',Inv X pins (σ.set i (some v)) H s'->(∃ a,Heap.SameBut a s.heap s'.heap/\(a = X.env.locals\/X.env.cells.lookup x = some a))->Q () s') (hf:X.fn x = true\/X.env.scope.names.lookup x = some .local:=by first | exact .inl rfl | exact .inr rfl | assumption):wpAny M A (storeName X.env x u) Q E s:=by
 obtain ⟨m,hn,hl⟩:=id I.loc
 have hcls:(X.env.scope.kind == .class || (X.env.scope.kind == .module && X.env.locals != X.env.globals)) = false:=by rw [I.ok.kind];rfl
 have hiσ:i < σ.length:=by rw [I.len];exact (Qz.mp hi).1
 have cne:=I.cne
 have tracked:∀ {a:Addr} {h':Heap},(∃ o,s.heap.get? a = some o/\H a = none)->Heap.SameBut a s.heap h'->HOk X.prog X.w H h':=fun {a h'} ha hs b ob e=>by
  obtain ⟨_,_,hfree⟩:=ha
  refine (I.hok b ob e).stay (fun c w' hc q=>(hs.2 c ?_).trans q) (fun _ q=>q) fun _ _ q=>q
  rintro rfl
  rcases hc with rfl | hc
  ·rw [hfree] at e;cases e
  ·rw [hfree] at hc;cases hc
 rcases hx with hk | hk
 ·refine wpAny_storeName_local hk hn (fun h' hn' hs=>?_) hcls
  obtain ⟨oL,_,_,hoL,_⟩:=id hn
  refine h _ ⟨I.ok,I.os,I.bare,⟨fun b o e n hb hx=>?_,fun b o e n hb hx=>?_,I.base.free,fun b o e hx=>?_,I.base.tups,I.base.frzs,I.base.tbls⟩,⟨_,hn',fun j y v' e1 e2 e3=>?_⟩,fun y c e=>?_,I.free,I.freeC,fun p hp=>?_,tracked ⟨oL,hoL,I.free⟩ hs,by simpa using I.len⟩ ⟨_,hs,.inl rfl⟩
  ·exact (hs.2 b (Qk (Q5 (Qe e) I.ok.above))).trans (I.base.keep b o e n hb hx)
  ·obtain ⟨sl,e1⟩:=I.base.slot b o e n hb hx
   exact ⟨sl,(hs.2 b (Qk (Q5 (Qe e) I.ok.above))).trans e1⟩
  ·obtain ⟨o',e1⟩:=I.base.there b o e hx
   exact ⟨o',(hs.2 b (Qk (Q5 (Qe e) I.ok.above))).trans e1⟩
  ·by_cases hj:j = i
   ·subst hj
    rw [hi] at e1;cases e1
    rw [List.getElem?_set_self hiσ] at e2
    cases e2
    exact ⟨u,r,.inl ⟨hk,by simp⟩⟩
   ·rw [List.getElem?_set_ne (Ne.symm hj)] at e2
    obtain ⟨u',r',q⟩:=hl j y v' e1 e2 e3
    refine ⟨u',r',?_⟩
    rcases q with ⟨k,e⟩ | ⟨k,c,e,z⟩
    ·refine .inl ⟨k,?_⟩
     have:y ≠ x:=fun e=>hj (zh7 hN e1 (e ▸ hi))
     simp [this,e]
    ·exact .inr ⟨k,c,e,z.sameBut hs (cne y c e)⟩
  ·obtain ⟨w',z⟩:=I.cell y c e
   exact ⟨w',z.sameBut hs (cne y c e)⟩
  ·obtain ⟨e,n,ne,nf,d⟩:=I.pin p hp
   exact ⟨(hs.2 p.1 ne).trans e,n,ne,nf,d⟩
 ·have hfn:X.fn x = true:=by
   rcases hf with z | z
   ·exact z
   ·rw [z] at hk;cases hk
  obtain ⟨c,hc⟩:=I.ok.has x (.inl hk)
  obtain ⟨w',z⟩:=I.cell x c hc
  refine wpAny_storeName_cell I.ok.kind hk hc z (fun h' hc' hs=>?_)
  obtain ⟨oc,hoc,hocd⟩:=id z
  refine h { s with heap:=h' } ⟨I.ok,I.os,I.bare,⟨fun b o e n hb hx=>?_,fun b o e n hb hx=>?_,I.base.free,fun b o e hx=>?_,I.base.tups,I.base.frzs,I.base.tbls⟩,⟨m,hn.sameBut hs (Ne.symm (cne x c hc)),fun j y v' e1 e2 e3=>?_⟩,fun y c' e=>?_,I.free,I.freeC,fun p hp=>?_,tracked ⟨oc,hoc,I.freeC x c hc⟩ hs,by simpa using I.len⟩ ⟨c,hs,.inr hc⟩
  ·exact (hs.2 b (Qk (Q5 (Qe e) (I.ok.cab x c hfn hc)))).trans (I.base.keep b o e n hb hx)
  ·obtain ⟨sl,e1⟩:=I.base.slot b o e n hb hx
   exact ⟨sl,(hs.2 b (Qk (Q5 (Qe e) (I.ok.cab x c hfn hc)))).trans e1⟩
  ·obtain ⟨o',e1⟩:=I.base.there b o e hx
   exact ⟨o',(hs.2 b (Qk (Q5 (Qe e) (I.ok.cab x c hfn hc)))).trans e1⟩
  ·by_cases hj:j = i
   ·subst hj
    rw [hi] at e1;cases e1
    rw [List.getElem?_set_self hiσ] at e2
    cases e2
    exact ⟨u,r,.inr ⟨.inl hk,c,hc,hc'⟩⟩
   ·rw [List.getElem?_set_ne (Ne.symm hj)] at e2
    obtain ⟨u',r',q⟩:=hl j y v' e1 e2 e3
    refine ⟨u',r',?_⟩
    rcases q with q | ⟨k,c',e,z'⟩
    ·exact .inl q
    ·refine .inr ⟨k,c',e,z'.sameBut hs ?_⟩
     rintro rfl
     exact hj (zh7 hN e1 (I.ok.inj _ _ _ e hc ▸ hi))
  ·by_cases hcc:c' = c
   ·subst hcc;exact ⟨_,hc'⟩
   ·obtain ⟨w2,z2⟩:=I.cell y c' e
    exact ⟨w2,z2.sameBut hs hcc⟩
  ·obtain ⟨e,n,ne,nf,d⟩:=I.pin p hp
   refine ⟨(hs.2 p.1 ?_).trans e,n,ne,nf,d⟩
   intro q
   rw [q,hoc] at e
   have q':oc = p.2:=Qd e
   exact d w' (by rw [← q'];exact hocd)
theorem zhM {Q:Unit->Shared->Prop} (I:Inv X pins σ H s) (hN:X.N.Nodup) (hi:X.N[i]? = some x) (hx:Loc X.env.scope x) (r:RelV v u)
 (h:∀ s',Inv X pins (σ.set i (some v)) H s'->Q () s') (hf:X.fn x = true\/X.env.scope.names.lookup x = some .local:=by first | exact .inl rfl | exact .inr rfl | assumption):wpAny M A (storeName X.env x u) Q E s:=
 zg0 I hN hi hx r (fun s' I' _=>h s' I') hf
theorem Inv.call' (I:Inv X pins σ H s) (ho:s'.os = s.os) (u:Un (frs X.stack) ch H H' s.heap s'.heap) (hok:HOk X.prog X.w H' s'.heap) (hg:AllBare s'.gens)
 (hch:∀ b ∈ ch,(b ∈ X.ex\/X.s₀.heap.objs.size<=b)/\b ≠ X.env.locals/\(∀ x c,X.env.cells.lookup x = some c->c ≠ b)/\∀ p ∈ X.pn ++ pins,p.1 ≠ b):Inv X pins σ H' s':=by
 obtain ⟨h',g',d',t',o'⟩:=s'
 have e:o' = s.os:=ho
 subst e
 exact I.call (g':=g') (t':=t') (d':=d') u hok hg hch
end
noncomputable abbrev XK:=Value->Option Addr->Hp->Prop
noncomputable abbrev St:=List (Option V)
noncomputable abbrev VK:=V->Hp->Prop
noncomputable abbrev TE:=St->Hp->VK->Prop
noncomputable abbrev TT:=St->Hp->(Bool->Hp->Prop)->Prop
noncomputable abbrev TA:=St->Hp->(List V->Hp->Prop)->Prop
structure Ends where
 nx:St->Hp->Prop
 rt:VK
 bk:St->Hp->Prop:=fun _ _=>False
 ct:St->Hp->Prop:=fun _ _=>False
noncomputable abbrev TS:=Ends->St->Hp->Prop
def EP (X:Cx) (pins:List (Addr × Obj)) (σ:St) (Q:VK) (u:Value) (s':Shared):Prop:=∃ v H',Inv X pins σ H' s'/\RelV v u/\Q v H'
def TP (X:Cx) (pins:List (Addr × Obj)) (σ:St) (Q:Bool->Hp->Prop) (b:Bool) (s':Shared):Prop:=∃ H',Inv X pins σ H' s'/\Q b H'
def AP (X:Cx) (pins:List (Addr × Obj)) (σ:St) (Q:List V->Hp->Prop) (us:List Value) (s':Shared):Prop:=∃ vs H',Inv X pins σ H' s'/\Vals vs us/\Q vs H'
def SP (X:Cx) (pins:List (Addr × Obj)) (D:Ends) (f:Flow) (s':Shared):Prop:=
 match f with
 | .next=>∃ σ' H',Inv X pins σ' H' s'/\D.nx σ' H'
 | .brk=>∃ σ' H',Inv X pins σ' H' s'/\D.bk σ' H'
 | .cont=>∃ σ' H',Inv X pins σ' H' s'/\D.ct σ' H'
 | .ret u=>∃ v σ' H',Inv X pins σ' H' s'/\RelV v u/\D.rt v H'
def PE (X:Cx) (e:Expr) (t:TE):Prop:=
 ∀ (pins:List (Addr × Obj)) (s:Shared) (σ:St) (H:Hp) (Q:VK),Inv X pins σ H s->t σ H Q->wpAny (model X.prog X.w) X.A (eval e X.env) (EP X pins σ Q) X.xe s
def PT (X:Cx) (e:Expr) (t:TT):Prop:=
 ∀ (pins:List (Addr × Obj)) (s:Shared) (σ:St) (H:Hp) (Q:Bool->Hp->Prop),Inv X pins σ H s->t σ H Q->wpAny (model X.prog X.w) X.A (isTrue e X.env (eval e X.env)) (TP X pins σ Q) X.xe s
def PW (X:Cx) (e:Expr) (t:TT):Prop:=
 ∀ (whole:Sem Value) (pins:List (Addr × Obj)) (s:Shared) (σ:St) (H:Hp) (Q:Bool->Hp->Prop),Inv X pins σ H s->t σ H Q->wpAny (model X.prog X.w) X.A (isTrue e X.env whole) (TP X pins σ Q) X.xe s
variable {e:Expr}
theorem PW.pt {t:TT} (h:PW X e t):PT X e t:=h _
def PA (X:Cx) (es:List Expr) (t:TA):Prop:=
 ∀ (pos:Pos) (pins:List (Addr × Obj)) (s:Shared) (σ:St) (H:Hp) (Q:List V->Hp->Prop),Inv X pins σ H s->t σ H Q->wpAny (model X.prog X.w) X.A (spliced (backTo pos (starEach es X.env))) (AP X pins σ Q) X.xe s
def PS (X:Cx) (st:Stmt) (t:TS):Prop:=
 ∀ (pins:List (Addr × Obj)) (s:Shared) (σ:St) (H:Hp) (D:Ends),Inv X pins σ H s->t D σ H->wpAny (model X.prog X.w) X.A (exec st X.env) (SP X pins D) X.xe s
def PSs (X:Cx) (st:List Stmt) (t:TS):Prop:=
 ∀ (pins:List (Addr × Obj)) (s:Shared) (σ:St) (H:Hp) (D:Ends),Inv X pins σ H s->t D σ H->wpAny (model X.prog X.w) X.A (execs st X.env) (SP X pins D) X.xe s
theorem thn {α:Type} {t:Sem α} {Q Q':α->Shared->Prop} (h:wpAny M A t Q E s) (hQ:∀ a s,Q a s->Q' a s):wpAny M A t Q' E s:=Qg h hQ fun _ _ x=>x
variable {op:CmpOp} {σ:St} {ta tb:TE} {R:V->V->Hp->Prop} {Q:Value->Shared->Prop}
section
theorem bin {a b:Expr} (ha:PE X a ta) (hb:PE X b tb) (I:Inv X pins σ H s) (h:ta σ H fun x H1=>tb σ H1 fun y H2=>R x y H2)
 {α:Type} {Q:α->Shared->Prop} {f:Value->Value->Sem α}
 (hf:∀ v u s2 x y H2,Inv X pins σ H2 s2->RelV x v->RelV y u->R x y H2->wpAny (model X.prog X.w) X.A (f v u) Q X.xe s2) :
  wpAny (model X.prog X.w) X.A (eval a X.env) (fun v s₁=>wpAny (model X.prog X.w) X.A (eval b X.env) (fun u s₂=>wpAny (model X.prog X.w) X.A (f v u) Q X.xe s₂) X.xe s₁) X.xe s:=by
 refine thn (ha pins s σ H _ I h) fun v s1 ⟨x,H1,I1,r1,q1⟩=>?_
 refine thn (hb pins s1 σ H1 _ I1 q1) fun u s2 ⟨y,H2,I2,r2,q2⟩=>?_
 exact hf v u s2 x y H2 I2 r1 r2 q2
noncomputable def zj7 (i:Nat):TE:=fun σ H Q=>∃ v,σ[i]? = some (some v)/\Q v H
noncomputable def tC (v:V):TE:=fun _ H Q=>Q v H
theorem zh2 {pos:Pos} (hN:X.N[i]? = some x) (hv:Vis X.env.scope x) (hd:(x == ("__debug__":Str)) = false:=by decide) (hcd:(x == ("__classdict__":Str)) = false:=by decide):PE X (.Name x pos) (zj7 i):=by
 intro pins s σ H Q I h
 obtain ⟨v,e,h⟩:=h
 obtain ⟨m,hn,hl⟩:=I.loc
 obtain ⟨u,r,l⟩:=hl i x v hN e hv
 have fin:EP X pins σ Q u s:=⟨v,H,I,r,h⟩
 rcases l with ⟨hk,hm⟩ | ⟨hk,c,hc,hcell⟩
 ·exact wpAny_Name (wpAny_loadName_local I.ok.kind hk hn hm fin) hd
 ·rcases hk with hk | hk
  ·exact wpAny_Name (wpAny_loadName_cell I.ok.kind hk hc hcell fin) hd
  ·exact wpAny_Name (wpAny_loadName_free I.ok.kind hk hc hcell fin hcd) hd
theorem zkW {i j pos}:PE X (.Constant (.int i) j pos) (tC (.int i)):=fun _ _ _ H _ I h=>wpAny_Constant_int ⟨.int i,H,I.tok _,⟨_,rfl⟩,h⟩
theorem zre {b j pos}:PE X (.Constant (.bool b) j pos) (tC (.bl b)):=fun _ _ _ H _ I h=>Constant_bool ⟨.bl b,H,I,rfl,h⟩
theorem zpd {j pos}:PE X (.Constant .none j pos) (tC .non):=fun _ _ _ H _ I h=>Constant_none ⟨.non,H,I,rfl,h⟩
theorem zo9 {x j pos}:PE X (.Constant (.str x) j pos) (tC (.str x)):=fun _ _ _ H _ I h=>Calls.Constant_str ⟨.str x,H,I.tok _,⟨_,rfl⟩,h⟩
def Gl (X:Cx) (x:Str):Prop:=X.env.kindOf x = some .globalImplicit
theorem zgN {pos:Pos} (I:Inv X pins σ H s) (hg:Gl X x) (hm:X.mg x = some u) (h:Q u s)
 (hd:(x == ("__debug__":Str)) = false:=by decide):wpAny (model X.prog X.w) X.A (eval (.Name x pos) X.env) Q E s:=
 Calls.Name_function_global I.ok.kind hg (Calls.loadGlobal_global (by rw [I.ok.glob];exact I.mod.glob.keeps I.bk) hm h) hd
theorem zeE {pos:Pos} (I:Inv X pins σ H s) (hg:Gl X x) (hm:X.mg x = none) (hv:bootBuiltins x = some u) (h:Q u s)
 (hn:x ≠ "__name__":=by decide) (hd:(x == ("__debug__":Str)) = false:=by decide):wpAny (model X.prog X.w) X.A (eval (.Name x pos) X.env) Q E s:=by
 obtain ⟨mb,h1,h2⟩:=I.mod.blt
 exact Calls.Name_function_global I.ok.kind hg (Calls.loadGlobal_builtin (by rw [I.ok.glob];exact I.mod.glob.keeps I.bk) hm (by rw [I.ok.blt];exact h1.keeps I.bk) ((h2 x hn).trans hv) h) hd
theorem znv {pos:Pos} (hg:Gl X x) (hm:X.mg x = some u) (r:RelV v u) (hd:(x == ("__debug__":Str)) = false:=by decide):PE X (.Name x pos) (tC v):=
 fun _ _ _ H _ I h=>zgN I hg hm ⟨v,H,I,r,h⟩ hd
theorem zny {pos:Pos} (hg:Gl X x) (hm:X.mg x = none) (hv:bootBuiltins x = some u) (r:RelV v u) (hn:x ≠ "__name__":=by decide) (hd:(x == ("__debug__":Str)) = false:=by decide):PE X (.Name x pos) (tC v):=
 fun _ _ _ H _ I h=>zeE I hg hm hv ⟨v,H,I,r,h⟩ hn hd
variable {a b:Expr} {pos:Pos}
def PC (X:Cx) (op:CmpOp) (a b:Expr) (t:TE):Prop:=
 ∀ (pins:List (Addr × Obj)) (s:Shared) (σ:St) (H:Hp) (Q:VK),Inv X pins σ H s->t σ H Q->
  wpAny (model X.prog X.w) X.A (eval a X.env) (fun v s₁=>wpAny (model X.prog X.w) X.A (eval b X.env) (fun u s₂=>wpAny (model X.prog X.w) X.A (compareOp op v u) (EP X pins σ Q) X.xe s₂) X.xe s₁) X.xe s
theorem zmh (b:Expr) (h:op ≠ .In) (h2:op ≠ .NotIn):behindInMarks op b = false:=by
 have e1:(op == CmpOp.In) = false:=by cases op <;> first | rfl | exact absurd rfl h
 have e2:(op == CmpOp.NotIn) = false:=by cases op <;> first | rfl | exact absurd rfl h2
 cases b <;> simp [behindInMarks,e1,e2]
noncomputable def tB (t:TE):TT:=fun σ H Q=>t σ H fun x H1=>∃ c,x = .bl c/\Q c H1
theorem zsH {t:TE} (h:PC X op a b t) (h1:behindInMarks op b = false:=by first | exact zmh _ (by decide) (by decide) | rfl):PT X (.Compare a [op] [b] pos) (tB t):=by
 intro pins s σ H Q I hw
 refine wpAny_isTrue_Compare1 (thn (h pins s σ H _ I hw) fun v s1 h1=>thn h1 fun u s2 h2=>thn h2 fun c s3 ⟨x,H1,I1,r1,q1⟩=>?_) h1
 obtain ⟨d,rfl,q⟩:=q1
 cases r1
 exact wpAny_truthy_bool ⟨H1,I1,q⟩
theorem zoZ {t:TE} (h:PE X e t) (he:∀ whole,isTrue e X.env whole = (do let v ← whole;standAt e.pos;holding [v] (truthy v)):=by intro _;rfl):PT X e (tB t):=by
 intro pins s σ H Q I hw
 refine isTrue_plain (thn (h pins s σ H _ I hw) fun v s1 ⟨x,H1,I1,r1,q1⟩=>?_) (he _)
 obtain ⟨d,rfl,q⟩:=q1
 cases r1
 exact wpAny_truthy_bool ⟨H1,I1,q⟩
variable {tA tB':TT} {rest:List Expr}
noncomputable def zr0 (t u:TT):TT:=fun σ H Q=>t σ H fun c H1=>if c = true then u σ H1 Q else Q false H1
noncomputable def tOr (t u:TT):TT:=fun σ H Q=>t σ H fun c H1=>if c = true then Q true H1 else u σ H1 Q
noncomputable def zrU (t:TT):TT:=fun σ H Q=>t σ H fun c H1=>Q (!c) H1
theorem znj (ha:PT X a tA):PW X (.BoolOp .And [a] pos) tA:=by
 intro wh pins s σ H Q I h
 refine isTrue_and (thn (ha pins s σ H Q I h) fun c s1 e=>?_)
 cases c with
 | true=>exact isTrue_and_nil e
 | false=>exact e
theorem zoX (ha:PT X a tA):PW X (.BoolOp .Or [a] pos) tA:=by
 intro wh pins s σ H Q I h
 refine isTrue_or (thn (ha pins s σ H Q I h) fun c s1 e=>?_)
 cases c with
 | false=>exact isTrue_or_nil e
 | true=>exact e
theorem zoY (ha:PT X a tA) (hb:PW X (.BoolOp .And (b :: rest) pos) tB'):PW X (.BoolOp .And (a :: b :: rest) pos) (zr0 tA tB'):=by
 intro wh pins s σ H Q I h
 refine isTrue_and (thn (ha pins s σ H _ I h) fun c s1 ⟨H1,I1,q1⟩=>?_)
 cases c with
 | true=>exact hb wh pins s1 σ H1 Q I1 q1
 | false=>exact ⟨H1,I1,q1⟩
theorem zq7 (ha:PT X a tA) (hb:PW X (.BoolOp .Or (b :: rest) pos) tB'):PW X (.BoolOp .Or (a :: b :: rest) pos) (tOr tA tB'):=by
 intro wh pins s σ H Q I h
 refine isTrue_or (thn (ha pins s σ H _ I h) fun c s1 ⟨H1,I1,q1⟩=>?_)
 cases c with
 | true=>exact ⟨H1,I1,q1⟩
 | false=>exact hb wh pins s1 σ H1 Q I1 q1
theorem zo0 (ha:PT X a tA):PT X (.UnaryOp .Not a pos) (zrU tA):=by
 intro pins s σ H Q I h
 exact isTrue_not (ha pins s σ H (fun c H1=>Q (!c) H1) I h)
noncomputable def zqU (ta tb:TE):TE:=fun σ H Q=>ta σ H fun x H1=>∃ c,x = .bl c/\if c = true then tb σ H1 Q else Q (.bl false) H1
noncomputable def zrT (ta tb:TE):TE:=fun σ H Q=>ta σ H fun x H1=>∃ c,x = .bl c/\if c = true then Q (.bl true) H1 else tb σ H1 Q
noncomputable def zqO (ta:TE):TE:=fun σ H Q=>ta σ H fun x H1=>∃ c,x = .bl c/\Q (.bl (!c)) H1
theorem zpb {op} {t:TE} (h:PE X a t):PE X (.BoolOp op [a] pos) t:=fun pins s σ H Q I hw=>BoolOp_one (h pins s σ H Q I hw)
theorem zph (ha:PE X a ta) (hb:PE X (.BoolOp .And (b :: rest) pos) tb):PE X (.BoolOp .And (a :: b :: rest) pos) (zqU ta tb):=by
 intro pins s σ H Q I h
 refine BoolOp_and (thn (ha pins s σ H _ I h) fun v s1 ⟨x,H1,I1,r1,q1⟩=>?_)
 obtain ⟨c,rfl,q1⟩:=q1
 cases r1
 refine wpAny_truthy_bool ?_
 cases c with
 | true=>exact hb pins s1 σ H1 Q I1 q1
 | false=>exact ⟨.bl false,H1,I1,rfl,q1⟩
theorem zrc (ha:PE X a ta) (hb:PE X (.BoolOp .Or (b :: rest) pos) tb):PE X (.BoolOp .Or (a :: b :: rest) pos) (zrT ta tb):=by
 intro pins s σ H Q I h
 refine BoolOp_or (thn (ha pins s σ H _ I h) fun v s1 ⟨x,H1,I1,r1,q1⟩=>?_)
 obtain ⟨c,rfl,q1⟩:=q1
 cases r1
 refine wpAny_truthy_bool ?_
 cases c with
 | false=>exact hb pins s1 σ H1 Q I1 q1
 | true=>exact ⟨.bl true,H1,I1,rfl,q1⟩
theorem zpc (ha:PE X a ta):PE X (.UnaryOp .Not a pos) (zqO ta):=by
 intro pins s σ H Q I h
 refine UnaryOp_ (thn (ha pins s σ H _ I h) fun v s1 ⟨x,H1,I1,r1,q1⟩=>?_)
 obtain ⟨c,rfl,q1⟩:=q1
 cases r1
 exact not_of (wpAny_truthy_bool ⟨.bl (!c),H1,I1,rfl,q1⟩)
noncomputable def tIf (t:TT) (ta tb:TE):TE:=fun σ H Q=>t σ H fun c H1=>if c = true then ta σ H1 Q else tb σ H1 Q
theorem zma {c:Expr} (hc:PT X c tA) (ha:PE X a ta) (hb:PE X b tb):PE X (.IfExp c a b pos) (tIf tA ta tb):=by
 intro pins s σ H Q I h
 refine wpAny_IfExp (thn (hc pins s σ H _ I h) fun d s1 ⟨H1,I1,q1⟩=>?_)
 cases d with
 | true=>exact ha pins s1 σ H1 Q I1 q1
 | false=>exact hb pins s1 σ H1 Q I1 q1
end
def SqL (K:Frag) (H:Hp) (a:Addr) (xs:List V):Prop:=
 Rd H a (.lst xs) \/
  ∃ (o:Obj) (its:Array Value) (n:Nat),K.lookup a = some o/\o.cls = .type "list"/\o.dict = none/\o.data = .seq its n/\its.size<=sizeLine/\Vals xs its.toList
def SqT (K:Frag) (H:Hp) (a:Addr) (xs:List V):Prop:=
 Rd H a (.tup xs) \/
  ∃ (o:Obj) (its:Array Value) (n:Nat),K.lookup a = some o/\o.cls = .type "tuple"/\o.dict = none/\o.data = .seq its n/\its.size<=sizeLine/\Vals xs its.toList
noncomputable def zss:Value->Option V
 | .none=>some .non
 | .bool b=>some (.bl b)
 | .int i _=>some (.int i)
 | .str x _=>some (.str x)
 | .bytes b _=>some (.byt b)
 | .float b _=>some (.flt b)
 | .ref a=>some (.ref a)
 | .type n=>some (.ty n)
 | _=>none
theorem RelV.abs {x:V} (r:RelV x u):zss u = some x:=by
 cases x with
 | non=>cases r;rfl
 | bl _=>cases r;rfl
 | int _=>obtain ⟨t,rfl⟩:=r;rfl
 | str _=>obtain ⟨t,rfl⟩:=r;rfl
 | byt _=>obtain ⟨t,rfl⟩:=r;rfl
 | flt _=>obtain ⟨t,rfl⟩:=r;rfl
 | ref _=>cases r;rfl
 | ty _=>cases r;rfl
variable {y:V}
theorem RelV.inj {x:V} (r:RelV x u) (q:RelV y u):x = y:=Qd (r.abs.symm.trans q.abs)
theorem Vals.inj:∀ {xs ys:List V} {us:List Value},Vals xs us->Vals ys us->xs = ys
 | _,_,_,.nil,.nil=>rfl
 | _,_,_,.cons r t,.cons r' t'=>by rw [r.inj r',Vals.inj t t']
section
variable {a:Addr} {ys:List V}
theorem Inv.list (I:Inv X pins σ H s) (h:SqL X.K H a xs):∃ its:List Value,Vals xs its/\PlainL s.heap a its.toArray/\xs.length<=sizeLine:=by
 rcases h with h | ⟨o,its,n,hk,hc,hd,hs,hz,r⟩
 ·obtain ⟨z,its,n,r,e⟩:=h.ok I.hok
  exact ⟨its,r,⟨_,n,e,rfl,rfl,rfl⟩,z⟩
 ·refine ⟨its.toList,r,⟨o,n,I.kIn a o hk,hc,hd,by simpa using hs⟩,?_⟩
  have e:=r.length
  simp only [Array.length_toList] at e
  omega
theorem Inv.tuple (I:Inv X pins σ H s) (h:SqT X.K H a xs):∃ its:List Value,Vals xs its/\IsTup s.heap a its.toArray/\xs.length<=sizeLine:=by
 rcases h with h | ⟨o,its,n,hk,hc,_,hs,hz,r⟩
 ·obtain ⟨z,its,r,p,_⟩:=h.ok I.hok
  exact ⟨its,r,p,z⟩
 ·refine ⟨its.toList,r,⟨o,I.kIn a o hk,hc,n,by simpa using hs⟩,?_⟩
  have e:=r.length
  simp only [Array.length_toList] at e
  omega
theorem Inv.list_inj (I:Inv X pins σ H s) (h:SqL X.K H a xs) (h':SqL X.K H a ys):xs = ys:=by
 obtain ⟨its,r,⟨o,n,e,_,_,d⟩,_⟩:=I.list h
 obtain ⟨its',r',⟨o',n',e',_,_,d'⟩,_⟩:=I.list h'
 rw [e] at e';cases e'
 rw [d] at d'
 injection d' with d1 _
 have:its = its':=by simpa using congrArg Array.toList d1
 subst this
 exact r.inj r'
theorem Inv.tuple_inj (I:Inv X pins σ H s) (h:SqT X.K H a xs) (h':SqT X.K H a ys):xs = ys:=by
 obtain ⟨its,r,⟨o,e,_,n,d⟩,_⟩:=I.tuple h
 obtain ⟨its',r',⟨o',e',_,n',d'⟩,_⟩:=I.tuple h'
 rw [e] at e';cases e'
 rw [d] at d'
 injection d' with d1 _
 have:its = its':=by simpa using congrArg Array.toList d1
 subst this
 exact r.inj r'
end
noncomputable abbrev Cx.wish (X:Cx) (E:Value->Shared->Prop):Cx:={ X with xe:=E }
noncomputable abbrev Cx.nox (X:Cx):Cx:=X.wish fun _ _=>False
theorem Cx.Ok.wish (ok:X.Ok) (E:Value->Shared->Prop):(X.wish E).Ok:=
 ⟨ok.mod,ok.kind,ok.glob,ok.blt,ok.above,ok.inj,ok.has,ok.cab,ok.hd,ok.frames,ok.stk,ok.exf,ok.bs,ok.bsz,ok.noex,ok.exfs,ok.funs,ok.frf⟩
theorem Cx.Ok.unwish (ok:(X.wish E).Ok):X.Ok:=
 ⟨ok.mod,ok.kind,ok.glob,ok.blt,ok.above,ok.inj,ok.has,ok.cab,ok.hd,ok.frames,ok.stk,ok.exf,ok.bs,ok.bsz,ok.noex,ok.exfs,ok.funs,ok.frf⟩
section
theorem Inv.wish (I:Inv X pins σ H s) (E:Value->Shared->Prop):Inv (X.wish E) pins σ H s:=⟨I.ok.wish E,I.os,I.bare,I.base,I.loc,I.cell,I.free,I.freeC,I.pin,I.hok,I.len⟩
theorem Inv.unwish (I:Inv (X.wish E) pins σ H s):Inv X pins σ H s:=⟨I.ok.unwish,I.os,I.bare,I.base,I.loc,I.cell,I.free,I.freeC,I.pin,I.hok,I.len⟩
theorem SP.unwish {D:Ends} {f:Flow} (h:SP (X.wish E) pins D f s'):SP X pins D f s':=by
 cases f with
 | next=>obtain ⟨σ',H',I,q⟩:=h;exact ⟨σ',H',I.unwish,q⟩
 | brk=>obtain ⟨σ',H',I,q⟩:=h;exact ⟨σ',H',I.unwish,q⟩
 | cont=>obtain ⟨σ',H',I,q⟩:=h;exact ⟨σ',H',I.unwish,q⟩
 | ret u=>obtain ⟨v,σ',H',I,r,q⟩:=h;exact ⟨v,σ',H',I.unwish,r,q⟩
theorem PE.nox {t:TE} (h:PE X.nox e t):PE X e t:=fun pins s σ H Q I hw=>
 Qg (h pins s σ H Q (I.wish _) hw) (fun _ _ ⟨v,H',I',r,q⟩=>⟨v,H',I'.unwish,r,q⟩) fun _ _ z=>False.elim z
theorem PT.nox {t:TT} (h:PT X.nox e t):PT X e t:=fun pins s σ H Q I hw=>
 Qg (h pins s σ H Q (I.wish _) hw) (fun _ _ ⟨H',I',q⟩=>⟨H',I'.unwish,q⟩) fun _ _ z=>False.elim z
theorem PSs.nox {st:List Stmt} {t:TS} (h:PSs X.nox st t):PSs X st t:=fun pins s σ H D I hw=>
 Qg (h pins s σ H D (I.wish _) hw) (fun _ _ q=>q.unwish) fun _ _ z=>False.elim z
end
variable {te:TE}
section
variable {st:Stmt} {rest:List Stmt} {t u:TS} {pos:Pos}
noncomputable def zqP:TS:=fun D σ H=>D.nx σ H
noncomputable def zrR (t u:TS):TS:=fun D σ H=>t { D with nx:=u D } σ H
theorem znn:PSs X [] zqP:=fun _ _ σ H _ I h=>wpAny_execs_nil ⟨σ,H,I,h⟩
theorem zl8 (h1:PS X st t) (h2:PSs X rest u):PSs X (st :: rest) (zrR t u):=by
 intro pins s σ H D I h
 refine wpAny_execs_cons (thn (h1 pins s σ H { D with nx:=u D } I h) fun f s1 q=>?_)
 cases f with
 | next=>
  obtain ⟨σ',H',I',q⟩:=q
  exact h2 pins s1 σ' H' D I' q
 | ret v=>exact q
 | brk=>exact q
 | cont=>exact q
theorem zjw (h1:PS X st t):PSs X [st] t:=by
 intro pins s σ H D I h
 refine wpAny_execs_cons (thn (h1 pins s σ H D I h) fun f s1 q=>?_)
 cases f with
 | next=>exact wpAny_execs_nil q
 | ret v=>exact q
 | brk=>exact q
 | cont=>exact q
theorem Inv.quiet (I:Inv X pins σ H s):interactive X.env = false:=by simp [interactive,I.ok.kind]
noncomputable def zqR (te:TE):TS:=fun D σ H=>te σ H fun _ H1=>D.nx σ H1
theorem zno (he:PE X e te) (hs:swapsWith e none pos.line X.env = pure false:=by rfl):PS X (.Expr e pos) (zqR te):=by
 intro pins s σ H D I h
 exact wpAny_Expr_any (thn (he pins s σ H _ I h) fun v s1 ⟨x,H1,I1,r1,q1⟩=>⟨σ,H1,I1,q1⟩) I.quiet hs
noncomputable def zrS (te:TE):TS:=fun D σ H=>te σ H D.rt
theorem zo3 (he:PE X e te):PS X (.Return (some e) pos) (zrS te):=by
 intro pins s σ H D I h
 exact wpAny_Return_some (thn (he pins s σ H _ I h) fun v s1 ⟨x,H1,I1,r1,q1⟩=>⟨x,σ,H1,I1,r1,q1⟩)
noncomputable def zrX (c:TT) (t u:TS):TS:=fun D σ H=>c σ H fun b H1=>if b = true then t D σ H1 else u D σ H1
theorem zq9 {c:Expr} {a b:List Stmt} {tc:TT} (hc:PT X c tc) (ha:PSs X a t) (hb:PSs X b u):PS X (.If c a b pos) (zrX tc t u):=by
 intro pins s σ H D I h
 refine wpAny_If (thn (hc pins s σ H _ I h) fun d s1 ⟨H1,I1,q1⟩=>?_)
 cases d with
 | true=>exact ha pins s1 σ H1 D I1 q1
 | false=>exact hb pins s1 σ H1 D I1 q1
end
noncomputable abbrev TG:=V->St->Hp->(St->Hp->Prop)->Prop
noncomputable abbrev TGs:=List V->St->Hp->(St->Hp->Prop)->Prop
def PG (X:Cx) (target:Expr) (t:TG):Prop:=
 ∀ (pins:List (Addr × Obj)) (s:Shared) (σ:St) (H:Hp) (v:V) (u:Value) (Q:St->Hp->Prop),Inv X pins σ H s->RelV v u->t v σ H Q->
  wpAny (model X.prog X.w) X.A (assign target X.env u) (fun _ s'=>∃ σ' H',Inv X pins σ' H' s'/\Q σ' H') X.xe s
def PGs (X:Cx) (ts:List Expr) (t:TGs):Prop:=
 ∀ (pins:List (Addr × Obj)) (s:Shared) (σ:St) (H:Hp) (vs:List V) (us:List Value) (Q:St->Hp->Prop),Inv X pins σ H s->Vals vs us->t vs σ H Q->
  wpAny (model X.prog X.w) X.A (assignInOrder ((assignEach ts X.env).map (·.2)) us) (fun _ s'=>∃ σ' H',Inv X pins σ' H' s'/\Q σ' H') X.xe s
noncomputable abbrev zfN:=V->V->V->Hp->(Hp->Prop)->Prop
def zeo (X:Cx) (t:zfN):Prop:=
 ∀ (pins:List (Addr × Obj)) (s:Shared) (σ:St) (H:Hp) (o i v:V) (ov iv u:Value) (Q:Hp->Prop),Inv X pins σ H s->RelV o ov->RelV i iv->RelV v u->t o i v H Q->
  wpAny (model X.prog X.w) X.A (setItem ov iv u) (fun _ s'=>∃ H',Inv X pins σ H' s'/\Q H') X.xe s
noncomputable abbrev TIp:=V->V->Hp->VK->Prop
def PIp (X:Cx) (op:Operator) (t:TIp):Prop:=
 ∀ (pins:List (Addr × Obj)) (s:Shared) (σ:St) (H:Hp) (x y:V) (v u:Value) (Q:VK),Inv X pins σ H s->RelV x v->RelV y u->t x y H Q->
  wpAny (model X.prog X.w) X.A (inplaceOp op v u) (EP X pins σ Q) X.xe s
variable {tg:Expr} {es:List Expr} {k:Nat} {pos' tpos:Pos} {ti to:TE} {g:TG}
section
variable {pos:Pos}
noncomputable def zhu (i:Nat):TG:=fun v σ H Q=>Q (σ.set i (some v)) H
theorem yr (hN:X.N.Nodup) (hi:X.N[i]? = some x) (hx:Loc X.env.scope x) (hf:X.fn x = true\/X.env.scope.names.lookup x = some .local:=by first | exact .inl rfl | exact .inr rfl | assumption):PG X (.Name x pos) (zhu i):=by
 intro pins s σ H v u Q I r h
 exact wpAny_assign_Name (zhM I hN hi hx r (fun s' I'=>⟨_,H,I',h⟩) hf)
noncomputable def zsm:TGs:=fun vs σ H Q=>vs = []/\Q σ H
noncomputable def zkr (t:TG) (u:TGs):TGs:=fun vs σ H Q=>∃ v r,vs = v :: r/\t v σ H fun σ' H'=>u r σ' H' Q
theorem znt:PGs X [] zsm:=by
 intro pins s σ H vs us Q I r h
 obtain ⟨e,h⟩:=h
 subst e
 cases r
 exact assignInOrder_nil ⟨σ,H,I,h⟩
theorem qJ {t:TG} {u:TGs} (h1:PG X e t) (h2:PGs X es u)
 (hs:(assignEach (e :: es) X.env).map (·.2) = assign e X.env :: (assignEach es X.env).map (·.2):=by rfl):PGs X (e :: es) (zkr t u):=by
 intro pins s σ H vs us Q I r h
 obtain ⟨v,vr,e1,h⟩:=h
 subst e1
 cases r with
 | cons r rr=>
  rw [hs]
  refine assignInOrder_cons (thn (h1 pins s σ H _ _ _ I r h) fun _ s1 ⟨σ1,H1,I1,q1⟩=>?_)
  exact h2 pins s1 σ1 H1 _ _ Q I1 rr q1
noncomputable def zmD (K:Frag) (n:Nat) (t:TGs):TG:=fun v σ H Q=>∃ a xs,v = .ref a/\SqT K H a xs/\xs.length = n/\t xs σ H Q
theorem zdI {t:TGs} (hc:X.calm = true) (h:PGs X es t)
 (hn:(assignEach es X.env).length = n:=by rfl) (hst:(assignEach es X.env).findIdx? (·.1) = none:=by rfl):PG X (.Tuple es k pos) (zmD X.K n t):=by
 intro pins s σ H v u Q I r hw
 obtain ⟨a,xs,e1,hq,hl,hw⟩:=hw
 subst e1
 cases r
 obtain ⟨its,rv,ht,hz⟩:=I.tuple hq
 refine assign_Tuple_tuple (I.ok.hd hc) ht (by simp [hn,← hl,rv.length]) hst fun h' hx=>?_
 have I1:Inv X pins σ H { s with heap:=h' }:=I.kept (t':=s.toks) fun b o e=>hx b o (Qk (Qe e)) e
 exact h pins _ σ H xs _ Q I1 (by simpa using rv) hw
noncomputable def zsl (to ti:TE) (t:zfN):TG:=fun v σ H Q=>to σ H fun o H1=>ti σ H1 fun i H2=>t o i v H2 fun H3=>Q σ H3
theorem zkV {o i:Expr} {t:zfN} (ho:PE X o to) (hi:PE X i ti) (hs:zeo X t)
 (ha:∀ v,assign (.Subscript o i pos) X.env v = (do
 let ov ← holding [v] (eval o X.env)
 let iv ← holding [v,ov] (eval i X.env)
 standAt pos
 holding [v,ov,iv] (setItem ov iv v)
 release [v,ov,iv] []):=by intro _;rfl):PG X (.Subscript o i pos) (zsl to ti t):=by
 intro pins s σ H v u Q I r h
 rw [ha]
 refine Q1 (wpAny_holding (thn (ho pins s σ H _ I h) fun ov s1 ⟨x,H1,I1,r1,q1⟩=>?_))
 refine Q1 (wpAny_holding (thn (hi pins s1 σ H1 _ I1 q1) fun iv s2 ⟨y,H2,I2,r2,q2⟩=>?_))
 refine Q1 (wpAny_standAt (Q1 (wpAny_holding (thn (hs pins s2 σ H2 x y v ov iv u _ I2 r1 r2 r q2) fun _ s3 ⟨H3,I3,q3⟩=>?_))))
 exact wpAny_release ⟨σ,H3,I3,q3⟩
noncomputable def zoJ (te:TE) (g:TG):TS:=fun D σ H=>te σ H fun x H1=>g x σ H1 D.nx
theorem zo5 (he:PE X e te) (hg:PG X tg g) (hs:swapsWithSole [tg] e pos.line X.env = pure false:=by rfl) (hw:swappedStores [tg] e X.env = pure none:=by rfl)
 (h1:(assignEach [tg] X.env).map (·.2) = [assign tg X.env]:=by rfl):PS X (.Assign [tg] e pos) (zoJ te g):=by
 intro pins s σ H D I h
 refine wpAny_Assign_stores (thn (he pins s σ H _ I h) fun v s1 ⟨x,H1,I1,r1,q1⟩=>?_) hs hw
 rw [h1]
 exact thn (hg pins s1 σ H1 x v _ I1 r1 q1) fun _ s2 q=>q
theorem zo2 (hN:X.N.Nodup) (hi:X.N[i]? = some x) (hx:Loc X.env.scope x) (he:PE X e te) (hs:swapsWith e (some (.Name x pos')) pos.line X.env = pure false:=by rfl) (hf:X.fn x = true\/X.env.scope.names.lookup x = some .local:=by first | exact .inl rfl | exact .inr rfl | assumption) :
  PS X (.Assign [.Name x pos'] e pos) (zoJ te (zhu i)):=by
 intro pins s σ H D I h
 refine wpAny_Assign_Name (thn (he pins s σ H _ I h) fun v s1 ⟨y,H1,I1,r1,q1⟩=>?_) hs
 exact zhM I1 hN hi hx r1 (fun s2 I2=>⟨_,H1,I2,q1⟩) hf
noncomputable def zqT (to ti te:TE) (tget:V->V->Hp->VK->Prop) (tip:TIp) (tset:zfN):TS:=fun D σ H=>to σ H fun o H1=>ti σ H1 fun i H2=>tget o i H2 fun x H3=>te σ H3 fun y H4=>tip x y H4 fun z H5=>tset o i z H5 fun H6=>D.nx σ H6
def zi2 (X:Cx) (t:V->V->Hp->VK->Prop):Prop:=
 ∀ (pins:List (Addr × Obj)) (s:Shared) (σ:St) (H:Hp) (o i:V) (ov iv:Value) (Q:VK),Inv X pins σ H s->RelV o ov->RelV i iv->t o i H Q->
  wpAny (model X.prog X.w) X.A (getItem ov iv) (EP X pins σ Q) X.xe s
theorem znp {o i:Expr} {tget:V->V->Hp->VK->Prop} {tip:TIp} {tset:zfN} {op:Operator} (ho:PE X o to) (hi:PE X i ti) (hg:zi2 X tget) (he:PE X e te) (hp:PIp X op tip) (hs:zeo X tset)
 (ha:∀ ov iv new,augStore i ov iv new = (do holding [new,ov,iv] (setItem ov iv new);release [new,ov,iv] [];pure .next):=by intros;rfl):PS X (.AugAssign (.Subscript o i tpos) op e pos) (zqT to ti te tget tip tset):=by
 intro pins s σ H D I h
 refine wpAny_AugAssign_SubscriptAny (thn (ho pins s σ H _ I h) fun ov s1 ⟨x1,H1,I1,r1,q1⟩=>?_) ha
 refine thn (hi pins s1 σ H1 _ I1 q1) fun iv s2 ⟨x2,H2,I2,r2,q2⟩=>?_
 refine thn (hg pins s2 σ H2 x1 x2 ov iv _ I2 r1 r2 q2) fun old s3 ⟨x3,H3,I3,r3,q3⟩=>?_
 refine thn (he pins s3 σ H3 _ I3 q3) fun v s4 ⟨x4,H4,I4,r4,q4⟩=>?_
 refine thn (hp pins s4 σ H4 x3 x4 old v _ I4 r3 r4 q4) fun new s5 ⟨x5,H5,I5,r5,q5⟩=>?_
 exact thn (hs pins s5 σ H5 x1 x2 x5 ov iv new _ I5 r1 r2 r5 q5) fun _ s6 ⟨H6,I6,q6⟩=>⟨σ,H6,I6,q6⟩
noncomputable def ipI (f:Int->Int->Int):TIp:=fun x y H Q=>∃ i j,x = .int i/\y = .int j/\Q (.int (f i j)) H
theorem zpU:PIp X .Add (ipI fun i j=>i + j):=by
 intro pins s σ H x y v u Q I r1 r2 h
 obtain ⟨i,j,e1,e2,q⟩:=h
 subst e1;subst e2
 obtain ⟨t,rfl⟩:=r1
 obtain ⟨t',rfl⟩:=r2
 exact iadd_int ⟨.int _,H,I.tok _,⟨_,rfl⟩,q⟩
end
structure It where
 go:Nat->Hp->Prop
 yld:Nat->Hp->V->Hp->Prop
 stop:Nat->Hp->Prop
def zeR (X:Cx) (pins:List (Addr × Obj)) (H:Hp) (b:Addr):Prop:=
 H b = none/\b ≠ X.env.locals/\b ∉ X.fs/\(b ∈ X.ex\/X.s₀.heap.objs.size<=b)/\(∀ x c,X.env.cells.lookup x = some c->c ≠ b)/\∀ p ∈ X.pn ++ pins,p.1 ≠ b
theorem Inv.fpOk {b:Addr} (I:Inv X pins σ H s) (hb:s.heap.objs.size<=b) (hn:H' b = none):zeR X pins H' b:=by
 refine ⟨hn,Nat.ne_of_gt (Q5 I.lt hb),I.nofs hb,.inr (Qj I.sz hb),fun x c e z=>?_,fun p hp z=>?_⟩
 ·obtain ⟨v,q⟩:=I.cell x c e
  exact absurd (Q5 q.lt (by rw [z];exact hb)) (Qo _)
 ·exact absurd (Q5 (Qe (I.pin p hp).1) (by rw [z];exact hb)) (Qo _)
structure Turn (P:Program) (w:World) (K:Frag) (tg:Expr) (J:It) (fp:List Addr) (it:Addr) (tn:Nat->Heap->Prop):Prop where
 mem:it ∈ fp
 obj:∀ i h,tn i h->∀ b ∈ fp,∃ o,h.get? b = some o/\∀ v,o.data ≠ .cell v
 keep:∀ i h h',tn i h->(∀ b ∈ fp,∀ o,h.get? b = some o->h'.get? b = some o)->tn i h'
 item:∀ (X:Cx),X.prog = P->X.w = w->X.K = K->X.calm = true->∀ (i:Nat) (pins:List (Addr × Obj)) (s:Shared) (σ:St) (H:Hp) (E:Value->Shared->Prop),Inv X pins σ H s->(∀ b ∈ fp,zeR X pins H b)->tn i s.heap->J.go i H->
  wpAny (model P w) X.A (pyNext (.ref it)) (fun r s1=>∃ u,r = some u /\
   wpAny (model P w) X.A (letOwnedTupleGo tg (.ref it) u) (fun _ s2=>∃ x H',Inv X pins σ H' s2/\RelV x u/\J.yld i H x H'/\tn (i + 1) s2.heap/\∀ b ∈ fp,H' b = none) E s1) E s
 done:∀ (X:Cx),X.prog = P->X.w = w->X.K = K->X.calm = true->∀ (i:Nat) (pins:List (Addr × Obj)) (s:Shared) (σ:St) (H:Hp) (E:Value->Shared->Prop),Inv X pins σ H s->(∀ b ∈ fp,zeR X pins H b)->tn i s.heap->J.stop i H->
  wpAny (model P w) X.A (pyNext (.ref it)) (fun r s1=>r = none/\Inv X pins σ H s1) E s
 self:∀ (A:Around) (i:Nat) (s:Shared) (Q:Value->Shared->Prop) (E:Value->Shared->Prop),tn i s.heap->Q (.ref it) s->wpAny (model P w) A (pyIter (.ref it)) Q E s
noncomputable abbrev TI:=St->Hp->(It->Hp->Prop)->Prop
def PIE (X:Cx) (pins:List (Addr × Obj)) (σ:St) (tg:Expr) (R:It->Hp->Prop) (itv:Value) (s2:Shared):Prop:=
 ∃ (it:Addr) (fp:List Addr) (tn:Nat->Heap->Prop) (J:It) (H':Hp),itv = .ref it/\Inv X pins σ H' s2/\Turn X.prog X.w X.K tg J fp it tn/\tn 0 s2.heap/\(∀ b ∈ fp,zeR X pins H' b)/\R J H'
def PI (X:Cx) (tg iter:Expr) (wi:TI):Prop:=
 ∀ (pins:List (Addr × Obj)) (s:Shared) (σ:St) (H:Hp) (R:It->Hp->Prop),Inv X pins σ H s->wi σ H R->
  wpAny (model X.prog X.w) X.A (eval iter X.env) (fun v s1=>wpAny (model X.prog X.w) X.A (pyIter v) (PIE X pins σ tg R) X.xe s1) X.xe s
theorem zkq {o:Obj} {n:String} {vs:Array Value} {Q:Unit->Shared->Prop} (ho:s.heap.get? it = some o) (hc:o.cls = .type n) (hd:o.data = .fields vs)
 (hn:["enumerate","zip","dict_itemiterator","dict_reverseitemiterator","odict_iterator","itertools.zip_longest","itertools.pairwise"].contains n = false) (hQ:Q () s):wpAny M A (letOwnedTupleGo tg (.ref it) u) Q E s:=by
 unfold letOwnedTupleGo
 cases tg <;> first
  | exact Qf hQ
  | (cases u <;> first
    | exact Qf hQ
    | (refine Q1 (wpAny_load ho ?_)
       rw [hc,hd]
       show wpAny M A (if (["enumerate","zip","dict_itemiterator","dict_reverseitemiterator","odict_iterator","itertools.zip_longest","itertools.pairwise"].contains n && vs[0]? == some (rawInt _)) = true then _ else _) Q E s
       rw [QB (by intro h;rw [hn,Bool.false_and] at h;cases h)]
       exact Qf hQ))
noncomputable def Itl (K:Frag) (a:Addr):It:=
 ⟨fun i H=>∃ xs x,SqL K H a xs/\xs[i]? = some x,fun i H x H'=>H' = H/\∀ xs,SqL K H a xs->xs[i]? = some x,fun i H=>∃ xs,SqL K H a xs/\xs.length<=i⟩
noncomputable def Itt (K:Frag) (a:Addr):It:=
 ⟨fun i H=>∃ xs x,SqT K H a xs/\xs[i]? = some x,fun i H x H'=>H' = H/\∀ xs,SqT K H a xs->xs[i]? = some x,fun i H=>∃ xs,SqT K H a xs/\xs.length<=i⟩
noncomputable def Itr (lo:Int) (n:Nat):It:=⟨fun i _=>i < n,fun i H x H'=>H' = H/\x = .int (lo + i),fun i _=>n<=i⟩
variable {K:Frag}
theorem zkG (a it:Addr):Turn P w K tg (Itl K a) [it] it (fun i h=>h.IsListIter it a i) where
 mem:=by simp
 obj:=fun i h st b hb=>by
  have e:b = it:=by simpa using hb
  subst e
  obtain ⟨o,e,c,d⟩:=st
  exact ⟨o,e,fun v z=>by rw [d] at z;cases z⟩
 keep:=fun i h h' st k=>st.at fun o e=>k it (by simp) o e
 item:=by
  intro X hP hw hK hc i pins s σ H E I hf st hg
  subst hP hw hK
  obtain ⟨xs,x,hq,hx⟩:=hg
  obtain ⟨its,rv,p,hz⟩:=I.list hq
  obtain ⟨u,hu,ru⟩:=rv.get hx
  obtain ⟨f0,f1,f2,f3,f4,f5⟩:=hf it (by simp)
  refine wpAny_pyNext_list_item st p.isList (x:=u) (by simpa using hu) fun h' st' sb=>?_
  have I1:Inv X pins σ H { s with heap:=h' }:=I.turned (t':=s.toks) (fun b o hb e=>(sb.2 b hb).trans e) f0 f1 f3 f4 f5
  obtain ⟨o,e,c,d⟩:=id st'
  exact ⟨u,rfl,zkq (s:={ s with heap:=h' }) e c d (by decide) ⟨x,H,I1,ru,⟨rfl,fun ys hy=>by rw [I.list_inj hy hq];exact hx⟩,st',fun b hb=>(hf b hb).1⟩⟩
 done:=by
  intro X hP hw hK hc i pins s σ H E I hf st hg
  subst hP hw hK
  obtain ⟨xs,hq,hx⟩:=hg
  obtain ⟨its,rv,p,hz⟩:=I.list hq
  obtain ⟨f0,f1,f2,f3,f4,f5⟩:=hf it (by simp)
  have hl:=rv.length
  exact wpAny_pyNext_list_end (I.ok.hd hc) st p.isList (by simp;omega) fun h' eb=>⟨rfl,I.turned (t':=s.toks) (fun b o hb e=>eb b o hb e) f0 f1 f3 f4 f5⟩
 self:=fun _ _ _ _ _ st h=>wpAny_pyIter_listiter st h
theorem zj3 (a it:Addr):Turn P w K tg (Itt K a) [it] it (fun i h=>h.IsTupleIter it a i) where
 mem:=by simp
 obj:=fun i h st b hb=>by
  have e:b = it:=by simpa using hb
  subst e
  obtain ⟨o,e,c,d⟩:=st
  exact ⟨o,e,fun v z=>by rw [d] at z;cases z⟩
 keep:=fun i h h' st k=>st.at fun o e=>k it (by simp) o e
 item:=by
  intro X hP hw hK hc i pins s σ H E I hf st hg
  subst hP hw hK
  obtain ⟨xs,x,hq,hx⟩:=hg
  obtain ⟨its,rv,p,hz⟩:=I.tuple hq
  obtain ⟨u,hu,ru⟩:=rv.get hx
  obtain ⟨f0,f1,f2,f3,f4,f5⟩:=hf it (by simp)
  refine wpAny_pyNext_tuple_item st (show s.heap.IsTuple a its.toArray from p) (x:=u) (by simpa using hu) fun h' st' sb=>?_
  have I1:Inv X pins σ H { s with heap:=h' }:=I.turned (t':=s.toks) (fun b o hb e=>(sb.2 b hb).trans e) f0 f1 f3 f4 f5
  obtain ⟨o,e,c,d⟩:=id st'
  exact ⟨u,rfl,zkq (s:={ s with heap:=h' }) e c d (by decide) ⟨x,H,I1,ru,⟨rfl,fun ys hy=>by rw [I.tuple_inj hy hq];exact hx⟩,st',fun b hb=>(hf b hb).1⟩⟩
 done:=by
  intro X hP hw hK hc i pins s σ H E I hf st hg
  subst hP hw hK
  obtain ⟨xs,hq,hx⟩:=hg
  obtain ⟨its,rv,p,hz⟩:=I.tuple hq
  obtain ⟨f0,f1,f2,f3,f4,f5⟩:=hf it (by simp)
  have hl:=rv.length
  exact wpAny_pyNext_tuple_end (I.ok.hd hc) st (show s.heap.IsTuple a its.toArray from p) (by simp;omega) fun h' eb=>⟨rfl,I.turned (t':=s.toks) (fun b o hb e=>eb b o hb e) f0 f1 f3 f4 f5⟩
 self:=fun _ _ _ _ _ st h=>wpAny_pyIter_tupleiter st h
theorem zj4 (it:Addr) (lo:Int) (n:Nat):Turn P w K tg (Itr lo n) [it] it (fun i h=>IsRangeIter h it (lo + (i:Nat) * 1) ((n:Int) - (i:Nat)) 1) where
 mem:=by simp
 obj:=fun i h st b hb=>by
  have e:b = it:=by simpa using hb
  subst e
  exact ⟨_,st,fun v z=>by
   have z':Data.fields _ = Data.cell v:=z
   cases z'⟩
 keep:=fun i h h' st k=>k it (by simp) _ st
 item:=by
  intro X hP hw hK hc i pins s σ H E I hf st hg
  subst hP hw hK
  obtain ⟨f0,f1,f2,f3,f4,f5⟩:=hf it (by simp)
  have W:=Walks.range (prog:=X.prog) (w:=X.w) (I.ok.hd hc) it lo 1 n
  refine W.item i s _ _ hg st fun v h' tk hv st' kk=>?_
  obtain ⟨t,rfl⟩:=hv
  have I1:Inv X pins σ H { s with heap:=h',toks:=tk }:=I.turned (fun b o hb e=>kk b o (by simpa using hb) e) f0 f1 f3 f4 f5
  refine ⟨_,rfl,zkq (s:={ s with heap:=h',toks:=tk }) (n:="range_iterator") st' rfl rfl (by decide) ⟨.int (lo + i),H,I1,⟨t,?_⟩,⟨rfl,rfl⟩,st',fun b hb=>(hf b hb).1⟩⟩
  rw [Int.mul_one]
 done:=by
  intro X hP hw hK hc i pins s σ H E I hf st hg
  subst hP hw hK
  obtain ⟨f0,f1,f2,f3,f4,f5⟩:=hf it (by simp)
  exact wpAny_pyNext_range_end (I.ok.hd hc) st (by have:n<=i:=hg;omega) fun h' eb=>⟨rfl,I.turned (t':=s.toks) (fun b o hb e=>eb b o hb e) f0 f1 f3 f4 f5⟩
 self:=fun _ _ _ _ _ st h=>wpAny_pyIter_rangeiter st h
variable {l:Expr} {fp:List Addr} {body:List Stmt} {p:Pos} {tl:TE}
section
noncomputable def zrr (K:Frag) (tl:TE):TI:=fun σ H R=>tl σ H fun x H1=>∃ a,x = .ref a/\(∃ xs,SqL K H1 a xs)/\R (Itl K a) H1
noncomputable def zsk (K:Frag) (tl:TE):TI:=fun σ H R=>tl σ H fun x H1=>∃ a,x = .ref a/\(∃ xs,SqT K H1 a xs)/\R (Itt K a) H1
theorem zjx (hl:PE X l tl):PI X tg l (zrr X.K tl):=by
 intro pins s σ H R I h
 refine thn (hl pins s σ H _ I h) fun v s1 ⟨x,H1,I1,r1,q1⟩=>?_
 obtain ⟨a,e,⟨xs,hq⟩,q⟩:=q1
 subst e
 cases r1
 obtain ⟨its,rv,p,hz⟩:=I1.list hq
 refine wpAny_pyIter_list p.isList ?_
 refine ⟨s1.heap.objs.size,[s1.heap.objs.size],_,_,H1,rfl,I1.kept (t':=s1.toks) fun b o e=>Q2 _ e,zkG a _,⟨_,Ql _ rfl,rfl,rfl⟩,fun b hb=>?_,q⟩
 have e:b = s1.heap.objs.size:=by simpa using hb
 subst e
 exact I1.fpOk (Q3 _) (I1.hok.fresh (Q3 _))
theorem zo7 (hl:PE X l tl):PI X tg l (zsk X.K tl):=by
 intro pins s σ H R I h
 refine thn (hl pins s σ H _ I h) fun v s1 ⟨x,H1,I1,r1,q1⟩=>?_
 obtain ⟨a,e,⟨xs,hq⟩,q⟩:=q1
 subst e
 cases r1
 obtain ⟨its,rv,p,hz⟩:=I1.tuple hq
 refine wpAny_pyIter_tuple (show s1.heap.IsTuple a its.toArray from p) ?_
 refine ⟨s1.heap.objs.size,[s1.heap.objs.size],_,_,H1,rfl,I1.kept (t':=s1.toks) fun b o e=>Q2 _ e,zj3 a _,⟨_,Ql _ rfl,rfl,rfl⟩,fun b hb=>?_,q⟩
 have e:b = s1.heap.objs.size:=by simpa using hb
 subst e
 exact I1.fpOk (Q3 _) (I1.hok.fresh (Q3 _))
theorem zh1 {R:It->Hp->Prop} {lo hi:Int} {t u v:Tok} {tk:Nat} (I:Inv X pins σ H s) (h1:-(2 ^ 62)<=lo) (h2:lo < 2 ^ 62) (h3:-(2 ^ 62)<=hi) (h4:hi < 2 ^ 62)
 (q:R (Itr lo (hi - lo).toNat) H):wpAny (model X.prog X.w) X.A (pyIter (.ref s.heap.objs.size)) (PIE X pins σ tg R) E { s with heap:=s.heap.push { cls:=.type "range",data:=.fields #[.int lo t,.int hi u,.int 1 v] },toks:=tk }:=by
 refine wpAny_pyIter_range (IsRange.new ..) (small_one h1 h2 h3 h4) ?_
 have I1:Inv X pins σ H { s with heap:=s.heap.push { cls:=.type "range",data:=.fields #[.int lo t,.int hi u,.int 1 v] },toks:=tk }:=I.kept fun b o e=>Q2 _ e
 refine ⟨(s.heap.push { cls:=.type "range",data:=.fields #[.int lo t,.int hi u,.int 1 v] }).objs.size,[(s.heap.push { cls:=.type "range",data:=.fields #[.int lo t,.int hi u,.int 1 v] }).objs.size],_,_,H,rfl,
  I1.kept (t':=tk) fun b o e=>Q2 _ e,zj4 _ lo (hi - lo).toNat,?_,fun b hb=>?_,q⟩
 ·have e1:lo + ((0:Nat):Int) * 1 = lo:=by simp
  have e2:(((hi - lo).toNat:Nat):Int) - ((0:Nat):Int) = Builtin.Range.rangeSize lo hi 1:=by rw [rangeSize_one];split <;> omega
  show IsRangeIter _ _ (lo + ((0:Nat):Int) * 1) ((((hi - lo).toNat:Nat):Int) - ((0:Nat):Int)) 1
  rw [e1,e2]
  exact Ql _ rfl
 ·have e:b = (s.heap.push { cls:=.type "range",data:=.fields #[.int lo t,.int hi u,.int 1 v] }).objs.size:=by simpa using hb
  subst e
  exact I1.fpOk (Q3 _) (I1.hok.fresh (Q3 _))
noncomputable def zrq (ta:TA):TI:=fun σ H R=>ta σ H fun vs H1=>∃ j:Int,vs = [.int j]/\-(2 ^ 62)<=j/\j < 2 ^ 62/\R (Itr 0 j.toNat) H1
noncomputable def zrp (ta:TA):TI:=fun σ H R=>ta σ H fun vs H1=>∃ i j:Int,vs = [.int i,.int j]/\(-(2 ^ 62)<=i/\i < 2 ^ 62/\-(2 ^ 62)<=j/\j < 2 ^ 62)/\R (Itr i (j - i).toNat) H1
theorem zkU {a:Expr} {ta:TA} {pos:Pos} (hg:Gl X "range") (hm:X.mg "range" = none) (ha:PA X [a] ta) (hs:starEach [a] X.env = [(false,eval a X.env)]:=by rfl):PI X tg (.Call (.Name "range" p) [a] [] pos) (zrq ta):=by
 intro pins s σ H R I h
 refine Call_ (zeE I hg hm boot_range (PyProof.Rows.callWith_type1 (thn (ha pos pins s σ H _ I h) fun us s1 ⟨vs,H1,I1,r1,q1⟩=>?_) hs rfl))
 obtain ⟨j,e,q1,q2,q⟩:=q1
 subst e
 cases r1 with
 | cons r rr=>
  cases rr
  obtain ⟨t,rfl⟩:=r
  exact call_range_1 (zh1 I1 (by omega) (by omega) q1 q2 (by simpa using q))
theorem zkT {a b:Expr} {ta:TA} {pos:Pos} (hg:Gl X "range") (hm:X.mg "range" = none) (ha:PA X [a,b] ta) (hs:starEach [a,b] X.env = [(false,eval a X.env),(false,eval b X.env)]:=by rfl) (hs2:starEach [b] X.env = [(false,eval b X.env)]:=by rfl) :
  PI X tg (.Call (.Name "range" p) [a,b] [] pos) (zrp ta):=by
 intro pins s σ H R I h
 refine Call_ (zeE I hg hm boot_range (PyProof.Rows.callWith_type1 (thn (ha pos pins s σ H _ I h) fun us s1 ⟨vs,H1,I1,r1,q1⟩=>?_) (by rw [hs,hs2]) (by rw [hs2];rfl)))
 obtain ⟨i,j,e,⟨q1,q2,q3,q4⟩,q⟩:=q1
 subst e
 cases r1 with
 | cons r rr=>
  cases rr with
  | cons r' rr=>
   cases rr
   obtain ⟨t,rfl⟩:=r
   obtain ⟨t',rfl⟩:=r'
   exact call_range_2 (zh1 I1 q1 q2 q3 q4 q)
noncomputable def zrY (wi:TI) (g:TG) (tb:TS):TS:=fun D σ H=>wi σ H fun J H1=>∃ W:Nat->Nat->St->Hp->Prop,(∃ m,W 0 m σ H1)/\∀ i m σ H,W i m σ H->
 (J.stop i H/\D.nx σ H)\/(J.go i H/\∃ N:St->Hp->Prop,(∀ σ' H',N σ' H'->∃ m',m' < m/\W (i + 1) m' σ' H')/\∀ x H',J.yld i H x H'->g x σ H' fun σ2 H2=>tb { D with nx:=N,ct:=N,bk:=D.nx } σ2 H2)
noncomputable def zdH (fp:List Addr) (h:Heap):List (Addr × Obj):=fp.filterMap fun b=>(h.get? b).map fun o=>(b,o)
theorem zbb {b:Addr} {o:Obj} (hb:b ∈ fp) (e:h.get? b = some o):(b,o) ∈ zdH fp h:=List.mem_filterMap.mpr ⟨b,hb,by rw [e];rfl⟩
theorem zk1 {p:Addr × Obj} (hp:p ∈ zdH fp h):p.1 ∈ fp/\h.get? p.1 = some p.2:=by
 obtain ⟨b,hb,e⟩:=List.mem_filterMap.mp hp
 cases q:h.get? b with
 | none=>rw [q] at e;cases e
 | some o=>
  rw [q] at e
  have e':(b,o) = p:=Qd e
  subst e'
  exact ⟨hb,q⟩
theorem Inv.pinned (I:Inv X pins σ H s) (hf:∀ b ∈ fp,zeR X pins H b) (ho:∀ b ∈ fp,∃ o,s.heap.get? b = some o/\∀ v,o.data ≠ .cell v):Inv X (pins ++ zdH fp s.heap) σ H s:=
 I.pins_of fun p hp=>(mem_append.mp hp).elim (fun z=>I.pin p (Qm _ z)) fun z=>by
  obtain ⟨hb,e⟩:=zk1 z
  obtain ⟨f0,f1,f2,_⟩:=hf p.1 hb
  obtain ⟨o,e',d⟩:=ho p.1 hb
  rw [e] at e';cases e'
  exact ⟨e,f0,f1,f2,d⟩
theorem Inv.unpinned {pl:List (Addr × Obj)} (I:Inv X (pins ++ pl) σ H s):Inv X pins σ H s:=I.pins_of fun p hp=>I.pin p (Qm _ (mem_append_left _ hp))
theorem zkP {iter:Expr} {wi:TI} {tb:TS} {pos:Pos} (hp:PassesOwn (model X.prog X.w) X.A X.env X.xe) (hc:X.calm = true) (hi:PI X tg iter wi) (hg:PG X tg g) (hb:PSs X body tb)
 (hs:∀ x,foldedSetIterable iter X.env x = pure x:=by intro _;rfl):PS X (.For tg iter body [] pos) (zrY wi g tb):=by
 intro pins s σ H D I h
 refine wpAny_For (thn (hi pins s σ H _ I h) fun v s1 h1=>thn h1 fun itv s2 h2=>?_) hs
 obtain ⟨it,fp,tn,J,H2,e,I2,T,st2,f2,W,⟨m0,w0⟩,turn⟩:=h2
 subst e
 -- what stays true of the iterator's objects through the loop
 have stat:∀ {H':Hp},(∀ b ∈ fp,H' b = none)->∀ b ∈ fp,zeR X pins H' b:=fun hn b hb=>⟨hn b hb,(f2 b hb).2⟩
 refine codeAny_forLoop_any (fun n s'=>∃ i σ' H',Inv X pins σ' H' s'/\tn i s'.heap/\(∀ b ∈ fp,H' b = none)/\W i n σ' H') ?_ m0 ⟨0,σ,H2,I2,st2,fun b hb=>(f2 b hb).1,w0⟩
 rintro n s3 ⟨i,σ3,H3,I3,st3,fr3,w3⟩
 rcases turn i n σ3 H3 w3 with ⟨stop,qn⟩ | ⟨go,N,hN,step⟩
 ·refine wpAny_passesOwn hp (thn (T.done X rfl rfl rfl hc i pins s3 σ3 H3 X.xe I3 (stat fr3) st3 stop) fun r s4 ⟨hr,I4⟩=>?_)
  subst hr
  exact wpAny_execs_nil ⟨σ3,H3,I4,qn⟩
 ·refine wpAny_passesOwn hp (thn (T.item X rfl rfl rfl hc i pins s3 σ3 H3 X.xe I3 (stat fr3) st3 go) fun r s4 ⟨u,hr,h4⟩=>?_)
  subst hr
  refine wpAny_passesOwn hp (thn h4 fun _ s5 ⟨x,H5,I5,r5,y5,st5,fr5⟩=>?_)
  have I5':=I5.pinned (stat fr5) (T.obj _ _ st5)
  refine wpAny_passesOwn hp (thn (hg _ s5 σ3 H5 x u _ I5' r5 (step x H5 y5)) fun _ s6 ⟨σ6,H6,I6,q6⟩=>?_)
  refine wpAny_passesOwn hp (thn (hb _ s6 σ6 H6 _ I6 q6) fun f s7 q7=>?_)
  have again:∀ {σ7:St} {H7:Hp},Inv X (pins ++ zdH fp s5.heap) σ7 H7 s7->N σ7 H7->∃ m,m < n/\∃ i σ' H',Inv X pins σ' H' s7/\tn i s7.heap/\(∀ b ∈ fp,H' b = none)/\W i m σ' H':=fun {σ7 H7} I7 n7=>by
   obtain ⟨m',hm,w7⟩:=hN σ7 H7 n7
   refine ⟨m',hm,i + 1,σ7,H7,I7.unpinned,T.keep _ _ _ st5 fun b hb o e=>(I7.pin (b,o) (Qm _ (Qm _ (zbb hb e)))).1,fun b hb=>?_,w7⟩
   obtain ⟨o,e,d⟩:=T.obj _ _ st5 b hb
   exact (I7.pin (b,o) (Qm _ (Qm _ (zbb hb e)))).2.1
  cases f with
  | next=>obtain ⟨σ7,H7,I7,n7⟩:=q7;exact again I7 n7
  | cont=>obtain ⟨σ7,H7,I7,n7⟩:=q7;exact again I7 n7
  | brk=>obtain ⟨σ7,H7,I7,q7⟩:=q7;exact ⟨σ7,H7,I7.unpinned,q7⟩
  | ret v=>obtain ⟨x7,σ7,H7,I7,r7,q7⟩:=q7;exact ⟨x7,σ7,H7,I7.unpinned,r7,q7⟩
end
noncomputable abbrev R2:=V->V->Hp->VK->Prop
def OpR (X:Cx) (f:Value->Value->Sem Value) (r:R2):Prop:=
 ∀ (pins:List (Addr × Obj)) (s:Shared) (σ:St) (H:Hp) (x y:V) (v u:Value) (Q:VK),Inv X pins σ H s->RelV x v->RelV y u->r x y H Q->
  wpAny (model X.prog X.w) X.A (f v u) (EP X pins σ Q) X.xe s
def UnR (X:Cx) (f:Value->Sem Value) (r:V->Hp->VK->Prop):Prop:=
 ∀ (pins:List (Addr × Obj)) (s:Shared) (σ:St) (H:Hp) (x:V) (v:Value) (Q:VK),Inv X pins σ H s->RelV x v->r x H Q->
  wpAny (model X.prog X.w) X.A (f v) (EP X pins σ Q) X.xe s
def CallR (X:Cx) (f:Value) (r:List V->Hp->VK->Prop):Prop:=
 ∀ (pins:List (Addr × Obj)) (s:Shared) (σ:St) (H:Hp) (xs:List V) (us:List Value) (Q:VK),Inv X pins σ H s->Vals xs us->r xs H Q->
  wpAny (model X.prog X.w) X.A (call f us) (EP X pins σ Q) X.xe s
noncomputable def tOp (r:R2) (ta tb:TE):TE:=fun σ H Q=>ta σ H fun x H1=>tb σ H1 fun y H2=>r x y H2 Q
noncomputable def tUn (r:V->Hp->VK->Prop) (ta:TE):TE:=fun σ H Q=>ta σ H fun x H1=>r x H1 Q
noncomputable def rI (C:Int->Int->Prop) (g:Int->Int->V):R2:=fun x y H Q=>∃ i j,x = .int i/\y = .int j/\C i j/\Q (g i j) H
noncomputable def rI0 (g:Int->Int->V):R2:=fun x y H Q=>∃ i j,x = .int i/\y = .int j/\Q (g i j) H
noncomputable def rU (g:Int->V):V->Hp->VK->Prop:=fun x H Q=>∃ i,x = .int i/\Q (g i) H
variable {r:R2} {tc:TE} {f:Value->Value->Sem Value}
section
variable {a b c:Expr} {pos:Pos}
theorem zmO (ha:PE X a ta) (hb:PE X b tb) (I:Inv X pins σ H s)
 (h:ta σ H fun x H1=>tb σ H1 fun y H2=>R x y H2) 
 (hf:∀ v u s2 x y H2,Inv X pins σ H2 s2->RelV x v->RelV y u->R x y H2->wpAny (model X.prog X.w) X.A (f v u) Q X.xe s2) :
  wpAny (model X.prog X.w) X.A (eval a X.env) (fun v s₁=>wpAny (model X.prog X.w) X.A (eval b X.env) (fun u s₂=>wpAny (model X.prog X.w) X.A (f v u) Q X.xe s₂) X.xe s₁) X.xe s:=by
 refine thn (ha pins s σ H _ I h) fun v s1 ⟨x,H1,I1,r1,q1⟩=>?_
 refine thn (hb pins s1 σ H1 _ I1 q1) fun u s2 ⟨y,H2,I2,r2,q2⟩=>?_
 exact hf v u s2 x y H2 I2 r1 r2 q2
theorem zmW {op:Operator} (ho:OpR X (binaryOp op) r) (ha:PE X a ta) (hb:PE X b tb):PE X (.BinOp a op b pos) (tOp r ta tb):=by
 intro pins s σ H Q I h
 exact wpAny_BinOp (zmO ha hb I h fun v u s2 x y H2 I2 rx ry q=>ho pins s2 σ H2 x y v u Q I2 rx ry q)
theorem zrb {op:UnaryOp} {r:V->Hp->VK->Prop} (ho:UnR X (unaryOp op) r) (ha:PE X a ta):PE X (.UnaryOp op a pos) (tUn r ta):=by
 intro pins s σ H Q I h
 exact UnaryOp_ (thn (ha pins s σ H _ I h) fun v s1 ⟨x,H1,I1,r1,q1⟩=>ho pins s1 σ H1 x v Q I1 r1 q1)
theorem opI {C:Int->Int->Prop} {g:Int->Int->Int}
 (rule:∀ (i j:Int) (t u:Tok) (s:Shared) (Q:Value->Shared->Prop) (E:Value->Shared->Prop),C i j->Q (.int (g i j) s.toks) { s with toks:=s.toks + 1 }->wpAny (model X.prog X.w) X.A (f (.int i t) (.int j u)) Q E s) :
  OpR X f (rI C fun i j=>.int (g i j)):=by
 intro pins s σ H x y v u Q I rx ry h
 obtain ⟨i,j,rfl,rfl,hc,q⟩:=h
 obtain ⟨t,rfl⟩:=rx
 obtain ⟨t',rfl⟩:=ry
 exact rule i j t t' s _ _ hc ⟨.int (g i j),H,I.tok _,⟨_,rfl⟩,q⟩
theorem zpq {g:Int->Int->Int}
 (rule:∀ (i j:Int) (t u:Tok) (s:Shared) (Q:Value->Shared->Prop) (E:Value->Shared->Prop),Q (.int (g i j) s.toks) { s with toks:=s.toks + 1 }->wpAny (model X.prog X.w) X.A (f (.int i t) (.int j u)) Q E s) :
  OpR X f (rI0 fun i j=>.int (g i j)):=by
 intro pins s σ H x y v u Q I rx ry h
 obtain ⟨i,j,rfl,rfl,q⟩:=h
 obtain ⟨t,rfl⟩:=rx
 obtain ⟨t',rfl⟩:=ry
 exact rule i j t t' s _ _ ⟨.int (g i j),H,I.tok _,⟨_,rfl⟩,q⟩
theorem zki {g:Int->Int->Bool}
 (rule:∀ (i j:Int) (t u:Tok) (s:Shared) (Q:Value->Shared->Prop) (E:Value->Shared->Prop),Q (.bool (g i j)) s->wpAny (model X.prog X.w) X.A (f (.int i t) (.int j u)) Q E s) :
  OpR X f (rI0 fun i j=>.bl (g i j)):=by
 intro pins s σ H x y v u Q I rx ry h
 obtain ⟨i,j,rfl,rfl,q⟩:=h
 obtain ⟨t,rfl⟩:=rx
 obtain ⟨t',rfl⟩:=ry
 exact rule i j t t' s _ _ ⟨.bl (g i j),H,I,rfl,q⟩
def zst (i j:Int):Prop:=0<=j/\j<=1000000/\i.natAbs < 2 ^ 64
def CMul (i j:Int):Prop:=(-(2 ^ 64) < i/\i < 2 ^ 64)\/(-(2 ^ 64) < j/\j < 2 ^ 64)
theorem CMul.ok {i j:Int} (h:CMul i j):IntMulOk i j:=by
 rcases h with ⟨h1,h2⟩ | ⟨h1,h2⟩
 ·exact .of_left (intBits_le_64 h1 h2)
 ·exact .of_right (intBits_le_64 h1 h2)
theorem zpp:OpR X (binaryOp .Add) (rI0 fun i j=>.int (i + j)):=zpq fun _ _ _ _ _ _ _ q=>add_int q
theorem zpk:OpR X (binaryOp .Sub) (rI0 fun i j=>.int (i - j)):=zpq fun _ _ _ _ _ _ _ q=>sub_int q
theorem znH:OpR X (binaryOp .Mod) (rI (fun _ j=>j ≠ 0) fun i j=>.int (i.fmod j)):=opI fun _ _ _ _ _ _ _ hc q=>mod_int' hc q
theorem zpl:OpR X (binaryOp .Pow) (rI zst fun i j=>.int (i ^ j.toNat)):=opI fun _ _ _ _ _ _ _ hc q=>pow_int_small hc.1 hc.2.1 hc.2.2 q
theorem unI {f:Value->Sem Value} {g:Int->Int}
  (rule:∀ (i:Int) (t:Tok) (s:Shared) (Q:Value->Shared->Prop) (E:Value->Shared->Prop),Q (.int (g i) s.toks) { s with toks:=s.toks + 1 }->wpAny (model X.prog X.w) X.A (f (.int i t)) Q E s) :
  UnR X f (rU fun i=>.int (g i)):=by
 intro pins s σ H x v Q I rx h
 obtain ⟨i,rfl,q⟩:=h
 obtain ⟨t,rfl⟩:=rx
 exact rule i t s _ _ ⟨.int (g i),H,I.tok _,⟨_,rfl⟩,q⟩
theorem zoC:UnR X (unaryOp .USub) (rU fun i=>.int (-i)):=unI fun _ _ _ _ _ q=>neg_int q
end
section
variable {a b c:Expr} {pos:Pos}
theorem zlu {Q:VK} {k k':Bool} (I:Inv X pins σ H s) (q:Q (.bl k) H) (e:k = k'):EP X pins σ Q (.bool k') s:=by
 subst e
 exact ⟨.bl k,H,I,rfl,q⟩
theorem zrf:OpR X (compareOp .Lt) (rI0 fun i j=>.bl (decide (i < j))):=zki fun _ _ _ _ _ _ _ q=>lt_int q
theorem zrg:OpR X (compareOp .LtE) (rI0 fun i j=>.bl (decide (i<=j))):=zki fun _ _ _ _ _ _ _ q=>le_int q
theorem zrh:OpR X (compareOp .Gt) (rI0 fun i j=>.bl (decide (j < i))):=zki fun _ _ _ _ _ _ _ q=>gt_int q
theorem zri:OpR X (compareOp .GtE) (rI0 fun i j=>.bl (decide (j<=i))):=zki fun _ _ _ _ _ _ _ q=>ge_int q
theorem zpm:OpR X (compareOp .Is) (fun x y H Q=>y = .non/\Q (.bl (decide (x = .non))) H):=by
 intro pins s σ H x y v u Q I rx ry h
 obtain ⟨rfl,q⟩:=h
 cases ry
 refine is_none_gen (zlu I q ?_)
 cases x <;> first
  | (cases rx;rfl)
  | (obtain ⟨t,rfl⟩:=rx;rfl)
theorem znD:OpR X (compareOp .IsNot) (fun x y H Q=>y = .non/\Q (.bl (!decide (x = .non))) H):=by
 intro pins s σ H x y v u Q I rx ry h
 obtain ⟨rfl,q⟩:=h
 cases ry
 refine isnot_none_gen (zlu I q ?_)
 cases x <;> first
  | (cases rx;rfl)
  | (obtain ⟨t,rfl⟩:=rx;rfl)
theorem yk (b:Expr) (h:op ≠ .In:=by decide) (h2:op ≠ .NotIn:=by decide):behindInMarks op b = false:=by
 have e1:(op == CmpOp.In) = false:=by cases op <;> first | rfl | exact absurd rfl h
 have e2:(op == CmpOp.NotIn) = false:=by cases op <;> first | rfl | exact absurd rfl h2
 cases b <;> simp [behindInMarks,e1,e2]
theorem znw (ho:OpR X (compareOp op) r) (ha:PE X a ta) (hb:PE X b tb) (hm:behindInMarks op b = false):PE X (.Compare a [op] [b] pos) (tOp r ta tb):=by
 intro pins s σ H Q I h
 exact wpAny_Compare1 (zmO ha hb I h fun v u s2 x y H2 I2 rx ry q=>ho pins s2 σ H2 x y v u Q I2 rx ry q) hm
noncomputable def zqM (t:TE):TT:=fun σ H Q=>t σ H fun x H'=>∃ k,x = .bl k/\Q k H'
theorem znm (ho:OpR X (compareOp op) r) (ha:PE X a ta) (hb:PE X b tb) (hm:behindInMarks op b = false):PT X (.Compare a [op] [b] pos) (zqM (tOp r ta tb)):=by
 intro pins s σ H Q I h
 refine wpAny_isTrue_Compare1 (thn (ha pins s σ H _ I h) fun v s1 ⟨x,H1,I1,r1,q1⟩=>thn (hb pins s1 σ H1 _ I1 q1) fun u s2 ⟨y,H2,I2,r2,q2⟩=>
  thn (ho pins s2 σ H2 x y v u _ I2 r1 r2 q2) fun c s3 ⟨z,H3,I3,r3,k,e,q3⟩=>?_) hm
 subst e
 cases r3
 exact wpAny_truthy_bool ⟨H3,I3,q3⟩
noncomputable def zkJ (r r':R2) (ta tb tc:TE):TE:=fun σ H Q=>ta σ H fun x H1=>tb σ H1 fun y H2=>r x y H2 fun z H3=>∃ k,z = .bl k /\
 (if k = true then tc σ H3 fun w' H4=>r' y w' H4 Q else Q (.bl false) H3)
theorem zmc {op':CmpOp} {r':R2} (ho:OpR X (compareOp op) r) (ho':OpR X (compareOp op') r') (ha:PE X a ta) (hb:PE X b tb) (hc:PE X c tc)
 (hm:lastMarks [op,op'] [b,c] = false:=by with_unfolding_all rfl):PE X (.Compare a [op,op'] [b,c] pos) (zkJ r r' ta tb tc):=by
 intro pins s σ H Q I h
 refine Compare_chain (thn (ha pins s σ H _ I h) fun v s1 ⟨x,H1,I1,r1,q1⟩=>chain_link (thn (hb pins s1 σ H1 _ I1 q1) fun u s2 ⟨y,H2,I2,r2,q2⟩=>
  thn (ho pins s2 σ H2 x y v u _ I2 r1 r2 q2) fun d s3 ⟨z,H3,I3,r3,k,e,q3⟩=>?_)) hm
 subst e
 cases r3
 refine wpAny_truthy_bool ?_
 cases k with
 | false=>exact ite_ff ⟨.bl false,H3,I3,rfl,q3⟩
 | true=>exact ite_tt (chain_last (thn (hc pins s3 σ H3 _ I3 q3) fun w' s4 ⟨z',H4,I4,r4,q4⟩=>ho' pins s4 σ H4 y z' u w' Q I4 r2 r4 q4))
theorem zcr:(sizeLine:Nat) < 2 ^ 63:=by rw [sizeLine_eq];decide
theorem zkh:OpR X (binaryOp .Add) (fun x y H Q=>∃ i j,x = .str i/\y = .str j/\i.length + j.length<=sizeLine/\Q (.str (i ++ j)) H):=by
 intro pins s σ H x y v u Q I rx ry h
 obtain ⟨i,j,rfl,rfl,hz,q⟩:=h
 obtain ⟨t,rfl⟩:=rx
 obtain ⟨t',rfl⟩:=ry
 exact add_str (fun t' tk=>⟨.str (i ++ j),H,I.tok _,⟨_,rfl⟩,q⟩) hz
theorem vals1 {x:V} (r:Vals [x] us):∃ u,us = [u]/\RelV x u:=by
 cases r with
 | cons r1 r2=>cases r2;exact ⟨_,rfl,r1⟩
theorem vals2 {x:V} (r:Vals [x,y] us):∃ u w',us = [u,w']/\RelV x u/\RelV y w':=by
 cases r with
 | cons r1 r2=>
  cases r2 with
  | cons r3 r4=>cases r4;exact ⟨_,_,rfl,r1,r3⟩
theorem zlH (hc:X.calm = true):CallR X (.builtin "max") (fun xs H Q=>∃ i j,xs = [.int i,.int j]/\Q (.int (if j > i then j else i)) H):=by
 intro pins s σ H xs us Q I r h
 obtain ⟨i,j,rfl,q⟩:=h
 obtain ⟨u,w',rfl,⟨t,rfl⟩,⟨t',rfl⟩⟩:=vals2 r
 refine max_two_ints (I.ok.hd hc) fun h' tk k=>⟨_,H,I.kept k,?_,q⟩
 by_cases hj:j > i
 ·rw [QA hj,QA hj];exact ⟨_,rfl⟩
 ·rw [QB hj,QB hj];exact ⟨_,rfl⟩
theorem zlG (hc:X.calm = true):CallR X (.builtin "min") (fun xs H Q=>∃ i j,xs = [.int i,.int j]/\Q (.int (if j < i then j else i)) H):=by
 intro pins s σ H xs us Q I r h
 obtain ⟨i,j,rfl,q⟩:=h
 obtain ⟨u,w',rfl,⟨t,rfl⟩,⟨t',rfl⟩⟩:=vals2 r
 refine min_two_ints (I.ok.hd hc) fun h' tk k=>⟨_,H,I.kept k,?_,q⟩
 by_cases hj:j < i
 ·rw [QA hj,QA hj];exact ⟨_,rfl⟩
 ·rw [QB hj,QB hj];exact ⟨_,rfl⟩
end
structure ObjM (h:Heap) (x dx C:Addr) (mA:Str->Option Value):Prop where
 obj:h.get? x = some (PySem.W.instObj C dx)
 ns:h.Ns1 dx mA
 ne:dx ≠ x
variable {dx:Addr} {mA:Str->Option Value}
theorem zk8 (n:h.Ns1 dx mA):∃ od,h.get? dx = some od/\∀ name,PySem.W.lookIn name od = some (mA name):=by
 obtain ⟨o,es,ep,ho,hd,hk,_,hm⟩:=n
 refine ⟨o,ho,fun name=>?_⟩
 have e:=hm name
 unfold nsFind findBy at e
 rw [← Array.find?_toList] at e
 unfold PySem.W.lookIn
 rw [hd]
 dsimp only
 split
 ·rename_i y q
  rw [q] at e
  exact congrArg some e
 ·rename_i q
  rw [q] at e
  have a:es.toList.any (·.refKey) = false:=by
   rw [List.any_eq_false]
   intro y hy
   obtain ⟨z,t,hkey⟩:=hk y (Array.mem_toList_iff.mp hy)
   simp [DictEntry.refKey,hkey]
  have a':¬ es.toList.any (·.refKey) = true:=by rw [a];exact Q4
  rw [QB a']
  exact congrArg some e
variable {C:Addr}
theorem ObjM.look {x:Addr} (I:ObjM h x dx C mA):∃ od,PySem.W.InstAt h x (PySem.W.instObj C dx) C (some od)/\∀ name,PySem.W.lookIn name od = some (mA name):=
 let ⟨od,ho,hl⟩:=zk8 I.ns
 ⟨od,⟨I.obj,rfl,rfl,ho⟩,hl⟩
variable {kw:List (Str × Value)} {prog:Program} {name:Str}
section
variable {x f:Addr} {v:Value}
theorem get_map {expr:Bool} (X:K.In s.heap) (I:ObjM s.heap x dx C mA) (hg:PySem.W.plainGet K C name = true) (hh:PySem.W.hasDictIn K C = true)
 (ha:PySem.W.findIn K (.ref C) name = some none) (hv:mA name = some v) (hv':PySem.W.handedIn v = true) (h:Q v { s with toks:=s.toks + 1 }) :
  wpAny (model prog w) A (getAttr (.ref x) name expr) Q E s:=by
 obtain ⟨od,J,hl⟩:=I.look
 exact PySem.W.get_value X J (PySem.W.plainGet_of hg).1 (PySem.W.findObj_own hh ha rfl (by rw [hl,hv])) hv' h
theorem znf {ns:List Str} {Q:Unit->Shared->Prop} (X:K.In s.heap) (I:ObjM s.heap x dx C mA)
  (hs:PySem.W.findIn K (.ref C) "__setattr__" = some (some (.builtin "object.__setattr__"))) (hp:PySem.W.plainOver K C = true) (ht:PySem.W.takerIn K C name = some none) (hh:PySem.W.hasDictIn K C = true)
  (hw:PySem.Within mA ns) (hsz:ns.length<=sizeLine)
  (h:∀ h',ObjM h' x dx C (fun y=>if y = name then some v else mA y)->Heap.SameBut dx s.heap h'->Q () { s with heap:=h',toks:=s.toks + 2 }) :
  wpAny (model prog w) A (setAttr (.ref x) name v) Q E s:=by
 obtain ⟨od,J,hl⟩:=I.look
 refine PySem.W.set_plain X J hs (PySem.W.osa_open (s:={ s with toks:=s.toks + 1 }) (r:=none) X J hp ht fun b=>?_)
 obtain ⟨cd,hc,hd'⟩:=PySem.W.any_some hh
 have hx:s.heap.get? x = some ⟨.ref C,some dx,.plain,#[]⟩:=I.obj
 refine Q1 (Qf (Q1 (Q1 (wpAny_loadPart hx (Q1 (PySem.W.Looks.here (s:={ s with toks:=s.toks + 1 }) (PySem.W.looks_clsIn X hc) ?_))))))
 rw [hd']
 refine Qf (a:=some dx) (Q1 (Qf (Q1 ?_)))
 refine wpAny_nsSet1 (s:={ s with toks:=s.toks + 1 }) I.ns fun h' hn2 hs2=>?_
 obtain ⟨oD,esD,epD,hoD,hdD,hcD⟩:=hn2.count (PySem.Within.cons name v hw)
 refine Q1 (wpAny_lookBehind hoD (by rw [hdD];exact pastItsLine_dict (Qj hcD (by rw [Qp];omega))) ?_)
 exact Qf (h _ ⟨(hs2.2 _ (Ne.symm I.ne)).trans I.obj,hn2,I.ne⟩ hs2)
theorem zmj {R:Result->Shared->Prop} {vs:List Value} (X:K.In s.heap) (hm:PySem.W.makesIn K C = true)
 (hi:PySem.W.findIn K (.ref C) "__init__" = some (some (.ref f))) (hf:PySem.W.typeIn K (.ref f) = some (.type "function"))
 (h:codeAny (model prog w) (A.under (.builtin "type.__call__" ⟨.ref C :: vs,kw⟩)) (.call (.ref f) ⟨.ref (s.heap.objs.size + 1) :: vs,kw⟩) (PySem.W.InitBack (s.heap.objs.size + 1) R)
 { s with heap:=(s.heap.push PySem.W.emptyDict).push (PySem.W.instObj C s.heap.objs.size) }) :
  codeAny (model prog w) A (.call (.ref C) ⟨vs,kw⟩) R s:=by
 obtain ⟨hh,g,d,t,os⟩:=s
 exact PySem.W.make_core (PySem.W.makes_of X hm) (PySem.W.looks_findIn X hi) (fun self=>PySem.W.bind_fn X self hf) (.inl rfl) h
end
noncomputable def z6 (f:Str) (v:V):List (Str × V)->List (Str × V)
 | []=>[(f,v)]
 | (g,x) :: r=>if g = f then (g,v) :: r else (g,x) :: z6 f v r
theorem zfh (f g:Str) (v:V):∀ fs:List (Str × V),(z6 f v fs).lookup g = if g = f then some v else fs.lookup g
 | []=>by
  show List.lookup g [(f,v)] = _
  by_cases h:g = f
  ·have hb:(g == f) = true:=beq_iff_eq.mpr h
   simp only [List.lookup,hb,QA h]
  ·have hb:(g == f) = false:=beq_eq_false_iff_ne.mpr h
   simp only [List.lookup,hb,QB h]
 | (k,x) :: r=>by
  have ih:=zfh f g v r
  rw [show z6 f v ((k,x) :: r) = (if k = f then (k,v) :: r else (k,x) :: z6 f v r) from rfl]
  by_cases hk:k = f
  ·rw [QA hk]
   by_cases h:g = k
   ·have hb:(g == k) = true:=beq_iff_eq.mpr h
    simp only [List.lookup,hb,QA (h.trans hk)]
   ·have hb:(g == k) = false:=beq_eq_false_iff_ne.mpr h
    simp only [List.lookup,hb,QB (fun e:g = f=>h (e.trans hk.symm))]
  ·rw [QB hk]
   by_cases h:g = k
   ·have hb:(g == k) = true:=beq_iff_eq.mpr h
    simp only [List.lookup,hb,QB (fun e:g = f=>hk (h.symm.trans e))]
   ·have hb:(g == k) = false:=beq_eq_false_iff_ne.mpr h
    simp only [List.lookup,hb]
    exact ih
theorem zeF (f:Str) (v:V):∀ fs:List (Str × V),f ∈ (z6 f v fs).map (·.1)/\∀ g,g ∈ fs.map (·.1)->g ∈ (z6 f v fs).map (·.1)
 | []=>⟨by simp [z6],fun g h=>by simp at h⟩
 | (k,x) :: r=>by
  obtain ⟨i1,i2⟩:=zeF f v r
  rw [show z6 f v ((k,x) :: r) = (if k = f then (k,v) :: r else (k,x) :: z6 f v r) from rfl]
  by_cases hk:k = f
  ·rw [QA hk]
   subst hk
   exact ⟨by simp,fun g h=>by simpa using h⟩
  ·rw [QB hk]
   refine ⟨?_,fun g h=>?_⟩
   ·rw [QG]
    exact mem_cons_of_mem _ i1
   ·rw [QG] at h ⊢
    rcases QD.mp h with e | e
    ·exact QD.mpr (.inl e)
    ·exact mem_cons_of_mem _ (i2 g e)
theorem zfj (f:Str) (v:V):∀ fs:List (Str × V),(z6 f v fs).length<=fs.length + 1
 | []=>by simp [z6]
 | (k,x) :: r=>by
  have ih:=zfj f v r
  rw [show z6 f v ((k,x) :: r) = (if k = f then (k,v) :: r else (k,x) :: z6 f v r) from rfl]
  by_cases hk:k = f
  ·rw [QA hk,Qp,Qp];omega
  ·rw [QB hk,Qp,Qp];omega
theorem RelO.some_of {o:Option Value} (r:RelO (some v) o):∃ u,o = some u/\RelV v u:=by
 cases o with
 | none=>exact (show False from r).elim
 | some u=>exact ⟨u,rfl,r⟩
theorem zll (r:RelV v u):PySem.W.handedIn u = true:=by
 cases v with
 | non=>cases (show u = Value.none from r);rfl
 | bl b=>cases (show u = Value.bool b from r);rfl
 | int i=>obtain ⟨t,e⟩:=(show ∃ t,u = Value.int i t from r);cases e;rfl
 | str x=>obtain ⟨t,e⟩:=(show ∃ t,u = Value.str x t from r);cases e;rfl
 | byt b=>obtain ⟨t,e⟩:=(show ∃ t,u = Value.bytes b t from r);cases e;rfl
 | flt b=>obtain ⟨t,e⟩:=(show ∃ t,u = Value.float b t from r);cases e;rfl
 | ref a=>cases (show u = Value.ref a from r);rfl
 | ty n=>cases (show u = Value.type n from r);rfl
section
variable {a:Addr} {fs fs':List (Str × V)}
theorem zjI (hok:HOk P w H h) (e:H a = some (.ins C dx fs)):∃ mA,ObjM h a dx C mA/\(∀ f,RelO (fs.lookup f) (mA f))/\PySem.Within mA (fs.map (·.1))/\fs.length<=1000/\H dx = some (.own a):=by
 obtain ⟨d,z,ne,ob,mA,n,r,q⟩:=(show ObjOk P w H h a (.ins C dx fs) from hok a _ e)
 exact ⟨mA,⟨ob,n,ne⟩,r,q,z,d⟩
end
structure Cls (K:Frag) (C:Addr):Prop where
 pg:PySem.W.plainGet K C Str.empty = true
 hd:PySem.W.hasDictIn K C = true
 po:PySem.W.plainOver K C = true
 sa:PySem.W.findIn K (.ref C) "__setattr__" = some (some (.builtin "object.__setattr__"))
theorem Cls.get (c:Cls K C) (f:Str):PySem.W.plainGet K C f = true:=c.pg
def NoAttr (K:Frag) (C:Addr) (f:Str):Prop:=PySem.W.findIn K (.ref C) f = some none
theorem NoAttr.taker {f:Str} (n:NoAttr K C f):PySem.W.takerIn K C f = some none:=by
 unfold PySem.W.takerIn
 rw [show PySem.W.findIn K (.ref C) f = some none from n]
 rfl
structure Con (K:Frag) (C:Addr) (f:Str) (v:V) (u:Value):Prop where
 at_:PySem.W.findIn K (.ref C) f = some (some u)
 rel:RelV v u
 get:PySem.W.specialIn K u "__get__" = some none
 cp:PySem.W.copiedNames.contains f = false
structure Meth (K:Frag) (C:Addr) (m:Str) (f:Addr):Prop where
 at_:PySem.W.findIn K (.ref C) m = some (some (.ref f))
 fn:PySem.W.isFn K (.ref f) = true
 kp:PySem.W.keepIn K (.ref f) = true
section
variable {a:Addr} {fs:List (Str × V)} {f:Str}
theorem zf5 {b:Bool} (I:Inv X pins σ H s) (e:H a = some (.ins C dx fs)) (c:Cls X.K C) (n:NoAttr X.K C f) (l:fs.lookup f = some v)
 (h:∀ u s',Inv X pins σ H s'->RelV v u->Q u s'):wpAny (model X.prog X.w) A (getAttr (.ref a) f b) Q E s:=by
 obtain ⟨mA,O,r,_,_,_⟩:=zjI I.hok e
 obtain ⟨u,hu,ru⟩:=RelO.some_of (v:=v) (o:=mA f) (by rw [← l];exact r f)
 exact get_map I.kIn O (c.get f) c.hd n hu (zll ru) (h u _ (I.tok _) ru)
theorem zfU {Q:Unit->Shared->Prop} (I:Inv X pins σ H s) (e:H a = some (.ins C dx fs)) (c:Cls X.K C) (n:NoAttr X.K C f) (hl:fs.length < 1000) (ry:RelV y u)
 (h:∀ s',Inv X pins σ (upd H a (.ins C dx (z6 f y fs))) s'->Q () s'):wpAny (model X.prog X.w) A (setAttr (.ref a) f u) Q E s:=by
 obtain ⟨mA,O,r,wi,_,ho⟩:=zjI I.hok e
 have hz:(fs.map (·.1)).length<=sizeLine:=by rw [Qh,sizeLine_eq];omega
 refine znf I.kIn O c.sa c.po n.taker c.hd wi hz fun h' O' sb=>h _ ?_
 have hd:∃ o,h'.get? dx = some o:=let ⟨o,_,_,e',_⟩:=O'.ns;⟨o,e'⟩
 refine I.write (x:=a) (e:=dx) (by rw [e];exact True.intro) (.inr ho) (fun b q hb z=>(sb.2 b hb).trans z) hd ?_
 refine ⟨by rw [zm O.ne];exact ho,?_,O.ne,O'.obj,_,O'.ns,fun g=>?_,fun g hg=>?_⟩
 ·have:=zfj f y fs;omega
 ·show RelO ((z6 f y fs).lookup g) (if g = f then some u else mA g)
  rw [zfh]
  by_cases q:g = f
  ·rw [QA q,QA q];exact ry
  ·rw [QB q,QB q];exact r g
 ·by_cases q:g = f
  ·rw [q];exact (zeF f y fs).1
  ·refine (zeF f y fs).2 g (wi g fun z=>hg ?_)
   show (if g = f then some u else mA g) = none
   rw [QB q];exact z
theorem Inv.made (I:Inv X pins σ H s):Inv X pins σ (upd (upd H s.heap.objs.size (.own (s.heap.objs.size + 1))) (s.heap.objs.size + 1) (.ins C s.heap.objs.size []))
  { s with heap:=(s.heap.push PySem.W.emptyDict).push (PySem.W.instObj C s.heap.objs.size) }:=by
 have e1:(s.heap.push PySem.W.emptyDict).get? s.heap.objs.size = some PySem.W.emptyDict:=Ql s.heap rfl
 have e2:((s.heap.push PySem.W.emptyDict).push (PySem.W.instObj C s.heap.objs.size)).get? (s.heap.objs.size + 1) = some (PySem.W.instObj C s.heap.objs.size):=by
  have:=Ql (s.heap.push PySem.W.emptyDict) (o:=PySem.W.instObj C s.heap.objs.size) rfl
  rwa [Heap.size_push] at this
 have e3:(s.heap.push PySem.W.emptyDict).Ns s.heap.objs.size (fun _=>none):=⟨PySem.W.emptyDict,#[],_,e1,rfl,(fun e he=>absurd he (by simp)),fun _=>rfl⟩
 have I1:=I.laid (a:=s.heap.objs.size) (o:=.own (s.heap.objs.size + 1)) (h':=s.heap.push PySem.W.emptyDict) (t':=s.toks) (fun b u q=>Q2 _ q) (Q3 _) ⟨_,e1⟩
 refine I1.laid (a:=s.heap.objs.size + 1) (o:=.ins C s.heap.objs.size []) (t':=s.toks) (fun b u q=>Q2 _ q) (Nat.le_of_eq (Heap.size_push _ _)) ?_
 have ne:s.heap.objs.size ≠ s.heap.objs.size + 1:=Qk (Nat.lt_succ_self _)
 refine ⟨by rw [zm ne,yC],Nat.zero_le _,ne,e2,fun _=>none,(Heap.Ns1.of_empty e3).at fun o q=>Q2 _ q,fun _=>True.intro,fun y hy=>absurd rfl hy⟩
theorem zou {env:Env} {pos:Pos} (hb:attributeBase e f env (eval e env) = eval e env)
 (h:wpAny (model prog w) A (eval e env) (fun o s₁=>wpAny (model prog w) A (getAttr o f true) Q E s₁) E s):wpAny (model prog w) A (eval (.Attribute e f pos) env) Q E s:=
 Attribute_any_ h (by rw [arm_eval_Attribute,hb])
end
noncomputable def zrZ (K:Frag) (ta:TE) (f:Str):TE:=fun σ H Q=>ta σ H fun x H1=>∃ a C dx fs v,x = .ref a/\H1 a = some (.ins C dx fs)/\Cls K C/\NoAttr K C f/\fs.lookup f = some v/\Q v H1
noncomputable def zr2 (K:Frag) (ta tv:TE) (f:Str):TS:=fun D σ H=>tv σ H fun y H1=>ta σ H1 fun x H2=>∃ a C dx fs,x = .ref a/\H2 a = some (.ins C dx fs)/\Cls K C/\NoAttr K C f/\fs.length < 1000 /\
 D.nx σ (upd H2 a (.ins C dx (z6 f y fs)))
def zqI (X:Cx) (op:Operator) (rd:V->V->Hp->VK->Prop):Prop:=
 ∀ (pins:List (Addr × Obj)) (s:Shared) (σ:St) (H:Hp) (x y:V) (u v:Value) (Q:VK),Inv X pins σ H s->RelV x u->RelV y v->rd x y H Q->wpAny (model X.prog X.w) X.A (inplaceOp op u v) (EP X pins σ Q) X.xe s
noncomputable def zng (K:Frag) (ta tv:TE) (rd:V->V->Hp->VK->Prop) (f:Str):TS:=fun D σ H=>ta σ H fun x H1=>∃ a C dx fs v,x = .ref a/\H1 a = some (.ins C dx fs)/\Cls K C/\NoAttr K C f/\fs.lookup f = some v /\
 tv σ H1 fun y H2=>rd v y H2 fun z H3=>∃ dx' fs',H3 a = some (.ins C dx' fs')/\fs'.length < 1000/\D.nx σ (upd H3 a (.ins C dx' (z6 f z fs')))
section
variable {o value:Expr} {f:Str} {pos:Pos} {tv:TE}
theorem zpf (he:PE X e ta) (hb:attributeBase e f X.env (eval e X.env) = eval e X.env):PE X (.Attribute e f pos) (zrZ X.K ta f):=by
 intro pins s σ H Q I h
 refine zou hb (thn (he pins s σ H _ I h) fun u s1 ⟨x,H1,I1,rx,a,C,dx,fs,v,ex,ea,c,n,l,q⟩=>?_)
 subst ex
 obtain rfl:u = Value.ref a:=rx
 exact zf5 I1 ea c n l fun u' s2 I2 ru=>⟨v,H1,I2,ru,q⟩
theorem zo4 (ha:PE X o ta) (hv:PE X value tv) (hs:swapsWith value (some (.Attribute o f pos')) pos.line X.env = pure false):PS X (.Assign [.Attribute o f pos'] value pos) (zr2 X.K ta tv f):=by
 intro pins s σ H D I h
 refine plainObj_wpAny_Assign_Attribute (thn (hv pins s σ H _ I h) fun u s1 ⟨y,H1,I1,ry,q⟩=>thn (ha pins s1 σ H1 _ I1 q) fun ov s2 ⟨x,H2,I2,rx,a,C,dx,fs,ex,ea,c,n,l,q2⟩=>?_) hs
 subst ex
 obtain rfl:ov = Value.ref a:=rx
 exact zfU I2 ea c n l ry fun s3 I3=>⟨σ,_,I3,q2⟩
theorem zkQ {op:Operator} {rd:V->V->Hp->VK->Prop} (ha:PE X o ta) (hv:PE X value tv) (hop:zqI X op rd):PS X (.AugAssign (.Attribute o f tpos) op value pos) (zng X.K ta tv rd f):=by
 intro pins s σ H D I h
 refine wpAny_AugAssign_AttributeAny (thn (ha pins s σ H _ I h) fun ov s1 ⟨x,H1,I1,rx,a,C,dx,fs,v,ex,ea,c,n,l,q⟩=>?_)
 subst ex
 obtain rfl:ov = Value.ref a:=rx
 refine zf5 I1 ea c n l fun u s2 I2 ru=>thn (hv pins s2 σ H1 _ I2 q) fun w3 s3 ⟨y,H2,I3,ry,q3⟩=>thn (hop pins s3 σ H2 v y u w3 _ I3 ru ry q3) fun w4 s4 ⟨z,H3,I4,rz,dx',fs',ea',l',q4⟩=>?_
 exact zfU I4 ea' c n l' rz fun s5 I5=>⟨σ,_,I5,q4⟩
noncomputable def zr7:V->V->Hp->VK->Prop:=fun x y H Q=>∃ i j,x = .int i/\y = .int j/\Q (.int (i + j)) H
theorem zpW:zqI X .Add zr7:=by
 rintro pins s σ H x y u v Q I rx ry ⟨i,j,rfl,rfl,q⟩
 obtain ⟨t,rfl⟩:=(show ∃ t,u = Value.int i t from rx)
 obtain ⟨t',rfl⟩:=(show ∃ t',v = Value.int j t' from ry)
 exact PyProof.Rows.iadd_int ⟨.int (i + j),H,I.tok _,⟨_,rfl⟩,q⟩
end
section
variable {c:Value} {b:Bool}
inductive TyOf (K:Frag) (H:Hp):V->Value->Prop where
 | non:TyOf K H .non (.type "NoneType")
 | bl (x:Bool):TyOf K H (.bl x) (.type "bool")
 | int (i:Int):TyOf K H (.int i) (.type "int")
 | str (x:Str):TyOf K H (.str x) (.type "str")
 | flt (x:UInt64):TyOf K H (.flt x) (.type "float")
 | lst {a:Addr} {xs:List V} (e:H a = some (.lst xs)):TyOf K H (.ref a) (.type "list")
 | frz {a:Addr} {o:Obj} {xs:List V} (e:H a = some (.frz o (.lst xs))):TyOf K H (.ref a) (.type "list")
 | tup {a:Addr} {xs:List V} (e:H a = some (.tup xs)):TyOf K H (.ref a) (.type "tuple")
 | dK {a:Addr} {kvs:List (Key × V)} (e:H a = some (.dK kvs)):TyOf K H (.ref a) (.type "dict")
 | dT {a:Addr} {kvs:List (List Key × V)} (e:H a = some (.dT kvs)):TyOf K H (.ref a) (.type "dict")
 | ins {a C dx:Addr} {fs:List (Str × V)} (e:H a = some (.ins C dx fs)) (cl:Cls K C) (ha:PySem.W.findIn K (.ref C) "__class__" = some (some (.builtin "object.__class__")))
   (hn:PySem.W.specialIn K (.builtin "object.__class__") "__get__" = some (some (.builtin "getset_descriptor.__get__"))) (htk:PySem.W.takesIn K (.builtin "object.__class__") = some true)
   (hm:PySem.W.mroIn K C (.type "object") = some true):TyOf K H (.ref a) (.ref C)
end
structure Room (k:Nat) (A:Around):Prop where
 hd:A.handled = none
 dp:A.depth + 3 * k + 5 < recursionLimit
 un:A.units + 16 * k + 200 < cLine
theorem Room.mono (r:Room k A) (h:j<=k):Room j A:=⟨r.hd,by have:=r.dp;omega,by have:=r.un;omega⟩
theorem Room.deeper (r:Room (k + 1) A) (env:Env):Room k (A.deeper env):=
 ⟨r.hd,by have:=r.dp;show A.depth + 1 + 3 * k + 5 < _;omega,by have:=r.un;show A.units + 3 + 16 * k + 200 < _;omega⟩
theorem Room.in1 (r:Room (k + 1) A):Room k A.in1:=
 ⟨r.hd,by have:=r.dp;show A.depth + 3 * k + 5 < _;omega,by have:=r.un;show A.units + 1 + 16 * k + 200 < _;omega⟩
theorem zkm:(A.under (.builtin "type.__call__" ⟨.ref C :: us,kw⟩)).depth = A.depth + 1:=by
 first | rfl | simp [Around.under,Code.weight,Code.isCreation,Code.isGuard,Code.isCaller,Code.frames,Code.isFrame,guardIds]
theorem zkl:(A.under (.builtin "type.__call__" ⟨.ref C :: us,kw⟩)).units = A.units + 1:=by
 first | rfl | simp [Around.under,Code.cUnits,Code.frames,Code.isFrame]
theorem Room.make (r:Room (k + 1) A) (C:Addr) (us:List Value) (kw:List (Str × Value)):Room k (A.under (.builtin "type.__call__" ⟨.ref C :: us,kw⟩)):=
 ⟨r.hd,by have:=r.dp;rw [zkm];omega,by have:=r.un;rw [zkl];omega⟩
theorem Room.depth (r:Room k A):A.depth < recursionLimit:=by have:=r.dp;omega
theorem Room.units (r:Room k A):A.units + 64 < cLine:=by have:=r.un;omega
theorem Room.units0 (r:Room k A):A.units < cLine:=by have:=r.un;omega
noncomputable def zrV:TA:=fun _ H Q=>Q [] H
noncomputable def zqS (ta:TE) (tr:TA):TA:=fun σ H Q=>ta σ H fun x H1=>tr σ H1 fun xs H2=>Q (x :: xs) H2
section
variable {t:TA} {pos:Pos}
theorem zpj:PA X [] zrV:=fun _ _ _ _ H Q I h=>Calls.spliced_nil ⟨[],H,I,.nil,h⟩
theorem znz (ha:PE X e te) (hr:PA X es t) (hs:starEach (e :: es) X.env = (false,eval e X.env) :: starEach es X.env:=by rfl):PA X (e :: es) (zqS te t):=by
 intro pos pins s σ H Q I h
 rw [hs]
 show wpAny _ _ (spliced ((false,eval e X.env) :: backTo pos (starEach es X.env))) _ _ s
 refine Calls.spliced_cons (thn (ha pins s σ H _ I h) fun u s1 ⟨x,H1,I1,r1,q1⟩=>?_)
 exact thn (hr pos pins s1 σ H1 _ I1 q1) fun us s2 ⟨xs,H2,I2,r2,q2⟩=>⟨x :: xs,H2,I2,.cons r1 r2,q2⟩
noncomputable def zrQ (t:TA):TE:=fun σ H Q=>t σ H fun xs H1=>xs.length<=sizeLine/\∀ p,H1 p = none->Q (.ref p) (upd H1 p (.tup xs))
noncomputable def zrW (t:TA):TE:=fun σ H Q=>t σ H fun xs H1=>xs.length<=sizeLine/\∀ p,H1 p = none->Q (.ref p) (upd H1 p (.lst xs))
theorem zo8 {x1} (h:PA X es t):PE X (.Tuple es x1 pos) (zrQ t):=by
 intro pins s σ H Q I hq
 refine wpAny_Tuple_spliced (thn (h pos pins s σ H _ I hq) fun us s1 ⟨xs,H1,I1,r,z,q⟩=>⟨by rw [← r.length];exact z,?_⟩)
 have hf:H1 s1.heap.objs.size = none:=I1.hok.fresh (Q3 _)
 refine ⟨.ref s1.heap.objs.size,upd H1 s1.heap.objs.size (.tup xs),I1.laid (t':=s1.toks) (fun b u e=>Q2 _ e) (Q3 _) ?_,rfl,q _ hf⟩
 exact ⟨z,us,r,⟨_,Ql _ rfl,rfl,_,rfl⟩,NoDict.new⟩
theorem zpe (h:PA X es t):PE X (.List es pos) (zrW t):=by
 intro pins s σ H Q I hq
 refine wpAny_List_spliced (thn (h pos pins s σ H _ I hq) fun us s1 ⟨xs,H1,I1,r,z,q⟩=>⟨by rw [← r.length];exact z,?_⟩)
 have hf:H1 s1.heap.objs.size = none:=I1.hok.fresh (Q3 _)
 refine ⟨.ref s1.heap.objs.size,upd H1 s1.heap.objs.size (.lst xs),I1.laid (t':=s1.toks) (fun b u e=>Q2 _ e) (Q3 _) ?_,rfl,q _ hf⟩
 exact ⟨z,us,0,r,Ql _ rfl⟩
end
noncomputable abbrev Sp:=List V->Hp->VK->XK->Prop
noncomputable abbrev CXT:=List Env->Hp->Shared->XK->Value->Shared->Prop
structure Env0 (P:Program) (w:World) (K:Frag) (mg:Str->Option Value) (base:Heap) (A:Around) (outer:List Env) (s:Shared) (H:Hp):Prop where
 frames:A.frames = some outer
 mod:Mod K mg base
 bs:∀ b o,base.get? b = some o->s.heap.get? b = some o/\H b = none
 bsz:base.objs.size<=s.heap.objs.size
 funs:s.heap.FunFrames base outer
 frf:∀ b ∈ frs outer,H b = none
 hok:HOk P w H s.heap
 bare:AllBare s.gens
def CE (outer:List Env) (P:Program) (w:World) (H:Hp) (s:Shared) (Q:VK) (u:Value) (s':Shared):Prop:=
 ∃ v H',s'.os = s.os/\AllBare s'.gens/\Un (frs outer) [] H H' s.heap s'.heap/\HOk P w H' s'.heap/\RelV v u/\Q v H'
def CR (CX:CXT) (outer:List Env) (P:Program) (w:World) (H:Hp) (s:Shared) (Q:VK) (E:XK) (r:Result) (s':Shared):Prop:=
 match r with
 | .ok (.ret u)=>CE outer P w H s Q u s'
 | .ok _=>False
 | .error e=>CX outer H s E e s'
structure FnOk (P:Program) (w:World) (K:Frag) (mg:Str->Option Value) (base:Heap) (CX:CXT) (k:Nat) (f:Addr) (fd:FuncData) (ps:List Str) (sp:Sp):Prop where
 len:∀ vs H Q E,sp vs H Q E->vs.length = ps.length
 run:∀ (A:Around) (outer:List Env) (s:Shared) (H:Hp) (args:Args) (us:List Value) (vs:List V) (Q:VK) (E:XK),Room k A->Env0 P w K mg base A outer s H->BindsTo s fd args (ps.zip us)->Vals vs us->sp vs H Q E->
  codeAny (model P w) A (.call (.ref f) args) (CR CX outer P w H s Q E) s
variable {CX:CXT} {fd:FuncData} {base:Heap} {ps:List Str} {sp:Sp} {mg:Str->Option Value}
theorem FnOk.mono {f:Addr} (F:FnOk P w K mg base CX j f fd ps sp) (h:j<=k) :
  FnOk P w K mg base CX k f fd ps sp:=⟨F.len,fun A outer s H args us vs Q E hr=>F.run A outer s H args us vs Q E (hr.mono h)⟩
variable {outer:List Env}
theorem Env0.make (e:Env0 P w K mg base A outer s H) (C:Addr) (us:List Value) (kw:List (Str × Value)) :
  Env0 P w K mg base (A.under (.builtin "type.__call__" ⟨.ref C :: us,kw⟩)) outer s H:=⟨by first | exact e.frames | (simpa [Around.under,Code.envs,Code.isFrame,pushEnvs] using e.frames),e.mod,e.bs,e.bsz,e.funs,e.frf,e.hok,e.bare⟩
section
theorem Inv.env0 (I:Inv X pins σ H s):Env0 X.prog X.w X.K X.mg X.base X.A X.stack s H:=
 ⟨I.ok.frames,I.ok.mod,I.bs,Qj I.ok.bsz I.sz,I.stack,I.stkFree,I.hok,I.bare⟩
theorem Inv.after {Q:VK} (I:Inv X pins σ H s) (h:CE X.stack X.prog X.w H s Q u s'):EP X pins σ Q u s':=by
 obtain ⟨v,H',os,bare,un,hok,r,q⟩:=h
 obtain ⟨hh,g,d,t,os'⟩:=s'
 obtain rfl:os' = s.os:=os
 exact ⟨v,H',I.call (h':=hh) (g':=g) (d':=d) (t':=t) (ch:=[]) un hok bare (fun b z=>absurd z (by simp)),r,q⟩
end
noncomputable def zmT (sp:Sp) (dvs:List V) (E:XK) (t:TA):TE:=fun σ H Q=>t σ H fun vs H1=>sp (vs ++ dvs) H1 Q E
noncomputable def zqQ (C:Addr) (sp:Sp) (dvs:List V) (E:XK) (t:TA):TE:=fun σ H Q=>t σ H fun vs H1=>∀ x dx,H1 x = none->H1 dx = none->dx ≠ x->
 sp (.ref x :: (vs ++ dvs)) (upd (upd H1 dx (.own x)) x (.ins C dx [])) (fun v H2=>v = .non/\Q (.ref x) H2) E
def Binds (K:Frag) (fd:FuncData) (ps:List Str) (ds:List Value):Prop:=
 ∀ (s:Shared) (us:List Value),K.In s.heap->(us ++ ds).length = ps.length->BindsTo s fd ⟨us,[]⟩ (ps.zip (us ++ ds))
theorem Binds.all (h:∀ us:List Value,us.length = ps.length->bindArgs fd ⟨us,[]⟩ = pure (ps.zip us)):Binds K fd ps []:=fun s us _ hl=>by
 rw [append_nil] at hl ⊢
 exact .of_eq (h us hl)
def Passes (CX:CXT) (X:Cx) (E:XK):Prop:=∀ (pins:List (Addr × Obj)) (σ:St) (H:Hp) (s:Shared) (e:Value) (s':Shared),Inv X pins σ H s->CX X.stack H s E e s'->X.xe e s'
variable {vs:List V} {apos:Pos} {m:Str}
section
variable {f:Addr} {dvs:List V} {ds:List Value} {E:XK} {pos:Pos} {o:Expr} {t:TA}
theorem zoQ {Q:VK} (F:FnOk X.prog X.w X.K X.mg X.base CX k f fd ps sp) (hr:Room k X.A) (hb:Binds X.K fd ps ds) (hd:Vals dvs ds) (hx:Passes CX X E)
 (I:Inv X pins σ H s) (r:Vals vs us) (h:sp (vs ++ dvs) H Q E):wpAny (model X.prog X.w) X.A (call (.ref f) us) (EP X pins σ Q) X.xe s:=by
 have r2:Vals (vs ++ dvs) (us ++ ds):=r.append hd
 have hl:(us ++ ds).length = ps.length:=by rw [← r2.length];exact F.len _ _ _ _ h
 refine wpAny_call (codeAny_mono (F.run X.A X.stack s H ⟨us,[]⟩ (us ++ ds) (vs ++ dvs) Q E hr I.env0 (hb s us I.kIn hl) r2 h) fun r s' hq=>?_)
 cases r with
 | error e=>exact hx pins σ H s e s' I hq
 | ok fl=>
  cases fl with
  | ret u=>exact I.after hq
  | next=>exact False.elim hq
  | brk=>exact False.elim hq
  | cont=>exact False.elim hq
theorem znx (F:FnOk X.prog X.w X.K X.mg X.base CX k f fd ps sp) (hr:Room k X.A) (hg:Gl X x) (hm:X.mg x = some (.ref f)) (hk:PySem.W.keepIn X.K (.ref f) = true) (hb:Binds X.K fd ps ds) (hd:Vals dvs ds) (hx:Passes CX X E)
  (ha:PA X (e :: es) t) (hdb:(x == ("__debug__":Str)) = false:=by decide) (he:starEach (e :: es) X.env = (false,eval e X.env) :: starEach es X.env:=by rfl) (hpl:(backTo pos (starEach es X.env)).any (·.1) = false:=by rfl) :
  PE X (.Call (.Name x p) (e :: es) [] pos) (zmT sp dvs E t):=by
 intro pins s σ H Q I h
 refine wpAny_Call_Name_kw (zgN I hg hm ?_ hdb)
 refine PySem.W.callWith_K (h₀:=X.base) I.ok.mod.kin hk (thn (ha pos pins s σ H _ I h) fun us s1 ⟨vs,H1,I1,r,q⟩=>⟨I1.kIn,?_⟩) he hpl
 exact zoQ F hr hb hd hx I1 r q
structure Mk (K:Frag) (C f:Addr):Prop where
 makes:PySem.W.makesIn K C = true
 init:PySem.W.findIn K (.ref C) "__init__" = some (some (.ref f))
 fn:PySem.W.isFn K (.ref f) = true
 kp:PySem.W.keepIn K (.ref C) = true
theorem zl0 {Q:VK} (M:Mk X.K C f) (F:FnOk X.prog X.w X.K X.mg X.base CX k f fd ps sp) (hr:Room (k + 1) X.A) (hb:Binds X.K fd ps ds) (hd:Vals dvs ds)
 (hx:Passes CX X E) (I:Inv X pins σ H s) (r:Vals vs us)
 (h:∀ x dx,H x = none->H dx = none->dx ≠ x->sp (.ref x :: (vs ++ dvs)) (upd (upd H dx (.own x)) x (.ins C dx [])) (fun v H2=>v = .non/\Q (.ref x) H2) E) :
  wpAny (model X.prog X.w) X.A (call (.ref C) us) (EP X pins σ Q) X.xe s:=by
 have hq:=h (s.heap.objs.size + 1) s.heap.objs.size (I.hok.fresh (Nat.le_succ _)) (I.hok.fresh (Q3 _)) (Qk (Nat.lt_succ_self _))
 have I2:=Inv.made (C:=C) I
 have r2:Vals (V.ref (s.heap.objs.size + 1) :: (vs ++ dvs)) (Value.ref (s.heap.objs.size + 1) :: (us ++ ds)):=.cons rfl (r.append hd)
 have hl:(Value.ref (s.heap.objs.size + 1) :: us ++ ds).length = ps.length:=by
  have e:=r2.length
  rw [F.len _ _ _ _ hq] at e
  exact e.symm
 refine wpAny_call (zmj (f:=f) I.kIn M.makes M.init (beq_iff_eq.mp M.fn) (codeAny_mono (F.run _ X.stack _ _ ⟨Value.ref (s.heap.objs.size + 1) :: us,[]⟩ (Value.ref (s.heap.objs.size + 1) :: (us ++ ds)) _ _ E (hr.make C us [])
  (I2.env0.make C us []) (hb _ (Value.ref (s.heap.objs.size + 1) :: us) I2.kIn hl) r2 hq) fun r s' hq'=>?_))
 cases r with
 | error e=>exact hx pins σ _ _ e s' I2 hq'
 | ok fl=>
  cases fl with
  | ret u=>
   obtain ⟨v,H',I3,rv,ev,q3⟩:=I2.after hq'
   subst ev
   exact ⟨rv,⟨V.ref (s.heap.objs.size + 1),H',I3,rfl,q3⟩⟩
  | next=>exact False.elim hq'
  | brk=>exact False.elim hq'
  | cont=>exact False.elim hq'
theorem znu (M:Mk X.K C f) (F:FnOk X.prog X.w X.K X.mg X.base CX k f fd ps sp) (hr:Room (k + 1) X.A) (hg:Gl X x) (hm:X.mg x = some (.ref C)) (hb:Binds X.K fd ps ds) (hd:Vals dvs ds) (hx:Passes CX X E)
  (ha:PA X (e :: es) t) (hdb:(x == ("__debug__":Str)) = false:=by decide) (he:starEach (e :: es) X.env = (false,eval e X.env) :: starEach es X.env:=by rfl) (hpl:(backTo pos (starEach es X.env)).any (·.1) = false:=by rfl) :
  PE X (.Call (.Name x p) (e :: es) [] pos) (zqQ C sp dvs E t):=by
 intro pins s σ H Q I h
 refine wpAny_Call_Name_kw (zgN I hg hm ?_ hdb)
 refine PySem.W.callWith_K (h₀:=X.base) I.ok.mod.kin M.kp (thn (ha pos pins s σ H _ I h) fun us s1 ⟨vs,H1,I1,r,q⟩=>⟨I1.kIn,?_⟩) he hpl
 exact zl0 M F hr hb hd hx I1 r q
end
section
variable {f:Addr} {ks:List Str} {E:XK} {pos kpos:Pos} {o:Expr} {kws:List Keyword} {t tk:TA} {nm:Option Str}
structure KBinds (K:Frag) (fd:FuncData) (ps ks:List Str) (g:List Value->List Value->List Value) (gV:List V->List V->List V):Prop where
 to:∀ (s:Shared) (us ws:List Value),K.In s.heap->(g us ws).length = ps.length->BindsTo s fd ⟨us,ks.zip ws⟩ (ps.zip (g us ws))
 rel:∀ {vs:List V} {us:List Value} {zs:List V} {ws:List Value},Vals vs us->Vals zs ws->Vals (gV vs zs) (g us ws)
end
structure FnScope (N P:List Str) (sc:Scope):Prop where
 kind:sc.kind = .function
 co:sc.isCoroutine = false
 gen:sc.isGenerator = false
 nd:N.Nodup
 pre:N.take P.length = P
 par:∀ x ∈ P,sc.names.lookup x = some .local\/sc.names.lookup x = some .cell
 nofree:∀ y ∈ sc.names,y.2 ≠ .free
theorem zhd {kindOf:Str->Option NameKind} {x:Str}:∀ {binds:List (Str × Value)} {m:Str->Option Value},(∀ v,(x,v) ∉ binds)->bindL kindOf binds m x = m x
 | [],_,_=>rfl
 | (n,v) :: r,m,h=>by
  unfold bindL
  rw [zhd fun w hw=>h w (mem_cons_of_mem _ hw)]
  split
  ·have:x ≠ n:=by rintro rfl;exact h v mem_cons_self
   simp [this]
  ·rfl
theorem zhf {kindOf:Str->Option NameKind} {x:Str}:∀ {binds:List (Str × Value)} {m:Str->Option Value},(∀ v,(x,v) ∉ binds)->bindC kindOf binds m x = m x
 | [],_,_=>rfl
 | (n,v) :: r,m,h=>by
  unfold bindC
  rw [zhf fun w hw=>h w (mem_cons_of_mem _ hw)]
  split
  ·rfl
  ·have:x ≠ n:=by rintro rfl;exact h v mem_cons_self
   simp [this]
theorem zhe {kindOf:Str->Option NameKind} {x:Str} {v:Value}:∀ {P:List Str} {vs:List Value} {i:Nat} {m:Str->Option Value},P.Nodup->P[i]? = some x->vs[i]? = some v->kindOf x = some .local->
  bindL kindOf (P.zip vs) m x = some v
 | [],_,_,_,_,h,_,_=>by simp at h
 | _ :: _,[],_,_,_,_,h,_=>by simp at h
 | p :: P,w :: vs,0,m,nd,h1,h2,hk=>by
  simp at h1 h2;subst h1;subst h2
  show bindL kindOf ((p,w) :: P.zip vs) m p = _
  unfold bindL
  rw [zhd fun v hv=>(nodup_cons.mp nd).1 (of_mem_zip hv).1,QA hk]
  simp
 | p :: P,w :: vs,i + 1,m,nd,h1,h2,hk=>by
  show bindL kindOf ((p,w) :: P.zip vs) m x = _
  unfold bindL
  exact zhe (i:=i) (nodup_cons.mp nd).2 (by simpa using h1) (by simpa using h2) hk
theorem zhg {kindOf:Str->Option NameKind} {x:Str} {v:Value}:∀ {P:List Str} {vs:List Value} {i:Nat} {m:Str->Option Value},P.Nodup->P[i]? = some x->vs[i]? = some v->kindOf x ≠ some .local->
  bindC kindOf (P.zip vs) m x = some v
 | [],_,_,_,_,h,_,_=>by simp at h
 | _ :: _,[],_,_,_,_,h,_=>by simp at h
 | p :: P,w :: vs,0,m,nd,h1,h2,hk=>by
  simp at h1 h2;subst h1;subst h2
  show bindC kindOf ((p,w) :: P.zip vs) m p = _
  unfold bindC
  rw [zhf fun v hv=>(nodup_cons.mp nd).1 (of_mem_zip hv).1,QB hk]
  simp
 | p :: P,w :: vs,i + 1,m,nd,h1,h2,hk=>by
  show bindC kindOf ((p,w) :: P.zip vs) m x = _
  unfold bindC
  exact zhg (i:=i) (nodup_cons.mp nd).2 (by simpa using h1) (by simpa using h2) hk
noncomputable def start (N:List Str) (vs:List V):St:=vs.map some ++ List.replicate (N.length - vs.length) none
noncomputable def zcf (CX:CXT) (P:Program) (w:World) (K:Frag) (mg:Str->Option Value) (base:Heap) (N:List Str) (qual:Str) (scope:Scope) (f:Addr) (cd:Value) (A:Around) (outer:List Env) (s:Shared) (H:Hp) (E:XK):Cx where
 prog:=P
 w:=w
 K:=K
 mg:=mg
 base:=base
 A:=A.deeper (envOfC qual scope s.heap.objs.size f cd)
 N:=N
 s₀:=s
 H₀:=H
 env:=envOfC qual scope s.heap.objs.size f cd
 outer:=outer
 stack:=envOfC qual scope s.heap.objs.size f cd :: outer
 ex:=[]
 calm:=true
 fn:=fun _=>true
 pn:=[]
 xe:=fun e s'=>wpAny (model P w) (A.deeper (envOfC qual scope s.heap.objs.size f cd)) (leaving (envOfC qual scope s.heap.objs.size f cd) e) (fun _ s''=>CX outer H s E e s'') (fun e' s''=>CX outer H s E e' s'') s'
theorem ziR {sc:Scope} (h:sc.names.lookup x = some .cell):∃ c,(cellsFrom n sc.names []).lookup x = some c:=by
 have q:=PySem.W.cellsFrom_some sc.names n [] (.inl h)
 exact Option.isSome_iff_exists.mp q
variable {scope:Scope} {qual:Str}
theorem zli {f:Addr} {cd:Value} {s1:Shared} {E:XK} 
 (S:FnScope N ps scope) (hd:A.handled = none) (e0:Env0 P w K mg base A outer s H) (hl:vs.length = ps.length) (r:Vals vs us)
 (x:InCallC s s.heap.objs.size (bindL (envOfC qual scope s.heap.objs.size f cd).kindOf (ps.zip us) fun _=>none) (cellsFrom (s.heap.objs.size + 1) scope.names []) (bindC (envOfC qual scope s.heap.objs.size f cd).kindOf (ps.zip us) fun _=>none) s1) :
  Inv (zcf CX P w K mg base N qual scope f cd A outer s H E) [] (start N vs) H s1:=by
 have hpl:ps.length<=N.length:=by have:=congrArg List.length S.pre;rw [Qr] at this;omega
 obtain ⟨h1,tk,rfl,hk⟩:=x.done
 have noA:∀ b:Addr,b ∉ (zcf CX P w K mg base N qual scope f cd A outer s H E).ex:=fun b z=>absurd (show b ∈ ([]:List Addr) from z) (by simp)
 refine ⟨⟨e0.mod,S.kind,rfl,rfl,Q3 _,fun y z c h1 h2=>?_,fun y hy=>?_,fun y c _ h=>?_,fun _=>hd,Around.frames_deeper e0.frames,.inr ⟨rfl,rfl⟩,fun b z=>absurd z (noA b),e0.bs,e0.bsz,fun b _ _=>noA b,fun b z=>absurd z (noA b),e0.funs,e0.frf⟩,
  rfl,e0.bare,Un.kept hk,⟨_,x.toInCall.ns,fun i y v h1 h2 h3=>?_⟩,fun y c h=>⟨_,x.cell y c h⟩,e0.hok.fresh (Q3 _),fun y c h=>?_,fun p hp=>absurd (show p ∈ ([]:List (Addr × Obj)) from hp) (by simp),e0.hok.kept hk,?_⟩
 ·exact name_of_addr x.apart (PySem.mem_of_lookup h1) (PySem.mem_of_lookup h2)
 ·have hy:scope.names.lookup y = some .cell\/scope.names.lookup y = some .free:=hy
  rcases hy with hy | hy
  ·exact ziR hy
  ·exact absurd rfl (S.nofree _ (PySem.mem_of_lookup hy))
 ·exact Nat.le_of_lt (x.above y c (PySem.mem_of_lookup h))
 ·have hi:i < vs.length:=by
   unfold start at h2
   by_cases hi:i < vs.length
   ·exact hi
   ·rw [Q8 (by simpa using hi)] at h2
    rw [List.getElem?_replicate] at h2
    split at h2 <;> cases h2
  have ha:vs[i]? = some v:=by
   unfold start at h2
   rw [Q6 (by simpa using hi),Qb] at h2
   cases e:vs[i]? with
   | none=>rw [e] at h2;cases h2
   | some a=>rw [e] at h2;cases h2;rfl
  obtain ⟨u,hu,rv⟩:=r.get ha
  have hp:ps[i]? = some y:=by
   rw [← S.pre,List.getElem?_take_of_lt (by omega)];exact h1
  have ndP:ps.Nodup:=by rw [← S.pre];exact S.nd.sublist (List.take_sublist _ _)
  refine ⟨u,rv,?_⟩
  rcases S.par y (Qa hp) with k | k
  ·exact .inl ⟨k,zhe ndP hp hu k⟩
  ·obtain ⟨c,e⟩:=ziR (n:=s.heap.objs.size + 1) k
   refine .inr ⟨.inl k,c,e,?_⟩
   have q:=x.cell y c e
   rw [zhg ndP hp hu (by show scope.names.lookup y ≠ _;rw [k];decide)] at q
   exact q
 ·exact e0.hok.fresh (Nat.le_of_lt (x.above y c (PySem.mem_of_lookup h)))
 ·unfold start
  show _ = N.length
  rw [Qn,Qh,length_replicate]
  omega
theorem zrG {f:Addr} {params:Arguments} {dV kV doc pm cdv ct oc:Value} {an od:Option Addr}
 {osl:Array (Option Value)} (lk:K.lookup f = some ⟨oc,od,.func (PySem.W.fnOf name qual params body scope dV kV doc pm an cdv ct),osl⟩) (hcd:PySem.W.codeIn K cdv qual = true) (S:FnScope N ps scope)
 (len:∀ vs H Q E,sp vs H Q E->vs.length = ps.length)
 (hbody:∀ (A:Around) (outer:List Env) (s:Shared) (H:Hp) (vs:List V) (Q:VK) (E:XK),Room k (A.deeper (envOfC qual scope s.heap.objs.size f cdv))->sp vs H Q E->
 ∃ t,PSs (zcf CX P w K mg base N qual scope f cdv A outer s H E) body t/\t { nx:=fun _ H'=>Q .non H',rt:=Q } (start N vs) H) :
  FnOk P w K mg base CX (k + 1) f (PySem.W.fnOf name qual params body scope dV kV doc pm an cdv ct) ps sp:=by
 refine ⟨len,fun A outer s H args us vs Q E hr e0 hb r hsp=>?_⟩
 have hl:=len _ _ _ _ hsp
 have KX:K.In s.heap:=e0.mod.kin.keeps fun b o e=>(e0.bs b o e).1
 have lim:s.heap.NoLimit:=e0.mod.nolimit.keeps fun b o e=>(e0.bs b o e).1
 have hkind:∀ y ∈ ps.zip us,scope.names.lookup y.1 = some .local\/(scope.names.lookup y.1 = some .cell/\((cellsFrom (s.heap.objs.size + 1) scope.names []).lookup y.1).isSome = true):=fun ⟨n,v⟩ hy=>by
  rcases S.par n (of_mem_zip hy).1 with q | q
  ·exact .inl q
  ·exact .inr ⟨q,PySem.W.cellsFrom_some _ _ _ (.inl q)⟩
 refine codeAny_call_function hr.depth (KX _ _ lk) rfl S.co S.gen rfl (PySem.W.codeRec_of KX hcd) (hb _ _ _ _ ?_)
 refine wpAny_newFunctionEnv_cells S.kind hkind fun env he s1 x=>?_
 subst he
 refine ⟨lim.keeps x.toInCall.keep,codeAny_func ?_⟩
 obtain ⟨t,ht,hq⟩:=hbody A outer s H vs Q E (hr.deeper _) hsp
 have I:Inv (zcf CX P w K mg base N qual scope f cdv A outer s H E) [] (start N vs) H s1:=zli S hr.hd e0 hl r x
 refine Qg (ht [] s1 (start N vs) H _ I hq) (fun fl s' hs=>?_) fun e s' hs=>hs
 have fin:∀ {σ':St} {H':Hp} {v:V} {u:Value},Inv (zcf CX P w K mg base N qual scope f cdv A outer s H E) [] σ' H' s'->RelV v u->Q v H'->CE outer P w H s Q u s':=
  fun {σ' H' v u} J rv q=>⟨v,H',J.os,J.bare,J.base,J.hok,rv,q⟩
 cases fl with
 | ret u=>
  obtain ⟨v,σ',H',J,rv,q⟩:=hs
  exact fin J rv q
 | next=>
  obtain ⟨σ',H',J,q⟩:=hs
  exact fin (v:=V.non) (u:=Value.none) J rfl q
 | brk=>
  obtain ⟨_,_,_,q⟩:=hs
  exact False.elim q
 | cont=>
  obtain ⟨_,_,_,q⟩:=hs
  exact False.elim q
section
variable {pos:Pos} {t:TA} {id T:String} {r:List V->Hp->VK->Prop}
noncomputable def tCB (r:List V->Hp->VK->Prop) (t:TA):TE:=fun σ H Q=>t σ H fun vs H1=>r vs H1 Q
theorem zmd (hc:CallR X (.builtin id) r) (hg:Gl X x) (hm:X.mg x = none) (hv:bootBuiltins x = some (.builtin id)) (ha:PA X (e :: es) t) (hn:x ≠ "__name__":=by decide) (hdb:(x == ("__debug__":Str)) = false:=by decide)
  (he:starEach (e :: es) X.env = (false,eval e X.env) :: starEach es X.env:=by rfl) (hpl:(backTo pos (starEach es X.env)).any (·.1) = false:=by rfl):PE X (.Call (.Name x p) (e :: es) [] pos) (tCB r t):=by
 intro pins s σ H Q I h
 refine wpAny_Call_Name_kw (zeE I hg hm hv ?_ hn hdb)
 exact PyProof.Rows.callWith_builtin1 (thn (ha pos pins s σ H _ I h) fun us s1 ⟨vs,H1,I1,r1,q1⟩=>hc pins s1 σ H1 vs us Q I1 r1 q1) he hpl
theorem zkX (hc:CallR X (.type T) r) (hg:Gl X x) (hm:X.mg x = none) (hv:bootBuiltins x = some (.type T)) (ha:PA X (e :: es) t) (hn:x ≠ "__name__":=by decide) (hdb:(x == ("__debug__":Str)) = false:=by decide)
  (he:starEach (e :: es) X.env = (false,eval e X.env) :: starEach es X.env:=by rfl) (hpl:(backTo pos (starEach es X.env)).any (·.1) = false:=by rfl):PE X (.Call (.Name x p) (e :: es) [] pos) (tCB r t):=by
 intro pins s σ H Q I h
 refine wpAny_Call_Name_kw (zeE I hg hm hv ?_ hn hdb)
 exact PyProof.Rows.callWith_type1 (thn (ha pos pins s σ H _ I h) fun us s1 ⟨vs,H1,I1,r1,q1⟩=>hc pins s1 σ H1 vs us Q I1 r1 q1) he hpl
end
end L2
namespace HT
open PySem PyProof.Rows
variable {sl:Addr} {vl vu:Value} {Q:Value->Shared->Prop}
section
variable {prog:Program} {w:World} {A:Around} {E:Value->Shared->Prop} {s:Shared}
theorem zor {t b:Addr} {vs ws:List Value} (ht:IsTup s.heap t vs.toArray) (hb:IsTup s.heap b ws.toArray) (hv:vs ≠ [])
 (h1:ws = []->Q (.ref t) s) (h2:ws ≠ []->Q (.ref s.heap.objs.size) { s with heap:=s.heap.push { cls:=.type "tuple",data:=.seq (vs ++ ws).toArray } })
 (hsz:vs.length + ws.length<=sizeLine):wpAny (model prog w) A (binaryOp .Add (.ref t) (.ref b)) Q E s:=by
 obtain ⟨⟨cls,dd,data,sl⟩,ho,hc,n,hd⟩:=id ht
 obtain ⟨⟨cls2,dd2,data2,sl2⟩,ho2,hc2,n2,hd2⟩:=id hb
 simp only at hc hd hc2 hd2
 subst hc hd hc2 hd2
 have e:vs.toArray ++ ws.toArray = (vs ++ ws).toArray:=by simp
 by_cases hw:ws = []
 ·exact concat_meets ⟨_,ho,rfl⟩ ⟨_,ho2,rfl⟩ noFill_tuple_add seq_tuple_add PySem.F.slot_tuple_add PySem.F.entry_tuple_add (PySem.F.args_tuple_add_2 _ _)
   (tuple_addW1 t b vs.toArray ws.toArray n n2 dd dd2 sl sl2 (by simpa using hv) (by simp [hw])) ⟨ho,ho2,h1 hw⟩
 ·refine concat_meets ⟨_,ho,rfl⟩ ⟨_,ho2,rfl⟩ noFill_tuple_add seq_tuple_add PySem.F.slot_tuple_add PySem.F.entry_tuple_add (PySem.F.args_tuple_add_2 _ _)
   (tuple_addW2 t b vs.toArray ws.toArray n n2 dd dd2 sl sl2 (by simpa using hv) (by simpa using hw) (by rw [Qi,Qi];exact hsz)) ⟨ho,ho2,?_⟩
  rw [e]
  exact h2 hw
noncomputable def sIx (n d:Nat):Option Int->Nat
 | none=>d
 | some v=>if v < 0 then (v + (n:Int)).toNat else min v.toNat n
theorem zhY (n d:Nat):sIx n d none = d:=rfl
theorem zju (n d k:Nat):sIx n d (some (k:Int)) = min k n:=by
 show (if (k:Int) < 0 then ((k:Int) + (n:Int)).toNat else min (k:Int).toNat n) = min k n
 rw [QB (by omega),QH]
theorem zoP (n d:Nat) (hd:d<=n) (o:Option Int):sIx n d o<=n:=by
 cases o with
 | none=>exact hd
 | some v=>
  show (if v < 0 then (v + (n:Int)).toNat else min v.toNat n)<=n
  by_cases hv:v < 0
  ·rw [QA hv];omega
  ·rw [QB hv];exact Nat.min_le_right _ _
theorem zjW (v:Int) (n d:Nat):(if v < 0 then max (v + (n:Int)) 0 else min v (n:Int)) = ((sIx n d (some v):Nat):Int):=by
 show (if v < 0 then max (v + (n:Int)) 0 else min v (n:Int)) = (((if v < 0 then (v + (n:Int)).toNat else min v.toNat n):Nat):Int)
 by_cases hv:v < 0
 ·simp only [QA hv];omega
 ·simp only [QB hv];omega
theorem zkA (lo hi:Option Int) (n:Nat):Builtin.Slice.sliceAdjust lo hi 1 (n:Int) = (((sIx n 0 lo:Nat):Int),((sIx n n hi:Nat):Int)):=by
 have h1:¬ ((1:Int) < 0):=by omega
 unfold Builtin.Slice.sliceAdjust
 simp only [h1,if_false]
 refine Prod.ext ?_ ?_
 ·cases lo with
  | none=>rfl
  | some v=>exact zjW v n 0
 ·cases hi with
  | none=>rfl
  | some v=>exact zjW v n n
theorem zkf (i j:Nat):Builtin.Slice.slicePlaces (i:Int) (j:Int) 1 = j - i:=by
 unfold Builtin.Slice.slicePlaces
 have h1:(1:Int) > 0:=by omega
 simp only [h1,if_true,Int.ediv_one]
 split <;> omega
theorem zfS {v:Value} {o:Option Int} {Q:Option Int->Shared->Prop} (p:IsPart v o) (h:Q o s):wpAny (model prog w) A (Builtin.Slice.slicePartIndex v) Q E s:=by
 cases p with
 | none=>exact slicePart_none h
 | int i t=>exact slicePart_int h
theorem zc1 {lo hi:Option Int} {n:Nat} {Q:Int × Int × Nat->Shared->Prop} (hs:s.heap.IsSliceOf sl vl vu .none) (pl:IsPart vl lo) (pu:IsPart vu hi)
 (h:Q (((sIx n 0 lo:Nat):Int),1,sIx n n hi - sIx n 0 lo) s):wpAny (model prog w) A (Builtin.Slice.sliceApplied (.ref sl) (pure (n:Int))) Q E s:=by
 obtain ⟨os,hos,hcs,hds⟩:=id hs
 unfold Builtin.Slice.sliceApplied Builtin.Slice.sliceFields
 refine Q1 (Q1 (wpAny_field hos hds (x:=vl) rfl (Q1 (wpAny_field hos hds (x:=vu) rfl (Q1 (wpAny_field hos hds (x:=.none) rfl (Qf ?_)))))))
 refine Q1 (slicePart_none ?_)
 show wpAny _ _ (if ((1:Int) == 0) = true then _ else _) _ _ s
 rw [QB (by decide)]
 refine Q1 (zfS pl (Q1 (zfS pu (Q1 (Qf ?_)))))
 show wpAny _ _ (match Builtin.Slice.sliceAdjust lo hi 1 (n:Int) with | (lo,hi)=>pure (lo,(1:Int),Builtin.Slice.slicePlaces lo hi 1)) _ _ s
 rw [zkA lo hi n]
 show wpAny _ _ (pure (((sIx n 0 lo:Nat):Int),(1:Int),Builtin.Slice.slicePlaces ((sIx n 0 lo:Nat):Int) ((sIx n n hi:Nat):Int) 1)) _ _ s
 rw [zkf]
 exact Qf h
theorem zl9 (xs:Array Value) (i k:Nat):((List.range k).filterMap fun (m:Nat)=>xs[((i:Int) + (m:Int) * 1).toNat]?).toArray = ((xs.toList.drop i).take k).toArray:=by
 have e:(fun (m:Nat)=>xs[((i:Int) + (m:Int) * 1).toNat]?) = fun m=>xs[i + m]?:=by
  funext m
  have:((i:Int) + (m:Int) * 1).toNat = i + m:=by omega
  rw [this]
 rw [e]
 have:=pick_run xs i k
 rw [List.filterMap_map] at this
 have e2:((fun x=>xs[x]?) ∘ fun x=>i + x) = fun m=>xs[i + m]?:=rfl
 rw [e2] at this
 rw [this]
theorem zfe {t:Addr} {items:Array Value} {lo hi:Option Int} (ht:IsTup s.heap t items) (hs:s.heap.IsSliceOf sl vl vu .none) (pl:IsPart vl lo) (pu:IsPart vu hi)
 (hw:¬ (sIx items.size 0 lo = 0/\sIx items.size items.size hi = items.size))
 (h:Q (.ref s.heap.objs.size) { s with heap:=s.heap.push { cls:=.type "tuple",data:=.seq ((items.toList.drop (sIx items.size 0 lo)).take (sIx items.size items.size hi - sIx items.size 0 lo)).toArray } })
 (hsz:items.size<=sizeLine):wpAny (model prog w) A (getItem (.ref t) (.ref sl)) Q E s:=by
 have htake:sizeOk (.seq ((items.toList.drop (sIx items.size 0 lo)).take (sIx items.size items.size hi - sIx items.size 0 lo)).toArray):=by
  show ((items.toList.drop (sIx items.size 0 lo)).take (sIx items.size items.size hi - sIx items.size 0 lo)).toArray.size<=sizeLine
  rw [Qi,Qr,length_drop,Array.length_toList]
  omega
 have hj:sIx items.size items.size hi<=items.size:=zoP _ _ (Q3 _) hi
 obtain ⟨os,hos,hcs,hds⟩:=id hs
 have hTs:s.TypeIs (.ref sl) "slice":=⟨os,hos,hcs⟩
 unfold getItem
 try with_reducible refine wpAny_holding ?_
 first | refine Q1 (Qf ?_) | skip
 refine Q1 (wpAny_sequenceKey ht.typeIs (by decide) ?_)
 refine Q1 (wpAny_callSpecial?_slot (name:=Str.ofString "__getitem__") ht.typeIs PyProof.Rows.slot_tuple_getitem
  (wpAny_call_entry PyProof.Rows.slot_tuple_getitem ht.typeIs entry_tuple_getitem ?_ (args_tuple_getitem _ _)))
 show wpAny _ _ (Builtin.Tuple.tupleItemsOf (.ref t) >>= _) _ _ s
 refine Q1 (tupleItemsOf_ ht ?_)
 refine Q1 (wpAny_typeOf hTs ?_)
 rw [QA (by decide)]
 refine Q1 (zc1 hs pl pu ?_)
 have hno:¬ ((((sIx items.size 0 lo:Nat):Int) == 0 && (1:Int) == 1 && (sIx items.size items.size hi - sIx items.size 0 lo) == items.size) = true):=by
  intro q
  rw [Qs,Qs] at q
  have q1:((sIx items.size 0 lo:Nat):Int) = 0:=eq_of_beq q.1.1
  have q2:sIx items.size items.size hi - sIx items.size 0 lo = items.size:=eq_of_beq q.2
  exact hw ⟨by omega,by omega⟩
 show wpAny _ _ (if (((sIx items.size 0 lo:Nat):Int) == 0 && (1:Int) == 1 && (sIx items.size items.size hi - sIx items.size 0 lo) == items.size) = true then _ else _) _ _ s
 rw [QB hno,zl9]
 first
  | exact Q1 (m:=Builtin.Tuple.tupleExact _) (Qt (Qf ⟨_,rfl,Qf h⟩) htake)
  | exact Q1 (m:=Builtin.Tuple.tupleExact _) (Qt (Q1 (Qf (Qf ⟨_,rfl,Qf h⟩))) htake)
  | exact Q1 (Q1 (m:=Builtin.Tuple.tupleExact _) (Qt (Qf (Qf ⟨_,rfl,Qf h⟩)) htake))
  | exact Q1 (Q1 (m:=Builtin.Tuple.tupleExact _) (Qt (Qf ⟨_,rfl,Qf h⟩) htake))
end
end HT
namespace L2
open PySem PySem.Spec PyProof.Rows
noncomputable abbrev TO:=St->Hp->(Option Int->Hp->Prop)->Prop
def PO (X:Cx) (e:Option Expr) (t:TO):Prop:=
 ∀ (pins:List (Addr × Obj)) (s:Shared) (σ:St) (H:Hp) (Q:Option Int->Hp->Prop),Inv X pins σ H s->t σ H Q->
  wpAny (model X.prog X.w) X.A (evalPart e X.env) (fun u s'=>∃ o H',Inv X pins σ H' s'/\IsPart u o/\Q o H') X.xe s
noncomputable def znd:TO:=fun _ H Q=>Q none H
noncomputable def zqN (t:TE):TO:=fun σ H Q=>t σ H fun x H1=>∃ i,x = .int i/\Q (some i) H1
variable {X:Cx} {e:Expr} {xs:List V} {us:List Value}
section
variable {te:TE} {lo hi:Option Expr} {tl th:TO} {pos p2:Pos}
theorem zns:PO X none znd:=by
 intro pins s σ H Q I h
 rw [evalPart_none]
 exact Qf ⟨none,H,I,.none,h⟩
theorem znr (h:PE X e te):PO X (some e) (zqN te):=by
 intro pins s σ H Q I hw
 rw [evalPart_some]
 refine thn (h pins s σ H _ I hw) fun u s1 ⟨x,H1,I1,r1,q1⟩=>?_
 obtain ⟨i,rfl,q⟩:=q1
 obtain ⟨t,rfl⟩:=r1
 exact ⟨some i,H1,I1,.int i t,q⟩
def SlR (X:Cx) (r:V->Option Int->Option Int->Hp->VK->Prop):Prop:=
 ∀ (pins:List (Addr × Obj)) (s:Shared) (σ:St) (H:Hp) (x:V) (v vl vu:Value) (lo hi:Option Int) (sl:Addr) (Q:VK),Inv X pins σ H s->RelV x v->s.heap.IsSliceOf sl vl vu .none->IsPart vl lo->IsPart vu hi->r x lo hi H Q->
  ∃ T id,typeLookup (.type T) "__getitem__" = pure (some (.builtin id))/\s.TypeIs v T/\wpAny (model X.prog X.w) X.A (getItem v (.ref sl)) (EP X pins σ Q) X.xe s
noncomputable def tSl (r:V->Option Int->Option Int->Hp->VK->Prop) (te:TE) (tl th:TO):TE:=fun σ H Q=>te σ H fun x H1=>tl σ H1 fun l H2=>th σ H2 fun u H3=>r x l u H3 Q
theorem zfx {r:V->Option Int->Option Int->Hp->VK->Prop} (hr:SlR X r) (he:PE X e te) (hl:PO X lo tl) (hu:PO X hi th):PE X (.Subscript e (.Slice lo hi none p2) pos) (tSl r te tl th):=by
 intro pins s σ H Q I h
 refine Subscript_ (thn (he pins s σ H _ I h) fun v s1 ⟨x,H1,I1,r1,q1⟩=>?_)
 refine wpAny_Slice (thn (hl pins s1 σ H1 _ I1 q1) fun vl s2 ⟨l,H2,I2,pl,q2⟩=>thn (hu pins s2 σ H2 _ I2 q2) fun vu s3 ⟨u,H3,I3,pu,q3⟩=>?_)
 rw [evalPart_none]
 refine Qf ?_
 have I4:Inv X pins σ H3 { s3 with heap:=s3.heap.push { cls:=.type "slice",data:=.fields #[vl,vu,.none] } }:=I3.kept (t':=s3.toks) fun b ob q=>Q2 _ q
 obtain ⟨T,id,hT,ht,hg⟩:=hr pins { s3 with heap:=s3.heap.push { cls:=.type "slice",data:=.fields #[vl,vu,.none] } } σ H3 x v vl vu l u s3.heap.objs.size Q I4 r1 (Heap.IsSliceOf.new ..) pl pu q3
 show wpAny (model X.prog X.w) X.A (subscriptTail e (.Slice lo hi none p2) v (.ref s3.heap.objs.size)) (EP X pins σ Q) X.xe { s3 with heap:=s3.heap.push { cls:=.type "slice",data:=.fields #[vl,vu,.none] } }
 exact tail_any (ops:=[.ref s3.heap.objs.size,v]) ht hT hg (by with_unfolding_all rfl)
noncomputable def cutV (xs:List V) (lo hi:Option Int):List V:=(xs.drop (HT.sIx xs.length 0 lo)).take (HT.sIx xs.length xs.length hi - HT.sIx xs.length 0 lo)
theorem zfo (xs:List V) (lo hi:Option Int):(cutV xs lo hi).length<=xs.length:=by
 unfold cutV
 rw [Qr,length_drop]
 omega
noncomputable def zr3 (K:Frag):V->Option Int->Option Int->Hp->VK->Prop:=fun x lo hi H Q=>∃ a xs,x = .ref a/\SqT K H a xs /\
 ¬ (HT.sIx xs.length 0 lo = 0/\HT.sIx xs.length xs.length hi = xs.length)/\∀ p,H p = none->Q (.ref p) (upd H p (.tup (cutV xs lo hi)))
theorem zoL:SlR X (zr3 X.K):=by
 intro pins s σ H x v vl vu lo hi sl Q I rx hs pl pu h
 obtain ⟨a,xs,rfl,hx,hw,q⟩:=h
 cases rx
 obtain ⟨its,r,ht,hz⟩:=I.tuple hx
 have hlen:its.toArray.size = xs.length:=by rw [Qi];exact r.length.symm
 refine ⟨"tuple",_,PyProof.Rows.slot_tuple_getitem.lookup,ht.typeIs,?_⟩
 refine HT.zfe ht hs pl pu (by rw [hlen];exact hw) ?_ (by rw [hlen];exact hz)
 rw [hlen]
 refine ⟨.ref s.heap.objs.size,_,I.laid (t':=s.toks) (o:=.tup (cutV xs lo hi)) (fun b ob q=>Q2 _ q) (Q3 _) ?_,rfl,q _ (I.hok.fresh (Q3 _))⟩
 exact ⟨Qj (zfo xs lo hi) hz,_,(r.drop (HT.sIx xs.length 0 lo)).take (HT.sIx xs.length xs.length hi - HT.sIx xs.length 0 lo),IsTup.new _ _,NoDict.new⟩
noncomputable def zq4 (K:Frag):R2:=fun x y H Q=>∃ a b xs ys,x = .ref a/\y = .ref b/\SqT K H a xs/\SqT K H b ys/\xs ≠ []/\xs.length + ys.length<=sizeLine /\
 (ys = []->Q (.ref a) H)/\(ys ≠ []->∀ p,H p = none->Q (.ref p) (upd H p (.tup (xs ++ ys))))
theorem Vals.nil_iff (r:Vals xs us):us = [] ↔ xs = []:=by
 cases r with
 | nil=>simp
 | cons _ _=>simp
theorem znI:OpR X (binaryOp .Add) (zq4 X.K):=by
 intro pins s σ H x y v u Q I rx ry h
 obtain ⟨a,b,xs,ys,rfl,rfl,ha,hb,hx,hz,q1,q2⟩:=h
 cases rx
 cases ry
 obtain ⟨its,r1,p1,_⟩:=I.tuple ha
 obtain ⟨its2,r2,p2,_⟩:=I.tuple hb
 refine HT.zor p1 p2 (fun z=>hx (r1.nil_iff.mp z)) (fun z=>⟨.ref a,H,I,rfl,q1 (r2.nil_iff.mp z)⟩) (fun z=>?_) (by rw [← r1.length,← r2.length];exact hz)
 refine ⟨.ref s.heap.objs.size,_,I.laid (t':=s.toks) (o:=.tup (xs ++ ys)) (fun b ob q=>Q2 _ q) (Q3 _) ?_,rfl,q2 (fun w=>z (r2.nil_iff.mpr w)) _ (I.hok.fresh (Q3 _))⟩
 exact ⟨by rw [Qn];exact hz,_,r1.append r2,IsTup.new _ _,NoDict.new⟩
end
noncomputable def ixN (n:Nat) (i:Int):Option Nat:=if 0<=i then (if i < n then some i.toNat else none) else if -(n:Int)<=i then some (i + n).toNat else none
noncomputable def atI {α:Type} (xs:List α) (i:Int):Option α:=(ixN xs.length i).bind fun j=>xs[j]?
variable {i:Int} {j n:Nat}
theorem zjH (h:ixN n i = some j):seqIndex? i n = some j/\j < n/\-(n:Int)<=i/\i < n:=by
 unfold ixN at h
 by_cases h0:0<=i
 ·rw [QA h0] at h
  by_cases h1:i < n
  ·rw [QA h1] at h
   have e:i.toNat = j:=Qd h
   exact ⟨by rw [seqIndex_of h0 h1,e],by omega,by omega,h1⟩
  ·rw [QB h1] at h;cases h
 ·rw [QB h0] at h
  by_cases h1:-(n:Int)<=i
  ·rw [QA h1] at h
   have e:(i + n).toNat = j:=Qd h
   exact ⟨by rw [seqIndex_neg (by omega) h1,e],by omega,h1,by omega⟩
  ·rw [QB h1] at h;cases h
theorem zfd {α:Type} {xs:List α} {v:α} (h:atI xs i = some v):∃ j,seqIndex? i xs.length = some j/\xs[j]? = some v/\j < xs.length/\-(xs.length:Int)<=i/\i < xs.length:=by
 unfold atI at h
 cases e:ixN xs.length i with
 | none=>rw [e] at h;cases h
 | some j=>
  rw [e] at h
  obtain ⟨h1,h2,h3,h4⟩:=zjH e
  exact ⟨j,h1,h,h2,h3,h4⟩
theorem zbf {α:Type} {xs:List α} {v:α} (h:xs[j]? = some v):atI xs (j:Int) = some v:=by
 have hj:j < xs.length:=(Qz.mp h).1
 have e:ixN xs.length (j:Int) = some j:=by
  unfold ixN
  rw [QA (by omega),QA (by omega)];simp
 unfold atI;rw [e];exact h
def zgW (b:Expr):Prop:=∀ o i,subscripted b false o i = operate [o,i] (getItem o i)
def IxR (X:Cx) (r:R2):Prop:=
 ∀ (value slice:Expr) (pins:List (Addr × Obj)) (s:Shared) (σ:St) (H:Hp) (x y:V) (v u:Value) (Q:VK),Inv X pins σ H s->RelV x v->RelV y u->r x y H Q->
  subscripted slice false v u = operate [v,u] (getItem v u)->wpAny (model X.prog X.w) X.A (subscriptTail value slice v u) (EP X pins σ Q) X.xe s
def MtR (X:Cx) (id:String) (r:V->List V->Hp->VK->Prop):Prop:=
 ∀ (pins:List (Addr × Obj)) (s:Shared) (σ:St) (H:Hp) (x:V) (xs:List V) (v:Value) (us:List Value) (Q:VK),Inv X pins σ H s->RelV x v->Vals xs us->r x xs H Q->
  wpAny (model X.prog X.w) X.A (call (.builtin id) (v :: us)) (EP X pins σ Q) X.xe s
variable {p:Addr} {H:Hp} {pins:List (Addr × Obj)} {ys:List V} {its its':List Value} {r:R2} {s:Shared} {σ:St} {x y:V} {u:Value}
section
variable {a b:Expr} {ta tb:TE} {pos:Pos}
theorem IxR.or {r':R2} (h:IxR X r) (h':IxR X r'):IxR X (fun x y H Q=>r x y H Q\/r' x y H Q):=by
 intro value slice pins s σ H x y v u Q I rx ry q hs
 rcases q with q | q
 ·exact h value slice pins s σ H x y v u Q I rx ry q hs
 ·exact h' value slice pins s σ H x y v u Q I rx ry q hs
theorem zrd (hr:IxR X r) (ha:PE X a ta) (hb:PE X b tb) (hs:zgW b):PE X (.Subscript a b pos) (tOp r ta tb):=by
 intro pins s σ H Q I h
 exact Subscript_ (zmO ha hb I h fun v u s2 x y H2 I2 rx ry q=>hr a b pins s2 σ H2 x y v u Q I2 rx ry q (hs _ _))
noncomputable def zl5 (K:Frag):R2:=fun x y H Q=>∃ p xs i v,x = .ref p/\y = .int i/\SqL K H p xs/\atI xs i = some v/\Q v H
noncomputable def zoU (K:Frag):R2:=fun x y H Q=>∃ p xs i v,x = .ref p/\y = .int i/\SqT K H p xs/\atI xs i = some v/\Q v H
noncomputable def zoV:R2:=fun x y H Q=>∃ z i c,x = .str z/\y = .int i/\z.length<=sizeLine/\atI z.cps.toList i = some c/\Q (.str ⟨#[c]⟩) H
theorem znZ:IxR X (zl5 X.K):=by
 intro value slice pins s σ H x y v u Q I rx ry h hs
 obtain ⟨p,xs,i,z,rfl,rfl,hq,he,q⟩:=h
 cases rx
 obtain ⟨t,rfl⟩:=ry
 obtain ⟨its,r,pl,hz⟩:=I.list hq
 obtain ⟨j,h1,h2,h3,h4,h5⟩:=zfd he
 obtain ⟨w,ew,rw'⟩:=r.get h2
 have hl:=r.length
 have hn:=zcr
 have fin:EP X pins σ Q w s:=⟨z,H,I,rw',q⟩
 by_cases h0:0<=i
 ·have hj:i.toNat = j:=by
   rw [seqIndex_of h0 h5] at h1
   exact Qd h1
  exact item_listR pl.isList h0 (by omega) (by rw [hj];simpa using ew) fin hs
 ·have hj:(i + (its.toArray.size:Int)).toNat = j:=by
   rw [seqIndex_neg (by omega) h4] at h1
   rw [Qi,← hl]
   exact Qd h1
  exact subscriptTail_builtinR (x:=w) pl.isList.typeIs slot_list_getitem.lookup
   (wpAny_getItem_list_neg (Q:=fun r s'=>r = w/\EP X pins σ Q r s') pl.isList (by omega) (by rw [Qi] <;> omega) (by omega) (by rw [hj];simpa using ew) ⟨rfl,fin⟩) hs
theorem zpQ:IxR X (zoU X.K):=by
 intro value slice pins s σ H x y v u Q I rx ry h hs
 obtain ⟨p,xs,i,z,rfl,rfl,hq,he,q⟩:=h
 cases rx
 obtain ⟨t,rfl⟩:=ry
 obtain ⟨its,r,pl,hz⟩:=I.tuple hq
 obtain ⟨j,h1,h2,h3,h4,h5⟩:=zfd he
 obtain ⟨w,ew,rw'⟩:=r.get h2
 have hl:=r.length
 have hn:=zcr
 have fin:EP X pins σ Q w s:=⟨z,H,I,rw',q⟩
 exact subscriptTail_builtinR (x:=w) pl.typeIs slot_tuple_getitem.lookup
  (getItem_tuple (j:=j) (Q:=fun r s'=>r = w/\EP X pins σ Q r s') pl (by omega) (by omega) (by rw [Qi,← hl];exact h1) (by simpa using ew) ⟨rfl,fin⟩) hs
theorem zlf:IxR X zoV:=by
 intro value slice pins s σ H x y v u Q I rx ry h hs
 obtain ⟨z,i,c,rfl,rfl,hz,he,q⟩:=h
 obtain ⟨t,rfl⟩:=rx
 obtain ⟨t',rfl⟩:=ry
 obtain ⟨j,h1,h2,h3,h4,h5⟩:=zfd he
 have hl:z.cps.toList.length = z.length:=by simp [Str.length]
 rw [hl] at h1 h4 h5
 have hn:=zcr
 exact tail_any (typeIs_str s z t) slot_str_getitem.lookup (getItem_str (c:=c) (by
  have e1:decide (i < -(2 ^ 63:Int)) = false:=Qx (by omega)
  have e2:decide (i ≥ 2 ^ 63) = false:=Qx (by omega)
  rw [e1,e2,Bool.or_false]) (by rw [h1];simpa using h2) ⟨.str ⟨#[c]⟩,H,I.tok _,⟨_,rfl⟩,q⟩) hs
noncomputable def rIx (K:Frag):R2:=fun x y H Q=>zl5 K x y H Q\/zoU K x y H Q\/zoV x y H Q
theorem zpR:IxR X (rIx X.K):=znZ.or (zpQ.or zlf)
theorem zkk (its:List Value) (n j:Nat) (u:Value):Obj.mapSeq (·.setIfInBounds j u) { cls:=.type "list",data:=.seq its.toArray n } = { cls:=.type "list",data:=.seq (its.set j u).toArray n }:=by
 simp [Obj.mapSeq]
theorem Inv.lst (I:Inv X pins σ H s) (h:H p = some (.lst xs)) :
  ∃ (its:List Value) (n:Nat),Vals xs its/\s.heap.get? p = some { cls:=.type "list",data:=.seq its.toArray n }/\xs.length<=sizeLine:=by
 obtain ⟨z,its,n,r,e⟩:=I.hok p _ h
 exact ⟨its,n,r,e,z⟩
theorem Inv.lstUpd {n':Nat} {f:Obj->Obj} (I:Inv X pins σ H s) (h:H p = some (.lst xs))
 (ho:s.heap.get? p = some { cls:=.type "list",data:=.seq its.toArray n }) (hf:f { cls:=.type "list",data:=.seq its.toArray n } = { cls:=.type "list",data:=.seq its'.toArray n' }) (r:Vals ys its') (hz:ys.length<=sizeLine) (t:Nat) :
  Inv X pins σ (upd H p (.lst ys)) { s with heap:=s.heap.update p f,toks:=t }:=by
 have e:(s.heap.update p f).get? p = some { cls:=.type "list",data:=.seq its'.toArray n' }:=by
  rw [Heap.get?_update_self f ho (by rw [hf] <;> rfl),hf]
 refine I.write (x:=p) (e:=p) (by rw [h];trivial) (.inl rfl) (fun b u hb q=>(Heap.get?_update_other _ _ (Ne.symm hb)).trans q) ⟨_,e⟩ ?_
 exact ⟨hz,its',n',r,e⟩
noncomputable def zq1:V->V->V->Hp->(Hp->Prop)->Prop:=fun o i v H Q=>∃ p xs k j,o = .ref p/\i = .int k/\H p = some (.lst xs)/\ixN xs.length k = some j/\Q (upd H p (.lst (xs.set j v)))
theorem set_list:zeo X zq1:=by
 intro pins s σ H o i v ov iv u Q I ro ri rv h
 obtain ⟨p,xs,k,j,rfl,rfl,hp,hj,q⟩:=h
 cases ro
 obtain ⟨t,rfl⟩:=ri
 obtain ⟨its,n,r,ho,hz⟩:=I.lst hp
 obtain ⟨h1,h2,h3,h4⟩:=zjH hj
 have hl:=r.length
 have hn:=zcr
 have I':Inv X pins σ (upd H p (.lst (xs.set j v))) { s with heap:=s.heap.update p (Obj.mapSeq (·.setIfInBounds j u)) }:=
  I.lstUpd hp ho (zkk its n j u) (r.set rv j) (by rw [length_set];exact hz) s.toks
 by_cases h0:0<=k
 ·have hk:k.toNat = j:=by
   rw [seqIndex_of h0 h4] at h1
   exact Qd h1
  exact PySem.W.ki_setAt ho h0 (by omega) (by rw [Qi,← hl];exact h4) (by rw [hk];exact ⟨_,I',q⟩)
 ·have hk:(k + (its.toArray.size:Int)).toNat = j:=by
   rw [seqIndex_neg (by omega) h3] at h1
   rw [Qi,← hl]
   exact Qd h1
  exact PySem.W.ki_setBack ho (by omega) (by rw [Qi,← hl];exact h3) (by omega) (by rw [hk];exact ⟨_,I',q⟩)
theorem zhP (lo hi:Option Int) (n:Nat):(sliceBounds lo hi none n).1 = ((HT.sIx n 0 lo:Nat):Int)/\(sliceBounds lo hi none n).2.1 = ((HT.sIx n n hi:Nat):Int)/\(sliceBounds lo hi none n).2.2 = 1:=by
 refine ⟨?_,?_,rfl⟩
 ·cases lo with
  | none=>simp [sliceBounds,HT.sIx]
  | some i=>
   simp only [sliceBounds,HT.sIx,Option.getD_none,show (1:Int) > 0 by decide,if_true]
   by_cases h:i < 0
   ·simp only [h,if_true] <;> omega
   ·simp only [h,if_false] <;> omega
 ·cases hi with
  | none=>simp [sliceBounds,HT.sIx]
  | some i=>
   simp only [sliceBounds,HT.sIx,Option.getD_none,show (1:Int) > 0 by decide,if_true]
   by_cases h:i < 0
   ·simp only [h,if_true] <;> omega
   ·simp only [h,if_false] <;> omega
theorem zhm (its:List Value) (lo hi:Option Int):slicePick its.toArray lo hi none = ((its.drop (HT.sIx its.length 0 lo)).take (HT.sIx its.length its.length hi - HT.sIx its.length 0 lo)).toArray:=by
 obtain ⟨h1,h2,h3⟩:=zhP lo hi its.toArray.size
 unfold slicePick
 rw [h1,h2,h3]
 simp only [sliceRange_one,pick_run,Qi] <;> rfl
noncomputable def zr4 (K:Frag):V->Option Int->Option Int->Hp->VK->Prop:=fun x lo hi H Q=>∃ a xs,x = .ref a/\SqL K H a xs/\∀ p,H p = none->Q (.ref p) (upd H p (.lst (cutV xs lo hi)))
theorem zne:SlR X (zr4 X.K):=by
 intro pins s σ H x v vl vu lo hi sl Q I rx hs pl pu h
 obtain ⟨a,xs,rfl,hx,q⟩:=h
 cases rx
 obtain ⟨its,r,ht,hz⟩:=I.list hx
 have hlen:=r.length
 refine ⟨"list",_,slot_list_getitem.lookup,ht.isList.typeIs,?_⟩
 refine wpAny_getItem_list_slice ht.isList hs pl pu .none (by simp) ?_ (by rw [Qi] <;> omega)
 rw [zhm,← hlen]
 refine ⟨.ref s.heap.objs.size,_,I.laid (t':=s.toks) (o:=.lst (cutV xs lo hi)) (fun b ob q=>Q2 _ q) (Q3 _) ?_,rfl,q _ (I.hok.fresh (Q3 _))⟩
 exact ⟨Qj (zfo xs lo hi) hz,_,0,(r.drop (HT.sIx xs.length 0 lo)).take (HT.sIx xs.length xs.length hi - HT.sIx xs.length 0 lo),Ql _ rfl⟩
noncomputable def zaw:V->Bool
 | .non=>true
 | .bl _=>true
 | .int _=>true
 | .str _=>true
 | _=>false
noncomputable def eqV:V->V->Bool
 | .non,.non=>true
 | .bl a,.bl b=>a == b
 | .bl a,.int b=>(if a then 1 else 0) == b
 | .int a,.bl b=>a == (if b then 1 else 0)
 | .int a,.int b=>a == b
 | .str a,.str b=>a == b
 | _,_=>false
theorem ziH {A:Around} {v:Value} (ry:RelV y u) (rx:RelV x v) (fy:zaw y = true) (fx:zaw x = true):SeqAt.EqAt A s u v (eqV y x):=by
 cases y with
 | non=>
  cases ry
  cases x with
  | non=>cases rx;exact SeqAt.EqAt.same _
  | bl b=>cases rx;exact SeqAt.EqAt.none_bool b
  | int b=>obtain ⟨t,rfl⟩:=rx;exact SeqAt.EqAt.none_int b t
  | str b=>obtain ⟨t,rfl⟩:=rx;exact SeqAt.EqAt.none_str b t
  | _=>exact absurd (show false = true from fx) Q4
 | bl a=>
  cases ry
  cases x with
  | non=>cases rx;exact SeqAt.EqAt.bool_none a
  | bl b=>cases rx;exact SeqAt.EqAt.bool_bool a b
  | int b=>obtain ⟨t,rfl⟩:=rx;exact SeqAt.EqAt.bool_int a b t
  | str b=>obtain ⟨t,rfl⟩:=rx;exact SeqAt.EqAt.bool_str a b t
  | _=>exact absurd (show false = true from fx) Q4
 | int a=>
  obtain ⟨t',rfl⟩:=ry
  cases x with
  | non=>cases rx;exact SeqAt.EqAt.int_none a t'
  | bl b=>cases rx;exact SeqAt.EqAt.int_bool a t' b
  | int b=>obtain ⟨t,rfl⟩:=rx;exact SeqAt.EqAt.int_int a t' b t
  | str b=>obtain ⟨t,rfl⟩:=rx;exact SeqAt.EqAt.int_str a t' b t
  | _=>exact absurd (show false = true from fx) Q4
 | str a=>
  obtain ⟨t',rfl⟩:=ry
  cases x with
  | non=>cases rx;exact SeqAt.EqAt.str_none a t'
  | bl b=>cases rx;exact SeqAt.EqAt.str_bool a t' b
  | int b=>obtain ⟨t,rfl⟩:=rx;exact SeqAt.EqAt.str_int a t' b t
  | str b=>obtain ⟨t,rfl⟩:=rx;exact SeqAt.EqAt.str_str a t' b t
  | _=>exact absurd (show false = true from fx) Q4
 | _=>exact absurd (show false = true from fy) Q4
noncomputable def eqU (x:V) (u:Value):Bool:=match u with
 | .none=>eqV .non x
 | .bool b=>eqV (.bl b) x
 | .int i _=>eqV (.int i) x
 | .str z _=>eqV (.str z) x
 | _=>false
theorem ziG (r:RelV y u) (f:zaw y = true):eqU x u = eqV y x:=by
 cases y with
 | non=>cases r;rfl
 | bl b=>cases r;rfl
 | int i=>obtain ⟨t,rfl⟩:=r;rfl
 | str z=>obtain ⟨t,rfl⟩:=r;rfl
 | _=>exact absurd (show false = true from f) Q4
theorem zdQ {x:V}:∀ {xs:List V} {us:List Value},Vals xs us->xs.all zaw = true->us.any (eqU x) = xs.any fun y=>eqV y x
 | _,_,.nil,_=>rfl
 | y :: xs,u :: us,.cons r t,f=>by
  rw [all_cons,Qs] at f
  rw [any_cons,any_cons,ziG r f.1,zdQ t f.2]
theorem zb8 {A:Around} {s:Shared} {x:V} {v:Value} (rx:RelV x v) (fx:zaw x = true):∀ {xs:List V} {us:List Value},Vals xs us->xs.all zaw = true->∀ u ∈ us,SeqAt.EqAt A s u v (eqU x u)
 | _,_,.nil,_=>fun u hu=>by cases hu
 | y :: xs,u :: us,.cons r t,f=>fun u' hu=>by
  rw [all_cons,Qs] at f
  rcases QD.mp hu with rfl | hu
  ·rw [ziG r f.1];exact ziH r rx f.1 fx
  ·exact zb8 rx fx t f.2 u' hu
noncomputable def inV (x:V) (xs:List V):Bool:=xs.any fun y=>eqV y x
noncomputable def rIn (K:Frag) (neg:Bool):R2:=fun x y H Q=>∃ p xs,y = .ref p/\(SqL K H p xs\/SqT K H p xs)/\zaw x = true/\xs.all zaw = true/\Q (.bl (if neg then !inV x xs else inV x xs)) H
theorem zkY:OpR X (compareOp .In) (rIn X.K false):=by
 intro pins s σ H x y v u Q I rx ry h
 obtain ⟨p,xs,rfl,hq,fx,fs,q⟩:=h
 cases ry
 rcases hq with hq | hq
 ·obtain ⟨its,r,pl,hz⟩:=I.list hq
  refine SeqAt.in_listAt (eqU x) pl.isList (fun w hw=>zb8 rx fx r fs w (by simpa using hw)) ⟨.bl _,H,I,rfl,?_⟩
  rw [show its.toArray.any (eqU x) = its.any (eqU x) by simp,zdQ r fs]
  exact q
 ·obtain ⟨its,r,pl,hz⟩:=I.tuple hq
  refine SeqAt.in_tupleAt (eqU x) pl (fun w hw=>zb8 rx fx r fs w (by simpa using hw)) ⟨.bl _,H,I,rfl,?_⟩
  rw [show its.toArray.any (eqU x) = its.any (eqU x) by simp,zdQ r fs]
  exact q
theorem zh3:OpR X (compareOp .NotIn) (rIn X.K true):=by
 intro pins s σ H x y v u Q I rx ry h
 obtain ⟨p,xs,rfl,hq,fx,fs,q⟩:=h
 cases ry
 rcases hq with hq | hq
 ·obtain ⟨its,r,pl,hz⟩:=I.list hq
  refine SeqAt.notIn_listAt (eqU x) pl.isList (fun w hw=>zb8 rx fx r fs w (by simpa using hw)) ⟨.bl _,H,I,rfl,?_⟩
  rw [show its.toArray.any (eqU x) = its.any (eqU x) by simp,zdQ r fs]
  exact q
 ·obtain ⟨its,r,pl,hz⟩:=I.tuple hq
  refine SeqAt.notIn_tupleAt (eqU x) pl (fun w hw=>zb8 rx fx r fs w (by simpa using hw)) ⟨.bl _,H,I,rfl,?_⟩
  rw [show its.toArray.any (eqU x) = its.any (eqU x) by simp,zdQ r fs]
  exact q
theorem ziU:CallR X (.builtin "len") (fun xs H Q=>∃ p ys,xs = [.ref p]/\(SqL X.K H p ys\/SqT X.K H p ys)/\Q (.int ys.length) H):=by
 intro pins s σ H xs us Q I r h
 obtain ⟨p,ys,rfl,hq,q⟩:=h
 obtain ⟨u,rfl,rx⟩:=vals1 r
 cases rx
 have hn:=zcr
 rcases hq with hq | hq
 ·obtain ⟨its,r',pl,hz⟩:=I.list hq
  have hlen:=r'.length
  exact Calls.call_len_list pl.isList (by simp only [Qi] <;> omega) ⟨.int ys.length,H,I.tok _,⟨s.toks + 1,by rw [Qi,hlen]⟩,q⟩
 ·obtain ⟨its,r',pl,hz⟩:=I.tuple hq
  have hlen:=r'.length
  exact len_tuple pl (by simp only [Qi] <;> omega) ⟨.int ys.length,H,I.tok _,⟨s.toks + 1,by rw [Qi,hlen]⟩,q⟩
theorem ziT:CallR X (.builtin "len") (fun xs H Q=>∃ z,xs = [.str z]/\z.length<=sizeLine/\Q (.int z.length) H):=by
 intro pins s σ H xs us Q I r h
 obtain ⟨z,rfl,hz,q⟩:=h
 obtain ⟨u,rfl,t,rfl⟩:=vals1 r
 have hn:=zcr
 exact len_str (by omega) ⟨.int z.length,H,I.tok _,⟨_,rfl⟩,q⟩
theorem zhp:CallR X (.type "tuple") (fun xs H Q=>∃ p ys,xs = [.ref p]/\((SqL X.K H p ys/\∀ l,H l = none->Q (.ref l) (upd H l (.tup ys)))\/(SqT X.K H p ys/\Q (.ref p) H))):=by
 intro pins s σ H xs us Q I r h
 obtain ⟨p,ys,rfl,h⟩:=h
 obtain ⟨u,rfl,rx⟩:=vals1 r
 cases rx
 rcases h with ⟨hq,q⟩ | ⟨hq,q⟩
 ·obtain ⟨its,r',pl,hz⟩:=I.list hq
  have hlen:=r'.length
  refine call_tuple_list pl.isList (fun h' kp=>?_) (by simp only [Qi] <;> omega)
  have I1:Inv X pins σ H { s with heap:=h' }:=I.kept (t':=s.toks) kp
  have I2:Inv X pins σ (upd H h'.objs.size (.tup ys)) { s with heap:=h'.push { cls:=.type "tuple",data:=.seq its.toArray } }:=
   I1.laid (t':=s.toks) (fun b o e=>Q2 _ e) (Q3 _) (show ObjOk X.prog X.w _ _ _ (.tup ys) from ⟨hz,its,r',IsTup.new _ _,NoDict.new⟩)
  exact ⟨.ref h'.objs.size,_,I2,rfl,q _ (I1.hok.fresh (Q3 _))⟩
 ·obtain ⟨its,r',pl,hz⟩:=I.tuple hq
  exact call_tuple_same pl ⟨.ref p,H,I,rfl,q⟩
def tyV (K:Frag) (T:String) (x:V) (H:Hp):Prop:=match x with
 | .str _=>T = "str"
 | .int _=>T = "int"
 | .ref p=>(T = "list"/\∃ xs,SqL K H p xs)\/(T = "tuple"/\∃ o,K.lookup p = some o/\o.cls = .type "tuple"/\o.dict = none) \/
   (T = "dict"/\((∃ kvs,Rd H p (.dK kvs))\/∃ kvs,H p = some (.dT kvs)))\/(T = "set"/\∃ S n,H p = some (.set S n))
 | _=>False
theorem zoF {pins:List (Addr × Obj)} {σ:St} {H:Hp} {s:Shared} {T:String} {x:V} {v:Value} (I:Inv X pins σ H s) (r:RelV x v) (ty:tyV X.K T x H) :
  s.TypeIs v T/\∀ a,v = .ref a->∃ ob,s.heap.get? a = some ob/\ob.dict = none:=by
 cases x with
 | str z=>
  obtain ⟨t,rfl⟩:=r
  cases (show T = "str" from ty)
  exact ⟨typeIs_str s z t,fun _ e=>nomatch e⟩
 | int i=>
  obtain ⟨t,rfl⟩:=r
  cases (show T = "int" from ty)
  exact ⟨typeIs_int s i t,fun _ e=>nomatch e⟩
 | ref p=>
  cases r
  rcases ty with ⟨rfl,xs,hq⟩ | ⟨rfl,o,hk,hc,hd⟩ | ⟨rfl,hk⟩ | ⟨rfl,S,n,hk⟩
  ·obtain ⟨its,_,pl,_⟩:=I.list hq
   refine ⟨pl.isList.typeIs,fun a e=>?_⟩
   cases e
   obtain ⟨o,n,e,c,hd,_⟩:=pl
   exact ⟨o,e,hd⟩
  ·refine ⟨⟨o,I.kIn p o hk,hc⟩,fun a e=>?_⟩
   cases e
   exact ⟨o,I.kIn _ o hk,hd⟩
  ·have z:∃ o,s.heap.get? p = some o/\o.ExactDict:=by
    rcases hk with ⟨kvs,hk⟩ | ⟨kvs,hk⟩
    ·obtain ⟨_,_,_,_,o,_,_,e,ex,_⟩:=(show ObjOk X.prog X.w H s.heap p (.dK kvs) from hk.ok I.hok)
     exact ⟨o,e,ex⟩
    ·obtain ⟨_,_,_,_,o,_,_,e,ex,_⟩:=I.hok p _ hk
     exact ⟨o,e,ex⟩
   obtain ⟨o,e,ex⟩:=z
   refine ⟨⟨o,e,ex.1⟩,fun a e2=>?_⟩
   cases e2
   exact ⟨o,e,ex.2.1⟩
  ·obtain ⟨o,_,_,_,e,ex,_⟩:=I.hok p _ hk
   refine ⟨⟨o,e,ex.1⟩,fun a e2=>?_⟩
   cases e2
   exact ⟨o,e,ex.2.1⟩
 | _=>exact False.elim ty
noncomputable def tBM (K:Frag) (T:String) (r:V->List V->Hp->VK->Prop) (to:TE) (t:TA):TE:=fun σ H Q=>to σ H fun x H1=>tyV K T x H1/\t σ H1 fun xs H2=>r x xs H2 Q
variable {o:Expr} {es:List Expr} {to:TE} {t:TA} {name:Str} {apos cpos:Pos} {T id:String} {r:V->List V->Hp->VK->Prop}
theorem zZ (pa:PlainAttrs T) (slot:Slot T name id) (hty:typeOf (.builtin id) = pure (.type "method_descriptor")) (hm:MtR X id r) (ho:PE X o to) (ha:PA X (e :: es) t)
  (hbase:attributeBase o name X.env (eval o X.env) = eval o X.env:=by rfl)
  (hfew:((backTo cpos (starEach (e :: es) X.env)).all (fun x=>!x.1) && (backToKw cpos (keywordEach [] X.env)).all (fun x=>x.1.isSome)
   && decide ((e :: es).length + ([]:List Keyword).length + (if ([]:List Keyword).isEmpty then 0 else 1) < 30)) = true:=by rfl)
  (hline:(apos.endLine == cpos.line) = true:=by rfl) (hs:starEach (e :: es) X.env = (false,eval e X.env) :: starEach es X.env:=by rfl) (hplain:(backTo cpos (starEach es X.env)).any (·.1) = false:=by rfl) :
  PE X (.Call (.Attribute o name apos) (e :: es) [] cpos) (tBM X.K T r to t):=by
 intro pins s σ H Q I h
 refine wpAny_Call_method_late hbase hfew hline rfl (thn (ho pins s σ H _ I h) fun v s1 ⟨x,H1,I1,r1,ty,q1⟩=>?_)
 obtain ⟨h1,h2⟩:=zoF I1 r1 ty
 refine ⟨T,id,pa,slot,hty,h1,h2,?_⟩
 have hA:=ha cpos pins s1 σ H1 _ I1 q1
 rw [hs] at hA ⊢
 refine Calls.callWith_builtin (by show (false || (backTo cpos (starEach es X.env)).any (·.1)) = false;rw [hplain] <;> rfl) (Calls.evalArgs_plain ?_)
 exact thn hA fun us s2 ⟨vs,H2,I2,r2,q2⟩=>hm pins s2 σ H2 x vs v us Q I2 r1 r2 q2
end
def MtM (X:Cx) (id:String) (r:V->List V->Hp->VK->Prop):Prop:=
 ∀ (pins:List (Addr × Obj)) (s:Shared) (σ:St) (H:Hp) (x:V) (xs:List V) (v:Value) (us:List Value) (Q:VK),Inv X pins σ H s->RelV x v->Vals xs us->r x xs H Q->
  wpAny (model X.prog X.w) X.A (call (.builtin id) (v :: us)) (EP X pins σ Q) X.xe s
theorem Vals.one:∀ {x:V} {us:List Value},Vals [x] us->∃ u,us = [u]/\RelV x u
 | _,_,.cons r .nil=>⟨_,rfl,r⟩
theorem Vals.two:∀ {x y:V} {us:List Value},Vals [x,y] us->∃ u v,us = [u,v]/\RelV x u/\RelV y v
 | _,_,_,.cons r (.cons q .nil)=>⟨_,_,rfl,r,q⟩
theorem Vals.zero:∀ {us:List Value},Vals [] us->us = []
 | _,.nil=>rfl
theorem Vals.eraseIdx:∀ {xs:List V} {us:List Value} (i:Nat),Vals xs us->Vals (xs.eraseIdx i) (us.eraseIdx i)
 | _,_,_,.nil=>.nil
 | _,_,0,.cons _ t=>t
 | _,_,i + 1,.cons r t=>.cons r (Vals.eraseIdx i t)
theorem Vals.reverse (h:Vals xs us):Vals xs.reverse us.reverse:=by
 induction h with
 | nil=>exact .nil
 | cons r t ih=>rw [List.reverse_cons,List.reverse_cons];exact Vals.append ih (.cons r .nil)
theorem Vals.rep {xs:List V} {us:List Value} (h:Vals xs us):∀ k:Nat,Vals (List.replicate k xs).flatten (List.replicate k us).flatten
 | 0=>.nil
 | k + 1=>by
  rw [replicate_succ,replicate_succ,flatten_cons,flatten_cons]
  exact Vals.append h (Vals.rep h k)
theorem foldl_rep (its:List Value):∀ (k:Nat) (acc:List Value),
  List.foldl (fun x1 x2=>x1 ++ x2) acc.toArray (List.replicate k its.toArray) = (acc ++ (List.replicate k its).flatten).toArray
 | 0,acc=>by simp
 | k + 1,acc=>by
  have e:acc.toArray ++ its.toArray = (acc ++ its).toArray:=by simp
  have e2:(acc ++ its) ++ (List.replicate k its).flatten = acc ++ (List.replicate (k + 1) its).flatten:=by
   rw [replicate_succ,flatten_cons,append_assoc]
  rw [← e2,← foldl_rep its k (acc ++ its),← e,replicate_succ,foldl_cons]
variable {t':Nat}
section
variable {l b:Addr} {zs:List V}
theorem Inv.lset {f:Array Value->Array Value} {t':Nat} (I:Inv X pins σ H s) (hH:H l = some (.lst xs))
 (e:s.heap.get? l = some { cls:=.type "list",data:=.seq its.toArray n }) (hf:f its.toArray = its'.toArray) (hv:Vals ys its') (hz:ys.length<=sizeLine) :
  Inv X pins σ (upd H l (.lst ys)) { s with heap:=s.heap.update l (Obj.mapSeq f),toks:=t' }:=by
 have q:=PySem.IsL.update e f
 rw [hf] at q
 refine I.write (x:=l) (e:=l) (by rw [hH];exact trivial) (.inl rfl) (fun b' u hb hu=>(Heap.get?_update_other s.heap (Obj.mapSeq f) (Ne.symm hb)).trans hu) ⟨_,q⟩ ?_
 exact ⟨hz,its',_,hv,q⟩
theorem Inv.lnew {t':Nat} (I:Inv X pins σ H s) (hv:Vals ys its) (hz:ys.length<=sizeLine) :
  Inv X pins σ (upd H s.heap.objs.size (.lst ys)) { s with heap:=s.heap.push { cls:=.type "list",data:=.seq its.toArray },toks:=t' }:=
 I.laid (fun _ _ q=>Q2 _ q) (Q3 _) ⟨hz,its,0,hv,Ql _ rfl⟩
theorem Inv.fresh (I:Inv X pins σ H s):H s.heap.objs.size = none:=I.hok.fresh (Q3 _)
theorem Inv.lstM (I:Inv X pins σ H s) (hH:H l = some (.lst xs)):xs.length<=sizeLine/\∃ (its:List Value) (n:Nat),Vals xs its/\xs.length = its.length/\s.heap.get? l = some { cls:=.type "list",data:=.seq its.toArray n }:=by
 obtain ⟨z,its,n,r,e⟩:=I.hok l _ hH
 exact ⟨z,its,n,r,r.length,e⟩
theorem zh5 (h:n<=sizeLine):Builtin.List.listTooLong n = false:=by
 unfold Builtin.List.listTooLong
 exact Qx (by omega)
end
section
noncomputable def zgB:V->List V->Hp->VK->Prop:=fun x vs H Q=>∃ l xs y,x = .ref l/\vs = [y]/\H l = some (.lst xs)/\xs.length < sizeLine/\Q .non (upd H l (.lst (xs ++ [y])))
theorem qK:MtM X "list.append" zgB:=by
 intro pins s σ H x vs v us Q I rx rv h
 obtain ⟨l,xs,y,rfl,rfl,hH,hz,q⟩:=h
 cases rx
 obtain ⟨u,rfl,ru⟩:=rv.one
 obtain ⟨z,its,n,r,hl,e⟩:=I.lstM hH
 refine call_meets F.slot_list_append ⟨_,e,rfl⟩ F.entry_list_append (F.args_list_append_2 _ _) (PySem.list_append l its.toArray n u (by rw [Qi];omega)) ⟨e,?_⟩
 refine ⟨.non,_,I.lset (its':=its ++ [u]) hH e (by simp) (r.append (.cons ru .nil)) ?_,rfl,q⟩
 rw [Qn,Qu]
 omega
theorem len_rep {α:Type} (xs:List α) (k:Nat):(List.replicate k xs).flatten.length = k * xs.length:=by
 induction k with
 | zero=>simp
 | succ k ih=>rw [replicate_succ,flatten_cons,Qn,ih,Nat.succ_mul,Nat.add_comm]
end
end L2
namespace Att
open PySem PySem.W PySem.Calls PyProof.Rows
variable {h:Heap} {P:Params}
theorem zf4:∀ (ns:List Int) (vs:List Value),WellAll P h vs (ns.map WData.int)->IntsAre vs ns:=by
 intro ns
 induction ns with
 | nil=>
  intro vs w
  rw [map_nil] at w
  cases w
  exact .nil
 | cons n ns ih=>
  intro vs w
  rw [QG] at w
  cases w with
  | cons a b=>
   cases a
   exact .cons _ _ (ih _ b)
variable {n:Nat} {l:OpenLaw}
theorem zkK (hn:l.most = some n) {args:List WData} {vals:List Value}
 (hpre:l.row.toRowW.claim.pre args = true) (hwl:WellAll P h vals args) :
  ∃ a vs ns,vals = [Value.ref a]/\args = [WData.list (ns.map WData.int)]/\h.get? a = some { cls:=.type "list",data:=.seq vs.toArray }/\IntsAre vs ns/\ns.length<=n:=by
 have hsh:WShape.hasAll [] args [.list .int] = true:=(pre_splitW hpre).1
 have hc:l.pre.holds [] { args:=args } = true:=(pre_splitW hpre).2
 obtain ⟨d,r,rfl,h1,h2⟩:=hasAllW_cons hsh
 obtain rfl:=hasAllW_nil h2
 obtain ⟨xs,rfl,h3⟩:=hasW_list h1
 obtain ⟨ns,rfl⟩:=items_int h3
 have hlen:ns.length<=n:=by
  unfold OpenLaw.pre at hc
  have h4:(WTm.not (.lt (.lit (.int (n:Int))) (.len (.arg 0)))).holds [] { args:=[.list (ns.map .int)] } = true:=by
   have h4:=(holds_andW hc).1
   rw [hn] at h4
   exact h4
  have h5:=condW_of h4 (w_not (w_lt w_lit (w_len_list (w_arg rfl))))
  rw [Qh] at h5
  refine Nat.le_of_not_lt fun q=>?_
  have q':(n:Int) < ((ns.length:Nat):Int):=by omega
  first
   | (rw [Qw q'] at h5;exact absurd h5 (by decide))
   | (simp at h5;omega)
 cases hwl with
 | cons w1 w2=>
  cases w2
  cases w1 with
  | list ho hall=>exact ⟨_,_,ns,rfl,rfl,ho,zf4 ns _ hall,hlen⟩
theorem zkR (l:OpenLaw) (args:List WData):l.row.toRowW.claim.post args (.bool true) args = true:=
 postW_of (r:=l.row.toRowW) (X:=(true == true))
  (show WShape.has [] (.bool true) .bool = true by first | rfl | decide | simp [WShape.has,WShape.arms,WShape.armsAll])
  (show (WTm.eq .res (.lit (.bool true))).value [] { args:=args,res:=some (.bool true),after:=args } = some (.bool (true == true)) from w_eq_bool (w_res rfl) w_lit) rfl
theorem zjg {q:Program} {loose:List Str} {XP:(Str->Option Value)->Heap->Prop} {YP:World->Heap->Prop} {d:DefRec}
 (hn:l.most = some n) (hdf:d.params.defaults = [])
 (call:∀ (w:World) (s₀ s₁:Shared) (mg mb:Str->Option Value) (fa:Addr) (o:Obj) (pm cd doc:Value) (a:Addr) (vs:List Value) (ns:List Int),
 Ground q loose [] XP w s₀ mg mb s₁.heap->YP w s₁.heap->
 s₁.heap.get? fa = some o->o.data = .func (docDef d.name d.params d.body d.scope pm cd doc)->s₁.heap.CodeRec cd d.name->mg d.name = some (.ref fa)->
 s₁.heap.get? a = some { cls:=.type "list",data:=.seq vs.toArray }->IntsAre vs ns->ns.length<=n->s₁.gens = #[]->
 codeAny (model l.prog w) callerA (.call (.ref fa) ⟨[.ref a],[]⟩) (fun r s'=>r = .ok (.ret (.bool true))/\OldK s₁.heap s'.heap/\s'.os = s₁.os/\AllBare s'.gens) s₁) :
  WalkO q loose XP YP l.row.toRowW d [] (fun f vs=>PySem.call f vs):=by
 intro w s₀ s₁ mg mb G Y fa o pm cd doc dV kV ho hd hcd hD hmg hg args vals as hpre hlay hrd hwl hlo
 obtain rfl:dV = .none:=Dflts.none hD hdf
 obtain rfl:kV = .none:=Dflts.noKw hD
 obtain ⟨a,vs,ns,rfl,rfl,hobj,hints,hlen⟩:=zkK hn hpre hwl
 refine enter_call (codeAny_mono (call w s₀ s₁ mg mb fa o pm cd doc a vs ns G Y ho (fd_plain hd) hcd hmg hobj hints hlen hg) fun r s' hq=>?_)
 obtain ⟨rfl,h2,h3,h4⟩:=hq
 exact ⟨.inl ⟨.bool true,.bool true,[],rfl,fun _=>rfl,.bool true,zkR l _,fun _=>⟨List.Pairwise.nil,fun _ hm=>(nomatch hm)⟩⟩,h2,h3,h4⟩
end Att
namespace L2
open PySem PySem.Spec PyProof.Rows
theorem zgZ:∀ {vs:List Value} {ns:List Int},IntsAre vs ns->Vals (ns.map V.int) vs
 | _,_,.nil=>.nil
 | _,_,.cons n t h=>.cons ⟨t,rfl⟩ (zgZ h)
def zkB (H:Hp):Prop:=∀ b,H b = none\/∃ o xs,H b = some (.frz o (.lst xs))
variable {CX:CXT} {K:Frag} {fd:FuncData} {k:Nat} {P:Program} {sp:Sp} {x:Str} {mg:Str->Option Value} {w:World}
theorem zmm {mb:Str->Option Value} {fa a:Addr} {s₁:Shared} {vs:List Value} {ns:List Int}
 (KX:K.In s₁.heap) (hns:s₁.heap.Ns mainGlobals mg) (hb:s₁.heap.Ns builtinsNs mb) (hbb:∀ x:Str,x ≠ "__name__"->mb x = bootBuiltins x) (hlim:s₁.heap.NoLimit) (hg:s₁.gens = #[])
 (ha:s₁.heap.get? a = some { cls:=.type "list",data:=.seq vs.toArray }) (hi:IntsAre vs ns) (hl:ns.length<=sizeLine) (hr:Room k callerA)
 (F:∀ base:Heap,K.In base->base.Ns mainGlobals mg->FnOk P w K mg base CX k fa fd [x] sp) (hbind:∀ (s:Shared) (u:Value),BindsTo s fd ⟨[u],[]⟩ [(x,u)])
 (hsp:∀ H:Hp,zkB H->SqL K H a (ns.map V.int)->sp [.ref a] H (fun v _=>v = .bl true) fun _ _ _=>False)
 (hCX:∀ H e s',CX [] H s₁ (fun _ _ _=>False) e s'->False) :
  codeAny (model P w) callerA (.call (.ref fa) ⟨[.ref a],[]⟩) (fun r s'=>r = .ok (.ret (.bool true))/\OldK s₁.heap s'.heap/\s'.os = s₁.os/\AllBare s'.gens) s₁:=by
 have rv:=zgZ hi
 have lenV:=hi.length
 -- from an abstract heap in which nothing but the script may be tracked
 have core:∀ H:Hp,zkB H->SqL K H a (ns.map V.int)->HOk P w H s₁.heap->(∀ b,H b ≠ none->b = a)->(H a ≠ none->K.lookup a = none)->
   codeAny (model P w) callerA (.call (.ref fa) ⟨[.ref a],[]⟩) (fun r s'=>r = .ok (.ret (.bool true))/\OldK s₁.heap s'.heap/\s'.os = s₁.os/\AllBare s'.gens) s₁:=by
  intro H hO hS hok hA hK
  have base_of:∀ {b:Addr} {o:Obj},s₁.heap.get? b = some o->H b = none->(zeb s₁.heap H).get? b = some o:=fun e n=>zmt e n
  have noA:∀ {b:Addr} {o:Obj} {es:Array DictEntry} {ep:Nat},s₁.heap.get? b = some o->o.data = .dict es ep->H b = none:=fun {b o es ep} e d=>by
   cases q:H b with
   | none=>rfl
   | some u=>
    have e':b = a:=hA b (by rw [q];simp)
    subst e'
    rw [ha] at e;cases e
    have d':Data.seq vs.toArray _ = Data.dict es ep:=d
    cases d'
  have nsK:∀ {b:Addr} {m:Str->Option Value},s₁.heap.Ns b m->(zeb s₁.heap H).Ns b m:=fun {b m} ⟨o,es,ep,e,d,r⟩=>⟨o,es,ep,base_of e (noA e d),d,r⟩
  have hKb:K.In (zeb s₁.heap H):=fun b o e=>base_of (KX b o e) (by
   cases q:H b with
   | none=>rfl
   | some u=>
    have e':b = a:=hA b (by rw [q];simp)
    subst e'
    rw [hK (by rw [q];simp)] at e;cases e)
  have hM:Mod K mg (zeb s₁.heap H):=⟨hKb,nsK hns,⟨mb,nsK hb,hbb⟩,let ⟨mc,h1,h2⟩:=hlim;⟨mc,nsK h1,h2⟩⟩
  have e0:Env0 P w K mg (zeb s₁.heap H) callerA [] s₁ H:=⟨rfl,hM,fun b o e=>znL e,Nat.le_of_eq (zlk _ _),trivial,fun b hb=>absurd (show b ∈ ([]:List Addr) from hb) (by simp),hok,.of_eq hg⟩
  refine codeAny_mono ((F _ hKb (nsK hns)).run callerA [] s₁ H ⟨[.ref a],[]⟩ [.ref a] [.ref a] _ _ hr e0 (hbind s₁ (.ref a)) (.cons rfl .nil) (hsp H hO hS)) fun r s' h=>?_
  cases r with
  | error e=>exact (hCX H e s' h).elim
  | ok fl=>
   cases fl with
   | next=>exact False.elim h
   | brk=>exact False.elim h
   | cont=>exact False.elim h
   | ret u=>
    obtain ⟨v,H',os,bare,un,hok',r',q⟩:=h
    have q':v = .bl true:=q
    subst q'
    obtain rfl:u = Value.bool true:=r'
    refine ⟨rfl,OldK.of_keep fun b o e=>?_,os,bare⟩
    cases q:H b with
    | none=>exact un.keep b o e q (by intro z;exact absurd (show b ∈ ([]:List Addr) from z) (by simp)) (by simp)
    | some u=>
     rcases hO b with z | ⟨ob,xs,z⟩
     ·rw [q] at z;cases z
     ·have z2:=un.frzs b ob _ z
      obtain ⟨e1,_⟩:=hok b _ z
      obtain ⟨e2,_⟩:=hok' b _ z2
      rw [e] at e1;cases e1
      exact e2
 cases hk:K.lookup a with
 | some o=>
  -- the script is one of the module's own objects
  have e:=KX a o hk
  rw [ha] at e
  cases e
  refine core (fun _=>none) (fun _=>.inl rfl) (.inr ⟨_,vs.toArray,_,hk,rfl,rfl,rfl,by rw [Qi,lenV];exact hl,by simpa using rv⟩) (fun b u z=>by have z':(none:Option HO) = some u:=z;cases z') (fun b z=>absurd rfl z) fun z=>absurd rfl z
 | none=>
  refine core (fun b=>if b = a then some (.frz { cls:=.type "list",data:=.seq vs.toArray } (.lst (ns.map V.int))) else none) (fun b=>?_) (.inl (.inr ⟨{ cls:=.type "list",data:=.seq vs.toArray },QA rfl⟩)) (fun b u z=>?_) (fun b z=>?_) fun _=>hk
  ·by_cases hb:b = a
   ·exact .inr ⟨_,_,QA hb⟩
   ·exact .inl (QB hb)
  ·by_cases hb:b = a
   ·have z':=(QA hb).symm.trans z
    cases z'
    subst hb
    exact ⟨ha,by rw [Qh];exact hl,vs,_,rv,ha⟩
   ·have z':=(QB hb).symm.trans z
    cases z'
  ·by_cases hb:b = a
   ·exact hb
   ·exact absurd (QB hb) z
noncomputable abbrev KOf {K:Frag} {h:Heap} (_:K.In h):Frag:=K
variable {XP:(Str->Option Value)->Heap->Prop} {d:DefRec} {loose:List Str} {n:Nat} {q:Program} {l:PySem.W.OpenLaw} {YP:World->Heap->Prop}
theorem zm7 {K:Params->Frag} {CX:World->CXT} {sp:World->Sp} 
 (hn:l.most = some n) (hn2:n<=sizeLine) (hdf:d.params.defaults = []) (hr:Room k callerA)
 (hY:∀ (w:World) (h:Heap),YP w h->(K w.params).In h)
 (F:∀ (w:World) (mg:Str->Option Value) (fa:Addr) (h:Heap),(K w.params).In h->h.Ns mainGlobals mg->mg d.name = some (.ref fa)->
 ∃ fd:FuncData,(∀ (s:Shared) (u:Value),BindsTo s fd ⟨[u],[]⟩ [(x,u)]) /\
 ∀ base:Heap,(K w.params).In base->base.Ns mainGlobals mg->FnOk l.prog w (K w.params) mg base (CX w) k fa fd [x] (sp w))
 (hsp:∀ (w:World) (H:Hp) (a:Addr) (ns:List Int),ns.length<=n->zkB H->SqL (K w.params) H a (ns.map V.int)->sp w [.ref a] H (fun v _=>v = .bl true) fun _ _ _=>False)
 (hCX:∀ (w:World) (H:Hp) (s:Shared) (e:Value) (s':Shared),CX w [] H s (fun _ _ _=>False) e s'->False) :
  PySem.W.WalkO q loose XP YP l.row.toRowW d [] (fun f vs=>PySem.call f vs):=by
 refine Att.zjg hn hdf fun w s₀ s₁ mg mb fa o pm cd doc a vs ns G Y ho hd hcd hmg hobj hints hlen hg=>?_
 have KX:=hY w _ Y
 obtain ⟨fd,hb,hF⟩:=F w mg fa _ KX G.T.g hmg
 exact zmm KX G.T.g G.T.b G.T.builtins G.T.nolimit hg hobj hints (Qj hlen hn2) hr hF hb (fun H hO hS=>hsp w H a ns hlen hO hS) fun H e s'=>hCX w H s₁ e s'
theorem zlU {K:Params->Frag} {sp:Frag->Sp} 
 (hn:l.most = some n) (hn2:n<=sizeLine) (hdf:d.params.defaults = []) (hr:Room k callerA)
 (hY:∀ (w:World) (h:Heap),YP w h->(K w.params).In h)
 (F:∀ (w:World) (mg:Str->Option Value) (fa:Addr) (h:Heap),(K w.params).In h->h.Ns mainGlobals mg->mg d.name = some (.ref fa)->
 ∃ fd:FuncData,(∀ (s:Shared) (u:Value),BindsTo s fd ⟨[u],[]⟩ [(x,u)]) /\
 ∀ base:Heap,(K w.params).In base->base.Ns mainGlobals mg->FnOk l.prog w (K w.params) mg base CX k fa fd [x] (sp (K w.params)))
 (hsp:∀ (K:Frag) (H:Hp) (a:Addr) (ns:List Int),ns.length<=n->zkB H->SqL K H a (ns.map V.int)->sp K [.ref a] H (fun v _=>v = .bl true) fun _ _ _=>False)
 (hCX:∀ (H:Hp) (s:Shared) (e:Value) (s':Shared),CX [] H s (fun _ _ _=>False) e s'->False) :
  PySem.W.WalkO q loose XP YP l.row.toRowW d [] (fun f vs=>PySem.call f vs):=
 zm7 (K:=K) (CX:=fun _=>CX) (sp:=fun w=>sp (K w.params)) hn hn2 hdf hr hY F (fun w H a ns h1 h2 h3=>hsp (K w.params) H a ns h1 h2 h3) fun _ H s e s'=>hCX H s e s'
noncomputable def inClass (s:Stmt) (j:Nat):Stmt:=match s with
 | .ClassDef _ _ _ body _ _ _ _ _ _ _=>body.getD j (.Pass ⟨0,0,0,0⟩)
 | _=>.Pass ⟨0,0,0,0⟩
noncomputable def zaM (s:Stmt):Arguments:=match s with
 | .FunctionDef _ a _ _ _ _ _ _ _ _=>a
 | _=>{ posonlyargs:=[],args:=[],vararg:=none,kwonlyargs:=[],kw_defaults:=[],kwarg:=none,defaults:=[] }
noncomputable def yI (s:Stmt):List Stmt:=match s with
 | .FunctionDef _ _ b _ _ _ _ _ _ _=>b
 | _=>[]
noncomputable def yf (s:Stmt):Scope:=match s with
 | .FunctionDef _ _ _ _ _ _ sc _ _ _=>sc
 | _=>{ kind:=.function,names:=[],isGenerator:=false,isCoroutine:=false }
noncomputable abbrev CX0:CXT:=fun _ _ _ _ _ _=>False
noncomputable abbrev E0:XK:=fun _ _ _=>False
variable {X:Cx}
theorem zmX:Passes CX0 X E0:=fun _ _ _ _ _ _ _ h=>h.elim
structure Fun (K:Frag) (x qual:Str) (st:Stmt) (f:Addr) (fd:FuncData):Prop where
 ex:∃ (oc:Value) (od:Option Addr) (kV doc pm:Value) (an:Option Addr) (cdv ct:Value) (osl:Array (Option Value)),
  fd = PySem.W.fnOf x qual (zaM st) (yI st) (yf st) .none kV doc pm an cdv ct/\K.lookup f = some ⟨oc,od,.func fd,osl⟩/\PySem.W.codeIn K cdv qual = true
 kp:PySem.W.keepIn K (.ref f) = true
variable {f:Addr} {ps:List Str} {st:Stmt} {qual:Str}
section
variable {base:Heap}
theorem Fun.ok {N:List Str} (F:Fun K x qual st f fd) (S:FnScope N ps (yf st)) (len:∀ vs H Q E,sp vs H Q E->vs.length = ps.length)
 (hbody:∀ (cdv:Value) (A:Around) (outer:List Env) (s:Shared) (H:Hp) (vs:List V) (Q:VK) (E:XK),Room k (A.deeper (envOfC qual (yf st) s.heap.objs.size f cdv))->sp vs H Q E->
 ∃ t,PSs (zcf CX0 P w K mg base N qual (yf st) f cdv A outer s H E).nox (yI st) t/\t { nx:=fun _ H'=>Q .non H',rt:=Q } (start N vs) H):FnOk P w K mg base CX0 (k + 1) f fd ps sp:=by
 obtain ⟨oc,od,kV,doc,pm,an,cdv,ct,osl,rfl,lk,hcd⟩:=F.ex
 refine zrG lk hcd S len fun A outer s H vs Q E hr hsp=>?_
 obtain ⟨t,h,q⟩:=hbody cdv A outer s H vs Q E hr hsp
 exact ⟨t,h.nox,q⟩
theorem Fun.binds (F:Fun K x qual st f fd)
 (h:∀ (kV doc pm:Value) (an:Option Addr) (cdv ct:Value) (us:List Value),us.length = ps.length->bindArgs (PySem.W.fnOf x qual (zaM st) (yI st) (yf st) .none kV doc pm an cdv ct) ⟨us,[]⟩ = pure (ps.zip us)):Binds K fd ps []:=by
 obtain ⟨oc,od,kV,doc,pm,an,cdv,ct,osl,rfl,lk,hcd⟩:=F.ex
 exact .all (h kV doc pm an cdv ct)
theorem ziC {oc:Value} {od an:Option Addr} {osl:Array (Option Value)} {kV doc pm cdv ct:Value} (l:K.lookup f = some ⟨oc,od,.func (PySem.W.fnOf x qual (zaM st) (yI st) (yf st) .none kV doc pm an cdv ct),osl⟩)
 (c:PySem.W.codeIn K cdv qual = true) (k:PySem.W.keepIn K (.ref f) = true):Fun K x qual st f (PySem.W.fnOf x qual (zaM st) (yI st) (yf st) .none kV doc pm an cdv ct):=⟨⟨oc,od,kV,doc,pm,an,cdv,ct,osl,rfl,l,c⟩,k⟩
end
section
theorem pv (i:Nat) {pos:Pos} (hN:X.N[i]? = some x:=by rfl) (hv:Vis X.env.scope x:=by first | exact Or.inl rfl | exact Or.inr (Or.inl rfl) | exact Or.inr (Or.inr rfl)) (hd:(x == ("__debug__":Str)) = false:=by decide)
 (hcd:(x == ("__classdict__":Str)) = false:=by decide):PE X (.Name x pos) (zj7 i):=zh2 hN hv hd hcd
end
end L2
set_option maxHeartbeats 4000000
namespace L2
open PySem PySem.Spec PyProof.Rows
variable {o:Option V} {y:V} {u:Value}
section
variable {κ:Type} [DecidableEq κ]
noncomputable def zar (kvs:List (κ × V)) (k:κ):Option V:=(kvs.find? fun kv=>decide (kv.1 = k)).map (·.2)
noncomputable def putK (kvs:List (κ × V)) (k:κ) (v:V):List (κ × V):=
 if (kvs.any fun kv=>decide (kv.1 = k)) = true then kvs.map (fun kv=>if kv.1 = k then (kv.1,v) else kv) else kvs ++ [(k,v)]
noncomputable def zsZ (kvs:List (κ × V)) (k:κ):List (κ × V):=kvs.filter fun kv=>decide (kv.1 ≠ k)
theorem zhF {p:κ × V} {r:List (κ × V)} {k:κ} (e:p.1 = k):zar (p :: r) k = some p.2:=by simp [zar,find?_cons,e]
theorem zhG {p:κ × V} {r:List (κ × V)} {k:κ} (e:¬ p.1 = k):zar (p :: r) k = zar r k:=by simp [zar,find?_cons,e]
theorem zhH (k:κ):∀ kvs:List (κ × V),(kvs.any fun kv=>decide (kv.1 = k)) = (zar kvs k).isSome
 | []=>rfl
 | p :: r=>by
  rw [any_cons]
  by_cases e:p.1 = k
  ·simp only [zhF e,Qw e,Bool.true_or,Option.isSome_some]
  ·rw [zhG e,Qx e,Bool.false_or];exact zhH k r
theorem zfi (kvs:List (κ × V)) (k:κ) (v:V):(putK kvs k v).length<=kvs.length + 1:=by
 unfold putK
 split
 ·rw [Qh];omega
 ·rw [Qn,Qp,length_nil];omega
theorem RelO.isSome_eq {u:Option Value} (r:RelO o u):o.isSome = u.isSome:=by
 cases o with
 | none=>cases u with
  | none=>rfl
  | some _=>exact (show False from r).elim
 | some _=>cases u with
  | none=>exact (show False from r).elim
  | some _=>rfl
theorem RelO.getD {u:Option Value} {d:V} {d':Value} (r:RelO o u) (rd:RelV d d'):RelV (o.getD d) (u.getD d'):=by
 cases o with
 | none=>cases u with
  | none=>exact rd
  | some _=>exact (show False from r).elim
 | some _=>cases u with
  | none=>exact (show False from r).elim
  | some _=>exact r
theorem KV.any {kvs:List (κ × V)} {vs:List (κ × Value)} (r:KV kvs vs) (k:κ):(kvs.any fun kv=>decide (kv.1 = k)) = vs.any fun kv=>decide (kv.1 = k):=by
 unfold KV at r
 induction r with
 | nil=>rfl
 | cons h t ih=>rw [any_cons,any_cons,ih,h.1]
theorem KV.repl {kvs:List (κ × V)} {vs:List (κ × Value)} (r:KV kvs vs) (k:κ) (ry:RelV y u) :
  KV (kvs.map fun kv=>if kv.1 = k then (kv.1,y) else kv) (vs.map fun kv=>if kv.1 = k then (kv.1,u) else kv):=by
 unfold KV at r ⊢
 induction r with
 | nil=>exact .nil
 | @cons p q ps qs h t ih=>
  rw [QG,QG]
  refine .cons ?_ ih
  obtain ⟨h1,h2⟩:=h
  by_cases e:p.1 = k
  ·rw [QA e,QA (h1.symm.trans e)];exact ⟨h1,ry⟩
  ·rw [QB e,QB (fun z=>e (h1.trans z))];exact ⟨h1,h2⟩
theorem KV.put {kvs:List (κ × V)} {vs:List (κ × Value)} (r:KV kvs vs) (k:κ) (ry:RelV y u):KV (putK kvs k y) (stored vs k u):=by
 unfold putK stored
 rw [r.any k]
 by_cases e:(vs.any fun kv=>decide (kv.1 = k)) = true
 ·rw [QA e,QA e];exact r.repl k ry
 ·rw [QB e,QB e];exact Paired.snoc r ⟨rfl,ry⟩
theorem KV.length {kvs:List (κ × V)} {vs:List (κ × Value)} (r:KV kvs vs):kvs.length = vs.length:=Paired.length r
end
variable {P:Program} {w:World}
theorem zmZ {k:Key} (r:RelV (kV k) u):(yO P w).is k u = true:=by
 cases k with
 | inl i=>obtain ⟨t,e⟩:=(show ∃ t,u = Value.int i t from r);subst e;exact zjb P w i t
 | inr x=>obtain ⟨t,e⟩:=(show ∃ t,u = Value.str x t from r);subst e;exact zja P w x t
theorem zeG {P:Program} {w:World}:∀ {ks:List Key} {us:List Value},Vals (ks.map kV) us->ItemsAre (yO P w) ks us
 | [],_,r=>by rw [map_nil] at r;cases r;exact .nil
 | k :: ks,_,r=>by
  rw [QG] at r
  cases r with
  | cons h t=>exact .cons (zmZ h) (zeG t)
noncomputable abbrev KT (H:Hp):List (List Key × V)->List (List Key × Addr × Value)->Prop:=Paired fun p q=>p.1 = q.1/\H q.2.1 = some (.tup (p.1.map kV))/\RelV p.2 q.2.2
variable {H:Hp} {xs:List (List Key × Addr × Value)} {kvs:List (List Key × V)}
theorem KT.val (r:KT H kvs xs) (k:List Key):RelO (zar kvs k) ((atKey xs k).map (·.2)):=by
 induction r with
 | nil=>exact True.intro
 | @cons p q ps qs h t ih=>
  obtain ⟨h1,_,h2⟩:=h
  by_cases e:p.1 = k
  ·have e':q.1 = k:=h1.symm.trans e
   have b:atKey (q :: qs) k = some q.2:=by simp [atKey,find?_cons,e']
   rw [zhF e,b];exact h2
  ·have e':¬ q.1 = k:=fun z=>e (h1.trans z)
   have b:atKey (q :: qs) k = atKey qs k:=by simp [atKey,find?_cons,e']
   rw [zhG e,b];exact ih
theorem KT.repl (r:KT H kvs xs) (k:List Key) (ry:RelV y u) :
  KT H (kvs.map fun kv=>if kv.1 = k then (kv.1,y) else kv) (xs.map (putAt k u)):=by
 induction r with
 | nil=>exact .nil
 | @cons p q ps qs h t ih=>
  rw [QG,QG]
  refine .cons ?_ ih
  obtain ⟨h1,h2,h3⟩:=h
  unfold putAt
  by_cases e:p.1 = k
  ·rw [QA e,QA (h1.symm.trans e)];exact ⟨h1,h2,ry⟩
  ·rw [QB e,QB (fun z=>e (h1.trans z))];exact ⟨h1,h2,h3⟩
theorem KT.put (r:KT H kvs xs) (k:List Key) {b:Addr} (hb:H b = some (.tup (k.map kV))) (ry:RelV y u) :
  KT H (putK kvs k y) (storedH xs k b u):=by
 have e:(kvs.any fun kv=>decide (kv.1 = k)) = (atKey xs k).isSome:=by
  rw [zhH,(r.val k).isSome_eq,Option.isSome_map]
 unfold putK storedH
 rw [e]
 by_cases q:(atKey xs k).isSome = true
 ·rw [QA q,QA q];exact r.repl k ry
 ·rw [QB q,QB q];exact Paired.snoc r ⟨rfl,hb,ry⟩
variable {H':Hp}
theorem KT.keeps (r:KT H kvs xs) (ht:∀ b ys,H b = some (.tup ys)->H' b = some (.tup ys)):KT H' kvs xs:=
 Paired.mapP r fun _ _ z=>⟨z.1,ht _ _ z.2.1,z.2.2⟩
variable {h:Heap}
section
variable {a:Addr}
theorem zmU {u:HO} (ok:HOk P w H h) (e:Rd H a u):ObjOk P w H h a u:=e.ok ok
theorem zrJ {kvs:List (Key × V)} (ok:HOk P w H h) (e:Rd H a (.dK kvs)):kvs.length<=sizeLine/\(a == sysModules) = false/\∃ vs,KV kvs vs/\h.DictOf (yO P w) a vs:=
 show ObjOk P w H h a (.dK kvs) from zmU ok e
theorem zrK {kvs:List (Key × V)} (ok:HOk P w H h) (e:H a = some (.dK kvs)):kvs.length<=sizeLine/\(a == sysModules) = false/\∃ vs,KV kvs vs/\h.DictOf (yO P w) a vs:=zrJ ok (.inl e)
theorem zlc {ks:List Key} (ok:HOk P w H h) (e:H a = some (.tup (ks.map kV))):(tupleKind (yO P w)).is h ks a:=by
 obtain ⟨_,its,r,⟨o,h1,h2,n,h3⟩,_⟩:=(show ObjOk P w H h a (.tup (ks.map kV)) from ok a _ e)
 exact ⟨o,its.toArray,n,h1,h2,h3,by simpa using zeG r⟩
theorem zrH (ok:HOk P w H h) (e:Rd H a (.dT kvs)):kvs.length<=sizeLine/\(a == sysModules) = false /\
  ∃ xs,KT H kvs xs/\h.DictOfH (tupleKind (yO P w)) a xs:=by
 obtain ⟨z,y,xs,r,o,es,ep,h1,h2,h3,h4,h5⟩:=(show ObjOk P w H h a (.dT kvs) from zmU ok e)
 refine ⟨z,y,xs,r,o,es,ep,h1,h2,h3,h4,fun x hx=>?_,h5⟩
 have all:∀ {l:List (List Key × V)} {m:List (List Key × Addr × Value)},KT H l m->∀ x ∈ m,(tupleKind (yO P w)).is h x.1 x.2.1:=by
  intro l m q
  induction q with
  | nil=>intro x hx;exact nomatch hx
  | @cons p q ps qs hq t ih=>
   intro x hx
   rcases QD.mp hx with e | hx
   ·subst e
    exact zlc ok (by rw [← hq.1];exact hq.2.1)
   ·exact ih x hx
 exact all r x hx
theorem zgg (ok:HOk P w H h) (e:H a = some (.dT kvs)):kvs.length<=sizeLine/\(a == sysModules) = false /\
  ∃ xs,KT H kvs xs/\h.DictOfH (tupleKind (yO P w)) a xs:=zrH ok (.inl e)
end
def DPut (H:Hp) (a:Addr) (y v:V) (H':Hp):Prop:=
 (∃ kvs k,H a = some (.dK kvs)/\y = kV k/\kvs.length < sizeLine/\H' = upd H a (.dK (putK kvs k v))) \/
 ∃ kvs k b,H a = some (.dT kvs)/\y = .ref b/\H b = some (.tup (k.map kV))/\kvs.length < sizeLine/\H' = upd H a (.dT (putK kvs k v))
variable {v:V}
theorem DPut.t {a b:Addr} {k:List Key} (e:H a = some (.dT kvs)) (eb:H b = some (.tup (k.map kV))) (hl:kvs.length < sizeLine) :
  DPut H a (.ref b) v (upd H a (.dT (putK kvs k v))):=.inr ⟨kvs,k,b,e,rfl,eb,hl,rfl⟩
variable {A:Around} {X:Cx} {h':Heap} {pins:List (Addr × Obj)} {s:Shared} {σ:St} {E:Value->Shared->Prop}
section
variable {a:Addr} {r:Value}
theorem Inv.big (I:Inv X pins σ H s):sysModules < s.heap.objs.size:=by
 have h:mainGlobals < s.heap.objs.size:=(I.mod.glob.keeps I.bk).lt
 exact Nat.lt_trans (by decide) h
theorem zjV {t':Nat} {ob:HO} (I:Inv X pins σ H s) (mu:Mut (H a)) (hs:Heap.SameBut a s.heap h') (he:∃ q,h'.get? a = some q) (new:ObjOk X.prog X.w (upd H a ob) h' a ob) :
  Inv X pins σ (upd H a ob) { s with heap:=h',toks:=t' }:=
 I.write (x:=a) (e:=a) mu (.inl rfl) (fun b q hb z=>(hs.2 b hb).trans z) he new
theorem zqx {kvs:List (Key × V)} {vs:List (Key × Value)} (z:kvs.length<=sizeLine) (hd:(a == sysModules) = false) (rel:KV kvs vs) (dd:h'.DictOf (yO P w) a vs) :
  ObjOk P w H' h' a (.dK kvs):=⟨z,hd,vs,rel,dd⟩
theorem zly {Q:Unit->Shared->Prop} (hu:A.units + 1 < cLine) (I:Inv X pins σ H s) (g:DPut H a y v H') (ry:RelV y u) (rv:RelV v r) (h:∀ s',Inv X pins σ H' s'->Q () s') :
  wpAny (model X.prog X.w) A (setItem (.ref a) u r) Q E s:=by
 rcases g with ⟨kvs,k,e,ey,l,eH⟩ | ⟨kvs,k,b,e,ey,eb,l,eH⟩
 ·subst ey eH
  obtain ⟨z,hd,vs,rel,dd⟩:=zrK I.hok e
  have hz:vs.length<=sizeLine:=by rw [← rel.length];exact z
  have hl:(putK kvs k v).length<=sizeLine:=by have:=zfi kvs k v;omega
  refine wpAny_setItem_pairs (hsz:=hz) (zmZ ry) dd fun h' dd' hs=>h _ ?_
  have he:∃ q,h'.get? a = some q:=let ⟨q,_,_,hq,_⟩:=dd';⟨q,hq⟩
  exact zjV I (by rw [e];exact True.intro) hs he (zqx hl hd (rel.put k rv) dd')
 ·subst ey eH
  cases (show u = Value.ref b from ry)
  obtain ⟨z,hd,xs,rel,dd⟩:=zgg I.hok e
  have hz:xs.length<=sizeLine:=by rw [← Paired.length rel];exact z
  have hl:(putK kvs k v).length<=sizeLine:=by have:=zfi kvs k v;omega
  refine wpAny_setItem_heap (hsz:=hz) (tupleKind_room_in1 hu) (zlc I.hok eb) dd fun h' dd' hs=>h _ ?_
  obtain ⟨q,es,ep,hq,h2,h3,h4,_,h5⟩:=dd'
  refine zjV I (by rw [e];exact True.intro) hs ⟨q,hq⟩ ⟨hl,hd,_,(rel.put k eb rv).keeps fun c ys ec=>?_,q,es,ep,hq,h2,h3,h4,h5⟩
  rw [zm (zeZ ec e (fun z=>nomatch z))]
  exact ec
end
theorem zmI (h:Heap) (hb:sysModules < h.objs.size):ObjOk P w H (h.push { cls:=.type "dict",data:=.dict #[] }) h.objs.size (.dT []):=
 ⟨Nat.zero_le _,beq_eq_false_iff_ne.mpr (Ne.symm (Qk hb)),[],.nil,_,#[],0,Ql _ rfl,⟨rfl,rfl,rfl⟩,rfl,rfl,List.nodup_nil⟩
noncomputable def zoI:TE:=fun _ H Q=>∀ p,H p = none->Q (.ref p) (upd H p (.dT []))
section
variable {pos:Pos}
theorem zmb:PE X (.Dict [] [] pos) zoI:=fun pins s σ H Q I h=>
 wpAny_Dict_empty ⟨.ref s.heap.objs.size,_,I.laid (a:=s.heap.objs.size) (o:=.dT []) (t':=s.toks) (fun _ _ q=>Q2 _ q) (Q3 _) (zmI s.heap I.big),rfl,h _ (I.hok.fresh (Q3 _))⟩
end
noncomputable def zk4 (kvs more:List (Key × V)):List (Key × V):=more.foldl (fun acc kv=>putK acc kv.1 kv.2) kvs
structure M1 (X:Cx) (o:Expr) (m:Str) (apos:Pos) (e:Expr) (cpos:Pos):Prop where
 base:attributeBase o m X.env (eval o X.env) = eval o X.env
 few:((backTo cpos (starEach [e] X.env)).all (fun x=>!x.1) && (backToKw cpos (keywordEach [] X.env)).all (fun x=>x.1.isSome)
  && decide (([e]:List Expr).length + ([]:List Keyword).length + (if ([]:List Keyword).isEmpty then 0 else 1) < 30)) = true
 line:(apos.endLine == cpos.line) = true
 trees:backTo cpos (starEach [e] X.env) = [(false,eval e X.env)]
structure M2 (X:Cx) (o:Expr) (m:Str) (apos:Pos) (e f:Expr) (cpos:Pos):Prop where
 base:attributeBase o m X.env (eval o X.env) = eval o X.env
 few:((backTo cpos (starEach [e,f] X.env)).all (fun x=>!x.1) && (backToKw cpos (keywordEach [] X.env)).all (fun x=>x.1.isSome)
  && decide (([e,f]:List Expr).length + ([]:List Keyword).length + (if ([]:List Keyword).isEmpty then 0 else 1) < 30)) = true
 line:(apos.endLine == cpos.line) = true
 trees:backTo cpos (starEach [e,f] X.env) = [(false,eval e X.env),(false,eval f X.env)]
def Bnd (n:Nat) (i:Int):Prop:=i.natAbs < 10 ^ n
instance (n:Nat) (i:Int):Decidable (Bnd n i):=inferInstanceAs (Decidable (i.natAbs < 10 ^ n))
variable {i j:Int} {n:Nat}
theorem Bnd.add (h:Bnd n i) (k:Bnd n j):Bnd (n + 1) (i + j):=by
 unfold Bnd at *
 have h1:=Int.natAbs_add_le i j
 rw [Nat.pow_succ]
 omega
theorem Bnd.neg (h:Bnd n i):Bnd n (-i):=by
 unfold Bnd at *
 rw [Int.natAbs_neg];exact h
theorem zjZ (h:Bnd n i) (hn:n<=3000):Builtin.Int.intBits i<=2 ^ 20:=by
 unfold Builtin.Int.intBits
 split
 ·exact Nat.zero_le _
 ·rename_i h0
  have h1:i.natAbs ≠ 0:=by
   intro z
   have:i = 0:=Int.natAbs_eq_zero.mp z
   subst this
   exact h0 rfl
  have h2:i.natAbs < 2 ^ (4 * n):=by
   have e:(2:Nat) ^ (4 * n) = 16 ^ n:=by rw [Nat.pow_mul]
   rw [e]
   exact Q5 h (Nat.pow_le_pow_left (by decide) n)
  have h3:i.natAbs.log2 < 4 * n:=(Nat.log2_lt h1).mpr h2
  have:(2:Nat) ^ 20 = 1048576:=by decide
  omega
def CMulB (i j:Int):Prop:=(∃ m n,Bnd m i/\Bnd n j/\m<=3000/\n<=3000)\/CMul i j
theorem CMulB.ok (h:CMulB i j):IntMulOk i j:=by
 rcases h with ⟨m,n,h1,h2,h3,h4⟩ | h
 ·exact IntMulOk.of_bits (zjZ h1 h3) (zjZ h2 h4)
 ·exact h.ok
section
theorem znG:OpR X (binaryOp .Mult) (rI CMulB fun i j=>.int (i * j)):=opI fun _ _ _ _ _ _ _ hc q=>mul_int q hc.ok
noncomputable def zq5 (K:Frag):R2:=fun x y H Q=>∃ l b xs zs,x = .ref l/\y = .ref b/\SqL K H l xs/\SqL K H b zs/\xs.length + zs.length<=sizeLine/\∀ p,H p = none->Q (.ref p) (upd H p (.lst (xs ++ zs)))
theorem zjA:OpR X (binaryOp .Add) (zq5 X.K):=by
 intro pins s σ H x y v u Q I rx ry h
 obtain ⟨l,b,xs,zs,rfl,rfl,hH,hB,hz,q⟩:=h
 cases rx
 cases ry
 obtain ⟨its,r,pl,z⟩:=I.list hH
 obtain ⟨its2,r2,pl2,z2⟩:=I.list hB
 obtain ⟨⟨cls,dd,data,sl⟩,n,ho,hc,hdi,hd⟩:=pl
 obtain ⟨⟨cls2,dd2,data2,sl2⟩,n2,ho2,hc2,hdi2,hd2⟩:=pl2
 simp only at hc hd hc2 hd2
 subst hc hd hc2 hd2
 have e1:=r.length
 have e2:=r2.length
 refine concat_meets ⟨_,ho,rfl⟩ ⟨_,ho2,rfl⟩ noFill_list_add seq_list_add PySem.F.slot_list_add PySem.F.entry_list_add (PySem.F.args_list_add_2 _ _) (list_addW l b its.toArray its2.toArray n n2 dd dd2 sl sl2 (by rw [Qi,Qi];omega)) ⟨ho,ho2,?_⟩
 have ea:its.toArray ++ its2.toArray = (its ++ its2).toArray:=by simp
 rw [ea]
 exact ⟨.ref _,_,I.lnew (t':=s.toks) (r.append r2) (by rw [Qn];omega),rfl,q _ I.fresh⟩
end
structure Df (K:Frag) (mg:Str->Option Value) (x:Str) (st:Stmt) (ps:List Str):Prop where
 ex:∃ (f:Addr) (fd:FuncData),Fun K x x st f fd/\Binds K fd ps []/\mg x = some (.ref f)
structure Cal (P:Program) (w:World) (K:Frag) (mg:Str->Option Value) (base:Heap) (k:Nat) (x:Str) (ps:List Str) (sp:Sp):Prop where
 ex:∃ (f:Addr) (fd:FuncData),FnOk P w K mg base CX0 k f fd ps sp/\PySem.W.keepIn K (.ref f) = true/\Binds K fd ps []/\mg x = some (.ref f)
variable {f:Addr} {sl:Array (Option Value)} {K:Frag} {ps:List Str} {k:Nat} {an od:Option Addr} {sp:Sp} {st:Stmt} {x:Str} {mg:Str->Option Value} {cd ct dc oc pm:Value}
section
variable {base:Heap}
theorem Df.ok {N:List Str} (D:Df K mg x st ps) (S:FnScope N ps (yf st)) (len:∀ vs H Q E,sp vs H Q E->vs.length = ps.length)
 (hbody:∀ (f:Addr) (cdv:Value) (A:Around) (outer:List Env) (s:Shared) (H:Hp) (vs:List V) (Q:VK) (E:XK),Room k (A.deeper (envOfC x (yf st) s.heap.objs.size f cdv))->sp vs H Q E->
 ∃ t,PSs (zcf CX0 P w K mg base N x (yf st) f cdv A outer s H E).nox (yI st) t/\t { nx:=fun _ H'=>Q .non H',rt:=Q } (start N vs) H):Cal P w K mg base (k + 1) x ps sp:=by
 obtain ⟨f,fd,F,b,g⟩:=D.ex
 exact ⟨⟨f,fd,F.ok S len (hbody f),F.kp,b,g⟩⟩
theorem zB (X:K.In h) (G:h.Ns mainGlobals mg) {kV:Value}
 (a:PySem.W.nsIn K mainGlobals x = some (some (.ref f)))
 (l:K.lookup f = some ⟨oc,od,.func (PySem.W.fnOf x x (zaM st) (yI st) (yf st) .none kV dc pm an cd ct),sl⟩) (c:PySem.W.codeIn K cd x = true) (k:PySem.W.keepIn K (.ref f) = true)
 (hb:∀ (kV doc pm:Value) (an:Option Addr) (cdv ct:Value) (us:List Value),us.length = ps.length->bindArgs (PySem.W.fnOf x x (zaM st) (yI st) (yf st) .none kV doc pm an cdv ct) ⟨us,[]⟩ = pure (ps.zip us)):Df K mg x st ps:=by
 have F:=ziC (st:=st) l c k
 exact ⟨⟨f,_,F,F.binds hb,PySem.W.mg_of X G a⟩⟩
end
section
theorem zpG (X:K.In h) (G:h.Ns mainGlobals mg) {kV:Value}
 (a:PySem.W.nsIn K mainGlobals "law" = some (some (.ref f)))
 (l:K.lookup f = some ⟨oc,od,.func (PySem.W.fnOf "law" "law" (zaM st) (yI st) (yf st) .none kV dc pm an cd ct),sl⟩) (c:PySem.W.codeIn K cd "law" = true) (k:PySem.W.keepIn K (.ref f) = true)
 (hb:∀ (kV dc pm:Value) (an:Option Addr) (cd ct:Value) (s:Shared) (u:Value),BindsTo s (PySem.W.fnOf "law" "law" (zaM st) (yI st) (yf st) .none kV dc pm an cd ct) ⟨[u],[]⟩ [("script",u)]) :
  ∃ (f:Addr) (fd:FuncData),Fun K "law" "law" st f fd/\mg "law" = some (.ref f)/\∀ (s:Shared) (u:Value),BindsTo s fd ⟨[u],[]⟩ [("script",u)]:=
 ⟨f,_,ziC (st:=st) l c k,PySem.W.mg_of X G a,fun s u=>hb _ _ _ _ _ _ s u⟩
end
section
variable {p pos:Pos} {e:Expr} {es:List Expr} {t:TA}
theorem zpg (C:Cal X.prog X.w X.K X.mg X.base k x ps sp) (hr:Room k X.A) (hg:Gl X x) (ha:PA X (e :: es) t) (hdb:(x == ("__debug__":Str)) = false:=by decide)
  (he:starEach (e :: es) X.env = (false,eval e X.env) :: starEach es X.env:=by rfl) (hpl:(backTo pos (starEach es X.env)).any (·.1) = false:=by rfl) :
  PE X (.Call (.Name x p) (e :: es) [] pos) (zmT sp [] E0 t):=by
 obtain ⟨f,fd,F,kp,b,g⟩:=C.ex
 exact znx F hr hg g kp b .nil zmX ha hdb he hpl
end
theorem Bnd.of (h1:-(10 ^ n:Int) < i) (h2:i < 10 ^ n):Bnd n i:=by
 unfold Bnd
 have:((10 ^ n:Nat):Int) = (10:Int) ^ n:=by simp
 omega
theorem Bnd.hi (h:Bnd n i):i < 10 ^ n:=by
 unfold Bnd at h
 have:((10 ^ n:Nat):Int) = (10:Int) ^ n:=by simp
 omega
theorem Bnd.lo (h:Bnd n i):-(10 ^ n:Int) < i:=by
 unfold Bnd at h
 have:((10 ^ n:Nat):Int) = (10:Int) ^ n:=by simp
 omega
theorem Bnd.gcd {a b:Int} (h:0 < b) (k:Bnd n b):Bnd n ((Int.gcd a b:Nat):Int):=by
 unfold Bnd at *
 have h1:((Int.gcd a b:Nat):Int) ∣ b:=Int.gcd_dvd_right ..
 have h2:((Int.gcd a b:Nat):Int)<=b:=Int.le_of_dvd h h1
 omega
noncomputable abbrev zdz:List Value:=[.type "ValueError",.type "Exception",.type "BaseException",.type "object"]
structure ExcAt (K:Frag) (mg:Str->Option Value) (x:Str) (C:Addr):Prop where
 bound:mg x = some (.ref C)
 obj:∀ h:Heap,K.In h->∃ bm N nm q bs hdct sn sub ab col dd k0 k1 k2 k3 k5 mN,h.get? C = some (excClassObj nm q C N bs bm hdct sn sub ab col dd k0 k1 k2 k3 k5 "ValueError.__new__")/\h.Ns N mN/\mN "__init__" = none/\OwnTail h zdz bm
theorem ObjOk.there {a:Addr} {o:HO} (x:ObjOk P w H h a o):∃ u,h.get? a = some u:=by
 cases o with
 | lst xs=>obtain ⟨_,_,_,_,e⟩:=x;exact ⟨_,e⟩
 | tup xs=>obtain ⟨_,_,_,⟨ob,e,_⟩,_⟩:=x;exact ⟨_,e⟩
 | dK kvs=>obtain ⟨_,_,_,_,o,_,_,e,_⟩:=x;exact ⟨_,e⟩
 | dT kvs=>obtain ⟨_,_,_,_,o,_,_,e,_⟩:=x;exact ⟨_,e⟩
 | set S n=>obtain ⟨o,_,_,_,e,_⟩:=x;exact ⟨_,e⟩
 | ins C dx fs=>obtain ⟨_,_,_,e,_⟩:=x;exact ⟨_,e⟩
 | own y=>obtain ⟨_,e⟩:=x;exact ⟨_,e⟩
 | xd fs=>obtain ⟨_,⟨_,_,_,e,_⟩,_⟩:=x;exact ⟨_,e⟩
 | rng lo hi=>obtain ⟨_,_,_,e⟩:=x;exact ⟨_,e⟩
 | frz ob u=>obtain ⟨e,_⟩:=x;exact ⟨_,e⟩
 | tbl ps=>exact ⟨_,(show h.get? a = some _ from x)⟩
 | met f y=>exact ⟨_,(show h.get? a = some _ from x)⟩
 | ext φ=>obtain ⟨_,⟨_,e⟩,_⟩:=x;exact ⟨_,e⟩
noncomputable def CXC (P:Program) (w:World) (C:Addr):CXT:=fun l H s E ev s'=>∃ (e t:Addr) (B:Heap) (H':Hp),ev = .ref e/\Heap.FlyingW B l e (.ref C) (.ref t) s'.heap/\s'.os = s.os/\AllBare s'.gens /\
 Un (frs l) [] H H' s.heap s'.heap/\HOk P w H' s'.heap/\(∀ b o,s'.heap.get? b = some o->b ∉ frs l->(H' b ≠ none\/∃ o',s.heap.get? b = some o')->B.get? b = some o)/\(∀ b ∈ frs l,H' b = none)/\E (.ref C) none H'
noncomputable abbrev Cx.suite (X:Cx) (ev:Addr):Cx:={ X with A:=X.A.mark (some (.ref ev)),calm:=false,xe:=fun _ _=>False }
section
variable {ev:Addr}
theorem Inv.unsuite (ok:X.Ok) (I:Inv (X.suite ev) pins σ H s):Inv X pins σ H s:=⟨ok,I.os,I.bare,I.base,I.loc,I.cell,I.free,I.freeC,I.pin,I.hok,I.len⟩
end
theorem zmG (x:V) (f:zaw x = true):eqV x x = true:=by
 cases x with
 | non=>rfl
 | bl b=>simp [eqV]
 | int i=>simp [eqV]
 | str z=>simp [eqV]
 | _=>exact absurd (show false = true from f) Q4
section
def CDivS (_ j:Int):Prop:=j ≠ 0/\∃ n,Bnd n j/\n<=2000
theorem CDivS.ok (h:CDivS i j):Builtin.divisionGoesByPylong i j = false:=by
 obtain ⟨h0,n,h1,h2⟩:=h
 refine PyProof.noPylong_of_log2 ?_
 have hz:j.natAbs ≠ 0:=by omega
 have e:(2:Nat) ^ (4 * n) = 16 ^ n:=by rw [Nat.pow_mul]
 have h3:j.natAbs < 2 ^ (4 * n):=by
  rw [e]
  exact Q5 h1 (Nat.pow_le_pow_left (by decide) n)
 have h4:j.natAbs.log2 < 4 * n:=(Nat.log2_lt hz).mpr h3
 omega
theorem zme:OpR X (binaryOp .FloorDiv) (rI CDivS fun i j=>.int (i.fdiv j)):=opI fun _ _ _ _ _ _ _ hc q=>floordiv_int hc.1 q (.inl hc.ok)
end
structure CalX (P:Program) (w:World) (K:Frag) (mg:Str->Option Value) (base:Heap) (C:Addr) (k:Nat) (x:Str) (ps:List Str) (sp:Sp):Prop where
 ex:∃ (f:Addr) (fd:FuncData),FnOk P w K mg base (CXC P w C) k f fd ps sp/\PySem.W.keepIn K (.ref f) = true/\Binds K fd ps []/\mg x = some (.ref f)
theorem zcW {name:Str} {acc:List (Str × Addr)} {c:Addr} (e:((name,n) :: acc).lookup x = some c):(x = name/\c = n)\/acc.lookup x = some c:=by
 rw [lookup_cons] at e
 split at e
 ·rename_i h;cases e;exact .inl ⟨eq_of_beq h,rfl⟩
 ·exact .inr e
theorem zgj:∀ (names:List (Str × NameKind)) (n:Nat) (acc:List (Str × Addr)),(∀ x y c,acc.lookup x = some c->acc.lookup y = some c->x = y)->(∀ x c,acc.lookup x = some c->c < n)->∀ x y c,(cellsFrom n names acc).lookup x = some c->(cellsFrom n names acc).lookup y = some c->x = y
 | [],_,_,h,_,x,y,c,e1,e2=>h x y c e1 e2
 | (name,kind) :: r,n,acc,h,lt,x,y,c,e1,e2=>by
  unfold cellsFrom at e1 e2
  split at e1
  ·rename_i hk
   rw [QA hk] at e2
   refine zgj r (n + 1) ((name,n) :: acc) (fun x y c f1 f2=>?_) (fun x c f=>?_) x y c e1 e2
   ·rcases zcW f1 with ⟨g1,g2⟩ | g1 <;> rcases zcW f2 with ⟨g3,g4⟩ | g3
    ·rw [g1,g3]
    ·subst g2;exact absurd (lt _ _ g3) (Qo _)
    ·subst g4;exact absurd (lt _ _ g1) (Qo _)
    ·exact h x y c g1 g3
   ·rcases zcW f with ⟨g1,g2⟩ | g1
    ·subst g2;exact Nat.lt_succ_self _
    ·exact Nat.lt_succ_of_lt (lt _ _ g1)
  ·rename_i hk
   rw [QB hk] at e2
   exact zgj r n acc h lt x y c e1 e2
theorem zhx {x:Str} {c:Addr}:∀ (names:List (Str × NameKind)) (n:Nat) (acc:List (Str × Addr)),(cellsFrom n names acc).lookup x = some c->acc.lookup x = some c\/n<=c
 | [],_,_,e=>.inl e
 | (name,kind) :: r,n,acc,e=>by
  unfold cellsFrom at e
  split at e
  ·rcases zhx r (n + 1) _ e with f | f
   ·rcases zcW f with ⟨_,g⟩ | g
    ·exact .inr (Nat.le_of_eq g.symm)
    ·exact .inl g
   ·exact .inr (by omega)
  ·exact zhx r n acc e
theorem zkx {x:Str} {c:Addr} {lo:Nat}:∀ (names:List (Str × NameKind)) (n:Nat) (acc:List (Str × Addr)),lo<=n->(∀ c,acc.lookup x = some c->lo<=c)->(cellsFrom n names acc).lookup x = some c->lo<=c
 | [],_,_,_,h,e=>h _ e
 | (name,kind) :: r,n,acc,hn,h,e=>by
  unfold cellsFrom at e
  split at e
  ·refine zkx r (n + 1) _ (Nat.le_succ_of_le hn) (fun c f=>?_) e
   rcases zcW f with ⟨_,g⟩ | g
   ·subst g;exact hn
   ·exact h _ g
  ·exact zkx r n acc hn h e
theorem zgh {x:Str} {c:Addr}:∀ (names:List (Str × NameKind)) (n:Nat) (acc:List (Str × Addr)),names.lookup x = some .cell->(cellsFrom n names acc).lookup x = some c->n<=c
 | [],_,_,h,_=>by cases h
 | (name,kind) :: r,n,acc,h,e=>by
  unfold cellsFrom at e
  rw [lookup_cons] at h
  split at h
  ·rename_i hx
   cases h
   rw [QA (show (NameKind.cell == NameKind.cell) = true from rfl)] at e
   refine zkx r (n + 1) _ (Nat.le_succ _) (fun c f=>?_) e
   rw [lookup_cons,hx] at f
   cases f;exact Q3 _
  ·split at e
   ·exact Nat.le_of_succ_le (zgh r (n + 1) _ h e)
   ·exact zgh r n acc h e
theorem zgi {x:Str}:∀ (names:List (Str × NameKind)) (n:Nat) (acc:List (Str × Addr)),(∀ y ∈ names,y.2 = .cell->y.1 ≠ x)->(cellsFrom n names acc).lookup x = acc.lookup x
 | [],_,_,_=>rfl
 | (name,kind) :: r,n,acc,h=>by
  unfold cellsFrom
  split
  ·rename_i hk
   rw [zgi r (n + 1) _ fun y hy=>h y (mem_cons_of_mem _ hy),lookup_cons]
   have:(x == name) = false:=by
    cases q:x == name with
    | false=>rfl
    | true=>exact absurd (eq_of_beq q).symm (h (name,kind) mem_cons_self (eq_of_beq hk))
   rw [this]
  ·exact zgi r n acc fun y hy=>h y (mem_cons_of_mem _ hy)
theorem zfb:∀ (names:List (Str × NameKind)) (h:Heap) (acc:List (Str × Addr)),(∀ x c,acc.lookup x = some c->∃ v,h.IsCell c v)->∀ x c,(cellsFrom h.objs.size names acc).lookup x = some c->∃ v,(pushCells h names).IsCell c v
 | [],_,_,k,x,c,e=>k x c e
 | (name,kind) :: r,h,acc,k,x,c,e=>by
  unfold cellsFrom at e
  unfold pushCells
  split at e
  ·rename_i hk
   rw [QA hk]
   refine zfb r (h.push { cls:=.type "cell",data:=.cell none }) ((name,h.objs.size) :: acc) (fun x c f=>?_) x c (by rw [Heap.size_push];exact e)
   rcases zcW f with ⟨_,g⟩ | g
   ·subst g;exact ⟨none,_,Ql _ rfl,rfl⟩
   ·obtain ⟨v,q⟩:=k x c g
    exact ⟨v,q.keeps fun b o e=>Q2 _ e⟩
  ·rename_i hk
   rw [QB hk]
   exact zfb r h acc k x c e
variable {cl:List (Str × Addr)} {scope:Scope}
theorem zaC {M:Model} {globals:Addr} {qual:Str} {env:Env} {builtins:Addr} {Q:Env->Shared->Prop}
 (hQ:∀ h',h'.Ns s.heap.objs.size (fun _=>none)->h' = pushCells (s.heap.push { cls:=.type "dict",data:=.dict #[] }) scope.names->
 Q (newEnv scope s.heap.objs.size globals (cellsFrom (s.heap.objs.size + 1) scope.names cl) qual none .none (some env) builtins) { s with heap:=h' }) :
  wpAny M A (newFunctionEnv scope globals cl [] qual none .none (some env) builtins) Q E s:=by
 simp only [newFunctionEnv,Option.isSome_some,if_true]
 refine Q1 (wpAny_alloc ?_)
 refine Q1 (wpAny_layCells _ (fun name kind cells=>by cases hkc:kind == NameKind.cell <;> simp [hkc]) _ _ _ _ ?_)
 rw [show ({ s with heap:=s.heap.push { cls:=.type "dict",data:=.dict #[] } }:Shared).heap.objs.size = s.heap.objs.size + 1 from Heap.size_push ..]
 refine Q1 ?_
 rw [List.forIn_nil]
 exact Qf (Qf (hQ _ ((Heap.Ns.new s.heap (.type "dict")).keeps (pushCells_keeps _ _)) rfl))
noncomputable def zfJ (scope:Scope) (cl:List (Str × Addr)) (C:Addr) (env:Env):Env:={ compEnvC scope cl C env with cells:=cellsFrom (C + 1) scope.names cl }
noncomputable def Cx.block (X:Cx) (scope:Scope) (cl:List (Str × Addr)) (N:List Str) (ex:List Addr) (s0:Shared) (H0:Hp):Cx where
 prog:=X.prog
 w:=X.w
 K:=X.K
 mg:=X.mg
 base:=X.base
 A:=X.A
 N:=N
 s₀:=s0
 H₀:=H0
 env:=zfJ scope cl s0.heap.objs.size X.env
 outer:=X.stack
 stack:=X.stack
 ex:=ex
 fn:=fun x=>scope.names.lookup x == some .cell
 calm:=X.calm
 pn:=[]
 xe:=fun _ _=>False
def PTs (X:Cx) (ifs:List Expr) (t:TT):Prop:=
 ∀ (pins:List (Addr × Obj)) (s:Shared) (σ:St) (H:Hp) (Q:Bool->Hp->Prop),Inv X pins σ H s->t σ H Q->
  wpAny (model X.prog X.w) X.A (forIn ifs true fun c r=>if r = true then do let ok ← isTrue c X.env (eval c X.env);pure (ForInStep.yield ok) else pure (ForInStep.yield r)) (TP X pins σ Q) X.xe s
noncomputable def zqL:TT:=fun _ H Q=>Q true H
theorem znl:PTs X [] zqL:=fun _ _ _ H _ I h=>wpAny_tests_nil ⟨H,I,h⟩
theorem znk {c:Expr} {t:TT} (h:PT X c t):PTs X [c] t:=fun pins s σ H Q I hq=>wpAny_tests_one (h pins s σ H Q I hq)
noncomputable def za3 (tgs:List Str) (caps:List (Str × Nat)) (σ:St):St:=tgs.map (fun _=>none) ++ caps.map fun c=>(σ[c.2]?).join
noncomputable def zhr (wi:TI) (g:TG) (tc:TT) (te:TE) (σ0:St->St):TE:=fun σ H Q=>wi σ H fun J H1=>∀ D,H1 D = none->∃ W:Nat->Nat->St->Hp->Prop,(∃ m,W 0 m (σ0 σ) (upd H1 D (.lst [])))/\∀ i m σ' H',W i m σ' H'->
 (J.stop i H'/\Q (.ref D) H')\/(J.go i H'/\∃ N:St->Hp->Prop,(∀ σ'' H'',N σ'' H''->∃ m',m' < m/\W (i + 1) m' σ'' H'')/\∀ x H2,J.yld i H' x H2->g x σ' H2 fun σ2 H3=>tc σ2 H3 fun b H4=>
  if b = true then te σ2 H4 fun v H5=>∃ ys,H5 D = some (.lst ys)/\ys.length < sizeLine/\N σ2 (upd H5 D (.lst (ys ++ [v]))) else N σ2 H4)
variable {elt iter:Expr} {ifs:List Expr}
theorem zbV {prog:Program} {R:Result->Shared->Prop} {target:Expr} {pos:Pos} {it acc:Value} {env:Env} (I:Nat->Shared->Prop)
 (turn:∀ n s,I n s->wpAny (model prog w) A (pyNext it) (fun r s₁=>match r with
 | none=>R (.ok .next) s₁
 | some v=>wpAny (model prog w) A (letOwnedTupleGo target it v) (fun _ s₁'=>wpAny (model prog w) A (assign target env v) (fun _ s₂=>
 wpAny (model prog w) A (forIn ifs true fun c r=>if r = true then do let ok ← isTrue c env (eval c env);pure (ForInStep.yield ok) else pure (ForInStep.yield r)) (fun ok s₃=>
 if ok = true then wpAny (model prog w) A (eval elt env) (fun x s₄=>
 wpAny (model prog w) A (call (.builtin "list.append") [acc,x]) (fun _ s₅=>∃ m,m < n/\I m s₅) (notedBy (model prog w) A env fun e s'=>R (.error e) s') s₄) (notedBy (model prog w) A env fun e s'=>R (.error e) s') s₃
 else ∃ m,m < n/\I m s₃) (notedBy (model prog w) A env fun e s'=>R (.error e) s') s₂) (notedBy (model prog w) A env fun e s'=>R (.error e) s') s₁') (notedBy (model prog w) A env fun e s'=>R (.error e) s') s₁) (notedBy (model prog w) A env fun e s'=>R (.error e) s') s)
 (n:Nat) (h:I n s):codeAny (model prog w) A (.compLoop (.ListComp elt [⟨target,iter,ifs,0⟩] scope pos) 0 it acc env) R s:=by
 refine codeAny_loop rfl I (fun n s hI=>?_) n h
 show wpAny _ A ((compTurn (.ListComp elt [⟨target,iter,ifs,0⟩] scope pos) 0 it acc env).onRaise (fun x=>do noteFrame x env;theTreesLotGoes x)) _ _ s
 refine wpAny_noted ?_
 rw [compTurn_list]
 refine Q1 (wpAny_standAt (Q1 (Qg (turn n s hI) (fun r s₁ h₁=>?_) fun _ _ h'=>h')))
 cases r with
 | none=>exact Qf h₁
 | some v=>
  refine Q1 (Qg h₁ (fun _ s₁' h₁'=>?_) fun _ _ h'=>h')
  refine Q1 (Qg h₁' (fun _ s₂ h₂=>Q1 (Qg h₂ (fun ok s₃ h₃=>?_) fun _ _ h'=>h')) fun _ _ h'=>h')
  cases ok with
  | false=>exact Qf ⟨rfl,h₃⟩
  | true=>
   exact Q1 (Q1 (Qg h₃ (fun x s₄ h₄=>Q1 (Qg h₄ (fun _ s₅ h₅=>Qf (Qf ⟨rfl,h₅⟩)) fun _ _ h'=>h')) fun _ _ h'=>h'))
variable {tg:Expr} {wi:TI}
section
theorem zjy {pos:Pos} {tgs:List Str} {caps:List (Str × Nat)} {g:TG} {tc:TT} {te:TE}
 (hc:X.calm = true) (hi:PI X tg iter wi) (hclos:closureFor scope X.env = pure cl) (hcell:∀ y ∈ scope.names,y.2 = .cell->y.1 ∉ caps.map (·.1)) (hkind:scope.kind = .function)
 (hnames:∀ y ∈ scope.names,y.2 = .local->scope.names.lookup y.1 = some .local)
 (hcl:∀ y c,cl.lookup y = some c->X.env.cells.lookup y = some c)
 (hhas:∀ n y,((relabel scope X.env).names.lookup y = some .cell\/(relabel scope X.env).names.lookup y = some .free)->∃ c,(cellsFrom n scope.names cl).lookup y = some c)
 (hcap:∀ c ∈ caps,X.N[c.2]? = some c.1/\X.env.kindOf c.1 = some .cell/\((relabel scope X.env).names.lookup c.1 = some .cell\/(relabel scope X.env).names.lookup c.1 = some .free))
 (hg:∀ ex s0 H0,PG (X.block scope cl (tgs ++ caps.map (·.1)) ex s0 H0) tg g) (hif:∀ ex s0 H0,PTs (X.block scope cl (tgs ++ caps.map (·.1)) ex s0 H0) ifs tc) (hel:∀ ex s0 H0,PE (X.block scope cl (tgs ++ caps.map (·.1)) ex s0 H0) elt te)
 (hs:∀ x,foldedSetIterable iter X.env x = pure x:=by intro _;rfl) :
  PE X (.ListComp elt [⟨tg,iter,ifs,0⟩] scope pos) (zhr wi g tc te (za3 tgs caps)):=by
 intro pins s σ H Q I h
 rw [eval_ListComp]
 refine wpAny_comprehension_free (use:=none) rfl hs hclos hkind hnames (thn (hi pins s σ H _ I h) fun v s1 h1=>thn h1 fun itv s2 h2=>?_)
 obtain ⟨it,fp,tn,J,H2,e,I2,T,st2,f2,hrest⟩:=h2
 subst e
 -- the new list
 have hD:H2 s2.heap.objs.size = none:=I2.fresh
 obtain ⟨W,⟨m0,w0⟩,turn⟩:=hrest _ hD
 refine Qt ?_ (by show 0<=sizeLine;decide)
 have I3:Inv X pins σ (upd H2 s2.heap.objs.size (.lst [])) { s2 with heap:=s2.heap.push { cls:=.type "list",data:=.seq ([]:List Value).toArray } }:=I2.lnew (t':=s2.toks) (ys:=[]) (its:=[]) .nil (by show 0<=sizeLine;decide)
 generalize hs3:({ s2 with heap:=s2.heap.push { cls:=.type "list",data:=.seq ([]:List Value).toArray } }:Shared) = s3 at I3
 have lt2:∀ b o,s2.heap.get? b = some o->s3.heap.get? b = some o:=fun b o e=>by rw [← hs3];exact Q2 _ e
 have sz3:s2.heap.objs.size < s3.heap.objs.size:=by rw [← hs3];show _ < (s2.heap.push _).objs.size;rw [Heap.size_push];exact Nat.lt_succ_self _
 have st3:tn 0 s3.heap:=T.keep 0 _ _ st2 fun b _ o e=>lt2 b o e
 have fplt:∀ b ∈ fp,b < s2.heap.objs.size:=fun b hb=>by
  obtain ⟨o,e,_⟩:=T.obj 0 _ st2 b hb
  exact Qe e
 generalize hH3:upd H2 s2.heap.objs.size (.lst []) = H3 at I3 w0
 have fr3:∀ b ∈ fp,H3 b = none:=fun b hb=>by rw [← hH3,zm (Qk (fplt b hb))];exact (f2 b hb).1
 have nstk:∀ b ∈ fp,b ∉ frs X.stack:=fun b hb z=>by
  obtain ⟨_,n1,n2,_⟩:=f2 b hb
  rcases QD.mp (I2.stkSub b z) with z | z
  ·exact n1 z
  ·exact n2 z
 refine zaC fun h4 ns4 sb4=>?_
 have keep4:∀ b o,s3.heap.get? b = some o->h4.get? b = some o:=fun b o e=>by rw [sb4];exact pushCells_keeps _ _ b o (Q2 _ e)
 have clt:∀ x c,cl.lookup x = some c->c < s3.heap.objs.size:=fun x c e=>by
  obtain ⟨v,q⟩:=I3.cell x c (hcl x c e)
  exact q.lt
 have cor:∀ x c,(cellsFrom (s3.heap.objs.size + 1) scope.names cl).lookup x = some c->cl.lookup x = some c\/s3.heap.objs.size + 1<=c:=fun x c e=>zhx _ _ _ e
 have cne:∀ b ∈ fp,∀ x c,(cellsFrom (s3.heap.objs.size + 1) scope.names cl).lookup x = some c->c ≠ b:=fun b hb x c e=>by
  rcases cor x c e with e | e
  ·exact (f2 b hb).2.2.2.2.1 x c (hcl x c e)
  ·exact Nat.ne_of_gt (Q5 (Nat.lt_trans (fplt b hb) sz3) (Nat.le_of_succ_le e))
 have neC:∀ b ∈ fp,b ≠ s3.heap.objs.size:=fun b hb=>Qk (Nat.lt_trans (fplt b hb) sz3)
 have ok':(X.block scope cl (tgs ++ caps.map (·.1)) fp s3 H3).Ok:=
  ⟨I.ok.mod,hkind,I.ok.glob,I.ok.blt,Q3 _,zgj _ _ _ (fun x y c e1 e2=>I.ok.inj x y c (hcl x c e1) (hcl y c e2)) (fun x c e=>Nat.lt_succ_of_lt (clt x c e)),hhas _,(fun x c z e=>Nat.le_of_succ_le (zgh _ _ _ (eq_of_beq z) e)),I.ok.hd,I.ok.frames,.inl rfl,
   fun b hb=>⟨neC b hb,cne b hb⟩,I3.bs,Qj I.ok.bsz I3.sz,fun b o e hb=>by
    rcases (f2 b hb).2.2.2.1 with z | z
    ·exact I.ok.noex b o e z
    ·exact absurd (Q5 (Qe e) (Qj I.ok.bsz z)) (Qo _),
   nstk,I3.stack,I3.stkFree⟩
 have I4:Inv (X.block scope cl (tgs ++ caps.map (·.1)) fp s3 H3) [] (za3 tgs caps σ) H3 { s3 with heap:=h4 }:=by
  refine ⟨ok',rfl,I3.bare,Un.kept keep4,⟨_,ns4,fun i x v e1 e2 e3=>?_⟩,fun x c e=>?_,I3.hok.fresh (Q3 _),fun x c e=>(cor x c e).elim (fun e=>I3.freeC x c (hcl x c e)) (fun e=>I3.hok.fresh (Nat.le_of_succ_le e)),fun p hp=>by simp [Cx.block] at hp,I3.hok.kept keep4,by simp [za3,Cx.block]⟩
  ·-- a captured name
   have hlen:(tgs.map (fun _=>(none:Option V))).length = tgs.length:=by simp
   by_cases hi:i < tgs.length
   ·have:(za3 tgs caps σ)[i]? = some none:=by
     unfold za3
     rw [Q6 (by simpa using hi)]
     simp [hi]
    rw [this] at e2
    cases e2
   ·have e1':(tgs ++ caps.map (·.1))[i]? = some x:=e1
    rw [Q8 (by omega),Qb] at e1'
    have e2':=e2
    unfold za3 at e2'
    rw [Q8 (by simpa using hi),hlen,Qb] at e2'
    cases hcq:caps[i - tgs.length]? with
    | none=>rw [hcq] at e1';cases e1'
    | some cq=>
     rw [hcq] at e1' e2'
     have ex:cq.1 = x:=Qd e1'
     have ev:(σ[cq.2]?).join = some v:=Qd e2'
     obtain ⟨c1,c2,c3⟩:=hcap cq (Qa hcq)
     have ev':σ[cq.2]? = some (some v):=by
      cases q:σ[cq.2]? with
      | none=>rw [q] at ev;cases ev
      | some o=>rw [q] at ev;cases o with
       | none=>cases ev
       | some v'=>rw [show v' = v from Qd ev]
     obtain ⟨m,hn,hl⟩:=I3.loc
     obtain ⟨u,r,lk⟩:=hl cq.2 cq.1 v c1 ev' (.inr (.inl c2))
     rcases lk with ⟨k1,_⟩ | ⟨_,c,ec,icl⟩
     ·rw [c2] at k1;cases k1
     ·obtain ⟨c',ec'⟩:=hhas (s3.heap.objs.size + 1) cq.1 c3
      have ec2:=ec'
      rw [zgi _ _ _ fun y hy hk hyx=>hcell y hy hk (by rw [hyx];exact List.mem_map_of_mem (Qa hcq))] at ec2
      have:=hcl _ _ ec2
      rw [ec] at this
      cases this
      refine ⟨u,r,.inr ⟨?_,c,?_,?_⟩⟩
      ·rw [← ex];exact c3
      ·rw [← ex];exact ec'
      ·obtain ⟨o,ho,hd⟩:=icl
       exact ⟨o,keep4 _ _ ho,hd⟩
  ·show ∃ v,h4.IsCell c v
   rw [sb4]
   refine zfb scope.names _ cl (fun x c f=>?_) x c (by rw [Heap.size_push];exact e)
   obtain ⟨v,o,ho,hd⟩:=I3.cell x c (hcl x c f)
   exact ⟨v,o,Q2 _ ho,hd⟩
 have stat:∀ {H':Hp},(∀ b ∈ fp,H' b = none)->∀ b ∈ fp,zeR (X.block scope cl (tgs ++ caps.map (·.1)) fp s3 H3) [] H' b:=fun hn b hb=>
  ⟨hn b hb,neC b hb,nstk b hb,.inl hb,cne b hb,fun p hp=>by simp [Cx.block] at hp⟩
 have st4:tn 0 h4:=T.keep 0 _ _ st3 fun b _ o e=>keep4 b o e
 have loop:codeAny (model X.prog X.w) X.A (.compLoop (.ListComp elt [⟨tg,iter,ifs,0⟩] scope pos) 0 (.ref it) (.ref s2.heap.objs.size) (zfJ scope cl s3.heap.objs.size X.env))
   (compPost (model X.prog X.w) X.A X.xe none (EP X pins σ Q) (.ref s2.heap.objs.size) s3.heap.objs.size) { s3 with heap:=h4 }:=by
  refine zbV (fun n s'=>∃ i σ' H',Inv (X.block scope cl (tgs ++ caps.map (·.1)) fp s3 H3) [] σ' H' s'/\tn i s'.heap/\(∀ b ∈ fp,H' b = none)/\W i n σ' H') ?_ m0 ⟨0,_,H3,I4,st4,fr3,w0⟩
  rintro n s5 ⟨i,σ5,H5,I5,st5,fr5,w5⟩
  rcases turn i n σ5 H5 w5 with ⟨stop,qn⟩ | ⟨go,N,hN,step⟩
  ·refine Qg (T.done (X.block scope cl (tgs ++ caps.map (·.1)) fp s3 H3) rfl rfl rfl hc i [] s5 σ5 H5 (fun _ _=>False) I5 (stat fr5) st5 stop) (fun r s6 ⟨hr,I6⟩=>?_) fun _ _ z=>False.elim z
   subst hr
   obtain ⟨m6,hn6,_⟩:=I6.loc
   refine ⟨m6,hn6,fun h' sb=>?_⟩
   have nb:∀ b o,s3.heap.get? b = some o->b ≠ s3.heap.objs.size:=fun b o e=>Qk (Qe e)
   have eqb:∀ b,b ≠ s3.heap.objs.size->h'.get? b = s6.heap.get? b:=fun b hb=>sb.2 b hb
   have uX:Un (frs X.stack) fp H3 H5 s3.heap h':=by
    have u:=I6.base
    refine ⟨fun b o e a1 a2 a3=>?_,fun b o e a1 a2 a3=>?_,u.free,fun b o e a3=>?_,u.tups,u.frzs,u.tbls⟩
    ·rw [eqb b (nb b o e)];exact u.keep b o e a1 a2 a3
    ·rw [eqb b (nb b o e)];exact u.slot b o e a1 a2 a3
    ·rw [eqb b (nb b o e)];exact u.there b o e a3
   have hokX:HOk X.prog X.w H5 h':=fun a o e=>(I6.hok a o e).stay (fun b u hb eu=>by
    have hbC:b ≠ s3.heap.objs.size:=fun z=>by
     have hfC:H5 s3.heap.objs.size = none:=I6.free
     rcases hb with rfl | hb
     ·rw [z,hfC] at e;cases e
     ·rw [z,hfC] at hb;cases hb
    rw [eqb b hbC];exact eu) (fun _ q=>q) fun _ _ q=>q
   have os6:s6.os = s3.os:=I6.os
   exact ⟨.ref s2.heap.objs.size,H5,I3.call' (s':={ s6 with heap:=h' }) (ch:=fp) os6 uX hokX I6.bare (fun b hb=>⟨(f2 b hb).2.2.2.1,(f2 b hb).2.1,(f2 b hb).2.2.2.2.1,(f2 b hb).2.2.2.2.2⟩),rfl,qn⟩
  ·refine Qg (T.item (X.block scope cl (tgs ++ caps.map (·.1)) fp s3 H3) rfl rfl rfl hc i [] s5 σ5 H5 (fun _ _=>False) I5 (stat fr5) st5 go) (fun r s6 ⟨u,hr,h6⟩=>?_) fun _ _ z=>False.elim z
   subst hr
   refine Qg h6 (fun _ s7 ⟨x,H7,I7,r7,y7,st7,fr7⟩=>?_) fun _ _ z=>False.elim z
   have I7':=I7.pinned (stat fr7) (T.obj _ _ st7)
   have again:∀ {s9:Shared} {σ9:St} {H9:Hp},Inv (X.block scope cl (tgs ++ caps.map (·.1)) fp s3 H3) ([] ++ zdH fp s7.heap) σ9 H9 s9->N σ9 H9->
     ∃ m,m < n/\∃ i σ' H',Inv (X.block scope cl (tgs ++ caps.map (·.1)) fp s3 H3) [] σ' H' s9/\tn i s9.heap/\(∀ b ∈ fp,H' b = none)/\W i m σ' H':=fun {s9 σ9 H9} I9 n9=>by
    obtain ⟨m',hm,w9⟩:=hN σ9 H9 n9
    refine ⟨m',hm,i + 1,σ9,H9,I9.unpinned,T.keep _ _ _ st7 fun b hb o e=>(I9.pin (b,o) (Qm _ (Qm _ (zbb hb e)))).1,fun b hb=>?_,w9⟩
    obtain ⟨o,e,d⟩:=T.obj _ _ st7 b hb
    exact (I9.pin (b,o) (Qm _ (Qm _ (zbb hb e)))).2.1
   refine Qg (hg fp s3 H3 _ s7 σ5 H7 x u _ I7' r7 (step x H7 y7)) (fun _ s8 ⟨σ8,H8,I8,q8⟩=>?_) fun _ _ z=>False.elim z
   refine Qg (hif fp s3 H3 _ s8 σ8 H8 _ I8 q8) (fun b s9 ⟨H9,I9,q9⟩=>?_) fun _ _ z=>False.elim z
   cases b with
   | false=>
    rw [QB Q4] at q9
    rw [QB Q4]
    exact again I9 q9
   | true=>
    rw [QA rfl] at q9
    rw [QA rfl]
    refine Qg (hel fp s3 H3 _ s9 σ8 H9 _ I9 q9) (fun xv s10 ⟨v,H10,I10,rv,ys,hy,hl,q10⟩=>?_) fun _ _ z=>False.elim z
    refine Qg (qK (X:=X.block scope cl (tgs ++ caps.map (·.1)) fp s3 H3) _ s10 σ8 H10 (.ref s2.heap.objs.size) [v] (.ref s2.heap.objs.size) [xv] (fun _ H11=>N σ8 H11) I10 rfl (.cons rv .nil) ⟨_,ys,v,rfl,rfl,hy,hl,q10⟩) (fun _ s11 ⟨_,H11,I11,_,q11⟩=>again I11 q11) fun _ _ z=>False.elim z
 exact codeAny_compStart_list loop (T.self _ 0 _ _ _ st4 loop)
end
noncomputable def Each {α:Type} (P:α->Prop):List α->Prop
 | []=>True
 | a :: l=>P a/\Each P l
theorem Each.of {α:Type} {P:α->Prop}:∀ {l:List α},Each P l->∀ a ∈ l,P a
 | _ :: _,⟨h,_⟩,_,.head _=>h
 | _ :: _,⟨_,h⟩,_,.tail _ m=>Each.of h _ m
variable {l:List (Str × NameKind)}
theorem lookup_mem {y:Str} {k:NameKind} (h:l.lookup y = some k):(y,k) ∈ l:=by
 induction l with
 | nil=>cases h
 | cons p l ih=>
  obtain ⟨n,k'⟩:=p
  rw [lookup_cons] at h
  cases e:y == n with
  | true=>
   rw [e] at h
   cases h
   rw [eq_of_beq e]
   exact .head _
  | false=>
   rw [e] at h
   exact .tail _ (ih h)
theorem zpY (h:Each (fun p=>(p.2 = .cell\/p.2 = .free)->∃ c,cl.lookup p.1 = some c) l) (y:Str) (q:l.lookup y = some .cell\/l.lookup y = some .free):∃ c,cl.lookup y = some c:=by
 rcases q with q | q
 ·exact h.of _ (lookup_mem q) (.inl rfl)
 ·exact h.of _ (lookup_mem q) (.inr rfl)
theorem PI.or {wi':TI} (h:PI X tg iter wi) (h':PI X tg iter wi'):PI X tg iter (fun σ H R=>wi σ H R\/wi' σ H R):=fun pins s σ H R I q=>q.elim (h pins s σ H R I) (h' pins s σ H R I)
theorem zos {bs:List Bool} {its:List Value} (r:Vals (bs.map V.bl) its) {i:Nat} {v:Value} (e:its[i]? = some v):∃ b,bs[i]? = some b/\v = .bool b:=by
 have hl:=r.length
 rw [Qh] at hl
 have hi:i < its.length:=(Qz.mp e).1
 have eb:bs[i]? = some bs[i]:=by simp [show i < bs.length by omega]
 have em:(bs.map V.bl)[i]? = some (V.bl bs[i]):=by rw [Qb,eb];rfl
 obtain ⟨u,e2,q⟩:=Vals.get r em
 rw [e] at e2
 cases e2
 exact ⟨_,eb,q⟩
theorem range_all (bs:List Bool):(List.range bs.length).all (fun i=>bs.getD i false) = bs.all id:=by
 rw [Bool.eq_iff_iff,all_eq_true,all_eq_true]
 constructor
 ·intro h b hb
  obtain ⟨i,hi,rfl⟩:=getElem_of_mem hb
  have:=h i (mem_range.mpr hi)
  simpa [List.getD,hi] using this
 ·intro h i hi
  have hi':=mem_range.mp hi
  have:=h bs[i] (getElem_mem hi')
  simpa [List.getD,hi'] using this
section
theorem zlJ (hc:X.calm = true):CallR X (.builtin "all") (fun xs H Q=>∃ (p:Addr) (bs:List Bool),xs = [.ref p]/\SqL X.K H p (bs.map V.bl)/\Q (.bl (bs.all id)) H):=by
 intro pins s σ H xs us Q I r h
 obtain ⟨p,bs,rfl,hq,q⟩:=h
 obtain ⟨u,rfl,rx⟩:=vals1 r
 cases rx
 obtain ⟨its,r',pl,hz⟩:=I.list hq
 have hlen:=r'.length
 rw [Qh] at hlen
 refine call_all_walk (wpAny_pyIter_list pl.isList ?_)
 have hlt:p < s.heap.objs.size:=by
  obtain ⟨o,n,ho,_⟩:=pl
  exact Qe ho
 refine ⟨s.heap.objs.size,_,_,_,_,_,fun i=>bs.getD i false,rfl,Walks.list (by exact I.ok.hd hc) _ p (Qk hlt) its.toArray,⟨⟨_,Ql _ rfl,rfl,rfl⟩,?_⟩,?_,fun h' tk hk=>?_⟩
 ·obtain ⟨o,ho,c⟩:=pl.isList
  exact ⟨o,Q2 _ ho,c⟩
 ·intro i v s' Q' E' e hq'
  obtain ⟨b,eb,rfl⟩:=zos r' (show its[i]? = some v by simpa using e)
  have:bs.getD i false = b:=by simp [List.getD,eb]
  have hq2:Q' (bs.getD i false) s':=hq'
  rw [this] at hq2
  exact wpAny_truthy_bool hq2
 ·have e:(List.range its.toArray.size).all (fun i=>bs.getD i false) = bs.all id:=by
   rw [← range_all bs,show its.toArray.size = bs.length by simp [hlen]]
  rw [e]
  refine ⟨.bl (bs.all id),H,I.kept (t':=tk) (fun b o eb=>hk b o (fun z=>?_) (Q2 _ eb)),rfl,q⟩
  have z':b = s.heap.objs.size:=by simpa using z
  exact absurd (Qe eb) (by rw [z'];exact Qo _)
end
section
noncomputable def zq6 (K:Frag):R2:=fun x y H Q=>∃ a b xs ys,x = .ref a/\y = .ref b/\SqT K H a xs/\SqT K H b ys/\xs.length + ys.length<=sizeLine /\
 (xs = []->Q (.ref b) H)/\(xs ≠ []->ys = []->Q (.ref a) H)/\(xs ≠ []->ys ≠ []->∀ p,H p = none->Q (.ref p) (upd H p (.tup (xs ++ ys))))
theorem znK:OpR X (binaryOp .Add) (zq6 X.K):=by
 intro pins s σ H x y v u Q I rx ry h
 obtain ⟨a,b,xs,ys,rfl,rfl,ha,hb,hz,q0,q1,q2⟩:=h
 by_cases hx:xs = []
 ·cases rx
  cases ry
  obtain ⟨its,r1,p1,_⟩:=I.tuple ha
  obtain ⟨its2,r2,p2,_⟩:=I.tuple hb
  obtain ⟨⟨cls,dd,data,sl⟩,ho,hc,n,hd⟩:=id p1
  obtain ⟨⟨cls2,dd2,data2,sl2⟩,ho2,hc2,n2,hd2⟩:=id p2
  simp only at hc hd hc2 hd2
  subst hc hd hc2 hd2
  have e:its = []:=r1.nil_iff.mpr hx
  exact concat_meets ⟨_,ho,rfl⟩ ⟨_,ho2,rfl⟩ noFill_tuple_add seq_tuple_add PySem.F.slot_tuple_add PySem.F.entry_tuple_add (PySem.F.args_tuple_add_2 _ _)
   (tuple_addW0 a b its.toArray its2.toArray n n2 dd dd2 sl sl2 (by simp [e])) ⟨ho,ho2,⟨.ref b,H,I,rfl,q0 hx⟩⟩
 ·exact znI pins s σ H _ _ v u Q I rx ry ⟨a,b,xs,ys,rfl,rfl,ha,hb,hx,hz,q1 hx,q2 hx⟩
end
end L2
namespace HT
open PySem PySem.Spec PyProof.Rows
section
variable {prog:Program} {w:World} {A:Around} {E:Value->Shared->Prop} {s:Shared}
theorem zes {t sl:Addr} {items:Array Value} {vl vu:Value} {lo hi:Option Int} {Q:Value->Shared->Prop} (ht:IsTup s.heap t items) (hs:s.heap.IsSliceOf sl vl vu .none) (pl:IsPart vl lo) (pu:IsPart vu hi)
  (hw:sIx items.size 0 lo = 0/\sIx items.size items.size hi = items.size) (h:Q (.ref t) s):wpAny (model prog w) A (getItem (.ref t) (.ref sl)) Q E s:=by
 obtain ⟨os,hos,hcs,hds⟩:=id hs
 have hTs:s.TypeIs (.ref sl) "slice":=⟨os,hos,hcs⟩
 unfold getItem
 try with_reducible refine wpAny_holding ?_
 first | refine Q1 (Qf ?_) | skip
 refine Q1 (wpAny_sequenceKey ht.typeIs (by decide) ?_)
 refine Q1 (wpAny_callSpecial?_slot (name:=Str.ofString "__getitem__") ht.typeIs PyProof.Rows.slot_tuple_getitem
  (wpAny_call_entry PyProof.Rows.slot_tuple_getitem ht.typeIs entry_tuple_getitem ?_ (args_tuple_getitem _ _)))
 show wpAny _ _ (Builtin.Tuple.tupleItemsOf (.ref t) >>= _) _ _ s
 refine Q1 (tupleItemsOf_ ht ?_)
 refine Q1 (wpAny_typeOf hTs ?_)
 rw [QA (by decide)]
 refine Q1 (zc1 hs pl pu ?_)
 have hyes:(((sIx items.size 0 lo:Nat):Int) == 0 && (1:Int) == 1 && (sIx items.size items.size hi - sIx items.size 0 lo) == items.size) = true:=by
  rw [hw.1,hw.2];simp
 show wpAny _ _ (if (((sIx items.size 0 lo:Nat):Int) == 0 && (1:Int) == 1 && (sIx items.size items.size hi - sIx items.size 0 lo) == items.size) = true then _ else _) _ _ s
 rw [QA hyes]
 refine Q1 ?_
 unfold Builtin.Tuple.tupleIsExact
 refine Q1 (wpAny_typeOf ht.typeIs (Qf ?_))
 rw [QA (by decide)]
 exact Q1 (wpAny_rule (Qf ⟨_,rfl,Qf h⟩))
end
end HT
namespace L2
open PySem PySem.Spec PyProof.Rows
variable {X:Cx}
section
noncomputable def zr5 (K:Frag):V->Option Int->Option Int->Hp->VK->Prop:=fun x lo hi H Q=>∃ a xs,x = .ref a/\SqT K H a xs /\
 ((HT.sIx xs.length 0 lo = 0/\HT.sIx xs.length xs.length hi = xs.length)->Q (.ref a) H)/\(¬ (HT.sIx xs.length 0 lo = 0/\HT.sIx xs.length xs.length hi = xs.length)->∀ p,H p = none->Q (.ref p) (upd H p (.tup (cutV xs lo hi))))
theorem zjq:SlR X (zr5 X.K):=by
 intro pins s σ H x v vl vu lo hi sl Q I rx hs pl pu h
 obtain ⟨a,xs,rfl,hx,q1,q2⟩:=h
 by_cases hw:HT.sIx xs.length 0 lo = 0/\HT.sIx xs.length xs.length hi = xs.length
 ·cases rx
  obtain ⟨its,r,ht,hz⟩:=I.tuple hx
  have hlen:its.toArray.size = xs.length:=by rw [Qi];exact r.length.symm
  refine ⟨"tuple",_,PyProof.Rows.slot_tuple_getitem.lookup,ht.typeIs,?_⟩
  refine HT.zes ht hs pl pu (by rw [hlen];exact hw) ⟨.ref a,H,I,rfl,q1 hw⟩
 ·exact zoL pins s σ H _ v vl vu lo hi sl Q I rx hs pl pu ⟨a,xs,rfl,hx,hw,q2 hw⟩
theorem zfA:fillsNumberSlot (.type "tuple") "mul" = pure false:=
 PySem.fillsNumberSlot_seq (id:="tuple.__mul__") (r:=some (.builtin "tuple.__rmul__")) PySem.F.slot_tuple_mul.lookup (by decide +kernel) PySem.F.slot_tuple_rmul.lookup (by decide +kernel)
theorem zh0:seqRepeat? (.type "tuple") = pure (some (.builtin "tuple.__mul__")):=by
 unfold seqRepeat?
 rw [PySem.seqSlot_of (T:="tuple") (name:="__mul__") (id:="tuple.__mul__") PySem.F.slot_tuple_mul.lookup (by decide +kernel),PySem.seqSlot_of (T:="tuple") (name:="__rmul__") (id:="tuple.__rmul__") PySem.F.slot_tuple_rmul.lookup (by decide +kernel)]
 rfl
theorem zgz (a:Int) (t:Tok) (l:Addr) (items:Array Value) (n:Nat) (dd:Option Addr) (sl:Array (Option Value)) :
  Meets (Builtin.«int.__rmul__» ⟨[.int a t,.ref l],[]⟩) (fun _ R s=>s.heap.get? l = some { cls:=.type "tuple",dict:=dd,data:=.seq items n,slots:=sl }/\R (.ok (.ret Value.notImplemented)) s):=
 .of_wp fun prog w A R s h=>by obtain ⟨hp,g,d,tk,os⟩:=s;obtain ⟨hl,h⟩:=h;wp_walk;exact ⟨_,rfl,h⟩
theorem zj5 (l:Addr) (items:Array Value) (n:Nat) (x:Int) (u:Tok) (dd:Option Addr) (sl:Array (Option Value)) (h0:items.isEmpty = false) (h1:2<=x) (h2:x < 2 ^ 63) (h3:items.size * x.toNat<=sizeLine) :
  Meets (Builtin.«tuple.__mul__» ⟨[.ref l,.int x u],[]⟩) (fun _ R s=>s.heap.get? l = some { cls:=.type "tuple",dict:=dd,data:=.seq items n,slots:=sl }/\R (.ok (.ret (Value.ref s.heap.objs.size))) { s with heap:=s.heap.push { cls:=Value.type "tuple",data:=Data.seq (List.foldl (fun x1 x2=>x1 ++ x2) #[] (List.replicate x.toNat items)) },toks:=s.toks }):=
 .of_wp fun prog w A R s h=>by
  obtain ⟨hp,g,d,tk,os⟩:=s;obtain ⟨hl,h⟩:=h
  have f1:=AutoSeq1.idx_int
  have hA:¬(decide (x < -2 ^ 63) || decide (x ≥ 2 ^ 63)) = true:=by simp;omega
  have hB:¬(items.isEmpty || x == 1) = true:=by rw [h0];simp;omega
  have hC:¬(decide (x<=0) || items.isEmpty) = true:=by rw [h0];simp;omega
  have hm:((items.size:Nat):Int) * x = ((items.size * x.toNat:Nat):Int):=by
   rw [Int.natCast_mul,Int.toNat_of_nonneg (by omega)]
  have hs2:(sizeLine:Nat)<=(2 ^ 63 - 1) / 8:=by decide
  have hD:¬((items.size:Nat):Int) * x > (2 ^ 63 - 1) / 8:=by rw [hm];omega
  have hE:¬Builtin.Tuple.tupleTooMany (((items.size:Nat):Int) * x) = true:=by
   rw [hm]
   show ¬ decide (((items.size * x.toNat:Nat):Int) > ((sizeLine:Nat):Int)) = true
   rw [decide_eq_true_iff];omega
  have hT:IsTup hp l items:=⟨_,hl,rfl,n,rfl⟩
  wp_walk using wpAny_loadPart' hl
  rw [QB hA]
  refine Q1 (tupleItemsOf_ hT ?_)
  show wpAny _ _ (if (items.isEmpty || x == 1) = true then _ else _) _ _ _
  rw [QB hB]
  show wpAny _ _ (if (decide (x<=0) || items.isEmpty) = true then _ else _) _ _ _
  rw [QB hC]
  show wpAny _ _ (if ((items.size:Nat):Int) * x > (2 ^ 63 - 1) / 8 then _ else _) _ _ _
  rw [QB hD]
  show wpAny _ _ (if Builtin.Tuple.tupleTooMany (((items.size:Nat):Int) * x) = true then _ else _) _ _ _
  rw [QB hE]
  have hj:(List.foldl (fun x1 x2=>x1 ++ x2) #[] (List.replicate x.toNat items)).size<=sizeLine:=by
   have:=foldl_rep items.toList x.toNat []
   rw [nil_append,Array.toArray_toList] at this
   rw [this,Qi,len_rep,Nat.mul_comm,Array.length_toList]
   exact h3
  exact Q1 (m:=Builtin.Tuple.tupleExact _) (Qt (Qf ⟨_,rfl,h⟩) hj)
noncomputable def zq2 (K:Frag):R2:=fun x y H Q=>∃ l k xs,x = .ref l/\y = .int k/\SqT K H l xs/\xs ≠ []/\2<=k/\k < 2 ^ 63/\xs.length * k.toNat<=sizeLine /\
 ∀ p,H p = none->Q (.ref p) (upd H p (.tup (List.replicate k.toNat xs).flatten))
theorem znA:OpR X (binaryOp .Mult) (zq2 X.K):=by
 intro pins s σ H x y v u Q I rx ry h
 obtain ⟨l,k,xs,rfl,rfl,hH,hx,h1,h2,hz,q⟩:=h
 cases rx
 obtain ⟨t,rfl⟩:=ry
 obtain ⟨its,r,pl,_⟩:=I.tuple hH
 have hl:=r.length
 obtain ⟨⟨cls,dd,data,sl⟩,ho,hc,n,hd⟩:=id pl
 simp only at hc hd
 subst hc hd
 have hlen:its.toArray.size * k.toNat<=sizeLine:=by rw [Qi,← hl];exact hz
 have hne:its.toArray.isEmpty = false:=by
  cases its with
  | nil=>exact absurd (r.nil_iff.mp rfl) hx
  | cons a b=>rfl
 have hnew:List.foldl (fun x1 x2=>x1 ++ x2) #[] (List.replicate k.toNat its.toArray) = (List.replicate k.toNat its).flatten.toArray:=by
  have:=foldl_rep its k.toNat []
  rw [nil_append] at this
  exact this
 refine wpAny_binaryOp_repeat_ref (T:="tuple") (U:="int") (by decide) ⟨_,ho,rfl⟩ (fun s'=>typeIs_int s' k t) zfA F.fills_int_mul F.slot_int_rmul zh0 F.slot_int_index.lookup
  (call_meets F.slot_int_rmul (typeIs_int s k t) F.entry_int_rmul (F.args_int_rmul_2 _ _) (zgz k t l its.toArray n dd sl)
   ⟨ho,rfl,⟨_,ho,rfl⟩,call_meets F.slot_tuple_mul ⟨_,ho,rfl⟩ F.entry_tuple_mul (F.args_tuple_mul_2 _ _) (zj5 l its.toArray n k t dd sl hne h1 h2 hlen) ⟨ho,?_⟩⟩)
 rw [hnew]
 refine ⟨.ref s.heap.objs.size,_,I.laid (t':=s.toks) (o:=.tup (List.replicate k.toNat xs).flatten) (fun b ob q=>Q2 _ q) (Q3 _) ?_,rfl,q _ (I.hok.fresh (Q3 _))⟩
 exact ⟨by rw [len_rep,Nat.mul_comm];exact hz,_,r.rep k.toNat,IsTup.new _ _,NoDict.new⟩
end
section
theorem zf0 {i0:Nat} {y0:Str} {py spos:Pos} {tg elt iter:Expr} {ifs:List Expr} {scope:Scope} {cl:List (Str × Addr)} {pos:Pos} {tgs:List Str} {caps:List (Str × Nat)} {wi:TI} {g:TG} {tc:TT} {te:TE}
  (hc:X.calm = true) (hi:PI X tg iter wi) (hclos:closureFor scope X.env = pure cl) (hcell:∀ y ∈ scope.names,y.2 = .cell->y.1 ∉ caps.map (·.1)) (hkind:scope.kind = .function)
  (hnames:∀ y ∈ scope.names,y.2 = .local->scope.names.lookup y.1 = some .local)
  (hcl:∀ y c,cl.lookup y = some c->X.env.cells.lookup y = some c)
  (hhas:∀ n y,((relabel scope X.env).names.lookup y = some .cell\/(relabel scope X.env).names.lookup y = some .free)->∃ c,(cellsFrom n scope.names cl).lookup y = some c)
  (hcap:∀ c ∈ caps,X.N[c.2]? = some c.1/\X.env.kindOf c.1 = some .cell/\((relabel scope X.env).names.lookup c.1 = some .cell\/(relabel scope X.env).names.lookup c.1 = some .free))
  (hg:∀ ex s0 H0,PG (X.block scope cl (tgs ++ caps.map (·.1)) ex s0 H0) tg g) (hif:∀ ex s0 H0,PTs (X.block scope cl (tgs ++ caps.map (·.1)) ex s0 H0) ifs tc) (hel:∀ ex s0 H0,PE (X.block scope cl (tgs ++ caps.map (·.1)) ex s0 H0) elt te)
  (hN0:X.N.Nodup) (hi0:X.N[i0]? = some y0) (hx0:Loc X.env.scope y0)
  (hsw:swapsWith (.ListComp elt [⟨tg,iter,ifs,0⟩] scope pos) (some (.Name y0 py)) spos.line X.env = pure true:=by rfl)
  (hf0:X.fn y0 = true\/X.env.scope.names.lookup y0 = some .local:=by first | exact .inl rfl | exact .inr rfl | assumption)
  (hs:∀ x,foldedSetIterable iter X.env x = pure x:=by intro _;rfl) :
  PS X (.Assign [.Name y0 py] (.ListComp elt [⟨tg,iter,ifs,0⟩] scope pos) spos) (fun D σ H=>zhr wi g tc te (za3 tgs caps) σ H fun v H'=>D.nx (σ.set i0 (some v)) H'):=by
 intro pins s σ H DD I h
 rw [exec_Assign_Name_used _ _ _ _ hsw]
 refine Q1 (wpAny_standAt (Q1 ?_))
 show wpAny _ X.A (do let _ ← comprehension (.ListComp elt [⟨tg,iter,ifs,0⟩] scope pos) scope X.env _ (newList []) false (eval iter X.env) (some (assign (.Name y0 py) X.env))) _ _ s
 refine Q1 (Qg (wpAny_comprehension_free (use:=some (assign (.Name y0 py) X.env)) (Q:=fun _ s'=>SP X pins DD .next s') rfl hs hclos hkind hnames
  (thn (hi pins s σ H _ I h) fun v s1 h1=>thn h1 fun itv s2 h2=>?_)) (fun _ s' hq=>Qf (Qf hq)) fun _ _ e=>e)
 obtain ⟨it,fp,tn,J,H2,e,I2,T,st2,f2,hrest⟩:=h2
 subst e
 -- the new list
 have hD:H2 s2.heap.objs.size = none:=I2.fresh
 obtain ⟨W,⟨m0,w0⟩,turn⟩:=hrest _ hD
 refine Qt ?_ (by show 0<=sizeLine;decide)
 have I3:Inv X pins σ (upd H2 s2.heap.objs.size (.lst [])) { s2 with heap:=s2.heap.push { cls:=.type "list",data:=.seq ([]:List Value).toArray } }:=I2.lnew (t':=s2.toks) (ys:=[]) (its:=[]) .nil (by show 0<=sizeLine;decide)
 generalize hs3:({ s2 with heap:=s2.heap.push { cls:=.type "list",data:=.seq ([]:List Value).toArray } }:Shared) = s3 at I3
 have lt2:∀ b o,s2.heap.get? b = some o->s3.heap.get? b = some o:=fun b o e=>by rw [← hs3];exact Q2 _ e
 have sz3:s2.heap.objs.size < s3.heap.objs.size:=by rw [← hs3];show _ < (s2.heap.push _).objs.size;rw [Heap.size_push];exact Nat.lt_succ_self _
 have st3:tn 0 s3.heap:=T.keep 0 _ _ st2 fun b _ o e=>lt2 b o e
 have fplt:∀ b ∈ fp,b < s2.heap.objs.size:=fun b hb=>by
  obtain ⟨o,e,_⟩:=T.obj 0 _ st2 b hb
  exact Qe e
 generalize hH3:upd H2 s2.heap.objs.size (.lst []) = H3 at I3 w0
 have fr3:∀ b ∈ fp,H3 b = none:=fun b hb=>by rw [← hH3,zm (Qk (fplt b hb))];exact (f2 b hb).1
 have nstk:∀ b ∈ fp,b ∉ frs X.stack:=fun b hb z=>by
  obtain ⟨_,n1,n2,_⟩:=f2 b hb
  rcases QD.mp (I2.stkSub b z) with z | z
  ·exact n1 z
  ·exact n2 z
 refine zaC fun h4 ns4 sb4=>?_
 have keep4:∀ b o,s3.heap.get? b = some o->h4.get? b = some o:=fun b o e=>by rw [sb4];exact pushCells_keeps _ _ b o (Q2 _ e)
 have clt:∀ x c,cl.lookup x = some c->c < s3.heap.objs.size:=fun x c e=>by
  obtain ⟨v,q⟩:=I3.cell x c (hcl x c e)
  exact q.lt
 have cor:∀ x c,(cellsFrom (s3.heap.objs.size + 1) scope.names cl).lookup x = some c->cl.lookup x = some c\/s3.heap.objs.size + 1<=c:=fun x c e=>zhx _ _ _ e
 have cne:∀ b ∈ fp,∀ x c,(cellsFrom (s3.heap.objs.size + 1) scope.names cl).lookup x = some c->c ≠ b:=fun b hb x c e=>by
  rcases cor x c e with e | e
  ·exact (f2 b hb).2.2.2.2.1 x c (hcl x c e)
  ·exact Nat.ne_of_gt (Q5 (Nat.lt_trans (fplt b hb) sz3) (Nat.le_of_succ_le e))
 have neC:∀ b ∈ fp,b ≠ s3.heap.objs.size:=fun b hb=>Qk (Nat.lt_trans (fplt b hb) sz3)
 have ok':(X.block scope cl (tgs ++ caps.map (·.1)) fp s3 H3).Ok:=
  ⟨I.ok.mod,hkind,I.ok.glob,I.ok.blt,Q3 _,zgj _ _ _ (fun x y c e1 e2=>I.ok.inj x y c (hcl x c e1) (hcl y c e2)) (fun x c e=>Nat.lt_succ_of_lt (clt x c e)),hhas _,(fun x c z e=>Nat.le_of_succ_le (zgh _ _ _ (eq_of_beq z) e)),I.ok.hd,I.ok.frames,.inl rfl,
   fun b hb=>⟨neC b hb,cne b hb⟩,I3.bs,Qj I.ok.bsz I3.sz,fun b o e hb=>by
    rcases (f2 b hb).2.2.2.1 with z | z
    ·exact I.ok.noex b o e z
    ·exact absurd (Q5 (Qe e) (Qj I.ok.bsz z)) (Qo _),
   nstk,I3.stack,I3.stkFree⟩
 have I4:Inv (X.block scope cl (tgs ++ caps.map (·.1)) fp s3 H3) [] (za3 tgs caps σ) H3 { s3 with heap:=h4 }:=by
  refine ⟨ok',rfl,I3.bare,Un.kept keep4,⟨_,ns4,fun i x v e1 e2 e3=>?_⟩,fun x c e=>?_,I3.hok.fresh (Q3 _),fun x c e=>(cor x c e).elim (fun e=>I3.freeC x c (hcl x c e)) (fun e=>I3.hok.fresh (Nat.le_of_succ_le e)),fun p hp=>by simp [Cx.block] at hp,I3.hok.kept keep4,by simp [za3,Cx.block]⟩
  ·-- a captured name
   have hlen:(tgs.map (fun _=>(none:Option V))).length = tgs.length:=by simp
   by_cases hi:i < tgs.length
   ·have:(za3 tgs caps σ)[i]? = some none:=by
     unfold za3
     rw [Q6 (by simpa using hi)]
     simp [hi]
    rw [this] at e2
    cases e2
   ·have e1':(tgs ++ caps.map (·.1))[i]? = some x:=e1
    rw [Q8 (by omega),Qb] at e1'
    have e2':=e2
    unfold za3 at e2'
    rw [Q8 (by simpa using hi),hlen,Qb] at e2'
    cases hcq:caps[i - tgs.length]? with
    | none=>rw [hcq] at e1';cases e1'
    | some cq=>
     rw [hcq] at e1' e2'
     have ex:cq.1 = x:=Qd e1'
     have ev:(σ[cq.2]?).join = some v:=Qd e2'
     obtain ⟨c1,c2,c3⟩:=hcap cq (Qa hcq)
     have ev':σ[cq.2]? = some (some v):=by
      cases q:σ[cq.2]? with
      | none=>rw [q] at ev;cases ev
      | some o=>rw [q] at ev;cases o with
       | none=>cases ev
       | some v'=>rw [show v' = v from Qd ev]
     obtain ⟨m,hn,hl⟩:=I3.loc
     obtain ⟨u,r,lk⟩:=hl cq.2 cq.1 v c1 ev' (.inr (.inl c2))
     rcases lk with ⟨k1,_⟩ | ⟨_,c,ec,icl⟩
     ·rw [c2] at k1;cases k1
     ·obtain ⟨c',ec'⟩:=hhas (s3.heap.objs.size + 1) cq.1 c3
      have ec2:=ec'
      rw [zgi _ _ _ fun y hy hk hyx=>hcell y hy hk (by rw [hyx];exact List.mem_map_of_mem (Qa hcq))] at ec2
      have:=hcl _ _ ec2
      rw [ec] at this
      cases this
      refine ⟨u,r,.inr ⟨?_,c,?_,?_⟩⟩
      ·rw [← ex];exact c3
      ·rw [← ex];exact ec'
      ·obtain ⟨o,ho,hd⟩:=icl
       exact ⟨o,keep4 _ _ ho,hd⟩
  ·show ∃ v,h4.IsCell c v
   rw [sb4]
   refine zfb scope.names _ cl (fun x c f=>?_) x c (by rw [Heap.size_push];exact e)
   obtain ⟨v,o,ho,hd⟩:=I3.cell x c (hcl x c f)
   exact ⟨v,o,Q2 _ ho,hd⟩
 have stat:∀ {H':Hp},(∀ b ∈ fp,H' b = none)->∀ b ∈ fp,zeR (X.block scope cl (tgs ++ caps.map (·.1)) fp s3 H3) [] H' b:=fun hn b hb=>
  ⟨hn b hb,neC b hb,nstk b hb,.inl hb,cne b hb,fun p hp=>by simp [Cx.block] at hp⟩
 have st4:tn 0 h4:=T.keep 0 _ _ st3 fun b _ o e=>keep4 b o e
 have loop:codeAny (model X.prog X.w) X.A (.compLoop (.ListComp elt [⟨tg,iter,ifs,0⟩] scope pos) 0 (.ref it) (.ref s2.heap.objs.size) (zfJ scope cl s3.heap.objs.size X.env))
   (compPost (model X.prog X.w) X.A X.xe (some (assign (.Name y0 py) X.env)) (fun _ s'=>SP X pins DD .next s') (.ref s2.heap.objs.size) s3.heap.objs.size) { s3 with heap:=h4 }:=by
  refine zbV (fun n s'=>∃ i σ' H',Inv (X.block scope cl (tgs ++ caps.map (·.1)) fp s3 H3) [] σ' H' s'/\tn i s'.heap/\(∀ b ∈ fp,H' b = none)/\W i n σ' H') ?_ m0 ⟨0,_,H3,I4,st4,fr3,w0⟩
  rintro n s5 ⟨i,σ5,H5,I5,st5,fr5,w5⟩
  rcases turn i n σ5 H5 w5 with ⟨stop,qn⟩ | ⟨go,N,hN,step⟩
  ·refine Qg (T.done (X.block scope cl (tgs ++ caps.map (·.1)) fp s3 H3) rfl rfl rfl hc i [] s5 σ5 H5 (fun _ _=>False) I5 (stat fr5) st5 stop) (fun r s6 ⟨hr,I6⟩=>?_) fun _ _ z=>False.elim z
   subst hr
   obtain ⟨m6,hn6,_⟩:=I6.loc
   have nb:∀ b o,s3.heap.get? b = some o->b ≠ s3.heap.objs.size:=fun b o e=>Qk (Qe e)
   have uX:Un (frs X.stack) fp H3 H5 s3.heap s6.heap:=I6.base
   have os6:s6.os = s3.os:=I6.os
   have I6X:Inv X pins σ H5 s6:=I3.call' (s':=s6) (ch:=fp) os6 uX I6.hok I6.bare (fun b hb=>⟨(f2 b hb).2.2.2.1,(f2 b hb).2.1,(f2 b hb).2.2.2.2.1,(f2 b hb).2.2.2.2.2⟩)
   have hfC:H5 s3.heap.objs.size = none:=I6.free
   show wpAny _ X.A (assign (.Name y0 py) X.env (.ref s2.heap.objs.size)) _ _ s6
   refine wpAny_assign_Name (zg0 I6X hN0 hi0 hx0 (v:=.ref s2.heap.objs.size) rfl (fun s7 I7 ⟨a,sa,ha⟩=>?_) hf0)
   have aC:s3.heap.objs.size ≠ a:=fun z=>by
    rcases ha with ha | ha
    ·have h3:=I3.lt
     rw [ha] at z
     rw [← z] at h3
     exact Qo _ h3
    ·obtain ⟨v,q⟩:=I3.cell _ _ ha
     have:=q.lt
     rw [← z] at this
     exact Qo _ this
   refine ⟨m6,hn6.sameBut sa aC,fun h' sb=>?_⟩
   have eqb:∀ b,b ≠ s3.heap.objs.size->h'.get? b = s7.heap.get? b:=fun b hb=>sb.2 b hb
   have uY:Un (frs X.stack) [s3.heap.objs.size] H5 H5 s7.heap h':=by
    refine ⟨fun b o e a1 a2 a3=>?_,fun b o e a1 a2 a3=>?_,fun _ _ _ q _=>q,fun b o e a3=>?_,fun _ _ q=>q,fun _ _ _ q=>q,fun b ps q=>⟨#[],by simpa using q⟩⟩
    ·rw [eqb b (fun z=>a3 (by rw [z];exact .head _))];exact e
    ·exact ⟨o.slots,by rw [eqb b (fun z=>a3 (by rw [z];exact .head _))];exact e⟩
    ·exact ⟨o,by rw [eqb b (fun z=>a3 (by rw [z];exact .head _))];exact e⟩
   have hokY:HOk X.prog X.w H5 h':=fun a o e=>(I7.hok a o e).stay (fun b u hb eu=>by
    have hbC:b ≠ s3.heap.objs.size:=fun z=>by
     rcases hb with rfl | hb
     ·rw [z,hfC] at e;cases e
     ·rw [z,hfC] at hb;cases hb
    rw [eqb b hbC];exact eu) (fun _ q=>q) fun _ _ q=>q
   refine ⟨σ.set i0 (some (.ref s2.heap.objs.size)),H5,I7.call' (s':={ s7 with heap:=h' }) (ch:=[s3.heap.objs.size]) rfl uY hokY I7.bare (fun b hb=>?_),qn⟩
   rw [QI.mp hb]
   refine ⟨.inr I3.sz,Nat.ne_of_gt I3.lt,fun x c e z=>?_,fun p hp z=>?_⟩
   ·obtain ⟨v,q⟩:=I3.cell x c e
    have:=q.lt
    rw [z] at this
    exact Qo _ this
   ·have:=Qe (I3.pin p hp).1
    rw [z] at this
    exact Qo _ this
  ·refine Qg (T.item (X.block scope cl (tgs ++ caps.map (·.1)) fp s3 H3) rfl rfl rfl hc i [] s5 σ5 H5 (fun _ _=>False) I5 (stat fr5) st5 go) (fun r s6 ⟨u,hr,h6⟩=>?_) fun _ _ z=>False.elim z
   subst hr
   refine Qg h6 (fun _ s7 ⟨x,H7,I7,r7,y7,st7,fr7⟩=>?_) fun _ _ z=>False.elim z
   have I7':=I7.pinned (stat fr7) (T.obj _ _ st7)
   have again:∀ {s9:Shared} {σ9:St} {H9:Hp},Inv (X.block scope cl (tgs ++ caps.map (·.1)) fp s3 H3) ([] ++ zdH fp s7.heap) σ9 H9 s9->N σ9 H9->
     ∃ m,m < n/\∃ i σ' H',Inv (X.block scope cl (tgs ++ caps.map (·.1)) fp s3 H3) [] σ' H' s9/\tn i s9.heap/\(∀ b ∈ fp,H' b = none)/\W i m σ' H':=fun {s9 σ9 H9} I9 n9=>by
    obtain ⟨m',hm,w9⟩:=hN σ9 H9 n9
    refine ⟨m',hm,i + 1,σ9,H9,I9.unpinned,T.keep _ _ _ st7 fun b hb o e=>(I9.pin (b,o) (Qm _ (Qm _ (zbb hb e)))).1,fun b hb=>?_,w9⟩
    obtain ⟨o,e,d⟩:=T.obj _ _ st7 b hb
    exact (I9.pin (b,o) (Qm _ (Qm _ (zbb hb e)))).2.1
   refine Qg (hg fp s3 H3 _ s7 σ5 H7 x u _ I7' r7 (step x H7 y7)) (fun _ s8 ⟨σ8,H8,I8,q8⟩=>?_) fun _ _ z=>False.elim z
   refine Qg (hif fp s3 H3 _ s8 σ8 H8 _ I8 q8) (fun b s9 ⟨H9,I9,q9⟩=>?_) fun _ _ z=>False.elim z
   cases b with
   | false=>
    rw [QB Q4] at q9
    rw [QB Q4]
    exact again I9 q9
   | true=>
    rw [QA rfl] at q9
    rw [QA rfl]
    refine Qg (hel fp s3 H3 _ s9 σ8 H9 _ I9 q9) (fun xv s10 ⟨v,H10,I10,rv,ys,hy,hl,q10⟩=>?_) fun _ _ z=>False.elim z
    refine Qg (qK (X:=X.block scope cl (tgs ++ caps.map (·.1)) fp s3 H3) _ s10 σ8 H10 (.ref s2.heap.objs.size) [v] (.ref s2.heap.objs.size) [xv] (fun _ H11=>N σ8 H11) I10 rfl (.cons rv .nil) ⟨_,ys,v,rfl,rfl,hy,hl,q10⟩) (fun _ s11 ⟨_,H11,I11,_,q11⟩=>again I11 q11) fun _ _ z=>False.elim z
 exact codeAny_compStart_list loop (T.self _ 0 _ _ _ st4 loop)
end
theorem zfg (ns:List Int):∀ j,j<=ns.length->preSum (fun i=>ns.getD i 0) j = (ns.take j).sum
 | 0,_=>by simp [preSum]
 | j + 1,h=>by
  have hj:j < ns.length:=h
  unfold preSum
  rw [zfg ns j (Nat.le_of_lt hj),show ns.take (j + 1) = ns.take j ++ [ns[j]] from (by rw [List.take_succ_eq_append_getElem hj]),List.sum_append]
  simp [List.getD,hj]
theorem ints_get {ns:List Int} {its:List Value} (r:Vals (ns.map V.int) its) {i:Nat} {v:Value} (e:its[i]? = some v):∃ t,v = .int (ns.getD i 0) t:=by
 have hl:=r.length
 rw [Qh] at hl
 have hi:i < its.length:=(Qz.mp e).1
 have eb:ns[i]? = some ns[i]:=by simp [show i < ns.length by omega]
 have em:(ns.map V.int)[i]? = some (V.int ns[i]):=by rw [Qb,eb];rfl
 obtain ⟨u,e2,t,q⟩:=Vals.get r em
 rw [e] at e2
 cases e2
 exact ⟨t,by rw [q];simp [List.getD,eb]⟩
section
theorem zlF (hc:X.calm = true):CallR X (.builtin "sum") (fun xs H Q=>∃ (p:Addr) (ns:List Int),xs = [.ref p]/\SqL X.K H p (ns.map V.int)/\Q (.int ns.sum) H):=by
 intro pins s σ H xs us Q I r h
 obtain ⟨p,ns,rfl,hq,q⟩:=h
 obtain ⟨u,rfl,rx⟩:=vals1 r
 cases rx
 obtain ⟨its,r',pl,hz⟩:=I.list hq
 have hlen:=r'.length
 rw [Qh] at hlen
 refine call_sum_walkAnyS (wpAny_pyIter_list pl.isList ?_)
 have hlt:p < s.heap.objs.size:=by
  obtain ⟨o,n,ho,_⟩:=pl
  exact Qe ho
 refine ⟨s.heap.objs.size,_,_,_,_,_,_,fun i=>ns.getD i 0,rfl,(Walks.list (by exact I.ok.hd hc) _ p (Qk hlt) its.toArray).toS,⟨⟨_,Ql _ rfl,rfl,rfl⟩,?_⟩,?_,fun i v e=>ints_get r' (show its[i]? = some v by simpa using e),fun s' t' hm=>?_⟩
 ·obtain ⟨o,ho,c⟩:=pl.isList
  exact ⟨o,Q2 _ ho,c⟩
 ·intro b hb
  rw [show ({ s with heap:=s.heap.push _ }:Shared).heap.objs.size = s.heap.objs.size + 1 from Heap.size_push ..]
  rcases QD.mp hb with rfl | hb
  ·exact Nat.lt_succ_self _
  ·rw [QI.mp hb];exact Nat.lt_succ_of_lt hlt
 ·obtain ⟨h',g',d',tk,o'⟩:=s'
  have e1:g' = s.gens:=hm.gens
  have e2:d' = s.drawn:=hm.drawn
  have e3:o' = s.os:=hm.os
  subst e1;subst e2;subst e3
  have e:preSum (fun i=>ns.getD i 0) its.toArray.size = ns.sum:=by
   rw [show its.toArray.size = ns.length by simp [hlen],zfg ns _ (Q3 _),take_length]
  rw [e]
  refine ⟨.int ns.sum,H,I.kept (t':=tk) (fun b o eb=>hm.heap b o (fun z=>?_) (Q2 _ eb)),⟨t',rfl⟩,q⟩
  have z':b = s.heap.objs.size:=by simpa using z
  exact absurd (Qe eb) (by rw [z'];exact Qo _)
theorem zmy:zi2 X (zl5 X.K):=by
 intro pins s σ H x y v u Q I rx ry h
 obtain ⟨p,xs,i,z,rfl,rfl,hq,he,q⟩:=h
 cases rx
 obtain ⟨t,rfl⟩:=ry
 obtain ⟨its,r,pl,hz⟩:=I.list hq
 obtain ⟨j,h1,h2,h3,h4,h5⟩:=zfd he
 obtain ⟨w,ew,rw'⟩:=r.get h2
 have hl:=r.length
 have hn:=zcr
 have fin:EP X pins σ Q w s:=⟨z,H,I,rw',q⟩
 by_cases h0:0<=i
 ·have hj:i.toNat = j:=by
   rw [seqIndex_of h0 h5] at h1
   exact Qd h1
  exact wpAny_getItem_list pl.isList h0 (by omega) (by rw [hj];simpa using ew) fin
 ·have hj:(i + (its.toArray.size:Int)).toNat = j:=by
   rw [seqIndex_neg (by omega) h4] at h1
   rw [Qi,← hl]
   exact Qd h1
  exact wpAny_getItem_list_neg pl.isList (by omega) (by rw [Qi] <;> omega) (by omega) (by rw [hj];simpa using ew) fin
end
end L2
namespace L2
open PySem PySem.Spec PyProof.Rows PySem.Builtin PySem.Builtin.ObjectAttr
inductive Tl (h:Heap) (bmB:List Value) (ns:List Str):List Value->Prop
 | base:Tl h bmB ns bmB
 | own {a:Addr} {c:Value} {dd:Option Addr} {cd:ClassData} {sl:Array (Option Value)} {mA:Str->Option Value} {tl:List Value} (e:h.get? a = some ⟨c,dd,.cls cd,sl⟩) (hn:h.Ns cd.ns mA) (no:∀ n ∈ ns,mA n = none) (t:Tl h bmB ns tl):Tl h bmB ns (.ref a :: tl)
variable {C N:Addr} {A:Around} {g:Array GenState} {ab:Bool} {d:Drawn} {h:Heap} {ns sn:List Str} {bm:List Value} {M:Model} {dd:Option Addr} {col:Option Bool} {k0 k1 k2 k3 k5 y:Option Value} {Q:Option Value->Shared->Prop} {os:OsState} {n nm q:Str} {mN:Str->Option Value} {newId:String} {E:Value->Shared->Prop}
section
variable {h':Heap} {bmB tl:List Value}
theorem Tl.tail (T:Tl h bmB ns tl) (hi:("__init__":Str) ∈ ns):OwnTail h bmB tl:=by
 induction T with
 | base=>exact .base
 | own e hn no _ ih=>exact .own e hn (no _ hi) ih
variable {t:Nat}
theorem Tl.along (T:Tl h bmB ns tl) (hm:n ∈ ns) (hB:lookupAlong bmB n = pure y) (hq:Q y ⟨h,g,d,t,os⟩):wpAny M A (lookupAlong tl n) Q E ⟨h,g,d,t,os⟩:=by
 induction T with
 | base=>rw [hB];exact Qf hq
 | own e hn no _ ih=>
  rw [lookupAlong_cons]
  exact Q1 (wpAny_classOwn_cls e hn (by rw [no _ hm];exact ih))
variable {bs:List Value} {hdct:Bool} {sub:List Value} {B:String}
theorem zif (hC:h.get? C = some (excClassObj nm q C N bs bm hdct sn sub ab col dd k0 k1 k2 k3 k5 newId)) (hn:h.Ns N mN) (T:Tl h bmB ns bm) (hm:n ∈ ns)
 (hbm:mroOf (.type B) = pure bmB) (hB:typeLookup (.type B) n = pure y) (hq:Q ((mN n).or y) ⟨h,g,d,t,os⟩):wpAny M A (typeLookup (.ref C) n) Q E ⟨h,g,d,t,os⟩:=by
 have hr:lookupAlong bmB n = pure y:=by rw [typeLookup_eq,hbm] at hB;exact hB
 rw [typeLookup_eq]
 refine Q1 (wpAny_mroOf_exc hC ?_)
 rw [lookupAlong_cons]
 refine Q1 (wpAny_classOwn_exc hC hn ?_)
 cases hv:mN n with
 | some v=>rw [hv] at hq;exact Qf hq
 | none=>rw [hv] at hq;exact T.along hm hr hq
end
variable {w:World}
section
variable {prog:Program} {t:Nat}
variable {name:Str} {x:Addr} {bs:List Value} {sub:List Value} {v:Value} {o:Obj}
theorem zj1 {u:Value} {Q:Unit->Shared->Prop} (hC:h.get? C = some (excClassObj nm q C N bs bm true sn sub ab col dd k0 k1 k2 k3 k5 newId)) (T:Tl h zdz ns bm) (hi:("__init__":Str) ∈ ns) (hx:h.get? x = some o) (hc:o.cls = .ref C) (hq:Q () ⟨h,g,d,t,os⟩) :
  wpAny M A (checkBuiltinCall "object.__setattr__" ⟨[.ref x,u,v],[]⟩) Q E ⟨h,g,d,t,os⟩:=by
 have hb:(Value.ref C :: bm).contains (.type "object") = true:=by rw [List.contains_cons,(T.tail hi).hasType PySem.F.store_ValueError.hasOwner,Bool.or_true]
 simp only [checkBuiltinCall,PySem.F.store_ValueError.kind,PySem.F.store_ValueError.split]
 refine Q1 ?_
 unfold isInstance
 repeat (first | (with_reducible refine wpAny_loadPart_at hx ?_;rw [hc]) | (with_reducible refine wpAny_isSubtype_exc hC ?_;rw [hb]) | wp_step)
 exact hq
theorem zj0 {tk:Tok} {Q:Fin->Shared->Prop} (hC:h.get? C = some (excClassObj nm q C N bs bm true sn sub ab col dd k0 k1 k2 k3 k5 newId)) (hn:h.Ns N mN) (T:Tl h zdz ns bm) (m2:mN name = none) (hm:name ∈ ns)
  (hB:typeLookup (.type "ValueError") name = pure none) (hx:h.get? x = some o) (hc:o.cls = .ref C) (hnc:∀ c,o.data ≠ .cls c) (hd:o.dict = none)
  (hq:∀ h' tk' dx,h.get? dx = none->dx ≠ x->h'.get? x = some { o with dict:=some dx }->h'.Ns1 dx (fun y=>if y = name then some v else none)->(∀ b ob,b ≠ x->h.get? b = some ob->h'.get? b = some ob)->Q (.done (.ret .none)) ⟨h',g,d,tk',os⟩) :
  wpAny (model prog w) A (Builtin.«object.__setattr__» ⟨[.ref x,.str name tk,v],[]⟩) Q E ⟨h,g,d,t,os⟩:=by
 have hp:∀ l,Tl h zdz ns l->refuseLoop (.ref x) "__setattr__" l = pure ():=by
  intro l T
  induction T with
  | base=>exact PySem.F.store_ValueError.passes (.ref x)
  | own _ _ _ _ ih=>rw [refuseLoop_ref];exact ih
 have hp:=hp bm T
 unfold Builtin.«object.__setattr__»
 repeat (first | rw [refuse_eq] | (rw [refuseLoop_ref,hp]) | (with_reducible refine wpAny_loadPart_at hx ?_;rw [hc]) | with_reducible refine wpAny_mroOf_exc hC ?_ | (with_reducible refine zif hC hn T hm PySem.F.store_ValueError.mro hB ?_;rw [m2]) | wp_step)
 rw [hd,QB (by simp [typeHasDict])]
 have e1:(h.push ⟨.type "dict",none,.dict #[] 0,#[]⟩).get? x = some o:=Q2 _ hx
 have ne:x ≠ h.objs.size:=Qk (Qe hx)
 have hfr:=(Heap.get?_some_iff.mp hx).2
 have key:wpAny (model prog w) A (do let d ← alloc ⟨.type "dict",none,.dict #[] 0,#[]⟩;update x fun o=>{ o with dict:=some d };dictMade (.ref C) x d) (fun a s'=>wpAny (model prog w) A (match a with | some d=>storeInDict d (Value.str name tk) name v | none=>noDictFor (Value.ref x) (Value.ref C) name (none.or none:Option Value).isSome) Q E s') E ⟨h,g,d,t,os⟩:=by
  refine Q1 (wpAny_alloc' (Q1 (wpAny_update' e1 (Qf ?_))))
  generalize hg2:(h.push ⟨.type "dict",none,.dict #[] 0,#[]⟩).update x (fun o=>{ o with dict:=some h.objs.size }) = h2
  have gd:h2.get? h.objs.size = some ⟨.type "dict",none,.dict #[] 0,#[]⟩:=by
   rw [← hg2];exact (Heap.get?_update_ne _ _ _ _ ne.symm).trans (Heap.get?_push_at rfl rfl)
  have gx:h2.get? x = some { o with dict:=some h.objs.size }:=by
   rw [← hg2]
   refine Heap.get?_update_self _ e1 ?_
   obtain ⟨oc,od,odt,osl⟩:=o
   cases odt <;> first | rfl | exact hfr
  have nd:h2.Ns h.objs.size (fun _=>none):=⟨_,#[],_,gd,rfl,fun e he=>absurd he (by simp),fun _=>rfl⟩
  show wpAny _ _ (storeInDict h.objs.size (.str name tk) name v) _ _ _
  unfold storeInDict newKeyGuard
  refine Q1 (Qf (Q1 (wpAny_nsSet1 (Heap.Ns1.of_empty nd) fun h' n1 hs=>?_)))
  obtain ⟨oD,esD,epD,a1,a2,a3⟩:=n1.count (Within.cons name v Within.nil)
  refine Q1 (wpAny_lookBehind a1 (by rw [a2];exact pastItsLine_dict (Qj a3 (by rw [Qp,length_nil,sizeLine_eq];omega))) ?_)
  wp_walk
  refine hq h' _ h.objs.size (Heap.get?_none_of_le (Q3 _)) ne.symm ((hs.2 x ne).trans gx) n1 fun b ob hb e=>(hs.2 b (Qk (Qe e))).trans ?_
  rw [← hg2]
  exact (Heap.get?_update_ne _ _ _ _ hb).trans (Q2 _ e)
 cases hdt:o.data with
 | cls c=>exact absurd hdt (hnc c)
 | _=>exact key
theorem zrL {Q:Unit->Shared->Prop} (hC:h.get? C = some (excClassObj nm q C N bs bm true sn sub ab col dd k0 k1 k2 k3 k5 newId)) (hn:h.Ns N mN) (T:Tl h zdz ns bm) (hi:("__init__":Str) ∈ ns) (m1:mN "__setattr__" = none) (hs:("__setattr__":Str) ∈ ns) (m2:mN name = none) (hm:name ∈ ns)
  (hB:typeLookup (.type "ValueError") name = pure none) (hx:h.get? x = some o) (hc:o.cls = .ref C) (hnc:∀ c,o.data ≠ .cls c) (hd:o.dict = none)
  (hq:∀ h' tk' dx,h.get? dx = none->dx ≠ x->h'.get? x = some { o with dict:=some dx }->h'.Ns1 dx (fun y=>if y = name then some v else none)->(∀ b ob,b ≠ x->h.get? b = some ob->h'.get? b = some ob)->Q () ⟨h',g,d,tk',os⟩) :
  wpAny (model prog w) A (setAttr (.ref x) name v) Q E ⟨h,g,d,t,os⟩:=by
 have f3:=PySem.F.store_ValueError.slot.bind (.ref x)
 unfold setAttr callSpecial? specialOf
 repeat (any_goals (first | assumption | (with_reducible refine wpAny_loadPart_at hx ?_;rw [hc]) | (with_reducible refine zif hC hn T hs PySem.F.store_ValueError.mro PySem.F.store_ValueError.slot.lookup ?_;rw [m1]) | wp_step))
 refine codeAny_call_builtin PySem.F.store_ValueError.slot.plain PySem.F.store_ValueError.entry (zj1 hC T hi hx hc (zj0 hC hn T m2 hm hB hx hc hnc hd fun h' tk' dx a1 a2 a3 a4 a5=>?_))
 repeat (any_goals (first | assumption | wp_step))
 exact hq h' tk' dx a1 a2 a3 a4 a5
end
noncomputable abbrev zlv (C:Addr) (t:Addr) (od:Option Addr):Obj:=⟨.ref C,od,.fields #[.ref t,.none,.none,.none,.bool false,.none],#[]⟩
noncomputable def ExO (e C:Addr) (od:Option Addr):Heap->Prop:=fun h=>∃ ob,h.get? e = some ob/\ob.cls = .ref C/\ob.dict = od/\∀ c,ob.data ≠ .cls c
noncomputable def ExN (e C t:Addr) (od:Option Addr):Heap->Prop:=fun h=>h.get? e = some (zlv C t od)
variable {e:Addr} {H:Hp} {P:Program}
theorem zqt {t:Addr} {od:Option Addr} (x:ExN e C t od h):ObjOk P w H h e (.ext (ExN e C t od)):=
 ⟨x,⟨_,x⟩,fun _ _ q k=>k _ q⟩
noncomputable def zhI (H:Hp) (e:Addr):Hp:=fun b=>if b = e then none else H b
theorem zcR {b:Addr} (h:b ≠ e):zhI H e b = H b:=QB h
theorem zkE:zhI H e e = none:=QA rfl
variable {X:Cx} {pins:List (Addr × Obj)} {s:Shared} {σ:St}
section
theorem Inv.take {o:HO} (I:Inv X pins σ H s) (h0:X.s₀.heap.get? e = none) (hn:H e = none) (hl:e ≠ X.env.locals) (hc:∀ x c,X.env.cells.lookup x = some c->c ≠ e) (hp:∀ p ∈ X.pn ++ pins,p.1 ≠ e) (new:ObjOk X.prog X.w (upd H e o) s.heap e o):Inv X pins σ (upd H e o) s:=by
 have ne:∀ b ob,X.s₀.heap.get? b = some ob->b ≠ e:=fun b ob q z=>by rw [z,h0] at q;cases q
 have nh:∀ b u,H b = some u->b ≠ e:=fun b u q z=>by rw [z,hn] at q;cases q
 refine ⟨I.ok,I.os,I.bare,⟨I.base.keep,I.base.slot,fun b ob q n x=>by rw [zm (ne b ob q)];exact I.base.free b ob q n x,I.base.there,fun b xs q=>?_,fun b u xs q=>?_,fun b ps q=>?_⟩,I.loc,I.cell,by rw [zm hl.symm];exact I.free,fun x c q=>by rw [zm (hc x c q)];exact I.freeC x c q,fun p q=>?_,?_,I.len⟩
 ·have:=I.base.tups b xs q;rw [zm (nh b _ this)];exact this
 ·have:=I.base.frzs b u xs q;rw [zm (nh b _ this)];exact this
 ·obtain ⟨m,this⟩:=I.base.tbls b ps q;exact ⟨m,by rw [zm (nh b _ this)];exact this⟩
 ·obtain ⟨a,b,c⟩:=I.pin p q
  exact ⟨a,by rw [zm (hp p q)];exact b,c⟩
 ·intro b u q
  by_cases hb:b = e
  ·subst hb;rw [yC] at q;cases q;exact new
  ·rw [zm hb] at q
   exact (I.hok b u q).stay (fun _ _ _ z=>z) (fun c z=>by rw [zm (nh c _ z)];exact z) fun c xs z=>by rw [zm (nh c _ z)];exact z
theorem Inv.let {φ:Heap->Prop} (I:Inv X pins σ H s) (he:H e = some (.ext φ)):Inv X pins σ (zhI H e) s:=by
 have nh:∀ b u,H b = some u->(∀ ψ,u ≠ .ext ψ)->b ≠ e:=fun b u q n z=>by rw [z,he] at q;cases q;exact n φ rfl
 have nn:∀ b,H b = none->zhI H e b = none:=fun b q=>by
  unfold zhI
  split
  ·rfl
  ·exact q
 refine ⟨I.ok,I.os,I.bare,⟨I.base.keep,I.base.slot,fun b ob q n x=>nn b (I.base.free b ob q n x),I.base.there,fun b xs q=>?_,fun b u xs q=>?_,fun b ps q=>?_⟩,I.loc,I.cell,nn _ I.free,fun x c q=>nn _ (I.freeC x c q),fun p q=>?_,?_,I.len⟩
 ·have:=I.base.tups b xs q;rw [zcR (nh b _ this (fun _ z=>by cases z))];exact this
 ·have:=I.base.frzs b u xs q;rw [zcR (nh b _ this (fun _ z=>by cases z))];exact this
 ·obtain ⟨m,this⟩:=I.base.tbls b ps q;exact ⟨m,by rw [zcR (nh b _ this (fun _ z=>by cases z))];exact this⟩
 ·obtain ⟨a,b,c⟩:=I.pin p q
  exact ⟨a,nn _ b,c⟩
 ·intro b u q
  by_cases hb:b = e
  ·subst hb;rw [zkE] at q;cases q
  ·rw [zcR hb] at q
   exact (I.hok b u q).stay (fun _ _ _ z=>z) (fun c z=>by rw [zcR (nh c _ z (fun _ y=>by cases y))];exact z) fun c xs z=>by rw [zcR (nh c _ z (fun _ y=>by cases y))];exact z
end
noncomputable def CXX (P:Program) (w:World):CXT:=fun l H s E ev s'=>∃ (e t C:Addr) (oe:Obj) (B:Heap) (H':Hp),ev = .ref e/\Heap.FlyingW B l e (.ref C) (.ref t) s'.heap/\s'.heap.get? e = some oe/\s'.os = s.os/\AllBare s'.gens /\
 Un (frs l) [] H H' s.heap s'.heap/\HOk P w H' s'.heap/\(∀ b o,s'.heap.get? b = some o->b ∉ frs l->(H' b ≠ none\/∃ o',s.heap.get? b = some o')->B.get? b = some o)/\(∀ b ∈ frs l,H' b = none)/\E (.ref C) oe.dict H'
noncomputable abbrev xns:List Str:=["__setattr__","at","__getattribute__","__getattr__"]
structure XcAt (K:Frag) (mg:Str->Option Value) (x:Str) (C fI:Addr):Prop where
 bound:mg x = some (.ref C)
 obj:∀ h:Heap,K.In h->∃ bm N nm q bs sn sub ab col dd k0 k1 k2 k3 k5 mN,h.get? C = some (excClassObj nm q C N bs bm true sn sub ab col dd k0 k1 k2 k3 k5 "ValueError.__new__")/\h.Ns N mN/\mN "__init__" = some (.ref fI)/\(∀ n ∈ xns,mN n = none)/\Tl h zdz ("__init__" :: xns) bm
 fn:∃ oI,K.lookup fI = some oI/\oI.cls = .type "function"
theorem znT:typeLookup (.type "ValueError") "at" = pure none:=by rw [typeLookup_type,builtinLookup_eq_fast];kernel_rfl
section
variable {E:XK} {o value:Expr} {ta tv:TE} {pos pos':Pos}
theorem Inv.new0 (I:Inv X pins σ H s) (hex:X.ex = []) (he:s.heap.get? e = none):X.s₀.heap.get? e = none/\H e = none/\e ≠ X.env.locals/\(∀ x c,X.env.cells.lookup x = some c->c ≠ e)/\∀ p ∈ X.pn ++ pins,p.1 ≠ e:=by
 refine ⟨?_,?_,fun z=>?_,fun x c q z=>?_,fun p q z=>?_⟩
 ·cases q:X.s₀.heap.get? e with
  | none=>rfl
  | some u=>
   obtain ⟨o',e'⟩:=I.base.there e u q (by rw [hex];simp)
   rw [he] at e';cases e'
 ·cases q:H e with
  | none=>rfl
  | some u=>
   obtain ⟨o',e'⟩:=(I.hok e u q).there
   rw [he] at e';cases e'
 ·obtain ⟨m,⟨ob,_,_,e',_⟩,_⟩:=I.loc
  rw [← z,he] at e';cases e'
 ·obtain ⟨v,ob,e',_⟩:=I.cell x c q
  rw [z,he] at e';cases e'
 ·have:=(I.pin p q).1
  rw [z,he] at this;cases this
theorem zo1 (hex:X.ex = []) (ha:PE X o ta) (hv:PE X value tv) (hs:swapsWith value (some (.Attribute o "at" pos')) pos.line X.env = pure false:=by rfl):PS X (.Assign [.Attribute o "at" pos'] value pos)
  (fun D σ H=>tv σ H fun y H1=>ta σ H1 fun x H2=>∃ e C fI t nm,x = .ref e/\XcAt X.K X.mg nm C fI/\H2 e = some (.ext (ExN e C t none))/\∀ d,H2 d = none->d ≠ e->D.nx σ (upd (upd H2 e (.ext (ExN e C t (some d)))) d (.xd [("at",y)]))):=by
 intro pins s σ H D I h
 refine plainObj_wpAny_Assign_Attribute (thn (hv pins s σ H _ I h) fun u s1 ⟨y,H1,I1,ry,q⟩=>thn (ha pins s1 σ H1 _ I1 q) fun ov s2 ⟨x,H2,I2,rx,e,C,fI,t,nm,ex,O,ee,q2⟩=>?_) hs
 subst ex
 obtain rfl:ov = Value.ref e:=rx
 obtain ⟨bm,N,nm,q,bs,sn,sub,ab,col,dd,k0,k1,k2,k3,k5,mN,hC,hN,hi,hno,T⟩:=O.obj s2.heap I2.kIn
 obtain ⟨g0,_,_⟩:=I2.hok e _ ee
 have g0:s2.heap.get? e = some (zlv C t none):=g0
 obtain ⟨h2,ge,dr,tk,os⟩:=s2
 refine zrL hC hN T (by decide) (hno _ (by decide)) (by decide) (hno _ (by decide)) (by decide) znT g0 rfl (fun c z=>by cases z) rfl fun h' tk' dx a1 a2 a3 a4 a5=>?_
 have I3:Inv X pins σ (upd H2 e (.ext (ExN e C t (some dx)))) ⟨h',ge,dr,tk',os⟩:=I2.write (t':=tk') (by rw [ee];trivial) (.inl rfl) (fun b u nb e'=>a5 b u nb e') ⟨_,a3⟩ (zqt a3)
 obtain ⟨b1,b2,b3,b4,b5⟩:=I2.new0 hex a1
 have I4:Inv X pins σ (upd (upd H2 e (.ext (ExN e C t (some dx)))) dx (.xd [("at",y)])) ⟨h',ge,dr,tk',os⟩:=I3.take b1 (by rw [zm a2];exact b2) b3 b4 b5 ⟨_,a4,fun f=>by
  by_cases hf:f = "at"
  ·subst hf;exact ry
  ·rw [QB hf]
   show RelO (List.lookup f [("at",y)]) none
   rw [lookup_cons]
   simp only [beq_eq_false_iff_ne.mpr hf,List.lookup_nil]
   trivial⟩
 exact ⟨σ,_,I4,q2 dx b2 a2⟩
end
theorem zjJ {K:Frag} {mg:Str->Option Value} {base:Heap} {x qual:Str} {st:Stmt} {f:Addr} {fd:FuncData} {p1 p2 p3 p4:Pos} (O:XcAt K mg x C f) (F:Fun K "__init__" qual st f fd) (S:FnScope ["self","at"] ["self","at"] (yf st))
 (hb:yI st = [.Assign [.Attribute (.Name "self" p1) "at" p2] (.Name "at" p3) p4]) (l1:(yf st).names.lookup ("self":Str) = some NameKind.local) (l2:(yf st).names.lookup ("at":Str) = some NameKind.local) :
  FnOk P w K mg base CX0 1 f fd ["self","at"] (fun vs H Q E=>(∃ e t v,vs = [.ref e,v]/\H e = some (.ext (ExN e C t none))/\∀ d,H d = none->d ≠ e->Q .non (upd (upd H e (.ext (ExN e C t (some d)))) d (.xd [("at",v)])))):=by
 refine F.ok S (fun vs H Q E ⟨e,t,v,h,_⟩=>by rw [h];rfl) fun cdv A outer s H vs Q E hr ⟨e,t,v,h1,h2,h3⟩=>?_
 subst h1
 rw [hb]
 refine ⟨_,zjw (zo1 rfl (zh2 (i:=0) rfl (.inl l1)) (zh2 (i:=1) rfl (.inl l2))),?_⟩
 exact ⟨v,rfl,.ref e,rfl,e,C,f,t,x,rfl,O,h2,h3⟩
structure Sup (K:Frag) (mg:Str->Option Value) (y:Str) (C C':Addr):Prop where
 bound:mg y = some (.ref C)
 obj:∀ h:Heap,K.In h->(∃ bm N nm q bs hdct sn sub ab col dd k0 k1 k2 k3 k5,h.get? C = some (excClassObj nm q C N bs bm hdct sn sub ab col dd k0 k1 k2 k3 k5 "ValueError.__new__")/\bm.contains (.type "BaseException") = true) /\
  ∃ bm N nm q bs hdct sn sub ab col dd k0 k1 k2 k3 k5,h.get? C' = some (excClassObj nm q C' N bs bm hdct sn sub ab col dd k0 k1 k2 k3 k5 "ValueError.__new__")/\(Value.ref C' :: bm).contains (.ref C) = true
def PX (X:Cx) (sts:List Stmt) (t:XK->TS):Prop:=
 ∀ (E:XK) (pins:List (Addr × Obj)) (s:Shared) (σ:St) (H:Hp) (D:Ends),Inv X pins σ H s->t E D σ H->
  wpAny (model X.prog X.w) X.A (execs sts X.env) (SP X pins D) (fun ev s'=>∃ H1 s1,Inv X pins σ H1 s1/\CXX X.prog X.w X.stack H1 s1 E ev s') s
end L2
namespace FT
open PySem PySem.Spec PyProof.Rows L2
noncomputable def noStar:Expr->Bool
 | .Starred _ _=>false
 | _=>true
variable {e:Expr} {es:List Expr}
theorem zbB {env:PySem.Env} (h:noStar e = true):starEach (e :: es) env = (false,eval e env) :: starEach es env:=by
 cases e <;> first | rfl | cases h
theorem zdS {env:PySem.Env} {pos:Pos}:∀ {es:List Expr},es.all noStar = true->(backTo pos (starEach es env)).any (·.1) = false:=by
 intro es h
 have h1:(starEach es env).any (·.1) = false:=by
  induction es with
  | nil=>rfl
  | cons e es ih=>
   rw [all_cons,Qs] at h
   rw [zbB h.1,any_cons,ih h.2]
   rfl
 have h2:∀ l:List (Bool × Sem Value),l.any (·.1) = false->(backTo pos l).any (·.1) = false:=by
  intro l hl
  unfold backTo
  rw [List.any_map]
  exact hl
 exact h2 _ h1
inductive T where
 | non | bl (b:Bool) | int (i:Int) | str (x:Str) | ty (n:String) | tup (xs:List T) | lst (xs:List T) | ref (a:Nat) | dct (kvs:List (Key × T)) | exc (C:Addr) (fs:List (Str × T))
inductive Cell where
 | lst (xs:List T) | dic (kvs:List (Key × T)) | ins (C:Addr) (fs:List (Str × T)) | dtu (kvs:List (List Key × T))
noncomputable abbrev Mem:=List Cell
noncomputable abbrev Ev:=List (Option T)
inductive Out (β:Type) where
 | ok (b:β) (M:Mem) | exn (C:Addr) (fs:List (Str × T)) (M:Mem) | bad
noncomputable def Out.bind {β γ:Type} (o:Out β) (k:β->Mem->Out γ):Out γ:=match o with
 | .ok b M=>k b M
 | .exn C fs M=>.exn C fs M
 | .bad=>.bad
theorem zsD {β γ:Type} (b:β) (M:Mem) (k:β->Mem->Out γ):(Out.ok b M).bind k = k b M:=rfl
theorem zsq {β γ:Type} (k:β->Mem->Out γ):(Out.bad:Out β).bind k = .bad:=rfl
structure Sit where
 α:Nat->Addr
 M:Mem
 H:Hp
 hid:List Addr
def Sit.off (S:Sit) (p:Addr):Prop:=(∀ a,a < S.M.length->S.α a ≠ p)/\p ∉ S.hid
def KL (K:Frag) (a:Addr) (xs:List V):Prop:=
 ∃ (o:Obj) (its:Array Value) (n:Nat),K.lookup a = some o/\o.cls = .type "list"/\o.dict = none/\o.data = .seq its n/\its.size<=sizeLine/\Vals xs its.toList
inductive Rep (K:Frag) (S:Sit):T->V->Prop where
 | non:Rep K S .non .non
 | bl (b:Bool):Rep K S (.bl b) (.bl b)
 | int (i:Int):Rep K S (.int i) (.int i)
 | str (x:Str):Rep K S (.str x) (.str x)
 | ty (x:String):Rep K S (.ty x) (.ty x)
 | tup {ts:List T} {p:Addr} {vs:List V} (h:SqT K S.H p vs) (l:ts.length = vs.length) (r:∀ (i:Nat) t v,ts[i]? = some t->vs[i]? = some v->Rep K S t v):Rep K S (.tup ts) (.ref p)
 | lst {ts:List T} {p:Addr} {vs:List V} (h:(Rd S.H p (.lst vs)/\S.off p)\/KL K p vs) (l:ts.length = vs.length) (r:∀ (i:Nat) t v,ts[i]? = some t->vs[i]? = some v->Rep K S t v):Rep K S (.lst ts) (.ref p)
 | ref {a:Nat} (h:a < S.M.length):Rep K S (.ref a) (.ref (S.α a))
 | dct {kvs:List (Key × T)} {us:List (Key × V)} {p:Addr} {o:Obj} (h:S.H p = some (.frz o (.dK us))) (l:kvs.map (·.1) = us.map (·.1)) (r:∀ (i:Nat) t v,(kvs.map (·.2))[i]? = some t->(us.map (·.2))[i]? = some v->Rep K S t v):Rep K S (.dct kvs) (.ref p)
 | exc {C:Addr} {fs:List (Str × T)} {us:List (Str × V)} {p:Addr} {od:Option Addr} (h:S.H p = some (.ext (ExO p C od))) (hd:(od = none/\us = [])\/∃ d,od = some d/\S.H d = some (.xd us)) (l:fs.map (·.1) = us.map (·.1)) (r:∀ (i:Nat) t v,(fs.map (·.2))[i]? = some t->(us.map (·.2))[i]? = some v->Rep K S t v):Rep K S (.exc C fs) (.ref p)
def Reps (K:Frag) (S:Sit) (ts:List T) (vs:List V):Prop:=ts.length = vs.length/\∀ (i:Nat) t v,ts[i]? = some t->vs[i]? = some v->Rep K S t v
def RepF (K:Frag) (S:Sit) (fs:List (Str × T)) (us:List (Str × V)):Prop:=fs.map (·.1) = us.map (·.1)/\Reps K S (fs.map (·.2)) (us.map (·.2))
def RepK {κ:Type} (K:Frag) (S:Sit) (fs:List (κ × T)) (us:List (κ × V)):Prop:=fs.map (·.1) = us.map (·.1)/\Reps K S (fs.map (·.2)) (us.map (·.2))
noncomputable def CellOk (K:Frag) (S:Sit) (p:Addr):Cell->Prop
 | .lst ts=>∃ vs,S.H p = some (.lst vs)/\Reps K S ts vs
 | .dic kvs=>∃ us,S.H p = some (.dK us)/\RepK K S kvs us
 | .ins C fs=>∃ dx us,S.H p = some (.ins C dx us)/\RepF K S fs us
 | .dtu kvs=>∃ us,S.H p = some (.dT us)/\RepK K S kvs us
structure MemOk (K:Frag) (S:Sit):Prop where
 cell:∀ a c,S.M[a]? = some c->CellOk K S (S.α a) c
 inj:∀ a b,a < S.M.length->b < S.M.length->S.α a = S.α b->a = b
 hd:∀ p ∈ S.hid,(∀ a,a < S.M.length->S.α a ≠ p)/\∃ vs,S.H p = some (.lst vs)
structure Grow (S S':Sit):Prop where
 le:S.M.length<=S'.M.length
 al:∀ a,a < S.M.length->S'.α a = S.α a
 fr:∀ a,S.M.length<=a->a < S'.M.length->S.H (S'.α a) = none
 kp:∀ b o,S.H b = some o->S.off b->S'.H b = some o
 hk:∀ p ∈ S.hid,p ∈ S'.hid/\S'.H p = S.H p
 hf:∀ p ∈ S'.hid,p ∈ S.hid\/S.H p = none
structure Stp (K:Frag) (S S':Sit):Prop extends Grow S S' where
 mok:MemOk K S'
variable {p:Addr} {K:Frag} {ts:List T} {vs:List V} {S':Sit} {v:V}
section
variable {S S'':Sit}
theorem MemOk.some (m:MemOk K S) {a:Nat} (h:a < S.M.length):∃ o,S.H (S.α a) = Option.some o/\Mut (Option.some o):=by
 have e:S.M[a]? = Option.some S.M[a]:=by simp [h]
 have c:=m.cell a _ e
 cases q:S.M[a] with
 | lst ts=>rw [q] at c;obtain ⟨vs,e,_⟩:=c;exact ⟨_,e,trivial⟩
 | dic ts=>rw [q] at c;obtain ⟨vs,e,_⟩:=c;exact ⟨_,e,trivial⟩
 | ins C fs=>rw [q] at c;obtain ⟨dx,vs,e,_⟩:=c;exact ⟨_,e,trivial⟩
 | dtu ts=>rw [q] at c;obtain ⟨vs,e,_⟩:=c;exact ⟨_,e,trivial⟩
theorem MemOk.off_of (m:MemOk K S) {o:Option HO} (e:S.H p = o) (h:¬ Mut o):S.off p:=by
 refine ⟨fun a ha z=>?_,fun z=>?_⟩
 ·obtain ⟨o',e',mu⟩:=m.some ha
  rw [z,e] at e'
  rw [e'] at h
  exact h mu
 ·obtain ⟨_,vs,q⟩:=m.hd p z
  rw [e] at q
  rw [q] at h
  exact h trivial
theorem MemOk.off_ext (m:MemOk K S) {φ:Heap->Prop} (e:S.H p = Option.some (.ext φ)):S.off p:=by
 refine ⟨fun a ha z=>?_,fun z=>?_⟩
 ·have ea:S.M[a]? = Option.some S.M[a]:=by simp [ha]
  have c:=m.cell a _ ea
  cases q:S.M[a] with
  | lst ts=>rw [q] at c;obtain ⟨vs,e',_⟩:=c;rw [z,e] at e';cases e'
  | dic ts=>rw [q] at c;obtain ⟨vs,e',_⟩:=c;rw [z,e] at e';cases e'
  | ins C fs=>rw [q] at c;obtain ⟨dx,vs,e',_⟩:=c;rw [z,e] at e';cases e'
  | dtu ts=>rw [q] at c;obtain ⟨vs,e',_⟩:=c;rw [z,e] at e';cases e'
 ·obtain ⟨_,vs,q⟩:=m.hd p z
  rw [e] at q;cases q
theorem MemOk.off_none (m:MemOk K S) (e:S.H p = none):S.off p:=m.off_of e (fun z=>z)
theorem Grow.tup (g:Grow S S') (m:MemOk K S) (h:SqT K S.H p vs):SqT K S'.H p vs:=by
 rcases h with (h | ⟨o,h⟩) | h
 ·exact .inl (.inl (g.kp _ _ h (m.off_of h (fun z=>z))))
 ·exact .inl (.inr ⟨o,g.kp _ _ h (m.off_of h (fun z=>z))⟩)
 ·exact .inr h
theorem Grow.off (g:Grow S S') {o:HO} (h:S.H p = some o) (f:S.off p):S'.off p:=by
 refine ⟨fun a ha z=>?_,fun z=>?_⟩
 ·by_cases hl:a < S.M.length
  ·rw [g.al a hl] at z;exact f.1 a hl z
  ·have:=g.fr a (Nat.le_of_not_lt hl) ha
   rw [z,h] at this
   cases this
 ·rcases g.hf p z with q | q
  ·exact f.2 q
  ·rw [h] at q;cases q
theorem Grow.rd (g:Grow S S') {u:HO} (h:Rd S.H p u) (f:S.off p):Rd S'.H p u/\S'.off p:=by
 rcases h with h | ⟨o,h⟩
 ·exact ⟨.inl (g.kp _ _ h f),g.off h f⟩
 ·exact ⟨.inr ⟨o,g.kp _ _ h f⟩,g.off h f⟩
theorem Rep.grow (m:MemOk K S) (g:Grow S S') {t:T} (r:Rep K S t v):Rep K S' t v:=by
 induction r with
 | non=>exact .non
 | bl b=>exact .bl b
 | int b=>exact .int b
 | str b=>exact .str b
 | ty b=>exact .ty b
 | tup h l _ ih=>exact .tup (g.tup m h) l ih
 | lst h l _ ih=>
  refine .lst ?_ l ih
  rcases h with ⟨h,f⟩ | h
  ·exact .inl (g.rd h f)
  ·exact .inr h
 | ref h=>rw [← g.al _ h];exact .ref (Q5 h g.le)
 | dct h l _ ih=>exact .dct (g.kp _ _ h (m.off_of h (fun z=>z))) l ih
 | exc h hd l _ ih=>exact .exc (g.kp _ _ h (m.off_ext h)) (hd.imp (fun z=>z) fun ⟨d,a,b⟩=>⟨d,a,g.kp _ _ b (m.off_of b (fun z=>z))⟩) l ih
theorem Reps.grow (m:MemOk K S) (g:Grow S S') (r:Reps K S ts vs):Reps K S' ts vs:=⟨r.1,fun i t v e1 e2=>(r.2 i t v e1 e2).grow m g⟩
theorem RepF.grow (m:MemOk K S) (g:Grow S S') {ts:List (Str × T)} {vs:List (Str × V)} (r:RepF K S ts vs):RepF K S' ts vs:=⟨r.1,r.2.grow m g⟩
theorem RepK.grow {κ:Type} (m:MemOk K S) (g:Grow S S') {ts:List (κ × T)} {vs:List (κ × V)} (r:RepK K S ts vs):RepK K S' ts vs:=⟨r.1,r.2.grow m g⟩
theorem Reps.nil:Reps K S [] []:=⟨rfl,fun _ _ _ e _=>by simp at e⟩
theorem Reps.cons {t:T} (r:Rep K S t v) (rs:Reps K S ts vs):Reps K S (t :: ts) (v :: vs):=by
 refine ⟨by simp [rs.1],fun i a b e1 e2=>?_⟩
 cases i with
 | zero=>simp at e1 e2;subst e1;subst e2;exact r
 | succ i=>exact rs.2 i a b (by simpa using e1) (by simpa using e2)
theorem Reps.nil_inv (r:Reps K S ts []):ts = []:=List.length_eq_zero_iff.mp (by rw [r.1];rfl)
theorem Reps.consT {t:T} (r:Reps K S (t :: ts) vs):∃ v vs',vs = v :: vs'/\Rep K S t v/\Reps K S ts vs':=by
 cases vs with
 | nil=>have:=r.1;simp at this
 | cons v vs'=>exact ⟨v,vs',rfl,r.2 0 t v rfl rfl,by have:=r.1;simpa using this,fun i a b e1 e2=>r.2 (i + 1) a b (by simpa using e1) (by simpa using e2)⟩
theorem Reps.nilT (r:Reps K S [] vs):vs = []:=List.length_eq_zero_iff.mp (by rw [← r.1];rfl)
theorem Reps.app {ts':List T} {vs':List V} (r:Reps K S ts vs) (r':Reps K S ts' vs'):Reps K S (ts ++ ts') (vs ++ vs'):=by
 induction ts generalizing vs with
 | nil=>rw [r.nilT];exact r'
 | cons t ts ih=>
  obtain ⟨v,vs1,rfl,r1,r2⟩:=r.consT
  exact (ih r2).cons r1
theorem Reps.get (r:Reps K S ts vs) {i:Nat} {t:T} (e:ts[i]? = some t):∃ v,vs[i]? = some v/\Rep K S t v:=by
 have hi:i < vs.length:=by rw [← r.1];exact (Qz.mp e).1
 have e2:vs[i]? = some vs[i]:=by simp [hi]
 exact ⟨_,e2,r.2 i t _ e e2⟩
theorem Reps.set (r:Reps K S ts vs) {t:T} (q:Rep K S t v) (j:Nat):Reps K S (ts.set j t) (vs.set j v):=by
 refine ⟨by simp [r.1],fun i a b e1 e2=>?_⟩
 rw [Qc] at e1 e2
 by_cases h:j = i
 ·subst h
  by_cases hl:j < ts.length
  ·rw [QA rfl,QA hl] at e1
   rw [QA rfl,QA (by rw [← r.1];exact hl)] at e2
   cases e1;cases e2;exact q
  ·rw [QA rfl,QB hl] at e1;cases e1
 ·rw [QB h] at e1 e2
  exact r.2 i a b e1 e2
theorem Reps.sub (r:Reps K S ts vs) (a b:Nat):Reps K S ((ts.drop a).take b) ((vs.drop a).take b):=by
 refine ⟨by simp [r.1],fun i x y e1 e2=>?_⟩
 rw [List.getElem?_take] at e1 e2
 split at e1
 ·rename_i h
  rw [QA h] at e2
  rw [List.getElem?_drop] at e1 e2
  exact r.2 _ x y e1 e2
 ·cases e1
theorem CellOk.grow (m:MemOk K S) (g:Grow S S') {c:Cell} (e:S'.H p = S.H p) (h:CellOk K S p c):CellOk K S' p c:=by
 cases c with
 | lst ts=>obtain ⟨vs,q,r⟩:=h;exact ⟨vs,by rw [e];exact q,r.grow m g⟩
 | dic ts=>obtain ⟨vs,q,r⟩:=h;exact ⟨vs,by rw [e];exact q,r.grow m g⟩
 | ins C ts=>obtain ⟨dx,vs,q,r⟩:=h;exact ⟨dx,vs,by rw [e];exact q,r.grow m g⟩
 | dtu ts=>obtain ⟨vs,q,r⟩:=h;exact ⟨vs,by rw [e];exact q,r.grow m g⟩
theorem Stp.refl (m:MemOk K S):Stp K S S:=⟨⟨Q3 _,fun _ _=>rfl,fun a h1 h2=>absurd (Q5 h2 h1) (Qo _),fun _ _ e _=>e,fun _ h=>⟨h,rfl⟩,fun _ h=>.inl h⟩,m⟩
theorem Stp.trans (a:Stp K S S') (b:Stp K S' S''):Stp K S S'':=by
 have nn:∀ p,S'.H p = none->S.H p = none:=fun p hn=>by
  cases q:S.H p with
  | none=>rfl
  | some o=>
   by_cases f:S.off p
   ·rw [a.kp _ _ q f] at hn;cases hn
   ·exfalso
    apply f
    refine ⟨fun c hc z=>?_,fun z=>?_⟩
    ·have h3:c < S'.M.length:=Q5 hc a.le
     obtain ⟨o',e',_⟩:=a.mok.some h3
     rw [a.al c hc,z,hn] at e'
     cases e'
    ·rw [(a.hk p z).2,q] at hn;cases hn
 refine ⟨⟨Qj a.le b.le,fun i hi=>(b.al i (Q5 hi a.le)).trans (a.al i hi),fun i h1 h2=>?_,fun p o e f=>b.kp _ _ (a.kp _ _ e f) (a.off e f),fun p h=>⟨(b.hk p (a.hk p h).1).1,(b.hk p (a.hk p h).1).2.trans (a.hk p h).2⟩,fun p h=>?_⟩,b.mok⟩
 ·by_cases hl:i < S'.M.length
  ·rw [b.al i hl];exact a.fr i h1 hl
  ·exact nn _ (b.fr i (Nat.le_of_not_lt hl) h2)
 ·rcases b.hf p h with q | q
  ·exact a.hf p q
  ·exact .inr (nn p q)
theorem Stp.new (m:MemOk K S) (hp:S.H p = none) (o:HO):Stp K S ⟨S.α,S.M,upd S.H p o,S.hid⟩:=by
 have g:Grow S ⟨S.α,S.M,upd S.H p o,S.hid⟩:=⟨Q3 _,fun _ _=>rfl,fun a h1 h2=>absurd (Q5 h2 h1) (Qo _),fun b u e _=>by show upd S.H p o b = _;rw [zm (zE e hp)];exact e,fun q h=>⟨h,by obtain ⟨_,vs,e⟩:=m.hd q h;exact zm (zE e hp)⟩,fun q h=>.inl h⟩
 refine ⟨g,⟨fun a c e=>?_,m.inj,fun q h=>?_⟩⟩
 rotate_left
 ·obtain ⟨h1,vs,e⟩:=m.hd q h
  exact ⟨h1,vs,(zm (zE e hp)).trans e⟩
 refine (m.cell a c e).grow m g ?_
 have ha:a < S.M.length:=(Qz.mp e).1
 exact zm ((m.off_none hp).1 a ha)
noncomputable def Sit.more (S:Sit) (p:Addr) (o:HO) (c:Cell):Sit:=⟨fun a=>if a = S.M.length then p else S.α a,S.M ++ [c],upd S.H p o,S.hid⟩
theorem Grow.more (m:MemOk K S) (hp:S.H p = none) (o:HO) (c:Cell):Grow S (S.more p o c):=by
 refine ⟨by show _<=(S.M ++ [c]).length;simp,fun a h=>QB (Qk h),fun a h1 h2=>?_,fun b u e _=>?_,fun q h=>⟨h,by obtain ⟨_,vs,e⟩:=m.hd q h;exact zm (zE e hp)⟩,fun q h=>.inl h⟩
 ·have h3:a < (S.M ++ [c]).length:=h2
  have:a = S.M.length:=by simp at h3;omega
  show S.H (if a = S.M.length then p else S.α a) = none
  rw [QA this];exact hp
 ·show upd S.H p o b = _;rw [zm (zE e hp)];exact e
theorem Stp.more (m:MemOk K S) (hp:S.H p = none) (o:HO) (c:Cell) (hc:CellOk K (S.more p o c) p c):Stp K S (S.more p o c):=by
 have g:=Grow.more m hp o c
 refine ⟨g,⟨fun a d e=>?_,fun a b h1 h2 e=>?_,fun q h=>?_⟩⟩
 rotate_right
 ·obtain ⟨h1,vs,e⟩:=m.hd q h
  refine ⟨fun a ha z=>?_,vs,(zm (zE e hp)).trans e⟩
  have z':(if a = S.M.length then p else S.α a) = q:=z
  by_cases hl:a = S.M.length
  ·rw [QA hl] at z';rw [← z',hp] at e;cases e
  ·rw [QB hl] at z'
   have h3:a < (S.M ++ [c]).length:=ha
   exact h1 a (by simp at h3;omega) z'
 ·have e':(S.M ++ [c])[a]? = some d:=e
  by_cases ha:a < S.M.length
  ·rw [Q6 ha] at e'
   show CellOk K _ (if a = S.M.length then p else S.α a) d
   rw [QB (Qk ha)]
   exact (m.cell a d e').grow m g (zm ((m.off_none hp).1 a ha))
  ·rw [Q8 (Nat.le_of_not_lt ha)] at e'
   have h3:a - S.M.length = 0:=by
    cases q:a - S.M.length with
    | zero=>rfl
    | succ k=>rw [q] at e';simp at e'
   rw [h3] at e'
   cases e'
   show CellOk K _ (if a = S.M.length then p else S.α a) c
   rw [QA (by omega)]
   exact hc
 ·have h1':a < (S.M ++ [c]).length:=h1
  have h2':b < (S.M ++ [c]).length:=h2
  have e':(if a = S.M.length then p else S.α a) = (if b = S.M.length then p else S.α b):=e
  simp at h1' h2'
  by_cases ha:a = S.M.length
  ·by_cases hb:b = S.M.length
   ·omega
   ·rw [QA ha,QB hb] at e'
    exact absurd e'.symm ((m.off_none hp).1 b (by omega))
  ·by_cases hb:b = S.M.length
   ·rw [QB ha,QA hb] at e'
    exact absurd e' ((m.off_none hp).1 a (by omega))
   ·rw [QB ha,QB hb] at e'
    exact m.inj a b (by omega) (by omega) e'
noncomputable def Sit.put (S:Sit) (a:Nat) (o:HO) (c:Cell):Sit:=⟨S.α,S.M.set a c,upd S.H (S.α a) o,S.hid⟩
theorem Grow.put (m:MemOk K S) {a:Nat} (ha:a < S.M.length) (o:HO) (c:Cell):Grow S (S.put a o c):=by
 refine ⟨by show _<=(S.M.set a c).length;simp,fun _ _=>rfl,fun b h1 h2=>?_,fun b u e f=>?_,fun q h=>⟨h,zm (Ne.symm ((m.hd q h).1 a ha))⟩,fun q h=>.inl h⟩
 ·have h3:b < (S.M.set a c).length:=h2
  simp at h3
  exact absurd (Q5 h3 h1) (Qo _)
 ·show upd S.H (S.α a) o b = _
  rw [zm (Ne.symm (f.1 a ha))];exact e
theorem Stp.put (m:MemOk K S) {a:Nat} (ha:a < S.M.length) (o:HO) (c:Cell) (hc:CellOk K (S.put a o c) (S.α a) c):Stp K S (S.put a o c):=by
 have g:=Grow.put m ha o c
 refine ⟨g,⟨fun b d e=>?_,fun i j h1 h2 e=>?_,fun q h=>?_⟩⟩
 rotate_right
 ·obtain ⟨h1,vs,e⟩:=m.hd q h
  refine ⟨fun b hb z=>?_,vs,(zm (Ne.symm (h1 a ha))).trans e⟩
  have h3:b < (S.M.set a c).length:=hb
  simp at h3
  exact h1 b h3 z
 ·have e':(S.M.set a c)[b]? = some d:=e
  rw [Qc] at e'
  by_cases h:a = b
  ·subst h
   rw [QA rfl,QA ha] at e'
   cases e'
   exact hc
  ·rw [QB h] at e'
   refine (m.cell b d e').grow m g (zm fun z=>h ?_)
   exact (m.inj b a (Qz.mp e').1 ha z).symm
 ·have h1':i < (S.M.set a c).length:=h1
  have h2':j < (S.M.set a c).length:=h2
  simp at h1' h2'
  exact m.inj i j h1' h2' e
end
def EvR (K:Frag) (S:Sit) (στ:Ev) (σ:L2.St):Prop:=στ.length = σ.length/\∀ (i:Nat) t,στ[i]? = some (some t)->∃ v,σ[i]? = some (some v)/\Rep K S t v
class Mo (K:Frag) {β γ:Type} (R:Sit->β->γ->Prop):Prop where
 mo:∀ {S S' b c},MemOk K S->Stp K S S'->R S b c->R S' b c
noncomputable def UnR:Sit->Unit->Unit->Prop:=fun _ _ _=>True
noncomputable def EqR {β:Type}:Sit->β->β->Prop:=fun _ b c=>b = c
noncomputable def PrR {A AV B BV:Type} (RA:Sit->A->AV->Prop) (RB:Sit->B->BV->Prop):Sit->A × B->AV × BV->Prop:=fun S a v=>RA S a.1 v.1/\RB S a.2 v.2
instance (K):Mo K (Rep K):=⟨fun m s r=>r.grow m s.toGrow⟩
instance (K):Mo K (Reps K):=⟨fun m s r=>r.grow m s.toGrow⟩
instance (K):Mo K (EvR K):=⟨fun m s r=>⟨r.1,fun i t e=>let ⟨v,e',q⟩:=r.2 i t e;⟨v,e',q.grow m s.toGrow⟩⟩⟩
instance (K):Mo K UnR:=⟨fun _ _ r=>r⟩
instance (K) {β:Type}:Mo K (EqR (β:=β)):=⟨fun _ _ r=>r⟩
instance (K) {A AV B BV:Type} (RA:Sit->A->AV->Prop) (RB:Sit->B->BV->Prop) [Mo K RA] [Mo K RB]:Mo K (PrR RA RB):=⟨fun m s r=>⟨Mo.mo m s r.1,Mo.mo m s r.2⟩⟩
def zqG (K:Frag) (S:Sit) (fs:List (Str × T)) (od:Option Addr):Prop:=(fs = []/\od = none)\/∃ d us,od = some d/\S.H d = some (.xd us)/\RepF K S fs us
def Fin {β γ:Type} (XE:XK) (R:Sit->β->γ->Prop) (K:Frag) (S:Sit) (o:Out β) (Q:γ->Hp->Prop):Prop:=match o with
 | .ok b M'=>∀ S' c,S'.M = M'->Stp K S S'->R S' b c->Q c S'.H
 | .exn C fs M'=>∀ S' od,S'.M = M'->Stp K S S'->zqG K S' fs od->XE (.ref C) od S'.H
 | .bad=>False
variable {S1:Sit} {XE:XK}
theorem Fin.later {β γ:Type} {R:Sit->β->γ->Prop} {S:Sit} {o:Out β} {Q:γ->Hp->Prop} (s:Stp K S S1) (h:Fin XE R K S o Q):Fin XE R K S1 o Q:=by
 cases o with
 | ok b M'=>exact fun S' c e s' r=>h S' c e (s.trans s') r
 | exn C fs M'=>exact fun S' c e s' r=>h S' c e (s.trans s') r
 | bad=>exact h
theorem Fin.mono {β γ:Type} {R:Sit->β->γ->Prop} {S:Sit} {o:Out β} {Q Q':γ->Hp->Prop} (i:∀ c H,Q c H->Q' c H) (h:Fin XE R K S o Q):Fin XE R K S o Q':=by
 cases o with
 | ok b M'=>exact fun S' c e s' r=>i _ _ (h S' c e s' r)
 | exn C fs M'=>exact h
 | bad=>exact h
def LN {A AV β γ:Type} (XE:XK) (R:Sit->β->γ->Prop) (K:Frag) (RA:Sit->A->AV->Prop) (k:A->Ev->Mem->Out β) (av:AV) (σ:L2.St) (H:Hp) (Q:γ->Hp->Prop):Prop:=
 ∃ (S:Sit) (στ:Ev) (a:A),S.H = H/\MemOk K S/\EvR K S στ σ/\RA S a av/\Fin XE R K S (k a στ S.M) Q
def L0 {A AV β γ:Type} (XE:XK) (R:Sit->β->γ->Prop) (K:Frag) (RA:Sit->A->AV->Prop) (k:A->Mem->Out β) (av:AV) (H:Hp) (Q:γ->Hp->Prop):Prop:=
 ∃ (S:Sit) (a:A),S.H = H/\MemOk K S/\RA S a av/\Fin XE R K S (k a S.M) Q
variable {H:Hp} {σ:L2.St}
section
theorem LN.bind {A AV B BV β γ:Type} {R:Sit->β->γ->Prop} {RA:Sit->A->AV->Prop} {RB:Sit->B->BV->Prop} [Mo K RA] {f:A->Ev->Mem->Out B} {k:A->B->Ev->Mem->Out β} {av:AV} {Q:γ->Hp->Prop}
 (h:LN XE R K RA (fun a σ M=>(f a σ M).bind fun b M1=>k a b σ M1) av σ H Q) :
  LN XE RB K RA f av σ H (fun bv H1=>LN XE R K (PrR RA RB) (fun ab=>k ab.1 ab.2) (av,bv) σ H1 Q):=by
 obtain ⟨S,στ,a,e,m,ev,ra,fin⟩:=h
 refine ⟨S,στ,a,e,m,ev,ra,?_⟩
 replace fin:Fin XE R K S ((f a στ S.M).bind fun b M1=>k a b στ M1) Q:=fin
 cases q:f a στ S.M with
 | bad=>rw [q] at fin;exact fin
 | exn C fs M'=>rw [q] at fin;exact fin
 | ok b M1=>
  rw [q] at fin
  intro S1 c e1 s1 r1
  refine ⟨S1,στ,(a,b),rfl,s1.mok,Mo.mo m s1 ev,⟨Mo.mo m s1 ra,r1⟩,?_⟩
  rw [e1]
  exact fin.later s1
theorem LN.l0 {A AV β γ:Type} {R:Sit->β->γ->Prop} {RA:Sit->A->AV->Prop} {k:A->Mem->Out β} {av:AV} {Q:γ->Hp->Prop} (h:LN XE R K RA (fun a _ M=>k a M) av σ H Q):L0 XE R K RA k av H Q:=by
 obtain ⟨S,στ,a,e,m,ev,ra,fin⟩:=h
 exact ⟨S,a,e,m,ra,fin⟩
theorem LN.mono {A AV β γ:Type} {R:Sit->β->γ->Prop} {RA:Sit->A->AV->Prop} {k:A->Ev->Mem->Out β} {av:AV} {Q Q':γ->Hp->Prop} (h:LN XE R K RA k av σ H Q) (i:∀ c H,Q c H->Q' c H):LN XE R K RA k av σ H Q':=by
 obtain ⟨S,στ,a,e,m,ev,ra,fin⟩:=h
 exact ⟨S,στ,a,e,m,ev,ra,fin.mono i⟩
theorem LN.env {A AV β γ:Type} {R:Sit->β->γ->Prop} {RA:Sit->A->AV->Prop} {f:Ev->Mem->Out β} {av:AV} {Q:γ->Hp->Prop} (h:LN XE R K RA (fun _ σ M=>f σ M) av σ H Q):LN XE R K UnR (fun _ σ M=>f σ M) () σ H Q:=by
 obtain ⟨S,στ,a,e,m,ev,ra,fin⟩:=h
 exact ⟨S,στ,(),e,m,ev,trivial,fin⟩
end
noncomputable def lE (XE:XK) (K:Frag) (f:Ev->Mem->Out T):TE:=fun σ H Q=>LN XE (Rep K) K UnR (fun _ σ M=>f σ M) () σ H Q
noncomputable def lT (XE:XK) (K:Frag) (f:Ev->Mem->Out Bool):TT:=fun σ H Q=>LN XE EqR K UnR (fun _ σ M=>f σ M) () σ H Q
noncomputable def lA (XE:XK) (K:Frag) (f:Ev->Mem->Out (List T)):TA:=fun σ H Q=>LN XE (Reps K) K UnR (fun _ σ M=>f σ M) () σ H Q
def GE (X:Cx) (XE:XK) (e:Expr) (f:Ev->Mem->Out T):Prop:=PE X e (lE XE X.K f)
def GT (X:Cx) (XE:XK) (e:Expr) (f:Ev->Mem->Out Bool):Prop:=PT X e (lT XE X.K f)
def GW (X:Cx) (XE:XK) (e:Expr) (f:Ev->Mem->Out Bool):Prop:=PW X e (lT XE X.K f)
def GA (X:Cx) (XE:XK) (es:List Expr) (f:Ev->Mem->Out (List T)):Prop:=PA X es (lA XE X.K f)
variable {X:Cx}
theorem PE.imp {t t':TE} (h:PE X e t) (i:∀ σ H Q,t' σ H Q->t σ H Q):PE X e t':=fun pins s σ H Q I q=>h pins s σ H Q I (i σ H Q q)
variable {t':TT}
theorem PT.imp {t:TT} (h:PT X e t) (i:∀ σ H Q,t' σ H Q->t σ H Q):PT X e t':=fun pins s σ H Q I q=>h pins s σ H Q I (i σ H Q q)
theorem PW.imp {t:TT} (h:PW X e t) (i:∀ σ H Q,t' σ H Q->t σ H Q):PW X e t':=fun whole pins s σ H Q I q=>h whole pins s σ H Q I (i σ H Q q)
theorem PA.imp {e:List Expr} {t t':TA} (h:PA X e t) (i:∀ σ H Q,t' σ H Q->t σ H Q):PA X e t':=fun pos pins s σ H Q I q=>h pos pins s σ H Q I (i σ H Q q)
theorem PS.imp {e:Stmt} {t t':TS} (h:PS X e t) (i:∀ D σ H,t' D σ H->t D σ H):PS X e t':=fun pins s σ H D I q=>h pins s σ H D I (i D σ H q)
theorem PSs.imp {e:List Stmt} {t t':TS} (h:PSs X e t) (i:∀ D σ H,t' D σ H->t D σ H):PSs X e t':=fun pins s σ H D I q=>h pins s σ H D I (i D σ H q)
noncomputable def yb (i:Nat):Ev->Mem->Out T:=fun σ M=>match σ[i]? with
 | some (some t)=>.ok t M
 | _=>.bad
noncomputable def eC (t:T):Ev->Mem->Out T:=fun _ M=>.ok t M
noncomputable def eOp (o:T->T->Mem->Out T) (f g:Ev->Mem->Out T):Ev->Mem->Out T:=fun σ M=>(f σ M).bind fun x M1=>(g σ M1).bind fun y M2=>o x y M2
noncomputable def eUn (o:T->Mem->Out T) (f:Ev->Mem->Out T):Ev->Mem->Out T:=fun σ M=>(f σ M).bind fun x M1=>o x M1
noncomputable def blT {β:Type} (t:T) (M:Mem) (k:Bool->Mem->Out β):Out β:=match t with
 | .bl b=>k b M
 | _=>.bad
noncomputable def zk (f:Ev->Mem->Out T):Ev->Mem->Out Bool:=fun σ M=>(f σ M).bind fun x M1=>blT x M1 fun b M2=>.ok b M2
noncomputable def yR (f g:Ev->Mem->Out Bool):Ev->Mem->Out Bool:=fun σ M=>(f σ M).bind fun c M1=>if c = true then g σ M1 else .ok false M1
noncomputable def zai (f g:Ev->Mem->Out Bool):Ev->Mem->Out Bool:=fun σ M=>(f σ M).bind fun c M1=>if c = true then .ok true M1 else g σ M1
noncomputable def zbI (f:Ev->Mem->Out Bool):Ev->Mem->Out Bool:=fun σ M=>(f σ M).bind fun c M1=>.ok (!c) M1
noncomputable def zfF (f g:Ev->Mem->Out T):Ev->Mem->Out T:=fun σ M=>(f σ M).bind fun x M1=>blT x M1 fun b M2=>if b = true then g σ M2 else .ok (.bl false) M2
noncomputable def eOr (f g:Ev->Mem->Out T):Ev->Mem->Out T:=fun σ M=>(f σ M).bind fun x M1=>blT x M1 fun b M2=>if b = true then .ok (.bl true) M2 else g σ M2
noncomputable def zkt (f:Ev->Mem->Out T):Ev->Mem->Out T:=fun σ M=>(f σ M).bind fun x M1=>blT x M1 fun b M2=>.ok (.bl (!b)) M2
noncomputable def eIf (c:Ev->Mem->Out Bool) (f g:Ev->Mem->Out T):Ev->Mem->Out T:=fun σ M=>(c σ M).bind fun b M1=>if b = true then f σ M1 else g σ M1
noncomputable def zd:Ev->Mem->Out (List T):=fun _ M=>.ok [] M
noncomputable def zb (f:Ev->Mem->Out T) (g:Ev->Mem->Out (List T)):Ev->Mem->Out (List T):=fun σ M=>(f σ M).bind fun x M1=>(g σ M1).bind fun xs M2=>.ok (x :: xs) M2
noncomputable def yD (g:Ev->Mem->Out (List T)):Ev->Mem->Out T:=fun σ M=>(g σ M).bind fun xs M1=>if xs.length<=sizeLine then .ok (.tup xs) M1 else .bad
noncomputable def zD (g:Ev->Mem->Out (List T)):Ev->Mem->Out (List T):=fun σ M=>(g σ M).bind fun xs M1=>if xs.length<=sizeLine then .ok xs M1 else .bad
noncomputable def eFz (g:Ev->Mem->Out (List T)):Ev->Mem->Out T:=fun σ M=>(g σ M).bind fun xs M1=>.ok (.lst xs) M1
noncomputable def eTk (g:Ev->Mem->Out (List T)):Ev->Mem->Out T:=fun σ M=>(g σ M).bind fun xs M1=>.ok (.ref M1.length) (M1 ++ [.lst xs])
noncomputable def ze (f:List T->Mem->Out T) (g:Ev->Mem->Out (List T)):Ev->Mem->Out T:=fun σ M=>(g σ M).bind fun ts M1=>f ts M1
noncomputable def zeN (o o':T->T->Mem->Out T) (f g h:Ev->Mem->Out T):Ev->Mem->Out T:=fun σ M=>(f σ M).bind fun x M1=>(g σ M1).bind fun y M2=>(o x y M2).bind fun z M3=>blT z M3 fun b M4=>if b = true then (h σ M4).bind fun w M5=>o' y w M5 else .ok (.bl false) M4
noncomputable def lR2 (XE:XK) (K:Frag) (o:T->T->Mem->Out T):R2:=fun x y H Q=>L0 XE (Rep K) K (PrR (Rep K) (Rep K)) (fun a M=>o a.1 a.2 M) (x,y) H Q
noncomputable def lR1 (XE:XK) (K:Frag) (o:T->Mem->Out T):V->Hp->VK->Prop:=fun x H Q=>L0 XE (Rep K) K (Rep K) o x H Q
noncomputable def lRN (XE:XK) (K:Frag) (o:List T->Mem->Out T):List V->Hp->VK->Prop:=fun xs H Q=>L0 XE (Rep K) K (Reps K) o xs H Q
def FinL (XE:XK) (K:Frag) (S:Sit) (o:Out (List T)) (Q:VK):Prop:=match o with
 | .ok xs M'=>∀ S' p vs,S'.M = M'->Stp K S S'->S.H p = none->p ∈ S'.hid->S'.H p = some (.lst vs)->Reps K S' xs vs->Q (.ref p) S'.H
 | .exn C fs M'=>∀ S' od,S'.M = M'->Stp K S S'->zqG K S' fs od->XE (.ref C) od S'.H
 | .bad=>False
variable {Q:VK}
theorem FinL.later {S:Sit} {o:Out (List T)} (s:Stp K S S1) (h:FinL XE K S o Q):FinL XE K S1 o Q:=by
 have nn:∀ p,S1.H p = none->S.H p = none:=fun p hn=>by
  cases q:S.H p with
  | none=>rfl
  | some o=>
   by_cases f:S.off p
   ·rw [s.kp _ _ q f] at hn;cases hn
   ·exfalso
    apply f
    refine ⟨fun c hc z=>?_,fun z=>?_⟩
    ·have h3:c < S1.M.length:=Q5 hc s.le
     obtain ⟨o',e',_⟩:=s.mok.some h3
     rw [s.al c hc,z,hn] at e'
     cases e'
    ·rw [(s.hk p z).2,q] at hn;cases hn
 cases o with
 | ok b M'=>exact fun S' p vs e s' f=>h S' p vs e (s.trans s') (nn p f)
 | exn C fs M'=>exact fun S' c e s' r=>h S' c e (s.trans s') r
 | bad=>exact h
noncomputable def lL (XE:XK) (K:Frag) (f:Ev->Mem->Out (List T)):TE:=fun σ H Q=>∃ (S:Sit) (στ:Ev),S.H = H/\MemOk K S/\EvR K S στ σ/\FinL XE K S (f στ S.M) Q
def GL (X:Cx) (XE:XK) (e:Expr) (f:Ev->Mem->Out (List T)):Prop:=PE X e (lL XE X.K f)
variable {q:Addr} {h hh:List Addr} {xs:List T}
section
variable {S:Sit}
noncomputable def Sit.show (S':Sit) (h:List Addr):Sit:=⟨S'.α,S'.M,S'.H,h⟩
theorem Rep.show (sub:∀ p ∈ h,p ∈ S'.hid) {t:T} (r:Rep K S' t v):Rep K (S'.show h) t v:=by
 induction r with
 | non=>exact .non
 | bl b=>exact .bl b
 | int b=>exact .int b
 | str b=>exact .str b
 | ty b=>exact .ty b
 | tup h l _ ih=>exact .tup h l ih
 | lst h l _ ih=>
  refine .lst ?_ l ih
  rcases h with ⟨h,f⟩ | h
  ·exact .inl ⟨h,f.1,fun z=>f.2 (sub _ z)⟩
  ·exact .inr h
 | ref h=>exact .ref (S:=S'.show _) h
 | dct h l _ ih=>exact .dct h l ih
 | exc h hd l _ ih=>exact .exc h hd l ih
theorem Reps.show (sub:∀ p ∈ h,p ∈ S'.hid) (r:Reps K S' ts vs):Reps K (S'.show h) ts vs:=⟨r.1,fun i t v e1 e2=>(r.2 i t v e1 e2).show sub⟩
theorem CellOk.show (sub:∀ p ∈ h,p ∈ S'.hid) {c:Cell} (q:CellOk K S' p c):CellOk K (S'.show h) p c:=by
 cases c with
 | lst ts=>obtain ⟨vs,q,r⟩:=q;exact ⟨vs,q,r.show sub⟩
 | dic ts=>obtain ⟨vs,q,r⟩:=q;exact ⟨vs,q,r.1,r.2.show sub⟩
 | ins C ts=>obtain ⟨dx,vs,q,r⟩:=q;exact ⟨dx,vs,q,r.1,r.2.show sub⟩
 | dtu ts=>obtain ⟨vs,q,r⟩:=q;exact ⟨vs,q,r.1,r.2.show sub⟩
theorem Stp.show (s:Stp K S S'):Stp K S (S'.show S.hid):=by
 have sub:∀ p ∈ S.hid,p ∈ S'.hid:=fun p h=>(s.hk p h).1
 exact ⟨⟨s.le,s.al,s.fr,s.kp,fun p h=>⟨h,(s.hk p h).2⟩,fun p h=>.inl h⟩,⟨fun a c e=>(s.mok.cell a c e).show sub,s.mok.inj,fun p h=>s.mok.hd p (sub p h)⟩⟩
theorem zgR (s:Stp K S S') (hn:S.H p = none) (m:MemOk K S) (hp:p ∈ S'.hid) (e:S'.H p = some (.lst vs)) (r:Reps K S' xs vs):Rep K (S'.show S.hid) (.lst xs) (.ref p):=by
 have sub:∀ p ∈ S.hid,p ∈ S'.hid:=fun p h=>(s.hk p h).1
 refine .lst (.inl ⟨.inl e,(s.mok.hd p hp).1,fun z=>?_⟩) r.1 (r.show sub).2
 obtain ⟨_,us,q⟩:=m.hd p z
 rw [hn] at q
 cases q
noncomputable def Sit.track (S':Sit) (p:Addr) (xs:List T) (h:List Addr):Sit:=⟨fun a=>if a = S'.M.length then p else S'.α a,S'.M ++ [.lst xs],S'.H,h⟩
theorem Rep.track (hp:p ∈ S'.hid) (sub:∀ p ∈ hh,p ∈ S'.hid) {t:T} (r:Rep K S' t v):Rep K (S'.track p xs hh) t v:=by
 induction r with
 | non=>exact .non
 | bl b=>exact .bl b
 | int b=>exact .int b
 | str b=>exact .str b
 | ty b=>exact .ty b
 | tup h l _ ih=>exact .tup h l ih
 | lst h l _ ih=>
  refine .lst ?_ l ih
  rcases h with ⟨h,f⟩ | h
  ·refine .inl ⟨h,fun a ha z=>?_,fun z=>f.2 (sub _ z)⟩
   have z':(if a = S'.M.length then p else S'.α a) = _:=z
   by_cases hl:a = S'.M.length
   ·rw [QA hl] at z';rw [← z'] at f;exact f.2 hp
   ·rw [QB hl] at z'
    have h3:a < (S'.M ++ [Cell.lst xs]).length:=ha
    exact f.1 a (by simp at h3;omega) z'
  ·exact .inr h
 | @ref a h=>
  have:S'.α a = (S'.track p xs hh).α a:=(QB (Qk h)).symm
  rw [this]
  exact .ref (by show a < (S'.M ++ [Cell.lst xs]).length;simp;omega)
 | dct h l _ ih=>exact .dct h l ih
 | exc h hd l _ ih=>exact .exc h hd l ih
theorem Reps.track (hp:p ∈ S'.hid) (sub:∀ p ∈ h,p ∈ S'.hid) (r:Reps K S' ts vs):Reps K (S'.track p xs h) ts vs:=⟨r.1,fun i t v e1 e2=>(r.2 i t v e1 e2).track hp sub⟩
theorem CellOk.track (hp:p ∈ S'.hid) (sub:∀ p ∈ h,p ∈ S'.hid) {c:Cell} (o:CellOk K S' q c):CellOk K (S'.track p xs h) q c:=by
 cases c with
 | lst ts=>obtain ⟨vs,q,r⟩:=o;exact ⟨vs,q,r.track hp sub⟩
 | dic ts=>obtain ⟨vs,q,r⟩:=o;exact ⟨vs,q,r.1,r.2.track hp sub⟩
 | ins C ts=>obtain ⟨dx,vs,q,r⟩:=o;exact ⟨dx,vs,q,r.1,r.2.track hp sub⟩
 | dtu ts=>obtain ⟨vs,q,r⟩:=o;exact ⟨vs,q,r.1,r.2.track hp sub⟩
theorem Stp.track (s:Stp K S S') (m:MemOk K S) (hn:S.H p = none) (hp:p ∈ S'.hid) (e:S'.H p = some (.lst vs)) (r:Reps K S' xs vs):Stp K S (S'.track p xs S.hid):=by
 have sub:∀ p ∈ S.hid,p ∈ S'.hid:=fun p h=>(s.hk p h).1
 have lt:∀ a,a < S'.M.length->(S'.track p xs S.hid).α a = S'.α a:=fun a h=>QB (Qk h)
 refine ⟨⟨Qj s.le (by show _<=(S'.M ++ [Cell.lst xs]).length;simp),fun a h=>(lt a (Q5 h s.le)).trans (s.al a h),fun a h1 h2=>?_,s.kp,fun p h=>⟨h,(s.hk p h).2⟩,fun p h=>.inl h⟩,⟨fun a c e2=>?_,fun a b h1 h2 e2=>?_,fun q h=>?_⟩⟩
 ·by_cases hl:a < S'.M.length
  ·rw [lt a hl];exact s.fr a h1 hl
  ·have h3:a < (S'.M ++ [Cell.lst xs]).length:=h2
   have:a = S'.M.length:=by simp at h3;omega
   show S.H (if a = S'.M.length then p else S'.α a) = none
   rw [QA this];exact hn
 ·have e':(S'.M ++ [Cell.lst xs])[a]? = some c:=e2
  by_cases ha:a < S'.M.length
  ·rw [Q6 ha] at e'
   rw [lt a ha]
   exact (s.mok.cell a c e').track hp sub
  ·rw [Q8 (Nat.le_of_not_lt ha)] at e'
   have h3:a - S'.M.length = 0:=by
    cases q:a - S'.M.length with
    | zero=>rfl
    | succ k=>rw [q] at e';simp at e'
   rw [h3] at e'
   cases e'
   show CellOk K _ (if a = S'.M.length then p else S'.α a) _
   rw [QA (by omega)]
   exact ⟨vs,e,r.track hp sub⟩
 ·have h1':a < (S'.M ++ [Cell.lst xs]).length:=h1
  have h2':b < (S'.M ++ [Cell.lst xs]).length:=h2
  have e':(if a = S'.M.length then p else S'.α a) = (if b = S'.M.length then p else S'.α b):=e2
  simp at h1' h2'
  by_cases ha:a = S'.M.length
  ·by_cases hb:b = S'.M.length
   ·omega
   ·rw [QA ha,QB hb] at e'
    exact absurd e'.symm ((s.mok.hd p hp).1 b (by omega))
  ·by_cases hb:b = S'.M.length
   ·rw [QB ha,QA hb] at e'
    exact absurd e' ((s.mok.hd p hp).1 a (by omega))
   ·rw [QB ha,QB hb] at e'
    exact s.mok.inj a b (by omega) (by omega) e'
 ·obtain ⟨h1,us,q1⟩:=s.mok.hd q (sub q h)
  refine ⟨fun a ha z=>?_,us,q1⟩
  have z':(if a = S'.M.length then p else S'.α a) = q:=z
  have h3:a < (S'.M ++ [Cell.lst xs]).length:=ha
  by_cases hl:a = S'.M.length
  ·rw [QA hl] at z'
   obtain ⟨_,us2,q2⟩:=m.hd q h
   rw [← z',hn] at q2
   cases q2
  ·rw [QB hl] at z'
   exact h1 a (by simp at h3;omega) z'
noncomputable def Sit.hide (S:Sit) (p:Addr) (vs:List V):Sit:=⟨S.α,S.M,upd S.H p (.lst vs),p :: S.hid⟩
theorem Stp.hide (m:MemOk K S) (hp:S.H p = none) (vs:List V):Stp K S (S.hide p vs):=by
 have g:Grow S (S.hide p vs):=⟨Q3 _,fun _ _=>rfl,fun a h1 h2=>absurd (Q5 h2 h1) (Qo _),fun b u e _=>by show upd S.H p _ b = _;rw [zm (zE e hp)];exact e,fun q h=>⟨.tail _ h,by obtain ⟨_,vs,e⟩:=m.hd q h;exact zm (zE e hp)⟩,fun q h=>by
  cases h with
  | head=>exact .inr hp
  | tail _ h=>exact .inl h⟩
 refine ⟨g,⟨fun a c e=>?_,m.inj,fun q h=>?_⟩⟩
 ·have ha:a < S.M.length:=(Qz.mp e).1
  exact (m.cell a c e).grow m g (zm ((m.off_none hp).1 a ha))
 ·cases h with
  | head=>exact ⟨(m.off_none hp).1,vs,yC⟩
  | tail _ h=>
   obtain ⟨h1,us,e⟩:=m.hd q h
   exact ⟨h1,us,(zm (zE e hp)).trans e⟩
end
variable {op:CmpOp} {ga:Ev->Mem->Out (List T)} {tf:Ev->Mem->Out Bool} {f g:Ev->Mem->Out T} {M:Mem} {x:Str} {o o':T->T->Mem->Out T}
section
variable {a b c:Expr} {h:Ev->Mem->Out T} {pos:Pos}
theorem zca {t:T} (h:PE X e (tC v)) (r:∀ S,Rep X.K S t v):GE X XE e (eC t):=PE.imp h fun σ H Q h9=>by
 obtain ⟨S,στ,_,e,m,ev,_,fin⟩:=h9
 show Q v H
 rw [← e];exact fin S v rfl (.refl m) (r S)
theorem ge_int {i j}:GE X XE (.Constant (.int i) j pos) (eC (.int i)):=zca zkW fun _=>.int _
theorem zhz (h:lE XE K (eOp o f g) σ H Q):lE XE K f σ H fun x H1=>lE XE K g σ H1 fun y H2=>lR2 XE K o x y H2 Q:=
 LN.mono (LN.bind (f:=fun _ σ M=>f σ M) (k:=fun _ x σ M1=>(g σ M1).bind fun y M2=>o x y M2) (RB:=Rep K) h) fun v H1 h1=>
  LN.mono (LN.env (f:=g) (LN.bind (f:=fun _ σ M=>g σ M) (k:=fun (ax:Unit × T) y σ M2=>o ax.2 y M2) (RB:=Rep K) h1)) fun w H2 h2=>by
   obtain ⟨S,στ,a,e,m,ev,ra,fin⟩:=h2
   exact ⟨S,(a.1.2,a.2),e,m,⟨ra.1.2,ra.2⟩,fin⟩
theorem zhy {β γ:Type} {R:Sit->β->γ->Prop} {S:Sit} {t:T} {k:Bool->Mem->Out β} {Q:γ->Hp->Prop} (r:Rep K S t v) (h:Fin XE R K S (blT t M k) Q):∃ b,v = .bl b/\t = .bl b/\Fin XE R K S (k b M) Q:=by
 cases r with
 | bl b=>exact ⟨b,rfl,rfl,h⟩
 | _=>exact h.elim
theorem tif {tg:Ev->Mem->Out Bool} {Q:Bool->Hp->Prop} {p:Bool->Ev->Mem->Out Bool} (h:LN XE EqR K UnR (fun _ σ M=>(tf σ M).bind fun c M1=>p c σ M1) () σ H Q):lT XE K tf σ H fun c H1=>lT XE K (fun σ M=>p c σ M) σ H1 Q:=
 LN.mono (LN.bind (f:=fun _ σ M=>tf σ M) (k:=fun _ c σ M1=>p c σ M1) (RB:=EqR) h) fun c H1 h2=>by
  obtain ⟨S,στ,a,e,m,ev,ra,fin⟩:=h2
  have:a.2 = c:=ra.2
  subst this
  exact ⟨S,στ,(),e,m,ev,trivial,fin⟩
theorem zht {Q:Bool->Hp->Prop} {d:Bool} (h:lT XE K (fun _ M=>.ok d M) σ H Q):Q d H:=by
 obtain ⟨S,στ,a,e,m,ev,ra,fin⟩:=h
 rw [← e];exact fin S d rfl (.refl m) rfl
theorem zko {d:T} (h:lE XE K (fun _ M=>.ok d M) σ H Q) (r:∀ S,Rep K S d v):Q v H:=by
 obtain ⟨S,στ,a,e,m,ev,ra,fin⟩:=h
 rw [← e];exact fin S v rfl (.refl m) (r S)
variable {tg:Ev->Mem->Out Bool} {rest:List Expr}
theorem GW.gt (h:GW X XE e tf):GT X XE e tf:=PW.pt h
theorem eif {p:Bool->Ev->Mem->Out T} (h:LN XE (Rep K) K UnR (fun _ σ M=>(f σ M).bind fun x M1=>blT x M1 fun b M2=>p b σ M2) () σ H Q):lE XE K f σ H fun x H1=>∃ c,x = .bl c/\lE XE K (fun σ M=>p c σ M) σ H1 Q:=
 LN.mono (LN.bind (f:=fun _ σ M=>f σ M) (k:=fun _ x σ M1=>blT x M1 fun b M2=>p b σ M2) (RB:=Rep K) h) fun c H1 h2=>by
  obtain ⟨S,στ,a,e,m,ev,ra,fin⟩:=h2
  obtain ⟨b,e1,e2,fin⟩:=zhy ra.2 fin
  exact ⟨b,e1,S,στ,(),e,m,ev,trivial,fin⟩
theorem chain (hh:lE XE K (zeN o o' f g h) σ H Q):zkJ (lR2 XE K o) (lR2 XE K o') (lE XE K f) (lE XE K g) (lE XE K h) σ H Q:=
 LN.mono (LN.bind (f:=fun _ σ M=>f σ M) (k:=fun _ x σ M1=>(g σ M1).bind fun y M2=>(o x y M2).bind fun z M3=>blT z M3 fun b M4=>if b = true then (h σ M4).bind fun w M5=>o' y w M5 else .ok (.bl false) M4) (RB:=Rep K) hh) fun x H1 h1=>
  LN.mono (LN.env (f:=g) (LN.bind (f:=fun _ σ M=>g σ M) (k:=fun (ax:Unit × T) y σ M2=>(o ax.2 y M2).bind fun z M3=>blT z M3 fun b M4=>if b = true then (h σ M4).bind fun w M5=>o' y w M5 else .ok (.bl false) M4) (RB:=Rep K) h1)) fun y H2 h2=>by
   have h3:=LN.bind (f:=fun (a:(Unit × T) × T) _ M=>o a.1.2 a.2 M) (k:=fun a z σ M3=>blT z M3 fun b M4=>if b = true then (h σ M4).bind fun w M5=>o' a.2 w M5 else .ok (.bl false) M4) (RB:=Rep K) h2
   obtain ⟨S,a,e,m,ra,fin⟩:=LN.l0 (k:=fun (a:(Unit × T) × T) M=>o a.1.2 a.2 M) h3
   refine ⟨S,(a.1.2,a.2),e,m,⟨ra.1.2,ra.2⟩,fin.mono fun z H3 h4=>?_⟩
   obtain ⟨S3,στ,a3,e3,m3,ev3,ra3,fin3⟩:=h4
   obtain ⟨b,e1,_,fin3⟩:=zhy ra3.2 fin3
   refine ⟨b,e1,?_⟩
   cases b with
   | false=>exact (QB Q4).mpr (by rw [← e3];exact fin3 S3 _ rfl (.refl m3) (.bl _))
   | true=>
    refine (QA rfl).mpr ?_
    have h5:LN XE (Rep K) K (Rep K) (fun y σ M4=>(h σ M4).bind fun w M5=>o' y w M5) y σ H3 Q:=⟨S3,στ,a3.1.2,e3,m3,ev3,ra3.1.2,fin3⟩
    refine LN.mono (LN.env (f:=h) (LN.bind (f:=fun _ σ M=>h σ M) (k:=fun y w σ M5=>o' y w M5) (RB:=Rep K) h5)) fun w H4 h6=>?_
    exact LN.l0 (k:=fun (a:T × T) M=>o' a.1 a.2 M) h6
end
inductive Fl where
 | nx (σ:Ev) | rt (t:T) | bk (σ:Ev) | ct (σ:Ev)
inductive FlV where
 | nx (σ:L2.St) | rt (v:V) | bk (σ:L2.St) | ct (σ:L2.St)
inductive FlR (K:Frag) (S:Sit):Fl->FlV->Prop where
 | nx {a b}:EvR K S a b->FlR K S (.nx a) (.nx b)
 | rt {a b}:Rep K S a b->FlR K S (.rt a) (.rt b)
 | bk {a b}:EvR K S a b->FlR K S (.bk a) (.bk b)
 | ct {a b}:EvR K S a b->FlR K S (.ct a) (.ct b)
noncomputable def qW (D:Ends):FlV->Hp->Prop
 | .nx σ,H=>D.nx σ H
 | .rt v,H=>D.rt v H
 | .bk σ,H=>D.bk σ H
 | .ct σ,H=>D.ct σ H
noncomputable def lS (XE:XK) (K:Frag) (g:Ev->Mem->Out Fl):TS:=fun D σ H=>LN XE (FlR K) K UnR (fun _ σ M=>g σ M) () σ H (qW D)
def GS (X:Cx) (XE:XK) (st:Stmt) (g:Ev->Mem->Out Fl):Prop:=PS X st (lS XE X.K g)
def GSs (X:Cx) (XE:XK) (st:List Stmt) (g:Ev->Mem->Out Fl):Prop:=PSs X st (lS XE X.K g)
variable {στ:Ev}
theorem EvR.set {S:Sit} (r:EvR K S στ σ) {t:T} (q:Rep K S t v) (i:Nat):EvR K S (στ.set i (some t)) (σ.set i (some v)):=by
 refine ⟨by simp [r.1],fun j u e=>?_⟩
 rw [Qc] at e ⊢
 by_cases h:i = j
 ·subst h
  by_cases hl:i < στ.length
  ·rw [QA rfl,QA hl] at e
   cases e
   exact ⟨v,by rw [QA rfl,QA (by rw [← r.1];exact hl)],q⟩
  ·rw [QA rfl,QB hl] at e;cases e
 ·rw [QB h] at e
  obtain ⟨w,e2,q2⟩:=r.2 j u e
  exact ⟨w,by rw [QB h];exact e2,q2⟩
noncomputable def qE:Ev->Mem->Out Fl:=fun σ M=>.ok (.nx σ) M
noncomputable def zsG:Ev->Mem->Out Fl:=fun σ M=>.ok (.bk σ) M
noncomputable def zsU:Ev->Mem->Out Fl:=fun σ M=>.ok (.ct σ) M
noncomputable def zcj (k:Ev->Mem->Out Fl) (fl:Fl) (M:Mem):Out Fl:=match fl with
 | .nx σ=>k σ M
 | .rt t=>.ok (.rt t) M
 | .bk σ=>.ok (.bk σ) M
 | .ct σ=>.ok (.ct σ) M
noncomputable def zh (g h:Ev->Mem->Out Fl):Ev->Mem->Out Fl:=fun σ M=>(g σ M).bind (zcj h)
noncomputable def yy (f:Ev->Mem->Out T):Ev->Mem->Out Fl:=fun σ M=>(f σ M).bind fun t M1=>.ok (.rt t) M1
noncomputable def yJ (f:Ev->Mem->Out T):Ev->Mem->Out Fl:=fun σ M=>(f σ M).bind fun _ M1=>.ok (.nx σ) M1
noncomputable def sIf (c:Ev->Mem->Out Bool) (g h:Ev->Mem->Out Fl):Ev->Mem->Out Fl:=fun σ M=>(c σ M).bind fun b M1=>if b = true then g σ M1 else h σ M1
noncomputable def qr (i:Nat) (f:Ev->Mem->Out T):Ev->Mem->Out Fl:=fun σ M=>(f σ M).bind fun t M1=>.ok (.nx (σ.set i (some t))) M1
noncomputable def lG (XE:XK) (K:Frag) (bd:T->Ev->Mem->Out Ev):TG:=fun v σ H Q=>LN XE (EvR K) K (Rep K) bd v σ H Q
noncomputable def lGs (XE:XK) (K:Frag) (bd:List T->Ev->Mem->Out Ev):TGs:=fun v σ H Q=>LN XE (EvR K) K (Reps K) bd v σ H Q
def GG (X:Cx) (XE:XK) (tg:Expr) (bd:T->Ev->Mem->Out Ev):Prop:=PG X tg (lG XE X.K bd)
def GGs (X:Cx) (XE:XK) (tg:List Expr) (bd:List T->Ev->Mem->Out Ev):Prop:=PGs X tg (lGs XE X.K bd)
noncomputable def yn (i:Nat):T->Ev->Mem->Out Ev:=fun t σ M=>.ok (σ.set i (some t)) M
noncomputable def zen:List T->Ev->Mem->Out Ev:=fun ts σ M=>match ts with
 | []=>.ok σ M
 | _=>.bad
noncomputable def zX (b:T->Ev->Mem->Out Ev) (bs:List T->Ev->Mem->Out Ev):List T->Ev->Mem->Out Ev:=fun ts σ M=>match ts with
 | t :: r=>(b t σ M).bind fun σ1 M1=>bs r σ1 M1
 | _=>.bad
noncomputable def zem (n:Nat) (bs:List T->Ev->Mem->Out Ev):T->Ev->Mem->Out Ev:=fun t σ M=>match t with
 | .tup xs=>if xs.length = n then bs xs σ M else .bad
 | _=>.bad
noncomputable def zcD (f:Ev->Mem->Out T) (b:T->Ev->Mem->Out Ev):Ev->Mem->Out Fl:=fun σ M=>(f σ M).bind fun t M1=>(b t σ M1).bind fun σ1 M2=>.ok (.nx σ1) M2
def zdB (K:Frag) (S:Sit) (items:List T) (J:It):Prop:=∀ S',Stp K S S'->
 (∀ (i:Nat) t,items[i]? = some t->J.go i S'.H/\∀ x H',J.yld i S'.H x H'->∃ S'',S''.H = H'/\S''.M = S'.M/\Stp K S' S''/\Rep K S'' t x)/\∀ i,items.length<=i->J.stop i S'.H
instance (K):Mo K (zdB K):=⟨fun _ s r=>fun S' s'=>r S' (s.trans s')⟩
noncomputable def lI (XE:XK) (K:Frag) (f:Ev->Mem->Out (List T)):TI:=fun σ H R=>LN XE (zdB K) K UnR (fun _ σ M=>f σ M) () σ H R
def GI (X:Cx) (XE:XK) (tg iter:Expr) (f:Ev->Mem->Out (List T)):Prop:=PI X tg iter (lI XE X.K f)
noncomputable def y8 (k:Ev->Mem->Out Fl) (fl:Fl) (M:Mem):Out Fl:=match fl with
 | .nx σ=>k σ M
 | .ct σ=>k σ M
 | .bk σ=>.ok (.nx σ) M
 | .rt t=>.ok (.rt t) M
noncomputable def forL (bd:T->Ev->Mem->Out Ev) (body:Ev->Mem->Out Fl):List T->Ev->Mem->Out Fl
 | [],σ,M=>.ok (.nx σ) M
 | x :: xs,σ,M=>(bd x σ M).bind fun σ1 M1=>(body σ1 M1).bind (y8 (forL bd body xs))
noncomputable def zc5 (it:Ev->Mem->Out (List T)) (bd:T->Ev->Mem->Out Ev) (body:Ev->Mem->Out Fl):Ev->Mem->Out Fl:=fun σ M=>(it σ M).bind fun xs M1=>forL bd body xs σ M1
noncomputable def whileN (c:Ev->Mem->Out Bool) (body:Ev->Mem->Out Fl):Nat->Ev->Mem->Out Fl
 | 0,_,_=>.bad
 | n + 1,σ,M=>(c σ M).bind fun b M1=>if b = true then (body σ M1).bind (y8 (whileN c body n)) else .ok (.nx σ) M1
open Classical in
noncomputable def zhX (c:Ev->Mem->Out Bool) (body:Ev->Mem->Out Fl):Ev->Mem->Out Fl:=fun σ M=>if h:∃ n,whileN c body n σ M ≠ .bad then whileN c body h.choose σ M else .bad
theorem zdm {c:Ev->Mem->Out Bool} {body:Ev->Mem->Out Fl}:∀ {n:Nat} {σ:Ev} {M:Mem} {r:Out Fl},whileN c body n σ M = r->r ≠ .bad->whileN c body (n + 1) σ M = r
 | 0,_,_,_,e,h=>absurd e.symm h
 | n + 1,σ,M,r,e,h=>by
  unfold whileN at e ⊢
  cases q:c σ M with
  | bad=>rw [q] at e;exact absurd e.symm h
  | exn C fs M'=>rw [q] at e;exact e
  | ok b M1=>
   rw [q] at e
   replace e:(if b = true then (body σ M1).bind (y8 (whileN c body n)) else Out.ok (.nx σ) M1) = r:=e
   show (if b = true then (body σ M1).bind (y8 (whileN c body (n + 1))) else Out.ok (.nx σ) M1) = r
   cases b with
   | false=>exact e
   | true=>
    rw [QA rfl] at e ⊢
    cases q2:body σ M1 with
    | bad=>rw [q2] at e;exact absurd e.symm h
    | exn C fs M'=>rw [q2] at e;exact e
    | ok fl M2=>
     rw [q2] at e
     cases fl with
     | nx σ2=>exact zdm (n:=n) e h
     | ct σ2=>exact zdm (n:=n) e h
     | bk σ2=>exact e
     | rt t=>exact e
variable {body:Ev->Mem->Out Fl} {n:Nat} {r:Out Fl}
theorem zgX {c:Ev->Mem->Out Bool} {k:Nat} {σ:Ev} (e:whileN c body n σ M = r) (h:r ≠ .bad):whileN c body (n + k) σ M = r:=by
 induction k with
 | zero=>exact e
 | succ k ih=>exact zdm ih h
theorem zkM {c:Ev->Mem->Out Bool} {σ:Ev} (n:Nat) (e:whileN c body n σ M = r) (h:r ≠ .bad):zhX c body σ M = r:=by
 have ex:∃ n,whileN c body n σ M ≠ .bad:=⟨n,by rw [e];exact h⟩
 unfold zhX
 rw [dif_pos ex]
 have h2:=ex.choose_spec
 have e1:=zgX (k:=ex.choose) e h
 have e2:=zgX (k:=n) rfl h2
 rw [Nat.add_comm] at e2
 rw [← e2,e1]
noncomputable def zij (XE:XK) (K:Frag) (st:T->T->T->Mem->Out Unit):zfN:=fun o i v H Q=>L0 XE UnR K (PrR (PrR (Rep K) (Rep K)) (Rep K)) (fun a M=>st a.1.1 a.1.2 a.2 M) ((o,i),v) H (fun _ H'=>Q H')
noncomputable def zkz (st:T->T->T->Mem->Out Unit) (f g:Ev->Mem->Out T):T->Ev->Mem->Out Ev:=fun t σ M=>(f σ M).bind fun o M1=>(g σ M1).bind fun i M2=>(st o i t M2).bind fun _ M3=>.ok σ M3
noncomputable def zhs (get op:T->T->Mem->Out T) (st:T->T->T->Mem->Out Unit) (f g h:Ev->Mem->Out T):Ev->Mem->Out Fl:=fun σ M=>
 (f σ M).bind fun o M1=>(g σ M1).bind fun i M2=>(get o i M2).bind fun x M3=>(h σ M3).bind fun y M4=>(op x y M4).bind fun z M5=>(st o i z M5).bind fun _ M6=>.ok (.nx σ) M6
variable {D:Ends} {iter tg:Expr} {st:Stmt} {bd:T->Ev->Mem->Out Ev}
section
variable {a b c:Expr} {h:Ev->Mem->Out T} {pos:Pos} {sts rest:List Stmt} {p q r:Ev->Mem->Out Fl}
theorem zpH (hh:lS XE K (zh p q) D σ H):lS XE K p { D with nx:=lS XE K q D } σ H:=by
 obtain ⟨S,στ,_,e,m,ev,_,fin⟩:=hh
 refine ⟨S,στ,(),e,m,ev,trivial,?_⟩
 show Fin XE (FlR K) K S (p στ S.M) _
 replace fin:Fin XE (FlR K) K S ((p στ S.M).bind (zcj q)) (qW D):=fin
 cases o:p στ S.M with
 | bad=>rw [o] at fin;exact fin
 | exn C fs M'=>rw [o] at fin;exact fin
 | ok fl M1=>
  rw [o] at fin
  intro S1 cc e1 s1 r1
  cases r1 with
  | nx r1=>exact ⟨S1,_,(),rfl,s1.mok,r1,trivial,by rw [e1];exact Fin.later s1 fin⟩
  | rt r1=>exact fin S1 _ e1 s1 (.rt r1)
  | bk r1=>exact fin S1 _ e1 s1 (.bk r1)
  | ct r1=>exact fin S1 _ e1 s1 (.ct r1)
theorem PG.imp {t t':TG} (h:PG X tg t) (i:∀ v σ H Q,t' v σ H Q->t v σ H Q):PG X tg t':=fun pins s σ H v u Q I r q=>h pins s σ H v u Q I r (i v σ H Q q)
theorem PGs.imp {tgs:List Expr} {t t':TGs} (h:PGs X tgs t) (i:∀ v σ H Q,t' v σ H Q->t v σ H Q):PGs X tgs t':=fun pins s σ H v u Q I r q=>h pins s σ H v u Q I r (i v σ H Q q)
theorem zrm (hh:LN XE (FlR K) K (Rep K) (fun t σ M=>(bd t σ M).bind fun σ1 M2=>.ok (Fl.nx σ1) M2) v σ H (qW D)):lG XE K bd v σ H D.nx:=by
 obtain ⟨S,στ,t,e,m,ev,ra,fin⟩:=hh
 refine ⟨S,στ,t,e,m,ev,ra,?_⟩
 replace fin:Fin XE (FlR K) K S ((bd t στ S.M).bind fun σ1 M2=>.ok (Fl.nx σ1) M2) (qW D):=fin
 cases o:bd t στ S.M with
 | bad=>rw [o] at fin;exact fin
 | exn C fs M'=>rw [o] at fin;exact fin
 | ok σ1 M1=>
  rw [o] at fin
  intro S1 cc e1 s1 ev1
  exact fin S1 (.nx cc) e1 s1 (.nx ev1)
theorem PI.imp {t t':TI} (h:PI X tg iter t) (i:∀ σ H R,t' σ H R->t σ H R):PI X tg iter t':=fun pins s σ H R I q=>h pins s σ H R I (i σ H R q)
end
noncomputable def startT (n:Nat) (ts:List T):Ev:=ts.map some ++ List.replicate (n - ts.length) none
noncomputable def yi (p n:Nat) (g:Ev->Mem->Out Fl):List T->Mem->Out T:=fun ts M=>if ts.length = p then match g (startT n ts) M with
 | .ok (.rt t) M'=>.ok t M'
 | .ok (.nx _) M'=>.ok .non M'
 | _=>.bad else .bad
noncomputable def spT (K:Frag) (f:List T->Mem->Out T):Sp:=fun vs H Q E=>L0 E (Rep K) K (Reps K) f vs H Q
structure CalT (P:Program) (w:World) (K:Frag) (mg:Str->Option Value) (base:Heap) (k:Nat) (x:Str) (ps:List Str) (f:List T->Mem->Out T):Prop where
 cal:Cal P w K mg base k x ps (spT K f)
 nox:∀ ts M C fs M',f ts M ≠ .exn C fs M'
theorem zfY (p n:Nat) (g:Ev->Mem->Out Fl):∀ ts M C fs M',yi p n g ts M ≠ .exn C fs M':=by
 intro ts M C fs M' z
 unfold yi at z
 split at z
 ·split at z <;> cases z
 ·cases z
variable {N:List Str}
theorem EvR.start {S:Sit} (r:Reps K S ts vs) (hn:N.length = n):EvR K S (startT n ts) (L2.start N vs):=by
 subst hn
 refine ⟨by simp [startT,L2.start,r.1],fun i t e=>?_⟩
 unfold startT at e
 unfold L2.start
 by_cases hi:i < ts.length
 ·rw [Q6 (by simpa using hi)] at e
  rw [Q6 (by simpa [← r.1] using hi)]
  rw [Qb] at e ⊢
  cases q:ts[i]? with
  | none=>rw [q] at e;cases e
  | some t'=>
   rw [q] at e
   have:t' = t:=Qd (Qd e)
   subst this
   obtain ⟨v,e2,r2⟩:=r.get q
   exact ⟨v,by rw [e2];rfl,r2⟩
 ·rw [Q8 (by simpa using hi)] at e
  rw [List.getElem?_replicate] at e
  split at e <;> cases e
variable {base:Heap} {ps:List Str} {P:Program} {mg:Str->Option Value}
section
variable {w:World}
theorem zfI {st:List Stmt} {g:Ev->Mem->Out Fl} {p:Nat} (hn:N.length = n) {E:XK} (hX:X.K = K) (h:spT K (yi p n g) vs H Q E) (hb:GSs X E0 st g) :
  ∃ t,PSs X st t/\t { nx:=fun _ H'=>Q .non H',rt:=Q } (start N vs) H:=by
 subst hX
 refine ⟨_,hb,?_⟩
 obtain ⟨S,ts,e,m,r,fin⟩:=h
 refine ⟨S,startT n ts,(),e,m,EvR.start r hn,trivial,?_⟩
 show Fin E0 (FlR X.K) X.K S (g (startT n ts) S.M) _
 unfold yi at fin
 by_cases hp:ts.length = p
 ·rw [QA hp] at fin
  cases o:g (startT n ts) S.M with
  | bad=>rw [o] at fin;exact fin
  | exn C fs M'=>rw [o] at fin;exact fin.elim
  | ok fl M1=>
   rw [o] at fin
   cases fl with
   | nx σ1=>
    intro S1 c e1 s1 r1
    cases r1 with
    | nx r1=>exact fin S1 .non e1 s1 .non
   | rt t=>
    intro S1 c e1 s1 r1
    cases r1 with
    | rt r1=>exact fin S1 _ e1 s1 r1
   | bk σ1=>exact fin.elim
   | ct σ1=>exact fin.elim
 ·rw [QB hp] at fin;exact fin.elim
theorem zhO {p:Nat} {g:Ev->Mem->Out Fl} (hp:ps.length = p):∀ vs H Q E,spT K (yi p n g) vs H Q E->vs.length = ps.length:=by
 intro vs H Q E ⟨S,ts,e,m,r,fin⟩
 rw [← r.1,hp]
 unfold yi at fin
 by_cases h:ts.length = p
 ·exact h
 ·rw [QB h] at fin;exact fin.elim
theorem zlK {k p:Nat} {g:Ev->Mem->Out Fl} (D:Df K mg x st ps) (Sc:FnScope N ps (yf st)) (hp:ps.length = p) (hn:N.length = n)
 (hb:∀ (f:Addr) (cdv:Value) (A:Around) (outer:List PySem.Env) (s:Shared) (H:Hp) (E:XK),Room k (A.deeper (envOfC x (yf st) s.heap.objs.size f cdv))->GSs (zcf CX0 P w K mg base N x (yf st) f cdv A outer s H E).nox E0 (yI st) g) :
  CalT P w K mg base (k + 1) x ps (yi p n g):=
 ⟨D.ok Sc (zhO hp) fun f cdv A outer s H vs Q E hr h=>zfI hn rfl h (hb f cdv A outer s H E hr),zfY _ _ _⟩
theorem zpF {qual:Str} {f:Addr} {fd:FuncData} {k p:Nat} {g:Ev->Mem->Out Fl} (F:Fun K x qual st f fd) (Sc:FnScope N ps (yf st)) (hp:ps.length = p) (hn:N.length = n)
 (hb:∀ (cdv:Value) (A:Around) (outer:List PySem.Env) (s:Shared) (H:Hp) (E:XK),Room k (A.deeper (envOfC qual (yf st) s.heap.objs.size f cdv))->GSs (zcf CX0 P w K mg base N qual (yf st) f cdv A outer s H E).nox E0 (yI st) g) :
  FnOk P w K mg base CX0 (k + 1) f fd ps (spT K (yi p n g)):=
 F.ok Sc (zhO hp) fun cdv A outer s H vs Q E hr h=>zfI hn rfl h (hb cdv A outer s H E hr)
theorem znW {f:List T->Mem->Out T} {a:Addr} {ns:List Int} {M':Mem} (hS:SqL K H a (ns.map V.int)) (h:f [.lst (ns.map .int)] [] = .ok (.bl true) M'):spT K f [.ref a] H (fun v _=>v = .bl true) fun _ _ _=>False:=by
 refine ⟨⟨fun _=>0,[],H,[]⟩,[.lst (ns.map .int)],rfl,⟨fun a c e=>by simp at e,fun a b h=>absurd h (Nat.not_lt_zero _),fun p h=>by simp at h⟩,.cons (.lst (vs:=ns.map V.int) ?_ (by simp) ?_) .nil,?_⟩
 ·rcases hS with h | h
  ·exact .inl ⟨h,fun a h=>absurd h (Nat.not_lt_zero _),fun z=>by simp at z⟩
  ·exact .inr h
 ·intro i t v e1 e2
  rw [Qb] at e1 e2
  cases q:ns[i]? with
  | none=>rw [q] at e1;cases e1
  | some z=>rw [q] at e1 e2;cases e1;cases e2;exact .int z
 ·show Fin _ _ K _ (f [.lst (ns.map .int)] []) _
  rw [h]
  intro S' c e s r
  cases r
  rfl
end
section
variable {k:Nat} {p pos:Pos} {F:List T->Mem->Out T}
end
inductive T.lt (n:Nat):T->Prop where
 | non:T.lt n .non
 | bl (b:Bool):T.lt n (.bl b)
 | int (i:Int):T.lt n (.int i)
 | str (x:Str):T.lt n (.str x)
 | ty (x:String):T.lt n (.ty x)
 | tup {ts:List T} (h:∀ t ∈ ts,T.lt n t):T.lt n (.tup ts)
 | lst {ts:List T} (h:∀ t ∈ ts,T.lt n t):T.lt n (.lst ts)
 | ref {a:Nat} (h:a < n):T.lt n (.ref a)
 | dct {kvs:List (Key × T)} (h:∀ t ∈ kvs.map (·.2),T.lt n t):T.lt n (.dct kvs)
 | exc {C:Addr} {fs:List (Str × T)} (h:∀ t ∈ fs.map (·.2),T.lt n t):T.lt n (.exc C fs)
noncomputable def Cell.lt (n:Nat):Cell->Prop
 | .lst ts=>∀ t ∈ ts,T.lt n t
 | .dic kvs=>∀ k ∈ kvs,T.lt n k.2
 | .ins _ fs=>∀ k ∈ fs,T.lt n k.2
 | .dtu kvs=>∀ k ∈ kvs,T.lt n k.2
inductive Fz (M':Mem) (n:Nat):T->T->Prop where
 | same {t:T} (h:T.lt n t):Fz M' n t t
 | tup {ts us:List T} (l:ts.length = us.length) (h:∀ (i:Nat) t u,ts[i]? = some t->us[i]? = some u->Fz M' n t u):Fz M' n (.tup ts) (.tup us)
 | lst {ts us:List T} (l:ts.length = us.length) (h:∀ (i:Nat) t u,ts[i]? = some t->us[i]? = some u->Fz M' n t u):Fz M' n (.lst ts) (.lst us)
 | ref {a:Nat} {ts us:List T} (e:M'[a]? = some (.lst ts)) (g:n<=a) (l:ts.length = us.length) (h:∀ (i:Nat) t u,ts[i]? = some t->us[i]? = some u->Fz M' n t u):Fz M' n (.ref a) (.lst us)
theorem Rep.lt {S:Sit} {t:T} (r:Rep K S t v):T.lt S.M.length t:=by
 induction r with
 | non=>exact .non
 | bl b=>exact .bl b
 | int b=>exact .int b
 | str b=>exact .str b
 | ty b=>exact .ty b
 | @tup ts p vs h l _ ih=>
  refine .tup fun t ht=>?_
  obtain ⟨i,hi,rfl⟩:=getElem_of_mem ht
  exact ih i _ vs[i] (by simp [hi]) (by simp [← l,hi])
 | @lst ts p vs h l _ ih=>
  refine .lst fun t ht=>?_
  obtain ⟨i,hi,rfl⟩:=getElem_of_mem ht
  exact ih i _ vs[i] (by simp [hi]) (by simp [← l,hi])
 | ref h=>exact .ref h
 | @dct kvs us p o h l _ ih=>
  refine .dct fun t ht=>?_
  obtain ⟨i,hi,rfl⟩:=getElem_of_mem ht
  have hl:i < us.length:=by have:=congrArg List.length l;simp at this hi;omega
  exact ih i _ (us[i]'hl).2 (Q0 hi) (by simp [hl])
 | @exc C fs us p od h hd l _ ih=>
  refine .exc fun t ht=>?_
  obtain ⟨i,hi,rfl⟩:=getElem_of_mem ht
  have hl:i < us.length:=by have:=congrArg List.length l;simp at this hi;omega
  exact ih i _ (us[i]'hl).2 (Q0 hi) (by simp [hl])
theorem Reps.lt {S:Sit} (r:Reps K S ts vs):∀ t ∈ ts,T.lt S.M.length t:=fun t ht=>by
 obtain ⟨i,hi,rfl⟩:=getElem_of_mem ht
 have hv:i < vs.length:=by rw [← r.1];exact hi
 exact (r.2 i _ vs[i] (by simp [hi]) (by simp [hv])).lt
theorem zgM {κ:Type} {fs:List (κ × T)} (h:∀ t ∈ fs.map (·.2),T.lt n t):∀ k ∈ fs,T.lt n k.2:=fun k hk=>h _ (List.mem_map_of_mem (f:=(·.2)) hk)
theorem CellOk.lt {S:Sit} {c:Cell} (h:CellOk K S p c):Cell.lt S.M.length c:=by
 cases c with
 | lst ts=>obtain ⟨vs,_,r⟩:=h;exact r.lt
 | dic ts=>obtain ⟨vs,_,r⟩:=h;exact zgM r.2.lt
 | ins C ts=>obtain ⟨dx,vs,_,r⟩:=h;exact zgM r.2.lt
 | dtu ts=>obtain ⟨vs,_,r⟩:=h;exact zgM r.2.lt
variable {m:Nat}
theorem T.lt.mono (h:n<=m) {t:T} (r:T.lt n t):T.lt m t:=by
 induction r with
 | non=>exact .non
 | bl b=>exact .bl b
 | int b=>exact .int b
 | str b=>exact .str b
 | ty b=>exact .ty b
 | tup _ ih=>exact .tup ih
 | lst _ ih=>exact .lst ih
 | ref g=>exact .ref (Q5 g h)
 | dct _ ih=>exact .dct ih
 | exc _ ih=>exact .exc ih
noncomputable def Sit.cut (S:Sit) (n:Nat) (h:List Addr):Sit:=⟨S.α,S.M.take n,S.H,h⟩
variable {u:T}
section
variable {S:Sit}
theorem Rep.cut (hn:n<=S'.M.length) (sub:∀ p ∈ hh,p ∈ S'.hid) {t:T} (r:Rep K S' t v) (l:T.lt n t):Rep K (S'.cut n hh) t v:=by
 have ln:(S'.cut n hh).M.length = n:=by show (S'.M.take n).length = n;simp;omega
 induction r with
 | non=>exact .non
 | bl b=>exact .bl b
 | int b=>exact .int b
 | str b=>exact .str b
 | ty b=>exact .ty b
 | @tup ts p vs h l2 _ ih=>
  cases l with
  | tup hl=>exact .tup h l2 fun i t v e1 e2=>ih i t v e1 e2 (hl t (Qa e1))
 | @lst ts p vs h l2 _ ih=>
  cases l with
  | lst hl=>
   refine .lst ?_ l2 fun i t v e1 e2=>ih i t v e1 e2 (hl t (Qa e1))
   rcases h with ⟨h,f⟩ | h
   ·exact .inl ⟨h,fun a ha z=>f.1 a (by rw [ln] at ha;omega) z,fun z=>f.2 (sub _ z)⟩
   ·exact .inr h
 | @ref a h=>
  cases l with
  | ref hl=>exact .ref (S:=S'.cut n hh) (by rw [ln];exact hl)
 | dct h l2 _ ih=>
  cases l with
  | dct hl=>exact .dct (S:=S'.cut n hh) h l2 fun i t v e1 e2=>ih i t v e1 e2 (hl t (Qa e1))
 | exc h hd l2 _ ih=>
  cases l with
  | exc hl=>exact .exc (S:=S'.cut n hh) h hd l2 fun i t v e1 e2=>ih i t v e1 e2 (hl t (Qa e1))
theorem Reps.cut (hn:n<=S'.M.length) (sub:∀ p ∈ hh,p ∈ S'.hid) {t:List T} {v:List V} (r:Reps K S' t v) (l:∀ x ∈ t,T.lt n x):Reps K (S'.cut n hh) t v:=⟨r.1,fun i t v e1 e2=>(r.2 i t v e1 e2).cut hn sub (l t (Qa e1))⟩
theorem CellOk.cut (hn:n<=S'.M.length) (sub:∀ p ∈ hh,p ∈ S'.hid) {c:Cell} (r:CellOk K S' p c) (l:Cell.lt n c):CellOk K (S'.cut n hh) p c:=by
 have ms:∀ {κ:Type} {fs:List (κ × T)},(∀ k ∈ fs,T.lt n k.2)->∀ t ∈ fs.map (·.2),T.lt n t:=fun h t ht=>by
  obtain ⟨k,hk,rfl⟩:=mem_map.mp ht
  exact h k hk
 cases c with
 | lst ts=>obtain ⟨vs,q,r⟩:=r;exact ⟨vs,q,r.cut hn sub l⟩
 | dic ts=>obtain ⟨vs,q,r⟩:=r;exact ⟨vs,q,r.1,r.2.cut hn sub (ms l)⟩
 | ins C ts=>obtain ⟨dx,vs,q,r⟩:=r;exact ⟨dx,vs,q,r.1,r.2.cut hn sub (ms l)⟩
 | dtu ts=>obtain ⟨vs,q,r⟩:=r;exact ⟨vs,q,r.1,r.2.cut hn sub (ms l)⟩
theorem Stp.cut (s:Stp K S S') (h1:S.M.length<=n) (h2:n<=S'.M.length) (hl:∀ (i:Nat) c,i < n->S'.M[i]? = some c->Cell.lt n c):Stp K S (S'.cut n S.hid):=by
 have sub:∀ p ∈ S.hid,p ∈ S'.hid:=fun p h=>(s.hk p h).1
 have ln:(S'.cut n S.hid).M.length = n:=by show (S'.M.take n).length = n;simp;omega
 refine ⟨⟨by rw [ln];exact h1,s.al,fun a g1 g2=>s.fr a g1 (by rw [ln] at g2;omega),s.kp,fun p h=>⟨h,(s.hk p h).2⟩,fun p h=>.inl h⟩,⟨fun a c e=>?_,fun a b g1 g2 e=>s.mok.inj a b (by rw [ln] at g1;omega) (by rw [ln] at g2;omega) e,fun p h=>?_⟩⟩
 ·have e':(S'.M.take n)[a]? = some c:=e
  rw [List.getElem?_take] at e'
  split at e'
  ·rename_i hi
   exact (s.mok.cell a c e').cut h2 sub (hl a c hi e')
  ·cases e'
 ·obtain ⟨g1,vs,g2⟩:=s.mok.hd p (sub p h)
  exact ⟨fun a ha z=>g1 a (by rw [ln] at ha;omega) z,vs,g2⟩
theorem Rep.fz (m:MemOk K S') (hn:n<=S'.M.length) (sub:∀ p ∈ hh,p ∈ S'.hid) {t:T} (z:Fz S'.M n t u):∀ {v:V},Rep K S' t v->Rep K (S'.cut n hh) u v:=by
 have ln:(S'.cut n hh).M.length = n:=by show (S'.M.take n).length = n;simp;omega
 induction z with
 | same h=>exact fun r=>r.cut hn sub h
 | @tup ts us l _ ih=>
  intro v r
  cases r with
  | @tup _ p vs h l2 rr=>
   refine .tup h (by rw [← l];exact l2) fun i t v e1 e2=>?_
   have hi:i < ts.length:=by rw [l];exact (Qz.mp e1).1
   exact ih i ts[i] t (by simp [hi]) e1 (rr i _ v (by simp [hi]) e2)
 | @lst ts us l _ ih=>
  intro v r
  cases r with
  | @lst _ p vs h l2 rr=>
   refine .lst ?_ (by rw [← l];exact l2) fun i t v e1 e2=>?_
   ·rcases h with ⟨h,f⟩ | h
    ·exact .inl ⟨h,fun a ha z=>f.1 a (by rw [ln] at ha;omega) z,fun z=>f.2 (sub _ z)⟩
    ·exact .inr h
   ·have hi:i < ts.length:=by rw [l];exact (Qz.mp e1).1
    exact ih i ts[i] t (by simp [hi]) e1 (rr i _ v (by simp [hi]) e2)
 | @ref a ts us e g l _ ih=>
  intro v r
  cases r with
  | ref ha=>
   obtain ⟨vs,q,rr⟩:=m.cell a _ e
   refine .lst (vs:=vs) (.inl ⟨.inl q,fun b hb z=>?_,fun z=>?_⟩) (by rw [← l];exact rr.1) fun i t v e1 e2=>?_
   ·rw [ln] at hb
    have:=m.inj b a (by omega) ha z
    omega
   ·exact (m.hd _ (sub _ z)).1 a ha rfl
   ·have hi:i < ts.length:=by rw [l];exact (Qz.mp e1).1
    exact ih i ts[i] t (by simp [hi]) e1 (rr.2 i _ v (by simp [hi]) e2)
end
def Refines (f g:List T->Mem->Out T):Prop:=∀ ts M t' M1,(∀ c ∈ M,Cell.lt M.length c)->f ts M = .ok t' M1->∃ t M',g ts M = .ok t M'/\M.length<=M1.length/\M1.length<=M'.length/\M1 = M'.take M1.length/\(∀ (i:Nat) c,M1[i]? = some c->M[i]? = some c\/Cell.lt M1.length c)/\Fz M' M1.length t t'
theorem Cell.lt.mono (h:n<=m) {c:Cell} (r:Cell.lt n c):Cell.lt m c:=by
 cases c with
 | lst ts=>exact fun t ht=>(r t ht).mono h
 | dic ts=>exact fun t ht=>(r t ht).mono h
 | ins C ts=>exact fun t ht=>(r t ht).mono h
 | dtu ts=>exact fun t ht=>(r t ht).mono h
theorem CalT.refine {w:World} {k:Nat} {f g:List T->Mem->Out T} (C:CalT P w K mg base k x ps g) (h:Refines f g) (nox:∀ ts M C fs M',f ts M ≠ .exn C fs M'):CalT P w K mg base k x ps f:=by
 refine ⟨?_,nox⟩
 obtain ⟨⟨fa,fd,F,kp,b,gg⟩⟩:=C.cal
 have key:∀ vs H Q E,spT K f vs H Q E->spT K g vs H Q E:=by
  rintro vs H Q E ⟨S,ts,e,m,r,fin⟩
  refine ⟨S,ts,e,m,r,?_⟩
  have wf:∀ c ∈ S.M,Cell.lt S.M.length c:=fun c hc=>by
   obtain ⟨i,hi,rfl⟩:=getElem_of_mem hc
   exact (m.cell i _ (by simp [hi])).lt
  cases o:f ts S.M with
  | bad=>rw [o] at fin;exact fin.elim
  | exn C' fs M'=>exact absurd o (nox _ _ _ _ _)
  | ok t' M1=>
   rw [o] at fin
   obtain ⟨t,M',eg,l1,l2,eM,hc,z⟩:=h ts S.M t' M1 wf o
   rw [eg]
   intro S' v e1 s r1
   have hl:∀ (i:Nat) c,i < M1.length->S'.M[i]? = some c->Cell.lt M1.length c:=fun i c hi ec=>by
    have e2:M1[i]? = some c:=by
     rw [eM,List.getElem?_take,QA hi,← e1];exact ec
    rcases hc i c e2 with q | q
    ·exact (wf c (Qa q)).mono l1
    ·exact q
   have sc:=s.cut l1 (by rw [e1];exact l2) hl
   refine fin (S'.cut M1.length S.hid) v ?_ sc ?_
   ·show S'.M.take M1.length = M1
    rw [e1];exact eM.symm
   ·exact Rep.fz s.mok (by rw [e1];exact l2) (fun p h=>(s.hk p h).1) (by rw [e1];exact z) r1
 refine ⟨⟨fa,fd,⟨fun vs H Q E q=>F.len vs H Q E (key _ _ _ _ q),?_⟩,kp,b,gg⟩⟩
 intro A outer s H args us vs Q E hr h0 hb hv hq
 exact F.run A outer s H args us vs Q E hr h0 hb hv (key _ _ _ _ hq)
noncomputable def qv (t:T) (M:Mem):Option (List T):=match t with
 | .lst xs=>some xs
 | .ref a=>match M[a]? with
  | some (.lst xs)=>some xs
  | _=>none
 | _=>none
noncomputable def zhR (t:T):Option (List T):=match t with
 | .lst xs=>some xs
 | .tup xs=>some xs
 | _=>none
noncomputable def zan (t:T) (M:Mem):Option (List T):=match t with
 | .tup xs=>some xs
 | t=>qv t M
section
variable {S:Sit} {t:T}
theorem zdK (h:(Rd S.H p (.lst vs)/\S.off p)\/KL K p vs):SqL K S.H p vs:=by
 rcases h with ⟨h,_⟩ | h
 ·exact .inl h
 ·exact .inr h
theorem qA (m:MemOk K S) (r:Rep K S t v) (e:qv t S.M = some xs):∃ p vs,v = .ref p/\SqL K S.H p vs/\Reps K S xs vs:=by
 cases r with
 | @lst ts p vs h l r=>cases e;exact ⟨p,vs,rfl,zdK h,l,r⟩
 | @ref a h=>
  unfold qv at e
  dsimp only at e
  split at e
  ·rename_i ys q
   cases e
   obtain ⟨vs,q2,r2⟩:=m.cell a _ q
   exact ⟨_,vs,rfl,.inl (.inl q2),r2⟩
  ·cases e
 | _=>cases e
theorem zcp (m:MemOk K S) (r:Rep K S t v) (e:zan t S.M = some xs):∃ p vs,v = .ref p/\(SqL K S.H p vs\/SqT K S.H p vs)/\Reps K S xs vs:=by
 cases t with
 | tup ts=>
  cases e
  cases r with
  | @tup _ p vs h l r=>exact ⟨p,vs,rfl,.inr h,l,r⟩
 | lst ts=>obtain ⟨p,vs,e1,h,r2⟩:=qA m r e;exact ⟨p,vs,e1,.inl h,r2⟩
 | ref a=>obtain ⟨p,vs,e1,h,r2⟩:=qA m r e;exact ⟨p,vs,e1,.inl h,r2⟩
 | _=>cases e
end
noncomputable def zb9 (f:Ev->Mem->Out T):Ev->Mem->Out (List T):=fun σ M=>(f σ M).bind fun t M1=>match zhR t with
 | some xs=>.ok xs M1
 | none=>.bad
noncomputable def zds (lo:Int) (n:Nat):List T:=(List.range n).map fun (k:Nat)=>T.int (lo + (k:Int))
noncomputable def zd3 (ts:List T) (M1:Mem):Out (List T):=match ts with
 | [.int j]=>@ite _ (-(2 ^ 62)<=j/\j < 2 ^ 62) (Classical.propDecidable _) (.ok (zds 0 j.toNat) M1) .bad
 | _=>.bad
noncomputable def zfw (ts:List T) (M1:Mem):Out (List T):=match ts with
 | [.int i,.int j]=>@ite _ ((-(2 ^ 62)<=i/\i < 2 ^ 62)/\(-(2 ^ 62)<=j/\j < 2 ^ 62)) (Classical.propDecidable _) (.ok (zds i (j - i).toNat) M1) .bad
 | _=>.bad
noncomputable def zQ (f:Ev->Mem->Out (List T)):Ev->Mem->Out (List T):=fun σ M=>(f σ M).bind fun ts M1=>zd3 ts M1
noncomputable def zgQ (f:Ev->Mem->Out (List T)):Ev->Mem->Out (List T):=fun σ M=>(f σ M).bind fun ts M1=>zfw ts M1
theorem zin (K:Frag) (S:Sit) (lo:Int) (n:Nat):zdB K S (zds lo n) (Itr lo n):=fun S' s=>by
 refine ⟨fun i t e=>?_,fun i h=>?_⟩
 ·unfold zds at e
  rw [Qb] at e
  cases q:(List.range n)[i]? with
  | none=>rw [q] at e;cases e
  | some k=>
   rw [q] at e
   cases e
   have hi:i < n:=by have:=(Qz.mp q).1;simpa using this
   have hk:k = i:=by rw [getElem?_range hi] at q;exact (Qd q).symm
   subst hk
   refine ⟨hi,fun x H' hy=>?_⟩
   obtain ⟨e1,e2⟩:=hy
   exact ⟨S',e1.symm,rfl,.refl s.mok,by rw [e2];exact .int _⟩
 ·show n<=i
  simpa [zds] using h
section
variable {a b c:Expr} {h:Ev->Mem->Out T} {pos p:Pos}
theorem zqb (he:GE X XE e f):GI X XE tg e (zb9 f):=PI.imp (PI.or (zjx he) (zo7 he)) fun σ H R h9=>by
 obtain ⟨S,στ,_,e,m,ev,_,fin⟩:=h9
 replace fin:Fin XE (zdB X.K) X.K S ((f στ S.M).bind fun t M1=>match zhR t with | some xs=>.ok xs M1 | none=>.bad) R:=fin
 cases o:f στ S.M with
 | bad=>rw [o] at fin;exact fin.elim
 | exn C fs M'=>
  rw [o] at fin
  refine .inl ⟨S,στ,(),e,m,ev,trivial,?_⟩
  show Fin XE (Rep X.K) X.K S (f στ S.M) _
  rw [o];exact fin
 | ok t M1=>
  rw [o] at fin
  cases t with
  | lst ts=>
   refine .inl ⟨S,στ,(),e,m,ev,trivial,?_⟩
   show Fin XE (Rep X.K) X.K S (f στ S.M) _
   rw [o]
   intro S1 v e1 s1 r1
   cases r1 with
   | @lst _ p vs h l r=>
    have r1:Reps X.K S1 ts vs:=⟨l,r⟩
    refine ⟨p,rfl,⟨vs,zdK h⟩,fin S1 _ e1 s1 fun S3 s3=>?_⟩
    have g3:SqL X.K S3.H p vs:=by
     rcases h with ⟨h2,f2⟩ | h2
     ·exact .inl (s3.toGrow.rd h2 f2).1
     ·exact .inr h2
    refine ⟨fun i t et=>?_,fun i hi=>⟨vs,g3,by rw [← l];exact hi⟩⟩
    obtain ⟨v2,ev3,r3⟩:=r1.get et
    refine ⟨⟨vs,v2,g3,ev3⟩,fun x H' hy=>?_⟩
    obtain ⟨ey,hy⟩:=hy
    have:=hy vs g3
    rw [ev3] at this
    cases this
    exact ⟨S3,ey.symm,rfl,.refl s3.mok,r3.grow s1.mok s3.toGrow⟩
  | tup ts=>
   refine .inr ⟨S,στ,(),e,m,ev,trivial,?_⟩
   show Fin XE (Rep X.K) X.K S (f στ S.M) _
   rw [o]
   intro S1 v e1 s1 r1
   cases r1 with
   | @tup _ p vs h l r=>
    have r1:Reps X.K S1 ts vs:=⟨l,r⟩
    refine ⟨p,rfl,⟨vs,h⟩,fin S1 _ e1 s1 fun S3 s3=>?_⟩
    have g3:SqT X.K S3.H p vs:=s3.toGrow.tup s1.mok h
    refine ⟨fun i t et=>?_,fun i hi=>⟨vs,g3,by rw [← l];exact hi⟩⟩
    obtain ⟨v2,ev3,r3⟩:=r1.get et
    refine ⟨⟨vs,v2,g3,ev3⟩,fun x H' hy=>?_⟩
    obtain ⟨ey,hy⟩:=hy
    have:=hy vs g3
    rw [ev3] at this
    cases this
    exact ⟨S3,ey.symm,rfl,.refl s3.mok,r3.grow s1.mok s3.toGrow⟩
  | _=>exact fin.elim
end
noncomputable def yz (bd:T->Ev->Mem->Out Ev) (cond:Ev->Mem->Out Bool) (el:Ev->Mem->Out T):List T->Ev->Mem->List T->Out (List T)
 | [],_,M,acc=>.ok acc M
 | x :: xs,σ,M,acc=>(bd x σ M).bind fun σ1 M1=>(cond σ1 M1).bind fun b M2=>if b = true then (el σ1 M2).bind fun t M3=>if acc.length < sizeLine then yz bd cond el xs σ1 M3 (acc ++ [t]) else .bad else yz bd cond el xs σ1 M2 acc
noncomputable def zch (tgs:List Str) (caps:List (Str × Nat)) (σ:Ev):Ev:=tgs.map (fun _=>none) ++ caps.map fun c=>(σ[c.2]?).join
noncomputable def qN (it:Ev->Mem->Out (List T)) (bd:T->Ev->Mem->Out Ev) (cond:Ev->Mem->Out Bool) (el:Ev->Mem->Out T) (tgs:List Str) (caps:List (Str × Nat)):Ev->Mem->Out (List T):=fun σ M=>(it σ M).bind fun xs M1=>yz bd cond el xs (zch tgs caps σ) M1 []
noncomputable def qM:Ev->Mem->Out Bool:=fun _ M=>.ok true M
theorem EvR.cap {S:Sit} (r:EvR K S στ σ) (tgs:List Str) (caps:List (Str × Nat)):EvR K S (zch tgs caps στ) (za3 tgs caps σ):=by
 refine ⟨by simp [zch,za3],fun i t e=>?_⟩
 unfold zch at e
 unfold za3
 by_cases hi:i < tgs.length
 ·rw [Q6 (by simpa using hi)] at e
  rw [Qb] at e
  cases q:tgs[i]? with
  | none=>rw [q] at e;cases e
  | some x=>rw [q] at e;cases e
 ·rw [Q8 (by simpa using hi),Qb] at e
  rw [Q8 (by simpa using hi),Qb]
  simp only [Qh] at e ⊢
  cases q:caps[i - tgs.length]? with
  | none=>rw [q] at e;cases e
  | some cq=>
   rw [q] at e
   have e2:(στ[cq.2]?).join = some t:=Qd e
   have e3:στ[cq.2]? = some (some t):=by
    cases q2:στ[cq.2]? with
    | none=>rw [q2] at e2;cases e2
    | some o=>rw [q2] at e2;cases o with
     | none=>cases e2
     | some v'=>rw [show v' = t from Qd e2]
   obtain ⟨v,e4,r4⟩:=r.2 _ _ e3
   exact ⟨v,by show some ((σ[cq.2]?).join) = _;rw [e4];rfl,r4⟩
noncomputable def Sit.hput (S:Sit) (p:Addr) (vs:List V):Sit:=⟨S.α,S.M,upd S.H p (.lst vs),S.hid⟩
section
variable {S S0:Sit} {us:List V}
theorem Rep.hput (m:MemOk K S) (hp:p ∈ S.hid) {t:T} (r:Rep K S t v):Rep K (S.hput p us) t v:=by
 obtain ⟨_,ws,ew⟩:=m.hd p hp
 induction r with
 | non=>exact .non
 | bl b=>exact .bl b
 | int b=>exact .int b
 | str b=>exact .str b
 | ty b=>exact .ty b
 | @tup ts q vs h l _ ih=>
  refine .tup ?_ l ih
  rcases h with (h | ⟨o,h⟩) | h
  ·exact .inl (.inl ((zm (zeZ h ew (by intro z;cases z))).trans h))
  ·exact .inl (.inr ⟨o,(zm (zeZ h ew (by intro z;cases z))).trans h⟩)
  ·exact .inr h
 | @lst ts q vs h l _ ih=>
  refine .lst ?_ l ih
  rcases h with ⟨h,f⟩ | h
  ·have hne:q ≠ p:=fun z=>f.2 (by rw [z];exact hp)
   refine .inl ⟨?_,f⟩
   rcases h with h | ⟨o,h⟩
   ·exact .inl ((zm hne).trans h)
   ·exact .inr ⟨o,(zm hne).trans h⟩
  ·exact .inr h
 | ref h=>exact .ref (S:=S.hput p us) h
 | dct h l _ ih=>exact .dct (S:=S.hput p us) ((zm (zeZ h ew (by intro z;cases z))).trans h) l ih
 | exc h hd l _ ih=>exact .exc (S:=S.hput p us) ((zm (zeZ h ew (by intro z;cases z))).trans h) (hd.imp (fun z=>z) fun ⟨d,a,b⟩=>⟨d,a,(zm (zeZ b ew (by intro z;cases z))).trans b⟩) l ih
theorem Reps.hput (m:MemOk K S) (hp:p ∈ S.hid) {t:List T} {v:List V} (r:Reps K S t v):Reps K (S.hput p us) t v:=⟨r.1,fun i a b e1 e2=>(r.2 i a b e1 e2).hput m hp⟩
theorem CellOk.hput (m:MemOk K S) (hp:p ∈ S.hid) {c:Cell} (hq:q ≠ p) (r:CellOk K S q c):CellOk K (S.hput p us) q c:=by
 cases c with
 | lst ts=>obtain ⟨vs,q,r⟩:=r;exact ⟨vs,(zm hq).trans q,r.hput m hp⟩
 | dic ts=>obtain ⟨vs,q,r⟩:=r;exact ⟨vs,(zm hq).trans q,r.1,r.2.hput m hp⟩
 | ins C ts=>obtain ⟨dx,vs,q,r⟩:=r;exact ⟨dx,vs,(zm hq).trans q,r.1,r.2.hput m hp⟩
 | dtu ts=>obtain ⟨vs,q,r⟩:=r;exact ⟨vs,(zm hq).trans q,r.1,r.2.hput m hp⟩
theorem Stp.hput (s:Stp K S0 S) (hp:p ∈ S.hid) (hn:S0.H p = none) (m0:MemOk K S0):Stp K S0 (S.hput p us):=by
 refine ⟨⟨s.le,s.al,s.fr,fun b o e f=>(zm (zE e hn)).trans (s.kp b o e f),fun q h=>⟨(s.hk q h).1,?_⟩,s.hf⟩,⟨fun a c e=>?_,s.mok.inj,fun q h=>?_⟩⟩
 ·obtain ⟨_,vs,e⟩:=m0.hd q h
  exact (zm (zE e hn)).trans (s.hk q h).2
 ·exact (s.mok.cell a c e).hput s.mok hp ((s.mok.hd p hp).1 a (Qz.mp e).1)
 ·obtain ⟨h1,vs,e⟩:=s.mok.hd q h
  refine ⟨h1,?_⟩
  by_cases z:q = p
  ·exact ⟨us,by show upd S.H p _ q = _;rw [z];exact yC⟩
  ·exact ⟨vs,(zm z).trans e⟩
end
structure CB (X:Cx) (scope:Scope) (cl:List (Str × Addr)) (caps:List (Str × Nat)):Prop where
 hc:X.calm = true
 hclos:closureFor scope X.env = pure cl
 hcell:∀ y ∈ scope.names,y.2 = .cell->y.1 ∉ caps.map (·.1)
 hkind:scope.kind = .function
 hnames:∀ y ∈ scope.names,y.2 = .local->scope.names.lookup y.1 = some .local
 hcl:∀ y c,cl.lookup y = some c->X.env.cells.lookup y = some c
 hhas:∀ n y,((relabel scope X.env).names.lookup y = some .cell\/(relabel scope X.env).names.lookup y = some .free)->∃ c,(cellsFrom n scope.names cl).lookup y = some c
 hcap:∀ c ∈ caps,X.N[c.2]? = some c.1/\X.env.kindOf c.1 = some .cell/\((relabel scope X.env).names.lookup c.1 = some .cell\/(relabel scope X.env).names.lookup c.1 = some .free)
variable {cond:Ev->Mem->Out Bool} {elt:Expr} {cl:List (Str × Addr)} {caps:List (Str × Nat)} {ifs:List Expr} {tgs:List Str} {scope:Scope}
section
theorem ziO (hh:lL XE X.K (qN ga bd cond f tgs caps) σ H Q) :
  zhr (lI XE X.K ga) (lG XE X.K bd) (lT XE X.K cond) (lE XE X.K f) (za3 tgs caps) σ H Q:=by
 obtain ⟨S,στ,e,m,ev,fin⟩:=hh
 replace fin:FinL XE X.K S ((ga στ S.M).bind fun xs M1=>yz bd cond f xs (zch tgs caps στ) M1 []) Q:=fin
 refine ⟨S,στ,(),e,m,ev,trivial,?_⟩
 show Fin XE (zdB X.K) X.K S (ga στ S.M) _
 cases o:ga στ S.M with
 | bad=>rw [o] at fin;exact fin
 | exn C fs M'=>rw [o] at fin;exact fin
 | ok items M1=>
  rw [o] at fin
  replace fin:FinL XE X.K S (yz bd cond f items (zch tgs caps στ) M1 []) Q:=fin
  intro S0 J e0 s0 it0 D hD
  have m0:=s0.mok
  have fin0:=fin.later s0
  have s1:=Stp.hide (K:=X.K) m0 hD []
  refine ⟨fun i n σ' H'=>∃ S στ acc vs,S.H = H'/\EvR X.K S στ σ'/\n = items.length - i/\i<=items.length/\D ∈ S.hid/\S.H D = some (.lst vs)/\Reps X.K S acc vs/\Stp X.K S0 S/\FinL XE X.K S0 (yz bd cond f (items.drop i) στ S.M acc) Q,
   ⟨items.length - 0,S0.hide D [],zch tgs caps στ,[],[],rfl,(Mo.mo (K:=X.K) m0 s1 (Mo.mo (K:=X.K) m s0 ev)).cap tgs caps,rfl,Nat.zero_le _,.head _,yC,.nil,s1,by show FinL XE X.K S0 (yz bd cond f items (zch tgs caps στ) S0.M []) Q;rw [e0];exact fin0⟩,?_⟩
  rintro i n σ1 H1 ⟨S2,στ2,acc,vs,e2,ev2,en,hi2,hid2,hD2,racc,s2,fin2⟩
  subst e2
  have m2:=s2.mok
  obtain ⟨itg,its⟩:=it0 S2 s2
  by_cases hl:i < items.length
  ·have eq:items.drop i = items[i] :: items.drop (i + 1):=List.drop_eq_getElem_cons hl
   rw [eq] at fin2
   obtain ⟨go,yl⟩:=itg i items[i] (by simp [hl])
   refine .inr ⟨go,fun σ' H'=>∃ S στ acc vs,S.H = H'/\EvR X.K S στ σ'/\D ∈ S.hid/\S.H D = some (.lst vs)/\Reps X.K S acc vs/\Stp X.K S0 S/\FinL XE X.K S0 (yz bd cond f (items.drop (i + 1)) στ S.M acc) Q,?_,fun x H' hy=>?_⟩
   ·rintro σ' H' ⟨S,στ,acc,vs,a1,a2,a3,a4,a5,a6,a7⟩
    exact ⟨items.length - (i + 1),by omega,S,στ,acc,vs,a1,a2,rfl,hl,a3,a4,a5,a6,a7⟩
   ·obtain ⟨S3,e3,eM,s3,r3⟩:=yl x H' hy
    replace fin2:FinL XE X.K S0 ((bd items[i] στ2 S2.M).bind fun σ1 M1=>(cond σ1 M1).bind fun b M2=>if b = true then (f σ1 M2).bind fun t M3=>if acc.length < sizeLine then yz bd cond f (items.drop (i + 1)) σ1 M3 (acc ++ [t]) else .bad else yz bd cond f (items.drop (i + 1)) σ1 M2 acc) Q:=fin2
    refine ⟨S3,στ2,items[i],e3,s3.mok,Mo.mo m2 s3 ev2,r3,?_⟩
    show Fin XE (EvR X.K) X.K S3 (bd items[i] στ2 S3.M) _
    rw [eM]
    cases o1:bd items[i] στ2 S2.M with
    | bad=>rw [o1] at fin2;exact fin2
    | exn C fs M'=>rw [o1] at fin2;exact fun S' od a1 a2 a3=>fin2 S' od a1 ((s2.trans s3).trans a2) a3
    | ok σ4 M4=>
     rw [o1] at fin2
     intro S4 σ4v e4 s4 ev4
     have t4:=s3.trans s4
     replace fin2:FinL XE X.K S0 ((cond σ4 M4).bind fun b M2=>if b = true then (f σ4 M2).bind fun t M3=>if acc.length < sizeLine then yz bd cond f (items.drop (i + 1)) σ4 M3 (acc ++ [t]) else .bad else yz bd cond f (items.drop (i + 1)) σ4 M2 acc) Q:=fin2
     refine ⟨S4,σ4,(),rfl,s4.mok,ev4,trivial,?_⟩
     show Fin XE EqR X.K S4 (cond σ4 S4.M) _
     rw [e4]
     cases o2:cond σ4 M4 with
     | bad=>rw [o2] at fin2;exact fin2
     | exn C fs M'=>rw [o2] at fin2;exact fun S' od a1 a2 a3=>fin2 S' od a1 ((s2.trans t4).trans a2) a3
     | ok b M5=>
      rw [o2] at fin2
      intro S5 b5 e5 s5 eb
      have eb':b = b5:=eb
      subst eb'
      have t5:=t4.trans s5
      replace fin2:FinL XE X.K S0 (if b = true then (f σ4 M5).bind fun t M3=>if acc.length < sizeLine then yz bd cond f (items.drop (i + 1)) σ4 M3 (acc ++ [t]) else .bad else yz bd cond f (items.drop (i + 1)) σ4 M5 acc) Q:=fin2
      cases b with
      | false=>
       rw [QB Q4] at fin2
       refine (QB Q4).mpr ⟨S5,σ4,acc,vs,rfl,Mo.mo s4.mok s5 ev4,(t5.hk D hid2).1,by rw [(t5.hk D hid2).2];exact hD2,racc.grow m2 t5.toGrow,s2.trans t5,by rw [e5];exact fin2⟩
      | true=>
       rw [QA rfl] at fin2
       refine (QA rfl).mpr ⟨S5,σ4,(),rfl,s5.mok,Mo.mo s4.mok s5 ev4,trivial,?_⟩
       show Fin XE (Rep X.K) X.K S5 (f σ4 S5.M) _
       rw [e5]
       cases o3:f σ4 M5 with
       | bad=>rw [o3] at fin2;exact fin2
       | exn C fs M'=>rw [o3] at fin2;exact fun S' od a1 a2 a3=>fin2 S' od a1 ((s2.trans t5).trans a2) a3
       | ok t M6=>
        rw [o3] at fin2
        replace fin2:FinL XE X.K S0 (if acc.length < sizeLine then yz bd cond f (items.drop (i + 1)) σ4 M6 (acc ++ [t]) else .bad) Q:=fin2
        intro S6 v6 e6 s6 r6
        have t6:=t5.trans s6
        have hz:acc.length < sizeLine:=by
         by_cases hz:acc.length < sizeLine
         ·exact hz
         ·rw [QB hz] at fin2;exact fin2.elim
        rw [QA hz] at fin2
        have hid6:=(t6.hk D hid2).1
        have hD6:S6.H D = some (.lst vs):=by rw [(t6.hk D hid2).2];exact hD2
        refine ⟨vs,hD6,by rw [← racc.1];exact hz,S6.hput D (vs ++ [v6]),σ4,acc ++ [t],vs ++ [v6],rfl,?_,hid6,yC,?_,(s2.trans t6).hput hid6 hD m0,by show FinL XE X.K S0 (yz bd cond f (items.drop (i + 1)) σ4 S6.M (acc ++ [t])) Q;rw [e6];exact fin2⟩
        ·have ev6:EvR X.K S6 σ4 σ4v:=Mo.mo s4.mok (s5.trans s6) ev4
         exact ⟨ev6.1,fun i t e=>let ⟨v,e',q⟩:=ev6.2 i t e;⟨v,e',q.hput s6.mok hid6⟩⟩
        ·exact ((racc.grow m2 t6.toGrow).app (.cons r6 .nil)).hput s6.mok hid6
  ·rw [List.drop_eq_nil_of_le (by omega)] at fin2
   refine .inl ⟨its i (by omega),?_⟩
   exact fin2 S2 D vs rfl s2 hD hid2 hD2 racc
theorem zn4:PTs X [] (lT XE X.K qM):=fun pins s σ H Q I h=>znl pins s σ H Q I (zht h)
theorem zn3 {c:Expr} (h:GT X XE c tf):PTs X [c] (lT XE X.K tf):=znk h
end
def LNL {A AV:Type} (XE:XK) (K:Frag) (RA:Sit->A->AV->Prop) (k:A->Ev->Mem->Out (List T)) (av:AV) (σ:L2.St) (H:Hp) (Q:VK):Prop:=
 ∃ (S:Sit) (στ:Ev) (a:A),S.H = H/\MemOk K S/\EvR K S στ σ/\RA S a av/\FinL XE K S (k a στ S.M) Q
theorem LNL.bind {A AV B BV:Type} {RA:Sit->A->AV->Prop} {RB:Sit->B->BV->Prop} [Mo K RA] {f:A->Ev->Mem->Out B} {k:A->B->Ev->Mem->Out (List T)} {av:AV} 
 (h:LNL XE K RA (fun a σ M=>(f a σ M).bind fun b M1=>k a b σ M1) av σ H Q):LN XE RB K RA f av σ H (fun bv H1=>LNL XE K (PrR RA RB) (fun ab=>k ab.1 ab.2) (av,bv) σ H1 Q):=by
 obtain ⟨S,στ,a,e,m,ev,ra,fin⟩:=h
 refine ⟨S,στ,a,e,m,ev,ra,?_⟩
 replace fin:FinL XE K S ((f a στ S.M).bind fun b M1=>k a b στ M1) Q:=fin
 cases q:f a στ S.M with
 | bad=>rw [q] at fin;exact fin
 | exn C fs M'=>rw [q] at fin;exact fin
 | ok b M1=>
  rw [q] at fin
  intro S1 c e1 s1 r1
  refine ⟨S1,στ,(a,b),rfl,s1.mok,Mo.mo m s1 ev,⟨Mo.mo m s1 ra,r1⟩,?_⟩
  rw [e1]
  exact fin.later s1
def L0L {A AV:Type} (XE:XK) (K:Frag) (RA:Sit->A->AV->Prop) (k:A->Mem->Out (List T)) (av:AV) (H:Hp) (Q:VK):Prop:=∃ (S:Sit) (a:A),S.H = H/\MemOk K S/\RA S a av/\FinL XE K S (k a S.M) Q
noncomputable def zkn (XE:XK) (K:Frag) (o:T->T->Mem->Out (List T)):R2:=fun x y H Q=>L0L XE K (PrR (Rep K) (Rep K)) (fun a M=>o a.1 a.2 M) (x,y) H Q
noncomputable def lOp (o:T->T->Mem->Out (List T)) (f g:Ev->Mem->Out T):Ev->Mem->Out (List T):=fun σ M=>(f σ M).bind fun x M1=>(g σ M1).bind fun y M2=>o x y M2
noncomputable def zsV (F:List T->Mem->Out (List T)) (g:Ev->Mem->Out (List T)):Ev->Mem->Out (List T):=fun σ M=>(g σ M).bind fun ts M1=>F ts M1
theorem zh9 {S:Sit} (m:MemOk K S) (fin:FinL XE K S (.ok xs S.M) Q) (r:Reps K S xs vs):∀ p,S.H p = none->Q (.ref p) (upd S.H p (.lst vs)):=fun p hp=>
 fin (S.hide p vs) p vs rfl (Stp.hide m hp vs) hp (.head _) yC (r.grow m (Stp.hide m hp vs).toGrow)
section
variable {a b:Expr} {pos p:Pos}
end
noncomputable def zaY (k:Int->Int->Mem->Out T) (x y:T) (M:Mem):Out T:=match x,y with
 | .int i,.int j=>k i j M
 | _,_=>.bad
def Mo64 (i j:Int):Prop:=(i.natAbs < 10 ^ 3000/\j.natAbs < 10 ^ 3000)\/(-(2 ^ 64) < i/\i < 2 ^ 64)\/(-(2 ^ 64) < j/\j < 2 ^ 64)
instance (i j:Int):Decidable (Mo64 i j):=inferInstanceAs (Decidable (_\/_))
variable {i j:Int}
theorem Mo64.ok (h:Mo64 i j):CMulB i j:=by
 rcases h with h | h
 ·exact .inl ⟨3000,3000,h.1,h.2,Q3 _,Q3 _⟩
 ·exact .inr h
noncomputable def zdA:T->T->Mem->Out T:=zaY fun i j M=>.ok (.int (i + j)) M
noncomputable def zbJ:T->T->Mem->Out T:=zaY fun i j M=>.ok (.int (i - j)) M
noncomputable def zdw:T->T->Mem->Out T:=zaY fun i j M=>if j ≠ 0/\j.natAbs < 10 ^ 2000 then .ok (.int (i.fdiv j)) M else .bad
noncomputable def zby:T->T->Mem->Out T:=zaY fun i j M=>if j ≠ 0 then .ok (.int (i.fmod j)) M else .bad
noncomputable def zke:T->T->Mem->Out T:=zaY fun i j M=>if 0<=j/\j<=1000000/\i.natAbs < 2 ^ 64 then .ok (.int (i ^ j.toNat)) M else .bad
noncomputable def ltI:T->T->Mem->Out T:=zaY fun i j M=>.ok (.bl (decide (i < j))) M
noncomputable def leI:T->T->Mem->Out T:=zaY fun i j M=>.ok (.bl (decide (i<=j))) M
noncomputable def gtI:T->T->Mem->Out T:=zaY fun i j M=>.ok (.bl (decide (j < i))) M
noncomputable def geI:T->T->Mem->Out T:=zaY fun i j M=>.ok (.bl (decide (j<=i))) M
noncomputable def zia:T->Mem->Out T:=fun x M=>match x with
 | .int i=>.ok (.int (-i)) M
 | _=>.bad
variable {y:V} {F:Value}
section
theorem zjv {S:Sit} (r:Rep K S (.int i) v):v = .int i:=by cases r;rfl
theorem zbC {fn:Value->Value->Sem Value} {r:R2} {k:Int->Int->Mem->Out T} (ho:OpR X fn r)
  (h:∀ i j S Q,MemOk X.K S->Fin XE (Rep X.K) X.K S (k i j S.M) Q->r (.int i) (.int j) S.H Q):OpR X fn (lR2 XE X.K (zaY k)):=by
 intro pins s σ H x y v u Q I rx ry ⟨S,⟨tx,ty⟩,e,m,⟨r1,r2⟩,fin⟩
 replace fin:Fin XE (Rep X.K) X.K S (zaY k tx ty S.M) Q:=fin
 unfold zaY at fin
 split at fin
 ·have e1:=zjv r1
  have e2:=zjv r2
  dsimp only at e1 e2
  subst e1;subst e2;subst e
  exact ho pins s σ S.H _ _ v u Q I rx ry (h _ _ S Q m fin)
 ·exact fin.elim
theorem zaI:OpR X (binaryOp .Sub) (lR2 XE X.K zbJ):=zbC zpk fun i j S Q m fin=>⟨i,j,rfl,rfl,fin S _ rfl (.refl m) (.int _)⟩
theorem zeX:OpR X (binaryOp .FloorDiv) (lR2 XE X.K zdw):=zbC zme fun i j S Q m fin=>by
 by_cases h:j ≠ 0/\j.natAbs < 10 ^ 2000
 ·rw [QA h] at fin
  exact ⟨i,j,rfl,rfl,⟨h.1,2000,h.2,Q3 _⟩,fin S _ rfl (.refl m) (.int _)⟩
 ·rw [QB h] at fin;exact fin.elim
theorem zaK:OpR X (binaryOp .Mod) (lR2 XE X.K zby):=zbC znH fun i j S Q m fin=>by
 by_cases h:j ≠ 0
 ·rw [QA h] at fin
  exact ⟨i,j,rfl,rfl,h,fin S _ rfl (.refl m) (.int _)⟩
 ·rw [QB h] at fin;exact fin.elim
theorem zjz:OpR X (binaryOp .Pow) (lR2 XE X.K zke):=zbC zpl fun i j S Q m fin=>by
 by_cases h:0<=j/\j<=1000000/\i.natAbs < 2 ^ 64
 ·rw [QA h] at fin
  exact ⟨i,j,rfl,rfl,h,fin S _ rfl (.refl m) (.int _)⟩
 ·rw [QB h] at fin;exact fin.elim
theorem zeB:OpR X (compareOp .Lt) (lR2 XE X.K ltI):=zbC zrf fun i j S Q m fin=>⟨i,j,rfl,rfl,fin S _ rfl (.refl m) (.bl _)⟩
theorem zh4:OpR X (compareOp .LtE) (lR2 XE X.K leI):=zbC zrg fun i j S Q m fin=>⟨i,j,rfl,rfl,fin S _ rfl (.refl m) (.bl _)⟩
theorem zbN:OpR X (compareOp .Gt) (lR2 XE X.K gtI):=zbC zrh fun i j S Q m fin=>⟨i,j,rfl,rfl,fin S _ rfl (.refl m) (.bl _)⟩
theorem zkZ:OpR X (compareOp .GtE) (lR2 XE X.K geI):=zbC zri fun i j S Q m fin=>⟨i,j,rfl,rfl,fin S _ rfl (.refl m) (.bl _)⟩
theorem zm8:L2.UnR X (unaryOp .USub) (lR1 XE X.K zia):=by
 intro pins s σ H x v Q I rx ⟨S,t,e,m,r,fin⟩
 replace fin:Fin XE (Rep X.K) X.K S (zia t S.M) Q:=fin
 unfold zia at fin
 split at fin
 ·cases r
  subst e
  exact zoC pins s σ S.H _ v Q I rx ⟨_,rfl,fin S _ rfl (.refl m) (.int _)⟩
 ·exact fin.elim
noncomputable def isB:T->T->Mem->Out T:=fun x y M=>match x,y with
 | .bl a,.bl b=>.ok (.bl (a == b)) M
 | _,_=>.bad
noncomputable def zro:T->T->Mem->Out T:=fun x y M=>match x,y with
 | .bl a,.bl b=>.ok (.bl (a != b)) M
 | _,_=>.bad
noncomputable def zmf:T->Bool
 | .non=>true
 | _=>false
noncomputable def isN:T->T->Mem->Out T:=fun x y M=>match y with
 | .non=>.ok (.bl (zmf x)) M
 | _=>.bad
noncomputable def zat:T->T->Mem->Out T:=fun x y M=>match y with
 | .non=>.ok (.bl (!zmf x)) M
 | _=>.bad
theorem zh6 {S:Sit} {t:T} (r:Rep K S t v):decide (v = .non) = zmf t:=by
 cases r <;> first | rfl | exact Qx (by intro z;cases z)
theorem zdJ:OpR X (compareOp .Is) (lR2 XE X.K isN):=by
 intro pins s σ H x y v u Q I rx ry ⟨S,⟨tx,ty⟩,e,m,⟨r1,r2⟩,fin⟩
 replace fin:Fin XE (Rep X.K) X.K S (isN tx ty S.M) Q:=fin
 unfold isN at fin
 split at fin
 ·cases r2;subst e
  exact zpm pins s σ S.H _ _ v u Q I rx ry ⟨rfl,by rw [zh6 r1];exact fin S _ rfl (.refl m) (.bl _)⟩
 ·exact fin.elim
theorem zdf:OpR X (compareOp .IsNot) (lR2 XE X.K zat):=by
 intro pins s σ H x y v u Q I rx ry ⟨S,⟨tx,ty⟩,e,m,⟨r1,r2⟩,fin⟩
 replace fin:Fin XE (Rep X.K) X.K S (zat tx ty S.M) Q:=fin
 unfold zat at fin
 split at fin
 ·cases r2;subst e
  exact znD pins s σ S.H _ _ v u Q I rx ry ⟨rfl,by rw [zh6 r1];exact fin S _ rfl (.refl m) (.bl _)⟩
 ·exact fin.elim
noncomputable def ziw (M:Mem):T->T->Option T
 | .tup xs,.int i=>atI xs i
 | .lst xs,.int i=>atI xs i
 | .ref a,.int i=>match M[a]? with
  | some (.lst xs)=>atI xs i
  | _=>none
 | _,_=>none
noncomputable def zfz (o:Option T) (M:Mem):Out T:=match o with
 | some t=>.ok t M
 | none=>.bad
noncomputable def ixT:T->T->Mem->Out T:=fun x y M=>zfz (ziw M x y) M
theorem Reps.atI {S:Sit} (r:Reps K S ts vs) {t:T} (e:L2.atI ts i = some t):∃ v,L2.atI vs i = some v/\Rep K S t v:=by
 unfold L2.atI at e ⊢
 rw [← r.1]
 cases q:ixN ts.length i with
 | none=>rw [q] at e;cases e
 | some j=>
  rw [q] at e
  obtain ⟨v,e2,r2⟩:=r.get (show ts[j]? = some t from e)
  exact ⟨v,e2,r2⟩
theorem zoi {S:Sit} {tx ty t:T} {x:V} (m:MemOk K S) (r1:Rep K S tx x) (r2:Rep K S ty y) (e:ziw S.M tx ty = some t) :
  ∃ p vs i v,x = .ref p/\y = .int i/\(SqL K S.H p vs\/SqT K S.H p vs)/\L2.atI vs i = some v/\Rep K S t v:=by
 unfold ziw at e
 split at e
 ·cases r2
  cases r1 with
  | @tup _ p vs h l r=>
   obtain ⟨v,e2,r3⟩:=Reps.atI ⟨l,r⟩ e
   exact ⟨p,vs,_,v,rfl,rfl,.inr h,e2,r3⟩
 ·cases r2
  cases r1 with
  | @lst _ p vs h l r=>
   obtain ⟨v,e2,r3⟩:=Reps.atI ⟨l,r⟩ e
   exact ⟨p,vs,_,v,rfl,rfl,.inl (zdK h),e2,r3⟩
 ·split at e
  ·rename_i q
   cases r2
   cases r1 with
   | ref h=>
    obtain ⟨vs,q2,r⟩:=m.cell _ _ q
    obtain ⟨v,e2,r3⟩:=Reps.atI r e
    exact ⟨_,vs,_,v,rfl,rfl,.inl (.inl (.inl q2)),e2,r3⟩
  ·cases e
 ·cases e
theorem zgD {S:Sit} {o:Option T} (fin:Fin XE (Rep K) K S (zfz o S.M) Q):∃ t,o = some t/\Fin XE (Rep K) K S (.ok t S.M) Q:=by
 unfold zfz at fin
 split at fin
 ·exact ⟨_,rfl,fin⟩
 ·exact fin.elim
theorem qg:IxR X (lR2 XE X.K ixT):=by
 intro va sl pins s σ H x y v u Q I rx ry ⟨S,⟨tx,ty⟩,e,m,⟨r1,r2⟩,fin⟩ hs
 obtain ⟨t,et,fin⟩:=zgD (show Fin XE (Rep X.K) X.K S (zfz (ziw S.M tx ty) S.M) Q from fin)
 obtain ⟨p,vs,i,w,e1,e2,hq,ea,r3⟩:=zoi m r1 r2 et
 dsimp only at e1 e2
 subst e1;subst e2;subst e
 refine zpR va sl pins s σ S.H _ _ v u Q I rx ry ?_ hs
 rcases hq with hq | hq
 ·exact .inl ⟨p,vs,i,w,rfl,rfl,hq,ea,fin S w rfl (.refl m) r3⟩
 ·exact .inr (.inl ⟨p,vs,i,w,rfl,rfl,hq,ea,fin S w rfl (.refl m) r3⟩)
noncomputable def yp (k:T->Mem->Out T) (ts:List T) (M:Mem):Out T:=match ts with
 | [t]=>k t M
 | _=>.bad
noncomputable def call2 (k:T->T->Mem->Out T) (ts:List T) (M:Mem):Out T:=match ts with
 | [t,u]=>k t u M
 | _=>.bad
theorem zda {k:T->Mem->Out T} (h:∀ (pins:List (Addr × Obj)) (s:Shared) (σ:L2.St) (S:Sit) (t:T) (x:V) (v:Value) (Q:VK),Inv X pins σ S.H s->RelV x v->MemOk X.K S->Rep X.K S t x->Fin XE (Rep X.K) X.K S (k t S.M) Q->wpAny (model X.prog X.w) X.A (call F [v]) (EP X pins σ Q) X.xe s):CallR X F (lRN XE X.K (yp k)):=by
 intro pins s σ H xs us Q I r ⟨S,ts,e,m,rs,fin⟩
 subst e
 replace fin:Fin XE (Rep X.K) X.K S (yp k ts S.M) Q:=fin
 unfold yp at fin
 split at fin
 ·obtain ⟨v,vs,rfl,r1,r2⟩:=rs.consT
  rw [r2.nilT] at r
  obtain ⟨u,rfl,rx⟩:=vals1 r
  exact h pins s σ S _ v u Q I rx m r1 fin
 ·exact fin.elim
theorem zfH {k:T->T->Mem->Out T} (h:∀ (pins:List (Addr × Obj)) (s:Shared) (σ:L2.St) (S:Sit) (t1 t2:T) (x1 x2:V) (v1 v2:Value) (Q:VK),Inv X pins σ S.H s->RelV x1 v1->RelV x2 v2->MemOk X.K S->Rep X.K S t1 x1->Rep X.K S t2 x2->Fin XE (Rep X.K) X.K S (k t1 t2 S.M) Q->wpAny (model X.prog X.w) X.A (call F [v1,v2]) (EP X pins σ Q) X.xe s):CallR X F (lRN XE X.K (call2 k)):=by
 intro pins s σ H xs us Q I r ⟨S,ts,e,m,rs,fin⟩
 subst e
 replace fin:Fin XE (Rep X.K) X.K S (call2 k ts S.M) Q:=fin
 unfold call2 at fin
 split at fin
 ·obtain ⟨v,vs,rfl,r1,r2⟩:=rs.consT
  obtain ⟨v2,vs2,rfl,r3,r4⟩:=r2.consT
  rw [r4.nilT] at r
  obtain ⟨u,w,rfl,rx,ry⟩:=vals2 r
  exact h pins s σ S _ _ v v2 u w Q I rx ry m r1 r3 fin
 ·exact fin.elim
noncomputable def yu:T->Mem->Out T:=fun t M=>match t with
 | .str z=>if z.length<=sizeLine then .ok (.int z.length) M else .bad
 | t=>match zan t M with
  | some xs=>.ok (.int xs.length) M
  | none=>.bad
theorem yo:CallR X (.builtin "len") (lRN XE X.K (yp yu)):=zda fun pins s σ S t x v Q I rx m r fin=>by
 unfold yu at fin
 split at fin
 ·cases r
  split at fin
  ·rename_i hz
   exact ziT pins s σ S.H _ _ Q I (.cons rx .nil) ⟨_,rfl,hz,fin S _ rfl (.refl m) (.int _)⟩
  ·exact fin.elim
 ·split at fin
  ·rename_i xs q
   obtain ⟨p,vs,rfl,hq,rs⟩:=zcp m r q
   exact ziU pins s σ S.H _ _ Q I (.cons rx .nil) ⟨p,vs,rfl,hq,by rw [← rs.1];exact fin S _ rfl (.refl m) (.int _)⟩
  ·exact fin.elim
noncomputable def zid:T->T->Mem->Out T:=zaY fun i j M=>.ok (.int (if j > i then j else i)) M
noncomputable def zgK:T->T->Mem->Out T:=zaY fun i j M=>.ok (.int (if j < i then j else i)) M
theorem zhb (hc:X.calm = true):CallR X (.builtin "max") (lRN XE X.K (call2 zid)):=zfH fun pins s σ S t1 t2 x1 x2 v1 v2 Q I rx ry m r1 r2 fin=>by
 unfold zid zaY at fin
 split at fin
 ·cases r1;cases r2
  exact zlH hc pins s σ S.H _ _ Q I (.cons rx (.cons ry .nil)) ⟨_,_,rfl,fin S _ rfl (.refl m) (.int _)⟩
 ·exact fin.elim
theorem zeP (hc:X.calm = true):CallR X (.builtin "min") (lRN XE X.K (call2 zgK)):=zfH fun pins s σ S t1 t2 x1 x2 v1 v2 Q I rx ry m r1 r2 fin=>by
 unfold zgK zaY at fin
 split at fin
 ·cases r1;cases r2
  exact zlG hc pins s σ S.H _ _ Q I (.cons rx (.cons ry .nil)) ⟨_,_,rfl,fin S _ rfl (.refl m) (.int _)⟩
 ·exact fin.elim
noncomputable def zfK:List T->Option (List Bool)
 | []=>some []
 | .bl b :: r=>(zfK r).map (b :: ·)
 | _=>none
theorem ziX {K:Frag} {S:Sit}:∀ {ts:List T} {vs:List V} {bs:List Bool},zfK ts = some bs->Reps K S ts vs->vs = bs.map V.bl
 | [],vs,bs,e,r=>by cases e;exact r.nilT
 | .bl b :: ts,vs,bs,e,r=>by
  unfold zfK at e
  obtain ⟨v,vs',rfl,r1,r2⟩:=r.consT
  cases q:zfK ts with
  | none=>rw [q] at e;cases e
  | some bs'=>
   rw [q] at e
   cases e
   cases r1
   rw [ziX q r2];rfl
 | .non :: _,_,_,e,_=>by cases e
 | .int _ :: _,_,_,e,_=>by cases e
 | .str _ :: _,_,_,e,_=>by cases e
 | .ty _ :: _,_,_,e,_=>by cases e
 | .tup _ :: _,_,_,e,_=>by cases e
 | .lst _ :: _,_,_,e,_=>by cases e
 | .ref _ :: _,_,_,e,_=>by cases e
noncomputable def zgV:T->Mem->Out T:=fun t M=>match qv t M with
 | some xs=>match zfK xs with
  | some bs=>.ok (.bl (bs.all id)) M
  | none=>.bad
 | none=>.bad
theorem zlI (hc:X.calm = true):CallR X (.builtin "all") (lRN XE X.K (yp zgV)):=zda fun pins s σ S t x v Q I rx m r fin=>by
 unfold zgV at fin
 split at fin
 ·rename_i xs q
  split at fin
  ·rename_i bs q2
   obtain ⟨p,vs,rfl,hq,rs⟩:=qA m r q
   rw [ziX q2 rs] at hq
   exact zlJ hc pins s σ S.H _ _ Q I (.cons rx .nil) ⟨p,bs,rfl,hq,fin S _ rfl (.refl m) (.bl _)⟩
  ·exact fin.elim
 ·exact fin.elim
noncomputable def zbH:T->Mem->Out T:=fun t M=>match zan t M with
 | some xs=>.ok (.tup xs) M
 | none=>.bad
theorem zdy:CallR X (.type "tuple") (lRN XE X.K (yp zbH)):=zda fun pins s σ S t x v Q I rx m r fin=>by
 unfold zbH at fin
 split at fin
 ·rename_i xs q
  obtain ⟨p,vs,rfl,hq,rs⟩:=zcp m r q
  refine zhp pins s σ S.H _ _ Q I (.cons rx .nil) ⟨p,vs,rfl,?_⟩
  rcases hq with hq | hq
  ·refine .inl ⟨hq,fun l hl=>?_⟩
   have s2:=Stp.new m hl (.tup vs)
   exact fin ⟨S.α,S.M,upd S.H l (.tup vs),S.hid⟩ (.ref l) rfl s2 (.tup (.inl (.inl yC)) rs.1 (rs.grow m s2.toGrow).2)
  ·exact .inr ⟨hq,fin S _ rfl (.refl m) (.tup hq rs.1 rs.2)⟩
 ·exact fin.elim
noncomputable def ziS:T->T->Mem->Out (List T):=fun x y M=>match qv x M,qv y M with
 | some xs,some ys=>if xs.length + ys.length<=sizeLine then .ok (xs ++ ys) M else .bad
 | _,_=>.bad
theorem znJ:OpR X (binaryOp .Add) (zkn XE X.K ziS):=by
 intro pins s σ H x y v u Q I rx ry ⟨S,⟨tx,ty⟩,e,m,⟨r1,r2⟩,fin⟩
 subst e
 replace fin:FinL XE X.K S (ziS tx ty S.M) Q:=fin
 unfold ziS at fin
 split at fin
 ·rename_i xs ys q1 q2
  split at fin
  ·rename_i hz
   obtain ⟨p,vs,e1,h1,s1⟩:=qA m r1 q1
   obtain ⟨p2,vs2,e2,h2,s2⟩:=qA m r2 q2
   dsimp only at e1 e2
   subst e1;subst e2
   exact zjA pins s σ S.H _ _ v u Q I rx ry ⟨p,p2,vs,vs2,rfl,rfl,h1,h2,by rw [← s1.1,← s2.1];exact hz,zh9 m fin (s1.app s2)⟩
  ·exact fin.elim
 ·exact fin.elim
noncomputable def z9 (x:T) (ts:List T) (M:Mem):Out T:=match x,ts with
 | .ref a,[t]=>match M[a]? with
  | some (.lst xs)=>if xs.length < sizeLine then .ok .non (M.set a (.lst (xs ++ [t]))) else .bad
  | _=>.bad
 | _,_=>.bad
noncomputable def zgq (o i t:T) (M:Mem):Out Unit:=match o,i with
 | .ref a,.int k=>match M[a]? with
  | some (.lst xs)=>match ixN xs.length k with
   | some j=>.ok () (M.set a (.lst (xs.set j t)))
   | none=>.bad
  | _=>.bad
 | _,_=>.bad
theorem zeV {S:Sit} (m:MemOk K S) {a:Nat} {c:Cell} (e:S.M[a]? = some c) (r:Reps K S ts vs):Stp K S (S.put a (.lst vs) (.lst ts)):=by
 have ha:a < S.M.length:=(Qz.mp e).1
 exact Stp.put m ha _ _ ⟨vs,yC,r.grow m (Grow.put m ha _ _)⟩
theorem zj8:zeo X (zij XE X.K zgq):=by
 intro pins s σ H o i v ov iv u Q I ro ri rv ⟨S,⟨⟨to,ti⟩,tv⟩,e,m,⟨⟨r1,r2⟩,r3⟩,fin⟩
 subst e
 replace fin:Fin XE UnR X.K S (zgq to ti tv S.M) (fun _ H'=>Q H'):=fin
 unfold zgq at fin
 split at fin
 ·split at fin
  ·rename_i a k _ xs q
   split at fin
   ·rename_i j qj
    cases r1
    cases r2
    obtain ⟨vs,q2,rs⟩:=m.cell _ _ q
    refine set_list pins s σ S.H _ _ v ov iv u Q I ro ri rv ⟨S.α a,vs,k,j,rfl,rfl,q2,by rw [← rs.1];exact qj,?_⟩
    exact fin (S.put a (.lst (vs.set j v)) (.lst (xs.set j tv))) () rfl (zeV m q (rs.set r3 j)) trivial
   ·exact fin.elim
  ·exact fin.elim
 ·exact fin.elim
noncomputable def yL (x:T) (M:Mem):Out T:=match qv x M with
 | some _=>.ok x M
 | none=>.bad
noncomputable def zaP (F:T->List T->Mem->Out T) (f:Ev->Mem->Out T) (g:Ev->Mem->Out (List T)):Ev->Mem->Out T:=fun σ M=>(f σ M).bind fun x M1=>(g σ M1).bind fun ts M2=>F x ts M2
end
noncomputable def zbU (xs:List T) (lo hi:Option Int):List T:=(xs.drop (HT.sIx xs.length 0 lo)).take (HT.sIx xs.length xs.length hi - HT.sIx xs.length 0 lo)
theorem Reps.cutV {S:Sit} (r:Reps K S ts vs) (lo hi:Option Int):Reps K S (zbU ts lo hi) (L2.cutV vs lo hi):=by
 unfold zbU L2.cutV
 rw [← r.1]
 exact r.sub _ _
theorem zkv {lo hi:Option Int} (h:HT.sIx xs.length 0 lo = 0/\HT.sIx xs.length xs.length hi = xs.length):zbU xs lo hi = xs:=by
 unfold zbU
 rw [h.1,h.2]
 simp
theorem zgF {S:Sit} (m:MemOk K S) (fin:Fin XE (Rep K) K S (.ok (.tup xs) S.M) Q) (r:Reps K S xs vs):∀ p,S.H p = none->Q (.ref p) (upd S.H p (.tup vs)):=fun p hp=>by
 have s2:=Stp.new m hp (.tup vs)
 exact fin ⟨S.α,S.M,upd S.H p (.tup vs),S.hid⟩ (.ref p) rfl s2 (.tup (.inl (.inl yC)) r.1 (r.grow m s2.toGrow).2)
theorem zgG {S:Sit} (m:MemOk K S) (fin:Fin XE (Rep K) K S (.ok (.lst xs) S.M) Q) (r:Reps K S xs vs):∀ p,S.H p = none->Q (.ref p) (upd S.H p (.lst vs)):=fun p hp=>by
 have s2:=Stp.new m hp (.lst vs)
 exact fin ⟨S.α,S.M,upd S.H p (.lst vs),S.hid⟩ (.ref p) rfl s2 (.lst (.inl ⟨.inl yC,m.off_none hp⟩) r.1 (r.grow m s2.toGrow).2)
noncomputable def qU:T->T->Mem->Out T:=fun x y M=>match x,y with
 | .int i,.int j=>.ok (.int (i + j)) M
 | .str a,.str b=>if a.length + b.length<=sizeLine then .ok (.str (a ++ b)) M else .bad
 | .tup xs,.tup ys=>if xs.length + ys.length<=sizeLine then .ok (.tup (xs ++ ys)) M else .bad
 | x,y=>match qv x M,qv y M with
  | some xs,some ys=>if xs.length + ys.length<=sizeLine then .ok (.lst (xs ++ ys)) M else .bad
  | _,_=>.bad
noncomputable def yT:T->T->Mem->Out T:=fun x y M=>match x,y with
 | .int i,.int j=>if Mo64 i j then .ok (.int (i * j)) M else .bad
 | .tup xs,.int k=>if xs ≠ []/\2<=k/\k < 2 ^ 63/\xs.length * k.toNat<=sizeLine then .ok (.tup (List.replicate k.toNat xs).flatten) M else .bad
 | _,_=>.bad
variable {pins:List (Addr × Obj)} {s:Shared}
section
theorem yH:OpR X (binaryOp .Add) (lR2 XE X.K qU):=by
 intro pins s σ H x y v u Q I rx ry ⟨S,⟨tx,ty⟩,e,m,⟨r1,r2⟩,fin⟩
 subst e
 replace fin:Fin XE (Rep X.K) X.K S (qU tx ty S.M) Q:=fin
 unfold qU at fin
 split at fin
 ·cases r1;cases r2
  exact zpp pins s σ S.H _ _ v u Q I rx ry ⟨_,_,rfl,rfl,fin S _ rfl (.refl m) (.int _)⟩
 ·cases r1;cases r2
  split at fin
  ·rename_i hz
   exact zkh pins s σ S.H _ _ v u Q I rx ry ⟨_,_,rfl,rfl,hz,fin S _ rfl (.refl m) (.str _)⟩
  ·exact fin.elim
 ·split at fin
  ·rename_i hz
   cases r1 with
   | @tup _ p vs h l r=>
   cases r2 with
   | @tup _ p2 vs2 h2 l2 rr2=>
   have r1:Reps X.K S _ vs:=⟨l,r⟩
   have r2:Reps X.K S _ vs2:=⟨l2,rr2⟩
   refine znK pins s σ S.H _ _ v u Q I rx ry ⟨p,p2,vs,vs2,rfl,rfl,h,h2,by rw [← l,← l2];exact hz,fun e=>?_,fun e1 e2=>?_,fun e1 e2=>zgF m fin (r1.app r2)⟩
   ·subst e
    rw [r1.nil_inv,nil_append] at fin
    exact fin S _ rfl (.refl m) (.tup h2 l2 rr2)
   ·subst e2
    rw [r2.nil_inv,append_nil] at fin
    exact fin S _ rfl (.refl m) (.tup h l r)
  ·exact fin.elim
 ·split at fin
  ·rename_i xs ys q1 q2
   split at fin
   ·rename_i hz
    obtain ⟨p,vs,e1,h1,s1⟩:=qA m r1 q1
    obtain ⟨p2,vs2,e2,h2,s2⟩:=qA m r2 q2
    dsimp only at e1 e2
    subst e1;subst e2
    exact zjA pins s σ S.H _ _ v u Q I rx ry ⟨p,p2,vs,vs2,rfl,rfl,h1,h2,by rw [← s1.1,← s2.1];exact hz,zgG m fin (s1.app s2)⟩
   ·exact fin.elim
  ·exact fin.elim
theorem Reps.rep {S:Sit} (r:Reps K S ts vs) (n:Nat):Reps K S (List.replicate n ts).flatten (List.replicate n vs).flatten:=by
 induction n with
 | zero=>exact .nil
 | succ n ih=>rw [replicate_succ,replicate_succ,flatten_cons,flatten_cons];exact r.app ih
theorem zaJ:OpR X (binaryOp .Mult) (lR2 XE X.K yT):=by
 intro pins s σ H x y v u Q I rx ry ⟨S,⟨tx,ty⟩,e,m,⟨r1,r2⟩,fin⟩
 subst e
 replace fin:Fin XE (Rep X.K) X.K S (yT tx ty S.M) Q:=fin
 unfold yT at fin
 split at fin
 ·cases r1;cases r2
  split at fin
  ·rename_i h
   exact znG pins s σ S.H _ _ v u Q I rx ry ⟨_,_,rfl,rfl,h.ok,fin S _ rfl (.refl m) (.int _)⟩
  ·exact fin.elim
 ·split at fin
  ·rename_i h
   cases r2
   cases r1 with
   | @tup _ p vs hq l r=>
   have r1:Reps X.K S _ vs:=⟨l,r⟩
   exact znA pins s σ S.H _ _ v u Q I rx ry ⟨p,_,vs,rfl,rfl,hq,fun z=>h.1 (by subst z;exact r1.nil_inv),h.2.1,h.2.2.1,by rw [← l];exact h.2.2.2,zgF m fin (r1.rep _)⟩
  ·exact fin.elim
 ·exact fin.elim
noncomputable def lO (XE:XK) (K:Frag) (f:Ev->Mem->Out (Option Int)):TO:=fun σ H Q=>LN XE EqR K UnR (fun _ σ M=>f σ M) () σ H Q
def GO (X:Cx) (XE:XK) (e:Option Expr) (f:Ev->Mem->Out (Option Int)):Prop:=PO X e (lO XE X.K f)
noncomputable def zcm:Ev->Mem->Out (Option Int):=fun _ M=>.ok none M
noncomputable def zmq (x:T) (M:Mem):Out (Option Int):=match x with
 | .int i=>.ok (some i) M
 | _=>.bad
noncomputable def zbO (f:Ev->Mem->Out T):Ev->Mem->Out (Option Int):=fun σ M=>(f σ M).bind zmq
theorem PO.imp {e:Option Expr} {t t':TO} (h:PO X e t) (i:∀ σ H Q,t' σ H Q->t σ H Q):PO X e t':=fun pins s σ H Q I q=>h pins s σ H Q I (i σ H Q q)
noncomputable def zfG (x:T) (lo hi:Option Int) (M:Mem):Out T:=match x with
 | .tup xs=>.ok (.tup (zbU xs lo hi)) M
 | x=>match qv x M with
  | some xs=>.ok (.lst (zbU xs lo hi)) M
  | none=>.bad
noncomputable def eSl (f:Ev->Mem->Out T) (p q:Ev->Mem->Out (Option Int)):Ev->Mem->Out T:=fun σ M=>(f σ M).bind fun x M1=>(p σ M1).bind fun lo M2=>(q σ M2).bind fun hi M3=>zfG x lo hi M3
noncomputable def zsg (XE:XK) (K:Frag):V->Option Int->Option Int->Hp->VK->Prop:=fun x lo hi H Q=>∃ S t,S.H = H/\MemOk K S/\Rep K S t x/\Fin XE (Rep K) K S (zfG t lo hi S.M) Q
theorem zoN:SlR X (zsg XE X.K):=by
 intro pins s σ H x v vl vu lo hi sl Q I rx hs pl pu ⟨S,t,e,m,r,fin⟩
 subst e
 unfold zfG at fin
 split at fin
 ·cases r with
  | @tup _ p vs h l r=>
  have r1:Reps X.K S _ vs:=⟨l,r⟩
  refine zjq pins s σ S.H _ v vl vu lo hi sl Q I rx hs pl pu ⟨p,vs,rfl,h,fun w=>?_,fun w=>zgF m fin (r1.cutV lo hi)⟩
  rw [zkv (by rw [l];exact w)] at fin
  exact fin S _ rfl (.refl m) (.tup h l r)
 ·split at fin
  ·rename_i xs q
   obtain ⟨p,vs,e1,h1,s1⟩:=qA m r q
   subst e1
   exact zne pins s σ S.H _ v vl vu lo hi sl Q I rx hs pl pu ⟨p,vs,rfl,h1,zgG m fin (s1.cutV lo hi)⟩
  ·exact fin.elim
noncomputable def zpK (T U:String):Option Bool:=if (Value.type T == Value.type U) = true then some true else if PySem.W.kitMeta U = true then (PySem.fastBuiltinMro T).map (·.contains (.type U)) else none
noncomputable def tyN (t:T) (M:Mem):Option String:=match t with
 | .non=>some "NoneType" | .bl _=>some "bool" | .int _=>some "int" | .str _=>some "str" | .tup _=>some "tuple" | .lst _=>some "list"
 | .ref a=>match M[a]? with
  | some (.lst _)=>some "list"
  | some (.dic _)=>some "dict"
  | _=>none
 | _=>none
noncomputable def zm0 (n U:String):Bool:=n == U || (n == "bool" && U == "int")
noncomputable def zhq:List String:=["NoneType","bool","int","str","tuple","list","dict"]
theorem znY:∀ n ∈ zhq,∀ U ∈ zhq,U ≠ "NoneType"->zpK n U = some (zm0 n U):=by decide +kernel
noncomputable def zaL:T->T->Mem->Out T:=fun t u M=>match u with
 | .ty U=>match tyN t M with
  | some n=>if U ∈ zhq/\U ≠ "NoneType" then .ok (.bl (zm0 n U)) M else .bad
  | none=>.bad
 | _=>.bad
theorem zna {t:T} {n:String} (h:tyN t M = some n):n ∈ zhq:=by
 unfold tyN at h
 split at h <;> first | (cases h;decide) | (split at h <;> first | (cases h;decide) | (cases h)) | cases h
theorem zmp {S:Sit} {t:T} {x:V} {u:Value} {U n:String} {b:Bool} {Q:Value->Shared->Prop} {E:Value->Shared->Prop} (I:L2.Inv X pins σ S.H s) (m:MemOk X.K S) (rx:RelV x u) (r:Rep X.K S t x) (hn:tyN t S.M = some n) (e:zpK n U = some b) (h:∀ tk,Q (.bool b) { s with toks:=tk }) :
  wpAny (model X.prog X.w) X.A (call (.builtin "isinstance") [u,.type U]) Q E s:=by
 have e':PySem.W.kitOne X.K (.type n) (.type U) = some b:=e
 cases r with
 | non=>cases hn;cases (show u = Value.none from rx);exact PySem.W.kia_one PySem.W.kitx_none I.kIn True.intro e' (fun z=>nomatch z) h
 | bl y=>cases hn;cases (show u = Value.bool y from rx);exact PySem.W.kia_one PySem.W.kitx_bool I.kIn True.intro e' (fun z=>nomatch z) h
 | int i=>cases hn;obtain ⟨t,q⟩:=(show ∃ t,u = Value.int i t from rx);cases q;exact PySem.W.kia_one PySem.W.kitx_int I.kIn True.intro e' (fun z=>nomatch z) h
 | str y=>cases hn;obtain ⟨t,q⟩:=(show ∃ t,u = Value.str y t from rx);cases q;exact PySem.W.kia_one PySem.W.kitx_str I.kIn True.intro e' (fun z=>nomatch z) h
 | ty y=>cases hn
 | @tup ts p vs hq l r=>
  cases hn
  cases (show u = Value.ref p from rx)
  obtain ⟨its,_,pl,_⟩:=I.tuple hq
  obtain ⟨o,h1,h2,_⟩:=pl
  exact PySem.W.kia_one PySem.W.kitx_tuple I.kIn ⟨o,h1,h2⟩ e' (fun z=>nomatch z) h
 | @lst ts p vs hq l r=>
  cases hn
  cases (show u = Value.ref p from rx)
  obtain ⟨its,_,pl,_⟩:=I.list (zdK hq)
  obtain ⟨o,h1,h2⟩:=pl.isList
  exact PySem.W.kia_one PySem.W.kitx_list I.kIn ⟨o,h1,h2.1⟩ e' (fun z=>nomatch z) h
 | @ref a ha=>
  cases (show u = Value.ref _ from rx)
  unfold tyN at hn
  dsimp only at hn
  split at hn
  ·rename_i ts q
   cases hn
   obtain ⟨vs,q2,_⟩:=m.cell a _ q
   obtain ⟨_,_,n,_,h1⟩:=(show ObjOk X.prog X.w S.H s.heap (S.α a) (.lst vs) from I.hok _ _ q2)
   exact PySem.W.kia_one PySem.W.kitx_list I.kIn ⟨_,h1,rfl⟩ e' (fun z=>nomatch z) h
  ·rename_i ts q
   cases hn
   obtain ⟨vs,q2,_⟩:=m.cell a _ q
   obtain ⟨_,_,vs2,_,p⟩:=(show ObjOk X.prog X.w S.H s.heap (S.α a) (.dK vs) from I.hok _ _ q2)
   obtain ⟨o,es,ep,h1,h2,_⟩:=p
   exact PySem.W.kia_one PySem.W.kitx_dict I.kIn ⟨o,h1,h2.1⟩ e' (fun z=>nomatch z) h
  ·cases hn
 | dct h l r=>cases hn
 | exc h hd l r=>cases hn
theorem zc9:CallR X (.builtin "isinstance") (lRN XE X.K (call2 zaL)):=zfH fun pins s σ S t1 t2 x1 x2 v1 v2 Q I rx ry m r1 r2 fin=>by
 unfold zaL at fin
 split at fin
 ·rename_i U
  split at fin
  ·rename_i n hn
   split at fin
   ·rename_i hU
    cases r2
    cases ry
    exact zmp I m rx r1 hn (znY n (zna hn) U hU.1 hU.2) fun tk=>⟨.bl _,S.H,I.tok tk,rfl,fin S _ rfl (.refl m) (.bl _)⟩
   ·exact fin.elim
  ·exact fin.elim
 ·exact fin.elim
end
noncomputable def zbg:T->Bool
 | .non=>true
 | .bl _=>true
 | .int _=>true
 | .str _=>true
 | _=>false
noncomputable def eqS:T->T->Bool
 | .non,.non=>true
 | .bl a,.bl b=>a == b
 | .bl a,.int b=>(if a then 1 else 0) == b
 | .int a,.bl b=>a == (if b then 1 else 0)
 | .int a,.int b=>a == b
 | .str a,.str b=>a == b
 | _,_=>false
noncomputable def eqL (f:T->T->Option Bool):List T->List T->Option Bool
 | [],[]=>some true
 | [],_ :: _=>some false
 | _ :: _,[]=>some false
 | x :: xs,y :: ys=>match f x y,eqL f xs ys with
  | some a,some b=>some (a && b)
  | _,_=>none
noncomputable def eqD (M:Mem):Nat->T->T->Option Bool
 | d,.tup xs,.tup ys=>match d with
  | 0=>none
  | d + 1=>eqL (eqD M d) xs ys
 | d,x,y=>if (zbg x && zbg y) = true then some (eqS x y) else match d,qv x M,qv y M with
  | d + 1,some xs,some ys=>if xs.length = ys.length then eqL (eqD M d) xs ys else some false
  | _,_,_=>none
noncomputable def eqA:T->T->Mem->Out T:=fun x y M=>match eqD M 20 x y with
 | some b=>.ok (.bl b) M
 | none=>.bad
noncomputable def neA:T->T->Mem->Out T:=fun x y M=>match eqD M 20 x y with
 | some b=>.ok (.bl (!b)) M
 | none=>.bad
theorem zeh {f:T->T->Option Bool}:∀ {xs ys:List T} {b:Bool},eqL f xs ys = some b->
  ∃ e:Nat->Bool,(∀ j x y,xs[j]? = some x->ys[j]? = some y->f x y = some (e j))/\b = ((List.range (min xs.length ys.length)).all e && xs.length == ys.length)
 | [],[],b,h=>by cases h;exact ⟨fun _=>true,fun j x y e1=>by simp at e1,by simp⟩
 | [],_ :: _,b,h=>by cases h;exact ⟨fun _=>true,fun j x y e1=>by simp at e1,by simp⟩
 | _ :: _,[],b,h=>by cases h;exact ⟨fun _=>true,fun j x y _ e1=>by simp at e1,by simp⟩
 | x :: xs,y :: ys,b,h=>by
  unfold eqL at h
  cases q1:f x y with
  | none=>rw [q1] at h;cases h
  | some a=>
   cases q2:eqL f xs ys with
   | none=>rw [q1,q2] at h;cases h
   | some c=>
    rw [q1,q2] at h
    cases h
    obtain ⟨e,h1,h2⟩:=zeh q2
    refine ⟨fun j=>match j with | 0=>a | j + 1=>e j,fun j u v e1 e2=>?_,?_⟩
    ·cases j with
     | zero=>simp at e1 e2;subst e1;subst e2;exact q1
     | succ j=>exact h1 j u v (by simpa using e1) (by simpa using e2)
    ·rw [h2]
     have:min (x :: xs).length (y :: ys).length = min xs.length ys.length + 1:=by simp only [Qp];omega
     rw [this,List.range_succ_eq_map,all_cons,List.all_map]
     simp [Bool.and_assoc,Function.comp_def]
variable {A:Around} {w:V}
section
variable {S:Sit}
theorem yN {t:T} (r:Rep K S t v) (h:zbg t = true):zaw v = true:=by
 cases r <;> first | rfl | (exact absurd (show false = true from h) Q4)
theorem ze7 {t:T} (r:Rep K S t v) (q:Rep K S u w) (h:zbg t = true) (h2:zbg u = true):eqS t u = eqV v w:=by
 cases r <;> first | (exact absurd (show false = true from h) Q4) | (cases q <;> first | rfl | (exact absurd (show false = true from h2) Q4))
theorem zjs {t:T} (r:Rep K S t v) (q:Rep K S u v) (h:zbg t = true) (h2:zbg u = true):eqS t u = true:=by
 rw [ze7 r q h h2]
 exact zmG v (yN r h)
theorem zmH (I:L2.Inv X pins σ S.H s) (m:MemOk X.K S):∀ (d:Nat) {t u:T} {v:V} {b:Bool},Rep X.K S t v->Rep X.K S u v->eqD S.M d t u = some b->b = true:=by
 intro d
 induction d with
 | zero=>
  intro t u v b r q h
  unfold eqD at h
  split at h
  ·cases h
  ·split at h
   ·rename_i hs
    rw [Qs] at hs
    cases h
    exact zjs r q hs.1 hs.2
   ·cases h
 | succ d ih=>
  have key:∀ {xs ys:List T} {vs:List V} {b:Bool},Reps X.K S xs vs->Reps X.K S ys vs->eqL (eqD S.M d) xs ys = some b->b = true:=by
   intro xs ys vs b r q h
   obtain ⟨e,h1,h2⟩:=zeh h
   rw [h2,r.1,q.1]
   simp only [Nat.min_self,Qy,Bool.and_true,all_eq_true,mem_range]
   intro j hj
   have hx:j < xs.length:=by rw [r.1];exact hj
   have hy:j < ys.length:=by rw [q.1];exact hj
   have ex:xs[j]? = some xs[j]:=by simp [hx]
   have ey:ys[j]? = some ys[j]:=by simp [hy]
   have ev:vs[j]? = some vs[j]:=by simp [hj]
   exact ih (r.2 j _ _ ex ev) (q.2 j _ _ ey ev) (h1 j _ _ ex ey)
  intro t u v b r q h
  unfold eqD at h
  split at h
  ·cases r with
   | @tup _ p vs h1 l1 r1=>
   cases q with
   | @tup _ _ vs2 h2 l2 r2=>
   have:=I.tuple_inj h1 h2
   subst this
   exact key ⟨l1,r1⟩ ⟨l2,r2⟩ h
  ·split at h
   ·rename_i hs
    rw [Qs] at hs
    cases h
    exact zjs r q hs.1 hs.2
   ·split at h
    ·rename_i d' xs ys hd q1 q2
     cases hd
     obtain ⟨p,vs,e1,hq1,s1⟩:=qA m r q1
     obtain ⟨p2,vs2,e2,hq2,s2⟩:=qA m q q2
     rw [e1] at e2
     cases e2
     have:=I.list_inj hq1 hq2
     subst this
     rw [QA (by rw [s1.1,s2.1])] at h
     exact key s1 s2 h
    ·cases h
theorem zlx (I:L2.Inv X pins σ S.H s) (m:MemOk X.K S):∀ (d:Nat) {A:Around} {t u:T} {v w:V} {x y:Value} {b:Bool},A.units + d < cLine->RelV v x->RelV w y->Rep X.K S t v->Rep X.K S u w->eqD S.M d t u = some b->SeqAt.EqAt A s x y b:=by
 intro d
 induction d with
 | zero=>
  intro A t u v w x y b hu rx ry r q h
  unfold eqD at h
  split at h
  ·cases h
  ·split at h
   ·rename_i hs
    rw [Qs] at hs
    cases h
    rw [ze7 r q hs.1 hs.2]
    exact ziH rx ry (yN r hs.1) (yN q hs.2)
   ·cases h
 | succ d ih=>
  have key:∀ {A:Around} {xs ys:List T} {vs ws:List V} {us zs:List Value} {b:Bool},A.units + d < cLine->Reps X.K S xs vs->Reps X.K S ys ws->Vals vs us->Vals ws zs->eqL (eqD S.M d) xs ys = some b->
    ∃ e:Nat->Bool,(∀ j (h1:j < us.toArray.size) (h2:j < zs.toArray.size),SeqAt.EqAt A s us.toArray[j] zs.toArray[j] (e j))/\b = ((List.range (min us.toArray.size zs.toArray.size)).all e && us.toArray.size == zs.toArray.size):=by
   intro A xs ys vs ws us zs b hu r q hv hw h
   obtain ⟨e,h1,h2⟩:=zeh h
   have l1:us.length = xs.length:=by rw [← hv.length,r.1]
   have l2:zs.length = ys.length:=by rw [← hw.length,q.1]
   refine ⟨e,fun j g1 g2=>?_,by rw [h2,Qi,Qi,l1,l2]⟩
   have g1':j < us.length:=by simpa using g1
   have g2':j < zs.length:=by simpa using g2
   have ex:xs[j]? = some (xs[j]'(by omega)):=Q0 (by omega)
   have ey:ys[j]? = some (ys[j]'(by omega)):=Q0 (by omega)
   obtain ⟨v,ev,rv⟩:=r.get ex
   obtain ⟨w,ew,rw'⟩:=q.get ey
   obtain ⟨a,ea,ra⟩:=Vals.get hv ev
   obtain ⟨c,ec,rc⟩:=Vals.get hw ew
   have:us.toArray[j] = a:=by
    rw [getElem_toArray];rw [Q0 g1'] at ea;exact Qd ea
   rw [this]
   have:zs.toArray[j] = c:=by
    rw [getElem_toArray];rw [Q0 g2'] at ec;exact Qd ec
   rw [this]
   exact ih hu ra rc rv rw' (h1 j _ _ ex ey)
  intro A t u v w x y b hu rx ry r q h
  have hsame:v = w->b = true:=fun z=>by subst z;exact zmH I m (d + 1) r q h
  unfold eqD at h
  split at h
  ·cases r with
   | @tup _ p vs h1 l1 r1=>
   cases q with
   | @tup _ p2 vs2 h2 l2 r2=>
   cases rx
   cases ry
   by_cases hp:p = p2
   ·subst hp
    rw [hsame rfl]
    exact SeqAt.EqAt.same _
   ·obtain ⟨its,ri,pl,_⟩:=I.tuple h1
    obtain ⟨its2,ri2,pl2,_⟩:=I.tuple h2
    obtain ⟨e,he,eb⟩:=key (A:=A.in1) (by show A.units + 1 + d < cLine;omega) ⟨l1,r1⟩ ⟨l2,r2⟩ ri ri2 h
    rw [eb]
    exact SeqAt.EqAt.of_refs hp (SeqAt.RcAt.tuples pl pl2 (by omega) he)
  ·split at h
   ·rename_i hs
    rw [Qs] at hs
    cases h
    rw [ze7 r q hs.1 hs.2]
    exact ziH rx ry (yN r hs.1) (yN q hs.2)
   ·split at h
    ·rename_i d' xs ys hd q1 q2
     cases hd
     obtain ⟨p,vs,e1,hq1,s1⟩:=qA m r q1
     obtain ⟨p2,vs2,e2,hq2,s2⟩:=qA m q q2
     subst e1
     subst e2
     cases rx
     cases ry
     by_cases hp:p = p2
     ·subst hp
      rw [hsame rfl]
      exact SeqAt.EqAt.same _
     ·obtain ⟨its,ri,pl,_⟩:=I.list hq1
      obtain ⟨its2,ri2,pl2,_⟩:=I.list hq2
      have lz:its.length = xs.length:=by rw [← ri.length,s1.1]
      have lz2:its2.length = ys.length:=by rw [← ri2.length,s2.1]
      by_cases hl:xs.length = ys.length
      ·rw [QA hl] at h
       obtain ⟨e,he,eb⟩:=key (A:=A.in1) (by show A.units + 1 + d < cLine;omega) s1 s2 ri ri2 h
       have hsz:its.toArray.size = its2.toArray.size:=by simp [lz,lz2,hl]
       rw [eb,hsz,Nat.min_self,Qy,Bool.and_true,← hsz]
       exact SeqAt.EqAt.of_refs hp (SeqAt.RcAt.lists pl.isList pl2.isList hsz (by omega) he)
      ·rw [QB hl] at h
       cases h
       exact SeqAt.EqAt.of_refs hp (SeqAt.RcAt.lists_lengths pl.isList pl2.isList (by simp [lz,lz2,hl]) (by omega))
    ·cases h
theorem zoS {x:V} {u v:Value} (ry:RelV y u) (rx:RelV x v) (fy:zaw y = true) (fx:zaw x = true):SeqAt.RcAt A s u v (eqV y x):=by
 cases y with
 | non=>
  cases ry
  cases x with
  | non=>cases rx;exact SeqAt.RcAt.none_none
  | bl b=>cases rx;exact SeqAt.RcAt.none_bool b
  | int b=>obtain ⟨t,rfl⟩:=rx;exact SeqAt.RcAt.none_int b t
  | str b=>obtain ⟨t,rfl⟩:=rx;exact SeqAt.RcAt.none_str b t
  | _=>exact absurd (show false = true from fx) Q4
 | bl a=>
  cases ry
  cases x with
  | non=>cases rx;exact SeqAt.RcAt.bool_none a
  | bl b=>cases rx;exact SeqAt.RcAt.bool_bool a b
  | int b=>obtain ⟨t,rfl⟩:=rx;exact SeqAt.RcAt.bool_int a b t
  | str b=>obtain ⟨t,rfl⟩:=rx;exact SeqAt.RcAt.bool_str a b t
  | _=>exact absurd (show false = true from fx) Q4
 | int a=>
  obtain ⟨t',rfl⟩:=ry
  cases x with
  | non=>cases rx;exact SeqAt.RcAt.int_none a t'
  | bl b=>cases rx;exact SeqAt.RcAt.int_bool a t' b
  | int b=>obtain ⟨t,rfl⟩:=rx;exact SeqAt.RcAt.int_int a t' b t
  | str b=>obtain ⟨t,rfl⟩:=rx;exact SeqAt.RcAt.int_str a t' b t
  | _=>exact absurd (show false = true from fx) Q4
 | str a=>
  obtain ⟨t',rfl⟩:=ry
  cases x with
  | non=>cases rx;exact SeqAt.RcAt.str_none a t'
  | bl b=>cases rx;exact SeqAt.RcAt.str_bool a t' b
  | int b=>obtain ⟨t,rfl⟩:=rx;exact SeqAt.RcAt.str_int a t' b t
  | str b=>obtain ⟨t,rfl⟩:=rx;exact SeqAt.RcAt.str_str a t' b t
  | _=>exact absurd (show false = true from fx) Q4
 | _=>exact absurd (show false = true from fy) Q4
theorem zl4 {x:V} {u v:Value} (ry:RelV y u) (rx:RelV x v) (fy:zaw y = true) (fx:zaw x = true):SeqAt.RcNeAt A s u v (!eqV y x):=by
 cases y with
 | non=>
  cases ry
  cases x with
  | non=>cases rx;exact SeqAt.RcNeAt.none_none
  | bl b=>cases rx;exact SeqAt.RcNeAt.none_bool b
  | int b=>obtain ⟨t,rfl⟩:=rx;exact SeqAt.RcNeAt.none_int b t
  | str b=>obtain ⟨t,rfl⟩:=rx;exact SeqAt.RcNeAt.none_str b t
  | _=>exact absurd (show false = true from fx) Q4
 | bl a=>
  cases ry
  cases x with
  | non=>cases rx;exact SeqAt.RcNeAt.bool_none a
  | bl b=>cases rx;exact SeqAt.RcNeAt.bool_bool a b
  | int b=>obtain ⟨t,rfl⟩:=rx;exact SeqAt.RcNeAt.bool_int a b t
  | str b=>obtain ⟨t,rfl⟩:=rx;exact SeqAt.RcNeAt.bool_str a b t
  | _=>exact absurd (show false = true from fx) Q4
 | int a=>
  obtain ⟨t',rfl⟩:=ry
  cases x with
  | non=>cases rx;exact SeqAt.RcNeAt.int_none a t'
  | bl b=>cases rx;exact SeqAt.RcNeAt.int_bool a t' b
  | int b=>obtain ⟨t,rfl⟩:=rx;exact SeqAt.RcNeAt.int_int a t' b t
  | str b=>obtain ⟨t,rfl⟩:=rx;exact SeqAt.RcNeAt.int_str a t' b t
  | _=>exact absurd (show false = true from fx) Q4
 | str a=>
  obtain ⟨t',rfl⟩:=ry
  cases x with
  | non=>cases rx;exact SeqAt.RcNeAt.str_none a t'
  | bl b=>cases rx;exact SeqAt.RcNeAt.str_bool a t' b
  | int b=>obtain ⟨t,rfl⟩:=rx;exact SeqAt.RcNeAt.str_int a t' b t
  | str b=>obtain ⟨t,rfl⟩:=rx;exact SeqAt.RcNeAt.str_str a t' b t
  | _=>exact absurd (show false = true from fx) Q4
 | _=>exact absurd (show false = true from fy) Q4
theorem zlw (I:L2.Inv X pins σ S.H s) (m:MemOk X.K S) (d:Nat) {t:T} {x y:Value} {b:Bool} (hu:A.units + d < cLine) (rx:RelV v x) (ry:RelV w y) (r:Rep X.K S t v) (q:Rep X.K S u w) (h:eqD S.M d t u = some b):SeqAt.RcAt A s x y b/\SeqAt.RcNeAt A s x y (!b):=by
 have at_:∀ {A:Around} {d:Nat} {xs ys:List T} {vs ws:List V} {us zs:List Value} {b:Bool},A.units + d < cLine->Reps X.K S xs vs->Reps X.K S ys ws->Vals vs us->Vals ws zs->eqL (eqD S.M d) xs ys = some b->
    ∃ e:Nat->Bool,(∀ j (h1:j < us.toArray.size) (h2:j < zs.toArray.size),SeqAt.EqAt A s us.toArray[j] zs.toArray[j] (e j))/\b = ((List.range (min us.toArray.size zs.toArray.size)).all e && us.toArray.size == zs.toArray.size):=by
  intro A d xs ys vs ws us zs b hu r q hv hw h
  obtain ⟨e,h1,h2⟩:=zeh h
  have l1:us.length = xs.length:=by rw [← hv.length,r.1]
  have l2:zs.length = ys.length:=by rw [← hw.length,q.1]
  refine ⟨e,fun j g1 g2=>?_,by rw [h2,Qi,Qi,l1,l2]⟩
  have g1':j < us.length:=by simpa using g1
  have g2':j < zs.length:=by simpa using g2
  have ex:xs[j]? = some (xs[j]'(by omega)):=Q0 (by omega)
  have ey:ys[j]? = some (ys[j]'(by omega)):=Q0 (by omega)
  obtain ⟨v,ev,rv⟩:=r.get ex
  obtain ⟨w,ew,rw'⟩:=q.get ey
  obtain ⟨a,ea,ra⟩:=Vals.get hv ev
  obtain ⟨c,ec,rc⟩:=Vals.get hw ew
  have:us.toArray[j] = a:=by
   rw [getElem_toArray];rw [Q0 g1'] at ea;exact Qd ea
  rw [this]
  have:zs.toArray[j] = c:=by
   rw [getElem_toArray];rw [Q0 g2'] at ec;exact Qd ec
  rw [this]
  exact zlx I m d hu ra rc rv rw' (h1 j _ _ ex ey)
 unfold eqD at h
 split at h
 ·split at h
  ·cases h
  ·rename_i d
   cases r with
   | @tup _ p vs h1 l1 r1=>
   cases q with
   | @tup _ p2 vs2 h2 l2 r2=>
   cases rx
   cases ry
   obtain ⟨its,ri,pl,_⟩:=I.tuple h1
   obtain ⟨its2,ri2,pl2,_⟩:=I.tuple h2
   obtain ⟨e,he,eb⟩:=at_ (A:=A.in1) (by show A.units + 1 + d < cLine;omega) ⟨l1,r1⟩ ⟨l2,r2⟩ ri ri2 h
   rw [eb]
   exact ⟨SeqAt.RcAt.tuples pl pl2 (by omega) he,SeqAt.RcNeAt.tuples pl pl2 (by omega) he⟩
 ·split at h
  ·rename_i hs
   rw [Qs] at hs
   cases h
   rw [ze7 r q hs.1 hs.2]
   exact ⟨zoS rx ry (yN r hs.1) (yN q hs.2),zl4 rx ry (yN r hs.1) (yN q hs.2)⟩
  ·split at h
   ·rename_i d' xs ys q1 q2
    obtain ⟨p,vs,e1,hq1,s1⟩:=qA m r q1
    obtain ⟨p2,vs2,e2,hq2,s2⟩:=qA m q q2
    subst e1
    subst e2
    cases rx
    cases ry
    obtain ⟨its,ri,pl,_⟩:=I.list hq1
    obtain ⟨its2,ri2,pl2,_⟩:=I.list hq2
    have lz:its.length = xs.length:=by rw [← ri.length,s1.1]
    have lz2:its2.length = ys.length:=by rw [← ri2.length,s2.1]
    by_cases hl:xs.length = ys.length
    ·rw [QA hl] at h
     obtain ⟨e,he,eb⟩:=at_ (A:=A.in1) (by show A.units + 1 + d' < cLine;omega) s1 s2 ri ri2 h
     have hsz:its.toArray.size = its2.toArray.size:=by simp [lz,lz2,hl]
     rw [eb,hsz,Nat.min_self,Qy,Bool.and_true,← hsz]
     exact ⟨SeqAt.RcAt.lists pl.isList pl2.isList hsz (by omega) he,SeqAt.RcNeAt.lists pl.isList pl2.isList hsz (by omega) he⟩
    ·rw [QB hl] at h
     cases h
     exact ⟨SeqAt.RcAt.lists_lengths pl.isList pl2.isList (by simp [lz,lz2,hl]) (by omega),SeqAt.RcNeAt.lists_lengths pl.isList pl2.isList (by simp [lz,lz2,hl]) (by omega)⟩
   ·cases h
theorem yE (hu:X.A.units + 64 < cLine):OpR X (compareOp .Eq) (lR2 XE X.K eqA):=by
 intro pins s σ H x y v u Q I rx ry ⟨S,⟨tx,ty⟩,e,m,⟨r1,r2⟩,fin⟩
 subst e
 replace fin:Fin XE (Rep X.K) X.K S (eqA tx ty S.M) Q:=fin
 unfold eqA at fin
 split at fin
 ·rename_i b q
  exact (zlw I m 20 (A:=X.A) (by omega) rx ry r1 r2 q).1 _ _ _ _ ⟨.bl b,S.H,I,rfl,fin S _ rfl (.refl m) (.bl _)⟩
 ·exact fin.elim
theorem zap (hu:X.A.units + 64 < cLine):OpR X (compareOp .NotEq) (lR2 XE X.K neA):=by
 intro pins s σ H x y v u Q I rx ry ⟨S,⟨tx,ty⟩,e,m,⟨r1,r2⟩,fin⟩
 subst e
 replace fin:Fin XE (Rep X.K) X.K S (neA tx ty S.M) Q:=fin
 unfold neA at fin
 split at fin
 ·rename_i b q
  exact (zlw I m 20 (A:=X.A) (by omega) rx ry r1 r2 q).2 _ _ _ _ ⟨.bl (!b),S.H,I,rfl,fin S _ rfl (.refl m) (.bl _)⟩
 ·exact fin.elim
noncomputable def inA:T->T->Mem->Out T:=fun x y M=>match zan y M with
 | some ys=>if (zbg x && ys.all zbg) = true then .ok (.bl (ys.any fun y=>eqS y x)) M else .bad
 | none=>.bad
noncomputable def zkj:T->T->Mem->Out T:=fun x y M=>match zan y M with
 | some ys=>if (zbg x && ys.all zbg) = true then .ok (.bl (!ys.any fun y=>eqS y x)) M else .bad
 | none=>.bad
theorem zhB {K:Frag} {x:T} {v:V} (rx:Rep K S x v) (hx:zbg x = true):∀ {ys:List T} {vs:List V},Reps K S ys vs->ys.all zbg = true->vs.all zaw = true/\inV v vs = ys.any fun y=>eqS y x
 | [],vs,r,_=>by rw [r.nilT];exact ⟨rfl,rfl⟩
 | y :: ys,vs,r,h=>by
  obtain ⟨w,ws,rfl,r1,r2⟩:=r.consT
  rw [all_cons,Qs] at h
  obtain ⟨h1,h2⟩:=zhB rx hx r2 h.2
  refine ⟨by rw [all_cons,yN r1 h.1,h1];rfl,?_⟩
  unfold inV at h2 ⊢
  rw [any_cons,any_cons,h2,ze7 r1 rx h.1 hx]
theorem zpo:OpR X (compareOp .In) (lR2 XE X.K inA):=by
 intro pins s σ H x y v u Q I rx ry ⟨S,⟨tx,ty⟩,e,m,⟨r1,r2⟩,fin⟩
 subst e
 replace fin:Fin XE (Rep X.K) X.K S (inA tx ty S.M) Q:=fin
 unfold inA at fin
 split at fin
 ·rename_i ys q
  split at fin
  ·rename_i hs
   rw [Qs] at hs
   obtain ⟨p,vs,e1,hq,rs⟩:=zcp m r2 q
   dsimp only at e1
   subst e1
   obtain ⟨a1,a2⟩:=zhB r1 hs.1 rs hs.2
   exact zkY pins s σ S.H _ _ v u Q I rx ry ⟨p,vs,rfl,hq,yN r1 hs.1,a1,by rw [a2];exact fin S _ rfl (.refl m) (.bl _)⟩
  ·exact fin.elim
 ·exact fin.elim
theorem znE:OpR X (compareOp .NotIn) (lR2 XE X.K zkj):=by
 intro pins s σ H x y v u Q I rx ry ⟨S,⟨tx,ty⟩,e,m,⟨r1,r2⟩,fin⟩
 subst e
 replace fin:Fin XE (Rep X.K) X.K S (zkj tx ty S.M) Q:=fin
 unfold zkj at fin
 split at fin
 ·rename_i ys q
  split at fin
  ·rename_i hs
   rw [Qs] at hs
   obtain ⟨p,vs,e1,hq,rs⟩:=zcp m r2 q
   dsimp only at e1
   subst e1
   obtain ⟨a1,a2⟩:=zhB r1 hs.1 rs hs.2
   exact zh3 pins s σ S.H _ _ v u Q I rx ry ⟨p,vs,rfl,hq,yN r1 hs.1,a1,by rw [QA rfl,a2];exact fin S _ rfl (.refl m) (.bl _)⟩
  ·exact fin.elim
 ·exact fin.elim
end
section
noncomputable def zfD:List T->Option (List Int)
 | []=>some []
 | .int b :: r=>(zfD r).map (b :: ·)
 | _=>none
theorem zir {K:Frag} {S:Sit}:∀ {ts:List T} {vs:List V} {bs:List Int},zfD ts = some bs->Reps K S ts vs->vs = bs.map V.int
 | [],vs,bs,e,r=>by cases e;exact r.nilT
 | .int b :: ts,vs,bs,e,r=>by
  unfold zfD at e
  obtain ⟨v,vs',rfl,r1,r2⟩:=r.consT
  cases q:zfD ts with
  | none=>rw [q] at e;cases e
  | some bs'=>
   rw [q] at e
   cases e
   cases r1
   rw [zir q r2];rfl
 | .non :: _,_,_,e,_=>by cases e
 | .bl _ :: _,_,_,e,_=>by cases e
 | .str _ :: _,_,_,e,_=>by cases e
 | .ty _ :: _,_,_,e,_=>by cases e
 | .tup _ :: _,_,_,e,_=>by cases e
 | .lst _ :: _,_,_,e,_=>by cases e
 | .ref _ :: _,_,_,e,_=>by cases e
noncomputable def sumK:T->Mem->Out T:=fun t M=>match qv t M with
 | some xs=>match zfD xs with
  | some bs=>.ok (.int bs.sum) M
  | none=>.bad
 | none=>.bad
theorem zlE (hc:X.calm = true):CallR X (.builtin "sum") (lRN XE X.K (yp sumK)):=zda fun pins s σ S t x v Q I rx m r fin=>by
 unfold sumK at fin
 split at fin
 ·rename_i xs q
  split at fin
  ·rename_i bs q2
   obtain ⟨p,vs,rfl,hq,rs⟩:=qA m r q
   rw [zir q2 rs] at hq
   exact zlF hc pins s σ S.H _ _ Q I (.cons rx .nil) ⟨p,bs,rfl,hq,fin S _ rfl (.refl m) (.int _)⟩
  ·exact fin.elim
 ·exact fin.elim
noncomputable def getL:T->T->Mem->Out T:=fun x y M=>match y,qv x M with
 | .int i,some xs=>zfz (atI xs i) M
 | _,_=>.bad
theorem zrw:zi2 X (lR2 XE X.K getL):=by
 intro pins s σ H x y v u Q I rx ry ⟨S,⟨tx,ty⟩,e,m,⟨r1,r2⟩,fin⟩
 subst e
 replace fin:Fin XE (Rep X.K) X.K S (getL tx ty S.M) Q:=fin
 unfold getL at fin
 split at fin
 ·rename_i i xs q
  obtain ⟨t,et,fin⟩:=zgD fin
  obtain ⟨p,vs,e1,hq,rs⟩:=qA m r1 q
  dsimp only at e1
  subst e1
  cases r2
  obtain ⟨w,ew,rw'⟩:=rs.atI et
  exact zmy pins s σ S.H _ _ v u Q I rx ry ⟨p,vs,i,w,rfl,rfl,hq,ew,fin S w rfl (.refl m) rw'⟩
 ·exact fin.elim
theorem zn1:PIp X .Add (lR2 XE X.K zdA):=by
 intro pins s σ H x y v u Q I rx ry ⟨S,⟨tx,ty⟩,e,m,⟨r1,r2⟩,fin⟩
 subst e
 replace fin:Fin XE (Rep X.K) X.K S (zdA tx ty S.M) Q:=fin
 unfold zdA zaY at fin
 split at fin
 ·cases r1;cases r2
  exact zpU pins s σ S.H _ _ v u Q I rx ry ⟨_,_,rfl,rfl,fin S _ rfl (.refl m) (.int _)⟩
 ·exact fin.elim
end
noncomputable def zl3 (o:Out Fl):Out T:=match o with
 | .ok (.rt t) M'=>.ok t M'
 | .ok (.nx _) M'=>.ok .non M'
 | _=>.bad
theorem zkN {p:Nat} {g:Ev->Mem->Out Fl} (h:ts.length = p):yi p n g ts M = zl3 (g (startT n ts) M):=by
 unfold yi
 rw [QA h]
 rfl
theorem zsx {t:T} :zl3 (.ok (.rt t) M) = .ok t M:=rfl
theorem zsy {σ:Ev} :zl3 (.ok (.nx σ) M) = .ok .non M:=rfl
theorem zsR {β:Type} {b:Bool} {k:Bool->Mem->Out β}:blT (.bl b) M k = k b M:=rfl
variable {k:Ev->Mem->Out Fl}
theorem yh {σ:Ev} :zcj k (.nx σ) M = k σ M:=rfl
theorem zrN {t:T} :zcj k (.rt t) M = .ok (.rt t) M:=rfl
theorem zrP {σ:Ev} :zcj k (.bk σ) M = .ok (.bk σ) M:=rfl
theorem zrO {σ:Ev} :zcj k (.ct σ) M = .ok (.ct σ) M:=rfl
theorem zsa {σ:Ev} :y8 k (.nx σ) M = k σ M:=rfl
theorem zr9 {t:T} :y8 k (.rt t) M = .ok (.rt t) M:=rfl
theorem zsc {σ:Ev} :y8 k (.bk σ) M = .ok (.nx σ) M:=rfl
theorem zsb {σ:Ev} :y8 k (.ct σ) M = k σ M:=rfl
theorem zls {x:T} {σ:Ev} :forL bd body (x :: xs) σ M = (bd x σ M).bind fun σ1 M1=>(body σ1 M1).bind (y8 (forL bd body xs)):=rfl
theorem zsC {k:T->Mem->Out T} {t:T} :yp k [t] M = k t M:=rfl
theorem zsB {k:T->T->Mem->Out T} {t:T} :call2 k [t,u] M = k t u M:=rfl
theorem zsF:qU (.int i) (.int j) M = .ok (.int (i + j)) M:=rfl
theorem zsu:zbJ (.int i) (.int j) M = .ok (.int (i - j)) M:=rfl
theorem zjC (h:Mo64 i j):yT (.int i) (.int j) M = .ok (.int (i * j)) M:=QA h
theorem zfa (h:j ≠ 0/\j.natAbs < 10 ^ 2000):zdw (.int i) (.int j) M = .ok (.int (i.fdiv j)) M:=QA h
theorem zgI (h:j ≠ 0):zby (.int i) (.int j) M = .ok (.int (i.fmod j)) M:=QA h
theorem zsz (h:0<=j/\j<=1000000/\i.natAbs < 2 ^ 64):zke (.int i) (.int j) M = .ok (.int (i ^ j.toNat)) M:=QA h
theorem zsK:ltI (.int i) (.int j) M = .ok (.bl (decide (i < j))) M:=rfl
theorem zsL:leI (.int i) (.int j) M = .ok (.bl (decide (i<=j))) M:=rfl
theorem zsN:gtI (.int i) (.int j) M = .ok (.bl (decide (j < i))) M:=rfl
theorem zsO:geI (.int i) (.int j) M = .ok (.bl (decide (j<=i))) M:=rfl
theorem zsI:zia (.int i) M = .ok (.int (-i)) M:=rfl
theorem zsA:zid (.int i) (.int j) M = .ok (.int (if j > i then j else i)) M:=rfl
theorem zsP:eqA (.int i) (.int j) M = .ok (.bl (i == j)) M:=rfl
theorem zsJ:neA (.int i) (.int j) M = .ok (.bl (!(i == j))) M:=rfl
theorem zsM {a b:Bool} :isB (.bl a) (.bl b) M = .ok (.bl (a == b)) M:=rfl
theorem zsi {a b:Bool} :zro (.bl a) (.bl b) M = .ok (.bl (a != b)) M:=rfl
theorem zbf {α:Type} {xs:List α} :atI xs (n:Int) = xs[n]?:=by
 unfold atI ixN
 by_cases h:n < xs.length
 ·simp [h]
 ·simp [h]
theorem zs3 {α:Type} {x:α} {l:List α}:atI (x :: l) 0 = some x:=by have:=zbf (xs:=x :: l) (n:=0);exact this
theorem zs2 {α:Type} {x y:α} {l:List α}:atI (x :: y :: l) 1 = some y:=by have:=zbf (xs:=x :: y :: l) (n:=1);exact this
theorem zs1 {α:Type} {x y z:α} {l:List α}:atI (x :: y :: z :: l) 2 = some z:=by have:=zbf (xs:=x :: y :: z :: l) (n:=2);exact this
theorem zs0 {α:Type} {x y z w:α} {l:List α}:atI (x :: y :: z :: w :: l) 3 = some w:=by have:=zbf (xs:=x :: y :: z :: w :: l) (n:=3);exact this
theorem zsY:ixN (n + 1) 0 = some 0:=by unfold ixN;simp
theorem zsX:ixN (n + 2) 1 = some 1:=by unfold ixN;simp;omega
theorem zsW:ixN (n + 3) 2 = some 2:=by unfold ixN;simp;omega
theorem zam {a:Nat} {t:T} (e:M[a]? = some (.lst xs)) (h:xs.length < sizeLine):z9 (.ref a) [t] M = .ok .non (M.set a (.lst (xs ++ [t]))):=by
 unfold z9
 simp only [e,QA h]
theorem qR {a:Nat} (e:M[a]? = some (.lst xs)):yL (.ref a) M = .ok (.ref a) M:=by
 unfold yL qv
 simp only [e]
theorem zdR {a:Nat} (e:M[a]? = some (.lst xs)):zbH (.ref a) M = .ok (.tup xs) M:=by
 unfold zbH zan qv
 simp only [e]
theorem zoR (h:-(2 ^ 62)<=j/\j < 2 ^ 62):zd3 [.int j] M = .ok (zds 0 j.toNat) M:=QA h
theorem zsQ:zdw (.int i) (.int 8) M = .ok (.int (i.fdiv 8)) M:=zfa ⟨by decide,Q5 (show (8:Int).natAbs < 10 ^ 1 by decide) (Nat.pow_le_pow_right (by decide) (by decide))⟩
theorem zbP (h:-(2 ^ 64) < i/\i < 2 ^ 64):yT (.int i) (.int j) M = .ok (.int (i * j)) M:=zjC (.inr (.inl h))
theorem zpy (h:-(2 ^ 64) < j/\j < 2 ^ 64):yT (.int i) (.int j) M = .ok (.int (i * j)) M:=zjC (.inr (.inr h))
theorem zku (n:Nat) (hn:n<=2000) (h0:j ≠ 0) (h:j.natAbs < 10 ^ n):j ≠ 0/\j.natAbs < 10 ^ 2000:=⟨h0,Q5 h (Nat.pow_le_pow_right (by decide) hn)⟩
structure Po where
 a:Int
 b:Int
 c:Int
noncomputable def Po.cell (p:Po):Cell:=.lst [.int p.a,.int p.b,.int p.c]
noncomputable def Po.dig (p:Po) (base:Int):Int:=if 0 < p.a then p.a % base else
 let mixed:=(p.b + 7919 * (p.c + 1)) % 1000000007
 let stir:=(mixed + 11) * (mixed + 48271) % 998244353
 (stir * stir % 2147483647 / 8) % base
noncomputable def Po.nxt (p:Po) (base:Int):Po:=if 0 < p.a then ⟨p.a / base,p.b,p.c⟩ else ⟨p.a,p.b,p.c + 1⟩
noncomputable def Po.new (cell:Int):Po:=⟨if cell - 10 ^ 18 > 0 then cell - 10 ^ 18 else 0,cell % 10 ^ 18,0⟩
theorem Po.dig_lo (p:Po) {base:Int} (h:0 < base):0<=p.dig base:=by
 unfold Po.dig
 split
 ·exact Int.emod_nonneg _ (by omega)
 ·exact Int.emod_nonneg _ (by omega)
theorem Po.dig_hi (p:Po) {base:Int} (h:0 < base):p.dig base < base:=by
 unfold Po.dig
 split
 ·exact Int.emod_lt_of_pos _ h
 ·exact Int.emod_lt_of_pos _ h
theorem ziY {α:Type} (f:α->Bool):∀ xs:List α,zfK (xs.map fun x=>T.bl (f x)) = some (xs.map f)
 | []=>rfl
 | x :: xs=>by
  show (zfK (xs.map fun x=>T.bl (f x))).map (f x :: ·) = _
  rw [ziY f xs]
  rfl
theorem zmR {α:Type} (f:α->Bool) (xs:List α) (M:Mem):zgV (.lst (xs.map fun x=>T.bl (f x))) M = .ok (.bl (xs.all f)) M:=by
 unfold zgV qv
 simp only [ziY]
 rw [List.all_map]
 rfl
theorem zse:yu (.tup xs) M = .ok (.int xs.length) M:=rfl
theorem zml:yu (.lst xs) M = .ok (.int xs.length) M:=rfl
theorem zfB {a:Nat} (e:M[a]? = some (.lst xs)):yu (.ref a) M = .ok (.int xs.length) M:=by
 unfold yu zan qv
 simp only [e]
theorem zlN {α:Type} {xs:List α} (h0:0<=i) (h1:i < xs.length):∃ x,atI xs i = some x/\x ∈ xs:=by
 obtain ⟨n,rfl⟩:∃ n:Nat,i = n:=⟨i.toNat,by omega⟩
 have hn:n < xs.length:=by omega
 exact ⟨xs[n],by rw [zbf];simp [hn],getElem_mem hn⟩
theorem zsE {ys:List T} (h:xs.length + ys.length<=sizeLine):qU (.tup xs) (.tup ys) M = .ok (.tup (xs ++ ys)) M:=QA h
noncomputable def zpP:T->Option Key
 | .int i=>some (.inl i)
 | .str x=>some (.inr x)
 | _=>none
noncomputable def zF {κ:Type} [DecidableEq κ] (kvs:List (κ × T)) (k:κ):Option T:=(kvs.find? fun kv=>decide (kv.1 = k)).map (·.2)
noncomputable def zcK {κ:Type} [DecidableEq κ] (kvs:List (κ × T)) (k:κ) (t:T):List (κ × T):=
 if (kvs.any fun kv=>decide (kv.1 = k)) = true then kvs.map (fun kv=>if kv.1 = k then (kv.1,t) else kv) else kvs ++ [(k,t)]
section
variable {S:Sit}
theorem zmn {t:T} {k:Key} (r:Rep K S t v) (e:zpP t = some k):v = kV k:=by
 cases r with
 | int i=>have e':some (Sum.inl i) = some k:=e;cases e';rfl
 | str i=>have e':some (Sum.inr i) = some k:=e;cases e';rfl
 | non=>cases e
 | bl b=>cases e
 | ty b=>cases e
 | tup _ _ _=>cases e
 | lst _ _ _=>cases e
 | ref _=>cases e
 | dct _ _ _=>cases e
 | exc _ _ _ _=>cases e
section
variable {κ:Type} [DecidableEq κ]
theorem RepK.nilT {us:List (κ × V)} (r:RepK K S [] us):us = []:=by
 have:=r.1
 simpa using this.symm
theorem RepK.nil:RepK (κ:=κ) K S [] []:=⟨rfl,.nil⟩
theorem RepK.consT {p:κ × T} {kvs:List (κ × T)} {us:List (κ × V)} (r:RepK K S (p :: kvs) us):∃ u us',us = (p.1,u) :: us'/\Rep K S p.2 u/\RepK K S kvs us':=by
 cases us with
 | nil=>have:=r.1;simp at this
 | cons q us=>
  obtain ⟨h1,h2⟩:=r
  rw [QG,QG] at h1 h2
  injection h1 with e1 e2
  obtain ⟨v,vs,e3,r1,r2⟩:=h2.consT
  injection e3 with e3 e4
  refine ⟨q.2,us,?_,?_,e2,?_⟩
  ·rw [e1]
  ·rw [e3];exact r1
  ·rw [e4];exact r2
theorem RepK.cons {k:κ} {t:T} {u:V} {kvs:List (κ × T)} {us:List (κ × V)} (q:Rep K S t u) (r:RepK K S kvs us):RepK K S ((k,t) :: kvs) ((k,u) :: us):=
 ⟨by rw [QG,QG,r.1],by rw [QG,QG];exact r.2.cons q⟩
theorem RepK.length {kvs:List (κ × T)} {us:List (κ × V)} (r:RepK K S kvs us):kvs.length = us.length:=by
 have:=congrArg List.length r.1
 simpa using this
theorem RepK.look (k:κ):∀ {kvs:List (κ × T)} {us:List (κ × V)},RepK K S kvs us->(zF kvs k = none/\zar us k = none)\/∃ t v,zF kvs k = some t/\zar us k = some v/\Rep K S t v
 | [],us,r=>by rw [r.nilT];exact .inl ⟨rfl,rfl⟩
 | p :: kvs,us,r=>by
  obtain ⟨u,us',rfl,r1,r2⟩:=r.consT
  by_cases h:p.1 = k
  ·refine .inr ⟨p.2,u,?_,?_,r1⟩
   ·simp [zF,find?_cons,h]
   ·simp [zar,find?_cons,h]
  ·have e1:zF (p :: kvs) k = zF kvs k:=by simp [zF,find?_cons,h]
   have e2:zar ((p.1,u) :: us') k = zar us' k:=by simp [zar,find?_cons,h]
   rw [e1,e2]
   exact RepK.look k r2
theorem RepK.any (k:κ):∀ {kvs:List (κ × T)} {us:List (κ × V)},RepK K S kvs us->(kvs.any fun kv=>decide (kv.1 = k)) = us.any fun kv=>decide (kv.1 = k)
 | [],us,r=>by rw [r.nilT];rfl
 | p :: kvs,us,r=>by
  obtain ⟨u,us',rfl,r1,r2⟩:=r.consT
  rw [any_cons,any_cons,RepK.any k r2]
theorem RepK.repl (k:κ) {t:T} {v:V} (q:Rep K S t v):∀ {kvs:List (κ × T)} {us:List (κ × V)},RepK K S kvs us->RepK K S (kvs.map (fun kv=>if kv.1 = k then (kv.1,t) else kv)) (us.map (fun kv=>if kv.1 = k then (kv.1,v) else kv))
 | [],us,r=>by rw [r.nilT];exact .nil
 | p :: kvs,us,r=>by
  obtain ⟨u,us',rfl,r1,r2⟩:=r.consT
  rw [QG,QG]
  by_cases h:p.1 = k
  ·rw [QA h,QA h]
   exact (RepK.repl k q r2).cons q
  ·rw [QB h,QB h]
   exact (RepK.repl k q r2).cons r1
theorem RepK.snoc (k:κ) {t:T} {v:V} (q:Rep K S t v):∀ {kvs:List (κ × T)} {us:List (κ × V)},RepK K S kvs us->RepK K S (kvs ++ [(k,t)]) (us ++ [(k,v)])
 | [],us,r=>by rw [r.nilT];exact RepK.nil.cons q
 | p :: kvs,us,r=>by
  obtain ⟨u,us',rfl,r1,r2⟩:=r.consT
  exact (RepK.snoc k q r2).cons r1
theorem RepK.put (k:κ) {t:T} (q:Rep K S t v) {kvs:List (κ × T)} {us:List (κ × V)} (r:RepK K S kvs us):RepK K S (zcK kvs k t) (putK us k v):=by
 unfold zcK putK
 rw [r.any k]
 split
 ·exact r.repl k q
 ·exact r.snoc k q
end
theorem RepK.isSome {κ:Type} [DecidableEq κ] (k:κ) {kvs:List (κ × T)} {us:List (κ × V)} (r:RepK K S kvs us):(zar us k).isSome = (zF kvs k).isSome:=by
 rcases r.look k with ⟨a,b⟩ | ⟨t,v,a,b,_⟩
 ·rw [a,b];rfl
 ·rw [a,b];rfl
end
section
noncomputable def lMt (XE:XK) (K:Frag) (F:T->List T->Mem->Out T):V->List V->Hp->VK->Prop:=fun x xs H Q=>L0 XE (Rep K) K (PrR (Rep K) (Reps K)) (fun a M=>F a.1 a.2 M) (x,xs) H Q
noncomputable def qY (chk:T->Mem->Bool) (F:T->List T->Mem->Out T) (f:Ev->Mem->Out T) (g:Ev->Mem->Out (List T)):Ev->Mem->Out T:=fun σ M=>(f σ M).bind fun x M1=>if chk x M1 = true then (g σ M1).bind fun ts M2=>F x ts M2 else .bad
theorem RepK.getD {κ:Type} [DecidableEq κ] {S:Sit} {kvs:List (κ × T)} {us:List (κ × V)} (r:RepK K S kvs us) (k:κ) {z:T} (q:Rep K S z w):Rep K S ((zF kvs k).getD z) ((zar us k).getD w):=by
 rcases r.look k with ⟨a,b⟩ | ⟨t,v,a,b,h⟩
 ·rw [a,b];exact q
 ·rw [a,b];exact h
end
noncomputable def insI (x:Int):List Int->List Int
 | []=>[x]
 | y :: ys=>if x<=y then x :: y :: ys else y :: insI x ys
theorem insI_perm (x:Int):∀ ys,(insI x ys).Perm (x :: ys)
 | []=>.refl _
 | y :: ys=>by
  unfold insI
  split
  ·exact .refl _
  ·exact ((insI_perm x ys).cons y).trans (.swap x y ys)
theorem Reps.ints {K:Frag} {S:Sit}:∀ ns:List Int,Reps K S (ns.map T.int) (ns.map V.int)
 | []=>.nil
 | n :: ns=>(Reps.ints ns).cons (.int n)
noncomputable def tK:Key->T
 | .inl i=>.int i
 | .inr x=>.str x
theorem zoH {S:Sit} (k:Key):Rep K S (tK k) (kV k):=by
 cases k with
 | inl i=>exact .int i
 | inr x=>exact .str x
theorem Reps.keys {K:Frag} {S:Sit}:∀ ks:List Key,Reps K S (ks.map tK) (ks.map kV)
 | []=>.nil
 | k :: ks=>(Reps.keys ks).cons (zoH k)
section
noncomputable def ziq:T->Mem->Out T:=fun t M=>match t with
 | .bl b=>.ok (.int (if b then 1 else 0)) M
 | _=>.bad
theorem zhc:CallR X (.type "int") (lRN XE X.K (yp ziq)):=zda fun pins s σ S t x v Q I rx m r fin=>by
 unfold ziq at fin
 split at fin
 ·cases r
  cases (show v = Value.bool _ from rx)
  exact call_int_bool ⟨.int _,S.H,I.tok _,⟨_,rfl⟩,fin S _ rfl (.refl m) (.int _)⟩
 ·exact fin.elim
end
noncomputable def SubL (m:List (Str × Addr)):List (Str × Addr)->Prop
 | []=>True
 | c :: l=>m.lookup c.1 = some c.2/\SubL m l
theorem zie:∀ {l m:List (Str × Addr)},SubL m l->∀ x a,l.lookup x = some a->m.lookup x = some a
 | [],_,_,_,_,h=>by cases h
 | (y,b) :: l,m,g,x,a,h=>by
  rw [lookup_cons] at h
  split at h
  ·rename_i e
   cases h
   rw [eq_of_beq e]
   exact g.1
  ·exact zie g.2 x a h
noncomputable def zlz (kvs prs:List (Key × T)):List (Key × T):=prs.foldl (fun acc kv=>zcK acc kv.1 kv.2) kvs
theorem RepK.merge {K:Frag} {S:Sit}:∀ {prs:List (Key × T)} {us:List (Key × V)} {kvs:List (Key × T)} {ws:List (Key × V)},RepK K S prs us->RepK K S kvs ws->RepK K S (zlz kvs prs) (zk4 ws us)
 | [],us,kvs,ws,r,q=>by rw [r.nilT];exact q
 | p :: prs,us,kvs,ws,r,q=>by
  obtain ⟨u,us',rfl,r1,r2⟩:=r.consT
  show RepK K S (zlz (zcK kvs p.1 p.2) prs) (zk4 (putK ws p.1 u) us')
  exact RepK.merge r2 (q.put p.1 r1)
noncomputable def forR (bd:T->Ev->Mem->Out Ev) (body:Ev->Mem->Out Fl) (a:Nat):Nat->Nat->Ev->Mem->Out Fl
 | 0,i,σ,M=>match M[a]? with
  | some (.lst xs)=>if xs.length<=i then .ok (.nx σ) M else .bad
  | _=>.bad
 | n + 1,i,σ,M=>match M[a]? with
  | some (.lst xs)=>match xs[i]? with
   | some x=>(bd x σ M).bind fun σ1 M1=>(body σ1 M1).bind (y8 (forR bd body a n (i + 1)))
   | none=>.ok (.nx σ) M
  | _=>.bad
noncomputable def zsS (bd:T->Ev->Mem->Out Ev) (body:Ev->Mem->Out Fl) (t:T) (σ:Ev) (M:Mem):Out Fl:=match t with
 | .ref a=>match M[a]? with
  | some (.lst xs)=>forR bd body a xs.length 0 σ M
  | _=>.bad
 | _=>.bad
theorem zmE {bd:T->Ev->Mem->Out Ev} {body:Ev->Mem->Out Fl} {a:Nat} {xs:List T} (P:Nat->Ev->Mem->Prop) (hP:∀ k σ M,P k σ M->M[a]? = some (.lst xs))
  (t:∀ k x σ M,xs[k]? = some x->P k σ M->∃ σ' M',((bd x σ M).bind fun σ1 M1=>body σ1 M1) = .ok (.nx σ') M'/\P (k + 1) σ' M'):∀ n i,i + n = xs.length->∀ σ M,P i σ M->∃ σ' M',forR bd body a n i σ M = .ok (.nx σ') M'/\P xs.length σ' M'
 | 0,i,hi,σ,M,h=>by
  have hM:=hP i σ M h
  refine ⟨σ,M,?_,by rw [← hi];exact h⟩
  unfold forR
  rw [hM]
  exact QA (by omega)
 | n + 1,i,hi,σ,M,h=>by
  have hM:=hP i σ M h
  have hx:xs[i]? = some xs[i]:=by simp [show i < xs.length by omega]
  obtain ⟨σ1,M1,e1,h1⟩:=t i _ σ M hx h
  obtain ⟨σ2,M2,e2,h2⟩:=zmE P hP t n (i + 1) (by omega) σ1 M1 h1
  refine ⟨σ2,M2,?_,h2⟩
  unfold forR
  rw [hM]
  simp only [hx]
  cases q:bd xs[i] σ M with
  | bad=>rw [q] at e1;cases e1
  | exn C fs M'=>rw [q] at e1;cases e1
  | ok σ3 M3=>
   rw [q] at e1
   replace e1:body σ3 M3 = .ok (.nx σ1) M1:=e1
   show (body σ3 M3).bind (y8 (forR bd body a n (i + 1))) = _
   rw [e1]
   exact e2
noncomputable def zbQ (t:T) (M:Mem):Bool:=(qv t M).isSome
theorem zfP {K:Frag} {S:Sit} (m:MemOk K S) {t:T} {x:V} (r:Rep K S t x) (h:zbQ t S.M = true):tyV K "list" x S.H:=by
 unfold zbQ at h
 cases q:qv t S.M with
 | none=>rw [q] at h;cases h
 | some xs=>
  obtain ⟨p,vs,rfl,hq,_⟩:=qA m r q
  exact .inl ⟨rfl,vs,hq⟩
end FT
namespace L2
open PySem PySem.Spec PySem.W PyProof.Rows
theorem KV.get_val {κ:Type}:∀ {kvs:List (κ × V)} {vs:List (κ × Value)} {i:Nat} {k:κ} {v:Value},KV kvs vs->vs[i]? = some (k,v)->∃ u,(kvs.map (·.2))[i]? = some u/\RelV u v
 | _,_,_,_,_,.nil,e=>by simp at e
 | _,_,0,_,_,.cons r _,e=>by simp at e;subst e;exact ⟨_,rfl,r.2⟩
 | _,_,i + 1,k,v,.cons _ t,e=>by
  obtain ⟨u,h1,h2⟩:=KV.get_val (i:=i) (k:=k) (v:=v) t (by simpa using e)
  exact ⟨u,by simpa using h1,h2⟩
end L2
namespace FT
open PySem PySem.Spec PyProof.Rows L2
variable {ts:List T} {vs:List V}
theorem Reps.rev {K:Frag} {S:Sit} (r:Reps K S ts vs):Reps K S ts.reverse vs.reverse:=by
 refine ⟨by simp [r.1],fun i t v e1 e2=>?_⟩
 have h1:i < ts.length:=by have:=(Qz.mp e1).1;simpa using this
 rw [List.getElem?_reverse h1] at e1
 rw [List.getElem?_reverse (by rw [← r.1];exact h1),← r.1] at e2
 exact r.2 _ t v e1 e2
noncomputable def zdi (M:Mem) (x:T):List T->Option (List Bool)
 | []=>some []
 | t :: ts=>match eqD M 20 t x,zdi M x ts with
  | some b,some bs=>some (b :: bs)
  | _,_=>none
noncomputable def inN:T->T->Mem->Out T:=fun x y M=>match zan y M with
 | some ys=>match zdi M x ys with
  | some bs=>.ok (.bl (bs.any id)) M
  | none=>.bad
 | none=>.bad
theorem zg9 {M:Mem} {x:T}:∀ {ts:List T} {bs:List Bool},zdi M x ts = some bs->bs.length = ts.length/\∀ (i:Nat) t b,ts[i]? = some t->bs[i]? = some b->eqD M 20 t x = some b
 | [],bs,h=>by cases h;exact ⟨rfl,fun i t b e=>by simp at e⟩
 | t :: ts,bs,h=>by
  unfold zdi at h
  split at h
  ·rename_i b bs' q1 q2
   cases h
   obtain ⟨l,g⟩:=zg9 q2
   refine ⟨by simp [l],fun i u c e1 e2=>?_⟩
   cases i with
   | zero=>cases (show some t = some u from e1);cases (show some b = some c from e2);exact q1
   | succ i=>exact g i u c (by simpa using e1) (by simpa using e2)
  ·cases h
section
variable {X:Cx} {XE:XK} {pins:List (Addr × Obj)} {s:Shared} {σ:L2.St} {S:Sit}
open Classical in
theorem ziI (I:L2.Inv X pins σ S.H s) (m:MemOk X.K S) (hu:X.A.units + 64 < cLine) {x:T} {v:V} {u:Value} (rx:RelV v u) (r:Rep X.K S x v) {its:List Value} (rs:Reps X.K S ts vs) (rv:Vals vs its) {bs:List Bool} (h:zdi S.M x ts = some bs) :
  ∃ e:Value->Bool,(∀ y,y ∈ its.toArray->SeqAt.EqAt X.A.in1 s y u (e y))/\its.toArray.any e = bs.any id:=by
 obtain ⟨hl,g⟩:=zg9 h
 have l1:its.length = bs.length:=by rw [← rv.length,← rs.1,hl]
 have at_:∀ (j:Nat) (y:Value) (b:Bool),its[j]? = some y->bs[j]? = some b->SeqAt.EqAt X.A.in1 s y u b:=fun j y b e1 e2=>by
  have hj:j < ts.length:=by rw [← hl];exact (Qz.mp e2).1
  have et:ts[j]? = some ts[j]:=by simp [hj]
  obtain ⟨w,ew,rw'⟩:=rs.get et
  obtain ⟨y',ey,ry⟩:=rv.get ew
  rw [e1] at ey
  cases ey
  exact zlx I m 20 (A:=X.A.in1) (by show X.A.units + 1 + 20 < cLine;omega) ry rx rw' r (g j _ b et e2)
 refine ⟨fun y=>decide (∃ j:Nat,its[j]? = some y/\bs[j]? = some true),fun y hy=>?_,?_⟩
 ·by_cases hc:∃ j:Nat,its[j]? = some y/\bs[j]? = some true
  ·show SeqAt.EqAt X.A.in1 s y u (decide (∃ j:Nat,its[j]? = some y/\bs[j]? = some true))
   rw [Qw hc]
   obtain ⟨j,e1,e2⟩:=hc
   exact at_ j y true e1 e2
  ·show SeqAt.EqAt X.A.in1 s y u (decide (∃ j:Nat,its[j]? = some y/\bs[j]? = some true))
   rw [Qx hc]
   obtain ⟨j,hj,e1⟩:=getElem_of_mem (show y ∈ its by simpa using hy)
   have ej:its[j]? = some y:=by rw [Q0 hj,e1]
   have hb:bs[j]? = some bs[j]:=by simp [show j < bs.length by omega]
   cases q:bs[j]'(by omega) with
   | true=>exact absurd ⟨j,ej,by rw [hb,q]⟩ hc
   | false=>exact at_ j y false ej (by rw [hb,q])
 ·rw [Bool.eq_iff_iff]
  simp only [List.any_toArray,List.any_eq_true,id,decide_eq_true_eq]
  constructor
  ·rintro ⟨y,_,j,_,e2⟩
   exact ⟨true,Qa e2,rfl⟩
  ·rintro ⟨b,hb,rfl⟩
   obtain ⟨j,hj,e1⟩:=getElem_of_mem hb
   have hj2:j < its.length:=by omega
   exact ⟨its[j],getElem_mem hj2,j,by simp [hj2],by simp [hj,e1]⟩
theorem zpn (hu:X.A.units + 64 < cLine):OpR X (compareOp .In) (lR2 XE X.K inN):=by
 intro pins s σ H x y v u Q I rx ry ⟨S,⟨tx,ty⟩,e,m,⟨r1,r2⟩,fin⟩
 subst e
 replace fin:Fin XE (Rep X.K) X.K S (inN tx ty S.M) Q:=fin
 unfold inN at fin
 split at fin
 ·rename_i ys q
  split at fin
  ·rename_i bs qb
   obtain ⟨p,vs,e1,hq,rs⟩:=zcp m r2 q
   dsimp only at e1
   subst e1
   cases ry
   rcases hq with hq | hq
   ·obtain ⟨its,rv,pl,hz⟩:=I.list hq
    obtain ⟨e,h1,h2⟩:=ziI I m hu rx r1 rs rv qb
    exact SeqAt.in_listAt e pl.isList h1 ⟨.bl _,S.H,I,rfl,by rw [h2];exact fin S _ rfl (.refl m) (.bl _)⟩
   ·obtain ⟨its,rv,pl,hz⟩:=I.tuple hq
    obtain ⟨e,h1,h2⟩:=ziI I m hu rx r1 rs rv qb
    exact SeqAt.in_tupleAt e pl h1 ⟨.bl _,S.H,I,rfl,by rw [h2];exact fin S _ rfl (.refl m) (.bl _)⟩
  ·exact fin.elim
 ·exact fin.elim
end
end FT
namespace L2
open PySem PySem.Spec PySem.W PyProof.Rows
variable {X:Cx}
section
variable {pins:List (Addr × Obj)} {σ:St} {H:Hp} {s:Shared} {l:Addr} {us:List (Key × V)}
theorem Inv.freeze (I:Inv X pins σ H s) (e:H l = some (.dK us)):∃ ob,Inv X pins σ (upd H l (.frz ob (.dK us))) s:=by
 obtain ⟨z,hs,vs,rel,o,es,ep,ho,r⟩:=(show ObjOk X.prog X.w H s.heap l (.dK us) from I.hok l _ e)
 exact ⟨o,I.write (x:=l) (e:=l) (o:=.frz o (.dK us)) (h':=s.heap) (t':=s.toks) (by rw [e];trivial) (.inl rfl) (fun b u _ q=>q) ⟨o,ho⟩ ⟨ho,z,hs,vs,rel,o,es,ep,ho,r⟩⟩
end
noncomputable def zsn (Q:VK):VK:=fun v H'=>∃ l us,v = .ref l/\H' l = some (.dK us)/\∀ ob,Q v (upd H' l (.frz ob (.dK us)))
theorem CallR.frz {f:Value} {r:List V->Hp->VK->Prop} (h:CallR X f r):CallR X f (fun xs H Q=>r xs H (zsn Q)):=by
 intro pins s σ H xs us Q I rv hr
 refine Qg (h pins s σ H xs us _ I rv hr) (fun v s' ⟨x,H',I',r',l,us',ex,e,q⟩=>?_) fun _ _ z=>z
 obtain ⟨ob,I2⟩:=I'.freeze e
 exact ⟨x,_,I2,r',q ob⟩
end L2
namespace FT
open PySem PySem.Spec PyProof.Rows L2
noncomputable def zc6 (f:Str) (v:T):List (Str × T)->List (Str × T)
 | []=>[(f,v)]
 | (g,x) :: r=>if g = f then (g,v) :: r else (g,x) :: zc6 f v r
variable {K:Frag} {us:List (Str × V)}
section
variable {S:Sit}
theorem RepF.nil:RepF K S [] []:=⟨rfl,.nil⟩
theorem RepF.nilT (r:RepF K S [] us):us = []:=by
 have:=r.1
 simpa using this.symm
theorem RepF.consT {p:Str × T} {fs:List (Str × T)} (r:RepF K S (p :: fs) us):∃ u us',us = (p.1,u) :: us'/\Rep K S p.2 u/\RepF K S fs us':=by
 cases us with
 | nil=>have:=r.1;simp at this
 | cons q us'=>
  have h1:=r.1
  simp only [QG,List.cons.injEq] at h1
  obtain ⟨v,vs,e,r1,r2⟩:=(show Reps K S (p.2 :: fs.map (·.2)) (q.2 :: us'.map (·.2)) from r.2).consT
  cases e
  exact ⟨q.2,us',by rw [h1.1],r1,h1.2,r2⟩
theorem RepF.cons {g:Str} {t:T} {u:V} {fs:List (Str × T)} (q:Rep K S t u) (r:RepF K S fs us):RepF K S ((g,t) :: fs) ((g,u) :: us):=⟨by simp [r.1],r.2.cons q⟩
theorem RepF.look (f:Str):∀ {fs:List (Str × T)} {us:List (Str × V)},RepF K S fs us->∀ {t:T},fs.lookup f = some t->∃ v,us.lookup f = some v/\Rep K S t v
 | [],us,r,t,e=>by cases e
 | (g,x) :: fs,us,r,t,e=>by
  obtain ⟨u,us',rfl,r1,r2⟩:=r.consT
  rw [lookup_cons] at e ⊢
  cases h:f == g with
  | true=>rw [h] at e;cases e;exact ⟨u,rfl,r1⟩
  | false=>rw [h] at e;exact RepF.look f r2 e
theorem RepF.put (f:Str) {t:T} {v:V} (q:Rep K S t v):∀ {fs:List (Str × T)} {us:List (Str × V)},RepF K S fs us->RepF K S (zc6 f t fs) (z6 f v us)
 | [],us,r=>by rw [r.nilT];exact RepF.cons q .nil
 | (g,x) :: fs,us,r=>by
  obtain ⟨u,us',rfl,r1,r2⟩:=r.consT
  unfold zc6 z6
  by_cases h:g = f
  ·rw [QA h,QA h];exact RepF.cons q r2
  ·rw [QB h,QB h];exact RepF.cons r1 (RepF.put f q r2)
theorem RepF.len {fs:List (Str × T)} (r:RepF K S fs us):fs.length = us.length:=by
 have:=congrArg List.length r.1
 simpa using this
end
noncomputable def zaO (Cs:List Addr) (f:Str) (x:T) (M:Mem):Out T:=match x with
 | .ref a=>match M[a]? with
  | some (.ins C fs)=>if C ∈ Cs then zfz (fs.lookup f) M else .bad
  | _=>.bad
 | _=>.bad
noncomputable def ym (Cs:List Addr) (f:Str) (g:Ev->Mem->Out T):Ev->Mem->Out T:=fun σ M=>(g σ M).bind fun x M1=>zaO Cs f x M1
noncomputable def zaS (Cs:List Addr) (f:Str) (x y:T) (M:Mem):Out Unit:=match x with
 | .ref a=>match M[a]? with
  | some (.ins C fs)=>if C ∈ Cs/\fs.length < 1000 then .ok () (M.set a (.ins C (zc6 f y fs))) else .bad
  | _=>.bad
 | _=>.bad
noncomputable def qD (Cs:List Addr) (f:Str) (fo fv:Ev->Mem->Out T):Ev->Mem->Out Fl:=fun σ M=>(fv σ M).bind fun y M1=>(fo σ M1).bind fun x M2=>(zaS Cs f x y M2).bind fun _ M3=>.ok (.nx σ) M3
variable {X:Cx} {e:Expr} {XE:XK}
section
variable {Cs:List Addr} {f:Str}
end
structure MakT (P:Program) (w:World) (K:Frag) (mg:Str->Option Value) (base:Heap) (k:Nat) (x:Str) (C:Addr) (ps:List Str) (f:List T->Mem->Out T):Prop where
 ex:∃ (fI:Addr) (fd:FuncData),Mk K C fI/\FnOk P w K mg base CX0 k fI fd ps (spT K f)/\Binds K fd ps []/\mg x = some (.ref C)
 nox:∀ ts M C fs M',f ts M ≠ .exn C fs M'
structure Di (K:Frag) (mg:Str->Option Value) (x qual:Str) (C:Addr) (st:Stmt) (ps:List Str):Prop where
 ex:∃ (fI:Addr) (fd:FuncData),Mk K C fI/\Fun K "__init__" qual st fI fd/\Binds K fd ps []/\mg x = some (.ref C)
variable {C:Addr} {ps:List Str} {k:Nat} {st:Stmt} {qual x:Str} {mg:Str->Option Value}
theorem zpB {P:Program} {w:World} {base:Heap} {N:List Str} {p n:Nat} {g:Ev->Mem->Out Fl} (D:Di K mg x qual C st ps) (Sc:FnScope N ps (yf st)) (hp:ps.length = p) (hn:N.length = n)
 (hb:∀ (f:Addr) (cdv:Value) (A:Around) (outer:List PySem.Env) (s:Shared) (H:Hp) (E:XK),Room k (A.deeper (envOfC qual (yf st) s.heap.objs.size f cdv))->GSs (zcf CX0 P w K mg base N qual (yf st) f cdv A outer s H E).nox E0 (yI st) g) :
  MakT P w K mg base (k + 1) x C ps (yi p n g):=by
 obtain ⟨fI,fd,M,F,b,e⟩:=D.ex
 exact ⟨⟨fI,fd,M,F.ok Sc (zhO hp) fun cdv A outer s H vs Q E hr h=>zfI hn rfl h (hb fI cdv A outer s H E hr),b,e⟩,zfY _ _ _⟩
noncomputable def zmg (a:Nat) (t:T) (M:Mem):Out T:=match t with
 | .non=>.ok (.ref a) M
 | _=>.bad
noncomputable def zdj (C:Addr) (F:List T->Mem->Out T) (ga:Ev->Mem->Out (List T)):Ev->Mem->Out T:=fun σ M=>(ga σ M).bind fun ts M1=>(F (.ref M1.length :: ts) (M1 ++ [.ins C []])).bind fun t M2=>zmg M1.length t M2
variable {es:List Expr}
section
variable {p pos:Pos} {ga:Ev->Mem->Out (List T)} {F:List T->Mem->Out T}
end
variable {P:Addr->Prop}
theorem zg:∀ C ∈ ([]:List Addr),P C:=fun C h=>by simp at h
theorem zf {a:Addr} {l:List Addr} (h:P a) (r:∀ C ∈ l,P C):∀ C ∈ a :: l,P C:=fun C hc=>by
 rcases QD.mp hc with rfl | hc
 ·exact h
 ·exact r C hc
noncomputable def yQ (K:Frag) (x:Str):Addr:=match PySem.W.nsIn K mainGlobals x with
 | some (some (.ref a))=>a
 | _=>0
theorem zgT (a:PySem.W.nsIn K mainGlobals x = some (some (.ref C))):yQ K x = C:=by
 unfold yQ
 rw [a]
theorem zbt {f:Str} (a:PySem.W.nsIn K mainGlobals x = some (some (.ref C))) (n:PySem.W.findIn K (.ref C) f = some none):NoAttr K (yQ K x) f:=by
 rw [zgT a];exact n
theorem zlA (a:PySem.W.nsIn K mainGlobals x = some (some (.ref C))) (pg:PySem.W.plainGet K C Str.empty = true) (hd:PySem.W.hasDictIn K C = true) (po:PySem.W.plainOver K C = true)
 (sa:PySem.W.findIn K (.ref C) "__setattr__" = some (some (.builtin "object.__setattr__"))):Cls K (yQ K x):=by
 rw [zgT a];exact ⟨pg,hd,po,sa⟩
theorem zm5 {h:Heap} (X:K.In h) (G:h.Ns mainGlobals mg) {fI:Addr} {od an:Option Addr} {sl:Array (Option Value)} {oc kV dc pm cd ct:Value}
 (a:PySem.W.nsIn K mainGlobals x = some (some (.ref C))) (a1:PySem.W.findIn K (.ref C) "__init__" = some (some (.ref fI))) (i1:PySem.W.isFn K (.ref fI) = true)
 (l1:K.lookup fI = some ⟨oc,od,.func (PySem.W.fnOf "__init__" qual (zaM st) (yI st) (yf st) .none kV dc pm an cd ct),sl⟩) (c1:PySem.W.codeIn K cd qual = true) (k1:PySem.W.keepIn K (.ref fI) = true) (mk:PySem.W.makesIn K C = true) (kc:PySem.W.keepIn K (.ref C) = true)
 (hb:∀ (kV doc pm:Value) (an:Option Addr) (cdv ct:Value) (us:List Value),us.length = ps.length->bindArgs (PySem.W.fnOf "__init__" qual (zaM st) (yI st) (yf st) .none kV doc pm an cdv ct) ⟨us,[]⟩ = pure (ps.zip us)):Di K mg x qual (yQ K x) st ps:=by
 have F:=ziC (st:=st) l1 c1 k1
 rw [zgT a]
 exact ⟨⟨fI,_,⟨mk,a1,i1,kc⟩,F,F.binds hb,PySem.W.mg_of X G a⟩⟩
noncomputable def zoy:List T->List T->List T
 | x :: xs,y :: ys=>.tup [x,y] :: zoy xs ys
 | _,_=>[]
noncomputable def zp (ts:List T) (M:Mem):Out (List T):=match ts with
 | [.lst xs,.lst ys]=>.ok (zoy xs ys) M
 | _=>.bad
section
theorem zk5 {S1 S3:Sit} (s3:Stp K S1 S3) {p:Addr} {vs:List V} (h:(Rd S1.H p (.lst vs)/\S1.off p)\/KL K p vs):SqL K S3.H p vs:=by
 rcases h with ⟨h2,f2⟩ | h2
 ·exact .inl (s3.toGrow.rd h2 f2).1
 ·exact .inr h2
end
noncomputable abbrev Gd:=List (Nat × List T)
def zaZ (G:Gd) (M:Mem):Prop:=∀ g ∈ G,M[g.1]? = some (.lst g.2)
noncomputable def gdK {β:Type} (G:Gd) (M:Mem) (o:Out β):Out β:=@ite _ (zaZ G M) (Classical.propDecidable _) o .bad
variable {G:Gd} {M:Mem}
theorem zcs {β:Type} {o:Out β} (h:zaZ G M):gdK G M o = o:=QA h
theorem zmC (M:Mem):zaZ [] M:=fun g h=>by simp at h
variable {xs:List T}
theorem zcb {a:Nat} (h:M[a]? = some (.lst xs)):zaZ [(a,xs)] M:=fun g hg=>by rw [QI.mp hg];exact h
def ItG (K:Frag) (S:Sit) (items:List T × Gd) (J:It):Prop:=∀ S',Stp K S S'->zaZ items.2 S'.M->
 (∀ (i:Nat) t,items.1[i]? = some t->J.go i S'.H/\∀ x H',J.yld i S'.H x H'->∃ S'',S''.H = H'/\S''.M = S'.M/\Stp K S' S''/\Rep K S'' t x)/\∀ i,items.1.length<=i->J.stop i S'.H
instance (K):Mo K (ItG K):=⟨fun _ s r=>fun S' s'=>r S' (s.trans s')⟩
noncomputable def lIG (XE:XK) (K:Frag) (f:Ev->Mem->Out (List T × Gd)):TI:=fun σ H R=>LN XE (ItG K) K UnR (fun _ σ M=>f σ M) () σ H R
def GIG (X:Cx) (XE:XK) (tg iter:Expr) (f:Ev->Mem->Out (List T × Gd)):Prop:=PI X tg iter (lIG XE X.K f)
noncomputable def forG (G:Gd) (bd:T->Ev->Mem->Out Ev) (body:Ev->Mem->Out Fl):List T->Ev->Mem->Out Fl
 | [],σ,M=>gdK G M (.ok (.nx σ) M)
 | x :: xs,σ,M=>gdK G M ((bd x σ M).bind fun σ1 M1=>(body σ1 M1).bind (y8 (forG G bd body xs)))
noncomputable def zd2 (it:Ev->Mem->Out (List T × Gd)) (bd:T->Ev->Mem->Out Ev) (body:Ev->Mem->Out Fl):Ev->Mem->Out Fl:=fun σ M=>(it σ M).bind fun xs M1=>forG xs.2 bd body xs.1 σ M1
noncomputable def zM (G:Gd) (bd:T->Ev->Mem->Out Ev) (cond:Ev->Mem->Out Bool) (el:Ev->Mem->Out T):List T->Ev->Mem->List T->Out (List T)
 | [],_,M,acc=>gdK G M (.ok acc M)
 | x :: xs,σ,M,acc=>gdK G M ((bd x σ M).bind fun σ1 M1=>(cond σ1 M1).bind fun b M2=>if b = true then (el σ1 M2).bind fun t M3=>if acc.length < sizeLine then zM G bd cond el xs σ1 M3 (acc ++ [t]) else .bad else zM G bd cond el xs σ1 M2 acc)
noncomputable def yY (it:Ev->Mem->Out (List T × Gd)) (bd:T->Ev->Mem->Out Ev) (cond:Ev->Mem->Out Bool) (el:Ev->Mem->Out T) (tgs:List Str) (caps:List (Str × Nat)):Ev->Mem->Out (List T):=fun σ M=>(it σ M).bind fun xs M1=>zM xs.2 bd cond el xs.1 (zch tgs caps σ) M1 []
theorem Fin.gd {β γ:Type} {R:Sit->β->γ->Prop} {S:Sit} {o:Out β} {Q:γ->Hp->Prop} (h:Fin XE R K S (gdK G M o) Q):zaZ G M/\Fin XE R K S o Q:=by
 by_cases g:zaZ G M
 ·rw [zcs g] at h;exact ⟨g,h⟩
 ·rw [show gdK G M o = .bad from QB g] at h;exact h.elim
variable {Q:VK}
theorem FinL.gd {S:Sit} {o:Out (List T)} (h:FinL XE K S (gdK G M o) Q):zaZ G M/\FinL XE K S o Q:=by
 by_cases g:zaZ G M
 ·rw [zcs g] at h;exact ⟨g,h⟩
 ·rw [show gdK G M o = .bad from QB g] at h;exact h.elim
variable {σ:Ev} {p:Ev->Mem->Out Fl} {bd:T->Ev->Mem->Out Ev}
theorem zlt {S:Sit} {Q:FlV->Hp->Prop} (h:Fin XE (FlR K) K S (forG G bd p xs σ M) Q):zaZ G M:=by
 cases xs with
 | nil=>exact (Fin.gd h).1
 | cons x xs=>exact (Fin.gd h).1
variable {f:Ev->Mem->Out T}
theorem zkw {S:Sit} {c:Ev->Mem->Out Bool} {acc:List T} (h:FinL XE K S (zM G bd c f xs σ M acc) Q):zaZ G M:=by
 cases xs with
 | nil=>exact (FinL.gd h).1
 | cons x xs=>exact (FinL.gd h).1
variable {ga:Ev->Mem->Out (List T × Gd)} {cond:Ev->Mem->Out Bool} {elt iter tg:Expr} {cl:List (Str × Addr)} {caps:List (Str × Nat)} {ifs:List Expr} {tgs:List Str} {scope:Scope}
section
variable {a b c:Expr} {pos pp:Pos} {sts:List Stmt}
theorem zha {σ:L2.St} {H:Hp} (hh:lL XE X.K (yY ga bd cond f tgs caps) σ H Q) :
  zhr (lIG XE X.K ga) (lG XE X.K bd) (lT XE X.K cond) (lE XE X.K f) (za3 tgs caps) σ H Q:=by
 obtain ⟨S,στ,e,m,ev,fin⟩:=hh
 replace fin:FinL XE X.K S ((ga στ S.M).bind fun xs M1=>zM xs.2 bd cond f xs.1 (zch tgs caps στ) M1 []) Q:=fin
 refine ⟨S,στ,(),e,m,ev,trivial,?_⟩
 show Fin XE (ItG X.K) X.K S (ga στ S.M) _
 cases o:ga στ S.M with
 | bad=>rw [o] at fin;exact fin
 | exn C fs M'=>rw [o] at fin;exact fin
 | ok items M1=>
  rw [o] at fin
  replace fin:FinL XE X.K S (zM items.2 bd cond f items.1 (zch tgs caps στ) M1 []) Q:=fin
  intro S0 J e0 s0 it0 D hD
  have m0:=s0.mok
  have fin0:=fin.later s0
  have s1:=Stp.hide (K:=X.K) m0 hD []
  refine ⟨fun i n σ' H'=>∃ S στ acc vs,S.H = H'/\EvR X.K S στ σ'/\n = items.1.length - i/\i<=items.1.length/\D ∈ S.hid/\S.H D = some (.lst vs)/\Reps X.K S acc vs/\Stp X.K S0 S/\FinL XE X.K S0 (zM items.2 bd cond f (items.1.drop i) στ S.M acc) Q,
   ⟨items.1.length - 0,S0.hide D [],zch tgs caps στ,[],[],rfl,(Mo.mo (K:=X.K) m0 s1 (Mo.mo (K:=X.K) m s0 ev)).cap tgs caps,rfl,Nat.zero_le _,.head _,yC,.nil,s1,by show FinL XE X.K S0 (zM items.2 bd cond f items.1 (zch tgs caps στ) S0.M []) Q;rw [e0];exact fin0⟩,?_⟩
  rintro i n σ1 H1 ⟨S2,στ2,acc,vs,e2,ev2,en,hi2,hid2,hD2,racc,s2,fin2⟩
  subst e2
  have m2:=s2.mok
  have hgd:=zkw fin2
  obtain ⟨itg,its⟩:=it0 S2 s2 hgd
  by_cases hl:i < items.1.length
  ·have eq:items.1.drop i = items.1[i] :: items.1.drop (i + 1):=List.drop_eq_getElem_cons hl
   rw [eq] at fin2
   replace fin2:=(FinL.gd fin2).2
   obtain ⟨go,yl⟩:=itg i items.1[i] (by simp [hl])
   refine .inr ⟨go,fun σ' H'=>∃ S στ acc vs,S.H = H'/\EvR X.K S στ σ'/\D ∈ S.hid/\S.H D = some (.lst vs)/\Reps X.K S acc vs/\Stp X.K S0 S/\FinL XE X.K S0 (zM items.2 bd cond f (items.1.drop (i + 1)) στ S.M acc) Q,?_,fun x H' hy=>?_⟩
   ·rintro σ' H' ⟨S,στ,acc,vs,a1,a2,a3,a4,a5,a6,a7⟩
    exact ⟨items.1.length - (i + 1),by omega,S,στ,acc,vs,a1,a2,rfl,hl,a3,a4,a5,a6,a7⟩
   ·obtain ⟨S3,e3,eM,s3,r3⟩:=yl x H' hy
    replace fin2:FinL XE X.K S0 ((bd items.1[i] στ2 S2.M).bind fun σ1 M1=>(cond σ1 M1).bind fun b M2=>if b = true then (f σ1 M2).bind fun t M3=>if acc.length < sizeLine then zM items.2 bd cond f (items.1.drop (i + 1)) σ1 M3 (acc ++ [t]) else .bad else zM items.2 bd cond f (items.1.drop (i + 1)) σ1 M2 acc) Q:=fin2
    refine ⟨S3,στ2,items.1[i],e3,s3.mok,Mo.mo m2 s3 ev2,r3,?_⟩
    show Fin XE (EvR X.K) X.K S3 (bd items.1[i] στ2 S3.M) _
    rw [eM]
    cases o1:bd items.1[i] στ2 S2.M with
    | bad=>rw [o1] at fin2;exact fin2
    | exn C fs M'=>rw [o1] at fin2;exact fun S' od a1 a2 a3=>fin2 S' od a1 ((s2.trans s3).trans a2) a3
    | ok σ4 M4=>
     rw [o1] at fin2
     intro S4 σ4v e4 s4 ev4
     have t4:=s3.trans s4
     replace fin2:FinL XE X.K S0 ((cond σ4 M4).bind fun b M2=>if b = true then (f σ4 M2).bind fun t M3=>if acc.length < sizeLine then zM items.2 bd cond f (items.1.drop (i + 1)) σ4 M3 (acc ++ [t]) else .bad else zM items.2 bd cond f (items.1.drop (i + 1)) σ4 M2 acc) Q:=fin2
     refine ⟨S4,σ4,(),rfl,s4.mok,ev4,trivial,?_⟩
     show Fin XE EqR X.K S4 (cond σ4 S4.M) _
     rw [e4]
     cases o2:cond σ4 M4 with
     | bad=>rw [o2] at fin2;exact fin2
     | exn C fs M'=>rw [o2] at fin2;exact fun S' od a1 a2 a3=>fin2 S' od a1 ((s2.trans t4).trans a2) a3
     | ok b M5=>
      rw [o2] at fin2
      intro S5 b5 e5 s5 eb
      have eb':b = b5:=eb
      subst eb'
      have t5:=t4.trans s5
      replace fin2:FinL XE X.K S0 (if b = true then (f σ4 M5).bind fun t M3=>if acc.length < sizeLine then zM items.2 bd cond f (items.1.drop (i + 1)) σ4 M3 (acc ++ [t]) else .bad else zM items.2 bd cond f (items.1.drop (i + 1)) σ4 M5 acc) Q:=fin2
      cases b with
      | false=>
       rw [QB Q4] at fin2
       refine (QB Q4).mpr ⟨S5,σ4,acc,vs,rfl,Mo.mo s4.mok s5 ev4,(t5.hk D hid2).1,by rw [(t5.hk D hid2).2];exact hD2,racc.grow m2 t5.toGrow,s2.trans t5,by rw [e5];exact fin2⟩
      | true=>
       rw [QA rfl] at fin2
       refine (QA rfl).mpr ⟨S5,σ4,(),rfl,s5.mok,Mo.mo s4.mok s5 ev4,trivial,?_⟩
       show Fin XE (Rep X.K) X.K S5 (f σ4 S5.M) _
       rw [e5]
       cases o3:f σ4 M5 with
       | bad=>rw [o3] at fin2;exact fin2
       | exn C fs M'=>rw [o3] at fin2;exact fun S' od a1 a2 a3=>fin2 S' od a1 ((s2.trans t5).trans a2) a3
       | ok t M6=>
        rw [o3] at fin2
        replace fin2:FinL XE X.K S0 (if acc.length < sizeLine then zM items.2 bd cond f (items.1.drop (i + 1)) σ4 M6 (acc ++ [t]) else .bad) Q:=fin2
        intro S6 v6 e6 s6 r6
        have t6:=t5.trans s6
        have hz:acc.length < sizeLine:=by
         by_cases hz:acc.length < sizeLine
         ·exact hz
         ·rw [QB hz] at fin2;exact fin2.elim
        rw [QA hz] at fin2
        have hid6:=(t6.hk D hid2).1
        have hD6:S6.H D = some (.lst vs):=by rw [(t6.hk D hid2).2];exact hD2
        refine ⟨vs,hD6,by rw [← racc.1];exact hz,S6.hput D (vs ++ [v6]),σ4,acc ++ [t],vs ++ [v6],rfl,?_,hid6,yC,?_,(s2.trans t6).hput hid6 hD m0,by show FinL XE X.K S0 (zM items.2 bd cond f (items.1.drop (i + 1)) σ4 S6.M (acc ++ [t])) Q;rw [e6];exact fin2⟩
        ·have ev6:EvR X.K S6 σ4 σ4v:=Mo.mo s4.mok (s5.trans s6) ev4
         exact ⟨ev6.1,fun i t e=>let ⟨v,e',q⟩:=ev6.2 i t e;⟨v,e',q.hput s6.mok hid6⟩⟩
        ·exact ((racc.grow m2 t6.toGrow).app (.cons r6 .nil)).hput s6.mok hid6
  ·rw [List.drop_eq_nil_of_le (by omega)] at fin2
   replace fin2:=(FinL.gd fin2).2
   refine .inl ⟨its i (by omega),?_⟩
   exact fin2 S2 D vs rfl s2 hD hid2 hD2 racc
end
noncomputable def zd7 (t:T) (M:Mem):Option (List T × Gd):=match t with
 | .lst xs=>some (xs,[])
 | .ref a=>match M[a]? with
  | some (.lst xs)=>some (xs,[(a,xs)])
  | _=>none
 | _=>none
theorem znR {S:Sit} (m:MemOk K S) {t:T} {v:V} (r:Rep K S t v) (e:zd7 t S.M = some (xs,G)):∃ p vs,v = .ref p/\SqL K S.H p vs/\∀ S3,Stp K S S3->zaZ G S3.M->∃ vs3,SqL K S3.H p vs3/\Reps K S3 xs vs3:=by
 unfold zd7 at e
 split at e
 ·cases e
  cases r with
  | @lst _ p vs h l rr=>
   refine ⟨p,vs,rfl,zdK h,fun S3 s3 _=>⟨vs,zk5 s3 h,?_⟩⟩
   exact (show Reps K S xs vs from ⟨l,rr⟩).grow m s3.toGrow
 ·rename_i a
  split at e
  ·rename_i ys q
   cases e
   cases r with
   | ref ha=>
    obtain ⟨vs,h1,r1⟩:=m.cell a _ q
    refine ⟨S.α a,vs,rfl,.inl (.inl h1),fun S3 s3 g=>?_⟩
    obtain ⟨vs3,h3,r3⟩:=s3.mok.cell a _ (g (a,xs) (.head _))
    rw [s3.al a ha] at h3
    exact ⟨vs3,.inl (.inl h3),r3⟩
  ·cases e
 ·cases e
noncomputable def zau (f:Ev->Mem->Out T):Ev->Mem->Out (List T × Gd):=fun σ M=>(f σ M).bind fun t M1=>match zd7 t M1 with
 | some g=>.ok g M1
 | none=>.bad
section
end
end FT
namespace L2
open PySem PySem.Spec PySem.W PyProof.Rows
def SI (b:Bool) (h:Heap) (q t:Addr) (k:Nat):Prop:=match b with
 | true=>h.IsTupleIter q t k
 | false=>h.IsListIter q t k
def SS (b:Bool) (h:Heap) (t:Addr) (xs:Array Value):Prop:=match b with
 | true=>h.IsTuple t xs
 | false=>h.IsList t xs
def SqX (K:Frag) (H:Hp) (b:Bool) (a:Addr) (xs:List V):Prop:=match b with
 | true=>SqT K H a xs
 | false=>SqL K H a xs
noncomputable abbrev TSl:=V->Option Int->Option Int->V->Hp->(Hp->Prop)->Prop
end L2
namespace FT
open PySem PySem.Spec PyProof.Rows L2
noncomputable def zbu (f:List T->Mem->Out T):List T->Mem->Out T:=fun ts M=>match f ts M with
 | .ok v M'=>@ite _ (M'.take M.length = M/\T.lt 0 v) (Classical.propDecidable _) (.ok v M) .bad
 | _=>.bad
theorem zei (f:List T->Mem->Out T):Refines (zbu f) f:=by
 intro ts M t' M1 _ e
 unfold zbu at e
 split at e
 ·rename_i v M' q
  split at e
  ·rename_i hc
   cases e
   have hl:M.length<=M'.length:=by
    have:=congrArg List.length hc.1
    rw [Qr] at this
    omega
   exact ⟨_,_,q,Q3 _,hl,hc.1.symm,fun i c e=>.inl e,.same (hc.2.mono (Nat.zero_le _))⟩
  ·cases e
 ·cases e
theorem zej (f:List T->Mem->Out T):∀ ts M C fs M',zbu f ts M ≠ .exn C fs M':=by
 intro ts M C fs M' e
 unfold zbu at e
 split at e
 ·split at e <;> cases e
 ·cases e
structure CalX (P:Program) (w:World) (K:Frag) (mg:Str->Option Value) (base:Heap) (k:Nat) (x:Str) (ps:List Str) (f:List T->Mem->Out T):Prop where
 ex:∃ (fa:Addr) (fd:FuncData),FnOk P w K mg base (CXX P w) k fa fd ps (spT K f)/\PySem.W.keepIn K (.ref fa) = true/\Binds K fd ps []/\mg x = some (.ref fa)
variable {C:Addr} {K:Frag} {base:Heap} {P:Program} {x:Str} {mg:Str->Option Value} {w:World}
section
variable {X:Cx} {XE:XK} {k i j:Nat} {ps:List Str} {y v nm:Str} {p pos pos2 np hp tp vp cpos:Pos} {e:Expr} {es:List Expr} {ga:Ev->Mem->Out (List T)} {F:List T->Mem->Out T} {b0:Stmt} {suite sts:List Stmt} {g gs:Ev->Mem->Out Fl}
structure XcF (P:Program) (w:World) (K:Frag) (mg:Str->Option Value) (base:Heap) (x:Str) (C:Addr):Prop where
 ex:∃ f fd,XcAt K mg x C f/\FnOk P w K mg base CX0 1 f fd ["self","at"] (fun vs H Q E=>(∃ e t v,vs = [.ref e,v]/\H e = some (.ext (ExN e C t none))/\∀ d,H d = none->d ≠ e->Q .non (upd (upd H e (.ext (ExN e C t (some d)))) d (.xd [("at",v)]))))/\Binds K fd ["self","at"] []
theorem XcF.at (O:XcF P w K mg base x C):∃ nm fI,XcAt K mg nm C fI:=let ⟨f,_,h,_⟩:=O.ex;⟨x,f,h⟩
def GX (X:Cx) (sts:List Stmt) (g:Ev->Mem->Out Fl):Prop:=PX X sts fun E=>lS E X.K g
noncomputable def zkd:Ev->Mem->Out Fl:=fun _ _=>.bad
noncomputable def noX (o:Out Fl):Out Fl:=match o with
 | .exn _ _ _=>.bad
 | o=>o
noncomputable def zs4 (cs:List Addr) (g gs:Ev->Mem->Out Fl):Ev->Mem->Out Fl:=fun σ M=>match g σ M with
 | .exn C _ M'=>if cs.contains C = true then noX (gs σ M') else .bad
 | o=>o
noncomputable def clr (j:Nat) (fl:Fl) (M:Mem):Out Fl:=match fl with
 | .nx σ=>.ok (.nx (σ.set j none)) M
 | .rt t=>.ok (.rt t) M
 | .bk σ=>.ok (.bk (σ.set j none)) M
 | .ct σ=>.ok (.ct (σ.set j none)) M
noncomputable def zsT (j:Nat) (cs:List Addr) (g gs:Ev->Mem->Out Fl):Ev->Mem->Out Fl:=fun σ M=>match g σ M with
 | .exn C fs M'=>if cs.contains C = true then (noX (gs (σ.set j (some (.exc C fs))) M')).bind (clr j) else .bad
 | o=>o
end
theorem zlW {f:Addr} (O:XcAt K mg x C f):Sup K mg x C C:=⟨O.bound,fun h X=>by
 obtain ⟨bm,N,nm,q,bs,sn,sub,ab,col,dd,k0,k1,k2,k3,k5,mN,hC,_,_,_,T⟩:=O.obj h X
 exact ⟨⟨bm,N,nm,q,bs,true,sn,sub,ab,col,dd,k0,k1,k2,k3,k5,hC,(T.tail (by decide)).hasType PySem.F.excBase_ValueError.hasBase⟩,bm,N,nm,q,bs,true,sn,sub,ab,col,dd,k0,k1,k2,k3,k5,hC,by simp⟩⟩
theorem XcF.sup (O:XcF P w K mg base x C):Sup K mg x C C:=let ⟨_,_,h,_⟩:=O.ex;zlW h
end FT
namespace L2
open PySem
noncomputable def subs:Nat->List (List Nat)
 | 0=>[[]]
 | n + 1=>subs n ++ (subs n).map (· ++ [n])
theorem zjp:∀ (n:Nat) (ks:List Nat),ks ∈ subs n->ks.Pairwise (· < ·)/\∀ k ∈ ks,k < n
 | 0,ks,h=>by rw [show ks = [] from QI.mp h];exact ⟨.nil,fun _ h=>by cases h⟩
 | n + 1,ks,h=>by
  unfold subs at h
  rcases mem_append.mp h with h | h
  ·have:=zjp n ks h
   exact ⟨this.1,fun k hk=>Nat.lt_succ_of_lt (this.2 k hk)⟩
  ·obtain ⟨l,hl,rfl⟩:=mem_map.mp h
   have:=zjp n l hl
   refine ⟨List.pairwise_append.mpr ⟨this.1,List.pairwise_singleton _ _,fun a ha b hb=>by rw [QI.mp hb];exact this.2 a ha⟩,fun k hk=>?_⟩
   rcases mem_append.mp hk with hk | hk
   ·exact Nat.lt_succ_of_lt (this.2 k hk)
   ·rw [QI.mp hk];exact Nat.lt_succ_self _
noncomputable def zsr:Bool:=(subs 6).all fun ks=>(List.range 7).all fun h=>SetTable.below ks.toArray h == (ks.filter (· < h)).length
theorem zot:zsr = true:=by decide +kernel
variable {ks:List Nat}
theorem ziZ (hk:ks ∈ subs 6) {h:Nat} (hh:h < 7):SetTable.below ks.toArray h = (ks.filter (· < h)).length:=by
 have:=all_eq_true.mp (all_eq_true.mp zot ks hk) h (mem_range.mpr hh)
 exact eq_of_beq this
noncomputable def zpE (mask:Nat) (hashes:Array Int):Option (List Nat × List Nat):=(SetTable.layClean mask hashes).map fun owner=>
 let live:=(List.range (mask + 1)).filterMap fun j=>(owner.getD j none).map (j,·)
 (live.map (·.1),live.map (·.2))
noncomputable def hsh (ks:List Nat):List Int:=ks.map fun k:Nat=>(k:Int)
noncomputable def layB:Bool:=(subs 6).all fun ks=>[7,15,31].all fun m=>zpE m (hsh ks).toArray == some (ks,List.range ks.length)
theorem znV:layB = true:=by decide +kernel
theorem znX (hk:ks ∈ subs 6) {m:Nat} (hm:m ∈ [7,15,31]) (f mv:Nat) (l p:Bool) :
  SetTable.laid m f mv l p (hsh ks).toArray = some ({ mask:=m,place:=ks.toArray,dummies:=#[],finger:=f,led:=l,moves:=mv,plain:=p },(List.range ks.length).toArray):=by
 have:=eq_of_beq (all_eq_true.mp (all_eq_true.mp znV ks hk) m hm)
 unfold zpE at this
 unfold SetTable.laid
 cases q:SetTable.layClean m (hsh ks).toArray with
 | none=>rw [q] at this;cases this
 | some owner=>
  rw [q] at this
  have h:=Prod.mk.inj (Qd this)
  show some _ = some _
  rw [h.1,h.2]
end L2
namespace L2
open PySem PySem.Spec
noncomputable def zqH (w:World):Bool:=w.params.followText "set-order"
structure DTab (w:World) (es:Array (Int × Value)) (t:SetTable) (ks:List Nat) (m:Nat):Prop where
 keys:es.toList.map (·.1) = hsh ks
 vals:∀ e ∈ es.toList,∃ tk,e.2 = .int e.1 tk
 mask:t.mask = m
 place:t.place = ks.toArray
 dumm:t.dummies = #[]
 plain:t.plain = true
 led:zqH w = true\/t.led = true
 sub:ks ∈ subs 6
 ms:m ∈ [7,15,31]
variable {es:Array (Int × Value)} {ks:List Nat} {m:Nat} {w:World}
theorem DTab.size {t:SetTable} (d:DTab w es t ks m):es.size = ks.length:=by
 have:=congrArg List.length d.keys
 unfold hsh at this
 simpa using this
theorem zhK (h:ks ∈ subs 6):ks.length<=6:=by
 have:((subs 6).all fun ks=>ks.length<=6) = true:=by decide +kernel
 simpa using all_eq_true.mp this ks h
theorem DTab.fits {t:SetTable} (d:DTab w es t ks m):t.fits es.size = true:=by
 have:=zhK d.sub
 have hm:=d.ms
 unfold SetTable.fits SetTable.fill
 rw [d.size,d.place,d.dumm,d.mask]
 simp at hm ⊢
 omega
variable {k:Nat}
theorem zox (h:k < 6):hashInt (k:Int) = k:=by
 have:((List.range 6).all fun k:Nat=>hashInt (k:Int) == (k:Int)) = true:=by decide +kernel
 exact eq_of_beq (all_eq_true.mp this k (mem_range.mpr h))
section
variable {prog:Program} {A:Around} {E:Value->Shared->Prop} {s:Shared} {a:Addr}
noncomputable def zkp (k:Nat) (ks:List Nat):List Nat:=if k ∈ ks then ks else ks.take (ks.filter (· < k)).length ++ k :: ks.drop (ks.filter (· < k)).length
theorem zmr (hk:k < 6) (h:ks ∈ subs 6):zkp k ks ∈ subs 6:=by
 have:((List.range 6).all fun k=>(subs 6).all fun ks=>(subs 6).contains (zkp k ks)) = true:=by decide +kernel
 have:=all_eq_true.mp (all_eq_true.mp this k (mem_range.mpr hk)) ks h
 simpa using this
theorem zje {t:SetTable} (hp:t.place = ks.toArray) (hd:t.dummies = #[]) (hm:k<=t.mask) (hs:k < 2 ^ 64) (hn:k ∉ ks):t.freeSlot (k:Int) = some (k,false):=by
 have hb:SetTable.bits (k:Int) = k:=by
  unfold SetTable.bits
  rw [Int.emod_eq_of_lt (by omega) (by omega)]
  rfl
 have hsl:t.slot k = .empty:=by
  unfold SetTable.slot SetTable.has
  rw [hp,hd]
  dsimp only
  rw [QB (by
   intro e
   have e:=eq_of_beq e
   rw [List.getElem?_toArray] at e
   exact hn (Qa e)),QB (by simp)]
 have hj:(t.probeStart (k:Int)).j = k/\(t.probeStart (k:Int)).dummy = none:=by
  unfold SetTable.probeStart
  rw [hb]
  exact ⟨Nat.mod_eq_of_lt (by omega),rfl⟩
 unfold SetTable.freeSlot SetTable.probe
 rw [show 10 * SetTable.turns t.mask = (10 * t.mask + 149) + 1 by unfold SetTable.turns;omega]
 unfold SetTable.probe.go
 rw [hj.1,hsl,hj.2]
 rfl
theorem DTab.ins {t:SetTable} {tk:Tok} (d:DTab w es t ks m) (hk:k < 6) (hn:k ∉ ks):DTab w (SetTable.insertAt es (t.put k).2 ((k:Int),.int (k:Int) tk)) (t.put k).1 (zkp k ks) m:=by
 have hp:(t.put k).2 = (ks.filter (· < k)).length:=by
  unfold SetTable.put
  rw [d.place]
  exact ziZ d.sub (by omega)
 have hi:zkp k ks = ks.take (ks.filter (· < k)).length ++ k :: ks.drop (ks.filter (· < k)).length:=QB hn
 refine ⟨?_,?_,d.mask,?_,?_,d.plain,d.led,zmr hk d.sub,d.ms⟩
 ·rw [hp,SetTable.toList_insertAt,hi]
  unfold hsh
  rw [Qq,QG,Qq,QG,map_take,map_take,map_drop,map_drop]
  have:=d.keys
  unfold hsh at this
  rw [this]
 ·intro e he
  rw [SetTable.toList_insertAt] at he
  rcases mem_append.mp he with he | he
  ·exact d.vals e (List.mem_of_mem_take he)
  ·rcases QD.mp he with rfl | he
   ·exact ⟨tk,rfl⟩
   ·exact d.vals e (List.mem_of_mem_drop he)
 ·show SetTable.insertAt t.place (SetTable.below t.place k) k = _
  rw [d.place,ziZ d.sub (by omega),hi]
  apply Array.toList_inj.mp
  rw [SetTable.toList_insertAt]
 ·show (if SetTable.has t.dummies k then _ else t.dummies) = #[]
  rw [d.dumm]
  rfl
theorem DTab.lay {t:SetTable} {tk:Tok} (d:DTab w es t ks m) (hk:k < 6) (hn:k ∉ ks):layNew t es (k:Int) (.int (k:Int) tk) = (SetTable.insertAt es (t.put k).2 ((k:Int),.int (k:Int) tk),(t.put k).1,false,false):=by
 have hm:=d.ms
 have hf:=(d.ins (tk:=tk) hk hn).fits
 unfold layNew
 rw [zje d.place d.dumm (by rw [d.mask];simp at hm;omega) (by omega) hn]
 dsimp only
 unfold SetTable.orStandIn
 rw [QA hf,hf]
 rfl
theorem DTab.full {t:SetTable} (d:DTab w es t ks m):∃ t' m',relayAll t es (SetTable.grown es.size) = (es,t',false)/\DTab w es t' ks m':=by
 have h6:=zhK d.sub
 have hw:∀ n,n<=6->SetTable.sizeAbove (SetTable.grown n) - 1 ∈ [7,15,31]:=by decide +kernel
 have hms:=hw _ h6
 have e1:es.map (·.1) = (hsh ks).toArray:=by
  rw [← d.keys]
  apply Array.toList_inj.mp
  rw [Array.toList_map]
 have e3:Array.filterMap (fun x=>es[x]?) (List.range ks.length).toArray = es:=by
  apply Array.toList_inj.mp
  rw [← d.size]
  simpa using filterMap_getElem?_range es
 have hc:∀ n,n<=6->coversAll (List.range n).toArray n = true:=by decide +kernel
 have d':DTab w es { mask:=SetTable.sizeAbove (SetTable.grown es.size) - 1,place:=ks.toArray,dummies:=#[],finger:=t.finger,led:=t.led,moves:=t.movedTo (SetTable.sizeAbove (SetTable.grown es.size) - 1),plain:=t.plain } ks (SetTable.sizeAbove (SetTable.grown es.size) - 1):=⟨d.keys,d.vals,rfl,rfl,rfl,d.plain,d.led,d.sub,by rw [d.size];exact hms⟩
 refine ⟨_,_,?_,d'⟩
 unfold relayAll SetTable.relaid
 rw [e1,znX d.sub (by rw [d.size];exact hms)]
 dsimp only
 rw [e3,d'.fits,d.size,hc _ h6]
 rfl
end
end L2
namespace L2
open PySem PySem.Spec PyProof.Rows
section
variable {prog:Program} {w:World} {A:Around} {E:Value->Shared->Prop} {s:Shared} {a:Addr} {ks:List Nat} {m:Nat}
structure DictN (prog:Program) (w:World) (h:Heap) (d:Addr) (ns:List Nat) (od:Obj) (es:Array DictEntry) (ep:Nat):Prop where
 at_:h.get? d = some od
 exact_:od.ExactDict
 data:od.data = .dict es ep
 size:es.size = ns.length
 keys:∀ (i:Nat) n,ns[i]? = some n->∃ e tk,es[i]? = some e/\e.key = .int (n:Int) tk/\e.hash = (n:Int)
 small:∀ n ∈ ns,n < 6
end
theorem zkO (n:Nat):sliceRange (sliceBounds none none (some (-1)) n).1 (sliceBounds none none (some (-1)) n).2.1 (sliceBounds none none (some (-1)) n).2.2 = (List.range n).map fun k=>n - 1 - k:=by
 unfold sliceBounds sliceRange
 have h0:¬ ((-1:Int) > 0):=by decide
 simp only [Option.getD_some,h0,if_false]
 have hc:(if (n:Int) - 1 > -1 then ((n:Int) - 1 - -1 - -1 - 1) / (- -1) else 0).toNat = n:=by
  by_cases hn:(n:Int) - 1 > -1
  ·rw [QA hn]
   have:((n:Int) - 1 - -1 - -1 - 1) / (- -1) = n:=by
    have e:(- -1:Int) = 1:=by decide
    rw [e,Int.ediv_one];omega
   rw [this];simp
  ·rw [QB hn];omega
 rw [hc]
 apply map_congr_left
 intro k hk
 have hk':k < n:=mem_range.mp hk
 omega
theorem zl2 {α:Type}:∀ xs:List α,((List.range xs.length).map fun k=>xs.length - 1 - k).filterMap (fun k=>xs[k]?) = xs.reverse:=fun xs=>by
 rw [List.filterMap_map]
 have:((List.range xs.length).filterMap fun k=>xs[xs.length - 1 - k]?) = (List.range xs.reverse.length).filterMap fun k=>xs.reverse[k]?:=by
  rw [List.length_reverse]
  have:∀ (ns:List Nat),(∀ k ∈ ns,k < xs.length)->(ns.filterMap fun k=>xs[xs.length - 1 - k]?) = ns.filterMap fun k=>xs.reverse[k]?:=by
   intro ns
   induction ns with
   | nil=>intro _;rfl
   | cons n ns ih=>
    intro h
    rw [filterMap_cons,filterMap_cons,ih fun k hk=>h k (.tail _ hk),List.getElem?_reverse (h n (.head _))]
  exact this _ fun k hk=>mem_range.mp hk
 show ((List.range xs.length).filterMap fun k=>xs[xs.length - 1 - k]?) = _
 rw [this]
 exact PySem.List.filterMap_getElem?_range_length _
theorem zhl (its:List Value):slicePick its.toArray none none (some (-1)) = its.reverse.toArray:=by
 unfold slicePick
 rw [Qi,zkO]
 have:=zl2 its
 simp only [List.getElem?_toArray]
 rw [this]
section
variable {X:Cx}
noncomputable def tRv (r:V->Hp->VK->Prop) (te:TE) (ts:TO):TE:=fun σ H Q=>te σ H fun x H1=>ts σ H1 fun l H2=>l = some (-1)/\r x H2 Q
noncomputable def zr6 (K:Frag):V->Hp->VK->Prop:=fun x H Q=>∃ a xs,x = .ref a/\SqL K H a xs/\∀ p,H p = none->Q (.ref p) (upd H p (.lst xs.reverse))
theorem zpa {e st:Expr} {te:TE} {ts:TO} {p2 pos:Pos} (he:PE X e te) (hs:PO X (some st) ts):PE X (.Subscript e (.Slice none none (some st) p2) pos) (tRv (zr6 X.K) te ts):=by
 intro pins s σ H Q I h
 refine Subscript_ (thn (he pins s σ H _ I h) fun v s1 ⟨x,H1,I1,r1,q1⟩=>?_)
 refine wpAny_Slice ?_
 rw [evalPart_none]
 refine Qf (Qf (thn (hs pins s1 σ H1 _ I1 q1) fun vl s2 ⟨l,H2,I2,pl,q2⟩=>?_))
 obtain ⟨rfl,a,xs,rfl,hx,q⟩:=q2
 cases r1
 have I4:Inv X pins σ H2 { s2 with heap:=s2.heap.push { cls:=.type "slice",data:=.fields #[.none,.none,vl] } }:=I2.kept (t':=s2.toks) fun b ob q=>Q2 _ q
 obtain ⟨its,r,ht,hz⟩:=I4.list hx
 have hlen:=r.length
 refine tail_any (ops:=[.ref a,.ref s2.heap.objs.size]) ht.isList.typeIs slot_list_getitem.lookup ?_ (by with_unfolding_all rfl)
 refine wpAny_getItem_list_slice ht.isList (Heap.IsSliceOf.new ..) .none .none pl (by decide) ?_ (by rw [Qi] <;> omega)
 rw [zhl]
 refine ⟨.ref _,_,I4.laid (t':=s2.toks) (o:=.lst xs.reverse) (fun b ob q=>Q2 _ q) (Q3 _) ?_,rfl,q _ (I4.hok.fresh (Q3 _))⟩
 exact ⟨by rw [List.length_reverse];exact hz,_,0,r.reverse,Ql _ rfl⟩
end
end L2
namespace FT
open PySem PySem.Spec PyProof.Rows L2
noncomputable def rvX (x:T) (M:Mem):Out T:=match qv x M with
 | some xs=>.ok (.lst xs.reverse) M
 | none=>.bad
noncomputable def zgy (x:T) (l:Option Int) (M:Mem):Out T:=if l = some (-1) then rvX x M else .bad
noncomputable def eRv (f:Ev->Mem->Out T) (p:Ev->Mem->Out (Option Int)):Ev->Mem->Out T:=fun σ M=>(f σ M).bind fun x M1=>(p σ M1).bind fun l M2=>zgy x l M2
variable {X:Cx} {p:Ev->Mem->Out (Option Int)} {f:Ev->Mem->Out T} {e:Expr} {p2:Pos} {XE:XK}
section
end
noncomputable def zeL (f:List T->Mem->Out T):List T->Mem->Out T:=fun ts M=>match f ts M with
 | .ok (.ref a) M'=>match M'[a]? with
  | some (.lst xs)=>@ite _ (M'.take M.length = M/\M.length<=a/\∀ x ∈ xs,T.lt 0 x) (Classical.propDecidable _) (.ok (.lst xs) M) .bad
  | _=>.bad
 | _=>.bad
theorem zjR (f:List T->Mem->Out T):Refines (zeL f) f:=by
 intro ts M t' M1 _ e
 unfold zeL at e
 split at e
 ·rename_i a M' q
  split at e
  ·rename_i xs qa
   split at e
   ·rename_i hc
    cases e
    have hl:M.length<=M'.length:=by
     have:=congrArg List.length hc.1
     rw [Qr] at this
     omega
    refine ⟨_,_,q,Q3 _,hl,hc.1.symm,fun i c e=>.inl e,.ref qa hc.2.1 rfl fun i t u e1 e2=>?_⟩
    rw [e1] at e2
    cases e2
    exact .same ((hc.2.2 t (Qa e1)).mono (Nat.zero_le _))
   ·cases e
  ·cases e
 ·cases e
theorem zjS (f:List T->Mem->Out T):∀ ts M C fs M',zeL f ts M ≠ .exn C fs M':=by
 intro ts M C fs M' e
 unfold zeL at e
 split at e
 ·split at e
  ·split at e <;> cases e
  ·cases e
 ·cases e
variable {K:Frag} {base:Heap} {N ps:List Str} {k:Nat} {P:Program} {st:Stmt} {x:Str} {mg:Str->Option Value} {w:World}
section
theorem Refines.bad (g:List T->Mem->Out T):Refines (fun _ _=>.bad) g:=fun _ _ _ _ _ e=>by cases e
theorem CalT.bad (D:Df K mg x st ps) (Sc:FnScope N ps (yf st)):CalT P w K mg base (k + 1) x ps (fun _ _=>.bad):=
 CalT.refine (g:=yi ps.length N.length (fun _ _=>.bad)) (zlK D Sc rfl rfl fun f cdv A outer s H E hr=>fun _ _ _ _ _ _ ⟨_,_,_,_,_,_,_,fin⟩=>fin.elim) (Refines.bad _) (fun _ _ _ _ _ z=>by cases z)
end
def KTu (K:Frag) (a:Addr) (xs:List V):Prop:=∃ (o:Obj) (its:Array Value) (n:Nat),K.lookup a = some o/\o.cls = .type "tuple"/\o.dict = none/\o.data = .seq its n/\its.size<=sizeLine/\Vals xs its.toList
variable {n:Nat}
theorem zpI {a:Addr} {t:Tok} {sl:Array (Option Value)} (h:K.lookup a = some ⟨.type "tuple",none,.seq #[.str x t] n,sl⟩):KTu K a [.str x]:=
 ⟨_,_,n,h,rfl,rfl,rfl,(by rw [sizeLine_eq];exact Nat.le_of_ble_eq_true rfl),.cons ⟨t,rfl⟩ .nil⟩
noncomputable def zfX (Cs:List Addr) (f:Str) (fo:Ev->Mem->Out T) (n:Int):Ev->Mem->Out Fl:=fun σ M=>(fo σ M).bind fun x M1=>(zaO Cs f x M1).bind fun v M2=>(zdA v (.int n) M2).bind fun z M3=>(zaS Cs f x z M3).bind fun _ M4=>.ok (.nx σ) M4
noncomputable def zeM:T->List T->Mem->Out T:=fun x ts M=>match x,ts with
 | .ref a,[.lst ys]=>match M[a]? with
  | some (.lst xs)=>if xs.length + ys.length < 1000000 then .ok .non (M.set a (.lst (xs ++ ys))) else .bad
  | _=>.bad
 | .ref a,[.ref b]=>match M[a]?,M[b]? with
  | some (.lst xs),some (.lst ys)=>if xs.length + ys.length < 1000000 then .ok .non (M.set a (.lst (xs ++ ys))) else .bad
  | _,_=>.bad
 | _,_=>.bad
noncomputable def zgO (x:T):List T->Nat->Option Nat
 | [],_=>none
 | y :: ys,n=>if eqS y x = true then some n else zgO x ys (n + 1)
noncomputable def zea:T->List T->Mem->Out T:=fun x ts M=>match ts with
 | [y]=>match qv x M with
  | some xs=>if (zbg y && xs.all zbg) = true then (match zgO y xs 0 with
   | some n=>.ok (.int (n:Int)) M
   | none=>.bad) else .bad
  | none=>.bad
 | _=>.bad
theorem zg4 {x:T}:∀ {ys:List T} {k n:Nat},zgO x ys k = some n->k<=n/\n - k < ys.length/\(∀ y,ys[n - k]? = some y->eqS y x = true)/\∀ (m:Nat) y,m < n - k->ys[m]? = some y->eqS y x = false
 | [],k,n,h=>by cases h
 | y :: ys,k,n,h=>by
  unfold zgO at h
  split at h
  ·rename_i e
   cases h
   refine ⟨Q3 _,by simp,fun z hz=>?_,fun m z hm=>absurd hm (by omega)⟩
   simp at hz
   rw [← hz];exact e
  ·rename_i e
   obtain ⟨h1,h2,h3,h4⟩:=zg4 h
   refine ⟨by omega,by rw [Qp];omega,fun z hz=>?_,fun m z hm hz=>?_⟩
   ·rw [show n - k = n - (k + 1) + 1 by omega,getElem?_cons_succ] at hz
    exact h3 z hz
   ·cases m with
    | zero=>simp at hz;rw [← hz];simpa using e
    | succ m=>rw [getElem?_cons_succ] at hz;exact h4 m z (by omega) hz
variable {fo:Ev->Mem->Out T} {Cs:List Addr} {ss:List Str} {cpos tpos:Pos}
section
variable {f:Str}
theorem zk3 (hu:X.A.units + 64 < cLine):MtR X "list.index" (lMt XE X.K zea):=by
 intro pins s σ H x xs v us Q I rx rs ⟨S,⟨tx,ts⟩,e,m,⟨r1,r2⟩,fin⟩
 subst e
 replace r1:Rep X.K S tx x:=r1
 replace r2:Reps X.K S ts xs:=r2
 replace fin:Fin XE (Rep X.K) X.K S (zea tx ts S.M) Q:=fin
 unfold zea at fin
 split at fin
 ·rename_i y
  split at fin
  ·rename_i ys q
   split at fin
   ·rename_i hs
    split at fin
    ·rename_i n hn
     rw [Qs] at hs
     obtain ⟨p,vs,rfl,hq,rs'⟩:=qA m r1 q
     obtain ⟨w1,ws,rfl,h1,h2⟩:=r2.consT
     cases h2.nilT
     cases rs with | cons a1 a2=>
     cases a2
     cases rx
     obtain ⟨its,rv,pl,hz⟩:=I.list hq
     obtain ⟨i1,i2,i3,i4⟩:=zg4 hn
     rw [Nat.sub_zero] at i2 i3 i4
     obtain ⟨b1,b2⟩:=zhB h1 hs.1 rs' hs.2
     have fx:=yN h1 hs.1
     have hlen:=rv.length
     have hys:=rs'.1
     have val:∀ (k:Nat) (hk:k < its.length),∃ y',ys[k]? = some y'/\eqU w1 its[k] = eqS y' y:=fun k hk=>by
      obtain ⟨y',hy'⟩:∃ y',ys[k]? = some y':=⟨ys[k],Q0 (by omega)⟩
      obtain ⟨v',hv',rv'⟩:=rs'.get hy'
      obtain ⟨u',hu',ru'⟩:=rv.get hv'
      rw [Q0 hk] at hu'
      cases hu'
      have sy:zbg y' = true:=all_eq_true.mp hs.2 y' (Qa hy')
      exact ⟨y',hy',by rw [ziG ru' (yN rv' sy),ze7 rv' h1 sy hs.1]⟩
     obtain ⟨o,c,ho,hcl,hdi,hda⟩:=pl
     obtain ⟨cls,dict,data,slots⟩:=o
     dsimp only at hcl hdi hda
     subst hcl;subst hdi;subst hda
     have hnl:n < its.length:=by omega
     refine call_meets PySem.F.slot_list_index ⟨_,ho,rfl⟩ PySem.F.entry_list_index (PySem.F.args_list_index_2 _ _) (SeqAt.list_indexAt p its.toArray c none slots _ (eqU w1) n (by simpa using hnl) (by have:=zcr;rw [hlen] at hz;omega) ?_ ?_) ⟨ho,fun w hw=>zb8 a1 fx rv b1 w (by simpa using hw),⟨.int (n:Int),S.H,I.tok _,⟨_,rfl⟩,fin S _ rfl (.refl m) (.int _)⟩⟩
     ·obtain ⟨y',hy',e'⟩:=val n hnl
      simp only [getElem_toArray]
      rw [e'];exact i3 y' hy'
     ·intro k hk hk2
      have hk':k < its.length:=by simpa using hk
      obtain ⟨y',hy',e'⟩:=val k hk'
      simp only [getElem_toArray]
      rw [e'];exact i4 k y' hk2 hy'
    ·exact fin.elim
   ·exact fin.elim
  ·exact fin.elim
 ·exact fin.elim
end
theorem zla (l:Addr) (items:Array Value) (n:Nat) (b:Addr) (items2:Array Value) (n2:Nat) (dd:Option Addr) (sl:Array (Option Value)) (hc0:¬(!items.isEmpty && Builtin.List.listTooLong (items.size + items2.size)) = true) (hc1:items.size<=sizeLine) (hs2:items.size + items2.size<=sizeLine + 1) :
  Meets (Builtin.«list.extend» ⟨[.ref l,.ref b],[]⟩) (fun _ R s=>s.heap.get? l = some { cls:=.type "list",dict:=none,data:=.seq items n,slots:=#[] }/\s.heap.get? b = some { cls:=.type "list",dict:=dd,data:=.seq items2 n2,slots:=sl }/\R (.ok (.ret Value.none)) { s with heap:=s.heap.update l (Obj.mapSeq fun x=>x ++ items2),toks:=s.toks }):=
 .of_wp fun prog w A R s h=>by
  obtain ⟨hp,g,d,tk,os⟩:=s;obtain ⟨hl,hb,h⟩:=h;have f1:=AutoSeq1.idx_int;have f2:=AutoSeq1.sub_tuple_tuple;have f3:=AutoSeq1.sub_list_list;have f4:=AutoSeq1.sub_tuple_list;have f5:=AutoSeq1.sub_list_tuple
  have hz':(items ++ items2).size<=sizeLine + 1:=by rw [Array.size_append];exact hs2
  wp_walk using (wpAny_updateSeq hl rfl (hz:=hc1) (_hz':=hz')),AutoSeq1.wpAny_loadPart' hl,AutoSeq1.wpAny_loadPart' hb;exact ⟨_,rfl,h⟩
section
noncomputable def zq3 (K:Frag):V->List V->Hp->VK->Prop:=fun x vs H Q=>∃ l b xs zs,x = .ref l/\vs = [.ref b]/\H l = some (.lst xs)/\SqL K H b zs/\xs.length + zs.length<=sizeLine/\Q .non (upd H l (.lst (xs ++ zs)))
theorem zjE:MtM X "list.extend" (zq3 X.K):=by
 intro pins s σ H x vs v us Q I rx rv h
 obtain ⟨l,b,xs,zs,rfl,rfl,hH,hB,hz,q⟩:=h
 cases rx
 obtain ⟨u,rfl,ru⟩:=rv.one
 cases ru
 obtain ⟨z,its,n,r,hl,e⟩:=I.lstM hH
 obtain ⟨its2,r2,pl2,z2⟩:=I.list hB
 obtain ⟨⟨cls2,dd2,data2,sl2⟩,n2,ho2,hc2,hdi2,hd2⟩:=pl2
 simp only at hc2 hd2
 subst hc2 hd2
 have hl2:=r2.length
 have hsz:its.toArray.size + its2.toArray.size<=sizeLine:=by rw [Qi,Qi];omega
 have hlong:¬ (!its.toArray.isEmpty && Builtin.List.listTooLong (its.toArray.size + its2.toArray.size)) = true:=by
  rw [zh5 hsz,Bool.and_false]
  exact Q4
 refine call_meets F.slot_list_extend ⟨_,e,rfl⟩ F.entry_list_extend (F.args_list_extend_2 _ _)
  (zla l its.toArray n b its2.toArray n2 dd2 sl2 hlong (by rw [Qi];omega) (by omega)) ⟨e,ho2,?_⟩
 refine ⟨.non,_,I.lset (its':=its ++ its2) hH e (by simp) (r.append r2) ?_,rfl,q⟩
 rw [Qn]
 omega
theorem zjD:MtR X "list.extend" (lMt XE X.K zeM):=by
 intro pins s σ H x xs v us Q I rx rs ⟨S,⟨tx,ts⟩,e,m,⟨r1,r2⟩,fin⟩
 subst e
 replace r1:Rep X.K S tx x:=r1
 replace r2:Reps X.K S ts xs:=r2
 replace fin:Fin XE (Rep X.K) X.K S (zeM tx ts S.M) Q:=fin
 have hsl:(1000000:Nat)<=sizeLine:=by rw [sizeLine_eq];exact Nat.le_of_ble_eq_true rfl
 unfold zeM at fin
 split at fin
 ·rename_i a ys
  split at fin
  ·rename_i xs0 q
   split at fin
   ·rename_i hlt
    cases r1 with
    | ref ha=>
    obtain ⟨w1,ws,rfl,h1,h2⟩:=r2.consT
    cases h2.nilT
    obtain ⟨us4,h4,rr⟩:=m.cell _ _ q
    cases h1 with
    | @lst _ p vs h l r=>
    have rr2:Reps X.K S ys vs:=⟨l,r⟩
    have st:=zeV m q (rr.app rr2)
    refine zjE pins s σ S.H (.ref (S.α a)) [.ref p] v us Q I rx rs ⟨S.α a,p,us4,vs,rfl,rfl,h4,zdK h,by rw [← rr.1,← l];omega,?_⟩
    exact fin (S.put a (.lst (us4 ++ vs)) (.lst (xs0 ++ ys))) .non rfl st .non
   ·exact fin.elim
  ·exact fin.elim
 ·rename_i a b
  split at fin
  ·rename_i xs0 ys q qb
   split at fin
   ·rename_i hlt
    cases r1 with
    | ref ha=>
    obtain ⟨w1,ws,rfl,h1,h2⟩:=r2.consT
    cases h2.nilT
    obtain ⟨us4,h4,rr⟩:=m.cell _ _ q
    obtain ⟨us5,h5,rr5⟩:=m.cell _ _ qb
    cases h1 with
    | ref hb=>
    have st:=zeV m q (rr.app rr5)
    refine zjE pins s σ S.H (.ref (S.α a)) [.ref (S.α b)] v us Q I rx rs ⟨S.α a,S.α b,us4,us5,rfl,rfl,h4,.inl (.inl h5),by rw [← rr.1,← rr5.1];omega,?_⟩
    exact fin (S.put a (.lst (us4 ++ us5)) (.lst (xs0 ++ ys))) .non rfl st .non
   ·exact fin.elim
  ·exact fin.elim
 ·exact fin.elim
end
structure WE (X:Cx) (XE:XK) (e:Expr) (f:Ev->Mem->Out T):Prop where
 pe:GE X XE e f
structure WT (X:Cx) (XE:XK) (e:Expr) (f:Ev->Mem->Out Bool):Prop where
 pe:GT X XE e f
structure WW (X:Cx) (XE:XK) (e:Expr) (f:Ev->Mem->Out Bool):Prop where
 pe:GW X XE e f
structure WA (X:Cx) (XE:XK) (e:List Expr) (f:Ev->Mem->Out (List T)):Prop where
 pe:GA X XE e f
structure WSs (X:Cx) (XE:XK) (e:List Stmt) (f:Ev->Mem->Out Fl):Prop where
 pe:GSs X XE e f
structure WS (X:Cx) (XE:XK) (e:Stmt) (f:Ev->Mem->Out Fl):Prop where
 pe:GS X XE e f
structure WL (X:Cx) (XE:XK) (e:Expr) (f:Ev->Mem->Out (List T)):Prop where
 pe:GL X XE e f
structure WGs (X:Cx) (XE:XK) (e:List Expr) (f:List T->Ev->Mem->Out Ev):Prop where
 pe:GGs X XE e f
structure WG (X:Cx) (XE:XK) (e:Expr) (f:T->Ev->Mem->Out Ev):Prop where
 pe:GG X XE e f
structure WO (X:Cx) (XE:XK) (e:Option Expr) (f:Ev->Mem->Out (Option Int)):Prop where
 pe:GO X XE e f
structure WI (X:Cx) (XE:XK) (tg iter:Expr) (f:Ev->Mem->Out (List T)):Prop where
 pe:GI X XE tg iter f
structure WX (X:Cx) (e:List Stmt) (f:Ev->Mem->Out Fl):Prop where
 pe:GX X e f
structure WIG (X:Cx) (XE:XK) (tg iter:Expr) (f:Ev->Mem->Out (List T × Gd)):Prop where
 pe:GIG X XE tg iter f
variable {op:CmpOp} {ga:Ev->Mem->Out (List T)} {tf:Ev->Mem->Out Bool} {g h:Ev->Mem->Out T} {es:List Expr} {i:Nat} {o:T->T->Mem->Out T}
section
variable {a b c:Expr} {pos:Pos}
theorem za (h:PE X e (zj7 i)):WE X XE e (yb i):=⟨PE.imp h fun σ H Q h9=>by
 obtain ⟨S,στ,_,e,m,ev,_,fin⟩:=h9
 replace fin:Fin XE (Rep X.K) X.K S (yb i στ S.M) Q:=fin
 unfold yb at fin
 cases q:στ[i]? with
 | none=>rw [q] at fin;exact fin.elim
 | some o=>
  cases o with
  | none=>rw [q] at fin;exact fin.elim
  | some t=>
   rw [q] at fin
   obtain ⟨v,e2,r⟩:=ev.2 i t q
   exact ⟨v,e2,by rw [← e];exact fin S v rfl (.refl m) r⟩⟩
theorem yc {i j}:WE X XE (.Constant (.int i) j pos) (eC (.int i)):=⟨ge_int ⟩
theorem zP {i j}:WE X XE (.Constant (.bool i) j pos) (eC (.bl i)):=⟨zca zre fun _=>.bl _⟩
theorem yV {j}:WE X XE (.Constant .none j pos) (eC .non):=⟨zca zpd fun _=>.non⟩
theorem qp {i j}:WE X XE (.Constant (.str i) j pos) (eC (.str i)):=⟨zca zo9 fun _=>.str _⟩
theorem zfq {n:String} (hg:Gl X x) (hm:X.mg x = none) (hv:bootBuiltins x = some (.type n)) (hn:x ≠ "__name__":=by decide) (hd:(x == ("__debug__":Str)) = false:=by decide):WE X XE (.Name x pos) (eC (.ty n)):=⟨zca (zny (v:=.ty n) hg hm hv rfl hn hd) fun _=>.ty _⟩
theorem zn {op:Operator} (ho:OpR X (binaryOp op) (lR2 XE X.K o)) (ha:WE X XE a f) (hb:WE X XE b g):WE X XE (.BinOp a op b pos) (eOp o f g):=by
 have ha:=ha.pe
 have hb:=hb.pe
 exact ⟨PE.imp (zmW ho ha hb) fun _ _ _ h=>zhz h⟩
theorem zab (ho:OpR X (compareOp op) (lR2 XE X.K o)) (ha:WE X XE a f) (hb:WE X XE b g) (hm:behindInMarks op b = false):WE X XE (.Compare a [op] [b] pos) (eOp o f g):=by
 have ha:=ha.pe
 have hb:=hb.pe
 exact ⟨PE.imp (znw ho ha hb hm) fun _ _ _ h=>zhz h⟩
theorem zoz {op:UnaryOp} {o:T->Mem->Out T} (ho:L2.UnR X (unaryOp op) (lR1 XE X.K o)) (ha:WE X XE a f):WE X XE (.UnaryOp op a pos) (eUn o f):=by
 have ha:=ha.pe
 exact ⟨PE.imp (zrb ho ha) fun σ H Q h=>
  LN.mono (LN.bind (f:=fun _ σ M=>f σ M) (k:=fun _ x σ M1=>o x M1) (RB:=Rep X.K) h) fun v H1 h2=>by
   obtain ⟨S,στ,a,e,m,ev,ra,fin⟩:=h2
   exact ⟨S,a.2,e,m,ra.2,fin⟩⟩
theorem qd (ho:IxR X (lR2 XE X.K o)) (ha:WE X XE a f) (hb:WE X XE b g) (hs:zgW b):WE X XE (.Subscript a b pos) (eOp o f g):=by
 have ha:=ha.pe
 have hb:=hb.pe
 exact ⟨PE.imp (zrd ho ha hb hs) fun _ _ _ h=>zhz h⟩
theorem zaa (ha:WE X XE e f) (he:∀ whole,isTrue e X.env whole = (do let v ← whole;standAt e.pos;holding [v] (truthy v)):=by intro _;rfl):WT X XE e (zk f):=by
 have ha:=ha.pe
 exact ⟨PT.imp (zoZ ha he) fun σ H Q h=>
  LN.mono (LN.bind (f:=fun _ σ M=>f σ M) (k:=fun _ x σ M1=>blT x M1 fun b M2=>.ok b M2) (RB:=Rep X.K) h) fun v H1 h2=>by
   obtain ⟨S,στ,a,e,m,ev,ra,fin⟩:=h2
   obtain ⟨b,e1,_,fin⟩:=zhy ra.2 fin
   exact ⟨b,e1,by rw [← e];exact fin S b rfl (.refl m) rfl⟩⟩
theorem zi (ho:OpR X (compareOp op) (lR2 XE X.K o)) (ha:WE X XE a f) (hb:WE X XE b g) (hm:behindInMarks op b = false):WT X XE (.Compare a [op] [b] pos) (zk (eOp o f g)):=by
 have ha:=ha.pe
 have hb:=hb.pe
 exact ⟨PT.imp (znm ho ha hb hm) fun σ H Q h=>by
  have h1:=LN.bind (f:=fun _ σ M=>eOp o f g σ M) (k:=fun _ x σ M1=>blT x M1 fun b M2=>.ok b M2) (RB:=Rep X.K) h
  refine zhz (LN.mono h1 fun v H1 h2=>?_)
  obtain ⟨S,στ,a,e,m,ev,ra,fin⟩:=h2
  obtain ⟨b,e1,_,fin⟩:=zhy ra.2 fin
  exact ⟨b,e1,by rw [← e];exact fin S b rfl (.refl m) rfl⟩⟩
variable {tg:Ev->Mem->Out Bool} {rest:List Expr}
theorem yP (ha:WT X XE a tf):WW X XE (.BoolOp .And [a] pos) tf:=by
 have ha:=ha.pe
 exact ⟨znj ha⟩
theorem y9 (ha:WT X XE a tf):WW X XE (.BoolOp .Or [a] pos) tf:=by
 have ha:=ha.pe
 exact ⟨zoX ha⟩
theorem zV (ha:WT X XE a tf) (hb:WW X XE (.BoolOp .And (b :: rest) pos) tg):WW X XE (.BoolOp .And (a :: b :: rest) pos) (yR tf tg):=by
 have ha:=ha.pe
 have hb:=hb.pe
 exact ⟨PW.imp (zoY ha hb) fun σ H Q h=>
  LN.mono (tif (tf:=tf) (tg:=tg) (p:=fun c σ M1=>if c = true then tg σ M1 else .ok false M1) h) fun c H1 h1=>by
   cases c with
   | true=>exact (QA rfl).mpr h1
   | false=>exact (QB Q4).mpr (zht h1)⟩
theorem z5 (ha:WT X XE a tf) (hb:WW X XE (.BoolOp .Or (b :: rest) pos) tg):WW X XE (.BoolOp .Or (a :: b :: rest) pos) (zai tf tg):=by
 have ha:=ha.pe
 have hb:=hb.pe
 exact ⟨PW.imp (zq7 ha hb) fun σ H Q h=>
  LN.mono (tif (tf:=tf) (tg:=tg) (p:=fun c σ M1=>if c = true then .ok true M1 else tg σ M1) h) fun c H1 h1=>by
   cases c with
   | true=>exact (QA rfl).mpr (zht h1)
   | false=>exact (QB Q4).mpr h1⟩
theorem WW.gt (h:WW X XE e tf):WT X XE e tf:=⟨GW.gt h.pe⟩
theorem zb0 (ha:WT X XE a tf):WT X XE (.UnaryOp .Not a pos) (zbI tf):=by
 have ha:=ha.pe
 exact ⟨PT.imp (zo0 ha) fun σ H Q h=>
  LN.mono (tif (tf:=tf) (tg:=tf) (p:=fun c σ M1=>.ok (!c) M1) h) fun c H1 h1=>zht h1⟩
theorem zdC {op} (h:WE X XE a f):WE X XE (.BoolOp op [a] pos) f:=by
 have h:=h.pe
 exact ⟨zpb h⟩
theorem zdD (ha:WE X XE a f) (hb:WE X XE (.BoolOp .And (b :: rest) pos) g):WE X XE (.BoolOp .And (a :: b :: rest) pos) (zfF f g):=by
 have ha:=ha.pe
 have hb:=hb.pe
 exact ⟨PE.imp (zph ha hb) fun σ H Q h=>
  LN.mono (eif (f:=f) (p:=fun b σ M2=>if b = true then g σ M2 else .ok (.bl false) M2) h) fun x H1 ⟨c,e,h1⟩=>⟨c,e,by
   cases c with
   | true=>exact (QA rfl).mpr h1
   | false=>exact (QB Q4).mpr (zko h1 fun _=>.bl _)⟩⟩
theorem zkD (ha:WE X XE a f) (hb:WE X XE (.BoolOp .Or (b :: rest) pos) g):WE X XE (.BoolOp .Or (a :: b :: rest) pos) (eOr f g):=by
 have ha:=ha.pe
 have hb:=hb.pe
 exact ⟨PE.imp (zrc ha hb) fun σ H Q h=>
  LN.mono (eif (f:=f) (p:=fun b σ M2=>if b = true then .ok (.bl true) M2 else g σ M2) h) fun x H1 ⟨c,e,h1⟩=>⟨c,e,by
   cases c with
   | true=>exact (QA rfl).mpr (zko h1 fun _=>.bl _)
   | false=>exact (QB Q4).mpr h1⟩⟩
theorem zjl (ha:WE X XE a f):WE X XE (.UnaryOp .Not a pos) (zkt f):=by
 have ha:=ha.pe
 exact ⟨PE.imp (zpc ha) fun σ H Q h=>
  LN.mono (eif (f:=f) (p:=fun b σ M2=>.ok (.bl (!b)) M2) h) fun x H1 ⟨c,e,h1⟩=>⟨c,e,zko h1 fun _=>.bl _⟩⟩
theorem zoB (hc:WT X XE c tf) (ha:WE X XE a f) (hb:WE X XE b g):WE X XE (.IfExp c a b pos) (eIf tf f g):=by
 have hc:=hc.pe
 have ha:=ha.pe
 have hb:=hb.pe
 exact ⟨PE.imp (zma hc ha hb) fun σ H Q h=>
  LN.mono (LN.bind (f:=fun _ σ M=>tf σ M) (k:=fun _ c σ M1=>if c = true then f σ M1 else g σ M1) (RB:=EqR) h) fun c H1 h2=>by
   obtain ⟨S,στ,a,e,m,ev,ra,fin⟩:=h2
   have:a.2 = c:=ra.2
   subst this
   replace fin:Fin XE (Rep X.K) X.K S (if a.2 = true then f στ S.M else g στ S.M) Q:=fin
   cases q:a.2 with
   | true=>exact (QA rfl).mpr ⟨S,στ,(),e,m,ev,trivial,by rw [q] at fin;exact fin⟩
   | false=>exact (QB Q4).mpr ⟨S,στ,(),e,m,ev,trivial,by rw [q] at fin;exact fin⟩⟩
theorem zc :WA X XE [] zd:=⟨PA.imp zpj fun σ H Q h9=>by
 obtain ⟨S,στ,_,e,m,ev,_,fin⟩:=h9
 show Q [] H
 rw [← e];exact fin S [] rfl (.refl m) .nil⟩
theorem ya (ha:WE X XE e f) (hr:WA X XE es ga) (hs:noStar e = true:=by rfl):WA X XE (e :: es) (zb f ga):=by
 have ha:=ha.pe
 have hr:=hr.pe
 exact ⟨PA.imp (znz ha hr (zbB hs)) fun σ H Q h=>
  LN.mono (LN.bind (f:=fun _ σ M=>f σ M) (k:=fun _ x σ M1=>(ga σ M1).bind fun xs M2=>.ok (x :: xs) M2) (RB:=Rep X.K) h) fun v H1 h1=>
   LN.mono (LN.env (f:=ga) (LN.bind (f:=fun _ σ M=>ga σ M) (k:=fun (ax:Unit × T) ys σ M2=>.ok (ax.2 :: ys) M2) (RB:=Reps X.K) h1)) fun w H2 h2=>by
    obtain ⟨S,στ,a,e,m,ev,ra,fin⟩:=h2
    show Q (v :: w) H2
    rw [← e]
    exact fin S _ rfl (.refl m) (Reps.cons ra.1.2 ra.2)⟩
theorem yx {x1} (h:WA X XE es ga):WE X XE (.Tuple es x1 pos) (yD ga):=by
 have h:=h.pe
 exact ⟨PE.imp (zo8 h) fun σ H Q h=>
  LN.mono (LN.bind (f:=fun _ σ M=>ga σ M) (k:=fun _ xs σ M1=>if xs.length<=sizeLine then .ok (T.tup xs) M1 else .bad) (RB:=Reps X.K) h) fun v H1 h2=>by
   obtain ⟨S,στ,a,e,m,ev,ra,fin⟩:=h2
   by_cases hl:a.2.length<=sizeLine
   ·replace fin:Fin XE (Rep X.K) X.K S (if a.2.length<=sizeLine then .ok (.tup a.2) S.M else .bad) Q:=fin
    rw [QA hl] at fin
    refine ⟨by rw [← ra.2.1];exact hl,fun p hp=>?_⟩
    subst e
    have s:=Stp.new m hp (.tup v)
    exact fin ⟨S.α,S.M,upd S.H p (.tup v),S.hid⟩ (.ref p) rfl s (.tup (.inl (.inl yC)) ra.2.1 (ra.2.grow m s.toGrow).2)
   ·replace fin:Fin XE (Rep X.K) X.K S (if a.2.length<=sizeLine then .ok (.tup a.2) S.M else .bad) Q:=fin
    rw [QB hl] at fin
    exact fin.elim⟩
theorem yB (h:WA X XE es ga):WL X XE (.List es pos) (zD ga):=by
 have h:=h.pe
 exact ⟨PE.imp (zpe h) fun σ H Q h9=>by
  obtain ⟨S,στ,e,m,ev,fin⟩:=h9
  replace fin:FinL XE X.K S ((ga στ S.M).bind fun xs M1=>if xs.length<=sizeLine then .ok xs M1 else .bad) Q:=fin
  refine ⟨S,στ,(),e,m,ev,trivial,?_⟩
  show Fin XE (Reps X.K) X.K S (ga στ S.M) _
  cases q:ga στ S.M with
  | bad=>rw [q] at fin;exact fin
  | exn C fs M'=>rw [q] at fin;exact fin
  | ok xs M1=>
   rw [q] at fin
   intro S1 vs e1 s1 r1
   by_cases hl:xs.length<=sizeLine
   ·replace fin:FinL XE X.K S (if xs.length<=sizeLine then .ok xs M1 else .bad) Q:=fin
    rw [QA hl] at fin
    refine ⟨by rw [← r1.1];exact hl,fun p hp=>?_⟩
    have s2:=Stp.hide s1.mok hp vs
    exact (fin.later s1) (S1.hide p vs) p vs e1 s2 hp (.head _) yC (r1.grow s1.mok s2.toGrow)
   ·replace fin:FinL XE X.K S (if xs.length<=sizeLine then .ok xs M1 else .bad) Q:=fin
    rw [QB hl] at fin
    exact fin.elim⟩
theorem zH (h:WL X XE e ga):WE X XE e (eFz ga):=by
 have h:=h.pe
 exact ⟨PE.imp h fun σ H Q ⟨S,στ,_,e,m,ev,_,fin⟩=>⟨S,στ,e,m,ev,by
  show FinL XE X.K S (ga στ S.M) Q
  replace fin:Fin XE (Rep X.K) X.K S ((ga στ S.M).bind fun xs M1=>.ok (.lst xs) M1) Q:=fin
  cases q:ga στ S.M with
  | bad=>rw [q] at fin;exact fin
  | exn C fs M'=>rw [q] at fin;exact fin
  | ok xs M1=>
   rw [q] at fin
   intro S1 p vs e1 s1 hn hp hv r
   exact fin (S1.show S.hid) (.ref p) e1 s1.show (zgR s1 hn m hp hv r)⟩⟩
theorem zad (h:WL X XE e ga):WE X XE e (eTk ga):=by
 have h:=h.pe
 exact ⟨PE.imp h fun σ H Q ⟨S,στ,_,e,m,ev,_,fin⟩=>⟨S,στ,e,m,ev,by
  show FinL XE X.K S (ga στ S.M) Q
  replace fin:Fin XE (Rep X.K) X.K S ((ga στ S.M).bind fun xs M1=>.ok (.ref M1.length) (M1 ++ [.lst xs])) Q:=fin
  cases q:ga στ S.M with
  | bad=>rw [q] at fin;exact fin
  | exn C fs M'=>rw [q] at fin;exact fin
  | ok xs M1=>
   rw [q] at fin
   intro S1 p vs e1 s1 hn hp hv r
   refine fin (S1.track p xs S.hid) (.ref p) (by show S1.M ++ _ = _;rw [e1]) (s1.track m hn hp hv r) ?_
   have this:(S1.track p xs S.hid).α S1.M.length = p:=QA rfl
   rw [← e1]
   have hl:S1.M.length < (S1.track p xs S.hid).M.length:=by show _ < (S1.M ++ [Cell.lst xs]).length;simp
   have r2:Rep X.K (S1.track p xs S.hid) (.ref S1.M.length) (.ref ((S1.track p xs S.hid).α S1.M.length)):=.ref hl
   rw [this] at r2
   exact r2⟩⟩
theorem zgY {op':CmpOp} {o':T->T->Mem->Out T} (ho:OpR X (compareOp op) (lR2 XE X.K o)) (ho':OpR X (compareOp op') (lR2 XE X.K o')) (ha:WE X XE a f) (hb:WE X XE b g) (hc:WE X XE c h) (hm:lastMarks [op,op'] [b,c] = false:=by with_unfolding_all rfl):WE X XE (.Compare a [op,op'] [b,c] pos) (zeN o o' f g h):=by
 have ha:=ha.pe
 have hb:=hb.pe
 have hc:=hc.pe
 exact ⟨PE.imp (zmc ho ho' ha hb hc hm) fun _ _ _ hh=>chain hh⟩
end
variable {iter tg:Expr} {sts:List Stmt} {pos':Pos} {bd:T->Ev->Mem->Out Ev}
section
variable {a b c:Expr} {pos:Pos} {rest:List Stmt} {p q r:Ev->Mem->Out Fl}
theorem qu :WSs X XE [] qE:=⟨PSs.imp znn fun D σ H h9=>by
 obtain ⟨S,στ,_,e,m,ev,_,fin⟩:=h9
 show D.nx σ H
 rw [← e];exact fin S (.nx σ) rfl (.refl m) (.nx ev)⟩
theorem yd (h1:WS X XE st p) (h2:WSs X XE rest q):WSs X XE (st :: rest) (zh p q):=by
 have h1:=h1.pe
 have h2:=h2.pe
 exact ⟨PSs.imp (zl8 h1 h2) fun _ _ _ hh=>zpH hh⟩
theorem ye (h1:WS X XE st p):WSs X XE [st] p:=by
 have h1:=h1.pe
 exact ⟨zjw h1⟩
theorem zo (he:WE X XE e f):WS X XE (.Return (some e) pos) (yy f):=by
 have he:=he.pe
 exact ⟨PS.imp (zo3 he) fun D σ H hh=>
  LN.mono (LN.bind (f:=fun _ σ M=>f σ M) (k:=fun _ t σ M1=>.ok (Fl.rt t) M1) (RB:=Rep X.K) hh) fun v H1 h9=>by
   obtain ⟨S,στ,a,e,m,ev,ra,fin⟩:=h9
   rw [← e];exact fin S (.rt v) rfl (.refl m) (.rt ra.2)⟩
theorem zx (he:WE X XE e f) (hs:swapsWith e none pos.line X.env = pure false:=by rfl):WS X XE (.Expr e pos) (yJ f):=by
 have he:=he.pe
 exact ⟨PS.imp (zno he hs) fun D σ H hh=>
  LN.mono (LN.bind (f:=fun _ σ M=>f σ M) (k:=fun _ t σ M1=>.ok (Fl.nx σ) M1) (RB:=Rep X.K) hh) fun v H1 h9=>by
   obtain ⟨S,στ,a,e,m,ev,ra,fin⟩:=h9
   show D.nx σ H1
   rw [← e];exact fin S (.nx σ) rfl (.refl m) (.nx ev)⟩
theorem yw (hc:WT X XE c tf) (ha:WSs X XE sts p) (hb:WSs X XE rest q):WS X XE (.If c sts rest pos) (sIf tf p q):=by
 have hc:=hc.pe
 have ha:=ha.pe
 have hb:=hb.pe
 exact ⟨PS.imp (zq9 hc ha hb) fun D σ H hh=>
  LN.mono (LN.bind (f:=fun _ σ M=>tf σ M) (k:=fun _ c σ M1=>if c = true then p σ M1 else q σ M1) (RB:=EqR) hh) fun c H1 h2=>by
   obtain ⟨S,στ,a,e,m,ev,ra,fin⟩:=h2
   have:a.2 = c:=ra.2
   subst this
   replace fin:Fin XE (FlR X.K) X.K S (if a.2 = true then p στ S.M else q στ S.M) (qW D):=fin
   cases q:a.2 with
   | true=>exact (QA rfl).mpr ⟨S,στ,(),e,m,ev,trivial,by rw [q] at fin;exact fin⟩
   | false=>exact (QB Q4).mpr ⟨S,στ,(),e,m,ev,trivial,by rw [q] at fin;exact fin⟩⟩
theorem zj (hN:X.N.Nodup) (hi:X.N[i]? = some x) (hx:Loc X.env.scope x) (he:WE X XE e f) (hs:swapsWith e (some (.Name x pos')) pos.line X.env = pure false:=by rfl) (hf:X.fn x = true\/X.env.scope.names.lookup x = some .local:=by first | exact .inl rfl | exact .inr rfl | assumption):WS X XE (.Assign [.Name x pos'] e pos) (qr i f):=by
 have he:=he.pe
 exact ⟨PS.imp (zo2 hN hi hx he hs hf) fun D σ H hh=>
  LN.mono (LN.bind (f:=fun _ σ M=>f σ M) (k:=fun _ t σ M1=>.ok (Fl.nx (σ.set i (some t))) M1) (RB:=Rep X.K) hh) fun v H1 h9=>by
   obtain ⟨S,στ,a,e,m,ev,ra,fin⟩:=h9
   show D.nx (σ.set i (some v)) H1
   rw [← e];exact fin S (.nx _) rfl (.refl m) (.nx (ev.set ra.2 i))⟩
theorem qo (h:PG X tg (zhu i)):WG X XE tg (yn i):=⟨PG.imp h fun v σ H Q h9=>by
 obtain ⟨S,στ,t,e,m,ev,ra,fin⟩:=h9
 show Q (σ.set i (some v)) H
 rw [← e];exact fin S _ rfl (.refl m) (ev.set ra i)⟩
theorem zb3 :WGs X XE [] zen:=⟨PGs.imp znt fun v σ H Q h9=>by
 obtain ⟨S,στ,t,e,m,ev,ra,fin⟩:=h9
 cases t with
 | nil=>exact ⟨ra.nilT,by rw [← e];exact fin S _ rfl (.refl m) ev⟩
 | cons t r=>exact fin.elim⟩
theorem qF {bs:List T->Ev->Mem->Out Ev} (h:PGs X (e :: es) (zkr (lG XE X.K bd) (lGs XE X.K bs))):WGs X XE (e :: es) (zX bd bs):=⟨PGs.imp h fun v σ H Q h9=>by
 obtain ⟨S,στ,t,e,m,ev,ra,fin⟩:=h9
 cases t with
 | nil=>exact fin.elim
 | cons t r=>
  obtain ⟨v1,vs,rfl,r1,r2⟩:=ra.consT
  refine ⟨v1,vs,rfl,?_⟩
  replace fin:Fin XE (EvR X.K) X.K S ((bd t στ S.M).bind fun σ1 M1=>bs r σ1 M1) Q:=fin
  refine ⟨S,στ,t,e,m,ev,r1,?_⟩
  show Fin XE (EvR X.K) X.K S (bd t στ S.M) _
  cases o:bd t στ S.M with
  | bad=>rw [o] at fin;exact fin
  | exn C fs M'=>rw [o] at fin;exact fin
  | ok σ1 M1=>
   rw [o] at fin
   intro S1 cc e1 s1 ev1
   exact ⟨S1,σ1,r,rfl,s1.mok,ev1,r2.grow m s1.toGrow,by rw [e1];exact Fin.later s1 fin⟩⟩
theorem zcQ {bs:List T->Ev->Mem->Out Ev} (h:PG X tg (zmD X.K n (lGs XE X.K bs))):WG X XE tg (zem n bs):=⟨PG.imp h fun v σ H Q h9=>by
 obtain ⟨S,στ,t,e,m,ev,ra,fin⟩:=h9
 cases ra with
 | @tup ts p vs h l r=>
  replace fin:Fin XE (EvR X.K) X.K S (if ts.length = n then bs ts στ S.M else .bad) Q:=fin
  by_cases hn:ts.length = n
  ·rw [QA hn] at fin
   exact ⟨p,vs,rfl,by rw [← e];exact h,by rw [← l];exact hn,S,στ,ts,e,m,ev,⟨l,r⟩,fin⟩
  ·rw [QB hn] at fin;exact fin.elim
 | _=>exact fin.elim⟩
theorem zbA (he:WE X XE e f) (hg:WG X XE tg bd) (hs:swapsWithSole [tg] e pos.line X.env = pure false:=by rfl) (hw:swappedStores [tg] e X.env = pure none:=by rfl) (h1:(assignEach [tg] X.env).map (·.2) = [assign tg X.env]:=by rfl):WS X XE (.Assign [tg] e pos) (zcD f bd):=by
 have he:=he.pe
 have hg:=hg.pe
 exact ⟨PS.imp (zo5 he hg hs hw h1) fun D σ H hh=>
  LN.mono (LN.bind (f:=fun _ σ M=>f σ M) (k:=fun _ t σ M1=>(bd t σ M1).bind fun σ1 M2=>.ok (Fl.nx σ1) M2) (RB:=Rep X.K) hh) fun v H1 ⟨S,στ,a,e,m,ev,ra,fin⟩=>
   zrm ⟨S,στ,a.2,e,m,ev,ra.2,fin⟩⟩
theorem zbz (hp:PassesOwn (model X.prog X.w) X.A X.env X.xe) (hc:X.calm = true) (hi:WI X XE tg iter ga) (hg:WG X XE tg bd) (hb:WSs X XE sts p) (hs:∀ x,foldedSetIterable iter X.env x = pure x:=by intro _;rfl):WS X XE (.For tg iter sts [] pos) (zc5 ga bd p):=by
 have hi:=hi.pe
 have hg:=hg.pe
 have hb:=hb.pe
 exact ⟨PS.imp (zkP hp hc hi hg hb hs) fun D σ H hh=>by
  refine LN.mono (LN.bind (f:=fun _ σ M=>ga σ M) (k:=fun _ xs σ M1=>forL bd p xs σ M1) (RB:=zdB X.K) hh) fun J H1 h1=>?_
  obtain ⟨S,στ,a,e,m,ev,ra,fin⟩:=h1
  refine ⟨fun i n σ H=>∃ S στ,S.H = H/\MemOk X.K S/\EvR X.K S στ σ/\zdB X.K S a.2 J/\n = a.2.length - i/\i<=a.2.length/\Fin XE (FlR X.K) X.K S (forL bd p (a.2.drop i) στ S.M) (qW D),⟨_,S,στ,e,m,ev,ra.2,rfl,Nat.zero_le _,fin⟩,?_⟩
  rintro i n σ1 H2 ⟨S1,στ1,e1,m1,ev1,it1,en,hi1,fin1⟩
  subst e1
  obtain ⟨it2,it3⟩:=it1 S1 (.refl m1)
  by_cases hl:i < a.2.length
  ·have eq:a.2.drop i = a.2[i] :: a.2.drop (i + 1):=List.drop_eq_getElem_cons hl
   rw [eq] at fin1
   obtain ⟨go,yl⟩:=it2 i a.2[i] (by simp [hl])
   refine .inr ⟨go,fun σ' H'=>∃ S στ,S.H = H'/\MemOk X.K S/\EvR X.K S στ σ'/\zdB X.K S a.2 J/\Fin XE (FlR X.K) X.K S (forL bd p (a.2.drop (i + 1)) στ S.M) (qW D),?_,fun x H' hy=>?_⟩
   ·rintro σ' H' ⟨S2,στ2,e2,m2,ev2,it4,fin2⟩
    exact ⟨a.2.length - (i + 1),by omega,S2,στ2,e2,m2,ev2,it4,rfl,hl,fin2⟩
   ·obtain ⟨S2,e2,eM,s2,r2⟩:=yl x H' hy
    replace fin1:Fin XE (FlR X.K) X.K S1 ((bd a.2[i] στ1 S1.M).bind fun σ1 M1=>(p σ1 M1).bind (y8 (forL bd p (a.2.drop (i + 1))))) (qW D):=fin1
    refine ⟨S2,στ1,a.2[i],e2,s2.mok,Mo.mo m1 s2 ev1,r2,?_⟩
    rw [eM]
    cases o:bd a.2[i] στ1 S1.M with
    | bad=>rw [o] at fin1;exact fin1
    | exn C fs M'=>rw [o] at fin1;exact Fin.later s2 fin1
    | ok σ3 M3=>
     rw [o] at fin1
     intro S3 σ3v e3 s3 ev3
     have s13:=s2.trans s3
     refine ⟨S3,σ3,(),rfl,s3.mok,ev3,trivial,?_⟩
     show Fin XE (FlR X.K) X.K S3 (p σ3 S3.M) _
     rw [e3]
     replace fin1:Fin XE (FlR X.K) X.K S1 ((p σ3 M3).bind (y8 (forL bd p (a.2.drop (i + 1))))) (qW D):=fin1
     cases o2:p σ3 M3 with
     | bad=>rw [o2] at fin1;exact fin1
     | exn C fs M'=>rw [o2] at fin1;exact Fin.later s13 fin1
     | ok fl M4=>
      rw [o2] at fin1
      intro S4 fv e4 s4 r4
      have s14:=s13.trans s4
      cases r4 with
      | nx r4=>exact ⟨S4,_,rfl,s4.mok,r4,Mo.mo m1 s14 it1,by rw [e4];exact Fin.later s14 fin1⟩
      | ct r4=>exact ⟨S4,_,rfl,s4.mok,r4,Mo.mo m1 s14 it1,by rw [e4];exact Fin.later s14 fin1⟩
      | bk r4=>exact fin1 S4 (.nx _) e4 s14 (.nx r4)
      | rt r4=>exact fin1 S4 (.rt _) e4 s14 (.rt r4)
  ·rw [List.drop_eq_nil_of_le (by omega)] at fin1
   refine .inl ⟨it3 i (by omega),?_⟩
   exact fin1 S1 (.nx σ1) rfl (.refl m1) (.nx ev1)⟩
end
variable {F:List T->Mem->Out T}
section
variable {p pos:Pos}
theorem yg (C:CalT X.prog X.w X.K X.mg X.base k x ps F) (hr:Room k X.A) (hg:Gl X x) (ha:WA X XE (e :: es) ga) (hdb:(x == ("__debug__":Str)) = false:=by decide) (he:noStar e = true:=by rfl) (hpl:es.all noStar = true:=by rfl):WE X XE (.Call (.Name x p) (e :: es) [] pos) (ze F ga):=by
 have ha:=ha.pe
 exact ⟨PE.imp (zpg C.cal hr hg ha hdb (zbB he) (zdS hpl)) fun σ H Q hh=>
  LN.mono (LN.bind (f:=fun _ σ M=>ga σ M) (k:=fun _ ts σ M1=>F ts M1) (RB:=Reps X.K) hh) fun vs H1 h9=>by
   obtain ⟨S,στ,a,e,m,ev,ra,fin⟩:=h9
   rw [append_nil]
   refine ⟨S,a.2,e,m,ra.2,?_⟩
   show Fin E0 (Rep X.K) X.K S (F a.2 S.M) Q
   replace fin:Fin XE (Rep X.K) X.K S (F a.2 S.M) Q:=fin
   cases o:F a.2 S.M with
   | bad=>rw [o] at fin;exact fin
   | exn C' fs M'=>exact absurd o (C.nox _ _ _ _ _)
   | ok t M1=>rw [o] at fin;exact fin⟩
theorem qi {id:String} (hc:CallR X (.builtin id) (lRN XE X.K F)) (hg:Gl X x) (hm:X.mg x = none) (hv:bootBuiltins x = some (.builtin id)) (ha:WA X XE (e :: es) ga) (hn:x ≠ "__name__":=by decide) (hdb:(x == ("__debug__":Str)) = false:=by decide) (he:noStar e = true:=by rfl) (hpl:es.all noStar = true:=by rfl):WE X XE (.Call (.Name x p) (e :: es) [] pos) (ze F ga):=by
 have ha:=ha.pe
 exact ⟨PE.imp (zmd hc hg hm hv ha hn hdb (zbB he) (zdS hpl)) fun σ H Q hh=>
  LN.mono (LN.bind (f:=fun _ σ M=>ga σ M) (k:=fun _ ts σ M1=>F ts M1) (RB:=Reps X.K) hh) fun vs H1 ⟨S,στ,a,e,m,ev,ra,fin⟩=>⟨S,a.2,e,m,ra.2,fin⟩⟩
theorem zbG {id:String} (hc:CallR X (.type id) (lRN XE X.K F)) (hg:Gl X x) (hm:X.mg x = none) (hv:bootBuiltins x = some (.type id)) (ha:WA X XE (e :: es) ga) (hn:x ≠ "__name__":=by decide) (hdb:(x == ("__debug__":Str)) = false:=by decide) (he:noStar e = true:=by rfl) (hpl:es.all noStar = true:=by rfl):WE X XE (.Call (.Name x p) (e :: es) [] pos) (ze F ga):=by
 have ha:=ha.pe
 exact ⟨PE.imp (zkX hc hg hm hv ha hn hdb (zbB he) (zdS hpl)) fun σ H Q hh=>
  LN.mono (LN.bind (f:=fun _ σ M=>ga σ M) (k:=fun _ ts σ M1=>F ts M1) (RB:=Reps X.K) hh) fun vs H1 ⟨S,στ,a,e,m,ev,ra,fin⟩=>⟨S,a.2,e,m,ra.2,fin⟩⟩
end
section
variable {a b c:Expr} {pos p:Pos}
theorem zb2 (he:WE X XE e f):WI X XE tg e (zb9 f):=⟨zqb he.pe⟩
theorem zR (hg:Gl X "range") (hm:X.mg "range" = none) (ha:WA X XE [a] ga) (hs:starEach [a] X.env = [(false,eval a X.env)]:=by rfl):WI X XE tg (.Call (.Name "range" p) [a] [] pos) (zQ ga):=by
 have ha:=ha.pe
 exact ⟨PI.imp (zkU hg hm ha hs) fun σ H R hh=>
  LN.mono (LN.bind (f:=fun _ σ M=>ga σ M) (k:=fun _ ts σ M1=>zd3 ts M1) (RB:=Reps X.K) hh) fun vs H1 h9=>by
   obtain ⟨S,στ,a,e,m,ev,ra,fin⟩:=h9
   obtain ⟨u,ts⟩:=a
   have rr:Reps X.K S ts vs:=ra.2
   replace fin:Fin XE (zdB X.K) X.K S (zd3 ts S.M) R:=fin
   unfold zd3 at fin
   split at fin
   ·rename_i j
    obtain ⟨v,vs',rfl,r1,r2⟩:=rr.consT
    cases r1
    rw [r2.nilT]
    split at fin
    ·rename_i hj
     exact ⟨j,rfl,hj.1,hj.2,by rw [← e];exact fin S _ rfl (.refl m) (zin _ _ _ _)⟩
    ·exact fin.elim
   ·exact fin.elim⟩
theorem zj2 (hg:Gl X "range") (hm:X.mg "range" = none) (ha:WA X XE [a,b] ga) (hs:starEach [a,b] X.env = [(false,eval a X.env),(false,eval b X.env)]:=by rfl) (hs2:starEach [b] X.env = [(false,eval b X.env)]:=by rfl):WI X XE tg (.Call (.Name "range" p) [a,b] [] pos) (zgQ ga):=by
 have ha:=ha.pe
 exact ⟨PI.imp (zkT hg hm ha hs hs2) fun σ H R hh=>
  LN.mono (LN.bind (f:=fun _ σ M=>ga σ M) (k:=fun _ ts σ M1=>zfw ts M1) (RB:=Reps X.K) hh) fun vs H1 h9=>by
   obtain ⟨S,στ,a,e,m,ev,ra,fin⟩:=h9
   obtain ⟨u,ts⟩:=a
   have rr:Reps X.K S ts vs:=ra.2
   replace fin:Fin XE (zdB X.K) X.K S (zfw ts S.M) R:=fin
   unfold zfw at fin
   split at fin
   ·rename_i i j
    obtain ⟨v,vs',rfl,r1,r2⟩:=rr.consT
    obtain ⟨v2,vs2,rfl,r3,r4⟩:=r2.consT
    cases r1
    cases r3
    rw [r4.nilT]
    split at fin
    ·rename_i hj
     exact ⟨i,j,rfl,⟨hj.1.1,hj.1.2,hj.2.1,hj.2.2⟩,by rw [← e];exact fin S _ rfl (.refl m) (zin _ _ _ _)⟩
    ·exact fin.elim
   ·exact fin.elim⟩
end
variable {cond:Ev->Mem->Out Bool} {elt:Expr} {cl:List (Str × Addr)} {caps:List (Str × Nat)} {ifs:List Expr} {tgs:List Str} {i0:Nat} {spos:Pos} {scope:Scope} {y0:Str}
section
theorem zaR {pos:Pos} (hi:WI X XE tg iter ga) (cb:CB X scope cl caps) (hg:∀ ex s0 H0,WG (X.block scope cl (tgs ++ caps.map (·.1)) ex s0 H0) XE tg bd) (hif:∀ ex s0 H0,PTs (X.block scope cl (tgs ++ caps.map (·.1)) ex s0 H0) ifs (lT XE X.K cond)) (hel:∀ ex s0 H0,WE (X.block scope cl (tgs ++ caps.map (·.1)) ex s0 H0) XE elt f) (hs:∀ x,foldedSetIterable iter X.env x = pure x:=by intro _;rfl):WL X XE (.ListComp elt [⟨tg,iter,ifs,0⟩] scope pos) (qN ga bd cond f tgs caps):=by
 have hi:=hi.pe
 have hg:=fun ex s0 H0=>(hg ex s0 H0).pe
 have hel:=fun ex s0 H0=>(hel ex s0 H0).pe
 exact ⟨PE.imp (zjy (tgs:=tgs) (g:=lG XE X.K bd) (tc:=lT XE X.K cond) (te:=lE XE X.K f) cb.hc hi cb.hclos cb.hcell cb.hkind cb.hnames cb.hcl cb.hhas cb.hcap hg hif hel hs) fun σ H Q hh=>ziO hh⟩
theorem zet {py:Pos} {pos:Pos} (hi:WI X XE tg iter ga) (cb:CB X scope cl caps) (hg:∀ ex s0 H0,WG (X.block scope cl (tgs ++ caps.map (·.1)) ex s0 H0) XE tg bd) (hif:∀ ex s0 H0,PTs (X.block scope cl (tgs ++ caps.map (·.1)) ex s0 H0) ifs (lT XE X.K cond)) (hel:∀ ex s0 H0,WE (X.block scope cl (tgs ++ caps.map (·.1)) ex s0 H0) XE elt f) (hN0:X.N.Nodup) (hi0:X.N[i0]? = some y0) (hx0:Loc X.env.scope y0) (hsw:swapsWith (.ListComp elt [⟨tg,iter,ifs,0⟩] scope pos) (some (.Name y0 py)) spos.line X.env = pure true:=by rfl) (hf0:X.fn y0 = true\/X.env.scope.names.lookup y0 = some .local:=by first | exact .inl rfl | exact .inr rfl | assumption) (hs:∀ x,foldedSetIterable iter X.env x = pure x:=by intro _;rfl):WS X XE (.Assign [.Name y0 py] (.ListComp elt [⟨tg,iter,ifs,0⟩] scope pos) spos) (qr i0 (eFz (qN ga bd cond f tgs caps))):=by
 have hi:=hi.pe
 have hg:=fun ex s0 H0=>(hg ex s0 H0).pe
 have hel:=fun ex s0 H0=>(hel ex s0 H0).pe
 exact ⟨PS.imp (zf0 (tgs:=tgs) (g:=lG XE X.K bd) (tc:=lT XE X.K cond) (te:=lE XE X.K f) cb.hc hi cb.hclos cb.hcell cb.hkind cb.hnames cb.hcl cb.hhas cb.hcap hg hif hel hN0 hi0 hx0 hsw hf0 hs) fun D σ H ⟨S,στ,_,e,m,ev,_,fin⟩=>ziO ⟨S,στ,e,m,ev,by
  show FinL XE X.K S (qN ga bd cond f tgs caps στ S.M) _
  replace fin:Fin XE (FlR X.K) X.K S (((qN ga bd cond f tgs caps στ S.M).bind fun xs M1=>.ok (T.lst xs) M1).bind fun t M1=>.ok (.nx (στ.set i0 (some t))) M1) (qW D):=fin
  cases q:qN ga bd cond f tgs caps στ S.M with
  | bad=>rw [q] at fin;exact fin
  | exn C fs M'=>rw [q] at fin;exact fin
  | ok xs M1=>
   rw [q] at fin
   intro S1 p vs e1 s1 hn hp hv r
   exact fin (S1.show S.hid) (.nx (σ.set i0 (some (.ref p)))) e1 s1.show (.nx ((Mo.mo (K:=X.K) m s1.show ev).set (zgR s1 hn m hp hv r) i0))⟩⟩
theorem zaq :PTs X [] (lT XE X.K qM):=zn4 
theorem zcY {c:Expr} (h:WT X XE c tf):PTs X [c] (lT XE X.K tf):=zn3 h.pe
end
section
variable {a b:Expr} {pos p:Pos}
theorem zkC {op:Operator} {o:T->T->Mem->Out (List T)} (ho:OpR X (binaryOp op) (zkn XE X.K o)) (ha:WE X XE a f) (hb:WE X XE b g):WL X XE (.BinOp a op b pos) (lOp o f g):=by
 have ha:=ha.pe
 have hb:=hb.pe
 exact ⟨PE.imp (zmW ho ha hb) fun σ H Q ⟨S,στ,e,m,ev,fin⟩=>
  LN.mono (LNL.bind (f:=fun (_:Unit) σ M=>f σ M) (k:=fun _ x σ M1=>(g σ M1).bind fun y M2=>o x y M2) (RA:=UnR) (RB:=Rep X.K) ⟨S,στ,(),e,m,ev,trivial,fin⟩) fun v H1 h1=>
   LN.mono (LN.env (f:=g) (LNL.bind (f:=fun _ σ M=>g σ M) (k:=fun (ax:Unit × T) y σ M2=>o ax.2 y M2) (RB:=Rep X.K) h1)) fun w H2 h2=>by
    obtain ⟨S,στ,a,e,m,ev,ra,fin⟩:=h2
    exact ⟨S,(a.1.2,a.2),e,m,⟨ra.1.2,ra.2⟩,fin⟩⟩
end
section
theorem zjj {o i:Expr} {pos:Pos} {st:T->T->T->Mem->Out Unit} (ho:WE X XE o f) (hi:WE X XE i g) (hs:zeo X (zij XE X.K st)) (ha:∀ v,assign (.Subscript o i pos) X.env v = (do
 let ov ← holding [v] (eval o X.env)
 let iv ← holding [v,ov] (eval i X.env)
 standAt pos
 holding [v,ov,iv] (setItem ov iv v)
 release [v,ov,iv] []):=by intro _;rfl):WG X XE (.Subscript o i pos) (zkz st f g):=by
 have ho:=ho.pe
 have hi:=hi.pe
 exact ⟨PG.imp (zkV ho hi hs ha) fun v σ H Q hh=>by
  have h1:LN XE (EvR X.K) X.K (Rep X.K) (fun t σ M=>(f σ M).bind fun o M1=>(g σ M1).bind fun i M2=>(st o i t M2).bind fun _ M3=>.ok σ M3) v σ H Q:=hh
  refine LN.mono (LN.env (f:=f) (LN.bind (f:=fun _ σ M=>f σ M) (k:=fun t o σ M1=>(g σ M1).bind fun i M2=>(st o i t M2).bind fun _ M3=>.ok σ M3) (RB:=Rep X.K) h1)) fun ov H1 h2=>?_
  refine LN.mono (LN.env (f:=g) (LN.bind (f:=fun _ σ M=>g σ M) (k:=fun (to:T × T) i σ M2=>(st to.2 i to.1 M2).bind fun _ M3=>.ok σ M3) (RB:=Rep X.K) h2)) fun iv H2 h3=>?_
  obtain ⟨S,στ,a,e,m,ev,ra,fin⟩:=h3
  refine ⟨S,((a.1.2,a.2),a.1.1),e,m,⟨⟨ra.1.2,ra.2⟩,ra.1.1⟩,?_⟩
  show Fin XE UnR X.K S (st a.1.2 a.2 a.1.1 S.M) _
  replace fin:Fin XE (EvR X.K) X.K S ((st a.1.2 a.2 a.1.1 S.M).bind fun _ M3=>.ok στ M3) Q:=fin
  cases o:st a.1.2 a.2 a.1.1 S.M with
  | bad=>rw [o] at fin;exact fin
  | exn C fs M'=>rw [o] at fin;exact fin
  | ok b M1=>
   rw [o] at fin
   intro S1 c e1 s1 _
   exact fin S1 σ e1 s1 (Mo.mo m s1 ev)⟩
theorem zac {o:Expr} {apos:Pos} (h:PE X (.Call (.Attribute o "append" apos) [e] [] cpos) (tBM X.K "list" zgB (lE XE X.K f) (lA XE X.K ga))):WE X XE (.Call (.Attribute o "append" apos) [e] [] cpos) (zaP z9 (eUn yL f) ga):=⟨PE.imp h fun σ H Q hh=>by
 obtain ⟨S,στ,_,e0,m,ev,_,fin⟩:=hh
 replace fin:Fin XE (Rep X.K) X.K S (((f στ S.M).bind fun x M1=>yL x M1).bind fun x M1=>(ga στ M1).bind fun ts M2=>z9 x ts M2) Q:=fin
 refine ⟨S,στ,(),e0,m,ev,trivial,?_⟩
 show Fin XE (Rep X.K) X.K S (f στ S.M) _
 cases o1:f στ S.M with
 | bad=>rw [o1] at fin;exact fin
 | exn C fs M'=>rw [o1] at fin;exact fin
 | ok x M1=>
  rw [o1] at fin
  intro S1 v e1 s1 r1
  replace fin:Fin XE (Rep X.K) X.K S ((yL x M1).bind fun x M1=>(ga στ M1).bind fun ts M2=>z9 x ts M2) Q:=fin
  unfold yL at fin
  cases q:qv x M1 with
  | none=>rw [q] at fin;exact fin.elim
  | some xs=>
   rw [q] at fin
   replace fin:Fin XE (Rep X.K) X.K S ((ga στ M1).bind fun ts M2=>z9 x ts M2) Q:=fin
   obtain ⟨p,vs,rfl,hq,_⟩:=qA s1.mok r1 (by rw [e1];exact q)
   refine ⟨.inl ⟨rfl,vs,hq⟩,S1,στ,(),rfl,s1.mok,Mo.mo m s1 ev,trivial,?_⟩
   show Fin XE (Reps X.K) X.K S1 (ga στ S1.M) _
   rw [e1]
   cases o2:ga στ M1 with
   | bad=>rw [o2] at fin;exact fin
   | exn C fs M'=>rw [o2] at fin;exact Fin.later s1 fin
   | ok ts M2=>
    rw [o2] at fin
    intro S2 ws e2 s2 r2
    replace fin:Fin XE (Rep X.K) X.K S (z9 x ts M2) Q:=fin
    have fin2:=Fin.later (s1.trans s2) fin
    unfold z9 at fin2
    split at fin2
    ·split at fin2
     ·rename_i a t _ ys qy
      split at fin2
      ·rename_i hz
       obtain ⟨w,ws',rfl,r3,r4⟩:=r2.consT
       rw [r4.nilT]
       have r1':=r1.grow s1.mok s2.toGrow
       cases r1' with
       | ref ha2=>
       obtain ⟨us,q3,rs⟩:=s2.mok.cell a _ (by rw [e2];exact qy)
       refine ⟨S2.α a,us,w,rfl,rfl,q3,by rw [← rs.1];exact hz,?_⟩
       exact fin2 (S2.put a (.lst (us ++ [w])) (.lst (ys ++ [t]))) .non (by show S2.M.set a _ = _;rw [e2]) (zeV s2.mok (by rw [e2];exact qy) (rs.app (.cons r3 .nil))) .non
      ·exact fin2.elim
     ·exact fin2.elim
    ·exact fin2.elim⟩
end
section
theorem zbv :WO X XE none zcm:=⟨PO.imp zns fun σ H Q h9=>by
 obtain ⟨S,στ,_,e,m,ev,_,fin⟩:=h9
 show Q none H
 rw [← e];exact fin S none rfl (.refl m) rfl⟩
theorem zaQ (h:WE X XE e f):WO X XE (some e) (zbO f):=by
 have h:=h.pe
 exact ⟨PO.imp (znr h) fun σ H Q hh=>
  LN.mono (LN.bind (f:=fun _ σ M=>f σ M) (k:=fun _ x σ M1=>zmq x M1) (RB:=Rep X.K) hh) fun v H1 h9=>by
   obtain ⟨S,στ,a,e,m,ev,ra,fin⟩:=h9
   obtain ⟨u,t⟩:=a
   have r:Rep X.K S t v:=ra.2
   replace fin:Fin XE EqR X.K S (zmq t S.M) Q:=fin
   cases r with
   | int i=>exact ⟨i,rfl,by rw [← e];exact fin S (some i) rfl (.refl m) rfl⟩
   | _=>exact fin.elim⟩
theorem zfO {lo hi:Option Expr} {q:Ev->Mem->Out (Option Int)} {pos:Pos} (he:WE X XE e f) (hl:WO X XE lo p) (hu:WO X XE hi q):WE X XE (.Subscript e (.Slice lo hi none p2) pos) (eSl f p q):=by
 have he:=he.pe
 have hl:=hl.pe
 have hu:=hu.pe
 exact ⟨PE.imp (zfx zoN he hl hu) fun σ H Q hh=>
  LN.mono (LN.bind (f:=fun _ σ M=>f σ M) (k:=fun _ x σ M1=>(p σ M1).bind fun lo M2=>(q σ M2).bind fun hi M3=>zfG x lo hi M3) (RB:=Rep X.K) hh) fun v H1 h1=>
   LN.mono (LN.env (f:=p) (LN.bind (f:=fun _ σ M=>p σ M) (k:=fun (ax:Unit × T) lo σ M2=>(q σ M2).bind fun hi M3=>zfG ax.2 lo hi M3) (RB:=EqR) h1)) fun l H2 h2=>
    LN.mono (LN.env (f:=q) (LN.bind (f:=fun _ σ M=>q σ M) (k:=fun (ax:(Unit × T) × Option Int) hi σ M3=>zfG ax.1.2 ax.2 hi M3) (RB:=EqR) h2)) fun w H3 h9=>by
     obtain ⟨S,στ,a,e,m,ev,ra,fin⟩:=h9
     have e1:a.1.2 = l:=ra.1.2
     have e2:a.2 = w:=ra.2
     exact ⟨S,a.1.1.2,e,m,ra.1.1.2,by rw [← e1,← e2];exact fin⟩⟩
end
section
theorem zlR {o i:Expr} {get op:T->T->Mem->Out T} {st:T->T->T->Mem->Out Unit} {bop:Operator} {pos:Pos} (ho:WE X XE o f) (hi:WE X XE i g) (hg:zi2 X (lR2 XE X.K get)) (he:WE X XE e h) (hp:PIp X bop (lR2 XE X.K op)) (hs:zeo X (zij XE X.K st)) (ha:∀ ov iv new,augStore i ov iv new = (do holding [new,ov,iv] (setItem ov iv new);release [new,ov,iv] [];pure .next):=by intros;rfl):WS X XE (.AugAssign (.Subscript o i tpos) bop e pos) (zhs get op st f g h):=by
 have ho:=ho.pe
 have hi:=hi.pe
 have he:=he.pe
 exact ⟨PS.imp (znp ho hi hg he hp hs ha) fun D σ H hh=>by
  refine LN.mono (LN.bind (f:=fun _ σ M=>f σ M) (k:=fun _ o σ M1=>(g σ M1).bind fun i M2=>(get o i M2).bind fun x M3=>(h σ M3).bind fun y M4=>(op x y M4).bind fun z M5=>(st o i z M5).bind fun _ M6=>.ok (Fl.nx σ) M6) (RB:=Rep X.K) hh) fun ov H1 h1=>?_
  refine LN.mono (LN.env (f:=g) (LN.bind (f:=fun _ σ M=>g σ M) (k:=fun (a:Unit × T) i σ M2=>(get a.2 i M2).bind fun x M3=>(h σ M3).bind fun y M4=>(op x y M4).bind fun z M5=>(st a.2 i z M5).bind fun _ M6=>.ok (Fl.nx σ) M6) (RB:=Rep X.K) h1)) fun iv H2 h2=>?_
  have h3:=LN.bind (f:=fun (a:(Unit × T) × T) _ M=>get a.1.2 a.2 M) (k:=fun a x σ M3=>(h σ M3).bind fun y M4=>(op x y M4).bind fun z M5=>(st a.1.2 a.2 z M5).bind fun _ M6=>.ok (Fl.nx σ) M6) (RB:=Rep X.K) h2
  obtain ⟨S,a,e,m,ra,fin⟩:=LN.l0 (k:=fun (a:(Unit × T) × T) M=>get a.1.2 a.2 M) h3
  refine ⟨S,(a.1.2,a.2),e,m,⟨ra.1.2,ra.2⟩,fin.mono fun xv H3 h4=>?_⟩
  refine LN.mono (LN.env (f:=h) (LN.bind (f:=fun _ σ M=>h σ M) (k:=fun (a:((Unit × T) × T) × T) y σ M4=>(op a.2 y M4).bind fun z M5=>(st a.1.1.2 a.1.2 z M5).bind fun _ M6=>.ok (Fl.nx σ) M6) (RB:=Rep X.K) h4)) fun yv H4 h5=>?_
  have h6:=LN.bind (f:=fun (a:(((Unit × T) × T) × T) × T) _ M=>op a.1.2 a.2 M) (k:=fun a z σ M5=>(st a.1.1.1.2 a.1.1.2 z M5).bind fun _ M6=>.ok (Fl.nx σ) M6) (RB:=Rep X.K) h5
  obtain ⟨S5,a5,e5,m5,ra5,fin5⟩:=LN.l0 (k:=fun (a:(((Unit × T) × T) × T) × T) M=>op a.1.2 a.2 M) h6
  refine ⟨S5,(a5.1.2,a5.2),e5,m5,⟨ra5.1.2,ra5.2⟩,fin5.mono fun zv H5 h7=>?_⟩
  obtain ⟨S6,στ,a6,e6,m6,ev6,ra6,fin6⟩:=h7
  refine ⟨S6,((a6.1.1.1.1.2,a6.1.1.1.2),a6.2),e6,m6,⟨⟨ra6.1.1.1.1.2,ra6.1.1.1.2⟩,ra6.2⟩,?_⟩
  show Fin XE UnR X.K S6 (st a6.1.1.1.1.2 a6.1.1.1.2 a6.2 S6.M) _
  replace fin6:Fin XE (FlR X.K) X.K S6 ((st a6.1.1.1.1.2 a6.1.1.1.2 a6.2 S6.M).bind fun _ M6=>.ok (Fl.nx στ) M6) (qW D):=fin6
  cases q:st a6.1.1.1.1.2 a6.1.1.1.2 a6.2 S6.M with
  | bad=>rw [q] at fin6;exact fin6
  | exn C fs M'=>rw [q] at fin6;exact fin6
  | ok b M1=>
   rw [q] at fin6
   intro S7 c e7 s7 _
   exact fin6 S7 (.nx σ) e7 s7 (.nx (Mo.mo m6 s7 ev6))⟩
end
section
theorem zbw {o e:Expr} {es:List Expr} {n:Str} {Ty:String} {f:Ev->Mem->Out T} {ga:Ev->Mem->Out (List T)} {chk:T->Mem->Bool} {F:T->List T->Mem->Out T} {apos cpos:Pos} (hc:∀ {K:Frag} {S:Sit},MemOk K S->∀ {t:T} {x:V},Rep K S t x->chk t S.M = true->tyV K Ty x S.H) (h:PE X (.Call (.Attribute o n apos) (e :: es) [] cpos) (tBM X.K Ty (lMt XE X.K F) (lE XE X.K f) (lA XE X.K ga))):WE X XE (.Call (.Attribute o n apos) (e :: es) [] cpos) (qY chk F f ga):=⟨PE.imp h fun σ H Q hh=>by
 obtain ⟨S,στ,_,e0,m,ev,_,fin⟩:=hh
 replace fin:Fin XE (Rep X.K) X.K S ((f στ S.M).bind fun x M1=>if chk x M1 = true then (ga στ M1).bind fun ts M2=>F x ts M2 else .bad) Q:=fin
 refine ⟨S,στ,(),e0,m,ev,trivial,?_⟩
 show Fin XE (Rep X.K) X.K S (f στ S.M) _
 cases o1:f στ S.M with
 | bad=>rw [o1] at fin;exact fin
 | exn C fs M'=>rw [o1] at fin;exact fin
 | ok x M1=>
  rw [o1] at fin
  intro S1 v e1 s1 r1
  replace fin:Fin XE (Rep X.K) X.K S (if chk x M1 = true then (ga στ M1).bind fun ts M2=>F x ts M2 else .bad) Q:=fin
  split at fin
  ·rename_i hk
   refine ⟨hc s1.mok r1 (by rw [e1];exact hk),S1,στ,(),rfl,s1.mok,Mo.mo m s1 ev,trivial,?_⟩
   show Fin XE (Reps X.K) X.K S1 (ga στ S1.M) _
   rw [e1]
   cases o2:ga στ M1 with
   | bad=>rw [o2] at fin;exact fin
   | exn C fs M'=>rw [o2] at fin;exact Fin.later s1 fin
   | ok ts M2=>
    rw [o2] at fin
    intro S2 ws e2 s2 r2
    replace fin:Fin XE (Rep X.K) X.K S (F x ts M2) Q:=fin
    have fin2:=Fin.later (s1.trans s2) fin
    exact ⟨S2,(x,ts),rfl,s2.mok,⟨r1.grow s1.mok s2.toGrow,r2⟩,by show Fin XE (Rep X.K) X.K S2 (F x ts S2.M) Q;rw [e2];exact fin2⟩
  ·exact fin.elim⟩
end
section
variable {f:Str}
theorem yj {pos:Pos} (hC:∀ C ∈ Cs,Cls X.K C/\NoAttr X.K C f) (he:WE X XE e g) (hb:attributeBase e f X.env (eval e X.env) = eval e X.env:=by rfl):WE X XE (.Attribute e f pos) (ym Cs f g):=by
 have he:=he.pe
 exact ⟨PE.imp (zpf he hb) fun σ H Q hh=>
  LN.mono (LN.bind (f:=fun _ σ M=>g σ M) (k:=fun _ x σ M1=>zaO Cs f x M1) (RB:=Rep X.K) hh) fun v H1 h9=>by
   obtain ⟨S,στ,a,e,m,ev,ra,fin⟩:=h9
   obtain ⟨u0,t⟩:=a
   subst e
   have rt:Rep X.K S t v:=ra.2
   replace fin:Fin XE (Rep X.K) X.K S (zaO Cs f t S.M) Q:=fin
   unfold zaO at fin
   split at fin
   ·rename_i a
    split at fin
    ·rename_i C fs q
     split at fin
     ·rename_i hc
      obtain ⟨t,et,fin⟩:=zgD fin
      cases rt
      obtain ⟨dx,us,h1,rf⟩:=m.cell _ _ q
      obtain ⟨w,ew,rw'⟩:=rf.look f et
      exact ⟨S.α a,C,dx,us,w,rfl,h1,(hC C hc).1,(hC C hc).2,ew,fin S w rfl (.refl m) rw'⟩
     ·exact fin.elim
    ·exact fin.elim
   ·exact fin.elim⟩
theorem zL {o value:Expr} {fv:Ev->Mem->Out T} {pos:Pos} (hC:∀ C ∈ Cs,Cls X.K C/\NoAttr X.K C f) (ho:WE X XE o fo) (hv:WE X XE value fv) (hs:swapsWith value (some (.Attribute o f pos')) pos.line X.env = pure false:=by rfl):WS X XE (.Assign [.Attribute o f pos'] value pos) (qD Cs f fo fv):=by
 have ho:=ho.pe
 have hv:=hv.pe
 exact ⟨PS.imp (zo4 ho hv hs) fun D σ H hh=>by
  refine LN.mono (LN.bind (f:=fun _ σ M=>fv σ M) (k:=fun _ y σ M1=>(fo σ M1).bind fun x M2=>(zaS Cs f x y M2).bind fun _ M3=>.ok (Fl.nx σ) M3) (RB:=Rep X.K) hh) fun yv H1 h1=>?_
  refine LN.mono (LN.env (f:=fo) (LN.bind (f:=fun _ σ M=>fo σ M) (k:=fun (a:Unit × T) x σ M2=>(zaS Cs f x a.2 M2).bind fun _ M3=>.ok (Fl.nx σ) M3) (RB:=Rep X.K) h1)) fun xv H2 h2=>?_
  obtain ⟨S,στ,⟨⟨u0,y⟩,x⟩,e,m,ev,⟨⟨hu0,ry⟩,rx⟩,fin⟩:=h2
  subst e
  dsimp only at ry rx
  replace fin:Fin XE (FlR X.K) X.K S ((zaS Cs f x y S.M).bind fun _ M3=>.ok (Fl.nx στ) M3) (qW D):=fin
  unfold zaS at fin
  split at fin
  ·rename_i a
   split at fin
   ·rename_i C fs q
    split at fin
    ·rename_i hc
     cases rx
     obtain ⟨dx,us,h3,rf⟩:=m.cell _ _ q
     have ha:a < S.M.length:=(Qz.mp q).1
     refine ⟨S.α a,C,dx,us,rfl,h3,(hC C hc.1).1,(hC C hc.1).2,by rw [← rf.len];exact hc.2,?_⟩
     have s1:=Stp.put m ha (.ins C dx (z6 f yv us)) (.ins C (zc6 f y fs)) ⟨dx,_,yC,(rf.put f ry).grow m (Grow.put m ha _ _)⟩
     exact fin (S.put a (.ins C dx (z6 f yv us)) (.ins C (zc6 f y fs))) (.nx σ) rfl s1 (.nx (Mo.mo m s1 ev))
    ·exact fin.elim
   ·exact fin.elim
  ·exact fin.elim⟩
end
variable {C:Addr}
section
variable {p pos:Pos}
theorem zhE (M:MakT X.prog X.w X.K X.mg X.base k x C ps F) (hr:Room (k + 1) X.A) (hg:Gl X x) (ha:WA X XE (e :: es) ga) (hdb:(x == ("__debug__":Str)) = false:=by decide) (he:noStar e = true:=by rfl) (hpl:es.all noStar = true:=by rfl):WE X XE (.Call (.Name x p) (e :: es) [] pos) (zdj C F ga):=by
 have ha:=ha.pe
 refine ⟨?_⟩
 obtain ⟨fI,fd,Mk1,Fo,b,hm⟩:=M.ex
 refine PE.imp (znu Mk1 Fo hr hg hm b .nil zmX ha hdb (zbB he) (zdS hpl)) fun σ H Q hh=>?_
 refine LN.mono (LN.bind (f:=fun _ σ M=>ga σ M) (k:=fun _ ts σ M1=>(F (T.ref M1.length :: ts) (M1 ++ [Cell.ins C []])).bind fun t M2=>zmg M1.length t M2) (RB:=Reps X.K) (R:=Rep X.K) hh) fun vs H1 ⟨S,στ,a,e,m,ev,ra,fin⟩=>?_
 obtain ⟨u0,ts⟩:=a
 subst e
 intro y dx hy hdx hne
 rw [append_nil]
 replace ra:Reps X.K S ts vs:=ra.2
 replace fin:Fin XE (Rep X.K) X.K S ((F (.ref S.M.length :: ts) (S.M ++ [.ins C []])).bind fun t M2=>zmg S.M.length t M2) Q:=fin
 have s1:=Stp.new m hdx (.own y)
 have hy1:(upd S.H dx (.own y)) y = none:=by rw [zm (Ne.symm hne)];exact hy
 have s2:Stp X.K ⟨S.α,S.M,upd S.H dx (.own y),S.hid⟩ (Sit.more ⟨S.α,S.M,upd S.H dx (.own y),S.hid⟩ y (.ins C dx []) (.ins C [])):=Stp.more s1.mok hy1 _ _ ⟨dx,[],yC,.nil⟩
 have s12:=s1.trans s2
 have al:(Sit.more ⟨S.α,S.M,upd S.H dx (.own y),S.hid⟩ y (.ins C dx []) (.ins C [])).α S.M.length = y:=QA rfl
 have h0:S.M.length < (S.M ++ [Cell.ins C []]).length:=by simp
 have r0:Rep X.K (Sit.more ⟨S.α,S.M,upd S.H dx (.own y),S.hid⟩ y (.ins C dx []) (.ins C [])) (.ref S.M.length) (.ref y):=by
  have:=Rep.ref (K:=X.K) (S:=Sit.more ⟨S.α,S.M,upd S.H dx (.own y),S.hid⟩ y (.ins C dx []) (.ins C [])) (a:=S.M.length) h0
  rw [al] at this
  exact this
 refine ⟨_,.ref S.M.length :: ts,rfl,s2.mok,(ra.grow m s12.toGrow).cons r0,?_⟩
 show Fin E0 (Rep X.K) X.K _ (F (.ref S.M.length :: ts) (S.M ++ [.ins C []])) _
 cases o:F (.ref S.M.length :: ts) (S.M ++ [.ins C []]) with
 | bad=>rw [o] at fin;exact fin.elim
 | exn C' fs M'=>exact absurd o (M.nox _ _ _ _ _)
 | ok t M2=>
  rw [o] at fin
  intro S3 c e3 s3 r3
  cases t with
  | non=>
   cases r3
   exact ⟨rfl,fin S3 (.ref y) e3 (s12.trans s3) (r0.grow s2.mok s3.toGrow)⟩
  | _=>exact fin.elim
end
section
variable {a b c:Expr} {pos pp:Pos} {p:Ev->Mem->Out Fl} {ga:Ev->Mem->Out (List T × Gd)}
theorem zhD (hp:PassesOwn (model X.prog X.w) X.A X.env X.xe) (hc:X.calm = true) (hi:WIG X XE tg iter ga) (hg:WG X XE tg bd) (hb:WSs X XE sts p) (hs:∀ x,foldedSetIterable iter X.env x = pure x:=by intro _;rfl):WS X XE (.For tg iter sts [] pos) (zd2 ga bd p):=by
 have hi:=hi.pe
 have hg:=hg.pe
 have hb:=hb.pe
 exact ⟨PS.imp (zkP hp hc hi hg hb hs) fun D σ H hh=>by
  refine LN.mono (LN.bind (f:=fun _ σ M=>ga σ M) (k:=fun _ xs σ M1=>forG xs.2 bd p xs.1 σ M1) (RB:=ItG X.K) hh) fun J H1 h1=>?_
  obtain ⟨S,στ,a,e,m,ev,ra,fin⟩:=h1
  refine ⟨fun i n σ H=>∃ S στ,S.H = H/\MemOk X.K S/\EvR X.K S στ σ/\ItG X.K S a.2 J/\n = a.2.1.length - i/\i<=a.2.1.length/\Fin XE (FlR X.K) X.K S (forG a.2.2 bd p (a.2.1.drop i) στ S.M) (qW D),⟨_,S,στ,e,m,ev,ra.2,rfl,Nat.zero_le _,fin⟩,?_⟩
  rintro i n σ1 H2 ⟨S1,στ1,e1,m1,ev1,it1,en,hi1,fin1⟩
  subst e1
  have hgd:=zlt fin1
  obtain ⟨it2,it3⟩:=it1 S1 (.refl m1) hgd
  by_cases hl:i < a.2.1.length
  ·have eq:a.2.1.drop i = a.2.1[i] :: a.2.1.drop (i + 1):=List.drop_eq_getElem_cons hl
   rw [eq] at fin1
   replace fin1:=(Fin.gd fin1).2
   obtain ⟨go,yl⟩:=it2 i a.2.1[i] (by simp [hl])
   refine .inr ⟨go,fun σ' H'=>∃ S στ,S.H = H'/\MemOk X.K S/\EvR X.K S στ σ'/\ItG X.K S a.2 J/\Fin XE (FlR X.K) X.K S (forG a.2.2 bd p (a.2.1.drop (i + 1)) στ S.M) (qW D),?_,fun x H' hy=>?_⟩
   ·rintro σ' H' ⟨S2,στ2,e2,m2,ev2,it4,fin2⟩
    exact ⟨a.2.1.length - (i + 1),by omega,S2,στ2,e2,m2,ev2,it4,rfl,hl,fin2⟩
   ·obtain ⟨S2,e2,eM,s2,r2⟩:=yl x H' hy
    replace fin1:Fin XE (FlR X.K) X.K S1 ((bd a.2.1[i] στ1 S1.M).bind fun σ1 M1=>(p σ1 M1).bind (y8 (forG a.2.2 bd p (a.2.1.drop (i + 1))))) (qW D):=fin1
    refine ⟨S2,στ1,a.2.1[i],e2,s2.mok,Mo.mo m1 s2 ev1,r2,?_⟩
    rw [eM]
    cases o:bd a.2.1[i] στ1 S1.M with
    | bad=>rw [o] at fin1;exact fin1
    | exn C fs M'=>rw [o] at fin1;exact Fin.later s2 fin1
    | ok σ3 M3=>
     rw [o] at fin1
     intro S3 σ3v e3 s3 ev3
     have s13:=s2.trans s3
     refine ⟨S3,σ3,(),rfl,s3.mok,ev3,trivial,?_⟩
     show Fin XE (FlR X.K) X.K S3 (p σ3 S3.M) _
     rw [e3]
     replace fin1:Fin XE (FlR X.K) X.K S1 ((p σ3 M3).bind (y8 (forG a.2.2 bd p (a.2.1.drop (i + 1))))) (qW D):=fin1
     cases o2:p σ3 M3 with
     | bad=>rw [o2] at fin1;exact fin1
     | exn C fs M'=>rw [o2] at fin1;exact Fin.later s13 fin1
     | ok fl M4=>
      rw [o2] at fin1
      intro S4 fv e4 s4 r4
      have s14:=s13.trans s4
      cases r4 with
      | nx r4=>exact ⟨S4,_,rfl,s4.mok,r4,Mo.mo m1 s14 it1,by rw [e4];exact Fin.later s14 fin1⟩
      | ct r4=>exact ⟨S4,_,rfl,s4.mok,r4,Mo.mo m1 s14 it1,by rw [e4];exact Fin.later s14 fin1⟩
      | bk r4=>exact fin1 S4 (.nx _) e4 s14 (.nx r4)
      | rt r4=>exact fin1 S4 (.rt _) e4 s14 (.rt r4)
  ·rw [List.drop_eq_nil_of_le (by omega)] at fin1
   replace fin1:=(Fin.gd fin1).2
   refine .inl ⟨it3 i (by omega),?_⟩
   exact fin1 S1 (.nx σ1) rfl (.refl m1) (.nx ev1)⟩
theorem zeu (hi:WIG X XE tg iter ga) (cb:CB X scope cl caps) (hg:∀ ex s0 H0,WG (X.block scope cl (tgs ++ caps.map (·.1)) ex s0 H0) XE tg bd) (hif:∀ ex s0 H0,PTs (X.block scope cl (tgs ++ caps.map (·.1)) ex s0 H0) ifs (lT XE X.K cond)) (hel:∀ ex s0 H0,WE (X.block scope cl (tgs ++ caps.map (·.1)) ex s0 H0) XE elt f) (hs:∀ x,foldedSetIterable iter X.env x = pure x:=by intro _;rfl):WL X XE (.ListComp elt [⟨tg,iter,ifs,0⟩] scope pos) (yY ga bd cond f tgs caps):=by
 have hi:=hi.pe
 have hg:=fun ex s0 H0=>(hg ex s0 H0).pe
 have hel:=fun ex s0 H0=>(hel ex s0 H0).pe
 exact ⟨PE.imp (zjy (tgs:=tgs) (g:=lG XE X.K bd) (tc:=lT XE X.K cond) (te:=lE XE X.K f) cb.hc hi cb.hclos cb.hcell cb.hkind cb.hnames cb.hcl cb.hhas cb.hcap hg hif hel hs) fun σ H Q hh=>zha hh⟩
theorem zhj {py:Pos} (hi:WIG X XE tg iter ga) (cb:CB X scope cl caps) (hg:∀ ex s0 H0,WG (X.block scope cl (tgs ++ caps.map (·.1)) ex s0 H0) XE tg bd) (hif:∀ ex s0 H0,PTs (X.block scope cl (tgs ++ caps.map (·.1)) ex s0 H0) ifs (lT XE X.K cond)) (hel:∀ ex s0 H0,WE (X.block scope cl (tgs ++ caps.map (·.1)) ex s0 H0) XE elt f) (hN0:X.N.Nodup) (hi0:X.N[i0]? = some y0) (hx0:Loc X.env.scope y0) (hsw:swapsWith (.ListComp elt [⟨tg,iter,ifs,0⟩] scope pos) (some (.Name y0 py)) spos.line X.env = pure true:=by rfl) (hf0:X.fn y0 = true\/X.env.scope.names.lookup y0 = some .local:=by first | exact .inl rfl | exact .inr rfl | assumption) (hs:∀ x,foldedSetIterable iter X.env x = pure x:=by intro _;rfl):WS X XE (.Assign [.Name y0 py] (.ListComp elt [⟨tg,iter,ifs,0⟩] scope pos) spos) (qr i0 (eFz (yY ga bd cond f tgs caps))):=by
 have hi:=hi.pe
 have hg:=fun ex s0 H0=>(hg ex s0 H0).pe
 have hel:=fun ex s0 H0=>(hel ex s0 H0).pe
 exact ⟨PS.imp (zf0 (tgs:=tgs) (g:=lG XE X.K bd) (tc:=lT XE X.K cond) (te:=lE XE X.K f) cb.hc hi cb.hclos cb.hcell cb.hkind cb.hnames cb.hcl cb.hhas cb.hcap hg hif hel hN0 hi0 hx0 hsw hf0 hs) fun D σ H ⟨S,στ,_,e,m,ev,_,fin⟩=>zha ⟨S,στ,e,m,ev,by
  show FinL XE X.K S (yY ga bd cond f tgs caps στ S.M) _
  replace fin:Fin XE (FlR X.K) X.K S (((yY ga bd cond f tgs caps στ S.M).bind fun xs M1=>.ok (T.lst xs) M1).bind fun t M1=>.ok (.nx (στ.set i0 (some t))) M1) (qW D):=fin
  cases q:yY ga bd cond f tgs caps στ S.M with
  | bad=>rw [q] at fin;exact fin
  | exn C fs M'=>rw [q] at fin;exact fin
  | ok xs M1=>
   rw [q] at fin
   intro S1 p vs e1 s1 hn hp hv r
   exact fin (S1.show S.hid) (.nx (σ.set i0 (some (.ref p)))) e1 s1.show (.nx ((Mo.mo (K:=X.K) m s1.show ev).set (zgR s1 hn m hp hv r) i0))⟩⟩
end
section
theorem zb1 (he:WE X XE e f):WIG X XE tg e (zau f):=by
 have he:=he.pe
 exact ⟨PI.imp (zjx he) fun σ H R hh=>
  LN.mono (LN.bind (f:=fun _ σ M=>f σ M) (k:=fun _ t σ M1=>match zd7 t M1 with | some g=>.ok g M1 | none=>.bad) (RB:=Rep X.K) hh) fun v H1 h9=>by
   obtain ⟨S,στ,a,e,m,ev,ra,fin⟩:=h9
   obtain ⟨u,t⟩:=a
   subst e
   have rt:Rep X.K S t v:=ra.2
   replace fin:Fin XE (ItG X.K) X.K S (match zd7 t S.M with | some g=>.ok g S.M | none=>.bad) R:=fin
   cases q:zd7 t S.M with
   | none=>rw [q] at fin;exact fin.elim
   | some g=>
    rw [q] at fin
    obtain ⟨xs,G⟩:=g
    obtain ⟨p,vs,rfl,h1,h2⟩:=znR m rt q
    refine ⟨p,rfl,⟨vs,h1⟩,fin S _ rfl (.refl m) fun S3 s3 gd=>?_⟩
    obtain ⟨vs3,g3,r3⟩:=h2 S3 s3 gd
    refine ⟨fun i t et=>?_,fun i hi=>⟨vs3,g3,by rw [← r3.1];exact hi⟩⟩
    obtain ⟨v2,ev3,rv⟩:=r3.get et
    refine ⟨⟨vs3,v2,g3,ev3⟩,fun x H' hy=>?_⟩
    obtain ⟨ey,hy⟩:=hy
    have:=hy vs3 g3
    rw [ev3] at this
    cases this
    exact ⟨S3,ey.symm,rfl,.refl s3.mok,rv⟩⟩
end
section
variable {j:Nat} {y v nm:Str} {p pos pos2 np hp tp vp:Pos} {b0:Stmt} {suite:List Stmt} {g gs:Ev->Mem->Out Fl}
theorem zji:WS X XE st zkd:=⟨fun _ _ _ _ _ _ ⟨_,_,_,_,_,_,_,fin⟩=>fin.elim⟩
end
section
theorem zoA {st:Expr} {pos:Pos} (he:WE X XE e f) (hs:WO X XE (some st) p):WE X XE (.Subscript e (.Slice none none (some st) p2) pos) (eRv f p):=by
 have he:=he.pe
 have hs:=hs.pe
 exact ⟨PE.imp (zpa he hs) fun σ H Q hh=>
  LN.mono (LN.bind (f:=fun _ σ M=>f σ M) (k:=fun _ x σ M1=>(p σ M1).bind fun l M2=>zgy x l M2) (RB:=Rep X.K) hh) fun v H1 h1=>
   LN.mono (LN.env (f:=p) (LN.bind (f:=fun _ σ M=>p σ M) (k:=fun (ax:Unit × T) l σ M2=>zgy ax.2 l M2) (RB:=EqR) h1)) fun l H2 h9=>by
    obtain ⟨S,στ,a,e,m,ev,ra,fin⟩:=h9
    have e1:a.2 = l:=ra.2
    have r:Rep X.K S a.1.2 v:=ra.1.2
    replace fin:Fin XE (Rep X.K) X.K S (zgy a.1.2 a.2 S.M) Q:=fin
    rw [e1] at fin
    unfold zgy rvX at fin
    split at fin
    ·rename_i hl
     split at fin
     ·rename_i xs q
      obtain ⟨b,vs,e2,h2,s2⟩:=qA m r q
      subst e
      refine ⟨hl,b,vs,e2,h2,zgG m fin ?_⟩
      exact s2.rev
     ·exact fin.elim
    ·exact fin.elim⟩
end
variable {qual:Str}
section
theorem zr {p:Nat} {g:Ev->Mem->Out Fl} (D:Df K mg x st ps) (Sc:FnScope N ps (yf st)) (hp:ps.length = p) (hn:N.length = n)
 (hb:∀ (f:Addr) (cdv:Value) (A:Around) (outer:List PySem.Env) (s:Shared) (H:Hp) (E:XK),Room k (A.deeper (envOfC x (yf st) s.heap.objs.size f cdv))->WSs (zcf CX0 P w K mg base N x (yf st) f cdv A outer s H E).nox E0 (yI st) g) :
  CalT P w K mg base (k + 1) x ps (yi p n g):=zlK D Sc hp hn fun f cdv A outer s H E hr=>(hb f cdv A outer s H E hr).pe
theorem zm6 {f:Addr} {fd:FuncData} {p:Nat} {g:Ev->Mem->Out Fl} (F:Fun K x qual st f fd) (Sc:FnScope N ps (yf st)) (hp:ps.length = p) (hn:N.length = n)
 (hb:∀ (cdv:Value) (A:Around) (outer:List PySem.Env) (s:Shared) (H:Hp) (E:XK),Room k (A.deeper (envOfC qual (yf st) s.heap.objs.size f cdv))->WSs (zcf CX0 P w K mg base N qual (yf st) f cdv A outer s H E).nox E0 (yI st) g) :
  FnOk P w K mg base CX0 (k + 1) f fd ps (spT K (yi p n g)):=zpF F Sc hp hn fun cdv A outer s H E hr=>(hb cdv A outer s H E hr).pe
theorem zjh {p:Nat} {g:Ev->Mem->Out Fl} (D:Di K mg x qual C st ps) (Sc:FnScope N ps (yf st)) (hp:ps.length = p) (hn:N.length = n)
 (hb:∀ (f:Addr) (cdv:Value) (A:Around) (outer:List PySem.Env) (s:Shared) (H:Hp) (E:XK),Room k (A.deeper (envOfC qual (yf st) s.heap.objs.size f cdv))->WSs (zcf CX0 P w K mg base N qual (yf st) f cdv A outer s H E).nox E0 (yI st) g) :
  MakT P w K mg base (k + 1) x C ps (yi p n g):=zpB D Sc hp hn fun f cdv A outer s H E hr=>(hb f cdv A outer s H E hr).pe
end
section
variable {f:Str}
theorem zev {pos:Pos} (hg:Gl X x) (hm:∃ a,X.mg x = some (.ref a)/\KTu X.K a (ss.map .str)) (hd:(x == ("__debug__":Str)) = false:=by decide):WE X XE (.Name x pos) (eC (.tup (ss.map .str))):=by
 refine ⟨?_⟩
 obtain ⟨a,hm,o,its,n,h⟩:=hm
 refine zca (znv (v:=.ref a) hg hm rfl hd) fun S=>.tup (.inr ⟨o,its,n,h⟩) (by simp) fun i t v e1 e2=>?_
 rw [Qb] at e1 e2
 cases q:ss[i]? with
 | none=>rw [q] at e1;cases e1
 | some z=>rw [q] at e1 e2;cases e1;cases e2;exact .str _
theorem zlQ {o:Expr} {n:Int} {j} {pos:Pos} (hC:∀ C ∈ Cs,Cls X.K C/\NoAttr X.K C f) (ho:WE X XE o fo):WS X XE (.AugAssign (.Attribute o f tpos) .Add (.Constant (.int n) j cpos) pos) (zfX Cs f fo n):=by
 have ho:=ho.pe
 exact ⟨PS.imp (zkQ ho zkW zpW) fun D σ H hh=>by
  refine LN.mono (LN.bind (f:=fun _ σ M=>fo σ M) (k:=fun _ x σ M1=>(zaO Cs f x M1).bind fun v M2=>(zdA v (.int n) M2).bind fun z M3=>(zaS Cs f x z M3).bind fun _ M4=>.ok (Fl.nx σ) M4) (RB:=Rep X.K) hh) fun xv H1 h1=>?_
  obtain ⟨S,στ,⟨u0,x⟩,e,m,ev,⟨hu0,rx⟩,fin⟩:=h1
  subst e
  dsimp only at rx
  replace fin:Fin XE (FlR X.K) X.K S ((zaO Cs f x S.M).bind fun v M2=>(zdA v (.int n) M2).bind fun z M3=>(zaS Cs f x z M3).bind fun _ M4=>.ok (Fl.nx στ) M4) (qW D):=fin
  cases x with
  | ref a=>
   unfold zaO at fin
   dsimp only at fin
   cases q:S.M[a]? with
   | none=>rw [q] at fin;exact fin.elim
   | some c=>
    rw [q] at fin
    cases c with
    | ins C fs=>
     dsimp only at fin
     by_cases hc:C ∈ Cs
     ·rw [QA hc] at fin
      cases l:fs.lookup f with
      | none=>rw [l] at fin;exact fin.elim
      | some v=>
       rw [l] at fin
       replace fin:Fin XE (FlR X.K) X.K S ((zdA v (.int n) S.M).bind fun z M3=>(zaS Cs f (.ref a) z M3).bind fun _ M4=>.ok (Fl.nx στ) M4) (qW D):=fin
       cases v with
       | int i=>
        replace fin:Fin XE (FlR X.K) X.K S ((zaS Cs f (.ref a) (.int (i + n)) S.M).bind fun _ M4=>.ok (Fl.nx στ) M4) (qW D):=fin
        unfold zaS at fin
        simp only [q] at fin
        split at fin
        ·rename_i hl
         cases rx
         obtain ⟨dx,us,h3,rf⟩:=m.cell _ _ q
         have ha:a < S.M.length:=(Qz.mp q).1
         obtain ⟨w,ew,rw'⟩:=rf.look f l
         cases rw'
         refine ⟨S.α a,C,dx,us,_,rfl,h3,(hC C hc).1,(hC C hc).2,ew,?_⟩
         refine ⟨i,n,rfl,rfl,dx,us,h3,by rw [← rf.len];exact hl.2,?_⟩
         have s1:=Stp.put m ha (.ins C dx (z6 f (.int (i + n)) us)) (.ins C (zc6 f (.int (i + n)) fs)) ⟨dx,_,yC,(rf.put f (.int _)).grow m (Grow.put m ha _ _)⟩
         exact fin (S.put a (.ins C dx (z6 f (.int (i + n)) us)) (.ins C (zc6 f (.int (i + n)) fs))) (.nx σ) rfl s1 (.nx (Mo.mo m s1 ev))
        ·exact fin.elim
       | _=>exact fin.elim
     ·rw [QB hc] at fin;exact fin.elim
    | _=>exact fin.elim
  | _=>exact fin.elim⟩
end
end FT
namespace L2
open PySem PySem.Spec PyProof.Rows
section
variable {X:Cx}
theorem zkg:OpR X (binaryOp .Mult) (fun x y H Q=>∃ i n,x = .str i/\y = .int n/\MulOk i n/\Q (.str (Txt.mul i n)) H):=by
 intro pins s σ H x y v u Q I rx ry h
 obtain ⟨i,n,rfl,rfl,hk,q⟩:=h
 obtain ⟨t,rfl⟩:=rx
 obtain ⟨t',rfl⟩:=ry
 exact SB.mul hk fun t' k=>⟨.str _,H,I.tok _,⟨_,rfl⟩,q⟩
end
end L2
namespace FT
open PySem PySem.Spec PyProof.Rows L2
noncomputable def leU:T->T->Mem->Out T:=fun x y M=>match x,y with
 | .int i,.int j=>.ok (.bl (decide (i<=j))) M
 | .str i,.str j=>.ok (.bl (!decide (j.cps.toList < i.cps.toList))) M
 | _,_=>.bad
noncomputable def zgH:T->T->Mem->Out T:=fun x y M=>match x,y with
 | .str i,.int n=>@ite _ (MulOk i n) (Classical.propDecidable _) (.ok (.str (Txt.mul i n)) M) .bad
 | _,_=>.bad
noncomputable def ixS:T->T->Mem->Out T:=fun x y M=>match x,y with
 | .str z,.int i=>match atI z.cps.toList i with
  | some c=>if z.length<=sizeLine then .ok (.str ⟨#[c]⟩) M else .bad
  | none=>.bad
 | _,_=>.bad
section
variable {X:Cx} {XE:XK}
theorem znF:OpR X (binaryOp .Mult) (lR2 XE X.K zgH):=by
 intro pins s σ H x y v u Q I rx ry ⟨S,⟨tx,ty⟩,e,m,⟨r1,r2⟩,fin⟩
 subst e
 replace fin:Fin XE (Rep X.K) X.K S (zgH tx ty S.M) Q:=fin
 unfold zgH at fin
 split at fin
 ·cases r1;cases r2
  split at fin
  ·rename_i hk
   exact zkg pins s σ S.H _ _ v u Q I rx ry ⟨_,_,rfl,rfl,hk,fin S _ rfl (.refl m) (.str _)⟩
  ·exact fin.elim
 ·exact fin.elim
theorem zmo:IxR X (lR2 XE X.K ixS):=by
 intro va sl pins s σ H x y v u Q I rx ry ⟨S,⟨tx,ty⟩,e,m,⟨r1,r2⟩,fin⟩ hs
 subst e
 replace fin:Fin XE (Rep X.K) X.K S (ixS tx ty S.M) Q:=fin
 unfold ixS at fin
 split at fin
 ·cases r1;cases r2
  split at fin
  ·rename_i c hc
   split at fin
   ·rename_i hz
    exact zlf va sl pins s σ S.H _ _ v u Q I rx ry ⟨_,_,c,rfl,rfl,hz,hc,fin S _ rfl (.refl m) (.str _)⟩ hs
   ·exact fin.elim
  ·exact fin.elim
 ·exact fin.elim
end
end FT
namespace L2
open PySem PySem.Spec PyProof.Rows
section
variable {X:Cx} {tg:Expr}
theorem zoM:SlR X (fun x lo hi H Q=>∃ z,x = .str z/\z.length<=sizeLine/\Q (.str (Txt.slice z lo hi)) H):=by
 intro pins s σ H x v vl vu lo hi sl Q I rx hs pl pu ⟨z,e,hz,q⟩
 subst e
 obtain ⟨t,rfl⟩:=rx
 have part:∀ {v:Value} {o:Option Int},IsPart v o->∃ p:Option (Int × Tok),v = partValue p/\p.map (·.1) = o:=fun h=>by
  cases h with
  | none=>exact ⟨none,rfl,rfl⟩
  | int i t=>exact ⟨some (i,t),rfl,rfl⟩
 obtain ⟨l,rfl,rfl⟩:=part pl
 obtain ⟨u,rfl,rfl⟩:=part pu
 exact ⟨"str",_,PySem.F.slot_str_getitem.lookup,typeIs_str _ _ _,wpAny_getItem_str_slice (st:=none) hs rfl (post_val_or_str ⟨Qj (Txt.slice_le z _ _) hz,fun t' k=>⟨.str _,H,I.tok _,⟨_,rfl⟩,q⟩⟩)⟩
theorem zhL:∀ {zs:List Str} {its:List Value},Vals (zs.map V.str) its->StrsAre its zs
 | [],its,r=>by cases r;exact .nil
 | z :: zs,its,r=>by
  cases r with
  | cons a b=>
   obtain ⟨t,rfl⟩:=a
   exact .cons z t (zhL b)
theorem znN:MtR X "str.join" (fun x xs H Q=>∃ z p zs,x = .str z/\xs = [.ref p]/\SqL X.K H p (zs.map V.str)/\(zs.map (·.length)).sum + zs.length * z.length<=16777216/\Q (.str (Txt.join z zs)) H):=by
 intro pins s σ H x xs v us Q I rx rs ⟨z,p,zs,e1,e2,hq,hb,q⟩
 subst e1;subst e2
 obtain ⟨t,rfl⟩:=rx
 obtain ⟨u,rfl,ru⟩:=vals1 rs
 cases ru
 obtain ⟨its,r,pl,hz⟩:=I.list hq
 exact join_list pl.isList (zhL r) hb fun t' k=>⟨.str _,H,I.tok _,⟨_,rfl⟩,q⟩
end
end L2
namespace FT
open PySem PySem.Spec PyProof.Rows L2
noncomputable def sgT (z:Str):List T:=z.cps.toList.map fun c=>T.str ⟨#[c]⟩
noncomputable def iTx (f:Ev->Mem->Out T):Ev->Mem->Out (List T):=fun σ M=>(f σ M).bind fun t M1=>match t with
 | .str z=>.ok (sgT z) M1
 | _=>.bad
noncomputable def zdx (x:T) (lo hi:Option Int) (M:Mem):Out T:=match x with
 | .str z=>if z.length<=sizeLine then .ok (.str (Txt.slice z lo hi)) M else .bad
 | x=>zfG x lo hi M
noncomputable def ziL (f:Ev->Mem->Out T) (p q:Ev->Mem->Out (Option Int)):Ev->Mem->Out T:=fun σ M=>(f σ M).bind fun x M1=>(p σ M1).bind fun lo M2=>(q σ M2).bind fun hi M3=>zdx x lo hi M3
noncomputable def zfr:List T->Option (List Str)
 | []=>some []
 | .str z :: ts=>(zfr ts).map (z :: ·)
 | _ :: _=>none
theorem zhN:∀ {ts:List T} {zs:List Str},zfr ts = some zs->ts = zs.map .str
 | [],zs,h=>by cases h;rfl
 | t :: ts,zs,h=>by
  unfold zfr at h
  split at h
  ·rename_i e
   cases e
  ·rename_i e
   cases e
   cases q:zfr ts with
   | none=>rw [q] at h;cases h
   | some ys=>
    rw [q] at h
    cases h
    rw [zhN q]
    rfl
  ·cases h
noncomputable def isStr (t:T) (_:Mem):Bool:=match t with
 | .str _=>true
 | _=>false
noncomputable def ze1 (x:T) (ts:List T) (M:Mem):Out T:=match x,ts with
 | .str z,[t]=>match qv t M with
  | some xs=>match zfr xs with
   | some zs=>if (zs.map (·.length)).sum + zs.length * z.length<=16777216 then .ok (.str (Txt.join z zs)) M else .bad
   | none=>.bad
  | none=>.bad
 | _,_=>.bad
variable {X:Cx} {XE:XK}
section
theorem ty_str {K:Frag} {S:Sit} (_:MemOk K S) {t:T} {x:V} (r:Rep K S t x) (h:isStr t S.M = true):tyV K "str" x S.H:=by
 cases r with
 | str z=>exact rfl
 | _=>cases h
theorem zmi:MtR X "str.join" (lMt XE X.K ze1):=by
 intro pins s σ H x xs v us Q I rx rs ⟨S,⟨tx,ts⟩,e,m,⟨r1,r2⟩,fin⟩
 subst e
 replace r1:Rep X.K S tx x:=r1
 replace r2:Reps X.K S ts xs:=r2
 replace fin:Fin XE (Rep X.K) X.K S (ze1 tx ts S.M) Q:=fin
 unfold ze1 at fin
 split at fin
 ·rename_i z t
  split at fin
  ·rename_i ys q
   split at fin
   ·rename_i zs qz
    split at fin
    ·rename_i hb
     obtain ⟨w1,ws,rfl,h1,h2⟩:=r2.consT
     cases h2.nilT
     obtain ⟨p,vs,rfl,hq,rs'⟩:=qA m h1 q
     cases r1
     have e:=zhN qz
     subst e
     have ev:vs = zs.map V.str:=by
      refine ext_getElem? fun i=>?_
      have l:=rs'.1
      rw [Qh] at l
      by_cases hi:i < zs.length
      ·have a1:vs[i]? = some (vs[i]'(by omega)):=Q0 _
       have a2:=rs'.2 i (.str zs[i]) _ (by rw [Qb,Q0 hi];rfl) a1
       rw [a1,Qb,Q0 hi]
       generalize vs[i]'(by omega) = w at a2
       cases a2
       rfl
      ·rw [getElem?_eq_none (by omega),getElem?_eq_none (by rw [Qh];omega)]
     rw [ev] at hq
     exact znN pins s σ S.H _ _ v us Q I rx rs ⟨z,p,zs,rfl,rfl,hq,hb,fin S _ rfl (.refl m) (.str _)⟩
    ·exact fin.elim
   ·exact fin.elim
  ·exact fin.elim
 ·exact fin.elim
end
noncomputable def zsf (XE:XK) (K:Frag):V->Option Int->Option Int->Hp->VK->Prop:=fun x lo hi H Q=>∃ S t,S.H = H/\MemOk K S/\Rep K S t x/\Fin XE (Rep K) K S (zdx t lo hi S.M) Q
variable {p q:Ev->Mem->Out (Option Int)} {f:Ev->Mem->Out T} {e:Expr} {p2:Pos}
section
theorem zr1:SlR X (zsf XE X.K):=by
 intro pins s σ H x v vl vu lo hi sl Q I rx hs pl pu ⟨S,t,e,m,r,fin⟩
 unfold zdx at fin
 split at fin
 ·cases r
  split at fin
  ·rename_i hz
   subst e
   exact zoM pins s σ S.H _ v vl vu lo hi sl Q I rx hs pl pu ⟨_,rfl,hz,fin S _ rfl (.refl m) (.str _)⟩
  ·exact fin.elim
 ·exact zoN pins s σ H x v vl vu lo hi sl Q I rx hs pl pu ⟨S,_,e,m,r,fin⟩
end
section
theorem zjk {lo hi:Option Expr} {pos:Pos} (he:WE X XE e f) (hl:WO X XE lo p) (hu:WO X XE hi q):WE X XE (.Subscript e (.Slice lo hi none p2) pos) (ziL f p q):=by
 have he:=he.pe
 have hl:=hl.pe
 have hu:=hu.pe
 exact ⟨PE.imp (zfx zr1 he hl hu) fun σ H Q hh=>
  LN.mono (LN.bind (f:=fun _ σ M=>f σ M) (k:=fun _ x σ M1=>(p σ M1).bind fun lo M2=>(q σ M2).bind fun hi M3=>zdx x lo hi M3) (RB:=Rep X.K) hh) fun v H1 h1=>
   LN.mono (LN.env (f:=p) (LN.bind (f:=fun _ σ M=>p σ M) (k:=fun (ax:Unit × T) lo σ M2=>(q σ M2).bind fun hi M3=>zdx ax.2 lo hi M3) (RB:=EqR) h1)) fun l H2 h2=>
    LN.mono (LN.env (f:=q) (LN.bind (f:=fun _ σ M=>q σ M) (k:=fun (ax:(Unit × T) × Option Int) hi σ M3=>zdx ax.1.2 ax.2 hi M3) (RB:=EqR) h2)) fun w H3 h9=>by
     obtain ⟨S,στ,a,e,m,ev,ra,fin⟩:=h9
     have e1:a.1.2 = l:=ra.1.2
     have e2:a.2 = w:=ra.2
     exact ⟨S,a.1.1.2,e,m,ra.1.1.2,by rw [← e1,← e2];exact fin⟩⟩
end
end FT
namespace L2
open PySem PySem.Spec PyProof.Rows
structure XiAt (K:Frag) (D:Addr):Prop where
 ga:PySem.W.findIn K (.ref D) "__getattribute__" = some (some (.builtin "BaseException.__getattribute__"))
 gt:PySem.W.findIn K (.ref D) "__getattr__" = some none
 c:(PySem.W.clsIn K D).isSome = true
 a:PySem.W.findIn K (.ref D) "__class__" = some (some (.builtin "object.__class__"))
 n:PySem.W.specialIn K (.builtin "object.__class__") "__get__" = some (some (.builtin "getset_descriptor.__get__"))
 t:PySem.W.takesIn K (.builtin "object.__class__") = some true
 m:PySem.W.mroIn K D (.type "object") = some true
 be:PySem.W.mroIn K D (.type "BaseException") = some true
end L2
namespace FT
open PySem PySem.Spec PyProof.Rows L2
structure IsAt (K:Frag) (mg:Str->Option Value) (y:Str) (g:Addr->Option Bool):Prop where
 ex:∃ (v:V) (c:Value),RelV v c/\(mg y = some c\/(mg y = none/\bootBuiltins y = some c))/\(∀ u,RelV v u->u = c)/\∀ C b,g C = some b->XiAt K C/\PySem.W.kitOne K (.ref C) c = some b
structure XmAt (K:Frag) (D W:Addr):Prop where
 ga:PySem.W.findIn K (.ref D) "__getattribute__" = some (some (.builtin "BaseException.__getattribute__"))
 gt:PySem.W.findIn K (.ref D) "__getattr__" = some none
 a:PySem.W.findIn K (.ref D) "__class__" = some (some (.builtin "object.__class__"))
 n:PySem.W.specialIn K (.builtin "object.__class__") "__get__" = some (some (.builtin "getset_descriptor.__get__"))
 t:PySem.W.takesIn K (.builtin "object.__class__") = some true
 mro:(PySem.W.clsIn K D).map (·.mro) = some (.ref D :: .ref W :: zdz)
 ty:PySem.W.typeIn K (.ref D) = some (.type "type")
section
variable {K:Frag} {mg:Str->Option Value} {C D W Y:Addr} {y:Str} {ks:List Addr}
theorem XmAt.in (x:XmAt K D W) (base:Value):PySem.W.mroIn K D base = some ((Value.ref D :: .ref W :: zdz).contains base):=by
 obtain ⟨cd,h,e⟩:=Option.map_eq_some_iff.mp x.mro
 unfold PySem.W.mroIn
 rw [h,Option.bind_some,e]
 rfl
theorem XmAt.cls (x:XmAt K D W):(PySem.W.clsIn K D).isSome = true:=by
 obtain ⟨cd,h,e⟩:=Option.map_eq_some_iff.mp x.mro
 rw [h]
 rfl
theorem zek (a b:Value) (l:List Value):(b :: l).contains a = (a == b || l.contains a):=List.contains_cons
theorem XmAt.xi (x:XmAt K D W):XiAt K D:=⟨x.ga,x.gt,x.cls,x.a,x.n,x.t,by rw [x.in,zek,zek,show zdz.contains (.type "object") = true by decide +kernel,Bool.or_true,Bool.or_true],by rw [x.in,zek,zek,show zdz.contains (.type "BaseException") = true by decide +kernel,Bool.or_true,Bool.or_true]⟩
end
end FT
namespace L2
open PySem PySem.Spec PyProof.Rows
noncomputable def zr8 (a:List Str) (x:Str):List Str:=if x ∈ a then a else a ++ [x]
noncomputable def met (ss:List Str):List Str:=ss.foldl zr8 []
set_option maxRecDepth 100000 in
theorem zk9 (l:Addr) (items:Array Value) (n:Nat) (x:Int) (u:Tok) (dd:Option Addr) (sl:Array (Option Value)) (h1:¬(!Builtin.List.listFitsIndex x) = true) (h2:¬items.size * x.toNat > (2 ^ 63 - 1) / 8) (h3:¬Builtin.List.listTooLong (items.size * x.toNat) = true)
  (h4:¬ (List.foldl (fun x1 x2=>x1 ++ x2) #[] (List.replicate (if items.isEmpty = true then 0 else x.toNat) items)).size > sizeLine) :
  Meets (Builtin.«list.__mul__» ⟨[.ref l,.int x u],[]⟩) fun _ R s=>s.heap.get? l = some ⟨.type "list",dd,.seq items n,sl⟩ /\
   R (.ok (.ret (.ref s.heap.objs.size))) { s with heap:=s.heap.push { cls:=.type "list",data:=.seq (List.foldl (fun x1 x2=>x1 ++ x2) #[] (List.replicate (if items.isEmpty = true then 0 else x.toNat) items)) } }:=by
 intro prog w A R s ⟨e,q⟩
 unfold Builtin.«list.__mul__»
 wp_delta
 obtain ⟨h,g,d,t,os⟩:=s
 repeat (any_goals (first | assumption | wp_step))
 rw [QB h4]
 repeat (any_goals (first | assumption | wp_step))
set_option maxRecDepth 100000 in
theorem zqZ (a:Int) (t:Tok) (l:Addr) (items:Array Value) (n:Nat) (dd:Option Addr) (sl:Array (Option Value)) :
  Meets (Builtin.«int.__rmul__» ⟨[.int a t,.ref l],[]⟩) fun _ R s=>s.heap.get? l = some ⟨.type "list",dd,.seq items n,sl⟩/\R (.ok (.ret .notImplemented)) s:=by
 intro prog w A R s ⟨e,q⟩
 unfold Builtin.«int.__rmul__»
 obtain ⟨h,g,d,t,os⟩:=s
 repeat (any_goals (first | assumption | wp_step))
theorem znB {X:Cx}:OpR X (binaryOp .Mult) (fun x y H Q=>∃ l k xs,x = .ref l/\y = .int k/\SqL X.K H l xs/\-(2 ^ 63)<=k/\k < 2 ^ 63/\xs.length * k.toNat<=sizeLine/\∀ p,H p = none->Q (.ref p) (upd H p (.lst (List.replicate k.toNat xs).flatten))):=by
 intro pins s σ H x y v u Q I rx ry h
 obtain ⟨l,k,xs,rfl,rfl,hH,h1,h2,hz,q⟩:=h
 cases rx
 obtain ⟨t,rfl⟩:=ry
 obtain ⟨its,r,pl,z⟩:=I.list hH
 have hl:=r.length
 obtain ⟨⟨cls,dd,data,sl⟩,n,e,hc,hdi,hd⟩:=pl
 simp only at hc hd
 subst hc hd
 have hlen:its.toArray.size * k.toNat<=sizeLine:=by rw [Qi,← hl];exact hz
 have hcap:¬ its.toArray.size * k.toNat > (2 ^ 63 - 1) / 8:=by
  have:(sizeLine:Nat)<=(2 ^ 63 - 1) / 8:=by decide
  omega
 have hfit:¬ (!Builtin.List.listFitsIndex k) = true:=by
  rw [fitsIndex_both h1 h2]
  exact Q4
 have hlong:¬ Builtin.List.listTooLong (its.toArray.size * k.toNat) = true:=by
  rw [zh5 hlen]
  exact Q4
 have hnew:List.foldl (fun x1 x2=>x1 ++ x2) #[] (List.replicate (if its.toArray.isEmpty = true then 0 else k.toNat) its.toArray) = (List.replicate k.toNat its).flatten.toArray:=by
  have f0:∀ m:Nat,List.foldl (fun x1 x2=>x1 ++ x2) #[] (List.replicate m its.toArray) = (List.replicate m its).flatten.toArray:=fun m=>by
   have:=foldl_rep its m []
   rw [nil_append] at this
   exact this
  rw [f0]
  cases its with
  | nil=>simp
  | cons a r'=>rw [QB (by simp)]
 have hbig:¬ (List.foldl (fun x1 x2=>x1 ++ x2) #[] (List.replicate (if its.toArray.isEmpty = true then 0 else k.toNat) its.toArray)).size > sizeLine:=by
  rw [hnew,Qi,len_rep,Nat.mul_comm]
  rw [Qi] at hlen
  omega
 refine wpAny_binaryOp_repeat_ref (T:="list") (U:="int") (by decide) ⟨_,e,rfl⟩ (fun s'=>typeIs_int s' k t) noFill_list_mul F.fills_int_mul F.slot_int_rmul repeat_list F.slot_int_index.lookup
  (call_meets F.slot_int_rmul (typeIs_int s k t) F.entry_int_rmul (F.args_int_rmul_2 _ _) (zqZ k t l its.toArray n dd sl)
   ⟨e,rfl,⟨_,e,rfl⟩,call_meets F.slot_list_mul ⟨_,e,rfl⟩ F.entry_list_mul (F.args_list_mul_2 _ _) (zk9 l its.toArray n k t dd sl hfit hcap hlong hbig) ⟨e,?_⟩⟩)
 rw [hnew]
 exact ⟨.ref _,_,I.lnew (t':=s.toks) (r.rep k.toNat) (by rw [len_rep,Nat.mul_comm];exact hz),rfl,q _ I.fresh⟩
end L2
namespace FT
open PySem PySem.Spec PyProof.Rows L2
noncomputable def zgA:T->T->Mem->Out (List T):=fun x y M=>match qv x M,y with
 | some xs,.int k=>if 0<=k/\k<=8/\xs.length<=1000 then .ok (List.replicate k.toNat xs).flatten M else .bad
 | _,_=>.bad
theorem znC {X:Cx} {XE:XK}:OpR X (binaryOp .Mult) (zkn XE X.K zgA):=by
 intro pins s σ H x y v u Q I rx ry ⟨S,⟨tx,ty⟩,e,m,⟨r1,r2⟩,fin⟩
 subst e
 replace fin:FinL XE X.K S (zgA tx ty S.M) Q:=fin
 unfold zgA at fin
 split at fin
 ·rename_i xs k q1
  split at fin
  ·rename_i hz
   obtain ⟨p,vs,e1,h1,s1⟩:=qA m r1 q1
   dsimp only at e1
   subst e1
   cases r2
   refine znB pins s σ S.H _ _ v u Q I rx ry ⟨p,k,vs,rfl,rfl,h1,by omega,by omega,?_,zh9 m fin (s1.rep _)⟩
   rw [← s1.1,sizeLine_eq]
   exact Qj (Nat.mul_le_mul hz.2.2 (show k.toNat<=8 by omega)) (by decide)
  ·exact fin.elim
 ·exact fin.elim
end FT
namespace L2
open PySem PySem.Spec PyProof.Rows
variable {Q:Value->Shared->Prop}
section
variable {X:Cx} {pins:List (Addr × Obj)} {σ:L2.St} {H:Hp} {s:Shared} {a b:Addr} {kvs:List (List Key × V)} {k:List Key} {d:V} {r:Value} {A:Around} {E:Value->Shared->Prop}
theorem zf3 (I:Inv X pins σ H s) (e:SqT X.K H b (k.map kV)):(tupleKind (yO X.prog X.w)).is s.heap k b:=by
 obtain ⟨its,r,⟨o,h1,h2,n,h3⟩,_⟩:=I.tuple e
 exact ⟨o,its.toArray,n,h1,h2,h3,by simpa using zeG r⟩
theorem zrM (hu:A.units + 1 < cLine) (I:Inv X pins σ H s) (e:H a = some (.dT kvs)) (eb:SqT X.K H b (k.map kV)) (h:∀ s',Inv X pins σ H s'->Q (.bool (zar kvs k).isSome) s'):wpAny (model X.prog X.w) A (compareOp .In (.ref b) (.ref a)) Q E s:=by
 obtain ⟨z,hd,xs,rel,dd⟩:=zgg I.hok e
 refine wpAny_in_heap (tupleKind_room_in1 hu) (zf3 I eb) hd dd ?_
 have q:=(rel.val k).isSome_eq
 rw [Option.isSome_map] at q
 rw [← q]
 exact h _ (I.tok _)
theorem zm9 (hu:A.units + 1 < cLine) (I:Inv X pins σ H s) (e:H a = some (.dT kvs)) (eb:SqT X.K H b (k.map kV)) (h:∀ s',Inv X pins σ H s'->Q (.bool (!(zar kvs k).isSome)) s'):wpAny (model X.prog X.w) A (compareOp .NotIn (.ref b) (.ref a)) Q E s:=by
 obtain ⟨z,hd,xs,rel,dd⟩:=zgg I.hok e
 refine wpAny_notIn_heap (tupleKind_room_in1 hu) (zf3 I eb) hd dd ?_
 have q:=(rel.val k).isSome_eq
 rw [Option.isSome_map] at q
 rw [← q]
 exact h _ (I.tok _)
theorem zoE (hu:A.units + 1 < cLine) (I:Inv X pins σ H s) (e:H a = some (.dT kvs)) (eb:SqT X.K H b (k.map kV)) (h:∀ w' s',Inv X pins σ H s'->RelV ((zar kvs k).getD .non) w'->Q w' s'):wpAny (model X.prog X.w) A (call (.builtin "dict.get") [.ref a,.ref b]) Q E s:=by
 obtain ⟨z,hd,xs,rel,dd⟩:=zgg I.hok e
 exact call_meetsIn PySem.F.slot_dict_get dd.typeIs PySem.F.entry_dict_get (PySem.F.args_dict_get_2 _ _) (meetsH_dict_get (tupleKind (yO X.prog X.w)) a b hd) ⟨tupleKind_room_in1 hu,k,xs,zf3 I eb,dd,h _ _ (I.tok _) ((rel.val k).getD rfl)⟩
theorem zoD (hu:A.units + 1 < cLine) (I:Inv X pins σ H s) (e:H a = some (.dT kvs)) (eb:SqT X.K H b (k.map kV)) (rd:RelV d r) (h:∀ w' s',Inv X pins σ H s'->RelV ((zar kvs k).getD d) w'->Q w' s'):wpAny (model X.prog X.w) A (call (.builtin "dict.get") [.ref a,.ref b,r]) Q E s:=by
 obtain ⟨z,hd,xs,rel,dd⟩:=zgg I.hok e
 exact call_meetsIn PySem.F.slot_dict_get dd.typeIs PySem.F.entry_dict_get (PySem.F.args_dict_get_3 _ _ _) (meetsH_dict_get_default (tupleKind (yO X.prog X.w)) a b hd r) ⟨tupleKind_room_in1 hu,k,xs,zf3 I eb,dd,h _ _ (I.tok _) ((rel.val k).getD rd)⟩
noncomputable def zq0:zfN:=fun o i v H Q=>∃ a kvs k b,o = .ref a/\i = .ref b/\H a = some (.dT kvs)/\H b = some (.tup (k.map kV))/\kvs.length < sizeLine/\Q (upd H a (.dT (putK kvs k v)))
theorem zqY (hu:X.A.units + 64 < cLine):zeo X zq0:=by
 rintro pins s σ H o i v ov iv u Q I ro ri rv ⟨a,kvs,k,b,rfl,rfl,e,eb,hl,q⟩
 cases (show ov = Value.ref a from ro)
 exact zly (by omega) I (.t e eb hl) ri rv fun s' I'=>⟨_,I',q⟩
end
end L2
namespace FT
open PySem PySem.Spec PyProof.Rows L2
noncomputable def zil:List T->Option (List Key)
 | []=>some []
 | t :: ts=>match zpP t,zil ts with
  | some k,some ks=>some (k :: ks)
  | _,_=>none
noncomputable def zdk (t:T) (M:Mem):Option (List (List Key × T)):=match t with
 | .ref a=>match M[a]? with
  | some (.dtu kvs)=>some kvs
  | _=>none
 | _=>none
section
variable {K:Frag} {S:Sit}
theorem zfC:∀ {ts:List T} {vs:List V} {ks:List Key},Reps K S ts vs->zil ts = some ks->vs = ks.map kV
 | [],vs,ks,r,e=>by cases e;exact r.nilT
 | t :: ts,vs,ks,r,e=>by
  unfold zil at e
  split at e
  ·rename_i k ks' e1 e2
   cases e
   obtain ⟨v,vs',rfl,r1,r2⟩:=r.consT
   rw [zmn r1 e1,zfC r2 e2]
   rfl
  ·cases e
theorem zcv (m:MemOk K S) {t:T} {x:V} {kvs:List (List Key × T)} (r:Rep K S t x) (e:zdk t S.M = some kvs):∃ a us,t = .ref a/\S.M[a]? = some (.dtu kvs)/\x = .ref (S.α a)/\S.H (S.α a) = some (.dT us)/\RepK K S kvs us:=by
 unfold zdk at e
 split at e
 ·split at e
  ·rename_i a _ kvs' q
   cases e
   cases r
   obtain ⟨us,h1,h2⟩:=m.cell _ _ q
   exact ⟨a,us,rfl,q,rfl,h1,h2⟩
  ·cases e
 ·cases e
noncomputable def zik:T->Option (List Key)
 | .tup xs=>zil xs
 | _=>none
theorem zd8 {t:T} {x:V} {ks:List Key} (r:Rep K S t x) (e:zik t = some ks):∃ p,x = .ref p/\SqT K S.H p (ks.map kV):=by
 cases r with
 | @tup ts p vs h l rr=>exact ⟨p,rfl,by rw [← zfC ⟨l,rr⟩ e];exact h⟩
 | _=>cases e
end
variable {X:Cx} {p q:Ev->Mem->Out (Option Int)} {f g:Ev->Mem->Out T} {e o:Expr} {p2 p3:Pos} {XE:XK}
section
noncomputable def inU:T->T->Mem->Out T:=fun x y M=>match zdk y M with
 | some kvs=>match zik x with
  | some k=>.ok (.bl (zF kvs k).isSome) M
  | none=>.bad
 | none=>inA x y M
noncomputable def zb7:T->T->Mem->Out T:=fun x y M=>match zdk y M with
 | some kvs=>match zik x with
  | some k=>.ok (.bl (!(zF kvs k).isSome)) M
  | none=>.bad
 | none=>zkj x y M
theorem zf1 (hu:X.A.units + 64 < cLine):OpR X (compareOp .In) (lR2 XE X.K inU):=by
 intro pins s σ H x y v u Q I rx ry ⟨S,⟨tx,ty⟩,e,m,⟨r1,r2⟩,fin⟩
 replace fin:Fin XE (Rep X.K) X.K S (inU tx ty S.M) Q:=fin
 unfold inU at fin
 split at fin
 ·subst e
  rename_i kvs q
  split at fin
  ·rename_i k qk
   obtain ⟨a,us,_,_,e3,e4,rk⟩:=zcv m r2 q
   obtain ⟨p,e5,sq⟩:=zd8 r1 qk
   dsimp only at e3 e5
   subst e3 e5
   cases (show u = Value.ref _ from ry)
   cases (show v = Value.ref p from rx)
   refine zrM (by omega) I e4 sq fun s' I'=>⟨.bl _,S.H,I',rfl,?_⟩
   rw [rk.isSome k]
   exact fin S _ rfl (.refl m) (.bl _)
  ·exact fin.elim
 ·exact zpo pins s σ H x y v u Q I rx ry ⟨S,⟨tx,ty⟩,e,m,⟨r1,r2⟩,fin⟩
theorem zgE (hu:X.A.units + 64 < cLine):OpR X (compareOp .NotIn) (lR2 XE X.K zb7):=by
 intro pins s σ H x y v u Q I rx ry ⟨S,⟨tx,ty⟩,e,m,⟨r1,r2⟩,fin⟩
 replace fin:Fin XE (Rep X.K) X.K S (zb7 tx ty S.M) Q:=fin
 unfold zb7 at fin
 split at fin
 ·subst e
  rename_i kvs q
  split at fin
  ·rename_i k qk
   obtain ⟨a,us,_,_,e3,e4,rk⟩:=zcv m r2 q
   obtain ⟨p,e5,sq⟩:=zd8 r1 qk
   dsimp only at e3 e5
   subst e3 e5
   cases (show u = Value.ref _ from ry)
   cases (show v = Value.ref p from rx)
   refine zm9 (by omega) I e4 sq fun s' I'=>⟨.bl _,S.H,I',rfl,?_⟩
   rw [rk.isSome k]
   exact fin S _ rfl (.refl m) (.bl _)
  ·exact fin.elim
 ·exact znE pins s σ H x y v u Q I rx ry ⟨S,⟨tx,ty⟩,e,m,⟨r1,r2⟩,fin⟩
noncomputable def zhw:Ev->Mem->Out T:=fun _ M=>.ok (.ref M.length) (M ++ [.dtu []])
noncomputable def ze2 (t:T) (M:Mem):Bool:=(zdk t M).isSome
theorem zkF {K:Frag} {S:Sit} (m:MemOk K S) {t:T} {x:V} (r:Rep K S t x) (h:ze2 t S.M = true):tyV K "dict" x S.H:=by
 unfold ze2 at h
 cases q:zdk t S.M with
 | none=>rw [q] at h;cases h
 | some kvs=>
  obtain ⟨a,us,_,_,rfl,e4,_⟩:=zcv m r q
  exact .inr (.inr (.inl ⟨rfl,.inr ⟨us,e4⟩⟩))
noncomputable def zcP:T->List T->Mem->Out T:=fun d ts M=>match zdk d M,ts with
 | some kvs,[y]=>match zik y with
  | some k=>.ok ((zF kvs k).getD .non) M
  | none=>.bad
 | some kvs,[y,z]=>match zik y with
  | some k=>.ok ((zF kvs k).getD z) M
  | none=>.bad
 | _,_=>.bad
theorem zib (hu:X.A.units + 64 < cLine):MtR X "dict.get" (lMt XE X.K zcP):=by
 intro pins s σ H x xs v us Q I rx rs ⟨S,⟨tx,ts⟩,e,m,⟨r1,r2⟩,fin⟩
 subst e
 replace r1:Rep X.K S tx x:=r1
 replace r2:Reps X.K S ts xs:=r2
 replace fin:Fin XE (Rep X.K) X.K S (zcP tx ts S.M) Q:=fin
 unfold zcP at fin
 split at fin
 ·rename_i kvs y q
  split at fin
  ·rename_i k qk
   obtain ⟨a,ks,_,_,rfl,e4,rk⟩:=zcv m r1 q
   obtain ⟨w1,ws,rfl,h1,h2⟩:=r2.consT
   cases h2.nilT
   cases rs with | cons a1 a2=>
   cases a2
   cases (show v = Value.ref _ from rx)
   obtain ⟨p,rfl,sq⟩:=zd8 h1 qk
   cases a1
   exact zoE (by omega) I e4 sq fun w' s' I' rw'=>⟨_,S.H,I',rw',fin S _ rfl (.refl m) (rk.getD k .non)⟩
  ·exact fin.elim
 ·rename_i kvs y z q
  split at fin
  ·rename_i k qk
   obtain ⟨a,ks,_,_,rfl,e4,rk⟩:=zcv m r1 q
   obtain ⟨w1,ws,rfl,h1,h2⟩:=r2.consT
   obtain ⟨w2,ws,rfl,h3,h4⟩:=h2.consT
   cases h4.nilT
   cases rs with | cons a1 a2=>
   cases a2 with | cons a2 a3=>
   cases a3
   cases (show v = Value.ref _ from rx)
   obtain ⟨p,rfl,sq⟩:=zd8 h1 qk
   cases a1
   exact zoD (by omega) I e4 sq a2 fun w' s' I' rw'=>⟨_,S.H,I',rw',fin S _ rfl (.refl m) (rk.getD k h3)⟩
  ·exact fin.elim
 ·exact fin.elim
noncomputable def zdt (o x:T) (lo hi:Option Int) (t:T) (M:Mem):Out Unit:=match o,x with
 | .ref a,.tup xs=>match M[a]?,zil (zbU xs lo hi) with
  | some (.dtu kvs),some ks=>if kvs.length < sizeLine/\¬ (HT.sIx xs.length 0 lo = 0/\HT.sIx xs.length xs.length hi = xs.length) then .ok () (M.set a (.dtu (zcK kvs ks t))) else .bad
  | _,_=>.bad
 | _,_=>.bad
noncomputable def zgl (f g:Ev->Mem->Out T) (p q:Ev->Mem->Out (Option Int)):T->Ev->Mem->Out Ev:=fun t σ M=>(f σ M).bind fun o M1=>(g σ M1).bind fun x M2=>(p σ M2).bind fun lo M3=>(q σ M3).bind fun hi M4=>(zdt o x lo hi t M4).bind fun _ M5=>.ok σ M5
end
section
theorem zlT {pos:Pos}:WE X XE (.Dict [] [] pos) zhw:=⟨PE.imp zmb fun σ H Q ⟨S,στ,_,e,m,ev,_,fin⟩ p hp=>by
 subst e
 have s1:Stp X.K S (S.more p (.dT []) (.dtu [])):=Stp.more m hp _ _ ⟨[],yC,.nil⟩
 have r1:Rep X.K (S.more p (.dT []) (.dtu [])) (.ref S.M.length) (.ref p):=by
  have h0:S.M.length < (S.M ++ [Cell.dtu []]).length:=by simp
  have:=Rep.ref (K:=X.K) (S:=S.more p (.dT []) (.dtu [])) (a:=S.M.length) h0
  have e1:(S.more p (.dT []) (.dtu [])).α S.M.length = p:=QA rfl
  rw [e1] at this
  exact this
 exact fin (S.more p (.dT []) (.dtu [])) (.ref p) rfl s1 r1⟩
theorem zlS {lo hi:Option Expr} {pos:Pos} (hu:X.A.units + 64 < cLine) (ho:WE X XE o f) (he:WE X XE e g) (hl:WO X XE lo p) (hh:WO X XE hi q) (ha:∀ v,assign (.Subscript o (.Subscript e (.Slice lo hi none p2) p3) pos) X.env v = (do
 let ov ← holding [v] (eval o X.env)
 let iv ← holding [v,ov] (eval (.Subscript e (.Slice lo hi none p2) p3) X.env)
 standAt pos
 holding [v,ov,iv] (setItem ov iv v)
 release [v,ov,iv] []):=by intro _;rfl):WG X XE (.Subscript o (.Subscript e (.Slice lo hi none p2) p3) pos) (zgl f g p q):=by
 have ho:=ho.pe
 have he:=he.pe
 have hl:=hl.pe
 have hh:=hh.pe
 exact ⟨PG.imp (zkV ho (zfx zjq he hl hh) (zqY hu) ha) fun v σ H Q hh=>by
  have h1:LN XE (EvR X.K) X.K (Rep X.K) (fun t σ M=>(f σ M).bind fun o M1=>(g σ M1).bind fun x M2=>(p σ M2).bind fun lo M3=>(q σ M3).bind fun hi M4=>(zdt o x lo hi t M4).bind fun _ M5=>.ok σ M5) v σ H Q:=hh
  refine LN.mono (LN.env (f:=f) (LN.bind (f:=fun _ σ M=>f σ M) (k:=fun t o σ M1=>(g σ M1).bind fun x M2=>(p σ M2).bind fun lo M3=>(q σ M3).bind fun hi M4=>(zdt o x lo hi t M4).bind fun _ M5=>.ok σ M5) (RB:=Rep X.K) h1)) fun ov H1 h2=>?_
  refine LN.mono (LN.env (f:=g) (LN.bind (f:=fun _ σ M=>g σ M) (k:=fun (to:T × T) x σ M2=>(p σ M2).bind fun lo M3=>(q σ M3).bind fun hi M4=>(zdt to.2 x lo hi to.1 M4).bind fun _ M5=>.ok σ M5) (RB:=Rep X.K) h2)) fun xv H2 h3=>?_
  refine LN.mono (LN.env (f:=p) (LN.bind (f:=fun _ σ M=>p σ M) (k:=fun (to:(T × T) × T) lo σ M3=>(q σ M3).bind fun hi M4=>(zdt to.1.2 to.2 lo hi to.1.1 M4).bind fun _ M5=>.ok σ M5) (RB:=EqR) h3)) fun l H3 h4=>?_
  refine LN.mono (LN.env (f:=q) (LN.bind (f:=fun _ σ M=>q σ M) (k:=fun (to:((T × T) × T) × Option Int) hi σ M4=>(zdt to.1.1.2 to.1.2 to.2 hi to.1.1.1 M4).bind fun _ M5=>.ok σ M5) (RB:=EqR) h4)) fun w H4 h5=>?_
  obtain ⟨S,στ,⟨⟨⟨⟨tv,to⟩,tx⟩,tl⟩,th⟩,e,m,ev,⟨⟨⟨⟨r1,r2⟩,r3⟩,r4⟩,r5⟩,fin⟩:=h5
  replace r4:tl = l:=r4
  replace r5:th = w:=r5
  subst r4 r5 e
  replace r1:Rep X.K S tv v:=r1
  replace r2:Rep X.K S to ov:=r2
  replace r3:Rep X.K S tx xv:=r3
  replace fin:Fin XE (EvR X.K) X.K S ((zdt to tx tl th tv S.M).bind fun _ M5=>.ok στ M5) Q:=fin
  unfold zdt at fin
  split at fin
  ·rename_i a xs
   split at fin
   ·rename_i kvs ks qa qk
    split at fin
    ·rename_i hz
     cases r2
     cases r3 with
     | @tup _ pb vs h0 l0 r0=>
     obtain ⟨us,h4,rk⟩:=m.cell _ _ qa
     have rr:Reps X.K S xs vs:=⟨l0,r0⟩
     refine ⟨pb,vs,rfl,h0,fun z=>absurd z (by rw [← l0];exact hz.2),fun _ c hc=>?_⟩
     have s1:=Stp.new m hc (.tup (cutV vs tl th))
     have hne:S.α a ≠ c:=fun z=>by rw [z,hc] at h4;cases h4
     refine ⟨S.α a,us,ks,c,rfl,rfl,(zm hne).trans h4,by rw [yC,zfC (rr.cutV tl th) qk],by rw [← rk.length];exact hz.1,?_⟩
     have m1:=s1.mok
     have s2:Stp X.K ⟨S.α,S.M,upd S.H c (.tup (cutV vs tl th)),S.hid⟩ (Sit.put ⟨S.α,S.M,upd S.H c (.tup (cutV vs tl th)),S.hid⟩ a (.dT (putK us ks v)) (.dtu (zcK kvs ks tv))):=by
      have ha:a < S.M.length:=(Qz.mp qa).1
      exact Stp.put m1 ha _ _ ⟨_,yC,((rk.grow m s1.toGrow).put ks (r1.grow m s1.toGrow)).grow m1 (Grow.put m1 ha _ _)⟩
     exact fin _ σ rfl (s1.trans s2) (Mo.mo m (s1.trans s2) ev)
    ·exact fin.elim
   ·exact fin.elim
  ·exact fin.elim⟩
end
def Ok {β:Type} (o:Out β) (Q:β->Mem->Prop):Prop:=∃ b M,o = .ok b M/\Q b M
variable {M:Mem}
theorem Ok.ret {β:Type} {b:β} {Q:β->Mem->Prop} (h:Q b M):Ok (.ok b M) Q:=⟨b,M,rfl,h⟩
theorem Ok.of {β:Type} {o:Out β} {b:β} {Q:β->Mem->Prop} (e:o = .ok b M) (h:Q b M):Ok o Q:=⟨b,M,e,h⟩
theorem Ok.bind {β γ:Type} {o:Out β} {k:β->Mem->Out γ} {P:β->Mem->Prop} {Q:γ->Mem->Prop} (h:Ok o P) (g:∀ b M,P b M->Ok (k b M) Q):Ok (o.bind k) Q:=by
 obtain ⟨b,M,e,p⟩:=h
 rw [e]
 exact g b M p
theorem Ok.mono {β:Type} {o:Out β} {P Q:β->Mem->Prop} (h:Ok o P) (g:∀ b M,P b M->Q b M):Ok o Q:=by
 obtain ⟨b,M,e,p⟩:=h
 exact ⟨b,M,e,g b M p⟩
theorem zmN {β γ δ:Type} {o:Out β} {k:β->Mem->Out γ} {l:γ->Mem->Out δ}:(o.bind k).bind l = o.bind fun b M=>(k b M).bind l:=by cases o <;> rfl
theorem zsp {β γ:Type} {p:Prop} [Decidable p] {x y:Out β} {k:β->Mem->Out γ}:(if p then x else y).bind k = if p then x.bind k else y.bind k:=by split <;> rfl
theorem zso {β γ:Type} {t:T} {k:Bool->Mem->Out β} {l:β->Mem->Out γ}:(blT t M k).bind l = blT t M fun b M=>(k b M).bind l:=by cases t <;> rfl
noncomputable def zcE (fl:Fl) (M:Mem):Out T:=match fl with
 | .rt t=>.ok t M
 | .nx _=>.ok .non M
 | _=>.bad
theorem zsv {t:T} :zcE (.rt t) M = .ok t M:=rfl
variable {σ:Ev}
theorem zsw:zcE (.nx σ) M = .ok .non M:=rfl
variable {n:Nat}
theorem qB {p:Nat} {g:Ev->Mem->Out Fl} {ts:List T} {Q:T->Mem->Prop} (h:ts.length = p) (k:Ok ((g (startT n ts) M).bind zcE) Q):Ok (yi p n g ts M) Q:=by
 obtain ⟨b,M1,e,q⟩:=k
 refine ⟨b,M1,?_,q⟩
 rw [zkN h]
 cases r:g (startT n ts) M with
 | bad=>rw [r] at e;cases e
 | exn C fs M'=>rw [r] at e;cases e
 | ok fl M'=>
  rw [r] at e
  cases fl with
  | rt t=>exact e
  | nx σ=>exact e
  | bk σ=>cases e
  | ct σ=>cases e
def Fr (S:List Nat) (M M':Mem):Prop:=M.length<=M'.length/\∀ i,i < M.length->i ∉ S->M'[i]? = M[i]?
theorem Fr.refl (S:List Nat) (M:Mem):Fr S M M:=⟨Q3 _,fun _ _ _=>rfl⟩
variable {A B C:Mem}
theorem Fr.trans {S:List Nat} (h:Fr S A B) (g:Fr S B C):Fr S A C:=⟨Qj h.1 g.1,fun i hi hs=>by rw [g.2 i (Q5 hi h.1) hs,h.2 i hi hs]⟩
variable {S':List Nat}
theorem Fr.tr {S:List Nat} (h:Fr S A B) (g:Fr S' B C) (s:∀ i ∈ S',i ∈ S\/A.length<=i):Fr S A C:=⟨Qj h.1 g.1,fun i hi hs=>by
 rw [g.2 i (Q5 hi h.1) (fun z=>by rcases s i z with a | a;exact hs a;omega),h.2 i hi hs]⟩
variable {M':Mem} {i:Nat}
theorem Fr.get {S:List Nat} (h:Fr S M M') {c:Cell} (e:M[i]? = some c) (hs:i ∉ S):M'[i]? = some c:=by
 rw [h.2 i (Qz.mp e).1 hs];exact e
theorem Fr.get0 (h:Fr [] M M') {c:Cell} (e:M[i]? = some c):M'[i]? = some c:=h.get e (by simp)
theorem Fr.sub {S:List Nat} (h:Fr S M M') (s:∀ i ∈ S,i ∈ S'\/M.length<=i):Fr S' M M':=⟨h.1,fun i hi hs=>h.2 i hi fun z=>by
 rcases s i z with a | a
 ·exact hs a
 ·omega⟩
theorem Fr.app (M:Mem) (l:List Cell):Fr [] M (M ++ l):=⟨by simp,fun i hi _=>by rw [Q6 hi]⟩
theorem Fr.set (M:Mem) (a:Nat) (c:Cell):Fr [a] M (M.set a c):=⟨by simp,fun i _ hs=>by rw [Qc,QB (by simp at hs;omega)]⟩
theorem Fr.mono {S:List Nat} (h:Fr [] M M'):Fr S M M':=h.sub (fun i hi=>by simp at hi)
theorem qI {c:Cell} (e:M[i]? = some c):i < M.length:=(Qz.mp e).1
theorem zI {c:Cell}:(M ++ [c])[M.length]? = some c:=List.getElem?_concat_length
theorem get_set {a:Nat} {c c':Cell} (e:M[a]? = some c):(M.set a c')[a]? = some c':=by
 rw [Qc,QA rfl,QA (qI e)]
theorem Ok.loop {bd:T->Ev->Mem->Out Ev} {body:Ev->Mem->Out Fl} {α:Type} {r:α->T} (P:Nat->Ev->Mem->Prop) {R:T->Mem->Prop}:∀ (xs:List α) (i:Nat) {σ:Ev} {M:Mem},
  P i σ M->(∀ (k:Nat) x σ M,xs[k]? = some x->P (i + k) σ M->Ok ((bd (r x) σ M).bind fun σ1 M1=>body σ1 M1) fun fl M'=>(∃ σ',(fl = .nx σ'\/fl = .ct σ')/\P (i + k + 1) σ' M')\/(∃ σ',fl = .bk σ'/\P (i + xs.length) σ' M')\/∃ t,fl = .rt t/\R t M')->
  Ok (forL bd body (xs.map r) σ M) fun fl M'=>(∃ σ',fl = .nx σ'/\P (i + xs.length) σ' M')\/∃ t,fl = .rt t/\R t M'
 | [],i,σ,M,h,_=>⟨.nx σ,M,rfl,.inl ⟨σ,rfl,h⟩⟩
 | x :: xs,i,σ,M,h,t=>by
  obtain ⟨fl,M1,e1,h1⟩:=t 0 x σ M rfl h
  rw [QG,zls]
  cases q:bd (r x) σ M with
  | bad=>rw [q] at e1;cases e1
  | exn C fs M'=>rw [q] at e1;cases e1
  | ok σ3 M3=>
   rw [q] at e1
   replace e1:body σ3 M3 = .ok fl M1:=e1
   show Ok ((body σ3 M3).bind (y8 (forL bd body (xs.map r)))) _
   rw [e1]
   have go:∀ σ1,P (i + 1) σ1 M1->Ok (forL bd body (xs.map r) σ1 M1) fun fl M'=>(∃ σ',fl = .nx σ'/\P (i + (x :: xs).length) σ' M')\/∃ t,fl = .rt t/\R t M':=fun σ1 h1=>by
    have ih:=Ok.loop (R:=R) P xs (i + 1) (bd:=bd) (body:=body) h1 (fun k y σ M hk hp=>by
     have:=t (k + 1) y σ M (by simpa using hk) (by rw [show i + (k + 1) = i + 1 + k by omega];exact hp)
     rw [show i + (k + 1) + 1 = i + 1 + k + 1 by omega,Qp,show i + (xs.length + 1) = i + 1 + xs.length by omega] at this
     exact this)
    rw [Qp,show i + (xs.length + 1) = i + 1 + xs.length by omega]
    exact ih
   rcases h1 with ⟨σ1,h1 | h1,h2⟩ | ⟨σ1,h1,h2⟩ | ⟨u,h1,h2⟩
   ·rw [h1];exact go σ1 h2
   ·rw [h1];exact go σ1 h2
   ·rw [h1];exact ⟨.nx σ1,M1,rfl,.inl ⟨σ1,rfl,h2⟩⟩
   ·rw [h1];exact ⟨.rt u,M1,rfl,.inr ⟨u,rfl,h2⟩⟩
variable {body:Ev->Mem->Out Fl} {bd:T->Ev->Mem->Out Ev}
theorem Ok.for {α:Type} {r:α->T} (P:Nat->Ev->Mem->Prop) {xs:List α} 
 (h:P 0 σ M) (t:∀ (k:Nat) x σ M,xs[k]? = some x->P k σ M->Ok ((bd (r x) σ M).bind fun σ1 M1=>body σ1 M1) fun fl M'=>∃ σ',fl = .nx σ'/\P (k + 1) σ' M') :
  Ok (forL bd body (xs.map r) σ M) fun fl M'=>∃ σ',fl = .nx σ'/\P xs.length σ' M':=by
 refine (Ok.loop (R:=fun _ _=>False) P xs 0 h (fun k x σ M hk hp=>?_)).mono ?_
 ·rw [Nat.zero_add] at hp
  refine (t k x σ M hk hp).mono ?_
  rintro fl M' ⟨σ',e,q⟩
  exact .inl ⟨σ',.inl e,by rw [Nat.zero_add];exact q⟩
 ·rintro fl M' (⟨σ',e,q⟩ | ⟨t,_,f⟩)
  ·exact ⟨σ',e,by rw [Nat.zero_add] at q;exact q⟩
  ·exact f.elim
theorem Ok.comp {bd:T->Ev->Mem->Out Ev} {cond:Ev->Mem->Out Bool} {el:Ev->Mem->Out T} {α:Type} {r:α->T} (P:Nat->List T->Ev->Mem->Prop):∀ (xs:List α) {σ:Ev} {M:Mem} (i:Nat) (acc:List T),
  P i acc σ M->acc.length + xs.length<=sizeLine->(∀ (k:Nat) x σ M acc,xs[k]? = some x->P (i + k) acc σ M->Ok ((bd (r x) σ M).bind fun σ1 M1=>(cond σ1 M1).bind fun b M2=>if b = true then (el σ1 M2).bind fun t M3=>.ok (some t,σ1) M3 else .ok (none,σ1) M2) fun o M'=>P (i + k + 1) (match o.1 with | some t=>acc ++ [t] | none=>acc) o.2 M')->
  Ok (yz bd cond el (xs.map r) σ M acc) fun ts M'=>∃ σ',P (i + xs.length) ts σ' M'
 | [],σ,M,i,acc,h,_,_=>⟨acc,M,by simp [yz],σ,h⟩
 | x :: xs,σ,M,i,acc,h,hl,t=>by
  obtain ⟨o,M1,e1,h1⟩:=t 0 x σ M acc rfl h
  rw [Qp] at hl
  rw [QG]
  unfold yz
  have go:∀ acc σ1 M1,acc.length + xs.length<=sizeLine->P (i + 1) acc σ1 M1->Ok (yz bd cond el (xs.map r) σ1 M1 acc) fun ts M'=>∃ σ',P (i + (x :: xs).length) ts σ' M':=fun acc σ1 M1 hl h1=>by
   have ih:=Ok.comp P xs (i + 1) acc (bd:=bd) (cond:=cond) (el:=el) h1 hl (fun k y σ M acc hk hp=>by
    have:=t (k + 1) y σ M acc (by simpa using hk) (by rw [show i + (k + 1) = i + 1 + k by omega];exact hp)
    rw [show i + (k + 1) + 1 = i + 1 + k + 1 by omega] at this
    exact this)
   rw [Qp,show i + (xs.length + 1) = i + 1 + xs.length by omega]
   exact ih
  cases q:bd (r x) σ M with
  | bad=>rw [q] at e1;cases e1
  | exn C fs M'=>rw [q] at e1;cases e1
  | ok σ3 M3=>
   rw [q] at e1
   replace e1:((cond σ3 M3).bind fun b M2=>if b = true then (el σ3 M2).bind fun t M3=>.ok (some t,σ3) M3 else .ok (none,σ3) M2) = .ok o M1:=e1
   show Ok ((cond σ3 M3).bind _) _
   cases q2:cond σ3 M3 with
   | bad=>rw [q2] at e1;cases e1
   | exn C fs M'=>rw [q2] at e1;cases e1
   | ok b M4=>
    rw [q2] at e1
    cases b with
    | false=>
     replace e1:(Out.ok (none,σ3) M4:Out (Option T × Ev)) = .ok o M1:=e1
     cases e1
     exact go acc σ3 _ (by omega) h1
    | true=>
     replace e1:((el σ3 M4).bind fun t M3=>.ok (some t,σ3) M3) = .ok o M1:=e1
     show Ok ((el σ3 M4).bind _) _
     cases q3:el σ3 M4 with
     | bad=>rw [q3] at e1;cases e1
     | exn C fs M'=>rw [q3] at e1;cases e1
     | ok u M5=>
      rw [q3] at e1
      replace e1:(Out.ok (some u,σ3) M5:Out (Option T × Ev)) = .ok o M1:=e1
      cases e1
      show Ok (if acc.length < sizeLine then _ else _) _
      rw [QA (by omega)]
      exact go (acc ++ [u]) σ3 _ (by rw [Qn,Qp,length_nil];omega) h1
theorem Ok.whileN {c:Ev->Mem->Out Bool} {body:Ev->Mem->Out Fl} (P:Ev->Mem->Prop) (μ:Ev->Mem->Nat) {Q:Ev->Mem->Prop} {R:T->Mem->Prop}
  (t:∀ σ M,P σ M->Ok (c σ M) fun b M1=>(b = true/\Ok (body σ M1) fun fl M2=>(∃ σ',(fl = .nx σ'\/fl = .ct σ')/\P σ' M2/\μ σ' M2 < μ σ M)\/(∃ σ',fl = .bk σ'/\Q σ' M2)\/∃ t,fl = .rt t/\R t M2)\/(b = false/\Q σ M1)) :
  ∀ (n:Nat) (σ:Ev) (M:Mem),μ σ M < n->P σ M->Ok (whileN c body n σ M) fun fl M'=>(∃ σ',fl = .nx σ'/\Q σ' M')\/∃ t,fl = .rt t/\R t M'
 | 0,_,_,hn,_=>absurd hn (by omega)
 | n + 1,σ,M,hn,h=>by
  obtain ⟨b,M1,e,r⟩:=t σ M h
  unfold FT.whileN
  rw [e]
  rcases r with ⟨rfl,fl,M2,e2,r⟩ | ⟨rfl,q⟩
  ·show Ok ((body σ M1).bind _) _
   rw [e2]
   rcases r with ⟨σ1,h1 | h1,h2,h3⟩ | ⟨σ1,h1,h2⟩ | ⟨u,h1,h2⟩
   ·rw [h1];exact Ok.whileN P μ t n σ1 M2 (by omega) h2
   ·rw [h1];exact Ok.whileN P μ t n σ1 M2 (by omega) h2
   ·rw [h1];exact ⟨.nx σ1,M2,rfl,.inl ⟨σ1,rfl,h2⟩⟩
   ·rw [h1];exact ⟨.rt u,M2,rfl,.inr ⟨u,rfl,h2⟩⟩
  ·exact ⟨.nx σ,M1,rfl,.inl ⟨σ,rfl,q⟩⟩
theorem Ok.while {c:Ev->Mem->Out Bool} (P:Ev->Mem->Prop) (μ:Ev->Mem->Nat) {Q:Ev->Mem->Prop} {R:T->Mem->Prop} (h:P σ M)
 (t:∀ σ M,P σ M->Ok (c σ M) fun b M1=>(b = true/\Ok (body σ M1) fun fl M2=>(∃ σ',(fl = .nx σ'\/fl = .ct σ')/\P σ' M2/\μ σ' M2 < μ σ M)\/(∃ σ',fl = .bk σ'/\Q σ' M2)\/∃ t,fl = .rt t/\R t M2)\/(b = false/\Q σ M1)) :
  Ok (zhX c body σ M) fun fl M'=>(∃ σ',fl = .nx σ'/\Q σ' M')\/∃ t,fl = .rt t/\R t M':=by
 obtain ⟨fl,M',e,r⟩:=Ok.whileN P μ t (μ σ M + 1) σ M (by omega) h
 exact ⟨fl,M',zkM _ e (by simp),r⟩
noncomputable def rgI (n:Nat):List Int:=(List.range n).map fun (k:Nat)=>(k:Int)
theorem zb6 (n:Nat):(rgI n).length = n:=by simp [rgI]
variable {x:Int} {k:Nat}
theorem zcS (h:(rgI n)[k]? = some x):k < n/\x = k:=by
 unfold rgI at h
 rw [Qb] at h
 cases q:(List.range n)[k]? with
 | none=>rw [q] at h;cases h
 | some j=>
  rw [q] at h
  have hk:k < n:=by have:=(Qz.mp q).1;simpa using this
  rw [getElem?_range hk] at q
  cases q
  exact ⟨hk,(Qd h).symm⟩
theorem zl1 (n:Nat):zds 0 n = (rgI n).map .int:=by
 unfold zds rgI
 rw [map_map]
 congr 1
 funext k
 simp
variable {j:Int}
theorem za9 (h:-(2 ^ 62)<=j/\j < 2 ^ 62):zd3 [.int j] M = .ok ((rgI j.toNat).map .int) M:=by rw [zoR h,zl1]
noncomputable def rgF (lo:Int) (n:Nat):List Int:=(List.range n).map fun (k:Nat)=>lo + (k:Int)
theorem zni {lo:Int} (h:(rgF lo n)[k]? = some x):k < n/\x = lo + k:=by
 unfold rgF at h
 rw [Qb] at h
 cases q:(List.range n)[k]? with
 | none=>rw [q] at h;cases h
 | some j=>
  rw [q] at h
  have hk:k < n:=by have:=(Qz.mp q).1;simpa using this
  rw [getElem?_range hk] at q
  cases q
  exact ⟨hk,(Qd h).symm⟩
theorem znh {i:Int} (h:(-(2 ^ 62)<=i/\i < 2 ^ 62)/\(-(2 ^ 62)<=j/\j < 2 ^ 62)):zfw [.int i,.int j] M = .ok ((rgF i (j - i).toNat).map .int) M:=by
 rw [show zfw [.int i,.int j] M = .ok (zds i (j - i).toNat) M from QA h]
 unfold zds rgF
 rw [map_map]
 rfl
theorem zpS (h:0<=x/\x < n):ixN n x = some x.toNat:=by
 unfold ixN
 rw [QA (by omega)]
 simp
 try omega
variable {el:Ev->Mem->Out T}
theorem Ok.filt {cond:Ev->Mem->Out Bool} {α:Type} {r:α->T} (I:Ev->Prop) (c:α->Bool) (f:α->T) {xs:List α} (h:I σ) (hl:xs.length<=1000000)
 (t:∀ x σ,x ∈ xs->I σ->∃ σ1,bd (r x) σ M = .ok σ1 M/\I σ1/\cond σ1 M = .ok (c x) M/\(c x = true->el σ1 M = .ok (f x) M)):yz bd cond el (xs.map r) σ M [] = .ok ((xs.filter c).map f) M:=by
 have key:∀ (xs:List α) (σ:Ev) (acc:List T),(∀ x σ,x ∈ xs->I σ->∃ σ1,bd (r x) σ M = .ok σ1 M/\I σ1/\cond σ1 M = .ok (c x) M/\(c x = true->el σ1 M = .ok (f x) M))->I σ->acc.length + xs.length<=sizeLine->yz bd cond el (xs.map r) σ M acc = .ok (acc ++ (xs.filter c).map f) M:=by
  intro xs
  induction xs with
  | nil=>intro σ acc _ _ _;simp [yz]
  | cons x xs ih=>
   intro σ acc t h hl
   obtain ⟨σ1,e1,h1,e2,e3⟩:=t x σ (.head _) h
   rw [Qp] at hl
   rw [QG]
   unfold yz
   rw [e1]
   show ((cond σ1 M).bind _) = _
   rw [e2]
   cases hc:c x with
   | true=>
    have ih:=ih σ1 (acc ++ [f x]) (fun y σ hy=>t y σ (.tail _ hy)) h1 (by rw [Qn,Qp,length_nil];omega)
    show ((el σ1 M).bind _) = _
    rw [e3 hc]
    show (if acc.length < sizeLine then yz bd cond el (xs.map r) σ1 M (acc ++ [f x]) else .bad) = _
    rw [QA (by omega),ih,List.filter_cons_of_pos hc]
    simp
   | false=>
    have ih:=ih σ1 acc (fun y σ hy=>t y σ (.tail _ hy)) h1 (by omega)
    show yz bd cond el (xs.map r) σ1 M acc = _
    rw [ih,List.filter_cons_of_neg (by rw [hc];exact Q4)]
 have:=key xs σ [] t h (by rw [length_nil,Nat.zero_add];exact Qj hl (by decide))
 rw [this,nil_append]
theorem Ok.mapc {α:Type} {r:α->T} (I:Ev->Prop) (f:α->T) {xs:List α} (h:I σ) (hl:xs.length<=1000000)
 (t:∀ x σ,x ∈ xs->I σ->∃ σ1,bd (r x) σ M = .ok σ1 M/\I σ1/\el σ1 M = .ok (f x) M):yz bd qM el (xs.map r) σ M [] = .ok (xs.map f) M:=by
 have:=Ok.filt (cond:=qM) I (fun _=>true) f h hl (fun x σ hx hs=>by
  obtain ⟨σ1,a,b,c⟩:=t x σ hx hs
  exact ⟨σ1,a,b,rfl,fun _=>c⟩)
 rw [this,List.filter_eq_self.mpr (fun _ _=>rfl)]
theorem zk6 {a:Nat} {xs:List T} (e:M[a]? = some (.lst xs)):qv (.ref a) M = some xs:=by
 unfold qv
 simp only [e]
theorem Ok.loopG {G:Gd} {bd:T->Ev->Mem->Out Ev} {body:Ev->Mem->Out Fl} {α:Type} {r:α->T} (P:Nat->Ev->Mem->Prop) {R:T->Mem->Prop} (hG:∀ i σ M,P i σ M->zaZ G M):∀ (xs:List α) (i:Nat) {σ:Ev} {M:Mem},
  P i σ M->(∀ (k:Nat) x σ M,xs[k]? = some x->P (i + k) σ M->Ok ((bd (r x) σ M).bind fun σ1 M1=>body σ1 M1) fun fl M'=>(∃ σ',(fl = .nx σ'\/fl = .ct σ')/\P (i + k + 1) σ' M')\/(∃ σ',fl = .bk σ'/\P (i + xs.length) σ' M')\/∃ t,fl = .rt t/\R t M')->
  Ok (forG G bd body (xs.map r) σ M) fun fl M'=>(∃ σ',fl = .nx σ'/\P (i + xs.length) σ' M')\/∃ t,fl = .rt t/\R t M'
 | [],i,σ,M,h,_=>⟨.nx σ,M,by rw [map_nil];unfold forG;exact zcs (hG _ _ _ h),.inl ⟨σ,rfl,h⟩⟩
 | x :: xs,i,σ,M,h,t=>by
  obtain ⟨fl,M1,e1,h1⟩:=t 0 x σ M rfl h
  rw [QG]
  unfold forG
  rw [zcs (hG _ _ _ h)]
  cases q:bd (r x) σ M with
  | bad=>rw [q] at e1;cases e1
  | exn C fs M'=>rw [q] at e1;cases e1
  | ok σ3 M3=>
   rw [q] at e1
   replace e1:body σ3 M3 = .ok fl M1:=e1
   show Ok ((body σ3 M3).bind (y8 (forG G bd body (xs.map r)))) _
   rw [e1]
   have go:∀ σ1,P (i + 1) σ1 M1->Ok (forG G bd body (xs.map r) σ1 M1) fun fl M'=>(∃ σ',fl = .nx σ'/\P (i + (x :: xs).length) σ' M')\/∃ t,fl = .rt t/\R t M':=fun σ1 h1=>by
    have ih:=Ok.loopG (R:=R) P hG xs (i + 1) (bd:=bd) (body:=body) h1 (fun k y σ M hk hp=>by
     have:=t (k + 1) y σ M (by simpa using hk) (by rw [show i + (k + 1) = i + 1 + k by omega];exact hp)
     rw [show i + (k + 1) + 1 = i + 1 + k + 1 by omega,Qp,show i + (xs.length + 1) = i + 1 + xs.length by omega] at this
     exact this)
    rw [Qp,show i + (xs.length + 1) = i + 1 + xs.length by omega]
    exact ih
   rcases h1 with ⟨σ1,h1 | h1,h2⟩ | ⟨σ1,h1,h2⟩ | ⟨u,h1,h2⟩
   ·rw [h1];exact go σ1 h2
   ·rw [h1];exact go σ1 h2
   ·rw [h1];exact ⟨.nx σ1,M1,rfl,.inl ⟨σ1,rfl,h2⟩⟩
   ·rw [h1];exact ⟨.rt u,M1,rfl,.inr ⟨u,rfl,h2⟩⟩
theorem Ok.forG {G:Gd} {α:Type} {r:α->T} (P:Nat->Ev->Mem->Prop) {xs:List α} (hG:∀ i σ M,P i σ M->zaZ G M)
 (h:P 0 σ M) (t:∀ (k:Nat) x σ M,xs[k]? = some x->P k σ M->Ok ((bd (r x) σ M).bind fun σ1 M1=>body σ1 M1) fun fl M'=>∃ σ',fl = .nx σ'/\P (k + 1) σ' M') :
  Ok (forG G bd body (xs.map r) σ M) fun fl M'=>∃ σ',fl = .nx σ'/\P xs.length σ' M':=by
 refine (Ok.loopG (R:=fun _ _=>False) P hG xs 0 h (fun k x σ M hk hp=>?_)).mono ?_
 ·rw [Nat.zero_add] at hp
  refine (t k x σ M hk hp).mono ?_
  rintro fl M' ⟨σ',e,q⟩
  exact .inl ⟨σ',.inl e,by rw [Nat.zero_add];exact q⟩
 ·rintro fl M' (⟨σ',e,q⟩ | ⟨t,_,f⟩)
  ·exact ⟨σ',e,by rw [Nat.zero_add] at q;exact q⟩
  ·exact f.elim
def OkX {β:Type} (o:Out β) (Q:β->Mem->Prop) (E:Addr->List (Str × T)->Mem->Prop):Prop:=match o with
 | .ok b M=>Q b M
 | .exn C fs M=>E C fs M
 | .bad=>False
variable {E:Addr->List (Str × T)->Mem->Prop}
theorem OkX.ok {β:Type} {o:Out β} {Q:β->Mem->Prop} (h:Ok o Q):OkX o Q E:=by
 obtain ⟨b,M,rfl,q⟩:=h
 exact q
theorem OkX.bind {β γ:Type} {o:Out β} {k:β->Mem->Out γ} {P:β->Mem->Prop} {Q:γ->Mem->Prop} (h:OkX o P E) (g:∀ b M,P b M->OkX (k b M) Q E):OkX (o.bind k) Q E:=by
 cases o with
 | ok b M=>exact g b M h
 | exn C fs M=>exact h
 | bad=>exact h.elim
end FT
namespace My
open PySem L2 FT
noncomputable def top (i:Nat):Stmt:=PySem.Challenge.pw_tryweir_k40_whole_tries_counted.main.body.getD i (.Pass ⟨0,0,0,0⟩)
noncomputable abbrev zft:Stmt:=top 45
noncomputable abbrev zez:Stmt:=top 46
noncomputable abbrev zfv:Stmt:=top 47
noncomputable abbrev zgu:Stmt:=top 48
noncomputable abbrev zgv:Stmt:=top 44
noncomputable abbrev zd1:Stmt:=inClass (top 15) 0
noncomputable abbrev zeA:Stmt:=top 16
noncomputable abbrev zcz:Stmt:=top 25
noncomputable abbrev zbx:Stmt:=top 26
noncomputable abbrev zbj:Stmt:=top 28
noncomputable abbrev zdp:Stmt:=top 9
noncomputable abbrev zdU:Stmt:=top 17
noncomputable abbrev zc4:Stmt:=top 18
noncomputable abbrev zc3:Stmt:=top 19
noncomputable abbrev zdY:Stmt:=top 27
noncomputable abbrev zdr:Stmt:=top 29
noncomputable abbrev zdX:Stmt:=top 5
noncomputable abbrev zdq:Stmt:=top 7
noncomputable abbrev zdZ:Stmt:=top 30
noncomputable abbrev zcB:Stmt:=top 35
noncomputable abbrev zd0:Stmt:=top 10
noncomputable abbrev zcC:Stmt:=inClass (top 14) 0
noncomputable abbrev zcl:Stmt:=top 21
noncomputable abbrev za8:Stmt:=top 22
noncomputable abbrev zbM:Stmt:=top 23
noncomputable abbrev zfW:Stmt:=top 24
noncomputable abbrev zhW:Stmt:=top 31
noncomputable abbrev zdo:Stmt:=top 20
noncomputable abbrev zdn:Stmt:=top 32
noncomputable abbrev zgx:Stmt:=top 33
noncomputable abbrev zdW:Stmt:=top 34
noncomputable abbrev zfs:Stmt:=top 36
noncomputable abbrev zdV:Stmt:=top 41
noncomputable abbrev zex:Stmt:=top 37
noncomputable abbrev zkb:Stmt:=top 38
noncomputable abbrev zfu:Stmt:=top 43
noncomputable abbrev zcA:Stmt:=top 11
noncomputable abbrev zdT:Stmt:=top 39
noncomputable abbrev zgw:Stmt:=top 49
noncomputable abbrev zbi:Stmt:=top 50
noncomputable abbrev zey:Stmt:=top 40
noncomputable abbrev zbL:Stmt:=top 51
noncomputable abbrev zkc:Stmt:=top 52
structure Txt (K:Frag) (mg:Str->Option Value) (kE kR:Addr):Prop where
 cls_Errand:Cls K kE
 cls_Run:Cls K kR
 na_Errand_asked:NoAttr K kE "asked"
 na_Errand_caller:NoAttr K kE "caller"
 na_Errand_house:NoAttr K kE "house"
 na_Errand_is_lost:NoAttr K kE "is_lost"
 na_Errand_state:NoAttr K kE "state"
 na_Errand_stood:NoAttr K kE "stood"
 na_Run_came:NoAttr K kR "came"
 na_Run_errands:NoAttr K kR "errands"
 na_Run_net:NoAttr K kR "net"
 na_Run_payments:NoAttr K kR "payments"
 na_Run_puts:NoAttr K kR "puts"
 na_Run_taken:NoAttr K kR "taken"
 n_range:mg "range" = none
 n_len:mg "len" = none
 n_min:mg "min" = none
 n_int:mg "int" = none
 n_tuple:mg "tuple" = none
 n_max:mg "max" = none
 n_isinstance:mg "isinstance" = none
 n_bool:mg "bool" = none
 n_all:mg "all" = none
 n_sum:mg "sum" = none
 c_FRESH:∃ a,mg "FRESH" = some (.ref a)/\KTu K a [.str "fresh"]
theorem boot_range:bootBuiltins "range" = some (.type "range"):=by decide +kernel
theorem boot_len:bootBuiltins "len" = some (.builtin "len"):=by decide +kernel
theorem boot_min:bootBuiltins "min" = some (.builtin "min"):=by decide +kernel
theorem boot_int:bootBuiltins "int" = some (.type "int"):=by decide +kernel
theorem boot_tuple:bootBuiltins "tuple" = some (.type "tuple"):=by decide +kernel
theorem boot_max:bootBuiltins "max" = some (.builtin "max"):=by decide +kernel
theorem boot_isinstance:bootBuiltins "isinstance" = some (.builtin "isinstance"):=by decide +kernel
theorem boot_bool:bootBuiltins "bool" = some (.type "bool"):=by decide +kernel
theorem boot_all:bootBuiltins "all" = some (.builtin "all"):=by decide +kernel
theorem boot_sum:bootBuiltins "sum" = some (.builtin "sum"):=by decide +kernel
end My
theorem FT.nc_l {k:PySem.NameKind} {P:Prop} (e:(k == .cell || k == .free) = false) (h:k = .cell\/k = .free):P:=by
 rcases h with rfl | rfl
 ·exact absurd e (by decide)
 ·exact absurd e (by decide)
open PySem L2 FT in
local macro_rules | `(tactic| bv_omega) => `(tactic| exact ⟨rfl, rfl, by decide +kernel, rfl, by decide +kernel, by first | exact (fun _ _ h => h) | exact zie (by repeat (first | exact True.intro | refine ⟨rfl, ?_⟩)), fun _ => zpY (by repeat (first | exact True.intro | (refine ⟨?_, ?_⟩; first | exact (fun _ => ⟨_, rfl⟩) | exact nc_l rfl | exact (fun h => h.elim (fun h => nomatch h) (fun h => nomatch h))))), by repeat (first | exact List.forall_mem_nil _ | refine List.forall_mem_cons.mpr ⟨⟨rfl, rfl, by first | exact .inl rfl | exact .inr rfl⟩, ?_⟩)⟩)
namespace My
open PySem L2 FT
noncomputable def ziz (kE kR:Addr):Ev->Mem->Out Fl:=
 (zh (sIf (zk (eOp gtI (eOp ixT (yb 0) (eC (.int 0))) (eC (.int 0)))) (zh (qr 2 (eOp zby (eOp ixT (yb 0) (eC (.int 0))) (yb 1)))
 (zh (zcD (eOp zdw (eOp ixT (yb 0) (eC (.int 0))) (yb 1)) (zkz zgq (yb 0) (eC (.int 0))))
 (yy (yb 2)))) qE)
 (zh (zcD (eOp qU (eOp ixT (yb 0) (eC (.int 2))) (eC (.int 1))) (zkz zgq (yb 0) (eC (.int 2))))
 (zh (qr 3 (eOp zby (eOp qU (eOp ixT (yb 0) (eC (.int 1))) (eOp yT (eC (.int 7919)) (eOp ixT (yb 0) (eC (.int 2))))) (eC (.int 1000000007))))
 (zh (qr 4 (eOp zby (eOp yT (eOp qU (yb 3) (eC (.int 11))) (eOp qU (yb 3) (eC (.int 48271)))) (eC (.int 998244353))))
 (yy (eOp zby (eOp zdw (eOp zby (eOp yT (yb 4) (yb 4)) (eC (.int 2147483647))) (eC (.int 8))) (yb 1)))))))
noncomputable def zy (kE kR:Addr):List FT.T->Mem->Out FT.T:=yi 2 5 (ziz kE kR)
variable {kE kR:Addr} {K:Frag} {base:Heap} {P:Program} {mg:Str->Option Value} {w:World}
section
theorem zde:FnScope ["pool","base","digit","mark","stir"] ["pool","base"] (yf zft):=by ac_rfl
theorem zw (D:Df K mg "_law_next" zft ["pool","base"]) (T:Txt K mg kE kR)   :CalT P w K mg base 1 "_law_next" ["pool","base"] (zy kE kR):=
 zr D zde rfl rfl (fun f cdv A outer s H E hr=>(yd (yw (zi zbN (qd qg (za (pv 0)) yc (fun _ _=>rfl)) yc (yk _)) (yd (zj (i:=2) zde.nd rfl (Or.inl rfl) (zn zaK (qd qg (za (pv 0)) yc (fun _ _=>rfl)) (za (pv 1))))
  (yd (zbA (zn zeX (qd qg (za (pv 0)) yc (fun _ _=>rfl)) (za (pv 1))) (zjj (za (pv 0)) yc zj8))
  (ye (zo (za (pv 2)))))) qu)
  (yd (zbA (zn yH (qd qg (za (pv 0)) yc (fun _ _=>rfl)) yc) (zjj (za (pv 0)) yc zj8))
  (yd (zj (i:=3) zde.nd rfl (Or.inl rfl) (zn zaK (zn yH (qd qg (za (pv 0)) yc (fun _ _=>rfl)) (zn zaJ yc (qd qg (za (pv 0)) yc (fun _ _=>rfl)))) yc))
  (yd (zj (i:=4) zde.nd rfl (Or.inl rfl) (zn zaK (zn zaJ (zn yH (za (pv 3)) yc) (zn yH (za (pv 3)) yc)) yc))
  (ye (zo (zn zaK (zn zeX (zn zaK (zn zaJ (za (pv 4)) (za (pv 4))) yc) yc) (za (pv 1))))))))))
end
noncomputable def zgm (kE kR:Addr):Ev->Mem->Out Fl:=
 (zh (qr 8 (eOp qU (eOp qU (ziL (yb 3) zcm (zbO (yb 4))) (eOp ixS (yb 2) (eOp zby (eOp qU (yb 5) (eOp yT (eC (.int 5)) (yb 7))) (eC (.int 26))))) (ziL (yb 3) (zbO (yb 4)) zcm)))
 (yJ (zaP z9 (eUn yL (yb 6)) (zb (eOp qU (yb 8) (eOp zgH (eOp ixS (yb 2) (yb 5)) (eOp zby (yb 7) (eC (.int 2))))) zd))))
noncomputable def zg7 (kE kR:Addr):Ev->Mem->Out Fl:=
 (zh (qr 2 (eC (.str "abcdefghijklmnopqrstuvwxyz")))
 (zh (qr 3 (qY isStr ze1 (eC (.str "")) (zb (eFz (qN (zQ (zb (ze (zy kE kR) (zb (yb 0) (zb (eC (.int 7)) zd))) zd)) (yn 0) qM (eOp ixS (yb 1) (ze (zy kE kR) (zb (yb 2) (zb (eC (.int 26)) zd)))) ["k"] [("abc",2),("pool",0)])) zd)))
 (zh (qr 4 (ze (zy kE kR) (zb (yb 0) (zb (eOp qU (ze (yp yu) (zb (yb 3) zd)) (eC (.int 1))) zd))))
 (zh (qr 5 (ze (zy kE kR) (zb (yb 0) (zb (eC (.int 26)) zd))))
 (zh (qr 6 (eTk (zD zd)))
 (zh (zc5 (zQ (zb (yb 1) zd)) (yn 7) (zgm kE kR))
 (yy (yb 6))))))))
noncomputable def zcu (kE kR:Addr):List FT.T->Mem->Out FT.T:=yi 2 9 (zg7 kE kR)
section
theorem zaf:FnScope ["pool","many","abc","base","at","first","found","k","name"] ["pool","many"] (yf zez):=by ac_rfl
theorem zbE (D:Df K mg "_law_words" zez ["pool","many"]) (T:Txt K mg kE kR)   (zw:CalT P w K mg base 1 "_law_next" ["pool","base"] (zy kE kR)):CalT P w K mg base 2 "_law_words" ["pool","many"] (zcu kE kR):=
 zr D zaf rfl rfl (fun f cdv A outer s H E hr=>(yd (zj (i:=2) zaf.nd rfl (Or.inr rfl) qp)
  (yd (zj (i:=3) zaf.nd rfl (Or.inl rfl) (zbw ty_str (zZ PySem.F.plainAttrs_str PySem.F.slot_str_join PySem.F.type_str_join zmi (WE.pe qp) (WA.pe (ya (zH (zaR (tgs:=["k"]) (caps:=[("abc",2),("pool",0)]) (zR rfl T.n_range (ya (yg zw (hr.mono (by decide)) rfl (ya (za (pv 0)) (ya yc zc))) zc)) (by bv_omega) (fun _ _ _=>(qo (yr (i:=0) (show (["k","abc","pool"]:List Str).Nodup by decide +kernel) rfl (by first | exact Or.inl rfl | exact Or.inr rfl)))) (fun _ _ _=>zaq) (fun _ _ _=>(qd zmo (za (pv 1)) (yg zw (hr.mono (by decide)) rfl (ya (za (pv 2)) (ya yc zc))) (fun _ _=>rfl))))) zc)))))
  (yd (zj (i:=4) zaf.nd rfl (Or.inl rfl) (yg zw (hr.mono (by decide)) rfl (ya (za (pv 0)) (ya (zn yH (qi yo rfl T.n_len boot_len (ya (za (pv 3)) zc)) yc) zc))))
  (yd (zj (i:=5) zaf.nd rfl (Or.inl rfl) (yg zw (hr.mono (by decide)) rfl (ya (za (pv 0)) (ya yc zc))))
  (yd (zj (i:=6) zaf.nd rfl (Or.inl rfl) (zad (yB zc)))
  (yd (zbz PassesOwn.never rfl (zR rfl T.n_range (ya (za (pv 1)) zc)) (qo (yr (i:=7) zaf.nd rfl (by first | exact Or.inl rfl | exact Or.inr rfl))) (yd (zj (i:=8) zaf.nd rfl (Or.inl rfl) (zn yH (zn yH (zjk (za (pv 3)) zbv (zaQ (za (pv 4)))) (qd zmo (za (pv 2)) (zn zaK (zn yH (za (pv 5)) (zn zaJ yc (za (pv 7)))) yc) (fun _ _=>rfl))) (zjk (za (pv 3)) (zaQ (za (pv 4))) zbv)))
  (ye (zx (zac (zZ QC QF QE qK (WE.pe (za (pv 6))) (WA.pe (ya (zn yH (za (pv 8)) (zn znF (qd zmo (za (pv 2)) (za (pv 5)) (fun _ _=>rfl)) (zn zaK (za (pv 7)) yc))) zc))))))))
  (ye (zo (za (pv 6)))))))))))
end
noncomputable def zhi (kE kR:Addr):Ev->Mem->Out Fl:=
 (zh (qr 6 (eOp ixT (yb 1) (ze (zy kE kR) (zb (yb 0) (zb (ze (yp yu) (zb (yb 1) zd)) zd)))))
 (zh (qr 7 (eOp ixT (eFz (zD (zb (eC (.int 1)) (zb (eC (.int 2)) (zb (eC (.int 2)) (zb (eC (.int 3)) (zb (eC (.int 4)) (zb (eC (.int 0)) (zb (eC (.int 0)) (zb (eC (.int 1)) zd)))))))))) (ze (zy kE kR) (zb (yb 0) (zb (eC (.int 8)) zd)))))
 (zh (qr 8 (eOp ixT (eFz (lOp ziS (eFz (zD (zb (eC .non) zd))) (eFz (lOp zgA (yb 2) (eC (.int 2)))))) (ze (zy kE kR) (zb (yb 0) (zb (eOp qU (eC (.int 1)) (eOp yT (eC (.int 2)) (ze (yp yu) (zb (yb 2) zd)))) zd)))))
 (zh (qr 9 (eOp ixT (eFz (zD (zb (eC (.str "bad")) (zb (eC (.str "bad")) (zb (eC (.str "spent")) zd))))) (ze (zy kE kR) (zb (yb 0) (zb (eC (.int 3)) zd)))))
 (yJ (zaP z9 (eUn yL (yb 4)) (zb (yD (zb (yb 6) (zb (yb 7) (zb (yb 8) (zb (yb 9) (zb (eOp eqA (ze (zy kE kR) (zb (yb 0) (zb (eC (.int 2)) zd))) (eC (.int 0))) (zb (eOp eqA (ze (zy kE kR) (zb (yb 0) (zb (eC (.int 3)) zd))) (eC (.int 0))) zd))))))) zd)))))))
noncomputable def ziB (kE kR:Addr):Ev->Mem->Out Fl:=
 (zh (qr 4 (eTk (zD zd)))
 (zh (zc5 (zQ (zb (eOp yT (ze (call2 zgK) (zb (yb 3) (zb (eOp ixT (eFz (zD (zb (eC (.int 1)) (zb (eC (.int 1)) (zb (eC (.int 2)) (zb (eC (.int 2)) (zb (eC (.int 3)) (zb (eC (.int 0)) (zb (eC (.int 2)) (zb (eC (.int 1)) zd)))))))))) (ze (zy kE kR) (zb (yb 0) (zb (eC (.int 8)) zd)))) zd))) (ze (yp ziq) (zb (eOp neA (yb 1) (eFz (zD zd))) zd))) zd)) (yn 5) (zhi kE kR))
 (yy (ze (yp zbH) (zb (yb 4) zd)))))
noncomputable def zeg (kE kR:Addr):List FT.T->Mem->Out FT.T:=yi 4 10 (ziB kE kR)
section
theorem zaT:FnScope ["pool","later","purses","most","found","k","to","tries","purse","word"] ["pool","later","purses","most"] (yf zfv):=by ac_rfl
theorem zdb (D:Df K mg "_law_asks" zfv ["pool","later","purses","most"]) (T:Txt K mg kE kR)   (zw:CalT P w K mg base 1 "_law_next" ["pool","base"] (zy kE kR)):CalT P w K mg base 2 "_law_asks" ["pool","later","purses","most"] (zeg kE kR):=
 zr D zaT rfl rfl (fun f cdv A outer s H E hr=>(yd (zj (i:=4) zaT.nd rfl (Or.inl rfl) (zad (yB zc)))
  (yd (zbz PassesOwn.never rfl (zR rfl T.n_range (ya (zn zaJ (qi (zeP rfl) rfl T.n_min boot_min (ya (za (pv 3)) (ya (qd qg (zH (yB (ya yc (ya yc (ya yc (ya yc (ya yc (ya yc (ya yc (ya yc zc)))))))))) (yg zw (hr.mono (by decide)) rfl (ya (za (pv 0)) (ya yc zc))) (fun _ _=>rfl)) zc))) (zbG zhc rfl T.n_int boot_int (ya (zab (zap hr.units) (za (pv 1)) (zH (yB zc)) (yk _)) zc))) zc)) (qo (yr (i:=5) zaT.nd rfl (by first | exact Or.inl rfl | exact Or.inr rfl))) (yd (zj (i:=6) zaT.nd rfl (Or.inl rfl) (qd qg (za (pv 1)) (yg zw (hr.mono (by decide)) rfl (ya (za (pv 0)) (ya (qi yo rfl T.n_len boot_len (ya (za (pv 1)) zc)) zc))) (fun _ _=>rfl)))
  (yd (zj (i:=7) zaT.nd rfl (Or.inl rfl) (qd qg (zH (yB (ya yc (ya yc (ya yc (ya yc (ya yc (ya yc (ya yc (ya yc zc)))))))))) (yg zw (hr.mono (by decide)) rfl (ya (za (pv 0)) (ya yc zc))) (fun _ _=>rfl)))
  (yd (zj (i:=8) zaT.nd rfl (Or.inl rfl) (qd qg (zH (zkC znJ (zH (yB (ya yV zc))) (zH (zkC znC (za (pv 2)) yc)))) (yg zw (hr.mono (by decide)) rfl (ya (za (pv 0)) (ya (zn yH yc (zn zaJ yc (qi yo rfl T.n_len boot_len (ya (za (pv 2)) zc)))) zc))) (fun _ _=>rfl)))
  (yd (zj (i:=9) zaT.nd rfl (Or.inl rfl) (qd qg (zH (yB (ya qp (ya qp (ya qp zc))))) (yg zw (hr.mono (by decide)) rfl (ya (za (pv 0)) (ya yc zc))) (fun _ _=>rfl)))
  (ye (zx (zac (zZ QC QF QE qK (WE.pe (za (pv 4))) (WA.pe (ya (yx (ya (za (pv 6)) (ya (za (pv 7)) (ya (za (pv 8)) (ya (za (pv 9)) (ya (zab (yE hr.units) (yg zw (hr.mono (by decide)) rfl (ya (za (pv 0)) (ya yc zc))) yc (yk _)) (ya (zab (yE hr.units) (yg zw (hr.mono (by decide)) rfl (ya (za (pv 0)) (ya yc zc))) yc (yk _)) zc))))))) zc)))))))))))
  (ye (zo (zbG zdy rfl T.n_tuple boot_tuple (ya (za (pv 4)) zc)))))))
end
noncomputable def zfM (kE kR:Addr):Ev->Mem->Out Fl:=
 (zh (qr 6 (ze (zeg kE kR) (zb (yb 0) (zb (eSl (yb 1) (zbO (eOp qU (yb 5) (eC (.int 1)))) zcm) (zb (yb 2) (zb (ze (call2 zgK) (zb (eC (.int 3)) (zb (yb 4) zd))) zd))))))
 (zh (qr 4 (eOp zbJ (yb 4) (ze (yp yu) (zb (yb 6) zd))))
 (yJ (zaP z9 (eUn yL (yb 3)) (zb (yD (zb (eOp ixT (yb 1) (yb 5)) (zb (yb 6) zd))) zd)))))
noncomputable def zfL (kE kR:Addr):Ev->Mem->Out Fl:=
 (zh (qr 9 (eOp ixT (eFz (zD (zb (eC (.str "first")) (zb (eC (.str "any")) zd)))) (ze (zy kE kR) (zb (yb 0) (zb (eC (.int 2)) zd)))))
 (yJ (zaP z9 (eUn yL (yb 7)) (zb (yD (zb (yb 8) (zb (yb 9) (zb (eOp ixT (eFz (zD (zb (eC (.int 1)) (zb (eC (.int 1)) (zb (eC (.int 2)) (zb (eC (.int 3)) (zb (eOp qU (eC (.int 1)) (ze (zy kE kR) (zb (yb 0) (zb (eC (.int 9)) zd)))) zd))))))) (ze (zy kE kR) (zb (yb 0) (zb (eC (.int 5)) zd)))) zd)))) zd))))
noncomputable def zjN (kE kR:Addr):Ev->Mem->Out Fl:=
 (zh (qr 1 (ze (zcu kE kR) (zb (yb 0) (zb (eOp ixT (eFz (zD (zb (eC (.int 2)) (zb (eC (.int 3)) (zb (eC (.int 3)) (zb (eC (.int 4)) (zb (eC (.int 4)) (zb (eC (.int 3)) (zb (eC (.int 2)) (zb (eC (.int 1)) zd)))))))))) (ze (zy kE kR) (zb (yb 0) (zb (eC (.int 8)) zd)))) zd))))
 (zh (qr 2 (ze (zcu kE kR) (zb (yb 0) (zb (eOp ixT (eFz (zD (zb (eC (.int 0)) (zb (eC (.int 1)) (zb (eC (.int 1)) (zb (eC (.int 2)) zd)))))) (ze (zy kE kR) (zb (yb 0) (zb (eC (.int 4)) zd)))) zd))))
 (zh (sIf (zk (eOp eqA (ze (zy kE kR) (zb (yb 0) (zb (eC (.int 8)) zd))) (eC (.int 0)))) (qr 2 (eSl (eRv (yb 1) (zbO (eUn zia (eC (.int 1))))) zcm (zbO (ze (yp yu) (zb (yb 2) zd))))) qE)
 (zh (qr 3 (eTk (zD zd)))
 (zh (qr 4 (eC (.int 6)))
 (zh (zc5 (zQ (zb (ze (yp yu) (zb (yb 1) zd)) zd)) (yn 5) (zfM kE kR))
 (zh (qr 7 (eTk (zD zd)))
 (zh (zd2 (zau (yb 2)) (yn 8) (zfL kE kR))
 (yy (yD (zb (ze (yp zbH) (zb (yb 3) zd)) (zb (ze (yp zbH) (zb (yb 7) zd)) zd))))))))))))
noncomputable def ze5 (kE kR:Addr):List FT.T->Mem->Out FT.T:=yi 1 10 (zjN kE kR)
section
theorem yX:FnScope ["pool","houses","purses","some","room","k","asks","rows","name","which"] ["pool"] (yf zgu):=by ac_rfl
theorem zdN (D:Df K mg "_law_net" zgu ["pool"]) (T:Txt K mg kE kR)   (zbE:CalT P w K mg base 2 "_law_words" ["pool","many"] (zcu kE kR)) (zw:CalT P w K mg base 1 "_law_next" ["pool","base"] (zy kE kR)) (zdb:CalT P w K mg base 2 "_law_asks" ["pool","later","purses","most"] (zeg kE kR)):CalT P w K mg base 3 "_law_net" ["pool"] (ze5 kE kR):=
 zr D yX rfl rfl (fun f cdv A outer s H E hr=>(yd (zj (i:=1) yX.nd rfl (Or.inl rfl) (yg zbE (hr.mono (by decide)) rfl (ya (za (pv 0)) (ya (qd qg (zH (yB (ya yc (ya yc (ya yc (ya yc (ya yc (ya yc (ya yc (ya yc zc)))))))))) (yg zw (hr.mono (by decide)) rfl (ya (za (pv 0)) (ya yc zc))) (fun _ _=>rfl)) zc))))
  (yd (zj (i:=2) yX.nd rfl (Or.inl rfl) (yg zbE (hr.mono (by decide)) rfl (ya (za (pv 0)) (ya (qd qg (zH (yB (ya yc (ya yc (ya yc (ya yc zc)))))) (yg zw (hr.mono (by decide)) rfl (ya (za (pv 0)) (ya yc zc))) (fun _ _=>rfl)) zc))))
  (yd (yw (zi (yE hr.units) (yg zw (hr.mono (by decide)) rfl (ya (za (pv 0)) (ya yc zc))) yc (yk _)) (ye (zj (i:=2) yX.nd rfl (Or.inl rfl) (zfO (zoA (za (pv 1)) (zaQ (zoz zm8 yc))) zbv (zaQ (qi yo rfl T.n_len boot_len (ya (za (pv 2)) zc)))))) qu)
  (yd (zj (i:=3) yX.nd rfl (Or.inl rfl) (zad (yB zc)))
  (yd (zj (i:=4) yX.nd rfl (Or.inl rfl) yc)
  (yd (zbz PassesOwn.never rfl (zR rfl T.n_range (ya (qi yo rfl T.n_len boot_len (ya (za (pv 1)) zc)) zc)) (qo (yr (i:=5) yX.nd rfl (by first | exact Or.inl rfl | exact Or.inr rfl))) (yd (zj (i:=6) yX.nd rfl (Or.inl rfl) (yg zdb (hr.mono (by decide)) rfl (ya (za (pv 0)) (ya (zfO (za (pv 1)) (zaQ (zn yH (za (pv 5)) yc)) zbv) (ya (za (pv 2)) (ya (qi (zeP rfl) rfl T.n_min boot_min (ya yc (ya (za (pv 4)) zc))) zc))))))
  (yd (zj (i:=4) yX.nd rfl (Or.inl rfl) (zn zaI (za (pv 4)) (qi yo rfl T.n_len boot_len (ya (za (pv 6)) zc))))
  (ye (zx (zac (zZ QC QF QE qK (WE.pe (za (pv 3))) (WA.pe (ya (yx (ya (qd qg (za (pv 1)) (za (pv 5)) (fun _ _=>rfl)) (ya (za (pv 6)) zc))) zc)))))))))
  (yd (zj (i:=7) yX.nd rfl (Or.inl rfl) (zad (yB zc)))
  (yd (zhD PassesOwn.never rfl (zb1 (za (pv 2))) (qo (yr (i:=8) yX.nd rfl (by first | exact Or.inl rfl | exact Or.inr rfl))) (yd (zj (i:=9) yX.nd rfl (Or.inl rfl) (qd qg (zH (yB (ya qp (ya qp zc)))) (yg zw (hr.mono (by decide)) rfl (ya (za (pv 0)) (ya yc zc))) (fun _ _=>rfl)))
  (ye (zx (zac (zZ QC QF QE qK (WE.pe (za (pv 7))) (WA.pe (ya (yx (ya (za (pv 8)) (ya (za (pv 9)) (ya (qd qg (zH (yB (ya yc (ya yc (ya yc (ya yc (ya (zn yH yc (yg zw (hr.mono (by decide)) rfl (ya (za (pv 0)) (ya yc zc)))) zc))))))) (yg zw (hr.mono (by decide)) rfl (ya (za (pv 0)) (ya yc zc))) (fun _ _=>rfl)) zc)))) zc))))))))
  (ye (zo (yx (ya (zbG zdy rfl T.n_tuple boot_tuple (ya (za (pv 3)) zc)) (ya (zbG zdy rfl T.n_tuple boot_tuple (ya (za (pv 7)) zc)) zc))))))))))))))
end
noncomputable def zjO (kE kR:Addr):Ev->Mem->Out Fl:=
 (yy (eTk (zD (zb (ze (call2 zid) (zb (eC (.int 0)) (zb (eOp zbJ (yb 0) (eOp zke (eC (.int 10)) (eC (.int 18)))) zd))) (zb (eOp zby (yb 0) (eOp zke (eC (.int 10)) (eC (.int 18)))) (zb (eC (.int 0)) zd))))))
noncomputable def zcV (kE kR:Addr):List FT.T->Mem->Out FT.T:=yi 1 1 (zjO kE kR)
section
theorem zlX:FnScope ["cell"] ["cell"] (yf zgv):=by ac_rfl
theorem zcX (D:Df K mg "_law_dig" zgv ["cell"]) (T:Txt K mg kE kR)   :CalT P w K mg base 1 "_law_dig" ["cell"] (zcV kE kR):=
 zr D zlX rfl rfl (fun f cdv A outer s H E hr=>(ye (zo (zad (yB (ya (qi (zhb rfl) rfl T.n_max boot_max (ya yc (ya (zn zaI (za (pv 0)) (zn zjz yc yc)) zc))) (ya (zn zaK (za (pv 0)) (zn zjz yc yc)) (ya yc zc))))))))
end
noncomputable def zgc (kE kR:Addr):Ev->Mem->Out Fl:=
 (zh (qD [kR] "net" (yb 0) (yb 1))
 (zh (qD [kR] "came" (yb 0) (eC (.int 0)))
 (zh (qD [kR] "errands" (yb 0) (eTk (zD zd)))
 (zh (qD [kR] "puts" (yb 0) (eTk (qN (zb9 (eOp ixT (yb 1) (eC (.int 1)))) (yn 0) qM (eTk (zD zd)) ["purse"] [])))
 (zh (qD [kR] "payments" (yb 0) (eTk (zD zd)))
 (qD [kR] "taken" (yb 0) (eTk (qN (zb9 (eOp ixT (yb 1) (eC (.int 1)))) (yn 0) qM (eC (.int 0)) ["purse"] []))))))))
noncomputable def zbe (kE kR:Addr):List FT.T->Mem->Out FT.T:=yi 2 2 (zgc kE kR)
section
theorem zi9:FnScope ["self","net"] ["self","net"] (yf zd1):=by ac_rfl
theorem zf2 (D:Di K mg "Run" "Run.__init__" kR zd1 ["self","net"]) (T:Txt K mg kE kR)   :MakT P w K mg base 1 "Run" kR ["self","net"] (zbe kE kR):=
 zjh D zi9 rfl rfl (fun f cdv A outer s H E hr=>(yd (zL (zf ⟨T.cls_Run,T.na_Run_net⟩ zg) (za (pv 0)) (za (pv 1)))
  (yd (zL (zf ⟨T.cls_Run,T.na_Run_came⟩ zg) (za (pv 0)) yc)
  (yd (zL (zf ⟨T.cls_Run,T.na_Run_errands⟩ zg) (za (pv 0)) (zad (yB zc)))
  (yd (zL (zf ⟨T.cls_Run,T.na_Run_puts⟩ zg) (za (pv 0)) (zad (zaR (tgs:=["purse"]) (caps:=[]) (zb2 (qd qg (za (pv 1)) yc (fun _ _=>rfl))) (by bv_omega) (fun _ _ _=>(qo (yr (i:=0) (show (["purse"]:List Str).Nodup by decide +kernel) rfl (by first | exact Or.inl rfl | exact Or.inr rfl)))) (fun _ _ _=>zaq) (fun _ _ _=>(zad (yB zc))))))
  (yd (zL (zf ⟨T.cls_Run,T.na_Run_payments⟩ zg) (za (pv 0)) (zad (yB zc)))
  (ye (zL (zf ⟨T.cls_Run,T.na_Run_taken⟩ zg) (za (pv 0)) (zad (zaR (tgs:=["purse"]) (caps:=[]) (zb2 (qd qg (za (pv 1)) yc (fun _ _=>rfl))) (by bv_omega) (fun _ _ _=>(qo (yr (i:=0) (show (["purse"]:List Str).Nodup by decide +kernel) rfl (by first | exact Or.inl rfl | exact Or.inr rfl)))) (fun _ _ _=>zaq) (fun _ _ _=>yc)))))))))))
end
noncomputable def zg8 (kE kR:Addr):Ev->Mem->Out Fl:=
 (yy (eOp ixT (eOp ixT (eOp ixT (ym [kR] "net" (yb 0)) (eC (.int 0))) (ym [kE] "house" (eOp ixT (ym [kR] "errands" (yb 0)) (yb 1)))) (eC (.int 1))))
noncomputable def zC (kE kR:Addr):List FT.T->Mem->Out FT.T:=yi 2 2 (zg8 kE kR)
section
theorem zka:FnScope ["run","number"] ["run","number"] (yf zeA):=by ac_rfl
theorem zq (D:Df K mg "asks_of" zeA ["run","number"]) (T:Txt K mg kE kR)   :CalT P w K mg base 1 "asks_of" ["run","number"] (zC kE kR):=
 zr D zka rfl rfl (fun f cdv A outer s H E hr=>(ye (zo (qd qg (qd qg (qd qg (yj (zf ⟨T.cls_Run,T.na_Run_net⟩ zg) (za (pv 0))) yc (fun _ _=>rfl)) (yj (zf ⟨T.cls_Errand,T.na_Errand_house⟩ zg) (qd qg (yj (zf ⟨T.cls_Run,T.na_Run_errands⟩ zg) (za (pv 0))) (za (pv 1)) (fun _ _=>rfl))) (fun _ _=>rfl)) yc (fun _ _=>rfl)))))
end
noncomputable def zep (kE kR:Addr):Ev->Mem->Out Fl:=
 (zh (qr 2 (eOp ixT (ym [kR] "errands" (yb 0)) (yb 1)))
 (zh (sIf (zai (zk (eOp isN (ym [kE] "caller" (yb 2)) (eC .non))) (zai (zk (ym [kE] "is_lost" (yb 2))) (zk (eOp eqA (eOp ixT (ym [kE] "state" (yb 2)) (eC (.int 0))) (eC (.str "ended")))))) (yy (eC (.bl false))) qE)
 (yy (zkt (eOp ixT (eOp ixT (ze (zC kE kR) (zb (yb 0) (zb (eOp ixT (ym [kE] "caller" (yb 2)) (eC (.int 0))) zd))) (eOp ixT (ym [kE] "caller" (yb 2)) (eC (.int 1)))) (eC (.int 5)))))))
noncomputable def zaD (kE kR:Addr):List FT.T->Mem->Out FT.T:=yi 2 3 (zep kE kR)
section
theorem zdF:FnScope ["run","number","errand"] ["run","number"] (yf zcz):=by ac_rfl
theorem zaF (D:Df K mg "may_be_lost" zcz ["run","number"]) (T:Txt K mg kE kR)   (zq:CalT P w K mg base 1 "asks_of" ["run","number"] (zC kE kR)):CalT P w K mg base 2 "may_be_lost" ["run","number"] (zaD kE kR):=
 zr D zdF rfl rfl (fun f cdv A outer s H E hr=>(yd (zj (i:=2) zdF.nd rfl (Or.inl rfl) (qd qg (yj (zf ⟨T.cls_Run,T.na_Run_errands⟩ zg) (za (pv 0))) (za (pv 1)) (fun _ _=>rfl)))
  (yd (yw (WW.gt (z5 (zi zdJ (yj (zf ⟨T.cls_Errand,T.na_Errand_caller⟩ zg) (za (pv 2))) yV (yk _)) (z5 (zaa (yj (zf ⟨T.cls_Errand,T.na_Errand_is_lost⟩ zg) (za (pv 2)))) (y9 (zi (yE hr.units) (qd qg (yj (zf ⟨T.cls_Errand,T.na_Errand_state⟩ zg) (za (pv 2))) yc (fun _ _=>rfl)) qp (yk _)))))) (ye (zo zP)) qu)
  (ye (zo (zjl (qd qg (qd qg (yg zq (hr.mono (by decide)) rfl (ya (za (pv 0)) (ya (qd qg (yj (zf ⟨T.cls_Errand,T.na_Errand_caller⟩ zg) (za (pv 2))) yc (fun _ _=>rfl)) zc))) (qd qg (yj (zf ⟨T.cls_Errand,T.na_Errand_caller⟩ zg) (za (pv 2))) yc (fun _ _=>rfl)) (fun _ _=>rfl)) yc (fun _ _=>rfl))))))))
end
noncomputable def zc8 (kE kR:Addr):Ev->Mem->Out Fl:=
 (zh (qr 2 (ym [kE] "state" (eOp ixT (ym [kR] "errands" (yb 0)) (yb 1))))
 (zh (sIf (zk (eOp neA (eOp ixT (yb 2) (eC (.int 0))) (eC (.str "stands")))) (yy (eC (.bl false))) qE)
 (zh (qr 3 (eOp ixT (eOp ixT (ze (zC kE kR) (zb (yb 0) (zb (yb 1) zd))) (eOp ixT (yb 2) (eC (.int 1)))) (eC (.int 1))))
 (yy (eOr (eOp eqA (yb 3) (eC (.int 0))) (eOp ltI (eOp ixT (yb 2) (eC (.int 2))) (yb 3)))))))
noncomputable def y6 (kE kR:Addr):List FT.T->Mem->Out FT.T:=yi 2 4 (zc8 kE kR)
section
theorem zbh:FnScope ["run","number","state","tries"] ["run","number"] (yf zbx):=by ac_rfl
theorem z8 (D:Df K mg "has_tries_left" zbx ["run","number"]) (T:Txt K mg kE kR)   (zq:CalT P w K mg base 1 "asks_of" ["run","number"] (zC kE kR)):CalT P w K mg base 2 "has_tries_left" ["run","number"] (y6 kE kR):=
 zr D zbh rfl rfl (fun f cdv A outer s H E hr=>(yd (zj (i:=2) zbh.nd rfl (Or.inl rfl) (yj (zf ⟨T.cls_Errand,T.na_Errand_state⟩ zg) (qd qg (yj (zf ⟨T.cls_Run,T.na_Run_errands⟩ zg) (za (pv 0))) (za (pv 1)) (fun _ _=>rfl))))
  (yd (yw (zi (zap hr.units) (qd qg (za (pv 2)) yc (fun _ _=>rfl)) qp (yk _)) (ye (zo zP)) qu)
  (yd (zj (i:=3) zbh.nd rfl (Or.inl rfl) (qd qg (qd qg (yg zq (hr.mono (by decide)) rfl (ya (za (pv 0)) (ya (za (pv 1)) zc))) (qd qg (za (pv 2)) yc (fun _ _=>rfl)) (fun _ _=>rfl)) yc (fun _ _=>rfl)))
  (ye (zo (zkD (zab (yE hr.units) (za (pv 3)) yc (yk _)) (zdC (zab zeB (qd qg (za (pv 2)) yc (fun _ _=>rfl)) (za (pv 3)) (yk _))))))))))
end
noncomputable def zcM (kE kR:Addr):Ev->Mem->Out Fl:=
 (zh (qr 2 (eOp ixT (ym [kE] "state" (eOp ixT (ym [kR] "errands" (yb 0)) (yb 1))) (eC (.int 0))))
 (zh (qr 3 (eTk (zD zd)))
 (zh (sIf (zk (eOp eqA (yb 2) (eC (.str "works")))) (yJ (qY zbQ zeM (yb 3) (zb (eFz (zD (zb (yD (zb (eC (.str "ends")) (zb (yb 1) (zb (eC (.str "bad")) zd)))) (zb (yD (zb (eC (.str "ends")) (zb (yb 1) (zb (eC (.str "spent")) zd)))) (zb (yD (zb (eC (.str "ends")) (zb (yb 1) (zb (eC (.str "well")) zd)))) zd))))) zd))) qE)
 (zh (sIf (zk (ze (zaD kE kR) (zb (yb 0) (zb (yb 1) zd)))) (yJ (zaP z9 (eUn yL (yb 3)) (zb (yD (zb (eC (.str "lost")) (zb (yb 1) zd))) zd))) qE)
 (zh (sIf (zk (ze (y6 kE kR) (zb (yb 0) (zb (yb 1) zd)))) (yJ (zaP z9 (eUn yL (yb 3)) (zb (yD (zb (eC (.str "again")) (zb (yb 1) zd))) zd))) qE)
 (zh (sIf (zk (eOp eqA (yb 2) (eC (.str "stands")))) (yJ (zaP z9 (eUn yL (yb 3)) (zb (yD (zb (eC (.str "up")) (zb (yb 1) zd))) zd))) qE)
 (yy (yb 3))))))))
noncomputable def zbl (kE kR:Addr):List FT.T->Mem->Out FT.T:=yi 2 4 (zcM kE kR)
noncomputable def zao (kE kR:Addr):List FT.T->Mem->Out FT.T:=zeL (zbl kE kR)
section
theorem zaU:FnScope ["run","number","word","events"] ["run","number"] (yf zbj):=by ac_rfl
theorem yK (D:Df K mg "events_by_tries" zbj ["run","number"]) (T:Txt K mg kE kR)   (zaF:CalT P w K mg base 2 "may_be_lost" ["run","number"] (zaD kE kR)) (z8:CalT P w K mg base 2 "has_tries_left" ["run","number"] (y6 kE kR)):CalT P w K mg base 3 "events_by_tries" ["run","number"] (zbl kE kR):=
 zr D zaU rfl rfl (fun f cdv A outer s H E hr=>(yd (zj (i:=2) zaU.nd rfl (Or.inl rfl) (qd qg (yj (zf ⟨T.cls_Errand,T.na_Errand_state⟩ zg) (qd qg (yj (zf ⟨T.cls_Run,T.na_Run_errands⟩ zg) (za (pv 0))) (za (pv 1)) (fun _ _=>rfl))) yc (fun _ _=>rfl)))
  (yd (zj (i:=3) zaU.nd rfl (Or.inl rfl) (zad (yB zc)))
  (yd (yw (zi (yE hr.units) (za (pv 2)) qp (yk _)) (ye (zx (zbw zfP (zZ QC PySem.F.slot_list_extend PySem.F.type_list_extend zjD (WE.pe (za (pv 3))) (WA.pe (ya (zH (yB (ya (yx (ya qp (ya (za (pv 1)) (ya qp zc)))) (ya (yx (ya qp (ya (za (pv 1)) (ya qp zc)))) (ya (yx (ya qp (ya (za (pv 1)) (ya qp zc)))) zc))))) zc)))))) qu)
  (yd (yw (zaa (yg zaF (hr.mono (by decide)) rfl (ya (za (pv 0)) (ya (za (pv 1)) zc)))) (ye (zx (zac (zZ QC QF QE qK (WE.pe (za (pv 3))) (WA.pe (ya (yx (ya qp (ya (za (pv 1)) zc))) zc)))))) qu)
  (yd (yw (zaa (yg z8 (hr.mono (by decide)) rfl (ya (za (pv 0)) (ya (za (pv 1)) zc)))) (ye (zx (zac (zZ QC QF QE qK (WE.pe (za (pv 3))) (WA.pe (ya (yx (ya qp (ya (za (pv 1)) zc))) zc)))))) qu)
  (yd (yw (zi (yE hr.units) (za (pv 2)) qp (yk _)) (ye (zx (zac (zZ QC QF QE qK (WE.pe (za (pv 3))) (WA.pe (ya (yx (ya qp (ya (za (pv 1)) zc))) zc)))))) qu)
  (ye (zo (za (pv 3)))))))))))
end
noncomputable def zfm (kE kR:Addr):Ev->Mem->Out Fl:=
 (yy (qY zbQ zea (eFz (qN (zb9 (yb 0)) (yn 0) qM (eOp ixT (yb 0) (eC (.int 0))) ["one"] [])) (zb (yb 1) zd)))
noncomputable def zaj (kE kR:Addr):List FT.T->Mem->Out FT.T:=yi 2 2 (zfm kE kR)
section
theorem zhT:FnScope ["named","name"] ["named","name"] (yf zdp):=by ac_rfl
theorem qZ (D:Df K mg "number_of" zdp ["named","name"]) (T:Txt K mg kE kR)   :CalT P w K mg base 1 "number_of" ["named","name"] (zaj kE kR):=
 zr D zhT rfl rfl (fun f cdv A outer s H E hr=>(ye (zo (zbw zfP (zZ QC PySem.F.slot_list_index PySem.F.type_list_index (zk3 hr.units) (WE.pe (zH (zaR (tgs:=["one"]) (caps:=[]) (zb2 (za (pv 0))) (by bv_omega) (fun _ _ _=>(qo (yr (i:=0) (show (["one"]:List Str).Nodup by decide +kernel) rfl (by first | exact Or.inl rfl | exact Or.inr rfl)))) (fun _ _ _=>zaq) (fun _ _ _=>(qd qg (za (pv 0)) yc (fun _ _=>rfl)))))) (WA.pe (ya (za (pv 1)) zc)))))))
end
noncomputable def zf7 (kE kR:Addr):Ev->Mem->Out Fl:=
 (yy (eIf (zk (eOp isN (eOp ixT (yb 1) (eC (.int 2))) (eC .non))) (eC .non) (ze (zaj kE kR) (zb (eOp ixT (ym [kR] "net" (yb 0)) (eC (.int 1))) (zb (eOp ixT (yb 1) (eC (.int 2))) zd)))))
noncomputable def yS (kE kR:Addr):List FT.T->Mem->Out FT.T:=yi 2 2 (zf7 kE kR)
section
theorem zi4:FnScope ["run","ask"] ["run","ask"] (yf zdU):=by ac_rfl
theorem yG (D:Df K mg "purse_of" zdU ["run","ask"]) (T:Txt K mg kE kR)   (qZ:CalT P w K mg base 1 "number_of" ["named","name"] (zaj kE kR)):CalT P w K mg base 2 "purse_of" ["run","ask"] (yS kE kR):=
 zr D zi4 rfl rfl (fun f cdv A outer s H E hr=>(ye (zo (zoB (zi zdJ (qd qg (za (pv 1)) yc (fun _ _=>rfl)) yV (yk _)) yV (yg qZ (hr.mono (by decide)) rfl (ya (qd qg (yj (zf ⟨T.cls_Run,T.na_Run_net⟩ zg) (za (pv 0))) yc (fun _ _=>rfl)) (ya (qd qg (za (pv 1)) yc (fun _ _=>rfl)) zc)))))))
end
noncomputable def zeK (kE kR:Addr):Ev->Mem->Out Fl:=
 (yy (eOp zdw (ze (yp yu) (zb (eOp ixT (ym [kR] "puts" (yb 0)) (yb 1)) zd)) (eOp ixT (eOp ixT (eOp ixT (ym [kR] "net" (yb 0)) (eC (.int 1))) (yb 1)) (eC (.int 2)))))
noncomputable def za2 (kE kR:Addr):List FT.T->Mem->Out FT.T:=yi 2 2 (zeK kE kR)
section
theorem zho:FnScope ["run","purse"] ["run","purse"] (yf zc4):=by ac_rfl
theorem za4 (D:Df K mg "coins_made" zc4 ["run","purse"]) (T:Txt K mg kE kR)   :CalT P w K mg base 1 "coins_made" ["run","purse"] (za2 kE kR):=
 zr D zho rfl rfl (fun f cdv A outer s H E hr=>(ye (zo (zn zeX (qi yo rfl T.n_len boot_len (ya (qd qg (yj (zf ⟨T.cls_Run,T.na_Run_puts⟩ zg) (za (pv 0))) (za (pv 1)) (fun _ _=>rfl)) zc)) (qd qg (qd qg (qd qg (yj (zf ⟨T.cls_Run,T.na_Run_net⟩ zg) (za (pv 0))) yc (fun _ _=>rfl)) (za (pv 1)) (fun _ _=>rfl)) yc (fun _ _=>rfl))))))
end
noncomputable def zeI (kE kR:Addr):Ev->Mem->Out Fl:=
 (yy (yD (zb (eOp zby (ze (yp yu) (zb (eOp ixT (ym [kR] "puts" (yb 0)) (yb 1)) zd)) (eOp ixT (eOp ixT (eOp ixT (ym [kR] "net" (yb 0)) (eC (.int 1))) (yb 1)) (eC (.int 2)))) (zb (eOp zbJ (ze (za2 kE kR) (zb (yb 0) (zb (yb 1) zd))) (eOp ixT (ym [kR] "taken" (yb 0)) (yb 1))) zd))))
noncomputable def qT (kE kR:Addr):List FT.T->Mem->Out FT.T:=yi 2 2 (zeI kE kR)
section
theorem zhn:FnScope ["run","purse"] ["run","purse"] (yf zc3):=by ac_rfl
theorem yU (D:Df K mg "purse_told" zc3 ["run","purse"]) (T:Txt K mg kE kR)   (za4:CalT P w K mg base 1 "coins_made" ["run","purse"] (za2 kE kR)):CalT P w K mg base 2 "purse_told" ["run","purse"] (qT kE kR):=
 zr D zhn rfl rfl (fun f cdv A outer s H E hr=>(ye (zo (yx (ya (zn zaK (qi yo rfl T.n_len boot_len (ya (qd qg (yj (zf ⟨T.cls_Run,T.na_Run_puts⟩ zg) (za (pv 0))) (za (pv 1)) (fun _ _=>rfl)) zc)) (qd qg (qd qg (qd qg (yj (zf ⟨T.cls_Run,T.na_Run_net⟩ zg) (za (pv 0))) yc (fun _ _=>rfl)) (za (pv 1)) (fun _ _=>rfl)) yc (fun _ _=>rfl))) (ya (zn zaI (yg za4 (hr.mono (by decide)) rfl (ya (za (pv 0)) (ya (za (pv 1)) zc))) (qd qg (yj (zf ⟨T.cls_Run,T.na_Run_taken⟩ zg) (za (pv 0))) (za (pv 1)) (fun _ _=>rfl))) zc))))))
end
noncomputable def zga (kE kR:Addr):Ev->Mem->Out Fl:=
 (zh (qr 2 (ze (yS kE kR) (zb (yb 0) (zb (eOp ixT (ze (zC kE kR) (zb (yb 0) (zb (yb 1) zd))) (eOp ixT (ym [kE] "state" (eOp ixT (ym [kR] "errands" (yb 0)) (yb 1))) (eC (.int 1)))) zd))))
 (yy (eOr (eOp isN (yb 2) (eC .non)) (eOp gtI (eOp ixT (ze (qT kE kR) (zb (yb 0) (zb (yb 2) zd))) (eC (.int 1))) (eC (.int 0))))))
noncomputable def zbd (kE kR:Addr):List FT.T->Mem->Out FT.T:=yi 2 3 (zga kE kR)
section
theorem zff:FnScope ["run","number","purse"] ["run","number"] (yf zdY):=by ac_rfl
theorem zbY (D:Df K mg "has_coin" zdY ["run","number"]) (T:Txt K mg kE kR)   (yG:CalT P w K mg base 2 "purse_of" ["run","ask"] (yS kE kR)) (zq:CalT P w K mg base 1 "asks_of" ["run","number"] (zC kE kR)) (yU:CalT P w K mg base 2 "purse_told" ["run","purse"] (qT kE kR)):CalT P w K mg base 3 "has_coin" ["run","number"] (zbd kE kR):=
 zr D zff rfl rfl (fun f cdv A outer s H E hr=>(yd (zj (i:=2) zff.nd rfl (Or.inl rfl) (yg yG (hr.mono (by decide)) rfl (ya (za (pv 0)) (ya (qd qg (yg zq (hr.mono (by decide)) rfl (ya (za (pv 0)) (ya (za (pv 1)) zc))) (qd qg (yj (zf ⟨T.cls_Errand,T.na_Errand_state⟩ zg) (qd qg (yj (zf ⟨T.cls_Run,T.na_Run_errands⟩ zg) (za (pv 0))) (za (pv 1)) (fun _ _=>rfl))) yc (fun _ _=>rfl)) (fun _ _=>rfl)) zc))))
  (ye (zo (zkD (zab zdJ (za (pv 2)) yV (yk _)) (zdC (zab zbN (qd qg (yg yU (hr.mono (by decide)) rfl (ya (za (pv 0)) (ya (za (pv 2)) zc))) yc (fun _ _=>rfl)) yc (yk _))))))))
end
noncomputable def zfn (kE kR:Addr):Ev->Mem->Out Fl:=
 (yy (eFz (qN (zb9 (ze (zao kE kR) (zb (yb 0) (zb (yb 1) zd)))) (yn 0) (zai (zk (eOp neA (eOp ixT (yb 0) (eC (.int 0))) (eC (.str "again")))) (zk (ze (zbd kE kR) (zb (yb 1) (zb (yb 2) zd))))) (yb 0) ["event"] [("run",0),("number",1)])))
noncomputable def zak (kE kR:Addr):List FT.T->Mem->Out FT.T:=yi 2 2 (zfn kE kR)
section
theorem zhV:FnScope ["run","number"] ["run","number"] (yf zdr):=by ac_rfl
theorem z4 (D:Df K mg "events_at" zdr ["run","number"]) (T:Txt K mg kE kR)   (yK:CalT P w K mg base 3 "events_by_tries" ["run","number"] (zao kE kR)) (zbY:CalT P w K mg base 3 "has_coin" ["run","number"] (zbd kE kR)):CalT P w K mg base 4 "events_at" ["run","number"] (zak kE kR):=
 zr D zhV rfl rfl (fun f cdv A outer s H E hr=>(ye (zo (zH (zaR (tgs:=["event"]) (caps:=[("run",0),("number",1)]) (zb2 (yg yK (hr.mono (by decide)) rfl (ya (za (pv 0)) (ya (za (pv 1)) zc)))) (by bv_omega) (fun _ _ _=>(qo (yr (i:=0) (show (["event","run","number"]:List Str).Nodup by decide +kernel) rfl (by first | exact Or.inl rfl | exact Or.inr rfl)))) (fun _ _ _=>(zcY (WW.gt (z5 (zi (zap hr.units) (qd qg (za (pv 0)) yc (fun _ _=>rfl)) qp (yk _)) (y9 (zaa (yg zbY (hr.mono (by decide)) rfl (ya (za (pv 1)) (ya (za (pv 2)) zc))))))))) (fun _ _ _=>(za (pv 0))))))))
end
noncomputable def zec (kE kR:Addr):Ev->Mem->Out Fl:=
 (yy (zfF (ze (call2 zaL) (zb (yb 0) (zb (eC (.ty "int")) zd))) (zkt (ze (call2 zaL) (zb (yb 0) (zb (eC (.ty "bool")) zd))))))
noncomputable def zax (kE kR:Addr):List FT.T->Mem->Out FT.T:=yi 1 1 (zec kE kR)
section
theorem zi6:FnScope ["thing"] ["thing"] (yf zdX):=by ac_rfl
theorem zbX (D:Df K mg "is_whole" zdX ["thing"]) (T:Txt K mg kE kR)   :CalT P w K mg base 1 "is_whole" ["thing"] (zax kE kR):=
 zr D zi6 rfl rfl (fun f cdv A outer s H E hr=>(ye (zo (zdD (qi zc9 rfl T.n_isinstance boot_isinstance (ya (za (pv 0)) (ya (zfq rfl T.n_int boot_int) zc))) (zdC (zjl (qi zc9 rfl T.n_isinstance boot_isinstance (ya (za (pv 0)) (ya (zfq rfl T.n_bool boot_bool) zc)))))))))
end
noncomputable def zdv (kE kR:Addr):Ev->Mem->Out Fl:=
 (yy (zfF (ze (zax kE kR) (zb (yb 0) zd)) (zeN leI leI (yb 1) (yb 0) (yb 2))))
noncomputable def qS (kE kR:Addr):List FT.T->Mem->Out FT.T:=yi 3 3 (zdv kE kR)
section
theorem zhU:FnScope ["thing","low","high"] ["thing","low","high"] (yf zdq):=by ac_rfl
theorem z3 (D:Df K mg "is_within" zdq ["thing","low","high"]) (T:Txt K mg kE kR)   (zbX:CalT P w K mg base 1 "is_whole" ["thing"] (zax kE kR)):CalT P w K mg base 2 "is_within" ["thing","low","high"] (qS kE kR):=
 zr D zhU rfl rfl (fun f cdv A outer s H E hr=>(ye (zo (zdD (yg zbX (hr.mono (by decide)) rfl (ya (za (pv 0)) zc)) (zdC (zgY zh4 zh4 (za (pv 1)) (za (pv 0)) (za (pv 2))))))))
end
noncomputable def zed (kE kR:Addr):Ev->Mem->Out Fl:=
 (zh (sIf (zk (eOp eqA (yb 1) (eC (.tup [.str "fresh"])))) (yy (eC (.bl true))) qE)
 (zh (sIf (zai (zbI (zk (ze (call2 zaL) (zb (yb 1) (zb (eC (.ty "tuple")) zd))))) (zai (zk (eOp ltI (ze (yp yu) (zb (yb 1) zd)) (eC (.int 2)))) (zbI (zk (ze (qS kE kR) (zb (eOp ixT (yb 1) (eC (.int 1))) (zb (eC (.int 0)) (zb (eOp zbJ (ze (yp yu) (zb (ym [kR] "errands" (yb 0)) zd)) (eC (.int 1))) zd)))))))) (yy (eC (.bl false))) qE)
 (yy (eOp inN (yb 1) (ze (zak kE kR) (zb (yb 0) (zb (eOp ixT (yb 1) (eC (.int 1))) zd)))))))
noncomputable def zay (kE kR:Addr):List FT.T->Mem->Out FT.T:=yi 2 2 (zed kE kR)
section
theorem zi7:FnScope ["run","event"] ["run","event"] (yf zdZ):=by ac_rfl
theorem zbZ (D:Df K mg "can_come" zdZ ["run","event"]) (T:Txt K mg kE kR)   (z4:CalT P w K mg base 4 "events_at" ["run","number"] (zak kE kR)) (z3:CalT P w K mg base 2 "is_within" ["thing","low","high"] (qS kE kR)):CalT P w K mg base 5 "can_come" ["run","event"] (zay kE kR):=
 zr D zi7 rfl rfl (fun f cdv A outer s H E hr=>(yd (yw (zi (yE hr.units) (za (pv 1)) (zev (ss:=["fresh"]) rfl T.c_FRESH) (yk _)) (ye (zo zP)) qu)
  (yd (yw (WW.gt (z5 (zb0 (zaa (qi zc9 rfl T.n_isinstance boot_isinstance (ya (za (pv 1)) (ya (zfq rfl T.n_tuple boot_tuple) zc))))) (z5 (zi zeB (qi yo rfl T.n_len boot_len (ya (za (pv 1)) zc)) yc (yk _)) (y9 (zb0 (zaa (yg z3 (hr.mono (by decide)) rfl (ya (qd qg (za (pv 1)) yc (fun _ _=>rfl)) (ya yc (ya (zn zaI (qi yo rfl T.n_len boot_len (ya (yj (zf ⟨T.cls_Run,T.na_Run_errands⟩ zg) (za (pv 0))) zc)) yc) zc)))))))))) (ye (zo zP)) qu)
  (ye (zo (zab (zpn hr.units) (za (pv 1)) (yg z4 (hr.mono (by decide)) rfl (ya (za (pv 0)) (ya (qd qg (za (pv 1)) yc (fun _ _=>rfl)) zc))) rfl))))))
end
noncomputable def zcJ (kE kR:Addr):Ev->Mem->Out Fl:=
 (sIf (zbI (zk (ze (zay kE kR) (zb (yb 0) (zb (yb 1) zd))))) zkd qE)
noncomputable def qO (kE kR:Addr):List FT.T->Mem->Out FT.T:=yi 2 2 (zcJ kE kR)
section
theorem zgs:FnScope ["run","event"] ["run","event"] (yf zcB):=by ac_rfl
theorem zaH (D:Df K mg "check_event" zcB ["run","event"]) (T:Txt K mg kE kR)   (zbZ:CalT P w K mg base 5 "can_come" ["run","event"] (zay kE kR)):CalT P w K mg base 6 "check_event" ["run","event"] (qO kE kR):=
 zr D zgs rfl rfl (fun f cdv A outer s H E hr=>(ye (yw (zb0 (zaa (yg zbZ (hr.mono (by decide)) rfl (ya (za (pv 0)) (ya (za (pv 1)) zc))))) (ye zji) qu)))
end
noncomputable def zgb (kE kR:Addr):Ev->Mem->Out Fl:=
 (yy (ze (zaj kE kR) (zb (eOp ixT (yb 0) (eC (.int 0))) (zb (eOp ixT (yb 1) (eC (.int 0))) zd))))
noncomputable def zaz (kE kR:Addr):List FT.T->Mem->Out FT.T:=yi 2 2 (zgb kE kR)
section
theorem zi8:FnScope ["net","ask"] ["net","ask"] (yf zd0):=by ac_rfl
theorem zah (D:Df K mg "asked_by" zd0 ["net","ask"]) (T:Txt K mg kE kR)   (qZ:CalT P w K mg base 1 "number_of" ["named","name"] (zaj kE kR)):CalT P w K mg base 2 "asked_by" ["net","ask"] (zaz kE kR):=
 zr D zi8 rfl rfl (fun f cdv A outer s H E hr=>(ye (zo (yg qZ (hr.mono (by decide)) rfl (ya (qd qg (za (pv 0)) yc (fun _ _=>rfl)) (ya (qd qg (za (pv 1)) yc (fun _ _=>rfl)) zc))))))
end
noncomputable def zer (kE kR:Addr):Ev->Mem->Out Fl:=
 (zh (qD [kE] "house" (yb 0) (yb 1))
 (zh (qD [kE] "caller" (yb 0) (yb 2))
 (zh (qD [kE] "state" (yb 0) (yD (zb (eC (.str "works")) zd)))
 (zh (qD [kE] "is_lost" (yb 0) (eC (.bl false)))
 (zh (qD [kE] "asked" (yb 0) (eC .non))
 (qD [kE] "stood" (yb 0) (eC .non)))))))
noncomputable def qX (kE kR:Addr):List FT.T->Mem->Out FT.T:=yi 3 3 (zer kE kR)
section
theorem zgt:FnScope ["self","house","caller"] ["self","house","caller"] (yf zcC):=by ac_rfl
theorem zaX (D:Di K mg "Errand" "Errand.__init__" kE zcC ["self","house","caller"]) (T:Txt K mg kE kR)   :MakT P w K mg base 1 "Errand" kE ["self","house","caller"] (qX kE kR):=
 zjh D zgt rfl rfl (fun f cdv A outer s H E hr=>(yd (zL (zf ⟨T.cls_Errand,T.na_Errand_house⟩ zg) (za (pv 0)) (za (pv 1)))
  (yd (zL (zf ⟨T.cls_Errand,T.na_Errand_caller⟩ zg) (za (pv 0)) (za (pv 2)))
  (yd (zL (zf ⟨T.cls_Errand,T.na_Errand_state⟩ zg) (za (pv 0)) (yx (ya qp zc)))
  (yd (zL (zf ⟨T.cls_Errand,T.na_Errand_is_lost⟩ zg) (za (pv 0)) zP)
  (yd (zL (zf ⟨T.cls_Errand,T.na_Errand_asked⟩ zg) (za (pv 0)) yV)
  (ye (zL (zf ⟨T.cls_Errand,T.na_Errand_stood⟩ zg) (za (pv 0)) yV))))))))
end
noncomputable def zbo (kE kR:Addr) (q_begin_try q_begin_errand:List FT.T->Mem->Out FT.T):Ev->Mem->Out Fl:=
 (zh (qr 4 (eOp ixT (ze (zC kE kR) (zb (yb 0) (zb (yb 1) zd))) (yb 2)))
 (zh (qr 5 (ze (yp yu) (zb (ym [kR] "errands" (yb 0)) zd)))
 (zh (qD [kE] "state" (eOp ixT (ym [kR] "errands" (yb 0)) (yb 1)) (yD (zb (eC (.str "waits")) (zb (yb 2) (zb (yb 3) zd)))))
 (zh (qD [kE] "asked" (eOp ixT (ym [kR] "errands" (yb 0)) (yb 1)) (yb 5))
 (zh (qr 6 (ze (yS kE kR) (zb (yb 0) (zb (yb 4) zd))))
 (zh (sIf (yR (zk (eOp zat (yb 6) (eC .non))) (zai (zk (eOp eqA (yb 3) (eC (.int 1)))) (zk (eOp eqA (eOp ixT (eOp ixT (eOp ixT (ym [kR] "net" (yb 0)) (eC (.int 1))) (yb 6)) (eC (.int 1))) (eC (.str "any")))))) (yJ (zaP z9 (eUn yL (eOp ixT (ym [kR] "puts" (yb 0)) (yb 6))) (zb (yb 5) zd))) qE)
 (yJ (ze q_begin_errand (zb (yb 0) (zb (ze (zaz kE kR) (zb (ym [kR] "net" (yb 0)) (zb (yb 4) zd))) (zb (yD (zb (yb 1) (zb (yb 2) (zb (yb 3) zd)))) zd)))))))))))
variable {L:Nat}
section
theorem zaV:FnScope ["run","number","at","tried","ask","begun","purse"] ["run","number","at","tried"] (yf zcl):=by ac_rfl
theorem yF {q_begin_try q_begin_errand:List FT.T->Mem->Out FT.T} (hL:2<=L) (D:Df K mg "begin_try" zcl ["run","number","at","tried"]) (T:Txt K mg kE kR) (yG:CalT P w K mg base 2 "purse_of" ["run","ask"] (yS kE kR)) (qQ:CalT P w K mg base L "begin_errand" ["run","house","caller"] q_begin_errand) (zq:CalT P w K mg base 1 "asks_of" ["run","number"] (zC kE kR)) (zah:CalT P w K mg base 2 "asked_by" ["net","ask"] (zaz kE kR)):CalT P w K mg base (L + 1) "begin_try" ["run","number","at","tried"] (yi 4 7 (zbo kE kR q_begin_try q_begin_errand)):=
 zr D zaV rfl rfl (fun f cdv A outer s H E hr=>(yd (zj (i:=4) zaV.nd rfl (Or.inl rfl) (qd qg (yg zq (hr.mono (by omega)) rfl (ya (za (pv 0)) (ya (za (pv 1)) zc))) (za (pv 2)) (fun _ _=>rfl)))
  (yd (zj (i:=5) zaV.nd rfl (Or.inl rfl) (qi yo rfl T.n_len boot_len (ya (yj (zf ⟨T.cls_Run,T.na_Run_errands⟩ zg) (za (pv 0))) zc)))
  (yd (zL (zf ⟨T.cls_Errand,T.na_Errand_state⟩ zg) (qd qg (yj (zf ⟨T.cls_Run,T.na_Run_errands⟩ zg) (za (pv 0))) (za (pv 1)) (fun _ _=>rfl)) (yx (ya qp (ya (za (pv 2)) (ya (za (pv 3)) zc)))))
  (yd (zL (zf ⟨T.cls_Errand,T.na_Errand_asked⟩ zg) (qd qg (yj (zf ⟨T.cls_Run,T.na_Run_errands⟩ zg) (za (pv 0))) (za (pv 1)) (fun _ _=>rfl)) (za (pv 5)))
  (yd (zj (i:=6) zaV.nd rfl (Or.inl rfl) (yg yG (hr.mono (by omega)) rfl (ya (za (pv 0)) (ya (za (pv 4)) zc))))
  (yd (yw (WW.gt (zV (zi zdf (za (pv 6)) yV (yk _)) (yP (WW.gt (z5 (zi (yE hr.units) (za (pv 3)) yc (yk _)) (y9 (zi (yE hr.units) (qd qg (qd qg (qd qg (yj (zf ⟨T.cls_Run,T.na_Run_net⟩ zg) (za (pv 0))) yc (fun _ _=>rfl)) (za (pv 6)) (fun _ _=>rfl)) yc (fun _ _=>rfl)) qp (yk _)))))))) (ye (zx (zac (zZ QC QF QE qK (WE.pe (qd qg (yj (zf ⟨T.cls_Run,T.na_Run_puts⟩ zg) (za (pv 0))) (za (pv 6)) (fun _ _=>rfl))) (WA.pe (ya (za (pv 5)) zc)))))) qu)
  (ye (zx (yg qQ (hr.mono (by omega)) rfl (ya (za (pv 0)) (ya (yg zah (hr.mono (by omega)) rfl (ya (yj (zf ⟨T.cls_Run,T.na_Run_net⟩ zg) (za (pv 0))) (ya (za (pv 4)) zc))) (ya (yx (ya (za (pv 1)) (ya (za (pv 2)) (ya (za (pv 3)) zc)))) zc)))))))))))))
end
noncomputable def zbc (kE kR:Addr) (q_begin_try q_begin_errand:List FT.T->Mem->Out FT.T):Ev->Mem->Out Fl:=
 (zh (yJ (zaP z9 (eUn yL (ym [kR] "errands" (yb 0))) (zb (zdj kE (qX kE kR) (zb (yb 1) (zb (yb 2) zd))) zd)))
 (zh (qr 3 (eOp zbJ (ze (yp yu) (zb (ym [kR] "errands" (yb 0)) zd)) (eC (.int 1))))
 (sIf (zk (eOp gtI (ze (yp yu) (zb (ze (zC kE kR) (zb (yb 0) (zb (yb 3) zd))) zd)) (eC (.int 0)))) (yJ (ze q_begin_try (zb (yb 0) (zb (yb 3) (zb (eC (.int 0)) (zb (eC (.int 1)) zd)))))) qE)))
section
theorem zbK:FnScope ["run","house","caller","number"] ["run","house","caller"] (yf za8):=by ac_rfl
theorem qQ {q_begin_try q_begin_errand:List FT.T->Mem->Out FT.T} (hL:2<=L) (D:Df K mg "begin_errand" za8 ["run","house","caller"]) (T:Txt K mg kE kR) (zaX:MakT P w K mg base 1 "Errand" kE ["self","house","caller"] (qX kE kR)) (yF:CalT P w K mg base L "begin_try" ["run","number","at","tried"] q_begin_try) (zq:CalT P w K mg base 1 "asks_of" ["run","number"] (zC kE kR)):CalT P w K mg base (L + 1) "begin_errand" ["run","house","caller"] (yi 3 4 (zbc kE kR q_begin_try q_begin_errand)):=
 zr D zbK rfl rfl (fun f cdv A outer s H E hr=>(yd (zx (zac (zZ QC QF QE qK (WE.pe (yj (zf ⟨T.cls_Run,T.na_Run_errands⟩ zg) (za (pv 0)))) (WA.pe (ya (zhE zaX (hr.mono (by omega)) rfl (ya (za (pv 1)) (ya (za (pv 2)) zc))) zc)))))
  (yd (zj (i:=3) zbK.nd rfl (Or.inl rfl) (zn zaI (qi yo rfl T.n_len boot_len (ya (yj (zf ⟨T.cls_Run,T.na_Run_errands⟩ zg) (za (pv 0))) zc)) yc))
  (ye (yw (zi zbN (qi yo rfl T.n_len boot_len (ya (yg zq (hr.mono (by omega)) rfl (ya (za (pv 0)) (ya (za (pv 3)) zc))) zc)) yc (yk _)) (ye (zx (yg yF (hr.mono (by omega)) rfl (ya (za (pv 0)) (ya (za (pv 3)) (ya yc (ya yc zc))))))) qu)))))
noncomputable def zl (kE kR:Addr):Nat->(List FT.T->Mem->Out FT.T) × (List FT.T->Mem->Out FT.T)
 | 0=>(fun _ _=>.bad,fun _ _=>.bad)
 | n + 1=>(yi 4 7 (zbo kE kR (zl kE kR n).1 (zl kE kR n).2),yi 3 4 (zbc kE kR (zl kE kR n).1 (zl kE kR n).2))
noncomputable def zal (kE kR:Addr):List FT.T->Mem->Out FT.T:=(zl kE kR 12).1
noncomputable def zce (kE kR:Addr):List FT.T->Mem->Out FT.T:=(zl kE kR 12).2
theorem zG (D_begin_try:Df K mg "begin_try" zcl ["run","number","at","tried"]) (D_begin_errand:Df K mg "begin_errand" za8 ["run","house","caller"]) (T:Txt K mg kE kR) (yG:CalT P w K mg base 2 "purse_of" ["run","ask"] (yS kE kR)) (zq:CalT P w K mg base 1 "asks_of" ["run","number"] (zC kE kR)) (zah:CalT P w K mg base 2 "asked_by" ["net","ask"] (zaz kE kR)) (zaX:MakT P w K mg base 1 "Errand" kE ["self","house","caller"] (qX kE kR)):∀ n,CalT P w K mg base (2 + n + 1) "begin_try" ["run","number","at","tried"] (zl kE kR n).1/\CalT P w K mg base (2 + n + 1) "begin_errand" ["run","house","caller"] (zl kE kR n).2
 | 0=>⟨CalT.bad D_begin_try zaV,CalT.bad D_begin_errand zbK⟩
 | n + 1=>by
  have ih:=zG D_begin_try D_begin_errand T yG zq zah zaX n
  exact ⟨yF (by omega) D_begin_try T yG ih.2 zq zah,qQ (by omega) D_begin_errand T zaX ih.1 zq⟩
end
noncomputable def zbR (kE kR:Addr) (q_end_errand q_hear:List FT.T->Mem->Out FT.T):Ev->Mem->Out Fl:=
 (zh (qr 3 (eOp ixT (ym [kR] "errands" (yb 0)) (yb 1)))
 (zh (qD [kE] "state" (yb 3) (yD (zb (eC (.str "ended")) (zb (yb 2) zd))))
 (sIf (yR (zk (eOp zat (ym [kE] "caller" (yb 3)) (eC .non))) (zbI (zk (ym [kE] "is_lost" (yb 3))))) (yJ (ze q_hear (zb (yb 0) (zb (ym [kE] "caller" (yb 3)) (zb (yb 2) zd))))) qE)))
section
theorem zcy:FnScope ["run","number","word","errand"] ["run","number","word"] (yf zbM):=by ac_rfl
theorem qL {q_end_errand q_hear:List FT.T->Mem->Out FT.T} (hL:15<=L) (D:Df K mg "end_errand" zbM ["run","number","word"]) (T:Txt K mg kE kR) (zdc:CalT P w K mg base L "hear" ["run","caller","word"] q_hear):CalT P w K mg base (L + 1) "end_errand" ["run","number","word"] (yi 3 4 (zbR kE kR q_end_errand q_hear)):=
 zr D zcy rfl rfl (fun f cdv A outer s H E hr=>(yd (zj (i:=3) zcy.nd rfl (Or.inl rfl) (qd qg (yj (zf ⟨T.cls_Run,T.na_Run_errands⟩ zg) (za (pv 0))) (za (pv 1)) (fun _ _=>rfl)))
  (yd (zL (zf ⟨T.cls_Errand,T.na_Errand_state⟩ zg) (za (pv 3)) (yx (ya qp (ya (za (pv 2)) zc))))
  (ye (yw (WW.gt (zV (zi zdf (yj (zf ⟨T.cls_Errand,T.na_Errand_caller⟩ zg) (za (pv 3))) yV (yk _)) (yP (zb0 (zaa (yj (zf ⟨T.cls_Errand,T.na_Errand_is_lost⟩ zg) (za (pv 3)))))))) (ye (zx (yg zdc (hr.mono (by omega)) rfl (ya (za (pv 0)) (ya (yj (zf ⟨T.cls_Errand,T.na_Errand_caller⟩ zg) (za (pv 3))) (ya (za (pv 2)) zc)))))) qu)))))
end
noncomputable def zeJ (kE kR:Addr) (q_end_errand q_hear:List FT.T->Mem->Out FT.T):Ev->Mem->Out Fl:=
 (zh (qr 3 (eOp ixT (yb 1) (eC (.int 0))))
 (zh (qr 4 (eOp ixT (yb 1) (eC (.int 1))))
 (zh (qr 5 (ze (zC kE kR) (zb (yb 0) (zb (yb 3) zd))))
 (sIf (yR (zk (eOp eqA (yb 2) (eC (.str "well")))) (zk (eOp ltI (eOp qU (yb 4) (eC (.int 1))) (ze (yp yu) (zb (yb 5) zd))))) (yJ (ze (zal kE kR) (zb (yb 0) (zb (yb 3) (zb (eOp qU (yb 4) (eC (.int 1))) (zb (eC (.int 1)) zd)))))) (sIf (zai (zk (eOp eqA (yb 2) (eC (.str "well")))) (yR (zk (eOp eqA (yb 2) (eC (.str "spent")))) (zk (eOp ixT (eOp ixT (yb 5) (yb 4)) (eC (.int 4)))))) (yJ (ze q_end_errand (zb (yb 0) (zb (yb 3) (zb (yb 2) zd))))) (zh (qD [kE] "state" (eOp ixT (ym [kR] "errands" (yb 0)) (yb 3)) (yD (zb (eC (.str "stands")) (zb (yb 4) (zb (eOp ixT (yb 1) (eC (.int 2))) zd)))))
 (qD [kE] "stood" (eOp ixT (ym [kR] "errands" (yb 0)) (yb 3)) (ym [kR] "came" (yb 0)))))))))
section
theorem zdG:FnScope ["run","caller","word","number","at","asks"] ["run","caller","word"] (yf zfW):=by ac_rfl
theorem zdc {q_end_errand q_hear:List FT.T->Mem->Out FT.T} (hL:15<=L) (D:Df K mg "hear" zfW ["run","caller","word"]) (T:Txt K mg kE kR) (zq:CalT P w K mg base 1 "asks_of" ["run","number"] (zC kE kR)) (yF:CalT P w K mg base 15 "begin_try" ["run","number","at","tried"] (zal kE kR)) (qL:CalT P w K mg base L "end_errand" ["run","number","word"] q_end_errand):CalT P w K mg base (L + 1) "hear" ["run","caller","word"] (yi 3 6 (zeJ kE kR q_end_errand q_hear)):=
 zr D zdG rfl rfl (fun f cdv A outer s H E hr=>(yd (zj (i:=3) zdG.nd rfl (Or.inl rfl) (qd qg (za (pv 1)) yc (fun _ _=>rfl)))
  (yd (zj (i:=4) zdG.nd rfl (Or.inl rfl) (qd qg (za (pv 1)) yc (fun _ _=>rfl)))
  (yd (zj (i:=5) zdG.nd rfl (Or.inl rfl) (yg zq (hr.mono (by omega)) rfl (ya (za (pv 0)) (ya (za (pv 3)) zc))))
  (ye (yw (WW.gt (zV (zi (yE hr.units) (za (pv 2)) qp (yk _)) (yP (zi zeB (zn yH (za (pv 4)) yc) (qi yo rfl T.n_len boot_len (ya (za (pv 5)) zc)) (yk _))))) (ye (zx (yg yF (hr.mono (by omega)) rfl (ya (za (pv 0)) (ya (za (pv 3)) (ya (zn yH (za (pv 4)) yc) (ya yc zc))))))) (ye (yw (WW.gt (z5 (zi (yE hr.units) (za (pv 2)) qp (yk _)) (y9 (WW.gt (zV (zi (yE hr.units) (za (pv 2)) qp (yk _)) (yP (zaa (qd qg (qd qg (za (pv 5)) (za (pv 4)) (fun _ _=>rfl)) yc (fun _ _=>rfl))))))))) (ye (zx (yg qL (hr.mono (by omega)) rfl (ya (za (pv 0)) (ya (za (pv 3)) (ya (za (pv 2)) zc)))))) (yd (zL (zf ⟨T.cls_Errand,T.na_Errand_state⟩ zg) (qd qg (yj (zf ⟨T.cls_Run,T.na_Run_errands⟩ zg) (za (pv 0))) (za (pv 3)) (fun _ _=>rfl)) (yx (ya qp (ya (za (pv 4)) (ya (qd qg (za (pv 1)) yc (fun _ _=>rfl)) zc)))))
  (ye (zL (zf ⟨T.cls_Errand,T.na_Errand_stood⟩ zg) (qd qg (yj (zf ⟨T.cls_Run,T.na_Run_errands⟩ zg) (za (pv 0))) (za (pv 3)) (fun _ _=>rfl)) (yj (zf ⟨T.cls_Run,T.na_Run_came⟩ zg) (za (pv 0))))))))))))))
noncomputable def yt (kE kR:Addr):Nat->(List FT.T->Mem->Out FT.T) × (List FT.T->Mem->Out FT.T)
 | 0=>(fun _ _=>.bad,fun _ _=>.bad)
 | n + 1=>(yi 3 4 (zbR kE kR (yt kE kR n).1 (yt kE kR n).2),yi 3 6 (zeJ kE kR (yt kE kR n).1 (yt kE kR n).2))
noncomputable def za1 (kE kR:Addr):List FT.T->Mem->Out FT.T:=(yt kE kR 12).1
noncomputable def ziD (kE kR:Addr):List FT.T->Mem->Out FT.T:=(yt kE kR 12).2
theorem zU (D_end_errand:Df K mg "end_errand" zbM ["run","number","word"]) (D_hear:Df K mg "hear" zfW ["run","caller","word"]) (T:Txt K mg kE kR) (zq:CalT P w K mg base 1 "asks_of" ["run","number"] (zC kE kR)) (yF:CalT P w K mg base 15 "begin_try" ["run","number","at","tried"] (zal kE kR)):∀ n,CalT P w K mg base (15 + n + 1) "end_errand" ["run","number","word"] (yt kE kR n).1/\CalT P w K mg base (15 + n + 1) "hear" ["run","caller","word"] (yt kE kR n).2
 | 0=>⟨CalT.bad D_end_errand zcy,CalT.bad D_hear zdG⟩
 | n + 1=>by
  have ih:=zU D_end_errand D_hear T zq yF n
  exact ⟨qL (by omega) D_end_errand T ih.2,zdc (by omega) D_hear T zq yF ih.1⟩
end
noncomputable def zlr (kE kR:Addr):Ev->Mem->Out Fl:=
 (zh (qr 2 (eOp ixT (ym [kR] "errands" (yb 0)) (yb 1)))
 (zh (qD [kE] "is_lost" (yb 2) (eC (.bl true)))
 (yJ (ze (ziD kE kR) (zb (yb 0) (zb (ym [kE] "caller" (yb 2)) (zb (eC (.str "bad")) zd)))))))
noncomputable def zge (kE kR:Addr):List FT.T->Mem->Out FT.T:=yi 2 3 (zlr kE kR)
section
theorem zjt:FnScope ["run","number","errand"] ["run","number"] (yf zhW):=by ac_rfl
theorem zeQ (D:Df K mg "lose" zhW ["run","number"]) (T:Txt K mg kE kR)   (zdc:CalT P w K mg base 28 "hear" ["run","caller","word"] (ziD kE kR)):CalT P w K mg base 29 "lose" ["run","number"] (zge kE kR):=
 zr D zjt rfl rfl (fun f cdv A outer s H E hr=>(yd (zj (i:=2) zjt.nd rfl (Or.inl rfl) (qd qg (yj (zf ⟨T.cls_Run,T.na_Run_errands⟩ zg) (za (pv 0))) (za (pv 1)) (fun _ _=>rfl)))
  (yd (zL (zf ⟨T.cls_Errand,T.na_Errand_is_lost⟩ zg) (za (pv 2)) zP)
  (ye (zx (yg zdc (hr.mono (by decide)) rfl (ya (za (pv 0)) (ya (yj (zf ⟨T.cls_Errand,T.na_Errand_caller⟩ zg) (za (pv 2))) (ya qp zc)))))))))
end
noncomputable def zfl (kE kR:Addr):Ev->Mem->Out Fl:=
 (zh (yJ (zaP z9 (eUn yL (ym [kR] "payments" (yb 0))) (zb (yD (zb (ze (yp yu) (zb (ym [kR] "errands" (yb 0)) zd)) (zb (yb 1) (zb (eOp ixT (ym [kR] "taken" (yb 0)) (yb 1)) zd)))) zd)))
 (zhs getL zdA zgq (ym [kR] "taken" (yb 0)) (yb 1) (eC (.int 1))))
noncomputable def zco (kE kR:Addr):List FT.T->Mem->Out FT.T:=yi 2 2 (zfl kE kR)
section
theorem zhS:FnScope ["run","purse"] ["run","purse"] (yf zdo):=by ac_rfl
theorem zbq (D:Df K mg "take_coin" zdo ["run","purse"]) (T:Txt K mg kE kR)   :CalT P w K mg base 1 "take_coin" ["run","purse"] (zco kE kR):=
 zr D zhS rfl rfl (fun f cdv A outer s H E hr=>(yd (zx (zac (zZ QC QF QE qK (WE.pe (yj (zf ⟨T.cls_Run,T.na_Run_payments⟩ zg) (za (pv 0)))) (WA.pe (ya (yx (ya (qi yo rfl T.n_len boot_len (ya (yj (zf ⟨T.cls_Run,T.na_Run_errands⟩ zg) (za (pv 0))) zc)) (ya (za (pv 1)) (ya (qd qg (yj (zf ⟨T.cls_Run,T.na_Run_taken⟩ zg) (za (pv 0))) (za (pv 1)) (fun _ _=>rfl)) zc)))) zc)))))
  (ye (zlR (yj (zf ⟨T.cls_Run,T.na_Run_taken⟩ zg) (za (pv 0))) (za (pv 1)) zrw yc zn1 zj8))))
end
noncomputable def zfk (kE kR:Addr):Ev->Mem->Out Fl:=
 (zh (qr 2 (ym [kE] "state" (eOp ixT (ym [kR] "errands" (yb 0)) (yb 1))))
 (zh (qr 3 (ze (yS kE kR) (zb (yb 0) (zb (eOp ixT (ze (zC kE kR) (zb (yb 0) (zb (yb 1) zd))) (eOp ixT (yb 2) (eC (.int 1)))) zd))))
 (zh (sIf (zk (eOp zat (yb 3) (eC .non))) (yJ (ze (zco kE kR) (zb (yb 0) (zb (yb 3) zd)))) qE)
 (yJ (ze (zal kE kR) (zb (yb 0) (zb (yb 1) (zb (eOp ixT (yb 2) (eC (.int 1))) (zb (eOp qU (eOp ixT (yb 2) (eC (.int 2))) (eC (.int 1))) zd)))))))))
noncomputable def zcn (kE kR:Addr):List FT.T->Mem->Out FT.T:=yi 2 4 (zfk kE kR)
section
theorem zc2:FnScope ["run","number","state","purse"] ["run","number"] (yf zdn):=by ac_rfl
theorem zbp (D:Df K mg "try_again" zdn ["run","number"]) (T:Txt K mg kE kR)   (yG:CalT P w K mg base 2 "purse_of" ["run","ask"] (yS kE kR)) (yF:CalT P w K mg base 15 "begin_try" ["run","number","at","tried"] (zal kE kR)) (zbq:CalT P w K mg base 1 "take_coin" ["run","purse"] (zco kE kR)) (zq:CalT P w K mg base 1 "asks_of" ["run","number"] (zC kE kR)):CalT P w K mg base 16 "try_again" ["run","number"] (zcn kE kR):=
 zr D zc2 rfl rfl (fun f cdv A outer s H E hr=>(yd (zj (i:=2) zc2.nd rfl (Or.inl rfl) (yj (zf ⟨T.cls_Errand,T.na_Errand_state⟩ zg) (qd qg (yj (zf ⟨T.cls_Run,T.na_Run_errands⟩ zg) (za (pv 0))) (za (pv 1)) (fun _ _=>rfl))))
  (yd (zj (i:=3) zc2.nd rfl (Or.inl rfl) (yg yG (hr.mono (by decide)) rfl (ya (za (pv 0)) (ya (qd qg (yg zq (hr.mono (by decide)) rfl (ya (za (pv 0)) (ya (za (pv 1)) zc))) (qd qg (za (pv 2)) yc (fun _ _=>rfl)) (fun _ _=>rfl)) zc))))
  (yd (yw (zi zdf (za (pv 3)) yV (yk _)) (ye (zx (yg zbq (hr.mono (by decide)) rfl (ya (za (pv 0)) (ya (za (pv 3)) zc))))) qu)
  (ye (zx (yg yF (hr.mono (by decide)) rfl (ya (za (pv 0)) (ya (za (pv 1)) (ya (qd qg (za (pv 2)) yc (fun _ _=>rfl)) (ya (zn yH (qd qg (za (pv 2)) yc (fun _ _=>rfl)) yc) zc)))))))))))
end
noncomputable def zjQ (kE kR:Addr):Ev->Mem->Out Fl:=
 (yJ (ze (za1 kE kR) (zb (yb 0) (zb (yb 1) (zb (eOp ixT (eOp ixT (ze (zC kE kR) (zb (yb 0) (zb (yb 1) zd))) (eOp ixT (ym [kE] "state" (eOp ixT (ym [kR] "errands" (yb 0)) (yb 1))) (eC (.int 1)))) (eC (.int 3))) zd)))))
noncomputable def ze6 (kE kR:Addr):List FT.T->Mem->Out FT.T:=yi 2 2 (zjQ kE kR)
section
theorem zlZ:FnScope ["run","number"] ["run","number"] (yf zgx):=by ac_rfl
theorem zdO (D:Df K mg "go_up" zgx ["run","number"]) (T:Txt K mg kE kR)   (qL:CalT P w K mg base 28 "end_errand" ["run","number","word"] (za1 kE kR)) (zq:CalT P w K mg base 1 "asks_of" ["run","number"] (zC kE kR)):CalT P w K mg base 29 "go_up" ["run","number"] (ze6 kE kR):=
 zr D zlZ rfl rfl (fun f cdv A outer s H E hr=>(ye (zx (yg qL (hr.mono (by decide)) rfl (ya (za (pv 0)) (ya (za (pv 1)) (ya (qd qg (qd qg (yg zq (hr.mono (by decide)) rfl (ya (za (pv 0)) (ya (za (pv 1)) zc))) (qd qg (yj (zf ⟨T.cls_Errand,T.na_Errand_state⟩ zg) (qd qg (yj (zf ⟨T.cls_Run,T.na_Run_errands⟩ zg) (za (pv 0))) (za (pv 1)) (fun _ _=>rfl))) yc (fun _ _=>rfl)) (fun _ _=>rfl)) yc (fun _ _=>rfl)) zc)))))))
end
noncomputable def zf9 (kE kR:Addr):Ev->Mem->Out Fl:=
 (zh (sIf (zk (eOp eqA (eOp ixT (yb 1) (eC (.int 0))) (eC (.str "fresh")))) (yJ (ze (zce kE kR) (zb (yb 0) (zb (eC (.int 0)) (zb (eC .non) zd))))) (sIf (zk (eOp eqA (eOp ixT (yb 1) (eC (.int 0))) (eC (.str "ends")))) (yJ (ze (za1 kE kR) (zb (yb 0) (zb (eOp ixT (yb 1) (eC (.int 1))) (zb (eOp ixT (yb 1) (eC (.int 2))) zd))))) (sIf (zk (eOp eqA (eOp ixT (yb 1) (eC (.int 0))) (eC (.str "lost")))) (yJ (ze (zge kE kR) (zb (yb 0) (zb (eOp ixT (yb 1) (eC (.int 1))) zd)))) (sIf (zk (eOp eqA (eOp ixT (yb 1) (eC (.int 0))) (eC (.str "again")))) (yJ (ze (zcn kE kR) (zb (yb 0) (zb (eOp ixT (yb 1) (eC (.int 1))) zd)))) (yJ (ze (ze6 kE kR) (zb (yb 0) (zb (eOp ixT (yb 1) (eC (.int 1))) zd))))))))
 (zfX [kR] "came" (yb 0) 1))
noncomputable def zbS (kE kR:Addr):List FT.T->Mem->Out FT.T:=yi 2 2 (zf9 kE kR)
section
theorem zi5:FnScope ["run","event"] ["run","event"] (yf zdW):=by ac_rfl
theorem zbW (D:Df K mg "let_come" zdW ["run","event"]) (T:Txt K mg kE kR)   (qQ:CalT P w K mg base 15 "begin_errand" ["run","house","caller"] (zce kE kR)) (qL:CalT P w K mg base 28 "end_errand" ["run","number","word"] (za1 kE kR)) (zeQ:CalT P w K mg base 29 "lose" ["run","number"] (zge kE kR)) (zbp:CalT P w K mg base 16 "try_again" ["run","number"] (zcn kE kR)) (zdO:CalT P w K mg base 29 "go_up" ["run","number"] (ze6 kE kR)):CalT P w K mg base 30 "let_come" ["run","event"] (zbS kE kR):=
 zr D zi5 rfl rfl (fun f cdv A outer s H E hr=>(yd (yw (zi (yE hr.units) (qd qg (za (pv 1)) yc (fun _ _=>rfl)) qp (yk _)) (ye (zx (yg qQ (hr.mono (by decide)) rfl (ya (za (pv 0)) (ya yc (ya yV zc)))))) (ye (yw (zi (yE hr.units) (qd qg (za (pv 1)) yc (fun _ _=>rfl)) qp (yk _)) (ye (zx (yg qL (hr.mono (by decide)) rfl (ya (za (pv 0)) (ya (qd qg (za (pv 1)) yc (fun _ _=>rfl)) (ya (qd qg (za (pv 1)) yc (fun _ _=>rfl)) zc)))))) (ye (yw (zi (yE hr.units) (qd qg (za (pv 1)) yc (fun _ _=>rfl)) qp (yk _)) (ye (zx (yg zeQ (hr.mono (by decide)) rfl (ya (za (pv 0)) (ya (qd qg (za (pv 1)) yc (fun _ _=>rfl)) zc))))) (ye (yw (zi (yE hr.units) (qd qg (za (pv 1)) yc (fun _ _=>rfl)) qp (yk _)) (ye (zx (yg zbp (hr.mono (by decide)) rfl (ya (za (pv 0)) (ya (qd qg (za (pv 1)) yc (fun _ _=>rfl)) zc))))) (ye (zx (yg zdO (hr.mono (by decide)) rfl (ya (za (pv 0)) (ya (qd qg (za (pv 1)) yc (fun _ _=>rfl)) zc))))))))))))
  (ye (zlQ (zf ⟨T.cls_Run,T.na_Run_came⟩ zg) (za (pv 0))))))
end
noncomputable def zhh (kE kR:Addr):Ev->Mem->Out Fl:=
 (zh (yJ (ze (qO kE kR) (zb (yb 2) (zb (yb 3) zd))))
 (yJ (ze (zbS kE kR) (zb (yb 2) (zb (yb 3) zd)))))
noncomputable def ziy (kE kR:Addr):Ev->Mem->Out Fl:=
 (zh (qr 2 (zdj kR (zbe kE kR) (zb (yb 0) zd)))
 (zh (zd2 (zau (yb 1)) (yn 3) (zhh kE kR))
 (yy (yb 2))))
noncomputable def za0 (kE kR:Addr):List FT.T->Mem->Out FT.T:=yi 2 4 (ziy kE kR)
section
theorem zew:FnScope ["net","events","run","event"] ["net","events"] (yf zfs):=by ac_rfl
theorem z7 (D:Df K mg "run_of" zfs ["net","events"]) (T:Txt K mg kE kR)   (zf2:MakT P w K mg base 1 "Run" kR ["self","net"] (zbe kE kR)) (zaH:CalT P w K mg base 6 "check_event" ["run","event"] (qO kE kR)) (zbW:CalT P w K mg base 30 "let_come" ["run","event"] (zbS kE kR)):CalT P w K mg base 31 "run_of" ["net","events"] (za0 kE kR):=
 zr D zew rfl rfl (fun f cdv A outer s H E hr=>(yd (zj (i:=2) zew.nd rfl (Or.inl rfl) (zhE zf2 (hr.mono (by decide)) rfl (ya (za (pv 0)) zc)))
  (yd (zhD PassesOwn.never rfl (zb1 (za (pv 1))) (qo (yr (i:=3) zew.nd rfl (by first | exact Or.inl rfl | exact Or.inr rfl))) (yd (zx (yg zaH (hr.mono (by decide)) rfl (ya (za (pv 2)) (ya (za (pv 3)) zc))))
  (ye (zx (yg zbW (hr.mono (by decide)) rfl (ya (za (pv 2)) (ya (za (pv 3)) zc)))))))
  (ye (zo (za (pv 2)))))))
end
noncomputable def zfp (kE kR:Addr):Ev->Mem->Out Fl:=
 (yJ (qY zbQ zeM (yb 3) (zb (ze (zak kE kR) (zb (yb 2) (zb (yb 4) zd))) zd)))
noncomputable def zf8 (kE kR:Addr):Ev->Mem->Out Fl:=
 (zh (qr 2 (ze (za0 kE kR) (zb (yb 0) (zb (yb 1) zd))))
 (zh (qr 3 (eTk (zD (zb (eC (.tup [.str "fresh"])) zd))))
 (zh (zc5 (zQ (zb (ze (yp yu) (zb (ym [kR] "errands" (yb 2)) zd)) zd)) (yn 4) (zfp kE kR))
 (yy (yb 3)))))
noncomputable def zef (kE kR:Addr):List FT.T->Mem->Out FT.T:=yi 2 5 (zf8 kE kR)
noncomputable def zcO (kE kR:Addr):List FT.T->Mem->Out FT.T:=zeL (zef kE kR)
section
theorem zck:FnScope ["net","events","run","told","number"] ["net","events"] (yf zdV):=by ac_rfl
theorem zaB (D:Df K mg "may_come" zdV ["net","events"]) (T:Txt K mg kE kR)   (z7:CalT P w K mg base 31 "run_of" ["net","events"] (za0 kE kR)) (z4:CalT P w K mg base 4 "events_at" ["run","number"] (zak kE kR)):CalT P w K mg base 32 "may_come" ["net","events"] (zef kE kR):=
 zr D zck rfl rfl (fun f cdv A outer s H E hr=>(yd (zj (i:=2) zck.nd rfl (Or.inl rfl) (yg z7 (hr.mono (by decide)) rfl (ya (za (pv 0)) (ya (za (pv 1)) zc))))
  (yd (zj (i:=3) zck.nd rfl (Or.inl rfl) (zad (yB (ya (zev (ss:=["fresh"]) rfl T.c_FRESH) zc))))
  (yd (zbz PassesOwn.never rfl (zR rfl T.n_range (ya (qi yo rfl T.n_len boot_len (ya (yj (zf ⟨T.cls_Run,T.na_Run_errands⟩ zg) (za (pv 2))) zc)) zc)) (qo (yr (i:=4) zck.nd rfl (by first | exact Or.inl rfl | exact Or.inr rfl))) (ye (zx (zbw zfP (zZ QC PySem.F.slot_list_extend PySem.F.type_list_extend zjD (WE.pe (za (pv 3))) (WA.pe (ya (yg z4 (hr.mono (by decide)) rfl (ya (za (pv 2)) (ya (za (pv 4)) zc))) zc)))))))
  (ye (zo (za (pv 3))))))))
end
noncomputable def zg5 (kE kR:Addr):Ev->Mem->Out Fl:=
 (zh (qr 1 (eFz (yY (zau (ym [kR] "errands" (yb 0))) (yn 0) qM (yD (zb (ym [kE] "house" (yb 0)) (zb (ym [kE] "caller" (yb 0)) (zb (ym [kE] "state" (yb 0)) zd)))) ["errand"] [])))
 (yy (yD (zb (yb 1) (zb (eFz (qN (zQ (zb (ze (yp yu) (zb (eOp ixT (ym [kR] "net" (yb 0)) (eC (.int 1))) zd)) zd)) (yn 0) qM (ze (qT kE kR) (zb (yb 1) (zb (yb 0) zd))) ["purse"] [("run",0)])) zd)))))
noncomputable def zct (kE kR:Addr):List FT.T->Mem->Out FT.T:=yi 1 2 (zg5 kE kR)
section
theorem zfV:FnScope ["run","errands"] ["run"] (yf zex):=by ac_rfl
theorem zcw (D:Df K mg "told_of" zex ["run"]) (T:Txt K mg kE kR)   (yU:CalT P w K mg base 2 "purse_told" ["run","purse"] (qT kE kR)):CalT P w K mg base 3 "told_of" ["run"] (zct kE kR):=
 zr D zfV rfl rfl (fun f cdv A outer s H E hr=>(yd (zhj (i0:=1) (tgs:=["errand"]) (caps:=[]) (zb1 (yj (zf ⟨T.cls_Run,T.na_Run_errands⟩ zg) (za (pv 0)))) (by bv_omega) (fun _ _ _=>(qo (yr (i:=0) (show (["errand"]:List Str).Nodup by decide +kernel) rfl (by first | exact Or.inl rfl | exact Or.inr rfl)))) (fun _ _ _=>zaq) (fun _ _ _=>(yx (ya (yj (zf ⟨T.cls_Errand,T.na_Errand_house⟩ zg) (za (pv 0))) (ya (yj (zf ⟨T.cls_Errand,T.na_Errand_caller⟩ zg) (za (pv 0))) (ya (yj (zf ⟨T.cls_Errand,T.na_Errand_state⟩ zg) (za (pv 0))) zc))))) zfV.nd rfl (Or.inl rfl))
  (ye (zo (yx (ya (za (pv 1)) (ya (zH (zaR (tgs:=["purse"]) (caps:=[("run",0)]) (zR rfl T.n_range (ya (qi yo rfl T.n_len boot_len (ya (qd qg (yj (zf ⟨T.cls_Run,T.na_Run_net⟩ zg) (za (pv 0))) yc (fun _ _=>rfl)) zc)) zc)) (by bv_omega) (fun _ _ _=>(qo (yr (i:=0) (show (["purse","run"]:List Str).Nodup by decide +kernel) rfl (by first | exact Or.inl rfl | exact Or.inr rfl)))) (fun _ _ _=>zaq) (fun _ _ _=>(yg yU (hr.mono (by decide)) rfl (ya (za (pv 1)) (ya (za (pv 0)) zc)))))) zc)))))))
end
noncomputable def zm2 (kE kR:Addr):Ev->Mem->Out Fl:=
 (yy (ze (zct kE kR) (zb (ze (za0 kE kR) (zb (yb 0) (zb (yb 1) zd))) zd)))
noncomputable def zks (kE kR:Addr):List FT.T->Mem->Out FT.T:=yi 2 2 (zm2 kE kR)
noncomputable def zfZ (kE kR:Addr):List FT.T->Mem->Out FT.T:=zbu (zks kE kR)
section
theorem zoO:FnScope ["net","events"] ["net","events"] (yf zkb):=by ac_rfl
theorem zel (D:Df K mg "ran" zkb ["net","events"]) (T:Txt K mg kE kR)   (zcw:CalT P w K mg base 3 "told_of" ["run"] (zct kE kR)) (z7:CalT P w K mg base 31 "run_of" ["net","events"] (za0 kE kR)):CalT P w K mg base 32 "ran" ["net","events"] (zks kE kR):=
 zr D zoO rfl rfl (fun f cdv A outer s H E hr=>(ye (zo (yg zcw (hr.mono (by decide)) rfl (ya (yg z7 (hr.mono (by decide)) rfl (ya (za (pv 0)) (ya (za (pv 1)) zc))) zc)))))
end
noncomputable def ziA (kE kR:Addr):Ev->Mem->Out Fl:=
 (zh (sIf (zk (eOp ltI (yb 1) (ze (yp yu) (zb (yb 0) zd)))) (yy (eOp ixT (yb 0) (yb 1))) qE)
 (yy (eOp qU (eOp yT (eOp yT (eC (.int 7919)) (yb 1)) (yb 1)) (eOp yT (eC (.int 31)) (yb 1)))))
noncomputable def zcc (kE kR:Addr):List FT.T->Mem->Out FT.T:=yi 2 2 (ziA kE kR)
section
theorem zkL:FnScope ["script","k"] ["script","k"] (yf zfu):=by ac_rfl
theorem zci (D:Df K mg "_law_cell" zfu ["script","k"]) (T:Txt K mg kE kR)   :CalT P w K mg base 1 "_law_cell" ["script","k"] (zcc kE kR):=
 zr D zkL rfl rfl (fun f cdv A outer s H E hr=>(yd (yw (zi zeB (za (pv 1)) (qi yo rfl T.n_len boot_len (ya (za (pv 0)) zc)) (yk _)) (ye (zo (qd qg (za (pv 0)) (za (pv 1)) (fun _ _=>rfl)))) qu)
  (ye (zo (zn yH (zn zaJ (zn zaJ yc (za (pv 1))) (za (pv 1))) (zn zaJ yc (za (pv 1))))))))
end
noncomputable def zeq (kE kR:Addr):Ev->Mem->Out Fl:=
 (sIf (zbI (zk (ze (qS kE kR) (zb (yb 1) (zb (eC (.int 0)) (zb (eOp zbJ (ze (yp yu) (zb (eOp ixT (yb 0) (eC (.int 0))) zd)) (eC (.int 1))) zd)))))) zkd qE)
noncomputable def zaE (kE kR:Addr):List FT.T->Mem->Out FT.T:=yi 2 2 (zeq kE kR)
section
theorem zgr:FnScope ["net","house"] ["net","house"] (yf zcA):=by ac_rfl
theorem zaG (D:Df K mg "check_house" zcA ["net","house"]) (T:Txt K mg kE kR)   (z3:CalT P w K mg base 2 "is_within" ["thing","low","high"] (qS kE kR)):CalT P w K mg base 3 "check_house" ["net","house"] (zaE kE kR):=
 zr D zgr rfl rfl (fun f cdv A outer s H E hr=>(ye (yw (zb0 (zaa (yg z3 (hr.mono (by decide)) rfl (ya (za (pv 1)) (ya yc (ya (zn zaI (qi yo rfl T.n_len boot_len (ya (qd qg (za (pv 0)) yc (fun _ _=>rfl)) zc)) yc) zc)))))) (ye zji) qu)))
end
noncomputable def zf6 (kE kR:Addr):Ev->Mem->Out Fl:=
 (zh (yJ (ze (zaE kE kR) (zb (yb 0) (zb (yb 2) zd))))
 (yy (ze (yp yu) (zb (eFz (yY (zau (ym [kR] "errands" (ze (za0 kE kR) (zb (yb 0) (zb (yb 1) zd))))) (yn 0) (zk (eOp eqA (ym [kE] "house" (yb 0)) (yb 1))) (yb 0) ["errand"] [("house",2)])) zd))))
noncomputable def zee (kE kR:Addr):List FT.T->Mem->Out FT.T:=yi 3 3 (zf6 kE kR)
noncomputable def zba (kE kR:Addr):List FT.T->Mem->Out FT.T:=zbu (zee kE kR)
section
theorem zi3:FnScope ["net","events","house"] ["net","events","house"] (yf zdT):=by ac_rfl
theorem zaA (D:Df K mg "run_load" zdT ["net","events","house"]) (T:Txt K mg kE kR)   (zaG:CalT P w K mg base 3 "check_house" ["net","house"] (zaE kE kR)) (z7:CalT P w K mg base 31 "run_of" ["net","events"] (za0 kE kR)):CalT P w K mg base 32 "run_load" ["net","events","house"] (zee kE kR):=
 zr D zi3 rfl rfl (fun f cdv A outer s H E hr=>(yd (zx (yg zaG (hr.mono (by decide)) rfl (ya (za (pv 0)) (ya (za (pv 2)) zc))))
  (ye (zo (qi yo rfl T.n_len boot_len (ya (zH (zeu (tgs:=["errand"]) (caps:=[("house",2)]) (zb1 (yj (zf ⟨T.cls_Run,T.na_Run_errands⟩ zg) (yg z7 (hr.mono (by decide)) rfl (ya (za (pv 0)) (ya (za (pv 1)) zc))))) (by bv_omega) (fun _ _ _=>(qo (yr (i:=0) (show (["errand","house"]:List Str).Nodup by decide +kernel) rfl (by first | exact Or.inl rfl | exact Or.inr rfl)))) (fun _ _ _=>(zcY (zi (yE hr.units) (yj (zf ⟨T.cls_Errand,T.na_Errand_house⟩ zg) (za (pv 0))) (za (pv 1)) (yk _)))) (fun _ _ _=>(za (pv 0))))) zc))))))
end
noncomputable def zjP (kE kR:Addr):Ev->Mem->Out Fl:=
 (yy (eOp ixT (eOp ixT (eOp ixT (eOp ixT (yb 0) (eC (.int 0))) (eOp ixT (eOp ixT (yb 1) (eOp ixT (yb 2) (eC (.int 0)))) (eC (.int 0)))) (eC (.int 1))) (eOp ixT (yb 2) (eC (.int 1)))))
noncomputable def zcd (kE kR:Addr):List FT.T->Mem->Out FT.T:=yi 3 3 (zjP kE kR)
section
theorem zlY:FnScope ["net","errands","caller"] ["net","errands","caller"] (yf zgw):=by ac_rfl
theorem zbF (D:Df K mg "_law_ask" zgw ["net","errands","caller"]) (T:Txt K mg kE kR)   :CalT P w K mg base 1 "_law_ask" ["net","errands","caller"] (zcd kE kR):=
 zr D zlY rfl rfl (fun f cdv A outer s H E hr=>(ye (zo (qd qg (qd qg (qd qg (qd qg (za (pv 0)) yc (fun _ _=>rfl)) (qd qg (qd qg (za (pv 1)) (qd qg (za (pv 2)) yc (fun _ _=>rfl)) (fun _ _=>rfl)) yc (fun _ _=>rfl)) (fun _ _=>rfl)) yc (fun _ _=>rfl)) (qd qg (za (pv 2)) yc (fun _ _=>rfl)) (fun _ _=>rfl)))))
end
noncomputable def za5 (kE kR:Addr):Ev->Mem->Out Fl:=
 (zh (zcD (eOp ixT (yb 1) (yb 4)) (zem 3 (zX (yn 5) (zX (yn 6) (zX (yn 7) zen)))))
 (sIf (zk (eOp isN (yb 6) (eC .non))) (sIf (zk (eOp neA (yb 5) (eC (.int 0)))) (yy (eC (.bl false))) qE) (zh (qr 8 (ze (zcd kE kR) (zb (yb 0) (zb (yb 1) (zb (yb 6) zd)))))
 (zh (qr 9 (qY ze2 zcP (yb 3) (zb (eSl (yb 6) zcm (zbO (eC (.int 2)))) (zb (eC (.int 0)) zd))))
 (zh (sIf (zai (zk (eOp geI (eOp ixT (yb 6) (eC (.int 0))) (yb 4))) (zai (zk (eOp neA (qY zbQ zea (yb 2) (zb (eOp ixT (yb 8) (eC (.int 0))) zd)) (yb 5))) (zk (eOp neA (eOp ixT (yb 6) (eC (.int 2))) (eOp qU (yb 9) (eC (.int 1))))))) (yy (eC (.bl false))) qE)
 (zh (sIf (zai (yR (zk (eOp gtI (eOp ixT (yb 8) (eC (.int 1))) (eC (.int 0)))) (zk (eOp gtI (eOp ixT (yb 6) (eC (.int 2))) (eOp ixT (yb 8) (eC (.int 1)))))) (yR (zk (eOp gtI (eOp ixT (yb 6) (eC (.int 1))) (eC (.int 0)))) (zk (eOp zb7 (yD (zb (eOp ixT (yb 6) (eC (.int 0))) (zb (eOp zbJ (eOp ixT (yb 6) (eC (.int 1))) (eC (.int 1))) zd))) (yb 3))))) (yy (eC (.bl false))) qE)
 (zcD (eOp ixT (yb 6) (eC (.int 2))) (zgl (yb 3) (yb 6) zcm (zbO (eC (.int 2)))))))))))
noncomputable def yM (kE kR:Addr):Ev->Mem->Out Fl:=
 (zh (zcD (eOp ixT (yb 1) (yb 4)) (zem 3 (zX (yn 5) (zX (yn 6) (zX (yn 7) zen)))))
 (zh (qr 10 (eOp ixT (eOp ixT (eOp ixT (yb 0) (eC (.int 0))) (yb 5)) (eC (.int 1))))
 (zh (sIf (zai (yR (zk (eOp eqA (eOp ixT (yb 7) (eC (.int 0))) (eC (.str "works")))) (zk (eOp neA (yb 10) (yD zd)))) (yR (zk (eOp inU (eOp ixT (yb 7) (eC (.int 0))) (eFz (zD (zb (eC (.str "waits")) (zb (eC (.str "stands")) zd)))))) (zk (eOp eqA (yb 10) (yD zd))))) (yy (eC (.bl false))) qE)
 (zh (sIf (zk (eOp inU (eOp ixT (yb 7) (eC (.int 0))) (eFz (zD (zb (eC (.str "waits")) (zb (eC (.str "stands")) zd)))))) (sIf (zai (zk (eOp neA (qY ze2 zcP (yb 3) (zb (yD (zb (yb 4) (zb (eOp ixT (yb 7) (eC (.int 1))) zd))) zd)) (eOp ixT (yb 7) (eC (.int 2))))) (zk (eOp inU (yD (zb (yb 4) (zb (eOp qU (eOp ixT (yb 7) (eC (.int 1))) (eC (.int 1))) zd))) (yb 3)))) (yy (eC (.bl false))) qE) qE)
 (zh (sIf (zai (yR (zk (eOp neA (yb 10) (yD zd))) (zk (eOp zb7 (yD (zb (yb 4) (zb (eC (.int 0)) zd))) (yb 3)))) (yR (zk (eOp eqA (yb 10) (yD zd))) (zk (eOp inU (yD (zb (yb 4) (zb (eC (.int 0)) zd))) (yb 3))))) (yy (eC (.bl false))) qE)
 (sIf (yR (zk (eOp eqA (yb 7) (yD (zb (eC (.str "ended")) (zb (eC (.str "well")) zd))))) (yR (zk (eOp neA (yb 10) (yD zd))) (zk (eOp zb7 (yD (zb (yb 4) (zb (eOp zbJ (ze (yp yu) (zb (yb 10) zd)) (eC (.int 1))) zd))) (yb 3))))) (yy (eC (.bl false))) qE))))))
noncomputable def zcL (kE kR:Addr):Ev->Mem->Out Fl:=
 (zh (qr 2 (eFz (qN (zb9 (eOp ixT (yb 0) (eC (.int 0)))) (yn 0) qM (eOp ixT (yb 0) (eC (.int 0))) ["house"] [])))
 (zh (qr 3 zhw)
 (zh (zc5 (zQ (zb (ze (yp yu) (zb (yb 1) zd)) zd)) (yn 4) (za5 kE kR))
 (zh (zc5 (zQ (zb (ze (yp yu) (zb (yb 1) zd)) zd)) (yn 4) (yM kE kR))
 (yy (eC (.bl true)))))))
noncomputable def zbk (kE kR:Addr):List FT.T->Mem->Out FT.T:=yi 2 11 (zcL kE kR)
noncomputable def zY (kE kR:Addr):List FT.T->Mem->Out FT.T:=zbu (zbk kE kR)
section
theorem zu:FnScope ["net","errands","names","tried","number","house","caller","state","ask","last","asks"] ["net","errands"] (yf zbi):=by ac_rfl
theorem zK (D:Df K mg "_law_callers_right" zbi ["net","errands"]) (T:Txt K mg kE kR)   (zbF:CalT P w K mg base 1 "_law_ask" ["net","errands","caller"] (zcd kE kR)):CalT P w K mg base 2 "_law_callers_right" ["net","errands"] (zbk kE kR):=
 zr D zu rfl rfl (fun f cdv A outer s H E hr=>(yd (zet (i0:=2) (tgs:=["house"]) (caps:=[]) (zb2 (qd qg (za (pv 0)) yc (fun _ _=>rfl))) (by bv_omega) (fun _ _ _=>(qo (yr (i:=0) (show (["house"]:List Str).Nodup by decide +kernel) rfl (by first | exact Or.inl rfl | exact Or.inr rfl)))) (fun _ _ _=>zaq) (fun _ _ _=>(qd qg (za (pv 0)) yc (fun _ _=>rfl))) zu.nd rfl (Or.inl rfl))
  (yd (zj (i:=3) zu.nd rfl (Or.inl rfl) zlT)
  (yd (zbz PassesOwn.never rfl (zR rfl T.n_range (ya (qi yo rfl T.n_len boot_len (ya (za (pv 1)) zc)) zc)) (qo (yr (i:=4) zu.nd rfl (by first | exact Or.inl rfl | exact Or.inr rfl))) (yd (zbA (qd qg (za (pv 1)) (za (pv 4)) (fun _ _=>rfl)) (zcQ (zdI rfl (WGs.pe (qF (qJ (WG.pe (qo (yr (i:=5) zu.nd rfl (by first | exact Or.inl rfl | exact Or.inr rfl)))) (WGs.pe (qF (qJ (WG.pe (qo (yr (i:=6) zu.nd rfl (by first | exact Or.inl rfl | exact Or.inr rfl)))) (WGs.pe (qF (qJ (WG.pe (qo (yr (i:=7) zu.nd rfl (by first | exact Or.inl rfl | exact Or.inr rfl)))) (WGs.pe zb3)))))))))))))
  (ye (yw (zi zdJ (za (pv 6)) yV (yk _)) (ye (yw (zi (zap hr.units) (za (pv 5)) yc (yk _)) (ye (zo zP)) qu)) (yd (zj (i:=8) zu.nd rfl (Or.inl rfl) (yg zbF (hr.mono (by decide)) rfl (ya (za (pv 0)) (ya (za (pv 1)) (ya (za (pv 6)) zc)))))
  (yd (zj (i:=9) zu.nd rfl (Or.inl rfl) (zbw zkF (zZ PySem.F.plainAttrs_dict PySem.F.slot_dict_get PySem.F.type_dict_get (zib hr.units) (WE.pe (za (pv 3))) (WA.pe (ya (zfO (za (pv 6)) zbv (zaQ yc)) (ya yc zc))))))
  (yd (yw (WW.gt (z5 (zi zkZ (qd qg (za (pv 6)) yc (fun _ _=>rfl)) (za (pv 4)) (yk _)) (z5 (zi (zap hr.units) (zbw zfP (zZ QC PySem.F.slot_list_index PySem.F.type_list_index (zk3 hr.units) (WE.pe (za (pv 2))) (WA.pe (ya (qd qg (za (pv 8)) yc (fun _ _=>rfl)) zc)))) (za (pv 5)) (yk _)) (y9 (zi (zap hr.units) (qd qg (za (pv 6)) yc (fun _ _=>rfl)) (zn yH (za (pv 9)) yc) (yk _)))))) (ye (zo zP)) qu)
  (yd (yw (WW.gt (z5 (WW.gt (zV (zi zbN (qd qg (za (pv 8)) yc (fun _ _=>rfl)) yc (yk _)) (yP (zi zbN (qd qg (za (pv 6)) yc (fun _ _=>rfl)) (qd qg (za (pv 8)) yc (fun _ _=>rfl)) (yk _))))) (y9 (WW.gt (zV (zi zbN (qd qg (za (pv 6)) yc (fun _ _=>rfl)) yc (yk _)) (yP (zi (zgE hr.units) (yx (ya (qd qg (za (pv 6)) yc (fun _ _=>rfl)) (ya (zn zaI (qd qg (za (pv 6)) yc (fun _ _=>rfl)) yc) zc))) (za (pv 3)) rfl))))))) (ye (zo zP)) qu)
  (ye (zbA (qd qg (za (pv 6)) yc (fun _ _=>rfl)) (zlS hr.units (za (pv 3)) (za (pv 6)) zbv (zaQ yc))))))))))))
  (yd (zbz PassesOwn.never rfl (zR rfl T.n_range (ya (qi yo rfl T.n_len boot_len (ya (za (pv 1)) zc)) zc)) (qo (yr (i:=4) zu.nd rfl (by first | exact Or.inl rfl | exact Or.inr rfl))) (yd (zbA (qd qg (za (pv 1)) (za (pv 4)) (fun _ _=>rfl)) (zcQ (zdI rfl (WGs.pe (qF (qJ (WG.pe (qo (yr (i:=5) zu.nd rfl (by first | exact Or.inl rfl | exact Or.inr rfl)))) (WGs.pe (qF (qJ (WG.pe (qo (yr (i:=6) zu.nd rfl (by first | exact Or.inl rfl | exact Or.inr rfl)))) (WGs.pe (qF (qJ (WG.pe (qo (yr (i:=7) zu.nd rfl (by first | exact Or.inl rfl | exact Or.inr rfl)))) (WGs.pe zb3)))))))))))))
  (yd (zj (i:=10) zu.nd rfl (Or.inl rfl) (qd qg (qd qg (qd qg (za (pv 0)) yc (fun _ _=>rfl)) (za (pv 5)) (fun _ _=>rfl)) yc (fun _ _=>rfl)))
  (yd (yw (WW.gt (z5 (WW.gt (zV (zi (yE hr.units) (qd qg (za (pv 7)) yc (fun _ _=>rfl)) qp (yk _)) (yP (zi (zap hr.units) (za (pv 10)) (yx zc) (yk _))))) (y9 (WW.gt (zV (zi (zf1 hr.units) (qd qg (za (pv 7)) yc (fun _ _=>rfl)) (zH (yB (ya qp (ya qp zc)))) rfl) (yP (zi (yE hr.units) (za (pv 10)) (yx zc) (yk _)))))))) (ye (zo zP)) qu)
  (yd (yw (zi (zf1 hr.units) (qd qg (za (pv 7)) yc (fun _ _=>rfl)) (zH (yB (ya qp (ya qp zc)))) rfl) (ye (yw (WW.gt (z5 (zi (zap hr.units) (zbw zkF (zZ PySem.F.plainAttrs_dict PySem.F.slot_dict_get PySem.F.type_dict_get (zib hr.units) (WE.pe (za (pv 3))) (WA.pe (ya (yx (ya (za (pv 4)) (ya (qd qg (za (pv 7)) yc (fun _ _=>rfl)) zc))) zc)))) (qd qg (za (pv 7)) yc (fun _ _=>rfl)) (yk _)) (y9 (zi (zf1 hr.units) (yx (ya (za (pv 4)) (ya (zn yH (qd qg (za (pv 7)) yc (fun _ _=>rfl)) yc) zc))) (za (pv 3)) rfl)))) (ye (zo zP)) qu)) qu)
  (yd (yw (WW.gt (z5 (WW.gt (zV (zi (zap hr.units) (za (pv 10)) (yx zc) (yk _)) (yP (zi (zgE hr.units) (yx (ya (za (pv 4)) (ya yc zc))) (za (pv 3)) rfl)))) (y9 (WW.gt (zV (zi (yE hr.units) (za (pv 10)) (yx zc) (yk _)) (yP (zi (zf1 hr.units) (yx (ya (za (pv 4)) (ya yc zc))) (za (pv 3)) rfl))))))) (ye (zo zP)) qu)
  (ye (yw (WW.gt (zV (zi (yE hr.units) (za (pv 7)) (yx (ya qp (ya qp zc))) (yk _)) (zV (zi (zap hr.units) (za (pv 10)) (yx zc) (yk _)) (yP (zi (zgE hr.units) (yx (ya (za (pv 4)) (ya (zn zaI (qi yo rfl T.n_len boot_len (ya (za (pv 10)) zc)) yc) zc))) (za (pv 3)) rfl))))) (ye (zo zP)) qu))))))))
  (ye (zo zP)))))))
end
noncomputable def zg6 (kE kR:Addr):Ev->Mem->Out Fl:=
 (yy (ze (yp yu) (zb (eFz (yY (zau (yb 0)) (yn 0) (zk (eOp eqA (yb 0) (eC (.tup [.str "fresh"])))) (yb 0) ["event"] [])) zd)))
noncomputable def zbD (kE kR:Addr):List FT.T->Mem->Out FT.T:=yi 1 1 (zg6 kE kR)
section
theorem zj9:FnScope ["events"] ["events"] (yf zey):=by ac_rfl
theorem zcx (D:Df K mg "run_pay" zey ["events"]) (T:Txt K mg kE kR)   :CalT P w K mg base 1 "run_pay" ["events"] (zbD kE kR):=
 zr D zj9 rfl rfl (fun f cdv A outer s H E hr=>(ye (zo (qi yo rfl T.n_len boot_len (ya (zH (zeu (tgs:=["event"]) (caps:=[]) (zb1 (za (pv 0))) (by bv_omega) (fun _ _ _=>(qo (yr (i:=0) (show (["event"]:List Str).Nodup by decide +kernel) rfl (by first | exact Or.inl rfl | exact Or.inr rfl)))) (fun _ _ _=>(zcY (zi (yE hr.units) (za (pv 0)) (zev (ss:=["fresh"]) rfl T.c_FRESH) (yk _)))) (fun _ _ _=>(za (pv 0))))) zc)))))
end
noncomputable def zdd (kE kR:Addr):Ev->Mem->Out Fl:=
 (sIf (yR (zk (eOp zat (yb 9) (eC .non))) (zk (eOp eqA (eOp ixT (ze (zcd kE kR) (zb (yb 0) (zb (yb 1) (zb (yb 9) zd)))) (eC (.int 2))) (yb 4)))) (yJ (zaP z9 (eUn yL (yb 7)) (zb (eOp ixT (yb 9) (eC (.int 2))) zd))) qE)
noncomputable def zdg (kE kR:Addr):Ev->Mem->Out Fl:=
 (zh (zcD (eOp ixT (eOp ixT (yb 0) (eC (.int 1))) (yb 3)) (zem 3 (zX (yn 4) (zX (yn 5) (zX (yn 6) zen)))))
 (zh (qr 7 (eTk (zD zd)))
 (zh (zc5 (zb9 (yb 1)) (zem 3 (zX (yn 8) (zX (yn 9) (zX (yn 10) zen)))) (zdd kE kR))
 (zh (qr 11 (ze (yp yu) (zb (eFz (yY (zau (yb 7)) (yn 0) (zk (eOp gtI (yb 0) (eC (.int 1)))) (yb 0) ["count"] [])) zd)))
 (zh (qr 12 (eOp zbJ (ze (yp yu) (zb (yb 7) zd)) (eOp yT (yb 11) (ze (yp ziq) (zb (eOp eqA (yb 5) (eC (.str "first"))) zd)))))
 (zh (zcD (eOp ixT (yb 2) (yb 3)) (zem 2 (zX (yn 13) (zX (yn 14) zen))))
 (yy (zfF (zeN leI ltI (eC (.int 0)) (yb 13) (yb 6)) (zfF (eOp geI (yb 14) (eC (.int 0))) (zfF (eOp eqA (yb 13) (eOp zby (yb 12) (yb 6))) (eOp eqA (yb 14) (eOp zbJ (eOp zdw (yb 12) (yb 6)) (yb 11)))))))))))))
noncomputable def zbT (kE kR:Addr):List FT.T->Mem->Out FT.T:=yi 4 15 (zdg kE kR)
noncomputable def qV (kE kR:Addr):List FT.T->Mem->Out FT.T:=zbu (zbT kE kR)
section
theorem yA:FnScope ["net","errands","purses","k","name","which","per","some","house","caller","state","again","put","shares","coins"] ["net","errands","purses","k"] (yf zbL):=by ac_rfl
theorem zO (D:Df K mg "_law_purse_right" zbL ["net","errands","purses","k"]) (T:Txt K mg kE kR)   (zbF:CalT P w K mg base 1 "_law_ask" ["net","errands","caller"] (zcd kE kR)):CalT P w K mg base 2 "_law_purse_right" ["net","errands","purses","k"] (zbT kE kR):=
 zr D yA rfl rfl (fun f cdv A outer s H E hr=>(yd (zbA (qd qg (qd qg (za (pv 0)) yc (fun _ _=>rfl)) (za (pv 3)) (fun _ _=>rfl)) (zcQ (zdI rfl (WGs.pe (qF (qJ (WG.pe (qo (yr (i:=4) yA.nd rfl (by first | exact Or.inl rfl | exact Or.inr rfl)))) (WGs.pe (qF (qJ (WG.pe (qo (yr (i:=5) yA.nd rfl (by first | exact Or.inl rfl | exact Or.inr rfl)))) (WGs.pe (qF (qJ (WG.pe (qo (yr (i:=6) yA.nd rfl (by first | exact Or.inl rfl | exact Or.inr rfl)))) (WGs.pe zb3)))))))))))))
  (yd (zj (i:=7) yA.nd rfl (Or.inl rfl) (zad (yB zc)))
  (yd (zbz PassesOwn.never rfl (zb2 (za (pv 1))) (zcQ (zdI rfl (WGs.pe (qF (qJ (WG.pe (qo (yr (i:=8) yA.nd rfl (by first | exact Or.inl rfl | exact Or.inr rfl)))) (WGs.pe (qF (qJ (WG.pe (qo (yr (i:=9) yA.nd rfl (by first | exact Or.inl rfl | exact Or.inr rfl)))) (WGs.pe (qF (qJ (WG.pe (qo (yr (i:=10) yA.nd rfl (by first | exact Or.inl rfl | exact Or.inr rfl)))) (WGs.pe zb3)))))))))))) (ye (yw (WW.gt (zV (zi zdf (za (pv 9)) yV (yk _)) (yP (zi (yE hr.units) (qd qg (yg zbF (hr.mono (by decide)) rfl (ya (za (pv 0)) (ya (za (pv 1)) (ya (za (pv 9)) zc)))) yc (fun _ _=>rfl)) (za (pv 4)) (yk _))))) (ye (zx (zac (zZ QC QF QE qK (WE.pe (za (pv 7))) (WA.pe (ya (qd qg (za (pv 9)) yc (fun _ _=>rfl)) zc)))))) qu)))
  (yd (zj (i:=11) yA.nd rfl (Or.inl rfl) (qi yo rfl T.n_len boot_len (ya (zH (zeu (tgs:=["count"]) (caps:=[]) (zb1 (za (pv 7))) (by bv_omega) (fun _ _ _=>(qo (yr (i:=0) (show (["count"]:List Str).Nodup by decide +kernel) rfl (by first | exact Or.inl rfl | exact Or.inr rfl)))) (fun _ _ _=>(zcY (zi zbN (za (pv 0)) yc (yk _)))) (fun _ _ _=>(za (pv 0))))) zc)))
  (yd (zj (i:=12) yA.nd rfl (Or.inl rfl) (zn zaI (qi yo rfl T.n_len boot_len (ya (za (pv 7)) zc)) (zn zaJ (za (pv 11)) (zbG zhc rfl T.n_int boot_int (ya (zab (yE hr.units) (za (pv 5)) qp (yk _)) zc)))))
  (yd (zbA (qd qg (za (pv 2)) (za (pv 3)) (fun _ _=>rfl)) (zcQ (zdI rfl (WGs.pe (qF (qJ (WG.pe (qo (yr (i:=13) yA.nd rfl (by first | exact Or.inl rfl | exact Or.inr rfl)))) (WGs.pe (qF (qJ (WG.pe (qo (yr (i:=14) yA.nd rfl (by first | exact Or.inl rfl | exact Or.inr rfl)))) (WGs.pe zb3))))))))))
  (ye (zo (zdD (zgY zh4 zeB yc (za (pv 13)) (za (pv 6))) (zdD (zab zkZ (za (pv 14)) yc (yk _)) (zdD (zab (yE hr.units) (za (pv 13)) (zn zaK (za (pv 12)) (za (pv 6))) (yk _)) (zdC (zab (yE hr.units) (za (pv 14)) (zn zaI (zn zeX (za (pv 12)) (za (pv 6))) (za (pv 11))) (yk _)))))))))))))))
end
noncomputable def zlM (kE kR:Addr):Ev->Mem->Out Fl:=
 (zh (qr 4 (ze (zcV kE kR) (zb (eOp qU (ze (zcc kE kR) (zb (yb 0) (zb (yb 3) zd))) (yb 3)) zd)))
 (zh (qr 5 (ze (zcO kE kR) (zb (yb 1) (zb (yb 2) zd))))
 (zh (sIf (yR (zk (eOp gtI (ze (yp yu) (zb (yb 5) zd)) (eC (.int 1)))) (zk (eOp gtI (ze (zy kE kR) (zb (yb 4) (zb (eC (.int 4)) zd))) (eC (.int 0))))) (qr 5 (eSl (yb 5) (zbO (eC (.int 1))) zcm)) qE)
 (zh (yJ (zaP z9 (eUn yL (yb 2)) (zb (eOp ixT (yb 5) (ze (zy kE kR) (zb (yb 4) (zb (ze (yp yu) (zb (yb 5) zd)) zd)))) zd)))
 (zh (zcD (ze (zfZ kE kR) (zb (yb 1) (zb (yb 2) zd))) (zem 2 (zX (yn 6) (zX (yn 7) zen))))
 (zh (sIf (zai (zk (eOp neA (ze (yp yu) (zb (yb 7) zd)) (ze (yp yu) (zb (eOp ixT (yb 1) (eC (.int 1))) zd)))) (zbI (zk (ze (zY kE kR) (zb (yb 1) (zb (yb 6) zd)))))) (yy (eC (.bl false))) qE)
 (zh (sIf (zbI (zk (ze (yp zgV) (zb (eFz (qN (zQ (zb (ze (yp yu) (zb (yb 7) zd)) zd)) (yn 0) qM (ze (qV kE kR) (zb (yb 1) (zb (yb 2) (zb (yb 3) (zb (yb 0) zd))))) ["at"] [("net",1),("errands",6),("purses",7)])) zd)))) (yy (eC (.bl false))) qE)
 (zh (qr 8 (eFz (qN (zQ (zb (ze (yp yu) (zb (eOp ixT (yb 1) (eC (.int 0))) zd)) zd)) (yn 0) qM (ze (zba kE kR) (zb (yb 1) (zb (yb 2) (zb (yb 0) zd)))) ["house"] [("net",1),("events",2)])))
 (sIf (zai (zk (eOp neA (ze (yp sumK) (zb (yb 8) zd)) (ze (yp yu) (zb (yb 6) zd)))) (zk (eOp neA (ze (zbD kE kR) (zb (yb 2) zd)) (ze (yp yu) (zb (eFz (qN (zb9 (yb 6)) (yn 0) (zk (eOp isN (eOp ixT (yb 0) (eC (.int 1))) (eC .non))) (yb 0) ["one"] [])) zd))))) (yy (eC (.bl false))) qE)))))))))
noncomputable def zm3 (kE kR:Addr):Ev->Mem->Out Fl:=
 (zh (qr 1 (ze (ze5 kE kR) (zb (ze (zcV kE kR) (zb (ze (zcc kE kR) (zb (yb 0) (zb (eC (.int 0)) zd))) zd)) zd)))
 (zh (qr 2 (eTk (zD zd)))
 (zh (zc5 (zgQ (zb (eC (.int 1)) (zb (ze (call2 zid) (zb (eC (.int 14)) (zb (ze (call2 zgK) (zb (eC (.int 63)) (zb (ze (yp yu) (zb (yb 0) zd)) zd))) zd))) zd))) (yn 3) (zlM kE kR))
 (yy (eC (.bl true))))))
noncomputable def zhv (kE kR:Addr):List FT.T->Mem->Out FT.T:=yi 1 9 (zm3 kE kR)
section
theorem zbn:FnScope ["script","net","events","k","pool","some","errands","purses","loads"] ["script"] (yf zkc):=by ac_rfl
theorem zpr {f:Addr} {fd:FuncData} (D:Fun K "law" "law" zkc f fd) (T:Txt K mg kE kR)   (zdN:CalT P w K mg base 3 "_law_net" ["pool"] (ze5 kE kR)) (zcX:CalT P w K mg base 1 "_law_dig" ["cell"] (zcV kE kR)) (zaB:CalT P w K mg base 32 "may_come" ["net","events"] (zcO kE kR)) (zel:CalT P w K mg base 32 "ran" ["net","events"] (zfZ kE kR)) (zci:CalT P w K mg base 1 "_law_cell" ["script","k"] (zcc kE kR)) (zaA:CalT P w K mg base 32 "run_load" ["net","events","house"] (zba kE kR)) (zw:CalT P w K mg base 1 "_law_next" ["pool","base"] (zy kE kR)) (zK:CalT P w K mg base 2 "_law_callers_right" ["net","errands"] (zY kE kR)) (zcx:CalT P w K mg base 1 "run_pay" ["events"] (zbD kE kR)) (zO:CalT P w K mg base 2 "_law_purse_right" ["net","errands","purses","k"] (qV kE kR)):FnOk P w K mg base CX0 33 f fd ["script"] (spT K (zhv kE kR)):=
 zm6 D zbn rfl rfl (fun cdv A outer s H E hr=>(yd (zj (i:=1) zbn.nd rfl (Or.inr rfl) (yg zdN (hr.mono (by decide)) rfl (ya (yg zcX (hr.mono (by decide)) rfl (ya (yg zci (hr.mono (by decide)) rfl (ya (za (pv 0)) (ya yc zc))) zc)) zc)))
  (yd (zj (i:=2) zbn.nd rfl (Or.inr rfl) (zad (yB zc)))
  (yd (zbz PassesOwn.never rfl (zj2 rfl T.n_range (ya yc (ya (qi (zhb rfl) rfl T.n_max boot_max (ya yc (ya (qi (zeP rfl) rfl T.n_min boot_min (ya yc (ya (qi yo rfl T.n_len boot_len (ya (za (pv 0)) zc)) zc))) zc))) zc))) (qo (yr (i:=3) zbn.nd rfl (by first | exact Or.inl rfl | exact Or.inr rfl))) (yd (zj (i:=4) zbn.nd rfl (Or.inl rfl) (yg zcX (hr.mono (by decide)) rfl (ya (zn yH (yg zci (hr.mono (by decide)) rfl (ya (za (pv 0)) (ya (za (pv 3)) zc))) (za (pv 3))) zc)))
  (yd (zj (i:=5) zbn.nd rfl (Or.inl rfl) (yg zaB (hr.mono (by decide)) rfl (ya (za (pv 1)) (ya (za (pv 2)) zc))))
  (yd (yw (WW.gt (zV (zi zbN (qi yo rfl T.n_len boot_len (ya (za (pv 5)) zc)) yc (yk _)) (yP (zi zbN (yg zw (hr.mono (by decide)) rfl (ya (za (pv 4)) (ya yc zc))) yc (yk _))))) (ye (zj (i:=5) zbn.nd rfl (Or.inl rfl) (zfO (za (pv 5)) (zaQ yc) zbv))) qu)
  (yd (zx (zac (zZ QC QF QE qK (WE.pe (za (pv 2))) (WA.pe (ya (qd qg (za (pv 5)) (yg zw (hr.mono (by decide)) rfl (ya (za (pv 4)) (ya (qi yo rfl T.n_len boot_len (ya (za (pv 5)) zc)) zc))) (fun _ _=>rfl)) zc)))))
  (yd (zbA (yg zel (hr.mono (by decide)) rfl (ya (za (pv 1)) (ya (za (pv 2)) zc))) (zcQ (zdI rfl (WGs.pe (qF (qJ (WG.pe (qo (yr (i:=6) zbn.nd rfl (by first | exact Or.inl rfl | exact Or.inr rfl)))) (WGs.pe (qF (qJ (WG.pe (qo (yr (i:=7) zbn.nd rfl (by first | exact Or.inl rfl | exact Or.inr rfl)))) (WGs.pe zb3))))))))))
  (yd (yw (WW.gt (z5 (zi (zap hr.units) (qi yo rfl T.n_len boot_len (ya (za (pv 7)) zc)) (qi yo rfl T.n_len boot_len (ya (qd qg (za (pv 1)) yc (fun _ _=>rfl)) zc)) (yk _)) (y9 (zb0 (zaa (yg zK (hr.mono (by decide)) rfl (ya (za (pv 1)) (ya (za (pv 6)) zc)))))))) (ye (zo zP)) qu)
  (yd (yw (zb0 (zaa (qi (zlI rfl) rfl T.n_all boot_all (ya (zH (zaR (tgs:=["at"]) (caps:=[("net",1),("errands",6),("purses",7)]) (zR rfl T.n_range (ya (qi yo rfl T.n_len boot_len (ya (za (pv 7)) zc)) zc)) (by bv_omega) (fun _ _ _=>(qo (yr (i:=0) (show (["at","net","errands","purses"]:List Str).Nodup by decide +kernel) rfl (by first | exact Or.inl rfl | exact Or.inr rfl)))) (fun _ _ _=>zaq) (fun _ _ _=>(yg zO (hr.mono (by decide)) rfl (ya (za (pv 1)) (ya (za (pv 2)) (ya (za (pv 3)) (ya (za (pv 0)) zc)))))))) zc)))) (ye (zo zP)) qu)
  (yd (zet (i0:=8) (tgs:=["house"]) (caps:=[("net",1),("events",2)]) (zR rfl T.n_range (ya (qi yo rfl T.n_len boot_len (ya (qd qg (za (pv 1)) yc (fun _ _=>rfl)) zc)) zc)) (by bv_omega) (fun _ _ _=>(qo (yr (i:=0) (show (["house","net","events"]:List Str).Nodup by decide +kernel) rfl (by first | exact Or.inl rfl | exact Or.inr rfl)))) (fun _ _ _=>zaq) (fun _ _ _=>(yg zaA (hr.mono (by decide)) rfl (ya (za (pv 1)) (ya (za (pv 2)) (ya (za (pv 0)) zc))))) zbn.nd rfl (Or.inl rfl))
  (ye (yw (WW.gt (z5 (zi (zap hr.units) (qi (zlE rfl) rfl T.n_sum boot_sum (ya (za (pv 8)) zc)) (qi yo rfl T.n_len boot_len (ya (za (pv 6)) zc)) (yk _)) (y9 (zi (zap hr.units) (yg zcx (hr.mono (by decide)) rfl (ya (za (pv 2)) zc)) (qi yo rfl T.n_len boot_len (ya (zH (zaR (tgs:=["one"]) (caps:=[]) (zb2 (za (pv 6))) (by bv_omega) (fun _ _ _=>(qo (yr (i:=0) (show (["one"]:List Str).Nodup by decide +kernel) rfl (by first | exact Or.inl rfl | exact Or.inr rfl)))) (fun _ _ _=>(zcY (zi zdJ (qd qg (za (pv 0)) yc (fun _ _=>rfl)) yV (yk _)))) (fun _ _ _=>(za (pv 0))))) zc)) (yk _))))) (ye (zo zP)) qu)))))))))))
  (ye (zo zP))))))
end
end My
open Lean in
local macro_rules | `(tactic| simp_arith [$xs,*]) => do
  let ids := ("FT.zkN FT.zsx FT.zsy FT.startT FT.zh FT.yy FT.qr FT.sIf FT.yJ FT.zcD FT.qE FT.zc5 FT.yb FT.eC FT.eOp FT.eUn FT.zfF FT.eOr FT.zkt FT.eIf FT.ze FT.yD FT.eFz FT.eTk FT.zD FT.zsV FT.zeN FT.lOp FT.eSl FT.zcm FT.zbO FT.zmq FT.zfG FT.zsG FT.zsU FT.zaP FT.zd FT.zb FT.zk FT.yR FT.zai FT.zbI FT.zsR FT.zsD FT.zsq FT.yh FT.zrN FT.zrP FT.zrO FT.zsa FT.zr9 FT.zsc FT.zsb FT.yn FT.zkz FT.zem FT.zX FT.zen FT.zb9 FT.zQ FT.zgQ FT.zhR FT.ixT FT.zfz FT.ziw FT.zs3 FT.zs2 FT.zs1 FT.zs0 FT.qN FT.zch FT.qM Option.join_some Option.join_none FT.zse FT.zml FT.zgq FT.zsY FT.zsX FT.zsW QG map_nil Qp length_nil List.cons_append nil_append List.getElem?_cons_zero getElem?_cons_succ List.set_cons_zero List.set_cons_succ List.replicate Nat.zero_add Nat.reduceAdd Nat.reduceSub FT.zsC FT.zsB FT.zsF FT.zsE Int.reduceBEq Int.reduceLT FT.zsu FT.zsK FT.zsL FT.zsN FT.zsO FT.zsI FT.zsA FT.zsP FT.zsJ FT.zsM FT.zsi Bool.false_eq_true reduceIte Nat.reduceEqDiff Nat.succ.injEq Bool.not_true Bool.not_false FT.zgI FT.zsz FT.zsQ Int.reduceToNat Int.reducePow ne_eq Int.reduceEq not_false_eq_true Int.reduceNeg Bool.bne_true Bool.bne_false Bool.true_bne Bool.false_bne decide_true decide_false FT.zmN FT.zsp FT.zso FT.zsv FT.zsw".splitOn " ").toArray.map fun s => Lean.mkIdent s.toName
  `(tactic| simp (config := {decide := true}) only [$[$ids:term],*, $xs,*])
namespace My
open PySem L2 FT
structure Ask where
 to:Str
 tries:Int
 purse:Option Str
 word:Str
 hears:Bool
 sure:Bool
structure Hs where
 name:Str
 asks:List Ask
structure Pu where
 name:Str
 earns:Str
 per:Int
structure Net where
 hs:List Hs
 ps:List Pu
noncomputable def opS (o:Option Str):FT.T:=o.elim .non .str
noncomputable def qC (a:Ask):FT.T:=.tup [.str a.to,.int a.tries,opS a.purse,.str a.word,.bl a.hears,.bl a.sure]
noncomputable def hsT (h:Hs):FT.T:=.tup [.str h.name,.tup (h.asks.map qC)]
noncomputable def puT (p:Pu):FT.T:=.tup [.str p.name,.str p.earns,.int p.per]
noncomputable def qf (n:Net):FT.T:=.tup [.tup (n.hs.map hsT),.tup (n.ps.map puT)]
inductive Ph where
 | works
 | waits (a t:Nat)
 | stands (a t:Nat)
 | ended (w:Str)
noncomputable def phT:Ph->FT.T
 | .works=>.tup [.str "works"]
 | .waits a t=>.tup [.str "waits",.int (a:Int),.int (t:Int)]
 | .stands a t=>.tup [.str "stands",.int (a:Int),.int (t:Int)]
 | .ended w=>.tup [.str "ended",.str w]
structure Er where
 house:Nat
 caller:Option (Nat × Nat × Nat)
 ph:Ph
 lost:Bool
 asked:Option Nat
 stood:Option Nat
noncomputable abbrev nT (n:Nat):FT.T:=.int (n:Int)
noncomputable def clT (o:Option (Nat × Nat × Nat)):FT.T:=o.elim .non fun c=>.tup [nT c.1,nT c.2.1,nT c.2.2]
noncomputable def onT (o:Option Nat):FT.T:=o.elim .non nT
noncomputable def erF (e:Er):List (Str × FT.T):=[("house",nT e.house),("caller",clT e.caller),("state",phT e.ph),("is_lost",.bl e.lost),("asked",onT e.asked),("stood",onT e.stood)]
structure Run where
 came:Nat
 es:List Er
 puts:List (List Nat)
 pays:List (Nat × Nat × Nat)
 taken:List Nat
noncomputable def zfy (p:Nat × Nat × Nat):FT.T:=.tup [nT p.1,nT p.2.1,nT p.2.2]
structure Lay where
 a:Nat
 p:Nat
 q:Nat
 t:Nat
 es:List Nat
 ps:List Nat
noncomputable def zb5 (nt:FT.T) (l:Lay) (R:Run):List (Str × FT.T):=[("net",nt),("came",nT R.came),("errands",.ref l.a),("puts",.ref l.p),("payments",.ref l.q),("taken",.ref l.t)]
variable {e:Er} {l:Lay} {u:List Nat} {M:Mem} {i k r x:Nat} {R:Run}
section
variable (kE kR:Addr)
noncomputable def ezC (es:List Nat) (rs:List Er):List (Nat × Cell):=List.zipWith (fun x e=>(x,Cell.ins kE (erF e))) es rs
noncomputable def pzC (ps:List Nat) (us:List (List Nat)):List (Nat × Cell):=List.zipWith (fun x u=>(x,Cell.lst (u.map nT))) ps us
noncomputable def cells (nt:FT.T) (r:Nat) (l:Lay) (R:Run):List (Nat × Cell):=
 (r,.ins kR (zb5 nt l R)) :: (l.a,.lst (l.es.map .ref)) :: (l.p,.lst (l.ps.map .ref)) :: (l.q,.lst (R.pays.map zfy)) :: (l.t,.lst (R.taken.map nT)) :: (ezC kE l.es R.es ++ pzC l.ps R.puts)
def Holds (M:Mem) (L:List (Nat × Cell)):Prop:=∀ p ∈ L,M[p.1]? = some p.2
theorem Holds.set {L:List (Nat × Cell)} (h:Holds M L) (nd:(L.map (·.1)).Nodup) {p:Nat × Cell} (hk:L[k]? = some p) (c:Cell):Holds (M.set p.1 c) (L.set k (p.1,c)):=by
 intro q hq
 have hkl:=(Qz.mp hk).1
 obtain ⟨i,hi⟩:=mem_iff_getElem?.mp hq
 rw [Qc] at hi
 by_cases e:k = i
 ·rw [QA e,QA hkl] at hi
  cases hi
  exact get_set (h p (Qa hk))
 ·rw [QB e] at hi
  have hne:p.1 ≠ q.1:=fun z=>by
   have h1:(L.map (·.1))[k]? = some p.1:=by rw [Qb,hk];rfl
   have h2:(L.map (·.1))[i]? = some q.1:=by rw [Qb,hi];rfl
   exact e ((List.getElem?_inj (by simpa using hkl) nd).mp (h1.trans (by rw [h2,z])))
  rw [Qc,QB hne]
  exact h q (Qa hi)
structure RunAt (nt:FT.T) (b r:Nat) (l:Lay) (M:Mem) (R:Run):Prop where
 ho:Holds M (cells kE kR nt r l R)
 nd:((cells kE kR nt r l R).map (·.1)).Nodup
 lo:∀ p ∈ cells kE kR nt r l R,b<=p.1
 el:l.es.length = R.es.length
 pl:l.ps.length = R.puts.length
 tl:R.taken.length = R.puts.length
def Kp (b:Nat) (M M':Mem):Prop:=M.length<=M'.length/\∀ i,i < b->M'[i]? = M[i]?
theorem Kp.refl (b:Nat) (M:Mem):Kp b M M:=⟨Q3 _,fun _ _=>rfl⟩
theorem Kp.trans {b:Nat} {A B C:Mem} (h:Kp b A B) (g:Kp b B C):Kp b A C:=⟨Qj h.1 g.1,fun i hi=>by rw [g.2 i hi,h.2 i hi]⟩
theorem Kp.set {b:Nat} (M:Mem) (c:Cell) (hx:b<=x):Kp b M (M.set x c):=⟨by simp,fun i hi=>by rw [Qc,QB (by omega)]⟩
theorem Kp.app {b:Nat} (M:Mem) (cs:List Cell) (hb:b<=M.length):Kp b M (M ++ cs):=⟨by simp,fun i hi=>Q6 (by omega)⟩
variable {kE kR} {nt:FT.T} {b r:Nat} {l:Lay} {M:Mem} {R:Run}
theorem zip_get {α β γ:Type} {f:α->β->γ} {as:List α} {bs:List β} {x:α} {y:β} (h1:as[i]? = some x) (h2:bs[i]? = some y):(List.zipWith f as bs)[i]? = some (f x y):=by
 rw [List.getElem?_zipWith,h1,h2]
theorem RunAt.run (h:RunAt kE kR nt b r l M R):M[r]? = some (.ins kR (zb5 nt l R)):=h.ho (r,_) (.head _)
theorem RunAt.er (h:RunAt kE kR nt b r l M R):M[l.a]? = some (.lst (l.es.map .ref)):=h.ho (l.a,_) (.tail _ (.head _))
theorem RunAt.pu (h:RunAt kE kR nt b r l M R):M[l.p]? = some (.lst (l.ps.map .ref)):=h.ho (l.p,_) (.tail _ (.tail _ (.head _)))
theorem RunAt.py (h:RunAt kE kR nt b r l M R):M[l.q]? = some (.lst (R.pays.map zfy)):=h.ho (l.q,_) (.tail _ (.tail _ (.tail _ (.head _))))
theorem RunAt.tk (h:RunAt kE kR nt b r l M R):M[l.t]? = some (.lst (R.taken.map nT)):=h.ho (l.t,_) (.tail _ (.tail _ (.tail _ (.tail _ (.head _)))))
theorem zqs {es:List Nat} {rs:List Er} (h1:es[i]? = some x) (h2:rs[i]? = some e):(ezC kE es rs)[i]? = some (x,.ins kE (erF e)):=zip_get h1 h2
theorem zoW {ps:List Nat} {us:List (List Nat)} (h1:ps[i]? = some x) (h2:us[i]? = some u):(pzC ps us)[i]? = some (x,.lst (u.map nT)):=zip_get h1 h2
theorem zdL (h:RunAt kE kR nt b r l M R):(ezC kE l.es R.es).length = R.es.length:=by unfold ezC;rw [List.length_zipWith,h.el,Nat.min_self]
theorem zlC (h:RunAt kE kR nt b r l M R) (h1:l.es[i]? = some x) (h2:R.es[i]? = some e):(cells kE kR nt r l R)[5 + i]? = some (x,.ins kE (erF e)):=by
 have hi:=(Qz.mp h2).1
 rw [Nat.add_comm]
 show (ezC kE l.es R.es ++ pzC l.ps R.puts)[i]? = _
 rw [Q6 (by rw [zdL h];exact hi)]
 exact zqs h1 h2
theorem zlB (h:RunAt kE kR nt b r l M R) (h1:l.ps[i]? = some x) (h2:R.puts[i]? = some u):(cells kE kR nt r l R)[5 + (R.es.length + i)]? = some (x,.lst (u.map nT)):=by
 rw [Nat.add_comm 5]
 show (ezC kE l.es R.es ++ pzC l.ps R.puts)[R.es.length + i]? = _
 rw [Q8 (by rw [zdL h];omega),zdL h,show R.es.length + i - R.es.length = i by omega]
 exact zoW h1 h2
theorem RunAt.at_e (h:RunAt kE kR nt b r l M R) (h2:R.es[i]? = some e):∃ x,l.es[i]? = some x/\M[x]? = some (.ins kE (erF e)):=by
 have hi:=(Qz.mp h2).1
 refine ⟨l.es[i]'(by rw [h.el];exact hi),Q0 _,?_⟩
 exact h.ho _ (Qa (zlC h (Q0 (by rw [h.el];exact hi)) h2))
theorem RunAt.at_p (h:RunAt kE kR nt b r l M R) (h2:R.puts[i]? = some u):∃ x,l.ps[i]? = some x/\M[x]? = some (.lst (u.map nT)):=by
 have hi:=(Qz.mp h2).1
 refine ⟨l.ps[i]'(by rw [h.pl];exact hi),Q0 _,?_⟩
 exact h.ho _ (Qa (zlB h (Q0 (by rw [h.pl];exact hi)) h2))
theorem RunAt.write (h:RunAt kE kR nt b r l M R) {c0 c:Cell} (hk:(cells kE kR nt r l R)[k]? = some (x,c0)) {R':Run} (e:cells kE kR nt r l R' = (cells kE kR nt r l R).set k (x,c)) (h1:R'.es.length = R.es.length) (h2:R'.puts.length = R.puts.length) (h3:R'.taken.length = R.taken.length):RunAt kE kR nt b r l (M.set x c) R'/\b<=x:=by
 have em:(cells kE kR nt r l R').map (·.1) = (cells kE kR nt r l R).map (·.1):=by
  rw [e,List.map_set]
  refine ext_getElem? fun i=>?_
  rw [Qc]
  by_cases z:k = i
  ·subst z
   have:=(Qz.mp hk).1
   rw [QA rfl,QA (by simpa using this),Qb,hk]
   rfl
  ·rw [QB z]
 refine ⟨⟨by rw [e];exact h.ho.set h.nd hk c,by rw [em];exact h.nd,fun p hp=>?_,by rw [h1];exact h.el,by rw [h2];exact h.pl,by rw [h3,h2];exact h.tl⟩,h.lo _ (Qa hk)⟩
 have:p.1 ∈ (cells kE kR nt r l R').map (·.1):=mem_map.mpr ⟨p,hp,rfl⟩
 rw [em] at this
 obtain ⟨q,hq,eq⟩:=mem_map.mp this
 rw [← eq];exact h.lo q hq
theorem zgp {α β γ:Type} {f:α->β->γ}:∀ {as:List α} {bs:List β} {i:Nat} {x:α} (y:β),as[i]? = some x->List.zipWith f as (bs.set i y) = (List.zipWith f as bs).set i (f x y)
 | [],_,_,_,_,h=>by simp at h
 | a :: as,[],i,x,y,h=>by simp
 | a :: as,b :: bs,0,x,y,h=>by simp at h;simp [h]
 | a :: as,b :: bs,i + 1,x,y,h=>by simp at h;simp [zgp y h]
noncomputable def Run.setE (R:Run) (i:Nat) (e:Er):Run:={ R with es:=R.es.set i e }
theorem RunAt.setE (h:RunAt kE kR nt b r l M R) (h1:l.es[i]? = some x) (h2:R.es[i]? = some e) (e':Er):RunAt kE kR nt b r l (M.set x (.ins kE (erF e'))) (R.setE i e')/\b<=x:=by
 refine h.write (zlC h h1 h2) ?_ (by simp [Run.setE]) rfl rfl
 have hi:=(Qz.mp h2).1
 rw [Nat.add_comm 5]
 show _ = _ :: _ :: _ :: _ :: _ :: (ezC kE l.es R.es ++ pzC l.ps R.puts).set i (x,.ins kE (erF e'))
 rw [List.set_append_left _ _ (by rw [zdL h];exact hi),show (ezC kE l.es R.es).set i (x,.ins kE (erF e')) = ezC kE l.es (R.es.set i e') from (zgp e' h1).symm]
 rfl
noncomputable def Run.setP (R:Run) (i:Nat) (u:List Nat):Run:={ R with puts:=R.puts.set i u }
theorem RunAt.setP (h:RunAt kE kR nt b r l M R) (h1:l.ps[i]? = some x) (h2:R.puts[i]? = some u) (u':List Nat):RunAt kE kR nt b r l (M.set x (.lst (u'.map nT))) (R.setP i u')/\b<=x:=by
 refine h.write (zlB h h1 h2) ?_ rfl (by simp [Run.setP]) rfl
 rw [Nat.add_comm 5]
 show _ = _ :: _ :: _ :: _ :: _ :: (ezC kE l.es R.es ++ pzC l.ps R.puts).set (R.es.length + i) (x,.lst (u'.map nT))
 rw [set_append_right _ _ (by rw [zdL h];omega),zdL h,show R.es.length + i - R.es.length = i by omega,show (pzC l.ps R.puts).set i (x,.lst (u'.map nT)) = pzC l.ps (R.puts.set i u') from (zgp u' h1).symm]
 rfl
theorem RunAt.setCame (h:RunAt kE kR nt b r l M R) (n:Nat):RunAt kE kR nt b r l (M.set r (.ins kR (zb5 nt l { R with came:=n }))) { R with came:=n }/\b<=r:=h.write (k:=0) rfl rfl rfl rfl rfl
theorem RunAt.setPays (h:RunAt kE kR nt b r l M R) (ps:List (Nat × Nat × Nat)):RunAt kE kR nt b r l (M.set l.q (.lst (ps.map zfy))) { R with pays:=ps }/\b<=l.q:=h.write (k:=3) rfl rfl rfl rfl rfl
theorem RunAt.setTaken (h:RunAt kE kR nt b r l M R) (ts:List Nat) (ht:ts.length = R.taken.length):RunAt kE kR nt b r l (M.set l.t (.lst (ts.map nT))) { R with taken:=ts }/\b<=l.t:=h.write (k:=4) rfl rfl rfl rfl ht
theorem RunAt.kept (h:RunAt kE kR nt b r l M R) {M':Mem} (k:∀ (i:Nat) c,M[i]? = some c->M'[i]? = some c):RunAt kE kR nt b r l M' R:=⟨fun p hp=>k _ _ (h.ho p hp),h.nd,h.lo,h.el,h.pl,h.tl⟩
theorem RunAt.app (h:RunAt kE kR nt b r l M R) (cs:List Cell):RunAt kE kR nt b r l (M ++ cs) R:=h.kept fun i c e=>by rw [Q6 (qI e)];exact e
noncomputable def Run.push (R:Run) (e:Er):Run:={ R with es:=R.es ++ [e] }
theorem RunAt.push (h:RunAt kE kR nt b r l M R) (hb:b<=M.length) (e:Er):RunAt kE kR nt b r { l with es:=l.es ++ [M.length] } ((M ++ [Cell.ins kE (erF e)]).set l.a (.lst ((l.es ++ [M.length]).map .ref))) (R.push e):=by
 have ez:ezC kE (l.es ++ [M.length]) (R.es ++ [e]) = ezC kE l.es R.es ++ [(M.length,.ins kE (erF e))]:=by
  unfold ezC
  rw [List.zipWith_append h.el]
  rfl
 have fresh:∀ p ∈ cells kE kR nt r l R,p.1 < M.length:=fun p hp=>qI (h.ho p hp)
 have hm:∀ p,p ∈ cells kE kR nt r { l with es:=l.es ++ [M.length] } (R.push e)->p = (l.a,.lst ((l.es ++ [M.length]).map .ref))\/p = (M.length,.ins kE (erF e))\/(p ∈ cells kE kR nt r l R/\p.1 ≠ l.a):=by
  intro p hp
  have nd:=h.nd
  have na:∀ q ∈ ezC kE l.es R.es ++ pzC l.ps R.puts,q.1 ≠ l.a:=fun q hq z=>by
   have h2:=(nodup_cons.mp (nodup_cons.mp nd).2).1
   exact h2 (mem_map.mpr ⟨q,.tail _ (.tail _ (.tail _ hq)),z⟩)
  have n0:r ≠ l.a:=fun z=>(nodup_cons.mp nd).1 (mem_map.mpr ⟨(l.a,_),.head _,z.symm⟩)
  have n2:l.p ≠ l.a:=fun z=>(nodup_cons.mp (nodup_cons.mp nd).2).1 (mem_map.mpr ⟨(l.p,_),.head _,z⟩)
  have n3:l.q ≠ l.a:=fun z=>(nodup_cons.mp (nodup_cons.mp nd).2).1 (mem_map.mpr ⟨(l.q,_),.tail _ (.head _),z⟩)
  have n4:l.t ≠ l.a:=fun z=>(nodup_cons.mp (nodup_cons.mp nd).2).1 (mem_map.mpr ⟨(l.t,_),.tail _ (.tail _ (.head _)),z⟩)
  unfold cells at hp
  rcases QD.mp hp with rfl | hp
  ·exact .inr (.inr ⟨.head _,n0⟩)
  rcases QD.mp hp with rfl | hp
  ·exact .inl rfl
  rcases QD.mp hp with rfl | hp
  ·exact .inr (.inr ⟨.tail _ (.tail _ (.head _)),n2⟩)
  rcases QD.mp hp with rfl | hp
  ·exact .inr (.inr ⟨.tail _ (.tail _ (.tail _ (.head _))),n3⟩)
  rcases QD.mp hp with rfl | hp
  ·exact .inr (.inr ⟨.tail _ (.tail _ (.tail _ (.tail _ (.head _)))),n4⟩)
  replace hp:p ∈ ezC kE (l.es ++ [M.length]) (R.es ++ [e]) ++ pzC l.ps R.puts:=hp
  rw [ez] at hp
  rcases mem_append.mp hp with hp | hp
  ·rcases mem_append.mp hp with hp | hp
   ·exact .inr (.inr ⟨.tail _ (.tail _ (.tail _ (.tail _ (.tail _ (mem_append_left _ hp))))),na p (mem_append_left _ hp)⟩)
   ·exact .inr (.inl (QI.mp hp))
  ·exact .inr (.inr ⟨.tail _ (.tail _ (.tail _ (.tail _ (.tail _ (Qm _ hp))))),na p (Qm _ hp)⟩)
 have la:=h.er
 have hla:=qI la
 refine ⟨fun p hp=>?_,?_,fun p hp=>?_,by simp [Run.push,h.el],h.pl,h.tl⟩
 ·rcases hm p hp with rfl | rfl | ⟨hp,hne⟩
  ·exact get_set (by rw [Q6 hla];exact la)
  ·show (List.set _ _ _)[M.length]? = _
   rw [Qc,QB (by omega)];exact zI
  ·rw [Qc,QB (Ne.symm hne),Q6 (fresh p hp)];exact h.ho p hp
 ·have e2:(cells kE kR nt r { l with es:=l.es ++ [M.length] } (R.push e)).map (·.1) = r :: l.a :: l.p :: l.q :: l.t :: ((ezC kE l.es R.es).map (·.1) ++ [M.length] ++ (pzC l.ps R.puts).map (·.1)):=by
   show _ :: _ :: _ :: _ :: _ :: (ezC kE (l.es ++ [M.length]) (R.es ++ [e]) ++ pzC l.ps R.puts).map (·.1) = _
   rw [ez]
   simp
  have e1:(cells kE kR nt r l R).map (·.1) = r :: l.a :: l.p :: l.q :: l.t :: ((ezC kE l.es R.es).map (·.1) ++ (pzC l.ps R.puts).map (·.1)):=by
   show _ :: _ :: _ :: _ :: _ :: (ezC kE l.es R.es ++ pzC l.ps R.puts).map (·.1) = _
   rw [Qq]
  have pm:List.Perm ((cells kE kR nt r { l with es:=l.es ++ [M.length] } (R.push e)).map (·.1)) (M.length :: (cells kE kR nt r l R).map (·.1)):=by
   rw [e2,e1]
   have:List.Perm ((ezC kE l.es R.es).map (·.1) ++ [M.length] ++ (pzC l.ps R.puts).map (·.1)) (M.length :: ((ezC kE l.es R.es).map (·.1) ++ (pzC l.ps R.puts).map (·.1))):=by
    rw [append_assoc]
    exact List.perm_middle
   refine ((((((this.cons _).cons _).cons _).cons _).cons _).trans ?_)
   have sw:∀ (x y:Nat) (L:List Nat),List.Perm (x :: y :: L) (y :: x :: L):=fun x y L=>List.Perm.swap y x L
   refine ((((sw _ _ _).cons _).cons _).cons _).cons _ |>.trans ?_
   refine (((sw _ _ _).cons _).cons _).cons _ |>.trans ?_
   refine ((sw _ _ _).cons _).cons _ |>.trans ?_
   refine (sw _ _ _).cons _ |>.trans ?_
   exact sw _ _ _
  refine pm.nodup_iff.mpr (nodup_cons.mpr ⟨fun z=>?_,h.nd⟩)
  obtain ⟨q,hq,eq⟩:=mem_map.mp z
  have:=fresh q hq
  omega
 ·rcases hm p hp with rfl | rfl | ⟨hp,_⟩
  ·exact h.lo (l.a,.lst (l.es.map .ref)) (.tail _ (.head _))
  ·exact hb
  ·exact h.lo p hp
end
noncomputable def zcH (s:Str):List Str->Nat->Option Nat
 | [],_=>none
 | y :: ys,k=>if (y == s) = true then some k else zcH s ys (k + 1)
theorem zis (s:Str):∀ (ys:List Str) (k:Nat),zgO (.str s) (ys.map .str) k = zcH s ys k
 | [],_=>rfl
 | y :: ys,k=>by
  show (if (y == s) = true then some k else zgO (.str s) (ys.map .str) (k + 1)) = _
  rw [zis s ys (k + 1)]
  rfl
theorem zgP {s:Str}:∀ {ys:List Str} {k n:Nat},zcH s ys k = some n->k<=n/\n < k + ys.length
 | [],_,_,h=>by cases h
 | y :: ys,k,n,h=>by
  unfold zcH at h
  split at h
  ·cases h;simp
  ·have:=zgP h
   rw [Qp]
   omega
noncomputable def Net.hix (n:Net) (s:Str):Nat:=(zcH s (n.hs.map (·.name)) 0).getD 0
noncomputable def Net.pix (n:Net) (s:Str):Nat:=(zcH s (n.ps.map (·.name)) 0).getD 0
noncomputable def Net.asks (n:Net) (h:Nat):List Ask:=((n.hs[h]?).map (·.asks)).getD []
noncomputable def Net.pof (n:Net) (a:Ask):Option Nat:=a.purse.map n.pix
structure WA (n:Net) (i:Nat) (a:Ask):Prop where
 to:zcH a.to (n.hs.map (·.name)) 0 = some (n.hix a.to)
 up:i < n.hix a.to
 pu:∀ s,a.purse = some s->zcH s (n.ps.map (·.name)) 0 = some (n.pix s)
 tr:0<=a.tries
structure WN (n:Net):Prop where
 hl:n.hs.length<=4
 h1:0 < n.hs.length
 pl:n.ps.length<=100
 al:∀ h ∈ n.hs,h.asks.length<=100
 as:∀ i a,a ∈ n.asks i->WA n i a
 pr:∀ p ∈ n.ps,1<=p.per/\p.per<=1000000
variable {n:Net}
theorem WA.lt {a:Ask} (h:WA n i a):n.hix a.to < n.hs.length:=by
 have:=zgP h.to
 simp at this
 exact this
theorem WA.plt {a:Ask} (h:WA n i a) (e:n.pof a = some k):k < n.ps.length:=by
 unfold Net.pof at e
 cases q:a.purse with
 | none=>rw [q] at e;cases e
 | some s=>
  rw [q] at e
  cases e
  have:=zgP (h.pu s q)
  simp at this
  exact this
variable {f:Str}
section
variable (kE kR:Addr)
theorem zg1 {α:Type} (xs:List α) (nm:α->Str) (tl:α->List FT.T) {s:Str} {n:Nat} (h:zcH s (xs.map nm) 0 = some n) (hl:xs.length<=1000) (M:Mem):zaj kE kR [.tup (xs.map fun x=>.tup (.str (nm x) :: tl x)),.str s] M = .ok (nT n) M:=by
 unfold zaj zfm
 have c:yz (yn 0) qM (eOp ixT (yb 0) (eC (.int 0))) (xs.map fun x=>FT.T.tup (.str (nm x) :: tl x)) [none] M [] = .ok ((xs.map nm).map .str) M:=by
  rw [map_map]
  exact Ok.mapc (r:=fun x=>FT.T.tup (.str (nm x) :: tl x)) (fun σ=>∃ o,σ = [o]) _ ⟨_,rfl⟩ (by omega) (by
   rintro x σ hx ⟨o,rfl⟩
   exact ⟨[some (.tup (.str (nm x) :: tl x))],rfl,⟨_,rfl⟩,by simp_arith [and_self];rfl⟩)
 have k:zea (.lst ((xs.map nm).map .str)) [.str s] M = .ok (nT n) M:=by
  unfold zea qv
  dsimp only
  rw [QA,zis,h]
  ·rw [Qs]
   refine ⟨rfl,all_eq_true.mpr fun t ht=>?_⟩
   obtain ⟨y,_,rfl⟩:=mem_map.mp ht
   rfl
 have i1:zbQ (.lst ((xs.map nm).map .str)) M = true:=rfl
 simp_arith [c,qY,i1,k]
variable {kE kR}
theorem zmQ (wn:WN n) {a:Ask} (w:WA n i a) (M:Mem):zaz kE kR [qf n,qC a] M = .ok (nT (n.hix a.to)) M:=by
 unfold zaz zgb qf qC
 have h:=fun M=>zg1 kE kR n.hs (·.name) (fun h=>[.tup (h.asks.map qC)]) w.to (by have:=wn.hl;omega) M
 rw [show (n.hs.map fun h=>FT.T.tup (.str h.name :: [.tup (h.asks.map qC)])) = n.hs.map hsT from rfl] at h
 simp_arith [h]
variable {b:Nat}
theorem zJ {k:Addr} {fs:List (Str × FT.T)} {t:FT.T} (h:M[x]? = some (.ins k fs)) (e:fs.lookup f = some t):zaO [k] f (.ref x) M = .ok t M:=by
 unfold zaO
 simp only [h]
 rw [QA (by simp),e]
 rfl
theorem za7 {k:Addr} {fs fs':List (Str × FT.T)} {y:FT.T} (h:M[x]? = some (.ins k fs)) (e:zc6 f y fs = fs') (hl:fs.length < 1000):zaS [k] f (.ref x) y M = .ok () (M.set x (.ins k fs')):=by
 unfold zaS
 simp only [h]
 rw [QA ⟨by simp,hl⟩,e]
theorem RunAt.net (h:RunAt kE kR (qf n) b r l M R):zaO [kR] "net" (.ref r) M = .ok (qf n) M:=zJ h.run rfl
theorem RunAt.came (h:RunAt kE kR (qf n) b r l M R):zaO [kR] "came" (.ref r) M = .ok (nT R.came) M:=zJ h.run rfl
theorem RunAt.errands (h:RunAt kE kR (qf n) b r l M R):zaO [kR] "errands" (.ref r) M = .ok (.ref l.a) M:=zJ h.run rfl
theorem RunAt.putsF (h:RunAt kE kR (qf n) b r l M R):zaO [kR] "puts" (.ref r) M = .ok (.ref l.p) M:=zJ h.run rfl
theorem RunAt.payF (h:RunAt kE kR (qf n) b r l M R):zaO [kR] "payments" (.ref r) M = .ok (.ref l.q) M:=zJ h.run rfl
theorem RunAt.takenF (h:RunAt kE kR (qf n) b r l M R):zaO [kR] "taken" (.ref r) M = .ok (.ref l.t) M:=zJ h.run rfl
theorem qq {α:Type} {f:α->FT.T} {xs:List α} {x:α} (e:xs[i]? = some x):atI (xs.map f) (i:Int) = some (f x):=by rw [FT.zbf,Qb,e];rfl
theorem zT (h:RunAt kE kR (qf n) b r l M R) (he:R.es[i]? = some e) (hh:e.house < n.hs.length):zC kE kR [.ref r,nT i] M = .ok (.tup ((n.asks e.house).map qC)) M:=by
 unfold zC zg8
 obtain ⟨x,hx,hc⟩:=h.at_e he
 have h1:=zJ (f:="house") hc rfl
 have hn:n.hs[e.house]? = some n.hs[e.house]:=Q0 hh
 have h2:=qq (f:=hsT) hn
 have h3:n.asks e.house = (n.hs[e.house]).asks:=by unfold Net.asks;rw [hn];rfl
 rw [h3]
 have hnt:=h.net
 unfold qf at hnt
 simp_arith [ym,hnt,h.errands,h.er,qq (f:=FT.T.ref) hx,h1,h2]
 rw [show hsT n.hs[e.house] = .tup [.str n.hs[e.house].name,.tup (n.hs[e.house].asks.map qC)] from rfl]
 simp_arith [and_self]
theorem zdu (h:RunAt kE kR (qf n) b r l M R) (wn:WN n) {a:Ask} (w:WA n i a):yS kE kR [.ref r,qC a] M = .ok (onT (n.pof a)) M:=by
 unfold yS zf7 qC
 have hnt:=h.net
 unfold qf at hnt
 cases q:a.purse with
 | none=>
  have i1:∀ M,isN (opS none) .non M = .ok (.bl true) M:=fun _=>rfl
  have e1:n.pof a = none:=by unfold Net.pof;rw [q];rfl
  rw [e1]
  simp_arith [eIf,i1]
  rfl
 | some s=>
  have i1:∀ M,isN (opS (some s)) .non M = .ok (.bl false) M:=fun _=>rfl
  have e1:n.pof a = some (n.pix s):=by unfold Net.pof;rw [q];rfl
  rw [e1]
  have hk:=zg1 kE kR n.ps (·.name) (fun p=>[.str p.earns,.int p.per]) (w.pu s q) (by have:=wn.pl;omega) M
  rw [show (n.ps.map fun p=>FT.T.tup (.str p.name :: [.str p.earns,.int p.per])) = n.ps.map puT from rfl,show FT.T.str s = opS (some s) from rfl] at hk
  simp_arith [eIf,i1,ym,hnt,hk]
  rfl
noncomputable def Run.told (R:Run) (n:Net) (k:Nat):Int × Int:=((((R.puts.getD k []).length:Int) % (n.ps.getD k ⟨"","",1⟩).per),((R.puts.getD k []).length:Int) / (n.ps.getD k ⟨"","",1⟩).per - (R.taken.getD k 0:Nat))
theorem zjo (h:RunAt kE kR (qf n) b r l M R) (wn:WN n) (hp:R.puts.length = n.ps.length) (hk:k < n.ps.length):qT kE kR [.ref r,nT k] M = .ok (.tup [.int (R.told n k).1,.int (R.told n k).2]) M:=by
 unfold qT zeI
 have hpe:n.ps[k]? = some n.ps[k]:=Q0 hk
 have hu:R.puts[k]? = some (R.puts[k]'(by omega)):=Q0 _
 obtain ⟨x,hx,hc⟩:=h.at_p hu
 have ht:R.taken[k]? = some (R.taken[k]'(by have:=h.tl;omega)):=Q0 _
 have hper:=wn.pr n.ps[k] (getElem_mem _)
 have hnt:=h.net
 unfold qf at hnt
 have h2:atI (n.ps.map puT) (k:Int) = some (.tup [.str n.ps[k].name,.str n.ps[k].earns,.int n.ps[k].per]):=qq (f:=puT) hpe
 have ln:yu (.ref x) M = .ok (.int (((R.puts[k]'(by omega)).length:Nat):Int)) M:=by
  unfold yu zan qv
  simp only [hc]
  simp
 have dv:∀ i M,zdw (.int i) (.int n.ps[k].per) M = .ok (.int (i.fdiv n.ps[k].per)) M:=fun i M=>zfa (zku 100 (by decide) (by omega) (by
  refine Nat.lt_of_le_of_lt (show n.ps[k].per.natAbs<=10 ^ 7 from by simp only [Nat.reducePow];omega) (Nat.pow_lt_pow_right (by decide) (by decide))))
 have md:∀ i M,zby (.int i) (.int n.ps[k].per) M = .ok (.int (i.fmod n.ps[k].per)) M:=fun i M=>zgI (by omega)
 have cm:za2 kE kR [.ref r,nT k] M = .ok (.int ((((R.puts[k]'(by omega)).length:Nat):Int).fdiv n.ps[k].per)) M:=by
  unfold za2 zeK
  simp_arith [ym,h.putsF,h.pu,qq (f:=FT.T.ref) hx,ln,hnt,h2,dv]
 simp_arith [ym,h.putsF,h.pu,qq (f:=FT.T.ref) hx,ln,hnt,h2,md,cm,h.takenF,h.tk,qq (f:=nT) ht]
 unfold Run.told
 rw [Q7,Q7,Q7,hu,hpe,ht,Q9 _ (by omega),Int.fdiv_eq_ediv_of_nonneg _ (by omega)]
 rfl
end
noncomputable def yq (h:Nat) (c:Option (Nat × Nat × Nat)):Er:=⟨h,c,.works,false,none,none⟩
noncomputable def Net.any (n:Net) (k:Nat):Bool:=(n.ps.getD k ⟨"","",1⟩).earns == ("any":Str)
noncomputable def Run.share (R:Run) (n:Net) (a:Ask) (tr x:Nat):Run:=match n.pof a with
 | none=>R
 | some k=>if tr = 1\/n.any k = true then R.setP k (R.puts.getD k [] ++ [x]) else R
noncomputable def qP (n:Net) (g:Run->Nat->Option (Nat × Nat × Nat)->Run) (R:Run) (num at' tr:Nat):Run:=match R.es[num]? with
 | none=>R
 | some e=>match (n.asks e.house)[at']? with
  | none=>R
  | some a=>g ((R.setE num { e with ph:=.waits at' tr,asked:=some R.es.length }).share n a tr R.es.length) (n.hix a.to) (some (num,at',tr))
noncomputable def zA (n:Net):Nat->Run->Nat->Option (Nat × Nat × Nat)->Run
 | 0,R,_,_=>R
 | f + 1,R,h,c=>if n.asks h = [] then R.push (yq h c) else qP n (zA n f) (R.push (yq h c)) R.es.length 0 1
structure SB (B:Nat) (R:Run):Prop where
 es:R.es.length<=B
 pu:∀ u ∈ R.puts,u.length<=B
 py:R.pays.length<=B
 tk:∀ v ∈ R.taken,v<=B
variable {B:Nat}
theorem SB.mono {C:Nat} (h:SB B R) (hc:B<=C):SB C R:=⟨Qj h.es hc,fun u hu=>Qj (h.pu u hu) hc,Qj h.py hc,fun v hv=>Qj (h.tk v hv) hc⟩
theorem SB.push (h:SB B R) (e:Er):SB (B + 1) (R.push e):=⟨by simp [Run.push];exact h.es,fun u hu=>Nat.le_succ_of_le (h.pu u hu),Nat.le_succ_of_le h.py,fun v hv=>Nat.le_succ_of_le (h.tk v hv)⟩
theorem SB.setE (h:SB B R) (i:Nat) (e:Er):SB B (R.setE i e):=⟨by simp [Run.setE];exact h.es,h.pu,h.py,h.tk⟩
theorem mem_set {α:Type} {xs:List α} {y v:α} (h:v ∈ xs.set k y):v ∈ xs\/v = y:=by
 obtain ⟨i,hi⟩:=mem_iff_getElem?.mp h
 rw [Qc] at hi
 split at hi
 ·split at hi
  ·exact .inr (by cases hi;rfl)
  ·cases hi
 ·exact .inl (Qa hi)
theorem SB.share (h:SB B R) (n:Net) (a:Ask) (tr x:Nat):SB (B + 1) (R.share n a tr x):=by
 unfold Run.share
 split
 ·exact h.mono (by omega)
 ·rename_i k _
  split
  ·refine ⟨Nat.le_succ_of_le h.es,fun u hu=>?_,Nat.le_succ_of_le h.py,fun v hv=>Nat.le_succ_of_le (h.tk v hv)⟩
   rcases mem_set hu with hu | rfl
   ·exact Nat.le_succ_of_le (h.pu u hu)
   ·rw [Qn,Qu]
    by_cases hk:k < R.puts.length
    ·have:=h.pu (R.puts.getD k []) (by rw [Q7,Q0 hk];exact getElem_mem _)
     omega
    ·rw [Q7,getElem?_eq_none (by omega)]
     simp
  ·exact h.mono (by omega)
theorem yZ (R:Run) (n:Net) (a:Ask) (tr x:Nat):(R.share n a tr x).es = R.es/\(R.share n a tr x).puts.length = R.puts.length/\(R.share n a tr x).taken = R.taken/\(R.share n a tr x).pays = R.pays/\(R.share n a tr x).came = R.came:=by
 unfold Run.share
 split
 ·exact ⟨rfl,rfl,rfl,rfl,rfl⟩
 ·split
  ·exact ⟨rfl,by simp [Run.setP],rfl,rfl,rfl⟩
  ·exact ⟨rfl,rfl,rfl,rfl,rfl⟩
variable {kE kR:Addr} {q1 q2:List FT.T->Mem->Out FT.T} {at':Nat} {g:Run->Nat->Option (Nat × Nat × Nat)->Run}
section
variable {b:Nat}
noncomputable def Lv (kE kR:Addr) (n:Net) (b r:Nat) (R':Run) (M:Mem):FT.T->Mem->Prop:=fun t M'=>t = .non/\Kp b M M'/\∃ l',RunAt kE kR (qf n) b r l' M' R'
theorem any_eq {p:Pu} (h:n.ps[k]? = some p) (M:Mem):eqA (.str p.earns) (.str "any") M = .ok (.bl (n.any k)) M:=by
 unfold Net.any
 rw [Q7,h]
 rfl
theorem zkI (wn:WN n) (hB:B < 100000) {num tr:Nat} {a:Ask} 
 (h:RunAt kE kR (qf n) b r l M R) (sb:SB B R) (hp:R.puts.length = n.ps.length) (he:R.es[num]? = some e) (hh:e.house < n.hs.length) (ha:(n.asks e.house)[at']? = some a)
 (hg:∀ (l:Lay) (M:Mem) (R':Run),R' = (R.setE num { e with ph:=.waits at' tr,asked:=some R.es.length }).share n a tr R.es.length->RunAt kE kR (qf n) b r l M R'->Ok (q2 [.ref r,nT (n.hix a.to),clT (some (num,at',tr))] M) (Lv kE kR n b r (g R' (n.hix a.to) (some (num,at',tr))) M)) :
  Ok (yi 4 7 (zbo kE kR q1 q2) [.ref r,nT num,nT at',nT tr] M) (Lv kE kR n b r (qP n g R num at' tr) M):=by
 have w:=wn.as e.house a (Qa ha)
 have e0:qP n g R num at' tr = g ((R.setE num { e with ph:=.waits at' tr,asked:=some R.es.length }).share n a tr R.es.length) (n.hix a.to) (some (num,at',tr)):=by
  unfold qP
  rw [he]
  dsimp only
  rw [ha]
 rw [e0]
 refine qB rfl ?_
 unfold zbo
 obtain ⟨x,hx,hc⟩:=h.at_e he
 have ln:yu (.ref l.a) M = .ok (nT R.es.length) M:=by
  unfold yu zan qv
  simp only [h.er]
  simp [h.el]
 obtain ⟨h1,bx⟩:=h.setE hx he { e with ph:=.waits at' tr }
 have s1:=za7 (f:="state") (y:=.tup [.str "waits",nT at',nT tr]) (fs':=erF { e with ph:=.waits at' tr }) hc rfl (by simp [erF])
 have he1:(R.setE num { e with ph:=.waits at' tr }).es[num]? = some { e with ph:=.waits at' tr }:=by
  show (R.es.set num _)[num]? = _
  rw [Qc,QA rfl,QA (Qz.mp he).1]
 obtain ⟨h2,_⟩:=h1.setE hx he1 { e with ph:=.waits at' tr,asked:=some R.es.length }
 have ss:(R.setE num { e with ph:=.waits at' tr }).setE num { e with ph:=.waits at' tr,asked:=some R.es.length } = R.setE num { e with ph:=.waits at' tr,asked:=some R.es.length }:=by
  show ({ R with es:=(R.es.set num _).set num _ }:Run) = _
  rw [List.set_set]
  rfl
 rw [ss] at h2
 have hc1:(M.set x (.ins kE (erF { e with ph:=.waits at' tr })))[x]? = some (.ins kE (erF { e with ph:=.waits at' tr })):=get_set hc
 have s2:=za7 (f:="asked") (y:=nT R.es.length) (fs':=erF { e with ph:=.waits at' tr,asked:=some R.es.length }) hc1 rfl (by simp [erF])
 simp_arith [zT h he hh,qq (f:=qC) ha,ym,h.errands,ln,qD,h.er,qq (f:=FT.T.ref) hx,s1,h1.errands,h1.er,s2,zdu h2 wn w]
 generalize hM2:(M.set x (.ins kE (erF { e with ph:=.waits at' tr }))).set x (.ins kE (erF { e with ph:=.waits at' tr,asked:=some R.es.length })) = M2 at h2 ⊢
 have k2:Kp b M M2:=by rw [← hM2];exact (Kp.set _ _ bx).trans (Kp.set _ _ bx)
 have hnt:=h2.net
 have fin:∀ (l3:Lay) (M3:Mem),Kp b M M3->RunAt kE kR (qf n) b r l3 M3 ((R.setE num { e with ph:=.waits at' tr,asked:=some R.es.length }).share n a tr R.es.length)->
   Ok ((zaz kE kR [qf n,qC a] M3).bind fun y M=>(q2 [.ref r,y,.tup [nT num,nT at',nT tr]] M).bind fun _ M=>.ok .non M) (Lv kE kR n b r (g ((R.setE num { e with ph:=.waits at' tr,asked:=some R.es.length }).share n a tr R.es.length) (n.hix a.to) (some (num,at',tr))) M):=by
  intro l3 M3 k3 h3
  rw [zmQ wn w]
  simp_arith [and_self]
  refine Ok.bind (hg l3 M3 _ rfl h3) ?_
  rintro t M4 ⟨rfl,k4,l4,h4⟩
  try simp_arith [and_self]
  exact Ok.ret ⟨rfl,k3.trans k4,l4,h4⟩
 cases q:n.pof a with
 | none=>
  have i1:∀ M,zat (onT none) .non M = .ok (.bl false) M:=fun _=>rfl
  have e1:(R.setE num { e with ph:=.waits at' tr,asked:=some R.es.length }).share n a tr R.es.length = R.setE num { e with ph:=.waits at' tr,asked:=some R.es.length }:=by unfold Run.share;rw [q]
  simp_arith [i1,hnt]
  exact fin l M2 k2 (by rw [e1];exact h2)
 | some k=>
  have hk:=w.plt q
  rw [show onT (some k) = .int (k:Int) from rfl]
  have i1:∀ M,zat (.int (k:Int)) .non M = .ok (.bl true) M:=fun _=>rfl
  have hu:(R.setE num { e with ph:=.waits at' tr,asked:=some R.es.length }).puts[k]? = some (R.puts[k]'(by omega)):=Q0 (show k < R.puts.length by omega)
  obtain ⟨y,hy,hcy⟩:=h2.at_p hu
  have gd:R.puts.getD k [] = R.puts[k]'(by omega):=by rw [Q7,Q0 (show k < R.puts.length by omega)];rfl
  obtain ⟨h3,by3⟩:=h2.setP hy hu (R.puts.getD k [] ++ [R.es.length])
  have ap:=zam (t:=nT R.es.length) hcy (by rw [Qh,sizeLine_eq];have:=sb.pu _ (getElem_mem (show k < R.puts.length by omega));omega)
  have hps:n.ps[k]? = some n.ps[k]:=Q0 hk
  have hpa:atI (n.ps.map puT) (k:Int) = some (.tup [.str n.ps[k].name,.str n.ps[k].earns,.int n.ps[k].per]):=qq (f:=puT) hps
  have lc:yL (.ref y) M2 = .ok (.ref y) M2:=qR hcy
  unfold qf at hnt
  by_cases hs:tr = 1\/n.any k = true
  ·have e1:(R.setE num { e with ph:=.waits at' tr,asked:=some R.es.length }).share n a tr R.es.length = (R.setE num { e with ph:=.waits at' tr,asked:=some R.es.length }).setP k (R.puts.getD k [] ++ [R.es.length]):=by
    unfold Run.share
    rw [q]
    dsimp only
    rw [QA hs]
    rfl
   have h3':RunAt kE kR (qf n) b r l (M2.set y (.lst (((R.puts[k]'(by omega)).map nT) ++ [nT R.es.length]))) ((R.setE num { e with ph:=.waits at' tr,asked:=some R.es.length }).share n a tr R.es.length):=by
    rw [e1,gd]
    rw [gd,Qq] at h3
    exact h3
   have k3:Kp b M (M2.set y (.lst (((R.puts[k]'(by omega)).map nT) ++ [nT R.es.length]))):=k2.trans (Kp.set _ _ by3)
   have fn:=fin l _ k3 h3'
   have hn3:=h3'.net
   by_cases z:tr = 1
   ·have zt:((tr:Int) == 1) = true:=by rw [z];rfl
    simp_arith [i1,zt,h2.putsF,h2.pu,qq (f:=FT.T.ref) hy,lc,ap,hn3]
    exact fn
   ·have zt:((tr:Int) == 1) = false:=by simp;omega
    have ha':n.any k = true:=hs.resolve_left z
    simp_arith [i1,zt,hnt,hpa,any_eq hps,ha',h2.putsF,h2.pu,qq (f:=FT.T.ref) hy,lc,ap,hn3]
    exact fn
  ·have e1:(R.setE num { e with ph:=.waits at' tr,asked:=some R.es.length }).share n a tr R.es.length = R.setE num { e with ph:=.waits at' tr,asked:=some R.es.length }:=by
    unfold Run.share
    rw [q]
    dsimp only
    rw [QB hs]
   have zt:((tr:Int) == 1) = false:=by
    have:¬ tr = 1:=fun z=>hs (.inl z)
    simp;omega
   have ha':n.any k = false:=by
    cases z:n.any k with
    | false=>rfl
    | true=>exact absurd (.inr z) hs
   have fn:=fin l M2 k2 (by rw [e1];exact h2)
   unfold qf at fn
   simp_arith [i1,zt,hnt,hpa,any_eq hps,ha']
   exact fn
theorem zW (R:Run) (e:Er):(R.push e).es[R.es.length]? = some e:=List.getElem?_concat_length
theorem zi1 (wn:WN n):∀ (f m:Nat),2 * f<=m->∀ {B:Nat} {h:Nat} {c:Option (Nat × Nat × Nat)} {l:Lay} {M:Mem} {R:Run},B + 2 * f < 100000->RunAt kE kR (qf n) b r l M R->b<=M.length->SB B R->R.puts.length = n.ps.length->h < n.hs.length->n.hs.length<=h + f->
  Ok ((zl kE kR m).2 [.ref r,nT h,clT c] M) (Lv kE kR n b r (zA n f R h c) M)
 | 0,m,_,B,h,c,l,M,R,_,_,_,_,_,hh,hf=>absurd hh (by omega)
 | f + 1,0,hm,B,h,c,l,M,R,_,_,_,_,_,hh,hf=>absurd hm (by omega)
 | f + 1,m + 1,hm,B,h,c,l,M,R,hB,ra,hbM,sb,hp,hh,hf=>by
  show Ok (yi 3 4 (zbc kE kR (zl kE kR m).1 (zl kE kR m).2) [.ref r,nT h,clT c] M) _
  refine qB rfl ?_
  unfold zbc
  have i0:qX kE kR [.ref M.length,nT h,clT c] (M ++ [.ins kE []]) = .ok .non (M ++ [.ins kE (erF (yq h c))]):=by
   unfold qX zer
   have st:∀ (fs fs':List (Str × FT.T)) (f:Str) (y:FT.T),zc6 f y fs = fs'->fs.length < 1000->zaS [kE] f (.ref M.length) y (M ++ [.ins kE fs]) = .ok () (M ++ [.ins kE fs']):=fun fs fs' f y e hl=>by
    rw [za7 (x:=M.length) zI e hl]
    congr 1
    rw [set_append_right _ _ (Q3 _),Qv]
    rfl
   simp_arith [qD,st [] [("house",nT h)] "house" (nT h) rfl (by simp),st [("house",nT h)] [("house",nT h),("caller",clT c)] "caller" (clT c) rfl (by simp),st [("house",nT h),("caller",clT c)] [("house",nT h),("caller",clT c),("state",.tup [.str "works"])] "state" (.tup [.str "works"]) rfl (by simp),st [("house",nT h),("caller",clT c),("state",.tup [.str "works"])] [("house",nT h),("caller",clT c),("state",.tup [.str "works"]),("is_lost",.bl false)] "is_lost" (.bl false) rfl (by simp),st [("house",nT h),("caller",clT c),("state",.tup [.str "works"]),("is_lost",.bl false)] [("house",nT h),("caller",clT c),("state",.tup [.str "works"]),("is_lost",.bl false),("asked",.non)] "asked" .non rfl (by simp),st [("house",nT h),("caller",clT c),("state",.tup [.str "works"]),("is_lost",.bl false),("asked",.non)] (erF (yq h c)) "stood" .non rfl (by simp)]
  have ra1:=ra.push hbM (yq h c)
  have er1:(M ++ [Cell.ins kE (erF (yq h c))])[l.a]? = some (.lst (l.es.map .ref)):=by rw [Q6 (qI ra.er)];exact ra.er
  have ap:=zam (t:=.ref M.length) er1 (by rw [Qh,sizeLine_eq,ra.el];have:=sb.es;omega)
  rw [show l.es.map FT.T.ref ++ [.ref M.length] = (l.es ++ [M.length]).map .ref from by simp] at ap
  have kp:Kp b M ((M ++ [Cell.ins kE (erF (yq h c))]).set l.a (.lst ((l.es ++ [M.length]).map .ref))):=(Kp.app _ _ hbM).trans (Kp.set _ _ (ra.lo (l.a,.lst (l.es.map .ref)) (.tail _ (.head _))))
  have mk:zdj kE (qX kE kR) (zb (yb 1) (zb (yb 2) zd)) [some (.ref r),some (nT h),some (clT c),none] M = .ok (.ref M.length) (M ++ [.ins kE (erF (yq h c))]):=by
   simp_arith [zdj,i0]
   rfl
  simp_arith [ym,ra.errands,qR ra.er,mk,ap]
  generalize hM1:(M ++ [Cell.ins kE (erF (yq h c))]).set l.a (.lst ((l.es ++ [M.length]).map .ref)) = M1 at ra1 kp ⊢
  have ln:yu (.ref l.a) M1 = .ok (.int ((R.es.length:Int) + 1)) M1:=by
   unfold yu zan qv
   have:=ra1.er
   simp only at this
   simp only [this]
   simp [ra.el]
  have sub1:(R.es.length:Int) + 1 - 1 = (R.es.length:Int):=by omega
  have hn1:(R.push (yq h c)).es[R.es.length]? = some (yq h c):=zW R _
  have as1:=zT ra1 hn1 hh
  simp_arith [ra1.errands,ln,sub1,as1]
  by_cases h0:n.asks h = []
  ·have e1:zA n (f + 1) R h c = R.push (yq h c):=by unfold zA;rw [QA h0]
   rw [e1]
   have:(yq h c).house = h:=rfl
   rw [this,h0]
   simp_arith [and_self]
   exact Ok.ret ⟨rfl,kp,_,ra1⟩
  ·have e1:zA n (f + 1) R h c = qP n (zA n f) (R.push (yq h c)) R.es.length 0 1:=by rw [zA,QB h0]
   rw [e1]
   obtain ⟨a,as,hq⟩:=List.exists_cons_of_ne_nil h0
   have ha:(n.asks (yq h c).house)[0]? = some a:=by show (n.asks h)[0]? = _;rw [hq];rfl
   have w:=wn.as h a (by rw [hq];exact .head _)
   have hlen:decide ((0:Int) < (((n.asks (yq h c).house).map qC).length:Int)) = true:=Qw (by
    rw [Qh]
    show (0:Int) < ((n.asks h).length:Int)
    rw [hq];simp)
   simp_arith [hlen]
   obtain ⟨m',rfl⟩:∃ m',m = m' + 1:=⟨m - 1,by omega⟩
   refine Ok.bind (zkI wn (q1:=(zl kE kR m').1) (q2:=(zl kE kR m').2) (g:=zA n f) (B:=B + 1) (by omega) ra1 (sb.push _) hp hn1 hh ha ?_) ?_
   ·intro l3 M3 R3 e3 ra3
    have hM3:b<=M3.length:=Qj (ra3.lo _ (.head _)) (Nat.le_of_lt (qI ra3.run))
    have sl:=yZ ((R.push (yq h c)).setE R.es.length { yq h c with ph:=.waits 0 1,asked:=some (R.push (yq h c)).es.length }) n a 1 (R.push (yq h c)).es.length
    refine zi1 wn f m' (by omega) (B:=B + 2) (by omega) ra3 hM3 ?_ ?_ (by exact w.lt) (by have:=w.up;omega)
    ·rw [e3]
     exact ((sb.push _).setE _ _).share n a 1 _
    ·rw [e3,sl.2.1]
     exact hp
   ·rintro t M2 ⟨rfl,k2,l2,h2⟩
    try simp_arith [and_self]
    exact Ok.ret ⟨rfl,kp.trans k2,l2,h2⟩
end
noncomputable def yW (n:Net) (g:Run->Nat->Str->Run) (R:Run) (c:Nat × Nat × Nat) (w:Str):Run:=match R.es[c.1]? with
 | none=>R
 | some e=>if (w == ("well":Str)) = true/\c.2.1 + 1 < (n.asks e.house).length then qP n (zA n 4) R c.1 (c.2.1 + 1) 1
  else if (w == ("well":Str)) = true\/((w == ("spent":Str)) = true/\((n.asks e.house)[c.2.1]?).any (·.hears) = true) then g R c.1 w
  else R.setE c.1 { e with ph:=.stands c.2.1 c.2.2,stood:=some R.came }
noncomputable def zN (n:Net):Nat->Run->Nat->Str->Run
 | 0,R,_,_=>R
 | f + 1,R,i,w=>match R.es[i]? with
  | none=>R
  | some e=>match e.caller with
   | none=>R.setE i { e with ph:=.ended w }
   | some c=>if e.lost = true then R.setE i { e with ph:=.ended w } else yW n (zN n f) (R.setE i { e with ph:=.ended w }) c w
def zcF (n:Net) (e:Er):Prop:=match e.ph with
 | .waits a t=>a < (n.asks e.house).length/\1<=t
 | .stands a t=>a < (n.asks e.house).length/\e.stood.isSome = true/\1<=t
 | _=>True
structure RI (n:Net) (R:Run):Prop where
 hs:∀ (i:Nat) (e:Er),R.es[i]? = some e->e.house < n.hs.length
 cl:∀ (i:Nat) (e:Er) (c:Nat × Nat × Nat),R.es[i]? = some e->e.caller = some c->c.1 < i/\∃ ce,R.es[c.1]? = some ce/\ce.house < e.house/\c.2.1 < (n.asks ce.house).length
 ph:∀ (i:Nat) (e:Er),R.es[i]? = some e->zcF n e
 pl:R.puts.length = n.ps.length
variable {e' q:Er} {j:Nat}
theorem y4 {es:List Er} (h:(es.set i e')[j]? = some q):(j = i/\q = e'/\i < es.length)\/(j ≠ i/\es[j]? = some q):=by
 rw [Qc] at h
 split at h
 ·rename_i z
  split at h
  ·cases h;exact .inl ⟨z.symm,rfl,by omega⟩
  ·cases h
 ·rename_i z
  exact .inr ⟨fun y=>z y.symm,h⟩
theorem RI.setE (h:RI n R) (he:R.es[i]? = some e) (h1:e'.house = e.house) (h2:e'.caller = e.caller) (h3:zcF n e'):RI n (R.setE i e'):=by
 have fwd:∀ {j:Nat} {q:Er},R.es[j]? = some q->∃ q',(R.setE i e').es[j]? = some q'/\q'.house = q.house:=fun {j q} hq=>by
  show ∃ q',(R.es.set i e')[j]? = some q'/\_
  rw [Qc]
  by_cases z:i = j
  ·rw [QA z,QA (Qz.mp he).1]
   subst z
   rw [he] at hq
   cases hq
   exact ⟨e',rfl,h1⟩
  ·rw [QB z];exact ⟨q,hq,rfl⟩
 refine ⟨fun j q hq=>?_,fun j q c hq hc=>?_,fun j q hq=>?_,h.pl⟩
 ·rcases y4 hq with ⟨rfl,rfl,_⟩ | ⟨_,hq⟩
  ·rw [h1];exact h.hs _ _ he
  ·exact h.hs _ _ hq
 ·rcases y4 hq with ⟨rfl,rfl,_⟩ | ⟨_,hq⟩
  ·rw [h2] at hc
   obtain ⟨a,ce,b1,b2,b3⟩:=h.cl _ _ _ he hc
   obtain ⟨q',d1,d2⟩:=fwd b1
   exact ⟨a,q',d1,by rw [d2,h1];exact b2,by rw [d2];exact b3⟩
  ·obtain ⟨a,ce,b1,b2,b3⟩:=h.cl _ _ _ hq hc
   obtain ⟨q',d1,d2⟩:=fwd b1
   exact ⟨a,q',d1,by rw [d2];exact b2,by rw [d2];exact b3⟩
 ·rcases y4 hq with ⟨rfl,rfl,_⟩ | ⟨_,hq⟩
  ·exact h3
  ·exact h.ph _ _ hq
section
variable {b:Nat}
theorem zm4 (w s:Str) (M:Mem):eqA (.str w) (.str s) M = .ok (.bl (w == s)) M:=rfl
theorem zmY (w s:Str) (M:Mem):neA (.str w) (.str s) M = .ok (.bl (!(w == s))) M:=rfl
theorem zjn (wn:WN n) (hB:B < 90000) {num tr:Nat} {a:Ask} 
 (h:RunAt kE kR (qf n) b r l M R) (sb:SB B R) (hp:R.puts.length = n.ps.length) (he:R.es[num]? = some e) (hh:e.house < n.hs.length) (ha:(n.asks e.house)[at']? = some a) :
  Ok (zal kE kR [.ref r,nT num,nT at',nT tr] M) (Lv kE kR n b r (qP n (zA n 4) R num at' tr) M):=by
 show Ok (yi 4 7 (zbo kE kR (zl kE kR 11).1 (zl kE kR 11).2) [.ref r,nT num,nT at',nT tr] M) _
 have w:=wn.as e.house a (Qa ha)
 refine zkI wn (B:=B) (by omega) h sb hp he hh ha ?_
 intro l3 M3 R3 e3 ra3
 have hM3:b<=M3.length:=Qj (ra3.lo _ (.head _)) (Nat.le_of_lt (qI ra3.run))
 have sl:=yZ (R.setE num { e with ph:=.waits at' tr,asked:=some R.es.length }) n a tr R.es.length
 refine zi1 wn 4 11 (by omega) (B:=B + 1) (by omega) ra3 hM3 (by rw [e3];exact (sb.setE _ _).share n a tr _) (by rw [e3,sl.2.1];exact hp) w.lt (by have:=wn.hl;omega)
theorem zjL (wn:WN n) {g:Run->Nat->Str->Run} (hB:B < 90000) {c:Nat × Nat × Nat} {w:Str} 
 (h:RunAt kE kR (qf n) b r l M R) (sb:SB B R) (ri:RI n R) (he:R.es[c.1]? = some e) (hat:c.2.1 < (n.asks e.house).length)
 (hg:Ok (q1 [.ref r,nT c.1,.str w] M) (Lv kE kR n b r (g R c.1 w) M)) :
  Ok (yi 3 6 (zeJ kE kR q1 q2) [.ref r,clT (some c),.str w] M) (Lv kE kR n b r (yW n g R c w) M):=by
 have hh:=ri.hs _ _ he
 generalize hR:yW n g R c w = R'
 have e0:R' = if (w == ("well":Str)) = true/\c.2.1 + 1 < (n.asks e.house).length then qP n (zA n 4) R c.1 (c.2.1 + 1) 1
  else if (w == ("well":Str)) = true\/((w == ("spent":Str)) = true/\((n.asks e.house)[c.2.1]?).any (·.hears) = true) then g R c.1 w
  else R.setE c.1 { e with ph:=.stands c.2.1 c.2.2,stood:=some R.came }:=by
  rw [← hR]
  unfold yW
  rw [he]
 obtain ⟨x,hx,hc⟩:=h.at_e he
 have ha:(n.asks e.house)[c.2.1]? = some (n.asks e.house)[c.2.1]:=Q0 hat
 have haa:atI ((n.asks e.house).map qC) (c.2.1:Int) = some (.tup [.str (n.asks e.house)[c.2.1].to,.int (n.asks e.house)[c.2.1].tries,opS (n.asks e.house)[c.2.1].purse,.str (n.asks e.house)[c.2.1].word,.bl (n.asks e.house)[c.2.1].hears,.bl (n.asks e.house)[c.2.1].sure]):=qq (f:=qC) ha
 have a4:∀ (t0 t1 t2 t3 t4 t5:FT.T),atI [t0,t1,t2,t3,t4,t5] 4 = some t4:=fun _ _ _ _ _ _=>rfl
 refine qB rfl ?_
 unfold zeJ
 rw [show clT (some c) = .tup [nT c.1,nT c.2.1,nT c.2.2] from rfl]
 have hl:(((n.asks e.house).map qC).length:Int) = ((n.asks e.house).length:Int):=by rw [Qh]
 simp_arith [zT h he hh,zm4,hl]
 have s1:=za7 (f:="state") (y:=.tup [.str "stands",nT c.2.1,nT c.2.2]) (fs':=erF { e with ph:=.stands c.2.1 c.2.2 }) hc rfl (by simp [erF])
 obtain ⟨h1,bx⟩:=h.setE hx he { e with ph:=.stands c.2.1 c.2.2 }
 have hc1:(M.set x (.ins kE (erF { e with ph:=.stands c.2.1 c.2.2 })))[x]? = some (.ins kE (erF { e with ph:=.stands c.2.1 c.2.2 })):=get_set hc
 have s2:=za7 (f:="stood") (y:=nT R.came) (fs':=erF { e with ph:=.stands c.2.1 c.2.2,stood:=some R.came }) hc1 rfl (by simp [erF])
 have he1:(R.setE c.1 { e with ph:=.stands c.2.1 c.2.2 }).es[c.1]? = some { e with ph:=.stands c.2.1 c.2.2 }:=by
  show (R.es.set c.1 _)[c.1]? = _
  rw [Qc,QA rfl,QA (Qz.mp he).1]
 obtain ⟨h2,_⟩:=h1.setE hx he1 { e with ph:=.stands c.2.1 c.2.2,stood:=some R.came }
 have ss:(R.setE c.1 { e with ph:=.stands c.2.1 c.2.2 }).setE c.1 { e with ph:=.stands c.2.1 c.2.2,stood:=some R.came } = R.setE c.1 { e with ph:=.stands c.2.1 c.2.2,stood:=some R.came }:=by
  show ({ R with es:=(R.es.set c.1 _).set c.1 _ }:Run) = _
  rw [List.set_set]
  rfl
 rw [ss] at h2
 have k2:Kp b M ((M.set x (.ins kE (erF { e with ph:=.stands c.2.1 c.2.2 }))).set x (.ins kE (erF { e with ph:=.stands c.2.1 c.2.2,stood:=some R.came }))):=(Kp.set _ _ bx).trans (Kp.set _ _ bx)
 have ca:zaO [kR] "came" (.ref r) (M.set x (.ins kE (erF { e with ph:=.stands c.2.1 c.2.2 }))) = .ok (nT R.came) (M.set x (.ins kE (erF { e with ph:=.stands c.2.1 c.2.2 }))):=h1.came
 by_cases hw:(w == ("well":Str)) = true
 ·by_cases hl2:c.2.1 + 1 < (n.asks e.house).length
  ·rw [QA ⟨hw,hl2⟩] at e0
   rw [e0]
   have d1:decide ((c.2.1:Int) + 1 < ((n.asks e.house).length:Int)) = true:=Qw (by omega)
   simp_arith [hw,d1]
   refine Ok.bind (zjn wn hB h sb ri.pl he hh (at':=c.2.1 + 1) (tr:=1) (Q0 hl2)) ?_
   rintro t M2 ⟨rfl,k2,l2,h2⟩
   try simp_arith [and_self]
   exact Ok.ret ⟨rfl,k2,l2,h2⟩
  ·rw [QB fun z=>hl2 z.2,QA (.inl hw)] at e0
   rw [e0]
   have d1:decide ((c.2.1:Int) + 1 < ((n.asks e.house).length:Int)) = false:=Qx (by omega)
   simp_arith [hw,d1]
   refine Ok.bind hg ?_
   rintro t M2 ⟨rfl,k2,l2,h2⟩
   try simp_arith [and_self]
   exact Ok.ret ⟨rfl,k2,l2,h2⟩
 ·have hw':(w == ("well":Str)) = false:=by simpa using hw
  rw [QB fun z=>hw z.1] at e0
  by_cases hs:(w == ("spent":Str)) = true
  ·by_cases hh2:(n.asks e.house)[c.2.1].hears = true
   ·rw [QA (.inr ⟨hs,by rw [ha];exact hh2⟩)] at e0
    rw [e0]
    simp_arith [hw',hs,haa,a4,hh2]
    refine Ok.bind hg ?_
    rintro t M2 ⟨rfl,k2,l2,h2⟩
    try simp_arith [and_self]
    exact Ok.ret ⟨rfl,k2,l2,h2⟩
   ·have hh3:(n.asks e.house)[c.2.1].hears = false:=by simpa using hh2
    rw [QB (by
     rintro (z | ⟨_,z⟩)
     ·exact hw z
     ·rw [ha] at z;exact hh2 z)] at e0
    rw [e0]
    simp_arith [hw',hs,haa,a4,hh3,qD,ym,h.errands,h.er,qq (f:=FT.T.ref) hx,s1,ca,h1.errands,h1.er,s2]
    exact Ok.ret ⟨rfl,k2,l,h2⟩
  ·have hs':(w == ("spent":Str)) = false:=by simpa using hs
   rw [QB (by
    rintro (z | ⟨z,_⟩)
    ·exact hw z
    ·exact hs z)] at e0
   rw [e0]
   simp_arith [hw',hs',qD,ym,h.errands,h.er,qq (f:=FT.T.ref) hx,s1,ca,h1.errands,h1.er,s2]
   exact Ok.ret ⟨rfl,k2,l,h2⟩
theorem ziK (wn:WN n):∀ (f m:Nat),2 * f<=m->∀ {B i:Nat} {w:Str} {e:Er} {l:Lay} {M:Mem} {R:Run},B < 90000->RunAt kE kR (qf n) b r l M R->SB B R->RI n R->R.es[i]? = some e->e.house < f->
  Ok ((yt kE kR m).1 [.ref r,nT i,.str w] M) (Lv kE kR n b r (zN n f R i w) M)
 | 0,m,_,B,i,w,e,l,M,R,_,_,_,_,_,hf=>absurd hf (by omega)
 | f + 1,0,hm,B,i,w,e,l,M,R,_,_,_,_,_,hf=>absurd hm (by omega)
 | f + 1,m + 1,hm,B,i,w,e,l,M,R,hB,h,sb,ri,he,hf=>by
  show Ok (yi 3 4 (zbR kE kR (yt kE kR m).1 (yt kE kR m).2) [.ref r,nT i,.str w] M) _
  refine qB rfl ?_
  unfold zbR
  obtain ⟨x,hx,hc⟩:=h.at_e he
  have s1:=za7 (f:="state") (y:=.tup [.str "ended",.str w]) (fs':=erF { e with ph:=.ended w }) hc rfl (by simp [erF])
  obtain ⟨h1,bx⟩:=h.setE hx he { e with ph:=.ended w }
  have hc1:(M.set x (.ins kE (erF { e with ph:=.ended w })))[x]? = some (.ins kE (erF { e with ph:=.ended w })):=get_set hc
  have f1:=zJ (f:="caller") hc1 rfl
  have f2:=zJ (f:="is_lost") hc1 rfl
  have k1:Kp b M (M.set x (.ins kE (erF { e with ph:=.ended w }))):=Kp.set _ _ bx
  generalize hR:zN n (f + 1) R i w = R'
  simp_arith [ym,h.errands,h.er,qq (f:=FT.T.ref) hx,qD,s1,f1]
  generalize hM1:M.set x (.ins kE (erF { e with ph:=.ended w })) = M1 at h1 f1 f2 k1 ⊢
  cases q:e.caller with
  | none=>
   have e1:zN n (f + 1) R i w = R.setE i { e with ph:=.ended w }:=by unfold zN;rw [he];dsimp only;rw [q]
   have i1:∀ M,zat (clT none) .non M = .ok (.bl false) M:=fun _=>rfl
   rw [← hR,e1]
   have q':({ e with ph:=.ended w }:Er).caller = none:=q
   rw [q] at f1
   simp_arith [i1]
   exact Ok.ret ⟨rfl,k1,l,h1⟩
  | some c=>
   have i1:∀ M,zat (clT (some c)) .non M = .ok (.bl true) M:=fun _=>rfl
   cases ql:e.lost with
   | true=>
    have e1:zN n (f + 1) R i w = R.setE i { e with ph:=.ended w }:=by unfold zN;rw [he];dsimp only;rw [q];dsimp only;rw [QA ql]
    rw [← hR,e1]
    rw [ql] at f2
    simp_arith [i1,f2]
    exact Ok.ret ⟨rfl,k1,l,h1⟩
   | false=>
    have e1:zN n (f + 1) R i w = yW n (zN n f) (R.setE i { e with ph:=.ended w }) c w:=by rw [zN,he];dsimp only;rw [q];dsimp only;rw [QB (by rw [ql];simp)]
    rw [← hR,e1]
    rw [ql] at f2
    rw [q] at f1
    have ri1:RI n (R.setE i { e with ph:=.ended w }):=ri.setE he rfl rfl True.intro
    have hei:(R.setE i { e with ph:=.ended w }).es[i]? = some { e with ph:=.ended w }:=by
     show (R.es.set i _)[i]? = _
     rw [Qc,QA rfl,QA (Qz.mp he).1]
    obtain ⟨_,ce,c1,c2,c3⟩:=ri1.cl i _ c hei q
    obtain ⟨m',rfl⟩:∃ m',m = m' + 1:=⟨m - 1,by omega⟩
    simp_arith [i1,f2,f1]
    refine Ok.bind (zjL wn (q1:=(yt kE kR m').1) (q2:=(yt kE kR m').2) (g:=zN n f) hB h1 (sb.setE _ _) ri1 c1 c3 ?_) ?_
    ·exact ziK wn f m' (by omega) hB h1 (sb.setE _ _) ri1 c1 (by have c2':ce.house < e.house:=c2;omega)
    ·rintro t M2 ⟨rfl,k2,l2,h2⟩
     try simp_arith [and_self]
     exact Ok.ret ⟨rfl,k1.trans k2,l2,h2⟩
end
inductive Evt where
 | fresh
 | ends (i:Nat) (w:Str)
 | lost (i:Nat)
 | again (i:Nat)
 | up (i:Nat)
noncomputable def evT:Evt->FT.T
 | .fresh=>.tup [.str "fresh"]
 | .ends i w=>.tup [.str "ends",nT i,.str w]
 | .lost i=>.tup [.str "lost",nT i]
 | .again i=>.tup [.str "again",nT i]
 | .up i=>.tup [.str "up",nT i]
noncomputable def Ph.isW:Ph->Bool
 | .works=>true
 | _=>false
noncomputable def Ph.isS:Ph->Bool
 | .stands _ _=>true
 | _=>false
noncomputable def Ph.isE:Ph->Bool
 | .ended _=>true
 | _=>false
noncomputable def Ph.at1:Ph->Nat
 | .waits a _=>a
 | .stands a _=>a
 | _=>0
noncomputable def Ph.at2:Ph->Nat
 | .waits _ t=>t
 | .stands _ t=>t
 | _=>0
noncomputable def Run.er (R:Run) (i:Nat):Er:=R.es.getD i (yq 0 none)
theorem zag (h:R.es[i]? = some e):R.er i = e:=by unfold Run.er;rw [Q7,h];rfl
noncomputable def Net.ask (n:Net) (h k:Nat):Ask:=(n.asks h).getD k ⟨"",0,none,"",false,false⟩
theorem zbr {h:Nat} {a:Ask} (e:(n.asks h)[k]? = some a):n.ask h k = a:=by unfold Net.ask;rw [Q7,e];rfl
noncomputable def zcT (n:Net) (R:Run) (e:Er):Bool:=match e.caller with
 | none=>false
 | some c=>!(e.lost || e.ph.isE) && !(n.ask (R.er c.1).house c.2.1).sure
noncomputable def zae (n:Net) (e:Er):Bool:=e.ph.isS && ((n.ask e.house e.ph.at1).tries == 0 || decide ((e.ph.at2:Int) < (n.ask e.house e.ph.at1).tries))
noncomputable def zeO (n:Net) (R:Run) (e:Er):Bool:=match n.pof (n.ask e.house e.ph.at1) with
 | none=>true
 | some k=>decide (0 < (R.told n k).2)
noncomputable def zaN (n:Net) (R:Run) (i:Nat):List Evt:=(if (R.er i).ph.isW = true then [.ends i "bad",.ends i "spent",.ends i "well"] else []) ++ (if zcT n R (R.er i) = true then [.lost i] else []) ++ (if zae n (R.er i) = true then [.again i] else []) ++ (if (R.er i).ph.isS = true then [.up i] else [])
noncomputable def Evt.isA:Evt->Bool
 | .again _=>true
 | _=>false
noncomputable def zbm (n:Net) (R:Run) (i:Nat):List Evt:=(zaN n R i).filter fun ev=>!ev.isA || zeO n R (R.er i)
variable {xs:List FT.T}
section
variable {b:Nat}
theorem phW (p:Ph) (M:Mem):∃ t ts,phT p = .tup (t :: ts)/\eqA t (.str "works") M = .ok (.bl p.isW) M/\eqA t (.str "stands") M = .ok (.bl p.isS) M/\neA t (.str "stands") M = .ok (.bl (!p.isS)) M/\eqA t (.str "ended") M = .ok (.bl p.isE) M:=by
 cases p with
 | works=>exact ⟨_,_,rfl,rfl,rfl,rfl,rfl⟩
 | waits a t=>exact ⟨_,_,rfl,rfl,rfl,rfl,rfl⟩
 | stands a t=>exact ⟨_,_,rfl,rfl,rfl,rfl,rfl⟩
 | ended w=>exact ⟨_,_,rfl,rfl,rfl,rfl,rfl⟩
theorem phS {p:Ph} (h:p.isS = true):phT p = .tup [.str "stands",nT p.at1,nT p.at2]:=by
 cases p with
 | stands a t=>rfl
 | _=>cases h
theorem zcq (h:e.ph.isS = true) (k:zcF n e):e.ph.at1 < (n.asks e.house).length:=by
 unfold zcF at k
 cases q:e.ph with
 | stands a t=>rw [q] at k;exact k.1
 | _=>rw [q] at h;cases h
theorem zjc (h:RunAt kE kR (qf n) b r l M R) (ri:RI n R) (he:R.es[i]? = some e):zaD kE kR [.ref r,nT i] M = .ok (.bl (zcT n R e)) M:=by
 unfold zaD zep
 obtain ⟨x,hx,hc⟩:=h.at_e he
 have f1:=zJ (f:="caller") hc rfl
 have f2:=zJ (f:="is_lost") hc rfl
 have f3:=zJ (f:="state") hc rfl
 obtain ⟨t,ts,p1,_,_,_,p4⟩:=phW e.ph M
 rw [p1] at f3
 unfold zcT
 cases q:e.caller with
 | none=>
  rw [q] at f1
  have i1:∀ M,isN (clT none) .non M = .ok (.bl true) M:=fun _=>rfl
  simp_arith [ym,h.errands,h.er,qq (f:=FT.T.ref) hx,f1,i1]
 | some c=>
  rw [q] at f1
  have i1:∀ M,isN (.tup [nT c.1,nT c.2.1,nT c.2.2]) .non M = .ok (.bl false) M:=fun _=>rfl
  rw [show clT (some c) = .tup [nT c.1,nT c.2.1,nT c.2.2] from rfl] at f1
  obtain ⟨_,ce,c1,c2,c3⟩:=ri.cl i e c he q
  have ha:(n.asks ce.house)[c.2.1]? = some (n.asks ce.house)[c.2.1]:=Q0 c3
  have haa:atI ((n.asks ce.house).map qC) (c.2.1:Int) = some (.tup [.str (n.asks ce.house)[c.2.1].to,.int (n.asks ce.house)[c.2.1].tries,opS (n.asks ce.house)[c.2.1].purse,.str (n.asks ce.house)[c.2.1].word,.bl (n.asks ce.house)[c.2.1].hears,.bl (n.asks ce.house)[c.2.1].sure]):=qq (f:=qC) ha
  have a5:∀ (t0 t1 t2 t3 t4 t5:FT.T),atI [t0,t1,t2,t3,t4,t5] 5 = some t5:=fun _ _ _ _ _ _=>rfl
  dsimp only
  rw [zag c1,zbr ha]
  cases ql:e.lost with
  | true=>
   rw [ql] at f2
   simp_arith [ym,h.errands,h.er,qq (f:=FT.T.ref) hx,f1,i1,f2]
   rfl
  | false=>
   rw [ql] at f2
   cases qe:e.ph.isE with
   | true=>
    rw [qe] at p4
    simp_arith [ym,h.errands,h.er,qq (f:=FT.T.ref) hx,f1,i1,f2,f3,p4]
    rfl
   | false=>
    rw [qe] at p4
    simp_arith [ym,h.errands,h.er,qq (f:=FT.T.ref) hx,f1,i1,f2,f3,p4,zT h c1 (ri.hs _ _ c1),haa,a5]
    cases (n.asks ce.house)[c.2.1].sure <;> rfl
theorem zhk (h:RunAt kE kR (qf n) b r l M R) (ri:RI n R) (he:R.es[i]? = some e):y6 kE kR [.ref r,nT i] M = .ok (.bl (zae n e)) M:=by
 unfold y6 zc8
 obtain ⟨x,hx,hc⟩:=h.at_e he
 have f3:=zJ (f:="state") hc rfl
 unfold zae
 cases qs:e.ph.isS with
 | false=>
  obtain ⟨t,ts,p1,_,_,p3,_⟩:=phW e.ph M
  rw [p1] at f3
  rw [qs] at p3
  simp_arith [ym,h.errands,h.er,qq (f:=FT.T.ref) hx,f3,p3]
  rfl
 | true=>
  rw [phS qs] at f3
  have hl:=zcq qs (ri.ph _ _ he)
  have ha:(n.asks e.house)[e.ph.at1]? = some (n.asks e.house)[e.ph.at1]:=Q0 hl
  have haa:atI ((n.asks e.house).map qC) (e.ph.at1:Int) = some (.tup [.str (n.asks e.house)[e.ph.at1].to,.int (n.asks e.house)[e.ph.at1].tries,opS (n.asks e.house)[e.ph.at1].purse,.str (n.asks e.house)[e.ph.at1].word,.bl (n.asks e.house)[e.ph.at1].hears,.bl (n.asks e.house)[e.ph.at1].sure]):=qq (f:=qC) ha
  rw [zbr ha]
  have ns:∀ M,neA (.str "stands") (.str "stands") M = .ok (.bl false) M:=fun _=>rfl
  cases q0:(n.asks e.house)[e.ph.at1].tries == 0 with
  | true=>
   simp_arith [ym,h.errands,h.er,qq (f:=FT.T.ref) hx,f3,ns,zT h he (ri.hs _ _ he),haa,q0]
   rfl
  | false=>
   simp_arith [ym,h.errands,h.er,qq (f:=FT.T.ref) hx,f3,ns,zT h he (ri.hs _ _ he),haa,q0]
   rfl
theorem zoq (h:RunAt kE kR (qf n) b r l M R) (wn:WN n) (ri:RI n R) (he:R.es[i]? = some e) (qs:e.ph.isS = true):zbd kE kR [.ref r,nT i] M = .ok (.bl (zeO n R e)) M:=by
 unfold zbd zga
 obtain ⟨x,hx,hc⟩:=h.at_e he
 have f3:=zJ (f:="state") hc rfl
 rw [phS qs] at f3
 have hl:=zcq qs (ri.ph _ _ he)
 have ha:(n.asks e.house)[e.ph.at1]? = some (n.asks e.house)[e.ph.at1]:=Q0 hl
 have haa:atI ((n.asks e.house).map qC) (e.ph.at1:Int) = some (qC (n.asks e.house)[e.ph.at1]):=qq (f:=qC) ha
 have w:=wn.as e.house _ (Qa ha)
 have po:=zdu h wn w
 unfold zeO
 rw [zbr ha]
 cases q:n.pof (n.asks e.house)[e.ph.at1] with
 | none=>
  rw [q] at po
  have i1:∀ M,isN (onT none) .non M = .ok (.bl true) M:=fun _=>rfl
  simp_arith [ym,h.errands,h.er,qq (f:=FT.T.ref) hx,f3,zT h he (ri.hs _ _ he),haa,po,i1]
 | some k=>
  rw [q] at po
  have i1:∀ M,isN (onT (some k)) .non M = .ok (.bl false) M:=fun _=>rfl
  have te:=zjo h wn ri.pl (w.plt q)
  rw [show (nT k:FT.T) = onT (some k) from rfl] at te
  simp_arith [ym,h.errands,h.er,qq (f:=FT.T.ref) hx,f3,zT h he (ri.hs _ _ he),haa,po,i1,te]
theorem zjT {a:Nat} {ys:List FT.T} (h:M[a]? = some (.lst xs)) (hl:xs.length + ys.length < 1000000):zeM (.ref a) [.lst ys] M = .ok .non (M.set a (.lst (xs ++ ys))):=by
 unfold zeM
 simp only [h,QA hl]
theorem zg2 {a:Nat} (h:M[a]? = some (.lst xs)):zbQ (.ref a) M = true:=by
 unfold zbQ qv
 simp only [h]
 rfl
theorem zjf (h:RunAt kE kR (qf n) b r l M R) (ri:RI n R) (he:R.es[i]? = some e):zao kE kR [.ref r,nT i] M = .ok (.lst ((zaN n R i).map evT)) M:=by
 have key:Ok (zbl kE kR [.ref r,nT i] M) fun t M'=>t = .ref M.length/\M' = M ++ [.lst ((zaN n R i).map evT)]:=by
  refine qB rfl ?_
  unfold zcM
  obtain ⟨x,hx,hc⟩:=h.at_e he
  have f3:=zJ (f:="state") hc rfl
  obtain ⟨t,ts,p1,p2,p3,_,_⟩:=phW e.ph M
  have p2':∀ M',eqA t (.str "works") M' = .ok (.bl e.ph.isW) M':=fun M'=>by
   obtain ⟨t',ts',q1,q2,_⟩:=phW e.ph M'
   rw [p1] at q1;cases q1;exact q2
  have p3':∀ M',eqA t (.str "stands") M' = .ok (.bl e.ph.isS) M':=fun M'=>by
   obtain ⟨t',ts',q1,_,q2,_⟩:=phW e.ph M'
   rw [p1] at q1;cases q1;exact q2
  rw [p1] at f3
  have ml:=fun cs=>zjc (h.app cs) ri he
  have tl:=fun cs=>zhk (h.app cs) ri he
  have lc:∀ (ys:List FT.T),yL (.ref M.length) (M ++ [.lst ys]) = .ok (.ref M.length) (M ++ [.lst ys]):=fun ys=>qR zI
  have ap:∀ (ys:List FT.T) (y:FT.T),ys.length < 100->z9 (.ref M.length) [y] (M ++ [.lst ys]) = .ok .non (M ++ [.lst (ys ++ [y])]):=fun ys y hl=>by
   rw [zam zI (by rw [sizeLine_eq];omega),set_append_right _ _ (Q3 _),Qv]
   rfl
  have ex:∀ (zs:List FT.T),zs.length < 100->zeM (.ref M.length) [.lst zs] (M ++ [.lst []]) = .ok .non (M ++ [.lst zs]):=fun zs hl=>by
   rw [zjT zI (by simp;omega),set_append_right _ _ (Q3 _),Qv]
   rfl
  have il:∀ (ys:List FT.T),zbQ (.ref M.length) (M ++ [.lst ys]) = true:=fun ys=>zg2 zI
  unfold zaN
  rw [zag he]
  cases qw:e.ph.isW <;> cases qm:zcT n R e <;> cases qt:zae n e <;> cases qs:e.ph.isS <;> (simp_arith [ym,h.errands,h.er,qq (f:=FT.T.ref) hx,f3,p2',p3',qw,qs,ml,qm,tl,qt,qY,il,ex,lc,ap,Nat.reduceLT];exact Ok.ret ⟨rfl,rfl⟩)
 obtain ⟨t,M',e1,rfl,rfl⟩:=key
 unfold zao zeL
 rw [e1]
 dsimp only
 rw [zI]
 dsimp only
 rw [QA]
 refine ⟨by simp,Q3 _,fun y hy=>?_⟩
 obtain ⟨ev,_,rfl⟩:=mem_map.mp hy
 cases ev <;> exact .tup fun z hz=>by
  simp only [QD,not_mem_nil,or_false] at hz
  rcases hz with rfl | rfl | rfl <;> first | exact .str _ | exact .int _
end
noncomputable def Evt.num:Evt->Nat
 | .fresh=>0
 | .ends i _=>i
 | .lost i=>i
 | .again i=>i
 | .up i=>i
noncomputable def Evt.isF:Evt->Bool
 | .fresh=>true
 | _=>false
variable {ev:Evt}
section
variable {b:Nat}
theorem zlg (h:ev ∈ zaN n R i) (ha:ev.isA = true):(R.er i).ph.isS = true:=by
 unfold zaN at h
 cases ev with
 | again j=>
  simp only [mem_append] at h
  rcases h with ((h | h) | h) | h
  ·split at h <;> simp at h
  ·split at h <;> simp at h
  ·split at h
   ·rename_i q
    unfold zae at q
    rw [Qs] at q
    exact q.1
   ·simp at h
  ·split at h <;> simp at h
 | _=>cases ha
theorem zoo (ev:Evt):∃ s ts,evT ev = .tup (.str s :: ts)/\(s == ("again":Str)) = ev.isA/\(s == ("fresh":Str)) = ev.isF:=by
 cases ev <;> exact ⟨_,_,rfl,rfl,rfl⟩
theorem zjY (i:Nat):(zaN n R i).length<=10:=by
 unfold zaN
 rw [Qn,Qn,Qn]
 have:∀ (c:Bool) (xs:List Evt),xs.length<=3->(if c = true then xs else []).length<=3:=fun c xs h=>by cases c <;> simp [h]
 have h1:=this (R.er i).ph.isW [.ends i "bad",.ends i "spent",.ends i "well"] (by simp)
 have h2:(if zcT n R (R.er i) = true then [Evt.lost i] else []).length<=1:=by split <;> simp
 have h3:(if zae n (R.er i) = true then [Evt.again i] else []).length<=1:=by split <;> simp
 have h4:(if (R.er i).ph.isS = true then [Evt.up i] else []).length<=1:=by split <;> simp
 omega
theorem ziE (h:RunAt kE kR (qf n) b r l M R) (wn:WN n) (ri:RI n R) (he:R.es[i]? = some e):zak kE kR [.ref r,nT i] M = .ok (.lst ((zbm n R i).map evT)) M:=by
 unfold zak zfn
 have c:yz (yn 0) (zai (zk (eOp neA (eOp ixT (yb 0) (eC (.int 0))) (eC (.str "again")))) (zk (ze (zbd kE kR) (zb (yb 1) (zb (yb 2) zd))))) (yb 0) ((zaN n R i).map evT) [none,some (.ref r),some (nT i)] M [] = .ok ((zbm n R i).map evT) M:=
  Ok.filt (r:=evT) (fun σ=>∃ o,σ = [o,some (.ref r),some (nT i)]) _ evT ⟨_,rfl⟩ (Qj (zjY i) (by decide)) (by
   rintro ev σ hev ⟨o,rfl⟩
   refine ⟨[some (evT ev),some (.ref r),some (nT i)],rfl,⟨_,rfl⟩,?_,fun _=>rfl⟩
   obtain ⟨s,ts,h1,h2,_⟩:=zoo ev
   rw [h1]
   cases q:ev.isA with
   | false=>
    rw [q] at h2
    simp_arith [zmY,h2]
    rfl
   | true=>
    rw [q] at h2
    have hs:e.ph.isS = true:=by rw [← zag he];exact zlg hev q
    simp_arith [zmY,h2,zoq h wn ri he hs]
    rw [zag he]
    rfl)
 simp_arith [zjf h ri he,c]
theorem zqu (M:Mem) (x y:Evt):∃ q,eqD M 20 (evT x) (evT y) = some q/\(x = y->q = true):=by
 have hs:∀ w:Str,eqS (.str w) (.str w) = true:=fun w=>by show (w == w) = true;simp
 have hi:∀ i:Int,eqS (.int i) (.int i) = true:=fun w=>by show (w == w) = true;simp
 cases x <;> cases y <;> refine ⟨_,rfl,fun z=>?_⟩ <;> first | (cases z) | skip
 all_goals first | rfl | (simp [hs,hi]) | skip
theorem zpV (M:Mem) {x:Evt}:∀ {ys:List Evt},x ∈ ys->∃ bs,zdi M (evT x) (ys.map evT) = some bs/\bs.any id = true:=by
 intro ys
 have all:∀ ys:List Evt,∃ bs,zdi M (evT x) (ys.map evT) = some bs/\(x ∈ ys->bs.any id = true):=by
  intro ys
  induction ys with
  | nil=>exact ⟨[],rfl,fun h=>by cases h⟩
  | cons y ys ih=>
   obtain ⟨bs,h1,h2⟩:=ih
   obtain ⟨q,q1,q2⟩:=zqu M y x
   refine ⟨q :: bs,?_,fun h=>?_⟩
   ·rw [QG]
    unfold zdi
    rw [q1,h1]
   ·rcases QD.mp h with rfl | h
    ·rw [any_cons,q2 rfl];rfl
    ·rw [any_cons,h2 h,Bool.or_true]
 intro h
 obtain ⟨bs,h1,h2⟩:=all ys
 exact ⟨bs,h1,h2 h⟩
theorem zqC (h:RunAt kE kR (qf n) b r l M R) (wn:WN n) (ri:RI n R) (hB:R.es.length < 1000000) (hf:ev.isF = false) (he:R.es[ev.num]? = some e) (hm:ev ∈ zbm n R ev.num):qO kE kR [.ref r,evT ev] M = .ok .non M:=by
 have hl:=(Qz.mp he).1
 have cc:zay kE kR [.ref r,evT ev] M = .ok (.bl true) M:=by
  unfold zay zed
  obtain ⟨bs,b1,b2⟩:=zpV M hm
  have iN:inN (evT ev) (.lst ((zbm n R ev.num).map evT)) M = .ok (.bl true) M:=by
   unfold inN zan qv
   simp only [b1,b2]
  have ii:∀ (xs:List FT.T) M,zaL (.tup xs) (.ty "tuple") M = .ok (.bl true) M:=fun _ _=>rfl
  have ln:yu (.ref l.a) M = .ok (nT R.es.length) M:=by
   unfold yu zan qv
   simp only [h.er]
   simp [h.el]
  have wi:qS kE kR [nT ev.num,.int 0,.int ((R.es.length:Int) - 1)] M = .ok (.bl true) M:=by
   have wh:zax kE kR [nT ev.num] M = .ok (.bl true) M:=by
    unfold zax zec
    have h1:zaL (nT ev.num) (.ty "int") M = .ok (.bl true) M:=rfl
    have h2:zaL (nT ev.num) (.ty "bool") M = .ok (.bl false) M:=rfl
    simp_arith [h1,h2]
   unfold qS zdv
   have d1:decide ((0:Int)<=(ev.num:Int)) = true:=Qw (by omega)
   have d2:decide ((ev.num:Int)<=(R.es.length:Int) - 1) = true:=Qw (by omega)
   simp_arith [wh,d1,d2]
  have ea:=ziE h wn ri he
  have e0:∃ s ts,evT ev = .tup (.str s :: nT ev.num :: ts)/\eqA (evT ev) (.tup [.str "fresh"]) M = .ok (.bl false) M:=by
   cases ev with
   | fresh=>cases hf
   | ends i w=>exact ⟨_,_,rfl,rfl⟩
   | lost i=>exact ⟨_,_,rfl,rfl⟩
   | again i=>exact ⟨_,_,rfl,rfl⟩
   | up i=>exact ⟨_,_,rfl,rfl⟩
  obtain ⟨s,ts,e1,e2⟩:=e0
  rw [e1] at e2 iN ⊢
  have d3:decide (((FT.T.str s :: nT ev.num :: ts).length:Int) < 2) = false:=Qx (by simp;omega)
  simp only [Qp] at d3
  simp_arith [e2,ii,d3,ym,h.errands,ln,wi,ea,iN]
 unfold qO zcJ
 simp_arith [cc]
theorem zlD (h:RunAt kE kR (qf n) b r l M R):qO kE kR [.ref r,evT .fresh] M = .ok .non M:=by
 have cc:zay kE kR [.ref r,evT .fresh] M = .ok (.bl true) M:=by
  unfold zay zed
  have e2:eqA (evT .fresh) (.tup [.str "fresh"]) M = .ok (.bl true) M:=rfl
  simp_arith [e2]
 unfold qO zcJ
 simp_arith [cc]
end
noncomputable def zcN (R:Run) (k:Nat):Run:={ R with pays:=R.pays ++ [(R.es.length,k,R.taken.getD k 0)],taken:=R.taken.set k (R.taken.getD k 0 + 1) }
noncomputable def takeO (R:Run) (o:Option Nat):Run:=o.elim R (zcN R)
noncomputable def za6 (n:Net) (R:Run) (i:Nat):Run:=qP n (zA n 4) (takeO R (n.pof (n.ask (R.er i).house (R.er i).ph.at1))) i (R.er i).ph.at1 ((R.er i).ph.at2 + 1)
noncomputable def zas (n:Net) (R:Run) (i:Nat):Run:=(R.er i).caller.elim R fun c=>yW n (zN n 4) (R.setE i { R.er i with lost:=true }) c "bad"
noncomputable def upR (n:Net) (R:Run) (i:Nat):Run:=zN n 4 R i (n.ask (R.er i).house (R.er i).ph.at1).word
noncomputable def doR (n:Net) (R:Run):Evt->Run
 | .fresh=>zA n 4 R 0 none
 | .ends i w=>zN n 4 R i w
 | .lost i=>zas n R i
 | .again i=>za6 n R i
 | .up i=>upR n R i
noncomputable def Run.tick (R:Run):Run:={ R with came:=R.came + 1 }
noncomputable def zbs (n:Net) (R:Run) (ev:Evt):Run:=(doR n R ev).tick
section
variable {b:Nat}
theorem SB.takeO (sb:SB B R) (o:Option Nat):SB (B + 1) (takeO R o):=by
 cases o with
 | none=>exact sb.mono (by omega)
 | some k=>
  refine ⟨Nat.le_succ_of_le sb.es,fun u hu=>Nat.le_succ_of_le (sb.pu u hu),?_,fun v hv=>?_⟩
  ·show (R.pays ++ _).length<=_
   rw [Qn,Qu]
   have:=sb.py
   omega
  ·rcases mem_set hv with hv | rfl
   ·exact Nat.le_succ_of_le (sb.tk v hv)
   ·by_cases hk:k < R.taken.length
    ·have:=sb.tk (R.taken.getD k 0) (by rw [Q7,Q0 hk];exact getElem_mem _)
     omega
    ·rw [Q7,getElem?_eq_none (by omega)]
     simp
theorem zc0 (R:Run) (o:Option Nat):(takeO R o).es = R.es/\(takeO R o).puts = R.puts/\(takeO R o).came = R.came:=by cases o <;> exact ⟨rfl,rfl,rfl⟩
theorem znc (h:RunAt kE kR (qf n) b r l M R) (hB:B < 90000) (sb:SB B R) (hp:R.puts.length = n.ps.length) (hk:k < n.ps.length):Ok (zco kE kR [.ref r,nT k] M) (Lv kE kR n b r (zcN R k) M):=by
 refine qB rfl ?_
 unfold zfl
 have hkt:k < R.taken.length:=by have:=h.tl;omega
 have ht:R.taken[k]? = some R.taken[k]:=Q0 hkt
 have gd:R.taken.getD k 0 = R.taken[k]:=by rw [Q7,ht];rfl
 have ln:yu (.ref l.a) M = .ok (nT R.es.length) M:=by
  unfold yu zan qv
  simp only [h.er]
  simp [h.el]
 obtain ⟨h1,b1⟩:=h.setPays (R.pays ++ [(R.es.length,k,R.taken[k])])
 have ap:=zam (t:=.tup [nT R.es.length,nT k,nT R.taken[k]]) h.py (by rw [Qh,sizeLine_eq];have:=sb.py;omega)
 rw [show R.pays.map zfy ++ [.tup [nT R.es.length,nT k,nT R.taken[k]]] = (R.pays ++ [(R.es.length,k,R.taken[k])]).map zfy from by simp [zfy]] at ap
 simp_arith [ym,h.payF,qR h.py,h.errands,ln,h.takenF,h.tk,qq (f:=nT) ht,ap]
 generalize hM1:M.set l.q (.lst ((R.pays ++ [(R.es.length,k,R.taken[k])]).map zfy)) = M1 at h1 ⊢
 have k1:Kp b M M1:=by rw [← hM1];exact Kp.set _ _ b1
 obtain ⟨h2,b2⟩:=h1.setTaken (R.taken.set k (R.taken[k] + 1)) (by simp)
 have hix:ixN (R.taken.map nT).length (k:Int) = some k:=by
  rw [zpS (by rw [Qh];omega),QH]
 have tk1:M1[l.t]? = some (.lst (R.taken.map nT)):=h1.tk
 have ms:(R.taken.map nT).set k (.int ((R.taken[k]:Int) + 1)) = (R.taken.set k (R.taken[k] + 1)).map nT:=by
  rw [List.map_set];rfl
 have ad:∀ i j M,zdA (.int i) (.int j) M = .ok (.int (i + j)) M:=fun _ _ _=>rfl
 unfold zhs getL
 simp_arith [ym,h1.takenF,zk6 tk1,qq (f:=nT) ht,ad,tk1,hix,ms]
 refine Ok.ret ⟨rfl,k1.trans (Kp.set _ _ b2),l,?_⟩
 unfold zcN
 rw [gd]
 exact h2
theorem zrs (h:RunAt kE kR (qf n) b r l M R):b<=M.length:=Qj (h.lo _ (.head _)) (Nat.le_of_lt (qI h.run))
theorem zmS (h:RunAt kE kR (qf n) b r l M R) (wn:WN n) (hB:B + 1 < 90000) (sb:SB B R) (ri:RI n R) (he:R.es[i]? = some e) (hs:e.ph.isS = true):Ok (zcn kE kR [.ref r,nT i] M) (Lv kE kR n b r (za6 n R i) M):=by
 refine qB rfl ?_
 unfold zfk
 have hl:=zcq hs (ri.ph _ _ he)
 have ha:(n.asks e.house)[e.ph.at1]? = some (n.asks e.house)[e.ph.at1]:=Q0 hl
 have haa:atI ((n.asks e.house).map qC) (e.ph.at1:Int) = some (qC (n.asks e.house)[e.ph.at1]):=qq (f:=qC) ha
 have w:=wn.as e.house _ (Qa ha)
 have po:=zdu h wn w
 obtain ⟨x,hx,hc⟩:=h.at_e he
 have f3:=zJ (f:="state") hc rfl
 rw [phS hs] at f3
 unfold za6
 rw [zag he,zbr ha]
 simp_arith [ym,h.errands,h.er,qq (f:=FT.T.ref) hx,f3,zT h he (ri.hs _ _ he),haa,po]
 have go:∀ (l1:Lay) (M1:Mem) (o:Option Nat),Kp b M M1->RunAt kE kR (qf n) b r l1 M1 (takeO R o)->Ok ((zal kE kR [.ref r,nT i,nT e.ph.at1,.int ((e.ph.at2:Int) + 1)] M1).bind fun _ M=>.ok FT.T.non M) (Lv kE kR n b r (qP n (zA n 4) (takeO R o) i e.ph.at1 (e.ph.at2 + 1)) M):=by
  intro l1 M1 o k1 h1
  have te:=zc0 R o
  refine Ok.bind (zjn wn (B:=B + 1) (tr:=e.ph.at2 + 1) hB h1 (sb.takeO o) (by rw [te.2.1];exact ri.pl) (by rw [te.1];exact he) (ri.hs _ _ he) ha) ?_
  rintro t M2 ⟨rfl,k2,l2,h2⟩
  exact Ok.ret ⟨rfl,k1.trans k2,l2,h2⟩
 cases q:n.pof (n.asks e.house)[e.ph.at1] with
 | none=>
  have i1:∀ M,zat (onT none) .non M = .ok (.bl false) M:=fun _=>rfl
  simp_arith [i1]
  exact go l M none (Kp.refl _ _) h
 | some k=>
  have i1:∀ M,zat (onT (some k)) .non M = .ok (.bl true) M:=fun _=>rfl
  simp_arith [i1]
  rw [show onT (some k) = nT k from rfl]
  refine Ok.bind (znc h (by omega) sb ri.pl (w.plt q)) ?_
  rintro t M1 ⟨rfl,k1,l1,h1⟩
  try simp_arith [and_self]
  exact go l1 M1 (some k) k1 h1
theorem zjU (h:RunAt kE kR (qf n) b r l M R) (wn:WN n) (hB:B < 90000) (sb:SB B R) (ri:RI n R) (he:R.es[i]? = some e) (w:Str):Ok (za1 kE kR [.ref r,nT i,.str w] M) (Lv kE kR n b r (zN n 4 R i w) M):=
 ziK wn 4 12 (by omega) hB h sb ri he (by have:=ri.hs _ _ he;have:=wn.hl;omega)
theorem zqK (h:RunAt kE kR (qf n) b r l M R) (wn:WN n) (hB:B < 90000) (sb:SB B R) (ri:RI n R) (he:R.es[i]? = some e) (hs:e.ph.isS = true):Ok (ze6 kE kR [.ref r,nT i] M) (Lv kE kR n b r (upR n R i) M):=by
 refine qB rfl ?_
 unfold zjQ
 have hl:=zcq hs (ri.ph _ _ he)
 have ha:(n.asks e.house)[e.ph.at1]? = some (n.asks e.house)[e.ph.at1]:=Q0 hl
 have haa:atI ((n.asks e.house).map qC) (e.ph.at1:Int) = some (.tup [.str (n.asks e.house)[e.ph.at1].to,.int (n.asks e.house)[e.ph.at1].tries,opS (n.asks e.house)[e.ph.at1].purse,.str (n.asks e.house)[e.ph.at1].word,.bl (n.asks e.house)[e.ph.at1].hears,.bl (n.asks e.house)[e.ph.at1].sure]):=qq (f:=qC) ha
 obtain ⟨x,hx,hc⟩:=h.at_e he
 have f3:=zJ (f:="state") hc rfl
 rw [phS hs] at f3
 unfold upR
 rw [zag he,zbr ha]
 simp_arith [ym,h.errands,h.er,qq (f:=FT.T.ref) hx,f3,zT h he (ri.hs _ _ he),haa]
 refine Ok.bind (zjU h wn hB sb ri he _) ?_
 rintro t M2 ⟨rfl,k2,l2,h2⟩
 try simp_arith [and_self]
 exact Ok.ret ⟨rfl,k2,l2,h2⟩
theorem znS (h:RunAt kE kR (qf n) b r l M R) (wn:WN n) (hB:B < 90000) (sb:SB B R) (ri:RI n R) (he:R.es[i]? = some e) {c:Nat × Nat × Nat} (hq:e.caller = some c):Ok (zge kE kR [.ref r,nT i] M) (Lv kE kR n b r (zas n R i) M):=by
 refine qB rfl ?_
 unfold zlr
 obtain ⟨x,hx,hc⟩:=h.at_e he
 have s1:=za7 (f:="is_lost") (y:=.bl true) (fs':=erF { e with lost:=true }) hc rfl (by simp [erF])
 obtain ⟨h1,bx⟩:=h.setE hx he { e with lost:=true }
 have hc1:(M.set x (.ins kE (erF { e with lost:=true })))[x]? = some (.ins kE (erF { e with lost:=true })):=get_set hc
 have f1:=zJ (f:="caller") hc1 rfl
 have k1:Kp b M (M.set x (.ins kE (erF { e with lost:=true }))):=Kp.set _ _ bx
 have e0:zas n R i = yW n (zN n 4) (R.setE i { e with lost:=true }) c "bad":=by
  have el:∀ (o:Option (Nat × Nat × Nat)) (f:Nat × Nat × Nat->Run),o = some c->o.elim R f = f c:=fun o f h=>by rw [h];rfl
  unfold zas
  rw [zag he]
  exact el _ _ hq
 rw [e0]
 simp_arith [ym,h.errands,h.er,qq (f:=FT.T.ref) hx,qD,s1]
 generalize hM1:M.set x (.ins kE (erF { e with lost:=true })) = M1 at h1 f1 k1 ⊢
 replace f1:zaO [kE] "caller" (.ref x) M1 = .ok (clT e.caller) M1:=f1
 rw [hq] at f1
 have ri1:RI n (R.setE i { e with lost:=true }):=ri.setE he rfl rfl (by have:=ri.ph _ _ he;unfold zcF at this ⊢;exact this)
 have hei:(R.setE i { e with lost:=true }).es[i]? = some { e with lost:=true }:=by
  show (R.es.set i _)[i]? = _
  rw [Qc,QA rfl,QA (Qz.mp he).1]
 obtain ⟨_,ce,c1,c2,c3⟩:=ri1.cl i _ c hei hq
 simp_arith [f1]
 refine Ok.bind (show Ok (ziD kE kR [.ref r,clT (some c),.str "bad"] M1) (Lv kE kR n b r (yW n (zN n 4) (R.setE i { e with lost:=true }) c "bad") M1) from ?_) ?_
 ·show Ok (yi 3 6 (zeJ kE kR (yt kE kR 11).1 (yt kE kR 11).2) [.ref r,clT (some c),.str "bad"] M1) _
  refine zjL wn hB h1 (sb.setE _ _) ri1 c1 c3 ?_
  exact ziK wn 4 11 (by omega) hB h1 (sb.setE _ _) ri1 c1 (by have:=ri1.hs _ _ c1;have:=wn.hl;omega)
 ·rintro t M2 ⟨rfl,k2,l2,h2⟩
  try simp_arith [and_self]
  exact Ok.ret ⟨rfl,k1.trans k2,l2,h2⟩
noncomputable def zqJ (R:Run):Evt->Prop
 | .fresh=>True
 | .ends i _=>∃ e,R.es[i]? = some e
 | .lost i=>∃ e c,R.es[i]? = some e/\e.caller = some c
 | .again i=>∃ e,R.es[i]? = some e/\e.ph.isS = true
 | .up i=>∃ e,R.es[i]? = some e/\e.ph.isS = true
theorem zpD (h:RunAt kE kR (qf n) b r l M R) (wn:WN n) (hB:B + 10 < 90000) (sb:SB B R) (ri:RI n R) (ho:zqJ R ev):Ok (zbS kE kR [.ref r,evT ev] M) (Lv kE kR n b r (zbs n R ev) M):=by
 refine qB rfl ?_
 unfold zf9
 have fin:∀ (M1:Mem),Lv kE kR n b r (doR n R ev) M .non M1->Ok ((zfX [kR] "came" (yb 0) 1 [some (.ref r),some (evT ev)] M1).bind zcE) (Lv kE kR n b r (zbs n R ev) M):=by
  rintro M1 ⟨_,k1,l1,h1⟩
  obtain ⟨h2,b2⟩:=h1.setCame ((doR n R ev).came + 1)
  have s1:=za7 (f:="came") (y:=.int (((doR n R ev).came:Int) + 1)) (fs':=zb5 (qf n) l1 { (doR n R ev) with came:=(doR n R ev).came + 1 }) h1.run rfl (by simp [zb5])
  have ad:∀ i j M,zdA (.int i) (.int j) M = .ok (.int (i + j)) M:=fun _ _ _=>rfl
  simp_arith [zfX,h1.came,ad,s1]
  exact Ok.ret ⟨rfl,k1.trans (Kp.set _ _ b2),l1,h2⟩
 cases ev with
 | fresh=>
  have q:∀ M,eqA (.str "fresh") (.str "fresh") M = .ok (.bl true) M:=fun _=>rfl
  rw [show evT .fresh = .tup [.str "fresh"] from rfl] at fin ⊢
  simp_arith [q]
  refine Ok.bind (show Ok (zce kE kR [.ref r,.int 0,.non] M) (Lv kE kR n b r (zA n 4 R 0 none) M) from zi1 wn 4 12 (by omega) (B:=B) (c:=none) (h:=0) (by omega) h (zrs h) sb ri.pl wn.h1 (by have:=wn.hl;omega)) ?_
  rintro t M1 ⟨rfl,k1,l1,h1⟩
  have:=fin M1 ⟨rfl,k1,l1,h1⟩
  try simp_arith [and_self]
  exact this
 | ends i w=>
  obtain ⟨e,he⟩:=ho
  have q0:∀ M,eqA (.str "ends") (.str "fresh") M = .ok (.bl false) M:=fun _=>rfl
  have q:∀ M,eqA (.str "ends") (.str "ends") M = .ok (.bl true) M:=fun _=>rfl
  rw [show evT (.ends i w) = .tup [.str "ends",nT i,.str w] from rfl] at fin ⊢
  simp_arith [q0,q]
  refine Ok.bind (zjU h wn (by omega) sb ri he w) ?_
  rintro t M1 ⟨rfl,k1,l1,h1⟩
  have:=fin M1 ⟨rfl,k1,l1,h1⟩
  try simp_arith [and_self]
  exact this
 | lost i=>
  obtain ⟨e,c,he,hq⟩:=ho
  have q0:∀ M,eqA (.str "lost") (.str "fresh") M = .ok (.bl false) M:=fun _=>rfl
  have q1:∀ M,eqA (.str "lost") (.str "ends") M = .ok (.bl false) M:=fun _=>rfl
  have q:∀ M,eqA (.str "lost") (.str "lost") M = .ok (.bl true) M:=fun _=>rfl
  rw [show evT (.lost i) = .tup [.str "lost",nT i] from rfl] at fin ⊢
  simp_arith [q0,q1,q]
  refine Ok.bind (znS h wn (by omega) sb ri he hq) ?_
  rintro t M1 ⟨rfl,k1,l1,h1⟩
  have:=fin M1 ⟨rfl,k1,l1,h1⟩
  try simp_arith [and_self]
  exact this
 | again i=>
  obtain ⟨e,he,hs⟩:=ho
  have q0:∀ M,eqA (.str "again") (.str "fresh") M = .ok (.bl false) M:=fun _=>rfl
  have q1:∀ M,eqA (.str "again") (.str "ends") M = .ok (.bl false) M:=fun _=>rfl
  have q2:∀ M,eqA (.str "again") (.str "lost") M = .ok (.bl false) M:=fun _=>rfl
  have q:∀ M,eqA (.str "again") (.str "again") M = .ok (.bl true) M:=fun _=>rfl
  rw [show evT (.again i) = .tup [.str "again",nT i] from rfl] at fin ⊢
  simp_arith [q0,q1,q2,q]
  refine Ok.bind (zmS h wn (by omega) sb ri he hs) ?_
  rintro t M1 ⟨rfl,k1,l1,h1⟩
  have:=fin M1 ⟨rfl,k1,l1,h1⟩
  try simp_arith [and_self]
  exact this
 | up i=>
  obtain ⟨e,he,hs⟩:=ho
  have q0:∀ M,eqA (.str "up") (.str "fresh") M = .ok (.bl false) M:=fun _=>rfl
  have q1:∀ M,eqA (.str "up") (.str "ends") M = .ok (.bl false) M:=fun _=>rfl
  have q2:∀ M,eqA (.str "up") (.str "lost") M = .ok (.bl false) M:=fun _=>rfl
  have q:∀ M,eqA (.str "up") (.str "again") M = .ok (.bl false) M:=fun _=>rfl
  rw [show evT (.up i) = .tup [.str "up",nT i] from rfl] at fin ⊢
  simp_arith [q0,q1,q2,q]
  refine Ok.bind (zqK h wn (by omega) sb ri he hs) ?_
  rintro t M1 ⟨rfl,k1,l1,h1⟩
  have:=fin M1 ⟨rfl,k1,l1,h1⟩
  try simp_arith [and_self]
  exact this
end
variable {n:Net}
def lv (e:Er):Prop:=e.lost = false/\e.ph.isE = false
def WT (R:Run):Prop:=∀ (i:Nat) (e:Er) (c:Nat × Nat × Nat),R.es[i]? = some e->e.caller = some c->lv e->∃ ce,R.es[c.1]? = some ce/\ce.ph = .waits c.2.1 c.2.2/\ce.asked = some i
def NL (R:Run) (k:Nat):Prop:=∀ (i:Nat) (e:Er) (c:Nat × Nat × Nat),R.es[i]? = some e->e.caller = some c->c.1 = k->¬ lv e
def QS (R R':Run) (k:Nat):Prop:=∀ (i:Nat) (e':Er),R'.es[i]? = some e'->e'.ph.isS = true->(∃ e,R.es[i]? = some e/\e.ph = e'.ph/\e.stood = e'.stood)\/(e'.stood = some k/\∃ e a t,R.es[i]? = some e/\e.ph = .waits a t)
structure Inv' (n:Net) (R:Run):Prop where
 ri:RI n R
 wt:WT R
theorem zcI (he:R.es[i]? = some e) (e':Er):(R.setE i e').es[i]? = some e':=by
 show (R.es.set i _)[i]? = _
 rw [Qc,QA rfl,QA (Qz.mp he).1]
theorem zeH (h:j ≠ i):(R.setE i e').es[j]? = R.es[j]?:=by
 show (R.es.set i _)[j]? = _
 rw [Qc,QB (Ne.symm h)]
theorem WT.setE (h:WT R) (he:R.es[i]? = some e) (h2:e'.caller = e.caller) (hv:lv e'->lv e) (nl:NL R i):WT (R.setE i e'):=by
 intro j q c hq hc lq
 have key:∀ q0,R.es[j]? = some q0->q0.caller = some c->lv q0->∃ ce,(R.setE i e').es[c.1]? = some ce/\ce.ph = .waits c.2.1 c.2.2/\ce.asked = some j:=fun q0 h0 hc0 l0=>by
  obtain ⟨ce,c1,c2,c3⟩:=h j q0 c h0 hc0 l0
  have:c.1 ≠ i:=fun z=>nl j q0 c h0 hc0 z l0
  exact ⟨ce,by rw [zeH this];exact c1,c2,c3⟩
 rcases y4 hq with ⟨rfl,rfl,_⟩ | ⟨_,hq⟩
 ·exact key e he (by rw [← h2];exact hc) (hv lq)
 ·exact key q hq hc lq
theorem RI.push (h:RI n R) {hh:Nat} {c:Option (Nat × Nat × Nat)} (h1:hh < n.hs.length) (hc:∀ c',c = some c'->∃ ce,R.es[c'.1]? = some ce/\ce.house < hh/\c'.2.1 < (n.asks ce.house).length):RI n (R.push (yq hh c)):=by
 have old:∀ {j:Nat} {q:Er},(R.push (yq hh c)).es[j]? = some q->(R.es[j]? = some q)\/(j = R.es.length/\q = yq hh c):=fun {j q} hq=>by
  replace hq:(R.es ++ [yq hh c])[j]? = some q:=hq
  by_cases z:j < R.es.length
  ·rw [Q6 z] at hq;exact .inl hq
  ·rw [Q8 (by omega)] at hq
   have:j - R.es.length = 0:=by
    have:=(Qz.mp hq).1
    simp at this
    omega
   rw [this] at hq
   cases hq
   exact .inr ⟨by omega,rfl⟩
 have fwd:∀ {j:Nat} {q:Er},R.es[j]? = some q->(R.push (yq hh c)).es[j]? = some q:=fun {j q} hq=>by
  show (R.es ++ _)[j]? = _
  rw [Q6 (Qz.mp hq).1];exact hq
 refine ⟨fun j q hq=>?_,fun j q c' hq hc'=>?_,fun j q hq=>?_,h.pl⟩
 ·rcases old hq with hq | ⟨_,rfl⟩
  ·exact h.hs _ _ hq
  ·exact h1
 ·rcases old hq with hq | ⟨rfl,rfl⟩
  ·obtain ⟨a,ce,b1,b2,b3⟩:=h.cl _ _ _ hq hc'
   exact ⟨a,ce,fwd b1,b2,b3⟩
  ·obtain ⟨ce,b1,b2,b3⟩:=hc c' hc'
   exact ⟨(Qz.mp b1).1,ce,fwd b1,b2,b3⟩
 ·rcases old hq with hq | ⟨_,rfl⟩
  ·exact h.ph _ _ hq
  ·exact True.intro
theorem zd5 {x:Er} (hq:(R.push x).es[j]? = some q):R.es[j]? = some q\/(j = R.es.length/\q = x):=by
 replace hq:(R.es ++ [x])[j]? = some q:=hq
 by_cases z:j < R.es.length
 ·rw [Q6 z] at hq;exact .inl hq
 ·rw [Q8 (by omega)] at hq
  have:j - R.es.length = 0:=by
   have:=(Qz.mp hq).1
   simp at this
   omega
  rw [this] at hq
  cases hq
  exact .inr ⟨by omega,rfl⟩
theorem zd6 {x:Er} (hq:R.es[j]? = some q):(R.push x).es[j]? = some q:=by
 show (R.es ++ _)[j]? = _
 rw [Q6 (Qz.mp hq).1];exact hq
theorem RI.share (h:RI n R) (a:Ask) (tr x:Nat):RI n (R.share n a tr x):=by
 obtain ⟨s1,s2,_⟩:=yZ R n a tr x
 exact ⟨by rw [s1];exact h.hs,by rw [s1];exact h.cl,by rw [s1];exact h.ph,by rw [s2];exact h.pl⟩
def Old (R R':Run):Prop:=R.es.length<=R'.es.length/\R'.came = R.came/\(∀ (i:Nat) (e:Er),R.es[i]? = some e->R'.es[i]? = some e)/\∀ (i:Nat) (e:Er),R'.es[i]? = some e->R.es.length<=i->e.ph.isS = false
theorem zb4 {num tr:Nat} {a:Ask} (he:R.es[num]? = some e) (ha:(n.asks e.house)[at']? = some a):qP n g R num at' tr = g ((R.setE num { e with ph:=.waits at' tr,asked:=some R.es.length }).share n a tr R.es.length) (n.hix a.to) (some (num,at',tr)):=by
 unfold qP
 rw [he]
 dsimp only
 rw [ha]
theorem WT.share (h:WT R) (a:Ask) (tr x:Nat):WT (R.share n a tr x):=by
 intro i e c
 rw [(yZ R n a tr x).1]
 exact h i e c
theorem zgU (wn:WN n):∀ (f:Nat) {R:Run} {h:Nat} {c:Option (Nat × Nat × Nat)} {B:Nat},n.hs.length<=h + f->RI n R->WT R->SB B R->h < n.hs.length->
  (∀ c',c = some c'->∃ ce,R.es[c'.1]? = some ce/\ce.house < h/\c'.2.1 < (n.asks ce.house).length/\ce.ph = .waits c'.2.1 c'.2.2/\ce.asked = some R.es.length)->
  RI n (zA n f R h c)/\WT (zA n f R h c)/\SB (B + 2 * f) (zA n f R h c)/\Old R (zA n f R h c)
 | 0,R,h,c,B,hf,_,_,_,hh,_=>absurd hh (by omega)
 | f + 1,R,h,c,B,hf,ri,wt,sb,hh,hc=>by
  have ri1:RI n (R.push (yq h c)):=ri.push hh fun c' z=>by obtain ⟨ce,a1,a2,a3,_⟩:=hc c' z;exact ⟨ce,a1,a2,a3⟩
  have wt1:WT (R.push (yq h c)):=fun i e c' he hc' l=>by
   rcases zd5 he with he | ⟨rfl,rfl⟩
   ·obtain ⟨ce,a1,a2,a3⟩:=wt i e c' he hc' l
    exact ⟨ce,zd6 a1,a2,a3⟩
   ·obtain ⟨ce,a1,_,_,a4,a5⟩:=hc c' hc'
    exact ⟨ce,zd6 a1,a4,a5⟩
  have od1:Old R (R.push (yq h c)):=⟨by simp [Run.push],rfl,fun i e he=>zd6 he,fun i e he hi=>by
   rcases zd5 he with he | ⟨rfl,rfl⟩
   ·exact absurd (Qz.mp he).1 (by omega)
   ·rfl⟩
  by_cases h0:n.asks h = []
  ·have e1:zA n (f + 1) R h c = R.push (yq h c):=by unfold zA;rw [QA h0]
   rw [e1]
   exact ⟨ri1,wt1,(sb.push _).mono (by omega),od1⟩
  ·have e1:zA n (f + 1) R h c = qP n (zA n f) (R.push (yq h c)) R.es.length 0 1:=by rw [zA,QB h0]
   obtain ⟨a,as,hq⟩:=List.exists_cons_of_ne_nil h0
   have ha:(n.asks (yq h c).house)[0]? = some a:=by show (n.asks h)[0]? = _;rw [hq];rfl
   have w:=wn.as h a (by rw [hq];exact .head _)
   rw [e1,zb4 (zW R _) ha]
   have len1:(R.push (yq h c)).es.length = R.es.length + 1:=by simp [Run.push]
   have nl:NL (R.push (yq h c)) R.es.length:=fun i e c' he hc' z=>by
    have:=(ri1.cl i e c' he hc').1
    have:=(Qz.mp he).1
    omega
   have ri2:RI n ((R.push (yq h c)).setE R.es.length { yq h c with ph:=.waits 0 1,asked:=some (R.push (yq h c)).es.length }):=ri1.setE (zW R _) rfl rfl (show 0 < (n.asks h).length/\1<=1 from ⟨by rw [hq];simp,Q3 _⟩)
   have wt2:WT ((R.push (yq h c)).setE R.es.length { yq h c with ph:=.waits 0 1,asked:=some (R.push (yq h c)).es.length }):=wt1.setE (zW R _) rfl (fun _=>⟨rfl,rfl⟩) nl
   have sb2:=((sb.push (yq h c)).setE R.es.length { yq h c with ph:=.waits 0 1,asked:=some (R.push (yq h c)).es.length }).share n a 1 (R.push (yq h c)).es.length
   obtain ⟨s1,s2,s3,s4,s5⟩:=yZ ((R.push (yq h c)).setE R.es.length { yq h c with ph:=.waits 0 1,asked:=some (R.push (yq h c)).es.length }) n a 1 (R.push (yq h c)).es.length
   obtain ⟨r1,r2,r3,r4⟩:=zgU wn f (h:=n.hix a.to) (c:=some (R.es.length,0,1)) (by have:=w.up;omega) (ri2.share a 1 _) (wt2.share a 1 _) sb2 w.lt (fun c' z=>by
    cases z
    rw [s1]
    refine ⟨_,zcI (zW R _) _,w.up,?_,rfl,?_⟩
    ·show 0 < (n.asks h).length
     rw [hq];simp
    ·show some (R.push (yq h c)).es.length = some (List.length (List.set _ _ _))
     rw [length_set])
   refine ⟨r1,r2,r3.mono (by omega),?_,?_,fun i e he=>?_,fun i e he hi=>?_⟩
   ·have l2:((R.push (yq h c)).setE R.es.length { yq h c with ph:=.waits 0 1,asked:=some (R.push (yq h c)).es.length }).es.length = R.es.length + 1:=by simp [Run.setE,Run.push]
    have:=r4.1
    rw [s1,l2] at this
    exact Qj (Nat.le_succ _) this
   ·rw [r4.2.1,s5];rfl
   ·refine r4.2.2.1 i e ?_
    rw [s1,zeH (by have:=(Qz.mp he).1;omega)]
    exact zd6 he
   ·by_cases z:i < R.es.length + 1
    ·have hi':i = R.es.length:=by omega
     subst hi'
     have:=r4.2.2.1 R.es.length { yq h c with ph:=.waits 0 1,asked:=some (R.push (yq h c)).es.length } (by rw [s1];exact zcI (zW R _) _)
     rw [he] at this
     cases this
     rfl
    ·exact r4.2.2.2 i e he (by rw [s1];simp [Run.setE,Run.push];omega)
theorem zjm (wn:WN n) {num tr:Nat} (ri:RI n R) (wt:WT R) (sb:SB B R) (he:R.es[num]? = some e) (hat:at' < (n.asks e.house).length) (hl:e.ph.isE = false) (nl:NL R num) (htr:1<=tr) :
  RI n (qP n (zA n 4) R num at' tr)/\WT (qP n (zA n 4) R num at' tr)/\SB (B + 9) (qP n (zA n 4) R num at' tr)/\R.es.length<=(qP n (zA n 4) R num at' tr).es.length/\(qP n (zA n 4) R num at' tr).came = R.came /\
   (∀ (i:Nat) (q:Er),R.es[i]? = some q->i ≠ num->(qP n (zA n 4) R num at' tr).es[i]? = some q)/\QS R (qP n (zA n 4) R num at' tr) R.came:=by
 have ha:(n.asks e.house)[at']? = some (n.asks e.house)[at']:=Q0 hat
 have w:=wn.as e.house _ (Qa ha)
 rw [zb4 he ha]
 have ri2:RI n (R.setE num { e with ph:=.waits at' tr,asked:=some R.es.length }):=ri.setE he rfl rfl (show at' < (n.asks e.house).length/\1<=tr from ⟨hat,htr⟩)
 have wt2:WT (R.setE num { e with ph:=.waits at' tr,asked:=some R.es.length }):=wt.setE he rfl (fun z=>⟨z.1,hl⟩) nl
 obtain ⟨s1,s2,s3,s4,s5⟩:=yZ (R.setE num { e with ph:=.waits at' tr,asked:=some R.es.length }) n (n.asks e.house)[at'] tr R.es.length
 have sb2:=(sb.setE num { e with ph:=.waits at' tr,asked:=some R.es.length }).share n (n.asks e.house)[at'] tr R.es.length
 obtain ⟨r1,r2,r3,r4⟩:=zgU wn 4 (h:=n.hix (n.asks e.house)[at'].to) (c:=some (num,at',tr)) (by have:=wn.hl;omega) (ri2.share _ tr _) (wt2.share _ tr _) sb2 w.lt (fun c' z=>by
  cases z
  rw [s1]
  refine ⟨_,zcI he _,w.up,hat,rfl,?_⟩
  show some R.es.length = some (List.length (List.set _ _ _))
  rw [length_set])
 have ol:∀ (i:Nat) (q:Er),R.es[i]? = some q->i ≠ num->(zA n 4 ((R.setE num { e with ph:=.waits at' tr,asked:=some R.es.length }).share n (n.asks e.house)[at'] tr R.es.length) (n.hix (n.asks e.house)[at'].to) (some (num,at',tr))).es[i]? = some q:=fun i q hq hi=>r4.2.2.1 i q (by rw [s1,zeH hi];exact hq)
 refine ⟨r1,r2,r3.mono (by omega),?_,by rw [r4.2.1,s5];rfl,ol,fun i e' h' hs=>?_⟩
 ·have l2:(R.setE num { e with ph:=.waits at' tr,asked:=some R.es.length }).es.length = R.es.length:=by simp [Run.setE]
  have:=r4.1
  rw [s1,l2] at this
  exact this
 ·by_cases z:i < R.es.length
  ·by_cases hi:i = num
   ·subst hi
    have:=r4.2.2.1 i { e with ph:=.waits at' tr,asked:=some R.es.length } (by rw [s1];exact zcI he _)
    rw [h'] at this
    cases this
    cases hs
   ·have hq:R.es[i]? = some R.es[i]:=Q0 z
    have:=ol i _ hq hi
    rw [h'] at this
    cases this
    exact .inl ⟨_,hq,rfl,rfl⟩
  ·have:=r4.2.2.2 i e' h' (by rw [s1];simp [Run.setE];omega)
   rw [hs] at this
   cases this
end My
namespace My
open PySem L2 FT
variable {n:Net}
structure Res (n:Net) (R R':Run) (B:Nat):Prop where
 ri:RI n R'
 wt:WT R'
 sb:SB B R'
 le:R.es.length<=R'.es.length
 ca:R'.came = R.came
 qs:QS R R' R.came
variable {B:Nat} {R:Run}
theorem ziu (wn:WN n) {g:Run->Nat->Str->Run} {c:Nat × Nat × Nat} {w:Str} {ce:Er} (ri:RI n R) (wt:WT R) (sb:SB B R) (he:R.es[c.1]? = some ce) (hat:c.2.1 < (n.asks ce.house).length) (hw:ce.ph = .waits c.2.1 c.2.2) (nl:NL R c.1) (hg:Res n R (g R c.1 w) (B + 9)):Res n R (yW n g R c w) (B + 9):=by
 unfold yW
 rw [he]
 dsimp only
 split
 ·rename_i h1
  obtain ⟨r1,r2,r3,r4,r5,_,r7⟩:=zjm wn (tr:=1) ri wt sb he h1.2 (by rw [hw];rfl) nl (Q3 _)
  exact ⟨r1,r2,r3,r4,r5,r7⟩
 ·split
  ·exact hg
  ·have h1:1<=c.2.2:=by have:=ri.ph _ _ he;unfold zcF at this;rw [hw] at this;exact this.2
   refine ⟨ri.setE he rfl rfl (show c.2.1 < (n.asks ce.house).length/\(some R.came).isSome = true/\1<=c.2.2 from ⟨hat,rfl,h1⟩),wt.setE he rfl (fun z=>⟨z.1,by rw [hw];rfl⟩) nl,(sb.setE _ _).mono (by omega),by simp [Run.setE],rfl,fun i e' h' hs=>?_⟩
   rcases y4 h' with ⟨rfl,rfl,_⟩ | ⟨_,h'⟩
   ·exact .inr ⟨rfl,ce,_,_,he,hw⟩
   ·exact .inl ⟨e',h',rfl,rfl⟩
theorem ze9 (wn:WN n):∀ (f:Nat) {R:Run} {i:Nat} {w:Str} {e:Er} {B:Nat},RI n R->WT R->SB B R->R.es[i]? = some e->e.house < f->e.ph.isE = false->NL R i->Res n R (zN n f R i w) (B + 9)
 | 0,R,i,w,e,B,_,_,_,_,hf,_,_=>absurd hf (by omega)
 | f + 1,R,i,w,e,B,ri,wt,sb,he,hf,hl,nl=>by
  have ri1:RI n (R.setE i { e with ph:=.ended w }):=ri.setE he rfl rfl True.intro
  have wt1:WT (R.setE i { e with ph:=.ended w }):=wt.setE he rfl (fun z=>absurd z.2 (by show ¬ true = false;simp)) nl
  have back:∀ {j:Nat} {q:Er},(R.setE i { e with ph:=.ended w }).es[j]? = some q->q.ph.isE = false->R.es[j]? = some q:=fun {j q} hq hE=>by
   rcases y4 hq with ⟨rfl,rfl,_⟩ | ⟨_,hq⟩
   ·cases hE
   ·exact hq
  have stop:Res n R (R.setE i { e with ph:=.ended w }) (B + 9):=⟨ri1,wt1,(sb.setE _ _).mono (by omega),by simp [Run.setE],rfl,fun j e' h' hs=>by
   rcases y4 h' with ⟨rfl,rfl,_⟩ | ⟨_,h'⟩
   ·cases hs
   ·exact .inl ⟨e',h',rfl,rfl⟩⟩
  unfold zN
  rw [he]
  dsimp only
  cases q:e.caller with
  | none=>rw [q] at stop;exact stop
  | some c=>
   dsimp only
   cases ql:e.lost with
   | true=>rw [QA rfl];rw [q,ql] at stop;exact stop
   | false=>
    rw [QB (by simp)]
    have es:({ e with ph:=.ended w }:Er) = { house:=e.house,caller:=some c,ph:=.ended w,lost:=false,asked:=e.asked,stood:=e.stood }:=by rw [← q,← ql]
    rw [← es]
    obtain ⟨ce,c1,c2,c3⟩:=wt i e c he q ⟨ql,hl⟩
    obtain ⟨d1,ce',d2,d3,d4⟩:=ri.cl i e c he q
    rw [c1] at d2
    cases d2
    have hne:c.1 ≠ i:=by omega
    have c1':(R.setE i { e with ph:=.ended w }).es[c.1]? = some ce:=by rw [zeH hne];exact c1
    have nl1:NL (R.setE i { e with ph:=.ended w }) c.1:=fun j e' cc h' hc' z l'=>by
     have h2:=back h' l'.2
     obtain ⟨x,x1,x2,x3⟩:=wt j e' cc h2 hc' l'
     rw [z,c1] at x1
     cases x1
     rw [c3] at x3
     cases x3
     rw [zcI he] at h'
     cases h'
     cases l'.2
    have hend:=ze9 wn f (w:=w) ri1 wt1 (sb.setE _ _) c1' (by omega) (by rw [c2];rfl) nl1
    have hh:=ziu wn (w:=w) ri1 wt1 (sb.setE _ _) c1' d4 c2 nl1 hend
    refine ⟨hh.ri,hh.wt,hh.sb,by have:=hh.le;simp [Run.setE] at this;exact this,hh.ca,fun j e' h' hs=>?_⟩
    rcases hh.qs j e' h' hs with ⟨e1,a1,a2,a3⟩ | ⟨a1,e1,a,t,a2,a3⟩
    ·exact .inl ⟨e1,back a1 (by rw [a2];cases z:e'.ph <;> rw [z] at hs <;> first | rfl | cases hs),a2,a3⟩
    ·exact .inr ⟨a1,e1,a,t,back a2 (by rw [a3];rfl),a3⟩
variable {e:Er} {i:Nat}
theorem zgn (wt:WT R) (he:R.es[i]? = some e) (hn:∀ a t,e.ph ≠ .waits a t):NL R i:=fun j e' c h' hc z l=>by
 obtain ⟨ce,a1,a2,_⟩:=wt j e' c h' hc l
 rw [z,he] at a1
 cases a1
 exact hn _ _ a2
noncomputable def EvC (n:Net) (R:Run):Evt->Prop
 | .fresh=>True
 | .ends i _=>∃ e,R.es[i]? = some e/\e.ph.isW = true
 | .lost i=>∃ e c,R.es[i]? = some e/\e.caller = some c/\lv e
 | .again i=>∃ e,R.es[i]? = some e/\e.ph.isS = true/\zae n e = true
 | .up i=>∃ e,R.es[i]? = some e/\e.ph.isS = true
variable {ev:Evt}
theorem zgS (he:R.es[i]? = some e) (h:ev ∈ zbm n R i):ev.isF = false/\ev.num = i/\EvC n R ev:=by
 have h:=(mem_filter.mp h).1
 unfold zaN at h
 rw [zag he] at h
 simp only [mem_append] at h
 rcases h with ((h | h) | h) | h
 ·split at h
  ·rename_i q
   simp only [QD,not_mem_nil,or_false] at h
   rcases h with rfl | rfl | rfl <;> exact ⟨rfl,rfl,e,he,q⟩
  ·cases h
 ·split at h
  ·rename_i q
   rw [QI.mp h]
   unfold zcT at q
   split at q
   ·cases q
   ·rename_i c hc
    rw [Qs] at q
    have q1:=q.1
    refine ⟨rfl,rfl,e,c,he,hc,?_,?_⟩
    ·cases z:e.lost with
     | false=>rfl
     | true=>rw [z] at q1;cases q1
    ·cases z:e.ph.isE with
     | false=>rfl
     | true=>rw [z,Bool.or_true] at q1;cases q1
  ·cases h
 ·split at h
  ·rename_i q
   rw [QI.mp h]
   have q':=q
   unfold zae at q'
   rw [Qs] at q'
   exact ⟨rfl,rfl,e,he,q'.1,q⟩
  ·cases h
 ·split at h
  ·rename_i q
   rw [QI.mp h]
   exact ⟨rfl,rfl,e,he,q⟩
  ·cases h
theorem EvC.ok (h:EvC n R ev):zqJ R ev:=by
 cases ev with
 | fresh=>exact True.intro
 | ends i w=>obtain ⟨e,a,_⟩:=h;exact ⟨e,a⟩
 | lost i=>obtain ⟨e,c,a,b,_⟩:=h;exact ⟨e,c,a,b⟩
 | again i=>obtain ⟨e,a,b,_⟩:=h;exact ⟨e,a,b⟩
 | up i=>exact h
theorem zqw (wn:WN n) (ri:RI n R) (wt:WT R) (sb:SB B R) (hc:EvC n R ev):Res n R (doR n R ev) (B + 10):=by
 have up10:∀ {R':Run},Res n R R' (B + 9)->Res n R R' (B + 10):=fun h=>⟨h.ri,h.wt,h.sb.mono (by omega),h.le,h.ca,h.qs⟩
 cases ev with
 | fresh=>
  obtain ⟨r1,r2,r3,r4⟩:=zgU wn 4 (h:=0) (c:=none) (by have:=wn.hl;omega) ri wt sb wn.h1 (fun c' z=>by cases z)
  refine ⟨r1,r2,r3.mono (by omega),r4.1,r4.2.1,fun i e' h' hs=>?_⟩
  by_cases z:i < R.es.length
  ·have hq:R.es[i]? = some R.es[i]:=Q0 z
   have:=r4.2.2.1 i _ hq
   rw [show doR n R .fresh = zA n 4 R 0 none from rfl,this] at h'
   cases h'
   exact .inl ⟨_,hq,rfl,rfl⟩
  ·have:=r4.2.2.2 i e' h' (by omega)
   rw [hs] at this
   cases this
 | ends i w=>
  obtain ⟨e,he,hw⟩:=hc
  have hp:e.ph = .works:=by
   cases q:e.ph with
   | works=>rfl
   | _=>rw [q] at hw;cases hw
  exact up10 (ze9 wn 4 ri wt sb he (by have:=ri.hs _ _ he;have:=wn.hl;omega) (by rw [hp];rfl) (zgn wt he fun a t z=>by rw [hp] at z;cases z))
 | up i=>
  obtain ⟨e,he,hs⟩:=hc
  exact up10 (ze9 wn 4 ri wt sb he (by have:=ri.hs _ _ he;have:=wn.hl;omega) (by cases q:e.ph <;> rw [q] at hs <;> first | rfl | cases hs) (zgn wt he fun a t z=>by rw [z] at hs;cases hs))
 | again i=>
  obtain ⟨e,he,hs,_⟩:=hc
  show Res n R (za6 n R i) _
  unfold za6
  rw [zag he]
  have te:=zc0 R (n.pof (n.ask e.house e.ph.at1))
  have ri1:RI n (takeO R (n.pof (n.ask e.house e.ph.at1))):=⟨by rw [te.1];exact ri.hs,by rw [te.1];exact ri.cl,by rw [te.1];exact ri.ph,by rw [te.2.1];exact ri.pl⟩
  have wt1:WT (takeO R (n.pof (n.ask e.house e.ph.at1))):=by intro j q c;rw [te.1];exact wt j q c
  have nl1:NL (takeO R (n.pof (n.ask e.house e.ph.at1))) i:=by intro j q c;rw [te.1];exact zgn wt he (fun a t z=>by rw [z] at hs;cases hs) j q c
  obtain ⟨r1,r2,r3,r4,r5,_,r7⟩:=zjm wn (at':=e.ph.at1) (tr:=e.ph.at2 + 1) ri1 wt1 (sb.takeO _) (by rw [te.1];exact he) (zcq hs (ri.ph _ _ he)) (by cases q:e.ph <;> rw [q] at hs <;> first | rfl | cases hs) nl1 (by omega)
  refine ⟨r1,r2,r3.mono (by omega),by rw [te.1] at r4;exact r4,by rw [r5,te.2.2],?_⟩
  intro j e' h' hs'
  have:=r7 j e' h' hs'
  rw [te.1,te.2.2] at this
  exact this
 | lost i=>
  obtain ⟨e,c,he,hq,hlv⟩:=hc
  show Res n R (zas n R i) _
  have e0:zas n R i = yW n (zN n 4) (R.setE i { e with lost:=true }) c "bad":=by
   have el:∀ (o:Option (Nat × Nat × Nat)) (f:Nat × Nat × Nat->Run),o = some c->o.elim R f = f c:=fun o f h=>by rw [h];rfl
   unfold zas
   rw [zag he]
   exact el _ _ hq
  rw [e0]
  have ri1:RI n (R.setE i { e with lost:=true }):=ri.setE he rfl rfl (by have:=ri.ph _ _ he;unfold zcF at this ⊢;exact this)
  obtain ⟨ce,c1,c2,c3⟩:=wt i e c he hq hlv
  obtain ⟨d1,ce',d2,d3,d4⟩:=ri.cl i e c he hq
  rw [c1] at d2
  cases d2
  have hne:c.1 ≠ i:=by omega
  have c1':(R.setE i { e with lost:=true }).es[c.1]? = some ce:=by rw [zeH hne];exact c1
  have wt1:WT (R.setE i { e with lost:=true }):=fun j q cc h' hc' l'=>by
   have key:∀ q0,R.es[j]? = some q0->q0.caller = some cc->lv q0->∃ ce,(R.setE i { e with lost:=true }).es[cc.1]? = some ce/\ce.ph = .waits cc.2.1 cc.2.2/\ce.asked = some j:=fun q0 h0 hc0 l0=>by
    obtain ⟨x,x1,x2,x3⟩:=wt j q0 cc h0 hc0 l0
    by_cases z:cc.1 = i
    ·rw [z] at x1 ⊢
     rw [he] at x1
     cases x1
     exact ⟨_,zcI he _,x2,x3⟩
    ·exact ⟨x,by rw [zeH z];exact x1,x2,x3⟩
   rcases y4 h' with ⟨rfl,rfl,_⟩ | ⟨_,h'⟩
   ·cases l'.1
   ·exact key q h' hc' l'
  have nl1:NL (R.setE i { e with lost:=true }) c.1:=fun j e' cc h' hc' z l'=>by
   rcases y4 h' with ⟨rfl,rfl,_⟩ | ⟨hji,h'⟩
   ·cases l'.1
   ·obtain ⟨x,x1,x2,x3⟩:=wt j e' cc h' hc' l'
    rw [z,c1] at x1
    cases x1
    rw [c3] at x3
    cases x3
    exact hji rfl
  have hend:=ze9 wn 4 (w:="bad") ri1 wt1 (sb.setE _ _) c1' (by have:=ri1.hs _ _ c1';have:=wn.hl;omega) (by rw [c2];rfl) nl1
  have hh:=ziu wn (w:="bad") ri1 wt1 (sb.setE _ _) c1' d4 c2 nl1 hend
  refine ⟨hh.ri,hh.wt,hh.sb.mono (by omega),by have:=hh.le;simp [Run.setE] at this;exact this,hh.ca,fun j e' h' hs=>?_⟩
  rcases hh.qs j e' h' hs with ⟨e1,a1,a2,a3⟩ | ⟨a1,e1,a,t,a2,a3⟩
  ·rcases y4 a1 with ⟨rfl,rfl,_⟩ | ⟨_,a1⟩
   ·exact .inl ⟨e,he,a2,a3⟩
   ·exact .inl ⟨e1,a1,a2,a3⟩
  ·rcases y4 a2 with ⟨rfl,rfl,_⟩ | ⟨_,a2⟩
   ·exact .inr ⟨a1,e,a,t,he,a3⟩
   ·exact .inr ⟨a1,e1,a,t,a2,a3⟩
end My
namespace My
open PySem L2 FT
noncomputable def Run.new (n:Net):Run:=⟨0,[],n.ps.map fun _=>[],[],n.ps.map fun _=>0⟩
noncomputable def qG (n:Net) (evs:List Evt):Run:=evs.foldl (zbs n) (Run.new n)
def Can (n:Net) (R:Run) (ev:Evt):Prop:=ev.isF = true\/((∃ e,R.es[ev.num]? = some e)/\ev ∈ zbm n R ev.num)
noncomputable def VEv (n:Net):Run->List Evt->Prop
 | _,[]=>True
 | R,ev :: evs=>Can n R ev/\VEv n (zbs n R ev) evs
variable {ev:Evt} {n:Net} {R:Run}
theorem Can.c (h:Can n R ev):EvC n R ev:=by
 rcases h with h | ⟨⟨e,he⟩,hm⟩
 ·cases ev with
  | fresh=>exact True.intro
  | _=>cases h
 ·exact (zgS he hm).2.2
structure Good (n:Net) (R:Run) (B:Nat):Prop where
 ri:RI n R
 wt:WT R
 sb:SB B R
 sd:∀ (i:Nat) (e:Er) (k:Nat),R.es[i]? = some e->e.ph.isS = true->e.stood = some k->k < R.came
theorem zmv (n:Net):Good n (Run.new n) 0:=⟨⟨fun i e h=>by simp [Run.new] at h,fun i e c h=>by simp [Run.new] at h,fun i e h=>by simp [Run.new] at h,by simp [Run.new]⟩,fun i e c h=>by simp [Run.new] at h,⟨Q3 _,fun u hu=>by
 obtain ⟨_,_,rfl⟩:=mem_map.mp hu
 exact Q3 _,Q3 _,fun v hv=>by
 obtain ⟨_,_,rfl⟩:=mem_map.mp hv
 exact Q3 _⟩,fun i e k h=>by simp [Run.new] at h⟩
variable {B:Nat}
theorem zlm (wn:WN n) (g:Good n R B) (hc:Can n R ev):Good n (zbs n R ev) (B + 10):=by
 have r:=zqw wn g.ri g.wt g.sb hc.c
 exact ⟨⟨r.ri.hs,r.ri.cl,r.ri.ph,r.ri.pl⟩,r.wt,⟨r.sb.es,r.sb.pu,r.sb.py,r.sb.tk⟩,fun i e k he hs hk=>by
  show k < (doR n R ev).came + 1
  rw [r.ca]
  rcases r.qs i e he hs with ⟨e1,a1,a2,a3⟩ | ⟨a1,_⟩
  ·have:=g.sd i e1 k a1 (by rw [a2];exact hs) (by rw [a3];exact hk)
   omega
  ·rw [a1] at hk
   cases hk
   omega⟩
variable {kE kR:Addr} {l:Lay} {M:Mem} {r:Nat}
section
variable {b:Nat}
theorem zpA {G:Gd} {bd:FT.T->FT.Ev->Mem->Out FT.Ev} {el:FT.Ev->Mem->Out FT.T} {M:Mem} {α:Type} {r:α->FT.T} (hG:zaZ G M) (I:FT.Ev->Prop) (f:α->FT.T):∀ {xs:List α} {σ:FT.Ev} {acc:List FT.T},I σ->acc.length + xs.length<=100000->
  (∀ x σ,x ∈ xs->I σ->∃ σ1,bd (r x) σ M = .ok σ1 M/\I σ1/\el σ1 M = .ok (f x) M)->zM G bd qM el (xs.map r) σ M acc = .ok (acc ++ xs.map f) M
 | [],σ,acc,_,_,_=>by simp [zM,zcs hG]
 | x :: xs,σ,acc,h,hl,t=>by
  obtain ⟨σ1,e1,h1,e2⟩:=t x σ (.head _) h
  rw [Qp] at hl
  have ih:=zpA hG I f (xs:=xs) (σ:=σ1) (acc:=acc ++ [f x]) h1 (by rw [Qn,Qp,length_nil];omega) (fun y σ hy=>t y σ (.tail _ hy))
  rw [QG]
  unfold zM
  rw [zcs hG,e1]
  show ((el σ1 M).bind _) = _
  rw [e2]
  show (if acc.length < sizeLine then zM G bd qM el (xs.map r) σ1 M (acc ++ [f x]) else .bad) = _
  rw [QA (by rw [sizeLine_eq];omega),ih]
  simp
theorem zc7 {a:Nat} {xs:List FT.T} (h:M[a]? = some (.lst xs)):zd7 (.ref a) M = some (xs,[(a,xs)]):=by
 show (match M[a]? with | some (.lst xs)=>some (xs,[(a,xs)]) | _=>none) = _
 rw [h]
noncomputable def erT (e:Er):FT.T:=.tup [nT e.house,clT e.caller,phT e.ph]
noncomputable def tdT (p:Int × Int):FT.T:=.tup [.int p.1,.int p.2]
noncomputable def zfR (n:Net) (R:Run):FT.T:=.tup [.lst (R.es.map erT),.lst ((List.range n.ps.length).map fun k=>tdT (R.told n k))]
theorem zj6 (h:RunAt kE kR (qf n) b r l M R) (wn:WN n) (ri:RI n R) (hB:B < 90000) (sb:SB B R):zct kE kR [.ref r] M = .ok (zfR n R) M:=by
 unfold zct zg5
 have zp:l.es.map FT.T.ref = (List.zip l.es R.es).map fun q=>FT.T.ref q.1:=by
  rw [show (fun q:Nat × Er=>FT.T.ref q.1) = FT.T.ref ∘ Prod.fst from rfl,← map_map,List.map_fst_zip (by rw [h.el];exact Q3 _)]
 have z2:R.es.map erT = (List.zip l.es R.es).map fun q=>erT q.2:=by
  rw [show (fun q:Nat × Er=>erT q.2) = erT ∘ Prod.snd from rfl,← map_map,List.map_snd_zip (by rw [h.el];exact Q3 _)]
 have c1:=zpA (G:=[(l.a,l.es.map FT.T.ref)]) (bd:=yn 0) (el:=yD (zb (ym [kE] "house" (yb 0)) (zb (ym [kE] "caller" (yb 0)) (zb (ym [kE] "state" (yb 0)) zd)))) (M:=M) (r:=fun q:Nat × Er=>FT.T.ref q.1) (zcb h.er) (fun σ=>∃ o,σ = [o]) (fun q=>erT q.2) (xs:=List.zip l.es R.es) (σ:=[none]) (acc:=[]) ⟨_,rfl⟩ (by rw [length_nil,List.length_zip,h.el,Nat.min_self];have:=sb.es;omega) (by
  rintro ⟨x,e⟩ σ hx ⟨o,rfl⟩
  obtain ⟨i,hi⟩:=mem_iff_getElem?.mp hx
  have hxe:l.es[i]? = some x/\R.es[i]? = some e:=by
   rw [List.getElem?_zip_eq_some] at hi
   exact hi
  obtain ⟨x',hx',hc⟩:=h.at_e hxe.2
  rw [hxe.1] at hx'
  cases hx'
  refine ⟨[some (.ref x)],rfl,⟨_,rfl⟩,?_⟩
  have f1:=zJ (f:="house") hc rfl
  have f2:=zJ (f:="caller") hc rfl
  have f3:=zJ (f:="state") hc rfl
  simp_arith [ym,f1,f2,f3]
  rfl)
 rw [nil_append,← zp,← z2] at c1
 have rg:zd3 [.int ((n.ps.map puT).length:Int)] M = .ok ((rgI n.ps.length).map .int) M:=by
  rw [za9 (by rw [Qh];have:=wn.pl;omega),Qh,QH]
 have c2:yz (yn 0) qM (ze (qT kE kR) (zb (yb 1) (zb (yb 0) zd))) ((rgI n.ps.length).map .int) [none,some (.ref r)] M [] = .ok ((List.range n.ps.length).map fun k=>tdT (R.told n k)) M:=by
  rw [show (rgI n.ps.length).map FT.T.int = (List.range n.ps.length).map nT by unfold rgI;rw [map_map];rfl]
  exact Ok.mapc (r:=nT) (fun σ=>∃ o,σ = [o,some (.ref r)]) _ ⟨_,rfl⟩ (by rw [length_range];have:=wn.pl;omega) (by
   rintro k σ hk ⟨o,rfl⟩
   refine ⟨[some (nT k),some (.ref r)],rfl,⟨_,rfl⟩,?_⟩
   simp_arith [zjo h wn ri.pl (mem_range.mp hk)]
   rfl)
 have hnt:=h.net
 unfold qf at hnt
 simp_arith [ym,h.errands,zau,zc7 h.er,yY,c1,hnt,rg,c2]
 rfl
end
variable {evs:List Evt} {M' X:Mem}
section
theorem zjF (M X:Mem) (c:Cell):(M ++ (c :: X))[M.length]? = some c:=by
 rw [Q8 (Q3 _),Qv];rfl
theorem zgL (M X:Mem) (c d:Cell):(M ++ (c :: X)).set M.length d = M ++ (d :: X):=by
 rw [set_append_right _ _ (Q3 _),Qv];rfl
theorem zeC {c d:Cell} {i:Nat} (h:X[i]? = some d):(M ++ (c :: X))[M.length + 1 + i]? = some d:=by
 rw [Q8 (by omega),show M.length + 1 + i - M.length = i + 1 by omega,getElem?_cons_succ];exact h
theorem setM {fs fs':List (Str × FT.T)} {f:Str} {y:FT.T} (e:zc6 f y fs = fs') (hl:fs.length < 1000):zaS [kR] f (.ref M.length) y (M ++ (.ins kR fs :: X)) = .ok () (M ++ (.ins kR fs' :: X)):=by
 rw [za7 (zjF M X _) e hl,zgL]
noncomputable def puA (b p:Nat):List Nat:=(List.range p).map fun j=>b + 2 + j
noncomputable def newX (n:Net) (b:Nat):Mem:=(.lst [] :: List.replicate n.ps.length (.lst [])) ++ [.lst ((puA b n.ps.length).map .ref)] ++ [.lst []] ++ [.lst ((n.ps.map fun _=>0).map nT)]
noncomputable def zcG (n:Net) (b:Nat):Lay:=⟨b + 1,b + 2 + n.ps.length,b + 3 + n.ps.length,b + 4 + n.ps.length,[],puA b n.ps.length⟩
theorem znM (M:Mem):RunAt kE kR (qf n) M.length M.length (zcG n M.length) (M ++ (.ins kR (zb5 (qf n) (zcG n M.length) (Run.new n)) :: newX n M.length)) (Run.new n):=by
 have pz:pzC (puA M.length n.ps.length) (n.ps.map fun _=>[]) = (List.range n.ps.length).map fun j=>(M.length + 2 + j,Cell.lst []):=by
  unfold pzC puA
  refine ext_getElem? fun i=>?_
  rw [List.getElem?_zipWith,Qb,Qb,Qb]
  by_cases z:i < n.ps.length
  ·rw [getElem?_range z,Q0 z]
   rfl
  ·rw [getElem?_eq_none (by simpa using z)]
   rfl
 have cs:cells kE kR (qf n) M.length (zcG n M.length) (Run.new n) = (M.length,.ins kR (zb5 (qf n) (zcG n M.length) (Run.new n))) :: (M.length + 1,.lst []) :: (M.length + 2 + n.ps.length,.lst ((puA M.length n.ps.length).map .ref)) :: (M.length + 3 + n.ps.length,.lst []) :: (M.length + 4 + n.ps.length,.lst ((n.ps.map fun _=>0).map nT)) :: ((List.range n.ps.length).map fun j=>(M.length + 2 + j,Cell.lst [])):=by
  rw [← pz]
  rfl
 have xl:newX n M.length = Cell.lst [] :: (List.replicate n.ps.length (Cell.lst []) ++ [.lst ((puA M.length n.ps.length).map .ref),.lst [],.lst ((n.ps.map fun _=>0).map nT)]):=by
  unfold newX
  simp
 have ap:∀ (k:Nat) (d:Cell),[Cell.lst ((puA M.length n.ps.length).map FT.T.ref),.lst [],.lst ((n.ps.map fun _=>0).map nT)][k]? = some d->(newX n M.length)[n.ps.length + 1 + k]? = some d:=fun k d h=>by
  rw [xl,show n.ps.length + 1 + k = (n.ps.length + k) + 1 by omega,getElem?_cons_succ,Q8 (by rw [length_replicate];omega),length_replicate,show n.ps.length + k - n.ps.length = k by omega]
  exact h
 refine ⟨?_,?_,?_,rfl,by simp [zcG,puA,Run.new],by simp [Run.new]⟩
 ·rw [cs]
  intro p hp
  rcases QD.mp hp with rfl | hp
  ·exact zjF _ _ _
  rcases QD.mp hp with rfl | hp
  ·exact zeC (i:=0) (by rw [xl];rfl)
  rcases QD.mp hp with rfl | hp
  ·have:=zeC (M:=M) (c:=.ins kR (zb5 (qf n) (zcG n M.length) (Run.new n))) (ap 0 _ rfl)
   rw [show M.length + 1 + (n.ps.length + 1 + 0) = M.length + 2 + n.ps.length by omega] at this
   exact this
  rcases QD.mp hp with rfl | hp
  ·have:=zeC (M:=M) (c:=.ins kR (zb5 (qf n) (zcG n M.length) (Run.new n))) (ap 1 _ rfl)
   rw [show M.length + 1 + (n.ps.length + 1 + 1) = M.length + 3 + n.ps.length by omega] at this
   exact this
  rcases QD.mp hp with rfl | hp
  ·have:=zeC (M:=M) (c:=.ins kR (zb5 (qf n) (zcG n M.length) (Run.new n))) (ap 2 _ rfl)
   rw [show M.length + 1 + (n.ps.length + 1 + 2) = M.length + 4 + n.ps.length by omega] at this
   exact this
  ·obtain ⟨j,hj,rfl⟩:=mem_map.mp hp
   have hj:=mem_range.mp hj
   have:(newX n M.length)[1 + j]? = some (.lst []):=by
    rw [xl,Nat.add_comm 1 j,getElem?_cons_succ,Q6 (by rw [length_replicate];exact hj),List.getElem?_replicate,QA hj]
   have:=zeC (M:=M) (c:=.ins kR (zb5 (qf n) (zcG n M.length) (Run.new n))) this
   rw [show M.length + 1 + (1 + j) = M.length + 2 + j by omega] at this
   exact this
 ·rw [cs]
  simp only [QG,map_map]
  have hm:∀ x,x ∈ (List.range n.ps.length).map ((fun p:Nat × Cell=>p.1) ∘ fun j=>(M.length + 2 + j,Cell.lst []))->M.length + 2<=x/\x < M.length + 2 + n.ps.length:=fun x hx=>by
   obtain ⟨j,hj,rfl⟩:=mem_map.mp hx
   have:=mem_range.mp hj
   simp only [Function.comp]
   omega
  refine nodup_cons.mpr ⟨?_,nodup_cons.mpr ⟨?_,nodup_cons.mpr ⟨?_,nodup_cons.mpr ⟨?_,nodup_cons.mpr ⟨?_,?_⟩⟩⟩⟩⟩
  ·intro z
   simp only [QD] at z
   rcases z with z | z | z | z | z
   ·omega
   ·omega
   ·omega
   ·omega
   ·have:=hm _ z;omega
  ·intro z
   simp only [QD] at z
   rcases z with z | z | z | z
   ·omega
   ·omega
   ·omega
   ·have:=hm _ z;omega
  ·intro z
   simp only [QD] at z
   rcases z with z | z | z
   ·omega
   ·omega
   ·have:=hm _ z;omega
  ·intro z
   simp only [QD] at z
   rcases z with z | z
   ·omega
   ·have:=hm _ z;omega
  ·intro z
   have:=hm _ z;omega
  ·rw [List.Nodup,List.pairwise_map]
   exact (List.nodup_range).imp fun h=>by simp only [Function.comp];omega
 ·rw [cs]
  intro p hp
  rcases QD.mp hp with rfl | hp
  ·exact Q3 _
  rcases QD.mp hp with rfl | hp
  ·exact Nat.le_succ _
  rcases QD.mp hp with rfl | hp
  ·show M.length<=M.length + 2 + n.ps.length;omega
  rcases QD.mp hp with rfl | hp
  ·show M.length<=M.length + 3 + n.ps.length;omega
  rcases QD.mp hp with rfl | hp
  ·show M.length<=M.length + 4 + n.ps.length;omega
  ·obtain ⟨j,_,rfl⟩:=mem_map.mp hp
   show M.length<=M.length + 2 + j;omega
theorem ziN:∀ (xs:List FT.T) (o:Option FT.T) (M:Mem) (acc:List FT.T),acc.length + xs.length<=100000->yz (yn 0) qM (eTk (zD zd)) xs [o] M acc = .ok (acc ++ (List.range xs.length).map fun j=>.ref (M.length + j)) (M ++ List.replicate xs.length (.lst []))
 | [],o,M,acc,_=>by simp [yz]
 | x :: xs,o,M,acc,hl=>by
  rw [Qp] at hl
  have ih:=ziN xs (some x) (M ++ [.lst []]) (acc ++ [.ref M.length]) (by rw [Qn,Qu];omega)
  unfold yz
  show (if acc.length < sizeLine then yz (yn 0) qM (eTk (zD zd)) xs [some x] (M ++ [.lst []]) (acc ++ [.ref M.length]) else .bad) = _
  rw [QA (by rw [sizeLine_eq];omega),ih]
  congr 1
  ·rw [append_assoc,Qp,List.range_succ_eq_map,QG,map_map]
   congr 1
   show FT.T.ref M.length :: _ = FT.T.ref (M.length + 0) :: _
   congr 1
   refine map_congr_left fun j _=>?_
   simp
   omega
  ·rw [Qp,replicate_succ]
   simp
theorem zjJ (wn:WN n) (M:Mem):Ok (zbe kE kR [.ref M.length,qf n] (M ++ [.ins kR []])) fun t M'=>t = .non/\M' = M ++ (.ins kR (zb5 (qf n) (zcG n M.length) (Run.new n)) :: newX n M.length):=by
 refine qB rfl ?_
 unfold zgc
 have pl:=wn.pl
 have ap:∀ (X:Mem) (c d:Cell),M ++ c :: X ++ [d] = M ++ (c :: (X ++ [d])):=fun X c d=>by simp
 have ln:∀ (X:Mem) (c:Cell),(M ++ c :: X).length = M.length + 1 + X.length:=fun X c=>by simp;omega
 have s1:=setM (kR:=kR) (M:=M) (X:=[]) (fs:=[]) (f:="net") (y:=qf n) (fs':=[("net",qf n)]) rfl (by decide)
 have s2:=setM (kR:=kR) (M:=M) (X:=[]) (fs:=[("net",qf n)]) (f:="came") (y:=.int 0) (fs':=[("net",qf n),("came",.int 0)]) rfl (by simp)
 have s3:=setM (kR:=kR) (M:=M) (X:=[.lst []]) (fs:=[("net",qf n),("came",.int 0)]) (f:="errands") (y:=.ref (M.length + 1)) (fs':=[("net",qf n),("came",.int 0),("errands",.ref (M.length + 1))]) rfl (by simp)
 have it:zb9 (eOp ixT (yb 1) (eC (.int 1))) [some (.ref M.length),some (qf n)] = fun M=>.ok (n.ps.map puT) M:=rfl
 have cp:∀ o,yz (yn 0) qM (eTk (zD zd)) (n.ps.map puT) [o] (M ++ (.ins kR [("net",qf n),("came",.int 0),("errands",.ref (M.length + 1))] :: [.lst []])) [] = .ok ((puA M.length n.ps.length).map .ref) (M ++ (.ins kR [("net",qf n),("came",.int 0),("errands",.ref (M.length + 1))] :: (.lst [] :: List.replicate n.ps.length (.lst [])))):=fun o=>by
  rw [ziN _ _ _ _ (by rw [length_nil,Qh];omega),Qh,nil_append]
  congr 1
  ·unfold puA
   rw [map_map]
   refine map_congr_left fun j _=>?_
   simp
  ·simp
 have s4:=setM (kR:=kR) (M:=M) (X:=(.lst [] :: List.replicate n.ps.length (.lst [])) ++ [.lst ((puA M.length n.ps.length).map .ref)]) (fs:=[("net",qf n),("came",.int 0),("errands",.ref (M.length + 1))]) (f:="puts") (y:=.ref (M.length + 2 + n.ps.length)) (fs':=[("net",qf n),("came",.int 0),("errands",.ref (M.length + 1)),("puts",.ref (M.length + 2 + n.ps.length))]) rfl (by simp)
 have s5:=setM (kR:=kR) (M:=M) (X:=(.lst [] :: List.replicate n.ps.length (.lst [])) ++ [.lst ((puA M.length n.ps.length).map .ref)] ++ [.lst []]) (fs:=[("net",qf n),("came",.int 0),("errands",.ref (M.length + 1)),("puts",.ref (M.length + 2 + n.ps.length))]) (f:="payments") (y:=.ref (M.length + 3 + n.ps.length)) (fs':=[("net",qf n),("came",.int 0),("errands",.ref (M.length + 1)),("puts",.ref (M.length + 2 + n.ps.length)),("payments",.ref (M.length + 3 + n.ps.length))]) rfl (by simp)
 have s6:=setM (kR:=kR) (M:=M) (X:=newX n M.length) (fs:=[("net",qf n),("came",.int 0),("errands",.ref (M.length + 1)),("puts",.ref (M.length + 2 + n.ps.length)),("payments",.ref (M.length + 3 + n.ps.length))]) (f:="taken") (y:=.ref (M.length + 4 + n.ps.length)) (fs':=zb5 (qf n) (zcG n M.length) (Run.new n)) rfl (by simp)
 have ct:∀ o M',yz (yn 0) qM (eC (.int 0)) (n.ps.map puT) [o] M' [] = .ok ((n.ps.map fun _=>0).map nT) M':=fun o M'=>by
  rw [map_map]
  exact Ok.mapc (r:=puT) (fun σ=>∃ o,σ = [o]) _ ⟨_,rfl⟩ (by omega) (by
   rintro x σ hx ⟨o,rfl⟩
   exact ⟨[some (puT x)],rfl,⟨_,rfl⟩,rfl⟩)
 have l4:(M ++ Cell.ins kR [("net",qf n),("came",.int 0),("errands",.ref (M.length + 1))] :: (.lst [] :: List.replicate n.ps.length (Cell.lst []))).length = M.length + 2 + n.ps.length:=by simp;omega
 have l5:(M ++ Cell.ins kR [("net",qf n),("came",.int 0),("errands",.ref (M.length + 1)),("puts",.ref (M.length + 2 + n.ps.length))] :: ((.lst [] :: List.replicate n.ps.length (Cell.lst [])) ++ [.lst ((puA M.length n.ps.length).map .ref)])).length = M.length + 3 + n.ps.length:=by simp;omega
 have l6:(M ++ Cell.ins kR [("net",qf n),("came",.int 0),("errands",.ref (M.length + 1)),("puts",.ref (M.length + 2 + n.ps.length)),("payments",.ref (M.length + 3 + n.ps.length))] :: ((.lst [] :: List.replicate n.ps.length (Cell.lst [])) ++ [.lst ((puA M.length n.ps.length).map .ref)] ++ [.lst []])).length = M.length + 4 + n.ps.length:=by simp;omega
 have st:∀ (f:Str) (y:FT.T) (fv:Ev->Mem->Out FT.T) (M0 M1 M2:Mem),fv [some (.ref M.length),some (qf n)] M0 = .ok y M1->zaS [kR] f (.ref M.length) y M1 = .ok () M2->qD [kR] f (yb 0) fv [some (.ref M.length),some (qf n)] M0 = .ok (.nx [some (.ref M.length),some (qf n)]) M2:=fun f y fv M0 M1 M2 h1 h2=>by
  unfold qD
  rw [h1]
  show (zaS [kR] f (.ref M.length) y M1).bind _ = _
  rw [h2]
  rfl
 refine ⟨.non,_,?_,rfl,rfl⟩
 have t1:=st "net" (qf n) (yb 1) _ _ _ rfl s1
 have t2:=st "came" (.int 0) (eC (.int 0)) _ _ _ rfl s2
 have t3:=st "errands" (.ref (M.length + 1)) (eTk (zD zd)) (M ++ (.ins kR [("net",qf n),("came",.int 0)] :: [])) _ _ (by
  show Out.ok (FT.T.ref (M ++ [Cell.ins kR [("net",qf n),("came",.int 0)]]).length) (M ++ [Cell.ins kR [("net",qf n),("came",.int 0)]] ++ [.lst []]) = .ok (.ref (M.length + 1)) (M ++ (.ins kR [("net",qf n),("came",.int 0)] :: [.lst []]))
  simp) s3
 have t4:=st "puts" (.ref (M.length + 2 + n.ps.length)) (eTk (qN (zb9 (eOp ixT (yb 1) (eC (.int 1)))) (yn 0) qM (eTk (zD zd)) ["purse"] [])) (M ++ (.ins kR [("net",qf n),("came",.int 0),("errands",.ref (M.length + 1))] :: [.lst []])) _ _ (by
  show ((yz (yn 0) qM (eTk (zD zd)) (n.ps.map puT) [none] (M ++ (.ins kR [("net",qf n),("came",.int 0),("errands",.ref (M.length + 1))] :: [.lst []])) []).bind fun ts M1=>Out.ok (FT.T.ref M1.length) (M1 ++ [Cell.lst ts])) = _
  rw [cp]
  show Out.ok (FT.T.ref (List.length _)) _ = _
  rw [l4,ap]) s4
 have t5:=st "payments" (.ref (M.length + 3 + n.ps.length)) (eTk (zD zd)) (M ++ (.ins kR [("net",qf n),("came",.int 0),("errands",.ref (M.length + 1)),("puts",.ref (M.length + 2 + n.ps.length))] :: ((.lst [] :: List.replicate n.ps.length (.lst [])) ++ [.lst ((puA M.length n.ps.length).map .ref)]))) _ _ (by
  show Out.ok (FT.T.ref (List.length _)) _ = _
  rw [l5,ap]) s5
 have t6:=st "taken" (.ref (M.length + 4 + n.ps.length)) (eTk (qN (zb9 (eOp ixT (yb 1) (eC (.int 1)))) (yn 0) qM (eC (.int 0)) ["purse"] [])) (M ++ (.ins kR [("net",qf n),("came",.int 0),("errands",.ref (M.length + 1)),("puts",.ref (M.length + 2 + n.ps.length)),("payments",.ref (M.length + 3 + n.ps.length))] :: ((.lst [] :: List.replicate n.ps.length (.lst [])) ++ [.lst ((puA M.length n.ps.length).map .ref)] ++ [.lst []]))) _ _ (by
  show ((yz (yn 0) qM (eC (.int 0)) (n.ps.map puT) [none] _ []).bind fun ts M1=>Out.ok (FT.T.ref M1.length) (M1 ++ [Cell.lst ts])) = _
  rw [ct]
  show Out.ok (FT.T.ref (List.length _)) _ = _
  rw [l6,ap]
  rfl) s6
 rw [show startT 2 [.ref M.length,qf n] = [some (.ref M.length),some (qf n)] from rfl]
 unfold zh
 rw [t1]
 show ((((qD [kR] "came" (yb 0) (eC (.int 0)) [some (.ref M.length),some (qf n)] _).bind _)).bind zcE) = _
 rw [t2]
 show ((((qD [kR] "errands" (yb 0) (eTk (zD zd)) [some (.ref M.length),some (qf n)] _).bind _)).bind zcE) = _
 rw [t3]
 show ((((qD [kR] "puts" (yb 0) _ [some (.ref M.length),some (qf n)] _).bind _)).bind zcE) = _
 rw [t4]
 show ((((qD [kR] "payments" (yb 0) _ [some (.ref M.length),some (qf n)] _).bind _)).bind zcE) = _
 rw [t5]
 show (((qD [kR] "taken" (yb 0) _ [some (.ref M.length),some (qf n)] _)).bind zcE) = _
 rw [t6]
 rfl
theorem zpv (wn:WN n) (M:Mem) {σ:Ev} (hσ:yb 0 σ = fun M=>.ok (qf n) M):∃ M',zdj kR (zbe kE kR) (zb (yb 0) zd) σ M = .ok (.ref M.length) M'/\RunAt kE kR (qf n) M.length M.length (zcG n M.length) M' (Run.new n)/\Kp M.length M M':=by
 obtain ⟨t,M',e,rfl,rfl⟩:=zjJ (kE:=kE) (kR:=kR) wn M
 refine ⟨_,?_,znM M,?_⟩
 ·unfold zdj zb zd
  rw [hσ]
  show ((zbe kE kR [.ref M.length,qf n] (M ++ [.ins kR []])).bind _) = _
  rw [e]
  rfl
 ·exact ⟨by simp,fun i hi=>Q6 hi⟩
def EvS (t:FT.T) (evs:List Evt) (M:Mem):Prop:=∃ a,t = .ref a/\M[a]? = some (.lst (evs.map evT))
theorem zdh {α β:Type} {f:β->α->β} {x:β} {xs:List α} {k:Nat} {y:α} (h:xs[k]? = some y):(xs.take (k + 1)).foldl f x = f ((xs.take k).foldl f x) y:=by
 rw [take_succ,h,List.foldl_append]
 rfl
theorem VEv.at_ {n:Net}:∀ {evs:List Evt} {R:Run} {k:Nat} {ev:Evt},VEv n R evs->evs[k]? = some ev->Can n ((evs.take k).foldl (zbs n) R) ev
 | [],_,_,_,_,h=>by simp at h
 | e0 :: evs,R,0,ev,v,h=>by
  simp at h
  subst h
  exact v.1
 | e0 :: evs,R,k + 1,ev,v,h=>by
  simp at h
  exact VEv.at_ (k:=k) v.2 h
theorem zav (wn:WN n) {evs:List Evt} (v:VEv n (Run.new n) evs):∀ k,k<=evs.length->Good n (qG n (evs.take k)) (10 * k)
 | 0,_=>zmv n
 | k + 1,h=>by
  have hk:evs[k]? = some evs[k]:=Q0 (by omega)
  have g:=zav wn v k (by omega)
  have c:=v.at_ hk
  unfold qG at g ⊢
  rw [zdh hk]
  have:=zlm wn g c
  exact ⟨this.ri,this.wt,this.sb.mono (by omega),this.sd⟩
theorem zk0 (wn:WN n) {b:Nat} (h:RunAt kE kR (qf n) b r l M R) (g:Good n R B) (hB:B + 10 < 90000) (hc:Can n R ev):qO kE kR [.ref r,evT ev] M = .ok .non M/\Ok (zbS kE kR [.ref r,evT ev] M) (Lv kE kR n b r (zbs n R ev) M):=by
 refine ⟨?_,zpD h wn hB g.sb g.ri hc.c.ok⟩
 rcases hc with hf | ⟨⟨e,he⟩,hm⟩
 ·cases ev with
  | fresh=>exact zlD h
  | _=>cases hf
 ·have:=zgS he hm
  exact zqC h wn g.ri (by have:=g.sb.es;omega) this.1 he hm
theorem zhZ (wn:WN n) {t:FT.T} (ht:EvS t evs M) (v:VEv n (Run.new n) evs) (hl:evs.length<=2000):Ok (za0 kE kR [qf n,t] M) fun u M'=>u = .ref M.length/\Kp M.length M M'/\∃ l,RunAt kE kR (qf n) M.length M.length l M' (qG n evs):=by
 obtain ⟨a,rfl,hc⟩:=ht
 have cs:∀ {M':Mem},Kp M.length M M'->M'[a]? = some (.lst (evs.map evT)):=fun k=>by rw [k.2 a (qI hc)];exact hc
 refine qB rfl ?_
 unfold ziy
 obtain ⟨M1,e1,h1,k1⟩:=zpv (kE:=kE) (kR:=kR) wn M (σ:=[some (qf n),some (.ref a),none,none]) rfl
 simp_arith [e1,zd2,zau,zc7 (cs k1)]
 refine Ok.bind (Ok.forG (r:=evT) (xs:=evs) (fun k σ M'=>∃ o,σ = [some (qf n),some (.ref a),some (.ref M.length),o]/\Kp M.length M M'/\∃ l,RunAt kE kR (qf n) M.length M.length l M' (qG n (evs.take k))) (fun i σ M' h=>zcb (by obtain ⟨o,_,k,_⟩:=h;exact cs k)) ⟨none,rfl,k1,_,h1⟩ ?_) ?_
 ·rintro k ev σ M2 hk ⟨o,rfl,k2,l2,h2⟩
  have hkl:=(Qz.mp hk).1
  obtain ⟨c1,c2⟩:=zk0 wn h2 (zav wn v k (by omega)) (by omega) (v.at_ hk)
  unfold zhh
  simp_arith [c1]
  refine Ok.bind c2 ?_
  rintro u M3 ⟨rfl,k3,l3,h3⟩
  try simp_arith [and_self]
  refine Ok.ret ⟨_,rfl,_,rfl,k2.trans k3,l3,?_⟩
  unfold qG at h3 ⊢
  rw [zdh hk]
  exact h3
 ·rintro fl M' ⟨σ,rfl,o,rfl,k2,l2,h2⟩
  rw [take_length] at h2
  simp_arith [and_self]
  exact Ok.ret ⟨rfl,k2,l2,h2⟩
theorem zgo (h:Kp M.length M M'):M'.take M.length = M:=by
 refine ext_getElem? fun i=>?_
 by_cases z:i < M.length
 ·rw [List.getElem?_take_of_lt z];exact h.2 i z
 ·rw [getElem?_eq_none (by rw [Qr];omega),getElem?_eq_none (by omega)]
theorem zrl (e:Er):FT.T.lt 0 (erT e):=by
 refine .tup fun t ht=>?_
 simp only [QD,not_mem_nil,or_false] at ht
 rcases ht with rfl | rfl | rfl
 ·exact .int _
 ·cases e.caller with
  | none=>exact .non
  | some c=>
   refine .tup fun u hu=>?_
   simp only [QD,not_mem_nil,or_false] at hu
   rcases hu with rfl | rfl | rfl <;> exact .int _
 ·cases e.ph with
  | works=>
   refine .tup fun u hu=>?_
   simp only [QD,not_mem_nil,or_false] at hu
   rcases hu with rfl
   exact .str _
  | waits a t=>
   refine .tup fun u hu=>?_
   simp only [QD,not_mem_nil,or_false] at hu
   rcases hu with rfl | rfl | rfl
   ·exact .str _
   ·exact .int _
   ·exact .int _
  | stands a t=>
   refine .tup fun u hu=>?_
   simp only [QD,not_mem_nil,or_false] at hu
   rcases hu with rfl | rfl | rfl
   ·exact .str _
   ·exact .int _
   ·exact .int _
  | ended w=>
   refine .tup fun u hu=>?_
   simp only [QD,not_mem_nil,or_false] at hu
   rcases hu with rfl | rfl
   ·exact .str _
   ·exact .str _
theorem znQ (n:Net) (R:Run):FT.T.lt 0 (zfR n R):=by
 refine .tup fun t ht=>?_
 simp only [QD,not_mem_nil,or_false] at ht
 rcases ht with rfl | rfl
 ·refine .lst fun u hu=>?_
  obtain ⟨e,_,rfl⟩:=mem_map.mp hu
  exact zrl e
 ·refine .lst fun u hu=>?_
  obtain ⟨k,_,rfl⟩:=mem_map.mp hu
  refine .tup fun v hv=>?_
  simp only [QD,not_mem_nil,or_false] at hv
  rcases hv with rfl | rfl <;> exact .int _
theorem zoT (wn:WN n) {t:FT.T} (ht:EvS t evs M) (v:VEv n (Run.new n) evs) (hl:evs.length<=2000):zfZ kE kR [qf n,t] M = .ok (zfR n (qG n evs)) M:=by
 have key:Ok (zks kE kR [qf n,t] M) fun u M'=>u = zfR n (qG n evs)/\Kp M.length M M':=by
  refine qB rfl ?_
  unfold zm2
  simp_arith [and_self]
  refine Ok.bind (zhZ wn ht v hl) ?_
  rintro u M1 ⟨rfl,k1,l1,h1⟩
  have g:=zav wn v evs.length (Q3 _)
  rw [take_length] at g
  simp_arith [zj6 h1 wn g.ri (B:=10 * evs.length) (by omega) g.sb]
  exact Ok.ret ⟨rfl,k1⟩
 obtain ⟨u,M',e,rfl,k⟩:=key
 unfold zfZ zbu
 rw [e]
 dsimp only
 rw [QA ⟨zgo k,znQ _ _⟩]
end
noncomputable def zeD (n:Net) (R:Run):List Evt:=.fresh :: (List.range R.es.length).flatMap (zbm n R)
section
theorem ziF (R:Run) (i:Nat):(zbm n R i).length<=10:=Qj (List.length_filter_le _ _) (zjY i)
theorem zfE (R:Run):∀ k,((List.range k).flatMap (zbm n R)).length<=10 * k
 | 0=>by simp
 | k + 1=>by
  rw [range_succ,List.flatMap_append,Qn]
  have h1:=zfE R k
  have h2:=ziF (n:=n) R k
  have h3:([k].flatMap (zbm n R)) = zbm n R k:=by simp
  rw [h3]
  omega
theorem zrk (ev:Evt):FT.T.lt 0 (evT ev):=by
 cases ev with
 | fresh=>
  refine .tup fun u hu=>?_
  rw [QI.mp hu];exact .str _
 | ends i w=>
  refine .tup fun u hu=>?_
  simp only [QD,not_mem_nil,or_false] at hu
  rcases hu with rfl | rfl | rfl
  ·exact .str _
  ·exact .int _
  ·exact .str _
 | lost i=>
  refine .tup fun u hu=>?_
  simp only [QD,not_mem_nil,or_false] at hu
  rcases hu with rfl | rfl
  ·exact .str _
  ·exact .int _
 | again i=>
  refine .tup fun u hu=>?_
  simp only [QD,not_mem_nil,or_false] at hu
  rcases hu with rfl | rfl
  ·exact .str _
  ·exact .int _
 | up i=>
  refine .tup fun u hu=>?_
  simp only [QD,not_mem_nil,or_false] at hu
  rcases hu with rfl | rfl
  ·exact .str _
  ·exact .int _
theorem zpz (wn:WN n) {t:FT.T} (ht:EvS t evs M) (v:VEv n (Run.new n) evs) (hl:evs.length<=2000):zcO kE kR [qf n,t] M = .ok (.lst ((zeD n (qG n evs)).map evT)) M:=by
 have g:=zav wn v evs.length (Q3 _)
 rw [take_length] at g
 have key:Ok (zef kE kR [qf n,t] M) fun u M'=>∃ a,u = .ref a/\M.length<=a/\M'[a]? = some (.lst ((zeD n (qG n evs)).map evT))/\Kp M.length M M':=by
  refine qB rfl ?_
  unfold zf8
  simp_arith [and_self]
  refine Ok.bind (zhZ wn ht v hl) ?_
  rintro u M1 ⟨rfl,k1,l1,h1⟩
  have hM1:=k1.1
  have ln:∀ cs,yu (.ref l1.a) (M1 ++ cs) = .ok (nT (qG n evs).es.length) (M1 ++ cs):=fun cs=>by
   unfold yu zan qv
   simp only [(h1.app cs).er]
   simp [h1.el]
  have rg:=fun (M:Mem)=>za9 (M:=M) (j:=((qG n evs).es.length:Int)) (by have:=g.sb.es;omega)
  simp_arith [ym,(h1.app [.lst [.tup [.str "fresh"]]]).errands,ln,rg,QH]
  refine Ok.bind (Ok.for (r:=FT.T.int) (xs:=rgI (qG n evs).es.length) (fun k σ M'=>∃ o,σ = [some (qf n),some t,some (.ref M.length),some (.ref M1.length),o]/\M'[M1.length]? = some (.lst ((Evt.fresh :: (List.range k).flatMap (zbm n (qG n evs))).map evT))/\RunAt kE kR (qf n) M.length M.length l1 M' (qG n evs)/\Kp M.length M M') ⟨none,rfl,zI,h1.app _,k1.trans (Kp.app _ _ hM1)⟩ ?_) ?_
  ·rintro k x σ M2 hx ⟨o,rfl,c2,h2,k2⟩
   obtain ⟨hk,rfl⟩:=zcS hx
   have he:(qG n evs).es[k]? = some (qG n evs).es[k]:=Q0 hk
   unfold zfp
   have ex:=zjT (ys:=(zbm n (qG n evs) k).map evT) c2 (by
    rw [Qh,Qh,Qp]
    have:=zfE (n:=n) (qG n evs) k
    have:=ziF (n:=n) (qG n evs) k
    have:=g.sb.es
    omega)
   rw [← Qq,show (Evt.fresh :: (List.range k).flatMap (zbm n (qG n evs))) ++ zbm n (qG n evs) k = Evt.fresh :: (List.range (k + 1)).flatMap (zbm n (qG n evs)) by rw [range_succ,List.flatMap_append];simp] at ex
   simp_arith [qY,zg2 c2,ziE h2 wn g.ri he,ex]
   refine Ok.ret ⟨_,rfl,_,rfl,get_set c2,?_,k2.trans (Kp.set _ _ hM1)⟩
   refine ⟨fun p hp=>?_,h2.nd,h2.lo,h2.el,h2.pl,h2.tl⟩
   have:=h1.ho p hp
   have hlt:=qI this
   rw [Qc,QB (by omega)]
   exact h2.ho p hp
  ·rintro fl M2 ⟨σ,rfl,o,rfl,c2,h2,k2⟩
   rw [zb6] at c2
   simp_arith [and_self]
   exact Ok.ret ⟨_,rfl,hM1,c2,k2⟩
 obtain ⟨u,M',e,a,rfl,ha,c,k⟩:=key
 unfold zcO zeL
 rw [e]
 dsimp only
 rw [c]
 dsimp only
 rw [QA]
 refine ⟨zgo k,ha,fun x hx=>?_⟩
 obtain ⟨ev,_,rfl⟩:=mem_map.mp hx
 exact zrk ev
theorem znO (h:ev ∈ zeD n R):Can n R ev:=by
 rcases QD.mp h with rfl | h
 ·exact .inl rfl
 ·obtain ⟨i,hi,hm⟩:=List.mem_flatMap.mp h
  have hi:=mem_range.mp hi
  have he:R.es[i]? = some R.es[i]:=Q0 hi
  have:=zgS he hm
  exact .inr ⟨⟨_,by rw [this.2.1];exact he⟩,by rw [this.2.1];exact hm⟩
end
variable {d:Int} {xs:List Int}
section
theorem zii (c:Int) (M:Mem):zcV kE kR [.int c] M = .ok (.ref M.length) (M ++ [(Po.new c).cell]):=by
 unfold zcV zjO
 simp_arith [and_self]
 rw [show Po.new c = ⟨if c - 10 ^ 18 > 0 then c - 10 ^ 18 else 0,c % 10 ^ 18,0⟩ from rfl,Q9 _ (by decide)]
 rfl
theorem zlb (p:Po) (a:Nat) (base:Int) (M:Mem) (e:M[a]? = some p.cell) (h:0 < base) (hb:base.natAbs < 10 ^ 100):zy kE kR [.ref a,.int base] M = .ok (.int (p.dig base)) (M.set a (p.nxt base).cell):=by
 unfold zy ziz
 have ha:a < M.length:=(Qz.mp e).1
 have hd:∀ i M,zdw (.int i) (.int base) M = .ok (.int (i.fdiv base)) M:=fun i M=>zfa (zku 100 (by decide) (by omega) hb)
 have hm:∀ i M,zby (.int i) (.int base) M = .ok (.int (i.fmod base)) M:=fun i M=>zgI (by omega)
 by_cases hp:0 < p.a
 ·simp_arith [e,Po.cell,hd,hm,Qw hp]
  unfold Po.dig Po.nxt
  rw [QA hp,QA hp,Q9 _ (by omega),Int.fdiv_eq_ediv_of_nonneg _ (by omega)]
 ·have hs:∀ c:Cell,(M.set a c)[a]? = some c:=fun c=>by rw [Qc,QA rfl,QA ha]
  have h1:∀ j M,yT (.int 7919) (.int j) M = .ok (.int (7919 * j)) M:=fun j M=>zbP (by decide)
  have hx:∀ x:Int,0<=x.fmod 1000000007/\x.fmod 1000000007 < 1000000007:=fun x=>by rw [Q9 _ (by decide)];omega
  have hy:∀ x:Int,0<=x.fmod 998244353/\x.fmod 998244353 < 998244353:=fun x=>by rw [Q9 _ (by decide)];omega
  have h2:∀ (x y:Int) M,yT (.int (x.fmod 1000000007 + 11)) (.int y) M = .ok (.int ((x.fmod 1000000007 + 11) * y)) M:=fun x y M=>zbP (by have:=hx x;omega)
  have h3:∀ (x y:Int) M,yT (.int (x.fmod 998244353)) (.int y) M = .ok (.int (x.fmod 998244353 * y)) M:=fun x y M=>zbP (by have:=hy x;omega)
  simp_arith [e,Po.cell,hd,hm,Qx hp,hs,h1,h2,h3]
  unfold Po.dig Po.nxt
  rw [QB hp,QB hp]
  simp only [Q9 _ (show (0:Int)<=1000000007 by decide),Q9 _ (show (0:Int)<=998244353 by decide),Q9 _ (show (0:Int)<=2147483647 by decide),Int.fdiv_eq_ediv_of_nonneg _ (show (0:Int)<=8 by decide),Q9 _ (show (0:Int)<=base by omega)]
def PO (a:Nat) (M:Mem):Prop:=∃ p:Po,M[a]? = some p.cell
theorem PO.fr {a:Nat} (h:PO a M) {S:List Nat} (f:Fr S M M') (hs:a ∉ S):PO a M':=by
 obtain ⟨p,e⟩:=h
 exact ⟨p,f.get e hs⟩
theorem qH {a:Nat} {base:Int} (e:PO a M) (h:0 < base) (hb:base.natAbs < 10 ^ 100) :
  Ok (zy kE kR [.ref a,.int base] M) fun t M'=>∃ d:Int,t = .int d/\0<=d/\d < base/\PO a M'/\Fr [a] M M':=by
 obtain ⟨p,e⟩:=e
 exact Ok.of (zlb p a base M e h hb) ⟨_,rfl,p.dig_lo h,p.dig_hi h,⟨_,get_set e⟩,Fr.set _ _ _⟩
theorem PO.app {c:Int}:PO M.length (M ++ [(Po.new c).cell]):=⟨_,zI⟩
theorem zjX {ns:List Int} {n:Nat} (hn:n<=1000) (M:Mem):∃ c,zcc kE kR [.lst (ns.map .int),.int (n:Int)] M = .ok (.int c) M:=by
 unfold zcc ziA
 by_cases h:n < ns.length
 ·refine ⟨ns[n],?_⟩
  have a:atI (ns.map FT.T.int) (n:Int) = some (.int ns[n]):=by rw [FT.zbf];simp [h]
  have d:decide ((n:Int) < ((ns.map FT.T.int).length:Int)) = true:=Qw (by rw [Qh];omega)
  simp_arith [d,a]
 ·have d:decide ((n:Int) < ((ns.map FT.T.int).length:Int)) = false:=Qx (by rw [Qh];omega)
  have m1:∀ M,yT (.int 7919) (.int (n:Int)) M = .ok (.int (7919 * (n:Int))) M:=fun M=>zbP (by decide)
  have m2:∀ M,yT (.int (7919 * (n:Int))) (.int (n:Int)) M = .ok (.int (7919 * (n:Int) * (n:Int))) M:=fun M=>zbP (by omega)
  have m3:∀ M,yT (.int 31) (.int (n:Int)) M = .ok (.int (31 * (n:Int))) M:=fun M=>zbP (by decide)
  exact ⟨7919 * (n:Int) * (n:Int) + 31 * (n:Int),by simp_arith [d,m1,m2,m3]⟩
theorem pick (h0:0<=d) (h1:d < xs.length):∃ v ∈ xs,atI (xs.map FT.T.int) d = some (.int v):=by
 obtain ⟨x,h1,h2⟩:=zlN (xs:=xs.map FT.T.int) h0 (by simpa using h1)
 obtain ⟨v,hv,rfl⟩:=mem_map.mp h2
 exact ⟨v,hv,h1⟩
theorem zeW (lo hi:Int) (h0:0<=d) (h1:d < xs.length) (h:xs.all (fun v=>decide (lo<=v/\v<=hi)) = true):∃ v:Int,atI (xs.map FT.T.int) d = some (.int v)/\lo<=v/\v<=hi:=by
 obtain ⟨v,hv,e⟩:=pick h0 h1
 have:=all_eq_true.mp h v hv
 exact ⟨v,e,of_decide_eq_true this⟩
theorem zhA {b:Int} (h0:0 < b) (h:b<=10 ^ 40):b.natAbs < 10 ^ 100:=by
 refine Nat.lt_of_le_of_lt (show b.natAbs<=10 ^ 40 from ?_) (Nat.pow_lt_pow_right (by decide) (by decide))
 simp only [Int.reducePow] at h
 simp only [Nat.reducePow]
 omega
theorem zmV {xs:List Str} (h0:0<=d) (h1:d < xs.length):∃ v ∈ xs,atI (xs.map FT.T.str) d = some (.str v):=by
 obtain ⟨x,h1,h2⟩:=zlN (xs:=xs.map FT.T.str) h0 (by simpa using h1)
 obtain ⟨v,hv,rfl⟩:=mem_map.mp h2
 exact ⟨v,hv,h1⟩
theorem zra {b:Int} (h0:0<=b) (h1:b < 3):∃ v:Str,(v = "bad"\/v = "spent")/\atI [FT.T.str "bad",.str "bad",.str "spent"] b = some (.str v):=by
 have:b = 0\/b = 1\/b = 2:=by omega
 rcases this with rfl | rfl | rfl
 ·exact ⟨_,.inl rfl,rfl⟩
 ·exact ⟨_,.inl rfl,rfl⟩
 ·exact ⟨_,.inr rfl,rfl⟩
end
end My
namespace FT
open PySem L2
variable {σ:Ev} {p q:Ev->Mem->Out Fl} {Q:Fl->Mem->Prop} {M:Mem}
theorem Ok.seqX (h:∀ X,X = zcj q->Ok ((p σ M).bind X) Q):Ok (zh p q σ M) Q:=h _ rfl
theorem Ok.seqR {Q:T->Mem->Prop} (h:∀ X,X = (fun fl M=>(zcj q fl M).bind zcE)->Ok ((p σ M).bind X) Q):Ok ((zh p q σ M).bind zcE) Q:=by
 have:=h _ rfl
 unfold zh
 rw [zmN]
 exact this
theorem Ok.seqP (P:Fl->Mem->Prop) (h:Ok (p σ M) P) (g:∀ fl M',P fl M'->Ok (zcj q fl M') Q):Ok (zh p q σ M) Q:=Ok.bind h g
end FT
namespace My
open PySem L2 FT
noncomputable abbrev S (l:List Nat):Str:=⟨l.toArray⟩
theorem zdl (l:List Nat):(S l).length = l.length:=by simp [Str.length]
theorem sz {n:Nat} (h:n<=10000):n<=sizeLine:=by rw [sizeLine_eq];omega
variable {l:List Nat}
theorem zsd (h:l.length<=10000) (M:Mem):yu (.str (S l)) M = .ok (.int (l.length:Int)) M:=by
 unfold yu
 dsimp only
 rw [zdl,QA (sz h)]
noncomputable def isL (c:Nat):Bool:=decide (97<=c/\c<=122)
noncomputable def isW (l:List Nat):Bool:=decide (1<=l.length/\l.length<=8) && l.all isL
theorem adE {m:List Nat} (h:l.length + m.length<=10000) (M:Mem):qU (.str (S l)) (.str (S m)) M = .ok (.str (S (l ++ m))) M:=by
 unfold qU
 dsimp only
 rw [QA (sz (by rw [zdl,zdl];exact h))]
 congr 2
 show Str.append _ _ = _
 unfold Str.append
 simp
theorem zoK (zs:List Str):zfr (zs.map FT.T.str) = some zs:=by
 induction zs with
 | nil=>rfl
 | cons z zs ih=>simp only [QG,zfr,ih,Option.map_some]
theorem zn0 (x:Str) (M:Mem):isStr (.str x) M = true:=rfl
theorem zln:∀ (cs:List Nat) (acc:Array Nat),(cs.map fun c=>S [c]).foldl (fun acc p=>acc ++ (Str.ofString "").cps ++ p.cps) acc = acc ++ cs.toArray
 | [],acc=>by simp
 | c :: cs,acc=>by
  rw [QG,foldl_cons,zln cs]
  simp [show (Str.ofString "").cps = #[] by decide]
theorem zrn (cs:List Nat):Txt.join "" (cs.map fun c=>S [c]) = S cs:=by
 unfold Txt.join Builtin.Str.glued
 cases cs with
 | nil=>rfl
 | cons c cs=>
  show Str.mk _ = _
  congr 1
  rw [QG,List.headD_cons,List.drop_succ_cons,drop_zero,zln]
  simp
theorem join_eq {cs:List Nat} (h:cs.length<=10) (M:Mem):ze1 (.str "") [.lst (cs.map fun c=>.str (S [c]))] M = .ok (.str (S cs)) M:=by
 have e:(cs.map fun c=>FT.T.str (S [c])) = (cs.map fun c=>S [c]).map FT.T.str:=by rw [map_map];rfl
 have hs:((cs.map fun c=>S [c]).map (·.length)).sum = cs.length:=by
  clear h e
  induction cs with
  | nil=>rfl
  | cons c cs ih=>simp only [QG,sum_cons,Qp,ih];show 1 + cs.length = _;omega
 rw [e]
 unfold ze1
 simp only [qv,zoK]
 rw [QA (by rw [hs,show (Str.ofString "").length = 0 from rfl];omega),zrn]
theorem zqW:∀ n:Nat,n < 7->∀ a:Nat,a < n + 1->Builtin.Str.strSliceIndices none (some (a:Int)) 1 n = List.range a:=by decide +kernel
theorem zqX:∀ n:Nat,n < 7->∀ a:Nat,a < n + 1->Builtin.Str.strSliceIndices (some (a:Int)) none 1 n = (List.range (n - a)).map (· + a):=by decide +kernel
theorem zqF:∀ n:Nat,n < 26->atI (Str.ofString "abcdefghijklmnopqrstuvwxyz").cps.toList (n:Int) = some (97 + n):=by decide +kernel
theorem zd4 (r:List Nat):∀ n,(List.range n).filterMap (fun k=>r[k]?) = r.take n
 | 0=>by simp
 | n + 1=>by
  rw [range_succ,List.filterMap_append,zd4 r n,take_succ]
  congr 1
theorem zqz (hl:l.length<=6) {a:Nat} (ha:a<=l.length) (M:Mem):zdx (.str (S l)) none (some (a:Int)) M = .ok (.str (S (l.take a))) M:=by
 have e:Txt.slice (S l) none (some (a:Int)) = S (l.take a):=by
  unfold Txt.slice
  rw [zdl,zqW _ (by omega) a (by omega),length_range]
  split
  ·rename_i h
   have:a = l.length:=by simpa using h
   rw [this,take_length]
  ·congr 1
   rw [show (fun x=>(S l).cps[x]?) = fun k=>l[k]? from by funext k;simp,zd4]
 unfold zdx
 dsimp only
 rw [QA (sz (by rw [zdl];omega)),e]
theorem zqA (hl:l.length<=6) {a:Nat} (ha:a<=l.length) (M:Mem):zdx (.str (S l)) (some (a:Int)) none M = .ok (.str (S (l.drop a))) M:=by
 have e:Txt.slice (S l) (some (a:Int)) none = S (l.drop a):=by
  unfold Txt.slice
  rw [zdl,zqX _ (by omega) a (by omega),Qh,length_range]
  split
  ·rename_i h
   have:a = 0:=by simp at h;omega
   rw [this,drop_zero]
  ·congr 1
   rw [List.filterMap_map,show ((fun x=>(S l).cps[x]?) ∘ fun x=>x + a) = fun k=>(l.drop a)[k]? from by funext k;simp [Nat.add_comm],zd4]
   rw [take_of_length_le (by rw [length_drop];omega)]
 unfold zdx
 dsimp only
 rw [QA (sz (by rw [zdl];omega)),e]
theorem zim {d:Int} (h0:0<=d) (h:d < 26) (M:Mem):ixS (.str "abcdefghijklmnopqrstuvwxyz") (.int d) M = .ok (.str (S [97 + d.toNat])) M:=by
 obtain ⟨n,rfl⟩:∃ n:Nat,d = n:=⟨d.toNat,by omega⟩
 unfold ixS
 simp only [zqF n (by omega)]
 exact QA (sz (by decide))
theorem zpx (c:Nat) (k:Nat) (M:Mem):zgH (.str (S [c])) (.int ((k % 2:Nat):Int)) M = .ok (.str (S (if k % 2 = 1 then [c] else []))) M:=by
 have h:k % 2 = 0\/k % 2 = 1:=by omega
 unfold zgH
 dsimp only
 rcases h with h | h
 ·rw [h,QA (by refine ⟨by decide,fun z _=>absurd (by decide) z,fun z _=>absurd (by decide) z⟩)]
  rfl
 ·rw [h,QA (by refine ⟨by decide,fun _ h=>by simp at h,fun _ h=>by simp at h⟩)]
  rfl
noncomputable def nmL (b:List Nat) (a f k:Nat):List Nat:=b.take a ++ [97 + (f + 5 * k) % 26] ++ b.drop a ++ (if k % 2 = 1 then [97 + f] else [])
theorem zeY (b:List Nat) (a f k:Nat):(nmL b a f k).length = b.length + 1 + k % 2:=by
 have h:k % 2 = 0\/k % 2 = 1:=by omega
 unfold nmL
 rw [Qn,Qn,Qn,Qr,length_drop,Qu]
 rcases h with h | h <;> (rw [h];simp;omega)
variable {f k:Nat}
theorem zrj {b:List Nat} (hb:b.all isL = true) (h6:b.length<=6) {a:Nat} (hf:f < 26):isW (nmL b a f k) = true:=by
 unfold isW
 rw [zeY,Qs]
 refine ⟨Qw (by omega),all_eq_true.mpr fun c hc=>?_⟩
 have hb:=all_eq_true.mp hb
 unfold nmL at hc
 rcases mem_append.mp hc with hc | hc
 ·rcases mem_append.mp hc with hc | hc
  ·rcases mem_append.mp hc with hc | hc
   ·exact hb c (List.mem_of_mem_take hc)
   ·rw [QI.mp hc];exact Qw (by omega)
  ·exact hb c (List.mem_of_mem_drop hc)
 ·split at hc
  ·rw [QI.mp hc];exact Qw (by omega)
  ·cases hc
variable {i j:Nat}
theorem zpu {b:List Nat} {a:Nat} (hf:f < 26) (hij:i < j) (hj:j < 4) (e:nmL b a f i = nmL b a f j):False:=by
 have hl:=congrArg List.length e
 rw [zeY,zeY] at hl
 unfold nmL at e
 rw [show i % 2 = j % 2 by omega] at e
 have e1:=List.append_cancel_right e
 have e2:=List.append_cancel_right e1
 have e3:=List.append_cancel_left e2
 have e4:97 + (f + 5 * i) % 26 = 97 + (f + 5 * j) % 26:=by simpa using e3
 have:j = i + 2:=by omega
 omega
noncomputable def nmS (b:List Nat) (a f n:Nat):List Str:=(List.range n).map fun k=>S (nmL b a f k)
theorem zpt {b:List Nat} {a n:Nat} (hf:f < 26) (hn:n<=4):(nmS b a f n).Nodup:=by
 unfold nmS
 refine List.pairwise_map.mpr (List.Pairwise.imp_of_mem ?_ (List.pairwise_lt_range (n:=n)))
 intro i j hi hj hlt e
 have e:=congrArg (fun s:Str=>s.cps.toList) e
 simp at e
 exact zpu hf hlt (by have:=mem_range.mp hj;omega) e
structure Nms (ws:List Str):Prop where
 nd:ws.Nodup
 w:∀ x ∈ ws,∃ l,x = S l/\isW l = true
 ln:∃ h,∀ x ∈ ws,x.length = h\/x.length = h + 1
theorem zps {b:List Nat} (hb:b.all isL = true) (h6:b.length<=6) {a n:Nat} (hf:f < 26) (hn:n<=4):Nms (nmS b a f n):=⟨zpt hf hn,fun x hx=>by
 obtain ⟨k,_,rfl⟩:=mem_map.mp hx
 exact ⟨_,rfl,zrj hb h6 hf⟩,b.length + 1,fun x hx=>by
 obtain ⟨k,_,rfl⟩:=mem_map.mp hx
 rw [zdl,zeY]
 omega⟩
variable {kE kR:Addr} {M:Mem}
section
theorem zhC {a:Nat} (e:PO a M) {n:Nat} (hn:n<=4):Ok (zcu kE kR [.ref a,.int (n:Int)] M) fun t M'=>∃ w ws,t = .ref w/\M'[w]? = some (.lst (ws.map .str))/\M.length<=w/\Nms ws/\ws.length = n/\PO a M'/\Fr [a] M M':=by
 refine qB rfl ?_
 unfold zg7
 have ha:a < M.length:=by obtain ⟨p,e⟩:=e;exact qI e
 rw [show startT 9 [.ref a,.int (n:Int)] = [some (.ref a),some (.int (n:Int)),none,none,none,none,none,none,none] from rfl]
 refine Ok.seqR fun X hX=>?_
 simp_arith [and_self]
 rw [hX];clear hX;simp only [yh]
 refine Ok.seqR fun X hX=>?_
 simp_arith [qY,zn0]
 refine Ok.bind (qH e (by decide) (by decide)) ?_
 rintro t M1 ⟨m,rfl,m0,m1,p1,f1⟩
 simp_arith [za9 (show -(2 ^ 62)<=m/\m < 2 ^ 62 by omega)]
 refine Ok.bind (Ok.comp (r:=FT.T.int) (fun i acc σ M'=>(∃ cs:List Nat,acc = cs.map (fun c=>.str (S [c]))/\cs.length = i/\cs.all isL = true)/\(∃ o,σ = [o,some (.str "abcdefghijklmnopqrstuvwxyz"),some (.ref a)])/\PO a M'/\Fr [a] M M') (rgI m.toNat) 0 [] ⟨⟨[],rfl,rfl,rfl⟩,⟨_,rfl⟩,p1,f1⟩ (by rw [zb6];exact sz (by simp;omega)) ?_) ?_
 ·rintro k x σ M2 acc hk ⟨⟨cs,rfl,hz,h1⟩,⟨o,rfl⟩,p2,f2⟩
  simp_arith [and_self]
  refine Ok.bind (qH p2 (by decide) (by decide)) ?_
  rintro t M3 ⟨d,rfl,d0,d1,p3,f3⟩
  simp_arith [zim d0 d1]
  refine Ok.ret ⟨⟨cs ++ [97 + d.toNat],by simp,by simp [hz],?_⟩,⟨_,rfl⟩,p3,f2.trans f3⟩
  rw [List.all_append,h1]
  simp only [all_cons,List.all_nil,Bool.true_and,Bool.and_true]
  exact Qw (by omega)
 rintro ts M2 ⟨σ,⟨b,rfl,hz,hb⟩,_,p2,f2⟩
 rw [Nat.zero_add,zb6] at hz
 have hb6:b.length<=6:=by omega
 simp_arith [join_eq (cs:=b) (by omega)]
 rw [hX];clear hX;simp only [yh]
 refine Ok.seqR fun X hX=>?_
 simp_arith [zsd (l:=b) (by omega)]
 refine Ok.bind (qH p2 (by omega) (zhA (by omega) (by omega))) ?_
 rintro t M3 ⟨av,rfl,a0,a1,p3,f3⟩
 obtain ⟨at_,rfl⟩:∃ at_:Nat,av = at_:=⟨av.toNat,by omega⟩
 try simp_arith [and_self]
 rw [hX];clear hX;simp only [yh]
 refine Ok.seqR fun X hX=>?_
 simp_arith [and_self]
 refine Ok.bind (qH p3 (by decide) (by decide)) ?_
 rintro t M4 ⟨fv,rfl,f0,f1',p4,f4⟩
 obtain ⟨f,rfl⟩:∃ f:Nat,fv = f:=⟨fv.toNat,by omega⟩
 try simp_arith [and_self]
 rw [hX];clear hX;simp only [yh]
 refine Ok.seqR fun X hX=>?_
 simp_arith [and_self]
 rw [hX];clear hX;simp only [yh]
 have fr4:Fr [a] M M4:=(f2.trans f3).trans f4
 have l4:=fr4.1
 refine Ok.seqR fun X hX=>?_
 simp_arith [za9 (M:=M4 ++ [.lst []]) (j:=(n:Int)) (by omega),QH]
 refine Ok.bind (Ok.for (r:=FT.T.int) (xs:=rgI n) (fun k σ M'=>(∃ o7 o8,σ = [some (.ref a),some (.int (n:Int)),some (.str "abcdefghijklmnopqrstuvwxyz"),some (.str (S b)),some (.int (at_:Int)),some (.int (f:Int)),some (.ref M4.length),o7,o8])/\M' = M4 ++ [.lst ((nmS b at_ f k).map .str)]) ⟨⟨none,none,rfl⟩,rfl⟩ ?_) ?_
 ·rintro k x σ M5 hx ⟨⟨o7,o8,rfl⟩,rfl⟩
  obtain ⟨hk,rfl⟩:=zcS hx
  unfold zgm
  have m1:∀ M,yT (.int 5) (.int (k:Int)) M = .ok (.int (5 * (k:Int))) M:=fun M=>zbP (by decide)
  have hd:((f:Int) + 5 * (k:Int)).fmod 26 = (((f + 5 * k) % 26:Nat):Int):=by rw [Q9 _ (by decide)];omega
  have hk2:((k:Int)).fmod 2 = ((k % 2:Nat):Int):=by rw [Q9 _ (by decide)];omega
  have c1:=fun M=>zqz (l:=b) hb6 (a:=at_) (by omega) M
  have c2:=fun M=>zqA (l:=b) hb6 (a:=at_) (by omega) M
  have x1:=fun M=>zim (d:=(((f + 5 * k) % 26:Nat):Int)) (by omega) (by omega) M
  have x2:=fun M=>zim (d:=(f:Int)) (by omega) (by omega) M
  rw [QH] at x1
  rw [QH] at x2
  have y1:=fun M=>adE (l:=b.take at_) (m:=[97 + (f + 5 * k) % 26]) (by rw [Qr,Qu];omega) M
  have y2:=fun M=>adE (l:=b.take at_ ++ [97 + (f + 5 * k) % 26]) (m:=b.drop at_) (by rw [Qn,Qr,Qu,length_drop];omega) M
  have y3:=fun M=>adE (l:=b.take at_ ++ [97 + (f + 5 * k) % 26] ++ b.drop at_) (m:=if k % 2 = 1 then [97 + f] else []) (by
   have:(if k % 2 = 1 then [97 + f] else []).length<=1:=by split <;> simp
   rw [Qn,Qn,Qr,Qu,length_drop];omega) M
  have z1:=fun M=>zpx (97 + f) k M
  have g:(M4 ++ [Cell.lst ((nmS b at_ f k).map .str)])[M4.length]? = some (.lst ((nmS b at_ f k).map .str)):=zI
  have hl:((nmS b at_ f k).map FT.T.str).length < sizeLine:=by
   unfold nmS
   rw [Qh,Qh,length_range,sizeLine_eq]
   omega
  refine Ok.seqX fun X hX=>?_
  simp_arith [ziL,m1,hd,c1,c2,x1,y1,y2]
  rw [hX];clear hX;simp only [yh]
  simp_arith [qR g,x2,hk2,z1,y3,zam g hl]
  refine Ok.ret ⟨_,rfl,⟨_,_,rfl⟩,?_⟩
  rw [set_append_right _ _ (Q3 _),Qv]
  unfold nmS
  rw [range_succ,Qq,Qq]
  rfl
 rintro fl M5 ⟨σ,rfl,⟨o7,o8,rfl⟩,rfl⟩
 rw [zb6]
 rw [hX];clear hX;simp only [yh]
 simp_arith [and_self]
 refine Ok.ret ⟨M4.length,nmS b at_ f n,rfl,zI,l4,zps hb hb6 (by omega) hn,by simp [nmS],p4.fr (Fr.app _ _) (by simp),fr4.tr (Fr.app _ _) (by simp)⟩
end
variable {P:FT.T} {pn:List Str}
section
def PV (P:FT.T) (pn:List Str) (a:Nat) (M:Mem):Prop:=P = .lst (pn.map .str)\/∃ w,P = .ref w/\w ≠ a/\M[w]? = some (.lst (pn.map .str))
theorem PV.lst {a:Nat} (h:PV P pn a M):qv P M = some (pn.map .str):=by
 rcases h with rfl | ⟨w,rfl,_,h3⟩
 ·rfl
 ·unfold qv;simp only [h3]
theorem PV.len {a:Nat} (h:PV P pn a M):yu P M = .ok (nT pn.length) M:=by
 rcases h with rfl | ⟨w,rfl,_,h3⟩
 ·rw [zml,Qh]
 ·rw [zfB h3,Qh]
structure AO (later pn:List Str) (q:Ask):Prop where
 to:q.to ∈ later
 t0:0<=q.tries
 t4:q.tries<=4
 pu:∀ s,q.purse = some s->s ∈ pn
 wo:q.word = "bad"\/q.word = "spent"
theorem zk2 (l:List FT.T) (M:Mem):neA (.lst l) (.lst []) M = .ok (.bl (!l.isEmpty)) M:=by cases l <;> rfl
theorem zlj (b:Bool) (M:Mem):ziq (.bl b) M = .ok (.int (if b then 1 else 0)) M:=rfl
theorem zgJ {i j:Int} :zgK (.int i) (.int j) M = .ok (.int (if j < i then j else i)) M:=rfl
theorem zov {a:Nat} (e:PO a M) {later:List Str} (hP:PV P pn a M) (hl:later.length<=4) (hp:pn.length<=2) {most:Nat} (hm:most<=3) :
  Ok (zeg kE kR [.ref a,.lst (later.map .str),P,.int (most:Int)] M) fun t M'=>∃ as:List Ask,t = .tup (as.map qC)/\as.length<=most/\(∀ q ∈ as,AO later pn q)/\PO a M'/\Fr [a] M M':=by
 refine qB rfl ?_
 unfold ziB
 have ha:a < M.length:=by obtain ⟨p,e⟩:=e;exact qI e
 rw [show startT 10 [.ref a,.lst (later.map .str),P,.int (most:Int)] = [some (.ref a),some (.lst (later.map .str)),some P,some (.int (most:Int)),none,none,none,none,none,none] from rfl]
 refine Ok.seqR fun X hX=>?_
 simp_arith [and_self]
 rw [hX];clear hX;simp only [yh]
 have pf:Fr [a] M (M ++ [Cell.lst []]):=(Fr.app _ _).mono
 refine Ok.seqR fun X hX=>?_
 simp_arith [and_self]
 refine Ok.bind (qH (e.fr (Fr.app _ [Cell.lst []]) (by simp)) (by decide) (by decide)) ?_
 rintro t M1 ⟨d,rfl,d0,d1,p1,f1⟩
 obtain ⟨v,hv,v0,v3⟩:=zeW (xs:=[1,1,2,2,3,0,2,1]) 0 3 d0 d1 rfl
 simp only [QG,map_nil] at hv
 obtain ⟨n,hn,hnl,hn0⟩:∃ n:Nat,(if v < (most:Int) then v else (most:Int)) * (if (!(later.map FT.T.str).isEmpty) = true then 1 else 0) = (n:Int)/\n<=most/\(later = []->n = 0):=by
  cases later with
  | nil=>exact ⟨0,by simp,Nat.zero_le _,fun _=>rfl⟩
  | cons x xs=>
   simp only [QG,List.isEmpty_cons,Bool.not_false,if_true,Int.mul_one]
   refine ⟨(if v < (most:Int) then v else (most:Int)).toNat,?_,?_,fun h=>by cases h⟩
   ·split <;> omega
   ·split <;> omega
 have ml:∀ (x y:Int) M,(x = if v < (most:Int) then v else (most:Int))->yT (.int x) (.int y) M = .ok (.int (x * y)) M:=fun x y M h=>zbP (by rw [h];split <;> omega)
 simp_arith [hv,zgJ,zk2,zlj,ml _ _ _ rfl,hn,za9 (M:=M1) (j:=(n:Int)) (by omega),QH]
 refine Ok.bind (Ok.for (r:=FT.T.int) (xs:=rgI n) (fun k σ M'=>(∃ o5 o6 o7 o8 o9,σ = [some (.ref a),some (.lst (later.map .str)),some P,some (.int (most:Int)),some (.ref M.length),o5,o6,o7,o8,o9])/\(∃ as:List Ask,M'[M.length]? = some (.lst (as.map qC))/\as.length = k/\∀ q ∈ as,AO later pn q)/\PO a M'/\Fr [a,M.length] (M ++ [Cell.lst []]) M') ⟨⟨_,_,_,_,_,rfl⟩,⟨[],f1.get zI (by simp;omega),rfl,fun q h=>by cases h⟩,p1,f1.sub (by simp)⟩ ?_) ?_
 ·rintro k x σ M2 hx ⟨⟨o5,o6,o7,o8,o9,rfl⟩,⟨as,g2,hk,hao⟩,p2,f2⟩
  obtain ⟨hkn,rfl⟩:=zcS hx
  have hlr:later ≠ []:=fun z=>by have:=hn0 z;omega
  have hl0:0 < later.length:=by cases later with | nil=>exact absurd rfl hlr | cons _ _=>simp
  have hPk:∀ {M'},Fr [a,M.length] (M ++ [Cell.lst []]) M'->PV P pn a M':=fun {M'} f=>by
   rcases hP with h | ⟨w,h1,h2,h3⟩
   ·exact .inl h
   ·have:=qI h3
    exact .inr ⟨w,h1,h2,f.get ((Fr.app M [Cell.lst []]).get0 h3) (by simp;omega)⟩
  unfold zhi
  refine Ok.seqX fun X hX=>?_
  simp_arith [Qh]
  refine Ok.bind (qH p2 (by omega) (zhA (by omega) (by omega))) ?_
  rintro t M3 ⟨w,rfl,w0,w1,p3,f3⟩
  obtain ⟨to,hto,hat⟩:=zmV (xs:=later) w0 w1
  simp_arith [hat]
  rw [hX];clear hX;simp only [yh]
  refine Ok.seqX fun X hX=>?_
  simp_arith [and_self]
  refine Ok.bind (qH p3 (by decide) (by decide)) ?_
  rintro t M4 ⟨w',rfl,w0',w1',p4,f4⟩
  obtain ⟨tr,htr,tr0,tr4⟩:=zeW (xs:=[1,2,2,3,4,0,0,1]) 0 4 w0' w1' rfl
  simp only [QG,map_nil] at htr
  simp_arith [htr]
  rw [hX];clear hX;simp only [yh]
  have f24:Fr [a,M.length] (M ++ [Cell.lst []]) M4:=(f2.tr f3 (by simp)).tr f4 (by simp)
  have P4:=hPk f24
  have rp:zgA P (.int 2) M4 = .ok (pn.map FT.T.str ++ pn.map FT.T.str) M4:=by
   unfold zgA
   simp only [P4.lst]
   rw [QA ⟨by decide,by decide,by rw [Qh];omega⟩]
   simp [List.replicate]
  have ct:ziS (.lst [.non]) (.lst (pn.map FT.T.str ++ pn.map FT.T.str)) M4 = .ok (.non :: (pn.map FT.T.str ++ pn.map FT.T.str)) M4:=by
   show (if _ then _ else _) = _
   rw [QA (by rw [Qn,Qh,Qu,sizeLine_eq];omega)]
   rfl
  have m2:∀ M,yT (.int 2) (nT pn.length) M = .ok (.int (2 * (pn.length:Int))) M:=fun M=>zbP (by decide)
  refine Ok.seqX fun X hX=>?_
  simp_arith [rp,ct,P4.len,m2]
  refine Ok.bind (qH p4 (by omega) (zhA (by omega) (by omega))) ?_
  rintro t M5 ⟨z,rfl,z0,z1,p5,f5⟩
  obtain ⟨pu,hpu,hpm⟩:∃ pu:Option Str,atI (FT.T.non :: (pn.map FT.T.str ++ pn.map FT.T.str)) z = some (opS pu)/\∀ s,pu = some s->s ∈ pn:=by
   obtain ⟨zz,rfl⟩:=Int.eq_ofNat_of_zero_le z0
   rw [FT.zbf]
   cases zz with
   | zero=>exact ⟨none,rfl,fun s h=>by cases h⟩
   | succ zz=>
    have hz:zz < (pn ++ pn).length:=by rw [Qn];omega
    rw [getElem?_cons_succ,← Qq,Qb,Q0 hz]
    exact ⟨some (pn ++ pn)[zz],rfl,fun s h=>by cases h;exact (mem_append.mp (getElem_mem hz)).elim id id⟩
  simp_arith [hpu]
  rw [hX];clear hX;simp only [yh]
  refine Ok.seqX fun X hX=>?_
  simp_arith [and_self]
  refine Ok.bind (qH p5 (by decide) (by decide)) ?_
  rintro t M6 ⟨y,rfl,y0,y1,p6,f6⟩
  obtain ⟨wo,hwo,hwa⟩:=zra y0 y1
  simp_arith [hwa]
  rw [hX];clear hX;simp only [yh]
  have f26:Fr [a,M.length] (M ++ [Cell.lst []]) M6:=(f24.tr f5 (by simp)).tr f6 (by simp)
  have g6:M6[M.length]? = some (.lst (as.map qC)):=f6.get (f5.get (f4.get (f3.get g2 (by simp;omega)) (by simp;omega)) (by simp;omega)) (by simp;omega)
  simp_arith [qR g6]
  refine Ok.bind (qH p6 (by decide) (by decide)) ?_
  rintro t M7 ⟨b1,rfl,b10,b11,p7,f7⟩
  simp_arith [and_self]
  refine Ok.bind (qH p7 (by decide) (by decide)) ?_
  rintro t M8 ⟨b2,rfl,b20,b21,p8,f8⟩
  have g8:M8[M.length]? = some (.lst (as.map qC)):=f8.get (f7.get g6 (by simp;omega)) (by simp;omega)
  obtain ⟨q0,hq0⟩:∃ q0:Ask,q0 = ⟨to,tr,pu,wo,b1 == 0,b2 == 0⟩:=⟨_,rfl⟩
  have ap:=zam (t:=qC q0) g8 (by rw [Qh,sizeLine_eq];omega)
  rw [show as.map qC ++ [qC q0] = (as ++ [q0]).map qC from by simp,show qC q0 = .tup [.str to,.int tr,opS pu,.str wo,.bl (b1 == 0),.bl (b2 == 0)] from by rw [hq0];rfl] at ap
  simp_arith [ap]
  refine Ok.ret ⟨_,rfl,⟨_,_,_,_,_,rfl⟩,⟨as ++ [q0],get_set g8,by simp [hk],fun q hq=>?_⟩,p8.fr (Fr.set _ _ _) (by simp;omega),((f26.tr f7 (by simp)).tr f8 (by simp)).tr (Fr.set _ _ _) (by simp)⟩
  rcases mem_append.mp hq with hq | hq
  ·exact hao q hq
  ·rw [QI.mp hq,hq0]
   exact ⟨hto,tr0,tr4,hpm,hwo⟩
 rintro fl M2 ⟨σ,rfl,⟨o5,o6,o7,o8,o9,rfl⟩,⟨as,g2,hk,hao⟩,p2,f2⟩
 rw [zb6] at hk
 rw [hX];clear hX;simp only [yh]
 simp_arith [zdR g2]
 refine Ok.ret ⟨as,rfl,by omega,hao,p2,?_⟩
 exact ((Fr.app M [Cell.lst []]).mono (S:=[a])).tr f2 (by simp)
end
theorem ziM {α:Type} (f:α->FT.T) (xs:List α) (k:Nat):zbU (xs.map f) (some (k:Int)) none = (xs.drop k).map f:=by
 unfold zbU
 rw [HT.zju,HT.zhY,Qh,← map_drop,← map_take]
 congr 1
 by_cases h:k<=xs.length
 ·rw [Nat.min_eq_left h,take_of_length_le (by rw [length_drop];omega)]
 ·rw [Nat.min_eq_right (by omega),List.drop_of_length_le (Q3 _),List.drop_of_length_le (by omega)]
  simp
theorem zqy {α:Type} (f:α->FT.T) (xs:List α) (k:Nat):zbU (xs.map f) none (some (k:Int)) = (xs.take k).map f:=by
 unfold zbU
 rw [HT.zju,HT.zhY,Qh,drop_zero,Nat.sub_zero,← map_take]
 congr 1
 by_cases h:k<=xs.length
 ·rw [Nat.min_eq_left h]
 ·rw [Nat.min_eq_right (by omega),take_of_length_le (Q3 _),take_of_length_le (by omega)]
variable {ws:List Str}
theorem Nms.sub {us:List Str} (h:Nms ws) (s:us.Sublist ws):Nms us:=⟨h.nd.sublist s,fun x hx=>h.w x (s.subset hx),h.ln.imp fun k hk x hx=>hk x (s.subset hx)⟩
theorem Nms.rev (h:Nms ws):Nms ws.reverse:=⟨List.pairwise_reverse.mpr (h.nd.imp Ne.symm),fun x hx=>h.w x (List.mem_reverse.mp hx),h.ln.imp fun k hk x hx=>hk x (List.mem_reverse.mp hx)⟩
structure GN (n:Net):Prop where
 hn:Nms (n.hs.map (·.name))
 h1:1<=n.hs.length
 h4:n.hs.length<=4
 pn:Nms (n.ps.map (·.name))
 p2:n.ps.length<=2
 pe:∀ p ∈ n.ps,(p.earns = "first"\/p.earns = "any")/\1<=p.per/\p.per<=9
 a3:∀ h ∈ n.hs,h.asks.length<=3
 ao:∀ i h,n.hs[i]? = some h->∀ q ∈ h.asks,AO ((n.hs.map (·.name)).drop (i + 1)) (n.ps.map (·.name)) q
 a6:(n.hs.map (·.asks.length)).sum<=6
section
theorem zpw {a:Nat} (e:PO a M):Ok (ze5 kE kR [.ref a] M) fun t M'=>∃ n,t = qf n/\GN n/\PO a M'/\Fr [a] M M':=by
 refine qB rfl ?_
 unfold zjN
 have ha:a < M.length:=by obtain ⟨p,e⟩:=e;exact qI e
 rw [show startT 10 [.ref a] = [some (.ref a),none,none,none,none,none,none,none,none,none] from rfl]
 refine Ok.seqR fun X hX=>?_
 simp_arith [and_self]
 refine Ok.bind (qH e (by decide) (by decide)) ?_
 rintro t M1 ⟨d,rfl,d0,d1,p1,f1⟩
 obtain ⟨v,hv,v1,v4⟩:=zeW (xs:=[2,3,3,4,4,3,2,1]) 1 4 d0 d1 rfl
 simp only [QG,map_nil] at hv
 obtain ⟨nh,rfl⟩:∃ nh:Nat,v = nh:=⟨v.toNat,by omega⟩
 simp_arith [hv]
 refine Ok.bind (zhC p1 (n:=nh) (by omega)) ?_
 rintro t M2 ⟨w,hs,rfl,gw,hw,nmh,hlh,p2,f2⟩
 try simp_arith [and_self]
 rw [hX];clear hX;simp only [yh]
 refine Ok.seqR fun X hX=>?_
 simp_arith [and_self]
 refine Ok.bind (qH p2 (by decide) (by decide)) ?_
 rintro t M3 ⟨d',rfl,d0',d1',p3,f3⟩
 obtain ⟨v',hv',v1',v4'⟩:=zeW (xs:=[0,1,1,2]) 0 2 d0' d1' rfl
 simp only [QG,map_nil] at hv'
 obtain ⟨np,rfl⟩:∃ np:Nat,v' = np:=⟨v'.toNat,by omega⟩
 simp_arith [hv']
 refine Ok.bind (zhC p3 (n:=np) (by omega)) ?_
 rintro t M4 ⟨w',ps,rfl,gw',hw',nmp,hlp,p4,f4⟩
 try simp_arith [and_self]
 rw [hX];clear hX;simp only [yh]
 have wa:w ≠ a:=by have:=f1.1;omega
 have lw2:w < M2.length:=qI gw
 have l3:=f3.1
 have wa':w' ≠ a:=by have:=f1.1;have:=f2.1;omega
 have gw4:M4[w]? = some (.lst (hs.map .str)):=f4.get (f3.get gw (by simpa using wa)) (by simpa using wa)
 refine Ok.seqR fun X hX=>?_
 simp_arith [and_self]
 refine Ok.bind (qH p4 (by decide) (by decide)) ?_
 rintro t M5 ⟨c,rfl,c0,c1,p5,f5⟩
 have gw5:M5[w]? = some (.lst (hs.map .str)):=f5.get gw4 (by simpa using wa)
 have gw5':M5[w']? = some (.lst (ps.map .str)):=f5.get gw' (by simpa using wa')
 have fr5:Fr [a] M M5:=((((f1.trans f2).trans f3).trans f4).trans f5)
 -- the purses as they lie
 have key:∀ (P:FT.T) (pn:List Str),PV P pn a M5->Nms pn->pn.length<=2->(∀ w2,P = .ref w2->w2 < M5.length)->∀ (X:Fl->Mem->Out FT.T),(X = fun fl M=>(zcj (zh (qr 3 (eTk (zD zd)))
 (zh (qr 4 (eC (.int 6)))
 (zh (zc5 (zQ (zb (ze (yp yu) (zb (yb 1) zd)) zd)) (yn 5) (zfM kE kR))
 (zh (qr 7 (eTk (zD zd)))
 (zh (zd2 (zau (yb 2)) (yn 8) (zfL kE kR))
 (yy (yD (zb (ze (yp zbH) (zb (yb 3) zd)) (zb (ze (yp zbH) (zb (yb 7) zd)) zd))))))))) fl M).bind zcE)->
   Ok (X (.nx [some (.ref a),some (.ref w),some P,none,none,none,none,none,none,none]) M5) fun t M'=>∃ n,t = qf n/\GN n/\PO a M'/\Fr [a] M M':=by
  intro P pn hP nmP hpl hPl X hX
  rw [hX]
  clear hX
  simp only [yh]
  refine Ok.seqR fun X hX=>?_
  try simp_arith [and_self]
  rw [hX];clear hX;simp only [yh]
  refine Ok.seqR fun X hX=>?_
  try simp_arith [and_self]
  rw [hX];clear hX;simp only [yh]
  have lM5:=fr5.1
  have g6:(M5 ++ [Cell.lst []])[w]? = some (.lst (hs.map .str)):=(Fr.app M5 [Cell.lst []]).get0 gw5
  refine Ok.seqR fun X hX=>?_
  simp_arith [zfB g6,Qh,za9 (M:=M5 ++ [Cell.lst []]) (j:=(hs.length:Int)) (by omega),QH]
  refine Ok.bind (Ok.for (r:=FT.T.int) (xs:=rgI hs.length) (fun k σ M'=>∃ (ss:List Hs) (o5 o6:Option FT.T),σ = [some (.ref a),some (.ref w),some P,some (.ref M5.length),some (.int (6 - ((ss.map (·.asks.length)).sum:Nat))),o5,o6,none,none,none]/\M'[M5.length]? = some (.lst (ss.map hsT))/\ss.map (·.name) = hs.take k/\(∀ h ∈ ss,h.asks.length<=3)/\(∀ i h,ss[i]? = some h->∀ q ∈ h.asks,AO (hs.drop (i + 1)) pn q)/\(ss.map (·.asks.length)).sum<=6/\PO a M'/\Fr [a,M5.length] (M5 ++ [Cell.lst []]) M') ⟨[],none,none,rfl,zI,rfl,(fun h hh=>by cases hh),(fun i h hh=>by simp at hh),by simp,p5.fr (Fr.app _ _) (by simp),Fr.refl _ _⟩ ?_) ?_
  ·rintro k x σ M6 hx ⟨ss,o5,o6,rfl,g3,hnm,ha3,hao,h6,p6,f6⟩
   obtain ⟨hk,rfl⟩:=zcS hx
   have hsl:ss.length = k:=by
    have:=congrArg List.length hnm
    rw [Qh,Qr] at this
    omega
   unfold zfM
   have gw6:M6[w]? = some (.lst (hs.map .str)):=f6.get g6 (by simp;have:=qI gw5;omega)
   have hP6:PV P pn a M6:=by
    rcases hP with h | ⟨w2,h1,h2,h3⟩
    ·exact .inl h
    ·exact .inr ⟨w2,h1,h2,f6.get ((Fr.app M5 [Cell.lst []]).get0 h3) (by simp;have:=qI h3;omega)⟩
   have lw:qv (.ref w) M6 = some (hs.map .str):=by unfold qv;simp only [gw6]
   have cu:zbU (hs.map FT.T.str) (some ((k:Int) + 1)) none = (hs.drop (k + 1)).map .str:=by
    rw [show (k:Int) + 1 = ((k + 1:Nat):Int) by omega,ziM]
   obtain ⟨mo,hmo,hmo3,hmor⟩:∃ mo:Nat,(if 6 - (((ss.map (·.asks.length)).sum:Nat):Int) < 3 then 6 - (((ss.map (·.asks.length)).sum:Nat):Int) else 3) = (mo:Int)/\mo<=3/\mo + (ss.map (·.asks.length)).sum<=6:=by
    split
    ·exact ⟨(6 - (((ss.map (·.asks.length)).sum:Nat):Int)).toNat,by omega,by omega,by omega⟩
    ·exact ⟨3,rfl,by omega,by omega⟩
   refine Ok.seqX fun X hX=>?_
   simp_arith [lw,cu,zgJ,hmo]
   refine Ok.bind (zov p6 hP6 (by rw [length_drop];omega) hpl hmo3) ?_
   rintro t M7 ⟨as,rfl,hal,haq,p7,f7⟩
   try simp_arith [and_self]
   rw [hX];clear hX;simp only [yh]
   refine Ok.seqX fun X hX=>?_
   simp_arith [Qh]
   rw [hX];clear hX;simp only [yh]
   have g37:M7[M5.length]? = some (.lst (ss.map hsT)):=f7.get g3 (by simp;omega)
   have gw7:M7[w]? = some (.lst (hs.map .str)):=f7.get gw6 (by simpa using wa)
   have hnk:hs[k]? = some (hs[k]'hk):=Q0 hk
   have ix:ixT (.ref w) (.int (k:Int)) M7 = .ok (.str (hs[k]'hk)) M7:=by
    unfold ixT ziw
    simp only [gw7,qq (f:=FT.T.str) hnk]
    rfl
   have ap:=zam (t:=hsT ⟨hs[k]'hk,as⟩) g37 (by rw [Qh,sizeLine_eq];omega)
   rw [show ss.map hsT ++ [hsT ⟨hs[k]'hk,as⟩] = (ss ++ [(⟨hs[k]'hk,as⟩:Hs)]).map hsT from by simp,show hsT ⟨hs[k]'hk,as⟩ = .tup [.str (hs[k]'hk),.tup (as.map qC)] from rfl] at ap
   have ix2:(zfz (atI (hs.map FT.T.str) (k:Int)) M7) = .ok (.str (hs[k]'hk)) M7:=by rw [qq (f:=FT.T.str) hnk];rfl
   simp_arith [qR g37,gw7,qq (f:=FT.T.str) hnk,ap]
   have sm:((ss ++ [(⟨hs[k]'hk,as⟩:Hs)]).map (·.asks.length)).sum = (ss.map (·.asks.length)).sum + as.length:=by simp
   refine Ok.ret ⟨_,rfl,ss ++ [⟨hs[k]'hk,as⟩],some (.int (k:Int)),some (.tup (as.map qC)),?_,get_set g37,?_,fun h hh=>?_,fun i h hi q hq=>?_,?_,p7.fr (Fr.set _ _ _) (by simp;omega),(f6.tr f7 (by simp)).tr (Fr.set _ _ _) (by simp)⟩
   ·rw [sm,show (6:Int) - (((ss.map (·.asks.length)).sum + as.length:Nat):Int) = 6 - (((ss.map (·.asks.length)).sum:Nat):Int) - (as.length:Int) by omega]
   ·rw [Qq,hnm,take_succ,hnk];rfl
   ·rcases mem_append.mp hh with hh | hh
    ·exact ha3 h hh
    ·rw [QI.mp hh];show as.length<=3;omega
   ·rw [List.getElem?_append] at hi
    split at hi
    ·exact hao i h hi q hq
    ·have:i = k:=by
      have:=(Qz.mp hi).1
      rw [Qu] at this
      omega
     subst this
     rw [hsl,Qv] at hi
     cases hi
     exact haq q hq
   ·rw [sm];omega
  rintro fl M6 ⟨σ,rfl,ss,o5,o6,rfl,g3,hnm,ha3,hao,h6,p6,f6⟩
  rw [zb6,take_length] at hnm
  rw [hX];clear hX;simp only [yh]
  refine Ok.seqR fun X hX=>?_
  try simp_arith [and_self]
  rw [hX];clear hX;simp only [yh]
  have hP7:PV P pn a (M6 ++ [Cell.lst []]):=by
   rcases hP with h | ⟨w2,h1,h2,h3⟩
   ·exact .inl h
   ·exact .inr ⟨w2,h1,h2,(Fr.app M6 [Cell.lst []]).get0 (f6.get ((Fr.app M5 [Cell.lst []]).get0 h3) (by simp;have:=qI h3;omega))⟩
  have l6:M5.length < M6.length:=qI g3
  obtain ⟨G,hG,hGk⟩:∃ G,zd7 P (M6 ++ [Cell.lst []]) = some (pn.map .str,G)/\∀ M',Fr [a,M6.length] (M6 ++ [Cell.lst []]) M'->zaZ G M':=by
   rcases hP7 with rfl | ⟨w2,rfl,h2,h3⟩
   ·exact ⟨[],rfl,fun M' f=>zmC M'⟩
   ·refine ⟨[(w2,pn.map .str)],?_,fun M' f=>zcb (f.get h3 ?_)⟩
    ·unfold zd7
     simp only [h3]
    ·have:=hPl w2 rfl
     simp
     omega
  refine Ok.seqR fun X hX=>?_
  simp_arith [zd2,zau,hG]
  refine Ok.bind (Ok.forG (G:=G) (r:=FT.T.str) (xs:=pn) (fun k σ M'=>∃ (us:List Pu) (o8 o9:Option FT.T),σ = [some (.ref a),some (.ref w),some P,some (.ref M5.length),some (.int (6 - ((ss.map (·.asks.length)).sum:Nat))),o5,o6,some (.ref M6.length),o8,o9]/\M'[M6.length]? = some (.lst (us.map puT))/\us.map (·.name) = pn.take k/\(∀ p ∈ us,(p.earns = "first"\/p.earns = "any")/\1<=p.per/\p.per<=9)/\PO a M'/\Fr [a,M6.length] (M6 ++ [Cell.lst []]) M') (fun i σ M' h=>by obtain ⟨_,_,_,_,_,_,_,_,f⟩:=h;exact hGk _ f) ⟨[],none,none,rfl,zI,rfl,(fun h hh=>by cases hh),p6.fr (Fr.app _ _) (by simp),Fr.refl _ _⟩ ?_) ?_
  ·rintro k x σ M7 hx ⟨us,o8,o9,rfl,g7,hun,hpe,p7,f7⟩
   have hk:=(Qz.mp hx).1
   have hul:us.length = k:=by
    have:=congrArg List.length hun
    rw [Qh,Qr] at this
    omega
   unfold zfL
   refine Ok.seqX fun X hX=>?_
   simp_arith [and_self]
   refine Ok.bind (qH p7 (by decide) (by decide)) ?_
   rintro t M8 ⟨z,rfl,z0,z1,p8,f8⟩
   obtain ⟨ea,hea,hat⟩:=zmV (xs:=["first","any"]) z0 (by simpa using z1)
   simp only [QG,map_nil] at hat
   have hea:ea = "first"\/ea = "any":=by simpa using hea
   simp_arith [hat]
   rw [hX];clear hX;simp only [yh]
   have g8:M8[M6.length]? = some (.lst (us.map puT)):=f8.get g7 (by simp;omega)
   simp_arith [qR g8]
   refine Ok.bind (qH p8 (by decide) (by decide)) ?_
   rintro t M9 ⟨y,rfl,y0,y1,p9,f9⟩
   simp_arith [and_self]
   refine Ok.bind (qH p9 (by decide) (by decide)) ?_
   rintro t M10 ⟨u,rfl,u0,u1,p10,f10⟩
   obtain ⟨pr,hpr,hp1,hp9⟩:∃ pr:Int,atI [FT.T.int 1,.int 1,.int 2,.int 3,.int (1 + y)] u = some (.int pr)/\1<=pr/\pr<=9:=by
    have:u = 0\/u = 1\/u = 2\/u = 3\/u = 4:=by omega
    rcases this with rfl | rfl | rfl | rfl | rfl
    ·exact ⟨1,rfl,by decide,by decide⟩
    ·exact ⟨1,rfl,by decide,by decide⟩
    ·exact ⟨2,rfl,by decide,by decide⟩
    ·exact ⟨3,rfl,by decide,by decide⟩
    ·exact ⟨1 + y,rfl,by omega,by omega⟩
   have g10:M10[M6.length]? = some (.lst (us.map puT)):=f10.get (f9.get g8 (by simp;omega)) (by simp;omega)
   have ap:=zam (t:=puT ⟨x,ea,pr⟩) g10 (by rw [Qh,sizeLine_eq];omega)
   rw [show us.map puT ++ [puT ⟨x,ea,pr⟩] = (us ++ [(⟨x,ea,pr⟩:Pu)]).map puT from by simp,show puT ⟨x,ea,pr⟩ = .tup [.str x,.str ea,.int pr] from rfl] at ap
   simp_arith [hpr,ap]
   refine Ok.ret ⟨_,rfl,us ++ [⟨x,ea,pr⟩],_,_,rfl,get_set g10,by rw [Qq,hun,take_succ,hx];rfl,fun p hp=>?_,p10.fr (Fr.set _ _ _) (by simp;omega),(((f7.tr f8 (by simp)).tr f9 (by simp)).tr f10 (by simp)).tr (Fr.set _ _ _) (by simp)⟩
   rcases mem_append.mp hp with hp | hp
   ·exact hpe p hp
   ·rw [QI.mp hp];exact ⟨hea,hp1,hp9⟩
  rintro fl M7 ⟨σ,rfl,us,o8,o9,rfl,g7,hun,hpe,p7,f7⟩
  rw [take_length] at hun
  rw [hX];clear hX;simp only [yh]
  have g37:M7[M5.length]? = some (.lst (ss.map hsT)):=f7.get ((Fr.app M6 [Cell.lst []]).get0 g3) (by simp;omega)
  simp_arith [zdR g37,zdR g7]
  have hsn:ss.length = hs.length:=by have:=congrArg List.length hnm;rwa [Qh] at this
  have hun2:us.length = pn.length:=by have:=congrArg List.length hun;rwa [Qh] at this
  refine Ok.ret ⟨⟨ss,us⟩,rfl,⟨by rw [hnm];exact nmh,by show 1<=ss.length;omega,by show ss.length<=4;omega,by rw [hun];exact nmP,by show us.length<=2;omega,hpe,ha3,by rw [hnm,hun];exact hao,h6⟩,p7,?_⟩
  refine (fr5.tr (Fr.app M5 [Cell.lst []]) (by simp)).tr (f6.tr (((Fr.app M6 [Cell.lst []]).mono (S:=[a])).tr f7 (by simp)) ?_) ?_
  all_goals simp
  all_goals omega
 by_cases hc:c = 0
 ·have lw:qv (.ref w) M5 = some (hs.map .str):=by unfold qv;simp only [gw5]
  have rv:zgy (.ref w) (some (-1)) M5 = .ok (.lst (hs.reverse.map .str)) M5:=by
   show (if (some (-1:Int)) = some (-1) then rvX (.ref w) M5 else .bad) = _
   rw [QA rfl]
   unfold rvX
   simp only [lw]
   rw [List.map_reverse]
  have ll:qv (.lst (hs.reverse.map FT.T.str)) M5 = some (hs.reverse.map .str):=rfl
  have cu:=zqy FT.T.str hs.reverse ps.length
  subst hc
  simp_arith [eRv,rv,zfB gw5',Qh,ll,cu]
  exact key _ (hs.reverse.take ps.length) (.inl rfl) (nmh.rev.sub (List.take_sublist _ _)) (by rw [Qr];omega) (fun w2 z=>by cases z) _ hX
 ·simp_arith [show (c == 0) = false by simpa using hc]
  exact key _ ps (.inr ⟨w',rfl,wa',gw5'⟩) nmp (by omega) (fun w2 z=>by cases z;exact qI gw5') _ hX
end
variable {ys:List Str} {s:Str}
theorem ze3 (nd:ys.Nodup) (h:ys[j]? = some s):∀ k,zcH s ys k = some (k + j):=by
 induction ys generalizing j with
 | nil=>simp at h
 | cons y ys ih=>
  intro k
  have nd':=nodup_cons.mp nd
  unfold zcH
  cases j with
  | zero=>
   simp at h
   rw [h]
   simp
  | succ j=>
   simp at h
   have hne:¬ (y == s) = true:=fun z=>by
    have:y = s:=by simpa using z
    exact nd'.1 (this ▸ Qa h)
   rw [QB hne,ih nd'.2 h (k + 1)]
   congr 1
   omega
theorem zic (nd:ys.Nodup) (h:s ∈ ys.drop k):∃ j,k<=j/\ys[j]? = some s:=by
 obtain ⟨i,hi⟩:=mem_iff_getElem?.mp h
 rw [List.getElem?_drop] at hi
 exact ⟨k + i,by omega,hi⟩
variable {n:Net}
theorem GN.wn (h:GN n):WN n:=by
 refine ⟨h.h4,h.h1,by have:=h.p2;omega,fun x hx=>by have:=h.a3 x hx;omega,fun i a ha=>?_,fun p hp=>by have:=h.pe p hp;omega⟩
 unfold Net.asks at ha
 cases e:n.hs[i]? with
 | none=>rw [e] at ha;cases ha
 | some x=>
  rw [e] at ha
  have ao:=h.ao i x e a ha
  obtain ⟨j,hj,ej⟩:=zic h.hn.nd ao.to
  have q:=ze3 h.hn.nd ej 0
  rw [Nat.zero_add] at q
  have qx:n.hix a.to = j:=by unfold Net.hix;rw [q];rfl
  refine ⟨by rw [q,qx],by omega,fun s hs=>?_,ao.t0⟩
  obtain ⟨k,ek⟩:=mem_iff_getElem?.mp (ao.pu s hs)
  have q:=ze3 h.pn.nd ek 0
  unfold Net.pix
  rw [q]
  rfl
noncomputable abbrev Bt:=Option (Nat × Nat)
noncomputable def isG (n:Net) (k:Nat):Bt->Bool
 | some (j,t)=>decide (j = k) && (decide (t = 1) || n.any k)
 | none=>false
noncomputable def isP (k:Nat):Bt->Bool
 | some (j,t)=>decide (j = k) && decide (1 < t)
 | none=>false
noncomputable def pos (p:Bt->Bool) (B:List Bt):List Nat:=(List.range B.length).filter fun i=>p (B.getD i none)
theorem zaW (p:Bt->Bool) (B:List Bt) (x:Bt):pos p (B ++ [x]) = pos p B ++ if p x = true then [B.length] else []:=by
 unfold pos
 rw [Qn,Qu,range_succ,filter_append]
 congr 1
 ·refine List.filter_congr fun i hi=>?_
  have hi:=mem_range.mp hi
  rw [Q7,Q7,Q6 hi]
 ·rw [filter_cons,filter_nil,Q7,Q8 (Q3 _),Qv]
  rfl
variable {B:List Bt}
theorem zkS {p:Bt->Bool} (h:i ∈ pos p B):i < B.length:=mem_range.mp (mem_filter.mp h).1
noncomputable def Net.per (n:Net) (k:Nat):Nat:=(n.ps.getD k ⟨"","",1⟩).per.toNat
noncomputable def lo (u:List Nat) (e:Nat):Nat:=(u.filter fun x=>decide (x < e)).length
variable {u:List Nat} {x:Nat}
theorem zjG {e:Nat} (h:e<=x):lo (u ++ [x]) e = lo u e:=by
 unfold lo
 rw [filter_append,filter_cons,QB (by simp;omega)]
 simp
theorem zpC {e:Nat} (h:∀ x ∈ u,x < e):lo u e = u.length:=by
 unfold lo
 rw [List.filter_eq_self.mpr fun x hx=>Qw (h x hx)]
structure LI (n:Net) (B:List Bt) (pu:List (List Nat)) (py:List (Nat × Nat × Nat)) (tk:List Nat):Prop where
 ul:pu.length = n.ps.length
 tl:tk.length = n.ps.length
 pu:∀ k,k < n.ps.length->pu.getD k [] = pos (isG n k) B
 tk:∀ k,k < n.ps.length->tk.getD k 0 = (pos (isP k) B).length
 pa:∀ p ∈ py,p.1 < B.length/\p.2.1 < n.ps.length
 pw:(py.map (·.1)).Pairwise (· < ·)
 pk:∀ k,k < n.ps.length->(py.filter fun p=>p.2.1 == k).map (fun p=>(p.1,p.2.2)) = (pos (isP k) B).zipIdx
 co:∀ k,k < n.ps.length->∀ (j e:Nat),(pos (isP k) B)[j]? = some e->(j + 1) * n.per k<=lo (pos (isG n k) B) e
theorem zix {α:Type} {xs:List α} {y d:α} (hk:k < xs.length):(xs.set k y).getD j d = if j = k then y else xs.getD j d:=by
 rw [Q7,Q7,Qc]
 by_cases h:k = j
 ·rw [QA h,QA hk,QA h.symm];rfl
 ·rw [QB h,QB (Ne.symm h)]
section
variable {pu:List (List Nat)} {py:List (Nat × Nat × Nat)} {tk:List Nat}
theorem LI.non (h:LI n B pu py tk):LI n (B ++ [none]) pu py tk:=by
 have e1:∀ k,pos (isG n k) (B ++ [none]) = pos (isG n k) B:=fun k=>by rw [zaW];simp [isG]
 have e2:∀ k,pos (isP k) (B ++ [none]) = pos (isP k) B:=fun k=>by rw [zaW];simp [isP]
 exact ⟨h.ul,h.tl,fun k hk=>by rw [e1];exact h.pu k hk,fun k hk=>by rw [e2];exact h.tk k hk,fun p hp=>by rw [Qn];have:=h.pa p hp;exact ⟨by omega,this.2⟩,h.pw,fun k hk=>by rw [e2];exact h.pk k hk,fun k hk=>by rw [e1,e2];exact h.co k hk⟩
theorem zio (k t:Nat):isG n k (some (k,t)) = (decide (t = 1) || n.any k):=by simp [isG]
theorem zlh (t:Nat) (h:k ≠ j):isG n j (some (k,t)) = false:=by simp [isG,h]
theorem zpT (t:Nat) (h:k ≠ j):isP j (some (k,t)) = false:=by simp [isP,h]
noncomputable def shr (n:Net) (k t:Nat) (B:List Bt) (pu:List (List Nat)):List (List Nat):=if t = 1\/n.any k = true then pu.set k (pu.getD k [] ++ [B.length]) else pu
theorem LI.shr_pu (h:LI n B pu py tk) {t:Nat} (hk:k < n.ps.length):∀ j,j < n.ps.length->(shr n k t B pu).getD j [] = pos (isG n j) (B ++ [some (k,t)]):=by
 intro j hj
 rw [zaW]
 unfold shr
 by_cases c:t = 1\/n.any k = true
 ·rw [QA c,zix (by rw [h.ul];exact hk)]
  by_cases e:j = k
  ·subst e
   rw [QA rfl,zio,h.pu j hj,QA (by simpa using c)]
  ·rw [QB e,zlh t (Ne.symm e),QB (by simp),append_nil]
   exact h.pu j hj
 ·rw [QB c,h.pu j hj]
  by_cases e:j = k
  ·subst e
   rw [zio,QB (by simpa using c),append_nil]
  ·rw [zlh t (Ne.symm e),QB (by simp),append_nil]
theorem zjr (k t:Nat) (B:List Bt) (pu:List (List Nat)):(shr n k t B pu).length = pu.length:=by unfold shr;split <;> simp
theorem zih {p q:Bt->Bool} {x:Bt} {e:Nat} (he:e ∈ pos q B):lo (pos p (B ++ [x])) e = lo (pos p B) e:=by
 rw [zaW]
 split
 ·exact zjG (Nat.le_of_lt (zkS he))
 ·rw [append_nil]
theorem LI.first (h:LI n B pu py tk) (hk:k < n.ps.length):LI n (B ++ [some (k,1)]) (shr n k 1 B pu) py tk:=by
 have e2:∀ j,pos (isP j) (B ++ [some (k,1)]) = pos (isP j) B:=fun j=>by rw [zaW];simp [isP]
 refine ⟨by rw [zjr];exact h.ul,h.tl,h.shr_pu hk,fun j hj=>by rw [e2];exact h.tk j hj,fun p hp=>by rw [Qn];have:=h.pa p hp;exact ⟨by omega,this.2⟩,h.pw,fun j hj=>by rw [e2];exact h.pk j hj,fun j hj i e he=>?_⟩
 rw [e2] at he
 rw [zih (Qa he)]
 exact h.co j hj i e he
theorem LI.again (h:LI n B pu py tk) {t:Nat} (hk:k < n.ps.length) (ht:1 < t) (hc:(tk.getD k 0 + 1) * n.per k<=(pu.getD k []).length):LI n (B ++ [some (k,t)]) (shr n k t B pu) (py ++ [(B.length,k,tk.getD k 0)]) (tk.set k (tk.getD k 0 + 1)):=by
 have e2:∀ j,j ≠ k->pos (isP j) (B ++ [some (k,t)]) = pos (isP j) B:=fun j hj=>by rw [zaW,zpT t (Ne.symm hj),QB (by simp),append_nil]
 have e3:pos (isP k) (B ++ [some (k,t)]) = pos (isP k) B ++ [B.length]:=by rw [zaW,QA (by simp [isP,ht])]
 refine ⟨by rw [zjr];exact h.ul,by rw [length_set];exact h.tl,h.shr_pu hk,fun j hj=>?_,fun p hp=>?_,?_,fun j hj=>?_,fun j hj i e he=>?_⟩
 ·rw [zix (by rw [h.tl];exact hk)]
  by_cases e:j = k
  ·subst e
   rw [QA rfl,e3,Qn,h.tk j hj];rfl
  ·rw [QB e,e2 j e];exact h.tk j hj
 ·rw [Qn,Qu]
  rcases mem_append.mp hp with hp | hp
  ·have:=h.pa p hp;exact ⟨by omega,this.2⟩
  ·rw [QI.mp hp];exact ⟨Nat.lt_succ_self _,hk⟩
 ·rw [Qq,List.pairwise_append]
  refine ⟨h.pw,List.pairwise_singleton ..,fun x hx y hy=>?_⟩
  obtain ⟨p,hp,rfl⟩:=mem_map.mp hx
  rw [QI.mp hy]
  exact (h.pa p hp).1
 ·rw [filter_append,Qq,h.pk j hj]
  by_cases e:j = k
  ·subst e
   rw [e3,List.zipIdx_append,h.tk j hj]
   simp
  ·have:(k == j) = false:=by simpa using Ne.symm e
   rw [e2 j e]
   simp [this]
 ·by_cases ej:j = k
  ·subst ej
   rw [e3] at he
   by_cases hi:i < (pos (isP j) B).length
   ·rw [Q6 hi] at he
    rw [zih (Qa he)]
    exact h.co j hj i e he
   ·have hl:=(Qz.mp he).1
    rw [Qn,Qu] at hl
    have hi':i = (pos (isP j) B).length:=by omega
    subst hi'
    rw [Q8 (Q3 _),Qv] at he
    cases he
    have hlo:lo (pos (isG n j) (B ++ [some (j,t)])) B.length = (pos (isG n j) B).length:=by
     rw [← zpC (fun x hx=>zkS (p:=isG n j) (B:=B) hx),zaW]
     split
     ·rw [zjG (Q3 _)]
     ·rw [append_nil]
    rw [hlo,← h.tk j hj,← h.pu j hj]
    exact hc
  ·rw [e2 j ej] at he
   rw [zih (Qa he)]
   exact h.co j hj i e he
end
noncomputable abbrev Sk:=Nat × Option (Nat × Nat × Nat)
noncomputable def qh (R:Run):List Sk:=R.es.map fun e=>(e.house,e.caller)
noncomputable def btc (n:Net) (L:List Sk) (c:Option (Nat × Nat × Nat)):Bt:=c.bind fun c=>(L[c.1]?).bind fun s=>((n.asks s.1)[c.2.1]?).bind fun a=>(n.pof a).map fun k=>(k,c.2.2)
noncomputable def bts (n:Net) (L:List Sk):List Bt:=L.map fun s=>btc n L s.2
def Wf (L:List Sk):Prop:=∀ s ∈ L,∀ c,s.2 = some c->c.1 < L.length
variable {L:List Sk}
theorem ziV {x:Sk} {c:Option (Nat × Nat × Nat)} (h:∀ c',c = some c'->c'.1 < L.length):btc n (L ++ [x]) c = btc n L c:=by
 cases c with
 | none=>rfl
 | some c=>
  show (((L ++ [x])[c.1]?).bind _) = _
  rw [Q6 (h c rfl)]
  rfl
theorem zmM {x:Sk} (w:Wf L) (h:∀ c',x.2 = some c'->c'.1 < L.length):bts n (L ++ [x]) = bts n L ++ [btc n L x.2]:=by
 unfold bts
 rw [Qq,List.map_singleton,ziV h]
 congr 1
 exact map_congr_left fun s hs=>ziV (w s hs)
theorem Wf.snoc {x:Sk} (w:Wf L) (h:∀ c',x.2 = some c'->c'.1 < L.length):Wf (L ++ [x]):=fun s hs c hc=>by
 rw [Qn,Qu]
 rcases mem_append.mp hs with hs | hs
 ·exact Nat.lt_succ_of_lt (w s hs c hc)
 ·rw [QI.mp hs] at hc
  exact Nat.lt_succ_of_lt (h c hc)
def LR (n:Net) (R:Run):Prop:=Wf (qh R)/\LI n (bts n (qh R)) R.puts R.pays R.taken
def LP (n:Net) (R:Run) (c:Option (Nat × Nat × Nat)):Prop:=Wf (qh R)/\(∀ c',c = some c'->c'.1 < (qh R).length)/\LI n (bts n (qh R) ++ [btc n (qh R) c]) R.puts R.pays R.taken
theorem zdE (R:Run):(qh R).length = R.es.length:=Qh ..
theorem zdP (n:Net) (R:Run):(bts n (qh R)).length = R.es.length:=by unfold bts;rw [Qh,zdE]
variable {e:Er} {R:Run}
theorem zeU (h:R.es[i]? = some e):(qh R)[i]? = some (e.house,e.caller):=by unfold qh;rw [Qb,h];rfl
theorem zeT (R:Run) (h:Nat) (c:Option (Nat × Nat × Nat)):qh (R.push (yq h c)) = qh R ++ [(h,c)]:=by unfold qh Run.push;rw [Qq];rfl
variable {e':Er}
theorem zeS (he:R.es[i]? = some e) (h1:e'.house = e.house) (h2:e'.caller = e.caller):qh (R.setE i e') = qh R:=by
 unfold qh Run.setE
 refine ext_getElem? fun j=>?_
 rw [Qb,Qb,Qc]
 split
 ·rename_i z
  subst z
  rw [QA (Qz.mp he).1,he]
  simp [h1,h2]
 ·rfl
variable {h:Nat}
theorem LP.push {c:Option (Nat × Nat × Nat)} (p:LP n R c):LR n (R.push (yq h c)):=by
 unfold LR
 rw [zeT]
 refine ⟨p.1.snoc p.2.1,?_⟩
 rw [zmM p.1 p.2.1]
 exact p.2.2
theorem LR.setE (p:LR n R) (he:R.es[i]? = some e) (h1:e'.house = e.house) (h2:e'.caller = e.caller):LR n (R.setE i e'):=by
 unfold LR
 rw [zeS he h1 h2]
 exact p
variable {at':Nat}
theorem ziW {num t:Nat} {a:Ask} (he:R.es[num]? = some e) (ha:(n.asks e.house)[at']? = some a):btc n (qh R) (some (num,at',t)) = (n.pof a).map fun k=>(k,t):=by
 show (((qh R)[num]?).bind _) = _
 rw [zeU he]
 show (((n.asks e.house)[at']?).bind _) = _
 rw [ha]
 rfl
theorem zhQ (n:Net) (R:Run) (a:Ask) (t:Nat) (q:n.pof a = some k):(R.share n a t R.es.length).puts = shr n k t (bts n (qh R)) R.puts/\qh (R.share n a t R.es.length) = qh R/\(R.share n a t R.es.length).pays = R.pays/\(R.share n a t R.es.length).taken = R.taken:=by
 obtain ⟨s1,_,s3,s4,_⟩:=yZ R n a t R.es.length
 refine ⟨?_,by unfold qh;rw [s1],s4,s3⟩
 unfold Run.share shr
 rw [q,zdP]
 dsimp only
 split <;> rfl
theorem zfT (n:Net) (R:Run) (a:Ask) (t x:Nat) (q:n.pof a = none):R.share n a t x = R:=by unfold Run.share;rw [q]
theorem LR.share1 (p:LR n R) {num:Nat} {a:Ask} (he:R.es[num]? = some e) (ha:(n.asks e.house)[at']? = some a) (hk:∀ k,n.pof a = some k->k < n.ps.length):LP n (R.share n a 1 R.es.length) (some (num,at',1)):=by
 have hn:=(Qz.mp he).1
 have hc:∀ c',some (num,at',1) = some c'->c'.1 < (qh R).length:=fun c' z=>by cases z;rw [zdE];exact hn
 have hb:=ziW (t:=1) he ha
 cases q:n.pof a with
 | none=>
  rw [zfT n R a 1 _ q]
  rw [q] at hb
  refine ⟨p.1,hc,?_⟩
  rw [hb]
  exact p.2.non
 | some k=>
  obtain ⟨s1,s2,s3,s4⟩:=zhQ n R a 1 q
  rw [q] at hb
  unfold LP
  rw [s2,s3,s4,s1,hb]
  exact ⟨p.1,hc,p.2.first (hk k q)⟩
theorem LR.share2 (p:LR n R) {num t:Nat} {a:Ask} (he:R.es[num]? = some e) (ha:(n.asks e.house)[at']? = some a) (ht:1 < t) (hk:∀ k,n.pof a = some k->k < n.ps.length/\(R.taken.getD k 0 + 1) * n.per k<=(R.puts.getD k []).length):LP n ((takeO R (n.pof a)).share n a t R.es.length) (some (num,at',t)):=by
 have hn:=(Qz.mp he).1
 have hc:∀ c',some (num,at',t) = some c'->c'.1 < (qh R).length:=fun c' z=>by cases z;rw [zdE];exact hn
 have hb:=ziW (t:=t) he ha
 cases q:n.pof a with
 | none=>
  rw [zfT n _ a t _ q]
  rw [q] at hb
  refine ⟨p.1,hc,?_⟩
  show LI n (bts n (qh R) ++ [btc n (qh R) _]) R.puts R.pays R.taken
  rw [hb]
  exact p.2.non
 | some k=>
  obtain ⟨s1,s2,s3,s4⟩:=zhQ n (zcN R k) a t q
  rw [q] at hb
  show LP n ((zcN R k).share n a t (zcN R k).es.length) _
  unfold LP
  rw [s2,s3,s4,s1]
  show Wf (qh R)/\_/\LI n (bts n (qh R) ++ [btc n (qh R) _]) (shr n k t (bts n (qh R)) R.puts) (R.pays ++ [(R.es.length,k,R.taken.getD k 0)]) (R.taken.set k (R.taken.getD k 0 + 1))
  rw [hb]
  have:=p.2.again (t:=t) (hk k q).1 ht (hk k q).2
  rw [zdP] at this
  exact ⟨p.1,hc,this⟩
theorem zfc {n:Net} (wn:WN n):∀ (f:Nat) {R:Run} {h:Nat} {c:Option (Nat × Nat × Nat)},0 < f->LP n R c->n.hs.length<=h + f->LR n (zA n f R h c)
 | 0,R,h,c,hf,_,_=>absurd hf (by omega)
 | f + 1,R,h,c,_,p,hl=>by
  have p1:=p.push (h:=h)
  by_cases h0:n.asks h = []
  ·have e1:zA n (f + 1) R h c = R.push (yq h c):=by unfold zA;rw [QA h0]
   rw [e1]
   exact p1
  ·have e1:zA n (f + 1) R h c = qP n (zA n f) (R.push (yq h c)) R.es.length 0 1:=by rw [zA,QB h0]
   obtain ⟨a,as,hq⟩:=List.exists_cons_of_ne_nil h0
   have ha:(n.asks (yq h c).house)[0]? = some a:=by show (n.asks h)[0]? = _;rw [hq];rfl
   have w:=wn.as h a (by rw [hq];exact .head _)
   have hup:=w.up
   have hlt:=w.lt
   rw [e1,zb4 (zW R _) ha]
   refine zfc wn f (by omega) ?_ (by omega)
   have hl:∀ e',((R.push (yq h c)).setE R.es.length e').es.length = (R.push (yq h c)).es.length:=fun e'=>length_set ..
   have:=(p1.setE (e':={ yq h c with ph:=.waits 0 1,asked:=some (R.push (yq h c)).es.length }) (zW R _) rfl rfl).share1 (zcI (zW R (yq h c)) _) ha fun k q=>w.plt q
   rw [hl] at this
   exact this
theorem znb (wn:WN n) (p:LR n R) {num:Nat} (he:R.es[num]? = some e) (hat:at' < (n.asks e.house).length):LR n (qP n (zA n 4) R num at' 1):=by
 have ha:(n.asks e.house)[at']? = some (n.asks e.house)[at']:=Q0 hat
 have w:=wn.as e.house _ (Qa ha)
 rw [zb4 he ha]
 have hl:(R.setE num { e with ph:=.waits at' 1,asked:=some R.es.length }).es.length = R.es.length:=length_set ..
 refine zfc wn 4 (by omega) ?_ (by have:=wn.hl;omega)
 have:=(p.setE (e':={ e with ph:=.waits at' 1,asked:=some R.es.length }) he rfl rfl).share1 (zcI he _) ha fun k q=>w.plt q
 rw [hl] at this
 exact this
theorem zlP (wn:WN n) (p:LR n R) {num t:Nat} (he:R.es[num]? = some e) (hat:at' < (n.asks e.house).length) (ht:1 < t) (hk:∀ k,n.pof (n.asks e.house)[at'] = some k->(R.taken.getD k 0 + 1) * n.per k<=(R.puts.getD k []).length) :
  LR n (qP n (zA n 4) (takeO R (n.pof (n.asks e.house)[at'])) num at' t):=by
 have ha:(n.asks e.house)[at']? = some (n.asks e.house)[at']:=Q0 hat
 have w:=wn.as e.house _ (Qa ha)
 have te:=zc0 R (n.pof (n.asks e.house)[at'])
 rw [zb4 (by rw [te.1];exact he) ha,te.1]
 refine zfc wn 4 (by omega) ?_ (by have:=wn.hl;omega)
 have hl:(R.setE num { e with ph:=.waits at' t,asked:=some R.es.length }).es.length = R.es.length:=length_set ..
 have:=(p.setE (e':={ e with ph:=.waits at' t,asked:=some R.es.length }) he rfl rfl).share2 (zcI he _) ha ht fun k q=>⟨w.plt q,hk k q⟩
 rw [hl] at this
 have e3:takeO (R.setE num { e with ph:=.waits at' t,asked:=some R.es.length }) (n.pof (n.asks e.house)[at']) = (takeO R (n.pof (n.asks e.house)[at'])).setE num { e with ph:=.waits at' t,asked:=some R.es.length }:=by
  cases n.pof (n.asks e.house)[at'] with
  | none=>rfl
  | some k=>
   show zcN _ k = (zcN R k).setE _ _
   unfold zcN
   rw [hl]
   rfl
 rw [e3] at this
 exact this
variable {g:Run->Nat->Str->Run} {w:Str}
theorem zit (wn:WN n) (p:LR n R) {c:Nat × Nat × Nat} (hg:LR n (g R c.1 w)):LR n (yW n g R c w):=by
 unfold yW
 split
 ·exact p
 ·rename_i e he
  split
  ·rename_i h1
   exact znb wn p he h1.2
  ·split
   ·exact hg
   ·exact p.setE he rfl rfl
theorem ze8 {n:Net} (wn:WN n):∀ (f:Nat) {R:Run} {i:Nat} {w:Str},LR n R->LR n (zN n f R i w)
 | 0,R,i,w,p=>p
 | f + 1,R,i,w,p=>by
  unfold zN
  split
  ·exact p
  ·rename_i e he
   split
   ·exact p.setE he rfl rfl
   ·rename_i c hc
    split
    ·exact p.setE he rfl rfl
    ·have p1:=p.setE (e':={ e with ph:=.ended w }) he rfl rfl
     exact zit wn p1 (ze8 wn f p1)
theorem zop (wn:WN n) (q:n.pof (n.ask e.house e.ph.at1) = some k) (hk:k < n.ps.length) (h:zeO n R e = true):(R.taken.getD k 0 + 1) * n.per k<=(R.puts.getD k []).length:=by
 unfold zeO at h
 rw [q] at h
 have h:0 < (R.told n k).2:=by simpa using h
 unfold Run.told at h
 have hp:=wn.pr n.ps[k] (getElem_mem _)
 have e0:n.ps.getD k ⟨"","",1⟩ = n.ps[k]:=by rw [Q7,Q0 hk];rfl
 unfold Net.per
 rw [e0] at h ⊢
 generalize n.ps[k].per = m at h hp
 obtain ⟨m,rfl⟩:∃ m':Nat,m = m':=⟨m.toNat,by omega⟩
 rw [QH]
 have h:0 < ((R.puts.getD k []).length:Int) / (m:Int) - ((R.taken.getD k 0:Nat):Int):=h
 have h2:R.taken.getD k 0 + 1<=(R.puts.getD k []).length / m:=by
  have:((R.puts.getD k []).length:Int) / (m:Int) = (((R.puts.getD k []).length / m:Nat):Int):=rfl
  rw [this] at h
  omega
 exact (Nat.le_div_iff_mul_le (by omega)).mp h2
variable {ev:Evt}
theorem LR.step (wn:WN n) (ri:RI n R) (p:LR n R) (hc:Can n R ev):LR n (zbs n R ev):=by
 show LR n (doR n R ev).tick
 suffices LR n (doR n R ev) from this
 have ec:=hc.c
 cases ev with
 | fresh=>exact zfc wn 4 (by omega) ⟨p.1,(fun c' z=>by cases z),p.2.non⟩ (by have:=wn.hl;omega)
 | ends i w=>exact ze8 wn 4 p
 | up i=>exact ze8 wn 4 p
 | lost i=>
  obtain ⟨e,c,he,hq,_⟩:=ec
  show LR n (zas n R i)
  have e0:zas n R i = yW n (zN n 4) (R.setE i { e with lost:=true }) c "bad":=by
   have el:∀ (o:Option (Nat × Nat × Nat)) (f:Nat × Nat × Nat->Run),o = some c->o.elim R f = f c:=fun o f h=>by rw [h];rfl
   unfold zas
   rw [zag he]
   exact el _ _ hq
  rw [e0]
  have p1:=p.setE (e':={ e with lost:=true }) he rfl rfl
  exact zit wn p1 (ze8 wn 4 p1)
 | again i=>
  obtain ⟨e,he,hs,_⟩:=ec
  have hl:=zcq hs (ri.ph _ _ he)
  have ha:(n.asks e.house)[e.ph.at1]? = some (n.asks e.house)[e.ph.at1]:=Q0 hl
  show LR n (za6 n R i)
  unfold za6
  rw [zag he,zbr ha]
  have h1:1<=e.ph.at2:=by
   have:=ri.ph _ _ he
   unfold zcF at this
   cases q:e.ph with
   | stands a t=>rw [q] at this;exact this.2.2
   | _=>rw [q] at hs;cases hs
  refine zlP wn p he hl (by omega) fun k q=>?_
  have w:=wn.as e.house _ (Qa ha)
  refine zop wn (e:=e) (by rw [zbr ha];exact q) (w.plt q) ?_
  rcases hc with h | ⟨_,hm⟩
  ·cases h
  ·have:=(mem_filter.mp hm).2
   have e2:R.er i = e:=zag he
   simpa [Evt.num,e2,Evt.isA] using this
theorem LR.new (n:Net):LR n (Run.new n):=by
 refine ⟨(fun s hs=>by cases hs),⟨by simp [Run.new],by simp [Run.new],fun k hk=>?_,fun k hk=>?_,(fun p hp=>by cases hp),.nil,fun k hk=>rfl,(fun k hk j e he=>by cases he)⟩⟩
 ·show (n.ps.map fun _=>([]:List Nat)).getD k [] = []
  rw [Q7,Qb,Q0 hk];rfl
 ·show (n.ps.map fun _=>(0:Nat)).getD k 0 = 0
  rw [Q7,Qb,Q0 hk];rfl
theorem LR.run {n:Net} (wn:WN n) {evs:List Evt} (v:VEv n (Run.new n) evs):∀ k,k<=evs.length->LR n (qG n (evs.take k))
 | 0,_=>LR.new n
 | k + 1,h=>by
  have hk:evs[k]? = some evs[k]:=Q0 (by omega)
  have g:=zav wn v k (by omega)
  have p:=LR.run wn v k (by omega)
  have c:=v.at_ hk
  unfold qG at g p ⊢
  rw [zdh hk]
  exact p.step wn g.ri c
variable {p:Pu}
theorem zo6 (gn:GN n) (hk:n.ps[k]? = some p):n.pix p.name = k:=by
 have:(n.ps.map (·.name))[k]? = some p.name:=by rw [Qb,hk];rfl
 unfold Net.pix
 rw [ze3 gn.pn.nd this 0,Nat.zero_add]
 rfl
theorem znq (gn:GN n) {a:Ask} (ha:a ∈ n.asks h) (hk:n.ps[k]? = some p):n.pof a = some k ↔ a.purse = some p.name:=by
 unfold Net.pof
 constructor
 ·intro e
  cases q:a.purse with
  | none=>rw [q] at e;cases e
  | some s=>
   rw [q] at e
   have e:n.pix s = k:=Qd e
   unfold Net.asks at ha
   cases eh:n.hs[h]? with
   | none=>rw [eh] at ha;cases ha
   | some x=>
    rw [eh] at ha
    obtain ⟨j,hj⟩:=mem_iff_getElem?.mp ((gn.ao h x eh a ha).pu s q)
    have:=ze3 gn.pn.nd hj 0
    unfold Net.pix at e
    rw [this,Nat.zero_add] at e
    have e:j = k:=e
    subst e
    rw [Qb,hk] at hj
    exact hj.symm
 ·intro e
  rw [e]
  exact congrArg some (zo6 gn hk)
theorem zmF (gn:GN n) {a:Ask} (ha:a ∈ n.asks h) (hk:n.ps[k]? = some p) (M:Mem):eqA (opS a.purse) (.str p.name) M = .ok (.bl (decide (n.pof a = some k))) M:=by
 rw [show decide (n.pof a = some k) = decide (a.purse = some p.name) from decide_eq_decide.mpr (znq gn ha hk)]
 cases q:a.purse with
 | none=>rfl
 | some s=>
  show eqA (.str s) (.str p.name) M = _
  rw [zm4]
  congr 2
  by_cases z:s = p.name
  ·rw [z];simp
  ·have z2:¬ (some s = some p.name):=fun y=>z (Qd y)
   rw [Qx z2]
   simpa using z
theorem zqD (he:R.es[i]? = some e):(bts n (qh R)).getD i none = btc n (qh R) e.caller:=by
 unfold bts
 rw [Q7,Qb,zeU he]
 rfl
variable {σ:FT.Ev} {Q:Fl->Mem->Prop}
section
theorem _root_.FT.Ok.ifB {c:FT.Ev->Mem->Out Bool} {p q:FT.Ev->Mem->Out Fl} (b:Bool) (hc:c σ M = .ok b M) (h:Ok (if b = true then p σ M else q σ M) Q):Ok (sIf c p q σ M) Q:=by
 unfold sIf
 rw [hc]
 exact h
end
noncomputable def isT (a b:Nat) (s:Sk):Bool:=match s.2 with
 | some c=>decide (c.1 = a) && decide (c.2.1 = b)
 | none=>false
noncomputable def cnt (L:List Sk) (a b:Nat):Nat:=(L.filter (isT a b)).length
theorem ziP (L:List Sk) (s:Sk) (a b:Nat):cnt (L ++ [s]) a b = cnt L a b + if isT a b s = true then 1 else 0:=by
 unfold cnt
 rw [filter_append,Qn,filter_cons,filter_nil]
 split <;> rfl
theorem zd9 (a b:Nat) (h:Nat) (c:Nat × Nat × Nat):isT a b (h,some c) = true ↔ c.1 = a/\c.2.1 = b:=by simp [isT]
theorem ziQ {a b:Nat} {c:Nat × Nat × Nat} (e:c.1 = a/\c.2.1 = b):cnt (L ++ [(h,some c)]) a b = cnt L a b + 1:=by rw [ziP,QA ((zd9 a b h c).mpr e)]
theorem zcg {a b:Nat} {c:Option (Nat × Nat × Nat)} (e:∀ c',c = some c'->¬ (c'.1 = a/\c'.2.1 = b)):cnt (L ++ [(h,c)]) a b = cnt L a b:=by
 rw [ziP,QB]
 ·rfl
 ·cases c with
  | none=>simp [isT]
  | some c'=>exact fun z=>e c' rfl ((zd9 a b h c').mp z)
theorem zmJ {a b:Nat} (h:∀ s ∈ L,∀ c,s.2 = some c->c.1 < a):cnt L a b = 0:=by
 unfold cnt
 rw [List.filter_eq_nil_iff.mpr,length_nil]
 intro s hs z
 unfold isT at z
 split at z
 ·rename_i c hc
  have:=h s hs c hc
  simp at z
  omega
 ·cases z
def TS (n:Net) (L:List Sk) (s:Sk):Prop:=match s.2 with
 | none=>s.1 = 0
 | some c=>∃ sa a,L[c.1]? = some sa/\(n.asks sa.1)[c.2.1]? = some a/\n.hix a.to = s.1/\c.2.2 = cnt L c.1 c.2.1 + 1/\(0 < a.tries->(c.2.2:Int)<=a.tries)/\(0 < c.2.1->0 < cnt L c.1 (c.2.1 - 1))
def TI (n:Net) (L:List Sk):Prop:=∀ i s,L[i]? = some s->TS n (L.take i) s
theorem TI.snoc {s:Sk} (h:TI n L) (hs:TS n L s):TI n (L ++ [s]):=by
 intro i x hx
 by_cases hi:i < L.length
 ·rw [Q6 hi] at hx
  rw [List.take_append_of_le_length (Nat.le_of_lt hi)]
  exact h i x hx
 ·have hl:=(Qz.mp hx).1
  rw [Qn,Qu] at hl
  have:i = L.length:=by omega
  subst this
  rw [Q8 (Q3 _),Qv] at hx
  cases hx
  rw [List.take_append_of_le_length (Q3 _),take_length]
  exact hs
def PE (n:Net) (L:List Sk) (i:Nat) (e:Er):Prop:=(n.asks e.house ≠ []->0 < cnt L i 0)/\match e.ph with
 | .works=>n.asks e.house = []
 | .waits a t=>cnt L i a = t/\∀ b,a < b->cnt L i b = 0
 | .stands a t=>cnt L i a = t/\∀ b,a < b->cnt L i b = 0
 | .ended w=>w = "well"->n.asks e.house ≠ []->0 < cnt L i ((n.asks e.house).length - 1)
theorem PE.keep {L':List Sk} (h:PE n L i e) (hc:∀ b,cnt L' i b = cnt L i b):PE n L' i e:=by
 unfold PE at h ⊢
 refine ⟨by rw [hc];exact h.1,?_⟩
 cases q:e.ph with
 | works=>rw [q] at h;exact h.2
 | waits a t=>rw [q] at h;exact ⟨by rw [hc];exact h.2.1,fun b hb=>by rw [hc];exact h.2.2 b hb⟩
 | stands a t=>rw [q] at h;exact ⟨by rw [hc];exact h.2.1,fun b hb=>by rw [hc];exact h.2.2 b hb⟩
 | ended w=>rw [q] at h;exact fun z y=>by rw [hc];exact h.2 z y
def PX (n:Net) (R:Run) (x:Nat->Prop):Prop:=Wf (qh R)/\TI n (qh R)/\∀ i e,R.es[i]? = some e->¬ x i->PE n (qh R) i e
noncomputable abbrev PI (n:Net) (R:Run):Prop:=PX n R fun _=>False
theorem PX.setE {x y:Nat->Prop} (p:PX n R x) (he:R.es[i]? = some e) (h1:e'.house = e.house) (h2:e'.caller = e.caller) (hx:∀ j,j ≠ i->¬ y j->¬ x j) (hi:¬ y i->PE n (qh R) i e'):PX n (R.setE i e') y:=by
 unfold PX
 rw [zeS he h1 h2]
 refine ⟨p.1,p.2.1,fun j q hq hy=>?_⟩
 rcases y4 hq with ⟨rfl,rfl,_⟩ | ⟨hj,hq⟩
 ·exact hi hy
 ·exact p.2.2 j q hq (hx j hj hy)
noncomputable def Pre (n:Net) (R:Run) (h:Nat):Option (Nat × Nat × Nat)->Prop
 | none=>PI n R/\h = 0
 | some c=>PX n R (fun i=>i = c.1)/\∃ e a,R.es[c.1]? = some e/\e.ph = .waits c.2.1 c.2.2/\(n.asks e.house)[c.2.1]? = some a/\n.hix a.to = h/\c.2.2 = cnt (qh R) c.1 c.2.1 + 1/\(∀ b,c.2.1 < b->cnt (qh R) c.1 b = 0)/\(0 < a.tries->(c.2.2:Int)<=a.tries)/\(0 < c.2.1->0 < cnt (qh R) c.1 (c.2.1 - 1))/\(0 < c.2.1->0 < cnt (qh R) c.1 0)
theorem Pre.push:∀ {c:Option (Nat × Nat × Nat)},Pre n R h c->PX n (R.push (yq h c)) (fun i=>i = R.es.length)
 | none,p=>by
  obtain ⟨⟨w,t,q⟩,rfl⟩:=p
  unfold PX
  rw [zeT]
  refine ⟨w.snoc (fun c' z=>by cases z),t.snoc (show TS n (qh R) (0,none) from rfl),fun i e he hi=>?_⟩
  rcases zd5 he with he | ⟨rfl,_⟩
  ·exact (q i e he (fun z=>z)).keep fun b=>zcg fun c' z=>by cases z
  ·exact absurd rfl hi
 | some c,p=>by
  obtain ⟨⟨w,t,q⟩,e,a,he,hp,ha,hh,hc,hb,hl,h1,h0⟩:=p
  have hlt:=(Qz.mp he).1
  unfold PX
  rw [zeT]
  refine ⟨w.snoc (fun c' z=>by cases z;rw [zdE];exact hlt),t.snoc (show TS n (qh R) (h,some c) from ⟨_,a,zeU he,ha,hh,hc,hl,h1⟩),fun i q' hq hi=>?_⟩
  rcases zd5 hq with hq | ⟨rfl,_⟩
  ·by_cases z:i = c.1
   ·subst z
    rw [he] at hq
    cases hq
    unfold PE
    rw [hp]
    have same:cnt (qh R ++ [(h,some c)]) c.1 c.2.1 = c.2.2:=by rw [ziQ ⟨rfl,rfl⟩,hc]
    have els:∀ b,c.2.1 ≠ b->cnt (qh R ++ [(h,some c)]) c.1 b = cnt (qh R) c.1 b:=fun b hb=>zcg fun c' z=>by
     cases z
     exact fun y=>hb y.2
    refine ⟨fun _=>?_,same,fun b hb'=>by rw [els b (by omega)];exact hb b hb'⟩
    by_cases z:c.2.1 = 0
    ·rw [z] at same
     rw [same];omega
    ·rw [els 0 z]
     exact h0 (by omega)
   ·exact (q i q' hq z).keep fun b=>zcg fun c' y=>by
     cases y
     exact fun y=>z y.1.symm
  ·exact absurd rfl hi
theorem PX.share {x:Nat->Prop} (p:PX n R x) (a:Ask) (t k:Nat):PX n (R.share n a t k) x:=by
 have s1:=(yZ R n a t k).1
 unfold PX qh at p ⊢
 rw [s1]
 exact p
theorem Pre.share {c:Nat × Nat × Nat} (p:Pre n R h (some c)) (a:Ask) (t k:Nat):Pre n (R.share n a t k) h (some c):=by
 have s1:=(yZ R n a t k).1
 have s2:qh (R.share n a t k) = qh R:=by unfold qh;rw [s1]
 unfold Pre at p ⊢
 rw [s1,s2]
 exact ⟨p.1.share a t k,p.2⟩
theorem zi0 {n:Net} (wn:WN n):∀ (f:Nat) {R:Run} {h:Nat} {c:Option (Nat × Nat × Nat)},0 < f->Pre n R h c->n.hs.length<=h + f->PI n (zA n f R h c)
 | 0,R,h,c,hf,_,_=>absurd hf (by omega)
 | f + 1,R,h,c,_,p,hl=>by
  have p1:=p.push
  have wf:=p1.1
  by_cases h0:n.asks h = []
  ·have e1:zA n (f + 1) R h c = R.push (yq h c):=by unfold zA;rw [QA h0]
   rw [e1]
   refine ⟨p1.1,p1.2.1,fun i e he _=>?_⟩
   by_cases z:i = R.es.length
   ·subst z
    rw [zW] at he
    cases he
    exact ⟨fun y=>absurd h0 y,h0⟩
   ·exact p1.2.2 i e he z
  ·have e1:zA n (f + 1) R h c = qP n (zA n f) (R.push (yq h c)) R.es.length 0 1:=by rw [zA,QB h0]
   obtain ⟨a,as,hq⟩:=List.exists_cons_of_ne_nil h0
   have ha:(n.asks (yq h c).house)[0]? = some a:=by show (n.asks h)[0]? = _;rw [hq];rfl
   have w:=wn.as h a (by rw [hq];exact .head _)
   have hup:=w.up
   have hlt:=w.lt
   rw [e1,zb4 (zW R _) ha]
   refine zi0 wn f (by omega) (Pre.share ?_ a 1 _) (by omega)
   have z0:∀ b,cnt (qh (R.push (yq h c))) R.es.length b = 0:=fun b=>by
    rw [zeT]
    have hc:∀ c',c = some c'->c'.1 < R.es.length:=fun c' z=>by
     subst z
     obtain ⟨_,e,_,he,_⟩:=p
     exact (Qz.mp he).1
    rw [zcg fun c' z y=>by have:=hc c' z;omega]
    refine zmJ fun s hs c' hc'=>?_
    have h1:Wf (qh R):=by
     cases c with
     | none=>exact p.1.1
     | some c=>exact p.1.1
    have:=h1 s hs c' hc'
    rw [zdE] at this
    exact this
   have hs:qh ((R.push (yq h c)).setE R.es.length { yq h c with ph:=.waits 0 1,asked:=some (R.push (yq h c)).es.length }) = qh (R.push (yq h c)):=zeS (zW R _) rfl rfl
   refine ⟨p1.setE (zW R _) rfl rfl (fun j _ hy=>hy) (fun z=>absurd rfl z),_,a,zcI (zW R _) _,rfl,ha,rfl,?_,?_,?_,fun z=>absurd z (Qo 0),fun z=>absurd z (Qo 0)⟩
   ·rw [hs,z0]
   ·intro b _
    rw [hs,z0]
   ·intro z
    show (1:Int)<=_
    omega
theorem zkH (wn:WN n) (p:PI n R) {num tr:Nat} (he:R.es[num]? = some e) (hat:at' < (n.asks e.house).length) (h1:tr = cnt (qh R) num at' + 1) (hb:∀ b,at' < b->cnt (qh R) num b = 0) (ht:0 < (n.asks e.house)[at'].tries->(tr:Int)<=(n.asks e.house)[at'].tries) (hm:0 < at'->0 < cnt (qh R) num (at' - 1)):PI n (qP n (zA n 4) R num at' tr):=by
 have ha:(n.asks e.house)[at']? = some (n.asks e.house)[at']:=Q0 hat
 rw [zb4 he ha]
 refine zi0 wn 4 (by omega) (Pre.share ?_ _ tr _) (by have:=wn.hl;omega)
 have hs:qh (R.setE num { e with ph:=.waits at' tr,asked:=some R.es.length }) = qh R:=zeS he rfl rfl
 refine ⟨p.setE he rfl rfl (fun _ _ _ z=>z) (fun z=>absurd rfl z),_,_,zcI he _,rfl,ha,rfl,?_,?_,ht,?_,?_⟩
 ·rw [hs];exact h1
 ·intro b h;rw [hs];exact hb b h
 ·intro z;rw [hs];exact hm z
 ·intro z
  rw [hs]
  refine (p.2.2 num e he (fun z=>z)).1 fun y=>?_
  rw [y] at hat
  cases hat
theorem zmK (L:List Sk) (i a b:Nat):cnt (L.take i) a b<=cnt L a b:=((List.take_sublist i L).filter _).length_le
theorem zmL (t:TI n L) {a b:Nat} (h:0 < cnt L a b) (hb:0 < b):0 < cnt L a (b - 1):=by
 obtain ⟨s,hs⟩:=List.exists_mem_of_length_pos h
 obtain ⟨hm,hz⟩:=mem_filter.mp hs
 obtain ⟨i,hi⟩:=mem_iff_getElem?.mp hm
 have ts:=t i s hi
 obtain ⟨h',o⟩:=s
 cases o with
 | none=>cases hz
 | some c=>
  obtain ⟨rfl,rfl⟩:=(zd9 a b h' c).mp hz
  obtain ⟨_,_,_,_,_,_,_,h6⟩:=ts
  exact Q5 (h6 hb) (zmK ..)
variable {ce:Er}
theorem zjK (wn:WN n) (p:PI n R) {c:Nat × Nat × Nat} (he:R.es[c.1]? = some ce) (hat:c.2.1 < (n.asks ce.house).length) (hw:ce.ph = .waits c.2.1 c.2.2) (ht:1<=c.2.2)
 (hg:((w == ("well":Str)) = true\/(w == ("spent":Str)) = true)->(w = "well"->c.2.1 + 1 = (n.asks ce.house).length)->PI n (g R c.1 w)):PI n (yW n g R c w):=by
 have pe:=p.2.2 c.1 ce he (fun z=>z)
 unfold PE at pe
 rw [hw] at pe
 unfold yW
 rw [he]
 dsimp only
 split
 ·rename_i h1
  refine zkH wn p he h1.2 ?_ (fun b hb=>pe.2.2 b (by omega)) (fun z=>by omega) fun _=>?_
  ·rw [pe.2.2 _ (Nat.lt_succ_self _)]
  ·rw [Nat.add_sub_cancel,pe.2.1];exact ht
 ·rename_i h1
  split
  ·rename_i h2
   refine hg (h2.imp id fun z=>z.1) fun z=>?_
   have:¬ c.2.1 + 1 < (n.asks ce.house).length:=fun y=>h1 ⟨by rw [z];exact Qy _,y⟩
   omega
  ·exact p.setE he rfl rfl (fun _ _ _ z=>z) fun _=>⟨pe.1,pe.2⟩
theorem ziJ {n:Net} (wn:WN n):∀ (f:Nat) {R:Run} {i:Nat} {w:Str} {e:Er},RI n R->WT R->PI n R->R.es[i]? = some e->e.house < f->e.ph.isE = false->NL R i->(w = "well"->n.asks e.house ≠ []->0 < cnt (qh R) i ((n.asks e.house).length - 1))->PI n (zN n f R i w)
 | 0,R,i,w,e,_,_,_,_,hf,_,_,_=>absurd hf (by omega)
 | f + 1,R,i,w,e,ri,wt,p,he,hf,hl,nl,hw=>by
  have ri1:RI n (R.setE i { e with ph:=.ended w }):=ri.setE he rfl rfl True.intro
  have wt1:WT (R.setE i { e with ph:=.ended w }):=wt.setE he rfl (fun z=>absurd z.2 (by show ¬ true = false;simp)) nl
  have p1:PI n (R.setE i { e with ph:=.ended w }):=p.setE he rfl rfl (fun _ _ _ z=>z) fun _=>⟨(p.2.2 i e he (fun z=>z)).1,hw⟩
  unfold zN
  rw [he]
  dsimp only
  cases q:e.caller with
  | none=>rw [q] at p1;exact p1
  | some c=>
   dsimp only
   cases ql:e.lost with
   | true=>rw [QA rfl];rw [q,ql] at p1;exact p1
   | false=>
    rw [QB (by simp)]
    have es:({ e with ph:=.ended w }:Er) = { house:=e.house,caller:=some c,ph:=.ended w,lost:=false,asked:=e.asked,stood:=e.stood }:=by rw [← q,← ql]
    rw [← es]
    obtain ⟨ce,c1,c2,c3⟩:=wt i e c he q ⟨ql,hl⟩
    obtain ⟨d1,ce',d2,d3,d4⟩:=ri.cl i e c he q
    rw [c1] at d2
    cases d2
    have hne:c.1 ≠ i:=by omega
    have c1':(R.setE i { e with ph:=.ended w }).es[c.1]? = some ce:=by rw [zeH hne];exact c1
    have nl1:NL (R.setE i { e with ph:=.ended w }) c.1:=fun j e' cc h' hc' z l'=>by
     have h2:R.es[j]? = some e':=by
      rcases y4 h' with ⟨rfl,rfl,_⟩ | ⟨_,h'⟩
      ·cases l'.2
      ·exact h'
     obtain ⟨x,x1,x2,x3⟩:=wt j e' cc h2 hc' l'
     rw [z,c1] at x1
     cases x1
     rw [c3] at x3
     cases x3
     rw [zcI he] at h'
     cases h'
     cases l'.2
    have h1:1<=c.2.2:=by have:=ri.ph _ _ c1;unfold zcF at this;rw [c2] at this;exact this.2
    have pe:=p1.2.2 c.1 ce c1' (fun z=>z)
    unfold PE at pe
    rw [c2] at pe
    refine zjK wn p1 c1' d4 c2 h1 fun _ hz=>ziJ wn f ri1 wt1 p1 c1' (by omega) (by rw [c2];rfl) nl1 fun z _=>?_
    rw [← hz z,Nat.add_sub_cancel,pe.2.1]
    exact h1
theorem PI.step (wn:WN n) (hwd:∀ h a,a ∈ n.asks h->a.word ≠ "well") (ri:RI n R) (wt:WT R) (p:PI n R) (hc:EvC n R ev):PI n (zbs n R ev):=by
 show PI n (doR n R ev).tick
 suffices PI n (doR n R ev) from this
 cases ev with
 | fresh=>exact zi0 wn 4 (by omega) ⟨p,rfl⟩ (by have:=wn.hl;omega)
 | ends i w=>
  obtain ⟨e,he,hw⟩:=hc
  have hp:e.ph = .works:=by
   cases q:e.ph with
   | works=>rfl
   | _=>rw [q] at hw;cases hw
  have pe:=(p.2.2 i e he (fun z=>z)).2
  rw [hp] at pe
  exact ziJ wn 4 ri wt p he (by have:=ri.hs _ _ he;have:=wn.hl;omega) (by rw [hp];rfl) (zgn wt he fun a t z=>by rw [hp] at z;cases z) fun _ z=>absurd pe z
 | up i=>
  obtain ⟨e,he,hs⟩:=hc
  have hl:=zcq hs (ri.ph _ _ he)
  have ha:(n.asks e.house)[e.ph.at1]? = some (n.asks e.house)[e.ph.at1]:=Q0 hl
  show PI n (zN n 4 R i _)
  rw [zag he,zbr ha]
  exact ziJ wn 4 ri wt p he (by have:=ri.hs _ _ he;have:=wn.hl;omega) (by cases q:e.ph <;> rw [q] at hs <;> first | rfl | cases hs) (zgn wt he fun a t z=>by rw [z] at hs;cases hs) fun z=>absurd z (hwd _ _ (Qa ha))
 | again i=>
  obtain ⟨e,he,hs,htl⟩:=hc
  have hl:=zcq hs (ri.ph _ _ he)
  have ha:(n.asks e.house)[e.ph.at1]? = some (n.asks e.house)[e.ph.at1]:=Q0 hl
  show PI n (za6 n R i)
  unfold za6
  rw [zag he,zbr ha]
  have te:=zc0 R (n.pof (n.asks e.house)[e.ph.at1])
  have hsk:qh (takeO R (n.pof (n.asks e.house)[e.ph.at1])) = qh R:=by unfold qh;rw [te.1]
  have p1:PI n (takeO R (n.pof (n.asks e.house)[e.ph.at1])):=by
   unfold PI PX
   rw [hsk,te.1]
   exact p
  have pe:(cnt (qh R) i e.ph.at1 = e.ph.at2/\∀ b,e.ph.at1 < b->cnt (qh R) i b = 0)/\1<=e.ph.at2:=by
   have pe:=(p.2.2 i e he (fun z=>z)).2
   have ph:=ri.ph _ _ he
   unfold zcF at ph
   cases q:e.ph with
   | stands a t=>rw [q] at pe ph;exact ⟨pe,ph.2.2⟩
   | _=>rw [q] at hs;cases hs
  unfold zae at htl
  rw [zbr ha,Qs,Bool.or_eq_true] at htl
  refine zkH wn p1 (by rw [te.1];exact he) hl (by rw [hsk,pe.1.1]) (fun b hb=>by rw [hsk];exact pe.1.2 b hb) (fun z=>?_) fun z=>?_
  ·rcases htl.2 with y | y
   ·have:=beq_iff_eq.mp y
    omega
   ·have:=of_decide_eq_true y
    omega
  ·rw [hsk]
   exact zmL p.2.1 (by rw [pe.1.1];exact pe.2) z
 | lost i=>
  obtain ⟨e,c,he,hq,hlv⟩:=hc
  show PI n (zas n R i)
  have e0:zas n R i = yW n (zN n 4) (R.setE i { e with lost:=true }) c "bad":=by
   have el:∀ (o:Option (Nat × Nat × Nat)) (f:Nat × Nat × Nat->Run),o = some c->o.elim R f = f c:=fun o f h=>by rw [h];rfl
   unfold zas
   rw [zag he]
   exact el _ _ hq
  rw [e0]
  have p1:PI n (R.setE i { e with lost:=true }):=p.setE he rfl rfl (fun _ _ _ z=>z) fun _=>p.2.2 i e he (fun z=>z)
  obtain ⟨ce,c1,c2,c3⟩:=wt i e c he hq hlv
  obtain ⟨d1,ce',d2,d3,d4⟩:=ri.cl i e c he hq
  rw [c1] at d2
  cases d2
  have h1:1<=c.2.2:=by have:=ri.ph _ _ c1;unfold zcF at this;rw [c2] at this;exact this.2
  refine zjK wn p1 (by rw [zeH (by omega)];exact c1) d4 c2 h1 fun z=>absurd z (by decide)
theorem PI.new (n:Net):PI n (Run.new n):=⟨(fun s hs=>by cases hs),(fun i s hs=>by cases hs),fun i e he=>by cases he⟩
theorem PI.run {n:Net} (wn:WN n) (hwd:∀ h a,a ∈ n.asks h->a.word ≠ "well") {evs:List Evt} (v:VEv n (Run.new n) evs):∀ k,k<=evs.length->PI n (qG n (evs.take k))
 | 0,_=>PI.new n
 | k + 1,h=>by
  have hk:evs[k]? = some evs[k]:=Q0 (by omega)
  have g:=zav wn v k (by omega)
  have p:=PI.run wn hwd v k (by omega)
  have c:=v.at_ hk
  unfold qG at g p ⊢
  rw [zdh hk]
  exact p.step wn hwd g.ri g.wt c.c
noncomputable def fc (R:Run):Nat:=(R.es.filter fun e=>e.caller.isNone).length
theorem zcU (he:R.es[i]? = some e) (h:e'.caller = e.caller):fc (R.setE i e') = fc R:=by
 unfold fc Run.setE
 have:∀ {es:List Er} {i:Nat},es[i]? = some e->((es.set i e').filter fun e=>e.caller.isNone).length = (es.filter fun e=>e.caller.isNone).length:=by
  intro es
  induction es with
  | nil=>intro i h;simp at h
  | cons x es ih=>
   intro i hi
   cases i with
   | zero=>
    simp at hi
    subst hi
    rw [List.set_cons_zero,filter_cons,filter_cons,h]
    split <;> rfl
   | succ i=>
    simp at hi
    rw [List.set_cons_succ,filter_cons,filter_cons]
    split <;> simp [ih hi]
 exact this he
theorem ze4 (R:Run) (e:Er):fc (R.push e) = fc R + if e.caller.isNone = true then 1 else 0:=by
 unfold fc Run.push
 rw [filter_append,Qn,filter_cons,filter_nil]
 split <;> rfl
theorem zfQ {g:Run->Nat->Option (Nat × Nat × Nat)->Run} (hg:∀ R h c,fc (g R h (some c)) = fc R) (R:Run) (num at' tr:Nat):fc (qP n g R num at' tr) = fc R:=by
 unfold qP
 split
 ·rfl
 ·rename_i e he
  split
  ·rfl
  ·rw [hg]
   unfold fc
   rw [(yZ _ _ _ _ _).1]
   exact zcU he rfl
theorem zgk (n:Net):∀ (f:Nat) (R:Run) (h:Nat) (c:Nat × Nat × Nat),fc (zA n f R h (some c)) = fc R
 | 0,_,_,_=>rfl
 | f + 1,R,h,c=>by
  unfold zA
  split
  ·rw [ze4];rfl
  ·rw [zfQ (zgk n f),ze4];rfl
theorem zjM (hg:∀ R i w,fc (g R i w) = fc R) (R:Run) (c:Nat × Nat × Nat) (w:Str):fc (yW n g R c w) = fc R:=by
 unfold yW
 split
 ·rfl
 ·rename_i e he
  split
  ·exact zfQ (zgk n 4) ..
  ·split
   ·exact hg ..
   ·exact zcU he rfl
theorem zgf (n:Net):∀ (f:Nat) (R:Run) (i:Nat) (w:Str),fc (zN n f R i w) = fc R
 | 0,_,_,_=>rfl
 | f + 1,R,i,w=>by
  unfold zN
  split
  ·rfl
  ·rename_i e he
   split
   ·exact zcU he rfl
   ·split
    ·exact zcU he rfl
    ·rw [zjM (zgf n f)]
     exact zcU he rfl
theorem zrI (n:Net) (R:Run) (ev:Evt):fc (zbs n R ev) = fc R + if ev.isF = true then 1 else 0:=by
 show fc (doR n R ev) = _
 cases ev with
 | fresh=>
  show fc (zA n 4 R 0 none) = _
  unfold zA
  split
  ·rw [ze4];rfl
  ·rw [zfQ (zgk n 3),ze4];rfl
 | ends i w=>exact zgf ..
 | up i=>exact zgf ..
 | lost i=>
  show fc (zas n R i) = _
  unfold zas
  cases q:(R.er i).caller with
  | none=>rfl
  | some c=>
   show fc (yW n (zN n 4) _ c "bad") = _
   rw [zjM (zgf n 4)]
   cases he:R.es[i]? with
   | none=>
    unfold Run.er at q
    rw [Q7,he] at q
    cases q
   | some e=>
    rw [zag he] at q ⊢
    exact zcU he (by rw [q])
 | again i=>
  show fc (za6 n R i) = _
  unfold za6
  rw [zfQ (zgk n 4)]
  unfold fc
  rw [(zc0 _ _).1]
  rfl
theorem zqr (n:Net) (evs:List Evt):∀ R,fc (evs.foldl (zbs n) R) = fc R + (evs.filter (·.isF)).length:=by
 induction evs with
 | nil=>intro R;rfl
 | cons ev evs ih=>
  intro R
  rw [foldl_cons,ih,zrI,filter_cons]
  split
  ·rw [Qp];omega
  ·omega
theorem zgd {G:Gd} {bd:FT.T->FT.Ev->Mem->Out FT.Ev} {cond:FT.Ev->Mem->Out Bool} {el:FT.Ev->Mem->Out FT.T} {M:Mem} {α:Type} {r:α->FT.T} (hG:zaZ G M) (I:FT.Ev->Prop) (c:α->Bool) (f:α->FT.T):∀ {xs:List α} {σ:FT.Ev} {acc:List FT.T},I σ->acc.length + xs.length<=100000->
  (∀ x σ,x ∈ xs->I σ->∃ σ1,bd (r x) σ M = .ok σ1 M/\I σ1/\cond σ1 M = .ok (c x) M/\el σ1 M = .ok (f x) M)->zM G bd cond el (xs.map r) σ M acc = .ok (acc ++ (xs.filter c).map f) M
 | [],σ,acc,_,_,_=>by simp [zM,zcs hG]
 | x :: xs,σ,acc,h,hl,t=>by
  obtain ⟨σ1,e1,h1,e2,e3⟩:=t x σ (.head _) h
  rw [Qp] at hl
  rw [QG]
  unfold zM
  rw [zcs hG,e1]
  show ((cond σ1 M).bind _) = _
  rw [e2,filter_cons]
  cases c x with
  | true=>
   show ((el σ1 M).bind _) = _
   rw [e3]
   show (if acc.length < sizeLine then zM G bd cond el (xs.map r) σ1 M (acc ++ [f x]) else .bad) = _
   rw [QA (by rw [sizeLine_eq];omega),zgd hG I c f h1 (by rw [Qn,Qp,length_nil];omega) (fun y σ hy=>t y σ (.tail _ hy))]
   simp
  | false=>exact zgd hG I c f h1 (by omega) fun y σ hy=>t y σ (.tail _ hy)
theorem zqB {α:Type} (f:α->Nat) (xs:List α) (m:Nat):(xs.filter fun p=>decide (f p < m)).length = ((List.range m).map fun k=>(xs.filter fun p=>f p == k).length).sum:=by
 induction m with
 | zero=>simp
 | succ m ih=>
  rw [range_succ,Qq,List.sum_append,← ih,List.map_singleton,List.sum_singleton]
  clear ih
  induction xs with
  | nil=>rfl
  | cons p xs ih2=>
   rw [filter_cons,filter_cons,filter_cons]
   by_cases h1:f p < m
   ·rw [QA (by simp;omega),QA (by simpa using h1),QB (by simp;omega)]
    simp only [Qp];omega
   ·by_cases h2:f p = m
    ·rw [QA (by simp;omega),QB (by simpa using h1),QA (by simpa using h2)]
     simp only [Qp];omega
    ·rw [QB (by simp;omega),QB (by simpa using h1),QB (by simpa using h2)]
     exact ih2
theorem zqv (a b:Nat):(((a:Nat):Int) == ((b:Nat):Int)) = (a == b):=by
 rw [Bool.eq_iff_iff,beq_iff_eq,beq_iff_eq]
 omega
variable {evs:List Evt}
section
theorem znU (wn:WN n) {t:FT.T} (ht:EvS t evs M) (v:VEv n (Run.new n) evs) (hl:evs.length<=2000) (hh:h < n.hs.length):zba kE kR [qf n,t,nT h] M = .ok (nT ((qG n evs).es.filter fun e=>e.house == h).length) M:=by
 have g:=zav wn v evs.length (Q3 _)
 rw [take_length] at g
 have ck:zaE kE kR [qf n,nT h] M = .ok .non M:=by
  have wi:qS kE kR [nT h,.int 0,.int ((n.hs.length:Int) - 1)] M = .ok (.bl true) M:=by
   have wh:zax kE kR [nT h] M = .ok (.bl true) M:=by
    unfold zax zec
    have h1:zaL (nT h) (.ty "int") M = .ok (.bl true) M:=rfl
    have h2:zaL (nT h) (.ty "bool") M = .ok (.bl false) M:=rfl
    simp_arith [h1,h2]
   unfold qS zdv
   have d1:decide ((0:Int)<=(h:Int)) = true:=Qw (by omega)
   have d2:decide ((h:Int)<=(n.hs.length:Int) - 1) = true:=Qw (by omega)
   simp_arith [wh,d1,d2]
  unfold zaE zeq qf
  simp_arith [Qh,wi]
 have key:Ok (zee kE kR [qf n,t,nT h] M) fun u M'=>u = nT ((qG n evs).es.filter fun e=>e.house == h).length/\Kp M.length M M':=by
  refine qB rfl ?_
  unfold zf6
  refine Ok.seqR fun X hX=>?_
  simp_arith [ck]
  rw [hX];clear hX;simp only [yh]
  simp_arith [yY,zau,ym]
  refine Ok.bind (zhZ wn ht v hl) ?_
  rintro u M1 ⟨rfl,k1,l1,h1⟩
  generalize qG n evs = R at g h1 ⊢
  have zp:l1.es.map FT.T.ref = (List.zip l1.es R.es).map fun q=>FT.T.ref q.1:=by
   rw [show (fun q:Nat × Er=>FT.T.ref q.1) = FT.T.ref ∘ Prod.fst from rfl,← map_map,List.map_fst_zip (by rw [h1.el];exact Q3 _)]
  have hes:=g.sb.es
  have cp:=zgd (G:=[(l1.a,l1.es.map FT.T.ref)]) (bd:=yn 0) (cond:=zk (eOp eqA (ym [kE] "house" (yb 0)) (yb 1))) (el:=yb 0) (M:=M1) (r:=fun q:Nat × Er=>FT.T.ref q.1) (zcb h1.er) (fun σ=>∃ o,σ = [o,some (nT h)]) (fun q=>q.2.house == h) (fun q=>.ref q.1) (xs:=List.zip l1.es R.es) (σ:=[none,some (nT h)]) (acc:=[]) ⟨_,rfl⟩ (by rw [length_nil,List.length_zip,h1.el,Nat.min_self];omega) (by
   rintro ⟨x,e⟩ σ hx ⟨o,rfl⟩
   obtain ⟨i,hi⟩:=mem_iff_getElem?.mp hx
   have hxe:l1.es[i]? = some x/\R.es[i]? = some e:=by
    rw [List.getElem?_zip_eq_some] at hi
    exact hi
   obtain ⟨x',hx',hc⟩:=h1.at_e hxe.2
   rw [hxe.1] at hx'
   cases hx'
   have f1:=zJ (f:="house") hc rfl
   exact ⟨[some (.ref x),some (nT h)],rfl,⟨_,rfl⟩,by simp_arith [ym,f1,zqv],by simp_arith [and_self]⟩)
  rw [← zp,nil_append] at cp
  have hlen:((List.zip l1.es R.es).filter fun q=>q.2.house == h).length = (R.es.filter fun e=>e.house == h).length:=by
   have e2:R.es = (List.zip l1.es R.es).map Prod.snd:=(List.map_snd_zip (by rw [h1.el];exact Q3 _)).symm
   conv=>rhs;rw [e2]
   rw [List.filter_map,Qh]
   rfl
  simp_arith [h1.errands,zc7 h1.er,cp,Qh,hlen]
  exact Ok.ret ⟨rfl,k1⟩
 obtain ⟨u,M',e,rfl,k⟩:=key
 unfold zba zbu
 rw [e]
 dsimp only
 rw [QA ⟨zgo k,.int _⟩]
theorem zpi {a:Nat} (hc:M[a]? = some (.lst (evs.map evT))) (hl:evs.length<=2000):zbD kE kR [.ref a] M = .ok (nT (evs.filter (·.isF)).length) M:=by
 have cp:=zgd (G:=[(a,evs.map evT)]) (bd:=yn 0) (cond:=zk (eOp eqA (yb 0) (eC (.tup [.str "fresh"])))) (el:=yb 0) (M:=M) (r:=evT) (zcb hc) (fun σ=>∃ o,σ = [o]) (fun ev=>ev.isF) evT (xs:=evs) (σ:=[none]) (acc:=[]) ⟨_,rfl⟩ (by rw [length_nil];omega) (by
  rintro ev σ _ ⟨o,rfl⟩
  have e1:eqA (evT ev) (.tup [.str "fresh"]) M = .ok (.bl ev.isF) M:=by cases ev <;> rfl
  exact ⟨[some (evT ev)],rfl,⟨_,rfl⟩,by simp_arith [e1],by simp_arith [and_self]⟩)
 rw [nil_append] at cp
 unfold zbD zg6
 simp_arith [yY,zau,zc7 hc,cp,Qh]
theorem zlO (ri:RI n R) {c:Nat × Nat × Nat} (c1:R.es[c.1]? = some ce) {a:Ask} (ha:(n.asks ce.house)[c.2.1]? = some a) (M:Mem):zcd kE kR [qf n,.lst (R.es.map erT),.tup [nT c.1,nT c.2.1,nT c.2.2]] M = .ok (.tup [.str a.to,.int a.tries,opS a.purse,.str a.word,.bl a.hears,.bl a.sure]) M:=by
 have er2:atI (R.es.map erT) (c.1:Int) = some (.tup [nT ce.house,clT ce.caller,phT ce.ph]):=qq (f:=erT) c1
 have hh:=ri.hs _ _ c1
 have hn:n.hs[ce.house]? = some n.hs[ce.house]:=Q0 hh
 have as:n.asks ce.house = (n.hs[ce.house]).asks:=by unfold Net.asks;rw [hn];rfl
 have hs1:atI (n.hs.map hsT) (ce.house:Int) = some (.tup [.str (n.hs[ce.house]).name,.tup ((n.asks ce.house).map qC)]):=by rw [as];exact qq (f:=hsT) hn
 have ha1:atI ((n.asks ce.house).map qC) (c.2.1:Int) = some (.tup [.str a.to,.int a.tries,opS a.purse,.str a.word,.bl a.hears,.bl a.sure]):=qq (f:=qC) ha
 unfold zcd zjP qf
 simp_arith [er2,hs1,ha1]
end
theorem zlL (B:List Bt):(List.range B.length).map (fun i=>B.getD i none) = B:=by
 refine ext_getElem? fun i=>?_
 rw [Qb]
 by_cases h:i < B.length
 ·rw [getElem?_range h,Q0 h]
  simp [h]
 ·rw [getElem?_eq_none (by rw [length_range];omega),getElem?_eq_none (by omega)]
  rfl
theorem zgC (p:Bt->Bool) (B:List Bt):(pos p B).length = (B.filter p).length:=by
 conv=>rhs;rw [← zlL B]
 rw [List.filter_map,Qh]
 rfl
noncomputable def tsK (k:Nat):Bt->Option Nat
 | some (j,t)=>if j = k then some t else none
 | none=>none
noncomputable def tsL (k:Nat) (B:List Bt):List Nat:=B.filterMap (tsK k)
theorem zcZ (k:Nat) (o:Bt) (B:List Bt):tsL k (o :: B) = (tsK k o).toList ++ tsL k B:=by
 unfold tsL
 cases q:tsK k o with
 | none=>rw [List.filterMap_cons_none q];rfl
 | some x=>rw [List.filterMap_cons_some q];rfl
theorem zhJ (k:Nat) (o:Bt):∀ B:List Bt,tsL k (B ++ [o]) = tsL k B ++ (tsK k o).toList
 | []=>by rw [nil_append,zcZ];simp [tsL]
 | x :: B=>by rw [List.cons_append,zcZ,zcZ,zhJ k o B,append_assoc]
theorem zlV (k:Nat) (B:List Bt):((tsL k B).filter fun t=>decide (1 < t)).length = (B.filter (isP k)).length:=by
 induction B with
 | nil=>rfl
 | cons o B ih=>
  have:((tsK k o).toList.filter fun t=>decide (1 < t)).length = if isP k o = true then 1 else 0:=by
   cases o with
   | none=>rfl
   | some q=>
    obtain ⟨j,t⟩:=q
    by_cases h:j = k
    ·by_cases h2:1 < t <;> simp [tsK,isP,h,h2]
    ·simp [tsK,isP,h]
  rw [zcZ,filter_append,Qn,ih,this,filter_cons]
  split
  ·rw [Qp];omega
  ·omega
theorem zoG (B:List Bt) (h1:∀ j t,some (j,t) ∈ B->1<=t):(tsL k B).length = (B.filter (isG n k)).length + if n.any k = true then 0 else (B.filter (isP k)).length:=by
 induction B with
 | nil=>simp [tsL]
 | cons o B ih=>
  have ih:=ih fun j t h=>h1 j t (.tail _ h)
  have:(tsK k o).toList.length = (if isG n k o = true then 1 else 0) + if n.any k = true then 0 else if isP k o = true then 1 else 0:=by
   cases o with
   | none=>simp [tsK,isG,isP]
   | some q=>
    obtain ⟨j,t⟩:=q
    have ht:=h1 j t (.head _)
    by_cases h:j = k
    ·cases qa:n.any k with
     | true=>simp [tsK,isG,isP,h,qa]
     | false=>
      by_cases h2:t = 1
      ·simp [tsK,isG,isP,h,qa,h2]
      ·have h3:1 < t:=by omega
       simp [tsK,isG,isP,h,qa,h2,h3]
    ·simp [tsK,isG,isP,h]
  have c1:∀ p:Bt->Bool,((o :: B).filter p).length = (if p o = true then 1 else 0) + (B.filter p).length:=fun p=>by
   rw [filter_cons]
   split
   ·rw [Qp];omega
   ·omega
  rw [zcZ,Qn,ih,this,c1,c1]
  cases n.any k <;> simp only [Bool.false_eq_true,if_false,if_true] <;> omega
theorem zqE (p:PI n R):∀ j t,some (j,t) ∈ bts n (qh R)->1<=t:=by
 intro j t h
 unfold bts at h
 obtain ⟨s,hs,e⟩:=mem_map.mp h
 obtain ⟨i,hi⟩:=mem_iff_getElem?.mp hs
 have ts:=p.2.1 i s hi
 obtain ⟨h',o⟩:=s
 cases o with
 | none=>cases e
 | some c=>
  obtain ⟨_,_,_,_,_,h4,_⟩:=ts
  change ((qh R)[c.1]?.bind fun s=>((n.asks s.1)[c.2.1]?).bind fun a=>(n.pof a).map fun k=>(k,c.2.2)) = some (j,t) at e
  obtain ⟨s1,_,e⟩:=Option.bind_eq_some_iff.mp e
  obtain ⟨a,_,e⟩:=Option.bind_eq_some_iff.mp e
  obtain ⟨k,_,e⟩:=Option.map_eq_some_iff.mp e
  cases e
  omega
section
theorem zl7 (gn:GN n) (ri:RI n R) (lr:LR n R) (p:PI n R) (hl:R.es.length<=90000) (hk:k < n.ps.length) (M:Mem):qV kE kR [qf n,.lst (R.es.map erT),.lst ((List.range n.ps.length).map fun k=>tdT (R.told n k)),nT k] M = .ok (.bl true) M:=by
 have wn:=gn.wn
 have hps:n.ps[k]? = some n.ps[k]:=Q0 hk
 have hpr:=wn.pr n.ps[k] (getElem_mem _)
 have hpe:=(gn.pe n.ps[k] (getElem_mem _)).1
 have hpa:atI (n.ps.map puT) (k:Int) = some (.tup [.str n.ps[k].name,.str n.ps[k].earns,.int n.ps[k].per]):=qq (f:=puT) hps
 have e1:(n.ps.getD k ⟨"","",1⟩).per = n.ps[k].per:=by rw [Q7,hps];rfl
 have e2:(n.per k:Int) = n.ps[k].per:=by unfold Net.per;rw [e1];omega
 have li:=lr.2
 have tot:=zoG (n:=n) (k:=k) (bts n (qh R)) (zqE p)
 have ag:=zlV k (bts n (qh R))
 have hco:(pos (isP k) (bts n (qh R))).length * n.per k<=(pos (isG n k) (bts n (qh R))).length:=by
  cases q:(pos (isP k) (bts n (qh R))).length with
  | zero=>rw [Nat.zero_mul];exact Nat.zero_le _
  | succ m=>
   have h1:(pos (isP k) (bts n (qh R)))[m]? = some ((pos (isP k) (bts n (qh R)))[m]'(by omega)):=Q0 _
   exact Qj (li.co k hk m _ h1) (List.length_filter_le _ _)
 have hu:atI ((List.range n.ps.length).map fun k=>tdT (R.told n k)) (k:Int) = some (.tup [.int (((pos (isG n k) (bts n (qh R))).length:Int) % n.ps[k].per),.int (((pos (isG n k) (bts n (qh R))).length:Int) / n.ps[k].per - ((pos (isP k) (bts n (qh R))).length:Int))]):=by
  rw [qq (f:=fun k=>tdT (R.told n k)) (getElem?_range hk),← li.pu k hk,← li.tk k hk]
  unfold tdT Run.told
  rw [e1]
 have key:Ok (zbT kE kR [qf n,.lst (R.es.map erT),.lst ((List.range n.ps.length).map fun k=>tdT (R.told n k)),nT k] M) fun t M'=>t = .bl true/\M'.take M.length = M:=by
  refine qB rfl ?_
  unfold zdg
  have hask:=fun {c:Nat × Nat × Nat} {ce:Er} (c1:R.es[c.1]? = some ce) {a:Ask} (ha:(n.asks ce.house)[c.2.1]? = some a) (M:Mem)=>zlO (kE:=kE) (kR:=kR) ri c1 ha M
  rw [show qf n = .tup [.tup (n.hs.map hsT),.tup (n.ps.map puT)] from rfl] at hask ⊢
  refine Ok.seqR fun X hX=>?_
  simp_arith [hpa]
  rw [hX];clear hX;simp only [yh]
  refine Ok.seqR fun X hX=>?_
  simp_arith [and_self]
  rw [hX];clear hX;simp only [yh]
  refine Ok.seqR fun X hX=>?_
  simp_arith [and_self]
  refine Ok.bind (Ok.for (r:=erT) (xs:=R.es) (fun i σ M'=>∃ o8 o9 o10,σ = [some (.tup [.tup (n.hs.map hsT),.tup (n.ps.map puT)]),some (.lst (R.es.map erT)),some (.lst ((List.range n.ps.length).map fun k=>tdT (R.told n k))),some (nT k),some (.str n.ps[k].name),some (.str n.ps[k].earns),some (.int n.ps[k].per),some (.ref M.length),o8,o9,o10,none,none,none,none]/\M' = M ++ [.lst ((tsL k ((bts n (qh R)).take i)).map nT)]) ⟨none,none,none,rfl,by simp [tsL]⟩ ?_) ?_
  ·rintro i e σ M1 he ⟨o8,o9,o10,rfl,rfl⟩
   have hi:=(Qz.mp he).1
   have hb:=zqD (n:=n) he
   have hbl:i < (bts n (qh R)).length:=by rw [zdP];exact hi
   have hbt:(bts n (qh R)).take (i + 1) = (bts n (qh R)).take i ++ [btc n (qh R) e.caller]:=by
    rw [← hb,take_succ,Q7,Q0 hbl]
    rfl
   have tl:tsL k ((bts n (qh R)).take (i + 1)) = tsL k ((bts n (qh R)).take i) ++ (tsK k (btc n (qh R) e.caller)).toList:=by rw [hbt,zhJ]
   rw [tl]
   have gl:(tsL k ((bts n (qh R)).take i)).length < 100000:=by
    have:=List.length_filterMap_le (tsK k) ((bts n (qh R)).take i)
    rw [Qr] at this
    unfold tsL
    omega
   generalize tsL k ((bts n (qh R)).take i) = gs at gl
   rw [show erT e = .tup [nT e.house,clT e.caller,phT e.ph] from rfl]
   simp_arith [and_self]
   unfold zdd
   cases qc:e.caller with
   | none=>
    have i1:∀ M,zat (clT none) .non M = .ok (.bl false) M:=fun _=>rfl
    simp_arith [i1]
    exact Ok.ret ⟨_,rfl,_,_,_,rfl,by simp [btc,tsK]⟩
   | some c=>
    have i1:∀ M,zat (.tup [nT c.1,nT c.2.1,nT c.2.2]) .non M = .ok (.bl true) M:=fun _=>rfl
    rw [show clT (some c) = .tup [nT c.1,nT c.2.1,nT c.2.2] from rfl]
    obtain ⟨hci,ce,c1,c2,c3⟩:=ri.cl i e c he qc
    have ha:(n.asks ce.house)[c.2.1]? = some (n.asks ce.house)[c.2.1]:=Q0 c3
    have hm:=Qa ha
    have hbt:btc n (qh R) (some c) = (n.pof (n.asks ce.house)[c.2.1]).map fun k=>(k,c.2.2):=ziW (num:=c.1) (at':=c.2.1) (t:=c.2.2) c1 ha
    rw [hbt]
    have aq:=hask c1 ha
    have eqp:=zmF gn hm hps
    generalize (n.asks ce.house)[c.2.1] = a at aq eqp
    have g0:(M ++ [Cell.lst (gs.map nT)])[M.length]? = some (.lst (gs.map nT)):=zI
    have ap:=zam (t:=nT c.2.2) g0 (by rw [Qh,sizeLine_eq];omega)
    rw [zgL,show gs.map nT ++ [nT c.2.2] = (gs ++ [c.2.2]).map nT from by simp] at ap
    by_cases d:n.pof a = some k
    ·have d':decide (n.pof a = some k) = true:=Qw d
     simp_arith [i1,aq,eqp,d',qR g0,ap]
     exact Ok.ret ⟨_,rfl,_,_,_,rfl,by simp [d,tsK]⟩
    ·have d':decide (n.pof a = some k) = false:=Qx d
     simp_arith [i1,aq,eqp,d']
     refine Ok.ret ⟨_,rfl,_,_,_,rfl,?_⟩
     cases q:n.pof a with
     | none=>simp [tsK]
     | some j=>
      have:¬ j = k:=fun z=>d (by rw [q,z])
      simp [tsK,this]
  ·rintro fl M1 ⟨σ,rfl,o8,o9,o10,rfl,rfl⟩
   rw [show R.es.length = (bts n (qh R)).length from (zdP n R).symm,take_length]
   try simp_arith [and_self]
   rw [hX];clear hX;simp only [yh]
   have gl:(tsL k (bts n (qh R))).length<=90000:=Qj (List.length_filterMap_le ..) (by rw [zdP];exact hl)
   rw [← zgC,← zgC] at tot
   rw [← zgC] at ag
   generalize tsL k (bts n (qh R)) = gs at gl tot ag
   have g0:(M ++ [Cell.lst (gs.map nT)])[M.length]? = some (.lst (gs.map nT)):=zI
   have ln:yu (.ref M.length) (M ++ [Cell.lst (gs.map nT)]) = .ok (nT gs.length) (M ++ [Cell.lst (gs.map nT)]):=by
    unfold yu zan qv
    simp only [g0]
    simp
   have cp:=zgd (G:=[(M.length,gs.map nT)]) (bd:=yn 0) (cond:=zk (eOp gtI (yb 0) (eC (.int 1)))) (el:=yb 0) (M:=M ++ [Cell.lst (gs.map nT)]) (r:=nT) (zcb g0) (fun σ=>∃ o,σ = [o]) (fun t=>decide (1 < t)) nT (xs:=gs) (σ:=[none]) (acc:=[]) ⟨_,rfl⟩ (by rw [length_nil];omega) (by
    rintro t σ _ ⟨o,rfl⟩
    have:decide ((1:Int) < (t:Int)) = decide (1 < t):=decide_eq_decide.mpr (by omega)
    exact ⟨[some (nT t)],rfl,⟨_,rfl⟩,by simp_arith [this],by simp_arith [and_self]⟩)
   rw [nil_append] at cp
   refine Ok.seqR fun X hX=>?_
   simp_arith [yY,zau,zc7 g0,cp,Qh,ag]
   rw [hX];clear hX;simp only [yh]
   generalize hM1:M ++ [Cell.lst (gs.map nT)] = M1 at ln
   have hM:M1.take M.length = M:=by rw [← hM1];exact List.take_left' rfl
   generalize (pos (isP k) (bts n (qh R))).length = q at *
   generalize (pos (isG n k) (bts n (qh R))).length = u at *
   have any:=any_eq (n:=n) hps
   have hput:∃ f:Bool,eqA (.str n.ps[k].earns) (.str "first") M1 = .ok (.bl f) M1/\(gs.length:Int) - (q:Int) * (if f = true then 1 else 0) = (u:Int):=by
    have an:=any M1
    rcases hpe with z | z
    ·rw [z] at an ⊢
     have hf:n.any k = false:=by
      have:Out.ok (FT.T.bl false) M1 = .ok (.bl (n.any k)) M1:=an
      cases qa:n.any k with
      | false=>rfl
      | true=>rw [qa] at this;cases this
     rw [hf] at tot
     refine ⟨true,rfl,?_⟩
     simp only [Bool.false_eq_true,if_false,if_true] at tot ⊢
     omega
    ·rw [z] at an ⊢
     have hf:n.any k = true:=by
      have:Out.ok (FT.T.bl true) M1 = .ok (.bl (n.any k)) M1:=an
      cases qa:n.any k with
      | true=>rfl
      | false=>rw [qa] at this;cases this
     rw [hf] at tot
     refine ⟨false,rfl,?_⟩
     simp only [Bool.false_eq_true,if_false,if_true] at tot ⊢
     omega
   obtain ⟨f,ef,hput⟩:=hput
   have ml:yT (nT q) (.int (if f = true then 1 else 0)) M1 = .ok (.int ((q:Int) * (if f = true then 1 else 0))) M1:=zpy (by split <;> omega)
   refine Ok.seqR fun X hX=>?_
   simp_arith [ln,ef,zlj,ml,hput]
   rw [hX];clear hX;simp only [yh]
   refine Ok.seqR fun X hX=>?_
   simp_arith [hu]
   rw [hX];clear hX;simp only [yh]
   generalize hm:n.ps[k].per = m at *
   have dv:∀ i M,zdw (.int i) (.int m) M = .ok (.int (i.fdiv m)) M:=fun i M=>zfa (zku 100 (by decide) (by omega) (by
    refine Nat.lt_of_le_of_lt (show m.natAbs<=10 ^ 7 from by simp only [Nat.reducePow];omega) (Nat.pow_lt_pow_right (by decide) (by decide))))
   have md:∀ i M,zby (.int i) (.int m) M = .ok (.int (i.fmod m)) M:=fun i M=>zgI (by omega)
   have f1:(u:Int).fmod m = (u:Int) % m:=Q9 _ (by omega)
   have f2:(u:Int).fdiv m = (u:Int) / m:=Int.fdiv_eq_ediv_of_nonneg _ (by omega)
   have d1:decide ((0:Int)<=(u:Int) % m) = true:=Qw (Int.emod_nonneg _ (by omega))
   have d2:decide ((u:Int) % m < m) = true:=Qw (Int.emod_lt_of_pos _ (by omega))
   have d3:decide ((0:Int)<=(u:Int) / m - (q:Int)) = true:=Qw (by
    have:(q:Int)<=(u:Int) / m:=(Int.le_ediv_iff_mul_le (by omega)).mpr (by rw [← e2];exact_mod_cast hco)
    omega)
   have li1:∀ (i j:Int) (M:Mem),leI (.int i) (.int j) M = .ok (.bl (decide (i<=j))) M:=fun _ _ _=>rfl
   simp_arith [md,dv,f1,f2,d1,d2,d3,Qy]
   exact Ok.ret ⟨rfl,hM⟩
 obtain ⟨t,M',e,rfl,k⟩:=key
 unfold qV zbu
 rw [e]
 dsimp only
 rw [QA ⟨k,.bl _⟩]
end
section
variable {κ:Type} [DecidableEq κ]
theorem zmk (D:List (κ × FT.T)) (k j:κ) (v:FT.T):zF (D ++ [(k,v)]) j = match zF D j with
  | some x=>some x
  | none=>if j = k then some v else none:=by
 unfold zF
 rw [List.find?_append]
 cases q:D.find? fun kv=>decide (kv.1 = j) with
 | some x=>rfl
 | none=>
  by_cases z:j = k
  ·subst z;simp
  ·have:¬ k = j:=fun x=>z x.symm
   simp [z,this]
theorem zig (k j:κ) (v:FT.T):∀ D:List (κ × FT.T),(D.any fun kv=>decide (kv.1 = k)) = true\/j ≠ k->zF (D.map fun kv=>if kv.1 = k then (kv.1,v) else kv) j = if j = k then some v else zF D j
 | [],h=>by
  rcases h with h | h
  ·cases h
  ·rw [QB h];rfl
 | kv :: D,h=>by
  have rec_:=fun h'=>zig k j v D h'
  unfold zF at rec_ ⊢
  rw [QG,find?_cons,find?_cons]
  by_cases e:kv.1 = k
  ·rw [QA e]
   by_cases z:j = k
   ·subst z
    simp only [e,decide_true,if_true]
    rfl
   ·have:¬ kv.1 = j:=fun y=>z (y.symm.trans e)
    simp only [this,decide_false]
    exact rec_ (.inr z)
  ·rw [QB e]
   by_cases z:kv.1 = j
   ·have:¬ j = k:=fun y=>e (z.trans y)
    simp only [z,decide_true,QB this]
   ·simp only [z,decide_false]
    refine rec_ (h.imp (fun h=>?_) id)
    rw [any_cons] at h
    simpa [e] using h
theorem zk7 (D:List (κ × FT.T)) (k j:κ) (v:FT.T):zF (zcK D k v) j = if j = k then some v else zF D j:=by
 unfold zcK
 split
 ·rename_i h
  exact zig k j v D (.inl h)
 ·rename_i h
  rw [zmk]
  by_cases z:j = k
  ·rw [QA z,QA z,z]
   have:zF D k = none:=by
    unfold zF
    rw [show (D.find? fun kv=>decide (kv.1 = k)) = none from List.find?_eq_none.mpr fun x hx hz=>h (List.any_eq_true.mpr ⟨x,hx,hz⟩)]
    rfl
   rw [this]
  ·rw [QB z,QB z]
   cases zF D j <;> rfl
theorem zl6 (D:List (κ × FT.T)) (k:κ) (v:FT.T):(zcK D k v).length<=D.length + 1:=by
 unfold zcK
 split
 ·rw [Qh];omega
 ·simp
end
noncomputable def kk (a b:Nat):List Key:=[.inl (a:Int),.inl (b:Int)]
theorem zpJ {a b c d:Nat} (h:kk a b = kk c d):a = c/\b = d:=by
 unfold kk at h
 injection h with h1 h2
 injection h2 with h2 _
 injection h1 with h1
 injection h2 with h2
 omega
def DI (L:List Sk) (D:List (List Key × FT.T)):Prop:=∀ a b,zF D (kk a b) = if cnt L a b = 0 then none else some (nT (cnt L a b))
variable {D:List (List Key × FT.T)}
theorem DI.isSome (h:DI L D) (a b:Nat):(zF D (kk a b)).isSome = decide (0 < cnt L a b):=by
 rw [h]
 by_cases z:cnt L a b = 0
 ·rw [QA z,z];rfl
 ·rw [QB z,Qw (by omega)];rfl
theorem DI.getD (h:DI L D) (a b:Nat):(zF D (kk a b)).getD (.int 0) = nT (cnt L a b):=by
 rw [h]
 by_cases z:cnt L a b = 0
 ·rw [QA z,z];rfl
 ·rw [QB z];rfl
section
theorem zdM (h:M[x]? = some (.dtu D)):zdk (.ref x) M = some D:=by
 show (match M[x]? with
  | some (.dtu kvs)=>some kvs
  | _=>none) = _
 rw [h]
theorem zg3 (h:M[x]? = some (.dtu D)):ze2 (.ref x) M = true:=by unfold ze2;rw [zdM h];rfl
theorem zm1 (h:M[x]? = some (.dtu D)) (d:DI L D) (a b:Nat):inU (.tup [nT a,nT b]) (.ref x) M = .ok (.bl (decide (0 < cnt L a b))) M:=by
 unfold inU
 rw [zdM h]
 show Out.ok (FT.T.bl (zF D (kk a b)).isSome) M = _
 rw [d.isSome]
theorem zh8 (h:M[x]? = some (.dtu D)) (d:DI L D) (a b:Nat):zb7 (.tup [nT a,nT b]) (.ref x) M = .ok (.bl (!decide (0 < cnt L a b))) M:=by
 unfold zb7
 rw [zdM h]
 show Out.ok (FT.T.bl (!(zF D (kk a b)).isSome)) M = _
 rw [d.isSome]
theorem zqe (h:M[x]? = some (.dtu D)) (d:DI L D) (a b:Nat):zcP (.ref x) [.tup [nT a,nT b],.int 0] M = .ok (nT (cnt L a b)) M:=by
 unfold zcP
 rw [zdM h]
 show Out.ok ((zF D (kk a b)).getD (.int 0)) M = _
 rw [d.getD]
theorem zqf (h:M[x]? = some (.dtu D)) (d:DI L D) {a b:Nat} (hc:0 < cnt L a b):zcP (.ref x) [.tup [nT a,nT b]] M = .ok (nT (cnt L a b)) M:=by
 unfold zcP
 rw [zdM h]
 show Out.ok ((zF D (kk a b)).getD .non) M = _
 rw [d,QB (by omega)]
 rfl
theorem zq8 (h:M[x]? = some (.dtu D)) (hl:D.length < 100000) (a b c:Nat):zdt (.ref x) (.tup [nT a,nT b,nT c]) none (some 2) (nT c) M = .ok () (M.set x (.dtu (zcK D (kk a b) (nT c)))):=by
 unfold zdt
 simp only [h]
 show (if D.length < sizeLine/\_ then Out.ok () (M.set x (.dtu (zcK D (kk a b) (nT c)))) else .bad) = _
 rw [QA ⟨by rw [sizeLine_eq];omega,fun z=>absurd z.2 (show ¬ (2:Nat) = 3 by decide)⟩]
end
theorem cnt_none (t:TI n (qh R)) (he:R.es[i]? = some e) (h0:n.asks e.house = []) (b:Nat):cnt (qh R) i b = 0:=by
 unfold cnt
 rw [List.filter_eq_nil_iff.mpr,length_nil]
 intro s hs z
 obtain ⟨j,hj⟩:=mem_iff_getElem?.mp hs
 have ts:=t j s hj
 obtain ⟨h',o⟩:=s
 cases o with
 | none=>cases z
 | some c=>
  obtain ⟨rfl,rfl⟩:=(zd9 i b h' c).mp z
  obtain ⟨sa,a,h1,h2,_⟩:=ts
  have h3:(qh R)[c.1]? = some sa:=by
   have hl:=(Qz.mp h1).1
   rw [Qr] at hl
   rw [List.getElem?_take_of_lt (by omega)] at h1
   exact h1
  rw [zeU he] at h3
  cases h3
  rw [h0] at h2
  cases h2
section
theorem zjB (A:List Ask) (M:Mem):neA (.tup (A.map qC)) (.tup []) M = .ok (.bl (!A.isEmpty)) M/\eqA (.tup (A.map qC)) (.tup []) M = .ok (.bl A.isEmpty) M:=by cases A <;> exact ⟨rfl,rfl⟩
theorem zms {xs:List Str} (h:zcH s xs 0 = some k) (M:Mem):zea (.lst (xs.map .str)) [.str s] M = .ok (nT k) M:=by
 unfold zea qv
 dsimp only
 rw [QA,zis,h]
 rw [Qs]
 refine ⟨rfl,all_eq_true.mpr fun t ht=>?_⟩
 obtain ⟨y,_,rfl⟩:=mem_map.mp ht
 rfl
theorem _root_.FT.Ok.ifN {c:FT.Ev->Mem->Out Bool} {p:FT.Ev->Mem->Out Fl} {X:Fl->Mem->Out Fl} (hc:c σ M = .ok false M) (h:Ok (X (.nx σ) M) Q):Ok ((sIf c p qE σ M).bind X) Q:=by
 unfold sIf
 rw [hc]
 exact h
theorem walk1 (wn:WN n) (ri:RI n R) (p:PI n R) (he:R.es[i]? = some e) (hl:R.es.length<=90000) (hx:M[x]? = some (.dtu D)) (hd:DI ((qh R).take i) D) (hD:D.length<=i) (o5 o6 o7 o8 o9 o10:Option FT.T) :
  Ok (za5 kE kR [some (qf n),some (.lst (R.es.map erT)),some (.lst ((n.hs.map (·.name)).map .str)),some (.ref x),some (nT i),o5,o6,o7,o8,o9,o10] M) fun fl M'=>∃ D',M' = M.set x (.dtu D')/\DI ((qh R).take (i + 1)) D'/\D'.length<=i + 1/\∃ o5 o6 o7 o8 o9 o10,fl = .nx [some (qf n),some (.lst (R.es.map erT)),some (.lst ((n.hs.map (·.name)).map .str)),some (.ref x),some (nT i),o5,o6,o7,o8,o9,o10]:=by
 have hi:=(Qz.mp he).1
 have hs:=zeU he
 have ts:=p.2.1 i _ hs
 have tk:(qh R).take (i + 1) = (qh R).take i ++ [(e.house,e.caller)]:=by
  rw [take_succ,hs];rfl
 have er1:atI (R.es.map erT) (i:Int) = some (.tup [nT e.house,clT e.caller,phT e.ph]):=qq (f:=erT) he
 have ms:M.set x (.dtu D) = M:=by
  refine ext_getElem? fun j=>?_
  rw [Qc]
  split
  ·rename_i z
   subst z
   rw [QA (qI hx),hx]
  ·rfl
 unfold za5
 refine Ok.seqX fun X hX=>?_
 cases qc:e.caller with
 | none=>
  rw [qc] at er1 ts tk
  have h0:e.house = 0:=ts
  have i1:∀ M,isN (clT none) .non M = .ok (.bl true) M:=fun _=>rfl
  have z0:(((e.house:Nat):Int) == 0) = true:=by rw [h0];rfl
  simp_arith [er1]
  rw [hX];clear hX;simp only [yh]
  refine Ok.ifB true (by simp_arith [i1]) ?_
  rw [QA rfl]
  simp_arith [z0]
  refine Ok.ret ⟨D,ms.symm,?_,by omega,_,_,_,_,_,_,rfl⟩
  rw [tk]
  intro a b
  rw [zcg fun c z=>by cases z]
  exact hd a b
 | some c=>
  rw [qc,show clT (some c) = .tup [nT c.1,nT c.2.1,nT c.2.2] from rfl] at er1
  rw [qc] at ts tk
  obtain ⟨sa,a,h1,h2,h3,h4,h5,h6⟩:=ts
  obtain ⟨hci,ce,c1,c2,c3⟩:=ri.cl i e c he qc
  have hsa:sa = (ce.house,ce.caller):=by
   rw [List.getElem?_take_of_lt hci,zeU c1] at h1
   exact (Qd h1).symm
  subst hsa
  have i1:∀ M,isN (.tup [nT c.1,nT c.2.1,nT c.2.2]) .non M = .ok (.bl false) M:=fun _=>rfl
  have w:=wn.as ce.house a (Qa h2)
  have aq:=zlO (kE:=kE) (kR:=kR) ri c1 h2
  have ix:=zms w.to
  rw [h3] at ix
  have il:∀ (ys:List FT.T) (M:Mem),zbQ (.lst ys) M = true:=fun _ _=>rfl
  have cu:zbU [nT c.1,nT c.2.1,nT c.2.2] none (some 2) = [nT c.1,nT c.2.1]:=rfl
  simp_arith [er1]
  rw [hX];clear hX;simp only [yh]
  refine Ok.ifB false (by simp_arith [i1]) ?_
  rw [QB (by decide)]
  refine Ok.seqX fun X hX=>?_
  simp_arith [aq]
  rw [hX];clear hX;simp only [yh]
  refine Ok.seqX fun X hX=>?_
  simp_arith [qY,zg3 hx,cu,zqe hx hd]
  rw [hX];clear hX;simp only [yh]
  have d1:decide ((i:Int)<=(c.1:Int)) = false:=Qx (by omega)
  have z2:((c.2.2:Int) == (cnt ((qh R).take i) c.1 c.2.1:Int) + 1) = true:=by rw [h4];exact Qy _
  refine Ok.seqX fun X hX=>?_
  simp_arith [d1,qY,il,ix,Qy,z2]
  rw [hX];clear hX;simp only [yh]
  have fin:Ok (zcD (eOp ixT (yb 6) (eC (.int 2))) (zgl (yb 3) (yb 6) zcm (zbO (eC (.int 2)))) [some (qf n),some (.lst (R.es.map erT)),some (.lst ((n.hs.map (·.name)).map .str)),some (.ref x),some (nT i),some (nT e.house),some (.tup [nT c.1,nT c.2.1,nT c.2.2]),some (phT e.ph),some (.tup [.str a.to,.int a.tries,opS a.purse,.str a.word,.bl a.hears,.bl a.sure]),some (nT (cnt ((qh R).take i) c.1 c.2.1)),o10] M) fun fl M'=>∃ D',M' = M.set x (.dtu D')/\DI ((qh R).take (i + 1)) D'/\D'.length<=i + 1/\∃ o5 o6 o7 o8 o9 o10,fl = .nx [some (qf n),some (.lst (R.es.map erT)),some (.lst ((n.hs.map (·.name)).map .str)),some (.ref x),some (nT i),o5,o6,o7,o8,o9,o10]:=by
   simp_arith [zgl,zq8 hx (by omega) c.1 c.2.1 c.2.2]
   refine Ok.ret ⟨_,rfl,?_,Qj (zl6 ..) (by omega),_,_,_,_,_,_,rfl⟩
   rw [tk]
   intro a' b'
   rw [zk7]
   by_cases z:kk a' b' = kk c.1 c.2.1
   ·obtain ⟨y1,y2⟩:=zpJ z
    subst y1 y2
    rw [QA z,ziQ ⟨rfl,rfl⟩,QB (by omega),h4]
   ·rw [QB z,zcg fun c' y=>by
     cases y
     exact fun y=>z (by rw [y.1,y.2])]
    exact hd a' b'
  refine Ok.seqX fun X hX=>?_
  have t2:c.2.1 = 0\/∃ b,c.2.1 = b + 1:=by cases c.2.1 <;> simp
  have d4:Ok (yR (zk (eOp gtI (eOp ixT (yb 6) (eC (.int 1))) (eC (.int 0)))) (zk (eOp zb7 (yD (zb (eOp ixT (yb 6) (eC (.int 0))) (zb (eOp zbJ (eOp ixT (yb 6) (eC (.int 1))) (eC (.int 1))) zd))) (yb 3))) [some (qf n),some (.lst (R.es.map erT)),some (.lst ((n.hs.map (·.name)).map .str)),some (.ref x),some (nT i),some (nT e.house),some (.tup [nT c.1,nT c.2.1,nT c.2.2]),some (phT e.ph),some (.tup [.str a.to,.int a.tries,opS a.purse,.str a.word,.bl a.hears,.bl a.sure]),some (nT (cnt ((qh R).take i) c.1 c.2.1)),o10] M) fun b M'=>b = false/\M' = M:=by
   rcases t2 with z | ⟨b,z⟩
   ·have y:decide ((0:Int) < (c.2.1:Int)) = false:=Qx (by omega)
    simp_arith [y]
    exact Ok.ret ⟨rfl,rfl⟩
   ·have y:decide ((0:Int) < (c.2.1:Int)) = true:=Qw (by omega)
    have nk:=zh8 hx hd c.1 b
    rw [Qw (by have:=h6 (by omega);rw [z,Nat.add_sub_cancel] at this;exact this)] at nk
    have sb:(c.2.1:Int) - 1 = (b:Int):=by omega
    simp_arith [y,sb,nk]
    exact Ok.ret ⟨rfl,rfl⟩
  obtain ⟨bb,M',ee,rfl,hMM⟩:=d4
  rw [hMM] at ee
  refine Ok.ifN ?_ (by rw [hX];exact fin)
  by_cases z:0 < a.tries
  ·have y:decide ((0:Int) < a.tries) = true:=Qw z
   have d3:decide (a.tries < (c.2.2:Int)) = false:=Qx (by have:=h5 z;omega)
   simp_arith [y,d3]
   exact ee
  ·have y:decide ((0:Int) < a.tries) = false:=Qx z
   simp_arith [y]
   exact ee
end
section
theorem walk2 (ri:RI n R) (p:PI n R) (he:R.es[i]? = some e) (hx:M[x]? = some (.dtu D)) (hd:DI (qh R) D) {N:FT.T} (o5 o6 o7 o8 o9 o10:Option FT.T) :
  Ok (yM kE kR [some (qf n),some (.lst (R.es.map erT)),some N,some (.ref x),some (nT i),o5,o6,o7,o8,o9,o10] M) fun fl M'=>M' = M/\∃ o5 o6 o7 o8 o9 o10,fl = .nx [some (qf n),some (.lst (R.es.map erT)),some N,some (.ref x),some (nT i),o5,o6,o7,o8,o9,o10]:=by
 have er1:atI (R.es.map erT) (i:Int) = some (.tup [nT e.house,clT e.caller,phT e.ph]):=qq (f:=erT) he
 have hh:=ri.hs _ _ he
 have hn:n.hs[e.house]? = some n.hs[e.house]:=Q0 hh
 have as:n.asks e.house = (n.hs[e.house]).asks:=by unfold Net.asks;rw [hn];rfl
 have hs1:atI (n.hs.map hsT) (e.house:Int) = some (.tup [.str (n.hs[e.house]).name,.tup ((n.asks e.house).map qC)]):=by rw [as];exact qq (f:=hsT) hn
 have pe:=p.2.2 i e he (fun z=>z)
 have ph:=ri.ph _ _ he
 have cn:=fun h0=>cnt_none p.2.1 he h0
 unfold PE at pe
 unfold zcF at ph
 have n1:=fun M=>(zjB (n.asks e.house) M).1
 have n2:=fun M=>(zjB (n.asks e.house) M).2
 have k0:inU (.tup [nT i,.int 0]) (.ref x) M = .ok (.bl (decide (0 < cnt (qh R) i 0))) M:=zm1 hx hd i 0
 have k1:zb7 (.tup [nT i,.int 0]) (.ref x) M = .ok (.bl (!decide (0 < cnt (qh R) i 0))) M:=zh8 hx hd i 0
 have v0:((n.asks e.house).isEmpty = true/\decide (0 < cnt (qh R) i 0) = false)\/((n.asks e.house).isEmpty = false/\decide (0 < cnt (qh R) i 0) = true):=by
  cases q:n.asks e.house with
  | nil=>exact .inl ⟨rfl,Qx (by rw [cn q];exact Qo 0)⟩
  | cons a as=>exact .inr ⟨rfl,Qw (pe.1 (by rw [q];simp))⟩
 have i2:∀ (s:Str) (M:Mem),inU (.str s) (.lst [.str "waits",.str "stands"]) M = inA (.str s) (.lst [.str "waits",.str "stands"]) M:=fun _ _=>rfl
 have iw:∀ M:Mem,inA (.str "works") (.lst [.str "waits",.str "stands"]) M = .ok (.bl false) M:=fun _=>rfl
 have ie:∀ M:Mem,inA (.str "ended") (.lst [.str "waits",.str "stands"]) M = .ok (.bl false) M:=fun _=>rfl
 have ia:∀ M:Mem,inA (.str "waits") (.lst [.str "waits",.str "stands"]) M = .ok (.bl true) M:=fun _=>rfl
 have is:∀ M:Mem,inA (.str "stands") (.lst [.str "waits",.str "stands"]) M = .ok (.bl true) M:=fun _=>rfl
 -- the third and the fourth question
 have tail:∀ (σ:FT.Ev) (t:FT.T) (f:Bool),σ = [some (qf n),some (.lst (R.es.map erT)),some N,some (.ref x),some (nT i),some (nT e.house),some (clT e.caller),some t,o8,o9,some (.tup ((n.asks e.house).map qC))]->eqA t (.tup [.str "ended",.str "well"]) M = .ok (.bl f) M->(f = true->(n.asks e.house).isEmpty = false->0 < cnt (qh R) i ((n.asks e.house).length - 1))->
   Ok (zh (sIf (zai (yR (zk (eOp neA (yb 10) (yD zd))) (zk (eOp zb7 (yD (zb (yb 4) (zb (eC (.int 0)) zd))) (yb 3)))) (yR (zk (eOp eqA (yb 10) (yD zd))) (zk (eOp inU (yD (zb (yb 4) (zb (eC (.int 0)) zd))) (yb 3))))) (yy (eC (.bl false))) qE)
    (sIf (yR (zk (eOp eqA (yb 7) (yD (zb (eC (.str "ended")) (zb (eC (.str "well")) zd))))) (yR (zk (eOp neA (yb 10) (yD zd))) (zk (eOp zb7 (yD (zb (yb 4) (zb (eOp zbJ (ze (yp yu) (zb (yb 10) zd)) (eC (.int 1))) zd))) (yb 3))))) (yy (eC (.bl false))) qE) σ M) fun fl M'=>M' = M/\∃ o5 o6 o7 o8 o9 o10,fl = .nx [some (qf n),some (.lst (R.es.map erT)),some N,some (.ref x),some (nT i),o5,o6,o7,o8,o9,o10]:=by
  rintro σ t f rfl et hf
  have kl:(n.asks e.house).isEmpty = false->zb7 (.tup [nT i,.int (((n.asks e.house).length:Int) - 1)]) (.ref x) M = .ok (.bl (!decide (0 < cnt (qh R) i ((n.asks e.house).length - 1)))) M:=fun z=>by
   have:=zh8 hx hd i ((n.asks e.house).length - 1)
   have hl:0 < (n.asks e.house).length:=by
    cases q:n.asks e.house with
    | nil=>rw [q] at z;cases z
    | cons a as=>simp
   rw [show nT ((n.asks e.house).length - 1) = .int (((n.asks e.house).length:Int) - 1) from congrArg FT.T.int (by omega)] at this
   exact this
  refine Ok.seqX fun X hX=>?_
  rcases v0 with ⟨v1,v2⟩ | ⟨v1,v2⟩
  ·simp_arith [n1,n2,v1,k0,v2]
   rw [hX];clear hX;simp only [yh]
   cases f with
   | false=>
    simp_arith [et]
    exact Ok.ret ⟨rfl,_,_,_,_,_,_,rfl⟩
   | true=>
    simp_arith [et,n1,v1]
    exact Ok.ret ⟨rfl,_,_,_,_,_,_,rfl⟩
  ·simp_arith [n1,n2,v1,k1,v2]
   rw [hX];clear hX;simp only [yh]
   cases f with
   | false=>
    simp_arith [et]
    exact Ok.ret ⟨rfl,_,_,_,_,_,_,rfl⟩
   | true=>
    have k2:=kl v1
    rw [Qw (hf rfl v1)] at k2
    simp_arith [et,n1,v1,Qh,k2]
    exact Ok.ret ⟨rfl,_,_,_,_,_,_,rfl⟩
 -- those who wait or stand
 have wait:∀ (a t:Nat) (s:Str),cnt (qh R) i a = t->1<=t->(∀ b,a < b->cnt (qh R) i b = 0)->(n.asks e.house).isEmpty = false->phT e.ph = .tup [.str s,nT a,nT t]->(∀ M:Mem,inA (.str s) (.lst [.str "waits",.str "stands"]) M = .ok (.bl true) M)->(∀ M:Mem,eqA (.str s) (.str "works") M = .ok (.bl false) M)->(eqA (.tup [.str s,nT a,nT t]) (.tup [.str "ended",.str "well"]) M = .ok (.bl false) M)->
   Ok (yM kE kR [some (qf n),some (.lst (R.es.map erT)),some N,some (.ref x),some (nT i),o5,o6,o7,o8,o9,o10] M) fun fl M'=>M' = M/\∃ o5 o6 o7 o8 o9 o10,fl = .nx [some (qf n),some (.lst (R.es.map erT)),some N,some (.ref x),some (nT i),o5,o6,o7,o8,o9,o10]:=by
  intro a t s c1 c2 c3 v1 e1 e2 e3 e4
  rw [e1] at er1
  have g1:=zqf hx hd (a:=i) (b:=a) (by omega)
  rw [c1] at g1
  have g2:inU (.tup [nT i,.int ((a:Int) + 1)]) (.ref x) M = .ok (.bl (decide (0 < cnt (qh R) i (a + 1)))) M:=zm1 hx hd i (a + 1)
  rw [c3 _ (Nat.lt_succ_self a),Qx (Qo 0)] at g2
  unfold yM
  refine Ok.seqX fun X hX=>?_
  simp_arith [er1]
  rw [hX];clear hX;simp only [yh]
  refine Ok.seqX fun X hX=>?_
  rw [show qf n = .tup [.tup (n.hs.map hsT),.tup (n.ps.map puT)] from rfl] at tail ⊢
  simp_arith [hs1]
  rw [hX];clear hX;simp only [yh]
  refine Ok.seqX fun X hX=>?_
  simp_arith [e3,i2,e2,n2,v1]
  rw [hX];clear hX;simp only [yh]
  refine Ok.seqX fun X hX=>?_
  simp_arith [i2,e2,qY,zg3 hx,g1,Qy,g2]
  rw [hX];clear hX;simp only [yh]
  exact tail _ _ false rfl e4 fun z=>by cases z
 cases q:e.ph with
 | works=>
  rw [q] at pe er1
  rw [show phT .works = .tup [.str "works"] from rfl] at er1
  have v1:(n.asks e.house).isEmpty = true:=by rw [show n.asks e.house = [] from pe.2];rfl
  have ew:∀ M:Mem,eqA (.str "works") (.str "works") M = .ok (.bl true) M:=fun _=>rfl
  unfold yM
  refine Ok.seqX fun X hX=>?_
  simp_arith [er1]
  rw [hX];clear hX;simp only [yh]
  refine Ok.seqX fun X hX=>?_
  rw [show qf n = .tup [.tup (n.hs.map hsT),.tup (n.ps.map puT)] from rfl] at tail ⊢
  simp_arith [hs1]
  rw [hX];clear hX;simp only [yh]
  refine Ok.seqX fun X hX=>?_
  simp_arith [ew,n1,v1,i2,iw]
  rw [hX];clear hX;simp only [yh]
  refine Ok.seqX fun X hX=>?_
  simp_arith [i2,iw]
  rw [hX];clear hX;simp only [yh]
  exact tail _ _ false rfl rfl fun z=>by cases z
 | waits a t=>
  rw [q] at pe ph
  refine wait a t "waits" pe.2.1 ph.2 pe.2.2 ?_ (by rw [q];rfl) ia (fun _=>rfl) rfl
  cases z:n.asks e.house with
  | nil=>rw [z] at ph;exact absurd ph.1 (Nat.not_lt_zero _)
  | cons b bs=>rfl
 | stands a t=>
  rw [q] at pe ph
  refine wait a t "stands" pe.2.1 ph.2.2 pe.2.2 ?_ (by rw [q];rfl) is (fun _=>rfl) rfl
  cases z:n.asks e.house with
  | nil=>rw [z] at ph;exact absurd ph.1 (Nat.not_lt_zero _)
  | cons b bs=>rfl
 | ended w=>
  rw [q] at pe er1
  rw [show phT (.ended w) = .tup [.str "ended",.str w] from rfl] at er1
  have ew:∀ M:Mem,eqA (.str "ended") (.str "works") M = .ok (.bl false) M:=fun _=>rfl
  have et:eqA (.tup [.str "ended",.str w]) (.tup [.str "ended",.str "well"]) M = .ok (.bl (w == ("well":Str))) M:=by
   show Out.ok (FT.T.bl (true && ((w == ("well":Str)) && true))) M = _
   rw [Bool.true_and,Bool.and_true]
  unfold yM
  refine Ok.seqX fun X hX=>?_
  simp_arith [er1]
  rw [hX];clear hX;simp only [yh]
  refine Ok.seqX fun X hX=>?_
  rw [show qf n = .tup [.tup (n.hs.map hsT),.tup (n.ps.map puT)] from rfl] at tail ⊢
  simp_arith [hs1]
  rw [hX];clear hX;simp only [yh]
  refine Ok.seqX fun X hX=>?_
  simp_arith [ew,i2,ie]
  rw [hX];clear hX;simp only [yh]
  refine Ok.seqX fun X hX=>?_
  simp_arith [i2,ie]
  rw [hX];clear hX;simp only [yh]
  refine tail _ _ _ rfl et fun z y=>pe.2 (by simpa using z) fun x=>?_
  rw [x] at y
  cases y
theorem zky (wn:WN n) (ri:RI n R) (p:PI n R) (hl:R.es.length<=90000) (M:Mem):zY kE kR [qf n,.lst (R.es.map erT)] M = .ok (.bl true) M:=by
 have key:Ok (zbk kE kR [qf n,.lst (R.es.map erT)] M) fun t M'=>t = .bl true/\M'.take M.length = M:=by
  refine qB rfl ?_
  unfold zcL
  have cp:yz (yn 0) qM (eOp ixT (yb 0) (eC (.int 0))) (n.hs.map hsT) [none] M [] = .ok ((n.hs.map (·.name)).map .str) M:=by
   rw [map_map]
   refine Ok.mapc (r:=hsT) (fun σ=>∃ o,σ = [o]) _ ⟨_,rfl⟩ (by have:=wn.hl;omega) ?_
   rintro h σ _ ⟨o,rfl⟩
   exact ⟨[some (.tup [.str h.name,.tup (h.asks.map qC)])],rfl,⟨_,rfl⟩,by simp_arith [and_self];rfl⟩
  have rg:=fun (M:Mem)=>za9 (M:=M) (j:=(R.es.length:Int)) (by omega)
  have st:∀ D D':List (List Key × FT.T),(M ++ [Cell.dtu D]).set M.length (.dtu D') = M ++ [.dtu D']:=fun D D'=>zgL M [] _ _
  refine Ok.seqR fun X hX=>?_
  rw [show startT 11 [qf n,.lst (R.es.map erT)] = [some (.tup [.tup (n.hs.map hsT),.tup (n.ps.map puT)]),some (.lst (R.es.map erT)),none,none,none,none,none,none,none,none,none] from rfl]
  simp_arith [cp]
  rw [hX];clear hX;simp only [yh]
  refine Ok.seqR fun X hX=>?_
  simp_arith [zhw]
  rw [hX];clear hX;simp only [yh]
  rw [show FT.T.tup [.tup (n.hs.map hsT),.tup (n.ps.map puT)] = qf n from rfl]
  refine Ok.seqR fun X hX=>?_
  simp_arith [Qh,rg,QH]
  refine Ok.bind (Ok.for (r:=FT.T.int) (xs:=rgI R.es.length) (fun i σ M'=>∃ o4 o5 o6 o7 o8 o9 o10 D,σ = [some (qf n),some (.lst (R.es.map erT)),some (.lst ((n.hs.map (·.name)).map .str)),some (.ref M.length),o4,o5,o6,o7,o8,o9,o10]/\M' = M ++ [.dtu D]/\DI ((qh R).take i) D/\D.length<=i) ⟨none,none,none,none,none,none,none,[],rfl,rfl,fun _ _=>rfl,Q3 _⟩ ?_) ?_
  ·rintro i y σ M1 hy ⟨o4,o5,o6,o7,o8,o9,o10,D,rfl,rfl,hd,hD⟩
   obtain ⟨hi,rfl⟩:=zcS hy
   have he:R.es[i]? = some R.es[i]:=Q0 hi
   simp_arith [and_self]
   refine (walk1 wn ri p he hl (zI:(M ++ [Cell.dtu D])[M.length]? = _) hd hD o5 o6 o7 o8 o9 o10).mono ?_
   rintro fl M2 ⟨D',rfl,hd',hD',p5,p6,p7,p8,p9,p10,rfl⟩
   exact ⟨_,rfl,_,_,_,_,_,_,_,D',rfl,st D D',hd',hD'⟩
  ·rintro fl M1 ⟨σ,rfl,o4,o5,o6,o7,o8,o9,o10,D,rfl,rfl,hd,hD⟩
   rw [zb6,take_of_length_le (by rw [zdE];exact Q3 _)] at hd
   try simp_arith [and_self]
   rw [hX];clear hX;simp only [yh]
   refine Ok.seqR fun X hX=>?_
   simp_arith [Qh,rg,QH]
   refine Ok.bind (Ok.for (r:=FT.T.int) (xs:=rgI R.es.length) (fun i σ M'=>∃ o4 o5 o6 o7 o8 o9 o10,σ = [some (qf n),some (.lst (R.es.map erT)),some (.lst ((n.hs.map (·.name)).map .str)),some (.ref M.length),o4,o5,o6,o7,o8,o9,o10]/\M' = M ++ [.dtu D]) ⟨_,_,_,_,_,_,_,rfl,rfl⟩ ?_) ?_
   ·rintro i y σ M1 hy ⟨o4,o5,o6,o7,o8,o9,o10,rfl,rfl⟩
    obtain ⟨hi,rfl⟩:=zcS hy
    have he:R.es[i]? = some R.es[i]:=Q0 hi
    simp_arith [and_self]
    refine (walk2 ri p he (zI:(M ++ [Cell.dtu D])[M.length]? = _) hd o5 o6 o7 o8 o9 o10).mono ?_
    rintro fl M2 ⟨rfl,p5,p6,p7,p8,p9,p10,rfl⟩
    exact ⟨_,rfl,_,_,_,_,_,_,_,rfl,rfl⟩
   ·rintro fl M1 ⟨σ,rfl,o4,o5,o6,o7,o8,o9,o10,rfl,rfl⟩
    try simp_arith [and_self]
    rw [hX];clear hX;simp only [yh]
    simp_arith [and_self]
    exact Ok.ret ⟨rfl,List.take_left' rfl⟩
 obtain ⟨t,M',e,rfl,k⟩:=key
 unfold zY zbu
 rw [e]
 dsimp only
 rw [QA ⟨k,.bl _⟩]
end
theorem VEv.snoc {n:Net}:∀ {evs:List Evt} {R:Run} {ev:Evt},VEv n R evs->Can n (evs.foldl (zbs n) R) ev->VEv n R (evs ++ [ev])
 | [],_,_,_,c=>⟨c,True.intro⟩
 | _ :: _,_,_,v,c=>⟨v.1,VEv.snoc v.2 c⟩
theorem znP (R:Run):(zeD n R).length<=10 * R.es.length + 1:=by
 unfold zeD
 rw [Qp]
 have:=zfE (n:=n) R R.es.length
 omega
theorem zpX (ns:List Nat):zfD (ns.map nT) = some (ns.map fun n:Nat=>(n:Int)):=by
 induction ns with
 | nil=>rfl
 | cons n ns ih=>simp only [QG,zfD,ih,Option.map_some]
theorem zqV (ns:List Nat) (M:Mem):sumK (.lst (ns.map nT)) M = .ok (nT ns.sum) M:=by
 have:∀ ns:List Nat,(ns.map fun n:Nat=>(n:Int)).sum = ((ns.sum:Nat):Int):=fun ns=>by
  induction ns with
  | nil=>rfl
  | cons n ns ih=>rw [QG,sum_cons,sum_cons,ih];omega
 unfold sumK qv
 simp only [zpX,this]
theorem GN.wd (gn:GN n):∀ h a,a ∈ n.asks h->a.word ≠ "well":=by
 intro h a ha
 unfold Net.asks at ha
 cases eh:n.hs[h]? with
 | none=>rw [eh] at ha;cases ha
 | some x=>
  rw [eh] at ha
  rcases (gn.ao h x eh a ha).wo with z | z <;> rw [z] <;> decide
section
theorem zmP (gn:GN n) {ns:List Int} {a:Nat} (hc:M[a]? = some (.lst (evs.map evT))) (v:VEv n (Run.new n) evs) (hl:evs.length<=64) (o3 o4 o5 o6 o7 o8:Option FT.T) :
  Ok (zh (zcD (ze (zfZ kE kR) (zb (yb 1) (zb (yb 2) zd))) (zem 2 (zX (yn 6) (zX (yn 7) zen))))
 (zh (sIf (zai (zk (eOp neA (ze (yp yu) (zb (yb 7) zd)) (ze (yp yu) (zb (eOp ixT (yb 1) (eC (.int 1))) zd)))) (zbI (zk (ze (zY kE kR) (zb (yb 1) (zb (yb 6) zd)))))) (yy (eC (.bl false))) qE)
 (zh (sIf (zbI (zk (ze (yp zgV) (zb (eFz (qN (zQ (zb (ze (yp yu) (zb (yb 7) zd)) zd)) (yn 0) qM (ze (qV kE kR) (zb (yb 1) (zb (yb 2) (zb (yb 3) (zb (yb 0) zd))))) ["at"] [("net",1),("errands",6),("purses",7)])) zd)))) (yy (eC (.bl false))) qE)
 (zh (qr 8 (eFz (qN (zQ (zb (ze (yp yu) (zb (eOp ixT (yb 1) (eC (.int 0))) zd)) zd)) (yn 0) qM (ze (zba kE kR) (zb (yb 1) (zb (yb 2) (zb (yb 0) zd)))) ["house"] [("net",1),("events",2)])))
 (sIf (zai (zk (eOp neA (ze (yp sumK) (zb (yb 8) zd)) (ze (yp yu) (zb (yb 6) zd)))) (zk (eOp neA (ze (zbD kE kR) (zb (yb 2) zd)) (ze (yp yu) (zb (eFz (qN (zb9 (yb 6)) (yn 0) (zk (eOp isN (eOp ixT (yb 0) (eC (.int 1))) (eC .non))) (yb 0) ["one"] [])) zd))))) (yy (eC (.bl false))) qE)))) [some (.lst (ns.map .int)),some (qf n),some (.ref a),o3,o4,o5,o6,o7,o8] M) fun fl M'=>M' = M/\∃ o6 o7 o8,fl = .nx [some (.lst (ns.map .int)),some (qf n),some (.ref a),o3,o4,o5,o6,o7,o8]:=by
 have wn:=gn.wn
 have es:EvS (.ref a) evs M:=⟨a,rfl,hc⟩
 have rn:=zoT (kE:=kE) (kR:=kR) wn es v (by omega)
 have ldq:=fun {h:Nat} (hh:h < n.hs.length)=>znU (kE:=kE) (kR:=kR) wn es v (by omega) hh
 have pq:=zpi (kE:=kE) (kR:=kR) hc (by omega)
 have g:=zav wn v evs.length (Q3 _)
 have lr:=LR.run wn v evs.length (Q3 _)
 have pi:=PI.run wn gn.wd v evs.length (Q3 _)
 have hf:=zqr n evs (Run.new n)
 rw [take_length] at g lr pi
 have hf:fc (qG n evs) = (evs.filter (·.isF)).length:=by
  unfold qG
  rw [hf]
  exact Nat.zero_add _
 unfold zfR at rn
 generalize qG n evs = R at rn ldq g lr pi hf
 have hel:R.es.length<=90000:=by have:=g.sb.es;omega
 have cq:=zky (kE:=kE) (kR:=kR) wn g.ri pi hel M
 have puq:=fun {k:Nat} (hk:k < n.ps.length)=>zl7 (kE:=kE) (kR:=kR) gn g.ri lr pi hel hk M
 have hsum:((List.range n.hs.length).map fun h=>(R.es.filter fun e=>e.house == h).length).sum = R.es.length:=by
  rw [← zqB (fun e:Er=>e.house) R.es n.hs.length]
  rw [List.filter_eq_self.mpr]
  intro e he
  obtain ⟨i,hi⟩:=mem_iff_getElem?.mp he
  exact Qw (g.ri.hs i e hi)
 have c1:yz (yn 0) qM (ze (qV kE kR) (zb (yb 1) (zb (yb 2) (zb (yb 3) (zb (yb 0) zd))))) ((rgI n.ps.length).map .int) [none,some (qf n),some (.lst (R.es.map erT)),some (.lst ((List.range n.ps.length).map fun k=>tdT (R.told n k)))] M [] = .ok ((List.range n.ps.length).map fun _=>.bl true) M:=by
  rw [show (rgI n.ps.length).map FT.T.int = (List.range n.ps.length).map nT by unfold rgI;rw [map_map];rfl]
  refine Ok.mapc (r:=nT) (fun σ=>∃ o,σ = [o,some (qf n),some (.lst (R.es.map erT)),some (.lst ((List.range n.ps.length).map fun k=>tdT (R.told n k)))]) _ ⟨_,rfl⟩ (by rw [length_range];have:=wn.pl;omega) ?_
  rintro k σ hk ⟨o,rfl⟩
  exact ⟨[some (nT k),some (qf n),some (.lst (R.es.map erT)),some (.lst ((List.range n.ps.length).map fun k=>tdT (R.told n k)))],rfl,⟨_,rfl⟩,by simp_arith [puq (mem_range.mp hk)]⟩
 have c2:yz (yn 0) qM (ze (zba kE kR) (zb (yb 1) (zb (yb 2) (zb (yb 0) zd)))) ((rgI n.hs.length).map .int) [none,some (qf n),some (.ref a)] M [] = .ok (((List.range n.hs.length).map fun h=>(R.es.filter fun e=>e.house == h).length).map nT) M:=by
  rw [map_map,show (rgI n.hs.length).map FT.T.int = (List.range n.hs.length).map nT by unfold rgI;rw [map_map];rfl]
  refine Ok.mapc (r:=nT) (fun σ=>∃ o,σ = [o,some (qf n),some (.ref a)]) _ ⟨_,rfl⟩ (by rw [length_range];have:=wn.hl;omega) ?_
  rintro h σ hh ⟨o,rfl⟩
  exact ⟨[some (nT h),some (qf n),some (.ref a)],rfl,⟨_,rfl⟩,by simp_arith [ldq (mem_range.mp hh)];rfl⟩
 have c3:yz (yn 0) (zk (eOp isN (eOp ixT (yb 0) (eC (.int 1))) (eC .non))) (yb 0) (R.es.map erT) [none] M [] = .ok ((R.es.filter fun e=>e.caller.isNone).map erT) M:=by
  refine Ok.filt (r:=erT) (fun σ=>∃ o,σ = [o]) (fun e=>e.caller.isNone) _ ⟨_,rfl⟩ (by omega) ?_
  rintro e σ _ ⟨o,rfl⟩
  have i1:isN (clT e.caller) .non M = .ok (.bl e.caller.isNone) M:=by cases e.caller <;> rfl
  refine ⟨[some (erT e)],rfl,⟨_,rfl⟩,?_,fun _=>by simp_arith [and_self]⟩
  rw [show erT e = .tup [nT e.house,clT e.caller,phT e.ph] from rfl]
  simp_arith [i1]
 have rg1:zd3 [.int (n.ps.length:Int)] M = .ok ((rgI n.ps.length).map .int) M:=za9 (j:=(n.ps.length:Int)) (by have:=wn.pl;omega)
 have rg2:zd3 [.int (n.hs.length:Int)] M = .ok ((rgI n.hs.length).map .int) M:=za9 (j:=(n.hs.length:Int)) (by have:=wn.hl;omega)
 have al:=zmR (fun _:Nat=>true) (List.range n.ps.length) M
 rw [all_eq_true.mpr fun _ _=>rfl] at al
 have l1:((List.range n.ps.length).map fun k=>tdT (R.told n k)).length = n.ps.length:=by rw [Qh,length_range]
 have l2:(R.es.map erT).length = R.es.length:=Qh ..
 have l3:((R.es.filter fun e=>e.caller.isNone).map erT).length = (evs.filter (·.isF)).length:=by rw [Qh,← hf];rfl
 generalize ((List.range n.ps.length).map fun k=>tdT (R.told n k)) = Uu at *
 generalize R.es.map erT = Ee at *
 generalize (R.es.filter fun e=>e.caller.isNone).map erT = Ff at *
 have l4:(n.ps.map puT).length = n.ps.length:=Qh ..
 have l5:(n.hs.map hsT).length = n.hs.length:=Qh ..
 rw [show qf n = .tup [.tup (n.hs.map hsT),.tup (n.ps.map puT)] from rfl] at *
 generalize n.hs.map hsT = Hh at *
 generalize n.ps.map puT = Pp at *
 refine Ok.seqX fun X hX=>?_
 simp_arith [rn]
 rw [hX];clear hX;simp only [yh]
 refine Ok.seqX fun X hX=>?_
 simp_arith [l1,l4,Qy,cq]
 rw [hX];clear hX;simp only [yh]
 refine Ok.seqX fun X hX=>?_
 simp_arith [l1,rg1,QH,c1,al]
 rw [hX];clear hX;simp only [yh]
 refine Ok.seqX fun X hX=>?_
 simp_arith [l5,rg2,QH,c2]
 rw [hX];clear hX;simp only [yh]
 simp_arith [zqV,hsum,l2,Qy,pq,c3,l3]
 exact Ok.ret ⟨rfl,_,_,_,rfl⟩
theorem law_true (kE kR:Addr) (ns:List Int) (hn:ns.length<=63):∃ M,zhv kE kR [.lst (ns.map .int)] [] = .ok (.bl true) M:=by
 have key:Ok (zhv kE kR [.lst (ns.map .int)] []) fun t _=>t = .bl true:=by
  refine qB rfl ?_
  unfold zm3
  obtain ⟨c,hc⟩:=zjX (kE:=kE) (kR:=kR) (ns:=ns) (n:=0) (by omega) []
  refine Ok.seqR fun X hX=>?_
  rw [show (FT.T.int ((0:Nat):Int)) = .int 0 from rfl] at hc
  simp_arith [hc,zii]
  refine Ok.bind (zpw (kE:=kE) (kR:=kR) (PO.app (M:=[]) (c:=c))) ?_
  rintro t M1 ⟨n,rfl,gn,p1,f1⟩
  have wn:=gn.wn
  try simp_arith [and_self]
  rw [hX];clear hX;simp only [yh]
  refine Ok.seqR fun X hX=>?_
  simp_arith [and_self]
  rw [hX];clear hX;simp only [yh]
  refine Ok.seqR fun X hX=>?_
  have mm:∀ i:Int,0<=i->i<=63->∃ q:Nat,(if (if i < 63 then i else 63) > 14 then (if i < 63 then i else 63) else 14) = ((q:Nat):Int)/\1<=q/\q<=63:=fun i h0 h1=>by
   refine ⟨(if (if i < 63 then i else 63) > 14 then (if i < 63 then i else 63) else 14).toNat,?_,?_,?_⟩ <;> (split <;> split <;> omega)
  obtain ⟨q,hq,q1,q2⟩:=mm (ns.length:Int) (by omega) (by omega)
  have rg:∀ M,zfw [.int 1,.int (q:Int)] M = .ok ((rgF 1 (q - 1)).map .int) M:=fun M=>by
   rw [znh (by omega),show ((q:Int) - 1).toNat = q - 1 by omega]
  simp_arith [Qh,zgJ,hq,rg]
  refine Ok.bind (Ok.for (r:=FT.T.int) (xs:=rgF 1 (q - 1)) (fun k σ M=>∃ o3 o4 o5 o6 o7 o8 evs,σ = [some (.lst (ns.map .int)),some (qf n),some (.ref M1.length),o3,o4,o5,o6,o7,o8]/\M[M1.length]? = some (.lst (evs.map evT))/\VEv n (Run.new n) evs/\evs.length = k) ⟨none,none,none,none,none,none,[],rfl,zI,True.intro,rfl⟩ ?_) ?_
  ·rintro k x σ M2 hx ⟨o3,o4,o5,o6,o7,o8,evs,rfl,c2,v2,l2⟩
   obtain ⟨hk,rfl⟩:=zni hx
   generalize M1.length = a at *
   have a2:=qI c2
   obtain ⟨cc,hcc⟩:=zjX (kE:=kE) (kR:=kR) (ns:=ns) (n:=1 + k) (by omega) M2
   rw [show (((1 + k:Nat):Int)) = 1 + (k:Int) from by omega] at hcc
   have c3:(M2 ++ [(Po.new (cc + (1 + (k:Int)))).cell])[a]? = some (.lst (evs.map evT)):=by rw [Q6 a2];exact c2
   have p3:PO M2.length (M2 ++ [(Po.new (cc + (1 + (k:Int)))).cell]):=PO.app
   have me:=zpz (kE:=kE) (kR:=kR) wn ⟨a,rfl,c3⟩ v2 (by omega)
   have gd:=zav wn v2 evs.length (Q3 _)
   rw [take_length] at gd
   simp_arith [and_self]
   unfold zlM
   refine Ok.seqX fun X hX=>?_
   simp_arith [hcc,zii]
   rw [hX];clear hX;simp only [yh]
   generalize M2 ++ [(Po.new (cc + (1 + (k:Int)))).cell] = M3 at c3 p3 me ⊢
   refine Ok.seqX fun X hX=>?_
   simp_arith [me]
   rw [hX];clear hX;simp only [yh]
   have ml:=znP (n:=n) (qG n evs)
   have hes:=gd.sb.es
   have mne:zeD n (qG n evs) ≠ []:=fun z=>by cases z
   have mem:=fun ev (h:ev ∈ zeD n (qG n evs))=>znO h
   generalize zeD n (qG n evs) = L at ml mne mem
   refine Ok.seqP (fun fl M'=>∃ L',L' ≠ []/\(∀ ev ∈ L',ev ∈ L)/\L'.length<=90000/\PO M2.length M'/\Fr [M2.length] M3 M'/\fl = .nx [some (.lst (ns.map .int)),some (qf n),some (.ref a),some (.int (1 + (k:Int))),some (.ref M2.length),some (.lst (L'.map evT)),o6,o7,o8]) ?_ ?_
   ·by_cases z:1 < L.length
    ·have z1:decide ((1:Int) < (L.length:Int)) = true:=Qw (by omega)
     simp_arith [Qh,z1]
     refine Ok.bind (qH p3 (by decide) (by decide)) ?_
     rintro t M4 ⟨d,rfl,d0,d1,p4,f4⟩
     by_cases y:0 < d
     ·have y1:decide ((0:Int) < d) = true:=Qw y
      have e0:qv (.lst (L.map evT)) M4 = some (L.map evT):=rfl
      have cu:zbU (L.map evT) (some 1) none = (L.drop 1).map evT:=ziM evT L 1
      simp_arith [y1,e0,cu]
      exact Ok.ret ⟨L.drop 1,(fun q=>by have:=congrArg List.length q;rw [length_drop,length_nil] at this;omega),fun ev he=>List.mem_of_mem_drop he,by rw [length_drop];omega,p4,f4,rfl⟩
     ·have y1:decide ((0:Int) < d) = false:=Qx y
      simp_arith [y1]
      exact Ok.ret ⟨L,mne,fun ev he=>he,by omega,p4,f4,rfl⟩
    ·have z1:decide ((1:Int) < (L.length:Int)) = false:=Qx (by omega)
     simp_arith [Qh,z1]
     exact Ok.ret ⟨L,mne,fun ev he=>he,by omega,p3,Fr.refl _ _,rfl⟩
   rintro fl M4 ⟨L',hne,hsub,hll,p4,f4,rfl⟩
   have c4:=f4.get c3 (by simp;omega)
   rw [yh]
   have hlp:0 < (L'.length:Int):=by have:=List.length_pos_iff.mpr hne;omega
   refine Ok.seqX fun X hX=>?_
   simp_arith [Qh,qR c4]
   refine Ok.bind (qH p4 hlp (zhA hlp (by omega))) ?_
   rintro t M5 ⟨d,rfl,d0,d1,p5,f5⟩
   have c5:=f5.get c4 (by simp;omega)
   obtain ⟨i,rfl⟩:∃ i:Nat,d = i:=⟨d.toNat,by omega⟩
   have hi:i < L'.length:=by omega
   have ha:atI (L'.map evT) (i:Int) = some (evT L'[i]):=qq (Q0 hi)
   have ap:=zam (t:=evT L'[i]) c5 (by rw [Qh,sizeLine_eq];omega)
   have hin:=hsub L'[i] (getElem_mem hi)
   generalize L'[i] = ev at ha ap hin
   rw [show evs.map evT ++ [evT ev] = (evs ++ [ev]).map evT from by simp] at ap
   simp_arith [ha,ap]
   rw [hX];clear hX;simp only [yh]
   have v6:VEv n (Run.new n) (evs ++ [ev]):=v2.snoc (mem ev hin)
   have c6:(M5.set a (.lst ((evs ++ [ev]).map evT)))[a]? = some (.lst ((evs ++ [ev]).map evT)):=get_set c5
   generalize M5.set a (.lst ((evs ++ [ev]).map evT)) = M6 at c6
   have hl6:(evs ++ [ev]).length = evs.length + 1:=by simp
   refine (zmP gn c6 v6 (by omega) _ _ _ o6 o7 o8).mono ?_
   rintro fl M7 ⟨rfl,p6,p7,p8,rfl⟩
   exact ⟨_,rfl,_,_,_,_,_,_,_,rfl,c6,v6,by omega⟩
  ·rintro fl M2 ⟨σ,rfl,o3,o4,o5,o6,o7,o8,evs,rfl,_⟩
   try simp_arith [and_self]
   rw [hX];clear hX;simp only [yh]
   simp_arith [and_self]
   exact Ok.ret rfl
 obtain ⟨t,M,e,rfl⟩:=key
 exact ⟨M,e⟩
end
end My
theorem My.e1 {α:Type} {P:List α->Prop} (h:∀ a,P [a]):∀ us:List α,us.length = 1->P us
 | [a],_=>h a
theorem My.e2 {α:Type} {P:List α->Prop} (h:∀ a b,P [a,b]):∀ us:List α,us.length = 2->P us
 | [a,b],_=>h a b
theorem My.e3 {α:Type} {P:List α->Prop} (h:∀ a b c,P [a,b,c]):∀ us:List α,us.length = 3->P us
 | [a,b,c],_=>h a b c
theorem My.e4 {α:Type} {P:List α->Prop} (h:∀ a b c d,P [a,b,c,d]):∀ us:List α,us.length = 4->P us
 | [a,b,c,d],_=>h a b c d
local macro_rules | `(tactic| rfl') => do
 let K:=Lean.mkIdent `KX
 let G:=Lean.mkIdent `G
 `(tactic| (dsimp only [L2.KOf];refine' L2.zB $K $G ?a ?l ?c ?k ?b;(case a=>k_is);(case l=>k_is);(case c=>k_is);(case k=>k_is)))
local macro_rules | `(tactic| eq_refl) => `(tactic| (dsimp only [L2.KOf];refine' FT.zbt ?a ?n;(case a=>k_is);(case n=>k_is)))
open PySem PySem.W PyProof.Rows
set_option maxRecDepth 100000 in
set_option maxHeartbeats 0 in
theorem PySem.Challenge.cw_tryweir_k40_whole_tries_counted_holds : PySem.Challenge.rw_tryweir_k40_whole_tries_counted.Holds := by
 refine My.hdD.2 ?_
 dsimp only [My.hdD]
 k_fill
 refine L2.zlU (l:=PySem.Challenge.rw_tryweir_k40_whole_tries_counted) (n:=63) (k:=33) (x:="script") (CX:=L2.CX0) (sp:=fun K=>FT.spT K (My.zhv (FT.yQ K "Errand") (FT.yQ K "Run"))) rfl (by decide) rfl ⟨rfl,by decide,by decide⟩ (fun w h Y=>PySem.W.kIn_of Y) ?F ?S ?C
 case F=>
  intro w mg fa h KX G hmg
  have uR:L2.Df (L2.KOf KX) mg "_law_next" My.zft ["pool","base"]:=by rfl';exact fun _ _ _ _ _ _=>My.e2 fun _ _=>rfl
  have uN:L2.Df (L2.KOf KX) mg "_law_words" My.zez ["pool","many"]:=by rfl';exact fun _ _ _ _ _ _=>My.e2 fun _ _=>rfl
  have uT:L2.Df (L2.KOf KX) mg "_law_asks" My.zfv ["pool","later","purses","most"]:=by rfl';exact fun _ _ _ _ _ _=>My.e4 fun _ _ _ _=>rfl
  have uY:L2.Df (L2.KOf KX) mg "_law_net" My.zgu ["pool"]:=by rfl';exact fun _ _ _ _ _ _=>My.e1 fun _=>rfl
  have uX:L2.Df (L2.KOf KX) mg "_law_dig" My.zgv ["cell"]:=by rfl';exact fun _ _ _ _ _ _=>My.e1 fun _=>rfl
  have vc:FT.Di (L2.KOf KX) mg "Run" "Run.__init__" (FT.yQ (L2.KOf KX) "Run") My.zd1 ["self","net"]:=by
   dsimp only [L2.KOf]
   refine' FT.zm5 KX G ?a6 ?e6 ?i6 ?l6 ?c6 ?k6 ?m6 ?q6 ?b6
   (case a6=>k_is);(case e6=>k_is);(case i6=>k_is);(case l6=>k_is);(case c6=>k_is);(case k6=>k_is);(case m6=>k_is);(case q6=>k_is)
   exact fun _ _ _ _ _ _=>My.e2 fun _ _=>rfl
  have u2:L2.Cls (L2.KOf KX) (FT.yQ (L2.KOf KX) "Run"):=by
   dsimp only [L2.KOf]
   refine' FT.zlA ?a7 ?p7 ?h7 ?o7 ?s7
   (case a7=>k_is);(case p7=>k_is);(case h7=>k_is);(case o7=>k_is);(case s7=>k_is)
  have uC:L2.NoAttr (L2.KOf KX) (FT.yQ (L2.KOf KX) "Run") "came":=by eq_refl
  have um:L2.NoAttr (L2.KOf KX) (FT.yQ (L2.KOf KX) "Run") "errands":=by eq_refl
  have uM:L2.NoAttr (L2.KOf KX) (FT.yQ (L2.KOf KX) "Run") "net":=by eq_refl
  have ui:L2.NoAttr (L2.KOf KX) (FT.yQ (L2.KOf KX) "Run") "payments":=by eq_refl
  have uv:L2.NoAttr (L2.KOf KX) (FT.yQ (L2.KOf KX) "Run") "puts":=by eq_refl
  have ur:L2.NoAttr (L2.KOf KX) (FT.yQ (L2.KOf KX) "Run") "taken":=by eq_refl
  have uO:L2.Df (L2.KOf KX) mg "asks_of" My.zeA ["run","number"]:=by rfl';exact fun _ _ _ _ _ _=>My.e2 fun _ _=>rfl
  have un:L2.Df (L2.KOf KX) mg "may_be_lost" My.zcz ["run","number"]:=by rfl';exact fun _ _ _ _ _ _=>My.e2 fun _ _=>rfl
  have ud:L2.Df (L2.KOf KX) mg "has_tries_left" My.zbx ["run","number"]:=by rfl';exact fun _ _ _ _ _ _=>My.e2 fun _ _=>rfl
  have ub:L2.Df (L2.KOf KX) mg "events_by_tries" My.zbj ["run","number"]:=by rfl';exact fun _ _ _ _ _ _=>My.e2 fun _ _=>rfl
  have uw:L2.Df (L2.KOf KX) mg "number_of" My.zdp ["named","name"]:=by rfl';exact fun _ _ _ _ _ _=>My.e2 fun _ _=>rfl
  have uE:L2.Df (L2.KOf KX) mg "purse_of" My.zdU ["run","ask"]:=by rfl';exact fun _ _ _ _ _ _=>My.e2 fun _ _=>rfl
  have us:L2.Df (L2.KOf KX) mg "coins_made" My.zc4 ["run","purse"]:=by rfl';exact fun _ _ _ _ _ _=>My.e2 fun _ _=>rfl
  have uu:L2.Df (L2.KOf KX) mg "purse_told" My.zc3 ["run","purse"]:=by rfl';exact fun _ _ _ _ _ _=>My.e2 fun _ _=>rfl
  have uL:L2.Df (L2.KOf KX) mg "has_coin" My.zdY ["run","number"]:=by rfl';exact fun _ _ _ _ _ _=>My.e2 fun _ _=>rfl
  have ux:L2.Df (L2.KOf KX) mg "events_at" My.zdr ["run","number"]:=by rfl';exact fun _ _ _ _ _ _=>My.e2 fun _ _=>rfl
  have uF:L2.Df (L2.KOf KX) mg "is_whole" My.zdX ["thing"]:=by rfl';exact fun _ _ _ _ _ _=>My.e1 fun _=>rfl
  have uB:L2.Df (L2.KOf KX) mg "is_within" My.zdq ["thing","low","high"]:=by rfl';exact fun _ _ _ _ _ _=>My.e3 fun _ _ _=>rfl
  have uG:L2.Df (L2.KOf KX) mg "can_come" My.zdZ ["run","event"]:=by rfl';exact fun _ _ _ _ _ _=>My.e2 fun _ _=>rfl
  have uo:L2.Df (L2.KOf KX) mg "check_event" My.zcB ["run","event"]:=by rfl';exact fun _ _ _ _ _ _=>My.e2 fun _ _=>rfl
  have uH:L2.Df (L2.KOf KX) mg "asked_by" My.zd0 ["net","ask"]:=by rfl';exact fun _ _ _ _ _ _=>My.e2 fun _ _=>rfl
  have uV:FT.Di (L2.KOf KX) mg "Errand" "Errand.__init__" (FT.yQ (L2.KOf KX) "Errand") My.zcC ["self","house","caller"]:=by
   dsimp only [L2.KOf]
   refine' FT.zm5 KX G ?a29 ?e29 ?i29 ?l29 ?c29 ?k29 ?m29 ?q29 ?b29
   (case a29=>k_is);(case e29=>k_is);(case i29=>k_is);(case l29=>k_is);(case c29=>k_is);(case k29=>k_is);(case m29=>k_is);(case q29=>k_is)
   exact fun _ _ _ _ _ _=>My.e3 fun _ _ _=>rfl
  have uJ:L2.Cls (L2.KOf KX) (FT.yQ (L2.KOf KX) "Errand"):=by
   dsimp only [L2.KOf]
   refine' FT.zlA ?a30 ?p30 ?h30 ?o30 ?s30
   (case a30=>k_is);(case p30=>k_is);(case h30=>k_is);(case o30=>k_is);(case s30=>k_is)
  have uk:L2.NoAttr (L2.KOf KX) (FT.yQ (L2.KOf KX) "Errand") "asked":=by eq_refl
  have ue:L2.NoAttr (L2.KOf KX) (FT.yQ (L2.KOf KX) "Errand") "caller":=by eq_refl
  have ug:L2.NoAttr (L2.KOf KX) (FT.yQ (L2.KOf KX) "Errand") "house":=by eq_refl
  have ua:L2.NoAttr (L2.KOf KX) (FT.yQ (L2.KOf KX) "Errand") "is_lost":=by eq_refl
  have uj:L2.NoAttr (L2.KOf KX) (FT.yQ (L2.KOf KX) "Errand") "state":=by eq_refl
  have uf:L2.NoAttr (L2.KOf KX) (FT.yQ (L2.KOf KX) "Errand") "stood":=by eq_refl
  have uz:L2.Df (L2.KOf KX) mg "begin_try" My.zcl ["run","number","at","tried"]:=by rfl';exact fun _ _ _ _ _ _=>My.e4 fun _ _ _ _=>rfl
  have ul:L2.Df (L2.KOf KX) mg "begin_errand" My.za8 ["run","house","caller"]:=by rfl';exact fun _ _ _ _ _ _=>My.e3 fun _ _ _=>rfl
  have ut:L2.Df (L2.KOf KX) mg "end_errand" My.zbM ["run","number","word"]:=by rfl';exact fun _ _ _ _ _ _=>My.e3 fun _ _ _=>rfl
  have u4:L2.Df (L2.KOf KX) mg "hear" My.zfW ["run","caller","word"]:=by rfl';exact fun _ _ _ _ _ _=>My.e3 fun _ _ _=>rfl
  have u6:L2.Df (L2.KOf KX) mg "lose" My.zhW ["run","number"]:=by rfl';exact fun _ _ _ _ _ _=>My.e2 fun _ _=>rfl
  have uy:L2.Df (L2.KOf KX) mg "take_coin" My.zdo ["run","purse"]:=by rfl';exact fun _ _ _ _ _ _=>My.e2 fun _ _=>rfl
  have uA:L2.Df (L2.KOf KX) mg "try_again" My.zdn ["run","number"]:=by rfl';exact fun _ _ _ _ _ _=>My.e2 fun _ _=>rfl
  have uW:L2.Df (L2.KOf KX) mg "go_up" My.zgx ["run","number"]:=by rfl';exact fun _ _ _ _ _ _=>My.e2 fun _ _=>rfl
  have uK:L2.Df (L2.KOf KX) mg "let_come" My.zdW ["run","event"]:=by rfl';exact fun _ _ _ _ _ _=>My.e2 fun _ _=>rfl
  have uU:L2.Df (L2.KOf KX) mg "run_of" My.zfs ["net","events"]:=by rfl';exact fun _ _ _ _ _ _=>My.e2 fun _ _=>rfl
  have uI:L2.Df (L2.KOf KX) mg "may_come" My.zdV ["net","events"]:=by rfl';exact fun _ _ _ _ _ _=>My.e2 fun _ _=>rfl
  have uQ:L2.Df (L2.KOf KX) mg "told_of" My.zex ["run"]:=by rfl';exact fun _ _ _ _ _ _=>My.e1 fun _=>rfl
  have vd:L2.Df (L2.KOf KX) mg "ran" My.zkb ["net","events"]:=by rfl';exact fun _ _ _ _ _ _=>My.e2 fun _ _=>rfl
  have uS:L2.Df (L2.KOf KX) mg "_law_cell" My.zfu ["script","k"]:=by rfl';exact fun _ _ _ _ _ _=>My.e2 fun _ _=>rfl
  have up:L2.Df (L2.KOf KX) mg "check_house" My.zcA ["net","house"]:=by rfl';exact fun _ _ _ _ _ _=>My.e2 fun _ _=>rfl
  have uD:L2.Df (L2.KOf KX) mg "run_load" My.zdT ["net","events","house"]:=by rfl';exact fun _ _ _ _ _ _=>My.e3 fun _ _ _=>rfl
  have uZ:L2.Df (L2.KOf KX) mg "_law_ask" My.zgw ["net","errands","caller"]:=by rfl';exact fun _ _ _ _ _ _=>My.e3 fun _ _ _=>rfl
  have uc:L2.Df (L2.KOf KX) mg "_law_callers_right" My.zbi ["net","errands"]:=by rfl';exact fun _ _ _ _ _ _=>My.e2 fun _ _=>rfl
  have uP:L2.Df (L2.KOf KX) mg "run_pay" My.zey ["events"]:=by rfl';exact fun _ _ _ _ _ _=>My.e1 fun _=>rfl
  have uh:L2.Df (L2.KOf KX) mg "_law_purse_right" My.zbL ["net","errands","purses","k"]:=by rfl';exact fun _ _ _ _ _ _=>My.e4 fun _ _ _ _=>rfl
  have u3:mg "range" = none:=by refine' PySem.W.mg_none_of KX G ?z57;k_is
  have va:mg "len" = none:=by refine' PySem.W.mg_none_of KX G ?z58;k_is
  have vb:mg "min" = none:=by refine' PySem.W.mg_none_of KX G ?z59;k_is
  have u7:mg "int" = none:=by refine' PySem.W.mg_none_of KX G ?z60;k_is
  have u0:mg "tuple" = none:=by refine' PySem.W.mg_none_of KX G ?z61;k_is
  have u8:mg "max" = none:=by refine' PySem.W.mg_none_of KX G ?z62;k_is
  have uq:mg "isinstance" = none:=by refine' PySem.W.mg_none_of KX G ?z63;k_is
  have u5:mg "bool" = none:=by refine' PySem.W.mg_none_of KX G ?z64;k_is
  have u9:mg "all" = none:=by refine' PySem.W.mg_none_of KX G ?z65;k_is
  have ve:mg "sum" = none:=by refine' PySem.W.mg_none_of KX G ?z66;k_is
  have u1:∃ a,mg "FRESH" = some (.ref a)/\FT.KTu (L2.KOf KX) a [.str "fresh"]:=by
   dsimp only [L2.KOf]
   refine' ⟨_,PySem.W.mg_of KX G ?z67,FT.zpI ?y67⟩
   (case z67=>k_is);(case y67=>k_is)
  have L:=by
   refine' L2.zpG (st:=My.zkc) KX G ?la ?ll ?lc ?lk ?lb
   (case la=>k_is);(case ll=>k_is);(case lc=>k_is);(case lk=>k_is)
   exact fun _ _ _ _ _ _ s u=>.of_eq rfl
  obtain ⟨f,fd,F,g,hb⟩:=L
  have e:=hmg.symm.trans g
  cases e
  have T:My.Txt (L2.KOf KX) mg (FT.yQ (L2.KOf KX) "Errand") (FT.yQ (L2.KOf KX) "Run"):=⟨uJ,u2,uk,ue,ug,ua,uj,uf,uC,um,uM,ui,uv,ur,u3,va,vb,u7,u0,u8,uq,u5,u9,ve,u1⟩
  refine ⟨fd,hb,fun base _ _=>?_⟩
  have zw:=My.zw (P:=My.pg) (w:=w) (base:=base) uR T
  have zbE:=My.zbE uN T zw
  have zdb:=My.zdb uT T zw
  have zdN:=My.zdN uY T zbE zw zdb
  have zcX:=My.zcX (P:=My.pg) (w:=w) (base:=base) uX T
  have zf2:=My.zf2 (P:=My.pg) (w:=w) (base:=base) vc T
  have zq:=My.zq (P:=My.pg) (w:=w) (base:=base) uO T
  have zaF:=My.zaF un T zq
  have z8:=My.z8 ud T zq
  have yK:=My.yK ub T zaF z8
  replace yK:=FT.CalT.refine yK (FT.zjR _) (FT.zjS _)
  have qZ:=My.qZ (P:=My.pg) (w:=w) (base:=base) uw T
  have yG:=My.yG uE T qZ
  have za4:=My.za4 (P:=My.pg) (w:=w) (base:=base) us T
  have yU:=My.yU uu T za4
  have zbY:=My.zbY uL T yG zq yU
  have z4:=My.z4 ux T yK zbY
  have zbX:=My.zbX (P:=My.pg) (w:=w) (base:=base) uF T
  have z3:=My.z3 uB T zbX
  have zbZ:=My.zbZ uG T z4 z3
  have zaH:=My.zaH uo T zbZ
  have zah:=My.zah uH T qZ
  have zaX:=My.zaX (P:=My.pg) (w:=w) (base:=base) uV T
  have zG:=My.zG uz ul T yG zq zah zaX 12
  have yF:=zG.1
  have qQ:=zG.2
  have zU:=My.zU ut u4 T zq yF 12
  have qL:=zU.1
  have zdc:=zU.2
  have zeQ:=My.zeQ u6 T zdc
  have zbq:=My.zbq (P:=My.pg) (w:=w) (base:=base) uy T
  have zbp:=My.zbp uA T yG yF zbq zq
  have zdO:=My.zdO uW T qL zq
  have zbW:=My.zbW uK T qQ qL zeQ zbp zdO
  have z7:=My.z7 uU T zf2 zaH zbW
  have zaB:=My.zaB uI T z7 z4
  replace zaB:=FT.CalT.refine zaB (FT.zjR _) (FT.zjS _)
  have zcw:=My.zcw uQ T yU
  have zel:=My.zel vd T zcw z7
  replace zel:=FT.CalT.refine zel (FT.zei _) (FT.zej _)
  have zci:=My.zci (P:=My.pg) (w:=w) (base:=base) uS T
  have zaG:=My.zaG up T z3
  have zaA:=My.zaA uD T zaG z7
  replace zaA:=FT.CalT.refine zaA (FT.zei _) (FT.zej _)
  have zbF:=My.zbF (P:=My.pg) (w:=w) (base:=base) uZ T
  have zK:=My.zK uc T zbF
  replace zK:=FT.CalT.refine zK (FT.zei _) (FT.zej _)
  have zcx:=My.zcx (P:=My.pg) (w:=w) (base:=base) uP T
  have zO:=My.zO uh T zbF
  replace zO:=FT.CalT.refine zO (FT.zei _) (FT.zej _)
  exact My.zpr F T zdN zcX zaB zel zci zaA zw zK zcx zO
 case S=>
  intro K H a ns hl _ hS
  obtain ⟨M,h⟩:=My.law_true (FT.yQ K "Errand") (FT.yQ K "Run") ns hl
  exact FT.znW hS h
 case C=>exact fun _ _ _ _ z=>z
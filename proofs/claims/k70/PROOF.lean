import PyProof.Rows.All
import Wide.All
import OpenK.AllK
import Wide.FinOn
import Lean
import PyProof.EqAt
import PyProof.EqKinds
import PyProof.TupleCall
import PyProof.NeKinds
import PyProof.SumAny
import KE.KDictList
import KE.KDictOf
import PyProof.AttrMissHeap
import PyProof.Conv_int_bool
import PyProof.TupleOfStr
import PyProof.CollectIter
import PyProof.ListRange
import PyProof.DictWalks
import PyProof.ConsumeS
import PyProof.WalkInts
import PyProof.Draws
import PyProof.EnumFor
import PyProof.EnumStmt
import KE.KDictLaws
import KE.KRevIter
import KE.KDictSum
import PyProof.SeqRoads2
import PyProof.EqAt
import PyProof.EnumMake
import PyProof.ZipIter
import PyProof.InstStore
import PyProof.InstStoreFacts
import PyProof.ExcInit
import PyProof.ExcClass2
import PyProof.NsDelKeeps
import PyProof.ExcArgsOwn
import PyProof.Rows.SetFrom
import PyProof.SetRoads
import KE.KIsAll
import KE.IntTextText
import KE.KIntText
import PyProof.StrBlock2
import PyProof.FString5
import PyProof.CallStr
import PyProof.StrWalks
import PyProof.StrCalls
import PyProof.StrCalls2
import PyProof.SliceStr2
import PyProof.StrBlockI
import PyProof.Rows.StrJoin2
import PyProof.CallRoads3
import PyProof.TupleKey
import PyProof.Rows.Range3
import PyProof.AutoListH
import PyProof.Rows.SortShell
import PyProof.StrCalls6
import PyProof.SetRoads
import PyProof.Rows.SetFrom
import PyProof.WalkInts
import PyProof.EqAt
import PyProof.StrLawsReplace
import PyProof.StrLawsTight
import PyProof.StrLawsChain
import PyProof.StrLawsIn
import PyProof.StrLawsOcc
import PySem.Challenge.RW_tryweir_k70_whole_nets_written_and_read
open PySem.W (Frag)
open List (mem_range filterMap_cons mem_cons_self mem_cons_of_mem mem_cons mem_append mem_append_left mem_append_right append_nil nodup_cons of_mem_zip length_take getElem?_append_right getElem?_append_left getElem?_map mem_of_getElem? length_append length_map size_toArray length_drop all_cons any_cons replicate_succ flatten_cons append_assoc foldl_cons length_singleton map_nil map_cons find?_cons lookup_cons all_eq_true getElem_of_mem getElem_mem nil_append mem_singleton take_length getElem?_set getElem?_take getElem?_eq_getElem mem_map length_cons all_map getElem_toArray map_append map_take map_drop mem_of_mem_drop ext_getElem? getElem?_eq_none take_succ perm_append_comm length_nil map_map cons_append getElem?_cons_succ map_id map_congr_left drop_drop sum_cons length_range nodup_append map_id' not_mem_nil mem_iff_getElem? zip_append getElem?_append eq_nil_or_concat mem_flatMap flatMap_append append_inj' count_append count_cons_of_ne)
set_option Elab.async false
set_option linter.all false
set_option maxRecDepth 100000
local macro_rules | `(tactic| ac_rfl) => `(tactic| exact ⟨rfl, rfl, rfl, by decide +kernel, rfl, by decide +kernel, by decide +kernel⟩)
abbrev Q0:=@List.getElem?_eq_getElem
abbrev Q1:=@PySem.wpAny_bind
abbrev Q2:=@PySem.Heap.get?_push_of_some
abbrev Q3:=@Nat.le_refl
abbrev Q4:=@Bool.false_ne_true
abbrev Q5:=@Nat.lt_of_lt_of_le
abbrev Q6:=@List.getElem?_append_left
abbrev Q7:=@List.getElem?_append_right
abbrev Q8:=@Int.fmod_eq_emod_of_nonneg
abbrev Q9:=@List.mem_of_getElem?
abbrev Qa:=@List.getElem?_map
abbrev Qb:=@Option.some.inj
abbrev Qc:=@PySem.Heap.lt_size
abbrev Qd:=@PySem.wpAny_pure
abbrev Qe:=@PySem.wpAny_mono
abbrev Qf:=@List.length_map
abbrev Qg:=@List.size_toArray
abbrev Qh:=@Nat.le_trans
abbrev Qi:=@Nat.ne_of_lt
abbrev Qj:=@PySem.Heap.get?_push_size
abbrev Qk:=@List.mem_append_right
abbrev Ql:=@List.length_append
abbrev Qm:=@Nat.lt_irrefl
abbrev Qn:=@List.length_cons
abbrev Qo:=@List.map_append
abbrev Qp:=@List.length_take
abbrev Qq:=@Bool.and_eq_true
abbrev Qr:=@PySem.wpAny_newObj_type
abbrev Qs:=@List.length_singleton
abbrev Qu:=@decide_eq_true
abbrev Qv:=@decide_eq_false
abbrev Qw:=@if_pos
abbrev Qx:=@List.getElem?_eq_some_iff
abbrev Qy:=@if_neg
abbrev Qz:=@List.mem_singleton
abbrev QA:=@List.mem_cons
abbrev QB:=@of_decide_eq_true
abbrev QC:=@List.mem_append
abbrev QD:=@List.all_eq_true
abbrev QE:=@List.mem_map
abbrev QF:=@List.map_cons
abbrev QG:=@PySem.F.plainAttrs_list
abbrev QH:=@PySem.W.mg_none_of
abbrev QI:=@List.map_map
abbrev QJ:=@PySem.F.type_list_append
abbrev QK:=@PySem.F.slot_list_append
namespace My
open PySem
noncomputable def zr3:Stmt->Bool
 | .Assign [.Name x _] _ _=>!(x == "__name__")
 | _=>true
noncomputable abbrev pg:Program:=PySem.Challenge.rw_tryweir_k70_whole_nets_written_and_read.prog
noncomputable def vw:Program:={ pg with main:={ pg.main with body:=pg.main.body.filter zr3 } }
end My
section
open PySem PySem.W PyProof.Rows in
local macro_rules | `(tactic| o_head $H) => `(tactic| refine holds_open (q := My.vw) (loose := ["HEARS", "SURE"]) (Xt := fun s => xlAt My.vw [] s && recOk (RowW.records (OpenRow.toRowW (OpenLaw.row PySem.Challenge.rw_tryweir_k70_whole_nets_written_and_read))) s) (XP := XL My.vw []) (Yf := Hook.obs $H) (Ya := Hook.val $H) (YP := Hook.says $H) (N := 40000) (by refine LeftO.of_split "special-get-raises" ?_; intro w; kernel_rfl) (Hook.of $H) (Hook.keeps $H) (fun s e => xl_of s (Bool.and_eq_true_iff.mp e).1) XL.keeps (by rfl) (by rfl) (by rfl) (fun s e => recFacts_of (Bool.and_eq_true_iff.mp e).2) (by rfl) (by first | assumption | decide +kernel) (by decide +kernel) ⟨rfl, rfl, rfl, rfl, rfl, by decide +kernel⟩ ?hw ?hc)
open PySem PySem.W PyProof.Rows in
set_option maxHeartbeats 0 in
noncomputable def My.hdD:Σ' P:Prop,P->PySem.Challenge.rw_tryweir_k70_whole_nets_written_and_read.Holds:=by
 refine ⟨?P,fun hc=>?_⟩
 rotate_left
 ·w_on;o_law;k_head;(case hw=>w_witness2)
  exact hc
end
namespace L2
open PySem PySem.Spec PyProof.Rows
noncomputable abbrev Key:=Sum Int Str
noncomputable def zeb:Key->Value->Bool
 | .inl k,v=>Value.isInt k v
 | .inr x,v=>Value.isStrOf x v
noncomputable def zr1 (w:World):Key->Int
 | .inl k=>hashInt k
 | .inr x=>hashStr w x
theorem zK:∀ {k:Key} {v:Value},zeb k v = true->(∃ i t,k = Sum.inl i/\v = Value.int i t)\/(∃ x t,k = Sum.inr x/\v = Value.str x t)
 | .inl i,v,h=>by
  obtain ⟨t,e⟩:=Value.isInt_shape (k:=i) (v:=v) h
  exact .inl ⟨i,t,rfl,e⟩
 | .inr x,v,h=>by
  obtain ⟨t,e⟩:=Value.isStrOf_shape (x:=x) (v:=v) h
  exact .inr ⟨x,t,rfl,e⟩
theorem zkg (i:Int) (t:Tok):zeb (.inl i) (.int i t) = true:=by simp [zeb,Value.isInt]
theorem za2 (x:Str) (t:Tok):zeb (.inr x) (.str x t) = true:=by simp [zeb,Value.isStrOf]
theorem zpH (a b:Int):decide ((Sum.inl a:Key) = Sum.inl b) = (a == b):=by
 by_cases e:a = b
 ·subst e;simp
 ·have h:¬ (Sum.inl a:Key) = Sum.inl b:=fun q=>e (Sum.inl.inj q)
  rw [Qv h]
  exact (beq_eq_false_iff_ne.mpr e).symm
theorem zpE (a b:Str):decide ((Sum.inr a:Key) = Sum.inr b) = decide (a = b):=by
 by_cases e:a = b
 ·subst e;simp
 ·have h:¬ (Sum.inr a:Key) = Sum.inr b:=fun q=>e (Sum.inr.inj q)
  rw [Qv h,Qv e]
theorem zpG (a:Int) (b:Str):decide ((Sum.inl a:Key) = Sum.inr b) = false:=Qv (fun q=>nomatch q)
theorem zpF (a:Str) (b:Int):decide ((Sum.inr a:Key) = Sum.inl b) = false:=Qv (fun q=>nomatch q)
noncomputable def yT (prog:Program) (w:World):PySem.KeyKind prog w Key where
 is:=zeb
 hash:=zr1 w
 inj:=fun v a b ha hb=>by
  rcases zK ha with ⟨i,t,rfl,rfl⟩ | ⟨x,t,rfl,rfl⟩
  ·rcases zK hb with ⟨j,u,rfl,e⟩ | ⟨y,u,rfl,e⟩
   ·injection e with e1 _;rw [e1]
   ·exact nomatch e
  ·rcases zK hb with ⟨j,u,rfl,e⟩ | ⟨y,u,rfl,e⟩
   ·exact nomatch e
   ·injection e with e1 _;rw [e1]
 byValue:=fun k v h=>by
  rcases zK h with ⟨i,t,rfl,rfl⟩ | ⟨x,t,rfl,rfl⟩ <;> rfl
 pyHash:=fun hv h=>by
  rcases zK hv with ⟨i,t,rfl,rfl⟩ | ⟨x,t,rfl,rfl⟩
  ·exact wpAny_pyHash_int h
  ·exact wpAny_pyHash_str h
 eqBool:=fun hu hv h=>by
  rcases zK hu with ⟨i,t,rfl,rfl⟩ | ⟨x,t,rfl,rfl⟩
  ·rcases zK hv with ⟨j,u,rfl,rfl⟩ | ⟨y,u,rfl,rfl⟩
   ·rw [zpH] at h;exact wpAny_eqBool_int h
   ·rw [zpG] at h;exact SeqAt.EqAt.int_str i t y u _ _ _ _ h
  ·rcases zK hv with ⟨j,u,rfl,rfl⟩ | ⟨y,u,rfl,rfl⟩
   ·rw [zpF] at h;exact SeqAt.EqAt.str_int x t j u _ _ _ _ h
   ·rw [zpE] at h;exact wpAny_eqBool_str h
 «strs»:=fun k x t v h=>by
  rcases zK h with ⟨i,u,rfl,e⟩ | ⟨y,u,rfl,e⟩
  ·exact nomatch e
  ·injection e with e1 _
   subst e1
   cases v <;> rfl
theorem zhT (prog:Program) (w:World) (i:Int) (t:Tok):(yT prog w).is (.inl i) (.int i t) = true:=zkg i t
theorem zhS (prog:Program) (w:World) (x:Str) (t:Tok):(yT prog w).is (.inr x) (.str x t) = true:=za2 x t
inductive V where
 | non | bl (b:Bool) | int (i:Int) | str (x:Str) | byt (b:Array UInt8) | flt (b:UInt64) | ref (a:Addr) | ty (n:String)
 deriving DecidableEq
noncomputable def RelV:V->Value->Prop
 | .non,u=>u = Value.none
 | .bl b,u=>u = Value.bool b
 | .int i,u=>∃ t,u = Value.int i t
 | .str x,u=>∃ t,u = Value.str x t
 | .byt b,u=>∃ t,u = Value.bytes b t
 | .flt b,u=>∃ t,u = Value.float b t
 | .ref a,u=>u = Value.ref a
 | .ty n,u=>u = Value.type n
noncomputable abbrev Vals:List V->List Value->Prop:=Paired RelV
variable {xs:List V} {us:List Value}
theorem Vals.length (r:Vals xs us):xs.length = us.length:=Paired.length r
theorem Vals.get:∀ {xs:List V} {us:List Value} {i:Nat} {x:V},Vals xs us->xs[i]? = some x->∃ u,us[i]? = some u/\RelV x u
 | _,_,_,_,.nil,e=>by simp at e
 | _,_,0,_,.cons r _,e=>by simp at e;subst e;exact ⟨_,rfl,r⟩
 | _,_,i + 1,x,.cons _ t,e=>by
  obtain ⟨u,h1,h2⟩:=Vals.get (i:=i) (x:=x) t (by simpa using e)
  exact ⟨u,by simpa using h1,h2⟩
theorem Vals.set {x:V} {u:Value} (r:RelV x u):∀ {xs:List V} {us:List Value} (i:Nat),Vals xs us->Vals (xs.set i x) (us.set i u)
 | _,_,_,.nil=>.nil
 | _,_,0,.cons _ t=>.cons r t
 | _,_,i + 1,.cons q t=>.cons q (Vals.set r i t)
theorem Vals.append:∀ {xs ys:List V} {us ws:List Value},Vals xs us->Vals ys ws->Vals (xs ++ ys) (us ++ ws)
 | _,_,_,_,.nil,s=>s
 | _,_,_,_,.cons r t,s=>.cons r (Vals.append t s)
theorem Vals.take:∀ {xs:List V} {us:List Value} (n:Nat),Vals xs us->Vals (xs.take n) (us.take n)
 | _,_,0,_=>.nil
 | _,_,_ + 1,.nil=>.nil
 | _,_,n + 1,.cons r t=>.cons r (Vals.take n t)
theorem Vals.drop:∀ {xs:List V} {us:List Value} (n:Nat),Vals xs us->Vals (xs.drop n) (us.drop n)
 | _,_,0,r=>r
 | _,_,_ + 1,.nil=>.nil
 | _,_,n + 1,.cons _ t=>Vals.drop n t
theorem Vals.none_of:∀ {xs:List V} {us:List Value} {i:Nat},Vals xs us->xs[i]? = none->us[i]? = none:=fun {xs us i} r e=>by
 have h1:=r.length
 have h2:xs.length<=i:=List.getElem?_eq_none_iff.mp e
 exact List.getElem?_eq_none_iff.mpr (by omega)
noncomputable def RelO:Option V->Option Value->Prop
 | some v,some u=>RelV v u
 | none,none=>True
 | _,_=>False
noncomputable def KV {κ:Type}:List (κ × V)->List (κ × Value)->Prop:=Paired fun (p:κ × V) (q:κ × Value)=>p.1 = q.1/\RelV p.2 q.2
noncomputable def kV:Key->V
 | .inl i=>.int i
 | .inr x=>.str x
inductive HO where
 | lst (xs:List V)
 | tup (xs:List V)
 | dK (kvs:List (Key × V)) | dT (kvs:List (List Key × V))
 | set (S:Int->Bool) (n:Nat)
 | ins (C dx:Addr) (fs:List (Str × V))
 | own (x:Addr)
 | xd (fs:List (Str × V))
 | met (f x:Addr)
 | rng (lo hi:Int)
 | frz (o:Obj) (u:HO)
 | tbl (ps:Array Value)
 | ext (φ:Heap->Prop)
noncomputable abbrev Hp:=Addr->Option HO
noncomputable def upd (H:Hp) (a:Addr) (o:HO):Hp:=fun b=>if b = a then some o else H b
variable {o:HO} {H:Hp}
theorem yx {a:Addr} :upd H a o a = some o:=by unfold upd;rw [Qw rfl]
theorem ym {a b:Addr} (h:b ≠ a):upd H a o b = H b:=by unfold upd;rw [Qy h]
theorem ze4 {a b:Addr} {u:HO} (h:H a = some o) (h':H b = some u) (d:o ≠ u):a ≠ b:=by
 intro e;subst e;rw [h] at h';exact d (Qb h')
theorem yw {a b:Addr} (h:H a = some o) (h':H b = none):a ≠ b:=by
 intro e;subst e;rw [h] at h';cases h'
def NoDict (h:Heap) (a:Addr):Prop:=∀ o,h.get? a = some o->o.dict = none
variable {h:Heap} {n:Nat}
theorem NoDict.new {its:Array Value} {n:Nat}:NoDict (h.push { cls:=.type "tuple",data:=.seq its n }) h.objs.size:=fun o e=>by
 rw [Qj _ rfl] at e;cases e;rfl
section
variable (P:Program) (w:World)
noncomputable def ObjOk (H:Hp) (h:Heap) (a:Addr):HO->Prop
 | .lst xs=>xs.length<=sizeLine/\∃ (its:List Value) (n:Nat),Vals xs its/\h.get? a = some { cls:=.type "list",data:=.seq its.toArray n }
 | .tup xs=>xs.length<=sizeLine/\∃ its:List Value,Vals xs its/\IsTup h a its.toArray/\NoDict h a
 | .dK kvs=>kvs.length<=sizeLine/\(a == sysModules) = false/\∃ vs,KV kvs vs/\h.DictOf (yT P w) a vs
 | .dT kvs=>kvs.length<=sizeLine/\(a == sysModules) = false/\∃ xs:List (List Key × Addr × Value),
   Paired (fun (p:List Key × V) (q:List Key × Addr × Value)=>p.1 = q.1/\H q.2.1 = some (.tup (p.1.map kV))/\RelV p.2 q.2.2) kvs xs /\
   ∃ o es ep,h.get? a = some o/\o.ExactDict/\o.data = .dict es ep/\es.toList = xs.map (entryOfKey (tupleKind (yT P w)))/\(xs.map (·.1)).Nodup
 | .set S n=>h.SetOf (intKind P w) a S n
 | .ins C dx fs=>H dx = some (.own a)/\fs.length<=1000/\dx ≠ a/\h.get? a = some (PySem.W.instObj C dx) /\
   ∃ mA,h.Ns1 dx mA/\(∀ f,RelO (fs.lookup f) (mA f))/\PySem.Within mA (fs.map (·.1))
 | .own _=>∃ o,h.get? a = some o
 | .xd fs=>∃ mA,h.Ns1 a mA/\∀ f,RelO (fs.lookup f) (mA f)
 | .rng lo hi=>∃ t u v,h.get? a = some { cls:=.type "range",data:=.fields #[.int lo t,.int hi u,.int 1 v] }
 | .frz o u=>h.get? a = some o/\ObjOk H h a u
 | .tbl ps=>h.get? a = some { cls:=.none,data:=.fields ps }
 | .met f x=>h.get? a = some (PySem.W.methodObj (.ref f) (.ref x))
 | .ext φ=>φ h/\(∃ o,h.get? a = some o)/\∀ h1 h2:Heap,φ h1->(∀ o,h1.get? a = some o->h2.get? a = some o)->φ h2
def HOk (H:Hp) (h:Heap):Prop:=∀ a o,H a = some o->ObjOk P w H h a o
end
variable {h':Heap} {H':Hp} {P:Program} {w:World}
section
variable {a:Addr}
theorem ObjOk.lt (x:ObjOk P w H h a o):a < h.objs.size:=by
 cases o with
 | lst xs=>obtain ⟨_,_,_,_,e⟩:=x;exact Qc e
 | tup xs=>obtain ⟨_,_,_,p,_⟩:=x;exact p.lt
 | dK kvs=>obtain ⟨_,_,_,_,o,_,_,e,_⟩:=x;exact Qc e
 | dT kvs=>obtain ⟨_,_,_,_,o,_,_,e,_⟩:=x;exact Qc e
 | set S n=>obtain ⟨o,_,_,_,e,_⟩:=x;exact Qc e
 | ins C dx fs=>obtain ⟨_,_,_,e,_⟩:=x;exact Qc e
 | own y=>obtain ⟨_,e⟩:=x;exact Qc e
 | xd fs=>obtain ⟨_,⟨_,_,_,e,_⟩,_⟩:=x;exact Qc e
 | rng lo hi=>obtain ⟨_,_,_,e⟩:=x;exact Qc e
 | frz ob u=>obtain ⟨e,_⟩:=x;exact Qc e
 | tbl ps=>exact Qc (show h.get? a = some _ from x)
 | met f y=>exact Qc (show h.get? a = some _ from x)
 | ext φ=>obtain ⟨_,⟨_,e⟩,_⟩:=x;exact Qc e
theorem Paired.mapP {α β:Type} {F G:α->β->Prop}:∀ {l₁:List α} {l₂:List β},Paired F l₁ l₂->(∀ a b,F a b->G a b)->Paired G l₁ l₂
 | _,_,.nil,_=>.nil
 | _,_,.cons r t,f=>.cons (f _ _ r) (Paired.mapP t f)
theorem ObjOk.stay (x:ObjOk P w H h a o) (k:∀ b u,(b = a\/H b = some (.own a))->h.get? b = some u->h'.get? b = some u)
  (ho:∀ b,H b = some (.own a)->H' b = some (.own a)) (ht:∀ b xs,H b = some (.tup xs)->H' b = some (.tup xs)):ObjOk P w H' h' a o:=by
 induction o with
 | lst xs=>obtain ⟨z,its,n,r,e⟩:=x;exact ⟨z,its,n,r,k _ _ (.inl rfl) e⟩
 | tup xs=>obtain ⟨z,its,r,⟨ob,e,c⟩,nd⟩:=x;exact ⟨z,its,r,⟨ob,k _ _ (.inl rfl) e,c⟩,fun o q=>nd o (by rw [k _ _ (.inl rfl) e] at q;rw [e];exact q)⟩
 | dK kvs=>obtain ⟨z,y,vs,r,ob,es,ep,e,c⟩:=x;exact ⟨z,y,vs,r,ob,es,ep,k _ _ (.inl rfl) e,c⟩
 | dT kvs=>
  obtain ⟨z,y,xs,r,ob,es,ep,e,c⟩:=x
  exact ⟨z,y,xs,Paired.mapP r fun p q z=>⟨z.1,ht _ _ z.2.1,z.2.2⟩,ob,es,ep,k _ _ (.inl rfl) e,c⟩
 | set S n=>obtain ⟨ob,es,ep,t,e,c⟩:=x;exact ⟨ob,es,ep,t,k _ _ (.inl rfl) e,c⟩
 | ins C dx fs=>
  obtain ⟨d,z,ne,e,mA,⟨od,es,ep,e2,c⟩,r⟩:=x
  exact ⟨ho _ d,z,ne,k _ _ (.inl rfl) e,mA,⟨od,es,ep,k _ _ (.inr d) e2,c⟩,r⟩
 | own y=>obtain ⟨ob,e⟩:=x;exact ⟨ob,k _ _ (.inl rfl) e⟩
 | xd fs=>obtain ⟨mA,⟨od,es,ep,e,c⟩,r⟩:=x;exact ⟨mA,⟨od,es,ep,k _ _ (.inl rfl) e,c⟩,r⟩
 | rng lo hi=>obtain ⟨t,u,v,e⟩:=x;exact ⟨t,u,v,k _ _ (.inl rfl) e⟩
 | frz ob u ih=>obtain ⟨e,q⟩:=x;exact ⟨k _ _ (.inl rfl) e,ih q⟩
 | tbl ps=>
  have e:h.get? a = some { cls:=.none,data:=.fields ps }:=x
  show h'.get? a = some { cls:=.none,data:=.fields ps }
  exact k a _ (.inl rfl) e
 | met f y=>
  have e:h.get? a = some (PySem.W.methodObj (.ref f) (.ref y)):=x
  show h'.get? a = some (PySem.W.methodObj (.ref f) (.ref y))
  exact k a _ (.inl rfl) e
 | ext φ=>obtain ⟨p,⟨o,e⟩,st⟩:=x;exact ⟨st _ _ p fun o q=>k _ _ (.inl rfl) q,⟨o,k _ _ (.inl rfl) e⟩,st⟩
theorem HOk.lt (x:HOk P w H h) (e:H a = some o):a < h.objs.size:=(x a o e).lt
theorem HOk.fresh (x:HOk P w H h) (e:h.objs.size<=a):H a = none:=by
 cases q:H a with
 | none=>rfl
 | some u=>exact absurd (Q5 (x.lt q) e) (Qm _)
theorem HOk.kept (x:HOk P w H h) (k:∀ b u,h.get? b = some u->h'.get? b = some u):HOk P w H h':=fun a o e=>
 (x a o e).stay (fun b u _ q=>k b u q) (fun _ q=>q) fun _ _ q=>q
theorem HOk.laid (x:HOk P w H h) (k:∀ b u,h.get? b = some u->h'.get? b = some u) (hp:h.objs.size<=a) (new:ObjOk P w (upd H a o) h' a o):HOk P w (upd H a o) h':=fun b u e=>by
 have hn:=x.fresh hp
 by_cases hb:b = a
 ·subst hb;rw [yx] at e;cases e;exact new
 ·rw [ym hb] at e
  exact (x b u e).stay (fun c v _ q=>k c v q) (fun c q=>by rw [ym (yw q hn)];exact q) fun c xs q=>by rw [ym (yw q hn)];exact q
end
def Rd (H:Hp) (a:Addr) (u:HO):Prop:=H a = some u\/∃ o,H a = some (.frz o u)
theorem Rd.ok {a:Addr} {u:HO} (r:Rd H a u) (x:HOk P w H h):ObjOk P w H h a u:=by
 rcases r with r | ⟨o,r⟩
 ·exact x a u r
 ·obtain ⟨_,q⟩:=x a _ r
  exact q
noncomputable def Mut:Option HO->Prop
 | some (.lst _)=>True
 | some (.dK _)=>True
 | some (.dT _)=>True
 | some (.set _ _)=>True
 | some (.ins _ _ _)=>True
 | some (.ext _)=>True
 | _=>False
section
variable {x e:Addr} {o':HO}
theorem HOk.write (ok:HOk P w H h) (mu:Mut (H x)) (he:e = x\/H e = some (.own x)) (k:∀ b u,b ≠ e->h.get? b = some u->h'.get? b = some u) (heo:∃ u,h'.get? e = some u)
  (new:ObjOk P w (upd H x o') h' x o'):HOk P w (upd H x o') h':=fun b u q=>by
 have nown:∀ c y,H c = some (.own y)->c ≠ x:=fun c y r z=>by subst z;rw [r] at mu;exact mu
 have ntup:∀ c xs,H c = some (.tup xs)->c ≠ x:=fun c xs r z=>by subst z;rw [r] at mu;exact mu
 by_cases hb:b = x
 ·subst hb;rw [yx] at q;cases q;exact new
 ·rw [ym hb] at q
  by_cases hbe:b = e
  ·have q':H b = some (.own x):=by
    rcases he with z | z
    ·exact absurd (hbe.trans z) hb
    ·rw [hbe];exact z
   rw [q] at q';cases q'
   obtain ⟨v,hv⟩:=heo
   exact ⟨v,by rw [hbe];exact hv⟩
  ·refine (ok b u q).stay (fun c v hc r=>k c v ?_ r) (fun c r=>by rw [ym (nown c b r)];exact r) fun c xs r=>by rw [ym (ntup c xs r)];exact r
   rcases hc with rfl | hc
   ·exact hbe
   ·rintro rfl
    rcases he with z | z
    ·exact nown c b hc z
    ·rw [hc] at z;cases z;exact hb rfl
end
structure Un (fs ex:List Addr) (H H':Hp) (h h':Heap):Prop where
 keep:∀ b o,h.get? b = some o->H b = none->b ∉ fs->b ∉ ex->h'.get? b = some o
 slot:∀ b o,h.get? b = some o->H b = none->b ∈ fs->b ∉ ex->∃ sl,h'.get? b = some { o with slots:=sl }
 free:∀ b o,h.get? b = some o->H b = none->b ∉ ex->H' b = none
 there:∀ b o,h.get? b = some o->b ∉ ex->∃ o',h'.get? b = some o'
 tups:∀ b xs,H b = some (.tup xs)->H' b = some (.tup xs)
 frzs:∀ b o u,H b = some (.frz o u)->H' b = some (.frz o u)
 tbls:∀ b ps,H b = some (.tbl ps)->∃ more,H' b = some (.tbl (ps ++ more))
section
variable {fs fs' ex ex':List Addr} {H1 H2:Hp} {h1 h2:Heap} {a x e:Addr}
theorem Un.any (u:Un fs ex H H1 h h1) {b:Addr} {ob:Obj} (q:h.get? b = some ob) (n:H b = none) (hx:b ∉ ex):∃ sl,h1.get? b = some { ob with slots:=sl }:=by
 by_cases hb:b ∈ fs
 ·exact u.slot b ob q n hb hx
 ·exact ⟨ob.slots,u.keep b ob q n hb hx⟩
theorem Un.kept (k:∀ b u,h.get? b = some u->h'.get? b = some u):Un fs ex H H h h':=
 ⟨fun b ob q _ _ _=>k b ob q,fun b ob q _ _ _=>⟨ob.slots,k b ob q⟩,fun _ _ _ n _=>n,fun b ob q _=>⟨ob,k b ob q⟩,fun _ _ q=>q,fun _ _ _ q=>q,fun _ ps q=>⟨#[],by rw [q];simp⟩⟩
theorem Un.refl:Un fs ex H H h h:=Un.kept fun _ _ q=>q
theorem Un.laid (k:∀ b u,h.get? b = some u->h'.get? b = some u) (hp:h.objs.size<=a) (hn:H a = none):Un fs ex H (upd H a o) h h' where
 keep:=fun b u q _ _ _=>k b u q
 slot:=fun b u q _ _ _=>⟨u.slots,k b u q⟩
 free:=fun b u q n _=>by rw [ym (Qi (Q5 (Qc q) hp))];exact n
 there:=fun b u q _=>⟨u,k b u q⟩
 tups:=fun b xs q=>by rw [ym (yw q hn)];exact q
 frzs:=fun b u xs q=>by rw [ym (yw q hn)];exact q
 tbls:=fun b ps q=>⟨#[],by rw [ym (yw q hn),q];simp⟩
theorem Un.write (mu:Mut (H x)) (he:e = x\/H e = some (.own x)) (k:∀ b u,b ≠ e->h.get? b = some u->h'.get? b = some u) (heo:∃ u,h'.get? e = some u):Un fs ex H (upd H x o) h h':=by
 have hx:∀ b,H b = none->b ≠ x:=fun b n z=>by subst z;rw [n] at mu;exact mu
 have hb:∀ b,H b = none->b ≠ e:=fun b n z=>by
  subst z
  rcases he with r | r
  ·exact hx b n r
  ·rw [n] at r;cases r
 have hm:∀ b u,H b = some u->¬ Mut (some u)->b ≠ x:=fun b u q nm z=>by subst z;rw [q] at mu;exact nm mu
 refine ⟨fun b u q n _ _=>k b u (hb b n) q,fun b u q n _ _=>⟨u.slots,k b u (hb b n) q⟩,fun b u q n _=>by rw [ym (hx b n)];exact n,fun b u q _=>?_,
  fun b xs q=>by rw [ym (hm b _ q fun z=>z)];exact q,fun b u xs q=>by rw [ym (hm b _ q fun z=>z)];exact q,fun b ps q=>⟨#[],by rw [ym (hm b _ q fun z=>z),q];simp⟩⟩
 by_cases hbe:b = e
 ·subst hbe;exact heo
 ·exact ⟨u,k b u hbe q⟩
end
noncomputable def trk (h:Heap) (H:Hp):List Addr:=(List.range h.objs.size).filter fun a=>(H a).isSome
noncomputable def zdm (h:Heap) (H:Hp):Heap:=PySem.W.hideAll h (trk h H)
theorem zkt (h:Heap) (H:Hp):(zdm h H).objs.size = h.objs.size:=PySem.W.hideAll_size _ _
theorem zlZ {b:Addr} {o:Obj} (e:h.get? b = some o) (n:H b = none):(zdm h H).get? b = some o:=
 PySem.W.hideAll_get _ e fun hm=>by
  have q:(H b).isSome = true:=(List.mem_filter.mp hm).2
  rw [n] at q;simp at q
theorem znB {b:Addr} {o:Obj} (e:(zdm h H).get? b = some o):h.get? b = some o/\H b = none:=by
 have e':h.get? b = some o:=PySem.W.of_hideAll (trk h H) e
 refine ⟨e',?_⟩
 cases q:H b with
 | none=>rfl
 | some x=>
  have hm:b ∈ trk h H:=List.mem_filter.mpr ⟨mem_range.mpr (Qc e'),by simp [q]⟩
  have z:(zdm h H).get? b = none:=PySem.W.hideAll_none (trk h H) hm
  rw [z] at e;cases e
noncomputable def zoq (g h:Heap) (L:Addr):List (Addr × Obj):=(List.range h.objs.size).filterMap fun a=>if a = L\/(g.get? a).isSome = true then none else (h.get? a).map fun o=>(a,o)
noncomputable def rest (g h:Heap) (L d:Addr):List (Addr × Obj):=(zoq g h L).filter fun p=>decide (p.1 ≠ d)
structure Mod (K:Frag) (mg:Str->Option Value) (base:Heap):Prop where
 kin:K.In base
 glob:base.Ns mainGlobals mg
 blt:∃ mb,base.Ns builtinsNs mb/\∀ x:Str,x ≠ "__name__"->mb x = bootBuiltins x
 nolimit:base.NoLimit
structure Cx where
 prog:Program
 w:World
 K:Frag
 mg:Str->Option Value
 base:Heap
 A:Around
 N:List Str
 s₀:Shared
 H₀:Hp
 env:Env
 outer:List Env
 stack:List Env
 ex:List Addr
 fn:Str->Bool
 calm:Bool
 pn:List (Addr × Obj)
 xe:Value->Shared->Prop
noncomputable def frs (l:List Env):List Addr:=l.filterMap (·.frame)
noncomputable abbrev Cx.fs (X:Cx):List Addr:=frs X.outer
def Vis (sc:Scope) (x:Str):Prop:=sc.names.lookup x = some .local\/sc.names.lookup x = some .cell\/sc.names.lookup x = some .free
def Loc (sc:Scope) (x:Str):Prop:=sc.names.lookup x = some .local\/sc.names.lookup x = some .cell
def Look (env:Env) (h:Heap) (m:Str->Option Value) (x:Str) (u:Value):Prop:=
 (env.kindOf x = some .local/\m x = some u)\/((env.kindOf x = some .cell\/env.kindOf x = some .free)/\∃ c,env.cells.lookup x = some c/\h.IsCell c (some u))
structure Cx.Ok (X:Cx):Prop where
 mod:Mod X.K X.mg X.base
 kind:X.env.scope.kind = .function
 glob:X.env.globals = mainGlobals
 blt:X.env.builtins = builtinsNs
 above:X.s₀.heap.objs.size<=X.env.locals
 inj:∀ x y c,X.env.cells.lookup x = some c->X.env.cells.lookup y = some c->x = y
 has:∀ x,(X.env.kindOf x = some .cell\/X.env.kindOf x = some .free)->∃ c,X.env.cells.lookup x = some c
 cab:∀ x c,X.fn x = true->X.env.cells.lookup x = some c->X.s₀.heap.objs.size<=c
 hd:X.calm = true->X.A.handled = none
 frames:X.A.frames = some X.stack
 stk:X.stack = X.outer\/(X.stack = X.env :: X.outer/\X.env.frame = some X.env.locals)
 exf:∀ b ∈ X.ex,b ≠ X.env.locals/\∀ x c,X.env.cells.lookup x = some c->c ≠ b
 bs:∀ b o,X.base.get? b = some o->X.s₀.heap.get? b = some o/\X.H₀ b = none
 bsz:X.base.objs.size<=X.s₀.heap.objs.size
 noex:∀ b o,X.base.get? b = some o->b ∉ X.ex
 exfs:∀ b ∈ X.ex,b ∉ X.fs
 funs:X.s₀.heap.FunFrames X.base X.outer
 frf:∀ b ∈ X.fs,X.H₀ b = none
structure Inv (X:Cx) (pins:List (Addr × Obj)) (σ:List (Option V)) (H:Hp) (s:Shared):Prop where
 ok:X.Ok
 os:s.os = X.s₀.os
 bare:AllBare s.gens
 base:Un X.fs X.ex X.H₀ H X.s₀.heap s.heap
 loc:∃ m,s.heap.Ns X.env.locals m/\∀ (i:Nat) (x:Str) (v:V),X.N[i]? = some x->σ[i]? = some (some v)->Vis X.env.scope x->∃ u,RelV v u/\Look X.env s.heap m x u
 cell:∀ x c,X.env.cells.lookup x = some c->∃ v,s.heap.IsCell c v
 free:H X.env.locals = none
 freeC:∀ x c,X.env.cells.lookup x = some c->H c = none
 pin:∀ p ∈ X.pn ++ pins,s.heap.get? p.1 = some p.2/\H p.1 = none/\p.1 ≠ X.env.locals/\p.1 ∉ X.fs/\∀ v,p.2.data ≠ .cell v
 hok:HOk X.prog X.w H s.heap
 len:σ.length = X.N.length
variable {it:Addr} {A:Around} {g':Array GenState} {X:Cx} {d':Drawn} {pins:List (Addr × Obj)} {ch:List Addr} {N:List Str} {M:Model} {i j t':Nat} {s s':Shared} {x:Str} {v:V} {u:Value} {E:Value->Shared->Prop}
section
variable {σ:List (Option V)}
theorem Cx.Ok.nofr (ok:X.Ok) {b:Addr} {o:Obj} (e:X.base.get? b = some o):b ∉ X.fs:=fun hb=>by
 have:=(ok.funs.mem hb).1
 rw [e] at this;cases this
theorem Inv.bs (I:Inv X pins σ H s):∀ b o,X.base.get? b = some o->s.heap.get? b = some o/\H b = none:=fun b o e=>
 ⟨I.base.keep b o (I.ok.bs b o e).1 (I.ok.bs b o e).2 (I.ok.nofr e) (I.ok.noex b o e),I.base.free b o (I.ok.bs b o e).1 (I.ok.bs b o e).2 (I.ok.noex b o e)⟩
theorem Inv.bk (I:Inv X pins σ H s):∀ b o,X.base.get? b = some o->s.heap.get? b = some o:=fun b o e=>(I.bs b o e).1
theorem Inv.mod (I:Inv X pins σ H s):Mod X.K X.mg X.base:=I.ok.mod
theorem Inv.kIn (I:Inv X pins σ H s):X.K.In s.heap:=I.ok.mod.kin.keeps I.bk
theorem Inv.fr (I:Inv X pins σ H s):∃ m,Fr X.base X.env.locals s.heap m:=
 let ⟨m,hn,_⟩:=I.loc
 ⟨m,hn,I.bk,Qh I.ok.bsz I.ok.above⟩
theorem Inv.lt (I:Inv X pins σ H s):X.env.locals < s.heap.objs.size:=let ⟨_,hn,_⟩:=I.loc;hn.lt
theorem Inv.sz (I:Inv X pins σ H s):X.s₀.heap.objs.size<=s.heap.objs.size:=Qh I.ok.above (Nat.le_of_lt I.lt)
theorem Inv.nofs (I:Inv X pins σ H s) {a:Addr} (h:s.heap.objs.size<=a):a ∉ X.fs:=fun hb=>by
 obtain ⟨_,o,ho,_⟩:=I.ok.funs.mem hb
 exact absurd (Q5 (Qc ho) (Qh I.sz h)) (Qm _)
theorem Inv.cne (I:Inv X pins σ H s):∀ x c,X.env.cells.lookup x = some c->c ≠ X.env.locals:=fun x c e z=>by
 obtain ⟨v,o,ho,hd⟩:=I.cell x c e
 obtain ⟨m,⟨o',es,ep,ho',hd',_⟩,_⟩:=I.loc
 rw [z,ho'] at ho;cases ho;rw [hd'] at hd;cases hd
theorem Inv.funs (I:Inv X pins σ H s):s.heap.FunFrames X.base X.outer:=by
 have all:∀ (l:List Env),(∀ b ∈ frs l,b ∈ X.fs)->X.s₀.heap.FunFrames X.base l->s.heap.FunFrames X.base l:=by
  intro l
  induction l with
  | nil=>intro _ _;trivial
  | cons env r ih=>
   intro hs hl
   obtain ⟨hk,⟨L,o,hf,hn,ho,hd⟩,hr⟩:=hl
   have hL:L ∈ X.fs:=hs L (by unfold frs;rw [filterMap_cons,hf];exact mem_cons_self)
   obtain ⟨sl,e⟩:=I.base.slot L o ho (I.ok.frf L hL) hL fun z=>I.ok.exfs L z hL
   exact ⟨hk,⟨L,_,hf,hn,e,hd⟩,ih (fun b hb=>hs b (by unfold frs;rw [filterMap_cons,hf];exact mem_cons_of_mem _ hb)) hr⟩
 exact all X.outer (fun _ hb=>hb) I.ok.funs
theorem Inv.stack (I:Inv X pins σ H s):s.heap.FunFrames X.base X.stack:=by
 rcases I.ok.stk with e | ⟨e,hf⟩
 ·rw [e];exact I.funs
 ·rw [e]
  obtain ⟨m,hn,_⟩:=I.loc
  refine .cons (by rw [I.ok.kind];decide) hf hn ?_ I.funs
  exact Heap.get?_none_of_le (Qh I.ok.bsz I.ok.above)
theorem Inv.stkSub (I:Inv X pins σ H s):∀ b ∈ frs X.stack,b ∈ X.env.locals :: X.fs:=fun b hb=>by
 rcases I.ok.stk with e | ⟨e,hf⟩
 ·rw [e] at hb;exact mem_cons_of_mem _ hb
 ·rw [e] at hb
  unfold frs at hb
  rw [filterMap_cons,hf] at hb
  exact hb
theorem Inv.stkFree (I:Inv X pins σ H s):∀ b ∈ frs X.stack,H b = none:=fun b hb=>by
 rcases QA.mp (I.stkSub b hb) with e | hb
 ·rw [e];exact I.free
 ·obtain ⟨_,o,ho,_⟩:=I.ok.funs.mem hb
  exact I.base.free b o ho (I.ok.frf b hb) fun z=>I.ok.exfs b z hb
theorem Inv.step {t':Nat} {d':Drawn} (I:Inv X pins σ H s)
 (hch:∀ b ∈ ch,(b ∈ X.ex\/X.s₀.heap.objs.size<=b)/\b ≠ X.env.locals/\(∀ x c,X.env.cells.lookup x = some c->c ≠ b)/\∀ p ∈ X.pn ++ pins,p.1 ≠ b)
 (keep:∀ b o,b ≠ X.env.locals->b ∉ X.fs->b ∉ ch->s.heap.get? b = some o->H b = none->h'.get? b = some o)
 (slot:∀ b o,b ≠ X.env.locals->b ∈ X.fs->b ∉ ch->s.heap.get? b = some o->H b = none->∃ sl,h'.get? b = some { o with slots:=sl }) (free:∀ b o,b ∉ ch->s.heap.get? b = some o->H b = none->H' b = none)
 (there:∀ b o,b ∉ ch->s.heap.get? b = some o->∃ o',h'.get? b = some o')
 (tups:∀ b xs,H b = some (.tup xs)->H' b = some (.tup xs)) (frzs:∀ b o u,H b = some (.frz o u)->H' b = some (.frz o u)) (tbls:∀ b ps,H b = some (.tbl ps)->∃ more,H' b = some (.tbl (ps ++ more)))
 (ns:∀ m,s.heap.Ns X.env.locals m->h'.Ns X.env.locals m) (hok:HOk X.prog X.w H' h') (hg:AllBare g') :
  Inv X pins σ H' { s with heap:=h',gens:=g',drawn:=d',toks:=t' }:=by
 have neL:∀ b o,X.s₀.heap.get? b = some o->b ≠ X.env.locals:=fun b o e=>Qi (Q5 (Qc e) I.ok.above)
 have neC:∀ b o,X.s₀.heap.get? b = some o->b ∉ X.ex->b ∉ ch:=fun b o e hx hb=>by
  rcases (hch b hb).1 with z | z
  ·exact hx z
  ·exact absurd (Q5 (Qc e) z) (Qm _)
 have cellK:∀ x c,X.env.cells.lookup x = some c->∀ v,s.heap.IsCell c v->h'.IsCell c v:=fun x c e v h9=>by
  obtain ⟨o,ho,hd⟩:=h9
  have nch:c ∉ ch:=fun z=>(hch c z).2.2.1 x c e rfl
  by_cases hc:c ∈ X.fs
  ·obtain ⟨sl,q⟩:=slot c o (I.cne x c e) hc nch ho (I.freeC x c e)
   exact ⟨_,q,hd⟩
  ·exact ⟨o,keep c o (I.cne x c e) hc nch ho (I.freeC x c e),hd⟩
 refine ⟨I.ok,I.os,hg,⟨fun b o e n hb hx=>?_,fun b o e n hb hx=>?_,fun b o e n hx=>?_,fun b o e hx=>?_,fun b xs e=>tups b xs (I.base.tups b xs e),fun b o xs e=>frzs b o xs (I.base.frzs b o xs e),fun b ps e=>?_⟩,?_,fun x c e=>?_,?_,fun x c e=>?_,fun p hp=>?_,hok,I.len⟩
 ·exact keep b o (neL b o e) hb (neC b o e hx) (I.base.keep b o e n hb hx) (I.base.free b o e n hx)
 ·obtain ⟨sl,e1⟩:=I.base.slot b o e n hb hx
  obtain ⟨sl',e2⟩:=slot b _ (neL b o e) hb (neC b o e hx) e1 (I.base.free b o e n hx)
  exact ⟨sl',e2⟩
 ·obtain ⟨o',e1⟩:=I.base.there b o e hx
  exact free b o' (neC b o e hx) e1 (I.base.free b o e n hx)
 ·obtain ⟨o',e1⟩:=I.base.there b o e hx
  exact there b o' (neC b o e hx) e1
 ·obtain ⟨m1,e1⟩:=I.base.tbls b ps e
  obtain ⟨m2,e2⟩:=tbls b _ e1
  exact ⟨m1 ++ m2,by rw [e2,Array.append_assoc]⟩
 ·obtain ⟨m,hn,hl⟩:=I.loc
  refine ⟨m,ns m hn,fun i x v e1 e2 e3=>?_⟩
  obtain ⟨u,r,l⟩:=hl i x v e1 e2 e3
  refine ⟨u,r,?_⟩
  rcases l with l | ⟨k,c,e,z⟩
  ·exact .inl l
  ·exact .inr ⟨k,c,e,cellK x c e _ z⟩
 ·obtain ⟨v,z⟩:=I.cell x c e
  exact ⟨v,cellK x c e v z⟩
 ·obtain ⟨m,⟨o,_,_,ho,_⟩,_⟩:=I.loc
  exact free _ o (fun z=>(hch _ z).2.1 rfl) ho I.free
 ·obtain ⟨v,o,ho,hd⟩:=I.cell x c e
  exact free c o (fun z=>(hch c z).2.2.1 x c e rfl) ho (I.freeC x c e)
 ·obtain ⟨e,n,ne,nf,d⟩:=I.pin p hp
  have nch:p.1 ∉ ch:=fun z=>(hch p.1 z).2.2.2 p hp rfl
  exact ⟨keep p.1 p.2 ne nf nch e n,free p.1 p.2 nch e n,ne,nf,d⟩
theorem Inv.un {t':Nat} (I:Inv X pins σ H s) (u:Un X.fs [] H H' s.heap h') (hok:HOk X.prog X.w H' h'):Inv X pins σ H' { s with heap:=h',toks:=t' }:=by
 obtain ⟨m,⟨o,es,ep,ho,r⟩,_⟩:=id I.loc
 obtain ⟨sl,hL⟩:=u.any ho I.free (by simp)
 exact I.step (g':=s.gens) (d':=s.drawn) (ch:=[]) (fun _ z=>nomatch z) (fun b o _ hb _ e n=>u.keep b o e n hb (by simp)) (fun b o _ hb _ e n=>u.slot b o e n hb (by simp)) (fun b o _ e n=>u.free b o e n (by simp)) (fun b o _ e=>u.there b o e (by simp)) u.tups u.frzs u.tbls (fun m' hm=>by
  obtain ⟨o',es',ep',ho',r'⟩:=hm
  rw [ho] at ho';cases ho'
  exact ⟨_,es',ep',hL,r'⟩) hok I.bare
theorem Inv.call {t':Nat} {d':Drawn} (I:Inv X pins σ H s) (u:Un (frs X.stack) ch H H' s.heap h') (hok:HOk X.prog X.w H' h') (hg:AllBare g')
 (hch:∀ b ∈ ch,(b ∈ X.ex\/X.s₀.heap.objs.size<=b)/\b ≠ X.env.locals/\(∀ x c,X.env.cells.lookup x = some c->c ≠ b)/\∀ p ∈ X.pn ++ pins,p.1 ≠ b) :
  Inv X pins σ H' { s with heap:=h',gens:=g',drawn:=d',toks:=t' }:=by
 obtain ⟨m,⟨o,es,ep,ho,r⟩,_⟩:=id I.loc
 obtain ⟨sl,hL⟩:=u.any ho I.free fun z=>(hch _ z).2.1 rfl
 exact I.step (ch:=ch) hch (fun b o hL hb hc e n=>u.keep b o e n (fun z=>(QA.mp (I.stkSub b z)).elim hL hb) hc) (fun b o _ _ hc e n=>u.any e n hc) (fun b o hc e n=>u.free b o e n hc) (fun b o hc e=>u.there b o e hc) u.tups u.frzs u.tbls (fun m' hm=>by
  obtain ⟨o',es',ep',ho',r'⟩:=hm
  rw [ho] at ho';cases ho'
  exact ⟨_,es',ep',hL,r'⟩) hok hg
theorem Inv.turned {t':Nat} (I:Inv X pins σ H s) (k:∀ b o,b ≠ it->s.heap.get? b = some o->h'.get? b = some o) (hn:H it = none) (hL:it ≠ X.env.locals)
 (h1:it ∈ X.ex\/X.s₀.heap.objs.size<=it) (h2:∀ x c,X.env.cells.lookup x = some c->c ≠ it) (h3:∀ p ∈ X.pn ++ pins,p.1 ≠ it):Inv X pins σ H { s with heap:=h',toks:=t' }:=by
 have nit:∀ b u,H b = some u->b ≠ it:=fun b u e z=>by rw [z,hn] at e;cases e
 refine I.step (g':=s.gens) (d':=s.drawn) (ch:=[it]) (fun b hb=>?_) (fun b o _ _ hc e _=>k b o (fun z=>hc (by simp [z])) e) (fun b o _ _ hc e _=>⟨o.slots,k b o (fun z=>hc (by simp [z])) e⟩) (fun _ _ _ _ n=>n)
  (fun b o hc e=>⟨o,k b o (fun z=>hc (by simp [z])) e⟩) (fun _ _ e=>e) (fun _ _ _ e=>e) (fun b ps e=>⟨#[],by rw [e];simp⟩) (fun m hm=>?_) (fun b u e=>?_) I.bare
 ·have e:b = it:=by simpa using hb
  subst e
  exact ⟨h1,hL,h2,h3⟩
 ·obtain ⟨o,es,ep,ho,r⟩:=hm
  exact ⟨o,es,ep,k _ o (Ne.symm hL) ho,r⟩
 ·refine (I.hok b u e).stay (fun c v hc q=>k c v ?_ q) (fun _ q=>q) fun _ _ q=>q
  rcases hc with z | z
  ·rw [z];exact nit b u e
  ·exact nit c _ z
theorem Inv.tok (I:Inv X pins σ H s) (t:Nat):Inv X pins σ H { s with toks:=t }:=I.un (h':=s.heap) (t':=t) Un.refl I.hok
theorem Inv.kept {t':Nat} (I:Inv X pins σ H s) (k:∀ b u,s.heap.get? b = some u->h'.get? b = some u):Inv X pins σ H { s with heap:=h',toks:=t' }:=I.un (Un.kept k) (I.hok.kept k)
theorem Inv.laid {a:Addr} {t':Nat} (I:Inv X pins σ H s) (k:∀ b u,s.heap.get? b = some u->h'.get? b = some u) (hp:s.heap.objs.size<=a) (new:ObjOk X.prog X.w (upd H a o) h' a o) :
  Inv X pins σ (upd H a o) { s with heap:=h',toks:=t' }:=I.un (Un.laid k hp (I.hok.fresh hp)) (I.hok.laid k hp new)
theorem Inv.write {x e:Addr} {t':Nat} (I:Inv X pins σ H s) (mu:Mut (H x)) (he:e = x\/H e = some (.own x)) (k:∀ b u,b ≠ e->s.heap.get? b = some u->h'.get? b = some u) (heo:∃ u,h'.get? e = some u)
 (new:ObjOk X.prog X.w (upd H x o) h' x o):Inv X pins σ (upd H x o) { s with heap:=h',toks:=t' }:=I.un (Un.write mu he k heo) (I.hok.write mu he k heo new)
theorem Inv.pins_of {pins':List (Addr × Obj)} (I:Inv X pins σ H s) (h:∀ p ∈ pins',s.heap.get? p.1 = some p.2/\H p.1 = none/\p.1 ≠ X.env.locals/\p.1 ∉ X.fs/\∀ v,p.2.data ≠ .cell v):Inv X pins' σ H s:=
 ⟨I.ok,I.os,I.bare,I.base,I.loc,I.cell,I.free,I.freeC,fun p hp=>(QC.mp hp).elim (fun z=>I.pin p (mem_append_left _ z)) (h p),I.hok,I.len⟩
theorem zg2 (hN:N.Nodup) (a:N[i]? = some x) (b:N[j]? = some x):i = j:=by
 obtain ⟨h1,e1⟩:=Qx.mp a
 obtain ⟨h2,e2⟩:=Qx.mp b
 exact (List.getElem_inj hN).mp (e1.trans e2.symm)
theorem zfU {Q:Unit->Shared->Prop} (I:Inv X pins σ H s) (hN:X.N.Nodup) (hi:X.N[i]? = some x) (hx:Loc X.env.scope x) (r:RelV v u)
 (h:∀ s',Inv X pins (σ.set i (some v)) H s'->(∃ a,Heap.SameBut a s.heap s'.heap/\(a = X.env.locals\/X.env.cells.lookup x = some a))->Q () s') (hf:X.fn x = true\/X.env.scope.names.lookup x = some .local:=by first | exact .inl rfl | exact .inr rfl | assumption):wpAny M A (storeName X.env x u) Q E s:=by
 obtain ⟨m,hn,hl⟩:=id I.loc
 have hcls:(X.env.scope.kind == .class || (X.env.scope.kind == .module && X.env.locals != X.env.globals)) = false:=by rw [I.ok.kind];rfl
 have hiσ:i < σ.length:=by rw [I.len];exact (Qx.mp hi).1
 have cne:=I.cne
 have tracked:∀ {a:Addr} {h':Heap},(∃ o,s.heap.get? a = some o/\H a = none)->Heap.SameBut a s.heap h'->HOk X.prog X.w H h':=fun {a h'} ha hs b ob e=>by
  obtain ⟨_,_,hfree⟩:=ha
  refine (I.hok b ob e).stay (fun c w' hc q=>(hs.2 c ?_).trans q) (fun _ q=>q) fun _ _ q=>q
  rintro rfl
  rcases hc with rfl | hc
  ·rw [hfree] at e;cases e
  ·rw [hfree] at hc;cases hc
 rcases hx with hk | hk
 ·refine wpAny_storeName_local hk hn (fun h' hn' hs=>?_) hcls
  obtain ⟨oL,_,_,hoL,_⟩:=id hn
  refine h _ ⟨I.ok,I.os,I.bare,⟨fun b o e n hb hx=>?_,fun b o e n hb hx=>?_,I.base.free,fun b o e hx=>?_,I.base.tups,I.base.frzs,I.base.tbls⟩,⟨_,hn',fun j y v' e1 e2 e3=>?_⟩,fun y c e=>?_,I.free,I.freeC,fun p hp=>?_,tracked ⟨oL,hoL,I.free⟩ hs,by simpa using I.len⟩ ⟨_,hs,.inl rfl⟩
  ·exact (hs.2 b (Qi (Q5 (Qc e) I.ok.above))).trans (I.base.keep b o e n hb hx)
  ·obtain ⟨sl,e1⟩:=I.base.slot b o e n hb hx
   exact ⟨sl,(hs.2 b (Qi (Q5 (Qc e) I.ok.above))).trans e1⟩
  ·obtain ⟨o',e1⟩:=I.base.there b o e hx
   exact ⟨o',(hs.2 b (Qi (Q5 (Qc e) I.ok.above))).trans e1⟩
  ·by_cases hj:j = i
   ·subst hj
    rw [hi] at e1;cases e1
    rw [List.getElem?_set_self hiσ] at e2
    cases e2
    exact ⟨u,r,.inl ⟨hk,by simp⟩⟩
   ·rw [List.getElem?_set_ne (Ne.symm hj)] at e2
    obtain ⟨u',r',q⟩:=hl j y v' e1 e2 e3
    refine ⟨u',r',?_⟩
    rcases q with ⟨k,e⟩ | ⟨k,c,e,z⟩
    ·refine .inl ⟨k,?_⟩
     have:y ≠ x:=fun e=>hj (zg2 hN e1 (e ▸ hi))
     simp [this,e]
    ·exact .inr ⟨k,c,e,z.sameBut hs (cne y c e)⟩
  ·obtain ⟨w',z⟩:=I.cell y c e
   exact ⟨w',z.sameBut hs (cne y c e)⟩
  ·obtain ⟨e,n,ne,nf,d⟩:=I.pin p hp
   exact ⟨(hs.2 p.1 ne).trans e,n,ne,nf,d⟩
 ·have hfn:X.fn x = true:=by
   rcases hf with z | z
   ·exact z
   ·rw [z] at hk;cases hk
  obtain ⟨c,hc⟩:=I.ok.has x (.inl hk)
  obtain ⟨w',z⟩:=I.cell x c hc
  refine wpAny_storeName_cell I.ok.kind hk hc z (fun h' hc' hs=>?_)
  obtain ⟨oc,hoc,hocd⟩:=id z
  refine h { s with heap:=h' } ⟨I.ok,I.os,I.bare,⟨fun b o e n hb hx=>?_,fun b o e n hb hx=>?_,I.base.free,fun b o e hx=>?_,I.base.tups,I.base.frzs,I.base.tbls⟩,⟨m,hn.sameBut hs (Ne.symm (cne x c hc)),fun j y v' e1 e2 e3=>?_⟩,fun y c' e=>?_,I.free,I.freeC,fun p hp=>?_,tracked ⟨oc,hoc,I.freeC x c hc⟩ hs,by simpa using I.len⟩ ⟨c,hs,.inr hc⟩
  ·exact (hs.2 b (Qi (Q5 (Qc e) (I.ok.cab x c hfn hc)))).trans (I.base.keep b o e n hb hx)
  ·obtain ⟨sl,e1⟩:=I.base.slot b o e n hb hx
   exact ⟨sl,(hs.2 b (Qi (Q5 (Qc e) (I.ok.cab x c hfn hc)))).trans e1⟩
  ·obtain ⟨o',e1⟩:=I.base.there b o e hx
   exact ⟨o',(hs.2 b (Qi (Q5 (Qc e) (I.ok.cab x c hfn hc)))).trans e1⟩
  ·by_cases hj:j = i
   ·subst hj
    rw [hi] at e1;cases e1
    rw [List.getElem?_set_self hiσ] at e2
    cases e2
    exact ⟨u,r,.inr ⟨.inl hk,c,hc,hc'⟩⟩
   ·rw [List.getElem?_set_ne (Ne.symm hj)] at e2
    obtain ⟨u',r',q⟩:=hl j y v' e1 e2 e3
    refine ⟨u',r',?_⟩
    rcases q with q | ⟨k,c',e,z'⟩
    ·exact .inl q
    ·refine .inr ⟨k,c',e,z'.sameBut hs ?_⟩
     rintro rfl
     exact hj (zg2 hN e1 (I.ok.inj _ _ _ e hc ▸ hi))
  ·by_cases hcc:c' = c
   ·subst hcc;exact ⟨_,hc'⟩
   ·obtain ⟨w2,z2⟩:=I.cell y c' e
    exact ⟨w2,z2.sameBut hs hcc⟩
  ·obtain ⟨e,n,ne,nf,d⟩:=I.pin p hp
   refine ⟨(hs.2 p.1 ?_).trans e,n,ne,nf,d⟩
   intro q
   rw [q,hoc] at e
   have q':oc = p.2:=Qb e
   exact d w' (by rw [← q'];exact hocd)
theorem zc5 {Q:Unit->Shared->Prop} (I:Inv X pins σ H s) (hN:X.N.Nodup) (hi:X.N[i]? = some x) (hx:Loc X.env.scope x) (r:RelV v u)
 (h:∀ s',Inv X pins (σ.set i (some v)) H s'->Q () s') (hf:X.fn x = true\/X.env.scope.names.lookup x = some .local:=by first | exact .inl rfl | exact .inr rfl | assumption):wpAny M A (storeName X.env x u) Q E s:=
 zfU I hN hi hx r (fun s' I' _=>h s' I') hf
theorem Inv.call' (I:Inv X pins σ H s) (ho:s'.os = s.os) (u:Un (frs X.stack) ch H H' s.heap s'.heap) (hok:HOk X.prog X.w H' s'.heap) (hg:AllBare s'.gens)
 (hch:∀ b ∈ ch,(b ∈ X.ex\/X.s₀.heap.objs.size<=b)/\b ≠ X.env.locals/\(∀ x c,X.env.cells.lookup x = some c->c ≠ b)/\∀ p ∈ X.pn ++ pins,p.1 ≠ b):Inv X pins σ H' s':=by
 obtain ⟨h',g',d',t',o'⟩:=s'
 have e:o' = s.os:=ho
 subst e
 exact I.call (g':=g') (t':=t') (d':=d') u hok hg hch
end
noncomputable abbrev XK:=Value->Option Addr->Hp->Prop
noncomputable abbrev St:=List (Option V)
noncomputable abbrev VK:=V->Hp->Prop
noncomputable abbrev TE:=St->Hp->VK->Prop
noncomputable abbrev TT:=St->Hp->(Bool->Hp->Prop)->Prop
noncomputable abbrev TA:=St->Hp->(List V->Hp->Prop)->Prop
structure Ends where
 nx:St->Hp->Prop
 rt:VK
 bk:St->Hp->Prop:=fun _ _=>False
 ct:St->Hp->Prop:=fun _ _=>False
noncomputable abbrev TS:=Ends->St->Hp->Prop
def EP (X:Cx) (pins:List (Addr × Obj)) (σ:St) (Q:VK) (u:Value) (s':Shared):Prop:=∃ v H',Inv X pins σ H' s'/\RelV v u/\Q v H'
def TP (X:Cx) (pins:List (Addr × Obj)) (σ:St) (Q:Bool->Hp->Prop) (b:Bool) (s':Shared):Prop:=∃ H',Inv X pins σ H' s'/\Q b H'
def AP (X:Cx) (pins:List (Addr × Obj)) (σ:St) (Q:List V->Hp->Prop) (us:List Value) (s':Shared):Prop:=∃ vs H',Inv X pins σ H' s'/\Vals vs us/\Q vs H'
def SP (X:Cx) (pins:List (Addr × Obj)) (D:Ends) (f:Flow) (s':Shared):Prop:=
 match f with
 | .next=>∃ σ' H',Inv X pins σ' H' s'/\D.nx σ' H'
 | .brk=>∃ σ' H',Inv X pins σ' H' s'/\D.bk σ' H'
 | .cont=>∃ σ' H',Inv X pins σ' H' s'/\D.ct σ' H'
 | .ret u=>∃ v σ' H',Inv X pins σ' H' s'/\RelV v u/\D.rt v H'
def PE (X:Cx) (e:Expr) (t:TE):Prop:=
 ∀ (pins:List (Addr × Obj)) (s:Shared) (σ:St) (H:Hp) (Q:VK),Inv X pins σ H s->t σ H Q->wpAny (model X.prog X.w) X.A (eval e X.env) (EP X pins σ Q) X.xe s
def PT (X:Cx) (e:Expr) (t:TT):Prop:=
 ∀ (pins:List (Addr × Obj)) (s:Shared) (σ:St) (H:Hp) (Q:Bool->Hp->Prop),Inv X pins σ H s->t σ H Q->wpAny (model X.prog X.w) X.A (isTrue e X.env (eval e X.env)) (TP X pins σ Q) X.xe s
def PW (X:Cx) (e:Expr) (t:TT):Prop:=
 ∀ (whole:Sem Value) (pins:List (Addr × Obj)) (s:Shared) (σ:St) (H:Hp) (Q:Bool->Hp->Prop),Inv X pins σ H s->t σ H Q->wpAny (model X.prog X.w) X.A (isTrue e X.env whole) (TP X pins σ Q) X.xe s
variable {e:Expr}
theorem PW.pt {t:TT} (h:PW X e t):PT X e t:=h _
def PA (X:Cx) (es:List Expr) (t:TA):Prop:=
 ∀ (pos:Pos) (pins:List (Addr × Obj)) (s:Shared) (σ:St) (H:Hp) (Q:List V->Hp->Prop),Inv X pins σ H s->t σ H Q->wpAny (model X.prog X.w) X.A (spliced (backTo pos (starEach es X.env))) (AP X pins σ Q) X.xe s
def PS (X:Cx) (st:Stmt) (t:TS):Prop:=
 ∀ (pins:List (Addr × Obj)) (s:Shared) (σ:St) (H:Hp) (D:Ends),Inv X pins σ H s->t D σ H->wpAny (model X.prog X.w) X.A (exec st X.env) (SP X pins D) X.xe s
def PSs (X:Cx) (st:List Stmt) (t:TS):Prop:=
 ∀ (pins:List (Addr × Obj)) (s:Shared) (σ:St) (H:Hp) (D:Ends),Inv X pins σ H s->t D σ H->wpAny (model X.prog X.w) X.A (execs st X.env) (SP X pins D) X.xe s
theorem thn {α:Type} {t:Sem α} {Q Q':α->Shared->Prop} (h:wpAny M A t Q E s) (hQ:∀ a s,Q a s->Q' a s):wpAny M A t Q' E s:=Qe h hQ fun _ _ x=>x
variable {op:CmpOp} {c:Expr} {pos:Pos} {σ:St} {t ta tb:TE} {R:V->V->Hp->Prop} {Q:Value->Shared->Prop}
section
theorem bin {a b:Expr} (ha:PE X a ta) (hb:PE X b tb) (I:Inv X pins σ H s) (h:ta σ H fun x H1=>tb σ H1 fun y H2=>R x y H2)
 {α:Type} {Q:α->Shared->Prop} {f:Value->Value->Sem α}
 (hf:∀ v u s2 x y H2,Inv X pins σ H2 s2->RelV x v->RelV y u->R x y H2->wpAny (model X.prog X.w) X.A (f v u) Q X.xe s2) :
  wpAny (model X.prog X.w) X.A (eval a X.env) (fun v s₁=>wpAny (model X.prog X.w) X.A (eval b X.env) (fun u s₂=>wpAny (model X.prog X.w) X.A (f v u) Q X.xe s₂) X.xe s₁) X.xe s:=by
 refine thn (ha pins s σ H _ I h) fun v s1 ⟨x,H1,I1,r1,q1⟩=>?_
 refine thn (hb pins s1 σ H1 _ I1 q1) fun u s2 ⟨y,H2,I2,r2,q2⟩=>?_
 exact hf v u s2 x y H2 I2 r1 r2 q2
noncomputable def zgw (i:Nat):TE:=fun σ H Q=>∃ v,σ[i]? = some (some v)/\Q v H
noncomputable def tC (v:V):TE:=fun _ H Q=>Q v H
theorem zo7 (hN:X.N[i]? = some x) (hv:Vis X.env.scope x) (hd:(x == ("__debug__":Str)) = false:=by decide) (hcd:(x == ("__classdict__":Str)) = false:=by decide):PE X (.Name x pos) (zgw i):=by
 intro pins s σ H Q I h
 obtain ⟨v,e,h⟩:=h
 obtain ⟨m,hn,hl⟩:=I.loc
 obtain ⟨u,r,l⟩:=hl i x v hN e hv
 have fin:EP X pins σ Q u s:=⟨v,H,I,r,h⟩
 rcases l with ⟨hk,hm⟩ | ⟨hk,c,hc,hcell⟩
 ·exact wpAny_Name (wpAny_loadName_local I.ok.kind hk hn hm fin) hd
 ·rcases hk with hk | hk
  ·exact wpAny_Name (wpAny_loadName_cell I.ok.kind hk hc hcell fin) hd
  ·exact wpAny_Name (wpAny_loadName_free I.ok.kind hk hc hcell fin hcd) hd
theorem zpe {i j pos}:PE X (.Constant (.int i) j pos) (tC (.int i)):=fun _ _ _ H _ I h=>wpAny_Constant_int ⟨.int i,H,I.tok _,⟨_,rfl⟩,h⟩
theorem zqQ {b j pos}:PE X (.Constant (.bool b) j pos) (tC (.bl b)):=fun _ _ _ H _ I h=>Constant_bool ⟨.bl b,H,I,rfl,h⟩
theorem zpc {j pos}:PE X (.Constant .none j pos) (tC .non):=fun _ _ _ H _ I h=>Constant_none ⟨.non,H,I,rfl,h⟩
theorem zo9 {x j pos}:PE X (.Constant (.str x) j pos) (tC (.str x)):=fun _ _ _ H _ I h=>Calls.Constant_str ⟨.str x,H,I.tok _,⟨_,rfl⟩,h⟩
def Gl (X:Cx) (x:Str):Prop:=X.env.kindOf x = some .globalImplicit
theorem zcR (I:Inv X pins σ H s) (hg:Gl X x) (hm:X.mg x = some u) (h:Q u s)
 (hd:(x == ("__debug__":Str)) = false:=by decide):wpAny (model X.prog X.w) X.A (eval (.Name x pos) X.env) Q E s:=
 Calls.Name_function_global I.ok.kind hg (Calls.loadGlobal_global (by rw [I.ok.glob];exact I.mod.glob.keeps I.bk) hm h) hd
theorem zcS (I:Inv X pins σ H s) (hg:Gl X x) (hm:X.mg x = none) (hv:bootBuiltins x = some u) (h:Q u s)
 (hn:x ≠ "__name__":=by decide) (hd:(x == ("__debug__":Str)) = false:=by decide):wpAny (model X.prog X.w) X.A (eval (.Name x pos) X.env) Q E s:=by
 obtain ⟨mb,h1,h2⟩:=I.mod.blt
 exact Calls.Name_function_global I.ok.kind hg (Calls.loadGlobal_builtin (by rw [I.ok.glob];exact I.mod.glob.keeps I.bk) hm (by rw [I.ok.blt];exact h1.keeps I.bk) ((h2 x hn).trans hv) h) hd
theorem zil (hg:Gl X x) (hm:X.mg x = some u) (r:RelV v u) (hd:(x == ("__debug__":Str)) = false:=by decide):PE X (.Name x pos) (tC v):=
 fun _ _ _ H _ I h=>zcR I hg hm ⟨v,H,I,r,h⟩ hd
theorem znq (hg:Gl X x) (hm:X.mg x = none) (hv:bootBuiltins x = some u) (r:RelV v u) (hn:x ≠ "__name__":=by decide) (hd:(x == ("__debug__":Str)) = false:=by decide):PE X (.Name x pos) (tC v):=
 fun _ _ _ H _ I h=>zcS I hg hm hv ⟨v,H,I,r,h⟩ hn hd
variable {a b:Expr}
def PC (X:Cx) (op:CmpOp) (a b:Expr) (t:TE):Prop:=
 ∀ (pins:List (Addr × Obj)) (s:Shared) (σ:St) (H:Hp) (Q:VK),Inv X pins σ H s->t σ H Q->
  wpAny (model X.prog X.w) X.A (eval a X.env) (fun v s₁=>wpAny (model X.prog X.w) X.A (eval b X.env) (fun u s₂=>wpAny (model X.prog X.w) X.A (compareOp op v u) (EP X pins σ Q) X.xe s₂) X.xe s₁) X.xe s
theorem zlG (b:Expr) (h:op ≠ .In) (h2:op ≠ .NotIn):behindInMarks op b = false:=by
 have e1:(op == CmpOp.In) = false:=by cases op <;> first | rfl | exact absurd rfl h
 have e2:(op == CmpOp.NotIn) = false:=by cases op <;> first | rfl | exact absurd rfl h2
 cases b <;> simp [behindInMarks,e1,e2]
noncomputable def tB (t:TE):TT:=fun σ H Q=>t σ H fun x H1=>∃ c,x = .bl c/\Q c H1
theorem zsG (h:PC X op a b t) (h1:behindInMarks op b = false:=by first | exact zlG _ (by decide) (by decide) | rfl):PT X (.Compare a [op] [b] pos) (tB t):=by
 intro pins s σ H Q I hw
 refine wpAny_isTrue_Compare1 (thn (h pins s σ H _ I hw) fun v s1 h1=>thn h1 fun u s2 h2=>thn h2 fun c s3 ⟨x,H1,I1,r1,q1⟩=>?_) h1
 obtain ⟨d,rfl,q⟩:=q1
 cases r1
 exact wpAny_truthy_bool ⟨H1,I1,q⟩
theorem zoW (h:PE X e t) (he:∀ whole,isTrue e X.env whole = (do let v ← whole;standAt e.pos;holding [v] (truthy v)):=by intro _;rfl):PT X e (tB t):=by
 intro pins s σ H Q I hw
 refine isTrue_plain (thn (h pins s σ H _ I hw) fun v s1 ⟨x,H1,I1,r1,q1⟩=>?_) (he _)
 obtain ⟨d,rfl,q⟩:=q1
 cases r1
 exact wpAny_truthy_bool ⟨H1,I1,q⟩
variable {tA tB':TT} {rest:List Expr}
noncomputable def zrz (t u:TT):TT:=fun σ H Q=>t σ H fun c H1=>if c = true then u σ H1 Q else Q false H1
noncomputable def tOr (t u:TT):TT:=fun σ H Q=>t σ H fun c H1=>if c = true then Q true H1 else u σ H1 Q
noncomputable def zru (t:TT):TT:=fun σ H Q=>t σ H fun c H1=>Q (!c) H1
theorem zm7 (ha:PT X a tA):PW X (.BoolOp .And [a] pos) tA:=by
 intro wh pins s σ H Q I h
 refine isTrue_and (thn (ha pins s σ H Q I h) fun c s1 e=>?_)
 cases c with
 | true=>exact isTrue_and_nil e
 | false=>exact e
theorem zoT (ha:PT X a tA):PW X (.BoolOp .Or [a] pos) tA:=by
 intro wh pins s σ H Q I h
 refine isTrue_or (thn (ha pins s σ H Q I h) fun c s1 e=>?_)
 cases c with
 | false=>exact isTrue_or_nil e
 | true=>exact e
theorem zoU (ha:PT X a tA) (hb:PW X (.BoolOp .And (b :: rest) pos) tB'):PW X (.BoolOp .And (a :: b :: rest) pos) (zrz tA tB'):=by
 intro wh pins s σ H Q I h
 refine isTrue_and (thn (ha pins s σ H _ I h) fun c s1 ⟨H1,I1,q1⟩=>?_)
 cases c with
 | true=>exact hb wh pins s1 σ H1 Q I1 q1
 | false=>exact ⟨H1,I1,q1⟩
theorem zqL (ha:PT X a tA) (hb:PW X (.BoolOp .Or (b :: rest) pos) tB'):PW X (.BoolOp .Or (a :: b :: rest) pos) (tOr tA tB'):=by
 intro wh pins s σ H Q I h
 refine isTrue_or (thn (ha pins s σ H _ I h) fun c s1 ⟨H1,I1,q1⟩=>?_)
 cases c with
 | true=>exact ⟨H1,I1,q1⟩
 | false=>exact hb wh pins s1 σ H1 Q I1 q1
theorem zoX (ha:PT X a tA):PT X (.UnaryOp .Not a pos) (zru tA):=by
 intro pins s σ H Q I h
 exact isTrue_not (ha pins s σ H (fun c H1=>Q (!c) H1) I h)
noncomputable def zqz (ta tb:TE):TE:=fun σ H Q=>ta σ H fun x H1=>∃ c,x = .bl c/\if c = true then tb σ H1 Q else Q (.bl false) H1
noncomputable def zqw (ta:TE):TE:=fun σ H Q=>ta σ H fun x H1=>∃ c,x = .bl c/\Q (.bl (!c)) H1
theorem zpa {op} (h:PE X a t):PE X (.BoolOp op [a] pos) t:=fun pins s σ H Q I hw=>BoolOp_one (h pins s σ H Q I hw)
theorem zpi (ha:PE X a ta) (hb:PE X (.BoolOp .And (b :: rest) pos) tb):PE X (.BoolOp .And (a :: b :: rest) pos) (zqz ta tb):=by
 intro pins s σ H Q I h
 refine BoolOp_and (thn (ha pins s σ H _ I h) fun v s1 ⟨x,H1,I1,r1,q1⟩=>?_)
 obtain ⟨c,rfl,q1⟩:=q1
 cases r1
 refine wpAny_truthy_bool ?_
 cases c with
 | true=>exact hb pins s1 σ H1 Q I1 q1
 | false=>exact ⟨.bl false,H1,I1,rfl,q1⟩
theorem zpb (ha:PE X a ta):PE X (.UnaryOp .Not a pos) (zqw ta):=by
 intro pins s σ H Q I h
 refine UnaryOp_ (thn (ha pins s σ H _ I h) fun v s1 ⟨x,H1,I1,r1,q1⟩=>?_)
 obtain ⟨c,rfl,q1⟩:=q1
 cases r1
 exact not_of (wpAny_truthy_bool ⟨.bl (!c),H1,I1,rfl,q1⟩)
noncomputable def tIf (t:TT) (ta tb:TE):TE:=fun σ H Q=>t σ H fun c H1=>if c = true then ta σ H1 Q else tb σ H1 Q
theorem zlA (hc:PT X c tA) (ha:PE X a ta) (hb:PE X b tb):PE X (.IfExp c a b pos) (tIf tA ta tb):=by
 intro pins s σ H Q I h
 refine wpAny_IfExp (thn (hc pins s σ H _ I h) fun d s1 ⟨H1,I1,q1⟩=>?_)
 cases d with
 | true=>exact ha pins s1 σ H1 Q I1 q1
 | false=>exact hb pins s1 σ H1 Q I1 q1
end
def SqL (K:Frag) (H:Hp) (a:Addr) (xs:List V):Prop:=
 Rd H a (.lst xs) \/
  ∃ (o:Obj) (its:Array Value) (n:Nat),K.lookup a = some o/\o.cls = .type "list"/\o.dict = none/\o.data = .seq its n/\its.size<=sizeLine/\Vals xs its.toList
def SqT (K:Frag) (H:Hp) (a:Addr) (xs:List V):Prop:=
 Rd H a (.tup xs) \/
  ∃ (o:Obj) (its:Array Value) (n:Nat),K.lookup a = some o/\o.cls = .type "tuple"/\o.dict = none/\o.data = .seq its n/\its.size<=sizeLine/\Vals xs its.toList
noncomputable def zsq:Value->Option V
 | .none=>some .non
 | .bool b=>some (.bl b)
 | .int i _=>some (.int i)
 | .str x _=>some (.str x)
 | .bytes b _=>some (.byt b)
 | .float b _=>some (.flt b)
 | .ref a=>some (.ref a)
 | .type n=>some (.ty n)
 | _=>none
theorem RelV.abs {x:V} (r:RelV x u):zsq u = some x:=by
 cases x with
 | non=>cases r;rfl
 | bl _=>cases r;rfl
 | int _=>obtain ⟨t,rfl⟩:=r;rfl
 | str _=>obtain ⟨t,rfl⟩:=r;rfl
 | byt _=>obtain ⟨t,rfl⟩:=r;rfl
 | flt _=>obtain ⟨t,rfl⟩:=r;rfl
 | ref _=>cases r;rfl
 | ty _=>cases r;rfl
variable {y:V}
theorem RelV.inj {x:V} (r:RelV x u) (q:RelV y u):x = y:=Qb (r.abs.symm.trans q.abs)
theorem Vals.inj:∀ {xs ys:List V} {us:List Value},Vals xs us->Vals ys us->xs = ys
 | _,_,_,.nil,.nil=>rfl
 | _,_,_,.cons r t,.cons r' t'=>by rw [r.inj r',Vals.inj t t']
section
variable {a:Addr} {ys:List V}
theorem Inv.list (I:Inv X pins σ H s) (h:SqL X.K H a xs):∃ its:List Value,Vals xs its/\PlainL s.heap a its.toArray/\xs.length<=sizeLine:=by
 rcases h with h | ⟨o,its,n,hk,hc,hd,hs,hz,r⟩
 ·obtain ⟨z,its,n,r,e⟩:=h.ok I.hok
  exact ⟨its,r,⟨_,n,e,rfl,rfl,rfl⟩,z⟩
 ·refine ⟨its.toList,r,⟨o,n,I.kIn a o hk,hc,hd,by simpa using hs⟩,?_⟩
  have e:=r.length
  simp only [Array.length_toList] at e
  omega
theorem Inv.tuple (I:Inv X pins σ H s) (h:SqT X.K H a xs):∃ its:List Value,Vals xs its/\IsTup s.heap a its.toArray/\xs.length<=sizeLine:=by
 rcases h with h | ⟨o,its,n,hk,hc,_,hs,hz,r⟩
 ·obtain ⟨z,its,r,p,_⟩:=h.ok I.hok
  exact ⟨its,r,p,z⟩
 ·refine ⟨its.toList,r,⟨o,I.kIn a o hk,hc,n,by simpa using hs⟩,?_⟩
  have e:=r.length
  simp only [Array.length_toList] at e
  omega
theorem Inv.list_inj (I:Inv X pins σ H s) (h:SqL X.K H a xs) (h':SqL X.K H a ys):xs = ys:=by
 obtain ⟨its,r,⟨o,n,e,_,_,d⟩,_⟩:=I.list h
 obtain ⟨its',r',⟨o',n',e',_,_,d'⟩,_⟩:=I.list h'
 rw [e] at e';cases e'
 rw [d] at d'
 injection d' with d1 _
 have:its = its':=by simpa using congrArg Array.toList d1
 subst this
 exact r.inj r'
theorem Inv.tuple_inj (I:Inv X pins σ H s) (h:SqT X.K H a xs) (h':SqT X.K H a ys):xs = ys:=by
 obtain ⟨its,r,⟨o,e,_,n,d⟩,_⟩:=I.tuple h
 obtain ⟨its',r',⟨o',e',_,n',d'⟩,_⟩:=I.tuple h'
 rw [e] at e';cases e'
 rw [d] at d'
 injection d' with d1 _
 have:its = its':=by simpa using congrArg Array.toList d1
 subst this
 exact r.inj r'
end
noncomputable abbrev Cx.wish (X:Cx) (E:Value->Shared->Prop):Cx:={ X with xe:=E }
noncomputable abbrev Cx.nox (X:Cx):Cx:=X.wish fun _ _=>False
theorem Cx.Ok.wish (ok:X.Ok) (E:Value->Shared->Prop):(X.wish E).Ok:=
 ⟨ok.mod,ok.kind,ok.glob,ok.blt,ok.above,ok.inj,ok.has,ok.cab,ok.hd,ok.frames,ok.stk,ok.exf,ok.bs,ok.bsz,ok.noex,ok.exfs,ok.funs,ok.frf⟩
theorem Cx.Ok.unwish (ok:(X.wish E).Ok):X.Ok:=
 ⟨ok.mod,ok.kind,ok.glob,ok.blt,ok.above,ok.inj,ok.has,ok.cab,ok.hd,ok.frames,ok.stk,ok.exf,ok.bs,ok.bsz,ok.noex,ok.exfs,ok.funs,ok.frf⟩
section
theorem Inv.wish (I:Inv X pins σ H s) (E:Value->Shared->Prop):Inv (X.wish E) pins σ H s:=⟨I.ok.wish E,I.os,I.bare,I.base,I.loc,I.cell,I.free,I.freeC,I.pin,I.hok,I.len⟩
theorem Inv.unwish (I:Inv (X.wish E) pins σ H s):Inv X pins σ H s:=⟨I.ok.unwish,I.os,I.bare,I.base,I.loc,I.cell,I.free,I.freeC,I.pin,I.hok,I.len⟩
theorem SP.unwish {D:Ends} {f:Flow} (h:SP (X.wish E) pins D f s'):SP X pins D f s':=by
 cases f with
 | next=>obtain ⟨σ',H',I,q⟩:=h;exact ⟨σ',H',I.unwish,q⟩
 | brk=>obtain ⟨σ',H',I,q⟩:=h;exact ⟨σ',H',I.unwish,q⟩
 | cont=>obtain ⟨σ',H',I,q⟩:=h;exact ⟨σ',H',I.unwish,q⟩
 | ret u=>obtain ⟨v,σ',H',I,r,q⟩:=h;exact ⟨v,σ',H',I.unwish,r,q⟩
theorem PE.nox (h:PE X.nox e t):PE X e t:=fun pins s σ H Q I hw=>
 Qe (h pins s σ H Q (I.wish _) hw) (fun _ _ ⟨v,H',I',r,q⟩=>⟨v,H',I'.unwish,r,q⟩) fun _ _ z=>False.elim z
theorem PT.nox {t:TT} (h:PT X.nox e t):PT X e t:=fun pins s σ H Q I hw=>
 Qe (h pins s σ H Q (I.wish _) hw) (fun _ _ ⟨H',I',q⟩=>⟨H',I'.unwish,q⟩) fun _ _ z=>False.elim z
theorem PSs.nox {st:List Stmt} {t:TS} (h:PSs X.nox st t):PSs X st t:=fun pins s σ H D I hw=>
 Qe (h pins s σ H D (I.wish _) hw) (fun _ _ q=>q.unwish) fun _ _ z=>False.elim z
end
variable {te:TE}
section
variable {st:Stmt} {rest:List Stmt} {t u:TS}
noncomputable def zqx:TS:=fun D σ H=>D.nx σ H
noncomputable def zla (t u:TS):TS:=fun D σ H=>t { D with nx:=u D } σ H
theorem znc:PSs X [] zqx:=fun _ _ σ H _ I h=>wpAny_execs_nil ⟨σ,H,I,h⟩
theorem zlw (h1:PS X st t) (h2:PSs X rest u):PSs X (st :: rest) (zla t u):=by
 intro pins s σ H D I h
 refine wpAny_execs_cons (thn (h1 pins s σ H { D with nx:=u D } I h) fun f s1 q=>?_)
 cases f with
 | next=>
  obtain ⟨σ',H',I',q⟩:=q
  exact h2 pins s1 σ' H' D I' q
 | ret v=>exact q
 | brk=>exact q
 | cont=>exact q
theorem znb (h1:PS X st t):PSs X [st] t:=by
 intro pins s σ H D I h
 refine wpAny_execs_cons (thn (h1 pins s σ H D I h) fun f s1 q=>?_)
 cases f with
 | next=>exact wpAny_execs_nil q
 | ret v=>exact q
 | brk=>exact q
 | cont=>exact q
theorem Inv.quiet (I:Inv X pins σ H s):interactive X.env = false:=by simp [interactive,I.ok.kind]
noncomputable def zqy (te:TE):TS:=fun D σ H=>te σ H fun _ H1=>D.nx σ H1
theorem zng (he:PE X e te) (hs:swapsWith e none pos.line X.env = pure false:=by rfl):PS X (.Expr e pos) (zqy te):=by
 intro pins s σ H D I h
 exact wpAny_Expr_any (thn (he pins s σ H _ I h) fun v s1 ⟨x,H1,I1,r1,q1⟩=>⟨σ,H1,I1,q1⟩) I.quiet hs
noncomputable def zrt (te:TE):TS:=fun D σ H=>te σ H D.rt
theorem zoZ (he:PE X e te):PS X (.Return (some e) pos) (zrt te):=by
 intro pins s σ H D I h
 exact wpAny_Return_some (thn (he pins s σ H _ I h) fun v s1 ⟨x,H1,I1,r1,q1⟩=>⟨x,σ,H1,I1,r1,q1⟩)
noncomputable def zrw (c:TT) (t u:TS):TS:=fun D σ H=>c σ H fun b H1=>if b = true then t D σ H1 else u D σ H1
theorem zqM {a b:List Stmt} {tc:TT} (hc:PT X c tc) (ha:PSs X a t) (hb:PSs X b u):PS X (.If c a b pos) (zrw tc t u):=by
 intro pins s σ H D I h
 refine wpAny_If (thn (hc pins s σ H _ I h) fun d s1 ⟨H1,I1,q1⟩=>?_)
 cases d with
 | true=>exact ha pins s1 σ H1 D I1 q1
 | false=>exact hb pins s1 σ H1 D I1 q1
end
noncomputable abbrev TG:=V->St->Hp->(St->Hp->Prop)->Prop
noncomputable abbrev TGs:=List V->St->Hp->(St->Hp->Prop)->Prop
def PG (X:Cx) (target:Expr) (t:TG):Prop:=
 ∀ (pins:List (Addr × Obj)) (s:Shared) (σ:St) (H:Hp) (v:V) (u:Value) (Q:St->Hp->Prop),Inv X pins σ H s->RelV v u->t v σ H Q->
  wpAny (model X.prog X.w) X.A (assign target X.env u) (fun _ s'=>∃ σ' H',Inv X pins σ' H' s'/\Q σ' H') X.xe s
def PGs (X:Cx) (ts:List Expr) (t:TGs):Prop:=
 ∀ (pins:List (Addr × Obj)) (s:Shared) (σ:St) (H:Hp) (vs:List V) (us:List Value) (Q:St->Hp->Prop),Inv X pins σ H s->Vals vs us->t vs σ H Q->
  wpAny (model X.prog X.w) X.A (assignInOrder ((assignEach ts X.env).map (·.2)) us) (fun _ s'=>∃ σ' H',Inv X pins σ' H' s'/\Q σ' H') X.xe s
noncomputable abbrev zjw:=V->V->V->Hp->(Hp->Prop)->Prop
def zhL (X:Cx) (t:zjw):Prop:=
 ∀ (pins:List (Addr × Obj)) (s:Shared) (σ:St) (H:Hp) (o i v:V) (ov iv u:Value) (Q:Hp->Prop),Inv X pins σ H s->RelV o ov->RelV i iv->RelV v u->t o i v H Q->
  wpAny (model X.prog X.w) X.A (setItem ov iv u) (fun _ s'=>∃ H',Inv X pins σ H' s'/\Q H') X.xe s
variable {tg:Expr} {es:List Expr} {k:Nat} {g:TG}
section
noncomputable def zdo (i:Nat):TG:=fun v σ H Q=>Q (σ.set i (some v)) H
theorem yj (hN:X.N.Nodup) (hi:X.N[i]? = some x) (hx:Loc X.env.scope x) (hf:X.fn x = true\/X.env.scope.names.lookup x = some .local:=by first | exact .inl rfl | exact .inr rfl | assumption):PG X (.Name x pos) (zdo i):=by
 intro pins s σ H v u Q I r h
 exact wpAny_assign_Name (zc5 I hN hi hx r (fun s' I'=>⟨_,H,I',h⟩) hf)
noncomputable def zr9:TGs:=fun vs σ H Q=>vs = []/\Q σ H
noncomputable def zjg (t:TG) (u:TGs):TGs:=fun vs σ H Q=>∃ v r,vs = v :: r/\t v σ H fun σ' H'=>u r σ' H' Q
theorem znk:PGs X [] zr9:=by
 intro pins s σ H vs us Q I r h
 obtain ⟨e,h⟩:=h
 subst e
 cases r
 exact assignInOrder_nil ⟨σ,H,I,h⟩
theorem yr {t:TG} {u:TGs} (h1:PG X e t) (h2:PGs X es u)
 (hs:(assignEach (e :: es) X.env).map (·.2) = assign e X.env :: (assignEach es X.env).map (·.2):=by rfl):PGs X (e :: es) (zjg t u):=by
 intro pins s σ H vs us Q I r h
 obtain ⟨v,vr,e1,h⟩:=h
 subst e1
 cases r with
 | cons r rr=>
  rw [hs]
  refine assignInOrder_cons (thn (h1 pins s σ H _ _ _ I r h) fun _ s1 ⟨σ1,H1,I1,q1⟩=>?_)
  exact h2 pins s1 σ1 H1 _ _ Q I1 rr q1
noncomputable def zmc (K:Frag) (n:Nat) (t:TGs):TG:=fun v σ H Q=>∃ a xs,v = .ref a/\SqT K H a xs/\xs.length = n/\t xs σ H Q
theorem za9 {t:TGs} (hc:X.calm = true) (h:PGs X es t)
 (hn:(assignEach es X.env).length = n:=by rfl) (hst:(assignEach es X.env).findIdx? (·.1) = none:=by rfl):PG X (.Tuple es k pos) (zmc X.K n t):=by
 intro pins s σ H v u Q I r hw
 obtain ⟨a,xs,e1,hq,hl,hw⟩:=hw
 subst e1
 cases r
 obtain ⟨its,rv,ht,hz⟩:=I.tuple hq
 refine assign_Tuple_tuple (I.ok.hd hc) ht (by simp [hn,← hl,rv.length]) hst fun h' hx=>?_
 have I1:Inv X pins σ H { s with heap:=h' }:=I.kept (t':=s.toks) fun b o e=>hx b o (Qi (Qc e)) e
 exact h pins _ σ H xs _ Q I1 (by simpa using rv) hw
noncomputable def zr8 (to ti:TE) (t:zjw):TG:=fun v σ H Q=>to σ H fun o H1=>ti σ H1 fun i H2=>t o i v H2 fun H3=>Q σ H3
theorem zo4 {o i:Expr} {to ti:TE} {t:zjw} (ho:PE X o to) (hi:PE X i ti) (hs:zhL X t)
  (ha:∀ v,assign (.Subscript o i pos) X.env v = (do
   let ov ← holding [v] (eval o X.env)
   let iv ← holding [v,ov] (eval i X.env)
   standAt pos
   holding [v,ov,iv] (setItem ov iv v)
   release [v,ov,iv] []):=by intro _;rfl):PG X (.Subscript o i pos) (zr8 to ti t):=by
 intro pins s σ H v u Q I r h
 rw [ha]
 refine Q1 (wpAny_holding (thn (ho pins s σ H _ I h) fun ov s1 ⟨x,H1,I1,r1,q1⟩=>?_))
 refine Q1 (wpAny_holding (thn (hi pins s1 σ H1 _ I1 q1) fun iv s2 ⟨y,H2,I2,r2,q2⟩=>?_))
 refine Q1 (wpAny_standAt (Q1 (wpAny_holding (thn (hs pins s2 σ H2 x y v ov iv u _ I2 r1 r2 r q2) fun _ s3 ⟨H3,I3,q3⟩=>?_))))
 exact wpAny_release ⟨σ,H3,I3,q3⟩
noncomputable def zgy (te:TE) (g:TG):TS:=fun D σ H=>te σ H fun x H1=>g x σ H1 D.nx
theorem zo1 (he:PE X e te) (hg:PG X tg g) (hs:swapsWithSole [tg] e pos.line X.env = pure false:=by rfl) (hw:swappedStores [tg] e X.env = pure none:=by rfl)
 (h1:(assignEach [tg] X.env).map (·.2) = [assign tg X.env]:=by rfl):PS X (.Assign [tg] e pos) (zgy te g):=by
 intro pins s σ H D I h
 refine wpAny_Assign_stores (thn (he pins s σ H _ I h) fun v s1 ⟨x,H1,I1,r1,q1⟩=>?_) hs hw
 rw [h1]
 exact thn (hg pins s1 σ H1 x v _ I1 r1 q1) fun _ s2 q=>q
theorem zoY {pos':Pos} (hN:X.N.Nodup) (hi:X.N[i]? = some x) (hx:Loc X.env.scope x) (he:PE X e te) (hs:swapsWith e (some (.Name x pos')) pos.line X.env = pure false:=by rfl) (hf:X.fn x = true\/X.env.scope.names.lookup x = some .local:=by first | exact .inl rfl | exact .inr rfl | assumption) :
  PS X (.Assign [.Name x pos'] e pos) (zgy te (zdo i)):=by
 intro pins s σ H D I h
 refine wpAny_Assign_Name (thn (he pins s σ H _ I h) fun v s1 ⟨y,H1,I1,r1,q1⟩=>?_) hs
 exact zc5 I1 hN hi hx r1 (fun s2 I2=>⟨_,H1,I2,q1⟩) hf
end
structure It where
 go:Nat->Hp->Prop
 yld:Nat->Hp->V->Hp->Prop
 stop:Nat->Hp->Prop
def zcI (X:Cx) (pins:List (Addr × Obj)) (H:Hp) (b:Addr):Prop:=
 H b = none/\b ≠ X.env.locals/\b ∉ X.fs/\(b ∈ X.ex\/X.s₀.heap.objs.size<=b)/\(∀ x c,X.env.cells.lookup x = some c->c ≠ b)/\∀ p ∈ X.pn ++ pins,p.1 ≠ b
theorem Inv.fpOk {b:Addr} (I:Inv X pins σ H s) (hb:s.heap.objs.size<=b) (hn:H' b = none):zcI X pins H' b:=by
 refine ⟨hn,Nat.ne_of_gt (Q5 I.lt hb),I.nofs hb,.inr (Qh I.sz hb),fun x c e z=>?_,fun p hp z=>?_⟩
 ·obtain ⟨v,q⟩:=I.cell x c e
  exact absurd (Q5 q.lt (by rw [z];exact hb)) (Qm _)
 ·exact absurd (Q5 (Qc (I.pin p hp).1) (by rw [z];exact hb)) (Qm _)
structure Turn (P:Program) (w:World) (K:Frag) (tg:Expr) (J:It) (fp:List Addr) (it:Addr) (tn:Nat->Heap->Prop):Prop where
 mem:it ∈ fp
 obj:∀ i h,tn i h->∀ b ∈ fp,∃ o,h.get? b = some o/\∀ v,o.data ≠ .cell v
 keep:∀ i h h',tn i h->(∀ b ∈ fp,∀ o,h.get? b = some o->h'.get? b = some o)->tn i h'
 item:∀ (X:Cx),X.prog = P->X.w = w->X.K = K->X.calm = true->∀ (i:Nat) (pins:List (Addr × Obj)) (s:Shared) (σ:St) (H:Hp) (E:Value->Shared->Prop),Inv X pins σ H s->(∀ b ∈ fp,zcI X pins H b)->tn i s.heap->J.go i H->
  wpAny (model P w) X.A (pyNext (.ref it)) (fun r s1=>∃ u,r = some u /\
   wpAny (model P w) X.A (letOwnedTupleGo tg (.ref it) u) (fun _ s2=>∃ x H',Inv X pins σ H' s2/\RelV x u/\J.yld i H x H'/\tn (i + 1) s2.heap/\∀ b ∈ fp,H' b = none) E s1) E s
 done:∀ (X:Cx),X.prog = P->X.w = w->X.K = K->X.calm = true->∀ (i:Nat) (pins:List (Addr × Obj)) (s:Shared) (σ:St) (H:Hp) (E:Value->Shared->Prop),Inv X pins σ H s->(∀ b ∈ fp,zcI X pins H b)->tn i s.heap->J.stop i H->
  wpAny (model P w) X.A (pyNext (.ref it)) (fun r s1=>r = none/\Inv X pins σ H s1) E s
 self:∀ (A:Around) (i:Nat) (s:Shared) (Q:Value->Shared->Prop) (E:Value->Shared->Prop),tn i s.heap->Q (.ref it) s->wpAny (model P w) A (pyIter (.ref it)) Q E s
noncomputable abbrev TI:=St->Hp->(It->Hp->Prop)->Prop
def PIE (X:Cx) (pins:List (Addr × Obj)) (σ:St) (tg:Expr) (R:It->Hp->Prop) (itv:Value) (s2:Shared):Prop:=
 ∃ (it:Addr) (fp:List Addr) (tn:Nat->Heap->Prop) (J:It) (H':Hp),itv = .ref it/\Inv X pins σ H' s2/\Turn X.prog X.w X.K tg J fp it tn/\tn 0 s2.heap/\(∀ b ∈ fp,zcI X pins H' b)/\R J H'
def PI (X:Cx) (tg iter:Expr) (wi:TI):Prop:=
 ∀ (pins:List (Addr × Obj)) (s:Shared) (σ:St) (H:Hp) (R:It->Hp->Prop),Inv X pins σ H s->wi σ H R->
  wpAny (model X.prog X.w) X.A (eval iter X.env) (fun v s1=>wpAny (model X.prog X.w) X.A (pyIter v) (PIE X pins σ tg R) X.xe s1) X.xe s
theorem zgl {o:Obj} {n:String} {vs:Array Value} {Q:Unit->Shared->Prop} (ho:s.heap.get? it = some o) (hc:o.cls = .type n) (hd:o.data = .fields vs)
 (hn:["enumerate","zip","dict_itemiterator","dict_reverseitemiterator","odict_iterator","itertools.zip_longest","itertools.pairwise"].contains n = false) (hQ:Q () s):wpAny M A (letOwnedTupleGo tg (.ref it) u) Q E s:=by
 unfold letOwnedTupleGo
 cases tg <;> first
  | exact Qd hQ
  | (cases u <;> first
    | exact Qd hQ
    | (refine Q1 (wpAny_load ho ?_)
       rw [hc,hd]
       show wpAny M A (if (["enumerate","zip","dict_itemiterator","dict_reverseitemiterator","odict_iterator","itertools.zip_longest","itertools.pairwise"].contains n && vs[0]? == some (rawInt _)) = true then _ else _) Q E s
       rw [Qy (by intro h;rw [hn,Bool.false_and] at h;cases h)]
       exact Qd hQ))
noncomputable def Itl (K:Frag) (a:Addr):It:=
 ⟨fun i H=>∃ xs x,SqL K H a xs/\xs[i]? = some x,fun i H x H'=>H' = H/\∀ xs,SqL K H a xs->xs[i]? = some x,fun i H=>∃ xs,SqL K H a xs/\xs.length<=i⟩
noncomputable def Itt (K:Frag) (a:Addr):It:=
 ⟨fun i H=>∃ xs x,SqT K H a xs/\xs[i]? = some x,fun i H x H'=>H' = H/\∀ xs,SqT K H a xs->xs[i]? = some x,fun i H=>∃ xs,SqT K H a xs/\xs.length<=i⟩
noncomputable def Itr (lo:Int) (n:Nat):It:=⟨fun i _=>i < n,fun i H x H'=>H' = H/\x = .int (lo + i),fun i _=>n<=i⟩
theorem zjH {K:Frag} (a it:Addr):Turn P w K tg (Itl K a) [it] it (fun i h=>h.IsListIter it a i) where
 mem:=by simp
 obj:=fun i h st b hb=>by
  have e:b = it:=by simpa using hb
  subst e
  obtain ⟨o,e,c,d⟩:=st
  exact ⟨o,e,fun v z=>by rw [d] at z;cases z⟩
 keep:=fun i h h' st k=>st.at fun o e=>k it (by simp) o e
 item:=by
  intro X hP hw hK hc i pins s σ H E I hf st hg
  subst hP hw hK
  obtain ⟨xs,x,hq,hx⟩:=hg
  obtain ⟨its,rv,p,hz⟩:=I.list hq
  obtain ⟨u,hu,ru⟩:=rv.get hx
  obtain ⟨f0,f1,f2,f3,f4,f5⟩:=hf it (by simp)
  refine wpAny_pyNext_list_item st p.isList (x:=u) (by simpa using hu) fun h' st' sb=>?_
  have I1:Inv X pins σ H { s with heap:=h' }:=I.turned (t':=s.toks) (fun b o hb e=>(sb.2 b hb).trans e) f0 f1 f3 f4 f5
  obtain ⟨o,e,c,d⟩:=id st'
  exact ⟨u,rfl,zgl (s:={ s with heap:=h' }) e c d (by decide) ⟨x,H,I1,ru,⟨rfl,fun ys hy=>by rw [I.list_inj hy hq];exact hx⟩,st',fun b hb=>(hf b hb).1⟩⟩
 done:=by
  intro X hP hw hK hc i pins s σ H E I hf st hg
  subst hP hw hK
  obtain ⟨xs,hq,hx⟩:=hg
  obtain ⟨its,rv,p,hz⟩:=I.list hq
  obtain ⟨f0,f1,f2,f3,f4,f5⟩:=hf it (by simp)
  have hl:=rv.length
  exact wpAny_pyNext_list_end (I.ok.hd hc) st p.isList (by simp;omega) fun h' eb=>⟨rfl,I.turned (t':=s.toks) (fun b o hb e=>eb b o hb e) f0 f1 f3 f4 f5⟩
 self:=fun _ _ _ _ _ st h=>wpAny_pyIter_listiter st h
theorem ziP {K:Frag} (a it:Addr):Turn P w K tg (Itt K a) [it] it (fun i h=>h.IsTupleIter it a i) where
 mem:=by simp
 obj:=fun i h st b hb=>by
  have e:b = it:=by simpa using hb
  subst e
  obtain ⟨o,e,c,d⟩:=st
  exact ⟨o,e,fun v z=>by rw [d] at z;cases z⟩
 keep:=fun i h h' st k=>st.at fun o e=>k it (by simp) o e
 item:=by
  intro X hP hw hK hc i pins s σ H E I hf st hg
  subst hP hw hK
  obtain ⟨xs,x,hq,hx⟩:=hg
  obtain ⟨its,rv,p,hz⟩:=I.tuple hq
  obtain ⟨u,hu,ru⟩:=rv.get hx
  obtain ⟨f0,f1,f2,f3,f4,f5⟩:=hf it (by simp)
  refine wpAny_pyNext_tuple_item st (show s.heap.IsTuple a its.toArray from p) (x:=u) (by simpa using hu) fun h' st' sb=>?_
  have I1:Inv X pins σ H { s with heap:=h' }:=I.turned (t':=s.toks) (fun b o hb e=>(sb.2 b hb).trans e) f0 f1 f3 f4 f5
  obtain ⟨o,e,c,d⟩:=id st'
  exact ⟨u,rfl,zgl (s:={ s with heap:=h' }) e c d (by decide) ⟨x,H,I1,ru,⟨rfl,fun ys hy=>by rw [I.tuple_inj hy hq];exact hx⟩,st',fun b hb=>(hf b hb).1⟩⟩
 done:=by
  intro X hP hw hK hc i pins s σ H E I hf st hg
  subst hP hw hK
  obtain ⟨xs,hq,hx⟩:=hg
  obtain ⟨its,rv,p,hz⟩:=I.tuple hq
  obtain ⟨f0,f1,f2,f3,f4,f5⟩:=hf it (by simp)
  have hl:=rv.length
  exact wpAny_pyNext_tuple_end (I.ok.hd hc) st (show s.heap.IsTuple a its.toArray from p) (by simp;omega) fun h' eb=>⟨rfl,I.turned (t':=s.toks) (fun b o hb e=>eb b o hb e) f0 f1 f3 f4 f5⟩
 self:=fun _ _ _ _ _ st h=>wpAny_pyIter_tupleiter st h
theorem ziQ {K:Frag} (it:Addr) (lo:Int) (n:Nat):Turn P w K tg (Itr lo n) [it] it (fun i h=>IsRangeIter h it (lo + (i:Nat) * 1) ((n:Int) - (i:Nat)) 1) where
 mem:=by simp
 obj:=fun i h st b hb=>by
  have e:b = it:=by simpa using hb
  subst e
  exact ⟨_,st,fun v z=>by
   have z':Data.fields _ = Data.cell v:=z
   cases z'⟩
 keep:=fun i h h' st k=>k it (by simp) _ st
 item:=by
  intro X hP hw hK hc i pins s σ H E I hf st hg
  subst hP hw hK
  obtain ⟨f0,f1,f2,f3,f4,f5⟩:=hf it (by simp)
  have W:=Walks.range (prog:=X.prog) (w:=X.w) (I.ok.hd hc) it lo 1 n
  refine W.item i s _ _ hg st fun v h' tk hv st' kk=>?_
  obtain ⟨t,rfl⟩:=hv
  have I1:Inv X pins σ H { s with heap:=h',toks:=tk }:=I.turned (fun b o hb e=>kk b o (by simpa using hb) e) f0 f1 f3 f4 f5
  refine ⟨_,rfl,zgl (s:={ s with heap:=h',toks:=tk }) (n:="range_iterator") st' rfl rfl (by decide) ⟨.int (lo + i),H,I1,⟨t,?_⟩,⟨rfl,rfl⟩,st',fun b hb=>(hf b hb).1⟩⟩
  rw [Int.mul_one]
 done:=by
  intro X hP hw hK hc i pins s σ H E I hf st hg
  subst hP hw hK
  obtain ⟨f0,f1,f2,f3,f4,f5⟩:=hf it (by simp)
  exact wpAny_pyNext_range_end (I.ok.hd hc) st (by have:n<=i:=hg;omega) fun h' eb=>⟨rfl,I.turned (t':=s.toks) (fun b o hb e=>eb b o hb e) f0 f1 f3 f4 f5⟩
 self:=fun _ _ _ _ _ st h=>wpAny_pyIter_rangeiter st h
variable {l:Expr} {fp:List Addr} {body:List Stmt} {tl:TE}
section
noncomputable def zq2 (K:Frag) (tl:TE):TI:=fun σ H R=>tl σ H fun x H1=>∃ a,x = .ref a/\(∃ xs,SqL K H1 a xs)/\R (Itl K a) H1
noncomputable def zr5 (K:Frag) (tl:TE):TI:=fun σ H R=>tl σ H fun x H1=>∃ a,x = .ref a/\(∃ xs,SqT K H1 a xs)/\R (Itt K a) H1
theorem zik (hl:PE X l tl):PI X tg l (zq2 X.K tl):=by
 intro pins s σ H R I h
 refine thn (hl pins s σ H _ I h) fun v s1 ⟨x,H1,I1,r1,q1⟩=>?_
 obtain ⟨a,e,⟨xs,hq⟩,q⟩:=q1
 subst e
 cases r1
 obtain ⟨its,rv,p,hz⟩:=I1.list hq
 refine wpAny_pyIter_list p.isList ?_
 refine ⟨s1.heap.objs.size,[s1.heap.objs.size],_,_,H1,rfl,I1.kept (t':=s1.toks) fun b o e=>Q2 _ e,zjH a _,⟨_,Qj _ rfl,rfl,rfl⟩,fun b hb=>?_,q⟩
 have e:b = s1.heap.objs.size:=by simpa using hb
 subst e
 exact I1.fpOk (Q3 _) (I1.hok.fresh (Q3 _))
theorem zo3 (hl:PE X l tl):PI X tg l (zr5 X.K tl):=by
 intro pins s σ H R I h
 refine thn (hl pins s σ H _ I h) fun v s1 ⟨x,H1,I1,r1,q1⟩=>?_
 obtain ⟨a,e,⟨xs,hq⟩,q⟩:=q1
 subst e
 cases r1
 obtain ⟨its,rv,p,hz⟩:=I1.tuple hq
 refine wpAny_pyIter_tuple (show s1.heap.IsTuple a its.toArray from p) ?_
 refine ⟨s1.heap.objs.size,[s1.heap.objs.size],_,_,H1,rfl,I1.kept (t':=s1.toks) fun b o e=>Q2 _ e,ziP a _,⟨_,Qj _ rfl,rfl,rfl⟩,fun b hb=>?_,q⟩
 have e:b = s1.heap.objs.size:=by simpa using hb
 subst e
 exact I1.fpOk (Q3 _) (I1.hok.fresh (Q3 _))
theorem zlr {R:It->Hp->Prop} {lo hi:Int} {t u v:Tok} {tk:Nat} (I:Inv X pins σ H s) (h1:-(2 ^ 62)<=lo) (h2:lo < 2 ^ 62) (h3:-(2 ^ 62)<=hi) (h4:hi < 2 ^ 62)
 (q:R (Itr lo (hi - lo).toNat) H):wpAny (model X.prog X.w) X.A (pyIter (.ref s.heap.objs.size)) (PIE X pins σ tg R) E { s with heap:=s.heap.push { cls:=.type "range",data:=.fields #[.int lo t,.int hi u,.int 1 v] },toks:=tk }:=by
 refine wpAny_pyIter_range (IsRange.new ..) (small_one h1 h2 h3 h4) ?_
 have I1:Inv X pins σ H { s with heap:=s.heap.push { cls:=.type "range",data:=.fields #[.int lo t,.int hi u,.int 1 v] },toks:=tk }:=I.kept fun b o e=>Q2 _ e
 refine ⟨(s.heap.push { cls:=.type "range",data:=.fields #[.int lo t,.int hi u,.int 1 v] }).objs.size,[(s.heap.push { cls:=.type "range",data:=.fields #[.int lo t,.int hi u,.int 1 v] }).objs.size],_,_,H,rfl,
  I1.kept (t':=tk) fun b o e=>Q2 _ e,ziQ _ lo (hi - lo).toNat,?_,fun b hb=>?_,q⟩
 ·have e1:lo + ((0:Nat):Int) * 1 = lo:=by simp
  have e2:(((hi - lo).toNat:Nat):Int) - ((0:Nat):Int) = Builtin.Range.rangeSize lo hi 1:=by rw [rangeSize_one];split <;> omega
  show IsRangeIter _ _ (lo + ((0:Nat):Int) * 1) ((((hi - lo).toNat:Nat):Int) - ((0:Nat):Int)) 1
  rw [e1,e2]
  exact Qj _ rfl
 ·have e:b = (s.heap.push { cls:=.type "range",data:=.fields #[.int lo t,.int hi u,.int 1 v] }).objs.size:=by simpa using hb
  subst e
  exact I1.fpOk (Q3 _) (I1.hok.fresh (Q3 _))
noncomputable def zq1 (ta:TA):TI:=fun σ H R=>ta σ H fun vs H1=>∃ j:Int,vs = [.int j]/\-(2 ^ 62)<=j/\j < 2 ^ 62/\R (Itr 0 j.toNat) H1
theorem zj0 {a:Expr} {ta:TA} {p:Pos} (hg:Gl X "range") (hm:X.mg "range" = none) (ha:PA X [a] ta) (hs:starEach [a] X.env = [(false,eval a X.env)]:=by rfl):PI X tg (.Call (.Name "range" p) [a] [] pos) (zq1 ta):=by
 intro pins s σ H R I h
 refine Call_ (zcS I hg hm boot_range (PyProof.Rows.callWith_type1 (thn (ha pos pins s σ H _ I h) fun us s1 ⟨vs,H1,I1,r1,q1⟩=>?_) hs rfl))
 obtain ⟨j,e,q1,q2,q⟩:=q1
 subst e
 cases r1 with
 | cons r rr=>
  cases rr
  obtain ⟨t,rfl⟩:=r
  exact call_range_1 (zlr I1 (by omega) (by omega) q1 q2 (by simpa using q))
noncomputable def zrx (wi:TI) (g:TG) (tb:TS):TS:=fun D σ H=>wi σ H fun J H1=>∃ W:Nat->Nat->St->Hp->Prop,(∃ m,W 0 m σ H1)/\∀ i m σ H,W i m σ H->
 (J.stop i H/\D.nx σ H)\/(J.go i H/\∃ N:St->Hp->Prop,(∀ σ' H',N σ' H'->∃ m',m' < m/\W (i + 1) m' σ' H')/\∀ x H',J.yld i H x H'->g x σ H' fun σ2 H2=>tb { D with nx:=N,ct:=N,bk:=D.nx } σ2 H2)
noncomputable def zcN (fp:List Addr) (h:Heap):List (Addr × Obj):=fp.filterMap fun b=>(h.get? b).map fun o=>(b,o)
theorem zaB {b:Addr} {o:Obj} (hb:b ∈ fp) (e:h.get? b = some o):(b,o) ∈ zcN fp h:=List.mem_filterMap.mpr ⟨b,hb,by rw [e];rfl⟩
theorem zj7 {p:Addr × Obj} (hp:p ∈ zcN fp h):p.1 ∈ fp/\h.get? p.1 = some p.2:=by
 obtain ⟨b,hb,e⟩:=List.mem_filterMap.mp hp
 cases q:h.get? b with
 | none=>rw [q] at e;cases e
 | some o=>
  rw [q] at e
  have e':(b,o) = p:=Qb e
  subst e'
  exact ⟨hb,q⟩
theorem Inv.pinned (I:Inv X pins σ H s) (hf:∀ b ∈ fp,zcI X pins H b) (ho:∀ b ∈ fp,∃ o,s.heap.get? b = some o/\∀ v,o.data ≠ .cell v):Inv X (pins ++ zcN fp s.heap) σ H s:=
 I.pins_of fun p hp=>(QC.mp hp).elim (fun z=>I.pin p (Qk _ z)) fun z=>by
  obtain ⟨hb,e⟩:=zj7 z
  obtain ⟨f0,f1,f2,_⟩:=hf p.1 hb
  obtain ⟨o,e',d⟩:=ho p.1 hb
  rw [e] at e';cases e'
  exact ⟨e,f0,f1,f2,d⟩
theorem Inv.unpinned {pl:List (Addr × Obj)} (I:Inv X (pins ++ pl) σ H s):Inv X pins σ H s:=I.pins_of fun p hp=>I.pin p (Qk _ (mem_append_left _ hp))
theorem zo0 {iter:Expr} {wi:TI} {tb:TS} (hp:PassesOwn (model X.prog X.w) X.A X.env X.xe) (hc:X.calm = true) (hi:PI X tg iter wi) (hg:PG X tg g) (hb:PSs X body tb)
 (hs:∀ x,foldedSetIterable iter X.env x = pure x:=by intro _;rfl):PS X (.For tg iter body [] pos) (zrx wi g tb):=by
 intro pins s σ H D I h
 refine wpAny_For (thn (hi pins s σ H _ I h) fun v s1 h1=>thn h1 fun itv s2 h2=>?_) hs
 obtain ⟨it,fp,tn,J,H2,e,I2,T,st2,f2,W,⟨m0,w0⟩,turn⟩:=h2
 subst e
 -- what stays true of the iterator's objects through the loop
 have stat:∀ {H':Hp},(∀ b ∈ fp,H' b = none)->∀ b ∈ fp,zcI X pins H' b:=fun hn b hb=>⟨hn b hb,(f2 b hb).2⟩
 refine codeAny_forLoop_any (fun n s'=>∃ i σ' H',Inv X pins σ' H' s'/\tn i s'.heap/\(∀ b ∈ fp,H' b = none)/\W i n σ' H') ?_ m0 ⟨0,σ,H2,I2,st2,fun b hb=>(f2 b hb).1,w0⟩
 rintro n s3 ⟨i,σ3,H3,I3,st3,fr3,w3⟩
 rcases turn i n σ3 H3 w3 with ⟨stop,qn⟩ | ⟨go,N,hN,step⟩
 ·refine wpAny_passesOwn hp (thn (T.done X rfl rfl rfl hc i pins s3 σ3 H3 X.xe I3 (stat fr3) st3 stop) fun r s4 ⟨hr,I4⟩=>?_)
  subst hr
  exact wpAny_execs_nil ⟨σ3,H3,I4,qn⟩
 ·refine wpAny_passesOwn hp (thn (T.item X rfl rfl rfl hc i pins s3 σ3 H3 X.xe I3 (stat fr3) st3 go) fun r s4 ⟨u,hr,h4⟩=>?_)
  subst hr
  refine wpAny_passesOwn hp (thn h4 fun _ s5 ⟨x,H5,I5,r5,y5,st5,fr5⟩=>?_)
  have I5':=I5.pinned (stat fr5) (T.obj _ _ st5)
  refine wpAny_passesOwn hp (thn (hg _ s5 σ3 H5 x u _ I5' r5 (step x H5 y5)) fun _ s6 ⟨σ6,H6,I6,q6⟩=>?_)
  refine wpAny_passesOwn hp (thn (hb _ s6 σ6 H6 _ I6 q6) fun f s7 q7=>?_)
  have again:∀ {σ7:St} {H7:Hp},Inv X (pins ++ zcN fp s5.heap) σ7 H7 s7->N σ7 H7->∃ m,m < n/\∃ i σ' H',Inv X pins σ' H' s7/\tn i s7.heap/\(∀ b ∈ fp,H' b = none)/\W i m σ' H':=fun {σ7 H7} I7 n7=>by
   obtain ⟨m',hm,w7⟩:=hN σ7 H7 n7
   refine ⟨m',hm,i + 1,σ7,H7,I7.unpinned,T.keep _ _ _ st5 fun b hb o e=>(I7.pin (b,o) (Qk _ (Qk _ (zaB hb e)))).1,fun b hb=>?_,w7⟩
   obtain ⟨o,e,d⟩:=T.obj _ _ st5 b hb
   exact (I7.pin (b,o) (Qk _ (Qk _ (zaB hb e)))).2.1
  cases f with
  | next=>obtain ⟨σ7,H7,I7,n7⟩:=q7;exact again I7 n7
  | cont=>obtain ⟨σ7,H7,I7,n7⟩:=q7;exact again I7 n7
  | brk=>obtain ⟨σ7,H7,I7,q7⟩:=q7;exact ⟨σ7,H7,I7.unpinned,q7⟩
  | ret v=>obtain ⟨x7,σ7,H7,I7,r7,q7⟩:=q7;exact ⟨x7,σ7,H7,I7.unpinned,r7,q7⟩
end
noncomputable abbrev R2:=V->V->Hp->VK->Prop
def OpR (X:Cx) (f:Value->Value->Sem Value) (r:R2):Prop:=
 ∀ (pins:List (Addr × Obj)) (s:Shared) (σ:St) (H:Hp) (x y:V) (v u:Value) (Q:VK),Inv X pins σ H s->RelV x v->RelV y u->r x y H Q->
  wpAny (model X.prog X.w) X.A (f v u) (EP X pins σ Q) X.xe s
def UnR (X:Cx) (f:Value->Sem Value) (r:V->Hp->VK->Prop):Prop:=
 ∀ (pins:List (Addr × Obj)) (s:Shared) (σ:St) (H:Hp) (x:V) (v:Value) (Q:VK),Inv X pins σ H s->RelV x v->r x H Q->
  wpAny (model X.prog X.w) X.A (f v) (EP X pins σ Q) X.xe s
def CallR (X:Cx) (f:Value) (r:List V->Hp->VK->Prop):Prop:=
 ∀ (pins:List (Addr × Obj)) (s:Shared) (σ:St) (H:Hp) (xs:List V) (us:List Value) (Q:VK),Inv X pins σ H s->Vals xs us->r xs H Q->
  wpAny (model X.prog X.w) X.A (call f us) (EP X pins σ Q) X.xe s
noncomputable def tOp (r:R2) (ta tb:TE):TE:=fun σ H Q=>ta σ H fun x H1=>tb σ H1 fun y H2=>r x y H2 Q
noncomputable def tUn (r:V->Hp->VK->Prop) (ta:TE):TE:=fun σ H Q=>ta σ H fun x H1=>r x H1 Q
noncomputable def rI (C:Int->Int->Prop) (g:Int->Int->V):R2:=fun x y H Q=>∃ i j,x = .int i/\y = .int j/\C i j/\Q (g i j) H
noncomputable def rI0 (g:Int->Int->V):R2:=fun x y H Q=>∃ i j,x = .int i/\y = .int j/\Q (g i j) H
noncomputable def rU (g:Int->V):V->Hp->VK->Prop:=fun x H Q=>∃ i,x = .int i/\Q (g i) H
variable {tc:TE} {f:Value->Value->Sem Value}
section
variable {a b:Expr}
theorem zmm (ha:PE X a ta) (hb:PE X b tb) (I:Inv X pins σ H s)
 (h:ta σ H fun x H1=>tb σ H1 fun y H2=>R x y H2) 
 (hf:∀ v u s2 x y H2,Inv X pins σ H2 s2->RelV x v->RelV y u->R x y H2->wpAny (model X.prog X.w) X.A (f v u) Q X.xe s2) :
  wpAny (model X.prog X.w) X.A (eval a X.env) (fun v s₁=>wpAny (model X.prog X.w) X.A (eval b X.env) (fun u s₂=>wpAny (model X.prog X.w) X.A (f v u) Q X.xe s₂) X.xe s₁) X.xe s:=by
 refine thn (ha pins s σ H _ I h) fun v s1 ⟨x,H1,I1,r1,q1⟩=>?_
 refine thn (hb pins s1 σ H1 _ I1 q1) fun u s2 ⟨y,H2,I2,r2,q2⟩=>?_
 exact hf v u s2 x y H2 I2 r1 r2 q2
theorem zqO {op:Operator} {r:R2} (ho:OpR X (binaryOp op) r) (ha:PE X a ta) (hb:PE X b tb):PE X (.BinOp a op b pos) (tOp r ta tb):=by
 intro pins s σ H Q I h
 exact wpAny_BinOp (zmm ha hb I h fun v u s2 x y H2 I2 rx ry q=>ho pins s2 σ H2 x y v u Q I2 rx ry q)
theorem zqN {op:UnaryOp} {r:V->Hp->VK->Prop} (ho:UnR X (unaryOp op) r) (ha:PE X a ta):PE X (.UnaryOp op a pos) (tUn r ta):=by
 intro pins s σ H Q I h
 exact UnaryOp_ (thn (ha pins s σ H _ I h) fun v s1 ⟨x,H1,I1,r1,q1⟩=>ho pins s1 σ H1 x v Q I1 r1 q1)
theorem opI {C:Int->Int->Prop} {g:Int->Int->Int}
 (rule:∀ (i j:Int) (t u:Tok) (s:Shared) (Q:Value->Shared->Prop) (E:Value->Shared->Prop),C i j->Q (.int (g i j) s.toks) { s with toks:=s.toks + 1 }->wpAny (model X.prog X.w) X.A (f (.int i t) (.int j u)) Q E s) :
  OpR X f (rI C fun i j=>.int (g i j)):=by
 intro pins s σ H x y v u Q I rx ry h
 obtain ⟨i,j,rfl,rfl,hc,q⟩:=h
 obtain ⟨t,rfl⟩:=rx
 obtain ⟨t',rfl⟩:=ry
 exact rule i j t t' s _ _ hc ⟨.int (g i j),H,I.tok _,⟨_,rfl⟩,q⟩
theorem zpn {g:Int->Int->Int}
 (rule:∀ (i j:Int) (t u:Tok) (s:Shared) (Q:Value->Shared->Prop) (E:Value->Shared->Prop),Q (.int (g i j) s.toks) { s with toks:=s.toks + 1 }->wpAny (model X.prog X.w) X.A (f (.int i t) (.int j u)) Q E s) :
  OpR X f (rI0 fun i j=>.int (g i j)):=by
 intro pins s σ H x y v u Q I rx ry h
 obtain ⟨i,j,rfl,rfl,q⟩:=h
 obtain ⟨t,rfl⟩:=rx
 obtain ⟨t',rfl⟩:=ry
 exact rule i j t t' s _ _ ⟨.int (g i j),H,I.tok _,⟨_,rfl⟩,q⟩
theorem zlE {g:Int->Int->Bool}
 (rule:∀ (i j:Int) (t u:Tok) (s:Shared) (Q:Value->Shared->Prop) (E:Value->Shared->Prop),Q (.bool (g i j)) s->wpAny (model X.prog X.w) X.A (f (.int i t) (.int j u)) Q E s) :
  OpR X f (rI0 fun i j=>.bl (g i j)):=by
 intro pins s σ H x y v u Q I rx ry h
 obtain ⟨i,j,rfl,rfl,q⟩:=h
 obtain ⟨t,rfl⟩:=rx
 obtain ⟨t',rfl⟩:=ry
 exact rule i j t t' s _ _ ⟨.bl (g i j),H,I,rfl,q⟩
def zss (i j:Int):Prop:=0<=j/\j<=1000000/\i.natAbs < 2 ^ 64
def CMul (i j:Int):Prop:=(-(2 ^ 64) < i/\i < 2 ^ 64)\/(-(2 ^ 64) < j/\j < 2 ^ 64)
theorem CMul.ok {i j:Int} (h:CMul i j):IntMulOk i j:=by
 rcases h with ⟨h1,h2⟩ | ⟨h1,h2⟩
 ·exact .of_left (intBits_le_64 h1 h2)
 ·exact .of_right (intBits_le_64 h1 h2)
theorem zpm:OpR X (binaryOp .Add) (rI0 fun i j=>.int (i + j)):=zpn fun _ _ _ _ _ _ _ q=>add_int q
theorem zpj:OpR X (binaryOp .Sub) (rI0 fun i j=>.int (i - j)):=zpn fun _ _ _ _ _ _ _ q=>sub_int q
theorem znv:OpR X (binaryOp .Mod) (rI (fun _ j=>j ≠ 0) fun i j=>.int (i.fmod j)):=opI fun _ _ _ _ _ _ _ hc q=>mod_int' hc q
theorem zpk:OpR X (binaryOp .Pow) (rI zss fun i j=>.int (i ^ j.toNat)):=opI fun _ _ _ _ _ _ _ hc q=>pow_int_small hc.1 hc.2.1 hc.2.2 q
theorem unI {f:Value->Sem Value} {g:Int->Int}
  (rule:∀ (i:Int) (t:Tok) (s:Shared) (Q:Value->Shared->Prop) (E:Value->Shared->Prop),Q (.int (g i) s.toks) { s with toks:=s.toks + 1 }->wpAny (model X.prog X.w) X.A (f (.int i t)) Q E s) :
  UnR X f (rU fun i=>.int (g i)):=by
 intro pins s σ H x v Q I rx h
 obtain ⟨i,rfl,q⟩:=h
 obtain ⟨t,rfl⟩:=rx
 exact rule i t s _ _ ⟨.int (g i),H,I.tok _,⟨_,rfl⟩,q⟩
theorem zoB:UnR X (unaryOp .USub) (rU fun i=>.int (-i)):=unI fun _ _ _ _ _ q=>neg_int q
end
variable {op':CmpOp} {r':R2}
section
variable {a b:Expr}
theorem zho {Q:VK} {k k':Bool} (I:Inv X pins σ H s) (q:Q (.bl k) H) (e:k = k'):EP X pins σ Q (.bool k') s:=by
 subst e
 exact ⟨.bl k,H,I,rfl,q⟩
theorem zqS:OpR X (compareOp .Lt) (rI0 fun i j=>.bl (decide (i < j))):=zlE fun _ _ _ _ _ _ _ q=>lt_int q
theorem zmz:OpR X (compareOp .LtE) (rI0 fun i j=>.bl (decide (i<=j))):=zlE fun _ _ _ _ _ _ _ q=>le_int q
theorem zqT:OpR X (compareOp .Gt) (rI0 fun i j=>.bl (decide (j < i))):=zlE fun _ _ _ _ _ _ _ q=>gt_int q
theorem zpl:OpR X (compareOp .Is) (fun x y H Q=>y = .non/\Q (.bl (decide (x = .non))) H):=by
 intro pins s σ H x y v u Q I rx ry h
 obtain ⟨rfl,q⟩:=h
 cases ry
 refine is_none_gen (zho I q ?_)
 cases x <;> first
  | (cases rx;rfl)
  | (obtain ⟨t,rfl⟩:=rx;rfl)
theorem znt:OpR X (compareOp .IsNot) (fun x y H Q=>y = .non/\Q (.bl (!decide (x = .non))) H):=by
 intro pins s σ H x y v u Q I rx ry h
 obtain ⟨rfl,q⟩:=h
 cases ry
 refine isnot_none_gen (zho I q ?_)
 cases x <;> first
  | (cases rx;rfl)
  | (obtain ⟨t,rfl⟩:=rx;rfl)
theorem qq (b:Expr) (h:op ≠ .In:=by decide) (h2:op ≠ .NotIn:=by decide):behindInMarks op b = false:=by
 have e1:(op == CmpOp.In) = false:=by cases op <;> first | rfl | exact absurd rfl h
 have e2:(op == CmpOp.NotIn) = false:=by cases op <;> first | rfl | exact absurd rfl h2
 cases b <;> simp [behindInMarks,e1,e2]
theorem znp {r:R2} (ho:OpR X (compareOp op) r) (ha:PE X a ta) (hb:PE X b tb) (hm:behindInMarks op b = false):PE X (.Compare a [op] [b] pos) (tOp r ta tb):=by
 intro pins s σ H Q I h
 exact wpAny_Compare1 (zmm ha hb I h fun v u s2 x y H2 I2 rx ry q=>ho pins s2 σ H2 x y v u Q I2 rx ry q) hm
noncomputable def zmt (t:TE):TT:=fun σ H Q=>t σ H fun x H'=>∃ k,x = .bl k/\Q k H'
theorem zna {r:R2} (ho:OpR X (compareOp op) r) (ha:PE X a ta) (hb:PE X b tb) (hm:behindInMarks op b = false):PT X (.Compare a [op] [b] pos) (zmt (tOp r ta tb)):=by
 intro pins s σ H Q I h
 refine wpAny_isTrue_Compare1 (thn (ha pins s σ H _ I h) fun v s1 ⟨x,H1,I1,r1,q1⟩=>thn (hb pins s1 σ H1 _ I1 q1) fun u s2 ⟨y,H2,I2,r2,q2⟩=>
  thn (ho pins s2 σ H2 x y v u _ I2 r1 r2 q2) fun c s3 ⟨z,H3,I3,r3,k,e,q3⟩=>?_) hm
 subst e
 cases r3
 exact wpAny_truthy_bool ⟨H3,I3,q3⟩
noncomputable def zgx (r r':R2) (ta tb tc:TE):TE:=fun σ H Q=>ta σ H fun x H1=>tb σ H1 fun y H2=>r x y H2 fun z H3=>∃ k,z = .bl k /\
 (if k = true then tc σ H3 fun w' H4=>r' y w' H4 Q else Q (.bl false) H3)
theorem zlB {r:R2} (ho:OpR X (compareOp op) r) (ho':OpR X (compareOp op') r') (ha:PE X a ta) (hb:PE X b tb) (hc:PE X c tc)
 (hm:lastMarks [op,op'] [b,c] = false:=by with_unfolding_all rfl):PE X (.Compare a [op,op'] [b,c] pos) (zgx r r' ta tb tc):=by
 intro pins s σ H Q I h
 refine Compare_chain (thn (ha pins s σ H _ I h) fun v s1 ⟨x,H1,I1,r1,q1⟩=>chain_link (thn (hb pins s1 σ H1 _ I1 q1) fun u s2 ⟨y,H2,I2,r2,q2⟩=>
  thn (ho pins s2 σ H2 x y v u _ I2 r1 r2 q2) fun d s3 ⟨z,H3,I3,r3,k,e,q3⟩=>?_)) hm
 subst e
 cases r3
 refine wpAny_truthy_bool ?_
 cases k with
 | false=>exact ite_ff ⟨.bl false,H3,I3,rfl,q3⟩
 | true=>exact ite_tt (chain_last (thn (hc pins s3 σ H3 _ I3 q3) fun w' s4 ⟨z',H4,I4,r4,q4⟩=>ho' pins s4 σ H4 y z' u w' Q I4 r2 r4 q4))
theorem zlv {r:R2} (ho:OpR X (compareOp op) r) (ho':OpR X (compareOp op') r') (ha:PE X a ta) (hb:PE X b tb) (hc:PE X c tc)
 (hm:lastMarks [op,op'] [b,c] = false:=by with_unfolding_all rfl):PT X (.Compare a [op,op'] [b,c] pos) (zmt (zgx r r' ta tb tc)):=by
 intro pins s σ H Q I h
 refine isTrue_chain (thn (ha pins s σ H _ I h) fun v s1 ⟨x,H1,I1,r1,q1⟩=>test_link (thn (hb pins s1 σ H1 _ I1 q1) fun u s2 ⟨y,H2,I2,r2,q2⟩=>
  thn (ho pins s2 σ H2 x y v u _ I2 r1 r2 q2) fun d s3 ⟨z,H3,I3,r3,k,e,q3⟩=>?_)) hm
 subst e
 cases r3
 refine wpAny_truthy_bool ?_
 cases k with
 | false=>
  obtain ⟨k',e',q'⟩:=q3
  cases e'
  exact ite_ff ⟨H3,I3,q'⟩
 | true=>
  refine ite_tt (test_last (thn (hc pins s3 σ H3 _ I3 q3) fun w' s4 ⟨z',H4,I4,r4,q4⟩=>thn (ho' pins s4 σ H4 y z' u w' _ I4 r2 r4 q4) fun d' s5 ⟨z2,H5,I5,r5,k2,e2,q5⟩=>?_))
  subst e2
  cases r5
  exact wpAny_truthy_bool ⟨H5,I5,q5⟩
theorem zcQ:(sizeLine:Nat) < 2 ^ 63:=by rw [sizeLine_eq];decide
theorem zi8:OpR X (binaryOp .Add) (fun x y H Q=>∃ i j,x = .str i/\y = .str j/\i.length + j.length<=sizeLine/\Q (.str (i ++ j)) H):=by
 intro pins s σ H x y v u Q I rx ry h
 obtain ⟨i,j,rfl,rfl,hz,q⟩:=h
 obtain ⟨t,rfl⟩:=rx
 obtain ⟨t',rfl⟩:=ry
 exact add_str (fun t' tk=>⟨.str (i ++ j),H,I.tok _,⟨_,rfl⟩,q⟩) hz
theorem vals1 {x:V} (r:Vals [x] us):∃ u,us = [u]/\RelV x u:=by
 cases r with
 | cons r1 r2=>cases r2;exact ⟨_,rfl,r1⟩
theorem vals2 {x:V} (r:Vals [x,y] us):∃ u w',us = [u,w']/\RelV x u/\RelV y w':=by
 cases r with
 | cons r1 r2=>
  cases r2 with
  | cons r3 r4=>cases r4;exact ⟨_,_,rfl,r1,r3⟩
theorem zkT (hc:X.calm = true):CallR X (.builtin "max") (fun xs H Q=>∃ i j,xs = [.int i,.int j]/\Q (.int (if j > i then j else i)) H):=by
 intro pins s σ H xs us Q I r h
 obtain ⟨i,j,rfl,q⟩:=h
 obtain ⟨u,w',rfl,⟨t,rfl⟩,⟨t',rfl⟩⟩:=vals2 r
 refine max_two_ints (I.ok.hd hc) fun h' tk k=>⟨_,H,I.kept k,?_,q⟩
 by_cases hj:j > i
 ·rw [Qw hj,Qw hj];exact ⟨_,rfl⟩
 ·rw [Qy hj,Qy hj];exact ⟨_,rfl⟩
theorem zkR (hc:X.calm = true):CallR X (.builtin "min") (fun xs H Q=>∃ i j,xs = [.int i,.int j]/\Q (.int (if j < i then j else i)) H):=by
 intro pins s σ H xs us Q I r h
 obtain ⟨i,j,rfl,q⟩:=h
 obtain ⟨u,w',rfl,⟨t,rfl⟩,⟨t',rfl⟩⟩:=vals2 r
 refine min_two_ints (I.ok.hd hc) fun h' tk k=>⟨_,H,I.kept k,?_,q⟩
 by_cases hj:j < i
 ·rw [Qw hj,Qw hj];exact ⟨_,rfl⟩
 ·rw [Qy hj,Qy hj];exact ⟨_,rfl⟩
theorem zhw:CallR X (.type "str") (fun xs H Q=>∃ i,xs = [.int i]/\i.natAbs.log2 < 1920/\Q (.str (toString i)) H):=by
 intro pins s σ H xs us Q I r h
 obtain ⟨i,rfl,hz,q⟩:=h
 obtain ⟨u,rfl,t,rfl⟩:=vals1 r
 exact PySem.P.str_of_int hz ⟨.str _,H,I.tok _,⟨_,rfl⟩,q⟩
end
structure ObjM (h:Heap) (x dx C:Addr) (mA:Str->Option Value):Prop where
 obj:h.get? x = some (PySem.W.instObj C dx)
 ns:h.Ns1 dx mA
 ne:dx ≠ x
variable {dx:Addr} {mA:Str->Option Value}
theorem zkd (n:h.Ns1 dx mA):∃ od,h.get? dx = some od/\∀ name,PySem.W.lookIn name od = some (mA name):=by
 obtain ⟨o,es,ep,ho,hd,hk,_,hm⟩:=n
 refine ⟨o,ho,fun name=>?_⟩
 have e:=hm name
 unfold nsFind findBy at e
 rw [← Array.find?_toList] at e
 unfold PySem.W.lookIn
 rw [hd]
 dsimp only
 split
 ·rename_i y q
  rw [q] at e
  exact congrArg some e
 ·rename_i q
  rw [q] at e
  have a:es.toList.any (·.refKey) = false:=by
   rw [List.any_eq_false]
   intro y hy
   obtain ⟨z,t,hkey⟩:=hk y (Array.mem_toList_iff.mp hy)
   simp [DictEntry.refKey,hkey]
  have a':¬ es.toList.any (·.refKey) = true:=by rw [a];exact Q4
  rw [Qy a']
  exact congrArg some e
variable {C:Addr}
theorem ObjM.look {x:Addr} (I:ObjM h x dx C mA):∃ od,PySem.W.InstAt h x (PySem.W.instObj C dx) C (some od)/\∀ name,PySem.W.lookIn name od = some (mA name):=
 let ⟨od,ho,hl⟩:=zkd I.ns
 ⟨od,⟨I.obj,rfl,rfl,ho⟩,hl⟩
noncomputable def zlu (f:Str) (v:V):List (Str × V)->List (Str × V)
 | []=>[(f,v)]
 | (g,x) :: r=>if g = f then (g,v) :: r else (g,x) :: zlu f v r
theorem RelO.some_of {o:Option Value} (r:RelO (some v) o):∃ u,o = some u/\RelV v u:=by
 cases o with
 | none=>exact (show False from r).elim
 | some u=>exact ⟨u,rfl,r⟩
structure Cls (K:Frag) (C:Addr):Prop where
 pg:PySem.W.plainGet K C Str.empty = true
 hd:PySem.W.hasDictIn K C = true
 po:PySem.W.plainOver K C = true
 sa:PySem.W.findIn K (.ref C) "__setattr__" = some (some (.builtin "object.__setattr__"))
structure Con (K:Frag) (C:Addr) (f:Str) (v:V) (u:Value):Prop where
 at_:PySem.W.findIn K (.ref C) f = some (some u)
 rel:RelV v u
 get:PySem.W.specialIn K u "__get__" = some none
 cp:PySem.W.copiedNames.contains f = false
structure Meth (K:Frag) (C:Addr) (m:Str) (f:Addr):Prop where
 at_:PySem.W.findIn K (.ref C) m = some (some (.ref f))
 fn:PySem.W.isFn K (.ref f) = true
 kp:PySem.W.keepIn K (.ref f) = true
section
variable {c:Value} {b:Bool}
inductive TyOf (K:Frag) (H:Hp):V->Value->Prop where
 | non:TyOf K H .non (.type "NoneType")
 | bl (x:Bool):TyOf K H (.bl x) (.type "bool")
 | int (i:Int):TyOf K H (.int i) (.type "int")
 | str (x:Str):TyOf K H (.str x) (.type "str")
 | flt (x:UInt64):TyOf K H (.flt x) (.type "float")
 | lst {a:Addr} {xs:List V} (e:H a = some (.lst xs)):TyOf K H (.ref a) (.type "list")
 | frz {a:Addr} {o:Obj} {xs:List V} (e:H a = some (.frz o (.lst xs))):TyOf K H (.ref a) (.type "list")
 | tup {a:Addr} {xs:List V} (e:H a = some (.tup xs)):TyOf K H (.ref a) (.type "tuple")
 | dK {a:Addr} {kvs:List (Key × V)} (e:H a = some (.dK kvs)):TyOf K H (.ref a) (.type "dict")
 | dT {a:Addr} {kvs:List (List Key × V)} (e:H a = some (.dT kvs)):TyOf K H (.ref a) (.type "dict")
 | ins {a C dx:Addr} {fs:List (Str × V)} (e:H a = some (.ins C dx fs)) (cl:Cls K C) (ha:PySem.W.findIn K (.ref C) "__class__" = some (some (.builtin "object.__class__")))
   (hn:PySem.W.specialIn K (.builtin "object.__class__") "__get__" = some (some (.builtin "getset_descriptor.__get__"))) (htk:PySem.W.takesIn K (.builtin "object.__class__") = some true)
   (hm:PySem.W.mroIn K C (.type "object") = some true):TyOf K H (.ref a) (.ref C)
end
structure Room (k:Nat) (A:Around):Prop where
 hd:A.handled = none
 dp:A.depth + 3 * k + 5 < recursionLimit
 un:A.units + 16 * k + 200 < cLine
theorem Room.mono (r:Room k A) (h:j<=k):Room j A:=⟨r.hd,by have:=r.dp;omega,by have:=r.un;omega⟩
theorem Room.deeper (r:Room (k + 1) A) (env:Env):Room k (A.deeper env):=
 ⟨r.hd,by have:=r.dp;show A.depth + 1 + 3 * k + 5 < _;omega,by have:=r.un;show A.units + 3 + 16 * k + 200 < _;omega⟩
theorem Room.in1 (r:Room (k + 1) A):Room k A.in1:=
 ⟨r.hd,by have:=r.dp;show A.depth + 3 * k + 5 < _;omega,by have:=r.un;show A.units + 1 + 16 * k + 200 < _;omega⟩
variable {kw:List (Str × Value)}
theorem zjd:(A.under (.builtin "type.__call__" ⟨.ref C :: us,kw⟩)).depth = A.depth + 1:=by
 first | rfl | simp [Around.under,Code.weight,Code.isCreation,Code.isGuard,Code.isCaller,Code.frames,Code.isFrame,guardIds]
theorem zjc:(A.under (.builtin "type.__call__" ⟨.ref C :: us,kw⟩)).units = A.units + 1:=by
 first | rfl | simp [Around.under,Code.cUnits,Code.frames,Code.isFrame]
theorem Room.make (r:Room (k + 1) A) (C:Addr) (us:List Value) (kw:List (Str × Value)):Room k (A.under (.builtin "type.__call__" ⟨.ref C :: us,kw⟩)):=
 ⟨r.hd,by have:=r.dp;rw [zjd];omega,by have:=r.un;rw [zjc];omega⟩
theorem Room.depth (r:Room k A):A.depth < recursionLimit:=by have:=r.dp;omega
theorem Room.units (r:Room k A):A.units + 64 < cLine:=by have:=r.un;omega
theorem Room.units0 (r:Room k A):A.units < cLine:=by have:=r.un;omega
noncomputable def zrv:TA:=fun _ H Q=>Q [] H
noncomputable def zgg (ta:TE) (tr:TA):TA:=fun σ H Q=>ta σ H fun x H1=>tr σ H1 fun xs H2=>Q (x :: xs) H2
section
variable {t:TA}
theorem zj4:PA X [] zrv:=fun _ _ _ _ H Q I h=>Calls.spliced_nil ⟨[],H,I,.nil,h⟩
theorem zio (ha:PE X e te) (hr:PA X es t) (hs:starEach (e :: es) X.env = (false,eval e X.env) :: starEach es X.env:=by rfl):PA X (e :: es) (zgg te t):=by
 intro pos pins s σ H Q I h
 rw [hs]
 show wpAny _ _ (spliced ((false,eval e X.env) :: backTo pos (starEach es X.env))) _ _ s
 refine Calls.spliced_cons (thn (ha pins s σ H _ I h) fun u s1 ⟨x,H1,I1,r1,q1⟩=>?_)
 exact thn (hr pos pins s1 σ H1 _ I1 q1) fun us s2 ⟨xs,H2,I2,r2,q2⟩=>⟨x :: xs,H2,I2,.cons r1 r2,q2⟩
noncomputable def zrs (t:TA):TE:=fun σ H Q=>t σ H fun xs H1=>xs.length<=sizeLine/\∀ p,H1 p = none->Q (.ref p) (upd H1 p (.tup xs))
noncomputable def ziU (t:TA):TE:=fun σ H Q=>t σ H fun xs H1=>xs.length<=sizeLine/\∀ p,H1 p = none->Q (.ref p) (upd H1 p (.lst xs))
theorem zo8 {x1} (h:PA X es t):PE X (.Tuple es x1 pos) (zrs t):=by
 intro pins s σ H Q I hq
 refine wpAny_Tuple_spliced (thn (h pos pins s σ H _ I hq) fun us s1 ⟨xs,H1,I1,r,z,q⟩=>⟨by rw [← r.length];exact z,?_⟩)
 have hf:H1 s1.heap.objs.size = none:=I1.hok.fresh (Q3 _)
 refine ⟨.ref s1.heap.objs.size,upd H1 s1.heap.objs.size (.tup xs),I1.laid (t':=s1.toks) (fun b u e=>Q2 _ e) (Q3 _) ?_,rfl,q _ hf⟩
 exact ⟨z,us,r,⟨_,Qj _ rfl,rfl,_,rfl⟩,NoDict.new⟩
theorem zpd (h:PA X es t):PE X (.List es pos) (ziU t):=by
 intro pins s σ H Q I hq
 refine wpAny_List_spliced (thn (h pos pins s σ H _ I hq) fun us s1 ⟨xs,H1,I1,r,z,q⟩=>⟨by rw [← r.length];exact z,?_⟩)
 have hf:H1 s1.heap.objs.size = none:=I1.hok.fresh (Q3 _)
 refine ⟨.ref s1.heap.objs.size,upd H1 s1.heap.objs.size (.lst xs),I1.laid (t':=s1.toks) (fun b u e=>Q2 _ e) (Q3 _) ?_,rfl,q _ hf⟩
 exact ⟨z,us,0,r,Qj _ rfl⟩
end
noncomputable abbrev Sp:=List V->Hp->VK->XK->Prop
noncomputable abbrev CXT:=List Env->Hp->Shared->XK->Value->Shared->Prop
structure Env0 (P:Program) (w:World) (K:Frag) (mg:Str->Option Value) (base:Heap) (A:Around) (outer:List Env) (s:Shared) (H:Hp):Prop where
 frames:A.frames = some outer
 mod:Mod K mg base
 bs:∀ b o,base.get? b = some o->s.heap.get? b = some o/\H b = none
 bsz:base.objs.size<=s.heap.objs.size
 funs:s.heap.FunFrames base outer
 frf:∀ b ∈ frs outer,H b = none
 hok:HOk P w H s.heap
 bare:AllBare s.gens
def CE (outer:List Env) (P:Program) (w:World) (H:Hp) (s:Shared) (Q:VK) (u:Value) (s':Shared):Prop:=
 ∃ v H',s'.os = s.os/\AllBare s'.gens/\Un (frs outer) [] H H' s.heap s'.heap/\HOk P w H' s'.heap/\RelV v u/\Q v H'
def CR (CX:CXT) (outer:List Env) (P:Program) (w:World) (H:Hp) (s:Shared) (Q:VK) (E:XK) (r:Result) (s':Shared):Prop:=
 match r with
 | .ok (.ret u)=>CE outer P w H s Q u s'
 | .ok _=>False
 | .error e=>CX outer H s E e s'
structure FnOk (P:Program) (w:World) (K:Frag) (mg:Str->Option Value) (base:Heap) (CX:CXT) (k:Nat) (f:Addr) (fd:FuncData) (ps:List Str) (sp:Sp):Prop where
 len:∀ vs H Q E,sp vs H Q E->vs.length = ps.length
 run:∀ (A:Around) (outer:List Env) (s:Shared) (H:Hp) (args:Args) (us:List Value) (vs:List V) (Q:VK) (E:XK),Room k A->Env0 P w K mg base A outer s H->BindsTo s fd args (ps.zip us)->Vals vs us->sp vs H Q E->
  codeAny (model P w) A (.call (.ref f) args) (CR CX outer P w H s Q E) s
variable {CX:CXT} {fd:FuncData} {base:Heap} {ps:List Str} {sp:Sp} {mg:Str->Option Value}
theorem FnOk.mono {K:Frag} {f:Addr} (F:FnOk P w K mg base CX j f fd ps sp) (h:j<=k) :
  FnOk P w K mg base CX k f fd ps sp:=⟨F.len,fun A outer s H args us vs Q E hr=>F.run A outer s H args us vs Q E (hr.mono h)⟩
section
theorem Inv.env0 (I:Inv X pins σ H s):Env0 X.prog X.w X.K X.mg X.base X.A X.stack s H:=
 ⟨I.ok.frames,I.ok.mod,I.bs,Qh I.ok.bsz I.sz,I.stack,I.stkFree,I.hok,I.bare⟩
theorem Inv.after {Q:VK} (I:Inv X pins σ H s) (h:CE X.stack X.prog X.w H s Q u s'):EP X pins σ Q u s':=by
 obtain ⟨v,H',os,bare,un,hok,r,q⟩:=h
 obtain ⟨hh,g,d,t,os'⟩:=s'
 obtain rfl:os' = s.os:=os
 exact ⟨v,H',I.call (h':=hh) (g':=g) (d':=d) (t':=t) (ch:=[]) un hok bare (fun b z=>absurd z (by simp)),r,q⟩
end
noncomputable def zmu (sp:Sp) (dvs:List V) (E:XK) (t:TA):TE:=fun σ H Q=>t σ H fun vs H1=>sp (vs ++ dvs) H1 Q E
def Binds (K:Frag) (fd:FuncData) (ps:List Str) (ds:List Value):Prop:=
 ∀ (s:Shared) (us:List Value),K.In s.heap->(us ++ ds).length = ps.length->BindsTo s fd ⟨us,[]⟩ (ps.zip (us ++ ds))
theorem Binds.all {K:Frag} (h:∀ us:List Value,us.length = ps.length->bindArgs fd ⟨us,[]⟩ = pure (ps.zip us)):Binds K fd ps []:=fun s us _ hl=>by
 rw [append_nil] at hl ⊢
 exact .of_eq (h us hl)
def Passes (CX:CXT) (X:Cx) (E:XK):Prop:=∀ (pins:List (Addr × Obj)) (σ:St) (H:Hp) (s:Shared) (e:Value) (s':Shared),Inv X pins σ H s->CX X.stack H s E e s'->X.xe e s'
variable {vs:List V} {apos:Pos} {m:Str}
section
variable {f:Addr} {dvs:List V} {ds:List Value} {E:XK} {p:Pos} {o:Expr} {t:TA}
theorem zoM {Q:VK} (F:FnOk X.prog X.w X.K X.mg X.base CX k f fd ps sp) (hr:Room k X.A) (hb:Binds X.K fd ps ds) (hd:Vals dvs ds) (hx:Passes CX X E)
 (I:Inv X pins σ H s) (r:Vals vs us) (h:sp (vs ++ dvs) H Q E):wpAny (model X.prog X.w) X.A (call (.ref f) us) (EP X pins σ Q) X.xe s:=by
 have r2:Vals (vs ++ dvs) (us ++ ds):=r.append hd
 have hl:(us ++ ds).length = ps.length:=by rw [← r2.length];exact F.len _ _ _ _ h
 refine wpAny_call (codeAny_mono (F.run X.A X.stack s H ⟨us,[]⟩ (us ++ ds) (vs ++ dvs) Q E hr I.env0 (hb s us I.kIn hl) r2 h) fun r s' hq=>?_)
 cases r with
 | error e=>exact hx pins σ H s e s' I hq
 | ok fl=>
  cases fl with
  | ret u=>exact I.after hq
  | next=>exact False.elim hq
  | brk=>exact False.elim hq
  | cont=>exact False.elim hq
theorem zin (F:FnOk X.prog X.w X.K X.mg X.base CX k f fd ps sp) (hr:Room k X.A) (hg:Gl X x) (hm:X.mg x = some (.ref f)) (hk:PySem.W.keepIn X.K (.ref f) = true) (hb:Binds X.K fd ps ds) (hd:Vals dvs ds) (hx:Passes CX X E)
  (ha:PA X (e :: es) t) (hdb:(x == ("__debug__":Str)) = false:=by decide) (he:starEach (e :: es) X.env = (false,eval e X.env) :: starEach es X.env:=by rfl) (hpl:(backTo pos (starEach es X.env)).any (·.1) = false:=by rfl) :
  PE X (.Call (.Name x p) (e :: es) [] pos) (zmu sp dvs E t):=by
 intro pins s σ H Q I h
 refine wpAny_Call_Name_kw (zcR I hg hm ?_ hdb)
 refine PySem.W.callWith_K (h₀:=X.base) I.ok.mod.kin hk (thn (ha pos pins s σ H _ I h) fun us s1 ⟨vs,H1,I1,r,q⟩=>⟨I1.kIn,?_⟩) he hpl
 exact zoM F hr hb hd hx I1 r q
structure Mk (K:Frag) (C f:Addr):Prop where
 makes:PySem.W.makesIn K C = true
 init:PySem.W.findIn K (.ref C) "__init__" = some (some (.ref f))
 fn:PySem.W.isFn K (.ref f) = true
 kp:PySem.W.keepIn K (.ref C) = true
end
section
variable {f:Addr} {ks:List Str} {E:XK} {p kpos:Pos} {o:Expr} {kws:List Keyword} {t tk:TA} {nm:Option Str}
structure KBinds (K:Frag) (fd:FuncData) (ps ks:List Str) (g:List Value->List Value->List Value) (gV:List V->List V->List V):Prop where
 to:∀ (s:Shared) (us ws:List Value),K.In s.heap->(g us ws).length = ps.length->BindsTo s fd ⟨us,ks.zip ws⟩ (ps.zip (g us ws))
 rel:∀ {vs:List V} {us:List Value} {zs:List V} {ws:List Value},Vals vs us->Vals zs ws->Vals (gV vs zs) (g us ws)
end
structure FnScope (N P:List Str) (sc:Scope):Prop where
 kind:sc.kind = .function
 co:sc.isCoroutine = false
 gen:sc.isGenerator = false
 nd:N.Nodup
 pre:N.take P.length = P
 par:∀ x ∈ P,sc.names.lookup x = some .local\/sc.names.lookup x = some .cell
 nofree:∀ y ∈ sc.names,y.2 ≠ .free
theorem zf6 {kindOf:Str->Option NameKind} {x:Str}:∀ {binds:List (Str × Value)} {m:Str->Option Value},(∀ v,(x,v) ∉ binds)->bindL kindOf binds m x = m x
 | [],_,_=>rfl
 | (n,v) :: r,m,h=>by
  unfold bindL
  rw [zf6 fun w hw=>h w (mem_cons_of_mem _ hw)]
  split
  ·have:x ≠ n:=by rintro rfl;exact h v mem_cons_self
   simp [this]
  ·rfl
theorem zf8 {kindOf:Str->Option NameKind} {x:Str}:∀ {binds:List (Str × Value)} {m:Str->Option Value},(∀ v,(x,v) ∉ binds)->bindC kindOf binds m x = m x
 | [],_,_=>rfl
 | (n,v) :: r,m,h=>by
  unfold bindC
  rw [zf8 fun w hw=>h w (mem_cons_of_mem _ hw)]
  split
  ·rfl
  ·have:x ≠ n:=by rintro rfl;exact h v mem_cons_self
   simp [this]
theorem zf7 {kindOf:Str->Option NameKind} {x:Str} {v:Value}:∀ {P:List Str} {vs:List Value} {i:Nat} {m:Str->Option Value},P.Nodup->P[i]? = some x->vs[i]? = some v->kindOf x = some .local->
  bindL kindOf (P.zip vs) m x = some v
 | [],_,_,_,_,h,_,_=>by simp at h
 | _ :: _,[],_,_,_,_,h,_=>by simp at h
 | p :: P,w :: vs,0,m,nd,h1,h2,hk=>by
  simp at h1 h2;subst h1;subst h2
  show bindL kindOf ((p,w) :: P.zip vs) m p = _
  unfold bindL
  rw [zf6 fun v hv=>(nodup_cons.mp nd).1 (of_mem_zip hv).1,Qw hk]
  simp
 | p :: P,w :: vs,i + 1,m,nd,h1,h2,hk=>by
  show bindL kindOf ((p,w) :: P.zip vs) m x = _
  unfold bindL
  exact zf7 (i:=i) (nodup_cons.mp nd).2 (by simpa using h1) (by simpa using h2) hk
theorem zf9 {kindOf:Str->Option NameKind} {x:Str} {v:Value}:∀ {P:List Str} {vs:List Value} {i:Nat} {m:Str->Option Value},P.Nodup->P[i]? = some x->vs[i]? = some v->kindOf x ≠ some .local->
  bindC kindOf (P.zip vs) m x = some v
 | [],_,_,_,_,h,_,_=>by simp at h
 | _ :: _,[],_,_,_,_,h,_=>by simp at h
 | p :: P,w :: vs,0,m,nd,h1,h2,hk=>by
  simp at h1 h2;subst h1;subst h2
  show bindC kindOf ((p,w) :: P.zip vs) m p = _
  unfold bindC
  rw [zf8 fun v hv=>(nodup_cons.mp nd).1 (of_mem_zip hv).1,Qy hk]
  simp
 | p :: P,w :: vs,i + 1,m,nd,h1,h2,hk=>by
  show bindC kindOf ((p,w) :: P.zip vs) m x = _
  unfold bindC
  exact zf9 (i:=i) (nodup_cons.mp nd).2 (by simpa using h1) (by simpa using h2) hk
noncomputable def start (N:List Str) (vs:List V):St:=vs.map some ++ List.replicate (N.length - vs.length) none
noncomputable def zbr (CX:CXT) (P:Program) (w:World) (K:Frag) (mg:Str->Option Value) (base:Heap) (N:List Str) (qual:Str) (scope:Scope) (f:Addr) (cd:Value) (A:Around) (outer:List Env) (s:Shared) (H:Hp) (E:XK):Cx where
 prog:=P
 w:=w
 K:=K
 mg:=mg
 base:=base
 A:=A.deeper (envOfC qual scope s.heap.objs.size f cd)
 N:=N
 s₀:=s
 H₀:=H
 env:=envOfC qual scope s.heap.objs.size f cd
 outer:=outer
 stack:=envOfC qual scope s.heap.objs.size f cd :: outer
 ex:=[]
 calm:=true
 fn:=fun _=>true
 pn:=[]
 xe:=fun e s'=>wpAny (model P w) (A.deeper (envOfC qual scope s.heap.objs.size f cd)) (leaving (envOfC qual scope s.heap.objs.size f cd) e) (fun _ s''=>CX outer H s E e s'') (fun e' s''=>CX outer H s E e' s'') s'
theorem zhu {sc:Scope} (h:sc.names.lookup x = some .cell):∃ c,(cellsFrom n sc.names []).lookup x = some c:=by
 have q:=PySem.W.cellsFrom_some sc.names n [] (.inl h)
 exact Option.isSome_iff_exists.mp q
variable {scope:Scope} {qual:Str}
theorem zkr {K:Frag} {f:Addr} {cd:Value} {outer:List Env} {s1:Shared} {E:XK} 
 (S:FnScope N ps scope) (hd:A.handled = none) (e0:Env0 P w K mg base A outer s H) (hl:vs.length = ps.length) (r:Vals vs us)
 (x:InCallC s s.heap.objs.size (bindL (envOfC qual scope s.heap.objs.size f cd).kindOf (ps.zip us) fun _=>none) (cellsFrom (s.heap.objs.size + 1) scope.names []) (bindC (envOfC qual scope s.heap.objs.size f cd).kindOf (ps.zip us) fun _=>none) s1) :
  Inv (zbr CX P w K mg base N qual scope f cd A outer s H E) [] (start N vs) H s1:=by
 have hpl:ps.length<=N.length:=by have:=congrArg List.length S.pre;rw [Qp] at this;omega
 obtain ⟨h1,tk,rfl,hk⟩:=x.done
 have noA:∀ b:Addr,b ∉ (zbr CX P w K mg base N qual scope f cd A outer s H E).ex:=fun b z=>absurd (show b ∈ ([]:List Addr) from z) (by simp)
 refine ⟨⟨e0.mod,S.kind,rfl,rfl,Q3 _,fun y z c h1 h2=>?_,fun y hy=>?_,fun y c _ h=>?_,fun _=>hd,Around.frames_deeper e0.frames,.inr ⟨rfl,rfl⟩,fun b z=>absurd z (noA b),e0.bs,e0.bsz,fun b _ _=>noA b,fun b z=>absurd z (noA b),e0.funs,e0.frf⟩,
  rfl,e0.bare,Un.kept hk,⟨_,x.toInCall.ns,fun i y v h1 h2 h3=>?_⟩,fun y c h=>⟨_,x.cell y c h⟩,e0.hok.fresh (Q3 _),fun y c h=>?_,fun p hp=>absurd (show p ∈ ([]:List (Addr × Obj)) from hp) (by simp),e0.hok.kept hk,?_⟩
 ·exact name_of_addr x.apart (PySem.mem_of_lookup h1) (PySem.mem_of_lookup h2)
 ·have hy:scope.names.lookup y = some .cell\/scope.names.lookup y = some .free:=hy
  rcases hy with hy | hy
  ·exact zhu hy
  ·exact absurd rfl (S.nofree _ (PySem.mem_of_lookup hy))
 ·exact Nat.le_of_lt (x.above y c (PySem.mem_of_lookup h))
 ·have hi:i < vs.length:=by
   unfold start at h2
   by_cases hi:i < vs.length
   ·exact hi
   ·rw [Q7 (by simpa using hi)] at h2
    rw [List.getElem?_replicate] at h2
    split at h2 <;> cases h2
  have ha:vs[i]? = some v:=by
   unfold start at h2
   rw [Q6 (by simpa using hi),Qa] at h2
   cases e:vs[i]? with
   | none=>rw [e] at h2;cases h2
   | some a=>rw [e] at h2;cases h2;rfl
  obtain ⟨u,hu,rv⟩:=r.get ha
  have hp:ps[i]? = some y:=by
   rw [← S.pre,List.getElem?_take_of_lt (by omega)];exact h1
  have ndP:ps.Nodup:=by rw [← S.pre];exact S.nd.sublist (List.take_sublist _ _)
  refine ⟨u,rv,?_⟩
  rcases S.par y (Q9 hp) with k | k
  ·exact .inl ⟨k,zf7 ndP hp hu k⟩
  ·obtain ⟨c,e⟩:=zhu (n:=s.heap.objs.size + 1) k
   refine .inr ⟨.inl k,c,e,?_⟩
   have q:=x.cell y c e
   rw [zf9 ndP hp hu (by show scope.names.lookup y ≠ _;rw [k];decide)] at q
   exact q
 ·exact e0.hok.fresh (Nat.le_of_lt (x.above y c (PySem.mem_of_lookup h)))
 ·unfold start
  show _ = N.length
  rw [Ql,Qf,List.length_replicate]
  omega
theorem zmI {K:Frag} {f:Addr} {name:Str} {params:Arguments} {dV kV doc pm cdv ct oc:Value} {an od:Option Addr}
 {osl:Array (Option Value)} (lk:K.lookup f = some ⟨oc,od,.func (PySem.W.fnOf name qual params body scope dV kV doc pm an cdv ct),osl⟩) (hcd:PySem.W.codeIn K cdv qual = true) (S:FnScope N ps scope)
 (len:∀ vs H Q E,sp vs H Q E->vs.length = ps.length)
 (hbody:∀ (A:Around) (outer:List Env) (s:Shared) (H:Hp) (vs:List V) (Q:VK) (E:XK),Room k (A.deeper (envOfC qual scope s.heap.objs.size f cdv))->sp vs H Q E->
 ∃ t,PSs (zbr CX P w K mg base N qual scope f cdv A outer s H E) body t/\t { nx:=fun _ H'=>Q .non H',rt:=Q } (start N vs) H) :
  FnOk P w K mg base CX (k + 1) f (PySem.W.fnOf name qual params body scope dV kV doc pm an cdv ct) ps sp:=by
 refine ⟨len,fun A outer s H args us vs Q E hr e0 hb r hsp=>?_⟩
 have hl:=len _ _ _ _ hsp
 have KX:K.In s.heap:=e0.mod.kin.keeps fun b o e=>(e0.bs b o e).1
 have lim:s.heap.NoLimit:=e0.mod.nolimit.keeps fun b o e=>(e0.bs b o e).1
 have hkind:∀ y ∈ ps.zip us,scope.names.lookup y.1 = some .local\/(scope.names.lookup y.1 = some .cell/\((cellsFrom (s.heap.objs.size + 1) scope.names []).lookup y.1).isSome = true):=fun ⟨n,v⟩ hy=>by
  rcases S.par n (of_mem_zip hy).1 with q | q
  ·exact .inl q
  ·exact .inr ⟨q,PySem.W.cellsFrom_some _ _ _ (.inl q)⟩
 refine codeAny_call_function hr.depth (KX _ _ lk) rfl S.co S.gen rfl (PySem.W.codeRec_of KX hcd) (hb _ _ _ _ ?_)
 refine wpAny_newFunctionEnv_cells S.kind hkind fun env he s1 x=>?_
 subst he
 refine ⟨lim.keeps x.toInCall.keep,codeAny_func ?_⟩
 obtain ⟨t,ht,hq⟩:=hbody A outer s H vs Q E (hr.deeper _) hsp
 have I:Inv (zbr CX P w K mg base N qual scope f cdv A outer s H E) [] (start N vs) H s1:=zkr S hr.hd e0 hl r x
 refine Qe (ht [] s1 (start N vs) H _ I hq) (fun fl s' hs=>?_) fun e s' hs=>hs
 have fin:∀ {σ':St} {H':Hp} {v:V} {u:Value},Inv (zbr CX P w K mg base N qual scope f cdv A outer s H E) [] σ' H' s'->RelV v u->Q v H'->CE outer P w H s Q u s':=
  fun {σ' H' v u} J rv q=>⟨v,H',J.os,J.bare,J.base,J.hok,rv,q⟩
 cases fl with
 | ret u=>
  obtain ⟨v,σ',H',J,rv,q⟩:=hs
  exact fin J rv q
 | next=>
  obtain ⟨σ',H',J,q⟩:=hs
  exact fin (v:=V.non) (u:=Value.none) J rfl q
 | brk=>
  obtain ⟨_,_,_,q⟩:=hs
  exact False.elim q
 | cont=>
  obtain ⟨_,_,_,q⟩:=hs
  exact False.elim q
section
variable {p:Pos} {t:TA} {id T:String} {r:List V->Hp->VK->Prop}
noncomputable def tCB (r:List V->Hp->VK->Prop) (t:TA):TE:=fun σ H Q=>t σ H fun vs H1=>r vs H1 Q
theorem zgU (hc:CallR X (.builtin id) r) (hg:Gl X x) (hm:X.mg x = none) (hv:bootBuiltins x = some (.builtin id)) (ha:PA X (e :: es) t) (hn:x ≠ "__name__":=by decide) (hdb:(x == ("__debug__":Str)) = false:=by decide)
  (he:starEach (e :: es) X.env = (false,eval e X.env) :: starEach es X.env:=by rfl) (hpl:(backTo pos (starEach es X.env)).any (·.1) = false:=by rfl):PE X (.Call (.Name x p) (e :: es) [] pos) (tCB r t):=by
 intro pins s σ H Q I h
 refine wpAny_Call_Name_kw (zcS I hg hm hv ?_ hn hdb)
 exact PyProof.Rows.callWith_builtin1 (thn (ha pos pins s σ H _ I h) fun us s1 ⟨vs,H1,I1,r1,q1⟩=>hc pins s1 σ H1 vs us Q I1 r1 q1) he hpl
theorem zfV (hc:CallR X (.type T) r) (hg:Gl X x) (hm:X.mg x = none) (hv:bootBuiltins x = some (.type T)) (ha:PA X (e :: es) t) (hn:x ≠ "__name__":=by decide) (hdb:(x == ("__debug__":Str)) = false:=by decide)
  (he:starEach (e :: es) X.env = (false,eval e X.env) :: starEach es X.env:=by rfl) (hpl:(backTo pos (starEach es X.env)).any (·.1) = false:=by rfl):PE X (.Call (.Name x p) (e :: es) [] pos) (tCB r t):=by
 intro pins s σ H Q I h
 refine wpAny_Call_Name_kw (zcS I hg hm hv ?_ hn hdb)
 exact PyProof.Rows.callWith_type1 (thn (ha pos pins s σ H _ I h) fun us s1 ⟨vs,H1,I1,r1,q1⟩=>hc pins s1 σ H1 vs us Q I1 r1 q1) he hpl
end
end L2
namespace HT
open PySem PyProof.Rows
variable {sl t:Addr} {vl vu:Value} {Q:Value->Shared->Prop}
section
variable {prog:Program} {w:World} {A:Around} {E:Value->Shared->Prop} {s:Shared}
theorem zoh {b:Addr} {vs ws:List Value} (ht:IsTup s.heap t vs.toArray) (hb:IsTup s.heap b ws.toArray) (hv:vs ≠ [])
 (h1:ws = []->Q (.ref t) s) (h2:ws ≠ []->Q (.ref s.heap.objs.size) { s with heap:=s.heap.push { cls:=.type "tuple",data:=.seq (vs ++ ws).toArray } })
 (hsz:vs.length + ws.length<=sizeLine):wpAny (model prog w) A (binaryOp .Add (.ref t) (.ref b)) Q E s:=by
 obtain ⟨⟨cls,dd,data,sl⟩,ho,hc,n,hd⟩:=id ht
 obtain ⟨⟨cls2,dd2,data2,sl2⟩,ho2,hc2,n2,hd2⟩:=id hb
 simp only at hc hd hc2 hd2
 subst hc hd hc2 hd2
 have e:vs.toArray ++ ws.toArray = (vs ++ ws).toArray:=by simp
 by_cases hw:ws = []
 ·exact concat_meets ⟨_,ho,rfl⟩ ⟨_,ho2,rfl⟩ noFill_tuple_add seq_tuple_add PySem.F.slot_tuple_add PySem.F.entry_tuple_add (PySem.F.args_tuple_add_2 _ _)
   (tuple_addW1 t b vs.toArray ws.toArray n n2 dd dd2 sl sl2 (by simpa using hv) (by simp [hw])) ⟨ho,ho2,h1 hw⟩
 ·refine concat_meets ⟨_,ho,rfl⟩ ⟨_,ho2,rfl⟩ noFill_tuple_add seq_tuple_add PySem.F.slot_tuple_add PySem.F.entry_tuple_add (PySem.F.args_tuple_add_2 _ _)
   (tuple_addW2 t b vs.toArray ws.toArray n n2 dd dd2 sl sl2 (by simpa using hv) (by simpa using hw) (by rw [Qg,Qg];exact hsz)) ⟨ho,ho2,?_⟩
  rw [e]
  exact h2 hw
noncomputable def sIx (n d:Nat):Option Int->Nat
 | none=>d
 | some v=>if v < 0 then (v + (n:Int)).toNat else min v.toNat n
theorem zlj (n d:Nat):sIx n d none = d:=rfl
theorem zm4 (n d k:Nat):sIx n d (some (k:Int)) = min k n:=by
 show (if (k:Int) < 0 then ((k:Int) + (n:Int)).toNat else min (k:Int).toNat n) = min k n
 rw [Qy (by omega),Int.toNat_natCast]
theorem zoL (n d:Nat) (hd:d<=n) (o:Option Int):sIx n d o<=n:=by
 cases o with
 | none=>exact hd
 | some v=>
  show (if v < 0 then (v + (n:Int)).toNat else min v.toNat n)<=n
  by_cases hv:v < 0
  ·rw [Qw hv];omega
  ·rw [Qy hv];exact Nat.min_le_right _ _
theorem ziJ (v:Int) (n d:Nat):(if v < 0 then max (v + (n:Int)) 0 else min v (n:Int)) = ((sIx n d (some v):Nat):Int):=by
 show (if v < 0 then max (v + (n:Int)) 0 else min v (n:Int)) = (((if v < 0 then (v + (n:Int)).toNat else min v.toNat n):Nat):Int)
 by_cases hv:v < 0
 ·simp only [Qw hv];omega
 ·simp only [Qy hv];omega
theorem zjv (lo hi:Option Int) (n:Nat):Builtin.Slice.sliceAdjust lo hi 1 (n:Int) = (((sIx n 0 lo:Nat):Int),((sIx n n hi:Nat):Int)):=by
 have h1:¬ ((1:Int) < 0):=by omega
 unfold Builtin.Slice.sliceAdjust
 simp only [h1,if_false]
 refine Prod.ext ?_ ?_
 ·cases lo with
  | none=>rfl
  | some v=>exact ziJ v n 0
 ·cases hi with
  | none=>rfl
  | some v=>exact ziJ v n n
theorem zi6 (i j:Nat):Builtin.Slice.slicePlaces (i:Int) (j:Int) 1 = j - i:=by
 unfold Builtin.Slice.slicePlaces
 have h1:(1:Int) > 0:=by omega
 simp only [h1,if_true,Int.ediv_one]
 split <;> omega
theorem ze0 {v:Value} {o:Option Int} {Q:Option Int->Shared->Prop} (p:IsPart v o) (h:Q o s):wpAny (model prog w) A (Builtin.Slice.slicePartIndex v) Q E s:=by
 cases p with
 | none=>exact slicePart_none h
 | int i t=>exact slicePart_int h
theorem zb1 {lo hi:Option Int} {n:Nat} {Q:Int × Int × Nat->Shared->Prop} (hs:s.heap.IsSliceOf sl vl vu .none) (pl:IsPart vl lo) (pu:IsPart vu hi)
 (h:Q (((sIx n 0 lo:Nat):Int),1,sIx n n hi - sIx n 0 lo) s):wpAny (model prog w) A (Builtin.Slice.sliceApplied (.ref sl) (pure (n:Int))) Q E s:=by
 obtain ⟨os,hos,hcs,hds⟩:=id hs
 unfold Builtin.Slice.sliceApplied Builtin.Slice.sliceFields
 refine Q1 (Q1 (wpAny_field hos hds (x:=vl) rfl (Q1 (wpAny_field hos hds (x:=vu) rfl (Q1 (wpAny_field hos hds (x:=.none) rfl (Qd ?_)))))))
 refine Q1 (slicePart_none ?_)
 show wpAny _ _ (if ((1:Int) == 0) = true then _ else _) _ _ s
 rw [Qy (by decide)]
 refine Q1 (ze0 pl (Q1 (ze0 pu (Q1 (Qd ?_)))))
 show wpAny _ _ (match Builtin.Slice.sliceAdjust lo hi 1 (n:Int) with | (lo,hi)=>pure (lo,(1:Int),Builtin.Slice.slicePlaces lo hi 1)) _ _ s
 rw [zjv lo hi n]
 show wpAny _ _ (pure (((sIx n 0 lo:Nat):Int),(1:Int),Builtin.Slice.slicePlaces ((sIx n 0 lo:Nat):Int) ((sIx n n hi:Nat):Int) 1)) _ _ s
 rw [zi6]
 exact Qd h
theorem zlx (xs:Array Value) (i k:Nat):((List.range k).filterMap fun (m:Nat)=>xs[((i:Int) + (m:Int) * 1).toNat]?).toArray = ((xs.toList.drop i).take k).toArray:=by
 have e:(fun (m:Nat)=>xs[((i:Int) + (m:Int) * 1).toNat]?) = fun m=>xs[i + m]?:=by
  funext m
  have:((i:Int) + (m:Int) * 1).toNat = i + m:=by omega
  rw [this]
 rw [e]
 have:=pick_run xs i k
 rw [List.filterMap_map] at this
 have e2:((fun x=>xs[x]?) ∘ fun x=>i + x) = fun m=>xs[i + m]?:=rfl
 rw [e2] at this
 rw [this]
theorem zem {items:Array Value} {lo hi:Option Int} (ht:IsTup s.heap t items) (hs:s.heap.IsSliceOf sl vl vu .none) (pl:IsPart vl lo) (pu:IsPart vu hi)
 (hw:¬ (sIx items.size 0 lo = 0/\sIx items.size items.size hi = items.size))
 (h:Q (.ref s.heap.objs.size) { s with heap:=s.heap.push { cls:=.type "tuple",data:=.seq ((items.toList.drop (sIx items.size 0 lo)).take (sIx items.size items.size hi - sIx items.size 0 lo)).toArray } })
 (hsz:items.size<=sizeLine):wpAny (model prog w) A (getItem (.ref t) (.ref sl)) Q E s:=by
 have htake:sizeOk (.seq ((items.toList.drop (sIx items.size 0 lo)).take (sIx items.size items.size hi - sIx items.size 0 lo)).toArray):=by
  show ((items.toList.drop (sIx items.size 0 lo)).take (sIx items.size items.size hi - sIx items.size 0 lo)).toArray.size<=sizeLine
  rw [Qg,Qp,length_drop,Array.length_toList]
  omega
 have hj:sIx items.size items.size hi<=items.size:=zoL _ _ (Q3 _) hi
 obtain ⟨os,hos,hcs,hds⟩:=id hs
 have hTs:s.TypeIs (.ref sl) "slice":=⟨os,hos,hcs⟩
 unfold getItem
 try with_reducible refine wpAny_holding ?_
 first | refine Q1 (Qd ?_) | skip
 refine Q1 (wpAny_sequenceKey ht.typeIs (by decide) ?_)
 refine Q1 (wpAny_callSpecial?_slot (name:=Str.ofString "__getitem__") ht.typeIs PyProof.Rows.slot_tuple_getitem
  (wpAny_call_entry PyProof.Rows.slot_tuple_getitem ht.typeIs entry_tuple_getitem ?_ (args_tuple_getitem _ _)))
 show wpAny _ _ (Builtin.Tuple.tupleItemsOf (.ref t) >>= _) _ _ s
 refine Q1 (tupleItemsOf_ ht ?_)
 refine Q1 (wpAny_typeOf hTs ?_)
 rw [Qw (by decide)]
 refine Q1 (zb1 hs pl pu ?_)
 have hno:¬ ((((sIx items.size 0 lo:Nat):Int) == 0 && (1:Int) == 1 && (sIx items.size items.size hi - sIx items.size 0 lo) == items.size) = true):=by
  intro q
  rw [Qq,Qq] at q
  have q1:((sIx items.size 0 lo:Nat):Int) = 0:=eq_of_beq q.1.1
  have q2:sIx items.size items.size hi - sIx items.size 0 lo = items.size:=eq_of_beq q.2
  exact hw ⟨by omega,by omega⟩
 show wpAny _ _ (if (((sIx items.size 0 lo:Nat):Int) == 0 && (1:Int) == 1 && (sIx items.size items.size hi - sIx items.size 0 lo) == items.size) = true then _ else _) _ _ s
 rw [Qy hno,zlx]
 first
  | exact Q1 (m:=Builtin.Tuple.tupleExact _) (Qr (Qd ⟨_,rfl,Qd h⟩) htake)
  | exact Q1 (m:=Builtin.Tuple.tupleExact _) (Qr (Q1 (Qd (Qd ⟨_,rfl,Qd h⟩))) htake)
  | exact Q1 (Q1 (m:=Builtin.Tuple.tupleExact _) (Qr (Qd (Qd ⟨_,rfl,Qd h⟩)) htake))
  | exact Q1 (Q1 (m:=Builtin.Tuple.tupleExact _) (Qr (Qd ⟨_,rfl,Qd h⟩) htake))
end
end HT
namespace L2
open PySem PySem.Spec PyProof.Rows
noncomputable abbrev TO:=St->Hp->(Option Int->Hp->Prop)->Prop
def PO (X:Cx) (e:Option Expr) (t:TO):Prop:=
 ∀ (pins:List (Addr × Obj)) (s:Shared) (σ:St) (H:Hp) (Q:Option Int->Hp->Prop),Inv X pins σ H s->t σ H Q->
  wpAny (model X.prog X.w) X.A (evalPart e X.env) (fun u s'=>∃ o H',Inv X pins σ H' s'/\IsPart u o/\Q o H') X.xe s
noncomputable def zmV:TO:=fun _ H Q=>Q none H
noncomputable def zqv (t:TE):TO:=fun σ H Q=>t σ H fun x H1=>∃ i,x = .int i/\Q (some i) H1
variable {X:Cx} {e:Expr} {xs:List V} {pos:Pos}
section
variable {te:TE} {lo hi:Option Expr} {tl th:TO} {p2:Pos}
theorem znj:PO X none zmV:=by
 intro pins s σ H Q I h
 rw [evalPart_none]
 exact Qd ⟨none,H,I,.none,h⟩
theorem zni (h:PE X e te):PO X (some e) (zqv te):=by
 intro pins s σ H Q I hw
 rw [evalPart_some]
 refine thn (h pins s σ H _ I hw) fun u s1 ⟨x,H1,I1,r1,q1⟩=>?_
 obtain ⟨i,rfl,q⟩:=q1
 obtain ⟨t,rfl⟩:=r1
 exact ⟨some i,H1,I1,.int i t,q⟩
def SlR (X:Cx) (r:V->Option Int->Option Int->Hp->VK->Prop):Prop:=
 ∀ (pins:List (Addr × Obj)) (s:Shared) (σ:St) (H:Hp) (x:V) (v vl vu:Value) (lo hi:Option Int) (sl:Addr) (Q:VK),Inv X pins σ H s->RelV x v->s.heap.IsSliceOf sl vl vu .none->IsPart vl lo->IsPart vu hi->r x lo hi H Q->
  ∃ T id,typeLookup (.type T) "__getitem__" = pure (some (.builtin id))/\s.TypeIs v T/\wpAny (model X.prog X.w) X.A (getItem v (.ref sl)) (EP X pins σ Q) X.xe s
noncomputable def tSl (r:V->Option Int->Option Int->Hp->VK->Prop) (te:TE) (tl th:TO):TE:=fun σ H Q=>te σ H fun x H1=>tl σ H1 fun l H2=>th σ H2 fun u H3=>r x l u H3 Q
theorem zgT {r:V->Option Int->Option Int->Hp->VK->Prop} (hr:SlR X r) (he:PE X e te) (hl:PO X lo tl) (hu:PO X hi th):PE X (.Subscript e (.Slice lo hi none p2) pos) (tSl r te tl th):=by
 intro pins s σ H Q I h
 refine Subscript_ (thn (he pins s σ H _ I h) fun v s1 ⟨x,H1,I1,r1,q1⟩=>?_)
 refine wpAny_Slice (thn (hl pins s1 σ H1 _ I1 q1) fun vl s2 ⟨l,H2,I2,pl,q2⟩=>thn (hu pins s2 σ H2 _ I2 q2) fun vu s3 ⟨u,H3,I3,pu,q3⟩=>?_)
 rw [evalPart_none]
 refine Qd ?_
 have I4:Inv X pins σ H3 { s3 with heap:=s3.heap.push { cls:=.type "slice",data:=.fields #[vl,vu,.none] } }:=I3.kept (t':=s3.toks) fun b ob q=>Q2 _ q
 obtain ⟨T,id,hT,ht,hg⟩:=hr pins { s3 with heap:=s3.heap.push { cls:=.type "slice",data:=.fields #[vl,vu,.none] } } σ H3 x v vl vu l u s3.heap.objs.size Q I4 r1 (Heap.IsSliceOf.new ..) pl pu q3
 show wpAny (model X.prog X.w) X.A (subscriptTail e (.Slice lo hi none p2) v (.ref s3.heap.objs.size)) (EP X pins σ Q) X.xe { s3 with heap:=s3.heap.push { cls:=.type "slice",data:=.fields #[vl,vu,.none] } }
 exact tail_any (ops:=[.ref s3.heap.objs.size,v]) ht hT hg (by with_unfolding_all rfl)
noncomputable def cutV (xs:List V) (lo hi:Option Int):List V:=(xs.drop (HT.sIx xs.length 0 lo)).take (HT.sIx xs.length xs.length hi - HT.sIx xs.length 0 lo)
theorem zew (xs:List V) (lo hi:Option Int):(cutV xs lo hi).length<=xs.length:=by
 unfold cutV
 rw [Qp,length_drop]
 omega
noncomputable def zrQ (K:Frag):V->Option Int->Option Int->Hp->VK->Prop:=fun x lo hi H Q=>∃ a xs,x = .ref a/\SqT K H a xs /\
 ¬ (HT.sIx xs.length 0 lo = 0/\HT.sIx xs.length xs.length hi = xs.length)/\∀ p,H p = none->Q (.ref p) (upd H p (.tup (cutV xs lo hi)))
theorem zoI:SlR X (zrQ X.K):=by
 intro pins s σ H x v vl vu lo hi sl Q I rx hs pl pu h
 obtain ⟨a,xs,rfl,hx,hw,q⟩:=h
 cases rx
 obtain ⟨its,r,ht,hz⟩:=I.tuple hx
 have hlen:its.toArray.size = xs.length:=by rw [Qg];exact r.length.symm
 refine ⟨"tuple",_,PyProof.Rows.slot_tuple_getitem.lookup,ht.typeIs,?_⟩
 refine HT.zem ht hs pl pu (by rw [hlen];exact hw) ?_ (by rw [hlen];exact hz)
 rw [hlen]
 refine ⟨.ref s.heap.objs.size,_,I.laid (t':=s.toks) (o:=.tup (cutV xs lo hi)) (fun b ob q=>Q2 _ q) (Q3 _) ?_,rfl,q _ (I.hok.fresh (Q3 _))⟩
 exact ⟨Qh (zew xs lo hi) hz,_,(r.drop (HT.sIx xs.length 0 lo)).take (HT.sIx xs.length xs.length hi - HT.sIx xs.length 0 lo),IsTup.new _ _,NoDict.new⟩
noncomputable def zqI (K:Frag):R2:=fun x y H Q=>∃ a b xs ys,x = .ref a/\y = .ref b/\SqT K H a xs/\SqT K H b ys/\xs ≠ []/\xs.length + ys.length<=sizeLine /\
 (ys = []->Q (.ref a) H)/\(ys ≠ []->∀ p,H p = none->Q (.ref p) (upd H p (.tup (xs ++ ys))))
theorem Vals.nil_iff {us:List Value} (r:Vals xs us):us = [] ↔ xs = []:=by
 cases r with
 | nil=>simp
 | cons _ _=>simp
theorem znx:OpR X (binaryOp .Add) (zqI X.K):=by
 intro pins s σ H x y v u Q I rx ry h
 obtain ⟨a,b,xs,ys,rfl,rfl,ha,hb,hx,hz,q1,q2⟩:=h
 cases rx
 cases ry
 obtain ⟨its,r1,p1,_⟩:=I.tuple ha
 obtain ⟨its2,r2,p2,_⟩:=I.tuple hb
 refine HT.zoh p1 p2 (fun z=>hx (r1.nil_iff.mp z)) (fun z=>⟨.ref a,H,I,rfl,q1 (r2.nil_iff.mp z)⟩) (fun z=>?_) (by rw [← r1.length,← r2.length];exact hz)
 refine ⟨.ref s.heap.objs.size,_,I.laid (t':=s.toks) (o:=.tup (xs ++ ys)) (fun b ob q=>Q2 _ q) (Q3 _) ?_,rfl,q2 (fun w=>z (r2.nil_iff.mpr w)) _ (I.hok.fresh (Q3 _))⟩
 exact ⟨by rw [Ql];exact hz,_,r1.append r2,IsTup.new _ _,NoDict.new⟩
end
noncomputable def ixN (n:Nat) (i:Int):Option Nat:=if 0<=i then (if i < n then some i.toNat else none) else if -(n:Int)<=i then some (i + n).toNat else none
noncomputable def atI {α:Type} (xs:List α) (i:Int):Option α:=(ixN xs.length i).bind fun j=>xs[j]?
variable {i:Int} {j n:Nat}
theorem ziE (h:ixN n i = some j):seqIndex? i n = some j/\j < n/\-(n:Int)<=i/\i < n:=by
 unfold ixN at h
 by_cases h0:0<=i
 ·rw [Qw h0] at h
  by_cases h1:i < n
  ·rw [Qw h1] at h
   have e:i.toNat = j:=Qb h
   exact ⟨by rw [seqIndex_of h0 h1,e],by omega,by omega,h1⟩
  ·rw [Qy h1] at h;cases h
 ·rw [Qy h0] at h
  by_cases h1:-(n:Int)<=i
  ·rw [Qw h1] at h
   have e:(i + n).toNat = j:=Qb h
   exact ⟨by rw [seqIndex_neg (by omega) h1,e],by omega,h1,by omega⟩
  ·rw [Qy h1] at h;cases h
theorem zfL {α:Type} {xs:List α} {v:α} (h:atI xs i = some v):∃ j,seqIndex? i xs.length = some j/\xs[j]? = some v/\j < xs.length/\-(xs.length:Int)<=i/\i < xs.length:=by
 unfold atI at h
 cases e:ixN xs.length i with
 | none=>rw [e] at h;cases h
 | some j=>
  rw [e] at h
  obtain ⟨h1,h2,h3,h4⟩:=ziE e
  exact ⟨j,h1,h,h2,h3,h4⟩
theorem zR {α:Type} {xs:List α} {v:α} (h:xs[j]? = some v):atI xs (j:Int) = some v:=by
 have hj:j < xs.length:=(Qx.mp h).1
 have e:ixN xs.length (j:Int) = some j:=by
  unfold ixN
  rw [Qw (by omega),Qw (by omega)];simp
 unfold atI;rw [e];exact h
def zfN (b:Expr):Prop:=∀ o i,subscripted b false o i = operate [o,i] (getItem o i)
def IxR (X:Cx) (r:R2):Prop:=
 ∀ (value slice:Expr) (pins:List (Addr × Obj)) (s:Shared) (σ:St) (H:Hp) (x y:V) (v u:Value) (Q:VK),Inv X pins σ H s->RelV x v->RelV y u->r x y H Q->
  subscripted slice false v u = operate [v,u] (getItem v u)->wpAny (model X.prog X.w) X.A (subscriptTail value slice v u) (EP X pins σ Q) X.xe s
def MtR (X:Cx) (id:String) (r:V->List V->Hp->VK->Prop):Prop:=
 ∀ (pins:List (Addr × Obj)) (s:Shared) (σ:St) (H:Hp) (x:V) (xs:List V) (v:Value) (us:List Value) (Q:VK),Inv X pins σ H s->RelV x v->Vals xs us->r x xs H Q->
  wpAny (model X.prog X.w) X.A (call (.builtin id) (v :: us)) (EP X pins σ Q) X.xe s
variable {H:Hp} {pins:List (Addr × Obj)} {ys:List V} {its its':List Value} {s:Shared} {σ:St} {x y:V} {u:Value}
section
variable {a b:Expr} {ta tb:TE}
theorem IxR.or {r r':R2} (h:IxR X r) (h':IxR X r'):IxR X (fun x y H Q=>r x y H Q\/r' x y H Q):=by
 intro value slice pins s σ H x y v u Q I rx ry q hs
 rcases q with q | q
 ·exact h value slice pins s σ H x y v u Q I rx ry q hs
 ·exact h' value slice pins s σ H x y v u Q I rx ry q hs
theorem zqP {r:R2} (hr:IxR X r) (ha:PE X a ta) (hb:PE X b tb) (hs:zfN b):PE X (.Subscript a b pos) (tOp r ta tb):=by
 intro pins s σ H Q I h
 exact Subscript_ (zmm ha hb I h fun v u s2 x y H2 I2 rx ry q=>hr a b pins s2 σ H2 x y v u Q I2 rx ry q (hs _ _))
noncomputable def zoR (K:Frag):R2:=fun x y H Q=>∃ p xs i v,x = .ref p/\y = .int i/\SqL K H p xs/\atI xs i = some v/\Q v H
noncomputable def zoP (K:Frag):R2:=fun x y H Q=>∃ p xs i v,x = .ref p/\y = .int i/\SqT K H p xs/\atI xs i = some v/\Q v H
noncomputable def zoQ:R2:=fun x y H Q=>∃ z i c,x = .str z/\y = .int i/\z.length<=sizeLine/\atI z.cps.toList i = some c/\Q (.str ⟨#[c]⟩) H
theorem zfC:IxR X (zoR X.K):=by
 intro value slice pins s σ H x y v u Q I rx ry h hs
 obtain ⟨p,xs,i,z,rfl,rfl,hq,he,q⟩:=h
 cases rx
 obtain ⟨t,rfl⟩:=ry
 obtain ⟨its,r,pl,hz⟩:=I.list hq
 obtain ⟨j,h1,h2,h3,h4,h5⟩:=zfL he
 obtain ⟨w,ew,rw'⟩:=r.get h2
 have hl:=r.length
 have hn:=zcQ
 have fin:EP X pins σ Q w s:=⟨z,H,I,rw',q⟩
 by_cases h0:0<=i
 ·have hj:i.toNat = j:=by
   rw [seqIndex_of h0 h5] at h1
   exact Qb h1
  exact item_listR pl.isList h0 (by omega) (by rw [hj];simpa using ew) fin hs
 ·have hj:(i + (its.toArray.size:Int)).toNat = j:=by
   rw [seqIndex_neg (by omega) h4] at h1
   rw [Qg,← hl]
   exact Qb h1
  exact subscriptTail_builtinR (x:=w) pl.isList.typeIs slot_list_getitem.lookup
   (wpAny_getItem_list_neg (Q:=fun r s'=>r = w/\EP X pins σ Q r s') pl.isList (by omega) (by rw [Qg] <;> omega) (by omega) (by rw [hj];simpa using ew) ⟨rfl,fin⟩) hs
theorem zpK:IxR X (zoP X.K):=by
 intro value slice pins s σ H x y v u Q I rx ry h hs
 obtain ⟨p,xs,i,z,rfl,rfl,hq,he,q⟩:=h
 cases rx
 obtain ⟨t,rfl⟩:=ry
 obtain ⟨its,r,pl,hz⟩:=I.tuple hq
 obtain ⟨j,h1,h2,h3,h4,h5⟩:=zfL he
 obtain ⟨w,ew,rw'⟩:=r.get h2
 have hl:=r.length
 have hn:=zcQ
 have fin:EP X pins σ Q w s:=⟨z,H,I,rw',q⟩
 exact subscriptTail_builtinR (x:=w) pl.typeIs slot_tuple_getitem.lookup
  (getItem_tuple (j:=j) (Q:=fun r s'=>r = w/\EP X pins σ Q r s') pl (by omega) (by omega) (by rw [Qg,← hl];exact h1) (by simpa using ew) ⟨rfl,fin⟩) hs
theorem zkn:IxR X zoQ:=by
 intro value slice pins s σ H x y v u Q I rx ry h hs
 obtain ⟨z,i,c,rfl,rfl,hz,he,q⟩:=h
 obtain ⟨t,rfl⟩:=rx
 obtain ⟨t',rfl⟩:=ry
 obtain ⟨j,h1,h2,h3,h4,h5⟩:=zfL he
 have hl:z.cps.toList.length = z.length:=by simp [Str.length]
 rw [hl] at h1 h4 h5
 have hn:=zcQ
 exact tail_any (typeIs_str s z t) slot_str_getitem.lookup (getItem_str (c:=c) (by
  have e1:decide (i < -(2 ^ 63:Int)) = false:=Qv (by omega)
  have e2:decide (i ≥ 2 ^ 63) = false:=Qv (by omega)
  rw [e1,e2,Bool.or_false]) (by rw [h1];simpa using h2) ⟨.str ⟨#[c]⟩,H,I.tok _,⟨_,rfl⟩,q⟩) hs
noncomputable def rIx (K:Frag):R2:=fun x y H Q=>zoR K x y H Q\/zoP K x y H Q\/zoQ x y H Q
theorem zpL:IxR X (rIx X.K):=zfC.or (zpK.or zkn)
theorem zjb (its:List Value) (n j:Nat) (u:Value):Obj.mapSeq (·.setIfInBounds j u) { cls:=.type "list",data:=.seq its.toArray n } = { cls:=.type "list",data:=.seq (its.set j u).toArray n }:=by
 simp [Obj.mapSeq]
theorem Inv.lst {p:Addr} (I:Inv X pins σ H s) (h:H p = some (.lst xs)) :
  ∃ (its:List Value) (n:Nat),Vals xs its/\s.heap.get? p = some { cls:=.type "list",data:=.seq its.toArray n }/\xs.length<=sizeLine:=by
 obtain ⟨z,its,n,r,e⟩:=I.hok p _ h
 exact ⟨its,n,r,e,z⟩
theorem Inv.lstUpd {p:Addr} {n':Nat} {f:Obj->Obj} (I:Inv X pins σ H s) (h:H p = some (.lst xs))
 (ho:s.heap.get? p = some { cls:=.type "list",data:=.seq its.toArray n }) (hf:f { cls:=.type "list",data:=.seq its.toArray n } = { cls:=.type "list",data:=.seq its'.toArray n' }) (r:Vals ys its') (hz:ys.length<=sizeLine) (t:Nat) :
  Inv X pins σ (upd H p (.lst ys)) { s with heap:=s.heap.update p f,toks:=t }:=by
 have e:(s.heap.update p f).get? p = some { cls:=.type "list",data:=.seq its'.toArray n' }:=by
  rw [Heap.get?_update_self f ho (by rw [hf] <;> rfl),hf]
 refine I.write (x:=p) (e:=p) (by rw [h];trivial) (.inl rfl) (fun b u hb q=>(Heap.get?_update_other _ _ (Ne.symm hb)).trans q) ⟨_,e⟩ ?_
 exact ⟨hz,its',n',r,e⟩
noncomputable def zqF:V->V->V->Hp->(Hp->Prop)->Prop:=fun o i v H Q=>∃ p xs k j,o = .ref p/\i = .int k/\H p = some (.lst xs)/\ixN xs.length k = some j/\Q (upd H p (.lst (xs.set j v)))
theorem set_list:zhL X zqF:=by
 intro pins s σ H o i v ov iv u Q I ro ri rv h
 obtain ⟨p,xs,k,j,rfl,rfl,hp,hj,q⟩:=h
 cases ro
 obtain ⟨t,rfl⟩:=ri
 obtain ⟨its,n,r,ho,hz⟩:=I.lst hp
 obtain ⟨h1,h2,h3,h4⟩:=ziE hj
 have hl:=r.length
 have hn:=zcQ
 have I':Inv X pins σ (upd H p (.lst (xs.set j v))) { s with heap:=s.heap.update p (Obj.mapSeq (·.setIfInBounds j u)) }:=
  I.lstUpd hp ho (zjb its n j u) (r.set rv j) (by rw [List.length_set];exact hz) s.toks
 by_cases h0:0<=k
 ·have hk:k.toNat = j:=by
   rw [seqIndex_of h0 h4] at h1
   exact Qb h1
  exact PySem.W.ki_setAt ho h0 (by omega) (by rw [Qg,← hl];exact h4) (by rw [hk];exact ⟨_,I',q⟩)
 ·have hk:(k + (its.toArray.size:Int)).toNat = j:=by
   rw [seqIndex_neg (by omega) h3] at h1
   rw [Qg,← hl]
   exact Qb h1
  exact PySem.W.ki_setBack ho (by omega) (by rw [Qg,← hl];exact h3) (by omega) (by rw [hk];exact ⟨_,I',q⟩)
theorem zgF (lo hi:Option Int) (n:Nat):(sliceBounds lo hi none n).1 = ((HT.sIx n 0 lo:Nat):Int)/\(sliceBounds lo hi none n).2.1 = ((HT.sIx n n hi:Nat):Int)/\(sliceBounds lo hi none n).2.2 = 1:=by
 refine ⟨?_,?_,rfl⟩
 ·cases lo with
  | none=>simp [sliceBounds,HT.sIx]
  | some i=>
   simp only [sliceBounds,HT.sIx,Option.getD_none,show (1:Int) > 0 by decide,if_true]
   by_cases h:i < 0
   ·simp only [h,if_true] <;> omega
   ·simp only [h,if_false] <;> omega
 ·cases hi with
  | none=>simp [sliceBounds,HT.sIx]
  | some i=>
   simp only [sliceBounds,HT.sIx,Option.getD_none,show (1:Int) > 0 by decide,if_true]
   by_cases h:i < 0
   ·simp only [h,if_true] <;> omega
   ·simp only [h,if_false] <;> omega
theorem zga (its:List Value) (lo hi:Option Int):slicePick its.toArray lo hi none = ((its.drop (HT.sIx its.length 0 lo)).take (HT.sIx its.length its.length hi - HT.sIx its.length 0 lo)).toArray:=by
 obtain ⟨h1,h2,h3⟩:=zgF lo hi its.toArray.size
 unfold slicePick
 rw [h1,h2,h3]
 simp only [sliceRange_one,pick_run,Qg] <;> rfl
noncomputable def zrR (K:Frag):V->Option Int->Option Int->Hp->VK->Prop:=fun x lo hi H Q=>∃ a xs,x = .ref a/\SqL K H a xs/\∀ p,H p = none->Q (.ref p) (upd H p (.lst (cutV xs lo hi)))
theorem zm3:SlR X (zrR X.K):=by
 intro pins s σ H x v vl vu lo hi sl Q I rx hs pl pu h
 obtain ⟨a,xs,rfl,hx,q⟩:=h
 cases rx
 obtain ⟨its,r,ht,hz⟩:=I.list hx
 have hlen:=r.length
 refine ⟨"list",_,slot_list_getitem.lookup,ht.isList.typeIs,?_⟩
 refine wpAny_getItem_list_slice ht.isList hs pl pu .none (by simp) ?_ (by rw [Qg] <;> omega)
 rw [zga,← hlen]
 refine ⟨.ref s.heap.objs.size,_,I.laid (t':=s.toks) (o:=.lst (cutV xs lo hi)) (fun b ob q=>Q2 _ q) (Q3 _) ?_,rfl,q _ (I.hok.fresh (Q3 _))⟩
 exact ⟨Qh (zew xs lo hi) hz,_,0,(r.drop (HT.sIx xs.length 0 lo)).take (HT.sIx xs.length xs.length hi - HT.sIx xs.length 0 lo),Qj _ rfl⟩
noncomputable def y6:V->Bool
 | .non=>true
 | .bl _=>true
 | .int _=>true
 | .str _=>true
 | _=>false
noncomputable def eqV:V->V->Bool
 | .non,.non=>true
 | .bl a,.bl b=>a == b
 | .bl a,.int b=>(if a then 1 else 0) == b
 | .int a,.bl b=>a == (if b then 1 else 0)
 | .int a,.int b=>a == b
 | .str a,.str b=>a == b
 | _,_=>false
theorem zhq {A:Around} {v:Value} (ry:RelV y u) (rx:RelV x v) (fy:y6 y = true) (fx:y6 x = true):SeqAt.EqAt A s u v (eqV y x):=by
 cases y with
 | non=>
  cases ry
  cases x with
  | non=>cases rx;exact SeqAt.EqAt.same _
  | bl b=>cases rx;exact SeqAt.EqAt.none_bool b
  | int b=>obtain ⟨t,rfl⟩:=rx;exact SeqAt.EqAt.none_int b t
  | str b=>obtain ⟨t,rfl⟩:=rx;exact SeqAt.EqAt.none_str b t
  | _=>exact absurd (show false = true from fx) Q4
 | bl a=>
  cases ry
  cases x with
  | non=>cases rx;exact SeqAt.EqAt.bool_none a
  | bl b=>cases rx;exact SeqAt.EqAt.bool_bool a b
  | int b=>obtain ⟨t,rfl⟩:=rx;exact SeqAt.EqAt.bool_int a b t
  | str b=>obtain ⟨t,rfl⟩:=rx;exact SeqAt.EqAt.bool_str a b t
  | _=>exact absurd (show false = true from fx) Q4
 | int a=>
  obtain ⟨t',rfl⟩:=ry
  cases x with
  | non=>cases rx;exact SeqAt.EqAt.int_none a t'
  | bl b=>cases rx;exact SeqAt.EqAt.int_bool a t' b
  | int b=>obtain ⟨t,rfl⟩:=rx;exact SeqAt.EqAt.int_int a t' b t
  | str b=>obtain ⟨t,rfl⟩:=rx;exact SeqAt.EqAt.int_str a t' b t
  | _=>exact absurd (show false = true from fx) Q4
 | str a=>
  obtain ⟨t',rfl⟩:=ry
  cases x with
  | non=>cases rx;exact SeqAt.EqAt.str_none a t'
  | bl b=>cases rx;exact SeqAt.EqAt.str_bool a t' b
  | int b=>obtain ⟨t,rfl⟩:=rx;exact SeqAt.EqAt.str_int a t' b t
  | str b=>obtain ⟨t,rfl⟩:=rx;exact SeqAt.EqAt.str_str a t' b t
  | _=>exact absurd (show false = true from fx) Q4
 | _=>exact absurd (show false = true from fy) Q4
noncomputable def eqU (x:V) (u:Value):Bool:=match u with
 | .none=>eqV .non x
 | .bool b=>eqV (.bl b) x
 | .int i _=>eqV (.int i) x
 | .str z _=>eqV (.str z) x
 | _=>false
theorem zkF (r:RelV y u) (f:y6 y = true):eqU x u = eqV y x:=by
 cases y with
 | non=>cases r;rfl
 | bl b=>cases r;rfl
 | int i=>obtain ⟨t,rfl⟩:=r;rfl
 | str z=>obtain ⟨t,rfl⟩:=r;rfl
 | _=>exact absurd (show false = true from f) Q4
theorem zcY {x:V}:∀ {xs:List V} {us:List Value},Vals xs us->xs.all y6 = true->us.any (eqU x) = xs.any fun y=>eqV y x
 | _,_,.nil,_=>rfl
 | y :: xs,u :: us,.cons r t,f=>by
  rw [all_cons,Qq] at f
  rw [any_cons,any_cons,zkF r f.1,zcY t f.2]
theorem zb7 {A:Around} {s:Shared} {x:V} {v:Value} (rx:RelV x v) (fx:y6 x = true):∀ {xs:List V} {us:List Value},Vals xs us->xs.all y6 = true->∀ u ∈ us,SeqAt.EqAt A s u v (eqU x u)
 | _,_,.nil,_=>fun u hu=>by cases hu
 | y :: xs,u :: us,.cons r t,f=>fun u' hu=>by
  rw [all_cons,Qq] at f
  rcases QA.mp hu with rfl | hu
  ·rw [zkF r f.1];exact zhq r rx f.1 fx
  ·exact zb7 rx fx t f.2 u' hu
noncomputable def inV (x:V) (xs:List V):Bool:=xs.any fun y=>eqV y x
noncomputable def rIn (K:Frag) (neg:Bool):R2:=fun x y H Q=>∃ p xs,y = .ref p/\(SqL K H p xs\/SqT K H p xs)/\y6 x = true/\xs.all y6 = true/\Q (.bl (if neg then !inV x xs else inV x xs)) H
theorem zj6:OpR X (compareOp .In) (rIn X.K false):=by
 intro pins s σ H x y v u Q I rx ry h
 obtain ⟨p,xs,rfl,hq,fx,fs,q⟩:=h
 cases ry
 rcases hq with hq | hq
 ·obtain ⟨its,r,pl,hz⟩:=I.list hq
  refine SeqAt.in_listAt (eqU x) pl.isList (fun w hw=>zb7 rx fx r fs w (by simpa using hw)) ⟨.bl _,H,I,rfl,?_⟩
  rw [show its.toArray.any (eqU x) = its.any (eqU x) by simp,zcY r fs]
  exact q
 ·obtain ⟨its,r,pl,hz⟩:=I.tuple hq
  refine SeqAt.in_tupleAt (eqU x) pl (fun w hw=>zb7 rx fx r fs w (by simpa using hw)) ⟨.bl _,H,I,rfl,?_⟩
  rw [show its.toArray.any (eqU x) = its.any (eqU x) by simp,zcY r fs]
  exact q
theorem zgX:OpR X (compareOp .NotIn) (rIn X.K true):=by
 intro pins s σ H x y v u Q I rx ry h
 obtain ⟨p,xs,rfl,hq,fx,fs,q⟩:=h
 cases ry
 rcases hq with hq | hq
 ·obtain ⟨its,r,pl,hz⟩:=I.list hq
  refine SeqAt.notIn_listAt (eqU x) pl.isList (fun w hw=>zb7 rx fx r fs w (by simpa using hw)) ⟨.bl _,H,I,rfl,?_⟩
  rw [show its.toArray.any (eqU x) = its.any (eqU x) by simp,zcY r fs]
  exact q
 ·obtain ⟨its,r,pl,hz⟩:=I.tuple hq
  refine SeqAt.notIn_tupleAt (eqU x) pl (fun w hw=>zb7 rx fx r fs w (by simpa using hw)) ⟨.bl _,H,I,rfl,?_⟩
  rw [show its.toArray.any (eqU x) = its.any (eqU x) by simp,zcY r fs]
  exact q
theorem zhy:CallR X (.builtin "len") (fun xs H Q=>∃ p ys,xs = [.ref p]/\(SqL X.K H p ys\/SqT X.K H p ys)/\Q (.int ys.length) H):=by
 intro pins s σ H xs us Q I r h
 obtain ⟨p,ys,rfl,hq,q⟩:=h
 obtain ⟨u,rfl,rx⟩:=vals1 r
 cases rx
 have hn:=zcQ
 rcases hq with hq | hq
 ·obtain ⟨its,r',pl,hz⟩:=I.list hq
  have hlen:=r'.length
  exact Calls.call_len_list pl.isList (by simp only [Qg] <;> omega) ⟨.int ys.length,H,I.tok _,⟨s.toks + 1,by rw [Qg,hlen]⟩,q⟩
 ·obtain ⟨its,r',pl,hz⟩:=I.tuple hq
  have hlen:=r'.length
  exact len_tuple pl (by simp only [Qg] <;> omega) ⟨.int ys.length,H,I.tok _,⟨s.toks + 1,by rw [Qg,hlen]⟩,q⟩
theorem zhx:CallR X (.builtin "len") (fun xs H Q=>∃ z,xs = [.str z]/\z.length<=sizeLine/\Q (.int z.length) H):=by
 intro pins s σ H xs us Q I r h
 obtain ⟨z,rfl,hz,q⟩:=h
 obtain ⟨u,rfl,t,rfl⟩:=vals1 r
 have hn:=zcQ
 exact len_str (by omega) ⟨.int z.length,H,I.tok _,⟨_,rfl⟩,q⟩
theorem zgc:CallR X (.type "tuple") (fun xs H Q=>∃ p ys,xs = [.ref p]/\((SqL X.K H p ys/\∀ l,H l = none->Q (.ref l) (upd H l (.tup ys)))\/(SqT X.K H p ys/\Q (.ref p) H))):=by
 intro pins s σ H xs us Q I r h
 obtain ⟨p,ys,rfl,h⟩:=h
 obtain ⟨u,rfl,rx⟩:=vals1 r
 cases rx
 rcases h with ⟨hq,q⟩ | ⟨hq,q⟩
 ·obtain ⟨its,r',pl,hz⟩:=I.list hq
  have hlen:=r'.length
  refine call_tuple_list pl.isList (fun h' kp=>?_) (by simp only [Qg] <;> omega)
  have I1:Inv X pins σ H { s with heap:=h' }:=I.kept (t':=s.toks) kp
  have I2:Inv X pins σ (upd H h'.objs.size (.tup ys)) { s with heap:=h'.push { cls:=.type "tuple",data:=.seq its.toArray } }:=
   I1.laid (t':=s.toks) (fun b o e=>Q2 _ e) (Q3 _) (show ObjOk X.prog X.w _ _ _ (.tup ys) from ⟨hz,its,r',IsTup.new _ _,NoDict.new⟩)
  exact ⟨.ref h'.objs.size,_,I2,rfl,q _ (I1.hok.fresh (Q3 _))⟩
 ·obtain ⟨its,r',pl,hz⟩:=I.tuple hq
  exact call_tuple_same pl ⟨.ref p,H,I,rfl,q⟩
def tyV (K:Frag) (T:String) (x:V) (H:Hp):Prop:=match x with
 | .str _=>T = "str"
 | .int _=>T = "int"
 | .ref p=>(T = "list"/\∃ xs,SqL K H p xs)\/(T = "tuple"/\∃ o,K.lookup p = some o/\o.cls = .type "tuple"/\o.dict = none) \/
   (T = "dict"/\((∃ kvs,Rd H p (.dK kvs))\/∃ kvs,H p = some (.dT kvs)))\/(T = "set"/\∃ S n,H p = some (.set S n))
 | _=>False
theorem zjE {pins:List (Addr × Obj)} {σ:St} {H:Hp} {s:Shared} {T:String} {x:V} {v:Value} (I:Inv X pins σ H s) (r:RelV x v) (ty:tyV X.K T x H) :
  s.TypeIs v T/\∀ a,v = .ref a->∃ ob,s.heap.get? a = some ob/\ob.dict = none:=by
 cases x with
 | str z=>
  obtain ⟨t,rfl⟩:=r
  cases (show T = "str" from ty)
  exact ⟨typeIs_str s z t,fun _ e=>nomatch e⟩
 | int i=>
  obtain ⟨t,rfl⟩:=r
  cases (show T = "int" from ty)
  exact ⟨typeIs_int s i t,fun _ e=>nomatch e⟩
 | ref p=>
  cases r
  rcases ty with ⟨rfl,xs,hq⟩ | ⟨rfl,o,hk,hc,hd⟩ | ⟨rfl,hk⟩ | ⟨rfl,S,n,hk⟩
  ·obtain ⟨its,_,pl,_⟩:=I.list hq
   refine ⟨pl.isList.typeIs,fun a e=>?_⟩
   cases e
   obtain ⟨o,n,e,c,hd,_⟩:=pl
   exact ⟨o,e,hd⟩
  ·refine ⟨⟨o,I.kIn p o hk,hc⟩,fun a e=>?_⟩
   cases e
   exact ⟨o,I.kIn _ o hk,hd⟩
  ·have z:∃ o,s.heap.get? p = some o/\o.ExactDict:=by
    rcases hk with ⟨kvs,hk⟩ | ⟨kvs,hk⟩
    ·obtain ⟨_,_,_,_,o,_,_,e,ex,_⟩:=(show ObjOk X.prog X.w H s.heap p (.dK kvs) from hk.ok I.hok)
     exact ⟨o,e,ex⟩
    ·obtain ⟨_,_,_,_,o,_,_,e,ex,_⟩:=I.hok p _ hk
     exact ⟨o,e,ex⟩
   obtain ⟨o,e,ex⟩:=z
   refine ⟨⟨o,e,ex.1⟩,fun a e2=>?_⟩
   cases e2
   exact ⟨o,e,ex.2.1⟩
  ·obtain ⟨o,_,_,_,e,ex,_⟩:=I.hok p _ hk
   refine ⟨⟨o,e,ex.1⟩,fun a e2=>?_⟩
   cases e2
   exact ⟨o,e,ex.2.1⟩
 | _=>exact False.elim ty
noncomputable def zry (K:Frag) (T:String) (r:V->List V->Hp->VK->Prop) (to:TE):TE:=fun σ H Q=>to σ H fun x H1=>tyV K T x H1/\r x [] H1 Q
noncomputable def tBM (K:Frag) (T:String) (r:V->List V->Hp->VK->Prop) (to:TE) (t:TA):TE:=fun σ H Q=>to σ H fun x H1=>tyV K T x H1/\t σ H1 fun xs H2=>r x xs H2 Q
variable {o:Expr} {es:List Expr} {to:TE} {t:TA} {name:Str} {apos cpos:Pos} {T id:String} {r:V->List V->Hp->VK->Prop}
theorem zph (pa:PlainAttrs T) (slot:Slot T name id) (hty:typeOf (.builtin id) = pure (.type "method_descriptor")) (hm:MtR X id r) (ho:PE X o to)
  (hbase:attributeBase o name X.env (eval o X.env) = eval o X.env:=by rfl) (hline:(apos.endLine == cpos.line) = true:=by rfl):PE X (.Call (.Attribute o name apos) [] [] cpos) (zry X.K T r to):=by
 intro pins s σ H Q I h
 refine wpAny_Call_method0_late hbase hline (thn (ho pins s σ H _ I h) fun v s1 ⟨x,H1,I1,r1,ty,q1⟩=>?_)
 obtain ⟨h1,h2⟩:=zjE I1 r1 ty
 exact ⟨T,id,pa,slot,hty,h1,h2,Calls.callWith_builtin rfl (PySem.evalArgs_none (hm pins s1 σ H1 x [] v [] Q I1 r1 .nil q1))⟩
theorem zU (pa:PlainAttrs T) (slot:Slot T name id) (hty:typeOf (.builtin id) = pure (.type "method_descriptor")) (hm:MtR X id r) (ho:PE X o to) (ha:PA X (e :: es) t)
  (hbase:attributeBase o name X.env (eval o X.env) = eval o X.env:=by rfl)
  (hfew:((backTo cpos (starEach (e :: es) X.env)).all (fun x=>!x.1) && (backToKw cpos (keywordEach [] X.env)).all (fun x=>x.1.isSome)
   && decide ((e :: es).length + ([]:List Keyword).length + (if ([]:List Keyword).isEmpty then 0 else 1) < 30)) = true:=by rfl)
  (hline:(apos.endLine == cpos.line) = true:=by rfl) (hs:starEach (e :: es) X.env = (false,eval e X.env) :: starEach es X.env:=by rfl) (hplain:(backTo cpos (starEach es X.env)).any (·.1) = false:=by rfl) :
  PE X (.Call (.Attribute o name apos) (e :: es) [] cpos) (tBM X.K T r to t):=by
 intro pins s σ H Q I h
 refine wpAny_Call_method_late hbase hfew hline rfl (thn (ho pins s σ H _ I h) fun v s1 ⟨x,H1,I1,r1,ty,q1⟩=>?_)
 obtain ⟨h1,h2⟩:=zjE I1 r1 ty
 refine ⟨T,id,pa,slot,hty,h1,h2,?_⟩
 have hA:=ha cpos pins s1 σ H1 _ I1 q1
 rw [hs] at hA ⊢
 refine Calls.callWith_builtin (by show (false || (backTo cpos (starEach es X.env)).any (·.1)) = false;rw [hplain] <;> rfl) (Calls.evalArgs_plain ?_)
 exact thn hA fun us s2 ⟨vs,H2,I2,r2,q2⟩=>hm pins s2 σ H2 x vs v us Q I2 r1 r2 q2
end
def MtM (X:Cx) (id:String) (r:V->List V->Hp->VK->Prop):Prop:=
 ∀ (pins:List (Addr × Obj)) (s:Shared) (σ:St) (H:Hp) (x:V) (xs:List V) (v:Value) (us:List Value) (Q:VK),Inv X pins σ H s->RelV x v->Vals xs us->r x xs H Q->
  wpAny (model X.prog X.w) X.A (call (.builtin id) (v :: us)) (EP X pins σ Q) X.xe s
theorem Vals.one:∀ {x:V} {us:List Value},Vals [x] us->∃ u,us = [u]/\RelV x u
 | _,_,.cons r .nil=>⟨_,rfl,r⟩
theorem Vals.two:∀ {x y:V} {us:List Value},Vals [x,y] us->∃ u v,us = [u,v]/\RelV x u/\RelV y v
 | _,_,_,.cons r (.cons q .nil)=>⟨_,_,rfl,r,q⟩
theorem Vals.zero:∀ {us:List Value},Vals [] us->us = []
 | _,.nil=>rfl
theorem Vals.eraseIdx:∀ {xs:List V} {us:List Value} (i:Nat),Vals xs us->Vals (xs.eraseIdx i) (us.eraseIdx i)
 | _,_,_,.nil=>.nil
 | _,_,0,.cons _ t=>t
 | _,_,i + 1,.cons r t=>.cons r (Vals.eraseIdx i t)
theorem Vals.rep {xs:List V} {us:List Value} (h:Vals xs us):∀ k:Nat,Vals (List.replicate k xs).flatten (List.replicate k us).flatten
 | 0=>.nil
 | k + 1=>by
  rw [replicate_succ,replicate_succ,flatten_cons,flatten_cons]
  exact Vals.append h (Vals.rep h k)
theorem foldl_rep (its:List Value):∀ (k:Nat) (acc:List Value),
  List.foldl (fun x1 x2=>x1 ++ x2) acc.toArray (List.replicate k its.toArray) = (acc ++ (List.replicate k its).flatten).toArray
 | 0,acc=>by simp
 | k + 1,acc=>by
  have e:acc.toArray ++ its.toArray = (acc ++ its).toArray:=by simp
  have e2:(acc ++ its) ++ (List.replicate k its).flatten = acc ++ (List.replicate (k + 1) its).flatten:=by
   rw [replicate_succ,flatten_cons,append_assoc]
  rw [← e2,← foldl_rep its k (acc ++ its),← e,replicate_succ,foldl_cons]
variable {t':Nat}
section
variable {l b:Addr} {zs:List V}
theorem Inv.lset {f:Array Value->Array Value} {t':Nat} (I:Inv X pins σ H s) (hH:H l = some (.lst xs))
 (e:s.heap.get? l = some { cls:=.type "list",data:=.seq its.toArray n }) (hf:f its.toArray = its'.toArray) (hv:Vals ys its') (hz:ys.length<=sizeLine) :
  Inv X pins σ (upd H l (.lst ys)) { s with heap:=s.heap.update l (Obj.mapSeq f),toks:=t' }:=by
 have q:=PySem.IsL.update e f
 rw [hf] at q
 refine I.write (x:=l) (e:=l) (by rw [hH];exact trivial) (.inl rfl) (fun b' u hb hu=>(Heap.get?_update_other s.heap (Obj.mapSeq f) (Ne.symm hb)).trans hu) ⟨_,q⟩ ?_
 exact ⟨hz,its',_,hv,q⟩
theorem Inv.lnew {t':Nat} (I:Inv X pins σ H s) (hv:Vals ys its) (hz:ys.length<=sizeLine) :
  Inv X pins σ (upd H s.heap.objs.size (.lst ys)) { s with heap:=s.heap.push { cls:=.type "list",data:=.seq its.toArray },toks:=t' }:=
 I.laid (fun _ _ q=>Q2 _ q) (Q3 _) ⟨hz,its,0,hv,Qj _ rfl⟩
theorem Inv.fresh (I:Inv X pins σ H s):H s.heap.objs.size = none:=I.hok.fresh (Q3 _)
theorem Inv.lstM (I:Inv X pins σ H s) (hH:H l = some (.lst xs)):xs.length<=sizeLine/\∃ (its:List Value) (n:Nat),Vals xs its/\xs.length = its.length/\s.heap.get? l = some { cls:=.type "list",data:=.seq its.toArray n }:=by
 obtain ⟨z,its,n,r,e⟩:=I.hok l _ hH
 exact ⟨z,its,n,r,r.length,e⟩
theorem zlF (h:n<=sizeLine):Builtin.List.listTooLong n = false:=by
 unfold Builtin.List.listTooLong
 exact Qv (by omega)
end
section
noncomputable def zfw:V->List V->Hp->VK->Prop:=fun x vs H Q=>∃ l xs y,x = .ref l/\vs = [y]/\H l = some (.lst xs)/\xs.length < sizeLine/\Q .non (upd H l (.lst (xs ++ [y])))
theorem zL:MtM X "list.append" zfw:=by
 intro pins s σ H x vs v us Q I rx rv h
 obtain ⟨l,xs,y,rfl,rfl,hH,hz,q⟩:=h
 cases rx
 obtain ⟨u,rfl,ru⟩:=rv.one
 obtain ⟨z,its,n,r,hl,e⟩:=I.lstM hH
 refine call_meets F.slot_list_append ⟨_,e,rfl⟩ F.entry_list_append (F.args_list_append_2 _ _) (PySem.list_append l its.toArray n u (by rw [Qg];omega)) ⟨e,?_⟩
 refine ⟨.non,_,I.lset (its':=its ++ [u]) hH e (by simp) (r.append (.cons ru .nil)) ?_,rfl,q⟩
 rw [Ql,Qs]
 omega
theorem len_rep {α:Type} (xs:List α) (k:Nat):(List.replicate k xs).flatten.length = k * xs.length:=by
 induction k with
 | zero=>simp
 | succ k ih=>rw [replicate_succ,flatten_cons,Ql,ih,Nat.succ_mul,Nat.add_comm]
end
end L2
namespace Att
open PySem PySem.W PySem.Calls PyProof.Rows
variable {h:Heap} {P:Params}
theorem ze6:∀ (ns:List Int) (vs:List Value),WellAll P h vs (ns.map WData.int)->IntsAre vs ns:=by
 intro ns
 induction ns with
 | nil=>
  intro vs w
  rw [map_nil] at w
  cases w
  exact .nil
 | cons n ns ih=>
  intro vs w
  rw [QF] at w
  cases w with
  | cons a b=>
   cases a
   exact .cons _ _ (ih _ b)
variable {n:Nat} {l:OpenLaw}
theorem zjQ (hn:l.most = some n) {args:List WData} {vals:List Value}
 (hpre:l.row.toRowW.claim.pre args = true) (hwl:WellAll P h vals args) :
  ∃ a vs ns,vals = [Value.ref a]/\args = [WData.list (ns.map WData.int)]/\h.get? a = some { cls:=.type "list",data:=.seq vs.toArray }/\IntsAre vs ns/\ns.length<=n:=by
 have hsh:WShape.hasAll [] args [.list .int] = true:=(pre_splitW hpre).1
 have hc:l.pre.holds [] { args:=args } = true:=(pre_splitW hpre).2
 obtain ⟨d,r,rfl,h1,h2⟩:=hasAllW_cons hsh
 obtain rfl:=hasAllW_nil h2
 obtain ⟨xs,rfl,h3⟩:=hasW_list h1
 obtain ⟨ns,rfl⟩:=items_int h3
 have hlen:ns.length<=n:=by
  unfold OpenLaw.pre at hc
  have h4:(WTm.not (.lt (.lit (.int (n:Int))) (.len (.arg 0)))).holds [] { args:=[.list (ns.map .int)] } = true:=by
   have h4:=(holds_andW hc).1
   rw [hn] at h4
   exact h4
  have h5:=condW_of h4 (w_not (w_lt w_lit (w_len_list (w_arg rfl))))
  rw [Qf] at h5
  refine Nat.le_of_not_lt fun q=>?_
  have q':(n:Int) < ((ns.length:Nat):Int):=by omega
  first
   | (rw [Qu q'] at h5;exact absurd h5 (by decide))
   | (simp at h5;omega)
 cases hwl with
 | cons w1 w2=>
  cases w2
  cases w1 with
  | list ho hall=>exact ⟨_,_,ns,rfl,rfl,ho,ze6 ns _ hall,hlen⟩
theorem zjZ (l:OpenLaw) (args:List WData):l.row.toRowW.claim.post args (.bool true) args = true:=
 postW_of (r:=l.row.toRowW) (X:=(true == true))
  (show WShape.has [] (.bool true) .bool = true by first | rfl | decide | simp [WShape.has,WShape.arms,WShape.armsAll])
  (show (WTm.eq .res (.lit (.bool true))).value [] { args:=args,res:=some (.bool true),after:=args } = some (.bool (true == true)) from w_eq_bool (w_res rfl) w_lit) rfl
theorem zh1 {q:Program} {loose:List Str} {XP:(Str->Option Value)->Heap->Prop} {YP:World->Heap->Prop} {d:DefRec}
 (hn:l.most = some n) (hdf:d.params.defaults = [])
 (call:∀ (w:World) (s₀ s₁:Shared) (mg mb:Str->Option Value) (fa:Addr) (o:Obj) (pm cd doc:Value) (a:Addr) (vs:List Value) (ns:List Int),
 Ground q loose [] XP w s₀ mg mb s₁.heap->YP w s₁.heap->
 s₁.heap.get? fa = some o->o.data = .func (docDef d.name d.params d.body d.scope pm cd doc)->s₁.heap.CodeRec cd d.name->mg d.name = some (.ref fa)->
 s₁.heap.get? a = some { cls:=.type "list",data:=.seq vs.toArray }->IntsAre vs ns->ns.length<=n->s₁.gens = #[]->
 codeAny (model l.prog w) callerA (.call (.ref fa) ⟨[.ref a],[]⟩) (fun r s'=>r = .ok (.ret (.bool true))/\OldK s₁.heap s'.heap/\s'.os = s₁.os/\AllBare s'.gens) s₁) :
  WalkO q loose XP YP l.row.toRowW d [] (fun f vs=>PySem.call f vs):=by
 intro w s₀ s₁ mg mb G Y fa o pm cd doc dV kV ho hd hcd hD hmg hg args vals as hpre hlay hrd hwl hlo
 obtain rfl:dV = .none:=Dflts.none hD hdf
 obtain rfl:kV = .none:=Dflts.noKw hD
 obtain ⟨a,vs,ns,rfl,rfl,hobj,hints,hlen⟩:=zjQ hn hpre hwl
 refine enter_call (codeAny_mono (call w s₀ s₁ mg mb fa o pm cd doc a vs ns G Y ho (fd_plain hd) hcd hmg hobj hints hlen hg) fun r s' hq=>?_)
 obtain ⟨rfl,h2,h3,h4⟩:=hq
 exact ⟨.inl ⟨.bool true,.bool true,[],rfl,fun _=>rfl,.bool true,zjZ l _,fun _=>⟨List.Pairwise.nil,fun _ hm=>(nomatch hm)⟩⟩,h2,h3,h4⟩
end Att
namespace L2
open PySem PySem.Spec PyProof.Rows
theorem zfS:∀ {vs:List Value} {ns:List Int},IntsAre vs ns->Vals (ns.map V.int) vs
 | _,_,.nil=>.nil
 | _,_,.cons n t h=>.cons ⟨t,rfl⟩ (zfS h)
def zjy (H:Hp):Prop:=∀ b,H b = none\/∃ o xs,H b = some (.frz o (.lst xs))
variable {CX:CXT} {fd:FuncData} {k:Nat} {P:Program} {sp:Sp} {x:Str} {mg:Str->Option Value} {w:World}
theorem zlQ {K:Frag} {mb:Str->Option Value} {fa a:Addr} {s₁:Shared} {vs:List Value} {ns:List Int}
 (KX:K.In s₁.heap) (hns:s₁.heap.Ns mainGlobals mg) (hb:s₁.heap.Ns builtinsNs mb) (hbb:∀ x:Str,x ≠ "__name__"->mb x = bootBuiltins x) (hlim:s₁.heap.NoLimit) (hg:s₁.gens = #[])
 (ha:s₁.heap.get? a = some { cls:=.type "list",data:=.seq vs.toArray }) (hi:IntsAre vs ns) (hl:ns.length<=sizeLine) (hr:Room k callerA)
 (F:∀ base:Heap,K.In base->base.Ns mainGlobals mg->FnOk P w K mg base CX k fa fd [x] sp) (hbind:∀ (s:Shared) (u:Value),BindsTo s fd ⟨[u],[]⟩ [(x,u)])
 (hsp:∀ H:Hp,zjy H->SqL K H a (ns.map V.int)->sp [.ref a] H (fun v _=>v = .bl true) fun _ _ _=>False)
 (hCX:∀ H e s',CX [] H s₁ (fun _ _ _=>False) e s'->False) :
  codeAny (model P w) callerA (.call (.ref fa) ⟨[.ref a],[]⟩) (fun r s'=>r = .ok (.ret (.bool true))/\OldK s₁.heap s'.heap/\s'.os = s₁.os/\AllBare s'.gens) s₁:=by
 have rv:=zfS hi
 have lenV:=hi.length
 -- from an abstract heap in which nothing but the script may be tracked
 have core:∀ H:Hp,zjy H->SqL K H a (ns.map V.int)->HOk P w H s₁.heap->(∀ b,H b ≠ none->b = a)->(H a ≠ none->K.lookup a = none)->
   codeAny (model P w) callerA (.call (.ref fa) ⟨[.ref a],[]⟩) (fun r s'=>r = .ok (.ret (.bool true))/\OldK s₁.heap s'.heap/\s'.os = s₁.os/\AllBare s'.gens) s₁:=by
  intro H hO hS hok hA hK
  have base_of:∀ {b:Addr} {o:Obj},s₁.heap.get? b = some o->H b = none->(zdm s₁.heap H).get? b = some o:=fun e n=>zlZ e n
  have noA:∀ {b:Addr} {o:Obj} {es:Array DictEntry} {ep:Nat},s₁.heap.get? b = some o->o.data = .dict es ep->H b = none:=fun {b o es ep} e d=>by
   cases q:H b with
   | none=>rfl
   | some u=>
    have e':b = a:=hA b (by rw [q];simp)
    subst e'
    rw [ha] at e;cases e
    have d':Data.seq vs.toArray _ = Data.dict es ep:=d
    cases d'
  have nsK:∀ {b:Addr} {m:Str->Option Value},s₁.heap.Ns b m->(zdm s₁.heap H).Ns b m:=fun {b m} ⟨o,es,ep,e,d,r⟩=>⟨o,es,ep,base_of e (noA e d),d,r⟩
  have hKb:K.In (zdm s₁.heap H):=fun b o e=>base_of (KX b o e) (by
   cases q:H b with
   | none=>rfl
   | some u=>
    have e':b = a:=hA b (by rw [q];simp)
    subst e'
    rw [hK (by rw [q];simp)] at e;cases e)
  have hM:Mod K mg (zdm s₁.heap H):=⟨hKb,nsK hns,⟨mb,nsK hb,hbb⟩,let ⟨mc,h1,h2⟩:=hlim;⟨mc,nsK h1,h2⟩⟩
  have e0:Env0 P w K mg (zdm s₁.heap H) callerA [] s₁ H:=⟨rfl,hM,fun b o e=>znB e,Nat.le_of_eq (zkt _ _),trivial,fun b hb=>absurd (show b ∈ ([]:List Addr) from hb) (by simp),hok,.of_eq hg⟩
  refine codeAny_mono ((F _ hKb (nsK hns)).run callerA [] s₁ H ⟨[.ref a],[]⟩ [.ref a] [.ref a] _ _ hr e0 (hbind s₁ (.ref a)) (.cons rfl .nil) (hsp H hO hS)) fun r s' h=>?_
  cases r with
  | error e=>exact (hCX H e s' h).elim
  | ok fl=>
   cases fl with
   | next=>exact False.elim h
   | brk=>exact False.elim h
   | cont=>exact False.elim h
   | ret u=>
    obtain ⟨v,H',os,bare,un,hok',r',q⟩:=h
    have q':v = .bl true:=q
    subst q'
    obtain rfl:u = Value.bool true:=r'
    refine ⟨rfl,OldK.of_keep fun b o e=>?_,os,bare⟩
    cases q:H b with
    | none=>exact un.keep b o e q (by intro z;exact absurd (show b ∈ ([]:List Addr) from z) (by simp)) (by simp)
    | some u=>
     rcases hO b with z | ⟨ob,xs,z⟩
     ·rw [q] at z;cases z
     ·have z2:=un.frzs b ob _ z
      obtain ⟨e1,_⟩:=hok b _ z
      obtain ⟨e2,_⟩:=hok' b _ z2
      rw [e] at e1;cases e1
      exact e2
 cases hk:K.lookup a with
 | some o=>
  -- the script is one of the module's own objects
  have e:=KX a o hk
  rw [ha] at e
  cases e
  refine core (fun _=>none) (fun _=>.inl rfl) (.inr ⟨_,vs.toArray,_,hk,rfl,rfl,rfl,by rw [Qg,lenV];exact hl,by simpa using rv⟩) (fun b u z=>by have z':(none:Option HO) = some u:=z;cases z') (fun b z=>absurd rfl z) fun z=>absurd rfl z
 | none=>
  refine core (fun b=>if b = a then some (.frz { cls:=.type "list",data:=.seq vs.toArray } (.lst (ns.map V.int))) else none) (fun b=>?_) (.inl (.inr ⟨{ cls:=.type "list",data:=.seq vs.toArray },Qw rfl⟩)) (fun b u z=>?_) (fun b z=>?_) fun _=>hk
  ·by_cases hb:b = a
   ·exact .inr ⟨_,_,Qw hb⟩
   ·exact .inl (Qy hb)
  ·by_cases hb:b = a
   ·have z':=(Qw hb).symm.trans z
    cases z'
    subst hb
    exact ⟨ha,by rw [Qf];exact hl,vs,_,rv,ha⟩
   ·have z':=(Qy hb).symm.trans z
    cases z'
  ·by_cases hb:b = a
   ·exact hb
   ·exact absurd (Qy hb) z
noncomputable abbrev KOf {K:Frag} {h:Heap} (_:K.In h):Frag:=K
variable {XP:(Str->Option Value)->Heap->Prop} {d:DefRec} {loose:List Str} {n:Nat} {q:Program} {l:PySem.W.OpenLaw} {YP:World->Heap->Prop}
theorem zmQ {K:Params->Frag} {CX:World->CXT} {sp:World->Sp} 
 (hn:l.most = some n) (hn2:n<=sizeLine) (hdf:d.params.defaults = []) (hr:Room k callerA)
 (hY:∀ (w:World) (h:Heap),YP w h->(K w.params).In h)
 (F:∀ (w:World) (mg:Str->Option Value) (fa:Addr) (h:Heap),(K w.params).In h->h.Ns mainGlobals mg->mg d.name = some (.ref fa)->
 ∃ fd:FuncData,(∀ (s:Shared) (u:Value),BindsTo s fd ⟨[u],[]⟩ [(x,u)]) /\
 ∀ base:Heap,(K w.params).In base->base.Ns mainGlobals mg->FnOk l.prog w (K w.params) mg base (CX w) k fa fd [x] (sp w))
 (hsp:∀ (w:World) (H:Hp) (a:Addr) (ns:List Int),ns.length<=n->zjy H->SqL (K w.params) H a (ns.map V.int)->sp w [.ref a] H (fun v _=>v = .bl true) fun _ _ _=>False)
 (hCX:∀ (w:World) (H:Hp) (s:Shared) (e:Value) (s':Shared),CX w [] H s (fun _ _ _=>False) e s'->False) :
  PySem.W.WalkO q loose XP YP l.row.toRowW d [] (fun f vs=>PySem.call f vs):=by
 refine Att.zh1 hn hdf fun w s₀ s₁ mg mb fa o pm cd doc a vs ns G Y ho hd hcd hmg hobj hints hlen hg=>?_
 have KX:=hY w _ Y
 obtain ⟨fd,hb,hF⟩:=F w mg fa _ KX G.T.g hmg
 exact zlQ KX G.T.g G.T.b G.T.builtins G.T.nolimit hg hobj hints (Qh hlen hn2) hr hF hb (fun H hO hS=>hsp w H a ns hlen hO hS) fun H e s'=>hCX w H s₁ e s'
theorem zk5 {K:Params->Frag} {sp:Frag->Sp} 
 (hn:l.most = some n) (hn2:n<=sizeLine) (hdf:d.params.defaults = []) (hr:Room k callerA)
 (hY:∀ (w:World) (h:Heap),YP w h->(K w.params).In h)
 (F:∀ (w:World) (mg:Str->Option Value) (fa:Addr) (h:Heap),(K w.params).In h->h.Ns mainGlobals mg->mg d.name = some (.ref fa)->
 ∃ fd:FuncData,(∀ (s:Shared) (u:Value),BindsTo s fd ⟨[u],[]⟩ [(x,u)]) /\
 ∀ base:Heap,(K w.params).In base->base.Ns mainGlobals mg->FnOk l.prog w (K w.params) mg base CX k fa fd [x] (sp (K w.params)))
 (hsp:∀ (K:Frag) (H:Hp) (a:Addr) (ns:List Int),ns.length<=n->zjy H->SqL K H a (ns.map V.int)->sp K [.ref a] H (fun v _=>v = .bl true) fun _ _ _=>False)
 (hCX:∀ (H:Hp) (s:Shared) (e:Value) (s':Shared),CX [] H s (fun _ _ _=>False) e s'->False) :
  PySem.W.WalkO q loose XP YP l.row.toRowW d [] (fun f vs=>PySem.call f vs):=
 zmQ (K:=K) (CX:=fun _=>CX) (sp:=fun w=>sp (K w.params)) hn hn2 hdf hr hY F (fun w H a ns h1 h2 h3=>hsp (K w.params) H a ns h1 h2 h3) fun _ H s e s'=>hCX H s e s'
noncomputable def za3 (s:Stmt):Arguments:=match s with
 | .FunctionDef _ a _ _ _ _ _ _ _ _=>a
 | _=>{ posonlyargs:=[],args:=[],vararg:=none,kwonlyargs:=[],kw_defaults:=[],kwarg:=none,defaults:=[] }
noncomputable def yI (s:Stmt):List Stmt:=match s with
 | .FunctionDef _ _ b _ _ _ _ _ _ _=>b
 | _=>[]
noncomputable def zf (s:Stmt):Scope:=match s with
 | .FunctionDef _ _ _ _ _ _ sc _ _ _=>sc
 | _=>{ kind:=.function,names:=[],isGenerator:=false,isCoroutine:=false }
noncomputable abbrev CX0:CXT:=fun _ _ _ _ _ _=>False
noncomputable abbrev E0:XK:=fun _ _ _=>False
variable {X:Cx}
theorem zqR:Passes CX0 X E0:=fun _ _ _ _ _ _ _ h=>h.elim
structure Fun (K:Frag) (x qual:Str) (st:Stmt) (f:Addr) (fd:FuncData):Prop where
 ex:∃ (oc:Value) (od:Option Addr) (kV doc pm:Value) (an:Option Addr) (cdv ct:Value) (osl:Array (Option Value)),
  fd = PySem.W.fnOf x qual (za3 st) (yI st) (zf st) .none kV doc pm an cdv ct/\K.lookup f = some ⟨oc,od,.func fd,osl⟩/\PySem.W.codeIn K cdv qual = true
 kp:PySem.W.keepIn K (.ref f) = true
variable {f:Addr} {ps:List Str} {st:Stmt} {qual:Str}
section
variable {K:Frag} {base:Heap}
theorem Fun.ok {N:List Str} (F:Fun K x qual st f fd) (S:FnScope N ps (zf st)) (len:∀ vs H Q E,sp vs H Q E->vs.length = ps.length)
 (hbody:∀ (cdv:Value) (A:Around) (outer:List Env) (s:Shared) (H:Hp) (vs:List V) (Q:VK) (E:XK),Room k (A.deeper (envOfC qual (zf st) s.heap.objs.size f cdv))->sp vs H Q E->
 ∃ t,PSs (zbr CX0 P w K mg base N qual (zf st) f cdv A outer s H E).nox (yI st) t/\t { nx:=fun _ H'=>Q .non H',rt:=Q } (start N vs) H):FnOk P w K mg base CX0 (k + 1) f fd ps sp:=by
 obtain ⟨oc,od,kV,doc,pm,an,cdv,ct,osl,rfl,lk,hcd⟩:=F.ex
 refine zmI lk hcd S len fun A outer s H vs Q E hr hsp=>?_
 obtain ⟨t,h,q⟩:=hbody cdv A outer s H vs Q E hr hsp
 exact ⟨t,h.nox,q⟩
theorem Fun.binds (F:Fun K x qual st f fd)
 (h:∀ (kV doc pm:Value) (an:Option Addr) (cdv ct:Value) (us:List Value),us.length = ps.length->bindArgs (PySem.W.fnOf x qual (za3 st) (yI st) (zf st) .none kV doc pm an cdv ct) ⟨us,[]⟩ = pure (ps.zip us)):Binds K fd ps []:=by
 obtain ⟨oc,od,kV,doc,pm,an,cdv,ct,osl,rfl,lk,hcd⟩:=F.ex
 exact .all (h kV doc pm an cdv ct)
theorem zkC {oc:Value} {od an:Option Addr} {osl:Array (Option Value)} {kV doc pm cdv ct:Value} (l:K.lookup f = some ⟨oc,od,.func (PySem.W.fnOf x qual (za3 st) (yI st) (zf st) .none kV doc pm an cdv ct),osl⟩)
 (c:PySem.W.codeIn K cdv qual = true) (k:PySem.W.keepIn K (.ref f) = true):Fun K x qual st f (PySem.W.fnOf x qual (za3 st) (yI st) (zf st) .none kV doc pm an cdv ct):=⟨⟨oc,od,kV,doc,pm,an,cdv,ct,osl,rfl,l,c⟩,k⟩
end
section
theorem pv (i:Nat) {pos:Pos} (hN:X.N[i]? = some x:=by rfl) (hv:Vis X.env.scope x:=by first | exact Or.inl rfl | exact Or.inr (Or.inl rfl) | exact Or.inr (Or.inr rfl)) (hd:(x == ("__debug__":Str)) = false:=by decide)
 (hcd:(x == ("__classdict__":Str)) = false:=by decide):PE X (.Name x pos) (zgw i):=zo7 hN hv hd hcd
end
end L2
set_option maxHeartbeats 4000000
namespace L2
open PySem PySem.Spec PyProof.Rows
variable {o:Option V} {y:V} {u:Value}
section
variable {κ:Type} [DecidableEq κ]
noncomputable def zag (kvs:List (κ × V)) (k:κ):Option V:=(kvs.find? fun kv=>decide (kv.1 = k)).map (·.2)
noncomputable def putK (kvs:List (κ × V)) (k:κ) (v:V):List (κ × V):=
 if (kvs.any fun kv=>decide (kv.1 = k)) = true then kvs.map (fun kv=>if kv.1 = k then (kv.1,v) else kv) else kvs ++ [(k,v)]
noncomputable def zs1 (kvs:List (κ × V)) (k:κ):List (κ × V):=kvs.filter fun kv=>decide (kv.1 ≠ k)
theorem zez {p:κ × V} {r:List (κ × V)} {k:κ} (e:p.1 = k):zag (p :: r) k = some p.2:=by simp [zag,find?_cons,e]
theorem zeA {p:κ × V} {r:List (κ × V)} {k:κ} (e:¬ p.1 = k):zag (p :: r) k = zag r k:=by simp [zag,find?_cons,e]
theorem zk6 (k:κ):∀ kvs:List (κ × V),(kvs.any fun kv=>decide (kv.1 = k)) = (zag kvs k).isSome
 | []=>rfl
 | p :: r=>by
  rw [any_cons]
  by_cases e:p.1 = k
  ·simp only [zez e,Qu e,Bool.true_or,Option.isSome_some]
  ·rw [zeA e,Qv e,Bool.false_or];exact zk6 k r
theorem RelO.isSome_eq {u:Option Value} (r:RelO o u):o.isSome = u.isSome:=by
 cases o with
 | none=>cases u with
  | none=>rfl
  | some _=>exact (show False from r).elim
 | some _=>cases u with
  | none=>exact (show False from r).elim
  | some _=>rfl
theorem KV.val {kvs:List (κ × V)} {vs:List (κ × Value)} (r:KV kvs vs) (k:κ):RelO (zag kvs k) (valueAt vs k):=by
 unfold KV at r
 induction r with
 | nil=>exact True.intro
 | @cons p q ps qs h t ih=>
  obtain ⟨h1,h2⟩:=h
  by_cases e:p.1 = k
  ·have e':q.1 = k:=h1.symm.trans e
   have b:valueAt (q :: qs) k = some q.2:=by simp [valueAt,find?_cons,e']
   rw [zez e,b];exact h2
  ·have e':¬ q.1 = k:=fun z=>e (h1.trans z)
   have b:valueAt (q :: qs) k = valueAt qs k:=by simp [valueAt,find?_cons,e']
   rw [zeA e,b];exact ih
theorem KV.any {kvs:List (κ × V)} {vs:List (κ × Value)} (r:KV kvs vs) (k:κ):(kvs.any fun kv=>decide (kv.1 = k)) = vs.any fun kv=>decide (kv.1 = k):=by
 unfold KV at r
 induction r with
 | nil=>rfl
 | cons h t ih=>rw [any_cons,any_cons,ih,h.1]
theorem KV.repl {kvs:List (κ × V)} {vs:List (κ × Value)} (r:KV kvs vs) (k:κ) (ry:RelV y u) :
  KV (kvs.map fun kv=>if kv.1 = k then (kv.1,y) else kv) (vs.map fun kv=>if kv.1 = k then (kv.1,u) else kv):=by
 unfold KV at r ⊢
 induction r with
 | nil=>exact .nil
 | @cons p q ps qs h t ih=>
  rw [QF,QF]
  refine .cons ?_ ih
  obtain ⟨h1,h2⟩:=h
  by_cases e:p.1 = k
  ·rw [Qw e,Qw (h1.symm.trans e)];exact ⟨h1,ry⟩
  ·rw [Qy e,Qy (fun z=>e (h1.trans z))];exact ⟨h1,h2⟩
theorem KV.put {kvs:List (κ × V)} {vs:List (κ × Value)} (r:KV kvs vs) (k:κ) (ry:RelV y u):KV (putK kvs k y) (stored vs k u):=by
 unfold putK stored
 rw [r.any k]
 by_cases e:(vs.any fun kv=>decide (kv.1 = k)) = true
 ·rw [Qw e,Qw e];exact r.repl k ry
 ·rw [Qy e,Qy e];exact Paired.snoc r ⟨rfl,ry⟩
end
variable {P:Program} {w:World}
theorem zje {k:Key} (r:RelV (kV k) u):(yT P w).is k u = true:=by
 cases k with
 | inl i=>obtain ⟨t,e⟩:=(show ∃ t,u = Value.int i t from r);subst e;exact zhT P w i t
 | inr x=>obtain ⟨t,e⟩:=(show ∃ t,u = Value.str x t from r);subst e;exact zhS P w x t
theorem zfX {P:Program} {w:World}:∀ {ks:List Key} {us:List Value},Vals (ks.map kV) us->ItemsAre (yT P w) ks us
 | [],_,r=>by rw [map_nil] at r;cases r;exact .nil
 | k :: ks,_,r=>by
  rw [QF] at r
  cases r with
  | cons h t=>exact .cons (zje h) (zfX t)
noncomputable abbrev KT (H:Hp):List (List Key × V)->List (List Key × Addr × Value)->Prop:=Paired fun p q=>p.1 = q.1/\H q.2.1 = some (.tup (p.1.map kV))/\RelV p.2 q.2.2
variable {H:Hp} {xs:List (List Key × Addr × Value)} {kvs:List (List Key × V)}
theorem KT.val (r:KT H kvs xs) (k:List Key):RelO (zag kvs k) ((atKey xs k).map (·.2)):=by
 induction r with
 | nil=>exact True.intro
 | @cons p q ps qs h t ih=>
  obtain ⟨h1,_,h2⟩:=h
  by_cases e:p.1 = k
  ·have e':q.1 = k:=h1.symm.trans e
   have b:atKey (q :: qs) k = some q.2:=by simp [atKey,find?_cons,e']
   rw [zez e,b];exact h2
  ·have e':¬ q.1 = k:=fun z=>e (h1.trans z)
   have b:atKey (q :: qs) k = atKey qs k:=by simp [atKey,find?_cons,e']
   rw [zeA e,b];exact ih
theorem KT.repl (r:KT H kvs xs) (k:List Key) (ry:RelV y u) :
  KT H (kvs.map fun kv=>if kv.1 = k then (kv.1,y) else kv) (xs.map (putAt k u)):=by
 induction r with
 | nil=>exact .nil
 | @cons p q ps qs h t ih=>
  rw [QF,QF]
  refine .cons ?_ ih
  obtain ⟨h1,h2,h3⟩:=h
  unfold putAt
  by_cases e:p.1 = k
  ·rw [Qw e,Qw (h1.symm.trans e)];exact ⟨h1,h2,ry⟩
  ·rw [Qy e,Qy (fun z=>e (h1.trans z))];exact ⟨h1,h2,h3⟩
variable {h:Heap}
section
variable {a:Addr}
theorem zmx {u:HO} (ok:HOk P w H h) (e:Rd H a u):ObjOk P w H h a u:=e.ok ok
theorem zjj {kvs:List (Key × V)} (ok:HOk P w H h) (e:Rd H a (.dK kvs)):kvs.length<=sizeLine/\(a == sysModules) = false/\∃ vs,KV kvs vs/\h.DictOf (yT P w) a vs:=
 show ObjOk P w H h a (.dK kvs) from zmx ok e
theorem zg8 {ks:List Key} (ok:HOk P w H h) (e:H a = some (.tup (ks.map kV))):(tupleKind (yT P w)).is h ks a:=by
 obtain ⟨_,its,r,⟨o,h1,h2,n,h3⟩,_⟩:=(show ObjOk P w H h a (.tup (ks.map kV)) from ok a _ e)
 exact ⟨o,its.toArray,n,h1,h2,h3,by simpa using zfX r⟩
theorem zji (ok:HOk P w H h) (e:Rd H a (.dT kvs)):kvs.length<=sizeLine/\(a == sysModules) = false /\
  ∃ xs,KT H kvs xs/\h.DictOfH (tupleKind (yT P w)) a xs:=by
 obtain ⟨z,y,xs,r,o,es,ep,h1,h2,h3,h4,h5⟩:=(show ObjOk P w H h a (.dT kvs) from zmx ok e)
 refine ⟨z,y,xs,r,o,es,ep,h1,h2,h3,h4,fun x hx=>?_,h5⟩
 have all:∀ {l:List (List Key × V)} {m:List (List Key × Addr × Value)},KT H l m->∀ x ∈ m,(tupleKind (yT P w)).is h x.1 x.2.1:=by
  intro l m q
  induction q with
  | nil=>intro x hx;exact nomatch hx
  | @cons p q ps qs hq t ih=>
   intro x hx
   rcases QA.mp hx with e | hx
   ·subst e
    exact zg8 ok (by rw [← hq.1];exact hq.2.1)
   ·exact ih x hx
 exact all r x hx
end
def DGet (H:Hp) (a:Addr) (y:V) (r:Option V):Prop:=
 (∃ kvs k,Rd H a (.dK kvs)/\y = kV k/\r = zag kvs k)\/∃ kvs k b,Rd H a (.dT kvs)/\y = .ref b/\H b = some (.tup (k.map kV))/\r = zag kvs k
variable {A:Around} {X:Cx} {pins:List (Addr × Obj)} {s:Shared} {σ:St} {E Q:Value->Shared->Prop}
section
variable {a:Addr} {v:V} {r:Value}
theorem zkH (hu:A.units + 1 < cLine) (I:Inv X pins σ H s) (g:DGet H a y (some v)) (ry:RelV y u) (h:∀ w' s',Inv X pins σ H s'->RelV v w'->Q w' s') :
  wpAny (model X.prog X.w) A (getItem (.ref a) u) Q E s:=by
 rcases g with ⟨kvs,k,e,ey,l⟩ | ⟨kvs,k,b,e,ey,eb,l⟩
 ·subst ey
  obtain ⟨z,hd,vs,rel,dd⟩:=zjj I.hok e
  obtain ⟨w',hw,rw'⟩:=RelO.some_of (v:=v) (o:=valueAt vs k) (by rw [l];exact rel.val k)
  exact wpAny_getItem_of (zje ry) dd.mapOf hw (h w' _ (I.tok _) rw')
 ·subst ey
  cases (show u = Value.ref b from ry)
  obtain ⟨z,hd,xs,rel,dd⟩:=zji I.hok e
  obtain ⟨w',hw,rw'⟩:=RelO.some_of (v:=v) (o:=(atKey xs k).map (·.2)) (by rw [l];exact rel.val k)
  obtain ⟨p,hp,hp2⟩:=Option.map_eq_some_iff.mp hw
  refine wpAny_getItem_heap (tupleKind_room_in1 hu) (zg8 I.hok eb) dd hp ?_
  rw [hp2]
  exact h w' _ (I.tok _) rw'
theorem zsb (hu:A.units + 1 < cLine) (I:Inv X pins σ H s) (g:DGet H a y o) (ry:RelV y u) (h:∀ s',Inv X pins σ H s'->Q (.bool o.isSome) s') :
  wpAny (model X.prog X.w) A (compareOp .In u (.ref a)) Q E s:=by
 rcases g with ⟨kvs,k,e,ey,l⟩ | ⟨kvs,k,b,e,ey,eb,l⟩
 ·subst ey
  obtain ⟨z,hd,vs,rel,dd⟩:=zjj I.hok e
  refine wpAny_in_of (zje ry) hd dd.mapOf ?_
  rw [← (rel.val k).isSome_eq,← l]
  exact h _ (I.tok _)
 ·subst ey
  cases (show u = Value.ref b from ry)
  obtain ⟨z,hd,xs,rel,dd⟩:=zji I.hok e
  refine wpAny_in_heap (tupleKind_room_in1 hu) (zg8 I.hok eb) hd dd ?_
  have q:=(rel.val k).isSome_eq
  rw [Option.isSome_map] at q
  rw [← q,← l]
  exact h _ (I.tok _)
end
theorem zh0 {a:Addr} (I:Inv X pins σ H s) (g:DGet H a y o):s.TypeIs (.ref a) "dict":=by
 rcases g with ⟨kvs,k,e,_,_⟩ | ⟨kvs,k,b,e,_,_,_⟩
 ·obtain ⟨_,_,vs,_,dd⟩:=zjj I.hok e
  exact dd.typeIs
 ·obtain ⟨_,_,xs,_,dd⟩:=zji I.hok e
  exact dd.typeIs
noncomputable def zj8 (kvs more:List (Key × V)):List (Key × V):=more.foldl (fun acc kv=>putK acc kv.1 kv.2) kvs
structure M1 (X:Cx) (o:Expr) (m:Str) (apos:Pos) (e:Expr) (cpos:Pos):Prop where
 base:attributeBase o m X.env (eval o X.env) = eval o X.env
 few:((backTo cpos (starEach [e] X.env)).all (fun x=>!x.1) && (backToKw cpos (keywordEach [] X.env)).all (fun x=>x.1.isSome)
  && decide (([e]:List Expr).length + ([]:List Keyword).length + (if ([]:List Keyword).isEmpty then 0 else 1) < 30)) = true
 line:(apos.endLine == cpos.line) = true
 trees:backTo cpos (starEach [e] X.env) = [(false,eval e X.env)]
structure M2 (X:Cx) (o:Expr) (m:Str) (apos:Pos) (e f:Expr) (cpos:Pos):Prop where
 base:attributeBase o m X.env (eval o X.env) = eval o X.env
 few:((backTo cpos (starEach [e,f] X.env)).all (fun x=>!x.1) && (backToKw cpos (keywordEach [] X.env)).all (fun x=>x.1.isSome)
  && decide (([e,f]:List Expr).length + ([]:List Keyword).length + (if ([]:List Keyword).isEmpty then 0 else 1) < 30)) = true
 line:(apos.endLine == cpos.line) = true
 trees:backTo cpos (starEach [e,f] X.env) = [(false,eval e X.env),(false,eval f X.env)]
def Bnd (n:Nat) (i:Int):Prop:=i.natAbs < 10 ^ n
instance (n:Nat) (i:Int):Decidable (Bnd n i):=inferInstanceAs (Decidable (i.natAbs < 10 ^ n))
variable {i j:Int} {n:Nat}
theorem Bnd.add (h:Bnd n i) (k:Bnd n j):Bnd (n + 1) (i + j):=by
 unfold Bnd at *
 have h1:=Int.natAbs_add_le i j
 rw [Nat.pow_succ]
 omega
theorem Bnd.neg (h:Bnd n i):Bnd n (-i):=by
 unfold Bnd at *
 rw [Int.natAbs_neg];exact h
theorem ziK (h:Bnd n i) (hn:n<=3000):Builtin.Int.intBits i<=2 ^ 20:=by
 unfold Builtin.Int.intBits
 split
 ·exact Nat.zero_le _
 ·rename_i h0
  have h1:i.natAbs ≠ 0:=by
   intro z
   have:i = 0:=Int.natAbs_eq_zero.mp z
   subst this
   exact h0 rfl
  have h2:i.natAbs < 2 ^ (4 * n):=by
   have e:(2:Nat) ^ (4 * n) = 16 ^ n:=by rw [Nat.pow_mul]
   rw [e]
   exact Q5 h (Nat.pow_le_pow_left (by decide) n)
  have h3:i.natAbs.log2 < 4 * n:=(Nat.log2_lt h1).mpr h2
  have:(2:Nat) ^ 20 = 1048576:=by decide
  omega
def CMulB (i j:Int):Prop:=(∃ m n,Bnd m i/\Bnd n j/\m<=3000/\n<=3000)\/CMul i j
theorem CMulB.ok (h:CMulB i j):IntMulOk i j:=by
 rcases h with ⟨m,n,h1,h2,h3,h4⟩ | h
 ·exact IntMulOk.of_bits (ziK h1 h3) (ziK h2 h4)
 ·exact h.ok
section
theorem znu:OpR X (binaryOp .Mult) (rI CMulB fun i j=>.int (i * j)):=opI fun _ _ _ _ _ _ _ hc q=>mul_int q hc.ok
noncomputable def zqJ (K:Frag):R2:=fun x y H Q=>∃ l b xs zs,x = .ref l/\y = .ref b/\SqL K H l xs/\SqL K H b zs/\xs.length + zs.length<=sizeLine/\∀ p,H p = none->Q (.ref p) (upd H p (.lst (xs ++ zs)))
theorem zny:OpR X (binaryOp .Add) (zqJ X.K):=by
 intro pins s σ H x y v u Q I rx ry h
 obtain ⟨l,b,xs,zs,rfl,rfl,hH,hB,hz,q⟩:=h
 cases rx
 cases ry
 obtain ⟨its,r,pl,z⟩:=I.list hH
 obtain ⟨its2,r2,pl2,z2⟩:=I.list hB
 obtain ⟨⟨cls,dd,data,sl⟩,n,ho,hc,hdi,hd⟩:=pl
 obtain ⟨⟨cls2,dd2,data2,sl2⟩,n2,ho2,hc2,hdi2,hd2⟩:=pl2
 simp only at hc hd hc2 hd2
 subst hc hd hc2 hd2
 have e1:=r.length
 have e2:=r2.length
 refine concat_meets ⟨_,ho,rfl⟩ ⟨_,ho2,rfl⟩ noFill_list_add seq_list_add PySem.F.slot_list_add PySem.F.entry_list_add (PySem.F.args_list_add_2 _ _) (list_addW l b its.toArray its2.toArray n n2 dd dd2 sl sl2 (by rw [Qg,Qg];omega)) ⟨ho,ho2,?_⟩
 have ea:its.toArray ++ its2.toArray = (its ++ its2).toArray:=by simp
 rw [ea]
 exact ⟨.ref _,_,I.lnew (t':=s.toks) (r.append r2) (by rw [Ql];omega),rfl,q _ I.fresh⟩
end
structure Df (K:Frag) (mg:Str->Option Value) (x:Str) (st:Stmt) (ps:List Str):Prop where
 ex:∃ (f:Addr) (fd:FuncData),Fun K x x st f fd/\Binds K fd ps []/\mg x = some (.ref f)
structure Cal (P:Program) (w:World) (K:Frag) (mg:Str->Option Value) (base:Heap) (k:Nat) (x:Str) (ps:List Str) (sp:Sp):Prop where
 ex:∃ (f:Addr) (fd:FuncData),FnOk P w K mg base CX0 k f fd ps sp/\PySem.W.keepIn K (.ref f) = true/\Binds K fd ps []/\mg x = some (.ref f)
variable {f:Addr} {sl:Array (Option Value)} {ps:List Str} {k:Nat} {an od:Option Addr} {sp:Sp} {st:Stmt} {x:Str} {mg:Str->Option Value} {cd ct dc oc:Value}
section
variable {K:Frag} {base:Heap}
theorem Df.ok {N:List Str} (D:Df K mg x st ps) (S:FnScope N ps (zf st)) (len:∀ vs H Q E,sp vs H Q E->vs.length = ps.length)
 (hbody:∀ (f:Addr) (cdv:Value) (A:Around) (outer:List Env) (s:Shared) (H:Hp) (vs:List V) (Q:VK) (E:XK),Room k (A.deeper (envOfC x (zf st) s.heap.objs.size f cdv))->sp vs H Q E->
 ∃ t,PSs (zbr CX0 P w K mg base N x (zf st) f cdv A outer s H E).nox (yI st) t/\t { nx:=fun _ H'=>Q .non H',rt:=Q } (start N vs) H):Cal P w K mg base (k + 1) x ps sp:=by
 obtain ⟨f,fd,F,b,g⟩:=D.ex
 exact ⟨⟨f,fd,F.ok S len (hbody f),F.kp,b,g⟩⟩
theorem qE (X:K.In h) (G:h.Ns mainGlobals mg) {kV pm:Value}
 (a:PySem.W.nsIn K mainGlobals x = some (some (.ref f)))
 (l:K.lookup f = some ⟨oc,od,.func (PySem.W.fnOf x x (za3 st) (yI st) (zf st) .none kV dc pm an cd ct),sl⟩) (c:PySem.W.codeIn K cd x = true) (k:PySem.W.keepIn K (.ref f) = true)
 (hb:∀ (kV doc pm:Value) (an:Option Addr) (cdv ct:Value) (us:List Value),us.length = ps.length->bindArgs (PySem.W.fnOf x x (za3 st) (yI st) (zf st) .none kV doc pm an cdv ct) ⟨us,[]⟩ = pure (ps.zip us)):Df K mg x st ps:=by
 have F:=zkC (st:=st) l c k
 exact ⟨⟨f,_,F,F.binds hb,PySem.W.mg_of X G a⟩⟩
end
section
variable {K:Frag}
theorem zpC (X:K.In h) (G:h.Ns mainGlobals mg) {kV pm:Value}
 (a:PySem.W.nsIn K mainGlobals "law" = some (some (.ref f)))
 (l:K.lookup f = some ⟨oc,od,.func (PySem.W.fnOf "law" "law" (za3 st) (yI st) (zf st) .none kV dc pm an cd ct),sl⟩) (c:PySem.W.codeIn K cd "law" = true) (k:PySem.W.keepIn K (.ref f) = true)
 (hb:∀ (kV dc pm:Value) (an:Option Addr) (cd ct:Value) (s:Shared) (u:Value),BindsTo s (PySem.W.fnOf "law" "law" (za3 st) (yI st) (zf st) .none kV dc pm an cd ct) ⟨[u],[]⟩ [("script",u)]) :
  ∃ (f:Addr) (fd:FuncData),Fun K "law" "law" st f fd/\mg "law" = some (.ref f)/\∀ (s:Shared) (u:Value),BindsTo s fd ⟨[u],[]⟩ [("script",u)]:=
 ⟨f,_,zkC (st:=st) l c k,PySem.W.mg_of X G a,fun s u=>hb _ _ _ _ _ _ s u⟩
end
variable {pos:Pos}
section
variable {p:Pos} {e:Expr} {es:List Expr} {t:TA}
theorem zpg (C:Cal X.prog X.w X.K X.mg X.base k x ps sp) (hr:Room k X.A) (hg:Gl X x) (ha:PA X (e :: es) t) (hdb:(x == ("__debug__":Str)) = false:=by decide)
  (he:starEach (e :: es) X.env = (false,eval e X.env) :: starEach es X.env:=by rfl) (hpl:(backTo pos (starEach es X.env)).any (·.1) = false:=by rfl) :
  PE X (.Call (.Name x p) (e :: es) [] pos) (zmu sp [] E0 t):=by
 obtain ⟨f,fd,F,kp,b,g⟩:=C.ex
 exact zin F hr hg g kp b .nil zqR ha hdb he hpl
end
theorem Bnd.of (h1:-(10 ^ n:Int) < i) (h2:i < 10 ^ n):Bnd n i:=by
 unfold Bnd
 have:((10 ^ n:Nat):Int) = (10:Int) ^ n:=by simp
 omega
theorem Bnd.hi (h:Bnd n i):i < 10 ^ n:=by
 unfold Bnd at h
 have:((10 ^ n:Nat):Int) = (10:Int) ^ n:=by simp
 omega
theorem Bnd.lo (h:Bnd n i):-(10 ^ n:Int) < i:=by
 unfold Bnd at h
 have:((10 ^ n:Nat):Int) = (10:Int) ^ n:=by simp
 omega
theorem Bnd.gcd {a b:Int} (h:0 < b) (k:Bnd n b):Bnd n ((Int.gcd a b:Nat):Int):=by
 unfold Bnd at *
 have h1:((Int.gcd a b:Nat):Int) ∣ b:=Int.gcd_dvd_right ..
 have h2:((Int.gcd a b:Nat):Int)<=b:=Int.le_of_dvd h h1
 omega
noncomputable abbrev zeV:List Value:=[.type "ValueError",.type "Exception",.type "BaseException",.type "object"]
structure ExcAt (K:Frag) (mg:Str->Option Value) (x:Str) (C:Addr):Prop where
 bound:mg x = some (.ref C)
 obj:∀ h:Heap,K.In h->∃ bm N nm q bs hdct sn sub ab col dd k0 k1 k2 k3 k5 mN,h.get? C = some (excClassObj nm q C N bs bm hdct sn sub ab col dd k0 k1 k2 k3 k5 "ValueError.__new__")/\h.Ns N mN/\mN "__init__" = none/\OwnTail h zeV bm
noncomputable def zc4 (es:Array DictEntry):Bool:=es.toList.all (fun e=>match e.key with | .str _ _=>true | _=>false)
theorem ziv {K:Frag} (X:K.In h) {N:Addr} {n:Str} {c:Value} {d:Option Addr} {es:Array DictEntry} {ep:Nat} (l:K.lookup N = some ⟨c,d,.dict es ep,sl⟩) (sk:zc4 es = true)
 (q:PySem.W.nsIn K N n = some none):∃ mN,h.Ns N mN/\mN n = none:=by
 have ho:=X _ _ l
 have hi:h.isNs N = true:=by
  unfold Heap.isNs
  rw [ho]
  unfold zc4 at sk
  rw [Array.all_toList] at sk
  exact sk
 refine ⟨h.nsMap N,Heap.Ns.of_isNs hi,?_⟩
 obtain ⟨o,es',ep',ho',hd',_,hf⟩:=Heap.Ns.of_isNs hi
 rw [← hf n]
 rw [ho] at ho'
 cases ho'
 cases hd'
 unfold PySem.W.nsIn at q
 rw [l] at q
 dsimp only at q
 unfold nsFind findBy
 cases e:es.toList.find? (·.key.isStr n) with
 | some e'=>rw [e] at q;cases q
 | none=>
  have:es.find? (fun e=>e.key.isStr n) = none:=by
   rw [← Array.find?_toList];exact e
  simp [this]
theorem ObjOk.there {a:Addr} {o:HO} (x:ObjOk P w H h a o):∃ u,h.get? a = some u:=by
 cases o with
 | lst xs=>obtain ⟨_,_,_,_,e⟩:=x;exact ⟨_,e⟩
 | tup xs=>obtain ⟨_,_,_,⟨ob,e,_⟩,_⟩:=x;exact ⟨_,e⟩
 | dK kvs=>obtain ⟨_,_,_,_,o,_,_,e,_⟩:=x;exact ⟨_,e⟩
 | dT kvs=>obtain ⟨_,_,_,_,o,_,_,e,_⟩:=x;exact ⟨_,e⟩
 | set S n=>obtain ⟨o,_,_,_,e,_⟩:=x;exact ⟨_,e⟩
 | ins C dx fs=>obtain ⟨_,_,_,e,_⟩:=x;exact ⟨_,e⟩
 | own y=>obtain ⟨_,e⟩:=x;exact ⟨_,e⟩
 | xd fs=>obtain ⟨_,⟨_,_,_,e,_⟩,_⟩:=x;exact ⟨_,e⟩
 | rng lo hi=>obtain ⟨_,_,_,e⟩:=x;exact ⟨_,e⟩
 | frz ob u=>obtain ⟨e,_⟩:=x;exact ⟨_,e⟩
 | tbl ps=>exact ⟨_,(show h.get? a = some _ from x)⟩
 | met f y=>exact ⟨_,(show h.get? a = some _ from x)⟩
 | ext φ=>obtain ⟨_,⟨_,e⟩,_⟩:=x;exact ⟨_,e⟩
noncomputable def CXC (P:Program) (w:World) (C:Addr):CXT:=fun l H s E ev s'=>∃ (e t:Addr) (B:Heap) (H':Hp),ev = .ref e/\Heap.FlyingW B l e (.ref C) (.ref t) s'.heap/\s'.os = s.os/\AllBare s'.gens /\
 Un (frs l) [] H H' s.heap s'.heap/\HOk P w H' s'.heap/\(∀ b o,s'.heap.get? b = some o->b ∉ frs l->(H' b ≠ none\/∃ o',s.heap.get? b = some o')->B.get? b = some o)/\(∀ b ∈ frs l,H' b = none)/\E (.ref C) none H'
theorem zms {l:List Env} {H':Hp} {h1 h2 B:Heap} (u:Un (frs l) [] H H' h h1) (hok:HOk P w H' h1) (hB:∀ b o,h1.get? b = some o->b ∉ frs l->(H' b ≠ none\/∃ o',h.get? b = some o')->B.get? b = some o)
 (hfr:∀ b ∈ frs l,H' b = none) (hfn:∀ b ∈ frs l,∀ o,h1.get? b = some o->∀ vs,o.data ≠ .fields vs) (st:B.StaysIn h2) (up:h1.UpToSlots h2):Un (frs l) [] H H' h h2/\HOk P w H' h2:=by
 refine ⟨⟨fun b o e n nf nx=>?_,fun b o e n hf nx=>?_,u.free,fun b o e nx=>?_,u.tups,u.frzs,u.tbls⟩,fun a o e=>?_⟩
 ·exact st _ _ (hB b o (u.keep b o e n nf nx) nf (.inr ⟨o,e⟩))
 ·obtain ⟨sl,e1⟩:=u.slot b o e n hf nx
  obtain ⟨sl2,e2⟩:=up b _ e1 (hfn b hf _ e1)
  exact ⟨sl2,e2⟩
 ·obtain ⟨o1,e1⟩:=u.there b o e nx
  by_cases hf:b ∈ frs l
  ·obtain ⟨sl2,e2⟩:=up b _ e1 (hfn b hf _ e1)
   exact ⟨_,e2⟩
  ·exact ⟨_,st _ _ (hB b o1 e1 hf (.inr ⟨o,e⟩))⟩
 ·refine (hok a o e).stay (fun b v hb ev=>?_) (fun _ q=>q) fun _ _ q=>q
  have ht:H' b ≠ none:=by
   rcases hb with rfl | hb
   ·rw [e];simp
   ·rw [hb];simp
  exact st _ _ (hB b v ev (fun hf=>ht (hfr b hf)) (.inl ht))
noncomputable abbrev Cx.suite (X:Cx) (ev:Addr):Cx:={ X with A:=X.A.mark (some (.ref ev)),calm:=false,xe:=fun _ _=>False }
section
variable {ev:Addr}
theorem Inv.suite (I:Inv X pins σ H s) (ev:Addr):Inv (X.suite ev) pins σ H s:=
 ⟨⟨I.ok.mod,I.ok.kind,I.ok.glob,I.ok.blt,I.ok.above,I.ok.inj,I.ok.has,I.ok.cab,(fun z=>by cases z),I.ok.frames,I.ok.stk,I.ok.exf,I.ok.bs,I.ok.bsz,I.ok.noex,I.ok.exfs,I.ok.funs,I.ok.frf⟩,I.os,I.bare,I.base,I.loc,I.cell,I.free,I.freeC,I.pin,I.hok,I.len⟩
theorem Inv.unsuite (ok:X.Ok) (I:Inv (X.suite ev) pins σ H s):Inv X pins σ H s:=⟨ok,I.os,I.bare,I.base,I.loc,I.cell,I.free,I.freeC,I.pin,I.hok,I.len⟩
theorem SP.unsuite (ok:X.Ok) {D:Ends} {f:Flow} {s':Shared} (h:SP (X.suite ev) pins D f s'):SP X pins D f s':=by
 cases f with
 | next=>obtain ⟨σ',H',I,q⟩:=h;exact ⟨σ',H',I.unsuite ok,q⟩
 | brk=>obtain ⟨σ',H',I,q⟩:=h;exact ⟨σ',H',I.unsuite ok,q⟩
 | cont=>obtain ⟨σ',H',I,q⟩:=h;exact ⟨σ',H',I.unsuite ok,q⟩
 | ret u=>obtain ⟨v,σ',H',I,r,q⟩:=h;exact ⟨v,σ',H',I.unsuite ok,r,q⟩
end
theorem zmg (x:V) (f:y6 x = true):eqV x x = true:=by
 cases x with
 | non=>rfl
 | bl b=>simp [eqV]
 | int i=>simp [eqV]
 | str z=>simp [eqV]
 | _=>exact absurd (show false = true from f) Q4
section
def CDivS (_ j:Int):Prop:=j ≠ 0/\∃ n,Bnd n j/\n<=2000
theorem CDivS.ok (h:CDivS i j):Builtin.divisionGoesByPylong i j = false:=by
 obtain ⟨h0,n,h1,h2⟩:=h
 refine PyProof.noPylong_of_log2 ?_
 have hz:j.natAbs ≠ 0:=by omega
 have e:(2:Nat) ^ (4 * n) = 16 ^ n:=by rw [Nat.pow_mul]
 have h3:j.natAbs < 2 ^ (4 * n):=by
  rw [e]
  exact Q5 h1 (Nat.pow_le_pow_left (by decide) n)
 have h4:j.natAbs.log2 < 4 * n:=(Nat.log2_lt hz).mpr h3
 omega
theorem zlD:OpR X (binaryOp .FloorDiv) (rI CDivS fun i j=>.int (i.fdiv j)):=opI fun _ _ _ _ _ _ _ hc q=>floordiv_int hc.1 q (.inl hc.ok)
end
structure CalX (P:Program) (w:World) (K:Frag) (mg:Str->Option Value) (base:Heap) (C:Addr) (k:Nat) (x:Str) (ps:List Str) (sp:Sp):Prop where
 ex:∃ (f:Addr) (fd:FuncData),FnOk P w K mg base (CXC P w C) k f fd ps sp/\PySem.W.keepIn K (.ref f) = true/\Binds K fd ps []/\mg x = some (.ref f)
theorem zbU {name:Str} {acc:List (Str × Addr)} {c:Addr} (e:((name,n) :: acc).lookup x = some c):(x = name/\c = n)\/acc.lookup x = some c:=by
 rw [lookup_cons] at e
 split at e
 ·rename_i h;cases e;exact .inl ⟨eq_of_beq h,rfl⟩
 ·exact .inr e
theorem zfh:∀ (names:List (Str × NameKind)) (n:Nat) (acc:List (Str × Addr)),(∀ x y c,acc.lookup x = some c->acc.lookup y = some c->x = y)->(∀ x c,acc.lookup x = some c->c < n)->∀ x y c,(cellsFrom n names acc).lookup x = some c->(cellsFrom n names acc).lookup y = some c->x = y
 | [],_,_,h,_,x,y,c,e1,e2=>h x y c e1 e2
 | (name,kind) :: r,n,acc,h,lt,x,y,c,e1,e2=>by
  unfold cellsFrom at e1 e2
  split at e1
  ·rename_i hk
   rw [Qw hk] at e2
   refine zfh r (n + 1) ((name,n) :: acc) (fun x y c f1 f2=>?_) (fun x c f=>?_) x y c e1 e2
   ·rcases zbU f1 with ⟨g1,g2⟩ | g1 <;> rcases zbU f2 with ⟨g3,g4⟩ | g3
    ·rw [g1,g3]
    ·subst g2;exact absurd (lt _ _ g3) (Qm _)
    ·subst g4;exact absurd (lt _ _ g1) (Qm _)
    ·exact h x y c g1 g3
   ·rcases zbU f with ⟨g1,g2⟩ | g1
    ·subst g2;exact Nat.lt_succ_self _
    ·exact Nat.lt_succ_of_lt (lt _ _ g1)
  ·rename_i hk
   rw [Qy hk] at e2
   exact zfh r n acc h lt x y c e1 e2
theorem zgo {x:Str} {c:Addr}:∀ (names:List (Str × NameKind)) (n:Nat) (acc:List (Str × Addr)),(cellsFrom n names acc).lookup x = some c->acc.lookup x = some c\/n<=c
 | [],_,_,e=>.inl e
 | (name,kind) :: r,n,acc,e=>by
  unfold cellsFrom at e
  split at e
  ·rcases zgo r (n + 1) _ e with f | f
   ·rcases zbU f with ⟨_,g⟩ | g
    ·exact .inr (Nat.le_of_eq g.symm)
    ·exact .inl g
   ·exact .inr (by omega)
  ·exact zgo r n acc e
theorem zjp {x:Str} {c:Addr} {lo:Nat}:∀ (names:List (Str × NameKind)) (n:Nat) (acc:List (Str × Addr)),lo<=n->(∀ c,acc.lookup x = some c->lo<=c)->(cellsFrom n names acc).lookup x = some c->lo<=c
 | [],_,_,_,h,e=>h _ e
 | (name,kind) :: r,n,acc,hn,h,e=>by
  unfold cellsFrom at e
  split at e
  ·refine zjp r (n + 1) _ (Nat.le_succ_of_le hn) (fun c f=>?_) e
   rcases zbU f with ⟨_,g⟩ | g
   ·subst g;exact hn
   ·exact h _ g
  ·exact zjp r n acc hn h e
theorem zff {x:Str} {c:Addr}:∀ (names:List (Str × NameKind)) (n:Nat) (acc:List (Str × Addr)),names.lookup x = some .cell->(cellsFrom n names acc).lookup x = some c->n<=c
 | [],_,_,h,_=>by cases h
 | (name,kind) :: r,n,acc,h,e=>by
  unfold cellsFrom at e
  rw [lookup_cons] at h
  split at h
  ·rename_i hx
   cases h
   rw [Qw (show (NameKind.cell == NameKind.cell) = true from rfl)] at e
   refine zjp r (n + 1) _ (Nat.le_succ _) (fun c f=>?_) e
   rw [lookup_cons,hx] at f
   cases f;exact Q3 _
  ·split at e
   ·exact Nat.le_of_succ_le (zff r (n + 1) _ h e)
   ·exact zff r n acc h e
theorem zfg {x:Str}:∀ (names:List (Str × NameKind)) (n:Nat) (acc:List (Str × Addr)),(∀ y ∈ names,y.2 = .cell->y.1 ≠ x)->(cellsFrom n names acc).lookup x = acc.lookup x
 | [],_,_,_=>rfl
 | (name,kind) :: r,n,acc,h=>by
  unfold cellsFrom
  split
  ·rename_i hk
   rw [zfg r (n + 1) _ fun y hy=>h y (mem_cons_of_mem _ hy),lookup_cons]
   have:(x == name) = false:=by
    cases q:x == name with
    | false=>rfl
    | true=>exact absurd (eq_of_beq q).symm (h (name,kind) mem_cons_self (eq_of_beq hk))
   rw [this]
  ·exact zfg r n acc fun y hy=>h y (mem_cons_of_mem _ hy)
theorem zej:∀ (names:List (Str × NameKind)) (h:Heap) (acc:List (Str × Addr)),(∀ x c,acc.lookup x = some c->∃ v,h.IsCell c v)->∀ x c,(cellsFrom h.objs.size names acc).lookup x = some c->∃ v,(pushCells h names).IsCell c v
 | [],_,_,k,x,c,e=>k x c e
 | (name,kind) :: r,h,acc,k,x,c,e=>by
  unfold cellsFrom at e
  unfold pushCells
  split at e
  ·rename_i hk
   rw [Qw hk]
   refine zej r (h.push { cls:=.type "cell",data:=.cell none }) ((name,h.objs.size) :: acc) (fun x c f=>?_) x c (by rw [Heap.size_push];exact e)
   rcases zbU f with ⟨_,g⟩ | g
   ·subst g;exact ⟨none,_,Qj _ rfl,rfl⟩
   ·obtain ⟨v,q⟩:=k x c g
    exact ⟨v,q.keeps fun b o e=>Q2 _ e⟩
  ·rename_i hk
   rw [Qy hk]
   exact zej r h acc k x c e
variable {cl:List (Str × Addr)} {scope:Scope}
theorem z8 {M:Model} {globals:Addr} {qual:Str} {env:Env} {builtins:Addr} {Q:Env->Shared->Prop}
 (hQ:∀ h',h'.Ns s.heap.objs.size (fun _=>none)->h' = pushCells (s.heap.push { cls:=.type "dict",data:=.dict #[] }) scope.names->
 Q (newEnv scope s.heap.objs.size globals (cellsFrom (s.heap.objs.size + 1) scope.names cl) qual none .none (some env) builtins) { s with heap:=h' }) :
  wpAny M A (newFunctionEnv scope globals cl [] qual none .none (some env) builtins) Q E s:=by
 simp only [newFunctionEnv,Option.isSome_some,if_true]
 refine Q1 (wpAny_alloc ?_)
 refine Q1 (wpAny_layCells _ (fun name kind cells=>by cases hkc:kind == NameKind.cell <;> simp [hkc]) _ _ _ _ ?_)
 rw [show ({ s with heap:=s.heap.push { cls:=.type "dict",data:=.dict #[] } }:Shared).heap.objs.size = s.heap.objs.size + 1 from Heap.size_push ..]
 refine Q1 ?_
 rw [List.forIn_nil]
 exact Qd (Qd (hQ _ ((Heap.Ns.new s.heap (.type "dict")).keeps (pushCells_keeps _ _)) rfl))
noncomputable def zeW (scope:Scope) (cl:List (Str × Addr)) (C:Addr) (env:Env):Env:={ compEnvC scope cl C env with cells:=cellsFrom (C + 1) scope.names cl }
noncomputable def Cx.block (X:Cx) (scope:Scope) (cl:List (Str × Addr)) (N:List Str) (ex:List Addr) (s0:Shared) (H0:Hp):Cx where
 prog:=X.prog
 w:=X.w
 K:=X.K
 mg:=X.mg
 base:=X.base
 A:=X.A
 N:=N
 s₀:=s0
 H₀:=H0
 env:=zeW scope cl s0.heap.objs.size X.env
 outer:=X.stack
 stack:=X.stack
 ex:=ex
 fn:=fun x=>scope.names.lookup x == some .cell
 calm:=X.calm
 pn:=[]
 xe:=fun _ _=>False
def PTs (X:Cx) (ifs:List Expr) (t:TT):Prop:=
 ∀ (pins:List (Addr × Obj)) (s:Shared) (σ:St) (H:Hp) (Q:Bool->Hp->Prop),Inv X pins σ H s->t σ H Q->
  wpAny (model X.prog X.w) X.A (forIn ifs true fun c r=>if r = true then do let ok ← isTrue c X.env (eval c X.env);pure (ForInStep.yield ok) else pure (ForInStep.yield r)) (TP X pins σ Q) X.xe s
noncomputable def zqu:TT:=fun _ H Q=>Q true H
theorem zm9:PTs X [] zqu:=fun _ _ _ H _ I h=>wpAny_tests_nil ⟨H,I,h⟩
noncomputable def zas (tgs:List Str) (caps:List (Str × Nat)) (σ:St):St:=tgs.map (fun _=>none) ++ caps.map fun c=>(σ[c.2]?).join
noncomputable def zgh (wi:TI) (g:TG) (tc:TT) (te:TE) (σ0:St->St):TE:=fun σ H Q=>wi σ H fun J H1=>∀ D,H1 D = none->∃ W:Nat->Nat->St->Hp->Prop,(∃ m,W 0 m (σ0 σ) (upd H1 D (.lst [])))/\∀ i m σ' H',W i m σ' H'->
 (J.stop i H'/\Q (.ref D) H')\/(J.go i H'/\∃ N:St->Hp->Prop,(∀ σ'' H'',N σ'' H''->∃ m',m' < m/\W (i + 1) m' σ'' H'')/\∀ x H2,J.yld i H' x H2->g x σ' H2 fun σ2 H3=>tc σ2 H3 fun b H4=>
  if b = true then te σ2 H4 fun v H5=>∃ ys,H5 D = some (.lst ys)/\ys.length < sizeLine/\N σ2 (upd H5 D (.lst (ys ++ [v]))) else N σ2 H4)
variable {elt iter:Expr} {ifs:List Expr}
theorem zbd {prog:Program} {R:Result->Shared->Prop} {target:Expr} {it acc:Value} {env:Env} (I:Nat->Shared->Prop)
 (turn:∀ n s,I n s->wpAny (model prog w) A (pyNext it) (fun r s₁=>match r with
 | none=>R (.ok .next) s₁
 | some v=>wpAny (model prog w) A (letOwnedTupleGo target it v) (fun _ s₁'=>wpAny (model prog w) A (assign target env v) (fun _ s₂=>
 wpAny (model prog w) A (forIn ifs true fun c r=>if r = true then do let ok ← isTrue c env (eval c env);pure (ForInStep.yield ok) else pure (ForInStep.yield r)) (fun ok s₃=>
 if ok = true then wpAny (model prog w) A (eval elt env) (fun x s₄=>
 wpAny (model prog w) A (call (.builtin "list.append") [acc,x]) (fun _ s₅=>∃ m,m < n/\I m s₅) (notedBy (model prog w) A env fun e s'=>R (.error e) s') s₄) (notedBy (model prog w) A env fun e s'=>R (.error e) s') s₃
 else ∃ m,m < n/\I m s₃) (notedBy (model prog w) A env fun e s'=>R (.error e) s') s₂) (notedBy (model prog w) A env fun e s'=>R (.error e) s') s₁') (notedBy (model prog w) A env fun e s'=>R (.error e) s') s₁) (notedBy (model prog w) A env fun e s'=>R (.error e) s') s)
 (n:Nat) (h:I n s):codeAny (model prog w) A (.compLoop (.ListComp elt [⟨target,iter,ifs,0⟩] scope pos) 0 it acc env) R s:=by
 refine codeAny_loop rfl I (fun n s hI=>?_) n h
 show wpAny _ A ((compTurn (.ListComp elt [⟨target,iter,ifs,0⟩] scope pos) 0 it acc env).onRaise (fun x=>do noteFrame x env;theTreesLotGoes x)) _ _ s
 refine wpAny_noted ?_
 rw [compTurn_list]
 refine Q1 (wpAny_standAt (Q1 (Qe (turn n s hI) (fun r s₁ h₁=>?_) fun _ _ h'=>h')))
 cases r with
 | none=>exact Qd h₁
 | some v=>
  refine Q1 (Qe h₁ (fun _ s₁' h₁'=>?_) fun _ _ h'=>h')
  refine Q1 (Qe h₁' (fun _ s₂ h₂=>Q1 (Qe h₂ (fun ok s₃ h₃=>?_) fun _ _ h'=>h')) fun _ _ h'=>h')
  cases ok with
  | false=>exact Qd ⟨rfl,h₃⟩
  | true=>
   exact Q1 (Q1 (Qe h₃ (fun x s₄ h₄=>Q1 (Qe h₄ (fun _ s₅ h₅=>Qd (Qd ⟨rfl,h₅⟩)) fun _ _ h'=>h')) fun _ _ h'=>h'))
variable {tg:Expr} {wi:TI}
section
theorem zim {tgs:List Str} {caps:List (Str × Nat)} {g:TG} {tc:TT} {te:TE}
 (hc:X.calm = true) (hi:PI X tg iter wi) (hclos:closureFor scope X.env = pure cl) (hcell:∀ y ∈ scope.names,y.2 = .cell->y.1 ∉ caps.map (·.1)) (hkind:scope.kind = .function)
 (hnames:∀ y ∈ scope.names,y.2 = .local->scope.names.lookup y.1 = some .local)
 (hcl:∀ y c,cl.lookup y = some c->X.env.cells.lookup y = some c)
 (hhas:∀ n y,((relabel scope X.env).names.lookup y = some .cell\/(relabel scope X.env).names.lookup y = some .free)->∃ c,(cellsFrom n scope.names cl).lookup y = some c)
 (hcap:∀ c ∈ caps,X.N[c.2]? = some c.1/\X.env.kindOf c.1 = some .cell/\((relabel scope X.env).names.lookup c.1 = some .cell\/(relabel scope X.env).names.lookup c.1 = some .free))
 (hg:∀ ex s0 H0,PG (X.block scope cl (tgs ++ caps.map (·.1)) ex s0 H0) tg g) (hif:∀ ex s0 H0,PTs (X.block scope cl (tgs ++ caps.map (·.1)) ex s0 H0) ifs tc) (hel:∀ ex s0 H0,PE (X.block scope cl (tgs ++ caps.map (·.1)) ex s0 H0) elt te)
 (hs:∀ x,foldedSetIterable iter X.env x = pure x:=by intro _;rfl) :
  PE X (.ListComp elt [⟨tg,iter,ifs,0⟩] scope pos) (zgh wi g tc te (zas tgs caps)):=by
 intro pins s σ H Q I h
 rw [eval_ListComp]
 refine wpAny_comprehension_free (use:=none) rfl hs hclos hkind hnames (thn (hi pins s σ H _ I h) fun v s1 h1=>thn h1 fun itv s2 h2=>?_)
 obtain ⟨it,fp,tn,J,H2,e,I2,T,st2,f2,hrest⟩:=h2
 subst e
 -- the new list
 have hD:H2 s2.heap.objs.size = none:=I2.fresh
 obtain ⟨W,⟨m0,w0⟩,turn⟩:=hrest _ hD
 refine Qr ?_ (by show 0<=sizeLine;decide)
 have I3:Inv X pins σ (upd H2 s2.heap.objs.size (.lst [])) { s2 with heap:=s2.heap.push { cls:=.type "list",data:=.seq ([]:List Value).toArray } }:=I2.lnew (t':=s2.toks) (ys:=[]) (its:=[]) .nil (by show 0<=sizeLine;decide)
 generalize hs3:({ s2 with heap:=s2.heap.push { cls:=.type "list",data:=.seq ([]:List Value).toArray } }:Shared) = s3 at I3
 have lt2:∀ b o,s2.heap.get? b = some o->s3.heap.get? b = some o:=fun b o e=>by rw [← hs3];exact Q2 _ e
 have sz3:s2.heap.objs.size < s3.heap.objs.size:=by rw [← hs3];show _ < (s2.heap.push _).objs.size;rw [Heap.size_push];exact Nat.lt_succ_self _
 have st3:tn 0 s3.heap:=T.keep 0 _ _ st2 fun b _ o e=>lt2 b o e
 have fplt:∀ b ∈ fp,b < s2.heap.objs.size:=fun b hb=>by
  obtain ⟨o,e,_⟩:=T.obj 0 _ st2 b hb
  exact Qc e
 generalize hH3:upd H2 s2.heap.objs.size (.lst []) = H3 at I3 w0
 have fr3:∀ b ∈ fp,H3 b = none:=fun b hb=>by rw [← hH3,ym (Qi (fplt b hb))];exact (f2 b hb).1
 have nstk:∀ b ∈ fp,b ∉ frs X.stack:=fun b hb z=>by
  obtain ⟨_,n1,n2,_⟩:=f2 b hb
  rcases QA.mp (I2.stkSub b z) with z | z
  ·exact n1 z
  ·exact n2 z
 refine z8 fun h4 ns4 sb4=>?_
 have keep4:∀ b o,s3.heap.get? b = some o->h4.get? b = some o:=fun b o e=>by rw [sb4];exact pushCells_keeps _ _ b o (Q2 _ e)
 have clt:∀ x c,cl.lookup x = some c->c < s3.heap.objs.size:=fun x c e=>by
  obtain ⟨v,q⟩:=I3.cell x c (hcl x c e)
  exact q.lt
 have cor:∀ x c,(cellsFrom (s3.heap.objs.size + 1) scope.names cl).lookup x = some c->cl.lookup x = some c\/s3.heap.objs.size + 1<=c:=fun x c e=>zgo _ _ _ e
 have cne:∀ b ∈ fp,∀ x c,(cellsFrom (s3.heap.objs.size + 1) scope.names cl).lookup x = some c->c ≠ b:=fun b hb x c e=>by
  rcases cor x c e with e | e
  ·exact (f2 b hb).2.2.2.2.1 x c (hcl x c e)
  ·exact Nat.ne_of_gt (Q5 (Nat.lt_trans (fplt b hb) sz3) (Nat.le_of_succ_le e))
 have neC:∀ b ∈ fp,b ≠ s3.heap.objs.size:=fun b hb=>Qi (Nat.lt_trans (fplt b hb) sz3)
 have ok':(X.block scope cl (tgs ++ caps.map (·.1)) fp s3 H3).Ok:=
  ⟨I.ok.mod,hkind,I.ok.glob,I.ok.blt,Q3 _,zfh _ _ _ (fun x y c e1 e2=>I.ok.inj x y c (hcl x c e1) (hcl y c e2)) (fun x c e=>Nat.lt_succ_of_lt (clt x c e)),hhas _,(fun x c z e=>Nat.le_of_succ_le (zff _ _ _ (eq_of_beq z) e)),I.ok.hd,I.ok.frames,.inl rfl,
   fun b hb=>⟨neC b hb,cne b hb⟩,I3.bs,Qh I.ok.bsz I3.sz,fun b o e hb=>by
    rcases (f2 b hb).2.2.2.1 with z | z
    ·exact I.ok.noex b o e z
    ·exact absurd (Q5 (Qc e) (Qh I.ok.bsz z)) (Qm _),
   nstk,I3.stack,I3.stkFree⟩
 have I4:Inv (X.block scope cl (tgs ++ caps.map (·.1)) fp s3 H3) [] (zas tgs caps σ) H3 { s3 with heap:=h4 }:=by
  refine ⟨ok',rfl,I3.bare,Un.kept keep4,⟨_,ns4,fun i x v e1 e2 e3=>?_⟩,fun x c e=>?_,I3.hok.fresh (Q3 _),fun x c e=>(cor x c e).elim (fun e=>I3.freeC x c (hcl x c e)) (fun e=>I3.hok.fresh (Nat.le_of_succ_le e)),fun p hp=>by simp [Cx.block] at hp,I3.hok.kept keep4,by simp [zas,Cx.block]⟩
  ·-- a captured name
   have hlen:(tgs.map (fun _=>(none:Option V))).length = tgs.length:=by simp
   by_cases hi:i < tgs.length
   ·have:(zas tgs caps σ)[i]? = some none:=by
     unfold zas
     rw [Q6 (by simpa using hi)]
     simp [hi]
    rw [this] at e2
    cases e2
   ·have e1':(tgs ++ caps.map (·.1))[i]? = some x:=e1
    rw [Q7 (by omega),Qa] at e1'
    have e2':=e2
    unfold zas at e2'
    rw [Q7 (by simpa using hi),hlen,Qa] at e2'
    cases hcq:caps[i - tgs.length]? with
    | none=>rw [hcq] at e1';cases e1'
    | some cq=>
     rw [hcq] at e1' e2'
     have ex:cq.1 = x:=Qb e1'
     have ev:(σ[cq.2]?).join = some v:=Qb e2'
     obtain ⟨c1,c2,c3⟩:=hcap cq (Q9 hcq)
     have ev':σ[cq.2]? = some (some v):=by
      cases q:σ[cq.2]? with
      | none=>rw [q] at ev;cases ev
      | some o=>rw [q] at ev;cases o with
       | none=>cases ev
       | some v'=>rw [show v' = v from Qb ev]
     obtain ⟨m,hn,hl⟩:=I3.loc
     obtain ⟨u,r,lk⟩:=hl cq.2 cq.1 v c1 ev' (.inr (.inl c2))
     rcases lk with ⟨k1,_⟩ | ⟨_,c,ec,icl⟩
     ·rw [c2] at k1;cases k1
     ·obtain ⟨c',ec'⟩:=hhas (s3.heap.objs.size + 1) cq.1 c3
      have ec2:=ec'
      rw [zfg _ _ _ fun y hy hk hyx=>hcell y hy hk (by rw [hyx];exact List.mem_map_of_mem (Q9 hcq))] at ec2
      have:=hcl _ _ ec2
      rw [ec] at this
      cases this
      refine ⟨u,r,.inr ⟨?_,c,?_,?_⟩⟩
      ·rw [← ex];exact c3
      ·rw [← ex];exact ec'
      ·obtain ⟨o,ho,hd⟩:=icl
       exact ⟨o,keep4 _ _ ho,hd⟩
  ·show ∃ v,h4.IsCell c v
   rw [sb4]
   refine zej scope.names _ cl (fun x c f=>?_) x c (by rw [Heap.size_push];exact e)
   obtain ⟨v,o,ho,hd⟩:=I3.cell x c (hcl x c f)
   exact ⟨v,o,Q2 _ ho,hd⟩
 have stat:∀ {H':Hp},(∀ b ∈ fp,H' b = none)->∀ b ∈ fp,zcI (X.block scope cl (tgs ++ caps.map (·.1)) fp s3 H3) [] H' b:=fun hn b hb=>
  ⟨hn b hb,neC b hb,nstk b hb,.inl hb,cne b hb,fun p hp=>by simp [Cx.block] at hp⟩
 have st4:tn 0 h4:=T.keep 0 _ _ st3 fun b _ o e=>keep4 b o e
 have loop:codeAny (model X.prog X.w) X.A (.compLoop (.ListComp elt [⟨tg,iter,ifs,0⟩] scope pos) 0 (.ref it) (.ref s2.heap.objs.size) (zeW scope cl s3.heap.objs.size X.env))
   (compPost (model X.prog X.w) X.A X.xe none (EP X pins σ Q) (.ref s2.heap.objs.size) s3.heap.objs.size) { s3 with heap:=h4 }:=by
  refine zbd (fun n s'=>∃ i σ' H',Inv (X.block scope cl (tgs ++ caps.map (·.1)) fp s3 H3) [] σ' H' s'/\tn i s'.heap/\(∀ b ∈ fp,H' b = none)/\W i n σ' H') ?_ m0 ⟨0,_,H3,I4,st4,fr3,w0⟩
  rintro n s5 ⟨i,σ5,H5,I5,st5,fr5,w5⟩
  rcases turn i n σ5 H5 w5 with ⟨stop,qn⟩ | ⟨go,N,hN,step⟩
  ·refine Qe (T.done (X.block scope cl (tgs ++ caps.map (·.1)) fp s3 H3) rfl rfl rfl hc i [] s5 σ5 H5 (fun _ _=>False) I5 (stat fr5) st5 stop) (fun r s6 ⟨hr,I6⟩=>?_) fun _ _ z=>False.elim z
   subst hr
   obtain ⟨m6,hn6,_⟩:=I6.loc
   refine ⟨m6,hn6,fun h' sb=>?_⟩
   have nb:∀ b o,s3.heap.get? b = some o->b ≠ s3.heap.objs.size:=fun b o e=>Qi (Qc e)
   have eqb:∀ b,b ≠ s3.heap.objs.size->h'.get? b = s6.heap.get? b:=fun b hb=>sb.2 b hb
   have uX:Un (frs X.stack) fp H3 H5 s3.heap h':=by
    have u:=I6.base
    refine ⟨fun b o e a1 a2 a3=>?_,fun b o e a1 a2 a3=>?_,u.free,fun b o e a3=>?_,u.tups,u.frzs,u.tbls⟩
    ·rw [eqb b (nb b o e)];exact u.keep b o e a1 a2 a3
    ·rw [eqb b (nb b o e)];exact u.slot b o e a1 a2 a3
    ·rw [eqb b (nb b o e)];exact u.there b o e a3
   have hokX:HOk X.prog X.w H5 h':=fun a o e=>(I6.hok a o e).stay (fun b u hb eu=>by
    have hbC:b ≠ s3.heap.objs.size:=fun z=>by
     have hfC:H5 s3.heap.objs.size = none:=I6.free
     rcases hb with rfl | hb
     ·rw [z,hfC] at e;cases e
     ·rw [z,hfC] at hb;cases hb
    rw [eqb b hbC];exact eu) (fun _ q=>q) fun _ _ q=>q
   have os6:s6.os = s3.os:=I6.os
   exact ⟨.ref s2.heap.objs.size,H5,I3.call' (s':={ s6 with heap:=h' }) (ch:=fp) os6 uX hokX I6.bare (fun b hb=>⟨(f2 b hb).2.2.2.1,(f2 b hb).2.1,(f2 b hb).2.2.2.2.1,(f2 b hb).2.2.2.2.2⟩),rfl,qn⟩
  ·refine Qe (T.item (X.block scope cl (tgs ++ caps.map (·.1)) fp s3 H3) rfl rfl rfl hc i [] s5 σ5 H5 (fun _ _=>False) I5 (stat fr5) st5 go) (fun r s6 ⟨u,hr,h6⟩=>?_) fun _ _ z=>False.elim z
   subst hr
   refine Qe h6 (fun _ s7 ⟨x,H7,I7,r7,y7,st7,fr7⟩=>?_) fun _ _ z=>False.elim z
   have I7':=I7.pinned (stat fr7) (T.obj _ _ st7)
   have again:∀ {s9:Shared} {σ9:St} {H9:Hp},Inv (X.block scope cl (tgs ++ caps.map (·.1)) fp s3 H3) ([] ++ zcN fp s7.heap) σ9 H9 s9->N σ9 H9->
     ∃ m,m < n/\∃ i σ' H',Inv (X.block scope cl (tgs ++ caps.map (·.1)) fp s3 H3) [] σ' H' s9/\tn i s9.heap/\(∀ b ∈ fp,H' b = none)/\W i m σ' H':=fun {s9 σ9 H9} I9 n9=>by
    obtain ⟨m',hm,w9⟩:=hN σ9 H9 n9
    refine ⟨m',hm,i + 1,σ9,H9,I9.unpinned,T.keep _ _ _ st7 fun b hb o e=>(I9.pin (b,o) (Qk _ (Qk _ (zaB hb e)))).1,fun b hb=>?_,w9⟩
    obtain ⟨o,e,d⟩:=T.obj _ _ st7 b hb
    exact (I9.pin (b,o) (Qk _ (Qk _ (zaB hb e)))).2.1
   refine Qe (hg fp s3 H3 _ s7 σ5 H7 x u _ I7' r7 (step x H7 y7)) (fun _ s8 ⟨σ8,H8,I8,q8⟩=>?_) fun _ _ z=>False.elim z
   refine Qe (hif fp s3 H3 _ s8 σ8 H8 _ I8 q8) (fun b s9 ⟨H9,I9,q9⟩=>?_) fun _ _ z=>False.elim z
   cases b with
   | false=>
    rw [Qy Q4] at q9
    rw [Qy Q4]
    exact again I9 q9
   | true=>
    rw [Qw rfl] at q9
    rw [Qw rfl]
    refine Qe (hel fp s3 H3 _ s9 σ8 H9 _ I9 q9) (fun xv s10 ⟨v,H10,I10,rv,ys,hy,hl,q10⟩=>?_) fun _ _ z=>False.elim z
    refine Qe (zL (X:=X.block scope cl (tgs ++ caps.map (·.1)) fp s3 H3) _ s10 σ8 H10 (.ref s2.heap.objs.size) [v] (.ref s2.heap.objs.size) [xv] (fun _ H11=>N σ8 H11) I10 rfl (.cons rv .nil) ⟨_,ys,v,rfl,rfl,hy,hl,q10⟩) (fun _ s11 ⟨_,H11,I11,_,q11⟩=>again I11 q11) fun _ _ z=>False.elim z
 exact codeAny_compStart_list loop (T.self _ 0 _ _ _ st4 loop)
end
noncomputable def Each {α:Type} (P:α->Prop):List α->Prop
 | []=>True
 | a :: l=>P a/\Each P l
theorem Each.of {α:Type} {P:α->Prop}:∀ {l:List α},Each P l->∀ a ∈ l,P a
 | _ :: _,⟨h,_⟩,_,.head _=>h
 | _ :: _,⟨_,h⟩,_,.tail _ m=>Each.of h _ m
variable {l:List (Str × NameKind)}
theorem lookup_mem {y:Str} {k:NameKind} (h:l.lookup y = some k):(y,k) ∈ l:=by
 induction l with
 | nil=>cases h
 | cons p l ih=>
  obtain ⟨n,k'⟩:=p
  rw [lookup_cons] at h
  cases e:y == n with
  | true=>
   rw [e] at h
   cases h
   rw [eq_of_beq e]
   exact .head _
  | false=>
   rw [e] at h
   exact .tail _ (ih h)
theorem zpO (h:Each (fun p=>(p.2 = .cell\/p.2 = .free)->∃ c,cl.lookup p.1 = some c) l) (y:Str) (q:l.lookup y = some .cell\/l.lookup y = some .free):∃ c,cl.lookup y = some c:=by
 rcases q with q | q
 ·exact h.of _ (lookup_mem q) (.inl rfl)
 ·exact h.of _ (lookup_mem q) (.inr rfl)
theorem PI.or {wi':TI} (h:PI X tg iter wi) (h':PI X tg iter wi'):PI X tg iter (fun σ H R=>wi σ H R\/wi' σ H R):=fun pins s σ H R I q=>q.elim (h pins s σ H R I) (h' pins s σ H R I)
theorem zoj {bs:List Bool} {its:List Value} (r:Vals (bs.map V.bl) its) {i:Nat} {v:Value} (e:its[i]? = some v):∃ b,bs[i]? = some b/\v = .bool b:=by
 have hl:=r.length
 rw [Qf] at hl
 have hi:i < its.length:=(Qx.mp e).1
 have eb:bs[i]? = some bs[i]:=by simp [show i < bs.length by omega]
 have em:(bs.map V.bl)[i]? = some (V.bl bs[i]):=by rw [Qa,eb];rfl
 obtain ⟨u,e2,q⟩:=Vals.get r em
 rw [e] at e2
 cases e2
 exact ⟨_,eb,q⟩
theorem range_all (bs:List Bool):(List.range bs.length).all (fun i=>bs.getD i false) = bs.all id:=by
 rw [Bool.eq_iff_iff,QD,QD]
 constructor
 ·intro h b hb
  obtain ⟨i,hi,rfl⟩:=getElem_of_mem hb
  have:=h i (mem_range.mpr hi)
  simpa [List.getD,hi] using this
 ·intro h i hi
  have hi':=mem_range.mp hi
  have:=h bs[i] (getElem_mem hi')
  simpa [List.getD,hi'] using this
section
theorem zkV (hc:X.calm = true):CallR X (.builtin "all") (fun xs H Q=>∃ (p:Addr) (bs:List Bool),xs = [.ref p]/\SqL X.K H p (bs.map V.bl)/\Q (.bl (bs.all id)) H):=by
 intro pins s σ H xs us Q I r h
 obtain ⟨p,bs,rfl,hq,q⟩:=h
 obtain ⟨u,rfl,rx⟩:=vals1 r
 cases rx
 obtain ⟨its,r',pl,hz⟩:=I.list hq
 have hlen:=r'.length
 rw [Qf] at hlen
 refine call_all_walk (wpAny_pyIter_list pl.isList ?_)
 have hlt:p < s.heap.objs.size:=by
  obtain ⟨o,n,ho,_⟩:=pl
  exact Qc ho
 refine ⟨s.heap.objs.size,_,_,_,_,_,fun i=>bs.getD i false,rfl,Walks.list (by exact I.ok.hd hc) _ p (Qi hlt) its.toArray,⟨⟨_,Qj _ rfl,rfl,rfl⟩,?_⟩,?_,fun h' tk hk=>?_⟩
 ·obtain ⟨o,ho,c⟩:=pl.isList
  exact ⟨o,Q2 _ ho,c⟩
 ·intro i v s' Q' E' e hq'
  obtain ⟨b,eb,rfl⟩:=zoj r' (show its[i]? = some v by simpa using e)
  have:bs.getD i false = b:=by simp [List.getD,eb]
  have hq2:Q' (bs.getD i false) s':=hq'
  rw [this] at hq2
  exact wpAny_truthy_bool hq2
 ·have e:(List.range its.toArray.size).all (fun i=>bs.getD i false) = bs.all id:=by
   rw [← range_all bs,show its.toArray.size = bs.length by simp [hlen]]
  rw [e]
  refine ⟨.bl (bs.all id),H,I.kept (t':=tk) (fun b o eb=>hk b o (fun z=>?_) (Q2 _ eb)),rfl,q⟩
  have z':b = s.heap.objs.size:=by simpa using z
  exact absurd (Qc eb) (by rw [z'];exact Qm _)
end
section
noncomputable def zqK (K:Frag):R2:=fun x y H Q=>∃ a b xs ys,x = .ref a/\y = .ref b/\SqT K H a xs/\SqT K H b ys/\xs.length + ys.length<=sizeLine /\
 (xs = []->Q (.ref b) H)/\(xs ≠ []->ys = []->Q (.ref a) H)/\(xs ≠ []->ys ≠ []->∀ p,H p = none->Q (.ref p) (upd H p (.tup (xs ++ ys))))
theorem znz:OpR X (binaryOp .Add) (zqK X.K):=by
 intro pins s σ H x y v u Q I rx ry h
 obtain ⟨a,b,xs,ys,rfl,rfl,ha,hb,hz,q0,q1,q2⟩:=h
 by_cases hx:xs = []
 ·cases rx
  cases ry
  obtain ⟨its,r1,p1,_⟩:=I.tuple ha
  obtain ⟨its2,r2,p2,_⟩:=I.tuple hb
  obtain ⟨⟨cls,dd,data,sl⟩,ho,hc,n,hd⟩:=id p1
  obtain ⟨⟨cls2,dd2,data2,sl2⟩,ho2,hc2,n2,hd2⟩:=id p2
  simp only at hc hd hc2 hd2
  subst hc hd hc2 hd2
  have e:its = []:=r1.nil_iff.mpr hx
  exact concat_meets ⟨_,ho,rfl⟩ ⟨_,ho2,rfl⟩ noFill_tuple_add seq_tuple_add PySem.F.slot_tuple_add PySem.F.entry_tuple_add (PySem.F.args_tuple_add_2 _ _)
   (tuple_addW0 a b its.toArray its2.toArray n n2 dd dd2 sl sl2 (by simp [e])) ⟨ho,ho2,⟨.ref b,H,I,rfl,q0 hx⟩⟩
 ·exact znx pins s σ H _ _ v u Q I rx ry ⟨a,b,xs,ys,rfl,rfl,ha,hb,hx,hz,q1 hx,q2 hx⟩
end
end L2
namespace HT
open PySem PySem.Spec PyProof.Rows
section
variable {prog:Program} {w:World} {A:Around} {E:Value->Shared->Prop} {s:Shared}
theorem zdz {t sl:Addr} {items:Array Value} {vl vu:Value} {lo hi:Option Int} {Q:Value->Shared->Prop} (ht:IsTup s.heap t items) (hs:s.heap.IsSliceOf sl vl vu .none) (pl:IsPart vl lo) (pu:IsPart vu hi)
  (hw:sIx items.size 0 lo = 0/\sIx items.size items.size hi = items.size) (h:Q (.ref t) s):wpAny (model prog w) A (getItem (.ref t) (.ref sl)) Q E s:=by
 obtain ⟨os,hos,hcs,hds⟩:=id hs
 have hTs:s.TypeIs (.ref sl) "slice":=⟨os,hos,hcs⟩
 unfold getItem
 try with_reducible refine wpAny_holding ?_
 first | refine Q1 (Qd ?_) | skip
 refine Q1 (wpAny_sequenceKey ht.typeIs (by decide) ?_)
 refine Q1 (wpAny_callSpecial?_slot (name:=Str.ofString "__getitem__") ht.typeIs PyProof.Rows.slot_tuple_getitem
  (wpAny_call_entry PyProof.Rows.slot_tuple_getitem ht.typeIs entry_tuple_getitem ?_ (args_tuple_getitem _ _)))
 show wpAny _ _ (Builtin.Tuple.tupleItemsOf (.ref t) >>= _) _ _ s
 refine Q1 (tupleItemsOf_ ht ?_)
 refine Q1 (wpAny_typeOf hTs ?_)
 rw [Qw (by decide)]
 refine Q1 (zb1 hs pl pu ?_)
 have hyes:(((sIx items.size 0 lo:Nat):Int) == 0 && (1:Int) == 1 && (sIx items.size items.size hi - sIx items.size 0 lo) == items.size) = true:=by
  rw [hw.1,hw.2];simp
 show wpAny _ _ (if (((sIx items.size 0 lo:Nat):Int) == 0 && (1:Int) == 1 && (sIx items.size items.size hi - sIx items.size 0 lo) == items.size) = true then _ else _) _ _ s
 rw [Qw hyes]
 refine Q1 ?_
 unfold Builtin.Tuple.tupleIsExact
 refine Q1 (wpAny_typeOf ht.typeIs (Qd ?_))
 rw [Qw (by decide)]
 exact Q1 (wpAny_rule (Qd ⟨_,rfl,Qd h⟩))
end
end HT
namespace L2
open PySem PySem.Spec PyProof.Rows
variable {X:Cx}
section
noncomputable def zrS (K:Frag):V->Option Int->Option Int->Hp->VK->Prop:=fun x lo hi H Q=>∃ a xs,x = .ref a/\SqT K H a xs /\
 ((HT.sIx xs.length 0 lo = 0/\HT.sIx xs.length xs.length hi = xs.length)->Q (.ref a) H)/\(¬ (HT.sIx xs.length 0 lo = 0/\HT.sIx xs.length xs.length hi = xs.length)->∀ p,H p = none->Q (.ref p) (upd H p (.tup (cutV xs lo hi))))
theorem zm2:SlR X (zrS X.K):=by
 intro pins s σ H x v vl vu lo hi sl Q I rx hs pl pu h
 obtain ⟨a,xs,rfl,hx,q1,q2⟩:=h
 by_cases hw:HT.sIx xs.length 0 lo = 0/\HT.sIx xs.length xs.length hi = xs.length
 ·cases rx
  obtain ⟨its,r,ht,hz⟩:=I.tuple hx
  have hlen:its.toArray.size = xs.length:=by rw [Qg];exact r.length.symm
  refine ⟨"tuple",_,PyProof.Rows.slot_tuple_getitem.lookup,ht.typeIs,?_⟩
  refine HT.zdz ht hs pl pu (by rw [hlen];exact hw) ⟨.ref a,H,I,rfl,q1 hw⟩
 ·exact zoI pins s σ H _ v vl vu lo hi sl Q I rx hs pl pu ⟨a,xs,rfl,hx,hw,q2 hw⟩
theorem zeJ:fillsNumberSlot (.type "tuple") "mul" = pure false:=
 PySem.fillsNumberSlot_seq (id:="tuple.__mul__") (r:=some (.builtin "tuple.__rmul__")) PySem.F.slot_tuple_mul.lookup (by decide +kernel) PySem.F.slot_tuple_rmul.lookup (by decide +kernel)
theorem zgP:seqRepeat? (.type "tuple") = pure (some (.builtin "tuple.__mul__")):=by
 unfold seqRepeat?
 rw [PySem.seqSlot_of (T:="tuple") (name:="__mul__") (id:="tuple.__mul__") PySem.F.slot_tuple_mul.lookup (by decide +kernel),PySem.seqSlot_of (T:="tuple") (name:="__rmul__") (id:="tuple.__rmul__") PySem.F.slot_tuple_rmul.lookup (by decide +kernel)]
 rfl
theorem zfv (a:Int) (t:Tok) (l:Addr) (items:Array Value) (n:Nat) (dd:Option Addr) (sl:Array (Option Value)) :
  Meets (Builtin.«int.__rmul__» ⟨[.int a t,.ref l],[]⟩) (fun _ R s=>s.heap.get? l = some { cls:=.type "tuple",dict:=dd,data:=.seq items n,slots:=sl }/\R (.ok (.ret Value.notImplemented)) s):=
 .of_wp fun prog w A R s h=>by obtain ⟨hp,g,d,tk,os⟩:=s;obtain ⟨hl,h⟩:=h;wp_walk;exact ⟨_,rfl,h⟩
theorem ziT (l:Addr) (items:Array Value) (n:Nat) (x:Int) (u:Tok) (dd:Option Addr) (sl:Array (Option Value)) (h0:items.isEmpty = false) (h1:2<=x) (h2:x < 2 ^ 63) (h3:items.size * x.toNat<=sizeLine) :
  Meets (Builtin.«tuple.__mul__» ⟨[.ref l,.int x u],[]⟩) (fun _ R s=>s.heap.get? l = some { cls:=.type "tuple",dict:=dd,data:=.seq items n,slots:=sl }/\R (.ok (.ret (Value.ref s.heap.objs.size))) { s with heap:=s.heap.push { cls:=Value.type "tuple",data:=Data.seq (List.foldl (fun x1 x2=>x1 ++ x2) #[] (List.replicate x.toNat items)) },toks:=s.toks }):=
 .of_wp fun prog w A R s h=>by
  obtain ⟨hp,g,d,tk,os⟩:=s;obtain ⟨hl,h⟩:=h
  have f1:=AutoSeq1.idx_int
  have hA:¬(decide (x < -2 ^ 63) || decide (x ≥ 2 ^ 63)) = true:=by simp;omega
  have hB:¬(items.isEmpty || x == 1) = true:=by rw [h0];simp;omega
  have hC:¬(decide (x<=0) || items.isEmpty) = true:=by rw [h0];simp;omega
  have hm:((items.size:Nat):Int) * x = ((items.size * x.toNat:Nat):Int):=by
   rw [Int.natCast_mul,Int.toNat_of_nonneg (by omega)]
  have hs2:(sizeLine:Nat)<=(2 ^ 63 - 1) / 8:=by decide
  have hD:¬((items.size:Nat):Int) * x > (2 ^ 63 - 1) / 8:=by rw [hm];omega
  have hE:¬Builtin.Tuple.tupleTooMany (((items.size:Nat):Int) * x) = true:=by
   rw [hm]
   show ¬ decide (((items.size * x.toNat:Nat):Int) > ((sizeLine:Nat):Int)) = true
   rw [decide_eq_true_iff];omega
  have hT:IsTup hp l items:=⟨_,hl,rfl,n,rfl⟩
  wp_walk using wpAny_loadPart' hl
  rw [Qy hA]
  refine Q1 (tupleItemsOf_ hT ?_)
  show wpAny _ _ (if (items.isEmpty || x == 1) = true then _ else _) _ _ _
  rw [Qy hB]
  show wpAny _ _ (if (decide (x<=0) || items.isEmpty) = true then _ else _) _ _ _
  rw [Qy hC]
  show wpAny _ _ (if ((items.size:Nat):Int) * x > (2 ^ 63 - 1) / 8 then _ else _) _ _ _
  rw [Qy hD]
  show wpAny _ _ (if Builtin.Tuple.tupleTooMany (((items.size:Nat):Int) * x) = true then _ else _) _ _ _
  rw [Qy hE]
  have hj:(List.foldl (fun x1 x2=>x1 ++ x2) #[] (List.replicate x.toNat items)).size<=sizeLine:=by
   have:=foldl_rep items.toList x.toNat []
   rw [nil_append,Array.toArray_toList] at this
   rw [this,Qg,len_rep,Nat.mul_comm,Array.length_toList]
   exact h3
  exact Q1 (m:=Builtin.Tuple.tupleExact _) (Qr (Qd ⟨_,rfl,h⟩) hj)
noncomputable def zqG (K:Frag):R2:=fun x y H Q=>∃ l k xs,x = .ref l/\y = .int k/\SqT K H l xs/\xs ≠ []/\2<=k/\k < 2 ^ 63/\xs.length * k.toNat<=sizeLine /\
 ∀ p,H p = none->Q (.ref p) (upd H p (.tup (List.replicate k.toNat xs).flatten))
theorem zns:OpR X (binaryOp .Mult) (zqG X.K):=by
 intro pins s σ H x y v u Q I rx ry h
 obtain ⟨l,k,xs,rfl,rfl,hH,hx,h1,h2,hz,q⟩:=h
 cases rx
 obtain ⟨t,rfl⟩:=ry
 obtain ⟨its,r,pl,_⟩:=I.tuple hH
 have hl:=r.length
 obtain ⟨⟨cls,dd,data,sl⟩,ho,hc,n,hd⟩:=id pl
 simp only at hc hd
 subst hc hd
 have hlen:its.toArray.size * k.toNat<=sizeLine:=by rw [Qg,← hl];exact hz
 have hne:its.toArray.isEmpty = false:=by
  cases its with
  | nil=>exact absurd (r.nil_iff.mp rfl) hx
  | cons a b=>rfl
 have hnew:List.foldl (fun x1 x2=>x1 ++ x2) #[] (List.replicate k.toNat its.toArray) = (List.replicate k.toNat its).flatten.toArray:=by
  have:=foldl_rep its k.toNat []
  rw [nil_append] at this
  exact this
 refine wpAny_binaryOp_repeat_ref (T:="tuple") (U:="int") (by decide) ⟨_,ho,rfl⟩ (fun s'=>typeIs_int s' k t) zeJ F.fills_int_mul F.slot_int_rmul zgP F.slot_int_index.lookup
  (call_meets F.slot_int_rmul (typeIs_int s k t) F.entry_int_rmul (F.args_int_rmul_2 _ _) (zfv k t l its.toArray n dd sl)
   ⟨ho,rfl,⟨_,ho,rfl⟩,call_meets F.slot_tuple_mul ⟨_,ho,rfl⟩ F.entry_tuple_mul (F.args_tuple_mul_2 _ _) (ziT l its.toArray n k t dd sl hne h1 h2 hlen) ⟨ho,?_⟩⟩)
 rw [hnew]
 refine ⟨.ref s.heap.objs.size,_,I.laid (t':=s.toks) (o:=.tup (List.replicate k.toNat xs).flatten) (fun b ob q=>Q2 _ q) (Q3 _) ?_,rfl,q _ (I.hok.fresh (Q3 _))⟩
 exact ⟨by rw [len_rep,Nat.mul_comm];exact hz,_,r.rep k.toNat,IsTup.new _ _,NoDict.new⟩
end
section
theorem zi4 {i0:Nat} {y0:Str} {py spos:Pos} {tg elt iter:Expr} {ifs:List Expr} {scope:Scope} {cl:List (Str × Addr)} {pos:Pos} {tgs:List Str} {caps:List (Str × Nat)} {wi:TI} {g:TG} {tc:TT} {te:TE}
  (hc:X.calm = true) (hi:PI X tg iter wi) (hclos:closureFor scope X.env = pure cl) (hcell:∀ y ∈ scope.names,y.2 = .cell->y.1 ∉ caps.map (·.1)) (hkind:scope.kind = .function)
  (hnames:∀ y ∈ scope.names,y.2 = .local->scope.names.lookup y.1 = some .local)
  (hcl:∀ y c,cl.lookup y = some c->X.env.cells.lookup y = some c)
  (hhas:∀ n y,((relabel scope X.env).names.lookup y = some .cell\/(relabel scope X.env).names.lookup y = some .free)->∃ c,(cellsFrom n scope.names cl).lookup y = some c)
  (hcap:∀ c ∈ caps,X.N[c.2]? = some c.1/\X.env.kindOf c.1 = some .cell/\((relabel scope X.env).names.lookup c.1 = some .cell\/(relabel scope X.env).names.lookup c.1 = some .free))
  (hg:∀ ex s0 H0,PG (X.block scope cl (tgs ++ caps.map (·.1)) ex s0 H0) tg g) (hif:∀ ex s0 H0,PTs (X.block scope cl (tgs ++ caps.map (·.1)) ex s0 H0) ifs tc) (hel:∀ ex s0 H0,PE (X.block scope cl (tgs ++ caps.map (·.1)) ex s0 H0) elt te)
  (hN0:X.N.Nodup) (hi0:X.N[i0]? = some y0) (hx0:Loc X.env.scope y0)
  (hsw:swapsWith (.ListComp elt [⟨tg,iter,ifs,0⟩] scope pos) (some (.Name y0 py)) spos.line X.env = pure true:=by rfl)
  (hf0:X.fn y0 = true\/X.env.scope.names.lookup y0 = some .local:=by first | exact .inl rfl | exact .inr rfl | assumption)
  (hs:∀ x,foldedSetIterable iter X.env x = pure x:=by intro _;rfl) :
  PS X (.Assign [.Name y0 py] (.ListComp elt [⟨tg,iter,ifs,0⟩] scope pos) spos) (fun D σ H=>zgh wi g tc te (zas tgs caps) σ H fun v H'=>D.nx (σ.set i0 (some v)) H'):=by
 intro pins s σ H DD I h
 rw [exec_Assign_Name_used _ _ _ _ hsw]
 refine Q1 (wpAny_standAt (Q1 ?_))
 show wpAny _ X.A (do let _ ← comprehension (.ListComp elt [⟨tg,iter,ifs,0⟩] scope pos) scope X.env _ (newList []) false (eval iter X.env) (some (assign (.Name y0 py) X.env))) _ _ s
 refine Q1 (Qe (wpAny_comprehension_free (use:=some (assign (.Name y0 py) X.env)) (Q:=fun _ s'=>SP X pins DD .next s') rfl hs hclos hkind hnames
  (thn (hi pins s σ H _ I h) fun v s1 h1=>thn h1 fun itv s2 h2=>?_)) (fun _ s' hq=>Qd (Qd hq)) fun _ _ e=>e)
 obtain ⟨it,fp,tn,J,H2,e,I2,T,st2,f2,hrest⟩:=h2
 subst e
 -- the new list
 have hD:H2 s2.heap.objs.size = none:=I2.fresh
 obtain ⟨W,⟨m0,w0⟩,turn⟩:=hrest _ hD
 refine Qr ?_ (by show 0<=sizeLine;decide)
 have I3:Inv X pins σ (upd H2 s2.heap.objs.size (.lst [])) { s2 with heap:=s2.heap.push { cls:=.type "list",data:=.seq ([]:List Value).toArray } }:=I2.lnew (t':=s2.toks) (ys:=[]) (its:=[]) .nil (by show 0<=sizeLine;decide)
 generalize hs3:({ s2 with heap:=s2.heap.push { cls:=.type "list",data:=.seq ([]:List Value).toArray } }:Shared) = s3 at I3
 have lt2:∀ b o,s2.heap.get? b = some o->s3.heap.get? b = some o:=fun b o e=>by rw [← hs3];exact Q2 _ e
 have sz3:s2.heap.objs.size < s3.heap.objs.size:=by rw [← hs3];show _ < (s2.heap.push _).objs.size;rw [Heap.size_push];exact Nat.lt_succ_self _
 have st3:tn 0 s3.heap:=T.keep 0 _ _ st2 fun b _ o e=>lt2 b o e
 have fplt:∀ b ∈ fp,b < s2.heap.objs.size:=fun b hb=>by
  obtain ⟨o,e,_⟩:=T.obj 0 _ st2 b hb
  exact Qc e
 generalize hH3:upd H2 s2.heap.objs.size (.lst []) = H3 at I3 w0
 have fr3:∀ b ∈ fp,H3 b = none:=fun b hb=>by rw [← hH3,ym (Qi (fplt b hb))];exact (f2 b hb).1
 have nstk:∀ b ∈ fp,b ∉ frs X.stack:=fun b hb z=>by
  obtain ⟨_,n1,n2,_⟩:=f2 b hb
  rcases QA.mp (I2.stkSub b z) with z | z
  ·exact n1 z
  ·exact n2 z
 refine z8 fun h4 ns4 sb4=>?_
 have keep4:∀ b o,s3.heap.get? b = some o->h4.get? b = some o:=fun b o e=>by rw [sb4];exact pushCells_keeps _ _ b o (Q2 _ e)
 have clt:∀ x c,cl.lookup x = some c->c < s3.heap.objs.size:=fun x c e=>by
  obtain ⟨v,q⟩:=I3.cell x c (hcl x c e)
  exact q.lt
 have cor:∀ x c,(cellsFrom (s3.heap.objs.size + 1) scope.names cl).lookup x = some c->cl.lookup x = some c\/s3.heap.objs.size + 1<=c:=fun x c e=>zgo _ _ _ e
 have cne:∀ b ∈ fp,∀ x c,(cellsFrom (s3.heap.objs.size + 1) scope.names cl).lookup x = some c->c ≠ b:=fun b hb x c e=>by
  rcases cor x c e with e | e
  ·exact (f2 b hb).2.2.2.2.1 x c (hcl x c e)
  ·exact Nat.ne_of_gt (Q5 (Nat.lt_trans (fplt b hb) sz3) (Nat.le_of_succ_le e))
 have neC:∀ b ∈ fp,b ≠ s3.heap.objs.size:=fun b hb=>Qi (Nat.lt_trans (fplt b hb) sz3)
 have ok':(X.block scope cl (tgs ++ caps.map (·.1)) fp s3 H3).Ok:=
  ⟨I.ok.mod,hkind,I.ok.glob,I.ok.blt,Q3 _,zfh _ _ _ (fun x y c e1 e2=>I.ok.inj x y c (hcl x c e1) (hcl y c e2)) (fun x c e=>Nat.lt_succ_of_lt (clt x c e)),hhas _,(fun x c z e=>Nat.le_of_succ_le (zff _ _ _ (eq_of_beq z) e)),I.ok.hd,I.ok.frames,.inl rfl,
   fun b hb=>⟨neC b hb,cne b hb⟩,I3.bs,Qh I.ok.bsz I3.sz,fun b o e hb=>by
    rcases (f2 b hb).2.2.2.1 with z | z
    ·exact I.ok.noex b o e z
    ·exact absurd (Q5 (Qc e) (Qh I.ok.bsz z)) (Qm _),
   nstk,I3.stack,I3.stkFree⟩
 have I4:Inv (X.block scope cl (tgs ++ caps.map (·.1)) fp s3 H3) [] (zas tgs caps σ) H3 { s3 with heap:=h4 }:=by
  refine ⟨ok',rfl,I3.bare,Un.kept keep4,⟨_,ns4,fun i x v e1 e2 e3=>?_⟩,fun x c e=>?_,I3.hok.fresh (Q3 _),fun x c e=>(cor x c e).elim (fun e=>I3.freeC x c (hcl x c e)) (fun e=>I3.hok.fresh (Nat.le_of_succ_le e)),fun p hp=>by simp [Cx.block] at hp,I3.hok.kept keep4,by simp [zas,Cx.block]⟩
  ·-- a captured name
   have hlen:(tgs.map (fun _=>(none:Option V))).length = tgs.length:=by simp
   by_cases hi:i < tgs.length
   ·have:(zas tgs caps σ)[i]? = some none:=by
     unfold zas
     rw [Q6 (by simpa using hi)]
     simp [hi]
    rw [this] at e2
    cases e2
   ·have e1':(tgs ++ caps.map (·.1))[i]? = some x:=e1
    rw [Q7 (by omega),Qa] at e1'
    have e2':=e2
    unfold zas at e2'
    rw [Q7 (by simpa using hi),hlen,Qa] at e2'
    cases hcq:caps[i - tgs.length]? with
    | none=>rw [hcq] at e1';cases e1'
    | some cq=>
     rw [hcq] at e1' e2'
     have ex:cq.1 = x:=Qb e1'
     have ev:(σ[cq.2]?).join = some v:=Qb e2'
     obtain ⟨c1,c2,c3⟩:=hcap cq (Q9 hcq)
     have ev':σ[cq.2]? = some (some v):=by
      cases q:σ[cq.2]? with
      | none=>rw [q] at ev;cases ev
      | some o=>rw [q] at ev;cases o with
       | none=>cases ev
       | some v'=>rw [show v' = v from Qb ev]
     obtain ⟨m,hn,hl⟩:=I3.loc
     obtain ⟨u,r,lk⟩:=hl cq.2 cq.1 v c1 ev' (.inr (.inl c2))
     rcases lk with ⟨k1,_⟩ | ⟨_,c,ec,icl⟩
     ·rw [c2] at k1;cases k1
     ·obtain ⟨c',ec'⟩:=hhas (s3.heap.objs.size + 1) cq.1 c3
      have ec2:=ec'
      rw [zfg _ _ _ fun y hy hk hyx=>hcell y hy hk (by rw [hyx];exact List.mem_map_of_mem (Q9 hcq))] at ec2
      have:=hcl _ _ ec2
      rw [ec] at this
      cases this
      refine ⟨u,r,.inr ⟨?_,c,?_,?_⟩⟩
      ·rw [← ex];exact c3
      ·rw [← ex];exact ec'
      ·obtain ⟨o,ho,hd⟩:=icl
       exact ⟨o,keep4 _ _ ho,hd⟩
  ·show ∃ v,h4.IsCell c v
   rw [sb4]
   refine zej scope.names _ cl (fun x c f=>?_) x c (by rw [Heap.size_push];exact e)
   obtain ⟨v,o,ho,hd⟩:=I3.cell x c (hcl x c f)
   exact ⟨v,o,Q2 _ ho,hd⟩
 have stat:∀ {H':Hp},(∀ b ∈ fp,H' b = none)->∀ b ∈ fp,zcI (X.block scope cl (tgs ++ caps.map (·.1)) fp s3 H3) [] H' b:=fun hn b hb=>
  ⟨hn b hb,neC b hb,nstk b hb,.inl hb,cne b hb,fun p hp=>by simp [Cx.block] at hp⟩
 have st4:tn 0 h4:=T.keep 0 _ _ st3 fun b _ o e=>keep4 b o e
 have loop:codeAny (model X.prog X.w) X.A (.compLoop (.ListComp elt [⟨tg,iter,ifs,0⟩] scope pos) 0 (.ref it) (.ref s2.heap.objs.size) (zeW scope cl s3.heap.objs.size X.env))
   (compPost (model X.prog X.w) X.A X.xe (some (assign (.Name y0 py) X.env)) (fun _ s'=>SP X pins DD .next s') (.ref s2.heap.objs.size) s3.heap.objs.size) { s3 with heap:=h4 }:=by
  refine zbd (fun n s'=>∃ i σ' H',Inv (X.block scope cl (tgs ++ caps.map (·.1)) fp s3 H3) [] σ' H' s'/\tn i s'.heap/\(∀ b ∈ fp,H' b = none)/\W i n σ' H') ?_ m0 ⟨0,_,H3,I4,st4,fr3,w0⟩
  rintro n s5 ⟨i,σ5,H5,I5,st5,fr5,w5⟩
  rcases turn i n σ5 H5 w5 with ⟨stop,qn⟩ | ⟨go,N,hN,step⟩
  ·refine Qe (T.done (X.block scope cl (tgs ++ caps.map (·.1)) fp s3 H3) rfl rfl rfl hc i [] s5 σ5 H5 (fun _ _=>False) I5 (stat fr5) st5 stop) (fun r s6 ⟨hr,I6⟩=>?_) fun _ _ z=>False.elim z
   subst hr
   obtain ⟨m6,hn6,_⟩:=I6.loc
   have nb:∀ b o,s3.heap.get? b = some o->b ≠ s3.heap.objs.size:=fun b o e=>Qi (Qc e)
   have uX:Un (frs X.stack) fp H3 H5 s3.heap s6.heap:=I6.base
   have os6:s6.os = s3.os:=I6.os
   have I6X:Inv X pins σ H5 s6:=I3.call' (s':=s6) (ch:=fp) os6 uX I6.hok I6.bare (fun b hb=>⟨(f2 b hb).2.2.2.1,(f2 b hb).2.1,(f2 b hb).2.2.2.2.1,(f2 b hb).2.2.2.2.2⟩)
   have hfC:H5 s3.heap.objs.size = none:=I6.free
   show wpAny _ X.A (assign (.Name y0 py) X.env (.ref s2.heap.objs.size)) _ _ s6
   refine wpAny_assign_Name (zfU I6X hN0 hi0 hx0 (v:=.ref s2.heap.objs.size) rfl (fun s7 I7 ⟨a,sa,ha⟩=>?_) hf0)
   have aC:s3.heap.objs.size ≠ a:=fun z=>by
    rcases ha with ha | ha
    ·have h3:=I3.lt
     rw [ha] at z
     rw [← z] at h3
     exact Qm _ h3
    ·obtain ⟨v,q⟩:=I3.cell _ _ ha
     have:=q.lt
     rw [← z] at this
     exact Qm _ this
   refine ⟨m6,hn6.sameBut sa aC,fun h' sb=>?_⟩
   have eqb:∀ b,b ≠ s3.heap.objs.size->h'.get? b = s7.heap.get? b:=fun b hb=>sb.2 b hb
   have uY:Un (frs X.stack) [s3.heap.objs.size] H5 H5 s7.heap h':=by
    refine ⟨fun b o e a1 a2 a3=>?_,fun b o e a1 a2 a3=>?_,fun _ _ _ q _=>q,fun b o e a3=>?_,fun _ _ q=>q,fun _ _ _ q=>q,fun b ps q=>⟨#[],by simpa using q⟩⟩
    ·rw [eqb b (fun z=>a3 (by rw [z];exact .head _))];exact e
    ·exact ⟨o.slots,by rw [eqb b (fun z=>a3 (by rw [z];exact .head _))];exact e⟩
    ·exact ⟨o,by rw [eqb b (fun z=>a3 (by rw [z];exact .head _))];exact e⟩
   have hokY:HOk X.prog X.w H5 h':=fun a o e=>(I7.hok a o e).stay (fun b u hb eu=>by
    have hbC:b ≠ s3.heap.objs.size:=fun z=>by
     rcases hb with rfl | hb
     ·rw [z,hfC] at e;cases e
     ·rw [z,hfC] at hb;cases hb
    rw [eqb b hbC];exact eu) (fun _ q=>q) fun _ _ q=>q
   refine ⟨σ.set i0 (some (.ref s2.heap.objs.size)),H5,I7.call' (s':={ s7 with heap:=h' }) (ch:=[s3.heap.objs.size]) rfl uY hokY I7.bare (fun b hb=>?_),qn⟩
   rw [Qz.mp hb]
   refine ⟨.inr I3.sz,Nat.ne_of_gt I3.lt,fun x c e z=>?_,fun p hp z=>?_⟩
   ·obtain ⟨v,q⟩:=I3.cell x c e
    have:=q.lt
    rw [z] at this
    exact Qm _ this
   ·have:=Qc (I3.pin p hp).1
    rw [z] at this
    exact Qm _ this
  ·refine Qe (T.item (X.block scope cl (tgs ++ caps.map (·.1)) fp s3 H3) rfl rfl rfl hc i [] s5 σ5 H5 (fun _ _=>False) I5 (stat fr5) st5 go) (fun r s6 ⟨u,hr,h6⟩=>?_) fun _ _ z=>False.elim z
   subst hr
   refine Qe h6 (fun _ s7 ⟨x,H7,I7,r7,y7,st7,fr7⟩=>?_) fun _ _ z=>False.elim z
   have I7':=I7.pinned (stat fr7) (T.obj _ _ st7)
   have again:∀ {s9:Shared} {σ9:St} {H9:Hp},Inv (X.block scope cl (tgs ++ caps.map (·.1)) fp s3 H3) ([] ++ zcN fp s7.heap) σ9 H9 s9->N σ9 H9->
     ∃ m,m < n/\∃ i σ' H',Inv (X.block scope cl (tgs ++ caps.map (·.1)) fp s3 H3) [] σ' H' s9/\tn i s9.heap/\(∀ b ∈ fp,H' b = none)/\W i m σ' H':=fun {s9 σ9 H9} I9 n9=>by
    obtain ⟨m',hm,w9⟩:=hN σ9 H9 n9
    refine ⟨m',hm,i + 1,σ9,H9,I9.unpinned,T.keep _ _ _ st7 fun b hb o e=>(I9.pin (b,o) (Qk _ (Qk _ (zaB hb e)))).1,fun b hb=>?_,w9⟩
    obtain ⟨o,e,d⟩:=T.obj _ _ st7 b hb
    exact (I9.pin (b,o) (Qk _ (Qk _ (zaB hb e)))).2.1
   refine Qe (hg fp s3 H3 _ s7 σ5 H7 x u _ I7' r7 (step x H7 y7)) (fun _ s8 ⟨σ8,H8,I8,q8⟩=>?_) fun _ _ z=>False.elim z
   refine Qe (hif fp s3 H3 _ s8 σ8 H8 _ I8 q8) (fun b s9 ⟨H9,I9,q9⟩=>?_) fun _ _ z=>False.elim z
   cases b with
   | false=>
    rw [Qy Q4] at q9
    rw [Qy Q4]
    exact again I9 q9
   | true=>
    rw [Qw rfl] at q9
    rw [Qw rfl]
    refine Qe (hel fp s3 H3 _ s9 σ8 H9 _ I9 q9) (fun xv s10 ⟨v,H10,I10,rv,ys,hy,hl,q10⟩=>?_) fun _ _ z=>False.elim z
    refine Qe (zL (X:=X.block scope cl (tgs ++ caps.map (·.1)) fp s3 H3) _ s10 σ8 H10 (.ref s2.heap.objs.size) [v] (.ref s2.heap.objs.size) [xv] (fun _ H11=>N σ8 H11) I10 rfl (.cons rv .nil) ⟨_,ys,v,rfl,rfl,hy,hl,q10⟩) (fun _ s11 ⟨_,H11,I11,_,q11⟩=>again I11 q11) fun _ _ z=>False.elim z
 exact codeAny_compStart_list loop (T.self _ 0 _ _ _ st4 loop)
end
theorem zeo (ns:List Int):∀ j,j<=ns.length->preSum (fun i=>ns.getD i 0) j = (ns.take j).sum
 | 0,_=>by simp [preSum]
 | j + 1,h=>by
  have hj:j < ns.length:=h
  unfold preSum
  rw [zeo ns j (Nat.le_of_lt hj),show ns.take (j + 1) = ns.take j ++ [ns[j]] from (by rw [List.take_succ_eq_append_getElem hj]),List.sum_append]
  simp [List.getD,hj]
theorem ints_get {ns:List Int} {its:List Value} (r:Vals (ns.map V.int) its) {i:Nat} {v:Value} (e:its[i]? = some v):∃ t,v = .int (ns.getD i 0) t:=by
 have hl:=r.length
 rw [Qf] at hl
 have hi:i < its.length:=(Qx.mp e).1
 have eb:ns[i]? = some ns[i]:=by simp [show i < ns.length by omega]
 have em:(ns.map V.int)[i]? = some (V.int ns[i]):=by rw [Qa,eb];rfl
 obtain ⟨u,e2,t,q⟩:=Vals.get r em
 rw [e] at e2
 cases e2
 exact ⟨t,by rw [q];simp [List.getD,eb]⟩
section
theorem zkN (hc:X.calm = true):CallR X (.builtin "sum") (fun xs H Q=>∃ (p:Addr) (ns:List Int),xs = [.ref p]/\SqL X.K H p (ns.map V.int)/\Q (.int ns.sum) H):=by
 intro pins s σ H xs us Q I r h
 obtain ⟨p,ns,rfl,hq,q⟩:=h
 obtain ⟨u,rfl,rx⟩:=vals1 r
 cases rx
 obtain ⟨its,r',pl,hz⟩:=I.list hq
 have hlen:=r'.length
 rw [Qf] at hlen
 refine call_sum_walkAnyS (wpAny_pyIter_list pl.isList ?_)
 have hlt:p < s.heap.objs.size:=by
  obtain ⟨o,n,ho,_⟩:=pl
  exact Qc ho
 refine ⟨s.heap.objs.size,_,_,_,_,_,_,fun i=>ns.getD i 0,rfl,(Walks.list (by exact I.ok.hd hc) _ p (Qi hlt) its.toArray).toS,⟨⟨_,Qj _ rfl,rfl,rfl⟩,?_⟩,?_,fun i v e=>ints_get r' (show its[i]? = some v by simpa using e),fun s' t' hm=>?_⟩
 ·obtain ⟨o,ho,c⟩:=pl.isList
  exact ⟨o,Q2 _ ho,c⟩
 ·intro b hb
  rw [show ({ s with heap:=s.heap.push _ }:Shared).heap.objs.size = s.heap.objs.size + 1 from Heap.size_push ..]
  rcases QA.mp hb with rfl | hb
  ·exact Nat.lt_succ_self _
  ·rw [Qz.mp hb];exact Nat.lt_succ_of_lt hlt
 ·obtain ⟨h',g',d',tk,o'⟩:=s'
  have e1:g' = s.gens:=hm.gens
  have e2:d' = s.drawn:=hm.drawn
  have e3:o' = s.os:=hm.os
  subst e1;subst e2;subst e3
  have e:preSum (fun i=>ns.getD i 0) its.toArray.size = ns.sum:=by
   rw [show its.toArray.size = ns.length by simp [hlen],zeo ns _ (Q3 _),take_length]
  rw [e]
  refine ⟨.int ns.sum,H,I.kept (t':=tk) (fun b o eb=>hm.heap b o (fun z=>?_) (Q2 _ eb)),⟨t',rfl⟩,q⟩
  have z':b = s.heap.objs.size:=by simpa using z
  exact absurd (Qc eb) (by rw [z'];exact Qm _)
end
end L2
namespace L2
open PySem PySem.Spec PyProof.Rows PySem.Builtin PySem.Builtin.ObjectAttr
inductive Tl (h:Heap) (bmB:List Value) (ns:List Str):List Value->Prop
 | base:Tl h bmB ns bmB
 | own {a:Addr} {c:Value} {dd:Option Addr} {cd:ClassData} {sl:Array (Option Value)} {mA:Str->Option Value} {tl:List Value} (e:h.get? a = some ⟨c,dd,.cls cd,sl⟩) (hn:h.Ns cd.ns mA) (no:∀ n ∈ ns,mA n = none) (t:Tl h bmB ns tl):Tl h bmB ns (.ref a :: tl)
variable {h:Heap}
section
variable {h':Heap} {bmB tl:List Value} {ns:List Str}
theorem Tl.tail (T:Tl h bmB ns tl) (hi:("__init__":Str) ∈ ns):OwnTail h bmB tl:=by
 induction T with
 | base=>exact .base
 | own e hn no _ ih=>exact .own e hn (no _ hi) ih
end
noncomputable abbrev zfd (C:Addr) (t:Addr) (od:Option Addr):Obj:=⟨.ref C,od,.fields #[.ref t,.none,.none,.none,.bool false,.none],#[]⟩
variable {C N:Addr} {A:Around} {g:Array GenState} {ab hdct:Bool} {d:Drawn} {Q:Flow->Shared->Prop} {sn:List Str} {bm:List Value} {M:Model} {dd:Option Addr} {col:Option Bool} {k0 k1 k2 k3 k5:Option Value} {os:OsState} {prog:Program} {s:Shared} {q:Str} {E:Value->Shared->Prop} {w:World}
section
variable {t:Nat}
variable {nm:Str} {fI:Addr} {bs:List Value} {sub:List Value} {mN:Str->Option Value} {rest:List Value} {oI:Obj}
theorem zot {env:PySem.Env} {x:Sem Value} (hb:bm.contains (.type "BaseException") = true) (hh:A.handled = none)
 (hq:wpAny M A x (fun v s1=>∃ e t od,v = .ref e/\s1.heap.get? C = some (excClassObj nm q C N bs bm hdct sn sub ab col dd k0 k1 k2 k3 k5 "ValueError.__new__")/\s1.heap.get? e = some (zfd C t od)/\E (.ref e) s1) E s) :
  wpAny M A (raiseStmt env (some x) none) Q E s:=by
 have hcB:(Value.ref C :: bm).contains (.type "BaseException") = true:=by rw [List.contains_cons,hb,Bool.or_true]
 unfold raiseStmt
 refine Q1 (Qe hq (fun v s1 h1=>?_) fun _ _ x=>x)
 obtain ⟨e,t,od,rfl,hC,he,hE⟩:=h1
 obtain ⟨hp,g,d,tk,os⟩:=s1
 repeat (first | with_reducible refine wpAny_loadPart_at he ?_ | with_reducible refine wpAny_loadPart_at hC ?_ | (with_reducible refine wpAny_isSubtype_exc hC ?_;rw [hcB]) | wp_step)
 exact wpAny_raiseNew_none hh hE
end
noncomputable def Qt {α:Type}:Sem α->Prop
 | .pure _=>True
 | .raise _=>True
 | .unsupported _=>True
 | .finish _=>True
 | .rule _ k=>Qt (k ())
 | .at _ k=>Qt (k ())
 | .load _ _ k=>∀ o,Qt (k o)
 | .update _ _ f k=>(∀ o:Obj,(f o).dict = o.dict/\(o.isFreed = false->(f o).isFreed = false))/\Qt (k ())
 | .alloc _ k=>∀ a,Qt (k a)
 | .loadIfAlive _ k=>∀ o,Qt (k o)
 | .point _ k=>Qt (k ())
 | .fresh k=>∀ a,Qt (k a)
 | .ask k=>∀ a,Qt (k a)
 | .handled _ k=>∀ a,Qt (k a)
 | .stack k=>∀ a,Qt (k a)
 | _=>False
theorem Qt.bind {α β:Type} {k:α->Sem β} (hk:∀ a,Qt (k a)):∀ {t:Sem α},Qt t->Qt (t >>= k):=by
 intro t
 induction t with
 | pure a=>exact fun _=>hk a
 | raise e=>exact fun _=>trivial
 | unsupported e=>exact fun _=>trivial
 | finish e=>exact fun _=>trivial
 | rule _ _ ih=>exact fun h=>ih () h
 | «at» _ _ ih=>exact fun h=>ih () h
 | load _ _ _ ih=>exact fun h o=>ih o (h o)
 | update _ _ _ _ ih=>exact fun h=>⟨h.1,ih () h.2⟩
 | alloc _ _ ih=>exact fun h o=>ih o (h o)
 | loadIfAlive _ _ ih=>exact fun h o=>ih o (h o)
 | point _ _ ih=>exact fun h=>ih () h
 | fresh _ ih=>exact fun h o=>ih o (h o)
 | ask _ ih=>exact fun h o=>ih o (h o)
 | handled _ _ ih=>exact fun h o=>ih o (h o)
 | stack _ ih=>exact fun h o=>ih o (h o)
 | _=>exact fun h=>h.elim
def Dk (s s':Shared):Prop:=∀ b o,s.heap.get? b = some o->∃ o',s'.heap.get? b = some o'/\o'.dict = o.dict
theorem Dk.refl (s:Shared):Dk s s:=fun _ o e=>⟨o,e,rfl⟩
theorem Dk.trans {a b c:Shared} (h:Dk a b) (g:Dk b c):Dk a c:=fun x o e=>by
 obtain ⟨o1,e1,d1⟩:=h x o e
 obtain ⟨o2,e2,d2⟩:=g x o1 e1
 exact ⟨o2,e2,d2.trans d1⟩
theorem Qt.wp {α:Type} {Γ:PySem.Ctx} {Q:α->Pos->Shared->Prop} {E:Value->Pos->Shared->Prop}:∀ {t:Sem α} {p:Pos} {s:Shared},Qt t->Sem.wp M Γ t Q E p s->Sem.wp M Γ t (fun a p' s'=>Q a p' s'/\Dk s s') (fun e p' s'=>E e p' s'/\Dk s s') p s:=by
 have up:∀ {t:Sem α} {p:Pos} {s s1:Shared},Dk s s1->Sem.wp M Γ t (fun a p' s'=>Q a p' s'/\Dk s1 s') (fun e p' s'=>E e p' s'/\Dk s1 s') p s1->Sem.wp M Γ t (fun a p' s'=>Q a p' s'/\Dk s s') (fun e p' s'=>E e p' s'/\Dk s s') p s1:=fun k h=>
  Sem.wp_mono M Γ _ (fun _ _ _ z=>⟨z.1,k.trans z.2⟩) (fun _ _ _ z=>⟨z.1,k.trans z.2⟩) _ _ h
 intro t
 induction t with
 | pure a=>exact fun _ h=>⟨h,.refl _⟩
 | raise e=>exact fun _ h=>⟨h,.refl _⟩
 | unsupported e=>exact fun _ h=>h
 | finish e=>exact fun _ h=>h
 | rule _ _ ih=>exact fun q h=>ih () q h
 | «at» _ _ ih=>exact fun q h=>ih () q h
 | load _ _ _ ih=>exact fun q ⟨o,e,h⟩=>⟨o,e,ih o (q o) h⟩
 | update a _ f _ ih=>
  intro p s q ⟨e,h⟩
  refine ⟨e,up (fun b o eb=>?_) (ih () q.2 h)⟩
  by_cases hb:b = a
  ·subst hb
   exact ⟨f o,Heap.get?_update_self _ eb ((q.1 o).2 (Heap.get?_some_iff.mp eb).2),(q.1 o).1⟩
  ·exact ⟨o,(Heap.get?_update_ne _ _ _ _ hb).trans eb,rfl⟩
 | alloc ob _ ih=>
  intro p s q h
  exact up (s:=s) (s1:={ s with heap:=s.heap.push ob }) (fun b o eb=>⟨o,Q2 _ eb,rfl⟩) (ih _ (q _) h)
 | loadIfAlive _ _ ih=>exact fun q h=>ih _ (q _) h
 | point _ _ ih=>exact fun q h=>ih () q h
 | fresh _ ih=>
  intro p s q h
  exact up (s:=s) (s1:={ s with toks:=s.toks + 1 }) (fun b o eb=>⟨o,eb,rfl⟩) (ih _ (q _) h)
 | ask _ ih=>exact fun q h=>ih _ (q _) h
 | handled _ _ ih=>exact fun q h=>ih _ (q _) h
 | stack _ ih=>exact fun q h=>ih _ (q _) h
 | _=>exact fun q _=>q.elim
theorem Qt.any {α:Type} {t:Sem α} {Q:α->Shared->Prop} (q:Qt t) (h:wpAny M A t Q E s):wpAny M A t (fun a s'=>Q a s'/\Dk s s') (fun e s'=>E e s'/\Dk s s') s:=fun Γ p hΓ=>q.wp (h Γ p hΓ)
variable {v:Value}
theorem zhR:Qt (fieldsOf v):=by
 unfold fieldsOf
 split
 ·exact Qt.bind (fun o=>by split <;> exact trivial) (fun _=>trivial)
 ·exact trivial
variable {i:Nat}
theorem zde:Qt (field v i):=by
 unfold field
 exact Qt.bind (fun vs=>by split <;> exact trivial) zhR
theorem zoS {f:Array Value->Array Value} (o:Obj):(Obj.mapFields f o).dict = o.dict/\(o.isFreed = false->(Obj.mapFields f o).isFreed = false):=by
 obtain ⟨c,d,dt,sl⟩:=o
 cases dt <;> exact ⟨rfl,fun h=>h⟩
theorem zcD {x:Value} :Qt (setField v i x):=by
 unfold setField
 split
 ·unfold updateField
  refine Qt.bind (fun o=>?_) (fun _=>trivial)
  split
  ·split
   ·exact ⟨zoS,trivial⟩
   ·exact trivial
  ·exact trivial
 ·exact trivial
theorem zdO {e:Value} {f:Option Addr}:Qt (setFlight e f):=by
 unfold setFlight
 refine Qt.bind (fun tb=>?_) zde
 split
 ·exact zcD
 ·exact trivial
theorem zgS:∀ l:List PySem.Env,Qt (readyFrames l)
 | []=>trivial
 | env :: outer=>by
  unfold readyFrames
  split
  ·rename_i f _
   refine Qt.bind (fun o=>?_) (fun _=>trivial)
   split
   ·exact trivial
   ·refine Qt.bind (fun b=>Qt.bind (fun k=>?_) ?_) ?_
    ·exact ⟨fun o=>⟨rfl,fun h=>by obtain ⟨c,d,dt,sl⟩:=o;cases dt <;> exact h⟩,zgS outer⟩
    ·unfold keptBack
     split
     ·split
      ·exact trivial
      ·unfold underTheClaimsCaller
       exact fun _=>trivial
     ·exact trivial
    ·unfold behindIsImport
     split
     ·exact trivial
     ·split
      ·exact trivial
      ·refine Qt.bind (fun _=>?_) zde
       exact trivial
  ·exact trivial
theorem zi3 {env:PySem.Env}:Qt (PySem.frameOf env):=by
 unfold PySem.frameOf
 refine Qt.bind (fun l=>Qt.bind (fun o=>?_) ?_) (show Qt frameEnvs from fun _=>trivial)
 ·split <;> exact trivial
 ·unfold frameObject
  split
  ·exact trivial
  ·refine Qt.bind (fun _=>?_) (zgS _)
   exact trivial
theorem zhQ {a b c d e:Value} {l:List Value}:Qt (EntryCells.newEntry a b c d e l):=by
 have nw:∀ dt:Data,Qt (newObjAsIs (.type "traceback") dt):=fun dt _=>trivial
 unfold EntryCells.newEntry newFields newObj
 dsimp only
 generalize (if l.isEmpty = true then List.replicate 6 Value.none else l) = m
 split
 ·exact trivial
 ·exact nw _
variable {f:Addr}
theorem zls {b:Bool}:Qt (entryPlaceOf f b):=by
 unfold entryPlaceOf
 refine Qt.bind (fun l=>?_) (fun _=>trivial)
 split <;> exact trivial
theorem zij {e:Value} {env:PySem.Env}:Qt (noteFrame e env):=by
 unfold noteFrame
 split
 ·rename_i f _
  refine Qt.bind (fun hd=>?_) zde
  have last:Qt (PySem.frameOf env >>= fun a=>entryPlaceOf f (hd != .none) >>= fun p=>EntryCells.newEntry hd a .none (rawInt f) .none p >>= fun n=>setField e 1 n):=Qt.bind (fun a=>Qt.bind (fun p=>Qt.bind (fun n=>zcD) zhQ) zls) zi3
  dsimp only
  split
  ·refine Qt.bind (fun x=>?_) zde
   split
   ·exact trivial
   ·exact Qt.bind (fun _=>last) zcD
  ·exact last
 ·exact trivial
theorem ze2 {e:Value} {env:PySem.Env}:Qt (leaving env e):=by
 unfold leaving
 exact Qt.bind (fun _=>zdO) zij
noncomputable def ExO (e C:Addr) (od:Option Addr):Heap->Prop:=fun h=>∃ ob,h.get? e = some ob/\ob.cls = .ref C/\ob.dict = od/\∀ c,ob.data ≠ .cls c
noncomputable def ExN (e C t:Addr) (od:Option Addr):Heap->Prop:=fun h=>h.get? e = some (zfd C t od)
noncomputable def zdC (H:Hp) (e:Addr):Hp:=fun b=>if b = e then none else H b
variable {e:Addr} {H:Hp}
theorem zbQ {b:Addr} (h:b ≠ e):zdC H e b = H b:=Qy h
theorem zjC:zdC H e e = none:=Qw rfl
variable {X:Cx} {pins:List (Addr × Obj)} {σ:St}
section
theorem Inv.let {φ:Heap->Prop} (I:Inv X pins σ H s) (he:H e = some (.ext φ)):Inv X pins σ (zdC H e) s:=by
 have nh:∀ b u,H b = some u->(∀ ψ,u ≠ .ext ψ)->b ≠ e:=fun b u q n z=>by rw [z,he] at q;cases q;exact n φ rfl
 have nn:∀ b,H b = none->zdC H e b = none:=fun b q=>by
  unfold zdC
  split
  ·rfl
  ·exact q
 refine ⟨I.ok,I.os,I.bare,⟨I.base.keep,I.base.slot,fun b ob q n x=>nn b (I.base.free b ob q n x),I.base.there,fun b xs q=>?_,fun b u xs q=>?_,fun b ps q=>?_⟩,I.loc,I.cell,nn _ I.free,fun x c q=>nn _ (I.freeC x c q),fun p q=>?_,?_,I.len⟩
 ·have:=I.base.tups b xs q;rw [zbQ (nh b _ this (fun _ z=>by cases z))];exact this
 ·have:=I.base.frzs b u xs q;rw [zbQ (nh b _ this (fun _ z=>by cases z))];exact this
 ·obtain ⟨m,this⟩:=I.base.tbls b ps q;exact ⟨m,by rw [zbQ (nh b _ this (fun _ z=>by cases z))];exact this⟩
 ·obtain ⟨a,b,c⟩:=I.pin p q
  exact ⟨a,nn _ b,c⟩
 ·intro b u q
  by_cases hb:b = e
  ·subst hb;rw [zjC] at q;cases q
  ·rw [zbQ hb] at q
   exact (I.hok b u q).stay (fun _ _ _ z=>z) (fun c z=>by rw [zbQ (nh c _ z (fun _ y=>by cases y))];exact z) fun c xs z=>by rw [zbQ (nh c _ z (fun _ y=>by cases y))];exact z
end
noncomputable def CXX (P:Program) (w:World):CXT:=fun l H s E ev s'=>∃ (e t C:Addr) (oe:Obj) (B:Heap) (H':Hp),ev = .ref e/\Heap.FlyingW B l e (.ref C) (.ref t) s'.heap/\s'.heap.get? e = some oe/\s'.os = s.os/\AllBare s'.gens /\
 Un (frs l) [] H H' s.heap s'.heap/\HOk P w H' s'.heap/\(∀ b o,s'.heap.get? b = some o->b ∉ frs l->(H' b ≠ none\/∃ o',s.heap.get? b = some o')->B.get? b = some o)/\(∀ b ∈ frs l,H' b = none)/\E (.ref C) oe.dict H'
variable {t:Addr} {od:Option Addr}
section
variable {E:XK}
theorem ziI {s1:Shared} {B:Heap} (I:Inv X pins σ H s) (hst:X.stack = X.env :: X.outer) (hf:X.env.frame = some X.env.locals) (hex:X.ex = [])
 (hE:E (.ref C) od H) (hB:∀ b o,s.heap.get? b = some o->b ∉ frs X.stack->(H b ≠ none\/∃ o',X.s₀.heap.get? b = some o')->B.get? b = some o) (fl:Heap.FlyingW B X.outer e (.ref C) (.ref t) s1.heap) (up:s.heap.UpToSlots s1.heap) (hd:∃ oe,s1.heap.get? e = some oe/\oe.dict = od)
 (os:s1.os = s.os) (ge:s1.gens = s.gens):CXX X.prog X.w X.outer X.H₀ X.s₀ E (.ref e) s1:=by
 obtain ⟨oe,he,hod⟩:=hd
 have u0:Un (frs X.outer) [] X.H₀ H X.s₀.heap s.heap:=by have:=I.base;rw [hex] at this;exact this
 have sub1:∀ b ∈ frs X.outer,b ∈ frs X.stack:=fun b hb=>by
  rw [hst];unfold frs
  rw [filterMap_cons,hf]
  exact mem_cons_of_mem _ hb
 have nst:∀ b o,s.heap.get? b = some o->b ∉ frs X.outer->(H b ≠ none\/∃ o',X.s₀.heap.get? b = some o')->b ∉ frs X.stack:=fun b o e1 n1 q1 hm=>by
  rw [hst] at hm
  unfold frs at hm
  rw [filterMap_cons,hf] at hm
  rcases QA.mp hm with z | z
  ·rcases q1 with q1 | ⟨o',q1⟩
   ·rw [z] at q1;exact q1 I.free
   ·rw [z] at q1;exact absurd (Qc q1) (Nat.not_lt.mpr I.ok.above)
  ·exact n1 z
 have hB1:∀ b o,s.heap.get? b = some o->b ∉ frs X.outer->(H b ≠ none\/∃ o',X.s₀.heap.get? b = some o')->B.get? b = some o:=fun b o e1 n1 q1=>hB b o e1 (nst b o e1 n1 q1) q1
 have hfr:∀ b ∈ frs X.outer,H b = none:=fun b hb=>I.stkFree b (sub1 b hb)
 have hfn:∀ b ∈ frs X.outer,∀ o,s.heap.get? b = some o->∀ vs,o.data ≠ .fields vs:=fun b hb o e1=>by
  obtain ⟨_,o',e2,n2⟩:=I.stack.mem (sub1 b hb)
  rw [e1] at e2;cases e2
  exact n2
 obtain ⟨un2,hok2⟩:=zms u0 I.hok hB1 hfr hfn fl.1 up
 refine ⟨e,t,C,oe,B,H,rfl,fl,he,os.trans I.os,by rw [ge];exact I.bare,un2,hok2,fun b o e1 n1 q1=>?_,hfr,by rw [hod];exact hE⟩
 have hex2:∃ o1,s.heap.get? b = some o1:=by
  rcases q1 with q1 | ⟨o',q1⟩
  ·cases z:H b with
   | none=>exact absurd z q1
   | some u=>exact (I.hok b u z).there
  ·exact u0.there b o' q1 (by simp)
 obtain ⟨o1,e2⟩:=hex2
 have e3:=hB1 b o1 e2 n1 q1
 have e4:=fl.1 b o1 e3
 rw [e1] at e4;cases e4
 exact e3
theorem zj2 (hst:X.stack = X.env :: X.outer) (hf:X.env.frame = some X.env.locals) (hex:X.ex = [])
  (hxe:X.xe = fun ev s'=>wpAny (model X.prog X.w) X.A (leaving X.env ev) (fun _ s''=>CXX X.prog X.w X.outer X.H₀ X.s₀ E ev s'') (fun e' s''=>CXX X.prog X.w X.outer X.H₀ X.s₀ E e' s'') s'):Passes (CXX X.prog X.w) X E:=by
 intro pins σ H s ev s' I ⟨e,t,C,oe,B,H',e0,fl,he,os,bare,un,hok,hB,hfr,hE⟩
 subst e0
 rw [hxe]
 have I1:Inv X pins σ H' s':=I.call' (ch:=[]) os un hok bare (fun b z=>absurd z (by simp))
 have hfrm:X.A.frames = some (X.env :: X.outer):=by rw [I.ok.frames,hst]
 rw [hst] at fl
 have w1:=ze2.any (wpAny_leaves_onW (M:=model X.prog X.w) (E:=fun _ _=>False) (Q:=fun _ s2=>∃ h',s2 = { s' with heap:=h' }/\Heap.FlyingW B X.outer e (.ref C) (.ref t) h'/\s'.heap.UpToSlots h') hfrm hf fl fun h' a b=>⟨h',rfl,a,b⟩)
 refine Qe w1 ?_ fun _ _ z=>z.1.elim
 rintro _ s2 ⟨⟨h',rfl,fl',up⟩,dk⟩
 refine ziI (s1:={ s' with heap:=h' }) I1 hst hf hex hE (fun b o e1 n1 q1=>hB b o e1 n1 ?_) fl' up (dk e oe he) rfl rfl
 rcases q1 with q1 | ⟨o',q1⟩
 ·exact .inl q1
 ·exact .inr (I.base.there b o' q1 (by rw [hex];simp))
theorem zod (I:Inv X pins σ H s) (hst:X.stack = X.env :: X.outer) (hf:X.env.frame = some X.env.locals) (hex:X.ex = [])
 (hxe:X.xe = fun ev s'=>wpAny (model X.prog X.w) X.A (leaving X.env ev) (fun _ s''=>CXX X.prog X.w X.outer X.H₀ X.s₀ E ev s'') (fun e' s''=>CXX X.prog X.w X.outer X.H₀ X.s₀ E e' s'') s')
 (he:s.heap.get? e = some (zfd C t od)) (hn:H e = none) (h0:X.s₀.heap.get? e = none) (hE:E (.ref C) od H):X.xe (.ref e) s:=by
 rw [hxe]
 have hfrm:X.A.frames = some (X.env :: X.outer):=by rw [I.ok.frames,hst]
 have hff:s.heap.FunFrames X.base (X.env :: X.outer):=by have:=I.stack;rw [hst] at this;exact this
 have hin:∀ env ∈ (X.env :: X.outer),∀ b,env.frame = some b->b ∈ e :: frs (X.env :: X.outer):=fun env he b hb=>mem_cons_of_mem _ (List.mem_filterMap.mpr ⟨env,he,hb⟩)
 have w1:=ze2.any (wpAny_leaving_firstW (M:=model X.prog X.w) (E:=fun _ _=>False) (base:=PySem.W.hideAll s.heap (e :: frs (X.env :: X.outer))) (a0:=.ref t) (Q:=fun _ s2=>∃ h',s2 = { s with heap:=h' }/\Heap.LeftW (PySem.W.hideAll s.heap (e :: frs (X.env :: X.outer))) (X.env :: X.outer) e (.ref C) (.ref t) s.heap h') hfrm (PySem.W.funFrames_hide hff hin) hf he (fun b o e1=>PySem.W.of_hideAll _ e1) (PySem.W.hideAll_none _ (mem_cons_self ..)) rfl rfl rfl fun h' a=>⟨h',rfl,a⟩)
 refine Qe w1 ?_ fun _ _ z=>z.1.elim
 rintro _ s2 ⟨⟨h',rfl,k1,⟨_,_,k2⟩,k3,k4⟩,dk⟩
 refine ziI (s1:={ s with heap:=h' }) I hst hf hex hE (fun b o e1 n1 q1=>?_) ⟨k1,PySem.W.hideAll_none _ (mem_cons_self ..),k2,k3⟩ k4 (dk e _ he) rfl rfl
 refine PySem.W.hideAll_get _ e1 fun hm=>?_
 rcases QA.mp hm with z | z
 ·rcases q1 with q1 | ⟨o',q1⟩
  ·rw [z] at q1;exact q1 hn
  ·rw [z,h0] at q1;cases q1
 ·rw [hst] at n1;exact n1 z
end
noncomputable abbrev xns:List Str:=["__setattr__","at","__getattribute__","__getattr__"]
structure XcAt (K:Frag) (mg:Str->Option Value) (x:Str) (C fI:Addr):Prop where
 bound:mg x = some (.ref C)
 obj:∀ h:Heap,K.In h->∃ bm N nm q bs sn sub ab col dd k0 k1 k2 k3 k5 mN,h.get? C = some (excClassObj nm q C N bs bm true sn sub ab col dd k0 k1 k2 k3 k5 "ValueError.__new__")/\h.Ns N mN/\mN "__init__" = some (.ref fI)/\(∀ n ∈ xns,mN n = none)/\Tl h zeV ("__init__" :: xns) bm
 fn:∃ oI,K.lookup fI = some oI/\oI.cls = .type "function"
variable {pos:Pos}
section
variable {E:XK} {o value:Expr} {ta tv:TE} {pos':Pos}
theorem Inv.new0 (I:Inv X pins σ H s) (hex:X.ex = []) (he:s.heap.get? e = none):X.s₀.heap.get? e = none/\H e = none/\e ≠ X.env.locals/\(∀ x c,X.env.cells.lookup x = some c->c ≠ e)/\∀ p ∈ X.pn ++ pins,p.1 ≠ e:=by
 refine ⟨?_,?_,fun z=>?_,fun x c q z=>?_,fun p q z=>?_⟩
 ·cases q:X.s₀.heap.get? e with
  | none=>rfl
  | some u=>
   obtain ⟨o',e'⟩:=I.base.there e u q (by rw [hex];simp)
   rw [he] at e';cases e'
 ·cases q:H e with
  | none=>rfl
  | some u=>
   obtain ⟨o',e'⟩:=(I.hok e u q).there
   rw [he] at e';cases e'
 ·obtain ⟨m,⟨ob,_,_,e',_⟩,_⟩:=I.loc
  rw [← z,he] at e';cases e'
 ·obtain ⟨v,ob,e',_⟩:=I.cell x c q
  rw [z,he] at e';cases e'
 ·have:=(I.pin p q).1
  rw [z,he] at this;cases this
end
variable {np:Pos} {x:Str}
section
variable {env:PySem.Env}
variable {nm:Str} {bs:List Value} {sub:List Value}
theorem zi2 {cpos:Pos} {args:List Expr} (hb:bm.contains (.type "BaseException") = true) (hh:A.handled = none) (hp:(backTo cpos (starEach args env)).any (·.1) = false)
 (h:wpAny (model prog w) A (eval (.Name x np) env) (fun f s1=>f = .ref C/\wpAny (model prog w) A (evalArgs (.ref C) true (backTo cpos (starEach args env)) []) (fun a s2=>a.kw = []/\s2.heap.get? C = some (excClassObj nm q C N bs bm hdct sn sub ab col dd k0 k1 k2 k3 k5 "ValueError.__new__") /\
 wpAny (model prog w) A (call (.ref C) a.pos) (fun v s3=>∃ e t od,v = .ref e/\s3.heap.get? C = some (excClassObj nm q C N bs bm hdct sn sub ab col dd k0 k1 k2 k3 k5 "ValueError.__new__")/\s3.heap.get? e = some (zfd C t od)/\E (.ref e) s3) E s2) E s1) E s) :
  wpAny (model prog w) A (exec (.Raise (some (.Call (.Name x np) args [] cpos)) none pos) env) Q E s:=by
 rw [arm_exec_Raise]
 refine Q1 (wpAny_standAt (zot (C:=C) (nm:=nm) (q:=q) (N:=N) (bs:=bs) (bm:=bm) (hdct:=hdct) (sn:=sn) (sub:=sub) (ab:=ab) (col:=col) (dd:=dd) (k0:=k0) (k1:=k1) (k2:=k2) (k3:=k3) (k5:=k5) hb hh ?_))
 try simp only [evalOpt,Option.map]
 refine Q1 (Qe (wpAny_Call_ofName (Qe h (fun f s1 h1=>?_) fun _ _ y=>y)) (fun v s3 h3=>Q1 (wpAny_standAt (Qd h3))) fun _ _ y=>y)
 obtain ⟨rfl,h1⟩:=h1
 unfold callWith
 refine Q1 (wpAny_holding (Qe h1 (fun a s2 h2=>Q1 (wpAny_standAt ?_)) fun _ _ y=>y))
 obtain ⟨ap,ak⟩:=a
 obtain ⟨hkw,hC,h2⟩:=h2
 obtain rfl:ak = []:=hkw
 obtain ⟨hp',g,d,tk,os⟩:=s2
 simp only [hp]
 refine Q1 (wpAny_keeperOf_exc hC (Q1 (Qe h2 (fun v s3 h3=>Q1 (wpAny_holding (wpAny_point (Qd ?_)))) fun _ _ y=>y)))
 exact h3
end
structure Sup (K:Frag) (mg:Str->Option Value) (y:Str) (C C':Addr):Prop where
 bound:mg y = some (.ref C)
 obj:∀ h:Heap,K.In h->(∃ bm N nm q bs hdct sn sub ab col dd k0 k1 k2 k3 k5,h.get? C = some (excClassObj nm q C N bs bm hdct sn sub ab col dd k0 k1 k2 k3 k5 "ValueError.__new__")/\bm.contains (.type "BaseException") = true) /\
  ∃ bm N nm q bs hdct sn sub ab col dd k0 k1 k2 k3 k5,h.get? C' = some (excClassObj nm q C' N bs bm hdct sn sub ab col dd k0 k1 k2 k3 k5 "ValueError.__new__")/\(Value.ref C' :: bm).contains (.ref C) = true
theorem zkE {nm nm' q':Str} {C' N':Addr} {bs bs' bm':List Value} {hd hd':Bool} {sn':List Str} {sub sub':List Value} {ab':Bool} {col':Option Bool} {dd':Option Addr} {j0 j1 j2 j3 j5:Option Value}
 {t:Nat} {oe:Obj} {Q:Bool->Shared->Prop} (hC:h.get? C = some (excClassObj nm q C N bs bm hd sn sub ab col dd k0 k1 k2 k3 k5 "ValueError.__new__")) (hC':h.get? C' = some (excClassObj nm' q' C' N' bs' bm' hd' sn' sub' ab' col' dd' j0 j1 j2 j3 j5 "ValueError.__new__"))
 (he:h.get? e = some oe) (hc:oe.cls = .ref C') (hb:bm.contains (.type "BaseException") = true) (hm:(Value.ref C' :: bm').contains (.ref C) = true) (hq:Q true ⟨h,g,d,t,os⟩):wpAny M A (excMatches (.ref e) (.ref C)) Q E ⟨h,g,d,t,os⟩:=by
 have hcB:(Value.ref C :: bm).contains (.type "BaseException") = true:=by rw [List.contains_cons,hb,Bool.or_true]
 have f:=tc_notTuple
 unfold excMatches
 repeat (first | (with_reducible refine wpAny_loadPart_at he ?_;rw [hc]) | with_reducible refine wpAny_loadPart_at hC ?_ | (with_reducible refine wpAny_isSubtype_exc hC ?_;rw [hcB]) | (with_reducible refine wpAny_isSubtype_exc hC' ?_;rw [hm]) | wp_step)
 exact hq
variable {D:Ends} {hp:Pos} {s':Shared} {b0:Stmt} {y:Str} {th:TS} {ev:Value}
section
variable {suite:List Stmt} {rest:List ExceptHandler}
theorem zkL {E:XK} {nmo:Option Str} (hg:Gl X y) (hst:X.stack = X.env :: X.outer) (hf:X.env.frame = some X.env.locals) (hex:X.ex = []) (I:Inv X pins σ H s)
  (hq:CXX X.prog X.w X.stack H s E ev s') (hS:∀ C' od H',E (.ref C') od H'->Sup X.K X.mg y C C')
  (go:∀ e t C' od B H' h5,(∀ h6,B.StaysIn h6->h5.UpToSlots h6->Inv X pins σ H' { s' with heap:=h6 })->Heap.FlyingW B X.stack e (.ref C') (.ref t) h5->(∃ oe,h5.get? e = some oe/\oe.dict = od)->
   (X.s₀.heap.get? e = none/\H' e = none/\e ≠ X.env.locals/\(∀ x c,X.env.cells.lookup x = some c->c ≠ e)/\∀ p ∈ X.pn ++ pins,p.1 ≠ e)->E (.ref C') od H'->
   codeAny (model X.prog X.w) (X.A.mark (some (.ref e))) (.handlers (.ref e) [.ExceptHandler none nmo (b0 :: suite) hp] X.env) (fun r s2=>match r with
     | .ok f=>(match nmo with
      | none=>SP X pins D f s2
      | some n=>wpAny (model X.prog X.w) X.A (do bindName X.env n .none;unbindBehindTheSuite X.env n hp) (fun _ s3=>SP X pins D f s3) X.xe s2)
     | .error x=>cameBackBy (model X.prog X.w) X.A X.env X.xe x s2) { s' with heap:=h5 }) (hd:(y == ("__debug__":Str)) = false:=by decide) :
  wpAny (model X.prog X.w) X.A (noteFrame ev X.env) (fun _ s2=>wpAny (model X.prog X.w) X.A (setFlight ev none) (fun _ s3=>wpAny (model X.prog X.w) X.A (handleBy ev X.env (.ExceptHandler (some (.Name y np)) nmo (b0 :: suite) hp :: rest)) (SP X pins D) X.xe s3) X.xe s2) X.xe s':=by
 obtain ⟨e,t,C',oe,B,H',rfl,fl,he,os,bare,un,hok,hB,hfr,hE⟩:=hq
 have hfrm:X.A.frames = some (X.env :: X.outer):=by rw [I.ok.frames,hst]
 have hfn:∀ b ∈ frs X.stack,∀ o,s'.heap.get? b = some o->∀ vs,o.data ≠ .fields vs:=fun b hb o e1=>by
  obtain ⟨_,o',e2,n2⟩:=fl.2.2.1.mem hb
  rw [e1] at e2;cases e2
  exact n2
 have inv_at:∀ h2:Heap,B.StaysIn h2->s'.heap.UpToSlots h2->Inv X pins σ H' { s' with heap:=h2 }:=fun h2 st up=>by
  obtain ⟨un2,hok2⟩:=zms un hok hB hfr hfn st up
  exact I.call' (s':={ s' with heap:=h2 }) (ch:=[]) os un2 hok2 bare (fun b z=>absurd z (by simp))
 have ne:s.heap.get? e = none:=by
  cases q:s.heap.get? e with
  | none=>rfl
  | some u=>
   have hf2:e ∉ frs X.stack:=fun hm=>by
    obtain ⟨oe',h1,_⟩:=fl.there
    obtain ⟨oe2,vs2,h2,_,h3,_⟩:=fl.first
    exact hfn e hm oe2 h2 vs2 h3
   have:=hB e oe he hf2 (.inr ⟨u,q⟩)
   rw [fl.2.1] at this;cases this
 have he0:H' e = none:=by
  cases q:H' e with
  | none=>rfl
  | some u=>
   have hf2:e ∉ frs X.stack:=fun hm=>by
    obtain ⟨oe2,vs2,h2,_,h3,_⟩:=fl.first
    exact hfn e hm oe2 h2 vs2 h3
   have:=hB e oe he hf2 (.inl (by rw [q];simp))
   rw [fl.2.1] at this;cases this
 obtain ⟨b1,_,b3,b4,b5⟩:=I.new0 hex ne
 obtain ⟨⟨bm,N,nm,q,bs,hdct,sn,sub,ab,col,dd,k0,k1,k2,k3,k5,hC,hcb⟩,bm',N',nm',q',bs',hdct',sn',sub',ab',col',dd',j0,j1,j2,j3,j5,hC',hcc⟩:=(hS C' oe.dict H' hE).obj X.base I.ok.mod.kin
 rw [hst] at fl
 refine Qe (zij.any (wpAny_looks_onW (M:=model X.prog X.w) (E:=fun _ _=>False) (Q:=fun _ s2=>∃ h4,s2 = { s' with heap:=h4 }/\Heap.HeldW B (X.env :: X.outer) e (.ref C') (.ref t) X.env.locals h4/\s'.heap.UpToSlots h4) hfrm hf fl fun h' a b=>⟨h',rfl,a,b⟩)) ?_ fun _ _ z=>z.1.elim
 rintro _ s4 ⟨⟨h4,rfl,hl4,up4⟩,dk4⟩
 refine Qe (zdO.any (wpAny_landsW (M:=model X.prog X.w) (A:=X.A) (E:=fun _ _=>False) (s:={ s' with heap:=h4 }) (Q:=fun _ s2=>∃ h5,s2 = { s' with heap:=h5 }/\Heap.FlyingW B (X.env :: X.outer) e (.ref C') (.ref t) h5/\h4.UpToSlots h5) hl4 fun h' a b=>⟨h',rfl,a,b⟩)) ?_ fun _ _ z=>z.1.elim
 rintro _ s5 ⟨⟨h5,rfl,fl5,up5⟩,dk5⟩
 have up45:=up4.trans up5
 have I5:=inv_at h5 fl5.1 up45
 have d5:=(dk4.trans dk5) e oe he
 refine wpAny_handleBy_cons (codeAny_handlers_test ?_) (by intro z;cases z)
 refine zcR (X:=X.suite e) (I5.suite e) hg (hS C' oe.dict H' hE).bound ?_ hd
 obtain ⟨o5,ge5,gd5⟩:=d5
 obtain ⟨o5',ge5',gc5⟩:=fl5.there
 rw [ge5] at ge5';cases ge5'
 refine zkE (I5.bk _ _ hC) (I5.bk _ _ hC') ge5 gc5 hcb hcc ?_
 refine go e t C' oe.dict B H' h5 (fun h6 st up=>inv_at h6 st (up45.trans up)) (by rw [hst];exact fl5) ⟨o5,ge5,gd5⟩ ⟨b1,he0,b3,b4,b5⟩ hE
end
section
variable {suite:List Stmt} {rest:List ExceptHandler}
theorem zog (hg:Gl X y) (hst:X.stack = X.env :: X.outer) (hf:X.env.frame = some X.env.locals) (hex:X.ex = []) (I:Inv X pins σ H s)
  (hq:CXX X.prog X.w X.stack H s (fun cv _ H2=>∃ C',cv = .ref C'/\Sup X.K X.mg y C C'/\th D σ H2) ev s') (hs:∀ ev,PSs (X.suite ev) (b0 :: suite) th) (hd:(y == ("__debug__":Str)) = false:=by decide) :
  wpAny (model X.prog X.w) X.A (noteFrame ev X.env) (fun _ s2=>wpAny (model X.prog X.w) X.A (setFlight ev none) (fun _ s3=>wpAny (model X.prog X.w) X.A (handleBy ev X.env (.ExceptHandler (some (.Name y np)) none (b0 :: suite) hp :: rest)) (SP X pins D) X.xe s3) X.xe s2) X.xe s':=by
 refine zkL hg hst hf hex I hq (fun C' od H' ⟨C2,e,S,_⟩=>by cases e;exact S) (fun e t C' od B H' h5 ia fl dk nw ⟨C2,e2,S,ht⟩=>?_) hd
 refine codeAny_handlers_suite (lands_againW fl fun h6 fl6 up6=>?_)
 have I6:=ia h6 fl6.1 up6
 exact Qe (hs e pins _ σ H' D (I6.suite e) ht) (fun f s3 q3=>q3.unsuite I6.ok) fun _ _ z=>False.elim z
end
def PX (X:Cx) (sts:List Stmt) (t:XK->TS):Prop:=
 ∀ (E:XK) (pins:List (Addr × Obj)) (s:Shared) (σ:St) (H:Hp) (D:Ends),Inv X pins σ H s->t E D σ H->
  wpAny (model X.prog X.w) X.A (execs sts X.env) (SP X pins D) (fun ev s'=>∃ H1 s1,Inv X pins σ H1 s1/\CXX X.prog X.w X.stack H1 s1 E ev s') s
section
variable {k:Nat} {fd:FuncData} {ps:List Str} {sp:Sp} {v n:Str} {p pos2 tp vp:Pos} {e c:Expr} {es:List Expr} {ta:TA} {tc:TT} {suite sts b1 b2:List Stmt} {t t1 t2:XK->TS} {j:Nat}
theorem zqD {E:XK} {Q:VK} (F:FnOk X.prog X.w X.K X.mg X.base (CXX X.prog X.w) k f fd ps sp) (hr:Room k X.A) (hg:Gl X x) (hm:X.mg x = some (.ref f)) (hk:PySem.W.keepIn X.K (.ref f) = true) (hb:Binds X.K fd ps [])
 (ha:∀ E',PA (X.wish E') (e :: es) ta) (hdb:(x == ("__debug__":Str)) = false) (he:starEach (e :: es) X.env = (false,eval e X.env) :: starEach es X.env) (hpl:(backTo pos (starEach es X.env)).any (·.1) = false) (I:Inv X pins σ H s) (h:ta σ H fun vs H1=>sp vs H1 Q E) :
  wpAny (model X.prog X.w) X.A (eval (.Call (.Name x p) (e :: es) [] pos) X.env) (EP X pins σ Q) (fun ev s'=>∃ H1 s1,Inv X pins σ H1 s1/\CXX X.prog X.w X.stack H1 s1 E ev s') s:=by
 refine wpAny_Call_Name_kw (zcR (X:=X) I hg hm ?_ hdb)
 refine PySem.W.callWith_K (h₀:=X.base) I.ok.mod.kin hk (thn (ha (fun ev s'=>∃ H1 s1,Inv X pins σ H1 s1/\CXX X.prog X.w X.stack H1 s1 E ev s') pos pins s σ H _ (I.wish _) h) fun us s1 ⟨vs,H1,I1,r,q⟩=>⟨I1.kIn,?_⟩) he hpl
 have hl:us.length = ps.length:=by rw [← r.length];exact F.len _ _ _ _ q
 have I1':=I1.unwish
 refine wpAny_call (codeAny_mono (F.run X.A X.stack s1 H1 ⟨us,[]⟩ us vs _ _ hr I1'.env0 (by have:=hb s1 us I1'.kIn (by rw [append_nil];exact hl);rw [append_nil] at this;exact this) r q) fun r s' hq=>?_)
 cases r with
 | error ee=>exact ⟨H1,s1,I1',hq⟩
 | ok fl=>
  cases fl with
  | ret u=>exact I1'.after hq
  | next=>exact False.elim hq
  | brk=>exact False.elim hq
  | cont=>exact False.elim hq
theorem zm6 (F:FnOk X.prog X.w X.K X.mg X.base (CXX X.prog X.w) k f fd ps sp) (hr:Room k X.A) (hg:Gl X x) (hm:X.mg x = some (.ref f)) (hk:PySem.W.keepIn X.K (.ref f) = true) (hb:Binds X.K fd ps []) (ha:∀ E',PA (X.wish E') (e :: es) ta)
  (hdb:(x == ("__debug__":Str)) = false:=by decide) (he:starEach (e :: es) X.env = (false,eval e X.env) :: starEach es X.env:=by rfl) (hpl:(backTo pos (starEach es X.env)).any (·.1) = false:=by rfl) (hsw:swapsWith (.Call (.Name x p) (e :: es) [] pos) none pos2.line X.env = pure false:=by rfl) :
  PX X [.Expr (.Call (.Name x p) (e :: es) [] pos) pos2] (fun E D σ H=>ta σ H fun vs H1=>sp vs H1 (fun _ H2=>D.nx σ H2) E):=by
 intro E pins s σ H D I h
 refine wpAny_execs_cons (Qe (Q:=SP X pins D) (wpAny_Expr_any (thn (zqD F hr hg hm hk hb ha hdb he hpl I h) fun u s1 ⟨w,H1,I1,r,q⟩=>?_) I.quiet hsw) (fun fl s1 q=>?_) fun _ _ z=>z)
 ·exact ⟨σ,H1,I1,q⟩
 ·cases fl with
  | next=>exact wpAny_execs_nil q
  | brk=>exact q
  | cont=>exact q
  | ret u=>exact q
theorem znf (hb:PX X sts t) (hgy:Gl X y) (hst:X.stack = X.env :: X.outer) (hf:X.env.frame = some X.env.locals) (hex:X.ex = []) (hs:∀ ev,PSs (X.suite ev) (b0 :: suite) th) (hdy:(y == ("__debug__":Str)) = false:=by decide) :
  PS X (.Try sts [.ExceptHandler (some (.Name y np)) none (b0 :: suite) hp] [] [] tp) (fun D σ H=>t (fun cv _ H2=>∃ C',cv = .ref C'/\Sup X.K X.mg y C C'/\th D σ H2) D σ H):=by
 intro pins s σ H D I h
 refine wpAny_Try_except (Qe (hb _ pins s σ H D I h) (fun fl s1 q=>?_) fun ev s1 ⟨H1,s0,I1,hq⟩=>?_)
 ·cases fl with
  | next=>exact wpAny_execs_nil q
  | brk=>exact q
  | cont=>exact q
  | ret u=>exact q
 ·exact zog hgy hst hf hex I1 hq hs hdy
end
end L2
namespace FT
open PySem PySem.Spec PyProof.Rows L2
noncomputable def noStar:Expr->Bool
 | .Starred _ _=>false
 | _=>true
variable {e:Expr} {es:List Expr}
theorem yA {env:PySem.Env} (h:noStar e = true):starEach (e :: es) env = (false,eval e env) :: starEach es env:=by
 cases e <;> first | rfl | cases h
variable {pos:Pos}
theorem zb0 {env:PySem.Env} :∀ {es:List Expr},es.all noStar = true->(backTo pos (starEach es env)).any (·.1) = false:=by
 intro es h
 have h1:(starEach es env).any (·.1) = false:=by
  induction es with
  | nil=>rfl
  | cons e es ih=>
   rw [all_cons,Qq] at h
   rw [yA h.1,any_cons,ih h.2]
   rfl
 have h2:∀ l:List (Bool × Sem Value),l.any (·.1) = false->(backTo pos l).any (·.1) = false:=by
  intro l hl
  unfold backTo
  rw [List.any_map]
  exact hl
 exact h2 _ h1
inductive T where
 | non | bl (b:Bool) | int (i:Int) | str (x:Str) | ty (n:String) | tup (xs:List T) | lst (xs:List T) | ref (a:Nat) | dct (kvs:List (Key × T)) | exc (C:Addr) (fs:List (Str × T))
inductive Cell where
 | lst (xs:List T) | dic (kvs:List (Key × T)) | ins (C:Addr) (fs:List (Str × T))
noncomputable abbrev Mem:=List Cell
noncomputable abbrev Ev:=List (Option T)
inductive Out (β:Type) where
 | ok (b:β) (M:Mem) | exn (C:Addr) (fs:List (Str × T)) (M:Mem) | bad
noncomputable def Out.bind {β γ:Type} (o:Out β) (k:β->Mem->Out γ):Out γ:=match o with
 | .ok b M=>k b M
 | .exn C fs M=>.exn C fs M
 | .bad=>.bad
theorem zbV {β γ:Type} (b:β) (M:Mem) (k:β->Mem->Out γ):(Out.ok b M).bind k = k b M:=rfl
theorem zsg {β γ:Type} (k:β->Mem->Out γ):(Out.bad:Out β).bind k = .bad:=rfl
structure Sit where
 α:Nat->Addr
 M:Mem
 H:Hp
 hid:List Addr
def Sit.off (S:Sit) (p:Addr):Prop:=(∀ a,a < S.M.length->S.α a ≠ p)/\p ∉ S.hid
def KL (K:Frag) (a:Addr) (xs:List V):Prop:=
 ∃ (o:Obj) (its:Array Value) (n:Nat),K.lookup a = some o/\o.cls = .type "list"/\o.dict = none/\o.data = .seq its n/\its.size<=sizeLine/\Vals xs its.toList
inductive Rep (K:Frag) (S:Sit):T->V->Prop where
 | non:Rep K S .non .non
 | bl (b:Bool):Rep K S (.bl b) (.bl b)
 | int (i:Int):Rep K S (.int i) (.int i)
 | str (x:Str):Rep K S (.str x) (.str x)
 | ty (x:String):Rep K S (.ty x) (.ty x)
 | tup {ts:List T} {p:Addr} {vs:List V} (h:SqT K S.H p vs) (l:ts.length = vs.length) (r:∀ (i:Nat) t v,ts[i]? = some t->vs[i]? = some v->Rep K S t v):Rep K S (.tup ts) (.ref p)
 | lst {ts:List T} {p:Addr} {vs:List V} (h:(Rd S.H p (.lst vs)/\S.off p)\/KL K p vs) (l:ts.length = vs.length) (r:∀ (i:Nat) t v,ts[i]? = some t->vs[i]? = some v->Rep K S t v):Rep K S (.lst ts) (.ref p)
 | ref {a:Nat} (h:a < S.M.length):Rep K S (.ref a) (.ref (S.α a))
 | dct {kvs:List (Key × T)} {us:List (Key × V)} {p:Addr} {o:Obj} (h:S.H p = some (.frz o (.dK us))) (l:kvs.map (·.1) = us.map (·.1)) (r:∀ (i:Nat) t v,(kvs.map (·.2))[i]? = some t->(us.map (·.2))[i]? = some v->Rep K S t v):Rep K S (.dct kvs) (.ref p)
 | exc {C:Addr} {fs:List (Str × T)} {us:List (Str × V)} {p:Addr} {od:Option Addr} (h:S.H p = some (.ext (ExO p C od))) (hd:(od = none/\us = [])\/∃ d,od = some d/\S.H d = some (.xd us)) (l:fs.map (·.1) = us.map (·.1)) (r:∀ (i:Nat) t v,(fs.map (·.2))[i]? = some t->(us.map (·.2))[i]? = some v->Rep K S t v):Rep K S (.exc C fs) (.ref p)
def Reps (K:Frag) (S:Sit) (ts:List T) (vs:List V):Prop:=ts.length = vs.length/\∀ (i:Nat) t v,ts[i]? = some t->vs[i]? = some v->Rep K S t v
def RepF (K:Frag) (S:Sit) (fs:List (Str × T)) (us:List (Str × V)):Prop:=fs.map (·.1) = us.map (·.1)/\Reps K S (fs.map (·.2)) (us.map (·.2))
def RepK (K:Frag) (S:Sit) (fs:List (Key × T)) (us:List (Key × V)):Prop:=fs.map (·.1) = us.map (·.1)/\Reps K S (fs.map (·.2)) (us.map (·.2))
noncomputable def CellOk (K:Frag) (S:Sit) (p:Addr):Cell->Prop
 | .lst ts=>∃ vs,S.H p = some (.lst vs)/\Reps K S ts vs
 | .dic kvs=>∃ us,S.H p = some (.dK us)/\RepK K S kvs us
 | .ins C fs=>∃ dx us,S.H p = some (.ins C dx us)/\RepF K S fs us
structure MemOk (K:Frag) (S:Sit):Prop where
 cell:∀ a c,S.M[a]? = some c->CellOk K S (S.α a) c
 inj:∀ a b,a < S.M.length->b < S.M.length->S.α a = S.α b->a = b
 hd:∀ p ∈ S.hid,(∀ a,a < S.M.length->S.α a ≠ p)/\∃ vs,S.H p = some (.lst vs)
structure Grow (S S':Sit):Prop where
 le:S.M.length<=S'.M.length
 al:∀ a,a < S.M.length->S'.α a = S.α a
 fr:∀ a,S.M.length<=a->a < S'.M.length->S.H (S'.α a) = none
 kp:∀ b o,S.H b = some o->S.off b->S'.H b = some o
 hk:∀ p ∈ S.hid,p ∈ S'.hid/\S'.H p = S.H p
 hf:∀ p ∈ S'.hid,p ∈ S.hid\/S.H p = none
structure Stp (K:Frag) (S S':Sit):Prop extends Grow S S' where
 mok:MemOk K S'
variable {c:Cell} {ts:List T} {vs:List V} {S':Sit} {t:T} {v:V}
section
variable {K:Frag} {S S'':Sit}
theorem MemOk.some (m:MemOk K S) {a:Nat} (h:a < S.M.length):∃ o,S.H (S.α a) = Option.some o/\Mut (Option.some o):=by
 have e:S.M[a]? = Option.some S.M[a]:=by simp [h]
 have c:=m.cell a _ e
 cases q:S.M[a] with
 | lst ts=>rw [q] at c;obtain ⟨vs,e,_⟩:=c;exact ⟨_,e,trivial⟩
 | dic ts=>rw [q] at c;obtain ⟨vs,e,_⟩:=c;exact ⟨_,e,trivial⟩
 | ins C fs=>rw [q] at c;obtain ⟨dx,vs,e,_⟩:=c;exact ⟨_,e,trivial⟩
theorem MemOk.off_of (m:MemOk K S) {p:Addr} {o:Option HO} (e:S.H p = o) (h:¬ Mut o):S.off p:=by
 refine ⟨fun a ha z=>?_,fun z=>?_⟩
 ·obtain ⟨o',e',mu⟩:=m.some ha
  rw [z,e] at e'
  rw [e'] at h
  exact h mu
 ·obtain ⟨_,vs,q⟩:=m.hd p z
  rw [e] at q
  rw [q] at h
  exact h trivial
theorem MemOk.off_ext (m:MemOk K S) {p:Addr} {φ:Heap->Prop} (e:S.H p = Option.some (.ext φ)):S.off p:=by
 refine ⟨fun a ha z=>?_,fun z=>?_⟩
 ·have ea:S.M[a]? = Option.some S.M[a]:=by simp [ha]
  have c:=m.cell a _ ea
  cases q:S.M[a] with
  | lst ts=>rw [q] at c;obtain ⟨vs,e',_⟩:=c;rw [z,e] at e';cases e'
  | dic ts=>rw [q] at c;obtain ⟨vs,e',_⟩:=c;rw [z,e] at e';cases e'
  | ins C fs=>rw [q] at c;obtain ⟨dx,vs,e',_⟩:=c;rw [z,e] at e';cases e'
 ·obtain ⟨_,vs,q⟩:=m.hd p z
  rw [e] at q;cases q
theorem MemOk.off_none (m:MemOk K S) {p:Addr} (e:S.H p = none):S.off p:=m.off_of e (fun z=>z)
theorem Grow.tup (g:Grow S S') (m:MemOk K S) {p:Addr} (h:SqT K S.H p vs):SqT K S'.H p vs:=by
 rcases h with (h | ⟨o,h⟩) | h
 ·exact .inl (.inl (g.kp _ _ h (m.off_of h (fun z=>z))))
 ·exact .inl (.inr ⟨o,g.kp _ _ h (m.off_of h (fun z=>z))⟩)
 ·exact .inr h
theorem Grow.off (g:Grow S S') {p:Addr} {o:HO} (h:S.H p = some o) (f:S.off p):S'.off p:=by
 refine ⟨fun a ha z=>?_,fun z=>?_⟩
 ·by_cases hl:a < S.M.length
  ·rw [g.al a hl] at z;exact f.1 a hl z
  ·have:=g.fr a (Nat.le_of_not_lt hl) ha
   rw [z,h] at this
   cases this
 ·rcases g.hf p z with q | q
  ·exact f.2 q
  ·rw [h] at q;cases q
theorem Grow.rd (g:Grow S S') {p:Addr} {u:HO} (h:Rd S.H p u) (f:S.off p):Rd S'.H p u/\S'.off p:=by
 rcases h with h | ⟨o,h⟩
 ·exact ⟨.inl (g.kp _ _ h f),g.off h f⟩
 ·exact ⟨.inr ⟨o,g.kp _ _ h f⟩,g.off h f⟩
theorem Rep.grow (m:MemOk K S) (g:Grow S S') (r:Rep K S t v):Rep K S' t v:=by
 induction r with
 | non=>exact .non
 | bl b=>exact .bl b
 | int b=>exact .int b
 | str b=>exact .str b
 | ty b=>exact .ty b
 | tup h l _ ih=>exact .tup (g.tup m h) l ih
 | lst h l _ ih=>
  refine .lst ?_ l ih
  rcases h with ⟨h,f⟩ | h
  ·exact .inl (g.rd h f)
  ·exact .inr h
 | ref h=>rw [← g.al _ h];exact .ref (Q5 h g.le)
 | dct h l _ ih=>exact .dct (g.kp _ _ h (m.off_of h (fun z=>z))) l ih
 | exc h hd l _ ih=>exact .exc (g.kp _ _ h (m.off_ext h)) (hd.imp (fun z=>z) fun ⟨d,a,b⟩=>⟨d,a,g.kp _ _ b (m.off_of b (fun z=>z))⟩) l ih
theorem Reps.grow (m:MemOk K S) (g:Grow S S') (r:Reps K S ts vs):Reps K S' ts vs:=⟨r.1,fun i t v e1 e2=>(r.2 i t v e1 e2).grow m g⟩
theorem RepF.grow (m:MemOk K S) (g:Grow S S') {ts:List (Str × T)} {vs:List (Str × V)} (r:RepF K S ts vs):RepF K S' ts vs:=⟨r.1,r.2.grow m g⟩
theorem RepK.grow (m:MemOk K S) (g:Grow S S') {ts:List (Key × T)} {vs:List (Key × V)} (r:RepK K S ts vs):RepK K S' ts vs:=⟨r.1,r.2.grow m g⟩
theorem Reps.nil:Reps K S [] []:=⟨rfl,fun _ _ _ e _=>by simp at e⟩
theorem Reps.cons (r:Rep K S t v) (rs:Reps K S ts vs):Reps K S (t :: ts) (v :: vs):=by
 refine ⟨by simp [rs.1],fun i a b e1 e2=>?_⟩
 cases i with
 | zero=>simp at e1 e2;subst e1;subst e2;exact r
 | succ i=>exact rs.2 i a b (by simpa using e1) (by simpa using e2)
theorem Reps.nil_inv (r:Reps K S ts []):ts = []:=List.length_eq_zero_iff.mp (by rw [r.1];rfl)
theorem Reps.consT (r:Reps K S (t :: ts) vs):∃ v vs',vs = v :: vs'/\Rep K S t v/\Reps K S ts vs':=by
 cases vs with
 | nil=>have:=r.1;simp at this
 | cons v vs'=>exact ⟨v,vs',rfl,r.2 0 t v rfl rfl,by have:=r.1;simpa using this,fun i a b e1 e2=>r.2 (i + 1) a b (by simpa using e1) (by simpa using e2)⟩
theorem Reps.nilT (r:Reps K S [] vs):vs = []:=List.length_eq_zero_iff.mp (by rw [← r.1];rfl)
theorem Reps.app {ts':List T} {vs':List V} (r:Reps K S ts vs) (r':Reps K S ts' vs'):Reps K S (ts ++ ts') (vs ++ vs'):=by
 induction ts generalizing vs with
 | nil=>rw [r.nilT];exact r'
 | cons t ts ih=>
  obtain ⟨v,vs1,rfl,r1,r2⟩:=r.consT
  exact (ih r2).cons r1
theorem Reps.get (r:Reps K S ts vs) {i:Nat} (e:ts[i]? = some t):∃ v,vs[i]? = some v/\Rep K S t v:=by
 have hi:i < vs.length:=by rw [← r.1];exact (Qx.mp e).1
 have e2:vs[i]? = some vs[i]:=by simp [hi]
 exact ⟨_,e2,r.2 i t _ e e2⟩
theorem Reps.set (r:Reps K S ts vs) (q:Rep K S t v) (j:Nat):Reps K S (ts.set j t) (vs.set j v):=by
 refine ⟨by simp [r.1],fun i a b e1 e2=>?_⟩
 rw [getElem?_set] at e1 e2
 by_cases h:j = i
 ·subst h
  by_cases hl:j < ts.length
  ·rw [Qw rfl,Qw hl] at e1
   rw [Qw rfl,Qw (by rw [← r.1];exact hl)] at e2
   cases e1;cases e2;exact q
  ·rw [Qw rfl,Qy hl] at e1;cases e1
 ·rw [Qy h] at e1 e2
  exact r.2 i a b e1 e2
theorem Reps.sub (r:Reps K S ts vs) (a b:Nat):Reps K S ((ts.drop a).take b) ((vs.drop a).take b):=by
 refine ⟨by simp [r.1],fun i x y e1 e2=>?_⟩
 rw [getElem?_take] at e1 e2
 split at e1
 ·rename_i h
  rw [Qw h] at e2
  rw [List.getElem?_drop] at e1 e2
  exact r.2 _ x y e1 e2
 ·cases e1
theorem CellOk.grow (m:MemOk K S) (g:Grow S S') {p:Addr} (e:S'.H p = S.H p) (h:CellOk K S p c):CellOk K S' p c:=by
 cases c with
 | lst ts=>obtain ⟨vs,q,r⟩:=h;exact ⟨vs,by rw [e];exact q,r.grow m g⟩
 | dic ts=>obtain ⟨vs,q,r⟩:=h;exact ⟨vs,by rw [e];exact q,r.grow m g⟩
 | ins C ts=>obtain ⟨dx,vs,q,r⟩:=h;exact ⟨dx,vs,by rw [e];exact q,r.grow m g⟩
theorem Stp.refl (m:MemOk K S):Stp K S S:=⟨⟨Q3 _,fun _ _=>rfl,fun a h1 h2=>absurd (Q5 h2 h1) (Qm _),fun _ _ e _=>e,fun _ h=>⟨h,rfl⟩,fun _ h=>.inl h⟩,m⟩
theorem Stp.trans (a:Stp K S S') (b:Stp K S' S''):Stp K S S'':=by
 have nn:∀ p,S'.H p = none->S.H p = none:=fun p hn=>by
  cases q:S.H p with
  | none=>rfl
  | some o=>
   by_cases f:S.off p
   ·rw [a.kp _ _ q f] at hn;cases hn
   ·exfalso
    apply f
    refine ⟨fun c hc z=>?_,fun z=>?_⟩
    ·have h3:c < S'.M.length:=Q5 hc a.le
     obtain ⟨o',e',_⟩:=a.mok.some h3
     rw [a.al c hc,z,hn] at e'
     cases e'
    ·rw [(a.hk p z).2,q] at hn;cases hn
 refine ⟨⟨Qh a.le b.le,fun i hi=>(b.al i (Q5 hi a.le)).trans (a.al i hi),fun i h1 h2=>?_,fun p o e f=>b.kp _ _ (a.kp _ _ e f) (a.off e f),fun p h=>⟨(b.hk p (a.hk p h).1).1,(b.hk p (a.hk p h).1).2.trans (a.hk p h).2⟩,fun p h=>?_⟩,b.mok⟩
 ·by_cases hl:i < S'.M.length
  ·rw [b.al i hl];exact a.fr i h1 hl
  ·exact nn _ (b.fr i (Nat.le_of_not_lt hl) h2)
 ·rcases b.hf p h with q | q
  ·exact a.hf p q
  ·exact .inr (nn p q)
theorem Stp.new (m:MemOk K S) {p:Addr} (hp:S.H p = none) (o:HO):Stp K S ⟨S.α,S.M,upd S.H p o,S.hid⟩:=by
 have g:Grow S ⟨S.α,S.M,upd S.H p o,S.hid⟩:=⟨Q3 _,fun _ _=>rfl,fun a h1 h2=>absurd (Q5 h2 h1) (Qm _),fun b u e _=>by show upd S.H p o b = _;rw [ym (yw e hp)];exact e,fun q h=>⟨h,by obtain ⟨_,vs,e⟩:=m.hd q h;exact ym (yw e hp)⟩,fun q h=>.inl h⟩
 refine ⟨g,⟨fun a c e=>?_,m.inj,fun q h=>?_⟩⟩
 rotate_left
 ·obtain ⟨h1,vs,e⟩:=m.hd q h
  exact ⟨h1,vs,(ym (yw e hp)).trans e⟩
 refine (m.cell a c e).grow m g ?_
 have ha:a < S.M.length:=(Qx.mp e).1
 exact ym ((m.off_none hp).1 a ha)
noncomputable def Sit.more (S:Sit) (p:Addr) (o:HO) (c:Cell):Sit:=⟨fun a=>if a = S.M.length then p else S.α a,S.M ++ [c],upd S.H p o,S.hid⟩
theorem Grow.more (m:MemOk K S) {p:Addr} (hp:S.H p = none) (o:HO) (c:Cell):Grow S (S.more p o c):=by
 refine ⟨by show _<=(S.M ++ [c]).length;simp,fun a h=>Qy (Qi h),fun a h1 h2=>?_,fun b u e _=>?_,fun q h=>⟨h,by obtain ⟨_,vs,e⟩:=m.hd q h;exact ym (yw e hp)⟩,fun q h=>.inl h⟩
 ·have h3:a < (S.M ++ [c]).length:=h2
  have:a = S.M.length:=by simp at h3;omega
  show S.H (if a = S.M.length then p else S.α a) = none
  rw [Qw this];exact hp
 ·show upd S.H p o b = _;rw [ym (yw e hp)];exact e
theorem Stp.more (m:MemOk K S) {p:Addr} (hp:S.H p = none) (o:HO) (c:Cell) (hc:CellOk K (S.more p o c) p c):Stp K S (S.more p o c):=by
 have g:=Grow.more m hp o c
 refine ⟨g,⟨fun a d e=>?_,fun a b h1 h2 e=>?_,fun q h=>?_⟩⟩
 rotate_right
 ·obtain ⟨h1,vs,e⟩:=m.hd q h
  refine ⟨fun a ha z=>?_,vs,(ym (yw e hp)).trans e⟩
  have z':(if a = S.M.length then p else S.α a) = q:=z
  by_cases hl:a = S.M.length
  ·rw [Qw hl] at z';rw [← z',hp] at e;cases e
  ·rw [Qy hl] at z'
   have h3:a < (S.M ++ [c]).length:=ha
   exact h1 a (by simp at h3;omega) z'
 ·have e':(S.M ++ [c])[a]? = some d:=e
  by_cases ha:a < S.M.length
  ·rw [Q6 ha] at e'
   show CellOk K _ (if a = S.M.length then p else S.α a) d
   rw [Qy (Qi ha)]
   exact (m.cell a d e').grow m g (ym ((m.off_none hp).1 a ha))
  ·rw [Q7 (Nat.le_of_not_lt ha)] at e'
   have h3:a - S.M.length = 0:=by
    cases q:a - S.M.length with
    | zero=>rfl
    | succ k=>rw [q] at e';simp at e'
   rw [h3] at e'
   cases e'
   show CellOk K _ (if a = S.M.length then p else S.α a) c
   rw [Qw (by omega)]
   exact hc
 ·have h1':a < (S.M ++ [c]).length:=h1
  have h2':b < (S.M ++ [c]).length:=h2
  have e':(if a = S.M.length then p else S.α a) = (if b = S.M.length then p else S.α b):=e
  simp at h1' h2'
  by_cases ha:a = S.M.length
  ·by_cases hb:b = S.M.length
   ·omega
   ·rw [Qw ha,Qy hb] at e'
    exact absurd e'.symm ((m.off_none hp).1 b (by omega))
  ·by_cases hb:b = S.M.length
   ·rw [Qy ha,Qw hb] at e'
    exact absurd e' ((m.off_none hp).1 a (by omega))
   ·rw [Qy ha,Qy hb] at e'
    exact m.inj a b (by omega) (by omega) e'
noncomputable def Sit.put (S:Sit) (a:Nat) (o:HO) (c:Cell):Sit:=⟨S.α,S.M.set a c,upd S.H (S.α a) o,S.hid⟩
theorem Grow.put (m:MemOk K S) {a:Nat} (ha:a < S.M.length) (o:HO) (c:Cell):Grow S (S.put a o c):=by
 refine ⟨by show _<=(S.M.set a c).length;simp,fun _ _=>rfl,fun b h1 h2=>?_,fun b u e f=>?_,fun q h=>⟨h,ym (Ne.symm ((m.hd q h).1 a ha))⟩,fun q h=>.inl h⟩
 ·have h3:b < (S.M.set a c).length:=h2
  simp at h3
  exact absurd (Q5 h3 h1) (Qm _)
 ·show upd S.H (S.α a) o b = _
  rw [ym (Ne.symm (f.1 a ha))];exact e
theorem Stp.put (m:MemOk K S) {a:Nat} (ha:a < S.M.length) (o:HO) (c:Cell) (hc:CellOk K (S.put a o c) (S.α a) c):Stp K S (S.put a o c):=by
 have g:=Grow.put m ha o c
 refine ⟨g,⟨fun b d e=>?_,fun i j h1 h2 e=>?_,fun q h=>?_⟩⟩
 rotate_right
 ·obtain ⟨h1,vs,e⟩:=m.hd q h
  refine ⟨fun b hb z=>?_,vs,(ym (Ne.symm (h1 a ha))).trans e⟩
  have h3:b < (S.M.set a c).length:=hb
  simp at h3
  exact h1 b h3 z
 ·have e':(S.M.set a c)[b]? = some d:=e
  rw [getElem?_set] at e'
  by_cases h:a = b
  ·subst h
   rw [Qw rfl,Qw ha] at e'
   cases e'
   exact hc
  ·rw [Qy h] at e'
   refine (m.cell b d e').grow m g (ym fun z=>h ?_)
   exact (m.inj b a (Qx.mp e').1 ha z).symm
 ·have h1':i < (S.M.set a c).length:=h1
  have h2':j < (S.M.set a c).length:=h2
  simp at h1' h2'
  exact m.inj i j h1' h2' e
end
def EvR (K:Frag) (S:Sit) (στ:Ev) (σ:L2.St):Prop:=στ.length = σ.length/\∀ (i:Nat) t,στ[i]? = some (some t)->∃ v,σ[i]? = some (some v)/\Rep K S t v
class Mo (K:Frag) {β γ:Type} (R:Sit->β->γ->Prop):Prop where
 mo:∀ {S S' b c},MemOk K S->Stp K S S'->R S b c->R S' b c
noncomputable def UnR:Sit->Unit->Unit->Prop:=fun _ _ _=>True
noncomputable def EqR {β:Type}:Sit->β->β->Prop:=fun _ b c=>b = c
noncomputable def PrR {A AV B BV:Type} (RA:Sit->A->AV->Prop) (RB:Sit->B->BV->Prop):Sit->A × B->AV × BV->Prop:=fun S a v=>RA S a.1 v.1/\RB S a.2 v.2
instance (K):Mo K (Rep K):=⟨fun m s r=>r.grow m s.toGrow⟩
instance (K):Mo K (Reps K):=⟨fun m s r=>r.grow m s.toGrow⟩
instance (K):Mo K (EvR K):=⟨fun m s r=>⟨r.1,fun i t e=>let ⟨v,e',q⟩:=r.2 i t e;⟨v,e',q.grow m s.toGrow⟩⟩⟩
instance (K):Mo K UnR:=⟨fun _ _ r=>r⟩
instance (K) {β:Type}:Mo K (EqR (β:=β)):=⟨fun _ _ r=>r⟩
instance (K) {A AV B BV:Type} (RA:Sit->A->AV->Prop) (RB:Sit->B->BV->Prop) [Mo K RA] [Mo K RB]:Mo K (PrR RA RB):=⟨fun m s r=>⟨Mo.mo m s r.1,Mo.mo m s r.2⟩⟩
def zqr (K:Frag) (S:Sit) (fs:List (Str × T)) (od:Option Addr):Prop:=(fs = []/\od = none)\/∃ d us,od = some d/\S.H d = some (.xd us)/\RepF K S fs us
def Fin {β γ:Type} (XE:XK) (R:Sit->β->γ->Prop) (K:Frag) (S:Sit) (o:Out β) (Q:γ->Hp->Prop):Prop:=match o with
 | .ok b M'=>∀ S' c,S'.M = M'->Stp K S S'->R S' b c->Q c S'.H
 | .exn C fs M'=>∀ S' od,S'.M = M'->Stp K S S'->zqr K S' fs od->XE (.ref C) od S'.H
 | .bad=>False
variable {S1:Sit} {XE:XK}
theorem Fin.later {β γ:Type} {R:Sit->β->γ->Prop} {K:Frag} {S:Sit} {o:Out β} {Q:γ->Hp->Prop} (s:Stp K S S1) (h:Fin XE R K S o Q):Fin XE R K S1 o Q:=by
 cases o with
 | ok b M'=>exact fun S' c e s' r=>h S' c e (s.trans s') r
 | exn C fs M'=>exact fun S' c e s' r=>h S' c e (s.trans s') r
 | bad=>exact h
theorem Fin.mono {β γ:Type} {R:Sit->β->γ->Prop} {K:Frag} {S:Sit} {o:Out β} {Q Q':γ->Hp->Prop} (i:∀ c H,Q c H->Q' c H) (h:Fin XE R K S o Q):Fin XE R K S o Q':=by
 cases o with
 | ok b M'=>exact fun S' c e s' r=>i _ _ (h S' c e s' r)
 | exn C fs M'=>exact h
 | bad=>exact h
def LN {A AV β γ:Type} (XE:XK) (R:Sit->β->γ->Prop) (K:Frag) (RA:Sit->A->AV->Prop) (k:A->Ev->Mem->Out β) (av:AV) (σ:L2.St) (H:Hp) (Q:γ->Hp->Prop):Prop:=
 ∃ (S:Sit) (στ:Ev) (a:A),S.H = H/\MemOk K S/\EvR K S στ σ/\RA S a av/\Fin XE R K S (k a στ S.M) Q
def L0 {A AV β γ:Type} (XE:XK) (R:Sit->β->γ->Prop) (K:Frag) (RA:Sit->A->AV->Prop) (k:A->Mem->Out β) (av:AV) (H:Hp) (Q:γ->Hp->Prop):Prop:=
 ∃ (S:Sit) (a:A),S.H = H/\MemOk K S/\RA S a av/\Fin XE R K S (k a S.M) Q
variable {H:Hp} {σ:L2.St}
section
variable {K:Frag}
theorem LN.bind {A AV B BV β γ:Type} {R:Sit->β->γ->Prop} {RA:Sit->A->AV->Prop} {RB:Sit->B->BV->Prop} [Mo K RA] {f:A->Ev->Mem->Out B} {k:A->B->Ev->Mem->Out β} {av:AV} {Q:γ->Hp->Prop}
 (h:LN XE R K RA (fun a σ M=>(f a σ M).bind fun b M1=>k a b σ M1) av σ H Q) :
  LN XE RB K RA f av σ H (fun bv H1=>LN XE R K (PrR RA RB) (fun ab=>k ab.1 ab.2) (av,bv) σ H1 Q):=by
 obtain ⟨S,στ,a,e,m,ev,ra,fin⟩:=h
 refine ⟨S,στ,a,e,m,ev,ra,?_⟩
 replace fin:Fin XE R K S ((f a στ S.M).bind fun b M1=>k a b στ M1) Q:=fin
 cases q:f a στ S.M with
 | bad=>rw [q] at fin;exact fin
 | exn C fs M'=>rw [q] at fin;exact fin
 | ok b M1=>
  rw [q] at fin
  intro S1 c e1 s1 r1
  refine ⟨S1,στ,(a,b),rfl,s1.mok,Mo.mo m s1 ev,⟨Mo.mo m s1 ra,r1⟩,?_⟩
  rw [e1]
  exact fin.later s1
theorem LN.l0 {A AV β γ:Type} {R:Sit->β->γ->Prop} {RA:Sit->A->AV->Prop} {k:A->Mem->Out β} {av:AV} {Q:γ->Hp->Prop} (h:LN XE R K RA (fun a _ M=>k a M) av σ H Q):L0 XE R K RA k av H Q:=by
 obtain ⟨S,στ,a,e,m,ev,ra,fin⟩:=h
 exact ⟨S,a,e,m,ra,fin⟩
theorem LN.mono {A AV β γ:Type} {R:Sit->β->γ->Prop} {RA:Sit->A->AV->Prop} {k:A->Ev->Mem->Out β} {av:AV} {Q Q':γ->Hp->Prop} (h:LN XE R K RA k av σ H Q) (i:∀ c H,Q c H->Q' c H):LN XE R K RA k av σ H Q':=by
 obtain ⟨S,στ,a,e,m,ev,ra,fin⟩:=h
 exact ⟨S,στ,a,e,m,ev,ra,fin.mono i⟩
theorem LN.env {A AV β γ:Type} {R:Sit->β->γ->Prop} {RA:Sit->A->AV->Prop} {f:Ev->Mem->Out β} {av:AV} {Q:γ->Hp->Prop} (h:LN XE R K RA (fun _ σ M=>f σ M) av σ H Q):LN XE R K UnR (fun _ σ M=>f σ M) () σ H Q:=by
 obtain ⟨S,στ,a,e,m,ev,ra,fin⟩:=h
 exact ⟨S,στ,(),e,m,ev,trivial,fin⟩
end
noncomputable def lE (XE:XK) (K:Frag) (f:Ev->Mem->Out T):TE:=fun σ H Q=>LN XE (Rep K) K UnR (fun _ σ M=>f σ M) () σ H Q
noncomputable def lT (XE:XK) (K:Frag) (f:Ev->Mem->Out Bool):TT:=fun σ H Q=>LN XE EqR K UnR (fun _ σ M=>f σ M) () σ H Q
noncomputable def lA (XE:XK) (K:Frag) (f:Ev->Mem->Out (List T)):TA:=fun σ H Q=>LN XE (Reps K) K UnR (fun _ σ M=>f σ M) () σ H Q
def GE (X:Cx) (XE:XK) (e:Expr) (f:Ev->Mem->Out T):Prop:=PE X e (lE XE X.K f)
def GT (X:Cx) (XE:XK) (e:Expr) (f:Ev->Mem->Out Bool):Prop:=PT X e (lT XE X.K f)
def GW (X:Cx) (XE:XK) (e:Expr) (f:Ev->Mem->Out Bool):Prop:=PW X e (lT XE X.K f)
def GA (X:Cx) (XE:XK) (es:List Expr) (f:Ev->Mem->Out (List T)):Prop:=PA X es (lA XE X.K f)
variable {X:Cx}
theorem PE.imp {t t':TE} (h:PE X e t) (i:∀ σ H Q,t' σ H Q->t σ H Q):PE X e t':=fun pins s σ H Q I q=>h pins s σ H Q I (i σ H Q q)
variable {t':TT}
theorem PT.imp {t:TT} (h:PT X e t) (i:∀ σ H Q,t' σ H Q->t σ H Q):PT X e t':=fun pins s σ H Q I q=>h pins s σ H Q I (i σ H Q q)
theorem PW.imp {t:TT} (h:PW X e t) (i:∀ σ H Q,t' σ H Q->t σ H Q):PW X e t':=fun whole pins s σ H Q I q=>h whole pins s σ H Q I (i σ H Q q)
theorem PA.imp {e:List Expr} {t t':TA} (h:PA X e t) (i:∀ σ H Q,t' σ H Q->t σ H Q):PA X e t':=fun pos pins s σ H Q I q=>h pos pins s σ H Q I (i σ H Q q)
theorem PS.imp {e:Stmt} {t t':TS} (h:PS X e t) (i:∀ D σ H,t' D σ H->t D σ H):PS X e t':=fun pins s σ H D I q=>h pins s σ H D I (i D σ H q)
theorem PSs.imp {e:List Stmt} {t t':TS} (h:PSs X e t) (i:∀ D σ H,t' D σ H->t D σ H):PSs X e t':=fun pins s σ H D I q=>h pins s σ H D I (i D σ H q)
noncomputable def yb (i:Nat):Ev->Mem->Out T:=fun σ M=>match σ[i]? with
 | some (some t)=>.ok t M
 | _=>.bad
noncomputable def eC (t:T):Ev->Mem->Out T:=fun _ M=>.ok t M
noncomputable def eOp (o:T->T->Mem->Out T) (f g:Ev->Mem->Out T):Ev->Mem->Out T:=fun σ M=>(f σ M).bind fun x M1=>(g σ M1).bind fun y M2=>o x y M2
noncomputable def eUn (o:T->Mem->Out T) (f:Ev->Mem->Out T):Ev->Mem->Out T:=fun σ M=>(f σ M).bind fun x M1=>o x M1
noncomputable def blT {β:Type} (t:T) (M:Mem) (k:Bool->Mem->Out β):Out β:=match t with
 | .bl b=>k b M
 | _=>.bad
noncomputable def zm (f:Ev->Mem->Out T):Ev->Mem->Out Bool:=fun σ M=>(f σ M).bind fun x M1=>blT x M1 fun b M2=>.ok b M2
noncomputable def zM (f g:Ev->Mem->Out Bool):Ev->Mem->Out Bool:=fun σ M=>(f σ M).bind fun c M1=>if c = true then g σ M1 else .ok false M1
noncomputable def zbF (f g:Ev->Mem->Out Bool):Ev->Mem->Out Bool:=fun σ M=>(f σ M).bind fun c M1=>if c = true then .ok true M1 else g σ M1
noncomputable def yJ (f:Ev->Mem->Out Bool):Ev->Mem->Out Bool:=fun σ M=>(f σ M).bind fun c M1=>.ok (!c) M1
noncomputable def zaX (f g:Ev->Mem->Out T):Ev->Mem->Out T:=fun σ M=>(f σ M).bind fun x M1=>blT x M1 fun b M2=>if b = true then g σ M2 else .ok (.bl false) M2
noncomputable def eOr (f g:Ev->Mem->Out T):Ev->Mem->Out T:=fun σ M=>(f σ M).bind fun x M1=>blT x M1 fun b M2=>if b = true then .ok (.bl true) M2 else g σ M2
noncomputable def zmi (f:Ev->Mem->Out T):Ev->Mem->Out T:=fun σ M=>(f σ M).bind fun x M1=>blT x M1 fun b M2=>.ok (.bl (!b)) M2
noncomputable def eIf (c:Ev->Mem->Out Bool) (f g:Ev->Mem->Out T):Ev->Mem->Out T:=fun σ M=>(c σ M).bind fun b M1=>if b = true then f σ M1 else g σ M1
noncomputable def qc:Ev->Mem->Out (List T):=fun _ M=>.ok [] M
noncomputable def zb (f:Ev->Mem->Out T) (g:Ev->Mem->Out (List T)):Ev->Mem->Out (List T):=fun σ M=>(f σ M).bind fun x M1=>(g σ M1).bind fun xs M2=>.ok (x :: xs) M2
noncomputable def zY (g:Ev->Mem->Out (List T)):Ev->Mem->Out T:=fun σ M=>(g σ M).bind fun xs M1=>if xs.length<=sizeLine then .ok (.tup xs) M1 else .bad
noncomputable def zt (g:Ev->Mem->Out (List T)):Ev->Mem->Out (List T):=fun σ M=>(g σ M).bind fun xs M1=>if xs.length<=sizeLine then .ok xs M1 else .bad
noncomputable def eFz (g:Ev->Mem->Out (List T)):Ev->Mem->Out T:=fun σ M=>(g σ M).bind fun xs M1=>.ok (.lst xs) M1
noncomputable def eTk (g:Ev->Mem->Out (List T)):Ev->Mem->Out T:=fun σ M=>(g σ M).bind fun xs M1=>.ok (.ref M1.length) (M1 ++ [.lst xs])
noncomputable def qd (f:List T->Mem->Out T) (g:Ev->Mem->Out (List T)):Ev->Mem->Out T:=fun σ M=>(g σ M).bind fun ts M1=>f ts M1
noncomputable def qU (o o':T->T->Mem->Out T) (f g h:Ev->Mem->Out T):Ev->Mem->Out T:=fun σ M=>(f σ M).bind fun x M1=>(g σ M1).bind fun y M2=>(o x y M2).bind fun z M3=>blT z M3 fun b M4=>if b = true then (h σ M4).bind fun w M5=>o' y w M5 else .ok (.bl false) M4
noncomputable def lR2 (XE:XK) (K:Frag) (o:T->T->Mem->Out T):R2:=fun x y H Q=>L0 XE (Rep K) K (PrR (Rep K) (Rep K)) (fun a M=>o a.1 a.2 M) (x,y) H Q
noncomputable def lR1 (XE:XK) (K:Frag) (o:T->Mem->Out T):V->Hp->VK->Prop:=fun x H Q=>L0 XE (Rep K) K (Rep K) o x H Q
noncomputable def lRN (XE:XK) (K:Frag) (o:List T->Mem->Out T):List V->Hp->VK->Prop:=fun xs H Q=>L0 XE (Rep K) K (Reps K) o xs H Q
def FinL (XE:XK) (K:Frag) (S:Sit) (o:Out (List T)) (Q:VK):Prop:=match o with
 | .ok xs M'=>∀ S' p vs,S'.M = M'->Stp K S S'->S.H p = none->p ∈ S'.hid->S'.H p = some (.lst vs)->Reps K S' xs vs->Q (.ref p) S'.H
 | .exn C fs M'=>∀ S' od,S'.M = M'->Stp K S S'->zqr K S' fs od->XE (.ref C) od S'.H
 | .bad=>False
variable {Q:VK}
theorem FinL.later {K:Frag} {S:Sit} {o:Out (List T)} (s:Stp K S S1) (h:FinL XE K S o Q):FinL XE K S1 o Q:=by
 have nn:∀ p,S1.H p = none->S.H p = none:=fun p hn=>by
  cases q:S.H p with
  | none=>rfl
  | some o=>
   by_cases f:S.off p
   ·rw [s.kp _ _ q f] at hn;cases hn
   ·exfalso
    apply f
    refine ⟨fun c hc z=>?_,fun z=>?_⟩
    ·have h3:c < S1.M.length:=Q5 hc s.le
     obtain ⟨o',e',_⟩:=s.mok.some h3
     rw [s.al c hc,z,hn] at e'
     cases e'
    ·rw [(s.hk p z).2,q] at hn;cases hn
 cases o with
 | ok b M'=>exact fun S' p vs e s' f=>h S' p vs e (s.trans s') (nn p f)
 | exn C fs M'=>exact fun S' c e s' r=>h S' c e (s.trans s') r
 | bad=>exact h
noncomputable def lL (XE:XK) (K:Frag) (f:Ev->Mem->Out (List T)):TE:=fun σ H Q=>∃ (S:Sit) (στ:Ev),S.H = H/\MemOk K S/\EvR K S στ σ/\FinL XE K S (f στ S.M) Q
def GL (X:Cx) (XE:XK) (e:Expr) (f:Ev->Mem->Out (List T)):Prop:=PE X e (lL XE X.K f)
variable {q:Addr} {h hh:List Addr} {xs:List T}
section
variable {K:Frag} {S:Sit}
noncomputable def Sit.show (S':Sit) (h:List Addr):Sit:=⟨S'.α,S'.M,S'.H,h⟩
theorem Rep.show (sub:∀ p ∈ h,p ∈ S'.hid) (r:Rep K S' t v):Rep K (S'.show h) t v:=by
 induction r with
 | non=>exact .non
 | bl b=>exact .bl b
 | int b=>exact .int b
 | str b=>exact .str b
 | ty b=>exact .ty b
 | tup h l _ ih=>exact .tup h l ih
 | lst h l _ ih=>
  refine .lst ?_ l ih
  rcases h with ⟨h,f⟩ | h
  ·exact .inl ⟨h,f.1,fun z=>f.2 (sub _ z)⟩
  ·exact .inr h
 | ref h=>exact .ref (S:=S'.show _) h
 | dct h l _ ih=>exact .dct h l ih
 | exc h hd l _ ih=>exact .exc h hd l ih
theorem Reps.show (sub:∀ p ∈ h,p ∈ S'.hid) (r:Reps K S' ts vs):Reps K (S'.show h) ts vs:=⟨r.1,fun i t v e1 e2=>(r.2 i t v e1 e2).show sub⟩
theorem CellOk.show (sub:∀ p ∈ h,p ∈ S'.hid) {p:Addr} (q:CellOk K S' p c):CellOk K (S'.show h) p c:=by
 cases c with
 | lst ts=>obtain ⟨vs,q,r⟩:=q;exact ⟨vs,q,r.show sub⟩
 | dic ts=>obtain ⟨vs,q,r⟩:=q;exact ⟨vs,q,r.1,r.2.show sub⟩
 | ins C ts=>obtain ⟨dx,vs,q,r⟩:=q;exact ⟨dx,vs,q,r.1,r.2.show sub⟩
theorem Stp.show (s:Stp K S S'):Stp K S (S'.show S.hid):=by
 have sub:∀ p ∈ S.hid,p ∈ S'.hid:=fun p h=>(s.hk p h).1
 exact ⟨⟨s.le,s.al,s.fr,s.kp,fun p h=>⟨h,(s.hk p h).2⟩,fun p h=>.inl h⟩,⟨fun a c e=>(s.mok.cell a c e).show sub,s.mok.inj,fun p h=>s.mok.hd p (sub p h)⟩⟩
theorem zfF (s:Stp K S S') {p:Addr} (hn:S.H p = none) (m:MemOk K S) (hp:p ∈ S'.hid) (e:S'.H p = some (.lst vs)) (r:Reps K S' xs vs):Rep K (S'.show S.hid) (.lst xs) (.ref p):=by
 have sub:∀ p ∈ S.hid,p ∈ S'.hid:=fun p h=>(s.hk p h).1
 refine .lst (.inl ⟨.inl e,(s.mok.hd p hp).1,fun z=>?_⟩) r.1 (r.show sub).2
 obtain ⟨_,us,q⟩:=m.hd p z
 rw [hn] at q
 cases q
noncomputable def Sit.track (S':Sit) (p:Addr) (xs:List T) (h:List Addr):Sit:=⟨fun a=>if a = S'.M.length then p else S'.α a,S'.M ++ [.lst xs],S'.H,h⟩
theorem Rep.track {p:Addr} (hp:p ∈ S'.hid) (sub:∀ p ∈ hh,p ∈ S'.hid) (r:Rep K S' t v):Rep K (S'.track p xs hh) t v:=by
 induction r with
 | non=>exact .non
 | bl b=>exact .bl b
 | int b=>exact .int b
 | str b=>exact .str b
 | ty b=>exact .ty b
 | tup h l _ ih=>exact .tup h l ih
 | lst h l _ ih=>
  refine .lst ?_ l ih
  rcases h with ⟨h,f⟩ | h
  ·refine .inl ⟨h,fun a ha z=>?_,fun z=>f.2 (sub _ z)⟩
   have z':(if a = S'.M.length then p else S'.α a) = _:=z
   by_cases hl:a = S'.M.length
   ·rw [Qw hl] at z';rw [← z'] at f;exact f.2 hp
   ·rw [Qy hl] at z'
    have h3:a < (S'.M ++ [Cell.lst xs]).length:=ha
    exact f.1 a (by simp at h3;omega) z'
  ·exact .inr h
 | @ref a h=>
  have:S'.α a = (S'.track p xs hh).α a:=(Qy (Qi h)).symm
  rw [this]
  exact .ref (by show a < (S'.M ++ [Cell.lst xs]).length;simp;omega)
 | dct h l _ ih=>exact .dct h l ih
 | exc h hd l _ ih=>exact .exc h hd l ih
theorem Reps.track {p:Addr} (hp:p ∈ S'.hid) (sub:∀ p ∈ h,p ∈ S'.hid) (r:Reps K S' ts vs):Reps K (S'.track p xs h) ts vs:=⟨r.1,fun i t v e1 e2=>(r.2 i t v e1 e2).track hp sub⟩
theorem CellOk.track {p:Addr} (hp:p ∈ S'.hid) (sub:∀ p ∈ h,p ∈ S'.hid) (o:CellOk K S' q c):CellOk K (S'.track p xs h) q c:=by
 cases c with
 | lst ts=>obtain ⟨vs,q,r⟩:=o;exact ⟨vs,q,r.track hp sub⟩
 | dic ts=>obtain ⟨vs,q,r⟩:=o;exact ⟨vs,q,r.1,r.2.track hp sub⟩
 | ins C ts=>obtain ⟨dx,vs,q,r⟩:=o;exact ⟨dx,vs,q,r.1,r.2.track hp sub⟩
theorem Stp.track (s:Stp K S S') (m:MemOk K S) {p:Addr} (hn:S.H p = none) (hp:p ∈ S'.hid) (e:S'.H p = some (.lst vs)) (r:Reps K S' xs vs):Stp K S (S'.track p xs S.hid):=by
 have sub:∀ p ∈ S.hid,p ∈ S'.hid:=fun p h=>(s.hk p h).1
 have lt:∀ a,a < S'.M.length->(S'.track p xs S.hid).α a = S'.α a:=fun a h=>Qy (Qi h)
 refine ⟨⟨Qh s.le (by show _<=(S'.M ++ [Cell.lst xs]).length;simp),fun a h=>(lt a (Q5 h s.le)).trans (s.al a h),fun a h1 h2=>?_,s.kp,fun p h=>⟨h,(s.hk p h).2⟩,fun p h=>.inl h⟩,⟨fun a c e2=>?_,fun a b h1 h2 e2=>?_,fun q h=>?_⟩⟩
 ·by_cases hl:a < S'.M.length
  ·rw [lt a hl];exact s.fr a h1 hl
  ·have h3:a < (S'.M ++ [Cell.lst xs]).length:=h2
   have:a = S'.M.length:=by simp at h3;omega
   show S.H (if a = S'.M.length then p else S'.α a) = none
   rw [Qw this];exact hn
 ·have e':(S'.M ++ [Cell.lst xs])[a]? = some c:=e2
  by_cases ha:a < S'.M.length
  ·rw [Q6 ha] at e'
   rw [lt a ha]
   exact (s.mok.cell a c e').track hp sub
  ·rw [Q7 (Nat.le_of_not_lt ha)] at e'
   have h3:a - S'.M.length = 0:=by
    cases q:a - S'.M.length with
    | zero=>rfl
    | succ k=>rw [q] at e';simp at e'
   rw [h3] at e'
   cases e'
   show CellOk K _ (if a = S'.M.length then p else S'.α a) _
   rw [Qw (by omega)]
   exact ⟨vs,e,r.track hp sub⟩
 ·have h1':a < (S'.M ++ [Cell.lst xs]).length:=h1
  have h2':b < (S'.M ++ [Cell.lst xs]).length:=h2
  have e':(if a = S'.M.length then p else S'.α a) = (if b = S'.M.length then p else S'.α b):=e2
  simp at h1' h2'
  by_cases ha:a = S'.M.length
  ·by_cases hb:b = S'.M.length
   ·omega
   ·rw [Qw ha,Qy hb] at e'
    exact absurd e'.symm ((s.mok.hd p hp).1 b (by omega))
  ·by_cases hb:b = S'.M.length
   ·rw [Qy ha,Qw hb] at e'
    exact absurd e' ((s.mok.hd p hp).1 a (by omega))
   ·rw [Qy ha,Qy hb] at e'
    exact s.mok.inj a b (by omega) (by omega) e'
 ·obtain ⟨h1,us,q1⟩:=s.mok.hd q (sub q h)
  refine ⟨fun a ha z=>?_,us,q1⟩
  have z':(if a = S'.M.length then p else S'.α a) = q:=z
  have h3:a < (S'.M ++ [Cell.lst xs]).length:=ha
  by_cases hl:a = S'.M.length
  ·rw [Qw hl] at z'
   obtain ⟨_,us2,q2⟩:=m.hd q h
   rw [← z',hn] at q2
   cases q2
  ·rw [Qy hl] at z'
   exact h1 a (by simp at h3;omega) z'
noncomputable def Sit.hide (S:Sit) (p:Addr) (vs:List V):Sit:=⟨S.α,S.M,upd S.H p (.lst vs),p :: S.hid⟩
theorem Stp.hide (m:MemOk K S) {p:Addr} (hp:S.H p = none) (vs:List V):Stp K S (S.hide p vs):=by
 have g:Grow S (S.hide p vs):=⟨Q3 _,fun _ _=>rfl,fun a h1 h2=>absurd (Q5 h2 h1) (Qm _),fun b u e _=>by show upd S.H p _ b = _;rw [ym (yw e hp)];exact e,fun q h=>⟨.tail _ h,by obtain ⟨_,vs,e⟩:=m.hd q h;exact ym (yw e hp)⟩,fun q h=>by
  cases h with
  | head=>exact .inr hp
  | tail _ h=>exact .inl h⟩
 refine ⟨g,⟨fun a c e=>?_,m.inj,fun q h=>?_⟩⟩
 ·have ha:a < S.M.length:=(Qx.mp e).1
  exact (m.cell a c e).grow m g (ym ((m.off_none hp).1 a ha))
 ·cases h with
  | head=>exact ⟨(m.off_none hp).1,vs,yx⟩
  | tail _ h=>
   obtain ⟨h1,us,e⟩:=m.hd q h
   exact ⟨h1,us,(ym (yw e hp)).trans e⟩
end
variable {op op':CmpOp} {ga:Ev->Mem->Out (List T)} {tf:Ev->Mem->Out Bool} {f:Ev->Mem->Out T} {i:Int} {M:Mem} {x:Str} {o o':T->T->Mem->Out T}
section
variable {a b c:Expr} {g h:Ev->Mem->Out T}
theorem zbp (h:PE X e (tC v)) (r:∀ S,Rep X.K S t v):GE X XE e (eC t):=PE.imp h fun σ H Q h9=>by
 obtain ⟨S,στ,_,e,m,ev,_,fin⟩:=h9
 show Q v H
 rw [← e];exact fin S v rfl (.refl m) (r S)
theorem zek {K:Frag} (h:lE XE K (eOp o f g) σ H Q):lE XE K f σ H fun x H1=>lE XE K g σ H1 fun y H2=>lR2 XE K o x y H2 Q:=
 LN.mono (LN.bind (f:=fun _ σ M=>f σ M) (k:=fun _ x σ M1=>(g σ M1).bind fun y M2=>o x y M2) (RB:=Rep K) h) fun v H1 h1=>
  LN.mono (LN.env (f:=g) (LN.bind (f:=fun _ σ M=>g σ M) (k:=fun (ax:Unit × T) y σ M2=>o ax.2 y M2) (RB:=Rep K) h1)) fun w H2 h2=>by
   obtain ⟨S,στ,a,e,m,ev,ra,fin⟩:=h2
   exact ⟨S,(a.1.2,a.2),e,m,⟨ra.1.2,ra.2⟩,fin⟩
theorem zfi {K:Frag} {β γ:Type} {R:Sit->β->γ->Prop} {S:Sit} {k:Bool->Mem->Out β} {Q:γ->Hp->Prop} (r:Rep K S t v) (h:Fin XE R K S (blT t M k) Q):∃ b,v = .bl b/\t = .bl b/\Fin XE R K S (k b M) Q:=by
 cases r with
 | bl b=>exact ⟨b,rfl,rfl,h⟩
 | _=>exact h.elim
theorem tif {tg:Ev->Mem->Out Bool} {K:Frag} {Q:Bool->Hp->Prop} {p:Bool->Ev->Mem->Out Bool} (h:LN XE EqR K UnR (fun _ σ M=>(tf σ M).bind fun c M1=>p c σ M1) () σ H Q):lT XE K tf σ H fun c H1=>lT XE K (fun σ M=>p c σ M) σ H1 Q:=
 LN.mono (LN.bind (f:=fun _ σ M=>tf σ M) (k:=fun _ c σ M1=>p c σ M1) (RB:=EqR) h) fun c H1 h2=>by
  obtain ⟨S,στ,a,e,m,ev,ra,fin⟩:=h2
  have:a.2 = c:=ra.2
  subst this
  exact ⟨S,στ,(),e,m,ev,trivial,fin⟩
theorem zgj {K:Frag} {Q:Bool->Hp->Prop} {d:Bool} (h:lT XE K (fun _ M=>.ok d M) σ H Q):Q d H:=by
 obtain ⟨S,στ,a,e,m,ev,ra,fin⟩:=h
 rw [← e];exact fin S d rfl (.refl m) rfl
theorem zmD {K:Frag} {d:T} (h:lE XE K (fun _ M=>.ok d M) σ H Q) (r:∀ S,Rep K S d v):Q v H:=by
 obtain ⟨S,στ,a,e,m,ev,ra,fin⟩:=h
 rw [← e];exact fin S v rfl (.refl m) (r S)
variable {tg:Ev->Mem->Out Bool} {rest:List Expr}
theorem GW.gt (h:GW X XE e tf):GT X XE e tf:=PW.pt h
theorem eif {K:Frag} {p:Bool->Ev->Mem->Out T} (h:LN XE (Rep K) K UnR (fun _ σ M=>(f σ M).bind fun x M1=>blT x M1 fun b M2=>p b σ M2) () σ H Q):lE XE K f σ H fun x H1=>∃ c,x = .bl c/\lE XE K (fun σ M=>p c σ M) σ H1 Q:=
 LN.mono (LN.bind (f:=fun _ σ M=>f σ M) (k:=fun _ x σ M1=>blT x M1 fun b M2=>p b σ M2) (RB:=Rep K) h) fun c H1 h2=>by
  obtain ⟨S,στ,a,e,m,ev,ra,fin⟩:=h2
  obtain ⟨b,e1,e2,fin⟩:=zfi ra.2 fin
  exact ⟨b,e1,S,στ,(),e,m,ev,trivial,fin⟩
theorem chain {K:Frag} (hh:lE XE K (qU o o' f g h) σ H Q):zgx (lR2 XE K o) (lR2 XE K o') (lE XE K f) (lE XE K g) (lE XE K h) σ H Q:=
 LN.mono (LN.bind (f:=fun _ σ M=>f σ M) (k:=fun _ x σ M1=>(g σ M1).bind fun y M2=>(o x y M2).bind fun z M3=>blT z M3 fun b M4=>if b = true then (h σ M4).bind fun w M5=>o' y w M5 else .ok (.bl false) M4) (RB:=Rep K) hh) fun x H1 h1=>
  LN.mono (LN.env (f:=g) (LN.bind (f:=fun _ σ M=>g σ M) (k:=fun (ax:Unit × T) y σ M2=>(o ax.2 y M2).bind fun z M3=>blT z M3 fun b M4=>if b = true then (h σ M4).bind fun w M5=>o' y w M5 else .ok (.bl false) M4) (RB:=Rep K) h1)) fun y H2 h2=>by
   have h3:=LN.bind (f:=fun (a:(Unit × T) × T) _ M=>o a.1.2 a.2 M) (k:=fun a z σ M3=>blT z M3 fun b M4=>if b = true then (h σ M4).bind fun w M5=>o' a.2 w M5 else .ok (.bl false) M4) (RB:=Rep K) h2
   obtain ⟨S,a,e,m,ra,fin⟩:=LN.l0 (k:=fun (a:(Unit × T) × T) M=>o a.1.2 a.2 M) h3
   refine ⟨S,(a.1.2,a.2),e,m,⟨ra.1.2,ra.2⟩,fin.mono fun z H3 h4=>?_⟩
   obtain ⟨S3,στ,a3,e3,m3,ev3,ra3,fin3⟩:=h4
   obtain ⟨b,e1,_,fin3⟩:=zfi ra3.2 fin3
   refine ⟨b,e1,?_⟩
   cases b with
   | false=>exact (Qy Q4).mpr (by rw [← e3];exact fin3 S3 _ rfl (.refl m3) (.bl _))
   | true=>
    refine (Qw rfl).mpr ?_
    have h5:LN XE (Rep K) K (Rep K) (fun y σ M4=>(h σ M4).bind fun w M5=>o' y w M5) y σ H3 Q:=⟨S3,στ,a3.1.2,e3,m3,ev3,ra3.1.2,fin3⟩
    refine LN.mono (LN.env (f:=h) (LN.bind (f:=fun _ σ M=>h σ M) (k:=fun y w σ M5=>o' y w M5) (RB:=Rep K) h5)) fun w H4 h6=>?_
    exact LN.l0 (k:=fun (a:T × T) M=>o' a.1 a.2 M) h6
end
inductive Fl where
 | nx (σ:Ev) | rt (t:T) | bk (σ:Ev) | ct (σ:Ev)
inductive FlV where
 | nx (σ:L2.St) | rt (v:V) | bk (σ:L2.St) | ct (σ:L2.St)
inductive FlR (K:Frag) (S:Sit):Fl->FlV->Prop where
 | nx {a b}:EvR K S a b->FlR K S (.nx a) (.nx b)
 | rt {a b}:Rep K S a b->FlR K S (.rt a) (.rt b)
 | bk {a b}:EvR K S a b->FlR K S (.bk a) (.bk b)
 | ct {a b}:EvR K S a b->FlR K S (.ct a) (.ct b)
noncomputable def qS (D:Ends):FlV->Hp->Prop
 | .nx σ,H=>D.nx σ H
 | .rt v,H=>D.rt v H
 | .bk σ,H=>D.bk σ H
 | .ct σ,H=>D.ct σ H
noncomputable def lS (XE:XK) (K:Frag) (g:Ev->Mem->Out Fl):TS:=fun D σ H=>LN XE (FlR K) K UnR (fun _ σ M=>g σ M) () σ H (qS D)
def GS (X:Cx) (XE:XK) (st:Stmt) (g:Ev->Mem->Out Fl):Prop:=PS X st (lS XE X.K g)
def GSs (X:Cx) (XE:XK) (st:List Stmt) (g:Ev->Mem->Out Fl):Prop:=PSs X st (lS XE X.K g)
variable {στ:Ev}
theorem EvR.set {K:Frag} {S:Sit} (r:EvR K S στ σ) (q:Rep K S t v) (i:Nat):EvR K S (στ.set i (some t)) (σ.set i (some v)):=by
 refine ⟨by simp [r.1],fun j u e=>?_⟩
 rw [getElem?_set] at e ⊢
 by_cases h:i = j
 ·subst h
  by_cases hl:i < στ.length
  ·rw [Qw rfl,Qw hl] at e
   cases e
   exact ⟨v,by rw [Qw rfl,Qw (by rw [← r.1];exact hl)],q⟩
  ·rw [Qw rfl,Qy hl] at e;cases e
 ·rw [Qy h] at e
  obtain ⟨w,e2,q2⟩:=r.2 j u e
  exact ⟨w,by rw [Qy h];exact e2,q2⟩
noncomputable def yO:Ev->Mem->Out Fl:=fun σ M=>.ok (.nx σ) M
noncomputable def zsF:Ev->Mem->Out Fl:=fun σ M=>.ok (.bk σ) M
noncomputable def zsU:Ev->Mem->Out Fl:=fun σ M=>.ok (.ct σ) M
noncomputable def za6 (k:Ev->Mem->Out Fl) (fl:Fl) (M:Mem):Out Fl:=match fl with
 | .nx σ=>k σ M
 | .rt t=>.ok (.rt t) M
 | .bk σ=>.ok (.bk σ) M
 | .ct σ=>.ok (.ct σ) M
noncomputable def zg (g h:Ev->Mem->Out Fl):Ev->Mem->Out Fl:=fun σ M=>(g σ M).bind (za6 h)
noncomputable def yu (f:Ev->Mem->Out T):Ev->Mem->Out Fl:=fun σ M=>(f σ M).bind fun t M1=>.ok (.rt t) M1
noncomputable def qO (f:Ev->Mem->Out T):Ev->Mem->Out Fl:=fun σ M=>(f σ M).bind fun _ M1=>.ok (.nx σ) M1
noncomputable def sIf (c:Ev->Mem->Out Bool) (g h:Ev->Mem->Out Fl):Ev->Mem->Out Fl:=fun σ M=>(c σ M).bind fun b M1=>if b = true then g σ M1 else h σ M1
noncomputable def zn (i:Nat) (f:Ev->Mem->Out T):Ev->Mem->Out Fl:=fun σ M=>(f σ M).bind fun t M1=>.ok (.nx (σ.set i (some t))) M1
noncomputable def lG (XE:XK) (K:Frag) (bd:T->Ev->Mem->Out Ev):TG:=fun v σ H Q=>LN XE (EvR K) K (Rep K) bd v σ H Q
noncomputable def lGs (XE:XK) (K:Frag) (bd:List T->Ev->Mem->Out Ev):TGs:=fun v σ H Q=>LN XE (EvR K) K (Reps K) bd v σ H Q
def GG (X:Cx) (XE:XK) (tg:Expr) (bd:T->Ev->Mem->Out Ev):Prop:=PG X tg (lG XE X.K bd)
def GGs (X:Cx) (XE:XK) (tg:List Expr) (bd:List T->Ev->Mem->Out Ev):Prop:=PGs X tg (lGs XE X.K bd)
noncomputable def qf (i:Nat):T->Ev->Mem->Out Ev:=fun t σ M=>.ok (σ.set i (some t)) M
noncomputable def zai:List T->Ev->Mem->Out Ev:=fun ts σ M=>match ts with
 | []=>.ok σ M
 | _=>.bad
noncomputable def yo (b:T->Ev->Mem->Out Ev) (bs:List T->Ev->Mem->Out Ev):List T->Ev->Mem->Out Ev:=fun ts σ M=>match ts with
 | t :: r=>(b t σ M).bind fun σ1 M1=>bs r σ1 M1
 | _=>.bad
noncomputable def zah (n:Nat) (bs:List T->Ev->Mem->Out Ev):T->Ev->Mem->Out Ev:=fun t σ M=>match t with
 | .tup xs=>if xs.length = n then bs xs σ M else .bad
 | _=>.bad
noncomputable def zgO (f:Ev->Mem->Out T) (b:T->Ev->Mem->Out Ev):Ev->Mem->Out Fl:=fun σ M=>(f σ M).bind fun t M1=>(b t σ M1).bind fun σ1 M2=>.ok (.nx σ1) M2
def zbJ (K:Frag) (S:Sit) (items:List T) (J:It):Prop:=∀ S',Stp K S S'->
 (∀ (i:Nat) t,items[i]? = some t->J.go i S'.H/\∀ x H',J.yld i S'.H x H'->∃ S'',S''.H = H'/\S''.M = S'.M/\Stp K S' S''/\Rep K S'' t x)/\∀ i,items.length<=i->J.stop i S'.H
instance (K):Mo K (zbJ K):=⟨fun _ s r=>fun S' s'=>r S' (s.trans s')⟩
noncomputable def lI (XE:XK) (K:Frag) (f:Ev->Mem->Out (List T)):TI:=fun σ H R=>LN XE (zbJ K) K UnR (fun _ σ M=>f σ M) () σ H R
def GI (X:Cx) (XE:XK) (tg iter:Expr) (f:Ev->Mem->Out (List T)):Prop:=PI X tg iter (lI XE X.K f)
noncomputable def yU (k:Ev->Mem->Out Fl) (fl:Fl) (M:Mem):Out Fl:=match fl with
 | .nx σ=>k σ M
 | .ct σ=>k σ M
 | .bk σ=>.ok (.nx σ) M
 | .rt t=>.ok (.rt t) M
noncomputable def forL (bd:T->Ev->Mem->Out Ev) (body:Ev->Mem->Out Fl):List T->Ev->Mem->Out Fl
 | [],σ,M=>.ok (.nx σ) M
 | x :: xs,σ,M=>(bd x σ M).bind fun σ1 M1=>(body σ1 M1).bind (yU (forL bd body xs))
noncomputable def zbk (it:Ev->Mem->Out (List T)) (bd:T->Ev->Mem->Out Ev) (body:Ev->Mem->Out Fl):Ev->Mem->Out Fl:=fun σ M=>(it σ M).bind fun xs M1=>forL bd body xs σ M1
noncomputable def whileN (c:Ev->Mem->Out Bool) (body:Ev->Mem->Out Fl):Nat->Ev->Mem->Out Fl
 | 0,_,_=>.bad
 | n + 1,σ,M=>(c σ M).bind fun b M1=>if b = true then (body σ M1).bind (yU (whileN c body n)) else .ok (.nx σ) M1
open Classical in
noncomputable def zgM (c:Ev->Mem->Out Bool) (body:Ev->Mem->Out Fl):Ev->Mem->Out Fl:=fun σ M=>if h:∃ n,whileN c body n σ M ≠ .bad then whileN c body h.choose σ M else .bad
theorem zcv {c:Ev->Mem->Out Bool} {body:Ev->Mem->Out Fl}:∀ {n:Nat} {σ:Ev} {M:Mem} {r:Out Fl},whileN c body n σ M = r->r ≠ .bad->whileN c body (n + 1) σ M = r
 | 0,_,_,_,e,h=>absurd e.symm h
 | n + 1,σ,M,r,e,h=>by
  unfold whileN at e ⊢
  cases q:c σ M with
  | bad=>rw [q] at e;exact absurd e.symm h
  | exn C fs M'=>rw [q] at e;exact e
  | ok b M1=>
   rw [q] at e
   replace e:(if b = true then (body σ M1).bind (yU (whileN c body n)) else Out.ok (.nx σ) M1) = r:=e
   show (if b = true then (body σ M1).bind (yU (whileN c body (n + 1))) else Out.ok (.nx σ) M1) = r
   cases b with
   | false=>exact e
   | true=>
    rw [Qw rfl] at e ⊢
    cases q2:body σ M1 with
    | bad=>rw [q2] at e;exact absurd e.symm h
    | exn C fs M'=>rw [q2] at e;exact e
    | ok fl M2=>
     rw [q2] at e
     cases fl with
     | nx σ2=>exact zcv (n:=n) e h
     | ct σ2=>exact zcv (n:=n) e h
     | bk σ2=>exact e
     | rt t=>exact e
variable {body:Ev->Mem->Out Fl} {n:Nat}
theorem zfP {c:Ev->Mem->Out Bool} {k:Nat} {σ:Ev} {r:Out Fl} (e:whileN c body n σ M = r) (h:r ≠ .bad):whileN c body (n + k) σ M = r:=by
 induction k with
 | zero=>exact e
 | succ k ih=>exact zcv ih h
theorem zjT {c:Ev->Mem->Out Bool} {σ:Ev} {r:Out Fl} (n:Nat) (e:whileN c body n σ M = r) (h:r ≠ .bad):zgM c body σ M = r:=by
 have ex:∃ n,whileN c body n σ M ≠ .bad:=⟨n,by rw [e];exact h⟩
 unfold zgM
 rw [dif_pos ex]
 have h2:=ex.choose_spec
 have e1:=zfP (k:=ex.choose) e h
 have e2:=zfP (k:=n) rfl h2
 rw [Nat.add_comm] at e2
 rw [← e2,e1]
noncomputable def zlR (XE:XK) (K:Frag) (st:T->T->T->Mem->Out Unit):zjw:=fun o i v H Q=>L0 XE UnR K (PrR (PrR (Rep K) (Rep K)) (Rep K)) (fun a M=>st a.1.1 a.1.2 a.2 M) ((o,i),v) H (fun _ H'=>Q H')
noncomputable def zhF (st:T->T->T->Mem->Out Unit) (f g:Ev->Mem->Out T):T->Ev->Mem->Out Ev:=fun t σ M=>(f σ M).bind fun o M1=>(g σ M1).bind fun i M2=>(st o i t M2).bind fun _ M3=>.ok σ M3
variable {D:Ends} {iter tg:Expr} {st:Stmt} {bd:T->Ev->Mem->Out Ev}
section
variable {a b c:Expr} {g h:Ev->Mem->Out T} {sts rest:List Stmt} {p q r:Ev->Mem->Out Fl}
theorem zg7 {K:Frag} (hh:lS XE K (zg p q) D σ H):lS XE K p { D with nx:=lS XE K q D } σ H:=by
 obtain ⟨S,στ,_,e,m,ev,_,fin⟩:=hh
 refine ⟨S,στ,(),e,m,ev,trivial,?_⟩
 show Fin XE (FlR K) K S (p στ S.M) _
 replace fin:Fin XE (FlR K) K S ((p στ S.M).bind (za6 q)) (qS D):=fin
 cases o:p στ S.M with
 | bad=>rw [o] at fin;exact fin
 | exn C fs M'=>rw [o] at fin;exact fin
 | ok fl M1=>
  rw [o] at fin
  intro S1 cc e1 s1 r1
  cases r1 with
  | nx r1=>exact ⟨S1,_,(),rfl,s1.mok,r1,trivial,by rw [e1];exact Fin.later s1 fin⟩
  | rt r1=>exact fin S1 _ e1 s1 (.rt r1)
  | bk r1=>exact fin S1 _ e1 s1 (.bk r1)
  | ct r1=>exact fin S1 _ e1 s1 (.ct r1)
theorem PG.imp {t t':TG} (h:PG X tg t) (i:∀ v σ H Q,t' v σ H Q->t v σ H Q):PG X tg t':=fun pins s σ H v u Q I r q=>h pins s σ H v u Q I r (i v σ H Q q)
theorem PGs.imp {tgs:List Expr} {t t':TGs} (h:PGs X tgs t) (i:∀ v σ H Q,t' v σ H Q->t v σ H Q):PGs X tgs t':=fun pins s σ H v u Q I r q=>h pins s σ H v u Q I r (i v σ H Q q)
theorem zqY {K:Frag} (hh:LN XE (FlR K) K (Rep K) (fun t σ M=>(bd t σ M).bind fun σ1 M2=>.ok (Fl.nx σ1) M2) v σ H (qS D)):lG XE K bd v σ H D.nx:=by
 obtain ⟨S,στ,t,e,m,ev,ra,fin⟩:=hh
 refine ⟨S,στ,t,e,m,ev,ra,?_⟩
 replace fin:Fin XE (FlR K) K S ((bd t στ S.M).bind fun σ1 M2=>.ok (Fl.nx σ1) M2) (qS D):=fin
 cases o:bd t στ S.M with
 | bad=>rw [o] at fin;exact fin
 | exn C fs M'=>rw [o] at fin;exact fin
 | ok σ1 M1=>
  rw [o] at fin
  intro S1 cc e1 s1 ev1
  exact fin S1 (.nx cc) e1 s1 (.nx ev1)
theorem PI.imp {t t':TI} (h:PI X tg iter t) (i:∀ σ H R,t' σ H R->t σ H R):PI X tg iter t':=fun pins s σ H R I q=>h pins s σ H R I (i σ H R q)
end
noncomputable def startT (n:Nat) (ts:List T):Ev:=ts.map some ++ List.replicate (n - ts.length) none
noncomputable def zq (p n:Nat) (g:Ev->Mem->Out Fl):List T->Mem->Out T:=fun ts M=>if ts.length = p then match g (startT n ts) M with
 | .ok (.rt t) M'=>.ok t M'
 | .ok (.nx _) M'=>.ok .non M'
 | _=>.bad else .bad
noncomputable def spT (K:Frag) (f:List T->Mem->Out T):Sp:=fun vs H Q E=>L0 E (Rep K) K (Reps K) f vs H Q
structure CalT (P:Program) (w:World) (K:Frag) (mg:Str->Option Value) (base:Heap) (k:Nat) (x:Str) (ps:List Str) (f:List T->Mem->Out T):Prop where
 cal:Cal P w K mg base k x ps (spT K f)
 nox:∀ ts M C fs M',f ts M ≠ .exn C fs M'
theorem zi0 (p n:Nat) (g:Ev->Mem->Out Fl):∀ ts M C fs M',zq p n g ts M ≠ .exn C fs M':=by
 intro ts M C fs M' z
 unfold zq at z
 split at z
 ·split at z <;> cases z
 ·cases z
variable {N:List Str}
theorem EvR.start {K:Frag} {S:Sit} (r:Reps K S ts vs) (hn:N.length = n):EvR K S (startT n ts) (L2.start N vs):=by
 subst hn
 refine ⟨by simp [startT,L2.start,r.1],fun i t e=>?_⟩
 unfold startT at e
 unfold L2.start
 by_cases hi:i < ts.length
 ·rw [Q6 (by simpa using hi)] at e
  rw [Q6 (by simpa [← r.1] using hi)]
  rw [Qa] at e ⊢
  cases q:ts[i]? with
  | none=>rw [q] at e;cases e
  | some t'=>
   rw [q] at e
   have:t' = t:=Qb (Qb e)
   subst this
   obtain ⟨v,e2,r2⟩:=r.get q
   exact ⟨v,by rw [e2];rfl,r2⟩
 ·rw [Q7 (by simpa using hi)] at e
  rw [List.getElem?_replicate] at e
  split at e <;> cases e
variable {g:Ev->Mem->Out Fl} {base:Heap} {ps:List Str} {P:Program} {mg:Str->Option Value} {w:World}
section
variable {K:Frag}
theorem zhz {st:List Stmt} {p:Nat} (hn:N.length = n) {E:XK} (hX:X.K = K) (h:spT K (zq p n g) vs H Q E) (hb:GSs X E0 st g) :
  ∃ t,PSs X st t/\t { nx:=fun _ H'=>Q .non H',rt:=Q } (start N vs) H:=by
 subst hX
 refine ⟨_,hb,?_⟩
 obtain ⟨S,ts,e,m,r,fin⟩:=h
 refine ⟨S,startT n ts,(),e,m,EvR.start r hn,trivial,?_⟩
 show Fin E0 (FlR X.K) X.K S (g (startT n ts) S.M) _
 unfold zq at fin
 by_cases hp:ts.length = p
 ·rw [Qw hp] at fin
  cases o:g (startT n ts) S.M with
  | bad=>rw [o] at fin;exact fin
  | exn C fs M'=>rw [o] at fin;exact fin.elim
  | ok fl M1=>
   rw [o] at fin
   cases fl with
   | nx σ1=>
    intro S1 c e1 s1 r1
    cases r1 with
    | nx r1=>exact fin S1 .non e1 s1 .non
   | rt t=>
    intro S1 c e1 s1 r1
    cases r1 with
    | rt r1=>exact fin S1 _ e1 s1 r1
   | bk σ1=>exact fin.elim
   | ct σ1=>exact fin.elim
 ·rw [Qy hp] at fin;exact fin.elim
theorem zjO {p:Nat} (hp:ps.length = p):∀ vs H Q E,spT K (zq p n g) vs H Q E->vs.length = ps.length:=by
 intro vs H Q E ⟨S,ts,e,m,r,fin⟩
 rw [← r.1,hp]
 unfold zq at fin
 by_cases h:ts.length = p
 ·exact h
 ·rw [Qy h] at fin;exact fin.elim
theorem zkW {k p:Nat} (D:Df K mg x st ps) (Sc:FnScope N ps (zf st)) (hp:ps.length = p) (hn:N.length = n)
 (hb:∀ (f:Addr) (cdv:Value) (A:Around) (outer:List PySem.Env) (s:Shared) (H:Hp) (E:XK),Room k (A.deeper (envOfC x (zf st) s.heap.objs.size f cdv))->GSs (zbr CX0 P w K mg base N x (zf st) f cdv A outer s H E).nox E0 (yI st) g) :
  CalT P w K mg base (k + 1) x ps (zq p n g):=
 ⟨D.ok Sc (zjO hp) fun f cdv A outer s H vs Q E hr h=>zhz hn rfl h (hb f cdv A outer s H E hr),zi0 _ _ _⟩
theorem zpB {qual:Str} {f:Addr} {fd:FuncData} {k p:Nat} (F:Fun K x qual st f fd) (Sc:FnScope N ps (zf st)) (hp:ps.length = p) (hn:N.length = n)
 (hb:∀ (cdv:Value) (A:Around) (outer:List PySem.Env) (s:Shared) (H:Hp) (E:XK),Room k (A.deeper (envOfC qual (zf st) s.heap.objs.size f cdv))->GSs (zbr CX0 P w K mg base N qual (zf st) f cdv A outer s H E).nox E0 (yI st) g) :
  FnOk P w K mg base CX0 (k + 1) f fd ps (spT K (zq p n g)):=
 F.ok Sc (zjO hp) fun cdv A outer s H vs Q E hr h=>zhz hn rfl h (hb cdv A outer s H E hr)
theorem znL {f:List T->Mem->Out T} {a:Addr} {ns:List Int} {M':Mem} (hS:SqL K H a (ns.map V.int)) (h:f [.lst (ns.map .int)] [] = .ok (.bl true) M'):spT K f [.ref a] H (fun v _=>v = .bl true) fun _ _ _=>False:=by
 refine ⟨⟨fun _=>0,[],H,[]⟩,[.lst (ns.map .int)],rfl,⟨fun a c e=>by simp at e,fun a b h=>absurd h (Nat.not_lt_zero _),fun p h=>by simp at h⟩,.cons (.lst (vs:=ns.map V.int) ?_ (by simp) ?_) .nil,?_⟩
 ·rcases hS with h | h
  ·exact .inl ⟨h,fun a h=>absurd h (Nat.not_lt_zero _),fun z=>by simp at z⟩
  ·exact .inr h
 ·intro i t v e1 e2
  rw [Qa] at e1 e2
  cases q:ns[i]? with
  | none=>rw [q] at e1;cases e1
  | some z=>rw [q] at e1 e2;cases e1;cases e2;exact .int z
 ·show Fin _ _ K _ (f [.lst (ns.map .int)] []) _
  rw [h]
  intro S' c e s r
  cases r
  rfl
end
section
variable {k:Nat} {p:Pos} {F:List T->Mem->Out T}
end
inductive T.lt (n:Nat):T->Prop where
 | non:T.lt n .non
 | bl (b:Bool):T.lt n (.bl b)
 | int (i:Int):T.lt n (.int i)
 | str (x:Str):T.lt n (.str x)
 | ty (x:String):T.lt n (.ty x)
 | tup {ts:List T} (h:∀ t ∈ ts,T.lt n t):T.lt n (.tup ts)
 | lst {ts:List T} (h:∀ t ∈ ts,T.lt n t):T.lt n (.lst ts)
 | ref {a:Nat} (h:a < n):T.lt n (.ref a)
 | dct {kvs:List (Key × T)} (h:∀ t ∈ kvs.map (·.2),T.lt n t):T.lt n (.dct kvs)
 | exc {C:Addr} {fs:List (Str × T)} (h:∀ t ∈ fs.map (·.2),T.lt n t):T.lt n (.exc C fs)
noncomputable def Cell.lt (n:Nat):Cell->Prop
 | .lst ts=>∀ t ∈ ts,T.lt n t
 | .dic kvs=>∀ k ∈ kvs,T.lt n k.2
 | .ins _ fs=>∀ k ∈ fs,T.lt n k.2
inductive Fz (M':Mem) (n:Nat):T->T->Prop where
 | same {t:T} (h:T.lt n t):Fz M' n t t
 | tup {ts us:List T} (l:ts.length = us.length) (h:∀ (i:Nat) t u,ts[i]? = some t->us[i]? = some u->Fz M' n t u):Fz M' n (.tup ts) (.tup us)
 | lst {ts us:List T} (l:ts.length = us.length) (h:∀ (i:Nat) t u,ts[i]? = some t->us[i]? = some u->Fz M' n t u):Fz M' n (.lst ts) (.lst us)
 | ref {a:Nat} {ts us:List T} (e:M'[a]? = some (.lst ts)) (g:n<=a) (l:ts.length = us.length) (h:∀ (i:Nat) t u,ts[i]? = some t->us[i]? = some u->Fz M' n t u):Fz M' n (.ref a) (.lst us)
theorem Rep.lt {K:Frag} {S:Sit} (r:Rep K S t v):T.lt S.M.length t:=by
 induction r with
 | non=>exact .non
 | bl b=>exact .bl b
 | int b=>exact .int b
 | str b=>exact .str b
 | ty b=>exact .ty b
 | @tup ts p vs h l _ ih=>
  refine .tup fun t ht=>?_
  obtain ⟨i,hi,rfl⟩:=getElem_of_mem ht
  exact ih i _ vs[i] (by simp [hi]) (by simp [← l,hi])
 | @lst ts p vs h l _ ih=>
  refine .lst fun t ht=>?_
  obtain ⟨i,hi,rfl⟩:=getElem_of_mem ht
  exact ih i _ vs[i] (by simp [hi]) (by simp [← l,hi])
 | ref h=>exact .ref h
 | @dct kvs us p o h l _ ih=>
  refine .dct fun t ht=>?_
  obtain ⟨i,hi,rfl⟩:=getElem_of_mem ht
  have hl:i < us.length:=by have:=congrArg List.length l;simp at this hi;omega
  exact ih i _ (us[i]'hl).2 (Q0 hi) (by simp [hl])
 | @exc C fs us p od h hd l _ ih=>
  refine .exc fun t ht=>?_
  obtain ⟨i,hi,rfl⟩:=getElem_of_mem ht
  have hl:i < us.length:=by have:=congrArg List.length l;simp at this hi;omega
  exact ih i _ (us[i]'hl).2 (Q0 hi) (by simp [hl])
theorem Reps.lt {K:Frag} {S:Sit} (r:Reps K S ts vs):∀ t ∈ ts,T.lt S.M.length t:=fun t ht=>by
 obtain ⟨i,hi,rfl⟩:=getElem_of_mem ht
 have hv:i < vs.length:=by rw [← r.1];exact hi
 exact (r.2 i _ vs[i] (by simp [hi]) (by simp [hv])).lt
theorem ziz {κ:Type} {fs:List (κ × T)} (h:∀ t ∈ fs.map (·.2),T.lt n t):∀ k ∈ fs,T.lt n k.2:=fun k hk=>h _ (List.mem_map_of_mem (f:=(·.2)) hk)
theorem CellOk.lt {K:Frag} {S:Sit} {p:Addr} (h:CellOk K S p c):Cell.lt S.M.length c:=by
 cases c with
 | lst ts=>obtain ⟨vs,_,r⟩:=h;exact r.lt
 | dic ts=>obtain ⟨vs,_,r⟩:=h;exact ziz r.2.lt
 | ins C ts=>obtain ⟨dx,vs,_,r⟩:=h;exact ziz r.2.lt
variable {m:Nat}
theorem T.lt.mono (h:n<=m) (r:T.lt n t):T.lt m t:=by
 induction r with
 | non=>exact .non
 | bl b=>exact .bl b
 | int b=>exact .int b
 | str b=>exact .str b
 | ty b=>exact .ty b
 | tup _ ih=>exact .tup ih
 | lst _ ih=>exact .lst ih
 | ref g=>exact .ref (Q5 g h)
 | dct _ ih=>exact .dct ih
 | exc _ ih=>exact .exc ih
noncomputable def Sit.cut (S:Sit) (n:Nat) (h:List Addr):Sit:=⟨S.α,S.M.take n,S.H,h⟩
variable {u:T}
section
variable {K:Frag} {S:Sit}
theorem Rep.cut (hn:n<=S'.M.length) (sub:∀ p ∈ hh,p ∈ S'.hid) (r:Rep K S' t v) (l:T.lt n t):Rep K (S'.cut n hh) t v:=by
 have ln:(S'.cut n hh).M.length = n:=by show (S'.M.take n).length = n;simp;omega
 induction r with
 | non=>exact .non
 | bl b=>exact .bl b
 | int b=>exact .int b
 | str b=>exact .str b
 | ty b=>exact .ty b
 | @tup ts p vs h l2 _ ih=>
  cases l with
  | tup hl=>exact .tup h l2 fun i t v e1 e2=>ih i t v e1 e2 (hl t (Q9 e1))
 | @lst ts p vs h l2 _ ih=>
  cases l with
  | lst hl=>
   refine .lst ?_ l2 fun i t v e1 e2=>ih i t v e1 e2 (hl t (Q9 e1))
   rcases h with ⟨h,f⟩ | h
   ·exact .inl ⟨h,fun a ha z=>f.1 a (by rw [ln] at ha;omega) z,fun z=>f.2 (sub _ z)⟩
   ·exact .inr h
 | @ref a h=>
  cases l with
  | ref hl=>exact .ref (S:=S'.cut n hh) (by rw [ln];exact hl)
 | dct h l2 _ ih=>
  cases l with
  | dct hl=>exact .dct (S:=S'.cut n hh) h l2 fun i t v e1 e2=>ih i t v e1 e2 (hl t (Q9 e1))
 | exc h hd l2 _ ih=>
  cases l with
  | exc hl=>exact .exc (S:=S'.cut n hh) h hd l2 fun i t v e1 e2=>ih i t v e1 e2 (hl t (Q9 e1))
theorem Reps.cut (hn:n<=S'.M.length) (sub:∀ p ∈ hh,p ∈ S'.hid) {t:List T} {v:List V} (r:Reps K S' t v) (l:∀ x ∈ t,T.lt n x):Reps K (S'.cut n hh) t v:=⟨r.1,fun i t v e1 e2=>(r.2 i t v e1 e2).cut hn sub (l t (Q9 e1))⟩
theorem CellOk.cut (hn:n<=S'.M.length) (sub:∀ p ∈ hh,p ∈ S'.hid) {p:Addr} (r:CellOk K S' p c) (l:Cell.lt n c):CellOk K (S'.cut n hh) p c:=by
 have ms:∀ {κ:Type} {fs:List (κ × T)},(∀ k ∈ fs,T.lt n k.2)->∀ t ∈ fs.map (·.2),T.lt n t:=fun h t ht=>by
  obtain ⟨k,hk,rfl⟩:=QE.mp ht
  exact h k hk
 cases c with
 | lst ts=>obtain ⟨vs,q,r⟩:=r;exact ⟨vs,q,r.cut hn sub l⟩
 | dic ts=>obtain ⟨vs,q,r⟩:=r;exact ⟨vs,q,r.1,r.2.cut hn sub (ms l)⟩
 | ins C ts=>obtain ⟨dx,vs,q,r⟩:=r;exact ⟨dx,vs,q,r.1,r.2.cut hn sub (ms l)⟩
theorem Stp.cut (s:Stp K S S') (h1:S.M.length<=n) (h2:n<=S'.M.length) (hl:∀ (i:Nat) c,i < n->S'.M[i]? = some c->Cell.lt n c):Stp K S (S'.cut n S.hid):=by
 have sub:∀ p ∈ S.hid,p ∈ S'.hid:=fun p h=>(s.hk p h).1
 have ln:(S'.cut n S.hid).M.length = n:=by show (S'.M.take n).length = n;simp;omega
 refine ⟨⟨by rw [ln];exact h1,s.al,fun a g1 g2=>s.fr a g1 (by rw [ln] at g2;omega),s.kp,fun p h=>⟨h,(s.hk p h).2⟩,fun p h=>.inl h⟩,⟨fun a c e=>?_,fun a b g1 g2 e=>s.mok.inj a b (by rw [ln] at g1;omega) (by rw [ln] at g2;omega) e,fun p h=>?_⟩⟩
 ·have e':(S'.M.take n)[a]? = some c:=e
  rw [getElem?_take] at e'
  split at e'
  ·rename_i hi
   exact (s.mok.cell a c e').cut h2 sub (hl a c hi e')
  ·cases e'
 ·obtain ⟨g1,vs,g2⟩:=s.mok.hd p (sub p h)
  exact ⟨fun a ha z=>g1 a (by rw [ln] at ha;omega) z,vs,g2⟩
theorem Rep.fz (m:MemOk K S') (hn:n<=S'.M.length) (sub:∀ p ∈ hh,p ∈ S'.hid) (z:Fz S'.M n t u):∀ {v:V},Rep K S' t v->Rep K (S'.cut n hh) u v:=by
 have ln:(S'.cut n hh).M.length = n:=by show (S'.M.take n).length = n;simp;omega
 induction z with
 | same h=>exact fun r=>r.cut hn sub h
 | @tup ts us l _ ih=>
  intro v r
  cases r with
  | @tup _ p vs h l2 rr=>
   refine .tup h (by rw [← l];exact l2) fun i t v e1 e2=>?_
   have hi:i < ts.length:=by rw [l];exact (Qx.mp e1).1
   exact ih i ts[i] t (by simp [hi]) e1 (rr i _ v (by simp [hi]) e2)
 | @lst ts us l _ ih=>
  intro v r
  cases r with
  | @lst _ p vs h l2 rr=>
   refine .lst ?_ (by rw [← l];exact l2) fun i t v e1 e2=>?_
   ·rcases h with ⟨h,f⟩ | h
    ·exact .inl ⟨h,fun a ha z=>f.1 a (by rw [ln] at ha;omega) z,fun z=>f.2 (sub _ z)⟩
    ·exact .inr h
   ·have hi:i < ts.length:=by rw [l];exact (Qx.mp e1).1
    exact ih i ts[i] t (by simp [hi]) e1 (rr i _ v (by simp [hi]) e2)
 | @ref a ts us e g l _ ih=>
  intro v r
  cases r with
  | ref ha=>
   obtain ⟨vs,q,rr⟩:=m.cell a _ e
   refine .lst (vs:=vs) (.inl ⟨.inl q,fun b hb z=>?_,fun z=>?_⟩) (by rw [← l];exact rr.1) fun i t v e1 e2=>?_
   ·rw [ln] at hb
    have:=m.inj b a (by omega) ha z
    omega
   ·exact (m.hd _ (sub _ z)).1 a ha rfl
   ·have hi:i < ts.length:=by rw [l];exact (Qx.mp e1).1
    exact ih i ts[i] t (by simp [hi]) e1 (rr.2 i _ v (by simp [hi]) e2)
end
def Refines (f g:List T->Mem->Out T):Prop:=∀ ts M t' M1,(∀ c ∈ M,Cell.lt M.length c)->f ts M = .ok t' M1->∃ t M',g ts M = .ok t M'/\M.length<=M1.length/\M1.length<=M'.length/\M1 = M'.take M1.length/\(∀ (i:Nat) c,M1[i]? = some c->M[i]? = some c\/Cell.lt M1.length c)/\Fz M' M1.length t t'
theorem Cell.lt.mono (h:n<=m) (r:Cell.lt n c):Cell.lt m c:=by
 cases c with
 | lst ts=>exact fun t ht=>(r t ht).mono h
 | dic ts=>exact fun t ht=>(r t ht).mono h
 | ins C ts=>exact fun t ht=>(r t ht).mono h
theorem CalT.refine {K:Frag} {k:Nat} {f g:List T->Mem->Out T} (C:CalT P w K mg base k x ps g) (h:Refines f g) (nox:∀ ts M C fs M',f ts M ≠ .exn C fs M'):CalT P w K mg base k x ps f:=by
 refine ⟨?_,nox⟩
 obtain ⟨⟨fa,fd,F,kp,b,gg⟩⟩:=C.cal
 have key:∀ vs H Q E,spT K f vs H Q E->spT K g vs H Q E:=by
  rintro vs H Q E ⟨S,ts,e,m,r,fin⟩
  refine ⟨S,ts,e,m,r,?_⟩
  have wf:∀ c ∈ S.M,Cell.lt S.M.length c:=fun c hc=>by
   obtain ⟨i,hi,rfl⟩:=getElem_of_mem hc
   exact (m.cell i _ (by simp [hi])).lt
  cases o:f ts S.M with
  | bad=>rw [o] at fin;exact fin.elim
  | exn C' fs M'=>exact absurd o (nox _ _ _ _ _)
  | ok t' M1=>
   rw [o] at fin
   obtain ⟨t,M',eg,l1,l2,eM,hc,z⟩:=h ts S.M t' M1 wf o
   rw [eg]
   intro S' v e1 s r1
   have hl:∀ (i:Nat) c,i < M1.length->S'.M[i]? = some c->Cell.lt M1.length c:=fun i c hi ec=>by
    have e2:M1[i]? = some c:=by
     rw [eM,getElem?_take,Qw hi,← e1];exact ec
    rcases hc i c e2 with q | q
    ·exact (wf c (Q9 q)).mono l1
    ·exact q
   have sc:=s.cut l1 (by rw [e1];exact l2) hl
   refine fin (S'.cut M1.length S.hid) v ?_ sc ?_
   ·show S'.M.take M1.length = M1
    rw [e1];exact eM.symm
   ·exact Rep.fz s.mok (by rw [e1];exact l2) (fun p h=>(s.hk p h).1) (by rw [e1];exact z) r1
 refine ⟨⟨fa,fd,⟨fun vs H Q E q=>F.len vs H Q E (key _ _ _ _ q),?_⟩,kp,b,gg⟩⟩
 intro A outer s H args us vs Q E hr h0 hb hv hq
 exact F.run A outer s H args us vs Q E hr h0 hb hv (key _ _ _ _ hq)
noncomputable def zv (t:T) (M:Mem):Option (List T):=match t with
 | .lst xs=>some xs
 | .ref a=>match M[a]? with
  | some (.lst xs)=>some xs
  | _=>none
 | _=>none
noncomputable def zgH (t:T):Option (List T):=match t with
 | .lst xs=>some xs
 | .tup xs=>some xs
 | _=>none
noncomputable def zc6 (t:T) (M:Mem):Option (List T):=match t with
 | .tup xs=>some xs
 | t=>zv t M
section
variable {K:Frag} {S:Sit}
theorem zb8 {p:Addr} (h:(Rd S.H p (.lst vs)/\S.off p)\/KL K p vs):SqL K S.H p vs:=by
 rcases h with ⟨h,_⟩ | h
 ·exact .inl h
 ·exact .inr h
theorem qw (m:MemOk K S) (r:Rep K S t v) (e:zv t S.M = some xs):∃ p vs,v = .ref p/\SqL K S.H p vs/\Reps K S xs vs:=by
 cases r with
 | @lst ts p vs h l r=>cases e;exact ⟨p,vs,rfl,zb8 h,l,r⟩
 | @ref a h=>
  unfold zv at e
  dsimp only at e
  split at e
  ·rename_i ys q
   cases e
   obtain ⟨vs,q2,r2⟩:=m.cell a _ q
   exact ⟨_,vs,rfl,.inl (.inl q2),r2⟩
  ·cases e
 | _=>cases e
theorem zck (m:MemOk K S) (r:Rep K S t v) (e:zc6 t S.M = some xs):∃ p vs,v = .ref p/\(SqL K S.H p vs\/SqT K S.H p vs)/\Reps K S xs vs:=by
 cases t with
 | tup ts=>
  cases e
  cases r with
  | @tup _ p vs h l r=>exact ⟨p,vs,rfl,.inr h,l,r⟩
 | lst ts=>obtain ⟨p,vs,e1,h,r2⟩:=qw m r e;exact ⟨p,vs,e1,.inl h,r2⟩
 | ref a=>obtain ⟨p,vs,e1,h,r2⟩:=qw m r e;exact ⟨p,vs,e1,.inl h,r2⟩
 | _=>cases e
end
noncomputable def qX (f:Ev->Mem->Out T):Ev->Mem->Out (List T):=fun σ M=>(f σ M).bind fun t M1=>match zgH t with
 | some xs=>.ok xs M1
 | none=>.bad
noncomputable def zdN (lo:Int) (n:Nat):List T:=(List.range n).map fun (k:Nat)=>T.int (lo + (k:Int))
noncomputable def zfu (ts:List T) (M1:Mem):Out (List T):=match ts with
 | [.int j]=>@ite _ (-(2 ^ 62)<=j/\j < 2 ^ 62) (Classical.propDecidable _) (.ok (zdN 0 j.toNat) M1) .bad
 | _=>.bad
noncomputable def zrO (ts:List T) (M1:Mem):Out (List T):=match ts with
 | [.int i,.int j]=>@ite _ ((-(2 ^ 62)<=i/\i < 2 ^ 62)/\(-(2 ^ 62)<=j/\j < 2 ^ 62)) (Classical.propDecidable _) (.ok (zdN i (j - i).toNat) M1) .bad
 | _=>.bad
noncomputable def zbT (f:Ev->Mem->Out (List T)):Ev->Mem->Out (List T):=fun σ M=>(f σ M).bind fun ts M1=>zfu ts M1
noncomputable def zsA (f:Ev->Mem->Out (List T)):Ev->Mem->Out (List T):=fun σ M=>(f σ M).bind fun ts M1=>zrO ts M1
theorem zlU (K:Frag) (S:Sit) (lo:Int) (n:Nat):zbJ K S (zdN lo n) (Itr lo n):=fun S' s=>by
 refine ⟨fun i t e=>?_,fun i h=>?_⟩
 ·unfold zdN at e
  rw [Qa] at e
  cases q:(List.range n)[i]? with
  | none=>rw [q] at e;cases e
  | some k=>
   rw [q] at e
   cases e
   have hi:i < n:=by have:=(Qx.mp q).1;simpa using this
   have hk:k = i:=by rw [List.getElem?_range hi] at q;exact (Qb q).symm
   subst hk
   refine ⟨hi,fun x H' hy=>?_⟩
   obtain ⟨e1,e2⟩:=hy
   exact ⟨S',e1.symm,rfl,.refl s.mok,by rw [e2];exact .int _⟩
 ·show n<=i
  simpa [zdN] using h
section
variable {a b c:Expr} {g h:Ev->Mem->Out T} {p:Pos}
theorem zp3 (he:GE X XE e f):GI X XE tg e (qX f):=PI.imp (PI.or (zik he) (zo3 he)) fun σ H R h9=>by
 obtain ⟨S,στ,_,e,m,ev,_,fin⟩:=h9
 replace fin:Fin XE (zbJ X.K) X.K S ((f στ S.M).bind fun t M1=>match zgH t with | some xs=>.ok xs M1 | none=>.bad) R:=fin
 cases o:f στ S.M with
 | bad=>rw [o] at fin;exact fin.elim
 | exn C fs M'=>
  rw [o] at fin
  refine .inl ⟨S,στ,(),e,m,ev,trivial,?_⟩
  show Fin XE (Rep X.K) X.K S (f στ S.M) _
  rw [o];exact fin
 | ok t M1=>
  rw [o] at fin
  cases t with
  | lst ts=>
   refine .inl ⟨S,στ,(),e,m,ev,trivial,?_⟩
   show Fin XE (Rep X.K) X.K S (f στ S.M) _
   rw [o]
   intro S1 v e1 s1 r1
   cases r1 with
   | @lst _ p vs h l r=>
    have r1:Reps X.K S1 ts vs:=⟨l,r⟩
    refine ⟨p,rfl,⟨vs,zb8 h⟩,fin S1 _ e1 s1 fun S3 s3=>?_⟩
    have g3:SqL X.K S3.H p vs:=by
     rcases h with ⟨h2,f2⟩ | h2
     ·exact .inl (s3.toGrow.rd h2 f2).1
     ·exact .inr h2
    refine ⟨fun i t et=>?_,fun i hi=>⟨vs,g3,by rw [← l];exact hi⟩⟩
    obtain ⟨v2,ev3,r3⟩:=r1.get et
    refine ⟨⟨vs,v2,g3,ev3⟩,fun x H' hy=>?_⟩
    obtain ⟨ey,hy⟩:=hy
    have:=hy vs g3
    rw [ev3] at this
    cases this
    exact ⟨S3,ey.symm,rfl,.refl s3.mok,r3.grow s1.mok s3.toGrow⟩
  | tup ts=>
   refine .inr ⟨S,στ,(),e,m,ev,trivial,?_⟩
   show Fin XE (Rep X.K) X.K S (f στ S.M) _
   rw [o]
   intro S1 v e1 s1 r1
   cases r1 with
   | @tup _ p vs h l r=>
    have r1:Reps X.K S1 ts vs:=⟨l,r⟩
    refine ⟨p,rfl,⟨vs,h⟩,fin S1 _ e1 s1 fun S3 s3=>?_⟩
    have g3:SqT X.K S3.H p vs:=s3.toGrow.tup s1.mok h
    refine ⟨fun i t et=>?_,fun i hi=>⟨vs,g3,by rw [← l];exact hi⟩⟩
    obtain ⟨v2,ev3,r3⟩:=r1.get et
    refine ⟨⟨vs,v2,g3,ev3⟩,fun x H' hy=>?_⟩
    obtain ⟨ey,hy⟩:=hy
    have:=hy vs g3
    rw [ev3] at this
    cases this
    exact ⟨S3,ey.symm,rfl,.refl s3.mok,r3.grow s1.mok s3.toGrow⟩
  | _=>exact fin.elim
end
noncomputable def yt (bd:T->Ev->Mem->Out Ev) (cond:Ev->Mem->Out Bool) (el:Ev->Mem->Out T):List T->Ev->Mem->List T->Out (List T)
 | [],_,M,acc=>.ok acc M
 | x :: xs,σ,M,acc=>(bd x σ M).bind fun σ1 M1=>(cond σ1 M1).bind fun b M2=>if b = true then (el σ1 M2).bind fun t M3=>if acc.length < sizeLine then yt bd cond el xs σ1 M3 (acc ++ [t]) else .bad else yt bd cond el xs σ1 M2 acc
noncomputable def zbs (tgs:List Str) (caps:List (Str × Nat)) (σ:Ev):Ev:=tgs.map (fun _=>none) ++ caps.map fun c=>(σ[c.2]?).join
noncomputable def yH (it:Ev->Mem->Out (List T)) (bd:T->Ev->Mem->Out Ev) (cond:Ev->Mem->Out Bool) (el:Ev->Mem->Out T) (tgs:List Str) (caps:List (Str × Nat)):Ev->Mem->Out (List T):=fun σ M=>(it σ M).bind fun xs M1=>yt bd cond el xs (zbs tgs caps σ) M1 []
noncomputable def zw:Ev->Mem->Out Bool:=fun _ M=>.ok true M
theorem EvR.cap {K:Frag} {S:Sit} (r:EvR K S στ σ) (tgs:List Str) (caps:List (Str × Nat)):EvR K S (zbs tgs caps στ) (zas tgs caps σ):=by
 refine ⟨by simp [zbs,zas],fun i t e=>?_⟩
 unfold zbs at e
 unfold zas
 by_cases hi:i < tgs.length
 ·rw [Q6 (by simpa using hi)] at e
  rw [Qa] at e
  cases q:tgs[i]? with
  | none=>rw [q] at e;cases e
  | some x=>rw [q] at e;cases e
 ·rw [Q7 (by simpa using hi),Qa] at e
  rw [Q7 (by simpa using hi),Qa]
  simp only [Qf] at e ⊢
  cases q:caps[i - tgs.length]? with
  | none=>rw [q] at e;cases e
  | some cq=>
   rw [q] at e
   have e2:(στ[cq.2]?).join = some t:=Qb e
   have e3:στ[cq.2]? = some (some t):=by
    cases q2:στ[cq.2]? with
    | none=>rw [q2] at e2;cases e2
    | some o=>rw [q2] at e2;cases o with
     | none=>cases e2
     | some v'=>rw [show v' = t from Qb e2]
   obtain ⟨v,e4,r4⟩:=r.2 _ _ e3
   exact ⟨v,by show some ((σ[cq.2]?).join) = _;rw [e4];rfl,r4⟩
noncomputable def Sit.hput (S:Sit) (p:Addr) (vs:List V):Sit:=⟨S.α,S.M,upd S.H p (.lst vs),S.hid⟩
section
variable {K:Frag} {S S0:Sit} {p:Addr} {us:List V}
theorem Rep.hput (m:MemOk K S) (hp:p ∈ S.hid) (r:Rep K S t v):Rep K (S.hput p us) t v:=by
 obtain ⟨_,ws,ew⟩:=m.hd p hp
 induction r with
 | non=>exact .non
 | bl b=>exact .bl b
 | int b=>exact .int b
 | str b=>exact .str b
 | ty b=>exact .ty b
 | @tup ts q vs h l _ ih=>
  refine .tup ?_ l ih
  rcases h with (h | ⟨o,h⟩) | h
  ·exact .inl (.inl ((ym (ze4 h ew (by intro z;cases z))).trans h))
  ·exact .inl (.inr ⟨o,(ym (ze4 h ew (by intro z;cases z))).trans h⟩)
  ·exact .inr h
 | @lst ts q vs h l _ ih=>
  refine .lst ?_ l ih
  rcases h with ⟨h,f⟩ | h
  ·have hne:q ≠ p:=fun z=>f.2 (by rw [z];exact hp)
   refine .inl ⟨?_,f⟩
   rcases h with h | ⟨o,h⟩
   ·exact .inl ((ym hne).trans h)
   ·exact .inr ⟨o,(ym hne).trans h⟩
  ·exact .inr h
 | ref h=>exact .ref (S:=S.hput p us) h
 | dct h l _ ih=>exact .dct (S:=S.hput p us) ((ym (ze4 h ew (by intro z;cases z))).trans h) l ih
 | exc h hd l _ ih=>exact .exc (S:=S.hput p us) ((ym (ze4 h ew (by intro z;cases z))).trans h) (hd.imp (fun z=>z) fun ⟨d,a,b⟩=>⟨d,a,(ym (ze4 b ew (by intro z;cases z))).trans b⟩) l ih
theorem Reps.hput (m:MemOk K S) (hp:p ∈ S.hid) {t:List T} {v:List V} (r:Reps K S t v):Reps K (S.hput p us) t v:=⟨r.1,fun i a b e1 e2=>(r.2 i a b e1 e2).hput m hp⟩
theorem CellOk.hput (m:MemOk K S) (hp:p ∈ S.hid) (hq:q ≠ p) (r:CellOk K S q c):CellOk K (S.hput p us) q c:=by
 cases c with
 | lst ts=>obtain ⟨vs,q,r⟩:=r;exact ⟨vs,(ym hq).trans q,r.hput m hp⟩
 | dic ts=>obtain ⟨vs,q,r⟩:=r;exact ⟨vs,(ym hq).trans q,r.1,r.2.hput m hp⟩
 | ins C ts=>obtain ⟨dx,vs,q,r⟩:=r;exact ⟨dx,vs,(ym hq).trans q,r.1,r.2.hput m hp⟩
theorem Stp.hput (s:Stp K S0 S) (hp:p ∈ S.hid) (hn:S0.H p = none) (m0:MemOk K S0):Stp K S0 (S.hput p us):=by
 refine ⟨⟨s.le,s.al,s.fr,fun b o e f=>(ym (yw e hn)).trans (s.kp b o e f),fun q h=>⟨(s.hk q h).1,?_⟩,s.hf⟩,⟨fun a c e=>?_,s.mok.inj,fun q h=>?_⟩⟩
 ·obtain ⟨_,vs,e⟩:=m0.hd q h
  exact (ym (yw e hn)).trans (s.hk q h).2
 ·exact (s.mok.cell a c e).hput s.mok hp ((s.mok.hd p hp).1 a (Qx.mp e).1)
 ·obtain ⟨h1,vs,e⟩:=s.mok.hd q h
  refine ⟨h1,?_⟩
  by_cases z:q = p
  ·exact ⟨us,by show upd S.H p _ q = _;rw [z];exact yx⟩
  ·exact ⟨vs,(ym z).trans e⟩
end
structure CB (X:Cx) (scope:Scope) (cl:List (Str × Addr)) (caps:List (Str × Nat)):Prop where
 hc:X.calm = true
 hclos:closureFor scope X.env = pure cl
 hcell:∀ y ∈ scope.names,y.2 = .cell->y.1 ∉ caps.map (·.1)
 hkind:scope.kind = .function
 hnames:∀ y ∈ scope.names,y.2 = .local->scope.names.lookup y.1 = some .local
 hcl:∀ y c,cl.lookup y = some c->X.env.cells.lookup y = some c
 hhas:∀ n y,((relabel scope X.env).names.lookup y = some .cell\/(relabel scope X.env).names.lookup y = some .free)->∃ c,(cellsFrom n scope.names cl).lookup y = some c
 hcap:∀ c ∈ caps,X.N[c.2]? = some c.1/\X.env.kindOf c.1 = some .cell/\((relabel scope X.env).names.lookup c.1 = some .cell\/(relabel scope X.env).names.lookup c.1 = some .free)
variable {cond:Ev->Mem->Out Bool} {elt:Expr} {cl:List (Str × Addr)} {caps:List (Str × Nat)} {ifs:List Expr} {tgs:List Str} {scope:Scope}
section
theorem zht (hh:lL XE X.K (yH ga bd cond f tgs caps) σ H Q) :
  zgh (lI XE X.K ga) (lG XE X.K bd) (lT XE X.K cond) (lE XE X.K f) (zas tgs caps) σ H Q:=by
 obtain ⟨S,στ,e,m,ev,fin⟩:=hh
 replace fin:FinL XE X.K S ((ga στ S.M).bind fun xs M1=>yt bd cond f xs (zbs tgs caps στ) M1 []) Q:=fin
 refine ⟨S,στ,(),e,m,ev,trivial,?_⟩
 show Fin XE (zbJ X.K) X.K S (ga στ S.M) _
 cases o:ga στ S.M with
 | bad=>rw [o] at fin;exact fin
 | exn C fs M'=>rw [o] at fin;exact fin
 | ok items M1=>
  rw [o] at fin
  replace fin:FinL XE X.K S (yt bd cond f items (zbs tgs caps στ) M1 []) Q:=fin
  intro S0 J e0 s0 it0 D hD
  have m0:=s0.mok
  have fin0:=fin.later s0
  have s1:=Stp.hide (K:=X.K) m0 hD []
  refine ⟨fun i n σ' H'=>∃ S στ acc vs,S.H = H'/\EvR X.K S στ σ'/\n = items.length - i/\i<=items.length/\D ∈ S.hid/\S.H D = some (.lst vs)/\Reps X.K S acc vs/\Stp X.K S0 S/\FinL XE X.K S0 (yt bd cond f (items.drop i) στ S.M acc) Q,
   ⟨items.length - 0,S0.hide D [],zbs tgs caps στ,[],[],rfl,(Mo.mo (K:=X.K) m0 s1 (Mo.mo (K:=X.K) m s0 ev)).cap tgs caps,rfl,Nat.zero_le _,.head _,yx,.nil,s1,by show FinL XE X.K S0 (yt bd cond f items (zbs tgs caps στ) S0.M []) Q;rw [e0];exact fin0⟩,?_⟩
  rintro i n σ1 H1 ⟨S2,στ2,acc,vs,e2,ev2,en,hi2,hid2,hD2,racc,s2,fin2⟩
  subst e2
  have m2:=s2.mok
  obtain ⟨itg,its⟩:=it0 S2 s2
  by_cases hl:i < items.length
  ·have eq:items.drop i = items[i] :: items.drop (i + 1):=List.drop_eq_getElem_cons hl
   rw [eq] at fin2
   obtain ⟨go,yl⟩:=itg i items[i] (by simp [hl])
   refine .inr ⟨go,fun σ' H'=>∃ S στ acc vs,S.H = H'/\EvR X.K S στ σ'/\D ∈ S.hid/\S.H D = some (.lst vs)/\Reps X.K S acc vs/\Stp X.K S0 S/\FinL XE X.K S0 (yt bd cond f (items.drop (i + 1)) στ S.M acc) Q,?_,fun x H' hy=>?_⟩
   ·rintro σ' H' ⟨S,στ,acc,vs,a1,a2,a3,a4,a5,a6,a7⟩
    exact ⟨items.length - (i + 1),by omega,S,στ,acc,vs,a1,a2,rfl,hl,a3,a4,a5,a6,a7⟩
   ·obtain ⟨S3,e3,eM,s3,r3⟩:=yl x H' hy
    replace fin2:FinL XE X.K S0 ((bd items[i] στ2 S2.M).bind fun σ1 M1=>(cond σ1 M1).bind fun b M2=>if b = true then (f σ1 M2).bind fun t M3=>if acc.length < sizeLine then yt bd cond f (items.drop (i + 1)) σ1 M3 (acc ++ [t]) else .bad else yt bd cond f (items.drop (i + 1)) σ1 M2 acc) Q:=fin2
    refine ⟨S3,στ2,items[i],e3,s3.mok,Mo.mo m2 s3 ev2,r3,?_⟩
    show Fin XE (EvR X.K) X.K S3 (bd items[i] στ2 S3.M) _
    rw [eM]
    cases o1:bd items[i] στ2 S2.M with
    | bad=>rw [o1] at fin2;exact fin2
    | exn C fs M'=>rw [o1] at fin2;exact fun S' od a1 a2 a3=>fin2 S' od a1 ((s2.trans s3).trans a2) a3
    | ok σ4 M4=>
     rw [o1] at fin2
     intro S4 σ4v e4 s4 ev4
     have t4:=s3.trans s4
     replace fin2:FinL XE X.K S0 ((cond σ4 M4).bind fun b M2=>if b = true then (f σ4 M2).bind fun t M3=>if acc.length < sizeLine then yt bd cond f (items.drop (i + 1)) σ4 M3 (acc ++ [t]) else .bad else yt bd cond f (items.drop (i + 1)) σ4 M2 acc) Q:=fin2
     refine ⟨S4,σ4,(),rfl,s4.mok,ev4,trivial,?_⟩
     show Fin XE EqR X.K S4 (cond σ4 S4.M) _
     rw [e4]
     cases o2:cond σ4 M4 with
     | bad=>rw [o2] at fin2;exact fin2
     | exn C fs M'=>rw [o2] at fin2;exact fun S' od a1 a2 a3=>fin2 S' od a1 ((s2.trans t4).trans a2) a3
     | ok b M5=>
      rw [o2] at fin2
      intro S5 b5 e5 s5 eb
      have eb':b = b5:=eb
      subst eb'
      have t5:=t4.trans s5
      replace fin2:FinL XE X.K S0 (if b = true then (f σ4 M5).bind fun t M3=>if acc.length < sizeLine then yt bd cond f (items.drop (i + 1)) σ4 M3 (acc ++ [t]) else .bad else yt bd cond f (items.drop (i + 1)) σ4 M5 acc) Q:=fin2
      cases b with
      | false=>
       rw [Qy Q4] at fin2
       refine (Qy Q4).mpr ⟨S5,σ4,acc,vs,rfl,Mo.mo s4.mok s5 ev4,(t5.hk D hid2).1,by rw [(t5.hk D hid2).2];exact hD2,racc.grow m2 t5.toGrow,s2.trans t5,by rw [e5];exact fin2⟩
      | true=>
       rw [Qw rfl] at fin2
       refine (Qw rfl).mpr ⟨S5,σ4,(),rfl,s5.mok,Mo.mo s4.mok s5 ev4,trivial,?_⟩
       show Fin XE (Rep X.K) X.K S5 (f σ4 S5.M) _
       rw [e5]
       cases o3:f σ4 M5 with
       | bad=>rw [o3] at fin2;exact fin2
       | exn C fs M'=>rw [o3] at fin2;exact fun S' od a1 a2 a3=>fin2 S' od a1 ((s2.trans t5).trans a2) a3
       | ok t M6=>
        rw [o3] at fin2
        replace fin2:FinL XE X.K S0 (if acc.length < sizeLine then yt bd cond f (items.drop (i + 1)) σ4 M6 (acc ++ [t]) else .bad) Q:=fin2
        intro S6 v6 e6 s6 r6
        have t6:=t5.trans s6
        have hz:acc.length < sizeLine:=by
         by_cases hz:acc.length < sizeLine
         ·exact hz
         ·rw [Qy hz] at fin2;exact fin2.elim
        rw [Qw hz] at fin2
        have hid6:=(t6.hk D hid2).1
        have hD6:S6.H D = some (.lst vs):=by rw [(t6.hk D hid2).2];exact hD2
        refine ⟨vs,hD6,by rw [← racc.1];exact hz,S6.hput D (vs ++ [v6]),σ4,acc ++ [t],vs ++ [v6],rfl,?_,hid6,yx,?_,(s2.trans t6).hput hid6 hD m0,by show FinL XE X.K S0 (yt bd cond f (items.drop (i + 1)) σ4 S6.M (acc ++ [t])) Q;rw [e6];exact fin2⟩
        ·have ev6:EvR X.K S6 σ4 σ4v:=Mo.mo s4.mok (s5.trans s6) ev4
         exact ⟨ev6.1,fun i t e=>let ⟨v,e',q⟩:=ev6.2 i t e;⟨v,e',q.hput s6.mok hid6⟩⟩
        ·exact ((racc.grow m2 t6.toGrow).app (.cons r6 .nil)).hput s6.mok hid6
  ·rw [List.drop_eq_nil_of_le (by omega)] at fin2
   refine .inl ⟨its i (by omega),?_⟩
   exact fin2 S2 D vs rfl s2 hD hid2 hD2 racc
theorem znT:PTs X [] (lT XE X.K zw):=fun pins s σ H Q I h=>zm9 pins s σ H Q I (zgj h)
end
noncomputable def lOp (o:T->T->Mem->Out (List T)) (f g:Ev->Mem->Out T):Ev->Mem->Out (List T):=fun σ M=>(f σ M).bind fun x M1=>(g σ M1).bind fun y M2=>o x y M2
noncomputable def zsW (F:List T->Mem->Out (List T)) (g:Ev->Mem->Out (List T)):Ev->Mem->Out (List T):=fun σ M=>(g σ M).bind fun ts M1=>F ts M1
theorem zlI {K:Frag} {S:Sit} (m:MemOk K S) (fin:FinL XE K S (.ok xs S.M) Q) (r:Reps K S xs vs):∀ p,S.H p = none->Q (.ref p) (upd S.H p (.lst vs)):=fun p hp=>
 fin (S.hide p vs) p vs rfl (Stp.hide m hp vs) hp (.head _) yx (r.grow m (Stp.hide m hp vs).toGrow)
noncomputable def zaU (k:Int->Int->Mem->Out T) (x y:T) (M:Mem):Out T:=match x,y with
 | .int i,.int j=>k i j M
 | _,_=>.bad
def Mo64 (i j:Int):Prop:=(i.natAbs < 10 ^ 3000/\j.natAbs < 10 ^ 3000)\/(-(2 ^ 64) < i/\i < 2 ^ 64)\/(-(2 ^ 64) < j/\j < 2 ^ 64)
instance (i j:Int):Decidable (Mo64 i j):=inferInstanceAs (Decidable (_\/_))
variable {j:Int}
theorem Mo64.ok (h:Mo64 i j):CMulB i j:=by
 rcases h with h | h
 ·exact .inl ⟨3000,3000,h.1,h.2,Q3 _,Q3 _⟩
 ·exact .inr h
noncomputable def zeC:T->T->Mem->Out T:=zaU fun i j M=>.ok (.int (i - j)) M
noncomputable def zeQ:T->T->Mem->Out T:=zaU fun i j M=>if j ≠ 0/\j.natAbs < 10 ^ 2000 then .ok (.int (i.fdiv j)) M else .bad
noncomputable def zba:T->T->Mem->Out T:=zaU fun i j M=>if j ≠ 0 then .ok (.int (i.fmod j)) M else .bad
noncomputable def zi5:T->T->Mem->Out T:=zaU fun i j M=>if 0<=j/\j<=1000000/\i.natAbs < 2 ^ 64 then .ok (.int (i ^ j.toNat)) M else .bad
noncomputable def ltI:T->T->Mem->Out T:=zaU fun i j M=>.ok (.bl (decide (i < j))) M
noncomputable def leI:T->T->Mem->Out T:=zaU fun i j M=>.ok (.bl (decide (i<=j))) M
noncomputable def gtI:T->T->Mem->Out T:=zaU fun i j M=>.ok (.bl (decide (j < i))) M
noncomputable def geI:T->T->Mem->Out T:=zaU fun i j M=>.ok (.bl (decide (j<=i))) M
noncomputable def zdg:T->Mem->Out T:=fun x M=>match x with
 | .int i=>.ok (.int (-i)) M
 | _=>.bad
variable {y:V} {F:Value}
section
theorem zig {K:Frag} {S:Sit} (r:Rep K S (.int i) v):v = .int i:=by cases r;rfl
theorem zbn {fn:Value->Value->Sem Value} {r:R2} {k:Int->Int->Mem->Out T} (ho:OpR X fn r)
  (h:∀ i j S Q,MemOk X.K S->Fin XE (Rep X.K) X.K S (k i j S.M) Q->r (.int i) (.int j) S.H Q):OpR X fn (lR2 XE X.K (zaU k)):=by
 intro pins s σ H x y v u Q I rx ry ⟨S,⟨tx,ty⟩,e,m,⟨r1,r2⟩,fin⟩
 replace fin:Fin XE (Rep X.K) X.K S (zaU k tx ty S.M) Q:=fin
 unfold zaU at fin
 split at fin
 ·have e1:=zig r1
  have e2:=zig r2
  dsimp only at e1 e2
  subst e1;subst e2;subst e
  exact ho pins s σ S.H _ _ v u Q I rx ry (h _ _ S Q m fin)
 ·exact fin.elim
theorem zcO:OpR X (binaryOp .Sub) (lR2 XE X.K zeC):=zbn zpj fun i j S Q m fin=>⟨i,j,rfl,rfl,fin S _ rfl (.refl m) (.int _)⟩
theorem zit:OpR X (binaryOp .FloorDiv) (lR2 XE X.K zeQ):=zbn zlD fun i j S Q m fin=>by
 by_cases h:j ≠ 0/\j.natAbs < 10 ^ 2000
 ·rw [Qw h] at fin
  exact ⟨i,j,rfl,rfl,⟨h.1,2000,h.2,Q3 _⟩,fin S _ rfl (.refl m) (.int _)⟩
 ·rw [Qy h] at fin;exact fin.elim
theorem y9:OpR X (binaryOp .Mod) (lR2 XE X.K zba):=zbn znv fun i j S Q m fin=>by
 by_cases h:j ≠ 0
 ·rw [Qw h] at fin
  exact ⟨i,j,rfl,rfl,h,fin S _ rfl (.refl m) (.int _)⟩
 ·rw [Qy h] at fin;exact fin.elim
theorem zir:OpR X (binaryOp .Pow) (lR2 XE X.K zi5):=zbn zpk fun i j S Q m fin=>by
 by_cases h:0<=j/\j<=1000000/\i.natAbs < 2 ^ 64
 ·rw [Qw h] at fin
  exact ⟨i,j,rfl,rfl,h,fin S _ rfl (.refl m) (.int _)⟩
 ·rw [Qy h] at fin;exact fin.elim
theorem zgZ:OpR X (compareOp .Lt) (lR2 XE X.K ltI):=zbn zqS fun i j S Q m fin=>⟨i,j,rfl,rfl,fin S _ rfl (.refl m) (.bl _)⟩
theorem zdQ:OpR X (compareOp .LtE) (lR2 XE X.K leI):=zbn zmz fun i j S Q m fin=>⟨i,j,rfl,rfl,fin S _ rfl (.refl m) (.bl _)⟩
theorem zdR:OpR X (compareOp .Gt) (lR2 XE X.K gtI):=zbn zqT fun i j S Q m fin=>⟨i,j,rfl,rfl,fin S _ rfl (.refl m) (.bl _)⟩
theorem zmR:L2.UnR X (unaryOp .USub) (lR1 XE X.K zdg):=by
 intro pins s σ H x v Q I rx ⟨S,t,e,m,r,fin⟩
 replace fin:Fin XE (Rep X.K) X.K S (zdg t S.M) Q:=fin
 unfold zdg at fin
 split at fin
 ·cases r
  subst e
  exact zoB pins s σ S.H _ v Q I rx ⟨_,rfl,fin S _ rfl (.refl m) (.int _)⟩
 ·exact fin.elim
noncomputable def isB:T->T->Mem->Out T:=fun x y M=>match x,y with
 | .bl a,.bl b=>.ok (.bl (a == b)) M
 | _,_=>.bad
noncomputable def zq0:T->T->Mem->Out T:=fun x y M=>match x,y with
 | .bl a,.bl b=>.ok (.bl (a != b)) M
 | _,_=>.bad
noncomputable def zdf:T->Bool
 | .non=>true
 | _=>false
noncomputable def isN:T->T->Mem->Out T:=fun x y M=>match y with
 | .non=>.ok (.bl (zdf x)) M
 | _=>.bad
noncomputable def zcq:T->T->Mem->Out T:=fun x y M=>match y with
 | .non=>.ok (.bl (!zdf x)) M
 | _=>.bad
theorem zg1 {K:Frag} {S:Sit} (r:Rep K S t v):decide (v = .non) = zdf t:=by
 cases r <;> first | rfl | exact Qv (by intro z;cases z)
theorem znw:OpR X (compareOp .Is) (lR2 XE X.K isN):=by
 intro pins s σ H x y v u Q I rx ry ⟨S,⟨tx,ty⟩,e,m,⟨r1,r2⟩,fin⟩
 replace fin:Fin XE (Rep X.K) X.K S (isN tx ty S.M) Q:=fin
 unfold isN at fin
 split at fin
 ·cases r2;subst e
  exact zpl pins s σ S.H _ _ v u Q I rx ry ⟨rfl,by rw [zg1 r1];exact fin S _ rfl (.refl m) (.bl _)⟩
 ·exact fin.elim
theorem zfW:OpR X (compareOp .IsNot) (lR2 XE X.K zcq):=by
 intro pins s σ H x y v u Q I rx ry ⟨S,⟨tx,ty⟩,e,m,⟨r1,r2⟩,fin⟩
 replace fin:Fin XE (Rep X.K) X.K S (zcq tx ty S.M) Q:=fin
 unfold zcq at fin
 split at fin
 ·cases r2;subst e
  exact znt pins s σ S.H _ _ v u Q I rx ry ⟨rfl,by rw [zg1 r1];exact fin S _ rfl (.refl m) (.bl _)⟩
 ·exact fin.elim
noncomputable def zhe (M:Mem):T->T->Option T
 | .tup xs,.int i=>atI xs i
 | .lst xs,.int i=>atI xs i
 | .ref a,.int i=>match M[a]? with
  | some (.lst xs)=>atI xs i
  | _=>none
 | _,_=>none
noncomputable def zfy (o:Option T) (M:Mem):Out T:=match o with
 | some t=>.ok t M
 | none=>.bad
noncomputable def ixT:T->T->Mem->Out T:=fun x y M=>zfy (zhe M x y) M
theorem Reps.atI {K:Frag} {S:Sit} (r:Reps K S ts vs) (e:L2.atI ts i = some t):∃ v,L2.atI vs i = some v/\Rep K S t v:=by
 unfold L2.atI at e ⊢
 rw [← r.1]
 cases q:ixN ts.length i with
 | none=>rw [q] at e;cases e
 | some j=>
  rw [q] at e
  obtain ⟨v,e2,r2⟩:=r.get (show ts[j]? = some t from e)
  exact ⟨v,e2,r2⟩
theorem zn7 {K:Frag} {S:Sit} {tx ty:T} {x:V} (m:MemOk K S) (r1:Rep K S tx x) (r2:Rep K S ty y) (e:zhe S.M tx ty = some t) :
  ∃ p vs i v,x = .ref p/\y = .int i/\(SqL K S.H p vs\/SqT K S.H p vs)/\L2.atI vs i = some v/\Rep K S t v:=by
 unfold zhe at e
 split at e
 ·cases r2
  cases r1 with
  | @tup _ p vs h l r=>
   obtain ⟨v,e2,r3⟩:=Reps.atI ⟨l,r⟩ e
   exact ⟨p,vs,_,v,rfl,rfl,.inr h,e2,r3⟩
 ·cases r2
  cases r1 with
  | @lst _ p vs h l r=>
   obtain ⟨v,e2,r3⟩:=Reps.atI ⟨l,r⟩ e
   exact ⟨p,vs,_,v,rfl,rfl,.inl (zb8 h),e2,r3⟩
 ·split at e
  ·rename_i q
   cases r2
   cases r1 with
   | ref h=>
    obtain ⟨vs,q2,r⟩:=m.cell _ _ q
    obtain ⟨v,e2,r3⟩:=Reps.atI r e
    exact ⟨_,vs,_,v,rfl,rfl,.inl (.inl (.inl q2)),e2,r3⟩
  ·cases e
 ·cases e
theorem ziq {K:Frag} {S:Sit} {o:Option T} (fin:Fin XE (Rep K) K S (zfy o S.M) Q):∃ t,o = some t/\Fin XE (Rep K) K S (.ok t S.M) Q:=by
 unfold zfy at fin
 split at fin
 ·exact ⟨_,rfl,fin⟩
 ·exact fin.elim
theorem zk:IxR X (lR2 XE X.K ixT):=by
 intro va sl pins s σ H x y v u Q I rx ry ⟨S,⟨tx,ty⟩,e,m,⟨r1,r2⟩,fin⟩ hs
 obtain ⟨t,et,fin⟩:=ziq (show Fin XE (Rep X.K) X.K S (zfy (zhe S.M tx ty) S.M) Q from fin)
 obtain ⟨p,vs,i,w,e1,e2,hq,ea,r3⟩:=zn7 m r1 r2 et
 dsimp only at e1 e2
 subst e1;subst e2;subst e
 refine zpL va sl pins s σ S.H _ _ v u Q I rx ry ?_ hs
 rcases hq with hq | hq
 ·exact .inl ⟨p,vs,i,w,rfl,rfl,hq,ea,fin S w rfl (.refl m) r3⟩
 ·exact .inr (.inl ⟨p,vs,i,w,rfl,rfl,hq,ea,fin S w rfl (.refl m) r3⟩)
noncomputable def zl (k:T->Mem->Out T) (ts:List T) (M:Mem):Out T:=match ts with
 | [t]=>k t M
 | _=>.bad
noncomputable def call2 (k:T->T->Mem->Out T) (ts:List T) (M:Mem):Out T:=match ts with
 | [t,u]=>k t u M
 | _=>.bad
theorem zaZ {k:T->Mem->Out T} (h:∀ (pins:List (Addr × Obj)) (s:Shared) (σ:L2.St) (S:Sit) (t:T) (x:V) (v:Value) (Q:VK),Inv X pins σ S.H s->RelV x v->MemOk X.K S->Rep X.K S t x->Fin XE (Rep X.K) X.K S (k t S.M) Q->wpAny (model X.prog X.w) X.A (call F [v]) (EP X pins σ Q) X.xe s):CallR X F (lRN XE X.K (zl k)):=by
 intro pins s σ H xs us Q I r ⟨S,ts,e,m,rs,fin⟩
 subst e
 replace fin:Fin XE (Rep X.K) X.K S (zl k ts S.M) Q:=fin
 unfold zl at fin
 split at fin
 ·obtain ⟨v,vs,rfl,r1,r2⟩:=rs.consT
  rw [r2.nilT] at r
  obtain ⟨u,rfl,rx⟩:=vals1 r
  exact h pins s σ S _ v u Q I rx m r1 fin
 ·exact fin.elim
theorem zeT {k:T->T->Mem->Out T} (h:∀ (pins:List (Addr × Obj)) (s:Shared) (σ:L2.St) (S:Sit) (t1 t2:T) (x1 x2:V) (v1 v2:Value) (Q:VK),Inv X pins σ S.H s->RelV x1 v1->RelV x2 v2->MemOk X.K S->Rep X.K S t1 x1->Rep X.K S t2 x2->Fin XE (Rep X.K) X.K S (k t1 t2 S.M) Q->wpAny (model X.prog X.w) X.A (call F [v1,v2]) (EP X pins σ Q) X.xe s):CallR X F (lRN XE X.K (call2 k)):=by
 intro pins s σ H xs us Q I r ⟨S,ts,e,m,rs,fin⟩
 subst e
 replace fin:Fin XE (Rep X.K) X.K S (call2 k ts S.M) Q:=fin
 unfold call2 at fin
 split at fin
 ·obtain ⟨v,vs,rfl,r1,r2⟩:=rs.consT
  obtain ⟨v2,vs2,rfl,r3,r4⟩:=r2.consT
  rw [r4.nilT] at r
  obtain ⟨u,w,rfl,rx,ry⟩:=vals2 r
  exact h pins s σ S _ _ v v2 u w Q I rx ry m r1 r3 fin
 ·exact fin.elim
noncomputable def zC:T->Mem->Out T:=fun t M=>match t with
 | .str z=>if z.length<=sizeLine then .ok (.int z.length) M else .bad
 | t=>match zc6 t M with
  | some xs=>.ok (.int xs.length) M
  | none=>.bad
theorem yv:CallR X (.builtin "len") (lRN XE X.K (zl zC)):=zaZ fun pins s σ S t x v Q I rx m r fin=>by
 unfold zC at fin
 split at fin
 ·cases r
  split at fin
  ·rename_i hz
   exact zhx pins s σ S.H _ _ Q I (.cons rx .nil) ⟨_,rfl,hz,fin S _ rfl (.refl m) (.int _)⟩
  ·exact fin.elim
 ·split at fin
  ·rename_i xs q
   obtain ⟨p,vs,rfl,hq,rs⟩:=zck m r q
   exact zhy pins s σ S.H _ _ Q I (.cons rx .nil) ⟨p,vs,rfl,hq,by rw [← rs.1];exact fin S _ rfl (.refl m) (.int _)⟩
  ·exact fin.elim
noncomputable def zja:T->T->Mem->Out T:=zaU fun i j M=>.ok (.int (if j > i then j else i)) M
noncomputable def zi9:T->T->Mem->Out T:=zaU fun i j M=>.ok (.int (if j < i then j else i)) M
theorem zkS (hc:X.calm = true):CallR X (.builtin "max") (lRN XE X.K (call2 zja)):=zeT fun pins s σ S t1 t2 x1 x2 v1 v2 Q I rx ry m r1 r2 fin=>by
 unfold zja zaU at fin
 split at fin
 ·cases r1;cases r2
  exact zkT hc pins s σ S.H _ _ Q I (.cons rx (.cons ry .nil)) ⟨_,_,rfl,fin S _ rfl (.refl m) (.int _)⟩
 ·exact fin.elim
theorem zkQ (hc:X.calm = true):CallR X (.builtin "min") (lRN XE X.K (call2 zi9)):=zeT fun pins s σ S t1 t2 x1 x2 v1 v2 Q I rx ry m r1 r2 fin=>by
 unfold zi9 zaU at fin
 split at fin
 ·cases r1;cases r2
  exact zkR hc pins s σ S.H _ _ Q I (.cons rx (.cons ry .nil)) ⟨_,_,rfl,fin S _ rfl (.refl m) (.int _)⟩
 ·exact fin.elim
noncomputable def zeX:List T->Option (List Bool)
 | []=>some []
 | .bl b :: r=>(zeX r).map (b :: ·)
 | _=>none
theorem zhA {K:Frag} {S:Sit}:∀ {ts:List T} {vs:List V} {bs:List Bool},zeX ts = some bs->Reps K S ts vs->vs = bs.map V.bl
 | [],vs,bs,e,r=>by cases e;exact r.nilT
 | .bl b :: ts,vs,bs,e,r=>by
  unfold zeX at e
  obtain ⟨v,vs',rfl,r1,r2⟩:=r.consT
  cases q:zeX ts with
  | none=>rw [q] at e;cases e
  | some bs'=>
   rw [q] at e
   cases e
   cases r1
   rw [zhA q r2];rfl
 | .non :: _,_,_,e,_=>by cases e
 | .int _ :: _,_,_,e,_=>by cases e
 | .str _ :: _,_,_,e,_=>by cases e
 | .ty _ :: _,_,_,e,_=>by cases e
 | .tup _ :: _,_,_,e,_=>by cases e
 | .lst _ :: _,_,_,e,_=>by cases e
 | .ref _ :: _,_,_,e,_=>by cases e
noncomputable def zcH:T->Mem->Out T:=fun t M=>match zv t M with
 | some xs=>match zeX xs with
  | some bs=>.ok (.bl (bs.all id)) M
  | none=>.bad
 | none=>.bad
theorem za4 (hc:X.calm = true):CallR X (.builtin "all") (lRN XE X.K (zl zcH)):=zaZ fun pins s σ S t x v Q I rx m r fin=>by
 unfold zcH at fin
 split at fin
 ·rename_i xs q
  split at fin
  ·rename_i bs q2
   obtain ⟨p,vs,rfl,hq,rs⟩:=qw m r q
   rw [zhA q2 rs] at hq
   exact zkV hc pins s σ S.H _ _ Q I (.cons rx .nil) ⟨p,bs,rfl,hq,fin S _ rfl (.refl m) (.bl _)⟩
  ·exact fin.elim
 ·exact fin.elim
noncomputable def qK:T->Mem->Out T:=fun t M=>match zc6 t M with
 | some xs=>.ok (.tup xs) M
 | none=>.bad
theorem zab:CallR X (.type "tuple") (lRN XE X.K (zl qK)):=zaZ fun pins s σ S t x v Q I rx m r fin=>by
 unfold qK at fin
 split at fin
 ·rename_i xs q
  obtain ⟨p,vs,rfl,hq,rs⟩:=zck m r q
  refine zgc pins s σ S.H _ _ Q I (.cons rx .nil) ⟨p,vs,rfl,?_⟩
  rcases hq with hq | hq
  ·refine .inl ⟨hq,fun l hl=>?_⟩
   have s2:=Stp.new m hl (.tup vs)
   exact fin ⟨S.α,S.M,upd S.H l (.tup vs),S.hid⟩ (.ref l) rfl s2 (.tup (.inl (.inl yx)) rs.1 (rs.grow m s2.toGrow).2)
  ·exact .inr ⟨hq,fin S _ rfl (.refl m) (.tup hq rs.1 rs.2)⟩
 ·exact fin.elim
noncomputable def yW (x:T) (ts:List T) (M:Mem):Out T:=match x,ts with
 | .ref a,[t]=>match M[a]? with
  | some (.lst xs)=>if xs.length < sizeLine then .ok .non (M.set a (.lst (xs ++ [t]))) else .bad
  | _=>.bad
 | _,_=>.bad
noncomputable def zdF (o i t:T) (M:Mem):Out Unit:=match o,i with
 | .ref a,.int k=>match M[a]? with
  | some (.lst xs)=>match ixN xs.length k with
   | some j=>.ok () (M.set a (.lst (xs.set j t)))
   | none=>.bad
  | _=>.bad
 | _,_=>.bad
theorem zea {K:Frag} {S:Sit} (m:MemOk K S) {a:Nat} (e:S.M[a]? = some c) (r:Reps K S ts vs):Stp K S (S.put a (.lst vs) (.lst ts)):=by
 have ha:a < S.M.length:=(Qx.mp e).1
 exact Stp.put m ha _ _ ⟨vs,yx,r.grow m (Grow.put m ha _ _)⟩
theorem ziX:zhL X (zlR XE X.K zdF):=by
 intro pins s σ H o i v ov iv u Q I ro ri rv ⟨S,⟨⟨to,ti⟩,tv⟩,e,m,⟨⟨r1,r2⟩,r3⟩,fin⟩
 subst e
 replace fin:Fin XE UnR X.K S (zdF to ti tv S.M) (fun _ H'=>Q H'):=fin
 unfold zdF at fin
 split at fin
 ·split at fin
  ·rename_i a k _ xs q
   split at fin
   ·rename_i j qj
    cases r1
    cases r2
    obtain ⟨vs,q2,rs⟩:=m.cell _ _ q
    refine set_list pins s σ S.H _ _ v ov iv u Q I ro ri rv ⟨S.α a,vs,k,j,rfl,rfl,q2,by rw [← rs.1];exact qj,?_⟩
    exact fin (S.put a (.lst (vs.set j v)) (.lst (xs.set j tv))) () rfl (zea m q (rs.set r3 j)) trivial
   ·exact fin.elim
  ·exact fin.elim
 ·exact fin.elim
noncomputable def qI (x:T) (M:Mem):Out T:=match zv x M with
 | some _=>.ok x M
 | none=>.bad
noncomputable def zaj (F:T->List T->Mem->Out T) (f:Ev->Mem->Out T) (g:Ev->Mem->Out (List T)):Ev->Mem->Out T:=fun σ M=>(f σ M).bind fun x M1=>(g σ M1).bind fun ts M2=>F x ts M2
end
noncomputable def zcG (xs:List T) (lo hi:Option Int):List T:=(xs.drop (HT.sIx xs.length 0 lo)).take (HT.sIx xs.length xs.length hi - HT.sIx xs.length 0 lo)
theorem Reps.cutV {K:Frag} {S:Sit} (r:Reps K S ts vs) (lo hi:Option Int):Reps K S (zcG ts lo hi) (L2.cutV vs lo hi):=by
 unfold zcG L2.cutV
 rw [← r.1]
 exact r.sub _ _
theorem zjl {lo hi:Option Int} (h:HT.sIx xs.length 0 lo = 0/\HT.sIx xs.length xs.length hi = xs.length):zcG xs lo hi = xs:=by
 unfold zcG
 rw [h.1,h.2]
 simp
theorem zfB {K:Frag} {S:Sit} (m:MemOk K S) (fin:Fin XE (Rep K) K S (.ok (.tup xs) S.M) Q) (r:Reps K S xs vs):∀ p,S.H p = none->Q (.ref p) (upd S.H p (.tup vs)):=fun p hp=>by
 have s2:=Stp.new m hp (.tup vs)
 exact fin ⟨S.α,S.M,upd S.H p (.tup vs),S.hid⟩ (.ref p) rfl s2 (.tup (.inl (.inl yx)) r.1 (r.grow m s2.toGrow).2)
theorem ziw {K:Frag} {S:Sit} (m:MemOk K S) (fin:Fin XE (Rep K) K S (.ok (.lst xs) S.M) Q) (r:Reps K S xs vs):∀ p,S.H p = none->Q (.ref p) (upd S.H p (.lst vs)):=fun p hp=>by
 have s2:=Stp.new m hp (.lst vs)
 exact fin ⟨S.α,S.M,upd S.H p (.lst vs),S.hid⟩ (.ref p) rfl s2 (.lst (.inl ⟨.inl yx,m.off_none hp⟩) r.1 (r.grow m s2.toGrow).2)
noncomputable def yg:T->T->Mem->Out T:=fun x y M=>match x,y with
 | .int i,.int j=>.ok (.int (i + j)) M
 | .str a,.str b=>if a.length + b.length<=sizeLine then .ok (.str (a ++ b)) M else .bad
 | .tup xs,.tup ys=>if xs.length + ys.length<=sizeLine then .ok (.tup (xs ++ ys)) M else .bad
 | x,y=>match zv x M,zv y M with
  | some xs,some ys=>if xs.length + ys.length<=sizeLine then .ok (.lst (xs ++ ys)) M else .bad
  | _,_=>.bad
noncomputable def zaF:T->T->Mem->Out T:=fun x y M=>match x,y with
 | .int i,.int j=>if Mo64 i j then .ok (.int (i * j)) M else .bad
 | .tup xs,.int k=>if xs ≠ []/\2<=k/\k < 2 ^ 63/\xs.length * k.toNat<=sizeLine then .ok (.tup (List.replicate k.toNat xs).flatten) M else .bad
 | _,_=>.bad
variable {pins:List (Addr × Obj)} {s:Shared}
section
theorem yh:OpR X (binaryOp .Add) (lR2 XE X.K yg):=by
 intro pins s σ H x y v u Q I rx ry ⟨S,⟨tx,ty⟩,e,m,⟨r1,r2⟩,fin⟩
 subst e
 replace fin:Fin XE (Rep X.K) X.K S (yg tx ty S.M) Q:=fin
 unfold yg at fin
 split at fin
 ·cases r1;cases r2
  exact zpm pins s σ S.H _ _ v u Q I rx ry ⟨_,_,rfl,rfl,fin S _ rfl (.refl m) (.int _)⟩
 ·cases r1;cases r2
  split at fin
  ·rename_i hz
   exact zi8 pins s σ S.H _ _ v u Q I rx ry ⟨_,_,rfl,rfl,hz,fin S _ rfl (.refl m) (.str _)⟩
  ·exact fin.elim
 ·split at fin
  ·rename_i hz
   cases r1 with
   | @tup _ p vs h l r=>
   cases r2 with
   | @tup _ p2 vs2 h2 l2 rr2=>
   have r1:Reps X.K S _ vs:=⟨l,r⟩
   have r2:Reps X.K S _ vs2:=⟨l2,rr2⟩
   refine znz pins s σ S.H _ _ v u Q I rx ry ⟨p,p2,vs,vs2,rfl,rfl,h,h2,by rw [← l,← l2];exact hz,fun e=>?_,fun e1 e2=>?_,fun e1 e2=>zfB m fin (r1.app r2)⟩
   ·subst e
    rw [r1.nil_inv,nil_append] at fin
    exact fin S _ rfl (.refl m) (.tup h2 l2 rr2)
   ·subst e2
    rw [r2.nil_inv,append_nil] at fin
    exact fin S _ rfl (.refl m) (.tup h l r)
  ·exact fin.elim
 ·split at fin
  ·rename_i xs ys q1 q2
   split at fin
   ·rename_i hz
    obtain ⟨p,vs,e1,h1,s1⟩:=qw m r1 q1
    obtain ⟨p2,vs2,e2,h2,s2⟩:=qw m r2 q2
    dsimp only at e1 e2
    subst e1;subst e2
    exact zny pins s σ S.H _ _ v u Q I rx ry ⟨p,p2,vs,vs2,rfl,rfl,h1,h2,by rw [← s1.1,← s2.1];exact hz,ziw m fin (s1.app s2)⟩
   ·exact fin.elim
  ·exact fin.elim
theorem Reps.rep {K:Frag} {S:Sit} (r:Reps K S ts vs) (n:Nat):Reps K S (List.replicate n ts).flatten (List.replicate n vs).flatten:=by
 induction n with
 | zero=>exact .nil
 | succ n ih=>rw [replicate_succ,replicate_succ,flatten_cons,flatten_cons];exact r.app ih
theorem zcP:OpR X (binaryOp .Mult) (lR2 XE X.K zaF):=by
 intro pins s σ H x y v u Q I rx ry ⟨S,⟨tx,ty⟩,e,m,⟨r1,r2⟩,fin⟩
 subst e
 replace fin:Fin XE (Rep X.K) X.K S (zaF tx ty S.M) Q:=fin
 unfold zaF at fin
 split at fin
 ·cases r1;cases r2
  split at fin
  ·rename_i h
   exact znu pins s σ S.H _ _ v u Q I rx ry ⟨_,_,rfl,rfl,h.ok,fin S _ rfl (.refl m) (.int _)⟩
  ·exact fin.elim
 ·split at fin
  ·rename_i h
   cases r2
   cases r1 with
   | @tup _ p vs hq l r=>
   have r1:Reps X.K S _ vs:=⟨l,r⟩
   exact zns pins s σ S.H _ _ v u Q I rx ry ⟨p,_,vs,rfl,rfl,hq,fun z=>h.1 (by subst z;exact r1.nil_inv),h.2.1,h.2.2.1,by rw [← l];exact h.2.2.2,zfB m fin (r1.rep _)⟩
  ·exact fin.elim
 ·exact fin.elim
noncomputable def lO (XE:XK) (K:Frag) (f:Ev->Mem->Out (Option Int)):TO:=fun σ H Q=>LN XE EqR K UnR (fun _ σ M=>f σ M) () σ H Q
def GO (X:Cx) (XE:XK) (e:Option Expr) (f:Ev->Mem->Out (Option Int)):Prop:=PO X e (lO XE X.K f)
noncomputable def zcn:Ev->Mem->Out (Option Int):=fun _ M=>.ok none M
noncomputable def zlW (x:T) (M:Mem):Out (Option Int):=match x with
 | .int i=>.ok (some i) M
 | _=>.bad
noncomputable def zcm (f:Ev->Mem->Out T):Ev->Mem->Out (Option Int):=fun σ M=>(f σ M).bind zlW
theorem PO.imp {e:Option Expr} {t t':TO} (h:PO X e t) (i:∀ σ H Q,t' σ H Q->t σ H Q):PO X e t':=fun pins s σ H Q I q=>h pins s σ H Q I (i σ H Q q)
noncomputable def zeR (x:T) (lo hi:Option Int) (M:Mem):Out T:=match x with
 | .tup xs=>.ok (.tup (zcG xs lo hi)) M
 | x=>match zv x M with
  | some xs=>.ok (.lst (zcG xs lo hi)) M
  | none=>.bad
noncomputable def eSl (f:Ev->Mem->Out T) (p q:Ev->Mem->Out (Option Int)):Ev->Mem->Out T:=fun σ M=>(f σ M).bind fun x M1=>(p σ M1).bind fun lo M2=>(q σ M2).bind fun hi M3=>zeR x lo hi M3
noncomputable def zr0 (XE:XK) (K:Frag):V->Option Int->Option Int->Hp->VK->Prop:=fun x lo hi H Q=>∃ S t,S.H = H/\MemOk K S/\Rep K S t x/\Fin XE (Rep K) K S (zeR t lo hi S.M) Q
theorem zoK:SlR X (zr0 XE X.K):=by
 intro pins s σ H x v vl vu lo hi sl Q I rx hs pl pu ⟨S,t,e,m,r,fin⟩
 subst e
 unfold zeR at fin
 split at fin
 ·cases r with
  | @tup _ p vs h l r=>
  have r1:Reps X.K S _ vs:=⟨l,r⟩
  refine zm2 pins s σ S.H _ v vl vu lo hi sl Q I rx hs pl pu ⟨p,vs,rfl,h,fun w=>?_,fun w=>zfB m fin (r1.cutV lo hi)⟩
  rw [zjl (by rw [l];exact w)] at fin
  exact fin S _ rfl (.refl m) (.tup h l r)
 ·split at fin
  ·rename_i xs q
   obtain ⟨p,vs,e1,h1,s1⟩:=qw m r q
   subst e1
   exact zm3 pins s σ S.H _ v vl vu lo hi sl Q I rx hs pl pu ⟨p,vs,rfl,h1,ziw m fin (s1.cutV lo hi)⟩
  ·exact fin.elim
noncomputable def zpD (T U:String):Option Bool:=if (Value.type T == Value.type U) = true then some true else if PySem.W.kitMeta U = true then (PySem.fastBuiltinMro T).map (·.contains (.type U)) else none
noncomputable def tyN (t:T) (M:Mem):Option String:=match t with
 | .non=>some "NoneType" | .bl _=>some "bool" | .int _=>some "int" | .str _=>some "str" | .tup _=>some "tuple" | .lst _=>some "list"
 | .ref a=>match M[a]? with
  | some (.lst _)=>some "list"
  | some (.dic _)=>some "dict"
  | _=>none
 | _=>none
noncomputable def zmF (n U:String):Bool:=n == U || (n == "bool" && U == "int")
noncomputable def zge:List String:=["NoneType","bool","int","str","tuple","list","dict"]
theorem znN:∀ n ∈ zge,∀ U ∈ zge,U ≠ "NoneType"->zpD n U = some (zmF n U):=by decide +kernel
noncomputable def qv:T->T->Mem->Out T:=fun t u M=>match u with
 | .ty U=>match tyN t M with
  | some n=>if U ∈ zge/\U ≠ "NoneType" then .ok (.bl (zmF n U)) M else .bad
  | none=>.bad
 | _=>.bad
theorem zmS {n:String} (h:tyN t M = some n):n ∈ zge:=by
 unfold tyN at h
 split at h <;> first | (cases h;decide) | (split at h <;> first | (cases h;decide) | (cases h)) | cases h
theorem zlV {S:Sit} {x:V} {u:Value} {U n:String} {b:Bool} {Q:Value->Shared->Prop} {E:Value->Shared->Prop} (I:L2.Inv X pins σ S.H s) (m:MemOk X.K S) (rx:RelV x u) (r:Rep X.K S t x) (hn:tyN t S.M = some n) (e:zpD n U = some b) (h:∀ tk,Q (.bool b) { s with toks:=tk }) :
  wpAny (model X.prog X.w) X.A (call (.builtin "isinstance") [u,.type U]) Q E s:=by
 have e':PySem.W.kitOne X.K (.type n) (.type U) = some b:=e
 cases r with
 | non=>cases hn;cases (show u = Value.none from rx);exact PySem.W.kia_one PySem.W.kitx_none I.kIn True.intro e' (fun z=>nomatch z) h
 | bl y=>cases hn;cases (show u = Value.bool y from rx);exact PySem.W.kia_one PySem.W.kitx_bool I.kIn True.intro e' (fun z=>nomatch z) h
 | int i=>cases hn;obtain ⟨t,q⟩:=(show ∃ t,u = Value.int i t from rx);cases q;exact PySem.W.kia_one PySem.W.kitx_int I.kIn True.intro e' (fun z=>nomatch z) h
 | str y=>cases hn;obtain ⟨t,q⟩:=(show ∃ t,u = Value.str y t from rx);cases q;exact PySem.W.kia_one PySem.W.kitx_str I.kIn True.intro e' (fun z=>nomatch z) h
 | ty y=>cases hn
 | @tup ts p vs hq l r=>
  cases hn
  cases (show u = Value.ref p from rx)
  obtain ⟨its,_,pl,_⟩:=I.tuple hq
  obtain ⟨o,h1,h2,_⟩:=pl
  exact PySem.W.kia_one PySem.W.kitx_tuple I.kIn ⟨o,h1,h2⟩ e' (fun z=>nomatch z) h
 | @lst ts p vs hq l r=>
  cases hn
  cases (show u = Value.ref p from rx)
  obtain ⟨its,_,pl,_⟩:=I.list (zb8 hq)
  obtain ⟨o,h1,h2⟩:=pl.isList
  exact PySem.W.kia_one PySem.W.kitx_list I.kIn ⟨o,h1,h2.1⟩ e' (fun z=>nomatch z) h
 | @ref a ha=>
  cases (show u = Value.ref _ from rx)
  unfold tyN at hn
  dsimp only at hn
  split at hn
  ·rename_i ts q
   cases hn
   obtain ⟨vs,q2,_⟩:=m.cell a _ q
   obtain ⟨_,_,n,_,h1⟩:=(show ObjOk X.prog X.w S.H s.heap (S.α a) (.lst vs) from I.hok _ _ q2)
   exact PySem.W.kia_one PySem.W.kitx_list I.kIn ⟨_,h1,rfl⟩ e' (fun z=>nomatch z) h
  ·rename_i ts q
   cases hn
   obtain ⟨vs,q2,_⟩:=m.cell a _ q
   obtain ⟨_,_,vs2,_,p⟩:=(show ObjOk X.prog X.w S.H s.heap (S.α a) (.dK vs) from I.hok _ _ q2)
   obtain ⟨o,es,ep,h1,h2,_⟩:=p
   exact PySem.W.kia_one PySem.W.kitx_dict I.kIn ⟨o,h1,h2.1⟩ e' (fun z=>nomatch z) h
  ·cases hn
 | dct h l r=>cases hn
 | exc h hd l r=>cases hn
theorem qH:CallR X (.builtin "isinstance") (lRN XE X.K (call2 qv)):=zeT fun pins s σ S t1 t2 x1 x2 v1 v2 Q I rx ry m r1 r2 fin=>by
 unfold qv at fin
 split at fin
 ·rename_i U
  split at fin
  ·rename_i n hn
   split at fin
   ·rename_i hU
    cases r2
    cases ry
    exact zlV I m rx r1 hn (znN n (zmS hn) U hU.1 hU.2) fun tk=>⟨.bl _,S.H,I.tok tk,rfl,fin S _ rfl (.refl m) (.bl _)⟩
   ·exact fin.elim
  ·exact fin.elim
 ·exact fin.elim
end
noncomputable def qM:T->Bool
 | .non=>true
 | .bl _=>true
 | .int _=>true
 | .str _=>true
 | _=>false
noncomputable def eqS:T->T->Bool
 | .non,.non=>true
 | .bl a,.bl b=>a == b
 | .bl a,.int b=>(if a then 1 else 0) == b
 | .int a,.bl b=>a == (if b then 1 else 0)
 | .int a,.int b=>a == b
 | .str a,.str b=>a == b
 | _,_=>false
noncomputable def eqL (f:T->T->Option Bool):List T->List T->Option Bool
 | [],[]=>some true
 | [],_ :: _=>some false
 | _ :: _,[]=>some false
 | x :: xs,y :: ys=>match f x y,eqL f xs ys with
  | some a,some b=>some (a && b)
  | _,_=>none
noncomputable def eqD (M:Mem):Nat->T->T->Option Bool
 | d,.tup xs,.tup ys=>match d with
  | 0=>none
  | d + 1=>eqL (eqD M d) xs ys
 | d,x,y=>if (qM x && qM y) = true then some (eqS x y) else match d,zv x M,zv y M with
  | d + 1,some xs,some ys=>if xs.length = ys.length then eqL (eqD M d) xs ys else some false
  | _,_,_=>none
noncomputable def eqA:T->T->Mem->Out T:=fun x y M=>match eqD M 20 x y with
 | some b=>.ok (.bl b) M
 | none=>.bad
noncomputable def neA:T->T->Mem->Out T:=fun x y M=>match eqD M 20 x y with
 | some b=>.ok (.bl (!b)) M
 | none=>.bad
theorem zds {f:T->T->Option Bool}:∀ {xs ys:List T} {b:Bool},eqL f xs ys = some b->
  ∃ e:Nat->Bool,(∀ j x y,xs[j]? = some x->ys[j]? = some y->f x y = some (e j))/\b = ((List.range (min xs.length ys.length)).all e && xs.length == ys.length)
 | [],[],b,h=>by cases h;exact ⟨fun _=>true,fun j x y e1=>by simp at e1,by simp⟩
 | [],_ :: _,b,h=>by cases h;exact ⟨fun _=>true,fun j x y e1=>by simp at e1,by simp⟩
 | _ :: _,[],b,h=>by cases h;exact ⟨fun _=>true,fun j x y _ e1=>by simp at e1,by simp⟩
 | x :: xs,y :: ys,b,h=>by
  unfold eqL at h
  cases q1:f x y with
  | none=>rw [q1] at h;cases h
  | some a=>
   cases q2:eqL f xs ys with
   | none=>rw [q1,q2] at h;cases h
   | some c=>
    rw [q1,q2] at h
    cases h
    obtain ⟨e,h1,h2⟩:=zds q2
    refine ⟨fun j=>match j with | 0=>a | j + 1=>e j,fun j u v e1 e2=>?_,?_⟩
    ·cases j with
     | zero=>simp at e1 e2;subst e1;subst e2;exact q1
     | succ j=>exact h1 j u v (by simpa using e1) (by simpa using e2)
    ·rw [h2]
     have:min (x :: xs).length (y :: ys).length = min xs.length ys.length + 1:=by simp only [Qn];omega
     rw [this,List.range_succ_eq_map,all_cons,all_map]
     simp [Bool.and_assoc,Function.comp_def]
variable {A:Around}
section
variable {S:Sit}
theorem yM {K:Frag} (r:Rep K S t v) (h:qM t = true):y6 v = true:=by
 cases r <;> first | rfl | (exact absurd (show false = true from h) Q4)
theorem zfe {K:Frag} {w:V} (r:Rep K S t v) (q:Rep K S u w) (h:qM t = true) (h2:qM u = true):eqS t u = eqV v w:=by
 cases r <;> first | (exact absurd (show false = true from h) Q4) | (cases q <;> first | rfl | (exact absurd (show false = true from h2) Q4))
theorem zid {K:Frag} (r:Rep K S t v) (q:Rep K S u v) (h:qM t = true) (h2:qM u = true):eqS t u = true:=by
 rw [zfe r q h h2]
 exact zmg v (yM r h)
theorem zmh (I:L2.Inv X pins σ S.H s) (m:MemOk X.K S):∀ (d:Nat) {t u:T} {v:V} {b:Bool},Rep X.K S t v->Rep X.K S u v->eqD S.M d t u = some b->b = true:=by
 intro d
 induction d with
 | zero=>
  intro t u v b r q h
  unfold eqD at h
  split at h
  ·cases h
  ·split at h
   ·rename_i hs
    rw [Qq] at hs
    cases h
    exact zid r q hs.1 hs.2
   ·cases h
 | succ d ih=>
  have key:∀ {xs ys:List T} {vs:List V} {b:Bool},Reps X.K S xs vs->Reps X.K S ys vs->eqL (eqD S.M d) xs ys = some b->b = true:=by
   intro xs ys vs b r q h
   obtain ⟨e,h1,h2⟩:=zds h
   rw [h2,r.1,q.1]
   simp only [Nat.min_self,beq_self_eq_true,Bool.and_true,QD,mem_range]
   intro j hj
   have hx:j < xs.length:=by rw [r.1];exact hj
   have hy:j < ys.length:=by rw [q.1];exact hj
   have ex:xs[j]? = some xs[j]:=by simp [hx]
   have ey:ys[j]? = some ys[j]:=by simp [hy]
   have ev:vs[j]? = some vs[j]:=by simp [hj]
   exact ih (r.2 j _ _ ex ev) (q.2 j _ _ ey ev) (h1 j _ _ ex ey)
  intro t u v b r q h
  unfold eqD at h
  split at h
  ·cases r with
   | @tup _ p vs h1 l1 r1=>
   cases q with
   | @tup _ _ vs2 h2 l2 r2=>
   have:=I.tuple_inj h1 h2
   subst this
   exact key ⟨l1,r1⟩ ⟨l2,r2⟩ h
  ·split at h
   ·rename_i hs
    rw [Qq] at hs
    cases h
    exact zid r q hs.1 hs.2
   ·split at h
    ·rename_i d' xs ys hd q1 q2
     cases hd
     obtain ⟨p,vs,e1,hq1,s1⟩:=qw m r q1
     obtain ⟨p2,vs2,e2,hq2,s2⟩:=qw m q q2
     rw [e1] at e2
     cases e2
     have:=I.list_inj hq1 hq2
     subst this
     rw [Qw (by rw [s1.1,s2.1])] at h
     exact key s1 s2 h
    ·cases h
theorem zqi (I:L2.Inv X pins σ S.H s) (m:MemOk X.K S):∀ (d:Nat) {A:Around} {t u:T} {v w:V} {x y:Value} {b:Bool},A.units + d < cLine->RelV v x->RelV w y->Rep X.K S t v->Rep X.K S u w->eqD S.M d t u = some b->SeqAt.EqAt A s x y b:=by
 intro d
 induction d with
 | zero=>
  intro A t u v w x y b hu rx ry r q h
  unfold eqD at h
  split at h
  ·cases h
  ·split at h
   ·rename_i hs
    rw [Qq] at hs
    cases h
    rw [zfe r q hs.1 hs.2]
    exact zhq rx ry (yM r hs.1) (yM q hs.2)
   ·cases h
 | succ d ih=>
  have key:∀ {A:Around} {xs ys:List T} {vs ws:List V} {us zs:List Value} {b:Bool},A.units + d < cLine->Reps X.K S xs vs->Reps X.K S ys ws->Vals vs us->Vals ws zs->eqL (eqD S.M d) xs ys = some b->
    ∃ e:Nat->Bool,(∀ j (h1:j < us.toArray.size) (h2:j < zs.toArray.size),SeqAt.EqAt A s us.toArray[j] zs.toArray[j] (e j))/\b = ((List.range (min us.toArray.size zs.toArray.size)).all e && us.toArray.size == zs.toArray.size):=by
   intro A xs ys vs ws us zs b hu r q hv hw h
   obtain ⟨e,h1,h2⟩:=zds h
   have l1:us.length = xs.length:=by rw [← hv.length,r.1]
   have l2:zs.length = ys.length:=by rw [← hw.length,q.1]
   refine ⟨e,fun j g1 g2=>?_,by rw [h2,Qg,Qg,l1,l2]⟩
   have g1':j < us.length:=by simpa using g1
   have g2':j < zs.length:=by simpa using g2
   have ex:xs[j]? = some (xs[j]'(by omega)):=Q0 (by omega)
   have ey:ys[j]? = some (ys[j]'(by omega)):=Q0 (by omega)
   obtain ⟨v,ev,rv⟩:=r.get ex
   obtain ⟨w,ew,rw'⟩:=q.get ey
   obtain ⟨a,ea,ra⟩:=Vals.get hv ev
   obtain ⟨c,ec,rc⟩:=Vals.get hw ew
   have:us.toArray[j] = a:=by
    rw [getElem_toArray];rw [Q0 g1'] at ea;exact Qb ea
   rw [this]
   have:zs.toArray[j] = c:=by
    rw [getElem_toArray];rw [Q0 g2'] at ec;exact Qb ec
   rw [this]
   exact ih hu ra rc rv rw' (h1 j _ _ ex ey)
  intro A t u v w x y b hu rx ry r q h
  have hsame:v = w->b = true:=fun z=>by subst z;exact zmh I m (d + 1) r q h
  unfold eqD at h
  split at h
  ·cases r with
   | @tup _ p vs h1 l1 r1=>
   cases q with
   | @tup _ p2 vs2 h2 l2 r2=>
   cases rx
   cases ry
   by_cases hp:p = p2
   ·subst hp
    rw [hsame rfl]
    exact SeqAt.EqAt.same _
   ·obtain ⟨its,ri,pl,_⟩:=I.tuple h1
    obtain ⟨its2,ri2,pl2,_⟩:=I.tuple h2
    obtain ⟨e,he,eb⟩:=key (A:=A.in1) (by show A.units + 1 + d < cLine;omega) ⟨l1,r1⟩ ⟨l2,r2⟩ ri ri2 h
    rw [eb]
    exact SeqAt.EqAt.of_refs hp (SeqAt.RcAt.tuples pl pl2 (by omega) he)
  ·split at h
   ·rename_i hs
    rw [Qq] at hs
    cases h
    rw [zfe r q hs.1 hs.2]
    exact zhq rx ry (yM r hs.1) (yM q hs.2)
   ·split at h
    ·rename_i d' xs ys hd q1 q2
     cases hd
     obtain ⟨p,vs,e1,hq1,s1⟩:=qw m r q1
     obtain ⟨p2,vs2,e2,hq2,s2⟩:=qw m q q2
     subst e1
     subst e2
     cases rx
     cases ry
     by_cases hp:p = p2
     ·subst hp
      rw [hsame rfl]
      exact SeqAt.EqAt.same _
     ·obtain ⟨its,ri,pl,_⟩:=I.list hq1
      obtain ⟨its2,ri2,pl2,_⟩:=I.list hq2
      have lz:its.length = xs.length:=by rw [← ri.length,s1.1]
      have lz2:its2.length = ys.length:=by rw [← ri2.length,s2.1]
      by_cases hl:xs.length = ys.length
      ·rw [Qw hl] at h
       obtain ⟨e,he,eb⟩:=key (A:=A.in1) (by show A.units + 1 + d < cLine;omega) s1 s2 ri ri2 h
       have hsz:its.toArray.size = its2.toArray.size:=by simp [lz,lz2,hl]
       rw [eb,hsz,Nat.min_self,beq_self_eq_true,Bool.and_true,← hsz]
       exact SeqAt.EqAt.of_refs hp (SeqAt.RcAt.lists pl.isList pl2.isList hsz (by omega) he)
      ·rw [Qy hl] at h
       cases h
       exact SeqAt.EqAt.of_refs hp (SeqAt.RcAt.lists_lengths pl.isList pl2.isList (by simp [lz,lz2,hl]) (by omega))
    ·cases h
theorem zoO {x:V} {u v:Value} (ry:RelV y u) (rx:RelV x v) (fy:y6 y = true) (fx:y6 x = true):SeqAt.RcAt A s u v (eqV y x):=by
 cases y with
 | non=>
  cases ry
  cases x with
  | non=>cases rx;exact SeqAt.RcAt.none_none
  | bl b=>cases rx;exact SeqAt.RcAt.none_bool b
  | int b=>obtain ⟨t,rfl⟩:=rx;exact SeqAt.RcAt.none_int b t
  | str b=>obtain ⟨t,rfl⟩:=rx;exact SeqAt.RcAt.none_str b t
  | _=>exact absurd (show false = true from fx) Q4
 | bl a=>
  cases ry
  cases x with
  | non=>cases rx;exact SeqAt.RcAt.bool_none a
  | bl b=>cases rx;exact SeqAt.RcAt.bool_bool a b
  | int b=>obtain ⟨t,rfl⟩:=rx;exact SeqAt.RcAt.bool_int a b t
  | str b=>obtain ⟨t,rfl⟩:=rx;exact SeqAt.RcAt.bool_str a b t
  | _=>exact absurd (show false = true from fx) Q4
 | int a=>
  obtain ⟨t',rfl⟩:=ry
  cases x with
  | non=>cases rx;exact SeqAt.RcAt.int_none a t'
  | bl b=>cases rx;exact SeqAt.RcAt.int_bool a t' b
  | int b=>obtain ⟨t,rfl⟩:=rx;exact SeqAt.RcAt.int_int a t' b t
  | str b=>obtain ⟨t,rfl⟩:=rx;exact SeqAt.RcAt.int_str a t' b t
  | _=>exact absurd (show false = true from fx) Q4
 | str a=>
  obtain ⟨t',rfl⟩:=ry
  cases x with
  | non=>cases rx;exact SeqAt.RcAt.str_none a t'
  | bl b=>cases rx;exact SeqAt.RcAt.str_bool a t' b
  | int b=>obtain ⟨t,rfl⟩:=rx;exact SeqAt.RcAt.str_int a t' b t
  | str b=>obtain ⟨t,rfl⟩:=rx;exact SeqAt.RcAt.str_str a t' b t
  | _=>exact absurd (show false = true from fx) Q4
 | _=>exact absurd (show false = true from fy) Q4
theorem zlq {x:V} {u v:Value} (ry:RelV y u) (rx:RelV x v) (fy:y6 y = true) (fx:y6 x = true):SeqAt.RcNeAt A s u v (!eqV y x):=by
 cases y with
 | non=>
  cases ry
  cases x with
  | non=>cases rx;exact SeqAt.RcNeAt.none_none
  | bl b=>cases rx;exact SeqAt.RcNeAt.none_bool b
  | int b=>obtain ⟨t,rfl⟩:=rx;exact SeqAt.RcNeAt.none_int b t
  | str b=>obtain ⟨t,rfl⟩:=rx;exact SeqAt.RcNeAt.none_str b t
  | _=>exact absurd (show false = true from fx) Q4
 | bl a=>
  cases ry
  cases x with
  | non=>cases rx;exact SeqAt.RcNeAt.bool_none a
  | bl b=>cases rx;exact SeqAt.RcNeAt.bool_bool a b
  | int b=>obtain ⟨t,rfl⟩:=rx;exact SeqAt.RcNeAt.bool_int a b t
  | str b=>obtain ⟨t,rfl⟩:=rx;exact SeqAt.RcNeAt.bool_str a b t
  | _=>exact absurd (show false = true from fx) Q4
 | int a=>
  obtain ⟨t',rfl⟩:=ry
  cases x with
  | non=>cases rx;exact SeqAt.RcNeAt.int_none a t'
  | bl b=>cases rx;exact SeqAt.RcNeAt.int_bool a t' b
  | int b=>obtain ⟨t,rfl⟩:=rx;exact SeqAt.RcNeAt.int_int a t' b t
  | str b=>obtain ⟨t,rfl⟩:=rx;exact SeqAt.RcNeAt.int_str a t' b t
  | _=>exact absurd (show false = true from fx) Q4
 | str a=>
  obtain ⟨t',rfl⟩:=ry
  cases x with
  | non=>cases rx;exact SeqAt.RcNeAt.str_none a t'
  | bl b=>cases rx;exact SeqAt.RcNeAt.str_bool a t' b
  | int b=>obtain ⟨t,rfl⟩:=rx;exact SeqAt.RcNeAt.str_int a t' b t
  | str b=>obtain ⟨t,rfl⟩:=rx;exact SeqAt.RcNeAt.str_str a t' b t
  | _=>exact absurd (show false = true from fx) Q4
 | _=>exact absurd (show false = true from fy) Q4
theorem zkG (I:L2.Inv X pins σ S.H s) (m:MemOk X.K S) (d:Nat) {w:V} {x y:Value} {b:Bool} (hu:A.units + d < cLine) (rx:RelV v x) (ry:RelV w y) (r:Rep X.K S t v) (q:Rep X.K S u w) (h:eqD S.M d t u = some b):SeqAt.RcAt A s x y b/\SeqAt.RcNeAt A s x y (!b):=by
 have at_:∀ {A:Around} {d:Nat} {xs ys:List T} {vs ws:List V} {us zs:List Value} {b:Bool},A.units + d < cLine->Reps X.K S xs vs->Reps X.K S ys ws->Vals vs us->Vals ws zs->eqL (eqD S.M d) xs ys = some b->
    ∃ e:Nat->Bool,(∀ j (h1:j < us.toArray.size) (h2:j < zs.toArray.size),SeqAt.EqAt A s us.toArray[j] zs.toArray[j] (e j))/\b = ((List.range (min us.toArray.size zs.toArray.size)).all e && us.toArray.size == zs.toArray.size):=by
  intro A d xs ys vs ws us zs b hu r q hv hw h
  obtain ⟨e,h1,h2⟩:=zds h
  have l1:us.length = xs.length:=by rw [← hv.length,r.1]
  have l2:zs.length = ys.length:=by rw [← hw.length,q.1]
  refine ⟨e,fun j g1 g2=>?_,by rw [h2,Qg,Qg,l1,l2]⟩
  have g1':j < us.length:=by simpa using g1
  have g2':j < zs.length:=by simpa using g2
  have ex:xs[j]? = some (xs[j]'(by omega)):=Q0 (by omega)
  have ey:ys[j]? = some (ys[j]'(by omega)):=Q0 (by omega)
  obtain ⟨v,ev,rv⟩:=r.get ex
  obtain ⟨w,ew,rw'⟩:=q.get ey
  obtain ⟨a,ea,ra⟩:=Vals.get hv ev
  obtain ⟨c,ec,rc⟩:=Vals.get hw ew
  have:us.toArray[j] = a:=by
   rw [getElem_toArray];rw [Q0 g1'] at ea;exact Qb ea
  rw [this]
  have:zs.toArray[j] = c:=by
   rw [getElem_toArray];rw [Q0 g2'] at ec;exact Qb ec
  rw [this]
  exact zqi I m d hu ra rc rv rw' (h1 j _ _ ex ey)
 unfold eqD at h
 split at h
 ·split at h
  ·cases h
  ·rename_i d
   cases r with
   | @tup _ p vs h1 l1 r1=>
   cases q with
   | @tup _ p2 vs2 h2 l2 r2=>
   cases rx
   cases ry
   obtain ⟨its,ri,pl,_⟩:=I.tuple h1
   obtain ⟨its2,ri2,pl2,_⟩:=I.tuple h2
   obtain ⟨e,he,eb⟩:=at_ (A:=A.in1) (by show A.units + 1 + d < cLine;omega) ⟨l1,r1⟩ ⟨l2,r2⟩ ri ri2 h
   rw [eb]
   exact ⟨SeqAt.RcAt.tuples pl pl2 (by omega) he,SeqAt.RcNeAt.tuples pl pl2 (by omega) he⟩
 ·split at h
  ·rename_i hs
   rw [Qq] at hs
   cases h
   rw [zfe r q hs.1 hs.2]
   exact ⟨zoO rx ry (yM r hs.1) (yM q hs.2),zlq rx ry (yM r hs.1) (yM q hs.2)⟩
  ·split at h
   ·rename_i d' xs ys q1 q2
    obtain ⟨p,vs,e1,hq1,s1⟩:=qw m r q1
    obtain ⟨p2,vs2,e2,hq2,s2⟩:=qw m q q2
    subst e1
    subst e2
    cases rx
    cases ry
    obtain ⟨its,ri,pl,_⟩:=I.list hq1
    obtain ⟨its2,ri2,pl2,_⟩:=I.list hq2
    have lz:its.length = xs.length:=by rw [← ri.length,s1.1]
    have lz2:its2.length = ys.length:=by rw [← ri2.length,s2.1]
    by_cases hl:xs.length = ys.length
    ·rw [Qw hl] at h
     obtain ⟨e,he,eb⟩:=at_ (A:=A.in1) (by show A.units + 1 + d' < cLine;omega) s1 s2 ri ri2 h
     have hsz:its.toArray.size = its2.toArray.size:=by simp [lz,lz2,hl]
     rw [eb,hsz,Nat.min_self,beq_self_eq_true,Bool.and_true,← hsz]
     exact ⟨SeqAt.RcAt.lists pl.isList pl2.isList hsz (by omega) he,SeqAt.RcNeAt.lists pl.isList pl2.isList hsz (by omega) he⟩
    ·rw [Qy hl] at h
     cases h
     exact ⟨SeqAt.RcAt.lists_lengths pl.isList pl2.isList (by simp [lz,lz2,hl]) (by omega),SeqAt.RcNeAt.lists_lengths pl.isList pl2.isList (by simp [lz,lz2,hl]) (by omega)⟩
   ·cases h
theorem zD (hu:X.A.units + 64 < cLine):OpR X (compareOp .Eq) (lR2 XE X.K eqA):=by
 intro pins s σ H x y v u Q I rx ry ⟨S,⟨tx,ty⟩,e,m,⟨r1,r2⟩,fin⟩
 subst e
 replace fin:Fin XE (Rep X.K) X.K S (eqA tx ty S.M) Q:=fin
 unfold eqA at fin
 split at fin
 ·rename_i b q
  exact (zkG I m 20 (A:=X.A) (by omega) rx ry r1 r2 q).1 _ _ _ _ ⟨.bl b,S.H,I,rfl,fin S _ rfl (.refl m) (.bl _)⟩
 ·exact fin.elim
theorem zgY (hu:X.A.units + 64 < cLine):OpR X (compareOp .NotEq) (lR2 XE X.K neA):=by
 intro pins s σ H x y v u Q I rx ry ⟨S,⟨tx,ty⟩,e,m,⟨r1,r2⟩,fin⟩
 subst e
 replace fin:Fin XE (Rep X.K) X.K S (neA tx ty S.M) Q:=fin
 unfold neA at fin
 split at fin
 ·rename_i b q
  exact (zkG I m 20 (A:=X.A) (by omega) rx ry r1 r2 q).2 _ _ _ _ ⟨.bl (!b),S.H,I,rfl,fin S _ rfl (.refl m) (.bl _)⟩
 ·exact fin.elim
noncomputable def inA:T->T->Mem->Out T:=fun x y M=>match zc6 y M with
 | some ys=>if (qM x && ys.all qM) = true then .ok (.bl (ys.any fun y=>eqS y x)) M else .bad
 | none=>.bad
noncomputable def zfA:T->T->Mem->Out T:=fun x y M=>match zc6 y M with
 | some ys=>if (qM x && ys.all qM) = true then .ok (.bl (!ys.any fun y=>eqS y x)) M else .bad
 | none=>.bad
theorem zju {K:Frag} {x:T} {v:V} (rx:Rep K S x v) (hx:qM x = true):∀ {ys:List T} {vs:List V},Reps K S ys vs->ys.all qM = true->vs.all y6 = true/\inV v vs = ys.any fun y=>eqS y x
 | [],vs,r,_=>by rw [r.nilT];exact ⟨rfl,rfl⟩
 | y :: ys,vs,r,h=>by
  obtain ⟨w,ws,rfl,r1,r2⟩:=r.consT
  rw [all_cons,Qq] at h
  obtain ⟨h1,h2⟩:=zju rx hx r2 h.2
  refine ⟨by rw [all_cons,yM r1 h.1,h1];rfl,?_⟩
  unfold inV at h2 ⊢
  rw [any_cons,any_cons,h2,zfe r1 rx h.1 hx]
theorem zg0:OpR X (compareOp .In) (lR2 XE X.K inA):=by
 intro pins s σ H x y v u Q I rx ry ⟨S,⟨tx,ty⟩,e,m,⟨r1,r2⟩,fin⟩
 subst e
 replace fin:Fin XE (Rep X.K) X.K S (inA tx ty S.M) Q:=fin
 unfold inA at fin
 split at fin
 ·rename_i ys q
  split at fin
  ·rename_i hs
   rw [Qq] at hs
   obtain ⟨p,vs,e1,hq,rs⟩:=zck m r2 q
   dsimp only at e1
   subst e1
   obtain ⟨a1,a2⟩:=zju r1 hs.1 rs hs.2
   exact zj6 pins s σ S.H _ _ v u Q I rx ry ⟨p,vs,rfl,hq,yM r1 hs.1,a1,by rw [a2];exact fin S _ rfl (.refl m) (.bl _)⟩
  ·exact fin.elim
 ·exact fin.elim
theorem zis:OpR X (compareOp .NotIn) (lR2 XE X.K zfA):=by
 intro pins s σ H x y v u Q I rx ry ⟨S,⟨tx,ty⟩,e,m,⟨r1,r2⟩,fin⟩
 subst e
 replace fin:Fin XE (Rep X.K) X.K S (zfA tx ty S.M) Q:=fin
 unfold zfA at fin
 split at fin
 ·rename_i ys q
  split at fin
  ·rename_i hs
   rw [Qq] at hs
   obtain ⟨p,vs,e1,hq,rs⟩:=zck m r2 q
   dsimp only at e1
   subst e1
   obtain ⟨a1,a2⟩:=zju r1 hs.1 rs hs.2
   exact zgX pins s σ S.H _ _ v u Q I rx ry ⟨p,vs,rfl,hq,yM r1 hs.1,a1,by rw [Qw rfl,a2];exact fin S _ rfl (.refl m) (.bl _)⟩
  ·exact fin.elim
 ·exact fin.elim
end
section
noncomputable def zeN:List T->Option (List Int)
 | []=>some []
 | .int b :: r=>(zeN r).map (b :: ·)
 | _=>none
theorem zhd {K:Frag} {S:Sit}:∀ {ts:List T} {vs:List V} {bs:List Int},zeN ts = some bs->Reps K S ts vs->vs = bs.map V.int
 | [],vs,bs,e,r=>by cases e;exact r.nilT
 | .int b :: ts,vs,bs,e,r=>by
  unfold zeN at e
  obtain ⟨v,vs',rfl,r1,r2⟩:=r.consT
  cases q:zeN ts with
  | none=>rw [q] at e;cases e
  | some bs'=>
   rw [q] at e
   cases e
   cases r1
   rw [zhd q r2];rfl
 | .non :: _,_,_,e,_=>by cases e
 | .bl _ :: _,_,_,e,_=>by cases e
 | .str _ :: _,_,_,e,_=>by cases e
 | .ty _ :: _,_,_,e,_=>by cases e
 | .tup _ :: _,_,_,e,_=>by cases e
 | .lst _ :: _,_,_,e,_=>by cases e
 | .ref _ :: _,_,_,e,_=>by cases e
noncomputable def sumK:T->Mem->Out T:=fun t M=>match zv t M with
 | some xs=>match zeN xs with
  | some bs=>.ok (.int bs.sum) M
  | none=>.bad
 | none=>.bad
theorem zkM (hc:X.calm = true):CallR X (.builtin "sum") (lRN XE X.K (zl sumK)):=zaZ fun pins s σ S t x v Q I rx m r fin=>by
 unfold sumK at fin
 split at fin
 ·rename_i xs q
  split at fin
  ·rename_i bs q2
   obtain ⟨p,vs,rfl,hq,rs⟩:=qw m r q
   rw [zhd q2 rs] at hq
   exact zkN hc pins s σ S.H _ _ Q I (.cons rx .nil) ⟨p,bs,rfl,hq,fin S _ rfl (.refl m) (.int _)⟩
  ·exact fin.elim
 ·exact fin.elim
end
noncomputable def zll (o:Out Fl):Out T:=match o with
 | .ok (.rt t) M'=>.ok t M'
 | .ok (.nx _) M'=>.ok .non M'
 | _=>.bad
theorem zjU {p:Nat} (h:ts.length = p):zq p n g ts M = zll (g (startT n ts) M):=by
 unfold zq
 rw [Qw h]
 rfl
theorem zsw:zll (.ok (.rt t) M) = .ok t M:=rfl
theorem zsx {σ:Ev} :zll (.ok (.nx σ) M) = .ok .non M:=rfl
theorem zsR {β:Type} {b:Bool} {k:Bool->Mem->Out β}:blT (.bl b) M k = k b M:=rfl
variable {k:Ev->Mem->Out Fl}
theorem zh {σ:Ev} :za6 k (.nx σ) M = k σ M:=rfl
theorem zk9:za6 k (.rt t) M = .ok (.rt t) M:=rfl
theorem zrr {σ:Ev} :za6 k (.bk σ) M = .ok (.bk σ) M:=rfl
theorem zrq {σ:Ev} :za6 k (.ct σ) M = .ok (.ct σ) M:=rfl
theorem zrU {σ:Ev} :yU k (.nx σ) M = k σ M:=rfl
theorem zrT:yU k (.rt t) M = .ok (.rt t) M:=rfl
theorem zrW {σ:Ev} :yU k (.bk σ) M = .ok (.nx σ) M:=rfl
theorem zrV {σ:Ev} :yU k (.ct σ) M = k σ M:=rfl
theorem zf3 {x:T} {σ:Ev} :forL bd body (x :: xs) σ M = (bd x σ M).bind fun σ1 M1=>(body σ1 M1).bind (yU (forL bd body xs)):=rfl
theorem zsC {k:T->Mem->Out T} :zl k [t] M = k t M:=rfl
theorem zsB {k:T->T->Mem->Out T} :call2 k [t,u] M = k t u M:=rfl
theorem zsE:yg (.int i) (.int j) M = .ok (.int (i + j)) M:=rfl
theorem zst:zeC (.int i) (.int j) M = .ok (.int (i - j)) M:=rfl
theorem znE (h:Mo64 i j):zaF (.int i) (.int j) M = .ok (.int (i * j)) M:=Qw h
theorem zfI (h:j ≠ 0/\j.natAbs < 10 ^ 2000):zeQ (.int i) (.int j) M = .ok (.int (i.fdiv j)) M:=Qw h
theorem znG (h:j ≠ 0):zba (.int i) (.int j) M = .ok (.int (i.fmod j)) M:=Qw h
theorem zsy (h:0<=j/\j<=1000000/\i.natAbs < 2 ^ 64):zi5 (.int i) (.int j) M = .ok (.int (i ^ j.toNat)) M:=Qw h
theorem zsK:ltI (.int i) (.int j) M = .ok (.bl (decide (i < j))) M:=rfl
theorem zsL:leI (.int i) (.int j) M = .ok (.bl (decide (i<=j))) M:=rfl
theorem zsN:gtI (.int i) (.int j) M = .ok (.bl (decide (j < i))) M:=rfl
theorem zsO:geI (.int i) (.int j) M = .ok (.bl (decide (j<=i))) M:=rfl
theorem zsI:zdg (.int i) M = .ok (.int (-i)) M:=rfl
theorem zsz:zja (.int i) (.int j) M = .ok (.int (if j > i then j else i)) M:=rfl
theorem zsP:eqA (.int i) (.int j) M = .ok (.bl (i == j)) M:=rfl
theorem zsJ:neA (.int i) (.int j) M = .ok (.bl (!(i == j))) M:=rfl
theorem zsM {a b:Bool} :isB (.bl a) (.bl b) M = .ok (.bl (a == b)) M:=rfl
theorem zr2 {a b:Bool} :zq0 (.bl a) (.bl b) M = .ok (.bl (a != b)) M:=rfl
theorem zR {α:Type} {xs:List α} :atI xs (n:Int) = xs[n]?:=by
 unfold atI ixN
 by_cases h:n < xs.length
 ·simp [h]
 ·simp [h]
theorem zs5 {α:Type} {x:α} {l:List α}:atI (x :: l) 0 = some x:=by have:=zR (xs:=x :: l) (n:=0);exact this
theorem zs4 {α:Type} {x y:α} {l:List α}:atI (x :: y :: l) 1 = some y:=by have:=zR (xs:=x :: y :: l) (n:=1);exact this
theorem zs3 {α:Type} {x y z:α} {l:List α}:atI (x :: y :: z :: l) 2 = some z:=by have:=zR (xs:=x :: y :: z :: l) (n:=2);exact this
theorem zs2 {α:Type} {x y z w:α} {l:List α}:atI (x :: y :: z :: w :: l) 3 = some w:=by have:=zR (xs:=x :: y :: z :: w :: l) (n:=3);exact this
theorem zsZ:ixN (n + 1) 0 = some 0:=by unfold ixN;simp
theorem zsY:ixN (n + 2) 1 = some 1:=by unfold ixN;simp;omega
theorem zsX:ixN (n + 3) 2 = some 2:=by unfold ixN;simp;omega
theorem zlh {a:Nat} {k:Int} {j:Nat} (e:M[a]? = some (.lst xs)) (h:ixN xs.length k = some j):zdF (.ref a) (.int k) t M = .ok () (M.set a (.lst (xs.set j t))):=by
 unfold zdF
 simp only [e,h]
theorem yS {a:Nat} (e:M[a]? = some (.lst xs)) (h:xs.length < sizeLine):yW (.ref a) [t] M = .ok .non (M.set a (.lst (xs ++ [t]))):=by
 unfold yW
 simp only [e,Qw h]
theorem yE {a:Nat} (e:M[a]? = some (.lst xs)):qI (.ref a) M = .ok (.ref a) M:=by
 unfold qI zv
 simp only [e]
theorem zbL {a:Nat} (e:M[a]? = some (.lst xs)):qK (.ref a) M = .ok (.tup xs) M:=by
 unfold qK zc6 zv
 simp only [e]
theorem zoN (h:-(2 ^ 62)<=j/\j < 2 ^ 62):zfu [.int j] M = .ok (zdN 0 j.toNat) M:=Qw h
theorem zsQ:zeQ (.int i) (.int 8) M = .ok (.int (i.fdiv 8)) M:=zfI ⟨by decide,Q5 (show (8:Int).natAbs < 10 ^ 1 by decide) (Nat.pow_le_pow_right (by decide) (by decide))⟩
theorem zdT (h:-(2 ^ 64) < i/\i < 2 ^ 64):zaF (.int i) (.int j) M = .ok (.int (i * j)) M:=znE (.inr (.inl h))
theorem zmK (n:Nat) (hn:n<=2000) (h0:j ≠ 0) (h:j.natAbs < 10 ^ n):j ≠ 0/\j.natAbs < 10 ^ 2000:=⟨h0,Q5 h (Nat.pow_le_pow_right (by decide) hn)⟩
structure Po where
 a:Int
 b:Int
 c:Int
noncomputable def Po.dig (p:Po) (base:Int):Int:=if 0 < p.a then p.a % base else
 let mixed:=(p.b + 7919 * (p.c + 1)) % 1000000007
 let stir:=(mixed + 11) * (mixed + 48271) % 998244353
 (stir * stir % 2147483647 / 8) % base
theorem Po.dig_lo (p:Po) {base:Int} (h:0 < base):0<=p.dig base:=by
 unfold Po.dig
 split
 ·exact Int.emod_nonneg _ (by omega)
 ·exact Int.emod_nonneg _ (by omega)
theorem zhB {α:Type} (f:α->Bool):∀ xs:List α,zeX (xs.map fun x=>T.bl (f x)) = some (xs.map f)
 | []=>rfl
 | x :: xs=>by
  show (zeX (xs.map fun x=>T.bl (f x))).map (f x :: ·) = _
  rw [zhB f xs]
  rfl
theorem zbt {α:Type} (f:α->Bool) (xs:List α) (M:Mem):zcH (.lst (xs.map fun x=>T.bl (f x))) M = .ok (.bl (xs.all f)) M:=by
 unfold zcH zv
 simp only [zhB]
 rw [all_map]
 rfl
theorem zrX:zC (.tup xs) M = .ok (.int xs.length) M:=rfl
theorem zlP:zC (.lst xs) M = .ok (.int xs.length) M:=rfl
theorem zeL {a:Nat} (e:M[a]? = some (.lst xs)):zC (.ref a) M = .ok (.int xs.length) M:=by
 unfold zC zc6 zv
 simp only [e]
theorem zfk {α:Type} {xs:List α} (h0:0<=i) (h1:i < xs.length):∃ x,atI xs i = some x/\x ∈ xs:=by
 obtain ⟨n,rfl⟩:∃ n:Nat,i = n:=⟨i.toNat,by omega⟩
 have hn:n < xs.length:=by omega
 exact ⟨xs[n],by rw [zR];simp [hn],getElem_mem hn⟩
variable {ys:List T}
theorem zsD (h:xs.length + ys.length<=sizeLine):yg (.tup xs) (.tup ys) M = .ok (.tup (xs ++ ys)) M:=Qw h
theorem zcZ (h:xs.length + ys.length<=sizeLine):yg (.lst xs) (.lst ys) M = .ok (.lst (xs ++ ys)) M:=Qw h
noncomputable def zlS:T->Option Key
 | .int i=>some (.inl i)
 | .str x=>some (.inr x)
 | _=>none
noncomputable def zgn (t:T) (M:Mem):Option (List (Key × T)):=match t with
 | .ref a=>match M[a]? with
  | some (.dic kvs)=>some kvs
  | _=>none
 | .dct kvs=>some kvs
 | _=>none
noncomputable def zbO (kvs:List (Key × T)) (k:Key):Option T:=(kvs.find? fun kv=>decide (kv.1 = k)).map (·.2)
noncomputable def zjk (kvs:List (Key × T)) (k:Key) (t:T):List (Key × T):=
 if (kvs.any fun kv=>decide (kv.1 = k)) = true then kvs.map (fun kv=>if kv.1 = k then (kv.1,t) else kv) else kvs ++ [(k,t)]
variable {kvs:List (Key × T)} {us:List (Key × V)}
section
variable {K:Frag} {S:Sit}
theorem zg9 {k:Key} (r:Rep K S t v) (e:zlS t = some k):v = kV k:=by
 cases r with
 | int i=>have e':some (Sum.inl i) = some k:=e;cases e';rfl
 | str i=>have e':some (Sum.inr i) = some k:=e;cases e';rfl
 | non=>cases e
 | bl b=>cases e
 | ty b=>cases e
 | tup _ _ _=>cases e
 | lst _ _ _=>cases e
 | ref _=>cases e
 | dct _ _ _=>cases e
 | exc _ _ _ _=>cases e
theorem RepK.nilT (r:RepK K S [] us):us = []:=by
 have:=r.1
 simpa using this.symm
theorem RepK.nil:RepK K S [] []:=⟨rfl,.nil⟩
theorem RepK.consT {p:Key × T} (r:RepK K S (p :: kvs) us):∃ u us',us = (p.1,u) :: us'/\Rep K S p.2 u/\RepK K S kvs us':=by
 cases us with
 | nil=>have:=r.1;simp at this
 | cons q us=>
  obtain ⟨h1,h2⟩:=r
  rw [QF,QF] at h1 h2
  injection h1 with e1 e2
  obtain ⟨v,vs,e3,r1,r2⟩:=h2.consT
  injection e3 with e3 e4
  refine ⟨q.2,us,?_,?_,e2,?_⟩
  ·rw [e1]
  ·rw [e3];exact r1
  ·rw [e4];exact r2
theorem RepK.cons {k:Key} {u:V} (q:Rep K S t u) (r:RepK K S kvs us):RepK K S ((k,t) :: kvs) ((k,u) :: us):=
 ⟨by rw [QF,QF,r.1],by rw [QF,QF];exact r.2.cons q⟩
theorem RepK.look (k:Key):∀ {kvs:List (Key × T)} {us:List (Key × V)},RepK K S kvs us->(zbO kvs k = none/\zag us k = none)\/∃ t v,zbO kvs k = some t/\zag us k = some v/\Rep K S t v
 | [],us,r=>by rw [r.nilT];exact .inl ⟨rfl,rfl⟩
 | p :: kvs,us,r=>by
  obtain ⟨u,us',rfl,r1,r2⟩:=r.consT
  by_cases h:p.1 = k
  ·refine .inr ⟨p.2,u,?_,?_,r1⟩
   ·simp [zbO,find?_cons,h]
   ·simp [zag,find?_cons,h]
  ·have e1:zbO (p :: kvs) k = zbO kvs k:=by simp [zbO,find?_cons,h]
   have e2:zag ((p.1,u) :: us') k = zag us' k:=by simp [zag,find?_cons,h]
   rw [e1,e2]
   exact RepK.look k r2
theorem RepK.any (k:Key):∀ {kvs:List (Key × T)} {us:List (Key × V)},RepK K S kvs us->(kvs.any fun kv=>decide (kv.1 = k)) = us.any fun kv=>decide (kv.1 = k)
 | [],us,r=>by rw [r.nilT];rfl
 | p :: kvs,us,r=>by
  obtain ⟨u,us',rfl,r1,r2⟩:=r.consT
  rw [any_cons,any_cons,RepK.any k r2]
theorem RepK.repl (k:Key) {t:T} {v:V} (q:Rep K S t v):∀ {kvs:List (Key × T)} {us:List (Key × V)},RepK K S kvs us->RepK K S (kvs.map (fun kv=>if kv.1 = k then (kv.1,t) else kv)) (us.map (fun kv=>if kv.1 = k then (kv.1,v) else kv))
 | [],us,r=>by rw [r.nilT];exact .nil
 | p :: kvs,us,r=>by
  obtain ⟨u,us',rfl,r1,r2⟩:=r.consT
  rw [QF,QF]
  by_cases h:p.1 = k
  ·rw [Qw h,Qw h]
   exact (RepK.repl k q r2).cons q
  ·rw [Qy h,Qy h]
   exact (RepK.repl k q r2).cons r1
theorem RepK.snoc (k:Key) {t:T} {v:V} (q:Rep K S t v):∀ {kvs:List (Key × T)} {us:List (Key × V)},RepK K S kvs us->RepK K S (kvs ++ [(k,t)]) (us ++ [(k,v)])
 | [],us,r=>by rw [r.nilT];exact RepK.nil.cons q
 | p :: kvs,us,r=>by
  obtain ⟨u,us',rfl,r1,r2⟩:=r.consT
  exact (RepK.snoc k q r2).cons r1
theorem RepK.put (k:Key) (q:Rep K S t v) (r:RepK K S kvs us):RepK K S (zjk kvs k t) (putK us k v):=by
 unfold zjk putK
 rw [r.any k]
 split
 ·exact r.repl k q
 ·exact r.snoc k q
theorem zf4 (m:MemOk K S) {x:V} (r:Rep K S t x) (e:zgn t S.M = some kvs):∃ p us,x = .ref p/\Rd S.H p (.dK us)/\RepK K S kvs us:=by
 unfold zgn at e
 split at e
 ·split at e
  ·rename_i a _ kvs' q
   cases e
   cases r
   obtain ⟨us,h1,h2⟩:=m.cell _ _ q
   exact ⟨_,us,rfl,.inl h1,h2⟩
  ·cases e
 ·cases e
  cases r with
  | dct h l rr=>
   refine ⟨_,_,rfl,.inr ⟨_,h⟩,l,?_,rr⟩
   have:=congrArg List.length l
   simpa using this
 ·cases e
theorem _root_.L2.DGet.r {a:Addr} {k:Key} (e:Rd H a (.dK us)):DGet H a (kV k) (zag us k):=.inl ⟨us,k,e,rfl,rfl⟩
theorem RepK.isSome (k:Key) (r:RepK K S kvs us):(zag us k).isSome = (zbO kvs k).isSome:=by
 rcases r.look k with ⟨a,b⟩ | ⟨t,v,a,b,_⟩
 ·rw [a,b];rfl
 ·rw [a,b];rfl
end
section
noncomputable def inD:T->T->Mem->Out T:=fun x y M=>match zgn y M with
 | some kvs=>match zlS x with
  | some k=>.ok (.bl (zbO kvs k).isSome) M
  | none=>.bad
 | none=>inA x y M
theorem zsH (hu:X.A.units + 64 < cLine):OpR X (compareOp .In) (lR2 XE X.K inD):=by
 intro pins s σ H x y v u Q I rx ry ⟨S,⟨tx,ty⟩,e,m,⟨r1,r2⟩,fin⟩
 replace fin:Fin XE (Rep X.K) X.K S (inD tx ty S.M) Q:=fin
 unfold inD at fin
 split at fin
 ·subst e
  rename_i kvs q
  split at fin
  ·rename_i k qk
   obtain ⟨p,us,e3,e4,rk⟩:=zf4 m r2 q
   dsimp only at e3
   subst e3
   cases (show u = Value.ref p from ry)
   have ek:=zg9 r1 qk
   dsimp only at ek
   subst ek
   refine zsb (by omega) I (.r e4) rx fun s' I'=>⟨.bl _,S.H,I',rfl,?_⟩
   rw [rk.isSome k]
   exact fin S _ rfl (.refl m) (.bl _)
  ·exact fin.elim
 ·exact zg0 pins s σ H x y v u Q I rx ry ⟨S,⟨tx,ty⟩,e,m,⟨r1,r2⟩,fin⟩
noncomputable def ixD:T->T->Mem->Out T:=fun x y M=>match zgn x M with
 | some kvs=>match zlS y with
  | some k=>zfy (zbO kvs k) M
  | none=>.bad
 | none=>ixT x y M
theorem zdU (hu:X.A.units + 64 < cLine):IxR X (lR2 XE X.K ixD):=by
 intro va sl pins s σ H x y v u Q I rx ry ⟨S,⟨tx,ty⟩,e,m,⟨r1,r2⟩,fin⟩ hs
 replace fin:Fin XE (Rep X.K) X.K S (ixD tx ty S.M) Q:=fin
 unfold ixD at fin
 split at fin
 ·subst e
  rename_i kvs q
  split at fin
  ·rename_i k qk
   obtain ⟨t,et,fin⟩:=ziq fin
   obtain ⟨p,us,e3,e4,rk⟩:=zf4 m r1 q
   dsimp only at e3
   subst e3
   cases (show v = Value.ref p from rx)
   have ek:=zg9 r2 qk
   dsimp only at ek
   subst ek
   rcases rk.look k with ⟨a1,_⟩ | ⟨t',w,a1,b1,rw'⟩
   ·rw [a1] at et;cases et
   ·rw [a1] at et
    cases et
    have hT:=zh0 I (DGet.r (k:=k) e4)
    have h2:wpAny (model X.prog X.w) X.A (getItem (.ref p) u) (EP X pins σ Q) X.xe s:=zkH (by omega) I (b1 ▸ DGet.r e4) ry fun w' s3 I3 rw2=>⟨w,S.H,I3,rw2,fin S w rfl (.refl m) rw'⟩
    unfold subscriptTail
    refine Q1 ?_
    rw [getitemInPython_of_ne hT.not_modules]
    refine Q1 (wpAny_specialOf hT PySem.F.slot_dict_getitem.lookup ?_)
    have f2:wpAny (model X.prog X.w) X.A (subscripted sl false (.ref p) u) (fun r s₃=>wpAny (model X.prog X.w) X.A (letTemporaryGo va (.ref p) r >>= fun _=>pure r) (EP X pins σ Q) X.xe s₃) X.xe s:=by
     rw [hs]
     exact wpAny_operating (Qe h2 (fun r s₃ h₃=>Q1 (wpAny_letTemporaryGo (Qd h₃))) fun _ _ x=>x)
    first
     | exact Qd (Q1 f2)
     | exact Q1 (Qd (Q1 f2))
     | exact Q1 f2
  ·exact fin.elim
 ·exact zk va sl pins s σ H x y v u Q I rx ry ⟨S,⟨tx,ty⟩,e,m,⟨r1,r2⟩,fin⟩ hs
noncomputable def lMt (XE:XK) (K:Frag) (F:T->List T->Mem->Out T):V->List V->Hp->VK->Prop:=fun x xs H Q=>L0 XE (Rep K) K (PrR (Rep K) (Reps K)) (fun a M=>F a.1 a.2 M) (x,xs) H Q
noncomputable def qA (chk:T->Mem->Bool) (F:T->List T->Mem->Out T) (f:Ev->Mem->Out T) (g:Ev->Mem->Out (List T)):Ev->Mem->Out T:=fun σ M=>(f σ M).bind fun x M1=>if chk x M1 = true then (g σ M1).bind fun ts M2=>F x ts M2 else .bad
end
noncomputable def insI (x:Int):List Int->List Int
 | []=>[x]
 | y :: ys=>if x<=y then x :: y :: ys else y :: insI x ys
theorem insI_perm (x:Int):∀ ys,(insI x ys).Perm (x :: ys)
 | []=>.refl _
 | y :: ys=>by
  unfold insI
  split
  ·exact .refl _
  ·exact ((insI_perm x ys).cons y).trans (.swap x y ys)
theorem Reps.ints {K:Frag} {S:Sit}:∀ ns:List Int,Reps K S (ns.map T.int) (ns.map V.int)
 | []=>.nil
 | n :: ns=>(Reps.ints ns).cons (.int n)
noncomputable def tK:Key->T
 | .inl i=>.int i
 | .inr x=>.str x
theorem zoF {K:Frag} {S:Sit} (k:Key):Rep K S (tK k) (kV k):=by
 cases k with
 | inl i=>exact .int i
 | inr x=>exact .str x
theorem Reps.keys {K:Frag} {S:Sit}:∀ ks:List Key,Reps K S (ks.map tK) (ks.map kV)
 | []=>.nil
 | k :: ks=>(Reps.keys ks).cons (zoF k)
section
noncomputable def zfD:T->Mem->Out T:=fun t M=>match t with
 | .bl b=>.ok (.int (if b then 1 else 0)) M
 | _=>.bad
theorem zd0:CallR X (.type "int") (lRN XE X.K (zl zfD)):=zaZ fun pins s σ S t x v Q I rx m r fin=>by
 unfold zfD at fin
 split at fin
 ·cases r
  cases (show v = Value.bool _ from rx)
  exact call_int_bool ⟨.int _,S.H,I.tok _,⟨_,rfl⟩,fin S _ rfl (.refl m) (.int _)⟩
 ·exact fin.elim
end
noncomputable def SubL (m:List (Str × Addr)):List (Str × Addr)->Prop
 | []=>True
 | c :: l=>m.lookup c.1 = some c.2/\SubL m l
theorem zg6:∀ {l m:List (Str × Addr)},SubL m l->∀ x a,l.lookup x = some a->m.lookup x = some a
 | [],_,_,_,_,h=>by cases h
 | (y,b) :: l,m,g,x,a,h=>by
  rw [lookup_cons] at h
  split at h
  ·rename_i e
   cases h
   rw [eq_of_beq e]
   exact g.1
  ·exact zg6 g.2 x a h
noncomputable def zkI (kvs prs:List (Key × T)):List (Key × T):=prs.foldl (fun acc kv=>zjk acc kv.1 kv.2) kvs
theorem RepK.merge {K:Frag} {S:Sit}:∀ {prs:List (Key × T)} {us:List (Key × V)} {kvs:List (Key × T)} {ws:List (Key × V)},RepK K S prs us->RepK K S kvs ws->RepK K S (zkI kvs prs) (zj8 ws us)
 | [],us,kvs,ws,r,q=>by rw [r.nilT];exact q
 | p :: prs,us,kvs,ws,r,q=>by
  obtain ⟨u,us',rfl,r1,r2⟩:=r.consT
  show RepK K S (zkI (zjk kvs p.1 p.2) prs) (zj8 (putK ws p.1 u) us')
  exact RepK.merge r2 (q.put p.1 r1)
noncomputable def forR (bd:T->Ev->Mem->Out Ev) (body:Ev->Mem->Out Fl) (a:Nat):Nat->Nat->Ev->Mem->Out Fl
 | 0,i,σ,M=>match M[a]? with
  | some (.lst xs)=>if xs.length<=i then .ok (.nx σ) M else .bad
  | _=>.bad
 | n + 1,i,σ,M=>match M[a]? with
  | some (.lst xs)=>match xs[i]? with
   | some x=>(bd x σ M).bind fun σ1 M1=>(body σ1 M1).bind (yU (forR bd body a n (i + 1)))
   | none=>.ok (.nx σ) M
  | _=>.bad
noncomputable def zsS (bd:T->Ev->Mem->Out Ev) (body:Ev->Mem->Out Fl) (t:T) (σ:Ev) (M:Mem):Out Fl:=match t with
 | .ref a=>match M[a]? with
  | some (.lst xs)=>forR bd body a xs.length 0 σ M
  | _=>.bad
 | _=>.bad
theorem zmf {bd:T->Ev->Mem->Out Ev} {body:Ev->Mem->Out Fl} {a:Nat} {xs:List T} (P:Nat->Ev->Mem->Prop) (hP:∀ k σ M,P k σ M->M[a]? = some (.lst xs))
  (t:∀ k x σ M,xs[k]? = some x->P k σ M->∃ σ' M',((bd x σ M).bind fun σ1 M1=>body σ1 M1) = .ok (.nx σ') M'/\P (k + 1) σ' M'):∀ n i,i + n = xs.length->∀ σ M,P i σ M->∃ σ' M',forR bd body a n i σ M = .ok (.nx σ') M'/\P xs.length σ' M'
 | 0,i,hi,σ,M,h=>by
  have hM:=hP i σ M h
  refine ⟨σ,M,?_,by rw [← hi];exact h⟩
  unfold forR
  rw [hM]
  exact Qw (by omega)
 | n + 1,i,hi,σ,M,h=>by
  have hM:=hP i σ M h
  have hx:xs[i]? = some xs[i]:=by simp [show i < xs.length by omega]
  obtain ⟨σ1,M1,e1,h1⟩:=t i _ σ M hx h
  obtain ⟨σ2,M2,e2,h2⟩:=zmf P hP t n (i + 1) (by omega) σ1 M1 h1
  refine ⟨σ2,M2,?_,h2⟩
  unfold forR
  rw [hM]
  simp only [hx]
  cases q:bd xs[i] σ M with
  | bad=>rw [q] at e1;cases e1
  | exn C fs M'=>rw [q] at e1;cases e1
  | ok σ3 M3=>
   rw [q] at e1
   replace e1:body σ3 M3 = .ok (.nx σ1) M1:=e1
   show (body σ3 M3).bind (yU (forR bd body a n (i + 1))) = _
   rw [e1]
   exact e2
noncomputable def zcr (t:T) (M:Mem):Bool:=(zv t M).isSome
theorem zjD {K:Frag} {S:Sit} (m:MemOk K S) {t:T} {x:V} (r:Rep K S t x) (h:zcr t S.M = true):tyV K "list" x S.H:=by
 unfold zcr at h
 cases q:zv t S.M with
 | none=>rw [q] at h;cases h
 | some xs=>
  obtain ⟨p,vs,rfl,hq,_⟩:=qw m r q
  exact .inl ⟨rfl,vs,hq⟩
end FT
namespace L2
open PySem PySem.Spec PySem.W PyProof.Rows
theorem KV.get_val {κ:Type}:∀ {kvs:List (κ × V)} {vs:List (κ × Value)} {i:Nat} {k:κ} {v:Value},KV kvs vs->vs[i]? = some (k,v)->∃ u,(kvs.map (·.2))[i]? = some u/\RelV u v
 | _,_,_,_,_,.nil,e=>by simp at e
 | _,_,0,_,_,.cons r _,e=>by simp at e;subst e;exact ⟨_,rfl,r.2⟩
 | _,_,i + 1,k,v,.cons _ t,e=>by
  obtain ⟨u,h1,h2⟩:=KV.get_val (i:=i) (k:=k) (v:=v) t (by simpa using e)
  exact ⟨u,by simpa using h1,h2⟩
variable {q t:Addr} {A:Around} {items:Array Value} {i:Nat} {prog:Program} {s:Shared} {E Q:Value->Shared->Prop} {w:World}
section
theorem zgv {x:Value} (hit:s.heap.IsTupleIter q t i) (ht:s.heap.IsTuple t items) (hx:items[i]? = some x)
 (hQ:∀ k,k.IsTupleIter q t (i + 1)->Heap.SameBut q s.heap k->Q x { s with heap:=k }):wpAny (model prog w) A (Builtin.SmallTypes.nextOf (.ref q)) Q E s:=by
 obtain ⟨o,ho,cc,dd⟩:=id hit
 obtain ⟨o2,ho2,_,n2,dd2⟩:=ht
 unfold Builtin.SmallTypes.nextOf
 refine Q1 (wpAny_callSpecial?_slot (name:=Str.ofString "__next__") hit.typeIs PySem.F.slot_tuple_iterator_next (wpAny_call_entry PySem.F.slot_tuple_iterator_next hit.typeIs PySem.F.entry_tuple_iterator_next ?_ (PySem.F.args_tuple_iterator_next_1 _)))
 refine (show wpAny _ _ (field (.ref q) 0 >>= _) _ _ s from Q1 (wpAny_field ho dd (x:=.ref t) rfl ?_))
 refine (show wpAny _ _ (if (Value.ref t == Value.none) = true then _ else _) _ _ s from ?_)
 rw [Qy (show ¬ (Value.ref t == Value.none) = true from Q4)]
 refine (show wpAny _ _ (field (.ref q) 1 >>= _) _ _ s from Q1 (wpAny_field ho dd (x:=.int i 0) rfl ?_))
 refine (show wpAny _ _ (seqItems? (.ref t) >>= _) _ _ s from Q1 (wpAny_seqItems ho2 dd2 ?_))
 simp only [hx,Int.toNat_natCast]
 refine Q1 (wpAny_setField ho dd (by simp) (Qd ⟨_,rfl,Qd (hQ _ ⟨_,Heap.get?_update_self _ ho (Obj.isFreed_of_fields (Obj.data_mapFields dd _)),(Obj.cls_mapFields ..).trans cc,?_⟩ (Heap.SameBut.update ..))⟩))
 rw [Obj.data_mapFields dd]
 simp [rawInt]
theorem zen (hh:A.handled = none) (hit:s.heap.IsTupleIter q t i) (ht:s.heap.IsTuple t items) (hx:items[i]? = none)
 (hE:∀ k e,Heap.ExtBut q s.heap k->(∃ o,k.get? e = some o/\o.cls = .type "StopIteration")->E (.ref e) { s with heap:=k }):wpAny (model prog w) A (Builtin.SmallTypes.nextOf (.ref q)) Q E s:=by
 obtain ⟨o,ho,cc,dd⟩:=id hit
 obtain ⟨o2,ho2,_,n2,dd2⟩:=ht
 unfold Builtin.SmallTypes.nextOf
 refine Q1 (wpAny_callSpecial?_slot (name:=Str.ofString "__next__") hit.typeIs PySem.F.slot_tuple_iterator_next (wpAny_call_entry PySem.F.slot_tuple_iterator_next hit.typeIs PySem.F.entry_tuple_iterator_next ?_ (PySem.F.args_tuple_iterator_next_1 _)))
 refine (show wpAny _ _ (field (.ref q) 0 >>= _) _ _ s from Q1 (wpAny_field ho dd (x:=.ref t) rfl ?_))
 refine (show wpAny _ _ (if (Value.ref t == Value.none) = true then _ else _) _ _ s from ?_)
 rw [Qy (show ¬ (Value.ref t == Value.none) = true from Q4)]
 refine (show wpAny _ _ (field (.ref q) 1 >>= _) _ _ s from Q1 (wpAny_field ho dd (x:=.int i 0) rfl ?_))
 refine (show wpAny _ _ (seqItems? (.ref t) >>= _) _ _ s from Q1 (wpAny_seqItems ho2 dd2 ?_))
 simp only [hx,Int.toNat_natCast]
 refine Q1 (wpAny_rule (Q1 (wpAny_setField ho dd (by simp) ?_)))
 refine (show wpAny _ _ (newExc (.type "StopIteration") [] >>= _) _ _ _ from Q1 ?_)
 simp only [newTuple,newExc]
 refine Q1 (Qr (Q1 (m:=firstArgMember _ _) (wpAny_of_eq (a:=Value.none) (by first | rfl | (simp only [firstArgMember];rfl)) (Qr ?_ (by size_fits)))) (by size_fits))
 simp only [raiseNew]
 refine Q1 (wpAny_handled ?_)
 first | rw [show A.in1.handled = none from hh] | rw [hh]
 exact Q1 (Qd (wpAny_throw (hE _ _ (((Heap.SameBut.update ..).extBut.push _).push _) ⟨_,Qj _ rfl,rfl⟩)))
theorem zhY (hh:A.handled = none) (q t:Addr) (hne:t ≠ q) (items:Array Value):Draws prog w A q [q,t] items.size (fun i v=>items[i]? = some v) (fun i h=>h.IsTupleIter q t i/\h.IsTuple t items) where
 live:=fun _ _ st=>let ⟨o,ho,_⟩:=st.1;⟨o,ho⟩
 frame:=fun _ _ _ st hk=>⟨st.1.at fun o e=>hk q (by simp) o e,let ⟨o,ho,r⟩:=st.2;⟨o,hk t (by simp) o ho,r⟩⟩
 item:=fun i s Q E hi st hQ=>zgv st.1 st.2 (x:=items[i]) (by simp [hi]) fun k a b=>hQ _ k s.toks (by simp [hi]) ⟨a,let ⟨o,ho,r⟩:=st.2;⟨o,(b.2 t hne).trans ho,r⟩⟩ b
 done:=fun s Q E st hE=>zen hh st.1 st.2 (by simp) hE
end
noncomputable abbrev zgf (l:Addr):Obj:={ cls:=.type "tuple_iterator",data:=.fields #[.ref l,.int 0 0] }
noncomputable abbrev zmJ (q:Addr):Obj:={ cls:=.type "enumerate",data:=.fields #[.none,.bool false,.ref q,rawInt 0,.none,.none] }
theorem zhU (l:Addr) (items:Array Value):Meets (Builtin.«enumerate.__new__» ⟨[.type "enumerate",.ref l],[]⟩) (fun _ R s=>s.heap.IsTuple l items/\R (.ok (.ret (.ref (s.heap.push (zgf l)).objs.size))) { s with heap:=(s.heap.push (zgf l)).push (zmJ s.heap.objs.size) }):=
 .of_wp fun prog w A R s h=>by
  obtain ⟨hp,g,d,tk,os⟩:=s
  obtain ⟨ht,h⟩:=h
  have se:=sub_enumerate
  obtain ⟨⟨cl,di,da,sl⟩,ho,hc,n,hd⟩:=id ht
  simp only at hc hd
  subst hc hd
  wp_walk using AutoSeq1.wpAny_loadPart' ho
  refine wpAny_stack_any fun st=>Qd ?_
  split
  ·rename_i c _ _ _ _ _
   cases (c == Value.type "enumerate") <;> (wp_walk using AutoSeq1.wpAny_loadPart' ho,wpAny_pyIter_tuple ht;exact ⟨_,rfl,h⟩)
  ·wp_walk using AutoSeq1.wpAny_loadPart' ho,wpAny_pyIter_tuple ht
   exact ⟨_,rfl,h⟩
section
theorem zjs {l:Addr} (hl:s.heap.IsTuple l items)
 (h:∀ k,IsEnum k (s.heap.objs.size + 1) s.heap.objs.size 0 .none->k.IsTupleIter s.heap.objs.size l 0->k.objs.size = s.heap.objs.size + 2->(∀ b o,s.heap.get? b = some o->k.get? b = some o)->Q (.ref (s.heap.objs.size + 1)) { s with heap:=k }) :
  wpAny (model prog w) A (call (.type "enumerate") [.ref l]) Q E s:=by
 have hz:(s.heap.push (zgf l)).objs.size = s.heap.objs.size + 1:=Heap.size_push ..
 have he:IsEnum ((s.heap.push (zgf l)).push (zmJ s.heap.objs.size)) (s.heap.objs.size + 1) s.heap.objs.size 0 .none:=by
  rw [← hz];exact Qj _ rfl
 refine callType_new PySem.F.called_enumerate (by decide) (PySem.F.typeCall_enumerate_1 _) (PySem.F.newCall_enumerate_1 _) (fun obj=>PySem.F.args_object_init_2 obj _) PySem.F.entry_enumerate_new (zhU l items) ⟨hl,?_⟩
 show _/\_
 rw [hz]
 exact ⟨⟨_,he,rfl⟩,h _ he ⟨_,Q2 _ (Qj _ rfl),rfl,rfl⟩ (by rw [Heap.size_push,hz]) fun b o e=>Q2 _ (Q2 _ e)⟩
end
variable {X:Cx}
section
variable {pins:List (Addr × Obj)} {σ:St} {H:Hp} {h':Heap}
theorem Inv.turned2 {t':Nat} {e it:Addr} (I:Inv X pins σ H s) (k:∀ b o,b ≠ e->b ≠ it->s.heap.get? b = some o->h'.get? b = some o) (fe:zcI X pins H e) (fi:zcI X pins H it):Inv X pins σ H { s with heap:=h',toks:=t' }:=by
 have ne:∀ b u,H b = some u->b ≠ e:=fun b u q z=>by rw [z,fe.1] at q;cases q
 have ni:∀ b u,H b = some u->b ≠ it:=fun b u q z=>by rw [z,fi.1] at q;cases q
 have kk:∀ b o,b ∉ [e,it]->s.heap.get? b = some o->h'.get? b = some o:=fun b o hc q=>k b o (fun z=>hc (by simp [z])) (fun z=>hc (by simp [z])) q
 refine I.step (g':=s.gens) (d':=s.drawn) (ch:=[e,it]) (fun b hb=>?_) (fun b o _ _ hc q _=>kk b o hc q) (fun b o _ _ hc q _=>⟨o.slots,kk b o hc q⟩) (fun _ _ _ _ n=>n)
  (fun b o hc q=>⟨o,kk b o hc q⟩) (fun _ _ q=>q) (fun _ _ _ q=>q) (fun b ps q=>⟨#[],by rw [q];simp⟩) (fun m hm=>?_) (fun b u q=>?_) I.bare
 ·rcases QA.mp hb with z | z
  ·subst z;exact ⟨fe.2.2.2.1,fe.2.1,fe.2.2.2.2.1,fe.2.2.2.2.2⟩
  ·have z:=Qz.mp z
   subst z;exact ⟨fi.2.2.2.1,fi.2.1,fi.2.2.2.2.1,fi.2.2.2.2.2⟩
 ·obtain ⟨o,es,ep,ho,r⟩:=hm
  exact ⟨o,es,ep,k _ o (Ne.symm fe.2.1) (Ne.symm fi.2.1) ho,r⟩
 ·refine (I.hok b u q).stay (fun c v hc z=>k c v ?_ ?_ z) (fun _ z=>z) fun _ _ z=>z
  ·rcases hc with z | z
   ·rw [z];exact ne b u q
   ·exact ne c _ z
  ·rcases hc with z | z
   ·rw [z];exact ni b u q
   ·exact ni c _ z
end
noncomputable def Ite (K:Frag) (a:Addr):It:=
 ⟨fun i H=>∃ xs x,SqT K H a xs/\xs[i]? = some x,fun i H y H'=>∃ p x,H p = none/\y = .ref p/\H' = upd H p (.tup [.int (i:Int),x])/\∀ xs,SqT K H a xs->xs[i]? = some x,fun i H=>∃ xs,SqT K H a xs/\xs.length<=i⟩
variable {elts:List Expr} {pos:Pos}
theorem ziR {P:Program} {K:Frag} {x1} (a e it:Addr) (hne:e ≠ it) (hae:a ≠ e) (hai:a ≠ it) :
  Turn P w K (.Tuple elts x1 pos) (Ite K a) [e,it] e (fun i h=>(∃ old,IsEnum h e it i old)/\h.IsTupleIter it a i) where
 mem:=by simp
 obj:=fun i h st b hb=>by
  rcases QA.mp hb with z | z
  ·subst z
   obtain ⟨old,q⟩:=st.1
   exact ⟨_,q,fun v z=>by cases z⟩
  ·have z:=Qz.mp z
   subst z
   obtain ⟨o,q,c,d⟩:=st.2
   exact ⟨o,q,fun v z=>by rw [d] at z;cases z⟩
 keep:=fun i h k st kk=>⟨let ⟨old,q⟩:=st.1;⟨old,kk e (by simp) _ q⟩,st.2.at fun o q=>kk it (by simp) o q⟩
 item:=by
  intro X hP hw hK hc i pins s σ H E I hf st hg
  subst hP hw hK
  obtain ⟨xs,x,hq,hx⟩:=hg
  obtain ⟨its,rv,p,hz⟩:=I.tuple hq
  obtain ⟨u,hu,ru⟩:=rv.get hx
  obtain ⟨⟨old,he⟩,hi⟩:=st
  have hl:i < its.toArray.size:=by simpa using (Qx.mp hu).1
  have D:=zhY (prog:=X.prog) (w:=X.w) (A:=X.A.in1) (by exact I.ok.hd hc) it a hai its.toArray
  refine wpAny_pyNext_enum_itemD D he ⟨hi,show s.heap.IsTuple a its.toArray from p⟩ hl hne (by simp [hne,Ne.symm hae]) fun y k tk hy out st' htup hsz hk=>?_
  have hy':y = u:=by
   have:its[i]? = some y:=by simpa using hy
   rw [hu] at this
   exact (Qb this).symm
  subst hy'
  refine ⟨.ref s.heap.objs.size,rfl,wpAny_letOwnedTupleGo_enum (s:={ s with heap:=k,toks:=tk + 1 }) out fun k2 en2 sb=>?_⟩
  have fe:=hf e (by simp)
  have fi:=hf it (by simp)
  have eS:e ≠ s.heap.objs.size:=Qi (Qc he)
  have iS:it ≠ s.heap.objs.size:=by
   obtain ⟨o,q,_⟩:=hi
   exact Qi (Qc q)
  have IA:=I.laid (h':=s.heap.push { cls:=.type "tuple",data:=.seq #[.int i tk,y] }) (t':=tk + 1) (a:=s.heap.objs.size) (o:=.tup [.int (i:Int),x]) (fun b o q=>Q2 _ q) (Q3 _) (show ObjOk X.prog X.w _ _ _ (.tup [.int (i:Int),x]) from ⟨by show 2<=sizeLine;rw [sizeLine_eq];omega,[.int i tk,y],.cons ⟨tk,rfl⟩ (.cons ru .nil),by have:=IsTup.new s.heap #[.int i tk,y];simpa using this,NoDict.new⟩)
  have up:∀ b,b ≠ s.heap.objs.size->(upd H s.heap.objs.size (.tup [.int (i:Int),x])) b = H b:=fun b hb=>Qy hb
  have IB:=IA.turned2 (t':=tk + 1) (h':=k2) (e:=e) (it:=it) (fun b o hbe hbi q=>by
   rcases Heap.get?_push_cases q with ⟨z1,z2⟩ | q
   ·subst z1;subst z2
    exact (sb.2 _ (Ne.symm eS)).trans htup
   ·exact (sb.2 b hbe).trans (hk b o hbe hbi q)) ⟨by rw [up e eS];exact fe.1,fe.2⟩ ⟨by rw [up it iS];exact fi.1,fi.2⟩
  refine ⟨.ref s.heap.objs.size,_,IB,rfl,⟨s.heap.objs.size,x,I.hok.fresh (Q3 _),rfl,rfl,fun ys hys=>by rw [I.tuple_inj hys hq];exact hx⟩,⟨⟨_,by push_cast at en2 ⊢;exact en2⟩,?_⟩,fun b hb=>?_⟩
  ·obtain ⟨o,q,r⟩:=st'.1
   exact ⟨o,(sb.2 it (Ne.symm hne)).trans q,r⟩
  ·rcases QA.mp hb with z | z
   ·subst z;rw [up _ eS];exact fe.1
   ·have z:=Qz.mp z
    subst z;rw [up _ iS];exact fi.1
 done:=by
  intro X hP hw hK hc i pins s σ H E I hf st hg
  subst hP hw hK
  obtain ⟨xs,hq,hx⟩:=hg
  obtain ⟨its,rv,p,hz⟩:=I.tuple hq
  obtain ⟨⟨old,he⟩,hi⟩:=st
  obtain ⟨f0,f1,f2,f3,f4,f5⟩:=hf it (by simp)
  have hl:=rv.length
  have D:Draws X.prog X.w X.A.in1 it [it,a] i (fun _ _=>True) (fun j h=>j = i/\h.IsTupleIter it a i/\h.IsTuple a its.toArray):={
   live:=fun _ _ st=>let ⟨o,ho,_⟩:=st.2.1;⟨o,ho⟩
   frame:=fun _ _ _ st hk=>⟨st.1,st.2.1.at fun o q=>hk it (by simp) o q,let ⟨o,ho,r⟩:=st.2.2;⟨o,hk a (by simp) o ho,r⟩⟩
   item:=fun j s Q E hj st hQ=>absurd st.1 (Qi hj)
   done:=fun s Q E st hE=>zen (by exact I.ok.hd hc) st.2.1 st.2.2 (by simp;omega) hE }
  exact wpAny_pyNext_enum_endD D he ⟨rfl,hi,show s.heap.IsTuple a its.toArray from p⟩ fun k eb=>⟨rfl,I.turned (t':=s.toks) (fun b o hb q=>eb b o hb q) f0 f1 f3 f4 f5⟩
 self:=fun _ _ _ _ _ st h=>let ⟨_,q⟩:=st.1;wpAny_pyIter_enum q h
section
noncomputable def zr6 (K:Frag) (tl:TE):TI:=fun σ H R=>tl σ H fun x H1=>∃ a,x = .ref a/\(∃ xs,SqT K H1 a xs)/\R (Ite K a) H1
theorem zly {l:Expr} {tl:TE} {x1} {tp p:Pos} (hg:Gl X "enumerate") (hm:X.mg "enumerate" = none) (hl:PE X l tl) (hs:starEach [l] X.env = [(false,eval l X.env)]:=by rfl) :
  PI X (.Tuple elts x1 tp) (.Call (.Name "enumerate" p) [l] [] pos) (zr6 X.K tl):=by
 intro pins s σ H R I h
 refine Call_ (zcS I hg hm (show bootBuiltins "enumerate" = some (.type "enumerate") by decide +kernel) (PyProof.Rows.callWith_type1 ?_ hs rfl))
 rw [hs]
 refine Calls.spliced_cons (thn (hl pins s σ H _ I h) fun v s1 ⟨x,H1,I1,r1,q1⟩=>Calls.spliced_nil ?_)
 obtain ⟨a,e,⟨xs,hq⟩,q⟩:=q1
 subst e
 cases r1
 obtain ⟨its,rv,pt,hz⟩:=I1.tuple hq
 have ha:a < s1.heap.objs.size:=by
  obtain ⟨o,ho,_⟩:=pt
  exact Qc ho
 refine zjs (show s1.heap.IsTuple a its.toArray from pt) fun k en ti hsz hk=>?_
 refine wpAny_pyIter_enum en ?_
 refine ⟨s1.heap.objs.size + 1,[s1.heap.objs.size + 1,s1.heap.objs.size],_,_,H1,rfl,I1.kept (t':=s1.toks) hk,ziR a _ _ (Nat.ne_of_gt (Nat.lt_succ_self _)) (Qi (Nat.lt_succ_of_lt ha)) (Qi ha),⟨⟨_,en⟩,ti⟩,fun b hb=>?_,q⟩
 rcases QA.mp hb with z | z
 ·subst z;exact I1.fpOk (Nat.le_succ _) (I1.hok.fresh (Nat.le_succ _))
 ·have z:=Qz.mp z
  subst z;exact I1.fpOk (Q3 _) (I1.hok.fresh (Q3 _))
end
end L2
namespace FT
open PySem PySem.Spec PyProof.Rows L2
noncomputable def enT (ts:List T):List T:=ts.mapIdx fun i t=>.tup [.int (i:Int),t]
noncomputable def zgk (f:Ev->Mem->Out T):Ev->Mem->Out (List T):=fun σ M=>(f σ M).bind fun t M1=>match t with
 | .tup ts=>.ok (enT ts) M1
 | _=>.bad
section
variable {X:Cx} {XE:XK}
end
end FT
namespace L2
open PySem PySem.Spec PySem.W PyProof.Rows
variable {X:Cx}
section
variable {pins:List (Addr × Obj)} {σ:St} {H:Hp} {s:Shared} {l:Addr} {us:List (Key × V)}
theorem Inv.freeze (I:Inv X pins σ H s) (e:H l = some (.dK us)):∃ ob,Inv X pins σ (upd H l (.frz ob (.dK us))) s:=by
 obtain ⟨z,hs,vs,rel,o,es,ep,ho,r⟩:=(show ObjOk X.prog X.w H s.heap l (.dK us) from I.hok l _ e)
 exact ⟨o,I.write (x:=l) (e:=l) (o:=.frz o (.dK us)) (h':=s.heap) (t':=s.toks) (by rw [e];trivial) (.inl rfl) (fun b u _ q=>q) ⟨o,ho⟩ ⟨ho,z,hs,vs,rel,o,es,ep,ho,r⟩⟩
end
noncomputable def zsa (Q:VK):VK:=fun v H'=>∃ l us,v = .ref l/\H' l = some (.dK us)/\∀ ob,Q v (upd H' l (.frz ob (.dK us)))
theorem CallR.frz {f:Value} {r:List V->Hp->VK->Prop} (h:CallR X f r):CallR X f (fun xs H Q=>r xs H (zsa Q)):=by
 intro pins s σ H xs us Q I rv hr
 refine Qe (h pins s σ H xs us _ I rv hr) (fun v s' ⟨x,H',I',r',l,us',ex,e,q⟩=>?_) fun _ _ z=>z
 obtain ⟨ob,I2⟩:=I'.freeze e
 exact ⟨x,_,I2,r',q ob⟩
end L2
namespace FT
open PySem PySem.Spec PyProof.Rows L2
noncomputable def zlt (f:Str) (v:T):List (Str × T)->List (Str × T)
 | []=>[(f,v)]
 | (g,x) :: r=>if g = f then (g,v) :: r else (g,x) :: zlt f v r
variable {us:List (Str × V)}
section
variable {K:Frag} {S:Sit}
theorem RepF.nil:RepF K S [] []:=⟨rfl,.nil⟩
theorem RepF.nilT (r:RepF K S [] us):us = []:=by
 have:=r.1
 simpa using this.symm
theorem RepF.consT {p:Str × T} {fs:List (Str × T)} (r:RepF K S (p :: fs) us):∃ u us',us = (p.1,u) :: us'/\Rep K S p.2 u/\RepF K S fs us':=by
 cases us with
 | nil=>have:=r.1;simp at this
 | cons q us'=>
  have h1:=r.1
  simp only [QF,List.cons.injEq] at h1
  obtain ⟨v,vs,e,r1,r2⟩:=(show Reps K S (p.2 :: fs.map (·.2)) (q.2 :: us'.map (·.2)) from r.2).consT
  cases e
  exact ⟨q.2,us',by rw [h1.1],r1,h1.2,r2⟩
theorem RepF.cons {g:Str} {t:T} {u:V} {fs:List (Str × T)} (q:Rep K S t u) (r:RepF K S fs us):RepF K S ((g,t) :: fs) ((g,u) :: us):=⟨by simp [r.1],r.2.cons q⟩
theorem RepF.look (f:Str):∀ {fs:List (Str × T)} {us:List (Str × V)},RepF K S fs us->∀ {t:T},fs.lookup f = some t->∃ v,us.lookup f = some v/\Rep K S t v
 | [],us,r,t,e=>by cases e
 | (g,x) :: fs,us,r,t,e=>by
  obtain ⟨u,us',rfl,r1,r2⟩:=r.consT
  rw [lookup_cons] at e ⊢
  cases h:f == g with
  | true=>rw [h] at e;cases e;exact ⟨u,rfl,r1⟩
  | false=>rw [h] at e;exact RepF.look f r2 e
theorem RepF.put (f:Str) {t:T} {v:V} (q:Rep K S t v):∀ {fs:List (Str × T)} {us:List (Str × V)},RepF K S fs us->RepF K S (zlt f t fs) (zlu f v us)
 | [],us,r=>by rw [r.nilT];exact RepF.cons q .nil
 | (g,x) :: fs,us,r=>by
  obtain ⟨u,us',rfl,r1,r2⟩:=r.consT
  unfold zlt zlu
  by_cases h:g = f
  ·rw [Qw h,Qw h];exact RepF.cons q r2
  ·rw [Qy h,Qy h];exact RepF.cons r1 (RepF.put f q r2)
end
noncomputable def zs7 (Cs:List Addr) (f:Str) (x:T) (M:Mem):Out T:=match x with
 | .ref a=>match M[a]? with
  | some (.ins C fs)=>if C ∈ Cs then zfy (fs.lookup f) M else .bad
  | _=>.bad
 | _=>.bad
structure MakT (P:Program) (w:World) (K:Frag) (mg:Str->Option Value) (base:Heap) (k:Nat) (x:Str) (C:Addr) (ps:List Str) (f:List T->Mem->Out T):Prop where
 ex:∃ (fI:Addr) (fd:FuncData),Mk K C fI/\FnOk P w K mg base CX0 k fI fd ps (spT K f)/\Binds K fd ps []/\mg x = some (.ref C)
 nox:∀ ts M C fs M',f ts M ≠ .exn C fs M'
structure Di (K:Frag) (mg:Str->Option Value) (x qual:Str) (C:Addr) (st:Stmt) (ps:List Str):Prop where
 ex:∃ (fI:Addr) (fd:FuncData),Mk K C fI/\Fun K "__init__" qual st fI fd/\Binds K fd ps []/\mg x = some (.ref C)
noncomputable def zfK (K:Frag) (x:Str):Addr:=match PySem.W.nsIn K mainGlobals x with
 | some (some (.ref a))=>a
 | _=>0
theorem zof {K:Frag} {x:Str} {C:Addr} (a:PySem.W.nsIn K mainGlobals x = some (some (.ref C))):zfK K x = C:=by
 unfold zfK
 rw [a]
end FT
namespace L2
open PySem PySem.Spec PySem.W PyProof.Rows
variable {A:Around} {prog:Program} {s:Shared} {E:Value->Shared->Prop} {w:World}
section
theorem zhZ (hh:A.handled = none) (q t:Addr) (hne:t ≠ q) (items:Array Value):Draws prog w A q [q,t] items.size (fun i v=>items[i]? = some v) (fun i h=>h.IsListIter q t i/\h.IsList t items) where
 live:=fun _ _ st=>let ⟨o,ho,_⟩:=st.1;⟨o,ho⟩
 frame:=fun _ _ _ st hk=>⟨st.1.at fun o e=>hk q (by simp) o e,let ⟨o,ho,r⟩:=st.2;⟨o,hk t (by simp) o ho,r⟩⟩
 item:=fun i s Q E hi st hQ=>wpAny_nextOf_list_item st.1 st.2 (x:=items[i]) (by simp [hi]) fun k a b=>hQ _ k s.toks (by simp [hi]) ⟨a,let ⟨o,ho,r⟩:=st.2;⟨o,(b.2 t hne).trans ho,r⟩⟩ b
 done:=fun s Q E st hE=>wpAny_nextOf_list_end hh st.1 st.2 (by simp) hE
end
section
theorem zjt {l:Addr} {items:Array Value} {Q:Value->Shared->Prop} (hl:s.heap.IsList l items)
  (h:∀ k,IsEnum k (s.heap.objs.size + 1) s.heap.objs.size 0 .none->k.IsListIter s.heap.objs.size l 0->k.objs.size = s.heap.objs.size + 2->(∀ b o,s.heap.get? b = some o->k.get? b = some o)->Q (.ref (s.heap.objs.size + 1)) { s with heap:=k }) :
  wpAny (model prog w) A (call (.type "enumerate") [.ref l]) Q E s:=call_enumerate_list hl h
end
noncomputable def ItL (K:Frag) (a:Addr):It:=
 ⟨fun i H=>∃ xs x,SqL K H a xs/\xs[i]? = some x,fun i H y H'=>∃ p x,H p = none/\y = .ref p/\H' = upd H p (.tup [.int (i:Int),x])/\∀ xs,SqL K H a xs->xs[i]? = some x,fun i H=>∃ xs,SqL K H a xs/\xs.length<=i⟩
variable {elts:List Expr} {pos:Pos}
theorem ziS {P:Program} {K:Frag} {x1} (a e it:Addr) (hne:e ≠ it) (hae:a ≠ e) (hai:a ≠ it) :
  Turn P w K (.Tuple elts x1 pos) (ItL K a) [e,it] e (fun i h=>(∃ old,IsEnum h e it i old)/\h.IsListIter it a i) where
 mem:=by simp
 obj:=fun i h st b hb=>by
  rcases QA.mp hb with z | z
  ·subst z
   obtain ⟨old,q⟩:=st.1
   exact ⟨_,q,fun v z=>by cases z⟩
  ·have z:=Qz.mp z
   subst z
   obtain ⟨o,q,c,d⟩:=st.2
   exact ⟨o,q,fun v z=>by rw [d] at z;cases z⟩
 keep:=fun i h k st kk=>⟨let ⟨old,q⟩:=st.1;⟨old,kk e (by simp) _ q⟩,st.2.at fun o q=>kk it (by simp) o q⟩
 item:=by
  intro X hP hw hK hc i pins s σ H E I hf st hg
  subst hP hw hK
  obtain ⟨xs,x,hq,hx⟩:=hg
  obtain ⟨its,rv,p,hz⟩:=I.list hq
  obtain ⟨u,hu,ru⟩:=rv.get hx
  obtain ⟨⟨old,he⟩,hi⟩:=st
  have hl:i < its.toArray.size:=by simpa using (Qx.mp hu).1
  have D:=zhZ (prog:=X.prog) (w:=X.w) (A:=X.A.in1) (by exact I.ok.hd hc) it a hai its.toArray
  refine wpAny_pyNext_enum_itemD D he ⟨hi,p.isList⟩ hl hne (by simp [hne,Ne.symm hae]) fun y k tk hy out st' htup hsz hk=>?_
  have hy':y = u:=by
   have:its[i]? = some y:=by simpa using hy
   rw [hu] at this
   exact (Qb this).symm
  subst hy'
  refine ⟨.ref s.heap.objs.size,rfl,wpAny_letOwnedTupleGo_enum (s:={ s with heap:=k,toks:=tk + 1 }) out fun k2 en2 sb=>?_⟩
  have fe:=hf e (by simp)
  have fi:=hf it (by simp)
  have eS:e ≠ s.heap.objs.size:=Qi (Qc he)
  have iS:it ≠ s.heap.objs.size:=by
   obtain ⟨o,q,_⟩:=hi
   exact Qi (Qc q)
  have IA:=I.laid (h':=s.heap.push { cls:=.type "tuple",data:=.seq #[.int i tk,y] }) (t':=tk + 1) (a:=s.heap.objs.size) (o:=.tup [.int (i:Int),x]) (fun b o q=>Q2 _ q) (Q3 _) (show ObjOk X.prog X.w _ _ _ (.tup [.int (i:Int),x]) from ⟨by show 2<=sizeLine;rw [sizeLine_eq];omega,[.int i tk,y],.cons ⟨tk,rfl⟩ (.cons ru .nil),by have:=IsTup.new s.heap #[.int i tk,y];simpa using this,NoDict.new⟩)
  have up:∀ b,b ≠ s.heap.objs.size->(upd H s.heap.objs.size (.tup [.int (i:Int),x])) b = H b:=fun b hb=>Qy hb
  have IB:=IA.turned2 (t':=tk + 1) (h':=k2) (e:=e) (it:=it) (fun b o hbe hbi q=>by
   rcases Heap.get?_push_cases q with ⟨z1,z2⟩ | q
   ·subst z1;subst z2
    exact (sb.2 _ (Ne.symm eS)).trans htup
   ·exact (sb.2 b hbe).trans (hk b o hbe hbi q)) ⟨by rw [up e eS];exact fe.1,fe.2⟩ ⟨by rw [up it iS];exact fi.1,fi.2⟩
  refine ⟨.ref s.heap.objs.size,_,IB,rfl,⟨s.heap.objs.size,x,I.hok.fresh (Q3 _),rfl,rfl,fun ys hys=>by rw [I.list_inj hys hq];exact hx⟩,⟨⟨_,by push_cast at en2 ⊢;exact en2⟩,?_⟩,fun b hb=>?_⟩
  ·obtain ⟨o,q,r⟩:=st'.1
   exact ⟨o,(sb.2 it (Ne.symm hne)).trans q,r⟩
  ·rcases QA.mp hb with z | z
   ·subst z;rw [up _ eS];exact fe.1
   ·have z:=Qz.mp z
    subst z;rw [up _ iS];exact fi.1
 done:=by
  intro X hP hw hK hc i pins s σ H E I hf st hg
  subst hP hw hK
  obtain ⟨xs,hq,hx⟩:=hg
  obtain ⟨its,rv,p,hz⟩:=I.list hq
  obtain ⟨⟨old,he⟩,hi⟩:=st
  obtain ⟨f0,f1,f2,f3,f4,f5⟩:=hf it (by simp)
  have hl:=rv.length
  have D:Draws X.prog X.w X.A.in1 it [it,a] i (fun _ _=>True) (fun j h=>j = i/\h.IsListIter it a i/\h.IsList a its.toArray):={
   live:=fun _ _ st=>let ⟨o,ho,_⟩:=st.2.1;⟨o,ho⟩
   frame:=fun _ _ _ st hk=>⟨st.1,st.2.1.at fun o q=>hk it (by simp) o q,let ⟨o,ho,r⟩:=st.2.2;⟨o,hk a (by simp) o ho,r⟩⟩
   item:=fun j s Q E hj st hQ=>absurd st.1 (Qi hj)
   done:=fun s Q E st hE=>wpAny_nextOf_list_end (by exact I.ok.hd hc) st.2.1 st.2.2 (by simp;omega) hE }
  exact wpAny_pyNext_enum_endD D he ⟨rfl,hi,p.isList⟩ fun k eb=>⟨rfl,I.turned (t':=s.toks) (fun b o hb q=>eb b o hb q) f0 f1 f3 f4 f5⟩
 self:=fun _ _ _ _ _ st h=>let ⟨_,q⟩:=st.1;wpAny_pyIter_enum q h
section
variable {X:Cx}
noncomputable def zr7 (K:Frag) (tl:TE):TI:=fun σ H R=>tl σ H fun x H1=>∃ a,x = .ref a/\(∃ xs,SqL K H1 a xs)/\R (ItL K a) H1
theorem zlz {l:Expr} {tl:TE} {x1} {tp p:Pos} (hg:Gl X "enumerate") (hm:X.mg "enumerate" = none) (hl:PE X l tl) (hs:starEach [l] X.env = [(false,eval l X.env)]:=by rfl) :
  PI X (.Tuple elts x1 tp) (.Call (.Name "enumerate" p) [l] [] pos) (zr7 X.K tl):=by
 intro pins s σ H R I h
 refine Call_ (zcS I hg hm (show bootBuiltins "enumerate" = some (.type "enumerate") by decide +kernel) (PyProof.Rows.callWith_type1 ?_ hs rfl))
 rw [hs]
 refine Calls.spliced_cons (thn (hl pins s σ H _ I h) fun v s1 ⟨x,H1,I1,r1,q1⟩=>Calls.spliced_nil ?_)
 obtain ⟨a,e,⟨xs,hq⟩,q⟩:=q1
 subst e
 cases r1
 obtain ⟨its,rv,pt,hz⟩:=I1.list hq
 have ha:a < s1.heap.objs.size:=by
  obtain ⟨o,ho,_⟩:=pt.isList
  exact Qc ho
 refine zjt pt.isList fun k en ti hsz hk=>?_
 refine wpAny_pyIter_enum en ?_
 refine ⟨s1.heap.objs.size + 1,[s1.heap.objs.size + 1,s1.heap.objs.size],_,_,H1,rfl,I1.kept (t':=s1.toks) hk,ziS a _ _ (Nat.ne_of_gt (Nat.lt_succ_self _)) (Qi (Nat.lt_succ_of_lt ha)) (Qi ha),⟨⟨_,en⟩,ti⟩,fun b hb=>?_,q⟩
 rcases QA.mp hb with z | z
 ·subst z;exact I1.fpOk (Nat.le_succ _) (I1.hok.fresh (Nat.le_succ _))
 ·have z:=Qz.mp z
  subst z;exact I1.fpOk (Q3 _) (I1.hok.fresh (Q3 _))
end
end L2
namespace FT
open PySem PySem.Spec PyProof.Rows L2
noncomputable def ze7 (f:Ev->Mem->Out T):Ev->Mem->Out (List T):=fun σ M=>(f σ M).bind fun t M1=>match t with
 | .lst ts=>.ok (enT ts) M1
 | _=>.bad
variable {X:Cx} {f:Ev->Mem->Out T} {pos:Pos} {XE:XK}
section
end
section
theorem zkb {K:Frag} {S1 S3:Sit} (s3:Stp K S1 S3) {p:Addr} {vs:List V} (h:(Rd S1.H p (.lst vs)/\S1.off p)\/KL K p vs):SqL K S3.H p vs:=by
 rcases h with ⟨h2,f2⟩ | h2
 ·exact .inl (s3.toGrow.rd h2 f2).1
 ·exact .inr h2
end
noncomputable abbrev Gd:=List (Nat × List T)
def zcF (G:Gd) (M:Mem):Prop:=∀ g ∈ G,M[g.1]? = some (.lst g.2)
noncomputable def gdK {β:Type} (G:Gd) (M:Mem) (o:Out β):Out β:=@ite _ (zcF G M) (Classical.propDecidable _) o .bad
variable {G:Gd} {M:Mem}
theorem zdX {β:Type} {o:Out β} (h:zcF G M):gdK G M o = o:=Qw h
variable {xs:List T}
theorem zhf {a:Nat} (h:M[a]? = some (.lst xs)):zcF [(a,xs)] M:=fun g hg=>by rw [Qz.mp hg];exact h
def ItG (K:Frag) (S:Sit) (items:List T × Gd) (J:It):Prop:=∀ S',Stp K S S'->zcF items.2 S'.M->
 (∀ (i:Nat) t,items.1[i]? = some t->J.go i S'.H/\∀ x H',J.yld i S'.H x H'->∃ S'',S''.H = H'/\S''.M = S'.M/\Stp K S' S''/\Rep K S'' t x)/\∀ i,items.1.length<=i->J.stop i S'.H
instance (K):Mo K (ItG K):=⟨fun _ s r=>fun S' s'=>r S' (s.trans s')⟩
noncomputable def lIG (XE:XK) (K:Frag) (f:Ev->Mem->Out (List T × Gd)):TI:=fun σ H R=>LN XE (ItG K) K UnR (fun _ σ M=>f σ M) () σ H R
def GIG (X:Cx) (XE:XK) (tg iter:Expr) (f:Ev->Mem->Out (List T × Gd)):Prop:=PI X tg iter (lIG XE X.K f)
noncomputable def zfG (G:Gd) (bd:T->Ev->Mem->Out Ev) (body:Ev->Mem->Out Fl):List T->Ev->Mem->Out Fl
 | [],σ,M=>gdK G M (.ok (.nx σ) M)
 | x :: xs,σ,M=>gdK G M ((bd x σ M).bind fun σ1 M1=>(body σ1 M1).bind (yU (zfG G bd body xs)))
noncomputable def qF (G:Gd) (bd:T->Ev->Mem->Out Ev) (cond:Ev->Mem->Out Bool) (el:Ev->Mem->Out T):List T->Ev->Mem->List T->Out (List T)
 | [],_,M,acc=>gdK G M (.ok acc M)
 | x :: xs,σ,M,acc=>gdK G M ((bd x σ M).bind fun σ1 M1=>(cond σ1 M1).bind fun b M2=>if b = true then (el σ1 M2).bind fun t M3=>if acc.length < sizeLine then qF G bd cond el xs σ1 M3 (acc ++ [t]) else .bad else qF G bd cond el xs σ1 M2 acc)
noncomputable def zbz (it:Ev->Mem->Out (List T × Gd)) (bd:T->Ev->Mem->Out Ev) (cond:Ev->Mem->Out Bool) (el:Ev->Mem->Out T) (tgs:List Str) (caps:List (Str × Nat)):Ev->Mem->Out (List T):=fun σ M=>(it σ M).bind fun xs M1=>qF xs.2 bd cond el xs.1 (zbs tgs caps σ) M1 []
variable {Q:VK}
theorem FinL.gd {K:Frag} {S:Sit} {o:Out (List T)} (h:FinL XE K S (gdK G M o) Q):zcF G M/\FinL XE K S o Q:=by
 by_cases g:zcF G M
 ·rw [zdX g] at h;exact ⟨g,h⟩
 ·rw [show gdK G M o = .bad from Qy g] at h;exact h.elim
variable {bd:T->Ev->Mem->Out Ev}
theorem zjm {K:Frag} {S:Sit} {c:Ev->Mem->Out Bool} {acc:List T} {σ:Ev} (h:FinL XE K S (qF G bd c f xs σ M acc) Q):zcF G M:=by
 cases xs with
 | nil=>exact (FinL.gd h).1
 | cons x xs=>exact (FinL.gd h).1
variable {ga:Ev->Mem->Out (List T × Gd)} {cond:Ev->Mem->Out Bool} {e iter tg:Expr} {caps:List (Str × Nat)} {tgs:List Str}
section
variable {a b c:Expr} {es:List Expr} {pp:Pos} {sts:List Stmt} {p:Ev->Mem->Out Fl}
theorem zkJ {σ:L2.St} {H:Hp} (hh:lL XE X.K (zbz ga bd cond f tgs caps) σ H Q) :
  zgh (lIG XE X.K ga) (lG XE X.K bd) (lT XE X.K cond) (lE XE X.K f) (zas tgs caps) σ H Q:=by
 obtain ⟨S,στ,e,m,ev,fin⟩:=hh
 replace fin:FinL XE X.K S ((ga στ S.M).bind fun xs M1=>qF xs.2 bd cond f xs.1 (zbs tgs caps στ) M1 []) Q:=fin
 refine ⟨S,στ,(),e,m,ev,trivial,?_⟩
 show Fin XE (ItG X.K) X.K S (ga στ S.M) _
 cases o:ga στ S.M with
 | bad=>rw [o] at fin;exact fin
 | exn C fs M'=>rw [o] at fin;exact fin
 | ok items M1=>
  rw [o] at fin
  replace fin:FinL XE X.K S (qF items.2 bd cond f items.1 (zbs tgs caps στ) M1 []) Q:=fin
  intro S0 J e0 s0 it0 D hD
  have m0:=s0.mok
  have fin0:=fin.later s0
  have s1:=Stp.hide (K:=X.K) m0 hD []
  refine ⟨fun i n σ' H'=>∃ S στ acc vs,S.H = H'/\EvR X.K S στ σ'/\n = items.1.length - i/\i<=items.1.length/\D ∈ S.hid/\S.H D = some (.lst vs)/\Reps X.K S acc vs/\Stp X.K S0 S/\FinL XE X.K S0 (qF items.2 bd cond f (items.1.drop i) στ S.M acc) Q,
   ⟨items.1.length - 0,S0.hide D [],zbs tgs caps στ,[],[],rfl,(Mo.mo (K:=X.K) m0 s1 (Mo.mo (K:=X.K) m s0 ev)).cap tgs caps,rfl,Nat.zero_le _,.head _,yx,.nil,s1,by show FinL XE X.K S0 (qF items.2 bd cond f items.1 (zbs tgs caps στ) S0.M []) Q;rw [e0];exact fin0⟩,?_⟩
  rintro i n σ1 H1 ⟨S2,στ2,acc,vs,e2,ev2,en,hi2,hid2,hD2,racc,s2,fin2⟩
  subst e2
  have m2:=s2.mok
  have hgd:=zjm fin2
  obtain ⟨itg,its⟩:=it0 S2 s2 hgd
  by_cases hl:i < items.1.length
  ·have eq:items.1.drop i = items.1[i] :: items.1.drop (i + 1):=List.drop_eq_getElem_cons hl
   rw [eq] at fin2
   replace fin2:=(FinL.gd fin2).2
   obtain ⟨go,yl⟩:=itg i items.1[i] (by simp [hl])
   refine .inr ⟨go,fun σ' H'=>∃ S στ acc vs,S.H = H'/\EvR X.K S στ σ'/\D ∈ S.hid/\S.H D = some (.lst vs)/\Reps X.K S acc vs/\Stp X.K S0 S/\FinL XE X.K S0 (qF items.2 bd cond f (items.1.drop (i + 1)) στ S.M acc) Q,?_,fun x H' hy=>?_⟩
   ·rintro σ' H' ⟨S,στ,acc,vs,a1,a2,a3,a4,a5,a6,a7⟩
    exact ⟨items.1.length - (i + 1),by omega,S,στ,acc,vs,a1,a2,rfl,hl,a3,a4,a5,a6,a7⟩
   ·obtain ⟨S3,e3,eM,s3,r3⟩:=yl x H' hy
    replace fin2:FinL XE X.K S0 ((bd items.1[i] στ2 S2.M).bind fun σ1 M1=>(cond σ1 M1).bind fun b M2=>if b = true then (f σ1 M2).bind fun t M3=>if acc.length < sizeLine then qF items.2 bd cond f (items.1.drop (i + 1)) σ1 M3 (acc ++ [t]) else .bad else qF items.2 bd cond f (items.1.drop (i + 1)) σ1 M2 acc) Q:=fin2
    refine ⟨S3,στ2,items.1[i],e3,s3.mok,Mo.mo m2 s3 ev2,r3,?_⟩
    show Fin XE (EvR X.K) X.K S3 (bd items.1[i] στ2 S3.M) _
    rw [eM]
    cases o1:bd items.1[i] στ2 S2.M with
    | bad=>rw [o1] at fin2;exact fin2
    | exn C fs M'=>rw [o1] at fin2;exact fun S' od a1 a2 a3=>fin2 S' od a1 ((s2.trans s3).trans a2) a3
    | ok σ4 M4=>
     rw [o1] at fin2
     intro S4 σ4v e4 s4 ev4
     have t4:=s3.trans s4
     replace fin2:FinL XE X.K S0 ((cond σ4 M4).bind fun b M2=>if b = true then (f σ4 M2).bind fun t M3=>if acc.length < sizeLine then qF items.2 bd cond f (items.1.drop (i + 1)) σ4 M3 (acc ++ [t]) else .bad else qF items.2 bd cond f (items.1.drop (i + 1)) σ4 M2 acc) Q:=fin2
     refine ⟨S4,σ4,(),rfl,s4.mok,ev4,trivial,?_⟩
     show Fin XE EqR X.K S4 (cond σ4 S4.M) _
     rw [e4]
     cases o2:cond σ4 M4 with
     | bad=>rw [o2] at fin2;exact fin2
     | exn C fs M'=>rw [o2] at fin2;exact fun S' od a1 a2 a3=>fin2 S' od a1 ((s2.trans t4).trans a2) a3
     | ok b M5=>
      rw [o2] at fin2
      intro S5 b5 e5 s5 eb
      have eb':b = b5:=eb
      subst eb'
      have t5:=t4.trans s5
      replace fin2:FinL XE X.K S0 (if b = true then (f σ4 M5).bind fun t M3=>if acc.length < sizeLine then qF items.2 bd cond f (items.1.drop (i + 1)) σ4 M3 (acc ++ [t]) else .bad else qF items.2 bd cond f (items.1.drop (i + 1)) σ4 M5 acc) Q:=fin2
      cases b with
      | false=>
       rw [Qy Q4] at fin2
       refine (Qy Q4).mpr ⟨S5,σ4,acc,vs,rfl,Mo.mo s4.mok s5 ev4,(t5.hk D hid2).1,by rw [(t5.hk D hid2).2];exact hD2,racc.grow m2 t5.toGrow,s2.trans t5,by rw [e5];exact fin2⟩
      | true=>
       rw [Qw rfl] at fin2
       refine (Qw rfl).mpr ⟨S5,σ4,(),rfl,s5.mok,Mo.mo s4.mok s5 ev4,trivial,?_⟩
       show Fin XE (Rep X.K) X.K S5 (f σ4 S5.M) _
       rw [e5]
       cases o3:f σ4 M5 with
       | bad=>rw [o3] at fin2;exact fin2
       | exn C fs M'=>rw [o3] at fin2;exact fun S' od a1 a2 a3=>fin2 S' od a1 ((s2.trans t5).trans a2) a3
       | ok t M6=>
        rw [o3] at fin2
        replace fin2:FinL XE X.K S0 (if acc.length < sizeLine then qF items.2 bd cond f (items.1.drop (i + 1)) σ4 M6 (acc ++ [t]) else .bad) Q:=fin2
        intro S6 v6 e6 s6 r6
        have t6:=t5.trans s6
        have hz:acc.length < sizeLine:=by
         by_cases hz:acc.length < sizeLine
         ·exact hz
         ·rw [Qy hz] at fin2;exact fin2.elim
        rw [Qw hz] at fin2
        have hid6:=(t6.hk D hid2).1
        have hD6:S6.H D = some (.lst vs):=by rw [(t6.hk D hid2).2];exact hD2
        refine ⟨vs,hD6,by rw [← racc.1];exact hz,S6.hput D (vs ++ [v6]),σ4,acc ++ [t],vs ++ [v6],rfl,?_,hid6,yx,?_,(s2.trans t6).hput hid6 hD m0,by show FinL XE X.K S0 (qF items.2 bd cond f (items.1.drop (i + 1)) σ4 S6.M (acc ++ [t])) Q;rw [e6];exact fin2⟩
        ·have ev6:EvR X.K S6 σ4 σ4v:=Mo.mo s4.mok (s5.trans s6) ev4
         exact ⟨ev6.1,fun i t e=>let ⟨v,e',q⟩:=ev6.2 i t e;⟨v,e',q.hput s6.mok hid6⟩⟩
        ·exact ((racc.grow m2 t6.toGrow).app (.cons r6 .nil)).hput s6.mok hid6
  ·rw [List.drop_eq_nil_of_le (by omega)] at fin2
   replace fin2:=(FinL.gd fin2).2
   refine .inl ⟨its i (by omega),?_⟩
   exact fin2 S2 D vs rfl s2 hD hid2 hD2 racc
end
noncomputable def zdj (t:T) (M:Mem):Option (List T × Gd):=match t with
 | .lst xs=>some (xs,[])
 | .ref a=>match M[a]? with
  | some (.lst xs)=>some (xs,[(a,xs)])
  | _=>none
 | _=>none
theorem znJ {K:Frag} {S:Sit} (m:MemOk K S) {t:T} {v:V} (r:Rep K S t v) (e:zdj t S.M = some (xs,G)):∃ p vs,v = .ref p/\SqL K S.H p vs/\∀ S3,Stp K S S3->zcF G S3.M->∃ vs3,SqL K S3.H p vs3/\Reps K S3 xs vs3:=by
 unfold zdj at e
 split at e
 ·cases e
  cases r with
  | @lst _ p vs h l rr=>
   refine ⟨p,vs,rfl,zb8 h,fun S3 s3 _=>⟨vs,zkb s3 h,?_⟩⟩
   exact (show Reps K S xs vs from ⟨l,rr⟩).grow m s3.toGrow
 ·rename_i a
  split at e
  ·rename_i ys q
   cases e
   cases r with
   | ref ha=>
    obtain ⟨vs,h1,r1⟩:=m.cell a _ q
    refine ⟨S.α a,vs,rfl,.inl (.inl h1),fun S3 s3 g=>?_⟩
    obtain ⟨vs3,h3,r3⟩:=s3.mok.cell a _ (g (a,xs) (.head _))
    rw [s3.al a ha] at h3
    exact ⟨vs3,.inl (.inl h3),r3⟩
  ·cases e
 ·cases e
noncomputable def zdl (f:Ev->Mem->Out T):Ev->Mem->Out (List T × Gd):=fun σ M=>(f σ M).bind fun t M1=>match zdj t M1 with
 | some g=>.ok g M1
 | none=>.bad
section
end
end FT
namespace L2
open PySem PySem.Spec PySem.W PyProof.Rows
def SI (b:Bool) (h:Heap) (q t:Addr) (k:Nat):Prop:=match b with
 | true=>h.IsTupleIter q t k
 | false=>h.IsListIter q t k
def SS (b:Bool) (h:Heap) (t:Addr) (xs:Array Value):Prop:=match b with
 | true=>h.IsTuple t xs
 | false=>h.IsList t xs
def SqX (K:Frag) (H:Hp) (b:Bool) (a:Addr) (xs:List V):Prop:=match b with
 | true=>SqT K H a xs
 | false=>SqL K H a xs
noncomputable abbrev TSl:=V->Option Int->Option Int->V->Hp->(Hp->Prop)->Prop
end L2
namespace FT
open PySem PySem.Spec PyProof.Rows L2
noncomputable def zei (f:List T->Mem->Out T):List T->Mem->Out T:=fun ts M=>match f ts M with
 | .ok v M'=>@ite _ (M'.take M.length = M/\T.lt 0 v) (Classical.propDecidable _) (.ok v M) .bad
 | _=>.bad
theorem zmj (f:List T->Mem->Out T):Refines (zei f) f:=by
 intro ts M t' M1 _ e
 unfold zei at e
 split at e
 ·rename_i v M' q
  split at e
  ·rename_i hc
   cases e
   have hl:M.length<=M'.length:=by
    have:=congrArg List.length hc.1
    rw [Qp] at this
    omega
   exact ⟨_,_,q,Q3 _,hl,hc.1.symm,fun i c e=>.inl e,.same (hc.2.mono (Nat.zero_le _))⟩
  ·cases e
 ·cases e
theorem zmk (f:List T->Mem->Out T):∀ ts M C fs M',zei f ts M ≠ .exn C fs M':=by
 intro ts M C fs M' e
 unfold zei at e
 split at e
 ·split at e <;> cases e
 ·cases e
noncomputable def zrP (o:Out Fl):Out T:=match o with
 | .ok (.rt t) M'=>.ok t M'
 | .ok (.nx _) M'=>.ok .non M'
 | .exn C fs M'=>.exn C fs M'
 | _=>.bad
noncomputable def yX (p n:Nat) (g:Ev->Mem->Out Fl):List T->Mem->Out T:=fun ts M=>if ts.length = p then zrP (g (startT n ts) M) else .bad
structure CalX (P:Program) (w:World) (K:Frag) (mg:Str->Option Value) (base:Heap) (k:Nat) (x:Str) (ps:List Str) (f:List T->Mem->Out T):Prop where
 ex:∃ (fa:Addr) (fd:FuncData),FnOk P w K mg base (CXX P w) k fa fd ps (spT K f)/\PySem.W.keepIn K (.ref fa) = true/\Binds K fd ps []/\mg x = some (.ref fa)
variable {X:Cx} {g:Ev->Mem->Out Fl} {base:Heap} {N ps:List Str} {k n:Nat} {P:Program} {x:Str} {mg:Str->Option Value} {w:World}
section
variable {K:Frag}
theorem zkX {st:List Stmt} {p:Nat} (hn:N.length = n) {E:XK} {vs:List V} {H:Hp} {Q:VK} (hX:X.K = K) (h:spT K (yX p n g) vs H Q E) (hb:GSs X E st g) :
  ∃ t,PSs X st t/\t { nx:=fun _ H'=>Q .non H',rt:=Q } (start N vs) H:=by
 subst hX
 refine ⟨_,hb,?_⟩
 obtain ⟨S,ts,e,m,r,fin⟩:=h
 refine ⟨S,startT n ts,(),e,m,EvR.start r hn,trivial,?_⟩
 show Fin E (FlR X.K) X.K S (g (startT n ts) S.M) _
 unfold yX at fin
 by_cases hp:ts.length = p
 ·rw [Qw hp] at fin
  cases o:g (startT n ts) S.M with
  | bad=>rw [o] at fin;exact fin
  | exn C fs M'=>rw [o] at fin;exact fin
  | ok fl M1=>
   rw [o] at fin
   cases fl with
   | nx σ1=>
    intro S1 c e1 s1 r1
    cases r1 with
    | nx r1=>exact fin S1 .non e1 s1 .non
   | rt t=>
    intro S1 c e1 s1 r1
    cases r1 with
    | rt r1=>exact fin S1 _ e1 s1 r1
   | bk σ1=>exact fin.elim
   | ct σ1=>exact fin.elim
 ·rw [Qy hp] at fin;exact fin.elim
theorem zm1 {p:Nat} (hp:ps.length = p):∀ vs H Q E,spT K (yX p n g) vs H Q E->vs.length = ps.length:=by
 intro vs H Q E ⟨S,ts,e,m,r,fin⟩
 rw [← r.1,hp]
 unfold yX at fin
 by_cases h:ts.length = p
 ·exact h
 ·rw [Qy h] at fin;exact fin.elim
theorem zoi {st:Stmt} {p:Nat} (D:Df K mg x st ps) (Sc:FnScope N ps (zf st)) (hp:ps.length = p) (hn:N.length = n)
 (hb:∀ (f:Addr) (cdv:Value) (A:Around) (outer:List PySem.Env) (s:Shared) (H:Hp) (E:XK),Room k (A.deeper (envOfC x (zf st) s.heap.objs.size f cdv))->GSs (zbr (CXX P w) P w K mg base N x (zf st) f cdv A outer s H E) E (yI st) g) :
  CalX P w K mg base (k + 1) x ps (yX p n g):=by
 obtain ⟨f,fd,F,b,gg⟩:=D.ex
 obtain ⟨oc,od,kV,doc,pm,an,cdv,ct,osl,rfl,lk,hcd⟩:=F.ex
 exact ⟨⟨f,_,zmI lk hcd Sc (zm1 hp) fun A outer s H vs Q E hr hsp=>zkX hn rfl hsp (hb f cdv A outer s H E hr),F.kp,b,gg⟩⟩
end
variable {C:Addr}
section
variable {XE:XK} {i j:Nat} {y v nm:Str} {p pos pos2 np hp tp vp cpos:Pos} {e:Expr} {es:List Expr} {ga:Ev->Mem->Out (List T)} {F:List T->Mem->Out T} {b0:Stmt} {suite sts:List Stmt} {gs:Ev->Mem->Out Fl}
noncomputable def zaL (C:Addr) (ts:List T) (M:Mem):Out Fl:=if ts.length<=sizeLine then .exn C [] M else .bad
noncomputable def za7 (r:List T->Mem->Out Fl) (ga:Ev->Mem->Out (List T)):Ev->Mem->Out Fl:=fun σ M=>(ga σ M).bind fun ts M1=>r ts M1
structure XcF (P:Program) (w:World) (K:Frag) (mg:Str->Option Value) (base:Heap) (x:Str) (C:Addr):Prop where
 ex:∃ f fd,XcAt K mg x C f/\FnOk P w K mg base CX0 1 f fd ["self","at"] (fun vs H Q E=>(∃ e t v,vs = [.ref e,v]/\H e = some (.ext (ExN e C t none))/\∀ d,H d = none->d ≠ e->Q .non (upd (upd H e (.ext (ExN e C t (some d)))) d (.xd [("at",v)]))))/\Binds K fd ["self","at"] []
theorem XcF.at {K:Frag} (O:XcF P w K mg base x C):∃ nm fI,XcAt K mg nm C fI:=let ⟨f,_,h,_⟩:=O.ex;⟨x,f,h⟩
def GX (X:Cx) (sts:List Stmt) (g:Ev->Mem->Out Fl):Prop:=PX X sts fun E=>lS E X.K g
noncomputable def noX (o:Out Fl):Out Fl:=match o with
 | .exn _ _ _=>.bad
 | o=>o
theorem znC {K:Frag} {S:Sit} {o:Out Fl} {Q:FlV->Hp->Prop} (h:Fin XE (FlR K) K S (noX o) Q):Fin E0 (FlR K) K S o Q:=by
 cases o with
 | ok b M'=>exact h
 | exn C fs M'=>exact h.elim
 | bad=>exact h
noncomputable def zgN (cs:List Addr) (g gs:Ev->Mem->Out Fl):Ev->Mem->Out Fl:=fun σ M=>match g σ M with
 | .exn C _ M'=>if cs.contains C = true then noX (gs σ M') else .bad
 | o=>o
noncomputable def clr (j:Nat) (fl:Fl) (M:Mem):Out Fl:=match fl with
 | .nx σ=>.ok (.nx (σ.set j none)) M
 | .rt t=>.ok (.rt t) M
 | .bk σ=>.ok (.bk (σ.set j none)) M
 | .ct σ=>.ok (.ct (σ.set j none)) M
noncomputable def zsT (j:Nat) (cs:List Addr) (g gs:Ev->Mem->Out Fl):Ev->Mem->Out Fl:=fun σ M=>match g σ M with
 | .exn C fs M'=>if cs.contains C = true then (noX (gs (σ.set j (some (.exc C fs))) M')).bind (clr j) else .bad
 | o=>o
end
theorem zlb {K:Frag} {f:Addr} (O:XcAt K mg x C f):Sup K mg x C C:=⟨O.bound,fun h X=>by
 obtain ⟨bm,N,nm,q,bs,sn,sub,ab,col,dd,k0,k1,k2,k3,k5,mN,hC,_,_,_,T⟩:=O.obj h X
 exact ⟨⟨bm,N,nm,q,bs,true,sn,sub,ab,col,dd,k0,k1,k2,k3,k5,hC,(T.tail (by decide)).hasType PySem.F.excBase_ValueError.hasBase⟩,bm,N,nm,q,bs,true,sn,sub,ab,col,dd,k0,k1,k2,k3,k5,hC,by simp⟩⟩
theorem XcF.sup {K:Frag} (O:XcF P w K mg base x C):Sup K mg x C C:=let ⟨_,_,h,_⟩:=O.ex;zlb h
end FT
namespace L2
open PySem
noncomputable def subs:Nat->List (List Nat)
 | 0=>[[]]
 | n + 1=>subs n ++ (subs n).map (· ++ [n])
theorem zh9:∀ (n:Nat) (ks:List Nat),ks ∈ subs n->ks.Pairwise (· < ·)/\∀ k ∈ ks,k < n
 | 0,ks,h=>by rw [show ks = [] from Qz.mp h];exact ⟨.nil,fun _ h=>by cases h⟩
 | n + 1,ks,h=>by
  unfold subs at h
  rcases QC.mp h with h | h
  ·have:=zh9 n ks h
   exact ⟨this.1,fun k hk=>Nat.lt_succ_of_lt (this.2 k hk)⟩
  ·obtain ⟨l,hl,rfl⟩:=QE.mp h
   have:=zh9 n l hl
   refine ⟨List.pairwise_append.mpr ⟨this.1,List.pairwise_singleton _ _,fun a ha b hb=>by rw [Qz.mp hb];exact this.2 a ha⟩,fun k hk=>?_⟩
   rcases QC.mp hk with hk | hk
   ·exact Nat.lt_succ_of_lt (this.2 k hk)
   ·rw [Qz.mp hk];exact Nat.lt_succ_self _
noncomputable def zsh:Bool:=(subs 6).all fun ks=>(List.range 7).all fun h=>SetTable.below ks.toArray h == (ks.filter (· < h)).length
theorem zok:zsh = true:=by decide +kernel
variable {ks:List Nat}
theorem zhD (hk:ks ∈ subs 6) {h:Nat} (hh:h < 7):SetTable.below ks.toArray h = (ks.filter (· < h)).length:=by
 have:=QD.mp (QD.mp zok ks hk) h (mem_range.mpr hh)
 exact eq_of_beq this
noncomputable def zpA (mask:Nat) (hashes:Array Int):Option (List Nat × List Nat):=(SetTable.layClean mask hashes).map fun owner=>
 let live:=(List.range (mask + 1)).filterMap fun j=>(owner.getD j none).map (j,·)
 (live.map (·.1),live.map (·.2))
noncomputable def hsh (ks:List Nat):List Int:=ks.map fun k:Nat=>(k:Int)
noncomputable def layB:Bool:=(subs 6).all fun ks=>[7,15,31].all fun m=>zpA m (hsh ks).toArray == some (ks,List.range ks.length)
theorem znK:layB = true:=by decide +kernel
theorem znM (hk:ks ∈ subs 6) {m:Nat} (hm:m ∈ [7,15,31]) (f mv:Nat) (l p:Bool) :
  SetTable.laid m f mv l p (hsh ks).toArray = some ({ mask:=m,place:=ks.toArray,dummies:=#[],finger:=f,led:=l,moves:=mv,plain:=p },(List.range ks.length).toArray):=by
 have:=eq_of_beq (QD.mp (QD.mp znK ks hk) m hm)
 unfold zpA at this
 unfold SetTable.laid
 cases q:SetTable.layClean m (hsh ks).toArray with
 | none=>rw [q] at this;cases this
 | some owner=>
  rw [q] at this
  have h:=Prod.mk.inj (Qb this)
  show some _ = some _
  rw [h.1,h.2]
end L2
namespace L2
open PySem PySem.Spec
noncomputable def zk0 (w:World):Bool:=w.params.followText "set-order"
structure DTab (w:World) (es:Array (Int × Value)) (t:SetTable) (ks:List Nat) (m:Nat):Prop where
 keys:es.toList.map (·.1) = hsh ks
 vals:∀ e ∈ es.toList,∃ tk,e.2 = .int e.1 tk
 mask:t.mask = m
 place:t.place = ks.toArray
 dumm:t.dummies = #[]
 plain:t.plain = true
 led:zk0 w = true\/t.led = true
 sub:ks ∈ subs 6
 ms:m ∈ [7,15,31]
variable {es:Array (Int × Value)} {ks:List Nat} {m:Nat} {t:SetTable} {w:World}
theorem DTab.size (d:DTab w es t ks m):es.size = ks.length:=by
 have:=congrArg List.length d.keys
 unfold hsh at this
 simpa using this
theorem zgz (h:ks ∈ subs 6):ks.length<=6:=by
 have:((subs 6).all fun ks=>ks.length<=6) = true:=by decide +kernel
 simpa using QD.mp this ks h
theorem DTab.fits (d:DTab w es t ks m):t.fits es.size = true:=by
 have:=zgz d.sub
 have hm:=d.ms
 unfold SetTable.fits SetTable.fill
 rw [d.size,d.place,d.dumm,d.mask]
 simp at hm ⊢
 omega
variable {k:Nat}
theorem zor (h:k < 6):hashInt (k:Int) = k:=by
 have:((List.range 6).all fun k:Nat=>hashInt (k:Int) == (k:Int)) = true:=by decide +kernel
 exact eq_of_beq (QD.mp this k (mem_range.mpr h))
variable {tk:Tok}
section
variable {prog:Program} {A:Around} {E:Value->Shared->Prop} {s:Shared} {a:Addr}
noncomputable def zjf (k:Nat) (ks:List Nat):List Nat:=if k ∈ ks then ks else ks.take (ks.filter (· < k)).length ++ k :: ks.drop (ks.filter (· < k)).length
theorem zlX (hk:k < 6) (h:ks ∈ subs 6):zjf k ks ∈ subs 6:=by
 have:((List.range 6).all fun k=>(subs 6).all fun ks=>(subs 6).contains (zjf k ks)) = true:=by decide +kernel
 have:=QD.mp (QD.mp this k (mem_range.mpr hk)) ks h
 simpa using this
theorem zhX (hp:t.place = ks.toArray) (hd:t.dummies = #[]) (hm:k<=t.mask) (hs:k < 2 ^ 64) (hn:k ∉ ks):t.freeSlot (k:Int) = some (k,false):=by
 have hb:SetTable.bits (k:Int) = k:=by
  unfold SetTable.bits
  rw [Int.emod_eq_of_lt (by omega) (by omega)]
  rfl
 have hsl:t.slot k = .empty:=by
  unfold SetTable.slot SetTable.has
  rw [hp,hd]
  dsimp only
  rw [Qy (by
   intro e
   have e:=eq_of_beq e
   rw [List.getElem?_toArray] at e
   exact hn (Q9 e)),Qy (by simp)]
 have hj:(t.probeStart (k:Int)).j = k/\(t.probeStart (k:Int)).dummy = none:=by
  unfold SetTable.probeStart
  rw [hb]
  exact ⟨Nat.mod_eq_of_lt (by omega),rfl⟩
 unfold SetTable.freeSlot SetTable.probe
 rw [show 10 * SetTable.turns t.mask = (10 * t.mask + 149) + 1 by unfold SetTable.turns;omega]
 unfold SetTable.probe.go
 rw [hj.1,hsl,hj.2]
 rfl
theorem DTab.ins (d:DTab w es t ks m) (hk:k < 6) (hn:k ∉ ks):DTab w (SetTable.insertAt es (t.put k).2 ((k:Int),.int (k:Int) tk)) (t.put k).1 (zjf k ks) m:=by
 have hp:(t.put k).2 = (ks.filter (· < k)).length:=by
  unfold SetTable.put
  rw [d.place]
  exact zhD d.sub (by omega)
 have hi:zjf k ks = ks.take (ks.filter (· < k)).length ++ k :: ks.drop (ks.filter (· < k)).length:=Qy hn
 refine ⟨?_,?_,d.mask,?_,?_,d.plain,d.led,zlX hk d.sub,d.ms⟩
 ·rw [hp,SetTable.toList_insertAt,hi]
  unfold hsh
  rw [Qo,QF,Qo,QF,map_take,map_take,map_drop,map_drop]
  have:=d.keys
  unfold hsh at this
  rw [this]
 ·intro e he
  rw [SetTable.toList_insertAt] at he
  rcases QC.mp he with he | he
  ·exact d.vals e (List.mem_of_mem_take he)
  ·rcases QA.mp he with rfl | he
   ·exact ⟨tk,rfl⟩
   ·exact d.vals e (mem_of_mem_drop he)
 ·show SetTable.insertAt t.place (SetTable.below t.place k) k = _
  rw [d.place,zhD d.sub (by omega),hi]
  apply Array.toList_inj.mp
  rw [SetTable.toList_insertAt]
 ·show (if SetTable.has t.dummies k then _ else t.dummies) = #[]
  rw [d.dumm]
  rfl
theorem DTab.lay (d:DTab w es t ks m) (hk:k < 6) (hn:k ∉ ks):layNew t es (k:Int) (.int (k:Int) tk) = (SetTable.insertAt es (t.put k).2 ((k:Int),.int (k:Int) tk),(t.put k).1,false,false):=by
 have hm:=d.ms
 have hf:=(d.ins (tk:=tk) hk hn).fits
 unfold layNew
 rw [zhX d.place d.dumm (by rw [d.mask];simp at hm;omega) (by omega) hn]
 dsimp only
 unfold SetTable.orStandIn
 rw [Qw hf,hf]
 rfl
theorem DTab.full (d:DTab w es t ks m):∃ t' m',relayAll t es (SetTable.grown es.size) = (es,t',false)/\DTab w es t' ks m':=by
 have h6:=zgz d.sub
 have hw:∀ n,n<=6->SetTable.sizeAbove (SetTable.grown n) - 1 ∈ [7,15,31]:=by decide +kernel
 have hms:=hw _ h6
 have e1:es.map (·.1) = (hsh ks).toArray:=by
  rw [← d.keys]
  apply Array.toList_inj.mp
  rw [Array.toList_map]
 have e3:Array.filterMap (fun x=>es[x]?) (List.range ks.length).toArray = es:=by
  apply Array.toList_inj.mp
  rw [← d.size]
  simpa using filterMap_getElem?_range es
 have hc:∀ n,n<=6->coversAll (List.range n).toArray n = true:=by decide +kernel
 have d':DTab w es { mask:=SetTable.sizeAbove (SetTable.grown es.size) - 1,place:=ks.toArray,dummies:=#[],finger:=t.finger,led:=t.led,moves:=t.movedTo (SetTable.sizeAbove (SetTable.grown es.size) - 1),plain:=t.plain } ks (SetTable.sizeAbove (SetTable.grown es.size) - 1):=⟨d.keys,d.vals,rfl,rfl,rfl,d.plain,d.led,d.sub,by rw [d.size];exact hms⟩
 refine ⟨_,_,?_,d'⟩
 unfold relayAll SetTable.relaid
 rw [e1,znM d.sub (by rw [d.size];exact hms)]
 dsimp only
 rw [e3,d'.fits,d.size,hc _ h6]
 rfl
end
end L2
namespace L2
open PySem PySem.Spec PyProof.Rows
section
variable {prog:Program} {w:World} {A:Around} {E:Value->Shared->Prop} {s:Shared} {a:Addr} {ks:List Nat} {m:Nat}
structure DictN (prog:Program) (w:World) (h:Heap) (d:Addr) (ns:List Nat) (od:Obj) (es:Array DictEntry) (ep:Nat):Prop where
 at_:h.get? d = some od
 exact_:od.ExactDict
 data:od.data = .dict es ep
 size:es.size = ns.length
 keys:∀ (i:Nat) n,ns[i]? = some n->∃ e tk,es[i]? = some e/\e.key = .int (n:Int) tk/\e.hash = (n:Int)
 small:∀ n ∈ ns,n < 6
noncomputable abbrev za1 (w:World):Obj:={ cls:=.type "set",dict:=none,data:=.set #[] 0 (.fresh 0 0 (!zk0 w)) }
set_option maxRecDepth 100000 in
theorem zjn (x:Value) {Q₁:Value->Shared->Prop} (h:Q₁ (.ref s.heap.objs.size) { s with heap:=s.heap.push (za1 w) }) :
  codeAny (model prog w) A (.call (.builtin "set.__new__") ⟨[.type "set",x],[]⟩) (wants Q₁ E) s:=by
 refine codeAny_of_tree ?_
 show wpAny _ A.in1 (do checkBuiltinCall "set.__new__" ⟨[.type "set",x],[]⟩;again (.builtin "set.__new__" ⟨[.type "set",x],[]⟩)) _ _ s
 refine Q1 (wpAny_of_eq (PySem.F.newCall_set_1 x) (Qd ⟨plainId_quiet PySem.F.plain_set_new _,codeAny_builtin PySem.F.entry_set_new ?_⟩))
 rw [Around.under_plainId PySem.F.plain_set_new _]
 unfold Builtin.«set.__new__» Builtin.Frozenset.newClass
 have hsub:=PySem.sub_set_self
 obtain ⟨hp,g,d,tk,os⟩:=s
 dsimp only
 wp_walk
 refine wpAny_askSetting (Qd ?_)
 dsimp only
 simp only [newObj]
 refine Q1 (wpAny_alloc (Qd ?_))
 exact Qd h
end
end L2
namespace FT
open PySem PySem.Spec PyProof.Rows L2
variable {base:Heap} {N ps:List Str} {k:Nat} {P:Program} {st:Stmt} {x:Str} {mg:Str->Option Value} {w:World}
section
variable {K:Frag}
theorem Refines.bad (g:List T->Mem->Out T):Refines (fun _ _=>.bad) g:=fun _ _ _ _ _ e=>by cases e
theorem CalT.bad (D:Df K mg x st ps) (Sc:FnScope N ps (zf st)):CalT P w K mg base (k + 1) x ps (fun _ _=>.bad):=
 CalT.refine (g:=zq ps.length N.length (fun _ _=>.bad)) (zkW D Sc rfl rfl fun f cdv A outer s H E hr=>fun _ _ _ _ _ _ ⟨_,_,_,_,_,_,_,fin⟩=>fin.elim) (Refines.bad _) (fun _ _ _ _ _ z=>by cases z)
end
noncomputable def zdr:T->List T->Mem->Out T:=fun x ts M=>match x,ts with
 | .ref a,[.lst ys]=>match M[a]? with
  | some (.lst xs)=>if xs.length + ys.length < 1000000 then .ok .non (M.set a (.lst (xs ++ ys))) else .bad
  | _=>.bad
 | .ref a,[.ref b]=>match M[a]?,M[b]? with
  | some (.lst xs),some (.lst ys)=>if xs.length + ys.length < 1000000 then .ok .non (M.set a (.lst (xs ++ ys))) else .bad
  | _,_=>.bad
 | _,_=>.bad
theorem zke (l:Addr) (items:Array Value) (n:Nat) (b:Addr) (items2:Array Value) (n2:Nat) (dd:Option Addr) (sl:Array (Option Value)) (hc0:¬(!items.isEmpty && Builtin.List.listTooLong (items.size + items2.size)) = true) (hc1:items.size<=sizeLine) (hs2:items.size + items2.size<=sizeLine + 1) :
  Meets (Builtin.«list.extend» ⟨[.ref l,.ref b],[]⟩) (fun _ R s=>s.heap.get? l = some { cls:=.type "list",dict:=none,data:=.seq items n,slots:=#[] }/\s.heap.get? b = some { cls:=.type "list",dict:=dd,data:=.seq items2 n2,slots:=sl }/\R (.ok (.ret Value.none)) { s with heap:=s.heap.update l (Obj.mapSeq fun x=>x ++ items2),toks:=s.toks }):=
 .of_wp fun prog w A R s h=>by
  obtain ⟨hp,g,d,tk,os⟩:=s;obtain ⟨hl,hb,h⟩:=h;have f1:=AutoSeq1.idx_int;have f2:=AutoSeq1.sub_tuple_tuple;have f3:=AutoSeq1.sub_list_list;have f4:=AutoSeq1.sub_tuple_list;have f5:=AutoSeq1.sub_list_tuple
  have hz':(items ++ items2).size<=sizeLine + 1:=by rw [Array.size_append];exact hs2
  wp_walk using (wpAny_updateSeq hl rfl (hz:=hc1) (_hz':=hz')),AutoSeq1.wpAny_loadPart' hl,AutoSeq1.wpAny_loadPart' hb;exact ⟨_,rfl,h⟩
variable {X:Cx} {XE:XK}
section
noncomputable def zqH (K:Frag):V->List V->Hp->VK->Prop:=fun x vs H Q=>∃ l b xs zs,x = .ref l/\vs = [.ref b]/\H l = some (.lst xs)/\SqL K H b zs/\xs.length + zs.length<=sizeLine/\Q .non (upd H l (.lst (xs ++ zs)))
theorem ziy:MtM X "list.extend" (zqH X.K):=by
 intro pins s σ H x vs v us Q I rx rv h
 obtain ⟨l,b,xs,zs,rfl,rfl,hH,hB,hz,q⟩:=h
 cases rx
 obtain ⟨u,rfl,ru⟩:=rv.one
 cases ru
 obtain ⟨z,its,n,r,hl,e⟩:=I.lstM hH
 obtain ⟨its2,r2,pl2,z2⟩:=I.list hB
 obtain ⟨⟨cls2,dd2,data2,sl2⟩,n2,ho2,hc2,hdi2,hd2⟩:=pl2
 simp only at hc2 hd2
 subst hc2 hd2
 have hl2:=r2.length
 have hsz:its.toArray.size + its2.toArray.size<=sizeLine:=by rw [Qg,Qg];omega
 have hlong:¬ (!its.toArray.isEmpty && Builtin.List.listTooLong (its.toArray.size + its2.toArray.size)) = true:=by
  rw [zlF hsz,Bool.and_false]
  exact Q4
 refine call_meets F.slot_list_extend ⟨_,e,rfl⟩ F.entry_list_extend (F.args_list_extend_2 _ _)
  (zke l its.toArray n b its2.toArray n2 dd2 sl2 hlong (by rw [Qg];omega) (by omega)) ⟨e,ho2,?_⟩
 refine ⟨.non,_,I.lset (its':=its ++ its2) hH e (by simp) (r.append r2) ?_,rfl,q⟩
 rw [Ql]
 omega
theorem zix:MtR X "list.extend" (lMt XE X.K zdr):=by
 intro pins s σ H x xs v us Q I rx rs ⟨S,⟨tx,ts⟩,e,m,⟨r1,r2⟩,fin⟩
 subst e
 replace r1:Rep X.K S tx x:=r1
 replace r2:Reps X.K S ts xs:=r2
 replace fin:Fin XE (Rep X.K) X.K S (zdr tx ts S.M) Q:=fin
 have hsl:(1000000:Nat)<=sizeLine:=by rw [sizeLine_eq];exact Nat.le_of_ble_eq_true rfl
 unfold zdr at fin
 split at fin
 ·rename_i a ys
  split at fin
  ·rename_i xs0 q
   split at fin
   ·rename_i hlt
    cases r1 with
    | ref ha=>
    obtain ⟨w1,ws,rfl,h1,h2⟩:=r2.consT
    cases h2.nilT
    obtain ⟨us4,h4,rr⟩:=m.cell _ _ q
    cases h1 with
    | @lst _ p vs h l r=>
    have rr2:Reps X.K S ys vs:=⟨l,r⟩
    have st:=zea m q (rr.app rr2)
    refine ziy pins s σ S.H (.ref (S.α a)) [.ref p] v us Q I rx rs ⟨S.α a,p,us4,vs,rfl,rfl,h4,zb8 h,by rw [← rr.1,← l];omega,?_⟩
    exact fin (S.put a (.lst (us4 ++ vs)) (.lst (xs0 ++ ys))) .non rfl st .non
   ·exact fin.elim
  ·exact fin.elim
 ·rename_i a b
  split at fin
  ·rename_i xs0 ys q qb
   split at fin
   ·rename_i hlt
    cases r1 with
    | ref ha=>
    obtain ⟨w1,ws,rfl,h1,h2⟩:=r2.consT
    cases h2.nilT
    obtain ⟨us4,h4,rr⟩:=m.cell _ _ q
    obtain ⟨us5,h5,rr5⟩:=m.cell _ _ qb
    cases h1 with
    | ref hb=>
    have st:=zea m q (rr.app rr5)
    refine ziy pins s σ S.H (.ref (S.α a)) [.ref (S.α b)] v us Q I rx rs ⟨S.α a,S.α b,us4,us5,rfl,rfl,h4,.inl (.inl h5),by rw [← rr.1,← rr5.1];omega,?_⟩
    exact fin (S.put a (.lst (us4 ++ us5)) (.lst (xs0 ++ ys))) .non rfl st .non
   ·exact fin.elim
  ·exact fin.elim
 ·exact fin.elim
end
structure WE (X:Cx) (XE:XK) (e:Expr) (f:Ev->Mem->Out T):Prop where
 pe:GE X XE e f
structure WT (X:Cx) (XE:XK) (e:Expr) (f:Ev->Mem->Out Bool):Prop where
 pe:GT X XE e f
structure WW (X:Cx) (XE:XK) (e:Expr) (f:Ev->Mem->Out Bool):Prop where
 pe:GW X XE e f
structure WA (X:Cx) (XE:XK) (e:List Expr) (f:Ev->Mem->Out (List T)):Prop where
 pe:GA X XE e f
structure WSs (X:Cx) (XE:XK) (e:List Stmt) (f:Ev->Mem->Out Fl):Prop where
 pe:GSs X XE e f
structure WS (X:Cx) (XE:XK) (e:Stmt) (f:Ev->Mem->Out Fl):Prop where
 pe:GS X XE e f
structure WL (X:Cx) (XE:XK) (e:Expr) (f:Ev->Mem->Out (List T)):Prop where
 pe:GL X XE e f
structure WGs (X:Cx) (XE:XK) (e:List Expr) (f:List T->Ev->Mem->Out Ev):Prop where
 pe:GGs X XE e f
structure WG (X:Cx) (XE:XK) (e:Expr) (f:T->Ev->Mem->Out Ev):Prop where
 pe:GG X XE e f
structure WO (X:Cx) (XE:XK) (e:Option Expr) (f:Ev->Mem->Out (Option Int)):Prop where
 pe:GO X XE e f
structure WI (X:Cx) (XE:XK) (tg iter:Expr) (f:Ev->Mem->Out (List T)):Prop where
 pe:GI X XE tg iter f
structure WX (X:Cx) (e:List Stmt) (f:Ev->Mem->Out Fl):Prop where
 pe:GX X e f
structure WIG (X:Cx) (XE:XK) (tg iter:Expr) (f:Ev->Mem->Out (List T × Gd)):Prop where
 pe:GIG X XE tg iter f
variable {op op':CmpOp} {ga:Ev->Mem->Out (List T)} {tf:Ev->Mem->Out Bool} {f h:Ev->Mem->Out T} {c e:Expr} {es:List Expr} {i:Nat} {pos:Pos} {o o':T->T->Mem->Out T}
section
variable {a b:Expr} {g:Ev->Mem->Out T}
theorem ya (h:PE X e (zgw i)):WE X XE e (yb i):=⟨PE.imp h fun σ H Q h9=>by
 obtain ⟨S,στ,_,e,m,ev,_,fin⟩:=h9
 replace fin:Fin XE (Rep X.K) X.K S (yb i στ S.M) Q:=fin
 unfold yb at fin
 cases q:στ[i]? with
 | none=>rw [q] at fin;exact fin.elim
 | some o=>
  cases o with
  | none=>rw [q] at fin;exact fin.elim
  | some t=>
   rw [q] at fin
   obtain ⟨v,e2,r⟩:=ev.2 i t q
   exact ⟨v,e2,by rw [← e];exact fin S v rfl (.refl m) r⟩⟩
theorem yc {i j}:WE X XE (.Constant (.int i) j pos) (eC (.int i)):=⟨zbp zpe fun _=>.int _⟩
theorem qN {i j}:WE X XE (.Constant (.bool i) j pos) (eC (.bl i)):=⟨zbp zqQ fun _=>.bl _⟩
theorem za0 {j}:WE X XE (.Constant .none j pos) (eC .non):=⟨zbp zpc fun _=>.non⟩
theorem zd {i j}:WE X XE (.Constant (.str i) j pos) (eC (.str i)):=⟨zbp zo9 fun _=>.str _⟩
theorem zZ {n:String} (hg:Gl X x) (hm:X.mg x = none) (hv:bootBuiltins x = some (.type n)) (hn:x ≠ "__name__":=by decide) (hd:(x == ("__debug__":Str)) = false:=by decide):WE X XE (.Name x pos) (eC (.ty n)):=⟨zbp (znq (v:=.ty n) hg hm hv rfl hn hd) fun _=>.ty _⟩
theorem zal {i:Int} (hg:Gl X x) (hm:∃ t,X.mg x = some (.int i t)) (hd:(x == ("__debug__":Str)) = false:=by decide):WE X XE (.Name x pos) (eC (.int i)):=by
 refine ⟨?_⟩
 obtain ⟨t,hm⟩:=hm
 exact zbp (zil (v:=.int i) hg hm ⟨_,rfl⟩ hd) fun _=>.int _
theorem yf {op:Operator} (ho:OpR X (binaryOp op) (lR2 XE X.K o)) (ha:WE X XE a f) (hb:WE X XE b g):WE X XE (.BinOp a op b pos) (eOp o f g):=by
 have ha:=ha.pe
 have hb:=hb.pe
 exact ⟨PE.imp (zqO ho ha hb) fun _ _ _ h=>zek h⟩
theorem zay (ho:OpR X (compareOp op) (lR2 XE X.K o)) (ha:WE X XE a f) (hb:WE X XE b g) (hm:behindInMarks op b = false):WE X XE (.Compare a [op] [b] pos) (eOp o f g):=by
 have ha:=ha.pe
 have hb:=hb.pe
 exact ⟨PE.imp (znp ho ha hb hm) fun _ _ _ h=>zek h⟩
theorem zoy {op:UnaryOp} {o:T->Mem->Out T} (ho:L2.UnR X (unaryOp op) (lR1 XE X.K o)) (ha:WE X XE a f):WE X XE (.UnaryOp op a pos) (eUn o f):=by
 have ha:=ha.pe
 exact ⟨PE.imp (zqN ho ha) fun σ H Q h=>
  LN.mono (LN.bind (f:=fun _ σ M=>f σ M) (k:=fun _ x σ M1=>o x M1) (RB:=Rep X.K) h) fun v H1 h2=>by
   obtain ⟨S,στ,a,e,m,ev,ra,fin⟩:=h2
   exact ⟨S,a.2,e,m,ra.2,fin⟩⟩
theorem qe (ho:IxR X (lR2 XE X.K o)) (ha:WE X XE a f) (hb:WE X XE b g) (hs:zfN b):WE X XE (.Subscript a b pos) (eOp o f g):=by
 have ha:=ha.pe
 have hb:=hb.pe
 exact ⟨PE.imp (zqP ho ha hb hs) fun _ _ _ h=>zek h⟩
theorem yC (ha:WE X XE e f) (he:∀ whole,isTrue e X.env whole = (do let v ← whole;standAt e.pos;holding [v] (truthy v)):=by intro _;rfl):WT X XE e (zm f):=by
 have ha:=ha.pe
 exact ⟨PT.imp (zoW ha he) fun σ H Q h=>
  LN.mono (LN.bind (f:=fun _ σ M=>f σ M) (k:=fun _ x σ M1=>blT x M1 fun b M2=>.ok b M2) (RB:=Rep X.K) h) fun v H1 h2=>by
   obtain ⟨S,στ,a,e,m,ev,ra,fin⟩:=h2
   obtain ⟨b,e1,_,fin⟩:=zfi ra.2 fin
   exact ⟨b,e1,by rw [← e];exact fin S b rfl (.refl m) rfl⟩⟩
theorem yq (ho:OpR X (compareOp op) (lR2 XE X.K o)) (ha:WE X XE a f) (hb:WE X XE b g) (hm:behindInMarks op b = false):WT X XE (.Compare a [op] [b] pos) (zm (eOp o f g)):=by
 have ha:=ha.pe
 have hb:=hb.pe
 exact ⟨PT.imp (zna ho ha hb hm) fun σ H Q h=>by
  have h1:=LN.bind (f:=fun _ σ M=>eOp o f g σ M) (k:=fun _ x σ M1=>blT x M1 fun b M2=>.ok b M2) (RB:=Rep X.K) h
  refine zek (LN.mono h1 fun v H1 h2=>?_)
  obtain ⟨S,στ,a,e,m,ev,ra,fin⟩:=h2
  obtain ⟨b,e1,_,fin⟩:=zfi ra.2 fin
  exact ⟨b,e1,by rw [← e];exact fin S b rfl (.refl m) rfl⟩⟩
variable {tg:Ev->Mem->Out Bool} {rest:List Expr}
theorem zaQ (ha:WT X XE a tf):WW X XE (.BoolOp .And [a] pos) tf:=by
 have ha:=ha.pe
 exact ⟨zm7 ha⟩
theorem zaw (ha:WT X XE a tf):WW X XE (.BoolOp .Or [a] pos) tf:=by
 have ha:=ha.pe
 exact ⟨zoT ha⟩
theorem y8 (ha:WT X XE a tf) (hb:WW X XE (.BoolOp .And (b :: rest) pos) tg):WW X XE (.BoolOp .And (a :: b :: rest) pos) (zM tf tg):=by
 have ha:=ha.pe
 have hb:=hb.pe
 exact ⟨PW.imp (zoU ha hb) fun σ H Q h=>
  LN.mono (tif (tf:=tf) (tg:=tg) (p:=fun c σ M1=>if c = true then tg σ M1 else .ok false M1) h) fun c H1 h1=>by
   cases c with
   | true=>exact (Qw rfl).mpr h1
   | false=>exact (Qy Q4).mpr (zgj h1)⟩
theorem zaH (ha:WT X XE a tf) (hb:WW X XE (.BoolOp .Or (b :: rest) pos) tg):WW X XE (.BoolOp .Or (a :: b :: rest) pos) (zbF tf tg):=by
 have ha:=ha.pe
 have hb:=hb.pe
 exact ⟨PW.imp (zqL ha hb) fun σ H Q h=>
  LN.mono (tif (tf:=tf) (tg:=tg) (p:=fun c σ M1=>if c = true then .ok true M1 else tg σ M1) h) fun c H1 h1=>by
   cases c with
   | true=>exact (Qw rfl).mpr (zgj h1)
   | false=>exact (Qy Q4).mpr h1⟩
theorem WW.gt (h:WW X XE e tf):WT X XE e tf:=⟨GW.gt h.pe⟩
theorem yB (ha:WT X XE a tf):WT X XE (.UnaryOp .Not a pos) (yJ tf):=by
 have ha:=ha.pe
 exact ⟨PT.imp (zoX ha) fun σ H Q h=>
  LN.mono (tif (tf:=tf) (tg:=tf) (p:=fun c σ M1=>.ok (!c) M1) h) fun c H1 h1=>zgj h1⟩
theorem zbP {op} (h:WE X XE a f):WE X XE (.BoolOp op [a] pos) f:=by
 have h:=h.pe
 exact ⟨zpa h⟩
theorem zbi (ha:WE X XE a f) (hb:WE X XE (.BoolOp .And (b :: rest) pos) g):WE X XE (.BoolOp .And (a :: b :: rest) pos) (zaX f g):=by
 have ha:=ha.pe
 have hb:=hb.pe
 exact ⟨PE.imp (zpi ha hb) fun σ H Q h=>
  LN.mono (eif (f:=f) (p:=fun b σ M2=>if b = true then g σ M2 else .ok (.bl false) M2) h) fun x H1 ⟨c,e,h1⟩=>⟨c,e,by
   cases c with
   | true=>exact (Qw rfl).mpr h1
   | false=>exact (Qy Q4).mpr (zmD h1 fun _=>.bl _)⟩⟩
theorem zmP (ha:WE X XE a f):WE X XE (.UnaryOp .Not a pos) (zmi f):=by
 have ha:=ha.pe
 exact ⟨PE.imp (zpb ha) fun σ H Q h=>
  LN.mono (eif (f:=f) (p:=fun b σ M2=>.ok (.bl (!b)) M2) h) fun x H1 ⟨c,e,h1⟩=>⟨c,e,zmD h1 fun _=>.bl _⟩⟩
theorem zbZ (hc:WT X XE c tf) (ha:WE X XE a f) (hb:WE X XE b g):WE X XE (.IfExp c a b pos) (eIf tf f g):=by
 have hc:=hc.pe
 have ha:=ha.pe
 have hb:=hb.pe
 exact ⟨PE.imp (zlA hc ha hb) fun σ H Q h=>
  LN.mono (LN.bind (f:=fun _ σ M=>tf σ M) (k:=fun _ c σ M1=>if c = true then f σ M1 else g σ M1) (RB:=EqR) h) fun c H1 h2=>by
   obtain ⟨S,στ,a,e,m,ev,ra,fin⟩:=h2
   have:a.2 = c:=ra.2
   subst this
   replace fin:Fin XE (Rep X.K) X.K S (if a.2 = true then f στ S.M else g στ S.M) Q:=fin
   cases q:a.2 with
   | true=>exact (Qw rfl).mpr ⟨S,στ,(),e,m,ev,trivial,by rw [q] at fin;exact fin⟩
   | false=>exact (Qy Q4).mpr ⟨S,στ,(),e,m,ev,trivial,by rw [q] at fin;exact fin⟩⟩
theorem zc :WA X XE [] qc:=⟨PA.imp zj4 fun σ H Q h9=>by
 obtain ⟨S,στ,_,e,m,ev,_,fin⟩:=h9
 show Q [] H
 rw [← e];exact fin S [] rfl (.refl m) .nil⟩
theorem za (ha:WE X XE e f) (hr:WA X XE es ga) (hs:noStar e = true:=by rfl):WA X XE (e :: es) (zb f ga):=by
 have ha:=ha.pe
 have hr:=hr.pe
 exact ⟨PA.imp (zio ha hr (yA hs)) fun σ H Q h=>
  LN.mono (LN.bind (f:=fun _ σ M=>f σ M) (k:=fun _ x σ M1=>(ga σ M1).bind fun xs M2=>.ok (x :: xs) M2) (RB:=Rep X.K) h) fun v H1 h1=>
   LN.mono (LN.env (f:=ga) (LN.bind (f:=fun _ σ M=>ga σ M) (k:=fun (ax:Unit × T) ys σ M2=>.ok (ax.2 :: ys) M2) (RB:=Reps X.K) h1)) fun w H2 h2=>by
    obtain ⟨S,στ,a,e,m,ev,ra,fin⟩:=h2
    show Q (v :: w) H2
    rw [← e]
    exact fin S _ rfl (.refl m) (Reps.cons ra.1.2 ra.2)⟩
theorem zT {x1} (h:WA X XE es ga):WE X XE (.Tuple es x1 pos) (zY ga):=by
 have h:=h.pe
 exact ⟨PE.imp (zo8 h) fun σ H Q h=>
  LN.mono (LN.bind (f:=fun _ σ M=>ga σ M) (k:=fun _ xs σ M1=>if xs.length<=sizeLine then .ok (T.tup xs) M1 else .bad) (RB:=Reps X.K) h) fun v H1 h2=>by
   obtain ⟨S,στ,a,e,m,ev,ra,fin⟩:=h2
   by_cases hl:a.2.length<=sizeLine
   ·replace fin:Fin XE (Rep X.K) X.K S (if a.2.length<=sizeLine then .ok (.tup a.2) S.M else .bad) Q:=fin
    rw [Qw hl] at fin
    refine ⟨by rw [← ra.2.1];exact hl,fun p hp=>?_⟩
    subst e
    have s:=Stp.new m hp (.tup v)
    exact fin ⟨S.α,S.M,upd S.H p (.tup v),S.hid⟩ (.ref p) rfl s (.tup (.inl (.inl yx)) ra.2.1 (ra.2.grow m s.toGrow).2)
   ·replace fin:Fin XE (Rep X.K) X.K S (if a.2.length<=sizeLine then .ok (.tup a.2) S.M else .bad) Q:=fin
    rw [Qy hl] at fin
    exact fin.elim⟩
theorem qm (h:WA X XE es ga):WL X XE (.List es pos) (zt ga):=by
 have h:=h.pe
 exact ⟨PE.imp (zpd h) fun σ H Q h9=>by
  obtain ⟨S,στ,e,m,ev,fin⟩:=h9
  replace fin:FinL XE X.K S ((ga στ S.M).bind fun xs M1=>if xs.length<=sizeLine then .ok xs M1 else .bad) Q:=fin
  refine ⟨S,στ,(),e,m,ev,trivial,?_⟩
  show Fin XE (Reps X.K) X.K S (ga στ S.M) _
  cases q:ga στ S.M with
  | bad=>rw [q] at fin;exact fin
  | exn C fs M'=>rw [q] at fin;exact fin
  | ok xs M1=>
   rw [q] at fin
   intro S1 vs e1 s1 r1
   by_cases hl:xs.length<=sizeLine
   ·replace fin:FinL XE X.K S (if xs.length<=sizeLine then .ok xs M1 else .bad) Q:=fin
    rw [Qw hl] at fin
    refine ⟨by rw [← r1.1];exact hl,fun p hp=>?_⟩
    have s2:=Stp.hide s1.mok hp vs
    exact (fin.later s1) (S1.hide p vs) p vs e1 s2 hp (.head _) yx (r1.grow s1.mok s2.toGrow)
   ·replace fin:FinL XE X.K S (if xs.length<=sizeLine then .ok xs M1 else .bad) Q:=fin
    rw [Qy hl] at fin
    exact fin.elim⟩
theorem yn (h:WL X XE e ga):WE X XE e (eFz ga):=by
 have h:=h.pe
 exact ⟨PE.imp h fun σ H Q ⟨S,στ,_,e,m,ev,_,fin⟩=>⟨S,στ,e,m,ev,by
  show FinL XE X.K S (ga στ S.M) Q
  replace fin:Fin XE (Rep X.K) X.K S ((ga στ S.M).bind fun xs M1=>.ok (.lst xs) M1) Q:=fin
  cases q:ga στ S.M with
  | bad=>rw [q] at fin;exact fin
  | exn C fs M'=>rw [q] at fin;exact fin
  | ok xs M1=>
   rw [q] at fin
   intro S1 p vs e1 s1 hn hp hv r
   exact fin (S1.show S.hid) (.ref p) e1 s1.show (zfF s1 hn m hp hv r)⟩⟩
theorem zak (h:WL X XE e ga):WE X XE e (eTk ga):=by
 have h:=h.pe
 exact ⟨PE.imp h fun σ H Q ⟨S,στ,_,e,m,ev,_,fin⟩=>⟨S,στ,e,m,ev,by
  show FinL XE X.K S (ga στ S.M) Q
  replace fin:Fin XE (Rep X.K) X.K S ((ga στ S.M).bind fun xs M1=>.ok (.ref M1.length) (M1 ++ [.lst xs])) Q:=fin
  cases q:ga στ S.M with
  | bad=>rw [q] at fin;exact fin
  | exn C fs M'=>rw [q] at fin;exact fin
  | ok xs M1=>
   rw [q] at fin
   intro S1 p vs e1 s1 hn hp hv r
   refine fin (S1.track p xs S.hid) (.ref p) (by show S1.M ++ _ = _;rw [e1]) (s1.track m hn hp hv r) ?_
   have this:(S1.track p xs S.hid).α S1.M.length = p:=Qw rfl
   rw [← e1]
   have hl:S1.M.length < (S1.track p xs S.hid).M.length:=by show _ < (S1.M ++ [Cell.lst xs]).length;simp
   have r2:Rep X.K (S1.track p xs S.hid) (.ref S1.M.length) (.ref ((S1.track p xs S.hid).α S1.M.length)):=.ref hl
   rw [this] at r2
   exact r2⟩⟩
theorem zdB (ho:OpR X (compareOp op) (lR2 XE X.K o)) (ho':OpR X (compareOp op') (lR2 XE X.K o')) (ha:WE X XE a f) (hb:WE X XE b g) (hc:WE X XE c h) (hm:lastMarks [op,op'] [b,c] = false:=by with_unfolding_all rfl):WE X XE (.Compare a [op,op'] [b,c] pos) (qU o o' f g h):=by
 have ha:=ha.pe
 have hb:=hb.pe
 have hc:=hc.pe
 exact ⟨PE.imp (zlB ho ho' ha hb hc hm) fun _ _ _ hh=>chain hh⟩
theorem zdA (ho:OpR X (compareOp op) (lR2 XE X.K o)) (ho':OpR X (compareOp op') (lR2 XE X.K o')) (ha:WE X XE a f) (hb:WE X XE b g) (hc:WE X XE c h) (hm:lastMarks [op,op'] [b,c] = false:=by with_unfolding_all rfl):WT X XE (.Compare a [op,op'] [b,c] pos) (zm (qU o o' f g h)):=by
 have ha:=ha.pe
 have hb:=hb.pe
 have hc:=hc.pe
 exact ⟨PT.imp (zlv ho ho' ha hb hc hm) fun σ H Q hh=>by
  have h1:=LN.bind (f:=fun _ σ M=>qU o o' f g h σ M) (k:=fun _ x σ M1=>blT x M1 fun b M2=>.ok b M2) (RB:=Rep X.K) hh
  refine chain (LN.mono h1 fun v H1 h2=>?_)
  obtain ⟨S,στ,a,e,m,ev,ra,fin⟩:=h2
  obtain ⟨b,e1,_,fin⟩:=zfi ra.2 fin
  exact ⟨b,e1,by rw [← e];exact fin S b rfl (.refl m) rfl⟩⟩
end
variable {iter tg:Expr} {sts:List Stmt} {n:Nat} {bd:T->Ev->Mem->Out Ev}
section
variable {a b:Expr} {g:Ev->Mem->Out T} {rest:List Stmt} {p q r:Ev->Mem->Out Fl}
theorem zu :WSs X XE [] yO:=⟨PSs.imp znc fun D σ H h9=>by
 obtain ⟨S,στ,_,e,m,ev,_,fin⟩:=h9
 show D.nx σ H
 rw [← e];exact fin S (.nx σ) rfl (.refl m) (.nx ev)⟩
theorem yd (h1:WS X XE st p) (h2:WSs X XE rest q):WSs X XE (st :: rest) (zg p q):=by
 have h1:=h1.pe
 have h2:=h2.pe
 exact ⟨PSs.imp (zlw h1 h2) fun _ _ _ hh=>zg7 hh⟩
theorem ye (h1:WS X XE st p):WSs X XE [st] p:=by
 have h1:=h1.pe
 exact ⟨znb h1⟩
theorem yk (he:WE X XE e f):WS X XE (.Return (some e) pos) (yu f):=by
 have he:=he.pe
 exact ⟨PS.imp (zoZ he) fun D σ H hh=>
  LN.mono (LN.bind (f:=fun _ σ M=>f σ M) (k:=fun _ t σ M1=>.ok (Fl.rt t) M1) (RB:=Rep X.K) hh) fun v H1 h9=>by
   obtain ⟨S,στ,a,e,m,ev,ra,fin⟩:=h9
   rw [← e];exact fin S (.rt v) rfl (.refl m) (.rt ra.2)⟩
theorem qQ (he:WE X XE e f) (hs:swapsWith e none pos.line X.env = pure false:=by rfl):WS X XE (.Expr e pos) (qO f):=by
 have he:=he.pe
 exact ⟨PS.imp (zng he hs) fun D σ H hh=>
  LN.mono (LN.bind (f:=fun _ σ M=>f σ M) (k:=fun _ t σ M1=>.ok (Fl.nx σ) M1) (RB:=Rep X.K) hh) fun v H1 h9=>by
   obtain ⟨S,στ,a,e,m,ev,ra,fin⟩:=h9
   show D.nx σ H1
   rw [← e];exact fin S (.nx σ) rfl (.refl m) (.nx ev)⟩
theorem qx (hc:WT X XE c tf) (ha:WSs X XE sts p) (hb:WSs X XE rest q):WS X XE (.If c sts rest pos) (sIf tf p q):=by
 have hc:=hc.pe
 have ha:=ha.pe
 have hb:=hb.pe
 exact ⟨PS.imp (zqM hc ha hb) fun D σ H hh=>
  LN.mono (LN.bind (f:=fun _ σ M=>tf σ M) (k:=fun _ c σ M1=>if c = true then p σ M1 else q σ M1) (RB:=EqR) hh) fun c H1 h2=>by
   obtain ⟨S,στ,a,e,m,ev,ra,fin⟩:=h2
   have:a.2 = c:=ra.2
   subst this
   replace fin:Fin XE (FlR X.K) X.K S (if a.2 = true then p στ S.M else q στ S.M) (qS D):=fin
   cases q:a.2 with
   | true=>exact (Qw rfl).mpr ⟨S,στ,(),e,m,ev,trivial,by rw [q] at fin;exact fin⟩
   | false=>exact (Qy Q4).mpr ⟨S,στ,(),e,m,ev,trivial,by rw [q] at fin;exact fin⟩⟩
theorem qg {pos':Pos} (hN:X.N.Nodup) (hi:X.N[i]? = some x) (hx:Loc X.env.scope x) (he:WE X XE e f) (hs:swapsWith e (some (.Name x pos')) pos.line X.env = pure false:=by rfl) (hf:X.fn x = true\/X.env.scope.names.lookup x = some .local:=by first | exact .inl rfl | exact .inr rfl | assumption):WS X XE (.Assign [.Name x pos'] e pos) (zn i f):=by
 have he:=he.pe
 exact ⟨PS.imp (zoY hN hi hx he hs hf) fun D σ H hh=>
  LN.mono (LN.bind (f:=fun _ σ M=>f σ M) (k:=fun _ t σ M1=>.ok (Fl.nx (σ.set i (some t))) M1) (RB:=Rep X.K) hh) fun v H1 h9=>by
   obtain ⟨S,στ,a,e,m,ev,ra,fin⟩:=h9
   show D.nx (σ.set i (some v)) H1
   rw [← e];exact fin S (.nx _) rfl (.refl m) (.nx (ev.set ra.2 i))⟩
theorem yi (h:PG X tg (zdo i)):WG X XE tg (qf i):=⟨PG.imp h fun v σ H Q h9=>by
 obtain ⟨S,στ,t,e,m,ev,ra,fin⟩:=h9
 show Q (σ.set i (some v)) H
 rw [← e];exact fin S _ rfl (.refl m) (ev.set ra i)⟩
theorem qY :WGs X XE [] zai:=⟨PGs.imp znk fun v σ H Q h9=>by
 obtain ⟨S,στ,t,e,m,ev,ra,fin⟩:=h9
 cases t with
 | nil=>exact ⟨ra.nilT,by rw [← e];exact fin S _ rfl (.refl m) ev⟩
 | cons t r=>exact fin.elim⟩
theorem zp {bs:List T->Ev->Mem->Out Ev} (h:PGs X (e :: es) (zjg (lG XE X.K bd) (lGs XE X.K bs))):WGs X XE (e :: es) (yo bd bs):=⟨PGs.imp h fun v σ H Q h9=>by
 obtain ⟨S,στ,t,e,m,ev,ra,fin⟩:=h9
 cases t with
 | nil=>exact fin.elim
 | cons t r=>
  obtain ⟨v1,vs,rfl,r1,r2⟩:=ra.consT
  refine ⟨v1,vs,rfl,?_⟩
  replace fin:Fin XE (EvR X.K) X.K S ((bd t στ S.M).bind fun σ1 M1=>bs r σ1 M1) Q:=fin
  refine ⟨S,στ,t,e,m,ev,r1,?_⟩
  show Fin XE (EvR X.K) X.K S (bd t στ S.M) _
  cases o:bd t στ S.M with
  | bad=>rw [o] at fin;exact fin
  | exn C fs M'=>rw [o] at fin;exact fin
  | ok σ1 M1=>
   rw [o] at fin
   intro S1 cc e1 s1 ev1
   exact ⟨S1,σ1,r,rfl,s1.mok,ev1,r2.grow m s1.toGrow,by rw [e1];exact Fin.later s1 fin⟩⟩
theorem zax {bs:List T->Ev->Mem->Out Ev} (h:PG X tg (zmc X.K n (lGs XE X.K bs))):WG X XE tg (zah n bs):=⟨PG.imp h fun v σ H Q h9=>by
 obtain ⟨S,στ,t,e,m,ev,ra,fin⟩:=h9
 cases ra with
 | @tup ts p vs h l r=>
  replace fin:Fin XE (EvR X.K) X.K S (if ts.length = n then bs ts στ S.M else .bad) Q:=fin
  by_cases hn:ts.length = n
  ·rw [Qw hn] at fin
   exact ⟨p,vs,rfl,by rw [← e];exact h,by rw [← l];exact hn,S,στ,ts,e,m,ev,⟨l,r⟩,fin⟩
  ·rw [Qy hn] at fin;exact fin.elim
 | _=>exact fin.elim⟩
theorem zfm (he:WE X XE e f) (hg:WG X XE tg bd) (hs:swapsWithSole [tg] e pos.line X.env = pure false:=by rfl) (hw:swappedStores [tg] e X.env = pure none:=by rfl) (h1:(assignEach [tg] X.env).map (·.2) = [assign tg X.env]:=by rfl):WS X XE (.Assign [tg] e pos) (zgO f bd):=by
 have he:=he.pe
 have hg:=hg.pe
 exact ⟨PS.imp (zo1 he hg hs hw h1) fun D σ H hh=>
  LN.mono (LN.bind (f:=fun _ σ M=>f σ M) (k:=fun _ t σ M1=>(bd t σ M1).bind fun σ1 M2=>.ok (Fl.nx σ1) M2) (RB:=Rep X.K) hh) fun v H1 ⟨S,στ,a,e,m,ev,ra,fin⟩=>
   zqY ⟨S,στ,a.2,e,m,ev,ra.2,fin⟩⟩
theorem z9 (hp:PassesOwn (model X.prog X.w) X.A X.env X.xe) (hc:X.calm = true) (hi:WI X XE tg iter ga) (hg:WG X XE tg bd) (hb:WSs X XE sts p) (hs:∀ x,foldedSetIterable iter X.env x = pure x:=by intro _;rfl):WS X XE (.For tg iter sts [] pos) (zbk ga bd p):=by
 have hi:=hi.pe
 have hg:=hg.pe
 have hb:=hb.pe
 exact ⟨PS.imp (zo0 hp hc hi hg hb hs) fun D σ H hh=>by
  refine LN.mono (LN.bind (f:=fun _ σ M=>ga σ M) (k:=fun _ xs σ M1=>forL bd p xs σ M1) (RB:=zbJ X.K) hh) fun J H1 h1=>?_
  obtain ⟨S,στ,a,e,m,ev,ra,fin⟩:=h1
  refine ⟨fun i n σ H=>∃ S στ,S.H = H/\MemOk X.K S/\EvR X.K S στ σ/\zbJ X.K S a.2 J/\n = a.2.length - i/\i<=a.2.length/\Fin XE (FlR X.K) X.K S (forL bd p (a.2.drop i) στ S.M) (qS D),⟨_,S,στ,e,m,ev,ra.2,rfl,Nat.zero_le _,fin⟩,?_⟩
  rintro i n σ1 H2 ⟨S1,στ1,e1,m1,ev1,it1,en,hi1,fin1⟩
  subst e1
  obtain ⟨it2,it3⟩:=it1 S1 (.refl m1)
  by_cases hl:i < a.2.length
  ·have eq:a.2.drop i = a.2[i] :: a.2.drop (i + 1):=List.drop_eq_getElem_cons hl
   rw [eq] at fin1
   obtain ⟨go,yl⟩:=it2 i a.2[i] (by simp [hl])
   refine .inr ⟨go,fun σ' H'=>∃ S στ,S.H = H'/\MemOk X.K S/\EvR X.K S στ σ'/\zbJ X.K S a.2 J/\Fin XE (FlR X.K) X.K S (forL bd p (a.2.drop (i + 1)) στ S.M) (qS D),?_,fun x H' hy=>?_⟩
   ·rintro σ' H' ⟨S2,στ2,e2,m2,ev2,it4,fin2⟩
    exact ⟨a.2.length - (i + 1),by omega,S2,στ2,e2,m2,ev2,it4,rfl,hl,fin2⟩
   ·obtain ⟨S2,e2,eM,s2,r2⟩:=yl x H' hy
    replace fin1:Fin XE (FlR X.K) X.K S1 ((bd a.2[i] στ1 S1.M).bind fun σ1 M1=>(p σ1 M1).bind (yU (forL bd p (a.2.drop (i + 1))))) (qS D):=fin1
    refine ⟨S2,στ1,a.2[i],e2,s2.mok,Mo.mo m1 s2 ev1,r2,?_⟩
    rw [eM]
    cases o:bd a.2[i] στ1 S1.M with
    | bad=>rw [o] at fin1;exact fin1
    | exn C fs M'=>rw [o] at fin1;exact Fin.later s2 fin1
    | ok σ3 M3=>
     rw [o] at fin1
     intro S3 σ3v e3 s3 ev3
     have s13:=s2.trans s3
     refine ⟨S3,σ3,(),rfl,s3.mok,ev3,trivial,?_⟩
     show Fin XE (FlR X.K) X.K S3 (p σ3 S3.M) _
     rw [e3]
     replace fin1:Fin XE (FlR X.K) X.K S1 ((p σ3 M3).bind (yU (forL bd p (a.2.drop (i + 1))))) (qS D):=fin1
     cases o2:p σ3 M3 with
     | bad=>rw [o2] at fin1;exact fin1
     | exn C fs M'=>rw [o2] at fin1;exact Fin.later s13 fin1
     | ok fl M4=>
      rw [o2] at fin1
      intro S4 fv e4 s4 r4
      have s14:=s13.trans s4
      cases r4 with
      | nx r4=>exact ⟨S4,_,rfl,s4.mok,r4,Mo.mo m1 s14 it1,by rw [e4];exact Fin.later s14 fin1⟩
      | ct r4=>exact ⟨S4,_,rfl,s4.mok,r4,Mo.mo m1 s14 it1,by rw [e4];exact Fin.later s14 fin1⟩
      | bk r4=>exact fin1 S4 (.nx _) e4 s14 (.nx r4)
      | rt r4=>exact fin1 S4 (.rt _) e4 s14 (.rt r4)
  ·rw [List.drop_eq_nil_of_le (by omega)] at fin1
   refine .inl ⟨it3 i (by omega),?_⟩
   exact fin1 S1 (.nx σ1) rfl (.refl m1) (.nx ev1)⟩
end
variable {F:List T->Mem->Out T}
section
variable {p:Pos}
theorem zi (C:CalT X.prog X.w X.K X.mg X.base k x ps F) (hr:Room k X.A) (hg:Gl X x) (ha:WA X XE (e :: es) ga) (hdb:(x == ("__debug__":Str)) = false:=by decide) (he:noStar e = true:=by rfl) (hpl:es.all noStar = true:=by rfl):WE X XE (.Call (.Name x p) (e :: es) [] pos) (qd F ga):=by
 have ha:=ha.pe
 exact ⟨PE.imp (zpg C.cal hr hg ha hdb (yA he) (zb0 hpl)) fun σ H Q hh=>
  LN.mono (LN.bind (f:=fun _ σ M=>ga σ M) (k:=fun _ ts σ M1=>F ts M1) (RB:=Reps X.K) hh) fun vs H1 h9=>by
   obtain ⟨S,στ,a,e,m,ev,ra,fin⟩:=h9
   rw [append_nil]
   refine ⟨S,a.2,e,m,ra.2,?_⟩
   show Fin E0 (Rep X.K) X.K S (F a.2 S.M) Q
   replace fin:Fin XE (Rep X.K) X.K S (F a.2 S.M) Q:=fin
   cases o:F a.2 S.M with
   | bad=>rw [o] at fin;exact fin
   | exn C' fs M'=>exact absurd o (C.nox _ _ _ _ _)
   | ok t M1=>rw [o] at fin;exact fin⟩
theorem zj {id:String} (hc:CallR X (.builtin id) (lRN XE X.K F)) (hg:Gl X x) (hm:X.mg x = none) (hv:bootBuiltins x = some (.builtin id)) (ha:WA X XE (e :: es) ga) (hn:x ≠ "__name__":=by decide) (hdb:(x == ("__debug__":Str)) = false:=by decide) (he:noStar e = true:=by rfl) (hpl:es.all noStar = true:=by rfl):WE X XE (.Call (.Name x p) (e :: es) [] pos) (qd F ga):=by
 have ha:=ha.pe
 exact ⟨PE.imp (zgU hc hg hm hv ha hn hdb (yA he) (zb0 hpl)) fun σ H Q hh=>
  LN.mono (LN.bind (f:=fun _ σ M=>ga σ M) (k:=fun _ ts σ M1=>F ts M1) (RB:=Reps X.K) hh) fun vs H1 ⟨S,στ,a,e,m,ev,ra,fin⟩=>⟨S,a.2,e,m,ra.2,fin⟩⟩
theorem yG {id:String} (hc:CallR X (.type id) (lRN XE X.K F)) (hg:Gl X x) (hm:X.mg x = none) (hv:bootBuiltins x = some (.type id)) (ha:WA X XE (e :: es) ga) (hn:x ≠ "__name__":=by decide) (hdb:(x == ("__debug__":Str)) = false:=by decide) (he:noStar e = true:=by rfl) (hpl:es.all noStar = true:=by rfl):WE X XE (.Call (.Name x p) (e :: es) [] pos) (qd F ga):=by
 have ha:=ha.pe
 exact ⟨PE.imp (zfV hc hg hm hv ha hn hdb (yA he) (zb0 hpl)) fun σ H Q hh=>
  LN.mono (LN.bind (f:=fun _ σ M=>ga σ M) (k:=fun _ ts σ M1=>F ts M1) (RB:=Reps X.K) hh) fun vs H1 ⟨S,στ,a,e,m,ev,ra,fin⟩=>⟨S,a.2,e,m,ra.2,fin⟩⟩
end
section
variable {a b:Expr} {g:Ev->Mem->Out T} {p:Pos}
theorem zF (he:WE X XE e f):WI X XE tg e (qX f):=⟨zp3 he.pe⟩
theorem zbK (hg:Gl X "range") (hm:X.mg "range" = none) (ha:WA X XE [a] ga) (hs:starEach [a] X.env = [(false,eval a X.env)]:=by rfl):WI X XE tg (.Call (.Name "range" p) [a] [] pos) (zbT ga):=by
 have ha:=ha.pe
 exact ⟨PI.imp (zj0 hg hm ha hs) fun σ H R hh=>
  LN.mono (LN.bind (f:=fun _ σ M=>ga σ M) (k:=fun _ ts σ M1=>zfu ts M1) (RB:=Reps X.K) hh) fun vs H1 h9=>by
   obtain ⟨S,στ,a,e,m,ev,ra,fin⟩:=h9
   obtain ⟨u,ts⟩:=a
   have rr:Reps X.K S ts vs:=ra.2
   replace fin:Fin XE (zbJ X.K) X.K S (zfu ts S.M) R:=fin
   unfold zfu at fin
   split at fin
   ·rename_i j
    obtain ⟨v,vs',rfl,r1,r2⟩:=rr.consT
    cases r1
    rw [r2.nilT]
    split at fin
    ·rename_i hj
     exact ⟨j,rfl,hj.1,hj.2,by rw [← e];exact fin S _ rfl (.refl m) (zlU _ _ _ _)⟩
    ·exact fin.elim
   ·exact fin.elim⟩
end
variable {cond:Ev->Mem->Out Bool} {elt:Expr} {cl:List (Str × Addr)} {caps:List (Str × Nat)} {ifs:List Expr} {tgs:List Str} {scope:Scope}
section
theorem zG (hi:WI X XE tg iter ga) (cb:CB X scope cl caps) (hg:∀ ex s0 H0,WG (X.block scope cl (tgs ++ caps.map (·.1)) ex s0 H0) XE tg bd) (hif:∀ ex s0 H0,PTs (X.block scope cl (tgs ++ caps.map (·.1)) ex s0 H0) ifs (lT XE X.K cond)) (hel:∀ ex s0 H0,WE (X.block scope cl (tgs ++ caps.map (·.1)) ex s0 H0) XE elt f) (hs:∀ x,foldedSetIterable iter X.env x = pure x:=by intro _;rfl):WL X XE (.ListComp elt [⟨tg,iter,ifs,0⟩] scope pos) (yH ga bd cond f tgs caps):=by
 have hi:=hi.pe
 have hg:=fun ex s0 H0=>(hg ex s0 H0).pe
 have hel:=fun ex s0 H0=>(hel ex s0 H0).pe
 exact ⟨PE.imp (zim (tgs:=tgs) (g:=lG XE X.K bd) (tc:=lT XE X.K cond) (te:=lE XE X.K f) cb.hc hi cb.hclos cb.hcell cb.hkind cb.hnames cb.hcl cb.hhas cb.hcap hg hif hel hs) fun σ H Q hh=>zht hh⟩
theorem zgq {i0:Nat} {y0:Str} {py spos:Pos} (hi:WI X XE tg iter ga) (cb:CB X scope cl caps) (hg:∀ ex s0 H0,WG (X.block scope cl (tgs ++ caps.map (·.1)) ex s0 H0) XE tg bd) (hif:∀ ex s0 H0,PTs (X.block scope cl (tgs ++ caps.map (·.1)) ex s0 H0) ifs (lT XE X.K cond)) (hel:∀ ex s0 H0,WE (X.block scope cl (tgs ++ caps.map (·.1)) ex s0 H0) XE elt f) (hN0:X.N.Nodup) (hi0:X.N[i0]? = some y0) (hx0:Loc X.env.scope y0) (hsw:swapsWith (.ListComp elt [⟨tg,iter,ifs,0⟩] scope pos) (some (.Name y0 py)) spos.line X.env = pure true:=by rfl) (hf0:X.fn y0 = true\/X.env.scope.names.lookup y0 = some .local:=by first | exact .inl rfl | exact .inr rfl | assumption) (hs:∀ x,foldedSetIterable iter X.env x = pure x:=by intro _;rfl):WS X XE (.Assign [.Name y0 py] (.ListComp elt [⟨tg,iter,ifs,0⟩] scope pos) spos) (zn i0 (eFz (yH ga bd cond f tgs caps))):=by
 have hi:=hi.pe
 have hg:=fun ex s0 H0=>(hg ex s0 H0).pe
 have hel:=fun ex s0 H0=>(hel ex s0 H0).pe
 exact ⟨PS.imp (zi4 (tgs:=tgs) (g:=lG XE X.K bd) (tc:=lT XE X.K cond) (te:=lE XE X.K f) cb.hc hi cb.hclos cb.hcell cb.hkind cb.hnames cb.hcl cb.hhas cb.hcap hg hif hel hN0 hi0 hx0 hsw hf0 hs) fun D σ H ⟨S,στ,_,e,m,ev,_,fin⟩=>zht ⟨S,στ,e,m,ev,by
  show FinL XE X.K S (yH ga bd cond f tgs caps στ S.M) _
  replace fin:Fin XE (FlR X.K) X.K S (((yH ga bd cond f tgs caps στ S.M).bind fun xs M1=>.ok (T.lst xs) M1).bind fun t M1=>.ok (.nx (στ.set i0 (some t))) M1) (qS D):=fin
  cases q:yH ga bd cond f tgs caps στ S.M with
  | bad=>rw [q] at fin;exact fin
  | exn C fs M'=>rw [q] at fin;exact fin
  | ok xs M1=>
   rw [q] at fin
   intro S1 p vs e1 s1 hn hp hv r
   exact fin (S1.show S.hid) (.nx (σ.set i0 (some (.ref p)))) e1 s1.show (.nx ((Mo.mo (K:=X.K) m s1.show ev).set (zfF s1 hn m hp hv r) i0))⟩⟩
theorem zA :PTs X [] (lT XE X.K zw):=znT 
end
variable {cpos:Pos}
section
theorem zfn {o i:Expr} {g:Ev->Mem->Out T} {st:T->T->T->Mem->Out Unit} (ho:WE X XE o f) (hi:WE X XE i g) (hs:zhL X (zlR XE X.K st)) (ha:∀ v,assign (.Subscript o i pos) X.env v = (do
 let ov ← holding [v] (eval o X.env)
 let iv ← holding [v,ov] (eval i X.env)
 standAt pos
 holding [v,ov,iv] (setItem ov iv v)
 release [v,ov,iv] []):=by intro _;rfl):WG X XE (.Subscript o i pos) (zhF st f g):=by
 have ho:=ho.pe
 have hi:=hi.pe
 exact ⟨PG.imp (zo4 ho hi hs ha) fun v σ H Q hh=>by
  have h1:LN XE (EvR X.K) X.K (Rep X.K) (fun t σ M=>(f σ M).bind fun o M1=>(g σ M1).bind fun i M2=>(st o i t M2).bind fun _ M3=>.ok σ M3) v σ H Q:=hh
  refine LN.mono (LN.env (f:=f) (LN.bind (f:=fun _ σ M=>f σ M) (k:=fun t o σ M1=>(g σ M1).bind fun i M2=>(st o i t M2).bind fun _ M3=>.ok σ M3) (RB:=Rep X.K) h1)) fun ov H1 h2=>?_
  refine LN.mono (LN.env (f:=g) (LN.bind (f:=fun _ σ M=>g σ M) (k:=fun (to:T × T) i σ M2=>(st to.2 i to.1 M2).bind fun _ M3=>.ok σ M3) (RB:=Rep X.K) h2)) fun iv H2 h3=>?_
  obtain ⟨S,στ,a,e,m,ev,ra,fin⟩:=h3
  refine ⟨S,((a.1.2,a.2),a.1.1),e,m,⟨⟨ra.1.2,ra.2⟩,ra.1.1⟩,?_⟩
  show Fin XE UnR X.K S (st a.1.2 a.2 a.1.1 S.M) _
  replace fin:Fin XE (EvR X.K) X.K S ((st a.1.2 a.2 a.1.1 S.M).bind fun _ M3=>.ok στ M3) Q:=fin
  cases o:st a.1.2 a.2 a.1.1 S.M with
  | bad=>rw [o] at fin;exact fin
  | exn C fs M'=>rw [o] at fin;exact fin
  | ok b M1=>
   rw [o] at fin
   intro S1 c e1 s1 _
   exact fin S1 σ e1 s1 (Mo.mo m s1 ev)⟩
theorem zaz {o:Expr} {apos:Pos} (h:PE X (.Call (.Attribute o "append" apos) [e] [] cpos) (tBM X.K "list" zfw (lE XE X.K f) (lA XE X.K ga))):WE X XE (.Call (.Attribute o "append" apos) [e] [] cpos) (zaj yW (eUn qI f) ga):=⟨PE.imp h fun σ H Q hh=>by
 obtain ⟨S,στ,_,e0,m,ev,_,fin⟩:=hh
 replace fin:Fin XE (Rep X.K) X.K S (((f στ S.M).bind fun x M1=>qI x M1).bind fun x M1=>(ga στ M1).bind fun ts M2=>yW x ts M2) Q:=fin
 refine ⟨S,στ,(),e0,m,ev,trivial,?_⟩
 show Fin XE (Rep X.K) X.K S (f στ S.M) _
 cases o1:f στ S.M with
 | bad=>rw [o1] at fin;exact fin
 | exn C fs M'=>rw [o1] at fin;exact fin
 | ok x M1=>
  rw [o1] at fin
  intro S1 v e1 s1 r1
  replace fin:Fin XE (Rep X.K) X.K S ((qI x M1).bind fun x M1=>(ga στ M1).bind fun ts M2=>yW x ts M2) Q:=fin
  unfold qI at fin
  cases q:zv x M1 with
  | none=>rw [q] at fin;exact fin.elim
  | some xs=>
   rw [q] at fin
   replace fin:Fin XE (Rep X.K) X.K S ((ga στ M1).bind fun ts M2=>yW x ts M2) Q:=fin
   obtain ⟨p,vs,rfl,hq,_⟩:=qw s1.mok r1 (by rw [e1];exact q)
   refine ⟨.inl ⟨rfl,vs,hq⟩,S1,στ,(),rfl,s1.mok,Mo.mo m s1 ev,trivial,?_⟩
   show Fin XE (Reps X.K) X.K S1 (ga στ S1.M) _
   rw [e1]
   cases o2:ga στ M1 with
   | bad=>rw [o2] at fin;exact fin
   | exn C fs M'=>rw [o2] at fin;exact Fin.later s1 fin
   | ok ts M2=>
    rw [o2] at fin
    intro S2 ws e2 s2 r2
    replace fin:Fin XE (Rep X.K) X.K S (yW x ts M2) Q:=fin
    have fin2:=Fin.later (s1.trans s2) fin
    unfold yW at fin2
    split at fin2
    ·split at fin2
     ·rename_i a t _ ys qy
      split at fin2
      ·rename_i hz
       obtain ⟨w,ws',rfl,r3,r4⟩:=r2.consT
       rw [r4.nilT]
       have r1':=r1.grow s1.mok s2.toGrow
       cases r1' with
       | ref ha2=>
       obtain ⟨us,q3,rs⟩:=s2.mok.cell a _ (by rw [e2];exact qy)
       refine ⟨S2.α a,us,w,rfl,rfl,q3,by rw [← rs.1];exact hz,?_⟩
       exact fin2 (S2.put a (.lst (us ++ [w])) (.lst (ys ++ [t]))) .non (by show S2.M.set a _ = _;rw [e2]) (zea s2.mok (by rw [e2];exact qy) (rs.app (.cons r3 .nil))) .non
      ·exact fin2.elim
     ·exact fin2.elim
    ·exact fin2.elim⟩
end
section
theorem zbY :WO X XE none zcn:=⟨PO.imp znj fun σ H Q h9=>by
 obtain ⟨S,στ,_,e,m,ev,_,fin⟩:=h9
 show Q none H
 rw [← e];exact fin S none rfl (.refl m) rfl⟩
theorem zbX (h:WE X XE e f):WO X XE (some e) (zcm f):=by
 have h:=h.pe
 exact ⟨PO.imp (zni h) fun σ H Q hh=>
  LN.mono (LN.bind (f:=fun _ σ M=>f σ M) (k:=fun _ x σ M1=>zlW x M1) (RB:=Rep X.K) hh) fun v H1 h9=>by
   obtain ⟨S,στ,a,e,m,ev,ra,fin⟩:=h9
   obtain ⟨u,t⟩:=a
   have r:Rep X.K S t v:=ra.2
   replace fin:Fin XE EqR X.K S (zlW t S.M) Q:=fin
   cases r with
   | int i=>exact ⟨i,rfl,by rw [← e];exact fin S (some i) rfl (.refl m) rfl⟩
   | _=>exact fin.elim⟩
theorem zjA {lo hi:Option Expr} {p q:Ev->Mem->Out (Option Int)} {p2:Pos} (he:WE X XE e f) (hl:WO X XE lo p) (hu:WO X XE hi q):WE X XE (.Subscript e (.Slice lo hi none p2) pos) (eSl f p q):=by
 have he:=he.pe
 have hl:=hl.pe
 have hu:=hu.pe
 exact ⟨PE.imp (zgT zoK he hl hu) fun σ H Q hh=>
  LN.mono (LN.bind (f:=fun _ σ M=>f σ M) (k:=fun _ x σ M1=>(p σ M1).bind fun lo M2=>(q σ M2).bind fun hi M3=>zeR x lo hi M3) (RB:=Rep X.K) hh) fun v H1 h1=>
   LN.mono (LN.env (f:=p) (LN.bind (f:=fun _ σ M=>p σ M) (k:=fun (ax:Unit × T) lo σ M2=>(q σ M2).bind fun hi M3=>zeR ax.2 lo hi M3) (RB:=EqR) h1)) fun l H2 h2=>
    LN.mono (LN.env (f:=q) (LN.bind (f:=fun _ σ M=>q σ M) (k:=fun (ax:(Unit × T) × Option Int) hi σ M3=>zeR ax.1.2 ax.2 hi M3) (RB:=EqR) h2)) fun w H3 h9=>by
     obtain ⟨S,στ,a,e,m,ev,ra,fin⟩:=h9
     have e1:a.1.2 = l:=ra.1.2
     have e2:a.2 = w:=ra.2
     exact ⟨S,a.1.1.2,e,m,ra.1.1.2,by rw [← e1,← e2];exact fin⟩⟩
end
section
theorem zaR {o e:Expr} {es:List Expr} {n:Str} {Ty:String} {f:Ev->Mem->Out T} {ga:Ev->Mem->Out (List T)} {chk:T->Mem->Bool} {F:T->List T->Mem->Out T} {apos cpos:Pos} (hc:∀ {K:Frag} {S:Sit},MemOk K S->∀ {t:T} {x:V},Rep K S t x->chk t S.M = true->tyV K Ty x S.H) (h:PE X (.Call (.Attribute o n apos) (e :: es) [] cpos) (tBM X.K Ty (lMt XE X.K F) (lE XE X.K f) (lA XE X.K ga))):WE X XE (.Call (.Attribute o n apos) (e :: es) [] cpos) (qA chk F f ga):=⟨PE.imp h fun σ H Q hh=>by
 obtain ⟨S,στ,_,e0,m,ev,_,fin⟩:=hh
 replace fin:Fin XE (Rep X.K) X.K S ((f στ S.M).bind fun x M1=>if chk x M1 = true then (ga στ M1).bind fun ts M2=>F x ts M2 else .bad) Q:=fin
 refine ⟨S,στ,(),e0,m,ev,trivial,?_⟩
 show Fin XE (Rep X.K) X.K S (f στ S.M) _
 cases o1:f στ S.M with
 | bad=>rw [o1] at fin;exact fin
 | exn C fs M'=>rw [o1] at fin;exact fin
 | ok x M1=>
  rw [o1] at fin
  intro S1 v e1 s1 r1
  replace fin:Fin XE (Rep X.K) X.K S (if chk x M1 = true then (ga στ M1).bind fun ts M2=>F x ts M2 else .bad) Q:=fin
  split at fin
  ·rename_i hk
   refine ⟨hc s1.mok r1 (by rw [e1];exact hk),S1,στ,(),rfl,s1.mok,Mo.mo m s1 ev,trivial,?_⟩
   show Fin XE (Reps X.K) X.K S1 (ga στ S1.M) _
   rw [e1]
   cases o2:ga στ M1 with
   | bad=>rw [o2] at fin;exact fin
   | exn C fs M'=>rw [o2] at fin;exact Fin.later s1 fin
   | ok ts M2=>
    rw [o2] at fin
    intro S2 ws e2 s2 r2
    replace fin:Fin XE (Rep X.K) X.K S (F x ts M2) Q:=fin
    have fin2:=Fin.later (s1.trans s2) fin
    exact ⟨S2,(x,ts),rfl,s2.mok,⟨r1.grow s1.mok s2.toGrow,r2⟩,by show Fin XE (Rep X.K) X.K S2 (F x ts S2.M) Q;rw [e2];exact fin2⟩
  ·exact fin.elim⟩
end
variable {l:Expr} {elts:List Expr} {tp:Pos}
section
theorem zk4 {x1} {p:Pos} (hg:Gl X "enumerate") (hm:X.mg "enumerate" = none) (he:WE X XE l f) (hs:noStar l = true:=by rfl):WI X XE (.Tuple elts x1 tp) (.Call (.Name "enumerate" p) [l] [] pos) (zgk f):=by
 have he:=he.pe
 exact ⟨PI.imp (zly hg hm he (yA hs)) fun σ H R h9=>by
  obtain ⟨S,στ,_,e,m,ev,_,fin⟩:=h9
  replace fin:Fin XE (zbJ X.K) X.K S ((f στ S.M).bind fun t M1=>match t with | .tup ts=>.ok (enT ts) M1 | _=>.bad) R:=fin
  refine ⟨S,στ,(),e,m,ev,trivial,?_⟩
  show Fin XE (Rep X.K) X.K S (f στ S.M) _
  cases o:f στ S.M with
  | bad=>rw [o] at fin;exact fin.elim
  | exn C fs M'=>rw [o] at fin;exact fin
  | ok t M1=>
   rw [o] at fin
   cases t with
   | tup ts=>
    intro S1 v e1 s1 r1
    cases r1 with
    | @tup _ p vs h l r=>
     have r1:Reps X.K S1 ts vs:=⟨l,r⟩
     refine ⟨p,rfl,⟨vs,h⟩,fin S1 _ e1 s1 fun S3 s3=>?_⟩
     have g3:SqT X.K S3.H p vs:=s3.toGrow.tup s1.mok h
     refine ⟨fun i t et=>?_,fun i hi=>⟨vs,g3,by rw [← l];simpa [enT] using hi⟩⟩
     unfold enT at et
     rw [List.getElem?_mapIdx] at et
     obtain ⟨t0,et0,rfl⟩:=Option.map_eq_some_iff.mp et
     obtain ⟨v2,ev3,r3⟩:=r1.get et0
     refine ⟨⟨vs,v2,g3,ev3⟩,fun x H' hy=>?_⟩
     obtain ⟨q,y,hq,rfl,rfl,hy⟩:=hy
     have:=hy vs g3
     rw [ev3] at this
     cases this
     have s4:=Stp.new s3.mok hq (.tup [.int (i:Int),v2])
     have r4:=(r3.grow s1.mok s3.toGrow).grow s3.mok s4.toGrow
     refine ⟨⟨S3.α,S3.M,upd S3.H q (.tup [.int (i:Int),v2]),S3.hid⟩,rfl,rfl,s4,?_⟩
     have rr:Reps X.K ⟨S3.α,S3.M,upd S3.H q (.tup [.int (i:Int),v2]),S3.hid⟩ [.int (i:Int),t0] [.int (i:Int),v2]:=.cons (.int _) (.cons r4 .nil)
     exact .tup (.inl (.inl yx)) rr.1 rr.2
   | _=>exact fin.elim⟩
end
section
theorem zjz {x1} {p:Pos} (hg:Gl X "enumerate") (hm:X.mg "enumerate" = none) (he:WE X XE l f) (hs:noStar l = true:=by rfl):WI X XE (.Tuple elts x1 tp) (.Call (.Name "enumerate" p) [l] [] pos) (ze7 f):=by
 have he:=he.pe
 exact ⟨PI.imp (zlz hg hm he (yA hs)) fun σ H R h9=>by
  obtain ⟨S,στ,_,e,m,ev,_,fin⟩:=h9
  replace fin:Fin XE (zbJ X.K) X.K S ((f στ S.M).bind fun t M1=>match t with | .lst ts=>.ok (enT ts) M1 | _=>.bad) R:=fin
  refine ⟨S,στ,(),e,m,ev,trivial,?_⟩
  show Fin XE (Rep X.K) X.K S (f στ S.M) _
  cases o:f στ S.M with
  | bad=>rw [o] at fin;exact fin.elim
  | exn C fs M'=>rw [o] at fin;exact fin
  | ok t M1=>
   rw [o] at fin
   cases t with
   | lst ts=>
    intro S1 v e1 s1 r1
    cases r1 with
    | @lst _ p vs h l r=>
     have r1:Reps X.K S1 ts vs:=⟨l,r⟩
     refine ⟨p,rfl,⟨vs,zb8 h⟩,fin S1 _ e1 s1 fun S3 s3=>?_⟩
     have g3:SqL X.K S3.H p vs:=by
      rcases h with ⟨h2,f2⟩ | h2
      ·exact .inl (s3.toGrow.rd h2 f2).1
      ·exact .inr h2
     refine ⟨fun i t et=>?_,fun i hi=>⟨vs,g3,by rw [← l];simpa [enT] using hi⟩⟩
     unfold enT at et
     rw [List.getElem?_mapIdx] at et
     obtain ⟨t0,et0,rfl⟩:=Option.map_eq_some_iff.mp et
     obtain ⟨v2,ev3,r3⟩:=r1.get et0
     refine ⟨⟨vs,v2,g3,ev3⟩,fun x H' hy=>?_⟩
     obtain ⟨q,y,hq,rfl,rfl,hy⟩:=hy
     have:=hy vs g3
     rw [ev3] at this
     cases this
     have s4:=Stp.new s3.mok hq (.tup [.int (i:Int),v2])
     have r4:=(r3.grow s1.mok s3.toGrow).grow s3.mok s4.toGrow
     refine ⟨⟨S3.α,S3.M,upd S3.H q (.tup [.int (i:Int),v2]),S3.hid⟩,rfl,rfl,s4,?_⟩
     have rr:Reps X.K ⟨S3.α,S3.M,upd S3.H q (.tup [.int (i:Int),v2]),S3.hid⟩ [.int (i:Int),t0] [.int (i:Int),v2]:=.cons (.int _) (.cons r4 .nil)
     exact .tup (.inl (.inl yx)) rr.1 rr.2
   | _=>exact fin.elim⟩
end
section
variable {a b:Expr} {pp:Pos} {p:Ev->Mem->Out Fl} {ga:Ev->Mem->Out (List T × Gd)}
theorem zfQ (hi:WIG X XE tg iter ga) (cb:CB X scope cl caps) (hg:∀ ex s0 H0,WG (X.block scope cl (tgs ++ caps.map (·.1)) ex s0 H0) XE tg bd) (hif:∀ ex s0 H0,PTs (X.block scope cl (tgs ++ caps.map (·.1)) ex s0 H0) ifs (lT XE X.K cond)) (hel:∀ ex s0 H0,WE (X.block scope cl (tgs ++ caps.map (·.1)) ex s0 H0) XE elt f) (hs:∀ x,foldedSetIterable iter X.env x = pure x:=by intro _;rfl):WL X XE (.ListComp elt [⟨tg,iter,ifs,0⟩] scope pos) (zbz ga bd cond f tgs caps):=by
 have hi:=hi.pe
 have hg:=fun ex s0 H0=>(hg ex s0 H0).pe
 have hel:=fun ex s0 H0=>(hel ex s0 H0).pe
 exact ⟨PE.imp (zim (tgs:=tgs) (g:=lG XE X.K bd) (tc:=lT XE X.K cond) (te:=lE XE X.K f) cb.hc hi cb.hclos cb.hcell cb.hkind cb.hnames cb.hcl cb.hhas cb.hcap hg hif hel hs) fun σ H Q hh=>zkJ hh⟩
end
section
theorem zgr (he:WE X XE e f):WIG X XE tg e (zdl f):=by
 have he:=he.pe
 exact ⟨PI.imp (zik he) fun σ H R hh=>
  LN.mono (LN.bind (f:=fun _ σ M=>f σ M) (k:=fun _ t σ M1=>match zdj t M1 with | some g=>.ok g M1 | none=>.bad) (RB:=Rep X.K) hh) fun v H1 h9=>by
   obtain ⟨S,στ,a,e,m,ev,ra,fin⟩:=h9
   obtain ⟨u,t⟩:=a
   subst e
   have rt:Rep X.K S t v:=ra.2
   replace fin:Fin XE (ItG X.K) X.K S (match zdj t S.M with | some g=>.ok g S.M | none=>.bad) R:=fin
   cases q:zdj t S.M with
   | none=>rw [q] at fin;exact fin.elim
   | some g=>
    rw [q] at fin
    obtain ⟨xs,G⟩:=g
    obtain ⟨p,vs,rfl,h1,h2⟩:=znJ m rt q
    refine ⟨p,rfl,⟨vs,h1⟩,fin S _ rfl (.refl m) fun S3 s3 gd=>?_⟩
    obtain ⟨vs3,g3,r3⟩:=h2 S3 s3 gd
    refine ⟨fun i t et=>?_,fun i hi=>⟨vs3,g3,by rw [← r3.1];exact hi⟩⟩
    obtain ⟨v2,ev3,rv⟩:=r3.get et
    refine ⟨⟨vs3,v2,g3,ev3⟩,fun x H' hy=>?_⟩
    obtain ⟨ey,hy⟩:=hy
    have:=hy vs3 g3
    rw [ev3] at this
    cases this
    exact ⟨S3,ey.symm,rfl,.refl s3.mok,rv⟩⟩
end
variable {g:Ev->Mem->Out Fl}
section
variable {j:Nat} {y v nm:Str} {p pos2 np hp vp:Pos} {C:Addr} {b0:Stmt} {suite:List Stmt} {gs:Ev->Mem->Out Fl}
theorem zgt (c:CalX X.prog X.w X.K X.mg X.base k x ps F) (hr:Room k X.A) (hg:Gl X x) (hx:Passes (CXX X.prog X.w) X XE) (ha:WA X XE (e :: es) ga) (hdb:(x == ("__debug__":Str)) = false:=by decide) (he:noStar e = true:=by rfl) (hpl:es.all noStar = true:=by rfl):WE X XE (.Call (.Name x p) (e :: es) [] pos) (qd F ga):=by
 have ha:=ha.pe
 refine ⟨?_⟩
 obtain ⟨fa,fd,Fo,kp,b,gg⟩:=c.ex
 exact PE.imp (zin Fo hr hg gg kp b .nil hx ha hdb (yA he) (zb0 hpl)) fun σ H Q hh=>
  LN.mono (LN.bind (f:=fun _ σ M=>ga σ M) (k:=fun _ ts σ M1=>F ts M1) (RB:=Reps X.K) hh) fun vs H1 h9=>by
   obtain ⟨S,στ,a,e,m,ev,ra,fin⟩:=h9
   rw [append_nil]
   exact ⟨S,a.2,e,m,ra.2,fin⟩
theorem zk3 (c:CalX X.prog X.w X.K X.mg X.base k x ps F) (hr:Room k X.A) (hg:Gl X x) (ha:∀ E1 XE,WA (X.wish E1) XE (e :: es) ga) (hdb:(x == ("__debug__":Str)) = false:=by decide) (he:noStar e = true:=by rfl) (hpl:es.all noStar = true:=by rfl) (hsw:swapsWith (.Call (.Name x p) (e :: es) [] pos) none pos2.line X.env = pure false:=by rfl):WX X [.Expr (.Call (.Name x p) (e :: es) [] pos) pos2] (qO (qd F ga)):=by
 have ha:=fun E1 XE=>(ha E1 XE).pe
 refine ⟨?_⟩
 obtain ⟨fa,fd,Fo,kp,b,gg⟩:=c.ex
 intro E
 have hp:=zm6 (pos2:=pos2) (p:=p) (pos:=pos) (e:=e) (es:=es) (ta:=lA E X.K ga) Fo hr hg gg kp b (fun E'=>ha E' E) hdb (yA he) (zb0 hpl) hsw
 intro pins s σ H D I q
 refine hp E pins s σ H D I ?_
 have h1:=LN.bind (f:=fun _ σ M=>ga σ M) (k:=fun _ ts σ M1=>(F ts M1).bind fun _ M2=>.ok (Fl.nx σ) M2) (RB:=Reps X.K) (XE:=E) (K:=X.K) (R:=FlR X.K) (RA:=UnR) (av:=()) (σ:=σ) (H:=H) (Q:=qS D) (by
  obtain ⟨S,στ,a,e,m,ev,ra,fin⟩:=q
  refine ⟨S,στ,a,e,m,ev,ra,?_⟩
  have:(qO (qd F ga) στ S.M) = ((ga στ S.M).bind fun ts M1=>(F ts M1).bind fun _ M2=>.ok (Fl.nx στ) M2):=by
   unfold qO qd
   cases ga στ S.M <;> rfl
  show Fin E (FlR X.K) X.K S ((ga στ S.M).bind fun ts M1=>(F ts M1).bind fun _ M2=>.ok (Fl.nx στ) M2) (qS D)
  rw [← this]
  exact fin)
 refine LN.mono h1 fun vs H1 ⟨S,στ,a,e,m,ev,ra,fin⟩=>?_
 refine ⟨S,a.2,e,m,ra.2,?_⟩
 show Fin E (Rep X.K) X.K S (F a.2 S.M) _
 replace fin:Fin E (FlR X.K) X.K S ((F a.2 S.M).bind fun _ M2=>.ok (Fl.nx στ) M2) (qS D):=fin
 cases o:F a.2 S.M with
 | bad=>rw [o] at fin;exact fin
 | exn C fs M'=>rw [o] at fin;exact fin
 | ok t M1=>
  rw [o] at fin
  intro S1 w e1 s1 r1
  exact fin S1 (.nx σ) e1 s1 (.nx (Mo.mo m s1 ev))
theorem zmO {cs:List Addr} (hb:WX X sts g) (hS:∀ C' ∈ cs,Sup X.K X.mg y C C') (hgy:Gl X y) (hst:X.stack = X.env :: X.outer) (hf:X.env.frame = some X.env.locals) (hex:X.ex = []) (hs:∀ ev,WSs (X.suite ev) E0 (b0 :: suite) gs) (hdy:(y == ("__debug__":Str)) = false:=by decide):WS X XE (.Try sts [.ExceptHandler (some (.Name y np)) none (b0 :: suite) hp] [] [] tp) (zgN cs g gs):=by
 have hb:=hb.pe
 have hs:=fun ev=>(hs ev).pe
 exact ⟨PS.imp (znf (th:=lS E0 X.K gs) hb hgy hst hf hex hs hdy) fun D σ H h9=>by
  obtain ⟨S,στ,a,e,m,ev,ra,fin⟩:=h9
  refine ⟨S,στ,a,e,m,ev,ra,?_⟩
  show Fin _ (FlR X.K) X.K S (g στ S.M) (qS D)
  replace fin:Fin XE (FlR X.K) X.K S (match g στ S.M with | .exn C _ M'=>if cs.contains C = true then noX (gs στ M') else .bad | o=>o) (qS D):=fin
  cases o:g στ S.M with
  | bad=>rw [o] at fin;exact fin
  | ok fl M1=>rw [o] at fin;exact fin
  | exn C' fs M'=>
   rw [o] at fin
   intro S1 od e1 s1 xr
   by_cases hc:cs.contains C' = true
   ·replace fin:Fin XE (FlR X.K) X.K S (if cs.contains C' = true then noX (gs στ M') else .bad) (qS D):=fin
    rw [Qw hc] at fin
    refine ⟨C',rfl,hS C' (List.contains_iff_mem.mp hc),S1,στ,(),rfl,s1.mok,Mo.mo m s1 ev,trivial,?_⟩
    show Fin E0 (FlR X.K) X.K S1 (gs στ S1.M) _
    rw [e1]
    exact (znC fin).later s1
   ·replace fin:Fin XE (FlR X.K) X.K S (if cs.contains C' = true then noX (gs στ M') else .bad) (qS D):=fin
    rw [Qy hc] at fin
    exact fin.elim⟩
end
section
variable {K:Frag}
theorem zx {p:Nat} (D:Df K mg x st ps) (Sc:FnScope N ps (zf st)) (hp:ps.length = p) (hn:N.length = n)
 (hb:∀ (f:Addr) (cdv:Value) (A:Around) (outer:List PySem.Env) (s:Shared) (H:Hp) (E:XK),Room k (A.deeper (envOfC x (zf st) s.heap.objs.size f cdv))->WSs (zbr CX0 P w K mg base N x (zf st) f cdv A outer s H E).nox E0 (yI st) g) :
  CalT P w K mg base (k + 1) x ps (zq p n g):=zkW D Sc hp hn fun f cdv A outer s H E hr=>(hb f cdv A outer s H E hr).pe
theorem zey {p:Nat} (D:Df K mg x st ps) (Sc:FnScope N ps (zf st)) (hp:ps.length = p) (hn:N.length = n)
 (hb:∀ (f:Addr) (cdv:Value) (A:Around) (outer:List PySem.Env) (s:Shared) (H:Hp) (E:XK),Room k (A.deeper (envOfC x (zf st) s.heap.objs.size f cdv))->WSs (zbr (CXX P w) P w K mg base N x (zf st) f cdv A outer s H E) E (yI st) g) :
  CalX P w K mg base (k + 1) x ps (yX p n g):=zoi D Sc hp hn fun f cdv A outer s H E hr=>(hb f cdv A outer s H E hr).pe
theorem zmN {qual:Str} {f:Addr} {fd:FuncData} {p:Nat} (F:Fun K x qual st f fd) (Sc:FnScope N ps (zf st)) (hp:ps.length = p) (hn:N.length = n)
 (hb:∀ (cdv:Value) (A:Around) (outer:List PySem.Env) (s:Shared) (H:Hp) (E:XK),Room k (A.deeper (envOfC qual (zf st) s.heap.objs.size f cdv))->WSs (zbr CX0 P w K mg base N qual (zf st) f cdv A outer s H E).nox E0 (yI st) g) :
  FnOk P w K mg base CX0 (k + 1) f fd ps (spT K (zq p n g)):=zpB F Sc hp hn fun cdv A outer s H E hr=>(hb cdv A outer s H E hr).pe
end
theorem CalX.refine {K:Frag} {f g:List T->Mem->Out T} (C:CalX P w K mg base k x ps g) (h:Refines f g) (nox:∀ ts M C fs M',f ts M ≠ .exn C fs M'):CalT P w K mg base k x ps f:=by
 refine ⟨?_,nox⟩
 obtain ⟨fa,fd,F,kp,b,gg⟩:=C.ex
 have key:∀ vs H Q E,spT K f vs H Q E->spT K g vs H Q fun _ _ _=>False:=by
  rintro vs H Q E ⟨S,ts,e,m,r,fin⟩
  refine ⟨S,ts,e,m,r,?_⟩
  have wf:∀ c ∈ S.M,Cell.lt S.M.length c:=fun c hc=>by
   obtain ⟨i,hi,rfl⟩:=getElem_of_mem hc
   exact (m.cell i _ (by simp [hi])).lt
  cases o:f ts S.M with
  | bad=>rw [o] at fin;exact fin.elim
  | exn C' fs M'=>exact absurd o (nox _ _ _ _ _)
  | ok t' M1=>
   rw [o] at fin
   obtain ⟨t,M',eg,l1,l2,eM,hc,z⟩:=h ts S.M t' M1 wf o
   rw [eg]
   intro S' v e1 s r1
   have hl:∀ (i:Nat) c,i < M1.length->S'.M[i]? = some c->Cell.lt M1.length c:=fun i c hi ec=>by
    have e2:M1[i]? = some c:=by
     rw [eM,getElem?_take,Qw hi,← e1];exact ec
    rcases hc i c e2 with q | q
    ·exact (wf c (Q9 q)).mono l1
    ·exact q
   have sc:=s.cut l1 (by rw [e1];exact l2) hl
   refine fin (S'.cut M1.length S.hid) v ?_ sc ?_
   ·show S'.M.take M1.length = M1
    rw [e1];exact eM.symm
   ·exact Rep.fz s.mok (by rw [e1];exact l2) (fun p h=>(s.hk p h).1) (by rw [e1];exact z) r1
 refine ⟨⟨fa,fd,⟨fun vs H Q E q=>F.len vs H Q _ (key _ _ _ _ q),?_⟩,kp,b,gg⟩⟩
 intro A outer s H args us vs Q E hr h0 hb hv hq
 refine codeAny_mono (F.run A outer s H args us vs Q _ hr h0 hb hv (key _ _ _ _ hq)) fun r s' z=>?_
 cases r with
 | ok v=>cases v <;> exact z
 | error e=>
  obtain ⟨_,_,_,_,_,_,_,_,_,_,_,_,_,_,_,z⟩:=z
  exact z.elim
end FT
namespace L2
open PySem PySem.Spec PyProof.Rows
section
variable {X:Cx}
theorem zj5:OpR X (compareOp .LtE) (fun x y H Q=>∃ i j,x = .str i/\y = .str j/\Q (.bl (!decide (j.cps.toList < i.cps.toList))) H):=by
 intro pins s σ H x y v u Q I rx ry h
 obtain ⟨i,j,rfl,rfl,q⟩:=h
 obtain ⟨t,rfl⟩:=rx
 obtain ⟨t',rfl⟩:=ry
 exact PySem.P.le_str (zho I q rfl)
theorem zhv:CallR X (.type "str") (fun xs H Q=>∃ z,xs = [.str z]/\Q (.str z) H):=by
 intro pins s σ H xs us Q I r h
 obtain ⟨z,rfl,q⟩:=h
 obtain ⟨u,rfl,t,rfl⟩:=vals1 r
 exact PySem.P.str_of_str ⟨.str z,H,I,⟨_,rfl⟩,q⟩
theorem zgd:CallR X (.type "int") (fun xs H Q=>∃ z n,xs = [.str z]/\z.length<=640/\intText? z = some n/\Q (.int n) H):=by
 intro pins s σ H xs us Q I r h
 obtain ⟨z,n,rfl,hz,hn,q⟩:=h
 obtain ⟨u,rfl,t,rfl⟩:=vals1 r
 exact PySem.W.KIN.call_text hn hz ⟨.int n,H,I.tok _,⟨_,rfl⟩,q⟩
end
end L2
namespace FT
open PySem PySem.Spec PyProof.Rows L2
noncomputable def leU:T->T->Mem->Out T:=fun x y M=>match x,y with
 | .int i,.int j=>.ok (.bl (decide (i<=j))) M
 | .str i,.str j=>.ok (.bl (!decide (j.cps.toList < i.cps.toList))) M
 | _,_=>.bad
noncomputable def zs6:T->T->Mem->Out T:=fun x y M=>match x,y with
 | .str i,.int n=>@ite _ (MulOk i n) (Classical.propDecidable _) (.ok (.str (Txt.mul i n)) M) .bad
 | _,_=>.bad
noncomputable def ixS:T->T->Mem->Out T:=fun x y M=>match x,y with
 | .str z,.int i=>match atI z.cps.toList i with
  | some c=>if z.length<=sizeLine then .ok (.str ⟨#[c]⟩) M else .bad
  | none=>.bad
 | _,_=>.bad
noncomputable def zhc:T->Mem->Out T:=fun t M=>match t with
 | .bl b=>.ok (.int (if b then 1 else 0)) M
 | .str z=>match intText? z with
  | some n=>if z.length<=640 then .ok (.int n) M else .bad
  | none=>.bad
 | _=>.bad
noncomputable def zgB:T->Mem->Out T:=fun t M=>match t with
 | .int i=>@ite _ (i.natAbs.log2 < 1920) (Classical.propDecidable _) (.ok (.str (Str.ofString (toString i))) M) .bad
 | .str z=>.ok (.str z) M
 | _=>.bad
section
variable {X:Cx} {XE:XK}
theorem zbx:OpR X (compareOp .LtE) (lR2 XE X.K leU):=by
 intro pins s σ H x y v u Q I rx ry ⟨S,⟨tx,ty⟩,e,m,⟨r1,r2⟩,fin⟩
 subst e
 replace fin:Fin XE (Rep X.K) X.K S (leU tx ty S.M) Q:=fin
 unfold leU at fin
 split at fin
 ·cases r1;cases r2
  exact zmz pins s σ S.H _ _ v u Q I rx ry ⟨_,_,rfl,rfl,fin S _ rfl (.refl m) (.bl _)⟩
 ·cases r1;cases r2
  exact zj5 pins s σ S.H _ _ v u Q I rx ry ⟨_,_,rfl,rfl,fin S _ rfl (.refl m) (.bl _)⟩
 ·exact fin.elim
theorem zhb:IxR X (lR2 XE X.K ixS):=by
 intro va sl pins s σ H x y v u Q I rx ry ⟨S,⟨tx,ty⟩,e,m,⟨r1,r2⟩,fin⟩ hs
 subst e
 replace fin:Fin XE (Rep X.K) X.K S (ixS tx ty S.M) Q:=fin
 unfold ixS at fin
 split at fin
 ·cases r1;cases r2
  split at fin
  ·rename_i c hc
   split at fin
   ·rename_i hz
    exact zkn va sl pins s σ S.H _ _ v u Q I rx ry ⟨_,_,c,rfl,rfl,hz,hc,fin S _ rfl (.refl m) (.str _)⟩ hs
   ·exact fin.elim
  ·exact fin.elim
 ·exact fin.elim
theorem zkU:CallR X (.type "int") (lRN XE X.K (zl zhc)):=zaZ fun pins s σ S t x v Q I rx m r fin=>by
 unfold zhc at fin
 split at fin
 ·cases r
  cases (show v = Value.bool _ from rx)
  exact call_int_bool ⟨.int _,S.H,I.tok _,⟨_,rfl⟩,fin S _ rfl (.refl m) (.int _)⟩
 ·cases r
  split at fin
  ·rename_i n hn
   split at fin
   ·rename_i hz
    exact zgd pins s σ S.H _ _ Q I (.cons rx .nil) ⟨_,n,rfl,hz,hn,fin S _ rfl (.refl m) (.int _)⟩
   ·exact fin.elim
  ·exact fin.elim
 ·exact fin.elim
theorem zkO:CallR X (.type "str") (lRN XE X.K (zl zgB)):=zaZ fun pins s σ S t x v Q I rx m r fin=>by
 unfold zgB at fin
 split at fin
 ·cases r
  split at fin
  ·rename_i hz
   exact zhw pins s σ S.H _ _ Q I (.cons rx .nil) ⟨_,rfl,hz,fin S _ rfl (.refl m) (.str _)⟩
  ·exact fin.elim
 ·cases r
  exact zhv pins s σ S.H _ _ Q I (.cons rx .nil) ⟨_,rfl,fin S _ rfl (.refl m) (.str _)⟩
 ·exact fin.elim
end
end FT
namespace L2
open PySem PySem.Spec PyProof.Rows
noncomputable def Its (x:Str):It:=⟨fun i _=>i < x.cps.size,fun i H v H'=>H' = H/\∃ c,x.cps[i]? = some c/\v = .str ⟨#[c]⟩,fun i _=>x.cps.size<=i⟩
variable {tg:Expr}
theorem zgu {P:Program} {w:World} {K:Frag} (it:Addr) (x:Str) (t:Tok) (kd:String) (hW:∀ A:Around,A.handled = none->Walks P w A it [it] [it] x.cps.size (SignAt x) (fun i h=>h.IsStrIter it kd x t i))
 (hk:["enumerate","zip","dict_itemiterator","dict_reverseitemiterator","odict_iterator","itertools.zip_longest","itertools.pairwise"].contains kd = false) (he:∀ (A:Around) (i:Nat) (s:Shared) (Q:Option Value->Shared->Prop) (E:Value->Shared->Prop),A.handled = none->s.heap.IsStrIter it kd x t i->x.cps[i]? = none->(∀ h',Heap.ExtBut it s.heap h'->Q none { s with heap:=h' })->wpAny (model P w) A (pyNext (.ref it)) Q E s) (hs:∀ (A:Around) (i:Nat) (s:Shared) (Q:Value->Shared->Prop) (E:Value->Shared->Prop),s.heap.IsStrIter it kd x t i->Q (.ref it) s->wpAny (model P w) A (pyIter (.ref it)) Q E s) :
  Turn P w K tg (Its x) [it] it (fun i h=>h.IsStrIter it kd x t i) where
 mem:=by simp
 obj:=fun i h st b hb=>by
  have e:b = it:=by simpa using hb
  subst e
  obtain ⟨o,e,c,d⟩:=st
  exact ⟨o,e,fun v z=>by rw [d] at z;cases z⟩
 keep:=fun i h h' st k=>by
  obtain ⟨o,e,c⟩:=st
  exact ⟨o,k it (by simp) o e,c⟩
 item:=by
  intro X hP hw hK hc i pins s σ H E I hf st hg
  subst hP hw hK
  obtain ⟨f0,f1,f2,f3,f4,f5⟩:=hf it (by simp)
  refine (hW X.A (I.ok.hd hc)).item i s _ _ hg st fun v h' tk hv st' kk=>?_
  obtain ⟨c,u,hc1,rfl⟩:=hv
  have I1:Inv X pins σ H { s with heap:=h',toks:=tk }:=I.turned (fun b o hb e=>kk b o (by simpa using hb) e) f0 f1 f3 f4 f5
  have st2:=st'
  obtain ⟨o,e,c1,d1⟩:=st2
  exact ⟨_,rfl,zgl (s:={ s with heap:=h',toks:=tk }) (n:=kd) e c1 d1 hk ⟨.str ⟨#[c]⟩,H,I1,⟨u,rfl⟩,⟨rfl,c,hc1,rfl⟩,st',fun b hb=>(hf b hb).1⟩⟩
 done:=by
  intro X hP hw hK hc i pins s σ H E I hf st hg
  subst hP hw hK
  obtain ⟨f0,f1,f2,f3,f4,f5⟩:=hf it (by simp)
  have hg':x.cps.size<=i:=hg
  exact he X.A i s _ _ (I.ok.hd hc) st (by simp;exact hg') fun h' eb=>⟨rfl,I.turned (t':=s.toks) (fun b o hb e=>eb b o hb e) f0 f1 f3 f4 f5⟩
 self:=fun A i s Q E st h=>hs A i s Q E st h
section
variable {X:Cx}
noncomputable def zr4 (tl:TE):TI:=fun σ H R=>tl σ H fun x H1=>∃ z,x = .str z/\R (Its z) H1
theorem zo2 {l:Expr} {tl:TE} (hl:PE X l tl):PI X tg l (zr4 tl):=by
 intro pins s σ H R I h
 refine thn (hl pins s σ H _ I h) fun v s1 ⟨x,H1,I1,r1,q1⟩=>?_
 obtain ⟨z,e,q⟩:=q1
 subst e
 obtain ⟨t,rfl⟩:=r1
 have fin:∀ (o:Obj) (kd:String),o.isFreed = false->o.cls = .type kd->o.data = .fields #[.str z t,.int (0:Nat) 0]->Turn X.prog X.w X.K tg (Its z) [s1.heap.objs.size] s1.heap.objs.size (fun i h=>h.IsStrIter s1.heap.objs.size kd z t i)->PIE X pins σ tg R (.ref s1.heap.objs.size) { s1 with heap:=s1.heap.push o }:=fun o kd fr hc hd tu=>by
  refine ⟨s1.heap.objs.size,[s1.heap.objs.size],_,_,H1,rfl,I1.kept (t':=s1.toks) fun b o e=>Q2 _ e,tu,⟨o,Qj _ fr,hc,hd⟩,fun b hb=>?_,q⟩
  have e:b = s1.heap.objs.size:=by simpa using hb
  subst e
  exact I1.fpOk (Q3 _) (I1.hok.fresh (Q3 _))
 cases ha:z.cps.all (· < 128)
 ·exact wpAny_pyIter_wide ha (fin _ "str_iterator" rfl rfl rfl (zgu _ z t _ (fun A hA=>Walks.strWide hA _ z t) (by decide) (fun A i s Q E h1 h2 h3 h4=>wpAny_pyNext_wide_end h1 h2 h3 h4) (fun A i s Q E h1 h2=>wpAny_pyIter_striter_wide h1 h2)))
 ·exact wpAny_pyIter_ascii ha (fin _ "str_ascii_iterator" rfl rfl rfl (zgu _ z t _ (fun A hA=>Walks.strAscii hA _ z t) (by decide) (fun A i s Q E h1 h2 h3 h4=>wpAny_pyNext_ascii_end h1 h2 h3 h4) (fun A i s Q E h1 h2=>wpAny_pyIter_striter_ascii h1 h2)))
theorem zoJ:SlR X (fun x lo hi H Q=>∃ z,x = .str z/\z.length<=sizeLine/\Q (.str (Txt.slice z lo hi)) H):=by
 intro pins s σ H x v vl vu lo hi sl Q I rx hs pl pu ⟨z,e,hz,q⟩
 subst e
 obtain ⟨t,rfl⟩:=rx
 have part:∀ {v:Value} {o:Option Int},IsPart v o->∃ p:Option (Int × Tok),v = partValue p/\p.map (·.1) = o:=fun h=>by
  cases h with
  | none=>exact ⟨none,rfl,rfl⟩
  | int i t=>exact ⟨some (i,t),rfl,rfl⟩
 obtain ⟨l,rfl,rfl⟩:=part pl
 obtain ⟨u,rfl,rfl⟩:=part pu
 exact ⟨"str",_,PySem.F.slot_str_getitem.lookup,typeIs_str _ _ _,wpAny_getItem_str_slice (st:=none) hs rfl (post_val_or_str ⟨Qh (Txt.slice_le z _ _) hz,fun t' k=>⟨.str _,H,I.tok _,⟨_,rfl⟩,q⟩⟩)⟩
theorem zgA:∀ {zs:List Str} {its:List Value},Vals (zs.map V.str) its->StrsAre its zs
 | [],its,r=>by cases r;exact .nil
 | z :: zs,its,r=>by
  cases r with
  | cons a b=>
   obtain ⟨t,rfl⟩:=a
   exact .cons z t (zgA b)
theorem zfR:∀ {l:List (Str × Tok)},Vals ((l.map (·.1)).map V.str) (strValues l)
 | []=>.nil
 | p :: l=>.cons ⟨_,rfl⟩ zfR
theorem znF:MtR X "str.join" (fun x xs H Q=>∃ z p zs,x = .str z/\xs = [.ref p]/\SqL X.K H p (zs.map V.str)/\(zs.map (·.length)).sum + zs.length * z.length<=16777216/\Q (.str (Txt.join z zs)) H):=by
 intro pins s σ H x xs v us Q I rx rs ⟨z,p,zs,e1,e2,hq,hb,q⟩
 subst e1;subst e2
 obtain ⟨t,rfl⟩:=rx
 obtain ⟨u,rfl,ru⟩:=vals1 rs
 cases ru
 obtain ⟨its,r,pl,hz⟩:=I.list hq
 exact join_list pl.isList (zgA r) hb fun t' k=>⟨.str _,H,I.tok _,⟨_,rfl⟩,q⟩
theorem zlM:MtR X "str.split" (fun x xs H Q=>∃ z y,x = .str z/\xs = [.str y]/\(y.length == 0) = false/\z.length<=sizeLine/\(Txt.split z y).length<=sizeLine/\∀ l,H l = none->Q (.ref l) (upd H l (.lst ((Txt.split z y).map V.str)))):=by
 intro pins s σ H x xs v us Q I rx rs ⟨z,y,e1,e2,hy,hz,hn,q⟩
 subst e1;subst e2
 obtain ⟨t,rfl⟩:=rx
 obtain ⟨u,rfl,u',rfl⟩:=vals1 rs
 have fin:∀ (l:List (Str × Tok)) (k:Nat),l.map (·.1) = Txt.split z y->EP X pins σ Q (.ref s.heap.objs.size) { s with heap:=s.heap.push { cls:=.type "list",data:=.seq (strValues l).toArray },toks:=k }:=fun l k e=>
  ⟨.ref s.heap.objs.size,_,I.laid (t':=k) (fun b o e=>Q2 _ e) (Q3 _) (show ObjOk X.prog X.w _ _ _ (.lst ((Txt.split z y).map V.str)) from ⟨by rw [Qf];exact hn,strValues l,0,by rw [← e];exact zfR,Qj _ rfl⟩),rfl,q _ (I.hok.fresh (Q3 _))⟩
 cases h1:(decide (z.length < y.length) || decide (Builtin.Str.strKind z < Builtin.Str.strKind y))
 ·cases hf:(Builtin.Str.occurrences z y 0 z.length (z.length + 1)).isEmpty
  ·have e:Txt.split z y = Builtin.Str.partsBetween z (Builtin.Str.occurrences z y 0 z.length (z.length + 1)) y.length:=(Qy (by rw [h1];exact Q4)).trans (Qy (by rw [hf];exact Q4))
   refine call_meets PySem.F.slot_str_split (typeIs_str _ _ _) PySem.F.entry_str_split (PySem.F.args_str_split_2 _ _) (meets_str_split_sep z y t u' h1 hy hf hz (by rw [← e];exact hn)) ?_
   have:=fin (numbered s.toks (Builtin.Str.partsBetween z (Builtin.Str.occurrences z y 0 z.length (z.length + 1)) y.length))
   rw [← strsFrom_eq] at this
   exact this _ (by rw [numbered_texts,e])
  ·exact call_meets PySem.F.slot_str_split (typeIs_str _ _ _) PySem.F.entry_str_split (PySem.F.args_str_split_2 _ _) (meets_str_split_not_found z y t u' h1 hy hf) (fin [(z,t)] s.toks ((Qy (by rw [h1];exact Q4)).trans (Qw hf)).symm)
 ·exact call_meets PySem.F.slot_str_split (typeIs_str _ _ _) PySem.F.entry_str_split (PySem.F.args_str_split_2 _ _) (meets_str_split_cannot_occur z y t u' h1) (fin [(z,t)] s.toks (Qw h1).symm)
end
end L2
namespace FT
open PySem PySem.Spec PyProof.Rows L2
noncomputable def sgT (z:Str):List T:=z.cps.toList.map fun c=>T.str ⟨#[c]⟩
noncomputable def iTx (f:Ev->Mem->Out T):Ev->Mem->Out (List T):=fun σ M=>(f σ M).bind fun t M1=>match t with
 | .str z=>.ok (sgT z) M1
 | _=>.bad
noncomputable def zbH (x:T) (lo hi:Option Int) (M:Mem):Out T:=match x with
 | .str z=>if z.length<=sizeLine then .ok (.str (Txt.slice z lo hi)) M else .bad
 | x=>zeR x lo hi M
noncomputable def zeP (f:Ev->Mem->Out T) (p q:Ev->Mem->Out (Option Int)):Ev->Mem->Out T:=fun σ M=>(f σ M).bind fun x M1=>(p σ M1).bind fun lo M2=>(q σ M2).bind fun hi M3=>zbH x lo hi M3
noncomputable def zeD:List T->Option (List Str)
 | []=>some []
 | .str z :: ts=>(zeD ts).map (z :: ·)
 | _ :: _=>none
theorem zgC:∀ {ts:List T} {zs:List Str},zeD ts = some zs->ts = zs.map .str
 | [],zs,h=>by cases h;rfl
 | t :: ts,zs,h=>by
  unfold zeD at h
  split at h
  ·rename_i e
   cases e
  ·rename_i e
   cases e
   cases q:zeD ts with
   | none=>rw [q] at h;cases h
   | some ys=>
    rw [q] at h
    cases h
    rw [zgC q]
    rfl
  ·cases h
noncomputable def isStr (t:T) (_:Mem):Bool:=match t with
 | .str _=>true
 | _=>false
noncomputable def yP (x:T) (ts:List T) (M:Mem):Out T:=match x,ts with
 | .str z,[t]=>match zv t M with
  | some xs=>match zeD xs with
   | some zs=>if (zs.map (·.length)).sum + zs.length * z.length<=16777216 then .ok (.str (Txt.join z zs)) M else .bad
   | none=>.bad
  | none=>.bad
 | _,_=>.bad
section
variable {X:Cx} {XE:XK}
theorem ty_str {K:Frag} {S:Sit} (_:MemOk K S) {t:T} {x:V} (r:Rep K S t x) (h:isStr t S.M = true):tyV K "str" x S.H:=by
 cases r with
 | str z=>exact rfl
 | _=>cases h
theorem zb6:MtR X "str.join" (lMt XE X.K yP):=by
 intro pins s σ H x xs v us Q I rx rs ⟨S,⟨tx,ts⟩,e,m,⟨r1,r2⟩,fin⟩
 subst e
 replace r1:Rep X.K S tx x:=r1
 replace r2:Reps X.K S ts xs:=r2
 replace fin:Fin XE (Rep X.K) X.K S (yP tx ts S.M) Q:=fin
 unfold yP at fin
 split at fin
 ·rename_i z t
  split at fin
  ·rename_i ys q
   split at fin
   ·rename_i zs qz
    split at fin
    ·rename_i hb
     obtain ⟨w1,ws,rfl,h1,h2⟩:=r2.consT
     cases h2.nilT
     obtain ⟨p,vs,rfl,hq,rs'⟩:=qw m h1 q
     cases r1
     have e:=zgC qz
     subst e
     have ev:vs = zs.map V.str:=by
      refine ext_getElem? fun i=>?_
      have l:=rs'.1
      rw [Qf] at l
      by_cases hi:i < zs.length
      ·have a1:vs[i]? = some (vs[i]'(by omega)):=Q0 _
       have a2:=rs'.2 i (.str zs[i]) _ (by rw [Qa,Q0 hi];rfl) a1
       rw [a1,Qa,Q0 hi]
       generalize vs[i]'(by omega) = w at a2
       cases a2
       rfl
      ·rw [getElem?_eq_none (by omega),getElem?_eq_none (by rw [Qf];omega)]
     rw [ev] at hq
     exact znF pins s σ S.H _ _ v us Q I rx rs ⟨z,p,zs,rfl,rfl,hq,hb,fin S _ rfl (.refl m) (.str _)⟩
    ·exact fin.elim
   ·exact fin.elim
  ·exact fin.elim
 ·exact fin.elim
end
end FT
namespace L2
open PySem PySem.Spec PyProof.Rows
variable {C:Addr} {x:Str}
section
variable {X:Cx} {E:XK} {e:Expr} {es:List Expr} {ta:TA} {np cpos pos:Pos}
theorem zjY (O:ExcAt X.K X.mg x C) (hr:Room 2 X.A) (hg:Gl X x) (hst:X.stack = X.env :: X.outer) (hf:X.env.frame = some X.env.locals) (hex:X.ex = [])
  (hxe:X.xe = fun ev s'=>wpAny (model X.prog X.w) X.A (leaving X.env ev) (fun _ s''=>CXX X.prog X.w X.outer X.H₀ X.s₀ E ev s'') (fun e' s''=>CXX X.prog X.w X.outer X.H₀ X.s₀ E e' s'') s')
  (ha:PA X [e] ta) (hd:(x == ("__debug__":Str)) = false:=by decide) (he:starEach [e] X.env = [(false,eval e X.env)]:=by rfl) :
  PS X (.Raise (some (.Call (.Name x np) [e] [] cpos)) none pos) (fun _ σ H=>ta σ H fun vs H1=>vs.length<=sizeLine/\E (.ref C) none H1):=by
 intro pins s σ H D I h
 obtain ⟨bm,N,nm,q,bs,hdct,sn,sub,ab,col,dd,k0,k1,k2,k3,k5,mN,hC,hN,hni,T⟩:=O.obj X.base I.ok.mod.kin
 refine zi2 (C:=C) (nm:=nm) (q:=q) (N:=N) (bs:=bs) (bm:=bm) (hdct:=hdct) (sn:=sn) (sub:=sub) (ab:=ab) (col:=col) (dd:=dd) (k0:=k0) (k1:=k1) (k2:=k2) (k3:=k3) (k5:=k5) (T.hasType PySem.F.excBase_ValueError.hasBase) hr.hd (by rw [he];rfl) (zcR I hg O.bound ⟨rfl,?_⟩ hd)
 have hq:=ha cpos pins s σ H _ I h
 rw [he] at hq ⊢
 refine Calls.evalArgs_plain (Qe hq (fun us s2 ⟨vs,H2,I2,r2,hl,hE⟩=>?_) fun _ _ y=>y)
 have hC2:=I2.bk _ _ hC
 refine ⟨rfl,hC2,?_⟩
 obtain ⟨h2,g2,d2,t2,os2⟩:=s2
 refine wpAny_call_exc_subT PySem.F.excBase_ValueError (T.keeps I2.bk) hC2 (hN.keeps I2.bk) hni (fun h' ev hm=>?_) (by rw [← r2.length];exact hl)
 obtain ⟨t,ge,_,_⟩:=hm.there
 obtain ⟨b1,b2,b3,b4,b5⟩:=I2.new0 hex hm.new
 have I3:Inv X pins σ H2 ⟨h',g2,d2,t2,os2⟩:=I2.kept (t':=t2) hm.keeps
 exact ⟨ev,t,none,rfl,hm.keeps _ _ hC2,ge,zod I3 hst hf hex hxe ge b2 b1 hE⟩
theorem zmY {K:Frag} {mg:Str->Option Value} (O:ExcAt K mg x C):Sup K mg x C C:=⟨O.bound,fun h X=>by
 obtain ⟨bm,N,nm,q,bs,hdct,sn,sub,ab,col,dd,k0,k1,k2,k3,k5,mN,hC,_,_,T⟩:=O.obj h X
 exact ⟨⟨bm,N,nm,q,bs,hdct,sn,sub,ab,col,dd,k0,k1,k2,k3,k5,hC,T.hasType PySem.F.excBase_ValueError.hasBase⟩,bm,N,nm,q,bs,hdct,sn,sub,ab,col,dd,k0,k1,k2,k3,k5,hC,by simp⟩⟩
end
end L2
namespace FT
open PySem PySem.Spec PyProof.Rows L2
variable {C:Addr} {x:Str}
theorem zou {K:Frag} {mg:Str->Option Value} {h:Heap} (X:K.In h) (G:h.Ns mainGlobals mg) {N W:Addr} {nm q:Str} {bs:List Value} {hdct:Bool} {sn:List Str} {sub:List Value} {ab:Bool} {col:Option Bool} {dd:Option Addr} {k0 k1 k2 k3 k5:Option Value}
 {c1 c2 c3:Value} {d1 d2 d3:Option Addr} {es es':Array DictEntry} {ep ep':Nat} {s1 s2 s3:Array (Option Value)} {cdw:ClassData}
 (a:PySem.W.nsIn K mainGlobals x = some (some (.ref C)))
 (l:K.lookup C = some (excClassObj nm q C N bs (.ref W :: zeV) hdct sn sub ab col dd k0 k1 k2 k3 k5 "ValueError.__new__"))
 (ln:K.lookup N = some ⟨c1,d1,.dict es ep,s1⟩) (sk:zc4 es = true) (q0:PySem.W.nsIn K N "__init__" = some none)
 (lw:K.lookup W = some ⟨c2,d2,.cls cdw,s2⟩) (lwn:K.lookup cdw.ns = some ⟨c3,d3,.dict es' ep',s3⟩) (sk':zc4 es' = true) (q1:PySem.W.nsIn K cdw.ns "__init__" = some none):ExcAt K mg x (zfK K x):=by
 rw [zof a]
 refine ⟨PySem.W.mg_of X G a,fun h' X'=>?_⟩
 obtain ⟨mN,hN,eN⟩:=ziv X' ln sk q0
 obtain ⟨mW,hW,eW⟩:=ziv X' lwn sk' q1
 exact ⟨_,N,nm,q,bs,hdct,sn,sub,ab,col,dd,k0,k1,k2,k3,k5,mN,X' _ _ l,hN,eN,.own (X' _ _ lw) hW eW .base⟩
noncomputable def zaI (x:T) (ts:List T) (M:Mem):Out (List T):=match x,ts with
 | .str z,[.str y]=>if (y.length == 0) = false/\z.length<=sizeLine/\(Txt.split z y).length<=sizeLine then .ok ((Txt.split z y).map .str) M else .bad
 | _,_=>.bad
noncomputable def zS (f:Ev->Mem->Out T) (g:Ev->Mem->Out (List T)):Ev->Mem->Out (List T):=fun σ M=>(f σ M).bind fun x M1=>if isStr x M1 = true then (g σ M1).bind fun ts M2=>zaI x ts M2 else .bad
noncomputable def zrZ (XE:XK) (K:Frag):V->Option Int->Option Int->Hp->VK->Prop:=fun x lo hi H Q=>∃ S t,S.H = H/\MemOk K S/\Rep K S t x/\Fin XE (Rep K) K S (zbH t lo hi S.M) Q
variable {X:Cx} {ga:Ev->Mem->Out (List T)} {q:Ev->Mem->Out (Option Int)} {f:Ev->Mem->Out T} {e o:Expr} {apos cpos np p2 pos:Pos} {XE:XK}
section
theorem zrN:SlR X (zrZ XE X.K):=by
 intro pins s σ H x v vl vu lo hi sl Q I rx hs pl pu ⟨S,t,e,m,r,fin⟩
 unfold zbH at fin
 split at fin
 ·cases r
  split at fin
  ·rename_i hz
   subst e
   exact zoJ pins s σ S.H _ v vl vu lo hi sl Q I rx hs pl pu ⟨_,rfl,hz,fin S _ rfl (.refl m) (.str _)⟩
  ·exact fin.elim
 ·exact zoK pins s σ H x v vl vu lo hi sl Q I rx hs pl pu ⟨S,_,e,m,r,fin⟩
end
section
theorem zh4 {tg:Expr} (he:WE X XE e f):WI X XE tg e (iTx f):=by
 have he:=he.pe
 exact ⟨PI.imp (zo2 he) fun σ H R h9=>by
  obtain ⟨S,στ,_,e,m,ev,_,fin⟩:=h9
  replace fin:Fin XE (zbJ X.K) X.K S ((f στ S.M).bind fun t M1=>match t with | .str z=>.ok (sgT z) M1 | _=>.bad) R:=fin
  refine ⟨S,στ,(),e,m,ev,trivial,?_⟩
  show Fin XE (Rep X.K) X.K S (f στ S.M) _
  cases o:f στ S.M with
  | bad=>rw [o] at fin;exact fin.elim
  | exn C fs M'=>rw [o] at fin;exact fin
  | ok t M1=>
   rw [o] at fin
   cases t with
   | str z=>
    intro S1 v e1 s1 r1
    cases r1
    refine ⟨z,rfl,fin S1 _ e1 s1 fun S3 s3=>⟨fun i t et=>?_,fun i hi=>?_⟩⟩
    ·unfold sgT at et
     rw [Qa] at et
     cases q:z.cps.toList[i]? with
     | none=>rw [q] at et;cases et
     | some c=>
      rw [q] at et
      cases et
      have hi:i < z.cps.size:=by
       have:=(Qx.mp q).1
       simpa using this
      refine ⟨hi,fun x H' hy=>?_⟩
      obtain ⟨rfl,c',hc,rfl⟩:=hy
      have:c' = c:=by
       rw [Array.getElem?_toList] at q
       rw [q] at hc
       exact (Qb hc).symm
      subst this
      exact ⟨S3,rfl,rfl,.refl s3.mok,.str _⟩
    ·show z.cps.size<=i
     unfold sgT at hi
     simpa using hi
   | _=>exact fin.elim⟩
end
section
theorem zc1 (O:ExcAt X.K X.mg x C) (hr:Room 2 X.A) (hg:Gl X x) (hst:X.stack = X.env :: X.outer) (hf:X.env.frame = some X.env.locals) (hex:X.ex = []) (hxe:X.xe = fun ev s'=>wpAny (model X.prog X.w) X.A (leaving X.env ev) (fun _ s''=>CXX X.prog X.w X.outer X.H₀ X.s₀ XE ev s'') (fun e' s''=>CXX X.prog X.w X.outer X.H₀ X.s₀ XE e' s'') s') (ha:WA X XE [e] ga) (hd:(x == ("__debug__":Str)) = false:=by decide) (he:noStar e = true:=by rfl):WS X XE (.Raise (some (.Call (.Name x np) [e] [] cpos)) none pos) (za7 (zaL C) ga):=by
 have ha:=ha.pe
 exact ⟨
  PS.imp (zjY O hr hg hst hf hex hxe ha hd (yA he)) fun D σ H hh=>
   LN.mono (LN.bind (f:=fun _ σ M=>ga σ M) (k:=fun _ ts σ M1=>zaL C ts M1) (RB:=Reps X.K) hh) fun vs H1 h9=>by
    obtain ⟨S,στ,a,e,m,ev,ra,fin⟩:=h9
    obtain ⟨u,ts⟩:=a
    have r:Reps X.K S ts vs:=ra.2
    replace fin:Fin XE (FlR X.K) X.K S (zaL C ts S.M) (qS D):=fin
    unfold zaL at fin
    split at fin
    ·rename_i hl
     subst e
     exact ⟨by rw [← r.1];exact hl,fin S none rfl (.refl m) (.inl ⟨rfl,rfl⟩)⟩
    ·exact fin.elim⟩
theorem zcj (ho:WE X XE o f) (ha:WA X XE [e] ga) (hbase:attributeBase o "split" X.env (eval o X.env) = eval o X.env:=by rfl) (hfew:((backTo cpos (starEach [e] X.env)).all (fun x=>!x.1) && (backToKw cpos (keywordEach [] X.env)).all (fun x=>x.1.isSome) && decide ([e].length + ([]:List Keyword).length + (if ([]:List Keyword).isEmpty then 0 else 1) < 30)) = true:=by rfl) (hline:(apos.endLine == cpos.line) = true:=by rfl) (hs:starEach [e] X.env = (false,eval e X.env) :: starEach [] X.env:=by rfl) (hplain:(backTo cpos (starEach [] X.env)).any (·.1) = false:=by rfl):WL X XE (.Call (.Attribute o "split" apos) [e] [] cpos) (zS f ga):=by
 have ho:=ho.pe
 have ha:=ha.pe
 exact ⟨PE.imp (zU PySem.F.plainAttrs_str PySem.F.slot_str_split PySem.F.type_str_split zlM ho ha hbase hfew hline hs hplain) fun σ H Q hh=>by
  obtain ⟨S,στ,e0,m,ev,fin⟩:=hh
  replace fin:FinL XE X.K S ((f στ S.M).bind fun x M1=>if isStr x M1 = true then (ga στ M1).bind fun ts M2=>zaI x ts M2 else .bad) Q:=fin
  refine ⟨S,στ,(),e0,m,ev,trivial,?_⟩
  show Fin XE (Rep X.K) X.K S (f στ S.M) _
  cases o1:f στ S.M with
  | bad=>rw [o1] at fin;exact fin
  | exn C fs M'=>rw [o1] at fin;exact fin
  | ok x M1=>
   rw [o1] at fin
   intro S1 v e1 s1 r1
   replace fin:FinL XE X.K S (if isStr x M1 = true then (ga στ M1).bind fun ts M2=>zaI x ts M2 else .bad) Q:=fin
   split at fin
   ·rename_i hk
    refine ⟨ty_str s1.mok r1 (by rw [e1];exact hk),S1,στ,(),rfl,s1.mok,Mo.mo m s1 ev,trivial,?_⟩
    show Fin XE (Reps X.K) X.K S1 (ga στ S1.M) _
    rw [e1]
    cases o2:ga στ M1 with
    | bad=>rw [o2] at fin;exact fin
    | exn C fs M'=>rw [o2] at fin;exact FinL.later s1 fin
    | ok ts M2=>
     rw [o2] at fin
     intro S2 ws e2 s2 r2
     replace fin:FinL XE X.K S (zaI x ts M2) Q:=fin
     have fin2:=FinL.later (s1.trans s2) fin
     unfold zaI at fin2
     split at fin2
     ·split at fin2
      ·rename_i hz
       obtain ⟨w1,ws',rfl,h1,h2⟩:=Reps.consT r2
       cases h2.nilT
       cases r1
       cases h1
       rw [← e2] at fin2
       refine ⟨_,_,rfl,rfl,hz.1,hz.2.1,hz.2.2,zlI s2.mok fin2 ?_⟩
       refine ⟨by simp,fun i t v e3 e4=>?_⟩
       rw [Qa] at e3 e4
       cases q:(Txt.split _ _)[i]? with
       | none=>rw [q] at e3;cases e3
       | some y=>
        rw [q] at e3 e4
        cases e3
        cases e4
        exact .str _
      ·exact fin2.elim
     ·exact fin2.elim
   ·exact fin.elim⟩
theorem zfo {lo hi:Option Expr} {p:Ev->Mem->Out (Option Int)} (he:WE X XE e f) (hl:WO X XE lo p) (hu:WO X XE hi q):WE X XE (.Subscript e (.Slice lo hi none p2) pos) (zeP f p q):=by
 have he:=he.pe
 have hl:=hl.pe
 have hu:=hu.pe
 exact ⟨PE.imp (zgT zrN he hl hu) fun σ H Q hh=>
  LN.mono (LN.bind (f:=fun _ σ M=>f σ M) (k:=fun _ x σ M1=>(p σ M1).bind fun lo M2=>(q σ M2).bind fun hi M3=>zbH x lo hi M3) (RB:=Rep X.K) hh) fun v H1 h1=>
   LN.mono (LN.env (f:=p) (LN.bind (f:=fun _ σ M=>p σ M) (k:=fun (ax:Unit × T) lo σ M2=>(q σ M2).bind fun hi M3=>zbH ax.2 lo hi M3) (RB:=EqR) h1)) fun l H2 h2=>
    LN.mono (LN.env (f:=q) (LN.bind (f:=fun _ σ M=>q σ M) (k:=fun (ax:(Unit × T) × Option Int) hi σ M3=>zbH ax.1.2 ax.2 hi M3) (RB:=EqR) h2)) fun w H3 h9=>by
     obtain ⟨S,στ,a,e,m,ev,ra,fin⟩:=h9
     have e1:a.1.2 = l:=ra.1.2
     have e2:a.2 = w:=ra.2
     exact ⟨S,a.1.1.2,e,m,ra.1.1.2,by rw [← e1,← e2];exact fin⟩⟩
end
end FT
namespace L2
open PySem PySem.Spec PyProof.Rows
structure XiAt (K:Frag) (D:Addr):Prop where
 ga:PySem.W.findIn K (.ref D) "__getattribute__" = some (some (.builtin "BaseException.__getattribute__"))
 gt:PySem.W.findIn K (.ref D) "__getattr__" = some none
 c:(PySem.W.clsIn K D).isSome = true
 a:PySem.W.findIn K (.ref D) "__class__" = some (some (.builtin "object.__class__"))
 n:PySem.W.specialIn K (.builtin "object.__class__") "__get__" = some (some (.builtin "getset_descriptor.__get__"))
 t:PySem.W.takesIn K (.builtin "object.__class__") = some true
 m:PySem.W.mroIn K D (.type "object") = some true
 be:PySem.W.mroIn K D (.type "BaseException") = some true
end L2
namespace FT
open PySem PySem.Spec PyProof.Rows L2
structure IsAt (K:Frag) (mg:Str->Option Value) (y:Str) (g:Addr->Option Bool):Prop where
 ex:∃ (v:V) (c:Value),RelV v c/\(mg y = some c\/(mg y = none/\bootBuiltins y = some c))/\(∀ u,RelV v u->u = c)/\∀ C b,g C = some b->XiAt K C/\PySem.W.kitOne K (.ref C) c = some b
structure XmAt (K:Frag) (D W:Addr):Prop where
 ga:PySem.W.findIn K (.ref D) "__getattribute__" = some (some (.builtin "BaseException.__getattribute__"))
 gt:PySem.W.findIn K (.ref D) "__getattr__" = some none
 a:PySem.W.findIn K (.ref D) "__class__" = some (some (.builtin "object.__class__"))
 n:PySem.W.specialIn K (.builtin "object.__class__") "__get__" = some (some (.builtin "getset_descriptor.__get__"))
 t:PySem.W.takesIn K (.builtin "object.__class__") = some true
 mro:(PySem.W.clsIn K D).map (·.mro) = some (.ref D :: .ref W :: zeV)
 ty:PySem.W.typeIn K (.ref D) = some (.type "type")
section
variable {K:Frag} {mg:Str->Option Value} {C D W Y:Addr} {y:Str} {ks:List Addr}
theorem XmAt.in (x:XmAt K D W) (base:Value):PySem.W.mroIn K D base = some ((Value.ref D :: .ref W :: zeV).contains base):=by
 obtain ⟨cd,h,e⟩:=Option.map_eq_some_iff.mp x.mro
 unfold PySem.W.mroIn
 rw [h,Option.bind_some,e]
 rfl
theorem XmAt.cls (x:XmAt K D W):(PySem.W.clsIn K D).isSome = true:=by
 obtain ⟨cd,h,e⟩:=Option.map_eq_some_iff.mp x.mro
 rw [h]
 rfl
theorem zdt (a b:Value) (l:List Value):(b :: l).contains a = (a == b || l.contains a):=List.contains_cons
theorem XmAt.xi (x:XmAt K D W):XiAt K D:=⟨x.ga,x.gt,x.cls,x.a,x.n,x.t,by rw [x.in,zdt,zdt,show zeV.contains (.type "object") = true by decide +kernel,Bool.or_true,Bool.or_true],by rw [x.in,zdt,zdt,show zeV.contains (.type "BaseException") = true by decide +kernel,Bool.or_true,Bool.or_true]⟩
end
end FT
namespace L2
open PySem PySem.Spec PyProof.Rows
noncomputable def zdh (a:List Str) (x:Str):List Str:=if x ∈ a then a else a ++ [x]
noncomputable def met (ss:List Str):List Str:=ss.foldl zdh []
variable {ss:List Str}
theorem zg3 {i:Nat} {x:Str} (h:ss[i]? = some x):met (ss.take (i + 1)) = zdh (met (ss.take i)) x:=by
 unfold met
 rw [take_succ,h,List.foldl_append]
 rfl
theorem zlN (a:List Str) (x:Str):(zdh a x).length<=a.length + 1:=by
 unfold zdh
 split
 ·omega
 ·simp
theorem znI (ss:List Str) (i:Nat):(met (ss.take i)).length<=i:=by
 induction i with
 | zero=>exact Q3 _
 | succ i ih=>
  cases h:ss[i]? with
  | none=>rw [take_succ,h];simp only [Option.toList_none,append_nil];omega
  | some x=>
   rw [zg3 h]
   have:=zlN (met (ss.take i)) x
   omega
variable {l:Addr} {h:Heap} {ks:List Str} {its:List Value} {w:World}
section
variable {prog:Program} {A:Around} {I:Addr} {fp wr:List Addr} {G:Array GenState->Array GenState->Prop} {n:Nat} {P:Nat->Value->Prop} {St:Nat->Shared->Prop} {R:Result->Shared->Prop}
noncomputable abbrev SetTx (prog:Program) (w:World) (h:Heap) (a:Addr) (ks:List Str):Prop:=h.SetOf (PySem.strKind prog w) a (fun k=>decide (k ∈ ks)) ks.length
theorem SetTx.keep {h':Heap} {a:Addr} (x:SetTx prog w h a ks) (k:∀ o,h.get? a = some o->h'.get? a = some o):SetTx prog w h' a ks:=by
 obtain ⟨o,es,ep,t,ho,r⟩:=x
 exact ⟨o,es,ep,t,k _ ho,r⟩
theorem zkc (W:WalksS prog w A.in1 I fp wr G ss.length P St) (S:Addr) (hS:S ∉ fp) (hP:∀ i v,P i v->∃ x t,ss[i]? = some x/\v = .str x t) (hn:ss.length + 1 < scanBound) :
  ∀ (k i:Nat) (s:Shared),ss.length - i = k->i<=ss.length->St i s->SetTx prog w s.heap S (met (ss.take i))->
  (∀ s',Moved (S :: wr) G s s'->SetTx prog w s'.heap S (met ss)->R (.ok (.ret .none)) s')->
  codeAny (model prog w) A (.builtin "set.update.loop" ⟨[.ref S,.ref I],[]⟩) R s:=by
 have hDw:S ∉ wr:=fun h=>hS (W.sub _ h)
 have hsub:∀ b ∈ wr,b ∈ S :: wr:=fun b hb=>mem_cons_of_mem _ hb
 intro k
 induction k with
 | zero=>
  intro i s hk hi hst hD hR
  have hin:i = ss.length:=by omega
  subst hin
  refine codeAny_builtin F.entry_set_update_loop ?_
  rw [Around.under_plainId F.plain_set_update_loop _]
  show wpAny _ A.in1 (pyNext (.ref I) >>= _) _ _ s
  refine Q1 (W.done s _ _ hst fun s' hm=>?_)
  rw [take_length] at hD
  exact Qd (hR s' (hm.mono hsub) (hD.keep fun o e=>hm.heap S _ hDw e))
 | succ k ih=>
  intro i s hk hi hst hD hR
  have hlt:i < ss.length:=by omega
  refine codeAny_builtin F.entry_set_update_loop ?_
  rw [Around.under_plainId F.plain_set_update_loop _]
  show wpAny _ A.in1 (pyNext (.ref I) >>= _) _ _ s
  refine Q1 (W.item i s _ _ hlt hst fun v s' hPv hst' hm=>?_)
  obtain ⟨x,t,hx,rfl⟩:=hP i v hPv
  have hD':SetTx prog w s'.heap S (met (ss.take i)):=hD.keep fun o e=>hm.heap S _ hDw e
  dsimp only
  refine Q1 (wpAny_holding ?_)
  unfold setAdd
  refine wpAny_holding (Q1 ((PySem.strKind prog w).pyHash (k:=x) (by simp [PySem.strKind,Value.isStrOf]) ?_))
  have hl:=znI ss i
  refine wpAny_setAddHashed_of (knd:=PySem.strKind prog w) (s:={ s' with toks:=s'.toks + 1 }) (k:=x) (by simp [PySem.strKind,Value.isStrOf]) rfl hD' (by omega) fun h' hs hd=>?_
  refine Qd ⟨plainId_quiet F.plain_set_update_loop _,?_⟩
  have kp:∀ b o,b ∉ S :: wr->s'.heap.get? b = some o->h'.get? b = some o:=fun b o hb e=>(hs.2 b fun z=>hb (z ▸ mem_cons_self)).trans e
  have em:=zg3 hx
  have hd2:SetTx prog w h' S (met (ss.take (i + 1))):=by
   rw [em]
   unfold zdh
   have e1:∀ (b:Prop) [Decidable b],(decide b = true) = b:=fun b _=>by simp
   split
   ·rename_i hm
    simp only [hm,decide_true,if_true] at hd
    refine SetOf_congr hd (fun k'=>?_) rfl
    by_cases q:k' = x
    ·subst q;simp [hm]
    ·simp [q]
   ·rename_i hm
    simp only [hm,decide_false,Bool.false_eq_true,if_false] at hd
    rw [SetTx,Ql,Qs]
    refine SetOf_congr hd (fun k'=>?_) rfl
    simp
  exact ih (i + 1) { s' with heap:=h',toks:=s'.toks + 1 } (by omega) hlt (W.frame _ s' _ _ hst' (Nat.le_succ _) fun b hb o e=>(hs.2 b fun z=>hS (z ▸ hb)).trans e) hd2 fun s2 hm2 hD3=>hR s2 (Moved.trans W.gtrans ((hm.mono hsub).then_heap (Nat.le_succ _) kp) hm2) hD3
variable {E:Value->Shared->Prop} {s:Shared}
theorem zh3 {v:Value} {Q:Bool->Shared->Prop} (hT:s.TypeIs v "list") (h:Q false s):wpAny (model prog w) A (Builtin.Frozenset.isAnySet v) Q E s:=by
 unfold Builtin.Frozenset.isAnySet
 refine Q1 (wpAny_isInstance hT PySem.F.sub_list_set ?_)
 exact wpAny_isInstance hT PySem.F.sub_list_frozenset h
theorem zk7 {S:Addr} {nm:String} {Q:Unit->Shared->Prop} (hh:A.handled = none) (hl:s.heap.IsList l its.toArray) (hs:SetTx prog w s.heap S []) (hlen:its.length = ss.length) (hv:∀ (i:Nat) v,its[i]? = some v->∃ x t,ss[i]? = some x/\v = .str x t) (hn:ss.length + 1 < scanBound) (hSl:l ≠ S)
 (h:∀ h' tk,SetTx prog w h' S (met ss)->(∀ b o,b ≠ S->s.heap.get? b = some o->h'.get? b = some o)->Q () { s with heap:=h',toks:=tk }) :
  wpAny (model prog w) A (Builtin.Frozenset.updateFrom nm S (.ref l)) Q E s:=by
 obtain ⟨o,ho,hc,c⟩:=hl
 have hT:s.TypeIs (.ref l) "list":=⟨o,ho,hc⟩
 unfold Builtin.Frozenset.updateFrom
 refine Q1 (zh3 hT ?_)
 rw [Qy (by simp)]
 refine Q1 (wpAny_typeOf hT ?_)
 rw [Qy (by decide)]
 refine Q1 (wpAny_pyIter_list ⟨o,ho,hc,c⟩ ?_)
 have hllt:l < s.heap.objs.size:=Qc ho
 have hSlt:S < s.heap.objs.size:=by
  obtain ⟨o,es,ep,t,ho,r⟩:=hs
  exact Qc ho
 have W:=(Walks.list (prog:=prog) (w:=w) (A:=A.in1) hh s.heap.objs.size l (Qi hllt) its.toArray).toS
 refine Q1 (wpAny_runValue ?_)
 rw [show its.toArray.size = ss.length by simpa using hlen] at W
 refine zkc (ss:=ss) (A:=A) (I:=s.heap.objs.size) W S (by
  intro z
  rcases QA.mp z with z | z
  ·exact absurd z (Qi hSlt)
  ·exact hSl (Qz.mp z).symm) (fun i v e=>hv i v (by simpa using e)) hn ss.length 0 _ (by omega) (Nat.zero_le _) ⟨⟨_,Qj _ rfl,rfl,rfl⟩,?_⟩ ?_ fun s' hm hd=>?_
 ·exact ⟨o,Q2 _ ho,hc,c⟩
 ·exact hs.keep fun o e=>Q2 _ e
 ·obtain ⟨h',g',d',tk',o'⟩:=s'
  have x1:g' = s.gens:=hm.gens
  have x2:d' = s.drawn:=hm.drawn
  have x3:o' = s.os:=hm.os
  subst x1 x2 x3
  refine Qd (h h' tk' hd fun b o hb e=>hm.heap b o (fun z=>?_) (Q2 _ e))
  rcases QA.mp z with z | z
  ·exact hb z
  ·exact absurd (Qz.mp z) (Qi (Qc e))
theorem zjP (h:Heap):SetTx prog w (h.push (za1 w)) h.objs.size []:=by
 refine ⟨_,#[],0,_,Qj _ rfl,⟨rfl,rfl,rfl⟩,rfl,fun e he=>by simp at he,fun k=>by simp,by decide,?_,rfl⟩
 simp [SetTable.fits,SetTable.fresh,SetTable.fill]
set_option maxRecDepth 100000 in
set_option maxHeartbeats 3200000 in
theorem zkP {Q:Value->Shared->Prop} (hh:A.handled = none) (hl:s.heap.IsList l its.toArray) (hlen:its.length = ss.length) (hv:∀ (i:Nat) v,its[i]? = some v->∃ x t,ss[i]? = some x/\v = .str x t) (hn:ss.length + 1 < scanBound)
 (h:∀ h' tk,(∀ b o,s.heap.get? b = some o->h'.get? b = some o)->SetTx prog w h' s.heap.objs.size (met ss)->Q (.ref s.heap.objs.size) { s with heap:=h',toks:=tk }) :
  wpAny (model prog w) A (call (.type "set") [.ref l]) Q E s:=by
 obtain ⟨c,tl,hmro⟩:=PySem.F.called_set.mro
 have hmade:=PySem.F.called_set.made
 have hsub:=PySem.F.called_set.sub
 refine wpAny_call (codeAny_of_tree ?_)
 show wpAny _ _ (callAny (.type "set") _) _ _ _
 refine Qd ⟨Code.quiet_builtin _ (by decide +kernel),codeAny_builtin PySem.F.entry_type_call ?_⟩
 rw [Around.under_plain (weight_type_call_type "set" [.ref l] []) rfl]
 have h1:=PySem.F.called_set.notType
 have h2:=PySem.F.called_set.canCreate
 have hct:=PySem.F.typeCall_set_1 (.ref l)
 repeat (any_goals (first | assumption | wp_step))
 refine codeAny_mono (zjn (.ref l) (E:=E) (Q₁:=fun obj s₁=>obj = .ref s.heap.objs.size/\s₁ = { s with heap:=s.heap.push (za1 w) }) ⟨rfl,rfl⟩) fun r s₁ hr=>?_
 cases r with
 | error e=>exact hr
 | ok fl=>
  cases fl with
  | ret obj=>
   obtain ⟨rfl,rfl⟩:=hr
   have hS:(s.heap.push (za1 w)).get? s.heap.objs.size = some (za1 w):=Qj _ rfl
   have hT:Shared.TypeIs { s with heap:=s.heap.push (za1 w) } (.ref s.heap.objs.size) "set":=⟨_,hS,rfl⟩
   have hli:=PySem.F.called_set.init.lookup
   have hbi:=PySem.F.called_set.init.bind (.ref s.heap.objs.size)
   repeat (any_goals (first | assumption | wp_step))
   refine codeAny_mono (codeAny_call_builtin (R:=wants (fun r s₂=>r = .none/\∃ h' tk,s₂ = { s with heap:=h',toks:=tk }/\(∀ b o,s.heap.get? b = some o->h'.get? b = some o)/\SetTx prog w h' s.heap.objs.size (met ss)) E) PySem.F.called_set.init.plain PySem.F.entry_set_init (check_set_init_1 hT ?_)) fun r₂ s₂ hr₂=>?_
   ·have hl':(s.heap.push (za1 w)).IsList l its.toArray:=by
     obtain ⟨o,ho,c⟩:=hl
     exact ⟨o,Q2 _ ho,c⟩
    have hne:l ≠ s.heap.objs.size:=by
     obtain ⟨o,ho,c⟩:=hl
     exact Qi (Qc ho)
    unfold Builtin.«set.__init__» noKeywords
    have hU:=fun A' Q' E' hA h'=>zk7 (prog:=prog) (w:=w) (A:=A') (E:=E') (s:={ s with heap:=s.heap.push (za1 w) }) (S:=s.heap.objs.size) (nm:="set.__init__") (Q:=Q') hA hl' (zjP s.heap) hlen hv hn hne h'
    generalize Builtin.Frozenset.updateFrom = U at hU ⊢
    wp_walk
    refine hU _ _ _ hh fun h' tk ds kp=>Qd ⟨rfl,h',tk,rfl,fun b o e=>kp b o (Qi (Qc e)) (Q2 _ e),ds⟩
   ·cases r₂ with
    | error e=>exact hr₂
    | ok fl₂=>
     cases fl₂ with
     | ret r=>
      obtain ⟨rfl,h',tk,rfl,k1,k3⟩:=hr₂
      repeat (any_goals (first | assumption | wp_step))
      exact h _ _ k1 k3
     | _=>exact hr₂.elim
  | _=>exact hr.elim
end
noncomputable def zjx (P:Program) (w:World) (a:Addr) (ks:List Str):HO:=.ext fun h=>SetTx P w h a ks
theorem zli {P:Program} {H:Hp} {a:Addr} (d:SetTx P w h a ks):ObjOk P w H h a (zjx P w a ks):=by
 obtain ⟨o,es,ep,t,ho,r⟩:=id d
 exact ⟨d,⟨o,ho⟩,fun h1 h2 x k=>x.keep k⟩
section
variable {X:Cx}
theorem zjq (hc:X.calm = true):CallR X (.type "set") (fun xs H Q=>∃ (p:Addr) (ss:List Str),xs = [.ref p]/\SqL X.K H p (ss.map V.str)/\ss.length + 1 < scanBound/\∀ c,H c = none->Q (.ref c) (upd H c (zjx X.prog X.w c (met ss)))):=by
 intro pins s σ H xs us Q I r h
 obtain ⟨p,ss,rfl,hq,hl,q⟩:=h
 obtain ⟨u,rfl,rx⟩:=vals1 r
 cases rx
 obtain ⟨its,r',pl,hz⟩:=I.list hq
 have hlen:=r'.length
 rw [Qf] at hlen
 refine zkP (ss:=ss) (I.ok.hd hc) pl.isList hlen.symm (fun i v e=>?_) hl fun h' tk k1 ds=>?_
 ·have hi:i < ss.length:=by have:=(Qx.mp e).1;omega
  have e2:(ss.map V.str)[i]? = some (V.str ss[i]):=by rw [Qa,Q0 hi];rfl
  obtain ⟨u,hu,t,ht⟩:=Vals.get r' e2
  rw [e] at hu
  cases hu
  exact ⟨ss[i],t,Q0 hi,ht⟩
 ·exact ⟨.ref s.heap.objs.size,_,I.laid (t':=tk) k1 (Q3 _) (zli ds),rfl,q _ I.fresh⟩
theorem zjr:CallR X (.builtin "len") (fun xs H Q=>∃ (c:Addr) (ks:List Str),xs = [.ref c]/\H c = some (zjx X.prog X.w c ks)/\Q (.int ks.length) (zdC H c)):=by
 intro pins s σ H xs us Q I r h
 obtain ⟨c,ks,rfl,hq,q⟩:=h
 obtain ⟨u,rfl,rx⟩:=vals1 r
 cases rx
 obtain ⟨⟨o,es,ep,t,ho,hx,hd,he,hk,hb,hf,hn⟩,_⟩:=I.hok c _ hq
 refine call_len_set ho hx hd hf (by have:es.size < 4096:=hb;omega) ?_
 exact ⟨.int ks.length,_,(I.let hq).tok _,⟨_,by rw [hn]⟩,q⟩
end
end L2
namespace FT
open PySem PySem.Spec PyProof.Rows L2
noncomputable def zc3:List T->Option (List Str)
 | []=>some []
 | .str x :: ts=>(zc3 ts).map (x :: ·)
 | _ :: _=>none
theorem zfT {K:Frag} {S:Sit}:∀ {ts:List T} {ss:List Str} {vs:List V},zc3 ts = some ss->Reps K S ts vs->vs = ss.map V.str
 | [],ss,vs,h,r=>by cases h;rw [r.nilT];rfl
 | .str x :: ts,ss,vs,h,r=>by
  unfold zc3 at h
  cases q:zc3 ts with
  | none=>rw [q] at h;cases h
  | some s2=>
   rw [q] at h
   cases h
   obtain ⟨u,us,rfl,r1,r2⟩:=r.consT
   rw [zfT q r2]
   cases r1
   rfl
 | .non :: _,_,_,h,_=>by cases h
 | .bl _ :: _,_,_,h,_=>by cases h
 | .int _ :: _,_,_,h,_=>by cases h
 | .ty _ :: _,_,_,h,_=>by cases h
 | .tup _ :: _,_,_,h,_=>by cases h
 | .lst _ :: _,_,_,h,_=>by cases h
 | .dct _ :: _,_,_,h,_=>by cases h
 | .ref _ :: _,_,_,h,_=>by cases h
 | .exc _ _ :: _,_,_,h,_=>by cases h
noncomputable def zby (ts:List T) (M:Mem):Out T:=match ts with
 | [t]=>match zv t M with
  | some xs=>match zc3 xs with
   | some ss=>if ss.length < 4000 then .ok (.int (met ss).length) M else .bad
   | none=>.bad
  | none=>.bad
 | _=>.bad
variable {X:Cx} {ga:Ev->Mem->Out (List T)} {p1 p2 q1 q2:Pos} {XE:XK}
section
theorem zk8 {H:Hp} {c:Addr} {o:HO} (h:H c = none):zdC (upd H c o) c = H:=by
 funext z
 unfold zdC upd
 by_cases e:z = c
 ·rw [Qw e,e,h]
 ·rw [Qy e,Qy e]
end
section
theorem ziN {a:Expr} (hc:X.calm = true) (hg:Gl X "len") (hm:X.mg "len" = none) (hgt:Gl X "set") (hmt:X.mg "set" = none) (ha:WA X XE [a] ga) (na:noStar a = true:=by rfl):WE X XE (.Call (.Name "len" p1) [.Call (.Name "set" p2) [a] [] q1] [] q2) (qd zby ga):=by
 have ha:=ha.pe
 refine ⟨?_⟩
 have bs:bootBuiltins "len" = some (.builtin "len"):=by decide +kernel
 have bt:bootBuiltins "set" = some (.type "set"):=by decide +kernel
 refine PE.imp (zgU (x:="len") (p:=p1) (pos:=q2) zjr hg hm bs (zio (zfV (x:="set") (p:=p2) (pos:=q1) (zjq hc) hgt hmt bt ha (by decide) (by decide) (yA na) rfl) zj4) (by decide) (by decide)) fun σ H Q hh=>?_
 refine LN.mono (LN.bind (f:=fun _ σ M=>ga σ M) (k:=fun _ ts σ M1=>zby ts M1) (RB:=Reps X.K) hh) fun vs H1 ⟨S,στ,a,e,m,ev,ra,fin⟩=>?_
 obtain ⟨u,ts⟩:=a
 have r:Reps X.K S ts vs:=ra.2
 replace fin:Fin XE (Rep X.K) X.K S (zby ts S.M) Q:=fin
 unfold zby at fin
 split at fin
 ·split at fin
  ·rename_i t xs q
   split at fin
   ·rename_i ss hs
    split at fin
    ·rename_i hl
     obtain ⟨w,vs1,rfl,r1,r2⟩:=r.consT
     have:=r2.nilT
     subst this
     subst e
     obtain ⟨p,ws,rfl,hq,rs2⟩:=qw m r1 q
     cases zfT hs rs2
     refine ⟨p,ss,rfl,hq,by show _ < 4096;omega,fun c hc=>⟨c,_,rfl,yx,?_⟩⟩
     rw [zk8 hc]
     exact fin S _ rfl (.refl m) (.int _)
    ·exact fin.elim
   ·exact fin.elim
  ·exact fin.elim
 ·exact fin.elim
end
noncomputable def kd (M:Mem) (t:T):Nat:=if qM t = true then 1 else match t with
 | .tup _=>2
 | t=>match zv t M with
  | some _=>3
  | none=>0
end FT
namespace TS
open PySem PyProof.Rows
noncomputable abbrev kof (p:Keyed):Int:=numOf p.1
def IK (p:Keyed):Prop:=∃ n t,p.1 = .int n t
def So (l:List Keyed):Prop:=l.Pairwise fun x y=>kof x<=kof y
def le' (c d:List Keyed):Prop:=∀ x ∈ c,∀ y ∈ d,kof x<=kof y
variable {l m:List Keyed}
theorem qC:So (l ++ m) ↔ So l/\So m/\le' l m:=List.pairwise_append
variable {n:List Keyed}
theorem le_app:le' l (m ++ n) ↔ le' l m/\le' l n:=by
 unfold le'
 constructor
 ·intro h;exact ⟨fun x hx y hy=>h x hx y (mem_append_left _ hy),fun x hx y hy=>h x hx y (Qk _ hy)⟩
 ·rintro ⟨h1,h2⟩ x hx y hy
  rcases QC.mp hy with h | h
  ·exact h1 x hx y h
  ·exact h2 x hx y h
theorem zd3:le' (l ++ m) n ↔ le' l n/\le' m n:=by
 unfold le'
 constructor
 ·intro h;exact ⟨fun x hx y hy=>h x (mem_append_left _ hx) y hy,fun x hx y hy=>h x (Qk _ hx) y hy⟩
 ·rintro ⟨h1,h2⟩ x hx y hy
  rcases QC.mp hx with h | h
  ·exact h1 x h y hy
  ·exact h2 x h y hy
structure MI (T o xs ys:List Keyed):Prop where
 perm:(o ++ (xs ++ ys)).Perm T
 l:So (o ++ xs)
 r:So (o ++ ys)
structure Res (T r:List Keyed):Prop where
 perm:r.Perm T
 so:So r
variable {c o xs ys:List Keyed}
theorem MI.movL {T:List Keyed} (h:MI T o (c ++ xs) ys) (hc:le' c ys):MI T (o ++ c) xs ys:=by
 have h1:=h.l
 have h2:=h.r
 rw [qC,qC,le_app] at h1
 rw [qC] at h2
 refine ⟨by simpa [append_assoc] using h.perm,by simpa [append_assoc] using h.l,?_⟩
 rw [qC,qC,zd3]
 exact ⟨⟨h1.1,h1.2.1.1,h1.2.2.1⟩,h2.2.1,h2.2.2,hc⟩
theorem MI.swap {T:List Keyed} (h:MI T o xs ys):MI T o ys xs:=
 ⟨(List.Perm.append_left o perm_append_comm).trans h.perm,h.r,h.l⟩
structure MJ (T o xs ys:List Keyed):Prop where
 perm:((xs ++ ys) ++ o).Perm T
 l:So (xs ++ o)
 r:So (ys ++ o)
theorem MJ.swap {T:List Keyed} (h:MJ T o xs ys):MJ T o ys xs:=
 ⟨(List.Perm.append_right o perm_append_comm).trans h.perm,h.r,h.l⟩
theorem MJ.movR {T:List Keyed} (h:MJ T o xs (ys ++ c)) (hc:le' xs c):MJ T (c ++ o) xs ys:=by
 have h1:=h.l
 have h2:=h.r
 rw [qC] at h1
 rw [qC,qC,zd3] at h2
 refine ⟨by simpa [append_assoc] using h.perm,?_,by simpa [append_assoc] using h.r⟩
 rw [qC,qC,le_app]
 exact ⟨h1.1,⟨h2.1.2.1,h2.2.1,h2.2.2.2⟩,hc,h1.2.2⟩
structure MC (a b:Array Keyed):Prop where
 ia:∀ p ∈ a.toList,IK p
 ib:∀ p ∈ b.toList,IK p
 sa:So a.toList
 sb:So b.toList
 na:0 < a.toList.length
 nb:0 < b.toList.length
 first:∀ y ∈ a.toList,kof (b.toList[0]'nb)<=kof y
 last:∀ y ∈ b.toList,kof y<=kof (a.toList[a.toList.length - 1]'(by omega))
noncomputable abbrev TT (a b:Array Keyed):List Keyed:=a.toList ++ b.toList
structure LB (st0:SortSt) (lo:Nat) (st:SortSt):Prop where
 kind:kindOf st = oneType'
 failed:failedOf st = none
 pend:pendingOf st = pendingOf st0
 perm:(arrOf st).Perm (arrOf st0)
 pre:∀ i,i < lo->(arrOf st)[i]? = (arrOf st0)[i]?
def Sg (xs:Array Keyed) (lo n:Nat):Prop:=∀ i j,i<=j->j < n->K xs (lo + i)<=K xs (lo + j)
theorem Sg.step {xs:Array Keyed} {lo n:Nat} (h:Sg xs lo n) (h1:n = 0\/K xs (lo + n - 1)<=K xs (lo + n)):Sg xs lo (n + 1):=by
 intro i j hij hj
 by_cases hjn:j < n
 ·exact h i j hij hjn
 ·have e:j = n:=by omega
  subst e
  by_cases hi:i = j
  ·subst hi;exact Int.le_refl _
  ·rcases h1 with h1 | h1
   ·omega
   ·have:=h i (j - 1) (by omega) (by omega)
    rw [show lo + (j - 1) = lo + j - 1 by omega] at this
    exact Int.le_trans this h1
noncomputable abbrev Pd:=Nat × Nat × Nat
noncomputable def Runs (xs:Array Keyed):Nat->List Pd->Nat->Prop
 | st,[],e=>st = e
 | st,(a,n,_) :: l,e=>a = st/\0 < n/\Sg xs st n/\Runs xs (st + n) l e
theorem Runs.len {xs:Array Keyed}:∀ {l:List Pd} {st e:Nat},Runs xs st l e->st + l.length<=e
 | [],st,e,h=>by have:st = e:=h;simp;omega
 | (a,n,p) :: l,st,e,h=>by have:=Runs.len h.2.2.2;have:=h.2.1;simp;omega
theorem Runs.app {xs:Array Keyed}:∀ {l m:List Pd} {st e:Nat},Runs xs st (l ++ m) e ↔ ∃ k,Runs xs st l k/\Runs xs k m e
 | [],m,st,e=>⟨fun h=>⟨st,rfl,h⟩,fun ⟨k,h1,h2⟩=>by have:st = k:=h1;subst this;exact h2⟩
 | (a,n,p) :: l,m,st,e=>by
  constructor
  ·rintro ⟨h1,h2,h3,h4⟩
   obtain ⟨k,g1,g2⟩:=Runs.app.mp h4
   exact ⟨k,⟨h1,h2,h3,g1⟩,g2⟩
  ·rintro ⟨k,⟨h1,h2,h3,g1⟩,g2⟩
   exact ⟨h1,h2,h3,Runs.app.mpr ⟨k,g1,g2⟩⟩
theorem Sg.congr {xs ys:Array Keyed} {lo n:Nat} (h:Sg xs lo n) (he:∀ i,lo<=i->i < lo + n->ys[i]? = xs[i]?):Sg ys lo n:=by
 intro i j hij hj
 rw [K_congr (he (lo + i) (by omega) (by omega)),K_congr (he (lo + j) (by omega) (by omega))]
 exact h i j hij hj
theorem Runs.congr {xs ys:Array Keyed}:∀ {l:List Pd} {st e:Nat},Runs xs st l e->(∀ i,st<=i->i < e->ys[i]? = xs[i]?)->Runs ys st l e
 | [],st,e,h,_=>h
 | (a,n,p) :: l,st,e,h,he=>by
  have:=Runs.len h.2.2.2
  exact ⟨h.1,h.2.1,h.2.2.1.congr fun i h1 h2=>he i h1 (by omega),Runs.congr h.2.2.2 fun i h1 h2=>he i (by omega) h2⟩
theorem Runs.pw {xs:Array Keyed}:∀ {l m:List Pd} {st e:Nat},Runs xs st l e->l.map (fun x=>(x.1,x.2.1)) = m.map (fun x=>(x.1,x.2.1))->Runs xs st m e
 | [],[],st,e,h,_=>h
 | [],_ :: _,st,e,_,hm=>by simp at hm
 | _ :: _,[],st,e,_,hm=>by simp at hm
 | (a,n,p) :: l,(a',n',p') :: m,st,e,h,hm=>by
  simp only [QF,List.cons.injEq,Prod.mk.injEq] at hm
  obtain ⟨⟨rfl,rfl⟩,hm⟩:=hm
  exact ⟨h.1,h.2.1,h.2.2.1,Runs.pw h.2.2.2 hm⟩
structure PI (a0:Array Keyed) (st:SortSt) (e:Nat):Prop where
 kind:kindOf st = oneType'
 failed:failedOf st = none
 perm:(arrOf st).Perm a0
 runs:Runs (arrOf st) 0 (pendingOf st).toList e
 le:e<=a0.size
end TS
namespace FT
open PySem PySem.Spec PyProof.Rows L2
section
variable {X:Cx} {XE:XK}
noncomputable def zs0 (xs:List T) (k:Nat) (t:T):List T:=xs.take k ++ t :: xs.drop k
end
end FT
namespace TK
open PySem
theorem zhN (s:Shared) (g:Nat) (x:GenState):(s.setGen g x).toks = s.toks:=rfl
variable {M:Model} {s s':Shared}
theorem zdM {Γ:Ctx} {p:Pos} {t:Sem Fin} {fs:List Frame} {e:End} (h:Runs M Γ p t fs s e s'):s.toks<=s'.toks:=by
 induction h
 all_goals (try simp only [zhN] at *)
 all_goals (try dsimp only at *)
 all_goals omega
theorem ziO {Γ:Ctx} {p:Pos} {g:Nat} {r:Resume} {res:GenResult} (h:Wakes M Γ p g r s res s'):s.toks<=s'.toks:=by
 unfold Wakes at h
 split at h
 ·exact h.elim
 ·split at h
  ·obtain ⟨e,s1,h1,_,_,rfl⟩:=h
   exact zdM (s:=s.setGen g .running) (s':=s1) h1
  ·rw [h.2];exact Q3 _
  ·rw [h.2];exact Q3 _
 ·obtain ⟨e,s1,h1,_,_,rfl⟩:=h
  exact zdM (s:=s.setGen g .running) (s':=s1) h1
 ·rw [h.2];exact Q3 _
 ·rw [h.2];exact Q3 _
theorem wp_toks {α:Type} {Γ:Ctx} (t:Sem α):∀ {Q:α->Pos->Shared->Prop} {E:Value->Pos->Shared->Prop} {p:Pos} {s:Shared} {n:Nat},n<=s.toks->Sem.wp M Γ t Q E p s->
  Sem.wp M Γ t (fun a p' s'=>Q a p' s'/\n<=s'.toks) (fun e p' s'=>E e p' s'/\n<=s'.toks) p s:=by
 induction t with
 | pure a=>intro Q E p s n hn h;exact ⟨h,hn⟩
 | raise e=>intro Q E p s n hn h;exact ⟨h,hn⟩
 | unsupported w=>intro Q E p s n hn h;exact h
 | finish e=>intro Q E p s n hn h;exact h
 | rule t k ih=>intro Q E p s n hn h;exact ih _ hn h
 | «at» p' k ih=>intro Q E p s n hn h;exact ih _ hn h
 | load a pt k ih=>intro Q E p s n hn h;obtain ⟨o,h1,h2⟩:=h;exact ⟨o,h1,ih _ hn h2⟩
 | update a pt f k ih=>intro Q E p s n hn h;exact ⟨h.1,ih _ (by exact hn) h.2⟩
 | alloc o k ih=>intro Q E p s n hn h;exact ih _ (by exact hn) h
 | loadIfAlive a k ih=>intro Q E p s n hn h;exact ih _ hn h
 | point l k ih=>intro Q E p s n hn h;exact ih _ hn h
 | register a k ih=>intro Q E p s n hn h;exact h
 | fresh k ih=>intro Q E p s n hn h;exact ih _ (show n<=s.toks + 1 by omega) h
 | ask k ih=>intro Q E p s n hn h;exact ih _ hn h
 | choose src m k ih=>intro Q E p s n hn h;exact ⟨h.1,ih _ (by exact hn) h.2⟩
 | os q l k ih=>intro Q E p s n hn h;exact ih _ (by exact hn) h
 | call c hd g l k ih=>
  intro Q E p s n hn h
  obtain ⟨r,s',h1,h2⟩:=h
  exact ⟨r,s',h1,ih _ (Qh hn (zdM h1)) h2⟩
 | handled own k ih=>intro Q E p s n hn h;exact ih _ hn h
 | newGen c k ih=>intro Q E p s n hn h;exact ih _ (by exact hn) h
 | genState g k ih=>intro Q E p s n hn h;obtain ⟨st,h1,h2⟩:=h;exact ⟨st,h1,ih _ hn h2⟩
 | resume g r l k ih=>intro Q E p s n hn h;obtain ⟨res,s',h1,h2⟩:=h;exact ⟨res,s',h1,ih _ (Qh hn (ziO h1)) h2⟩
 | yield v g l k ih=>intro Q E p s n hn h;exact h
 | stack k ih=>intro Q E p s n hn h;exact ih _ hn h
 | fork c k ih=>intro Q E p s n hn h;exact h
 | thread k ih=>intro Q E p s n hn h;exact ih _ hn h
 | await a tk d l k ih=>intro Q E p s n hn h;exact h
theorem wpAny_toks {α:Type} {A:Around} {t:Sem α} {Q:α->Shared->Prop} {E:Value->Shared->Prop} (h:wpAny M A t Q E s):wpAny M A t (fun a s'=>Q a s'/\s.toks<=s'.toks) E s:=by
 intro Γ p hΓ
 exact Sem.wp_mono _ _ _ (fun a p' s' z=>z) (fun e p' s' z=>z.1) _ _ (wp_toks t (Q3 _) (h Γ p hΓ))
end TK
namespace L2
open PySem PySem.Spec PySem.W PyProof.Rows
def PEp (X:Cx) (e:Expr) (t:TE):Prop:=
 ∀ (pins:List (Addr × Obj)) (s:Shared) (σ:St) (H:Hp) (Q:VK),Inv X pins σ H s->0 < s.toks->t σ H Q->wpAny (model X.prog X.w) X.A (eval e X.env) (EP X pins σ Q) X.xe s
def PEd (X:Cx) (e:Expr) (t:TE):Prop:=
 ∀ (pins:List (Addr × Obj)) (s:Shared) (σ:St) (H:Hp) (Q:VK),Inv X pins σ H s->t σ H Q->wpAny (model X.prog X.w) X.A (eval e X.env) (fun v s'=>EP X pins σ Q v s'/\0 < s'.toks) X.xe s
def PAp (X:Cx) (es:List Expr) (t:TA):Prop:=
 ∀ (pos:Pos) (pins:List (Addr × Obj)) (s:Shared) (σ:St) (H:Hp) (Q:List V->Hp->Prop),Inv X pins σ H s->0 < s.toks->t σ H Q->wpAny (model X.prog X.w) X.A (spliced (backTo pos (starEach es X.env))) (AP X pins σ Q) X.xe s
section
variable {X:Cx} {e:Expr} {es:List Expr} {te:TE} {t:TA}
theorem PE.p (h:PE X e te):PEp X e te:=fun pins s σ H Q I _ q=>h pins s σ H Q I q
theorem PA.p (h:PA X es t):PAp X es t:=fun pos pins s σ H Q I _ q=>h pos pins s σ H Q I q
theorem zgW (ha:PEp X e te) (hr:PAp X es t) (hs:starEach (e :: es) X.env = (false,eval e X.env) :: starEach es X.env:=by rfl):PAp X (e :: es) (zgg te t):=by
 intro pos pins s σ H Q I ht h
 rw [hs]
 show wpAny _ _ (spliced ((false,eval e X.env) :: backTo pos (starEach es X.env))) _ _ s
 refine Calls.spliced_cons (thn (TK.wpAny_toks (ha pins s σ H _ I ht h)) fun u s1 ⟨⟨x,H1,I1,r1,q1⟩,hl⟩=>?_)
 exact thn (hr pos pins s1 σ H1 _ I1 (Q5 ht hl) q1) fun us s2 ⟨xs,H2,I2,r2,q2⟩=>⟨x :: xs,H2,I2,.cons r1 r2,q2⟩
theorem zo6 {op:Operator} {r:R2} {a:Expr} {ta:TE} {x:Str} {j:Nat} {p2 pos:Pos} (ho:OpR X (binaryOp op) r) (ha:PE X a ta):PEd X (.BinOp a op (.Constant (.str x) j p2) pos) (tOp r ta (tC (.str x))):=by
 intro pins s σ H Q I h
 refine wpAny_BinOp (thn (ha pins s σ H _ I h) fun v s1 ⟨y,H1,I1,r1,q1⟩=>Calls.Constant_str ?_)
 exact thn (TK.wpAny_toks (ho pins _ σ H1 y (.str x) v _ Q (I1.tok _) r1 ⟨_,rfl⟩ q1)) fun u s2 ⟨z,hl⟩=>⟨z,Q5 (Nat.succ_pos _) hl⟩
noncomputable def rUp:V->List V->Hp->VK->Prop:=fun x vs H Q=>∃ z,x = .str z/\vs = []/\Builtin.Str.tooLong (Txt.upper z).length = false/\Q (.str (Txt.upper z)) H
theorem zqX:MtR X "str.upper" rUp:=by
 intro pins s σ H x xs v us Q I rx rs h
 obtain ⟨z,rfl,rfl,hz,q⟩:=h
 obtain ⟨tk,rfl⟩:=rx
 cases rs
 exact SC.upper hz ⟨.str _,H,I.tok _,⟨_,rfl⟩,q⟩
end
end L2
namespace FT
open PySem PySem.Spec PyProof.Rows L2
def GAp (X:Cx) (XE:XK) (es:List Expr) (f:Ev->Mem->Out (List T)):Prop:=PAp X es (lA XE X.K f)
noncomputable def zsV (y z:Str):T->Mem->Out T:=fun x M=>match x with
 | .str a=>if a.length + (a.length + 1) * z.length<=16777216 then .ok (.str (Txt.replace a y z)) M else .bad
 | _=>.bad
noncomputable def upT:T->Mem->Out T:=fun x M=>match x with
 | .str a=>if Builtin.Str.tooLong (Txt.upper a).length = false then .ok (.str (Txt.upper a)) M else .bad
 | _=>.bad
variable {X:Cx} {ga:Ev->Mem->Out (List T)} {f:Ev->Mem->Out T} {e o:Expr} {es:List Expr} {apos cpos:Pos} {XE:XK}
section
theorem PAp.imp {e:List Expr} {t t':TA} (h:PAp X e t) (i:∀ σ H Q,t' σ H Q->t σ H Q):PAp X e t':=fun pos pins s σ H Q I ht q=>h pos pins s σ H Q I ht (i σ H Q q)
theorem PEp.imp {t t':TE} (h:PEp X e t) (i:∀ σ H Q,t' σ H Q->t σ H Q):PEp X e t':=fun pins s σ H Q I ht q=>h pins s σ H Q I ht (i σ H Q q)
theorem zeS {σ:L2.St} {H:Hp} {Q:List V->Hp->Prop} (h:lA XE X.K (zb f ga) σ H Q):zgg (lE XE X.K f) (lA XE X.K ga) σ H Q:=
 LN.mono (LN.bind (f:=fun _ σ M=>f σ M) (k:=fun _ x σ M1=>(ga σ M1).bind fun xs M2=>.ok (x :: xs) M2) (RB:=Rep X.K) h) fun v H1 h1=>
  LN.mono (LN.env (f:=ga) (LN.bind (f:=fun _ σ M=>ga σ M) (k:=fun (ax:Unit × T) ys σ M2=>.ok (ax.2 :: ys) M2) (RB:=Reps X.K) h1)) fun w H2 h2=>by
   obtain ⟨S,στ,a,e,m,ev,ra,fin⟩:=h2
   show Q (v :: w) H2
   rw [← e]
   exact fin S _ rfl (.refl m) (Reps.cons ra.1.2 ra.2)
theorem zkA (h:GA X XE es ga):GAp X XE es ga:=PA.p h
theorem z6 (ha:GE X XE e f) (hr:GAp X XE es ga) (hs:noStar e = true:=by rfl):GAp X XE (e :: es) (zb f ga):=PAp.imp (zgW (PE.p ha) hr (yA hs)) fun _ _ _ h=>zeS h
theorem zf0 (ha:PEp X e (lE XE X.K f)) (hr:GAp X XE es ga) (hs:noStar e = true:=by rfl):GAp X XE (e :: es) (zb f ga):=PAp.imp (zgW ha hr (yA hs)) fun _ _ _ h=>zeS h
theorem znn {op:Operator} {o:T->T->Mem->Out T} {a:Expr} {x:Str} {j:Nat} {p2 pos:Pos} (ho:OpR X (binaryOp op) (lR2 XE X.K o)) (ha:GE X XE a f):PEd X (.BinOp a op (.Constant (.str x) j p2) pos) (lE XE X.K (eOp o f (eC (.str x)))):=by
 intro pins s σ H Q I h
 refine zo6 ho ha pins s σ H Q I (LN.mono (zek h) fun v H1 h1=>?_)
 obtain ⟨S,στ,a,e,m,ev,ra,fin⟩:=h1
 show lR2 XE X.K o v (.str x) H1 Q
 rw [← e]
 exact fin S _ rfl (.refl m) (.str _)
end
section
theorem zox (ho:WE X XE o f) (hbase:attributeBase o "upper" X.env (eval o X.env) = eval o X.env:=by rfl) (hline:(apos.endLine == cpos.line) = true:=by rfl):WE X XE (.Call (.Attribute o "upper" apos) [] [] cpos) (eUn upT f):=by
 have ho:=ho.pe
 exact ⟨PE.imp (zph PySem.F.plainAttrs_str PySem.F.slot_str_upper PySem.F.type_str_upper zqX ho hbase hline) fun σ H Q h=>
  LN.mono (LN.bind (f:=fun _ σ M=>f σ M) (k:=fun _ x σ M1=>upT x M1) (RB:=Rep X.K) h) fun v H1 h2=>by
   obtain ⟨S,στ,a,e,m,ev,ra,fin⟩:=h2
   have r:Rep X.K S a.2 v:=ra.2
   replace fin:Fin XE (Rep X.K) X.K S (upT a.2 S.M) Q:=fin
   generalize a.2 = t at r fin
   cases r with
   | str x=>
    unfold upT at fin
    simp only at fin
    split at fin
    ·rename_i hb
     exact ⟨rfl,x,rfl,rfl,hb,by rw [← e];exact fin S _ rfl (.refl m) (.str _)⟩
    ·exact fin.elim
   | _=>exact fin.elim⟩
end
end FT
namespace TG
open PySem PyProof.Rows
class KO where
 kf:Keyed->Int
 ik:Keyed->Prop
 kq:SortKind
noncomputable abbrev kof [Z:KO] (p:Keyed):Int:=Z.kf p
noncomputable abbrev IK [Z:KO] (p:Keyed):Prop:=Z.ik p
noncomputable abbrev kd [Z:KO]:SortKind:=Z.kq
class Srt (prog:Program) (w:World) (A:Around) (E:Value->Shared->Prop) (s:Shared) [KO]:Prop where
 ltk:∀ {st:SortSt} {x y:Keyed} {Q:Option Bool->SortSt->Prop},kindOf st = kd->IK x->IK y->Q (some (decide (kof x < kof y))) st->wpS (model prog w) A E s (lt' x y) Q st
variable [KO]
noncomputable def K (xs:Array Keyed) (i:Nat):Int:=match xs[i]? with
 | some p=>kof p
 | none=>0
structure SBase (a₀:Array Keyed) (st:SortSt):Prop where
 perm:(arrOf st).Perm a₀
 kind:kindOf st = kd
 failed:failedOf st = none
 pend:pendingOf st = #[]
theorem K_congr {xs ys:Array Keyed} {i j:Nat} (h:xs[i]? = ys[j]?):K xs i = K ys j:=by unfold K;rw [h]
def So (l:List Keyed):Prop:=l.Pairwise fun x y=>kof x<=kof y
end TG
namespace TG
open PySem PyProof.Rows
variable [KO]
def le' (c d:List Keyed):Prop:=∀ x ∈ c,∀ y ∈ d,kof x<=kof y
variable {l m:List Keyed}
theorem qC:So (l ++ m) ↔ So l/\So m/\le' l m:=List.pairwise_append
variable {n:List Keyed}
theorem le_app:le' l (m ++ n) ↔ le' l m/\le' l n:=by
 unfold le'
 constructor
 ·intro h;exact ⟨fun x hx y hy=>h x hx y (mem_append_left _ hy),fun x hx y hy=>h x hx y (Qk _ hy)⟩
 ·rintro ⟨h1,h2⟩ x hx y hy
  rcases QC.mp hy with h | h
  ·exact h1 x hx y h
  ·exact h2 x hx y h
theorem zd3:le' (l ++ m) n ↔ le' l n/\le' m n:=by
 unfold le'
 constructor
 ·intro h;exact ⟨fun x hx y hy=>h x (mem_append_left _ hx) y hy,fun x hx y hy=>h x (Qk _ hx) y hy⟩
 ·rintro ⟨h1,h2⟩ x hx y hy
  rcases QC.mp hx with h | h
  ·exact h1 x h y hy
  ·exact h2 x h y hy
structure MI (T o xs ys:List Keyed):Prop where
 perm:(o ++ (xs ++ ys)).Perm T
 l:So (o ++ xs)
 r:So (o ++ ys)
structure Res (T r:List Keyed):Prop where
 perm:r.Perm T
 so:So r
variable {c o xs ys:List Keyed}
theorem MI.movL {T:List Keyed} (h:MI T o (c ++ xs) ys) (hc:le' c ys):MI T (o ++ c) xs ys:=by
 have h1:=h.l
 have h2:=h.r
 rw [qC,qC,le_app] at h1
 rw [qC] at h2
 refine ⟨by simpa [append_assoc] using h.perm,by simpa [append_assoc] using h.l,?_⟩
 rw [qC,qC,zd3]
 exact ⟨⟨h1.1,h1.2.1.1,h1.2.2.1⟩,h2.2.1,h2.2.2,hc⟩
theorem MI.swap {T:List Keyed} (h:MI T o xs ys):MI T o ys xs:=
 ⟨(List.Perm.append_left o perm_append_comm).trans h.perm,h.r,h.l⟩
structure MJ (T o xs ys:List Keyed):Prop where
 perm:((xs ++ ys) ++ o).Perm T
 l:So (xs ++ o)
 r:So (ys ++ o)
theorem MJ.swap {T:List Keyed} (h:MJ T o xs ys):MJ T o ys xs:=
 ⟨(List.Perm.append_right o perm_append_comm).trans h.perm,h.r,h.l⟩
theorem MJ.movR {T:List Keyed} (h:MJ T o xs (ys ++ c)) (hc:le' xs c):MJ T (c ++ o) xs ys:=by
 have h1:=h.l
 have h2:=h.r
 rw [qC] at h1
 rw [qC,qC,zd3] at h2
 refine ⟨by simpa [append_assoc] using h.perm,?_,by simpa [append_assoc] using h.r⟩
 rw [qC,qC,le_app]
 exact ⟨h1.1,⟨h2.1.2.1,h2.2.1,h2.2.2.2⟩,hc,h1.2.2⟩
end TG
namespace TG
open PySem PyProof.Rows
variable [KO]
structure MC (a b:Array Keyed):Prop where
 ia:∀ p ∈ a.toList,IK p
 ib:∀ p ∈ b.toList,IK p
 sa:So a.toList
 sb:So b.toList
 na:0 < a.toList.length
 nb:0 < b.toList.length
 first:∀ y ∈ a.toList,kof (b.toList[0]'nb)<=kof y
 last:∀ y ∈ b.toList,kof y<=kof (a.toList[a.toList.length - 1]'(by omega))
noncomputable abbrev TT (a b:Array Keyed):List Keyed:=a.toList ++ b.toList
end TG
namespace TG
open PySem PyProof.Rows
variable [KO]
structure LB (st0:SortSt) (lo:Nat) (st:SortSt):Prop where
 kind:kindOf st = kd
 failed:failedOf st = none
 pend:pendingOf st = pendingOf st0
 perm:(arrOf st).Perm (arrOf st0)
 pre:∀ i,i < lo->(arrOf st)[i]? = (arrOf st0)[i]?
def Sg (xs:Array Keyed) (lo n:Nat):Prop:=∀ i j,i<=j->j < n->K xs (lo + i)<=K xs (lo + j)
theorem Sg.step {xs:Array Keyed} {lo n:Nat} (h:Sg xs lo n) (h1:n = 0\/K xs (lo + n - 1)<=K xs (lo + n)):Sg xs lo (n + 1):=by
 intro i j hij hj
 by_cases hjn:j < n
 ·exact h i j hij hjn
 ·have e:j = n:=by omega
  subst e
  by_cases hi:i = j
  ·subst hi;exact Int.le_refl _
  ·rcases h1 with h1 | h1
   ·omega
   ·have:=h i (j - 1) (by omega) (by omega)
    rw [show lo + (j - 1) = lo + j - 1 by omega] at this
    exact Int.le_trans this h1
end TG
namespace TG
open PySem PyProof.Rows
variable [KO]
noncomputable abbrev Pd:=Nat × Nat × Nat
noncomputable def Runs (xs:Array Keyed):Nat->List Pd->Nat->Prop
 | st,[],e=>st = e
 | st,(a,n,_) :: l,e=>a = st/\0 < n/\Sg xs st n/\Runs xs (st + n) l e
theorem Runs.len {xs:Array Keyed}:∀ {l:List Pd} {st e:Nat},Runs xs st l e->st + l.length<=e
 | [],st,e,h=>by have:st = e:=h;simp;omega
 | (a,n,p) :: l,st,e,h=>by have:=Runs.len h.2.2.2;have:=h.2.1;simp;omega
theorem Runs.app {xs:Array Keyed}:∀ {l m:List Pd} {st e:Nat},Runs xs st (l ++ m) e ↔ ∃ k,Runs xs st l k/\Runs xs k m e
 | [],m,st,e=>⟨fun h=>⟨st,rfl,h⟩,fun ⟨k,h1,h2⟩=>by have:st = k:=h1;subst this;exact h2⟩
 | (a,n,p) :: l,m,st,e=>by
  constructor
  ·rintro ⟨h1,h2,h3,h4⟩
   obtain ⟨k,g1,g2⟩:=Runs.app.mp h4
   exact ⟨k,⟨h1,h2,h3,g1⟩,g2⟩
  ·rintro ⟨k,⟨h1,h2,h3,g1⟩,g2⟩
   exact ⟨h1,h2,h3,Runs.app.mpr ⟨k,g1,g2⟩⟩
theorem Sg.congr {xs ys:Array Keyed} {lo n:Nat} (h:Sg xs lo n) (he:∀ i,lo<=i->i < lo + n->ys[i]? = xs[i]?):Sg ys lo n:=by
 intro i j hij hj
 rw [K_congr (he (lo + i) (by omega) (by omega)),K_congr (he (lo + j) (by omega) (by omega))]
 exact h i j hij hj
theorem Runs.congr {xs ys:Array Keyed}:∀ {l:List Pd} {st e:Nat},Runs xs st l e->(∀ i,st<=i->i < e->ys[i]? = xs[i]?)->Runs ys st l e
 | [],st,e,h,_=>h
 | (a,n,p) :: l,st,e,h,he=>by
  have:=Runs.len h.2.2.2
  exact ⟨h.1,h.2.1,h.2.2.1.congr fun i h1 h2=>he i h1 (by omega),Runs.congr h.2.2.2 fun i h1 h2=>he i (by omega) h2⟩
theorem Runs.pw {xs:Array Keyed}:∀ {l m:List Pd} {st e:Nat},Runs xs st l e->l.map (fun x=>(x.1,x.2.1)) = m.map (fun x=>(x.1,x.2.1))->Runs xs st m e
 | [],[],st,e,h,_=>h
 | [],_ :: _,st,e,_,hm=>by simp at hm
 | _ :: _,[],st,e,_,hm=>by simp at hm
 | (a,n,p) :: l,(a',n',p') :: m,st,e,h,hm=>by
  simp only [QF,List.cons.injEq,Prod.mk.injEq] at hm
  obtain ⟨⟨rfl,rfl⟩,hm⟩:=hm
  exact ⟨h.1,h.2.1,h.2.2.1,Runs.pw h.2.2.2 hm⟩
structure PI (a0:Array Keyed) (st:SortSt) (e:Nat):Prop where
 kind:kindOf st = kd
 failed:failedOf st = none
 perm:(arrOf st).Perm a0
 runs:Runs (arrOf st) 0 (pendingOf st).toList e
 le:e<=a0.size
end TG
namespace FT
open PySem PySem.Spec PyProof.Rows
inductive TV (h:Heap):T->Value->Prop
 | int (n:Int) (k:Tok):TV h (.int n) (.int n k)
 | tup {ts:List T} {a:Addr} {its:List Value} (ho:h.IsTuple a its.toArray) (hl:ts.length = its.length) (hr:∀ (i:Nat) t v,ts[i]? = some t->its[i]? = some v->TV h t v):TV h (.tup ts) (.ref a)
variable {h:Heap}
theorem zmU {a:Addr} {x y:List Value} (h1:h.IsTuple a x.toArray) (h2:h.IsTuple a y.toArray):x = y:=by
 obtain ⟨o,ho,_,n,hd⟩:=h1
 obtain ⟨o',ho',_,n',hd'⟩:=h2
 rw [ho] at ho'
 cases ho'
 rw [hd] at hd'
 injection hd' with e
 simpa using e
theorem TV.fn {t:T} {v:Value} (r:TV h t v):∀ {u:T},TV h u v->t = u:=by
 induction r with
 | int n k=>intro u q;cases q;rfl
 | @tup ts a its ho hl hr ih=>
  intro u q
  cases q with
  | @tup us _ its2 ho2 hl2 hr2=>
   have:=zmU ho ho2
   subst this
   congr 1
   refine ext_getElem? fun i=>?_
   by_cases hi:i < its.length
   ·rw [Q0 (by omega),Q0 (by omega)]
    exact congrArg some (ih i _ _ (Q0 (by omega)) (Q0 hi) (hr2 i _ _ (Q0 (by omega)) (Q0 hi)))
   ·rw [getElem?_eq_none (by omega),getElem?_eq_none (by omega)]
end FT
namespace FT
open PySem PySem.Spec PyProof.Rows L2
def Bel (M M':Mem):Prop:=M.length<=M'.length/\∀ (i:Nat) c,i < M.length->M'[i]? = some c->M[i]? = some c\/Cell.lt 0 c
noncomputable def zeO (f:List T->Mem->Out T):List T->Mem->Out T:=fun ts M=>match f ts M with
 | .ok (.ref a) M'=>match M'[a]? with
  | some (.lst xs)=>@ite _ (Bel M M'/\M.length<=a/\∀ x ∈ xs,T.lt 0 x) (Classical.propDecidable _) (.ok (.lst xs) (M'.take M.length)) .bad
  | _=>.bad
 | .ok v M'=>@ite _ (Bel M M'/\T.lt 0 v) (Classical.propDecidable _) (.ok v (M'.take M.length)) .bad
 | _=>.bad
theorem Bel.cells {M M':Mem} (h:Bel M M'):(M'.take M.length).length = M.length/\∀ (i:Nat) c,(M'.take M.length)[i]? = some c->M[i]? = some c\/Cell.lt (M'.take M.length).length c:=by
 have hl:(M'.take M.length).length = M.length:=by rw [Qp];have:=h.1;omega
 refine ⟨hl,fun i c e=>?_⟩
 have hi:i < M.length:=by have:=(Qx.mp e).1;omega
 rw [getElem?_take,Qw hi] at e
 rcases h.2 i c hi e with h | h
 ·exact .inl h
 ·exact .inr (h.mono (Nat.zero_le _))
theorem zmd (f:List T->Mem->Out T):Refines (zeO f) f:=by
 intro ts M t' M1 hM e
 unfold zeO at e
 split at e
 ·rename_i a M' q
  split at e
  ·rename_i xs qa
   split at e
   ·rename_i hc
    cases e
    obtain ⟨hl,hcs⟩:=hc.1.cells
    refine ⟨_,_,q,Nat.le_of_eq hl.symm,by rw [hl];exact hc.1.1,by rw [hl],hcs,.ref qa (by rw [hl];exact hc.2.1) rfl fun i t u e1 e2=>?_⟩
    rw [e1] at e2
    cases e2
    exact .same ((hc.2.2 t (Q9 e1)).mono (Nat.zero_le _))
   ·cases e
  ·cases e
 ·rename_i v M' _ q
  split at e
  ·rename_i hc
   cases e
   obtain ⟨hl,hcs⟩:=hc.1.cells
   exact ⟨_,_,q,Nat.le_of_eq hl.symm,by rw [hl];exact hc.1.1,by rw [hl],hcs,.same (hc.2.mono (Nat.zero_le _))⟩
  ·cases e
 ·cases e
theorem zme (f:List T->Mem->Out T):∀ ts M C fs M',zeO f ts M ≠ .exn C fs M':=by
 intro ts M C fs M' e
 unfold zeO at e
 split at e
 ·split at e
  ·split at e <;> cases e
  ·cases e
 ·split at e <;> cases e
 ·cases e
end FT
namespace L2
open PySem PySem.Spec PySem.W PyProof.Rows
inductive Prt (X:Cx):List Expr->List (Str ⊕ Nat)->Prop
 | nil:Prt X [] []
 | con {x:Str} {k:Nat} {pos:Pos} {es:List Expr} {ps:List (Str ⊕ Nat)} (r:Prt X es ps):Prt X (.Constant (.str x) k pos :: es) (.inl x :: ps)
 | var {e:Expr} {i:Nat} {pos:Pos} {es:List Expr} {ps:List (Str ⊕ Nat)} (h:PE X e (zgw i)) (r:Prt X es ps):Prt X (.FormattedValue e (-1) none pos :: es) (.inr i :: ps)
noncomputable def zaG:List Str->Str
 | []=>Str.empty
 | y :: ys=>y ++ zaG ys
theorem za5 (a b c:Str):(a ++ b) ++ c = a ++ (b ++ c):=by
 show Str.append (Str.append a b) c = Str.append a (Str.append b c)
 unfold Str.append
 simp
theorem zd4 (a:Str):a ++ Str.empty = a:=by
 show Str.append a Str.empty = a
 unfold Str.append
 simp [Str.empty]
theorem zcX (a b:Str):(a ++ b).length = a.length + b.length:=strLen_append ..
inductive PtV (σ:St):List (Str ⊕ Nat)->List Str->Prop
 | nil:PtV σ [] []
 | con {x:Str} {ps:List (Str ⊕ Nat)} {ys:List Str} (r:PtV σ ps ys):PtV σ (.inl x :: ps) (x :: ys)
 | str {i:Nat} {x:Str} {ps:List (Str ⊕ Nat)} {ys:List Str} (h:σ[i]? = some (some (.str x))) (r:PtV σ ps ys):PtV σ (.inr i :: ps) (x :: ys)
 | int {i:Nat} {n:Int} {ps:List (Str ⊕ Nat)} {ys:List Str} (h:σ[i]? = some (some (.int n))) (hn:n.natAbs.log2 < 1920) (r:PtV σ ps ys):PtV σ (.inr i :: ps) (Str.ofString (toString n) :: ys)
variable {x y:Str}
section
variable {X:Cx}
theorem zcp {pins:List (Addr × Obj)} {σ:St} {H:Hp}:∀ {es:List Expr} {ps:List (Str ⊕ Nat)} {ys:List Str},Prt X es ps->PtV σ ps ys->∀ {acc:Str} {s:Shared},Inv X pins σ H s->(acc ++ zaG ys).length<=sizeLine->
  Joins (model X.prog X.w) X.A X.xe (evalEach es X.env) acc (fun out s1=>out = acc ++ zaG ys/\Inv X pins σ H s1) s
 | _,_,_,.nil,.nil,acc,s,I,hz=>⟨(zd4 acc).symm,I⟩
 | _,_,_,.con (x:=x) (es:=es) r,.con (ys:=ys) q,acc,s,I,hz=>by
  show wpAny _ _ (eval (.Constant (.str x) _ _) X.env) _ _ s
  have hz':((acc ++ x) ++ zaG ys).length<=sizeLine:=by rw [za5];exact hz
  refine Calls.Constant_str ⟨x,_,rfl,?_,?_⟩
  ·rw [zcX] at hz';omega
  ·have:=zcp r q (acc:=acc ++ x) (s:={ s with toks:=s.toks + 1 }) (I.tok _) hz'
   rw [za5] at this
   exact this
 | _,_,_,.var (e:=e) (i:=i) (es:=es) h r,q,acc,s,I,hz=>by
  show wpAny _ _ (eval (.FormattedValue e (-1) none _) X.env) _ _ s
  refine wpAny_FormattedValue_plain ?_
  cases q with
  | @str _ x _ ys hi q=>
   have hz':((acc ++ x) ++ zaG ys).length<=sizeLine:=by rw [za5];exact hz
   have hx:x.length<=sizeLine:=by rw [zcX,zcX] at hz';omega
   have ha:(acc ++ x).length<=sizeLine:=by rw [zcX] at hz';omega
   refine thn (h pins s σ H (fun v H1=>v = .str x/\H1 = H) I ⟨_,hi,rfl,rfl⟩) fun v s1 ⟨y,H1,I1,r1,e1,e2⟩=>?_
   subst e1 e2
   obtain ⟨tk,rfl⟩:=r1
   have go:∀ s',Inv X pins σ H1 s'->Joins (model X.prog X.w) X.A X.xe (evalEach es X.env) (acc ++ x) (fun out s1=>out = acc ++ (x ++ zaG ys)/\Inv X pins σ H1 s1) s':=fun s' I'=>by
    have:=zcp r q (acc:=acc ++ x) I' hz'
    rw [za5] at this
    exact this
   exact wpAny_formatField_str ⟨x,_,rfl,ha,go _ I1⟩ ⟨x,_,rfl,ha,go _ (I1.tok _)⟩ hx
  | @int _ n _ ys hi hn q=>
   have hz':((acc ++ Str.ofString (toString n)) ++ zaG ys).length<=sizeLine:=by rw [za5];exact hz
   have ha:(acc ++ Str.ofString (toString n)).length<=sizeLine:=by rw [zcX] at hz';omega
   refine thn (h pins s σ H (fun v H1=>v = .int n/\H1 = H) I ⟨_,hi,rfl,rfl⟩) fun v s1 ⟨y,H1,I1,r1,e1,e2⟩=>?_
   subst e1 e2
   obtain ⟨tk,rfl⟩:=r1
   refine wpAny_formatField_int hn ⟨_,_,rfl,ha,?_⟩
   have:=zcp r q (acc:=acc ++ Str.ofString (toString n)) (s:={ s1 with toks:=s1.toks + 1 + 1 }) (I1.kept (t':=s1.toks + 1 + 1) fun b o e=>e) hz'
   rw [za5] at this
   exact this
theorem zpf {v1 v2:Expr} {es:List Expr} {ps:List (Str ⊕ Nat)} {pos:Pos} (h:Prt X (v1 :: v2 :: es) ps):PE X (.JoinedStr (v1 :: v2 :: es) pos) (fun σ H Q=>∃ ys,PtV σ ps ys/\(zaG ys).length<=sizeLine/\Q (.str (zaG ys)) H):=by
 intro pins s σ H Q I ⟨ys,hp,hl,q⟩
 have e0:Str.empty ++ zaG ys = zaG ys:=by
  show Str.append Str.empty _ = _
  unfold Str.append
  simp [Str.empty]
 refine wpAny_JoinedStr ?_
 have mono:∀ (l:List (Sem Value)) (acc:Str) (P P':Str->Shared->Prop) (s:Shared),(∀ o s,P o s->P' o s)->Joins (model X.prog X.w) X.A X.xe l acc P s->Joins (model X.prog X.w) X.A X.xe l acc P' s:=by
  intro l
  induction l with
  | nil=>exact fun acc P P' s i h=>i _ _ h
  | cons a l ih=>exact fun acc P P' s i h=>Qe h (fun v s1 ⟨y,t,e,z,g⟩=>⟨y,t,e,z,ih _ _ _ _ i g⟩) fun _ _ e=>e
 refine mono _ _ _ _ s (fun o s1 ⟨e1,I1⟩=>?_) (zcp h hp I (by rw [e0];exact hl))
 rw [e0] at e1
 subst e1
 exact ⟨hl,.str _,H,I1.tok _,⟨_,rfl⟩,q⟩
def KDi (K:Frag) (w:World) (a:Addr) (x y:Str):Prop:=∃ t u n,K.lookup a = some ⟨.type "dict",none,.dict #[⟨PyData.keyHash w.params x,.str x t,.bool true⟩,⟨PyData.keyHash w.params y,.str y u,.bool false⟩] n,#[]⟩
theorem zpI {K:Frag} {w:World} {a:Addr} {t u:Tok} {n:Nat} (h:K.lookup a = some ⟨.type "dict",none,.dict #[⟨PyData.keyHash w.params x,.str x t,.bool true⟩,⟨PyData.keyHash w.params y,.str y u,.bool false⟩] n,#[]⟩):KDi K w a x y:=⟨t,u,n,h⟩
noncomputable def k2V (x y z:Str):V:=if z = x then .bl true else if z = y then .bl false else .non
theorem zno {nm:Str} {a:Addr} {e:Expr} {ta:TA} {p apos cpos:Pos} (hg:Gl X nm) (hm:X.mg nm = some (.ref a)) (hk:KDi X.K X.w a x y) (hxy:x ≠ y) (hsys:(a == sysModules) = false) (ha:PA X [e] ta) (hd:(nm == ("__debug__":Str)) = false:=by decide)
 (hbase:attributeBase (.Name nm p) "get" X.env (eval (.Name nm p) X.env) = eval (.Name nm p) X.env:=by rfl)
 (hfew:((backTo cpos (starEach [e] X.env)).all (fun x=>!x.1) && (backToKw cpos (keywordEach [] X.env)).all (fun x=>x.1.isSome)
 && decide ([e].length + ([]:List Keyword).length + (if ([]:List Keyword).isEmpty then 0 else 1) < 30)) = true:=by rfl)
 (hline:(apos.endLine == cpos.line) = true:=by rfl) (hs:starEach [e] X.env = [(false,eval e X.env)]:=by rfl) :
  PE X (.Call (.Attribute (.Name nm p) "get" apos) [e] [] cpos) (fun σ H Q=>ta σ H fun vs H1=>∃ z,vs = [.str z]/\Q (k2V x y z) H1):=by
 intro pins s σ H Q I h
 have ho:PE X (.Name nm p) (tC (.ref a)):=zil (v:=.ref a) hg hm rfl hd
 refine wpAny_Call_method_late hbase hfew hline rfl (thn (ho pins s σ H (fun v H1=>v = .ref a/\H1 = H) I ⟨rfl,rfl⟩) fun v s1 ⟨x1,H1,I1,r1,e1,e2⟩=>?_)
 subst e1 e2
 cases r1
 obtain ⟨t,u,n,hl⟩:=hk
 have ho1:=I1.bk _ _ (I1.mod.kin _ _ hl)
 refine ⟨"dict","dict.get",PySem.F.plainAttrs_dict,PySem.F.slot_dict_get,PySem.F.type_dict_get,⟨_,ho1,rfl⟩,(fun _ e=>by cases e;exact ⟨_,ho1,rfl⟩),?_⟩
 have hA:=ha cpos pins s1 σ H1 _ I1 h
 rw [hs] at hA ⊢
 refine Calls.callWith_builtin rfl (Calls.evalArgs_plain ?_)
 refine thn hA fun us s2 ⟨vs,H2,I2,r2,z,ez,q⟩=>?_
 subst ez
 obtain ⟨uu,rfl,rz⟩:=vals1 r2
 obtain ⟨tk,rfl⟩:=rz
 have ho2:=I2.bk _ _ (I2.mod.kin _ _ hl)
 have dd:s2.heap.DictOf (yT X.prog X.w) a [(.inr x,.bool true),(.inr y,.bool false)]:=by
  refine ⟨_,_,_,ho2,⟨rfl,rfl,rfl⟩,rfl,?_,?_,?_⟩
  ·intro e he
   simp at he
   rcases he with rfl | rfl
   ·exact ⟨.inr x,za2 x t,rfl⟩
   ·exact ⟨.inr y,za2 y u,rfl⟩
  ·exact .cons (za2 x t) rfl (.cons (za2 y u) rfl .nil)
  ·simp [hxy]
 refine call_meetsIn PySem.F.slot_dict_get dd.typeIs PySem.F.entry_dict_get (PySem.F.args_dict_get_2 _ _) (meets_dict_get (yT X.prog X.w) a (k:=.inr z) (za2 z tk) hsys) ⟨_,dd.mapOf,k2V x y z,H2,I2.tok _,?_,q⟩
 unfold k2V valueAt
 by_cases h1:z = x
 ·subst h1;simp;rfl
 ·have n1:¬ (Sum.inr x:Key) = Sum.inr z:=fun e=>h1 (Sum.inr.inj e).symm
  rw [Qy h1]
  by_cases h2:z = y
  ·subst h2;simp [n1];rfl
  ·have n2:¬ (Sum.inr y:Key) = Sum.inr z:=fun e=>h2 (Sum.inr.inj e).symm
   rw [Qy h2]
   simp [n1,n2]
   rfl
end
end L2
namespace PySem
open PySem.Builtin PySem.Builtin.Str
theorem zhW (x y z:Str) (t u v k:Tok)
  (hf:((occurrences x y 0 x.length 1).isEmpty || (y.length == 0 && z.length == 0)) = false->
   (u == 0 || v == 0) = false/\(u == v) = false/\(y == z) = false/\tooLong (x.length + (occurrences x y 0 x.length 1).length * z.length) = false) :
  Gives («str.replace» ⟨[.str x t,.str y u,.str z v,.int 1 k],[]⟩) (if ((occurrences x y 0 x.length 1).isEmpty || (y.length == 0 && z.length == 0)) = true then .val (.str x t) else .str (glued z (partsBetween x (occurrences x y 0 x.length 1) y.length))):=by
 show Gives (if ((occurrences x y 0 x.length 1).isEmpty || (y.length == 0 && z.length == 0)) = true then (do rule "str.replace.nothing";ret (.str x t)) else
     (do
       let same ← isSame (.str y u) (.str z v)
       if same = true then (do rule "str.replace.old-is-new";ret (.str x t)) else
       if tooLong (x.length + (occurrences x y 0 x.length 1).length * z.length) = true then unsupported "str.replace:memory" else
       retStr (glued z (partsBetween x (occurrences x y 0 x.length 1) y.length)))) _
 cases hc:((occurrences x y 0 x.length 1).isEmpty || (y.length == 0 && z.length == 0))
 ·obtain ⟨h0,huv,hyz,hl⟩:=hf hc
  rw [isSame_str_other y z u v h0 huv hyz,hl]
  exact .of_eq rfl
 ·exact .rule (.of_eq rfl)
end PySem
namespace L2
open PySem PySem.Spec PySem.W PyProof.Rows
def PSd (X:Cx) (st:Stmt) (t:TS):Prop:=
 ∀ (pins:List (Addr × Obj)) (s:Shared) (σ:St) (H:Hp) (D:Ends),Inv X pins σ H s->t D σ H->wpAny (model X.prog X.w) X.A (exec st X.env) (fun f s'=>SP X pins D f s'/\0 < s'.toks) X.xe s
def PSp (X:Cx) (st:Stmt) (t:TS):Prop:=
 ∀ (pins:List (Addr × Obj)) (s:Shared) (σ:St) (H:Hp) (D:Ends),Inv X pins σ H s->0 < s.toks->t D σ H->wpAny (model X.prog X.w) X.A (exec st X.env) (SP X pins D) X.xe s
def zhK (X:Cx) (st:List Stmt) (t:TS):Prop:=
 ∀ (pins:List (Addr × Obj)) (s:Shared) (σ:St) (H:Hp) (D:Ends),Inv X pins σ H s->0 < s.toks->t D σ H->wpAny (model X.prog X.w) X.A (execs st X.env) (SP X pins D) X.xe s
variable {i:Nat} {pos':Pos} {x:Str}
section
variable {X:Cx} {e:Expr} {es:List Expr} {te:TE} {t:TA} {st:Stmt} {rest:List Stmt} {ts us:TS} {pos:Pos}
theorem PS.p (h:PS X st ts):PSp X st ts:=fun pins s σ H D I _ q=>h pins s σ H D I q
theorem PSs.p (h:PSs X rest ts):zhK X rest ts:=fun pins s σ H D I _ q=>h pins s σ H D I q
theorem zjX (h1:PSd X st ts) (h2:zhK X rest us):PSs X (st :: rest) (zla ts us):=by
 intro pins s σ H D I h
 refine wpAny_execs_cons (thn (h1 pins s σ H { D with nx:=us D } I h) fun f s1 ⟨q,ht⟩=>?_)
 cases f with
 | next=>
  obtain ⟨σ',H',I',q⟩:=q
  exact h2 pins s1 σ' H' D I' ht q
 | ret v=>exact q
 | brk=>exact q
 | cont=>exact q
theorem zjW (h1:PSp X st ts) (h2:zhK X rest us):zhK X (st :: rest) (zla ts us):=by
 intro pins s σ H D I ht h
 refine wpAny_execs_cons (thn (TK.wpAny_toks (h1 pins s σ H { D with nx:=us D } I ht h)) fun f s1 ⟨q,hl⟩=>?_)
 cases f with
 | next=>
  obtain ⟨σ',H',I',q⟩:=q
  exact h2 pins s1 σ' H' D I' (Q5 ht hl) q
 | ret v=>exact q
 | brk=>exact q
 | cont=>exact q
theorem znd (hN:X.N.Nodup) (hi:X.N[i]? = some x) (hx:Loc X.env.scope x) (he:PEp X e te) (hs:swapsWith e (some (.Name x pos')) pos.line X.env = pure false:=by rfl) (hf:X.fn x = true\/X.env.scope.names.lookup x = some .local:=by first | exact .inl rfl | exact .inr rfl | assumption) :
  PSp X (.Assign [.Name x pos'] e pos) (zgy te (zdo i)):=by
 intro pins s σ H D I ht h
 refine wpAny_Assign_Name (thn (he pins s σ H _ I ht h) fun v s1 ⟨y,H1,I1,r1,q1⟩=>?_) hs
 exact zc5 I1 hN hi hx r1 (fun s2 I2=>⟨_,H1,I2,q1⟩) hf
theorem zne (hN:X.N.Nodup) (hi:X.N[i]? = some x) (hx:Loc X.env.scope x) (he:PEd X e te) (hs:swapsWith e (some (.Name x pos')) pos.line X.env = pure false:=by rfl) (hf:X.fn x = true\/X.env.scope.names.lookup x = some .local:=by first | exact .inl rfl | exact .inr rfl | assumption) :
  PSd X (.Assign [.Name x pos'] e pos) (zgy te (zdo i)):=by
 intro pins s σ H D I h
 refine wpAny_Assign_Name (thn (he pins s σ H _ I h) fun v s1 ⟨⟨y,H1,I1,r1,q1⟩,ht⟩=>?_) hs
 exact thn (TK.wpAny_toks (zc5 (Q:=fun _ s'=>SP X pins D .next s') I1 hN hi hx r1 (fun s2 I2=>⟨_,H1,I2,q1⟩) hf)) fun _ s2 ⟨q,hl⟩=>⟨q,Q5 ht hl⟩
def PAd (X:Cx) (es:List Expr) (t:TA):Prop:=
 ∀ (pos:Pos) (pins:List (Addr × Obj)) (s:Shared) (σ:St) (H:Hp) (Q:List V->Hp->Prop),Inv X pins σ H s->t σ H Q->wpAny (model X.prog X.w) X.A (spliced (backTo pos (starEach es X.env))) (fun v s'=>AP X pins σ Q v s'/\0 < s'.toks) X.xe s
theorem zlC (ha:PEd X e te) (hr:PAp X es t) (hs:starEach (e :: es) X.env = (false,eval e X.env) :: starEach es X.env:=by rfl):PAd X (e :: es) (zgg te t):=by
 intro pos pins s σ H Q I h
 rw [hs]
 show wpAny _ _ (spliced ((false,eval e X.env) :: backTo pos (starEach es X.env))) _ _ s
 refine Calls.spliced_cons (thn (ha pins s σ H _ I h) fun u s1 ⟨⟨x,H1,I1,r1,q1⟩,hl⟩=>?_)
 exact thn (TK.wpAny_toks (hr pos pins s1 σ H1 _ I1 hl q1)) fun us s2 ⟨⟨xs,H2,I2,r2,q2⟩,hk⟩=>⟨⟨x :: xs,H2,I2,.cons r1 r2,q2⟩,Q5 hl hk⟩
theorem znm (h:PAd X es t):PEd X (.List es pos) (ziU t):=by
 intro pins s σ H Q I hq
 refine wpAny_List_spliced (thn (h pos pins s σ H _ I hq) fun us s1 ⟨⟨xs,H1,I1,r,z,q⟩,ht⟩=>⟨by rw [← r.length];exact z,?_⟩)
 have hf:H1 s1.heap.objs.size = none:=I1.hok.fresh (Q3 _)
 refine ⟨⟨.ref s1.heap.objs.size,upd H1 s1.heap.objs.size (.lst xs),I1.laid (t':=s1.toks) (fun b u e=>Q2 _ e) (Q3 _) ?_,rfl,q _ hf⟩,ht⟩
 exact ⟨z,us,0,r,Qj _ rfl⟩
theorem znl (h:PAp X es t):PEp X (.List es pos) (ziU t):=by
 intro pins s σ H Q I ht hq
 refine wpAny_List_spliced (thn (h pos pins s σ H _ I ht hq) fun us s1 ⟨xs,H1,I1,r,z,q⟩=>⟨by rw [← r.length];exact z,?_⟩)
 have hf:H1 s1.heap.objs.size = none:=I1.hok.fresh (Q3 _)
 refine ⟨.ref s1.heap.objs.size,upd H1 s1.heap.objs.size (.lst xs),I1.laid (t':=s1.toks) (fun b u e=>Q2 _ e) (Q3 _) ?_,rfl,q _ hf⟩
 exact ⟨z,us,0,r,Qj _ rfl⟩
theorem zo5 {a b:Expr} {ta tb:TE} {op:Operator} {r:R2} (ho:OpR X (binaryOp op) r) (ha:PE X a ta) (hb:PEp X b tb):PEp X (.BinOp a op b pos) (tOp r ta tb):=by
 intro pins s σ H Q I ht h
 refine wpAny_BinOp (thn (TK.wpAny_toks (ha pins s σ H _ I h)) fun v s1 ⟨⟨x,H1,I1,r1,q1⟩,hl⟩=>?_)
 exact thn (hb pins s1 σ H1 _ I1 (Q5 ht hl) q1) fun u s2 ⟨y,H2,I2,r2,q2⟩=>ho pins s2 σ H2 x y v u Q I2 r1 r2 q2
noncomputable def zdd (x y z:Str):Str:=if ((Builtin.Str.occurrences x y 0 x.length 1).isEmpty || (y.length == 0 && z.length == 0)) = true then x else Builtin.Str.glued z (Builtin.Str.partsBetween x (Builtin.Str.occurrences x y 0 x.length 1) y.length)
noncomputable def zoE (y z:Str) (te:TE):TE:=fun σ H Q=>te σ H fun v H1=>∃ x,v = .str x/\x.length + (Builtin.Str.occurrences x y 0 x.length 1).length * z.length<=16777216/\(zdd x y z).length<=sizeLine/\Q (.str (zdd x y z)) H1
theorem zj1 {o:Expr} {y z:Str} {j1 j2 j3:Nat} {p1 p2 p3 apos cpos:Pos} (ho:PE X o te) (hyz:(y == z) = false)
  (hbase:attributeBase o "replace" X.env (eval o X.env) = eval o X.env:=by rfl)
  (hfew:((backTo cpos (starEach [.Constant (.str y) j1 p1,.Constant (.str z) j2 p2,.Constant (.int 1) j3 p3] X.env)).all (fun x=>!x.1) && (backToKw cpos (keywordEach [] X.env)).all (fun x=>x.1.isSome)
   && decide ([Expr.Constant (.str y) j1 p1,.Constant (.str z) j2 p2,.Constant (.int 1) j3 p3].length + ([]:List Keyword).length + (if ([]:List Keyword).isEmpty then 0 else 1) < 30)) = true:=by rfl)
  (hline:(apos.endLine == cpos.line) = true:=by rfl) :
  PEp X (.Call (.Attribute o "replace" apos) [.Constant (.str y) j1 p1,.Constant (.str z) j2 p2,.Constant (.int 1) j3 p3] [] cpos) (zoE y z te):=by
 intro pins s σ H Q I ht h
 refine wpAny_Call_method_late hbase hfew hline rfl (thn (TK.wpAny_toks (ho pins s σ H _ I h)) fun v s1 ⟨⟨xv,H1,I1,r1,q1⟩,hl⟩=>?_)
 obtain ⟨x,rfl,hb,hz,q⟩:=q1
 obtain ⟨tk,rfl⟩:=r1
 have hp:0 < s1.toks:=Q5 ht hl
 refine ⟨"str","str.replace",PySem.F.plainAttrs_str,PySem.F.slot_str_replace,PySem.F.type_str_replace,typeIs_str _ _ _,(fun _ e=>by cases e),?_⟩
 refine Calls.callWith_builtin rfl (Calls.evalArgs_plain (Calls.spliced_cons (Calls.Constant_str (k:=j1) (pos:=p1) (Calls.spliced_cons ?_))))
 refine (show wpAny _ _ (eval (.Constant (.str z) j2 p2) X.env) _ _ _ from Calls.Constant_str (Calls.spliced_cons ?_))
 refine (show wpAny _ _ (eval (.Constant (.int 1) j3 p3) X.env) _ _ _ from wpAny_Constant_int (Calls.spliced_nil ?_))
 have e:(2:Nat) ^ 24 = 16777216:=by decide
 refine call_gives PySem.F.slot_str_replace (typeIs_str _ _ _) PySem.F.entry_str_replace (PySem.F.args_str_replace_4 _ _ _ _) (zhW x y z tk _ _ _ fun _=>⟨?_,?_,hyz,?_⟩) ?_
 ·have h0:s1.toks ≠ 0:=by omega
  show (s1.toks == 0 || s1.toks + 1 == 0) = false
  simp [h0]
 ·show (s1.toks == s1.toks + 1) = false
  simp
 ·unfold Builtin.Str.tooLong sizeLine
  exact Qv (by omega)
 ·unfold zdd at q hz
  cases hc:((Builtin.Str.occurrences x y 0 x.length 1).isEmpty || (y.length == 0 && z.length == 0))
  ·rw [hc] at q hz
   simp only [Bool.false_eq_true,if_false] at q hz ⊢
   exact ⟨hz,.str _,H1,I1.kept (t':=_) fun b o e=>e,⟨_,rfl⟩,q⟩
  ·rw [hc] at q
   simp only [if_true] at q ⊢
   exact ⟨.str _,H1,I1.kept (t':=_) fun b o e=>e,⟨_,rfl⟩,q⟩
end
end L2
namespace FT
open PySem PySem.Spec PyProof.Rows L2
def GSd (X:Cx) (XE:XK) (st:Stmt) (g:Ev->Mem->Out Fl):Prop:=PSd X st (lS XE X.K g)
def GSp (X:Cx) (XE:XK) (st:Stmt) (g:Ev->Mem->Out Fl):Prop:=PSp X st (lS XE X.K g)
def zhM (X:Cx) (XE:XK) (st:List Stmt) (g:Ev->Mem->Out Fl):Prop:=zhK X st (lS XE X.K g)
noncomputable def zaK (y z:Str):T->Mem->Out T:=fun x M=>match x with
 | .str a=>if a.length + (Builtin.Str.occurrences a y 0 a.length 1).length * z.length<=16777216/\(zdd a y z).length<=sizeLine then .ok (.str (zdd a y z)) M else .bad
 | _=>.bad
noncomputable def ptT (σ:Ev):List (Str ⊕ Nat)->Option (List Str)
 | []=>some []
 | .inl x :: ps=>(ptT σ ps).map (x :: ·)
 | .inr i :: ps=>match σ[i]? with
  | some (some (.str x))=>(ptT σ ps).map (x :: ·)
  | some (some (.int n))=>@ite _ (n.natAbs.log2 < 1920) (Classical.propDecidable _) ((ptT σ ps).map (Str.ofString (toString n) :: ·)) none
  | _=>none
noncomputable def zcd (ps:List (Str ⊕ Nat)):Ev->Mem->Out T:=fun σ M=>match ptT σ ps with
 | some ys=>if (zaG ys).length<=sizeLine then .ok (.str (zaG ys)) M else .bad
 | none=>.bad
noncomputable def k2T (x y:Str):List T->Mem->Out T:=fun ts M=>match ts with
 | [.str z]=>.ok (if z = x then .bl true else if z = y then .bl false else .non) M
 | _=>.bad
variable {X:Cx} {ga:Ev->Mem->Out (List T)} {q:Ev->Mem->Out Fl} {f:Ev->Mem->Out T} {e v1 v2:Expr} {H:Hp} {ps:List (Str ⊕ Nat)} {es:List Expr} {i:Nat} {apos cpos pos pos':Pos} {st:Stmt} {x y:Str} {Q:VK} {XE:XK}
section
variable {rest:List Stmt} {p:Ev->Mem->Out Fl}
theorem zfY (h1:GSp X XE st p) (h2:zhM X XE rest q):zhM X XE (st :: rest) (zg p q):=fun pins s σ H D I ht hh=>zjW h1 h2 pins s σ H D I ht (zg7 hh)
theorem znU (h:GSs X XE rest q):zhM X XE rest q:=PSs.p h
theorem zpU (h:GS X XE st p):GSp X XE st p:=PS.p h
theorem zic {D:Ends} {σ:L2.St} (hh:lS XE X.K (zn i f) D σ H):zgy (lE XE X.K f) (zdo i) D σ H:=
 LN.mono (LN.bind (f:=fun _ σ M=>f σ M) (k:=fun _ t σ M1=>.ok (Fl.nx (σ.set i (some t))) M1) (RB:=Rep X.K) hh) fun v H1 h9=>by
  obtain ⟨S,στ,a,e,m,ev,ra,fin⟩:=h9
  show D.nx (σ.set i (some v)) H1
  rw [← e];exact fin S (.nx _) rfl (.refl m) (.nx (ev.set ra.2 i))
theorem znX (hN:X.N.Nodup) (hi:X.N[i]? = some x) (hx:Loc X.env.scope x) (he:PEp X e (lE XE X.K f)) (hs:swapsWith e (some (.Name x pos')) pos.line X.env = pure false:=by rfl) (hf:X.fn x = true\/X.env.scope.names.lookup x = some .local:=by first | exact .inl rfl | exact .inr rfl | assumption) :
  GSp X XE (.Assign [.Name x pos'] e pos) (zn i f):=fun pins s σ H D I ht hh=>znd hN hi hx he hs hf pins s σ H D I ht (zic hh)
theorem znY (hN:X.N.Nodup) (hi:X.N[i]? = some x) (hx:Loc X.env.scope x) (he:PEd X e (lE XE X.K f)) (hs:swapsWith e (some (.Name x pos')) pos.line X.env = pure false:=by rfl) (hf:X.fn x = true\/X.env.scope.names.lookup x = some .local:=by first | exact .inl rfl | exact .inr rfl | assumption) :
  GSd X XE (.Assign [.Name x pos'] e pos) (zn i f):=fun pins s σ H D I hh=>zne hN hi hx he hs hf pins s σ H D I (zic hh)
theorem zhr {σ:L2.St} (h:lL XE X.K (zt ga) σ H Q):ziU (lA XE X.K ga) σ H Q:=by
 obtain ⟨S,στ,e,m,ev,fin⟩:=h
 replace fin:FinL XE X.K S ((ga στ S.M).bind fun xs M1=>if xs.length<=sizeLine then .ok xs M1 else .bad) Q:=fin
 refine ⟨S,στ,(),e,m,ev,trivial,?_⟩
 show Fin XE (Reps X.K) X.K S (ga στ S.M) _
 cases q:ga στ S.M with
 | bad=>rw [q] at fin;exact fin
 | exn C fs M'=>rw [q] at fin;exact fin
 | ok xs M1=>
  rw [q] at fin
  intro S1 vs e1 s1 r1
  by_cases hl:xs.length<=sizeLine
  ·replace fin:FinL XE X.K S (if xs.length<=sizeLine then .ok xs M1 else .bad) Q:=fin
   rw [Qw hl] at fin
   refine ⟨by rw [← r1.1];exact hl,fun p hp=>?_⟩
   have s2:=Stp.hide s1.mok hp vs
   exact (fin.later s1) (S1.hide p vs) p vs e1 s2 hp (.head _) yx (r1.grow s1.mok s2.toGrow)
  ·replace fin:FinL XE X.K S (if xs.length<=sizeLine then .ok xs M1 else .bad) Q:=fin
   rw [Qy hl] at fin
   exact fin.elim
theorem zkB {gl:Ev->Mem->Out (List T)} {σ:L2.St} (h:lE XE X.K (eFz gl) σ H Q):lL XE X.K gl σ H Q:=by
 obtain ⟨S,στ,_,e,m,ev,_,fin⟩:=h
 refine ⟨S,στ,e,m,ev,?_⟩
 show FinL XE X.K S (gl στ S.M) Q
 replace fin:Fin XE (Rep X.K) X.K S ((gl στ S.M).bind fun xs M1=>.ok (.lst xs) M1) Q:=fin
 cases q:gl στ S.M with
 | bad=>rw [q] at fin;exact fin
 | exn C fs M'=>rw [q] at fin;exact fin
 | ok xs M1=>
  rw [q] at fin
  intro S1 p vs e1 s1 hn hp hv r
  exact fin (S1.show S.hid) (.ref p) e1 s1.show (zfF s1 hn m hp hv r)
theorem zl7 (h:GAp X XE es ga):PEp X (.List es pos) (lE XE X.K (eFz (zt ga))):=PEp.imp (znl h) fun _ _ _ h=>zhr (zkB h)
theorem zl8 {e1:Expr} {f1:Ev->Mem->Out T} (ha:PEd X e1 (lE XE X.K f1)) (hr:GAp X XE es ga) (hs:noStar e1 = true:=by rfl):PEd X (.List (e1 :: es) pos) (lE XE X.K (eFz (zt (zb f1 ga)))):=fun pins s σ H Q I h=>
 znm (zlC ha hr (yA hs)) pins s σ H Q I (by
  have:=zhr (zkB h)
  exact zeS this)
theorem zp6 {a b:Expr} {g:Ev->Mem->Out T} {op:Operator} {o:T->T->Mem->Out T} (ho:OpR X (binaryOp op) (lR2 XE X.K o)) (ha:GE X XE a f) (hb:PEp X b (lE XE X.K g)):PEp X (.BinOp a op b pos) (lE XE X.K (eOp o f g)):=PEp.imp (zo5 ho ha hb) fun _ _ _ h=>zek h
theorem zfZ {o:Expr} {z:Str} {j1 j2 j3:Nat} {p1 p2 p3:Pos} (ho:GE X XE o f) (hyz:(y == z) = false)
 (hbase:attributeBase o "replace" X.env (eval o X.env) = eval o X.env:=by rfl)
 (hfew:((backTo cpos (starEach [.Constant (.str y) j1 p1,.Constant (.str z) j2 p2,.Constant (.int 1) j3 p3] X.env)).all (fun x=>!x.1) && (backToKw cpos (keywordEach [] X.env)).all (fun x=>x.1.isSome)
 && decide ([Expr.Constant (.str y) j1 p1,.Constant (.str z) j2 p2,.Constant (.int 1) j3 p3].length + ([]:List Keyword).length + (if ([]:List Keyword).isEmpty then 0 else 1) < 30)) = true:=by rfl)
 (hline:(apos.endLine == cpos.line) = true:=by rfl) :
  PEp X (.Call (.Attribute o "replace" apos) [.Constant (.str y) j1 p1,.Constant (.str z) j2 p2,.Constant (.int 1) j3 p3] [] cpos) (lE XE X.K (eUn (zaK y z) f)):=PEp.imp (zj1 ho hyz hbase hfew hline) fun σ H Q h=>
 LN.mono (LN.bind (f:=fun _ σ M=>f σ M) (k:=fun _ x σ M1=>zaK y z x M1) (RB:=Rep X.K) h) fun v H1 h2=>by
  obtain ⟨S,στ,a,e,m,ev,ra,fin⟩:=h2
  have r:Rep X.K S a.2 v:=ra.2
  replace fin:Fin XE (Rep X.K) X.K S (zaK y z a.2 S.M) Q:=fin
  generalize a.2 = t at r fin
  cases r with
  | str x=>
   unfold zaK at fin
   simp only at fin
   split at fin
   ·rename_i hb
    exact ⟨x,rfl,hb.1,hb.2,by rw [← e];exact fin S _ rfl (.refl m) (.str _)⟩
   ·exact fin.elim
  | _=>exact fin.elim
theorem ze3 {S:Sit} {στ:Ev} {σ:L2.St} (ev:EvR X.K S στ σ):∀ {ps:List (Str ⊕ Nat)} {ys:List Str},ptT στ ps = some ys->PtV σ ps ys
 | [],ys,h=>by cases h;exact .nil
 | .inl x :: ps,ys,h=>by
  unfold ptT at h
  cases q:ptT στ ps with
  | none=>rw [q] at h;cases h
  | some zs=>rw [q] at h;cases h;exact .con (ze3 ev q)
 | .inr i :: ps,ys,h=>by
  unfold ptT at h
  split at h
  ·rename_i x qi
   obtain ⟨v,e1,r⟩:=ev.2 i _ qi
   cases r
   cases q:ptT στ ps with
   | none=>rw [q] at h;cases h
   | some zs=>rw [q] at h;cases h;exact .str e1 (ze3 ev q)
  ·rename_i n qi
   obtain ⟨v,e1,r⟩:=ev.2 i _ qi
   cases r
   split at h
   ·rename_i hn
    cases q:ptT στ ps with
    | none=>rw [q] at h;cases h
    | some zs=>rw [q] at h;cases h;exact .int e1 hn (ze3 ev q)
   ·cases h
  ·cases h
end
section
variable {rest:List Stmt} {p:Ev->Mem->Out Fl}
theorem ziM (h1:GSd X XE st p) (h2:zhM X XE rest q):WSs X XE (st :: rest) (zg p q):=⟨PSs.imp (zjX h1 h2) fun _ _ _ hh=>zg7 hh⟩
theorem zh5 (h:Prt X (v1 :: v2 :: es) ps):WE X XE (.JoinedStr (v1 :: v2 :: es) pos) (zcd ps):=⟨PE.imp (zpf h) fun σ H Q h9=>by
 obtain ⟨S,στ,_,e,m,ev,_,fin⟩:=h9
 replace fin:Fin XE (Rep X.K) X.K S (zcd ps στ S.M) Q:=fin
 unfold zcd at fin
 split at fin
 ·rename_i ys q
  split at fin
  ·rename_i hl
   exact ⟨ys,ze3 ev q,hl,by rw [← e];exact fin S _ rfl (.refl m) (.str _)⟩
  ·exact fin.elim
 ·exact fin.elim⟩
theorem zgs {nm:Str} {p:Pos} (hg:Gl X nm) (hm:∃ a,X.mg nm = some (.ref a)/\KDi X.K X.w a x y/\(a == sysModules) = false) (hxy:x ≠ y) (ha:WA X XE [e] ga) (hd:(nm == ("__debug__":Str)) = false:=by decide) (hbase:attributeBase (.Name nm p) "get" X.env (eval (.Name nm p) X.env) = eval (.Name nm p) X.env:=by rfl) (hfew:((backTo cpos (starEach [e] X.env)).all (fun x=>!x.1) && (backToKw cpos (keywordEach [] X.env)).all (fun x=>x.1.isSome)
 && decide ([e].length + ([]:List Keyword).length + (if ([]:List Keyword).isEmpty then 0 else 1) < 30)) = true:=by rfl) (hline:(apos.endLine == cpos.line) = true:=by rfl) (hs:noStar e = true:=by rfl):WE X XE (.Call (.Attribute (.Name nm p) "get" apos) [e] [] cpos) (qd (k2T x y) ga):=by
 have ha:=ha.pe
 refine ⟨?_⟩
 obtain ⟨a,hm,hk,hsys⟩:=hm
 refine PE.imp (zno hg hm hk hxy hsys ha hd hbase hfew hline (yA hs)) fun σ H Q h=>?_
 refine LN.mono (LN.bind (f:=fun _ σ M=>ga σ M) (k:=fun _ ts σ M1=>k2T x y ts M1) (RB:=Reps X.K) h) fun vs H1 h2=>?_
 obtain ⟨S,στ,b,e,m,ev,ra,fin⟩:=h2
 have r:Reps X.K S b.2 vs:=ra.2
 replace fin:Fin XE (Rep X.K) X.K S (k2T x y b.2 S.M) Q:=fin
 generalize b.2 = ts at r fin
 unfold k2T at fin
 split at fin
 ·rename_i z
  obtain ⟨v,vs',rfl,r1,r2⟩:=r.consT
  rw [r2.nilT]
  cases r1
  refine ⟨z,rfl,?_⟩
  rw [← e]
  refine fin S (k2V x y z) rfl (.refl m) ?_
  unfold k2V
  split
  ·exact .bl _
  ·split
   ·exact .bl _
   ·exact .non
 ·exact fin.elim
end
def Ok {β:Type} (o:Out β) (Q:β->Mem->Prop):Prop:=∃ b M,o = .ok b M/\Q b M
variable {M:Mem}
theorem Ok.ret {β:Type} {b:β} {Q:β->Mem->Prop} (h:Q b M):Ok (.ok b M) Q:=⟨b,M,rfl,h⟩
theorem Ok.bind {β γ:Type} {o:Out β} {k:β->Mem->Out γ} {P:β->Mem->Prop} {Q:γ->Mem->Prop} (h:Ok o P) (g:∀ b M,P b M->Ok (k b M) Q):Ok (o.bind k) Q:=by
 obtain ⟨b,M,e,p⟩:=h
 rw [e]
 exact g b M p
theorem Ok.mono {β:Type} {o:Out β} {P Q:β->Mem->Prop} (h:Ok o P) (g:∀ b M,P b M->Q b M):Ok o Q:=by
 obtain ⟨b,M,e,p⟩:=h
 exact ⟨b,M,e,g b M p⟩
theorem zhC {β γ δ:Type} {o:Out β} {k:β->Mem->Out γ} {l:γ->Mem->Out δ}:(o.bind k).bind l = o.bind fun b M=>(k b M).bind l:=by cases o <;> rfl
theorem zsf {β γ:Type} {p:Prop} [Decidable p] {x y:Out β} {k:β->Mem->Out γ}:(if p then x else y).bind k = if p then x.bind k else y.bind k:=by split <;> rfl
variable {t:T}
theorem zse {β γ:Type} {k:Bool->Mem->Out β} {l:β->Mem->Out γ}:(blT t M k).bind l = blT t M fun b M=>(k b M).bind l:=by cases t <;> rfl
noncomputable def zbl (fl:Fl) (M:Mem):Out T:=match fl with
 | .rt t=>.ok t M
 | .nx _=>.ok .non M
 | _=>.bad
theorem zsu:zbl (.rt t) M = .ok t M:=rfl
variable {σ:Ev}
theorem zsv:zbl (.nx σ) M = .ok .non M:=rfl
variable {g:Ev->Mem->Out Fl} {ts:List T} {n:Nat}
theorem qu {p:Nat} {Q:T->Mem->Prop} (h:ts.length = p) (k:Ok ((g (startT n ts) M).bind zbl) Q):Ok (zq p n g ts M) Q:=by
 obtain ⟨b,M1,e,q⟩:=k
 refine ⟨b,M1,?_,q⟩
 rw [zjU h]
 cases r:g (startT n ts) M with
 | bad=>rw [r] at e;cases e
 | exn C fs M'=>rw [r] at e;cases e
 | ok fl M'=>
  rw [r] at e
  cases fl with
  | rt t=>exact e
  | nx σ=>exact e
  | bk σ=>cases e
  | ct σ=>cases e
def Fr (S:List Nat) (M M':Mem):Prop:=M.length<=M'.length/\∀ i,i < M.length->i ∉ S->M'[i]? = M[i]?
theorem Fr.refl (S:List Nat) (M:Mem):Fr S M M:=⟨Q3 _,fun _ _ _=>rfl⟩
variable {A B C:Mem}
theorem Fr.trans {S:List Nat} (h:Fr S A B) (g:Fr S B C):Fr S A C:=⟨Qh h.1 g.1,fun i hi hs=>by rw [g.2 i (Q5 hi h.1) hs,h.2 i hi hs]⟩
variable {S':List Nat}
theorem Fr.tr {S:List Nat} (h:Fr S A B) (g:Fr S' B C) (s:∀ i ∈ S',i ∈ S\/A.length<=i):Fr S A C:=⟨Qh h.1 g.1,fun i hi hs=>by
 rw [g.2 i (Q5 hi h.1) (fun z=>by rcases s i z with a | a;exact hs a;omega),h.2 i hi hs]⟩
variable {c:Cell} {M':Mem}
theorem Fr.get {S:List Nat} (h:Fr S M M') (e:M[i]? = some c) (hs:i ∉ S):M'[i]? = some c:=by
 rw [h.2 i (Qx.mp e).1 hs];exact e
theorem Fr.get0 (h:Fr [] M M') (e:M[i]? = some c):M'[i]? = some c:=h.get e (by simp)
theorem Fr.sub {S:List Nat} (h:Fr S M M') (s:∀ i ∈ S,i ∈ S'\/M.length<=i):Fr S' M M':=⟨h.1,fun i hi hs=>h.2 i hi fun z=>by
 rcases s i z with a | a
 ·exact hs a
 ·omega⟩
theorem Fr.app (M:Mem) (l:List Cell):Fr [] M (M ++ l):=⟨by simp,fun i hi _=>by rw [Q6 hi]⟩
theorem Fr.set (M:Mem) (a:Nat) (c:Cell):Fr [a] M (M.set a c):=⟨by simp,fun i _ hs=>by rw [getElem?_set,Qy (by simp at hs;omega)]⟩
theorem Fr.mono {S:List Nat} (h:Fr [] M M'):Fr S M M':=h.sub (fun i hi=>by simp at hi)
theorem zaM (e:M[i]? = some c):i < M.length:=(Qx.mp e).1
theorem qB:(M ++ [c])[M.length]? = some c:=List.getElem?_concat_length
theorem zl6 {d:Cell}:(M ++ [c] ++ [d])[M.length]? = some c:=by rw [Q6 (by simp)];exact qB
theorem get_set {a:Nat} {c':Cell} (e:M[a]? = some c):(M.set a c')[a]? = some c':=by
 rw [getElem?_set,Qw rfl,Qw (zaM e)]
theorem Ok.loop {bd:T->Ev->Mem->Out Ev} {body:Ev->Mem->Out Fl} {α:Type} {r:α->T} (P:Nat->Ev->Mem->Prop) {R:T->Mem->Prop}:∀ (xs:List α) (i:Nat) {σ:Ev} {M:Mem},
  P i σ M->(∀ (k:Nat) x σ M,xs[k]? = some x->P (i + k) σ M->Ok ((bd (r x) σ M).bind fun σ1 M1=>body σ1 M1) fun fl M'=>(∃ σ',(fl = .nx σ'\/fl = .ct σ')/\P (i + k + 1) σ' M')\/(∃ σ',fl = .bk σ'/\P (i + xs.length) σ' M')\/∃ t,fl = .rt t/\R t M')->
  Ok (forL bd body (xs.map r) σ M) fun fl M'=>(∃ σ',fl = .nx σ'/\P (i + xs.length) σ' M')\/∃ t,fl = .rt t/\R t M'
 | [],i,σ,M,h,_=>⟨.nx σ,M,rfl,.inl ⟨σ,rfl,h⟩⟩
 | x :: xs,i,σ,M,h,t=>by
  obtain ⟨fl,M1,e1,h1⟩:=t 0 x σ M rfl h
  rw [QF,zf3]
  cases q:bd (r x) σ M with
  | bad=>rw [q] at e1;cases e1
  | exn C fs M'=>rw [q] at e1;cases e1
  | ok σ3 M3=>
   rw [q] at e1
   replace e1:body σ3 M3 = .ok fl M1:=e1
   show Ok ((body σ3 M3).bind (yU (forL bd body (xs.map r)))) _
   rw [e1]
   have go:∀ σ1,P (i + 1) σ1 M1->Ok (forL bd body (xs.map r) σ1 M1) fun fl M'=>(∃ σ',fl = .nx σ'/\P (i + (x :: xs).length) σ' M')\/∃ t,fl = .rt t/\R t M':=fun σ1 h1=>by
    have ih:=Ok.loop (R:=R) P xs (i + 1) (bd:=bd) (body:=body) h1 (fun k y σ M hk hp=>by
     have:=t (k + 1) y σ M (by simpa using hk) (by rw [show i + (k + 1) = i + 1 + k by omega];exact hp)
     rw [show i + (k + 1) + 1 = i + 1 + k + 1 by omega,Qn,show i + (xs.length + 1) = i + 1 + xs.length by omega] at this
     exact this)
    rw [Qn,show i + (xs.length + 1) = i + 1 + xs.length by omega]
    exact ih
   rcases h1 with ⟨σ1,h1 | h1,h2⟩ | ⟨σ1,h1,h2⟩ | ⟨u,h1,h2⟩
   ·rw [h1];exact go σ1 h2
   ·rw [h1];exact go σ1 h2
   ·rw [h1];exact ⟨.nx σ1,M1,rfl,.inl ⟨σ1,rfl,h2⟩⟩
   ·rw [h1];exact ⟨.rt u,M1,rfl,.inr ⟨u,rfl,h2⟩⟩
variable {body:Ev->Mem->Out Fl} {bd:T->Ev->Mem->Out Ev}
theorem Ok.for {α:Type} {r:α->T} (P:Nat->Ev->Mem->Prop) {xs:List α} 
 (h:P 0 σ M) (t:∀ (k:Nat) x σ M,xs[k]? = some x->P k σ M->Ok ((bd (r x) σ M).bind fun σ1 M1=>body σ1 M1) fun fl M'=>∃ σ',fl = .nx σ'/\P (k + 1) σ' M') :
  Ok (forL bd body (xs.map r) σ M) fun fl M'=>∃ σ',fl = .nx σ'/\P xs.length σ' M':=by
 refine (Ok.loop (R:=fun _ _=>False) P xs 0 h (fun k x σ M hk hp=>?_)).mono ?_
 ·rw [Nat.zero_add] at hp
  refine (t k x σ M hk hp).mono ?_
  rintro fl M' ⟨σ',e,q⟩
  exact .inl ⟨σ',.inl e,by rw [Nat.zero_add];exact q⟩
 ·rintro fl M' (⟨σ',e,q⟩ | ⟨t,_,f⟩)
  ·exact ⟨σ',e,by rw [Nat.zero_add] at q;exact q⟩
  ·exact f.elim
theorem Ok.comp {bd:T->Ev->Mem->Out Ev} {cond:Ev->Mem->Out Bool} {el:Ev->Mem->Out T} {α:Type} {r:α->T} (P:Nat->List T->Ev->Mem->Prop):∀ (xs:List α) {σ:Ev} {M:Mem} (i:Nat) (acc:List T),
  P i acc σ M->acc.length + xs.length<=sizeLine->(∀ (k:Nat) x σ M acc,xs[k]? = some x->P (i + k) acc σ M->Ok ((bd (r x) σ M).bind fun σ1 M1=>(cond σ1 M1).bind fun b M2=>if b = true then (el σ1 M2).bind fun t M3=>.ok (some t,σ1) M3 else .ok (none,σ1) M2) fun o M'=>P (i + k + 1) (match o.1 with | some t=>acc ++ [t] | none=>acc) o.2 M')->
  Ok (yt bd cond el (xs.map r) σ M acc) fun ts M'=>∃ σ',P (i + xs.length) ts σ' M'
 | [],σ,M,i,acc,h,_,_=>⟨acc,M,by simp [yt],σ,h⟩
 | x :: xs,σ,M,i,acc,h,hl,t=>by
  obtain ⟨o,M1,e1,h1⟩:=t 0 x σ M acc rfl h
  rw [Qn] at hl
  rw [QF]
  unfold yt
  have go:∀ acc σ1 M1,acc.length + xs.length<=sizeLine->P (i + 1) acc σ1 M1->Ok (yt bd cond el (xs.map r) σ1 M1 acc) fun ts M'=>∃ σ',P (i + (x :: xs).length) ts σ' M':=fun acc σ1 M1 hl h1=>by
   have ih:=Ok.comp P xs (i + 1) acc (bd:=bd) (cond:=cond) (el:=el) h1 hl (fun k y σ M acc hk hp=>by
    have:=t (k + 1) y σ M acc (by simpa using hk) (by rw [show i + (k + 1) = i + 1 + k by omega];exact hp)
    rw [show i + (k + 1) + 1 = i + 1 + k + 1 by omega] at this
    exact this)
   rw [Qn,show i + (xs.length + 1) = i + 1 + xs.length by omega]
   exact ih
  cases q:bd (r x) σ M with
  | bad=>rw [q] at e1;cases e1
  | exn C fs M'=>rw [q] at e1;cases e1
  | ok σ3 M3=>
   rw [q] at e1
   replace e1:((cond σ3 M3).bind fun b M2=>if b = true then (el σ3 M2).bind fun t M3=>.ok (some t,σ3) M3 else .ok (none,σ3) M2) = .ok o M1:=e1
   show Ok ((cond σ3 M3).bind _) _
   cases q2:cond σ3 M3 with
   | bad=>rw [q2] at e1;cases e1
   | exn C fs M'=>rw [q2] at e1;cases e1
   | ok b M4=>
    rw [q2] at e1
    cases b with
    | false=>
     replace e1:(Out.ok (none,σ3) M4:Out (Option T × Ev)) = .ok o M1:=e1
     cases e1
     exact go acc σ3 _ (by omega) h1
    | true=>
     replace e1:((el σ3 M4).bind fun t M3=>.ok (some t,σ3) M3) = .ok o M1:=e1
     show Ok ((el σ3 M4).bind _) _
     cases q3:el σ3 M4 with
     | bad=>rw [q3] at e1;cases e1
     | exn C fs M'=>rw [q3] at e1;cases e1
     | ok u M5=>
      rw [q3] at e1
      replace e1:(Out.ok (some u,σ3) M5:Out (Option T × Ev)) = .ok o M1:=e1
      cases e1
      show Ok (if acc.length < sizeLine then _ else _) _
      rw [Qw (by omega)]
      exact go (acc ++ [u]) σ3 _ (by rw [Ql,Qn,length_nil];omega) h1
theorem Ok.whileN {c:Ev->Mem->Out Bool} {body:Ev->Mem->Out Fl} (P:Ev->Mem->Prop) (μ:Ev->Mem->Nat) {Q:Ev->Mem->Prop} {R:T->Mem->Prop}
  (t:∀ σ M,P σ M->Ok (c σ M) fun b M1=>(b = true/\Ok (body σ M1) fun fl M2=>(∃ σ',(fl = .nx σ'\/fl = .ct σ')/\P σ' M2/\μ σ' M2 < μ σ M)\/(∃ σ',fl = .bk σ'/\Q σ' M2)\/∃ t,fl = .rt t/\R t M2)\/(b = false/\Q σ M1)) :
  ∀ (n:Nat) (σ:Ev) (M:Mem),μ σ M < n->P σ M->Ok (whileN c body n σ M) fun fl M'=>(∃ σ',fl = .nx σ'/\Q σ' M')\/∃ t,fl = .rt t/\R t M'
 | 0,_,_,hn,_=>absurd hn (by omega)
 | n + 1,σ,M,hn,h=>by
  obtain ⟨b,M1,e,r⟩:=t σ M h
  unfold FT.whileN
  rw [e]
  rcases r with ⟨rfl,fl,M2,e2,r⟩ | ⟨rfl,q⟩
  ·show Ok ((body σ M1).bind _) _
   rw [e2]
   rcases r with ⟨σ1,h1 | h1,h2,h3⟩ | ⟨σ1,h1,h2⟩ | ⟨u,h1,h2⟩
   ·rw [h1];exact Ok.whileN P μ t n σ1 M2 (by omega) h2
   ·rw [h1];exact Ok.whileN P μ t n σ1 M2 (by omega) h2
   ·rw [h1];exact ⟨.nx σ1,M2,rfl,.inl ⟨σ1,rfl,h2⟩⟩
   ·rw [h1];exact ⟨.rt u,M2,rfl,.inr ⟨u,rfl,h2⟩⟩
  ·exact ⟨.nx σ,M1,rfl,.inl ⟨σ,rfl,q⟩⟩
theorem Ok.while {c:Ev->Mem->Out Bool} (P:Ev->Mem->Prop) (μ:Ev->Mem->Nat) {Q:Ev->Mem->Prop} {R:T->Mem->Prop} (h:P σ M)
 (t:∀ σ M,P σ M->Ok (c σ M) fun b M1=>(b = true/\Ok (body σ M1) fun fl M2=>(∃ σ',(fl = .nx σ'\/fl = .ct σ')/\P σ' M2/\μ σ' M2 < μ σ M)\/(∃ σ',fl = .bk σ'/\Q σ' M2)\/∃ t,fl = .rt t/\R t M2)\/(b = false/\Q σ M1)) :
  Ok (zgM c body σ M) fun fl M'=>(∃ σ',fl = .nx σ'/\Q σ' M')\/∃ t,fl = .rt t/\R t M':=by
 obtain ⟨fl,M',e,r⟩:=Ok.whileN P μ t (μ σ M + 1) σ M (by omega) h
 exact ⟨fl,M',zjT _ e (by simp),r⟩
noncomputable def rgI (n:Nat):List Int:=(List.range n).map fun (k:Nat)=>(k:Int)
theorem zbR (n:Nat):(rgI n).length = n:=by simp [rgI]
theorem zie {k:Nat} {x:Int} (h:(rgI n)[k]? = some x):k < n/\x = k:=by
 unfold rgI at h
 rw [Qa] at h
 cases q:(List.range n)[k]? with
 | none=>rw [q] at h;cases h
 | some j=>
  rw [q] at h
  have hk:k < n:=by have:=(Qx.mp q).1;simpa using this
  rw [List.getElem?_range hk] at q
  cases q
  exact ⟨hk,(Qb h).symm⟩
theorem zlk (n:Nat):zdN 0 n = (rgI n).map .int:=by
 unfold zdN rgI
 rw [QI]
 congr 1
 funext k
 simp
theorem zd9 {j:Int} (h:-(2 ^ 62)<=j/\j < 2 ^ 62):zfu [.int j] M = .ok ((rgI j.toNat).map .int) M:=by rw [zoN h,zlk]
theorem zko {x:Int} (h:0<=x/\x < n):ixN n x = some x.toNat:=by
 unfold ixN
 rw [Qw (by omega)]
 simp
 try omega
variable {el:Ev->Mem->Out T}
theorem Ok.filt {cond:Ev->Mem->Out Bool} {α:Type} {r:α->T} (I:Ev->Prop) (c:α->Bool) (f:α->T) {xs:List α} (h:I σ) (hl:xs.length<=1000000)
 (t:∀ x σ,x ∈ xs->I σ->∃ σ1,bd (r x) σ M = .ok σ1 M/\I σ1/\cond σ1 M = .ok (c x) M/\(c x = true->el σ1 M = .ok (f x) M)):yt bd cond el (xs.map r) σ M [] = .ok ((xs.filter c).map f) M:=by
 have key:∀ (xs:List α) (σ:Ev) (acc:List T),(∀ x σ,x ∈ xs->I σ->∃ σ1,bd (r x) σ M = .ok σ1 M/\I σ1/\cond σ1 M = .ok (c x) M/\(c x = true->el σ1 M = .ok (f x) M))->I σ->acc.length + xs.length<=sizeLine->yt bd cond el (xs.map r) σ M acc = .ok (acc ++ (xs.filter c).map f) M:=by
  intro xs
  induction xs with
  | nil=>intro σ acc _ _ _;simp [yt]
  | cons x xs ih=>
   intro σ acc t h hl
   obtain ⟨σ1,e1,h1,e2,e3⟩:=t x σ (.head _) h
   rw [Qn] at hl
   rw [QF]
   unfold yt
   rw [e1]
   show ((cond σ1 M).bind _) = _
   rw [e2]
   cases hc:c x with
   | true=>
    have ih:=ih σ1 (acc ++ [f x]) (fun y σ hy=>t y σ (.tail _ hy)) h1 (by rw [Ql,Qn,length_nil];omega)
    show ((el σ1 M).bind _) = _
    rw [e3 hc]
    show (if acc.length < sizeLine then yt bd cond el (xs.map r) σ1 M (acc ++ [f x]) else .bad) = _
    rw [Qw (by omega),ih,List.filter_cons_of_pos hc]
    simp
   | false=>
    have ih:=ih σ1 acc (fun y σ hy=>t y σ (.tail _ hy)) h1 (by omega)
    show yt bd cond el (xs.map r) σ1 M acc = _
    rw [ih,List.filter_cons_of_neg (by rw [hc];exact Q4)]
 have:=key xs σ [] t h (by rw [length_nil,Nat.zero_add];exact Qh hl (by decide))
 rw [this,nil_append]
theorem Ok.mapc {α:Type} {r:α->T} (I:Ev->Prop) (f:α->T) {xs:List α} (h:I σ) (hl:xs.length<=1000000)
 (t:∀ x σ,x ∈ xs->I σ->∃ σ1,bd (r x) σ M = .ok σ1 M/\I σ1/\el σ1 M = .ok (f x) M):yt bd zw el (xs.map r) σ M [] = .ok (xs.map f) M:=by
 have:=Ok.filt (cond:=zw) I (fun _=>true) f h hl (fun x σ hx hs=>by
  obtain ⟨σ1,a,b,c⟩:=t x σ hx hs
  exact ⟨σ1,a,b,rfl,fun _=>c⟩)
 rw [this,List.filter_eq_self.mpr (fun _ _=>rfl)]
theorem zap {a:Nat} {xs:List T} (e:M[a]? = some (.lst xs)):zv (.ref a) M = some xs:=by
 unfold zv
 simp only [e]
theorem Ok.loopG {G:Gd} {bd:T->Ev->Mem->Out Ev} {body:Ev->Mem->Out Fl} {α:Type} {r:α->T} (P:Nat->Ev->Mem->Prop) {R:T->Mem->Prop} (hG:∀ i σ M,P i σ M->zcF G M):∀ (xs:List α) (i:Nat) {σ:Ev} {M:Mem},
  P i σ M->(∀ (k:Nat) x σ M,xs[k]? = some x->P (i + k) σ M->Ok ((bd (r x) σ M).bind fun σ1 M1=>body σ1 M1) fun fl M'=>(∃ σ',(fl = .nx σ'\/fl = .ct σ')/\P (i + k + 1) σ' M')\/(∃ σ',fl = .bk σ'/\P (i + xs.length) σ' M')\/∃ t,fl = .rt t/\R t M')->
  Ok (zfG G bd body (xs.map r) σ M) fun fl M'=>(∃ σ',fl = .nx σ'/\P (i + xs.length) σ' M')\/∃ t,fl = .rt t/\R t M'
 | [],i,σ,M,h,_=>⟨.nx σ,M,by rw [map_nil];unfold zfG;exact zdX (hG _ _ _ h),.inl ⟨σ,rfl,h⟩⟩
 | x :: xs,i,σ,M,h,t=>by
  obtain ⟨fl,M1,e1,h1⟩:=t 0 x σ M rfl h
  rw [QF]
  unfold zfG
  rw [zdX (hG _ _ _ h)]
  cases q:bd (r x) σ M with
  | bad=>rw [q] at e1;cases e1
  | exn C fs M'=>rw [q] at e1;cases e1
  | ok σ3 M3=>
   rw [q] at e1
   replace e1:body σ3 M3 = .ok fl M1:=e1
   show Ok ((body σ3 M3).bind (yU (zfG G bd body (xs.map r)))) _
   rw [e1]
   have go:∀ σ1,P (i + 1) σ1 M1->Ok (zfG G bd body (xs.map r) σ1 M1) fun fl M'=>(∃ σ',fl = .nx σ'/\P (i + (x :: xs).length) σ' M')\/∃ t,fl = .rt t/\R t M':=fun σ1 h1=>by
    have ih:=Ok.loopG (R:=R) P hG xs (i + 1) (bd:=bd) (body:=body) h1 (fun k y σ M hk hp=>by
     have:=t (k + 1) y σ M (by simpa using hk) (by rw [show i + (k + 1) = i + 1 + k by omega];exact hp)
     rw [show i + (k + 1) + 1 = i + 1 + k + 1 by omega,Qn,show i + (xs.length + 1) = i + 1 + xs.length by omega] at this
     exact this)
    rw [Qn,show i + (xs.length + 1) = i + 1 + xs.length by omega]
    exact ih
   rcases h1 with ⟨σ1,h1 | h1,h2⟩ | ⟨σ1,h1,h2⟩ | ⟨u,h1,h2⟩
   ·rw [h1];exact go σ1 h2
   ·rw [h1];exact go σ1 h2
   ·rw [h1];exact ⟨.nx σ1,M1,rfl,.inl ⟨σ1,rfl,h2⟩⟩
   ·rw [h1];exact ⟨.rt u,M1,rfl,.inr ⟨u,rfl,h2⟩⟩
def OkX {β:Type} (o:Out β) (Q:β->Mem->Prop) (E:Addr->List (Str × T)->Mem->Prop):Prop:=match o with
 | .ok b M=>Q b M
 | .exn C fs M=>E C fs M
 | .bad=>False
variable {E:Addr->List (Str × T)->Mem->Prop}
theorem OkX.ok {β:Type} {o:Out β} {Q:β->Mem->Prop} (h:Ok o Q):OkX o Q E:=by
 obtain ⟨b,M,rfl,q⟩:=h
 exact q
theorem OkX.bind {β γ:Type} {o:Out β} {k:β->Mem->Out γ} {P:β->Mem->Prop} {Q:γ->Mem->Prop} (h:OkX o P E) (g:∀ b M,P b M->OkX (k b M) Q E):OkX (o.bind k) Q E:=by
 cases o with
 | ok b M=>exact g b M h
 | exn C fs M=>exact h
 | bad=>exact h.elim
theorem OkX.mono {β:Type} {o:Out β} {P Q:β->Mem->Prop} {D:Addr->List (Str × T)->Mem->Prop} (h:OkX o P D) (g:∀ b M,P b M->Q b M) (g':∀ C fs M,D C fs M->E C fs M):OkX o Q E:=by
 cases o with
 | ok b M=>exact g b M h
 | exn C fs M=>exact g' C fs M h
 | bad=>exact h.elim
theorem OkX.toOk {β:Type} {o:Out β} {Q:β->Mem->Prop} (h:OkX o Q fun _ _ _=>False):Ok o Q:=by
 cases o with
 | ok b M=>exact ⟨b,M,rfl,h⟩
 | exn C fs M=>exact h.elim
 | bad=>exact h.elim
theorem za8 {p:Nat} {Q:T->Mem->Prop} (h:ts.length = p) (k:OkX ((g (startT n ts) M).bind zbl) Q E):OkX (yX p n g ts M) Q E:=by
 unfold yX
 rw [Qw h]
 cases r:g (startT n ts) M with
 | bad=>rw [r] at k;exact k.elim
 | exn C fs M'=>rw [r] at k;exact k
 | ok fl M'=>
  rw [r] at k
  cases fl with
  | rt t=>exact k
  | nx σ=>exact k
  | bk σ=>exact k.elim
  | ct σ=>exact k.elim
theorem Ok.try {cs:List Addr} {gs:Ev->Mem->Out Fl} {Q:Fl->Mem->Prop} (h:OkX (g σ M) Q fun C _ M'=>cs.contains C = true/\Ok (gs σ M') Q):Ok (zgN cs g gs σ M) Q:=by
 unfold zgN
 cases r:g σ M with
 | ok b M1=>rw [r] at h;exact ⟨b,M1,rfl,h⟩
 | bad=>rw [r] at h;exact h.elim
 | exn C fs M1=>
  rw [r] at h
  obtain ⟨hc,b,M2,e,h⟩:=h
  show Ok (if cs.contains C = true then _ else _) _
  rw [Qw hc,e]
  exact ⟨b,M2,rfl,h⟩
end FT
namespace My
open PySem L2 FT
noncomputable def top (i:Nat):Stmt:=PySem.Challenge.pw_tryweir_k70_whole_nets_written_and_read.main.body.getD i (.Pass ⟨0,0,0,0⟩)
noncomputable abbrev zeE:Stmt:=top 32
noncomputable abbrev zeF:Stmt:=top 33
noncomputable abbrev zdJ:Stmt:=top 34
noncomputable abbrev zc9:Stmt:=top 38
noncomputable abbrev zft:Stmt:=top 35
noncomputable abbrev zfs:Stmt:=top 36
noncomputable abbrev zb3:Stmt:=top 37
noncomputable abbrev zdb:Stmt:=top 26
noncomputable abbrev zc8:Stmt:=top 27
noncomputable abbrev zb4:Stmt:=top 24
noncomputable abbrev zcy:Stmt:=top 25
noncomputable abbrev zeI:Stmt:=top 28
noncomputable abbrev zcx:Stmt:=top 29
noncomputable abbrev zbG:Stmt:=top 9
noncomputable abbrev zdL:Stmt:=top 5
noncomputable abbrev zcC:Stmt:=top 17
noncomputable abbrev zda:Stmt:=top 6
noncomputable abbrev zcB:Stmt:=top 8
noncomputable abbrev zeH:Stmt:=top 18
noncomputable abbrev zdc:Stmt:=top 19
noncomputable abbrev zeG:Stmt:=top 20
noncomputable abbrev zc7:Stmt:=top 30
noncomputable abbrev zcA:Stmt:=top 41
noncomputable abbrev zcz:Stmt:=top 39
noncomputable abbrev zdK:Stmt:=top 40
noncomputable abbrev ziZ:Stmt:=top 42
structure Txt (K:Frag) (w:World) (mg:Str->Option Value):Prop where
 n_max:mg "max" = none
 n_range:mg "range" = none
 n_len:mg "len" = none
 n_enumerate:mg "enumerate" = none
 n_min:mg "min" = none
 n_tuple:mg "tuple" = none
 n_int:mg "int" = none
 n_str:mg "str" = none
 n_isinstance:mg "isinstance" = none
 n_all:mg "all" = none
 n_set:mg "set" = none
 n_bool:mg "bool" = none
 n_sum:mg "sum" = none
 c_MOST_LETTERS:∃ t,mg "MOST_LETTERS" = some (.int (8) t)
 c_MOST_TRIES:∃ t,mg "MOST_TRIES" = some (.int (4) t)
 c_MOST_ASKS_OF_ONE:∃ t,mg "MOST_ASKS_OF_ONE" = some (.int (3) t)
 c_MOST_HOUSES:∃ t,mg "MOST_HOUSES" = some (.int (4) t)
 c_MOST_PURSES:∃ t,mg "MOST_PURSES" = some (.int (2) t)
 c_MOST_PER:∃ t,mg "MOST_PER" = some (.int (9) t)
 c_MOST_ASKS:∃ t,mg "MOST_ASKS" = some (.int (6) t)
 c_SURE:∃ a,mg "SURE" = some (.ref a)/\KDi K w a "sure" "lossy"/\(a == sysModules) = false
 c_HEARS:∃ a,mg "HEARS" = some (.ref a)/\KDi K w a "hears" "deaf"/\(a == sysModules) = false
theorem boot_max:bootBuiltins "max" = some (.builtin "max"):=by decide +kernel
theorem boot_range:bootBuiltins "range" = some (.type "range"):=by decide +kernel
theorem boot_len:bootBuiltins "len" = some (.builtin "len"):=by decide +kernel
theorem boot_min:bootBuiltins "min" = some (.builtin "min"):=by decide +kernel
theorem boot_tuple:bootBuiltins "tuple" = some (.type "tuple"):=by decide +kernel
theorem boot_int:bootBuiltins "int" = some (.type "int"):=by decide +kernel
theorem boot_str:bootBuiltins "str" = some (.type "str"):=by decide +kernel
theorem boot_isinstance:bootBuiltins "isinstance" = some (.builtin "isinstance"):=by decide +kernel
theorem boot_all:bootBuiltins "all" = some (.builtin "all"):=by decide +kernel
theorem boot_bool:bootBuiltins "bool" = some (.type "bool"):=by decide +kernel
theorem boot_sum:bootBuiltins "sum" = some (.builtin "sum"):=by decide +kernel
end My
theorem FT.nc_l {k:PySem.NameKind} {P:Prop} (e:(k == .cell || k == .free) = false) (h:k = .cell\/k = .free):P:=by
 rcases h with rfl | rfl
 ·exact absurd e (by decide)
 ·exact absurd e (by decide)
open PySem L2 FT in
local macro_rules | `(tactic| bv_omega) => `(tactic| exact ⟨rfl, rfl, by decide +kernel, rfl, by decide +kernel, by first | exact (fun _ _ h => h) | exact zg6 (by repeat (first | exact True.intro | refine ⟨rfl, ?_⟩)), fun _ => zpO (by repeat (first | exact True.intro | (refine ⟨?_, ?_⟩; first | exact (fun _ => ⟨_, rfl⟩) | exact nc_l rfl | exact (fun h => h.elim (fun h => nomatch h) (fun h => nomatch h))))), by repeat (first | exact List.forall_mem_nil _ | refine List.forall_mem_cons.mpr ⟨⟨rfl, rfl, by first | exact .inl rfl | exact .inr rfl⟩, ?_⟩)⟩)
namespace My
open PySem L2 FT
noncomputable def zhg:Ev->Mem->Out Fl:=
 (yu (eTk (zt (zb (qd (call2 zja) (zb (eC (.int 0)) (zb (eOp zeC (yb 0) (eOp zi5 (eC (.int 10)) (eC (.int 18)))) qc))) (zb (eOp zba (yb 0) (eOp zi5 (eC (.int 10)) (eC (.int 18)))) (zb (eC (.int 0)) qc))))))
noncomputable def zcb:List FT.T->Mem->Out FT.T:=zq 1 1 (zhg)
variable {base:Heap} {P:Program} {mg:Str->Option Value} {w:World}
section
variable {K:Frag}
theorem zjR:FnScope ["cell"] ["cell"] (zf zeE):=by ac_rfl
theorem zce (D:Df K mg "_law_pool" zeE ["cell"]) (T:Txt K w mg)   :CalT P w K mg base 1 "_law_pool" ["cell"] zcb:=
 zx D zjR rfl rfl (fun f cdv A outer s H E hr=>(ye (yk (zak (qm (za (zj (zkS rfl) rfl T.n_max boot_max (za yc (za (yf zcO (ya (pv 0)) (yf zir yc yc)) zc))) (za (yf y9 (ya (pv 0)) (yf zir yc yc)) (za yc zc))))))))
end
noncomputable def zhh:Ev->Mem->Out Fl:=
 (zg (sIf (zm (eOp gtI (eOp ixT (yb 0) (eC (.int 0))) (eC (.int 0)))) (zg (zn 2 (eOp zba (eOp ixT (yb 0) (eC (.int 0))) (yb 1)))
 (zg (zgO (eOp zeQ (eOp ixT (yb 0) (eC (.int 0))) (yb 1)) (zhF zdF (yb 0) (eC (.int 0))))
 (yu (yb 2)))) yO)
 (zg (zgO (eOp yg (eOp ixT (yb 0) (eC (.int 2))) (eC (.int 1))) (zhF zdF (yb 0) (eC (.int 2))))
 (zg (zn 3 (eOp zba (eOp yg (eOp ixT (yb 0) (eC (.int 1))) (eOp zaF (eC (.int 7919)) (eOp ixT (yb 0) (eC (.int 2))))) (eC (.int 1000000007))))
 (zg (zn 4 (eOp zba (eOp zaF (eOp yg (yb 3) (eC (.int 11))) (eOp yg (yb 3) (eC (.int 48271)))) (eC (.int 998244353))))
 (yu (eOp zba (eOp zeQ (eOp zba (eOp zaF (yb 4) (yb 4)) (eC (.int 2147483647))) (eC (.int 8))) (yb 1)))))))
noncomputable def qo:List FT.T->Mem->Out FT.T:=zq 2 5 (zhh)
section
variable {K:Frag}
theorem zcl:FnScope ["pool","base","digit","mixed","stir"] ["pool","base"] (zf zeF):=by ac_rfl
theorem ql (D:Df K mg "_law_next" zeF ["pool","base"]) (T:Txt K w mg)   :CalT P w K mg base 1 "_law_next" ["pool","base"] qo:=
 zx D zcl rfl rfl (fun f cdv A outer s H E hr=>(yd (qx (yq zdR (qe zk (ya (pv 0)) yc (fun _ _=>rfl)) yc (qq _)) (yd (qg (i:=2) zcl.nd rfl (Or.inl rfl) (yf y9 (qe zk (ya (pv 0)) yc (fun _ _=>rfl)) (ya (pv 1))))
  (yd (zfm (yf zit (qe zk (ya (pv 0)) yc (fun _ _=>rfl)) (ya (pv 1))) (zfn (ya (pv 0)) yc ziX))
  (ye (yk (ya (pv 2)))))) zu)
  (yd (zfm (yf yh (qe zk (ya (pv 0)) yc (fun _ _=>rfl)) yc) (zfn (ya (pv 0)) yc ziX))
  (yd (qg (i:=3) zcl.nd rfl (Or.inl rfl) (yf y9 (yf yh (qe zk (ya (pv 0)) yc (fun _ _=>rfl)) (yf zcP yc (qe zk (ya (pv 0)) yc (fun _ _=>rfl)))) yc))
  (yd (qg (i:=4) zcl.nd rfl (Or.inl rfl) (yf y9 (yf zcP (yf yh (ya (pv 3)) yc) (yf yh (ya (pv 3)) yc)) yc))
  (ye (yk (yf y9 (yf zit (yf y9 (yf zcP (ya (pv 4)) (ya (pv 4))) yc) yc) (ya (pv 1))))))))))
end
noncomputable def zfj:Ev->Mem->Out Fl:=
 (zg (zn 9 (eOp yg (eOp yg (zeP (yb 3) zcn (zcm (yb 4))) (eOp ixS (yb 2) (eOp zba (eOp yg (yb 5) (eOp zaF (eC (.int 5)) (yb 8))) (eC (.int 26))))) (zeP (yb 3) (zcm (yb 4)) zcn)))
 (zg (sIf (zM (zm (eOp eqA (yb 6) (eC (.int 1)))) (zm (eOp eqA (eOp zba (yb 8) (eC (.int 2))) (eC (.int 1))))) (zn 9 (eOp yg (yb 9) (eOp ixS (yb 2) (eOp zba (eOp yg (yb 5) (yb 8)) (eC (.int 26)))))) yO)
 (qO (zaj yW (eUn qI (yb 7)) (zb (yb 9) qc)))))
noncomputable def zf1:Ev->Mem->Out Fl:=
 (zg (zn 2 (eC (.str "abcdefghijklmnopqrstuvwxyz")))
 (zg (zn 3 (qA isStr yP (eC (.str "")) (zb (eFz (yH (zbT (zb (qd qo (zb (yb 0) (zb (eC (.int 7)) qc))) qc)) (qf 0) zw (eOp ixS (yb 1) (qd qo (zb (yb 2) (zb (eC (.int 26)) qc)))) ["k"] [("letters",2),("pool",0)])) qc)))
 (zg (zn 4 (qd qo (zb (yb 0) (zb (eOp yg (qd (zl zC) (zb (yb 3) qc)) (eC (.int 1))) qc))))
 (zg (zn 5 (qd qo (zb (yb 0) (zb (eC (.int 26)) qc))))
 (zg (zn 6 (qd qo (zb (yb 0) (zb (eC (.int 3)) qc))))
 (zg (zn 7 (eTk (zt qc)))
 (zg (zbk (zbT (zb (yb 1) qc)) (qf 8) zfj)
 (yu (yb 7)))))))))
noncomputable def zct:List FT.T->Mem->Out FT.T:=zq 2 10 (zf1)
section
variable {K:Frag}
theorem qJ:FnScope ["pool","many","letters","base","at","first","tails","names","k","name"] ["pool","many"] (zf zdJ):=by ac_rfl
theorem zbC (D:Df K mg "_law_names" zdJ ["pool","many"]) (T:Txt K w mg)   (ql:CalT P w K mg base 1 "_law_next" ["pool","base"] qo):CalT P w K mg base 2 "_law_names" ["pool","many"] zct:=
 zx D qJ rfl rfl (fun f cdv A outer s H E hr=>(yd (qg (i:=2) qJ.nd rfl (Or.inr rfl) zd)
  (yd (qg (i:=3) qJ.nd rfl (Or.inl rfl) (zaR ty_str (zU PySem.F.plainAttrs_str PySem.F.slot_str_join PySem.F.type_str_join zb6 (WE.pe zd) (WA.pe (za (yn (zG (tgs:=["k"]) (caps:=[("letters",2),("pool",0)]) (zbK rfl T.n_range (za (zi ql (hr.mono (by decide)) rfl (za (ya (pv 0)) (za yc zc))) zc)) (by bv_omega) (fun _ _ _=>(yi (yj (i:=0) (show (["k","letters","pool"]:List Str).Nodup by decide +kernel) rfl (by first | exact Or.inl rfl | exact Or.inr rfl)))) (fun _ _ _=>zA) (fun _ _ _=>(qe zhb (ya (pv 1)) (zi ql (hr.mono (by decide)) rfl (za (ya (pv 2)) (za yc zc))) (fun _ _=>rfl))))) zc)))))
  (yd (qg (i:=4) qJ.nd rfl (Or.inl rfl) (zi ql (hr.mono (by decide)) rfl (za (ya (pv 0)) (za (yf yh (zj yv rfl T.n_len boot_len (za (ya (pv 3)) zc)) yc) zc))))
  (yd (qg (i:=5) qJ.nd rfl (Or.inl rfl) (zi ql (hr.mono (by decide)) rfl (za (ya (pv 0)) (za yc zc))))
  (yd (qg (i:=6) qJ.nd rfl (Or.inl rfl) (zi ql (hr.mono (by decide)) rfl (za (ya (pv 0)) (za yc zc))))
  (yd (qg (i:=7) qJ.nd rfl (Or.inl rfl) (zak (qm zc)))
  (yd (z9 PassesOwn.never rfl (zbK rfl T.n_range (za (ya (pv 1)) zc)) (yi (yj (i:=8) qJ.nd rfl (by first | exact Or.inl rfl | exact Or.inr rfl))) (yd (qg (i:=9) qJ.nd rfl (Or.inl rfl) (yf yh (yf yh (zfo (ya (pv 3)) zbY (zbX (ya (pv 4)))) (qe zhb (ya (pv 2)) (yf y9 (yf yh (ya (pv 5)) (yf zcP yc (ya (pv 8)))) yc) (fun _ _=>rfl))) (zfo (ya (pv 3)) (zbX (ya (pv 4))) zbY)))
  (yd (qx (WW.gt (y8 (yq (zD hr.units) (ya (pv 6)) yc (qq _)) (zaQ (yq (zD hr.units) (yf y9 (ya (pv 8)) yc) yc (qq _))))) (ye (qg (i:=9) qJ.nd rfl (Or.inl rfl) (yf yh (ya (pv 9)) (qe zhb (ya (pv 2)) (yf y9 (yf yh (ya (pv 5)) (ya (pv 8))) yc) (fun _ _=>rfl))))) zu)
  (ye (qQ (zaz (zU QG QK QJ zL (WE.pe (ya (pv 7))) (WA.pe (za (ya (pv 9)) zc)))))))))
  (ye (yk (ya (pv 7))))))))))))
end
noncomputable def ze9:Ev->Mem->Out Fl:=
 (zg (zn 2 (eFz (zt (zb (eC (.str "house")) (zb (eC (.str "ask")) (zb (eC (.str "purse")) (zb (eC (.str "ever")) (zb (eC (.str "first")) (zb (eC (.str "any")) (zb (eC (.str "bad")) (zb (eC (.str "spent")) (zb (eC (.str "hears")) (zb (eC (.str "deaf")) (zb (eC (.str "sure")) (zb (eC (.str "lossy")) (zb (eC (.str "net")) qc))))))))))))))))
 (zg (zn 2 (eOp yg (yb 2) (eFz (zt (zb (eC (.str "fresh")) (zb (eC (.str "ends")) (zb (eC (.str "lost")) (zb (eC (.str "again")) (zb (eC (.str "up")) (zb (eC (.str "well")) (zb (eC (.str "may")) (zb (eC (.str "back")) (zb (eC (.str "pay")) (zb (eC (.str "load")) (zb (eC (.str "asks")) (zb (eC (.str "nets")) (zb (eC (.str "x")) qc)))))))))))))))))
 (zg (sIf (zm (eOp gtI (qd qo (zb (yb 0) (zb (eC (.int 6)) qc))) (eC (.int 0)))) (yu (qd zct (zb (yb 0) (zb (yb 1) qc)))) yO)
 (zg (zn 3 (qd qo (zb (yb 0) (zb (eC (.int 26)) qc))))
 (yu (eFz (yH (zbT (zb (yb 1) qc)) (qf 0) zw (eOp ixT (yb 1) (eOp zba (eOp yg (yb 2) (eOp zaF (eC (.int 3)) (yb 0))) (eC (.int 26)))) ["k"] [("words",2),("first",3)])))))))
noncomputable def zdq:List FT.T->Mem->Out FT.T:=zq 2 4 (ze9)
noncomputable def zaA:List FT.T->Mem->Out FT.T:=zeO (zdq)
section
variable {K:Frag}
theorem zbv:FnScope ["pool","many","words","first"] ["pool","many"] (zf zc9):=by ac_rfl
theorem qV (D:Df K mg "_law_called" zc9 ["pool","many"]) (T:Txt K w mg)   (ql:CalT P w K mg base 1 "_law_next" ["pool","base"] qo) (zbC:CalT P w K mg base 2 "_law_names" ["pool","many"] zct):CalT P w K mg base 3 "_law_called" ["pool","many"] zdq:=
 zx D zbv rfl rfl (fun f cdv A outer s H E hr=>(yd (qg (i:=2) zbv.nd rfl (Or.inr rfl) (yn (qm (za zd (za zd (za zd (za zd (za zd (za zd (za zd (za zd (za zd (za zd (za zd (za zd (za zd zc))))))))))))))))
  (yd (qg (i:=2) zbv.nd rfl (Or.inr rfl) (yf yh (ya (pv 2)) (yn (qm (za zd (za zd (za zd (za zd (za zd (za zd (za zd (za zd (za zd (za zd (za zd (za zd (za zd zc)))))))))))))))))
  (yd (qx (yq zdR (zi ql (hr.mono (by decide)) rfl (za (ya (pv 0)) (za yc zc))) yc (qq _)) (ye (yk (zi zbC (hr.mono (by decide)) rfl (za (ya (pv 0)) (za (ya (pv 1)) zc))))) zu)
  (yd (qg (i:=3) zbv.nd rfl (Or.inr rfl) (zi ql (hr.mono (by decide)) rfl (za (ya (pv 0)) (za yc zc))))
  (ye (yk (yn (zG (tgs:=["k"]) (caps:=[("words",2),("first",3)]) (zbK rfl T.n_range (za (ya (pv 1)) zc)) (by bv_omega) (fun _ _ _=>(yi (yj (i:=0) (show (["k","words","first"]:List Str).Nodup by decide +kernel) rfl (by first | exact Or.inl rfl | exact Or.inr rfl)))) (fun _ _ _=>zA) (fun _ _ _=>(qe zk (ya (pv 1)) (yf y9 (yf yh (ya (pv 2)) (yf zcP yc (ya (pv 0)))) yc) (fun _ _=>rfl))))))))))))
end
noncomputable def ziG:Ev->Mem->Out Fl:=
 (zg (zn 3 (eOp ixT (eOp yg (eFz (zt (zb (eC .non) qc))) (eFz (zbz (zdl (yb 2)) (qf 0) zw (eOp ixT (yb 0) (eC (.int 0))) ["one"] []))) (qd qo (zb (yb 0) (zb (eOp yg (qd (zl zC) (zb (yb 2) qc)) (eC (.int 1))) qc)))))
 (zg (zn 4 (eOp ixT (eFz (zt (zb (eC (.int 1)) (zb (eC (.int 2)) (zb (eC (.int 2)) (zb (eC (.int 3)) (zb (eC (.int 3)) (zb (eC (.int 4)) (zb (eC (.int 0)) (zb (eC (.int 2)) qc)))))))))) (qd qo (zb (yb 0) (zb (eC (.int 8)) qc)))))
 (zg (zn 5 (eOp ixT (eFz (zt (zb (eC (.str "bad")) (zb (eC (.str "spent")) qc)))) (qd qo (zb (yb 0) (zb (eC (.int 2)) qc)))))
 (zg (zn 6 (eOp eqA (qd qo (zb (yb 0) (zb (eC (.int 2)) qc))) (eC (.int 1))))
 (yu (zY (zb (eOp ixT (yb 1) (qd qo (zb (yb 0) (zb (qd (zl zC) (zb (yb 1) qc)) qc)))) (zb (yb 4) (zb (yb 3) (zb (yb 5) (zb (yb 6) (zb (eOp eqA (qd qo (zb (yb 0) (zb (eC (.int 2)) qc))) (eC (.int 1))) qc))))))))))))
noncomputable def zeg:List FT.T->Mem->Out FT.T:=zq 3 7 (ziG)
section
variable {K:Frag}
theorem zb2:FnScope ["pool","later","purses","purse","tries","word","hears"] ["pool","later","purses"] (zf zft):=by ac_rfl
theorem zcV (D:Df K mg "_law_ask" zft ["pool","later","purses"]) (T:Txt K w mg)   (ql:CalT P w K mg base 1 "_law_next" ["pool","base"] qo):CalT P w K mg base 2 "_law_ask" ["pool","later","purses"] zeg:=
 zx D zb2 rfl rfl (fun f cdv A outer s H E hr=>(yd (qg (i:=3) zb2.nd rfl (Or.inl rfl) (qe zk (yf yh (yn (qm (za za0 zc))) (yn (zfQ (tgs:=["one"]) (caps:=[]) (zgr (ya (pv 2))) (by bv_omega) (fun _ _ _=>(yi (yj (i:=0) (show (["one"]:List Str).Nodup by decide +kernel) rfl (by first | exact Or.inl rfl | exact Or.inr rfl)))) (fun _ _ _=>zA) (fun _ _ _=>(qe zk (ya (pv 0)) yc (fun _ _=>rfl)))))) (zi ql (hr.mono (by decide)) rfl (za (ya (pv 0)) (za (yf yh (zj yv rfl T.n_len boot_len (za (ya (pv 2)) zc)) yc) zc))) (fun _ _=>rfl)))
  (yd (qg (i:=4) zb2.nd rfl (Or.inl rfl) (qe zk (yn (qm (za yc (za yc (za yc (za yc (za yc (za yc (za yc (za yc zc)))))))))) (zi ql (hr.mono (by decide)) rfl (za (ya (pv 0)) (za yc zc))) (fun _ _=>rfl)))
  (yd (qg (i:=5) zb2.nd rfl (Or.inl rfl) (qe zk (yn (qm (za zd (za zd zc)))) (zi ql (hr.mono (by decide)) rfl (za (ya (pv 0)) (za yc zc))) (fun _ _=>rfl)))
  (yd (qg (i:=6) zb2.nd rfl (Or.inl rfl) (zay (zD hr.units) (zi ql (hr.mono (by decide)) rfl (za (ya (pv 0)) (za yc zc))) yc (qq _)))
  (ye (yk (zT (za (qe zk (ya (pv 1)) (zi ql (hr.mono (by decide)) rfl (za (ya (pv 0)) (za (zj yv rfl T.n_len boot_len (za (ya (pv 1)) zc)) zc))) (fun _ _=>rfl)) (za (ya (pv 4)) (za (ya (pv 3)) (za (ya (pv 5)) (za (ya (pv 6)) (za (zay (zD hr.units) (zi ql (hr.mono (by decide)) rfl (za (ya (pv 0)) (za yc zc))) yc (qq _)) zc))))))))))))))
end
noncomputable def zhI:Ev->Mem->Out Fl:=
 (qO (zaj yW (eUn qI (yb 3)) (zb (zY (zb (yb 4) (zb (eOp ixT (eFz (zt (zb (eC (.str "first")) (zb (eC (.str "any")) qc)))) (qd qo (zb (yb 0) (zb (eC (.int 2)) qc)))) (zb (eOp yg (eC (.int 1)) (qd qo (zb (yb 0) (zb (eOp ixT (eFz (zt (zb (eC (.int 2)) (zb (eC (.int 9)) qc)))) (qd qo (zb (yb 0) (zb (eC (.int 2)) qc)))) qc)))) qc)))) qc)))
noncomputable def zhG:Ev->Mem->Out Fl:=
 (zg (zn 8 (eFz (zt qc)))
 (zg (sIf (zm (eOp ltI (eOp yg (yb 7) (eC (.int 1))) (qd (zl zC) (zb (yb 2) qc)))) (zg (zn 9 (qd (call2 zi9) (zb (yb 6) (zb (eOp ixT (eFz (zt (zb (eC (.int 1)) (zb (eC (.int 1)) (zb (eC (.int 1)) (zb (eC (.int 2)) (zb (eC (.int 2)) (zb (eC (.int 3)) (zb (eC (.int 0)) (zb (eC (.int 1)) qc)))))))))) (qd qo (zb (yb 0) (zb (eC (.int 8)) qc)))) qc))))
 (zn 8 (eFz (yH (zbT (zb (yb 9) qc)) (qf 0) zw (qd zeg (zb (yb 1) (zb (eSl (yb 2) (zcm (eOp yg (yb 3) (eC (.int 1)))) zcn) (zb (yb 4) qc)))) ["at"] [("pool",0),("names",2),("k",7),("purses",3)])))) yO)
 (zg (zn 6 (eOp zeC (yb 6) (qd (zl zC) (zb (yb 8) qc))))
 (qO (zaj yW (eUn qI (yb 5)) (zb (zY (zb (yb 4) (zb (qd (zl qK) (zb (yb 8) qc)) qc))) qc))))))
noncomputable def ziF:Ev->Mem->Out Fl:=
 (zg (zn 2 (qd zaA (zb (yb 0) (zb (eOp yg (eC (.int 1)) (qd qo (zb (yb 0) (zb (yb 1) qc)))) qc))))
 (zg (zn 3 (eTk (zt qc)))
 (zg (zbk (qX (qd zaA (zb (yb 0) (zb (qd qo (zb (yb 0) (zb (eC (.int 3)) qc))) qc)))) (qf 4) zhI)
 (zg (zn 5 (eTk (zt qc)))
 (zg (zn 6 (eC (.int 6)))
 (zg (zbk (ze7 (yb 2)) (zah 2 (yo (qf 7) (yo (qf 4) zai))) zhG)
 (yu (zY (zb (qd (zl qK) (zb (yb 5) qc)) (zb (qd (zl qK) (zb (yb 3) qc)) qc))))))))))
noncomputable def zef:List FT.T->Mem->Out FT.T:=zq 2 10 (ziF)
section
variable {K:Frag}
theorem zN:FnScope ["pool","most","names","purses","name","houses","spare","k","asks","count"] ["pool","most"] (zf zfs):=by ac_rfl
theorem zcU (D:Df K mg "_law_net" zfs ["pool","most"]) (T:Txt K w mg)   (qV:CalT P w K mg base 3 "_law_called" ["pool","many"] zaA) (ql:CalT P w K mg base 1 "_law_next" ["pool","base"] qo) (zcV:CalT P w K mg base 2 "_law_ask" ["pool","later","purses"] zeg):CalT P w K mg base 4 "_law_net" ["pool","most"] zef:=
 zx D zN rfl rfl (fun f cdv A outer s H E hr=>(yd (qg (i:=2) zN.nd rfl (Or.inr rfl) (zi qV (hr.mono (by decide)) rfl (za (ya (pv 0)) (za (yf yh yc (zi ql (hr.mono (by decide)) rfl (za (ya (pv 0)) (za (ya (pv 1)) zc)))) zc))))
  (yd (qg (i:=3) zN.nd rfl (Or.inr rfl) (zak (qm zc)))
  (yd (z9 PassesOwn.never rfl (zF (zi qV (hr.mono (by decide)) rfl (za (ya (pv 0)) (za (zi ql (hr.mono (by decide)) rfl (za (ya (pv 0)) (za yc zc))) zc)))) (yi (yj (i:=4) zN.nd rfl (by first | exact Or.inl rfl | exact Or.inr rfl))) (ye (qQ (zaz (zU QG QK QJ zL (WE.pe (ya (pv 3))) (WA.pe (za (zT (za (ya (pv 4)) (za (qe zk (yn (qm (za zd (za zd zc)))) (zi ql (hr.mono (by decide)) rfl (za (ya (pv 0)) (za yc zc))) (fun _ _=>rfl)) (za (yf yh yc (zi ql (hr.mono (by decide)) rfl (za (ya (pv 0)) (za (qe zk (yn (qm (za yc (za yc zc)))) (zi ql (hr.mono (by decide)) rfl (za (ya (pv 0)) (za yc zc))) (fun _ _=>rfl)) zc)))) zc)))) zc)))))))
  (yd (qg (i:=5) zN.nd rfl (Or.inl rfl) (zak (qm zc)))
  (yd (qg (i:=6) zN.nd rfl (Or.inl rfl) yc)
  (yd (z9 PassesOwn.never rfl (zjz rfl T.n_enumerate (ya (pv 2))) (zax (za9 rfl (WGs.pe (zp (yr (WG.pe (yi (yj (i:=7) zN.nd rfl (by first | exact Or.inl rfl | exact Or.inr rfl)))) (WGs.pe (zp (yr (WG.pe (yi (yj (i:=4) zN.nd rfl (by first | exact Or.inl rfl | exact Or.inr rfl)))) (WGs.pe qY))))))))) (yd (qg (i:=8) zN.nd rfl (Or.inl rfl) (yn (qm zc)))
  (yd (qx (yq zgZ (yf yh (ya (pv 7)) yc) (zj yv rfl T.n_len boot_len (za (ya (pv 2)) zc)) (qq _)) (yd (qg (i:=9) zN.nd rfl (Or.inl rfl) (zj (zkQ rfl) rfl T.n_min boot_min (za (ya (pv 6)) (za (qe zk (yn (qm (za yc (za yc (za yc (za yc (za yc (za yc (za yc (za yc zc)))))))))) (zi ql (hr.mono (by decide)) rfl (za (ya (pv 0)) (za yc zc))) (fun _ _=>rfl)) zc))))
  (ye (zgq (i0:=8) (tgs:=["at"]) (caps:=[("pool",0),("names",2),("k",7),("purses",3)]) (zbK rfl T.n_range (za (ya (pv 9)) zc)) (by bv_omega) (fun _ _ _=>(yi (yj (i:=0) (show (["at","pool","names","k","purses"]:List Str).Nodup by decide +kernel) rfl (by first | exact Or.inl rfl | exact Or.inr rfl)))) (fun _ _ _=>zA) (fun _ _ _=>(zi zcV (hr.mono (by decide)) rfl (za (ya (pv 1)) (za (zjA (ya (pv 2)) (zbX (yf yh (ya (pv 3)) yc)) zbY) (za (ya (pv 4)) zc))))) zN.nd rfl (Or.inl rfl)))) zu)
  (yd (qg (i:=6) zN.nd rfl (Or.inl rfl) (yf zcO (ya (pv 6)) (zj yv rfl T.n_len boot_len (za (ya (pv 8)) zc))))
  (ye (qQ (zaz (zU QG QK QJ zL (WE.pe (ya (pv 5))) (WA.pe (za (zT (za (ya (pv 4)) (za (yG zab rfl T.n_tuple boot_tuple (za (ya (pv 8)) zc)) zc))) zc))))))))))
  (ye (yk (zT (za (yG zab rfl T.n_tuple boot_tuple (za (ya (pv 5)) zc)) (za (yG zab rfl T.n_tuple boot_tuple (za (ya (pv 3)) zc)) zc))))))))))))
end
noncomputable def zaP:Ev->Mem->Out Fl:=
 (zg (zn 1 (eOp yg (eOp yg (eOp yg (eOp yg (yb 1) (eC (.str "; ask "))) (yb 4)) (eC (.str " "))) (eOp ixT (eFz (zt (zb (eC (.str "ever")) (zb (eC (.str "1")) (zb (eC (.str "2")) (zb (eC (.str "3")) (zb (eC (.str "4")) qc))))))) (yb 5))))
 (zg (zn 1 (eOp yg (eOp yg (eOp yg (eOp yg (yb 1) (eC (.str " "))) (eOp ixT (eFz (zt (zb (eC (.str "-")) (zb (yb 6) qc)))) (qd (zl zfD) (zb (eOp zcq (yb 6) (eC .non)) qc)))) (eC (.str " "))) (yb 7)))
 (zn 1 (eOp yg (eOp yg (yb 1) (eOp ixT (eFz (zt (zb (eC (.str " deaf")) (zb (eC (.str " hears")) qc)))) (qd (zl zfD) (zb (yb 8) qc)))) (eOp ixT (eFz (zt (zb (eC (.str " lossy")) (zb (eC (.str " sure")) qc)))) (qd (zl zfD) (zb (yb 9) qc)))))))
noncomputable def zdy:Ev->Mem->Out Fl:=
 (zg (zn 1 (eOp yg (eOp yg (yb 1) (eC (.str "; house "))) (yb 2)))
 (zbk (qX (yb 3)) (zah 6 (yo (qf 4) (yo (qf 5) (yo (qf 6) (yo (qf 7) (yo (qf 8) (yo (qf 9) zai))))))) zaP))
noncomputable def zdx:Ev->Mem->Out Fl:=
 (zn 1 (eOp yg (eOp yg (eOp yg (eOp yg (eOp yg (eOp yg (yb 1) (eC (.str "; purse "))) (yb 2)) (eC (.str " "))) (yb 10)) (eC (.str " "))) (eOp ixS (eC (.str "0123456789")) (yb 11))))
noncomputable def zdY:Ev->Mem->Out Fl:=
 (zg (zn 1 (eC (.str "")))
 (zg (zbk (qX (eOp ixT (yb 0) (eC (.int 0)))) (zah 2 (yo (qf 2) (yo (qf 3) zai))) zdy)
 (zg (zbk (qX (eOp ixT (yb 0) (eC (.int 1)))) (zah 3 (yo (qf 2) (yo (qf 10) (yo (qf 11) zai)))) zdx)
 (yu (zeP (yb 1) (zcm (eC (.int 2))) zcn)))))
noncomputable def zar:List FT.T->Mem->Out FT.T:=zq 1 12 (zdY)
section
variable {K:Frag}
theorem zo:FnScope ["net","text","name","asks","to","tries","purse","word","hears","sure","way","per"] ["net"] (zf zb3):=by ac_rfl
theorem zat (D:Df K mg "_law_net_text" zb3 ["net"]) (T:Txt K w mg)   :CalT P w K mg base 1 "_law_net_text" ["net"] zar:=
 zx D zo rfl rfl (fun f cdv A outer s H E hr=>(yd (qg (i:=1) zo.nd rfl (Or.inl rfl) zd)
  (yd (z9 PassesOwn.never rfl (zF (qe zk (ya (pv 0)) yc (fun _ _=>rfl))) (zax (za9 rfl (WGs.pe (zp (yr (WG.pe (yi (yj (i:=2) zo.nd rfl (by first | exact Or.inl rfl | exact Or.inr rfl)))) (WGs.pe (zp (yr (WG.pe (yi (yj (i:=3) zo.nd rfl (by first | exact Or.inl rfl | exact Or.inr rfl)))) (WGs.pe qY))))))))) (yd (qg (i:=1) zo.nd rfl (Or.inl rfl) (yf yh (yf yh (ya (pv 1)) zd) (ya (pv 2))))
  (ye (z9 PassesOwn.never rfl (zF (ya (pv 3))) (zax (za9 rfl (WGs.pe (zp (yr (WG.pe (yi (yj (i:=4) zo.nd rfl (by first | exact Or.inl rfl | exact Or.inr rfl)))) (WGs.pe (zp (yr (WG.pe (yi (yj (i:=5) zo.nd rfl (by first | exact Or.inl rfl | exact Or.inr rfl)))) (WGs.pe (zp (yr (WG.pe (yi (yj (i:=6) zo.nd rfl (by first | exact Or.inl rfl | exact Or.inr rfl)))) (WGs.pe (zp (yr (WG.pe (yi (yj (i:=7) zo.nd rfl (by first | exact Or.inl rfl | exact Or.inr rfl)))) (WGs.pe (zp (yr (WG.pe (yi (yj (i:=8) zo.nd rfl (by first | exact Or.inl rfl | exact Or.inr rfl)))) (WGs.pe (zp (yr (WG.pe (yi (yj (i:=9) zo.nd rfl (by first | exact Or.inl rfl | exact Or.inr rfl)))) (WGs.pe qY))))))))))))))))))))) (yd (qg (i:=1) zo.nd rfl (Or.inl rfl) (yf yh (yf yh (yf yh (yf yh (ya (pv 1)) zd) (ya (pv 4))) zd) (qe zk (yn (qm (za zd (za zd (za zd (za zd (za zd zc))))))) (ya (pv 5)) (fun _ _=>rfl))))
  (yd (qg (i:=1) zo.nd rfl (Or.inl rfl) (yf yh (yf yh (yf yh (yf yh (ya (pv 1)) zd) (qe zk (yn (qm (za zd (za (ya (pv 6)) zc)))) (yG zd0 rfl T.n_int boot_int (za (zay zfW (ya (pv 6)) za0 (qq _)) zc)) (fun _ _=>rfl))) zd) (ya (pv 7))))
  (ye (qg (i:=1) zo.nd rfl (Or.inl rfl) (yf yh (yf yh (ya (pv 1)) (qe zk (yn (qm (za zd (za zd zc)))) (yG zd0 rfl T.n_int boot_int (za (ya (pv 8)) zc)) (fun _ _=>rfl))) (qe zk (yn (qm (za zd (za zd zc)))) (yG zd0 rfl T.n_int boot_int (za (ya (pv 9)) zc)) (fun _ _=>rfl)))))))))))
  (yd (z9 PassesOwn.never rfl (zF (qe zk (ya (pv 0)) yc (fun _ _=>rfl))) (zax (za9 rfl (WGs.pe (zp (yr (WG.pe (yi (yj (i:=2) zo.nd rfl (by first | exact Or.inl rfl | exact Or.inr rfl)))) (WGs.pe (zp (yr (WG.pe (yi (yj (i:=10) zo.nd rfl (by first | exact Or.inl rfl | exact Or.inr rfl)))) (WGs.pe (zp (yr (WG.pe (yi (yj (i:=11) zo.nd rfl (by first | exact Or.inl rfl | exact Or.inr rfl)))) (WGs.pe qY)))))))))))) (ye (qg (i:=1) zo.nd rfl (Or.inl rfl) (yf yh (yf yh (yf yh (yf yh (yf yh (yf yh (ya (pv 1)) zd) (ya (pv 2))) zd) (ya (pv 10))) zd) (qe zhb zd (ya (pv 11)) (fun _ _=>rfl))))))
  (ye (yk (zfo (ya (pv 1)) (zbX yc) zbY)))))))
end
noncomputable def zfb:Ev->Mem->Out Fl:=
 (zg (zn 1 (eIf (zm (eOp eqA (eOp ixT (yb 0) (eC (.int 1))) (eC (.int 0)))) (eC (.str "ever")) (qd (zl zgB) (zb (eOp ixT (yb 0) (eC (.int 1))) qc))))
 (zg (zn 2 (eIf (zm (eOp isN (eOp ixT (yb 0) (eC (.int 2))) (eC .non))) (eC (.str "-")) (eOp ixT (yb 0) (eC (.int 2)))))
 (yu (qA isStr yP (eC (.str " ")) (zb (eFz (zt (zb (eC (.str "ask")) (zb (eOp ixT (yb 0) (eC (.int 0))) (zb (yb 1) (zb (yb 2) (zb (eOp ixT (yb 0) (eC (.int 3))) (zb (eIf (zm (eOp ixT (yb 0) (eC (.int 4)))) (eC (.str "hears")) (eC (.str "deaf"))) (zb (eIf (zm (eOp ixT (yb 0) (eC (.int 5)))) (eC (.str "sure")) (eC (.str "lossy"))) qc))))))))) qc)))))
noncomputable def zaD:List FT.T->Mem->Out FT.T:=zq 1 3 (zfb)
section
variable {K:Frag}
theorem zcw:FnScope ["ask","tries","purse"] ["ask"] (zf zdb):=by ac_rfl
theorem zbf (D:Df K mg "ask_text" zdb ["ask"]) (T:Txt K w mg)   :CalT P w K mg base 1 "ask_text" ["ask"] zaD:=
 zx D zcw rfl rfl (fun f cdv A outer s H E hr=>(yd (qg (i:=1) zcw.nd rfl (Or.inl rfl) (zbZ (yq (zD hr.units) (qe zk (ya (pv 0)) yc (fun _ _=>rfl)) yc (qq _)) zd (yG zkO rfl T.n_str boot_str (za (qe zk (ya (pv 0)) yc (fun _ _=>rfl)) zc))))
  (yd (qg (i:=2) zcw.nd rfl (Or.inl rfl) (zbZ (yq znw (qe zk (ya (pv 0)) yc (fun _ _=>rfl)) za0 (qq _)) zd (qe zk (ya (pv 0)) yc (fun _ _=>rfl))))
  (ye (yk (zaR ty_str (zU PySem.F.plainAttrs_str PySem.F.slot_str_join PySem.F.type_str_join zb6 (WE.pe zd) (WA.pe (za (yn (qm (za zd (za (qe zk (ya (pv 0)) yc (fun _ _=>rfl)) (za (ya (pv 1)) (za (ya (pv 2)) (za (qe zk (ya (pv 0)) yc (fun _ _=>rfl)) (za (zbZ (yC (qe zk (ya (pv 0)) yc (fun _ _=>rfl))) zd zd) (za (zbZ (yC (qe zk (ya (pv 0)) yc (fun _ _=>rfl))) zd zd) zc))))))))) zc)))))))))
end
noncomputable def zex:Ev->Mem->Out Fl:=
 (zg (qO (zaj yW (eUn qI (yb 1)) (zb (zcd [.inl "house ",.inr 2]) qc)))
 (qO (qA zcr zdr (yb 1) (zb (eFz (yH (qX (yb 3)) (qf 0) zw (qd zaD (zb (yb 0) qc)) ["ask"] [])) qc))))
noncomputable def ze8:Ev->Mem->Out Fl:=
 (zg (zn 1 (eTk (zt qc)))
 (zg (zbk (qX (eOp ixT (yb 0) (eC (.int 0)))) (zah 2 (yo (qf 2) (yo (qf 3) zai))) zex)
 (zg (qO (qA zcr zdr (yb 1) (zb (eFz (yH (qX (eOp ixT (yb 0) (eC (.int 1)))) (zah 3 (yo (qf 0) (yo (qf 1) (yo (qf 2) zai)))) zw (zcd [.inl "purse ",.inr 0,.inl " ",.inr 1,.inl " ",.inr 2]) ["name","earns","per"] [])) qc)))
 (yu (qA isStr yP (eC (.str "; ")) (zb (yb 1) qc))))))
noncomputable def zaC:List FT.T->Mem->Out FT.T:=zq 1 4 (ze8)
section
variable {K:Frag}
theorem zbu:FnScope ["net","parts","name","asks"] ["net"] (zf zc8):=by ac_rfl
theorem yV (D:Df K mg "net_text" zc8 ["net"]) (T:Txt K w mg)   (zbf:CalT P w K mg base 1 "ask_text" ["ask"] zaD):CalT P w K mg base 2 "net_text" ["net"] zaC:=
 zx D zbu rfl rfl (fun f cdv A outer s H E hr=>(yd (qg (i:=1) zbu.nd rfl (Or.inl rfl) (zak (qm zc)))
  (yd (z9 PassesOwn.never rfl (zF (qe zk (ya (pv 0)) yc (fun _ _=>rfl))) (zax (za9 rfl (WGs.pe (zp (yr (WG.pe (yi (yj (i:=2) zbu.nd rfl (by first | exact Or.inl rfl | exact Or.inr rfl)))) (WGs.pe (zp (yr (WG.pe (yi (yj (i:=3) zbu.nd rfl (by first | exact Or.inl rfl | exact Or.inr rfl)))) (WGs.pe qY))))))))) (yd (qQ (zaz (zU QG QK QJ zL (WE.pe (ya (pv 1))) (WA.pe (za (zh5 (.con (.var (pv 2) .nil))) zc)))))
  (ye (qQ (zaR zjD (zU QG PySem.F.slot_list_extend PySem.F.type_list_extend zix (WE.pe (ya (pv 1))) (WA.pe (za (yn (zG (tgs:=["ask"]) (caps:=[]) (zF (ya (pv 3))) (by bv_omega) (fun _ _ _=>(yi (yj (i:=0) (show (["ask"]:List Str).Nodup by decide +kernel) rfl (by first | exact Or.inl rfl | exact Or.inr rfl)))) (fun _ _ _=>zA) (fun _ _ _=>(zi zbf (hr.mono (by decide)) rfl (za (ya (pv 0)) zc))))) zc))))))))
  (yd (qQ (zaR zjD (zU QG PySem.F.slot_list_extend PySem.F.type_list_extend zix (WE.pe (ya (pv 1))) (WA.pe (za (yn (zG (tgs:=["name","earns","per"]) (caps:=[]) (zF (qe zk (ya (pv 0)) yc (fun _ _=>rfl))) (by bv_omega) (fun _ _ _=>(zax (za9 rfl (WGs.pe (zp (yr (WG.pe (yi (yj (i:=0) (show (["name","earns","per"]:List Str).Nodup by decide +kernel) rfl (by first | exact Or.inl rfl | exact Or.inr rfl)))) (WGs.pe (zp (yr (WG.pe (yi (yj (i:=1) (show (["name","earns","per"]:List Str).Nodup by decide +kernel) rfl (by first | exact Or.inl rfl | exact Or.inr rfl)))) (WGs.pe (zp (yr (WG.pe (yi (yj (i:=2) (show (["name","earns","per"]:List Str).Nodup by decide +kernel) rfl (by first | exact Or.inl rfl | exact Or.inr rfl)))) (WGs.pe qY))))))))))))) (fun _ _ _=>zA) (fun _ _ _=>(zh5 (.con (.var (pv 0) (.con (.var (pv 1) (.con (.var (pv 2) .nil)))))))))) zc)))))
  (ye (yk (zaR ty_str (zU PySem.F.plainAttrs_str PySem.F.slot_str_join PySem.F.type_str_join zb6 (WE.pe zd) (WA.pe (za (ya (pv 1)) zc))))))))))
end
noncomputable def zca (k_NoText:Addr):Ev->Mem->Out Fl:=
 (sIf (yJ (zm (qd (call2 qv) (zb (yb 0) (zb (eC (.ty "str")) qc))))) (za7 (zaL k_NoText) (zb (eC (.str "this is no text")) qc)) yO)
noncomputable def qL (k_NoText:Addr):List FT.T->Mem->Out FT.T:=yX 1 1 (zca k_NoText)
variable {k_NoText:Addr}
section
variable {K:Frag}
theorem zgb:FnScope ["thing"] ["thing"] (zf zb4):=by ac_rfl
theorem zau (D:Df K mg "check_text" zb4 ["thing"]) (T:Txt K w mg) (x_NoText:ExcAt K mg "NoText" k_NoText)  :CalX P w K mg base 3 "check_text" ["thing"] (qL k_NoText):=
 zey D zgb rfl rfl (fun f cdv A outer s H E hr=>(ye (qx (yB (yC (zj qH rfl T.n_isinstance boot_isinstance (za (ya (pv 0)) (za (zZ rfl T.n_str boot_str) zc))))) (ye (zc1 x_NoText (hr.mono (by decide)) rfl rfl rfl rfl rfl (za zd zc))) zu)))
end
noncomputable def zer:Ev->Mem->Out Fl:=
 (zg (sIf (zbF (yJ (zm (qU leU leU (eC (.int 1)) (qd (zl zC) (zb (yb 0) qc)) (yb 1)))) (yJ (zm (qd (zl zcH) (zb (eFz (yH (iTx (yb 0)) (qf 0) zw (qU leU leU (eC (.str "0")) (yb 0) (eC (.str "9"))) ["sign"] [])) qc))))) (yu (eC .non)) yO)
 (yu (eIf (zM (zm (eOp eqA (eOp ixS (yb 0) (eC (.int 0))) (eC (.str "0")))) (zm (eOp gtI (qd (zl zC) (zb (yb 0) qc)) (eC (.int 1))))) (eC .non) (qd (zl zhc) (zb (yb 0) qc)))))
noncomputable def zW:List FT.T->Mem->Out FT.T:=zq 2 2 (zer)
section
variable {K:Frag}
theorem zgJ:FnScope ["word","most"] ["word","most"] (zf zcy):=by ac_rfl
theorem zQ (D:Df K mg "number_in" zcy ["word","most"]) (T:Txt K w mg)   :CalT P w K mg base 1 "number_in" ["word","most"] zW:=
 zx D zgJ rfl rfl (fun f cdv A outer s H E hr=>(yd (qx (WW.gt (zaH (yB (zdA zbx zbx yc (zj yv rfl T.n_len boot_len (za (ya (pv 0)) zc)) (ya (pv 1)))) (zaw (yB (yC (zj (za4 rfl) rfl T.n_all boot_all (za (yn (zG (tgs:=["sign"]) (caps:=[]) (zh4 (ya (pv 0))) (by bv_omega) (fun _ _ _=>(yi (yj (i:=0) (show (["sign"]:List Str).Nodup by decide +kernel) rfl (by first | exact Or.inl rfl | exact Or.inr rfl)))) (fun _ _ _=>zA) (fun _ _ _=>(zdB zbx zbx zd (ya (pv 0)) zd)))) zc))))))) (ye (yk za0)) zu)
  (ye (yk (zbZ (WW.gt (y8 (yq (zD hr.units) (qe zhb (ya (pv 0)) yc (fun _ _=>rfl)) zd (qq _)) (zaQ (yq zdR (zj yv rfl T.n_len boot_len (za (ya (pv 0)) zc)) yc (qq _))))) za0 (yG zkU rfl T.n_int boot_int (za (ya (pv 0)) zc)))))))
end
noncomputable def zhk:Ev->Mem->Out Fl:=
 (zg (zn 1 (eIf (zm (eOp eqA (eOp ixD (yb 0) (eC (.int 2))) (eC (.str "ever")))) (eC (.int 0)) (qd zW (zb (eOp ixD (yb 0) (eC (.int 2))) (zb (eC (.int 1)) qc)))))
 (zg (zn 2 (eIf (zm (eOp eqA (eOp ixD (yb 0) (eC (.int 3))) (eC (.str "-")))) (eC .non) (eOp ixD (yb 0) (eC (.int 3)))))
 (yu (zY (zb (eOp ixD (yb 0) (eC (.int 1))) (zb (yb 1) (zb (yb 2) (zb (eOp ixD (yb 0) (eC (.int 4))) (zb (qd (k2T "hears" "deaf") (zb (eOp ixD (yb 0) (eC (.int 5))) qc)) (zb (qd (k2T "sure" "lossy") (zb (eOp ixD (yb 0) (eC (.int 6))) qc)) qc))))))))))
noncomputable def zaW:List FT.T->Mem->Out FT.T:=zq 1 3 (zhk)
section
variable {K:Frag}
theorem zdI:FnScope ["words","tries","purse"] ["words"] (zf zeI):=by ac_rfl
theorem zch (D:Df K mg "ask_in" zeI ["words"]) (T:Txt K w mg)   (zQ:CalT P w K mg base 1 "number_in" ["word","most"] zW):CalT P w K mg base 2 "ask_in" ["words"] zaW:=
 zx D zdI rfl rfl (fun f cdv A outer s H E hr=>(yd (qg (i:=1) zdI.nd rfl (Or.inl rfl) (zbZ (yq (zD hr.units) (qe (zdU hr.units) (ya (pv 0)) yc (fun _ _=>rfl)) zd (qq _)) yc (zi zQ (hr.mono (by decide)) rfl (za (qe (zdU hr.units) (ya (pv 0)) yc (fun _ _=>rfl)) (za yc zc)))))
  (yd (qg (i:=2) zdI.nd rfl (Or.inl rfl) (zbZ (yq (zD hr.units) (qe (zdU hr.units) (ya (pv 0)) yc (fun _ _=>rfl)) zd (qq _)) za0 (qe (zdU hr.units) (ya (pv 0)) yc (fun _ _=>rfl))))
  (ye (yk (zT (za (qe (zdU hr.units) (ya (pv 0)) yc (fun _ _=>rfl)) (za (ya (pv 1)) (za (ya (pv 2)) (za (qe (zdU hr.units) (ya (pv 0)) yc (fun _ _=>rfl)) (za (zgs rfl T.c_HEARS (by decide) (za (qe (zdU hr.units) (ya (pv 0)) yc (fun _ _=>rfl)) zc)) (za (zgs rfl T.c_SURE (by decide) (za (qe (zdU hr.units) (ya (pv 0)) yc (fun _ _=>rfl)) zc)) zc))))))))))))
end
noncomputable def zeq (k_NoText:Addr):Ev->Mem->Out Fl:=
 (sIf (zM (zm (eOp eqA (eOp ixT (yb 2) (eC (.int 0))) (eC (.str "house")))) (zM (zm (eOp eqA (qd (zl zC) (zb (yb 2) qc)) (eC (.int 2)))) (zm (eOp eqA (qd (zl zC) (zb (yb 1) qc)) (eC (.int 0)))))) (qO (zaj yW (eUn qI (yb 0)) (zb (zY (zb (eOp ixT (yb 2) (eC (.int 1))) (zb (eTk (zt qc)) qc))) qc))) (sIf (zM (zm (eOp eqA (eOp ixT (yb 2) (eC (.int 0))) (eC (.str "ask")))) (zM (zm (eOp eqA (qd (zl zC) (zb (yb 2) qc)) (eC (.int 7)))) (zM (zm (eOp eqA (qd (zl zC) (zb (yb 1) qc)) (eC (.int 0)))) (zm (eOp gtI (qd (zl zC) (zb (yb 0) qc)) (eC (.int 0))))))) (qO (zaj yW (eUn qI (eOp ixT (eOp ixT (yb 0) (eUn zdg (eC (.int 1)))) (eC (.int 1)))) (zb (qd zaW (zb (yb 2) qc)) qc))) (sIf (zM (zm (eOp eqA (eOp ixT (yb 2) (eC (.int 0))) (eC (.str "purse")))) (zm (eOp eqA (qd (zl zC) (zb (yb 2) qc)) (eC (.int 4))))) (qO (zaj yW (eUn qI (yb 1)) (zb (zY (zb (eOp ixT (yb 2) (eC (.int 1))) (zb (eOp ixT (yb 2) (eC (.int 2))) (zb (qd zW (zb (eOp ixT (yb 2) (eC (.int 3))) (zb (eC (.int 1)) qc))) qc)))) qc))) (za7 (zaL k_NoText) (zb (eC (.str "no part of a net's text is so")) qc)))))
noncomputable def zbw (k_NoText:Addr):List FT.T->Mem->Out FT.T:=yX 3 3 (zeq k_NoText)
section
variable {K:Frag}
theorem zgI:FnScope ["houses","purses","words"] ["houses","purses","words"] (zf zcx):=by ac_rfl
theorem zaO (D:Df K mg "read_part" zcx ["houses","purses","words"]) (T:Txt K w mg) (x_NoText:ExcAt K mg "NoText" k_NoText)  (zch:CalT P w K mg base 2 "ask_in" ["words"] zaW) (zQ:CalT P w K mg base 1 "number_in" ["word","most"] zW):CalX P w K mg base 3 "read_part" ["houses","purses","words"] (zbw k_NoText):=
 zey D zgI rfl rfl (fun f cdv A outer s H E hr=>(ye (qx (WW.gt (y8 (yq (zD hr.units) (qe zk (ya (pv 2)) yc (fun _ _=>rfl)) zd (qq _)) (y8 (yq (zD hr.units) (zj yv rfl T.n_len boot_len (za (ya (pv 2)) zc)) yc (qq _)) (zaQ (yq (zD hr.units) (zj yv rfl T.n_len boot_len (za (ya (pv 1)) zc)) yc (qq _)))))) (ye (qQ (zaz (zU QG QK QJ zL (WE.pe (ya (pv 0))) (WA.pe (za (zT (za (qe zk (ya (pv 2)) yc (fun _ _=>rfl)) (za (zak (qm zc)) zc))) zc)))))) (ye (qx (WW.gt (y8 (yq (zD hr.units) (qe zk (ya (pv 2)) yc (fun _ _=>rfl)) zd (qq _)) (y8 (yq (zD hr.units) (zj yv rfl T.n_len boot_len (za (ya (pv 2)) zc)) yc (qq _)) (y8 (yq (zD hr.units) (zj yv rfl T.n_len boot_len (za (ya (pv 1)) zc)) yc (qq _)) (zaQ (yq zdR (zj yv rfl T.n_len boot_len (za (ya (pv 0)) zc)) yc (qq _))))))) (ye (qQ (zaz (zU QG QK QJ zL (WE.pe (qe zk (qe zk (ya (pv 0)) (zoy zmR yc) (fun _ _=>rfl)) yc (fun _ _=>rfl))) (WA.pe (za (zi zch (hr.mono (by decide)) rfl (za (ya (pv 2)) zc)) zc)))))) (ye (qx (WW.gt (y8 (yq (zD hr.units) (qe zk (ya (pv 2)) yc (fun _ _=>rfl)) zd (qq _)) (zaQ (yq (zD hr.units) (zj yv rfl T.n_len boot_len (za (ya (pv 2)) zc)) yc (qq _))))) (ye (qQ (zaz (zU QG QK QJ zL (WE.pe (ya (pv 1))) (WA.pe (za (zT (za (qe zk (ya (pv 2)) yc (fun _ _=>rfl)) (za (qe zk (ya (pv 2)) yc (fun _ _=>rfl)) (za (zi zQ (hr.mono (by decide)) rfl (za (qe zk (ya (pv 2)) yc (fun _ _=>rfl)) (za yc zc))) zc)))) zc)))))) (ye (zc1 x_NoText (hr.mono (by decide)) rfl rfl rfl rfl rfl (za zd zc))))))))))
end
noncomputable def zdw:Ev->Mem->Out Fl:=
 (yu (zaX (qd (call2 qv) (zb (yb 0) (zb (eC (.ty "tuple")) qc))) (eOp eqA (qd (zl zC) (zb (yb 0) qc)) (yb 1))))
noncomputable def qr:List FT.T->Mem->Out FT.T:=zq 2 2 (zdw)
section
variable {K:Frag}
theorem zfr:FnScope ["thing","size"] ["thing","size"] (zf zbG):=by ac_rfl
theorem zy (D:Df K mg "is_tuple_of" zbG ["thing","size"]) (T:Txt K w mg)   :CalT P w K mg base 1 "is_tuple_of" ["thing","size"] qr:=
 zx D zfr rfl rfl (fun f cdv A outer s H E hr=>(ye (yk (zbi (zj qH rfl T.n_isinstance boot_isinstance (za (ya (pv 0)) (za (zZ rfl T.n_tuple boot_tuple) zc))) (zbP (zay (zD hr.units) (zj yv rfl T.n_len boot_len (za (ya (pv 0)) zc)) (ya (pv 1)) (qq _)))))))
end
noncomputable def zaq:Ev->Mem->Out Fl:=
 (zg (sIf (zbF (yJ (zm (qd (call2 qv) (zb (yb 0) (zb (eC (.ty "str")) qc))))) (yJ (zm (qU leU leU (eC (.int 1)) (qd (zl zC) (zb (yb 0) qc)) (eC (.int 8)))))) (yu (eC (.bl false))) yO)
 (yu (qd (zl zcH) (zb (eFz (yH (iTx (yb 0)) (qf 0) zw (qU leU leU (eC (.str "a")) (yb 0) (eC (.str "z"))) ["letter"] [])) qc))))
noncomputable def yF:List FT.T->Mem->Out FT.T:=zq 1 1 (zaq)
section
variable {K:Frag}
theorem ziY:FnScope ["thing"] ["thing"] (zf zdL):=by ac_rfl
theorem zbE (D:Df K mg "is_word" zdL ["thing"]) (T:Txt K w mg)   :CalT P w K mg base 1 "is_word" ["thing"] yF:=
 zx D ziY rfl rfl (fun f cdv A outer s H E hr=>(yd (qx (WW.gt (zaH (yB (yC (zj qH rfl T.n_isinstance boot_isinstance (za (ya (pv 0)) (za (zZ rfl T.n_str boot_str) zc))))) (zaw (yB (zdA zbx zbx yc (zj yv rfl T.n_len boot_len (za (ya (pv 0)) zc)) (zal rfl T.c_MOST_LETTERS)))))) (ye (yk qN)) zu)
  (ye (yk (zj (za4 rfl) rfl T.n_all boot_all (za (yn (zG (tgs:=["letter"]) (caps:=[]) (zh4 (ya (pv 0))) (by bv_omega) (fun _ _ _=>(yi (yj (i:=0) (show (["letter"]:List Str).Nodup by decide +kernel) rfl (by first | exact Or.inl rfl | exact Or.inr rfl)))) (fun _ _ _=>zA) (fun _ _ _=>(zdB zbx zbx zd (ya (pv 0)) zd)))) zc))))))
end
noncomputable def zev:Ev->Mem->Out Fl:=
 (zg (sIf (zbF (yJ (zm (qd (call2 qv) (zb (yb 0) (zb (eC (.ty "tuple")) qc))))) (yJ (zm (qU leI leI (yb 2) (qd (zl zC) (zb (yb 0) qc)) (yb 3))))) (yu (eC (.bl false))) yO)
 (zg (sIf (yJ (zm (qd (zl zcH) (zb (eFz (yH (qX (yb 0)) (qf 0) zw (zaX (qd qr (zb (yb 0) (zb (yb 1) qc))) (qd yF (zb (eOp ixT (yb 0) (eC (.int 0))) qc))) ["one"] [("size",1)])) qc)))) (yu (eC (.bl false))) yO)
 (yu (eOp eqA (qd zby (zb (eFz (yH (qX (yb 0)) (qf 0) zw (eOp ixT (yb 0) (eC (.int 0))) ["one"] [])) qc)) (qd (zl zC) (zb (yb 0) qc))))))
noncomputable def yD:List FT.T->Mem->Out FT.T:=zq 4 4 (zev)
section
variable {K:Frag}
theorem zgL:FnScope ["thing","size","least","most"] ["thing","size","least","most"] (zf zcC):=by ac_rfl
theorem zae (D:Df K mg "are_named" zcC ["thing","size","least","most"]) (T:Txt K w mg)   (zy:CalT P w K mg base 1 "is_tuple_of" ["thing","size"] qr) (zbE:CalT P w K mg base 1 "is_word" ["thing"] yF):CalT P w K mg base 2 "are_named" ["thing","size","least","most"] yD:=
 zx D zgL rfl rfl (fun f cdv A outer s H E hr=>(yd (qx (WW.gt (zaH (yB (yC (zj qH rfl T.n_isinstance boot_isinstance (za (ya (pv 0)) (za (zZ rfl T.n_tuple boot_tuple) zc))))) (zaw (yB (zdA zdQ zdQ (ya (pv 2)) (zj yv rfl T.n_len boot_len (za (ya (pv 0)) zc)) (ya (pv 3))))))) (ye (yk qN)) zu)
  (yd (qx (yB (yC (zj (za4 rfl) rfl T.n_all boot_all (za (yn (zG (tgs:=["one"]) (caps:=[("size",1)]) (zF (ya (pv 0))) (by bv_omega) (fun _ _ _=>(yi (yj (i:=0) (show (["one","size"]:List Str).Nodup by decide +kernel) rfl (by first | exact Or.inl rfl | exact Or.inr rfl)))) (fun _ _ _=>zA) (fun _ _ _=>(zbi (zi zy (hr.mono (by decide)) rfl (za (ya (pv 0)) (za (ya (pv 1)) zc))) (zbP (zi zbE (hr.mono (by decide)) rfl (za (qe zk (ya (pv 0)) yc (fun _ _=>rfl)) zc))))))) zc)))) (ye (yk qN)) zu)
  (ye (yk (zay (zD hr.units) (ziN rfl rfl T.n_len rfl T.n_set (za (yn (zG (tgs:=["one"]) (caps:=[]) (zF (ya (pv 0))) (by bv_omega) (fun _ _ _=>(yi (yj (i:=0) (show (["one"]:List Str).Nodup by decide +kernel) rfl (by first | exact Or.inl rfl | exact Or.inr rfl)))) (fun _ _ _=>zA) (fun _ _ _=>(qe zk (ya (pv 0)) yc (fun _ _=>rfl))))) zc)) (zj yv rfl T.n_len boot_len (za (ya (pv 0)) zc)) (qq _)))))))
end
noncomputable def zfa:Ev->Mem->Out Fl:=
 (yu (zaX (qd (call2 qv) (zb (yb 0) (zb (eC (.ty "int")) qc))) (zmi (qd (call2 qv) (zb (yb 0) (zb (eC (.ty "bool")) qc))))))
noncomputable def zbc:List FT.T->Mem->Out FT.T:=zq 1 1 (zfa)
section
variable {K:Frag}
theorem zhO:FnScope ["thing"] ["thing"] (zf zda):=by ac_rfl
theorem zbe (D:Df K mg "is_whole" zda ["thing"]) (T:Txt K w mg)   :CalT P w K mg base 1 "is_whole" ["thing"] zbc:=
 zx D zhO rfl rfl (fun f cdv A outer s H E hr=>(ye (yk (zbi (zj qH rfl T.n_isinstance boot_isinstance (za (ya (pv 0)) (za (zZ rfl T.n_int boot_int) zc))) (zbP (zmP (zj qH rfl T.n_isinstance boot_isinstance (za (ya (pv 0)) (za (zZ rfl T.n_bool boot_bool) zc)))))))))
end
noncomputable def zeu:Ev->Mem->Out Fl:=
 (yu (zaX (qd zbc (zb (yb 0) qc)) (qU leI leI (yb 1) (yb 0) (yb 2))))
noncomputable def yK:List FT.T->Mem->Out FT.T:=zq 3 3 (zeu)
section
variable {K:Frag}
theorem zgK:FnScope ["thing","low","high"] ["thing","low","high"] (zf zcB):=by ac_rfl
theorem yQ (D:Df K mg "is_within" zcB ["thing","low","high"]) (T:Txt K w mg)   (zbe:CalT P w K mg base 1 "is_whole" ["thing"] zbc):CalT P w K mg base 2 "is_within" ["thing","low","high"] yK:=
 zx D zgK rfl rfl (fun f cdv A outer s H E hr=>(ye (yk (zbi (zi zbe (hr.mono (by decide)) rfl (za (ya (pv 0)) zc)) (zbP (zdB zdQ zdQ (ya (pv 1)) (ya (pv 0)) (ya (pv 2))))))))
end
noncomputable def zhj:Ev->Mem->Out Fl:=
 (zg (sIf (zbF (yJ (zm (qd qr (zb (yb 0) (zb (eC (.int 6)) qc))))) (zbF (zm (eOp zfA (eOp ixT (yb 0) (eC (.int 0))) (yb 1))) (yJ (zm (qd yK (zb (eOp ixT (yb 0) (eC (.int 1))) (zb (eC (.int 0)) (zb (eC (.int 4)) qc)))))))) (yu (eC (.bl false))) yO)
 (zg (sIf (zM (zm (eOp zcq (eOp ixT (yb 0) (eC (.int 2))) (eC .non))) (zm (eOp zfA (eOp ixT (yb 0) (eC (.int 2))) (yb 2)))) (yu (eC (.bl false))) yO)
 (yu (zaX (eOp inA (eOp ixT (yb 0) (eC (.int 3))) (zY (zb (eC (.str "bad")) (zb (eC (.str "spent")) qc)))) (zaX (qd (call2 qv) (zb (eOp ixT (yb 0) (eC (.int 4))) (zb (eC (.ty "bool")) qc))) (qd (call2 qv) (zb (eOp ixT (yb 0) (eC (.int 5))) (zb (eC (.ty "bool")) qc))))))))
noncomputable def zaV:List FT.T->Mem->Out FT.T:=zq 3 3 (zhj)
section
variable {K:Frag}
theorem zjS:FnScope ["thing","later","purses"] ["thing","later","purses"] (zf zeH):=by ac_rfl
theorem zcg (D:Df K mg "is_ask" zeH ["thing","later","purses"]) (T:Txt K w mg)   (zy:CalT P w K mg base 1 "is_tuple_of" ["thing","size"] qr) (yQ:CalT P w K mg base 2 "is_within" ["thing","low","high"] yK):CalT P w K mg base 3 "is_ask" ["thing","later","purses"] zaV:=
 zx D zjS rfl rfl (fun f cdv A outer s H E hr=>(yd (qx (WW.gt (zaH (yB (yC (zi zy (hr.mono (by decide)) rfl (za (ya (pv 0)) (za yc zc))))) (zaH (yq zis (qe zk (ya (pv 0)) yc (fun _ _=>rfl)) (ya (pv 1)) rfl) (zaw (yB (yC (zi yQ (hr.mono (by decide)) rfl (za (qe zk (ya (pv 0)) yc (fun _ _=>rfl)) (za yc (za (zal rfl T.c_MOST_TRIES) zc)))))))))) (ye (yk qN)) zu)
  (yd (qx (WW.gt (y8 (yq zfW (qe zk (ya (pv 0)) yc (fun _ _=>rfl)) za0 (qq _)) (zaQ (yq zis (qe zk (ya (pv 0)) yc (fun _ _=>rfl)) (ya (pv 2)) rfl)))) (ye (yk qN)) zu)
  (ye (yk (zbi (zay zg0 (qe zk (ya (pv 0)) yc (fun _ _=>rfl)) (zT (za zd (za zd zc))) rfl) (zbi (zj qH rfl T.n_isinstance boot_isinstance (za (qe zk (ya (pv 0)) yc (fun _ _=>rfl)) (za (zZ rfl T.n_bool boot_bool) zc))) (zbP (zj qH rfl T.n_isinstance boot_isinstance (za (qe zk (ya (pv 0)) yc (fun _ _=>rfl)) (za (zZ rfl T.n_bool boot_bool) zc)))))))))))
end
noncomputable def zfc:Ev->Mem->Out Fl:=
 (zg (sIf (zbF (yJ (zm (qd (call2 qv) (zb (yb 0) (zb (eC (.ty "tuple")) qc))))) (zm (eOp gtI (qd (zl zC) (zb (yb 0) qc)) (eC (.int 3))))) (yu (eC (.bl false))) yO)
 (yu (qd (zl zcH) (zb (eFz (yH (qX (yb 0)) (qf 0) zw (qd zaV (zb (yb 0) (zb (yb 1) (zb (yb 2) qc)))) ["ask"] [("later",1),("purses",2)])) qc))))
noncomputable def zaE:List FT.T->Mem->Out FT.T:=zq 3 3 (zfc)
section
variable {K:Frag}
theorem zhP:FnScope ["thing","later","purses"] ["thing","later","purses"] (zf zdc):=by ac_rfl
theorem zbg (D:Df K mg "are_asks" zdc ["thing","later","purses"]) (T:Txt K w mg)   (zcg:CalT P w K mg base 3 "is_ask" ["thing","later","purses"] zaV):CalT P w K mg base 4 "are_asks" ["thing","later","purses"] zaE:=
 zx D zhP rfl rfl (fun f cdv A outer s H E hr=>(yd (qx (WW.gt (zaH (yB (yC (zj qH rfl T.n_isinstance boot_isinstance (za (ya (pv 0)) (za (zZ rfl T.n_tuple boot_tuple) zc))))) (zaw (yq zdR (zj yv rfl T.n_len boot_len (za (ya (pv 0)) zc)) (zal rfl T.c_MOST_ASKS_OF_ONE) (qq _))))) (ye (yk qN)) zu)
  (ye (yk (zj (za4 rfl) rfl T.n_all boot_all (za (yn (zG (tgs:=["ask"]) (caps:=[("later",1),("purses",2)]) (zF (ya (pv 0))) (by bv_omega) (fun _ _ _=>(yi (yj (i:=0) (show (["ask","later","purses"]:List Str).Nodup by decide +kernel) rfl (by first | exact Or.inl rfl | exact Or.inr rfl)))) (fun _ _ _=>zA) (fun _ _ _=>(zi zcg (hr.mono (by decide)) rfl (za (ya (pv 0)) (za (ya (pv 1)) (za (ya (pv 2)) zc))))))) zc))))))
end
noncomputable def zhi:Ev->Mem->Out Fl:=
 (zg (sIf (yJ (zm (qd qr (zb (yb 0) (zb (eC (.int 2)) qc))))) (yu (eC (.bl false))) yO)
 (zg (sIf (zbF (yJ (zm (qd yD (zb (eOp ixT (yb 0) (eC (.int 0))) (zb (eC (.int 2)) (zb (eC (.int 1)) (zb (eC (.int 4)) qc))))))) (yJ (zm (qd yD (zb (eOp ixT (yb 0) (eC (.int 1))) (zb (eC (.int 3)) (zb (eC (.int 0)) (zb (eC (.int 2)) qc)))))))) (yu (eC (.bl false))) yO)
 (zg (sIf (yJ (zm (qd (zl zcH) (zb (eFz (yH (qX (eOp ixT (yb 0) (eC (.int 1)))) (zah 3 (yo (qf 0) (yo (qf 1) (yo (qf 2) zai)))) zw (zaX (eOp inA (yb 1) (zY (zb (eC (.str "first")) (zb (eC (.str "any")) qc)))) (qd yK (zb (yb 2) (zb (eC (.int 1)) (zb (eC (.int 9)) qc))))) ["name","earns","per"] [])) qc)))) (yu (eC (.bl false))) yO)
 (zg (zn 1 (eFz (yH (qX (eOp ixT (yb 0) (eC (.int 0)))) (qf 0) zw (eOp ixT (yb 0) (eC (.int 0))) ["house"] [])))
 (zg (zn 2 (eFz (yH (qX (eOp ixT (yb 0) (eC (.int 1)))) (qf 0) zw (eOp ixT (yb 0) (eC (.int 0))) ["purse"] [])))
 (zg (sIf (yJ (zm (qd (zl zcH) (zb (eFz (yH (zgk (eOp ixT (yb 0) (eC (.int 0)))) (zah 2 (yo (qf 0) (yo (qf 1) zai))) zw (qd zaE (zb (eOp ixT (yb 1) (eC (.int 1))) (zb (eSl (yb 2) (zcm (eOp yg (yb 0) (eC (.int 1)))) zcn) (zb (yb 3) qc)))) ["at","house"] [("houses",1),("purses",2)])) qc)))) (yu (eC (.bl false))) yO)
 (yu (eOp leI (qd (zl sumK) (zb (eFz (yH (qX (eOp ixT (yb 0) (eC (.int 0)))) (qf 0) zw (qd (zl zC) (zb (eOp ixT (yb 0) (eC (.int 1))) qc)) ["house"] [])) qc)) (eC (.int 6))))))))))
noncomputable def zcc:List FT.T->Mem->Out FT.T:=zq 1 3 (zhi)
section
variable {K:Frag}
theorem zdH:FnScope ["thing","houses","purses"] ["thing"] (zf zeG):=by ac_rfl
theorem zcf (D:Df K mg "is_net" zeG ["thing"]) (T:Txt K w mg)   (zy:CalT P w K mg base 1 "is_tuple_of" ["thing","size"] qr) (zae:CalT P w K mg base 2 "are_named" ["thing","size","least","most"] yD) (zbg:CalT P w K mg base 4 "are_asks" ["thing","later","purses"] zaE) (yQ:CalT P w K mg base 2 "is_within" ["thing","low","high"] yK):CalT P w K mg base 5 "is_net" ["thing"] zcc:=
 zx D zdH rfl rfl (fun f cdv A outer s H E hr=>(yd (qx (yB (yC (zi zy (hr.mono (by decide)) rfl (za (ya (pv 0)) (za yc zc))))) (ye (yk qN)) zu)
  (yd (qx (WW.gt (zaH (yB (yC (zi zae (hr.mono (by decide)) rfl (za (qe zk (ya (pv 0)) yc (fun _ _=>rfl)) (za yc (za yc (za (zal rfl T.c_MOST_HOUSES) zc))))))) (zaw (yB (yC (zi zae (hr.mono (by decide)) rfl (za (qe zk (ya (pv 0)) yc (fun _ _=>rfl)) (za yc (za yc (za (zal rfl T.c_MOST_PURSES) zc)))))))))) (ye (yk qN)) zu)
  (yd (qx (yB (yC (zj (za4 rfl) rfl T.n_all boot_all (za (yn (zG (tgs:=["name","earns","per"]) (caps:=[]) (zF (qe zk (ya (pv 0)) yc (fun _ _=>rfl))) (by bv_omega) (fun _ _ _=>(zax (za9 rfl (WGs.pe (zp (yr (WG.pe (yi (yj (i:=0) (show (["name","earns","per"]:List Str).Nodup by decide +kernel) rfl (by first | exact Or.inl rfl | exact Or.inr rfl)))) (WGs.pe (zp (yr (WG.pe (yi (yj (i:=1) (show (["name","earns","per"]:List Str).Nodup by decide +kernel) rfl (by first | exact Or.inl rfl | exact Or.inr rfl)))) (WGs.pe (zp (yr (WG.pe (yi (yj (i:=2) (show (["name","earns","per"]:List Str).Nodup by decide +kernel) rfl (by first | exact Or.inl rfl | exact Or.inr rfl)))) (WGs.pe qY))))))))))))) (fun _ _ _=>zA) (fun _ _ _=>(zbi (zay zg0 (ya (pv 1)) (zT (za zd (za zd zc))) rfl) (zbP (zi yQ (hr.mono (by decide)) rfl (za (ya (pv 2)) (za yc (za (zal rfl T.c_MOST_PER) zc))))))))) zc)))) (ye (yk qN)) zu)
  (yd (qg (i:=1) zdH.nd rfl (Or.inr rfl) (yn (zG (tgs:=["house"]) (caps:=[]) (zF (qe zk (ya (pv 0)) yc (fun _ _=>rfl))) (by bv_omega) (fun _ _ _=>(yi (yj (i:=0) (show (["house"]:List Str).Nodup by decide +kernel) rfl (by first | exact Or.inl rfl | exact Or.inr rfl)))) (fun _ _ _=>zA) (fun _ _ _=>(qe zk (ya (pv 0)) yc (fun _ _=>rfl))))))
  (yd (qg (i:=2) zdH.nd rfl (Or.inr rfl) (yn (zG (tgs:=["purse"]) (caps:=[]) (zF (qe zk (ya (pv 0)) yc (fun _ _=>rfl))) (by bv_omega) (fun _ _ _=>(yi (yj (i:=0) (show (["purse"]:List Str).Nodup by decide +kernel) rfl (by first | exact Or.inl rfl | exact Or.inr rfl)))) (fun _ _ _=>zA) (fun _ _ _=>(qe zk (ya (pv 0)) yc (fun _ _=>rfl))))))
  (yd (qx (yB (yC (zj (za4 rfl) rfl T.n_all boot_all (za (yn (zG (tgs:=["at","house"]) (caps:=[("houses",1),("purses",2)]) (zk4 rfl T.n_enumerate (qe zk (ya (pv 0)) yc (fun _ _=>rfl))) (by bv_omega) (fun _ _ _=>(zax (za9 rfl (WGs.pe (zp (yr (WG.pe (yi (yj (i:=0) (show (["at","house","houses","purses"]:List Str).Nodup by decide +kernel) rfl (by first | exact Or.inl rfl | exact Or.inr rfl)))) (WGs.pe (zp (yr (WG.pe (yi (yj (i:=1) (show (["at","house","houses","purses"]:List Str).Nodup by decide +kernel) rfl (by first | exact Or.inl rfl | exact Or.inr rfl)))) (WGs.pe qY)))))))))) (fun _ _ _=>zA) (fun _ _ _=>(zi zbg (hr.mono (by decide)) rfl (za (qe zk (ya (pv 1)) yc (fun _ _=>rfl)) (za (zjA (ya (pv 2)) (zbX (yf yh (ya (pv 0)) yc)) zbY) (za (ya (pv 3)) zc))))))) zc)))) (ye (yk qN)) zu)
  (ye (yk (zay zdQ (zj (zkM rfl) rfl T.n_sum boot_sum (za (yn (zG (tgs:=["house"]) (caps:=[]) (zF (qe zk (ya (pv 0)) yc (fun _ _=>rfl))) (by bv_omega) (fun _ _ _=>(yi (yj (i:=0) (show (["house"]:List Str).Nodup by decide +kernel) rfl (by first | exact Or.inl rfl | exact Or.inr rfl)))) (fun _ _ _=>zA) (fun _ _ _=>(zj yv rfl T.n_len boot_len (za (qe zk (ya (pv 0)) yc (fun _ _=>rfl)) zc))))) zc)) (zal rfl T.c_MOST_ASKS) (qq _)))))))))))
end
noncomputable def zaf (k_NoText:Addr):Ev->Mem->Out Fl:=
 (qO (qd (zbw k_NoText) (zb (yb 1) (zb (yb 2) (zb (eFz (zS (yb 3) (zb (eC (.str " ")) qc))) qc)))))
noncomputable def zdn (k_NoText:Addr):Ev->Mem->Out Fl:=
 (zg (qO (qd (qL k_NoText) (zb (yb 0) qc)))
 (zg (zn 1 (eTk (zt qc)))
 (zg (zn 2 (eTk (zt qc)))
 (zg (zbk (qX (eFz (zS (yb 0) (zb (eC (.str "; ")) qc)))) (qf 3) (zaf k_NoText))
 (zg (zn 4 (zY (zb (qd (zl qK) (zb (eFz (zbz (zdl (yb 1)) (zah 2 (yo (qf 0) (yo (qf 1) zai))) zw (zY (zb (yb 0) (zb (qd (zl qK) (zb (yb 1) qc)) qc))) ["name","asks"] [])) qc)) (zb (qd (zl qK) (zb (yb 2) qc)) qc))))
 (zg (sIf (zbF (yJ (zm (qd zcc (zb (yb 4) qc)))) (zm (eOp neA (qd zaC (zb (yb 4) qc)) (yb 0)))) (za7 (zaL k_NoText) (zb (eC (.str "this is no text of a net")) qc)) yO)
 (yu (yb 4))))))))
noncomputable def qP (k_NoText:Addr):List FT.T->Mem->Out FT.T:=yX 1 5 (zdn k_NoText)
noncomputable def zbN (k_NoText:Addr):List FT.T->Mem->Out FT.T:=zei (qP k_NoText)
section
variable {K:Frag}
theorem zaJ:FnScope ["text","houses","purses","part","net"] ["text"] (zf zc7):=by ac_rfl
theorem zV (D:Df K mg "read_net" zc7 ["text"]) (T:Txt K w mg) (x_NoText:ExcAt K mg "NoText" k_NoText)  (zau:CalX P w K mg base 3 "check_text" ["thing"] (qL k_NoText)) (zaO:CalX P w K mg base 3 "read_part" ["houses","purses","words"] (zbw k_NoText)) (zcf:CalT P w K mg base 5 "is_net" ["thing"] zcc) (yV:CalT P w K mg base 2 "net_text" ["net"] zaC):CalX P w K mg base 6 "read_net" ["text"] (qP k_NoText):=
 zey D zaJ rfl rfl (fun f cdv A outer s H E hr=>(yd (qQ (zgt zau (hr.mono (by decide)) rfl (zj2 rfl rfl rfl rfl) (za (ya (pv 0)) zc)))
  (yd (qg (i:=1) zaJ.nd rfl (Or.inl rfl) (zak (qm zc)))
  (yd (qg (i:=2) zaJ.nd rfl (Or.inl rfl) (zak (qm zc)))
  (yd (z9 PassesOwn.leaving rfl (zF (yn (zcj (ya (pv 0)) (za zd zc)))) (yi (yj (i:=3) zaJ.nd rfl (by first | exact Or.inl rfl | exact Or.inr rfl))) (ye (qQ (zgt zaO (hr.mono (by decide)) rfl (zj2 rfl rfl rfl rfl) (za (ya (pv 1)) (za (ya (pv 2)) (za (yn (zcj (ya (pv 3)) (za zd zc))) zc)))))))
  (yd (qg (i:=4) zaJ.nd rfl (Or.inl rfl) (zT (za (yG zab rfl T.n_tuple boot_tuple (za (yn (zfQ (tgs:=["name","asks"]) (caps:=[]) (zgr (ya (pv 1))) (by bv_omega) (fun _ _ _=>(zax (za9 rfl (WGs.pe (zp (yr (WG.pe (yi (yj (i:=0) (show (["name","asks"]:List Str).Nodup by decide +kernel) rfl (by first | exact Or.inl rfl | exact Or.inr rfl)))) (WGs.pe (zp (yr (WG.pe (yi (yj (i:=1) (show (["name","asks"]:List Str).Nodup by decide +kernel) rfl (by first | exact Or.inl rfl | exact Or.inr rfl)))) (WGs.pe qY)))))))))) (fun _ _ _=>zA) (fun _ _ _=>(zT (za (ya (pv 0)) (za (yG zab rfl T.n_tuple boot_tuple (za (ya (pv 1)) zc)) zc)))))) zc)) (za (yG zab rfl T.n_tuple boot_tuple (za (ya (pv 2)) zc)) zc))))
  (yd (qx (WW.gt (zaH (yB (yC (zi zcf (hr.mono (by decide)) rfl (za (ya (pv 4)) zc)))) (zaw (yq (zgY hr.units) (zi yV (hr.mono (by decide)) rfl (za (ya (pv 4)) zc)) (ya (pv 0)) (qq _))))) (ye (zc1 x_NoText (hr.mono (by decide)) rfl rfl rfl rfl rfl (za zd zc))) zu)
  (ye (yk (ya (pv 4)))))))))))
end
noncomputable def zet (k_NoText:Addr):Ev->Mem->Out Fl:=
 (zg (zn 1 (eTk (zt qc)))
 (zg (zgN [k_NoText] (qO (qd (qP k_NoText) (zb (yb 0) qc))) (qO (zaj yW (eUn qI (yb 1)) (zb (eC (.bl true)) qc))))
 (yu (eOp eqA (yb 1) (eFz (zt (zb (eC (.bl true)) qc)))))))
noncomputable def zaN (k_NoText:Addr):List FT.T->Mem->Out FT.T:=zq 1 2 (zet k_NoText)
section
variable {K:Frag}
theorem zdG:FnScope ["thing","signs"] ["thing"] (zf zcA):=by ac_rfl
theorem zad (D:Df K mg "_law_refused" zcA ["thing"]) (T:Txt K w mg) (x_NoText:ExcAt K mg "NoText" k_NoText)  (zV:CalX P w K mg base 6 "read_net" ["text"] (qP k_NoText)):CalT P w K mg base 7 "_law_refused" ["thing"] (zaN k_NoText):=
 zx D zdG rfl rfl (fun f cdv A outer s H E hr=>(yd (qg (i:=1) zdG.nd rfl (Or.inl rfl) (zak (qm zc)))
  (yd (zmO (cs:=[k_NoText]) (zk3 zV (hr.mono (by decide)) rfl (fun _ _=>(za (ya (pv 0)) zc))) (List.forall_mem_cons.mpr ⟨zmY x_NoText,List.forall_mem_nil _⟩) rfl rfl rfl rfl (fun _=>(ye (qQ (zaz (zU QG QK QJ zL (WE.pe (ya (pv 1))) (WA.pe (za qN zc))))))))
  (ye (yk (zay (zD hr.units) (ya (pv 1)) (yn (qm (za qN zc))) (qq _)))))))
end
noncomputable def zd2:Ev->Mem->Out Fl:=
 (zg (zn 7 (eTk (zS (yb 6) (zb (eC (.str " ")) qc))))
 (zg (sIf (zM (zm (eOp eqA (eOp ixT (yb 7) (eC (.int 0))) (yb 1))) (zm (eOp eqA (yb 5) (eC (.int 0))))) (zg (zgO (yb 3) (zhF zdF (yb 7) (yb 2)))
 (zn 5 (eC (.int 1)))) yO)
 (qO (zaj yW (eUn qI (yb 4)) (zb (qA isStr yP (eC (.str " ")) (zb (yb 7) qc)) qc)))))
noncomputable def zes:Ev->Mem->Out Fl:=
 (zg (zn 4 (eTk (zt qc)))
 (zg (zn 5 (eC (.int 0)))
 (zg (zbk (qX (eFz (zS (yb 0) (zb (eC (.str "; ")) qc)))) (qf 6) zd2)
 (yu (eOp yg (qA isStr yP (eC (.str "; ")) (zb (yb 4) qc)) (eOp ixT (eFz (zt (zb (eC (.str "; ")) (zb (eC (.str "")) qc)))) (yb 5)))))))
noncomputable def zaa:List FT.T->Mem->Out FT.T:=zq 4 8 (zes)
section
variable {K:Frag}
theorem zX:FnScope ["text","kind","at","word","parts","spent","part","words"] ["text","kind","at","word"] (zf zcz):=by ac_rfl
theorem zac (D:Df K mg "_law_swapped" zcz ["text","kind","at","word"]) (T:Txt K w mg)   :CalT P w K mg base 1 "_law_swapped" ["text","kind","at","word"] zaa:=
 zx D zX rfl rfl (fun f cdv A outer s H E hr=>(yd (qg (i:=4) zX.nd rfl (Or.inl rfl) (zak (qm zc)))
  (yd (qg (i:=5) zX.nd rfl (Or.inl rfl) yc)
  (yd (z9 PassesOwn.never rfl (zF (yn (zcj (ya (pv 0)) (za zd zc)))) (yi (yj (i:=6) zX.nd rfl (by first | exact Or.inl rfl | exact Or.inr rfl))) (yd (qg (i:=7) zX.nd rfl (Or.inl rfl) (zak (zcj (ya (pv 6)) (za zd zc))))
  (yd (qx (WW.gt (y8 (yq (zD hr.units) (qe zk (ya (pv 7)) yc (fun _ _=>rfl)) (ya (pv 1)) (qq _)) (zaQ (yq (zD hr.units) (ya (pv 5)) yc (qq _))))) (yd (zfm (ya (pv 3)) (zfn (ya (pv 7)) (ya (pv 2)) ziX))
  (ye (qg (i:=5) zX.nd rfl (Or.inl rfl) yc))) zu)
  (ye (qQ (zaz (zU QG QK QJ zL (WE.pe (ya (pv 4))) (WA.pe (za (zaR ty_str (zU PySem.F.plainAttrs_str PySem.F.slot_str_join PySem.F.type_str_join zb6 (WE.pe zd) (WA.pe (za (ya (pv 7)) zc)))) zc)))))))))
  (ye (yk (yf yh (zaR ty_str (zU PySem.F.plainAttrs_str PySem.F.slot_str_join PySem.F.type_str_join zb6 (WE.pe zd) (WA.pe (za (ya (pv 4)) zc)))) (qe zk (yn (qm (za zd (za zd zc)))) (ya (pv 5)) (fun _ _=>rfl)))))))))
end
noncomputable def zf2:Ev->Mem->Out Fl:=
 (zg (zn 3 (eFz (zt (zb (eOp yg (yb 0) (eC (.str "; "))) (zb (eOp yg (eC (.str " ")) (yb 0)) (zb (eOp yg (yb 0) (eC (.str " "))) (zb (eOp yg (yb 0) (eC (.str ";"))) (zb (eOp yg (yb 0) (eC (.str " x"))) (zb (eUn (zaK " " "  ") (yb 0)) (zb (eC (.str "")) (zb (eUn upT (yb 0)) qc)))))))))))
 (zg (zn 3 (eOp yg (yb 3) (eFz (zt (zb (eOp yg (eC (.str "purse a first 1; ")) (yb 0)) (zb (eOp yg (eOp yg (yb 0) (eC (.str "; house "))) (eOp ixT (eOp ixT (eOp ixT (yb 1) (eC (.int 0))) (eC (.int 0))) (eC (.int 0)))) (zb (eOp yg (yb 0) (eC (.str "; ask zz 1 - bad hears sure"))) qc)))))))
 (zg (zn 3 (eOp yg (yb 3) (eFz (zt (zb (eUn (zaK " " "\t") (yb 0)) (zb (eOp yg (eC (.str "; ")) (yb 0)) (zb (eOp yg (eC (.str "ask a 1 - bad hears sure; ")) (yb 0)) (zb (eOp yg (yb 0) (eC (.str "; net"))) qc))))))))
 (zg (zn 4 (qd qo (zb (yb 2) (zb (eC (.int 28)) qc))))
 (zg (sIf (zm (eOp ltI (yb 4) (eC (.int 15)))) (yu (eOp ixT (yb 3) (yb 4))) yO)
 (zg (sIf (zm (eOp ltI (yb 4) (eC (.int 25)))) (zg (zn 5 (eOp ixT (eFz (zt (zb (eC (.int 2)) (zb (eC (.int 2)) (zb (eC (.int 2)) (zb (eC (.int 2)) (zb (eC (.int 2)) (zb (eC (.int 4)) (zb (eC (.int 5)) (zb (eC (.int 6)) (zb (eC (.int 3)) (zb (eC (.int 1)) qc)))))))))))) (eOp zeC (yb 4) (eC (.int 15)))))
 (zg (zn 6 (eOp ixT (eFz (zt (zb (eC (.str "0")) (zb (eC (.str "5")) (zb (eC (.str "01")) (zb (eC (.str "Ever")) (zb (eC (.str "")) (zb (eC (.str "good")) (zb (eC (.str "heard")) (zb (eC (.str "loose")) (zb (eC (.str "a1")) (zb (eOp ixT (eOp ixT (eOp ixT (yb 1) (eC (.int 0))) (eC (.int 0))) (eC (.int 0))) qc)))))))))))) (eOp zeC (yb 4) (eC (.int 15)))))
 (yu (qd zaa (zb (yb 0) (zb (eC (.str "ask")) (zb (yb 5) (zb (yb 6) qc)))))))) yO)
 (yu (qd zaa (zb (yb 0) (zb (eC (.str "purse")) (zb (eC (.int 3)) (zb (eOp ixT (eFz (zt (zb (eC (.str "0")) (zb (eC (.str "10")) (zb (eC (.str "01")) qc))))) (eOp zeC (yb 4) (eC (.int 25)))) qc))))))))))))
noncomputable def zcu:List FT.T->Mem->Out FT.T:=zq 3 7 (zf2)
section
variable {K:Frag}
theorem yZ:FnScope ["text","net","pool","some","way","at","word"] ["text","net","pool"] (zf zdK):=by ac_rfl
theorem zbD (D:Df K mg "_law_amiss" zdK ["text","net","pool"]) (T:Txt K w mg)   (ql:CalT P w K mg base 1 "_law_next" ["pool","base"] qo) (zac:CalT P w K mg base 1 "_law_swapped" ["text","kind","at","word"] zaa):CalT P w K mg base 2 "_law_amiss" ["text","net","pool"] zcu:=
 zx D yZ rfl rfl (fun f cdv A outer s H E hr=>(ziM (znY (i:=3) yZ.nd rfl (by first | exact Or.inl rfl | exact Or.inr rfl) (zl8 (znn yh (WE.pe (ya (pv 0)))) (z6 (WE.pe (yf yh zd (ya (pv 0)))) (z6 (WE.pe (yf yh (ya (pv 0)) zd)) (z6 (WE.pe (yf yh (ya (pv 0)) zd)) (z6 (WE.pe (yf yh (ya (pv 0)) zd)) (zf0 (zfZ (WE.pe (ya (pv 0))) (by decide)) (z6 (WE.pe zd) (z6 (WE.pe (zox (ya (pv 0)))) (zkA (WA.pe zc)))))))))))
  (zfY (zpU (WS.pe (qg (i:=3) yZ.nd rfl (Or.inl rfl) (yf yh (ya (pv 3)) (yn (qm (za (yf yh zd (ya (pv 0))) (za (yf yh (yf yh (ya (pv 0)) zd) (qe zk (qe zk (qe zk (ya (pv 1)) yc (fun _ _=>rfl)) yc (fun _ _=>rfl)) yc (fun _ _=>rfl))) (za (yf yh (ya (pv 0)) zd) zc)))))))))
  (zfY (znX (i:=3) yZ.nd rfl (by first | exact Or.inl rfl | exact Or.inr rfl) (zp6 yh (WE.pe (ya (pv 3))) (zl7 (zf0 (zfZ (WE.pe (ya (pv 0))) (by decide)) (z6 (WE.pe (yf yh zd (ya (pv 0)))) (z6 (WE.pe (yf yh zd (ya (pv 0)))) (z6 (WE.pe (yf yh (ya (pv 0)) zd)) (zkA (WA.pe zc)))))))))
  (znU (WSs.pe (yd (qg (i:=4) yZ.nd rfl (Or.inl rfl) (zi ql (hr.mono (by decide)) rfl (za (ya (pv 2)) (za yc zc))))
  (yd (qx (yq zgZ (ya (pv 4)) yc (qq _)) (ye (yk (qe zk (ya (pv 3)) (ya (pv 4)) (fun _ _=>rfl)))) zu)
  (yd (qx (yq zgZ (ya (pv 4)) yc (qq _)) (yd (qg (i:=5) yZ.nd rfl (Or.inl rfl) (qe zk (yn (qm (za yc (za yc (za yc (za yc (za yc (za yc (za yc (za yc (za yc (za yc zc)))))))))))) (yf zcO (ya (pv 4)) yc) (fun _ _=>rfl)))
  (yd (qg (i:=6) yZ.nd rfl (Or.inl rfl) (qe zk (yn (qm (za zd (za zd (za zd (za zd (za zd (za zd (za zd (za zd (za zd (za (qe zk (qe zk (qe zk (ya (pv 1)) yc (fun _ _=>rfl)) yc (fun _ _=>rfl)) yc (fun _ _=>rfl)) zc)))))))))))) (yf zcO (ya (pv 4)) yc) (fun _ _=>rfl)))
  (ye (yk (zi zac (hr.mono (by decide)) rfl (za (ya (pv 0)) (za zd (za (ya (pv 5)) (za (ya (pv 6)) zc))))))))) zu)
  (ye (yk (zi zac (hr.mono (by decide)) rfl (za (ya (pv 0)) (za zd (za yc (za (qe zk (yn (qm (za zd (za zd (za zd zc))))) (yf zcO (ya (pv 4)) yc) (fun _ _=>rfl)) zc))))))))))))))))
end
noncomputable def zhH (k_NoText:Addr):Ev->Mem->Out Fl:=
 (zg (zn 2 (qd zcb (zb (yb 1) qc)))
 (zg (zn 3 (qd zef (zb (yb 2) (zb (eC (.int 4)) qc))))
 (zg (zn 4 (qd zar (zb (yb 3) qc)))
 (zg (sIf (zbF (zm (eOp neA (qd zaC (zb (yb 3) qc)) (yb 4))) (zm (eOp neA (qd (zbN k_NoText) (zb (yb 4) qc)) (yb 3)))) (yu (eC (.bl false))) yO)
 (zg (zn 5 (eOp ixT (eFz (zt (zb (eC .non) (zb (eC (.int 7)) (zb (eC (.bl true)) (zb (eFz (zt (zb (yb 4) qc))) (zb (yb 3) (zb (zY (zb (yb 4) qc)) qc)))))))) (qd qo (zb (yb 2) (zb (eC (.int 6)) qc)))))
 (sIf (zbF (yJ (zm (qd (zaN k_NoText) (zb (qd zcu (zb (yb 4) (zb (yb 3) (zb (yb 2) qc)))) qc)))) (yJ (zm (qd (zaN k_NoText) (zb (yb 5) qc))))) (yu (eC (.bl false))) yO))))))
noncomputable def zmH (k_NoText:Addr):Ev->Mem->Out Fl:=
 (zg (zbk (qX (eOp yg (eFz (zt (zb (eC (.int 0)) qc))) (yb 0))) (qf 1) (zhH k_NoText))
 (yu (eC (.bl true))))
noncomputable def zgm (k_NoText:Addr):List FT.T->Mem->Out FT.T:=zq 1 6 (zmH k_NoText)
section
variable {K:Frag}
theorem zcM:FnScope ["script","cell","pool","net","text","odd"] ["script"] (zf ziZ):=by ac_rfl
theorem zpo {f:Addr} {fd:FuncData} (D:Fun K "law" "law" ziZ f fd) (T:Txt K w mg)   (zce:CalT P w K mg base 1 "_law_pool" ["cell"] zcb) (zcU:CalT P w K mg base 4 "_law_net" ["pool","most"] zef) (zat:CalT P w K mg base 1 "_law_net_text" ["net"] zar) (ql:CalT P w K mg base 1 "_law_next" ["pool","base"] qo) (yV:CalT P w K mg base 2 "net_text" ["net"] zaC) (zV:CalT P w K mg base 6 "read_net" ["text"] (zbN k_NoText)) (zad:CalT P w K mg base 7 "_law_refused" ["thing"] (zaN k_NoText)) (zbD:CalT P w K mg base 2 "_law_amiss" ["text","net","pool"] zcu):FnOk P w K mg base CX0 8 f fd ["script"] (spT K (zgm k_NoText)):=
 zmN D zcM rfl rfl (fun cdv A outer s H E hr=>(yd (z9 PassesOwn.never rfl (zF (yf yh (yn (qm (za yc zc))) (ya (pv 0)))) (yi (yj (i:=1) zcM.nd rfl (by first | exact Or.inl rfl | exact Or.inr rfl))) (yd (qg (i:=2) zcM.nd rfl (Or.inl rfl) (zi zce (hr.mono (by decide)) rfl (za (ya (pv 1)) zc)))
  (yd (qg (i:=3) zcM.nd rfl (Or.inl rfl) (zi zcU (hr.mono (by decide)) rfl (za (ya (pv 2)) (za yc zc))))
  (yd (qg (i:=4) zcM.nd rfl (Or.inl rfl) (zi zat (hr.mono (by decide)) rfl (za (ya (pv 3)) zc)))
  (yd (qx (WW.gt (zaH (yq (zgY hr.units) (zi yV (hr.mono (by decide)) rfl (za (ya (pv 3)) zc)) (ya (pv 4)) (qq _)) (zaw (yq (zgY hr.units) (zi zV (hr.mono (by decide)) rfl (za (ya (pv 4)) zc)) (ya (pv 3)) (qq _))))) (ye (yk qN)) zu)
  (yd (qg (i:=5) zcM.nd rfl (Or.inl rfl) (qe zk (yn (qm (za za0 (za yc (za qN (za (yn (qm (za (ya (pv 4)) zc))) (za (ya (pv 3)) (za (zT (za (ya (pv 4)) zc)) zc)))))))) (zi ql (hr.mono (by decide)) rfl (za (ya (pv 2)) (za yc zc))) (fun _ _=>rfl)))
  (ye (qx (WW.gt (zaH (yB (yC (zi zad (hr.mono (by decide)) rfl (za (zi zbD (hr.mono (by decide)) rfl (za (ya (pv 4)) (za (ya (pv 3)) (za (ya (pv 2)) zc)))) zc)))) (zaw (yB (yC (zi zad (hr.mono (by decide)) rfl (za (ya (pv 5)) zc))))))) (ye (yk qN)) zu))))))))
  (ye (yk qN))))
end
end My
open Lean in
local macro_rules | `(tactic| simp_arith [$xs,*]) => do
  let ids := ("FT.zjU FT.zsw FT.zsx FT.startT FT.zg FT.yu FT.zn FT.sIf FT.qO FT.zgO FT.yO FT.zbk FT.yb FT.eC FT.eOp FT.eUn FT.zaX FT.eOr FT.zmi FT.eIf FT.qd FT.zY FT.eFz FT.eTk FT.zt FT.zsW FT.qU FT.lOp FT.eSl FT.zcn FT.zcm FT.zlW FT.zeR FT.zsF FT.zsU FT.zaj FT.qc FT.zb FT.zm FT.zM FT.zbF FT.yJ FT.zsR FT.zbV FT.zsg FT.zh FT.zk9 FT.zrr FT.zrq FT.zrU FT.zrT FT.zrW FT.zrV FT.qf FT.zhF FT.zah FT.yo FT.zai FT.qX FT.zbT FT.zsA FT.zgH FT.ixT FT.zfy FT.zhe FT.zs5 FT.zs4 FT.zs3 FT.zs2 FT.yH FT.zbs FT.zw Option.join_some Option.join_none FT.zrX FT.zlP FT.zdF FT.zsZ FT.zsY FT.zsX QF map_nil Qn length_nil cons_append nil_append List.getElem?_cons_zero getElem?_cons_succ List.set_cons_zero List.set_cons_succ List.replicate Nat.zero_add Nat.reduceAdd Nat.reduceSub FT.zsC FT.zsB FT.zsE FT.zsD Int.reduceBEq Int.reduceLT FT.zst FT.zsK FT.zsL FT.zsN FT.zsO FT.zsI FT.zsz FT.zsP FT.zsJ FT.zsM FT.zr2 Bool.false_eq_true reduceIte Nat.reduceEqDiff Nat.succ.injEq Bool.not_true Bool.not_false FT.znG FT.zsy FT.zsQ Int.reduceToNat Int.reducePow ne_eq Int.reduceEq not_false_eq_true Int.reduceNeg Bool.bne_true Bool.bne_false Bool.true_bne Bool.false_bne decide_true decide_false FT.zhC FT.zsf FT.zse FT.zsu FT.zsv".splitOn " ").toArray.map fun s => Lean.mkIdent s.toName
  `(tactic| simp (config := {decide := true}) only [$[$ids:term],*, $xs,*])
namespace My
open PySem L2 FT
structure Ask where
 to:Str
 tries:Int
 purse:Option Str
 word:Str
 hears:Bool
 sure:Bool
structure Hs where
 name:Str
 asks:List Ask
structure Pu where
 name:Str
 earns:Str
 per:Int
structure Net where
 hs:List Hs
 ps:List Pu
noncomputable def opS (o:Option Str):FT.T:=o.elim .non .str
noncomputable def yz (a:Ask):FT.T:=.tup [.str a.to,.int a.tries,opS a.purse,.str a.word,.bl a.hears,.bl a.sure]
noncomputable def hsT (h:Hs):FT.T:=.tup [.str h.name,.tup (h.asks.map yz)]
noncomputable def puT (p:Pu):FT.T:=.tup [.str p.name,.str p.earns,.int p.per]
noncomputable def qG (n:Net):FT.T:=.tup [.tup (n.hs.map hsT),.tup (n.ps.map puT)]
noncomputable abbrev nT (n:Nat):FT.T:=.int (n:Int)
theorem zqn {α:Type} {f:α->FT.T} {xs:List α} {i:Nat} {x:α} (e:xs[i]? = some x):atI (xs.map f) (i:Int) = some (f x):=by rw [FT.zR,Qa,e];rfl
noncomputable abbrev S (l:List Nat):Str:=⟨l.toArray⟩
theorem qt (l:List Nat):(S l).length = l.length:=by simp [Str.length]
theorem zeZ (z:Str):z = S z.cps.toList:=by simp
variable {l m:List Nat}
theorem zmL (h:S l = S m):l = m:=by
 have:=congrArg (fun s:Str=>s.cps.toList) h
 simpa using this
theorem zdv (l m:List Nat):S l ++ S m = S (l ++ m):=by
 show Str.append _ _ = _
 unfold Str.append
 simp
theorem sz {n:Nat} (h:n<=10000):n<=sizeLine:=by rw [sizeLine_eq];omega
theorem ad (h:l.length + m.length<=10000) (M:Mem):yg (.str (S l)) (.str (S m)) M = .ok (.str (S (l ++ m))) M:=by
 unfold yg
 dsimp only
 rw [Qw (sz (by rw [qt,qt];exact h)),zdv]
noncomputable def jn:List (List Nat)->List Nat
 | []=>[]
 | [x]=>x
 | x :: y :: r=>x ++ 32 :: jn (y :: r)
theorem zb9:∀ ps:List Str,(Str.join (S [32]) ps).cps.toList = jn (ps.map fun p=>p.cps.toList)
 | []=>rfl
 | [x]=>rfl
 | x :: y :: r=>by
  show ((x.cps ++ #[32]) ++ (Str.join (S [32]) (y :: r)).cps).toList = _
  rw [Array.toList_append,Array.toList_append,zb9 (y :: r)]
  simp [jn]
theorem zkj:∀ {ps:List (List Nat)} {p:List Nat},p ∈ ps->p.length<=(jn ps).length
 | [x],p,h=>by rw [Qz.mp h];exact Q3 _
 | x :: y :: r,p,h=>by
  rw [jn,Ql,Qn]
  rcases QA.mp h with rfl | h
  ·omega
  ·have:=zkj h
   omega
theorem zhn:∀ {p A X B:List Nat},32 ∉ p->32 ∉ A->p ++ 32 :: X = A ++ 32 :: B->p = A/\X = B
 | [],[],X,B,_,_,h=>⟨rfl,by simpa using h⟩
 | [],a :: A,X,B,_,hA,h=>by
  exfalso
  have:(32:Nat) = a:=(List.cons.inj h).1
  exact hA (by rw [← this];exact .head _)
 | a :: p,[],X,B,hp,_,h=>by
  exfalso
  have:a = (32:Nat):=(List.cons.inj h).1
  exact hp (by rw [this];exact .head _)
 | a :: p,b :: A,X,B,hp,hA,h=>by
  obtain ⟨h1,h2⟩:=List.cons.inj h
  obtain ⟨h3,h4⟩:=zhn (fun z=>hp (.tail _ z)) (fun z=>hA (.tail _ z)) h2
  exact ⟨by rw [h1,h3],h4⟩
theorem zld (x y:Str):Txt.split x y ≠ []:=by
 unfold Txt.split
 split
 ·simp
 ·split
  ·simp
  ·rw [StrLaws.partsBetween_eq]
   obtain ⟨p,q,e⟩:=StrLaws.partsFrom_ne x y.length 0 (Builtin.Str.occurrences x y 0 x.length (x.length + 1))
   rw [e]
   simp
noncomputable def spl (l:List Nat):List (List Nat):=(Txt.split (S l) (S [32])).map fun p=>p.cps.toList
theorem zqA (l:List Nat):Txt.split (S l) (S [32]) = (spl l).map S:=by
 unfold spl
 rw [QI]
 refine (map_id _).symm.trans (map_congr_left fun p _=>?_)
 show p = (⟨p.cps.toList.toArray⟩:Str)
 simp
theorem zjM (l:List Nat):spl l ≠ []:=by
 unfold spl
 intro z
 exact zld _ _ (List.map_eq_nil_iff.mp z)
theorem zle (l:List Nat):∀ p ∈ spl l,32 ∉ p:=by
 intro p hp
 obtain ⟨q,hq,rfl⟩:=QE.mp hp
 exact StrLaws.split_free (S l) 32 q hq
theorem zgE (l:List Nat):jn (spl l) = l:=by
 have:=congrArg (fun s:Str=>s.cps.toList) (StrLaws.join_split (S l) (S [32]))
 dsimp only at this
 rw [zb9] at this
 rw [show jn (spl l) = (S l).cps.toList from this]
theorem zmZ {p:List Nat} (h:p ∈ spl l):p.length<=l.length:=by
 have:=zkj h
 rwa [zgE] at this
theorem zkk:∀ {ps qs:List (List Nat)},ps ≠ []->qs ≠ []->(∀ p ∈ ps,32 ∉ p)->(∀ q ∈ qs,32 ∉ q)->jn ps = jn qs->ps = qs
 | [],_,h,_,_,_,_=>absurd rfl h
 | _,[],_,h,_,_,_=>absurd rfl h
 | [a],[b],_,_,_,_,e=>by rw [show a = b from e]
 | [a],b :: c :: r,_,_,ha,hb,e=>by
  exfalso
  have e':a = b ++ 32 :: jn (c :: r):=e
  exact ha a (.head _) (by rw [e'];simp)
 | a :: c :: r,[b],_,_,ha,hb,e=>by
  exfalso
  have e':a ++ 32 :: jn (c :: r) = b:=e
  exact hb b (.head _) (by rw [← e'];simp)
 | a :: c :: r,b :: d :: u,_,_,ha,hb,e=>by
  have e':a ++ 32 :: jn (c :: r) = b ++ 32 :: jn (d :: u):=e
  obtain ⟨h1,h2⟩:=zhn (ha a (.head _)) (hb b (.head _)) e'
  rw [h1,zkk (by simp) (by simp) (fun p hp=>ha p (.tail _ hp)) (fun q hq=>hb q (.tail _ hq)) h2]
theorem zjL {ws:List (List Nat)} (hn:ws ≠ []) (hf:∀ w ∈ ws,32 ∉ w):spl (jn ws) = ws:=zkk (zjM _) hn (zle _) hf (zgE _)
theorem neS (l m:List Nat) (M:Mem):neA (.str (S l)) (.str (S m)) M = .ok (.bl (!decide (l = m))) M:=by
 show Out.ok (FT.T.bl (!(S l == S m))) M = _
 congr 3
 by_cases h:l = m
 ·subst h;simp
 ·rw [Qv h]
  simp only [beq_eq_false_iff_ne,ne_eq]
  intro z
  injection z with z
  have:=congrArg Array.toList z
  simp at this
  exact h this
theorem zfH (l m:List Nat) (M:Mem):eqA (.str (S l)) (.str (S m)) M = .ok (.bl (decide (l = m))) M:=by
 show Out.ok (FT.T.bl (S l == S m)) M = _
 congr 2
 by_cases h:l = m
 ·subst h;simp
 ·rw [Qv h]
  simp only [beq_eq_false_iff_ne,ne_eq]
  intro z
  injection z with z
  have:=congrArg Array.toList z
  simp at this
  exact h this
theorem zkl:∀ ps:List (List Nat),ps.length<=(jn ps).length + 1
 | []=>Nat.zero_le _
 | [x]=>by simp
 | x :: y :: r=>by
  have:=zkl (y :: r)
  show (x :: y :: r).length<=(x ++ 32 :: jn (y :: r)).length + 1
  simp only [Ql,Qn] at this ⊢
  omega
noncomputable def jn2:List (List Nat)->List Nat
 | []=>[]
 | [x]=>x
 | x :: y :: r=>x ++ 59 :: 32 :: jn2 (y :: r)
theorem zeM:∀ ps:List Str,(Str.join (S [59,32]) ps).cps.toList = jn2 (ps.map fun p=>p.cps.toList)
 | []=>rfl
 | [x]=>rfl
 | x :: y :: r=>by
  show ((x.cps ++ #[59,32]) ++ (Str.join (S [59,32]) (y :: r)).cps).toList = _
  rw [Array.toList_append,Array.toList_append,zeM (y :: r)]
  simp [jn2]
noncomputable def qR (l:List Nat):List (List Nat):=(Txt.split (S l) (S [59,32])).map fun p=>p.cps.toList
theorem zoH (l:List Nat):Txt.split (S l) (S [59,32]) = (qR l).map S:=by
 unfold qR
 rw [QI]
 refine (map_id _).symm.trans (map_congr_left fun p _=>?_)
 show p = (⟨p.cps.toList.toArray⟩:Str)
 simp
theorem zfq (l:List Nat):jn2 (qR l) = l:=by
 have:=congrArg (fun s:Str=>s.cps.toList) (StrLaws.join_split (S l) (S [59,32]))
 dsimp only at this
 rw [zeM] at this
 rw [show jn2 (qR l) = (S l).cps.toList from this]
theorem ziC:∀ {ps:List (List Nat)} {p:List Nat},p ∈ ps->p.length<=(jn2 ps).length
 | [x],p,h=>by rw [Qz.mp h];exact Q3 _
 | x :: y :: r,p,h=>by
  rw [jn2,Ql,Qn,Qn]
  rcases QA.mp h with rfl | h
  ·omega
  ·have:=ziC h
   omega
theorem ziD:∀ ps:List (List Nat),ps.length<=(jn2 ps).length + 1
 | []=>Nat.zero_le _
 | [x]=>by simp
 | x :: y :: r=>by
  have:=ziD (y :: r)
  show (x :: y :: r).length<=(x ++ 59 :: 32 :: jn2 (y :: r)).length + 1
  simp only [Ql,Qn] at this ⊢
  omega
theorem zhJ (l:List Nat) (k:Nat):StrLaws.At (S l) (S [59,32]) (S l).length k ↔ ∃ r,l.drop k = 59 :: 32 :: r:=by
 unfold StrLaws.At
 rw [StrLaws.subAt_eq,qt,qt]
 show k + 2<=l.length/\((l.drop k).take 2 == [59,32]) = true ↔ _
 constructor
 ·rintro ⟨h1,h2⟩
  have h2:(l.drop k).take 2 = [59,32]:=by simpa using h2
  refine ⟨(l.drop k).drop 2,?_⟩
  conv=>lhs;rw [← List.take_append_drop 2 (l.drop k)]
  rw [h2];rfl
 ·rintro ⟨r,h⟩
  have:=congrArg List.length h
  rw [length_drop] at this
  refine ⟨by simp at this;omega,by rw [h];simp⟩
theorem zj3 {l:List Nat}:∀ {qs:List (List Nat)} {a f:Nat} {cuts:List Nat},qs ≠ []->(∀ q ∈ qs,59 ∉ q)->l.drop a = jn2 qs->a<=l.length->StrLaws.ChainG (S l) (S [59,32]) (S l).length a cuts f->(∀ k,f<=k->¬ StrLaws.At (S l) (S [59,32]) (S l).length k)->
  (StrLaws.partsFrom (S l) 2 a cuts).map (fun p=>p.cps.toList) = qs
 | [],_,_,_,hn,_,_,_,_,_=>absurd rfl hn
 | [q],a,f,cuts,_,hq,e,ha,hG,hT=>by
  have no:∀ k,a<=k->¬ StrLaws.At (S l) (S [59,32]) (S l).length k:=fun k hk z=>by
   obtain ⟨r,hr⟩:=(zhJ l k).mp z
   have:(l.drop a).drop (k - a) = 59 :: 32 :: r:=by rw [drop_drop,show a + (k - a) = k by omega];exact hr
   rw [e] at this
   have:(59:Nat) ∈ q:=mem_of_mem_drop (i:=k - a) (by show 59 ∈ q.drop (k - a);rw [show q.drop (k - a) = 59 :: 32 :: r from this];exact .head _)
   exact hq q (.head _) this
  cases cuts with
  | nil=>
   show [(Builtin.Str.strSub (S l) a (S l).length).cps.toList] = [q]
   rw [StrLaws.strSub_toList,qt]
   show [(l.drop a).take (l.length - a)] = [q]
   rw [e]
   have:(jn2 [q]).length = l.length - a:=by rw [← e,length_drop]
   rw [← this,take_length]
   rfl
  | cons c cs=>exact absurd hG.2.1 (no c hG.1)
 | q :: q' :: r,a,f,cuts,_,hq,e,ha,hG,hT=>by
  have e:l.drop a = q ++ 59 :: 32 :: jn2 (q' :: r):=e
  have hA:StrLaws.At (S l) (S [59,32]) (S l).length (a + q.length):=(zhJ l _).mpr ⟨jn2 (q' :: r),by rw [← drop_drop,e];simp⟩
  cases cuts with
  | nil=>
   have hf:f = a:=hG
   exact absurd hA (hT _ (by omega))
  | cons c cs=>
   obtain ⟨h1,h2,h3,h4⟩:=hG
   have hc:c = a + q.length:=by
    rcases Nat.lt_trichotomy c (a + q.length) with h | h | h
    ·exfalso
     obtain ⟨rr,hr⟩:=(zhJ l c).mp h2
     have:(l.drop a).drop (c - a) = 59 :: 32 :: rr:=by rw [drop_drop,show a + (c - a) = c by omega];exact hr
     rw [e,List.drop_append_of_le_length (by omega)] at this
     cases hd:q.drop (c - a) with
     | nil=>have:=congrArg List.length hd;rw [length_drop] at this;simp at this;omega
     | cons d ds=>
      rw [hd] at this
      have:d = 59:=(List.cons.inj this).1
      exact hq q (.head _) (mem_of_mem_drop (i:=c - a) (by rw [hd,this];exact .head _))
    ·exact h
    ·exact absurd hA (h3 _ (by omega) h)
   subst hc
   have hl:a + q.length + 2<=l.length:=by have:=h2.1;rwa [qt] at this
   show (Builtin.Str.strSub (S l) a (a + q.length)).cps.toList :: (StrLaws.partsFrom (S l) 2 (a + q.length + 2) cs).map (fun p=>p.cps.toList) = _
   rw [StrLaws.strSub_toList,zj3 (qs:=q' :: r) (by simp) (fun x hx=>hq x (.tail _ hx)) (by rw [show a + q.length + 2 = a + (q.length + 2) by omega,← drop_drop,e];simp) hl h4 hT]
   congr 1
   show (l.drop a).take (a + q.length - a) = q
   rw [e,show a + q.length - a = q.length by omega]
   simp
theorem zib {qs:List (List Nat)} (hn:qs ≠ []) (hq:∀ q ∈ qs,59 ∉ q):qR (jn2 qs) = qs:=by
 obtain ⟨f,hG,hT⟩:=StrLaws.occ_tight (S (jn2 qs)) (S [59,32]) (by decide)
 have key:=zj3 (l:=jn2 qs) hn hq (by simp) (Nat.zero_le _) hG hT
 have one:StrLaws.partsFrom (S (jn2 qs)) 2 0 [] = [S (jn2 qs)]:=by
  show [Builtin.Str.strSub (S (jn2 qs)) 0 (S (jn2 qs)).length] = _
  rw [StrLaws.sub_whole]
 unfold qR Txt.split
 split
 ·rename_i h
  rw [Bool.or_eq_true] at h
  rcases h with h | h
  ·have h:=QB h
   have h:(jn2 qs).length < 2:=by rw [qt] at h;exact h
   match qs,hn,h with
   | [q],_,_=>rfl
   | x :: y :: r,_,h=>rw [jn2] at h;simp at h;omega
  ·have h:=QB h
   have e1:Builtin.Str.strKind (S [59,32]) = Builtin.Str.strKind (S []):=by decide +kernel
   rw [e1] at h
   exact absurd h (by unfold Builtin.Str.strKind;simp;split <;> (try split) <;> simp)
 ·split
  ·rename_i h1 h2
   have:Builtin.Str.occurrences (S (jn2 qs)) (S [59,32]) 0 (S (jn2 qs)).length ((S (jn2 qs)).length + 1) = []:=List.isEmpty_iff.mp h2
   rw [this,one] at key
   exact key
  ·rw [StrLaws.partsBetween_eq]
   exact key
end My
namespace FT
open PySem L2
variable {σ:Ev} {q:Ev->Mem->Out Fl} {M:Mem}
theorem Ok.seqX {p:Ev->Mem->Out Fl} {Q:Fl->Mem->Prop} (h:∀ X,X = za6 q->Ok ((p σ M).bind X) Q):Ok (zg p q σ M) Q:=h _ rfl
theorem Ok.seqR {p:Ev->Mem->Out Fl} {Q:T->Mem->Prop} (h:∀ X,X = (fun fl M=>(za6 q fl M).bind zbl)->Ok ((p σ M).bind X) Q):Ok ((zg p q σ M).bind zbl) Q:=by
 have:=h _ rfl
 unfold zg
 rw [zhC]
 exact this
end FT
namespace My
open PySem L2 FT
theorem zbb (i j:Int) (M:Mem):leU (.int i) (.int j) M = .ok (.bl (decide (i<=j))) M:=rfl
theorem ze5 (c d:Nat):([c] < [d]) ↔ c < d:=by simp [List.cons_lt_cons_iff]
theorem le_lo (c:Nat) (M:Mem):leU (.str "a") (.str (S [c])) M = .ok (.bl (decide (97<=c))) M:=by
 show Out.ok (FT.T.bl (!decide ([c] < [97]))) M = _
 rw [show decide ([c] < [97]) = decide (c < 97) from by simp only [ze5]]
 by_cases h:c < 97
 ·rw [Qu h,Qv (by omega)];rfl
 ·rw [Qv h,Qu (by omega)];rfl
theorem zmC (c:Nat) (M:Mem):leU (.str (S [c])) (.str "z") M = .ok (.bl (decide (c<=122))) M:=by
 show Out.ok (FT.T.bl (!decide ([122] < [c]))) M = _
 rw [show decide ([122] < [c]) = decide (122 < c) from by simp only [ze5]]
 by_cases h:122 < c
 ·rw [Qu h,Qv (by omega)];rfl
 ·rw [Qv h,Qu (by omega)];rfl
variable {l:List Nat}
theorem zlO (h:l.length<=10000) (M:Mem):zC (.str (S l)) M = .ok (.int (l.length:Int)) M:=by
 unfold zC
 dsimp only
 rw [qt,Qw (sz h)]
theorem zgG (l:List Nat):sgT (S l) = l.map fun c=>FT.T.str (S [c]):=by
 unfold sgT
 simp
noncomputable def isL (c:Nat):Bool:=decide (97<=c/\c<=122)
noncomputable def isW (l:List Nat):Bool:=decide (1<=l.length/\l.length<=8) && l.all isL
theorem isS (l:List Nat) (M:Mem):qv (.str (S l)) (.ty "str") M = .ok (.bl true) M:=rfl
theorem zmM (hl:l.length<=2000) (M:Mem):yF [.str (S l)] M = .ok (.bl (isW l)) M:=by
 have key:Ok (yF [.str (S l)] M) fun t M'=>t = .bl (isW l)/\M' = M:=by
  refine qu rfl ?_
  unfold zaq
  have ln:=zlO (l:=l) (by omega) M
  have cp:yt (qf 0) zw (qU leU leU (eC (.str "a")) (yb 0) (eC (.str "z"))) (l.map fun c=>FT.T.str (S [c])) [none] M [] = .ok (l.map fun c=>.bl (isL c)) M:=
   Ok.mapc (r:=fun c=>FT.T.str (S [c])) (fun σ=>∃ o,σ = [o]) _ ⟨_,rfl⟩ (by omega) (by
    rintro c σ _ ⟨o,rfl⟩
    refine ⟨[some (.str (S [c]))],rfl,⟨_,rfl⟩,?_⟩
    unfold isL
    by_cases h1:97<=c
    ·by_cases h2:c<=122
     ·simp_arith [le_lo,zmC,Qu h1,Qu h2]
      rw [Qu ⟨h1,h2⟩]
     ·simp_arith [le_lo,zmC,Qu h1,Qv h2]
      rw [Qv (fun z=>h2 z.2)]
    ·simp_arith [le_lo,Qv h1]
     rw [Qv (fun z=>h1 z.1)])
  have al:=zbt isL l M
  by_cases h1:1<=l.length
  ·by_cases h2:l.length<=8
   ·simp_arith [isS,zbb,ln,Qu (show (1:Int)<=(l.length:Int) by omega),Qu (show (l.length:Int)<=8 by omega),iTx,zgG,cp,al]
    exact Ok.ret ⟨by unfold isW;rw [Qu ⟨h1,h2⟩];rfl,rfl⟩
   ·simp_arith [isS,zbb,ln,Qu (show (1:Int)<=(l.length:Int) by omega),Qv (show ¬ (l.length:Int)<=8 by omega)]
    exact Ok.ret ⟨by unfold isW;rw [Qv (fun z=>h2 z.2)];rfl,rfl⟩
  ·simp_arith [isS,zbb,ln,Qv (show ¬ (1:Int)<=(l.length:Int) by omega)]
   exact Ok.ret ⟨by unfold isW;rw [Qv (fun z=>h1 z.1)];rfl,rfl⟩
 obtain ⟨t,M',e,rfl,rfl⟩:=key
 exact e
theorem adE {m:List Nat} (h:l.length + m.length<=10000) (M:Mem):yg (.str (S l)) (.str (S m)) M = .ok (.str (S (l ++ m))) M:=by
 unfold yg
 dsimp only
 rw [Qw (sz (by rw [qt,qt];exact h))]
 congr 2
 show Str.append _ _ = _
 unfold Str.append
 simp
theorem zgD (zs:List Str):zeD (zs.map FT.T.str) = some zs:=by
 induction zs with
 | nil=>rfl
 | cons z zs ih=>simp only [QF,zeD,ih,Option.map_some]
theorem zJ (x:Str) (M:Mem):isStr (.str x) M = true:=rfl
theorem zkw:∀ (cs:List Nat) (acc:Array Nat),(cs.map fun c=>S [c]).foldl (fun acc p=>acc ++ (Str.ofString "").cps ++ p.cps) acc = acc ++ cs.toArray
 | [],acc=>by simp
 | c :: cs,acc=>by
  rw [QF,foldl_cons,zkw cs]
  simp [show (Str.ofString "").cps = #[] by decide]
theorem zqZ (cs:List Nat):Txt.join "" (cs.map fun c=>S [c]) = S cs:=by
 unfold Txt.join Builtin.Str.glued
 cases cs with
 | nil=>rfl
 | cons c cs=>
  show Str.mk _ = _
  congr 1
  rw [QF,List.headD_cons,List.drop_succ_cons,List.drop_zero,zkw]
  simp
theorem join_eq {cs:List Nat} (h:cs.length<=10) (M:Mem):yP (.str "") [.lst (cs.map fun c=>.str (S [c]))] M = .ok (.str (S cs)) M:=by
 have e:(cs.map fun c=>FT.T.str (S [c])) = (cs.map fun c=>S [c]).map FT.T.str:=by rw [QI];rfl
 have hs:((cs.map fun c=>S [c]).map (·.length)).sum = cs.length:=by
  clear h e
  induction cs with
  | nil=>rfl
  | cons c cs ih=>simp only [QF,sum_cons,Qn,ih];show 1 + cs.length = _;omega
 rw [e]
 unfold yP
 simp only [zv,zgD]
 rw [Qw (by rw [hs,show (Str.ofString "").length = 0 from rfl];omega),zqZ]
theorem zqB:∀ n:Nat,n < 7->∀ a:Nat,a < n + 1->Builtin.Str.strSliceIndices none (some (a:Int)) 1 n = List.range a:=by decide +kernel
theorem zqC:∀ n:Nat,n < 7->∀ a:Nat,a < n + 1->Builtin.Str.strSliceIndices (some (a:Int)) none 1 n = (List.range (n - a)).map (· + a):=by decide +kernel
theorem zqq:∀ n:Nat,n < 26->atI (Str.ofString "abcdefghijklmnopqrstuvwxyz").cps.toList (n:Int) = some (97 + n):=by decide +kernel
theorem zbM (r:List Nat):∀ n,(List.range n).filterMap (fun k=>r[k]?) = r.take n
 | 0=>by simp
 | n + 1=>by
  rw [List.range_succ,List.filterMap_append,zbM r n,take_succ]
  congr 1
theorem zqk (hl:l.length<=6) {a:Nat} (ha:a<=l.length) (M:Mem):zbH (.str (S l)) none (some (a:Int)) M = .ok (.str (S (l.take a))) M:=by
 have e:Txt.slice (S l) none (some (a:Int)) = S (l.take a):=by
  unfold Txt.slice
  rw [qt,zqB _ (by omega) a (by omega),length_range]
  split
  ·rename_i h
   have:a = l.length:=by simpa using h
   rw [this,take_length]
  ·congr 1
   rw [show (fun x=>(S l).cps[x]?) = fun k=>l[k]? from by funext k;simp,zbM]
 unfold zbH
 dsimp only
 rw [Qw (sz (by rw [qt];omega)),e]
theorem zql (hl:l.length<=6) {a:Nat} (ha:a<=l.length) (M:Mem):zbH (.str (S l)) (some (a:Int)) none M = .ok (.str (S (l.drop a))) M:=by
 have e:Txt.slice (S l) (some (a:Int)) none = S (l.drop a):=by
  unfold Txt.slice
  rw [qt,zqC _ (by omega) a (by omega),Qf,length_range]
  split
  ·rename_i h
   have:a = 0:=by simp at h;omega
   rw [this,List.drop_zero]
  ·congr 1
   rw [List.filterMap_map,show ((fun x=>(S l).cps[x]?) ∘ fun x=>x + a) = fun k=>(l.drop a)[k]? from by funext k;simp [Nat.add_comm],zbM]
   rw [List.take_of_length_le (by rw [length_drop];omega)]
 unfold zbH
 dsimp only
 rw [Qw (sz (by rw [qt];omega)),e]
theorem zha {d:Int} (h0:0<=d) (h:d < 26) (M:Mem):ixS (.str "abcdefghijklmnopqrstuvwxyz") (.int d) M = .ok (.str (S [97 + d.toNat])) M:=by
 obtain ⟨n,rfl⟩:∃ n:Nat,d = n:=⟨d.toNat,by omega⟩
 unfold ixS
 simp only [zqq n (by omega)]
 exact Qw (sz (by decide))
theorem zhs {α:Type} (f:α->FT.T) (xs:List α) (k:Nat):zcG (xs.map f) (some (k:Int)) none = (xs.drop k).map f:=by
 unfold zcG
 rw [HT.zm4,HT.zlj,Qf,← map_drop,← map_take]
 congr 1
 by_cases h:k<=xs.length
 ·rw [Nat.min_eq_left h,List.take_of_length_le (by rw [length_drop];omega)]
 ·rw [Nat.min_eq_right (by omega),List.drop_of_length_le (Q3 _),List.drop_of_length_le (by omega)]
  simp
noncomputable def plT:FT.T->Bool
 | .non=>true
 | .bl _=>true
 | .int _=>true
 | .str z=>decide (z.length<=2000)
 | .tup xs=>decide (xs.length<=100)
 | .lst _=>true
 | _=>false
noncomputable def zdD (t:FT.T) (k:Nat):Bool:=match t with
 | .tup xs=>decide (xs.length = k)
 | _=>false
noncomputable def zmr:FT.T->Bool
 | .str z=>isW z.cps.toList
 | _=>false
noncomputable def zav (t:FT.T) (lo hi:Int):Bool:=match t with
 | .int i=>decide (lo<=i/\i<=hi)
 | _=>false
variable {kE kR:Addr} {t:FT.T}
section
theorem zdV (h:plT t = true) (M:Mem):qv t (.ty "tuple") M = .ok (.bl (match t with | .tup _=>true | _=>false)) M:=by cases t <;> first | rfl | cases h
theorem zkq (h:plT t = true) (M:Mem):qv t (.ty "int") M = .ok (.bl (match t with | .int _=>true | .bl _=>true | _=>false)) M:=by cases t <;> first | rfl | cases h
theorem zdW (h:plT t = true) (M:Mem):qv t (.ty "bool") M = .ok (.bl (match t with | .bl _=>true | _=>false)) M:=by cases t <;> first | rfl | cases h
theorem zbA (h:plT t = true) (M:Mem):qv t (.ty "str") M = .ok (.bl (match t with | .str _=>true | _=>false)) M:=by cases t <;> first | rfl | cases h
theorem zc2 (h:plT t = true) (k:Nat) (M:Mem):qr [t,.int (k:Int)] M = .ok (.bl (zdD t k)) M:=by
 have i:=zdV h M
 unfold qr zdw
 cases t with
 | tup xs=>
  simp_arith [i]
  unfold zdD
  congr 2
  rw [show ((xs.length:Int) == (k:Int)) = decide ((xs.length:Int) = (k:Int)) from rfl]
  exact decide_eq_decide.mpr (by omega)
 | non=>simp_arith [i];rfl
 | bl b=>simp_arith [i];rfl
 | int b=>simp_arith [i];rfl
 | str b=>simp_arith [i];rfl
 | lst b=>simp_arith [i];rfl
 | _=>cases h
theorem zow (h:plT t = true) (M:Mem):yF [t] M = .ok (.bl (zmr t)) M:=by
 cases t with
 | str z=>
  have hl:z.length<=2000:=QB h
  have:=zmM (l:=z.cps.toList) (by simpa [Str.length] using hl) M
  rw [← zeZ] at this
  exact this
 | tup xs=>have i:=zbA h M;unfold yF zaq;simp_arith [i];rfl
 | non=>have i:=zbA h M;unfold yF zaq;simp_arith [i];rfl
 | bl b=>have i:=zbA h M;unfold yF zaq;simp_arith [i];rfl
 | int b=>have i:=zbA h M;unfold yF zaq;simp_arith [i];rfl
 | lst b=>have i:=zbA h M;unfold yF zaq;simp_arith [i];rfl
 | _=>cases h
theorem zk2 (h:plT t = true) (M:Mem):zbc [t] M = .ok (.bl (match t with | .int _=>true | _=>false)) M:=by
 have i:=zkq h M
 have j:=zdW h M
 unfold zbc zfa
 cases t with
 | tup xs=>simp_arith [i]
 | non=>simp_arith [i]
 | bl b=>simp_arith [i,j]
 | int b=>simp_arith [i,j]
 | lst b=>simp_arith [i]
 | str b=>simp_arith [i]
 | _=>cases h
theorem zfO (h:plT t = true) (lo hi:Int) (M:Mem):yK [t,.int lo,.int hi] M = .ok (.bl (zav t lo hi)) M:=by
 have i:=zk2 h M
 unfold yK zeu
 cases t with
 | int b=>
  by_cases h1:lo<=b
  ·simp_arith [i,Qu h1]
   unfold zav
   congr 2
   exact decide_eq_decide.mpr ⟨fun z=>⟨h1,z⟩,fun z=>z.2⟩
  ·simp_arith [i,Qv h1]
   show Out.ok (FT.T.bl false) M = .ok (.bl (decide (lo<=b/\b<=hi))) M
   rw [Qv fun z=>h1 z.1]
 | tup xs=>simp_arith [i];rfl
 | non=>simp_arith [i];rfl
 | bl b=>simp_arith [i];rfl
 | lst b=>simp_arith [i];rfl
 | str b=>simp_arith [i];rfl
 | _=>cases h
end
noncomputable def hdT:FT.T->FT.T
 | .tup (x :: _)=>x
 | _=>.non
noncomputable def nmT (t:FT.T):Str:=match hdT t with
 | .str z=>z
 | _=>""
noncomputable def zaT (size:Nat) (o:FT.T):Bool:=zdD o size && zmr (hdT o)
noncomputable def zH (t:FT.T) (size lo hi:Nat):Bool:=match t with
 | .tup xs=>decide (lo<=xs.length/\xs.length<=hi) && (xs.all (zaT size) && decide (xs.map nmT).Nodup)
 | _=>false
theorem zg4:∀ (ss acc:List Str),acc.Nodup->((ss.foldl zdh acc).length = acc.length + ss.length ↔ ss.Nodup/\∀ x ∈ ss,x ∉ acc)/\(ss.foldl zdh acc).length<=acc.length + ss.length
 | [],acc,_=>by simp
 | x :: ss,acc,h=>by
  rw [foldl_cons]
  by_cases hx:x ∈ acc
  ·rw [show zdh acc x = acc from Qw hx]
   obtain ⟨h1,h2⟩:=zg4 ss acc h
   refine ⟨⟨fun z=>?_,fun z=>absurd hx (z.2 x (.head _))⟩,by rw [Qn];omega⟩
   rw [Qn] at z
   omega
  ·rw [show zdh acc x = acc ++ [x] from Qy hx]
   have hn:(acc ++ [x]).Nodup:=by
    rw [nodup_append]
    exact ⟨h,by simp,fun a ha b hb=>by rw [Qz.mp hb];rintro rfl;exact hx ha⟩
   obtain ⟨h1,h2⟩:=zg4 ss (acc ++ [x]) hn
   rw [Ql,Qs] at h1 h2
   rw [Qn,show acc.length + (ss.length + 1) = acc.length + 1 + ss.length by omega,h1,nodup_cons]
   refine ⟨⟨fun ⟨z1,z2⟩=>⟨⟨fun q=>z2 x q (by simp),z1⟩,fun y hy=>?_⟩,fun ⟨⟨z1,z2⟩,z3⟩=>⟨z2,fun y hy=>?_⟩⟩,h2⟩
   ·rcases QA.mp hy with rfl | hy
    ·exact hx
    ·exact fun q=>z2 y hy (by simp [q])
   ·rw [QC,not_or]
    exact ⟨z3 y (.tail _ hy),fun q=>by rw [Qz.mp q] at hy;exact z1 hy⟩
theorem zpx (ss:List Str):decide (((met ss).length:Int) = (ss.length:Int)) = decide ss.Nodup:=by
 have:=(zg4 ss [] .nil).1
 refine decide_eq_decide.mpr ?_
 rw [length_nil,Nat.zero_add] at this
 unfold met
 constructor
 ·intro h;exact (this.mp (by omega)).1
 ·intro h
  have:=this.mpr ⟨h,fun x _=>by simp⟩
  omega
theorem zjJ (ss:List Str):zc3 (ss.map FT.T.str) = some ss:=by
 induction ss with
 | nil=>rfl
 | cons z zs ih=>simp only [QF,zc3,ih,Option.map_some]
section
theorem zb5 {size:Nat} (hs:0 < size) {o:FT.T} (h:zaT size o = true):∃ r,o = .tup (.str (nmT o) :: r)/\r.length + 1 = size:=by
 unfold zaT at h
 rw [Qq] at h
 obtain ⟨h1,h2⟩:=h
 cases o with
 | tup xs=>
  have h1:xs.length = size:=QB h1
  cases xs with
  | nil=>simp at h1;omega
  | cons x r=>
   cases x with
   | str z=>exact ⟨r,rfl,by simpa using h1⟩
   | _=>cases h2
 | _=>cases h1
theorem named_eq (hp:plT t = true) {size lo hi:Nat} (hs:0 < size) (hq:∀ xs,t = .tup xs->∀ o ∈ xs,plT o = true/\(∀ x r,o = .tup (x :: r)->plT x = true)) (M:Mem) :
  yD [t,.int (size:Int),.int (lo:Int),.int (hi:Int)] M = .ok (.bl (zH t size lo hi)) M:=by
 have key:Ok (yD [t,.int (size:Int),.int (lo:Int),.int (hi:Int)] M) fun r M'=>r = .bl (zH t size lo hi)/\M' = M:=by
  refine qu rfl ?_
  unfold zev
  have i:=zdV hp M
  rw [show startT 4 [t,.int (size:Int),.int (lo:Int),.int (hi:Int)] = [some t,some (.int (size:Int)),some (.int (lo:Int)),some (.int (hi:Int))] from rfl]
  cases t with
  | tup xs=>
   have hl:xs.length<=100:=QB hp
   have hq:=hq xs rfl
   by_cases h1:lo<=xs.length
   ·by_cases h2:xs.length<=hi
    ·have cp:yt (qf 0) zw (zaX (qd (qr) (zb (yb 0) (zb (yb 1) qc))) (qd (yF) (zb (eOp ixT (yb 0) (eC (.int 0))) qc))) xs [none,some (.int (size:Int))] M [] = .ok (xs.map fun o=>.bl (zaT size o)) M:=by
      have:=Ok.mapc (r:=fun x:FT.T=>x) (bd:=qf 0) (el:=zaX (qd (qr) (zb (yb 0) (zb (yb 1) qc))) (qd (yF) (zb (eOp ixT (yb 0) (eC (.int 0))) qc))) (M:=M) (fun σ=>∃ o,σ = [o,some (.int (size:Int))]) (fun o=>FT.T.bl (zaT size o)) (xs:=xs) (σ:=[none,some (.int (size:Int))]) ⟨_,rfl⟩ (by omega) (by
       rintro o σ ho ⟨o',rfl⟩
       refine ⟨[some o,some (.int (size:Int))],rfl,⟨_,rfl⟩,?_⟩
       obtain ⟨q1,q2⟩:=hq o ho
       cases hb:zdD o size with
       | false=>
        have tt:=zc2 q1 size M
        rw [hb] at tt
        simp_arith [tt]
        unfold zaT
        rw [hb]
        rfl
       | true=>
        have tt:=zc2 q1 size M
        rw [hb] at tt
        cases o with
        | tup ys=>
         have hy:ys.length = size:=QB hb
         cases ys with
         | nil=>simp at hy;omega
         | cons y ys=>
          simp_arith [tt,zow (q2 y ys rfl) M]
          unfold zaT
          rw [hb]
          rfl
        | _=>cases hb)
      rw [show xs.map (fun x:FT.T=>x) = xs from map_id' xs] at this
      exact this
     simp_arith [i,Qu (show (lo:Int)<=(xs.length:Int) by omega),Qu (show (xs.length:Int)<=(hi:Int) by omega),cp,zbt]
     cases ha:xs.all (zaT size) with
     | false=>
      simp_arith [and_self]
      refine Ok.ret ⟨?_,rfl⟩
      show _ = FT.T.bl (decide (lo<=xs.length/\xs.length<=hi) && (xs.all (zaT size) && _))
      rw [ha,Bool.false_and,Bool.and_false]
     | true=>
      have hw:=QD.mp ha
      have c2:yt (qf 0) zw (eOp ixT (yb 0) (eC (.int 0))) xs [none] M [] = .ok ((xs.map nmT).map .str) M:=by
       have:=Ok.mapc (r:=fun x:FT.T=>x) (bd:=qf 0) (el:=eOp ixT (yb 0) (eC (.int 0))) (M:=M) (fun σ=>∃ o,σ = [o]) (fun o=>FT.T.str (nmT o)) (xs:=xs) (σ:=[none]) ⟨_,rfl⟩ (by omega) (by
        rintro o σ ho ⟨o',rfl⟩
        refine ⟨[some o],rfl,⟨_,rfl⟩,?_⟩
        obtain ⟨r,hr,_⟩:=zb5 hs (hw o ho)
        rw [hr]
        simp_arith [and_self]
        rfl)
       rw [show xs.map (fun x:FT.T=>x) = xs from map_id' xs] at this
       rw [QI]
       exact this
      have ls:zby [.lst ((xs.map nmT).map .str)] M = .ok (.int ((met (xs.map nmT)).length:Int)) M:=by
       unfold zby zv
       simp only [zjJ]
       rw [Qw (by rw [Qf];omega)]
      simp_arith [c2,ls]
      refine Ok.ret ⟨?_,rfl⟩
      show FT.T.bl (decide (((met (xs.map nmT)).length:Int) = (xs.length:Int))) = FT.T.bl (decide (lo<=xs.length/\xs.length<=hi) && (xs.all (zaT size) && _))
      rw [ha,show decide (lo<=xs.length/\xs.length<=hi) = true from Qu ⟨h1,h2⟩,Bool.true_and,Bool.true_and,← zpx,Qf]
    ·simp_arith [i,Qu (show (lo:Int)<=(xs.length:Int) by omega),Qv (show ¬ (xs.length:Int)<=(hi:Int) by omega)]
     refine Ok.ret ⟨?_,rfl⟩
     show _ = FT.T.bl (decide (lo<=xs.length/\xs.length<=hi) && _)
     rw [Qv fun z=>h2 z.2,Bool.false_and]
   ·simp_arith [i,Qv (show ¬ (lo:Int)<=(xs.length:Int) by omega)]
    refine Ok.ret ⟨?_,rfl⟩
    show _ = FT.T.bl (decide (lo<=xs.length/\xs.length<=hi) && _)
    rw [Qv fun z=>h1 z.1,Bool.false_and]
  | non=>simp_arith [i];exact Ok.ret ⟨rfl,rfl⟩
  | bl b=>simp_arith [i];exact Ok.ret ⟨rfl,rfl⟩
  | int b=>simp_arith [i];exact Ok.ret ⟨rfl,rfl⟩
  | str b=>simp_arith [i];exact Ok.ret ⟨rfl,rfl⟩
  | lst b=>simp_arith [i];exact Ok.ret ⟨rfl,rfl⟩
  | _=>cases hp
 obtain ⟨t',M',e,rfl,rfl⟩:=key
 exact e
end
noncomputable def blB:FT.T->Bool
 | .bl _=>true
 | _=>false
noncomputable def yL (ss:List Str) (t:FT.T):Bool:=ss.any fun s=>eqS (.str s) t
noncomputable def zbI (later pn:List Str) (t:FT.T):Bool:=match t with
 | .tup [a0,a1,a2,a3,a4,a5]=>yL later a0 && (zav a1 0 4 && ((zdf a2 || yL pn a2) && (yL ["bad","spent"] a3 && (blB a4 && blB a5))))
 | _=>false
structure AP (t:FT.T):Prop where
 pl:plT t = true
 six:∀ a0 a1 a2 a3 a4 a5,t = .tup [a0,a1,a2,a3,a4,a5]->qM a0 = true/\plT a1 = true/\qM a2 = true/\qM a3 = true/\plT a4 = true/\plT a5 = true
theorem zrY {α:Type} {xs:List α} (h:xs.length = 6):∃ a0 a1 a2 a3 a4 a5,xs = [a0,a1,a2,a3,a4,a5]:=by
 match xs,h with
 | [a0,a1,a2,a3,a4,a5],_=>exact ⟨a0,a1,a2,a3,a4,a5,rfl⟩
theorem zop (ss:List Str):(ss.map FT.T.str).all qM = true:=by
 rw [all_map]
 exact QD.mpr fun _ _=>rfl
variable {ss:List Str}
theorem zmB (h:qM t = true) (M:Mem):zfA t (.lst (ss.map .str)) M = .ok (.bl (!yL ss t)) M:=by
 show (if (qM t && (ss.map FT.T.str).all qM) = true then Out.ok (FT.T.bl (!(ss.map FT.T.str).any fun y=>eqS y t)) M else .bad) = _
 rw [h,zop,Qw (by decide),List.any_map]
 rfl
theorem zmG {s1 s2:Str} (h:qM t = true) (M:Mem):inA t (.tup [.str s1,.str s2]) M = .ok (.bl (yL [s1,s2] t)) M:=by
 show (if (qM t && _) = true then Out.ok (FT.T.bl ([FT.T.str s1,.str s2].any fun y=>eqS y t)) M else .bad) = _
 rw [h]
 rfl
section
theorem zqp (h:AP t) (later pn:List Str) (M:Mem):zaV [t,.lst (later.map .str),.lst (pn.map .str)] M = .ok (.bl (zbI later pn t)) M:=by
 have key:Ok (zaV [t,.lst (later.map .str),.lst (pn.map .str)] M) fun r M'=>r = .bl (zbI later pn t)/\M' = M:=by
  refine qu rfl ?_
  unfold zhj
  rw [show startT 3 [t,.lst (later.map .str),.lst (pn.map .str)] = [some t,some (.lst (later.map .str)),some (.lst (pn.map .str))] from rfl]
  have tt:=zc2 h.pl 6 M
  cases hb:zdD t 6 with
  | false=>
   rw [hb] at tt
   simp_arith [show qr [t,.int 6] M = .ok (.bl false) M from tt]
   refine Ok.ret ⟨?_,rfl⟩
   have:zbI later pn t = false:=by
    unfold zbI
    split
    ·exact absurd hb (by simp [zdD])
    ·rfl
   rw [this]
  | true=>
   rw [hb] at tt
   cases t with
   | tup xs=>
    obtain ⟨a0,a1,a2,a3,a4,a5,rfl⟩:=zrY (QB hb)
    obtain ⟨s0,p1,s2,s3,p4,p5⟩:=h.six a0 a1 a2 a3 a4 a5 rfl
    have z4:atI [a0,a1,a2,a3,a4,a5] 4 = some a4:=by have:=zR (xs:=[a0,a1,a2,a3,a4,a5]) (n:=4);exact this
    have z5:atI [a0,a1,a2,a3,a4,a5] 5 = some a5:=by have:=zR (xs:=[a0,a1,a2,a3,a4,a5]) (n:=5);exact this
    have t6:qr [.tup [a0,a1,a2,a3,a4,a5],.int 6] M = .ok (.bl true) M:=tt
    have n0:=zmB (ss:=later) s0 M
    have n2:=zmB (ss:=pn) s2 M
    have w1:=zfO p1 0 4 M
    have i3:=zmG (s1:="bad") (s2:="spent") s3 M
    have b4:qv a4 (.ty "bool") M = .ok (.bl (blB a4)) M:=(zdW p4 M).trans (by cases a4 <;> rfl)
    have b5:qv a5 (.ty "bool") M = .ok (.bl (blB a5)) M:=(zdW p5 M).trans (by cases a5 <;> rfl)
    have nn:zcq a2 .non M = .ok (.bl (!zdf a2)) M:=rfl
    show Ok _ fun r M'=>r = FT.T.bl (yL later a0 && (zav a1 0 4 && ((zdf a2 || yL pn a2) && (yL ["bad","spent"] a3 && (blB a4 && blB a5)))))/\M' = M
    cases e0:yL later a0 with
    | false=>rw [e0] at n0;simp_arith [t6,n0];exact Ok.ret ⟨rfl,rfl⟩
    | true=>
     rw [e0] at n0
     cases e1:zav a1 0 4 with
     | false=>rw [e1] at w1;simp_arith [t6,n0,w1];exact Ok.ret ⟨rfl,rfl⟩
     | true=>
      rw [e1] at w1
      have rest:∀ X:Fl->Mem->Out FT.T,(X = fun fl M=>(za6 (yu (zaX (eOp inA (eOp ixT (yb 0) (eC (.int 3))) (zY (zb (eC (.str "bad")) (zb (eC (.str "spent")) qc)))) (zaX (qd (call2 qv) (zb (eOp ixT (yb 0) (eC (.int 4))) (zb (eC (.ty "bool")) qc))) (qd (call2 qv) (zb (eOp ixT (yb 0) (eC (.int 5))) (zb (eC (.ty "bool")) qc)))))) fl M).bind zbl)->Ok (X (.nx [some (.tup [a0,a1,a2,a3,a4,a5]),some (.lst (later.map .str)),some (.lst (pn.map .str))]) M) fun r M'=>r = FT.T.bl (yL ["bad","spent"] a3 && (blB a4 && blB a5))/\M' = M:=by
       intro X hX
       rw [hX]
       clear hX
       simp only [zh]
       cases e3:yL ["bad","spent"] a3 with
       | false=>rw [e3] at i3;simp_arith [i3];exact Ok.ret ⟨rfl,rfl⟩
       | true=>
        rw [e3] at i3
        cases e4:blB a4 with
        | false=>rw [e4] at b4;simp_arith [i3,z4,b4];exact Ok.ret ⟨rfl,rfl⟩
        | true=>rw [e4] at b4;simp_arith [i3,z4,b4,z5,b5];exact Ok.ret ⟨rfl,rfl⟩
      refine Ok.seqR fun X hX=>?_
      simp_arith [t6,n0,w1]
      rw [hX];clear hX;simp only [zh]
      refine Ok.seqR fun X hX=>?_
      cases e2:zdf a2 with
      | true=>
       rw [e2] at nn
       simp_arith [nn]
       exact rest _ hX
      | false=>
       rw [e2] at nn
       cases e2':yL pn a2 with
       | true=>
        rw [e2'] at n2
        simp_arith [nn,n2]
        exact rest _ hX
       | false=>
        rw [e2'] at n2
        simp_arith [nn,n2]
        rw [hX]
        clear hX
        simp only [zk9]
        simp_arith [and_self]
        exact Ok.ret ⟨rfl,rfl⟩
   | _=>cases hb
 obtain ⟨t',M',e,rfl,rfl⟩:=key
 exact e
end
noncomputable def zel (later pn:List Str) (t:FT.T):Bool:=match t with
 | .tup xs=>decide (xs.length<=3) && xs.all (zbI later pn)
 | _=>false
structure ASP (t:FT.T):Prop where
 pl:plT t = true
 el:∀ xs,t = .tup xs->∀ q ∈ xs,AP q
section
theorem zom (h:ASP t) (later pn:List Str) (M:Mem):zaE [t,.lst (later.map .str),.lst (pn.map .str)] M = .ok (.bl (zel later pn t)) M:=by
 have key:Ok (zaE [t,.lst (later.map .str),.lst (pn.map .str)] M) fun r M'=>r = .bl (zel later pn t)/\M' = M:=by
  refine qu rfl ?_
  unfold zfc
  rw [show startT 3 [t,.lst (later.map .str),.lst (pn.map .str)] = [some t,some (.lst (later.map .str)),some (.lst (pn.map .str))] from rfl]
  have i:=zdV h.pl M
  have hpl:=h.pl
  cases t with
  | tup xs=>
   have hl:xs.length<=100:=QB hpl
   show Ok _ fun r M'=>r = FT.T.bl (decide (xs.length<=3) && xs.all (zbI later pn))/\M' = M
   by_cases h3:xs.length<=3
   ·have cp:yt (qf 0) zw (qd (zaV) (zb (yb 0) (zb (yb 1) (zb (yb 2) qc)))) xs [none,some (.lst (later.map .str)),some (.lst (pn.map .str))] M [] = .ok (xs.map fun o=>.bl (zbI later pn o)) M:=by
     have:=Ok.mapc (r:=fun x:FT.T=>x) (bd:=qf 0) (el:=qd (zaV) (zb (yb 0) (zb (yb 1) (zb (yb 2) qc)))) (M:=M) (fun σ=>∃ o,σ = [o,some (.lst (later.map .str)),some (.lst (pn.map .str))]) (fun o=>FT.T.bl (zbI later pn o)) (xs:=xs) (σ:=[none,some (.lst (later.map .str)),some (.lst (pn.map .str))]) ⟨_,rfl⟩ (by omega) (by
      rintro o σ ho ⟨o',rfl⟩
      refine ⟨[some o,some (.lst (later.map .str)),some (.lst (pn.map .str))],rfl,⟨_,rfl⟩,?_⟩
      simp_arith [zqp (h.el xs rfl o ho) later pn M])
     rw [show xs.map (fun x:FT.T=>x) = xs from map_id' xs] at this
     exact this
    simp_arith [i,Qv (show ¬ (3:Int) < (xs.length:Int) by omega),cp,zbt]
    exact Ok.ret ⟨by rw [Qu h3];rfl,rfl⟩
   ·simp_arith [i,Qu (show (3:Int) < (xs.length:Int) by omega)]
    exact Ok.ret ⟨by rw [Qv h3];rfl,rfl⟩
  | non=>simp_arith [i];exact Ok.ret ⟨rfl,rfl⟩
  | bl b=>simp_arith [i];exact Ok.ret ⟨rfl,rfl⟩
  | int b=>simp_arith [i];exact Ok.ret ⟨rfl,rfl⟩
  | str b=>simp_arith [i];exact Ok.ret ⟨rfl,rfl⟩
  | lst b=>simp_arith [i];exact Ok.ret ⟨rfl,rfl⟩
  | _=>cases hpl
 obtain ⟨t',M',e,rfl,rfl⟩:=key
 exact e
noncomputable def item (k:Nat) (t:FT.T):FT.T:=match t with
 | .tup xs=>(xs[k]?).getD .non
 | _=>.non
noncomputable def zeK:FT.T->Nat
 | .tup xs=>xs.length
 | _=>0
noncomputable def puB (o:FT.T):Bool:=yL ["first","any"] (item 1 o) && zav (item 2 o) 1 9
noncomputable def hsB (hs ps:List FT.T):Bool:=(List.range hs.length).all fun i=>zel ((hs.map nmT).drop (i + 1)) (ps.map nmT) (item 1 ((hs[i]?).getD .non))
noncomputable def zcE (t:FT.T):Bool:=match t with
 | .tup [.tup hs,.tup ps]=>zH (.tup hs) 2 1 4 && (zH (.tup ps) 3 0 2 && (ps.all puB && (hsB hs ps && decide ((hs.map fun h=>zeK (item 1 h)).sum<=6))))
 | _=>false
structure NP (t:FT.T):Prop where
 pl:plT t = true
 two:∀ H P,t = .tup [H,P]->plT H = true/\plT P = true/\(∀ xs,H = .tup xs->∀ o ∈ xs,plT o = true/\∀ x r,o = .tup (x :: r)->plT x = true)/\(∀ xs,P = .tup xs->∀ o ∈ xs,plT o = true/\∀ x r,o = .tup (x :: r)->plT x = true) /\
  (zH H 2 1 4 = true->zH P 3 0 2 = true->(∀ xs a b c,P = .tup xs->.tup [a,b,c] ∈ xs->qM b = true/\plT c = true)/\(∀ xs a b,H = .tup xs->.tup [a,b] ∈ xs->ASP b))
theorem zpy {α:Type} {xs:List α} (h:xs.length = 2):∃ a0 a1,xs = [a0,a1]:=by
 match xs,h with
 | [a0,a1],_=>exact ⟨a0,a1,rfl⟩
theorem zco {s l h:Nat} (e:zH t s l h = true):∃ xs,t = .tup xs/\l<=xs.length/\xs.length<=h/\xs.all (zaT s) = true/\(xs.map nmT).Nodup:=by
 cases t with
 | tup xs=>
  have e:(decide (l<=xs.length/\xs.length<=h) && (xs.all (zaT s) && decide (xs.map nmT).Nodup)) = true:=e
  rw [Qq,Qq] at e
  exact ⟨xs,rfl,(QB e.1).1,(QB e.1).2,e.2.1,QB e.2.2⟩
 | _=>cases e
theorem zlY (ns:List Nat):zeN (ns.map fun n:Nat=>FT.T.int (n:Int)) = some (ns.map fun n:Nat=>(n:Int)):=by
 induction ns with
 | nil=>rfl
 | cons n ns ih=>simp only [QF,zeN,ih,Option.map_some]
theorem sum_nat:∀ ns:List Nat,(ns.map fun n:Nat=>(n:Int)).sum = ((ns.sum:Nat):Int)
 | []=>rfl
 | n :: ns=>by rw [QF,sum_cons,sum_cons,sum_nat ns];omega
theorem sum_K (ns:List Nat) (M:Mem):sumK (.lst (ns.map fun n:Nat=>FT.T.int (n:Int))) M = .ok (.int ((ns.sum:Nat):Int)) M:=by
 unfold sumK zv
 simp only [zlY,sum_nat]
theorem zpv (h:NP t) (M:Mem):zcc [t] M = .ok (.bl (zcE t)) M:=by
 have key:Ok (zcc [t] M) fun r M'=>r = .bl (zcE t)/\M' = M:=by
  refine qu rfl ?_
  unfold zhi
  rw [show startT 3 [t] = [some t,none,none] from rfl]
  have tt:=zc2 h.pl 2 M
  cases hb:zdD t 2 with
  | false=>
   rw [hb] at tt
   simp_arith [show qr [t,.int 2] M = .ok (.bl false) M from tt]
   refine Ok.ret ⟨?_,rfl⟩
   have:zcE t = false:=by
    unfold zcE
    split
    ·exact absurd hb (by simp [zdD])
    ·rfl
   rw [this]
  | true=>
   rw [hb] at tt
   cases t with
   | tup xs=>
    obtain ⟨H,P,rfl⟩:=zpy (QB hb)
    have t2:qr [.tup [H,P],.int 2] M = .ok (.bl true) M:=tt
    obtain ⟨pH,pP,eH,eP,sa⟩:=h.two H P rfl
    have nH:=named_eq pH (size:=2) (lo:=1) (hi:=4) (by decide) eH M
    have nP:=named_eq pP (size:=3) (lo:=0) (hi:=2) (by decide) eP M
    have nf:∀ b:Mem,zH H 2 1 4 = false\/zH P 3 0 2 = false->FT.T.bl false = .bl (zcE (.tup [H,P]))/\b = b:=by
     intro b z
     refine ⟨?_,rfl⟩
     have:zcE (.tup [H,P]) = false:=by
      unfold zcE
      split
      ·rename_i hs ps e
       cases e
       rcases z with z | z <;> (rw [z];simp)
      ·rfl
     rw [this]
    refine Ok.seqR fun X hX=>?_
    simp_arith [t2]
    rw [hX];clear hX;simp only [zh]
    cases bH:zH H 2 1 4 with
    | false=>
     rw [bH] at nH
     simp_arith [show yD [H,.int 2,.int 1,.int 4] M = .ok (.bl false) M from nH]
     exact Ok.ret (nf _ (.inl bH))
    | true=>
     rw [bH] at nH
     cases bP:zH P 3 0 2 with
     | false=>
      rw [bP] at nP
      simp_arith [show yD [H,.int 2,.int 1,.int 4] M = .ok (.bl true) M from nH,show yD [P,.int 3,.int 0,.int 2] M = .ok (.bl false) M from nP]
      exact Ok.ret (nf _ (.inr bP))
     | true=>
      rw [bP] at nP
      refine Ok.seqR fun X hX=>?_
      simp_arith [show yD [H,.int 2,.int 1,.int 4] M = .ok (.bl true) M from nH,show yD [P,.int 3,.int 0,.int 2] M = .ok (.bl true) M from nP]
      rw [hX];clear hX;simp only [zh]
      obtain ⟨sP,aH⟩:=sa bH bP
      obtain ⟨hs,rfl,h1,h4,hw,hnd⟩:=zco bH
      obtain ⟨ps,rfl,p1,p4,pw,pnd⟩:=zco bP
      have hw:=QD.mp hw
      have pw:=QD.mp pw
      show Ok _ fun r M'=>r = FT.T.bl (zH (.tup hs) 2 1 4 && (zH (.tup ps) 3 0 2 && (ps.all puB && (hsB hs ps && decide ((hs.map fun h=>zeK (item 1 h)).sum<=6)))))/\M' = M
      rw [bH,bP,Bool.true_and,Bool.true_and]
      have c1:yt (zah 3 (yo (qf 0) (yo (qf 1) (yo (qf 2) zai)))) zw (zaX (eOp inA (yb 1) (zY (zb (eC (.str "first")) (zb (eC (.str "any")) qc)))) (qd (yK) (zb (yb 2) (zb (eC (.int 1)) (zb (eC (.int 9)) qc))))) ps [none,none,none] M [] = .ok (ps.map fun o=>.bl (puB o)) M:=by
       have:=Ok.mapc (r:=fun x:FT.T=>x) (bd:=zah 3 (yo (qf 0) (yo (qf 1) (yo (qf 2) zai)))) (el:=zaX (eOp inA (yb 1) (zY (zb (eC (.str "first")) (zb (eC (.str "any")) qc)))) (qd (yK) (zb (yb 2) (zb (eC (.int 1)) (zb (eC (.int 9)) qc))))) (M:=M) (fun σ=>∃ o p q,σ = [o,p,q]) (fun o=>FT.T.bl (puB o)) (xs:=ps) (σ:=[none,none,none]) ⟨_,_,_,rfl⟩ (by omega) (by
        rintro o σ ho ⟨o',p',q',rfl⟩
        obtain ⟨r,hr,hl⟩:=zb5 (by decide) (pw o ho)
        obtain ⟨b,c,rfl⟩:=zpy (show r.length = 2 by omega)
        rw [hr] at ho
        obtain ⟨sb,pc⟩:=sP ps _ b c rfl ho
        rw [hr]
        refine ⟨[some (.str (nmT o)),some b,some c],?_,⟨_,_,_,rfl⟩,?_⟩
        ·simp_arith [and_self]
        have i1:=zmG (s1:="first") (s2:="any") sb M
        show _ = Out.ok (FT.T.bl (yL ["first","any"] b && zav c 1 9)) M
        cases e1:yL ["first","any"] b with
        | false=>rw [e1] at i1;simp_arith [i1];rfl
        | true=>rw [e1] at i1;simp_arith [i1,zfO pc 1 9 M];rfl)
       rw [show ps.map (fun x:FT.T=>x) = ps from map_id' ps] at this
       exact this
      have c2:∀ {size:Nat},0 < size->∀ {xs:List FT.T},xs.length<=100->(∀ o ∈ xs,zaT size o = true)->yt (qf 0) zw (eOp ixT (yb 0) (eC (.int 0))) xs [none] M [] = .ok ((xs.map nmT).map .str) M:=by
       intro size hs0 xs hx hw
       have:=Ok.mapc (r:=fun x:FT.T=>x) (bd:=qf 0) (el:=eOp ixT (yb 0) (eC (.int 0))) (M:=M) (fun σ=>∃ o,σ = [o]) (fun o=>FT.T.str (nmT o)) (xs:=xs) (σ:=[none]) ⟨_,rfl⟩ (by omega) (by
        rintro o σ ho ⟨o',rfl⟩
        refine ⟨[some o],rfl,⟨_,rfl⟩,?_⟩
        obtain ⟨r,hr,_⟩:=zb5 hs0 (hw o ho)
        rw [hr]
        simp_arith [and_self]
        rfl)
       rw [show xs.map (fun x:FT.T=>x) = xs from map_id' xs] at this
       rw [QI]
       exact this
      refine Ok.seqR fun X hX=>?_
      simp_arith [c1,zbt]
      cases b1:ps.all puB with
      | false=>
       rw [hX]
       clear hX
       simp_arith [and_self]
       exact Ok.ret ⟨rfl,rfl⟩
      | true=>
       simp_arith [and_self]
       rw [hX];clear hX;simp only [zh]
       refine Ok.seqR fun X hX=>?_
       simp_arith [c2 (by decide) (by omega) hw]
       rw [hX];clear hX;simp only [zh]
       refine Ok.seqR fun X hX=>?_
       simp_arith [c2 (by decide) (by omega) pw]
       rw [hX];clear hX;simp only [zh]
       have c3:yt (zah 2 (yo (qf 0) (yo (qf 1) zai))) zw (qd (zaE) (zb (eOp ixT (yb 1) (eC (.int 1))) (zb (eSl (yb 2) (zcm (eOp yg (yb 0) (eC (.int 1)))) zcn) (zb (yb 3) qc)))) (enT hs) [none,none,some (.lst ((hs.map nmT).map .str)),some (.lst ((ps.map nmT).map .str))] M [] = .ok ((List.range hs.length).map fun i=>.bl (zel ((hs.map nmT).drop (i + 1)) (ps.map nmT) (item 1 ((hs[i]?).getD .non)))) M:=by
        have en:enT hs = (List.range hs.length).map fun i:Nat=>FT.T.tup [.int (i:Int),(hs[i]?).getD .non]:=by
         unfold enT
         refine ext_getElem? fun i=>?_
         rw [List.getElem?_mapIdx,Qa]
         by_cases hi:i < hs.length
         ·rw [Q0 hi,List.getElem?_range hi];simp [hi]
         ·rw [getElem?_eq_none (by omega),getElem?_eq_none (by rw [length_range];omega)];rfl
        rw [en]
        exact Ok.mapc (r:=fun i:Nat=>FT.T.tup [.int (i:Int),(hs[i]?).getD .non]) (fun σ=>∃ o p,σ = [o,p,some (.lst ((hs.map nmT).map .str)),some (.lst ((ps.map nmT).map .str))]) (fun i=>FT.T.bl (zel ((hs.map nmT).drop (i + 1)) (ps.map nmT) (item 1 ((hs[i]?).getD .non)))) (xs:=List.range hs.length) ⟨_,_,rfl⟩ (by rw [length_range];omega) (by
         rintro i σ hi ⟨o',p',rfl⟩
         have hi:=mem_range.mp hi
         have hm:hs[i] ∈ hs:=getElem_mem hi
         obtain ⟨r,hr,hl⟩:=zb5 (by decide) (hw _ hm)
         have hl:r.length = 1:=by omega
         match r,hl with
         | [b],_=>
          rw [hr] at hm
          have ab:=aH hs _ b rfl hm
          have eg:(hs[i]?).getD FT.T.non = .tup [.str (nmT hs[i]),b]:=by rw [Q0 hi];exact hr
          rw [eg]
          refine ⟨[some (.int (i:Int)),some (.tup [.str (nmT hs[i]),b]),some (.lst ((hs.map nmT).map .str)),some (.lst ((ps.map nmT).map .str))],?_,⟨_,_,rfl⟩,?_⟩
          ·simp_arith [and_self]
          have ll:zv (.lst ((hs.map nmT).map FT.T.str)) M = some ((hs.map nmT).map .str):=rfl
          have cu:zcG ((hs.map nmT).map FT.T.str) (some ((i:Int) + 1)) none = ((hs.map nmT).drop (i + 1)).map .str:=by
           rw [show (i:Int) + 1 = ((i + 1:Nat):Int) by omega,zhs]
          simp_arith [ll,cu,zom ab ((hs.map nmT).drop (i + 1)) (ps.map nmT) M]
          rfl)
       refine Ok.seqR fun X hX=>?_
       simp_arith [zgk,c3,zbt]
       cases b2:hsB hs ps with
       | false=>
        unfold hsB at b2
        simp_arith [b2]
        rw [hX]
        clear hX
        simp_arith [and_self]
        exact Ok.ret ⟨rfl,rfl⟩
       | true=>
        unfold hsB at b2
        simp_arith [b2]
        rw [hX];clear hX;simp only [zh]
        have c4:yt (qf 0) zw (qd (zl zC) (zb (eOp ixT (yb 0) (eC (.int 1))) qc)) hs [none] M [] = .ok ((hs.map fun h=>zeK (item 1 h)).map fun n:Nat=>.int (n:Int)) M:=by
         have:=Ok.mapc (r:=fun x:FT.T=>x) (bd:=qf 0) (el:=qd (zl zC) (zb (eOp ixT (yb 0) (eC (.int 1))) qc)) (M:=M) (fun σ=>∃ o,σ = [o]) (fun h=>FT.T.int ((zeK (item 1 h):Nat):Int)) (xs:=hs) (σ:=[none]) ⟨_,rfl⟩ (by omega) (by
          rintro o σ ho ⟨o',rfl⟩
          refine ⟨[some o],rfl,⟨_,rfl⟩,?_⟩
          obtain ⟨i,hi,rfl⟩:=getElem_of_mem ho
          have b2:=QD.mp b2 i (mem_range.mpr hi)
          rw [Q0 hi,Option.getD_some] at b2
          obtain ⟨r,hr,hl⟩:=zb5 (by decide) (hw _ ho)
          have hl:r.length = 1:=by omega
          match r,hl with
          | [b],_=>
           rw [hr] at b2 ⊢
           cases b with
           | tup ys=>simp_arith [and_self];rfl
           | _=>cases b2)
         rw [show hs.map (fun x:FT.T=>x) = hs from map_id' hs] at this
         rw [QI]
         exact this
        simp_arith [c4,sum_K]
        refine Ok.ret ⟨?_,rfl⟩
        rw [Bool.true_and,Bool.true_and]
        congr 1
        exact decide_eq_decide.mpr (by omega)
   | _=>cases hb
 obtain ⟨t',M',e,rfl,rfl⟩:=key
 exact e
end
structure Nms (ws:List Str):Prop where
 nd:ws.Nodup
 w:∀ x ∈ ws,∃ l,x = S l/\isW l = true
structure AO (later pn:List Str) (q:Ask):Prop where
 to:q.to ∈ later
 t0:0<=q.tries
 t4:q.tries<=4
 pu:∀ s,q.purse = some s->s ∈ pn
 wo:q.word = "bad"\/q.word = "spent"
structure GN (n:Net):Prop where
 hn:Nms (n.hs.map (·.name))
 h1:1<=n.hs.length
 h4:n.hs.length<=4
 pn:Nms (n.ps.map (·.name))
 p2:n.ps.length<=2
 pe:∀ p ∈ n.ps,(p.earns = "first"\/p.earns = "any")/\1<=p.per/\p.per<=9
 a3:∀ h ∈ n.hs,h.asks.length<=3
 ao:∀ i h,n.hs[i]? = some h->∀ q ∈ h.asks,AO ((n.hs.map (·.name)).drop (i + 1)) (n.ps.map (·.name)) q
 a6:(n.hs.map (·.asks.length)).sum<=6
theorem zao {s:Str}:yL ss (.str s) = true ↔ s ∈ ss:=by
 unfold yL
 rw [List.any_eq_true]
 constructor
 ·rintro ⟨x,hx,h⟩
  have:x = s:=eq_of_beq (show (x == s) = true from h)
  rw [← this];exact hx
 ·intro h
  exact ⟨s,h,show (s == s) = true by simp⟩
theorem znP (h:isW l = true):l.length<=8:=by
 unfold isW at h
 rw [Qq] at h
 exact (QB h.1).2
variable {ws:List Str} {x:Str}
theorem Nms.len (h:Nms ws) (hx:x ∈ ws):x.length<=8:=by
 obtain ⟨l,rfl,hl⟩:=h.w x hx
 rw [qt];exact znP hl
theorem Nms.isw (h:Nms ws) (hx:x ∈ ws):isW x.cps.toList = true:=by
 obtain ⟨l,rfl,hl⟩:=h.w x hx
 exact hl
variable {q:Ask} {pn:List Str}
theorem zoo {later:List Str} (h:AO later pn q):zbI later pn (yz q) = true:=by
 show (yL later (.str q.to) && (zav (.int q.tries) 0 4 && ((zdf (opS q.purse) || yL pn (opS q.purse)) && (yL ["bad","spent"] (.str q.word) && (true && true))))) = true
 rw [zao.mpr h.to,show zav (.int q.tries) 0 4 = true from Qu ⟨h.t0,h.t4⟩,zao.mpr (by rcases h.wo with z | z <;> rw [z] <;> simp)]
 cases e:q.purse with
 | none=>rfl
 | some s=>
  rw [show yL pn (opS (some s)) = true from zao.mpr (h.pu s e)]
  simp
theorem zka (n:Net):(n.hs.map hsT).map nmT = n.hs.map (·.name):=by rw [QI];rfl
theorem zj9 (n:Net):(n.ps.map puT).map nmT = n.ps.map (·.name):=by rw [QI];rfl
variable {n:Net}
theorem znD (h:GN n):zcE (qG n) = true:=by
 have l4:=h.h4
 have l1:=h.h1
 have l2:=h.p2
 have nh:zH (.tup (n.hs.map hsT)) 2 1 4 = true:=by
  show (decide (1<=(n.hs.map hsT).length/\(n.hs.map hsT).length<=4) && ((n.hs.map hsT).all (zaT 2) && decide ((n.hs.map hsT).map nmT).Nodup)) = true
  rw [Qu (by rw [Qf];exact ⟨l1,l4⟩),zka,Qu h.hn.nd,Bool.true_and,Bool.and_true,all_map]
  exact QD.mpr fun x hx=>h.hn.isw (QE.mpr ⟨x,hx,rfl⟩)
 have np:zH (.tup (n.ps.map puT)) 3 0 2 = true:=by
  show (decide (0<=(n.ps.map puT).length/\(n.ps.map puT).length<=2) && ((n.ps.map puT).all (zaT 3) && decide ((n.ps.map puT).map nmT).Nodup)) = true
  rw [Qu (by rw [Qf];exact ⟨Nat.zero_le _,l2⟩),zj9,Qu h.pn.nd,Bool.true_and,Bool.and_true,all_map]
  exact QD.mpr fun x hx=>h.pn.isw (QE.mpr ⟨x,hx,rfl⟩)
 have pu:(n.ps.map puT).all puB = true:=by
  rw [all_map]
  refine QD.mpr fun x hx=>?_
  obtain ⟨h1,h2,h3⟩:=h.pe x hx
  show (yL ["first","any"] (.str x.earns) && zav (.int x.per) 1 9) = true
  rw [zao.mpr (by rcases h1 with z | z <;> rw [z] <;> simp),show zav (.int x.per) 1 9 = true from Qu ⟨h2,h3⟩]
  rfl
 have hb:hsB (n.hs.map hsT) (n.ps.map puT) = true:=by
  unfold hsB
  refine QD.mpr fun i hi=>?_
  have hi:i < n.hs.length:=by have:=mem_range.mp hi;rwa [Qf] at this
  have eg:n.hs[i]? = some n.hs[i]:=Q0 hi
  rw [zka,zj9,Qa,eg]
  show zel ((n.hs.map (·.name)).drop (i + 1)) (n.ps.map (·.name)) (.tup (n.hs[i].asks.map yz)) = true
  show (decide ((n.hs[i].asks.map yz).length<=3) && (n.hs[i].asks.map yz).all (zbI _ _)) = true
  rw [Qu (by rw [Qf];exact h.a3 _ (getElem_mem hi)),Bool.true_and,all_map]
  exact QD.mpr fun q hq=>zoo (h.ao i _ eg q hq)
 show (zH (.tup (n.hs.map hsT)) 2 1 4 && (zH (.tup (n.ps.map puT)) 3 0 2 && ((n.ps.map puT).all puB && (hsB (n.hs.map hsT) (n.ps.map puT) && decide (((n.hs.map hsT).map fun h=>zeK (item 1 h)).sum<=6))))) = true
 rw [nh,np,pu,hb,QI]
 exact Qu (by
  rw [show ((fun h=>zeK (item 1 h)) ∘ hsT) = fun h:Hs=>h.asks.length from by funext h;show (h.asks.map yz).length = _;rw [Qf]]
  exact h.a6)
structure CA where
 to:List Nat
 tries:Option Nat
 purse:Option (List Nat)
 word:List Nat
 hears:Option Bool
 sure:Option Bool
structure CH where
 name:List Nat
 asks:List CA
structure CP where
 name:List Nat
 earns:List Nat
 per:Option Nat
noncomputable def noT:Option Nat->FT.T
 | none=>.non
 | some n=>.int (n:Int)
noncomputable def obT:Option Bool->FT.T
 | none=>.non
 | some b=>.bl b
noncomputable def caT (c:CA):FT.T:=.tup [.str (S c.to),noT c.tries,opS (c.purse.map S),.str (S c.word),obT c.hears,obT c.sure]
noncomputable def chT (h:CH):FT.T:=.tup [.str (S h.name),.tup (h.asks.map caT)]
noncomputable def cpT (p:CP):FT.T:=.tup [.str (S p.name),.str (S p.earns),noT p.per]
noncomputable def cnT (hs:List CH) (ps:List CP):FT.T:=.tup [.tup (hs.map chT),.tup (ps.map cpT)]
noncomputable def CA.ask (c:CA):Ask:=⟨S c.to,((c.tries.getD 0:Nat):Int),c.purse.map S,S c.word,c.hears.getD false,c.sure.getD false⟩
noncomputable def CH.hs (h:CH):Hs:=⟨S h.name,h.asks.map CA.ask⟩
noncomputable def CP.pu (p:CP):Pu:=⟨S p.name,S p.earns,((p.per.getD 0:Nat):Int)⟩
theorem zrg {later:List Str} {c:CA} (h:zbI later pn (caT c) = true):caT c = yz c.ask/\AO later pn c.ask:=by
 have h:(yL later (.str (S c.to)) && (zav (noT c.tries) 0 4 && ((zdf (opS (c.purse.map S)) || yL pn (opS (c.purse.map S))) && (yL ["bad","spent"] (.str (S c.word)) && (blB (obT c.hears) && blB (obT c.sure)))))) = true:=h
 rw [Qq,Qq,Qq,Qq,Qq] at h
 obtain ⟨h1,h2,h3,h4,h5,h6⟩:=h
 obtain ⟨to,tr,pu,wo,he,su⟩:=c
 dsimp only at h1 h2 h3 h4 h5 h6
 cases tr with
 | none=>cases h2
 | some t=>
 cases he with
 | none=>cases h5
 | some b=>
 cases su with
 | none=>cases h6
 | some d=>
 have h2:decide ((0:Int)<=(t:Int)/\(t:Int)<=4) = true:=h2
 have h2:=QB h2
 refine ⟨rfl,zao.mp h1,by show (0:Int)<=(t:Int);omega,by show (t:Int)<=4;omega,fun s hs=>?_,?_⟩
 ·have hs:pu.map S = some s:=hs
  rw [hs,Bool.or_eq_true] at h3
  rcases h3 with z | z
  ·cases z
  ·exact zao.mp z
 ·have:=zao.mp h4
  simp only [QA,not_mem_nil,or_false] at this
  exact this
variable {ps:List CP}
theorem zrf {hs:List CH} (h:zcE (cnT hs ps) = true):∃ n,cnT hs ps = qG n/\GN n:=by
 have h:(zH (.tup (hs.map chT)) 2 1 4 && (zH (.tup (ps.map cpT)) 3 0 2 && ((ps.map cpT).all puB && (hsB (hs.map chT) (ps.map cpT) && decide (((hs.map chT).map fun h=>zeK (item 1 h)).sum<=6))))) = true:=h
 rw [Qq,Qq,Qq,Qq] at h
 obtain ⟨h1,h2,h3,h4,h5⟩:=h
 obtain ⟨xs,e1,l1,l4,w1,nd1⟩:=zco h1
 cases e1
 obtain ⟨ys,e2,_,l2,w2,nd2⟩:=zco h2
 cases e2
 have nmh:(hs.map chT).map nmT = hs.map fun h=>S h.name:=by rw [QI];rfl
 have nmp:(ps.map cpT).map nmT = ps.map fun h=>S h.name:=by rw [QI];rfl
 rw [nmh] at nd1
 rw [nmp] at nd2
 rw [Qf] at l1 l4 l2
 have hw:∀ h ∈ hs,isW h.name = true:=fun h hh=>by
  have:=QD.mp w1 (chT h) (QE.mpr ⟨h,hh,rfl⟩)
  have:(decide (([.str (S h.name),.tup (h.asks.map caT)]:List FT.T).length = 2) && isW (S h.name).cps.toList) = true:=this
  rw [Qq] at this
  simpa using this.2
 have pw:∀ h ∈ ps,isW h.name = true:=fun h hh=>by
  have:=QD.mp w2 (cpT h) (QE.mpr ⟨h,hh,rfl⟩)
  have:(decide (([.str (S h.name),.str (S h.earns),noT h.per]:List FT.T).length = 3) && isW (S h.name).cps.toList) = true:=this
  rw [Qq] at this
  simpa using this.2
 have pe:∀ p ∈ ps,cpT p = puT p.pu/\((S p.earns:Str) = "first"\/(S p.earns:Str) = "any")/\1<=p.pu.per/\p.pu.per<=9:=fun p hp=>by
  have:=QD.mp h3 (cpT p) (QE.mpr ⟨p,hp,rfl⟩)
  have:(yL ["first","any"] (.str (S p.earns)) && zav (noT p.per) 1 9) = true:=this
  rw [Qq] at this
  obtain ⟨q1,q2⟩:=this
  obtain ⟨nm,ea,pr⟩:=p
  cases pr with
  | none=>cases q2
  | some t=>
   have q2:decide ((1:Int)<=(t:Int)/\(t:Int)<=9) = true:=q2
   have q2:=QB q2
   have q1:=zao.mp q1
   simp only [QA,not_mem_nil,or_false] at q1
   exact ⟨rfl,q1,q2⟩
 have as:∀ (i:Nat) h,hs[i]? = some h->h.asks.length<=3/\∀ c ∈ h.asks,caT c = yz c.ask/\AO ((hs.map fun h=>S h.name).drop (i + 1)) (ps.map fun h=>S h.name) c.ask:=fun i h hi=>by
  have hil:i < hs.length:=(Qx.mp hi).1
  unfold hsB at h4
  have:=QD.mp h4 i (mem_range.mpr (by rw [Qf];exact hil))
  rw [nmh,nmp,Qa,hi] at this
  have:(decide ((h.asks.map caT).length<=3) && (h.asks.map caT).all (zbI ((hs.map fun h=>S h.name).drop (i + 1)) (ps.map fun h=>S h.name))) = true:=this
  rw [Qq] at this
  refine ⟨by have:=QB this.1;rwa [Qf] at this,fun c hc=>?_⟩
  exact zrg (QD.mp this.2 (caT c) (QE.mpr ⟨c,hc,rfl⟩))
 have eh:∀ h ∈ hs,chT h = hsT h.hs:=fun h hh=>by
  obtain ⟨i,hi⟩:=mem_iff_getElem?.mp hh
  unfold chT hsT CH.hs
  congr 3
  rw [QI]
  exact congrArg FT.T.tup (map_congr_left fun c hc=>((as i h hi).2 c hc).1)
 have nE:(hs.map CH.hs).map (·.name) = hs.map fun h=>S h.name:=by rw [QI];rfl
 have pE:(ps.map CP.pu).map (·.name) = ps.map fun h=>S h.name:=by rw [QI];rfl
 refine ⟨⟨hs.map CH.hs,ps.map CP.pu⟩,?_,?_⟩
 ·unfold cnT qG
  rw [QI,QI]
  rw [show hs.map chT = hs.map (hsT ∘ CH.hs) from map_congr_left eh,show ps.map cpT = ps.map (puT ∘ CP.pu) from map_congr_left fun p hp=>(pe p hp).1]
 ·refine ⟨?_,by show 1<=(hs.map CH.hs).length;rw [Qf];exact l1,by show (hs.map CH.hs).length<=4;rw [Qf];exact l4,?_,by show (ps.map CP.pu).length<=2;rw [Qf];exact l2,?_,?_,?_,?_⟩
  ·show Nms ((hs.map CH.hs).map (·.name))
   rw [nE]
   exact ⟨nd1,fun x hx=>by obtain ⟨h,hh,rfl⟩:=QE.mp hx;exact ⟨_,rfl,hw h hh⟩⟩
  ·show Nms ((ps.map CP.pu).map (·.name))
   rw [pE]
   exact ⟨nd2,fun x hx=>by obtain ⟨h,hh,rfl⟩:=QE.mp hx;exact ⟨_,rfl,pw h hh⟩⟩
  ·intro p hp
   obtain ⟨q,hq,rfl⟩:=QE.mp hp
   exact (pe q hq).2
  ·intro x hx
   obtain ⟨h,hh,rfl⟩:=QE.mp hx
   obtain ⟨i,hi⟩:=mem_iff_getElem?.mp hh
   show (h.asks.map CA.ask).length<=3
   rw [Qf]
   exact (as i h hi).1
  ·intro i x hx q hq
   have hx:(hs.map CH.hs)[i]? = some x:=hx
   rw [Qa] at hx
   cases e:hs[i]? with
   | none=>rw [e] at hx;cases hx
   | some h=>
    rw [e] at hx
    cases hx
    obtain ⟨c,hc,rfl⟩:=QE.mp hq
    show AO (((hs.map CH.hs).map (·.name)).drop (i + 1)) ((ps.map CP.pu).map (·.name)) c.ask
    rw [nE,pE]
    exact ((as i h e).2 c hc).2
  ·have h5:=QB h5
   rw [QI] at h5
   show ((hs.map CH.hs).map (·.asks.length)).sum<=6
   rw [QI]
   refine Qh (Nat.le_of_eq ?_) h5
   congr 1
   refine map_congr_left fun h _=>?_
   show (h.asks.map CA.ask).length = (h.asks.map caT).length
   rw [Qf,Qf]
noncomputable def isD (c:Nat):Bool:=decide (48<=c/\c<=57)
noncomputable def zP (l:List Nat):Option Nat:=if (1<=l.length/\l.length<=1)/\l.all isD = true/\¬ (l.head? = some 48/\1 < l.length) then some (NumText.digitsVal l) else none
theorem le_0 (c:Nat) (M:Mem):leU (.str "0") (.str (S [c])) M = .ok (.bl (decide (48<=c))) M:=by
 show Out.ok (FT.T.bl (!decide ([c] < [48]))) M = _
 rw [show decide ([c] < [48]) = decide (c < 48) from by simp only [ze5]]
 by_cases h:c < 48
 ·rw [Qu h,Qv (by omega)];rfl
 ·rw [Qv h,Qu (by omega)];rfl
theorem zpz (c:Nat) (M:Mem):leU (.str (S [c])) (.str "9") M = .ok (.bl (decide (c<=57))) M:=by
 show Out.ok (FT.T.bl (!decide ([57] < [c]))) M = _
 rw [show decide ([57] < [c]) = decide (57 < c) from by simp only [ze5]]
 by_cases h:57 < c
 ·rw [Qu h,Qv (by omega)];rfl
 ·rw [Qv h,Qu (by omega)];rfl
theorem zdS (hl:l.length<=2000) (M:Mem):zW [.str (S l),.int 1] M = .ok (noT (zP l)) M:=by
 have key:Ok (zW [.str (S l),.int 1] M) fun t M'=>t = noT (zP l)/\M' = M:=by
  refine qu rfl ?_
  unfold zer
  have ln:=zlO (l:=l) (by omega) M
  have cp:yt (qf 0) zw (qU leU leU (eC (.str "0")) (yb 0) (eC (.str "9"))) (l.map fun c=>FT.T.str (S [c])) [none] M [] = .ok (l.map fun c=>.bl (isD c)) M:=
   Ok.mapc (r:=fun c=>FT.T.str (S [c])) (fun σ=>∃ o,σ = [o]) _ ⟨_,rfl⟩ (by omega) (by
    rintro c σ _ ⟨o,rfl⟩
    refine ⟨[some (.str (S [c]))],rfl,⟨_,rfl⟩,?_⟩
    unfold isD
    by_cases h1:48<=c
    ·by_cases h2:c<=57
     ·simp_arith [le_0,zpz,Qu h1,Qu h2]
      rw [Qu ⟨h1,h2⟩]
     ·simp_arith [le_0,zpz,Qu h1,Qv h2]
      rw [Qv (fun z=>h2 z.2)]
    ·simp_arith [le_0,Qv h1]
     rw [Qv (fun z=>h1 z.1)])
  have al:=zbt isD l M
  by_cases h1:1<=l.length
  ·by_cases h2:l.length<=1
   ·cases h3:l.all isD with
    | false=>
     rw [h3] at al
     simp_arith [zbb,ln,Qu (show (1:Int)<=(l.length:Int) by omega),Qu (show (l.length:Int)<=1 by omega),iTx,zgG,cp,al]
     exact Ok.ret ⟨by unfold zP;rw [Qy (by rw [h3];simp)];rfl,rfl⟩
    | true=>
     rw [h3] at al
     obtain ⟨c,hc⟩:∃ c,l.head? = some c:=by
      cases l with
      | nil=>simp at h1
      | cons c r=>exact ⟨c,rfl⟩
     have ne:l ≠ []:=fun z=>by rw [z] at h1;simp at h1
     have ix:ixS (.str (S l)) (.int 0) M = .ok (.str (S [c])) M:=by
      unfold ixS
      have a0:atI (S l).cps.toList 0 = some c:=by
       rw [show (S l).cps.toList = l by simp,show (0:Int) = ((0:Nat):Int) from rfl,FT.zR,← hc]
       cases l <;> rfl
      simp only [a0]
      exact Qw (sz (by rw [qt];omega))
     have eq0:eqA (.str (S [c])) (.str "0") M = .ok (.bl (decide (c = 48))) M:=by
      show Out.ok (FT.T.bl (S [c] == S [48])) M = _
      congr 2
      by_cases h:c = 48
      ·subst h;simp
      ·rw [Qv h]
       simp only [beq_eq_false_iff_ne,ne_eq]
       intro z
       injection z with z
       have:=congrArg Array.toList z
       simp at this
       exact h this
     have iu:zhc (.str (S l)) M = .ok (.int ((NumText.digitsVal l:Nat):Int)) M:=by
      unfold zhc
      have hd:NumText.AllDigits (S l).cps.toList:=by
       rw [show (S l).cps.toList = l by simp]
       intro d hd
       have:=QD.mp h3 d hd
       exact QB this
      have e:=PySem.intText_digits hd (by simpa using ne) (by rw [qt];omega)
      rw [show (S l).cps.toList = l by simp] at e
      simp only [e]
      exact Qw (by rw [qt];omega)
     by_cases h4:c = 48
     ·by_cases h5:1 < l.length
      ·simp_arith [zbb,ln,Qu (show (1:Int)<=(l.length:Int) by omega),Qu (show (l.length:Int)<=1 by omega),iTx,zgG,cp,al,ix,eq0,Qu h4,Qu (show (l.length:Int) > 1 by omega)]
       exact Ok.ret ⟨by unfold zP;rw [Qy (fun z=>z.2.2 ⟨by rw [hc,h4],h5⟩)];rfl,rfl⟩
      ·simp_arith [zbb,ln,Qu (show (1:Int)<=(l.length:Int) by omega),Qu (show (l.length:Int)<=1 by omega),iTx,zgG,cp,al,ix,eq0,Qu h4,Qv (show ¬ (l.length:Int) > 1 by omega),iu]
       exact Ok.ret ⟨by unfold zP;rw [Qw ⟨⟨h1,h2⟩,h3,fun z=>h5 z.2⟩];rfl,rfl⟩
     ·simp_arith [zbb,ln,Qu (show (1:Int)<=(l.length:Int) by omega),Qu (show (l.length:Int)<=1 by omega),iTx,zgG,cp,al,ix,eq0,Qv h4,iu]
      exact Ok.ret ⟨by unfold zP;rw [Qw ⟨⟨h1,h2⟩,h3,fun z=>h4 (by rw [hc] at z;exact Qb z.1)⟩];rfl,rfl⟩
   ·simp_arith [zbb,ln,Qu (show (1:Int)<=(l.length:Int) by omega),Qv (show ¬ (l.length:Int)<=1 by omega)]
    exact Ok.ret ⟨by unfold zP;rw [Qy (fun z=>h2 z.1.2)];rfl,rfl⟩
  ·simp_arith [zbb,ln,Qv (show ¬ (1:Int)<=(l.length:Int) by omega)]
   exact Ok.ret ⟨by unfold zP;rw [Qy (fun z=>h1 z.1.1)];rfl,rfl⟩
 obtain ⟨t,M',e,rfl,rfl⟩:=key
 exact e
variable {kN:Addr}
section
theorem zkK (l:Str) (M:Mem):qL kN [.str l] M = .ok .non M:=by
 have i1:qv (.str l) (.ty "str") M = .ok (.bl true) M:=by unfold qv tyN;exact Qw (by decide)
 have key:Ok (qL kN [.str l] M) fun t M'=>t = .non/\M' = M:=by
  refine OkX.toOk (za8 rfl (OkX.ok ?_))
  unfold zca
  simp_arith [i1]
  exact Ok.ret ⟨rfl,rfl⟩
 obtain ⟨t,M',e,rfl,rfl⟩:=key
 exact e
theorem rai (x:FT.T) (M:Mem):zaL kN [x] M = .exn kN [] M:=by
 unfold zaL
 exact Qw (show 1<=sizeLine by rw [sizeLine_eq];decide)
end
noncomputable def wsT (W:List (List Nat)):FT.T:=.lst (W.map fun w=>.str (S w))
variable {W:List (List Nat)}
theorem zqs {i:Nat} {w:List Nat} (h:W[i]? = some w):atI (W.map fun w=>FT.T.str (S w)) (i:Int) = some (.str (S w)):=by rw [FT.zR,Qa,h];rfl
noncomputable def zbh:List Nat:=[101,118,101,114]
noncomputable def zB:List Nat:=[104,101,97,114,115]
noncomputable def qW:List Nat:=[100,101,97,102]
noncomputable def zI:List Nat:=[115,117,114,101]
noncomputable def zO:List Nat:=[108,111,115,115,121]
noncomputable def k2L (x y z:List Nat):Option Bool:=if z = x then some true else if z = y then some false else none
noncomputable def askIn (to tr pu wo he su:List Nat):CA:=⟨to,if tr = zbh then some 0 else zP tr,if pu = [45] then none else some pu,wo,k2L zB qW he,k2L zI zO su⟩
theorem zpJ (x y z:List Nat) (M:Mem):k2T (S x) (S y) [.str (S z)] M = .ok (obT (k2L x y z)) M:=by
 show Out.ok (if S z = S x then FT.T.bl true else if S z = S y then .bl false else .non) M = _
 unfold k2L
 by_cases h1:z = x
 ·rw [Qw (by rw [h1]),Qw h1];rfl
 ·rw [Qy (fun e=>h1 (zmL e)),Qy h1]
  by_cases h2:z = y
  ·rw [Qw (by rw [h2]),Qw h2];rfl
  ·rw [Qy (fun e=>h2 (zmL e)),Qy h2];rfl
variable {i:Int} {M:Mem}
theorem zee {xs:List FT.T} :ixD (.lst xs) (.int i) M = ixT (.lst xs) (.int i) M:=rfl
variable {k:List Nat}
theorem zkZ {to tr pu wo he su:List Nat} (hl:tr.length<=2000) (M:Mem):zaW [wsT [k,to,tr,pu,wo,he,su]] M = .ok (caT (askIn to tr pu wo he su)) M:=by
 have key:Ok (zaW [wsT [k,to,tr,pu,wo,he,su]] M) fun t M'=>t = caT (askIn to tr pu wo he su)/\M' = M:=by
  refine qu rfl ?_
  unfold zhk
  have x1:atI [FT.T.str (S k),.str (S to),.str (S tr),.str (S pu),.str (S wo),.str (S he),.str (S su)] 1 = some (.str (S to)):=rfl
  have x2:atI [FT.T.str (S k),.str (S to),.str (S tr),.str (S pu),.str (S wo),.str (S he),.str (S su)] 2 = some (.str (S tr)):=rfl
  have x3:atI [FT.T.str (S k),.str (S to),.str (S tr),.str (S pu),.str (S wo),.str (S he),.str (S su)] 3 = some (.str (S pu)):=rfl
  have x4:atI [FT.T.str (S k),.str (S to),.str (S tr),.str (S pu),.str (S wo),.str (S he),.str (S su)] 4 = some (.str (S wo)):=rfl
  have x5:atI [FT.T.str (S k),.str (S to),.str (S tr),.str (S pu),.str (S wo),.str (S he),.str (S su)] 5 = some (.str (S he)):=rfl
  have x6:atI [FT.T.str (S k),.str (S to),.str (S tr),.str (S pu),.str (S wo),.str (S he),.str (S su)] 6 = some (.str (S su)):=rfl
  have e1:eqA (.str (S tr)) (.str "ever") M = .ok (.bl (decide (tr = zbh))) M:=zfH tr zbh M
  have e2:eqA (.str (S pu)) (.str "-") M = .ok (.bl (decide (pu = [45]))) M:=zfH pu [45] M
  have k1:k2T "hears" "deaf" [.str (S he)] M = .ok (obT (k2L zB qW he)) M:=zpJ _ _ _ M
  have k2:k2T "sure" "lossy" [.str (S su)] M = .ok (obT (k2L zI zO su)) M:=zpJ _ _ _ M
  have nn:=zdS (l:=tr) hl M
  rw [show wsT [k,to,tr,pu,wo,he,su] = .lst [.str (S k),.str (S to),.str (S tr),.str (S pu),.str (S wo),.str (S he),.str (S su)] from rfl]
  have s6:6<=sizeLine:=sz (by decide)
  by_cases h1:tr = zbh
  ·by_cases h2:pu = [45]
   ·simp_arith [zee,x1,x2,x3,x4,x5,x6,e1,Qu h1,e2,Qu h2,k1,k2,s6]
    exact Ok.ret ⟨by unfold caT askIn;rw [Qw h1,Qw h2];rfl,rfl⟩
   ·simp_arith [zee,x1,x2,x3,x4,x5,x6,e1,Qu h1,e2,Qv h2,k1,k2,s6]
    exact Ok.ret ⟨by unfold caT askIn;rw [Qw h1,Qy h2];rfl,rfl⟩
  ·by_cases h2:pu = [45]
   ·simp_arith [zee,x1,x2,x3,x4,x5,x6,e1,Qv h1,e2,Qu h2,k1,k2,s6,nn]
    exact Ok.ret ⟨by unfold caT askIn;rw [Qy h1,Qw h2];rfl,rfl⟩
   ·simp_arith [zee,x1,x2,x3,x4,x5,x6,e1,Qv h1,e2,Qv h2,k1,k2,s6,nn]
    exact Ok.ret ⟨by unfold caT askIn;rw [Qy h1,Qy h2];rfl,rfl⟩
 obtain ⟨t,M',e,rfl,rfl⟩:=key
 exact e
noncomputable def ze:List Nat:=[104,111,117,115,101]
noncomputable def zr:List Nat:=[97,115,107]
noncomputable def yp:List Nat:=[112,117,114,115,101]
noncomputable def zd5 (hs:List CH) (a:CA):List CH:=match hs.getLast? with
 | some c=>hs.dropLast ++ [⟨c.name,c.asks ++ [a]⟩]
 | none=>hs
noncomputable def rdP (hs:List CH) (ps:List CP):List (List Nat)->Option (List CH × List CP)
 | [k,x]=>if k = ze/\ps = [] then some (hs ++ [⟨x,[]⟩],ps) else none
 | [k,a,b,c]=>if k = yp then some (hs,ps ++ [⟨a,b,zP c⟩]) else none
 | [k,a,b,c,d,e,f]=>if k = zr/\ps = []/\hs ≠ [] then some (zd5 hs (askIn a b c d e f),ps) else none
 | _=>none
theorem zgR (hs:List CH) (ps:List CP) (k x:List Nat):rdP hs ps [k,x] = if k = ze/\ps = [] then some (hs ++ [⟨x,[]⟩],ps) else none:=rfl
theorem zi1 (hs:List CH) (ps:List CP) (k a b c:List Nat):rdP hs ps [k,a,b,c] = if k = yp then some (hs,ps ++ [⟨a,b,zP c⟩]) else none:=rfl
theorem zgQ (hs:List CH) (ps:List CP) (k a b c d e f:List Nat):rdP hs ps [k,a,b,c,d,e,f] = if k = zr/\ps = []/\hs ≠ [] then some (zd5 hs (askIn a b c d e f),ps) else none:=rfl
theorem zlp {hs:List CH} (h1:¬ (k = ze/\W.length = 1/\ps.length = 0)) (h2:¬ (k = zr/\W.length = 6/\ps.length = 0/\0 < hs.length)) (h3:¬ (k = yp/\W.length = 3)):rdP hs ps (k :: W) = none:=by
 match W with
 | []=>rfl
 | [x]=>rw [zgR,Qy (fun z=>h1 ⟨z.1,rfl,by rw [z.2];rfl⟩)]
 | [_,_]=>rfl
 | [a,b,c]=>rw [zi1,Qy (fun z=>h3 ⟨z,rfl⟩)]
 | [_,_,_,_]=>rfl
 | [_,_,_,_,_]=>rfl
 | [a,b,c,d,e,f]=>rw [zgQ,Qy (fun z=>h2 ⟨z.1,rfl,by rw [z.2.1];rfl,List.length_pos_iff.mpr z.2.2⟩)]
 | _ :: _ :: _ :: _ :: _ :: _ :: _ :: _=>rfl
variable {σ:Ev} {A:Ev->Mem->Out FT.T}
theorem tv {a:Bool} (hA:A σ M = .ok (.bl a) M):zm A σ M = .ok a M:=by
 unfold zm
 rw [hA]
 rfl
theorem tA {A B:Ev->Mem->Out Bool} {a b:Bool} (hA:A σ M = .ok a M) (hB:B σ M = .ok b M):zM A B σ M = .ok (a && b) M:=by
 unfold zM
 rw [hA]
 cases a
 ·rfl
 ·exact hB
variable {B:Ev->Mem->Out FT.T}
theorem tA2 {a b:Bool} (hA:A σ M = .ok (.bl a) M) (hB:B σ M = .ok (.bl b) M):zM (zm A) (zm B) σ M = .ok (a && b) M:=tA (tv hA) (tv hB)
variable {c:Bool} {C:Ev->Mem->Out FT.T}
theorem tA3 {a b:Bool} (hA:A σ M = .ok (.bl a) M) (hB:B σ M = .ok (.bl b) M) (hC:C σ M = .ok (.bl c) M):zM (zm A) (zM (zm B) (zm C)) σ M = .ok (a && (b && c)) M:=tA (tv hA) (tA2 hB hC)
theorem tA4 {D:Ev->Mem->Out FT.T} {a b d:Bool} (hA:A σ M = .ok (.bl a) M) (hB:B σ M = .ok (.bl b) M) (hC:C σ M = .ok (.bl c) M) (hD:D σ M = .ok (.bl d) M):zM (zm A) (zM (zm B) (zM (zm C) (zm D))) σ M = .ok (a && (b && (c && d))) M:=tA (tv hA) (tA3 hB hC hD)
structure Lay (B h p:Nat) (hs:List CH) (ps:List CP) (bs:List Nat) (M:Mem):Prop where
 len:bs.length = hs.length
 hl:M[h]? = some (.lst ((hs.zip bs).map fun q=>.tup [.str (S q.1.name),.ref q.2]))
 pl:M[p]? = some (.lst (ps.map cpT))
 at_:∀ (i:Nat) c b,hs[i]? = some c->bs[i]? = some b->M[b]? = some (.lst (c.asks.map caT))
 nd:bs.Nodup
 off:∀ b ∈ bs,b ≠ h/\b ≠ p/\B<=b
 hp:h ≠ p
 hB:B<=h/\B<=p
theorem zol {α:Type} (xs:List α) (x:α):atI (xs ++ [x]) (-1) = some x:=by
 unfold atI ixN
 rw [Qy (by omega)]
 have:(-1:Int) + ((xs ++ [x]).length:Int) = (xs.length:Int):=by simp;omega
 rw [this,Qw (by simp;omega)]
 simp
variable {M0:Mem}
theorem zjh {B:Nat} {M':Mem} {x:Nat} {c:Cell} (f:Fr [] M0 M) (hB:B = M0.length) (hx:B<=x) (e:M' = M.set x c):Fr [] M0 M':=by
 subst e
 exact f.tr (Fr.set _ _ _) (by simp;omega)
section
theorem znr {h p:Nat} {hs:List CH} {bs:List Nat} (L:Lay M0.length h p hs ps bs M) (f0:Fr [] M0 M) (hW:W ≠ []) (hw:∀ w ∈ W,w.length<=2000) (hl:hs.length<=500) (pl:ps.length<=500) (al:∀ c ∈ hs,c.asks.length<=500) :
  OkX (zbw kN [.ref h,.ref p,wsT W] M) (fun t M'=>t = .non/\∃ hs' ps' bs',rdP hs ps W = some (hs',ps')/\Lay M0.length h p hs' ps' bs' M'/\Fr [] M0 M') (fun C _ M'=>C = kN/\rdP hs ps W = none/\Fr [] M0 M'):=by
 refine za8 rfl ?_
 unfold zeq
 rw [show startT 3 [FT.T.ref h,.ref p,wsT W] = [some (.ref h),some (.ref p),some (.lst (W.map fun w=>.str (S w)))] from rfl]
 obtain ⟨k,W',rfl⟩:∃ k W',W = k :: W':=by cases W with | nil=>exact absurd rfl hW | cons k W'=>exact ⟨k,W',rfl⟩
 have e1:eqA (.str (S k)) (.str "house") M = .ok (.bl (decide (k = ze))) M:=zfH k ze M
 have e2:eqA (.str (S k)) (.str "ask") M = .ok (.bl (decide (k = zr))) M:=zfH k zr M
 have e3:eqA (.str (S k)) (.str "purse") M = .ok (.bl (decide (k = yp))) M:=zfH k yp M
 have lh:=zeL L.hl
 have lp:=zeL L.pl
 have lz:((hs.zip bs).map fun q:CH × Nat=>FT.T.tup [.str (S q.1.name),.ref q.2]).length = hs.length:=by rw [Qf,List.length_zip,L.len,Nat.min_self]
 rw [lz] at lh
 rw [Qf] at lp
 have lW:∀ M,zC (.lst (FT.T.str (S k) :: W'.map fun w=>FT.T.str (S w))) M = .ok (.int ((W'.length + 1:Nat):Int)) M:=fun M=>by rw [zlP];simp
 have s2:2<=sizeLine:=sz (by decide)
 have s3:3<=sizeLine:=sz (by decide)
 have s1:1<=sizeLine:=sz (by decide)
 have s0:0<=sizeLine:=Nat.zero_le _
 have hin:h < M.length:=zaM L.hl
 have pin:p < M.length:=zaM L.pl
 have q0:eOp ixT (yb 2) (eC (.int 0)) [some (.ref h),some (.ref p),some (.lst ((k :: W').map fun w=>FT.T.str (S w)))] M = .ok (.str (S k)) M:=by simp_arith [and_self]
 have qk:∀ (z:Str) (b:Bool),eqA (.str (S k)) (.str z) M = .ok (.bl b) M->eOp eqA (eOp ixT (yb 2) (eC (.int 0))) (eC (.str z)) [some (.ref h),some (.ref p),some (.lst ((k :: W').map fun w=>FT.T.str (S w)))] M = .ok (.bl b) M:=fun z b e=>by simp_arith [e]
 have qn:∀ i:Int,eOp eqA (qd (zl zC) (zb (yb 2) qc)) (eC (.int i)) [some (.ref h),some (.ref p),some (.lst ((k :: W').map fun w=>FT.T.str (S w)))] M = .ok (.bl (((W'.length + 1:Nat):Int) == i)) M:=fun i=>by
  rw [QF]
  simp_arith [lW]
 have qp:eOp eqA (qd (zl zC) (zb (yb 1) qc)) (eC (.int 0)) [some (.ref h),some (.ref p),some (.lst ((k :: W').map fun w=>FT.T.str (S w)))] M = .ok (.bl ((ps.length:Int) == 0)) M:=by simp_arith [lp]
 have qh:eOp gtI (qd (zl zC) (zb (yb 0) qc)) (eC (.int 0)) [some (.ref h),some (.ref p),some (.lst ((k :: W').map fun w=>FT.T.str (S w)))] M = .ok (.bl (decide ((hs.length:Int) > 0))) M:=by simp_arith [lh]
 have t1:=tA3 (qk _ _ e1) (qn 2) qp
 have t2:=tA4 (qk _ _ e2) (qn 7) qp qh
 have t3:=tA2 (qk _ _ e3) (qn 4)
 simp only [sIf,t1,t2,t3,zbV]
 by_cases c1:k = ze/\W'.length = 1/\ps.length = 0
 ·obtain ⟨hk,hl1,hp0⟩:=c1
  obtain ⟨x,rfl⟩:∃ x,W' = [x]:=List.length_eq_one_iff.mp hl1
  have hps:ps = []:=List.eq_nil_of_length_eq_zero hp0
  have ap:=yS (a:=h) (t:=.tup [.str (S x),.ref M.length]) (M:=M ++ [Cell.lst []]) ((Fr.app M [Cell.lst []]).get0 L.hl) (by rw [lz,sizeLine_eq];omega)
  rw [Qw (show (decide (k = ze) && (((([x].length + 1:Nat):Int) == 2) && ((ps.length:Int) == 0))) = true by simp [hk,hp0])]
  refine OkX.ok ?_
  simp_arith [yE L.hl,s2,s0,ap]
  refine Ok.ret ⟨rfl,hs ++ [⟨x,[]⟩],ps,bs ++ [M.length],by rw [zgR,Qw ⟨hk,hps⟩],?_,?_⟩
  ·have hset:∀ (b:Nat) c,b ≠ h->(M ++ [Cell.lst []])[b]? = some c->((M ++ [Cell.lst []]).set h (.lst ((hs.zip bs).map (fun q:CH × Nat=>FT.T.tup [.str (S q.1.name),.ref q.2]) ++ [.tup [.str (S x),.ref M.length]])))[b]? = some c:=fun b c hb e=>(Fr.set _ _ _).get e (by simpa using hb)
   refine ⟨by simp [L.len],?_,hset _ _ L.hp.symm ((Fr.app M _).get0 L.pl),?_,?_,?_,L.hp,L.hB⟩
   ·rw [get_set ((Fr.app M [Cell.lst []]).get0 L.hl),zip_append L.len.symm,Qo]
    rfl
   ·intro i c b hi hb
    rw [getElem?_append] at hi hb
    rw [L.len] at hb
    split at hi
    ·rename_i hlt
     rw [Qw hlt] at hb
     exact hset _ _ (L.off b (Q9 hb)).1 ((Fr.app M _).get0 (L.at_ i c b hi hb))
    ·rename_i hlt
     rw [Qy hlt] at hb
     have:i - hs.length = 0:=by have:=(Qx.mp hi).1;simp at this;omega
     rw [this] at hi hb
     cases hi
     cases hb
     exact hset _ _ (by omega) qB
   ·refine nodup_append.mpr ⟨L.nd,by simp,fun a ha b hb=>?_⟩
    rw [Qz.mp hb]
    obtain ⟨i,hi⟩:=mem_iff_getElem?.mp ha
    have hi':=(Qx.mp hi).1
    have:=zaM (L.at_ i _ a (Q0 (by rw [← L.len];exact hi')) hi)
    omega
   ·intro b hb
    rcases QC.mp hb with hb | hb
    ·exact L.off b hb
    ·rw [Qz.mp hb]
     exact ⟨by omega,by omega,f0.1⟩
  ·exact zjh (f0.tr (Fr.app M _) (by simp)) rfl L.hB.1 rfl
 have n1:¬ (decide (k = ze) && (((W'.length + 1:Nat):Int) == 2 && ((ps.length:Int) == 0))) = true:=fun z=>c1 (by
  simp only [Qq,decide_eq_true_eq,beq_iff_eq] at z
  exact ⟨z.1,by omega,by omega⟩)
 rw [Qy n1]
 by_cases c2:k = zr/\W'.length = 6/\ps.length = 0/\0 < hs.length
 ·obtain ⟨hk,hl6,hp0,hh0⟩:=c2
  obtain ⟨a,b,c,d,e,f,rfl⟩:∃ a b c d e f,W' = [a,b,c,d,e,f]:=by
   match W',hl6 with
   | [a,b,c,d,e,f],_=>exact ⟨a,b,c,d,e,f,rfl⟩
  have hps:ps = []:=List.eq_nil_of_length_eq_zero hp0
  have hne:hs ≠ []:=List.length_pos_iff.mp hh0
  obtain ⟨hi,cl,rfl⟩:∃ hi cl,hs = hi ++ [cl]:=by
   rcases eq_nil_or_concat hs with z | ⟨hi,cl,z⟩
   ·exact absurd z hne
   ·exact ⟨hi,cl,by rw [z];simp⟩
  obtain ⟨bi,bl,rfl⟩:∃ bi bl,bs = bi ++ [bl]:=by
   rcases eq_nil_or_concat bs with z | ⟨hi,cl,z⟩
   ·exfalso;have:=L.len;rw [z] at this;simp at this
   ·exact ⟨hi,cl,by rw [z];simp⟩
  have lbi:bi.length = hi.length:=by have:=L.len;simpa using this
  have zE:((hi ++ [cl]).zip (bi ++ [bl])).map (fun q:CH × Nat=>FT.T.tup [.str (S q.1.name),.ref q.2]) = (hi.zip bi).map (fun q:CH × Nat=>FT.T.tup [.str (S q.1.name),.ref q.2]) ++ [.tup [.str (S cl.name),.ref bl]]:=by rw [zip_append lbi.symm,Qo];rfl
  have gh:M[h]? = some (.lst ((hi.zip bi).map (fun q:CH × Nat=>FT.T.tup [.str (S q.1.name),.ref q.2]) ++ [.tup [.str (S cl.name),.ref bl]])):=by rw [← zE];exact L.hl
  have gb:M[bl]? = some (.lst (cl.asks.map caT)):=L.at_ hi.length cl bl (by simp) (by rw [← lbi];simp)
  have ob:=L.off bl (by simp)
  have ix1:ixT (.ref h) (.int (-1)) M = .ok (.tup [.str (S cl.name),.ref bl]) M:=by
   unfold ixT zhe
   simp only [gh,zol]
   rfl
  have ia:=zkZ (k:=k) (to:=a) (tr:=b) (pu:=c) (wo:=d) (he:=e) (su:=f) (hw b (by simp)) M
  have ap:=yS (a:=bl) (t:=caT (askIn a b c d e f)) gb (by rw [Qf,sizeLine_eq];have:=al cl (by simp);omega)
  rw [Qw (show (decide (k = zr) && (((([a,b,c,d,e,f].length + 1:Nat):Int) == 7) && (((ps.length:Int) == 0) && decide (((hi ++ [cl]).length:Int) > 0)))) = true by simp [hk,hp0])]
  refine OkX.ok ?_
  have ev:eOp ixT (eOp ixT (yb 0) (eUn zdg (eC (.int 1)))) (eC (.int 1)) [some (.ref h),some (.ref p),some (.lst ([k,a,b,c,d,e,f].map fun w=>FT.T.str (S w)))] M = .ok (.ref bl) M:=by
   have:eOp ixT (yb 0) (eUn zdg (eC (.int 1))) [some (.ref h),some (.ref p),some (.lst ([k,a,b,c,d,e,f].map fun w=>FT.T.str (S w)))] M = .ok (.tup [.str (S cl.name),.ref bl]) M:=ix1
   show (Out.bind (eOp ixT (yb 0) (eUn zdg (eC (.int 1))) [some (.ref h),some (.ref p),some (.lst ([k,a,b,c,d,e,f].map fun w=>FT.T.str (S w)))] M) fun x M1=>(eC (.int 1) _ M1).bind fun y M2=>ixT x y M2) = _
   rw [this]
   rfl
  have bb:(qO (zaj yW (eUn qI (eOp ixT (eOp ixT (yb 0) (eUn zdg (eC (.int 1)))) (eC (.int 1)))) (zb (qd zaW (zb (yb 2) qc)) qc)) [some (.ref h),some (.ref p),some (.lst ([k,a,b,c,d,e,f].map fun w=>FT.T.str (S w)))] M) = .ok (.nx [some (.ref h),some (.ref p),some (.lst ([k,a,b,c,d,e,f].map fun w=>FT.T.str (S w)))]) (M.set bl (.lst (cl.asks.map caT ++ [caT (askIn a b c d e f)]))):=by
   have ia:zaW [.lst ([k,a,b,c,d,e,f].map fun w=>FT.T.str (S w))] M = .ok (caT (askIn a b c d e f)) M:=ia
   unfold qO zaj
   simp only [eUn,ev,zbV,yE gb,zb,qd,yb,qc,getElem?_cons_succ,List.getElem?_cons_zero,ia,ap]
  rw [bb]
  have al':zd5 (hi ++ [cl]) (askIn a b c d e f) = hi ++ [⟨cl.name,cl.asks ++ [askIn a b c d e f]⟩]:=by
   unfold zd5
   simp
  refine Ok.ret ⟨rfl,hi ++ [⟨cl.name,cl.asks ++ [askIn a b c d e f]⟩],ps,bi ++ [bl],by rw [zgQ,Qw ⟨hk,hps,hne⟩,al'],?_,zjh f0 rfl ob.2.2 rfl⟩
  have hset:∀ (x:Nat) c',x ≠ bl->M[x]? = some c'->(M.set bl (.lst (cl.asks.map caT ++ [caT (askIn a b c d e f)])))[x]? = some c':=fun x c' hx e'=>(Fr.set _ _ _).get e' (by simpa using hx)
  refine ⟨by simp [lbi],?_,hset _ _ ob.2.1.symm L.pl,?_,L.nd,L.off,L.hp,L.hB⟩
  ·rw [hset _ _ ob.1.symm gh,zip_append lbi.symm,Qo]
   rfl
  ·intro i c' b' hi' hb'
   rw [getElem?_append] at hi' hb'
   rw [lbi] at hb'
   split at hi'
   ·rename_i hlt
    rw [Qw hlt] at hb'
    have hne':b' ≠ bl:=fun z=>by
     have:=(nodup_append.mp L.nd).2.2 b' (Q9 hb') bl (by simp)
     exact this z
    exact hset _ _ hne' (L.at_ i c' b' (by rw [getElem?_append,Qw hlt];exact hi') (by rw [getElem?_append,lbi,Qw hlt];exact hb'))
   ·rename_i hlt
    rw [Qy hlt] at hb'
    have:i - hi.length = 0:=by have:=(Qx.mp hi').1;simp at this;omega
    rw [this] at hi' hb'
    cases hi'
    cases hb'
    rw [get_set gb,Qo]
    rfl
 have n2:¬ (decide (k = zr) && (((W'.length + 1:Nat):Int) == 7 && ((ps.length:Int) == 0 && decide ((hs.length:Int) > 0)))) = true:=fun z=>c2 (by
  simp only [Qq,decide_eq_true_eq,beq_iff_eq] at z
  exact ⟨z.1,by omega,by omega,by omega⟩)
 rw [Qy n2]
 by_cases c3:k = yp/\W'.length = 3
 ·obtain ⟨hk,hl3⟩:=c3
  obtain ⟨a,b,c,rfl⟩:∃ a b c,W' = [a,b,c]:=by
   match W',hl3 with
   | [a,b,c],_=>exact ⟨a,b,c,rfl⟩
  have nn:=zdS (l:=c) (hw c (by simp)) M
  have ap:=yS (a:=p) (t:=cpT ⟨a,b,zP c⟩) L.pl (by rw [Qf,sizeLine_eq];omega)
  rw [show cpT ⟨a,b,zP c⟩ = .tup [.str (S a),.str (S b),noT (zP c)] from rfl] at ap
  rw [Qw (show (decide (k = yp) && ((([a,b,c].length + 1:Nat):Int) == 4)) = true by simp [hk])]
  refine OkX.ok ?_
  simp_arith [yE L.pl,s3,nn,ap]
  refine Ok.ret ⟨rfl,hs,ps ++ [⟨a,b,zP c⟩],bs,by rw [zi1,Qw hk],?_,zjh f0 rfl L.hB.2 rfl⟩
  have hset:∀ (x:Nat) c' c'',x ≠ p->M[x]? = some c'->(M.set p c'')[x]? = some c':=fun x c' c'' hx e'=>(Fr.set _ _ _).get e' (by simpa using hx)
  refine ⟨L.len,hset _ _ _ L.hp L.hl,?_,fun i c' b' hi' hb'=>hset _ _ _ (L.off b' (Q9 hb')).2.1 (L.at_ i c' b' hi' hb'),L.nd,L.off,L.hp,L.hB⟩
  rw [get_set L.pl,Qo]
  rfl
 have n3:¬ (decide (k = yp) && (((W'.length + 1:Nat):Int) == 4)) = true:=fun z=>c3 (by
  simp only [Qq,decide_eq_true_eq,beq_iff_eq] at z
  exact ⟨z.1,by omega⟩)
 rw [Qy n3]
 simp_arith [za7,rai]
 exact ⟨rfl,zlp c1 c2 c3,f0⟩
end
noncomputable def yR (t:Int):List Nat:=if t = 0 then zbh else [48 + t.toNat]
noncomputable def puW (o:Option Str):List Nat:=o.elim [45] fun z=>z.cps.toList
noncomputable def qD (q:Ask):List (List Nat):=[zr,q.to.cps.toList,yR q.tries,puW q.purse,q.word.cps.toList,if q.hears then zB else qW,if q.sure then zI else zO]
noncomputable def hsW (h:Hs):List (List (List Nat)):=[ze,h.name.cps.toList] :: h.asks.map qD
noncomputable def qZ (p:Pu):List (List Nat):=[yp,p.name.cps.toList,p.earns.cps.toList,[48 + p.per.toNat]]
noncomputable def parts (n:Net):List (List (List Nat)):=n.hs.flatMap hsW ++ n.ps.map qZ
noncomputable def TX (n:Net):List Nat:=jn2 ((parts n).map jn)
theorem toL (z:Str):S z.cps.toList = z:=by simp
theorem zjI:∀ (W:List (List Nat)),((W.map S).map (·.length)).sum + (W.map S).length = (jn W).length + 1\/W = []
 | []=>.inr rfl
 | [x]=>.inl (by simp [jn,qt])
 | x :: y :: r=>.inl (by
  have:=(zjI (y :: r)).resolve_right (by simp)
  simp only [QF,sum_cons,Qn,qt] at this ⊢
  show _ = (x ++ 32 :: jn (y :: r)).length + 1
  rw [Ql,Qn]
  omega)
theorem zmE (hn:W ≠ []) (hl:(jn W).length<=10000) (M:Mem):yP (.str " ") [.lst (W.map fun w=>.str (S w))] M = .ok (.str (S (jn W))) M:=by
 have e:(W.map fun w=>FT.T.str (S w)) = (W.map S).map FT.T.str:=by rw [QI];rfl
 rw [e]
 unfold yP
 simp only [zv,zgD]
 have h1:=(zjI W).resolve_right hn
 rw [Qw (by rw [show (Str.ofString " ").length = 1 from rfl];omega)]
 have:Txt.join " " (W.map S) = S (jn W):=by
  unfold Txt.join
  rw [StrLaws.glued_eq_join]
  have:=zb9 (W.map S)
  rw [show (W.map S).map (fun p=>p.cps.toList) = W from by rw [QI];simp [Function.comp_def]] at this
  rw [← this]
  exact zeZ _
 rw [this]
theorem zh8:∀ (W:List (List Nat)),((W.map S).map (·.length)).sum + (W.map S).length * 2 = (jn2 W).length + 2\/W = []
 | []=>.inr rfl
 | [x]=>.inl (by simp [jn2,qt])
 | x :: y :: r=>.inl (by
  have:=(zh8 (y :: r)).resolve_right (by simp)
  simp only [QF,sum_cons,Qn,qt] at this ⊢
  show _ = (x ++ 59 :: 32 :: jn2 (y :: r)).length + 2
  rw [Ql,Qn,Qn]
  omega)
theorem zkh (hn:W ≠ []) (hl:(jn2 W).length<=10000) (ht:zv t M = some (W.map fun w=>.str (S w))):yP (.str "; ") [t] M = .ok (.str (S (jn2 W))) M:=by
 have e:(W.map fun w=>FT.T.str (S w)) = (W.map S).map FT.T.str:=by rw [QI];rfl
 rw [e] at ht
 unfold yP
 simp only [ht,zgD]
 have h1:=(zh8 W).resolve_right hn
 rw [Qw (by rw [show (Str.ofString "; ").length = 2 from rfl];omega)]
 have:Txt.join "; " (W.map S) = S (jn2 W):=by
  unfold Txt.join
  rw [StrLaws.glued_eq_join]
  have:=zeM (W.map S)
  rw [show (W.map S).map (fun p=>p.cps.toList) = W from by rw [QI];simp [Function.comp_def]] at this
  rw [← this]
  exact zeZ _
 rw [this]
theorem zia:∀ k:Nat,k < 10->Str.ofString (toString (k:Int)) = S [48 + k]:=by decide +kernel
theorem zlc (h0:0<=i) (h:i < 10) (M:Mem):zgB (.int i) M = .ok (.str (S [48 + i.toNat])) M:=by
 obtain ⟨k,rfl⟩:∃ k:Nat,i = k:=⟨i.toNat,by omega⟩
 unfold zgB
 have:((k:Int)).natAbs.log2 < 1920:=by
  have h1:((k:Int)).natAbs = k:=by omega
  rw [h1]
  exact Nat.lt_of_le_of_lt (Nat.log2_le_self k) (by omega)
 dsimp only
 rw [Qw this,zia k (by omega)]
 rfl
theorem zro {later:List Str} (h:AO later pn q) (hl:∀ x ∈ later,x.length<=8) (hp:∀ x ∈ pn,x.length<=8):(jn (qD q)).length<=100:=by
 have h1:q.to.cps.toList.length<=8:=by have:=hl _ h.to;simpa [Str.length] using this
 have h2:(yR q.tries).length<=4:=by unfold yR;split <;> simp [zbh]
 have h3:(puW q.purse).length<=8:=by
  cases e:q.purse with
  | none=>decide
  | some z=>have:=hp z (h.pu z e);simpa [puW,Str.length] using this
 have h4:q.word.cps.toList.length<=5:=by rcases h.wo with z | z <;> (rw [z];decide)
 have h5:(if q.hears then zB else qW).length<=5:=by split <;> decide
 have h6:(if q.sure then zI else zO).length<=5:=by split <;> decide
 unfold qD jn jn jn jn jn jn jn
 simp only [Ql,Qn]
 have:zr.length = 3:=rfl
 omega
theorem okB {β:Type} {o:Out β} {b:β} {Q:β->Mem->Prop} (e:o = .ok b M) (h:Q b M):Ok (o.bind fun b M=>.ok b M) Q:=by
 rw [e]
 exact Ok.ret h
theorem zh2 {later:List Str} (h:AO later pn q) (hl:(jn (qD q)).length<=100) (M:Mem):zaD [yz q] M = .ok (.str (S (jn (qD q)))) M:=by
 have key:Ok (zaD [yz q] M) fun t M'=>t = .str (S (jn (qD q)))/\M' = M:=by
  refine qu rfl ?_
  unfold zfb
  have t0:=h.t0
  have t4:=h.t4
  clear h
  have st:=fun M=>zlc (i:=q.tries) t0 (by omega) M
  have js:=zmE (W:=qD q) (by unfold qD;simp) (by omega) M
  obtain ⟨to,tr,pu,wo,he,su⟩:=q
  dsimp only at t0 t4 st
  have s7:7<=sizeLine:=sz (by decide)
  have x4:∀ a b c d e f:FT.T,atI [a,b,c,d,e,f] 4 = some e:=fun _ _ _ _ _ _=>rfl
  have x5:∀ a b c d e f:FT.T,atI [a,b,c,d,e,f] 5 = some f:=fun _ _ _ _ _ _=>rfl
  have js':yP (.str " ") [.lst [.str "ask",.str to,.str (S (yR tr)),.str (S (puW pu)),.str wo,.str (S (if he then zB else qW)),.str (S (if su then zI else zO))]] M = .ok (.str (S (jn (qD ⟨to,tr,pu,wo,he,su⟩)))) M:=by
   rw [← js]
   show yP _ [.lst [.str "ask",.str to,.str (S (yR tr)),.str (S (puW pu)),.str wo,.str (S (if he then zB else qW)),.str (S (if su then zI else zO))]] M = yP _ [.lst [.str (S zr),.str (S to.cps.toList),.str (S (yR tr)),.str (S (puW pu)),.str (S wo.cps.toList),.str (S (if he then zB else qW)),.str (S (if su then zI else zO))]] M
   rw [toL,toL]
   rfl
  have n1:∀ M,isN .non .non M = .ok (.bl true) M:=fun _=>rfl
  have n2:∀ (z:Str) M,isN (.str z) .non M = .ok (.bl false) M:=fun _ _=>rfl
  by_cases hz:tr = 0
  ·have tE:FT.T.str (S (yR tr)) = .str "ever":=by unfold yR;rw [Qw hz];rfl
   rw [tE] at js'
   subst hz
   cases pu with
   | none=>
    cases he <;> cases su <;> (simp_arith [yz,opS,Option.elim,x4,x5,n1,s7,qA,zJ];rw [show FT.T.str (S (puW none)) = .str "-" from rfl] at js';exact okB js' ⟨rfl,rfl⟩)
   | some z=>
    rw [show FT.T.str (S (puW (some z))) = .str z by unfold puW;simp] at js'
    cases he <;> cases su <;> (simp_arith [yz,opS,Option.elim,x4,x5,n2,s7,qA,zJ];exact okB js' ⟨rfl,rfl⟩)
  ·have tE:FT.T.str (S (yR tr)) = .str (S [48 + tr.toNat]):=by unfold yR;rw [Qy hz]
   rw [tE] at js'
   have hb:(tr == 0) = false:=by simpa using hz
   cases pu with
   | none=>
    cases he <;> cases su <;> (simp_arith [yz,opS,Option.elim,x4,x5,n1,s7,qA,zJ,hb,st];rw [show FT.T.str (S (puW none)) = .str "-" from rfl] at js';exact okB js' ⟨rfl,rfl⟩)
   | some z=>
    rw [show FT.T.str (S (puW (some z))) = .str z by unfold puW;simp] at js'
    cases he <;> cases su <;> (simp_arith [yz,opS,Option.elim,x4,x5,n2,s7,qA,zJ,hb,st];exact okB js' ⟨rfl,rfl⟩)
 obtain ⟨t,M',e,rfl,rfl⟩:=key
 exact e
theorem zkm:∀ {ps:List (List Nat)},(∀ p ∈ ps,p.length<=100)->(jn2 ps).length<=ps.length * 102
 | [],_=>by simp [jn2]
 | [x],h=>by have:=h x (.head _);simp [jn2];omega
 | x :: y :: r,h=>by
  have:=h x (.head _)
  have:=zkm (ps:=y :: r) fun p hp=>h p (.tail _ hp)
  rw [jn2,Ql,Qn,Qn]
  simp only [Qn] at this ⊢
  omega
variable {h:Hs}
section
theorem GN.nl (gn:GN n):∀ x ∈ n.hs.map (·.name),x.length<=8:=fun x hx=>gn.hn.len hx
theorem GN.pl (gn:GN n):∀ x ∈ n.ps.map (·.name),x.length<=8:=fun x hx=>gn.pn.len hx
theorem GN.nm (gn:GN n) (hh:h ∈ n.hs):h.name.cps.toList.length<=8:=by
 have:=gn.nl h.name (QE.mpr ⟨h,hh,rfl⟩)
 simpa [Str.length] using this
theorem GN.pm (gn:GN n) {h:Pu} (hh:h ∈ n.ps):h.name.cps.toList.length<=8:=by
 have:=gn.pl h.name (QE.mpr ⟨h,hh,rfl⟩)
 simpa [Str.length] using this
theorem GN.al (gn:GN n) (hh:h ∈ n.hs) (hq:q ∈ h.asks):∃ later pn,AO later pn q/\(jn (qD q)).length<=100:=by
 obtain ⟨i,hi⟩:=mem_iff_getElem?.mp hh
 have ao:=gn.ao i h hi q hq
 exact ⟨_,_,ao,zro ao (fun x hx=>gn.nl x (mem_of_mem_drop hx)) gn.pl⟩
theorem zoV (gn:GN n) {p:Pu} (hp:p ∈ n.ps):(jn (qZ p)).length<=100:=by
 have h1:=gn.pm hp
 have h2:p.earns.cps.toList.length<=5:=by rcases (gn.pe p hp).1 with z | z <;> (rw [z];decide)
 unfold qZ jn jn jn jn
 simp only [Ql,Qn,length_nil]
 have:yp.length = 5:=rfl
 omega
theorem zpN (gn:GN n) (hh:h ∈ n.hs):∀ p ∈ hsW h,(jn p).length<=100:=by
 intro p hp
 rcases QA.mp hp with rfl | hp
 ·have:=gn.nm hh
  show (ze ++ 32 :: h.name.cps.toList).length<=100
  rw [Ql,Qn]
  have:ze.length = 5:=rfl
  omega
 ·obtain ⟨q,hq,rfl⟩:=QE.mp hp
  obtain ⟨_,_,_,z⟩:=gn.al hh hq
  exact z
theorem zdP (gn:GN n):∀ p ∈ parts n,(jn p).length<=100:=by
 intro p hp
 rcases QC.mp hp with hp | hp
 ·obtain ⟨h,hh,hp⟩:=mem_flatMap.mp hp
  exact zpN gn hh p hp
 ·obtain ⟨q,hq,rfl⟩:=QE.mp hp
  exact zoV gn hq
theorem zfE:∀ hs:List Hs,(hs.flatMap hsW).length = hs.length + (hs.map (·.asks.length)).sum
 | []=>rfl
 | h :: hs=>by
  rw [List.flatMap_cons,Ql,zfE hs,QF,sum_cons,Qn]
  show (h.asks.map qD).length + 1 + _ = _
  rw [Qf]
  omega
theorem yY (gn:GN n):(parts n).length<=12:=by
 unfold parts
 rw [Ql,Qf,zfE]
 have:=gn.h4
 have:=gn.p2
 have:=gn.a6
 omega
theorem zam (gn:GN n):parts n ≠ []:=by
 intro z
 have:=congrArg List.length z
 unfold parts at this
 rw [Ql,zfE] at this
 have h1:=gn.h1
 rw [length_nil] at this
 omega
theorem zd6 (gn:GN n):(TX n).length<=1224:=by
 unfold TX
 refine Qh (zkm fun p hp=>?_) ?_
 ·obtain ⟨q,hq,rfl⟩:=QE.mp hp
  exact zdP gn q hq
 ·rw [Qf]
  have:=yY gn
  omega
end
theorem zsd (x z:Str):zaG [x,z] = S (x.cps.toList ++ z.cps.toList):=by
 show x ++ (z ++ Str.empty) = _
 rw [zd4]
 conv=>lhs;rw [zeZ x,zeZ z]
 rw [zdv]
theorem zre {z:Str} (h:σ[2]? = some (some (.str z))) (hl:z.length<=8) (M:Mem):zcd [.inl "house ",.inr 2] σ M = .ok (.str (S (jn [ze,z.cps.toList]))) M:=by
 have p:ptT σ [.inl "house ",.inr 2] = some [("house ":Str),z]:=by
  unfold ptT ptT
  rw [h]
  rfl
 unfold zcd
 rw [p]
 have e:zaG [("house ":Str),z] = S (jn [ze,z.cps.toList]):=by rw [zsd];rfl
 dsimp only
 have hz:z.cps.toList.length<=8:=by simpa [Str.length] using hl
 have hc:ze.length = 5:=rfl
 rw [e,Qw (sz (by
  rw [qt]
  show (ze ++ 32 :: z.cps.toList).length<=10000
  rw [Ql,Qn]
  omega))]
theorem zrd {y:Str} (hx:x.length<=8) (hy:y.length<=8) (h0:0<=i) (h9:i < 10) (M:Mem):zcd [.inl "purse ",.inr 0,.inl " ",.inr 1,.inl " ",.inr 2] [some (.str x),some (.str y),some (.int i)] M = .ok (.str (S (jn [yp,x.cps.toList,y.cps.toList,[48 + i.toNat]]))) M:=by
 obtain ⟨k,rfl⟩:∃ k:Nat,i = k:=⟨i.toNat,by omega⟩
 have hlg:((k:Int)).natAbs.log2 < 1920:=by
  have h1:((k:Int)).natAbs = k:=by omega
  rw [h1]
  exact Nat.lt_of_le_of_lt (Nat.log2_le_self k) (by omega)
 have p:ptT [some (.str x),some (.str y),some (.int (k:Int))] [.inl "purse ",.inr 0,.inl " ",.inr 1,.inl " ",.inr 2] = some [("purse ":Str),x," ",y," ",S [48 + k]]:=by
  rw [← zia k (by omega)]
  simp only [ptT,List.getElem?_cons_zero,getElem?_cons_succ,Qw hlg,Option.map_some]
 have e:zaG [("purse ":Str),x," ",y," ",S [48 + k]] = S (jn [yp,x.cps.toList,y.cps.toList,[48 + k]]):=by
  show ("purse ":Str) ++ (x ++ (" " ++ (y ++ (" " ++ (S [48 + k] ++ Str.empty))))) = _
  rw [zd4]
  conv=>lhs;rw [zeZ x,zeZ y,show ("purse ":Str) = S [112,117,114,115,101,32] from rfl,show (" ":Str) = S [32] from rfl]
  rw [zdv,zdv,zdv,zdv,zdv]
  rfl
 have hx':x.cps.toList.length<=8:=by simpa [Str.length] using hx
 have hy':y.cps.toList.length<=8:=by simpa [Str.length] using hy
 unfold zcd
 rw [p]
 dsimp only
 rw [e,Qw (sz (by
  rw [qt]
  unfold jn jn jn jn
  simp only [Ql,Qn,length_nil]
  have:yp.length = 5:=rfl
  omega))]
 rfl
theorem zep (gn:GN n) (M:Mem):Ok (zaC [qG n] M) fun t M'=>t = .str (S (TX n))/\Fr [] M M':=by
 refine qu rfl ?_
 unfold ze8
 rw [show startT 4 [qG n] = [some (.tup [.tup (n.hs.map hsT),.tup (n.ps.map puT)]),none,none,none] from rfl]
 have h4:=gn.h4
 have p2:=gn.p2
 refine Ok.seqR fun X hX=>?_
 simp_arith [and_self]
 rw [hX];clear hX;simp only [zh]
 refine Ok.seqR fun X hX=>?_
 simp_arith [and_self]
 refine Ok.bind (Ok.for (r:=hsT) (xs:=n.hs) (fun k σ M'=>∃ (o2 o3:Option FT.T) (P:List (List Nat)),σ = [some (.tup [.tup (n.hs.map hsT),.tup (n.ps.map puT)]),some (.ref M.length),o2,o3]/\M' = M ++ [.lst (P.map fun w=>.str (S w))]/\P = ((n.hs.take k).flatMap hsW).map jn) ⟨none,none,[],rfl,rfl,rfl⟩ ?_) ?_
 ·rintro k x σ M2 hx ⟨o2,o3,P,rfl,rfl,hP⟩
  have hm:=Q9 hx
  have a3:=gn.a3 x hm
  have lP:P.length<=100:=by
   rw [hP,Qf]
   have h1:((n.hs.take k).flatMap hsW).length<=(parts n).length:=by
    unfold parts
    conv=>rhs;rw [← List.take_append_drop k n.hs,flatMap_append,Ql,Ql]
    omega
   have:=yY gn
   omega
  have ap:=yS (a:=M.length) (xs:=P.map fun w=>.str (S w)) (t:=.str (S (jn [ze,x.name.cps.toList]))) (M:=M ++ [.lst (P.map fun w=>.str (S w))]) qB (by rw [Qf,sizeLine_eq];omega)
  rw [show (M ++ [Cell.lst (P.map fun w=>FT.T.str (S w))]).set M.length (Cell.lst (P.map (fun w=>FT.T.str (S w)) ++ [FT.T.str (S (jn [ze,x.name.cps.toList]))])) = M ++ [Cell.lst ((P ++ [jn [ze,x.name.cps.toList]]).map fun w=>FT.T.str (S w))] by simp] at ap
  have fh:=fun σ h M=>zre (σ:=σ) (z:=x.name) h (gn.nl x.name (QE.mpr ⟨x,hm,rfl⟩)) M
  have cp:∀ M,yt (qf 0) zw (qd zaD (zb (yb 0) qc)) (x.asks.map yz) [none] M [] = .ok ((x.asks.map fun q=>jn (qD q)).map fun w=>.str (S w)) M:=fun M=>by
   rw [QI]
   refine Ok.mapc (r:=yz) (fun σ=>∃ o,σ = [o]) _ ⟨_,rfl⟩ (by omega) ?_
   rintro q σ hq ⟨o,rfl⟩
   obtain ⟨_,_,ao,hl⟩:=gn.al hm hq
   refine ⟨[some (yz q)],rfl,⟨_,rfl⟩,?_⟩
   simp_arith [zh2 ao hl]
   rfl
  simp_arith [hsT]
  unfold zex
  refine Ok.seqX fun X hX=>?_
  simp only [qO,zaj,eUn,yb,getElem?_cons_succ,List.getElem?_cons_zero,zbV,yE (M:=M ++ [.lst (P.map fun w=>FT.T.str (S w))]) qB,zb,qc]
  rw [fh _ rfl]
  simp only [zbV,ap]
  rw [hX];clear hX;simp only [zh]
  have ex:zdr (.ref M.length) [.lst ((x.asks.map fun q=>jn (qD q)).map fun w=>FT.T.str (S w))] (M ++ [.lst ((P ++ [jn [ze,x.name.cps.toList]]).map fun w=>FT.T.str (S w))]) = .ok .non (M ++ [.lst ((P ++ [jn [ze,x.name.cps.toList]] ++ x.asks.map fun q=>jn (qD q)).map fun w=>FT.T.str (S w))]):=by
   unfold zdr
   simp only [qB]
   rw [Qw (by simp only [Qf,Ql,Qn,length_nil];omega)]
   congr 1
   simp
  have il:zcr (.ref M.length) (M ++ [.lst ((P ++ [jn [ze,x.name.cps.toList]]).map fun w=>FT.T.str (S w))]) = true:=by
   unfold zcr
   simp only [zap qB]
   rfl
  generalize hQ:(x.asks.map fun q=>jn (qD q)) = Q at cp ex
  generalize hP2:P ++ [jn [ze,x.name.cps.toList]] = P2 at ex il
  simp_arith [qA,il,cp,ex]
  refine Ok.ret ⟨_,rfl,_,_,P2 ++ Q,rfl,rfl,?_⟩
  rw [take_succ,hx,flatMap_append,Qo,← hP,← hP2,← hQ]
  show _ = P ++ ([x].flatMap hsW).map jn
  simp [hsW]
 rintro fl M2 ⟨σ,rfl,o2,o3,P,rfl,rfl,hP⟩
 rw [take_length] at hP
 rw [hX];clear hX;simp only [zh]
 have lP:P.length<=12:=by
  rw [hP,Qf]
  have:=yY gn
  unfold parts at this
  rw [Ql] at this
  omega
 have cp:∀ M,yt (zah 3 (yo (qf 0) (yo (qf 1) (yo (qf 2) zai)))) zw (zcd [.inl "purse ",.inr 0,.inl " ",.inr 1,.inl " ",.inr 2]) (n.ps.map puT) [none,none,none] M [] = .ok ((n.ps.map fun p=>jn (qZ p)).map fun w=>.str (S w)) M:=fun M=>by
  rw [QI]
  refine Ok.mapc (r:=puT) (fun σ=>∃ a b c,σ = [a,b,c]) _ ⟨_,_,_,rfl⟩ (by omega) ?_
  rintro p σ hp ⟨a,b,c,rfl⟩
  obtain ⟨pe1,pe2,pe3⟩:=gn.pe p hp
  refine ⟨[some (.str p.name),some (.str p.earns),some (.int p.per)],rfl,⟨_,_,_,rfl⟩,?_⟩
  exact zrd (gn.pl _ (QE.mpr ⟨p,hp,rfl⟩)) (by rcases pe1 with z | z <;> (rw [z];decide)) (by omega) (by omega) M
 have ex:zdr (.ref M.length) [.lst ((n.ps.map fun p=>jn (qZ p)).map fun w=>FT.T.str (S w))] (M ++ [.lst (P.map fun w=>FT.T.str (S w))]) = .ok .non (M ++ [.lst ((P ++ n.ps.map fun p=>jn (qZ p)).map fun w=>FT.T.str (S w))]):=by
  unfold zdr
  simp only [qB]
  rw [Qw (by simp only [Qf];omega)]
  congr 1
  simp
 have il:zcr (.ref M.length) (M ++ [.lst (P.map fun w=>FT.T.str (S w))]) = true:=by
  unfold zcr
  simp only [zap qB]
  rfl
 have tE:jn2 (P ++ n.ps.map fun p=>jn (qZ p)) = TX n:=by
  unfold TX parts
  rw [Qo,← hP,QI]
  rfl
 have hne:P ++ (n.ps.map fun p=>jn (qZ p)) ≠ []:=fun z=>zam gn (by
  have:=congrArg List.length z
  rw [hP,Ql,Qf,Qf] at this
  refine List.eq_nil_of_length_eq_zero ?_
  unfold parts
  rw [Ql,Qf]
  exact this)
 generalize (n.ps.map fun p=>jn (qZ p)) = Q at cp ex tE hne
 have jj:=zkh (W:=P ++ Q) hne (by rw [tE];have:=zd6 gn;omega) (t:=.ref M.length) (M:=M ++ [.lst ((P ++ Q).map fun w=>FT.T.str (S w))]) (zap qB)
 rw [tE] at jj
 refine Ok.seqR fun X hX=>?_
 simp_arith [qA,il,cp,ex]
 rw [hX];clear hX;simp only [zh]
 simp_arith [qA,zJ]
 exact okB jj ⟨rfl,Fr.app _ _⟩
end My
namespace FT
open PySem L2
theorem OkX.for {bd:T->Ev->Mem->Out Ev} {body:Ev->Mem->Out Fl} {α:Type} {r:α->T} (P:Nat->Ev->Mem->Prop) {E:Addr->List (Str × T)->Mem->Prop}:∀ (xs:List α) (i:Nat) {σ:Ev} {M:Mem},
  P i σ M->(∀ (k:Nat) x σ M,xs[k]? = some x->P (i + k) σ M->OkX ((bd (r x) σ M).bind fun σ1 M1=>body σ1 M1) (fun fl M'=>∃ σ',fl = .nx σ'/\P (i + k + 1) σ' M') E)->
  OkX (forL bd body (xs.map r) σ M) (fun fl M'=>∃ σ',fl = .nx σ'/\P (i + xs.length) σ' M') E
 | [],i,σ,M,h,_=>⟨σ,rfl,h⟩
 | x :: xs,i,σ,M,h,t=>by
  have h1:=t 0 x σ M rfl h
  rw [QF,zf3]
  cases q:bd (r x) σ M with
  | bad=>rw [q] at h1;exact h1.elim
  | exn C fs M'=>rw [q] at h1;exact h1
  | ok σ3 M3=>
   rw [q] at h1
   replace h1:OkX (body σ3 M3) _ _:=h1
   show OkX ((body σ3 M3).bind (yU (forL bd body (xs.map r)))) _ _
   refine OkX.bind h1 ?_
   rintro fl M1 ⟨σ1,rfl,h2⟩
   have ih:=OkX.for (E:=E) P xs (i + 1) (bd:=bd) (body:=body) h2 (fun k y σ M hk hp=>by
    have:=t (k + 1) y σ M (by simpa using hk) (by rw [show i + (k + 1) = i + 1 + k by omega];exact hp)
    rw [show i + (k + 1) + 1 = i + 1 + k + 1 by omega] at this
    exact this)
   rw [Qn,show i + (xs.length + 1) = i + 1 + xs.length by omega]
   exact ih
end FT
namespace My
open PySem L2 FT
theorem zdZ {G:Gd} {M:Mem} {bd:FT.T->FT.Ev->Mem->Out FT.Ev} {el:FT.Ev->Mem->Out FT.T} (hG:zcF G M) {α:Type} {r:α->FT.T} (I:FT.Ev->Prop) (f:α->FT.T):∀ {xs:List α} {σ:FT.Ev} {acc:List FT.T},I σ->acc.length + xs.length<=10000->
  (∀ x σ,x ∈ xs->I σ->∃ σ1,bd (r x) σ M = .ok σ1 M/\I σ1/\el σ1 M = .ok (f x) M)->qF G bd zw el (xs.map r) σ M acc = .ok (acc ++ xs.map f) M
 | [],σ,acc,_,_,_=>by
  show gdK G M (.ok acc M) = _
  rw [map_nil,append_nil]
  exact zdX hG
 | x :: xs,σ,acc,h,hl,t=>by
  obtain ⟨σ1,e1,i1,e2⟩:=t x σ (.head _) h
  show gdK G M ((bd (r x) σ M).bind fun σ1 M1=>(zw σ1 M1).bind fun b M2=>if b = true then (el σ1 M2).bind fun t M3=>if acc.length < sizeLine then qF G bd zw el (xs.map r) σ1 M3 (acc ++ [t]) else .bad else qF G bd zw el (xs.map r) σ1 M2 acc) = _
  rw [zdX hG,e1]
  show ((el σ1 M).bind fun t M3=>if acc.length < sizeLine then qF G bd zw el (xs.map r) σ1 M3 (acc ++ [t]) else .bad) = _
  rw [e2]
  show (if acc.length < sizeLine then qF G bd zw el (xs.map r) σ1 M (acc ++ [f x]) else .bad) = _
  rw [Qn] at hl
  rw [Qw (by rw [sizeLine_eq];omega),zdZ hG I f i1 (by rw [Ql,Qs];omega) (fun y σ hy=>t y σ (.tail _ hy))]
  simp
noncomputable def rdG:List (List (List Nat))->List CH->List CP->Option (List CH × List CP)
 | [],hs,ps=>some (hs,ps)
 | W :: r,hs,ps=>match rdP hs ps W with
  | some q=>rdG r q.1 q.2
  | none=>none
theorem zbm:∀ (A B:List (List (List Nat))) (hs:List CH) (ps:List CP),rdG (A ++ B) hs ps = (rdG A hs ps).bind fun q=>rdG B q.1 q.2
 | [],B,hs,ps=>rfl
 | W :: A,B,hs,ps=>by
  rw [cons_append,rdG,rdG]
  cases rdP hs ps W with
  | none=>rfl
  | some q=>exact zbm A B q.1 q.2
structure Bd (k:Nat) (hs:List CH) (ps:List CP):Prop where
 h:hs.length<=k
 p:ps.length<=k
 a:∀ c ∈ hs,c.asks.length<=k
 l:∀ c ∈ hs,c.name.length<=2000/\∀ q ∈ c.asks,q.to.length<=2000/\q.word.length<=2000/\∀ z,q.purse = some z->z.length<=2000
 q:∀ c ∈ ps,c.name.length<=2000/\c.earns.length<=2000
variable {ps:List CP}
theorem Bd.mono {k m:Nat} {hs:List CH} (b:Bd k hs ps) (h:k<=m):Bd m hs ps:=⟨Qh b.h h,Qh b.p h,fun c hc=>Qh (b.a c hc) h,b.l,b.q⟩
theorem zeY (hi:List CH) (c:CH) (x:CA):zd5 (hi ++ [c]) x = hi ++ [⟨c.name,c.asks ++ [x]⟩]:=by
 unfold zd5
 simp
variable {W:List (List Nat)}
theorem Bd.step {k:Nat} {hs hs':List CH} {ps':List CP} (b:Bd k hs ps) (hw:∀ w ∈ W,w.length<=2000) (e:rdP hs ps W = some (hs',ps')):Bd (k + 1) hs' ps':=by
 have b1:=b.mono (Nat.le_succ k)
 match W,e with
 | [k',x],e=>
  rw [zgR] at e
  split at e
  ·cases e
   refine ⟨by have:=b.h;simp;omega,b1.p,fun c hc=>?_,fun c hc=>?_,b.q⟩
   ·rcases QC.mp hc with hc | hc
    ·exact b1.a c hc
    ·rw [Qz.mp hc];simp
   ·rcases QC.mp hc with hc | hc
    ·exact b.l c hc
    ·rw [Qz.mp hc];exact ⟨hw x (by simp),fun q hq=>by cases hq⟩
  ·cases e
 | [k',x,y,z],e=>
  rw [zi1] at e
  split at e
  ·cases e
   refine ⟨b1.h,by have:=b.p;simp;omega,b1.a,b.l,fun c hc=>?_⟩
   rcases QC.mp hc with hc | hc
   ·exact b.q c hc
   ·rw [Qz.mp hc];exact ⟨hw x (by simp),hw y (by simp)⟩
  ·cases e
 | [k',a1,a2,a3,a4,a5,a6],e=>
  rw [zgQ] at e
  split at e
  ·rename_i hc
   cases e
   obtain ⟨hi,cl,rfl⟩:∃ hi cl,hs = hi ++ [cl]:=by
    rcases eq_nil_or_concat hs with z | ⟨hi,cl,z⟩
    ·exact absurd z hc.2.2
    ·exact ⟨hi,cl,by rw [z];simp⟩
   rw [zeY]
   refine ⟨by have:=b1.h;simpa using this,b1.p,fun c hc=>?_,fun c hc=>?_,b.q⟩
   ·rcases QC.mp hc with hc | hc
    ·exact b1.a c (by simp [hc])
    ·rw [Qz.mp hc]
     have:=b.a cl (by simp)
     simp;omega
   ·rcases QC.mp hc with hc | hc
    ·exact b.l c (by simp [hc])
    ·rw [Qz.mp hc]
     have:=b.l cl (by simp)
     refine ⟨this.1,fun q hq=>?_⟩
     rcases QC.mp hq with hq | hq
     ·exact this.2 q hq
     ·rw [Qz.mp hq]
      refine ⟨hw a1 (by simp),hw a4 (by simp),fun z hz=>?_⟩
      have hz:(if a3 = [45] then none else some a3) = some z:=hz
      split at hz
      ·cases hz
      ·cases hz;exact hw a3 (by simp)
  ·cases e
 | [],e=>cases e
 | [_],e=>cases e
 | [_,_,_],e=>cases e
 | [_,_,_,_,_],e=>cases e
 | [_,_,_,_,_,_],e=>cases e
 | _ :: _ :: _ :: _ :: _ :: _ :: _ :: _ :: _,e=>cases e
theorem zqU {hs:List CH} (b:Bd 90 hs ps):NP (cnT hs ps):=⟨rfl,fun H P e=>by
 cases e
 have bh:=b.h
 have bp:=b.p
 have pls:∀ l:List Nat,l.length<=2000->plT (.str (S l)) = true:=fun l hl=>Qu (by rw [qt];exact hl)
 refine ⟨Qu (by rw [Qf];omega),Qu (by rw [Qf];omega),?_,?_,fun _ _=>⟨?_,?_⟩⟩
 ·rintro xs e o ho
  cases e
  obtain ⟨x,hx,rfl⟩:=QE.mp ho
  refine ⟨rfl,fun a r e=>?_⟩
  cases e
  exact pls _ (b.l x hx).1
 ·rintro xs e o ho
  cases e
  obtain ⟨x,hx,rfl⟩:=QE.mp ho
  refine ⟨rfl,fun a r e=>?_⟩
  cases e
  exact pls _ (b.q x hx).1
 ·rintro xs a b' c e ho
  cases e
  obtain ⟨x,hx,e⟩:=QE.mp ho
  cases e
  exact ⟨rfl,by cases x.per <;> rfl⟩
 ·rintro xs a b' e ho
  cases e
  obtain ⟨x,hx,e⟩:=QE.mp ho
  cases e
  refine ⟨Qu (by rw [Qf];have:=b.a x hx;omega),fun xs e q hq=>?_⟩
  cases e
  obtain ⟨c,hc,rfl⟩:=QE.mp hq
  refine ⟨rfl,fun a0 a1 a2 a3 a4 a5 e=>?_⟩
  unfold caT at e
  cases e
  exact ⟨rfl,by cases c.tries <;> rfl,by cases c.purse <;> rfl,rfl,by cases c.hears <;> rfl,by cases c.sure <;> rfl⟩⟩
variable {xs:List FT.T} {M:Mem}
theorem zg5 {a:Nat} (h:M[a]? = some (.lst xs)):zdj (.ref a) M = some (xs,[(a,xs)]):=by
 unfold zdj
 simp only [h]
theorem zdi {α β:Type} {f:α->β} (hf:∀ a b,f a = f b->a = b):∀ {xs ys:List α},xs.map f = ys.map f->xs = ys
 | [],[],_=>rfl
 | [],_ :: _,h=>by cases h
 | _ :: _,[],h=>by cases h
 | x :: xs,y :: ys,h=>by
  obtain ⟨h1,h2⟩:=List.cons.inj h
  rw [hf _ _ h1,zdi hf h2]
theorem znA {a b:Option Str} (h:opS a = opS b):a = b:=by
 cases a <;> cases b <;> first | rfl | (cases h;rfl) | cases h
theorem zmp (a b:Ask) (h:yz a = yz b):a = b:=by
 obtain ⟨a1,a2,a3,a4,a5,a6⟩:=a
 obtain ⟨b1,b2,b3,b4,b5,b6⟩:=b
 unfold yz at h
 simp only [FT.T.tup.injEq,List.cons.injEq,FT.T.str.injEq,FT.T.int.injEq,FT.T.bl.injEq,and_true] at h
 obtain ⟨h1,h2,h3,h4,h5,h6⟩:=h
 rw [h1,h2,znA h3,h4,h5,h6]
theorem znQ (a b:Hs) (h:hsT a = hsT b):a = b:=by
 obtain ⟨a1,a2⟩:=a
 obtain ⟨b1,b2⟩:=b
 unfold hsT at h
 simp only [FT.T.tup.injEq,List.cons.injEq,FT.T.str.injEq,and_true] at h
 rw [h.1,zdi zmp h.2]
theorem zm8 (a b:Pu) (h:puT a = puT b):a = b:=by
 obtain ⟨a1,a2,a3⟩:=a
 obtain ⟨b1,b2,b3⟩:=b
 unfold puT at h
 simp only [FT.T.tup.injEq,List.cons.injEq,FT.T.str.injEq,FT.T.int.injEq,and_true] at h
 rw [h.1,h.2.1,h.2.2]
theorem zlK {a b:Net} (h:qG a = qG b):a = b:=by
 obtain ⟨a1,a2⟩:=a
 obtain ⟨b1,b2⟩:=b
 unfold qG at h
 simp only [FT.T.tup.injEq,List.cons.injEq,and_true] at h
 rw [zdi znQ h.1,zdi zm8 h.2]
variable {kN:Addr} {l w:List Nat}
section
theorem zmv (hl:w.length<=2000) (M:Mem):zaI (.str (S w)) [.str " "] M = .ok ((spl w).map fun x=>.str (S x)) M:=by
 unfold zaI
 dsimp only
 have e:=zqA w
 have c:=zkl (spl w)
 rw [zgE] at c
 rw [show (Str.ofString " ") = S [32] from rfl,e,Qw ⟨rfl,sz (by rw [qt];omega),sz (by rw [Qf];omega)⟩,QI]
 rfl
theorem zjN (hl:w.length<=2000) (M:Mem):zaI (.str (S w)) [.str "; "] M = .ok ((qR w).map fun x=>.str (S x)) M:=by
 unfold zaI
 dsimp only
 have e:=zoH w
 have c:=ziD (qR w)
 rw [zfq] at c
 rw [show (Str.ofString "; ") = S [59,32] from rfl,e,Qw ⟨rfl,sz (by rw [qt];omega),sz (by rw [Qf];omega)⟩,QI]
 rfl
noncomputable def rdA (l:List Nat):Option (List CH × List CP):=rdG ((qR l).map spl) [] []
theorem zih (hl:l.length<=2000) (hc:(qR l).length<=90) (M:Mem) :
  OkX (qP kN [.str (S l)] M) (fun t M'=>∃ n,GN n/\t = qG n/\TX n = l/\Fr [] M M')
   (fun C _ M'=>C = kN/\Fr [] M M'/\∀ hs ps n,rdA l = some (hs,ps)->cnT hs ps = qG n->GN n->TX n ≠ l):=by
 refine za8 rfl ?_
 unfold zdn
 rw [show startT 5 [FT.T.str (S l)] = [some (.str (S l)),none,none,none,none] from rfl]
 have st:∀ (q r:FT.Ev->Mem->Out Fl) (σ:FT.Ev) (N:Mem) (σ':FT.Ev) (N':Mem),q σ N = .ok (.nx σ') N'->(zg q r σ N).bind zbl = (r σ' N').bind zbl:=fun q r σ N σ' N' e=>by
  unfold zg
  rw [e]
  rfl
 rw [st _ _ _ _ [some (.str (S l)),none,none,none,none] M (by simp_arith [zkK]),
  st _ _ _ _ [some (.str (S l)),some (.ref M.length),none,none,none] (M ++ [.lst []]) (by simp_arith [and_self]),
  st _ _ _ _ [some (.str (S l)),some (.ref M.length),some (.ref (M.length + 1)),none,none] (M ++ [.lst []] ++ [.lst []]) (by simp_arith [Ql,Qs])]
 have pl:∀ w ∈ qR l,w.length<=2000:=fun w hw=>by
  have:=ziC hw
  rw [zfq] at this
  omega
 have f0:Fr [] M (M ++ [Cell.lst []] ++ [Cell.lst []]):=(Fr.app _ _).tr (Fr.app _ _) (by simp)
 unfold zg
 rw [zhC]
 have lp:=OkX.for (bd:=qf 3) (body:=zaf kN) (r:=fun w=>FT.T.str (S w)) (E:=fun C _ M'=>C = kN/\Fr [] M M'/\rdA l = none) (fun i σ M'=>∃ (hs:List CH) (ps:List CP) (bs:List Nat) (o3:Option FT.T),σ = [some (.str (S l)),some (.ref M.length),some (.ref (M.length + 1)),o3,none]/\rdG (((qR l).take i).map spl) [] [] = some (hs,ps)/\Lay M.length M.length (M.length + 1) hs ps bs M'/\Fr [] M M'/\Bd i hs ps) (qR l) 0
  (σ:=[some (.str (S l)),some (.ref M.length),some (.ref (M.length + 1)),none,none]) (M:=M ++ [.lst []] ++ [.lst []])
  ⟨[],[],[],none,rfl,rfl,⟨rfl,zl6,by have:=qB (M:=M ++ [Cell.lst []]) (c:=Cell.lst []);rw [Ql,Qs] at this;exact this,(fun i c b h=>by simp at h),List.nodup_nil,(fun b h=>by cases h),(by omega),(by omega)⟩,f0,⟨Nat.zero_le _,Nat.zero_le _,(fun c h=>by cases h),(fun c h=>by cases h),(fun c h=>by cases h)⟩⟩ (by
  rintro k w σ M1 hw ⟨hs,ps,bs,o3,rfl,hr,L,f1,bd⟩
  rw [Nat.zero_add] at hr bd
  have hk:k < (qR l).length:=(Qx.mp hw).1
  have hm:=Q9 hw
  have wl:=pl w hm
  have wW:∀ x ∈ spl w,x.length<=2000:=fun x hx=>by have:=zmZ hx;omega
  have po:=znr (kN:=kN) L f1 (W:=spl w) (zjM w) wW (by have:=bd.h;omega) (by have:=bd.p;omega) (fun c hc=>by have:=bd.a c hc;omega)
  have tk:rdG (((qR l).take (k + 1)).map spl) [] [] = rdG [spl w] hs ps:=by
   rw [take_succ,hw,Qo,zbm,hr]
   rfl
  show OkX (zaf kN [some (.str (S l)),some (.ref M.length),some (.ref (M.length + 1)),some (.str (S w)),none] M1) _ _
  unfold zaf qO
  have ar:(zb (yb 1) (zb (yb 2) (zb (eFz (zS (yb 3) (zb (eC (.str " ")) qc))) qc))) [some (.str (S l)),some (.ref M.length),some (.ref (M.length + 1)),some (.str (S w)),none] M1 = .ok [.ref M.length,.ref (M.length + 1),wsT (spl w)] M1:=by
   simp_arith [zS,zJ,zmv wl]
   rfl
  unfold qd
  rw [ar,zbV]
  refine OkX.bind (P:=fun t M'=>t = .non/\∃ hs' ps' bs',rdP hs ps (spl w) = some (hs',ps')/\Lay M.length M.length (M.length + 1) hs' ps' bs' M'/\Fr [] M M') (OkX.mono po (fun t M' h=>h) ?_) ?_
  ·rintro C fs M' ⟨rfl,hn,f2⟩
   refine ⟨rfl,f2,?_⟩
   unfold rdA
   rw [← List.take_append_drop (k + 1) (qR l),Qo,zbm,tk]
   unfold rdG
   rw [hn]
   rfl
  ·rintro t M' ⟨rfl,hs',ps',bs',hp,L',f2⟩
   refine ⟨_,rfl,hs',ps',bs',_,rfl,?_,L',f2,?_⟩
   ·rw [Nat.zero_add,tk]
    unfold rdG
    rw [hp]
    rfl
   ·rw [Nat.zero_add]
    exact bd.step wW hp)
 rw [show zbk (qX (eFz (zS (yb 0) (zb (eC (.str "; ")) qc)))) (qf 3) (zaf kN) [some (.str (S l)),some (.ref M.length),some (.ref (M.length + 1)),none,none] (M ++ [.lst []] ++ [.lst []]) = forL (qf 3) (zaf kN) ((qR l).map fun w=>FT.T.str (S w)) [some (.str (S l)),some (.ref M.length),some (.ref (M.length + 1)),none,none] (M ++ [.lst []] ++ [.lst []]) from by simp_arith [zS,zJ,zjN hl]]
 refine OkX.bind (OkX.mono lp (fun _ _ h=>h) ?_) ?_
 ·rintro C fs M' ⟨rfl,f1,hn⟩
  exact ⟨rfl,f1,fun hs ps n e=>by rw [hn] at e;cases e⟩
 rintro fl M1 ⟨σ,rfl,hs,ps,bs,o3,rfl,hr,L,f1,bd⟩
 rw [Nat.zero_add,take_length] at hr
 rw [Nat.zero_add] at bd
 have b90:=bd.mono hc
 have hA:rdA l = some (hs,ps):=hr
 have cg:qF [(M.length,(hs.zip bs).map fun q:CH × Nat=>FT.T.tup [.str (S q.1.name),.ref q.2])] (zah 2 (yo (qf 0) (yo (qf 1) zai))) zw (zY (zb (yb 0) (zb (qd (zl qK) (zb (yb 1) qc)) qc))) ((hs.zip bs).map fun q:CH × Nat=>FT.T.tup [.str (S q.1.name),.ref q.2]) [none,none] M1 [] = .ok (hs.map chT) M1:=by
  rw [zdZ (zhf L.hl) (fun σ=>∃ a b,σ = [a,b]) (fun q:CH × Nat=>chT q.1) ⟨_,_,rfl⟩ (by rw [List.length_zip];have:=b90.h;simp;omega) ?_]
  ·rw [nil_append,show (fun q:CH × Nat=>chT q.1) = chT ∘ Prod.fst from rfl,← QI,List.map_fst_zip (by rw [L.len];exact Q3 _)]
  ·rintro q σ hq ⟨a,b,rfl⟩
   obtain ⟨i,hi⟩:=mem_iff_getElem?.mp hq
   rw [List.getElem?_zip_eq_some] at hi
   have ga:=L.at_ i q.1 q.2 hi.1 hi.2
   refine ⟨[some (.str (S q.1.name)),some (.ref q.2)],rfl,⟨_,_,rfl⟩,?_⟩
   simp_arith [zbL ga,sz (show 2<=10000 by decide)]
   rfl
 show OkX ((za6 _ (.nx _) M1).bind zbl) _ _
 simp only [zh]
 have lg:=zg5 L.hl
 generalize ((hs.zip bs).map fun q:CH × Nat=>FT.T.tup [.str (S q.1.name),.ref q.2]) = Z at cg lg
 have s4:zn 4 (zY (zb (qd (zl qK) (zb (eFz (zbz (zdl (yb 1)) (zah 2 (yo (qf 0) (yo (qf 1) zai))) zw (zY (zb (yb 0) (zb (qd (zl qK) (zb (yb 1) qc)) qc))) ["name","asks"] [])) qc)) (zb (qd (zl qK) (zb (yb 2) qc)) qc))) [some (.str (S l)),some (.ref M.length),some (.ref (M.length + 1)),o3,none] M1 = .ok (.nx [some (.str (S l)),some (.ref M.length),some (.ref (M.length + 1)),o3,some (cnT hs ps)]) M1:=by
  simp_arith [zbz,zdl,lg,cg,zbL L.pl,show ∀ xs M,qK (.lst xs) M = .ok (.tup xs) M from fun _ _=>rfl,sz (show 2<=10000 by decide)]
  rfl
 rw [s4]
 simp only [zbV,zh]
 have ne:=zpv (zqU b90) M1
 cases hb:zcE (cnT hs ps) with
 | false=>
  rw [hb] at ne
  simp_arith [ne,za7,rai]
  refine ⟨rfl,f1,fun hs' ps' n e1 e2 gn=>?_⟩
  rw [hA] at e1
  cases e1
  rw [e2,znD gn] at hb
  cases hb
 | true=>
  rw [hb] at ne
  obtain ⟨n,en,gn⟩:=zrf hb
  obtain ⟨t,M2,et,rfl,f2⟩:=zep gn M1
  rw [en] at ne ⊢
  have nn:=neS (TX n) l M2
  by_cases hx:TX n = l
  ·rw [Qu hx] at nn
   refine OkX.ok ?_
   simp_arith [ne,et,nn]
   exact Ok.ret ⟨n,gn,rfl,hx,f1.trans f2⟩
  ·rw [Qv hx] at nn
   simp_arith [ne,et,nn,za7,rai]
   refine ⟨rfl,f1.trans f2,fun hs' ps' n' e1 e2 gn'=>?_⟩
   rw [hA] at e1
   cases e1
   rw [en] at e2
   rw [← zlK e2]
   exact hx
end
def sg (c:Nat):Prop:=(97<=c/\c<=122)\/(48<=c/\c<=57)\/c = 45
def okW (w:List Nat):Prop:=w ≠ []/\∀ c ∈ w,sg c
theorem okW.no (h:okW w) {c:Nat} (hc:c = 32\/c = 59\/c = 9):c ∉ w:=fun z=>by
 have:=h.2 c z
 unfold sg at this
 omega
theorem zkp (h:isW l = true):okW l:=by
 unfold isW at h
 rw [Qq] at h
 have h1:=QB h.1
 refine ⟨fun z=>by rw [z] at h1;simp at h1,fun c hc=>.inl ?_⟩
 exact QB (QD.mp h.2 c hc)
theorem zan (l:List Nat) (h:(!l.isEmpty && l.all fun c=>decide (97<=c/\c<=122)) = true):okW l:=by
 rw [Qq] at h
 refine ⟨(fun z=>by rw [z] at h;cases h.1),fun c hc=>.inl (QB (QD.mp h.2 c hc))⟩
theorem zoC {t:Int} (h0:0<=t) (h4:t<=9):okW (yR t):=by
 unfold yR
 split
 ·exact zan _ (by decide)
 ·refine ⟨by simp,fun c hc=>?_⟩
  rw [Qz.mp hc]
  exact .inr (.inl (by omega))
variable {q:Ask} {h:Hs} {i:Nat} {n:Net}
section
theorem GN.hw (gn:GN n) {x:Str} (hx:x ∈ n.hs.map (·.name)):okW x.cps.toList:=zkp (gn.hn.isw hx)
theorem GN.pw (gn:GN n) {x:Str} (hx:x ∈ n.ps.map (·.name)):okW x.cps.toList:=zkp (gn.pn.isw hx)
theorem zon (gn:GN n) (hi:n.hs[i]? = some h) (hq:q ∈ h.asks):∀ w ∈ qD q,okW w:=by
 have ao:=gn.ao i h hi q hq
 intro w hw
 unfold qD at hw
 simp only [QA,not_mem_nil,or_false] at hw
 rcases hw with rfl | rfl | rfl | rfl | rfl | rfl | rfl
 ·exact zan _ (by decide)
 ·exact gn.hw (mem_of_mem_drop ao.to)
 ·exact zoC ao.t0 (by have:=ao.t4;omega)
 ·cases e:q.purse with
  | none=>exact ⟨by simp [puW],fun c hc=>by rw [show puW none = [45] from rfl,Qz] at hc;exact .inr (.inr hc)⟩
  | some z=>exact gn.pw (ao.pu z e)
 ·rcases ao.wo with z | z <;> (rw [z];exact zan _ (by decide))
 ·split <;> exact zan _ (by decide)
 ·split <;> exact zan _ (by decide)
theorem y4 (gn:GN n):∀ p ∈ parts n,p ≠ []/\∀ w ∈ p,okW w:=by
 intro p hp
 rcases QC.mp hp with hp | hp
 ·obtain ⟨h,hh,hp⟩:=mem_flatMap.mp hp
  obtain ⟨i,hi⟩:=mem_iff_getElem?.mp hh
  rcases QA.mp hp with rfl | hp
  ·refine ⟨by simp,fun w hw=>?_⟩
   simp only [QA,not_mem_nil,or_false] at hw
   rcases hw with rfl | rfl
   ·exact zan _ (by decide)
   ·exact gn.hw (QE.mpr ⟨h,hh,rfl⟩)
  ·obtain ⟨q,hq,rfl⟩:=QE.mp hp
   exact ⟨by simp [qD],zon gn hi hq⟩
 ·obtain ⟨q,hq,rfl⟩:=QE.mp hp
  obtain ⟨pe1,pe2,pe3⟩:=gn.pe q hq
  refine ⟨by simp [qZ],fun w hw=>?_⟩
  unfold qZ at hw
  simp only [QA,not_mem_nil,or_false] at hw
  rcases hw with rfl | rfl | rfl | rfl
  ·exact zan _ (by decide)
  ·exact gn.pw (QE.mpr ⟨q,hq,rfl⟩)
  ·rcases pe1 with z | z <;> (rw [z];exact zan _ (by decide))
  ·refine ⟨by simp,fun c hc=>?_⟩
   rw [Qz.mp hc]
   exact .inr (.inl (by omega))
end
theorem zcT {c:Nat} (hc:c ≠ 32):∀ {W:List (List Nat)},(∀ w ∈ W,c ∉ w)->c ∉ jn W
 | [],_=>by simp [jn]
 | [x],h=>h x (.head _)
 | x :: y :: r,h=>by
  rw [jn]
  intro z
  rcases QC.mp z with z | z
  ·exact h x (.head _) z
  ·rcases QA.mp z with z | z
   ·exact hc z
   ·exact zcT hc (fun w hw=>h w (.tail _ hw)) z
theorem zgV {Ps:List (List (List Nat))} (hn:Ps ≠ []) (h:∀ p ∈ Ps,p ≠ []/\∀ w ∈ p,32 ∉ w/\59 ∉ w):(qR (jn2 (Ps.map jn))).map spl = Ps:=by
 rw [zib (by simpa using hn) (fun q hq=>by
  obtain ⟨p,hp,rfl⟩:=QE.mp hq
  exact zcT (by decide) fun w hw=>((h p hp).2 w hw).2),QI]
 conv=>rhs;rw [← map_id Ps]
 refine map_congr_left fun p hp=>?_
 exact zjL (h p hp).1 fun w hw=>((h p hp).2 w hw).1
theorem zci (gn:GN n):(qR (TX n)).map spl = parts n:=zgV (zam gn) fun p hp=>⟨(y4 gn p hp).1,fun w hw=>⟨((y4 gn p hp).2 w hw).no (by omega),((y4 gn p hp).2 w hw).no (by omega)⟩⟩
noncomputable def zeU (q:Ask):CA:=askIn q.to.cps.toList (yR q.tries) (puW q.purse) q.word.cps.toList (if q.hears then zB else qW) (if q.sure then zI else zO)
noncomputable def yN (h:Hs):CH:=⟨h.name.cps.toList,h.asks.map zeU⟩
noncomputable def zaY (p:Pu):CP:=⟨p.name.cps.toList,p.earns.cps.toList,zP [48 + p.per.toNat]⟩
theorem ziu:∀ k:Nat,k < 10->zP [48 + k] = some k:=by decide +kernel
theorem zii:∀ (as:List Ask) (hs:List CH) (nm:List Nat) (cs:List CA),rdG (as.map qD) (hs ++ [⟨nm,cs⟩]) [] = some (hs ++ [⟨nm,cs ++ as.map zeU⟩],[])
 | [],hs,nm,cs=>by simp [rdG]
 | q :: as,hs,nm,cs=>by
  rw [QF,rdG]
  unfold qD
  rw [zgQ,Qw ⟨rfl,rfl,by simp⟩,zeY]
  show rdG (as.map qD) (hs ++ [⟨nm,cs ++ [zeU q]⟩]) [] = _
  rw [zii as hs nm (cs ++ [zeU q])]
  simp
theorem zmy:∀ (hs:List Hs) (cs:List CH),rdG (hs.flatMap hsW) cs [] = some (cs ++ hs.map yN,[])
 | [],cs=>by simp [rdG]
 | h :: hs,cs=>by
  rw [List.flatMap_cons,zbm]
  have:rdG (hsW h) cs [] = some (cs ++ [yN h],[]):=by
   unfold hsW
   rw [rdG,zgR,Qw ⟨rfl,rfl⟩]
   show rdG (h.asks.map qD) (cs ++ [⟨h.name.cps.toList,[]⟩]) [] = _
   rw [zii]
   simp [yN]
  rw [this]
  show rdG (hs.flatMap hsW) (cs ++ [yN h]) [] = _
  rw [zmy hs]
  simp
theorem zmw:∀ (ps:List Pu) (cs:List CH) (qs:List CP),rdG (ps.map qZ) cs qs = some (cs,qs ++ ps.map zaY)
 | [],cs,qs=>by simp [rdG]
 | p :: ps,cs,qs=>by
  rw [QF,rdG]
  unfold qZ
  rw [zi1,Qw rfl]
  show rdG (ps.map qZ) cs (qs ++ [zaY p]) = _
  rw [zmw ps]
  simp
theorem zaS (n:Net):rdG (parts n) [] [] = some (n.hs.map yN,n.ps.map zaY):=by
 unfold parts
 rw [zbm,zmy]
 show rdG (n.ps.map qZ) ([] ++ n.hs.map yN) [] = _
 rw [zmw]
 simp
section
theorem zrh (gn:GN n) (hi:n.hs[i]? = some h) (hq:q ∈ h.asks):caT (zeU q) = yz q:=by
 have ao:=gn.ao i h hi q hq
 have t0:=ao.t0
 have t4:=ao.t4
 have e1:(if yR q.tries = zbh then some 0 else zP (yR q.tries)) = some q.tries.toNat:=by
  unfold yR
  by_cases hz:q.tries = 0
  ·rw [Qw hz,Qw rfl,hz];rfl
  ·rw [Qy hz,Qy (by intro z;have:=congrArg List.length z;simp [zbh] at this),ziu _ (by omega)]
 have e2:(if puW q.purse = [45] then none else some (puW q.purse)).map S = q.purse:=by
  cases e:q.purse with
  | none=>rfl
  | some z=>
   have hw:=gn.pn.isw (ao.pu z e)
   have:puW (some z) ≠ [45]:=fun y=>by
    have y:z.cps.toList = [45]:=y
    rw [y] at hw
    exact absurd hw (by decide)
   rw [Qy this]
   show some (S z.cps.toList) = some z
   rw [toL]
 have e3:k2L zB qW (if q.hears then zB else qW) = some q.hears:=by cases q.hears <;> decide
 have e4:k2L zI zO (if q.sure then zI else zO) = some q.sure:=by cases q.sure <;> decide
 unfold zeU askIn caT
 dsimp only
 rw [e1,e2,e3,e4,toL,toL]
 show FT.T.tup [.str q.to,.int ((q.tries.toNat:Nat):Int),opS q.purse,.str q.word,.bl q.hears,.bl q.sure] = _
 rw [show ((q.tries.toNat:Nat):Int) = q.tries by omega]
 rfl
theorem zjo (gn:GN n):cnT (n.hs.map yN) (n.ps.map zaY) = qG n:=by
 unfold cnT qG
 rw [QI,QI]
 have h1:n.hs.map (chT ∘ yN) = n.hs.map hsT:=map_congr_left fun h hh=>by
  obtain ⟨i,hi⟩:=mem_iff_getElem?.mp hh
  show FT.T.tup [.str (S h.name.cps.toList),.tup ((h.asks.map zeU).map caT)] = hsT h
  rw [toL,QI]
  unfold hsT
  congr 3
  exact congrArg FT.T.tup (map_congr_left fun q hq=>zrh gn hi hq)
 have h2:n.ps.map (cpT ∘ zaY) = n.ps.map puT:=map_congr_left fun p hp=>by
  obtain ⟨_,pe2,pe3⟩:=gn.pe p hp
  show FT.T.tup [.str (S p.name.cps.toList),.str (S p.earns.cps.toList),noT (zP [48 + p.per.toNat])] = puT p
  rw [toL,toL,ziu _ (by omega)]
  show FT.T.tup [.str p.name,.str p.earns,.int ((p.per.toNat:Nat):Int)] = _
  rw [show ((p.per.toNat:Nat):Int) = p.per by omega]
  rfl
 rw [h1,h2]
theorem zlf (gn:GN n):(qR (TX n)).length<=90:=by
 have:=congrArg List.length (zci gn)
 rw [Qf] at this
 have:=yY gn
 omega
theorem zm5 (kN:Addr) (gn:GN n) (M:Mem):Ok (qP kN [.str (S (TX n))] M) fun t M'=>t = qG n/\Fr [] M M':=by
 have r:=zih (kN:=kN) (l:=TX n) (by have:=zd6 gn;omega) (zlf gn) M
 refine OkX.toOk (OkX.mono r ?_ ?_)
 ·rintro t M' ⟨m,gm,rfl,e,f⟩
  refine ⟨?_,f⟩
  have h1:=zci gm
  rw [e,zci gn] at h1
  have h2:=zaS m
  rw [← h1,zaS n] at h2
  have h3:=zjo gm
  rw [← zjo gn,← h3]
  have:=Qb h2
  rw [(Prod.mk.inj this).1,(Prod.mk.inj this).2]
 ·rintro C fs M' ⟨_,_,h⟩
  refine h _ _ n ?_ (zjo gn) gn rfl
  unfold rdA
  rw [zci gn]
  exact zaS n
end
def Bad (l:List Nat):Prop:=∀ m,GN m->TX m ≠ l
inductive Gp:List (List Nat)->Prop
 | house (x:List Nat):Gp [ze,x]
 | ask (a b c d e f:List Nat) (hb:b = zbh\/∃ k,1<=k/\k<=4/\b = [48 + k]) (hc:c = [45]\/isW c = true) (hd:d = [98,97,100]\/d = [115,112,101,110,116]) (he:e = zB\/e = qW) (hf:f = zI\/f = zO):Gp [zr,a,b,c,d,e,f]
 | purse (a b:List Nat) (k:Nat) (h1:1<=k) (h9:k<=9):Gp [yp,a,b,[48 + k]]
variable {Q:List (List (List Nat))} {m:Net}
section
theorem zp1 (gm:GN m) (hi:m.hs[i]? = some h) (hq:q ∈ h.asks):Gp (qD q):=by
 have ao:=gm.ao i h hi q hq
 have t0:=ao.t0
 have t4:=ao.t4
 refine .ask _ _ _ _ _ _ ?_ ?_ ?_ ?_ ?_
 ·unfold yR
  split
  ·exact .inl rfl
  ·exact .inr ⟨q.tries.toNat,by omega,by omega,rfl⟩
 ·cases e:q.purse with
  | none=>exact .inl rfl
  | some z=>exact .inr (gm.pn.isw (ao.pu z e))
 ·rcases ao.wo with z | z <;> rw [z]
  ·exact .inl rfl
  ·exact .inr rfl
 ·split
  ·exact .inl rfl
  ·exact .inr rfl
 ·split
  ·exact .inl rfl
  ·exact .inr rfl
theorem zbo (gm:GN m):∀ p ∈ parts m,Gp p:=by
 intro p hp
 rcases QC.mp hp with hp | hp
 ·obtain ⟨h,hh,hp⟩:=mem_flatMap.mp hp
  obtain ⟨i,hi⟩:=mem_iff_getElem?.mp hh
  rcases QA.mp hp with rfl | hp
  ·exact .house _
  ·obtain ⟨q,hq,rfl⟩:=QE.mp hp
   exact zp1 gm hi hq
 ·obtain ⟨q,hq,rfl⟩:=QE.mp hp
  obtain ⟨_,pe2,pe3⟩:=gm.pe q hq
  exact .purse _ _ _ (by omega) (by omega)
theorem zdp (gm:GN m):∃ x r,parts m = [ze,x] :: r:=by
 unfold parts
 have h1:=gm.h1
 cases e:m.hs with
 | nil=>rw [e] at h1;simp at h1
 | cons h hs=>exact ⟨_,_,rfl⟩
theorem Gp.len {p:List (List Nat)} (h:Gp p):(p.head? = some ze/\p.length = 2)\/(p.head? = some zr/\p.length = 7)\/(p.head? = some yp/\p.length = 4):=by
 cases h with
 | house x=>exact .inl ⟨rfl,rfl⟩
 | ask=>exact .inr (.inl ⟨rfl,rfl⟩)
 | purse=>exact .inr (.inr ⟨rfl,rfl⟩)
theorem Gp.more {p:List (List Nat)} (h:Gp p) (x:List Nat):¬ Gp (p ++ [x]):=fun g=>by
 have hd:(p ++ [x]).head? = p.head?:=by cases h <;> rfl
 have l:=g.len
 rw [hd,Ql,Qs] at l
 have n1:(some ze:Option (List Nat)) ≠ some zr:=by decide
 have n2:(some ze:Option (List Nat)) ≠ some yp:=by decide
 have n3:(some zr:Option (List Nat)) ≠ some yp:=by decide
 rcases h.len with ⟨a,b⟩ | ⟨a,b⟩ | ⟨a,b⟩ <;> rcases l with ⟨c,d⟩ | ⟨c,d⟩ | ⟨c,d⟩ <;> first | omega | (rw [a] at c;first | exact absurd c n1 | exact absurd c n2 | exact absurd c n3 | exact absurd c.symm n1 | exact absurd c.symm n2 | exact absurd c.symm n3)
theorem zd1 (hn:Q ≠ []) (h:∀ p ∈ Q,p ≠ []/\∀ w ∈ p,32 ∉ w/\59 ∉ w) (hb:∀ m,GN m->parts m ≠ Q):Bad (jn2 (Q.map jn)):=fun m gm e=>by
 have:=zci gm
 rw [e,zgV hn h] at this
 exact hb m gm this.symm
theorem zdu (h:∀ p ∈ Q,p ≠ []/\∀ w ∈ p,32 ∉ w/\59 ∉ w) {p:List (List Nat)} (hp:p ∈ Q) (hb:¬ Gp p):Bad (jn2 (Q.map jn)):=zd1 (fun z=>by rw [z] at hp;cases hp) h fun m gm e=>hb (zbo gm p (by rw [e];exact hp))
end
theorem zbS:∀ {A B:List (List Nat)},A ≠ []->B ≠ []->jn2 (A ++ B) = jn2 A ++ 59 :: 32 :: jn2 B
 | [],_,h,_=>absurd rfl h
 | [x],y :: B,_,_=>rfl
 | [x],[],_,h=>absurd rfl h
 | x :: y :: A,B,_,hB=>by
  show x ++ 59 :: 32 :: jn2 ((y :: A) ++ B) = _
  rw [zbS (A:=y :: A) (by simp) hB]
  show _ = (x ++ 59 :: 32 :: jn2 (y :: A)) ++ 59 :: 32 :: jn2 B
  simp
theorem zec:∀ {W:List (List Nat)} (w:List Nat),W ≠ []->jn (W ++ [w]) = jn W ++ 32 :: w
 | [],_,h=>absurd rfl h
 | [x],w,_=>rfl
 | x :: y :: r,w,_=>by
  show x ++ 32 :: jn ((y :: r) ++ [w]) = _
  rw [zec w (by simp)]
  show _ = (x ++ 32 :: jn (y :: r)) ++ 32 :: w
  simp
section
theorem qT (gn:GN n):∀ p ∈ parts n,p ≠ []/\∀ w ∈ p,32 ∉ w/\59 ∉ w:=fun p hp=>⟨(y4 gn p hp).1,fun w hw=>⟨((y4 gn p hp).2 w hw).no (by omega),((y4 gn p hp).2 w hw).no (by omega)⟩⟩
theorem zcs (gn:GN n) {p:List (List Nat)} (hp:p ≠ []/\∀ w ∈ p,32 ∉ w/\59 ∉ w):∀ q ∈ parts n ++ [p],q ≠ []/\∀ w ∈ q,32 ∉ w/\59 ∉ w:=fun q hq=>by
 rcases QC.mp hq with hq | hq
 ·exact qT gn q hq
 ·rw [Qz.mp hq];exact hp
theorem zd8 (gn:GN n) (p:List (List Nat)):jn2 ((parts n ++ [p]).map jn) = TX n ++ 59 :: 32 :: jn p:=by
 rw [Qo,zbS (by simpa using zam gn) (by simp)]
 rfl
theorem zhm (gn:GN n) {p:List (List Nat)} (hp:p ≠ []/\∀ w ∈ p,32 ∉ w/\59 ∉ w):∀ q ∈ p :: parts n,q ≠ []/\∀ w ∈ q,32 ∉ w/\59 ∉ w:=fun q hq=>by
 rcases QA.mp hq with rfl | hq
 ·exact hp
 ·exact qT gn q hq
theorem zjF (gn:GN n) (p:List (List Nat)):jn2 ((p :: parts n).map jn) = jn p ++ 59 :: 32 :: TX n:=by
 rw [show p :: parts n = [p] ++ parts n from rfl,Qo,zbS (by simp) (by simpa using zam gn)]
 rfl
theorem zgi {p:List (List Nat)} (h:p.head? ≠ some ze/\p.head? ≠ some zr/\p.head? ≠ some yp):¬ Gp p:=fun g=>by
 rcases g.len with ⟨a,_⟩ | ⟨a,_⟩ | ⟨a,_⟩
 ·exact h.1 a
 ·exact h.2.1 a
 ·exact h.2.2 a
theorem zqm (gn:GN n):Bad (TX n ++ [59,32]):=by
 have:=zdu (zcs gn (p:=[[]]) ⟨by simp,by simp⟩) (QC.mpr (.inr (.head _))) (zgi (by decide))
 rw [zd8 gn] at this
 exact this
theorem zri (gn:GN n):Bad (TX n ++ [59,32,110,101,116]):=by
 have:=zdu (zcs gn (p:=[[110,101,116]]) ⟨by simp,by simp⟩) (QC.mpr (.inr (.head _))) (zgi (by decide))
 rw [zd8 gn] at this
 exact this
theorem zrk (gn:GN n):Bad ([59,32] ++ TX n):=by
 have:=zdu (zhm gn (p:=[[]]) ⟨by simp,by simp⟩) (.head _) (zgi (by decide))
 rw [zjF gn] at this
 exact this
theorem ziL (gn:GN n) {p:List (List Nat)} (hp:p ≠ []/\∀ w ∈ p,32 ∉ w/\59 ∉ w) (hh:p.head? ≠ some ze):Bad (jn p ++ 59 :: 32 :: TX n):=by
 rw [← zjF gn]
 refine zd1 (by simp) (zhm gn hp) fun m gm e=>?_
 obtain ⟨x,r,ex⟩:=zdp gm
 rw [ex] at e
 have:=(List.cons.inj e).1
 rw [← this] at hh
 exact hh rfl
theorem zsj (gn:GN n):Bad ([112,117,114,115,101,32,97,32,102,105,114,115,116,32,49,59,32] ++ TX n):=ziL gn (p:=[yp,[97],[102,105,114,115,116],[49]]) (by decide) (by decide)
theorem zrj (gn:GN n):Bad ([97,115,107,32,97,32,49,32,45,32,98,97,100,32,104,101,97,114,115,32,115,117,114,101,59,32] ++ TX n):=ziL gn (p:=[zr,[97],[49],[45],[98,97,100],zB,zI]) (by decide) (by decide)
theorem zhE (gn:GN n) (hw:32 ∉ w/\59 ∉ w):Bad (TX n ++ 32 :: w):=by
 obtain ⟨A,p,e⟩:∃ A p,parts n = A ++ [p]:=by
  rcases eq_nil_or_concat (parts n) with z | ⟨A,p,z⟩
  ·exact absurd z (zam gn)
  ·exact ⟨A,p,by rw [z];simp⟩
 have gp:=zbo gn p (by rw [e];simp)
 have pf:=qT gn p (by rw [e];simp)
 have fr:∀ q ∈ A ++ [p ++ [w]],q ≠ []/\∀ x ∈ q,32 ∉ x/\59 ∉ x:=fun q hq=>by
  rcases QC.mp hq with hq | hq
  ·exact qT gn q (by rw [e];simp [hq])
  ·rw [Qz.mp hq]
   refine ⟨by simp,fun x hx=>?_⟩
   rcases QC.mp hx with hx | hx
   ·exact pf.2 x hx
   ·rw [Qz.mp hx];exact hw
 have b:=zdu fr (QC.mpr (.inr (.head _))) (gp.more w)
 have tx:jn2 ((A ++ [p ++ [w]]).map jn) = TX n ++ 32 :: w:=by
  unfold TX
  rw [e,Qo,Qo]
  cases A with
  | nil=>exact zec w pf.1
  | cons a A=>
   rw [zbS (by simp) (by simp),zbS (by simp) (by simp)]
   show _ ++ 59 :: 32 :: jn (p ++ [w]) = (_ ++ 59 :: 32 :: jn p) ++ 32 :: w
   rw [zec w pf.1]
   simp
 rw [tx] at b
 exact b
theorem zso (gn:GN n):Bad (TX n ++ [32]):=zhE gn (w:=[]) (by simp)
theorem zsm (gn:GN n):Bad (TX n ++ [32,120]):=zhE gn (w:=[120]) (by simp)
theorem zsp (gn:GN n):Bad (32 :: TX n):=by
 obtain ⟨x,r,e⟩:=zdp gn
 have fr:∀ q ∈ ([] :: [ze,x]) :: r,q ≠ []/\∀ y ∈ q,32 ∉ y/\59 ∉ y:=fun q hq=>by
  rcases QA.mp hq with rfl | hq
  ·refine ⟨by simp,fun y hy=>?_⟩
   rcases QA.mp hy with rfl | hy
   ·simp
   ·exact (qT gn [ze,x] (by rw [e];exact .head _)).2 y hy
  ·exact qT gn q (by rw [e];exact .tail _ hq)
 have b:=zdu fr (.head _) (zgi ⟨by simp [ze],by simp [zr],by simp [yp]⟩)
 have tx:jn2 ((([] :: [ze,x]) :: r).map jn) = 32 :: TX n:=by
  unfold TX
  rw [e]
  cases r <;> rfl
 rw [tx] at b
 exact b
end
theorem zfM (l:List Nat) (k:Nat):StrLaws.At (S l) (S [32]) (S l).length k ↔ l[k]? = some 32:=by
 unfold StrLaws.At
 rw [StrLaws.subAt_eq,qt,qt]
 show k + 1<=l.length/\((l.drop k).take 1 == [32]) = true ↔ _
 constructor
 ·rintro ⟨h1,h2⟩
  have h2:(l.drop k).take 1 = [32]:=by simpa using h2
  have:=congrArg (fun z=>z[0]?) h2
  simpa [getElem?_take,List.getElem?_drop] using this
 ·intro h
  obtain ⟨hk,he⟩:=Qx.mp h
  refine ⟨hk,?_⟩
  rw [List.drop_eq_getElem_cons hk,he]
  simp
variable {A:List Nat}
theorem zpp {r:List Nat} (hA:32 ∉ A):Builtin.Str.occurrences (S (A ++ 32 :: r)) (S [32]) 0 (S (A ++ 32 :: r)).length 1 = [A.length]:=by
 have hm:(A ++ 32 :: r)[A.length]? = some 32:=by simp
 rcases StrLaws.occ_head (S (A ++ 32 :: r)) (S [32]) 1 (Q3 _) with ⟨_,h⟩ | ⟨i,t,e,h,hn⟩
 ·exact absurd ((zfM _ _).mpr hm) (h _)
 ·have hl:=StrLaws.occ_length_le (S (A ++ 32 :: r)) (S [32]) 0 (S (A ++ 32 :: r)).length 1
  rw [e] at hl ⊢
  have:t = []:=by cases t with | nil=>rfl | cons=>simp at hl
  rw [this]
  have h1:=(zfM _ _).mp h
  have h2:¬ A.length < i:=fun z=>hn _ z ((zfM _ _).mpr hm)
  have h3:¬ i < A.length:=fun z=>by
   rw [Q6 z] at h1
   exact hA (Q9 h1)
  rw [show i = A.length by omega]
theorem zlm {r:List Nat} (hA:32 ∉ A) (z:List Nat):zdd (S (A ++ 32 :: r)) (S [32]) (S z) = S (A ++ z ++ r):=by
 unfold zdd
 rw [zpp hA,Qy (by simp [Str.length]),StrLaws.partsBetween_eq]
 show (⟨(Builtin.Str.strSub (S (A ++ 32 :: r)) 0 A.length).cps ++ (S z).cps ++ (Builtin.Str.strSub (S (A ++ 32 :: r)) (A.length + 1) (S (A ++ 32 :: r)).length).cps⟩:Str) = _
 congr 1
 apply Array.toList_inj.mp
 rw [Array.toList_append,Array.toList_append,StrLaws.strSub_toList,StrLaws.strSub_toList,qt]
 simp
 rw [List.take_of_length_le (by omega)]
theorem zif {r z:List Nat} (hA:32 ∉ A) (hl:A.length + z.length + r.length<=9000) (M:Mem):zaK (S [32]) (S z) (.str (S (A ++ 32 :: r))) M = .ok (.str (S (A ++ z ++ r))) M:=by
 unfold zaK
 dsimp only
 rw [zpp hA,zlm hA,Qw]
 refine ⟨?_,sz (by rw [qt];simp;omega)⟩
 rw [qt,qt]
 simp
 omega
variable {R x:List Nat}
section
theorem zbj (gn:GN n):∃ x r,parts n = [ze,x] :: r/\TX n = ze ++ 32 :: jn2 (x :: r.map jn)/\okW x:=by
 obtain ⟨x,r,e⟩:=zdp gn
 refine ⟨x,r,e,?_,(y4 gn [ze,x] (by rw [e];exact .head _)).2 x (by simp)⟩
 unfold TX
 rw [e]
 cases r <;> rfl
theorem zkD (gn:GN n) {r:List (List (List Nat))} (e:parts n = [ze,x] :: r) {p:List (List Nat)} (hp:p ≠ []/\∀ w ∈ p,32 ∉ w/\59 ∉ w):∀ q ∈ p :: r,q ≠ []/\∀ y ∈ q,32 ∉ y/\59 ∉ y:=fun q hq=>by
 rcases QA.mp hq with rfl | hq
 ·exact hp
 ·exact qT gn q (by rw [e];exact .tail _ hq)
theorem zsl (gn:GN n) (hR:TX n = ze ++ 32 :: R):Bad (ze ++ [32,32] ++ R):=by
 obtain ⟨x,r,e,t,hx⟩:=zbj gn
 rw [hR] at t
 have t:R = jn2 (x :: r.map jn):=(List.cons.inj (List.append_cancel_left t)).2
 have b:=zdu (zkD gn e (p:=[ze,[],x]) ⟨by simp,fun w hw=>by
  simp only [QA,not_mem_nil,or_false] at hw
  rcases hw with rfl | rfl | rfl
  ·decide
  ·simp
  ·exact ⟨hx.no (by omega),hx.no (by omega)⟩⟩) (.head _) (fun g=>by have:=g.len;simp [ze,zr,yp] at this)
 rw [t]
 have tx:jn2 (([ze,[],x] :: r).map jn) = ze ++ [32,32] ++ jn2 (x :: r.map jn):=by cases r <;> rfl
 rw [tx] at b
 exact b
theorem zrl (gn:GN n) (hR:TX n = ze ++ 32 :: R):Bad (ze ++ [9] ++ R):=by
 obtain ⟨x,r,e,t,hx⟩:=zbj gn
 rw [hR] at t
 have t:R = jn2 (x :: r.map jn):=(List.cons.inj (List.append_cancel_left t)).2
 have b:=zdu (zkD gn e (p:=[ze ++ 9 :: x]) ⟨by simp,fun w hw=>by
  rw [Qz.mp hw]
  refine ⟨fun z=>?_,fun z=>?_⟩
  ·rcases QC.mp z with z | z
   ·exact absurd z (by decide)
   ·rcases QA.mp z with z | z
    ·omega
    ·exact hx.no (by omega) z
  ·rcases QC.mp z with z | z
   ·exact absurd z (by decide)
   ·rcases QA.mp z with z | z
    ·omega
    ·exact hx.no (by omega) z⟩) (.head _) (fun g=>by have:=g.len;simp [ze,zr,yp] at this)
 rw [t]
 have tx:jn2 (([ze ++ 9 :: x] :: r).map jn) = ze ++ [9] ++ jn2 (x :: r.map jn):=by cases r <;> rfl
 rw [tx] at b
 exact b
theorem zsk:Bad []:=fun m gm e=>by
 obtain ⟨x,r,_,t,_⟩:=zbj gm
 rw [t] at e
 cases e
theorem zmn {c:Nat} {r:List Nat} (h:c ≠ 104):Bad (c :: r):=fun m gm e=>by
 obtain ⟨x,r',_,t,_⟩:=zbj gm
 rw [t] at e
 exact h (List.cons.inj e).1.symm
theorem znO:∀ (W:List (List Nat)) (w:List Nat),∃ A,jn (W ++ [w]) = A ++ w
 | [],w=>⟨[],rfl⟩
 | x :: r,w=>⟨jn (x :: r) ++ [32],by rw [zec w (by simp)];simp⟩
theorem zlT:∀ (W:List (List Nat)) (w:List Nat),∃ A,jn2 (W ++ [w]) = A ++ w
 | [],w=>⟨[],rfl⟩
 | x :: r,w=>⟨jn2 (x :: r) ++ [59,32],by rw [zbS (by simp) (by simp)];simp [jn2]⟩
theorem zcK {α:Type} {xs:List α} (h:xs ≠ []):∃ A p,xs = A ++ [p]:=by
 rcases eq_nil_or_concat xs with z | ⟨A,p,z⟩
 ·exact absurd z h
 ·exact ⟨A,p,by rw [z];simp⟩
theorem zmT (gn:GN n):∃ A w,TX n = A ++ w/\okW w:=by
 obtain ⟨A,p,e⟩:=zcK (zam gn)
 have hp:=y4 gn p (by rw [e];simp)
 obtain ⟨B,w,e2⟩:=zcK hp.1
 obtain ⟨X,h1⟩:=zlT (A.map jn) (jn p)
 obtain ⟨Y,h2⟩:=znO B w
 refine ⟨X ++ Y,w,?_,hp.2 w (by rw [e2];simp)⟩
 unfold TX
 rw [e,Qo]
 show jn2 (A.map jn ++ [jn p]) = _
 rw [h1,e2,h2]
 simp
theorem zsn (l:List Nat):Bad (l ++ [59]):=fun m gm e=>by
 obtain ⟨A,w,t,hw⟩:=zmT gm
 obtain ⟨B,c,rfl⟩:=zcK hw.1
 rw [t,← append_assoc] at e
 have:=(append_inj' e rfl).2
 have hc:c = 59:=(List.cons.inj this).1
 exact hw.no (c:=59) (by omega) (by simp [hc])
theorem zsi (gn:GN n) {r:List (List (List Nat))} (e:parts n = [ze,x] :: r):Bad (TX n ++ 59 :: 32 :: jn [ze,x]):=by
 rw [← zd8 gn]
 have hx:=qT gn [ze,x] (by rw [e];exact .head _)
 refine zd1 (by simp) (zcs gn hx) fun m gm em=>?_
 have r1:=zaS m
 rw [em,zbm,zaS] at r1
 replace r1:rdG [[ze,x]] (n.hs.map yN) (n.ps.map zaY) = some (m.hs.map yN,m.ps.map zaY):=r1
 rw [rdG,zgR] at r1
 by_cases hc:ze = ze/\n.ps.map zaY = []
 ·rw [Qw hc] at r1
  replace r1:some (n.hs.map yN ++ [⟨x,[]⟩],n.ps.map zaY) = some (m.hs.map yN,m.ps.map zaY):=r1
  have e1:n.hs.map yN ++ [⟨x,[]⟩] = m.hs.map yN:=congrArg Prod.fst (Qb r1)
  have e2:=congrArg (List.map fun c:CH=>S c.name) e1
  rw [Qo,QI,QI] at e2
  have nm:∀ k:Net,k.hs.map ((fun c:CH=>S c.name) ∘ yN) = k.hs.map (·.name):=fun k=>map_congr_left fun h _=>by
   show S h.name.cps.toList = _
   rw [toL]
  rw [nm,nm] at e2
  have nd:=gm.hn.nd
  rw [← e2,nodup_append] at nd
  have hin:S x ∈ n.hs.map (·.name):=by
   have h1:=gn.h1
   unfold parts at e
   cases eh:n.hs with
   | nil=>rw [eh] at h1;simp at h1
   | cons h hs=>
    rw [eh] at e
    have:[ze,h.name.cps.toList] = [ze,x]:=(List.cons.inj e).1
    have:h.name.cps.toList = x:=by simpa using this
    rw [← this,toL]
    simp
  exact nd.2.2 (S x) hin (S x) (by simp) rfl
 ·rw [Qy hc] at r1
  cases r1
theorem zrm (gn:GN n):Bad (TX n ++ 59 :: 32 :: jn [zr,[122,122],[49],[45],[98,97,100],zB,zI]):=by
 rw [← zd8 gn]
 refine zd1 (by simp) (zcs gn (by decide)) fun m gm em=>?_
 have r1:=zaS m
 rw [em,zbm,zaS] at r1
 replace r1:rdG [[zr,[122,122],[49],[45],[98,97,100],zB,zI]] (n.hs.map yN) (n.ps.map zaY) = some (m.hs.map yN,m.ps.map zaY):=r1
 rw [rdG,zgQ] at r1
 by_cases hc:zr = zr/\n.ps.map zaY = []/\n.hs.map yN ≠ []
 ·rw [Qw hc] at r1
  obtain ⟨hi,h,e⟩:=zcK (xs:=n.hs) (fun z=>by have:=gn.h1;rw [z] at this;simp at this)
  replace r1:some (zd5 (n.hs.map yN) (askIn [122,122] [49] [45] [98,97,100] zB zI),n.ps.map zaY) = some (m.hs.map yN,m.ps.map zaY):=r1
  have e1:zd5 (n.hs.map yN) (askIn [122,122] [49] [45] [98,97,100] zB zI) = m.hs.map yN:=congrArg Prod.fst (Qb r1)
  obtain ⟨mi,g,em⟩:=zcK (xs:=m.hs) (fun z=>by have:=gm.h1;rw [z] at this;simp at this)
  rw [e,em,Qo,Qo,List.map_singleton,List.map_singleton,zeY] at e1
  have e2:=(append_inj' e1 rfl).2
  have e3:(yN h).asks ++ [askIn [122,122] [49] [45] [98,97,100] zB zI] = (yN g).asks:=congrArg CH.asks (List.cons.inj e2).1
  have hg:m.hs[mi.length]? = some g:=by rw [em];simp
  cases eg:g.asks with
  | nil=>
   have:=congrArg List.length e3
   simp [yN,eg] at this
  | cons q qs=>
   have:=(gm.ao _ g hg q (by rw [eg];exact .head _)).to
   rw [List.drop_eq_nil_of_le (by rw [em];simp)] at this
   cases this
 ·rw [Qy hc] at r1
  cases r1
end
noncomputable def sw (k:List Nat) (a:Nat) (w:List Nat):List (List (List Nat))->List (List (List Nat)) × Bool
 | []=>([],false)
 | p :: r=>if p.head? = some k then (p.set a w :: r,true) else (p :: (sw k a w r).1,(sw k a w r).2)
theorem zeB {k:List Nat} {a:Nat} {w:List Nat}:∀ {P:List (List (List Nat))},(sw k a w P).2 = false->(sw k a w P).1 = P
 | [],_=>rfl
 | p :: r,h=>by
  unfold sw at h ⊢
  split at h
  ·cases h
  ·rename_i hp
   rw [Qy hp]
   exact congrArg (p :: ·) (zeB h)
theorem zfp {k:List Nat} {a:Nat} {w:List Nat}:∀ {P:List (List (List Nat))},(sw k a w P).2 = true->∃ A p B,P = A ++ p :: B/\(sw k a w P).1 = A ++ p.set a w :: B/\p.head? = some k
 | [],h=>by cases h
 | p :: r,h=>by
  unfold sw at h ⊢
  split at h
  ·rename_i hp
   rw [Qw hp]
   exact ⟨[],p,r,rfl,rfl,hp⟩
  ·rename_i hp
   rw [Qy hp]
   obtain ⟨A,q,B,e1,e2,e3⟩:=zfp h
   exact ⟨p :: A,q,B,by rw [e1];rfl,by rw [e2];rfl,e3⟩
noncomputable def swL (k:List Nat) (a:Nat) (w:List Nat) (P:List (List (List Nat))):List Nat:=jn2 ((sw k a w P).1.map jn) ++ if (sw k a w P).2 then [] else [59,32]
variable {c k:List Nat}
section
theorem Gp.isAsk {p:List (List Nat)} (h:Gp p) (hh:p.head? = some zr):∃ a b c d e f,p = [zr,a,b,c,d,e,f]:=by
 cases h with
 | house x=>exact absurd hh (by show ¬ some ze = some zr;decide)
 | ask a b c d e f=>exact ⟨a,b,c,d,e,f,rfl⟩
 | purse a b=>exact absurd hh (by show ¬ some yp = some zr;decide)
theorem Gp.isPurse {p:List (List Nat)} (h:Gp p) (hh:p.head? = some yp):∃ a b c,p = [yp,a,b,c]:=by
 cases h with
 | house x=>exact absurd hh (by show ¬ some ze = some yp;decide)
 | ask=>exact absurd hh (by show ¬ some zr = some yp;decide)
 | purse a b=>exact ⟨a,b,_,rfl⟩
theorem zcW {a b d e f:List Nat} (h:Gp [zr,a,b,c,d,e,f]):(b = zbh\/∃ k,1<=k/\k<=4/\b = [48 + k])/\(c = [45]\/isW c = true)/\(d = [98,97,100]\/d = [115,112,101,110,116])/\(e = zB\/e = qW)/\(f = zI\/f = zO):=by
 cases h with
 | ask _ _ _ _ _ _ h1 h2 h3 h4 h5=>exact ⟨h1,h2,h3,h4,h5⟩
theorem zjV {a b:List Nat} (h:Gp [yp,a,b,c]):∃ k,1<=k/\k<=9/\c = [48 + k]:=by
 generalize e:[yp,a,b,c] = p at h
 cases h with
 | house x=>simp at e
 | ask=>simp at e
 | purse x y k h1 h9=>
  simp only [List.cons.injEq,and_true] at e
  exact ⟨k,h1,h9,e.2.2.2⟩
theorem zhl (gn:GN n) {A B:List (List (List Nat))} {p:List (List Nat)} (e:parts n = A ++ p :: B) {a:Nat} (hw:32 ∉ w/\59 ∉ w):∀ q ∈ A ++ p.set a w :: B,q ≠ []/\∀ y ∈ q,32 ∉ y/\59 ∉ y:=fun q hq=>by
 rcases QC.mp hq with hq | hq
 ·exact qT gn q (by rw [e];simp [hq])
 ·rcases QA.mp hq with rfl | hq
  ·have hp:=qT gn p (by rw [e];simp)
   refine ⟨fun z=>hp.1 (by simpa using z),fun y hy=>?_⟩
   rcases List.mem_or_eq_of_mem_set hy with hy | rfl
   ·exact hp.2 y hy
   ·exact hw
  ·exact qT gn q (by rw [e];simp [hq])
theorem zkY (gn:GN n) {a:Nat} (hw:32 ∉ w/\59 ∉ w) (h:∀ A p B,parts n = A ++ p :: B->p.head? = some k->∀ m,GN m->parts m ≠ A ++ p.set a w :: B):Bad (swL k a w (parts n)):=by
 unfold swL
 cases hb:(sw k a w (parts n)).2 with
 | false=>
  rw [zeB hb]
  exact zqm gn
 | true=>
  obtain ⟨A,p,B,e1,e2,e3⟩:=zfp hb
  rw [e2,Qw rfl,append_nil]
  exact zd1 (by simp) (zhl gn e1 hw) (h A p B e1 e3)
theorem zbW (gn:GN n) {a:Nat} (hw:32 ∉ w/\59 ∉ w) (h:∀ p,Gp p->p.head? = some k->¬ Gp (p.set a w)):Bad (swL k a w (parts n)):=
 zkY gn hw fun A p B e hp m gm em=>h p (zbo gn p (by rw [e];simp)) hp (zbo gm _ (by rw [em];simp))
def zqV (w:List Nat):Prop:=w ≠ zbh/\∀ k,1<=k->k<=4->w ≠ [48 + k]
theorem zdE (gn:GN n) (hw:32 ∉ w/\59 ∉ w) (h:zqV w):Bad (swL zr 2 w (parts n)):=zbW gn hw fun p g hh g2=>by
 obtain ⟨a,b,c,d,e,f,rfl⟩:=g.isAsk hh
 rcases (zcW (show Gp [zr,a,w,c,d,e,f] from g2)).1 with z | ⟨k,h1,h4,z⟩
 ·exact h.1 z
 ·exact h.2 k h1 h4 z
theorem zrM (gn:GN n):Bad (swL zr 2 [48] (parts n)):=zdE gn (by decide) ⟨by decide,fun k h1 h4 z=>by simp at z;omega⟩
theorem zrL (gn:GN n):Bad (swL zr 2 [53] (parts n)):=zdE gn (by decide) ⟨by decide,fun k h1 h4 z=>by simp at z;omega⟩
theorem zrK (gn:GN n):Bad (swL zr 2 [48,49] (parts n)):=zdE gn (by decide) ⟨by decide,fun k h1 h4 z=>by simp at z⟩
theorem zrJ (gn:GN n):Bad (swL zr 2 [69,118,101,114] (parts n)):=zdE gn (by decide) ⟨by decide,fun k h1 h4 z=>by simp at z⟩
theorem zrI (gn:GN n):Bad (swL zr 2 [] (parts n)):=zdE gn (by decide) ⟨by decide,fun k h1 h4 z=>by simp at z⟩
theorem zrH (gn:GN n):Bad (swL zr 4 [103,111,111,100] (parts n)):=zbW gn (by decide) fun p g hh g2=>by
 obtain ⟨a,b,c,d,e,f,rfl⟩:=g.isAsk hh
 exact absurd (zcW (show Gp [zr,a,b,c,[103,111,111,100],e,f] from g2)).2.2.1 (by decide)
theorem zrG (gn:GN n):Bad (swL zr 5 [104,101,97,114,100] (parts n)):=zbW gn (by decide) fun p g hh g2=>by
 obtain ⟨a,b,c,d,e,f,rfl⟩:=g.isAsk hh
 exact absurd (zcW (show Gp [zr,a,b,c,d,[104,101,97,114,100],f] from g2)).2.2.2.1 (by decide)
theorem zrF (gn:GN n):Bad (swL zr 6 [108,111,111,115,101] (parts n)):=zbW gn (by decide) fun p g hh g2=>by
 obtain ⟨a,b,c,d,e,f,rfl⟩:=g.isAsk hh
 exact absurd (zcW (show Gp [zr,a,b,c,d,e,[108,111,111,115,101]] from g2)).2.2.2.2 (by decide)
theorem zrE (gn:GN n):Bad (swL zr 3 [97,49] (parts n)):=zbW gn (by decide) fun p g hh g2=>by
 obtain ⟨a,b,c,d,e,f,rfl⟩:=g.isAsk hh
 exact absurd (zcW (show Gp [zr,a,b,[97,49],d,e,f] from g2)).2.1 (by decide)
theorem swp (gn:GN n) (hw:32 ∉ w/\59 ∉ w) (h:∀ k,1<=k->k<=9->w ≠ [48 + k]):Bad (swL yp 3 w (parts n)):=zbW gn hw fun p g hh g2=>by
 obtain ⟨a,b,c,rfl⟩:=g.isPurse hh
 obtain ⟨k,h1,h9,z⟩:=zjV (show Gp [yp,a,b,w] from g2)
 exact h k h1 h9 z
theorem zrC (gn:GN n):Bad (swL yp 3 [48] (parts n)):=swp gn (by decide) fun k h1 h4 z=>by simp at z;omega
theorem zrB (gn:GN n):Bad (swL yp 3 [49,48] (parts n)):=swp gn (by decide) fun k h1 h4 z=>by simp at z
theorem zrA (gn:GN n):Bad (swL yp 3 [48,49] (parts n)):=swp gn (by decide) fun k h1 h4 z=>by simp at z
theorem zlH (gm:GN m) {r:List (List (List Nat))} (e:parts m = [ze,x] :: r) {b d f g:List Nat}:[zr,x,b,c,d,f,g] ∉ parts m:=fun hp=>by
 rcases QC.mp hp with hp | hp
 ·obtain ⟨h,hh,hp⟩:=mem_flatMap.mp hp
  obtain ⟨i,hi⟩:=mem_iff_getElem?.mp hh
  rcases QA.mp hp with hp | hp
  ·exact absurd (congrArg List.length hp) (by simp)
  ·obtain ⟨q,hq,eq⟩:=QE.mp hp
   have to:=(gm.ao i h hi q hq).to
   have ex:q.to.cps.toList = x:=by
    unfold qD at eq
    simp only [List.cons.injEq] at eq
    exact eq.2.1
   have h1:=gm.h1
   have nd:=gm.hn.nd
   unfold parts at e
   cases eh:m.hs with
   | nil=>rw [eh] at h1;simp at h1
   | cons h0 hs=>
    rw [eh] at e nd to
    have:[ze,h0.name.cps.toList] = [ze,x]:=(List.cons.inj e).1
    have hx:h0.name.cps.toList = x:=by simpa using this
    have en:q.to = h0.name:=by rw [← toL q.to,← toL h0.name,ex,hx]
    rw [QF] at nd
    have:=(nodup_cons.mp nd).1
    rw [QF,List.drop_succ_cons] at to
    exact this (en ▸ mem_of_mem_drop to)
 ·obtain ⟨q,_,eq⟩:=QE.mp hp
  exact absurd (congrArg List.length eq) (by simp [qZ])
theorem zrD (gn:GN n) {r:List (List (List Nat))} (e:parts n = [ze,x] :: r):Bad (swL zr 1 x (parts n)):=by
 have hx:=(qT gn [ze,x] (by rw [e];exact .head _)).2 x (by simp)
 refine zkY gn hx fun A p B ep hp m gm em=>?_
 obtain ⟨a,b,c,d,f,g,rfl⟩:=(zbo gn p (by rw [ep];simp)).isAsk hp
 cases A with
 | nil=>
  rw [e] at ep
  have:=(List.cons.inj ep).1
  exact absurd (congrArg List.length this) (by simp)
 | cons y A=>
  rw [e] at ep
  have hy:=(List.cons.inj ep).1
  rw [← hy] at em
  exact zlH gm em (b:=b) (c:=c) (d:=d) (f:=f) (g:=g) (by rw [em];simp)
end
theorem joinR (hn:W ≠ []) (hl:(jn W).length<=10000) {t:FT.T} (ht:zv t M = some (W.map fun w=>.str (S w))):yP (.str " ") [t] M = .ok (.str (S (jn W))) M:=by
 have:=zmE hn hl M
 unfold yP at this ⊢
 simp only [ht]
 simpa only [zv] using this
theorem zfJ:∀ {W:List (List Nat)},(∀ w ∈ W,59 ∉ w)->(jn2 W).count 59<=W.length
 | [],_=>by simp [jn2]
 | [x],h=>by rw [show jn2 [x] = x from rfl,List.count_eq_zero.mpr (h x (.head _))];simp
 | x :: y :: r,h=>by
  have:=zfJ (W:=y :: r) fun w hw=>h w (.tail _ hw)
  rw [jn2,count_append,List.count_eq_zero.mpr (h x (.head _)),List.count_cons_self,count_cons_of_ne (by decide),Qn]
  omega
theorem ziA:∀ W:List (List Nat),W.length<=(jn2 W).count 59 + 1
 | []=>by simp
 | [x]=>by simp
 | x :: y :: r=>by
  have:=ziA (y :: r)
  rw [jn2,count_append,List.count_cons_self,count_cons_of_ne (by decide),Qn]
  omega
theorem zm0 (l:List Nat):(qR l).length<=l.count 59 + 1:=by
 have:=ziA (qR l)
 rw [zfq] at this
 exact this
theorem zjG (gn:GN n):(TX n).count 59<=12:=by
 have h:=zfJ (W:=(parts n).map jn) fun w hw=>by
  obtain ⟨p,hp,rfl⟩:=QE.mp hw
  exact zcT (by decide) fun w hw=>((qT gn p hp).2 w hw).2
 rw [Qf] at h
 exact Qh h (yY gn)
structure Bd' (l:List Nat):Prop where
 b:Bad l
 ln:l.length<=2000
 c:l.count 59<=80
section
theorem zlo (h:Bd' l) (M:Mem):OkX (qP kN [.str (S l)] M) (fun _ _=>False) (fun C _ M'=>C = kN/\Fr [] M M'):=by
 refine (zih h.ln (by have:=zm0 l;have:=h.c;omega) M).mono ?_ ?_
 ·rintro t M' ⟨n,gn,_,e,_⟩
  exact h.b n gn e
 ·rintro C fs M' ⟨e,f,_⟩
  exact ⟨e,f⟩
noncomputable def zmA:FT.T->Bool
 | .non=>true
 | .int _=>true
 | .bl _=>true
 | .tup _=>true
 | .lst _=>true
 | _=>false
theorem zln {t:FT.T} (h:zmA t = true) (M:Mem):OkX (qP kN [t] M) (fun _ _=>False) (fun C' _ M'=>C' = kN/\Fr [] M M'):=by
 have i1:qv t (.ty "str") M = .ok (.bl false) M:=by
  unfold qv
  cases t with
  | non=>exact Qw (by decide)
  | int i=>exact Qw (by decide)
  | bl b=>exact Qw (by decide)
  | tup xs=>exact Qw (by decide)
  | lst xs=>exact Qw (by decide)
  | _=>cases h
 have ck:qL kN [t] M = .exn kN [] M:=by
  have key:OkX (qL kN [t] M) (fun _ _=>False) (fun C' fs M'=>C' = kN/\fs = []/\M' = M):=by
   refine za8 rfl ?_
   unfold zca
   simp_arith [i1,za7,rai]
   exact ⟨rfl,rfl,rfl⟩
  cases o:qL kN [t] M with
  | bad=>rw [o] at key;exact key.elim
  | ok _ _=>rw [o] at key;exact key.elim
  | exn C' fs M'=>
   rw [o] at key
   obtain ⟨rfl,rfl,rfl⟩:=key
   rfl
 refine za8 rfl ?_
 unfold zdn
 simp_arith [ck]
 exact ⟨rfl,Fr.refl _ _⟩
theorem ze1 {t:FT.T} (h:∀ M,OkX (qP kN [t] M) (fun _ _=>False) (fun C' _ M'=>C' = kN/\Fr [] M M')):Ok (zaN kN [t] M) fun u M'=>u = .bl true/\Fr [] M M':=by
 refine qu rfl ?_
 unfold zet
 simp_arith [and_self]
 refine Ok.bind (P:=fun fl M'=>fl = .nx [some t,some (.ref M.length)]/\M'[M.length]? = some (.lst [.bl true])/\Fr [] M M') (Ok.try ?_) ?_
 ·simp_arith [and_self]
  refine OkX.bind (P:=fun _ _=>False) ((h _).mono (fun _ _ z=>z) (fun C' fs M' z=>?_)) fun b M z=>z.elim
  obtain ⟨rfl,f⟩:=z
  refine ⟨by simp,?_⟩
  have g:M'[M.length]? = some (.lst []):=f.get0 qB
  have ap:=yS (t:=.bl true) g (Q5 (show 0 < 1 by decide) (sz (by decide)))
  simp_arith [yE g,ap]
  refine Ok.ret ⟨rfl,get_set g,?_⟩
  exact ((Fr.app M _).trans f).tr (Fr.set _ _ _) (fun i hi=>.inr (by rw [Qz.mp hi];exact Q3 _))
 ·rintro fl M' ⟨rfl,g,f⟩
  have e:eqA (.ref M.length) (.lst [.bl true]) M' = .ok (.bl true) M':=by
   unfold eqA
   have e1:eqD M' 20 (.ref M.length) (.lst [.bl true]) = some true:=by
    rw [show eqD M' 20 (.ref M.length) (.lst [.bl true]) = (match zv (.ref M.length) M' with | some zs=>(if zs.length = [FT.T.bl true].length then eqL (eqD M' 19) zs [.bl true] else some false) | none=>none) from by
     unfold eqD zv
     simp only [g]
     rfl]
    unfold zv
    simp only [g]
    rfl
   rw [e1]
  simp_arith [e]
  exact Ok.ret ⟨rfl,f⟩
end
theorem zh7 {k:List Nat} {a:Nat} {w:List Nat}:∀ (P:List (List (List Nat))) (p:List (List Nat)),sw k a w (P ++ [p]) = if p.head? = some k/\(sw k a w P).2 = false then ((sw k a w P).1 ++ [p.set a w],true) else ((sw k a w P).1 ++ [p],(sw k a w P).2)
 | [],p=>by
  show sw k a w [p] = _
  unfold sw
  by_cases h:p.head? = some k
  ·rw [Qw h,Qw ⟨h,rfl⟩];rfl
  ·rw [Qy h,Qy (fun z=>h z.1)];rfl
 | q :: P,p=>by
  rw [cons_append]
  unfold sw
  by_cases h:q.head? = some k
  ·rw [Qw h,Qw h,Qy (fun z=>by cases z.2)];rfl
  ·rw [Qy h,Qy h,zh7 P p]
   by_cases h2:p.head? = some k/\(sw k a w P).2 = false
   ·rw [Qw h2,Qw h2];rfl
   ·rw [Qy h2,Qy h2];rfl
theorem zcJ {k:List Nat} {a:Nat} {w:List Nat}:∀ P:List (List (List Nat)),(sw k a w P).1.length = P.length
 | []=>rfl
 | p :: P=>by
  unfold sw
  split
  ·rfl
  ·show (sw k a w P).1.length + 1 = _
   rw [zcJ P];rfl
theorem zdk:∀ (p:List (List Nat)) (a:Nat) (w:List Nat),(jn (p.set a w)).length<=(jn p).length + w.length
 | [],_,_=>by simp [jn]
 | [x],0,w=>by show w.length<=x.length + w.length;omega
 | [x],a + 1,w=>by show x.length<=_;show x.length<=x.length + w.length;omega
 | x :: y :: r,0,w=>by
  show (w ++ 32 :: jn (y :: r)).length<=(x ++ 32 :: jn (y :: r)).length + w.length
  simp only [Ql,Qn];omega
 | x :: y :: r,a + 1,w=>by
  have:=zdk (y :: r) a w
  rw [List.set_cons_succ]
  cases e:(y :: r).set a w with
  | nil=>have:=congrArg List.length e;simp at this
  | cons z s=>
   rw [e] at this
   show (x ++ 32 :: jn (z :: s)).length<=(x ++ 32 :: jn (y :: r)).length + w.length
   simp only [Ql,Qn];omega
theorem ziW {k:List Nat} {a:Nat} {w:List Nat} (hw:w.length<=8):∀ {P:List (List (List Nat))},(∀ p ∈ P,(jn p).length<=100)->∀ q ∈ (sw k a w P).1,(jn q).length<=108
 | [],_,q,hq=>by cases hq
 | p :: P,h,q,hq=>by
  unfold sw at hq
  split at hq
  ·rcases QA.mp hq with rfl | hq
   ·have:=zdk p a w
    have:=h p (.head _)
    omega
   ·have:=h q (.tail _ hq);omega
  ·rcases QA.mp hq with rfl | hq
   ·have:=h q (.head _);omega
   ·exact ziW hw (fun p hp=>h p (.tail _ hp)) q hq
theorem zed:∀ {ps:List (List Nat)},(∀ p ∈ ps,p.length<=108)->(jn2 ps).length<=ps.length * 110
 | [],_=>by simp [jn2]
 | [x],h=>by have:=h x (.head _);simp [jn2];omega
 | x :: y :: r,h=>by
  have:=h x (.head _)
  have:=zed (ps:=y :: r) fun p hp=>h p (.tail _ hp)
  rw [jn2,Ql,Qn,Qn]
  simp only [Qn] at this ⊢
  omega
theorem zfC (h:W.head? = some x):atI (W.map fun w=>FT.T.str (S w)) 0 = some (.str (S x)):=by
 have:=zqs (W:=W) (i:=0) (w:=x) (by rw [← List.head?_eq_getElem?];exact h)
 exact this
structure SwI (M:Mem) (P:List (List Nat)) (N:Mem):Prop where
 g:N[M.length]? = some (.lst (P.map fun w=>.str (S w)))
 f:Fr [] M N
variable {P:List (List (List Nat))}
section
theorem ziV (hP0:P ≠ []) (hP:∀ p ∈ P,p ≠ []/\∀ w ∈ p,32 ∉ w/\59 ∉ w) (hb:∀ p ∈ P,(jn p).length<=100) (hc:P.length<=12) {a:Nat} (hw:w.length<=8)
 (ha:∀ p ∈ P,p.head? = some k->a < p.length) (M:Mem) :
  Ok (zaa [.str (S (jn2 (P.map jn))),.str (S k),.int (a:Int),.str (S w)] M) fun t M'=>t = .str (S (swL k a w P))/\Fr [] M M':=by
 refine qu rfl ?_
 unfold zes
 rw [show startT 8 [FT.T.str (S (jn2 (P.map jn))),.str (S k),.int (a:Int),.str (S w)] = [some (.str (S (jn2 (P.map jn)))),some (.str (S k)),some (.int (a:Int)),some (.str (S w)),none,none,none,none] from rfl]
 have lT:(jn2 (P.map jn)).length<=1320:=by
  have:=zed (ps:=P.map jn) fun p hp=>by
   obtain ⟨q,hq,rfl⟩:=QE.mp hp
   have:=hb q hq
   omega
  rw [Qf] at this
  omega
 have sp2:qR (jn2 (P.map jn)) = P.map jn:=zib (by simpa using hP0) fun q hq=>by
  obtain ⟨p,hp,rfl⟩:=QE.mp hq
  exact zcT (by decide) fun w hw=>((hP p hp).2 w hw).2
 have s2:∀ M,zaI (.str (S (jn2 (P.map jn)))) [.str "; "] M = .ok (P.map fun p=>.str (S (jn p))) M:=fun M=>by
  have:=zjN (w:=jn2 (P.map jn)) (by omega) M
  rw [sp2,QI] at this
  exact this
 refine Ok.seqR fun X hX=>?_
 simp_arith [and_self]
 rw [hX];clear hX;simp only [zh]
 refine Ok.seqR fun X hX=>?_
 simp_arith [and_self]
 rw [hX];clear hX;simp only [zh]
 refine Ok.seqR fun X hX=>?_
 simp_arith [zJ,s2,zS]
 refine Ok.bind (Ok.for (r:=fun p=>FT.T.str (S (jn p))) (xs:=P) (fun i σ N=>∃ (o6 o7:Option FT.T),σ = [some (.str (S (jn2 (P.map jn)))),some (.str (S k)),some (.int (a:Int)),some (.str (S w)),some (.ref M.length),some (.int (if (sw k a w (P.take i)).2 then 1 else 0)),o6,o7]/\SwI M ((sw k a w (P.take i)).1.map jn) N) ⟨none,none,rfl,⟨qB,Fr.app _ _⟩⟩ ?_) ?_
 ·rintro i p σ N hi ⟨o6,o7,rfl,I⟩
  have hm:=Q9 hi
  have hp:=hP p hm
  have lp:=hb p hm
  have s1:=fun M=>zmv (w:=jn p) (by omega) M
  rw [zjL hp.1 fun w hw=>(hp.2 w hw).1] at s1
  have hN:M.length < N.length:=zaM I.g
  obtain ⟨x,r,ep⟩:∃ x r,p = x :: r:=by cases p with | nil=>exact absurd rfl hp.1 | cons x r=>exact ⟨x,r,rfl⟩
  have hh:p.head? = some x:=by rw [ep];rfl
  have g7:(N ++ [Cell.lst (p.map fun w=>FT.T.str (S w))])[N.length]? = some (.lst (p.map fun w=>.str (S w))):=qB
  have i0:=zfC hh
  have e0:=fun M=>zfH x k M
  have z7:∀ c:Cell,(N ++ [Cell.lst (p.map fun w=>FT.T.str (S w))]).set N.length c = N ++ [c]:=fun c=>by simp
  have g4:∀ c:Cell,(N ++ [c])[M.length]? = some (.lst (((sw k a w (P.take i)).1.map jn).map fun w=>.str (S w))):=fun c=>by rw [Q6 hN];exact I.g
  have lc:∀ c:Cell,qI (.ref M.length) (N ++ [c]) = .ok (.ref M.length) (N ++ [c]):=fun c=>yE (g4 c)
  have ap:∀ (c:Cell) (t:FT.T),yW (.ref M.length) [t] (N ++ [c]) = .ok .non ((N ++ [c]).set M.length (.lst (((sw k a w (P.take i)).1.map jn).map (fun w=>.str (S w)) ++ [t]))):=fun c t=>yS (g4 c) (by
   rw [Qf,Qf,zcJ,Qp,sizeLine_eq];omega)
  have fin:∀ (c:Cell) (y:List Nat) (Q:List (List Nat)),Q = (sw k a w (P.take i)).1.map jn ++ [y]->SwI M Q ((N ++ [c]).set M.length (.lst (((sw k a w (P.take i)).1.map jn).map (fun w=>.str (S w)) ++ [.str (S y)]))):=fun c y Q eQ=>by
   refine ⟨?_,?_⟩
   ·rw [eQ,get_set (g4 c)];simp
   ·exact (I.f.trans (Fr.app _ _)).tr (Fr.set _ _ _) (fun j hj=>.inr (by rw [Qz.mp hj];exact Q3 _))
  have tk:P.take (i + 1) = P.take i ++ [p]:=by rw [take_succ,hi];rfl
  have sn:=zh7 (k:=k) (a:=a) (w:=w) (P.take i) p
  rw [← tk] at sn
  simp_arith [and_self]
  unfold zd2
  cases hf:(sw k a w (P.take i)).2 with
  | true=>
   rw [hf,Qy (fun z=>by cases z.2)] at sn
   have j1:=joinR (W:=p) hp.1 (by omega) (t:=.ref N.length) (zap g7)
   by_cases hk:x = k
   ·simp_arith [zJ,zS,s1,g7,i0,e0,Qu hk,qA,j1,lc,ap]
    exact Ok.ret ⟨_,rfl,_,_,by rw [sn];rfl,fin _ _ _ (by rw [sn,Qo];rfl)⟩
   ·simp_arith [zJ,zS,s1,g7,i0,e0,Qv hk,qA,j1,lc,ap]
    exact Ok.ret ⟨_,rfl,_,_,by rw [sn];rfl,fin _ _ _ (by rw [sn,Qo];rfl)⟩
  | false=>
   by_cases hk:x = k
   ·rw [hf,Qw ⟨by rw [hh,hk],rfl⟩] at sn
    have al:=ha p hm (by rw [hh,hk])
    have g8:(N ++ [Cell.lst ((p.set a w).map fun w=>FT.T.str (S w))])[N.length]? = some (.lst ((p.set a w).map fun w=>.str (S w))):=qB
    have j1:=joinR (W:=p.set a w) (fun z=>hp.1 (by simpa using z)) (by have:=zdk p a w;omega) (t:=.ref N.length) (zap g8)
    have st:=zlh (k:=(a:Int)) (j:=a) (t:=.str (S w)) g7 (by rw [Qf];exact zko ⟨by omega,by omega⟩)
    rw [z7,show (p.map fun w=>FT.T.str (S w)).set a (.str (S w)) = (p.set a w).map fun w=>FT.T.str (S w) by rw [List.map_set]] at st
    have ix1:ixN p.length (a:Int) = some a:=zko ⟨by omega,by omega⟩
    have ix2:ixN (p.map fun w=>FT.T.str (S w)).length (a:Int) = some a:=by rw [Qf];exact ix1
    have ms:(p.map fun w=>FT.T.str (S w)).set a (.str (S w)) = (p.set a w).map fun w=>FT.T.str (S w):=by rw [List.map_set]
    simp_arith [zJ,zS,s1,g7,i0,e0,Qu hk,qA,st,ix1,ix2,z7,ms,j1,lc,ap]
    exact Ok.ret ⟨_,rfl,_,_,by rw [sn];rfl,fin _ _ _ (by rw [sn,Qo];rfl)⟩
   ·rw [hf,Qy (fun z=>hk (by have:=z.1;rw [hh] at this;exact Qb this))] at sn
    have j1:=joinR (W:=p) hp.1 (by omega) (t:=.ref N.length) (zap g7)
    simp_arith [zJ,zS,s1,g7,i0,e0,Qv hk,qA,j1,lc,ap]
    exact Ok.ret ⟨_,rfl,_,_,by rw [sn];rfl,fin _ _ _ (by rw [sn,Qo];rfl)⟩
 ·rintro fl N ⟨σ,rfl,o6,o7,rfl,I⟩
  rw [take_length] at I ⊢
  rw [hX];clear hX;simp only [zh]
  have lJ:(jn2 ((sw k a w P).1.map jn)).length<=1320:=by
   have:=zed (ps:=(sw k a w P).1.map jn) fun q hq=>by
    obtain ⟨p,hp,rfl⟩:=QE.mp hq
    exact ziW hw hb p hp
   rw [Qf,zcJ] at this
   omega
  have jj:=zkh (W:=(sw k a w P).1.map jn) (fun z=>hP0 (by
   have:=congrArg List.length z
   rw [Qf,zcJ] at this
   exact List.eq_nil_of_length_eq_zero this)) (by omega) (zap I.g)
  unfold swL
  cases hf:(sw k a w P).2 with
  | true=>
   have ad1:=ad (l:=jn2 ((sw k a w P).1.map jn)) (m:=[]) (by simp;omega) N
   simp_arith [qA,zJ,jj]
   exact okB ad1 ⟨by simp,I.f⟩
  | false=>
   have ad1:=ad (l:=jn2 ((sw k a w P).1.map jn)) (m:=[59,32]) (by simp;omega) N
   simp_arith [qA,zJ,jj]
   exact okB ad1 ⟨by simp,I.f⟩
end
noncomputable def cel (x y z:Int):Cell:=.lst [.int x,.int y,.int z]
def PO (a:Nat) (M:Mem):Prop:=∃ x y z,M[a]? = some (cel x y z)
variable {M':Mem}
theorem PO.fr {a:Nat} (h:PO a M) {S:List Nat} (f:Fr S M M') (hs:a ∉ S):PO a M':=by
 obtain ⟨x,y,z,e⟩:=h
 exact ⟨x,y,z,f.get e hs⟩
theorem znh (c:Int) (M:Mem):∃ x y z,zcb [.int c] M = .ok (.ref M.length) (M ++ [cel x y z]):=by
 unfold zcb zhg
 refine ⟨if c - 10 ^ 18 > 0 then c - 10 ^ 18 else 0,c.fmod (10 ^ 18),0,?_⟩
 simp_arith [and_self]
 rfl
theorem yy {a:Nat} {base:Int} (e:PO a M) (h:0 < base) (hb:base.natAbs < 10 ^ 100) :
  Ok (qo [.ref a,.int base] M) fun t M'=>∃ d:Int,t = .int d/\0<=d/\d < base/\PO a M'/\Fr [a] M M':=by
 obtain ⟨x,y,z,e⟩:=e
 unfold cel at e
 have ha:a < M.length:=zaM e
 have hd:∀ i M,zeQ (.int i) (.int base) M = .ok (.int (i.fdiv base)) M:=fun i M=>zfI (zmK 100 (by decide) (by omega) hb)
 have hm:∀ i M,zba (.int i) (.int base) M = .ok (.int (i.fmod base)) M:=fun i M=>znG (by omega)
 have lo:∀ i:Int,0<=i.fmod base/\i.fmod base < base:=fun i=>by
  rw [Q8 _ (by omega)]
  exact ⟨Int.emod_nonneg _ (by omega),Int.emod_lt_of_pos _ h⟩
 refine qu rfl ?_
 unfold zhh
 by_cases hp:0 < x
 ·simp_arith [e,hd,hm,Qu hp]
  exact Ok.ret ⟨_,rfl,(lo _).1,(lo _).2,⟨_,_,_,get_set e⟩,Fr.set _ _ _⟩
 ·have hs:∀ c:Cell,(M.set a c)[a]? = some c:=fun c=>by rw [getElem?_set,Qw rfl,Qw ha]
  have h1:∀ j M,zaF (.int 7919) (.int j) M = .ok (.int (7919 * j)) M:=fun j M=>zdT (by decide)
  have hx:∀ x:Int,0<=x.fmod 1000000007/\x.fmod 1000000007 < 1000000007:=fun x=>by rw [Q8 _ (by decide)];omega
  have hy:∀ x:Int,0<=x.fmod 998244353/\x.fmod 998244353 < 998244353:=fun x=>by rw [Q8 _ (by decide)];omega
  have h2:∀ (x y:Int) M,zaF (.int (x.fmod 1000000007 + 11)) (.int y) M = .ok (.int ((x.fmod 1000000007 + 11) * y)) M:=fun x y M=>zdT (by have:=hx x;omega)
  have h3:∀ (x y:Int) M,zaF (.int (x.fmod 998244353)) (.int y) M = .ok (.int (x.fmod 998244353 * y)) M:=fun x y M=>zdT (by have:=hy x;omega)
  have h8:∀ (i:Int) M,zeQ (.int i) (.int 8) M = .ok (.int (i.fdiv 8)) M:=fun i M=>zfI (zmK 2 (by decide) (by decide) (by decide))
  simp_arith [e,hd,hm,Qv hp,hs,h1,h2,h3,h8]
  exact Ok.ret ⟨_,rfl,(lo _).1,(lo _).2,⟨_,_,_,get_set e⟩,Fr.set _ _ _⟩
variable {d:Int}
theorem pick {xs:List Int} (h0:0<=d) (h1:d < xs.length):∃ v ∈ xs,atI (xs.map FT.T.int) d = some (.int v):=by
 obtain ⟨x,h1,h2⟩:=zfk (xs:=xs.map FT.T.int) h0 (by simpa using h1)
 obtain ⟨v,hv,rfl⟩:=QE.mp h2
 exact ⟨v,hv,h1⟩
theorem zfx {xs:List Int} (lo hi:Int) (h0:0<=d) (h1:d < xs.length) (h:xs.all (fun v=>decide (lo<=v/\v<=hi)) = true):∃ v:Int,atI (xs.map FT.T.int) d = some (.int v)/\lo<=v/\v<=hi:=by
 obtain ⟨v,hv,e⟩:=pick h0 h1
 have:=QD.mp h v hv
 exact ⟨v,e,QB this⟩
theorem zi7 {xs:List Str} (h0:0<=d) (h1:d < xs.length):∃ v ∈ xs,atI (xs.map FT.T.str) d = some (.str v):=by
 obtain ⟨x,h1,h2⟩:=zfk (xs:=xs.map FT.T.str) h0 (by simpa using h1)
 obtain ⟨v,hv,rfl⟩:=QE.mp h2
 exact ⟨v,hv,h1⟩
section
theorem zmW (hb:∀ p ∈ P,(jn p).length<=100) (hc:P.length<=12) {a:Nat} (hw:w.length<=8):(swL k a w P).length<=1330:=by
 have:=zed (ps:=(sw k a w P).1.map jn) fun q hq=>by
  obtain ⟨p,hp,rfl⟩:=QE.mp hq
  exact ziW hw hb p hp
 rw [Qf,zcJ] at this
 unfold swL
 rw [Ql]
 split <;> simp <;> omega
theorem zmX (gn:GN n) {a:Nat} (hw:32 ∉ w/\59 ∉ w):(swL k a w (parts n)).count 59<=13:=by
 have fr:∀ q ∈ (sw k a w (parts n)).1,∀ y ∈ q,59 ∉ y:=by
  cases hb:(sw k a w (parts n)).2 with
  | false=>rw [zeB hb];exact fun q hq y hy=>((qT gn q hq).2 y hy).2
  | true=>
   obtain ⟨A,p,B,e1,e2,e3⟩:=zfp hb
   rw [e2]
   exact fun q hq y hy=>((zhl gn e1 hw q hq).2 y hy).2
 have h:=zfJ (W:=(sw k a w (parts n)).1.map jn) fun w hw=>by
  obtain ⟨p,hp,rfl⟩:=QE.mp hw
  exact zcT (by decide) (fr p hp)
 rw [Qf,zcJ] at h
 have:=yY gn
 unfold swL
 rw [count_append]
 split <;> simp <;> omega
theorem zoG (gn:GN n) {a:Nat} (hw:32 ∉ w/\59 ∉ w) (hl:w.length<=8) (b:Bad (swL k a w (parts n))):Bd' (swL k a w (parts n)):=
 ⟨b,by have:=zmW (k:=k) (a:=a) (zdP gn) (yY gn) hl;omega,by have:=zmX gn (k:=k) (a:=a) hw;omega⟩
theorem sw_run (gn:GN n) {a:Nat} (hl:w.length<=8) (hk:(k = zr/\a < 7)\/(k = yp/\a < 4)) (M:Mem):Ok (zaa [.str (S (TX n)),.str (S k),.int (a:Int),.str (S w)] M) fun t M'=>t = .str (S (swL k a w (parts n)))/\Fr [] M M':=by
 refine ziV (zam gn) (qT gn) (zdP gn) (yY gn) hl (fun p hp hh=>?_) M
 have g:=zbo gn p hp
 rcases hk with ⟨rfl,h⟩ | ⟨rfl,h⟩
 ·obtain ⟨a,b,c,d,e,f,rfl⟩:=g.isAsk hh
  exact h
 ·obtain ⟨a,b,c,rfl⟩:=g.isPurse hh
  exact h
theorem zh6 (c:Nat) (r:List Nat):(Txt.upper (S (c :: r))).cps.toList = Unicode.upperOf c ++ (Txt.upper (S r)).cps.toList:=by
 unfold Txt.upper placed
 simp [List.mapIdx_cons]
theorem zoz:∀ c:Nat,c < 128->(Unicode.upperOf c).length = 1/\((Unicode.upperOf c).count 59 = if c = 59 then 1 else 0):=by decide +kernel
theorem zjB:∀ l:List Nat,(∀ c ∈ l,c < 128)->(Txt.upper (S l)).cps.toList.length = l.length/\(Txt.upper (S l)).cps.toList.count 59 = l.count 59
 | [],_=>by unfold Txt.upper placed;simp
 | c :: r,h=>by
  have ih:=zjB r fun d hd=>h d (.tail _ hd)
  have h1:=zoz c (h c (.head _))
  rw [zh6,Ql,count_append,ih.1,ih.2,h1.1,h1.2,List.count_cons]
  refine ⟨by simp;omega,?_⟩
  by_cases hc:c = 59
  ·rw [Qw hc,Qw (by simp [hc])];omega
  ·rw [Qy hc,Qy (by simp [hc])];omega
theorem zki {c:Nat}:∀ {W:List (List Nat)},c ∈ jn W->c = 32\/∃ w ∈ W,c ∈ w
 | [],h=>by cases h
 | [x],h=>.inr ⟨x,.head _,h⟩
 | x :: y :: r,h=>by
  rcases QC.mp (show c ∈ x ++ 32 :: jn (y :: r) from h) with z | z
  ·exact .inr ⟨x,.head _,z⟩
  ·rcases QA.mp z with z | z
   ·exact .inl z
   ·rcases zki z with q | ⟨w,hw,q⟩
    ·exact .inl q
    ·exact .inr ⟨w,.tail _ hw,q⟩
theorem ziB {c:Nat}:∀ {W:List (List Nat)},c ∈ jn2 W->c = 32\/c = 59\/∃ w ∈ W,c ∈ w
 | [],h=>by cases h
 | [x],h=>.inr (.inr ⟨x,.head _,h⟩)
 | x :: y :: r,h=>by
  rcases QC.mp (show c ∈ x ++ 59 :: 32 :: jn2 (y :: r) from h) with z | z
  ·exact .inr (.inr ⟨x,.head _,z⟩)
  ·rcases QA.mp z with z | z
   ·exact .inr (.inl z)
   ·rcases QA.mp z with z | z
    ·exact .inl z
    ·rcases ziB z with q | q | ⟨w,hw,q⟩
     ·exact .inl q
     ·exact .inr (.inl q)
     ·exact .inr (.inr ⟨w,.tail _ hw,q⟩)
theorem zqt (gn:GN n):∀ c ∈ TX n,c < 128:=fun c hc=>by
 rcases ziB hc with z | z | ⟨w,hw,z⟩
 ·omega
 ·omega
 ·obtain ⟨p,hp,rfl⟩:=QE.mp hw
  rcases zki z with z | ⟨w,hw,z⟩
  ·omega
  ·have:=((y4 gn p hp).2 w hw).2 c z
   unfold sg at this
   omega
theorem zoA (gn:GN n):∃ l,Txt.upper (S (TX n)) = S l/\Bd' l:=by
 obtain ⟨x,r,e,t,hx⟩:=zbj gn
 obtain ⟨u1,u2⟩:=zjB (TX n) (zqt gn)
 have h1:=zd6 gn
 have h2:=zjG gn
 refine ⟨(Txt.upper (S (TX n))).cps.toList,by simp,?_,by omega,by omega⟩
 rw [t,show ze ++ 32 :: jn2 (x :: r.map jn) = 104 :: ([111,117,115,101] ++ 32 :: jn2 (x :: r.map jn)) from rfl,zh6,show Unicode.upperOf 104 = [72] by decide +kernel]
 exact zmn (by decide)
theorem zrp (gn:GN n) (M:Mem):∃ l,upT (.str (S (TX n))) M = .ok (.str (S l)) M/\Bd' l:=by
 obtain ⟨l,e,b⟩:=zoA gn
 refine ⟨l,?_,b⟩
 unfold upT
 dsimp only
 rw [e,Qw]
 unfold Builtin.Str.tooLong
 rw [qt]
 have:=b.ln
 exact Qv (Nat.not_lt.mpr (sz (by omega)))
end
theorem zcL {f g:Ev->Mem->Out Fl} {σ σ':Ev} {Q:T->Mem->Prop} (e:f σ M = .ok (.nx σ') M') (h:Ok ((g σ' M').bind zbl) Q):Ok ((zg f g σ M).bind zbl) Q:=by
 unfold zg
 rw [e]
 exact h
noncomputable def c8:List Nat:=[112,117,114,115,101,32,97,32,102,105,114,115,116,32,49,59,32]
noncomputable def c13:List Nat:=[97,115,107,32,97,32,49,32,45,32,98,97,100,32,104,101,97,114,115,32,115,117,114,101,59,32]
noncomputable def c10:List Nat:=59 :: 32 :: jn [zr,[122,122],[49],[45],[98,97,100],zB,zI]
section
theorem zlJ (gn:GN n):∃ x0 A R B r,qG n = .tup [.tup (.tup [.str (S x0),A] :: R),B]/\parts n = [ze,x0] :: r/\x0.length<=8:=by
 have h1:=gn.h1
 cases eh:n.hs with
 | nil=>rw [eh] at h1;simp at h1
 | cons h hs=>
  refine ⟨h.name.cps.toList,.tup (h.asks.map yz),hs.map hsT,.tup (n.ps.map puT),_,?_,by unfold parts;rw [eh];rfl,gn.nm (by rw [eh];exact .head _)⟩
  unfold qG
  rw [eh,toL]
  rfl
theorem zlg (gn:GN n) {x0 R0 U:List Nat} {r:List (List (List Nat))} (hx:parts n = [ze,x0] :: r) (hl:x0.length<=8) (hR:TX n = ze ++ 32 :: R0) (hU:Bd' U):∀ l ∈ [TX n ++ [59,32],32 :: TX n,TX n ++ [32],TX n ++ [59],TX n ++ [32,120],ze ++ [32,32] ++ R0,[],U,
  c8 ++ TX n,TX n ++ 59 :: 32 :: jn [ze,x0],TX n ++ c10,
  ze ++ [9] ++ R0,[59,32] ++ TX n,c13 ++ TX n,TX n ++ [59,32,110,101,116]],Bd' l:=by
 have tl:=zd6 gn
 have tc:=zjG gn
 have rl:R0.length<=1224:=by
  have:=congrArg List.length hR
  rw [Ql,Qn] at this
  omega
 have rc:R0.count 59<=12:=by
  have:=congrArg (List.count 59) hR
  rw [count_append,List.count_cons] at this
  omega
 have xc:x0.count 59 = 0:=List.count_eq_zero.mpr ((qT gn [ze,x0] (by rw [hx];exact .head _)).2 x0 (by simp)).2
 have h1:∀ {A B:List Nat},Bad (A ++ B)->A.length + B.length<=2000->A.count 59 + B.count 59<=80->Bd' (A ++ B):=fun b p q=>⟨b,by rw [Ql];exact p,by rw [count_append];exact q⟩
 have k0:(jn [ze,x0]).length<=20:=by show (ze ++ 32 :: x0).length<=20;simp [ze];omega
 have k1:(jn [ze,x0]).count 59 = 0:=by show (ze ++ 32 :: x0).count 59 = 0;rw [count_append,count_cons_of_ne (by decide),xc];rfl
 intro l h
 simp only [QA,not_mem_nil,or_false] at h
 rcases h with rfl | rfl | rfl | rfl | rfl | rfl | rfl | rfl | rfl | rfl | rfl | rfl | rfl | rfl | rfl
 ·exact h1 (zqm gn) (by simp;omega) (by have:([59,32]:List Nat).count 59 = 1:=rfl;omega)
 ·exact h1 (A:=[32]) (B:=TX n) (zsp gn) (by simp;omega) (by have:([32]:List Nat).count 59 = 0:=rfl;omega)
 ·exact h1 (zso gn) (by simp;omega) (by have:([32]:List Nat).count 59 = 0:=rfl;omega)
 ·exact h1 (zsn _) (by simp;omega) (by have:([59]:List Nat).count 59 = 1:=rfl;omega)
 ·exact h1 (zsm gn) (by simp;omega) (by have:([32,120]:List Nat).count 59 = 0:=rfl;omega)
 ·exact h1 (zsl gn hR) (by simp [ze];omega) (by have:(ze ++ [32,32]).count 59 = 0:=rfl;omega)
 ·exact ⟨zsk,by simp,by simp⟩
 ·exact hU
 ·exact h1 (A:=c8) (zsj gn) (by simp [c8];omega) (by have:c8.count 59 = 1:=rfl;omega)
 ·exact h1 (zsi gn hx) (by rw [Qn,Qn];omega) (by rw [List.count_cons_self,count_cons_of_ne (by decide),k1];omega)
 ·exact h1 (B:=c10) (zrm gn) (by have:c10.length<=40:=(by decide);omega) (by have:c10.count 59 = 1:=rfl;omega)
 ·exact h1 (zrl gn hR) (by simp [ze];omega) (by have:(ze ++ [9]).count 59 = 0:=rfl;omega)
 ·exact h1 (zrk gn) (by simp;omega) (by have:([59,32]:List Nat).count 59 = 1:=rfl;omega)
 ·exact h1 (A:=c13) (zrj gn) (by simp [c13];omega) (by have:c13.count 59 = 1:=rfl;omega)
 ·exact h1 (zri gn) (by simp;omega) (by have:([59,32,110,101,116]:List Nat).count 59 = 1:=rfl;omega)
theorem zmq (gn:GN n) {a:Nat} (hp:PO a M):Ok (zcu [.str (S (TX n)),qG n,.ref a] M) fun t M'=>∃ l,t = .str (S l)/\Bd' l/\PO a M'/\Fr [a] M M':=by
 refine qu rfl ?_
 unfold zf2
 obtain ⟨x0,A,R,B,r,eN,hx,hl⟩:=zlJ gn
 obtain ⟨U,eU,bU⟩:=zrp gn M
 obtain ⟨_,_,_,hR,_⟩:=zbj gn
 generalize jn2 _ = R0 at hR
 have tl:=zd6 gn
 have rl:R0.length<=1224:=by
  have:=congrArg List.length hR
  rw [Ql,Qn] at this
  omega
 have sb:=zlg gn hx hl hR bU
 have u5:zaK " " "  " (.str (S (TX n))) M = .ok (.str (S (ze ++ [32,32] ++ R0))) M:=by rw [hR];exact zif (z:=[32,32]) (by decide) (by simp [ze];omega) M
 have u11:zaK " " "\t" (.str (S (TX n))) M = .ok (.str (S (ze ++ [9] ++ R0))) M:=by rw [hR];exact zif (z:=[9]) (by decide) (by simp [ze];omega) M
 have sw1:=fun (N:Mem) (k w:List Nat) (a:Nat) h1 h2=>sw_run (k:=k) (w:=w) (a:=a) gn h1 h2 N
 have bd:=fun (k w:List Nat) (a:Nat) h1 h2 h3=>zoG (k:=k) (w:=w) (a:=a) gn h1 h2 h3
 have x9:32 ∉ x0/\59 ∉ x0:=(qT gn [ze,x0] (by rw [hx];exact .head _)).2 x0 (by simp)
 have b15:=bd _ _ _ (by decide) (by decide) (zrM gn)
 have b16:=bd _ _ _ (by decide) (by decide) (zrL gn)
 have b17:=bd _ _ _ (by decide) (by decide) (zrK gn)
 have b18:=bd _ _ _ (by decide) (by decide) (zrJ gn)
 have b19:=bd _ _ _ (by decide) (by decide) (zrI gn)
 have b20:=bd _ _ _ (by decide) (by decide) (zrH gn)
 have b21:=bd _ _ _ (by decide) (by decide) (zrG gn)
 have b22:=bd _ _ _ (by decide) (by decide) (zrF gn)
 have b23:=bd _ _ _ (by decide) (by decide) (zrE gn)
 have b24:=bd _ _ _ x9 hl (zrD gn hx)
 have b25:=bd _ _ _ (by decide) (by decide) (zrC gn)
 have b26:=bd _ _ _ (by decide) (by decide) (zrB gn)
 have b27:=bd _ _ _ (by decide) (by decide) (zrA gn)
 generalize parts n = PS at *
 rw [eN]
 generalize TX n = T at *
 have u0:yg (.str (S T)) (.str "; ") M = .ok (.str (S (T ++ [59,32]))) M:=ad (m:=[59,32]) (by simp;omega) M
 have u1:yg (.str " ") (.str (S T)) M = .ok (.str (S (32 :: T))) M:=ad (l:=[32]) (by simp;omega) M
 have u2:yg (.str (S T)) (.str " ") M = .ok (.str (S (T ++ [32]))) M:=ad (m:=[32]) (by simp;omega) M
 have u3:yg (.str (S T)) (.str ";") M = .ok (.str (S (T ++ [59]))) M:=ad (m:=[59]) (by simp;omega) M
 have u4:yg (.str (S T)) (.str " x") M = .ok (.str (S (T ++ [32,120]))) M:=ad (m:=[32,120]) (by simp;omega) M
 have u8:yg (.str "purse a first 1; ") (.str (S T)) M = .ok (.str (S (c8 ++ T))) M:=ad (l:=c8) (by simp [c8];omega) M
 have u9:yg (.str (S T)) (.str "; house ") M = .ok (.str (S (T ++ [59,32,104,111,117,115,101,32]))) M:=ad (m:=[59,32,104,111,117,115,101,32]) (by simp;omega) M
 have v9:yg (.str (S (T ++ [59,32,104,111,117,115,101,32]))) (.str (S x0)) M = .ok (.str (S (T ++ 59 :: 32 :: jn [ze,x0]))) M:=by
  rw [ad (by simp;omega) M]
  congr 3
  simp [jn,ze]
 have u10:yg (.str (S T)) (.str "; ask zz 1 - bad hears sure") M = .ok (.str (S (T ++ c10))) M:=ad (m:=c10) (by have:c10.length<=40:=(by decide);omega) M
 have u12:yg (.str "; ") (.str (S T)) M = .ok (.str (S ([59,32] ++ T))) M:=ad (l:=[59,32]) (by simp;omega) M
 have u13:yg (.str "ask a 1 - bad hears sure; ") (.str (S T)) M = .ok (.str (S (c13 ++ T))) M:=ad (l:=c13) (by simp [c13];omega) M
 have u14:yg (.str (S T)) (.str "; net") M = .ok (.str (S (T ++ [59,32,110,101,116]))) M:=ad (m:=[59,32,110,101,116]) (by simp;omega) M
 generalize T ++ [59,32,104,111,117,115,101,32] = Y9 at u9 v9
 generalize T ++ [59,32] = L0 at *
 generalize 32 :: T = L1 at *
 generalize T ++ [32] = L2 at *
 generalize T ++ [59] = L3 at *
 generalize T ++ [32,120] = L4 at *
 generalize ze ++ [32,32] ++ R0 = L5 at *
 generalize c8 ++ T = L8 at *
 generalize T ++ 59 :: 32 :: jn [ze,x0] = L9 at *
 generalize T ++ c10 = L10 at *
 generalize ze ++ [9] ++ R0 = L11 at *
 generalize [59,32] ++ T = L12 at *
 generalize c13 ++ T = L13 at *
 generalize T ++ [59,32,110,101,116] = L14 at *
 have at0:atI (FT.T.tup [.str (S x0),A] :: R) 0 = some (.tup [.str (S x0),A]):=by rw [show (0:Int) = ((0:Nat):Int) from rfl,FT.zR];rfl
 rw [show startT 7 [FT.T.str (S T),.tup [.tup (.tup [.str (S x0),A] :: R),B],.ref a] = [some (.str (S T)),some (.tup [.tup (.tup [.str (S x0),A] :: R),B]),some (.ref a),none,none,none,none] from rfl]
 obtain ⟨T1,hT1⟩:∃ T1:List FT.T,T1 = [.str (S L0),.str (S L1),.str (S L2),.str (S L3),.str (S L4),.str (S L5),.str "",.str (S U)]:=⟨_,rfl⟩
 refine zcL (σ':=[some (.str (S T)),some (.tup [.tup (.tup [.str (S x0),A] :: R),B]),some (.ref a),some (.lst T1),none,none,none]) (M':=M) (by simp_arith [u0,u1,u2,u3,u4,u5,eU,hT1]) ?_
 have a1:=zcZ (xs:=T1) (ys:=[.str (S L8),.str (S L9),.str (S L10)]) (M:=M) (sz (by rw [hT1];simp))
 obtain ⟨T2,hT2⟩:∃ T2:List FT.T,T2 = T1 ++ [.str (S L8),.str (S L9),.str (S L10)]:=⟨_,rfl⟩
 rw [← hT2] at a1
 refine zcL (σ':=[some (.str (S T)),some (.tup [.tup (.tup [.str (S x0),A] :: R),B]),some (.ref a),some (.lst T2),none,none,none]) (M':=M) (by simp_arith [u8,u9,v9,u10,at0,a1]) ?_
 have a2:=zcZ (xs:=T2) (ys:=[.str (S L11),.str (S L12),.str (S L13),.str (S L14)]) (M:=M) (sz (by rw [hT2,hT1];simp))
 obtain ⟨T3,hT3⟩:∃ T3:List FT.T,T3 = T2 ++ [.str (S L11),.str (S L12),.str (S L13),.str (S L14)]:=⟨_,rfl⟩
 rw [← hT3] at a2
 refine zcL (σ':=[some (.str (S T)),some (.tup [.tup (.tup [.str (S x0),A] :: R),B]),some (.ref a),some (.lst T3),none,none,none]) (M':=M) (by simp_arith [u11,u12,u13,u14,a2]) ?_
 have hall:∀ t ∈ T3,∃ l,t = .str (S l)/\Bd' l:=by
  intro t ht
  have:T3 = [L0,L1,L2,L3,L4,L5,[],U,L8,L9,L10,L11,L12,L13,L14].map fun l=>FT.T.str (S l):=by rw [hT3,hT2,hT1];rfl
  rw [this] at ht
  obtain ⟨l,hl,rfl⟩:=QE.mp ht
  exact ⟨l,rfl,sb l hl⟩
 have l3:T3.length = 15:=by rw [hT3,hT2,hT1];rfl
 obtain ⟨_,N,n1,d,rfl,d0,d1,o1,f1⟩:=yy (base:=28) hp (by decide) (by decide)
 refine zcL (σ':=[some (.str (S T)),some (.tup [.tup (.tup [.str (S x0),A] :: R),B]),some (.ref a),some (.lst T3),some (.int d),none,none]) (M':=N) (by simp_arith [n1]) ?_
 by_cases h15:d < 15
 ·obtain ⟨x,hx,hm⟩:=zfk (xs:=T3) d0 (by omega)
  obtain ⟨l,rfl,hb⟩:=hall x hm
  simp_arith [Qu h15,hx]
  exact Ok.ret ⟨l,rfl,hb,o1,f1⟩
 have fin:∀ {k w:List Nat} {a':Nat},Bd' (swL k a' w PS)->∀ {t:FT.T} {N':Mem},t = .str (S (swL k a' w PS))/\Fr [] N N'->∃ l,t = .str (S l)/\Bd' l/\PO a N'/\Fr [a] M N':=fun b t N' h=>⟨_,h.1,b,o1.fr h.2 (by simp),f1.trans h.2.mono⟩
 clear hall hT1 hT2 hT3 a1 a2 u0 u1 u2 u3 u4 u5 u8 u9 v9 u10 u11 u12 u13 u14 sb eU
 by_cases h25:d < 25
 ·obtain ⟨a',w,b,h8,h7,x1,x2⟩:∃ (a':Nat) (w:List Nat),Bd' (swL zr a' w PS)/\w.length<=8/\a' < 7/\atI [FT.T.int 2,.int 2,.int 2,.int 2,.int 2,.int 4,.int 5,.int 6,.int 3,.int 1] (d - 15) = some (.int a')/\atI [.str "0",.str "5",.str "01",.str "Ever",.str "",.str "good",.str "heard",.str "loose",.str "a1",FT.T.str (S x0)] (d - 15) = some (.str (S w)):=by
   have:d = 15\/d = 16\/d = 17\/d = 18\/d = 19\/d = 20\/d = 21\/d = 22\/d = 23\/d = 24:=by omega
   rcases this with rfl | rfl | rfl | rfl | rfl | rfl | rfl | rfl | rfl | rfl
   ·exact ⟨2,[48],b15,by decide,by decide,rfl,rfl⟩
   ·exact ⟨2,[53],b16,by decide,by decide,rfl,rfl⟩
   ·exact ⟨2,[48,49],b17,by decide,by decide,rfl,rfl⟩
   ·exact ⟨2,[69,118,101,114],b18,by decide,by decide,rfl,rfl⟩
   ·exact ⟨2,[],b19,by decide,by decide,rfl,rfl⟩
   ·exact ⟨4,[103,111,111,100],b20,by decide,by decide,rfl,rfl⟩
   ·exact ⟨5,[104,101,97,114,100],b21,by decide,by decide,rfl,rfl⟩
   ·exact ⟨6,[108,111,111,115,101],b22,by decide,by decide,rfl,rfl⟩
   ·exact ⟨3,[97,49],b23,by decide,by decide,rfl,rfl⟩
   ·exact ⟨1,x0,b24,hl,by decide,rfl,rfl⟩
  have sw:=sw1 N zr w a' h8 (.inl ⟨rfl,h7⟩)
  simp_arith [Qv h15,Qu h25,at0,x1,x2]
  exact Ok.bind sw fun t N' h=>Ok.ret (fin b h)
 obtain ⟨w,b,h8,x1⟩:∃ w:List Nat,Bd' (swL yp 3 w PS)/\w.length<=8/\atI [FT.T.str "0",.str "10",.str "01"] (d - 25) = some (.str (S w)):=by
  have:d = 25\/d = 26\/d = 27:=by omega
  rcases this with rfl | rfl | rfl
  ·exact ⟨[48],b25,by decide,rfl⟩
  ·exact ⟨[49,48],b26,by decide,rfl⟩
  ·exact ⟨[48,49],b27,by decide,rfl⟩
 have sw:=sw1 N yp w 3 h8 (.inr ⟨rfl,by decide⟩)
 simp_arith [Qv h15,Qv h25,x1]
 exact Ok.bind sw fun t N' h=>Ok.ret (fin b h)
end
theorem zgp {b:Int} (h0:0 < b) (h:b<=10 ^ 40):b.natAbs < 10 ^ 100:=by
 refine Nat.lt_of_le_of_lt (show b.natAbs<=10 ^ 40 from ?_) (Nat.pow_lt_pow_right (by decide) (by decide))
 simp only [Int.reducePow] at h
 simp only [Nat.reducePow]
 omega
noncomputable def nmL (b:List Nat) (a f:Nat) (t:Bool) (k:Nat):List Nat:=b.take a ++ [97 + (f + 5 * k) % 26] ++ b.drop a ++ (if t = true/\k % 2 = 1 then [97 + (f + k) % 26] else [])
theorem zfz (b:List Nat) (a f:Nat) (t:Bool) (k:Nat):(nmL b a f t k).length = b.length + 1 + (if t = true/\k % 2 = 1 then 1 else 0):=by
 unfold nmL
 rw [Ql,Ql,Ql,Qp,length_drop,Qs]
 split <;> (simp;omega)
variable {t:Bool} {f:Nat}
theorem zqW {b:List Nat} (hb:b.all isL = true) (h6:b.length<=6) {a k:Nat} :isW (nmL b a f t k) = true:=by
 unfold isW
 rw [zfz,Qq]
 refine ⟨Qu (by split <;> omega),QD.mpr fun c hc=>?_⟩
 have hb:=QD.mp hb
 unfold nmL at hc
 rcases QC.mp hc with hc | hc
 ·rcases QC.mp hc with hc | hc
  ·rcases QC.mp hc with hc | hc
   ·exact hb c (List.mem_of_mem_take hc)
   ·rw [Qz.mp hc];exact Qu (by omega)
  ·exact hb c (mem_of_mem_drop hc)
 ·split at hc
  ·rw [Qz.mp hc];exact Qu (by omega)
  ·cases hc
theorem zps {b:List Nat} {a j:Nat} (hij:i < j) (hj:j < 4) (e:nmL b a f t i = nmL b a f t j):False:=by
 have hl:=congrArg List.length e
 rw [zfz,zfz] at hl
 unfold nmL at e
 have e1:=(append_inj' e (by
  by_cases h1:t = true/\i % 2 = 1 <;> by_cases h2:t = true/\j % 2 = 1
  ·rw [Qw h1,Qw h2];rfl
  ·rw [Qw h1,Qy h2] at hl;omega
  ·rw [Qy h1,Qw h2] at hl;omega
  ·rw [Qy h1,Qy h2])).1
 have e2:=List.append_cancel_right e1
 have e3:=List.append_cancel_left e2
 have e4:97 + (f + 5 * i) % 26 = 97 + (f + 5 * j) % 26:=by simpa using e3
 omega
noncomputable def nmS (b:List Nat) (a f:Nat) (t:Bool) (n:Nat):List Str:=(List.range n).map fun k=>S (nmL b a f t k)
theorem zpr {b:List Nat} {a n:Nat} (hn:n<=4):(nmS b a f t n).Nodup:=by
 unfold nmS
 refine List.pairwise_map.mpr (List.Pairwise.imp_of_mem ?_ (List.pairwise_lt_range (n:=n)))
 intro i j hi hj hlt e
 have e:=congrArg (fun s:Str=>s.cps.toList) e
 simp at e
 exact zps hlt (by have:=mem_range.mp hj;omega) e
theorem zpq {b:List Nat} (hb:b.all isL = true) (h6:b.length<=6) {a n:Nat} (hn:n<=4):Nms (nmS b a f t n):=⟨zpr hn,fun x hx=>by
 obtain ⟨k,_,rfl⟩:=QE.mp hx
 exact ⟨_,rfl,zqW hb h6⟩⟩
theorem zlL {a:Nat} (e:PO a M) {n:Nat} (hn:n<=4):Ok (zct [.ref a,.int (n:Int)] M) fun t M'=>∃ w ws,t = .ref w/\M'[w]? = some (.lst (ws.map .str))/\M.length<=w/\Nms ws/\ws.length = n/\PO a M'/\Fr [a] M M':=by
 refine qu rfl ?_
 unfold zf1
 have ha:a < M.length:=by obtain ⟨_,_,_,e⟩:=e;exact zaM e
 rw [show startT 10 [.ref a,.int (n:Int)] = [some (.ref a),some (.int (n:Int)),none,none,none,none,none,none,none,none] from rfl]
 refine Ok.seqR fun X hX=>?_
 simp_arith [and_self]
 rw [hX];clear hX;simp only [zh]
 refine Ok.seqR fun X hX=>?_
 simp_arith [qA,zJ]
 refine Ok.bind (yy e (by decide) (by decide)) ?_
 rintro t M1 ⟨m,rfl,m0,m1,p1,f1⟩
 simp_arith [zd9 (show -(2 ^ 62)<=m/\m < 2 ^ 62 by omega)]
 refine Ok.bind (Ok.comp (r:=FT.T.int) (fun i acc σ M'=>(∃ cs:List Nat,acc = cs.map (fun c=>.str (S [c]))/\cs.length = i/\cs.all isL = true)/\(∃ o,σ = [o,some (.str "abcdefghijklmnopqrstuvwxyz"),some (.ref a)])/\PO a M'/\Fr [a] M M') (rgI m.toNat) 0 [] ⟨⟨[],rfl,rfl,rfl⟩,⟨_,rfl⟩,p1,f1⟩ (by rw [zbR];exact sz (by simp;omega)) ?_) ?_
 ·rintro k x σ M2 acc hk ⟨⟨cs,rfl,hz,h1⟩,⟨o,rfl⟩,p2,f2⟩
  simp_arith [and_self]
  refine Ok.bind (yy p2 (by decide) (by decide)) ?_
  rintro t M3 ⟨d,rfl,d0,d1,p3,f3⟩
  simp_arith [zha d0 d1]
  refine Ok.ret ⟨⟨cs ++ [97 + d.toNat],by simp,by simp [hz],?_⟩,⟨_,rfl⟩,p3,f2.trans f3⟩
  rw [List.all_append,h1]
  simp only [all_cons,List.all_nil,Bool.true_and,Bool.and_true]
  exact Qu (by omega)
 rintro ts M2 ⟨σ,⟨b,rfl,hz,hb⟩,_,p2,f2⟩
 rw [Nat.zero_add,zbR] at hz
 have hb6:b.length<=6:=by omega
 simp_arith [join_eq (cs:=b) (by omega)]
 rw [hX];clear hX;simp only [zh]
 refine Ok.seqR fun X hX=>?_
 simp_arith [zlO (l:=b) (by omega)]
 refine Ok.bind (yy p2 (by omega) (zgp (by omega) (by omega))) ?_
 rintro t M3 ⟨av,rfl,a0,a1,p3,f3⟩
 obtain ⟨at_,rfl⟩:∃ at_:Nat,av = at_:=⟨av.toNat,by omega⟩
 try simp_arith [and_self]
 rw [hX];clear hX;simp only [zh]
 refine Ok.seqR fun X hX=>?_
 simp_arith [and_self]
 refine Ok.bind (yy p3 (by decide) (by decide)) ?_
 rintro t M4 ⟨fv,rfl,f0,f1',p4,f4⟩
 obtain ⟨f,rfl⟩:∃ f:Nat,fv = f:=⟨fv.toNat,by omega⟩
 try simp_arith [and_self]
 rw [hX];clear hX;simp only [zh]
 refine Ok.seqR fun X hX=>?_
 simp_arith [and_self]
 refine Ok.bind (yy p4 (by decide) (by decide)) ?_
 rintro t M5 ⟨tv,rfl,t0,t1',p5,f5⟩
 try simp_arith [and_self]
 rw [hX];clear hX;simp only [zh]
 refine Ok.seqR fun X hX=>?_
 simp_arith [and_self]
 rw [hX];clear hX;simp only [zh]
 obtain ⟨tb,htb⟩:∃ tb:Bool,(tv == 1) = tb:=⟨_,rfl⟩
 have fr4:Fr [a] M M5:=((f2.trans f3).trans f4).trans f5
 have l4:=fr4.1
 refine Ok.seqR fun X hX=>?_
 simp_arith [zd9 (M:=M5 ++ [.lst []]) (j:=(n:Int)) (by omega),Int.toNat_natCast]
 refine Ok.bind (Ok.for (r:=FT.T.int) (xs:=rgI n) (fun k σ M'=>(∃ o8 o9,σ = [some (.ref a),some (.int (n:Int)),some (.str "abcdefghijklmnopqrstuvwxyz"),some (.str (S b)),some (.int (at_:Int)),some (.int (f:Int)),some (.int tv),some (.ref M5.length),o8,o9])/\M' = M5 ++ [.lst ((nmS b at_ f tb k).map .str)]) ⟨⟨none,none,rfl⟩,rfl⟩ ?_) ?_
 ·rintro k x σ M6 hx ⟨⟨o8,o9,rfl⟩,rfl⟩
  obtain ⟨hk,rfl⟩:=zie hx
  unfold zfj
  have m1:∀ M,zaF (.int 5) (.int (k:Int)) M = .ok (.int (5 * (k:Int))) M:=fun M=>zdT (by decide)
  have hd:((f:Int) + 5 * (k:Int)).fmod 26 = (((f + 5 * k) % 26:Nat):Int):=by rw [Q8 _ (by decide)];omega
  have hd2:((f:Int) + (k:Int)).fmod 26 = (((f + k) % 26:Nat):Int):=by rw [Q8 _ (by decide)];omega
  have hk2:((k:Int)).fmod 2 = ((k % 2:Nat):Int):=by rw [Q8 _ (by decide)];omega
  have c1:=fun M=>zqk (l:=b) hb6 (a:=at_) (by omega) M
  have c2:=fun M=>zql (l:=b) hb6 (a:=at_) (by omega) M
  have x1:=fun M=>zha (d:=(((f + 5 * k) % 26:Nat):Int)) (by omega) (by omega) M
  have x2:=fun M=>zha (d:=(((f + k) % 26:Nat):Int)) (by omega) (by omega) M
  rw [Int.toNat_natCast] at x1
  rw [Int.toNat_natCast] at x2
  have y1:=fun M=>adE (l:=b.take at_) (m:=[97 + (f + 5 * k) % 26]) (by rw [Qp,Qs];omega) M
  have y2:=fun M=>adE (l:=b.take at_ ++ [97 + (f + 5 * k) % 26]) (m:=b.drop at_) (by rw [Ql,Qp,Qs,length_drop];omega) M
  have y3:=fun M=>adE (l:=b.take at_ ++ [97 + (f + 5 * k) % 26] ++ b.drop at_) (m:=[97 + (f + k) % 26]) (by
   rw [Ql,Ql,Qp,Qs,length_drop,Qs];omega) M
  have g:(M5 ++ [Cell.lst ((nmS b at_ f tb k).map .str)])[M5.length]? = some (.lst ((nmS b at_ f tb k).map .str)):=qB
  have hl:((nmS b at_ f tb k).map FT.T.str).length < sizeLine:=by
   unfold nmS
   rw [Qf,Qf,length_range,sizeLine_eq]
   omega
  have fin:∀ l,l = nmL b at_ f tb k->(M5 ++ [Cell.lst ((nmS b at_ f tb k).map .str)]).set M5.length (.lst ((nmS b at_ f tb k).map .str ++ [.str (S l)])) = M5 ++ [.lst ((nmS b at_ f tb (k + 1)).map .str)]:=fun l e=>by
   rw [List.set_append_right _ _ (Q3 _),Nat.sub_self,e]
   unfold nmS
   rw [List.range_succ,Qo,Qo]
   rfl
  have hc:((((k % 2:Nat):Int)) == 1) = decide (k % 2 = 1):=by
   have:k % 2 = 0\/k % 2 = 1:=by omega
   rcases this with z | z <;> rw [z] <;> rfl
  refine Ok.seqX fun X hX=>?_
  simp_arith [zeP,m1,hd,c1,c2,x1,y1,y2]
  rw [hX];clear hX;simp only [zh]
  by_cases ht:tv = 1
  ·have hb1:(tv == 1) = true:=by simpa using ht
   by_cases hkk:k % 2 = 1
   ·simp_arith [hb1,hk2,hc,Qu hkk,hd2,x2,y3,yE g,yS g hl]
    exact Ok.ret ⟨_,rfl,⟨_,_,rfl⟩,fin _ (by unfold nmL;rw [Qw ⟨htb.symm.trans hb1,hkk⟩])⟩
   ·simp_arith [hb1,hk2,hc,Qv hkk,hd2,x2,y3,yE g,yS g hl]
    exact Ok.ret ⟨_,rfl,⟨_,_,rfl⟩,fin _ (by unfold nmL;rw [Qy (fun z=>hkk z.2),append_nil])⟩
  ·have hb1:(tv == 1) = false:=by simpa using ht
   simp_arith [hb1,hk2,hc,hd2,x2,y3,yE g,yS g hl]
   exact Ok.ret ⟨_,rfl,⟨_,_,rfl⟩,fin _ (by unfold nmL;rw [Qy (fun z=>by rw [← htb,hb1] at z;cases z.1),append_nil])⟩
 rintro fl M6 ⟨σ,rfl,⟨o8,o9,rfl⟩,rfl⟩
 rw [zbR]
 rw [hX];clear hX;simp only [zh]
 simp_arith [and_self]
 refine Ok.ret ⟨M5.length,nmS b at_ f tb n,rfl,qB,l4,zpq hb hb6 hn,by simp [nmS],p5.fr (Fr.app _ _) (by simp),fr4.tr (Fr.app _ _) (by simp)⟩
noncomputable def WS:List Str:=["house","ask","purse","ever","first","any","bad","spent","hears","deaf","sure","lossy","net","fresh","ends","lost","again","up","well","may","back","pay","load","asks","nets","x"]
theorem zrn:WS.Nodup:=by decide +kernel
theorem zsr:∀ x ∈ WS,isW x.cps.toList = true:=by decide +kernel
theorem zfl:WS.length = 26:=rfl
noncomputable def wsN (f n:Nat):List Str:=(List.range n).map fun k=>WS[(f + 3 * k) % 26]'(by rw [zfl];omega)
theorem zov {n:Nat} (hn:n<=4):Nms (wsN f n):=by
 refine ⟨?_,fun x hx=>?_⟩
 ·unfold wsN
  refine List.pairwise_map.mpr (List.Pairwise.imp_of_mem ?_ (List.pairwise_lt_range (n:=n)))
  intro i j hi hj hlt e
  have:=mem_range.mp hj
  have h:=List.pairwise_iff_getElem.mp zrn
  rcases Nat.lt_trichotomy ((f + 3 * i) % 26) ((f + 3 * j) % 26) with z | z | z
  ·exact h _ _ _ _ z e
  ·omega
  ·exact h _ _ _ _ z e.symm
 ·obtain ⟨k,_,rfl⟩:=QE.mp hx
  exact ⟨_,(toL _).symm,zsr _ (getElem_mem _)⟩
theorem PO.bel {a:Nat} (p:PO a M') (f:Fr [a] M M'):Bel M M':=⟨f.1,fun i c hi e=>by
 by_cases h:i = a
 ·obtain ⟨x,y,z,e2⟩:=p
  rw [h,e2] at e
  cases e
  refine .inr fun t ht=>?_
  simp only [QA,not_mem_nil,or_false] at ht
  rcases ht with rfl | rfl | rfl <;> exact .int _
 ·exact .inl (by rw [← f.2 i hi (by simpa using h)];exact e)⟩
theorem ziH {a:Nat} (f:Fr [a] M M'):Fr [a] M (M'.take M.length):=⟨by rw [Qp];have:=f.1;omega,fun i hi hs=>by rw [getElem?_take,Qw hi,f.2 i hi hs]⟩
theorem PO.take {a:Nat} (p:PO a M') (ha:a < M.length):PO a (M'.take M.length):=by
 obtain ⟨x,y,z,e⟩:=p
 exact ⟨x,y,z,by rw [getElem?_take,Qw ha,e]⟩
theorem zjK {ws:List Str}:∀ x ∈ ws.map FT.T.str,FT.T.lt 0 x:=fun x hx=>by
 obtain ⟨z,_,rfl⟩:=QE.mp hx
 exact .str z
theorem zml {a:Nat} (e:PO a M) {n:Nat} (hn:n<=4):Ok (zdq [.ref a,.int (n:Int)] M) fun t M'=>∃ ws,((∃ w,t = .ref w/\M'[w]? = some (.lst (ws.map .str))/\M.length<=w)\/t = .lst (ws.map .str))/\Nms ws/\ws.length = n/\PO a M'/\Fr [a] M M':=by
 refine qu rfl ?_
 unfold ze9
 rw [show startT 4 [.ref a,.int (n:Int)] = [some (.ref a),some (.int (n:Int)),none,none] from rfl]
 refine zcL (σ':=[some (.ref a),some (.int (n:Int)),some (.lst ((WS.take 13).map .str)),none]) (M':=M) (by simp_arith [and_self];rfl) ?_
 have a1:yg (.lst ((WS.take 13).map .str)) (.lst ((WS.drop 13).map .str)) M = .ok (.lst (WS.map .str)) M:=zcZ (xs:=(WS.take 13).map .str) (ys:=(WS.drop 13).map .str) (M:=M) (sz (by decide))
 generalize hA:(WS.take 13).map FT.T.str = A at a1
 rw [show (WS.drop 13).map FT.T.str = [.str "fresh",.str "ends",.str "lost",.str "again",.str "up",.str "well",.str "may",.str "back",.str "pay",.str "load",.str "asks",.str "nets",.str "x"] from rfl] at a1
 generalize hB:WS.map FT.T.str = B at a1
 refine zcL (σ':=[some (.ref a),some (.int (n:Int)),some (.lst B),none]) (M':=M) (by simp_arith [a1]) ?_
 refine Ok.seqR fun X hX=>?_
 simp_arith [and_self]
 refine Ok.bind (yy e (by decide) (by decide)) ?_
 rintro t M1 ⟨d,rfl,d0,d1,p1,f1⟩
 by_cases hd:0 < d
 ·simp_arith [Qu hd]
  refine Ok.bind (zlL p1 hn) ?_
  rintro t M2 ⟨w,ws,rfl,gw,hw,nm,hl,p2,f2⟩
  rw [hX]
  simp_arith [za6,zbl]
  exact Ok.ret ⟨ws,.inl ⟨w,rfl,gw,Qh f1.1 hw⟩,nm,hl,p2,f1.trans f2⟩
 ·simp_arith [Qv hd]
  rw [hX];clear hX;simp only [zh]
  refine Ok.seqR fun X hX=>?_
  simp_arith [and_self]
  refine Ok.bind (yy p1 (by decide) (by decide)) ?_
  rintro t M2 ⟨fv,rfl,g0,g1,p2,f2⟩
  obtain ⟨f,rfl⟩:∃ f:Nat,fv = f:=⟨fv.toNat,by omega⟩
  try simp_arith [and_self]
  rw [hX];clear hX;simp only [zh]
  have cp:yt (qf 0) zw (eOp ixT (yb 1) (eOp zba (eOp yg (yb 2) (eOp zaF (eC (.int 3)) (yb 0))) (eC (.int 26)))) ((rgI n).map .int) [none,some (.lst B),some (.int (f:Int))] M2 [] = .ok ((wsN f n).map .str) M2:=by
   rw [show (wsN f n).map FT.T.str = (rgI n).map (fun i:Int=>FT.T.str (WS[(f + 3 * i.toNat) % 26]'(by rw [zfl];omega))) from by
    unfold wsN rgI
    rw [QI,QI]
    rfl]
   refine Ok.mapc (r:=FT.T.int) (fun σ=>∃ o,σ = [o,some (.lst B),some (.int (f:Int))]) _ ⟨_,rfl⟩ (by rw [zbR];omega) ?_
   rintro i σ hi ⟨o,rfl⟩
   obtain ⟨k,hk⟩:=mem_iff_getElem?.mp hi
   obtain ⟨hk,rfl⟩:=zie hk
   have m1:∀ M,zaF (.int 3) (.int (k:Int)) M = .ok (.int (3 * (k:Int))) M:=fun M=>zdT (by decide)
   have hd:((f:Int) + 3 * (k:Int)).fmod 26 = (((f + 3 * k) % 26:Nat):Int):=by rw [Q8 _ (by decide)];omega
   have hx:atI B (((f + 3 * k) % 26:Nat):Int) = some (.str (WS[(f + 3 * k) % 26]'(by rw [zfl];omega))):=by
    rw [← hB]
    exact zqn (f:=FT.T.str) (Q0 (by rw [zfl];omega))
   refine ⟨[some (.int (k:Int)),some (.lst B),some (.int (f:Int))],rfl,⟨_,rfl⟩,?_⟩
   simp_arith [m1,hd,hx]
   rfl
  simp_arith [zd9 (M:=M2) (j:=(n:Int)) (by omega),Int.toNat_natCast,cp]
  exact Ok.ret ⟨wsN f n,.inr rfl,zov hn,by simp [wsN],p2,f1.trans f2⟩
theorem zf5 {a:Nat} (e:PO a M) {n:Nat} (hn:n<=4):Ok (zaA [.ref a,.int (n:Int)] M) fun t M'=>∃ ws,t = .lst (ws.map .str)/\Nms ws/\ws.length = n/\PO a M'/\Fr [a] M M':=by
 have ha:a < M.length:=by obtain ⟨_,_,_,e⟩:=e;exact zaM e
 obtain ⟨t,M',ef,ws,ht,nm,hl,p,f⟩:=zml e hn
 have b:=p.bel f
 rcases ht with ⟨w,rfl,gw,hw⟩ | rfl
 ·refine ⟨.lst (ws.map .str),M'.take M.length,?_,ws,rfl,nm,hl,p.take ha,ziH f⟩
  unfold zaA zeO
  rw [ef]
  simp only [gw]
  exact Qw ⟨b,hw,zjK⟩
 ·refine ⟨.lst (ws.map .str),M'.take M.length,?_,ws,rfl,nm,hl,p.take ha,ziH f⟩
  unfold zaA zeO
  rw [ef]
  exact Qw ⟨b,.lst zjK⟩
theorem znH {i j:Int} :zi9 (.int i) (.int j) M = .ok (.int (if j < i then j else i)) M:=rfl
theorem zqo {a:Nat} (e:PO a M) {later:List Str} {us:List Pu} {w:Nat} (gw:M[w]? = some (.lst (us.map puT))) (wa:w ≠ a) (hl:later.length<=4) (h0:later ≠ []) (hu:us.length<=2) :
  Ok (zeg [.ref a,.lst (later.map .str),.ref w] M) fun t M'=>∃ q:Ask,t = yz q/\AO later (us.map (·.name)) q/\PO a M'/\Fr [a] M M':=by
 refine qu rfl ?_
 unfold ziG
 rw [show startT 7 [.ref a,.lst (later.map .str),.ref w] = [some (.ref a),some (.lst (later.map .str)),some (.ref w),none,none,none,none] from rfl]
 have hl0:0 < later.length:=by cases later with | nil=>exact absurd rfl h0 | cons _ _=>simp
 have cg:qF [(w,us.map puT)] (qf 0) zw (eOp ixT (yb 0) (eC (.int 0))) (us.map puT) [none] M [] = .ok ((us.map (·.name)).map .str) M:=by
  rw [zdZ (zhf gw) (fun σ=>∃ o,σ = [o]) (fun p:Pu=>FT.T.str p.name) ⟨_,rfl⟩ (by simp;omega) ?_]
  ·rw [QI];rfl
  ·rintro p σ hp ⟨o,rfl⟩
   refine ⟨[some (puT p)],rfl,⟨_,rfl⟩,?_⟩
   unfold puT
   simp_arith [and_self]
 have ct:yg (.lst [.non]) (.lst ((us.map (·.name)).map .str)) M = .ok (.lst (.non :: (us.map (·.name)).map .str)) M:=zcZ (sz (by simp;omega))
 have lg:zdj (.ref w) M = some (us.map puT,[(w,us.map puT)]):=zg5 gw
 have ln:=zeL gw
 rw [Qf] at ln
 generalize hpn:us.map (·.name) = pn at *
 have pl:pn.length = us.length:=by rw [← hpn,Qf]
 generalize hPT:pn.map FT.T.str = PT at *
 refine Ok.seqR fun X hX=>?_
 simp_arith [zdl,zbz,lg,cg,ct,ln]
 refine Ok.bind (yy e (by omega) (zgp (by omega) (by omega))) ?_
 rintro t M1 ⟨z,rfl,z0,z1,p1,f1⟩
 obtain ⟨pu,hpu,hpm⟩:∃ pu:Option Str,atI (FT.T.non :: PT) z = some (opS pu)/\∀ s,pu = some s->s ∈ pn:=by
  obtain ⟨zz,rfl⟩:=Int.eq_ofNat_of_zero_le z0
  rw [FT.zR,← hPT]
  cases zz with
  | zero=>exact ⟨none,rfl,fun s h=>by cases h⟩
  | succ zz=>
   have hz:zz < pn.length:=by omega
   rw [getElem?_cons_succ,Qa,Q0 hz]
   exact ⟨some pn[zz],rfl,fun s h=>by cases h;exact getElem_mem hz⟩
 simp_arith [hpu]
 rw [hX];clear hX;simp only [zh]
 refine Ok.seqR fun X hX=>?_
 simp_arith [and_self]
 refine Ok.bind (yy p1 (by decide) (by decide)) ?_
 rintro t M2 ⟨y,rfl,y0,y1,p2,f2⟩
 obtain ⟨tr,htr,tr0,tr4⟩:=zfx (xs:=[1,2,2,3,3,4,0,2]) 0 4 y0 y1 rfl
 simp only [QF,map_nil] at htr
 simp_arith [htr]
 rw [hX];clear hX;simp only [zh]
 refine Ok.seqR fun X hX=>?_
 simp_arith [and_self]
 refine Ok.bind (yy p2 (by decide) (by decide)) ?_
 rintro t M3 ⟨x,rfl,x0,x1,p3,f3⟩
 obtain ⟨wo,hwo,hwa⟩:=zi7 (xs:=["bad","spent"]) x0 (by simpa using x1)
 simp only [QF,map_nil] at hwa
 have hwo:wo = "bad"\/wo = "spent":=by simpa using hwo
 simp_arith [hwa]
 rw [hX];clear hX;simp only [zh]
 refine Ok.seqR fun X hX=>?_
 simp_arith [and_self]
 refine Ok.bind (yy p3 (by decide) (by decide)) ?_
 rintro t M4 ⟨b1,rfl,b10,b11,p4,f4⟩
 simp_arith [and_self]
 rw [hX];clear hX;simp only [zh]
 simp_arith [Qf]
 refine Ok.bind (yy p4 (by omega) (zgp (by omega) (by omega))) ?_
 rintro t M5 ⟨v,rfl,v0,v1,p5,f5⟩
 obtain ⟨to,hto,hat⟩:=zi7 (xs:=later) v0 v1
 simp_arith [hat]
 refine Ok.bind (yy p5 (by decide) (by decide)) ?_
 rintro t M6 ⟨b2,rfl,b20,b21,p6,f6⟩
 simp_arith [and_self]
 exact Ok.ret ⟨⟨to,tr,pu,wo,b1 == 1,b2 == 1⟩,rfl,⟨hto,tr0,tr4,hpm,hwo⟩,p6,((((f1.trans f2).trans f3).trans f4).trans f5).trans f6⟩
theorem zoe {α:Type} (f:α->FT.T) (xs:List α):enT (xs.map f) = xs.zipIdx.map fun q=>FT.T.tup [nT q.2,f q.1]:=by
 unfold enT
 rw [List.mapIdx_eq_zipIdx_map,List.zipIdx_map,QI]
 rfl
theorem zos {α:Type} {xs:List α} {k:Nat} {q:α × Nat} (h:xs.zipIdx[k]? = some q):q.2 = k/\xs[k]? = some q.1:=by
 rw [List.getElem?_zipIdx] at h
 cases z:xs[k]? with
 | none=>rw [z] at h;cases h
 | some x=>rw [z] at h;cases h;exact ⟨by simp,rfl⟩
theorem zpt {a:Nat} (e:PO a M):Ok (zef [.ref a,.int 4] M) fun t M'=>∃ n,t = qG n/\GN n/\PO a M'/\Fr [a] M M':=by
 refine qu rfl ?_
 unfold ziF
 have ha:a < M.length:=by obtain ⟨_,_,_,e⟩:=e;exact zaM e
 rw [show startT 10 [.ref a,.int 4] = [some (.ref a),some (.int 4),none,none,none,none,none,none,none,none] from rfl]
 refine Ok.seqR fun X hX=>?_
 simp_arith [and_self]
 refine Ok.bind (yy e (by decide) (by decide)) ?_
 rintro t M1 ⟨d,rfl,d0,d1,p1,f1⟩
 obtain ⟨nh,hnh⟩:∃ nh:Nat,1 + d = nh:=⟨(1 + d).toNat,by omega⟩
 simp_arith [hnh]
 refine Ok.bind (zf5 p1 (n:=nh) (by omega)) ?_
 rintro t M2 ⟨hs,rfl,nmh,hlh,p2,f2⟩
 try simp_arith [and_self]
 rw [hX];clear hX;simp only [zh]
 refine Ok.seqR fun X hX=>?_
 simp_arith [and_self]
 rw [hX];clear hX;simp only [zh]
 have la2:M.length<=M2.length:=Qh f1.1 f2.1
 have pA:PO a (M2 ++ [Cell.lst []]):=p2.fr (Fr.app _ _) (by simp)
 refine Ok.seqR fun X hX=>?_
 simp_arith [and_self]
 refine Ok.bind (yy pA (by decide) (by decide)) ?_
 rintro t M3 ⟨dp,rfl,dp0,dp1,p3,f3⟩
 obtain ⟨np,rfl⟩:∃ np:Nat,dp = np:=⟨dp.toNat,by omega⟩
 try simp_arith [and_self]
 refine Ok.bind (zf5 p3 (n:=np) (by omega)) ?_
 rintro t M4 ⟨pn,rfl,nmp,hlp,p4,f4⟩
 try simp_arith [and_self]
 have f24:Fr [a] (M2 ++ [Cell.lst []]) M4:=f3.trans f4
 have g4:M4[M2.length]? = some (.lst []):=f24.get qB (by simp;omega)
 refine Ok.bind (Ok.for (r:=FT.T.str) (xs:=pn) (fun k σ M'=>∃ (us:List Pu) (o4:Option FT.T),σ = [some (.ref a),some (.int 4),some (.lst (hs.map .str)),some (.ref M2.length),o4,none,none,none,none,none]/\M'[M2.length]? = some (.lst (us.map puT))/\us.map (·.name) = pn.take k/\(∀ p ∈ us,(p.earns = "first"\/p.earns = "any")/\1<=p.per/\p.per<=9)/\PO a M'/\Fr [a,M2.length] (M2 ++ [Cell.lst []]) M') ⟨[],none,rfl,g4,rfl,(fun h hh=>by cases hh),p4,f24.sub (by simp)⟩ ?_) ?_
 ·rintro k x σ M5 hx ⟨us,o4,rfl,g5,hun,hpe,p5,f5⟩
  have hk:=(Qx.mp hx).1
  have hul:us.length = k:=by
   have:=congrArg List.length hun
   rw [Qf,Qp] at this
   omega
  simp_arith [and_self]
  unfold zhI
  simp_arith [yE g5]
  refine Ok.bind (yy p5 (by decide) (by decide)) ?_
  rintro t M6 ⟨z,rfl,z0,z1,p6,f6⟩
  obtain ⟨ea,hea,hat⟩:=zi7 (xs:=["first","any"]) z0 (by simpa using z1)
  simp only [QF,map_nil] at hat
  have hea:ea = "first"\/ea = "any":=by simpa using hea
  simp_arith [hat]
  refine Ok.bind (yy p6 (by decide) (by decide)) ?_
  rintro t M7 ⟨y,rfl,y0,y1,p7,f7⟩
  obtain ⟨bs,hbs,b2,b9⟩:=zfx (xs:=[2,9]) 2 9 y0 y1 rfl
  simp only [QF,map_nil] at hbs
  simp_arith [hbs]
  refine Ok.bind (yy p7 (by omega) (zgp (by omega) (by omega))) ?_
  rintro t M8 ⟨u,rfl,u0,u1,p8,f8⟩
  have g8:M8[M2.length]? = some (.lst (us.map puT)):=f8.get (f7.get (f6.get g5 (by simp;omega)) (by simp;omega)) (by simp;omega)
  have ap:=yS (t:=puT ⟨x,ea,1 + u⟩) g8 (by rw [Qf,sizeLine_eq];omega)
  rw [show us.map puT ++ [puT ⟨x,ea,1 + u⟩] = (us ++ [(⟨x,ea,1 + u⟩:Pu)]).map puT from by simp,show puT ⟨x,ea,1 + u⟩ = .tup [.str x,.str ea,.int (1 + u)] from rfl] at ap
  simp_arith [ap]
  refine Ok.ret ⟨_,rfl,us ++ [⟨x,ea,1 + u⟩],_,rfl,get_set g8,by rw [Qo,hun,take_succ,hx];rfl,fun p hp=>?_,p8.fr (Fr.set _ _ _) (by simp;omega),(((f5.tr f6 (by simp)).tr f7 (by simp)).tr f8 (by simp)).tr (Fr.set _ _ _) (by simp)⟩
  rcases QC.mp hp with hp | hp
  ·exact hpe p hp
  ·rw [Qz.mp hp];exact ⟨hea,by show 1<=1 + u;omega,by show 1 + u<=9;omega⟩
 rintro fl M5 ⟨σ,rfl,us,o4,rfl,g5,hun,hpe,p5,f5⟩
 rw [take_length] at hun
 have hul:us.length = pn.length:=by have:=congrArg List.length hun;rwa [Qf] at this
 have l5:M2.length < M5.length:=zaM g5
 rw [hX];clear hX;simp only [zh]
 refine Ok.seqR fun X hX=>?_
 simp_arith [and_self]
 rw [hX];clear hX;simp only [zh]
 refine Ok.seqR fun X hX=>?_
 simp_arith [and_self]
 rw [hX];clear hX;simp only [zh]
 have en:enT (hs.map FT.T.str) = hs.zipIdx.map fun q=>FT.T.tup [nT q.2,.str q.1]:=zoe _ _
 refine Ok.seqR fun X hX=>?_
 simp_arith [ze7,en]
 refine Ok.bind (Ok.for (r:=fun q:Str × Nat=>FT.T.tup [nT q.2,.str q.1]) (xs:=hs.zipIdx) (fun k σ M'=>∃ (ss:List Hs) (o4 o7 o8 o9:Option FT.T),σ = [some (.ref a),some (.int 4),some (.lst (hs.map .str)),some (.ref M2.length),o4,some (.ref M5.length),some (.int (6 - ((ss.map (·.asks.length)).sum:Nat))),o7,o8,o9]/\M'[M5.length]? = some (.lst (ss.map hsT))/\ss.map (·.name) = hs.take k/\(∀ h ∈ ss,h.asks.length<=3)/\(∀ i h,ss[i]? = some h->∀ q ∈ h.asks,AO (hs.drop (i + 1)) pn q)/\(ss.map (·.asks.length)).sum<=6/\PO a M'/\Fr [a,M5.length] (M5 ++ [Cell.lst []]) M') ⟨[],o4,none,none,none,rfl,qB,rfl,(fun h hh=>by cases hh),(fun i h hh=>by simp at hh),by simp,p5.fr (Fr.app _ _) (by simp),Fr.refl _ _⟩ ?_) ?_
 ·rintro k q σ M6 hq ⟨ss,o4,o7,o8,o9,rfl,g6,hnm,ha3,hao,h6,p6,f6⟩
  obtain ⟨hqk,hqx⟩:=zos hq
  have hk:k < hs.length:=(Qx.mp hqx).1
  have hsl:ss.length = k:=by
   have:=congrArg List.length hnm
   rw [Qf,Qp] at this
   omega
  have gp6:M6[M2.length]? = some (.lst (us.map puT)):=f6.get ((Fr.app M5 [Cell.lst []]).get0 g5) (by simp;omega)
  have cu:zcG (hs.map FT.T.str) (some ((k:Int) + 1)) none = (hs.drop (k + 1)).map .str:=by
   rw [show (k:Int) + 1 = ((k + 1:Nat):Int) by omega,zhs]
  have fin:∀ {as:List Ask} {M':Mem} (o9':Option FT.T),(∀ q ∈ as,AO (hs.drop (k + 1)) pn q)->as.length<=3->as.length + (ss.map (·.asks.length)).sum<=6->PO a M'->Fr [a] M6 M'->M'[M5.length]? = some (.lst (ss.map hsT))->
    ∃ σ',(Fl.nx [some (.ref a),some (.int 4),some (.lst (hs.map .str)),some (.ref M2.length),some (.str q.1),some (.ref M5.length),some (.int (6 - (((ss.map (·.asks.length)).sum:Nat):Int) - (as.length:Int))),some (.int (k:Int)),some (.lst (as.map yz)),o9']) = .nx σ'/\∃ (ss':List Hs) (o4 o7 o8 o9:Option FT.T),σ' = [some (.ref a),some (.int 4),some (.lst (hs.map .str)),some (.ref M2.length),o4,some (.ref M5.length),some (.int (6 - ((ss'.map (·.asks.length)).sum:Nat))),o7,o8,o9]/\(M'.set M5.length (.lst ((ss ++ [(⟨q.1,as⟩:Hs)]).map hsT)))[M5.length]? = some (.lst (ss'.map hsT))/\ss'.map (·.name) = hs.take (k + 1)/\(∀ h ∈ ss',h.asks.length<=3)/\(∀ i h,ss'[i]? = some h->∀ q ∈ h.asks,AO (hs.drop (i + 1)) pn q)/\(ss'.map (·.asks.length)).sum<=6/\PO a (M'.set M5.length (.lst ((ss ++ [(⟨q.1,as⟩:Hs)]).map hsT)))/\Fr [a,M5.length] (M5 ++ [Cell.lst []]) (M'.set M5.length (.lst ((ss ++ [(⟨q.1,as⟩:Hs)]).map hsT))):=fun {as M'} o9' haq hal has p7 f7 g7=>by
   have sm:((ss ++ [(⟨q.1,as⟩:Hs)]).map (·.asks.length)).sum = (ss.map (·.asks.length)).sum + as.length:=by simp
   refine ⟨_,rfl,ss ++ [⟨q.1,as⟩],some (.str q.1),some (.int (k:Int)),some (.lst (as.map yz)),o9',?_,?_,?_,fun h hh=>?_,fun i h hi q' hq'=>?_,?_,p7.fr (Fr.set _ _ _) (by simp;omega),(f6.tr f7 (by simp)).tr (Fr.set _ _ _) (by simp)⟩
   ·rw [sm,show (6:Int) - (((ss.map (·.asks.length)).sum + as.length:Nat):Int) = 6 - (((ss.map (·.asks.length)).sum:Nat):Int) - (as.length:Int) by omega]
   ·exact get_set g7
   ·rw [Qo,hnm,take_succ,hqx];rfl
   ·rcases QC.mp hh with hh | hh
    ·exact ha3 h hh
    ·rw [Qz.mp hh];show as.length<=3;omega
   ·rw [getElem?_append] at hi
    split at hi
    ·exact hao i h hi q' hq'
    ·have:i = k:=by
      have:=(Qx.mp hi).1
      rw [Qs] at this
      omega
     subst this
     rw [hsl,Nat.sub_self] at hi
     cases hi
     exact haq q' hq'
   ·rw [sm];omega
  have ap:∀ {as:List Ask} {M':Mem},M'[M5.length]? = some (.lst (ss.map hsT))->yW (.ref M5.length) [.tup [.str q.1,.tup (as.map yz)]] M' = .ok .non (M'.set M5.length (.lst ((ss ++ [(⟨q.1,as⟩:Hs)]).map hsT))):=fun {as M'} g=>by
   have:=yS (t:=hsT ⟨q.1,as⟩) g (by rw [Qf,sizeLine_eq];omega)
   rw [show ss.map hsT ++ [hsT ⟨q.1,as⟩] = (ss ++ [(⟨q.1,as⟩:Hs)]).map hsT from by simp] at this
   exact this
  have tl:∀ {as:List Ask} (M:Mem),qK (.lst (as.map yz)) M = .ok (.tup (as.map yz)) M:=fun _=>rfl
  simp_arith [hqk]
  unfold zhG
  refine Ok.seqX fun X hX=>?_
  simp_arith [and_self]
  rw [hX];clear hX;simp only [zh]
  by_cases hlast:k + 1 < hs.length
  ·have hlt:decide ((k:Int) + 1 < (hs.length:Int)) = true:=Qu (by omega)
   refine Ok.seqX fun X hX=>?_
   simp_arith [Qf,hlt]
   refine Ok.bind (yy p6 (by decide) (by decide)) ?_
   rintro t M7 ⟨z,rfl,z0,z1,p7,f7⟩
   obtain ⟨v,hv,v0,v3⟩:=zfx (xs:=[1,1,1,2,2,3,0,1]) 0 3 z0 z1 rfl
   simp only [QF,map_nil] at hv
   obtain ⟨c,hc,hc3,hc6⟩:∃ c:Nat,(if v < 6 - (((ss.map (·.asks.length)).sum:Nat):Int) then v else 6 - (((ss.map (·.asks.length)).sum:Nat):Int)) = (c:Int)/\c<=3/\c + (ss.map (·.asks.length)).sum<=6:=by
    split
    ·exact ⟨v.toNat,by omega,by omega,by omega⟩
    ·exact ⟨(6 - (((ss.map (·.asks.length)).sum:Nat):Int)).toNat,by omega,by omega,by omega⟩
   simp_arith [hv,znH,hc,zd9 (M:=M7) (j:=(c:Int)) (by omega),Int.toNat_natCast]
   have hdl:(hs.drop (k + 1)).length<=4:=by rw [length_drop];omega
   have hdn:hs.drop (k + 1) ≠ []:=fun z=>by
    have:=congrArg List.length z
    rw [length_drop] at this
    simp at this
    omega
   have ll:∀ M,zv (.lst (hs.map FT.T.str)) M = some (hs.map .str):=fun _=>rfl
   refine Ok.bind (Ok.comp (r:=FT.T.int) (fun i acc σ M'=>(∃ as:List Ask,acc = as.map yz/\as.length = i/\∀ q ∈ as,AO (hs.drop (k + 1)) pn q)/\(∃ o,σ = [o,some (.ref a),some (.lst (hs.map .str)),some (.int (k:Int)),some (.ref M2.length)])/\PO a M'/\Fr [a] M6 M') (rgI c) 0 [] ⟨⟨[],rfl,rfl,fun q h=>by cases h⟩,⟨_,rfl⟩,p7,f7⟩ (by rw [zbR];exact sz (by simp;omega)) ?_) ?_
   ·rintro j x σ M8 acc hj ⟨⟨as,rfl,hz,h1⟩,⟨o,rfl⟩,p8,f8⟩
    have gp8:M8[M2.length]? = some (.lst (us.map puT)):=f8.get gp6 (by simp;omega)
    simp_arith [ll,cu]
    refine Ok.bind (zqo p8 gp8 (by omega) hdl hdn (by omega)) ?_
    rintro t M9 ⟨q',rfl,aq,p9,f9⟩
    rw [hun] at aq
    try simp_arith [and_self]
    refine Ok.ret ⟨⟨as ++ [q'],by simp,by simp [hz],fun q hq=>?_⟩,⟨_,rfl⟩,p9,f8.trans f9⟩
    rcases QC.mp hq with hq | hq
    ·exact h1 q hq
    ·rw [Qz.mp hq];exact aq
   rintro ts M8 ⟨σ,⟨as,rfl,hz,h1⟩,_,p8,f8⟩
   rw [Nat.zero_add,zbR] at hz
   try simp_arith [and_self]
   rw [hX];clear hX;simp only [zh]
   have g8:M8[M5.length]? = some (.lst (ss.map hsT)):=f8.get g6 (by simp;omega)
   refine Ok.seqX fun X hX=>?_
   simp_arith [Qf]
   rw [hX];clear hX;simp only [zh]
   simp_arith [yE g8,tl,ap g8]
   exact Ok.ret (fin _ h1 (by omega) (by omega) p8 f8 g8)
  ·have hlt:decide ((k:Int) + 1 < (hs.length:Int)) = false:=Qv (by omega)
   refine Ok.seqX fun X hX=>?_
   simp_arith [Qf,hlt]
   rw [hX];clear hX;simp only [zh]
   refine Ok.seqX fun X hX=>?_
   simp_arith [and_self]
   rw [hX];clear hX;simp only [zh]
   have tl0:∀ (M:Mem),qK (.lst []) M = .ok (.tup []) M:=fun _=>rfl
   have ap0:=ap (as:=[]) g6
   rw [show ([]:List Ask).map yz = [] from rfl] at ap0
   simp_arith [yE g6,tl0,ap0]
   exact Ok.ret (fin (as:=[]) _ (fun q h=>by cases h) (by simp) (by simpa using h6) p6 (Fr.refl _ _) g6)
 rintro fl M6 ⟨σ,rfl,ss,o4,o7,o8,o9,rfl,g6,hnm,ha3,hao,h6,p6,f6⟩
 rw [List.length_zipIdx,take_length] at hnm
 rw [hX];clear hX;simp only [zh]
 have g26:M6[M2.length]? = some (.lst (us.map puT)):=f6.get ((Fr.app M5 [Cell.lst []]).get0 g5) (by simp;omega)
 simp_arith [zbL g6,zbL g26]
 have hsn:ss.length = hs.length:=by have:=congrArg List.length hnm;rwa [Qf] at this
 refine Ok.ret ⟨⟨ss,us⟩,rfl,⟨by rw [hnm];exact nmh,by show 1<=ss.length;omega,by show ss.length<=4;omega,by rw [hun];exact nmp,by show us.length<=2;omega,hpe,ha3,by rw [hnm,hun];exact hao,h6⟩,p6,?_⟩
 refine (((f1.trans f2).tr (Fr.app M2 [Cell.lst []]) (by simp)).tr f5 ?_).tr (((Fr.app M5 [Cell.lst []]).mono (S:=[a,M5.length])).trans f6) ?_
 all_goals simp
 all_goals omega
theorem adS {z:Str} (h:l.length + z.length<=10000) (M:Mem):yg (.str (S l)) (.str z) M = .ok (.str (S (l ++ z.cps.toList))) M:=by
 have hz:z.cps.toList.length = z.length:=by simp [Str.length]
 have:=ad (l:=l) (m:=z.cps.toList) (by omega) M
 rw [toL] at this
 exact this
noncomputable def FL (P:List (List (List Nat))):List Nat:=P.flatMap fun p=>59 :: 32 :: jn p
theorem zc0 (A B:List (List (List Nat))):FL (A ++ B) = FL A ++ FL B:=flatMap_append
theorem zd7 (p:List (List Nat)):FL [p] = 59 :: 32 :: jn p:=by simp [FL]
theorem zk1:∀ {P:List (List (List Nat))},P ≠ []->FL P = 59 :: 32 :: jn2 (P.map jn)
 | [],h=>absurd rfl h
 | [p],_=>zd7 p
 | p :: q :: r,_=>by
  rw [show p :: q :: r = [p] ++ (q :: r) from rfl,zc0,zd7,zk1 (P:=q :: r) (by simp)]
  rfl
theorem zoD {t:Int} (h0:0<=t) (h4:t<=4):atI [FT.T.str "ever",.str "1",.str "2",.str "3",.str "4"] t = some (.str (S (yR t))):=by
 have:t = 0\/t = 1\/t = 2\/t = 3\/t = 4:=by omega
 rcases this with rfl | rfl | rfl | rfl | rfl <;> rfl
theorem zbB (b:Bool) (M:Mem):zfD (.bl b) M = .ok (.int (if b then 1 else 0)) M:=rfl
theorem zmo {later pn:List Str} (ao:AO later pn q) {L:List Nat} (hl:L.length<=3000) (hw:(jn (qD q)).length<=100) (o0 o2 o3 o10 o11:Option FT.T) (M:Mem) :
  zaP [o0,some (.str (S L)),o2,o3,some (.str q.to),some (.int q.tries),some (opS q.purse),some (.str q.word),some (.bl q.hears),some (.bl q.sure),o10,o11] M =
   .ok (.nx [o0,some (.str (S (L ++ 59 :: 32 :: jn (qD q)))),o2,o3,some (.str q.to),some (.int q.tries),some (opS q.purse),some (.str q.word),some (.bl q.hears),some (.bl q.sure),o10,o11]) M:=by
 have t0:=ao.t0
 have t4:=ao.t4
 clear ao
 obtain ⟨to,tr,pu,wo,he,su⟩:=q
 dsimp only at t0 t4
 have hlen:to.length + (yR tr).length + (puW pu).length + wo.length<=100:=by
  have:(jn (qD ⟨to,tr,pu,wo,he,su⟩)).length = (zr ++ 32 :: (to.cps.toList ++ 32 :: (yR tr ++ 32 :: (puW pu ++ 32 :: (wo.cps.toList ++ 32 :: ((if he then zB else qW) ++ 32 :: (if su then zI else zO))))))).length:=rfl
  simp only [Ql,Qn] at this
  have e1:to.cps.toList.length = to.length:=by simp [Str.length]
  have e2:wo.cps.toList.length = wo.length:=by simp [Str.length]
  omega
 obtain ⟨L1,h1⟩:∃ L1,L1 = L ++ [59,32,97,115,107,32]:=⟨_,rfl⟩
 obtain ⟨L2,h2⟩:∃ L2,L2 = L1 ++ to.cps.toList:=⟨_,rfl⟩
 obtain ⟨L3,h3⟩:∃ L3,L3 = L2 ++ [32]:=⟨_,rfl⟩
 obtain ⟨L4,h4⟩:∃ L4,L4 = L3 ++ yR tr:=⟨_,rfl⟩
 obtain ⟨L5,h5⟩:∃ L5,L5 = L4 ++ [32]:=⟨_,rfl⟩
 obtain ⟨L6,h6⟩:∃ L6,L6 = L5 ++ puW pu:=⟨_,rfl⟩
 obtain ⟨L7,h7⟩:∃ L7,L7 = L6 ++ [32]:=⟨_,rfl⟩
 obtain ⟨L8,h8⟩:∃ L8,L8 = L7 ++ wo.cps.toList:=⟨_,rfl⟩
 obtain ⟨L9,h9⟩:∃ L9,L9 = L8 ++ 32 :: (if he then zB else qW):=⟨_,rfl⟩
 obtain ⟨L0,h0⟩:∃ L0,L0 = L9 ++ 32 :: (if su then zI else zO):=⟨_,rfl⟩
 have hE:L ++ 59 :: 32 :: jn (qD ⟨to,tr,pu,wo,he,su⟩) = L0:=by
  rw [h0,h9,h8,h7,h6,h5,h4,h3,h2,h1]
  simp [qD,jn,zr]
 rw [hE]
 have b1:=congrArg List.length h1
 have b2:=congrArg List.length h2
 have b3:=congrArg List.length h3
 have b4:=congrArg List.length h4
 have b5:=congrArg List.length h5
 have b6:=congrArg List.length h6
 have b7:=congrArg List.length h7
 have b8:=congrArg List.length h8
 have b9:=congrArg List.length h9
 have c5:(if he then zB else qW).length<=5:=by split <;> decide
 have c6:(if su then zI else zO).length<=5:=by split <;> decide
 have e1:to.cps.toList.length = to.length:=by simp [Str.length]
 have e2:wo.cps.toList.length = wo.length:=by simp [Str.length]
 simp only [Ql,Qn,length_nil] at b1 b2 b3 b4 b5 b6 b7 b8 b9
 have a1:yg (.str (S L)) (.str "; ask ") M = .ok (.str (S L1)) M:=by rw [h1];exact ad (m:=[59,32,97,115,107,32]) (by simp;omega) M
 have a2:yg (.str (S L1)) (.str to) M = .ok (.str (S L2)) M:=by rw [h2];exact adS (by omega) M
 have a3:yg (.str (S L2)) (.str " ") M = .ok (.str (S L3)) M:=by rw [h3];exact ad (m:=[32]) (by simp;omega) M
 have a4:yg (.str (S L3)) (.str (S (yR tr))) M = .ok (.str (S L4)) M:=by rw [h4];exact ad (by omega) M
 have a5:yg (.str (S L4)) (.str " ") M = .ok (.str (S L5)) M:=by rw [h5];exact ad (m:=[32]) (by simp;omega) M
 have a6:yg (.str (S L5)) (.str (S (puW pu))) M = .ok (.str (S L6)) M:=by rw [h6];exact ad (by omega) M
 have a7:yg (.str (S L6)) (.str " ") M = .ok (.str (S L7)) M:=by rw [h7];exact ad (m:=[32]) (by simp;omega) M
 have a8:yg (.str (S L7)) (.str wo) M = .ok (.str (S L8)) M:=by rw [h8];exact adS (by omega) M
 have a9:yg (.str (S L8)) (.str (S (32 :: (if he then zB else qW)))) M = .ok (.str (S L9)) M:=by rw [h9];exact ad (by simp only [Qn];omega) M
 have a0:yg (.str (S L9)) (.str (S (32 :: (if su then zI else zO)))) M = .ok (.str (S L0)) M:=by rw [h0];exact ad (by simp only [Qn];omega) M
 have a9f:he = false->yg (.str (S L8)) (.str " deaf") M = .ok (.str (S L9)) M:=fun h=>by rw [h] at a9;exact a9
 have a9t:he = true->yg (.str (S L8)) (.str " hears") M = .ok (.str (S L9)) M:=fun h=>by rw [h] at a9;exact a9
 have a0f:su = false->yg (.str (S L9)) (.str " lossy") M = .ok (.str (S L0)) M:=fun h=>by rw [h] at a0;exact a0
 have a0t:su = true->yg (.str (S L9)) (.str " sure") M = .ok (.str (S L0)) M:=fun h=>by rw [h] at a0;exact a0
 clear a9 a0
 have ta:=zoD t0 t4
 have n1:∀ M,zcq .non .non M = .ok (.bl false) M:=fun _=>rfl
 have n2:∀ (z:Str) M,zcq (.str z) .non M = .ok (.bl true) M:=fun _ _=>rfl
 have x0:∀ a b:FT.T,atI [a,b] 0 = some a:=fun _ _=>rfl
 have x1:∀ a b:FT.T,atI [a,b] 1 = some b:=fun _ _=>rfl
 generalize yR tr = TR at *
 clear h1 h2 h3 h4 h5 h6 h7 h8 h9 h0 hE hw hlen
 unfold zaP
 cases pu with
 | none=>
  rw [show FT.T.str (S (puW none)) = .str "-" from rfl] at a6
  cases he <;> cases su
  ·simp_arith [opS,Option.elim,ta,zbB,n1,x0,x1,a1,a2,a3,a4,a5,a6,a7,a8,a9f rfl,a0f rfl]
  ·simp_arith [opS,Option.elim,ta,zbB,n1,x0,x1,a1,a2,a3,a4,a5,a6,a7,a8,a9f rfl,a0t rfl]
  ·simp_arith [opS,Option.elim,ta,zbB,n1,x0,x1,a1,a2,a3,a4,a5,a6,a7,a8,a9t rfl,a0f rfl]
  ·simp_arith [opS,Option.elim,ta,zbB,n1,x0,x1,a1,a2,a3,a4,a5,a6,a7,a8,a9t rfl,a0t rfl]
 | some z=>
  rw [show FT.T.str (S (puW (some z))) = .str z by unfold puW;simp] at a6
  cases he <;> cases su
  ·simp_arith [opS,Option.elim,ta,zbB,n2,x0,x1,a1,a2,a3,a4,a5,a6,a7,a8,a9f rfl,a0f rfl]
  ·simp_arith [opS,Option.elim,ta,zbB,n2,x0,x1,a1,a2,a3,a4,a5,a6,a7,a8,a9f rfl,a0t rfl]
  ·simp_arith [opS,Option.elim,ta,zbB,n2,x0,x1,a1,a2,a3,a4,a5,a6,a7,a8,a9t rfl,a0f rfl]
  ·simp_arith [opS,Option.elim,ta,zbB,n2,x0,x1,a1,a2,a3,a4,a5,a6,a7,a8,a9t rfl,a0t rfl]
theorem zqj:∀ k:Nat,k < 10->atI (Str.ofString "0123456789").cps.toList (k:Int) = some (48 + k):=by decide +kernel
theorem zpM (h0:0<=d) (h:d < 10) (M:Mem):ixS (.str "0123456789") (.int d) M = .ok (.str (S [48 + d.toNat])) M:=by
 obtain ⟨n,rfl⟩:∃ n:Nat,d = n:=⟨d.toNat,by omega⟩
 unfold ixS
 simp only [zqj n (by omega)]
 exact Qw (sz (by decide))
theorem zks {len:Nat} (h:2<=len):Builtin.Str.strSliceIndices (some (2:Int)) none 1 len = (List.range (len - 2)).map (· + 2):=by
 have e:Builtin.Str.strSliceIndices (some (2:Int)) none 1 len = Builtin.Str.strSliceIndices (some ((2:Nat):Int)) (some (len:Int)) 1 len:=by
  unfold Builtin.Str.strSliceIndices
  simp
  rw [show max (0:Int) (min (if (len:Int) < 0 then (len:Int) + len else len) len) = len by split <;> omega]
 rw [e,StrLaws.strSliceIndices_plain h (Q3 _)]
 exact map_congr_left fun k _=>Nat.add_comm _ _
theorem zsc (h2:2<=l.length) (hl:l.length<=9000) (M:Mem):zbH (.str (S l)) (some (2:Int)) none M = .ok (.str (S (l.drop 2))) M:=by
 have e:Txt.slice (S l) (some (2:Int)) none = S (l.drop 2):=by
  unfold Txt.slice
  rw [qt,zks h2,Qf,length_range]
  split
  ·rename_i h
   have:l.length - 2 = l.length:=by simpa using h
   omega
  ·congr 1
   rw [List.filterMap_map,show ((fun x=>(S l).cps[x]?) ∘ fun x=>x + 2) = fun k=>(l.drop 2)[k]? from by funext k;simp [Nat.add_comm],zbM]
   rw [List.take_of_length_le (by rw [length_drop];omega)]
 unfold zbH
 dsimp only
 rw [Qw (sz (by rw [qt];omega)),e]
theorem zkf (gn:GN n) (M:Mem):zar [qG n] M = .ok (.str (S (TX n))) M:=by
 have key:Ok (zar [qG n] M) fun t M'=>t = .str (S (TX n))/\M' = M:=by
  refine qu rfl ?_
  unfold zdY
  rw [show startT 12 [qG n] = [some (.tup [.tup (n.hs.map hsT),.tup (n.ps.map puT)]),none,none,none,none,none,none,none,none,none,none,none] from rfl]
  have h4:=gn.h4
  have p2:=gn.p2
  obtain ⟨NT,hNT⟩:∃ NT:FT.T,NT = .tup [.tup (n.hs.map hsT),.tup (n.ps.map puT)]:=⟨_,rfl⟩
  refine Ok.seqR fun X hX=>?_
  simp_arith [and_self]
  rw [hX];clear hX;simp only [zh]
  refine Ok.seqR fun X hX=>?_
  simp_arith [and_self]
  rw [← hNT]
  refine Ok.bind (Ok.for (r:=hsT) (xs:=n.hs) (fun k σ M'=>∃ (o2 o3 o4 o5 o6 o7 o8 o9:Option FT.T) (L:List Nat),σ = [some NT,some (.str (S L)),o2,o3,o4,o5,o6,o7,o8,o9,none,none]/\L = FL ((n.hs.take k).flatMap hsW)/\L.length<=420 * k/\M' = M) ⟨none,none,none,none,none,none,none,none,[],rfl,rfl,by simp,rfl⟩ ?_) ?_
  ·rintro k x σ M2 hx ⟨o2,o3,o4,o5,o6,o7,o8,o9,L,rfl,hL,hl,rfl⟩
   have hm:=Q9 hx
   have hk:k < n.hs.length:=(Qx.mp hx).1
   have a3:=gn.a3 x hm
   have nl:x.name.length<=8:=gn.nl x.name (QE.mpr ⟨x,hm,rfl⟩)
   obtain ⟨L1,h1⟩:∃ L1,L1 = L ++ [59,32,104,111,117,115,101,32]:=⟨_,rfl⟩
   obtain ⟨L2,h2⟩:∃ L2,L2 = L1 ++ x.name.cps.toList:=⟨_,rfl⟩
   have b1:=congrArg List.length h1
   have b2:=congrArg List.length h2
   have e1:x.name.cps.toList.length = x.name.length:=by simp [Str.length]
   simp only [Ql,Qn,length_nil] at b1 b2
   have u1:yg (.str (S L)) (.str "; house ") M2 = .ok (.str (S L1)) M2:=by rw [h1];exact ad (m:=[59,32,104,111,117,115,101,32]) (by simp;omega) M2
   have u2:yg (.str (S L1)) (.str x.name) M2 = .ok (.str (S L2)) M2:=by rw [h2];exact adS (by omega) M2
   simp_arith [hsT]
   unfold zdy
   refine Ok.seqX fun X hX=>?_
   simp_arith [u1,u2]
   rw [hX];clear hX;simp only [zh]
   simp_arith [and_self]
   refine (Ok.for (r:=yz) (xs:=x.asks) (fun j σ M'=>∃ (o4 o5 o6 o7 o8 o9:Option FT.T) (L':List Nat),σ = [some NT,some (.str (S L')),some (.str x.name),some (.tup (x.asks.map yz)),o4,o5,o6,o7,o8,o9,none,none]/\L' = L2 ++ FL ((x.asks.take j).map qD)/\L'.length<=420 * k + 16 + 102 * j/\M' = M2) ⟨o4,o5,o6,o7,o8,o9,L2,rfl,by simp [FL],by omega,rfl⟩ ?_).mono ?_
   ·rintro j q σ M3 hq ⟨o4,o5,o6,o7,o8,o9,L',rfl,hL',hl',rfl⟩
    have hqm:=Q9 hq
    have hj:j < x.asks.length:=(Qx.mp hq).1
    obtain ⟨later,pn,ao,hw⟩:=gn.al hm hqm
    have st:=zmo ao (L:=L') (by omega) hw (some NT) (some (.str x.name)) (some (.tup (x.asks.map yz))) none none M3
    have bd:zah 6 (yo (qf 4) (yo (qf 5) (yo (qf 6) (yo (qf 7) (yo (qf 8) (yo (qf 9) zai)))))) (yz q) [some NT,some (.str (S L')),some (.str x.name),some (.tup (x.asks.map yz)),o4,o5,o6,o7,o8,o9,none,none] M3 = .ok [some NT,some (.str (S L')),some (.str x.name),some (.tup (x.asks.map yz)),some (.str q.to),some (.int q.tries),some (opS q.purse),some (.str q.word),some (.bl q.hears),some (.bl q.sure),none,none] M3:=by
     unfold yz
     simp_arith [and_self]
    rw [bd]
    show Ok (zaP _ M3) _
    rw [st]
    refine Ok.ret ⟨_,rfl,_,_,_,_,_,_,_,rfl,?_,?_,rfl⟩
    ·rw [hL',take_succ,hq,Qo,zc0,append_assoc]
     show _ = L2 ++ (FL _ ++ FL [qD q])
     rw [zd7]
    ·rw [Ql,Qn,Qn];omega
   ·rintro fl M3 ⟨σ,rfl,o4,o5,o6,o7,o8,o9,L',rfl,hL',hl',rfl⟩
    rw [take_length] at hL'
    refine ⟨_,rfl,_,_,_,_,_,_,_,_,L',rfl,?_,by omega,rfl⟩
    rw [hL',h2,h1,hL,take_succ,hx,flatMap_append,zc0]
    show _ = FL _ ++ FL ([x].flatMap hsW)
    rw [show [x].flatMap hsW = [[ze,x.name.cps.toList]] ++ x.asks.map qD by simp [hsW],zc0,zd7]
    simp [jn,ze]
  rintro fl M2 ⟨σ,rfl,o2,o3,o4,o5,o6,o7,o8,o9,L,rfl,hL,hl,rfl⟩
  rw [take_length] at hL
  rw [hX];clear hX;simp only [zh]
  refine Ok.seqR fun X hX=>?_
  rw [hNT]
  simp_arith [and_self]
  rw [← hNT]
  refine Ok.bind (Ok.for (r:=puT) (xs:=n.ps) (fun k σ M'=>∃ (o2 o10 o11:Option FT.T) (L':List Nat),σ = [some NT,some (.str (S L')),o2,o3,o4,o5,o6,o7,o8,o9,o10,o11]/\L' = L ++ FL ((n.ps.take k).map qZ)/\L'.length<=1680 + 102 * k/\M' = M2) ⟨o2,none,none,L,rfl,by simp [FL],by omega,rfl⟩ ?_) ?_
  ·rintro k p σ M3 hp ⟨o2,o10,o11,L',rfl,hL',hl',rfl⟩
   have hm:=Q9 hp
   have hk:k < n.ps.length:=(Qx.mp hp).1
   obtain ⟨pe1,pe2,pe3⟩:=gn.pe p hm
   have nl:p.name.length<=8:=gn.pl p.name (QE.mpr ⟨p,hm,rfl⟩)
   have el:p.earns.length<=8:=by rcases pe1 with z | z <;> (rw [z];decide)
   obtain ⟨L1,h1⟩:∃ L1,L1 = L' ++ [59,32,112,117,114,115,101,32]:=⟨_,rfl⟩
   obtain ⟨L2,h2⟩:∃ L2,L2 = L1 ++ p.name.cps.toList:=⟨_,rfl⟩
   obtain ⟨L3,h3⟩:∃ L3,L3 = L2 ++ [32]:=⟨_,rfl⟩
   obtain ⟨L4,h4⟩:∃ L4,L4 = L3 ++ p.earns.cps.toList:=⟨_,rfl⟩
   obtain ⟨L5,h5⟩:∃ L5,L5 = L4 ++ [32]:=⟨_,rfl⟩
   obtain ⟨L6,h6⟩:∃ L6,L6 = L5 ++ [48 + p.per.toNat]:=⟨_,rfl⟩
   have b1:=congrArg List.length h1
   have b2:=congrArg List.length h2
   have b3:=congrArg List.length h3
   have b4:=congrArg List.length h4
   have b5:=congrArg List.length h5
   have b6:=congrArg List.length h6
   have e1:p.name.cps.toList.length = p.name.length:=by simp [Str.length]
   have e2:p.earns.cps.toList.length = p.earns.length:=by simp [Str.length]
   simp only [Ql,Qn,length_nil] at b1 b2 b3 b4 b5 b6
   have u1:yg (.str (S L')) (.str "; purse ") M3 = .ok (.str (S L1)) M3:=by rw [h1];exact ad (m:=[59,32,112,117,114,115,101,32]) (by simp;omega) M3
   have u2:yg (.str (S L1)) (.str p.name) M3 = .ok (.str (S L2)) M3:=by rw [h2];exact adS (by omega) M3
   have u3:yg (.str (S L2)) (.str " ") M3 = .ok (.str (S L3)) M3:=by rw [h3];exact ad (m:=[32]) (by simp;omega) M3
   have u4:yg (.str (S L3)) (.str p.earns) M3 = .ok (.str (S L4)) M3:=by rw [h4];exact adS (by omega) M3
   have u5:yg (.str (S L4)) (.str " ") M3 = .ok (.str (S L5)) M3:=by rw [h5];exact ad (m:=[32]) (by simp;omega) M3
   have u6:yg (.str (S L5)) (.str (S [48 + p.per.toNat])) M3 = .ok (.str (S L6)) M3:=by rw [h6];exact ad (by simp;omega) M3
   have dg:=zpM (d:=p.per) (by omega) (by omega) M3
   simp_arith [puT]
   unfold zdx
   simp_arith [u1,u2,u3,u4,u5,dg,u6]
   refine Ok.ret ⟨_,rfl,_,_,_,L6,rfl,?_,by omega,rfl⟩
   rw [h6,h5,h4,h3,h2,h1,hL',take_succ,hp,Qo,zc0]
   show _ = L ++ (FL _ ++ FL [qZ p])
   rw [zd7]
   simp [qZ,jn,yp]
  rintro fl M3 ⟨σ,rfl,o2,o10,o11,L',rfl,hL',hl',rfl⟩
  rw [take_length] at hL'
  rw [hX];clear hX;simp only [zh]
  have hF:L' = 59 :: 32 :: TX n:=by
   rw [hL',hL,← zc0]
   exact zk1 (zam gn)
  have ct:=zsc (l:=L') (by rw [hF];simp) (by omega) M3
  rw [hF] at ct
  rw [hF]
  simp_arith [zeP,ct]
  exact Ok.ret ⟨rfl,rfl⟩
 obtain ⟨t,M',e,rfl,rfl⟩:=key
 exact e
theorem zhp {f:FT.T->FT.T->Option Bool}:∀ {xs:List FT.T},(∀ x ∈ xs,f x x = some true)->eqL f xs xs = some true
 | [],_=>rfl
 | x :: xs,h=>by
  unfold eqL
  rw [h x (.head _),zhp fun y hy=>h y (.tail _ hy)]
  rfl
theorem zbq {d:Nat} (h:∀ x ∈ xs,eqD M d x x = some true):eqD M (d + 1) (.tup xs) (.tup xs) = some true:=by
 rw [show eqD M (d + 1) (.tup xs) (.tup xs) = eqL (eqD M d) xs xs from by unfold eqD;rfl]
 exact zhp h
theorem zeh {d:Nat} {x:FT.T} (h:qM x = true) (he:eqS x x = true) (ht:∀ xs,x ≠ .tup xs):eqD M d x x = some true:=by
 cases x with
 | tup xs=>exact absurd rfl (ht xs)
 | _=>
  unfold eqD
  rw [Qw (by rw [h];rfl),he]
theorem zpw (n:Net) (M:Mem):neA (qG n) (qG n) M = .ok (.bl false) M:=by
 have st:∀ (d:Nat) (z:Str),eqD M d (.str z) (.str z) = some true:=fun d z=>zeh rfl (by show (z == z) = true;simp) (fun _ h=>by cases h)
 have it:∀ (d:Nat) (z:Int),eqD M d (.int z) (.int z) = some true:=fun d z=>zeh rfl (by show (z == z) = true;simp) (fun _ h=>by cases h)
 have bt:∀ (d:Nat) (z:Bool),eqD M d (.bl z) (.bl z) = some true:=fun d z=>zeh rfl (by show (z == z) = true;simp) (fun _ h=>by cases h)
 have nt:∀ (d:Nat),eqD M d .non .non = some true:=fun d=>zeh rfl rfl (fun _ h=>by cases h)
 have ot:∀ (d:Nat) (o:Option Str),eqD M d (opS o) (opS o) = some true:=fun d o=>by
  cases o with
  | none=>exact nt d
  | some z=>exact st d z
 have e:eqD M 20 (qG n) (qG n) = some true:=by
  refine zbq fun x hx=>?_
  simp only [QA,not_mem_nil,or_false] at hx
  rcases hx with rfl | rfl
  ·refine zbq fun x hx=>?_
   obtain ⟨h,_,rfl⟩:=QE.mp hx
   refine zbq fun x hx=>?_
   simp only [QA,not_mem_nil,or_false] at hx
   rcases hx with rfl | rfl
   ·exact st _ _
   ·refine zbq fun x hx=>?_
    obtain ⟨q,_,rfl⟩:=QE.mp hx
    refine zbq fun x hx=>?_
    simp only [QA,not_mem_nil,or_false] at hx
    rcases hx with rfl | rfl | rfl | rfl | rfl | rfl
    ·exact st _ _
    ·exact it _ _
    ·exact ot _ _
    ·exact st _ _
    ·exact bt _ _
    ·exact bt _ _
  ·refine zbq fun x hx=>?_
   obtain ⟨p,_,rfl⟩:=QE.mp hx
   refine zbq fun x hx=>?_
   simp only [QA,not_mem_nil,or_false] at hx
   rcases hx with rfl | rfl | rfl
   ·exact st _ _
   ·exact st _ _
   ·exact it _ _
 unfold neA
 rw [e]
 rfl
theorem zpu (n:Net):FT.T.lt 0 (qG n):=by
 refine .tup fun x hx=>?_
 simp only [QA,not_mem_nil,or_false] at hx
 rcases hx with rfl | rfl
 ·refine .tup fun x hx=>?_
  obtain ⟨h,_,rfl⟩:=QE.mp hx
  refine .tup fun x hx=>?_
  simp only [QA,not_mem_nil,or_false] at hx
  rcases hx with rfl | rfl
  ·exact .str _
  ·refine .tup fun x hx=>?_
   obtain ⟨q,_,rfl⟩:=QE.mp hx
   refine .tup fun x hx=>?_
   simp only [QA,not_mem_nil,or_false] at hx
   rcases hx with rfl | rfl | rfl | rfl | rfl | rfl
   ·exact .str _
   ·exact .int _
   ·cases q.purse with
    | none=>exact .non
    | some z=>exact .str z
   ·exact .str _
   ·exact .bl _
   ·exact .bl _
 ·refine .tup fun x hx=>?_
  obtain ⟨p,_,rfl⟩:=QE.mp hx
  refine .tup fun x hx=>?_
  simp only [QA,not_mem_nil,or_false] at hx
  rcases hx with rfl | rfl | rfl
  ·exact .str _
  ·exact .str _
  ·exact .int _
section
theorem zqE (gn:GN n) (M:Mem):zbN kN [.str (S (TX n))] M = .ok (qG n) M:=by
 obtain ⟨t,M',e,rfl,f⟩:=zm5 kN gn M
 unfold zbN zei
 rw [e]
 dsimp only
 rw [Qw]
 refine ⟨?_,zpu n⟩
 refine ext_getElem? fun i=>?_
 rw [getElem?_take]
 by_cases h:i < M.length
 ·rw [Qw h];exact f.2 i h (by simp)
 ·rw [Qy h,getElem?_eq_none (by omega)]
theorem turn {c:Int} (s0 o2 o3 o4 o5:Option FT.T) (M:Mem):Ok (zhH kN [s0,some (.int c),o2,o3,o4,o5] M) fun fl _=>∃ o1 o2 o3 o4 o5,fl = .nx [s0,o1,o2,o3,o4,o5]:=by
 obtain ⟨x,y,z,pl⟩:=znh c M
 have p0:PO M.length (M ++ [cel x y z]):=⟨x,y,z,qB⟩
 obtain ⟨_,M1,e1,n,rfl,gn,p1,f1⟩:=zpt p0
 have l1:=zkf gn M1
 obtain ⟨_,M2,e2,rfl,f2⟩:=zep gn M1
 have n1:neA (.str (S (TX n))) (.str (S (TX n))) M2 = .ok (.bl false) M2:=by rw [neS,Qu rfl];rfl
 have r1:=zqE (kN:=kN) gn M2
 have n2:=zpw n M2
 have p2:PO M.length M2:=p1.fr f2 (by simp)
 obtain ⟨_,M3,e3,d,rfl,d0,d1,p3,f3⟩:=yy (base:=6) p2 (by decide) (by decide)
 obtain ⟨od,hod,ho⟩:∃ od,atI [FT.T.non,.int 7,.bl true,.lst [.str (S (TX n))],qG n,.tup [.str (S (TX n))]] d = some od/\zmA od = true:=by
  obtain ⟨x,h1,h2⟩:=zfk (xs:=[FT.T.non,.int 7,.bl true,.lst [.str (S (TX n))],qG n,.tup [.str (S (TX n))]]) d0 (by simpa using d1)
  simp only [QA,not_mem_nil,or_false] at h2
  rcases h2 with rfl | rfl | rfl | rfl | rfl | rfl <;> exact ⟨_,h1,rfl⟩
 obtain ⟨_,M4,e4,l,rfl,hb,p4,f4⟩:=zmq gn p3
 obtain ⟨_,M5,e5,rfl,f5⟩:=ze1 (kN:=kN) (t:=.str (S l)) (M:=M4) (zlo hb)
 obtain ⟨_,M6,e6,rfl,f6⟩:=ze1 (kN:=kN) (t:=od) (M:=M5) (zln ho)
 generalize qG n = E at *
 generalize TX n = T at *
 unfold zhH
 simp_arith [pl,e1,l1,e2,n1,r1,n2,e3,hod,e4,e5,e6]
 exact Ok.ret ⟨_,_,_,_,_,rfl⟩
theorem law_true (kN:Addr) (ns:List Int) (hn:ns.length<=63):∃ M,zgm kN [.lst (ns.map .int)] [] = .ok (.bl true) M:=by
 have:Ok (zgm kN [.lst (ns.map .int)] []) fun t _=>t = .bl true:=by
  refine qu rfl ?_
  unfold zmH
  have a1:=zcZ (xs:=[.int 0]) (ys:=ns.map FT.T.int) (M:=[]) (sz (by simp;omega))
  rw [show ([FT.T.int 0] ++ ns.map .int) = (0 :: ns).map .int from rfl] at a1
  generalize hL:(0 :: ns) = L at a1
  refine Ok.seqR fun X hX=>?_
  simp_arith [a1]
  refine Ok.bind (Ok.for (r:=FT.T.int) (P:=fun _ σ M'=>∃ o1 o2 o3 o4 o5,σ = [some (.lst (ns.map .int)),o1,o2,o3,o4,o5]) (xs:=L) ⟨_,_,_,_,_,rfl⟩ ?_) ?_
  ·rintro k c σ M' hc ⟨o1,o2,o3,o4,o5,rfl⟩
   refine (turn (kN:=kN) (c:=c) (some (.lst (ns.map .int))) o2 o3 o4 o5 M').mono ?_
   rintro fl M2 ⟨o1,o2,o3,o4,o5,rfl⟩
   exact ⟨_,rfl,_,_,_,_,_,rfl⟩
  ·rintro fl M' ⟨σ,rfl,o1,o2,o3,o4,o5,rfl⟩
   rw [hX];clear hX;simp only [zh]
   simp_arith [and_self]
   exact Ok.ret rfl
 obtain ⟨_,M,e,rfl⟩:=this
 exact ⟨M,e⟩
end
end My
theorem My.e1 {α:Type} {P:List α->Prop} (h:∀ a,P [a]):∀ us:List α,us.length = 1->P us
 | [a],_=>h a
theorem My.e2 {α:Type} {P:List α->Prop} (h:∀ a b,P [a,b]):∀ us:List α,us.length = 2->P us
 | [a,b],_=>h a b
theorem My.e3 {α:Type} {P:List α->Prop} (h:∀ a b c,P [a,b,c]):∀ us:List α,us.length = 3->P us
 | [a,b,c],_=>h a b c
theorem My.e4 {α:Type} {P:List α->Prop} (h:∀ a b c d,P [a,b,c,d]):∀ us:List α,us.length = 4->P us
 | [a,b,c,d],_=>h a b c d
local macro_rules | `(tactic| rfl') => do
 let K:=Lean.mkIdent `KX
 let G:=Lean.mkIdent `G
 `(tactic| (dsimp only [L2.KOf];refine' L2.qE $K $G ?a ?l ?c ?k ?b;(case a=>k_is);(case l=>k_is);(case c=>k_is);(case k=>k_is)))
open PySem PySem.W PyProof.Rows
set_option maxRecDepth 100000 in
set_option maxHeartbeats 0 in
theorem PySem.Challenge.cw_tryweir_k70_whole_nets_written_and_read_holds : PySem.Challenge.rw_tryweir_k70_whole_nets_written_and_read.Holds := by
 refine My.hdD.2 ?_
 dsimp only [My.hdD]
 k_fill
 refine L2.zk5 (l:=PySem.Challenge.rw_tryweir_k70_whole_nets_written_and_read) (n:=63) (k:=8) (x:="script") (CX:=L2.CX0) (sp:=fun K=>FT.spT K (My.zgm (FT.zfK K "NoText"))) rfl (by decide) rfl ⟨rfl,by decide,by decide⟩ (fun w h Y=>PySem.W.kIn_of Y) ?F ?S ?C
 case F=>
  intro w mg fa h KX G hmg
  have uF:L2.Df (L2.KOf KX) mg "_law_pool" My.zeE ["cell"]:=by rfl';exact fun _ _ _ _ _ _=>My.e1 fun _=>rfl
  have uH:L2.Df (L2.KOf KX) mg "_law_next" My.zeF ["pool","base"]:=by rfl';exact fun _ _ _ _ _ _=>My.e2 fun _ _=>rfl
  have uz:L2.Df (L2.KOf KX) mg "_law_names" My.zdJ ["pool","many"]:=by rfl';exact fun _ _ _ _ _ _=>My.e2 fun _ _=>rfl
  have uu:L2.Df (L2.KOf KX) mg "_law_called" My.zc9 ["pool","many"]:=by rfl';exact fun _ _ _ _ _ _=>My.e2 fun _ _=>rfl
  have uL:L2.Df (L2.KOf KX) mg "_law_ask" My.zft ["pool","later","purses"]:=by rfl';exact fun _ _ _ _ _ _=>My.e3 fun _ _ _=>rfl
  have uJ:L2.Df (L2.KOf KX) mg "_law_net" My.zfs ["pool","most"]:=by rfl';exact fun _ _ _ _ _ _=>My.e2 fun _ _=>rfl
  have uf:L2.Df (L2.KOf KX) mg "_law_net_text" My.zb3 ["net"]:=by rfl';exact fun _ _ _ _ _ _=>My.e1 fun _=>rfl
  have ux:L2.Df (L2.KOf KX) mg "ask_text" My.zdb ["ask"]:=by rfl';exact fun _ _ _ _ _ _=>My.e1 fun _=>rfl
  have ut:L2.Df (L2.KOf KX) mg "net_text" My.zc8 ["net"]:=by rfl';exact fun _ _ _ _ _ _=>My.e1 fun _=>rfl
  have ug:L2.Df (L2.KOf KX) mg "check_text" My.zb4 ["thing"]:=by rfl';exact fun _ _ _ _ _ _=>My.e1 fun _=>rfl
  have uj:L2.Df (L2.KOf KX) mg "number_in" My.zcy ["word","most"]:=by rfl';exact fun _ _ _ _ _ _=>My.e2 fun _ _=>rfl
  have uE:L2.Df (L2.KOf KX) mg "ask_in" My.zeI ["words"]:=by rfl';exact fun _ _ _ _ _ _=>My.e1 fun _=>rfl
  have ul:L2.Df (L2.KOf KX) mg "read_part" My.zcx ["houses","purses","words"]:=by rfl';exact fun _ _ _ _ _ _=>My.e3 fun _ _ _=>rfl
  have ue:L2.Df (L2.KOf KX) mg "is_tuple_of" My.zbG ["thing","size"]:=by rfl';exact fun _ _ _ _ _ _=>My.e2 fun _ _=>rfl
  have uB:L2.Df (L2.KOf KX) mg "is_word" My.zdL ["thing"]:=by rfl';exact fun _ _ _ _ _ _=>My.e1 fun _=>rfl
  have uq:L2.Df (L2.KOf KX) mg "are_named" My.zcC ["thing","size","least","most"]:=by rfl';exact fun _ _ _ _ _ _=>My.e4 fun _ _ _ _=>rfl
  have uv:L2.Df (L2.KOf KX) mg "is_whole" My.zda ["thing"]:=by rfl';exact fun _ _ _ _ _ _=>My.e1 fun _=>rfl
  have un:L2.Df (L2.KOf KX) mg "is_within" My.zcB ["thing","low","high"]:=by rfl';exact fun _ _ _ _ _ _=>My.e3 fun _ _ _=>rfl
  have uG:L2.Df (L2.KOf KX) mg "is_ask" My.zeH ["thing","later","purses"]:=by rfl';exact fun _ _ _ _ _ _=>My.e3 fun _ _ _=>rfl
  have uw:L2.Df (L2.KOf KX) mg "are_asks" My.zdc ["thing","later","purses"]:=by rfl';exact fun _ _ _ _ _ _=>My.e3 fun _ _ _=>rfl
  have uC:L2.Df (L2.KOf KX) mg "is_net" My.zeG ["thing"]:=by rfl';exact fun _ _ _ _ _ _=>My.e1 fun _=>rfl
  have uy:L2.Df (L2.KOf KX) mg "read_net" My.zc7 ["text"]:=by rfl';exact fun _ _ _ _ _ _=>My.e1 fun _=>rfl
  have up:L2.Df (L2.KOf KX) mg "_law_refused" My.zcA ["thing"]:=by rfl';exact fun _ _ _ _ _ _=>My.e1 fun _=>rfl
  have uo:L2.Df (L2.KOf KX) mg "_law_swapped" My.zcz ["text","kind","at","word"]:=by rfl';exact fun _ _ _ _ _ _=>My.e4 fun _ _ _ _=>rfl
  have uA:L2.Df (L2.KOf KX) mg "_law_amiss" My.zdK ["text","net","pool"]:=by rfl';exact fun _ _ _ _ _ _=>My.e3 fun _ _ _=>rfl
  have uS:mg "max" = none:=by refine' QH KX G ?z26;k_is
  have uI:mg "range" = none:=by refine' QH KX G ?z27;k_is
  have uU:mg "len" = none:=by refine' QH KX G ?z28;k_is
  have uk:mg "enumerate" = none:=by refine' QH KX G ?z29;k_is
  have uQ:mg "min" = none:=by refine' QH KX G ?z30;k_is
  have uK:mg "tuple" = none:=by refine' QH KX G ?z31;k_is
  have uV:mg "int" = none:=by refine' QH KX G ?z32;k_is
  have uR:mg "str" = none:=by refine' QH KX G ?z33;k_is
  have ui:mg "isinstance" = none:=by refine' QH KX G ?z34;k_is
  have uP:mg "all" = none:=by refine' QH KX G ?z35;k_is
  have uT:mg "set" = none:=by refine' QH KX G ?z36;k_is
  have uN:mg "bool" = none:=by refine' QH KX G ?z37;k_is
  have uW:mg "sum" = none:=by refine' QH KX G ?z38;k_is
  have ub:∃ t,mg "MOST_LETTERS" = some (.int (8) t):=by
   have h:∃ v,mg "MOST_LETTERS" = some v/\∃ t,v = .int (8) t:=by
    refine' ⟨_,PySem.W.mg_of KX G ?z39,?y39⟩
    (case z39=>k_is)
    exact ⟨_,rfl⟩
   obtain ⟨v,h1,t,h2⟩:=h
   exact ⟨t,by rw [h1,h2]⟩
  have uh:∃ t,mg "MOST_TRIES" = some (.int (4) t):=by
   have h:∃ v,mg "MOST_TRIES" = some v/\∃ t,v = .int (4) t:=by
    refine' ⟨_,PySem.W.mg_of KX G ?z40,?y40⟩
    (case z40=>k_is)
    exact ⟨_,rfl⟩
   obtain ⟨v,h1,t,h2⟩:=h
   exact ⟨t,by rw [h1,h2]⟩
  have ua:∃ t,mg "MOST_ASKS_OF_ONE" = some (.int (3) t):=by
   have h:∃ v,mg "MOST_ASKS_OF_ONE" = some v/\∃ t,v = .int (3) t:=by
    refine' ⟨_,PySem.W.mg_of KX G ?z41,?y41⟩
    (case z41=>k_is)
    exact ⟨_,rfl⟩
   obtain ⟨v,h1,t,h2⟩:=h
   exact ⟨t,by rw [h1,h2]⟩
  have uc:∃ t,mg "MOST_HOUSES" = some (.int (4) t):=by
   have h:∃ v,mg "MOST_HOUSES" = some v/\∃ t,v = .int (4) t:=by
    refine' ⟨_,PySem.W.mg_of KX G ?z42,?y42⟩
    (case z42=>k_is)
    exact ⟨_,rfl⟩
   obtain ⟨v,h1,t,h2⟩:=h
   exact ⟨t,by rw [h1,h2]⟩
  have ud:∃ t,mg "MOST_PURSES" = some (.int (2) t):=by
   have h:∃ v,mg "MOST_PURSES" = some v/\∃ t,v = .int (2) t:=by
    refine' ⟨_,PySem.W.mg_of KX G ?z43,?y43⟩
    (case z43=>k_is)
    exact ⟨_,rfl⟩
   obtain ⟨v,h1,t,h2⟩:=h
   exact ⟨t,by rw [h1,h2]⟩
  have ur:∃ t,mg "MOST_PER" = some (.int (9) t):=by
   have h:∃ v,mg "MOST_PER" = some v/\∃ t,v = .int (9) t:=by
    refine' ⟨_,PySem.W.mg_of KX G ?z44,?y44⟩
    (case z44=>k_is)
    exact ⟨_,rfl⟩
   obtain ⟨v,h1,t,h2⟩:=h
   exact ⟨t,by rw [h1,h2]⟩
  have um:∃ t,mg "MOST_ASKS" = some (.int (6) t):=by
   have h:∃ v,mg "MOST_ASKS" = some v/\∃ t,v = .int (6) t:=by
    refine' ⟨_,PySem.W.mg_of KX G ?z45,?y45⟩
    (case z45=>k_is)
    exact ⟨_,rfl⟩
   obtain ⟨v,h1,t,h2⟩:=h
   exact ⟨t,by rw [h1,h2]⟩
  have uO:∃ a,mg "SURE" = some (.ref a)/\L2.KDi (L2.KOf KX) w a "sure" "lossy"/\(a == sysModules) = false:=by
   dsimp only [L2.KOf]
   refine' ⟨_,PySem.W.mg_of KX G ?z46,L2.zpI ?y46,?x46⟩
   (case z46=>k_is);(case y46=>k_is);(case x46=>exact rfl)
  have uM:∃ a,mg "HEARS" = some (.ref a)/\L2.KDi (L2.KOf KX) w a "hears" "deaf"/\(a == sysModules) = false:=by
   dsimp only [L2.KOf]
   refine' ⟨_,PySem.W.mg_of KX G ?z47,L2.zpI ?y47,?x47⟩
   (case z47=>k_is);(case y47=>k_is);(case x47=>exact rfl)
  have L:=by
   refine' L2.zpC (st:=My.ziZ) KX G ?la ?ll ?lc ?lk ?lb
   (case la=>k_is);(case ll=>k_is);(case lc=>k_is);(case lk=>k_is)
   exact fun _ _ _ _ _ _ s u=>.of_eq rfl
  obtain ⟨f,fd,F,g,hb⟩:=L
  have e:=hmg.symm.trans g
  cases e
  have T:My.Txt (L2.KOf KX) w mg:=⟨uS,uI,uU,uk,uQ,uK,uV,uR,ui,uP,uT,uN,uW,ub,uh,ua,uc,ud,ur,um,uO,uM⟩
  refine ⟨fd,hb,fun base _ _=>?_⟩
  have uD:L2.ExcAt (L2.KOf KX) mg "NoText" (FT.zfK (L2.KOf KX) "NoText"):=by
   dsimp only [L2.KOf]
   refine' FT.zou KX G ?a48 ?l48 ?ln48 ?sk48 ?q48 ?lw48 ?lwn48 ?sl48 ?ni48
   (case a48=>k_is);(case l48=>k_is);(case ln48=>k_is);(case sk48=>exact rfl);(case q48=>k_is);(case lw48=>k_is);(case lwn48=>k_is);(case sl48=>exact rfl);(case ni48=>k_is)
  have zce:=My.zce (P:=My.pg) (w:=w) (base:=base) uF T
  have ql:=My.ql (P:=My.pg) (w:=w) (base:=base) uH T
  have zbC:=My.zbC uz T ql
  have qV:=My.qV uu T ql zbC
  replace qV:=FT.CalT.refine qV (FT.zmd _) (FT.zme _)
  have zcV:=My.zcV uL T ql
  have zcU:=My.zcU uJ T qV ql zcV
  have zat:=My.zat (P:=My.pg) (w:=w) (base:=base) uf T
  have zbf:=My.zbf (P:=My.pg) (w:=w) (base:=base) ux T
  have yV:=My.yV ut T zbf
  have zau:=My.zau (P:=My.pg) (w:=w) (base:=base) ug T uD
  have zQ:=My.zQ (P:=My.pg) (w:=w) (base:=base) uj T
  have zch:=My.zch uE T zQ
  have zaO:=My.zaO ul T uD zch zQ
  have zy:=My.zy (P:=My.pg) (w:=w) (base:=base) ue T
  have zbE:=My.zbE (P:=My.pg) (w:=w) (base:=base) uB T
  have zae:=My.zae uq T zy zbE
  have zbe:=My.zbe (P:=My.pg) (w:=w) (base:=base) uv T
  have yQ:=My.yQ un T zbe
  have zcg:=My.zcg uG T zy yQ
  have zbg:=My.zbg uw T zcg
  have zcf:=My.zcf uC T zy zae zbg yQ
  have zV:=My.zV uy T uD zau zaO zcf yV
  have us:=FT.CalX.refine zV (FT.zmj _) (FT.zmk _)
  have zad:=My.zad up T uD zV
  have zac:=My.zac (P:=My.pg) (w:=w) (base:=base) uo T
  have zbD:=My.zbD uA T ql zac
  exact My.zpo F T zce zcU zat ql yV us zad zbD
 case S=>
  intro K H a ns hl _ hS
  obtain ⟨M,h⟩:=My.law_true (FT.zfK K "NoText") ns hl
  exact FT.znL hS h
 case C=>exact fun _ _ _ _ z=>z
import PyProof.Rows.All
import Wide.All
import OpenK.AllK
import Wide.FinOn
import Lean
import PyProof.EqAt
import PyProof.EqKinds
import PyProof.TupleCall
import PyProof.NeKinds
import PyProof.SumAny
import KE.KDictList
import KE.KDictOf
import PyProof.AttrMissHeap
import PyProof.Conv_int_bool
import PyProof.TupleOfStr
import PyProof.CollectIter
import PyProof.ListRange
import PyProof.DictWalks
import PyProof.ConsumeS
import PyProof.WalkInts
import PyProof.Draws
import PyProof.EnumFor
import PyProof.EnumStmt
import KE.KDictLaws
import KE.KRevIter
import KE.KDictSum
import PyProof.SeqRoads2
import PyProof.EqAt
import PyProof.EnumMake
import PyProof.ZipIter
import PyProof.InstStore
import PyProof.InstStoreFacts
import PyProof.ExcInit
import PyProof.ExcClass2
import PyProof.NsDelKeeps
import PyProof.ExcArgsOwn
import PyProof.Rows.SetFrom
import PyProof.SetRoads
import KE.KIsAll
import KE.IntTextText
import KE.KIntText
import PyProof.StrBlock2
import PyProof.FString5
import PyProof.CallStr
import PyProof.StrWalks
import PyProof.StrCalls
import PyProof.StrCalls2
import PyProof.SliceStr2
import PyProof.StrBlockI
import PyProof.Rows.StrJoin2
import PyProof.CallRoads3
import PyProof.TupleKey
import PyProof.Rows.Range3
import PyProof.AutoListH
import PyProof.Rows.SortShell
import PyProof.StrCalls6
import PyProof.SetRoads
import PyProof.Rows.SetFrom
import PyProof.WalkInts
import PyProof.EqAt
import PySem.Challenge.RW_tryweir_k45_places_of_nets
open PySem.W (Frag)
open List (mem_filter mem_range filterMap_cons mem_cons_self mem_cons_of_mem mem_cons mem_append mem_append_left mem_filterMap mem_append_right append_nil nodup_cons of_mem_zip length_take getElem?_append_right getElem?_append_left getElem?_map mem_of_getElem? length_append length_map size_toArray length_drop all_cons any_cons replicate_succ flatten_cons append_assoc foldl_cons length_singleton map_nil map_cons find?_cons length_cons length_nil lookup_cons mem_map_of_mem nil_append getElem?_set getElem?_take getElem?_drop drop_eq_getElem_cons drop_eq_nil_of_le getElem_of_mem getElem?_eq_getElem mem_map getElem?_range all_eq_true getElem_toArray getElem_mem mem_singleton pairwise_append take_append_drop mem_of_mem_take mem_of_mem_drop map_append map_take map_drop take_succ pairwise_map pairwise_iff_getElem mem_iff_getElem perm_append_comm extract_eq_take_drop take_of_length_le drop_drop take_take drop_take reverse_append reverse_reverse zipIdx_cons set_append_right ext_getElem? zip_cons_cons mem_iff_getElem? map_snd_zip take_length map_map length_zip not_mem_nil isEmpty_nil length_zipIdx mem_flatMap flatMap_append range_succ)
set_option Elab.async false
set_option linter.all false
set_option maxRecDepth 100000
local macro_rules | `(tactic| ac_rfl) => `(tactic| exact ⟨rfl, rfl, rfl, by decide +kernel, rfl, by decide +kernel, by decide +kernel⟩)
abbrev Q0:=@List.getElem?_eq_getElem
abbrev Q1:=@PySem.wpAny_bind
abbrev Q2:=@PySem.Heap.get?_push_of_some
abbrev Q3:=@Nat.le_refl
abbrev Q4:=@Bool.false_ne_true
abbrev Q5:=@Nat.lt_of_lt_of_le
abbrev Q6:=@List.getElem?_append_left
abbrev Q7:=@List.getElem?_append_right
abbrev Q8:=@List.mem_of_getElem?
abbrev Q9:=@List.getElem?_map
abbrev Qa:=@Option.some.inj
abbrev Qb:=@PySem.Heap.lt_size
abbrev Qc:=@PySem.wpAny_pure
abbrev Qd:=@PySem.wpAny_mono
abbrev Qe:=@List.length_map
abbrev Qf:=@List.size_toArray
abbrev Qg:=@Nat.le_trans
abbrev Qh:=@Nat.ne_of_lt
abbrev Qi:=@PySem.Heap.get?_push_size
abbrev Qj:=@List.mem_append_right
abbrev Qk:=@List.length_append
abbrev Ql:=@Nat.lt_irrefl
abbrev Qm:=@List.length_cons
abbrev Qn:=@List.length_take
abbrev Qo:=@Bool.and_eq_true
abbrev Qp:=@PySem.wpAny_newObj_type
abbrev Qq:=@decide_eq_true
abbrev Qr:=@decide_eq_false
abbrev Qs:=@beq_self_eq_true
namespace My
open PySem
noncomputable def znV:Stmt->Bool
 | .Assign [.Name x _] _ _=>!(x == "__name__")
 | _=>true
noncomputable abbrev pg:Program:=PySem.Challenge.rw_tryweir_k45_places_of_nets.prog
noncomputable def vw:Program:={ pg with main:={ pg.main with body:=pg.main.body.filter znV } }
end My
section
open PySem PySem.W PyProof.Rows in
local macro_rules | `(tactic| o_head $H) => `(tactic| refine holds_open (q := My.vw) (loose := []) (Xt := fun s => xlAt My.vw [] s && recOk (RowW.records (OpenRow.toRowW (OpenLaw.row PySem.Challenge.rw_tryweir_k45_places_of_nets))) s) (XP := XL My.vw []) (Yf := Hook.obs $H) (Ya := Hook.val $H) (YP := Hook.says $H) (N := 40000) (by intro w; kernel_rfl) (Hook.of $H) (Hook.keeps $H) (fun s e => xl_of s (Bool.and_eq_true_iff.mp e).1) XL.keeps (by rfl) (by rfl) (by rfl) (fun s e => recFacts_of (Bool.and_eq_true_iff.mp e).2) (by rfl) (by first | assumption | decide +kernel) (by decide +kernel) ⟨rfl, rfl, rfl, rfl, rfl, by decide +kernel⟩ ?hw ?hc)
open PySem PySem.W PyProof.Rows in
set_option maxHeartbeats 0 in
noncomputable def My.hdD:Σ' P:Prop,P->PySem.Challenge.rw_tryweir_k45_places_of_nets.Holds:=by
 refine ⟨?P,fun hc=>?_⟩
 rotate_left
 ·w_on;o_law;k_head;(case hw=>w_witness2)
  exact hc
end
namespace L2
open PySem PySem.Spec PyProof.Rows
noncomputable abbrev Key:=Sum Int Str
noncomputable def zbX:Key->Value->Bool
 | .inl k,v=>Value.isInt k v
 | .inr x,v=>Value.isStrOf x v
noncomputable def znS (w:World):Key->Int
 | .inl k=>hashInt k
 | .inr x=>hashStr w x
theorem yw:∀ {k:Key} {v:Value},zbX k v = true->(∃ i t,k = Sum.inl i/\v = Value.int i t)\/(∃ x t,k = Sum.inr x/\v = Value.str x t)
 | .inl i,v,h=>by
  obtain ⟨t,e⟩:=Value.isInt_shape (k:=i) (v:=v) h
  exact .inl ⟨i,t,rfl,e⟩
 | .inr x,v,h=>by
  obtain ⟨t,e⟩:=Value.isStrOf_shape (x:=x) (v:=v) h
  exact .inr ⟨x,t,rfl,e⟩
theorem zhZ (i:Int) (t:Tok):zbX (.inl i) (.int i t) = true:=by simp [zbX,Value.isInt]
theorem zhY (x:Str) (t:Tok):zbX (.inr x) (.str x t) = true:=by simp [zbX,Value.isStrOf]
theorem zma (a b:Int):decide ((Sum.inl a:Key) = Sum.inl b) = (a == b):=by
 by_cases e:a = b
 ·subst e;simp
 ·have h:¬ (Sum.inl a:Key) = Sum.inl b:=fun q=>e (Sum.inl.inj q)
  rw [Qr h]
  exact (beq_eq_false_iff_ne.mpr e).symm
theorem zl7 (a b:Str):decide ((Sum.inr a:Key) = Sum.inr b) = decide (a = b):=by
 by_cases e:a = b
 ·subst e;simp
 ·have h:¬ (Sum.inr a:Key) = Sum.inr b:=fun q=>e (Sum.inr.inj q)
  rw [Qr h,Qr e]
theorem zl9 (a:Int) (b:Str):decide ((Sum.inl a:Key) = Sum.inr b) = false:=Qr (fun q=>nomatch q)
theorem zl8 (a:Str) (b:Int):decide ((Sum.inr a:Key) = Sum.inl b) = false:=Qr (fun q=>nomatch q)
noncomputable def yv (prog:Program) (w:World):PySem.KeyKind prog w Key where
 is:=zbX
 hash:=znS w
 inj:=fun v a b ha hb=>by
  rcases yw ha with ⟨i,t,rfl,rfl⟩ | ⟨x,t,rfl,rfl⟩
  ·rcases yw hb with ⟨j,u,rfl,e⟩ | ⟨y,u,rfl,e⟩
   ·injection e with e1 _;rw [e1]
   ·exact nomatch e
  ·rcases yw hb with ⟨j,u,rfl,e⟩ | ⟨y,u,rfl,e⟩
   ·exact nomatch e
   ·injection e with e1 _;rw [e1]
 byValue:=fun k v h=>by
  rcases yw h with ⟨i,t,rfl,rfl⟩ | ⟨x,t,rfl,rfl⟩ <;> rfl
 pyHash:=fun hv h=>by
  rcases yw hv with ⟨i,t,rfl,rfl⟩ | ⟨x,t,rfl,rfl⟩
  ·exact wpAny_pyHash_int h
  ·exact wpAny_pyHash_str h
 eqBool:=fun hu hv h=>by
  rcases yw hu with ⟨i,t,rfl,rfl⟩ | ⟨x,t,rfl,rfl⟩
  ·rcases yw hv with ⟨j,u,rfl,rfl⟩ | ⟨y,u,rfl,rfl⟩
   ·rw [zma] at h;exact wpAny_eqBool_int h
   ·rw [zl9] at h;exact SeqAt.EqAt.int_str i t y u _ _ _ _ h
  ·rcases yw hv with ⟨j,u,rfl,rfl⟩ | ⟨y,u,rfl,rfl⟩
   ·rw [zl8] at h;exact SeqAt.EqAt.str_int x t j u _ _ _ _ h
   ·rw [zl7] at h;exact wpAny_eqBool_str h
 «strs»:=fun k x t v h=>by
  rcases yw h with ⟨i,u,rfl,e⟩ | ⟨y,u,rfl,e⟩
  ·exact nomatch e
  ·injection e with e1 _
   subst e1
   cases v <;> rfl
theorem zfZ (prog:Program) (w:World) (i:Int) (t:Tok):(yv prog w).is (.inl i) (.int i t) = true:=zhZ i t
theorem zfY (prog:Program) (w:World) (x:Str) (t:Tok):(yv prog w).is (.inr x) (.str x t) = true:=zhY x t
inductive V where
 | non | bl (b:Bool) | int (i:Int) | str (x:Str) | byt (b:Array UInt8) | flt (b:UInt64) | ref (a:Addr) | ty (n:String)
 deriving DecidableEq
noncomputable def RelV:V->Value->Prop
 | .non,u=>u = Value.none
 | .bl b,u=>u = Value.bool b
 | .int i,u=>∃ t,u = Value.int i t
 | .str x,u=>∃ t,u = Value.str x t
 | .byt b,u=>∃ t,u = Value.bytes b t
 | .flt b,u=>∃ t,u = Value.float b t
 | .ref a,u=>u = Value.ref a
 | .ty n,u=>u = Value.type n
noncomputable abbrev Vals:List V->List Value->Prop:=Paired RelV
variable {xs:List V} {us:List Value}
theorem Vals.length (r:Vals xs us):xs.length = us.length:=Paired.length r
theorem Vals.get:∀ {xs:List V} {us:List Value} {i:Nat} {x:V},Vals xs us->xs[i]? = some x->∃ u,us[i]? = some u/\RelV x u
 | _,_,_,_,.nil,e=>by simp at e
 | _,_,0,_,.cons r _,e=>by simp at e;subst e;exact ⟨_,rfl,r⟩
 | _,_,i + 1,x,.cons _ t,e=>by
  obtain ⟨u,h1,h2⟩:=Vals.get (i:=i) (x:=x) t (by simpa using e)
  exact ⟨u,by simpa using h1,h2⟩
theorem Vals.set {x:V} {u:Value} (r:RelV x u):∀ {xs:List V} {us:List Value} (i:Nat),Vals xs us->Vals (xs.set i x) (us.set i u)
 | _,_,_,.nil=>.nil
 | _,_,0,.cons _ t=>.cons r t
 | _,_,i + 1,.cons q t=>.cons q (Vals.set r i t)
theorem Vals.append:∀ {xs ys:List V} {us ws:List Value},Vals xs us->Vals ys ws->Vals (xs ++ ys) (us ++ ws)
 | _,_,_,_,.nil,s=>s
 | _,_,_,_,.cons r t,s=>.cons r (Vals.append t s)
theorem Vals.take:∀ {xs:List V} {us:List Value} (n:Nat),Vals xs us->Vals (xs.take n) (us.take n)
 | _,_,0,_=>.nil
 | _,_,_ + 1,.nil=>.nil
 | _,_,n + 1,.cons r t=>.cons r (Vals.take n t)
theorem Vals.drop:∀ {xs:List V} {us:List Value} (n:Nat),Vals xs us->Vals (xs.drop n) (us.drop n)
 | _,_,0,r=>r
 | _,_,_ + 1,.nil=>.nil
 | _,_,n + 1,.cons _ t=>Vals.drop n t
theorem Vals.none_of:∀ {xs:List V} {us:List Value} {i:Nat},Vals xs us->xs[i]? = none->us[i]? = none:=fun {xs us i} r e=>by
 have h1:=r.length
 have h2:xs.length<=i:=List.getElem?_eq_none_iff.mp e
 exact List.getElem?_eq_none_iff.mpr (by omega)
noncomputable def RelO:Option V->Option Value->Prop
 | some v,some u=>RelV v u
 | none,none=>True
 | _,_=>False
noncomputable def KV {κ:Type}:List (κ × V)->List (κ × Value)->Prop:=Paired fun (p:κ × V) (q:κ × Value)=>p.1 = q.1/\RelV p.2 q.2
noncomputable def kV:Key->V
 | .inl i=>.int i
 | .inr x=>.str x
inductive HO where
 | lst (xs:List V)
 | tup (xs:List V)
 | dK (kvs:List (Key × V)) | dT (kvs:List (List Key × V))
 | set (S:Int->Bool) (n:Nat)
 | ins (C dx:Addr) (fs:List (Str × V))
 | own (x:Addr)
 | xd (fs:List (Str × V))
 | met (f x:Addr)
 | rng (lo hi:Int)
 | frz (o:Obj) (u:HO)
 | tbl (ps:Array Value)
 | ext (φ:Heap->Prop)
noncomputable abbrev Hp:=Addr->Option HO
noncomputable def upd (H:Hp) (a:Addr) (o:HO):Hp:=fun b=>if b = a then some o else H b
variable {o:HO} {H:Hp}
theorem qo {a:Addr} :upd H a o a = some o:=by unfold upd;rw [if_pos rfl]
theorem yf {a b:Addr} (h:b ≠ a):upd H a o b = H b:=by unfold upd;rw [if_neg h]
theorem zga {a:Addr} {u:HO}:upd (upd H a o) a u = upd H a u:=by
 funext b;unfold upd;split <;> rfl
theorem zcE {a b:Addr} {u:HO} (h:H a = some o) (h':H b = some u) (d:o ≠ u):a ≠ b:=by
 intro e;subst e;rw [h] at h';exact d (Qa h')
theorem zl {a b:Addr} (h:H a = some o) (h':H b = none):a ≠ b:=by
 intro e;subst e;rw [h] at h';cases h'
def NoDict (h:Heap) (a:Addr):Prop:=∀ o,h.get? a = some o->o.dict = none
variable {h:Heap} {n:Nat}
theorem NoDict.new {its:Array Value} {n:Nat}:NoDict (h.push { cls:=.type "tuple",data:=.seq its n }) h.objs.size:=fun o e=>by
 rw [Qi _ rfl] at e;cases e;rfl
section
variable (P:Program) (w:World)
noncomputable def ObjOk (H:Hp) (h:Heap) (a:Addr):HO->Prop
 | .lst xs=>xs.length<=sizeLine/\∃ (its:List Value) (n:Nat),Vals xs its/\h.get? a = some { cls:=.type "list",data:=.seq its.toArray n }
 | .tup xs=>xs.length<=sizeLine/\∃ its:List Value,Vals xs its/\IsTup h a its.toArray/\NoDict h a
 | .dK kvs=>kvs.length<=sizeLine/\(a == sysModules) = false/\∃ vs,KV kvs vs/\h.DictOf (yv P w) a vs
 | .dT kvs=>kvs.length<=sizeLine/\(a == sysModules) = false/\∃ xs:List (List Key × Addr × Value),
   Paired (fun (p:List Key × V) (q:List Key × Addr × Value)=>p.1 = q.1/\H q.2.1 = some (.tup (p.1.map kV))/\RelV p.2 q.2.2) kvs xs /\
   ∃ o es ep,h.get? a = some o/\o.ExactDict/\o.data = .dict es ep/\es.toList = xs.map (entryOfKey (tupleKind (yv P w)))/\(xs.map (·.1)).Nodup
 | .set S n=>h.SetOf (intKind P w) a S n
 | .ins C dx fs=>H dx = some (.own a)/\fs.length<=1000/\dx ≠ a/\h.get? a = some (PySem.W.instObj C dx) /\
   ∃ mA,h.Ns1 dx mA/\(∀ f,RelO (fs.lookup f) (mA f))/\PySem.Within mA (fs.map (·.1))
 | .own _=>∃ o,h.get? a = some o
 | .xd fs=>∃ mA,h.Ns1 a mA/\∀ f,RelO (fs.lookup f) (mA f)
 | .rng lo hi=>∃ t u v,h.get? a = some { cls:=.type "range",data:=.fields #[.int lo t,.int hi u,.int 1 v] }
 | .frz o u=>h.get? a = some o/\ObjOk H h a u
 | .tbl ps=>h.get? a = some { cls:=.none,data:=.fields ps }
 | .met f x=>h.get? a = some (PySem.W.methodObj (.ref f) (.ref x))
 | .ext φ=>φ h/\(∃ o,h.get? a = some o)/\∀ h1 h2:Heap,φ h1->(∀ o,h1.get? a = some o->h2.get? a = some o)->φ h2
def HOk (H:Hp) (h:Heap):Prop:=∀ a o,H a = some o->ObjOk P w H h a o
end
variable {h':Heap} {H':Hp} {P:Program} {w:World}
section
variable {a:Addr}
theorem ObjOk.lt (x:ObjOk P w H h a o):a < h.objs.size:=by
 cases o with
 | lst xs=>obtain ⟨_,_,_,_,e⟩:=x;exact Qb e
 | tup xs=>obtain ⟨_,_,_,p,_⟩:=x;exact p.lt
 | dK kvs=>obtain ⟨_,_,_,_,o,_,_,e,_⟩:=x;exact Qb e
 | dT kvs=>obtain ⟨_,_,_,_,o,_,_,e,_⟩:=x;exact Qb e
 | set S n=>obtain ⟨o,_,_,_,e,_⟩:=x;exact Qb e
 | ins C dx fs=>obtain ⟨_,_,_,e,_⟩:=x;exact Qb e
 | own y=>obtain ⟨_,e⟩:=x;exact Qb e
 | xd fs=>obtain ⟨_,⟨_,_,_,e,_⟩,_⟩:=x;exact Qb e
 | rng lo hi=>obtain ⟨_,_,_,e⟩:=x;exact Qb e
 | frz ob u=>obtain ⟨e,_⟩:=x;exact Qb e
 | tbl ps=>exact Qb (show h.get? a = some _ from x)
 | met f y=>exact Qb (show h.get? a = some _ from x)
 | ext φ=>obtain ⟨_,⟨_,e⟩,_⟩:=x;exact Qb e
theorem Paired.mapP {α β:Type} {F G:α->β->Prop}:∀ {l₁:List α} {l₂:List β},Paired F l₁ l₂->(∀ a b,F a b->G a b)->Paired G l₁ l₂
 | _,_,.nil,_=>.nil
 | _,_,.cons r t,f=>.cons (f _ _ r) (Paired.mapP t f)
theorem ObjOk.stay (x:ObjOk P w H h a o) (k:∀ b u,(b = a\/H b = some (.own a))->h.get? b = some u->h'.get? b = some u)
  (ho:∀ b,H b = some (.own a)->H' b = some (.own a)) (ht:∀ b xs,H b = some (.tup xs)->H' b = some (.tup xs)):ObjOk P w H' h' a o:=by
 induction o with
 | lst xs=>obtain ⟨z,its,n,r,e⟩:=x;exact ⟨z,its,n,r,k _ _ (.inl rfl) e⟩
 | tup xs=>obtain ⟨z,its,r,⟨ob,e,c⟩,nd⟩:=x;exact ⟨z,its,r,⟨ob,k _ _ (.inl rfl) e,c⟩,fun o q=>nd o (by rw [k _ _ (.inl rfl) e] at q;rw [e];exact q)⟩
 | dK kvs=>obtain ⟨z,y,vs,r,ob,es,ep,e,c⟩:=x;exact ⟨z,y,vs,r,ob,es,ep,k _ _ (.inl rfl) e,c⟩
 | dT kvs=>
  obtain ⟨z,y,xs,r,ob,es,ep,e,c⟩:=x
  exact ⟨z,y,xs,Paired.mapP r fun p q z=>⟨z.1,ht _ _ z.2.1,z.2.2⟩,ob,es,ep,k _ _ (.inl rfl) e,c⟩
 | set S n=>obtain ⟨ob,es,ep,t,e,c⟩:=x;exact ⟨ob,es,ep,t,k _ _ (.inl rfl) e,c⟩
 | ins C dx fs=>
  obtain ⟨d,z,ne,e,mA,⟨od,es,ep,e2,c⟩,r⟩:=x
  exact ⟨ho _ d,z,ne,k _ _ (.inl rfl) e,mA,⟨od,es,ep,k _ _ (.inr d) e2,c⟩,r⟩
 | own y=>obtain ⟨ob,e⟩:=x;exact ⟨ob,k _ _ (.inl rfl) e⟩
 | xd fs=>obtain ⟨mA,⟨od,es,ep,e,c⟩,r⟩:=x;exact ⟨mA,⟨od,es,ep,k _ _ (.inl rfl) e,c⟩,r⟩
 | rng lo hi=>obtain ⟨t,u,v,e⟩:=x;exact ⟨t,u,v,k _ _ (.inl rfl) e⟩
 | frz ob u ih=>obtain ⟨e,q⟩:=x;exact ⟨k _ _ (.inl rfl) e,ih q⟩
 | tbl ps=>
  have e:h.get? a = some { cls:=.none,data:=.fields ps }:=x
  show h'.get? a = some { cls:=.none,data:=.fields ps }
  exact k a _ (.inl rfl) e
 | met f y=>
  have e:h.get? a = some (PySem.W.methodObj (.ref f) (.ref y)):=x
  show h'.get? a = some (PySem.W.methodObj (.ref f) (.ref y))
  exact k a _ (.inl rfl) e
 | ext φ=>obtain ⟨p,⟨o,e⟩,st⟩:=x;exact ⟨st _ _ p fun o q=>k _ _ (.inl rfl) q,⟨o,k _ _ (.inl rfl) e⟩,st⟩
theorem HOk.lt (x:HOk P w H h) (e:H a = some o):a < h.objs.size:=(x a o e).lt
theorem HOk.fresh (x:HOk P w H h) (e:h.objs.size<=a):H a = none:=by
 cases q:H a with
 | none=>rfl
 | some u=>exact absurd (Q5 (x.lt q) e) (Ql _)
theorem HOk.kept (x:HOk P w H h) (k:∀ b u,h.get? b = some u->h'.get? b = some u):HOk P w H h':=fun a o e=>
 (x a o e).stay (fun b u _ q=>k b u q) (fun _ q=>q) fun _ _ q=>q
theorem HOk.laid (x:HOk P w H h) (k:∀ b u,h.get? b = some u->h'.get? b = some u) (hp:h.objs.size<=a) (new:ObjOk P w (upd H a o) h' a o):HOk P w (upd H a o) h':=fun b u e=>by
 have hn:=x.fresh hp
 by_cases hb:b = a
 ·subst hb;rw [qo] at e;cases e;exact new
 ·rw [yf hb] at e
  exact (x b u e).stay (fun c v _ q=>k c v q) (fun c q=>by rw [yf (zl q hn)];exact q) fun c xs q=>by rw [yf (zl q hn)];exact q
end
def Rd (H:Hp) (a:Addr) (u:HO):Prop:=H a = some u\/∃ o,H a = some (.frz o u)
theorem Rd.ok {a:Addr} {u:HO} (r:Rd H a u) (x:HOk P w H h):ObjOk P w H h a u:=by
 rcases r with r | ⟨o,r⟩
 ·exact x a u r
 ·obtain ⟨_,q⟩:=x a _ r
  exact q
noncomputable def Mut:Option HO->Prop
 | some (.lst _)=>True
 | some (.dK _)=>True
 | some (.dT _)=>True
 | some (.set _ _)=>True
 | some (.ins _ _ _)=>True
 | some (.ext _)=>True
 | _=>False
section
variable {x e:Addr} {o':HO}
theorem HOk.write (ok:HOk P w H h) (mu:Mut (H x)) (he:e = x\/H e = some (.own x)) (k:∀ b u,b ≠ e->h.get? b = some u->h'.get? b = some u) (heo:∃ u,h'.get? e = some u)
  (new:ObjOk P w (upd H x o') h' x o'):HOk P w (upd H x o') h':=fun b u q=>by
 have nown:∀ c y,H c = some (.own y)->c ≠ x:=fun c y r z=>by subst z;rw [r] at mu;exact mu
 have ntup:∀ c xs,H c = some (.tup xs)->c ≠ x:=fun c xs r z=>by subst z;rw [r] at mu;exact mu
 by_cases hb:b = x
 ·subst hb;rw [qo] at q;cases q;exact new
 ·rw [yf hb] at q
  by_cases hbe:b = e
  ·have q':H b = some (.own x):=by
    rcases he with z | z
    ·exact absurd (hbe.trans z) hb
    ·rw [hbe];exact z
   rw [q] at q';cases q'
   obtain ⟨v,hv⟩:=heo
   exact ⟨v,by rw [hbe];exact hv⟩
  ·refine (ok b u q).stay (fun c v hc r=>k c v ?_ r) (fun c r=>by rw [yf (nown c b r)];exact r) fun c xs r=>by rw [yf (ntup c xs r)];exact r
   rcases hc with rfl | hc
   ·exact hbe
   ·rintro rfl
    rcases he with z | z
    ·exact nown c b hc z
    ·rw [hc] at z;cases z;exact hb rfl
end
structure Un (fs ex:List Addr) (H H':Hp) (h h':Heap):Prop where
 keep:∀ b o,h.get? b = some o->H b = none->b ∉ fs->b ∉ ex->h'.get? b = some o
 slot:∀ b o,h.get? b = some o->H b = none->b ∈ fs->b ∉ ex->∃ sl,h'.get? b = some { o with slots:=sl }
 free:∀ b o,h.get? b = some o->H b = none->b ∉ ex->H' b = none
 there:∀ b o,h.get? b = some o->b ∉ ex->∃ o',h'.get? b = some o'
 tups:∀ b xs,H b = some (.tup xs)->H' b = some (.tup xs)
 frzs:∀ b o u,H b = some (.frz o u)->H' b = some (.frz o u)
 tbls:∀ b ps,H b = some (.tbl ps)->∃ more,H' b = some (.tbl (ps ++ more))
section
variable {fs fs' ex ex':List Addr} {H1 H2:Hp} {h1 h2:Heap} {a x e:Addr}
theorem Un.any (u:Un fs ex H H1 h h1) {b:Addr} {ob:Obj} (q:h.get? b = some ob) (n:H b = none) (hx:b ∉ ex):∃ sl,h1.get? b = some { ob with slots:=sl }:=by
 by_cases hb:b ∈ fs
 ·exact u.slot b ob q n hb hx
 ·exact ⟨ob.slots,u.keep b ob q n hb hx⟩
theorem Un.kept (k:∀ b u,h.get? b = some u->h'.get? b = some u):Un fs ex H H h h':=
 ⟨fun b ob q _ _ _=>k b ob q,fun b ob q _ _ _=>⟨ob.slots,k b ob q⟩,fun _ _ _ n _=>n,fun b ob q _=>⟨ob,k b ob q⟩,fun _ _ q=>q,fun _ _ _ q=>q,fun _ ps q=>⟨#[],by rw [q];simp⟩⟩
theorem Un.refl:Un fs ex H H h h:=Un.kept fun _ _ q=>q
theorem Un.laid (k:∀ b u,h.get? b = some u->h'.get? b = some u) (hp:h.objs.size<=a) (hn:H a = none):Un fs ex H (upd H a o) h h' where
 keep:=fun b u q _ _ _=>k b u q
 slot:=fun b u q _ _ _=>⟨u.slots,k b u q⟩
 free:=fun b u q n _=>by rw [yf (Qh (Q5 (Qb q) hp))];exact n
 there:=fun b u q _=>⟨u,k b u q⟩
 tups:=fun b xs q=>by rw [yf (zl q hn)];exact q
 frzs:=fun b u xs q=>by rw [yf (zl q hn)];exact q
 tbls:=fun b ps q=>⟨#[],by rw [yf (zl q hn),q];simp⟩
theorem Un.write (mu:Mut (H x)) (he:e = x\/H e = some (.own x)) (k:∀ b u,b ≠ e->h.get? b = some u->h'.get? b = some u) (heo:∃ u,h'.get? e = some u):Un fs ex H (upd H x o) h h':=by
 have hx:∀ b,H b = none->b ≠ x:=fun b n z=>by subst z;rw [n] at mu;exact mu
 have hb:∀ b,H b = none->b ≠ e:=fun b n z=>by
  subst z
  rcases he with r | r
  ·exact hx b n r
  ·rw [n] at r;cases r
 have hm:∀ b u,H b = some u->¬ Mut (some u)->b ≠ x:=fun b u q nm z=>by subst z;rw [q] at mu;exact nm mu
 refine ⟨fun b u q n _ _=>k b u (hb b n) q,fun b u q n _ _=>⟨u.slots,k b u (hb b n) q⟩,fun b u q n _=>by rw [yf (hx b n)];exact n,fun b u q _=>?_,
  fun b xs q=>by rw [yf (hm b _ q fun z=>z)];exact q,fun b u xs q=>by rw [yf (hm b _ q fun z=>z)];exact q,fun b ps q=>⟨#[],by rw [yf (hm b _ q fun z=>z),q];simp⟩⟩
 by_cases hbe:b = e
 ·subst hbe;exact heo
 ·exact ⟨u,k b u hbe q⟩
end
noncomputable def trk (h:Heap) (H:Hp):List Addr:=(List.range h.objs.size).filter fun a=>(H a).isSome
noncomputable def zbZ (h:Heap) (H:Hp):Heap:=PySem.W.hideAll h (trk h H)
theorem zh5 (h:Heap) (H:Hp):(zbZ h H).objs.size = h.objs.size:=PySem.W.hideAll_size _ _
theorem zje {b:Addr} {o:Obj} (e:h.get? b = some o) (n:H b = none):(zbZ h H).get? b = some o:=
 PySem.W.hideAll_get _ e fun hm=>by
  have q:(H b).isSome = true:=(mem_filter.mp hm).2
  rw [n] at q;simp at q
theorem zkz {b:Addr} {o:Obj} (e:(zbZ h H).get? b = some o):h.get? b = some o/\H b = none:=by
 have e':h.get? b = some o:=PySem.W.of_hideAll (trk h H) e
 refine ⟨e',?_⟩
 cases q:H b with
 | none=>rfl
 | some x=>
  have hm:b ∈ trk h H:=mem_filter.mpr ⟨mem_range.mpr (Qb e'),by simp [q]⟩
  have z:(zbZ h H).get? b = none:=PySem.W.hideAll_none (trk h H) hm
  rw [z] at e;cases e
noncomputable def zlf (g h:Heap) (L:Addr):List (Addr × Obj):=(List.range h.objs.size).filterMap fun a=>if a = L\/(g.get? a).isSome = true then none else (h.get? a).map fun o=>(a,o)
noncomputable def rest (g h:Heap) (L d:Addr):List (Addr × Obj):=(zlf g h L).filter fun p=>decide (p.1 ≠ d)
structure Mod (K:Frag) (mg:Str->Option Value) (base:Heap):Prop where
 kin:K.In base
 glob:base.Ns mainGlobals mg
 blt:∃ mb,base.Ns builtinsNs mb/\∀ x:Str,x ≠ "__name__"->mb x = bootBuiltins x
 nolimit:base.NoLimit
structure Cx where
 prog:Program
 w:World
 K:Frag
 mg:Str->Option Value
 base:Heap
 A:Around
 N:List Str
 s₀:Shared
 H₀:Hp
 env:Env
 outer:List Env
 stack:List Env
 ex:List Addr
 fn:Str->Bool
 calm:Bool
 pn:List (Addr × Obj)
 xe:Value->Shared->Prop
noncomputable def frs (l:List Env):List Addr:=l.filterMap (·.frame)
noncomputable abbrev Cx.fs (X:Cx):List Addr:=frs X.outer
def Vis (sc:Scope) (x:Str):Prop:=sc.names.lookup x = some .local\/sc.names.lookup x = some .cell\/sc.names.lookup x = some .free
def Loc (sc:Scope) (x:Str):Prop:=sc.names.lookup x = some .local\/sc.names.lookup x = some .cell
def Look (env:Env) (h:Heap) (m:Str->Option Value) (x:Str) (u:Value):Prop:=
 (env.kindOf x = some .local/\m x = some u)\/((env.kindOf x = some .cell\/env.kindOf x = some .free)/\∃ c,env.cells.lookup x = some c/\h.IsCell c (some u))
structure Cx.Ok (X:Cx):Prop where
 mod:Mod X.K X.mg X.base
 kind:X.env.scope.kind = .function
 glob:X.env.globals = mainGlobals
 blt:X.env.builtins = builtinsNs
 above:X.s₀.heap.objs.size<=X.env.locals
 inj:∀ x y c,X.env.cells.lookup x = some c->X.env.cells.lookup y = some c->x = y
 has:∀ x,(X.env.kindOf x = some .cell\/X.env.kindOf x = some .free)->∃ c,X.env.cells.lookup x = some c
 cab:∀ x c,X.fn x = true->X.env.cells.lookup x = some c->X.s₀.heap.objs.size<=c
 hd:X.calm = true->X.A.handled = none
 frames:X.A.frames = some X.stack
 stk:X.stack = X.outer\/(X.stack = X.env :: X.outer/\X.env.frame = some X.env.locals)
 exf:∀ b ∈ X.ex,b ≠ X.env.locals/\∀ x c,X.env.cells.lookup x = some c->c ≠ b
 bs:∀ b o,X.base.get? b = some o->X.s₀.heap.get? b = some o/\X.H₀ b = none
 bsz:X.base.objs.size<=X.s₀.heap.objs.size
 noex:∀ b o,X.base.get? b = some o->b ∉ X.ex
 exfs:∀ b ∈ X.ex,b ∉ X.fs
 funs:X.s₀.heap.FunFrames X.base X.outer
 frf:∀ b ∈ X.fs,X.H₀ b = none
structure Inv (X:Cx) (pins:List (Addr × Obj)) (σ:List (Option V)) (H:Hp) (s:Shared):Prop where
 ok:X.Ok
 os:s.os = X.s₀.os
 bare:AllBare s.gens
 base:Un X.fs X.ex X.H₀ H X.s₀.heap s.heap
 loc:∃ m,s.heap.Ns X.env.locals m/\∀ (i:Nat) (x:Str) (v:V),X.N[i]? = some x->σ[i]? = some (some v)->Vis X.env.scope x->∃ u,RelV v u/\Look X.env s.heap m x u
 cell:∀ x c,X.env.cells.lookup x = some c->∃ v,s.heap.IsCell c v
 free:H X.env.locals = none
 freeC:∀ x c,X.env.cells.lookup x = some c->H c = none
 pin:∀ p ∈ X.pn ++ pins,s.heap.get? p.1 = some p.2/\H p.1 = none/\p.1 ≠ X.env.locals/\p.1 ∉ X.fs/\∀ v,p.2.data ≠ .cell v
 hok:HOk X.prog X.w H s.heap
 len:σ.length = X.N.length
variable {it:Addr} {A:Around} {g':Array GenState} {X:Cx} {d':Drawn} {pins:List (Addr × Obj)} {ch:List Addr} {N:List Str} {M:Model} {i j t':Nat} {s s':Shared} {x:Str} {v:V} {u:Value} {E:Value->Shared->Prop}
section
variable {σ:List (Option V)}
theorem Cx.Ok.nofr (ok:X.Ok) {b:Addr} {o:Obj} (e:X.base.get? b = some o):b ∉ X.fs:=fun hb=>by
 have:=(ok.funs.mem hb).1
 rw [e] at this;cases this
theorem Inv.bs (I:Inv X pins σ H s):∀ b o,X.base.get? b = some o->s.heap.get? b = some o/\H b = none:=fun b o e=>
 ⟨I.base.keep b o (I.ok.bs b o e).1 (I.ok.bs b o e).2 (I.ok.nofr e) (I.ok.noex b o e),I.base.free b o (I.ok.bs b o e).1 (I.ok.bs b o e).2 (I.ok.noex b o e)⟩
theorem Inv.bk (I:Inv X pins σ H s):∀ b o,X.base.get? b = some o->s.heap.get? b = some o:=fun b o e=>(I.bs b o e).1
theorem Inv.mod (I:Inv X pins σ H s):Mod X.K X.mg X.base:=I.ok.mod
theorem Inv.kIn (I:Inv X pins σ H s):X.K.In s.heap:=I.ok.mod.kin.keeps I.bk
theorem Inv.fr (I:Inv X pins σ H s):∃ m,Fr X.base X.env.locals s.heap m:=
 let ⟨m,hn,_⟩:=I.loc
 ⟨m,hn,I.bk,Qg I.ok.bsz I.ok.above⟩
theorem Inv.lt (I:Inv X pins σ H s):X.env.locals < s.heap.objs.size:=let ⟨_,hn,_⟩:=I.loc;hn.lt
theorem Inv.sz (I:Inv X pins σ H s):X.s₀.heap.objs.size<=s.heap.objs.size:=Qg I.ok.above (Nat.le_of_lt I.lt)
theorem Inv.nofs (I:Inv X pins σ H s) {a:Addr} (h:s.heap.objs.size<=a):a ∉ X.fs:=fun hb=>by
 obtain ⟨_,o,ho,_⟩:=I.ok.funs.mem hb
 exact absurd (Q5 (Qb ho) (Qg I.sz h)) (Ql _)
theorem Inv.cne (I:Inv X pins σ H s):∀ x c,X.env.cells.lookup x = some c->c ≠ X.env.locals:=fun x c e z=>by
 obtain ⟨v,o,ho,hd⟩:=I.cell x c e
 obtain ⟨m,⟨o',es,ep,ho',hd',_⟩,_⟩:=I.loc
 rw [z,ho'] at ho;cases ho;rw [hd'] at hd;cases hd
theorem Inv.funs (I:Inv X pins σ H s):s.heap.FunFrames X.base X.outer:=by
 have all:∀ (l:List Env),(∀ b ∈ frs l,b ∈ X.fs)->X.s₀.heap.FunFrames X.base l->s.heap.FunFrames X.base l:=by
  intro l
  induction l with
  | nil=>intro _ _;trivial
  | cons env r ih=>
   intro hs hl
   obtain ⟨hk,⟨L,o,hf,hn,ho,hd⟩,hr⟩:=hl
   have hL:L ∈ X.fs:=hs L (by unfold frs;rw [filterMap_cons,hf];exact mem_cons_self)
   obtain ⟨sl,e⟩:=I.base.slot L o ho (I.ok.frf L hL) hL fun z=>I.ok.exfs L z hL
   exact ⟨hk,⟨L,_,hf,hn,e,hd⟩,ih (fun b hb=>hs b (by unfold frs;rw [filterMap_cons,hf];exact mem_cons_of_mem _ hb)) hr⟩
 exact all X.outer (fun _ hb=>hb) I.ok.funs
theorem Inv.stack (I:Inv X pins σ H s):s.heap.FunFrames X.base X.stack:=by
 rcases I.ok.stk with e | ⟨e,hf⟩
 ·rw [e];exact I.funs
 ·rw [e]
  obtain ⟨m,hn,_⟩:=I.loc
  refine .cons (by rw [I.ok.kind];decide) hf hn ?_ I.funs
  exact Heap.get?_none_of_le (Qg I.ok.bsz I.ok.above)
theorem Inv.stkSub (I:Inv X pins σ H s):∀ b ∈ frs X.stack,b ∈ X.env.locals :: X.fs:=fun b hb=>by
 rcases I.ok.stk with e | ⟨e,hf⟩
 ·rw [e] at hb;exact mem_cons_of_mem _ hb
 ·rw [e] at hb
  unfold frs at hb
  rw [filterMap_cons,hf] at hb
  exact hb
theorem Inv.stkFree (I:Inv X pins σ H s):∀ b ∈ frs X.stack,H b = none:=fun b hb=>by
 rcases mem_cons.mp (I.stkSub b hb) with e | hb
 ·rw [e];exact I.free
 ·obtain ⟨_,o,ho,_⟩:=I.ok.funs.mem hb
  exact I.base.free b o ho (I.ok.frf b hb) fun z=>I.ok.exfs b z hb
theorem Inv.step {t':Nat} {d':Drawn} (I:Inv X pins σ H s)
 (hch:∀ b ∈ ch,(b ∈ X.ex\/X.s₀.heap.objs.size<=b)/\b ≠ X.env.locals/\(∀ x c,X.env.cells.lookup x = some c->c ≠ b)/\∀ p ∈ X.pn ++ pins,p.1 ≠ b)
 (keep:∀ b o,b ≠ X.env.locals->b ∉ X.fs->b ∉ ch->s.heap.get? b = some o->H b = none->h'.get? b = some o)
 (slot:∀ b o,b ≠ X.env.locals->b ∈ X.fs->b ∉ ch->s.heap.get? b = some o->H b = none->∃ sl,h'.get? b = some { o with slots:=sl }) (free:∀ b o,b ∉ ch->s.heap.get? b = some o->H b = none->H' b = none)
 (there:∀ b o,b ∉ ch->s.heap.get? b = some o->∃ o',h'.get? b = some o')
 (tups:∀ b xs,H b = some (.tup xs)->H' b = some (.tup xs)) (frzs:∀ b o u,H b = some (.frz o u)->H' b = some (.frz o u)) (tbls:∀ b ps,H b = some (.tbl ps)->∃ more,H' b = some (.tbl (ps ++ more)))
 (ns:∀ m,s.heap.Ns X.env.locals m->h'.Ns X.env.locals m) (hok:HOk X.prog X.w H' h') (hg:AllBare g') :
  Inv X pins σ H' { s with heap:=h',gens:=g',drawn:=d',toks:=t' }:=by
 have neL:∀ b o,X.s₀.heap.get? b = some o->b ≠ X.env.locals:=fun b o e=>Qh (Q5 (Qb e) I.ok.above)
 have neC:∀ b o,X.s₀.heap.get? b = some o->b ∉ X.ex->b ∉ ch:=fun b o e hx hb=>by
  rcases (hch b hb).1 with z | z
  ·exact hx z
  ·exact absurd (Q5 (Qb e) z) (Ql _)
 have cellK:∀ x c,X.env.cells.lookup x = some c->∀ v,s.heap.IsCell c v->h'.IsCell c v:=fun x c e v h9=>by
  obtain ⟨o,ho,hd⟩:=h9
  have nch:c ∉ ch:=fun z=>(hch c z).2.2.1 x c e rfl
  by_cases hc:c ∈ X.fs
  ·obtain ⟨sl,q⟩:=slot c o (I.cne x c e) hc nch ho (I.freeC x c e)
   exact ⟨_,q,hd⟩
  ·exact ⟨o,keep c o (I.cne x c e) hc nch ho (I.freeC x c e),hd⟩
 refine ⟨I.ok,I.os,hg,⟨fun b o e n hb hx=>?_,fun b o e n hb hx=>?_,fun b o e n hx=>?_,fun b o e hx=>?_,fun b xs e=>tups b xs (I.base.tups b xs e),fun b o xs e=>frzs b o xs (I.base.frzs b o xs e),fun b ps e=>?_⟩,?_,fun x c e=>?_,?_,fun x c e=>?_,fun p hp=>?_,hok,I.len⟩
 ·exact keep b o (neL b o e) hb (neC b o e hx) (I.base.keep b o e n hb hx) (I.base.free b o e n hx)
 ·obtain ⟨sl,e1⟩:=I.base.slot b o e n hb hx
  obtain ⟨sl',e2⟩:=slot b _ (neL b o e) hb (neC b o e hx) e1 (I.base.free b o e n hx)
  exact ⟨sl',e2⟩
 ·obtain ⟨o',e1⟩:=I.base.there b o e hx
  exact free b o' (neC b o e hx) e1 (I.base.free b o e n hx)
 ·obtain ⟨o',e1⟩:=I.base.there b o e hx
  exact there b o' (neC b o e hx) e1
 ·obtain ⟨m1,e1⟩:=I.base.tbls b ps e
  obtain ⟨m2,e2⟩:=tbls b _ e1
  exact ⟨m1 ++ m2,by rw [e2,Array.append_assoc]⟩
 ·obtain ⟨m,hn,hl⟩:=I.loc
  refine ⟨m,ns m hn,fun i x v e1 e2 e3=>?_⟩
  obtain ⟨u,r,l⟩:=hl i x v e1 e2 e3
  refine ⟨u,r,?_⟩
  rcases l with l | ⟨k,c,e,z⟩
  ·exact .inl l
  ·exact .inr ⟨k,c,e,cellK x c e _ z⟩
 ·obtain ⟨v,z⟩:=I.cell x c e
  exact ⟨v,cellK x c e v z⟩
 ·obtain ⟨m,⟨o,_,_,ho,_⟩,_⟩:=I.loc
  exact free _ o (fun z=>(hch _ z).2.1 rfl) ho I.free
 ·obtain ⟨v,o,ho,hd⟩:=I.cell x c e
  exact free c o (fun z=>(hch c z).2.2.1 x c e rfl) ho (I.freeC x c e)
 ·obtain ⟨e,n,ne,nf,d⟩:=I.pin p hp
  have nch:p.1 ∉ ch:=fun z=>(hch p.1 z).2.2.2 p hp rfl
  exact ⟨keep p.1 p.2 ne nf nch e n,free p.1 p.2 nch e n,ne,nf,d⟩
theorem Inv.un {t':Nat} (I:Inv X pins σ H s) (u:Un X.fs [] H H' s.heap h') (hok:HOk X.prog X.w H' h'):Inv X pins σ H' { s with heap:=h',toks:=t' }:=by
 obtain ⟨m,⟨o,es,ep,ho,r⟩,_⟩:=id I.loc
 obtain ⟨sl,hL⟩:=u.any ho I.free (by simp)
 exact I.step (g':=s.gens) (d':=s.drawn) (ch:=[]) (fun _ z=>nomatch z) (fun b o _ hb _ e n=>u.keep b o e n hb (by simp)) (fun b o _ hb _ e n=>u.slot b o e n hb (by simp)) (fun b o _ e n=>u.free b o e n (by simp)) (fun b o _ e=>u.there b o e (by simp)) u.tups u.frzs u.tbls (fun m' hm=>by
  obtain ⟨o',es',ep',ho',r'⟩:=hm
  rw [ho] at ho';cases ho'
  exact ⟨_,es',ep',hL,r'⟩) hok I.bare
theorem Inv.call {t':Nat} {d':Drawn} (I:Inv X pins σ H s) (u:Un (frs X.stack) ch H H' s.heap h') (hok:HOk X.prog X.w H' h') (hg:AllBare g')
 (hch:∀ b ∈ ch,(b ∈ X.ex\/X.s₀.heap.objs.size<=b)/\b ≠ X.env.locals/\(∀ x c,X.env.cells.lookup x = some c->c ≠ b)/\∀ p ∈ X.pn ++ pins,p.1 ≠ b) :
  Inv X pins σ H' { s with heap:=h',gens:=g',drawn:=d',toks:=t' }:=by
 obtain ⟨m,⟨o,es,ep,ho,r⟩,_⟩:=id I.loc
 obtain ⟨sl,hL⟩:=u.any ho I.free fun z=>(hch _ z).2.1 rfl
 exact I.step (ch:=ch) hch (fun b o hL hb hc e n=>u.keep b o e n (fun z=>(mem_cons.mp (I.stkSub b z)).elim hL hb) hc) (fun b o _ _ hc e n=>u.any e n hc) (fun b o hc e n=>u.free b o e n hc) (fun b o hc e=>u.there b o e hc) u.tups u.frzs u.tbls (fun m' hm=>by
  obtain ⟨o',es',ep',ho',r'⟩:=hm
  rw [ho] at ho';cases ho'
  exact ⟨_,es',ep',hL,r'⟩) hok hg
theorem Inv.turned {t':Nat} (I:Inv X pins σ H s) (k:∀ b o,b ≠ it->s.heap.get? b = some o->h'.get? b = some o) (hn:H it = none) (hL:it ≠ X.env.locals)
 (h1:it ∈ X.ex\/X.s₀.heap.objs.size<=it) (h2:∀ x c,X.env.cells.lookup x = some c->c ≠ it) (h3:∀ p ∈ X.pn ++ pins,p.1 ≠ it):Inv X pins σ H { s with heap:=h',toks:=t' }:=by
 have nit:∀ b u,H b = some u->b ≠ it:=fun b u e z=>by rw [z,hn] at e;cases e
 refine I.step (g':=s.gens) (d':=s.drawn) (ch:=[it]) (fun b hb=>?_) (fun b o _ _ hc e _=>k b o (fun z=>hc (by simp [z])) e) (fun b o _ _ hc e _=>⟨o.slots,k b o (fun z=>hc (by simp [z])) e⟩) (fun _ _ _ _ n=>n)
  (fun b o hc e=>⟨o,k b o (fun z=>hc (by simp [z])) e⟩) (fun _ _ e=>e) (fun _ _ _ e=>e) (fun b ps e=>⟨#[],by rw [e];simp⟩) (fun m hm=>?_) (fun b u e=>?_) I.bare
 ·have e:b = it:=by simpa using hb
  subst e
  exact ⟨h1,hL,h2,h3⟩
 ·obtain ⟨o,es,ep,ho,r⟩:=hm
  exact ⟨o,es,ep,k _ o (Ne.symm hL) ho,r⟩
 ·refine (I.hok b u e).stay (fun c v hc q=>k c v ?_ q) (fun _ q=>q) fun _ _ q=>q
  rcases hc with z | z
  ·rw [z];exact nit b u e
  ·exact nit c _ z
theorem Inv.tok (I:Inv X pins σ H s) (t:Nat):Inv X pins σ H { s with toks:=t }:=I.un (h':=s.heap) (t':=t) Un.refl I.hok
theorem Inv.kept {t':Nat} (I:Inv X pins σ H s) (k:∀ b u,s.heap.get? b = some u->h'.get? b = some u):Inv X pins σ H { s with heap:=h',toks:=t' }:=I.un (Un.kept k) (I.hok.kept k)
theorem Inv.laid {a:Addr} {t':Nat} (I:Inv X pins σ H s) (k:∀ b u,s.heap.get? b = some u->h'.get? b = some u) (hp:s.heap.objs.size<=a) (new:ObjOk X.prog X.w (upd H a o) h' a o) :
  Inv X pins σ (upd H a o) { s with heap:=h',toks:=t' }:=I.un (Un.laid k hp (I.hok.fresh hp)) (I.hok.laid k hp new)
theorem Inv.write {x e:Addr} {t':Nat} (I:Inv X pins σ H s) (mu:Mut (H x)) (he:e = x\/H e = some (.own x)) (k:∀ b u,b ≠ e->s.heap.get? b = some u->h'.get? b = some u) (heo:∃ u,h'.get? e = some u)
 (new:ObjOk X.prog X.w (upd H x o) h' x o):Inv X pins σ (upd H x o) { s with heap:=h',toks:=t' }:=I.un (Un.write mu he k heo) (I.hok.write mu he k heo new)
theorem Inv.pins_of {pins':List (Addr × Obj)} (I:Inv X pins σ H s) (h:∀ p ∈ pins',s.heap.get? p.1 = some p.2/\H p.1 = none/\p.1 ≠ X.env.locals/\p.1 ∉ X.fs/\∀ v,p.2.data ≠ .cell v):Inv X pins' σ H s:=
 ⟨I.ok,I.os,I.bare,I.base,I.loc,I.cell,I.free,I.freeC,fun p hp=>(mem_append.mp hp).elim (fun z=>I.pin p (mem_append_left _ z)) (h p),I.hok,I.len⟩
theorem zfj (hN:N.Nodup) (a:N[i]? = some x) (b:N[j]? = some x):i = j:=by
 obtain ⟨h1,e1⟩:=List.getElem?_eq_some_iff.mp a
 obtain ⟨h2,e2⟩:=List.getElem?_eq_some_iff.mp b
 exact (List.getElem_inj hN).mp (e1.trans e2.symm)
theorem zhA {Q:Unit->Shared->Prop} (I:Inv X pins σ H s) (hN:X.N.Nodup) (hi:X.N[i]? = some x) (hx:Loc X.env.scope x) (r:RelV v u)
 (h:∀ s',Inv X pins (σ.set i (some v)) H s'->(∃ a,Heap.SameBut a s.heap s'.heap/\(a = X.env.locals\/X.env.cells.lookup x = some a))->Q () s') (hf:X.fn x = true\/X.env.scope.names.lookup x = some .local:=by first | exact .inl rfl | exact .inr rfl | assumption):wpAny M A (storeName X.env x u) Q E s:=by
 obtain ⟨m,hn,hl⟩:=id I.loc
 have hcls:(X.env.scope.kind == .class || (X.env.scope.kind == .module && X.env.locals != X.env.globals)) = false:=by rw [I.ok.kind];rfl
 have hiσ:i < σ.length:=by rw [I.len];exact (List.getElem?_eq_some_iff.mp hi).1
 have cne:=I.cne
 have tracked:∀ {a:Addr} {h':Heap},(∃ o,s.heap.get? a = some o/\H a = none)->Heap.SameBut a s.heap h'->HOk X.prog X.w H h':=fun {a h'} ha hs b ob e=>by
  obtain ⟨_,_,hfree⟩:=ha
  refine (I.hok b ob e).stay (fun c w' hc q=>(hs.2 c ?_).trans q) (fun _ q=>q) fun _ _ q=>q
  rintro rfl
  rcases hc with rfl | hc
  ·rw [hfree] at e;cases e
  ·rw [hfree] at hc;cases hc
 rcases hx with hk | hk
 ·refine wpAny_storeName_local hk hn (fun h' hn' hs=>?_) hcls
  obtain ⟨oL,_,_,hoL,_⟩:=id hn
  refine h _ ⟨I.ok,I.os,I.bare,⟨fun b o e n hb hx=>?_,fun b o e n hb hx=>?_,I.base.free,fun b o e hx=>?_,I.base.tups,I.base.frzs,I.base.tbls⟩,⟨_,hn',fun j y v' e1 e2 e3=>?_⟩,fun y c e=>?_,I.free,I.freeC,fun p hp=>?_,tracked ⟨oL,hoL,I.free⟩ hs,by simpa using I.len⟩ ⟨_,hs,.inl rfl⟩
  ·exact (hs.2 b (Qh (Q5 (Qb e) I.ok.above))).trans (I.base.keep b o e n hb hx)
  ·obtain ⟨sl,e1⟩:=I.base.slot b o e n hb hx
   exact ⟨sl,(hs.2 b (Qh (Q5 (Qb e) I.ok.above))).trans e1⟩
  ·obtain ⟨o',e1⟩:=I.base.there b o e hx
   exact ⟨o',(hs.2 b (Qh (Q5 (Qb e) I.ok.above))).trans e1⟩
  ·by_cases hj:j = i
   ·subst hj
    rw [hi] at e1;cases e1
    rw [List.getElem?_set_self hiσ] at e2
    cases e2
    exact ⟨u,r,.inl ⟨hk,by simp⟩⟩
   ·rw [List.getElem?_set_ne (Ne.symm hj)] at e2
    obtain ⟨u',r',q⟩:=hl j y v' e1 e2 e3
    refine ⟨u',r',?_⟩
    rcases q with ⟨k,e⟩ | ⟨k,c,e,z⟩
    ·refine .inl ⟨k,?_⟩
     have:y ≠ x:=fun e=>hj (zfj hN e1 (e ▸ hi))
     simp [this,e]
    ·exact .inr ⟨k,c,e,z.sameBut hs (cne y c e)⟩
  ·obtain ⟨w',z⟩:=I.cell y c e
   exact ⟨w',z.sameBut hs (cne y c e)⟩
  ·obtain ⟨e,n,ne,nf,d⟩:=I.pin p hp
   exact ⟨(hs.2 p.1 ne).trans e,n,ne,nf,d⟩
 ·have hfn:X.fn x = true:=by
   rcases hf with z | z
   ·exact z
   ·rw [z] at hk;cases hk
  obtain ⟨c,hc⟩:=I.ok.has x (.inl hk)
  obtain ⟨w',z⟩:=I.cell x c hc
  refine wpAny_storeName_cell I.ok.kind hk hc z (fun h' hc' hs=>?_)
  obtain ⟨oc,hoc,hocd⟩:=id z
  refine h { s with heap:=h' } ⟨I.ok,I.os,I.bare,⟨fun b o e n hb hx=>?_,fun b o e n hb hx=>?_,I.base.free,fun b o e hx=>?_,I.base.tups,I.base.frzs,I.base.tbls⟩,⟨m,hn.sameBut hs (Ne.symm (cne x c hc)),fun j y v' e1 e2 e3=>?_⟩,fun y c' e=>?_,I.free,I.freeC,fun p hp=>?_,tracked ⟨oc,hoc,I.freeC x c hc⟩ hs,by simpa using I.len⟩ ⟨c,hs,.inr hc⟩
  ·exact (hs.2 b (Qh (Q5 (Qb e) (I.ok.cab x c hfn hc)))).trans (I.base.keep b o e n hb hx)
  ·obtain ⟨sl,e1⟩:=I.base.slot b o e n hb hx
   exact ⟨sl,(hs.2 b (Qh (Q5 (Qb e) (I.ok.cab x c hfn hc)))).trans e1⟩
  ·obtain ⟨o',e1⟩:=I.base.there b o e hx
   exact ⟨o',(hs.2 b (Qh (Q5 (Qb e) (I.ok.cab x c hfn hc)))).trans e1⟩
  ·by_cases hj:j = i
   ·subst hj
    rw [hi] at e1;cases e1
    rw [List.getElem?_set_self hiσ] at e2
    cases e2
    exact ⟨u,r,.inr ⟨.inl hk,c,hc,hc'⟩⟩
   ·rw [List.getElem?_set_ne (Ne.symm hj)] at e2
    obtain ⟨u',r',q⟩:=hl j y v' e1 e2 e3
    refine ⟨u',r',?_⟩
    rcases q with q | ⟨k,c',e,z'⟩
    ·exact .inl q
    ·refine .inr ⟨k,c',e,z'.sameBut hs ?_⟩
     rintro rfl
     exact hj (zfj hN e1 (I.ok.inj _ _ _ e hc ▸ hi))
  ·by_cases hcc:c' = c
   ·subst hcc;exact ⟨_,hc'⟩
   ·obtain ⟨w2,z2⟩:=I.cell y c' e
    exact ⟨w2,z2.sameBut hs hcc⟩
  ·obtain ⟨e,n,ne,nf,d⟩:=I.pin p hp
   refine ⟨(hs.2 p.1 ?_).trans e,n,ne,nf,d⟩
   intro q
   rw [q,hoc] at e
   have q':oc = p.2:=Qa e
   exact d w' (by rw [← q'];exact hocd)
theorem zc2 {Q:Unit->Shared->Prop} (I:Inv X pins σ H s) (hN:X.N.Nodup) (hi:X.N[i]? = some x) (hx:Loc X.env.scope x) (r:RelV v u)
 (h:∀ s',Inv X pins (σ.set i (some v)) H s'->Q () s') (hf:X.fn x = true\/X.env.scope.names.lookup x = some .local:=by first | exact .inl rfl | exact .inr rfl | assumption):wpAny M A (storeName X.env x u) Q E s:=
 zhA I hN hi hx r (fun s' I' _=>h s' I') hf
theorem Inv.call' (I:Inv X pins σ H s) (ho:s'.os = s.os) (u:Un (frs X.stack) ch H H' s.heap s'.heap) (hok:HOk X.prog X.w H' s'.heap) (hg:AllBare s'.gens)
 (hch:∀ b ∈ ch,(b ∈ X.ex\/X.s₀.heap.objs.size<=b)/\b ≠ X.env.locals/\(∀ x c,X.env.cells.lookup x = some c->c ≠ b)/\∀ p ∈ X.pn ++ pins,p.1 ≠ b):Inv X pins σ H' s':=by
 obtain ⟨h',g',d',t',o'⟩:=s'
 have e:o' = s.os:=ho
 subst e
 exact I.call (g':=g') (t':=t') (d':=d') u hok hg hch
end
noncomputable abbrev XK:=Value->Option Addr->Hp->Prop
noncomputable abbrev St:=List (Option V)
noncomputable abbrev VK:=V->Hp->Prop
noncomputable abbrev TE:=St->Hp->VK->Prop
noncomputable abbrev TT:=St->Hp->(Bool->Hp->Prop)->Prop
noncomputable abbrev TA:=St->Hp->(List V->Hp->Prop)->Prop
structure Ends where
 nx:St->Hp->Prop
 rt:VK
 bk:St->Hp->Prop:=fun _ _=>False
 ct:St->Hp->Prop:=fun _ _=>False
noncomputable abbrev TS:=Ends->St->Hp->Prop
def EP (X:Cx) (pins:List (Addr × Obj)) (σ:St) (Q:VK) (u:Value) (s':Shared):Prop:=∃ v H',Inv X pins σ H' s'/\RelV v u/\Q v H'
def TP (X:Cx) (pins:List (Addr × Obj)) (σ:St) (Q:Bool->Hp->Prop) (b:Bool) (s':Shared):Prop:=∃ H',Inv X pins σ H' s'/\Q b H'
def AP (X:Cx) (pins:List (Addr × Obj)) (σ:St) (Q:List V->Hp->Prop) (us:List Value) (s':Shared):Prop:=∃ vs H',Inv X pins σ H' s'/\Vals vs us/\Q vs H'
def SP (X:Cx) (pins:List (Addr × Obj)) (D:Ends) (f:Flow) (s':Shared):Prop:=
 match f with
 | .next=>∃ σ' H',Inv X pins σ' H' s'/\D.nx σ' H'
 | .brk=>∃ σ' H',Inv X pins σ' H' s'/\D.bk σ' H'
 | .cont=>∃ σ' H',Inv X pins σ' H' s'/\D.ct σ' H'
 | .ret u=>∃ v σ' H',Inv X pins σ' H' s'/\RelV v u/\D.rt v H'
def PE (X:Cx) (e:Expr) (t:TE):Prop:=
 ∀ (pins:List (Addr × Obj)) (s:Shared) (σ:St) (H:Hp) (Q:VK),Inv X pins σ H s->t σ H Q->wpAny (model X.prog X.w) X.A (eval e X.env) (EP X pins σ Q) X.xe s
def PT (X:Cx) (e:Expr) (t:TT):Prop:=
 ∀ (pins:List (Addr × Obj)) (s:Shared) (σ:St) (H:Hp) (Q:Bool->Hp->Prop),Inv X pins σ H s->t σ H Q->wpAny (model X.prog X.w) X.A (isTrue e X.env (eval e X.env)) (TP X pins σ Q) X.xe s
def PW (X:Cx) (e:Expr) (t:TT):Prop:=
 ∀ (whole:Sem Value) (pins:List (Addr × Obj)) (s:Shared) (σ:St) (H:Hp) (Q:Bool->Hp->Prop),Inv X pins σ H s->t σ H Q->wpAny (model X.prog X.w) X.A (isTrue e X.env whole) (TP X pins σ Q) X.xe s
variable {e:Expr}
theorem PW.pt {t:TT} (h:PW X e t):PT X e t:=h _
def PA (X:Cx) (es:List Expr) (t:TA):Prop:=
 ∀ (pos:Pos) (pins:List (Addr × Obj)) (s:Shared) (σ:St) (H:Hp) (Q:List V->Hp->Prop),Inv X pins σ H s->t σ H Q->wpAny (model X.prog X.w) X.A (spliced (backTo pos (starEach es X.env))) (AP X pins σ Q) X.xe s
def PS (X:Cx) (st:Stmt) (t:TS):Prop:=
 ∀ (pins:List (Addr × Obj)) (s:Shared) (σ:St) (H:Hp) (D:Ends),Inv X pins σ H s->t D σ H->wpAny (model X.prog X.w) X.A (exec st X.env) (SP X pins D) X.xe s
def PSs (X:Cx) (st:List Stmt) (t:TS):Prop:=
 ∀ (pins:List (Addr × Obj)) (s:Shared) (σ:St) (H:Hp) (D:Ends),Inv X pins σ H s->t D σ H->wpAny (model X.prog X.w) X.A (execs st X.env) (SP X pins D) X.xe s
theorem thn {α:Type} {t:Sem α} {Q Q':α->Shared->Prop} (h:wpAny M A t Q E s) (hQ:∀ a s,Q a s->Q' a s):wpAny M A t Q' E s:=Qd h hQ fun _ _ x=>x
variable {op:CmpOp} {c:Expr} {pos:Pos} {σ:St} {ta tb:TE} {R:V->V->Hp->Prop} {Q:Value->Shared->Prop}
section
theorem bin {a b:Expr} (ha:PE X a ta) (hb:PE X b tb) (I:Inv X pins σ H s) (h:ta σ H fun x H1=>tb σ H1 fun y H2=>R x y H2)
 {α:Type} {Q:α->Shared->Prop} {f:Value->Value->Sem α}
 (hf:∀ v u s2 x y H2,Inv X pins σ H2 s2->RelV x v->RelV y u->R x y H2->wpAny (model X.prog X.w) X.A (f v u) Q X.xe s2) :
  wpAny (model X.prog X.w) X.A (eval a X.env) (fun v s₁=>wpAny (model X.prog X.w) X.A (eval b X.env) (fun u s₂=>wpAny (model X.prog X.w) X.A (f v u) Q X.xe s₂) X.xe s₁) X.xe s:=by
 refine thn (ha pins s σ H _ I h) fun v s1 ⟨x,H1,I1,r1,q1⟩=>?_
 refine thn (hb pins s1 σ H1 _ I1 q1) fun u s2 ⟨y,H2,I2,r2,q2⟩=>?_
 exact hf v u s2 x y H2 I2 r1 r2 q2
noncomputable def zgK (i:Nat):TE:=fun σ H Q=>∃ v,σ[i]? = some (some v)/\Q v H
noncomputable def tC (v:V):TE:=fun _ H Q=>Q v H
theorem zlM (hN:X.N[i]? = some x) (hv:Vis X.env.scope x) (hd:(x == ("__debug__":Str)) = false:=by decide) (hcd:(x == ("__classdict__":Str)) = false:=by decide):PE X (.Name x pos) (zgK i):=by
 intro pins s σ H Q I h
 obtain ⟨v,e,h⟩:=h
 obtain ⟨m,hn,hl⟩:=I.loc
 obtain ⟨u,r,l⟩:=hl i x v hN e hv
 have fin:EP X pins σ Q u s:=⟨v,H,I,r,h⟩
 rcases l with ⟨hk,hm⟩ | ⟨hk,c,hc,hcell⟩
 ·exact wpAny_Name (wpAny_loadName_local I.ok.kind hk hn hm fin) hd
 ·rcases hk with hk | hk
  ·exact wpAny_Name (wpAny_loadName_cell I.ok.kind hk hc hcell fin) hd
  ·exact wpAny_Name (wpAny_loadName_free I.ok.kind hk hc hcell fin hcd) hd
theorem zhO {i j pos}:PE X (.Constant (.int i) j pos) (tC (.int i)):=fun _ _ _ H _ I h=>wpAny_Constant_int ⟨.int i,H,I.tok _,⟨_,rfl⟩,h⟩
theorem zjG {b j pos}:PE X (.Constant (.bool b) j pos) (tC (.bl b)):=fun _ _ _ H _ I h=>Constant_bool ⟨.bl b,H,I,rfl,h⟩
theorem zlP {j pos}:PE X (.Constant .none j pos) (tC .non):=fun _ _ _ H _ I h=>Constant_none ⟨.non,H,I,rfl,h⟩
theorem zlO {x j pos}:PE X (.Constant (.str x) j pos) (tC (.str x)):=fun _ _ _ H _ I h=>Calls.Constant_str ⟨.str x,H,I.tok _,⟨_,rfl⟩,h⟩
def Gl (X:Cx) (x:Str):Prop:=X.env.kindOf x = some .globalImplicit
theorem zbB (I:Inv X pins σ H s) (hg:Gl X x) (hm:X.mg x = some u) (h:Q u s)
 (hd:(x == ("__debug__":Str)) = false:=by decide):wpAny (model X.prog X.w) X.A (eval (.Name x pos) X.env) Q E s:=
 Calls.Name_function_global I.ok.kind hg (Calls.loadGlobal_global (by rw [I.ok.glob];exact I.mod.glob.keeps I.bk) hm h) hd
theorem zaX (I:Inv X pins σ H s) (hg:Gl X x) (hm:X.mg x = none) (hv:bootBuiltins x = some u) (h:Q u s)
 (hn:x ≠ "__name__":=by decide) (hd:(x == ("__debug__":Str)) = false:=by decide):wpAny (model X.prog X.w) X.A (eval (.Name x pos) X.env) Q E s:=by
 obtain ⟨mb,h1,h2⟩:=I.mod.blt
 exact Calls.Name_function_global I.ok.kind hg (Calls.loadGlobal_builtin (by rw [I.ok.glob];exact I.mod.glob.keeps I.bk) hm (by rw [I.ok.blt];exact h1.keeps I.bk) ((h2 x hn).trans hv) h) hd
theorem zkn (hg:Gl X x) (hm:X.mg x = some u) (r:RelV v u) (hd:(x == ("__debug__":Str)) = false:=by decide):PE X (.Name x pos) (tC v):=
 fun _ _ _ H _ I h=>zbB I hg hm ⟨v,H,I,r,h⟩ hd
variable {a b:Expr}
def PC (X:Cx) (op:CmpOp) (a b:Expr) (t:TE):Prop:=
 ∀ (pins:List (Addr × Obj)) (s:Shared) (σ:St) (H:Hp) (Q:VK),Inv X pins σ H s->t σ H Q->
  wpAny (model X.prog X.w) X.A (eval a X.env) (fun v s₁=>wpAny (model X.prog X.w) X.A (eval b X.env) (fun u s₂=>wpAny (model X.prog X.w) X.A (compareOp op v u) (EP X pins σ Q) X.xe s₂) X.xe s₁) X.xe s
theorem zi7 (b:Expr) (h:op ≠ .In) (h2:op ≠ .NotIn):behindInMarks op b = false:=by
 have e1:(op == CmpOp.In) = false:=by cases op <;> first | rfl | exact absurd rfl h
 have e2:(op == CmpOp.NotIn) = false:=by cases op <;> first | rfl | exact absurd rfl h2
 cases b <;> simp [behindInMarks,e1,e2]
noncomputable def tB (t:TE):TT:=fun σ H Q=>t σ H fun x H1=>∃ c,x = .bl c/\Q c H1
theorem zol {t:TE} (h:PC X op a b t) (h1:behindInMarks op b = false:=by first | exact zi7 _ (by decide) (by decide) | rfl):PT X (.Compare a [op] [b] pos) (tB t):=by
 intro pins s σ H Q I hw
 refine wpAny_isTrue_Compare1 (thn (h pins s σ H _ I hw) fun v s1 h1=>thn h1 fun u s2 h2=>thn h2 fun c s3 ⟨x,H1,I1,r1,q1⟩=>?_) h1
 obtain ⟨d,rfl,q⟩:=q1
 cases r1
 exact wpAny_truthy_bool ⟨H1,I1,q⟩
theorem zlC {t:TE} (h:PE X e t) (he:∀ whole,isTrue e X.env whole = (do let v ← whole;standAt e.pos;holding [v] (truthy v)):=by intro _;rfl):PT X e (tB t):=by
 intro pins s σ H Q I hw
 refine isTrue_plain (thn (h pins s σ H _ I hw) fun v s1 ⟨x,H1,I1,r1,q1⟩=>?_) (he _)
 obtain ⟨d,rfl,q⟩:=q1
 cases r1
 exact wpAny_truthy_bool ⟨H1,I1,q⟩
variable {tA tB':TT} {rest:List Expr}
noncomputable def znD (t u:TT):TT:=fun σ H Q=>t σ H fun c H1=>if c = true then u σ H1 Q else Q false H1
noncomputable def tOr (t u:TT):TT:=fun σ H Q=>t σ H fun c H1=>if c = true then Q true H1 else u σ H1 Q
noncomputable def zny (t:TT):TT:=fun σ H Q=>t σ H fun c H1=>Q (!c) H1
theorem zj5 (ha:PT X a tA):PW X (.BoolOp .And [a] pos) tA:=by
 intro wh pins s σ H Q I h
 refine isTrue_and (thn (ha pins s σ H Q I h) fun c s1 e=>?_)
 cases c with
 | true=>exact isTrue_and_nil e
 | false=>exact e
theorem zlA (ha:PT X a tA):PW X (.BoolOp .Or [a] pos) tA:=by
 intro wh pins s σ H Q I h
 refine isTrue_or (thn (ha pins s σ H Q I h) fun c s1 e=>?_)
 cases c with
 | false=>exact isTrue_or_nil e
 | true=>exact e
theorem zlB (ha:PT X a tA) (hb:PW X (.BoolOp .And (b :: rest) pos) tB'):PW X (.BoolOp .And (a :: b :: rest) pos) (znD tA tB'):=by
 intro wh pins s σ H Q I h
 refine isTrue_and (thn (ha pins s σ H _ I h) fun c s1 ⟨H1,I1,q1⟩=>?_)
 cases c with
 | true=>exact hb wh pins s1 σ H1 Q I1 q1
 | false=>exact ⟨H1,I1,q1⟩
theorem zmY (ha:PT X a tA) (hb:PW X (.BoolOp .Or (b :: rest) pos) tB'):PW X (.BoolOp .Or (a :: b :: rest) pos) (tOr tA tB'):=by
 intro wh pins s σ H Q I h
 refine isTrue_or (thn (ha pins s σ H _ I h) fun c s1 ⟨H1,I1,q1⟩=>?_)
 cases c with
 | true=>exact ⟨H1,I1,q1⟩
 | false=>exact hb wh pins s1 σ H1 Q I1 q1
theorem zlD (ha:PT X a tA):PT X (.UnaryOp .Not a pos) (zny tA):=by
 intro pins s σ H Q I h
 exact isTrue_not (ha pins s σ H (fun c H1=>Q (!c) H1) I h)
noncomputable def tIf (t:TT) (ta tb:TE):TE:=fun σ H Q=>t σ H fun c H1=>if c = true then ta σ H1 Q else tb σ H1 Q
theorem zi2 (hc:PT X c tA) (ha:PE X a ta) (hb:PE X b tb):PE X (.IfExp c a b pos) (tIf tA ta tb):=by
 intro pins s σ H Q I h
 refine wpAny_IfExp (thn (hc pins s σ H _ I h) fun d s1 ⟨H1,I1,q1⟩=>?_)
 cases d with
 | true=>exact ha pins s1 σ H1 Q I1 q1
 | false=>exact hb pins s1 σ H1 Q I1 q1
end
def SqL (K:Frag) (H:Hp) (a:Addr) (xs:List V):Prop:=
 Rd H a (.lst xs) \/
  ∃ (o:Obj) (its:Array Value) (n:Nat),K.lookup a = some o/\o.cls = .type "list"/\o.dict = none/\o.data = .seq its n/\its.size<=sizeLine/\Vals xs its.toList
def SqT (K:Frag) (H:Hp) (a:Addr) (xs:List V):Prop:=
 Rd H a (.tup xs) \/
  ∃ (o:Obj) (its:Array Value) (n:Nat),K.lookup a = some o/\o.cls = .type "tuple"/\o.dict = none/\o.data = .seq its n/\its.size<=sizeLine/\Vals xs its.toList
noncomputable def zn7:Value->Option V
 | .none=>some .non
 | .bool b=>some (.bl b)
 | .int i _=>some (.int i)
 | .str x _=>some (.str x)
 | .bytes b _=>some (.byt b)
 | .float b _=>some (.flt b)
 | .ref a=>some (.ref a)
 | .type n=>some (.ty n)
 | _=>none
theorem RelV.abs {x:V} (r:RelV x u):zn7 u = some x:=by
 cases x with
 | non=>cases r;rfl
 | bl _=>cases r;rfl
 | int _=>obtain ⟨t,rfl⟩:=r;rfl
 | str _=>obtain ⟨t,rfl⟩:=r;rfl
 | byt _=>obtain ⟨t,rfl⟩:=r;rfl
 | flt _=>obtain ⟨t,rfl⟩:=r;rfl
 | ref _=>cases r;rfl
 | ty _=>cases r;rfl
variable {y:V}
theorem RelV.inj {x:V} (r:RelV x u) (q:RelV y u):x = y:=Qa (r.abs.symm.trans q.abs)
theorem Vals.inj:∀ {xs ys:List V} {us:List Value},Vals xs us->Vals ys us->xs = ys
 | _,_,_,.nil,.nil=>rfl
 | _,_,_,.cons r t,.cons r' t'=>by rw [r.inj r',Vals.inj t t']
section
variable {a:Addr} {ys:List V}
theorem Inv.list (I:Inv X pins σ H s) (h:SqL X.K H a xs):∃ its:List Value,Vals xs its/\PlainL s.heap a its.toArray/\xs.length<=sizeLine:=by
 rcases h with h | ⟨o,its,n,hk,hc,hd,hs,hz,r⟩
 ·obtain ⟨z,its,n,r,e⟩:=h.ok I.hok
  exact ⟨its,r,⟨_,n,e,rfl,rfl,rfl⟩,z⟩
 ·refine ⟨its.toList,r,⟨o,n,I.kIn a o hk,hc,hd,by simpa using hs⟩,?_⟩
  have e:=r.length
  simp only [Array.length_toList] at e
  omega
theorem Inv.tuple (I:Inv X pins σ H s) (h:SqT X.K H a xs):∃ its:List Value,Vals xs its/\IsTup s.heap a its.toArray/\xs.length<=sizeLine:=by
 rcases h with h | ⟨o,its,n,hk,hc,_,hs,hz,r⟩
 ·obtain ⟨z,its,r,p,_⟩:=h.ok I.hok
  exact ⟨its,r,p,z⟩
 ·refine ⟨its.toList,r,⟨o,I.kIn a o hk,hc,n,by simpa using hs⟩,?_⟩
  have e:=r.length
  simp only [Array.length_toList] at e
  omega
theorem Inv.list_inj (I:Inv X pins σ H s) (h:SqL X.K H a xs) (h':SqL X.K H a ys):xs = ys:=by
 obtain ⟨its,r,⟨o,n,e,_,_,d⟩,_⟩:=I.list h
 obtain ⟨its',r',⟨o',n',e',_,_,d'⟩,_⟩:=I.list h'
 rw [e] at e';cases e'
 rw [d] at d'
 injection d' with d1 _
 have:its = its':=by simpa using congrArg Array.toList d1
 subst this
 exact r.inj r'
theorem Inv.tuple_inj (I:Inv X pins σ H s) (h:SqT X.K H a xs) (h':SqT X.K H a ys):xs = ys:=by
 obtain ⟨its,r,⟨o,e,_,n,d⟩,_⟩:=I.tuple h
 obtain ⟨its',r',⟨o',e',_,n',d'⟩,_⟩:=I.tuple h'
 rw [e] at e';cases e'
 rw [d] at d'
 injection d' with d1 _
 have:its = its':=by simpa using congrArg Array.toList d1
 subst this
 exact r.inj r'
end
noncomputable abbrev Cx.wish (X:Cx) (E:Value->Shared->Prop):Cx:={ X with xe:=E }
noncomputable abbrev Cx.nox (X:Cx):Cx:=X.wish fun _ _=>False
theorem Cx.Ok.wish (ok:X.Ok) (E:Value->Shared->Prop):(X.wish E).Ok:=
 ⟨ok.mod,ok.kind,ok.glob,ok.blt,ok.above,ok.inj,ok.has,ok.cab,ok.hd,ok.frames,ok.stk,ok.exf,ok.bs,ok.bsz,ok.noex,ok.exfs,ok.funs,ok.frf⟩
theorem Cx.Ok.unwish (ok:(X.wish E).Ok):X.Ok:=
 ⟨ok.mod,ok.kind,ok.glob,ok.blt,ok.above,ok.inj,ok.has,ok.cab,ok.hd,ok.frames,ok.stk,ok.exf,ok.bs,ok.bsz,ok.noex,ok.exfs,ok.funs,ok.frf⟩
section
theorem Inv.wish (I:Inv X pins σ H s) (E:Value->Shared->Prop):Inv (X.wish E) pins σ H s:=⟨I.ok.wish E,I.os,I.bare,I.base,I.loc,I.cell,I.free,I.freeC,I.pin,I.hok,I.len⟩
theorem Inv.unwish (I:Inv (X.wish E) pins σ H s):Inv X pins σ H s:=⟨I.ok.unwish,I.os,I.bare,I.base,I.loc,I.cell,I.free,I.freeC,I.pin,I.hok,I.len⟩
theorem SP.unwish {D:Ends} {f:Flow} (h:SP (X.wish E) pins D f s'):SP X pins D f s':=by
 cases f with
 | next=>obtain ⟨σ',H',I,q⟩:=h;exact ⟨σ',H',I.unwish,q⟩
 | brk=>obtain ⟨σ',H',I,q⟩:=h;exact ⟨σ',H',I.unwish,q⟩
 | cont=>obtain ⟨σ',H',I,q⟩:=h;exact ⟨σ',H',I.unwish,q⟩
 | ret u=>obtain ⟨v,σ',H',I,r,q⟩:=h;exact ⟨v,σ',H',I.unwish,r,q⟩
theorem PE.nox {t:TE} (h:PE X.nox e t):PE X e t:=fun pins s σ H Q I hw=>
 Qd (h pins s σ H Q (I.wish _) hw) (fun _ _ ⟨v,H',I',r,q⟩=>⟨v,H',I'.unwish,r,q⟩) fun _ _ z=>False.elim z
theorem PT.nox {t:TT} (h:PT X.nox e t):PT X e t:=fun pins s σ H Q I hw=>
 Qd (h pins s σ H Q (I.wish _) hw) (fun _ _ ⟨H',I',q⟩=>⟨H',I'.unwish,q⟩) fun _ _ z=>False.elim z
theorem PSs.nox {st:List Stmt} {t:TS} (h:PSs X.nox st t):PSs X st t:=fun pins s σ H D I hw=>
 Qd (h pins s σ H D (I.wish _) hw) (fun _ _ q=>q.unwish) fun _ _ z=>False.elim z
end
variable {te:TE}
section
variable {st:Stmt} {rest:List Stmt} {t u:TS}
noncomputable def zmL:TS:=fun D σ H=>D.nx σ H
noncomputable def znw (t u:TS):TS:=fun D σ H=>t { D with nx:=u D } σ H
theorem zkd:PSs X [] zmL:=fun _ _ σ H _ I h=>wpAny_execs_nil ⟨σ,H,I,h⟩
theorem ziW (h1:PS X st t) (h2:PSs X rest u):PSs X (st :: rest) (znw t u):=by
 intro pins s σ H D I h
 refine wpAny_execs_cons (thn (h1 pins s σ H { D with nx:=u D } I h) fun f s1 q=>?_)
 cases f with
 | next=>
  obtain ⟨σ',H',I',q⟩:=q
  exact h2 pins s1 σ' H' D I' q
 | ret v=>exact q
 | brk=>exact q
 | cont=>exact q
theorem zkc (h1:PS X st t):PSs X [st] t:=by
 intro pins s σ H D I h
 refine wpAny_execs_cons (thn (h1 pins s σ H D I h) fun f s1 q=>?_)
 cases f with
 | next=>exact wpAny_execs_nil q
 | ret v=>exact q
 | brk=>exact q
 | cont=>exact q
theorem Inv.quiet (I:Inv X pins σ H s):interactive X.env = false:=by simp [interactive,I.ok.kind]
noncomputable def zmM (te:TE):TS:=fun D σ H=>te σ H fun _ H1=>D.nx σ H1
theorem zkf (he:PE X e te) (hs:swapsWith e none pos.line X.env = pure false:=by rfl):PS X (.Expr e pos) (zmM te):=by
 intro pins s σ H D I h
 exact wpAny_Expr_any (thn (he pins s σ H _ I h) fun v s1 ⟨x,H1,I1,r1,q1⟩=>⟨σ,H1,I1,q1⟩) I.quiet hs
noncomputable def znx (te:TE):TS:=fun D σ H=>te σ H D.rt
theorem zlF (he:PE X e te):PS X (.Return (some e) pos) (znx te):=by
 intro pins s σ H D I h
 exact wpAny_Return_some (thn (he pins s σ H _ I h) fun v s1 ⟨x,H1,I1,r1,q1⟩=>⟨x,σ,H1,I1,r1,q1⟩)
noncomputable def znB (c:TT) (t u:TS):TS:=fun D σ H=>c σ H fun b H1=>if b = true then t D σ H1 else u D σ H1
theorem zmZ {a b:List Stmt} {tc:TT} (hc:PT X c tc) (ha:PSs X a t) (hb:PSs X b u):PS X (.If c a b pos) (znB tc t u):=by
 intro pins s σ H D I h
 refine wpAny_If (thn (hc pins s σ H _ I h) fun d s1 ⟨H1,I1,q1⟩=>?_)
 cases d with
 | true=>exact ha pins s1 σ H1 D I1 q1
 | false=>exact hb pins s1 σ H1 D I1 q1
end
noncomputable abbrev TG:=V->St->Hp->(St->Hp->Prop)->Prop
noncomputable abbrev TGs:=List V->St->Hp->(St->Hp->Prop)->Prop
def PG (X:Cx) (target:Expr) (t:TG):Prop:=
 ∀ (pins:List (Addr × Obj)) (s:Shared) (σ:St) (H:Hp) (v:V) (u:Value) (Q:St->Hp->Prop),Inv X pins σ H s->RelV v u->t v σ H Q->
  wpAny (model X.prog X.w) X.A (assign target X.env u) (fun _ s'=>∃ σ' H',Inv X pins σ' H' s'/\Q σ' H') X.xe s
def PGs (X:Cx) (ts:List Expr) (t:TGs):Prop:=
 ∀ (pins:List (Addr × Obj)) (s:Shared) (σ:St) (H:Hp) (vs:List V) (us:List Value) (Q:St->Hp->Prop),Inv X pins σ H s->Vals vs us->t vs σ H Q->
  wpAny (model X.prog X.w) X.A (assignInOrder ((assignEach ts X.env).map (·.2)) us) (fun _ s'=>∃ σ' H',Inv X pins σ' H' s'/\Q σ' H') X.xe s
noncomputable abbrev zhq:=V->V->V->Hp->(Hp->Prop)->Prop
def zel (X:Cx) (t:zhq):Prop:=
 ∀ (pins:List (Addr × Obj)) (s:Shared) (σ:St) (H:Hp) (o i v:V) (ov iv u:Value) (Q:Hp->Prop),Inv X pins σ H s->RelV o ov->RelV i iv->RelV v u->t o i v H Q->
  wpAny (model X.prog X.w) X.A (setItem ov iv u) (fun _ s'=>∃ H',Inv X pins σ H' s'/\Q H') X.xe s
variable {tg:Expr} {es:List Expr} {g:TG}
section
noncomputable def zeR (i:Nat):TG:=fun v σ H Q=>Q (σ.set i (some v)) H
theorem qi (hN:X.N.Nodup) (hi:X.N[i]? = some x) (hx:Loc X.env.scope x) (hf:X.fn x = true\/X.env.scope.names.lookup x = some .local:=by first | exact .inl rfl | exact .inr rfl | assumption):PG X (.Name x pos) (zeR i):=by
 intro pins s σ H v u Q I r h
 exact wpAny_assign_Name (zc2 I hN hi hx r (fun s' I'=>⟨_,H,I',h⟩) hf)
noncomputable def zn0:TGs:=fun vs σ H Q=>vs = []/\Q σ H
noncomputable def zhc (t:TG) (u:TGs):TGs:=fun vs σ H Q=>∃ v r,vs = v :: r/\t v σ H fun σ' H'=>u r σ' H' Q
theorem zkl:PGs X [] zn0:=by
 intro pins s σ H vs us Q I r h
 obtain ⟨e,h⟩:=h
 subst e
 cases r
 exact assignInOrder_nil ⟨σ,H,I,h⟩
theorem qC {t:TG} {u:TGs} (h1:PG X e t) (h2:PGs X es u)
 (hs:(assignEach (e :: es) X.env).map (·.2) = assign e X.env :: (assignEach es X.env).map (·.2):=by rfl):PGs X (e :: es) (zhc t u):=by
 intro pins s σ H vs us Q I r h
 obtain ⟨v,vr,e1,h⟩:=h
 subst e1
 cases r with
 | cons r rr=>
  rw [hs]
  refine assignInOrder_cons (thn (h1 pins s σ H _ _ _ I r h) fun _ s1 ⟨σ1,H1,I1,q1⟩=>?_)
  exact h2 pins s1 σ1 H1 _ _ Q I1 rr q1
noncomputable def zjm (K:Frag) (n:Nat) (t:TGs):TG:=fun v σ H Q=>∃ a xs,v = .ref a/\SqT K H a xs/\xs.length = n/\t xs σ H Q
theorem zby {k:Nat} {t:TGs} (hc:X.calm = true) (h:PGs X es t)
 (hn:(assignEach es X.env).length = n:=by rfl) (hst:(assignEach es X.env).findIdx? (·.1) = none:=by rfl):PG X (.Tuple es k pos) (zjm X.K n t):=by
 intro pins s σ H v u Q I r hw
 obtain ⟨a,xs,e1,hq,hl,hw⟩:=hw
 subst e1
 cases r
 obtain ⟨its,rv,ht,hz⟩:=I.tuple hq
 refine assign_Tuple_tuple (I.ok.hd hc) ht (by simp [hn,← hl,rv.length]) hst fun h' hx=>?_
 have I1:Inv X pins σ H { s with heap:=h' }:=I.kept (t':=s.toks) fun b o e=>hx b o (Qh (Qb e)) e
 exact h pins _ σ H xs _ Q I1 (by simpa using rv) hw
noncomputable def znZ (to ti:TE) (t:zhq):TG:=fun v σ H Q=>to σ H fun o H1=>ti σ H1 fun i H2=>t o i v H2 fun H3=>Q σ H3
theorem zlL {o i:Expr} {to ti:TE} {t:zhq} (ho:PE X o to) (hi:PE X i ti) (hs:zel X t)
  (ha:∀ v,assign (.Subscript o i pos) X.env v = (do
   let ov ← holding [v] (eval o X.env)
   let iv ← holding [v,ov] (eval i X.env)
   standAt pos
   holding [v,ov,iv] (setItem ov iv v)
   release [v,ov,iv] []):=by intro _;rfl):PG X (.Subscript o i pos) (znZ to ti t):=by
 intro pins s σ H v u Q I r h
 rw [ha]
 refine Q1 (wpAny_holding (thn (ho pins s σ H _ I h) fun ov s1 ⟨x,H1,I1,r1,q1⟩=>?_))
 refine Q1 (wpAny_holding (thn (hi pins s1 σ H1 _ I1 q1) fun iv s2 ⟨y,H2,I2,r2,q2⟩=>?_))
 refine Q1 (wpAny_standAt (Q1 (wpAny_holding (thn (hs pins s2 σ H2 x y v ov iv u _ I2 r1 r2 r q2) fun _ s3 ⟨H3,I3,q3⟩=>?_))))
 exact wpAny_release ⟨σ,H3,I3,q3⟩
noncomputable def zlo (te:TE) (g:TG):TS:=fun D σ H=>te σ H fun x H1=>g x σ H1 D.nx
theorem zlH (he:PE X e te) (hg:PG X tg g) (hs:swapsWithSole [tg] e pos.line X.env = pure false:=by rfl) (hw:swappedStores [tg] e X.env = pure none:=by rfl)
 (h1:(assignEach [tg] X.env).map (·.2) = [assign tg X.env]:=by rfl):PS X (.Assign [tg] e pos) (zlo te g):=by
 intro pins s σ H D I h
 refine wpAny_Assign_stores (thn (he pins s σ H _ I h) fun v s1 ⟨x,H1,I1,r1,q1⟩=>?_) hs hw
 rw [h1]
 exact thn (hg pins s1 σ H1 x v _ I1 r1 q1) fun _ s2 q=>q
theorem zlE {pos':Pos} (hN:X.N.Nodup) (hi:X.N[i]? = some x) (hx:Loc X.env.scope x) (he:PE X e te) (hs:swapsWith e (some (.Name x pos')) pos.line X.env = pure false:=by rfl) (hf:X.fn x = true\/X.env.scope.names.lookup x = some .local:=by first | exact .inl rfl | exact .inr rfl | assumption) :
  PS X (.Assign [.Name x pos'] e pos) (zlo te (zeR i)):=by
 intro pins s σ H D I h
 refine wpAny_Assign_Name (thn (he pins s σ H _ I h) fun v s1 ⟨y,H1,I1,r1,q1⟩=>?_) hs
 exact zc2 I1 hN hi hx r1 (fun s2 I2=>⟨_,H1,I2,q1⟩) hf
end
structure It where
 go:Nat->Hp->Prop
 yld:Nat->Hp->V->Hp->Prop
 stop:Nat->Hp->Prop
def zcb (X:Cx) (pins:List (Addr × Obj)) (H:Hp) (b:Addr):Prop:=
 H b = none/\b ≠ X.env.locals/\b ∉ X.fs/\(b ∈ X.ex\/X.s₀.heap.objs.size<=b)/\(∀ x c,X.env.cells.lookup x = some c->c ≠ b)/\∀ p ∈ X.pn ++ pins,p.1 ≠ b
theorem Inv.fpOk {b:Addr} (I:Inv X pins σ H s) (hb:s.heap.objs.size<=b) (hn:H' b = none):zcb X pins H' b:=by
 refine ⟨hn,Nat.ne_of_gt (Q5 I.lt hb),I.nofs hb,.inr (Qg I.sz hb),fun x c e z=>?_,fun p hp z=>?_⟩
 ·obtain ⟨v,q⟩:=I.cell x c e
  exact absurd (Q5 q.lt (by rw [z];exact hb)) (Ql _)
 ·exact absurd (Q5 (Qb (I.pin p hp).1) (by rw [z];exact hb)) (Ql _)
structure Turn (P:Program) (w:World) (K:Frag) (tg:Expr) (J:It) (fp:List Addr) (it:Addr) (tn:Nat->Heap->Prop):Prop where
 mem:it ∈ fp
 obj:∀ i h,tn i h->∀ b ∈ fp,∃ o,h.get? b = some o/\∀ v,o.data ≠ .cell v
 keep:∀ i h h',tn i h->(∀ b ∈ fp,∀ o,h.get? b = some o->h'.get? b = some o)->tn i h'
 item:∀ (X:Cx),X.prog = P->X.w = w->X.K = K->X.calm = true->∀ (i:Nat) (pins:List (Addr × Obj)) (s:Shared) (σ:St) (H:Hp) (E:Value->Shared->Prop),Inv X pins σ H s->(∀ b ∈ fp,zcb X pins H b)->tn i s.heap->J.go i H->
  wpAny (model P w) X.A (pyNext (.ref it)) (fun r s1=>∃ u,r = some u /\
   wpAny (model P w) X.A (letOwnedTupleGo tg (.ref it) u) (fun _ s2=>∃ x H',Inv X pins σ H' s2/\RelV x u/\J.yld i H x H'/\tn (i + 1) s2.heap/\∀ b ∈ fp,H' b = none) E s1) E s
 done:∀ (X:Cx),X.prog = P->X.w = w->X.K = K->X.calm = true->∀ (i:Nat) (pins:List (Addr × Obj)) (s:Shared) (σ:St) (H:Hp) (E:Value->Shared->Prop),Inv X pins σ H s->(∀ b ∈ fp,zcb X pins H b)->tn i s.heap->J.stop i H->
  wpAny (model P w) X.A (pyNext (.ref it)) (fun r s1=>r = none/\Inv X pins σ H s1) E s
 self:∀ (A:Around) (i:Nat) (s:Shared) (Q:Value->Shared->Prop) (E:Value->Shared->Prop),tn i s.heap->Q (.ref it) s->wpAny (model P w) A (pyIter (.ref it)) Q E s
noncomputable abbrev TI:=St->Hp->(It->Hp->Prop)->Prop
def PIE (X:Cx) (pins:List (Addr × Obj)) (σ:St) (tg:Expr) (R:It->Hp->Prop) (itv:Value) (s2:Shared):Prop:=
 ∃ (it:Addr) (fp:List Addr) (tn:Nat->Heap->Prop) (J:It) (H':Hp),itv = .ref it/\Inv X pins σ H' s2/\Turn X.prog X.w X.K tg J fp it tn/\tn 0 s2.heap/\(∀ b ∈ fp,zcb X pins H' b)/\R J H'
def PI (X:Cx) (tg iter:Expr) (wi:TI):Prop:=
 ∀ (pins:List (Addr × Obj)) (s:Shared) (σ:St) (H:Hp) (R:It->Hp->Prop),Inv X pins σ H s->wi σ H R->
  wpAny (model X.prog X.w) X.A (eval iter X.env) (fun v s1=>wpAny (model X.prog X.w) X.A (pyIter v) (PIE X pins σ tg R) X.xe s1) X.xe s
theorem zg9 {o:Obj} {n:String} {vs:Array Value} {Q:Unit->Shared->Prop} (ho:s.heap.get? it = some o) (hc:o.cls = .type n) (hd:o.data = .fields vs)
 (hn:["enumerate","zip","dict_itemiterator","dict_reverseitemiterator","odict_iterator","itertools.zip_longest","itertools.pairwise"].contains n = false) (hQ:Q () s):wpAny M A (letOwnedTupleGo tg (.ref it) u) Q E s:=by
 unfold letOwnedTupleGo
 cases tg <;> first
  | exact Qc hQ
  | (cases u <;> first
    | exact Qc hQ
    | (refine Q1 (wpAny_load ho ?_)
       rw [hc,hd]
       show wpAny M A (if (["enumerate","zip","dict_itemiterator","dict_reverseitemiterator","odict_iterator","itertools.zip_longest","itertools.pairwise"].contains n && vs[0]? == some (rawInt _)) = true then _ else _) Q E s
       rw [if_neg (by intro h;rw [hn,Bool.false_and] at h;cases h)]
       exact Qc hQ))
noncomputable def Itl (K:Frag) (a:Addr):It:=
 ⟨fun i H=>∃ xs x,SqL K H a xs/\xs[i]? = some x,fun i H x H'=>H' = H/\∀ xs,SqL K H a xs->xs[i]? = some x,fun i H=>∃ xs,SqL K H a xs/\xs.length<=i⟩
noncomputable def Itt (K:Frag) (a:Addr):It:=
 ⟨fun i H=>∃ xs x,SqT K H a xs/\xs[i]? = some x,fun i H x H'=>H' = H/\∀ xs,SqT K H a xs->xs[i]? = some x,fun i H=>∃ xs,SqT K H a xs/\xs.length<=i⟩
noncomputable def Itr (lo:Int) (n:Nat):It:=⟨fun i _=>i < n,fun i H x H'=>H' = H/\x = .int (lo + i),fun i _=>n<=i⟩
theorem zhz {K:Frag} (a it:Addr):Turn P w K tg (Itl K a) [it] it (fun i h=>h.IsListIter it a i) where
 mem:=by simp
 obj:=fun i h st b hb=>by
  have e:b = it:=by simpa using hb
  subst e
  obtain ⟨o,e,c,d⟩:=st
  exact ⟨o,e,fun v z=>by rw [d] at z;cases z⟩
 keep:=fun i h h' st k=>st.at fun o e=>k it (by simp) o e
 item:=by
  intro X hP hw hK hc i pins s σ H E I hf st hg
  subst hP hw hK
  obtain ⟨xs,x,hq,hx⟩:=hg
  obtain ⟨its,rv,p,hz⟩:=I.list hq
  obtain ⟨u,hu,ru⟩:=rv.get hx
  obtain ⟨f0,f1,f2,f3,f4,f5⟩:=hf it (by simp)
  refine wpAny_pyNext_list_item st p.isList (x:=u) (by simpa using hu) fun h' st' sb=>?_
  have I1:Inv X pins σ H { s with heap:=h' }:=I.turned (t':=s.toks) (fun b o hb e=>(sb.2 b hb).trans e) f0 f1 f3 f4 f5
  obtain ⟨o,e,c,d⟩:=id st'
  exact ⟨u,rfl,zg9 (s:={ s with heap:=h' }) e c d (by decide) ⟨x,H,I1,ru,⟨rfl,fun ys hy=>by rw [I.list_inj hy hq];exact hx⟩,st',fun b hb=>(hf b hb).1⟩⟩
 done:=by
  intro X hP hw hK hc i pins s σ H E I hf st hg
  subst hP hw hK
  obtain ⟨xs,hq,hx⟩:=hg
  obtain ⟨its,rv,p,hz⟩:=I.list hq
  obtain ⟨f0,f1,f2,f3,f4,f5⟩:=hf it (by simp)
  have hl:=rv.length
  exact wpAny_pyNext_list_end (I.ok.hd hc) st p.isList (by simp;omega) fun h' eb=>⟨rfl,I.turned (t':=s.toks) (fun b o hb e=>eb b o hb e) f0 f1 f3 f4 f5⟩
 self:=fun _ _ _ _ _ st h=>wpAny_pyIter_listiter st h
theorem zgE {K:Frag} (a it:Addr):Turn P w K tg (Itt K a) [it] it (fun i h=>h.IsTupleIter it a i) where
 mem:=by simp
 obj:=fun i h st b hb=>by
  have e:b = it:=by simpa using hb
  subst e
  obtain ⟨o,e,c,d⟩:=st
  exact ⟨o,e,fun v z=>by rw [d] at z;cases z⟩
 keep:=fun i h h' st k=>st.at fun o e=>k it (by simp) o e
 item:=by
  intro X hP hw hK hc i pins s σ H E I hf st hg
  subst hP hw hK
  obtain ⟨xs,x,hq,hx⟩:=hg
  obtain ⟨its,rv,p,hz⟩:=I.tuple hq
  obtain ⟨u,hu,ru⟩:=rv.get hx
  obtain ⟨f0,f1,f2,f3,f4,f5⟩:=hf it (by simp)
  refine wpAny_pyNext_tuple_item st (show s.heap.IsTuple a its.toArray from p) (x:=u) (by simpa using hu) fun h' st' sb=>?_
  have I1:Inv X pins σ H { s with heap:=h' }:=I.turned (t':=s.toks) (fun b o hb e=>(sb.2 b hb).trans e) f0 f1 f3 f4 f5
  obtain ⟨o,e,c,d⟩:=id st'
  exact ⟨u,rfl,zg9 (s:={ s with heap:=h' }) e c d (by decide) ⟨x,H,I1,ru,⟨rfl,fun ys hy=>by rw [I.tuple_inj hy hq];exact hx⟩,st',fun b hb=>(hf b hb).1⟩⟩
 done:=by
  intro X hP hw hK hc i pins s σ H E I hf st hg
  subst hP hw hK
  obtain ⟨xs,hq,hx⟩:=hg
  obtain ⟨its,rv,p,hz⟩:=I.tuple hq
  obtain ⟨f0,f1,f2,f3,f4,f5⟩:=hf it (by simp)
  have hl:=rv.length
  exact wpAny_pyNext_tuple_end (I.ok.hd hc) st (show s.heap.IsTuple a its.toArray from p) (by simp;omega) fun h' eb=>⟨rfl,I.turned (t':=s.toks) (fun b o hb e=>eb b o hb e) f0 f1 f3 f4 f5⟩
 self:=fun _ _ _ _ _ st h=>wpAny_pyIter_tupleiter st h
theorem zgF {K:Frag} (it:Addr) (lo:Int) (n:Nat):Turn P w K tg (Itr lo n) [it] it (fun i h=>IsRangeIter h it (lo + (i:Nat) * 1) ((n:Int) - (i:Nat)) 1) where
 mem:=by simp
 obj:=fun i h st b hb=>by
  have e:b = it:=by simpa using hb
  subst e
  exact ⟨_,st,fun v z=>by
   have z':Data.fields _ = Data.cell v:=z
   cases z'⟩
 keep:=fun i h h' st k=>k it (by simp) _ st
 item:=by
  intro X hP hw hK hc i pins s σ H E I hf st hg
  subst hP hw hK
  obtain ⟨f0,f1,f2,f3,f4,f5⟩:=hf it (by simp)
  have W:=Walks.range (prog:=X.prog) (w:=X.w) (I.ok.hd hc) it lo 1 n
  refine W.item i s _ _ hg st fun v h' tk hv st' kk=>?_
  obtain ⟨t,rfl⟩:=hv
  have I1:Inv X pins σ H { s with heap:=h',toks:=tk }:=I.turned (fun b o hb e=>kk b o (by simpa using hb) e) f0 f1 f3 f4 f5
  refine ⟨_,rfl,zg9 (s:={ s with heap:=h',toks:=tk }) (n:="range_iterator") st' rfl rfl (by decide) ⟨.int (lo + i),H,I1,⟨t,?_⟩,⟨rfl,rfl⟩,st',fun b hb=>(hf b hb).1⟩⟩
  rw [Int.mul_one]
 done:=by
  intro X hP hw hK hc i pins s σ H E I hf st hg
  subst hP hw hK
  obtain ⟨f0,f1,f2,f3,f4,f5⟩:=hf it (by simp)
  exact wpAny_pyNext_range_end (I.ok.hd hc) st (by have:n<=i:=hg;omega) fun h' eb=>⟨rfl,I.turned (t':=s.toks) (fun b o hb e=>eb b o hb e) f0 f1 f3 f4 f5⟩
 self:=fun _ _ _ _ _ st h=>wpAny_pyIter_rangeiter st h
variable {l:Expr} {fp:List Addr} {body:List Stmt} {p:Pos} {tl:TE}
section
noncomputable def znc (K:Frag) (tl:TE):TI:=fun σ H R=>tl σ H fun x H1=>∃ a,x = .ref a/\(∃ xs,SqL K H1 a xs)/\R (Itl K a) H1
noncomputable def znW (K:Frag) (tl:TE):TI:=fun σ H R=>tl σ H fun x H1=>∃ a,x = .ref a/\(∃ xs,SqT K H1 a xs)/\R (Itt K a) H1
theorem zkk (hl:PE X l tl):PI X tg l (znc X.K tl):=by
 intro pins s σ H R I h
 refine thn (hl pins s σ H _ I h) fun v s1 ⟨x,H1,I1,r1,q1⟩=>?_
 obtain ⟨a,e,⟨xs,hq⟩,q⟩:=q1
 subst e
 cases r1
 obtain ⟨its,rv,p,hz⟩:=I1.list hq
 refine wpAny_pyIter_list p.isList ?_
 refine ⟨s1.heap.objs.size,[s1.heap.objs.size],_,_,H1,rfl,I1.kept (t':=s1.toks) fun b o e=>Q2 _ e,zhz a _,⟨_,Qi _ rfl,rfl,rfl⟩,fun b hb=>?_,q⟩
 have e:b = s1.heap.objs.size:=by simpa using hb
 subst e
 exact I1.fpOk (Q3 _) (I1.hok.fresh (Q3 _))
theorem zlK (hl:PE X l tl):PI X tg l (znW X.K tl):=by
 intro pins s σ H R I h
 refine thn (hl pins s σ H _ I h) fun v s1 ⟨x,H1,I1,r1,q1⟩=>?_
 obtain ⟨a,e,⟨xs,hq⟩,q⟩:=q1
 subst e
 cases r1
 obtain ⟨its,rv,p,hz⟩:=I1.tuple hq
 refine wpAny_pyIter_tuple (show s1.heap.IsTuple a its.toArray from p) ?_
 refine ⟨s1.heap.objs.size,[s1.heap.objs.size],_,_,H1,rfl,I1.kept (t':=s1.toks) fun b o e=>Q2 _ e,zgE a _,⟨_,Qi _ rfl,rfl,rfl⟩,fun b hb=>?_,q⟩
 have e:b = s1.heap.objs.size:=by simpa using hb
 subst e
 exact I1.fpOk (Q3 _) (I1.hok.fresh (Q3 _))
theorem zfe {R:It->Hp->Prop} {lo hi:Int} {t u v:Tok} {tk:Nat} (I:Inv X pins σ H s) (h1:-(2 ^ 62)<=lo) (h2:lo < 2 ^ 62) (h3:-(2 ^ 62)<=hi) (h4:hi < 2 ^ 62)
 (q:R (Itr lo (hi - lo).toNat) H):wpAny (model X.prog X.w) X.A (pyIter (.ref s.heap.objs.size)) (PIE X pins σ tg R) E { s with heap:=s.heap.push { cls:=.type "range",data:=.fields #[.int lo t,.int hi u,.int 1 v] },toks:=tk }:=by
 refine wpAny_pyIter_range (IsRange.new ..) (small_one h1 h2 h3 h4) ?_
 have I1:Inv X pins σ H { s with heap:=s.heap.push { cls:=.type "range",data:=.fields #[.int lo t,.int hi u,.int 1 v] },toks:=tk }:=I.kept fun b o e=>Q2 _ e
 refine ⟨(s.heap.push { cls:=.type "range",data:=.fields #[.int lo t,.int hi u,.int 1 v] }).objs.size,[(s.heap.push { cls:=.type "range",data:=.fields #[.int lo t,.int hi u,.int 1 v] }).objs.size],_,_,H,rfl,
  I1.kept (t':=tk) fun b o e=>Q2 _ e,zgF _ lo (hi - lo).toNat,?_,fun b hb=>?_,q⟩
 ·have e1:lo + ((0:Nat):Int) * 1 = lo:=by simp
  have e2:(((hi - lo).toNat:Nat):Int) - ((0:Nat):Int) = Builtin.Range.rangeSize lo hi 1:=by rw [rangeSize_one];split <;> omega
  show IsRangeIter _ _ (lo + ((0:Nat):Int) * 1) ((((hi - lo).toNat:Nat):Int) - ((0:Nat):Int)) 1
  rw [e1,e2]
  exact Qi _ rfl
 ·have e:b = (s.heap.push { cls:=.type "range",data:=.fields #[.int lo t,.int hi u,.int 1 v] }).objs.size:=by simpa using hb
  subst e
  exact I1.fpOk (Q3 _) (I1.hok.fresh (Q3 _))
noncomputable def znb (ta:TA):TI:=fun σ H R=>ta σ H fun vs H1=>∃ j:Int,vs = [.int j]/\-(2 ^ 62)<=j/\j < 2 ^ 62/\R (Itr 0 j.toNat) H1
noncomputable def zna (ta:TA):TI:=fun σ H R=>ta σ H fun vs H1=>∃ i j:Int,vs = [.int i,.int j]/\(-(2 ^ 62)<=i/\i < 2 ^ 62/\-(2 ^ 62)<=j/\j < 2 ^ 62)/\R (Itr i (j - i).toNat) H1
theorem zhM {a:Expr} {ta:TA} (hg:Gl X "range") (hm:X.mg "range" = none) (ha:PA X [a] ta) (hs:starEach [a] X.env = [(false,eval a X.env)]:=by rfl):PI X tg (.Call (.Name "range" p) [a] [] pos) (znb ta):=by
 intro pins s σ H R I h
 refine Call_ (zaX I hg hm boot_range (PyProof.Rows.callWith_type1 (thn (ha pos pins s σ H _ I h) fun us s1 ⟨vs,H1,I1,r1,q1⟩=>?_) hs rfl))
 obtain ⟨j,e,q1,q2,q⟩:=q1
 subst e
 cases r1 with
 | cons r rr=>
  cases rr
  obtain ⟨t,rfl⟩:=r
  exact call_range_1 (zfe I1 (by omega) (by omega) q1 q2 (by simpa using q))
theorem zhL {a b:Expr} {ta:TA} (hg:Gl X "range") (hm:X.mg "range" = none) (ha:PA X [a,b] ta) (hs:starEach [a,b] X.env = [(false,eval a X.env),(false,eval b X.env)]:=by rfl) (hs2:starEach [b] X.env = [(false,eval b X.env)]:=by rfl) :
  PI X tg (.Call (.Name "range" p) [a,b] [] pos) (zna ta):=by
 intro pins s σ H R I h
 refine Call_ (zaX I hg hm boot_range (PyProof.Rows.callWith_type1 (thn (ha pos pins s σ H _ I h) fun us s1 ⟨vs,H1,I1,r1,q1⟩=>?_) (by rw [hs,hs2]) (by rw [hs2];rfl)))
 obtain ⟨i,j,e,⟨q1,q2,q3,q4⟩,q⟩:=q1
 subst e
 cases r1 with
 | cons r rr=>
  cases rr with
  | cons r' rr=>
   cases rr
   obtain ⟨t,rfl⟩:=r
   obtain ⟨t',rfl⟩:=r'
   exact call_range_2 (zfe I1 q1 q2 q3 q4 q)
noncomputable def znC (wi:TI) (g:TG) (tb:TS):TS:=fun D σ H=>wi σ H fun J H1=>∃ W:Nat->Nat->St->Hp->Prop,(∃ m,W 0 m σ H1)/\∀ i m σ H,W i m σ H->
 (J.stop i H/\D.nx σ H)\/(J.go i H/\∃ N:St->Hp->Prop,(∀ σ' H',N σ' H'->∃ m',m' < m/\W (i + 1) m' σ' H')/\∀ x H',J.yld i H x H'->g x σ H' fun σ2 H2=>tb { D with nx:=N,ct:=N,bk:=D.nx } σ2 H2)
noncomputable def zco (fp:List Addr) (h:Heap):List (Addr × Obj):=fp.filterMap fun b=>(h.get? b).map fun o=>(b,o)
theorem zay {b:Addr} {o:Obj} (hb:b ∈ fp) (e:h.get? b = some o):(b,o) ∈ zco fp h:=mem_filterMap.mpr ⟨b,hb,by rw [e];rfl⟩
theorem zhR {p:Addr × Obj} (hp:p ∈ zco fp h):p.1 ∈ fp/\h.get? p.1 = some p.2:=by
 obtain ⟨b,hb,e⟩:=mem_filterMap.mp hp
 cases q:h.get? b with
 | none=>rw [q] at e;cases e
 | some o=>
  rw [q] at e
  have e':(b,o) = p:=Qa e
  subst e'
  exact ⟨hb,q⟩
theorem Inv.pinned (I:Inv X pins σ H s) (hf:∀ b ∈ fp,zcb X pins H b) (ho:∀ b ∈ fp,∃ o,s.heap.get? b = some o/\∀ v,o.data ≠ .cell v):Inv X (pins ++ zco fp s.heap) σ H s:=
 I.pins_of fun p hp=>(mem_append.mp hp).elim (fun z=>I.pin p (Qj _ z)) fun z=>by
  obtain ⟨hb,e⟩:=zhR z
  obtain ⟨f0,f1,f2,_⟩:=hf p.1 hb
  obtain ⟨o,e',d⟩:=ho p.1 hb
  rw [e] at e';cases e'
  exact ⟨e,f0,f1,f2,d⟩
theorem Inv.unpinned {pl:List (Addr × Obj)} (I:Inv X (pins ++ pl) σ H s):Inv X pins σ H s:=I.pins_of fun p hp=>I.pin p (Qj _ (mem_append_left _ hp))
theorem zlG {iter:Expr} {wi:TI} {tb:TS} (hp:PassesOwn (model X.prog X.w) X.A X.env X.xe) (hc:X.calm = true) (hi:PI X tg iter wi) (hg:PG X tg g) (hb:PSs X body tb)
 (hs:∀ x,foldedSetIterable iter X.env x = pure x:=by intro _;rfl):PS X (.For tg iter body [] pos) (znC wi g tb):=by
 intro pins s σ H D I h
 refine wpAny_For (thn (hi pins s σ H _ I h) fun v s1 h1=>thn h1 fun itv s2 h2=>?_) hs
 obtain ⟨it,fp,tn,J,H2,e,I2,T,st2,f2,W,⟨m0,w0⟩,turn⟩:=h2
 subst e
 -- what stays true of the iterator's objects through the loop
 have stat:∀ {H':Hp},(∀ b ∈ fp,H' b = none)->∀ b ∈ fp,zcb X pins H' b:=fun hn b hb=>⟨hn b hb,(f2 b hb).2⟩
 refine codeAny_forLoop_any (fun n s'=>∃ i σ' H',Inv X pins σ' H' s'/\tn i s'.heap/\(∀ b ∈ fp,H' b = none)/\W i n σ' H') ?_ m0 ⟨0,σ,H2,I2,st2,fun b hb=>(f2 b hb).1,w0⟩
 rintro n s3 ⟨i,σ3,H3,I3,st3,fr3,w3⟩
 rcases turn i n σ3 H3 w3 with ⟨stop,qn⟩ | ⟨go,N,hN,step⟩
 ·refine wpAny_passesOwn hp (thn (T.done X rfl rfl rfl hc i pins s3 σ3 H3 X.xe I3 (stat fr3) st3 stop) fun r s4 ⟨hr,I4⟩=>?_)
  subst hr
  exact wpAny_execs_nil ⟨σ3,H3,I4,qn⟩
 ·refine wpAny_passesOwn hp (thn (T.item X rfl rfl rfl hc i pins s3 σ3 H3 X.xe I3 (stat fr3) st3 go) fun r s4 ⟨u,hr,h4⟩=>?_)
  subst hr
  refine wpAny_passesOwn hp (thn h4 fun _ s5 ⟨x,H5,I5,r5,y5,st5,fr5⟩=>?_)
  have I5':=I5.pinned (stat fr5) (T.obj _ _ st5)
  refine wpAny_passesOwn hp (thn (hg _ s5 σ3 H5 x u _ I5' r5 (step x H5 y5)) fun _ s6 ⟨σ6,H6,I6,q6⟩=>?_)
  refine wpAny_passesOwn hp (thn (hb _ s6 σ6 H6 _ I6 q6) fun f s7 q7=>?_)
  have again:∀ {σ7:St} {H7:Hp},Inv X (pins ++ zco fp s5.heap) σ7 H7 s7->N σ7 H7->∃ m,m < n/\∃ i σ' H',Inv X pins σ' H' s7/\tn i s7.heap/\(∀ b ∈ fp,H' b = none)/\W i m σ' H':=fun {σ7 H7} I7 n7=>by
   obtain ⟨m',hm,w7⟩:=hN σ7 H7 n7
   refine ⟨m',hm,i + 1,σ7,H7,I7.unpinned,T.keep _ _ _ st5 fun b hb o e=>(I7.pin (b,o) (Qj _ (Qj _ (zay hb e)))).1,fun b hb=>?_,w7⟩
   obtain ⟨o,e,d⟩:=T.obj _ _ st5 b hb
   exact (I7.pin (b,o) (Qj _ (Qj _ (zay hb e)))).2.1
  cases f with
  | next=>obtain ⟨σ7,H7,I7,n7⟩:=q7;exact again I7 n7
  | cont=>obtain ⟨σ7,H7,I7,n7⟩:=q7;exact again I7 n7
  | brk=>obtain ⟨σ7,H7,I7,q7⟩:=q7;exact ⟨σ7,H7,I7.unpinned,q7⟩
  | ret v=>obtain ⟨x7,σ7,H7,I7,r7,q7⟩:=q7;exact ⟨x7,σ7,H7,I7.unpinned,r7,q7⟩
end
noncomputable abbrev R2:=V->V->Hp->VK->Prop
def OpR (X:Cx) (f:Value->Value->Sem Value) (r:R2):Prop:=
 ∀ (pins:List (Addr × Obj)) (s:Shared) (σ:St) (H:Hp) (x y:V) (v u:Value) (Q:VK),Inv X pins σ H s->RelV x v->RelV y u->r x y H Q->
  wpAny (model X.prog X.w) X.A (f v u) (EP X pins σ Q) X.xe s
def UnR (X:Cx) (f:Value->Sem Value) (r:V->Hp->VK->Prop):Prop:=
 ∀ (pins:List (Addr × Obj)) (s:Shared) (σ:St) (H:Hp) (x:V) (v:Value) (Q:VK),Inv X pins σ H s->RelV x v->r x H Q->
  wpAny (model X.prog X.w) X.A (f v) (EP X pins σ Q) X.xe s
def CallR (X:Cx) (f:Value) (r:List V->Hp->VK->Prop):Prop:=
 ∀ (pins:List (Addr × Obj)) (s:Shared) (σ:St) (H:Hp) (xs:List V) (us:List Value) (Q:VK),Inv X pins σ H s->Vals xs us->r xs H Q->
  wpAny (model X.prog X.w) X.A (call f us) (EP X pins σ Q) X.xe s
noncomputable def tOp (r:R2) (ta tb:TE):TE:=fun σ H Q=>ta σ H fun x H1=>tb σ H1 fun y H2=>r x y H2 Q
noncomputable def tUn (r:V->Hp->VK->Prop) (ta:TE):TE:=fun σ H Q=>ta σ H fun x H1=>r x H1 Q
noncomputable def rI (C:Int->Int->Prop) (g:Int->Int->V):R2:=fun x y H Q=>∃ i j,x = .int i/\y = .int j/\C i j/\Q (g i j) H
noncomputable def rI0 (g:Int->Int->V):R2:=fun x y H Q=>∃ i j,x = .int i/\y = .int j/\Q (g i j) H
noncomputable def rU (g:Int->V):V->Hp->VK->Prop:=fun x H Q=>∃ i,x = .int i/\Q (g i) H
variable {tc:TE} {f:Value->Value->Sem Value}
section
variable {a b:Expr}
theorem zjx (ha:PE X a ta) (hb:PE X b tb) (I:Inv X pins σ H s)
 (h:ta σ H fun x H1=>tb σ H1 fun y H2=>R x y H2) 
 (hf:∀ v u s2 x y H2,Inv X pins σ H2 s2->RelV x v->RelV y u->R x y H2->wpAny (model X.prog X.w) X.A (f v u) Q X.xe s2) :
  wpAny (model X.prog X.w) X.A (eval a X.env) (fun v s₁=>wpAny (model X.prog X.w) X.A (eval b X.env) (fun u s₂=>wpAny (model X.prog X.w) X.A (f v u) Q X.xe s₂) X.xe s₁) X.xe s:=by
 refine thn (ha pins s σ H _ I h) fun v s1 ⟨x,H1,I1,r1,q1⟩=>?_
 refine thn (hb pins s1 σ H1 _ I1 q1) fun u s2 ⟨y,H2,I2,r2,q2⟩=>?_
 exact hf v u s2 x y H2 I2 r1 r2 q2
theorem zm1 {op:Operator} {r:R2} (ho:OpR X (binaryOp op) r) (ha:PE X a ta) (hb:PE X b tb):PE X (.BinOp a op b pos) (tOp r ta tb):=by
 intro pins s σ H Q I h
 exact wpAny_BinOp (zjx ha hb I h fun v u s2 x y H2 I2 rx ry q=>ho pins s2 σ H2 x y v u Q I2 rx ry q)
theorem zm0 {op:UnaryOp} {r:V->Hp->VK->Prop} (ho:UnR X (unaryOp op) r) (ha:PE X a ta):PE X (.UnaryOp op a pos) (tUn r ta):=by
 intro pins s σ H Q I h
 exact UnaryOp_ (thn (ha pins s σ H _ I h) fun v s1 ⟨x,H1,I1,r1,q1⟩=>ho pins s1 σ H1 x v Q I1 r1 q1)
theorem opI {C:Int->Int->Prop} {g:Int->Int->Int}
 (rule:∀ (i j:Int) (t u:Tok) (s:Shared) (Q:Value->Shared->Prop) (E:Value->Shared->Prop),C i j->Q (.int (g i j) s.toks) { s with toks:=s.toks + 1 }->wpAny (model X.prog X.w) X.A (f (.int i t) (.int j u)) Q E s) :
  OpR X f (rI C fun i j=>.int (g i j)):=by
 intro pins s σ H x y v u Q I rx ry h
 obtain ⟨i,j,rfl,rfl,hc,q⟩:=h
 obtain ⟨t,rfl⟩:=rx
 obtain ⟨t',rfl⟩:=ry
 exact rule i j t t' s _ _ hc ⟨.int (g i j),H,I.tok _,⟨_,rfl⟩,q⟩
theorem zlZ {g:Int->Int->Int}
 (rule:∀ (i j:Int) (t u:Tok) (s:Shared) (Q:Value->Shared->Prop) (E:Value->Shared->Prop),Q (.int (g i j) s.toks) { s with toks:=s.toks + 1 }->wpAny (model X.prog X.w) X.A (f (.int i t) (.int j u)) Q E s) :
  OpR X f (rI0 fun i j=>.int (g i j)):=by
 intro pins s σ H x y v u Q I rx ry h
 obtain ⟨i,j,rfl,rfl,q⟩:=h
 obtain ⟨t,rfl⟩:=rx
 obtain ⟨t',rfl⟩:=ry
 exact rule i j t t' s _ _ ⟨.int (g i j),H,I.tok _,⟨_,rfl⟩,q⟩
theorem zi4 {g:Int->Int->Bool}
 (rule:∀ (i j:Int) (t u:Tok) (s:Shared) (Q:Value->Shared->Prop) (E:Value->Shared->Prop),Q (.bool (g i j)) s->wpAny (model X.prog X.w) X.A (f (.int i t) (.int j u)) Q E s) :
  OpR X f (rI0 fun i j=>.bl (g i j)):=by
 intro pins s σ H x y v u Q I rx ry h
 obtain ⟨i,j,rfl,rfl,q⟩:=h
 obtain ⟨t,rfl⟩:=rx
 obtain ⟨t',rfl⟩:=ry
 exact rule i j t t' s _ _ ⟨.bl (g i j),H,I,rfl,q⟩
def zn9 (i j:Int):Prop:=0<=j/\j<=1000000/\i.natAbs < 2 ^ 64
def CMul (i j:Int):Prop:=(-(2 ^ 64) < i/\i < 2 ^ 64)\/(-(2 ^ 64) < j/\j < 2 ^ 64)
theorem CMul.ok {i j:Int} (h:CMul i j):IntMulOk i j:=by
 rcases h with ⟨h1,h2⟩ | ⟨h1,h2⟩
 ·exact .of_left (intBits_le_64 h1 h2)
 ·exact .of_right (intBits_le_64 h1 h2)
theorem zlY:OpR X (binaryOp .Add) (rI0 fun i j=>.int (i + j)):=zlZ fun _ _ _ _ _ _ _ q=>add_int q
theorem zlS:OpR X (binaryOp .Sub) (rI0 fun i j=>.int (i - j)):=zlZ fun _ _ _ _ _ _ _ q=>sub_int q
theorem zkv:OpR X (binaryOp .Mod) (rI (fun _ j=>j ≠ 0) fun i j=>.int (i.fmod j)):=opI fun _ _ _ _ _ _ _ hc q=>mod_int' hc q
theorem zlT:OpR X (binaryOp .Pow) (rI zn9 fun i j=>.int (i ^ j.toNat)):=opI fun _ _ _ _ _ _ _ hc q=>pow_int_small hc.1 hc.2.1 hc.2.2 q
theorem unI {f:Value->Sem Value} {g:Int->Int}
  (rule:∀ (i:Int) (t:Tok) (s:Shared) (Q:Value->Shared->Prop) (E:Value->Shared->Prop),Q (.int (g i) s.toks) { s with toks:=s.toks + 1 }->wpAny (model X.prog X.w) X.A (f (.int i t)) Q E s) :
  UnR X f (rU fun i=>.int (g i)):=by
 intro pins s σ H x v Q I rx h
 obtain ⟨i,rfl,q⟩:=h
 obtain ⟨t,rfl⟩:=rx
 exact rule i t s _ _ ⟨.int (g i),H,I.tok _,⟨_,rfl⟩,q⟩
theorem zll:UnR X (unaryOp .USub) (rU fun i=>.int (-i)):=unI fun _ _ _ _ _ q=>neg_int q
end
section
variable {a b:Expr}
theorem zmD {Q:VK} {k k':Bool} (I:Inv X pins σ H s) (q:Q (.bl k) H) (e:k = k'):EP X pins σ Q (.bool k') s:=by
 subst e
 exact ⟨.bl k,H,I,rfl,q⟩
theorem zm4:OpR X (compareOp .Lt) (rI0 fun i j=>.bl (decide (i < j))):=zi4 fun _ _ _ _ _ _ _ q=>lt_int q
theorem zm5:OpR X (compareOp .LtE) (rI0 fun i j=>.bl (decide (i<=j))):=zi4 fun _ _ _ _ _ _ _ q=>le_int q
theorem zm6:OpR X (compareOp .Gt) (rI0 fun i j=>.bl (decide (j < i))):=zi4 fun _ _ _ _ _ _ _ q=>gt_int q
theorem zkt:OpR X (compareOp .IsNot) (fun x y H Q=>y = .non/\Q (.bl (!decide (x = .non))) H):=by
 intro pins s σ H x y v u Q I rx ry h
 obtain ⟨rfl,q⟩:=h
 cases ry
 refine isnot_none_gen (zmD I q ?_)
 cases x <;> first
  | (cases rx;rfl)
  | (obtain ⟨t,rfl⟩:=rx;rfl)
theorem yD (b:Expr) (h:op ≠ .In:=by decide) (h2:op ≠ .NotIn:=by decide):behindInMarks op b = false:=by
 have e1:(op == CmpOp.In) = false:=by cases op <;> first | rfl | exact absurd rfl h
 have e2:(op == CmpOp.NotIn) = false:=by cases op <;> first | rfl | exact absurd rfl h2
 cases b <;> simp [behindInMarks,e1,e2]
theorem zkq {r:R2} (ho:OpR X (compareOp op) r) (ha:PE X a ta) (hb:PE X b tb) (hm:behindInMarks op b = false):PE X (.Compare a [op] [b] pos) (tOp r ta tb):=by
 intro pins s σ H Q I h
 exact wpAny_Compare1 (zjx ha hb I h fun v u s2 x y H2 I2 rx ry q=>ho pins s2 σ H2 x y v u Q I2 rx ry q) hm
noncomputable def zmI (t:TE):TT:=fun σ H Q=>t σ H fun x H'=>∃ k,x = .bl k/\Q k H'
theorem zkb {r:R2} (ho:OpR X (compareOp op) r) (ha:PE X a ta) (hb:PE X b tb) (hm:behindInMarks op b = false):PT X (.Compare a [op] [b] pos) (zmI (tOp r ta tb)):=by
 intro pins s σ H Q I h
 refine wpAny_isTrue_Compare1 (thn (ha pins s σ H _ I h) fun v s1 ⟨x,H1,I1,r1,q1⟩=>thn (hb pins s1 σ H1 _ I1 q1) fun u s2 ⟨y,H2,I2,r2,q2⟩=>
  thn (ho pins s2 σ H2 x y v u _ I2 r1 r2 q2) fun c s3 ⟨z,H3,I3,r3,k,e,q3⟩=>?_) hm
 subst e
 cases r3
 exact wpAny_truthy_bool ⟨H3,I3,q3⟩
theorem zaW:(sizeLine:Nat) < 2 ^ 63:=by rw [sizeLine_eq];decide
theorem zgW:OpR X (binaryOp .Add) (fun x y H Q=>∃ i j,x = .str i/\y = .str j/\i.length + j.length<=sizeLine/\Q (.str (i ++ j)) H):=by
 intro pins s σ H x y v u Q I rx ry h
 obtain ⟨i,j,rfl,rfl,hz,q⟩:=h
 obtain ⟨t,rfl⟩:=rx
 obtain ⟨t',rfl⟩:=ry
 exact add_str (fun t' tk=>⟨.str (i ++ j),H,I.tok _,⟨_,rfl⟩,q⟩) hz
theorem vals1 {x:V} (r:Vals [x] us):∃ u,us = [u]/\RelV x u:=by
 cases r with
 | cons r1 r2=>cases r2;exact ⟨_,rfl,r1⟩
theorem vals2 {x:V} (r:Vals [x,y] us):∃ u w',us = [u,w']/\RelV x u/\RelV y w':=by
 cases r with
 | cons r1 r2=>
  cases r2 with
  | cons r3 r4=>cases r4;exact ⟨_,_,rfl,r1,r3⟩
theorem ziw (hc:X.calm = true):CallR X (.builtin "max") (fun xs H Q=>∃ i j,xs = [.int i,.int j]/\Q (.int (if j > i then j else i)) H):=by
 intro pins s σ H xs us Q I r h
 obtain ⟨i,j,rfl,q⟩:=h
 obtain ⟨u,w',rfl,⟨t,rfl⟩,⟨t',rfl⟩⟩:=vals2 r
 refine max_two_ints (I.ok.hd hc) fun h' tk k=>⟨_,H,I.kept k,?_,q⟩
 by_cases hj:j > i
 ·rw [if_pos hj,if_pos hj];exact ⟨_,rfl⟩
 ·rw [if_neg hj,if_neg hj];exact ⟨_,rfl⟩
theorem ziu (hc:X.calm = true):CallR X (.builtin "min") (fun xs H Q=>∃ i j,xs = [.int i,.int j]/\Q (.int (if j < i then j else i)) H):=by
 intro pins s σ H xs us Q I r h
 obtain ⟨i,j,rfl,q⟩:=h
 obtain ⟨u,w',rfl,⟨t,rfl⟩,⟨t',rfl⟩⟩:=vals2 r
 refine min_two_ints (I.ok.hd hc) fun h' tk k=>⟨_,H,I.kept k,?_,q⟩
 by_cases hj:j < i
 ·rw [if_pos hj,if_pos hj];exact ⟨_,rfl⟩
 ·rw [if_neg hj,if_neg hj];exact ⟨_,rfl⟩
end
structure ObjM (h:Heap) (x dx C:Addr) (mA:Str->Option Value):Prop where
 obj:h.get? x = some (PySem.W.instObj C dx)
 ns:h.Ns1 dx mA
 ne:dx ≠ x
variable {dx:Addr} {mA:Str->Option Value}
theorem zhV (n:h.Ns1 dx mA):∃ od,h.get? dx = some od/\∀ name,PySem.W.lookIn name od = some (mA name):=by
 obtain ⟨o,es,ep,ho,hd,hk,_,hm⟩:=n
 refine ⟨o,ho,fun name=>?_⟩
 have e:=hm name
 unfold nsFind findBy at e
 rw [← Array.find?_toList] at e
 unfold PySem.W.lookIn
 rw [hd]
 dsimp only
 split
 ·rename_i y q
  rw [q] at e
  exact congrArg some e
 ·rename_i q
  rw [q] at e
  have a:es.toList.any (·.refKey) = false:=by
   rw [List.any_eq_false]
   intro y hy
   obtain ⟨z,t,hkey⟩:=hk y (Array.mem_toList_iff.mp hy)
   simp [DictEntry.refKey,hkey]
  have a':¬ es.toList.any (·.refKey) = true:=by rw [a];exact Q4
  rw [if_neg a']
  exact congrArg some e
variable {C:Addr}
theorem ObjM.look {x:Addr} (I:ObjM h x dx C mA):∃ od,PySem.W.InstAt h x (PySem.W.instObj C dx) C (some od)/\∀ name,PySem.W.lookIn name od = some (mA name):=
 let ⟨od,ho,hl⟩:=zhV I.ns
 ⟨od,⟨I.obj,rfl,rfl,ho⟩,hl⟩
noncomputable def ziV (f:Str) (v:V):List (Str × V)->List (Str × V)
 | []=>[(f,v)]
 | (g,x) :: r=>if g = f then (g,v) :: r else (g,x) :: ziV f v r
theorem RelO.some_of {o:Option Value} (r:RelO (some v) o):∃ u,o = some u/\RelV v u:=by
 cases o with
 | none=>exact (show False from r).elim
 | some u=>exact ⟨u,rfl,r⟩
structure Cls (K:Frag) (C:Addr):Prop where
 pg:PySem.W.plainGet K C Str.empty = true
 hd:PySem.W.hasDictIn K C = true
 po:PySem.W.plainOver K C = true
 sa:PySem.W.findIn K (.ref C) "__setattr__" = some (some (.builtin "object.__setattr__"))
structure Con (K:Frag) (C:Addr) (f:Str) (v:V) (u:Value):Prop where
 at_:PySem.W.findIn K (.ref C) f = some (some u)
 rel:RelV v u
 get:PySem.W.specialIn K u "__get__" = some none
 cp:PySem.W.copiedNames.contains f = false
structure Meth (K:Frag) (C:Addr) (m:Str) (f:Addr):Prop where
 at_:PySem.W.findIn K (.ref C) m = some (some (.ref f))
 fn:PySem.W.isFn K (.ref f) = true
 kp:PySem.W.keepIn K (.ref f) = true
section
variable {c:Value} {b:Bool}
inductive TyOf (K:Frag) (H:Hp):V->Value->Prop where
 | non:TyOf K H .non (.type "NoneType")
 | bl (x:Bool):TyOf K H (.bl x) (.type "bool")
 | int (i:Int):TyOf K H (.int i) (.type "int")
 | str (x:Str):TyOf K H (.str x) (.type "str")
 | flt (x:UInt64):TyOf K H (.flt x) (.type "float")
 | lst {a:Addr} {xs:List V} (e:H a = some (.lst xs)):TyOf K H (.ref a) (.type "list")
 | frz {a:Addr} {o:Obj} {xs:List V} (e:H a = some (.frz o (.lst xs))):TyOf K H (.ref a) (.type "list")
 | tup {a:Addr} {xs:List V} (e:H a = some (.tup xs)):TyOf K H (.ref a) (.type "tuple")
 | dK {a:Addr} {kvs:List (Key × V)} (e:H a = some (.dK kvs)):TyOf K H (.ref a) (.type "dict")
 | dT {a:Addr} {kvs:List (List Key × V)} (e:H a = some (.dT kvs)):TyOf K H (.ref a) (.type "dict")
 | ins {a C dx:Addr} {fs:List (Str × V)} (e:H a = some (.ins C dx fs)) (cl:Cls K C) (ha:PySem.W.findIn K (.ref C) "__class__" = some (some (.builtin "object.__class__")))
   (hn:PySem.W.specialIn K (.builtin "object.__class__") "__get__" = some (some (.builtin "getset_descriptor.__get__"))) (htk:PySem.W.takesIn K (.builtin "object.__class__") = some true)
   (hm:PySem.W.mroIn K C (.type "object") = some true):TyOf K H (.ref a) (.ref C)
end
structure Room (k:Nat) (A:Around):Prop where
 hd:A.handled = none
 dp:A.depth + 3 * k + 5 < recursionLimit
 un:A.units + 16 * k + 200 < cLine
theorem Room.mono {k:Nat} (r:Room k A) (h:j<=k):Room j A:=⟨r.hd,by have:=r.dp;omega,by have:=r.un;omega⟩
theorem Room.deeper {k:Nat} (r:Room (k + 1) A) (env:Env):Room k (A.deeper env):=
 ⟨r.hd,by have:=r.dp;show A.depth + 1 + 3 * k + 5 < _;omega,by have:=r.un;show A.units + 3 + 16 * k + 200 < _;omega⟩
theorem Room.in1 {k:Nat} (r:Room (k + 1) A):Room k A.in1:=
 ⟨r.hd,by have:=r.dp;show A.depth + 3 * k + 5 < _;omega,by have:=r.un;show A.units + 1 + 16 * k + 200 < _;omega⟩
variable {kw:List (Str × Value)}
theorem zg1:(A.under (.builtin "type.__call__" ⟨.ref C :: us,kw⟩)).depth = A.depth + 1:=by
 first | rfl | simp [Around.under,Code.weight,Code.isCreation,Code.isGuard,Code.isCaller,Code.frames,Code.isFrame,guardIds]
theorem zg0:(A.under (.builtin "type.__call__" ⟨.ref C :: us,kw⟩)).units = A.units + 1:=by
 first | rfl | simp [Around.under,Code.cUnits,Code.frames,Code.isFrame]
theorem Room.make {k:Nat} (r:Room (k + 1) A) (C:Addr) (us:List Value) (kw:List (Str × Value)):Room k (A.under (.builtin "type.__call__" ⟨.ref C :: us,kw⟩)):=
 ⟨r.hd,by have:=r.dp;rw [zg1];omega,by have:=r.un;rw [zg0];omega⟩
theorem Room.depth {k:Nat} (r:Room k A):A.depth < recursionLimit:=by have:=r.dp;omega
theorem Room.units {k:Nat} (r:Room k A):A.units + 64 < cLine:=by have:=r.un;omega
theorem Room.units0 {k:Nat} (r:Room k A):A.units < cLine:=by have:=r.un;omega
noncomputable def znz:TA:=fun _ H Q=>Q [] H
noncomputable def zmO (ta:TE) (tr:TA):TA:=fun σ H Q=>ta σ H fun x H1=>tr σ H1 fun xs H2=>Q (x :: xs) H2
variable {t:TA}
section
theorem zfi:PA X [] znz:=fun _ _ _ _ H Q I h=>Calls.spliced_nil ⟨[],H,I,.nil,h⟩
theorem zdX (ha:PE X e te) (hr:PA X es t) (hs:starEach (e :: es) X.env = (false,eval e X.env) :: starEach es X.env:=by rfl):PA X (e :: es) (zmO te t):=by
 intro pos pins s σ H Q I h
 rw [hs]
 show wpAny _ _ (spliced ((false,eval e X.env) :: backTo pos (starEach es X.env))) _ _ s
 refine Calls.spliced_cons (thn (ha pins s σ H _ I h) fun u s1 ⟨x,H1,I1,r1,q1⟩=>?_)
 exact thn (hr pos pins s1 σ H1 _ I1 q1) fun us s2 ⟨xs,H2,I2,r2,q2⟩=>⟨x :: xs,H2,I2,.cons r1 r2,q2⟩
noncomputable def znv (t:TA):TE:=fun σ H Q=>t σ H fun xs H1=>xs.length<=sizeLine/\∀ p,H1 p = none->Q (.ref p) (upd H1 p (.tup xs))
noncomputable def znA (t:TA):TE:=fun σ H Q=>t σ H fun xs H1=>xs.length<=sizeLine/\∀ p,H1 p = none->Q (.ref p) (upd H1 p (.lst xs))
theorem zlN {x1} (h:PA X es t):PE X (.Tuple es x1 pos) (znv t):=by
 intro pins s σ H Q I hq
 refine wpAny_Tuple_spliced (thn (h pos pins s σ H _ I hq) fun us s1 ⟨xs,H1,I1,r,z,q⟩=>⟨by rw [← r.length];exact z,?_⟩)
 have hf:H1 s1.heap.objs.size = none:=I1.hok.fresh (Q3 _)
 refine ⟨.ref s1.heap.objs.size,upd H1 s1.heap.objs.size (.tup xs),I1.laid (t':=s1.toks) (fun b u e=>Q2 _ e) (Q3 _) ?_,rfl,q _ hf⟩
 exact ⟨z,us,r,⟨_,Qi _ rfl,rfl,_,rfl⟩,NoDict.new⟩
theorem zlQ (h:PA X es t):PE X (.List es pos) (znA t):=by
 intro pins s σ H Q I hq
 refine wpAny_List_spliced (thn (h pos pins s σ H _ I hq) fun us s1 ⟨xs,H1,I1,r,z,q⟩=>⟨by rw [← r.length];exact z,?_⟩)
 have hf:H1 s1.heap.objs.size = none:=I1.hok.fresh (Q3 _)
 refine ⟨.ref s1.heap.objs.size,upd H1 s1.heap.objs.size (.lst xs),I1.laid (t':=s1.toks) (fun b u e=>Q2 _ e) (Q3 _) ?_,rfl,q _ hf⟩
 exact ⟨z,us,0,r,Qi _ rfl⟩
end
noncomputable abbrev Sp:=List V->Hp->VK->XK->Prop
noncomputable abbrev CXT:=List Env->Hp->Shared->XK->Value->Shared->Prop
structure Env0 (P:Program) (w:World) (K:Frag) (mg:Str->Option Value) (base:Heap) (A:Around) (outer:List Env) (s:Shared) (H:Hp):Prop where
 frames:A.frames = some outer
 mod:Mod K mg base
 bs:∀ b o,base.get? b = some o->s.heap.get? b = some o/\H b = none
 bsz:base.objs.size<=s.heap.objs.size
 funs:s.heap.FunFrames base outer
 frf:∀ b ∈ frs outer,H b = none
 hok:HOk P w H s.heap
 bare:AllBare s.gens
def CE (outer:List Env) (P:Program) (w:World) (H:Hp) (s:Shared) (Q:VK) (u:Value) (s':Shared):Prop:=
 ∃ v H',s'.os = s.os/\AllBare s'.gens/\Un (frs outer) [] H H' s.heap s'.heap/\HOk P w H' s'.heap/\RelV v u/\Q v H'
def CR (CX:CXT) (outer:List Env) (P:Program) (w:World) (H:Hp) (s:Shared) (Q:VK) (E:XK) (r:Result) (s':Shared):Prop:=
 match r with
 | .ok (.ret u)=>CE outer P w H s Q u s'
 | .ok _=>False
 | .error e=>CX outer H s E e s'
structure FnOk (P:Program) (w:World) (K:Frag) (mg:Str->Option Value) (base:Heap) (CX:CXT) (k:Nat) (f:Addr) (fd:FuncData) (ps:List Str) (sp:Sp):Prop where
 len:∀ vs H Q E,sp vs H Q E->vs.length = ps.length
 run:∀ (A:Around) (outer:List Env) (s:Shared) (H:Hp) (args:Args) (us:List Value) (vs:List V) (Q:VK) (E:XK),Room k A->Env0 P w K mg base A outer s H->BindsTo s fd args (ps.zip us)->Vals vs us->sp vs H Q E->
  codeAny (model P w) A (.call (.ref f) args) (CR CX outer P w H s Q E) s
variable {CX:CXT} {fd:FuncData} {base:Heap} {ps:List Str} {sp:Sp} {mg:Str->Option Value}
theorem FnOk.mono {K:Frag} {k:Nat} {f:Addr} (F:FnOk P w K mg base CX j f fd ps sp) (h:j<=k) :
  FnOk P w K mg base CX k f fd ps sp:=⟨F.len,fun A outer s H args us vs Q E hr=>F.run A outer s H args us vs Q E (hr.mono h)⟩
section
theorem Inv.env0 (I:Inv X pins σ H s):Env0 X.prog X.w X.K X.mg X.base X.A X.stack s H:=
 ⟨I.ok.frames,I.ok.mod,I.bs,Qg I.ok.bsz I.sz,I.stack,I.stkFree,I.hok,I.bare⟩
theorem Inv.after {Q:VK} (I:Inv X pins σ H s) (h:CE X.stack X.prog X.w H s Q u s'):EP X pins σ Q u s':=by
 obtain ⟨v,H',os,bare,un,hok,r,q⟩:=h
 obtain ⟨hh,g,d,t,os'⟩:=s'
 obtain rfl:os' = s.os:=os
 exact ⟨v,H',I.call (h':=hh) (g':=g) (d':=d) (t':=t) (ch:=[]) un hok bare (fun b z=>absurd z (by simp)),r,q⟩
end
noncomputable def zjE (sp:Sp) (dvs:List V) (E:XK) (t:TA):TE:=fun σ H Q=>t σ H fun vs H1=>sp (vs ++ dvs) H1 Q E
def Binds (K:Frag) (fd:FuncData) (ps:List Str) (ds:List Value):Prop:=
 ∀ (s:Shared) (us:List Value),K.In s.heap->(us ++ ds).length = ps.length->BindsTo s fd ⟨us,[]⟩ (ps.zip (us ++ ds))
theorem Binds.all {K:Frag} (h:∀ us:List Value,us.length = ps.length->bindArgs fd ⟨us,[]⟩ = pure (ps.zip us)):Binds K fd ps []:=fun s us _ hl=>by
 rw [append_nil] at hl ⊢
 exact .of_eq (h us hl)
def Passes (CX:CXT) (X:Cx) (E:XK):Prop:=∀ (pins:List (Addr × Obj)) (σ:St) (H:Hp) (s:Shared) (e:Value) (s':Shared),Inv X pins σ H s->CX X.stack H s E e s'->X.xe e s'
variable {vs:List V} {apos:Pos} {m:Str}
section
variable {k:Nat} {f:Addr} {dvs:List V} {ds:List Value} {E:XK} {o:Expr}
theorem zlr {Q:VK} (F:FnOk X.prog X.w X.K X.mg X.base CX k f fd ps sp) (hr:Room k X.A) (hb:Binds X.K fd ps ds) (hd:Vals dvs ds) (hx:Passes CX X E)
 (I:Inv X pins σ H s) (r:Vals vs us) (h:sp (vs ++ dvs) H Q E):wpAny (model X.prog X.w) X.A (call (.ref f) us) (EP X pins σ Q) X.xe s:=by
 have r2:Vals (vs ++ dvs) (us ++ ds):=r.append hd
 have hl:(us ++ ds).length = ps.length:=by rw [← r2.length];exact F.len _ _ _ _ h
 refine wpAny_call (codeAny_mono (F.run X.A X.stack s H ⟨us,[]⟩ (us ++ ds) (vs ++ dvs) Q E hr I.env0 (hb s us I.kIn hl) r2 h) fun r s' hq=>?_)
 cases r with
 | error e=>exact hx pins σ H s e s' I hq
 | ok fl=>
  cases fl with
  | ret u=>exact I.after hq
  | next=>exact False.elim hq
  | brk=>exact False.elim hq
  | cont=>exact False.elim hq
theorem zkr (F:FnOk X.prog X.w X.K X.mg X.base CX k f fd ps sp) (hr:Room k X.A) (hg:Gl X x) (hm:X.mg x = some (.ref f)) (hk:PySem.W.keepIn X.K (.ref f) = true) (hb:Binds X.K fd ps ds) (hd:Vals dvs ds) (hx:Passes CX X E)
  (ha:PA X (e :: es) t) (hdb:(x == ("__debug__":Str)) = false:=by decide) (he:starEach (e :: es) X.env = (false,eval e X.env) :: starEach es X.env:=by rfl) (hpl:(backTo pos (starEach es X.env)).any (·.1) = false:=by rfl) :
  PE X (.Call (.Name x p) (e :: es) [] pos) (zjE sp dvs E t):=by
 intro pins s σ H Q I h
 refine wpAny_Call_Name_kw (zbB I hg hm ?_ hdb)
 refine PySem.W.callWith_K (h₀:=X.base) I.ok.mod.kin hk (thn (ha pos pins s σ H _ I h) fun us s1 ⟨vs,H1,I1,r,q⟩=>⟨I1.kIn,?_⟩) he hpl
 exact zlr F hr hb hd hx I1 r q
structure Mk (K:Frag) (C f:Addr):Prop where
 makes:PySem.W.makesIn K C = true
 init:PySem.W.findIn K (.ref C) "__init__" = some (some (.ref f))
 fn:PySem.W.isFn K (.ref f) = true
 kp:PySem.W.keepIn K (.ref C) = true
end
section
variable {k:Nat} {f:Addr} {ks:List Str} {E:XK} {kpos:Pos} {o:Expr} {kws:List Keyword} {tk:TA} {nm:Option Str}
structure KBinds (K:Frag) (fd:FuncData) (ps ks:List Str) (g:List Value->List Value->List Value) (gV:List V->List V->List V):Prop where
 to:∀ (s:Shared) (us ws:List Value),K.In s.heap->(g us ws).length = ps.length->BindsTo s fd ⟨us,ks.zip ws⟩ (ps.zip (g us ws))
 rel:∀ {vs:List V} {us:List Value} {zs:List V} {ws:List Value},Vals vs us->Vals zs ws->Vals (gV vs zs) (g us ws)
end
structure FnScope (N P:List Str) (sc:Scope):Prop where
 kind:sc.kind = .function
 co:sc.isCoroutine = false
 gen:sc.isGenerator = false
 nd:N.Nodup
 pre:N.take P.length = P
 par:∀ x ∈ P,sc.names.lookup x = some .local\/sc.names.lookup x = some .cell
 nofree:∀ y ∈ sc.names,y.2 ≠ .free
theorem zeA {kindOf:Str->Option NameKind} {x:Str}:∀ {binds:List (Str × Value)} {m:Str->Option Value},(∀ v,(x,v) ∉ binds)->bindL kindOf binds m x = m x
 | [],_,_=>rfl
 | (n,v) :: r,m,h=>by
  unfold bindL
  rw [zeA fun w hw=>h w (mem_cons_of_mem _ hw)]
  split
  ·have:x ≠ n:=by rintro rfl;exact h v mem_cons_self
   simp [this]
  ·rfl
theorem zeC {kindOf:Str->Option NameKind} {x:Str}:∀ {binds:List (Str × Value)} {m:Str->Option Value},(∀ v,(x,v) ∉ binds)->bindC kindOf binds m x = m x
 | [],_,_=>rfl
 | (n,v) :: r,m,h=>by
  unfold bindC
  rw [zeC fun w hw=>h w (mem_cons_of_mem _ hw)]
  split
  ·rfl
  ·have:x ≠ n:=by rintro rfl;exact h v mem_cons_self
   simp [this]
theorem zeB {kindOf:Str->Option NameKind} {x:Str} {v:Value}:∀ {P:List Str} {vs:List Value} {i:Nat} {m:Str->Option Value},P.Nodup->P[i]? = some x->vs[i]? = some v->kindOf x = some .local->
  bindL kindOf (P.zip vs) m x = some v
 | [],_,_,_,_,h,_,_=>by simp at h
 | _ :: _,[],_,_,_,_,h,_=>by simp at h
 | p :: P,w :: vs,0,m,nd,h1,h2,hk=>by
  simp at h1 h2;subst h1;subst h2
  show bindL kindOf ((p,w) :: P.zip vs) m p = _
  unfold bindL
  rw [zeA fun v hv=>(nodup_cons.mp nd).1 (of_mem_zip hv).1,if_pos hk]
  simp
 | p :: P,w :: vs,i + 1,m,nd,h1,h2,hk=>by
  show bindL kindOf ((p,w) :: P.zip vs) m x = _
  unfold bindL
  exact zeB (i:=i) (nodup_cons.mp nd).2 (by simpa using h1) (by simpa using h2) hk
theorem zeD {kindOf:Str->Option NameKind} {x:Str} {v:Value}:∀ {P:List Str} {vs:List Value} {i:Nat} {m:Str->Option Value},P.Nodup->P[i]? = some x->vs[i]? = some v->kindOf x ≠ some .local->
  bindC kindOf (P.zip vs) m x = some v
 | [],_,_,_,_,h,_,_=>by simp at h
 | _ :: _,[],_,_,_,_,h,_=>by simp at h
 | p :: P,w :: vs,0,m,nd,h1,h2,hk=>by
  simp at h1 h2;subst h1;subst h2
  show bindC kindOf ((p,w) :: P.zip vs) m p = _
  unfold bindC
  rw [zeC fun v hv=>(nodup_cons.mp nd).1 (of_mem_zip hv).1,if_neg hk]
  simp
 | p :: P,w :: vs,i + 1,m,nd,h1,h2,hk=>by
  show bindC kindOf ((p,w) :: P.zip vs) m x = _
  unfold bindC
  exact zeD (i:=i) (nodup_cons.mp nd).2 (by simpa using h1) (by simpa using h2) hk
noncomputable def start (N:List Str) (vs:List V):St:=vs.map some ++ List.replicate (N.length - vs.length) none
noncomputable def zad (CX:CXT) (P:Program) (w:World) (K:Frag) (mg:Str->Option Value) (base:Heap) (N:List Str) (qual:Str) (scope:Scope) (f:Addr) (cd:Value) (A:Around) (outer:List Env) (s:Shared) (H:Hp) (E:XK):Cx where
 prog:=P
 w:=w
 K:=K
 mg:=mg
 base:=base
 A:=A.deeper (envOfC qual scope s.heap.objs.size f cd)
 N:=N
 s₀:=s
 H₀:=H
 env:=envOfC qual scope s.heap.objs.size f cd
 outer:=outer
 stack:=envOfC qual scope s.heap.objs.size f cd :: outer
 ex:=[]
 calm:=true
 fn:=fun _=>true
 pn:=[]
 xe:=fun e s'=>wpAny (model P w) (A.deeper (envOfC qual scope s.heap.objs.size f cd)) (leaving (envOfC qual scope s.heap.objs.size f cd) e) (fun _ s''=>CX outer H s E e s'') (fun e' s''=>CX outer H s E e' s'') s'
theorem zfI {sc:Scope} (h:sc.names.lookup x = some .cell):∃ c,(cellsFrom n sc.names []).lookup x = some c:=by
 have q:=PySem.W.cellsFrom_some sc.names n [] (.inl h)
 exact Option.isSome_iff_exists.mp q
variable {scope:Scope} {qual:Str}
theorem zh1 {K:Frag} {f:Addr} {cd:Value} {outer:List Env} {s1:Shared} {E:XK} 
 (S:FnScope N ps scope) (hd:A.handled = none) (e0:Env0 P w K mg base A outer s H) (hl:vs.length = ps.length) (r:Vals vs us)
 (x:InCallC s s.heap.objs.size (bindL (envOfC qual scope s.heap.objs.size f cd).kindOf (ps.zip us) fun _=>none) (cellsFrom (s.heap.objs.size + 1) scope.names []) (bindC (envOfC qual scope s.heap.objs.size f cd).kindOf (ps.zip us) fun _=>none) s1) :
  Inv (zad CX P w K mg base N qual scope f cd A outer s H E) [] (start N vs) H s1:=by
 have hpl:ps.length<=N.length:=by have:=congrArg List.length S.pre;rw [Qn] at this;omega
 obtain ⟨h1,tk,rfl,hk⟩:=x.done
 have noA:∀ b:Addr,b ∉ (zad CX P w K mg base N qual scope f cd A outer s H E).ex:=fun b z=>absurd (show b ∈ ([]:List Addr) from z) (by simp)
 refine ⟨⟨e0.mod,S.kind,rfl,rfl,Q3 _,fun y z c h1 h2=>?_,fun y hy=>?_,fun y c _ h=>?_,fun _=>hd,Around.frames_deeper e0.frames,.inr ⟨rfl,rfl⟩,fun b z=>absurd z (noA b),e0.bs,e0.bsz,fun b _ _=>noA b,fun b z=>absurd z (noA b),e0.funs,e0.frf⟩,
  rfl,e0.bare,Un.kept hk,⟨_,x.toInCall.ns,fun i y v h1 h2 h3=>?_⟩,fun y c h=>⟨_,x.cell y c h⟩,e0.hok.fresh (Q3 _),fun y c h=>?_,fun p hp=>absurd (show p ∈ ([]:List (Addr × Obj)) from hp) (by simp),e0.hok.kept hk,?_⟩
 ·exact name_of_addr x.apart (PySem.mem_of_lookup h1) (PySem.mem_of_lookup h2)
 ·have hy:scope.names.lookup y = some .cell\/scope.names.lookup y = some .free:=hy
  rcases hy with hy | hy
  ·exact zfI hy
  ·exact absurd rfl (S.nofree _ (PySem.mem_of_lookup hy))
 ·exact Nat.le_of_lt (x.above y c (PySem.mem_of_lookup h))
 ·have hi:i < vs.length:=by
   unfold start at h2
   by_cases hi:i < vs.length
   ·exact hi
   ·rw [Q7 (by simpa using hi)] at h2
    rw [List.getElem?_replicate] at h2
    split at h2 <;> cases h2
  have ha:vs[i]? = some v:=by
   unfold start at h2
   rw [Q6 (by simpa using hi),Q9] at h2
   cases e:vs[i]? with
   | none=>rw [e] at h2;cases h2
   | some a=>rw [e] at h2;cases h2;rfl
  obtain ⟨u,hu,rv⟩:=r.get ha
  have hp:ps[i]? = some y:=by
   rw [← S.pre,List.getElem?_take_of_lt (by omega)];exact h1
  have ndP:ps.Nodup:=by rw [← S.pre];exact S.nd.sublist (List.take_sublist _ _)
  refine ⟨u,rv,?_⟩
  rcases S.par y (Q8 hp) with k | k
  ·exact .inl ⟨k,zeB ndP hp hu k⟩
  ·obtain ⟨c,e⟩:=zfI (n:=s.heap.objs.size + 1) k
   refine .inr ⟨.inl k,c,e,?_⟩
   have q:=x.cell y c e
   rw [zeD ndP hp hu (by show scope.names.lookup y ≠ _;rw [k];decide)] at q
   exact q
 ·exact e0.hok.fresh (Nat.le_of_lt (x.above y c (PySem.mem_of_lookup h)))
 ·unfold start
  show _ = N.length
  rw [Qk,Qe,List.length_replicate]
  omega
theorem zjI {K:Frag} {k:Nat} {f:Addr} {name:Str} {params:Arguments} {dV kV doc pm cdv ct oc:Value} {an od:Option Addr}
 {osl:Array (Option Value)} (lk:K.lookup f = some ⟨oc,od,.func (PySem.W.fnOf name qual params body scope dV kV doc pm an cdv ct),osl⟩) (hcd:PySem.W.codeIn K cdv qual = true) (S:FnScope N ps scope)
 (len:∀ vs H Q E,sp vs H Q E->vs.length = ps.length)
 (hbody:∀ (A:Around) (outer:List Env) (s:Shared) (H:Hp) (vs:List V) (Q:VK) (E:XK),Room k (A.deeper (envOfC qual scope s.heap.objs.size f cdv))->sp vs H Q E->
 ∃ t,PSs (zad CX P w K mg base N qual scope f cdv A outer s H E) body t/\t { nx:=fun _ H'=>Q .non H',rt:=Q } (start N vs) H) :
  FnOk P w K mg base CX (k + 1) f (PySem.W.fnOf name qual params body scope dV kV doc pm an cdv ct) ps sp:=by
 refine ⟨len,fun A outer s H args us vs Q E hr e0 hb r hsp=>?_⟩
 have hl:=len _ _ _ _ hsp
 have KX:K.In s.heap:=e0.mod.kin.keeps fun b o e=>(e0.bs b o e).1
 have lim:s.heap.NoLimit:=e0.mod.nolimit.keeps fun b o e=>(e0.bs b o e).1
 have hkind:∀ y ∈ ps.zip us,scope.names.lookup y.1 = some .local\/(scope.names.lookup y.1 = some .cell/\((cellsFrom (s.heap.objs.size + 1) scope.names []).lookup y.1).isSome = true):=fun ⟨n,v⟩ hy=>by
  rcases S.par n (of_mem_zip hy).1 with q | q
  ·exact .inl q
  ·exact .inr ⟨q,PySem.W.cellsFrom_some _ _ _ (.inl q)⟩
 refine codeAny_call_function hr.depth (KX _ _ lk) rfl S.co S.gen rfl (PySem.W.codeRec_of KX hcd) (hb _ _ _ _ ?_)
 refine wpAny_newFunctionEnv_cells S.kind hkind fun env he s1 x=>?_
 subst he
 refine ⟨lim.keeps x.toInCall.keep,codeAny_func ?_⟩
 obtain ⟨t,ht,hq⟩:=hbody A outer s H vs Q E (hr.deeper _) hsp
 have I:Inv (zad CX P w K mg base N qual scope f cdv A outer s H E) [] (start N vs) H s1:=zh1 S hr.hd e0 hl r x
 refine Qd (ht [] s1 (start N vs) H _ I hq) (fun fl s' hs=>?_) fun e s' hs=>hs
 have fin:∀ {σ':St} {H':Hp} {v:V} {u:Value},Inv (zad CX P w K mg base N qual scope f cdv A outer s H E) [] σ' H' s'->RelV v u->Q v H'->CE outer P w H s Q u s':=
  fun {σ' H' v u} J rv q=>⟨v,H',J.os,J.bare,J.base,J.hok,rv,q⟩
 cases fl with
 | ret u=>
  obtain ⟨v,σ',H',J,rv,q⟩:=hs
  exact fin J rv q
 | next=>
  obtain ⟨σ',H',J,q⟩:=hs
  exact fin (v:=V.non) (u:=Value.none) J rfl q
 | brk=>
  obtain ⟨_,_,_,q⟩:=hs
  exact False.elim q
 | cont=>
  obtain ⟨_,_,_,q⟩:=hs
  exact False.elim q
section
variable {id T:String} {r:List V->Hp->VK->Prop}
noncomputable def tCB (r:List V->Hp->VK->Prop) (t:TA):TE:=fun σ H Q=>t σ H fun vs H1=>r vs H1 Q
theorem zc7 (hc:CallR X (.builtin id) r) (hg:Gl X x) (hm:X.mg x = none) (hv:bootBuiltins x = some (.builtin id)) (ha:PA X (e :: es) t) (hn:x ≠ "__name__":=by decide) (hdb:(x == ("__debug__":Str)) = false:=by decide)
  (he:starEach (e :: es) X.env = (false,eval e X.env) :: starEach es X.env:=by rfl) (hpl:(backTo pos (starEach es X.env)).any (·.1) = false:=by rfl):PE X (.Call (.Name x p) (e :: es) [] pos) (tCB r t):=by
 intro pins s σ H Q I h
 refine wpAny_Call_Name_kw (zaX I hg hm hv ?_ hn hdb)
 exact PyProof.Rows.callWith_builtin1 (thn (ha pos pins s σ H _ I h) fun us s1 ⟨vs,H1,I1,r1,q1⟩=>hc pins s1 σ H1 vs us Q I1 r1 q1) he hpl
theorem zcp (hc:CallR X (.type T) r) (hg:Gl X x) (hm:X.mg x = none) (hv:bootBuiltins x = some (.type T)) (ha:PA X (e :: es) t) (hn:x ≠ "__name__":=by decide) (hdb:(x == ("__debug__":Str)) = false:=by decide)
  (he:starEach (e :: es) X.env = (false,eval e X.env) :: starEach es X.env:=by rfl) (hpl:(backTo pos (starEach es X.env)).any (·.1) = false:=by rfl):PE X (.Call (.Name x p) (e :: es) [] pos) (tCB r t):=by
 intro pins s σ H Q I h
 refine wpAny_Call_Name_kw (zaX I hg hm hv ?_ hn hdb)
 exact PyProof.Rows.callWith_type1 (thn (ha pos pins s σ H _ I h) fun us s1 ⟨vs,H1,I1,r1,q1⟩=>hc pins s1 σ H1 vs us Q I1 r1 q1) he hpl
end
end L2
namespace HT
open PySem PyProof.Rows
variable {sl t:Addr} {vl vu:Value} {Q:Value->Shared->Prop}
section
variable {prog:Program} {w:World} {A:Around} {E:Value->Shared->Prop} {s:Shared}
theorem zlb {b:Addr} {vs ws:List Value} (ht:IsTup s.heap t vs.toArray) (hb:IsTup s.heap b ws.toArray) (hv:vs ≠ [])
 (h1:ws = []->Q (.ref t) s) (h2:ws ≠ []->Q (.ref s.heap.objs.size) { s with heap:=s.heap.push { cls:=.type "tuple",data:=.seq (vs ++ ws).toArray } })
 (hsz:vs.length + ws.length<=sizeLine):wpAny (model prog w) A (binaryOp .Add (.ref t) (.ref b)) Q E s:=by
 obtain ⟨⟨cls,dd,data,sl⟩,ho,hc,n,hd⟩:=id ht
 obtain ⟨⟨cls2,dd2,data2,sl2⟩,ho2,hc2,n2,hd2⟩:=id hb
 simp only at hc hd hc2 hd2
 subst hc hd hc2 hd2
 have e:vs.toArray ++ ws.toArray = (vs ++ ws).toArray:=by simp
 by_cases hw:ws = []
 ·exact concat_meets ⟨_,ho,rfl⟩ ⟨_,ho2,rfl⟩ noFill_tuple_add seq_tuple_add PySem.F.slot_tuple_add PySem.F.entry_tuple_add (PySem.F.args_tuple_add_2 _ _)
   (tuple_addW1 t b vs.toArray ws.toArray n n2 dd dd2 sl sl2 (by simpa using hv) (by simp [hw])) ⟨ho,ho2,h1 hw⟩
 ·refine concat_meets ⟨_,ho,rfl⟩ ⟨_,ho2,rfl⟩ noFill_tuple_add seq_tuple_add PySem.F.slot_tuple_add PySem.F.entry_tuple_add (PySem.F.args_tuple_add_2 _ _)
   (tuple_addW2 t b vs.toArray ws.toArray n n2 dd dd2 sl sl2 (by simpa using hv) (by simpa using hw) (by rw [Qf,Qf];exact hsz)) ⟨ho,ho2,?_⟩
  rw [e]
  exact h2 hw
noncomputable def sIx (n d:Nat):Option Int->Nat
 | none=>d
 | some v=>if v < 0 then (v + (n:Int)).toNat else min v.toNat n
theorem ziO (n d:Nat):sIx n d none = d:=rfl
theorem zj4 (n d k:Nat):sIx n d (some (k:Int)) = min k n:=by
 show (if (k:Int) < 0 then ((k:Int) + (n:Int)).toNat else min (k:Int).toNat n) = min k n
 rw [if_neg (by omega),Int.toNat_natCast]
theorem zlq (n d:Nat) (hd:d<=n) (o:Option Int):sIx n d o<=n:=by
 cases o with
 | none=>exact hd
 | some v=>
  show (if v < 0 then (v + (n:Int)).toNat else min v.toNat n)<=n
  by_cases hv:v < 0
  ·rw [if_pos hv];omega
  ·rw [if_neg hv];exact Nat.min_le_right _ _
theorem zgA (v:Int) (n d:Nat):(if v < 0 then max (v + (n:Int)) 0 else min v (n:Int)) = ((sIx n d (some v):Nat):Int):=by
 show (if v < 0 then max (v + (n:Int)) 0 else min v (n:Int)) = (((if v < 0 then (v + (n:Int)).toNat else min v.toNat n):Nat):Int)
 by_cases hv:v < 0
 ·simp only [if_pos hv];omega
 ·simp only [if_neg hv];omega
theorem zhp (lo hi:Option Int) (n:Nat):Builtin.Slice.sliceAdjust lo hi 1 (n:Int) = (((sIx n 0 lo:Nat):Int),((sIx n n hi:Nat):Int)):=by
 have h1:¬ ((1:Int) < 0):=by omega
 unfold Builtin.Slice.sliceAdjust
 simp only [h1,if_false]
 refine Prod.ext ?_ ?_
 ·cases lo with
  | none=>rfl
  | some v=>exact zgA v n 0
 ·cases hi with
  | none=>rfl
  | some v=>exact zgA v n n
theorem zgV (i j:Nat):Builtin.Slice.slicePlaces (i:Int) (j:Int) 1 = j - i:=by
 unfold Builtin.Slice.slicePlaces
 have h1:(1:Int) > 0:=by omega
 simp only [h1,if_true,Int.ediv_one]
 split <;> omega
theorem zdp {v:Value} {o:Option Int} {Q:Option Int->Shared->Prop} (p:IsPart v o) (h:Q o s):wpAny (model prog w) A (Builtin.Slice.slicePartIndex v) Q E s:=by
 cases p with
 | none=>exact slicePart_none h
 | int i t=>exact slicePart_int h
theorem zaP {lo hi:Option Int} {n:Nat} {Q:Int × Int × Nat->Shared->Prop} (hs:s.heap.IsSliceOf sl vl vu .none) (pl:IsPart vl lo) (pu:IsPart vu hi)
 (h:Q (((sIx n 0 lo:Nat):Int),1,sIx n n hi - sIx n 0 lo) s):wpAny (model prog w) A (Builtin.Slice.sliceApplied (.ref sl) (pure (n:Int))) Q E s:=by
 obtain ⟨os,hos,hcs,hds⟩:=id hs
 unfold Builtin.Slice.sliceApplied Builtin.Slice.sliceFields
 refine Q1 (Q1 (wpAny_field hos hds (x:=vl) rfl (Q1 (wpAny_field hos hds (x:=vu) rfl (Q1 (wpAny_field hos hds (x:=.none) rfl (Qc ?_)))))))
 refine Q1 (slicePart_none ?_)
 show wpAny _ _ (if ((1:Int) == 0) = true then _ else _) _ _ s
 rw [if_neg (by decide)]
 refine Q1 (zdp pl (Q1 (zdp pu (Q1 (Qc ?_)))))
 show wpAny _ _ (match Builtin.Slice.sliceAdjust lo hi 1 (n:Int) with | (lo,hi)=>pure (lo,(1:Int),Builtin.Slice.slicePlaces lo hi 1)) _ _ s
 rw [zhp lo hi n]
 show wpAny _ _ (pure (((sIx n 0 lo:Nat):Int),(1:Int),Builtin.Slice.slicePlaces ((sIx n 0 lo:Nat):Int) ((sIx n n hi:Nat):Int) 1)) _ _ s
 rw [zgV]
 exact Qc h
theorem ziY (xs:Array Value) (i k:Nat):((List.range k).filterMap fun (m:Nat)=>xs[((i:Int) + (m:Int) * 1).toNat]?).toArray = ((xs.toList.drop i).take k).toArray:=by
 have e:(fun (m:Nat)=>xs[((i:Int) + (m:Int) * 1).toNat]?) = fun m=>xs[i + m]?:=by
  funext m
  have:((i:Int) + (m:Int) * 1).toNat = i + m:=by omega
  rw [this]
 rw [e]
 have:=pick_run xs i k
 rw [List.filterMap_map] at this
 have e2:((fun x=>xs[x]?) ∘ fun x=>i + x) = fun m=>xs[i + m]?:=rfl
 rw [e2] at this
 rw [this]
theorem zcN {items:Array Value} {lo hi:Option Int} (ht:IsTup s.heap t items) (hs:s.heap.IsSliceOf sl vl vu .none) (pl:IsPart vl lo) (pu:IsPart vu hi)
 (hw:¬ (sIx items.size 0 lo = 0/\sIx items.size items.size hi = items.size))
 (h:Q (.ref s.heap.objs.size) { s with heap:=s.heap.push { cls:=.type "tuple",data:=.seq ((items.toList.drop (sIx items.size 0 lo)).take (sIx items.size items.size hi - sIx items.size 0 lo)).toArray } })
 (hsz:items.size<=sizeLine):wpAny (model prog w) A (getItem (.ref t) (.ref sl)) Q E s:=by
 have htake:sizeOk (.seq ((items.toList.drop (sIx items.size 0 lo)).take (sIx items.size items.size hi - sIx items.size 0 lo)).toArray):=by
  show ((items.toList.drop (sIx items.size 0 lo)).take (sIx items.size items.size hi - sIx items.size 0 lo)).toArray.size<=sizeLine
  rw [Qf,Qn,length_drop,Array.length_toList]
  omega
 have hj:sIx items.size items.size hi<=items.size:=zlq _ _ (Q3 _) hi
 obtain ⟨os,hos,hcs,hds⟩:=id hs
 have hTs:s.TypeIs (.ref sl) "slice":=⟨os,hos,hcs⟩
 unfold getItem
 try with_reducible refine wpAny_holding ?_
 first | refine Q1 (Qc ?_) | skip
 refine Q1 (wpAny_sequenceKey ht.typeIs (by decide) ?_)
 refine Q1 (wpAny_callSpecial?_slot (name:=Str.ofString "__getitem__") ht.typeIs PyProof.Rows.slot_tuple_getitem
  (wpAny_call_entry PyProof.Rows.slot_tuple_getitem ht.typeIs entry_tuple_getitem ?_ (args_tuple_getitem _ _)))
 show wpAny _ _ (Builtin.Tuple.tupleItemsOf (.ref t) >>= _) _ _ s
 refine Q1 (tupleItemsOf_ ht ?_)
 refine Q1 (wpAny_typeOf hTs ?_)
 rw [if_pos (by decide)]
 refine Q1 (zaP hs pl pu ?_)
 have hno:¬ ((((sIx items.size 0 lo:Nat):Int) == 0 && (1:Int) == 1 && (sIx items.size items.size hi - sIx items.size 0 lo) == items.size) = true):=by
  intro q
  rw [Qo,Qo] at q
  have q1:((sIx items.size 0 lo:Nat):Int) = 0:=eq_of_beq q.1.1
  have q2:sIx items.size items.size hi - sIx items.size 0 lo = items.size:=eq_of_beq q.2
  exact hw ⟨by omega,by omega⟩
 show wpAny _ _ (if (((sIx items.size 0 lo:Nat):Int) == 0 && (1:Int) == 1 && (sIx items.size items.size hi - sIx items.size 0 lo) == items.size) = true then _ else _) _ _ s
 rw [if_neg hno,ziY]
 first
  | exact Q1 (m:=Builtin.Tuple.tupleExact _) (Qp (Qc ⟨_,rfl,Qc h⟩) htake)
  | exact Q1 (m:=Builtin.Tuple.tupleExact _) (Qp (Q1 (Qc (Qc ⟨_,rfl,Qc h⟩))) htake)
  | exact Q1 (Q1 (m:=Builtin.Tuple.tupleExact _) (Qp (Qc (Qc ⟨_,rfl,Qc h⟩)) htake))
  | exact Q1 (Q1 (m:=Builtin.Tuple.tupleExact _) (Qp (Qc ⟨_,rfl,Qc h⟩) htake))
end
end HT
namespace L2
open PySem PySem.Spec PyProof.Rows
noncomputable abbrev TO:=St->Hp->(Option Int->Hp->Prop)->Prop
def PO (X:Cx) (e:Option Expr) (t:TO):Prop:=
 ∀ (pins:List (Addr × Obj)) (s:Shared) (σ:St) (H:Hp) (Q:Option Int->Hp->Prop),Inv X pins σ H s->t σ H Q->
  wpAny (model X.prog X.w) X.A (evalPart e X.env) (fun u s'=>∃ o H',Inv X pins σ H' s'/\IsPart u o/\Q o H') X.xe s
noncomputable def zjX:TO:=fun _ H Q=>Q none H
noncomputable def zmK (t:TE):TO:=fun σ H Q=>t σ H fun x H1=>∃ i,x = .int i/\Q (some i) H1
variable {X:Cx} {e:Expr} {xs:List V} {pos:Pos}
section
variable {te:TE} {lo hi:Option Expr} {tl th:TO} {p2:Pos}
theorem zkj:PO X none zjX:=by
 intro pins s σ H Q I h
 rw [evalPart_none]
 exact Qc ⟨none,H,I,.none,h⟩
theorem zki (h:PE X e te):PO X (some e) (zmK te):=by
 intro pins s σ H Q I hw
 rw [evalPart_some]
 refine thn (h pins s σ H _ I hw) fun u s1 ⟨x,H1,I1,r1,q1⟩=>?_
 obtain ⟨i,rfl,q⟩:=q1
 obtain ⟨t,rfl⟩:=r1
 exact ⟨some i,H1,I1,.int i t,q⟩
def SlR (X:Cx) (r:V->Option Int->Option Int->Hp->VK->Prop):Prop:=
 ∀ (pins:List (Addr × Obj)) (s:Shared) (σ:St) (H:Hp) (x:V) (v vl vu:Value) (lo hi:Option Int) (sl:Addr) (Q:VK),Inv X pins σ H s->RelV x v->s.heap.IsSliceOf sl vl vu .none->IsPart vl lo->IsPart vu hi->r x lo hi H Q->
  ∃ T id,typeLookup (.type T) "__getitem__" = pure (some (.builtin id))/\s.TypeIs v T/\wpAny (model X.prog X.w) X.A (getItem v (.ref sl)) (EP X pins σ Q) X.xe s
noncomputable def tSl (r:V->Option Int->Option Int->Hp->VK->Prop) (te:TE) (tl th:TO):TE:=fun σ H Q=>te σ H fun x H1=>tl σ H1 fun l H2=>th σ H2 fun u H3=>r x l u H3 Q
theorem zi1 {r:V->Option Int->Option Int->Hp->VK->Prop} (hr:SlR X r) (he:PE X e te) (hl:PO X lo tl) (hu:PO X hi th):PE X (.Subscript e (.Slice lo hi none p2) pos) (tSl r te tl th):=by
 intro pins s σ H Q I h
 refine Subscript_ (thn (he pins s σ H _ I h) fun v s1 ⟨x,H1,I1,r1,q1⟩=>?_)
 refine wpAny_Slice (thn (hl pins s1 σ H1 _ I1 q1) fun vl s2 ⟨l,H2,I2,pl,q2⟩=>thn (hu pins s2 σ H2 _ I2 q2) fun vu s3 ⟨u,H3,I3,pu,q3⟩=>?_)
 rw [evalPart_none]
 refine Qc ?_
 have I4:Inv X pins σ H3 { s3 with heap:=s3.heap.push { cls:=.type "slice",data:=.fields #[vl,vu,.none] } }:=I3.kept (t':=s3.toks) fun b ob q=>Q2 _ q
 obtain ⟨T,id,hT,ht,hg⟩:=hr pins { s3 with heap:=s3.heap.push { cls:=.type "slice",data:=.fields #[vl,vu,.none] } } σ H3 x v vl vu l u s3.heap.objs.size Q I4 r1 (Heap.IsSliceOf.new ..) pl pu q3
 show wpAny (model X.prog X.w) X.A (subscriptTail e (.Slice lo hi none p2) v (.ref s3.heap.objs.size)) (EP X pins σ Q) X.xe { s3 with heap:=s3.heap.push { cls:=.type "slice",data:=.fields #[vl,vu,.none] } }
 exact tail_any (ops:=[.ref s3.heap.objs.size,v]) ht hT hg (by with_unfolding_all rfl)
noncomputable def cutV (xs:List V) (lo hi:Option Int):List V:=(xs.drop (HT.sIx xs.length 0 lo)).take (HT.sIx xs.length xs.length hi - HT.sIx xs.length 0 lo)
theorem zcS (xs:List V) (lo hi:Option Int):(cutV xs lo hi).length<=xs.length:=by
 unfold cutV
 rw [Qn,length_drop]
 omega
noncomputable def znH (K:Frag):V->Option Int->Option Int->Hp->VK->Prop:=fun x lo hi H Q=>∃ a xs,x = .ref a/\SqT K H a xs /\
 ¬ (HT.sIx xs.length 0 lo = 0/\HT.sIx xs.length xs.length hi = xs.length)/\∀ p,H p = none->Q (.ref p) (upd H p (.tup (cutV xs lo hi)))
theorem zlp:SlR X (znH X.K):=by
 intro pins s σ H x v vl vu lo hi sl Q I rx hs pl pu h
 obtain ⟨a,xs,rfl,hx,hw,q⟩:=h
 cases rx
 obtain ⟨its,r,ht,hz⟩:=I.tuple hx
 have hlen:its.toArray.size = xs.length:=by rw [Qf];exact r.length.symm
 refine ⟨"tuple",_,PyProof.Rows.slot_tuple_getitem.lookup,ht.typeIs,?_⟩
 refine HT.zcN ht hs pl pu (by rw [hlen];exact hw) ?_ (by rw [hlen];exact hz)
 rw [hlen]
 refine ⟨.ref s.heap.objs.size,_,I.laid (t':=s.toks) (o:=.tup (cutV xs lo hi)) (fun b ob q=>Q2 _ q) (Q3 _) ?_,rfl,q _ (I.hok.fresh (Q3 _))⟩
 exact ⟨Qg (zcS xs lo hi) hz,_,(r.drop (HT.sIx xs.length 0 lo)).take (HT.sIx xs.length xs.length hi - HT.sIx xs.length 0 lo),IsTup.new _ _,NoDict.new⟩
noncomputable def zmV (K:Frag):R2:=fun x y H Q=>∃ a b xs ys,x = .ref a/\y = .ref b/\SqT K H a xs/\SqT K H b ys/\xs ≠ []/\xs.length + ys.length<=sizeLine /\
 (ys = []->Q (.ref a) H)/\(ys ≠ []->∀ p,H p = none->Q (.ref p) (upd H p (.tup (xs ++ ys))))
theorem Vals.nil_iff {us:List Value} (r:Vals xs us):us = [] ↔ xs = []:=by
 cases r with
 | nil=>simp
 | cons _ _=>simp
theorem zkw:OpR X (binaryOp .Add) (zmV X.K):=by
 intro pins s σ H x y v u Q I rx ry h
 obtain ⟨a,b,xs,ys,rfl,rfl,ha,hb,hx,hz,q1,q2⟩:=h
 cases rx
 cases ry
 obtain ⟨its,r1,p1,_⟩:=I.tuple ha
 obtain ⟨its2,r2,p2,_⟩:=I.tuple hb
 refine HT.zlb p1 p2 (fun z=>hx (r1.nil_iff.mp z)) (fun z=>⟨.ref a,H,I,rfl,q1 (r2.nil_iff.mp z)⟩) (fun z=>?_) (by rw [← r1.length,← r2.length];exact hz)
 refine ⟨.ref s.heap.objs.size,_,I.laid (t':=s.toks) (o:=.tup (xs ++ ys)) (fun b ob q=>Q2 _ q) (Q3 _) ?_,rfl,q2 (fun w=>z (r2.nil_iff.mpr w)) _ (I.hok.fresh (Q3 _))⟩
 exact ⟨by rw [Qk];exact hz,_,r1.append r2,IsTup.new _ _,NoDict.new⟩
end
noncomputable def ixN (n:Nat) (i:Int):Option Nat:=if 0<=i then (if i < n then some i.toNat else none) else if -(n:Int)<=i then some (i + n).toNat else none
noncomputable def atI {α:Type} (xs:List α) (i:Int):Option α:=(ixN xs.length i).bind fun j=>xs[j]?
variable {i:Int} {j n:Nat}
theorem zgt (h:ixN n i = some j):seqIndex? i n = some j/\j < n/\-(n:Int)<=i/\i < n:=by
 unfold ixN at h
 by_cases h0:0<=i
 ·rw [if_pos h0] at h
  by_cases h1:i < n
  ·rw [if_pos h1] at h
   have e:i.toNat = j:=Qa h
   exact ⟨by rw [seqIndex_of h0 h1,e],by omega,by omega,h1⟩
  ·rw [if_neg h1] at h;cases h
 ·rw [if_neg h0] at h
  by_cases h1:-(n:Int)<=i
  ·rw [if_pos h1] at h
   have e:(i + n).toNat = j:=Qa h
   exact ⟨by rw [seqIndex_neg (by omega) h1,e],by omega,h1,by omega⟩
  ·rw [if_neg h1] at h;cases h
theorem zei {α:Type} {xs:List α} {v:α} (h:atI xs i = some v):∃ j,seqIndex? i xs.length = some j/\xs[j]? = some v/\j < xs.length/\-(xs.length:Int)<=i/\i < xs.length:=by
 unfold atI at h
 cases e:ixN xs.length i with
 | none=>rw [e] at h;cases h
 | some j=>
  rw [e] at h
  obtain ⟨h1,h2,h3,h4⟩:=zgt e
  exact ⟨j,h1,h,h2,h3,h4⟩
theorem zaf {α:Type} {xs:List α} {v:α} (h:xs[j]? = some v):atI xs (j:Int) = some v:=by
 have hj:j < xs.length:=(List.getElem?_eq_some_iff.mp h).1
 have e:ixN xs.length (j:Int) = some j:=by
  unfold ixN
  rw [if_pos (by omega),if_pos (by omega)];simp
 unfold atI;rw [e];exact h
def zek (b:Expr):Prop:=∀ o i,subscripted b false o i = operate [o,i] (getItem o i)
def IxR (X:Cx) (r:R2):Prop:=
 ∀ (value slice:Expr) (pins:List (Addr × Obj)) (s:Shared) (σ:St) (H:Hp) (x y:V) (v u:Value) (Q:VK),Inv X pins σ H s->RelV x v->RelV y u->r x y H Q->
  subscripted slice false v u = operate [v,u] (getItem v u)->wpAny (model X.prog X.w) X.A (subscriptTail value slice v u) (EP X pins σ Q) X.xe s
def MtR (X:Cx) (id:String) (r:V->List V->Hp->VK->Prop):Prop:=
 ∀ (pins:List (Addr × Obj)) (s:Shared) (σ:St) (H:Hp) (x:V) (xs:List V) (v:Value) (us:List Value) (Q:VK),Inv X pins σ H s->RelV x v->Vals xs us->r x xs H Q->
  wpAny (model X.prog X.w) X.A (call (.builtin id) (v :: us)) (EP X pins σ Q) X.xe s
variable {p:Addr} {H:Hp} {pins:List (Addr × Obj)} {ys:List V} {its its':List Value} {s:Shared} {σ:St} {x y:V} {u:Value}
section
variable {a b:Expr} {ta tb:TE}
theorem IxR.or {r r':R2} (h:IxR X r) (h':IxR X r'):IxR X (fun x y H Q=>r x y H Q\/r' x y H Q):=by
 intro value slice pins s σ H x y v u Q I rx ry q hs
 rcases q with q | q
 ·exact h value slice pins s σ H x y v u Q I rx ry q hs
 ·exact h' value slice pins s σ H x y v u Q I rx ry q hs
theorem zm2 {r:R2} (hr:IxR X r) (ha:PE X a ta) (hb:PE X b tb) (hs:zek b):PE X (.Subscript a b pos) (tOp r ta tb):=by
 intro pins s σ H Q I h
 exact Subscript_ (zjx ha hb I h fun v u s2 x y H2 I2 rx ry q=>hr a b pins s2 σ H2 x y v u Q I2 rx ry q (hs _ _))
noncomputable def zlx (K:Frag):R2:=fun x y H Q=>∃ p xs i v,x = .ref p/\y = .int i/\SqL K H p xs/\atI xs i = some v/\Q v H
noncomputable def zlv (K:Frag):R2:=fun x y H Q=>∃ p xs i v,x = .ref p/\y = .int i/\SqT K H p xs/\atI xs i = some v/\Q v H
noncomputable def zlw:R2:=fun x y H Q=>∃ z i c,x = .str z/\y = .int i/\z.length<=sizeLine/\atI z.cps.toList i = some c/\Q (.str ⟨#[c]⟩) H
theorem zkL:IxR X (zlx X.K):=by
 intro value slice pins s σ H x y v u Q I rx ry h hs
 obtain ⟨p,xs,i,z,rfl,rfl,hq,he,q⟩:=h
 cases rx
 obtain ⟨t,rfl⟩:=ry
 obtain ⟨its,r,pl,hz⟩:=I.list hq
 obtain ⟨j,h1,h2,h3,h4,h5⟩:=zei he
 obtain ⟨w,ew,rw'⟩:=r.get h2
 have hl:=r.length
 have hn:=zaW
 have fin:EP X pins σ Q w s:=⟨z,H,I,rw',q⟩
 by_cases h0:0<=i
 ·have hj:i.toNat = j:=by
   rw [seqIndex_of h0 h5] at h1
   exact Qa h1
  exact item_listR pl.isList h0 (by omega) (by rw [hj];simpa using ew) fin hs
 ·have hj:(i + (its.toArray.size:Int)).toNat = j:=by
   rw [seqIndex_neg (by omega) h4] at h1
   rw [Qf,← hl]
   exact Qa h1
  exact subscriptTail_builtinR (x:=w) pl.isList.typeIs slot_list_getitem.lookup
   (wpAny_getItem_list_neg (Q:=fun r s'=>r = w/\EP X pins σ Q r s') pl.isList (by omega) (by rw [Qf] <;> omega) (by omega) (by rw [hj];simpa using ew) ⟨rfl,fin⟩) hs
theorem zmb:IxR X (zlv X.K):=by
 intro value slice pins s σ H x y v u Q I rx ry h hs
 obtain ⟨p,xs,i,z,rfl,rfl,hq,he,q⟩:=h
 cases rx
 obtain ⟨t,rfl⟩:=ry
 obtain ⟨its,r,pl,hz⟩:=I.tuple hq
 obtain ⟨j,h1,h2,h3,h4,h5⟩:=zei he
 obtain ⟨w,ew,rw'⟩:=r.get h2
 have hl:=r.length
 have hn:=zaW
 have fin:EP X pins σ Q w s:=⟨z,H,I,rw',q⟩
 exact subscriptTail_builtinR (x:=w) pl.typeIs slot_tuple_getitem.lookup
  (getItem_tuple (j:=j) (Q:=fun r s'=>r = w/\EP X pins σ Q r s') pl (by omega) (by omega) (by rw [Qf,← hl];exact h1) (by simpa using ew) ⟨rfl,fin⟩) hs
theorem zh0:IxR X zlw:=by
 intro value slice pins s σ H x y v u Q I rx ry h hs
 obtain ⟨z,i,c,rfl,rfl,hz,he,q⟩:=h
 obtain ⟨t,rfl⟩:=rx
 obtain ⟨t',rfl⟩:=ry
 obtain ⟨j,h1,h2,h3,h4,h5⟩:=zei he
 have hl:z.cps.toList.length = z.length:=by simp [Str.length]
 rw [hl] at h1 h4 h5
 have hn:=zaW
 exact tail_any (typeIs_str s z t) slot_str_getitem.lookup (getItem_str (c:=c) (by
  have e1:decide (i < -(2 ^ 63:Int)) = false:=Qr (by omega)
  have e2:decide (i ≥ 2 ^ 63) = false:=Qr (by omega)
  rw [e1,e2,Bool.or_false]) (by rw [h1];simpa using h2) ⟨.str ⟨#[c]⟩,H,I.tok _,⟨_,rfl⟩,q⟩) hs
noncomputable def rIx (K:Frag):R2:=fun x y H Q=>zlx K x y H Q\/zlv K x y H Q\/zlw x y H Q
theorem zmc:IxR X (rIx X.K):=zkL.or (zmb.or zh0)
theorem zgZ (its:List Value) (n j:Nat) (u:Value):Obj.mapSeq (·.setIfInBounds j u) { cls:=.type "list",data:=.seq its.toArray n } = { cls:=.type "list",data:=.seq (its.set j u).toArray n }:=by
 simp [Obj.mapSeq]
theorem Inv.lst (I:Inv X pins σ H s) (h:H p = some (.lst xs)) :
  ∃ (its:List Value) (n:Nat),Vals xs its/\s.heap.get? p = some { cls:=.type "list",data:=.seq its.toArray n }/\xs.length<=sizeLine:=by
 obtain ⟨z,its,n,r,e⟩:=I.hok p _ h
 exact ⟨its,n,r,e,z⟩
theorem Inv.lstUpd {n':Nat} {f:Obj->Obj} (I:Inv X pins σ H s) (h:H p = some (.lst xs))
 (ho:s.heap.get? p = some { cls:=.type "list",data:=.seq its.toArray n }) (hf:f { cls:=.type "list",data:=.seq its.toArray n } = { cls:=.type "list",data:=.seq its'.toArray n' }) (r:Vals ys its') (hz:ys.length<=sizeLine) (t:Nat) :
  Inv X pins σ (upd H p (.lst ys)) { s with heap:=s.heap.update p f,toks:=t }:=by
 have e:(s.heap.update p f).get? p = some { cls:=.type "list",data:=.seq its'.toArray n' }:=by
  rw [Heap.get?_update_self f ho (by rw [hf] <;> rfl),hf]
 refine I.write (x:=p) (e:=p) (by rw [h];trivial) (.inl rfl) (fun b u hb q=>(Heap.get?_update_other _ _ (Ne.symm hb)).trans q) ⟨_,e⟩ ?_
 exact ⟨hz,its',n',r,e⟩
noncomputable def zmS:V->V->V->Hp->(Hp->Prop)->Prop:=fun o i v H Q=>∃ p xs k j,o = .ref p/\i = .int k/\H p = some (.lst xs)/\ixN xs.length k = some j/\Q (upd H p (.lst (xs.set j v)))
theorem set_list:zel X zmS:=by
 intro pins s σ H o i v ov iv u Q I ro ri rv h
 obtain ⟨p,xs,k,j,rfl,rfl,hp,hj,q⟩:=h
 cases ro
 obtain ⟨t,rfl⟩:=ri
 obtain ⟨its,n,r,ho,hz⟩:=I.lst hp
 obtain ⟨h1,h2,h3,h4⟩:=zgt hj
 have hl:=r.length
 have hn:=zaW
 have I':Inv X pins σ (upd H p (.lst (xs.set j v))) { s with heap:=s.heap.update p (Obj.mapSeq (·.setIfInBounds j u)) }:=
  I.lstUpd hp ho (zgZ its n j u) (r.set rv j) (by rw [List.length_set];exact hz) s.toks
 by_cases h0:0<=k
 ·have hk:k.toNat = j:=by
   rw [seqIndex_of h0 h4] at h1
   exact Qa h1
  exact PySem.W.ki_setAt ho h0 (by omega) (by rw [Qf,← hl];exact h4) (by rw [hk];exact ⟨_,I',q⟩)
 ·have hk:(k + (its.toArray.size:Int)).toNat = j:=by
   rw [seqIndex_neg (by omega) h3] at h1
   rw [Qf,← hl]
   exact Qa h1
  exact PySem.W.ki_setBack ho (by omega) (by rw [Qf,← hl];exact h3) (by omega) (by rw [hk];exact ⟨_,I',q⟩)
theorem ze5 (lo hi:Option Int) (n:Nat):(sliceBounds lo hi none n).1 = ((HT.sIx n 0 lo:Nat):Int)/\(sliceBounds lo hi none n).2.1 = ((HT.sIx n n hi:Nat):Int)/\(sliceBounds lo hi none n).2.2 = 1:=by
 refine ⟨?_,?_,rfl⟩
 ·cases lo with
  | none=>simp [sliceBounds,HT.sIx]
  | some i=>
   simp only [sliceBounds,HT.sIx,Option.getD_none,show (1:Int) > 0 by decide,if_true]
   by_cases h:i < 0
   ·simp only [h,if_true] <;> omega
   ·simp only [h,if_false] <;> omega
 ·cases hi with
  | none=>simp [sliceBounds,HT.sIx]
  | some i=>
   simp only [sliceBounds,HT.sIx,Option.getD_none,show (1:Int) > 0 by decide,if_true]
   by_cases h:i < 0
   ·simp only [h,if_true] <;> omega
   ·simp only [h,if_false] <;> omega
theorem zeF (its:List Value) (lo hi:Option Int):slicePick its.toArray lo hi none = ((its.drop (HT.sIx its.length 0 lo)).take (HT.sIx its.length its.length hi - HT.sIx its.length 0 lo)).toArray:=by
 obtain ⟨h1,h2,h3⟩:=ze5 lo hi its.toArray.size
 unfold slicePick
 rw [h1,h2,h3]
 simp only [sliceRange_one,pick_run,Qf] <;> rfl
noncomputable def znI (K:Frag):V->Option Int->Option Int->Hp->VK->Prop:=fun x lo hi H Q=>∃ a xs,x = .ref a/\SqL K H a xs/\∀ p,H p = none->Q (.ref p) (upd H p (.lst (cutV xs lo hi)))
theorem zj2:SlR X (znI X.K):=by
 intro pins s σ H x v vl vu lo hi sl Q I rx hs pl pu h
 obtain ⟨a,xs,rfl,hx,q⟩:=h
 cases rx
 obtain ⟨its,r,ht,hz⟩:=I.list hx
 have hlen:=r.length
 refine ⟨"list",_,slot_list_getitem.lookup,ht.isList.typeIs,?_⟩
 refine wpAny_getItem_list_slice ht.isList hs pl pu .none (by simp) ?_ (by rw [Qf] <;> omega)
 rw [zeF,← hlen]
 refine ⟨.ref s.heap.objs.size,_,I.laid (t':=s.toks) (o:=.lst (cutV xs lo hi)) (fun b ob q=>Q2 _ q) (Q3 _) ?_,rfl,q _ (I.hok.fresh (Q3 _))⟩
 exact ⟨Qg (zcS xs lo hi) hz,_,0,(r.drop (HT.sIx xs.length 0 lo)).take (HT.sIx xs.length xs.length hi - HT.sIx xs.length 0 lo),Qi _ rfl⟩
noncomputable def zM:V->Bool
 | .non=>true
 | .bl _=>true
 | .int _=>true
 | .str _=>true
 | _=>false
noncomputable def eqV:V->V->Bool
 | .non,.non=>true
 | .bl a,.bl b=>a == b
 | .bl a,.int b=>(if a then 1 else 0) == b
 | .int a,.bl b=>a == (if b then 1 else 0)
 | .int a,.int b=>a == b
 | .str a,.str b=>a == b
 | _,_=>false
theorem zfB {A:Around} {v:Value} (ry:RelV y u) (rx:RelV x v) (fy:zM y = true) (fx:zM x = true):SeqAt.EqAt A s u v (eqV y x):=by
 cases y with
 | non=>
  cases ry
  cases x with
  | non=>cases rx;exact SeqAt.EqAt.same _
  | bl b=>cases rx;exact SeqAt.EqAt.none_bool b
  | int b=>obtain ⟨t,rfl⟩:=rx;exact SeqAt.EqAt.none_int b t
  | str b=>obtain ⟨t,rfl⟩:=rx;exact SeqAt.EqAt.none_str b t
  | _=>exact absurd (show false = true from fx) Q4
 | bl a=>
  cases ry
  cases x with
  | non=>cases rx;exact SeqAt.EqAt.bool_none a
  | bl b=>cases rx;exact SeqAt.EqAt.bool_bool a b
  | int b=>obtain ⟨t,rfl⟩:=rx;exact SeqAt.EqAt.bool_int a b t
  | str b=>obtain ⟨t,rfl⟩:=rx;exact SeqAt.EqAt.bool_str a b t
  | _=>exact absurd (show false = true from fx) Q4
 | int a=>
  obtain ⟨t',rfl⟩:=ry
  cases x with
  | non=>cases rx;exact SeqAt.EqAt.int_none a t'
  | bl b=>cases rx;exact SeqAt.EqAt.int_bool a t' b
  | int b=>obtain ⟨t,rfl⟩:=rx;exact SeqAt.EqAt.int_int a t' b t
  | str b=>obtain ⟨t,rfl⟩:=rx;exact SeqAt.EqAt.int_str a t' b t
  | _=>exact absurd (show false = true from fx) Q4
 | str a=>
  obtain ⟨t',rfl⟩:=ry
  cases x with
  | non=>cases rx;exact SeqAt.EqAt.str_none a t'
  | bl b=>cases rx;exact SeqAt.EqAt.str_bool a t' b
  | int b=>obtain ⟨t,rfl⟩:=rx;exact SeqAt.EqAt.str_int a t' b t
  | str b=>obtain ⟨t,rfl⟩:=rx;exact SeqAt.EqAt.str_str a t' b t
  | _=>exact absurd (show false = true from fx) Q4
 | _=>exact absurd (show false = true from fy) Q4
noncomputable def eqU (x:V) (u:Value):Bool:=match u with
 | .none=>eqV .non x
 | .bool b=>eqV (.bl b) x
 | .int i _=>eqV (.int i) x
 | .str z _=>eqV (.str z) x
 | _=>false
theorem zfz (r:RelV y u) (f:zM y = true):eqU x u = eqV y x:=by
 cases y with
 | non=>cases r;rfl
 | bl b=>cases r;rfl
 | int i=>obtain ⟨t,rfl⟩:=r;rfl
 | str z=>obtain ⟨t,rfl⟩:=r;rfl
 | _=>exact absurd (show false = true from f) Q4
theorem zej {x:V}:∀ {xs:List V} {us:List Value},Vals xs us->xs.all zM = true->us.any (eqU x) = xs.any fun y=>eqV y x
 | _,_,.nil,_=>rfl
 | y :: xs,u :: us,.cons r t,f=>by
  rw [all_cons,Qo] at f
  rw [any_cons,any_cons,zfz r f.1,zej t f.2]
theorem zbV {A:Around} {s:Shared} {x:V} {v:Value} (rx:RelV x v) (fx:zM x = true):∀ {xs:List V} {us:List Value},Vals xs us->xs.all zM = true->∀ u ∈ us,SeqAt.EqAt A s u v (eqU x u)
 | _,_,.nil,_=>fun u hu=>by cases hu
 | y :: xs,u :: us,.cons r t,f=>fun u' hu=>by
  rw [all_cons,Qo] at f
  rcases mem_cons.mp hu with rfl | hu
  ·rw [zfz r f.1];exact zfB r rx f.1 fx
  ·exact zbV rx fx t f.2 u' hu
noncomputable def inV (x:V) (xs:List V):Bool:=xs.any fun y=>eqV y x
noncomputable def rIn (K:Frag) (neg:Bool):R2:=fun x y H Q=>∃ p xs,y = .ref p/\(SqL K H p xs\/SqT K H p xs)/\zM x = true/\xs.all zM = true/\Q (.bl (if neg then !inV x xs else inV x xs)) H
theorem zhQ:OpR X (compareOp .In) (rIn X.K false):=by
 intro pins s σ H x y v u Q I rx ry h
 obtain ⟨p,xs,rfl,hq,fx,fs,q⟩:=h
 cases ry
 rcases hq with hq | hq
 ·obtain ⟨its,r,pl,hz⟩:=I.list hq
  refine SeqAt.in_listAt (eqU x) pl.isList (fun w hw=>zbV rx fx r fs w (by simpa using hw)) ⟨.bl _,H,I,rfl,?_⟩
  rw [show its.toArray.any (eqU x) = its.any (eqU x) by simp,zej r fs]
  exact q
 ·obtain ⟨its,r,pl,hz⟩:=I.tuple hq
  refine SeqAt.in_tupleAt (eqU x) pl (fun w hw=>zbV rx fx r fs w (by simpa using hw)) ⟨.bl _,H,I,rfl,?_⟩
  rw [show its.toArray.any (eqU x) = its.any (eqU x) by simp,zej r fs]
  exact q
theorem zfK:CallR X (.builtin "len") (fun xs H Q=>∃ p ys,xs = [.ref p]/\(SqL X.K H p ys\/SqT X.K H p ys)/\Q (.int ys.length) H):=by
 intro pins s σ H xs us Q I r h
 obtain ⟨p,ys,rfl,hq,q⟩:=h
 obtain ⟨u,rfl,rx⟩:=vals1 r
 cases rx
 have hn:=zaW
 rcases hq with hq | hq
 ·obtain ⟨its,r',pl,hz⟩:=I.list hq
  have hlen:=r'.length
  exact Calls.call_len_list pl.isList (by simp only [Qf] <;> omega) ⟨.int ys.length,H,I.tok _,⟨s.toks + 1,by rw [Qf,hlen]⟩,q⟩
 ·obtain ⟨its,r',pl,hz⟩:=I.tuple hq
  have hlen:=r'.length
  exact len_tuple pl (by simp only [Qf] <;> omega) ⟨.int ys.length,H,I.tok _,⟨s.toks + 1,by rw [Qf,hlen]⟩,q⟩
theorem zfJ:CallR X (.builtin "len") (fun xs H Q=>∃ z,xs = [.str z]/\z.length<=sizeLine/\Q (.int z.length) H):=by
 intro pins s σ H xs us Q I r h
 obtain ⟨z,rfl,hz,q⟩:=h
 obtain ⟨u,rfl,t,rfl⟩:=vals1 r
 have hn:=zaW
 exact len_str (by omega) ⟨.int z.length,H,I.tok _,⟨_,rfl⟩,q⟩
theorem zeJ:CallR X (.type "tuple") (fun xs H Q=>∃ p ys,xs = [.ref p]/\((SqL X.K H p ys/\∀ l,H l = none->Q (.ref l) (upd H l (.tup ys)))\/(SqT X.K H p ys/\Q (.ref p) H))):=by
 intro pins s σ H xs us Q I r h
 obtain ⟨p,ys,rfl,h⟩:=h
 obtain ⟨u,rfl,rx⟩:=vals1 r
 cases rx
 rcases h with ⟨hq,q⟩ | ⟨hq,q⟩
 ·obtain ⟨its,r',pl,hz⟩:=I.list hq
  have hlen:=r'.length
  refine call_tuple_list pl.isList (fun h' kp=>?_) (by simp only [Qf] <;> omega)
  have I1:Inv X pins σ H { s with heap:=h' }:=I.kept (t':=s.toks) kp
  have I2:Inv X pins σ (upd H h'.objs.size (.tup ys)) { s with heap:=h'.push { cls:=.type "tuple",data:=.seq its.toArray } }:=
   I1.laid (t':=s.toks) (fun b o e=>Q2 _ e) (Q3 _) (show ObjOk X.prog X.w _ _ _ (.tup ys) from ⟨hz,its,r',IsTup.new _ _,NoDict.new⟩)
  exact ⟨.ref h'.objs.size,_,I2,rfl,q _ (I1.hok.fresh (Q3 _))⟩
 ·obtain ⟨its,r',pl,hz⟩:=I.tuple hq
  exact call_tuple_same pl ⟨.ref p,H,I,rfl,q⟩
def tyV (K:Frag) (T:String) (x:V) (H:Hp):Prop:=match x with
 | .str _=>T = "str"
 | .int _=>T = "int"
 | .ref p=>(T = "list"/\∃ xs,SqL K H p xs)\/(T = "tuple"/\∃ o,K.lookup p = some o/\o.cls = .type "tuple"/\o.dict = none) \/
   (T = "dict"/\((∃ kvs,Rd H p (.dK kvs))\/∃ kvs,H p = some (.dT kvs)))\/(T = "set"/\∃ S n,H p = some (.set S n))
 | _=>False
theorem zhy {pins:List (Addr × Obj)} {σ:St} {H:Hp} {s:Shared} {T:String} {x:V} {v:Value} (I:Inv X pins σ H s) (r:RelV x v) (ty:tyV X.K T x H) :
  s.TypeIs v T/\∀ a,v = .ref a->∃ ob,s.heap.get? a = some ob/\ob.dict = none:=by
 cases x with
 | str z=>
  obtain ⟨t,rfl⟩:=r
  cases (show T = "str" from ty)
  exact ⟨typeIs_str s z t,fun _ e=>nomatch e⟩
 | int i=>
  obtain ⟨t,rfl⟩:=r
  cases (show T = "int" from ty)
  exact ⟨typeIs_int s i t,fun _ e=>nomatch e⟩
 | ref p=>
  cases r
  rcases ty with ⟨rfl,xs,hq⟩ | ⟨rfl,o,hk,hc,hd⟩ | ⟨rfl,hk⟩ | ⟨rfl,S,n,hk⟩
  ·obtain ⟨its,_,pl,_⟩:=I.list hq
   refine ⟨pl.isList.typeIs,fun a e=>?_⟩
   cases e
   obtain ⟨o,n,e,c,hd,_⟩:=pl
   exact ⟨o,e,hd⟩
  ·refine ⟨⟨o,I.kIn p o hk,hc⟩,fun a e=>?_⟩
   cases e
   exact ⟨o,I.kIn _ o hk,hd⟩
  ·have z:∃ o,s.heap.get? p = some o/\o.ExactDict:=by
    rcases hk with ⟨kvs,hk⟩ | ⟨kvs,hk⟩
    ·obtain ⟨_,_,_,_,o,_,_,e,ex,_⟩:=(show ObjOk X.prog X.w H s.heap p (.dK kvs) from hk.ok I.hok)
     exact ⟨o,e,ex⟩
    ·obtain ⟨_,_,_,_,o,_,_,e,ex,_⟩:=I.hok p _ hk
     exact ⟨o,e,ex⟩
   obtain ⟨o,e,ex⟩:=z
   refine ⟨⟨o,e,ex.1⟩,fun a e2=>?_⟩
   cases e2
   exact ⟨o,e,ex.2.1⟩
  ·obtain ⟨o,_,_,_,e,ex,_⟩:=I.hok p _ hk
   refine ⟨⟨o,e,ex.1⟩,fun a e2=>?_⟩
   cases e2
   exact ⟨o,e,ex.2.1⟩
 | _=>exact False.elim ty
noncomputable def tBM (K:Frag) (T:String) (r:V->List V->Hp->VK->Prop) (to:TE) (t:TA):TE:=fun σ H Q=>to σ H fun x H1=>tyV K T x H1/\t σ H1 fun xs H2=>r x xs H2 Q
variable {o:Expr} {es:List Expr} {to:TE} {t:TA} {name:Str} {apos cpos:Pos} {T id:String} {r:V->List V->Hp->VK->Prop}
theorem yO (pa:PlainAttrs T) (slot:Slot T name id) (hty:typeOf (.builtin id) = pure (.type "method_descriptor")) (hm:MtR X id r) (ho:PE X o to) (ha:PA X (e :: es) t)
  (hbase:attributeBase o name X.env (eval o X.env) = eval o X.env:=by rfl)
  (hfew:((backTo cpos (starEach (e :: es) X.env)).all (fun x=>!x.1) && (backToKw cpos (keywordEach [] X.env)).all (fun x=>x.1.isSome)
   && decide ((e :: es).length + ([]:List Keyword).length + (if ([]:List Keyword).isEmpty then 0 else 1) < 30)) = true:=by rfl)
  (hline:(apos.endLine == cpos.line) = true:=by rfl) (hs:starEach (e :: es) X.env = (false,eval e X.env) :: starEach es X.env:=by rfl) (hplain:(backTo cpos (starEach es X.env)).any (·.1) = false:=by rfl) :
  PE X (.Call (.Attribute o name apos) (e :: es) [] cpos) (tBM X.K T r to t):=by
 intro pins s σ H Q I h
 refine wpAny_Call_method_late hbase hfew hline rfl (thn (ho pins s σ H _ I h) fun v s1 ⟨x,H1,I1,r1,ty,q1⟩=>?_)
 obtain ⟨h1,h2⟩:=zhy I1 r1 ty
 refine ⟨T,id,pa,slot,hty,h1,h2,?_⟩
 have hA:=ha cpos pins s1 σ H1 _ I1 q1
 rw [hs] at hA ⊢
 refine Calls.callWith_builtin (by show (false || (backTo cpos (starEach es X.env)).any (·.1)) = false;rw [hplain] <;> rfl) (Calls.evalArgs_plain ?_)
 exact thn hA fun us s2 ⟨vs,H2,I2,r2,q2⟩=>hm pins s2 σ H2 x vs v us Q I2 r1 r2 q2
end
def MtM (X:Cx) (id:String) (r:V->List V->Hp->VK->Prop):Prop:=
 ∀ (pins:List (Addr × Obj)) (s:Shared) (σ:St) (H:Hp) (x:V) (xs:List V) (v:Value) (us:List Value) (Q:VK),Inv X pins σ H s->RelV x v->Vals xs us->r x xs H Q->
  wpAny (model X.prog X.w) X.A (call (.builtin id) (v :: us)) (EP X pins σ Q) X.xe s
theorem Vals.one:∀ {x:V} {us:List Value},Vals [x] us->∃ u,us = [u]/\RelV x u
 | _,_,.cons r .nil=>⟨_,rfl,r⟩
theorem Vals.two:∀ {x y:V} {us:List Value},Vals [x,y] us->∃ u v,us = [u,v]/\RelV x u/\RelV y v
 | _,_,_,.cons r (.cons q .nil)=>⟨_,_,rfl,r,q⟩
theorem Vals.zero:∀ {us:List Value},Vals [] us->us = []
 | _,.nil=>rfl
theorem Vals.eraseIdx:∀ {xs:List V} {us:List Value} (i:Nat),Vals xs us->Vals (xs.eraseIdx i) (us.eraseIdx i)
 | _,_,_,.nil=>.nil
 | _,_,0,.cons _ t=>t
 | _,_,i + 1,.cons r t=>.cons r (Vals.eraseIdx i t)
theorem Vals.rep {xs:List V} {us:List Value} (h:Vals xs us):∀ k:Nat,Vals (List.replicate k xs).flatten (List.replicate k us).flatten
 | 0=>.nil
 | k + 1=>by
  rw [replicate_succ,replicate_succ,flatten_cons,flatten_cons]
  exact Vals.append h (Vals.rep h k)
theorem foldl_rep (its:List Value):∀ (k:Nat) (acc:List Value),
  List.foldl (fun x1 x2=>x1 ++ x2) acc.toArray (List.replicate k its.toArray) = (acc ++ (List.replicate k its).flatten).toArray
 | 0,acc=>by simp
 | k + 1,acc=>by
  have e:acc.toArray ++ its.toArray = (acc ++ its).toArray:=by simp
  have e2:(acc ++ its) ++ (List.replicate k its).flatten = acc ++ (List.replicate (k + 1) its).flatten:=by
   rw [replicate_succ,flatten_cons,append_assoc]
  rw [← e2,← foldl_rep its k (acc ++ its),← e,replicate_succ,foldl_cons]
variable {t':Nat}
section
variable {l b:Addr} {zs:List V}
theorem Inv.lset {f:Array Value->Array Value} {t':Nat} (I:Inv X pins σ H s) (hH:H l = some (.lst xs))
 (e:s.heap.get? l = some { cls:=.type "list",data:=.seq its.toArray n }) (hf:f its.toArray = its'.toArray) (hv:Vals ys its') (hz:ys.length<=sizeLine) :
  Inv X pins σ (upd H l (.lst ys)) { s with heap:=s.heap.update l (Obj.mapSeq f),toks:=t' }:=by
 have q:=PySem.IsL.update e f
 rw [hf] at q
 refine I.write (x:=l) (e:=l) (by rw [hH];exact trivial) (.inl rfl) (fun b' u hb hu=>(Heap.get?_update_other s.heap (Obj.mapSeq f) (Ne.symm hb)).trans hu) ⟨_,q⟩ ?_
 exact ⟨hz,its',_,hv,q⟩
theorem Inv.lnew {t':Nat} (I:Inv X pins σ H s) (hv:Vals ys its) (hz:ys.length<=sizeLine) :
  Inv X pins σ (upd H s.heap.objs.size (.lst ys)) { s with heap:=s.heap.push { cls:=.type "list",data:=.seq its.toArray },toks:=t' }:=
 I.laid (fun _ _ q=>Q2 _ q) (Q3 _) ⟨hz,its,0,hv,Qi _ rfl⟩
theorem Inv.fresh (I:Inv X pins σ H s):H s.heap.objs.size = none:=I.hok.fresh (Q3 _)
theorem Inv.lstM (I:Inv X pins σ H s) (hH:H l = some (.lst xs)):xs.length<=sizeLine/\∃ (its:List Value) (n:Nat),Vals xs its/\xs.length = its.length/\s.heap.get? l = some { cls:=.type "list",data:=.seq its.toArray n }:=by
 obtain ⟨z,its,n,r,e⟩:=I.hok l _ hH
 exact ⟨z,its,n,r,r.length,e⟩
theorem zi5 (h:n<=sizeLine):Builtin.List.listTooLong n = false:=by
 unfold Builtin.List.listTooLong
 exact Qr (by omega)
end
section
noncomputable def zdU:V->List V->Hp->VK->Prop:=fun x vs H Q=>∃ l xs y,x = .ref l/\vs = [y]/\H l = some (.lst xs)/\xs.length < sizeLine/\Q .non (upd H l (.lst (xs ++ [y])))
theorem qX:MtM X "list.append" zdU:=by
 intro pins s σ H x vs v us Q I rx rv h
 obtain ⟨l,xs,y,rfl,rfl,hH,hz,q⟩:=h
 cases rx
 obtain ⟨u,rfl,ru⟩:=rv.one
 obtain ⟨z,its,n,r,hl,e⟩:=I.lstM hH
 refine call_meets F.slot_list_append ⟨_,e,rfl⟩ F.entry_list_append (F.args_list_append_2 _ _) (PySem.list_append l its.toArray n u (by rw [Qf];omega)) ⟨e,?_⟩
 refine ⟨.non,_,I.lset (its':=its ++ [u]) hH e (by simp) (r.append (.cons ru .nil)) ?_,rfl,q⟩
 rw [Qk,length_singleton]
 omega
theorem len_rep {α:Type} (xs:List α) (k:Nat):(List.replicate k xs).flatten.length = k * xs.length:=by
 induction k with
 | zero=>simp
 | succ k ih=>rw [replicate_succ,flatten_cons,Qk,ih,Nat.succ_mul,Nat.add_comm]
end
end L2
namespace Att
open PySem PySem.W PySem.Calls PyProof.Rows
variable {h:Heap} {P:Params}
theorem zdv:∀ (ns:List Int) (vs:List Value),WellAll P h vs (ns.map WData.int)->IntsAre vs ns:=by
 intro ns
 induction ns with
 | nil=>
  intro vs w
  rw [map_nil] at w
  cases w
  exact .nil
 | cons n ns ih=>
  intro vs w
  rw [map_cons] at w
  cases w with
  | cons a b=>
   cases a
   exact .cons _ _ (ih _ b)
variable {n:Nat} {l:OpenLaw}
theorem zhD (hn:l.most = some n) {args:List WData} {vals:List Value}
 (hpre:l.row.toRowW.claim.pre args = true) (hwl:WellAll P h vals args) :
  ∃ a vs ns,vals = [Value.ref a]/\args = [WData.list (ns.map WData.int)]/\h.get? a = some { cls:=.type "list",data:=.seq vs.toArray }/\IntsAre vs ns/\ns.length<=n:=by
 have hsh:WShape.hasAll [] args [.list .int] = true:=(pre_splitW hpre).1
 have hc:l.pre.holds [] { args:=args } = true:=(pre_splitW hpre).2
 obtain ⟨d,r,rfl,h1,h2⟩:=hasAllW_cons hsh
 obtain rfl:=hasAllW_nil h2
 obtain ⟨xs,rfl,h3⟩:=hasW_list h1
 obtain ⟨ns,rfl⟩:=items_int h3
 have hlen:ns.length<=n:=by
  unfold OpenLaw.pre at hc
  have h4:(WTm.not (.lt (.lit (.int (n:Int))) (.len (.arg 0)))).holds [] { args:=[.list (ns.map .int)] } = true:=by
   have h4:=(holds_andW hc).1
   rw [hn] at h4
   exact h4
  have h5:=condW_of h4 (w_not (w_lt w_lit (w_len_list (w_arg rfl))))
  rw [Qe] at h5
  refine Nat.le_of_not_lt fun q=>?_
  have q':(n:Int) < ((ns.length:Nat):Int):=by omega
  first
   | (rw [Qq q'] at h5;exact absurd h5 (by decide))
   | (simp at h5;omega)
 cases hwl with
 | cons w1 w2=>
  cases w2
  cases w1 with
  | list ho hall=>exact ⟨_,_,ns,rfl,rfl,ho,zdv ns _ hall,hlen⟩
theorem zhJ (l:OpenLaw) (args:List WData):l.row.toRowW.claim.post args (.bool true) args = true:=
 postW_of (r:=l.row.toRowW) (X:=(true == true))
  (show WShape.has [] (.bool true) .bool = true by first | rfl | decide | simp [WShape.has,WShape.arms,WShape.armsAll])
  (show (WTm.eq .res (.lit (.bool true))).value [] { args:=args,res:=some (.bool true),after:=args } = some (.bool (true == true)) from w_eq_bool (w_res rfl) w_lit) rfl
theorem zf6 {q:Program} {loose:List Str} {XP:(Str->Option Value)->Heap->Prop} {YP:World->Heap->Prop} {d:DefRec}
 (hn:l.most = some n) (hdf:d.params.defaults = [])
 (call:∀ (w:World) (s₀ s₁:Shared) (mg mb:Str->Option Value) (fa:Addr) (o:Obj) (pm cd doc:Value) (a:Addr) (vs:List Value) (ns:List Int),
 Ground q loose [] XP w s₀ mg mb s₁.heap->YP w s₁.heap->
 s₁.heap.get? fa = some o->o.data = .func (docDef d.name d.params d.body d.scope pm cd doc)->s₁.heap.CodeRec cd d.name->mg d.name = some (.ref fa)->
 s₁.heap.get? a = some { cls:=.type "list",data:=.seq vs.toArray }->IntsAre vs ns->ns.length<=n->s₁.gens = #[]->
 codeAny (model l.prog w) callerA (.call (.ref fa) ⟨[.ref a],[]⟩) (fun r s'=>r = .ok (.ret (.bool true))/\OldK s₁.heap s'.heap/\s'.os = s₁.os/\AllBare s'.gens) s₁) :
  WalkO q loose XP YP l.row.toRowW d [] (fun f vs=>PySem.call f vs):=by
 intro w s₀ s₁ mg mb G Y fa o pm cd doc dV kV ho hd hcd hD hmg hg args vals as hpre hlay hrd hwl hlo
 obtain rfl:dV = .none:=Dflts.none hD hdf
 obtain rfl:kV = .none:=Dflts.noKw hD
 obtain ⟨a,vs,ns,rfl,rfl,hobj,hints,hlen⟩:=zhD hn hpre hwl
 refine enter_call (codeAny_mono (call w s₀ s₁ mg mb fa o pm cd doc a vs ns G Y ho (fd_plain hd) hcd hmg hobj hints hlen hg) fun r s' hq=>?_)
 obtain ⟨rfl,h2,h3,h4⟩:=hq
 exact ⟨.inl ⟨.bool true,.bool true,[],rfl,fun _=>rfl,.bool true,zhJ l _,fun _=>⟨List.Pairwise.nil,fun _ hm=>(nomatch hm)⟩⟩,h2,h3,h4⟩
end Att
namespace L2
open PySem PySem.Spec PyProof.Rows
theorem zep:∀ {vs:List Value} {ns:List Int},IntsAre vs ns->Vals (ns.map V.int) vs
 | _,_,.nil=>.nil
 | _,_,.cons n t h=>.cons ⟨t,rfl⟩ (zep h)
def zhr (H:Hp):Prop:=∀ b,H b = none\/∃ o xs,H b = some (.frz o (.lst xs))
variable {CX:CXT} {fd:FuncData} {P:Program} {sp:Sp} {x:Str} {mg:Str->Option Value} {w:World}
theorem zi9 {K:Frag} {mb:Str->Option Value} {k:Nat} {fa a:Addr} {s₁:Shared} {vs:List Value} {ns:List Int}
 (KX:K.In s₁.heap) (hns:s₁.heap.Ns mainGlobals mg) (hb:s₁.heap.Ns builtinsNs mb) (hbb:∀ x:Str,x ≠ "__name__"->mb x = bootBuiltins x) (hlim:s₁.heap.NoLimit) (hg:s₁.gens = #[])
 (ha:s₁.heap.get? a = some { cls:=.type "list",data:=.seq vs.toArray }) (hi:IntsAre vs ns) (hl:ns.length<=sizeLine) (hr:Room k callerA)
 (F:∀ base:Heap,K.In base->base.Ns mainGlobals mg->FnOk P w K mg base CX k fa fd [x] sp) (hbind:∀ (s:Shared) (u:Value),BindsTo s fd ⟨[u],[]⟩ [(x,u)])
 (hsp:∀ H:Hp,zhr H->SqL K H a (ns.map V.int)->sp [.ref a] H (fun v _=>v = .bl true) fun _ _ _=>False)
 (hCX:∀ H e s',CX [] H s₁ (fun _ _ _=>False) e s'->False) :
  codeAny (model P w) callerA (.call (.ref fa) ⟨[.ref a],[]⟩) (fun r s'=>r = .ok (.ret (.bool true))/\OldK s₁.heap s'.heap/\s'.os = s₁.os/\AllBare s'.gens) s₁:=by
 have rv:=zep hi
 have lenV:=hi.length
 -- from an abstract heap in which nothing but the script may be tracked
 have core:∀ H:Hp,zhr H->SqL K H a (ns.map V.int)->HOk P w H s₁.heap->(∀ b,H b ≠ none->b = a)->(H a ≠ none->K.lookup a = none)->
   codeAny (model P w) callerA (.call (.ref fa) ⟨[.ref a],[]⟩) (fun r s'=>r = .ok (.ret (.bool true))/\OldK s₁.heap s'.heap/\s'.os = s₁.os/\AllBare s'.gens) s₁:=by
  intro H hO hS hok hA hK
  have base_of:∀ {b:Addr} {o:Obj},s₁.heap.get? b = some o->H b = none->(zbZ s₁.heap H).get? b = some o:=fun e n=>zje e n
  have noA:∀ {b:Addr} {o:Obj} {es:Array DictEntry} {ep:Nat},s₁.heap.get? b = some o->o.data = .dict es ep->H b = none:=fun {b o es ep} e d=>by
   cases q:H b with
   | none=>rfl
   | some u=>
    have e':b = a:=hA b (by rw [q];simp)
    subst e'
    rw [ha] at e;cases e
    have d':Data.seq vs.toArray _ = Data.dict es ep:=d
    cases d'
  have nsK:∀ {b:Addr} {m:Str->Option Value},s₁.heap.Ns b m->(zbZ s₁.heap H).Ns b m:=fun {b m} ⟨o,es,ep,e,d,r⟩=>⟨o,es,ep,base_of e (noA e d),d,r⟩
  have hKb:K.In (zbZ s₁.heap H):=fun b o e=>base_of (KX b o e) (by
   cases q:H b with
   | none=>rfl
   | some u=>
    have e':b = a:=hA b (by rw [q];simp)
    subst e'
    rw [hK (by rw [q];simp)] at e;cases e)
  have hM:Mod K mg (zbZ s₁.heap H):=⟨hKb,nsK hns,⟨mb,nsK hb,hbb⟩,let ⟨mc,h1,h2⟩:=hlim;⟨mc,nsK h1,h2⟩⟩
  have e0:Env0 P w K mg (zbZ s₁.heap H) callerA [] s₁ H:=⟨rfl,hM,fun b o e=>zkz e,Nat.le_of_eq (zh5 _ _),trivial,fun b hb=>absurd (show b ∈ ([]:List Addr) from hb) (by simp),hok,.of_eq hg⟩
  refine codeAny_mono ((F _ hKb (nsK hns)).run callerA [] s₁ H ⟨[.ref a],[]⟩ [.ref a] [.ref a] _ _ hr e0 (hbind s₁ (.ref a)) (.cons rfl .nil) (hsp H hO hS)) fun r s' h=>?_
  cases r with
  | error e=>exact (hCX H e s' h).elim
  | ok fl=>
   cases fl with
   | next=>exact False.elim h
   | brk=>exact False.elim h
   | cont=>exact False.elim h
   | ret u=>
    obtain ⟨v,H',os,bare,un,hok',r',q⟩:=h
    have q':v = .bl true:=q
    subst q'
    obtain rfl:u = Value.bool true:=r'
    refine ⟨rfl,OldK.of_keep fun b o e=>?_,os,bare⟩
    cases q:H b with
    | none=>exact un.keep b o e q (by intro z;exact absurd (show b ∈ ([]:List Addr) from z) (by simp)) (by simp)
    | some u=>
     rcases hO b with z | ⟨ob,xs,z⟩
     ·rw [q] at z;cases z
     ·have z2:=un.frzs b ob _ z
      obtain ⟨e1,_⟩:=hok b _ z
      obtain ⟨e2,_⟩:=hok' b _ z2
      rw [e] at e1;cases e1
      exact e2
 cases hk:K.lookup a with
 | some o=>
  -- the script is one of the module's own objects
  have e:=KX a o hk
  rw [ha] at e
  cases e
  refine core (fun _=>none) (fun _=>.inl rfl) (.inr ⟨_,vs.toArray,_,hk,rfl,rfl,rfl,by rw [Qf,lenV];exact hl,by simpa using rv⟩) (fun b u z=>by have z':(none:Option HO) = some u:=z;cases z') (fun b z=>absurd rfl z) fun z=>absurd rfl z
 | none=>
  refine core (fun b=>if b = a then some (.frz { cls:=.type "list",data:=.seq vs.toArray } (.lst (ns.map V.int))) else none) (fun b=>?_) (.inl (.inr ⟨{ cls:=.type "list",data:=.seq vs.toArray },if_pos rfl⟩)) (fun b u z=>?_) (fun b z=>?_) fun _=>hk
  ·by_cases hb:b = a
   ·exact .inr ⟨_,_,if_pos hb⟩
   ·exact .inl (if_neg hb)
  ·by_cases hb:b = a
   ·have z':=(if_pos hb).symm.trans z
    cases z'
    subst hb
    exact ⟨ha,by rw [Qe];exact hl,vs,_,rv,ha⟩
   ·have z':=(if_neg hb).symm.trans z
    cases z'
  ·by_cases hb:b = a
   ·exact hb
   ·exact absurd (if_neg hb) z
noncomputable abbrev KOf {K:Frag} {h:Heap} (_:K.In h):Frag:=K
variable {XP:(Str->Option Value)->Heap->Prop} {d:DefRec} {loose:List Str} {n:Nat} {q:Program} {l:PySem.W.OpenLaw} {YP:World->Heap->Prop}
theorem zjT {k:Nat} {K:Params->Frag} {CX:World->CXT} {sp:World->Sp} 
 (hn:l.most = some n) (hn2:n<=sizeLine) (hdf:d.params.defaults = []) (hr:Room k callerA)
 (hY:∀ (w:World) (h:Heap),YP w h->(K w.params).In h)
 (F:∀ (w:World) (mg:Str->Option Value) (fa:Addr) (h:Heap),(K w.params).In h->h.Ns mainGlobals mg->mg d.name = some (.ref fa)->
 ∃ fd:FuncData,(∀ (s:Shared) (u:Value),BindsTo s fd ⟨[u],[]⟩ [(x,u)]) /\
 ∀ base:Heap,(K w.params).In base->base.Ns mainGlobals mg->FnOk l.prog w (K w.params) mg base (CX w) k fa fd [x] (sp w))
 (hsp:∀ (w:World) (H:Hp) (a:Addr) (ns:List Int),ns.length<=n->zhr H->SqL (K w.params) H a (ns.map V.int)->sp w [.ref a] H (fun v _=>v = .bl true) fun _ _ _=>False)
 (hCX:∀ (w:World) (H:Hp) (s:Shared) (e:Value) (s':Shared),CX w [] H s (fun _ _ _=>False) e s'->False) :
  PySem.W.WalkO q loose XP YP l.row.toRowW d [] (fun f vs=>PySem.call f vs):=by
 refine Att.zf6 hn hdf fun w s₀ s₁ mg mb fa o pm cd doc a vs ns G Y ho hd hcd hmg hobj hints hlen hg=>?_
 have KX:=hY w _ Y
 obtain ⟨fd,hb,hF⟩:=F w mg fa _ KX G.T.g hmg
 exact zi9 KX G.T.g G.T.b G.T.builtins G.T.nolimit hg hobj hints (Qg hlen hn2) hr hF hb (fun H hO hS=>hsp w H a ns hlen hO hS) fun H e s'=>hCX w H s₁ e s'
theorem ziH {k:Nat} {K:Params->Frag} {sp:Frag->Sp} 
 (hn:l.most = some n) (hn2:n<=sizeLine) (hdf:d.params.defaults = []) (hr:Room k callerA)
 (hY:∀ (w:World) (h:Heap),YP w h->(K w.params).In h)
 (F:∀ (w:World) (mg:Str->Option Value) (fa:Addr) (h:Heap),(K w.params).In h->h.Ns mainGlobals mg->mg d.name = some (.ref fa)->
 ∃ fd:FuncData,(∀ (s:Shared) (u:Value),BindsTo s fd ⟨[u],[]⟩ [(x,u)]) /\
 ∀ base:Heap,(K w.params).In base->base.Ns mainGlobals mg->FnOk l.prog w (K w.params) mg base CX k fa fd [x] (sp (K w.params)))
 (hsp:∀ (K:Frag) (H:Hp) (a:Addr) (ns:List Int),ns.length<=n->zhr H->SqL K H a (ns.map V.int)->sp K [.ref a] H (fun v _=>v = .bl true) fun _ _ _=>False)
 (hCX:∀ (H:Hp) (s:Shared) (e:Value) (s':Shared),CX [] H s (fun _ _ _=>False) e s'->False) :
  PySem.W.WalkO q loose XP YP l.row.toRowW d [] (fun f vs=>PySem.call f vs):=
 zjT (K:=K) (CX:=fun _=>CX) (sp:=fun w=>sp (K w.params)) hn hn2 hdf hr hY F (fun w H a ns h1 h2 h3=>hsp (K w.params) H a ns h1 h2 h3) fun _ H s e s'=>hCX H s e s'
noncomputable def zY (s:Stmt):Arguments:=match s with
 | .FunctionDef _ a _ _ _ _ _ _ _ _=>a
 | _=>{ posonlyargs:=[],args:=[],vararg:=none,kwonlyargs:=[],kw_defaults:=[],kwarg:=none,defaults:=[] }
noncomputable def zx (s:Stmt):List Stmt:=match s with
 | .FunctionDef _ _ b _ _ _ _ _ _ _=>b
 | _=>[]
noncomputable def ze (s:Stmt):Scope:=match s with
 | .FunctionDef _ _ _ _ _ _ sc _ _ _=>sc
 | _=>{ kind:=.function,names:=[],isGenerator:=false,isCoroutine:=false }
noncomputable abbrev CX0:CXT:=fun _ _ _ _ _ _=>False
noncomputable abbrev E0:XK:=fun _ _ _=>False
variable {X:Cx}
theorem zm3:Passes CX0 X E0:=fun _ _ _ _ _ _ _ h=>h.elim
structure Fun (K:Frag) (x qual:Str) (st:Stmt) (f:Addr) (fd:FuncData):Prop where
 ex:∃ (oc:Value) (od:Option Addr) (kV doc pm:Value) (an:Option Addr) (cdv ct:Value) (osl:Array (Option Value)),
  fd = PySem.W.fnOf x qual (zY st) (zx st) (ze st) .none kV doc pm an cdv ct/\K.lookup f = some ⟨oc,od,.func fd,osl⟩/\PySem.W.codeIn K cdv qual = true
 kp:PySem.W.keepIn K (.ref f) = true
variable {f:Addr} {ps:List Str} {st:Stmt} {qual:Str}
section
variable {K:Frag} {base:Heap}
theorem Fun.ok {N:List Str} {k:Nat} (F:Fun K x qual st f fd) (S:FnScope N ps (ze st)) (len:∀ vs H Q E,sp vs H Q E->vs.length = ps.length)
 (hbody:∀ (cdv:Value) (A:Around) (outer:List Env) (s:Shared) (H:Hp) (vs:List V) (Q:VK) (E:XK),Room k (A.deeper (envOfC qual (ze st) s.heap.objs.size f cdv))->sp vs H Q E->
 ∃ t,PSs (zad CX0 P w K mg base N qual (ze st) f cdv A outer s H E).nox (zx st) t/\t { nx:=fun _ H'=>Q .non H',rt:=Q } (start N vs) H):FnOk P w K mg base CX0 (k + 1) f fd ps sp:=by
 obtain ⟨oc,od,kV,doc,pm,an,cdv,ct,osl,rfl,lk,hcd⟩:=F.ex
 refine zjI lk hcd S len fun A outer s H vs Q E hr hsp=>?_
 obtain ⟨t,h,q⟩:=hbody cdv A outer s H vs Q E hr hsp
 exact ⟨t,h.nox,q⟩
theorem Fun.binds (F:Fun K x qual st f fd)
 (h:∀ (kV doc pm:Value) (an:Option Addr) (cdv ct:Value) (us:List Value),us.length = ps.length->bindArgs (PySem.W.fnOf x qual (zY st) (zx st) (ze st) .none kV doc pm an cdv ct) ⟨us,[]⟩ = pure (ps.zip us)):Binds K fd ps []:=by
 obtain ⟨oc,od,kV,doc,pm,an,cdv,ct,osl,rfl,lk,hcd⟩:=F.ex
 exact .all (h kV doc pm an cdv ct)
theorem zib {oc:Value} {od an:Option Addr} {osl:Array (Option Value)} {kV doc pm cdv ct:Value} (l:K.lookup f = some ⟨oc,od,.func (PySem.W.fnOf x qual (zY st) (zx st) (ze st) .none kV doc pm an cdv ct),osl⟩)
 (c:PySem.W.codeIn K cdv qual = true) (k:PySem.W.keepIn K (.ref f) = true):Fun K x qual st f (PySem.W.fnOf x qual (zY st) (zx st) (ze st) .none kV doc pm an cdv ct):=⟨⟨oc,od,kV,doc,pm,an,cdv,ct,osl,rfl,l,c⟩,k⟩
end
section
theorem pv (i:Nat) {pos:Pos} (hN:X.N[i]? = some x:=by rfl) (hv:Vis X.env.scope x:=by first | exact Or.inl rfl | exact Or.inr (Or.inl rfl) | exact Or.inr (Or.inr rfl)) (hd:(x == ("__debug__":Str)) = false:=by decide)
 (hcd:(x == ("__classdict__":Str)) = false:=by decide):PE X (.Name x pos) (zgK i):=zlM hN hv hd hcd
end
def Same (H H':Hp):Prop:=∀ b o,H b = some o->H' b = some o
end L2
set_option maxHeartbeats 4000000
namespace L2
open PySem PySem.Spec PyProof.Rows
variable {o:Option V} {y:V} {u:Value}
section
variable {κ:Type} [DecidableEq κ]
noncomputable def qN (kvs:List (κ × V)) (k:κ):Option V:=(kvs.find? fun kv=>decide (kv.1 = k)).map (·.2)
noncomputable def putK (kvs:List (κ × V)) (k:κ) (v:V):List (κ × V):=
 if (kvs.any fun kv=>decide (kv.1 = k)) = true then kvs.map (fun kv=>if kv.1 = k then (kv.1,v) else kv) else kvs ++ [(k,v)]
noncomputable def zoF (kvs:List (κ × V)) (k:κ):List (κ × V):=kvs.filter fun kv=>decide (kv.1 ≠ k)
theorem zc0 {p:κ × V} {r:List (κ × V)} {k:κ} (e:p.1 = k):qN (p :: r) k = some p.2:=by simp [qN,find?_cons,e]
theorem zc1 {p:κ × V} {r:List (κ × V)} {k:κ} (e:¬ p.1 = k):qN (p :: r) k = qN r k:=by simp [qN,find?_cons,e]
theorem ze1 (k:κ):∀ kvs:List (κ × V),(kvs.any fun kv=>decide (kv.1 = k)) = (qN kvs k).isSome
 | []=>rfl
 | p :: r=>by
  rw [any_cons]
  by_cases e:p.1 = k
  ·simp only [zc0 e,Qq e,Bool.true_or,Option.isSome_some]
  ·rw [zc1 e,Qr e,Bool.false_or];exact ze1 k r
theorem zbo (kvs:List (κ × V)) (k:κ) (v:V):(putK kvs k v).length<=kvs.length + 1:=by
 unfold putK
 split
 ·rw [Qe];omega
 ·rw [Qk,Qm,length_nil];omega
theorem RelO.isSome_eq {u:Option Value} (r:RelO o u):o.isSome = u.isSome:=by
 cases o with
 | none=>cases u with
  | none=>rfl
  | some _=>exact (show False from r).elim
 | some _=>cases u with
  | none=>exact (show False from r).elim
  | some _=>rfl
theorem KV.val {kvs:List (κ × V)} {vs:List (κ × Value)} (r:KV kvs vs) (k:κ):RelO (qN kvs k) (valueAt vs k):=by
 unfold KV at r
 induction r with
 | nil=>exact True.intro
 | @cons p q ps qs h t ih=>
  obtain ⟨h1,h2⟩:=h
  by_cases e:p.1 = k
  ·have e':q.1 = k:=h1.symm.trans e
   have b:valueAt (q :: qs) k = some q.2:=by simp [valueAt,find?_cons,e']
   rw [zc0 e,b];exact h2
  ·have e':¬ q.1 = k:=fun z=>e (h1.trans z)
   have b:valueAt (q :: qs) k = valueAt qs k:=by simp [valueAt,find?_cons,e']
   rw [zc1 e,b];exact ih
theorem KV.any {kvs:List (κ × V)} {vs:List (κ × Value)} (r:KV kvs vs) (k:κ):(kvs.any fun kv=>decide (kv.1 = k)) = vs.any fun kv=>decide (kv.1 = k):=by
 unfold KV at r
 induction r with
 | nil=>rfl
 | cons h t ih=>rw [any_cons,any_cons,ih,h.1]
theorem KV.repl {kvs:List (κ × V)} {vs:List (κ × Value)} (r:KV kvs vs) (k:κ) (ry:RelV y u) :
  KV (kvs.map fun kv=>if kv.1 = k then (kv.1,y) else kv) (vs.map fun kv=>if kv.1 = k then (kv.1,u) else kv):=by
 unfold KV at r ⊢
 induction r with
 | nil=>exact .nil
 | @cons p q ps qs h t ih=>
  rw [map_cons,map_cons]
  refine .cons ?_ ih
  obtain ⟨h1,h2⟩:=h
  by_cases e:p.1 = k
  ·rw [if_pos e,if_pos (h1.symm.trans e)];exact ⟨h1,ry⟩
  ·rw [if_neg e,if_neg (fun z=>e (h1.trans z))];exact ⟨h1,h2⟩
theorem KV.put {kvs:List (κ × V)} {vs:List (κ × Value)} (r:KV kvs vs) (k:κ) (ry:RelV y u):KV (putK kvs k y) (stored vs k u):=by
 unfold putK stored
 rw [r.any k]
 by_cases e:(vs.any fun kv=>decide (kv.1 = k)) = true
 ·rw [if_pos e,if_pos e];exact r.repl k ry
 ·rw [if_neg e,if_neg e];exact Paired.snoc r ⟨rfl,ry⟩
theorem KV.keys {kvs:List (κ × V)} {vs:List (κ × Value)} (r:KV kvs vs):kvs.map (·.1) = vs.map (·.1):=by
 unfold KV at r
 induction r with
 | nil=>rfl
 | cons h t ih=>rw [map_cons,map_cons,ih,h.1]
theorem KV.length {kvs:List (κ × V)} {vs:List (κ × Value)} (r:KV kvs vs):kvs.length = vs.length:=Paired.length r
end
variable {P:Program} {w:World}
theorem zdt {k:Key} (r:RelV (kV k) u):(yv P w).is k u = true:=by
 cases k with
 | inl i=>obtain ⟨t,e⟩:=(show ∃ t,u = Value.int i t from r);subst e;exact zfZ P w i t
 | inr x=>obtain ⟨t,e⟩:=(show ∃ t,u = Value.str x t from r);subst e;exact zfY P w x t
theorem zet {P:Program} {w:World}:∀ {ks:List Key} {us:List Value},Vals (ks.map kV) us->ItemsAre (yv P w) ks us
 | [],_,r=>by rw [map_nil] at r;cases r;exact .nil
 | k :: ks,_,r=>by
  rw [map_cons] at r
  cases r with
  | cons h t=>exact .cons (zdt h) (zet t)
noncomputable abbrev KT (H:Hp):List (List Key × V)->List (List Key × Addr × Value)->Prop:=Paired fun p q=>p.1 = q.1/\H q.2.1 = some (.tup (p.1.map kV))/\RelV p.2 q.2.2
variable {H:Hp} {xs:List (List Key × Addr × Value)} {kvs:List (List Key × V)}
theorem KT.val (r:KT H kvs xs) (k:List Key):RelO (qN kvs k) ((atKey xs k).map (·.2)):=by
 induction r with
 | nil=>exact True.intro
 | @cons p q ps qs h t ih=>
  obtain ⟨h1,_,h2⟩:=h
  by_cases e:p.1 = k
  ·have e':q.1 = k:=h1.symm.trans e
   have b:atKey (q :: qs) k = some q.2:=by simp [atKey,find?_cons,e']
   rw [zc0 e,b];exact h2
  ·have e':¬ q.1 = k:=fun z=>e (h1.trans z)
   have b:atKey (q :: qs) k = atKey qs k:=by simp [atKey,find?_cons,e']
   rw [zc1 e,b];exact ih
theorem KT.repl (r:KT H kvs xs) (k:List Key) (ry:RelV y u) :
  KT H (kvs.map fun kv=>if kv.1 = k then (kv.1,y) else kv) (xs.map (putAt k u)):=by
 induction r with
 | nil=>exact .nil
 | @cons p q ps qs h t ih=>
  rw [map_cons,map_cons]
  refine .cons ?_ ih
  obtain ⟨h1,h2,h3⟩:=h
  unfold putAt
  by_cases e:p.1 = k
  ·rw [if_pos e,if_pos (h1.symm.trans e)];exact ⟨h1,h2,ry⟩
  ·rw [if_neg e,if_neg (fun z=>e (h1.trans z))];exact ⟨h1,h2,h3⟩
theorem KT.put (r:KT H kvs xs) (k:List Key) {b:Addr} (hb:H b = some (.tup (k.map kV))) (ry:RelV y u) :
  KT H (putK kvs k y) (storedH xs k b u):=by
 have e:(kvs.any fun kv=>decide (kv.1 = k)) = (atKey xs k).isSome:=by
  rw [ze1,(r.val k).isSome_eq,Option.isSome_map]
 unfold putK storedH
 rw [e]
 by_cases q:(atKey xs k).isSome = true
 ·rw [if_pos q,if_pos q];exact r.repl k ry
 ·rw [if_neg q,if_neg q];exact Paired.snoc r ⟨rfl,hb,ry⟩
variable {H':Hp}
theorem KT.keeps (r:KT H kvs xs) (ht:∀ b ys,H b = some (.tup ys)->H' b = some (.tup ys)):KT H' kvs xs:=
 Paired.mapP r fun _ _ z=>⟨z.1,ht _ _ z.2.1,z.2.2⟩
variable {h:Heap}
section
variable {a:Addr}
theorem zjF {u:HO} (ok:HOk P w H h) (e:Rd H a u):ObjOk P w H h a u:=e.ok ok
theorem zcK {kvs:List (Key × V)} (ok:HOk P w H h) (e:Rd H a (.dK kvs)):kvs.length<=sizeLine/\(a == sysModules) = false/\∃ vs,KV kvs vs/\h.DictOf (yv P w) a vs:=
 show ObjOk P w H h a (.dK kvs) from zjF ok e
theorem zjM {kvs:List (Key × V)} (ok:HOk P w H h) (e:H a = some (.dK kvs)):kvs.length<=sizeLine/\(a == sysModules) = false/\∃ vs,KV kvs vs/\h.DictOf (yv P w) a vs:=zcK ok (.inl e)
theorem zds {ks:List Key} (ok:HOk P w H h) (e:H a = some (.tup (ks.map kV))):(tupleKind (yv P w)).is h ks a:=by
 obtain ⟨_,its,r,⟨o,h1,h2,n,h3⟩,_⟩:=(show ObjOk P w H h a (.tup (ks.map kV)) from ok a _ e)
 exact ⟨o,its.toArray,n,h1,h2,h3,by simpa using zet r⟩
theorem zeU (ok:HOk P w H h) (e:Rd H a (.dT kvs)):kvs.length<=sizeLine/\(a == sysModules) = false /\
  ∃ xs,KT H kvs xs/\h.DictOfH (tupleKind (yv P w)) a xs:=by
 obtain ⟨z,y,xs,r,o,es,ep,h1,h2,h3,h4,h5⟩:=(show ObjOk P w H h a (.dT kvs) from zjF ok e)
 refine ⟨z,y,xs,r,o,es,ep,h1,h2,h3,h4,fun x hx=>?_,h5⟩
 have all:∀ {l:List (List Key × V)} {m:List (List Key × Addr × Value)},KT H l m->∀ x ∈ m,(tupleKind (yv P w)).is h x.1 x.2.1:=by
  intro l m q
  induction q with
  | nil=>intro x hx;exact nomatch hx
  | @cons p q ps qs hq t ih=>
   intro x hx
   rcases mem_cons.mp hx with e | hx
   ·subst e
    exact zds ok (by rw [← hq.1];exact hq.2.1)
   ·exact ih x hx
 exact all r x hx
theorem znm (ok:HOk P w H h) (e:H a = some (.dT kvs)):kvs.length<=sizeLine/\(a == sysModules) = false /\
  ∃ xs,KT H kvs xs/\h.DictOfH (tupleKind (yv P w)) a xs:=zeU ok (.inl e)
end
def DGet (H:Hp) (a:Addr) (y:V) (r:Option V):Prop:=
 (∃ kvs k,Rd H a (.dK kvs)/\y = kV k/\r = qN kvs k)\/∃ kvs k b,Rd H a (.dT kvs)/\y = .ref b/\H b = some (.tup (k.map kV))/\r = qN kvs k
def DPut (H:Hp) (a:Addr) (y v:V) (H':Hp):Prop:=
 (∃ kvs k,H a = some (.dK kvs)/\y = kV k/\kvs.length < sizeLine/\H' = upd H a (.dK (putK kvs k v))) \/
 ∃ kvs k b,H a = some (.dT kvs)/\y = .ref b/\H b = some (.tup (k.map kV))/\kvs.length < sizeLine/\H' = upd H a (.dT (putK kvs k v))
variable {v:V}
theorem DPut.k {a:Addr} {kvs:List (Key × V)} {k:Key} (e:H a = some (.dK kvs)) (hl:kvs.length < sizeLine):DPut H a (kV k) v (upd H a (.dK (putK kvs k v))):=.inl ⟨kvs,k,e,rfl,hl,rfl⟩
variable {A:Around} {X:Cx} {h':Heap} {pins:List (Addr × Obj)} {s:Shared} {σ:St} {E Q:Value->Shared->Prop}
section
variable {a:Addr} {r:Value}
theorem Inv.big (I:Inv X pins σ H s):sysModules < s.heap.objs.size:=by
 have h:mainGlobals < s.heap.objs.size:=(I.mod.glob.keeps I.bk).lt
 exact Nat.lt_trans (by decide) h
theorem zil (hu:A.units + 1 < cLine) (I:Inv X pins σ H s) (g:DGet H a y (some v)) (ry:RelV y u) (h:∀ w' s',Inv X pins σ H s'->RelV v w'->Q w' s') :
  wpAny (model X.prog X.w) A (getItem (.ref a) u) Q E s:=by
 rcases g with ⟨kvs,k,e,ey,l⟩ | ⟨kvs,k,b,e,ey,eb,l⟩
 ·subst ey
  obtain ⟨z,hd,vs,rel,dd⟩:=zcK I.hok e
  obtain ⟨w',hw,rw'⟩:=RelO.some_of (v:=v) (o:=valueAt vs k) (by rw [l];exact rel.val k)
  exact wpAny_getItem_of (zdt ry) dd.mapOf hw (h w' _ (I.tok _) rw')
 ·subst ey
  cases (show u = Value.ref b from ry)
  obtain ⟨z,hd,xs,rel,dd⟩:=zeU I.hok e
  obtain ⟨w',hw,rw'⟩:=RelO.some_of (v:=v) (o:=(atKey xs k).map (·.2)) (by rw [l];exact rel.val k)
  obtain ⟨p,hp,hp2⟩:=Option.map_eq_some_iff.mp hw
  refine wpAny_getItem_heap (tupleKind_room_in1 hu) (zds I.hok eb) dd hp ?_
  rw [hp2]
  exact h w' _ (I.tok _) rw'
theorem zn2 (hu:A.units + 1 < cLine) (I:Inv X pins σ H s) (g:DGet H a y o) (ry:RelV y u) (h:∀ s',Inv X pins σ H s'->Q (.bool o.isSome) s') :
  wpAny (model X.prog X.w) A (compareOp .In u (.ref a)) Q E s:=by
 rcases g with ⟨kvs,k,e,ey,l⟩ | ⟨kvs,k,b,e,ey,eb,l⟩
 ·subst ey
  obtain ⟨z,hd,vs,rel,dd⟩:=zcK I.hok e
  refine wpAny_in_of (zdt ry) hd dd.mapOf ?_
  rw [← (rel.val k).isSome_eq,← l]
  exact h _ (I.tok _)
 ·subst ey
  cases (show u = Value.ref b from ry)
  obtain ⟨z,hd,xs,rel,dd⟩:=zeU I.hok e
  refine wpAny_in_heap (tupleKind_room_in1 hu) (zds I.hok eb) hd dd ?_
  have q:=(rel.val k).isSome_eq
  rw [Option.isSome_map] at q
  rw [← q,← l]
  exact h _ (I.tok _)
theorem zec {t':Nat} {ob:HO} (I:Inv X pins σ H s) (mu:Mut (H a)) (hs:Heap.SameBut a s.heap h') (he:∃ q,h'.get? a = some q) (new:ObjOk X.prog X.w (upd H a ob) h' a ob) :
  Inv X pins σ (upd H a ob) { s with heap:=h',toks:=t' }:=
 I.write (x:=a) (e:=a) mu (.inl rfl) (fun b q hb z=>(hs.2 b hb).trans z) he new
theorem zij {kvs:List (Key × V)} {vs:List (Key × Value)} (z:kvs.length<=sizeLine) (hd:(a == sysModules) = false) (rel:KV kvs vs) (dd:h'.DictOf (yv P w) a vs) :
  ObjOk P w H' h' a (.dK kvs):=⟨z,hd,vs,rel,dd⟩
theorem zik {Q:Unit->Shared->Prop} (hu:A.units + 1 < cLine) (I:Inv X pins σ H s) (g:DPut H a y v H') (ry:RelV y u) (rv:RelV v r) (h:∀ s',Inv X pins σ H' s'->Q () s') :
  wpAny (model X.prog X.w) A (setItem (.ref a) u r) Q E s:=by
 rcases g with ⟨kvs,k,e,ey,l,eH⟩ | ⟨kvs,k,b,e,ey,eb,l,eH⟩
 ·subst ey eH
  obtain ⟨z,hd,vs,rel,dd⟩:=zjM I.hok e
  have hz:vs.length<=sizeLine:=by rw [← rel.length];exact z
  have hl:(putK kvs k v).length<=sizeLine:=by have:=zbo kvs k v;omega
  refine wpAny_setItem_pairs (hsz:=hz) (zdt ry) dd fun h' dd' hs=>h _ ?_
  have he:∃ q,h'.get? a = some q:=let ⟨q,_,_,hq,_⟩:=dd';⟨q,hq⟩
  exact zec I (by rw [e];exact True.intro) hs he (zij hl hd (rel.put k rv) dd')
 ·subst ey eH
  cases (show u = Value.ref b from ry)
  obtain ⟨z,hd,xs,rel,dd⟩:=znm I.hok e
  have hz:xs.length<=sizeLine:=by rw [← Paired.length rel];exact z
  have hl:(putK kvs k v).length<=sizeLine:=by have:=zbo kvs k v;omega
  refine wpAny_setItem_heap (hsz:=hz) (tupleKind_room_in1 hu) (zds I.hok eb) dd fun h' dd' hs=>h _ ?_
  obtain ⟨q,es,ep,hq,h2,h3,h4,_,h5⟩:=dd'
  refine zec I (by rw [e];exact True.intro) hs ⟨q,hq⟩ ⟨hl,hd,_,(rel.put k eb rv).keeps fun c ys ec=>?_,q,es,ep,hq,h2,h3,h4,h5⟩
  rw [yf (zcE ec e (fun z=>nomatch z))]
  exact ec
end
section
variable {a:Addr} {kvs:List (Key × V)} {k:Key}
theorem znn (I:Inv X pins σ H s) (e:Rd H a (.dK kvs)) (h:∀ t s',Inv X pins σ H s'->Q (.int kvs.length t) s'):wpAny (model X.prog X.w) A (call (.builtin "len") [.ref a]) Q E s:=by
 obtain ⟨z,hd,vs,rel,dd⟩:=zcK I.hok e
 refine call_len_dict hd dd (by rw [← rel.length];rw [sizeLine_eq] at z;omega) ?_
 rw [← rel.length]
 exact h _ _ (I.tok _)
end
theorem zf5 {a:Addr} (I:Inv X pins σ H s) (g:DGet H a y o):s.TypeIs (.ref a) "dict":=by
 rcases g with ⟨kvs,k,e,_,_⟩ | ⟨kvs,k,b,e,_,_,_⟩
 ·obtain ⟨_,_,vs,_,dd⟩:=zcK I.hok e
  exact dd.typeIs
 ·obtain ⟨_,_,xs,_,dd⟩:=zeU I.hok e
  exact dd.typeIs
theorem zju (h:Heap) (hb:sysModules < h.objs.size):ObjOk P w H (h.push { cls:=.type "dict",data:=.dict #[] }) h.objs.size (.dK []):=
 ⟨Nat.zero_le _,beq_eq_false_iff_ne.mpr (Ne.symm (Qh hb)),[],.nil,Heap.DictOf.new h⟩
noncomputable def ze3:List (TE × TE)->St->Hp->(List (V × V)->Hp->Prop)->Prop
 | [],_,H,Q=>Q [] H
 | (tk,tv) :: r,σ,H,Q=>tk σ H fun x H1=>tv σ H1 fun y H2=>ze3 r σ H2 fun ps H3=>Q ((x,y) :: ps) H3
noncomputable abbrev VV:List (V × V)->List (Value × Value)->Prop:=Paired fun p q=>RelV p.1 q.1/\RelV p.2 q.2
def PPs (X:Cx) (pos:Pos) (keys:List (Option Expr)) (values:List Expr) (trs:List (TE × TE)):Prop:=
 ∀ (pins:List (Addr × Obj)) (s:Shared) (σ:St) (H:Hp) (Q:List (V × V)->Hp->Prop),Inv X pins σ H s->ze3 trs σ H Q->
  wpAny (model X.prog X.w) X.A (evalPairs (pairTrees keys values X.env pos)) (fun vs s'=>∃ ps H',Inv X pins σ H' s'/\VV ps vs/\Q ps H') X.xe s
variable {pos:Pos}
theorem zkg:PPs X pos [] [] []:=fun pins s σ H Q I h=>pairTrees_nil_walk ⟨[],H,I,.nil,h⟩
variable {trs:List (TE × TE)}
theorem ziX {k v:Expr} {ks:List (Option Expr)} {vs:List Expr} {tk tv:TE} (hk:PE X k tk) (hv:PE X v tv) (hr:PPs X pos ks vs trs) :
  PPs X pos (some k :: ks) (v :: vs) ((tk,tv) :: trs):=fun pins s σ H Q I h=>
 pairTrees_cons_walk (thn (hk pins s σ H _ I h) fun u s1 ⟨x,H1,I1,rx,q1⟩=>thn (hv pins s1 σ H1 _ I1 q1) fun w2 s2 ⟨y,H2,I2,ry,q2⟩=>
  thn (hr pins s2 σ H2 _ I2 q2) fun ws s3 ⟨ps,H3,I3,rel,q3⟩=>⟨(x,y) :: ps,H3,I3,.cons ⟨rx,ry⟩ rel,q3⟩)
noncomputable def zaV (kvs more:List (Key × V)):List (Key × V):=more.foldl (fun acc kv=>putK acc kv.1 kv.2) kvs
theorem KV.merge:∀ {more:List (Key × V)} {rs:List (Key × Value)} {kvs:List (Key × V)} {vs:List (Key × Value)},KV more rs->KV kvs vs->KV (zaV kvs more) (merged vs rs):=by
 intro more rs kvs vs r
 unfold KV at r
 induction r generalizing kvs vs with
 | nil=>intro q;exact q
 | @cons p q ps qs h t ih=>
  intro r0
  have e:KV (putK kvs p.1 p.2) (stored vs q.1 q.2):=by
   have:=r0.put p.1 h.2
   rw [← h.1];exact this
  exact ih e
theorem zcc:∀ (more kvs:List (Key × V)),(zaV kvs more).length<=kvs.length + more.length
 | [],kvs=>by show kvs.length<=kvs.length + 0;omega
 | p :: r,kvs=>by
  have h1:=zcc r (putK kvs p.1 p.2)
  have h2:=zbo kvs p.1 p.2
  show (zaV (putK kvs p.1 p.2) r).length<=_
  rw [Qm];omega
theorem zdE {P:Program} {w:World}:∀ {kvs:List (Key × V)} {ws:List (Value × Value)},VV (kvs.map fun kv=>(kV kv.1,kv.2)) ws->∃ rs,Carries (yv P w) ws rs/\KV kvs rs
 | [],_,r=>by rw [map_nil] at r;cases r;exact ⟨[],True.intro,.nil⟩
 | p :: kvs,_,r=>by
  rw [map_cons] at r
  cases r with
  | @cons a b as bs h t=>
   obtain ⟨rs,c,q⟩:=zdE (P:=P) (w:=w) t
   obtain ⟨b1,b2⟩:=b
   exact ⟨(p.1,b2) :: rs,⟨zdt h.1,rfl,c⟩,.cons ⟨rfl,h.2⟩ q⟩
noncomputable def zmN (trs:List (TE × TE)):TE:=fun σ H Q=>∀ p,H p = none->ze3 trs σ (upd H p (.dK [])) fun ps H2=>H2 p = some (.dK [])/\∃ kvs:List (Key × V),ps = kvs.map (fun kv=>(kV kv.1,kv.2))/\kvs.length<=15/\Q (.ref p) (upd H2 p (.dK (zaV [] kvs)))
theorem zko {keys:List (Option Expr)} {values:List Expr} (h:PPs X pos keys values trs) (hall:keys.all (·.isSome) = true) (hl:keys.length = values.length) (h0:keys ≠ [])
 (h15:keys.length<=15):PE X (.Dict keys values pos) (zmN trs):=by
 intro pins s σ H Q I q
 have hn:=I.hok.fresh (Q3 s.heap.objs.size)
 have I1:=I.laid (a:=s.heap.objs.size) (o:=.dK []) (h':=s.heap.push { cls:=.type "dict",data:=.dict #[] }) (t':=s.toks) (fun _ _ q=>Q2 _ q) (Q3 _) (zju s.heap I.big)
 refine wpAny_Dict_walk (knd:=yv X.prog X.w) hall hl h0 h15 (thn (h pins _ σ _ _ I1 (q _ hn)) fun ws s2 ⟨ps,H2,I2,rel,e,kvs,ep,lk,q2⟩=>?_)
 subst ep
 obtain ⟨rs,c,rk⟩:=zdE (P:=X.prog) (w:=X.w) rel
 obtain ⟨z,hd,vs0,r0,dd⟩:=zjM I2.hok e
 cases r0
 refine ⟨rs,c,dd,fun h' dd' hs=>⟨.ref s.heap.objs.size,_,?_,rfl,q2⟩⟩
 have hz:(zaV [] kvs).length<=sizeLine:=by
  have h1:=zcc kvs []
  rw [length_nil] at h1
  rw [sizeLine_eq];omega
 have he:∃ q,h'.get? s.heap.objs.size = some q:=let ⟨q,_,_,hq,_⟩:=dd';⟨q,hq⟩
 exact zec I2 (by rw [e];exact True.intro) hs he (zij hz hd (rk.merge .nil) dd')
structure M1 (X:Cx) (o:Expr) (m:Str) (apos:Pos) (e:Expr) (cpos:Pos):Prop where
 base:attributeBase o m X.env (eval o X.env) = eval o X.env
 few:((backTo cpos (starEach [e] X.env)).all (fun x=>!x.1) && (backToKw cpos (keywordEach [] X.env)).all (fun x=>x.1.isSome)
  && decide (([e]:List Expr).length + ([]:List Keyword).length + (if ([]:List Keyword).isEmpty then 0 else 1) < 30)) = true
 line:(apos.endLine == cpos.line) = true
 trees:backTo cpos (starEach [e] X.env) = [(false,eval e X.env)]
structure M2 (X:Cx) (o:Expr) (m:Str) (apos:Pos) (e f:Expr) (cpos:Pos):Prop where
 base:attributeBase o m X.env (eval o X.env) = eval o X.env
 few:((backTo cpos (starEach [e,f] X.env)).all (fun x=>!x.1) && (backToKw cpos (keywordEach [] X.env)).all (fun x=>x.1.isSome)
  && decide (([e,f]:List Expr).length + ([]:List Keyword).length + (if ([]:List Keyword).isEmpty then 0 else 1) < 30)) = true
 line:(apos.endLine == cpos.line) = true
 trees:backTo cpos (starEach [e,f] X.env) = [(false,eval e X.env),(false,eval f X.env)]
def Bnd (n:Nat) (i:Int):Prop:=i.natAbs < 10 ^ n
instance (n:Nat) (i:Int):Decidable (Bnd n i):=inferInstanceAs (Decidable (i.natAbs < 10 ^ n))
variable {i j:Int} {n:Nat}
theorem Bnd.add (h:Bnd n i) (k:Bnd n j):Bnd (n + 1) (i + j):=by
 unfold Bnd at *
 have h1:=Int.natAbs_add_le i j
 rw [Nat.pow_succ]
 omega
theorem Bnd.neg (h:Bnd n i):Bnd n (-i):=by
 unfold Bnd at *
 rw [Int.natAbs_neg];exact h
theorem zgB (h:Bnd n i) (hn:n<=3000):Builtin.Int.intBits i<=2 ^ 20:=by
 unfold Builtin.Int.intBits
 split
 ·exact Nat.zero_le _
 ·rename_i h0
  have h1:i.natAbs ≠ 0:=by
   intro z
   have:i = 0:=Int.natAbs_eq_zero.mp z
   subst this
   exact h0 rfl
  have h2:i.natAbs < 2 ^ (4 * n):=by
   have e:(2:Nat) ^ (4 * n) = 16 ^ n:=by rw [Nat.pow_mul]
   rw [e]
   exact Q5 h (Nat.pow_le_pow_left (by decide) n)
  have h3:i.natAbs.log2 < 4 * n:=(Nat.log2_lt h1).mpr h2
  have:(2:Nat) ^ 20 = 1048576:=by decide
  omega
def CMulB (i j:Int):Prop:=(∃ m n,Bnd m i/\Bnd n j/\m<=3000/\n<=3000)\/CMul i j
theorem CMulB.ok (h:CMulB i j):IntMulOk i j:=by
 rcases h with ⟨m,n,h1,h2,h3,h4⟩ | h
 ·exact IntMulOk.of_bits (zgB h1 h3) (zgB h2 h4)
 ·exact h.ok
section
theorem zku:OpR X (binaryOp .Mult) (rI CMulB fun i j=>.int (i * j)):=opI fun _ _ _ _ _ _ _ hc q=>mul_int q hc.ok
noncomputable def zmW (K:Frag):R2:=fun x y H Q=>∃ l b xs zs,x = .ref l/\y = .ref b/\SqL K H l xs/\SqL K H b zs/\xs.length + zs.length<=sizeLine/\∀ p,H p = none->Q (.ref p) (upd H p (.lst (xs ++ zs)))
theorem zkx:OpR X (binaryOp .Add) (zmW X.K):=by
 intro pins s σ H x y v u Q I rx ry h
 obtain ⟨l,b,xs,zs,rfl,rfl,hH,hB,hz,q⟩:=h
 cases rx
 cases ry
 obtain ⟨its,r,pl,z⟩:=I.list hH
 obtain ⟨its2,r2,pl2,z2⟩:=I.list hB
 obtain ⟨⟨cls,dd,data,sl⟩,n,ho,hc,hdi,hd⟩:=pl
 obtain ⟨⟨cls2,dd2,data2,sl2⟩,n2,ho2,hc2,hdi2,hd2⟩:=pl2
 simp only at hc hd hc2 hd2
 subst hc hd hc2 hd2
 have e1:=r.length
 have e2:=r2.length
 refine concat_meets ⟨_,ho,rfl⟩ ⟨_,ho2,rfl⟩ noFill_list_add seq_list_add PySem.F.slot_list_add PySem.F.entry_list_add (PySem.F.args_list_add_2 _ _) (list_addW l b its.toArray its2.toArray n n2 dd dd2 sl sl2 (by rw [Qf,Qf];omega)) ⟨ho,ho2,?_⟩
 have ea:its.toArray ++ its2.toArray = (its ++ its2).toArray:=by simp
 rw [ea]
 exact ⟨.ref _,_,I.lnew (t':=s.toks) (r.append r2) (by rw [Qk];omega),rfl,q _ I.fresh⟩
end
structure Df (K:Frag) (mg:Str->Option Value) (x:Str) (st:Stmt) (ps:List Str):Prop where
 ex:∃ (f:Addr) (fd:FuncData),Fun K x x st f fd/\Binds K fd ps []/\mg x = some (.ref f)
structure Cal (P:Program) (w:World) (K:Frag) (mg:Str->Option Value) (base:Heap) (k:Nat) (x:Str) (ps:List Str) (sp:Sp):Prop where
 ex:∃ (f:Addr) (fd:FuncData),FnOk P w K mg base CX0 k f fd ps sp/\PySem.W.keepIn K (.ref f) = true/\Binds K fd ps []/\mg x = some (.ref f)
variable {f:Addr} {sl:Array (Option Value)} {ps:List Str} {an od:Option Addr} {sp:Sp} {st:Stmt} {x:Str} {mg:Str->Option Value} {cd ct dc oc pm:Value}
section
variable {K:Frag} {base:Heap}
theorem Df.ok {N:List Str} {k:Nat} (D:Df K mg x st ps) (S:FnScope N ps (ze st)) (len:∀ vs H Q E,sp vs H Q E->vs.length = ps.length)
 (hbody:∀ (f:Addr) (cdv:Value) (A:Around) (outer:List Env) (s:Shared) (H:Hp) (vs:List V) (Q:VK) (E:XK),Room k (A.deeper (envOfC x (ze st) s.heap.objs.size f cdv))->sp vs H Q E->
 ∃ t,PSs (zad CX0 P w K mg base N x (ze st) f cdv A outer s H E).nox (zx st) t/\t { nx:=fun _ H'=>Q .non H',rt:=Q } (start N vs) H):Cal P w K mg base (k + 1) x ps sp:=by
 obtain ⟨f,fd,F,b,g⟩:=D.ex
 exact ⟨⟨f,fd,F.ok S len (hbody f),F.kp,b,g⟩⟩
theorem yQ (X:K.In h) (G:h.Ns mainGlobals mg) {kV:Value}
 (a:PySem.W.nsIn K mainGlobals x = some (some (.ref f)))
 (l:K.lookup f = some ⟨oc,od,.func (PySem.W.fnOf x x (zY st) (zx st) (ze st) .none kV dc pm an cd ct),sl⟩) (c:PySem.W.codeIn K cd x = true) (k:PySem.W.keepIn K (.ref f) = true)
 (hb:∀ (kV doc pm:Value) (an:Option Addr) (cdv ct:Value) (us:List Value),us.length = ps.length->bindArgs (PySem.W.fnOf x x (zY st) (zx st) (ze st) .none kV doc pm an cdv ct) ⟨us,[]⟩ = pure (ps.zip us)):Df K mg x st ps:=by
 have F:=zib (st:=st) l c k
 exact ⟨⟨f,_,F,F.binds hb,PySem.W.mg_of X G a⟩⟩
end
section
variable {K:Frag}
theorem zl5 (X:K.In h) (G:h.Ns mainGlobals mg) {kV:Value}
 (a:PySem.W.nsIn K mainGlobals "law" = some (some (.ref f)))
 (l:K.lookup f = some ⟨oc,od,.func (PySem.W.fnOf "law" "law" (zY st) (zx st) (ze st) .none kV dc pm an cd ct),sl⟩) (c:PySem.W.codeIn K cd "law" = true) (k:PySem.W.keepIn K (.ref f) = true)
 (hb:∀ (kV dc pm:Value) (an:Option Addr) (cd ct:Value) (s:Shared) (u:Value),BindsTo s (PySem.W.fnOf "law" "law" (zY st) (zx st) (ze st) .none kV dc pm an cd ct) ⟨[u],[]⟩ [("script",u)]) :
  ∃ (f:Addr) (fd:FuncData),Fun K "law" "law" st f fd/\mg "law" = some (.ref f)/\∀ (s:Shared) (u:Value),BindsTo s fd ⟨[u],[]⟩ [("script",u)]:=
 ⟨f,_,zib (st:=st) l c k,PySem.W.mg_of X G a,fun s u=>hb _ _ _ _ _ _ s u⟩
end
section
variable {k:Nat} {p:Pos} {e:Expr} {es:List Expr} {t:TA}
theorem zlR (C:Cal X.prog X.w X.K X.mg X.base k x ps sp) (hr:Room k X.A) (hg:Gl X x) (ha:PA X (e :: es) t) (hdb:(x == ("__debug__":Str)) = false:=by decide)
  (he:starEach (e :: es) X.env = (false,eval e X.env) :: starEach es X.env:=by rfl) (hpl:(backTo pos (starEach es X.env)).any (·.1) = false:=by rfl) :
  PE X (.Call (.Name x p) (e :: es) [] pos) (zjE sp [] E0 t):=by
 obtain ⟨f,fd,F,kp,b,g⟩:=C.ex
 exact zkr F hr hg g kp b .nil zm3 ha hdb he hpl
end
def But (p:Addr) (H H':Hp):Prop:=∀ b o,H b = some o->b ≠ p->H' b = some o
theorem Bnd.of (h1:-(10 ^ n:Int) < i) (h2:i < 10 ^ n):Bnd n i:=by
 unfold Bnd
 have:((10 ^ n:Nat):Int) = (10:Int) ^ n:=by simp
 omega
theorem Bnd.hi (h:Bnd n i):i < 10 ^ n:=by
 unfold Bnd at h
 have:((10 ^ n:Nat):Int) = (10:Int) ^ n:=by simp
 omega
theorem Bnd.lo (h:Bnd n i):-(10 ^ n:Int) < i:=by
 unfold Bnd at h
 have:((10 ^ n:Nat):Int) = (10:Int) ^ n:=by simp
 omega
theorem Bnd.gcd {a b:Int} (h:0 < b) (k:Bnd n b):Bnd n ((Int.gcd a b:Nat):Int):=by
 unfold Bnd at *
 have h1:((Int.gcd a b:Nat):Int) ∣ b:=Int.gcd_dvd_right ..
 have h2:((Int.gcd a b:Nat):Int)<=b:=Int.le_of_dvd h h1
 omega
noncomputable abbrev zdl:List Value:=[.type "ValueError",.type "Exception",.type "BaseException",.type "object"]
structure ExcAt (K:Frag) (mg:Str->Option Value) (x:Str) (C:Addr):Prop where
 bound:mg x = some (.ref C)
 obj:∀ h:Heap,K.In h->∃ bm N nm q bs hdct sn sub ab col dd k0 k1 k2 k3 k5 mN,h.get? C = some (excClassObj nm q C N bs bm hdct sn sub ab col dd k0 k1 k2 k3 k5 "ValueError.__new__")/\h.Ns N mN/\mN "__init__" = none/\OwnTail h zdl bm
noncomputable def zbK (es:Array DictEntry):Bool:=es.toList.all (fun e=>match e.key with | .str _ _=>true | _=>false)
theorem zgn {K:Frag} (X:K.In h) {N:Addr} {n:Str} {c:Value} {d:Option Addr} {es:Array DictEntry} {ep:Nat} (l:K.lookup N = some ⟨c,d,.dict es ep,sl⟩) (sk:zbK es = true)
 (q:PySem.W.nsIn K N n = some none):∃ mN,h.Ns N mN/\mN n = none:=by
 have ho:=X _ _ l
 have hi:h.isNs N = true:=by
  unfold Heap.isNs
  rw [ho]
  unfold zbK at sk
  rw [Array.all_toList] at sk
  exact sk
 refine ⟨h.nsMap N,Heap.Ns.of_isNs hi,?_⟩
 obtain ⟨o,es',ep',ho',hd',_,hf⟩:=Heap.Ns.of_isNs hi
 rw [← hf n]
 rw [ho] at ho'
 cases ho'
 cases hd'
 unfold PySem.W.nsIn at q
 rw [l] at q
 dsimp only at q
 unfold nsFind findBy
 cases e:es.toList.find? (·.key.isStr n) with
 | some e'=>rw [e] at q;cases q
 | none=>
  have:es.find? (fun e=>e.key.isStr n) = none:=by
   rw [← Array.find?_toList];exact e
  simp [this]
theorem ObjOk.there {a:Addr} {o:HO} (x:ObjOk P w H h a o):∃ u,h.get? a = some u:=by
 cases o with
 | lst xs=>obtain ⟨_,_,_,_,e⟩:=x;exact ⟨_,e⟩
 | tup xs=>obtain ⟨_,_,_,⟨ob,e,_⟩,_⟩:=x;exact ⟨_,e⟩
 | dK kvs=>obtain ⟨_,_,_,_,o,_,_,e,_⟩:=x;exact ⟨_,e⟩
 | dT kvs=>obtain ⟨_,_,_,_,o,_,_,e,_⟩:=x;exact ⟨_,e⟩
 | set S n=>obtain ⟨o,_,_,_,e,_⟩:=x;exact ⟨_,e⟩
 | ins C dx fs=>obtain ⟨_,_,_,e,_⟩:=x;exact ⟨_,e⟩
 | own y=>obtain ⟨_,e⟩:=x;exact ⟨_,e⟩
 | xd fs=>obtain ⟨_,⟨_,_,_,e,_⟩,_⟩:=x;exact ⟨_,e⟩
 | rng lo hi=>obtain ⟨_,_,_,e⟩:=x;exact ⟨_,e⟩
 | frz ob u=>obtain ⟨e,_⟩:=x;exact ⟨_,e⟩
 | tbl ps=>exact ⟨_,(show h.get? a = some _ from x)⟩
 | met f y=>exact ⟨_,(show h.get? a = some _ from x)⟩
 | ext φ=>obtain ⟨_,⟨_,e⟩,_⟩:=x;exact ⟨_,e⟩
noncomputable def CXC (P:Program) (w:World) (C:Addr):CXT:=fun l H s E ev s'=>∃ (e t:Addr) (B:Heap) (H':Hp),ev = .ref e/\Heap.FlyingW B l e (.ref C) (.ref t) s'.heap/\s'.os = s.os/\AllBare s'.gens /\
 Un (frs l) [] H H' s.heap s'.heap/\HOk P w H' s'.heap/\(∀ b o,s'.heap.get? b = some o->b ∉ frs l->(H' b ≠ none\/∃ o',s.heap.get? b = some o')->B.get? b = some o)/\(∀ b ∈ frs l,H' b = none)/\E (.ref C) none H'
theorem zjB {l:List Env} {h1 h2 B:Heap} (u:Un (frs l) [] H H' h h1) (hok:HOk P w H' h1) (hB:∀ b o,h1.get? b = some o->b ∉ frs l->(H' b ≠ none\/∃ o',h.get? b = some o')->B.get? b = some o)
 (hfr:∀ b ∈ frs l,H' b = none) (hfn:∀ b ∈ frs l,∀ o,h1.get? b = some o->∀ vs,o.data ≠ .fields vs) (st:B.StaysIn h2) (up:h1.UpToSlots h2):Un (frs l) [] H H' h h2/\HOk P w H' h2:=by
 refine ⟨⟨fun b o e n nf nx=>?_,fun b o e n hf nx=>?_,u.free,fun b o e nx=>?_,u.tups,u.frzs,u.tbls⟩,fun a o e=>?_⟩
 ·exact st _ _ (hB b o (u.keep b o e n nf nx) nf (.inr ⟨o,e⟩))
 ·obtain ⟨sl,e1⟩:=u.slot b o e n hf nx
  obtain ⟨sl2,e2⟩:=up b _ e1 (hfn b hf _ e1)
  exact ⟨sl2,e2⟩
 ·obtain ⟨o1,e1⟩:=u.there b o e nx
  by_cases hf:b ∈ frs l
  ·obtain ⟨sl2,e2⟩:=up b _ e1 (hfn b hf _ e1)
   exact ⟨_,e2⟩
  ·exact ⟨_,st _ _ (hB b o1 e1 hf (.inr ⟨o,e⟩))⟩
 ·refine (hok a o e).stay (fun b v hb ev=>?_) (fun _ q=>q) fun _ _ q=>q
  have ht:H' b ≠ none:=by
   rcases hb with rfl | hb
   ·rw [e];simp
   ·rw [hb];simp
  exact st _ _ (hB b v ev (fun hf=>ht (hfr b hf)) (.inl ht))
noncomputable abbrev Cx.suite (X:Cx) (ev:Addr):Cx:={ X with A:=X.A.mark (some (.ref ev)),calm:=false,xe:=fun _ _=>False }
section
variable {ev:Addr}
theorem Inv.suite (I:Inv X pins σ H s) (ev:Addr):Inv (X.suite ev) pins σ H s:=
 ⟨⟨I.ok.mod,I.ok.kind,I.ok.glob,I.ok.blt,I.ok.above,I.ok.inj,I.ok.has,I.ok.cab,(fun z=>by cases z),I.ok.frames,I.ok.stk,I.ok.exf,I.ok.bs,I.ok.bsz,I.ok.noex,I.ok.exfs,I.ok.funs,I.ok.frf⟩,I.os,I.bare,I.base,I.loc,I.cell,I.free,I.freeC,I.pin,I.hok,I.len⟩
theorem Inv.unsuite (ok:X.Ok) (I:Inv (X.suite ev) pins σ H s):Inv X pins σ H s:=⟨ok,I.os,I.bare,I.base,I.loc,I.cell,I.free,I.freeC,I.pin,I.hok,I.len⟩
theorem SP.unsuite (ok:X.Ok) {D:Ends} {f:Flow} {s':Shared} (h:SP (X.suite ev) pins D f s'):SP X pins D f s':=by
 cases f with
 | next=>obtain ⟨σ',H',I,q⟩:=h;exact ⟨σ',H',I.unsuite ok,q⟩
 | brk=>obtain ⟨σ',H',I,q⟩:=h;exact ⟨σ',H',I.unsuite ok,q⟩
 | cont=>obtain ⟨σ',H',I,q⟩:=h;exact ⟨σ',H',I.unsuite ok,q⟩
 | ret u=>obtain ⟨v,σ',H',I,r,q⟩:=h;exact ⟨v,σ',H',I.unsuite ok,r,q⟩
end
theorem zjp (x:V) (f:zM x = true):eqV x x = true:=by
 cases x with
 | non=>rfl
 | bl b=>simp [eqV]
 | int i=>simp [eqV]
 | str z=>simp [eqV]
 | _=>exact absurd (show false = true from f) Q4
section
def CDivS (_ j:Int):Prop:=j ≠ 0/\∃ n,Bnd n j/\n<=2000
theorem CDivS.ok (h:CDivS i j):Builtin.divisionGoesByPylong i j = false:=by
 obtain ⟨h0,n,h1,h2⟩:=h
 refine PyProof.noPylong_of_log2 ?_
 have hz:j.natAbs ≠ 0:=by omega
 have e:(2:Nat) ^ (4 * n) = 16 ^ n:=by rw [Nat.pow_mul]
 have h3:j.natAbs < 2 ^ (4 * n):=by
  rw [e]
  exact Q5 h1 (Nat.pow_le_pow_left (by decide) n)
 have h4:j.natAbs.log2 < 4 * n:=(Nat.log2_lt hz).mpr h3
 omega
theorem zi3:OpR X (binaryOp .FloorDiv) (rI CDivS fun i j=>.int (i.fdiv j)):=opI fun _ _ _ _ _ _ _ hc q=>floordiv_int hc.1 q (.inl hc.ok)
end
structure CalX (P:Program) (w:World) (K:Frag) (mg:Str->Option Value) (base:Heap) (C:Addr) (k:Nat) (x:Str) (ps:List Str) (sp:Sp):Prop where
 ex:∃ (f:Addr) (fd:FuncData),FnOk P w K mg base (CXC P w C) k f fd ps sp/\PySem.W.keepIn K (.ref f) = true/\Binds K fd ps []/\mg x = some (.ref f)
theorem zaJ {name:Str} {acc:List (Str × Addr)} {c:Addr} (e:((name,n) :: acc).lookup x = some c):(x = name/\c = n)\/acc.lookup x = some c:=by
 rw [lookup_cons] at e
 split at e
 ·rename_i h;cases e;exact .inl ⟨eq_of_beq h,rfl⟩
 ·exact .inr e
theorem zfH:∀ (names:List (Str × NameKind)) (n:Nat) (acc:List (Str × Addr)),(∀ x y c,acc.lookup x = some c->acc.lookup y = some c->x = y)->(∀ x c,acc.lookup x = some c->c < n)->∀ x y c,(cellsFrom n names acc).lookup x = some c->(cellsFrom n names acc).lookup y = some c->x = y
 | [],_,_,h,_,x,y,c,e1,e2=>h x y c e1 e2
 | (name,kind) :: r,n,acc,h,lt,x,y,c,e1,e2=>by
  unfold cellsFrom at e1 e2
  split at e1
  ·rename_i hk
   rw [if_pos hk] at e2
   refine zfH r (n + 1) ((name,n) :: acc) (fun x y c f1 f2=>?_) (fun x c f=>?_) x y c e1 e2
   ·rcases zaJ f1 with ⟨g1,g2⟩ | g1 <;> rcases zaJ f2 with ⟨g3,g4⟩ | g3
    ·rw [g1,g3]
    ·subst g2;exact absurd (lt _ _ g3) (Ql _)
    ·subst g4;exact absurd (lt _ _ g1) (Ql _)
    ·exact h x y c g1 g3
   ·rcases zaJ f with ⟨g1,g2⟩ | g1
    ·subst g2;exact Nat.lt_succ_self _
    ·exact Nat.lt_succ_of_lt (lt _ _ g1)
  ·rename_i hk
   rw [if_neg hk] at e2
   exact zfH r n acc h lt x y c e1 e2
theorem zhj {x:Str} {c:Addr}:∀ (names:List (Str × NameKind)) (n:Nat) (acc:List (Str × Addr)),(cellsFrom n names acc).lookup x = some c->acc.lookup x = some c\/n<=c
 | [],_,_,e=>.inl e
 | (name,kind) :: r,n,acc,e=>by
  unfold cellsFrom at e
  split at e
  ·rcases zhj r (n + 1) _ e with f | f
   ·rcases zaJ f with ⟨_,g⟩ | g
    ·exact .inr (Nat.le_of_eq g.symm)
    ·exact .inl g
   ·exact .inr (by omega)
  ·exact zhj r n acc e
theorem zhk {x:Str} {c:Addr} {lo:Nat}:∀ (names:List (Str × NameKind)) (n:Nat) (acc:List (Str × Addr)),lo<=n->(∀ c,acc.lookup x = some c->lo<=c)->(cellsFrom n names acc).lookup x = some c->lo<=c
 | [],_,_,_,h,e=>h _ e
 | (name,kind) :: r,n,acc,hn,h,e=>by
  unfold cellsFrom at e
  split at e
  ·refine zhk r (n + 1) _ (Nat.le_succ_of_le hn) (fun c f=>?_) e
   rcases zaJ f with ⟨_,g⟩ | g
   ·subst g;exact hn
   ·exact h _ g
  ·exact zhk r n acc hn h e
theorem zfF {x:Str} {c:Addr}:∀ (names:List (Str × NameKind)) (n:Nat) (acc:List (Str × Addr)),names.lookup x = some .cell->(cellsFrom n names acc).lookup x = some c->n<=c
 | [],_,_,h,_=>by cases h
 | (name,kind) :: r,n,acc,h,e=>by
  unfold cellsFrom at e
  rw [lookup_cons] at h
  split at h
  ·rename_i hx
   cases h
   rw [if_pos (show (NameKind.cell == NameKind.cell) = true from rfl)] at e
   refine zhk r (n + 1) _ (Nat.le_succ _) (fun c f=>?_) e
   rw [lookup_cons,hx] at f
   cases f;exact Q3 _
  ·split at e
   ·exact Nat.le_of_succ_le (zfF r (n + 1) _ h e)
   ·exact zfF r n acc h e
theorem zfG {x:Str}:∀ (names:List (Str × NameKind)) (n:Nat) (acc:List (Str × Addr)),(∀ y ∈ names,y.2 = .cell->y.1 ≠ x)->(cellsFrom n names acc).lookup x = acc.lookup x
 | [],_,_,_=>rfl
 | (name,kind) :: r,n,acc,h=>by
  unfold cellsFrom
  split
  ·rename_i hk
   rw [zfG r (n + 1) _ fun y hy=>h y (mem_cons_of_mem _ hy),lookup_cons]
   have:(x == name) = false:=by
    cases q:x == name with
    | false=>rfl
    | true=>exact absurd (eq_of_beq q).symm (h (name,kind) mem_cons_self (eq_of_beq hk))
   rw [this]
  ·exact zfG r n acc fun y hy=>h y (mem_cons_of_mem _ hy)
theorem zeg:∀ (names:List (Str × NameKind)) (h:Heap) (acc:List (Str × Addr)),(∀ x c,acc.lookup x = some c->∃ v,h.IsCell c v)->∀ x c,(cellsFrom h.objs.size names acc).lookup x = some c->∃ v,(pushCells h names).IsCell c v
 | [],_,_,k,x,c,e=>k x c e
 | (name,kind) :: r,h,acc,k,x,c,e=>by
  unfold cellsFrom at e
  unfold pushCells
  split at e
  ·rename_i hk
   rw [if_pos hk]
   refine zeg r (h.push { cls:=.type "cell",data:=.cell none }) ((name,h.objs.size) :: acc) (fun x c f=>?_) x c (by rw [Heap.size_push];exact e)
   rcases zaJ f with ⟨_,g⟩ | g
   ·subst g;exact ⟨none,_,Qi _ rfl,rfl⟩
   ·obtain ⟨v,q⟩:=k x c g
    exact ⟨v,q.keeps fun b o e=>Q2 _ e⟩
  ·rename_i hk
   rw [if_neg hk]
   exact zeg r h acc k x c e
variable {cl:List (Str × Addr)} {scope:Scope}
theorem zam {M:Model} {globals:Addr} {qual:Str} {env:Env} {builtins:Addr} {Q:Env->Shared->Prop}
 (hQ:∀ h',h'.Ns s.heap.objs.size (fun _=>none)->h' = pushCells (s.heap.push { cls:=.type "dict",data:=.dict #[] }) scope.names->
 Q (newEnv scope s.heap.objs.size globals (cellsFrom (s.heap.objs.size + 1) scope.names cl) qual none .none (some env) builtins) { s with heap:=h' }) :
  wpAny M A (newFunctionEnv scope globals cl [] qual none .none (some env) builtins) Q E s:=by
 simp only [newFunctionEnv,Option.isSome_some,if_true]
 refine Q1 (wpAny_alloc ?_)
 refine Q1 (wpAny_layCells _ (fun name kind cells=>by cases hkc:kind == NameKind.cell <;> simp [hkc]) _ _ _ _ ?_)
 rw [show ({ s with heap:=s.heap.push { cls:=.type "dict",data:=.dict #[] } }:Shared).heap.objs.size = s.heap.objs.size + 1 from Heap.size_push ..]
 refine Q1 ?_
 rw [List.forIn_nil]
 exact Qc (Qc (hQ _ ((Heap.Ns.new s.heap (.type "dict")).keeps (pushCells_keeps _ _)) rfl))
noncomputable def zfN (scope:Scope) (cl:List (Str × Addr)) (C:Addr) (env:Env):Env:={ compEnvC scope cl C env with cells:=cellsFrom (C + 1) scope.names cl }
noncomputable def Cx.block (X:Cx) (scope:Scope) (cl:List (Str × Addr)) (N:List Str) (ex:List Addr) (s0:Shared) (H0:Hp):Cx where
 prog:=X.prog
 w:=X.w
 K:=X.K
 mg:=X.mg
 base:=X.base
 A:=X.A
 N:=N
 s₀:=s0
 H₀:=H0
 env:=zfN scope cl s0.heap.objs.size X.env
 outer:=X.stack
 stack:=X.stack
 ex:=ex
 fn:=fun x=>scope.names.lookup x == some .cell
 calm:=X.calm
 pn:=[]
 xe:=fun _ _=>False
def PTs (X:Cx) (ifs:List Expr) (t:TT):Prop:=
 ∀ (pins:List (Addr × Obj)) (s:Shared) (σ:St) (H:Hp) (Q:Bool->Hp->Prop),Inv X pins σ H s->t σ H Q->
  wpAny (model X.prog X.w) X.A (forIn ifs true fun c r=>if r = true then do let ok ← isTrue c X.env (eval c X.env);pure (ForInStep.yield ok) else pure (ForInStep.yield r)) (TP X pins σ Q) X.xe s
noncomputable def zmH:TT:=fun _ H Q=>Q true H
theorem zka:PTs X [] zmH:=fun _ _ _ H _ I h=>wpAny_tests_nil ⟨H,I,h⟩
theorem zj9 {c:Expr} {t:TT} (h:PT X c t):PTs X [c] t:=fun pins s σ H Q I hq=>wpAny_tests_one (h pins s σ H Q I hq)
noncomputable def zbs (tgs:List Str) (caps:List (Str × Nat)) (σ:St):St:=tgs.map (fun _=>none) ++ caps.map fun c=>(σ[c.2]?).join
noncomputable def zjD (wi:TI) (g:TG) (tc:TT) (te:TE) (σ0:St->St):TE:=fun σ H Q=>wi σ H fun J H1=>∀ D,H1 D = none->∃ W:Nat->Nat->St->Hp->Prop,(∃ m,W 0 m (σ0 σ) (upd H1 D (.lst [])))/\∀ i m σ' H',W i m σ' H'->
 (J.stop i H'/\Q (.ref D) H')\/(J.go i H'/\∃ N:St->Hp->Prop,(∀ σ'' H'',N σ'' H''->∃ m',m' < m/\W (i + 1) m' σ'' H'')/\∀ x H2,J.yld i H' x H2->g x σ' H2 fun σ2 H3=>tc σ2 H3 fun b H4=>
  if b = true then te σ2 H4 fun v H5=>∃ ys,H5 D = some (.lst ys)/\ys.length < sizeLine/\N σ2 (upd H5 D (.lst (ys ++ [v]))) else N σ2 H4)
variable {elt iter:Expr} {ifs:List Expr}
theorem zb6 {prog:Program} {R:Result->Shared->Prop} {target:Expr} {it acc:Value} {env:Env} (I:Nat->Shared->Prop)
 (turn:∀ n s,I n s->wpAny (model prog w) A (pyNext it) (fun r s₁=>match r with
 | none=>R (.ok .next) s₁
 | some v=>wpAny (model prog w) A (letOwnedTupleGo target it v) (fun _ s₁'=>wpAny (model prog w) A (assign target env v) (fun _ s₂=>
 wpAny (model prog w) A (forIn ifs true fun c r=>if r = true then do let ok ← isTrue c env (eval c env);pure (ForInStep.yield ok) else pure (ForInStep.yield r)) (fun ok s₃=>
 if ok = true then wpAny (model prog w) A (eval elt env) (fun x s₄=>
 wpAny (model prog w) A (call (.builtin "list.append") [acc,x]) (fun _ s₅=>∃ m,m < n/\I m s₅) (notedBy (model prog w) A env fun e s'=>R (.error e) s') s₄) (notedBy (model prog w) A env fun e s'=>R (.error e) s') s₃
 else ∃ m,m < n/\I m s₃) (notedBy (model prog w) A env fun e s'=>R (.error e) s') s₂) (notedBy (model prog w) A env fun e s'=>R (.error e) s') s₁') (notedBy (model prog w) A env fun e s'=>R (.error e) s') s₁) (notedBy (model prog w) A env fun e s'=>R (.error e) s') s)
 (n:Nat) (h:I n s):codeAny (model prog w) A (.compLoop (.ListComp elt [⟨target,iter,ifs,0⟩] scope pos) 0 it acc env) R s:=by
 refine codeAny_loop rfl I (fun n s hI=>?_) n h
 show wpAny _ A ((compTurn (.ListComp elt [⟨target,iter,ifs,0⟩] scope pos) 0 it acc env).onRaise (fun x=>do noteFrame x env;theTreesLotGoes x)) _ _ s
 refine wpAny_noted ?_
 rw [compTurn_list]
 refine Q1 (wpAny_standAt (Q1 (Qd (turn n s hI) (fun r s₁ h₁=>?_) fun _ _ h'=>h')))
 cases r with
 | none=>exact Qc h₁
 | some v=>
  refine Q1 (Qd h₁ (fun _ s₁' h₁'=>?_) fun _ _ h'=>h')
  refine Q1 (Qd h₁' (fun _ s₂ h₂=>Q1 (Qd h₂ (fun ok s₃ h₃=>?_) fun _ _ h'=>h')) fun _ _ h'=>h')
  cases ok with
  | false=>exact Qc ⟨rfl,h₃⟩
  | true=>
   exact Q1 (Q1 (Qd h₃ (fun x s₄ h₄=>Q1 (Qd h₄ (fun _ s₅ h₅=>Qc (Qc ⟨rfl,h₅⟩)) fun _ _ h'=>h')) fun _ _ h'=>h'))
variable {tg:Expr} {wi:TI}
section
theorem zkp {tgs:List Str} {caps:List (Str × Nat)} {g:TG} {tc:TT} {te:TE}
 (hc:X.calm = true) (hi:PI X tg iter wi) (hclos:closureFor scope X.env = pure cl) (hcell:∀ y ∈ scope.names,y.2 = .cell->y.1 ∉ caps.map (·.1)) (hkind:scope.kind = .function)
 (hnames:∀ y ∈ scope.names,y.2 = .local->scope.names.lookup y.1 = some .local)
 (hcl:∀ y c,cl.lookup y = some c->X.env.cells.lookup y = some c)
 (hhas:∀ n y,((relabel scope X.env).names.lookup y = some .cell\/(relabel scope X.env).names.lookup y = some .free)->∃ c,(cellsFrom n scope.names cl).lookup y = some c)
 (hcap:∀ c ∈ caps,X.N[c.2]? = some c.1/\X.env.kindOf c.1 = some .cell/\((relabel scope X.env).names.lookup c.1 = some .cell\/(relabel scope X.env).names.lookup c.1 = some .free))
 (hg:∀ ex s0 H0,PG (X.block scope cl (tgs ++ caps.map (·.1)) ex s0 H0) tg g) (hif:∀ ex s0 H0,PTs (X.block scope cl (tgs ++ caps.map (·.1)) ex s0 H0) ifs tc) (hel:∀ ex s0 H0,PE (X.block scope cl (tgs ++ caps.map (·.1)) ex s0 H0) elt te)
 (hs:∀ x,foldedSetIterable iter X.env x = pure x:=by intro _;rfl) :
  PE X (.ListComp elt [⟨tg,iter,ifs,0⟩] scope pos) (zjD wi g tc te (zbs tgs caps)):=by
 intro pins s σ H Q I h
 rw [eval_ListComp]
 refine wpAny_comprehension_free (use:=none) rfl hs hclos hkind hnames (thn (hi pins s σ H _ I h) fun v s1 h1=>thn h1 fun itv s2 h2=>?_)
 obtain ⟨it,fp,tn,J,H2,e,I2,T,st2,f2,hrest⟩:=h2
 subst e
 -- the new list
 have hD:H2 s2.heap.objs.size = none:=I2.fresh
 obtain ⟨W,⟨m0,w0⟩,turn⟩:=hrest _ hD
 refine Qp ?_ (by show 0<=sizeLine;decide)
 have I3:Inv X pins σ (upd H2 s2.heap.objs.size (.lst [])) { s2 with heap:=s2.heap.push { cls:=.type "list",data:=.seq ([]:List Value).toArray } }:=I2.lnew (t':=s2.toks) (ys:=[]) (its:=[]) .nil (by show 0<=sizeLine;decide)
 generalize hs3:({ s2 with heap:=s2.heap.push { cls:=.type "list",data:=.seq ([]:List Value).toArray } }:Shared) = s3 at I3
 have lt2:∀ b o,s2.heap.get? b = some o->s3.heap.get? b = some o:=fun b o e=>by rw [← hs3];exact Q2 _ e
 have sz3:s2.heap.objs.size < s3.heap.objs.size:=by rw [← hs3];show _ < (s2.heap.push _).objs.size;rw [Heap.size_push];exact Nat.lt_succ_self _
 have st3:tn 0 s3.heap:=T.keep 0 _ _ st2 fun b _ o e=>lt2 b o e
 have fplt:∀ b ∈ fp,b < s2.heap.objs.size:=fun b hb=>by
  obtain ⟨o,e,_⟩:=T.obj 0 _ st2 b hb
  exact Qb e
 generalize hH3:upd H2 s2.heap.objs.size (.lst []) = H3 at I3 w0
 have fr3:∀ b ∈ fp,H3 b = none:=fun b hb=>by rw [← hH3,yf (Qh (fplt b hb))];exact (f2 b hb).1
 have nstk:∀ b ∈ fp,b ∉ frs X.stack:=fun b hb z=>by
  obtain ⟨_,n1,n2,_⟩:=f2 b hb
  rcases mem_cons.mp (I2.stkSub b z) with z | z
  ·exact n1 z
  ·exact n2 z
 refine zam fun h4 ns4 sb4=>?_
 have keep4:∀ b o,s3.heap.get? b = some o->h4.get? b = some o:=fun b o e=>by rw [sb4];exact pushCells_keeps _ _ b o (Q2 _ e)
 have clt:∀ x c,cl.lookup x = some c->c < s3.heap.objs.size:=fun x c e=>by
  obtain ⟨v,q⟩:=I3.cell x c (hcl x c e)
  exact q.lt
 have cor:∀ x c,(cellsFrom (s3.heap.objs.size + 1) scope.names cl).lookup x = some c->cl.lookup x = some c\/s3.heap.objs.size + 1<=c:=fun x c e=>zhj _ _ _ e
 have cne:∀ b ∈ fp,∀ x c,(cellsFrom (s3.heap.objs.size + 1) scope.names cl).lookup x = some c->c ≠ b:=fun b hb x c e=>by
  rcases cor x c e with e | e
  ·exact (f2 b hb).2.2.2.2.1 x c (hcl x c e)
  ·exact Nat.ne_of_gt (Q5 (Nat.lt_trans (fplt b hb) sz3) (Nat.le_of_succ_le e))
 have neC:∀ b ∈ fp,b ≠ s3.heap.objs.size:=fun b hb=>Qh (Nat.lt_trans (fplt b hb) sz3)
 have ok':(X.block scope cl (tgs ++ caps.map (·.1)) fp s3 H3).Ok:=
  ⟨I.ok.mod,hkind,I.ok.glob,I.ok.blt,Q3 _,zfH _ _ _ (fun x y c e1 e2=>I.ok.inj x y c (hcl x c e1) (hcl y c e2)) (fun x c e=>Nat.lt_succ_of_lt (clt x c e)),hhas _,(fun x c z e=>Nat.le_of_succ_le (zfF _ _ _ (eq_of_beq z) e)),I.ok.hd,I.ok.frames,.inl rfl,
   fun b hb=>⟨neC b hb,cne b hb⟩,I3.bs,Qg I.ok.bsz I3.sz,fun b o e hb=>by
    rcases (f2 b hb).2.2.2.1 with z | z
    ·exact I.ok.noex b o e z
    ·exact absurd (Q5 (Qb e) (Qg I.ok.bsz z)) (Ql _),
   nstk,I3.stack,I3.stkFree⟩
 have I4:Inv (X.block scope cl (tgs ++ caps.map (·.1)) fp s3 H3) [] (zbs tgs caps σ) H3 { s3 with heap:=h4 }:=by
  refine ⟨ok',rfl,I3.bare,Un.kept keep4,⟨_,ns4,fun i x v e1 e2 e3=>?_⟩,fun x c e=>?_,I3.hok.fresh (Q3 _),fun x c e=>(cor x c e).elim (fun e=>I3.freeC x c (hcl x c e)) (fun e=>I3.hok.fresh (Nat.le_of_succ_le e)),fun p hp=>by simp [Cx.block] at hp,I3.hok.kept keep4,by simp [zbs,Cx.block]⟩
  ·-- a captured name
   have hlen:(tgs.map (fun _=>(none:Option V))).length = tgs.length:=by simp
   by_cases hi:i < tgs.length
   ·have:(zbs tgs caps σ)[i]? = some none:=by
     unfold zbs
     rw [Q6 (by simpa using hi)]
     simp [hi]
    rw [this] at e2
    cases e2
   ·have e1':(tgs ++ caps.map (·.1))[i]? = some x:=e1
    rw [Q7 (by omega),Q9] at e1'
    have e2':=e2
    unfold zbs at e2'
    rw [Q7 (by simpa using hi),hlen,Q9] at e2'
    cases hcq:caps[i - tgs.length]? with
    | none=>rw [hcq] at e1';cases e1'
    | some cq=>
     rw [hcq] at e1' e2'
     have ex:cq.1 = x:=Qa e1'
     have ev:(σ[cq.2]?).join = some v:=Qa e2'
     obtain ⟨c1,c2,c3⟩:=hcap cq (Q8 hcq)
     have ev':σ[cq.2]? = some (some v):=by
      cases q:σ[cq.2]? with
      | none=>rw [q] at ev;cases ev
      | some o=>rw [q] at ev;cases o with
       | none=>cases ev
       | some v'=>rw [show v' = v from Qa ev]
     obtain ⟨m,hn,hl⟩:=I3.loc
     obtain ⟨u,r,lk⟩:=hl cq.2 cq.1 v c1 ev' (.inr (.inl c2))
     rcases lk with ⟨k1,_⟩ | ⟨_,c,ec,icl⟩
     ·rw [c2] at k1;cases k1
     ·obtain ⟨c',ec'⟩:=hhas (s3.heap.objs.size + 1) cq.1 c3
      have ec2:=ec'
      rw [zfG _ _ _ fun y hy hk hyx=>hcell y hy hk (by rw [hyx];exact mem_map_of_mem (Q8 hcq))] at ec2
      have:=hcl _ _ ec2
      rw [ec] at this
      cases this
      refine ⟨u,r,.inr ⟨?_,c,?_,?_⟩⟩
      ·rw [← ex];exact c3
      ·rw [← ex];exact ec'
      ·obtain ⟨o,ho,hd⟩:=icl
       exact ⟨o,keep4 _ _ ho,hd⟩
  ·show ∃ v,h4.IsCell c v
   rw [sb4]
   refine zeg scope.names _ cl (fun x c f=>?_) x c (by rw [Heap.size_push];exact e)
   obtain ⟨v,o,ho,hd⟩:=I3.cell x c (hcl x c f)
   exact ⟨v,o,Q2 _ ho,hd⟩
 have stat:∀ {H':Hp},(∀ b ∈ fp,H' b = none)->∀ b ∈ fp,zcb (X.block scope cl (tgs ++ caps.map (·.1)) fp s3 H3) [] H' b:=fun hn b hb=>
  ⟨hn b hb,neC b hb,nstk b hb,.inl hb,cne b hb,fun p hp=>by simp [Cx.block] at hp⟩
 have st4:tn 0 h4:=T.keep 0 _ _ st3 fun b _ o e=>keep4 b o e
 have loop:codeAny (model X.prog X.w) X.A (.compLoop (.ListComp elt [⟨tg,iter,ifs,0⟩] scope pos) 0 (.ref it) (.ref s2.heap.objs.size) (zfN scope cl s3.heap.objs.size X.env))
   (compPost (model X.prog X.w) X.A X.xe none (EP X pins σ Q) (.ref s2.heap.objs.size) s3.heap.objs.size) { s3 with heap:=h4 }:=by
  refine zb6 (fun n s'=>∃ i σ' H',Inv (X.block scope cl (tgs ++ caps.map (·.1)) fp s3 H3) [] σ' H' s'/\tn i s'.heap/\(∀ b ∈ fp,H' b = none)/\W i n σ' H') ?_ m0 ⟨0,_,H3,I4,st4,fr3,w0⟩
  rintro n s5 ⟨i,σ5,H5,I5,st5,fr5,w5⟩
  rcases turn i n σ5 H5 w5 with ⟨stop,qn⟩ | ⟨go,N,hN,step⟩
  ·refine Qd (T.done (X.block scope cl (tgs ++ caps.map (·.1)) fp s3 H3) rfl rfl rfl hc i [] s5 σ5 H5 (fun _ _=>False) I5 (stat fr5) st5 stop) (fun r s6 ⟨hr,I6⟩=>?_) fun _ _ z=>False.elim z
   subst hr
   obtain ⟨m6,hn6,_⟩:=I6.loc
   refine ⟨m6,hn6,fun h' sb=>?_⟩
   have nb:∀ b o,s3.heap.get? b = some o->b ≠ s3.heap.objs.size:=fun b o e=>Qh (Qb e)
   have eqb:∀ b,b ≠ s3.heap.objs.size->h'.get? b = s6.heap.get? b:=fun b hb=>sb.2 b hb
   have uX:Un (frs X.stack) fp H3 H5 s3.heap h':=by
    have u:=I6.base
    refine ⟨fun b o e a1 a2 a3=>?_,fun b o e a1 a2 a3=>?_,u.free,fun b o e a3=>?_,u.tups,u.frzs,u.tbls⟩
    ·rw [eqb b (nb b o e)];exact u.keep b o e a1 a2 a3
    ·rw [eqb b (nb b o e)];exact u.slot b o e a1 a2 a3
    ·rw [eqb b (nb b o e)];exact u.there b o e a3
   have hokX:HOk X.prog X.w H5 h':=fun a o e=>(I6.hok a o e).stay (fun b u hb eu=>by
    have hbC:b ≠ s3.heap.objs.size:=fun z=>by
     have hfC:H5 s3.heap.objs.size = none:=I6.free
     rcases hb with rfl | hb
     ·rw [z,hfC] at e;cases e
     ·rw [z,hfC] at hb;cases hb
    rw [eqb b hbC];exact eu) (fun _ q=>q) fun _ _ q=>q
   have os6:s6.os = s3.os:=I6.os
   exact ⟨.ref s2.heap.objs.size,H5,I3.call' (s':={ s6 with heap:=h' }) (ch:=fp) os6 uX hokX I6.bare (fun b hb=>⟨(f2 b hb).2.2.2.1,(f2 b hb).2.1,(f2 b hb).2.2.2.2.1,(f2 b hb).2.2.2.2.2⟩),rfl,qn⟩
  ·refine Qd (T.item (X.block scope cl (tgs ++ caps.map (·.1)) fp s3 H3) rfl rfl rfl hc i [] s5 σ5 H5 (fun _ _=>False) I5 (stat fr5) st5 go) (fun r s6 ⟨u,hr,h6⟩=>?_) fun _ _ z=>False.elim z
   subst hr
   refine Qd h6 (fun _ s7 ⟨x,H7,I7,r7,y7,st7,fr7⟩=>?_) fun _ _ z=>False.elim z
   have I7':=I7.pinned (stat fr7) (T.obj _ _ st7)
   have again:∀ {s9:Shared} {σ9:St} {H9:Hp},Inv (X.block scope cl (tgs ++ caps.map (·.1)) fp s3 H3) ([] ++ zco fp s7.heap) σ9 H9 s9->N σ9 H9->
     ∃ m,m < n/\∃ i σ' H',Inv (X.block scope cl (tgs ++ caps.map (·.1)) fp s3 H3) [] σ' H' s9/\tn i s9.heap/\(∀ b ∈ fp,H' b = none)/\W i m σ' H':=fun {s9 σ9 H9} I9 n9=>by
    obtain ⟨m',hm,w9⟩:=hN σ9 H9 n9
    refine ⟨m',hm,i + 1,σ9,H9,I9.unpinned,T.keep _ _ _ st7 fun b hb o e=>(I9.pin (b,o) (Qj _ (Qj _ (zay hb e)))).1,fun b hb=>?_,w9⟩
    obtain ⟨o,e,d⟩:=T.obj _ _ st7 b hb
    exact (I9.pin (b,o) (Qj _ (Qj _ (zay hb e)))).2.1
   refine Qd (hg fp s3 H3 _ s7 σ5 H7 x u _ I7' r7 (step x H7 y7)) (fun _ s8 ⟨σ8,H8,I8,q8⟩=>?_) fun _ _ z=>False.elim z
   refine Qd (hif fp s3 H3 _ s8 σ8 H8 _ I8 q8) (fun b s9 ⟨H9,I9,q9⟩=>?_) fun _ _ z=>False.elim z
   cases b with
   | false=>
    rw [if_neg Q4] at q9
    rw [if_neg Q4]
    exact again I9 q9
   | true=>
    rw [if_pos rfl] at q9
    rw [if_pos rfl]
    refine Qd (hel fp s3 H3 _ s9 σ8 H9 _ I9 q9) (fun xv s10 ⟨v,H10,I10,rv,ys,hy,hl,q10⟩=>?_) fun _ _ z=>False.elim z
    refine Qd (qX (X:=X.block scope cl (tgs ++ caps.map (·.1)) fp s3 H3) _ s10 σ8 H10 (.ref s2.heap.objs.size) [v] (.ref s2.heap.objs.size) [xv] (fun _ H11=>N σ8 H11) I10 rfl (.cons rv .nil) ⟨_,ys,v,rfl,rfl,hy,hl,q10⟩) (fun _ s11 ⟨_,H11,I11,_,q11⟩=>again I11 q11) fun _ _ z=>False.elim z
 exact codeAny_compStart_list loop (T.self _ 0 _ _ _ st4 loop)
end
noncomputable def Each {α:Type} (P:α->Prop):List α->Prop
 | []=>True
 | a :: l=>P a/\Each P l
theorem Each.of {α:Type} {P:α->Prop}:∀ {l:List α},Each P l->∀ a ∈ l,P a
 | _ :: _,⟨h,_⟩,_,.head _=>h
 | _ :: _,⟨_,h⟩,_,.tail _ m=>Each.of h _ m
variable {l:List (Str × NameKind)}
theorem lookup_mem {y:Str} {k:NameKind} (h:l.lookup y = some k):(y,k) ∈ l:=by
 induction l with
 | nil=>cases h
 | cons p l ih=>
  obtain ⟨n,k'⟩:=p
  rw [lookup_cons] at h
  cases e:y == n with
  | true=>
   rw [e] at h
   cases h
   rw [eq_of_beq e]
   exact .head _
  | false=>
   rw [e] at h
   exact .tail _ (ih h)
theorem zmf (h:Each (fun p=>(p.2 = .cell\/p.2 = .free)->∃ c,cl.lookup p.1 = some c) l) (y:Str) (q:l.lookup y = some .cell\/l.lookup y = some .free):∃ c,cl.lookup y = some c:=by
 rcases q with q | q
 ·exact h.of _ (lookup_mem q) (.inl rfl)
 ·exact h.of _ (lookup_mem q) (.inr rfl)
theorem PI.or {wi':TI} (h:PI X tg iter wi) (h':PI X tg iter wi'):PI X tg iter (fun σ H R=>wi σ H R\/wi' σ H R):=fun pins s σ H R I q=>q.elim (h pins s σ H R I) (h' pins s σ H R I)
section
noncomputable def zmX (K:Frag):R2:=fun x y H Q=>∃ a b xs ys,x = .ref a/\y = .ref b/\SqT K H a xs/\SqT K H b ys/\xs.length + ys.length<=sizeLine /\
 (xs = []->Q (.ref b) H)/\(xs ≠ []->ys = []->Q (.ref a) H)/\(xs ≠ []->ys ≠ []->∀ p,H p = none->Q (.ref p) (upd H p (.tup (xs ++ ys))))
theorem zky:OpR X (binaryOp .Add) (zmX X.K):=by
 intro pins s σ H x y v u Q I rx ry h
 obtain ⟨a,b,xs,ys,rfl,rfl,ha,hb,hz,q0,q1,q2⟩:=h
 by_cases hx:xs = []
 ·cases rx
  cases ry
  obtain ⟨its,r1,p1,_⟩:=I.tuple ha
  obtain ⟨its2,r2,p2,_⟩:=I.tuple hb
  obtain ⟨⟨cls,dd,data,sl⟩,ho,hc,n,hd⟩:=id p1
  obtain ⟨⟨cls2,dd2,data2,sl2⟩,ho2,hc2,n2,hd2⟩:=id p2
  simp only at hc hd hc2 hd2
  subst hc hd hc2 hd2
  have e:its = []:=r1.nil_iff.mpr hx
  exact concat_meets ⟨_,ho,rfl⟩ ⟨_,ho2,rfl⟩ noFill_tuple_add seq_tuple_add PySem.F.slot_tuple_add PySem.F.entry_tuple_add (PySem.F.args_tuple_add_2 _ _)
   (tuple_addW0 a b its.toArray its2.toArray n n2 dd dd2 sl sl2 (by simp [e])) ⟨ho,ho2,⟨.ref b,H,I,rfl,q0 hx⟩⟩
 ·exact zkw pins s σ H _ _ v u Q I rx ry ⟨a,b,xs,ys,rfl,rfl,ha,hb,hx,hz,q1 hx,q2 hx⟩
end
end L2
namespace HT
open PySem PySem.Spec PyProof.Rows
section
variable {prog:Program} {w:World} {A:Around} {E:Value->Shared->Prop} {s:Shared}
theorem zce {t sl:Addr} {items:Array Value} {vl vu:Value} {lo hi:Option Int} {Q:Value->Shared->Prop} (ht:IsTup s.heap t items) (hs:s.heap.IsSliceOf sl vl vu .none) (pl:IsPart vl lo) (pu:IsPart vu hi)
  (hw:sIx items.size 0 lo = 0/\sIx items.size items.size hi = items.size) (h:Q (.ref t) s):wpAny (model prog w) A (getItem (.ref t) (.ref sl)) Q E s:=by
 obtain ⟨os,hos,hcs,hds⟩:=id hs
 have hTs:s.TypeIs (.ref sl) "slice":=⟨os,hos,hcs⟩
 unfold getItem
 try with_reducible refine wpAny_holding ?_
 first | refine Q1 (Qc ?_) | skip
 refine Q1 (wpAny_sequenceKey ht.typeIs (by decide) ?_)
 refine Q1 (wpAny_callSpecial?_slot (name:=Str.ofString "__getitem__") ht.typeIs PyProof.Rows.slot_tuple_getitem
  (wpAny_call_entry PyProof.Rows.slot_tuple_getitem ht.typeIs entry_tuple_getitem ?_ (args_tuple_getitem _ _)))
 show wpAny _ _ (Builtin.Tuple.tupleItemsOf (.ref t) >>= _) _ _ s
 refine Q1 (tupleItemsOf_ ht ?_)
 refine Q1 (wpAny_typeOf hTs ?_)
 rw [if_pos (by decide)]
 refine Q1 (zaP hs pl pu ?_)
 have hyes:(((sIx items.size 0 lo:Nat):Int) == 0 && (1:Int) == 1 && (sIx items.size items.size hi - sIx items.size 0 lo) == items.size) = true:=by
  rw [hw.1,hw.2];simp
 show wpAny _ _ (if (((sIx items.size 0 lo:Nat):Int) == 0 && (1:Int) == 1 && (sIx items.size items.size hi - sIx items.size 0 lo) == items.size) = true then _ else _) _ _ s
 rw [if_pos hyes]
 refine Q1 ?_
 unfold Builtin.Tuple.tupleIsExact
 refine Q1 (wpAny_typeOf ht.typeIs (Qc ?_))
 rw [if_pos (by decide)]
 exact Q1 (wpAny_rule (Qc ⟨_,rfl,Qc h⟩))
end
end HT
namespace L2
open PySem PySem.Spec PyProof.Rows
section
variable {X:Cx}
noncomputable def znJ (K:Frag):V->Option Int->Option Int->Hp->VK->Prop:=fun x lo hi H Q=>∃ a xs,x = .ref a/\SqT K H a xs /\
 ((HT.sIx xs.length 0 lo = 0/\HT.sIx xs.length xs.length hi = xs.length)->Q (.ref a) H)/\(¬ (HT.sIx xs.length 0 lo = 0/\HT.sIx xs.length xs.length hi = xs.length)->∀ p,H p = none->Q (.ref p) (upd H p (.tup (cutV xs lo hi))))
theorem zj1:SlR X (znJ X.K):=by
 intro pins s σ H x v vl vu lo hi sl Q I rx hs pl pu h
 obtain ⟨a,xs,rfl,hx,q1,q2⟩:=h
 by_cases hw:HT.sIx xs.length 0 lo = 0/\HT.sIx xs.length xs.length hi = xs.length
 ·cases rx
  obtain ⟨its,r,ht,hz⟩:=I.tuple hx
  have hlen:its.toArray.size = xs.length:=by rw [Qf];exact r.length.symm
  refine ⟨"tuple",_,PyProof.Rows.slot_tuple_getitem.lookup,ht.typeIs,?_⟩
  refine HT.zce ht hs pl pu (by rw [hlen];exact hw) ⟨.ref a,H,I,rfl,q1 hw⟩
 ·exact zlp pins s σ H _ v vl vu lo hi sl Q I rx hs pl pu ⟨a,xs,rfl,hx,hw,q2 hw⟩
theorem zc8:fillsNumberSlot (.type "tuple") "mul" = pure false:=
 PySem.fillsNumberSlot_seq (id:="tuple.__mul__") (r:=some (.builtin "tuple.__rmul__")) PySem.F.slot_tuple_mul.lookup (by decide +kernel) PySem.F.slot_tuple_rmul.lookup (by decide +kernel)
theorem zfd:seqRepeat? (.type "tuple") = pure (some (.builtin "tuple.__mul__")):=by
 unfold seqRepeat?
 rw [PySem.seqSlot_of (T:="tuple") (name:="__mul__") (id:="tuple.__mul__") PySem.F.slot_tuple_mul.lookup (by decide +kernel),PySem.seqSlot_of (T:="tuple") (name:="__rmul__") (id:="tuple.__rmul__") PySem.F.slot_tuple_rmul.lookup (by decide +kernel)]
 rfl
theorem zdS (a:Int) (t:Tok) (l:Addr) (items:Array Value) (n:Nat) (dd:Option Addr) (sl:Array (Option Value)) :
  Meets (Builtin.«int.__rmul__» ⟨[.int a t,.ref l],[]⟩) (fun _ R s=>s.heap.get? l = some { cls:=.type "tuple",dict:=dd,data:=.seq items n,slots:=sl }/\R (.ok (.ret Value.notImplemented)) s):=
 .of_wp fun prog w A R s h=>by obtain ⟨hp,g,d,tk,os⟩:=s;obtain ⟨hl,h⟩:=h;wp_walk;exact ⟨_,rfl,h⟩
theorem zgI (l:Addr) (items:Array Value) (n:Nat) (x:Int) (u:Tok) (dd:Option Addr) (sl:Array (Option Value)) (h0:items.isEmpty = false) (h1:2<=x) (h2:x < 2 ^ 63) (h3:items.size * x.toNat<=sizeLine) :
  Meets (Builtin.«tuple.__mul__» ⟨[.ref l,.int x u],[]⟩) (fun _ R s=>s.heap.get? l = some { cls:=.type "tuple",dict:=dd,data:=.seq items n,slots:=sl }/\R (.ok (.ret (Value.ref s.heap.objs.size))) { s with heap:=s.heap.push { cls:=Value.type "tuple",data:=Data.seq (List.foldl (fun x1 x2=>x1 ++ x2) #[] (List.replicate x.toNat items)) },toks:=s.toks }):=
 .of_wp fun prog w A R s h=>by
  obtain ⟨hp,g,d,tk,os⟩:=s;obtain ⟨hl,h⟩:=h
  have f1:=AutoSeq1.idx_int
  have hA:¬(decide (x < -2 ^ 63) || decide (x ≥ 2 ^ 63)) = true:=by simp;omega
  have hB:¬(items.isEmpty || x == 1) = true:=by rw [h0];simp;omega
  have hC:¬(decide (x<=0) || items.isEmpty) = true:=by rw [h0];simp;omega
  have hm:((items.size:Nat):Int) * x = ((items.size * x.toNat:Nat):Int):=by
   rw [Int.natCast_mul,Int.toNat_of_nonneg (by omega)]
  have hs2:(sizeLine:Nat)<=(2 ^ 63 - 1) / 8:=by decide
  have hD:¬((items.size:Nat):Int) * x > (2 ^ 63 - 1) / 8:=by rw [hm];omega
  have hE:¬Builtin.Tuple.tupleTooMany (((items.size:Nat):Int) * x) = true:=by
   rw [hm]
   show ¬ decide (((items.size * x.toNat:Nat):Int) > ((sizeLine:Nat):Int)) = true
   rw [decide_eq_true_iff];omega
  have hT:IsTup hp l items:=⟨_,hl,rfl,n,rfl⟩
  wp_walk using wpAny_loadPart' hl
  rw [if_neg hA]
  refine Q1 (tupleItemsOf_ hT ?_)
  show wpAny _ _ (if (items.isEmpty || x == 1) = true then _ else _) _ _ _
  rw [if_neg hB]
  show wpAny _ _ (if (decide (x<=0) || items.isEmpty) = true then _ else _) _ _ _
  rw [if_neg hC]
  show wpAny _ _ (if ((items.size:Nat):Int) * x > (2 ^ 63 - 1) / 8 then _ else _) _ _ _
  rw [if_neg hD]
  show wpAny _ _ (if Builtin.Tuple.tupleTooMany (((items.size:Nat):Int) * x) = true then _ else _) _ _ _
  rw [if_neg hE]
  have hj:(List.foldl (fun x1 x2=>x1 ++ x2) #[] (List.replicate x.toNat items)).size<=sizeLine:=by
   have:=foldl_rep items.toList x.toNat []
   rw [nil_append,Array.toArray_toList] at this
   rw [this,Qf,len_rep,Nat.mul_comm,Array.length_toList]
   exact h3
  exact Q1 (m:=Builtin.Tuple.tupleExact _) (Qp (Qc ⟨_,rfl,h⟩) hj)
noncomputable def zmT (K:Frag):R2:=fun x y H Q=>∃ l k xs,x = .ref l/\y = .int k/\SqT K H l xs/\xs ≠ []/\2<=k/\k < 2 ^ 63/\xs.length * k.toNat<=sizeLine /\
 ∀ p,H p = none->Q (.ref p) (upd H p (.tup (List.replicate k.toNat xs).flatten))
theorem zks:OpR X (binaryOp .Mult) (zmT X.K):=by
 intro pins s σ H x y v u Q I rx ry h
 obtain ⟨l,k,xs,rfl,rfl,hH,hx,h1,h2,hz,q⟩:=h
 cases rx
 obtain ⟨t,rfl⟩:=ry
 obtain ⟨its,r,pl,_⟩:=I.tuple hH
 have hl:=r.length
 obtain ⟨⟨cls,dd,data,sl⟩,ho,hc,n,hd⟩:=id pl
 simp only at hc hd
 subst hc hd
 have hlen:its.toArray.size * k.toNat<=sizeLine:=by rw [Qf,← hl];exact hz
 have hne:its.toArray.isEmpty = false:=by
  cases its with
  | nil=>exact absurd (r.nil_iff.mp rfl) hx
  | cons a b=>rfl
 have hnew:List.foldl (fun x1 x2=>x1 ++ x2) #[] (List.replicate k.toNat its.toArray) = (List.replicate k.toNat its).flatten.toArray:=by
  have:=foldl_rep its k.toNat []
  rw [nil_append] at this
  exact this
 refine wpAny_binaryOp_repeat_ref (T:="tuple") (U:="int") (by decide) ⟨_,ho,rfl⟩ (fun s'=>typeIs_int s' k t) zc8 F.fills_int_mul F.slot_int_rmul zfd F.slot_int_index.lookup
  (call_meets F.slot_int_rmul (typeIs_int s k t) F.entry_int_rmul (F.args_int_rmul_2 _ _) (zdS k t l its.toArray n dd sl)
   ⟨ho,rfl,⟨_,ho,rfl⟩,call_meets F.slot_tuple_mul ⟨_,ho,rfl⟩ F.entry_tuple_mul (F.args_tuple_mul_2 _ _) (zgI l its.toArray n k t dd sl hne h1 h2 hlen) ⟨ho,?_⟩⟩)
 rw [hnew]
 refine ⟨.ref s.heap.objs.size,_,I.laid (t':=s.toks) (o:=.tup (List.replicate k.toNat xs).flatten) (fun b ob q=>Q2 _ q) (Q3 _) ?_,rfl,q _ (I.hok.fresh (Q3 _))⟩
 exact ⟨by rw [len_rep,Nat.mul_comm];exact hz,_,r.rep k.toNat,IsTup.new _ _,NoDict.new⟩
end
end L2
namespace L2
open PySem PySem.Spec PyProof.Rows PySem.Builtin PySem.Builtin.ObjectAttr
inductive Tl (h:Heap) (bmB:List Value) (ns:List Str):List Value->Prop
 | base:Tl h bmB ns bmB
 | own {a:Addr} {c:Value} {dd:Option Addr} {cd:ClassData} {sl:Array (Option Value)} {mA:Str->Option Value} {tl:List Value} (e:h.get? a = some ⟨c,dd,.cls cd,sl⟩) (hn:h.Ns cd.ns mA) (no:∀ n ∈ ns,mA n = none) (t:Tl h bmB ns tl):Tl h bmB ns (.ref a :: tl)
variable {h:Heap}
section
variable {h':Heap} {bmB tl:List Value} {ns:List Str}
theorem Tl.tail (T:Tl h bmB ns tl) (hi:("__init__":Str) ∈ ns):OwnTail h bmB tl:=by
 induction T with
 | base=>exact .base
 | own e hn no _ ih=>exact .own e hn (no _ hi) ih
end
noncomputable abbrev zdA (C:Addr) (t:Addr) (od:Option Addr):Obj:=⟨.ref C,od,.fields #[.ref t,.none,.none,.none,.bool false,.none],#[]⟩
variable {C N:Addr} {A:Around} {g:Array GenState} {ab hdct:Bool} {d:Drawn} {Q:Flow->Shared->Prop} {sn:List Str} {bm:List Value} {M:Model} {dd:Option Addr} {col:Option Bool} {k0 k1 k2 k3 k5:Option Value} {os:OsState} {prog:Program} {s:Shared} {q:Str} {E:Value->Shared->Prop} {w:World}
section
variable {t:Nat}
variable {nm:Str} {fI:Addr} {bs:List Value} {sub:List Value} {mN:Str->Option Value} {rest:List Value} {oI:Obj}
theorem zlg {env:PySem.Env} {x:Sem Value} (hb:bm.contains (.type "BaseException") = true) (hh:A.handled = none)
 (hq:wpAny M A x (fun v s1=>∃ e t od,v = .ref e/\s1.heap.get? C = some (excClassObj nm q C N bs bm hdct sn sub ab col dd k0 k1 k2 k3 k5 "ValueError.__new__")/\s1.heap.get? e = some (zdA C t od)/\E (.ref e) s1) E s) :
  wpAny M A (raiseStmt env (some x) none) Q E s:=by
 have hcB:(Value.ref C :: bm).contains (.type "BaseException") = true:=by rw [List.contains_cons,hb,Bool.or_true]
 unfold raiseStmt
 refine Q1 (Qd hq (fun v s1 h1=>?_) fun _ _ x=>x)
 obtain ⟨e,t,od,rfl,hC,he,hE⟩:=h1
 obtain ⟨hp,g,d,tk,os⟩:=s1
 repeat (first | with_reducible refine wpAny_loadPart_at he ?_ | with_reducible refine wpAny_loadPart_at hC ?_ | (with_reducible refine wpAny_isSubtype_exc hC ?_;rw [hcB]) | wp_step)
 exact wpAny_raiseNew_none hh hE
end
noncomputable def Qt {α:Type}:Sem α->Prop
 | .pure _=>True
 | .raise _=>True
 | .unsupported _=>True
 | .finish _=>True
 | .rule _ k=>Qt (k ())
 | .at _ k=>Qt (k ())
 | .load _ _ k=>∀ o,Qt (k o)
 | .update _ _ f k=>(∀ o:Obj,(f o).dict = o.dict/\(o.isFreed = false->(f o).isFreed = false))/\Qt (k ())
 | .alloc _ k=>∀ a,Qt (k a)
 | .loadIfAlive _ k=>∀ o,Qt (k o)
 | .point _ k=>Qt (k ())
 | .fresh k=>∀ a,Qt (k a)
 | .ask k=>∀ a,Qt (k a)
 | .handled _ k=>∀ a,Qt (k a)
 | .stack k=>∀ a,Qt (k a)
 | _=>False
theorem Qt.bind {α β:Type} {k:α->Sem β} (hk:∀ a,Qt (k a)):∀ {t:Sem α},Qt t->Qt (t >>= k):=by
 intro t
 induction t with
 | pure a=>exact fun _=>hk a
 | raise e=>exact fun _=>trivial
 | unsupported e=>exact fun _=>trivial
 | finish e=>exact fun _=>trivial
 | rule _ _ ih=>exact fun h=>ih () h
 | «at» _ _ ih=>exact fun h=>ih () h
 | load _ _ _ ih=>exact fun h o=>ih o (h o)
 | update _ _ _ _ ih=>exact fun h=>⟨h.1,ih () h.2⟩
 | alloc _ _ ih=>exact fun h o=>ih o (h o)
 | loadIfAlive _ _ ih=>exact fun h o=>ih o (h o)
 | point _ _ ih=>exact fun h=>ih () h
 | fresh _ ih=>exact fun h o=>ih o (h o)
 | ask _ ih=>exact fun h o=>ih o (h o)
 | handled _ _ ih=>exact fun h o=>ih o (h o)
 | stack _ ih=>exact fun h o=>ih o (h o)
 | _=>exact fun h=>h.elim
def Dk (s s':Shared):Prop:=∀ b o,s.heap.get? b = some o->∃ o',s'.heap.get? b = some o'/\o'.dict = o.dict
theorem Dk.refl (s:Shared):Dk s s:=fun _ o e=>⟨o,e,rfl⟩
theorem Dk.trans {a b c:Shared} (h:Dk a b) (g:Dk b c):Dk a c:=fun x o e=>by
 obtain ⟨o1,e1,d1⟩:=h x o e
 obtain ⟨o2,e2,d2⟩:=g x o1 e1
 exact ⟨o2,e2,d2.trans d1⟩
theorem Qt.wp {α:Type} {Γ:PySem.Ctx} {Q:α->Pos->Shared->Prop} {E:Value->Pos->Shared->Prop}:∀ {t:Sem α} {p:Pos} {s:Shared},Qt t->Sem.wp M Γ t Q E p s->Sem.wp M Γ t (fun a p' s'=>Q a p' s'/\Dk s s') (fun e p' s'=>E e p' s'/\Dk s s') p s:=by
 have up:∀ {t:Sem α} {p:Pos} {s s1:Shared},Dk s s1->Sem.wp M Γ t (fun a p' s'=>Q a p' s'/\Dk s1 s') (fun e p' s'=>E e p' s'/\Dk s1 s') p s1->Sem.wp M Γ t (fun a p' s'=>Q a p' s'/\Dk s s') (fun e p' s'=>E e p' s'/\Dk s s') p s1:=fun k h=>
  Sem.wp_mono M Γ _ (fun _ _ _ z=>⟨z.1,k.trans z.2⟩) (fun _ _ _ z=>⟨z.1,k.trans z.2⟩) _ _ h
 intro t
 induction t with
 | pure a=>exact fun _ h=>⟨h,.refl _⟩
 | raise e=>exact fun _ h=>⟨h,.refl _⟩
 | unsupported e=>exact fun _ h=>h
 | finish e=>exact fun _ h=>h
 | rule _ _ ih=>exact fun q h=>ih () q h
 | «at» _ _ ih=>exact fun q h=>ih () q h
 | load _ _ _ ih=>exact fun q ⟨o,e,h⟩=>⟨o,e,ih o (q o) h⟩
 | update a _ f _ ih=>
  intro p s q ⟨e,h⟩
  refine ⟨e,up (fun b o eb=>?_) (ih () q.2 h)⟩
  by_cases hb:b = a
  ·subst hb
   exact ⟨f o,Heap.get?_update_self _ eb ((q.1 o).2 (Heap.get?_some_iff.mp eb).2),(q.1 o).1⟩
  ·exact ⟨o,(Heap.get?_update_ne _ _ _ _ hb).trans eb,rfl⟩
 | alloc ob _ ih=>
  intro p s q h
  exact up (s:=s) (s1:={ s with heap:=s.heap.push ob }) (fun b o eb=>⟨o,Q2 _ eb,rfl⟩) (ih _ (q _) h)
 | loadIfAlive _ _ ih=>exact fun q h=>ih _ (q _) h
 | point _ _ ih=>exact fun q h=>ih () q h
 | fresh _ ih=>
  intro p s q h
  exact up (s:=s) (s1:={ s with toks:=s.toks + 1 }) (fun b o eb=>⟨o,eb,rfl⟩) (ih _ (q _) h)
 | ask _ ih=>exact fun q h=>ih _ (q _) h
 | handled _ _ ih=>exact fun q h=>ih _ (q _) h
 | stack _ ih=>exact fun q h=>ih _ (q _) h
 | _=>exact fun q _=>q.elim
theorem Qt.any {α:Type} {t:Sem α} {Q:α->Shared->Prop} (q:Qt t) (h:wpAny M A t Q E s):wpAny M A t (fun a s'=>Q a s'/\Dk s s') (fun e s'=>E e s'/\Dk s s') s:=fun Γ p hΓ=>q.wp (h Γ p hΓ)
variable {v:Value}
theorem zfX:Qt (fieldsOf v):=by
 unfold fieldsOf
 split
 ·exact Qt.bind (fun o=>by split <;> exact trivial) (fun _=>trivial)
 ·exact trivial
variable {i:Nat}
theorem zbR:Qt (field v i):=by
 unfold field
 exact Qt.bind (fun vs=>by split <;> exact trivial) zfX
theorem zly {f:Array Value->Array Value} (o:Obj):(Obj.mapFields f o).dict = o.dict/\(o.isFreed = false->(Obj.mapFields f o).isFreed = false):=by
 obtain ⟨c,d,dt,sl⟩:=o
 cases dt <;> exact ⟨rfl,fun h=>h⟩
theorem zbn {x:Value} :Qt (setField v i x):=by
 unfold setField
 split
 ·unfold updateField
  refine Qt.bind (fun o=>?_) (fun _=>trivial)
  split
  ·split
   ·exact ⟨zly,trivial⟩
   ·exact trivial
  ·exact trivial
 ·exact trivial
theorem zcn {e:Value} {f:Option Addr}:Qt (setFlight e f):=by
 unfold setFlight
 refine Qt.bind (fun tb=>?_) zbR
 split
 ·exact zbn
 ·exact trivial
theorem zff:∀ l:List PySem.Env,Qt (readyFrames l)
 | []=>trivial
 | env :: outer=>by
  unfold readyFrames
  split
  ·rename_i f _
   refine Qt.bind (fun o=>?_) (fun _=>trivial)
   split
   ·exact trivial
   ·refine Qt.bind (fun b=>Qt.bind (fun k=>?_) ?_) ?_
    ·exact ⟨fun o=>⟨rfl,fun h=>by obtain ⟨c,d,dt,sl⟩:=o;cases dt <;> exact h⟩,zff outer⟩
    ·unfold keptBack
     split
     ·split
      ·exact trivial
      ·unfold underTheClaimsCaller
       exact fun _=>trivial
     ·exact trivial
    ·unfold behindIsImport
     split
     ·exact trivial
     ·split
      ·exact trivial
      ·refine Qt.bind (fun _=>?_) zbR
       exact trivial
  ·exact trivial
theorem zgS {env:PySem.Env}:Qt (PySem.frameOf env):=by
 unfold PySem.frameOf
 refine Qt.bind (fun l=>Qt.bind (fun o=>?_) ?_) (show Qt frameEnvs from fun _=>trivial)
 ·split <;> exact trivial
 ·unfold frameObject
  split
  ·exact trivial
  ·refine Qt.bind (fun _=>?_) (zff _)
   exact trivial
theorem zfW {a b c d e:Value} {l:List Value}:Qt (EntryCells.newEntry a b c d e l):=by
 have nw:∀ dt:Data,Qt (newObjAsIs (.type "traceback") dt):=fun dt _=>trivial
 unfold EntryCells.newEntry newFields newObj
 dsimp only
 generalize (if l.isEmpty = true then List.replicate 6 Value.none else l) = m
 split
 ·exact trivial
 ·exact nw _
variable {f:Addr}
theorem ziS {b:Bool}:Qt (entryPlaceOf f b):=by
 unfold entryPlaceOf
 refine Qt.bind (fun l=>?_) (fun _=>trivial)
 split <;> exact trivial
theorem zgj {e:Value} {env:PySem.Env}:Qt (noteFrame e env):=by
 unfold noteFrame
 split
 ·rename_i f _
  refine Qt.bind (fun hd=>?_) zbR
  have last:Qt (PySem.frameOf env >>= fun a=>entryPlaceOf f (hd != .none) >>= fun p=>EntryCells.newEntry hd a .none (rawInt f) .none p >>= fun n=>setField e 1 n):=Qt.bind (fun a=>Qt.bind (fun p=>Qt.bind (fun n=>zbn) zfW) ziS) zgS
  dsimp only
  split
  ·refine Qt.bind (fun x=>?_) zbR
   split
   ·exact trivial
   ·exact Qt.bind (fun _=>last) zbn
  ·exact last
 ·exact trivial
theorem zgR {e:Value} {env:PySem.Env}:Qt (leaving env e):=by
 unfold leaving
 exact Qt.bind (fun _=>zcn) zgj
noncomputable def ExO (e C:Addr) (od:Option Addr):Heap->Prop:=fun h=>∃ ob,h.get? e = some ob/\ob.cls = .ref C/\ob.dict = od/\∀ c,ob.data ≠ .cls c
noncomputable def ExN (e C t:Addr) (od:Option Addr):Heap->Prop:=fun h=>h.get? e = some (zdA C t od)
noncomputable def zan (H:Hp) (e:Addr):Hp:=fun b=>if b = e then none else H b
variable {e:Addr} {H:Hp}
theorem zaF {b:Addr} (h:b ≠ e):zan H e b = H b:=if_neg h
theorem zhx:zan H e e = none:=if_pos rfl
variable {X:Cx} {pins:List (Addr × Obj)} {σ:St}
section
theorem Inv.let {φ:Heap->Prop} (I:Inv X pins σ H s) (he:H e = some (.ext φ)):Inv X pins σ (zan H e) s:=by
 have nh:∀ b u,H b = some u->(∀ ψ,u ≠ .ext ψ)->b ≠ e:=fun b u q n z=>by rw [z,he] at q;cases q;exact n φ rfl
 have nn:∀ b,H b = none->zan H e b = none:=fun b q=>by
  unfold zan
  split
  ·rfl
  ·exact q
 refine ⟨I.ok,I.os,I.bare,⟨I.base.keep,I.base.slot,fun b ob q n x=>nn b (I.base.free b ob q n x),I.base.there,fun b xs q=>?_,fun b u xs q=>?_,fun b ps q=>?_⟩,I.loc,I.cell,nn _ I.free,fun x c q=>nn _ (I.freeC x c q),fun p q=>?_,?_,I.len⟩
 ·have:=I.base.tups b xs q;rw [zaF (nh b _ this (fun _ z=>by cases z))];exact this
 ·have:=I.base.frzs b u xs q;rw [zaF (nh b _ this (fun _ z=>by cases z))];exact this
 ·obtain ⟨m,this⟩:=I.base.tbls b ps q;exact ⟨m,by rw [zaF (nh b _ this (fun _ z=>by cases z))];exact this⟩
 ·obtain ⟨a,b,c⟩:=I.pin p q
  exact ⟨a,nn _ b,c⟩
 ·intro b u q
  by_cases hb:b = e
  ·subst hb;rw [zhx] at q;cases q
  ·rw [zaF hb] at q
   exact (I.hok b u q).stay (fun _ _ _ z=>z) (fun c z=>by rw [zaF (nh c _ z (fun _ y=>by cases y))];exact z) fun c xs z=>by rw [zaF (nh c _ z (fun _ y=>by cases y))];exact z
end
noncomputable def CXX (P:Program) (w:World):CXT:=fun l H s E ev s'=>∃ (e t C:Addr) (oe:Obj) (B:Heap) (H':Hp),ev = .ref e/\Heap.FlyingW B l e (.ref C) (.ref t) s'.heap/\s'.heap.get? e = some oe/\s'.os = s.os/\AllBare s'.gens /\
 Un (frs l) [] H H' s.heap s'.heap/\HOk P w H' s'.heap/\(∀ b o,s'.heap.get? b = some o->b ∉ frs l->(H' b ≠ none\/∃ o',s.heap.get? b = some o')->B.get? b = some o)/\(∀ b ∈ frs l,H' b = none)/\E (.ref C) oe.dict H'
variable {t:Addr} {od:Option Addr}
section
variable {E:XK}
theorem zk6 {s1:Shared} {B:Heap} (I:Inv X pins σ H s) (hst:X.stack = X.env :: X.outer) (hf:X.env.frame = some X.env.locals) (hex:X.ex = [])
 (hE:E (.ref C) od H) (hB:∀ b o,s.heap.get? b = some o->b ∉ frs X.stack->(H b ≠ none\/∃ o',X.s₀.heap.get? b = some o')->B.get? b = some o) (fl:Heap.FlyingW B X.outer e (.ref C) (.ref t) s1.heap) (up:s.heap.UpToSlots s1.heap) (hd:∃ oe,s1.heap.get? e = some oe/\oe.dict = od)
 (os:s1.os = s.os) (ge:s1.gens = s.gens):CXX X.prog X.w X.outer X.H₀ X.s₀ E (.ref e) s1:=by
 obtain ⟨oe,he,hod⟩:=hd
 have u0:Un (frs X.outer) [] X.H₀ H X.s₀.heap s.heap:=by have:=I.base;rw [hex] at this;exact this
 have sub1:∀ b ∈ frs X.outer,b ∈ frs X.stack:=fun b hb=>by
  rw [hst];unfold frs
  rw [filterMap_cons,hf]
  exact mem_cons_of_mem _ hb
 have nst:∀ b o,s.heap.get? b = some o->b ∉ frs X.outer->(H b ≠ none\/∃ o',X.s₀.heap.get? b = some o')->b ∉ frs X.stack:=fun b o e1 n1 q1 hm=>by
  rw [hst] at hm
  unfold frs at hm
  rw [filterMap_cons,hf] at hm
  rcases mem_cons.mp hm with z | z
  ·rcases q1 with q1 | ⟨o',q1⟩
   ·rw [z] at q1;exact q1 I.free
   ·rw [z] at q1;exact absurd (Qb q1) (Nat.not_lt.mpr I.ok.above)
  ·exact n1 z
 have hB1:∀ b o,s.heap.get? b = some o->b ∉ frs X.outer->(H b ≠ none\/∃ o',X.s₀.heap.get? b = some o')->B.get? b = some o:=fun b o e1 n1 q1=>hB b o e1 (nst b o e1 n1 q1) q1
 have hfr:∀ b ∈ frs X.outer,H b = none:=fun b hb=>I.stkFree b (sub1 b hb)
 have hfn:∀ b ∈ frs X.outer,∀ o,s.heap.get? b = some o->∀ vs,o.data ≠ .fields vs:=fun b hb o e1=>by
  obtain ⟨_,o',e2,n2⟩:=I.stack.mem (sub1 b hb)
  rw [e1] at e2;cases e2
  exact n2
 obtain ⟨un2,hok2⟩:=zjB u0 I.hok hB1 hfr hfn fl.1 up
 refine ⟨e,t,C,oe,B,H,rfl,fl,he,os.trans I.os,by rw [ge];exact I.bare,un2,hok2,fun b o e1 n1 q1=>?_,hfr,by rw [hod];exact hE⟩
 have hex2:∃ o1,s.heap.get? b = some o1:=by
  rcases q1 with q1 | ⟨o',q1⟩
  ·cases z:H b with
   | none=>exact absurd z q1
   | some u=>exact (I.hok b u z).there
  ·exact u0.there b o' q1 (by simp)
 obtain ⟨o1,e2⟩:=hex2
 have e3:=hB1 b o1 e2 n1 q1
 have e4:=fl.1 b o1 e3
 rw [e1] at e4;cases e4
 exact e3
theorem zk7 (I:Inv X pins σ H s) (hst:X.stack = X.env :: X.outer) (hf:X.env.frame = some X.env.locals) (hex:X.ex = [])
 (hxe:X.xe = fun ev s'=>wpAny (model X.prog X.w) X.A (leaving X.env ev) (fun _ s''=>CXX X.prog X.w X.outer X.H₀ X.s₀ E ev s'') (fun e' s''=>CXX X.prog X.w X.outer X.H₀ X.s₀ E e' s'') s')
 (he:s.heap.get? e = some (zdA C t od)) (hn:H e = none) (h0:X.s₀.heap.get? e = none) (hE:E (.ref C) od H):X.xe (.ref e) s:=by
 rw [hxe]
 have hfrm:X.A.frames = some (X.env :: X.outer):=by rw [I.ok.frames,hst]
 have hff:s.heap.FunFrames X.base (X.env :: X.outer):=by have:=I.stack;rw [hst] at this;exact this
 have hin:∀ env ∈ (X.env :: X.outer),∀ b,env.frame = some b->b ∈ e :: frs (X.env :: X.outer):=fun env he b hb=>mem_cons_of_mem _ (mem_filterMap.mpr ⟨env,he,hb⟩)
 have w1:=zgR.any (wpAny_leaving_firstW (M:=model X.prog X.w) (E:=fun _ _=>False) (base:=PySem.W.hideAll s.heap (e :: frs (X.env :: X.outer))) (a0:=.ref t) (Q:=fun _ s2=>∃ h',s2 = { s with heap:=h' }/\Heap.LeftW (PySem.W.hideAll s.heap (e :: frs (X.env :: X.outer))) (X.env :: X.outer) e (.ref C) (.ref t) s.heap h') hfrm (PySem.W.funFrames_hide hff hin) hf he (fun b o e1=>PySem.W.of_hideAll _ e1) (PySem.W.hideAll_none _ (mem_cons_self ..)) rfl rfl rfl fun h' a=>⟨h',rfl,a⟩)
 refine Qd w1 ?_ fun _ _ z=>z.1.elim
 rintro _ s2 ⟨⟨h',rfl,k1,⟨_,_,k2⟩,k3,k4⟩,dk⟩
 refine zk6 (s1:={ s with heap:=h' }) I hst hf hex hE (fun b o e1 n1 q1=>?_) ⟨k1,PySem.W.hideAll_none _ (mem_cons_self ..),k2,k3⟩ k4 (dk e _ he) rfl rfl
 refine PySem.W.hideAll_get _ e1 fun hm=>?_
 rcases mem_cons.mp hm with z | z
 ·rcases q1 with q1 | ⟨o',q1⟩
  ·rw [z] at q1;exact q1 hn
  ·rw [z,h0] at q1;cases q1
 ·rw [hst] at n1;exact n1 z
end
noncomputable abbrev xns:List Str:=["__setattr__","at","__getattribute__","__getattr__"]
structure XcAt (K:Frag) (mg:Str->Option Value) (x:Str) (C fI:Addr):Prop where
 bound:mg x = some (.ref C)
 obj:∀ h:Heap,K.In h->∃ bm N nm q bs sn sub ab col dd k0 k1 k2 k3 k5 mN,h.get? C = some (excClassObj nm q C N bs bm true sn sub ab col dd k0 k1 k2 k3 k5 "ValueError.__new__")/\h.Ns N mN/\mN "__init__" = some (.ref fI)/\(∀ n ∈ xns,mN n = none)/\Tl h zdl ("__init__" :: xns) bm
 fn:∃ oI,K.lookup fI = some oI/\oI.cls = .type "function"
variable {pos:Pos}
section
variable {E:XK} {o value:Expr} {ta tv:TE} {pos':Pos}
theorem Inv.new0 (I:Inv X pins σ H s) (hex:X.ex = []) (he:s.heap.get? e = none):X.s₀.heap.get? e = none/\H e = none/\e ≠ X.env.locals/\(∀ x c,X.env.cells.lookup x = some c->c ≠ e)/\∀ p ∈ X.pn ++ pins,p.1 ≠ e:=by
 refine ⟨?_,?_,fun z=>?_,fun x c q z=>?_,fun p q z=>?_⟩
 ·cases q:X.s₀.heap.get? e with
  | none=>rfl
  | some u=>
   obtain ⟨o',e'⟩:=I.base.there e u q (by rw [hex];simp)
   rw [he] at e';cases e'
 ·cases q:H e with
  | none=>rfl
  | some u=>
   obtain ⟨o',e'⟩:=(I.hok e u q).there
   rw [he] at e';cases e'
 ·obtain ⟨m,⟨ob,_,_,e',_⟩,_⟩:=I.loc
  rw [← z,he] at e';cases e'
 ·obtain ⟨v,ob,e',_⟩:=I.cell x c q
  rw [z,he] at e';cases e'
 ·have:=(I.pin p q).1
  rw [z,he] at this;cases this
end
variable {np:Pos} {x:Str}
section
variable {env:PySem.Env}
variable {nm:Str} {bs:List Value} {sub:List Value}
theorem zgQ {cpos:Pos} {args:List Expr} (hb:bm.contains (.type "BaseException") = true) (hh:A.handled = none) (hp:(backTo cpos (starEach args env)).any (·.1) = false)
 (h:wpAny (model prog w) A (eval (.Name x np) env) (fun f s1=>f = .ref C/\wpAny (model prog w) A (evalArgs (.ref C) true (backTo cpos (starEach args env)) []) (fun a s2=>a.kw = []/\s2.heap.get? C = some (excClassObj nm q C N bs bm hdct sn sub ab col dd k0 k1 k2 k3 k5 "ValueError.__new__") /\
 wpAny (model prog w) A (call (.ref C) a.pos) (fun v s3=>∃ e t od,v = .ref e/\s3.heap.get? C = some (excClassObj nm q C N bs bm hdct sn sub ab col dd k0 k1 k2 k3 k5 "ValueError.__new__")/\s3.heap.get? e = some (zdA C t od)/\E (.ref e) s3) E s2) E s1) E s) :
  wpAny (model prog w) A (exec (.Raise (some (.Call (.Name x np) args [] cpos)) none pos) env) Q E s:=by
 rw [arm_exec_Raise]
 refine Q1 (wpAny_standAt (zlg (C:=C) (nm:=nm) (q:=q) (N:=N) (bs:=bs) (bm:=bm) (hdct:=hdct) (sn:=sn) (sub:=sub) (ab:=ab) (col:=col) (dd:=dd) (k0:=k0) (k1:=k1) (k2:=k2) (k3:=k3) (k5:=k5) hb hh ?_))
 try simp only [evalOpt,Option.map]
 refine Q1 (Qd (wpAny_Call_ofName (Qd h (fun f s1 h1=>?_) fun _ _ y=>y)) (fun v s3 h3=>Q1 (wpAny_standAt (Qc h3))) fun _ _ y=>y)
 obtain ⟨rfl,h1⟩:=h1
 unfold callWith
 refine Q1 (wpAny_holding (Qd h1 (fun a s2 h2=>Q1 (wpAny_standAt ?_)) fun _ _ y=>y))
 obtain ⟨ap,ak⟩:=a
 obtain ⟨hkw,hC,h2⟩:=h2
 obtain rfl:ak = []:=hkw
 obtain ⟨hp',g,d,tk,os⟩:=s2
 simp only [hp]
 refine Q1 (wpAny_keeperOf_exc hC (Q1 (Qd h2 (fun v s3 h3=>Q1 (wpAny_holding (wpAny_point (Qc ?_)))) fun _ _ y=>y)))
 exact h3
end
structure Sup (K:Frag) (mg:Str->Option Value) (y:Str) (C C':Addr):Prop where
 bound:mg y = some (.ref C)
 obj:∀ h:Heap,K.In h->(∃ bm N nm q bs hdct sn sub ab col dd k0 k1 k2 k3 k5,h.get? C = some (excClassObj nm q C N bs bm hdct sn sub ab col dd k0 k1 k2 k3 k5 "ValueError.__new__")/\bm.contains (.type "BaseException") = true) /\
  ∃ bm N nm q bs hdct sn sub ab col dd k0 k1 k2 k3 k5,h.get? C' = some (excClassObj nm q C' N bs bm hdct sn sub ab col dd k0 k1 k2 k3 k5 "ValueError.__new__")/\(Value.ref C' :: bm).contains (.ref C) = true
theorem zih {nm nm' q':Str} {C' N':Addr} {bs bs' bm':List Value} {hd hd':Bool} {sn':List Str} {sub sub':List Value} {ab':Bool} {col':Option Bool} {dd':Option Addr} {j0 j1 j2 j3 j5:Option Value}
 {t:Nat} {oe:Obj} {Q:Bool->Shared->Prop} (hC:h.get? C = some (excClassObj nm q C N bs bm hd sn sub ab col dd k0 k1 k2 k3 k5 "ValueError.__new__")) (hC':h.get? C' = some (excClassObj nm' q' C' N' bs' bm' hd' sn' sub' ab' col' dd' j0 j1 j2 j3 j5 "ValueError.__new__"))
 (he:h.get? e = some oe) (hc:oe.cls = .ref C') (hb:bm.contains (.type "BaseException") = true) (hm:(Value.ref C' :: bm').contains (.ref C) = true) (hq:Q true ⟨h,g,d,t,os⟩):wpAny M A (excMatches (.ref e) (.ref C)) Q E ⟨h,g,d,t,os⟩:=by
 have hcB:(Value.ref C :: bm).contains (.type "BaseException") = true:=by rw [List.contains_cons,hb,Bool.or_true]
 have f:=tc_notTuple
 unfold excMatches
 repeat (first | (with_reducible refine wpAny_loadPart_at he ?_;rw [hc]) | with_reducible refine wpAny_loadPart_at hC ?_ | (with_reducible refine wpAny_isSubtype_exc hC ?_;rw [hcB]) | (with_reducible refine wpAny_isSubtype_exc hC' ?_;rw [hm]) | wp_step)
 exact hq
variable {D:Ends} {hp:Pos} {s':Shared} {b0:Stmt} {y:Str} {th:TS} {ev:Value}
section
variable {suite:List Stmt} {rest:List ExceptHandler}
theorem ziq {E:XK} {nmo:Option Str} (hg:Gl X y) (hst:X.stack = X.env :: X.outer) (hf:X.env.frame = some X.env.locals) (hex:X.ex = []) (I:Inv X pins σ H s)
  (hq:CXX X.prog X.w X.stack H s E ev s') (hS:∀ C' od H',E (.ref C') od H'->Sup X.K X.mg y C C')
  (go:∀ e t C' od B H' h5,(∀ h6,B.StaysIn h6->h5.UpToSlots h6->Inv X pins σ H' { s' with heap:=h6 })->Heap.FlyingW B X.stack e (.ref C') (.ref t) h5->(∃ oe,h5.get? e = some oe/\oe.dict = od)->
   (X.s₀.heap.get? e = none/\H' e = none/\e ≠ X.env.locals/\(∀ x c,X.env.cells.lookup x = some c->c ≠ e)/\∀ p ∈ X.pn ++ pins,p.1 ≠ e)->E (.ref C') od H'->
   codeAny (model X.prog X.w) (X.A.mark (some (.ref e))) (.handlers (.ref e) [.ExceptHandler none nmo (b0 :: suite) hp] X.env) (fun r s2=>match r with
     | .ok f=>(match nmo with
      | none=>SP X pins D f s2
      | some n=>wpAny (model X.prog X.w) X.A (do bindName X.env n .none;unbindBehindTheSuite X.env n hp) (fun _ s3=>SP X pins D f s3) X.xe s2)
     | .error x=>cameBackBy (model X.prog X.w) X.A X.env X.xe x s2) { s' with heap:=h5 }) (hd:(y == ("__debug__":Str)) = false:=by decide) :
  wpAny (model X.prog X.w) X.A (noteFrame ev X.env) (fun _ s2=>wpAny (model X.prog X.w) X.A (setFlight ev none) (fun _ s3=>wpAny (model X.prog X.w) X.A (handleBy ev X.env (.ExceptHandler (some (.Name y np)) nmo (b0 :: suite) hp :: rest)) (SP X pins D) X.xe s3) X.xe s2) X.xe s':=by
 obtain ⟨e,t,C',oe,B,H',rfl,fl,he,os,bare,un,hok,hB,hfr,hE⟩:=hq
 have hfrm:X.A.frames = some (X.env :: X.outer):=by rw [I.ok.frames,hst]
 have hfn:∀ b ∈ frs X.stack,∀ o,s'.heap.get? b = some o->∀ vs,o.data ≠ .fields vs:=fun b hb o e1=>by
  obtain ⟨_,o',e2,n2⟩:=fl.2.2.1.mem hb
  rw [e1] at e2;cases e2
  exact n2
 have inv_at:∀ h2:Heap,B.StaysIn h2->s'.heap.UpToSlots h2->Inv X pins σ H' { s' with heap:=h2 }:=fun h2 st up=>by
  obtain ⟨un2,hok2⟩:=zjB un hok hB hfr hfn st up
  exact I.call' (s':={ s' with heap:=h2 }) (ch:=[]) os un2 hok2 bare (fun b z=>absurd z (by simp))
 have ne:s.heap.get? e = none:=by
  cases q:s.heap.get? e with
  | none=>rfl
  | some u=>
   have hf2:e ∉ frs X.stack:=fun hm=>by
    obtain ⟨oe',h1,_⟩:=fl.there
    obtain ⟨oe2,vs2,h2,_,h3,_⟩:=fl.first
    exact hfn e hm oe2 h2 vs2 h3
   have:=hB e oe he hf2 (.inr ⟨u,q⟩)
   rw [fl.2.1] at this;cases this
 have he0:H' e = none:=by
  cases q:H' e with
  | none=>rfl
  | some u=>
   have hf2:e ∉ frs X.stack:=fun hm=>by
    obtain ⟨oe2,vs2,h2,_,h3,_⟩:=fl.first
    exact hfn e hm oe2 h2 vs2 h3
   have:=hB e oe he hf2 (.inl (by rw [q];simp))
   rw [fl.2.1] at this;cases this
 obtain ⟨b1,_,b3,b4,b5⟩:=I.new0 hex ne
 obtain ⟨⟨bm,N,nm,q,bs,hdct,sn,sub,ab,col,dd,k0,k1,k2,k3,k5,hC,hcb⟩,bm',N',nm',q',bs',hdct',sn',sub',ab',col',dd',j0,j1,j2,j3,j5,hC',hcc⟩:=(hS C' oe.dict H' hE).obj X.base I.ok.mod.kin
 rw [hst] at fl
 refine Qd (zgj.any (wpAny_looks_onW (M:=model X.prog X.w) (E:=fun _ _=>False) (Q:=fun _ s2=>∃ h4,s2 = { s' with heap:=h4 }/\Heap.HeldW B (X.env :: X.outer) e (.ref C') (.ref t) X.env.locals h4/\s'.heap.UpToSlots h4) hfrm hf fl fun h' a b=>⟨h',rfl,a,b⟩)) ?_ fun _ _ z=>z.1.elim
 rintro _ s4 ⟨⟨h4,rfl,hl4,up4⟩,dk4⟩
 refine Qd (zcn.any (wpAny_landsW (M:=model X.prog X.w) (A:=X.A) (E:=fun _ _=>False) (s:={ s' with heap:=h4 }) (Q:=fun _ s2=>∃ h5,s2 = { s' with heap:=h5 }/\Heap.FlyingW B (X.env :: X.outer) e (.ref C') (.ref t) h5/\h4.UpToSlots h5) hl4 fun h' a b=>⟨h',rfl,a,b⟩)) ?_ fun _ _ z=>z.1.elim
 rintro _ s5 ⟨⟨h5,rfl,fl5,up5⟩,dk5⟩
 have up45:=up4.trans up5
 have I5:=inv_at h5 fl5.1 up45
 have d5:=(dk4.trans dk5) e oe he
 refine wpAny_handleBy_cons (codeAny_handlers_test ?_) (by intro z;cases z)
 refine zbB (X:=X.suite e) (I5.suite e) hg (hS C' oe.dict H' hE).bound ?_ hd
 obtain ⟨o5,ge5,gd5⟩:=d5
 obtain ⟨o5',ge5',gc5⟩:=fl5.there
 rw [ge5] at ge5';cases ge5'
 refine zih (I5.bk _ _ hC) (I5.bk _ _ hC') ge5 gc5 hcb hcc ?_
 refine go e t C' oe.dict B H' h5 (fun h6 st up=>inv_at h6 st (up45.trans up)) (by rw [hst];exact fl5) ⟨o5,ge5,gd5⟩ ⟨b1,he0,b3,b4,b5⟩ hE
end
section
variable {suite:List Stmt} {rest:List ExceptHandler}
theorem zla (hg:Gl X y) (hst:X.stack = X.env :: X.outer) (hf:X.env.frame = some X.env.locals) (hex:X.ex = []) (I:Inv X pins σ H s)
  (hq:CXX X.prog X.w X.stack H s (fun cv _ H2=>∃ C',cv = .ref C'/\Sup X.K X.mg y C C'/\th D σ H2) ev s') (hs:∀ ev,PSs (X.suite ev) (b0 :: suite) th) (hd:(y == ("__debug__":Str)) = false:=by decide) :
  wpAny (model X.prog X.w) X.A (noteFrame ev X.env) (fun _ s2=>wpAny (model X.prog X.w) X.A (setFlight ev none) (fun _ s3=>wpAny (model X.prog X.w) X.A (handleBy ev X.env (.ExceptHandler (some (.Name y np)) none (b0 :: suite) hp :: rest)) (SP X pins D) X.xe s3) X.xe s2) X.xe s':=by
 refine ziq hg hst hf hex I hq (fun C' od H' ⟨C2,e,S,_⟩=>by cases e;exact S) (fun e t C' od B H' h5 ia fl dk nw ⟨C2,e2,S,ht⟩=>?_) hd
 refine codeAny_handlers_suite (lands_againW fl fun h6 fl6 up6=>?_)
 have I6:=ia h6 fl6.1 up6
 exact Qd (hs e pins _ σ H' D (I6.suite e) ht) (fun f s3 q3=>q3.unsuite I6.ok) fun _ _ z=>False.elim z
end
def PX (X:Cx) (sts:List Stmt) (t:XK->TS):Prop:=
 ∀ (E:XK) (pins:List (Addr × Obj)) (s:Shared) (σ:St) (H:Hp) (D:Ends),Inv X pins σ H s->t E D σ H->
  wpAny (model X.prog X.w) X.A (execs sts X.env) (SP X pins D) (fun ev s'=>∃ H1 s1,Inv X pins σ H1 s1/\CXX X.prog X.w X.stack H1 s1 E ev s') s
section
variable {k:Nat} {fd:FuncData} {ps:List Str} {sp:Sp} {v n:Str} {p pos2 tp vp:Pos} {e c:Expr} {es:List Expr} {ta:TA} {tc:TT} {suite sts b1 b2:List Stmt} {t t1 t2:XK->TS} {j:Nat}
theorem zmQ {E:XK} {Q:VK} (F:FnOk X.prog X.w X.K X.mg X.base (CXX X.prog X.w) k f fd ps sp) (hr:Room k X.A) (hg:Gl X x) (hm:X.mg x = some (.ref f)) (hk:PySem.W.keepIn X.K (.ref f) = true) (hb:Binds X.K fd ps [])
 (ha:∀ E',PA (X.wish E') (e :: es) ta) (hdb:(x == ("__debug__":Str)) = false) (he:starEach (e :: es) X.env = (false,eval e X.env) :: starEach es X.env) (hpl:(backTo pos (starEach es X.env)).any (·.1) = false) (I:Inv X pins σ H s) (h:ta σ H fun vs H1=>sp vs H1 Q E) :
  wpAny (model X.prog X.w) X.A (eval (.Call (.Name x p) (e :: es) [] pos) X.env) (EP X pins σ Q) (fun ev s'=>∃ H1 s1,Inv X pins σ H1 s1/\CXX X.prog X.w X.stack H1 s1 E ev s') s:=by
 refine wpAny_Call_Name_kw (zbB (X:=X) I hg hm ?_ hdb)
 refine PySem.W.callWith_K (h₀:=X.base) I.ok.mod.kin hk (thn (ha (fun ev s'=>∃ H1 s1,Inv X pins σ H1 s1/\CXX X.prog X.w X.stack H1 s1 E ev s') pos pins s σ H _ (I.wish _) h) fun us s1 ⟨vs,H1,I1,r,q⟩=>⟨I1.kIn,?_⟩) he hpl
 have hl:us.length = ps.length:=by rw [← r.length];exact F.len _ _ _ _ q
 have I1':=I1.unwish
 refine wpAny_call (codeAny_mono (F.run X.A X.stack s1 H1 ⟨us,[]⟩ us vs _ _ hr I1'.env0 (by have:=hb s1 us I1'.kIn (by rw [append_nil];exact hl);rw [append_nil] at this;exact this) r q) fun r s' hq=>?_)
 cases r with
 | error ee=>exact ⟨H1,s1,I1',hq⟩
 | ok fl=>
  cases fl with
  | ret u=>exact I1'.after hq
  | next=>exact False.elim hq
  | brk=>exact False.elim hq
  | cont=>exact False.elim hq
theorem zlz (hN:X.N.Nodup) (hi:X.N[i]? = some v) (hv:X.env.scope.names.lookup v = some .local) (F:FnOk X.prog X.w X.K X.mg X.base (CXX X.prog X.w) k f fd ps sp) (hr:Room k X.A) (hg:Gl X x) (hm:X.mg x = some (.ref f)) (hk:PySem.W.keepIn X.K (.ref f) = true) (hb:Binds X.K fd ps []) (ha:∀ E',PA (X.wish E') (e :: es) ta)
  (hdb:(x == ("__debug__":Str)) = false:=by decide) (he:starEach (e :: es) X.env = (false,eval e X.env) :: starEach es X.env:=by rfl) (hpl:(backTo pos (starEach es X.env)).any (·.1) = false:=by rfl) (hsw:swapsWith (.Call (.Name x p) (e :: es) [] pos) (some (.Name v vp)) pos2.line X.env = pure false:=by rfl) :
  PX X [.Assign [.Name v vp] (.Call (.Name x p) (e :: es) [] pos) pos2] (fun E D σ H=>ta σ H fun vs H1=>sp vs H1 (fun w H2=>D.nx (σ.set i (some w)) H2) E):=by
 intro E pins s σ H D I h
 refine wpAny_execs_cons (Qd (Q:=SP X pins D) (wpAny_Assign_Name (thn (zmQ F hr hg hm hk hb ha hdb he hpl I h) fun u s1 ⟨w,H1,I1,r,q⟩=>?_) hsw) (fun fl s1 q=>?_) fun _ _ z=>z)
 ·exact zc2 I1 hN hi (.inl hv) r (fun s2 I2=>⟨_,H1,I2,q⟩) (.inr hv)
 ·cases fl with
  | next=>exact wpAny_execs_nil q
  | brk=>exact q
  | cont=>exact q
  | ret u=>exact q
theorem zke (hb:PX X sts t) (hgy:Gl X y) (hst:X.stack = X.env :: X.outer) (hf:X.env.frame = some X.env.locals) (hex:X.ex = []) (hs:∀ ev,PSs (X.suite ev) (b0 :: suite) th) (hdy:(y == ("__debug__":Str)) = false:=by decide) :
  PS X (.Try sts [.ExceptHandler (some (.Name y np)) none (b0 :: suite) hp] [] [] tp) (fun D σ H=>t (fun cv _ H2=>∃ C',cv = .ref C'/\Sup X.K X.mg y C C'/\th D σ H2) D σ H):=by
 intro pins s σ H D I h
 refine wpAny_Try_except (Qd (hb _ pins s σ H D I h) (fun fl s1 q=>?_) fun ev s1 ⟨H1,s0,I1,hq⟩=>?_)
 ·cases fl with
  | next=>exact wpAny_execs_nil q
  | brk=>exact q
  | cont=>exact q
  | ret u=>exact q
 ·exact zla hgy hst hf hex I1 hq hs hdy
end
end L2
namespace FT
open PySem PySem.Spec PyProof.Rows L2
noncomputable def noStar:Expr->Bool
 | .Starred _ _=>false
 | _=>true
variable {e:Expr} {es:List Expr}
theorem qt {env:PySem.Env} (h:noStar e = true):starEach (e :: es) env = (false,eval e env) :: starEach es env:=by
 cases e <;> first | rfl | cases h
variable {pos:Pos}
theorem q5 {env:PySem.Env} :∀ {es:List Expr},es.all noStar = true->(backTo pos (starEach es env)).any (·.1) = false:=by
 intro es h
 have h1:(starEach es env).any (·.1) = false:=by
  induction es with
  | nil=>rfl
  | cons e es ih=>
   rw [all_cons,Qo] at h
   rw [qt h.1,any_cons,ih h.2]
   rfl
 have h2:∀ l:List (Bool × Sem Value),l.any (·.1) = false->(backTo pos l).any (·.1) = false:=by
  intro l hl
  unfold backTo
  rw [List.any_map]
  exact hl
 exact h2 _ h1
inductive T where
 | non | bl (b:Bool) | int (i:Int) | str (x:Str) | ty (n:String) | tup (xs:List T) | lst (xs:List T) | ref (a:Nat) | dct (kvs:List (Key × T)) | exc (C:Addr) (fs:List (Str × T))
inductive Cell where
 | lst (xs:List T) | dic (kvs:List (Key × T)) | ins (C:Addr) (fs:List (Str × T))
noncomputable abbrev Mem:=List Cell
noncomputable abbrev Ev:=List (Option T)
inductive Out (β:Type) where
 | ok (b:β) (M:Mem) | exn (C:Addr) (fs:List (Str × T)) (M:Mem) | bad
noncomputable def Out.bind {β γ:Type} (o:Out β) (k:β->Mem->Out γ):Out γ:=match o with
 | .ok b M=>k b M
 | .exn C fs M=>.exn C fs M
 | .bad=>.bad
theorem zld {β γ:Type} (b:β) (M:Mem) (k:β->Mem->Out γ):(Out.ok b M).bind k = k b M:=rfl
theorem zn5 {β γ:Type} (k:β->Mem->Out γ):(Out.bad:Out β).bind k = .bad:=rfl
structure Sit where
 α:Nat->Addr
 M:Mem
 H:Hp
 hid:List Addr
def Sit.off (S:Sit) (p:Addr):Prop:=(∀ a,a < S.M.length->S.α a ≠ p)/\p ∉ S.hid
def KL (K:Frag) (a:Addr) (xs:List V):Prop:=
 ∃ (o:Obj) (its:Array Value) (n:Nat),K.lookup a = some o/\o.cls = .type "list"/\o.dict = none/\o.data = .seq its n/\its.size<=sizeLine/\Vals xs its.toList
inductive Rep (K:Frag) (S:Sit):T->V->Prop where
 | non:Rep K S .non .non
 | bl (b:Bool):Rep K S (.bl b) (.bl b)
 | int (i:Int):Rep K S (.int i) (.int i)
 | str (x:Str):Rep K S (.str x) (.str x)
 | ty (x:String):Rep K S (.ty x) (.ty x)
 | tup {ts:List T} {p:Addr} {vs:List V} (h:SqT K S.H p vs) (l:ts.length = vs.length) (r:∀ (i:Nat) t v,ts[i]? = some t->vs[i]? = some v->Rep K S t v):Rep K S (.tup ts) (.ref p)
 | lst {ts:List T} {p:Addr} {vs:List V} (h:(Rd S.H p (.lst vs)/\S.off p)\/KL K p vs) (l:ts.length = vs.length) (r:∀ (i:Nat) t v,ts[i]? = some t->vs[i]? = some v->Rep K S t v):Rep K S (.lst ts) (.ref p)
 | ref {a:Nat} (h:a < S.M.length):Rep K S (.ref a) (.ref (S.α a))
 | dct {kvs:List (Key × T)} {us:List (Key × V)} {p:Addr} {o:Obj} (h:S.H p = some (.frz o (.dK us))) (l:kvs.map (·.1) = us.map (·.1)) (r:∀ (i:Nat) t v,(kvs.map (·.2))[i]? = some t->(us.map (·.2))[i]? = some v->Rep K S t v):Rep K S (.dct kvs) (.ref p)
 | exc {C:Addr} {fs:List (Str × T)} {us:List (Str × V)} {p:Addr} {od:Option Addr} (h:S.H p = some (.ext (ExO p C od))) (hd:(od = none/\us = [])\/∃ d,od = some d/\S.H d = some (.xd us)) (l:fs.map (·.1) = us.map (·.1)) (r:∀ (i:Nat) t v,(fs.map (·.2))[i]? = some t->(us.map (·.2))[i]? = some v->Rep K S t v):Rep K S (.exc C fs) (.ref p)
def Reps (K:Frag) (S:Sit) (ts:List T) (vs:List V):Prop:=ts.length = vs.length/\∀ (i:Nat) t v,ts[i]? = some t->vs[i]? = some v->Rep K S t v
def RepF (K:Frag) (S:Sit) (fs:List (Str × T)) (us:List (Str × V)):Prop:=fs.map (·.1) = us.map (·.1)/\Reps K S (fs.map (·.2)) (us.map (·.2))
def RepK (K:Frag) (S:Sit) (fs:List (Key × T)) (us:List (Key × V)):Prop:=fs.map (·.1) = us.map (·.1)/\Reps K S (fs.map (·.2)) (us.map (·.2))
noncomputable def CellOk (K:Frag) (S:Sit) (p:Addr):Cell->Prop
 | .lst ts=>∃ vs,S.H p = some (.lst vs)/\Reps K S ts vs
 | .dic kvs=>∃ us,S.H p = some (.dK us)/\RepK K S kvs us
 | .ins C fs=>∃ dx us,S.H p = some (.ins C dx us)/\RepF K S fs us
structure MemOk (K:Frag) (S:Sit):Prop where
 cell:∀ a c,S.M[a]? = some c->CellOk K S (S.α a) c
 inj:∀ a b,a < S.M.length->b < S.M.length->S.α a = S.α b->a = b
 hd:∀ p ∈ S.hid,(∀ a,a < S.M.length->S.α a ≠ p)/\∃ vs,S.H p = some (.lst vs)
structure Grow (S S':Sit):Prop where
 le:S.M.length<=S'.M.length
 al:∀ a,a < S.M.length->S'.α a = S.α a
 fr:∀ a,S.M.length<=a->a < S'.M.length->S.H (S'.α a) = none
 kp:∀ b o,S.H b = some o->S.off b->S'.H b = some o
 hk:∀ p ∈ S.hid,p ∈ S'.hid/\S'.H p = S.H p
 hf:∀ p ∈ S'.hid,p ∈ S.hid\/S.H p = none
structure Stp (K:Frag) (S S':Sit):Prop extends Grow S S' where
 mok:MemOk K S'
variable {p:Addr} {c:Cell} {ts:List T} {vs:List V} {S':Sit} {t:T} {v:V}
section
variable {K:Frag} {S S'':Sit}
theorem MemOk.some (m:MemOk K S) {a:Nat} (h:a < S.M.length):∃ o,S.H (S.α a) = Option.some o/\Mut (Option.some o):=by
 have e:S.M[a]? = Option.some S.M[a]:=by simp [h]
 have c:=m.cell a _ e
 cases q:S.M[a] with
 | lst ts=>rw [q] at c;obtain ⟨vs,e,_⟩:=c;exact ⟨_,e,trivial⟩
 | dic ts=>rw [q] at c;obtain ⟨vs,e,_⟩:=c;exact ⟨_,e,trivial⟩
 | ins C fs=>rw [q] at c;obtain ⟨dx,vs,e,_⟩:=c;exact ⟨_,e,trivial⟩
theorem MemOk.off_of (m:MemOk K S) {o:Option HO} (e:S.H p = o) (h:¬ Mut o):S.off p:=by
 refine ⟨fun a ha z=>?_,fun z=>?_⟩
 ·obtain ⟨o',e',mu⟩:=m.some ha
  rw [z,e] at e'
  rw [e'] at h
  exact h mu
 ·obtain ⟨_,vs,q⟩:=m.hd p z
  rw [e] at q
  rw [q] at h
  exact h trivial
theorem MemOk.off_ext (m:MemOk K S) {φ:Heap->Prop} (e:S.H p = Option.some (.ext φ)):S.off p:=by
 refine ⟨fun a ha z=>?_,fun z=>?_⟩
 ·have ea:S.M[a]? = Option.some S.M[a]:=by simp [ha]
  have c:=m.cell a _ ea
  cases q:S.M[a] with
  | lst ts=>rw [q] at c;obtain ⟨vs,e',_⟩:=c;rw [z,e] at e';cases e'
  | dic ts=>rw [q] at c;obtain ⟨vs,e',_⟩:=c;rw [z,e] at e';cases e'
  | ins C fs=>rw [q] at c;obtain ⟨dx,vs,e',_⟩:=c;rw [z,e] at e';cases e'
 ·obtain ⟨_,vs,q⟩:=m.hd p z
  rw [e] at q;cases q
theorem MemOk.off_none (m:MemOk K S) (e:S.H p = none):S.off p:=m.off_of e (fun z=>z)
theorem Grow.tup (g:Grow S S') (m:MemOk K S) (h:SqT K S.H p vs):SqT K S'.H p vs:=by
 rcases h with (h | ⟨o,h⟩) | h
 ·exact .inl (.inl (g.kp _ _ h (m.off_of h (fun z=>z))))
 ·exact .inl (.inr ⟨o,g.kp _ _ h (m.off_of h (fun z=>z))⟩)
 ·exact .inr h
theorem Grow.off (g:Grow S S') {o:HO} (h:S.H p = some o) (f:S.off p):S'.off p:=by
 refine ⟨fun a ha z=>?_,fun z=>?_⟩
 ·by_cases hl:a < S.M.length
  ·rw [g.al a hl] at z;exact f.1 a hl z
  ·have:=g.fr a (Nat.le_of_not_lt hl) ha
   rw [z,h] at this
   cases this
 ·rcases g.hf p z with q | q
  ·exact f.2 q
  ·rw [h] at q;cases q
theorem Grow.rd (g:Grow S S') {u:HO} (h:Rd S.H p u) (f:S.off p):Rd S'.H p u/\S'.off p:=by
 rcases h with h | ⟨o,h⟩
 ·exact ⟨.inl (g.kp _ _ h f),g.off h f⟩
 ·exact ⟨.inr ⟨o,g.kp _ _ h f⟩,g.off h f⟩
theorem Rep.grow (m:MemOk K S) (g:Grow S S') (r:Rep K S t v):Rep K S' t v:=by
 induction r with
 | non=>exact .non
 | bl b=>exact .bl b
 | int b=>exact .int b
 | str b=>exact .str b
 | ty b=>exact .ty b
 | tup h l _ ih=>exact .tup (g.tup m h) l ih
 | lst h l _ ih=>
  refine .lst ?_ l ih
  rcases h with ⟨h,f⟩ | h
  ·exact .inl (g.rd h f)
  ·exact .inr h
 | ref h=>rw [← g.al _ h];exact .ref (Q5 h g.le)
 | dct h l _ ih=>exact .dct (g.kp _ _ h (m.off_of h (fun z=>z))) l ih
 | exc h hd l _ ih=>exact .exc (g.kp _ _ h (m.off_ext h)) (hd.imp (fun z=>z) fun ⟨d,a,b⟩=>⟨d,a,g.kp _ _ b (m.off_of b (fun z=>z))⟩) l ih
theorem Reps.grow (m:MemOk K S) (g:Grow S S') (r:Reps K S ts vs):Reps K S' ts vs:=⟨r.1,fun i t v e1 e2=>(r.2 i t v e1 e2).grow m g⟩
theorem RepF.grow (m:MemOk K S) (g:Grow S S') {ts:List (Str × T)} {vs:List (Str × V)} (r:RepF K S ts vs):RepF K S' ts vs:=⟨r.1,r.2.grow m g⟩
theorem RepK.grow (m:MemOk K S) (g:Grow S S') {ts:List (Key × T)} {vs:List (Key × V)} (r:RepK K S ts vs):RepK K S' ts vs:=⟨r.1,r.2.grow m g⟩
theorem Reps.nil:Reps K S [] []:=⟨rfl,fun _ _ _ e _=>by simp at e⟩
theorem Reps.cons (r:Rep K S t v) (rs:Reps K S ts vs):Reps K S (t :: ts) (v :: vs):=by
 refine ⟨by simp [rs.1],fun i a b e1 e2=>?_⟩
 cases i with
 | zero=>simp at e1 e2;subst e1;subst e2;exact r
 | succ i=>exact rs.2 i a b (by simpa using e1) (by simpa using e2)
theorem Reps.nil_inv (r:Reps K S ts []):ts = []:=List.length_eq_zero_iff.mp (by rw [r.1];rfl)
theorem Reps.consT (r:Reps K S (t :: ts) vs):∃ v vs',vs = v :: vs'/\Rep K S t v/\Reps K S ts vs':=by
 cases vs with
 | nil=>have:=r.1;simp at this
 | cons v vs'=>exact ⟨v,vs',rfl,r.2 0 t v rfl rfl,by have:=r.1;simpa using this,fun i a b e1 e2=>r.2 (i + 1) a b (by simpa using e1) (by simpa using e2)⟩
theorem Reps.nilT (r:Reps K S [] vs):vs = []:=List.length_eq_zero_iff.mp (by rw [← r.1];rfl)
theorem Reps.app {ts':List T} {vs':List V} (r:Reps K S ts vs) (r':Reps K S ts' vs'):Reps K S (ts ++ ts') (vs ++ vs'):=by
 induction ts generalizing vs with
 | nil=>rw [r.nilT];exact r'
 | cons t ts ih=>
  obtain ⟨v,vs1,rfl,r1,r2⟩:=r.consT
  exact (ih r2).cons r1
theorem Reps.get (r:Reps K S ts vs) {i:Nat} (e:ts[i]? = some t):∃ v,vs[i]? = some v/\Rep K S t v:=by
 have hi:i < vs.length:=by rw [← r.1];exact (List.getElem?_eq_some_iff.mp e).1
 have e2:vs[i]? = some vs[i]:=by simp [hi]
 exact ⟨_,e2,r.2 i t _ e e2⟩
theorem Reps.set (r:Reps K S ts vs) (q:Rep K S t v) (j:Nat):Reps K S (ts.set j t) (vs.set j v):=by
 refine ⟨by simp [r.1],fun i a b e1 e2=>?_⟩
 rw [getElem?_set] at e1 e2
 by_cases h:j = i
 ·subst h
  by_cases hl:j < ts.length
  ·rw [if_pos rfl,if_pos hl] at e1
   rw [if_pos rfl,if_pos (by rw [← r.1];exact hl)] at e2
   cases e1;cases e2;exact q
  ·rw [if_pos rfl,if_neg hl] at e1;cases e1
 ·rw [if_neg h] at e1 e2
  exact r.2 i a b e1 e2
theorem Reps.sub (r:Reps K S ts vs) (a b:Nat):Reps K S ((ts.drop a).take b) ((vs.drop a).take b):=by
 refine ⟨by simp [r.1],fun i x y e1 e2=>?_⟩
 rw [getElem?_take] at e1 e2
 split at e1
 ·rename_i h
  rw [if_pos h] at e2
  rw [getElem?_drop] at e1 e2
  exact r.2 _ x y e1 e2
 ·cases e1
theorem CellOk.grow (m:MemOk K S) (g:Grow S S') (e:S'.H p = S.H p) (h:CellOk K S p c):CellOk K S' p c:=by
 cases c with
 | lst ts=>obtain ⟨vs,q,r⟩:=h;exact ⟨vs,by rw [e];exact q,r.grow m g⟩
 | dic ts=>obtain ⟨vs,q,r⟩:=h;exact ⟨vs,by rw [e];exact q,r.grow m g⟩
 | ins C ts=>obtain ⟨dx,vs,q,r⟩:=h;exact ⟨dx,vs,by rw [e];exact q,r.grow m g⟩
theorem Stp.refl (m:MemOk K S):Stp K S S:=⟨⟨Q3 _,fun _ _=>rfl,fun a h1 h2=>absurd (Q5 h2 h1) (Ql _),fun _ _ e _=>e,fun _ h=>⟨h,rfl⟩,fun _ h=>.inl h⟩,m⟩
theorem Stp.trans (a:Stp K S S') (b:Stp K S' S''):Stp K S S'':=by
 have nn:∀ p,S'.H p = none->S.H p = none:=fun p hn=>by
  cases q:S.H p with
  | none=>rfl
  | some o=>
   by_cases f:S.off p
   ·rw [a.kp _ _ q f] at hn;cases hn
   ·exfalso
    apply f
    refine ⟨fun c hc z=>?_,fun z=>?_⟩
    ·have h3:c < S'.M.length:=Q5 hc a.le
     obtain ⟨o',e',_⟩:=a.mok.some h3
     rw [a.al c hc,z,hn] at e'
     cases e'
    ·rw [(a.hk p z).2,q] at hn;cases hn
 refine ⟨⟨Qg a.le b.le,fun i hi=>(b.al i (Q5 hi a.le)).trans (a.al i hi),fun i h1 h2=>?_,fun p o e f=>b.kp _ _ (a.kp _ _ e f) (a.off e f),fun p h=>⟨(b.hk p (a.hk p h).1).1,(b.hk p (a.hk p h).1).2.trans (a.hk p h).2⟩,fun p h=>?_⟩,b.mok⟩
 ·by_cases hl:i < S'.M.length
  ·rw [b.al i hl];exact a.fr i h1 hl
  ·exact nn _ (b.fr i (Nat.le_of_not_lt hl) h2)
 ·rcases b.hf p h with q | q
  ·exact a.hf p q
  ·exact .inr (nn p q)
theorem Stp.new (m:MemOk K S) (hp:S.H p = none) (o:HO):Stp K S ⟨S.α,S.M,upd S.H p o,S.hid⟩:=by
 have g:Grow S ⟨S.α,S.M,upd S.H p o,S.hid⟩:=⟨Q3 _,fun _ _=>rfl,fun a h1 h2=>absurd (Q5 h2 h1) (Ql _),fun b u e _=>by show upd S.H p o b = _;rw [yf (zl e hp)];exact e,fun q h=>⟨h,by obtain ⟨_,vs,e⟩:=m.hd q h;exact yf (zl e hp)⟩,fun q h=>.inl h⟩
 refine ⟨g,⟨fun a c e=>?_,m.inj,fun q h=>?_⟩⟩
 rotate_left
 ·obtain ⟨h1,vs,e⟩:=m.hd q h
  exact ⟨h1,vs,(yf (zl e hp)).trans e⟩
 refine (m.cell a c e).grow m g ?_
 have ha:a < S.M.length:=(List.getElem?_eq_some_iff.mp e).1
 exact yf ((m.off_none hp).1 a ha)
noncomputable def Sit.more (S:Sit) (p:Addr) (o:HO) (c:Cell):Sit:=⟨fun a=>if a = S.M.length then p else S.α a,S.M ++ [c],upd S.H p o,S.hid⟩
theorem Grow.more (m:MemOk K S) (hp:S.H p = none) (o:HO) (c:Cell):Grow S (S.more p o c):=by
 refine ⟨by show _<=(S.M ++ [c]).length;simp,fun a h=>if_neg (Qh h),fun a h1 h2=>?_,fun b u e _=>?_,fun q h=>⟨h,by obtain ⟨_,vs,e⟩:=m.hd q h;exact yf (zl e hp)⟩,fun q h=>.inl h⟩
 ·have h3:a < (S.M ++ [c]).length:=h2
  have:a = S.M.length:=by simp at h3;omega
  show S.H (if a = S.M.length then p else S.α a) = none
  rw [if_pos this];exact hp
 ·show upd S.H p o b = _;rw [yf (zl e hp)];exact e
theorem Stp.more (m:MemOk K S) (hp:S.H p = none) (o:HO) (c:Cell) (hc:CellOk K (S.more p o c) p c):Stp K S (S.more p o c):=by
 have g:=Grow.more m hp o c
 refine ⟨g,⟨fun a d e=>?_,fun a b h1 h2 e=>?_,fun q h=>?_⟩⟩
 rotate_right
 ·obtain ⟨h1,vs,e⟩:=m.hd q h
  refine ⟨fun a ha z=>?_,vs,(yf (zl e hp)).trans e⟩
  have z':(if a = S.M.length then p else S.α a) = q:=z
  by_cases hl:a = S.M.length
  ·rw [if_pos hl] at z';rw [← z',hp] at e;cases e
  ·rw [if_neg hl] at z'
   have h3:a < (S.M ++ [c]).length:=ha
   exact h1 a (by simp at h3;omega) z'
 ·have e':(S.M ++ [c])[a]? = some d:=e
  by_cases ha:a < S.M.length
  ·rw [Q6 ha] at e'
   show CellOk K _ (if a = S.M.length then p else S.α a) d
   rw [if_neg (Qh ha)]
   exact (m.cell a d e').grow m g (yf ((m.off_none hp).1 a ha))
  ·rw [Q7 (Nat.le_of_not_lt ha)] at e'
   have h3:a - S.M.length = 0:=by
    cases q:a - S.M.length with
    | zero=>rfl
    | succ k=>rw [q] at e';simp at e'
   rw [h3] at e'
   cases e'
   show CellOk K _ (if a = S.M.length then p else S.α a) c
   rw [if_pos (by omega)]
   exact hc
 ·have h1':a < (S.M ++ [c]).length:=h1
  have h2':b < (S.M ++ [c]).length:=h2
  have e':(if a = S.M.length then p else S.α a) = (if b = S.M.length then p else S.α b):=e
  simp at h1' h2'
  by_cases ha:a = S.M.length
  ·by_cases hb:b = S.M.length
   ·omega
   ·rw [if_pos ha,if_neg hb] at e'
    exact absurd e'.symm ((m.off_none hp).1 b (by omega))
  ·by_cases hb:b = S.M.length
   ·rw [if_neg ha,if_pos hb] at e'
    exact absurd e' ((m.off_none hp).1 a (by omega))
   ·rw [if_neg ha,if_neg hb] at e'
    exact m.inj a b (by omega) (by omega) e'
noncomputable def Sit.put (S:Sit) (a:Nat) (o:HO) (c:Cell):Sit:=⟨S.α,S.M.set a c,upd S.H (S.α a) o,S.hid⟩
theorem Grow.put (m:MemOk K S) {a:Nat} (ha:a < S.M.length) (o:HO) (c:Cell):Grow S (S.put a o c):=by
 refine ⟨by show _<=(S.M.set a c).length;simp,fun _ _=>rfl,fun b h1 h2=>?_,fun b u e f=>?_,fun q h=>⟨h,yf (Ne.symm ((m.hd q h).1 a ha))⟩,fun q h=>.inl h⟩
 ·have h3:b < (S.M.set a c).length:=h2
  simp at h3
  exact absurd (Q5 h3 h1) (Ql _)
 ·show upd S.H (S.α a) o b = _
  rw [yf (Ne.symm (f.1 a ha))];exact e
theorem Stp.put (m:MemOk K S) {a:Nat} (ha:a < S.M.length) (o:HO) (c:Cell) (hc:CellOk K (S.put a o c) (S.α a) c):Stp K S (S.put a o c):=by
 have g:=Grow.put m ha o c
 refine ⟨g,⟨fun b d e=>?_,fun i j h1 h2 e=>?_,fun q h=>?_⟩⟩
 rotate_right
 ·obtain ⟨h1,vs,e⟩:=m.hd q h
  refine ⟨fun b hb z=>?_,vs,(yf (Ne.symm (h1 a ha))).trans e⟩
  have h3:b < (S.M.set a c).length:=hb
  simp at h3
  exact h1 b h3 z
 ·have e':(S.M.set a c)[b]? = some d:=e
  rw [getElem?_set] at e'
  by_cases h:a = b
  ·subst h
   rw [if_pos rfl,if_pos ha] at e'
   cases e'
   exact hc
  ·rw [if_neg h] at e'
   refine (m.cell b d e').grow m g (yf fun z=>h ?_)
   exact (m.inj b a (List.getElem?_eq_some_iff.mp e').1 ha z).symm
 ·have h1':i < (S.M.set a c).length:=h1
  have h2':j < (S.M.set a c).length:=h2
  simp at h1' h2'
  exact m.inj i j h1' h2' e
end
def EvR (K:Frag) (S:Sit) (στ:Ev) (σ:L2.St):Prop:=στ.length = σ.length/\∀ (i:Nat) t,στ[i]? = some (some t)->∃ v,σ[i]? = some (some v)/\Rep K S t v
class Mo (K:Frag) {β γ:Type} (R:Sit->β->γ->Prop):Prop where
 mo:∀ {S S' b c},MemOk K S->Stp K S S'->R S b c->R S' b c
noncomputable def UnR:Sit->Unit->Unit->Prop:=fun _ _ _=>True
noncomputable def EqR {β:Type}:Sit->β->β->Prop:=fun _ b c=>b = c
noncomputable def PrR {A AV B BV:Type} (RA:Sit->A->AV->Prop) (RB:Sit->B->BV->Prop):Sit->A × B->AV × BV->Prop:=fun S a v=>RA S a.1 v.1/\RB S a.2 v.2
instance (K):Mo K (Rep K):=⟨fun m s r=>r.grow m s.toGrow⟩
instance (K):Mo K (Reps K):=⟨fun m s r=>r.grow m s.toGrow⟩
instance (K):Mo K (EvR K):=⟨fun m s r=>⟨r.1,fun i t e=>let ⟨v,e',q⟩:=r.2 i t e;⟨v,e',q.grow m s.toGrow⟩⟩⟩
instance (K):Mo K UnR:=⟨fun _ _ r=>r⟩
instance (K) {β:Type}:Mo K (EqR (β:=β)):=⟨fun _ _ r=>r⟩
instance (K) {A AV B BV:Type} (RA:Sit->A->AV->Prop) (RB:Sit->B->BV->Prop) [Mo K RA] [Mo K RB]:Mo K (PrR RA RB):=⟨fun m s r=>⟨Mo.mo m s r.1,Mo.mo m s r.2⟩⟩
def zmG (K:Frag) (S:Sit) (fs:List (Str × T)) (od:Option Addr):Prop:=(fs = []/\od = none)\/∃ d us,od = some d/\S.H d = some (.xd us)/\RepF K S fs us
def Fin {β γ:Type} (XE:XK) (R:Sit->β->γ->Prop) (K:Frag) (S:Sit) (o:Out β) (Q:γ->Hp->Prop):Prop:=match o with
 | .ok b M'=>∀ S' c,S'.M = M'->Stp K S S'->R S' b c->Q c S'.H
 | .exn C fs M'=>∀ S' od,S'.M = M'->Stp K S S'->zmG K S' fs od->XE (.ref C) od S'.H
 | .bad=>False
variable {S1:Sit} {XE:XK}
theorem Fin.later {β γ:Type} {R:Sit->β->γ->Prop} {K:Frag} {S:Sit} {o:Out β} {Q:γ->Hp->Prop} (s:Stp K S S1) (h:Fin XE R K S o Q):Fin XE R K S1 o Q:=by
 cases o with
 | ok b M'=>exact fun S' c e s' r=>h S' c e (s.trans s') r
 | exn C fs M'=>exact fun S' c e s' r=>h S' c e (s.trans s') r
 | bad=>exact h
theorem Fin.mono {β γ:Type} {R:Sit->β->γ->Prop} {K:Frag} {S:Sit} {o:Out β} {Q Q':γ->Hp->Prop} (i:∀ c H,Q c H->Q' c H) (h:Fin XE R K S o Q):Fin XE R K S o Q':=by
 cases o with
 | ok b M'=>exact fun S' c e s' r=>i _ _ (h S' c e s' r)
 | exn C fs M'=>exact h
 | bad=>exact h
def LN {A AV β γ:Type} (XE:XK) (R:Sit->β->γ->Prop) (K:Frag) (RA:Sit->A->AV->Prop) (k:A->Ev->Mem->Out β) (av:AV) (σ:L2.St) (H:Hp) (Q:γ->Hp->Prop):Prop:=
 ∃ (S:Sit) (στ:Ev) (a:A),S.H = H/\MemOk K S/\EvR K S στ σ/\RA S a av/\Fin XE R K S (k a στ S.M) Q
def L0 {A AV β γ:Type} (XE:XK) (R:Sit->β->γ->Prop) (K:Frag) (RA:Sit->A->AV->Prop) (k:A->Mem->Out β) (av:AV) (H:Hp) (Q:γ->Hp->Prop):Prop:=
 ∃ (S:Sit) (a:A),S.H = H/\MemOk K S/\RA S a av/\Fin XE R K S (k a S.M) Q
variable {H:Hp} {σ:L2.St}
section
variable {K:Frag}
theorem LN.bind {A AV B BV β γ:Type} {R:Sit->β->γ->Prop} {RA:Sit->A->AV->Prop} {RB:Sit->B->BV->Prop} [Mo K RA] {f:A->Ev->Mem->Out B} {k:A->B->Ev->Mem->Out β} {av:AV} {Q:γ->Hp->Prop}
 (h:LN XE R K RA (fun a σ M=>(f a σ M).bind fun b M1=>k a b σ M1) av σ H Q) :
  LN XE RB K RA f av σ H (fun bv H1=>LN XE R K (PrR RA RB) (fun ab=>k ab.1 ab.2) (av,bv) σ H1 Q):=by
 obtain ⟨S,στ,a,e,m,ev,ra,fin⟩:=h
 refine ⟨S,στ,a,e,m,ev,ra,?_⟩
 replace fin:Fin XE R K S ((f a στ S.M).bind fun b M1=>k a b στ M1) Q:=fin
 cases q:f a στ S.M with
 | bad=>rw [q] at fin;exact fin
 | exn C fs M'=>rw [q] at fin;exact fin
 | ok b M1=>
  rw [q] at fin
  intro S1 c e1 s1 r1
  refine ⟨S1,στ,(a,b),rfl,s1.mok,Mo.mo m s1 ev,⟨Mo.mo m s1 ra,r1⟩,?_⟩
  rw [e1]
  exact fin.later s1
theorem LN.mono {A AV β γ:Type} {R:Sit->β->γ->Prop} {RA:Sit->A->AV->Prop} {k:A->Ev->Mem->Out β} {av:AV} {Q Q':γ->Hp->Prop} (h:LN XE R K RA k av σ H Q) (i:∀ c H,Q c H->Q' c H):LN XE R K RA k av σ H Q':=by
 obtain ⟨S,στ,a,e,m,ev,ra,fin⟩:=h
 exact ⟨S,στ,a,e,m,ev,ra,fin.mono i⟩
theorem LN.env {A AV β γ:Type} {R:Sit->β->γ->Prop} {RA:Sit->A->AV->Prop} {f:Ev->Mem->Out β} {av:AV} {Q:γ->Hp->Prop} (h:LN XE R K RA (fun _ σ M=>f σ M) av σ H Q):LN XE R K UnR (fun _ σ M=>f σ M) () σ H Q:=by
 obtain ⟨S,στ,a,e,m,ev,ra,fin⟩:=h
 exact ⟨S,στ,(),e,m,ev,trivial,fin⟩
end
noncomputable def lE (XE:XK) (K:Frag) (f:Ev->Mem->Out T):TE:=fun σ H Q=>LN XE (Rep K) K UnR (fun _ σ M=>f σ M) () σ H Q
noncomputable def lT (XE:XK) (K:Frag) (f:Ev->Mem->Out Bool):TT:=fun σ H Q=>LN XE EqR K UnR (fun _ σ M=>f σ M) () σ H Q
noncomputable def lA (XE:XK) (K:Frag) (f:Ev->Mem->Out (List T)):TA:=fun σ H Q=>LN XE (Reps K) K UnR (fun _ σ M=>f σ M) () σ H Q
def GE (X:Cx) (XE:XK) (e:Expr) (f:Ev->Mem->Out T):Prop:=PE X e (lE XE X.K f)
def GT (X:Cx) (XE:XK) (e:Expr) (f:Ev->Mem->Out Bool):Prop:=PT X e (lT XE X.K f)
def GW (X:Cx) (XE:XK) (e:Expr) (f:Ev->Mem->Out Bool):Prop:=PW X e (lT XE X.K f)
def GA (X:Cx) (XE:XK) (es:List Expr) (f:Ev->Mem->Out (List T)):Prop:=PA X es (lA XE X.K f)
variable {X:Cx}
theorem PE.imp {t t':TE} (h:PE X e t) (i:∀ σ H Q,t' σ H Q->t σ H Q):PE X e t':=fun pins s σ H Q I q=>h pins s σ H Q I (i σ H Q q)
variable {t':TT}
theorem PT.imp {t:TT} (h:PT X e t) (i:∀ σ H Q,t' σ H Q->t σ H Q):PT X e t':=fun pins s σ H Q I q=>h pins s σ H Q I (i σ H Q q)
theorem PW.imp {t:TT} (h:PW X e t) (i:∀ σ H Q,t' σ H Q->t σ H Q):PW X e t':=fun whole pins s σ H Q I q=>h whole pins s σ H Q I (i σ H Q q)
theorem PA.imp {e:List Expr} {t t':TA} (h:PA X e t) (i:∀ σ H Q,t' σ H Q->t σ H Q):PA X e t':=fun pos pins s σ H Q I q=>h pos pins s σ H Q I (i σ H Q q)
theorem PS.imp {e:Stmt} {t t':TS} (h:PS X e t) (i:∀ D σ H,t' D σ H->t D σ H):PS X e t':=fun pins s σ H D I q=>h pins s σ H D I (i D σ H q)
theorem PSs.imp {e:List Stmt} {t t':TS} (h:PSs X e t) (i:∀ D σ H,t' D σ H->t D σ H):PSs X e t':=fun pins s σ H D I q=>h pins s σ H D I (i D σ H q)
noncomputable def yc (i:Nat):Ev->Mem->Out T:=fun σ M=>match σ[i]? with
 | some (some t)=>.ok t M
 | _=>.bad
noncomputable def eC (t:T):Ev->Mem->Out T:=fun _ M=>.ok t M
noncomputable def eOp (o:T->T->Mem->Out T) (f g:Ev->Mem->Out T):Ev->Mem->Out T:=fun σ M=>(f σ M).bind fun x M1=>(g σ M1).bind fun y M2=>o x y M2
noncomputable def eUn (o:T->Mem->Out T) (f:Ev->Mem->Out T):Ev->Mem->Out T:=fun σ M=>(f σ M).bind fun x M1=>o x M1
noncomputable def blT {β:Type} (t:T) (M:Mem) (k:Bool->Mem->Out β):Out β:=match t with
 | .bl b=>k b M
 | _=>.bad
noncomputable def zJ (f:Ev->Mem->Out T):Ev->Mem->Out Bool:=fun σ M=>(f σ M).bind fun x M1=>blT x M1 fun b M2=>.ok b M2
noncomputable def zcy (f g:Ev->Mem->Out Bool):Ev->Mem->Out Bool:=fun σ M=>(f σ M).bind fun c M1=>if c = true then g σ M1 else .ok false M1
noncomputable def ziK (f g:Ev->Mem->Out Bool):Ev->Mem->Out Bool:=fun σ M=>(f σ M).bind fun c M1=>if c = true then .ok true M1 else g σ M1
noncomputable def zdo (f:Ev->Mem->Out Bool):Ev->Mem->Out Bool:=fun σ M=>(f σ M).bind fun c M1=>.ok (!c) M1
noncomputable def zoN (f g:Ev->Mem->Out T):Ev->Mem->Out T:=fun σ M=>(f σ M).bind fun x M1=>blT x M1 fun b M2=>if b = true then g σ M2 else .ok (.bl false) M2
noncomputable def eOr (f g:Ev->Mem->Out T):Ev->Mem->Out T:=fun σ M=>(f σ M).bind fun x M1=>blT x M1 fun b M2=>if b = true then .ok (.bl true) M2 else g σ M2
noncomputable def zoM (f:Ev->Mem->Out T):Ev->Mem->Out T:=fun σ M=>(f σ M).bind fun x M1=>blT x M1 fun b M2=>.ok (.bl (!b)) M2
noncomputable def eIf (c:Ev->Mem->Out Bool) (f g:Ev->Mem->Out T):Ev->Mem->Out T:=fun σ M=>(c σ M).bind fun b M1=>if b = true then f σ M1 else g σ M1
noncomputable def qc:Ev->Mem->Out (List T):=fun _ M=>.ok [] M
noncomputable def ya (f:Ev->Mem->Out T) (g:Ev->Mem->Out (List T)):Ev->Mem->Out (List T):=fun σ M=>(f σ M).bind fun x M1=>(g σ M1).bind fun xs M2=>.ok (x :: xs) M2
noncomputable def qu (g:Ev->Mem->Out (List T)):Ev->Mem->Out T:=fun σ M=>(g σ M).bind fun xs M1=>if xs.length<=sizeLine then .ok (.tup xs) M1 else .bad
noncomputable def qp (g:Ev->Mem->Out (List T)):Ev->Mem->Out (List T):=fun σ M=>(g σ M).bind fun xs M1=>if xs.length<=sizeLine then .ok xs M1 else .bad
noncomputable def eFz (g:Ev->Mem->Out (List T)):Ev->Mem->Out T:=fun σ M=>(g σ M).bind fun xs M1=>.ok (.lst xs) M1
noncomputable def eTk (g:Ev->Mem->Out (List T)):Ev->Mem->Out T:=fun σ M=>(g σ M).bind fun xs M1=>.ok (.ref M1.length) (M1 ++ [.lst xs])
noncomputable def ye (f:List T->Mem->Out T) (g:Ev->Mem->Out (List T)):Ev->Mem->Out T:=fun σ M=>(g σ M).bind fun ts M1=>f ts M1
noncomputable def zov (o o':T->T->Mem->Out T) (f g h:Ev->Mem->Out T):Ev->Mem->Out T:=fun σ M=>(f σ M).bind fun x M1=>(g σ M1).bind fun y M2=>(o x y M2).bind fun z M3=>blT z M3 fun b M4=>if b = true then (h σ M4).bind fun w M5=>o' y w M5 else .ok (.bl false) M4
noncomputable def lR2 (XE:XK) (K:Frag) (o:T->T->Mem->Out T):R2:=fun x y H Q=>L0 XE (Rep K) K (PrR (Rep K) (Rep K)) (fun a M=>o a.1 a.2 M) (x,y) H Q
noncomputable def lR1 (XE:XK) (K:Frag) (o:T->Mem->Out T):V->Hp->VK->Prop:=fun x H Q=>L0 XE (Rep K) K (Rep K) o x H Q
noncomputable def lRN (XE:XK) (K:Frag) (o:List T->Mem->Out T):List V->Hp->VK->Prop:=fun xs H Q=>L0 XE (Rep K) K (Reps K) o xs H Q
def FinL (XE:XK) (K:Frag) (S:Sit) (o:Out (List T)) (Q:VK):Prop:=match o with
 | .ok xs M'=>∀ S' p vs,S'.M = M'->Stp K S S'->S.H p = none->p ∈ S'.hid->S'.H p = some (.lst vs)->Reps K S' xs vs->Q (.ref p) S'.H
 | .exn C fs M'=>∀ S' od,S'.M = M'->Stp K S S'->zmG K S' fs od->XE (.ref C) od S'.H
 | .bad=>False
variable {Q:VK}
theorem FinL.later {K:Frag} {S:Sit} {o:Out (List T)} (s:Stp K S S1) (h:FinL XE K S o Q):FinL XE K S1 o Q:=by
 have nn:∀ p,S1.H p = none->S.H p = none:=fun p hn=>by
  cases q:S.H p with
  | none=>rfl
  | some o=>
   by_cases f:S.off p
   ·rw [s.kp _ _ q f] at hn;cases hn
   ·exfalso
    apply f
    refine ⟨fun c hc z=>?_,fun z=>?_⟩
    ·have h3:c < S1.M.length:=Q5 hc s.le
     obtain ⟨o',e',_⟩:=s.mok.some h3
     rw [s.al c hc,z,hn] at e'
     cases e'
    ·rw [(s.hk p z).2,q] at hn;cases hn
 cases o with
 | ok b M'=>exact fun S' p vs e s' f=>h S' p vs e (s.trans s') (nn p f)
 | exn C fs M'=>exact fun S' c e s' r=>h S' c e (s.trans s') r
 | bad=>exact h
noncomputable def lL (XE:XK) (K:Frag) (f:Ev->Mem->Out (List T)):TE:=fun σ H Q=>∃ (S:Sit) (στ:Ev),S.H = H/\MemOk K S/\EvR K S στ σ/\FinL XE K S (f στ S.M) Q
def GL (X:Cx) (XE:XK) (e:Expr) (f:Ev->Mem->Out (List T)):Prop:=PE X e (lL XE X.K f)
variable {q:Addr} {h hh:List Addr} {xs:List T}
section
variable {K:Frag} {S:Sit}
noncomputable def Sit.show (S':Sit) (h:List Addr):Sit:=⟨S'.α,S'.M,S'.H,h⟩
theorem Rep.show (sub:∀ p ∈ h,p ∈ S'.hid) (r:Rep K S' t v):Rep K (S'.show h) t v:=by
 induction r with
 | non=>exact .non
 | bl b=>exact .bl b
 | int b=>exact .int b
 | str b=>exact .str b
 | ty b=>exact .ty b
 | tup h l _ ih=>exact .tup h l ih
 | lst h l _ ih=>
  refine .lst ?_ l ih
  rcases h with ⟨h,f⟩ | h
  ·exact .inl ⟨h,f.1,fun z=>f.2 (sub _ z)⟩
  ·exact .inr h
 | ref h=>exact .ref (S:=S'.show _) h
 | dct h l _ ih=>exact .dct h l ih
 | exc h hd l _ ih=>exact .exc h hd l ih
theorem Reps.show (sub:∀ p ∈ h,p ∈ S'.hid) (r:Reps K S' ts vs):Reps K (S'.show h) ts vs:=⟨r.1,fun i t v e1 e2=>(r.2 i t v e1 e2).show sub⟩
theorem CellOk.show (sub:∀ p ∈ h,p ∈ S'.hid) (q:CellOk K S' p c):CellOk K (S'.show h) p c:=by
 cases c with
 | lst ts=>obtain ⟨vs,q,r⟩:=q;exact ⟨vs,q,r.show sub⟩
 | dic ts=>obtain ⟨vs,q,r⟩:=q;exact ⟨vs,q,r.1,r.2.show sub⟩
 | ins C ts=>obtain ⟨dx,vs,q,r⟩:=q;exact ⟨dx,vs,q,r.1,r.2.show sub⟩
theorem Stp.show (s:Stp K S S'):Stp K S (S'.show S.hid):=by
 have sub:∀ p ∈ S.hid,p ∈ S'.hid:=fun p h=>(s.hk p h).1
 exact ⟨⟨s.le,s.al,s.fr,s.kp,fun p h=>⟨h,(s.hk p h).2⟩,fun p h=>.inl h⟩,⟨fun a c e=>(s.mok.cell a c e).show sub,s.mok.inj,fun p h=>s.mok.hd p (sub p h)⟩⟩
theorem zkN (s:Stp K S S') (hn:S.H p = none) (m:MemOk K S) (hp:p ∈ S'.hid) (e:S'.H p = some (.lst vs)) (r:Reps K S' xs vs):Rep K (S'.show S.hid) (.lst xs) (.ref p):=by
 have sub:∀ p ∈ S.hid,p ∈ S'.hid:=fun p h=>(s.hk p h).1
 refine .lst (.inl ⟨.inl e,(s.mok.hd p hp).1,fun z=>?_⟩) r.1 (r.show sub).2
 obtain ⟨_,us,q⟩:=m.hd p z
 rw [hn] at q
 cases q
noncomputable def Sit.track (S':Sit) (p:Addr) (xs:List T) (h:List Addr):Sit:=⟨fun a=>if a = S'.M.length then p else S'.α a,S'.M ++ [.lst xs],S'.H,h⟩
theorem Rep.track (hp:p ∈ S'.hid) (sub:∀ p ∈ hh,p ∈ S'.hid) (r:Rep K S' t v):Rep K (S'.track p xs hh) t v:=by
 induction r with
 | non=>exact .non
 | bl b=>exact .bl b
 | int b=>exact .int b
 | str b=>exact .str b
 | ty b=>exact .ty b
 | tup h l _ ih=>exact .tup h l ih
 | lst h l _ ih=>
  refine .lst ?_ l ih
  rcases h with ⟨h,f⟩ | h
  ·refine .inl ⟨h,fun a ha z=>?_,fun z=>f.2 (sub _ z)⟩
   have z':(if a = S'.M.length then p else S'.α a) = _:=z
   by_cases hl:a = S'.M.length
   ·rw [if_pos hl] at z';rw [← z'] at f;exact f.2 hp
   ·rw [if_neg hl] at z'
    have h3:a < (S'.M ++ [Cell.lst xs]).length:=ha
    exact f.1 a (by simp at h3;omega) z'
  ·exact .inr h
 | @ref a h=>
  have:S'.α a = (S'.track p xs hh).α a:=(if_neg (Qh h)).symm
  rw [this]
  exact .ref (by show a < (S'.M ++ [Cell.lst xs]).length;simp;omega)
 | dct h l _ ih=>exact .dct h l ih
 | exc h hd l _ ih=>exact .exc h hd l ih
theorem Reps.track (hp:p ∈ S'.hid) (sub:∀ p ∈ h,p ∈ S'.hid) (r:Reps K S' ts vs):Reps K (S'.track p xs h) ts vs:=⟨r.1,fun i t v e1 e2=>(r.2 i t v e1 e2).track hp sub⟩
theorem CellOk.track (hp:p ∈ S'.hid) (sub:∀ p ∈ h,p ∈ S'.hid) (o:CellOk K S' q c):CellOk K (S'.track p xs h) q c:=by
 cases c with
 | lst ts=>obtain ⟨vs,q,r⟩:=o;exact ⟨vs,q,r.track hp sub⟩
 | dic ts=>obtain ⟨vs,q,r⟩:=o;exact ⟨vs,q,r.1,r.2.track hp sub⟩
 | ins C ts=>obtain ⟨dx,vs,q,r⟩:=o;exact ⟨dx,vs,q,r.1,r.2.track hp sub⟩
theorem Stp.track (s:Stp K S S') (m:MemOk K S) (hn:S.H p = none) (hp:p ∈ S'.hid) (e:S'.H p = some (.lst vs)) (r:Reps K S' xs vs):Stp K S (S'.track p xs S.hid):=by
 have sub:∀ p ∈ S.hid,p ∈ S'.hid:=fun p h=>(s.hk p h).1
 have lt:∀ a,a < S'.M.length->(S'.track p xs S.hid).α a = S'.α a:=fun a h=>if_neg (Qh h)
 refine ⟨⟨Qg s.le (by show _<=(S'.M ++ [Cell.lst xs]).length;simp),fun a h=>(lt a (Q5 h s.le)).trans (s.al a h),fun a h1 h2=>?_,s.kp,fun p h=>⟨h,(s.hk p h).2⟩,fun p h=>.inl h⟩,⟨fun a c e2=>?_,fun a b h1 h2 e2=>?_,fun q h=>?_⟩⟩
 ·by_cases hl:a < S'.M.length
  ·rw [lt a hl];exact s.fr a h1 hl
  ·have h3:a < (S'.M ++ [Cell.lst xs]).length:=h2
   have:a = S'.M.length:=by simp at h3;omega
   show S.H (if a = S'.M.length then p else S'.α a) = none
   rw [if_pos this];exact hn
 ·have e':(S'.M ++ [Cell.lst xs])[a]? = some c:=e2
  by_cases ha:a < S'.M.length
  ·rw [Q6 ha] at e'
   rw [lt a ha]
   exact (s.mok.cell a c e').track hp sub
  ·rw [Q7 (Nat.le_of_not_lt ha)] at e'
   have h3:a - S'.M.length = 0:=by
    cases q:a - S'.M.length with
    | zero=>rfl
    | succ k=>rw [q] at e';simp at e'
   rw [h3] at e'
   cases e'
   show CellOk K _ (if a = S'.M.length then p else S'.α a) _
   rw [if_pos (by omega)]
   exact ⟨vs,e,r.track hp sub⟩
 ·have h1':a < (S'.M ++ [Cell.lst xs]).length:=h1
  have h2':b < (S'.M ++ [Cell.lst xs]).length:=h2
  have e':(if a = S'.M.length then p else S'.α a) = (if b = S'.M.length then p else S'.α b):=e2
  simp at h1' h2'
  by_cases ha:a = S'.M.length
  ·by_cases hb:b = S'.M.length
   ·omega
   ·rw [if_pos ha,if_neg hb] at e'
    exact absurd e'.symm ((s.mok.hd p hp).1 b (by omega))
  ·by_cases hb:b = S'.M.length
   ·rw [if_neg ha,if_pos hb] at e'
    exact absurd e' ((s.mok.hd p hp).1 a (by omega))
   ·rw [if_neg ha,if_neg hb] at e'
    exact s.mok.inj a b (by omega) (by omega) e'
 ·obtain ⟨h1,us,q1⟩:=s.mok.hd q (sub q h)
  refine ⟨fun a ha z=>?_,us,q1⟩
  have z':(if a = S'.M.length then p else S'.α a) = q:=z
  have h3:a < (S'.M ++ [Cell.lst xs]).length:=ha
  by_cases hl:a = S'.M.length
  ·rw [if_pos hl] at z'
   obtain ⟨_,us2,q2⟩:=m.hd q h
   rw [← z',hn] at q2
   cases q2
  ·rw [if_neg hl] at z'
   exact h1 a (by simp at h3;omega) z'
noncomputable def Sit.hide (S:Sit) (p:Addr) (vs:List V):Sit:=⟨S.α,S.M,upd S.H p (.lst vs),p :: S.hid⟩
theorem Stp.hide (m:MemOk K S) (hp:S.H p = none) (vs:List V):Stp K S (S.hide p vs):=by
 have g:Grow S (S.hide p vs):=⟨Q3 _,fun _ _=>rfl,fun a h1 h2=>absurd (Q5 h2 h1) (Ql _),fun b u e _=>by show upd S.H p _ b = _;rw [yf (zl e hp)];exact e,fun q h=>⟨.tail _ h,by obtain ⟨_,vs,e⟩:=m.hd q h;exact yf (zl e hp)⟩,fun q h=>by
  cases h with
  | head=>exact .inr hp
  | tail _ h=>exact .inl h⟩
 refine ⟨g,⟨fun a c e=>?_,m.inj,fun q h=>?_⟩⟩
 ·have ha:a < S.M.length:=(List.getElem?_eq_some_iff.mp e).1
  exact (m.cell a c e).grow m g (yf ((m.off_none hp).1 a ha))
 ·cases h with
  | head=>exact ⟨(m.off_none hp).1,vs,qo⟩
  | tail _ h=>
   obtain ⟨h1,us,e⟩:=m.hd q h
   exact ⟨h1,us,(yf (zl e hp)).trans e⟩
end
variable {op:CmpOp} {ga:Ev->Mem->Out (List T)} {tf:Ev->Mem->Out Bool} {f:Ev->Mem->Out T} {i:Int} {M:Mem} {x:Str} {o:T->T->Mem->Out T}
section
variable {a b c:Expr} {g h:Ev->Mem->Out T}
theorem za0 (h:PE X e (tC v)) (r:∀ S,Rep X.K S t v):GE X XE e (eC t):=PE.imp h fun σ H Q h9=>by
 obtain ⟨S,στ,_,e,m,ev,_,fin⟩:=h9
 show Q v H
 rw [← e];exact fin S v rfl (.refl m) (r S)
theorem zeV {K:Frag} (h:lE XE K (eOp o f g) σ H Q):lE XE K f σ H fun x H1=>lE XE K g σ H1 fun y H2=>lR2 XE K o x y H2 Q:=
 LN.mono (LN.bind (f:=fun _ σ M=>f σ M) (k:=fun _ x σ M1=>(g σ M1).bind fun y M2=>o x y M2) (RB:=Rep K) h) fun v H1 h1=>
  LN.mono (LN.env (f:=g) (LN.bind (f:=fun _ σ M=>g σ M) (k:=fun (ax:Unit × T) y σ M2=>o ax.2 y M2) (RB:=Rep K) h1)) fun w H2 h2=>by
   obtain ⟨S,στ,a,e,m,ev,ra,fin⟩:=h2
   exact ⟨S,(a.1.2,a.2),e,m,⟨ra.1.2,ra.2⟩,fin⟩
theorem zjN {K:Frag} {β γ:Type} {R:Sit->β->γ->Prop} {S:Sit} {k:Bool->Mem->Out β} {Q:γ->Hp->Prop} (r:Rep K S t v) (h:Fin XE R K S (blT t M k) Q):∃ b,v = .bl b/\t = .bl b/\Fin XE R K S (k b M) Q:=by
 cases r with
 | bl b=>exact ⟨b,rfl,rfl,h⟩
 | _=>exact h.elim
theorem tif {tg:Ev->Mem->Out Bool} {K:Frag} {Q:Bool->Hp->Prop} {p:Bool->Ev->Mem->Out Bool} (h:LN XE EqR K UnR (fun _ σ M=>(tf σ M).bind fun c M1=>p c σ M1) () σ H Q):lT XE K tf σ H fun c H1=>lT XE K (fun σ M=>p c σ M) σ H1 Q:=
 LN.mono (LN.bind (f:=fun _ σ M=>tf σ M) (k:=fun _ c σ M1=>p c σ M1) (RB:=EqR) h) fun c H1 h2=>by
  obtain ⟨S,στ,a,e,m,ev,ra,fin⟩:=h2
  have:a.2 = c:=ra.2
  subst this
  exact ⟨S,στ,(),e,m,ev,trivial,fin⟩
theorem zeQ {K:Frag} {Q:Bool->Hp->Prop} {d:Bool} (h:lT XE K (fun _ M=>.ok d M) σ H Q):Q d H:=by
 obtain ⟨S,στ,a,e,m,ev,ra,fin⟩:=h
 rw [← e];exact fin S d rfl (.refl m) rfl
variable {tg:Ev->Mem->Out Bool} {rest:List Expr}
theorem GW.gt (h:GW X XE e tf):GT X XE e tf:=PW.pt h
end
inductive Fl where
 | nx (σ:Ev) | rt (t:T) | bk (σ:Ev) | ct (σ:Ev)
inductive FlV where
 | nx (σ:L2.St) | rt (v:V) | bk (σ:L2.St) | ct (σ:L2.St)
inductive FlR (K:Frag) (S:Sit):Fl->FlV->Prop where
 | nx {a b}:EvR K S a b->FlR K S (.nx a) (.nx b)
 | rt {a b}:Rep K S a b->FlR K S (.rt a) (.rt b)
 | bk {a b}:EvR K S a b->FlR K S (.bk a) (.bk b)
 | ct {a b}:EvR K S a b->FlR K S (.ct a) (.ct b)
noncomputable def yH (D:Ends):FlV->Hp->Prop
 | .nx σ,H=>D.nx σ H
 | .rt v,H=>D.rt v H
 | .bk σ,H=>D.bk σ H
 | .ct σ,H=>D.ct σ H
noncomputable def lS (XE:XK) (K:Frag) (g:Ev->Mem->Out Fl):TS:=fun D σ H=>LN XE (FlR K) K UnR (fun _ σ M=>g σ M) () σ H (yH D)
def GS (X:Cx) (XE:XK) (st:Stmt) (g:Ev->Mem->Out Fl):Prop:=PS X st (lS XE X.K g)
def GSs (X:Cx) (XE:XK) (st:List Stmt) (g:Ev->Mem->Out Fl):Prop:=PSs X st (lS XE X.K g)
variable {στ:Ev}
theorem EvR.set {K:Frag} {S:Sit} (r:EvR K S στ σ) (q:Rep K S t v) (i:Nat):EvR K S (στ.set i (some t)) (σ.set i (some v)):=by
 refine ⟨by simp [r.1],fun j u e=>?_⟩
 rw [getElem?_set] at e ⊢
 by_cases h:i = j
 ·subst h
  by_cases hl:i < στ.length
  ·rw [if_pos rfl,if_pos hl] at e
   cases e
   exact ⟨v,by rw [if_pos rfl,if_pos (by rw [← r.1];exact hl)],q⟩
  ·rw [if_pos rfl,if_neg hl] at e;cases e
 ·rw [if_neg h] at e
  obtain ⟨w,e2,q2⟩:=r.2 j u e
  exact ⟨w,by rw [if_neg h];exact e2,q2⟩
noncomputable def zbl:Ev->Mem->Out Fl:=fun σ M=>.ok (.nx σ) M
noncomputable def zok:Ev->Mem->Out Fl:=fun σ M=>.ok (.bk σ) M
noncomputable def zoA:Ev->Mem->Out Fl:=fun σ M=>.ok (.ct σ) M
noncomputable def qB (k:Ev->Mem->Out Fl) (fl:Fl) (M:Mem):Out Fl:=match fl with
 | .nx σ=>k σ M
 | .rt t=>.ok (.rt t) M
 | .bk σ=>.ok (.bk σ) M
 | .ct σ=>.ok (.ct σ) M
noncomputable def zf (g h:Ev->Mem->Out Fl):Ev->Mem->Out Fl:=fun σ M=>(g σ M).bind (qB h)
noncomputable def zI (f:Ev->Mem->Out T):Ev->Mem->Out Fl:=fun σ M=>(f σ M).bind fun t M1=>.ok (.rt t) M1
noncomputable def yV (f:Ev->Mem->Out T):Ev->Mem->Out Fl:=fun σ M=>(f σ M).bind fun _ M1=>.ok (.nx σ) M1
noncomputable def sIf (c:Ev->Mem->Out Bool) (g h:Ev->Mem->Out Fl):Ev->Mem->Out Fl:=fun σ M=>(c σ M).bind fun b M1=>if b = true then g σ M1 else h σ M1
noncomputable def yk (i:Nat) (f:Ev->Mem->Out T):Ev->Mem->Out Fl:=fun σ M=>(f σ M).bind fun t M1=>.ok (.nx (σ.set i (some t))) M1
noncomputable def lG (XE:XK) (K:Frag) (bd:T->Ev->Mem->Out Ev):TG:=fun v σ H Q=>LN XE (EvR K) K (Rep K) bd v σ H Q
noncomputable def lGs (XE:XK) (K:Frag) (bd:List T->Ev->Mem->Out Ev):TGs:=fun v σ H Q=>LN XE (EvR K) K (Reps K) bd v σ H Q
def GG (X:Cx) (XE:XK) (tg:Expr) (bd:T->Ev->Mem->Out Ev):Prop:=PG X tg (lG XE X.K bd)
def GGs (X:Cx) (XE:XK) (tg:List Expr) (bd:List T->Ev->Mem->Out Ev):Prop:=PGs X tg (lGs XE X.K bd)
noncomputable def yi (i:Nat):T->Ev->Mem->Out Ev:=fun t σ M=>.ok (σ.set i (some t)) M
noncomputable def zbu:List T->Ev->Mem->Out Ev:=fun ts σ M=>match ts with
 | []=>.ok σ M
 | _=>.bad
noncomputable def qE (b:T->Ev->Mem->Out Ev) (bs:List T->Ev->Mem->Out Ev):List T->Ev->Mem->Out Ev:=fun ts σ M=>match ts with
 | t :: r=>(b t σ M).bind fun σ1 M1=>bs r σ1 M1
 | _=>.bad
noncomputable def zbt (n:Nat) (bs:List T->Ev->Mem->Out Ev):T->Ev->Mem->Out Ev:=fun t σ M=>match t with
 | .tup xs=>if xs.length = n then bs xs σ M else .bad
 | _=>.bad
noncomputable def zfc (f:Ev->Mem->Out T) (b:T->Ev->Mem->Out Ev):Ev->Mem->Out Fl:=fun σ M=>(f σ M).bind fun t M1=>(b t σ M1).bind fun σ1 M2=>.ok (.nx σ1) M2
def zat (K:Frag) (S:Sit) (items:List T) (J:It):Prop:=∀ S',Stp K S S'->
 (∀ (i:Nat) t,items[i]? = some t->J.go i S'.H/\∀ x H',J.yld i S'.H x H'->∃ S'',S''.H = H'/\S''.M = S'.M/\Stp K S' S''/\Rep K S'' t x)/\∀ i,items.length<=i->J.stop i S'.H
instance (K):Mo K (zat K):=⟨fun _ s r=>fun S' s'=>r S' (s.trans s')⟩
noncomputable def lI (XE:XK) (K:Frag) (f:Ev->Mem->Out (List T)):TI:=fun σ H R=>LN XE (zat K) K UnR (fun _ σ M=>f σ M) () σ H R
def GI (X:Cx) (XE:XK) (tg iter:Expr) (f:Ev->Mem->Out (List T)):Prop:=PI X tg iter (lI XE X.K f)
noncomputable def qI (k:Ev->Mem->Out Fl) (fl:Fl) (M:Mem):Out Fl:=match fl with
 | .nx σ=>k σ M
 | .ct σ=>k σ M
 | .bk σ=>.ok (.nx σ) M
 | .rt t=>.ok (.rt t) M
noncomputable def forL (bd:T->Ev->Mem->Out Ev) (body:Ev->Mem->Out Fl):List T->Ev->Mem->Out Fl
 | [],σ,M=>.ok (.nx σ) M
 | x :: xs,σ,M=>(bd x σ M).bind fun σ1 M1=>(body σ1 M1).bind (qI (forL bd body xs))
noncomputable def yL (it:Ev->Mem->Out (List T)) (bd:T->Ev->Mem->Out Ev) (body:Ev->Mem->Out Fl):Ev->Mem->Out Fl:=fun σ M=>(it σ M).bind fun xs M1=>forL bd body xs σ M1
noncomputable def whileN (c:Ev->Mem->Out Bool) (body:Ev->Mem->Out Fl):Nat->Ev->Mem->Out Fl
 | 0,_,_=>.bad
 | n + 1,σ,M=>(c σ M).bind fun b M1=>if b = true then (body σ M1).bind (qI (whileN c body n)) else .ok (.nx σ) M1
open Classical in
noncomputable def zfa (c:Ev->Mem->Out Bool) (body:Ev->Mem->Out Fl):Ev->Mem->Out Fl:=fun σ M=>if h:∃ n,whileN c body n σ M ≠ .bad then whileN c body h.choose σ M else .bad
theorem zbh {c:Ev->Mem->Out Bool} {body:Ev->Mem->Out Fl}:∀ {n:Nat} {σ:Ev} {M:Mem} {r:Out Fl},whileN c body n σ M = r->r ≠ .bad->whileN c body (n + 1) σ M = r
 | 0,_,_,_,e,h=>absurd e.symm h
 | n + 1,σ,M,r,e,h=>by
  unfold whileN at e ⊢
  cases q:c σ M with
  | bad=>rw [q] at e;exact absurd e.symm h
  | exn C fs M'=>rw [q] at e;exact e
  | ok b M1=>
   rw [q] at e
   replace e:(if b = true then (body σ M1).bind (qI (whileN c body n)) else Out.ok (.nx σ) M1) = r:=e
   show (if b = true then (body σ M1).bind (qI (whileN c body (n + 1))) else Out.ok (.nx σ) M1) = r
   cases b with
   | false=>exact e
   | true=>
    rw [if_pos rfl] at e ⊢
    cases q2:body σ M1 with
    | bad=>rw [q2] at e;exact absurd e.symm h
    | exn C fs M'=>rw [q2] at e;exact e
    | ok fl M2=>
     rw [q2] at e
     cases fl with
     | nx σ2=>exact zbh (n:=n) e h
     | ct σ2=>exact zbh (n:=n) e h
     | bk σ2=>exact e
     | rt t=>exact e
variable {body:Ev->Mem->Out Fl} {n:Nat}
theorem zem {c:Ev->Mem->Out Bool} {k:Nat} {σ:Ev} {r:Out Fl} (e:whileN c body n σ M = r) (h:r ≠ .bad):whileN c body (n + k) σ M = r:=by
 induction k with
 | zero=>exact e
 | succ k ih=>exact zbh ih h
theorem zhE {c:Ev->Mem->Out Bool} {σ:Ev} {r:Out Fl} (n:Nat) (e:whileN c body n σ M = r) (h:r ≠ .bad):zfa c body σ M = r:=by
 have ex:∃ n,whileN c body n σ M ≠ .bad:=⟨n,by rw [e];exact h⟩
 unfold zfa
 rw [dif_pos ex]
 have h2:=ex.choose_spec
 have e1:=zem (k:=ex.choose) e h
 have e2:=zem (k:=n) rfl h2
 rw [Nat.add_comm] at e2
 rw [← e2,e1]
noncomputable def zg6 (XE:XK) (K:Frag) (st:T->T->T->Mem->Out Unit):zhq:=fun o i v H Q=>L0 XE UnR K (PrR (PrR (Rep K) (Rep K)) (Rep K)) (fun a M=>st a.1.1 a.1.2 a.2 M) ((o,i),v) H (fun _ H'=>Q H')
noncomputable def zfR (st:T->T->T->Mem->Out Unit) (f g:Ev->Mem->Out T):T->Ev->Mem->Out Ev:=fun t σ M=>(f σ M).bind fun o M1=>(g σ M1).bind fun i M2=>(st o i t M2).bind fun _ M3=>.ok σ M3
variable {D:Ends} {iter tg:Expr} {st:Stmt} {bd:T->Ev->Mem->Out Ev}
section
variable {a b c:Expr} {g h:Ev->Mem->Out T} {sts rest:List Stmt} {p q r:Ev->Mem->Out Fl}
theorem zl6 {K:Frag} (hh:lS XE K (zf p q) D σ H):lS XE K p { D with nx:=lS XE K q D } σ H:=by
 obtain ⟨S,στ,_,e,m,ev,_,fin⟩:=hh
 refine ⟨S,στ,(),e,m,ev,trivial,?_⟩
 show Fin XE (FlR K) K S (p στ S.M) _
 replace fin:Fin XE (FlR K) K S ((p στ S.M).bind (qB q)) (yH D):=fin
 cases o:p στ S.M with
 | bad=>rw [o] at fin;exact fin
 | exn C fs M'=>rw [o] at fin;exact fin
 | ok fl M1=>
  rw [o] at fin
  intro S1 cc e1 s1 r1
  cases r1 with
  | nx r1=>exact ⟨S1,_,(),rfl,s1.mok,r1,trivial,by rw [e1];exact Fin.later s1 fin⟩
  | rt r1=>exact fin S1 _ e1 s1 (.rt r1)
  | bk r1=>exact fin S1 _ e1 s1 (.bk r1)
  | ct r1=>exact fin S1 _ e1 s1 (.ct r1)
theorem PG.imp {t t':TG} (h:PG X tg t) (i:∀ v σ H Q,t' v σ H Q->t v σ H Q):PG X tg t':=fun pins s σ H v u Q I r q=>h pins s σ H v u Q I r (i v σ H Q q)
theorem PGs.imp {tgs:List Expr} {t t':TGs} (h:PGs X tgs t) (i:∀ v σ H Q,t' v σ H Q->t v σ H Q):PGs X tgs t':=fun pins s σ H v u Q I r q=>h pins s σ H v u Q I r (i v σ H Q q)
theorem zm8 {K:Frag} (hh:LN XE (FlR K) K (Rep K) (fun t σ M=>(bd t σ M).bind fun σ1 M2=>.ok (Fl.nx σ1) M2) v σ H (yH D)):lG XE K bd v σ H D.nx:=by
 obtain ⟨S,στ,t,e,m,ev,ra,fin⟩:=hh
 refine ⟨S,στ,t,e,m,ev,ra,?_⟩
 replace fin:Fin XE (FlR K) K S ((bd t στ S.M).bind fun σ1 M2=>.ok (Fl.nx σ1) M2) (yH D):=fin
 cases o:bd t στ S.M with
 | bad=>rw [o] at fin;exact fin
 | exn C fs M'=>rw [o] at fin;exact fin
 | ok σ1 M1=>
  rw [o] at fin
  intro S1 cc e1 s1 ev1
  exact fin S1 (.nx cc) e1 s1 (.nx ev1)
theorem PI.imp {t t':TI} (h:PI X tg iter t) (i:∀ σ H R,t' σ H R->t σ H R):PI X tg iter t':=fun pins s σ H R I q=>h pins s σ H R I (i σ H R q)
end
noncomputable def startT (n:Nat) (ts:List T):Ev:=ts.map some ++ List.replicate (n - ts.length) none
noncomputable def zj (p n:Nat) (g:Ev->Mem->Out Fl):List T->Mem->Out T:=fun ts M=>if ts.length = p then match g (startT n ts) M with
 | .ok (.rt t) M'=>.ok t M'
 | .ok (.nx _) M'=>.ok .non M'
 | _=>.bad else .bad
noncomputable def spT (K:Frag) (f:List T->Mem->Out T):Sp:=fun vs H Q E=>L0 E (Rep K) K (Reps K) f vs H Q
structure CalT (P:Program) (w:World) (K:Frag) (mg:Str->Option Value) (base:Heap) (k:Nat) (x:Str) (ps:List Str) (f:List T->Mem->Out T):Prop where
 cal:Cal P w K mg base k x ps (spT K f)
 nox:∀ ts M C fs M',f ts M ≠ .exn C fs M'
theorem zgO (p n:Nat) (g:Ev->Mem->Out Fl):∀ ts M C fs M',zj p n g ts M ≠ .exn C fs M':=by
 intro ts M C fs M' z
 unfold zj at z
 split at z
 ·split at z <;> cases z
 ·cases z
variable {N:List Str}
theorem EvR.start {K:Frag} {S:Sit} (r:Reps K S ts vs) (hn:N.length = n):EvR K S (startT n ts) (L2.start N vs):=by
 subst hn
 refine ⟨by simp [startT,L2.start,r.1],fun i t e=>?_⟩
 unfold startT at e
 unfold L2.start
 by_cases hi:i < ts.length
 ·rw [Q6 (by simpa using hi)] at e
  rw [Q6 (by simpa [← r.1] using hi)]
  rw [Q9] at e ⊢
  cases q:ts[i]? with
  | none=>rw [q] at e;cases e
  | some t'=>
   rw [q] at e
   have:t' = t:=Qa (Qa e)
   subst this
   obtain ⟨v,e2,r2⟩:=r.get q
   exact ⟨v,by rw [e2];rfl,r2⟩
 ·rw [Q7 (by simpa using hi)] at e
  rw [List.getElem?_replicate] at e
  split at e <;> cases e
variable {g:Ev->Mem->Out Fl} {base:Heap} {ps:List Str} {P:Program} {mg:Str->Option Value} {w:World}
section
variable {K:Frag}
theorem zfM {st:List Stmt} {p:Nat} (hn:N.length = n) {E:XK} (hX:X.K = K) (h:spT K (zj p n g) vs H Q E) (hb:GSs X E0 st g) :
  ∃ t,PSs X st t/\t { nx:=fun _ H'=>Q .non H',rt:=Q } (start N vs) H:=by
 subst hX
 refine ⟨_,hb,?_⟩
 obtain ⟨S,ts,e,m,r,fin⟩:=h
 refine ⟨S,startT n ts,(),e,m,EvR.start r hn,trivial,?_⟩
 show Fin E0 (FlR X.K) X.K S (g (startT n ts) S.M) _
 unfold zj at fin
 by_cases hp:ts.length = p
 ·rw [if_pos hp] at fin
  cases o:g (startT n ts) S.M with
  | bad=>rw [o] at fin;exact fin
  | exn C fs M'=>rw [o] at fin;exact fin.elim
  | ok fl M1=>
   rw [o] at fin
   cases fl with
   | nx σ1=>
    intro S1 c e1 s1 r1
    cases r1 with
    | nx r1=>exact fin S1 .non e1 s1 .non
   | rt t=>
    intro S1 c e1 s1 r1
    cases r1 with
    | rt r1=>exact fin S1 _ e1 s1 r1
   | bk σ1=>exact fin.elim
   | ct σ1=>exact fin.elim
 ·rw [if_neg hp] at fin;exact fin.elim
theorem zhB {p:Nat} (hp:ps.length = p):∀ vs H Q E,spT K (zj p n g) vs H Q E->vs.length = ps.length:=by
 intro vs H Q E ⟨S,ts,e,m,r,fin⟩
 rw [← r.1,hp]
 unfold zj at fin
 by_cases h:ts.length = p
 ·exact h
 ·rw [if_neg h] at fin;exact fin.elim
theorem ziy {k p:Nat} (D:Df K mg x st ps) (Sc:FnScope N ps (ze st)) (hp:ps.length = p) (hn:N.length = n)
 (hb:∀ (f:Addr) (cdv:Value) (A:Around) (outer:List PySem.Env) (s:Shared) (H:Hp) (E:XK),Room k (A.deeper (envOfC x (ze st) s.heap.objs.size f cdv))->GSs (zad CX0 P w K mg base N x (ze st) f cdv A outer s H E).nox E0 (zx st) g) :
  CalT P w K mg base (k + 1) x ps (zj p n g):=
 ⟨D.ok Sc (zhB hp) fun f cdv A outer s H vs Q E hr h=>zfM hn rfl h (hb f cdv A outer s H E hr),zgO _ _ _⟩
theorem zl4 {qual:Str} {f:Addr} {fd:FuncData} {k p:Nat} (F:Fun K x qual st f fd) (Sc:FnScope N ps (ze st)) (hp:ps.length = p) (hn:N.length = n)
 (hb:∀ (cdv:Value) (A:Around) (outer:List PySem.Env) (s:Shared) (H:Hp) (E:XK),Room k (A.deeper (envOfC qual (ze st) s.heap.objs.size f cdv))->GSs (zad CX0 P w K mg base N qual (ze st) f cdv A outer s H E).nox E0 (zx st) g) :
  FnOk P w K mg base CX0 (k + 1) f fd ps (spT K (zj p n g)):=
 F.ok Sc (zhB hp) fun cdv A outer s H vs Q E hr h=>zfM hn rfl h (hb cdv A outer s H E hr)
theorem zkH {f:List T->Mem->Out T} {a:Addr} {ns:List Int} {M':Mem} (hS:SqL K H a (ns.map V.int)) (h:f [.lst (ns.map .int)] [] = .ok (.bl true) M'):spT K f [.ref a] H (fun v _=>v = .bl true) fun _ _ _=>False:=by
 refine ⟨⟨fun _=>0,[],H,[]⟩,[.lst (ns.map .int)],rfl,⟨fun a c e=>by simp at e,fun a b h=>absurd h (Nat.not_lt_zero _),fun p h=>by simp at h⟩,.cons (.lst (vs:=ns.map V.int) ?_ (by simp) ?_) .nil,?_⟩
 ·rcases hS with h | h
  ·exact .inl ⟨h,fun a h=>absurd h (Nat.not_lt_zero _),fun z=>by simp at z⟩
  ·exact .inr h
 ·intro i t v e1 e2
  rw [Q9] at e1 e2
  cases q:ns[i]? with
  | none=>rw [q] at e1;cases e1
  | some z=>rw [q] at e1 e2;cases e1;cases e2;exact .int z
 ·show Fin _ _ K _ (f [.lst (ns.map .int)] []) _
  rw [h]
  intro S' c e s r
  cases r
  rfl
end
section
variable {k:Nat} {p:Pos} {F:List T->Mem->Out T}
end
inductive T.lt (n:Nat):T->Prop where
 | non:T.lt n .non
 | bl (b:Bool):T.lt n (.bl b)
 | int (i:Int):T.lt n (.int i)
 | str (x:Str):T.lt n (.str x)
 | ty (x:String):T.lt n (.ty x)
 | tup {ts:List T} (h:∀ t ∈ ts,T.lt n t):T.lt n (.tup ts)
 | lst {ts:List T} (h:∀ t ∈ ts,T.lt n t):T.lt n (.lst ts)
 | ref {a:Nat} (h:a < n):T.lt n (.ref a)
 | dct {kvs:List (Key × T)} (h:∀ t ∈ kvs.map (·.2),T.lt n t):T.lt n (.dct kvs)
 | exc {C:Addr} {fs:List (Str × T)} (h:∀ t ∈ fs.map (·.2),T.lt n t):T.lt n (.exc C fs)
noncomputable def Cell.lt (n:Nat):Cell->Prop
 | .lst ts=>∀ t ∈ ts,T.lt n t
 | .dic kvs=>∀ k ∈ kvs,T.lt n k.2
 | .ins _ fs=>∀ k ∈ fs,T.lt n k.2
inductive Fz (M':Mem) (n:Nat):T->T->Prop where
 | same {t:T} (h:T.lt n t):Fz M' n t t
 | tup {ts us:List T} (l:ts.length = us.length) (h:∀ (i:Nat) t u,ts[i]? = some t->us[i]? = some u->Fz M' n t u):Fz M' n (.tup ts) (.tup us)
 | lst {ts us:List T} (l:ts.length = us.length) (h:∀ (i:Nat) t u,ts[i]? = some t->us[i]? = some u->Fz M' n t u):Fz M' n (.lst ts) (.lst us)
 | ref {a:Nat} {ts us:List T} (e:M'[a]? = some (.lst ts)) (g:n<=a) (l:ts.length = us.length) (h:∀ (i:Nat) t u,ts[i]? = some t->us[i]? = some u->Fz M' n t u):Fz M' n (.ref a) (.lst us)
theorem Rep.lt {K:Frag} {S:Sit} (r:Rep K S t v):T.lt S.M.length t:=by
 induction r with
 | non=>exact .non
 | bl b=>exact .bl b
 | int b=>exact .int b
 | str b=>exact .str b
 | ty b=>exact .ty b
 | @tup ts p vs h l _ ih=>
  refine .tup fun t ht=>?_
  obtain ⟨i,hi,rfl⟩:=getElem_of_mem ht
  exact ih i _ vs[i] (by simp [hi]) (by simp [← l,hi])
 | @lst ts p vs h l _ ih=>
  refine .lst fun t ht=>?_
  obtain ⟨i,hi,rfl⟩:=getElem_of_mem ht
  exact ih i _ vs[i] (by simp [hi]) (by simp [← l,hi])
 | ref h=>exact .ref h
 | @dct kvs us p o h l _ ih=>
  refine .dct fun t ht=>?_
  obtain ⟨i,hi,rfl⟩:=getElem_of_mem ht
  have hl:i < us.length:=by have:=congrArg List.length l;simp at this hi;omega
  exact ih i _ (us[i]'hl).2 (Q0 hi) (by simp [hl])
 | @exc C fs us p od h hd l _ ih=>
  refine .exc fun t ht=>?_
  obtain ⟨i,hi,rfl⟩:=getElem_of_mem ht
  have hl:i < us.length:=by have:=congrArg List.length l;simp at this hi;omega
  exact ih i _ (us[i]'hl).2 (Q0 hi) (by simp [hl])
theorem Reps.lt {K:Frag} {S:Sit} (r:Reps K S ts vs):∀ t ∈ ts,T.lt S.M.length t:=fun t ht=>by
 obtain ⟨i,hi,rfl⟩:=getElem_of_mem ht
 have hv:i < vs.length:=by rw [← r.1];exact hi
 exact (r.2 i _ vs[i] (by simp [hi]) (by simp [hv])).lt
theorem zgr {κ:Type} {fs:List (κ × T)} (h:∀ t ∈ fs.map (·.2),T.lt n t):∀ k ∈ fs,T.lt n k.2:=fun k hk=>h _ (mem_map_of_mem (f:=(·.2)) hk)
theorem CellOk.lt {K:Frag} {S:Sit} (h:CellOk K S p c):Cell.lt S.M.length c:=by
 cases c with
 | lst ts=>obtain ⟨vs,_,r⟩:=h;exact r.lt
 | dic ts=>obtain ⟨vs,_,r⟩:=h;exact zgr r.2.lt
 | ins C ts=>obtain ⟨dx,vs,_,r⟩:=h;exact zgr r.2.lt
variable {m:Nat}
theorem T.lt.mono (h:n<=m) (r:T.lt n t):T.lt m t:=by
 induction r with
 | non=>exact .non
 | bl b=>exact .bl b
 | int b=>exact .int b
 | str b=>exact .str b
 | ty b=>exact .ty b
 | tup _ ih=>exact .tup ih
 | lst _ ih=>exact .lst ih
 | ref g=>exact .ref (Q5 g h)
 | dct _ ih=>exact .dct ih
 | exc _ ih=>exact .exc ih
noncomputable def Sit.cut (S:Sit) (n:Nat) (h:List Addr):Sit:=⟨S.α,S.M.take n,S.H,h⟩
variable {u:T}
section
variable {K:Frag} {S:Sit}
theorem Rep.cut (hn:n<=S'.M.length) (sub:∀ p ∈ hh,p ∈ S'.hid) (r:Rep K S' t v) (l:T.lt n t):Rep K (S'.cut n hh) t v:=by
 have ln:(S'.cut n hh).M.length = n:=by show (S'.M.take n).length = n;simp;omega
 induction r with
 | non=>exact .non
 | bl b=>exact .bl b
 | int b=>exact .int b
 | str b=>exact .str b
 | ty b=>exact .ty b
 | @tup ts p vs h l2 _ ih=>
  cases l with
  | tup hl=>exact .tup h l2 fun i t v e1 e2=>ih i t v e1 e2 (hl t (Q8 e1))
 | @lst ts p vs h l2 _ ih=>
  cases l with
  | lst hl=>
   refine .lst ?_ l2 fun i t v e1 e2=>ih i t v e1 e2 (hl t (Q8 e1))
   rcases h with ⟨h,f⟩ | h
   ·exact .inl ⟨h,fun a ha z=>f.1 a (by rw [ln] at ha;omega) z,fun z=>f.2 (sub _ z)⟩
   ·exact .inr h
 | @ref a h=>
  cases l with
  | ref hl=>exact .ref (S:=S'.cut n hh) (by rw [ln];exact hl)
 | dct h l2 _ ih=>
  cases l with
  | dct hl=>exact .dct (S:=S'.cut n hh) h l2 fun i t v e1 e2=>ih i t v e1 e2 (hl t (Q8 e1))
 | exc h hd l2 _ ih=>
  cases l with
  | exc hl=>exact .exc (S:=S'.cut n hh) h hd l2 fun i t v e1 e2=>ih i t v e1 e2 (hl t (Q8 e1))
theorem Reps.cut (hn:n<=S'.M.length) (sub:∀ p ∈ hh,p ∈ S'.hid) {t:List T} {v:List V} (r:Reps K S' t v) (l:∀ x ∈ t,T.lt n x):Reps K (S'.cut n hh) t v:=⟨r.1,fun i t v e1 e2=>(r.2 i t v e1 e2).cut hn sub (l t (Q8 e1))⟩
theorem CellOk.cut (hn:n<=S'.M.length) (sub:∀ p ∈ hh,p ∈ S'.hid) (r:CellOk K S' p c) (l:Cell.lt n c):CellOk K (S'.cut n hh) p c:=by
 have ms:∀ {κ:Type} {fs:List (κ × T)},(∀ k ∈ fs,T.lt n k.2)->∀ t ∈ fs.map (·.2),T.lt n t:=fun h t ht=>by
  obtain ⟨k,hk,rfl⟩:=mem_map.mp ht
  exact h k hk
 cases c with
 | lst ts=>obtain ⟨vs,q,r⟩:=r;exact ⟨vs,q,r.cut hn sub l⟩
 | dic ts=>obtain ⟨vs,q,r⟩:=r;exact ⟨vs,q,r.1,r.2.cut hn sub (ms l)⟩
 | ins C ts=>obtain ⟨dx,vs,q,r⟩:=r;exact ⟨dx,vs,q,r.1,r.2.cut hn sub (ms l)⟩
theorem Stp.cut (s:Stp K S S') (h1:S.M.length<=n) (h2:n<=S'.M.length) (hl:∀ (i:Nat) c,i < n->S'.M[i]? = some c->Cell.lt n c):Stp K S (S'.cut n S.hid):=by
 have sub:∀ p ∈ S.hid,p ∈ S'.hid:=fun p h=>(s.hk p h).1
 have ln:(S'.cut n S.hid).M.length = n:=by show (S'.M.take n).length = n;simp;omega
 refine ⟨⟨by rw [ln];exact h1,s.al,fun a g1 g2=>s.fr a g1 (by rw [ln] at g2;omega),s.kp,fun p h=>⟨h,(s.hk p h).2⟩,fun p h=>.inl h⟩,⟨fun a c e=>?_,fun a b g1 g2 e=>s.mok.inj a b (by rw [ln] at g1;omega) (by rw [ln] at g2;omega) e,fun p h=>?_⟩⟩
 ·have e':(S'.M.take n)[a]? = some c:=e
  rw [getElem?_take] at e'
  split at e'
  ·rename_i hi
   exact (s.mok.cell a c e').cut h2 sub (hl a c hi e')
  ·cases e'
 ·obtain ⟨g1,vs,g2⟩:=s.mok.hd p (sub p h)
  exact ⟨fun a ha z=>g1 a (by rw [ln] at ha;omega) z,vs,g2⟩
theorem Rep.fz (m:MemOk K S') (hn:n<=S'.M.length) (sub:∀ p ∈ hh,p ∈ S'.hid) (z:Fz S'.M n t u):∀ {v:V},Rep K S' t v->Rep K (S'.cut n hh) u v:=by
 have ln:(S'.cut n hh).M.length = n:=by show (S'.M.take n).length = n;simp;omega
 induction z with
 | same h=>exact fun r=>r.cut hn sub h
 | @tup ts us l _ ih=>
  intro v r
  cases r with
  | @tup _ p vs h l2 rr=>
   refine .tup h (by rw [← l];exact l2) fun i t v e1 e2=>?_
   have hi:i < ts.length:=by rw [l];exact (List.getElem?_eq_some_iff.mp e1).1
   exact ih i ts[i] t (by simp [hi]) e1 (rr i _ v (by simp [hi]) e2)
 | @lst ts us l _ ih=>
  intro v r
  cases r with
  | @lst _ p vs h l2 rr=>
   refine .lst ?_ (by rw [← l];exact l2) fun i t v e1 e2=>?_
   ·rcases h with ⟨h,f⟩ | h
    ·exact .inl ⟨h,fun a ha z=>f.1 a (by rw [ln] at ha;omega) z,fun z=>f.2 (sub _ z)⟩
    ·exact .inr h
   ·have hi:i < ts.length:=by rw [l];exact (List.getElem?_eq_some_iff.mp e1).1
    exact ih i ts[i] t (by simp [hi]) e1 (rr i _ v (by simp [hi]) e2)
 | @ref a ts us e g l _ ih=>
  intro v r
  cases r with
  | ref ha=>
   obtain ⟨vs,q,rr⟩:=m.cell a _ e
   refine .lst (vs:=vs) (.inl ⟨.inl q,fun b hb z=>?_,fun z=>?_⟩) (by rw [← l];exact rr.1) fun i t v e1 e2=>?_
   ·rw [ln] at hb
    have:=m.inj b a (by omega) ha z
    omega
   ·exact (m.hd _ (sub _ z)).1 a ha rfl
   ·have hi:i < ts.length:=by rw [l];exact (List.getElem?_eq_some_iff.mp e1).1
    exact ih i ts[i] t (by simp [hi]) e1 (rr.2 i _ v (by simp [hi]) e2)
end
def Refines (f g:List T->Mem->Out T):Prop:=∀ ts M t' M1,(∀ c ∈ M,Cell.lt M.length c)->f ts M = .ok t' M1->∃ t M',g ts M = .ok t M'/\M.length<=M1.length/\M1.length<=M'.length/\M1 = M'.take M1.length/\(∀ (i:Nat) c,M1[i]? = some c->M[i]? = some c\/Cell.lt M1.length c)/\Fz M' M1.length t t'
theorem Cell.lt.mono (h:n<=m) (r:Cell.lt n c):Cell.lt m c:=by
 cases c with
 | lst ts=>exact fun t ht=>(r t ht).mono h
 | dic ts=>exact fun t ht=>(r t ht).mono h
 | ins C ts=>exact fun t ht=>(r t ht).mono h
theorem CalT.refine {K:Frag} {k:Nat} {f g:List T->Mem->Out T} (C:CalT P w K mg base k x ps g) (h:Refines f g) (nox:∀ ts M C fs M',f ts M ≠ .exn C fs M'):CalT P w K mg base k x ps f:=by
 refine ⟨?_,nox⟩
 obtain ⟨⟨fa,fd,F,kp,b,gg⟩⟩:=C.cal
 have key:∀ vs H Q E,spT K f vs H Q E->spT K g vs H Q E:=by
  rintro vs H Q E ⟨S,ts,e,m,r,fin⟩
  refine ⟨S,ts,e,m,r,?_⟩
  have wf:∀ c ∈ S.M,Cell.lt S.M.length c:=fun c hc=>by
   obtain ⟨i,hi,rfl⟩:=getElem_of_mem hc
   exact (m.cell i _ (by simp [hi])).lt
  cases o:f ts S.M with
  | bad=>rw [o] at fin;exact fin.elim
  | exn C' fs M'=>exact absurd o (nox _ _ _ _ _)
  | ok t' M1=>
   rw [o] at fin
   obtain ⟨t,M',eg,l1,l2,eM,hc,z⟩:=h ts S.M t' M1 wf o
   rw [eg]
   intro S' v e1 s r1
   have hl:∀ (i:Nat) c,i < M1.length->S'.M[i]? = some c->Cell.lt M1.length c:=fun i c hi ec=>by
    have e2:M1[i]? = some c:=by
     rw [eM,getElem?_take,if_pos hi,← e1];exact ec
    rcases hc i c e2 with q | q
    ·exact (wf c (Q8 q)).mono l1
    ·exact q
   have sc:=s.cut l1 (by rw [e1];exact l2) hl
   refine fin (S'.cut M1.length S.hid) v ?_ sc ?_
   ·show S'.M.take M1.length = M1
    rw [e1];exact eM.symm
   ·exact Rep.fz s.mok (by rw [e1];exact l2) (fun p h=>(s.hk p h).1) (by rw [e1];exact z) r1
 refine ⟨⟨fa,fd,⟨fun vs H Q E q=>F.len vs H Q E (key _ _ _ _ q),?_⟩,kp,b,gg⟩⟩
 intro A outer s H args us vs Q E hr h0 hb hv hq
 exact F.run A outer s H args us vs Q E hr h0 hb hv (key _ _ _ _ hq)
noncomputable def yq (t:T) (M:Mem):Option (List T):=match t with
 | .lst xs=>some xs
 | .ref a=>match M[a]? with
  | some (.lst xs)=>some xs
  | _=>none
 | _=>none
noncomputable def ze8 (t:T):Option (List T):=match t with
 | .lst xs=>some xs
 | .tup xs=>some xs
 | _=>none
noncomputable def zcA (t:T) (M:Mem):Option (List T):=match t with
 | .tup xs=>some xs
 | t=>yq t M
section
variable {K:Frag} {S:Sit}
theorem zcq (h:(Rd S.H p (.lst vs)/\S.off p)\/KL K p vs):SqL K S.H p vs:=by
 rcases h with ⟨h,_⟩ | h
 ·exact .inl h
 ·exact .inr h
theorem zq (m:MemOk K S) (r:Rep K S t v) (e:yq t S.M = some xs):∃ p vs,v = .ref p/\SqL K S.H p vs/\Reps K S xs vs:=by
 cases r with
 | @lst ts p vs h l r=>cases e;exact ⟨p,vs,rfl,zcq h,l,r⟩
 | @ref a h=>
  unfold yq at e
  dsimp only at e
  split at e
  ·rename_i ys q
   cases e
   obtain ⟨vs,q2,r2⟩:=m.cell a _ q
   exact ⟨_,vs,rfl,.inl (.inl q2),r2⟩
  ·cases e
 | _=>cases e
theorem zck (m:MemOk K S) (r:Rep K S t v) (e:zcA t S.M = some xs):∃ p vs,v = .ref p/\(SqL K S.H p vs\/SqT K S.H p vs)/\Reps K S xs vs:=by
 cases t with
 | tup ts=>
  cases e
  cases r with
  | @tup _ p vs h l r=>exact ⟨p,vs,rfl,.inr h,l,r⟩
 | lst ts=>obtain ⟨p,vs,e1,h,r2⟩:=zq m r e;exact ⟨p,vs,e1,.inl h,r2⟩
 | ref a=>obtain ⟨p,vs,e1,h,r2⟩:=zq m r e;exact ⟨p,vs,e1,.inl h,r2⟩
 | _=>cases e
end
noncomputable def yW (f:Ev->Mem->Out T):Ev->Mem->Out (List T):=fun σ M=>(f σ M).bind fun t M1=>match ze8 t with
 | some xs=>.ok xs M1
 | none=>.bad
noncomputable def zbm (lo:Int) (n:Nat):List T:=(List.range n).map fun (k:Nat)=>T.int (lo + (k:Int))
noncomputable def zdR (ts:List T) (M1:Mem):Out (List T):=match ts with
 | [.int j]=>@ite _ (-(2 ^ 62)<=j/\j < 2 ^ 62) (Classical.propDecidable _) (.ok (zbm 0 j.toNat) M1) .bad
 | _=>.bad
noncomputable def zbP (ts:List T) (M1:Mem):Out (List T):=match ts with
 | [.int i,.int j]=>@ite _ ((-(2 ^ 62)<=i/\i < 2 ^ 62)/\(-(2 ^ 62)<=j/\j < 2 ^ 62)) (Classical.propDecidable _) (.ok (zbm i (j - i).toNat) M1) .bad
 | _=>.bad
noncomputable def z9 (f:Ev->Mem->Out (List T)):Ev->Mem->Out (List T):=fun σ M=>(f σ M).bind fun ts M1=>zdR ts M1
noncomputable def zcH (f:Ev->Mem->Out (List T)):Ev->Mem->Out (List T):=fun σ M=>(f σ M).bind fun ts M1=>zbP ts M1
theorem zfq (K:Frag) (S:Sit) (lo:Int) (n:Nat):zat K S (zbm lo n) (Itr lo n):=fun S' s=>by
 refine ⟨fun i t e=>?_,fun i h=>?_⟩
 ·unfold zbm at e
  rw [Q9] at e
  cases q:(List.range n)[i]? with
  | none=>rw [q] at e;cases e
  | some k=>
   rw [q] at e
   cases e
   have hi:i < n:=by have:=(List.getElem?_eq_some_iff.mp q).1;simpa using this
   have hk:k = i:=by rw [getElem?_range hi] at q;exact (Qa q).symm
   subst hk
   refine ⟨hi,fun x H' hy=>?_⟩
   obtain ⟨e1,e2⟩:=hy
   exact ⟨S',e1.symm,rfl,.refl s.mok,by rw [e2];exact .int _⟩
 ·show n<=i
  simpa [zbm] using h
section
variable {a b c:Expr} {g h:Ev->Mem->Out T} {p:Pos}
theorem zms (he:GE X XE e f):GI X XE tg e (yW f):=PI.imp (PI.or (zkk he) (zlK he)) fun σ H R h9=>by
 obtain ⟨S,στ,_,e,m,ev,_,fin⟩:=h9
 replace fin:Fin XE (zat X.K) X.K S ((f στ S.M).bind fun t M1=>match ze8 t with | some xs=>.ok xs M1 | none=>.bad) R:=fin
 cases o:f στ S.M with
 | bad=>rw [o] at fin;exact fin.elim
 | exn C fs M'=>
  rw [o] at fin
  refine .inl ⟨S,στ,(),e,m,ev,trivial,?_⟩
  show Fin XE (Rep X.K) X.K S (f στ S.M) _
  rw [o];exact fin
 | ok t M1=>
  rw [o] at fin
  cases t with
  | lst ts=>
   refine .inl ⟨S,στ,(),e,m,ev,trivial,?_⟩
   show Fin XE (Rep X.K) X.K S (f στ S.M) _
   rw [o]
   intro S1 v e1 s1 r1
   cases r1 with
   | @lst _ p vs h l r=>
    have r1:Reps X.K S1 ts vs:=⟨l,r⟩
    refine ⟨p,rfl,⟨vs,zcq h⟩,fin S1 _ e1 s1 fun S3 s3=>?_⟩
    have g3:SqL X.K S3.H p vs:=by
     rcases h with ⟨h2,f2⟩ | h2
     ·exact .inl (s3.toGrow.rd h2 f2).1
     ·exact .inr h2
    refine ⟨fun i t et=>?_,fun i hi=>⟨vs,g3,by rw [← l];exact hi⟩⟩
    obtain ⟨v2,ev3,r3⟩:=r1.get et
    refine ⟨⟨vs,v2,g3,ev3⟩,fun x H' hy=>?_⟩
    obtain ⟨ey,hy⟩:=hy
    have:=hy vs g3
    rw [ev3] at this
    cases this
    exact ⟨S3,ey.symm,rfl,.refl s3.mok,r3.grow s1.mok s3.toGrow⟩
  | tup ts=>
   refine .inr ⟨S,στ,(),e,m,ev,trivial,?_⟩
   show Fin XE (Rep X.K) X.K S (f στ S.M) _
   rw [o]
   intro S1 v e1 s1 r1
   cases r1 with
   | @tup _ p vs h l r=>
    have r1:Reps X.K S1 ts vs:=⟨l,r⟩
    refine ⟨p,rfl,⟨vs,h⟩,fin S1 _ e1 s1 fun S3 s3=>?_⟩
    have g3:SqT X.K S3.H p vs:=s3.toGrow.tup s1.mok h
    refine ⟨fun i t et=>?_,fun i hi=>⟨vs,g3,by rw [← l];exact hi⟩⟩
    obtain ⟨v2,ev3,r3⟩:=r1.get et
    refine ⟨⟨vs,v2,g3,ev3⟩,fun x H' hy=>?_⟩
    obtain ⟨ey,hy⟩:=hy
    have:=hy vs g3
    rw [ev3] at this
    cases this
    exact ⟨S3,ey.symm,rfl,.refl s3.mok,r3.grow s1.mok s3.toGrow⟩
  | _=>exact fin.elim
end
noncomputable def zn (bd:T->Ev->Mem->Out Ev) (cond:Ev->Mem->Out Bool) (el:Ev->Mem->Out T):List T->Ev->Mem->List T->Out (List T)
 | [],_,M,acc=>.ok acc M
 | x :: xs,σ,M,acc=>(bd x σ M).bind fun σ1 M1=>(cond σ1 M1).bind fun b M2=>if b = true then (el σ1 M2).bind fun t M3=>if acc.length < sizeLine then zn bd cond el xs σ1 M3 (acc ++ [t]) else .bad else zn bd cond el xs σ1 M2 acc
noncomputable def zct (tgs:List Str) (caps:List (Str × Nat)) (σ:Ev):Ev:=tgs.map (fun _=>none) ++ caps.map fun c=>(σ[c.2]?).join
noncomputable def zaz (it:Ev->Mem->Out (List T)) (bd:T->Ev->Mem->Out Ev) (cond:Ev->Mem->Out Bool) (el:Ev->Mem->Out T) (tgs:List Str) (caps:List (Str × Nat)):Ev->Mem->Out (List T):=fun σ M=>(it σ M).bind fun xs M1=>zn bd cond el xs (zct tgs caps σ) M1 []
noncomputable def y4:Ev->Mem->Out Bool:=fun _ M=>.ok true M
theorem EvR.cap {K:Frag} {S:Sit} (r:EvR K S στ σ) (tgs:List Str) (caps:List (Str × Nat)):EvR K S (zct tgs caps στ) (zbs tgs caps σ):=by
 refine ⟨by simp [zct,zbs],fun i t e=>?_⟩
 unfold zct at e
 unfold zbs
 by_cases hi:i < tgs.length
 ·rw [Q6 (by simpa using hi)] at e
  rw [Q9] at e
  cases q:tgs[i]? with
  | none=>rw [q] at e;cases e
  | some x=>rw [q] at e;cases e
 ·rw [Q7 (by simpa using hi),Q9] at e
  rw [Q7 (by simpa using hi),Q9]
  simp only [Qe] at e ⊢
  cases q:caps[i - tgs.length]? with
  | none=>rw [q] at e;cases e
  | some cq=>
   rw [q] at e
   have e2:(στ[cq.2]?).join = some t:=Qa e
   have e3:στ[cq.2]? = some (some t):=by
    cases q2:στ[cq.2]? with
    | none=>rw [q2] at e2;cases e2
    | some o=>rw [q2] at e2;cases o with
     | none=>cases e2
     | some v'=>rw [show v' = t from Qa e2]
   obtain ⟨v,e4,r4⟩:=r.2 _ _ e3
   exact ⟨v,by show some ((σ[cq.2]?).join) = _;rw [e4];rfl,r4⟩
noncomputable def Sit.hput (S:Sit) (p:Addr) (vs:List V):Sit:=⟨S.α,S.M,upd S.H p (.lst vs),S.hid⟩
section
variable {K:Frag} {S S0:Sit} {us:List V}
theorem Rep.hput (m:MemOk K S) (hp:p ∈ S.hid) (r:Rep K S t v):Rep K (S.hput p us) t v:=by
 obtain ⟨_,ws,ew⟩:=m.hd p hp
 induction r with
 | non=>exact .non
 | bl b=>exact .bl b
 | int b=>exact .int b
 | str b=>exact .str b
 | ty b=>exact .ty b
 | @tup ts q vs h l _ ih=>
  refine .tup ?_ l ih
  rcases h with (h | ⟨o,h⟩) | h
  ·exact .inl (.inl ((yf (zcE h ew (by intro z;cases z))).trans h))
  ·exact .inl (.inr ⟨o,(yf (zcE h ew (by intro z;cases z))).trans h⟩)
  ·exact .inr h
 | @lst ts q vs h l _ ih=>
  refine .lst ?_ l ih
  rcases h with ⟨h,f⟩ | h
  ·have hne:q ≠ p:=fun z=>f.2 (by rw [z];exact hp)
   refine .inl ⟨?_,f⟩
   rcases h with h | ⟨o,h⟩
   ·exact .inl ((yf hne).trans h)
   ·exact .inr ⟨o,(yf hne).trans h⟩
  ·exact .inr h
 | ref h=>exact .ref (S:=S.hput p us) h
 | dct h l _ ih=>exact .dct (S:=S.hput p us) ((yf (zcE h ew (by intro z;cases z))).trans h) l ih
 | exc h hd l _ ih=>exact .exc (S:=S.hput p us) ((yf (zcE h ew (by intro z;cases z))).trans h) (hd.imp (fun z=>z) fun ⟨d,a,b⟩=>⟨d,a,(yf (zcE b ew (by intro z;cases z))).trans b⟩) l ih
theorem Reps.hput (m:MemOk K S) (hp:p ∈ S.hid) {t:List T} {v:List V} (r:Reps K S t v):Reps K (S.hput p us) t v:=⟨r.1,fun i a b e1 e2=>(r.2 i a b e1 e2).hput m hp⟩
theorem CellOk.hput (m:MemOk K S) (hp:p ∈ S.hid) (hq:q ≠ p) (r:CellOk K S q c):CellOk K (S.hput p us) q c:=by
 cases c with
 | lst ts=>obtain ⟨vs,q,r⟩:=r;exact ⟨vs,(yf hq).trans q,r.hput m hp⟩
 | dic ts=>obtain ⟨vs,q,r⟩:=r;exact ⟨vs,(yf hq).trans q,r.1,r.2.hput m hp⟩
 | ins C ts=>obtain ⟨dx,vs,q,r⟩:=r;exact ⟨dx,vs,(yf hq).trans q,r.1,r.2.hput m hp⟩
theorem Stp.hput (s:Stp K S0 S) (hp:p ∈ S.hid) (hn:S0.H p = none) (m0:MemOk K S0):Stp K S0 (S.hput p us):=by
 refine ⟨⟨s.le,s.al,s.fr,fun b o e f=>(yf (zl e hn)).trans (s.kp b o e f),fun q h=>⟨(s.hk q h).1,?_⟩,s.hf⟩,⟨fun a c e=>?_,s.mok.inj,fun q h=>?_⟩⟩
 ·obtain ⟨_,vs,e⟩:=m0.hd q h
  exact (yf (zl e hn)).trans (s.hk q h).2
 ·exact (s.mok.cell a c e).hput s.mok hp ((s.mok.hd p hp).1 a (List.getElem?_eq_some_iff.mp e).1)
 ·obtain ⟨h1,vs,e⟩:=s.mok.hd q h
  refine ⟨h1,?_⟩
  by_cases z:q = p
  ·exact ⟨us,by show upd S.H p _ q = _;rw [z];exact qo⟩
  ·exact ⟨vs,(yf z).trans e⟩
end
structure CB (X:Cx) (scope:Scope) (cl:List (Str × Addr)) (caps:List (Str × Nat)):Prop where
 hc:X.calm = true
 hclos:closureFor scope X.env = pure cl
 hcell:∀ y ∈ scope.names,y.2 = .cell->y.1 ∉ caps.map (·.1)
 hkind:scope.kind = .function
 hnames:∀ y ∈ scope.names,y.2 = .local->scope.names.lookup y.1 = some .local
 hcl:∀ y c,cl.lookup y = some c->X.env.cells.lookup y = some c
 hhas:∀ n y,((relabel scope X.env).names.lookup y = some .cell\/(relabel scope X.env).names.lookup y = some .free)->∃ c,(cellsFrom n scope.names cl).lookup y = some c
 hcap:∀ c ∈ caps,X.N[c.2]? = some c.1/\X.env.kindOf c.1 = some .cell/\((relabel scope X.env).names.lookup c.1 = some .cell\/(relabel scope X.env).names.lookup c.1 = some .free)
variable {cond:Ev->Mem->Out Bool} {caps:List (Str × Nat)} {tgs:List Str}
section
theorem zjw (hh:lL XE X.K (zaz ga bd cond f tgs caps) σ H Q) :
  zjD (lI XE X.K ga) (lG XE X.K bd) (lT XE X.K cond) (lE XE X.K f) (zbs tgs caps) σ H Q:=by
 obtain ⟨S,στ,e,m,ev,fin⟩:=hh
 replace fin:FinL XE X.K S ((ga στ S.M).bind fun xs M1=>zn bd cond f xs (zct tgs caps στ) M1 []) Q:=fin
 refine ⟨S,στ,(),e,m,ev,trivial,?_⟩
 show Fin XE (zat X.K) X.K S (ga στ S.M) _
 cases o:ga στ S.M with
 | bad=>rw [o] at fin;exact fin
 | exn C fs M'=>rw [o] at fin;exact fin
 | ok items M1=>
  rw [o] at fin
  replace fin:FinL XE X.K S (zn bd cond f items (zct tgs caps στ) M1 []) Q:=fin
  intro S0 J e0 s0 it0 D hD
  have m0:=s0.mok
  have fin0:=fin.later s0
  have s1:=Stp.hide (K:=X.K) m0 hD []
  refine ⟨fun i n σ' H'=>∃ S στ acc vs,S.H = H'/\EvR X.K S στ σ'/\n = items.length - i/\i<=items.length/\D ∈ S.hid/\S.H D = some (.lst vs)/\Reps X.K S acc vs/\Stp X.K S0 S/\FinL XE X.K S0 (zn bd cond f (items.drop i) στ S.M acc) Q,
   ⟨items.length - 0,S0.hide D [],zct tgs caps στ,[],[],rfl,(Mo.mo (K:=X.K) m0 s1 (Mo.mo (K:=X.K) m s0 ev)).cap tgs caps,rfl,Nat.zero_le _,.head _,qo,.nil,s1,by show FinL XE X.K S0 (zn bd cond f items (zct tgs caps στ) S0.M []) Q;rw [e0];exact fin0⟩,?_⟩
  rintro i n σ1 H1 ⟨S2,στ2,acc,vs,e2,ev2,en,hi2,hid2,hD2,racc,s2,fin2⟩
  subst e2
  have m2:=s2.mok
  obtain ⟨itg,its⟩:=it0 S2 s2
  by_cases hl:i < items.length
  ·have eq:items.drop i = items[i] :: items.drop (i + 1):=drop_eq_getElem_cons hl
   rw [eq] at fin2
   obtain ⟨go,yl⟩:=itg i items[i] (by simp [hl])
   refine .inr ⟨go,fun σ' H'=>∃ S στ acc vs,S.H = H'/\EvR X.K S στ σ'/\D ∈ S.hid/\S.H D = some (.lst vs)/\Reps X.K S acc vs/\Stp X.K S0 S/\FinL XE X.K S0 (zn bd cond f (items.drop (i + 1)) στ S.M acc) Q,?_,fun x H' hy=>?_⟩
   ·rintro σ' H' ⟨S,στ,acc,vs,a1,a2,a3,a4,a5,a6,a7⟩
    exact ⟨items.length - (i + 1),by omega,S,στ,acc,vs,a1,a2,rfl,hl,a3,a4,a5,a6,a7⟩
   ·obtain ⟨S3,e3,eM,s3,r3⟩:=yl x H' hy
    replace fin2:FinL XE X.K S0 ((bd items[i] στ2 S2.M).bind fun σ1 M1=>(cond σ1 M1).bind fun b M2=>if b = true then (f σ1 M2).bind fun t M3=>if acc.length < sizeLine then zn bd cond f (items.drop (i + 1)) σ1 M3 (acc ++ [t]) else .bad else zn bd cond f (items.drop (i + 1)) σ1 M2 acc) Q:=fin2
    refine ⟨S3,στ2,items[i],e3,s3.mok,Mo.mo m2 s3 ev2,r3,?_⟩
    show Fin XE (EvR X.K) X.K S3 (bd items[i] στ2 S3.M) _
    rw [eM]
    cases o1:bd items[i] στ2 S2.M with
    | bad=>rw [o1] at fin2;exact fin2
    | exn C fs M'=>rw [o1] at fin2;exact fun S' od a1 a2 a3=>fin2 S' od a1 ((s2.trans s3).trans a2) a3
    | ok σ4 M4=>
     rw [o1] at fin2
     intro S4 σ4v e4 s4 ev4
     have t4:=s3.trans s4
     replace fin2:FinL XE X.K S0 ((cond σ4 M4).bind fun b M2=>if b = true then (f σ4 M2).bind fun t M3=>if acc.length < sizeLine then zn bd cond f (items.drop (i + 1)) σ4 M3 (acc ++ [t]) else .bad else zn bd cond f (items.drop (i + 1)) σ4 M2 acc) Q:=fin2
     refine ⟨S4,σ4,(),rfl,s4.mok,ev4,trivial,?_⟩
     show Fin XE EqR X.K S4 (cond σ4 S4.M) _
     rw [e4]
     cases o2:cond σ4 M4 with
     | bad=>rw [o2] at fin2;exact fin2
     | exn C fs M'=>rw [o2] at fin2;exact fun S' od a1 a2 a3=>fin2 S' od a1 ((s2.trans t4).trans a2) a3
     | ok b M5=>
      rw [o2] at fin2
      intro S5 b5 e5 s5 eb
      have eb':b = b5:=eb
      subst eb'
      have t5:=t4.trans s5
      replace fin2:FinL XE X.K S0 (if b = true then (f σ4 M5).bind fun t M3=>if acc.length < sizeLine then zn bd cond f (items.drop (i + 1)) σ4 M3 (acc ++ [t]) else .bad else zn bd cond f (items.drop (i + 1)) σ4 M5 acc) Q:=fin2
      cases b with
      | false=>
       rw [if_neg Q4] at fin2
       refine (if_neg Q4).mpr ⟨S5,σ4,acc,vs,rfl,Mo.mo s4.mok s5 ev4,(t5.hk D hid2).1,by rw [(t5.hk D hid2).2];exact hD2,racc.grow m2 t5.toGrow,s2.trans t5,by rw [e5];exact fin2⟩
      | true=>
       rw [if_pos rfl] at fin2
       refine (if_pos rfl).mpr ⟨S5,σ4,(),rfl,s5.mok,Mo.mo s4.mok s5 ev4,trivial,?_⟩
       show Fin XE (Rep X.K) X.K S5 (f σ4 S5.M) _
       rw [e5]
       cases o3:f σ4 M5 with
       | bad=>rw [o3] at fin2;exact fin2
       | exn C fs M'=>rw [o3] at fin2;exact fun S' od a1 a2 a3=>fin2 S' od a1 ((s2.trans t5).trans a2) a3
       | ok t M6=>
        rw [o3] at fin2
        replace fin2:FinL XE X.K S0 (if acc.length < sizeLine then zn bd cond f (items.drop (i + 1)) σ4 M6 (acc ++ [t]) else .bad) Q:=fin2
        intro S6 v6 e6 s6 r6
        have t6:=t5.trans s6
        have hz:acc.length < sizeLine:=by
         by_cases hz:acc.length < sizeLine
         ·exact hz
         ·rw [if_neg hz] at fin2;exact fin2.elim
        rw [if_pos hz] at fin2
        have hid6:=(t6.hk D hid2).1
        have hD6:S6.H D = some (.lst vs):=by rw [(t6.hk D hid2).2];exact hD2
        refine ⟨vs,hD6,by rw [← racc.1];exact hz,S6.hput D (vs ++ [v6]),σ4,acc ++ [t],vs ++ [v6],rfl,?_,hid6,qo,?_,(s2.trans t6).hput hid6 hD m0,by show FinL XE X.K S0 (zn bd cond f (items.drop (i + 1)) σ4 S6.M (acc ++ [t])) Q;rw [e6];exact fin2⟩
        ·have ev6:EvR X.K S6 σ4 σ4v:=Mo.mo s4.mok (s5.trans s6) ev4
         exact ⟨ev6.1,fun i t e=>let ⟨v,e',q⟩:=ev6.2 i t e;⟨v,e',q.hput s6.mok hid6⟩⟩
        ·exact ((racc.grow m2 t6.toGrow).app (.cons r6 .nil)).hput s6.mok hid6
  ·rw [drop_eq_nil_of_le (by omega)] at fin2
   refine .inl ⟨its i (by omega),?_⟩
   exact fin2 S2 D vs rfl s2 hD hid2 hD2 racc
theorem zkQ:PTs X [] (lT XE X.K y4):=fun pins s σ H Q I h=>zka pins s σ H Q I (zeQ h)
theorem zkP {c:Expr} (h:GT X XE c tf):PTs X [c] (lT XE X.K tf):=zj9 h
end
def LNL {A AV:Type} (XE:XK) (K:Frag) (RA:Sit->A->AV->Prop) (k:A->Ev->Mem->Out (List T)) (av:AV) (σ:L2.St) (H:Hp) (Q:VK):Prop:=
 ∃ (S:Sit) (στ:Ev) (a:A),S.H = H/\MemOk K S/\EvR K S στ σ/\RA S a av/\FinL XE K S (k a στ S.M) Q
theorem LNL.bind {K:Frag} {A AV B BV:Type} {RA:Sit->A->AV->Prop} {RB:Sit->B->BV->Prop} [Mo K RA] {f:A->Ev->Mem->Out B} {k:A->B->Ev->Mem->Out (List T)} {av:AV} 
 (h:LNL XE K RA (fun a σ M=>(f a σ M).bind fun b M1=>k a b σ M1) av σ H Q):LN XE RB K RA f av σ H (fun bv H1=>LNL XE K (PrR RA RB) (fun ab=>k ab.1 ab.2) (av,bv) σ H1 Q):=by
 obtain ⟨S,στ,a,e,m,ev,ra,fin⟩:=h
 refine ⟨S,στ,a,e,m,ev,ra,?_⟩
 replace fin:FinL XE K S ((f a στ S.M).bind fun b M1=>k a b στ M1) Q:=fin
 cases q:f a στ S.M with
 | bad=>rw [q] at fin;exact fin
 | exn C fs M'=>rw [q] at fin;exact fin
 | ok b M1=>
  rw [q] at fin
  intro S1 c e1 s1 r1
  refine ⟨S1,στ,(a,b),rfl,s1.mok,Mo.mo m s1 ev,⟨Mo.mo m s1 ra,r1⟩,?_⟩
  rw [e1]
  exact fin.later s1
def L0L {A AV:Type} (XE:XK) (K:Frag) (RA:Sit->A->AV->Prop) (k:A->Mem->Out (List T)) (av:AV) (H:Hp) (Q:VK):Prop:=∃ (S:Sit) (a:A),S.H = H/\MemOk K S/\RA S a av/\FinL XE K S (k a S.M) Q
noncomputable def zg7 (XE:XK) (K:Frag) (o:List T->Mem->Out (List T)):List V->Hp->VK->Prop:=fun xs H Q=>L0L XE K (Reps K) o xs H Q
noncomputable def lOp (o:T->T->Mem->Out (List T)) (f g:Ev->Mem->Out T):Ev->Mem->Out (List T):=fun σ M=>(f σ M).bind fun x M1=>(g σ M1).bind fun y M2=>o x y M2
noncomputable def zcF (F:List T->Mem->Out (List T)) (g:Ev->Mem->Out (List T)):Ev->Mem->Out (List T):=fun σ M=>(g σ M).bind fun ts M1=>F ts M1
theorem zc9 {K:Frag} {S:Sit} (m:MemOk K S) (fin:FinL XE K S (.ok xs S.M) Q) (r:Reps K S xs vs):∀ p,S.H p = none->Q (.ref p) (upd S.H p (.lst vs)):=fun p hp=>
 fin (S.hide p vs) p vs rfl (Stp.hide m hp vs) hp (.head _) qo (r.grow m (Stp.hide m hp vs).toGrow)
variable {F:List T->Mem->Out (List T)}
section
variable {a b:Expr} {g:Ev->Mem->Out T} {p:Pos}
theorem znr {id:String} (hc:CallR X (.type id) (zg7 XE X.K F)) (hg:Gl X x) (hm:X.mg x = none) (hv:bootBuiltins x = some (.type id)) (ha:GA X XE (e :: es) ga) (hn:x ≠ "__name__":=by decide) (hdb:(x == ("__debug__":Str)) = false:=by decide)
 (he:noStar e = true:=by rfl) (hpl:es.all noStar = true:=by rfl) :
  GL X XE (.Call (.Name x p) (e :: es) [] pos) (zcF F ga):=PE.imp (zcp hc hg hm hv ha hn hdb (qt he) (q5 hpl)) fun σ H Q ⟨S,στ,e,m,ev,fin⟩=>
 LN.mono (LNL.bind (f:=fun (_:Unit) σ M=>ga σ M) (k:=fun _ ts σ M1=>F ts M1) (RA:=UnR) (RB:=Reps X.K) ⟨S,στ,(),e,m,ev,trivial,fin⟩) fun vs H1 ⟨S,στ,a,e,m,ev,ra,fin⟩=>⟨S,a.2,e,m,ra.2,fin⟩
end
noncomputable def zW (k:Int->Int->Mem->Out T) (x y:T) (M:Mem):Out T:=match x,y with
 | .int i,.int j=>k i j M
 | _,_=>.bad
def Mo64 (i j:Int):Prop:=(i.natAbs < 10 ^ 3000/\j.natAbs < 10 ^ 3000)\/(-(2 ^ 64) < i/\i < 2 ^ 64)\/(-(2 ^ 64) < j/\j < 2 ^ 64)
instance (i j:Int):Decidable (Mo64 i j):=inferInstanceAs (Decidable (_\/_))
variable {j:Int}
theorem Mo64.ok (h:Mo64 i j):CMulB i j:=by
 rcases h with h | h
 ·exact .inl ⟨3000,3000,h.1,h.2,Q3 _,Q3 _⟩
 ·exact .inr h
noncomputable def zdM:T->T->Mem->Out T:=zW fun i j M=>.ok (.int (i - j)) M
noncomputable def zdk:T->T->Mem->Out T:=zW fun i j M=>if j ≠ 0/\j.natAbs < 10 ^ 2000 then .ok (.int (i.fdiv j)) M else .bad
noncomputable def zaU:T->T->Mem->Out T:=zW fun i j M=>if j ≠ 0 then .ok (.int (i.fmod j)) M else .bad
noncomputable def zgU:T->T->Mem->Out T:=zW fun i j M=>if 0<=j/\j<=1000000/\i.natAbs < 2 ^ 64 then .ok (.int (i ^ j.toNat)) M else .bad
noncomputable def ltI:T->T->Mem->Out T:=zW fun i j M=>.ok (.bl (decide (i < j))) M
noncomputable def leI:T->T->Mem->Out T:=zW fun i j M=>.ok (.bl (decide (i<=j))) M
noncomputable def gtI:T->T->Mem->Out T:=zW fun i j M=>.ok (.bl (decide (j < i))) M
noncomputable def geI:T->T->Mem->Out T:=zW fun i j M=>.ok (.bl (decide (j<=i))) M
noncomputable def zfk:T->Mem->Out T:=fun x M=>match x with
 | .int i=>.ok (.int (-i)) M
 | _=>.bad
variable {y:V}
section
theorem zgi {K:Frag} {S:Sit} (r:Rep K S (.int i) v):v = .int i:=by cases r;rfl
theorem z7 {fn:Value->Value->Sem Value} {r:R2} {k:Int->Int->Mem->Out T} (ho:OpR X fn r)
  (h:∀ i j S Q,MemOk X.K S->Fin XE (Rep X.K) X.K S (k i j S.M) Q->r (.int i) (.int j) S.H Q):OpR X fn (lR2 XE X.K (zW k)):=by
 intro pins s σ H x y v u Q I rx ry ⟨S,⟨tx,ty⟩,e,m,⟨r1,r2⟩,fin⟩
 replace fin:Fin XE (Rep X.K) X.K S (zW k tx ty S.M) Q:=fin
 unfold zW at fin
 split at fin
 ·have e1:=zgi r1
  have e2:=zgi r2
  dsimp only at e1 e2
  subst e1;subst e2;subst e
  exact ho pins s σ S.H _ _ v u Q I rx ry (h _ _ S Q m fin)
 ·exact fin.elim
theorem zdZ:OpR X (binaryOp .Sub) (lR2 XE X.K zdM):=z7 zlS fun i j S Q m fin=>⟨i,j,rfl,rfl,fin S _ rfl (.refl m) (.int _)⟩
theorem zgm:OpR X (binaryOp .FloorDiv) (lR2 XE X.K zdk):=z7 zi3 fun i j S Q m fin=>by
 by_cases h:j ≠ 0/\j.natAbs < 10 ^ 2000
 ·rw [if_pos h] at fin
  exact ⟨i,j,rfl,rfl,⟨h.1,2000,h.2,Q3 _⟩,fin S _ rfl (.refl m) (.int _)⟩
 ·rw [if_neg h] at fin;exact fin.elim
theorem y6:OpR X (binaryOp .Mod) (lR2 XE X.K zaU):=z7 zkv fun i j S Q m fin=>by
 by_cases h:j ≠ 0
 ·rw [if_pos h] at fin
  exact ⟨i,j,rfl,rfl,h,fin S _ rfl (.refl m) (.int _)⟩
 ·rw [if_neg h] at fin;exact fin.elim
theorem zgl:OpR X (binaryOp .Pow) (lR2 XE X.K zgU):=z7 zlT fun i j S Q m fin=>by
 by_cases h:0<=j/\j<=1000000/\i.natAbs < 2 ^ 64
 ·rw [if_pos h] at fin
  exact ⟨i,j,rfl,rfl,h,fin S _ rfl (.refl m) (.int _)⟩
 ·rw [if_neg h] at fin;exact fin.elim
theorem zlV:OpR X (compareOp .Lt) (lR2 XE X.K ltI):=z7 zm4 fun i j S Q m fin=>⟨i,j,rfl,rfl,fin S _ rfl (.refl m) (.bl _)⟩
theorem zlW:OpR X (compareOp .LtE) (lR2 XE X.K leI):=z7 zm5 fun i j S Q m fin=>⟨i,j,rfl,rfl,fin S _ rfl (.refl m) (.bl _)⟩
theorem zdq:OpR X (compareOp .Gt) (lR2 XE X.K gtI):=z7 zm6 fun i j S Q m fin=>⟨i,j,rfl,rfl,fin S _ rfl (.refl m) (.bl _)⟩
theorem zjU:L2.UnR X (unaryOp .USub) (lR1 XE X.K zfk):=by
 intro pins s σ H x v Q I rx ⟨S,t,e,m,r,fin⟩
 replace fin:Fin XE (Rep X.K) X.K S (zfk t S.M) Q:=fin
 unfold zfk at fin
 split at fin
 ·cases r
  subst e
  exact zll pins s σ S.H _ v Q I rx ⟨_,rfl,fin S _ rfl (.refl m) (.int _)⟩
 ·exact fin.elim
noncomputable def isB:T->T->Mem->Out T:=fun x y M=>match x,y with
 | .bl a,.bl b=>.ok (.bl (a == b)) M
 | _,_=>.bad
noncomputable def zm9:T->T->Mem->Out T:=fun x y M=>match x,y with
 | .bl a,.bl b=>.ok (.bl (a != b)) M
 | _,_=>.bad
noncomputable def zl1:T->Bool
 | .non=>true
 | _=>false
noncomputable def zdu:T->T->Mem->Out T:=fun x y M=>match y with
 | .non=>.ok (.bl (!zl1 x)) M
 | _=>.bad
theorem zi6 {K:Frag} {S:Sit} (r:Rep K S t v):decide (v = .non) = zl1 t:=by
 cases r <;> first | rfl | exact Qr (by intro z;cases z)
theorem zhP:OpR X (compareOp .IsNot) (lR2 XE X.K zdu):=by
 intro pins s σ H x y v u Q I rx ry ⟨S,⟨tx,ty⟩,e,m,⟨r1,r2⟩,fin⟩
 replace fin:Fin XE (Rep X.K) X.K S (zdu tx ty S.M) Q:=fin
 unfold zdu at fin
 split at fin
 ·cases r2;subst e
  exact zkt pins s σ S.H _ _ v u Q I rx ry ⟨rfl,by rw [zi6 r1];exact fin S _ rfl (.refl m) (.bl _)⟩
 ·exact fin.elim
noncomputable def zha (M:Mem):T->T->Option T
 | .tup xs,.int i=>atI xs i
 | .lst xs,.int i=>atI xs i
 | .ref a,.int i=>match M[a]? with
  | some (.lst xs)=>atI xs i
  | _=>none
 | _,_=>none
noncomputable def zdY (o:Option T) (M:Mem):Out T:=match o with
 | some t=>.ok t M
 | none=>.bad
noncomputable def ixT:T->T->Mem->Out T:=fun x y M=>zdY (zha M x y) M
theorem Reps.atI {K:Frag} {S:Sit} (r:Reps K S ts vs) (e:L2.atI ts i = some t):∃ v,L2.atI vs i = some v/\Rep K S t v:=by
 unfold L2.atI at e ⊢
 rw [← r.1]
 cases q:ixN ts.length i with
 | none=>rw [q] at e;cases e
 | some j=>
  rw [q] at e
  obtain ⟨v,e2,r2⟩:=r.get (show ts[j]? = some t from e)
  exact ⟨v,e2,r2⟩
theorem zk2 {K:Frag} {S:Sit} {tx ty:T} {x:V} (m:MemOk K S) (r1:Rep K S tx x) (r2:Rep K S ty y) (e:zha S.M tx ty = some t) :
  ∃ p vs i v,x = .ref p/\y = .int i/\(SqL K S.H p vs\/SqT K S.H p vs)/\L2.atI vs i = some v/\Rep K S t v:=by
 unfold zha at e
 split at e
 ·cases r2
  cases r1 with
  | @tup _ p vs h l r=>
   obtain ⟨v,e2,r3⟩:=Reps.atI ⟨l,r⟩ e
   exact ⟨p,vs,_,v,rfl,rfl,.inr h,e2,r3⟩
 ·cases r2
  cases r1 with
  | @lst _ p vs h l r=>
   obtain ⟨v,e2,r3⟩:=Reps.atI ⟨l,r⟩ e
   exact ⟨p,vs,_,v,rfl,rfl,.inl (zcq h),e2,r3⟩
 ·split at e
  ·rename_i q
   cases r2
   cases r1 with
   | ref h=>
    obtain ⟨vs,q2,r⟩:=m.cell _ _ q
    obtain ⟨v,e2,r3⟩:=Reps.atI r e
    exact ⟨_,vs,_,v,rfl,rfl,.inl (.inl (.inl q2)),e2,r3⟩
  ·cases e
 ·cases e
theorem zgk {K:Frag} {S:Sit} {o:Option T} (fin:Fin XE (Rep K) K S (zdY o S.M) Q):∃ t,o = some t/\Fin XE (Rep K) K S (.ok t S.M) Q:=by
 unfold zdY at fin
 split at fin
 ·exact ⟨_,rfl,fin⟩
 ·exact fin.elim
theorem zp:IxR X (lR2 XE X.K ixT):=by
 intro va sl pins s σ H x y v u Q I rx ry ⟨S,⟨tx,ty⟩,e,m,⟨r1,r2⟩,fin⟩ hs
 obtain ⟨t,et,fin⟩:=zgk (show Fin XE (Rep X.K) X.K S (zdY (zha S.M tx ty) S.M) Q from fin)
 obtain ⟨p,vs,i,w,e1,e2,hq,ea,r3⟩:=zk2 m r1 r2 et
 dsimp only at e1 e2
 subst e1;subst e2;subst e
 refine zmc va sl pins s σ S.H _ _ v u Q I rx ry ?_ hs
 rcases hq with hq | hq
 ·exact .inl ⟨p,vs,i,w,rfl,rfl,hq,ea,fin S w rfl (.refl m) r3⟩
 ·exact .inr (.inl ⟨p,vs,i,w,rfl,rfl,hq,ea,fin S w rfl (.refl m) r3⟩)
noncomputable def yn (k:T->Mem->Out T) (ts:List T) (M:Mem):Out T:=match ts with
 | [t]=>k t M
 | _=>.bad
noncomputable def call2 (k:T->T->Mem->Out T) (ts:List T) (M:Mem):Out T:=match ts with
 | [t,u]=>k t u M
 | _=>.bad
theorem zb8 {F:Value} {k:T->Mem->Out T} (h:∀ (pins:List (Addr × Obj)) (s:Shared) (σ:L2.St) (S:Sit) (t:T) (x:V) (v:Value) (Q:VK),Inv X pins σ S.H s->RelV x v->MemOk X.K S->Rep X.K S t x->Fin XE (Rep X.K) X.K S (k t S.M) Q->wpAny (model X.prog X.w) X.A (call F [v]) (EP X pins σ Q) X.xe s):CallR X F (lRN XE X.K (yn k)):=by
 intro pins s σ H xs us Q I r ⟨S,ts,e,m,rs,fin⟩
 subst e
 replace fin:Fin XE (Rep X.K) X.K S (yn k ts S.M) Q:=fin
 unfold yn at fin
 split at fin
 ·obtain ⟨v,vs,rfl,r1,r2⟩:=rs.consT
  rw [r2.nilT] at r
  obtain ⟨u,rfl,rx⟩:=vals1 r
  exact h pins s σ S _ v u Q I rx m r1 fin
 ·exact fin.elim
theorem zfL {F:Value} {k:T->T->Mem->Out T} (h:∀ (pins:List (Addr × Obj)) (s:Shared) (σ:L2.St) (S:Sit) (t1 t2:T) (x1 x2:V) (v1 v2:Value) (Q:VK),Inv X pins σ S.H s->RelV x1 v1->RelV x2 v2->MemOk X.K S->Rep X.K S t1 x1->Rep X.K S t2 x2->Fin XE (Rep X.K) X.K S (k t1 t2 S.M) Q->wpAny (model X.prog X.w) X.A (call F [v1,v2]) (EP X pins σ Q) X.xe s):CallR X F (lRN XE X.K (call2 k)):=by
 intro pins s σ H xs us Q I r ⟨S,ts,e,m,rs,fin⟩
 subst e
 replace fin:Fin XE (Rep X.K) X.K S (call2 k ts S.M) Q:=fin
 unfold call2 at fin
 split at fin
 ·obtain ⟨v,vs,rfl,r1,r2⟩:=rs.consT
  obtain ⟨v2,vs2,rfl,r3,r4⟩:=r2.consT
  rw [r4.nilT] at r
  obtain ⟨u,w,rfl,rx,ry⟩:=vals2 r
  exact h pins s σ S _ _ v v2 u w Q I rx ry m r1 r3 fin
 ·exact fin.elim
noncomputable def yI:T->Mem->Out T:=fun t M=>match t with
 | .str z=>if z.length<=sizeLine then .ok (.int z.length) M else .bad
 | t=>match zcA t M with
  | some xs=>.ok (.int xs.length) M
  | none=>.bad
theorem yy:CallR X (.builtin "len") (lRN XE X.K (yn yI)):=zb8 fun pins s σ S t x v Q I rx m r fin=>by
 unfold yI at fin
 split at fin
 ·cases r
  split at fin
  ·rename_i hz
   exact zfJ pins s σ S.H _ _ Q I (.cons rx .nil) ⟨_,rfl,hz,fin S _ rfl (.refl m) (.int _)⟩
  ·exact fin.elim
 ·split at fin
  ·rename_i xs q
   obtain ⟨p,vs,rfl,hq,rs⟩:=zck m r q
   exact zfK pins s σ S.H _ _ Q I (.cons rx .nil) ⟨p,vs,rfl,hq,by rw [← rs.1];exact fin S _ rfl (.refl m) (.int _)⟩
  ·exact fin.elim
noncomputable def zgY:T->T->Mem->Out T:=zW fun i j M=>.ok (.int (if j > i then j else i)) M
noncomputable def zgX:T->T->Mem->Out T:=zW fun i j M=>.ok (.int (if j < i then j else i)) M
theorem ziv (hc:X.calm = true):CallR X (.builtin "max") (lRN XE X.K (call2 zgY)):=zfL fun pins s σ S t1 t2 x1 x2 v1 v2 Q I rx ry m r1 r2 fin=>by
 unfold zgY zW at fin
 split at fin
 ·cases r1;cases r2
  exact ziw hc pins s σ S.H _ _ Q I (.cons rx (.cons ry .nil)) ⟨_,_,rfl,fin S _ rfl (.refl m) (.int _)⟩
 ·exact fin.elim
theorem zit (hc:X.calm = true):CallR X (.builtin "min") (lRN XE X.K (call2 zgX)):=zfL fun pins s σ S t1 t2 x1 x2 v1 v2 Q I rx ry m r1 r2 fin=>by
 unfold zgX zW at fin
 split at fin
 ·cases r1;cases r2
  exact ziu hc pins s σ S.H _ _ Q I (.cons rx (.cons ry .nil)) ⟨_,_,rfl,fin S _ rfl (.refl m) (.int _)⟩
 ·exact fin.elim
noncomputable def zN:T->Mem->Out T:=fun t M=>match zcA t M with
 | some xs=>.ok (.tup xs) M
 | none=>.bad
theorem qS:CallR X (.type "tuple") (lRN XE X.K (yn zN)):=zb8 fun pins s σ S t x v Q I rx m r fin=>by
 unfold zN at fin
 split at fin
 ·rename_i xs q
  obtain ⟨p,vs,rfl,hq,rs⟩:=zck m r q
  refine zeJ pins s σ S.H _ _ Q I (.cons rx .nil) ⟨p,vs,rfl,?_⟩
  rcases hq with hq | hq
  ·refine .inl ⟨hq,fun l hl=>?_⟩
   have s2:=Stp.new m hl (.tup vs)
   exact fin ⟨S.α,S.M,upd S.H l (.tup vs),S.hid⟩ (.ref l) rfl s2 (.tup (.inl (.inl qo)) rs.1 (rs.grow m s2.toGrow).2)
  ·exact .inr ⟨hq,fin S _ rfl (.refl m) (.tup hq rs.1 rs.2)⟩
 ·exact fin.elim
noncomputable def qW (x:T) (ts:List T) (M:Mem):Out T:=match x,ts with
 | .ref a,[t]=>match M[a]? with
  | some (.lst xs)=>if xs.length < sizeLine then .ok .non (M.set a (.lst (xs ++ [t]))) else .bad
  | _=>.bad
 | _,_=>.bad
noncomputable def zcj (o i t:T) (M:Mem):Out Unit:=match o,i with
 | .ref a,.int k=>match M[a]? with
  | some (.lst xs)=>match ixN xs.length k with
   | some j=>.ok () (M.set a (.lst (xs.set j t)))
   | none=>.bad
  | _=>.bad
 | _,_=>.bad
theorem zcD {K:Frag} {S:Sit} (m:MemOk K S) {a:Nat} (e:S.M[a]? = some c) (r:Reps K S ts vs):Stp K S (S.put a (.lst vs) (.lst ts)):=by
 have ha:a < S.M.length:=(List.getElem?_eq_some_iff.mp e).1
 exact Stp.put m ha _ _ ⟨vs,qo,r.grow m (Grow.put m ha _ _)⟩
theorem zeL:zel X (zg6 XE X.K zcj):=by
 intro pins s σ H o i v ov iv u Q I ro ri rv ⟨S,⟨⟨to,ti⟩,tv⟩,e,m,⟨⟨r1,r2⟩,r3⟩,fin⟩
 subst e
 replace fin:Fin XE UnR X.K S (zcj to ti tv S.M) (fun _ H'=>Q H'):=fin
 unfold zcj at fin
 split at fin
 ·split at fin
  ·rename_i a k _ xs q
   split at fin
   ·rename_i j qj
    cases r1
    cases r2
    obtain ⟨vs,q2,rs⟩:=m.cell _ _ q
    refine set_list pins s σ S.H _ _ v ov iv u Q I ro ri rv ⟨S.α a,vs,k,j,rfl,rfl,q2,by rw [← rs.1];exact qj,?_⟩
    exact fin (S.put a (.lst (vs.set j v)) (.lst (xs.set j tv))) () rfl (zcD m q (rs.set r3 j)) trivial
   ·exact fin.elim
  ·exact fin.elim
 ·exact fin.elim
noncomputable def yJ (x:T) (M:Mem):Out T:=match yq x M with
 | some _=>.ok x M
 | none=>.bad
noncomputable def zbc (F:T->List T->Mem->Out T) (f:Ev->Mem->Out T) (g:Ev->Mem->Out (List T)):Ev->Mem->Out T:=fun σ M=>(f σ M).bind fun x M1=>(g σ M1).bind fun ts M2=>F x ts M2
end
noncomputable def zbq (xs:List T) (lo hi:Option Int):List T:=(xs.drop (HT.sIx xs.length 0 lo)).take (HT.sIx xs.length xs.length hi - HT.sIx xs.length 0 lo)
theorem Reps.cutV {K:Frag} {S:Sit} (r:Reps K S ts vs) (lo hi:Option Int):Reps K S (zbq ts lo hi) (L2.cutV vs lo hi):=by
 unfold zbq L2.cutV
 rw [← r.1]
 exact r.sub _ _
theorem zhf {lo hi:Option Int} (h:HT.sIx xs.length 0 lo = 0/\HT.sIx xs.length xs.length hi = xs.length):zbq xs lo hi = xs:=by
 unfold zbq
 rw [h.1,h.2]
 simp
theorem zd0 {K:Frag} {S:Sit} (m:MemOk K S) (fin:Fin XE (Rep K) K S (.ok (.tup xs) S.M) Q) (r:Reps K S xs vs):∀ p,S.H p = none->Q (.ref p) (upd S.H p (.tup vs)):=fun p hp=>by
 have s2:=Stp.new m hp (.tup vs)
 exact fin ⟨S.α,S.M,upd S.H p (.tup vs),S.hid⟩ (.ref p) rfl s2 (.tup (.inl (.inl qo)) r.1 (r.grow m s2.toGrow).2)
theorem zgo {K:Frag} {S:Sit} (m:MemOk K S) (fin:Fin XE (Rep K) K S (.ok (.lst xs) S.M) Q) (r:Reps K S xs vs):∀ p,S.H p = none->Q (.ref p) (upd S.H p (.lst vs)):=fun p hp=>by
 have s2:=Stp.new m hp (.lst vs)
 exact fin ⟨S.α,S.M,upd S.H p (.lst vs),S.hid⟩ (.ref p) rfl s2 (.lst (.inl ⟨.inl qo,m.off_none hp⟩) r.1 (r.grow m s2.toGrow).2)
noncomputable def zt:T->T->Mem->Out T:=fun x y M=>match x,y with
 | .int i,.int j=>.ok (.int (i + j)) M
 | .str a,.str b=>if a.length + b.length<=sizeLine then .ok (.str (a ++ b)) M else .bad
 | .tup xs,.tup ys=>if xs.length + ys.length<=sizeLine then .ok (.tup (xs ++ ys)) M else .bad
 | x,y=>match yq x M,yq y M with
  | some xs,some ys=>if xs.length + ys.length<=sizeLine then .ok (.lst (xs ++ ys)) M else .bad
  | _,_=>.bad
noncomputable def zO:T->T->Mem->Out T:=fun x y M=>match x,y with
 | .int i,.int j=>if Mo64 i j then .ok (.int (i * j)) M else .bad
 | .tup xs,.int k=>if xs ≠ []/\2<=k/\k < 2 ^ 63/\xs.length * k.toNat<=sizeLine then .ok (.tup (List.replicate k.toNat xs).flatten) M else .bad
 | _,_=>.bad
section
theorem yu:OpR X (binaryOp .Add) (lR2 XE X.K zt):=by
 intro pins s σ H x y v u Q I rx ry ⟨S,⟨tx,ty⟩,e,m,⟨r1,r2⟩,fin⟩
 subst e
 replace fin:Fin XE (Rep X.K) X.K S (zt tx ty S.M) Q:=fin
 unfold zt at fin
 split at fin
 ·cases r1;cases r2
  exact zlY pins s σ S.H _ _ v u Q I rx ry ⟨_,_,rfl,rfl,fin S _ rfl (.refl m) (.int _)⟩
 ·cases r1;cases r2
  split at fin
  ·rename_i hz
   exact zgW pins s σ S.H _ _ v u Q I rx ry ⟨_,_,rfl,rfl,hz,fin S _ rfl (.refl m) (.str _)⟩
  ·exact fin.elim
 ·split at fin
  ·rename_i hz
   cases r1 with
   | @tup _ p vs h l r=>
   cases r2 with
   | @tup _ p2 vs2 h2 l2 rr2=>
   have r1:Reps X.K S _ vs:=⟨l,r⟩
   have r2:Reps X.K S _ vs2:=⟨l2,rr2⟩
   refine zky pins s σ S.H _ _ v u Q I rx ry ⟨p,p2,vs,vs2,rfl,rfl,h,h2,by rw [← l,← l2];exact hz,fun e=>?_,fun e1 e2=>?_,fun e1 e2=>zd0 m fin (r1.app r2)⟩
   ·subst e
    rw [r1.nil_inv,nil_append] at fin
    exact fin S _ rfl (.refl m) (.tup h2 l2 rr2)
   ·subst e2
    rw [r2.nil_inv,append_nil] at fin
    exact fin S _ rfl (.refl m) (.tup h l r)
  ·exact fin.elim
 ·split at fin
  ·rename_i xs ys q1 q2
   split at fin
   ·rename_i hz
    obtain ⟨p,vs,e1,h1,s1⟩:=zq m r1 q1
    obtain ⟨p2,vs2,e2,h2,s2⟩:=zq m r2 q2
    dsimp only at e1 e2
    subst e1;subst e2
    exact zkx pins s σ S.H _ _ v u Q I rx ry ⟨p,p2,vs,vs2,rfl,rfl,h1,h2,by rw [← s1.1,← s2.1];exact hz,zgo m fin (s1.app s2)⟩
   ·exact fin.elim
  ·exact fin.elim
theorem Reps.rep {K:Frag} {S:Sit} (r:Reps K S ts vs) (n:Nat):Reps K S (List.replicate n ts).flatten (List.replicate n vs).flatten:=by
 induction n with
 | zero=>exact .nil
 | succ n ih=>rw [replicate_succ,replicate_succ,flatten_cons,flatten_cons];exact r.app ih
theorem zaH:OpR X (binaryOp .Mult) (lR2 XE X.K zO):=by
 intro pins s σ H x y v u Q I rx ry ⟨S,⟨tx,ty⟩,e,m,⟨r1,r2⟩,fin⟩
 subst e
 replace fin:Fin XE (Rep X.K) X.K S (zO tx ty S.M) Q:=fin
 unfold zO at fin
 split at fin
 ·cases r1;cases r2
  split at fin
  ·rename_i h
   exact zku pins s σ S.H _ _ v u Q I rx ry ⟨_,_,rfl,rfl,h.ok,fin S _ rfl (.refl m) (.int _)⟩
  ·exact fin.elim
 ·split at fin
  ·rename_i h
   cases r2
   cases r1 with
   | @tup _ p vs hq l r=>
   have r1:Reps X.K S _ vs:=⟨l,r⟩
   exact zks pins s σ S.H _ _ v u Q I rx ry ⟨p,_,vs,rfl,rfl,hq,fun z=>h.1 (by subst z;exact r1.nil_inv),h.2.1,h.2.2.1,by rw [← l];exact h.2.2.2,zd0 m fin (r1.rep _)⟩
  ·exact fin.elim
 ·exact fin.elim
noncomputable def lO (XE:XK) (K:Frag) (f:Ev->Mem->Out (Option Int)):TO:=fun σ H Q=>LN XE EqR K UnR (fun _ σ M=>f σ M) () σ H Q
def GO (X:Cx) (XE:XK) (e:Option Expr) (f:Ev->Mem->Out (Option Int)):Prop:=PO X e (lO XE X.K f)
noncomputable def zeO:Ev->Mem->Out (Option Int):=fun _ M=>.ok none M
noncomputable def zjb (x:T) (M:Mem):Out (Option Int):=match x with
 | .int i=>.ok (some i) M
 | _=>.bad
noncomputable def zeN (f:Ev->Mem->Out T):Ev->Mem->Out (Option Int):=fun σ M=>(f σ M).bind zjb
theorem PO.imp {e:Option Expr} {t t':TO} (h:PO X e t) (i:∀ σ H Q,t' σ H Q->t σ H Q):PO X e t':=fun pins s σ H Q I q=>h pins s σ H Q I (i σ H Q q)
noncomputable def zed (x:T) (lo hi:Option Int) (M:Mem):Out T:=match x with
 | .tup xs=>.ok (.tup (zbq xs lo hi)) M
 | x=>match yq x M with
  | some xs=>.ok (.lst (zbq xs lo hi)) M
  | none=>.bad
noncomputable def eSl (f:Ev->Mem->Out T) (p q:Ev->Mem->Out (Option Int)):Ev->Mem->Out T:=fun σ M=>(f σ M).bind fun x M1=>(p σ M1).bind fun lo M2=>(q σ M2).bind fun hi M3=>zed x lo hi M3
noncomputable def znR (XE:XK) (K:Frag):V->Option Int->Option Int->Hp->VK->Prop:=fun x lo hi H Q=>∃ S t,S.H = H/\MemOk K S/\Rep K S t x/\Fin XE (Rep K) K S (zed t lo hi S.M) Q
theorem znF:SlR X (znR XE X.K):=by
 intro pins s σ H x v vl vu lo hi sl Q I rx hs pl pu ⟨S,t,e,m,r,fin⟩
 subst e
 unfold zed at fin
 split at fin
 ·cases r with
  | @tup _ p vs h l r=>
  have r1:Reps X.K S _ vs:=⟨l,r⟩
  refine zj1 pins s σ S.H _ v vl vu lo hi sl Q I rx hs pl pu ⟨p,vs,rfl,h,fun w=>?_,fun w=>zd0 m fin (r1.cutV lo hi)⟩
  rw [zhf (by rw [l];exact w)] at fin
  exact fin S _ rfl (.refl m) (.tup h l r)
 ·split at fin
  ·rename_i xs q
   obtain ⟨p,vs,e1,h1,s1⟩:=zq m r q
   subst e1
   exact zj2 pins s σ S.H _ v vl vu lo hi sl Q I rx hs pl pu ⟨p,vs,rfl,h1,zgo m fin (s1.cutV lo hi)⟩
  ·exact fin.elim
end
noncomputable def zV:T->Bool
 | .non=>true
 | .bl _=>true
 | .int _=>true
 | .str _=>true
 | _=>false
noncomputable def eqS:T->T->Bool
 | .non,.non=>true
 | .bl a,.bl b=>a == b
 | .bl a,.int b=>(if a then 1 else 0) == b
 | .int a,.bl b=>a == (if b then 1 else 0)
 | .int a,.int b=>a == b
 | .str a,.str b=>a == b
 | _,_=>false
noncomputable def eqL (f:T->T->Option Bool):List T->List T->Option Bool
 | [],[]=>some true
 | [],_ :: _=>some false
 | _ :: _,[]=>some false
 | x :: xs,y :: ys=>match f x y,eqL f xs ys with
  | some a,some b=>some (a && b)
  | _,_=>none
noncomputable def eqD (M:Mem):Nat->T->T->Option Bool
 | d,.tup xs,.tup ys=>match d with
  | 0=>none
  | d + 1=>eqL (eqD M d) xs ys
 | d,x,y=>if (zV x && zV y) = true then some (eqS x y) else match d,yq x M,yq y M with
  | d + 1,some xs,some ys=>if xs.length = ys.length then eqL (eqD M d) xs ys else some false
  | _,_,_=>none
noncomputable def eqA:T->T->Mem->Out T:=fun x y M=>match eqD M 20 x y with
 | some b=>.ok (.bl b) M
 | none=>.bad
noncomputable def neA:T->T->Mem->Out T:=fun x y M=>match eqD M 20 x y with
 | some b=>.ok (.bl (!b)) M
 | none=>.bad
theorem zb4 {f:T->T->Option Bool}:∀ {xs ys:List T} {b:Bool},eqL f xs ys = some b->
  ∃ e:Nat->Bool,(∀ j x y,xs[j]? = some x->ys[j]? = some y->f x y = some (e j))/\b = ((List.range (min xs.length ys.length)).all e && xs.length == ys.length)
 | [],[],b,h=>by cases h;exact ⟨fun _=>true,fun j x y e1=>by simp at e1,by simp⟩
 | [],_ :: _,b,h=>by cases h;exact ⟨fun _=>true,fun j x y e1=>by simp at e1,by simp⟩
 | _ :: _,[],b,h=>by cases h;exact ⟨fun _=>true,fun j x y _ e1=>by simp at e1,by simp⟩
 | x :: xs,y :: ys,b,h=>by
  unfold eqL at h
  cases q1:f x y with
  | none=>rw [q1] at h;cases h
  | some a=>
   cases q2:eqL f xs ys with
   | none=>rw [q1,q2] at h;cases h
   | some c=>
    rw [q1,q2] at h
    cases h
    obtain ⟨e,h1,h2⟩:=zb4 q2
    refine ⟨fun j=>match j with | 0=>a | j + 1=>e j,fun j u v e1 e2=>?_,?_⟩
    ·cases j with
     | zero=>simp at e1 e2;subst e1;subst e2;exact q1
     | succ j=>exact h1 j u v (by simpa using e1) (by simpa using e2)
    ·rw [h2]
     have:min (x :: xs).length (y :: ys).length = min xs.length ys.length + 1:=by simp only [Qm];omega
     rw [this,List.range_succ_eq_map,all_cons,List.all_map]
     simp [Bool.and_assoc,Function.comp_def]
variable {A:Around}
section
variable {pins:List (Addr × Obj)} {s:Shared} {S:Sit}
theorem qz {K:Frag} (r:Rep K S t v) (h:zV t = true):zM v = true:=by
 cases r <;> first | rfl | (exact absurd (show false = true from h) Q4)
theorem zcJ {K:Frag} {w:V} (r:Rep K S t v) (q:Rep K S u w) (h:zV t = true) (h2:zV u = true):eqS t u = eqV v w:=by
 cases r <;> first | (exact absurd (show false = true from h) Q4) | (cases q <;> first | rfl | (exact absurd (show false = true from h2) Q4))
theorem zgd {K:Frag} (r:Rep K S t v) (q:Rep K S u v) (h:zV t = true) (h2:zV u = true):eqS t u = true:=by
 rw [zcJ r q h h2]
 exact zjp v (qz r h)
theorem zjq (I:L2.Inv X pins σ S.H s) (m:MemOk X.K S):∀ (d:Nat) {t u:T} {v:V} {b:Bool},Rep X.K S t v->Rep X.K S u v->eqD S.M d t u = some b->b = true:=by
 intro d
 induction d with
 | zero=>
  intro t u v b r q h
  unfold eqD at h
  split at h
  ·cases h
  ·split at h
   ·rename_i hs
    rw [Qo] at hs
    cases h
    exact zgd r q hs.1 hs.2
   ·cases h
 | succ d ih=>
  have key:∀ {xs ys:List T} {vs:List V} {b:Bool},Reps X.K S xs vs->Reps X.K S ys vs->eqL (eqD S.M d) xs ys = some b->b = true:=by
   intro xs ys vs b r q h
   obtain ⟨e,h1,h2⟩:=zb4 h
   rw [h2,r.1,q.1]
   simp only [Nat.min_self,Qs,Bool.and_true,all_eq_true,mem_range]
   intro j hj
   have hx:j < xs.length:=by rw [r.1];exact hj
   have hy:j < ys.length:=by rw [q.1];exact hj
   have ex:xs[j]? = some xs[j]:=by simp [hx]
   have ey:ys[j]? = some ys[j]:=by simp [hy]
   have ev:vs[j]? = some vs[j]:=by simp [hj]
   exact ih (r.2 j _ _ ex ev) (q.2 j _ _ ey ev) (h1 j _ _ ex ey)
  intro t u v b r q h
  unfold eqD at h
  split at h
  ·cases r with
   | @tup _ p vs h1 l1 r1=>
   cases q with
   | @tup _ _ vs2 h2 l2 r2=>
   have:=I.tuple_inj h1 h2
   subst this
   exact key ⟨l1,r1⟩ ⟨l2,r2⟩ h
  ·split at h
   ·rename_i hs
    rw [Qo] at hs
    cases h
    exact zgd r q hs.1 hs.2
   ·split at h
    ·rename_i d' xs ys hd q1 q2
     cases hd
     obtain ⟨p,vs,e1,hq1,s1⟩:=zq m r q1
     obtain ⟨p2,vs2,e2,hq2,s2⟩:=zq m q q2
     rw [e1] at e2
     cases e2
     have:=I.list_inj hq1 hq2
     subst this
     rw [if_pos (by rw [s1.1,s2.1])] at h
     exact key s1 s2 h
    ·cases h
theorem zmE (I:L2.Inv X pins σ S.H s) (m:MemOk X.K S):∀ (d:Nat) {A:Around} {t u:T} {v w:V} {x y:Value} {b:Bool},A.units + d < cLine->RelV v x->RelV w y->Rep X.K S t v->Rep X.K S u w->eqD S.M d t u = some b->SeqAt.EqAt A s x y b:=by
 intro d
 induction d with
 | zero=>
  intro A t u v w x y b hu rx ry r q h
  unfold eqD at h
  split at h
  ·cases h
  ·split at h
   ·rename_i hs
    rw [Qo] at hs
    cases h
    rw [zcJ r q hs.1 hs.2]
    exact zfB rx ry (qz r hs.1) (qz q hs.2)
   ·cases h
 | succ d ih=>
  have key:∀ {A:Around} {xs ys:List T} {vs ws:List V} {us zs:List Value} {b:Bool},A.units + d < cLine->Reps X.K S xs vs->Reps X.K S ys ws->Vals vs us->Vals ws zs->eqL (eqD S.M d) xs ys = some b->
    ∃ e:Nat->Bool,(∀ j (h1:j < us.toArray.size) (h2:j < zs.toArray.size),SeqAt.EqAt A s us.toArray[j] zs.toArray[j] (e j))/\b = ((List.range (min us.toArray.size zs.toArray.size)).all e && us.toArray.size == zs.toArray.size):=by
   intro A xs ys vs ws us zs b hu r q hv hw h
   obtain ⟨e,h1,h2⟩:=zb4 h
   have l1:us.length = xs.length:=by rw [← hv.length,r.1]
   have l2:zs.length = ys.length:=by rw [← hw.length,q.1]
   refine ⟨e,fun j g1 g2=>?_,by rw [h2,Qf,Qf,l1,l2]⟩
   have g1':j < us.length:=by simpa using g1
   have g2':j < zs.length:=by simpa using g2
   have ex:xs[j]? = some (xs[j]'(by omega)):=Q0 (by omega)
   have ey:ys[j]? = some (ys[j]'(by omega)):=Q0 (by omega)
   obtain ⟨v,ev,rv⟩:=r.get ex
   obtain ⟨w,ew,rw'⟩:=q.get ey
   obtain ⟨a,ea,ra⟩:=Vals.get hv ev
   obtain ⟨c,ec,rc⟩:=Vals.get hw ew
   have:us.toArray[j] = a:=by
    rw [getElem_toArray];rw [Q0 g1'] at ea;exact Qa ea
   rw [this]
   have:zs.toArray[j] = c:=by
    rw [getElem_toArray];rw [Q0 g2'] at ec;exact Qa ec
   rw [this]
   exact ih hu ra rc rv rw' (h1 j _ _ ex ey)
  intro A t u v w x y b hu rx ry r q h
  have hsame:v = w->b = true:=fun z=>by subst z;exact zjq I m (d + 1) r q h
  unfold eqD at h
  split at h
  ·cases r with
   | @tup _ p vs h1 l1 r1=>
   cases q with
   | @tup _ p2 vs2 h2 l2 r2=>
   cases rx
   cases ry
   by_cases hp:p = p2
   ·subst hp
    rw [hsame rfl]
    exact SeqAt.EqAt.same _
   ·obtain ⟨its,ri,pl,_⟩:=I.tuple h1
    obtain ⟨its2,ri2,pl2,_⟩:=I.tuple h2
    obtain ⟨e,he,eb⟩:=key (A:=A.in1) (by show A.units + 1 + d < cLine;omega) ⟨l1,r1⟩ ⟨l2,r2⟩ ri ri2 h
    rw [eb]
    exact SeqAt.EqAt.of_refs hp (SeqAt.RcAt.tuples pl pl2 (by omega) he)
  ·split at h
   ·rename_i hs
    rw [Qo] at hs
    cases h
    rw [zcJ r q hs.1 hs.2]
    exact zfB rx ry (qz r hs.1) (qz q hs.2)
   ·split at h
    ·rename_i d' xs ys hd q1 q2
     cases hd
     obtain ⟨p,vs,e1,hq1,s1⟩:=zq m r q1
     obtain ⟨p2,vs2,e2,hq2,s2⟩:=zq m q q2
     subst e1
     subst e2
     cases rx
     cases ry
     by_cases hp:p = p2
     ·subst hp
      rw [hsame rfl]
      exact SeqAt.EqAt.same _
     ·obtain ⟨its,ri,pl,_⟩:=I.list hq1
      obtain ⟨its2,ri2,pl2,_⟩:=I.list hq2
      have lz:its.length = xs.length:=by rw [← ri.length,s1.1]
      have lz2:its2.length = ys.length:=by rw [← ri2.length,s2.1]
      by_cases hl:xs.length = ys.length
      ·rw [if_pos hl] at h
       obtain ⟨e,he,eb⟩:=key (A:=A.in1) (by show A.units + 1 + d < cLine;omega) s1 s2 ri ri2 h
       have hsz:its.toArray.size = its2.toArray.size:=by simp [lz,lz2,hl]
       rw [eb,hsz,Nat.min_self,Qs,Bool.and_true,← hsz]
       exact SeqAt.EqAt.of_refs hp (SeqAt.RcAt.lists pl.isList pl2.isList hsz (by omega) he)
      ·rw [if_neg hl] at h
       cases h
       exact SeqAt.EqAt.of_refs hp (SeqAt.RcAt.lists_lengths pl.isList pl2.isList (by simp [lz,lz2,hl]) (by omega))
    ·cases h
theorem zlu {x:V} {u v:Value} (ry:RelV y u) (rx:RelV x v) (fy:zM y = true) (fx:zM x = true):SeqAt.RcAt A s u v (eqV y x):=by
 cases y with
 | non=>
  cases ry
  cases x with
  | non=>cases rx;exact SeqAt.RcAt.none_none
  | bl b=>cases rx;exact SeqAt.RcAt.none_bool b
  | int b=>obtain ⟨t,rfl⟩:=rx;exact SeqAt.RcAt.none_int b t
  | str b=>obtain ⟨t,rfl⟩:=rx;exact SeqAt.RcAt.none_str b t
  | _=>exact absurd (show false = true from fx) Q4
 | bl a=>
  cases ry
  cases x with
  | non=>cases rx;exact SeqAt.RcAt.bool_none a
  | bl b=>cases rx;exact SeqAt.RcAt.bool_bool a b
  | int b=>obtain ⟨t,rfl⟩:=rx;exact SeqAt.RcAt.bool_int a b t
  | str b=>obtain ⟨t,rfl⟩:=rx;exact SeqAt.RcAt.bool_str a b t
  | _=>exact absurd (show false = true from fx) Q4
 | int a=>
  obtain ⟨t',rfl⟩:=ry
  cases x with
  | non=>cases rx;exact SeqAt.RcAt.int_none a t'
  | bl b=>cases rx;exact SeqAt.RcAt.int_bool a t' b
  | int b=>obtain ⟨t,rfl⟩:=rx;exact SeqAt.RcAt.int_int a t' b t
  | str b=>obtain ⟨t,rfl⟩:=rx;exact SeqAt.RcAt.int_str a t' b t
  | _=>exact absurd (show false = true from fx) Q4
 | str a=>
  obtain ⟨t',rfl⟩:=ry
  cases x with
  | non=>cases rx;exact SeqAt.RcAt.str_none a t'
  | bl b=>cases rx;exact SeqAt.RcAt.str_bool a t' b
  | int b=>obtain ⟨t,rfl⟩:=rx;exact SeqAt.RcAt.str_int a t' b t
  | str b=>obtain ⟨t,rfl⟩:=rx;exact SeqAt.RcAt.str_str a t' b t
  | _=>exact absurd (show false = true from fx) Q4
 | _=>exact absurd (show false = true from fy) Q4
theorem ziR {x:V} {u v:Value} (ry:RelV y u) (rx:RelV x v) (fy:zM y = true) (fx:zM x = true):SeqAt.RcNeAt A s u v (!eqV y x):=by
 cases y with
 | non=>
  cases ry
  cases x with
  | non=>cases rx;exact SeqAt.RcNeAt.none_none
  | bl b=>cases rx;exact SeqAt.RcNeAt.none_bool b
  | int b=>obtain ⟨t,rfl⟩:=rx;exact SeqAt.RcNeAt.none_int b t
  | str b=>obtain ⟨t,rfl⟩:=rx;exact SeqAt.RcNeAt.none_str b t
  | _=>exact absurd (show false = true from fx) Q4
 | bl a=>
  cases ry
  cases x with
  | non=>cases rx;exact SeqAt.RcNeAt.bool_none a
  | bl b=>cases rx;exact SeqAt.RcNeAt.bool_bool a b
  | int b=>obtain ⟨t,rfl⟩:=rx;exact SeqAt.RcNeAt.bool_int a b t
  | str b=>obtain ⟨t,rfl⟩:=rx;exact SeqAt.RcNeAt.bool_str a b t
  | _=>exact absurd (show false = true from fx) Q4
 | int a=>
  obtain ⟨t',rfl⟩:=ry
  cases x with
  | non=>cases rx;exact SeqAt.RcNeAt.int_none a t'
  | bl b=>cases rx;exact SeqAt.RcNeAt.int_bool a t' b
  | int b=>obtain ⟨t,rfl⟩:=rx;exact SeqAt.RcNeAt.int_int a t' b t
  | str b=>obtain ⟨t,rfl⟩:=rx;exact SeqAt.RcNeAt.int_str a t' b t
  | _=>exact absurd (show false = true from fx) Q4
 | str a=>
  obtain ⟨t',rfl⟩:=ry
  cases x with
  | non=>cases rx;exact SeqAt.RcNeAt.str_none a t'
  | bl b=>cases rx;exact SeqAt.RcNeAt.str_bool a t' b
  | int b=>obtain ⟨t,rfl⟩:=rx;exact SeqAt.RcNeAt.str_int a t' b t
  | str b=>obtain ⟨t,rfl⟩:=rx;exact SeqAt.RcNeAt.str_str a t' b t
  | _=>exact absurd (show false = true from fx) Q4
 | _=>exact absurd (show false = true from fy) Q4
theorem zii (I:L2.Inv X pins σ S.H s) (m:MemOk X.K S) (d:Nat) {w:V} {x y:Value} {b:Bool} (hu:A.units + d < cLine) (rx:RelV v x) (ry:RelV w y) (r:Rep X.K S t v) (q:Rep X.K S u w) (h:eqD S.M d t u = some b):SeqAt.RcAt A s x y b/\SeqAt.RcNeAt A s x y (!b):=by
 have at_:∀ {A:Around} {d:Nat} {xs ys:List T} {vs ws:List V} {us zs:List Value} {b:Bool},A.units + d < cLine->Reps X.K S xs vs->Reps X.K S ys ws->Vals vs us->Vals ws zs->eqL (eqD S.M d) xs ys = some b->
    ∃ e:Nat->Bool,(∀ j (h1:j < us.toArray.size) (h2:j < zs.toArray.size),SeqAt.EqAt A s us.toArray[j] zs.toArray[j] (e j))/\b = ((List.range (min us.toArray.size zs.toArray.size)).all e && us.toArray.size == zs.toArray.size):=by
  intro A d xs ys vs ws us zs b hu r q hv hw h
  obtain ⟨e,h1,h2⟩:=zb4 h
  have l1:us.length = xs.length:=by rw [← hv.length,r.1]
  have l2:zs.length = ys.length:=by rw [← hw.length,q.1]
  refine ⟨e,fun j g1 g2=>?_,by rw [h2,Qf,Qf,l1,l2]⟩
  have g1':j < us.length:=by simpa using g1
  have g2':j < zs.length:=by simpa using g2
  have ex:xs[j]? = some (xs[j]'(by omega)):=Q0 (by omega)
  have ey:ys[j]? = some (ys[j]'(by omega)):=Q0 (by omega)
  obtain ⟨v,ev,rv⟩:=r.get ex
  obtain ⟨w,ew,rw'⟩:=q.get ey
  obtain ⟨a,ea,ra⟩:=Vals.get hv ev
  obtain ⟨c,ec,rc⟩:=Vals.get hw ew
  have:us.toArray[j] = a:=by
   rw [getElem_toArray];rw [Q0 g1'] at ea;exact Qa ea
  rw [this]
  have:zs.toArray[j] = c:=by
   rw [getElem_toArray];rw [Q0 g2'] at ec;exact Qa ec
  rw [this]
  exact zmE I m d hu ra rc rv rw' (h1 j _ _ ex ey)
 unfold eqD at h
 split at h
 ·split at h
  ·cases h
  ·rename_i d
   cases r with
   | @tup _ p vs h1 l1 r1=>
   cases q with
   | @tup _ p2 vs2 h2 l2 r2=>
   cases rx
   cases ry
   obtain ⟨its,ri,pl,_⟩:=I.tuple h1
   obtain ⟨its2,ri2,pl2,_⟩:=I.tuple h2
   obtain ⟨e,he,eb⟩:=at_ (A:=A.in1) (by show A.units + 1 + d < cLine;omega) ⟨l1,r1⟩ ⟨l2,r2⟩ ri ri2 h
   rw [eb]
   exact ⟨SeqAt.RcAt.tuples pl pl2 (by omega) he,SeqAt.RcNeAt.tuples pl pl2 (by omega) he⟩
 ·split at h
  ·rename_i hs
   rw [Qo] at hs
   cases h
   rw [zcJ r q hs.1 hs.2]
   exact ⟨zlu rx ry (qz r hs.1) (qz q hs.2),ziR rx ry (qz r hs.1) (qz q hs.2)⟩
  ·split at h
   ·rename_i d' xs ys q1 q2
    obtain ⟨p,vs,e1,hq1,s1⟩:=zq m r q1
    obtain ⟨p2,vs2,e2,hq2,s2⟩:=zq m q q2
    subst e1
    subst e2
    cases rx
    cases ry
    obtain ⟨its,ri,pl,_⟩:=I.list hq1
    obtain ⟨its2,ri2,pl2,_⟩:=I.list hq2
    have lz:its.length = xs.length:=by rw [← ri.length,s1.1]
    have lz2:its2.length = ys.length:=by rw [← ri2.length,s2.1]
    by_cases hl:xs.length = ys.length
    ·rw [if_pos hl] at h
     obtain ⟨e,he,eb⟩:=at_ (A:=A.in1) (by show A.units + 1 + d' < cLine;omega) s1 s2 ri ri2 h
     have hsz:its.toArray.size = its2.toArray.size:=by simp [lz,lz2,hl]
     rw [eb,hsz,Nat.min_self,Qs,Bool.and_true,← hsz]
     exact ⟨SeqAt.RcAt.lists pl.isList pl2.isList hsz (by omega) he,SeqAt.RcNeAt.lists pl.isList pl2.isList hsz (by omega) he⟩
    ·rw [if_neg hl] at h
     cases h
     exact ⟨SeqAt.RcAt.lists_lengths pl.isList pl2.isList (by simp [lz,lz2,hl]) (by omega),SeqAt.RcNeAt.lists_lengths pl.isList pl2.isList (by simp [lz,lz2,hl]) (by omega)⟩
   ·cases h
theorem zak (hu:X.A.units + 64 < cLine):OpR X (compareOp .Eq) (lR2 XE X.K eqA):=by
 intro pins s σ H x y v u Q I rx ry ⟨S,⟨tx,ty⟩,e,m,⟨r1,r2⟩,fin⟩
 subst e
 replace fin:Fin XE (Rep X.K) X.K S (eqA tx ty S.M) Q:=fin
 unfold eqA at fin
 split at fin
 ·rename_i b q
  exact (zii I m 20 (A:=X.A) (by omega) rx ry r1 r2 q).1 _ _ _ _ ⟨.bl b,S.H,I,rfl,fin S _ rfl (.refl m) (.bl _)⟩
 ·exact fin.elim
theorem zlU (hu:X.A.units + 64 < cLine):OpR X (compareOp .NotEq) (lR2 XE X.K neA):=by
 intro pins s σ H x y v u Q I rx ry ⟨S,⟨tx,ty⟩,e,m,⟨r1,r2⟩,fin⟩
 subst e
 replace fin:Fin XE (Rep X.K) X.K S (neA tx ty S.M) Q:=fin
 unfold neA at fin
 split at fin
 ·rename_i b q
  exact (zii I m 20 (A:=X.A) (by omega) rx ry r1 r2 q).2 _ _ _ _ ⟨.bl (!b),S.H,I,rfl,fin S _ rfl (.refl m) (.bl _)⟩
 ·exact fin.elim
noncomputable def inA:T->T->Mem->Out T:=fun x y M=>match zcA y M with
 | some ys=>if (zV x && ys.all zV) = true then .ok (.bl (ys.any fun y=>eqS y x)) M else .bad
 | none=>.bad
theorem zho {K:Frag} {x:T} {v:V} (rx:Rep K S x v) (hx:zV x = true):∀ {ys:List T} {vs:List V},Reps K S ys vs->ys.all zV = true->vs.all zM = true/\inV v vs = ys.any fun y=>eqS y x
 | [],vs,r,_=>by rw [r.nilT];exact ⟨rfl,rfl⟩
 | y :: ys,vs,r,h=>by
  obtain ⟨w,ws,rfl,r1,r2⟩:=r.consT
  rw [all_cons,Qo] at h
  obtain ⟨h1,h2⟩:=zho rx hx r2 h.2
  refine ⟨by rw [all_cons,qz r1 h.1,h1];rfl,?_⟩
  unfold inV at h2 ⊢
  rw [any_cons,any_cons,h2,zcJ r1 rx h.1 hx]
theorem zlX:OpR X (compareOp .In) (lR2 XE X.K inA):=by
 intro pins s σ H x y v u Q I rx ry ⟨S,⟨tx,ty⟩,e,m,⟨r1,r2⟩,fin⟩
 subst e
 replace fin:Fin XE (Rep X.K) X.K S (inA tx ty S.M) Q:=fin
 unfold inA at fin
 split at fin
 ·rename_i ys q
  split at fin
  ·rename_i hs
   rw [Qo] at hs
   obtain ⟨p,vs,e1,hq,rs⟩:=zck m r2 q
   dsimp only at e1
   subst e1
   obtain ⟨a1,a2⟩:=zho r1 hs.1 rs hs.2
   exact zhQ pins s σ S.H _ _ v u Q I rx ry ⟨p,vs,rfl,hq,qz r1 hs.1,a1,by rw [a2];exact fin S _ rfl (.refl m) (.bl _)⟩
  ·exact fin.elim
 ·exact fin.elim
end
section
noncomputable def zdg:List T->Option (List Int)
 | []=>some []
 | .int b :: r=>(zdg r).map (b :: ·)
 | _=>none
theorem zft {K:Frag} {S:Sit}:∀ {ts:List T} {vs:List V} {bs:List Int},zdg ts = some bs->Reps K S ts vs->vs = bs.map V.int
 | [],vs,bs,e,r=>by cases e;exact r.nilT
 | .int b :: ts,vs,bs,e,r=>by
  unfold zdg at e
  obtain ⟨v,vs',rfl,r1,r2⟩:=r.consT
  cases q:zdg ts with
  | none=>rw [q] at e;cases e
  | some bs'=>
   rw [q] at e
   cases e
   cases r1
   rw [zft q r2];rfl
 | .non :: _,_,_,e,_=>by cases e
 | .bl _ :: _,_,_,e,_=>by cases e
 | .str _ :: _,_,_,e,_=>by cases e
 | .ty _ :: _,_,_,e,_=>by cases e
 | .tup _ :: _,_,_,e,_=>by cases e
 | .lst _ :: _,_,_,e,_=>by cases e
 | .ref _ :: _,_,_,e,_=>by cases e
end
noncomputable def ziQ (o:Out Fl):Out T:=match o with
 | .ok (.rt t) M'=>.ok t M'
 | .ok (.nx _) M'=>.ok .non M'
 | _=>.bad
theorem zhF {p:Nat} (h:ts.length = p):zj p n g ts M = ziQ (g (startT n ts) M):=by
 unfold zj
 rw [if_pos h]
 rfl
theorem zod:ziQ (.ok (.rt t) M) = .ok t M:=rfl
theorem zoe {σ:Ev} :ziQ (.ok (.nx σ) M) = .ok .non M:=rfl
theorem zox {β:Type} {b:Bool} {k:Bool->Mem->Out β}:blT (.bl b) M k = k b M:=rfl
theorem yd {k:Ev->Mem->Out Fl} {σ:Ev} :qB k (.nx σ) M = k σ M:=rfl
theorem zns {k:Ev->Mem->Out Fl} :qB k (.rt t) M = .ok (.rt t) M:=rfl
theorem znu {k:Ev->Mem->Out Fl} {σ:Ev} :qB k (.bk σ) M = .ok (.bk σ) M:=rfl
theorem znt {k:Ev->Mem->Out Fl} {σ:Ev} :qB k (.ct σ) M = .ok (.ct σ) M:=rfl
theorem znM {k:Ev->Mem->Out Fl} {σ:Ev} :qI k (.nx σ) M = k σ M:=rfl
theorem znL {k:Ev->Mem->Out Fl} :qI k (.rt t) M = .ok (.rt t) M:=rfl
theorem znO {k:Ev->Mem->Out Fl} {σ:Ev} :qI k (.bk σ) M = .ok (.nx σ) M:=rfl
theorem znN {k:Ev->Mem->Out Fl} {σ:Ev} :qI k (.ct σ) M = k σ M:=rfl
theorem zid {x:T} {σ:Ev} :forL bd body (x :: xs) σ M = (bd x σ M).bind fun σ1 M1=>(body σ1 M1).bind (qI (forL bd body xs)):=rfl
theorem zoi {k:T->Mem->Out T} :yn k [t] M = k t M:=rfl
theorem zoh {k:T->T->Mem->Out T} :call2 k [t,u] M = k t u M:=rfl
theorem zoj:zt (.int i) (.int j) M = .ok (.int (i + j)) M:=rfl
theorem zoa:zdM (.int i) (.int j) M = .ok (.int (i - j)) M:=rfl
theorem zkB (h:Mo64 i j):zO (.int i) (.int j) M = .ok (.int (i * j)) M:=if_pos h
theorem zeb (h:j ≠ 0/\j.natAbs < 10 ^ 2000):zdk (.int i) (.int j) M = .ok (.int (i.fdiv j)) M:=if_pos h
theorem zkC (h:j ≠ 0):zaU (.int i) (.int j) M = .ok (.int (i.fmod j)) M:=if_pos h
theorem zof (h:0<=j/\j<=1000000/\i.natAbs < 2 ^ 64):zgU (.int i) (.int j) M = .ok (.int (i ^ j.toNat)) M:=if_pos h
theorem zop:ltI (.int i) (.int j) M = .ok (.bl (decide (i < j))) M:=rfl
theorem zoq:leI (.int i) (.int j) M = .ok (.bl (decide (i<=j))) M:=rfl
theorem zos:gtI (.int i) (.int j) M = .ok (.bl (decide (j < i))) M:=rfl
theorem zot:geI (.int i) (.int j) M = .ok (.bl (decide (j<=i))) M:=rfl
theorem zon:zfk (.int i) M = .ok (.int (-i)) M:=rfl
theorem zog:zgY (.int i) (.int j) M = .ok (.int (if j > i then j else i)) M:=rfl
theorem zou:eqA (.int i) (.int j) M = .ok (.bl (i == j)) M:=rfl
theorem zoo:neA (.int i) (.int j) M = .ok (.bl (!(i == j))) M:=rfl
theorem zor {a b:Bool} :isB (.bl a) (.bl b) M = .ok (.bl (a == b)) M:=rfl
theorem znU {a b:Bool} :zm9 (.bl a) (.bl b) M = .ok (.bl (a != b)) M:=rfl
theorem zaf {α:Type} {xs:List α} :atI xs (n:Int) = xs[n]?:=by
 unfold atI ixN
 by_cases h:n < xs.length
 ·simp [h]
 ·simp [h]
theorem zoJ {α:Type} {x:α} {l:List α}:atI (x :: l) 0 = some x:=by have:=zaf (xs:=x :: l) (n:=0);exact this
theorem zoI {α:Type} {x y:α} {l:List α}:atI (x :: y :: l) 1 = some y:=by have:=zaf (xs:=x :: y :: l) (n:=1);exact this
theorem zoH {α:Type} {x y z:α} {l:List α}:atI (x :: y :: z :: l) 2 = some z:=by have:=zaf (xs:=x :: y :: z :: l) (n:=2);exact this
theorem zoG {α:Type} {x y z w:α} {l:List α}:atI (x :: y :: z :: w :: l) 3 = some w:=by have:=zaf (xs:=x :: y :: z :: w :: l) (n:=3);exact this
theorem zoD:ixN (n + 1) 0 = some 0:=by unfold ixN;simp
theorem zoC:ixN (n + 2) 1 = some 1:=by unfold ixN;simp;omega
theorem zoB:ixN (n + 3) 2 = some 2:=by unfold ixN;simp;omega
theorem za6 {a:Nat} (e:M[a]? = some (.lst xs)) (h:xs.length < sizeLine):qW (.ref a) [t] M = .ok .non (M.set a (.lst (xs ++ [t]))):=by
 unfold qW
 simp only [e,if_pos h]
theorem y2 {a:Nat} (e:M[a]? = some (.lst xs)):yJ (.ref a) M = .ok (.ref a) M:=by
 unfold yJ yq
 simp only [e]
theorem zav {a:Nat} (e:M[a]? = some (.lst xs)):zN (.ref a) M = .ok (.tup xs) M:=by
 unfold zN zcA yq
 simp only [e]
theorem zls (h:-(2 ^ 62)<=j/\j < 2 ^ 62):zdR [.int j] M = .ok (zbm 0 j.toNat) M:=if_pos h
theorem zow:zdk (.int i) (.int 8) M = .ok (.int (i.fdiv 8)) M:=zeb ⟨by decide,Q5 (show (8:Int).natAbs < 10 ^ 1 by decide) (Nat.pow_le_pow_right (by decide) (by decide))⟩
theorem zbz (h:-(2 ^ 64) < i/\i < 2 ^ 64):zO (.int i) (.int j) M = .ok (.int (i * j)) M:=zkB (.inr (.inl h))
theorem zjL (n:Nat) (hn:n<=2000) (h0:j ≠ 0) (h:j.natAbs < 10 ^ n):j ≠ 0/\j.natAbs < 10 ^ 2000:=⟨h0,Q5 h (Nat.pow_le_pow_right (by decide) hn)⟩
structure Po where
 a:Int
 b:Int
 c:Int
noncomputable def Po.dig (p:Po) (base:Int):Int:=if 0 < p.a then p.a % base else
 let mixed:=(p.b + 7919 * (p.c + 1)) % 1000000007
 let stir:=(mixed + 11) * (mixed + 48271) % 998244353
 (stir * stir % 2147483647 / 8) % base
theorem Po.dig_lo (p:Po) {base:Int} (h:0 < base):0<=p.dig base:=by
 unfold Po.dig
 split
 ·exact Int.emod_nonneg _ (by omega)
 ·exact Int.emod_nonneg _ (by omega)
theorem znP:yI (.tup xs) M = .ok (.int xs.length) M:=rfl
theorem znQ:yI (.lst xs) M = .ok (.int xs.length) M:=rfl
theorem zdc {a:Nat} (e:M[a]? = some (.lst xs)):yI (.ref a) M = .ok (.int xs.length) M:=by
 unfold yI zcA yq
 simp only [e]
theorem zfS {α:Type} {xs:List α} (h0:0<=i) (h1:i < xs.length):∃ x,atI xs i = some x/\x ∈ xs:=by
 obtain ⟨n,rfl⟩:∃ n:Nat,i = n:=⟨i.toNat,by omega⟩
 have hn:n < xs.length:=by omega
 exact ⟨xs[n],by rw [zaf];simp [hn],getElem_mem hn⟩
theorem zgC {ys:List T} (h:xs.length + ys.length<=sizeLine):zt (.tup xs) (.tup ys) M = .ok (.tup (xs ++ ys)) M:=if_pos h
noncomputable def zd3:T->Option Key
 | .int i=>some (.inl i)
 | .str x=>some (.inr x)
 | _=>none
noncomputable def zbe (t:T) (M:Mem):Option (List (Key × T)):=match t with
 | .ref a=>match M[a]? with
  | some (.dic kvs)=>some kvs
  | _=>none
 | .dct kvs=>some kvs
 | _=>none
noncomputable def zaC (kvs:List (Key × T)) (k:Key):Option T:=(kvs.find? fun kv=>decide (kv.1 = k)).map (·.2)
noncomputable def zbp (kvs:List (Key × T)) (k:Key) (t:T):List (Key × T):=
 if (kvs.any fun kv=>decide (kv.1 = k)) = true then kvs.map (fun kv=>if kv.1 = k then (kv.1,t) else kv) else kvs ++ [(k,t)]
variable {kvs:List (Key × T)} {us:List (Key × V)}
section
variable {K:Frag} {S:Sit}
theorem zdd {k:Key} (r:Rep K S t v) (e:zd3 t = some k):v = kV k:=by
 cases r with
 | int i=>have e':some (Sum.inl i) = some k:=e;cases e';rfl
 | str i=>have e':some (Sum.inr i) = some k:=e;cases e';rfl
 | non=>cases e
 | bl b=>cases e
 | ty b=>cases e
 | tup _ _ _=>cases e
 | lst _ _ _=>cases e
 | ref _=>cases e
 | dct _ _ _=>cases e
 | exc _ _ _ _=>cases e
theorem RepK.nilT (r:RepK K S [] us):us = []:=by
 have:=r.1
 simpa using this.symm
theorem RepK.nil:RepK K S [] []:=⟨rfl,.nil⟩
theorem RepK.consT {p:Key × T} (r:RepK K S (p :: kvs) us):∃ u us',us = (p.1,u) :: us'/\Rep K S p.2 u/\RepK K S kvs us':=by
 cases us with
 | nil=>have:=r.1;simp at this
 | cons q us=>
  obtain ⟨h1,h2⟩:=r
  rw [map_cons,map_cons] at h1 h2
  injection h1 with e1 e2
  obtain ⟨v,vs,e3,r1,r2⟩:=h2.consT
  injection e3 with e3 e4
  refine ⟨q.2,us,?_,?_,e2,?_⟩
  ·rw [e1]
  ·rw [e3];exact r1
  ·rw [e4];exact r2
theorem RepK.cons {k:Key} {u:V} (q:Rep K S t u) (r:RepK K S kvs us):RepK K S ((k,t) :: kvs) ((k,u) :: us):=
 ⟨by rw [map_cons,map_cons,r.1],by rw [map_cons,map_cons];exact r.2.cons q⟩
theorem RepK.length (r:RepK K S kvs us):kvs.length = us.length:=by
 have:=congrArg List.length r.1
 simpa using this
theorem RepK.look (k:Key):∀ {kvs:List (Key × T)} {us:List (Key × V)},RepK K S kvs us->(zaC kvs k = none/\qN us k = none)\/∃ t v,zaC kvs k = some t/\qN us k = some v/\Rep K S t v
 | [],us,r=>by rw [r.nilT];exact .inl ⟨rfl,rfl⟩
 | p :: kvs,us,r=>by
  obtain ⟨u,us',rfl,r1,r2⟩:=r.consT
  by_cases h:p.1 = k
  ·refine .inr ⟨p.2,u,?_,?_,r1⟩
   ·simp [zaC,find?_cons,h]
   ·simp [qN,find?_cons,h]
  ·have e1:zaC (p :: kvs) k = zaC kvs k:=by simp [zaC,find?_cons,h]
   have e2:qN ((p.1,u) :: us') k = qN us' k:=by simp [qN,find?_cons,h]
   rw [e1,e2]
   exact RepK.look k r2
theorem RepK.any (k:Key):∀ {kvs:List (Key × T)} {us:List (Key × V)},RepK K S kvs us->(kvs.any fun kv=>decide (kv.1 = k)) = us.any fun kv=>decide (kv.1 = k)
 | [],us,r=>by rw [r.nilT];rfl
 | p :: kvs,us,r=>by
  obtain ⟨u,us',rfl,r1,r2⟩:=r.consT
  rw [any_cons,any_cons,RepK.any k r2]
theorem RepK.repl (k:Key) {t:T} {v:V} (q:Rep K S t v):∀ {kvs:List (Key × T)} {us:List (Key × V)},RepK K S kvs us->RepK K S (kvs.map (fun kv=>if kv.1 = k then (kv.1,t) else kv)) (us.map (fun kv=>if kv.1 = k then (kv.1,v) else kv))
 | [],us,r=>by rw [r.nilT];exact .nil
 | p :: kvs,us,r=>by
  obtain ⟨u,us',rfl,r1,r2⟩:=r.consT
  rw [map_cons,map_cons]
  by_cases h:p.1 = k
  ·rw [if_pos h,if_pos h]
   exact (RepK.repl k q r2).cons q
  ·rw [if_neg h,if_neg h]
   exact (RepK.repl k q r2).cons r1
theorem RepK.snoc (k:Key) {t:T} {v:V} (q:Rep K S t v):∀ {kvs:List (Key × T)} {us:List (Key × V)},RepK K S kvs us->RepK K S (kvs ++ [(k,t)]) (us ++ [(k,v)])
 | [],us,r=>by rw [r.nilT];exact RepK.nil.cons q
 | p :: kvs,us,r=>by
  obtain ⟨u,us',rfl,r1,r2⟩:=r.consT
  exact (RepK.snoc k q r2).cons r1
theorem RepK.put (k:Key) (q:Rep K S t v) (r:RepK K S kvs us):RepK K S (zbp kvs k t) (putK us k v):=by
 unfold zbp putK
 rw [r.any k]
 split
 ·exact r.repl k q
 ·exact r.snoc k q
theorem zbd (m:MemOk K S) {x:V} (r:Rep K S t x) (e:zbe t S.M = some kvs):∃ p us,x = .ref p/\Rd S.H p (.dK us)/\RepK K S kvs us:=by
 unfold zbe at e
 split at e
 ·split at e
  ·rename_i a _ kvs' q
   cases e
   cases r
   obtain ⟨us,h1,h2⟩:=m.cell _ _ q
   exact ⟨_,us,rfl,.inl h1,h2⟩
  ·cases e
 ·cases e
  cases r with
  | dct h l rr=>
   refine ⟨_,_,rfl,.inr ⟨_,h⟩,l,?_,rr⟩
   have:=congrArg List.length l
   simpa using this
 ·cases e
theorem _root_.L2.DGet.r {a:Addr} {k:Key} (e:Rd H a (.dK us)):DGet H a (kV k) (qN us k):=.inl ⟨us,k,e,rfl,rfl⟩
theorem RepK.isSome (k:Key) (r:RepK K S kvs us):(qN us k).isSome = (zaC kvs k).isSome:=by
 rcases r.look k with ⟨a,b⟩ | ⟨t,v,a,b,_⟩
 ·rw [a,b];rfl
 ·rw [a,b];rfl
theorem zj6 (m:MemOk K S) {a:Nat} (e:S.M[a]? = some c) {ts:List (Key × T)} {vs:List (Key × V)} (r:RepK K S ts vs):Stp K S (S.put a (.dK vs) (.dic ts)):=by
 have ha:a < S.M.length:=(List.getElem?_eq_some_iff.mp e).1
 exact Stp.put m ha _ _ ⟨vs,qo,r.grow m (Grow.put m ha _ _)⟩
end
section
noncomputable def inD:T->T->Mem->Out T:=fun x y M=>match zbe y M with
 | some kvs=>match zd3 x with
  | some k=>.ok (.bl (zaC kvs k).isSome) M
  | none=>.bad
 | none=>inA x y M
theorem zom (hu:X.A.units + 64 < cLine):OpR X (compareOp .In) (lR2 XE X.K inD):=by
 intro pins s σ H x y v u Q I rx ry ⟨S,⟨tx,ty⟩,e,m,⟨r1,r2⟩,fin⟩
 replace fin:Fin XE (Rep X.K) X.K S (inD tx ty S.M) Q:=fin
 unfold inD at fin
 split at fin
 ·subst e
  rename_i kvs q
  split at fin
  ·rename_i k qk
   obtain ⟨p,us,e3,e4,rk⟩:=zbd m r2 q
   dsimp only at e3
   subst e3
   cases (show u = Value.ref p from ry)
   have ek:=zdd r1 qk
   dsimp only at ek
   subst ek
   refine zn2 (by omega) I (.r e4) rx fun s' I'=>⟨.bl _,S.H,I',rfl,?_⟩
   rw [rk.isSome k]
   exact fin S _ rfl (.refl m) (.bl _)
  ·exact fin.elim
 ·exact zlX pins s σ H x y v u Q I rx ry ⟨S,⟨tx,ty⟩,e,m,⟨r1,r2⟩,fin⟩
noncomputable def zdP (o i t:T) (M:Mem):Out Unit:=match o,zd3 i with
 | .ref a,some k=>match M[a]? with
  | some (.dic kvs)=>if kvs.length < sizeLine then .ok () (M.set a (.dic (zbp kvs k t))) else .bad
  | _=>zcj o i t M
 | _,_=>zcj o i t M
theorem zmP (hu:X.A.units + 64 < cLine):zel X (zg6 XE X.K zdP):=by
 intro pins s σ H o i v ov iv u Q I ro ri rv ⟨S,⟨⟨to,ti⟩,tv⟩,e,m,⟨⟨r1,r2⟩,r3⟩,fin⟩
 replace fin:Fin XE UnR X.K S (zdP to ti tv S.M) (fun _ H'=>Q H'):=fin
 unfold zdP at fin
 split at fin
 ·split at fin
  ·rename_i a k qk _ kvs q
   split at fin
   ·rename_i hz
    subst e
    obtain ⟨us,h4,rk⟩:=m.cell _ _ q
    cases r1
    cases (show ov = Value.ref (S.α a) from ro)
    have ek:=zdd r2 qk
    dsimp only at ek
    subst ek
    refine zik (by omega) I (.k h4 (by rw [← rk.length];exact hz)) ri rv fun s' I'=>⟨_,I',?_⟩
    exact fin (S.put a (.dK (putK us k v)) (.dic (zbp kvs k tv))) () rfl (zj6 m q (rk.put k r3)) trivial
   ·exact fin.elim
  ·exact zeL pins s σ H o i v ov iv u Q I ro ri rv ⟨S,⟨⟨_,ti⟩,tv⟩,e,m,⟨⟨r1,r2⟩,r3⟩,fin⟩
 ·exact zeL pins s σ H o i v ov iv u Q I ro ri rv ⟨S,⟨⟨_,ti⟩,tv⟩,e,m,⟨⟨r1,r2⟩,r3⟩,fin⟩
noncomputable def ixD:T->T->Mem->Out T:=fun x y M=>match zbe x M with
 | some kvs=>match zd3 y with
  | some k=>zdY (zaC kvs k) M
  | none=>.bad
 | none=>ixT x y M
theorem zfp (hu:X.A.units + 64 < cLine):IxR X (lR2 XE X.K ixD):=by
 intro va sl pins s σ H x y v u Q I rx ry ⟨S,⟨tx,ty⟩,e,m,⟨r1,r2⟩,fin⟩ hs
 replace fin:Fin XE (Rep X.K) X.K S (ixD tx ty S.M) Q:=fin
 unfold ixD at fin
 split at fin
 ·subst e
  rename_i kvs q
  split at fin
  ·rename_i k qk
   obtain ⟨t,et,fin⟩:=zgk fin
   obtain ⟨p,us,e3,e4,rk⟩:=zbd m r1 q
   dsimp only at e3
   subst e3
   cases (show v = Value.ref p from rx)
   have ek:=zdd r2 qk
   dsimp only at ek
   subst ek
   rcases rk.look k with ⟨a1,_⟩ | ⟨t',w,a1,b1,rw'⟩
   ·rw [a1] at et;cases et
   ·rw [a1] at et
    cases et
    have hT:=zf5 I (DGet.r (k:=k) e4)
    have h2:wpAny (model X.prog X.w) X.A (getItem (.ref p) u) (EP X pins σ Q) X.xe s:=zil (by omega) I (b1 ▸ DGet.r e4) ry fun w' s3 I3 rw2=>⟨w,S.H,I3,rw2,fin S w rfl (.refl m) rw'⟩
    unfold subscriptTail
    refine Q1 ?_
    rw [getitemInPython_of_ne hT.not_modules]
    refine Q1 (wpAny_specialOf hT PySem.F.slot_dict_getitem.lookup ?_)
    have f2:wpAny (model X.prog X.w) X.A (subscripted sl false (.ref p) u) (fun r s₃=>wpAny (model X.prog X.w) X.A (letTemporaryGo va (.ref p) r >>= fun _=>pure r) (EP X pins σ Q) X.xe s₃) X.xe s:=by
     rw [hs]
     exact wpAny_operating (Qd h2 (fun r s₃ h₃=>Q1 (wpAny_letTemporaryGo (Qc h₃))) fun _ _ x=>x)
    first
     | exact Qc (Q1 f2)
     | exact Q1 (Qc (Q1 f2))
     | exact Q1 f2
  ·exact fin.elim
 ·exact zp va sl pins s σ H x y v u Q I rx ry ⟨S,⟨tx,ty⟩,e,m,⟨r1,r2⟩,fin⟩ hs
noncomputable def zg5:T->Mem->Out T:=fun t M=>match zbe t M with
 | some kvs=>.ok (.int kvs.length) M
 | none=>yI t M
theorem zix:CallR X (.builtin "len") (lRN XE X.K (yn zg5)):=zb8 fun pins s σ S t x v Q I rx m r fin=>by
 unfold zg5 at fin
 split at fin
 ·rename_i kvs q
  obtain ⟨p,us,e3,e4,rk⟩:=zbd m r q
  subst e3
  cases (show v = Value.ref p from rx)
  refine znn I e4 fun t' s' I'=>⟨.int us.length,S.H,I',⟨_,rfl⟩,?_⟩
  rw [← rk.length]
  exact fin S _ rfl (.refl m) (.int _)
 ·exact yy pins s σ S.H _ _ Q I (.cons rx .nil) ⟨S,[t],rfl,m,Reps.nil.cons r,fin⟩
noncomputable def lMt (XE:XK) (K:Frag) (F:T->List T->Mem->Out T):V->List V->Hp->VK->Prop:=fun x xs H Q=>L0 XE (Rep K) K (PrR (Rep K) (Reps K)) (fun a M=>F a.1 a.2 M) (x,xs) H Q
noncomputable def zw (chk:T->Mem->Bool) (F:T->List T->Mem->Out T) (f:Ev->Mem->Out T) (g:Ev->Mem->Out (List T)):Ev->Mem->Out T:=fun σ M=>(f σ M).bind fun x M1=>if chk x M1 = true then (g σ M1).bind fun ts M2=>F x ts M2 else .bad
end
end FT
namespace L2
open PySem PySem.Spec PySem.W PyProof.Rows
theorem zkJ {k:Key} {v:Value} (h:zbX k v = true):RelV (kV k) v:=by
 rcases yw h with ⟨i,t,rfl,rfl⟩ | ⟨x,t,rfl,rfl⟩
 ·exact ⟨t,rfl⟩
 ·exact ⟨t,rfl⟩
theorem zcr:∀ {ns:List Int} {us:List Value},Vals (ns.map V.int) us->IntsAre us ns
 | [],_,r=>by cases r;exact .nil
 | n :: ns,_,r=>by
  rw [map_cons] at r
  cases r with
  | cons h t=>
   obtain ⟨k,rfl⟩:=h
   exact .cons n k (zcr t)
theorem zbI:∀ {us:List Value} {ns:List Int},IntsAre us ns->Vals (ns.map V.int) us
 | _,_,.nil=>.nil
 | _,_,.cons n t h=>.cons ⟨t,rfl⟩ (zbI h)
theorem zag:∀ {xs:List V} {us:List Value},xs.length = us.length->(∀ (i:Nat) v w,xs[i]? = some v->us[i]? = some w->RelV v w)->Vals xs us
 | [],[],_,_=>.nil
 | [],_ :: _,h,_=>by simp at h
 | _ :: _,[],h,_=>by simp at h
 | x :: xs,u :: us,h,g=>.cons (g 0 x u rfl rfl) (zag (by simpa using h) fun i v w e1 e2=>g (i + 1) v w (by simpa using e1) (by simpa using e2))
end L2
namespace FT
open PySem PySem.Spec PyProof.Rows L2
noncomputable def insI (x:Int):List Int->List Int
 | []=>[x]
 | y :: ys=>if x<=y then x :: y :: ys else y :: insI x ys
noncomputable def zci:List Int->List Int
 | []=>[]
 | x :: xs=>insI x (zci xs)
theorem insI_perm (x:Int):∀ ys,(insI x ys).Perm (x :: ys)
 | []=>.refl _
 | y :: ys=>by
  unfold insI
  split
  ·exact .refl _
  ·exact ((insI_perm x ys).cons y).trans (.swap x y ys)
theorem zeq:∀ xs,(zci xs).Perm xs
 | []=>.refl _
 | x :: xs=>(insI_perm x (zci xs)).trans ((zeq xs).cons x)
theorem zgu (x:Int):∀ {ys:List Int},ys.Pairwise (·<=·)->(insI x ys).Pairwise (·<=·)
 | [],_=>by simp [insI]
 | y :: ys,h=>by
  unfold insI
  have h':=List.pairwise_cons.mp h
  split
  ·rename_i hx
   refine List.pairwise_cons.mpr ⟨fun z hz=>?_,h⟩
   rcases mem_cons.mp hz with rfl | hz
   ·exact hx
   ·exact Int.le_trans hx (h'.1 z hz)
  ·rename_i hx
   refine List.pairwise_cons.mpr ⟨fun z hz=>?_,zgu x h'.2⟩
   rcases mem_cons.mp ((insI_perm x ys).mem_iff.mp hz) with rfl | hz
   ·omega
   ·exact h'.1 z hz
theorem zgb:∀ xs:List Int,(zci xs).Pairwise (·<=·)
 | []=>.nil
 | x :: xs=>zgu x (zgb xs)
theorem zgc {ns ns':List Int} (h:ns'.Perm ns) (p:ns'.Pairwise (·<=·)):ns' = zci ns:=
 List.Perm.eq_of_pairwise (le:=(·<=·)) (fun _ _ _ _ h1 h2=>Int.le_antisymm h1 h2) p (zgb ns) (h.trans (zeq ns).symm)
theorem Reps.ints {K:Frag} {S:Sit}:∀ ns:List Int,Reps K S (ns.map T.int) (ns.map V.int)
 | []=>.nil
 | n :: ns=>(Reps.ints ns).cons (.int n)
noncomputable def tK:Key->T
 | .inl i=>.int i
 | .inr x=>.str x
theorem zln {K:Frag} {S:Sit} (k:Key):Rep K S (tK k) (kV k):=by
 cases k with
 | inl i=>exact .int i
 | inr x=>exact .str x
theorem Reps.keys {K:Frag} {S:Sit}:∀ ks:List Key,Reps K S (ks.map tK) (ks.map kV)
 | []=>.nil
 | k :: ks=>(Reps.keys ks).cons (zln k)
section
variable {X:Cx} {XE:XK}
noncomputable def zfr:T->Mem->Out T:=fun t M=>match t with
 | .bl b=>.ok (.int (if b then 1 else 0)) M
 | _=>.bad
theorem zez:CallR X (.type "int") (lRN XE X.K (yn zfr)):=zb8 fun pins s σ S t x v Q I rx m r fin=>by
 unfold zfr at fin
 split at fin
 ·cases r
  cases (show v = Value.bool _ from rx)
  exact call_int_bool ⟨.int _,S.H,I.tok _,⟨_,rfl⟩,fin S _ rfl (.refl m) (.int _)⟩
 ·exact fin.elim
end
noncomputable def SubL (m:List (Str × Addr)):List (Str × Addr)->Prop
 | []=>True
 | c :: l=>m.lookup c.1 = some c.2/\SubL m l
theorem zfo:∀ {l m:List (Str × Addr)},SubL m l->∀ x a,l.lookup x = some a->m.lookup x = some a
 | [],_,_,_,_,h=>by cases h
 | (y,b) :: l,m,g,x,a,h=>by
  rw [lookup_cons] at h
  split at h
  ·rename_i e
   cases h
   rw [eq_of_beq e]
   exact g.1
  ·exact zfo g.2 x a h
noncomputable def zim (kvs prs:List (Key × T)):List (Key × T):=prs.foldl (fun acc kv=>zbp acc kv.1 kv.2) kvs
theorem RepK.merge {K:Frag} {S:Sit}:∀ {prs:List (Key × T)} {us:List (Key × V)} {kvs:List (Key × T)} {ws:List (Key × V)},RepK K S prs us->RepK K S kvs ws->RepK K S (zim kvs prs) (zaV ws us)
 | [],us,kvs,ws,r,q=>by rw [r.nilT];exact q
 | p :: prs,us,kvs,ws,r,q=>by
  obtain ⟨u,us',rfl,r1,r2⟩:=r.consT
  show RepK K S (zim (zbp kvs p.1 p.2) prs) (zaV (putK ws p.1 u) us')
  exact RepK.merge r2 (q.put p.1 r1)
noncomputable def forR (bd:T->Ev->Mem->Out Ev) (body:Ev->Mem->Out Fl) (a:Nat):Nat->Nat->Ev->Mem->Out Fl
 | 0,i,σ,M=>match M[a]? with
  | some (.lst xs)=>if xs.length<=i then .ok (.nx σ) M else .bad
  | _=>.bad
 | n + 1,i,σ,M=>match M[a]? with
  | some (.lst xs)=>match xs[i]? with
   | some x=>(bd x σ M).bind fun σ1 M1=>(body σ1 M1).bind (qI (forR bd body a n (i + 1)))
   | none=>.ok (.nx σ) M
  | _=>.bad
noncomputable def zoy (bd:T->Ev->Mem->Out Ev) (body:Ev->Mem->Out Fl) (t:T) (σ:Ev) (M:Mem):Out Fl:=match t with
 | .ref a=>match M[a]? with
  | some (.lst xs)=>forR bd body a xs.length 0 σ M
  | _=>.bad
 | _=>.bad
theorem zjn {bd:T->Ev->Mem->Out Ev} {body:Ev->Mem->Out Fl} {a:Nat} {xs:List T} (P:Nat->Ev->Mem->Prop) (hP:∀ k σ M,P k σ M->M[a]? = some (.lst xs))
  (t:∀ k x σ M,xs[k]? = some x->P k σ M->∃ σ' M',((bd x σ M).bind fun σ1 M1=>body σ1 M1) = .ok (.nx σ') M'/\P (k + 1) σ' M'):∀ n i,i + n = xs.length->∀ σ M,P i σ M->∃ σ' M',forR bd body a n i σ M = .ok (.nx σ') M'/\P xs.length σ' M'
 | 0,i,hi,σ,M,h=>by
  have hM:=hP i σ M h
  refine ⟨σ,M,?_,by rw [← hi];exact h⟩
  unfold forR
  rw [hM]
  exact if_pos (by omega)
 | n + 1,i,hi,σ,M,h=>by
  have hM:=hP i σ M h
  have hx:xs[i]? = some xs[i]:=by simp [show i < xs.length by omega]
  obtain ⟨σ1,M1,e1,h1⟩:=t i _ σ M hx h
  obtain ⟨σ2,M2,e2,h2⟩:=zjn P hP t n (i + 1) (by omega) σ1 M1 h1
  refine ⟨σ2,M2,?_,h2⟩
  unfold forR
  rw [hM]
  simp only [hx]
  cases q:bd xs[i] σ M with
  | bad=>rw [q] at e1;cases e1
  | exn C fs M'=>rw [q] at e1;cases e1
  | ok σ3 M3=>
   rw [q] at e1
   replace e1:body σ3 M3 = .ok (.nx σ1) M1:=e1
   show (body σ3 M3).bind (qI (forR bd body a n (i + 1))) = _
   rw [e1]
   exact e2
noncomputable def qL (t:T) (M:Mem):Bool:=(yq t M).isSome
theorem qY {K:Frag} {S:Sit} (m:MemOk K S) {t:T} {x:V} (r:Rep K S t x) (h:qL t S.M = true):tyV K "list" x S.H:=by
 unfold qL at h
 cases q:yq t S.M with
 | none=>rw [q] at h;cases h
 | some xs=>
  obtain ⟨p,vs,rfl,hq,_⟩:=zq m r q
  exact .inl ⟨rfl,vs,hq⟩
end FT
namespace L2
open PySem PySem.Spec PySem.W PyProof.Rows
theorem KV.get_val {κ:Type}:∀ {kvs:List (κ × V)} {vs:List (κ × Value)} {i:Nat} {k:κ} {v:Value},KV kvs vs->vs[i]? = some (k,v)->∃ u,(kvs.map (·.2))[i]? = some u/\RelV u v
 | _,_,_,_,_,.nil,e=>by simp at e
 | _,_,0,_,_,.cons r _,e=>by simp at e;subst e;exact ⟨_,rfl,r.2⟩
 | _,_,i + 1,k,v,.cons _ t,e=>by
  obtain ⟨u,h1,h2⟩:=KV.get_val (i:=i) (k:=k) (v:=v) t (by simpa using e)
  exact ⟨u,by simpa using h1,h2⟩
variable {q t:Addr} {A:Around} {items:Array Value} {i:Nat} {prog:Program} {s:Shared} {E Q:Value->Shared->Prop} {w:World}
section
theorem ze2 {x:Value} (hit:s.heap.IsTupleIter q t i) (ht:s.heap.IsTuple t items) (hx:items[i]? = some x)
 (hQ:∀ k,k.IsTupleIter q t (i + 1)->Heap.SameBut q s.heap k->Q x { s with heap:=k }):wpAny (model prog w) A (Builtin.SmallTypes.nextOf (.ref q)) Q E s:=by
 obtain ⟨o,ho,cc,dd⟩:=id hit
 obtain ⟨o2,ho2,_,n2,dd2⟩:=ht
 unfold Builtin.SmallTypes.nextOf
 refine Q1 (wpAny_callSpecial?_slot (name:=Str.ofString "__next__") hit.typeIs PySem.F.slot_tuple_iterator_next (wpAny_call_entry PySem.F.slot_tuple_iterator_next hit.typeIs PySem.F.entry_tuple_iterator_next ?_ (PySem.F.args_tuple_iterator_next_1 _)))
 refine (show wpAny _ _ (field (.ref q) 0 >>= _) _ _ s from Q1 (wpAny_field ho dd (x:=.ref t) rfl ?_))
 refine (show wpAny _ _ (if (Value.ref t == Value.none) = true then _ else _) _ _ s from ?_)
 rw [if_neg (show ¬ (Value.ref t == Value.none) = true from Q4)]
 refine (show wpAny _ _ (field (.ref q) 1 >>= _) _ _ s from Q1 (wpAny_field ho dd (x:=.int i 0) rfl ?_))
 refine (show wpAny _ _ (seqItems? (.ref t) >>= _) _ _ s from Q1 (wpAny_seqItems ho2 dd2 ?_))
 simp only [hx,Int.toNat_natCast]
 refine Q1 (wpAny_setField ho dd (by simp) (Qc ⟨_,rfl,Qc (hQ _ ⟨_,Heap.get?_update_self _ ho (Obj.isFreed_of_fields (Obj.data_mapFields dd _)),(Obj.cls_mapFields ..).trans cc,?_⟩ (Heap.SameBut.update ..))⟩))
 rw [Obj.data_mapFields dd]
 simp [rawInt]
theorem zcO (hh:A.handled = none) (hit:s.heap.IsTupleIter q t i) (ht:s.heap.IsTuple t items) (hx:items[i]? = none)
 (hE:∀ k e,Heap.ExtBut q s.heap k->(∃ o,k.get? e = some o/\o.cls = .type "StopIteration")->E (.ref e) { s with heap:=k }):wpAny (model prog w) A (Builtin.SmallTypes.nextOf (.ref q)) Q E s:=by
 obtain ⟨o,ho,cc,dd⟩:=id hit
 obtain ⟨o2,ho2,_,n2,dd2⟩:=ht
 unfold Builtin.SmallTypes.nextOf
 refine Q1 (wpAny_callSpecial?_slot (name:=Str.ofString "__next__") hit.typeIs PySem.F.slot_tuple_iterator_next (wpAny_call_entry PySem.F.slot_tuple_iterator_next hit.typeIs PySem.F.entry_tuple_iterator_next ?_ (PySem.F.args_tuple_iterator_next_1 _)))
 refine (show wpAny _ _ (field (.ref q) 0 >>= _) _ _ s from Q1 (wpAny_field ho dd (x:=.ref t) rfl ?_))
 refine (show wpAny _ _ (if (Value.ref t == Value.none) = true then _ else _) _ _ s from ?_)
 rw [if_neg (show ¬ (Value.ref t == Value.none) = true from Q4)]
 refine (show wpAny _ _ (field (.ref q) 1 >>= _) _ _ s from Q1 (wpAny_field ho dd (x:=.int i 0) rfl ?_))
 refine (show wpAny _ _ (seqItems? (.ref t) >>= _) _ _ s from Q1 (wpAny_seqItems ho2 dd2 ?_))
 simp only [hx,Int.toNat_natCast]
 refine Q1 (wpAny_rule (Q1 (wpAny_setField ho dd (by simp) ?_)))
 refine (show wpAny _ _ (newExc (.type "StopIteration") [] >>= _) _ _ _ from Q1 ?_)
 simp only [newTuple,newExc]
 refine Q1 (Qp (Q1 (m:=firstArgMember _ _) (wpAny_of_eq (a:=Value.none) (by first | rfl | (simp only [firstArgMember];rfl)) (Qp ?_ (by size_fits)))) (by size_fits))
 simp only [raiseNew]
 refine Q1 (wpAny_handled ?_)
 first | rw [show A.in1.handled = none from hh] | rw [hh]
 exact Q1 (Qc (wpAny_throw (hE _ _ (((Heap.SameBut.update ..).extBut.push _).push _) ⟨_,Qi _ rfl,rfl⟩)))
theorem zf3 (hh:A.handled = none) (q t:Addr) (hne:t ≠ q) (items:Array Value):Draws prog w A q [q,t] items.size (fun i v=>items[i]? = some v) (fun i h=>h.IsTupleIter q t i/\h.IsTuple t items) where
 live:=fun _ _ st=>let ⟨o,ho,_⟩:=st.1;⟨o,ho⟩
 frame:=fun _ _ _ st hk=>⟨st.1.at fun o e=>hk q (by simp) o e,let ⟨o,ho,r⟩:=st.2;⟨o,hk t (by simp) o ho,r⟩⟩
 item:=fun i s Q E hi st hQ=>ze2 st.1 st.2 (x:=items[i]) (by simp [hi]) fun k a b=>hQ _ k s.toks (by simp [hi]) ⟨a,let ⟨o,ho,r⟩:=st.2;⟨o,(b.2 t hne).trans ho,r⟩⟩ b
 done:=fun s Q E st hE=>zcO hh st.1 st.2 (by simp) hE
end
noncomputable abbrev zeK (l:Addr):Obj:={ cls:=.type "tuple_iterator",data:=.fields #[.ref l,.int 0 0] }
noncomputable abbrev zjK (q:Addr):Obj:={ cls:=.type "enumerate",data:=.fields #[.none,.bool false,.ref q,rawInt 0,.none,.none] }
theorem zf0 (l:Addr) (items:Array Value):Meets (Builtin.«enumerate.__new__» ⟨[.type "enumerate",.ref l],[]⟩) (fun _ R s=>s.heap.IsTuple l items/\R (.ok (.ret (.ref (s.heap.push (zeK l)).objs.size))) { s with heap:=(s.heap.push (zeK l)).push (zjK s.heap.objs.size) }):=
 .of_wp fun prog w A R s h=>by
  obtain ⟨hp,g,d,tk,os⟩:=s
  obtain ⟨ht,h⟩:=h
  have se:=sub_enumerate
  obtain ⟨⟨cl,di,da,sl⟩,ho,hc,n,hd⟩:=id ht
  simp only at hc hd
  subst hc hd
  wp_walk using AutoSeq1.wpAny_loadPart' ho
  refine wpAny_stack_any fun st=>Qc ?_
  split
  ·rename_i c _ _ _ _ _
   cases (c == Value.type "enumerate") <;> (wp_walk using AutoSeq1.wpAny_loadPart' ho,wpAny_pyIter_tuple ht;exact ⟨_,rfl,h⟩)
  ·wp_walk using AutoSeq1.wpAny_loadPart' ho,wpAny_pyIter_tuple ht
   exact ⟨_,rfl,h⟩
section
theorem zhm {l:Addr} (hl:s.heap.IsTuple l items)
 (h:∀ k,IsEnum k (s.heap.objs.size + 1) s.heap.objs.size 0 .none->k.IsTupleIter s.heap.objs.size l 0->k.objs.size = s.heap.objs.size + 2->(∀ b o,s.heap.get? b = some o->k.get? b = some o)->Q (.ref (s.heap.objs.size + 1)) { s with heap:=k }) :
  wpAny (model prog w) A (call (.type "enumerate") [.ref l]) Q E s:=by
 have hz:(s.heap.push (zeK l)).objs.size = s.heap.objs.size + 1:=Heap.size_push ..
 have he:IsEnum ((s.heap.push (zeK l)).push (zjK s.heap.objs.size)) (s.heap.objs.size + 1) s.heap.objs.size 0 .none:=by
  rw [← hz];exact Qi _ rfl
 refine callType_new PySem.F.called_enumerate (by decide) (PySem.F.typeCall_enumerate_1 _) (PySem.F.newCall_enumerate_1 _) (fun obj=>PySem.F.args_object_init_2 obj _) PySem.F.entry_enumerate_new (zf0 l items) ⟨hl,?_⟩
 show _/\_
 rw [hz]
 exact ⟨⟨_,he,rfl⟩,h _ he ⟨_,Q2 _ (Qi _ rfl),rfl,rfl⟩ (by rw [Heap.size_push,hz]) fun b o e=>Q2 _ (Q2 _ e)⟩
end
variable {X:Cx}
section
variable {pins:List (Addr × Obj)} {σ:St} {H:Hp} {h':Heap}
theorem Inv.turned2 {t':Nat} {e it:Addr} (I:Inv X pins σ H s) (k:∀ b o,b ≠ e->b ≠ it->s.heap.get? b = some o->h'.get? b = some o) (fe:zcb X pins H e) (fi:zcb X pins H it):Inv X pins σ H { s with heap:=h',toks:=t' }:=by
 have ne:∀ b u,H b = some u->b ≠ e:=fun b u q z=>by rw [z,fe.1] at q;cases q
 have ni:∀ b u,H b = some u->b ≠ it:=fun b u q z=>by rw [z,fi.1] at q;cases q
 have kk:∀ b o,b ∉ [e,it]->s.heap.get? b = some o->h'.get? b = some o:=fun b o hc q=>k b o (fun z=>hc (by simp [z])) (fun z=>hc (by simp [z])) q
 refine I.step (g':=s.gens) (d':=s.drawn) (ch:=[e,it]) (fun b hb=>?_) (fun b o _ _ hc q _=>kk b o hc q) (fun b o _ _ hc q _=>⟨o.slots,kk b o hc q⟩) (fun _ _ _ _ n=>n)
  (fun b o hc q=>⟨o,kk b o hc q⟩) (fun _ _ q=>q) (fun _ _ _ q=>q) (fun b ps q=>⟨#[],by rw [q];simp⟩) (fun m hm=>?_) (fun b u q=>?_) I.bare
 ·rcases mem_cons.mp hb with z | z
  ·subst z;exact ⟨fe.2.2.2.1,fe.2.1,fe.2.2.2.2.1,fe.2.2.2.2.2⟩
  ·have z:=mem_singleton.mp z
   subst z;exact ⟨fi.2.2.2.1,fi.2.1,fi.2.2.2.2.1,fi.2.2.2.2.2⟩
 ·obtain ⟨o,es,ep,ho,r⟩:=hm
  exact ⟨o,es,ep,k _ o (Ne.symm fe.2.1) (Ne.symm fi.2.1) ho,r⟩
 ·refine (I.hok b u q).stay (fun c v hc z=>k c v ?_ ?_ z) (fun _ z=>z) fun _ _ z=>z
  ·rcases hc with z | z
   ·rw [z];exact ne b u q
   ·exact ne c _ z
  ·rcases hc with z | z
   ·rw [z];exact ni b u q
   ·exact ni c _ z
end
noncomputable def Ite (K:Frag) (a:Addr):It:=
 ⟨fun i H=>∃ xs x,SqT K H a xs/\xs[i]? = some x,fun i H y H'=>∃ p x,H p = none/\y = .ref p/\H' = upd H p (.tup [.int (i:Int),x])/\∀ xs,SqT K H a xs->xs[i]? = some x,fun i H=>∃ xs,SqT K H a xs/\xs.length<=i⟩
variable {elts:List Expr} {pos:Pos}
theorem zgG {P:Program} {K:Frag} {x1} (a e it:Addr) (hne:e ≠ it) (hae:a ≠ e) (hai:a ≠ it) :
  Turn P w K (.Tuple elts x1 pos) (Ite K a) [e,it] e (fun i h=>(∃ old,IsEnum h e it i old)/\h.IsTupleIter it a i) where
 mem:=by simp
 obj:=fun i h st b hb=>by
  rcases mem_cons.mp hb with z | z
  ·subst z
   obtain ⟨old,q⟩:=st.1
   exact ⟨_,q,fun v z=>by cases z⟩
  ·have z:=mem_singleton.mp z
   subst z
   obtain ⟨o,q,c,d⟩:=st.2
   exact ⟨o,q,fun v z=>by rw [d] at z;cases z⟩
 keep:=fun i h k st kk=>⟨let ⟨old,q⟩:=st.1;⟨old,kk e (by simp) _ q⟩,st.2.at fun o q=>kk it (by simp) o q⟩
 item:=by
  intro X hP hw hK hc i pins s σ H E I hf st hg
  subst hP hw hK
  obtain ⟨xs,x,hq,hx⟩:=hg
  obtain ⟨its,rv,p,hz⟩:=I.tuple hq
  obtain ⟨u,hu,ru⟩:=rv.get hx
  obtain ⟨⟨old,he⟩,hi⟩:=st
  have hl:i < its.toArray.size:=by simpa using (List.getElem?_eq_some_iff.mp hu).1
  have D:=zf3 (prog:=X.prog) (w:=X.w) (A:=X.A.in1) (by exact I.ok.hd hc) it a hai its.toArray
  refine wpAny_pyNext_enum_itemD D he ⟨hi,show s.heap.IsTuple a its.toArray from p⟩ hl hne (by simp [hne,Ne.symm hae]) fun y k tk hy out st' htup hsz hk=>?_
  have hy':y = u:=by
   have:its[i]? = some y:=by simpa using hy
   rw [hu] at this
   exact (Qa this).symm
  subst hy'
  refine ⟨.ref s.heap.objs.size,rfl,wpAny_letOwnedTupleGo_enum (s:={ s with heap:=k,toks:=tk + 1 }) out fun k2 en2 sb=>?_⟩
  have fe:=hf e (by simp)
  have fi:=hf it (by simp)
  have eS:e ≠ s.heap.objs.size:=Qh (Qb he)
  have iS:it ≠ s.heap.objs.size:=by
   obtain ⟨o,q,_⟩:=hi
   exact Qh (Qb q)
  have IA:=I.laid (h':=s.heap.push { cls:=.type "tuple",data:=.seq #[.int i tk,y] }) (t':=tk + 1) (a:=s.heap.objs.size) (o:=.tup [.int (i:Int),x]) (fun b o q=>Q2 _ q) (Q3 _) (show ObjOk X.prog X.w _ _ _ (.tup [.int (i:Int),x]) from ⟨by show 2<=sizeLine;rw [sizeLine_eq];omega,[.int i tk,y],.cons ⟨tk,rfl⟩ (.cons ru .nil),by have:=IsTup.new s.heap #[.int i tk,y];simpa using this,NoDict.new⟩)
  have up:∀ b,b ≠ s.heap.objs.size->(upd H s.heap.objs.size (.tup [.int (i:Int),x])) b = H b:=fun b hb=>if_neg hb
  have IB:=IA.turned2 (t':=tk + 1) (h':=k2) (e:=e) (it:=it) (fun b o hbe hbi q=>by
   rcases Heap.get?_push_cases q with ⟨z1,z2⟩ | q
   ·subst z1;subst z2
    exact (sb.2 _ (Ne.symm eS)).trans htup
   ·exact (sb.2 b hbe).trans (hk b o hbe hbi q)) ⟨by rw [up e eS];exact fe.1,fe.2⟩ ⟨by rw [up it iS];exact fi.1,fi.2⟩
  refine ⟨.ref s.heap.objs.size,_,IB,rfl,⟨s.heap.objs.size,x,I.hok.fresh (Q3 _),rfl,rfl,fun ys hys=>by rw [I.tuple_inj hys hq];exact hx⟩,⟨⟨_,by push_cast at en2 ⊢;exact en2⟩,?_⟩,fun b hb=>?_⟩
  ·obtain ⟨o,q,r⟩:=st'.1
   exact ⟨o,(sb.2 it (Ne.symm hne)).trans q,r⟩
  ·rcases mem_cons.mp hb with z | z
   ·subst z;rw [up _ eS];exact fe.1
   ·have z:=mem_singleton.mp z
    subst z;rw [up _ iS];exact fi.1
 done:=by
  intro X hP hw hK hc i pins s σ H E I hf st hg
  subst hP hw hK
  obtain ⟨xs,hq,hx⟩:=hg
  obtain ⟨its,rv,p,hz⟩:=I.tuple hq
  obtain ⟨⟨old,he⟩,hi⟩:=st
  obtain ⟨f0,f1,f2,f3,f4,f5⟩:=hf it (by simp)
  have hl:=rv.length
  have D:Draws X.prog X.w X.A.in1 it [it,a] i (fun _ _=>True) (fun j h=>j = i/\h.IsTupleIter it a i/\h.IsTuple a its.toArray):={
   live:=fun _ _ st=>let ⟨o,ho,_⟩:=st.2.1;⟨o,ho⟩
   frame:=fun _ _ _ st hk=>⟨st.1,st.2.1.at fun o q=>hk it (by simp) o q,let ⟨o,ho,r⟩:=st.2.2;⟨o,hk a (by simp) o ho,r⟩⟩
   item:=fun j s Q E hj st hQ=>absurd st.1 (Qh hj)
   done:=fun s Q E st hE=>zcO (by exact I.ok.hd hc) st.2.1 st.2.2 (by simp;omega) hE }
  exact wpAny_pyNext_enum_endD D he ⟨rfl,hi,show s.heap.IsTuple a its.toArray from p⟩ fun k eb=>⟨rfl,I.turned (t':=s.toks) (fun b o hb q=>eb b o hb q) f0 f1 f3 f4 f5⟩
 self:=fun _ _ _ _ _ st h=>let ⟨_,q⟩:=st.1;wpAny_pyIter_enum q h
section
noncomputable def znX (K:Frag) (tl:TE):TI:=fun σ H R=>tl σ H fun x H1=>∃ a,x = .ref a/\(∃ xs,SqT K H1 a xs)/\R (Ite K a) H1
theorem ziZ {l:Expr} {tl:TE} {x1} {tp p:Pos} (hg:Gl X "enumerate") (hm:X.mg "enumerate" = none) (hl:PE X l tl) (hs:starEach [l] X.env = [(false,eval l X.env)]:=by rfl) :
  PI X (.Tuple elts x1 tp) (.Call (.Name "enumerate" p) [l] [] pos) (znX X.K tl):=by
 intro pins s σ H R I h
 refine Call_ (zaX I hg hm (show bootBuiltins "enumerate" = some (.type "enumerate") by decide +kernel) (PyProof.Rows.callWith_type1 ?_ hs rfl))
 rw [hs]
 refine Calls.spliced_cons (thn (hl pins s σ H _ I h) fun v s1 ⟨x,H1,I1,r1,q1⟩=>Calls.spliced_nil ?_)
 obtain ⟨a,e,⟨xs,hq⟩,q⟩:=q1
 subst e
 cases r1
 obtain ⟨its,rv,pt,hz⟩:=I1.tuple hq
 have ha:a < s1.heap.objs.size:=by
  obtain ⟨o,ho,_⟩:=pt
  exact Qb ho
 refine zhm (show s1.heap.IsTuple a its.toArray from pt) fun k en ti hsz hk=>?_
 refine wpAny_pyIter_enum en ?_
 refine ⟨s1.heap.objs.size + 1,[s1.heap.objs.size + 1,s1.heap.objs.size],_,_,H1,rfl,I1.kept (t':=s1.toks) hk,zgG a _ _ (Nat.ne_of_gt (Nat.lt_succ_self _)) (Qh (Nat.lt_succ_of_lt ha)) (Qh ha),⟨⟨_,en⟩,ti⟩,fun b hb=>?_,q⟩
 rcases mem_cons.mp hb with z | z
 ·subst z;exact I1.fpOk (Nat.le_succ _) (I1.hok.fresh (Nat.le_succ _))
 ·have z:=mem_singleton.mp z
  subst z;exact I1.fpOk (Q3 _) (I1.hok.fresh (Q3 _))
end
end L2
namespace FT
open PySem PySem.Spec PyProof.Rows L2
noncomputable def enT (ts:List T):List T:=ts.mapIdx fun i t=>.tup [.int (i:Int),t]
noncomputable def zcI (f:Ev->Mem->Out T):Ev->Mem->Out (List T):=fun σ M=>(f σ M).bind fun t M1=>match t with
 | .tup ts=>.ok (enT ts) M1
 | _=>.bad
section
variable {X:Cx} {XE:XK}
end
end FT
namespace L2
open PySem PySem.Spec PySem.W PyProof.Rows PySem.Calls
section
variable {prog:Program} {w:World} {A:Around} {E:Value->Shared->Prop} {s:Shared} {T:String} {r d:Addr} {n:Nat} {P:Nat->Value->Prop} {OK:Heap->Prop}
theorem zdC {R:List Value->Shared->Prop} (K:KdlSrc prog w T r d n P OK) (hh:A.handled = none) (hok:OK s.heap) (hn:n<=sizeLine)
  (go:∀ (g:Heap) (tk:Nat) (acc:Array Value),(∀ b o,s.heap.get? b = some o->g.get? b = some o)->s.heap.objs.size<=g.objs.size->ItemsOf P acc n->R acc.toList { s with heap:=g,toks:=tk }) :
  wpAny (model prog w) A (collect (.ref r)) R E s:=by
 have lt2:=K.there _ hok
 unfold collect
 refine Q1 (wpAny_runValue (codeAny_builtin entry_proto_collect' (?go)))
 case go=>
  rw [Around.under_plainId PySem.F.plain_proto_collect _];show wpAny _ A.in1 (newList [] >>= fun l=>again (.builtin "list.__iadd__" ⟨[l,.ref r],[]⟩)) _ _ s;refine Q1 (Qp (Qc ⟨plainId_quiet PySem.F.plain_list_iadd _,codeAny_builtin entry_list_iadd' (?_)⟩))
  rw [Around.under_plainId PySem.F.plain_list_iadd _];show wpAny _ A.in1 (Builtin.List.listExtendWith (.ref s.heap.objs.size) (.ref r) (.ref s.heap.objs.size)) _ _ _
  have at0:(s.heap.push { cls:=.type "list",data:=.seq ([]:List Value).toArray }).get? s.heap.objs.size = some { cls:=.type "list",data:=.seq #[] }:=Qi _ rfl
  have ext:=kdl_extend (A:=A) (s:={ s with heap:=s.heap.push { cls:=.type "list",data:=.seq ([]:List Value).toArray } }) (R:=fun (q:Result) (s':Shared)=>∃ (g:Heap) (tk:Nat) (acc:Array Value) (c:Nat),q = .ok (.ret (.ref s.heap.objs.size))/\s' = { s with heap:=g,toks:=tk }/\(∀ b o,s.heap.get? b = some o->g.get? b = some o)/\g.get? s.heap.objs.size = some { cls:=.type "list",dict:=none,data:=.seq acc c,slots:=#[] }/\ItemsOf P acc n) K hh (K.keep _ _ hok fun b _ o e=>Q2 _ e) s.heap.objs.size (Nat.ne_of_gt lt2.1) (Nat.ne_of_gt lt2.2) (.ref s.heap.objs.size) 0 at0 (fun g tk acc c hk hS hacc=>⟨g,tk,acc,c,rfl,rfl,fun b o e=>hk b o (Qh (Qb e)) (Q2 _ e),hS,hacc⟩) hn
  refine Qd ext (fun fin s' x=>?_) fun e s' x=>(by obtain ⟨_,_,_,_,e',_⟩:=x;cases e')
  cases fin with
  | done f=>
   obtain ⟨g,tk,acc,c,e,rfl,hk,hS,hacc⟩:=x;cases e
   show wpAny _ A (load s.heap.objs.size >>= _) _ _ _;exact Q1 (wpAny_load hS (Qc (go g tk acc hk (Nat.le_of_lt (Qb hS)) hacc)))
  | again c₁=>
   refine ⟨x.1,codeAny_mono x.2 fun q s₂ y=>?_⟩;obtain ⟨g,tk,acc,c,rfl,rfl,hk,hS,hacc⟩:=y
   show wpAny _ A (load s.heap.objs.size >>= _) _ _ _;exact Q1 (wpAny_load hS (Qc (go g tk acc hk (Nat.le_of_lt (Qb hS)) hacc)))
end
end L2
namespace FT
open PySem PySem.Spec PyProof.Rows L2
noncomputable def zde:List Key->Option (List Int)
 | []=>some []
 | .inl n :: ks=>(zde ks).map (n :: ·)
 | _ :: _=>none
theorem zgs:∀ {ks:List Key} {ns:List Int},zde ks = some ns->ks = ns.map Sum.inl
 | [],ns,h=>by cases h;rfl
 | .inl n :: ks,ns,h=>by
  unfold zde at h
  cases q:zde ks with
  | none=>rw [q] at h;cases h
  | some ms=>rw [q] at h;cases h;rw [zgs q];rfl
 | .inr _ :: ks,ns,h=>by cases h
end FT
namespace L2
open PySem PySem.Spec PySem.W PyProof.Rows
variable {X:Cx}
section
variable {pins:List (Addr × Obj)} {σ:St} {H:Hp} {s:Shared} {l:Addr} {us:List (Key × V)}
theorem Inv.freeze (I:Inv X pins σ H s) (e:H l = some (.dK us)):∃ ob,Inv X pins σ (upd H l (.frz ob (.dK us))) s:=by
 obtain ⟨z,hs,vs,rel,o,es,ep,ho,r⟩:=(show ObjOk X.prog X.w H s.heap l (.dK us) from I.hok l _ e)
 exact ⟨o,I.write (x:=l) (e:=l) (o:=.frz o (.dK us)) (h':=s.heap) (t':=s.toks) (by rw [e];trivial) (.inl rfl) (fun b u _ q=>q) ⟨o,ho⟩ ⟨ho,z,hs,vs,rel,o,es,ep,ho,r⟩⟩
end
noncomputable def zn1 (Q:VK):VK:=fun v H'=>∃ l us,v = .ref l/\H' l = some (.dK us)/\∀ ob,Q v (upd H' l (.frz ob (.dK us)))
theorem CallR.frz {f:Value} {r:List V->Hp->VK->Prop} (h:CallR X f r):CallR X f (fun xs H Q=>r xs H (zn1 Q)):=by
 intro pins s σ H xs us Q I rv hr
 refine Qd (h pins s σ H xs us _ I rv hr) (fun v s' ⟨x,H',I',r',l,us',ex,e,q⟩=>?_) fun _ _ z=>z
 obtain ⟨ob,I2⟩:=I'.freeze e
 exact ⟨x,_,I2,r',q ob⟩
end L2
namespace FT
open PySem PySem.Spec PyProof.Rows L2
noncomputable def ziU (f:Str) (v:T):List (Str × T)->List (Str × T)
 | []=>[(f,v)]
 | (g,x) :: r=>if g = f then (g,v) :: r else (g,x) :: ziU f v r
variable {us:List (Str × V)}
section
variable {K:Frag} {S:Sit}
theorem RepF.nil:RepF K S [] []:=⟨rfl,.nil⟩
theorem RepF.nilT (r:RepF K S [] us):us = []:=by
 have:=r.1
 simpa using this.symm
theorem RepF.consT {p:Str × T} {fs:List (Str × T)} (r:RepF K S (p :: fs) us):∃ u us',us = (p.1,u) :: us'/\Rep K S p.2 u/\RepF K S fs us':=by
 cases us with
 | nil=>have:=r.1;simp at this
 | cons q us'=>
  have h1:=r.1
  simp only [map_cons,List.cons.injEq] at h1
  obtain ⟨v,vs,e,r1,r2⟩:=(show Reps K S (p.2 :: fs.map (·.2)) (q.2 :: us'.map (·.2)) from r.2).consT
  cases e
  exact ⟨q.2,us',by rw [h1.1],r1,h1.2,r2⟩
theorem RepF.cons {g:Str} {t:T} {u:V} {fs:List (Str × T)} (q:Rep K S t u) (r:RepF K S fs us):RepF K S ((g,t) :: fs) ((g,u) :: us):=⟨by simp [r.1],r.2.cons q⟩
theorem RepF.look (f:Str):∀ {fs:List (Str × T)} {us:List (Str × V)},RepF K S fs us->∀ {t:T},fs.lookup f = some t->∃ v,us.lookup f = some v/\Rep K S t v
 | [],us,r,t,e=>by cases e
 | (g,x) :: fs,us,r,t,e=>by
  obtain ⟨u,us',rfl,r1,r2⟩:=r.consT
  rw [lookup_cons] at e ⊢
  cases h:f == g with
  | true=>rw [h] at e;cases e;exact ⟨u,rfl,r1⟩
  | false=>rw [h] at e;exact RepF.look f r2 e
theorem RepF.put (f:Str) {t:T} {v:V} (q:Rep K S t v):∀ {fs:List (Str × T)} {us:List (Str × V)},RepF K S fs us->RepF K S (ziU f t fs) (ziV f v us)
 | [],us,r=>by rw [r.nilT];exact RepF.cons q .nil
 | (g,x) :: fs,us,r=>by
  obtain ⟨u,us',rfl,r1,r2⟩:=r.consT
  unfold ziU ziV
  by_cases h:g = f
  ·rw [if_pos h,if_pos h];exact RepF.cons q r2
  ·rw [if_neg h,if_neg h];exact RepF.cons r1 (RepF.put f q r2)
end
noncomputable def zoL (Cs:List Addr) (f:Str) (x:T) (M:Mem):Out T:=match x with
 | .ref a=>match M[a]? with
  | some (.ins C fs)=>if C ∈ Cs then zdY (fs.lookup f) M else .bad
  | _=>.bad
 | _=>.bad
structure MakT (P:Program) (w:World) (K:Frag) (mg:Str->Option Value) (base:Heap) (k:Nat) (x:Str) (C:Addr) (ps:List Str) (f:List T->Mem->Out T):Prop where
 ex:∃ (fI:Addr) (fd:FuncData),Mk K C fI/\FnOk P w K mg base CX0 k fI fd ps (spT K f)/\Binds K fd ps []/\mg x = some (.ref C)
 nox:∀ ts M C fs M',f ts M ≠ .exn C fs M'
structure Di (K:Frag) (mg:Str->Option Value) (x qual:Str) (C:Addr) (st:Stmt) (ps:List Str):Prop where
 ex:∃ (fI:Addr) (fd:FuncData),Mk K C fI/\Fun K "__init__" qual st fI fd/\Binds K fd ps []/\mg x = some (.ref C)
noncomputable def zee (K:Frag) (x:Str):Addr:=match PySem.W.nsIn K mainGlobals x with
 | some (some (.ref a))=>a
 | _=>0
theorem zk9 {K:Frag} {x:Str} {C:Addr} (a:PySem.W.nsIn K mainGlobals x = some (some (.ref C))):zee K x = C:=by
 unfold zee
 rw [a]
end FT
namespace L2
open PySem PySem.Spec PySem.W PyProof.Rows
variable {A:Around} {prog:Program} {s:Shared} {E:Value->Shared->Prop} {w:World}
section
theorem zf4 (hh:A.handled = none) (q t:Addr) (hne:t ≠ q) (items:Array Value):Draws prog w A q [q,t] items.size (fun i v=>items[i]? = some v) (fun i h=>h.IsListIter q t i/\h.IsList t items) where
 live:=fun _ _ st=>let ⟨o,ho,_⟩:=st.1;⟨o,ho⟩
 frame:=fun _ _ _ st hk=>⟨st.1.at fun o e=>hk q (by simp) o e,let ⟨o,ho,r⟩:=st.2;⟨o,hk t (by simp) o ho,r⟩⟩
 item:=fun i s Q E hi st hQ=>wpAny_nextOf_list_item st.1 st.2 (x:=items[i]) (by simp [hi]) fun k a b=>hQ _ k s.toks (by simp [hi]) ⟨a,let ⟨o,ho,r⟩:=st.2;⟨o,(b.2 t hne).trans ho,r⟩⟩ b
 done:=fun s Q E st hE=>wpAny_nextOf_list_end hh st.1 st.2 (by simp) hE
end
section
theorem zhn {l:Addr} {items:Array Value} {Q:Value->Shared->Prop} (hl:s.heap.IsList l items)
  (h:∀ k,IsEnum k (s.heap.objs.size + 1) s.heap.objs.size 0 .none->k.IsListIter s.heap.objs.size l 0->k.objs.size = s.heap.objs.size + 2->(∀ b o,s.heap.get? b = some o->k.get? b = some o)->Q (.ref (s.heap.objs.size + 1)) { s with heap:=k }) :
  wpAny (model prog w) A (call (.type "enumerate") [.ref l]) Q E s:=call_enumerate_list hl h
end
noncomputable def ItL (K:Frag) (a:Addr):It:=
 ⟨fun i H=>∃ xs x,SqL K H a xs/\xs[i]? = some x,fun i H y H'=>∃ p x,H p = none/\y = .ref p/\H' = upd H p (.tup [.int (i:Int),x])/\∀ xs,SqL K H a xs->xs[i]? = some x,fun i H=>∃ xs,SqL K H a xs/\xs.length<=i⟩
variable {elts:List Expr} {pos:Pos}
theorem zgH {P:Program} {K:Frag} {x1} (a e it:Addr) (hne:e ≠ it) (hae:a ≠ e) (hai:a ≠ it) :
  Turn P w K (.Tuple elts x1 pos) (ItL K a) [e,it] e (fun i h=>(∃ old,IsEnum h e it i old)/\h.IsListIter it a i) where
 mem:=by simp
 obj:=fun i h st b hb=>by
  rcases mem_cons.mp hb with z | z
  ·subst z
   obtain ⟨old,q⟩:=st.1
   exact ⟨_,q,fun v z=>by cases z⟩
  ·have z:=mem_singleton.mp z
   subst z
   obtain ⟨o,q,c,d⟩:=st.2
   exact ⟨o,q,fun v z=>by rw [d] at z;cases z⟩
 keep:=fun i h k st kk=>⟨let ⟨old,q⟩:=st.1;⟨old,kk e (by simp) _ q⟩,st.2.at fun o q=>kk it (by simp) o q⟩
 item:=by
  intro X hP hw hK hc i pins s σ H E I hf st hg
  subst hP hw hK
  obtain ⟨xs,x,hq,hx⟩:=hg
  obtain ⟨its,rv,p,hz⟩:=I.list hq
  obtain ⟨u,hu,ru⟩:=rv.get hx
  obtain ⟨⟨old,he⟩,hi⟩:=st
  have hl:i < its.toArray.size:=by simpa using (List.getElem?_eq_some_iff.mp hu).1
  have D:=zf4 (prog:=X.prog) (w:=X.w) (A:=X.A.in1) (by exact I.ok.hd hc) it a hai its.toArray
  refine wpAny_pyNext_enum_itemD D he ⟨hi,p.isList⟩ hl hne (by simp [hne,Ne.symm hae]) fun y k tk hy out st' htup hsz hk=>?_
  have hy':y = u:=by
   have:its[i]? = some y:=by simpa using hy
   rw [hu] at this
   exact (Qa this).symm
  subst hy'
  refine ⟨.ref s.heap.objs.size,rfl,wpAny_letOwnedTupleGo_enum (s:={ s with heap:=k,toks:=tk + 1 }) out fun k2 en2 sb=>?_⟩
  have fe:=hf e (by simp)
  have fi:=hf it (by simp)
  have eS:e ≠ s.heap.objs.size:=Qh (Qb he)
  have iS:it ≠ s.heap.objs.size:=by
   obtain ⟨o,q,_⟩:=hi
   exact Qh (Qb q)
  have IA:=I.laid (h':=s.heap.push { cls:=.type "tuple",data:=.seq #[.int i tk,y] }) (t':=tk + 1) (a:=s.heap.objs.size) (o:=.tup [.int (i:Int),x]) (fun b o q=>Q2 _ q) (Q3 _) (show ObjOk X.prog X.w _ _ _ (.tup [.int (i:Int),x]) from ⟨by show 2<=sizeLine;rw [sizeLine_eq];omega,[.int i tk,y],.cons ⟨tk,rfl⟩ (.cons ru .nil),by have:=IsTup.new s.heap #[.int i tk,y];simpa using this,NoDict.new⟩)
  have up:∀ b,b ≠ s.heap.objs.size->(upd H s.heap.objs.size (.tup [.int (i:Int),x])) b = H b:=fun b hb=>if_neg hb
  have IB:=IA.turned2 (t':=tk + 1) (h':=k2) (e:=e) (it:=it) (fun b o hbe hbi q=>by
   rcases Heap.get?_push_cases q with ⟨z1,z2⟩ | q
   ·subst z1;subst z2
    exact (sb.2 _ (Ne.symm eS)).trans htup
   ·exact (sb.2 b hbe).trans (hk b o hbe hbi q)) ⟨by rw [up e eS];exact fe.1,fe.2⟩ ⟨by rw [up it iS];exact fi.1,fi.2⟩
  refine ⟨.ref s.heap.objs.size,_,IB,rfl,⟨s.heap.objs.size,x,I.hok.fresh (Q3 _),rfl,rfl,fun ys hys=>by rw [I.list_inj hys hq];exact hx⟩,⟨⟨_,by push_cast at en2 ⊢;exact en2⟩,?_⟩,fun b hb=>?_⟩
  ·obtain ⟨o,q,r⟩:=st'.1
   exact ⟨o,(sb.2 it (Ne.symm hne)).trans q,r⟩
  ·rcases mem_cons.mp hb with z | z
   ·subst z;rw [up _ eS];exact fe.1
   ·have z:=mem_singleton.mp z
    subst z;rw [up _ iS];exact fi.1
 done:=by
  intro X hP hw hK hc i pins s σ H E I hf st hg
  subst hP hw hK
  obtain ⟨xs,hq,hx⟩:=hg
  obtain ⟨its,rv,p,hz⟩:=I.list hq
  obtain ⟨⟨old,he⟩,hi⟩:=st
  obtain ⟨f0,f1,f2,f3,f4,f5⟩:=hf it (by simp)
  have hl:=rv.length
  have D:Draws X.prog X.w X.A.in1 it [it,a] i (fun _ _=>True) (fun j h=>j = i/\h.IsListIter it a i/\h.IsList a its.toArray):={
   live:=fun _ _ st=>let ⟨o,ho,_⟩:=st.2.1;⟨o,ho⟩
   frame:=fun _ _ _ st hk=>⟨st.1,st.2.1.at fun o q=>hk it (by simp) o q,let ⟨o,ho,r⟩:=st.2.2;⟨o,hk a (by simp) o ho,r⟩⟩
   item:=fun j s Q E hj st hQ=>absurd st.1 (Qh hj)
   done:=fun s Q E st hE=>wpAny_nextOf_list_end (by exact I.ok.hd hc) st.2.1 st.2.2 (by simp;omega) hE }
  exact wpAny_pyNext_enum_endD D he ⟨rfl,hi,p.isList⟩ fun k eb=>⟨rfl,I.turned (t':=s.toks) (fun b o hb q=>eb b o hb q) f0 f1 f3 f4 f5⟩
 self:=fun _ _ _ _ _ st h=>let ⟨_,q⟩:=st.1;wpAny_pyIter_enum q h
section
variable {X:Cx}
noncomputable def znY (K:Frag) (tl:TE):TI:=fun σ H R=>tl σ H fun x H1=>∃ a,x = .ref a/\(∃ xs,SqL K H1 a xs)/\R (ItL K a) H1
theorem zi0 {l:Expr} {tl:TE} {x1} {tp p:Pos} (hg:Gl X "enumerate") (hm:X.mg "enumerate" = none) (hl:PE X l tl) (hs:starEach [l] X.env = [(false,eval l X.env)]:=by rfl) :
  PI X (.Tuple elts x1 tp) (.Call (.Name "enumerate" p) [l] [] pos) (znY X.K tl):=by
 intro pins s σ H R I h
 refine Call_ (zaX I hg hm (show bootBuiltins "enumerate" = some (.type "enumerate") by decide +kernel) (PyProof.Rows.callWith_type1 ?_ hs rfl))
 rw [hs]
 refine Calls.spliced_cons (thn (hl pins s σ H _ I h) fun v s1 ⟨x,H1,I1,r1,q1⟩=>Calls.spliced_nil ?_)
 obtain ⟨a,e,⟨xs,hq⟩,q⟩:=q1
 subst e
 cases r1
 obtain ⟨its,rv,pt,hz⟩:=I1.list hq
 have ha:a < s1.heap.objs.size:=by
  obtain ⟨o,ho,_⟩:=pt.isList
  exact Qb ho
 refine zhn pt.isList fun k en ti hsz hk=>?_
 refine wpAny_pyIter_enum en ?_
 refine ⟨s1.heap.objs.size + 1,[s1.heap.objs.size + 1,s1.heap.objs.size],_,_,H1,rfl,I1.kept (t':=s1.toks) hk,zgH a _ _ (Nat.ne_of_gt (Nat.lt_succ_self _)) (Qh (Nat.lt_succ_of_lt ha)) (Qh ha),⟨⟨_,en⟩,ti⟩,fun b hb=>?_,q⟩
 rcases mem_cons.mp hb with z | z
 ·subst z;exact I1.fpOk (Nat.le_succ _) (I1.hok.fresh (Nat.le_succ _))
 ·have z:=mem_singleton.mp z
  subst z;exact I1.fpOk (Q3 _) (I1.hok.fresh (Q3 _))
end
end L2
namespace FT
open PySem PySem.Spec PyProof.Rows L2
noncomputable def zdx (f:Ev->Mem->Out T):Ev->Mem->Out (List T):=fun σ M=>(f σ M).bind fun t M1=>match t with
 | .lst ts=>.ok (enT ts) M1
 | _=>.bad
section
variable {X:Cx} {XE:XK}
end
noncomputable abbrev Gd:=List (Nat × List T)
def zhb (G:Gd) (M:Mem):Prop:=∀ g ∈ G,M[g.1]? = some (.lst g.2)
noncomputable def gdK {β:Type} (G:Gd) (M:Mem) (o:Out β):Out β:=@ite _ (zhb G M) (Classical.propDecidable _) o .bad
theorem zia {β:Type} {G:Gd} {M:Mem} {o:Out β} (h:zhb G M):gdK G M o = o:=if_pos h
def ItG (K:Frag) (S:Sit) (items:List T × Gd) (J:It):Prop:=∀ S',Stp K S S'->zhb items.2 S'.M->
 (∀ (i:Nat) t,items.1[i]? = some t->J.go i S'.H/\∀ x H',J.yld i S'.H x H'->∃ S'',S''.H = H'/\S''.M = S'.M/\Stp K S' S''/\Rep K S'' t x)/\∀ i,items.1.length<=i->J.stop i S'.H
instance (K):Mo K (ItG K):=⟨fun _ s r=>fun S' s'=>r S' (s.trans s')⟩
noncomputable def lIG (XE:XK) (K:Frag) (f:Ev->Mem->Out (List T × Gd)):TI:=fun σ H R=>LN XE (ItG K) K UnR (fun _ σ M=>f σ M) () σ H R
def GIG (X:Cx) (XE:XK) (tg iter:Expr) (f:Ev->Mem->Out (List T × Gd)):Prop:=PI X tg iter (lIG XE X.K f)
noncomputable def zd8 (G:Gd) (bd:T->Ev->Mem->Out Ev) (body:Ev->Mem->Out Fl):List T->Ev->Mem->Out Fl
 | [],σ,M=>gdK G M (.ok (.nx σ) M)
 | x :: xs,σ,M=>gdK G M ((bd x σ M).bind fun σ1 M1=>(body σ1 M1).bind (qI (zd8 G bd body xs)))
end FT
namespace L2
open PySem PySem.Spec PySem.W PyProof.Rows
def SI (b:Bool) (h:Heap) (q t:Addr) (k:Nat):Prop:=match b with
 | true=>h.IsTupleIter q t k
 | false=>h.IsListIter q t k
def SS (b:Bool) (h:Heap) (t:Addr) (xs:Array Value):Prop:=match b with
 | true=>h.IsTuple t xs
 | false=>h.IsList t xs
def SqX (K:Frag) (H:Hp) (b:Bool) (a:Addr) (xs:List V):Prop:=match b with
 | true=>SqT K H a xs
 | false=>SqL K H a xs
noncomputable abbrev TSl:=V->Option Int->Option Int->V->Hp->(Hp->Prop)->Prop
end L2
namespace FT
open PySem PySem.Spec PyProof.Rows L2
noncomputable def zhe (f:List T->Mem->Out T):List T->Mem->Out T:=fun ts M=>match f ts M with
 | .ok v M'=>@ite _ (M'.take M.length = M/\T.lt 0 v) (Classical.propDecidable _) (.ok v M) .bad
 | _=>.bad
theorem zjt (f:List T->Mem->Out T):Refines (zhe f) f:=by
 intro ts M t' M1 _ e
 unfold zhe at e
 split at e
 ·rename_i v M' q
  split at e
  ·rename_i hc
   cases e
   have hl:M.length<=M'.length:=by
    have:=congrArg List.length hc.1
    rw [Qn] at this
    omega
   exact ⟨_,_,q,Q3 _,hl,hc.1.symm,fun i c e=>.inl e,.same (hc.2.mono (Nat.zero_le _))⟩
  ·cases e
 ·cases e
noncomputable def znG (o:Out Fl):Out T:=match o with
 | .ok (.rt t) M'=>.ok t M'
 | .ok (.nx _) M'=>.ok .non M'
 | .exn C fs M'=>.exn C fs M'
 | _=>.bad
noncomputable def zQ (p n:Nat) (g:Ev->Mem->Out Fl):List T->Mem->Out T:=fun ts M=>if ts.length = p then znG (g (startT n ts) M) else .bad
structure CalX (P:Program) (w:World) (K:Frag) (mg:Str->Option Value) (base:Heap) (k:Nat) (x:Str) (ps:List Str) (f:List T->Mem->Out T):Prop where
 ex:∃ (fa:Addr) (fd:FuncData),FnOk P w K mg base (CXX P w) k fa fd ps (spT K f)/\PySem.W.keepIn K (.ref fa) = true/\Binds K fd ps []/\mg x = some (.ref fa)
variable {X:Cx} {g:Ev->Mem->Out Fl} {base:Heap} {N ps:List Str} {n p:Nat} {P:Program} {x:Str} {mg:Str->Option Value} {w:World}
section
variable {K:Frag}
theorem ziz {st:List Stmt} (hn:N.length = n) {E:XK} {vs:List V} {H:Hp} {Q:VK} (hX:X.K = K) (h:spT K (zQ p n g) vs H Q E) (hb:GSs X E st g) :
  ∃ t,PSs X st t/\t { nx:=fun _ H'=>Q .non H',rt:=Q } (start N vs) H:=by
 subst hX
 refine ⟨_,hb,?_⟩
 obtain ⟨S,ts,e,m,r,fin⟩:=h
 refine ⟨S,startT n ts,(),e,m,EvR.start r hn,trivial,?_⟩
 show Fin E (FlR X.K) X.K S (g (startT n ts) S.M) _
 unfold zQ at fin
 by_cases hp:ts.length = p
 ·rw [if_pos hp] at fin
  cases o:g (startT n ts) S.M with
  | bad=>rw [o] at fin;exact fin
  | exn C fs M'=>rw [o] at fin;exact fin
  | ok fl M1=>
   rw [o] at fin
   cases fl with
   | nx σ1=>
    intro S1 c e1 s1 r1
    cases r1 with
    | nx r1=>exact fin S1 .non e1 s1 .non
   | rt t=>
    intro S1 c e1 s1 r1
    cases r1 with
    | rt r1=>exact fin S1 _ e1 s1 r1
   | bk σ1=>exact fin.elim
   | ct σ1=>exact fin.elim
 ·rw [if_neg hp] at fin;exact fin.elim
theorem zj0 (hp:ps.length = p):∀ vs H Q E,spT K (zQ p n g) vs H Q E->vs.length = ps.length:=by
 intro vs H Q E ⟨S,ts,e,m,r,fin⟩
 rw [← r.1,hp]
 unfold zQ at fin
 by_cases h:ts.length = p
 ·exact h
 ·rw [if_neg h] at fin;exact fin.elim
theorem zlc {st:Stmt} {k:Nat} (D:Df K mg x st ps) (Sc:FnScope N ps (ze st)) (hp:ps.length = p) (hn:N.length = n)
 (hb:∀ (f:Addr) (cdv:Value) (A:Around) (outer:List PySem.Env) (s:Shared) (H:Hp) (E:XK),Room k (A.deeper (envOfC x (ze st) s.heap.objs.size f cdv))->GSs (zad (CXX P w) P w K mg base N x (ze st) f cdv A outer s H E) E (zx st) g) :
  CalX P w K mg base (k + 1) x ps (zQ p n g):=by
 obtain ⟨f,fd,F,b,gg⟩:=D.ex
 obtain ⟨oc,od,kV,doc,pm,an,cdv,ct,osl,rfl,lk,hcd⟩:=F.ex
 exact ⟨⟨f,_,zjI lk hcd Sc (zj0 hp) fun A outer s H vs Q E hr hsp=>ziz hn rfl hsp (hb f cdv A outer s H E hr),F.kp,b,gg⟩⟩
end
variable {C:Addr}
section
variable {XE:XK} {k i j:Nat} {y v nm:Str} {p pos pos2 np hp tp vp cpos:Pos} {e:Expr} {es:List Expr} {ga:Ev->Mem->Out (List T)} {F:List T->Mem->Out T} {b0:Stmt} {suite sts:List Stmt} {gs:Ev->Mem->Out Fl}
noncomputable def zaj (C:Addr) (ts:List T) (M:Mem):Out Fl:=if ts.length<=sizeLine then .exn C [] M else .bad
noncomputable def zcm (r:List T->Mem->Out Fl) (ga:Ev->Mem->Out (List T)):Ev->Mem->Out Fl:=fun σ M=>(ga σ M).bind fun ts M1=>r ts M1
structure XcF (P:Program) (w:World) (K:Frag) (mg:Str->Option Value) (base:Heap) (x:Str) (C:Addr):Prop where
 ex:∃ f fd,XcAt K mg x C f/\FnOk P w K mg base CX0 1 f fd ["self","at"] (fun vs H Q E=>(∃ e t v,vs = [.ref e,v]/\H e = some (.ext (ExN e C t none))/\∀ d,H d = none->d ≠ e->Q .non (upd (upd H e (.ext (ExN e C t (some d)))) d (.xd [("at",v)]))))/\Binds K fd ["self","at"] []
theorem XcF.at {K:Frag} (O:XcF P w K mg base x C):∃ nm fI,XcAt K mg nm C fI:=let ⟨f,_,h,_⟩:=O.ex;⟨x,f,h⟩
def GX (X:Cx) (sts:List Stmt) (g:Ev->Mem->Out Fl):Prop:=PX X sts fun E=>lS E X.K g
noncomputable def noX (o:Out Fl):Out Fl:=match o with
 | .exn _ _ _=>.bad
 | o=>o
theorem zkA {K:Frag} {S:Sit} {o:Out Fl} {Q:FlV->Hp->Prop} (h:Fin XE (FlR K) K S (noX o) Q):Fin E0 (FlR K) K S o Q:=by
 cases o with
 | ok b M'=>exact h
 | exn C fs M'=>exact h.elim
 | bad=>exact h
noncomputable def zfb (cs:List Addr) (g gs:Ev->Mem->Out Fl):Ev->Mem->Out Fl:=fun σ M=>match g σ M with
 | .exn C _ M'=>if cs.contains C = true then noX (gs σ M') else .bad
 | o=>o
noncomputable def clr (j:Nat) (fl:Fl) (M:Mem):Out Fl:=match fl with
 | .nx σ=>.ok (.nx (σ.set j none)) M
 | .rt t=>.ok (.rt t) M
 | .bk σ=>.ok (.bk (σ.set j none)) M
 | .ct σ=>.ok (.ct (σ.set j none)) M
noncomputable def zoz (j:Nat) (cs:List Addr) (g gs:Ev->Mem->Out Fl):Ev->Mem->Out Fl:=fun σ M=>match g σ M with
 | .exn C fs M'=>if cs.contains C = true then (noX (gs (σ.set j (some (.exc C fs))) M')).bind (clr j) else .bad
 | o=>o
end
theorem ziL {K:Frag} {f:Addr} (O:XcAt K mg x C f):Sup K mg x C C:=⟨O.bound,fun h X=>by
 obtain ⟨bm,N,nm,q,bs,sn,sub,ab,col,dd,k0,k1,k2,k3,k5,mN,hC,_,_,_,T⟩:=O.obj h X
 exact ⟨⟨bm,N,nm,q,bs,true,sn,sub,ab,col,dd,k0,k1,k2,k3,k5,hC,(T.tail (by decide)).hasType PySem.F.excBase_ValueError.hasBase⟩,bm,N,nm,q,bs,true,sn,sub,ab,col,dd,k0,k1,k2,k3,k5,hC,by simp⟩⟩
theorem XcF.sup {K:Frag} (O:XcF P w K mg base x C):Sup K mg x C C:=let ⟨_,_,h,_⟩:=O.ex;ziL h
end FT
namespace L2
open PySem
noncomputable def subs:Nat->List (List Nat)
 | 0=>[[]]
 | n + 1=>subs n ++ (subs n).map (· ++ [n])
theorem zaG:∀ (n:Nat) (ks:List Nat),ks ∈ subs n->ks.Pairwise (· < ·)/\∀ k ∈ ks,k < n
 | 0,ks,h=>by rw [show ks = [] from mem_singleton.mp h];exact ⟨.nil,fun _ h=>by cases h⟩
 | n + 1,ks,h=>by
  unfold subs at h
  rcases mem_append.mp h with h | h
  ·have:=zaG n ks h
   exact ⟨this.1,fun k hk=>Nat.lt_succ_of_lt (this.2 k hk)⟩
  ·obtain ⟨l,hl,rfl⟩:=mem_map.mp h
   have:=zaG n l hl
   refine ⟨pairwise_append.mpr ⟨this.1,List.pairwise_singleton _ _,fun a ha b hb=>by rw [mem_singleton.mp hb];exact this.2 a ha⟩,fun k hk=>?_⟩
   rcases mem_append.mp hk with hk | hk
   ·exact Nat.lt_succ_of_lt (this.2 k hk)
   ·rw [mem_singleton.mp hk];exact Nat.lt_succ_self _
noncomputable def zn6:Bool:=(subs 6).all fun ks=>(List.range 7).all fun h=>SetTable.below ks.toArray h == (ks.filter (· < h)).length
theorem zle:zn6 = true:=by decide +kernel
variable {ks:List Nat}
theorem zfQ (hk:ks ∈ subs 6) {h:Nat} (hh:h < 7):SetTable.below ks.toArray h = (ks.filter (· < h)).length:=by
 have:=all_eq_true.mp (all_eq_true.mp zle ks hk) h (mem_range.mpr hh)
 exact eq_of_beq this
noncomputable def zl3 (mask:Nat) (hashes:Array Int):Option (List Nat × List Nat):=(SetTable.layClean mask hashes).map fun owner=>
 let live:=(List.range (mask + 1)).filterMap fun j=>(owner.getD j none).map (j,·)
 (live.map (·.1),live.map (·.2))
noncomputable def hsh (ks:List Nat):List Int:=ks.map fun k:Nat=>(k:Int)
noncomputable def layB:Bool:=(subs 6).all fun ks=>[7,15,31].all fun m=>zl3 m (hsh ks).toArray == some (ks,List.range ks.length)
theorem zkG:layB = true:=by decide +kernel
theorem zkI (hk:ks ∈ subs 6) {m:Nat} (hm:m ∈ [7,15,31]) (f mv:Nat) (l p:Bool) :
  SetTable.laid m f mv l p (hsh ks).toArray = some ({ mask:=m,place:=ks.toArray,dummies:=#[],finger:=f,led:=l,moves:=mv,plain:=p },(List.range ks.length).toArray):=by
 have:=eq_of_beq (all_eq_true.mp (all_eq_true.mp zkG ks hk) m hm)
 unfold zl3 at this
 unfold SetTable.laid
 cases q:SetTable.layClean m (hsh ks).toArray with
 | none=>rw [q] at this;cases this
 | some owner=>
  rw [q] at this
  have h:=Prod.mk.inj (Qa this)
  show some _ = some _
  rw [h.1,h.2]
end L2
namespace L2
open PySem PySem.Spec
noncomputable def qH (w:World):Bool:=w.params.followText "set-order"
structure DTab (w:World) (es:Array (Int × Value)) (t:SetTable) (ks:List Nat) (m:Nat):Prop where
 keys:es.toList.map (·.1) = hsh ks
 vals:∀ e ∈ es.toList,∃ tk,e.2 = .int e.1 tk
 mask:t.mask = m
 place:t.place = ks.toArray
 dumm:t.dummies = #[]
 plain:t.plain = true
 led:qH w = true\/t.led = true
 sub:ks ∈ subs 6
 ms:m ∈ [7,15,31]
def DSet (w:World) (h:Heap) (a:Addr) (ks:List Nat) (m:Nat):Prop:=
 ∃ o es ep t,h.get? a = some o/\o.ExactSet/\o.data = .set es ep t/\DTab w es t ks m
variable {es:Array (Int × Value)} {ks:List Nat} {m:Nat} {t:SetTable} {w:World}
theorem DTab.size (d:DTab w es t ks m):es.size = ks.length:=by
 have:=congrArg List.length d.keys
 unfold hsh at this
 simpa using this
theorem z5 (h:ks ∈ subs 6):ks.length<=6:=by
 have:((subs 6).all fun ks=>ks.length<=6) = true:=by decide +kernel
 simpa using all_eq_true.mp this ks h
theorem DTab.fits (d:DTab w es t ks m):t.fits es.size = true:=by
 have:=z5 d.sub
 have hm:=d.ms
 unfold SetTable.fits SetTable.fill
 rw [d.size,d.place,d.dumm,d.mask]
 simp at hm ⊢
 omega
theorem zaq {k:Nat} (h:k < 6):hashInt (k:Int) = k:=by
 have:((List.range 6).all fun k:Nat=>hashInt (k:Int) == (k:Int)) = true:=by decide +kernel
 exact eq_of_beq (all_eq_true.mp this k (mem_range.mpr h))
variable {tk:Tok}
section
variable {prog:Program} {A:Around} {E:Value->Shared->Prop} {s:Shared} {a:Addr}
theorem DTab.elems (d:DTab w es t ks m):ElemsOf (intKind prog w) es.toList:=fun e he=>by
 obtain ⟨tk,ht⟩:=d.vals e he
 have hk:e.1 ∈ hsh ks:=d.keys ▸ mem_map_of_mem (f:=(·.1)) he
 obtain ⟨k,hk,ek⟩:=mem_map.mp hk
 refine ⟨⟨e.1,?_,?_⟩,by rw [ht];rfl⟩
 ·rw [ht];show (e.1 == e.1) = true;exact Qs _
 ·show e.1 = hashInt e.1
  rw [← ek,zaq ((zaG 6 ks d.sub).2 k hk)]
theorem zdB {o:Obj} {es':Array (Int × Value)} {ep:Nat} {t':SetTable} {ks':List Nat} {m':Nat} {Q:Unit->Shared->Prop} (ho:s.heap.get? a = some o) (hx:o.ExactSet) (hd:o.data = .set es ep t) (d':DTab w es' t' ks' m')
 (h:∀ h',Heap.SameBut a s.heap h'->DSet w h' a ks' m'->Q () { s with heap:=h' }):wpAny (model prog w) A (storeSet a es' t') Q E s:=by
 have hz:=z5 d'.sub
 refine wpAny_storeSet_of ho hd ?_ (by rw [d'.size];exact Qg hz (by decide))
 refine h _ (Heap.SameBut.update _ a _) ⟨{ o with data:=.set es' (ep + 1) t' },es',ep + 1,t',?_,?_,rfl,d'⟩
 ·have:=Heap.get?_update_self (Obj.putSet es' t') ho (by rw [putSet_of es' t' hd];rfl)
  rw [putSet_of es' t' hd] at this;exact this
 ·exact hx
noncomputable def zaY (k:Nat) (ks:List Nat):List Nat:=if k ∈ ks then ks else ks.take (ks.filter (· < k)).length ++ k :: ks.drop (ks.filter (· < k)).length
theorem zfs {k:Nat} (hk:k < 6) (h:ks ∈ subs 6):zaY k ks ∈ subs 6:=by
 have:((List.range 6).all fun k=>(subs 6).all fun ks=>(subs 6).contains (zaY k ks)) = true:=by decide +kernel
 have:=all_eq_true.mp (all_eq_true.mp this k (mem_range.mpr hk)) ks h
 simpa using this
theorem zjc {k x:Nat} :x ∈ zaY k ks ↔ x ∈ ks\/x = k:=by
 unfold zaY
 split
 ·rename_i h;exact ⟨.inl,fun z=>z.elim id fun e=>e ▸ h⟩
 ·have:=take_append_drop (ks.filter (· < k)).length ks
  rw [mem_append,mem_cons]
  constructor
  ·rintro (h | rfl | h)
   ·exact .inl (mem_of_mem_take h)
   ·exact .inr rfl
   ·exact .inl (mem_of_mem_drop h)
  ·rintro (h | rfl)
   ·rw [← this,mem_append] at h
    exact h.elim .inl fun h=>.inr (.inr h)
   ·exact .inr (.inl rfl)
theorem zf2 {k:Nat} (hp:t.place = ks.toArray) (hd:t.dummies = #[]) (hm:k<=t.mask) (hs:k < 2 ^ 64) (hn:k ∉ ks):t.freeSlot (k:Int) = some (k,false):=by
 have hb:SetTable.bits (k:Int) = k:=by
  unfold SetTable.bits
  rw [Int.emod_eq_of_lt (by omega) (by omega)]
  rfl
 have hsl:t.slot k = .empty:=by
  unfold SetTable.slot SetTable.has
  rw [hp,hd]
  dsimp only
  rw [if_neg (by
   intro e
   have e:=eq_of_beq e
   rw [List.getElem?_toArray] at e
   exact hn (Q8 e)),if_neg (by simp)]
 have hj:(t.probeStart (k:Int)).j = k/\(t.probeStart (k:Int)).dummy = none:=by
  unfold SetTable.probeStart
  rw [hb]
  exact ⟨Nat.mod_eq_of_lt (by omega),rfl⟩
 unfold SetTable.freeSlot SetTable.probe
 rw [show 10 * SetTable.turns t.mask = (10 * t.mask + 149) + 1 by unfold SetTable.turns;omega]
 unfold SetTable.probe.go
 rw [hj.1,hsl,hj.2]
 rfl
theorem DTab.ins {k:Nat} (d:DTab w es t ks m) (hk:k < 6) (hn:k ∉ ks):DTab w (SetTable.insertAt es (t.put k).2 ((k:Int),.int (k:Int) tk)) (t.put k).1 (zaY k ks) m:=by
 have hp:(t.put k).2 = (ks.filter (· < k)).length:=by
  unfold SetTable.put
  rw [d.place]
  exact zfQ d.sub (by omega)
 have hi:zaY k ks = ks.take (ks.filter (· < k)).length ++ k :: ks.drop (ks.filter (· < k)).length:=if_neg hn
 refine ⟨?_,?_,d.mask,?_,?_,d.plain,d.led,zfs hk d.sub,d.ms⟩
 ·rw [hp,SetTable.toList_insertAt,hi]
  unfold hsh
  rw [map_append,map_cons,map_append,map_cons,map_take,map_take,map_drop,map_drop]
  have:=d.keys
  unfold hsh at this
  rw [this]
 ·intro e he
  rw [SetTable.toList_insertAt] at he
  rcases mem_append.mp he with he | he
  ·exact d.vals e (mem_of_mem_take he)
  ·rcases mem_cons.mp he with rfl | he
   ·exact ⟨tk,rfl⟩
   ·exact d.vals e (mem_of_mem_drop he)
 ·show SetTable.insertAt t.place (SetTable.below t.place k) k = _
  rw [d.place,zfQ d.sub (by omega),hi]
  apply Array.toList_inj.mp
  rw [SetTable.toList_insertAt]
 ·show (if SetTable.has t.dummies k then _ else t.dummies) = #[]
  rw [d.dumm]
  rfl
theorem DTab.lay {k:Nat} (d:DTab w es t ks m) (hk:k < 6) (hn:k ∉ ks):layNew t es (k:Int) (.int (k:Int) tk) = (SetTable.insertAt es (t.put k).2 ((k:Int),.int (k:Int) tk),(t.put k).1,false,false):=by
 have hm:=d.ms
 have hf:=(d.ins (tk:=tk) hk hn).fits
 unfold layNew
 rw [zf2 d.place d.dumm (by rw [d.mask];simp at hm;omega) (by omega) hn]
 dsimp only
 unfold SetTable.orStandIn
 rw [if_pos hf,hf]
 rfl
theorem DTab.full (d:DTab w es t ks m):∃ t' m',relayAll t es (SetTable.grown es.size) = (es,t',false)/\DTab w es t' ks m':=by
 have h6:=z5 d.sub
 have hw:∀ n,n<=6->SetTable.sizeAbove (SetTable.grown n) - 1 ∈ [7,15,31]:=by decide +kernel
 have hms:=hw _ h6
 have e1:es.map (·.1) = (hsh ks).toArray:=by
  rw [← d.keys]
  apply Array.toList_inj.mp
  rw [Array.toList_map]
 have e3:Array.filterMap (fun x=>es[x]?) (List.range ks.length).toArray = es:=by
  apply Array.toList_inj.mp
  rw [← d.size]
  simpa using filterMap_getElem?_range es
 have hc:∀ n,n<=6->coversAll (List.range n).toArray n = true:=by decide +kernel
 have d':DTab w es { mask:=SetTable.sizeAbove (SetTable.grown es.size) - 1,place:=ks.toArray,dummies:=#[],finger:=t.finger,led:=t.led,moves:=t.movedTo (SetTable.sizeAbove (SetTable.grown es.size) - 1),plain:=t.plain } ks (SetTable.sizeAbove (SetTable.grown es.size) - 1):=⟨d.keys,d.vals,rfl,rfl,rfl,d.plain,d.led,d.sub,by rw [d.size];exact hms⟩
 refine ⟨_,_,?_,d'⟩
 unfold relayAll SetTable.relaid
 rw [e1,zkI d.sub (by rw [d.size];exact hms)]
 dsimp only
 rw [e3,d'.fits,d.size,hc _ h6]
 rfl
theorem zjs {k:Nat} {Q:Bool->Shared->Prop} (hs:DSet w s.heap a ks m) (hk:k < 6) (h:∀ b h' m',Heap.SameBut a s.heap h'->DSet w h' a (zaY k ks) m'->Q b { s with heap:=h' }):wpAny (model prog w) A (setAddHashed a (.int (k:Int) tk) (k:Int)) Q E s:=by
 obtain ⟨o,es,ep,t,ho,hx,hd,d⟩:=id hs
 have key:(intKind prog w).is (k:Int) (.int (k:Int) tk) = true:=by show ((k:Int) == (k:Int)) = true;exact Qs _
 have h6:=z5 d.sub
 have hb:es.size < scanBound:=by rw [d.size];exact Nat.lt_of_le_of_lt h6 (by decide)
 unfold setAddHashed setAddHashedIn
 refine wpAny_holding (Q1 (wpAny_setState_of ho hd d.fits ?_))
 dsimp only
 rw [byScan_of (knd:=intKind prog w) rfl hb d.elems]
 simp only [↓reduceIte]
 refine Q1 ?_
 unfold setAddByScan
 refine Q1 (wpAny_rule ?_)
 have sc:=fun Q h=>wpAny_setScan_of (prog:=prog) (w:=w) (A:=A) (E:=E) (s:=s) (x:=.int (k:Int) tk) (adding:=true) (Q:=Q) key ho hd d.fits d.elems h
 rw [show (intKind prog w).hash (k:Int) = (k:Int) from zaq hk] at sc
 refine Q1 (sc _ ?_)
 by_cases hin:k ∈ ks
 ·have:∃ j,List.findIdx? (fun e=>(intKind prog w).is (k:Int) e.2) es.toList = some j:=by
   cases q:List.findIdx? (fun e=>(intKind prog w).is (k:Int) e.2) es.toList with
   | some j=>exact ⟨j,rfl⟩
   | none=>
    have hm:(k:Int) ∈ es.toList.map (·.1):=by rw [d.keys];exact mem_map.mpr ⟨k,hin,rfl⟩
    obtain ⟨e,he,ek⟩:=mem_map.mp hm
    have:=List.findIdx?_eq_none_iff.mp q e he
    obtain ⟨tk',ht⟩:=d.vals e he
    rw [ht,ek] at this
    simp [intKind,Value.isInt] at this
  obtain ⟨j,hj⟩:=this
  rw [hj]
  refine Qc (Qc (h false s.heap m (Heap.SameBut.refl _ _) ?_))
  rw [show zaY k ks = ks from if_pos hin]
  exact hs
 ·have hno:List.findIdx? (fun e=>(intKind prog w).is (k:Int) e.2) es.toList = none:=by
   refine List.findIdx?_eq_none_iff.mpr fun e he=>?_
   obtain ⟨tk',ht⟩:=d.vals e he
   have hm:e.1 ∈ hsh ks:=d.keys ▸ mem_map_of_mem (f:=(·.1)) he
   obtain ⟨x,hx,ex⟩:=mem_map.mp hm
   rw [ht,← ex]
   show ((x:Int) == (k:Int)) = false
   exact beq_eq_false_iff_ne.mpr fun z=>hin (by rw [show k = x by omega];exact hx)
  rw [hno]
  dsimp only
  rw [d.lay hk hin]
  dsimp only
  have d2:=d.ins (tk:=tk) hk hin
  refine Q1 (show wpAny (model prog w) A (pure ()) _ E s from Qc ?_)
  rw [d2.plain]
  simp only [↓reduceIte]
  refine Q1 ?_
  rw [hashByValue_scannable 8 rfl]
  refine Qc ?_
  simp only [plainKind,↓reduceIte]
  refine Q1 (zdB ho hx hd d2 fun h1 sb1 ds1=>?_)
  obtain ⟨t',m',er,d3⟩:=d2.full
  rw [er]
  split
  ·refine Q1 (show wpAny (model prog w) A (pure ()) _ E _ from Qc ?_)
   obtain ⟨o1,es1,ep1,t1,ho1,hx1,hd1,_⟩:=ds1
   refine Q1 (zdB ho1 hx1 hd1 d3 fun h2 sb2 ds2=>?_)
   exact Qc (Qc (h true h2 m' (sb1.trans sb2) ds2))
  ·exact Qc (Qc (h true h1 m sb1 ds1))
end
end L2
namespace L2
open PySem PySem.Spec PyProof.Rows
variable {A:Around} {h:Heap} {ks:List Nat} {m:Nat} {prog:Program} {s:Shared} {E:Value->Shared->Prop} {w:World}
section
variable {a:Addr}
theorem DSet.keep {h':Heap} (x:DSet w h a ks m) (k:∀ o,h.get? a = some o->h'.get? a = some o):DSet w h' a ks m:=by
 obtain ⟨o,es,ep,t,ho,r⟩:=x
 exact ⟨o,es,ep,t,k _ ho,r⟩
theorem DSet.lt (x:DSet w h a ks m):a < h.objs.size:=by
 obtain ⟨o,es,ep,t,ho,r⟩:=x
 exact Qb ho
theorem zjr (h:Heap):DSet w (h.push { cls:=.type "set",dict:=none,data:=.set #[] 0 (.fresh 0 0 (!qH w)) }) h.objs.size [] 7:=by
 refine ⟨_,#[],0,_,Qi _ rfl,⟨rfl,rfl,rfl⟩,rfl,rfl,fun e he=>by simp at he,rfl,rfl,rfl,rfl,?_,by decide +kernel,by decide⟩
 cases q:qH w with
 | true=>exact .inl rfl
 | false=>exact .inr rfl
noncomputable def zz (ks ns:List Nat):List Nat:=ns.foldl (fun a k=>zaY k a) ks
theorem zdw:∀ {ns ks:List Nat},ks ∈ subs 6->(∀ n ∈ ns,n < 6)->zz ks ns ∈ subs 6
 | [],_,h,_=>h
 | n :: ns,ks,h,hn=>zdw (ns:=ns) (zfs (hn n (.head _)) h) fun x hx=>hn x (.tail _ hx)
theorem zbY {x:Nat}:∀ {ns ks:List Nat},x ∈ zz ks ns ↔ x ∈ ks\/x ∈ ns
 | [],ks=>by simp [zz]
 | n :: ns,ks=>by
  show x ∈ zz (zaY n ks) ns ↔ _
  rw [zbY,zjc,mem_cons,or_assoc]
theorem zf1 {ns:List Nat} {i n:Nat} (h:ns[i]? = some n):zz ks (ns.take (i + 1)) = zaY n (zz ks (ns.take i)):=by
 unfold zz
 rw [take_succ,h,List.foldl_append]
 rfl
structure DictN (prog:Program) (w:World) (h:Heap) (d:Addr) (ns:List Nat) (od:Obj) (es:Array DictEntry) (ep:Nat):Prop where
 at_:h.get? d = some od
 exact_:od.ExactDict
 data:od.data = .dict es ep
 size:es.size = ns.length
 keys:∀ (i:Nat) n,ns[i]? = some n->∃ e tk,es[i]? = some e/\e.key = .int (n:Int) tk/\e.hash = (n:Int)
 small:∀ n ∈ ns,n < 6
noncomputable abbrev yX (w:World):Obj:={ cls:=.type "set",dict:=none,data:=.set #[] 0 (.fresh 0 0 (!qH w)) }
set_option maxRecDepth 100000 in
theorem zhh (x:Value) {Q₁:Value->Shared->Prop} (h:Q₁ (.ref s.heap.objs.size) { s with heap:=s.heap.push (yX w) }) :
  codeAny (model prog w) A (.call (.builtin "set.__new__") ⟨[.type "set",x],[]⟩) (wants Q₁ E) s:=by
 refine codeAny_of_tree ?_
 show wpAny _ A.in1 (do checkBuiltinCall "set.__new__" ⟨[.type "set",x],[]⟩;again (.builtin "set.__new__" ⟨[.type "set",x],[]⟩)) _ _ s
 refine Q1 (wpAny_of_eq (PySem.F.newCall_set_1 x) (Qc ⟨plainId_quiet PySem.F.plain_set_new _,codeAny_builtin PySem.F.entry_set_new ?_⟩))
 rw [Around.under_plainId PySem.F.plain_set_new _]
 unfold Builtin.«set.__new__» Builtin.Frozenset.newClass
 have hsub:=PySem.sub_set_self
 obtain ⟨hp,g,d,tk,os⟩:=s
 dsimp only
 wp_walk
 refine wpAny_askSetting (Qc ?_)
 dsimp only
 simp only [newObj]
 refine Q1 (wpAny_alloc (Qc ?_))
 exact Qc h
end
theorem zes {α:Type} (next:Nat->Nat):∀ (fuel k:Nat) (left:List α) (out:Array α),left.length = fuel->(pickOrder.go next fuel k left out).toList.Perm (out.toList ++ left)
 | 0,_,left,out,h=>by rw [List.length_eq_zero_iff.mp h];unfold pickOrder.go;simp
 | fuel + 1,k,left,out,h=>by
  have hl:next k % left.length < left.length:=Nat.mod_lt _ (by omega)
  unfold pickOrder.go
  rw [Q0 hl]
  refine (zes next fuel (k + 1) _ _ (by rw [List.length_eraseIdx_of_lt hl];omega)).trans ?_
  rw [Array.toList_push,append_assoc]
  refine List.Perm.append_left _ ?_
  rw [List.eraseIdx_eq_take_drop_succ]
  have e:left = left.take (next k % left.length) ++ left[next k % left.length] :: left.drop (next k % left.length + 1):=by
   rw [← drop_eq_getElem_cons hl,take_append_drop]
  conv=>rhs;rw [e]
  rw [List.singleton_append]
  exact (List.perm_middle).symm
theorem zdV {α:Type} (next:Nat->Nat) (xs:Array α):(pickOrder next xs).toList.Perm xs.toList:=by
 have:=zes next xs.size 0 xs.toList #[] (by simp)
 simpa [pickOrder] using this
variable {es:Array (Int × Value)} {ep:Nat} {t:SetTable}
section
variable {a:Addr}
noncomputable def yE (w:World) (a:Addr) (ep:Nat) (es:Array (Int × Value)):Array (Int × Value):=if qH w = true then pickOrder (w.params.setOrder a ep) es else es
theorem yR:(yE w a ep es).toList.Perm es.toList:=by
 unfold yE
 split
 ·exact zdV _ _
 ·exact .refl _
theorem zew {o:Obj} {Q:Array (Int × Value)->Shared->Prop} (ho:s.heap.get? a = some o) (hd:o.data = .set es ep t) (d:DTab w es t ks m) (h:Q (yE w a ep es) s) :
  wpAny (model prog w) A (setWalk a) Q E s:=by
 unfold setWalk
 refine Q1 (wpAny_setState_of ho hd d.fits ?_)
 dsimp only
 unfold setsByText
 refine Q1 (Q1 (wpAny_askSetting (Qc ?_)))
 unfold yE qH at h
 show wpAny _ _ (if w.params.followText "set-order" = true then _ else _) _ _ _
 by_cases q:w.params.followText "set-order" = true
 ·rw [if_pos q] at h ⊢
  exact Q1 (wpAny_askSetting (Qc h))
 ·rw [if_neg q] at h ⊢
  have hl:t.led = true:=d.led.resolve_left q
  refine wpAny_ite_split (fun hab=>?_) fun _=>?_
  ·have hab:(!t.plain && decide (es.size > 1)) = true:=hab
   rw [d.plain] at hab
   cases hab
  ·refine Q1 ?_
   wp_delta
   rw [if_neg (by rw [hl];simp)]
   exact Qc (Qc h)
theorem zhw (d:DTab w es t ks m) {e:Int × Value} (he:e ∈ (yE w a ep es).toList):∃ (k:Nat) (tk:Tok),e = ((k:Int),.int (k:Int) tk)/\k ∈ ks/\k < 6:=by
 have he:=yR.mem_iff.mp he
 obtain ⟨tk,ht⟩:=d.vals e he
 have hk:e.1 ∈ hsh ks:=d.keys ▸ mem_map_of_mem (f:=(·.1)) he
 obtain ⟨k,hk,ek⟩:=mem_map.mp hk
 refine ⟨k,tk,?_,hk,(zaG 6 ks d.sub).2 k hk⟩
 obtain ⟨x,y⟩:=e
 dsimp only at ht ek
 subst ek
 rw [ht]
end
theorem sub_set_set:isSubtype (.type "set") (.type "set") = pure true:=by rw [isSubtype_type];kernel_rfl
end L2
namespace L2
open PySem PySem.Spec PyProof.Rows PySem.W
theorem zC:Slot "set_iterator" "__next__" "set_iterator.__next__":=
 .of (owner:="set_iterator") (n:="__next__") (by rw [typeLookup_type,builtinLookup_eq_fast];kernel_rfl) (by decide +kernel) (by decide +kernel) (by decide +kernel)
  (by first | exact .inl (by decide +kernel) | exact .inr (by decide +kernel)) (by rw [isSubtype_type];kernel_rfl)
theorem za8:Slot "set_iterator" "__iter__" "set_iterator.__iter__":=
 .of (owner:="set_iterator") (n:="__iter__") (by rw [typeLookup_type,builtinLookup_eq_fast];kernel_rfl) (by decide +kernel) (by decide +kernel) (by decide +kernel)
  (by first | exact .inl (by decide +kernel) | exact .inr (by decide +kernel)) (by rw [isSubtype_type];kernel_rfl)
theorem za2:entryFor table "set_iterator.__next__" = some Builtin.«set_iterator.__next__»:=entryFor_of_tree (by kernel_rfl)
theorem zcP:Manifest.owners.lookup (String.ofList ['r','o','t','a','r','e','t','i','_','t','e','s'].reverse) = some Manifest.sig_set_iterator:=by kernel_rfl
theorem zbg (a:Value):argsOk "set_iterator.__next__" ⟨[a],[]⟩:=by
 unfold argsOk;rw [signature?_of (id:="set_iterator.__next__") (n:=['_','_','t','x','e','n','_','_']) (o:=['r','o','t','a','r','e','t','i','_','t','e','s']) (by kernel_rfl) zcP];kernel_rfl
theorem zdj:entryFor table "set_iterator.__iter__" = some Builtin.«dict_keyiterator.__iter__»:=
 entryFor_alias (id':="dict_keyiterator.__iter__") (by kernel_rfl) rfl (by decide +kernel) (by kernel_rfl)
theorem zdF (a:Value):argsOk "set_iterator.__iter__" ⟨[a],[]⟩:=by
 unfold argsOk;rw [signature?_of (id:="set_iterator.__iter__") (n:=['_','_','r','e','t','i','_','_']) (o:=['r','o','t','a','r','e','t','i','_','t','e','s']) (by kernel_rfl) zcP];kernel_rfl
theorem zd9:entryFor table "set.__iter__" = some Builtin.«frozenset.__iter__»:=
 entryFor_alias (id':="frozenset.__iter__") (by kernel_rfl) rfl (by decide +kernel) (by kernel_rfl)
def IsSetIter (h:Heap) (it a:Addr) (sl i n ep:Nat):Prop:=∃ o,h.get? it = some o/\o.cls = .type "set_iterator"/\o.data = .fields #[.int sl 0,.int i 0,.ref a,.int n 0,.int ep 0]
variable {it:Addr} {ep i n sl:Nat} {s:Shared}
theorem IsSetIter.typeIs {a:Addr} (x:IsSetIter s.heap it a sl i n ep):s.TypeIs (.ref it) "set_iterator":=let ⟨o,ho,hc,_⟩:=x;⟨o,ho,hc⟩
theorem IsSetIter.keep {h h':Heap} {a:Addr} (x:IsSetIter h it a sl i n ep) (k:∀ o,h.get? it = some o->h'.get? it = some o):IsSetIter h' it a sl i n ep:=let ⟨o,ho,r⟩:=x;⟨o,k _ ho,r⟩
noncomputable def slN (ks:List Nat) (i:Nat):Nat:=if i = 0 then 0 else ks.getD (i - 1) 0 + 1
variable {ks:List Nat}
theorem zfP (h:ks ∈ subs 6) (hi:i<=ks.length):SetTable.below ks.toArray (slN ks i) = i:=by
 have:((subs 6).all fun ks=>(List.range (ks.length + 1)).all fun i=>SetTable.below ks.toArray (slN ks i) == i) = true:=by decide +kernel
 exact eq_of_beq (all_eq_true.mp (all_eq_true.mp this ks h) i (mem_range.mpr (by omega)))
variable {e:Int × Value} {Q:Option (Value × Nat)->Shared->Prop}
section
variable {prog:Program} {w:World} {A:Around} {E:Value->Shared->Prop} {a:Addr} {m:Nat} {o:Obj} {es:Array (Int × Value)} {t:SetTable}
theorem ze6 (ho:s.heap.get? a = some o) (hd:o.data = .set es ep t) (d:DTab w es t ks m) (hs:qH w = true\/sl = slN ks i) (he:(yE w a ep es)[i]? = some e)
 (h:∀ sl',qH w = true\/sl' = slN ks (i + 1)->Q (some (e.2,sl')) s):wpAny (model prog w) A (setNext a sl i ep) Q E s:=by
 unfold setNext
 refine Q1 (wpAny_setState_of ho hd d.fits ?_)
 dsimp only
 unfold setsByText
 refine Q1 (Q1 (wpAny_askSetting (Qc ?_)))
 show wpAny _ _ (if w.params.followText "set-order" = true then _ else _) _ _ _
 by_cases q:w.params.followText "set-order" = true
 ·rw [if_pos q,if_neg (by simp)]
  refine Q1 (zew ho hd d ?_)
  rw [he]
  exact Qc (h sl (.inl q))
 ·have hsl:=hs.resolve_left q
  have hl:t.led = true:=d.led.resolve_left q
  unfold yE qH at he
  rw [if_neg q] at he
  have hi:i < es.size:=by
   rcases Nat.lt_or_ge i es.size with z | z
   ·exact z
   ·rw [Array.getElem?_eq_none z] at he;cases he
  rw [if_neg q]
  refine wpAny_ite_split (fun hab=>?_) fun _=>?_
  ·have hab:(!t.plain && decide (es.size > 1)) = true:=hab
   rw [d.plain] at hab
   cases hab
  ·refine Q1 ?_
   wp_delta
   rw [if_neg (by rw [hl];simp)]
   refine Qc ?_
   have hb:SetTable.below t.place sl = i:=by rw [d.place,hsl];exact zfP d.sub (by rw [← d.size];omega)
   obtain ⟨k,hk⟩:∃ k,ks[i]? = some k:=⟨ks[i]'(by rw [← d.size];exact hi),Q0 _⟩
   rw [hb,he,d.place,List.getElem?_toArray,hk]
   refine Qc (h (k + 1) (.inr ?_))
   unfold slN
   rw [if_neg (by omega),Nat.add_sub_cancel,List.getD_eq_getElem?_getD,hk]
   rfl
theorem ze7 (ho:s.heap.get? a = some o) (hd:o.data = .set es ep t) (d:DTab w es t ks m) (hs:qH w = true\/sl = slN ks i) (hi:i = es.size) (h:Q none s):wpAny (model prog w) A (setNext a sl i ep) Q E s:=by
 unfold setNext
 refine Q1 (wpAny_setState_of ho hd d.fits ?_)
 dsimp only
 unfold setsByText
 refine Q1 (Q1 (wpAny_askSetting (Qc ?_)))
 show wpAny _ _ (if w.params.followText "set-order" = true then _ else _) _ _ _
 by_cases q:w.params.followText "set-order" = true
 ·rw [if_pos q,if_neg (by simp)]
  refine Q1 (zew ho hd d ?_)
  have hn:(yE w a ep es)[i]? = none:=Array.getElem?_eq_none (by
   have:=(yR (w:=w) (a:=a) (ep:=ep) (es:=es)).length_eq
   simp only [Array.length_toList] at this
   omega)
  rw [hn]
  exact Qc h
 ·have hsl:=hs.resolve_left q
  have hl:t.led = true:=d.led.resolve_left q
  rw [if_neg q]
  refine wpAny_ite_split (fun hab=>?_) fun _=>?_
  ·have hab:(!t.plain && decide (es.size > 1)) = true:=hab
   rw [d.plain] at hab
   cases hab
  ·refine Q1 ?_
   wp_delta
   rw [if_neg (by rw [hl];simp)]
   refine Qc ?_
   have hb:SetTable.below t.place sl = i:=by rw [d.place,hsl];exact zfP d.sub (by rw [← d.size];omega)
   rw [hb,Array.getElem?_eq_none (show es.size<=i by omega)]
   exact Qc h
theorem zgM {Q:Option Value->Shared->Prop} (hit:IsSetIter s.heap it a sl i es.size ep) (ho:s.heap.get? a = some o) (hd:o.data = .set es ep t) (d:DTab w es t ks m) (hs:qH w = true\/sl = slN ks i) (he:(yE w a ep es)[i]? = some e)
 (hQ:∀ sl' h',(qH w = true\/sl' = slN ks (i + 1))->IsSetIter h' it a sl' (i + 1) es.size ep->Heap.SameBut it s.heap h'->Q (some e.2) { s with heap:=h' }):wpAny (model prog w) A (pyNext (.ref it)) Q E s:=by
 obtain ⟨oi,hoi,hci,hdi⟩:=id hit
 unfold pyNext
 refine Q1 (wpAny_attempt (wpAny_callSpecial?_slot (name:=Str.ofString "__next__") hit.typeIs zC
  (wpAny_call_entry zC hit.typeIs za2 ?_ (zbg _))))
 unfold Builtin.«set_iterator.__next__»
 refine Q1 (show wpAny _ _ (pure (Value.ref it,([]:List Value))) _ _ _ from Qc ?_)
 refine Q1 (wpAny_fieldsOf hoi hdi ?_)
 dsimp only
 refine Q1 (wpAny_setEntries_of ho hd d.fits ?_)
 rw [if_neg (by simp)]
 refine Q1 ?_
 rw [Int.toNat_natCast,Int.toNat_natCast,Int.toNat_natCast]
 refine ze6 ho hd d hs he fun sl' hsl'=>?_
 dsimp only
 refine Q1 (wpAny_setField hoi hdi (by simp) ?_)
 have g1:=Heap.get?_update_self (Obj.mapFields (·.setIfInBounds 0 (rawInt (sl':Int)))) hoi (Obj.isFreed_of_fields (Obj.data_mapFields hdi _))
 have g1d:=Obj.data_mapFields hdi (·.setIfInBounds 0 (rawInt (sl':Int)))
 refine Q1 (wpAny_setField (s:={ s with heap:=_ }) g1 g1d (by simp) ?_)
 have g2:=Heap.get?_update_self (Obj.mapFields (·.setIfInBounds 1 (rawInt ((i:Int) + 1)))) g1 (Obj.isFreed_of_fields (Obj.data_mapFields g1d _))
 have g2d:=Obj.data_mapFields g1d (·.setIfInBounds 1 (rawInt ((i:Int) + 1)))
 refine Qc ⟨_,rfl,Qc (hQ sl' _ hsl' ⟨_,g2,?_,?_⟩ ((Heap.SameBut.update ..).trans (Heap.SameBut.update ..)))⟩
 ·rw [Obj.cls_mapFields,Obj.cls_mapFields];exact hci
 ·rw [g2d];simp [rawInt]
theorem zhC {Q:Option Value->Shared->Prop} (hh:A.handled = none) (hit:IsSetIter s.heap it a sl i es.size ep) (ho:s.heap.get? a = some o) (hd:o.data = .set es ep t) (d:DTab w es t ks m) (hs:qH w = true\/sl = slN ks i) (hi:i = es.size)
 (hQ:∀ h',Heap.ExtBut it s.heap h'->Q none { s with heap:=h' }):wpAny (model prog w) A (pyNext (.ref it)) Q E s:=by
 obtain ⟨oi,hoi,hci,hdi⟩:=id hit
 unfold pyNext
 refine Q1 (wpAny_attempt (wpAny_callSpecial?_slot (name:=Str.ofString "__next__") hit.typeIs zC
  (wpAny_call_entry zC hit.typeIs za2 ?_ (zbg _))))
 unfold Builtin.«set_iterator.__next__»
 refine Q1 (show wpAny _ _ (pure (Value.ref it,([]:List Value))) _ _ _ from Qc ?_)
 refine Q1 (wpAny_fieldsOf hoi hdi ?_)
 dsimp only
 refine Q1 (wpAny_setEntries_of ho hd d.fits ?_)
 rw [if_neg (by simp)]
 refine Q1 ?_
 rw [Int.toNat_natCast,Int.toNat_natCast,Int.toNat_natCast]
 refine ze7 ho hd d hs hi ?_
 dsimp only
 refine Q1 (wpAny_setField hoi hdi (by simp) ?_)
 refine Q1 ?_
 simp only [newExc,newTuple]
 refine Q1 (Qp ?_ (by size_fits))
 refine Q1 (m:=firstArgMember _ _) (wpAny_of_eq (a:=Value.none) (by first | rfl | (simp only [firstArgMember];rfl)) ?_)
 refine Qp ?_ (by size_fits)
 simp only [raiseNew]
 refine Q1 (wpAny_handled ?_)
 rw [show A.in1.handled = none from hh]
 refine Q1 (Qc (wpAny_throw ?_))
 refine Q1 (wpAny_isInstance (T:="StopIteration") (b:=true) ⟨_,Qi _ rfl,rfl⟩ isSubtype_stop ?_)
 exact Qc (hQ _ (((Heap.SameBut.update ..).extBut.push _).push _))
theorem zgT {Q:Value->Shared->Prop} (ho:s.heap.get? a = some o) (hx:o.ExactSet) (hd:o.data = .set es ep t) (d:DTab w es t ks m)
  (hQ:Q (.ref s.heap.objs.size) { s with heap:=s.heap.push { cls:=.type "set_iterator",data:=.fields #[.int 0 0,.int 0 0,.ref a,.int es.size 0,.int ep 0] } }):wpAny (model prog w) A (pyIter (.ref a)) Q E s:=by
 have hT:s.TypeIs (.ref a) "set":=⟨o,ho,hx.1⟩
 refine wpAny_pyIter_slot hT PySem.F.slot_set_iter (wpAny_call_entry PySem.F.slot_set_iter hT zd9 ?_ (PySem.F.args_set_iter_1 _))
 unfold Builtin.«frozenset.__iter__»
 refine Q1 (show wpAny _ _ (pure a) _ _ _ from Qc ?_)
 unfold Builtin.Frozenset.sizeOf
 refine Q1 (Q1 (wpAny_setEntries_of ho hd d.fits (Qc ?_)))
 unfold setDrawn
 refine Q1 (Q1 (wpAny_setState_of ho hd d.fits ?_))
 unfold setsByText
 refine Q1 (Q1 (wpAny_askSetting (Qc (Qc ?_))))
 refine wpAny_ite_split (fun hab=>?_) fun _=>?_
 ·have hab:(!(w.params.followText "set-order") && (!t.plain && decide (es.size > 1))) = true:=hab
  rw [d.plain,Bool.not_true,Bool.false_and,Bool.and_false] at hab
  cases hab
 ·refine Q1 (Qc ?_)
  refine Q1 (wpAny_setEpoch_of ho hd d.fits ?_)
  refine Q1 (Qp ?_)
  exact Qc ⟨_,rfl,"set_iterator",_,⟨_,Qi _ rfl,rfl⟩,zC.lookup,hQ⟩
theorem zfg {Q:Value->Shared->Prop} (hit:IsSetIter s.heap it a sl i n ep) (hQ:Q (.ref it) s):wpAny (model prog w) A (pyIter (.ref it)) Q E s:=by
 refine wpAny_pyIter_slot hit.typeIs za8 (wpAny_call_entry za8 hit.typeIs zdj ?_ (zdF _))
 show wpAny _ _ (ret (.ref it)) _ _ s
 exact Qc ⟨_,rfl,"set_iterator",_,hit.typeIs,zC.lookup,hQ⟩
theorem zjd {Q:Bool->Shared->Prop} (hT:s.TypeIs (.ref a) "set") (h:Q false s):wpAny (model prog w) A (Builtin.List.listLengthHint (.ref a)) Q E s:=by
 unfold Builtin.List.listLengthHint
 refine Q1 (wpAny_specialOf hT PySem.F.slot_set_len.lookup ?_)
 generalize hid:("set.__len__":String) = id0
 wp_delta
 rw [show splitId id0 = some ("set","__len__") from by subst hid;decide +kernel]
 subst hid
 refine Q1 (wpAny_isInstance (T:="set") (b:=true) hT sub_set_set ?_)
 refine wpAny_ite_split (fun hab=>absurd hab (by decide)) (fun _=>?_)
 refine wpAny_ite_split (fun _=>?_) (fun hab=>absurd (by decide +kernel) hab)
 refine Q1 (wpAny_typeOf hT ?_)
 exact Qc h
theorem zhv (hh:A.handled = none) (I:Addr) (hne:a ≠ I) (hx:o.ExactSet) (hd:o.data = .set es ep t) (d:DTab w es t ks m) :
  Walks prog w A I [I,a] [I] es.size (fun i v=>∃ e,(yE w a ep es)[i]? = some e/\e.2 = v) (fun i h=>h.get? a = some o/\∃ sl,IsSetIter h I a sl i es.size ep/\(qH w = true\/sl = slN ks i)) where
 sub:=fun b hb=>by simp at hb;simp [hb]
 frame:=fun _ _ _ st hk=>⟨hk a (by simp) _ st.1,let ⟨sl,x,y⟩:=st.2;⟨sl,x.keep fun o e=>hk I (by simp) o e,y⟩⟩
 item:=fun i s Q E hi st hQ=>by
  obtain ⟨ho,sl,hit,hs⟩:=st
  have hz:(yE w a ep es).size = es.size:=by
   have:=(yR (w:=w) (a:=a) (ep:=ep) (es:=es)).length_eq
   simpa only [Array.length_toList] using this
  obtain ⟨e,he⟩:∃ e,(yE w a ep es)[i]? = some e:=⟨_,Array.getElem?_eq_getElem (by rw [hz];exact hi)⟩
  refine zgM hit ho hd d hs he fun sl' h' hsl' hit' sb=>?_
  exact hQ e.2 h' s.toks ⟨e,he,rfl⟩ ⟨(sb.2 a hne).trans ho,sl',hit',hsl'⟩ fun b o hb e=>(sb.2 b fun h=>hb (by simp [h])).trans e
 done:=fun s Q E st hQ=>by
  obtain ⟨ho,sl,hit,hs⟩:=st
  exact zhC hh hit ho hd d hs rfl fun h' he'=>hQ h' s.toks fun b o hb e=>he' b o (fun h=>hb (by simp [h])) e
 self:=fun _ _ _ _ st hQ=>by
  obtain ⟨ho,sl,hit,hs⟩:=st
  exact zfg hit hQ
theorem zkK (hx:o.ExactSet) (hd:o.data = .set es ep t) (d:DTab w es t ks m):KdlSrc prog w "set" a a es.size (fun i v=>∃ e,(yE w a ep es)[i]? = some e/\e.2 = v) (fun h=>h.get? a = some o) where
 type:=fun s ho=>⟨o,ho,hx.1⟩
 there:=fun _ ho=>⟨Qb ho,Qb ho⟩
 keep:=fun _ _ ho hk=>hk a (.inl rfl) _ ho
 notList:=by decide
 notTuple:=by decide
 hint:=fun _ _ s _ ho hq=>zjd ⟨o,ho,hx.1⟩ hq
 iter:=fun _ _ hh ho=>⟨_,_,(fun _ _ hq=>zgT ho hx hd d hq),zhv hh _ (Qh (Qb ho)) hx hd d,⟨Q2 _ ho,0,⟨_,Qi _ rfl,rfl,rfl⟩,.inr rfl⟩⟩
end
end L2
namespace L2
open PySem PySem.Spec PySem.W PyProof.Rows PySem.Calls
noncomputable def zeW (w:World) (a:Addr) (ks:List Nat):HO:=.ext fun h=>∃ m,DSet w h a ks m
variable {H:Hp}
theorem ziN {P:Program} {w:World} {h:Heap} {a:Addr} {ks:List Nat} {m:Nat} (d:DSet w h a ks m):ObjOk P w H h a (zeW w a ks):=by
 obtain ⟨o,es,ep,t,ho,r⟩:=id d
 exact ⟨⟨m,d⟩,⟨o,ho⟩,fun h1 h2 ⟨m',x⟩ k=>⟨m',x.keep k⟩⟩
theorem zme {ns:List Nat} {i:Nat}:(hsh ns)[i]? = (ns[i]?).map fun n:Nat=>(n:Int):=by unfold hsh;rw [Q9]
section
variable {X:Cx}
theorem Inv.letEq {pins:List (Addr × Obj)} {σ:St} {H':Hp} {s:Shared} {e:Addr} {φ:Heap->Prop} (I:Inv X pins σ H s) (he:H e = some (.ext φ)) (q:zan H e = H'):Inv X pins σ H' s:=q ▸ I.let he
noncomputable def znE (w:World):List V->Hp->VK->Prop:=fun xs H Q=>∃ (a:Addr) (ks:List Nat),xs = [.ref a]/\H a = some (zeW w a ks)/\∀ l,H l = none->Q (.ref l) (upd (zan H a) l (.lst ((hsh ks).map V.int)))
theorem zeE:∀ {xs ys:List Int},xs.Pairwise (·<=·)->ys.Pairwise (· < ·)->xs.Perm ys->xs = ys:=fun h1 h2 p=>
 p.eq_of_pairwise (le:=(·<=·)) (fun a b _ _ h h'=>Int.le_antisymm h h') h1 (h2.imp fun h=>Int.le_of_lt h)
theorem zir (hc:X.calm = true):CallR X (.builtin "sorted") (znE X.w):=by
 intro pins s σ H xs us Q I r h
 obtain ⟨a,ks,rfl,ha,q⟩:=h
 obtain ⟨u,rfl,rx⟩:=vals1 r
 cases rx
 obtain ⟨⟨m,o,es,ep,t,ho,hx,hd,dt⟩,_⟩:=I.hok a _ ha
 have h6:=z5 dt.sub
 have hz:es.size<=sizeLine:=by rw [dt.size];exact Qg h6 (by decide)
 refine PySem.Calls.call_function_entry kind_sorted plain_sorted entry_sorted (args_sorted1 _) (show wpAny _ _ (Builtin.«sorted» _) _ _ _ from ?_)
 unfold Builtin.«sorted»
 refine Q1 (m:=checkCount "sorted" 1 1 _) (Qc (Q1 (zdC (zkK hx hd dt) (I.ok.hd hc) ho hz fun h' tk acc hk hsz hacc=>?_)))
 have hla:acc.toList.length = ks.length:=by rw [Array.length_toList,hacc.1,dt.size]
 refine Q1 (wpAny_newList ?_ (by rw [hla];exact Qg h6 (by decide)))
 have hwl:(yE X.w a ep es).toList.length = ks.length:=by rw [yR.length_eq,Array.length_toList,dt.size]
 have hI:IntsAre acc.toList ((yE X.w a ep es).toList.map (·.1)):=by
  refine zcr (zag (by rw [Qe,Qe,hla,hwl]) fun i v w' e1 e2=>?_)
  obtain ⟨e,e3,e4⟩:=hacc.2 i w' (by simpa using e2)
  rw [Q9,Q9,Array.getElem?_toList,e3] at e1
  cases e1
  obtain ⟨k,tk',ek,_⟩:=zhw dt (a:=a) (ep:=ep) (e:=e) (by rw [← Array.getElem?_toList] at e3;exact Q8 e3)
  subst ek
  subst e4
  exact ⟨_,rfl⟩
 have hoL:(h'.push (seqObj "list" acc.toList.toArray 0)).get? h'.objs.size = some (seqObj "list" acc.toList.toArray 0):=Qi _ rfl
 refine Q1 (wpAny_holding (wpAny_call_entry slot_list_sort ⟨_,hoL,rfl⟩ entry_list_sort (list_sort_tree hoL hI (by omega) fun out ns' a1 a2 a3=>⟨_,rfl,?_⟩) (args_list_sort _)))
 have ens:ns' = hsh ks:=by
  refine zeE a3 ?_ (a2.trans ((yR.map (·.1)).trans (by rw [dt.keys])))
  unfold hsh
  rw [pairwise_map]
  exact (zaG 6 ks dt.sub).1.imp fun h=>by omega
 subst ens
 obtain ⟨e,he⟩:=sortedHeap_at (out:=out) hoL
 have nf:=I.hok.fresh hsz
 have hla':h'.objs.size ≠ a:=fun e=>by rw [e,ha] at nf;cases nf
 have eH:zan (upd H h'.objs.size (.lst ((hsh ks).map V.int))) a = upd (zan H a) h'.objs.size (.lst ((hsh ks).map V.int)):=by
  funext z
  unfold zan upd
  by_cases e:z = h'.objs.size
  ·subst e
   rw [if_pos rfl,if_neg hla',if_pos rfl]
  ·rw [if_neg e,if_neg e]
 refine Qc ⟨_,rfl,?_⟩
 refine ⟨.ref h'.objs.size,_,Inv.letEq (e:=a) (H:=upd H h'.objs.size (.lst ((hsh ks).map V.int))) (I.laid (t':=tk) (fun b o e=>?_) hsz (show ObjOk X.prog X.w _ _ _ (.lst ((hsh ks).map V.int)) from ⟨?_,out.toList,e,zbI a1,?_⟩)) (by rw [yf (Ne.symm hla')];exact ha) eH,rfl,q _ nf⟩
 ·have hb:=Qb (hk b o e)
  show (sortedHeap _ _ _ _).get? b = some o
  rw [sortedHeap_old (Qh hb) (by rw [size_push'];exact Nat.lt_succ_of_lt hb),Heap.get?_push_ne _ _ _ (Qh hb)]
  exact hk b o e
 ·have:=a2.length_eq
  rw [Qe]
  unfold hsh
  rw [Qe]
  exact Qg h6 (by decide)
 ·rw [Array.toArray_toList];exact he
end
end L2
namespace FT
open PySem PySem.Spec PyProof.Rows L2
noncomputable def zdi (f:List T->Mem->Out T):List T->Mem->Out T:=fun ts M=>match f ts M with
 | .ok (.ref a) M'=>match M'[a]? with
  | some (.lst xs)=>@ite _ (M'.take M.length = M/\M.length<=a/\∀ x ∈ xs,T.lt 0 x) (Classical.propDecidable _) (.ok (.lst xs) M) .bad
  | _=>.bad
 | _=>.bad
theorem zgx (f:List T->Mem->Out T):Refines (zdi f) f:=by
 intro ts M t' M1 _ e
 unfold zdi at e
 split at e
 ·rename_i a M' q
  split at e
  ·rename_i xs qa
   split at e
   ·rename_i hc
    cases e
    have hl:M.length<=M'.length:=by
     have:=congrArg List.length hc.1
     rw [Qn] at this
     omega
    refine ⟨_,_,q,Q3 _,hl,hc.1.symm,fun i c e=>.inl e,.ref qa hc.2.1 rfl fun i t u e1 e2=>?_⟩
    rw [e1] at e2
    cases e2
    exact .same ((hc.2.2 t (Q8 e1)).mono (Nat.zero_le _))
   ·cases e
  ·cases e
 ·cases e
theorem zk5 (f:List T->Mem->Out T):∀ ts M C fs M',zdi f ts M ≠ .exn C fs M':=by
 intro ts M C fs M' e
 unfold zdi at e
 split at e
 ·split at e
  ·split at e <;> cases e
  ·cases e
 ·cases e
variable {base:Heap} {N ps:List Str} {P:Program} {st:Stmt} {x:Str} {mg:Str->Option Value} {w:World}
section
variable {K:Frag}
theorem Refines.bad (g:List T->Mem->Out T):Refines (fun _ _=>.bad) g:=fun _ _ _ _ _ e=>by cases e
theorem CalT.bad {k:Nat} (D:Df K mg x st ps) (Sc:FnScope N ps (ze st)):CalT P w K mg base (k + 1) x ps (fun _ _=>.bad):=
 CalT.refine (g:=zj ps.length N.length (fun _ _=>.bad)) (ziy D Sc rfl rfl fun f cdv A outer s H E hr=>fun _ _ _ _ _ _ ⟨_,_,_,_,_,_,_,fin⟩=>fin.elim) (Refines.bad _) (fun _ _ _ _ _ z=>by cases z)
end
noncomputable def zas:T->List T->Mem->Out T:=fun x ts M=>match x,ts with
 | .ref a,[.lst ys]=>match M[a]? with
  | some (.lst xs)=>if xs.length + ys.length < 1000000 then .ok .non (M.set a (.lst (xs ++ ys))) else .bad
  | _=>.bad
 | .ref a,[.ref b]=>match M[a]?,M[b]? with
  | some (.lst xs),some (.lst ys)=>if xs.length + ys.length < 1000000 then .ok .non (M.set a (.lst (xs ++ ys))) else .bad
  | _,_=>.bad
 | _,_=>.bad
noncomputable def zd5 (x:T):List T->Nat->Option Nat
 | [],_=>none
 | y :: ys,n=>if eqS y x = true then some n else zd5 x ys (n + 1)
noncomputable def zdh:T->List T->Mem->Out T:=fun x ts M=>match ts with
 | [y]=>match yq x M with
  | some xs=>if (zV y && xs.all zV) = true then (match zd5 y xs 0 with
   | some n=>.ok (.int (n:Int)) M
   | none=>.bad) else .bad
  | none=>.bad
 | _=>.bad
theorem zeu {x:T}:∀ {ys:List T} {k n:Nat},zd5 x ys k = some n->k<=n/\n - k < ys.length/\(∀ y,ys[n - k]? = some y->eqS y x = true)/\∀ (m:Nat) y,m < n - k->ys[m]? = some y->eqS y x = false
 | [],k,n,h=>by cases h
 | y :: ys,k,n,h=>by
  unfold zd5 at h
  split at h
  ·rename_i e
   cases h
   refine ⟨Q3 _,by simp,fun z hz=>?_,fun m z hm=>absurd hm (by omega)⟩
   simp at hz
   rw [← hz];exact e
  ·rename_i e
   obtain ⟨h1,h2,h3,h4⟩:=zeu h
   refine ⟨by omega,by rw [Qm];omega,fun z hz=>?_,fun m z hm hz=>?_⟩
   ·rw [show n - k = n - (k + 1) + 1 by omega,List.getElem?_cons_succ] at hz
    exact h3 z hz
   ·cases m with
    | zero=>simp at hz;rw [← hz];simpa using e
    | succ m=>rw [List.getElem?_cons_succ] at hz;exact h4 m z (by omega) hz
variable {X:Cx} {XE:XK}
section
variable {Cs:List Addr} {f:Str}
theorem zhT (hu:X.A.units + 64 < cLine):MtR X "list.index" (lMt XE X.K zdh):=by
 intro pins s σ H x xs v us Q I rx rs ⟨S,⟨tx,ts⟩,e,m,⟨r1,r2⟩,fin⟩
 subst e
 replace r1:Rep X.K S tx x:=r1
 replace r2:Reps X.K S ts xs:=r2
 replace fin:Fin XE (Rep X.K) X.K S (zdh tx ts S.M) Q:=fin
 unfold zdh at fin
 split at fin
 ·rename_i y
  split at fin
  ·rename_i ys q
   split at fin
   ·rename_i hs
    split at fin
    ·rename_i n hn
     rw [Qo] at hs
     obtain ⟨p,vs,rfl,hq,rs'⟩:=zq m r1 q
     obtain ⟨w1,ws,rfl,h1,h2⟩:=r2.consT
     cases h2.nilT
     cases rs with | cons a1 a2=>
     cases a2
     cases rx
     obtain ⟨its,rv,pl,hz⟩:=I.list hq
     obtain ⟨i1,i2,i3,i4⟩:=zeu hn
     rw [Nat.sub_zero] at i2 i3 i4
     obtain ⟨b1,b2⟩:=zho h1 hs.1 rs' hs.2
     have fx:=qz h1 hs.1
     have hlen:=rv.length
     have hys:=rs'.1
     have val:∀ (k:Nat) (hk:k < its.length),∃ y',ys[k]? = some y'/\eqU w1 its[k] = eqS y' y:=fun k hk=>by
      obtain ⟨y',hy'⟩:∃ y',ys[k]? = some y':=⟨ys[k],Q0 (by omega)⟩
      obtain ⟨v',hv',rv'⟩:=rs'.get hy'
      obtain ⟨u',hu',ru'⟩:=rv.get hv'
      rw [Q0 hk] at hu'
      cases hu'
      have sy:zV y' = true:=all_eq_true.mp hs.2 y' (Q8 hy')
      exact ⟨y',hy',by rw [zfz ru' (qz rv' sy),zcJ rv' h1 sy hs.1]⟩
     obtain ⟨o,c,ho,hcl,hdi,hda⟩:=pl
     obtain ⟨cls,dict,data,slots⟩:=o
     dsimp only at hcl hdi hda
     subst hcl;subst hdi;subst hda
     have hnl:n < its.length:=by omega
     refine call_meets PySem.F.slot_list_index ⟨_,ho,rfl⟩ PySem.F.entry_list_index (PySem.F.args_list_index_2 _ _) (SeqAt.list_indexAt p its.toArray c none slots _ (eqU w1) n (by simpa using hnl) (by have:=zaW;rw [hlen] at hz;omega) ?_ ?_) ⟨ho,fun w hw=>zbV a1 fx rv b1 w (by simpa using hw),⟨.int (n:Int),S.H,I.tok _,⟨_,rfl⟩,fin S _ rfl (.refl m) (.int _)⟩⟩
     ·obtain ⟨y',hy',e'⟩:=val n hnl
      simp only [getElem_toArray]
      rw [e'];exact i3 y' hy'
     ·intro k hk hk2
      have hk':k < its.length:=by simpa using hk
      obtain ⟨y',hy',e'⟩:=val k hk'
      simp only [getElem_toArray]
      rw [e'];exact i4 k y' hk2 hy'
    ·exact fin.elim
   ·exact fin.elim
  ·exact fin.elim
 ·exact fin.elim
end
theorem zhW (l:Addr) (items:Array Value) (n:Nat) (b:Addr) (items2:Array Value) (n2:Nat) (dd:Option Addr) (sl:Array (Option Value)) (hc0:¬(!items.isEmpty && Builtin.List.listTooLong (items.size + items2.size)) = true) (hc1:items.size<=sizeLine) (hs2:items.size + items2.size<=sizeLine + 1) :
  Meets (Builtin.«list.extend» ⟨[.ref l,.ref b],[]⟩) (fun _ R s=>s.heap.get? l = some { cls:=.type "list",dict:=none,data:=.seq items n,slots:=#[] }/\s.heap.get? b = some { cls:=.type "list",dict:=dd,data:=.seq items2 n2,slots:=sl }/\R (.ok (.ret Value.none)) { s with heap:=s.heap.update l (Obj.mapSeq fun x=>x ++ items2),toks:=s.toks }):=
 .of_wp fun prog w A R s h=>by
  obtain ⟨hp,g,d,tk,os⟩:=s;obtain ⟨hl,hb,h⟩:=h;have f1:=AutoSeq1.idx_int;have f2:=AutoSeq1.sub_tuple_tuple;have f3:=AutoSeq1.sub_list_list;have f4:=AutoSeq1.sub_tuple_list;have f5:=AutoSeq1.sub_list_tuple
  have hz':(items ++ items2).size<=sizeLine + 1:=by rw [Array.size_append];exact hs2
  wp_walk using (wpAny_updateSeq hl rfl (hz:=hc1) (_hz':=hz')),AutoSeq1.wpAny_loadPart' hl,AutoSeq1.wpAny_loadPart' hb;exact ⟨_,rfl,h⟩
section
noncomputable def zmU (K:Frag):V->List V->Hp->VK->Prop:=fun x vs H Q=>∃ l b xs zs,x = .ref l/\vs = [.ref b]/\H l = some (.lst xs)/\SqL K H b zs/\xs.length + zs.length<=sizeLine/\Q .non (upd H l (.lst (xs ++ zs)))
theorem zgq:MtM X "list.extend" (zmU X.K):=by
 intro pins s σ H x vs v us Q I rx rv h
 obtain ⟨l,b,xs,zs,rfl,rfl,hH,hB,hz,q⟩:=h
 cases rx
 obtain ⟨u,rfl,ru⟩:=rv.one
 cases ru
 obtain ⟨z,its,n,r,hl,e⟩:=I.lstM hH
 obtain ⟨its2,r2,pl2,z2⟩:=I.list hB
 obtain ⟨⟨cls2,dd2,data2,sl2⟩,n2,ho2,hc2,hdi2,hd2⟩:=pl2
 simp only at hc2 hd2
 subst hc2 hd2
 have hl2:=r2.length
 have hsz:its.toArray.size + its2.toArray.size<=sizeLine:=by rw [Qf,Qf];omega
 have hlong:¬ (!its.toArray.isEmpty && Builtin.List.listTooLong (its.toArray.size + its2.toArray.size)) = true:=by
  rw [zi5 hsz,Bool.and_false]
  exact Q4
 refine call_meets F.slot_list_extend ⟨_,e,rfl⟩ F.entry_list_extend (F.args_list_extend_2 _ _)
  (zhW l its.toArray n b its2.toArray n2 dd2 sl2 hlong (by rw [Qf];omega) (by omega)) ⟨e,ho2,?_⟩
 refine ⟨.non,_,I.lset (its':=its ++ its2) hH e (by simp) (r.append r2) ?_,rfl,q⟩
 rw [Qk]
 omega
theorem z8:MtR X "list.extend" (lMt XE X.K zas):=by
 intro pins s σ H x xs v us Q I rx rs ⟨S,⟨tx,ts⟩,e,m,⟨r1,r2⟩,fin⟩
 subst e
 replace r1:Rep X.K S tx x:=r1
 replace r2:Reps X.K S ts xs:=r2
 replace fin:Fin XE (Rep X.K) X.K S (zas tx ts S.M) Q:=fin
 have hsl:(1000000:Nat)<=sizeLine:=by rw [sizeLine_eq];exact Nat.le_of_ble_eq_true rfl
 unfold zas at fin
 split at fin
 ·rename_i a ys
  split at fin
  ·rename_i xs0 q
   split at fin
   ·rename_i hlt
    cases r1 with
    | ref ha=>
    obtain ⟨w1,ws,rfl,h1,h2⟩:=r2.consT
    cases h2.nilT
    obtain ⟨us4,h4,rr⟩:=m.cell _ _ q
    cases h1 with
    | @lst _ p vs h l r=>
    have rr2:Reps X.K S ys vs:=⟨l,r⟩
    have st:=zcD m q (rr.app rr2)
    refine zgq pins s σ S.H (.ref (S.α a)) [.ref p] v us Q I rx rs ⟨S.α a,p,us4,vs,rfl,rfl,h4,zcq h,by rw [← rr.1,← l];omega,?_⟩
    exact fin (S.put a (.lst (us4 ++ vs)) (.lst (xs0 ++ ys))) .non rfl st .non
   ·exact fin.elim
  ·exact fin.elim
 ·rename_i a b
  split at fin
  ·rename_i xs0 ys q qb
   split at fin
   ·rename_i hlt
    cases r1 with
    | ref ha=>
    obtain ⟨w1,ws,rfl,h1,h2⟩:=r2.consT
    cases h2.nilT
    obtain ⟨us4,h4,rr⟩:=m.cell _ _ q
    obtain ⟨us5,h5,rr5⟩:=m.cell _ _ qb
    cases h1 with
    | ref hb=>
    have st:=zcD m q (rr.app rr5)
    refine zgq pins s σ S.H (.ref (S.α a)) [.ref (S.α b)] v us Q I rx rs ⟨S.α a,S.α b,us4,us5,rfl,rfl,h4,.inl (.inl h5),by rw [← rr.1,← rr5.1];omega,?_⟩
    exact fin (S.put a (.lst (us4 ++ us5)) (.lst (xs0 ++ ys))) .non rfl st .non
   ·exact fin.elim
  ·exact fin.elim
 ·exact fin.elim
end
structure WE (X:Cx) (XE:XK) (e:Expr) (f:Ev->Mem->Out T):Prop where
 pe:GE X XE e f
structure WT (X:Cx) (XE:XK) (e:Expr) (f:Ev->Mem->Out Bool):Prop where
 pe:GT X XE e f
structure WW (X:Cx) (XE:XK) (e:Expr) (f:Ev->Mem->Out Bool):Prop where
 pe:GW X XE e f
structure WA (X:Cx) (XE:XK) (e:List Expr) (f:Ev->Mem->Out (List T)):Prop where
 pe:GA X XE e f
structure WSs (X:Cx) (XE:XK) (e:List Stmt) (f:Ev->Mem->Out Fl):Prop where
 pe:GSs X XE e f
structure WS (X:Cx) (XE:XK) (e:Stmt) (f:Ev->Mem->Out Fl):Prop where
 pe:GS X XE e f
structure WL (X:Cx) (XE:XK) (e:Expr) (f:Ev->Mem->Out (List T)):Prop where
 pe:GL X XE e f
structure WGs (X:Cx) (XE:XK) (e:List Expr) (f:List T->Ev->Mem->Out Ev):Prop where
 pe:GGs X XE e f
structure WG (X:Cx) (XE:XK) (e:Expr) (f:T->Ev->Mem->Out Ev):Prop where
 pe:GG X XE e f
structure WO (X:Cx) (XE:XK) (e:Option Expr) (f:Ev->Mem->Out (Option Int)):Prop where
 pe:GO X XE e f
structure WI (X:Cx) (XE:XK) (tg iter:Expr) (f:Ev->Mem->Out (List T)):Prop where
 pe:GI X XE tg iter f
structure WX (X:Cx) (e:List Stmt) (f:Ev->Mem->Out Fl):Prop where
 pe:GX X e f
structure WIG (X:Cx) (XE:XK) (tg iter:Expr) (f:Ev->Mem->Out (List T × Gd)):Prop where
 pe:GIG X XE tg iter f
variable {op:CmpOp} {ga:Ev->Mem->Out (List T)} {tf:Ev->Mem->Out Bool} {f g h:Ev->Mem->Out T} {c e:Expr} {es:List Expr} {i:Nat} {pos:Pos} {o:T->T->Mem->Out T}
section
variable {a b:Expr}
theorem zb (h:PE X e (zgK i)):WE X XE e (yc i):=⟨PE.imp h fun σ H Q h9=>by
 obtain ⟨S,στ,_,e,m,ev,_,fin⟩:=h9
 replace fin:Fin XE (Rep X.K) X.K S (yc i στ S.M) Q:=fin
 unfold yc at fin
 cases q:στ[i]? with
 | none=>rw [q] at fin;exact fin.elim
 | some o=>
  cases o with
  | none=>rw [q] at fin;exact fin.elim
  | some t=>
   rw [q] at fin
   obtain ⟨v,e2,r⟩:=ev.2 i t q
   exact ⟨v,e2,by rw [← e];exact fin S v rfl (.refl m) r⟩⟩
theorem zc {i j}:WE X XE (.Constant (.int i) j pos) (eC (.int i)):=⟨za0 zhO fun _=>.int _⟩
theorem ze0 {i j}:WE X XE (.Constant (.bool i) j pos) (eC (.bl i)):=⟨za0 zjG fun _=>.bl _⟩
theorem zcw {j}:WE X XE (.Constant .none j pos) (eC .non):=⟨za0 zlP fun _=>.non⟩
theorem zB {i j}:WE X XE (.Constant (.str i) j pos) (eC (.str i)):=⟨za0 zlO fun _=>.str _⟩
theorem zeo {i:Int} (hg:Gl X x) (hm:∃ t,X.mg x = some (.int i t)) (hd:(x == ("__debug__":Str)) = false:=by decide):WE X XE (.Name x pos) (eC (.int i)):=by
 refine ⟨?_⟩
 obtain ⟨t,hm⟩:=hm
 exact za0 (zkn (v:=.int i) hg hm ⟨_,rfl⟩ hd) fun _=>.int _
theorem qg {op:Operator} (ho:OpR X (binaryOp op) (lR2 XE X.K o)) (ha:WE X XE a f) (hb:WE X XE b g):WE X XE (.BinOp a op b pos) (eOp o f g):=by
 have ha:=ha.pe
 have hb:=hb.pe
 exact ⟨PE.imp (zm1 ho ha hb) fun _ _ _ h=>zeV h⟩
theorem zcx (ho:OpR X (compareOp op) (lR2 XE X.K o)) (ha:WE X XE a f) (hb:WE X XE b g) (hm:behindInMarks op b = false):WE X XE (.Compare a [op] [b] pos) (eOp o f g):=by
 have ha:=ha.pe
 have hb:=hb.pe
 exact ⟨PE.imp (zkq ho ha hb hm) fun _ _ _ h=>zeV h⟩
theorem zlj {op:UnaryOp} {o:T->Mem->Out T} (ho:L2.UnR X (unaryOp op) (lR1 XE X.K o)) (ha:WE X XE a f):WE X XE (.UnaryOp op a pos) (eUn o f):=by
 have ha:=ha.pe
 exact ⟨PE.imp (zm0 ho ha) fun σ H Q h=>
  LN.mono (LN.bind (f:=fun _ σ M=>f σ M) (k:=fun _ x σ M1=>o x M1) (RB:=Rep X.K) h) fun v H1 h2=>by
   obtain ⟨S,στ,a,e,m,ev,ra,fin⟩:=h2
   exact ⟨S,a.2,e,m,ra.2,fin⟩⟩
theorem qf (ho:IxR X (lR2 XE X.K o)) (ha:WE X XE a f) (hb:WE X XE b g) (hs:zek b):WE X XE (.Subscript a b pos) (eOp o f g):=by
 have ha:=ha.pe
 have hb:=hb.pe
 exact ⟨PE.imp (zm2 ho ha hb hs) fun _ _ _ h=>zeV h⟩
theorem zf8 (ha:WE X XE e f) (he:∀ whole,isTrue e X.env whole = (do let v ← whole;standAt e.pos;holding [v] (truthy v)):=by intro _;rfl):WT X XE e (zJ f):=by
 have ha:=ha.pe
 exact ⟨PT.imp (zlC ha he) fun σ H Q h=>
  LN.mono (LN.bind (f:=fun _ σ M=>f σ M) (k:=fun _ x σ M1=>blT x M1 fun b M2=>.ok b M2) (RB:=Rep X.K) h) fun v H1 h2=>by
   obtain ⟨S,στ,a,e,m,ev,ra,fin⟩:=h2
   obtain ⟨b,e1,_,fin⟩:=zjN ra.2 fin
   exact ⟨b,e1,by rw [← e];exact fin S b rfl (.refl m) rfl⟩⟩
theorem zF (ho:OpR X (compareOp op) (lR2 XE X.K o)) (ha:WE X XE a f) (hb:WE X XE b g) (hm:behindInMarks op b = false):WT X XE (.Compare a [op] [b] pos) (zJ (eOp o f g)):=by
 have ha:=ha.pe
 have hb:=hb.pe
 exact ⟨PT.imp (zkb ho ha hb hm) fun σ H Q h=>by
  have h1:=LN.bind (f:=fun _ σ M=>eOp o f g σ M) (k:=fun _ x σ M1=>blT x M1 fun b M2=>.ok b M2) (RB:=Rep X.K) h
  refine zeV (LN.mono h1 fun v H1 h2=>?_)
  obtain ⟨S,στ,a,e,m,ev,ra,fin⟩:=h2
  obtain ⟨b,e1,_,fin⟩:=zjN ra.2 fin
  exact ⟨b,e1,by rw [← e];exact fin S b rfl (.refl m) rfl⟩⟩
variable {tg:Ev->Mem->Out Bool} {rest:List Expr}
theorem zcZ (ha:WT X XE a tf):WW X XE (.BoolOp .And [a] pos) tf:=by
 have ha:=ha.pe
 exact ⟨zj5 ha⟩
theorem zjR (ha:WT X XE a tf):WW X XE (.BoolOp .Or [a] pos) tf:=by
 have ha:=ha.pe
 exact ⟨zlA ha⟩
theorem zcv (ha:WT X XE a tf) (hb:WW X XE (.BoolOp .And (b :: rest) pos) tg):WW X XE (.BoolOp .And (a :: b :: rest) pos) (zcy tf tg):=by
 have ha:=ha.pe
 have hb:=hb.pe
 exact ⟨PW.imp (zlB ha hb) fun σ H Q h=>
  LN.mono (tif (tf:=tf) (tg:=tg) (p:=fun c σ M1=>if c = true then tg σ M1 else .ok false M1) h) fun c H1 h1=>by
   cases c with
   | true=>exact (if_pos rfl).mpr h1
   | false=>exact (if_neg Q4).mpr (zeQ h1)⟩
theorem zli (ha:WT X XE a tf) (hb:WW X XE (.BoolOp .Or (b :: rest) pos) tg):WW X XE (.BoolOp .Or (a :: b :: rest) pos) (ziK tf tg):=by
 have ha:=ha.pe
 have hb:=hb.pe
 exact ⟨PW.imp (zmY ha hb) fun σ H Q h=>
  LN.mono (tif (tf:=tf) (tg:=tg) (p:=fun c σ M1=>if c = true then .ok true M1 else tg σ M1) h) fun c H1 h1=>by
   cases c with
   | true=>exact (if_pos rfl).mpr (zeQ h1)
   | false=>exact (if_neg Q4).mpr h1⟩
theorem WW.gt (h:WW X XE e tf):WT X XE e tf:=⟨GW.gt h.pe⟩
theorem zf9 (ha:WT X XE a tf):WT X XE (.UnaryOp .Not a pos) (zdo tf):=by
 have ha:=ha.pe
 exact ⟨PT.imp (zlD ha) fun σ H Q h=>
  LN.mono (tif (tf:=tf) (tg:=tf) (p:=fun c σ M1=>.ok (!c) M1) h) fun c H1 h1=>zeQ h1⟩
theorem zlk (hc:WT X XE c tf) (ha:WE X XE a f) (hb:WE X XE b g):WE X XE (.IfExp c a b pos) (eIf tf f g):=by
 have hc:=hc.pe
 have ha:=ha.pe
 have hb:=hb.pe
 exact ⟨PE.imp (zi2 hc ha hb) fun σ H Q h=>
  LN.mono (LN.bind (f:=fun _ σ M=>tf σ M) (k:=fun _ c σ M1=>if c = true then f σ M1 else g σ M1) (RB:=EqR) h) fun c H1 h2=>by
   obtain ⟨S,στ,a,e,m,ev,ra,fin⟩:=h2
   have:a.2 = c:=ra.2
   subst this
   replace fin:Fin XE (Rep X.K) X.K S (if a.2 = true then f στ S.M else g στ S.M) Q:=fin
   cases q:a.2 with
   | true=>exact (if_pos rfl).mpr ⟨S,στ,(),e,m,ev,trivial,by rw [q] at fin;exact fin⟩
   | false=>exact (if_neg Q4).mpr ⟨S,στ,(),e,m,ev,trivial,by rw [q] at fin;exact fin⟩⟩
theorem yb :WA X XE [] qc:=⟨PA.imp zfi fun σ H Q h9=>by
 obtain ⟨S,στ,_,e,m,ev,_,fin⟩:=h9
 show Q [] H
 rw [← e];exact fin S [] rfl (.refl m) .nil⟩
theorem za (ha:WE X XE e f) (hr:WA X XE es ga) (hs:noStar e = true:=by rfl):WA X XE (e :: es) (ya f ga):=by
 have ha:=ha.pe
 have hr:=hr.pe
 exact ⟨PA.imp (zdX ha hr (qt hs)) fun σ H Q h=>
  LN.mono (LN.bind (f:=fun _ σ M=>f σ M) (k:=fun _ x σ M1=>(ga σ M1).bind fun xs M2=>.ok (x :: xs) M2) (RB:=Rep X.K) h) fun v H1 h1=>
   LN.mono (LN.env (f:=ga) (LN.bind (f:=fun _ σ M=>ga σ M) (k:=fun (ax:Unit × T) ys σ M2=>.ok (ax.2 :: ys) M2) (RB:=Reps X.K) h1)) fun w H2 h2=>by
    obtain ⟨S,στ,a,e,m,ev,ra,fin⟩:=h2
    show Q (v :: w) H2
    rw [← e]
    exact fin S _ rfl (.refl m) (Reps.cons ra.1.2 ra.2)⟩
theorem ym {x1} (h:WA X XE es ga):WE X XE (.Tuple es x1 pos) (qu ga):=by
 have h:=h.pe
 exact ⟨PE.imp (zlN h) fun σ H Q h=>
  LN.mono (LN.bind (f:=fun _ σ M=>ga σ M) (k:=fun _ xs σ M1=>if xs.length<=sizeLine then .ok (T.tup xs) M1 else .bad) (RB:=Reps X.K) h) fun v H1 h2=>by
   obtain ⟨S,στ,a,e,m,ev,ra,fin⟩:=h2
   by_cases hl:a.2.length<=sizeLine
   ·replace fin:Fin XE (Rep X.K) X.K S (if a.2.length<=sizeLine then .ok (.tup a.2) S.M else .bad) Q:=fin
    rw [if_pos hl] at fin
    refine ⟨by rw [← ra.2.1];exact hl,fun p hp=>?_⟩
    subst e
    have s:=Stp.new m hp (.tup v)
    exact fin ⟨S.α,S.M,upd S.H p (.tup v),S.hid⟩ (.ref p) rfl s (.tup (.inl (.inl qo)) ra.2.1 (ra.2.grow m s.toGrow).2)
   ·replace fin:Fin XE (Rep X.K) X.K S (if a.2.length<=sizeLine then .ok (.tup a.2) S.M else .bad) Q:=fin
    rw [if_neg hl] at fin
    exact fin.elim⟩
theorem yh (h:WA X XE es ga):WL X XE (.List es pos) (qp ga):=by
 have h:=h.pe
 exact ⟨PE.imp (zlQ h) fun σ H Q h9=>by
  obtain ⟨S,στ,e,m,ev,fin⟩:=h9
  replace fin:FinL XE X.K S ((ga στ S.M).bind fun xs M1=>if xs.length<=sizeLine then .ok xs M1 else .bad) Q:=fin
  refine ⟨S,στ,(),e,m,ev,trivial,?_⟩
  show Fin XE (Reps X.K) X.K S (ga στ S.M) _
  cases q:ga στ S.M with
  | bad=>rw [q] at fin;exact fin
  | exn C fs M'=>rw [q] at fin;exact fin
  | ok xs M1=>
   rw [q] at fin
   intro S1 vs e1 s1 r1
   by_cases hl:xs.length<=sizeLine
   ·replace fin:FinL XE X.K S (if xs.length<=sizeLine then .ok xs M1 else .bad) Q:=fin
    rw [if_pos hl] at fin
    refine ⟨by rw [← r1.1];exact hl,fun p hp=>?_⟩
    have s2:=Stp.hide s1.mok hp vs
    exact (fin.later s1) (S1.hide p vs) p vs e1 s2 hp (.head _) qo (r1.grow s1.mok s2.toGrow)
   ·replace fin:FinL XE X.K S (if xs.length<=sizeLine then .ok xs M1 else .bad) Q:=fin
    rw [if_neg hl] at fin
    exact fin.elim⟩
theorem yo (h:WL X XE e ga):WE X XE e (eFz ga):=by
 have h:=h.pe
 exact ⟨PE.imp h fun σ H Q ⟨S,στ,_,e,m,ev,_,fin⟩=>⟨S,στ,e,m,ev,by
  show FinL XE X.K S (ga στ S.M) Q
  replace fin:Fin XE (Rep X.K) X.K S ((ga στ S.M).bind fun xs M1=>.ok (.lst xs) M1) Q:=fin
  cases q:ga στ S.M with
  | bad=>rw [q] at fin;exact fin
  | exn C fs M'=>rw [q] at fin;exact fin
  | ok xs M1=>
   rw [q] at fin
   intro S1 p vs e1 s1 hn hp hv r
   exact fin (S1.show S.hid) (.ref p) e1 s1.show (zkN s1 hn m hp hv r)⟩⟩
theorem qO (h:WL X XE e ga):WE X XE e (eTk ga):=by
 have h:=h.pe
 exact ⟨PE.imp h fun σ H Q ⟨S,στ,_,e,m,ev,_,fin⟩=>⟨S,στ,e,m,ev,by
  show FinL XE X.K S (ga στ S.M) Q
  replace fin:Fin XE (Rep X.K) X.K S ((ga στ S.M).bind fun xs M1=>.ok (.ref M1.length) (M1 ++ [.lst xs])) Q:=fin
  cases q:ga στ S.M with
  | bad=>rw [q] at fin;exact fin
  | exn C fs M'=>rw [q] at fin;exact fin
  | ok xs M1=>
   rw [q] at fin
   intro S1 p vs e1 s1 hn hp hv r
   refine fin (S1.track p xs S.hid) (.ref p) (by show S1.M ++ _ = _;rw [e1]) (s1.track m hn hp hv r) ?_
   have this:(S1.track p xs S.hid).α S1.M.length = p:=if_pos rfl
   rw [← e1]
   have hl:S1.M.length < (S1.track p xs S.hid).M.length:=by show _ < (S1.M ++ [Cell.lst xs]).length;simp
   have r2:Rep X.K (S1.track p xs S.hid) (.ref S1.M.length) (.ref ((S1.track p xs S.hid).α S1.M.length)):=.ref hl
   rw [this] at r2
   exact r2⟩⟩
end
variable {iter tg:Expr} {sts:List Stmt} {n:Nat} {bd:T->Ev->Mem->Out Ev}
section
variable {a b:Expr} {rest:List Stmt} {p q r:Ev->Mem->Out Fl}
theorem qU :WSs X XE [] zbl:=⟨PSs.imp zkd fun D σ H h9=>by
 obtain ⟨S,στ,_,e,m,ev,_,fin⟩:=h9
 show D.nx σ H
 rw [← e];exact fin S (.nx σ) rfl (.refl m) (.nx ev)⟩
theorem zd (h1:WS X XE st p) (h2:WSs X XE rest q):WSs X XE (st :: rest) (zf p q):=by
 have h1:=h1.pe
 have h2:=h2.pe
 exact ⟨PSs.imp (ziW h1 h2) fun _ _ _ hh=>zl6 hh⟩
theorem qe (h1:WS X XE st p):WSs X XE [st] p:=by
 have h1:=h1.pe
 exact ⟨zkc h1⟩
theorem zu (he:WE X XE e f):WS X XE (.Return (some e) pos) (zI f):=by
 have he:=he.pe
 exact ⟨PS.imp (zlF he) fun D σ H hh=>
  LN.mono (LN.bind (f:=fun _ σ M=>f σ M) (k:=fun _ t σ M1=>.ok (Fl.rt t) M1) (RB:=Rep X.K) hh) fun v H1 h9=>by
   obtain ⟨S,στ,a,e,m,ev,ra,fin⟩:=h9
   rw [← e];exact fin S (.rt v) rfl (.refl m) (.rt ra.2)⟩
theorem yF (he:WE X XE e f) (hs:swapsWith e none pos.line X.env = pure false:=by rfl):WS X XE (.Expr e pos) (yV f):=by
 have he:=he.pe
 exact ⟨PS.imp (zkf he hs) fun D σ H hh=>
  LN.mono (LN.bind (f:=fun _ σ M=>f σ M) (k:=fun _ t σ M1=>.ok (Fl.nx σ) M1) (RB:=Rep X.K) hh) fun v H1 h9=>by
   obtain ⟨S,στ,a,e,m,ev,ra,fin⟩:=h9
   show D.nx σ H1
   rw [← e];exact fin S (.nx σ) rfl (.refl m) (.nx ev)⟩
theorem zaM (hc:WT X XE c tf) (ha:WSs X XE sts p) (hb:WSs X XE rest q):WS X XE (.If c sts rest pos) (sIf tf p q):=by
 have hc:=hc.pe
 have ha:=ha.pe
 have hb:=hb.pe
 exact ⟨PS.imp (zmZ hc ha hb) fun D σ H hh=>
  LN.mono (LN.bind (f:=fun _ σ M=>tf σ M) (k:=fun _ c σ M1=>if c = true then p σ M1 else q σ M1) (RB:=EqR) hh) fun c H1 h2=>by
   obtain ⟨S,στ,a,e,m,ev,ra,fin⟩:=h2
   have:a.2 = c:=ra.2
   subst this
   replace fin:Fin XE (FlR X.K) X.K S (if a.2 = true then p στ S.M else q στ S.M) (yH D):=fin
   cases q:a.2 with
   | true=>exact (if_pos rfl).mpr ⟨S,στ,(),e,m,ev,trivial,by rw [q] at fin;exact fin⟩
   | false=>exact (if_neg Q4).mpr ⟨S,στ,(),e,m,ev,trivial,by rw [q] at fin;exact fin⟩⟩
theorem yg {pos':Pos} (hN:X.N.Nodup) (hi:X.N[i]? = some x) (hx:Loc X.env.scope x) (he:WE X XE e f) (hs:swapsWith e (some (.Name x pos')) pos.line X.env = pure false:=by rfl) (hf:X.fn x = true\/X.env.scope.names.lookup x = some .local:=by first | exact .inl rfl | exact .inr rfl | assumption):WS X XE (.Assign [.Name x pos'] e pos) (yk i f):=by
 have he:=he.pe
 exact ⟨PS.imp (zlE hN hi hx he hs hf) fun D σ H hh=>
  LN.mono (LN.bind (f:=fun _ σ M=>f σ M) (k:=fun _ t σ M1=>.ok (Fl.nx (σ.set i (some t))) M1) (RB:=Rep X.K) hh) fun v H1 h9=>by
   obtain ⟨S,στ,a,e,m,ev,ra,fin⟩:=h9
   show D.nx (σ.set i (some v)) H1
   rw [← e];exact fin S (.nx _) rfl (.refl m) (.nx (ev.set ra.2 i))⟩
theorem qh (h:PG X tg (zeR i)):WG X XE tg (yi i):=⟨PG.imp h fun v σ H Q h9=>by
 obtain ⟨S,στ,t,e,m,ev,ra,fin⟩:=h9
 show Q (σ.set i (some v)) H
 rw [← e];exact fin S _ rfl (.refl m) (ev.set ra i)⟩
theorem z4 :WGs X XE [] zbu:=⟨PGs.imp zkl fun v σ H Q h9=>by
 obtain ⟨S,στ,t,e,m,ev,ra,fin⟩:=h9
 cases t with
 | nil=>exact ⟨ra.nilT,by rw [← e];exact fin S _ rfl (.refl m) ev⟩
 | cons t r=>exact fin.elim⟩
theorem yx {bs:List T->Ev->Mem->Out Ev} (h:PGs X (e :: es) (zhc (lG XE X.K bd) (lGs XE X.K bs))):WGs X XE (e :: es) (qE bd bs):=⟨PGs.imp h fun v σ H Q h9=>by
 obtain ⟨S,στ,t,e,m,ev,ra,fin⟩:=h9
 cases t with
 | nil=>exact fin.elim
 | cons t r=>
  obtain ⟨v1,vs,rfl,r1,r2⟩:=ra.consT
  refine ⟨v1,vs,rfl,?_⟩
  replace fin:Fin XE (EvR X.K) X.K S ((bd t στ S.M).bind fun σ1 M1=>bs r σ1 M1) Q:=fin
  refine ⟨S,στ,t,e,m,ev,r1,?_⟩
  show Fin XE (EvR X.K) X.K S (bd t στ S.M) _
  cases o:bd t στ S.M with
  | bad=>rw [o] at fin;exact fin
  | exn C fs M'=>rw [o] at fin;exact fin
  | ok σ1 M1=>
   rw [o] at fin
   intro S1 cc e1 s1 ev1
   exact ⟨S1,σ1,r,rfl,s1.mok,ev1,r2.grow m s1.toGrow,by rw [e1];exact Fin.later s1 fin⟩⟩
theorem zaE {bs:List T->Ev->Mem->Out Ev} (h:PG X tg (zjm X.K n (lGs XE X.K bs))):WG X XE tg (zbt n bs):=⟨PG.imp h fun v σ H Q h9=>by
 obtain ⟨S,στ,t,e,m,ev,ra,fin⟩:=h9
 cases ra with
 | @tup ts p vs h l r=>
  replace fin:Fin XE (EvR X.K) X.K S (if ts.length = n then bs ts στ S.M else .bad) Q:=fin
  by_cases hn:ts.length = n
  ·rw [if_pos hn] at fin
   exact ⟨p,vs,rfl,by rw [← e];exact h,by rw [← l];exact hn,S,στ,ts,e,m,ev,⟨l,r⟩,fin⟩
  ·rw [if_neg hn] at fin;exact fin.elim
 | _=>exact fin.elim⟩
theorem zdJ (he:WE X XE e f) (hg:WG X XE tg bd) (hs:swapsWithSole [tg] e pos.line X.env = pure false:=by rfl) (hw:swappedStores [tg] e X.env = pure none:=by rfl) (h1:(assignEach [tg] X.env).map (·.2) = [assign tg X.env]:=by rfl):WS X XE (.Assign [tg] e pos) (zfc f bd):=by
 have he:=he.pe
 have hg:=hg.pe
 exact ⟨PS.imp (zlH he hg hs hw h1) fun D σ H hh=>
  LN.mono (LN.bind (f:=fun _ σ M=>f σ M) (k:=fun _ t σ M1=>(bd t σ M1).bind fun σ1 M2=>.ok (Fl.nx σ1) M2) (RB:=Rep X.K) hh) fun v H1 ⟨S,στ,a,e,m,ev,ra,fin⟩=>
   zm8 ⟨S,στ,a.2,e,m,ev,ra.2,fin⟩⟩
theorem yz (hp:PassesOwn (model X.prog X.w) X.A X.env X.xe) (hc:X.calm = true) (hi:WI X XE tg iter ga) (hg:WG X XE tg bd) (hb:WSs X XE sts p) (hs:∀ x,foldedSetIterable iter X.env x = pure x:=by intro _;rfl):WS X XE (.For tg iter sts [] pos) (yL ga bd p):=by
 have hi:=hi.pe
 have hg:=hg.pe
 have hb:=hb.pe
 exact ⟨PS.imp (zlG hp hc hi hg hb hs) fun D σ H hh=>by
  refine LN.mono (LN.bind (f:=fun _ σ M=>ga σ M) (k:=fun _ xs σ M1=>forL bd p xs σ M1) (RB:=zat X.K) hh) fun J H1 h1=>?_
  obtain ⟨S,στ,a,e,m,ev,ra,fin⟩:=h1
  refine ⟨fun i n σ H=>∃ S στ,S.H = H/\MemOk X.K S/\EvR X.K S στ σ/\zat X.K S a.2 J/\n = a.2.length - i/\i<=a.2.length/\Fin XE (FlR X.K) X.K S (forL bd p (a.2.drop i) στ S.M) (yH D),⟨_,S,στ,e,m,ev,ra.2,rfl,Nat.zero_le _,fin⟩,?_⟩
  rintro i n σ1 H2 ⟨S1,στ1,e1,m1,ev1,it1,en,hi1,fin1⟩
  subst e1
  obtain ⟨it2,it3⟩:=it1 S1 (.refl m1)
  by_cases hl:i < a.2.length
  ·have eq:a.2.drop i = a.2[i] :: a.2.drop (i + 1):=drop_eq_getElem_cons hl
   rw [eq] at fin1
   obtain ⟨go,yl⟩:=it2 i a.2[i] (by simp [hl])
   refine .inr ⟨go,fun σ' H'=>∃ S στ,S.H = H'/\MemOk X.K S/\EvR X.K S στ σ'/\zat X.K S a.2 J/\Fin XE (FlR X.K) X.K S (forL bd p (a.2.drop (i + 1)) στ S.M) (yH D),?_,fun x H' hy=>?_⟩
   ·rintro σ' H' ⟨S2,στ2,e2,m2,ev2,it4,fin2⟩
    exact ⟨a.2.length - (i + 1),by omega,S2,στ2,e2,m2,ev2,it4,rfl,hl,fin2⟩
   ·obtain ⟨S2,e2,eM,s2,r2⟩:=yl x H' hy
    replace fin1:Fin XE (FlR X.K) X.K S1 ((bd a.2[i] στ1 S1.M).bind fun σ1 M1=>(p σ1 M1).bind (qI (forL bd p (a.2.drop (i + 1))))) (yH D):=fin1
    refine ⟨S2,στ1,a.2[i],e2,s2.mok,Mo.mo m1 s2 ev1,r2,?_⟩
    rw [eM]
    cases o:bd a.2[i] στ1 S1.M with
    | bad=>rw [o] at fin1;exact fin1
    | exn C fs M'=>rw [o] at fin1;exact Fin.later s2 fin1
    | ok σ3 M3=>
     rw [o] at fin1
     intro S3 σ3v e3 s3 ev3
     have s13:=s2.trans s3
     refine ⟨S3,σ3,(),rfl,s3.mok,ev3,trivial,?_⟩
     show Fin XE (FlR X.K) X.K S3 (p σ3 S3.M) _
     rw [e3]
     replace fin1:Fin XE (FlR X.K) X.K S1 ((p σ3 M3).bind (qI (forL bd p (a.2.drop (i + 1))))) (yH D):=fin1
     cases o2:p σ3 M3 with
     | bad=>rw [o2] at fin1;exact fin1
     | exn C fs M'=>rw [o2] at fin1;exact Fin.later s13 fin1
     | ok fl M4=>
      rw [o2] at fin1
      intro S4 fv e4 s4 r4
      have s14:=s13.trans s4
      cases r4 with
      | nx r4=>exact ⟨S4,_,rfl,s4.mok,r4,Mo.mo m1 s14 it1,by rw [e4];exact Fin.later s14 fin1⟩
      | ct r4=>exact ⟨S4,_,rfl,s4.mok,r4,Mo.mo m1 s14 it1,by rw [e4];exact Fin.later s14 fin1⟩
      | bk r4=>exact fin1 S4 (.nx _) e4 s14 (.nx r4)
      | rt r4=>exact fin1 S4 (.rt _) e4 s14 (.rt r4)
  ·rw [drop_eq_nil_of_le (by omega)] at fin1
   refine .inl ⟨it3 i (by omega),?_⟩
   exact fin1 S1 (.nx σ1) rfl (.refl m1) (.nx ev1)⟩
end
variable {F:List T->Mem->Out T} {p:Pos}
section
variable {k:Nat}
theorem zi (C:CalT X.prog X.w X.K X.mg X.base k x ps F) (hr:Room k X.A) (hg:Gl X x) (ha:WA X XE (e :: es) ga) (hdb:(x == ("__debug__":Str)) = false:=by decide) (he:noStar e = true:=by rfl) (hpl:es.all noStar = true:=by rfl):WE X XE (.Call (.Name x p) (e :: es) [] pos) (ye F ga):=by
 have ha:=ha.pe
 exact ⟨PE.imp (zlR C.cal hr hg ha hdb (qt he) (q5 hpl)) fun σ H Q hh=>
  LN.mono (LN.bind (f:=fun _ σ M=>ga σ M) (k:=fun _ ts σ M1=>F ts M1) (RB:=Reps X.K) hh) fun vs H1 h9=>by
   obtain ⟨S,στ,a,e,m,ev,ra,fin⟩:=h9
   rw [append_nil]
   refine ⟨S,a.2,e,m,ra.2,?_⟩
   show Fin E0 (Rep X.K) X.K S (F a.2 S.M) Q
   replace fin:Fin XE (Rep X.K) X.K S (F a.2 S.M) Q:=fin
   cases o:F a.2 S.M with
   | bad=>rw [o] at fin;exact fin
   | exn C' fs M'=>exact absurd o (C.nox _ _ _ _ _)
   | ok t M1=>rw [o] at fin;exact fin⟩
theorem yt {id:String} (hc:CallR X (.builtin id) (lRN XE X.K F)) (hg:Gl X x) (hm:X.mg x = none) (hv:bootBuiltins x = some (.builtin id)) (ha:WA X XE (e :: es) ga) (hn:x ≠ "__name__":=by decide) (hdb:(x == ("__debug__":Str)) = false:=by decide) (he:noStar e = true:=by rfl) (hpl:es.all noStar = true:=by rfl):WE X XE (.Call (.Name x p) (e :: es) [] pos) (ye F ga):=by
 have ha:=ha.pe
 exact ⟨PE.imp (zc7 hc hg hm hv ha hn hdb (qt he) (q5 hpl)) fun σ H Q hh=>
  LN.mono (LN.bind (f:=fun _ σ M=>ga σ M) (k:=fun _ ts σ M1=>F ts M1) (RB:=Reps X.K) hh) fun vs H1 ⟨S,στ,a,e,m,ev,ra,fin⟩=>⟨S,a.2,e,m,ra.2,fin⟩⟩
theorem zL {id:String} (hc:CallR X (.type id) (lRN XE X.K F)) (hg:Gl X x) (hm:X.mg x = none) (hv:bootBuiltins x = some (.type id)) (ha:WA X XE (e :: es) ga) (hn:x ≠ "__name__":=by decide) (hdb:(x == ("__debug__":Str)) = false:=by decide) (he:noStar e = true:=by rfl) (hpl:es.all noStar = true:=by rfl):WE X XE (.Call (.Name x p) (e :: es) [] pos) (ye F ga):=by
 have ha:=ha.pe
 exact ⟨PE.imp (zcp hc hg hm hv ha hn hdb (qt he) (q5 hpl)) fun σ H Q hh=>
  LN.mono (LN.bind (f:=fun _ σ M=>ga σ M) (k:=fun _ ts σ M1=>F ts M1) (RB:=Reps X.K) hh) fun vs H1 ⟨S,στ,a,e,m,ev,ra,fin⟩=>⟨S,a.2,e,m,ra.2,fin⟩⟩
end
section
variable {a b:Expr}
theorem qF (he:WE X XE e f):WI X XE tg e (yW f):=⟨zms he.pe⟩
theorem zau (hg:Gl X "range") (hm:X.mg "range" = none) (ha:WA X XE [a] ga) (hs:starEach [a] X.env = [(false,eval a X.env)]:=by rfl):WI X XE tg (.Call (.Name "range" p) [a] [] pos) (z9 ga):=by
 have ha:=ha.pe
 exact ⟨PI.imp (zhM hg hm ha hs) fun σ H R hh=>
  LN.mono (LN.bind (f:=fun _ σ M=>ga σ M) (k:=fun _ ts σ M1=>zdR ts M1) (RB:=Reps X.K) hh) fun vs H1 h9=>by
   obtain ⟨S,στ,a,e,m,ev,ra,fin⟩:=h9
   obtain ⟨u,ts⟩:=a
   have rr:Reps X.K S ts vs:=ra.2
   replace fin:Fin XE (zat X.K) X.K S (zdR ts S.M) R:=fin
   unfold zdR at fin
   split at fin
   ·rename_i j
    obtain ⟨v,vs',rfl,r1,r2⟩:=rr.consT
    cases r1
    rw [r2.nilT]
    split at fin
    ·rename_i hj
     exact ⟨j,rfl,hj.1,hj.2,by rw [← e];exact fin S _ rfl (.refl m) (zfq _ _ _ _)⟩
    ·exact fin.elim
   ·exact fin.elim⟩
theorem zdn (hg:Gl X "range") (hm:X.mg "range" = none) (ha:WA X XE [a,b] ga) (hs:starEach [a,b] X.env = [(false,eval a X.env),(false,eval b X.env)]:=by rfl) (hs2:starEach [b] X.env = [(false,eval b X.env)]:=by rfl):WI X XE tg (.Call (.Name "range" p) [a,b] [] pos) (zcH ga):=by
 have ha:=ha.pe
 exact ⟨PI.imp (zhL hg hm ha hs hs2) fun σ H R hh=>
  LN.mono (LN.bind (f:=fun _ σ M=>ga σ M) (k:=fun _ ts σ M1=>zbP ts M1) (RB:=Reps X.K) hh) fun vs H1 h9=>by
   obtain ⟨S,στ,a,e,m,ev,ra,fin⟩:=h9
   obtain ⟨u,ts⟩:=a
   have rr:Reps X.K S ts vs:=ra.2
   replace fin:Fin XE (zat X.K) X.K S (zbP ts S.M) R:=fin
   unfold zbP at fin
   split at fin
   ·rename_i i j
    obtain ⟨v,vs',rfl,r1,r2⟩:=rr.consT
    obtain ⟨v2,vs2,rfl,r3,r4⟩:=r2.consT
    cases r1
    cases r3
    rw [r4.nilT]
    split at fin
    ·rename_i hj
     exact ⟨i,j,rfl,⟨hj.1.1,hj.1.2,hj.2.1,hj.2.2⟩,by rw [← e];exact fin S _ rfl (.refl m) (zfq _ _ _ _)⟩
    ·exact fin.elim
   ·exact fin.elim⟩
end
section
theorem y3 {elt:Expr} {ifs:List Expr} {scope:Scope} {cl:List (Str × Addr)} {tgs:List Str} {caps:List (Str × Nat)} {cond:Ev->Mem->Out Bool} (hi:WI X XE tg iter ga) (cb:CB X scope cl caps) (hg:∀ ex s0 H0,WG (X.block scope cl (tgs ++ caps.map (·.1)) ex s0 H0) XE tg bd) (hif:∀ ex s0 H0,PTs (X.block scope cl (tgs ++ caps.map (·.1)) ex s0 H0) ifs (lT XE X.K cond)) (hel:∀ ex s0 H0,WE (X.block scope cl (tgs ++ caps.map (·.1)) ex s0 H0) XE elt f) (hs:∀ x,foldedSetIterable iter X.env x = pure x:=by intro _;rfl):WL X XE (.ListComp elt [⟨tg,iter,ifs,0⟩] scope pos) (zaz ga bd cond f tgs caps):=by
 have hi:=hi.pe
 have hg:=fun ex s0 H0=>(hg ex s0 H0).pe
 have hel:=fun ex s0 H0=>(hel ex s0 H0).pe
 exact ⟨PE.imp (zkp (tgs:=tgs) (g:=lG XE X.K bd) (tc:=lT XE X.K cond) (te:=lE XE X.K f) cb.hc hi cb.hclos cb.hcell cb.hkind cb.hnames cb.hcl cb.hhas cb.hcap hg hif hel hs) fun σ H Q hh=>zjw hh⟩
theorem zaL :PTs X [] (lT XE X.K y4):=zkQ 
theorem ziD (h:WT X XE c tf):PTs X [c] (lT XE X.K tf):=zkP h.pe
end
section
variable {a b:Expr}
theorem zen {id:String} {F:List T->Mem->Out (List T)} (hc:CallR X (.builtin id) (zg7 XE X.K F)) (hg:Gl X x) (hm:X.mg x = none) (hv:bootBuiltins x = some (.builtin id)) (ha:WA X XE (e :: es) ga) (hn:x ≠ "__name__":=by decide) (hdb:(x == ("__debug__":Str)) = false:=by decide) (he:noStar e = true:=by rfl) (hpl:es.all noStar = true:=by rfl):WL X XE (.Call (.Name x p) (e :: es) [] pos) (zcF F ga):=by
 have ha:=ha.pe
 exact ⟨PE.imp (zc7 hc hg hm hv ha hn hdb (qt he) (q5 hpl)) fun σ H Q ⟨S,στ,e,m,ev,fin⟩=>
  LN.mono (LNL.bind (f:=fun (_:Unit) σ M=>ga σ M) (k:=fun _ ts σ M1=>F ts M1) (RA:=UnR) (RB:=Reps X.K) ⟨S,στ,(),e,m,ev,trivial,fin⟩) fun vs H1 ⟨S,στ,a,e,m,ev,ra,fin⟩=>⟨S,a.2,e,m,ra.2,fin⟩⟩
end
variable {cpos:Pos}
section
theorem zdK {o i:Expr} {st:T->T->T->Mem->Out Unit} (ho:WE X XE o f) (hi:WE X XE i g) (hs:zel X (zg6 XE X.K st)) (ha:∀ v,assign (.Subscript o i pos) X.env v = (do
 let ov ← holding [v] (eval o X.env)
 let iv ← holding [v,ov] (eval i X.env)
 standAt pos
 holding [v,ov,iv] (setItem ov iv v)
 release [v,ov,iv] []):=by intro _;rfl):WG X XE (.Subscript o i pos) (zfR st f g):=by
 have ho:=ho.pe
 have hi:=hi.pe
 exact ⟨PG.imp (zlL ho hi hs ha) fun v σ H Q hh=>by
  have h1:LN XE (EvR X.K) X.K (Rep X.K) (fun t σ M=>(f σ M).bind fun o M1=>(g σ M1).bind fun i M2=>(st o i t M2).bind fun _ M3=>.ok σ M3) v σ H Q:=hh
  refine LN.mono (LN.env (f:=f) (LN.bind (f:=fun _ σ M=>f σ M) (k:=fun t o σ M1=>(g σ M1).bind fun i M2=>(st o i t M2).bind fun _ M3=>.ok σ M3) (RB:=Rep X.K) h1)) fun ov H1 h2=>?_
  refine LN.mono (LN.env (f:=g) (LN.bind (f:=fun _ σ M=>g σ M) (k:=fun (to:T × T) i σ M2=>(st to.2 i to.1 M2).bind fun _ M3=>.ok σ M3) (RB:=Rep X.K) h2)) fun iv H2 h3=>?_
  obtain ⟨S,στ,a,e,m,ev,ra,fin⟩:=h3
  refine ⟨S,((a.1.2,a.2),a.1.1),e,m,⟨⟨ra.1.2,ra.2⟩,ra.1.1⟩,?_⟩
  show Fin XE UnR X.K S (st a.1.2 a.2 a.1.1 S.M) _
  replace fin:Fin XE (EvR X.K) X.K S ((st a.1.2 a.2 a.1.1 S.M).bind fun _ M3=>.ok στ M3) Q:=fin
  cases o:st a.1.2 a.2 a.1.1 S.M with
  | bad=>rw [o] at fin;exact fin
  | exn C fs M'=>rw [o] at fin;exact fin
  | ok b M1=>
   rw [o] at fin
   intro S1 c e1 s1 _
   exact fin S1 σ e1 s1 (Mo.mo m s1 ev)⟩
theorem zbv {o:Expr} {apos:Pos} (h:PE X (.Call (.Attribute o "append" apos) [e] [] cpos) (tBM X.K "list" zdU (lE XE X.K f) (lA XE X.K ga))):WE X XE (.Call (.Attribute o "append" apos) [e] [] cpos) (zbc qW (eUn yJ f) ga):=⟨PE.imp h fun σ H Q hh=>by
 obtain ⟨S,στ,_,e0,m,ev,_,fin⟩:=hh
 replace fin:Fin XE (Rep X.K) X.K S (((f στ S.M).bind fun x M1=>yJ x M1).bind fun x M1=>(ga στ M1).bind fun ts M2=>qW x ts M2) Q:=fin
 refine ⟨S,στ,(),e0,m,ev,trivial,?_⟩
 show Fin XE (Rep X.K) X.K S (f στ S.M) _
 cases o1:f στ S.M with
 | bad=>rw [o1] at fin;exact fin
 | exn C fs M'=>rw [o1] at fin;exact fin
 | ok x M1=>
  rw [o1] at fin
  intro S1 v e1 s1 r1
  replace fin:Fin XE (Rep X.K) X.K S ((yJ x M1).bind fun x M1=>(ga στ M1).bind fun ts M2=>qW x ts M2) Q:=fin
  unfold yJ at fin
  cases q:yq x M1 with
  | none=>rw [q] at fin;exact fin.elim
  | some xs=>
   rw [q] at fin
   replace fin:Fin XE (Rep X.K) X.K S ((ga στ M1).bind fun ts M2=>qW x ts M2) Q:=fin
   obtain ⟨p,vs,rfl,hq,_⟩:=zq s1.mok r1 (by rw [e1];exact q)
   refine ⟨.inl ⟨rfl,vs,hq⟩,S1,στ,(),rfl,s1.mok,Mo.mo m s1 ev,trivial,?_⟩
   show Fin XE (Reps X.K) X.K S1 (ga στ S1.M) _
   rw [e1]
   cases o2:ga στ M1 with
   | bad=>rw [o2] at fin;exact fin
   | exn C fs M'=>rw [o2] at fin;exact Fin.later s1 fin
   | ok ts M2=>
    rw [o2] at fin
    intro S2 ws e2 s2 r2
    replace fin:Fin XE (Rep X.K) X.K S (qW x ts M2) Q:=fin
    have fin2:=Fin.later (s1.trans s2) fin
    unfold qW at fin2
    split at fin2
    ·split at fin2
     ·rename_i a t _ ys qy
      split at fin2
      ·rename_i hz
       obtain ⟨w,ws',rfl,r3,r4⟩:=r2.consT
       rw [r4.nilT]
       have r1':=r1.grow s1.mok s2.toGrow
       cases r1' with
       | ref ha2=>
       obtain ⟨us,q3,rs⟩:=s2.mok.cell a _ (by rw [e2];exact qy)
       refine ⟨S2.α a,us,w,rfl,rfl,q3,by rw [← rs.1];exact hz,?_⟩
       exact fin2 (S2.put a (.lst (us ++ [w])) (.lst (ys ++ [t]))) .non (by show S2.M.set a _ = _;rw [e2]) (zcD s2.mok (by rw [e2];exact qy) (rs.app (.cons r3 .nil))) .non
      ·exact fin2.elim
     ·exact fin2.elim
    ·exact fin2.elim⟩
end
section
theorem zeY :WO X XE none zeO:=⟨PO.imp zkj fun σ H Q h9=>by
 obtain ⟨S,στ,_,e,m,ev,_,fin⟩:=h9
 show Q none H
 rw [← e];exact fin S none rfl (.refl m) rfl⟩
theorem zeX (h:WE X XE e f):WO X XE (some e) (zeN f):=by
 have h:=h.pe
 exact ⟨PO.imp (zki h) fun σ H Q hh=>
  LN.mono (LN.bind (f:=fun _ σ M=>f σ M) (k:=fun _ x σ M1=>zjb x M1) (RB:=Rep X.K) hh) fun v H1 h9=>by
   obtain ⟨S,στ,a,e,m,ev,ra,fin⟩:=h9
   obtain ⟨u,t⟩:=a
   have r:Rep X.K S t v:=ra.2
   replace fin:Fin XE EqR X.K S (zjb t S.M) Q:=fin
   cases r with
   | int i=>exact ⟨i,rfl,by rw [← e];exact fin S (some i) rfl (.refl m) rfl⟩
   | _=>exact fin.elim⟩
theorem zht {lo hi:Option Expr} {p q:Ev->Mem->Out (Option Int)} {p2:Pos} (he:WE X XE e f) (hl:WO X XE lo p) (hu:WO X XE hi q):WE X XE (.Subscript e (.Slice lo hi none p2) pos) (eSl f p q):=by
 have he:=he.pe
 have hl:=hl.pe
 have hu:=hu.pe
 exact ⟨PE.imp (zi1 znF he hl hu) fun σ H Q hh=>
  LN.mono (LN.bind (f:=fun _ σ M=>f σ M) (k:=fun _ x σ M1=>(p σ M1).bind fun lo M2=>(q σ M2).bind fun hi M3=>zed x lo hi M3) (RB:=Rep X.K) hh) fun v H1 h1=>
   LN.mono (LN.env (f:=p) (LN.bind (f:=fun _ σ M=>p σ M) (k:=fun (ax:Unit × T) lo σ M2=>(q σ M2).bind fun hi M3=>zed ax.2 lo hi M3) (RB:=EqR) h1)) fun l H2 h2=>
    LN.mono (LN.env (f:=q) (LN.bind (f:=fun _ σ M=>q σ M) (k:=fun (ax:(Unit × T) × Option Int) hi σ M3=>zed ax.1.2 ax.2 hi M3) (RB:=EqR) h2)) fun w H3 h9=>by
     obtain ⟨S,στ,a,e,m,ev,ra,fin⟩:=h9
     have e1:a.1.2 = l:=ra.1.2
     have e2:a.2 = w:=ra.2
     exact ⟨S,a.1.1.2,e,m,ra.1.1.2,by rw [← e1,← e2];exact fin⟩⟩
end
section
theorem qK {o e:Expr} {es:List Expr} {n:Str} {Ty:String} {f:Ev->Mem->Out T} {ga:Ev->Mem->Out (List T)} {chk:T->Mem->Bool} {F:T->List T->Mem->Out T} {apos cpos:Pos} (hc:∀ {K:Frag} {S:Sit},MemOk K S->∀ {t:T} {x:V},Rep K S t x->chk t S.M = true->tyV K Ty x S.H) (h:PE X (.Call (.Attribute o n apos) (e :: es) [] cpos) (tBM X.K Ty (lMt XE X.K F) (lE XE X.K f) (lA XE X.K ga))):WE X XE (.Call (.Attribute o n apos) (e :: es) [] cpos) (zw chk F f ga):=⟨PE.imp h fun σ H Q hh=>by
 obtain ⟨S,στ,_,e0,m,ev,_,fin⟩:=hh
 replace fin:Fin XE (Rep X.K) X.K S ((f στ S.M).bind fun x M1=>if chk x M1 = true then (ga στ M1).bind fun ts M2=>F x ts M2 else .bad) Q:=fin
 refine ⟨S,στ,(),e0,m,ev,trivial,?_⟩
 show Fin XE (Rep X.K) X.K S (f στ S.M) _
 cases o1:f στ S.M with
 | bad=>rw [o1] at fin;exact fin
 | exn C fs M'=>rw [o1] at fin;exact fin
 | ok x M1=>
  rw [o1] at fin
  intro S1 v e1 s1 r1
  replace fin:Fin XE (Rep X.K) X.K S (if chk x M1 = true then (ga στ M1).bind fun ts M2=>F x ts M2 else .bad) Q:=fin
  split at fin
  ·rename_i hk
   refine ⟨hc s1.mok r1 (by rw [e1];exact hk),S1,στ,(),rfl,s1.mok,Mo.mo m s1 ev,trivial,?_⟩
   show Fin XE (Reps X.K) X.K S1 (ga στ S1.M) _
   rw [e1]
   cases o2:ga στ M1 with
   | bad=>rw [o2] at fin;exact fin
   | exn C fs M'=>rw [o2] at fin;exact Fin.later s1 fin
   | ok ts M2=>
    rw [o2] at fin
    intro S2 ws e2 s2 r2
    replace fin:Fin XE (Rep X.K) X.K S (F x ts M2) Q:=fin
    have fin2:=Fin.later (s1.trans s2) fin
    exact ⟨S2,(x,ts),rfl,s2.mok,⟨r1.grow s1.mok s2.toGrow,r2⟩,by show Fin XE (Rep X.K) X.K S2 (F x ts S2.M) Q;rw [e2];exact fin2⟩
  ·exact fin.elim⟩
end
variable {l:Expr} {elts:List Expr} {tp:Pos}
section
theorem zeZ {x1} (hg:Gl X "enumerate") (hm:X.mg "enumerate" = none) (he:WE X XE l f) (hs:noStar l = true:=by rfl):WI X XE (.Tuple elts x1 tp) (.Call (.Name "enumerate" p) [l] [] pos) (zcI f):=by
 have he:=he.pe
 exact ⟨PI.imp (ziZ hg hm he (qt hs)) fun σ H R h9=>by
  obtain ⟨S,στ,_,e,m,ev,_,fin⟩:=h9
  replace fin:Fin XE (zat X.K) X.K S ((f στ S.M).bind fun t M1=>match t with | .tup ts=>.ok (enT ts) M1 | _=>.bad) R:=fin
  refine ⟨S,στ,(),e,m,ev,trivial,?_⟩
  show Fin XE (Rep X.K) X.K S (f στ S.M) _
  cases o:f στ S.M with
  | bad=>rw [o] at fin;exact fin.elim
  | exn C fs M'=>rw [o] at fin;exact fin
  | ok t M1=>
   rw [o] at fin
   cases t with
   | tup ts=>
    intro S1 v e1 s1 r1
    cases r1 with
    | @tup _ p vs h l r=>
     have r1:Reps X.K S1 ts vs:=⟨l,r⟩
     refine ⟨p,rfl,⟨vs,h⟩,fin S1 _ e1 s1 fun S3 s3=>?_⟩
     have g3:SqT X.K S3.H p vs:=s3.toGrow.tup s1.mok h
     refine ⟨fun i t et=>?_,fun i hi=>⟨vs,g3,by rw [← l];simpa [enT] using hi⟩⟩
     unfold enT at et
     rw [List.getElem?_mapIdx] at et
     obtain ⟨t0,et0,rfl⟩:=Option.map_eq_some_iff.mp et
     obtain ⟨v2,ev3,r3⟩:=r1.get et0
     refine ⟨⟨vs,v2,g3,ev3⟩,fun x H' hy=>?_⟩
     obtain ⟨q,y,hq,rfl,rfl,hy⟩:=hy
     have:=hy vs g3
     rw [ev3] at this
     cases this
     have s4:=Stp.new s3.mok hq (.tup [.int (i:Int),v2])
     have r4:=(r3.grow s1.mok s3.toGrow).grow s3.mok s4.toGrow
     refine ⟨⟨S3.α,S3.M,upd S3.H q (.tup [.int (i:Int),v2]),S3.hid⟩,rfl,rfl,s4,?_⟩
     have rr:Reps X.K ⟨S3.α,S3.M,upd S3.H q (.tup [.int (i:Int),v2]),S3.hid⟩ [.int (i:Int),t0] [.int (i:Int),v2]:=.cons (.int _) (.cons r4 .nil)
     exact .tup (.inl (.inl qo)) rr.1 rr.2
   | _=>exact fin.elim⟩
end
section
theorem zhs {x1} (hg:Gl X "enumerate") (hm:X.mg "enumerate" = none) (he:WE X XE l f) (hs:noStar l = true:=by rfl):WI X XE (.Tuple elts x1 tp) (.Call (.Name "enumerate" p) [l] [] pos) (zdx f):=by
 have he:=he.pe
 exact ⟨PI.imp (zi0 hg hm he (qt hs)) fun σ H R h9=>by
  obtain ⟨S,στ,_,e,m,ev,_,fin⟩:=h9
  replace fin:Fin XE (zat X.K) X.K S ((f στ S.M).bind fun t M1=>match t with | .lst ts=>.ok (enT ts) M1 | _=>.bad) R:=fin
  refine ⟨S,στ,(),e,m,ev,trivial,?_⟩
  show Fin XE (Rep X.K) X.K S (f στ S.M) _
  cases o:f στ S.M with
  | bad=>rw [o] at fin;exact fin.elim
  | exn C fs M'=>rw [o] at fin;exact fin
  | ok t M1=>
   rw [o] at fin
   cases t with
   | lst ts=>
    intro S1 v e1 s1 r1
    cases r1 with
    | @lst _ p vs h l r=>
     have r1:Reps X.K S1 ts vs:=⟨l,r⟩
     refine ⟨p,rfl,⟨vs,zcq h⟩,fin S1 _ e1 s1 fun S3 s3=>?_⟩
     have g3:SqL X.K S3.H p vs:=by
      rcases h with ⟨h2,f2⟩ | h2
      ·exact .inl (s3.toGrow.rd h2 f2).1
      ·exact .inr h2
     refine ⟨fun i t et=>?_,fun i hi=>⟨vs,g3,by rw [← l];simpa [enT] using hi⟩⟩
     unfold enT at et
     rw [List.getElem?_mapIdx] at et
     obtain ⟨t0,et0,rfl⟩:=Option.map_eq_some_iff.mp et
     obtain ⟨v2,ev3,r3⟩:=r1.get et0
     refine ⟨⟨vs,v2,g3,ev3⟩,fun x H' hy=>?_⟩
     obtain ⟨q,y,hq,rfl,rfl,hy⟩:=hy
     have:=hy vs g3
     rw [ev3] at this
     cases this
     have s4:=Stp.new s3.mok hq (.tup [.int (i:Int),v2])
     have r4:=(r3.grow s1.mok s3.toGrow).grow s3.mok s4.toGrow
     refine ⟨⟨S3.α,S3.M,upd S3.H q (.tup [.int (i:Int),v2]),S3.hid⟩,rfl,rfl,s4,?_⟩
     have rr:Reps X.K ⟨S3.α,S3.M,upd S3.H q (.tup [.int (i:Int),v2]),S3.hid⟩ [.int (i:Int),t0] [.int (i:Int),v2]:=.cons (.int _) (.cons r4 .nil)
     exact .tup (.inl (.inl qo)) rr.1 rr.2
   | _=>exact fin.elim⟩
end
section
variable {k j:Nat} {y v nm:Str} {pos2 np hp vp:Pos} {C:Addr} {b0:Stmt} {suite:List Stmt} {g gs:Ev->Mem->Out Fl}
theorem zjQ (hN:X.N.Nodup) (hi:X.N[i]? = some v) (hv:X.env.scope.names.lookup v = some .local) (c:CalX X.prog X.w X.K X.mg X.base k x ps F) (hr:Room k X.A) (hg:Gl X x) (ha:∀ E1 XE,WA (X.wish E1) XE (e :: es) ga) (hdb:(x == ("__debug__":Str)) = false:=by decide) (he:noStar e = true:=by rfl) (hpl:es.all noStar = true:=by rfl) (hsw:swapsWith (.Call (.Name x p) (e :: es) [] pos) (some (.Name v vp)) pos2.line X.env = pure false:=by rfl):WX X [.Assign [.Name v vp] (.Call (.Name x p) (e :: es) [] pos) pos2] (yk i (ye F ga)):=by
 have ha:=fun E1 XE=>(ha E1 XE).pe
 refine ⟨?_⟩
 obtain ⟨fa,fd,Fo,kp,b,gg⟩:=c.ex
 intro E
 have hp:=zlz (pos2:=pos2) (vp:=vp) (p:=p) (pos:=pos) (e:=e) (es:=es) (ta:=lA E X.K ga) hN hi hv Fo hr hg gg kp b (fun E'=>ha E' E) hdb (qt he) (q5 hpl) hsw
 intro pins s σ H D I q
 refine hp E pins s σ H D I ?_
 have h1:=LN.bind (f:=fun _ σ M=>ga σ M) (k:=fun _ ts σ M1=>(F ts M1).bind fun t M2=>.ok (Fl.nx (σ.set i (some t))) M2) (RB:=Reps X.K) (XE:=E) (K:=X.K) (R:=FlR X.K) (RA:=UnR) (av:=()) (σ:=σ) (H:=H) (Q:=yH D) (by
  obtain ⟨S,στ,a,e,m,ev,ra,fin⟩:=q
  refine ⟨S,στ,a,e,m,ev,ra,?_⟩
  have:(yk i (ye F ga) στ S.M) = ((ga στ S.M).bind fun ts M1=>(F ts M1).bind fun t M2=>.ok (Fl.nx (στ.set i (some t))) M2):=by
   unfold yk ye
   cases ga στ S.M <;> rfl
  show Fin E (FlR X.K) X.K S ((ga στ S.M).bind fun ts M1=>(F ts M1).bind fun t M2=>.ok (Fl.nx (στ.set i (some t))) M2) (yH D)
  rw [← this]
  exact fin)
 refine LN.mono h1 fun vs H1 ⟨S,στ,a,e,m,ev,ra,fin⟩=>?_
 refine ⟨S,a.2,e,m,ra.2,?_⟩
 show Fin E (Rep X.K) X.K S (F a.2 S.M) _
 replace fin:Fin E (FlR X.K) X.K S ((F a.2 S.M).bind fun t M2=>.ok (Fl.nx (στ.set i (some t))) M2) (yH D):=fin
 cases o:F a.2 S.M with
 | bad=>rw [o] at fin;exact fin
 | exn C fs M'=>rw [o] at fin;exact fin
 | ok t M1=>
  rw [o] at fin
  intro S1 w e1 s1 r1
  exact fin S1 (.nx (σ.set i (some w))) e1 s1 (.nx ((Mo.mo m s1 ev).set r1 i))
theorem zjS {cs:List Addr} (hb:WX X sts g) (hS:∀ C' ∈ cs,Sup X.K X.mg y C C') (hgy:Gl X y) (hst:X.stack = X.env :: X.outer) (hf:X.env.frame = some X.env.locals) (hex:X.ex = []) (hs:∀ ev,WSs (X.suite ev) E0 (b0 :: suite) gs) (hdy:(y == ("__debug__":Str)) = false:=by decide):WS X XE (.Try sts [.ExceptHandler (some (.Name y np)) none (b0 :: suite) hp] [] [] tp) (zfb cs g gs):=by
 have hb:=hb.pe
 have hs:=fun ev=>(hs ev).pe
 exact ⟨PS.imp (zke (th:=lS E0 X.K gs) hb hgy hst hf hex hs hdy) fun D σ H h9=>by
  obtain ⟨S,στ,a,e,m,ev,ra,fin⟩:=h9
  refine ⟨S,στ,a,e,m,ev,ra,?_⟩
  show Fin _ (FlR X.K) X.K S (g στ S.M) (yH D)
  replace fin:Fin XE (FlR X.K) X.K S (match g στ S.M with | .exn C _ M'=>if cs.contains C = true then noX (gs στ M') else .bad | o=>o) (yH D):=fin
  cases o:g στ S.M with
  | bad=>rw [o] at fin;exact fin
  | ok fl M1=>rw [o] at fin;exact fin
  | exn C' fs M'=>
   rw [o] at fin
   intro S1 od e1 s1 xr
   by_cases hc:cs.contains C' = true
   ·replace fin:Fin XE (FlR X.K) X.K S (if cs.contains C' = true then noX (gs στ M') else .bad) (yH D):=fin
    rw [if_pos hc] at fin
    refine ⟨C',rfl,hS C' (List.contains_iff_mem.mp hc),S1,στ,(),rfl,s1.mok,Mo.mo m s1 ev,trivial,?_⟩
    show Fin E0 (FlR X.K) X.K S1 (gs στ S1.M) _
    rw [e1]
    exact (zkA fin).later s1
   ·replace fin:Fin XE (FlR X.K) X.K S (if cs.contains C' = true then noX (gs στ M') else .bad) (yH D):=fin
    rw [if_neg hc] at fin
    exact fin.elim⟩
end
section
variable {K:Frag}
theorem zG {k p:Nat} {g:Ev->Mem->Out Fl} (D:Df K mg x st ps) (Sc:FnScope N ps (ze st)) (hp:ps.length = p) (hn:N.length = n)
 (hb:∀ (f:Addr) (cdv:Value) (A:Around) (outer:List PySem.Env) (s:Shared) (H:Hp) (E:XK),Room k (A.deeper (envOfC x (ze st) s.heap.objs.size f cdv))->WSs (zad CX0 P w K mg base N x (ze st) f cdv A outer s H E).nox E0 (zx st) g) :
  CalT P w K mg base (k + 1) x ps (zj p n g):=ziy D Sc hp hn fun f cdv A outer s H E hr=>(hb f cdv A outer s H E hr).pe
theorem ziG {k p:Nat} {g:Ev->Mem->Out Fl} (D:Df K mg x st ps) (Sc:FnScope N ps (ze st)) (hp:ps.length = p) (hn:N.length = n)
 (hb:∀ (f:Addr) (cdv:Value) (A:Around) (outer:List PySem.Env) (s:Shared) (H:Hp) (E:XK),Room k (A.deeper (envOfC x (ze st) s.heap.objs.size f cdv))->WSs (zad (CXX P w) P w K mg base N x (ze st) f cdv A outer s H E) E (zx st) g) :
  CalX P w K mg base (k + 1) x ps (zQ p n g):=zlc D Sc hp hn fun f cdv A outer s H E hr=>(hb f cdv A outer s H E hr).pe
theorem zjP {qual:Str} {f:Addr} {fd:FuncData} {k p:Nat} {g:Ev->Mem->Out Fl} (F:Fun K x qual st f fd) (Sc:FnScope N ps (ze st)) (hp:ps.length = p) (hn:N.length = n)
 (hb:∀ (cdv:Value) (A:Around) (outer:List PySem.Env) (s:Shared) (H:Hp) (E:XK),Room k (A.deeper (envOfC qual (ze st) s.heap.objs.size f cdv))->WSs (zad CX0 P w K mg base N qual (ze st) f cdv A outer s H E).nox E0 (zx st) g) :
  FnOk P w K mg base CX0 (k + 1) f fd ps (spT K (zj p n g)):=zl4 F Sc hp hn fun cdv A outer s H E hr=>(hb cdv A outer s H E hr).pe
end
end FT
namespace L2
open PySem PySem.Spec PyProof.Rows
section
variable {prog:Program} {w:World} {A:Around} {E:Value->Shared->Prop} {s:Shared}
theorem int_lt {a b:Int} {t u:Tok} {Q:Value->Shared->Prop} (h:Q (.bool (decide (a < b))) s):wpAny (model prog w) A (richCompare .Lt (.int a t) (.int b u)) Q E s:=
 CmpOf.ints_lt (P:=fun i v=>(i = 0/\v = .int a t)\/(i = 1/\v = .int b u)) (fun i=>if i = 0 then a else b) (fun i v h=>by
  rcases h with ⟨rfl,rfl⟩ | ⟨rfl,rfl⟩
  ·exact ⟨t,rfl⟩
  ·exact ⟨u,rfl⟩) 0 1 _ _ s Q E (.inl ⟨rfl,rfl⟩) (.inr ⟨rfl,rfl⟩) h
end
end L2
namespace FT
open PySem PySem.Spec PyProof.Rows L2
noncomputable def leU:T->T->Mem->Out T:=fun x y M=>match x,y with
 | .int i,.int j=>.ok (.bl (decide (i<=j))) M
 | .str i,.str j=>.ok (.bl (!decide (j.cps.toList < i.cps.toList))) M
 | _,_=>.bad
noncomputable def zoK:T->T->Mem->Out T:=fun x y M=>match x,y with
 | .str i,.int n=>@ite _ (MulOk i n) (Classical.propDecidable _) (.ok (.str (Txt.mul i n)) M) .bad
 | _,_=>.bad
noncomputable def ixS:T->T->Mem->Out T:=fun x y M=>match x,y with
 | .str z,.int i=>match atI z.cps.toList i with
  | some c=>if z.length<=sizeLine then .ok (.str ⟨#[c]⟩) M else .bad
  | none=>.bad
 | _,_=>.bad
section
variable {X:Cx} {XE:XK}
theorem znT:IxR X (lR2 XE X.K ixS):=by
 intro va sl pins s σ H x y v u Q I rx ry ⟨S,⟨tx,ty⟩,e,m,⟨r1,r2⟩,fin⟩ hs
 subst e
 replace fin:Fin XE (Rep X.K) X.K S (ixS tx ty S.M) Q:=fin
 unfold ixS at fin
 split at fin
 ·cases r1;cases r2
  split at fin
  ·rename_i c hc
   split at fin
   ·rename_i hz
    exact zh0 va sl pins s σ S.H _ _ v u Q I rx ry ⟨_,_,c,rfl,rfl,hz,hc,fin S _ rfl (.refl m) (.str _)⟩ hs
   ·exact fin.elim
  ·exact fin.elim
 ·exact fin.elim
end
end FT
namespace L2
open PySem PySem.Spec PyProof.Rows
variable {C:Addr} {x:Str}
section
variable {X:Cx} {E:XK} {e:Expr} {es:List Expr} {ta:TA} {np cpos pos:Pos}
theorem zhI (O:ExcAt X.K X.mg x C) (hr:Room 2 X.A) (hg:Gl X x) (hst:X.stack = X.env :: X.outer) (hf:X.env.frame = some X.env.locals) (hex:X.ex = [])
  (hxe:X.xe = fun ev s'=>wpAny (model X.prog X.w) X.A (leaving X.env ev) (fun _ s''=>CXX X.prog X.w X.outer X.H₀ X.s₀ E ev s'') (fun e' s''=>CXX X.prog X.w X.outer X.H₀ X.s₀ E e' s'') s')
  (ha:PA X [e] ta) (hd:(x == ("__debug__":Str)) = false:=by decide) (he:starEach [e] X.env = [(false,eval e X.env)]:=by rfl) :
  PS X (.Raise (some (.Call (.Name x np) [e] [] cpos)) none pos) (fun _ σ H=>ta σ H fun vs H1=>vs.length<=sizeLine/\E (.ref C) none H1):=by
 intro pins s σ H D I h
 obtain ⟨bm,N,nm,q,bs,hdct,sn,sub,ab,col,dd,k0,k1,k2,k3,k5,mN,hC,hN,hni,T⟩:=O.obj X.base I.ok.mod.kin
 refine zgQ (C:=C) (nm:=nm) (q:=q) (N:=N) (bs:=bs) (bm:=bm) (hdct:=hdct) (sn:=sn) (sub:=sub) (ab:=ab) (col:=col) (dd:=dd) (k0:=k0) (k1:=k1) (k2:=k2) (k3:=k3) (k5:=k5) (T.hasType PySem.F.excBase_ValueError.hasBase) hr.hd (by rw [he];rfl) (zbB I hg O.bound ⟨rfl,?_⟩ hd)
 have hq:=ha cpos pins s σ H _ I h
 rw [he] at hq ⊢
 refine Calls.evalArgs_plain (Qd hq (fun us s2 ⟨vs,H2,I2,r2,hl,hE⟩=>?_) fun _ _ y=>y)
 have hC2:=I2.bk _ _ hC
 refine ⟨rfl,hC2,?_⟩
 obtain ⟨h2,g2,d2,t2,os2⟩:=s2
 refine wpAny_call_exc_subT PySem.F.excBase_ValueError (T.keeps I2.bk) hC2 (hN.keeps I2.bk) hni (fun h' ev hm=>?_) (by rw [← r2.length];exact hl)
 obtain ⟨t,ge,_,_⟩:=hm.there
 obtain ⟨b1,b2,b3,b4,b5⟩:=I2.new0 hex hm.new
 have I3:Inv X pins σ H2 ⟨h',g2,d2,t2,os2⟩:=I2.kept (t':=t2) hm.keeps
 exact ⟨ev,t,none,rfl,hm.keeps _ _ hC2,ge,zk7 I3 hst hf hex hxe ge b2 b1 hE⟩
theorem zjY {K:Frag} {mg:Str->Option Value} (O:ExcAt K mg x C):Sup K mg x C C:=⟨O.bound,fun h X=>by
 obtain ⟨bm,N,nm,q,bs,hdct,sn,sub,ab,col,dd,k0,k1,k2,k3,k5,mN,hC,_,_,T⟩:=O.obj h X
 exact ⟨⟨bm,N,nm,q,bs,hdct,sn,sub,ab,col,dd,k0,k1,k2,k3,k5,hC,T.hasType PySem.F.excBase_ValueError.hasBase⟩,bm,N,nm,q,bs,hdct,sn,sub,ab,col,dd,k0,k1,k2,k3,k5,hC,by simp⟩⟩
end
end L2
namespace FT
open PySem PySem.Spec PyProof.Rows L2
variable {C:Addr} {x:Str}
theorem zlh {K:Frag} {mg:Str->Option Value} {h:Heap} (X:K.In h) (G:h.Ns mainGlobals mg) {N W:Addr} {nm q:Str} {bs:List Value} {hdct:Bool} {sn:List Str} {sub:List Value} {ab:Bool} {col:Option Bool} {dd:Option Addr} {k0 k1 k2 k3 k5:Option Value}
 {c1 c2 c3:Value} {d1 d2 d3:Option Addr} {es es':Array DictEntry} {ep ep':Nat} {s1 s2 s3:Array (Option Value)} {cdw:ClassData}
 (a:PySem.W.nsIn K mainGlobals x = some (some (.ref C)))
 (l:K.lookup C = some (excClassObj nm q C N bs (.ref W :: zdl) hdct sn sub ab col dd k0 k1 k2 k3 k5 "ValueError.__new__"))
 (ln:K.lookup N = some ⟨c1,d1,.dict es ep,s1⟩) (sk:zbK es = true) (q0:PySem.W.nsIn K N "__init__" = some none)
 (lw:K.lookup W = some ⟨c2,d2,.cls cdw,s2⟩) (lwn:K.lookup cdw.ns = some ⟨c3,d3,.dict es' ep',s3⟩) (sk':zbK es' = true) (q1:PySem.W.nsIn K cdw.ns "__init__" = some none):ExcAt K mg x (zee K x):=by
 rw [zk9 a]
 refine ⟨PySem.W.mg_of X G a,fun h' X'=>?_⟩
 obtain ⟨mN,hN,eN⟩:=zgn X' ln sk q0
 obtain ⟨mW,hW,eW⟩:=zgn X' lwn sk' q1
 exact ⟨_,N,nm,q,bs,hdct,sn,sub,ab,col,dd,k0,k1,k2,k3,k5,mN,X' _ _ l,hN,eN,.own (X' _ _ lw) hW eW .base⟩
variable {X:Cx} {ga:Ev->Mem->Out (List T)} {e:Expr} {cpos np pos:Pos} {XE:XK}
section
end
section
theorem zgD (O:ExcAt X.K X.mg x C) (hr:Room 2 X.A) (hg:Gl X x) (hst:X.stack = X.env :: X.outer) (hf:X.env.frame = some X.env.locals) (hex:X.ex = []) (hxe:X.xe = fun ev s'=>wpAny (model X.prog X.w) X.A (leaving X.env ev) (fun _ s''=>CXX X.prog X.w X.outer X.H₀ X.s₀ XE ev s'') (fun e' s''=>CXX X.prog X.w X.outer X.H₀ X.s₀ XE e' s'') s') (ha:WA X XE [e] ga) (hd:(x == ("__debug__":Str)) = false:=by decide) (he:noStar e = true:=by rfl):WS X XE (.Raise (some (.Call (.Name x np) [e] [] cpos)) none pos) (zcm (zaj C) ga):=by
 have ha:=ha.pe
 exact ⟨
  PS.imp (zhI O hr hg hst hf hex hxe ha hd (qt he)) fun D σ H hh=>
   LN.mono (LN.bind (f:=fun _ σ M=>ga σ M) (k:=fun _ ts σ M1=>zaj C ts M1) (RB:=Reps X.K) hh) fun vs H1 h9=>by
    obtain ⟨S,στ,a,e,m,ev,ra,fin⟩:=h9
    obtain ⟨u,ts⟩:=a
    have r:Reps X.K S ts vs:=ra.2
    replace fin:Fin XE (FlR X.K) X.K S (zaj C ts S.M) (yH D):=fin
    unfold zaj at fin
    split at fin
    ·rename_i hl
     subst e
     exact ⟨by rw [← r.1];exact hl,fin S none rfl (.refl m) (.inl ⟨rfl,rfl⟩)⟩
    ·exact fin.elim⟩
end
end FT
namespace L2
open PySem PySem.Spec PyProof.Rows
structure XiAt (K:Frag) (D:Addr):Prop where
 ga:PySem.W.findIn K (.ref D) "__getattribute__" = some (some (.builtin "BaseException.__getattribute__"))
 gt:PySem.W.findIn K (.ref D) "__getattr__" = some none
 c:(PySem.W.clsIn K D).isSome = true
 a:PySem.W.findIn K (.ref D) "__class__" = some (some (.builtin "object.__class__"))
 n:PySem.W.specialIn K (.builtin "object.__class__") "__get__" = some (some (.builtin "getset_descriptor.__get__"))
 t:PySem.W.takesIn K (.builtin "object.__class__") = some true
 m:PySem.W.mroIn K D (.type "object") = some true
 be:PySem.W.mroIn K D (.type "BaseException") = some true
end L2
namespace FT
open PySem PySem.Spec PyProof.Rows L2
structure IsAt (K:Frag) (mg:Str->Option Value) (y:Str) (g:Addr->Option Bool):Prop where
 ex:∃ (v:V) (c:Value),RelV v c/\(mg y = some c\/(mg y = none/\bootBuiltins y = some c))/\(∀ u,RelV v u->u = c)/\∀ C b,g C = some b->XiAt K C/\PySem.W.kitOne K (.ref C) c = some b
structure XmAt (K:Frag) (D W:Addr):Prop where
 ga:PySem.W.findIn K (.ref D) "__getattribute__" = some (some (.builtin "BaseException.__getattribute__"))
 gt:PySem.W.findIn K (.ref D) "__getattr__" = some none
 a:PySem.W.findIn K (.ref D) "__class__" = some (some (.builtin "object.__class__"))
 n:PySem.W.specialIn K (.builtin "object.__class__") "__get__" = some (some (.builtin "getset_descriptor.__get__"))
 t:PySem.W.takesIn K (.builtin "object.__class__") = some true
 mro:(PySem.W.clsIn K D).map (·.mro) = some (.ref D :: .ref W :: zdl)
 ty:PySem.W.typeIn K (.ref D) = some (.type "type")
section
variable {K:Frag} {mg:Str->Option Value} {C D W Y:Addr} {y:Str} {ks:List Addr}
theorem XmAt.in (x:XmAt K D W) (base:Value):PySem.W.mroIn K D base = some ((Value.ref D :: .ref W :: zdl).contains base):=by
 obtain ⟨cd,h,e⟩:=Option.map_eq_some_iff.mp x.mro
 unfold PySem.W.mroIn
 rw [h,Option.bind_some,e]
 rfl
theorem XmAt.cls (x:XmAt K D W):(PySem.W.clsIn K D).isSome = true:=by
 obtain ⟨cd,h,e⟩:=Option.map_eq_some_iff.mp x.mro
 rw [h]
 rfl
theorem zb5 (a b:Value) (l:List Value):(b :: l).contains a = (a == b || l.contains a):=List.contains_cons
theorem XmAt.xi (x:XmAt K D W):XiAt K D:=⟨x.ga,x.gt,x.cls,x.a,x.n,x.t,by rw [x.in,zb5,zb5,show zdl.contains (.type "object") = true by decide +kernel,Bool.or_true,Bool.or_true],by rw [x.in,zb5,zb5,show zdl.contains (.type "BaseException") = true by decide +kernel,Bool.or_true,Bool.or_true]⟩
end
end FT
namespace L2
open PySem PySem.Spec PyProof.Rows
noncomputable def znK (a:List Str) (x:Str):List Str:=if x ∈ a then a else a ++ [x]
noncomputable def met (ss:List Str):List Str:=ss.foldl znK []
section
variable {prog:Program} {w:World} {A:Around} {I:Addr} {fp wr:List Addr} {G:Array GenState->Array GenState->Prop} {n:Nat} {P:Nat->Value->Prop} {St:Nat->Shared->Prop} {R:Result->Shared->Prop}
variable {E:Value->Shared->Prop} {s:Shared}
theorem zf7 {v:Value} {Q:Bool->Shared->Prop} (hT:s.TypeIs v "list") (h:Q false s):wpAny (model prog w) A (Builtin.Frozenset.isAnySet v) Q E s:=by
 unfold Builtin.Frozenset.isAnySet
 refine Q1 (wpAny_isInstance hT PySem.F.sub_list_set ?_)
 exact wpAny_isInstance hT PySem.F.sub_list_frozenset h
end
end L2
namespace FT
open PySem PySem.Spec PyProof.Rows L2
variable {p:Addr} {X:Cx} {n:Int} {z z2:Nat} {j j2 pos:Pos} {XE:XK}
section
noncomputable def zeT (f:Ev->Mem->Out T):Ev->Mem->Out T:=fun σ M=>(f σ M).bind fun t M1=>match zd3 t with
 | some k=>.ok (.ref M1.length) (M1 ++ [.dic [(k,.bl true)]])
 | none=>.bad
theorem zjv {S:Sit} {k:Key} {Q:VK} (m:MemOk X.K S) (hp:S.H p = none) (fin:Fin XE (Rep X.K) X.K S (.ok (.ref S.M.length) (S.M ++ [.dic [(k,.bl true)]])) Q):Q (.ref p) (upd S.H p (.dK [(k,.bl true)])):=by
 have s1:Stp X.K S (S.more p (.dK [(k,.bl true)]) (.dic [(k,.bl true)])):=Stp.more m hp _ _ ⟨[(k,.bl true)],qo,RepK.nil.cons (.bl true)⟩
 have r1:Rep X.K (S.more p (.dK [(k,.bl true)]) (.dic [(k,.bl true)])) (.ref S.M.length) (.ref p):=by
  have h0:S.M.length < (S.M ++ [Cell.dic [(k,.bl true)]]).length:=by simp
  have:=Rep.ref (K:=X.K) (S:=S.more p (.dK [(k,.bl true)]) (.dic [(k,.bl true)])) (a:=S.M.length) h0
  have e1:(S.more p (.dK [(k,.bl true)]) (.dic [(k,.bl true)])).α S.M.length = p:=if_pos rfl
  rw [e1] at this
  exact this
 exact fin (S.more p (.dK [(k,.bl true)]) (.dic [(k,.bl true)])) (.ref p) rfl s1 r1
theorem zga {H:Hp} {o o':HO}:upd (upd H p o) p o' = upd H p o':=by
 funext z
 unfold upd
 by_cases e:z = p
 ·rw [if_pos e,if_pos e]
 ·rw [if_neg e,if_neg e,if_neg e]
end
section
theorem zhu:WE X XE (.Dict [some (.Constant (.int n) z2 j2)] [.Constant (.bool true) z j] pos) (zeT (eC (.int n))):=by
 refine ⟨?_⟩
 refine PE.imp (zko (ziX zhO zjG zkg) rfl rfl (by simp) (by simp)) fun σ H Q hh p hp=>?_
 obtain ⟨S,στ,_,e,m,ev,_,fin⟩:=hh
 subst e
 refine ⟨qo,[(.inl n,.bl true)],rfl,by simp,?_⟩
 rw [zga]
 exact zjv m hp fin
end
noncomputable def kd (M:Mem) (t:T):Nat:=if zV t = true then 1 else match t with
 | .tup _=>2
 | t=>match yq t M with
  | some _=>3
  | none=>0
end FT
namespace TS
open PySem PyProof.Rows
noncomputable abbrev kof (p:Keyed):Int:=numOf p.1
def IK (p:Keyed):Prop:=∃ n t,p.1 = .int n t
def So (l:List Keyed):Prop:=l.Pairwise fun x y=>kof x<=kof y
noncomputable def zd6:Bool->Keyed->Array Keyed->Nat->Nat->Nat->StateT SortSt Sem (Option Nat):=sortPriv% PySem.Builtin.gallop
noncomputable def zda:Array Keyed->Array Keyed->StateT SortSt Sem (Array Keyed):=sortPriv% PySem.Builtin.mergeLo
noncomputable def zdb:Array Keyed->Array Keyed->StateT SortSt Sem (Array Keyed):=sortPriv% PySem.Builtin.mergeHi
noncomputable def zbw:Nat->StateT SortSt Sem Unit:=sortPriv% PySem.Builtin.setMinGallop
variable {A:Around} {arr:Array Keyed} {left:Bool} {key p:Keyed} {i:Nat} {Q:Option Bool->SortSt->Prop} {prog:Program} {s:Shared} {st:SortSt} {E:Value->Shared->Prop} {w:World}
section
theorem zah {x y:Keyed} (hk:kindOf st = oneType') (hx:IK x) (hy:IK y)
 (h:Q (some (decide (kof x < kof y))) st):wpS (model prog w) A E s (lt' x y) Q st:=by
 obtain ⟨a,t,e1⟩:=hx
 obtain ⟨b,u,e2⟩:=hy
 have h':Q (some (decide (a < b))) st:=by
  have:decide (kof x < kof y) = decide (a < b):=by simp [kof,e1,e2,numOf]
  rwa [this] at h
 rw [lt'_eq]
 refine wpS_bind (wpS_get ?_)
 rw [hk,keyLt'_oneType,e1,e2]
 refine wpS_bind (wpS_lift (wpAny_attempt (oneLt_int ⟨rfl,?_⟩)))
 exact wpS_pure h'
theorem zh {Q:Keyed->SortSt->Prop} (hi:arr.toList[i]? = some p) (h:Q p st) :
  wpS (model prog w) A E s (elem' arr i) Q st:=by
 rw [elem'_eq,← Array.getElem?_toList,hi];exact wpS_pure h
theorem zfO (hk:kindOf st = oneType')
 (hi:arr.toList[i]? = some p) (hp:IK p) (hkey:IK key) (h:Q (some (if left then decide (kof p < kof key) else decide (kof p<=kof key))) st) :
  wpS (model prog w) A E s (do
   let x ← elem' arr i
   if left = true then lt' x key else do
    let r ← lt' key x
    pure (Option.map (fun x=>!x) r)) Q st:=by
 refine wpS_bind (zh hi ?_)
 cases left with
 | true=>exact zah hk hp hkey h
 | false=>
  refine wpS_bind (zah hk hkey hp (wpS_pure ?_))
  have:(!decide (kof key < kof p)) = decide (kof p<=kof key):=by
   by_cases h1:kof key < kof p <;> simp [h1] <;> omega
  simpa [this] using h
end
variable {n:Nat}
section
noncomputable def bq (left:Bool) (key p:Keyed):Bool:=if left then decide (kof p < kof key) else decide (kof p<=kof key)
theorem zeh {q:Keyed} (h:kof p<=kof q) (hq:bq left key q = true):bq left key p = true:=by
 unfold bq at hq ⊢
 cases left <;> simp at hq ⊢ <;> omega
theorem qv {base hint:Nat} {L:List Keyed} {Q:Option Nat->SortSt->Prop}
 (hk:kindOf st = oneType') (hkey:IK key) (hL:(arr.toList.drop base).take n = L) (hn:L.length = n) (hI:∀ p ∈ L,IK p) (hS:So L) (hh:hint < n)
 (h:∀ k,k<=n->(∀ p ∈ L.take k,bq left key p = true)->(∀ p ∈ L.drop k,bq left key p = false)->Q (some k) st) :
  wpS (model prog w) A E s (zd6 left key arr base n hint) Q st:=by
 have at_:∀ i,(hi:i < n)->arr.toList[base + i]? = some (L[i]'(by omega)):=by
  intro i hi
  have:L[i]? = some (L[i]'(by omega)):=getElem?_pos ..
  rw [← this,← hL,getElem?_take,if_pos hi,getElem?_drop]
 obtain ⟨b,hb⟩:∃ b:Nat->Bool,∀ i,(hi:i < n)->b i = bq left key (L[i]'(by omega)):=
  ⟨fun i=>if hi:i < n then bq left key (L[i]'(by omega)) else false,fun i hi=>by simp [hi]⟩
 have mono:∀ i j,i<=j->j < n->b j = true->b i = true:=by
  intro i j hij hj hbj
  by_cases e:i = j
  ·subst e;exact hbj
  ·rw [hb i (by omega)];rw [hb j hj] at hbj
   exact zeh (pairwise_iff_getElem.mp hS i j (by omega) (by omega) (by omega)) hbj
 have mono':∀ i j,i<=j->j < n->b i = false->b j = false:=by
  intro i j hij hj hbi
  cases e:b j with
  | false=>rfl
  | true=>rw [mono i j hij hj e] at hbi;cases hbi
 have bey:∀ {Q':Option Bool->SortSt->Prop} i,i < n->Q' (some (b i)) st->wpS (model prog w) A E s (do
   let x ← elem' arr (base + i)
   if left = true then lt' x key else do
    let r ← lt' key x
    pure (Option.map (fun x=>!x) r)) Q' st:=by
  intro Q' i hi h'
  refine zfO hk (at_ i hi) (hI _ (getElem_mem _)) hkey ?_
  rw [hb i hi] at h';exact h'
 have fin:∀ k,k<=n->(∀ i,i < k->b i = true)->(∀ i,k<=i->i < n->b i = false)->Q (some k) st:=by
  intro k hkn h1 h2
  refine h k hkn (fun p hp=>?_) (fun p hp=>?_)
  ·obtain ⟨i,hi,rfl⟩:=mem_iff_getElem.mp hp
   rw [Qn] at hi
   rw [List.getElem_take,← hb i (by omega)];exact h1 i (by omega)
  ·obtain ⟨i,hi,rfl⟩:=mem_iff_getElem.mp hp
   rw [length_drop] at hi
   rw [List.getElem_drop,← hb (k + i) (by omega)];exact h2 _ (by omega) (by omega)
 refine wpS_bind (bey hint hh ?_)
 dsimp only
 cases hbh:b hint with
 | true=>
  rw [if_pos rfl]
  refine wpS_bind (wpS_mono (wpS_forRange (I:=fun j c st'=>st' = st/\∃ l o,c = (none,l,o)/\l < o/\j + 1<=o/\hint + l < n/\b (hint + l) = true)
   (Q:=fun c st'=>st' = st/\∃ l o,c = (none,l,o)/\l < o/\hint + l < n/\b (hint + l) = true/\(n - hint<=o\/(hint + o < n/\b (hint + o) = false))) ?_ ?_
   ⟨rfl,0,1,rfl,by omega,by omega,by omega,hbh⟩) ?_)
  ·rintro i c st1 _ hi ⟨rfl,l,o,rfl,h1,h2,h3,h4⟩
   dsimp only
   by_cases ho:o ≥ n - hint
   ·rw [if_pos ho];exact wpS_pure ⟨rfl,l,o,rfl,h1,h3,h4,.inl ho⟩
   ·rw [if_neg ho]
    refine wpS_bind (bey (hint + o) (by omega) ?_)
    cases hbo:b (hint + o) with
    | false=>exact wpS_pure ⟨rfl,l,o,rfl,h1,h3,h4,.inr ⟨by omega,hbo⟩⟩
    | true=>exact wpS_pure ⟨rfl,o,2 * o + 1,rfl,by omega,by omega,by omega,hbo⟩
  ·rintro c st1 ⟨rfl,l,o,rfl,h1,h2,h3,h4⟩
   exact ⟨rfl,l,o,rfl,h1,h3,h4,.inl (by omega)⟩
  ·rintro c st1 ⟨rfl,l,o,rfl,h1,h3,h4,h5⟩
   dsimp only
   have f1:∀ i,i < hint + l + 1->b i = true:=fun i hi=>mono i (hint + l) (by omega) h3 h4
   have f2:∀ i,hint + min o (n - hint)<=i->i < n->b i = false:=by
    intro i hi1 hi2
    rcases h5 with h5 | ⟨h5,h6⟩
    ·omega
    ·exact mono' (hint + o) i (by omega) hi2 h6
   have f3:hint + l + 1<=hint + min o (n - hint):=by omega
   have f4:hint + min o (n - hint)<=n:=by omega
   generalize hint + l + 1 = lo at *
   generalize hint + min o (n - hint) = hi at *
   clear h1 h3 h4 h5
   refine wpS_bind (wpS_mono (wpS_forRange (I:=fun j c st'=>st' = st1/\∃ l r,c = (none,l,r)/\l<=r/\r<=n/\r - l<=n - j/\(∀ i,i < l->b i = true)/\(∀ i,r<=i->i < n->b i = false))
    (Q:=fun c st'=>st' = st1/\∃ l,c = (none,l,l)/\l<=n/\(∀ i,i < l->b i = true)/\(∀ i,l<=i->i < n->b i = false)) ?_ ?_
    ⟨rfl,lo,hi,rfl,f3,f4,by omega,f1,f2⟩) ?_)
   ·rintro i c st2 _ hin ⟨rfl,l,r,rfl,g1,g2,g3,g4,g5⟩
    dsimp only
    by_cases hlr:l ≥ r
    ·rw [if_pos hlr]
     have:l = r:=by omega
     subst this
     exact wpS_pure ⟨rfl,l,rfl,g2,g4,g5⟩
    ·rw [if_neg hlr]
     refine wpS_bind (bey (l + (r - l) / 2) (by omega) ?_)
     cases hbm:b (l + (r - l) / 2) with
     | true=>exact wpS_pure ⟨rfl,l + (r - l) / 2 + 1,r,rfl,by omega,g2,by omega,fun i hi=>mono i _ (by omega) (by omega) hbm,g5⟩
     | false=>exact wpS_pure ⟨rfl,l,l + (r - l) / 2,rfl,by omega,by omega,by omega,g4,fun i hi1 hi2=>mono' _ i hi1 hi2 hbm⟩
   ·rintro c st2 ⟨rfl,l,r,rfl,g1,g2,g3,g4,g5⟩
    have:l = r:=by omega
    subst this
    exact ⟨rfl,l,rfl,g2,g4,g5⟩
   ·rintro c st2 ⟨rfl,l,rfl,g2,g4,g5⟩
    exact wpS_pure (fin l g2 g4 g5)
 | false=>
  rw [if_neg (by decide)]
  refine wpS_bind (wpS_mono (wpS_forRange (I:=fun j c st'=>st' = st/\∃ l o,c = (none,l,o)/\l < o/\j + 1<=o/\l<=hint/\b (hint - l) = false)
   (Q:=fun c st'=>st' = st/\∃ l o,c = (none,l,o)/\l < o/\l<=hint/\b (hint - l) = false/\(hint + 1<=o\/(o<=hint/\b (hint - o) = true))) ?_ ?_
   ⟨rfl,0,1,rfl,by omega,by omega,by omega,hbh⟩) ?_)
  ·rintro i c st1 _ hi ⟨rfl,l,o,rfl,h1,h2,h3,h4⟩
   dsimp only
   by_cases ho:o ≥ hint + 1
   ·rw [if_pos ho];exact wpS_pure ⟨rfl,l,o,rfl,h1,h3,h4,.inl ho⟩
   ·rw [if_neg ho]
    refine wpS_bind (bey (hint - o) (by omega) ?_)
    cases hbo:b (hint - o) with
    | true=>exact wpS_pure ⟨rfl,l,o,rfl,h1,h3,h4,.inr ⟨by omega,hbo⟩⟩
    | false=>exact wpS_pure ⟨rfl,o,2 * o + 1,rfl,by omega,by omega,by omega,hbo⟩
  ·rintro c st1 ⟨rfl,l,o,rfl,h1,h2,h3,h4⟩
   exact ⟨rfl,l,o,rfl,h1,h3,h4,.inl (by omega)⟩
  ·rintro c st1 ⟨rfl,l,o,rfl,h1,h3,h4,h5⟩
   dsimp only
   have f1:∀ i,i < hint + 1 - min o (hint + 1)->b i = true:=by
    intro i hi
    rcases h5 with h5 | ⟨h5,h6⟩
    ·omega
    ·exact mono i (hint - o) (by omega) (by omega) h6
   have f2:∀ i,hint - l<=i->i < n->b i = false:=fun i hi1 hi2=>mono' (hint - l) i hi1 hi2 h4
   have f3:hint + 1 - min o (hint + 1)<=hint - l:=by omega
   have f4:hint - l<=n:=by omega
   generalize hint + 1 - min o (hint + 1) = lo at *
   generalize hint - l = hi at *
   clear h1 h3 h4 h5
   refine wpS_bind (wpS_mono (wpS_forRange (I:=fun j c st'=>st' = st1/\∃ l r,c = (none,l,r)/\l<=r/\r<=n/\r - l<=n - j/\(∀ i,i < l->b i = true)/\(∀ i,r<=i->i < n->b i = false))
    (Q:=fun c st'=>st' = st1/\∃ l,c = (none,l,l)/\l<=n/\(∀ i,i < l->b i = true)/\(∀ i,l<=i->i < n->b i = false)) ?_ ?_
    ⟨rfl,lo,hi,rfl,f3,f4,by omega,f1,f2⟩) ?_)
   ·rintro i c st2 _ hin ⟨rfl,l,r,rfl,g1,g2,g3,g4,g5⟩
    dsimp only
    by_cases hlr:l ≥ r
    ·rw [if_pos hlr]
     have:l = r:=by omega
     subst this
     exact wpS_pure ⟨rfl,l,rfl,g2,g4,g5⟩
    ·rw [if_neg hlr]
     refine wpS_bind (bey (l + (r - l) / 2) (by omega) ?_)
     cases hbm:b (l + (r - l) / 2) with
     | true=>exact wpS_pure ⟨rfl,l + (r - l) / 2 + 1,r,rfl,by omega,g2,by omega,fun i hi=>mono i _ (by omega) (by omega) hbm,g5⟩
     | false=>exact wpS_pure ⟨rfl,l,l + (r - l) / 2,rfl,by omega,by omega,by omega,g4,fun i hi1 hi2=>mono' _ i hi1 hi2 hbm⟩
   ·rintro c st2 ⟨rfl,l,r,rfl,g1,g2,g3,g4,g5⟩
    have:l = r:=by omega
    subst this
    exact ⟨rfl,l,rfl,g2,g4,g5⟩
   ·rintro c st2 ⟨rfl,l,rfl,g2,g4,g5⟩
    exact wpS_pure (fin l g2 g4 g5)
end
def le' (c d:List Keyed):Prop:=∀ x ∈ c,∀ y ∈ d,kof x<=kof y
variable {l m:List Keyed}
theorem zg:So (l ++ m) ↔ So l/\So m/\le' l m:=pairwise_append
theorem le_app {n:List Keyed}:le' l (m ++ n) ↔ le' l m/\le' l n:=by
 unfold le'
 constructor
 ·intro h;exact ⟨fun x hx y hy=>h x hx y (mem_append_left _ hy),fun x hx y hy=>h x hx y (Qj _ hy)⟩
 ·rintro ⟨h1,h2⟩ x hx y hy
  rcases mem_append.mp hy with h | h
  ·exact h1 x hx y h
  ·exact h2 x hx y h
theorem z3 {n:List Keyed}:le' (l ++ m) n ↔ le' l n/\le' m n:=by
 unfold le'
 constructor
 ·intro h;exact ⟨fun x hx y hy=>h x (mem_append_left _ hx) y hy,fun x hx y hy=>h x (Qj _ hx) y hy⟩
 ·rintro ⟨h1,h2⟩ x hx y hy
  rcases mem_append.mp hx with h | h
  ·exact h1 x h y hy
  ·exact h2 x h y hy
theorem le_nil:le' l []:=fun _ _ _ h=>by cases h
theorem nil_le:le' [] l:=fun _ h=>by cases h
structure MI (T o xs ys:List Keyed):Prop where
 perm:(o ++ (xs ++ ys)).Perm T
 l:So (o ++ xs)
 r:So (o ++ ys)
structure Res (T r:List Keyed):Prop where
 perm:r.Perm T
 so:So r
variable {c o xs ys:List Keyed}
theorem MI.movL {T:List Keyed} (h:MI T o (c ++ xs) ys) (hc:le' c ys):MI T (o ++ c) xs ys:=by
 have h1:=h.l
 have h2:=h.r
 rw [zg,zg,le_app] at h1
 rw [zg] at h2
 refine ⟨by simpa [append_assoc] using h.perm,by simpa [append_assoc] using h.l,?_⟩
 rw [zg,zg,z3]
 exact ⟨⟨h1.1,h1.2.1.1,h1.2.2.1⟩,h2.2.1,h2.2.2,hc⟩
theorem MI.swap {T:List Keyed} (h:MI T o xs ys):MI T o ys xs:=
 ⟨(List.Perm.append_left o perm_append_comm).trans h.perm,h.r,h.l⟩
theorem MI.movR {T:List Keyed} (h:MI T o xs (c ++ ys)) (hc:le' c xs):MI T (o ++ c) xs ys:=(h.swap.movL hc).swap
theorem MI.fin {T:List Keyed} (h:MI T o xs ys) (hc:le' xs ys):Res T (o ++ (xs ++ ys)):=by
 have h1:=h.l
 have h2:=h.r
 rw [zg] at h1 h2
 refine ⟨h.perm,?_⟩
 rw [zg,zg,le_app]
 exact ⟨h1.1,⟨h1.2.1,h2.2.1,hc⟩,h1.2.2,h2.2.2⟩
structure MJ (T o xs ys:List Keyed):Prop where
 perm:((xs ++ ys) ++ o).Perm T
 l:So (xs ++ o)
 r:So (ys ++ o)
theorem MJ.swap {T:List Keyed} (h:MJ T o xs ys):MJ T o ys xs:=
 ⟨(List.Perm.append_right o perm_append_comm).trans h.perm,h.r,h.l⟩
theorem MJ.movR {T:List Keyed} (h:MJ T o xs (ys ++ c)) (hc:le' xs c):MJ T (c ++ o) xs ys:=by
 have h1:=h.l
 have h2:=h.r
 rw [zg] at h1
 rw [zg,zg,z3] at h2
 refine ⟨by simpa [append_assoc] using h.perm,?_,by simpa [append_assoc] using h.r⟩
 rw [zg,zg,le_app]
 exact ⟨h1.1,⟨h2.1.2.1,h2.2.1,h2.2.2.2⟩,hc,h1.2.2⟩
theorem MJ.movL {T:List Keyed} (h:MJ T o (xs ++ c) ys) (hc:le' ys c):MJ T (c ++ o) xs ys:=(h.swap.movR hc).swap
theorem MJ.fin {T:List Keyed} (h:MJ T o xs ys) (hc:le' xs ys):Res T ((xs ++ ys) ++ o):=by
 have h1:=h.l
 have h2:=h.r
 rw [zg] at h1 h2
 refine ⟨h.perm,?_⟩
 rw [zg,zg,z3]
 exact ⟨⟨h1.1,h2.1,hc⟩,h1.2.1,h1.2.2,h2.2.2⟩
theorem qP (h:So l) (n:Nat):So (l.drop n):=h.sublist (List.drop_sublist _ _)
theorem yP (h:So l) (n:Nat):So (l.take n):=h.sublist (List.take_sublist _ _)
theorem zdO (h:So l) (hn:n < l.length):∀ y ∈ l.drop n,kof l[n]<=kof y:=by
 intro y hy
 rw [drop_eq_getElem_cons hn] at hy
 rcases mem_cons.mp hy with rfl | hy
 ·exact Int.le_refl _
 ·have:=qP h n
  rw [drop_eq_getElem_cons hn] at this
  exact List.rel_of_pairwise_cons this hy
theorem zdN (h:So l) (hn:n < l.length):∀ y ∈ l.take (n + 1),kof y<=kof l[n]:=by
 intro y hy
 rw [List.take_succ_eq_append_getElem hn] at hy
 rcases mem_append.mp hy with hy | hy
 ·have:=yP h (n + 1)
  rw [List.take_succ_eq_append_getElem hn] at this
  exact (pairwise_append.mp this).2.2 y hy _ (by simp)
 ·simp at hy;subst hy;exact Int.le_refl _
theorem zab (a:Array Keyed) (i:Nat):(a.extract i).toList = a.toList.drop i:=by
 rw [Array.toList_extract,extract_eq_take_drop];exact take_of_length_le (by simp)
theorem ext2 (a:Array Keyed) (i k:Nat):(a.extract i (i + k)).toList = (a.toList.drop i).take k:=by
 rw [Array.toList_extract,extract_eq_take_drop];congr 1;omega
def Same (st st':SortSt):Prop:=kindOf st' = kindOf st/\arrOf st' = arrOf st/\pendingOf st' = pendingOf st/\failedOf st' = failedOf st
theorem Same.slf (st:SortSt):Same st st:=⟨rfl,rfl,rfl,rfl⟩
structure MC (a b:Array Keyed):Prop where
 ia:∀ p ∈ a.toList,IK p
 ib:∀ p ∈ b.toList,IK p
 sa:So a.toList
 sb:So b.toList
 na:0 < a.toList.length
 nb:0 < b.toList.length
 first:∀ y ∈ a.toList,kof (b.toList[0]'nb)<=kof y
 last:∀ y ∈ b.toList,kof y<=kof (a.toList[a.toList.length - 1]'(by omega))
noncomputable abbrev TT (a b:Array Keyed):List Keyed:=a.toList ++ b.toList
noncomputable abbrev ML (a b:Array Keyed) (o:List Keyed) (i j:Nat):Prop:=MI (TT a b) o (a.toList.drop i) (b.toList.drop j)
variable {out:Array Keyed} {j:Nat}
section
variable {a b:Array Keyed} {k:Nat}
theorem ML.chA (h:ML a b o i j) (hc:le' ((a.toList.drop i).take k) (b.toList.drop j)):ML a b (o ++ (a.toList.drop i).take k) (i + k) j:=by
 unfold ML at h ⊢
 rw [← take_append_drop k (a.toList.drop i),drop_drop] at h
 exact h.movL hc
theorem ML.chB (h:ML a b o i j) (hc:le' ((b.toList.drop j).take k) (a.toList.drop i)):ML a b (o ++ (b.toList.drop j).take k) i (j + k):=by
 unfold ML at h ⊢
 rw [← take_append_drop k (b.toList.drop j),drop_drop] at h
 exact h.movR hc
theorem take1 (h:l[i]? = some p):(l.drop i).take 1 = [p]:=by
 obtain ⟨hi,rfl⟩:=List.getElem?_eq_some_iff.mp h
 rw [drop_eq_getElem_cons hi];rfl
theorem ML.psA (h:ML a b o i j) (hp:a.toList[i]? = some p) (hc:∀ y ∈ b.toList.drop j,kof p<=kof y):ML a b (o ++ [p]) (i + 1) j:=by
 have:=h.chA (k:=1) (by rw [take1 hp];intro x hx;simp at hx;subst hx;exact hc)
 rwa [take1 hp] at this
theorem ML.psB (h:ML a b o i j) (hp:b.toList[j]? = some p) (hc:∀ y ∈ a.toList.drop i,kof p<=kof y):ML a b (o ++ [p]) i (j + 1):=by
 have:=h.chB (k:=1) (by rw [take1 hp];intro x hx;simp at hx;subst hx;exact hc)
 rwa [take1 hp] at this
theorem ML.doneB (h:ML a b out.toList i j) (hj:j = b.size):Res (TT a b) (out ++ a.extract i ++ b.extract j).toList:=by
 have:b.toList.drop j = []:=drop_eq_nil_of_le (by simp [hj])
 rw [Array.toList_append,Array.toList_append,zab,zab,append_assoc]
 exact MI.fin h (by rw [this];exact le_nil)
theorem ML.doneA (h:ML a b out.toList i j) (hi:i = a.size):Res (TT a b) (out ++ a.extract i ++ b.extract j).toList:=by
 have:a.toList.drop i = []:=drop_eq_nil_of_le (by simp [hi])
 rw [Array.toList_append,Array.toList_append,zab,zab,append_assoc]
 exact MI.fin h (by rw [this];exact nil_le)
theorem ML.lastA (h:ML a b out.toList i j) (c:MC a b) (hi:i + 1 = a.size):Res (TT a b) (out ++ b.extract j ++ a.extract i).toList:=by
 rw [Array.toList_append,Array.toList_append,zab,zab,append_assoc]
 refine MI.fin h.swap (fun x hx y hy=>?_)
 have hl:=c.last x (mem_of_mem_drop hx)
 rw [drop_eq_getElem_cons (by simp;omega)] at hy
 have:a.toList.drop (i + 1) = []:=drop_eq_nil_of_le (by simp;omega)
 rw [this] at hy
 simp at hy;subst hy
 have e:a.toList.length - 1 = i:=by simp;omega
 simp only [e] at hl
 simpa using hl
theorem at' (h:i < l.length):∃ p,l[i]? = some p/\p ∈ l/\p ∈ l.drop i/\(So l->∀ y ∈ l.drop i,kof p<=kof y):=by
 refine ⟨l[i],getElem?_pos ..,getElem_mem _,?_,fun hs=>zdO hs h⟩
 rw [drop_eq_getElem_cons h];exact mem_cons_self
end
variable {st0:SortSt}
section
theorem qG {g:Nat} {Q:Unit->SortSt->Prop} (h0:Same st0 st) (h:∀ st',Same st0 st'->Q () st'):wpS (model prog w) A E s (zbw g) Q st:=by
 unfold zbw
 exact wpS_modify (h _ h0)
theorem zbS {a b:Array Keyed} {Q:Array Keyed->SortSt->Prop} (hk:kindOf st = oneType') (c:MC a b)
 (h:∀ r st',Same st st'->Res (TT a b) r.toList->Q r st'):wpS (model prog w) A E s (zda a b) Q st:=by
 have ea:a.toList.length = a.size:=by simp
 have eb:b.toList.length = b.size:=by simp
 have na:=c.na
 have nb:=c.nb
 refine wpS_bind (wpS_lift (wpAny_rule ⟨rfl,?_⟩))
 obtain ⟨p0,hp0,hm0,_,_⟩:=at' nb
 have hf:∀ y ∈ a.toList,kof p0<=kof y:=by
  have:=c.first
  obtain ⟨_,e⟩:=List.getElem?_eq_some_iff.mp hp0
  rw [e] at this;exact this
 refine wpS_bind (zh hp0 ?_)
 have M0:ML a b (#[p0]:Array Keyed).toList 0 1:=by
  have:ML a b [] 0 0:=⟨by simp [TT],by simpa using c.sa,by simpa using c.sb⟩
  simpa using this.psB hp0 (by simpa using hf)
 dsimp only
 by_cases h1:1 = b.size
 ·rw [if_pos (by simpa using h1)]
  exact wpS_pure (h _ _ (Same.slf _) (M0.doneB h1))
 rw [if_neg (by simpa using h1)]
 by_cases h2:0 + 1 = a.size
 ·rw [if_pos (by simpa using h2)]
  exact wpS_pure (h _ _ (Same.slf _) (M0.lastA c h2))
 rw [if_neg (by simpa using h2)]
 refine wpS_bind (wpS_get ?_)
 refine wpS_bind (wpS_mono (wpS_forRange (I:=fun x cc st'=>Same st st'/\∃ o i j g,cc = (none,o,i,j,g)/\i + 1 < a.size/\j < b.size/\x + 1<=i + j/\ML a b o.toList i j)
  (Q:=fun cc st'=>Same st st'/\∃ r y,cc = (some r,y)/\Res (TT a b) r.toList) ?_ ?_ ⟨Same.slf _,_,_,_,_,rfl,by omega,by omega,by omega,M0⟩) ?_)
 ·rintro x cc st1 _ hx ⟨hS1,o,i,j,g,rfl,hi,hj,hij,hM⟩
  dsimp only
  refine wpS_bind (wpS_mono (wpS_forRange (I:=fun y cc st'=>Same st st'/\∃ o' i' j' ac bc,cc = (none,o',i',j',ac,bc)/\i' + 1 < a.size/\j' < b.size/\i + j + y<=i' + j'/\ML a b o'.toList i' j')
   (Q:=fun cc st'=>Same st st'/\∃ r o' i' j' ac bc,cc = (r,o',i',j',ac,bc)/\((∃ r',r = some r'/\Res (TT a b) r'.toList) \/
    (r = none/\i' + 1 < a.size/\j' < b.size/\i + j + 1<=i' + j'/\ML a b o'.toList i' j'))) ?_ ?_ ⟨hS1,_,_,_,_,_,rfl,hi,hj,by omega,hM⟩) ?_)
  ·rintro y cc st2 _ hy ⟨hS2,o',i',j',ac,bc,rfl,hi',hj',hij',hM'⟩
   dsimp only
   have hk2:kindOf st2 = oneType':=hS2.1.trans hk
   obtain ⟨p,hp,pm,pd,pl⟩:=at' (l:=b.toList) (i:=j') (by omega)
   obtain ⟨q,hq,qm,qd,ql⟩:=at' (l:=a.toList) (i:=i') (by omega)
   refine wpS_bind (zh hp (wpS_bind (zh hq (wpS_bind (zah hk2 (c.ib _ pm) (c.ia _ qm) ?_)))))
   by_cases hlt:kof p < kof q
   ·simp only [hlt,decide_true,if_true]
    refine wpS_bind (zh hp ?_)
    have M2:ML a b (o'.push p).toList i' (j' + 1):=by
     rw [Array.toList_push]
     exact hM'.psB hp fun y hy=>Int.le_trans (Int.le_of_lt hlt) (ql c.sa y hy)
    by_cases h3:j' + 1 = b.size
    ·rw [if_pos (by simpa using h3)]
     exact wpS_pure ⟨hS2,_,_,_,_,_,_,rfl,.inl ⟨_,rfl,M2.doneB h3⟩⟩
    ·rw [if_neg (by simpa using h3)]
     split
     ·exact wpS_pure ⟨hS2,_,_,_,_,_,_,rfl,.inr ⟨rfl,hi',by omega,by omega,M2⟩⟩
     ·exact wpS_pure ⟨hS2,_,_,_,_,_,rfl,hi',by omega,by omega,M2⟩
   ·simp only [hlt,decide_false,Bool.false_eq_true,if_false]
    refine wpS_bind (zh hq ?_)
    have M2:ML a b (o'.push q).toList (i' + 1) j':=by
     rw [Array.toList_push]
     exact hM'.psA hq fun y hy=>Int.le_trans (Int.not_lt.mp hlt) (pl c.sb y hy)
    by_cases h3:i' + 1 + 1 = a.size
    ·rw [if_pos (by simpa using h3)]
     exact wpS_pure ⟨hS2,_,_,_,_,_,_,rfl,.inl ⟨_,rfl,M2.lastA c h3⟩⟩
    ·rw [if_neg (by simpa using h3)]
     split
     ·exact wpS_pure ⟨hS2,_,_,_,_,_,_,rfl,.inr ⟨rfl,by omega,by omega,by omega,M2⟩⟩
     ·exact wpS_pure ⟨hS2,_,_,_,_,_,rfl,by omega,by omega,by omega,M2⟩
  ·rintro cc st2 ⟨hS2,o',i',j',ac,bc,rfl,hi',hj',hij',hM'⟩
   exact ⟨hS2,_,_,_,_,_,_,rfl,.inr ⟨rfl,hi',hj',by omega,hM'⟩⟩
  ·rintro cc st2 ⟨hS2,r,o',i',j',ac,bc,rfl,hor⟩
   dsimp only
   rcases hor with ⟨r',rfl,hR⟩ | ⟨rfl,hi',hj',hij',hM'⟩
   ·exact wpS_pure ⟨hS2,_,_,rfl,hR⟩
   dsimp only
   refine wpS_bind (wpS_lift (wpAny_rule ⟨rfl,?_⟩))
   refine wpS_bind (wpS_mono (wpS_forRange (I:=fun y cc st'=>Same st st'/\∃ o'' i'' j'' g ac bc,cc = (none,o'',i'',j'',g,ac,bc)/\i'' + 1 < a.size/\j'' < b.size/\i' + j'<=i'' + j''/\ML a b o''.toList i'' j'')
    (Q:=fun cc st'=>Same st st'/\∃ r o'' i'' j'' g ac bc,cc = (r,o'',i'',j'',g,ac,bc)/\((∃ r',r = some r'/\Res (TT a b) r'.toList) \/
     (r = none/\i'' + 1 < a.size/\j'' < b.size/\i' + j'<=i'' + j''/\ML a b o''.toList i'' j''))) ?_ ?_ ⟨hS2,_,_,_,_,_,_,rfl,hi',hj',by omega,hM'⟩) ?_)
   ·clear hM hM' hi hj hi' hj' hij hij'
    rintro y cc st3 _ hy ⟨hS3,o3,i3,j3,g3,ac3,bc3,rfl,hi3,hj3,hij3,hM3⟩
    dsimp only
    obtain ⟨p,hp,pm,pd,pl⟩:=at' (l:=b.toList) (i:=j3) (by omega)
    by_cases hg:g3 > 1
    case' pos=>rw [if_pos hg]
    case' neg=>rw [if_neg hg]
    all_goals
     refine wpS_bind (qG hS3 fun st4 hS4=>?_)
     have hk4:kindOf st4 = oneType':=hS4.1.trans hk
     refine wpS_bind (zh hp (wpS_bind (qv (L:=a.toList.drop i3) hk4 (c.ib _ pm) (take_of_length_le (by simp)) (by simp) (fun x hx=>c.ia x (mem_of_mem_drop hx)) (qP c.sa _) (by omega) fun k hkn g1 g2=>?_)))
     dsimp only
     have MA:ML a b (o3 ++ a.extract i3 (i3 + k)).toList (i3 + k) j3:=by
      rw [Array.toList_append,ext2]
      exact hM3.chA fun x hx y hy=>Int.le_trans (by simpa [bq] using g1 x hx) (pl c.sb y hy)
     have gA:∀ y ∈ a.toList.drop (i3 + k),kof p<=kof y:=by
      intro y hy
      have:=g2 y (by rw [drop_drop];exact hy)
      simp [bq] at this;omega
     by_cases hk0:k > 0
     case' pos=>
      rw [if_pos hk0]
      by_cases e1:i3 + k + 1 = a.size
      ·rw [if_pos (by simpa using e1)]
       exact wpS_pure ⟨hS4,_,_,_,_,_,_,_,rfl,.inl ⟨_,rfl,MA.lastA c e1⟩⟩
      rw [if_neg (by simpa using e1)]
      by_cases e2:i3 + k = a.size
      ·rw [if_pos (by simpa using e2)]
       exact wpS_pure ⟨hS4,_,_,_,_,_,_,_,rfl,.inl ⟨_,rfl,MA.doneA e2⟩⟩
      rw [if_neg (by simpa using e2)]
      have hi4:i3 + k + 1 < a.size:=by omega
      have hij4:i' + j'<=i3 + k + j3:=by omega
      clear g1 g2
      generalize o3 ++ a.extract i3 (i3 + k) = o4 at *
      generalize i3 + k = i4 at *
     case' neg=>
      rw [if_neg hk0]
      have hz:k = 0:=by omega
      subst hz
      rw [Nat.add_zero] at gA
      clear MA g1 g2
      have MA:=hM3
      have hi4:=hi3
      have hij4:=hij3
      generalize o3 = o4 at *
      generalize i3 = i4 at *
     all_goals
      refine wpS_bind (zh hp ?_)
      have M5:ML a b (o4.push p).toList i4 (j3 + 1):=by rw [Array.toList_push];exact MA.psB hp gA
      by_cases e3:j3 + 1 = b.size
      ·rw [if_pos (by simpa using e3)]
       exact wpS_pure ⟨hS4,_,_,_,_,_,_,_,rfl,.inl ⟨_,rfl,M5.doneB e3⟩⟩
      rw [if_neg (by simpa using e3)]
      obtain ⟨q,hq,qm,qd,ql⟩:=at' (l:=a.toList) (i:=i4) (by omega)
      refine wpS_bind (zh hq (wpS_bind (qv (L:=b.toList.drop (j3 + 1)) hk4 (c.ia _ qm) (take_of_length_le (by simp)) (by simp) (fun x hx=>c.ib x (mem_of_mem_drop hx)) (qP c.sb _) (by omega) fun k' hkn' g1' g2'=>?_)))
      dsimp only
      have MB:ML a b (o4.push p ++ b.extract (j3 + 1) (j3 + 1 + k')).toList i4 (j3 + 1 + k'):=by
       rw [Array.toList_append,ext2]
       exact M5.chB fun x hx y hy=>Int.le_trans (by have:=g1' x hx;simp [bq] at this;omega) (ql c.sa y hy)
      have gB:∀ y ∈ b.toList.drop (j3 + 1 + k'),kof q<=kof y:=by
       intro y hy
       have:=g2' y (by rw [drop_drop];exact hy)
       simp [bq] at this;omega
      by_cases hk0':k' > 0
      case' pos=>
       rw [if_pos hk0']
       by_cases e4:j3 + 1 + k' = b.size
       ·rw [if_pos (by simpa using e4)]
        exact wpS_pure ⟨hS4,_,_,_,_,_,_,_,rfl,.inl ⟨_,rfl,MB.doneB e4⟩⟩
       rw [if_neg (by simpa using e4)]
       have hj6:j3 + 1 + k' < b.size:=by omega
       have hij6:i' + j'<=i4 + (j3 + 1 + k'):=by omega
       clear g1' g2'
       generalize o4.push p ++ b.extract (j3 + 1) (j3 + 1 + k') = o6 at *
       generalize j3 + 1 + k' = j6 at *
      case' neg=>
       rw [if_neg hk0']
       have hz:k' = 0:=by omega
       subst hz
       rw [Nat.add_zero] at gB
       clear MB g1' g2'
       have MB:=M5
       have hj6:j3 + 1 < b.size:=by omega
       have hij6:i' + j'<=i4 + (j3 + 1):=by omega
       generalize o4.push p = o6 at *
       generalize j3 + 1 = j6 at *
      all_goals
       refine wpS_bind (zh hq ?_)
       have M7:ML a b (o6.push q).toList (i4 + 1) j6:=by rw [Array.toList_push];exact MB.psA hq gB
       by_cases e5:i4 + 1 + 1 = a.size
       ·rw [if_pos (by simpa using e5)]
        exact wpS_pure ⟨hS4,_,_,_,_,_,_,_,rfl,.inl ⟨_,rfl,M7.lastA c e5⟩⟩
       rw [if_neg (by simpa using e5)]
       split
       ·exact wpS_pure ⟨hS4,_,_,_,_,_,_,_,rfl,.inr ⟨rfl,by omega,by omega,by omega,M7⟩⟩
       ·exact wpS_pure ⟨hS4,_,_,_,_,_,_,rfl,by omega,by omega,by omega,M7⟩
   ·rintro cc st3 ⟨hS3,o3,i3,j3,g3,ac3,bc3,rfl,hi3,hj3,hij3,hM3⟩
    exact ⟨hS3,_,_,_,_,_,_,_,rfl,.inr ⟨rfl,hi3,hj3,hij3,hM3⟩⟩
   ·rintro cc st3 ⟨hS3,r,o3,i3,j3,g3,ac3,bc3,rfl,hor⟩
    dsimp only
    rcases hor with ⟨r',rfl,hR⟩ | ⟨rfl,hi3,hj3,hij3,hM3⟩
    ·exact wpS_pure ⟨hS3,_,_,rfl,hR⟩
    ·refine wpS_bind (qG hS3 fun st4 hS4=>?_)
     exact wpS_pure ⟨hS4,_,_,_,_,rfl,hi3,hj3,by omega,hM3⟩
 ·rintro cc st1 ⟨hS1,o,i,j,g,rfl,hi,hj,hij,hM⟩
  omega
 ·rintro cc st1 ⟨hS1,r,y,rfl,hR⟩
  exact wpS_pure (h _ _ hS1 hR)
end
noncomputable abbrev MH (a b:Array Keyed) (o:List Keyed) (i j:Nat):Prop:=MJ (TT a b) o (a.toList.take i) (b.toList.take j)
section
variable {a b:Array Keyed} {k:Nat}
theorem zcf (hk:k<=i):l.take i = l.take k ++ (l.take i).drop k:=by
 have:=take_append_drop k (l.take i)
 rw [take_take,Nat.min_eq_left hk] at this
 exact this.symm
theorem MH.chA (h:MH a b o i j) (hk:k<=i) (hc:le' (b.toList.take j) ((a.toList.take i).drop k)):MH a b ((a.toList.take i).drop k ++ o) k j:=by
 unfold MH at h ⊢
 rw [zcf hk] at h
 exact h.movL hc
theorem MH.chB (h:MH a b o i j) (hk:k<=j) (hc:le' (a.toList.take i) ((b.toList.take j).drop k)):MH a b ((b.toList.take j).drop k ++ o) i k:=by
 unfold MH at h ⊢
 rw [zcf hk] at h
 exact h.movR hc
theorem zaB (hi:0 < i) (h:l[i - 1]? = some p):(l.take i).drop (i - 1) = [p]:=by
 rw [drop_take,show i - (i - 1) = 1 by omega];exact take1 h
theorem MH.psA (h:MH a b o i j) (hi:0 < i) (hp:a.toList[i - 1]? = some p) (hc:∀ y ∈ b.toList.take j,kof y<=kof p):MH a b (p :: o) (i - 1) j:=by
 have:=h.chA (k:=i - 1) (by omega) (by rw [zaB hi hp];intro x hx y hy;simp at hy;subst hy;exact hc x hx)
 rwa [zaB hi hp] at this
theorem MH.psB (h:MH a b o i j) (hj:0 < j) (hp:b.toList[j - 1]? = some p) (hc:∀ y ∈ a.toList.take i,kof y<=kof p):MH a b (p :: o) i (j - 1):=by
 have:=h.chB (k:=j - 1) (by omega) (by rw [zaB hj hp];intro x hx y hy;simp at hy;subst hy;exact hc x hx)
 rwa [zaB hj hp] at this
theorem zac (a:Array Keyed) (i:Nat):(a.extract 0 i).toList = a.toList.take i:=by
 rw [Array.toList_extract,extract_eq_take_drop];simp
theorem ext3 (a:Array Keyed) (k i:Nat):(a.extract k i).toList = (a.toList.take i).drop k:=by
 rw [Array.toList_extract,extract_eq_take_drop,drop_take]
theorem MH.doneA (h:MH a b out.toList.reverse i j) (hi:i = 0):Res (TT a b) (a.extract 0 i ++ b.extract 0 j ++ out.reverse).toList:=by
 rw [Array.toList_append,Array.toList_append,zac,zac,Array.toList_reverse]
 exact MJ.fin h (by subst hi;exact nil_le)
theorem MH.doneB (h:MH a b out.toList.reverse i j) (hj:j = 0):Res (TT a b) (a.extract 0 i ++ b.extract 0 j ++ out.reverse).toList:=by
 rw [Array.toList_append,Array.toList_append,zac,zac,Array.toList_reverse]
 exact MJ.fin h (by subst hj;exact le_nil)
theorem MH.firstB (h:MH a b out.toList.reverse i j) (c:MC a b) (hj:j = 1):Res (TT a b) (b.extract 0 j ++ a.extract 0 i ++ out.reverse).toList:=by
 rw [Array.toList_append,Array.toList_append,zac,zac,Array.toList_reverse]
 refine MJ.fin h.swap (fun x hx y hy=>?_)
 subst hj
 have nb:=c.nb
 rw [List.take_succ_eq_append_getElem nb] at hx
 simp at hx;subst hx
 have:=c.first y (mem_of_mem_take hy)
 simpa using this
theorem at2 (h:i - 1 < l.length) (hi:0 < i):∃ p,l[i - 1]? = some p/\p ∈ l/\(So l->∀ y ∈ l.take i,kof y<=kof p):=by
 refine ⟨l[i - 1],getElem?_pos ..,getElem_mem _,fun hs=>?_⟩
 have:=zdN hs h
 rwa [show i - 1 + 1 = i by omega] at this
end
section
theorem zbT {a b:Array Keyed} {Q:Array Keyed->SortSt->Prop} (hk:kindOf st = oneType') (c:MC a b)
 (h:∀ r st',Same st st'->Res (TT a b) r.toList->Q r st'):wpS (model prog w) A E s (zdb a b) Q st:=by
 have ea:a.toList.length = a.size:=by simp
 have eb:b.toList.length = b.size:=by simp
 have na:=c.na
 have nb:=c.nb
 refine wpS_bind (wpS_lift (wpAny_rule ⟨rfl,?_⟩))
 obtain ⟨p0,hp0,hm0,_⟩:=at2 (l:=a.toList) (i:=a.size) (by omega) (by omega)
 have hf:∀ y ∈ b.toList,kof y<=kof p0:=by
  have:=c.last
  obtain ⟨_,e⟩:=List.getElem?_eq_some_iff.mp hp0
  simp only [ea,e] at this;exact this
 refine wpS_bind (zh hp0 ?_)
 have M0:MH a b (#[p0]:Array Keyed).toList.reverse (a.size - 1) b.size:=by
  have ta:a.toList.take a.size = a.toList:=take_of_length_le (by omega)
  have tb:b.toList.take b.size = b.toList:=take_of_length_le (by omega)
  have:MH a b [] a.size b.size:=⟨by rw [ta,tb,append_nil],by rw [ta,append_nil];exact c.sa,by rw [tb,append_nil];exact c.sb⟩
  exact this.psA (by omega) hp0 (by rw [tb];exact hf)
 dsimp only
 by_cases h1:a.size - 1 = 0
 ·rw [if_pos (by simpa using h1)]
  exact wpS_pure (h _ _ (Same.slf _) (M0.doneA h1))
 rw [if_neg (by simpa using h1)]
 by_cases h2:b.size = 1
 ·rw [if_pos (by simpa using h2)]
  exact wpS_pure (h _ _ (Same.slf _) (M0.firstB c h2))
 rw [if_neg (by simpa using h2)]
 refine wpS_bind (wpS_get ?_)
 refine wpS_bind (wpS_mono (wpS_forRange (I:=fun x cc st'=>Same st st'/\∃ i j o g,cc = (none,i,j,o,g)/\0 < i/\i<=a.size/\1 < j/\j<=b.size/\x + (i + j) + 1<=a.size + b.size/\MH a b o.toList.reverse i j)
  (Q:=fun cc st'=>Same st st'/\∃ r y,cc = (some r,y)/\Res (TT a b) r.toList) ?_ ?_ ⟨Same.slf _,_,_,_,_,rfl,by omega,by omega,by omega,by omega,by omega,M0⟩) ?_)
 ·rintro x cc st1 _ hx ⟨hS1,i,j,o,g,rfl,hi,hia,hj,hjb,hij,hM⟩
  dsimp only
  refine wpS_bind (wpS_mono (wpS_forRange (I:=fun y cc st'=>Same st st'/\∃ i' j' o' ac bc,cc = (none,i',j',o',ac,bc)/\0 < i'/\i'<=a.size/\1 < j'/\j'<=b.size/\i' + j' + y<=i + j/\MH a b o'.toList.reverse i' j')
   (Q:=fun cc st'=>Same st st'/\∃ r i' j' o' ac bc,cc = (r,i',j',o',ac,bc)/\((∃ r',r = some r'/\Res (TT a b) r'.toList) \/
    (r = none/\0 < i'/\i'<=a.size/\1 < j'/\j'<=b.size/\i' + j' + 1<=i + j/\MH a b o'.toList.reverse i' j'))) ?_ ?_ ⟨hS1,_,_,_,_,_,rfl,hi,hia,hj,hjb,by omega,hM⟩) ?_)
  ·rintro y cc st2 _ hy ⟨hS2,i',j',o',ac,bc,rfl,hi',hia',hj',hjb',hij',hM'⟩
   dsimp only
   have hk2:kindOf st2 = oneType':=hS2.1.trans hk
   obtain ⟨p,hp,pm,pl⟩:=at2 (l:=b.toList) (i:=j') (by omega) (by omega)
   obtain ⟨q,hq,qm,ql⟩:=at2 (l:=a.toList) (i:=i') (by omega) (by omega)
   refine wpS_bind (zh hp (wpS_bind (zh hq (wpS_bind (zah hk2 (c.ib _ pm) (c.ia _ qm) ?_)))))
   by_cases hlt:kof p < kof q
   ·simp only [hlt,decide_true,if_true]
    refine wpS_bind (zh hq ?_)
    have M2:MH a b (o'.push q).toList.reverse (i' - 1) j':=by
     rw [Array.toList_push,reverse_append]
     exact hM'.psA hi' hq fun y hy=>Int.le_trans (pl c.sb y hy) (Int.le_of_lt hlt)
    by_cases h3:i' - 1 = 0
    ·rw [if_pos (by simpa using h3)]
     exact wpS_pure ⟨hS2,_,_,_,_,_,_,rfl,.inl ⟨_,rfl,M2.doneA h3⟩⟩
    ·rw [if_neg (by simpa using h3)]
     split
     ·exact wpS_pure ⟨hS2,_,_,_,_,_,_,rfl,.inr ⟨rfl,by omega,by omega,by omega,by omega,by omega,M2⟩⟩
     ·exact wpS_pure ⟨hS2,_,_,_,_,_,rfl,by omega,by omega,by omega,by omega,by omega,M2⟩
   ·simp only [hlt,decide_false,Bool.false_eq_true,if_false]
    refine wpS_bind (zh hp ?_)
    have M2:MH a b (o'.push p).toList.reverse i' (j' - 1):=by
     rw [Array.toList_push,reverse_append]
     exact hM'.psB (by omega) hp fun y hy=>Int.le_trans (ql c.sa y hy) (Int.not_lt.mp hlt)
    by_cases h3:j' - 1 = 1
    ·rw [if_pos (by simpa using h3)]
     exact wpS_pure ⟨hS2,_,_,_,_,_,_,rfl,.inl ⟨_,rfl,M2.firstB c h3⟩⟩
    ·rw [if_neg (by simpa using h3)]
     split
     ·exact wpS_pure ⟨hS2,_,_,_,_,_,_,rfl,.inr ⟨rfl,by omega,by omega,by omega,by omega,by omega,M2⟩⟩
     ·exact wpS_pure ⟨hS2,_,_,_,_,_,rfl,by omega,by omega,by omega,by omega,by omega,M2⟩
  ·rintro cc st2 ⟨hS2,i',j',o',ac,bc,rfl,hi',hia',hj',hjb',hij',hM'⟩
   exact ⟨hS2,_,_,_,_,_,_,rfl,.inr ⟨rfl,hi',hia',hj',hjb',by omega,hM'⟩⟩
  ·rintro cc st2 ⟨hS2,r,i',j',o',ac,bc,rfl,hor⟩
   dsimp only
   rcases hor with ⟨r',rfl,hR⟩ | ⟨rfl,hi',hia',hj',hjb',hij',hM'⟩
   ·exact wpS_pure ⟨hS2,_,_,rfl,hR⟩
   dsimp only
   refine wpS_bind (wpS_lift (wpAny_rule ⟨rfl,?_⟩))
   refine wpS_bind (wpS_mono (wpS_forRange (I:=fun y cc st'=>Same st st'/\∃ i'' j'' o'' g ac bc,cc = (none,i'',j'',o'',g,ac,bc)/\0 < i''/\i''<=a.size/\1 < j''/\j''<=b.size/\i'' + j''<=i' + j'/\MH a b o''.toList.reverse i'' j'')
    (Q:=fun cc st'=>Same st st'/\∃ r i'' j'' o'' g ac bc,cc = (r,i'',j'',o'',g,ac,bc)/\((∃ r',r = some r'/\Res (TT a b) r'.toList) \/
     (r = none/\0 < i''/\i''<=a.size/\1 < j''/\j''<=b.size/\i'' + j''<=i' + j'/\MH a b o''.toList.reverse i'' j''))) ?_ ?_ ⟨hS2,_,_,_,_,_,_,rfl,hi',hia',hj',hjb',by omega,hM'⟩) ?_)
   ·rintro y cc st3 _ hy ⟨hS3,i3,j3,o3,g3,ac3,bc3,rfl,hi3,hia3,hj3,hjb3,hij3,hM3⟩
    clear hM hM' hi hj hi' hj' hij hij' hia hjb hia' hjb'
    dsimp only
    obtain ⟨p,hp,pm,pl⟩:=at2 (l:=b.toList) (i:=j3) (by omega) (by omega)
    by_cases hg:g3 > 1
    case' pos=>rw [if_pos hg]
    case' neg=>rw [if_neg hg]
    all_goals
     refine wpS_bind (qG hS3 fun st4 hS4=>?_)
     have hk4:kindOf st4 = oneType':=hS4.1.trans hk
     refine wpS_bind (zh hp (wpS_bind (qv (L:=a.toList.take i3) hk4 (c.ib _ pm) (by simp) (by simp;omega) (fun x hx=>c.ia x (mem_of_mem_take hx)) (yP c.sa _) (by omega) fun k hkn g1 g2=>?_)))
     dsimp only
     have MA:MH a b (o3 ++ (a.extract k i3).reverse).toList.reverse k j3:=by
      rw [Array.toList_append,Array.toList_reverse,reverse_append,reverse_reverse,ext3]
      refine hM3.chA hkn fun x hx y hy=>Int.le_trans (pl c.sb x hx) ?_
      have:=g2 y hy
      simp [bq] at this;omega
     have gA:∀ y ∈ a.toList.take k,kof y<=kof p:=by
      intro y hy
      have:=g1 y (by rw [take_take,Nat.min_eq_left hkn];exact hy)
      simpa [bq] using this
     by_cases hk0:i3 - k > 0
     case' pos=>
      rw [if_pos hk0]
      by_cases e1:k = 0
      ·rw [if_pos (by simpa using e1)]
       exact wpS_pure ⟨hS4,_,_,_,_,_,_,_,rfl,.inl ⟨_,rfl,MA.doneA e1⟩⟩
      rw [if_neg (by simpa using e1)]
      have hi4:0 < k:=by omega
      have hia4:k<=a.size:=by omega
      have hij4:k + j3<=i' + j':=by omega
      clear g1 g2
      generalize o3 ++ (a.extract k i3).reverse = o4 at *
      generalize i3 - k = kk at *
      generalize k = i4 at *
     case' neg=>
      rw [if_neg hk0]
      have hz:k = i3:=by omega
      subst hz
      clear MA g1 g2
      have MA:=hM3
      have hi4:=hi3
      have hia4:=hia3
      have hij4:=hij3
      generalize o3 = o4 at *
      generalize k - k = kk at *
      generalize k = i4 at *
     all_goals
      refine wpS_bind (zh hp ?_)
      have M5:MH a b (o4.push p).toList.reverse i4 (j3 - 1):=by
       rw [Array.toList_push,reverse_append];exact MA.psB (by omega) hp gA
      by_cases e3:j3 - 1 = 1
      ·rw [if_pos (by simpa using e3)]
       exact wpS_pure ⟨hS4,_,_,_,_,_,_,_,rfl,.inl ⟨_,rfl,M5.firstB c e3⟩⟩
      rw [if_neg (by simpa using e3)]
      obtain ⟨q,hq,qm,ql⟩:=at2 (l:=a.toList) (i:=i4) (by omega) (by omega)
      refine wpS_bind (zh hq (wpS_bind (qv (L:=b.toList.take (j3 - 1)) hk4 (c.ia _ qm) (by simp) (by simp;omega) (fun x hx=>c.ib x (mem_of_mem_take hx)) (yP c.sb _) (by omega) fun k' hkn' g1' g2'=>?_)))
      dsimp only
      have MB:MH a b (o4.push p ++ (b.extract k' (j3 - 1)).reverse).toList.reverse i4 k':=by
       rw [Array.toList_append,Array.toList_reverse,reverse_append,reverse_reverse,ext3]
       refine M5.chB hkn' fun x hx y hy=>Int.le_trans (ql c.sa x hx) ?_
       have:=g2' y hy
       simp [bq] at this;omega
      have gB:∀ y ∈ b.toList.take k',kof y<=kof q:=by
       intro y hy
       have:=g1' y (by rw [take_take,Nat.min_eq_left hkn'];exact hy)
       simp [bq] at this;omega
      by_cases hk0':j3 - 1 - k' > 0
      case' pos=>
       rw [if_pos hk0']
       by_cases e4:k' = 1
       ·rw [if_pos (by simpa using e4)]
        exact wpS_pure ⟨hS4,_,_,_,_,_,_,_,rfl,.inl ⟨_,rfl,MB.firstB c e4⟩⟩
       rw [if_neg (by simpa using e4)]
       by_cases e5:k' = 0
       ·rw [if_pos (by simpa using e5)]
        exact wpS_pure ⟨hS4,_,_,_,_,_,_,_,rfl,.inl ⟨_,rfl,MB.doneB e5⟩⟩
       rw [if_neg (by simpa using e5)]
       have hj6:1 < k':=by omega
       have hjb6:k'<=b.size:=by omega
       have hij6:i4 + k'<=i' + j':=by omega
       clear g1' g2'
       generalize o4.push p ++ (b.extract k' (j3 - 1)).reverse = o6 at *
       generalize j3 - 1 - k' = kk' at *
       generalize k' = j6 at *
      case' neg=>
       rw [if_neg hk0']
       have hz:k' = j3 - 1:=by omega
       subst hz
       clear MB g1' g2'
       have MB:=M5
       have hj6:1 < j3 - 1:=by omega
       have hjb6:j3 - 1<=b.size:=by omega
       have hij6:i4 + (j3 - 1)<=i' + j':=by omega
       generalize o4.push p = o6 at *
       generalize j3 - 1 - (j3 - 1) = kk' at *
       generalize j3 - 1 = j6 at *
      all_goals
       refine wpS_bind (zh hq ?_)
       have M7:MH a b (o6.push q).toList.reverse (i4 - 1) j6:=by
        rw [Array.toList_push,reverse_append];exact MB.psA (by omega) hq gB
       by_cases e5:i4 - 1 = 0
       ·rw [if_pos (by simpa using e5)]
        exact wpS_pure ⟨hS4,_,_,_,_,_,_,_,rfl,.inl ⟨_,rfl,M7.doneA e5⟩⟩
       rw [if_neg (by simpa using e5)]
       split
       ·exact wpS_pure ⟨hS4,_,_,_,_,_,_,_,rfl,.inr ⟨rfl,by omega,by omega,by omega,by omega,by omega,M7⟩⟩
       ·exact wpS_pure ⟨hS4,_,_,_,_,_,_,rfl,by omega,by omega,by omega,by omega,by omega,M7⟩
   ·rintro cc st3 ⟨hS3,i3,j3,o3,g3,ac3,bc3,rfl,hi3,hia3,hj3,hjb3,hij3,hM3⟩
    exact ⟨hS3,_,_,_,_,_,_,_,rfl,.inr ⟨rfl,hi3,hia3,hj3,hjb3,hij3,hM3⟩⟩
   ·rintro cc st3 ⟨hS3,r,i3,j3,o3,g3,ac3,bc3,rfl,hor⟩
    dsimp only
    rcases hor with ⟨r',rfl,hR⟩ | ⟨rfl,hi3,hia3,hj3,hjb3,hij3,hM3⟩
    ·exact wpS_pure ⟨hS3,_,_,rfl,hR⟩
    ·refine wpS_bind (qG hS3 fun st4 hS4=>?_)
     exact wpS_pure ⟨hS4,_,_,_,_,rfl,hi3,hia3,hj3,hjb3,by omega,hM3⟩
 ·rintro cc st1 ⟨hS1,i,j,o,g,rfl,hi,hia,hj,hjb,hij,hM⟩
  omega
 ·rintro cc st1 ⟨hS1,r,y,rfl,hR⟩
  exact wpS_pure (h _ _ hS1 hR)
end
theorem zaT {sa:Nat}:∀ (m:List Keyed) (n:Nat) (P X S:List Keyed) (arr:Array Keyed),arr.toList = P ++ (X ++ S)->P.length = sa + n->X.length = m.length->
  ((m.zipIdx n).foldl (fun a x=>match x with | (p,j)=>a.setIfInBounds (sa + j) p) arr).toList = P ++ (m ++ S)
 | [],n,P,X,S,arr,h,_,hX=>by
  have:X = []:=List.eq_nil_of_length_eq_zero hX
  subst this;exact h
 | p :: m,n,P,[],S,arr,h,hP,hX=>by simp at hX
 | p :: m,n,P,x :: X,S,arr,h,hP,hX=>by
  rw [zipIdx_cons,foldl_cons]
  have:=zaT (sa:=sa) m (n + 1) (P ++ [p]) X S (arr.setIfInBounds (sa + n) p) (by
   rw [Array.toList_setIfInBounds,h,← hP,set_append_right _ _ (Q3 _),Nat.sub_self]
   simp) (by simp;omega) (by simpa using hX)
  rw [this];simp
variable {P:List Keyed}
theorem zaQ {A S:List Keyed} (h:l = P ++ (A ++ S)):(l.drop P.length).take A.length = A:=by
 subst h;simp
variable {X Y:List Keyed}
theorem le_trans' (h1:∀ x ∈ X,kof x<=kof p) (h2:∀ y ∈ Y,kof p<=kof y):le' X Y:=fun x hx y hy=>Int.le_trans (h1 x hx) (h2 y hy)
theorem zaN (h:So l) (k:Nat):So (l.take k)/\So (l.drop k)/\le' (l.take k) (l.drop k):=by
 rw [← zg,take_append_drop];exact h
variable {Z:List Keyed}
theorem zd2 (h:le' X Y) (hp:Z.Perm Y):le' X Z:=fun x hx y hy=>h x hx y (hp.mem_iff.mp hy)
theorem zdW (h:le' X Y) (hp:Z.Perm X):le' Z Y:=fun x hx y hy=>h x (hp.mem_iff.mp hx) y hy
section
theorem zdI {σ:Type} {M:Model} {a:σ} {Q:PUnit->σ->Prop} {st:σ} (h:Q ⟨⟩ a):wpS M A E s (set a:StateT σ Sem PUnit) Q st:=by
 unfold wpS;rw [StateT.run_set];exact Qc ⟨rfl,h⟩
theorem zbU {sa na pa sb nb pb:Nat} {S:List Keyed} {Q:Bool->SortSt->Prop} (hk:kindOf st = oneType') (hf:failedOf st = none)
 (hp1:(pendingOf st)[i]? = some (sa,na,pa)) (hp2:(pendingOf st)[i + 1]? = some (sb,nb,pb)) (hal:(arrOf st).toList = P ++ (X ++ (Y ++ S)))
 (lP:P.length = sa) (lX:X.length = na) (lY:Y.length = nb) (hsb:sb = sa + na) (pX:0 < na) (pY:0 < nb) (hI:∀ p ∈ (arrOf st).toList,IK p) (sX:So X) (sY:So Y)
 (h:∀ st' R,kindOf st' = oneType'->failedOf st' = none->pendingOf st' = ((pendingOf st).setIfInBounds i (sa,na + nb,pa)).eraseIdxIfInBounds (i + 1)->
 (arrOf st').toList = P ++ (R ++ S)->R.Perm (X ++ Y)->So R->Q true st'):wpS (model prog w) A E s (mergeAt' i) Q st:=by
 have hIX:∀ p ∈ X,IK p:=fun p hp=>hI p (by rw [hal];simp [hp])
 have hIY:∀ p ∈ Y,IK p:=fun p hp=>hI p (by rw [hal];simp [hp])
 have segX:((arrOf st).toList.drop sa).take na = X:=by rw [← lP,← lX];exact zaQ hal
 have hal2:(arrOf st).toList = (P ++ X) ++ (Y ++ S):=by rw [hal,append_assoc]
 have segY:((arrOf st).toList.drop sb).take nb = Y:=by
  have:(P ++ X).length = sb:=by rw [Qk,lP,lX,hsb]
  rw [← this,← lY];exact zaQ hal2
 have plain:le' X Y->Q true (setPending st (((pendingOf st).setIfInBounds i (sa,na + nb,pa)).eraseIdxIfInBounds (i + 1))):=fun hl=>
  h _ (X ++ Y) hk hf rfl (by rw [append_assoc];exact hal) (List.Perm.refl _) (zg.mpr ⟨sX,sY,hl⟩)
 obtain ⟨y0,hy0,y0m,y0d,y0l⟩:=at' (l:=Y) (i:=0) (by omega)
 obtain ⟨x1,hx1,x1m,x1l⟩:=at2 (l:=X) (i:=na) (by omega) (by omega)
 have x1l':∀ y ∈ X,kof y<=kof x1:=by
  have:=x1l sX;rwa [take_of_length_le (by omega)] at this
 have y0l':∀ y ∈ Y,kof y0<=kof y:=by simpa using y0l sY
 have aty:(arrOf st).toList[sb]? = some y0:=by
  rw [← segY,getElem?_take,if_pos pY,getElem?_drop] at hy0;exact hy0
 have atx:(arrOf st).toList[sa + na - 1]? = some x1:=by
  rw [← segX,getElem?_take,if_pos (by omega),getElem?_drop] at hx1
  rw [← hx1];congr 1;omega
 refine wpS_bind (wpS_get ?_)
 rw [hp1,hp2]
 dsimp only
 refine wpS_bind (zdI ?_)
 refine wpS_bind (zh aty (wpS_bind (qv (L:=X) hk (hIY _ y0m) segX lX hIX sX (by omega) fun k hkn g1 g2=>?_)))
 dsimp only
 have xk1:∀ x ∈ X.take k,kof x<=kof y0:=fun x hx=>by simpa [bq] using g1 x hx
 have xk2:∀ x ∈ X.drop k,kof y0<=kof x:=fun x hx=>by have:=g2 x hx;simp [bq] at this;omega
 by_cases h1:na - k = 0
 ·rw [if_pos (by simpa using h1)]
  refine wpS_pure (plain (le_trans' ?_ y0l'))
  rwa [take_of_length_le (by omega)] at xk1
 rw [if_neg (by simpa using h1)]
 rw [show sa + k + (na - k) - 1 = sa + na - 1 by omega]
 refine wpS_bind (zh atx (wpS_bind (qv (L:=Y) hk (hIX _ x1m) segY lY hIY sY (by omega) fun k' hkn' g1' g2'=>?_)))
 dsimp only
 have yk1:∀ x ∈ Y.take k',kof x<=kof x1:=fun x hx=>by have:=g1' x hx;simp [bq] at this;omega
 have yk2:∀ x ∈ Y.drop k',kof x1<=kof x:=fun x hx=>by have:=g2' x hx;simp [bq] at this;omega
 by_cases h2:k' = 0
 ·rw [if_pos (by simpa using h2)]
  refine wpS_pure (plain (le_trans' x1l' ?_))
  rw [h2] at yk2;simpa using yk2
 rw [if_neg (by simpa using h2)]
 have eX:((arrOf st).extract (sa + k) sb).toList = X.drop k:=by
  rw [Array.toList_extract,extract_eq_take_drop,← segX,drop_take,drop_drop,hsb]
  congr 1;omega
 have eY:((arrOf st).extract sb (sb + k')).toList = Y.take k':=by
  rw [ext2,← segY,take_take,Nat.min_eq_left hkn']
 have c:MC ((arrOf st).extract (sa + k) sb) ((arrOf st).extract sb (sb + k')):=by
  constructor
  case na=>rw [eX,length_drop];omega
  case nb=>rw [eY,Qn];omega
  case ia=>rw [eX];exact fun p hp=>hIX p (mem_of_mem_drop hp)
  case ib=>rw [eY];exact fun p hp=>hIY p (mem_of_mem_take hp)
  case sa=>rw [eX];exact qP sX _
  case sb=>rw [eY];exact yP sY _
  case first=>
   intro y hy
   rw [eX] at hy
   have:((arrOf st).extract sb (sb + k')).toList[0]? = some y0:=by rw [eY,getElem?_take,if_pos (by omega)];exact hy0
   obtain ⟨_,e⟩:=List.getElem?_eq_some_iff.mp this
   rw [e];exact xk2 y hy
  case last=>
   intro y hy
   rw [eY] at hy
   have:((arrOf st).extract (sa + k) sb).toList[((arrOf st).extract (sa + k) sb).toList.length - 1]? = some x1:=by
    rw [eX,getElem?_drop,length_drop,← hx1];congr 1;omega
   obtain ⟨_,e⟩:=List.getElem?_eq_some_iff.mp this
   rw [e];exact yk1 y hy
 obtain ⟨sX1,sX2,sX3⟩:=zaN sX k
 obtain ⟨sY1,sY2,sY3⟩:=zaN sY k'
 have fin:∀ (r:Array Keyed) (st':SortSt),Same (setPending st (((pendingOf st).setIfInBounds i (sa,na + nb,pa)).eraseIdxIfInBounds (i + 1))) st'->
   Res (TT ((arrOf st).extract (sa + k) sb) ((arrOf st).extract sb (sb + k'))) r.toList->
   Q true (setArr st' (List.foldl (fun a x=>match x with | (p,j)=>a.setIfInBounds (sa + k + j) p) (arrOf st') r.toList.zipIdx))/\failedOf st' = none:=by
  intro r st' hS hR
  unfold TT at hR
  rw [eX,eY] at hR
  refine ⟨h _ (X.take k ++ (r.toList ++ Y.drop k')) (hS.1.trans hk) (hS.2.2.2.trans hf) hS.2.2.1 ?_ ?_ ?_,hS.2.2.2.trans hf⟩
  ·have e:(arrOf st').toList = (P ++ X.take k) ++ ((X.drop k ++ Y.take k') ++ (Y.drop k' ++ S)):=by
    rw [hS.2.1]
    show (arrOf st).toList = _
    rw [hal]
    conv=>lhs;rw [← take_append_drop k X,← take_append_drop k' Y]
    simp only [append_assoc]
   have:=zaT (sa:=sa + k) r.toList 0 _ _ _ _ e (by rw [Qk,Qn,lP];omega) hR.perm.length_eq.symm
   refine this.trans ?_
   simp only [append_assoc]
  ·have:(X.take k ++ (r.toList ++ Y.drop k')).Perm (X.take k ++ ((X.drop k ++ Y.take k') ++ Y.drop k')):=List.Perm.append_left _ (List.Perm.append_right _ hR.perm)
   refine this.trans (List.Perm.of_eq ?_)
   conv=>rhs;rw [← take_append_drop k X,← take_append_drop k' Y]
   simp only [append_assoc]
  ·rw [zg,zg,le_app]
   refine ⟨sX1,⟨hR.so,sY2,zdW ?_ hR.perm⟩,zd2 ?_ hR.perm,le_trans' xk1 fun y hy=>y0l' y (mem_of_mem_drop hy)⟩
   ·rw [z3];exact ⟨le_trans' (fun x hx=>x1l' x (mem_of_mem_drop hx)) yk2,sY3⟩
   ·rw [le_app];exact ⟨sX3,le_trans' xk1 fun y hy=>y0l' y (mem_of_mem_take hy)⟩
 by_cases h3:na - k<=k'
 case' pos=>rw [if_pos h3];refine wpS_bind (zbS hk c fun r st' hS hR=>?_)
 case' neg=>rw [if_neg h3];refine wpS_bind (zbT hk c fun r st' hS hR=>?_)
 all_goals
  obtain ⟨hQ,hfl⟩:=fin r st' hS hR
  refine wpS_bind (wpS_modify (wpS_bind (wpS_get (wpS_pure ?_))))
  have e:(failedOf st').isNone = true:=by rw [hfl];rfl
  rw [← e] at hQ
  exact hQ
end
structure LB (st0:SortSt) (lo:Nat) (st:SortSt):Prop where
 kind:kindOf st = oneType'
 failed:failedOf st = none
 pend:pendingOf st = pendingOf st0
 perm:(arrOf st).Perm (arrOf st0)
 pre:∀ i,i < lo->(arrOf st)[i]? = (arrOf st0)[i]?
def Sg (xs:Array Keyed) (lo n:Nat):Prop:=∀ i j,i<=j->j < n->K xs (lo + i)<=K xs (lo + j)
def Dg (xs:Array Keyed) (lo n:Nat):Prop:=∀ i j,i<=j->j < n->K xs (lo + j)<=K xs (lo + i)
theorem Sg.step {xs:Array Keyed} {lo:Nat} (h:Sg xs lo n) (h1:n = 0\/K xs (lo + n - 1)<=K xs (lo + n)):Sg xs lo (n + 1):=by
 intro i j hij hj
 by_cases hjn:j < n
 ·exact h i j hij hjn
 ·have e:j = n:=by omega
  subst e
  by_cases hi:i = j
  ·subst hi;exact Int.le_refl _
  ·rcases h1 with h1 | h1
   ·omega
   ·have:=h i (j - 1) (by omega) (by omega)
    rw [show lo + (j - 1) = lo + j - 1 by omega] at this
    exact Int.le_trans this h1
theorem Dg.step {xs:Array Keyed} {lo:Nat} (h:Dg xs lo n) (h1:n = 0\/K xs (lo + n)<=K xs (lo + n - 1)):Dg xs lo (n + 1):=by
 intro i j hij hj
 by_cases hjn:j < n
 ·exact h i j hij hjn
 ·have e:j = n:=by omega
  subst e
  by_cases hi:i = j
  ·subst hi;exact Int.le_refl _
  ·rcases h1 with h1 | h1
   ·omega
   ·have:=h i (j - 1) (by omega) (by omega)
    rw [show lo + (j - 1) = lo + j - 1 by omega] at this
    exact Int.le_trans h1 this
section
variable {lo:Nat}
theorem LB.at (h:LB st0 lo st) (h0:IntKeys (arrOf st0)) (hi:i < (arrOf st0).size) :
  ∃ t q,(arrOf st)[i]? = some (.int (K (arrOf st) i) t,q):=by
 have hi':i < (arrOf st).size:=by rw [h.perm.size_eq];exact hi
 obtain ⟨n,t,hn⟩:=h0 (arrOf st)[i] ((Array.perm_iff_toList_perm.mp h.perm).mem_iff.mp (by simp))
 have e:(arrOf st)[i]? = some (.int n t,(arrOf st)[i].2):=by
  rw [getElem?_pos _ i hi'];exact congrArg some (Prod.ext hn rfl)
 refine ⟨t,(arrOf st)[i].2,?_⟩
 unfold K
 rw [e];rfl
theorem ltL (hB:LB st0 lo st) (h0:IntKeys (arrOf st0)) (hi:i < (arrOf st0).size) (hj:j < (arrOf st0).size)
 (h:Q (some (decide (K (arrOf st) i < K (arrOf st) j))) st):wpS (model prog w) A E s (ltAt' i j) Q st:=by
 obtain ⟨t,p,e1⟩:=hB.at h0 hi
 obtain ⟨u,q,e2⟩:=hB.at h0 hj
 exact wpS_ltAt hB.kind e1 e2 h
theorem zbQ {Q:Unit->SortSt->Prop} (hB:LB st0 lo st) (hi:lo<=i) (hj:j<=(arrOf st0).size)
 (h:∀ st',LB st0 lo st'->(∀ k,K (arrOf st') k = if i<=k/\k < j then K (arrOf st) (i + j - 1 - k) else K (arrOf st) k)->Q () st') :
  wpS (model prog w) A E s (reverseSlice' i j) Q st:=by
 have hj':j<=(arrOf st).size:=by rw [hB.perm.size_eq];exact hj
 refine wpS_reverse (h _ ⟨hB.kind,hB.failed,hB.pend,(mirror_perm _ _ _ _).trans hB.perm,fun k hk=>?_⟩ fun k=>K_mirror hj' k)
 rw [← hB.pre k hk]
 show (mirror (arrOf st) i j ((j - i) / 2))[k]? = _
 rw [getElem?_mirror_all hj',if_neg (by omega)]
theorem zbr {nrem:Nat} {Q:Option Nat->SortSt->Prop} (h0:IntKeys (arrOf st0)) (hn:lo + nrem<=(arrOf st0).size) (h1:1<=nrem) (hB:LB st0 lo st)
 (h:∀ m st',LB st0 lo st'->1<=m->m<=nrem->Sg (arrOf st') lo m->Q (some m) st'):wpS (model prog w) A E s (countRun' lo nrem) Q st:=by
 rw [countRun'_eq]
 refine wpS_bind (wpS_mono (wpS_forRange (I:=fun x c st'=>st' = st/\c = (none,x)/\Sg (arrOf st) lo x)
  (Q:=fun c st'=>st' = st/\∃ n,c = (none,n)/\1<=n/\n<=nrem/\Sg (arrOf st) lo n/\(n = nrem\/K (arrOf st) (lo + n) < K (arrOf st) (lo + n - 1))) ?_ ?_
  ⟨rfl,rfl,fun i j hij hj=>by rw [show i = j by omega];exact Int.le_refl _⟩) ?_)
 ·rintro x c st' hx1 hx ⟨rfl,rfl,hS⟩
  dsimp only
  refine wpS_bind (ltL hB h0 (by omega) (by omega) ?_)
  by_cases hl:K (arrOf st') (lo + x) < K (arrOf st') (lo + x - 1)
  ·simp only [hl,decide_true,if_true]
   exact wpS_pure ⟨rfl,x,rfl,hx1,by omega,hS,.inr hl⟩
  ·simp only [hl,decide_false,Bool.false_eq_true,if_false]
   exact wpS_pure ⟨rfl,rfl,hS.step (.inr (Int.not_lt.mp hl))⟩
 ·rintro c st' ⟨rfl,rfl,hS⟩
  rw [show max 1 nrem = nrem by omega] at hS ⊢
  exact ⟨rfl,_,rfl,h1,Q3 _,hS,.inl rfl⟩
 ·rintro c st' ⟨rfl,n,rfl,hn1,hn2,hS,hor⟩
  dsimp only
  by_cases e:n = nrem
  ·rw [if_pos (by simpa using e)];exact wpS_pure (h n _ hB hn1 hn2 hS)
  rw [if_neg (by simpa using e)]
  have hdrop:=hor.resolve_left e
  by_cases hgt:n > 1
  case' pos=>
   rw [if_pos hgt]
   refine wpS_bind (ltL hB h0 (by omega) (by omega) ?_)
   by_cases hr:K (arrOf st') lo < K (arrOf st') (lo + n - 1)
   ·simp only [hr,decide_true,if_true]
    exact wpS_pure (h n _ hB hn1 hn2 hS)
   simp only [hr,decide_false,Bool.false_eq_true,if_false]
   refine wpS_bind (zbQ hB (Q3 _) (by omega) fun st2 hB2 hK2=>?_)
   have hD:Dg (arrOf st2) lo (n + 1):=by
    have hall:∀ k,k < n->K (arrOf st') (lo + k) = K (arrOf st') (lo + n - 1):=by
     intro k hk
     have a1:=hS 0 k (by omega) hk
     have a2:=hS k (n - 1) (by omega) (by omega)
     rw [show lo + (n - 1) = lo + n - 1 by omega] at a2
     rw [Nat.add_zero] at a1
     omega
    have hall2:∀ k,k < n->K (arrOf st2) (lo + k) = K (arrOf st') (lo + n - 1):=by
     intro k hk
     rw [hK2,if_pos (by omega),show lo + (lo + n) - 1 - (lo + k) = lo + (n - 1 - k) by omega]
     exact hall _ (by omega)
    have hb:Dg (arrOf st2) lo n:=fun i j hij hj=>by rw [hall2 i (by omega),hall2 j hj];exact Int.le_refl _
    refine hb.step (.inr ?_)
    have:=hall2 (n - 1) (by omega)
    rw [show lo + (n - 1) = lo + n - 1 by omega] at this
    rw [this,hK2,if_neg (by omega)]
    exact Int.le_of_lt hdrop
   clear hK2
  case' neg=>
   rw [if_neg hgt]
   have e1:n = 1:=by omega
   subst e1
   obtain ⟨st2,e2⟩:∃ st2,st2 = st':=⟨_,rfl⟩
   rw [← e2] at hB hdrop ⊢
   have hB2:=hB
   have hD:Dg (arrOf st2) lo (1 + 1):=by
    refine Dg.step (fun i j hij hj=>?_) (.inr (Int.le_of_lt hdrop))
    rw [show i = j by omega];exact Int.le_refl _
  all_goals
   refine wpS_bind (wpS_lift (wpAny_rule ⟨rfl,?_⟩))
   refine wpS_bind (wpS_mono (wpS_forRange (I:=fun x c st'=>∃ neq,c = (none,x,neq)/\LB st0 lo st'/\Dg (arrOf st') lo x/\neq + 1<=x/\(∀ i,x - (neq + 1)<=i->i < x->K (arrOf st') (lo + i) = K (arrOf st') (lo + x - 1)))
    (Q:=fun c st'=>∃ m neq,c = (none,m,neq)/\m<=nrem/\LB st0 lo st'/\Dg (arrOf st') lo m/\neq + 1<=m/\(∀ i,m - (neq + 1)<=i->i < m->K (arrOf st') (lo + i) = K (arrOf st') (lo + m - 1))) ?_ ?_
    ⟨0,rfl,hB2,hD,by omega,fun i h1 h2=>by congr 1;omega⟩) ?_)
   ·rintro x c st3 hx1 hx ⟨neq,rfl,hB3,hD3,hq,he⟩
    dsimp only
    refine wpS_bind (ltL hB3 h0 (by omega) (by omega) ?_)
    by_cases hl:K (arrOf st3) (lo + x) < K (arrOf st3) (lo + x - 1)
    ·simp only [hl,decide_true,if_true]
     by_cases hneq:neq > 0
     ·rw [if_pos hneq]
      refine wpS_bind (zbQ hB3 (by omega) (by omega) fun st4 hB4 hK4=>wpS_pure ⟨0,rfl,hB4,?_,by omega,fun i h1 h2=>by congr 1;omega⟩)
      have hsame:∀ k,K (arrOf st4) k = K (arrOf st3) k:=by
       intro k
       rw [hK4]
       split
       ·have a1:=he (lo + x - (neq + 1) + (lo + x) - 1 - k - lo) (by omega) (by omega)
        have a2:=he (k - lo) (by omega) (by omega)
        rw [show lo + (k - lo) = k by omega] at a2
        rw [show lo + (lo + x - (neq + 1) + (lo + x) - 1 - k - lo) = lo + x - (neq + 1) + (lo + x) - 1 - k by omega] at a1
        rw [a1,a2]
       ·rfl
      intro i j hij hj
      rw [hsame,hsame]
      exact hD3.step (.inr (Int.le_of_lt hl)) i j hij hj
     ·rw [if_neg hneq]
      exact wpS_pure ⟨0,rfl,hB3,hD3.step (.inr (Int.le_of_lt hl)),by omega,fun i h1 h2=>by congr 1;omega⟩
    ·simp only [hl,decide_false,Bool.false_eq_true,if_false]
     refine wpS_bind (ltL hB3 h0 (by omega) (by omega) ?_)
     by_cases hg:K (arrOf st3) (lo + x - 1) < K (arrOf st3) (lo + x)
     ·simp only [hg,decide_true,if_true]
      exact wpS_pure ⟨x,neq,rfl,by omega,hB3,hD3,hq,he⟩
     ·simp only [hg,decide_false,Bool.false_eq_true,if_false]
      have hx':K (arrOf st3) (lo + x) = K (arrOf st3) (lo + x - 1):=by omega
      refine wpS_pure ⟨neq + 1,rfl,hB3,hD3.step (.inr (Int.le_of_eq hx')),by omega,fun i h1 h2=>?_⟩
      rw [show lo + (x + 1) - 1 = lo + x by omega]
      by_cases hix:i = x
      ·subst hix;rfl
      ·rw [hx'];exact he i (by omega) (by omega)
   ·rintro c st3 ⟨neq,rfl,hB3,hD3,hq,he⟩
    exact ⟨_,neq,rfl,by omega,hB3,hD3,hq,he⟩
   ·rintro c st3 ⟨m,neq,rfl,hm,hB3,hD3,hq,he⟩
    dsimp only
    have tail:∀ {xs:Array Keyed} {st4:SortSt},(∀ k,K (arrOf st4) k = K xs k)->Dg xs lo m->Dg (arrOf st4) lo m:=fun hK hD i j hij hj=>by rw [hK,hK];exact hD i j hij hj
    by_cases hneq:neq > 0
    case' pos=>
     rw [if_pos hneq]
     refine wpS_bind (zbQ hB3 (by omega) (by omega) fun st4 hB4 hK4=>?_)
     have hD4:Dg (arrOf st4) lo m:=tail (fun k=>by
       rw [hK4]
       split
       ·have a1:=he (lo + m - (neq + 1) + (lo + m) - 1 - k - lo) (by omega) (by omega)
        have a2:=he (k - lo) (by omega) (by omega)
        rw [show lo + (k - lo) = k by omega] at a2
        rw [show lo + (lo + m - (neq + 1) + (lo + m) - 1 - k - lo) = lo + m - (neq + 1) + (lo + m) - 1 - k by omega] at a1
        rw [a1,a2]
       ·rfl) hD3
     clear hK4
    case' neg=>
     rw [if_neg hneq]
     have hB4:=hB3
     have hD4:=hD3
     generalize st3 = st4 at *
    all_goals
     refine wpS_bind (zbQ hB4 (Q3 _) (by omega) fun st5 hB5 hK5=>?_)
     have hS5:Sg (arrOf st5) lo m:=by
      intro i j hij hj
      rw [hK5,hK5,if_pos (by omega),if_pos (by omega),show lo + (lo + m) - 1 - (lo + i) = lo + (m - 1 - i) by omega,show lo + (lo + m) - 1 - (lo + j) = lo + (m - 1 - j) by omega]
      exact hD4 _ _ (by omega) (by omega)
     refine wpS_bind (wpS_mono (wpS_forRange (I:=fun x c st'=>st' = st5/\c = (none,x)/\Sg (arrOf st5) lo x)
      (Q:=fun c st'=>st' = st5/\∃ n,c = (none,n)/\1<=n/\n<=nrem/\Sg (arrOf st5) lo n) ?_ ?_ ⟨rfl,rfl,hS5⟩) ?_)
     ·rintro x c st6 hx1 hx ⟨rfl,rfl,hS6⟩
      dsimp only
      refine wpS_bind (ltL hB5 h0 (by omega) (by omega) ?_)
      by_cases hl:K (arrOf st6) (lo + x) < K (arrOf st6) (lo + x - 1)
      ·simp only [hl,decide_true,if_true]
       exact wpS_pure ⟨rfl,x,rfl,by omega,by omega,hS6⟩
      ·simp only [hl,decide_false,Bool.false_eq_true,if_false]
       exact wpS_pure ⟨rfl,rfl,hS6.step (.inr (Int.not_lt.mp hl))⟩
     ·rintro c st6 ⟨rfl,rfl,hS6⟩
      exact ⟨rfl,_,rfl,by omega,by omega,hS6⟩
     ·rintro c st6 ⟨rfl,n6,rfl,g1,g2,g3⟩
      exact wpS_pure (h n6 _ hB5 g1 g2 g3)
theorem zca {ok:Nat} {Q:Bool->SortSt->Prop} (h0:IntKeys (arrOf st0)) (hn:lo + n<=(arrOf st0).size) (hok:ok<=n) (hB:LB st0 lo st) (hs:Sg (arrOf st) lo ok)
 (h:∀ st',LB st0 lo st'->Sg (arrOf st') lo n->Q true st'):wpS (model prog w) A E s (binarySort' lo n ok) Q st:=by
 rw [binarySort'_eq]
 refine wpS_bind (wpS_mono (wpS_forRange (I:=fun k c st'=>c = (none,())/\LB st0 lo st'/\Sg (arrOf st') lo (min k n))
  (Q:=fun c st'=>c = (none,())/\LB st0 lo st'/\Sg (arrOf st') lo n) ?_ ?_ ?_) ?_)
 ·rintro k c st' hak hkn ⟨rfl,hB',hs'⟩
  rw [show min k n = k by omega] at hs'
  refine wpS_bind (wpS_mono (wpS_forRange (I:=fun x c st''=>st'' = st'/\∃ l r,c = (none,l,r)/\l<=r/\r<=k/\r - l<=k - x /\
    (∀ i,i < l->K (arrOf st') (lo + i)<=K (arrOf st') (lo + k))/\(∀ i,r<=i->i < k->K (arrOf st') (lo + k)<=K (arrOf st') (lo + i)))
   (Q:=fun c st''=>st'' = st'/\∃ l,c = (none,l,l)/\l<=k /\
    (∀ i,i < l->K (arrOf st') (lo + i)<=K (arrOf st') (lo + k))/\(∀ i,l<=i->i < k->K (arrOf st') (lo + k)<=K (arrOf st') (lo + i))) ?_ ?_
    ⟨rfl,0,k,rfl,by omega,by omega,by omega,fun i hi=>by omega,fun i h1 h2=>by omega⟩) ?_)
  ·rintro x c st2 _ hxk ⟨rfl,l,r,rfl,hlr,hrk,hm,hlo,hhi⟩
   dsimp only
   by_cases hge:l ≥ r
   ·rw [if_pos hge]
    have:l = r:=by omega
    subst this
    exact wpS_pure ⟨rfl,l,rfl,hrk,hlo,hhi⟩
   ·rw [if_neg hge]
    refine wpS_bind (ltL hB' h0 (by omega) (by omega) ?_)
    by_cases hl:K (arrOf st2) (lo + k) < K (arrOf st2) (lo + (l + r) / 2)
    ·simp only [hl,decide_true,if_true]
     exact wpS_pure ⟨rfl,l,(l + r) / 2,rfl,by omega,by omega,by omega,hlo,fun i h1 h2=>Int.le_trans (Int.le_of_lt hl) (hs' _ _ h1 h2)⟩
    ·simp only [hl,decide_false,Bool.false_eq_true,if_false]
     exact wpS_pure ⟨rfl,(l + r) / 2 + 1,r,rfl,by omega,by omega,by omega,fun i h1=>Int.le_trans (hs' i ((l + r) / 2) (by omega) (by omega)) (Int.not_lt.mp hl),hhi⟩
  ·rintro c st2 ⟨rfl,l,r,rfl,hlr,hrk,hm,hlo,hhi⟩
   have:l = r:=by omega
   subst this
   exact ⟨rfl,l,rfl,hrk,hlo,hhi⟩
  ·rintro c st2 ⟨rfl,l,rfl,hlk,hlo,hhi⟩
   have hks:lo + k < (arrOf st2).size:=by rw [hB'.perm.size_eq];omega
   show wpS _ _ _ _ (do moveDown' (lo + k) (lo + l);pure (ForInStep.yield (none,()))) _ _
   rw [moveDown'_eq]
   refine wpS_bind (wpS_modify (wpS_pure ⟨rfl,⟨hB'.kind,hB'.failed,hB'.pend,(bubble_perm _ _ _).trans hB'.perm,fun i hi=>?_⟩,?_⟩))
   ·rw [← hB'.pre i hi]
    show (bubble (arrOf st2) (lo + k) (lo + k - (lo + l)))[i]? = _
    rw [getElem?_bubble hks _ (by omega),if_neg (by omega),if_neg (by omega)]
   ·rw [show min (k + 1) n = k + 1 by omega]
    intro i j hij hj
    show K (bubble (arrOf st2) (lo + k) (lo + k - (lo + l))) (lo + i)<=K (bubble (arrOf st2) (lo + k) (lo + k - (lo + l))) (lo + j)
    rw [K_bubble hks (by omega),K_bubble hks (by omega),show lo + k - (lo + k - (lo + l)) = lo + l by omega]
    have hs2:∀ p q,lo<=p->p<=q->q < lo + k->K (arrOf st2) p<=K (arrOf st2) q:=by
     intro p q h1 h2 h3
     have:=hs' (p - lo) (q - lo) (by omega) (by omega)
     rwa [show lo + (p - lo) = p by omega,show lo + (q - lo) = q by omega] at this
    have hlo2:∀ p,lo<=p->p < lo + l->K (arrOf st2) p<=K (arrOf st2) (lo + k):=by
     intro p h1 h2
     have:=hlo (p - lo) (by omega)
     rwa [show lo + (p - lo) = p by omega] at this
    have hhi2:∀ p,lo + l<=p->p < lo + k->K (arrOf st2) (lo + k)<=K (arrOf st2) p:=by
     intro p h1 h2
     have:=hhi (p - lo) (by omega) (by omega)
     rwa [show lo + (p - lo) = p by omega] at this
    repeat' split
    all_goals first
     | (exfalso;omega)
     | exact Int.le_refl _
     | exact hlo2 _ (by omega) (by omega)
     | exact hhi2 _ (by omega) (by omega)
     | exact hs2 _ _ (by omega) (by omega) (by omega)
 ·rintro c st' ⟨hc,hB',hs'⟩
  refine ⟨hc,hB',?_⟩
  rwa [show min (max (max ok 1) n) n = n by omega] at hs'
 ·refine ⟨rfl,hB,fun i j hij hj=>?_⟩
  by_cases h1:ok = 0
  ·rw [show i = j by omega];exact Int.le_refl _
  ·exact hs i j hij (by omega)
 ·rintro c st' ⟨rfl,hB',hs'⟩
  exact wpS_pure (h st' hB' hs')
end
noncomputable abbrev Pd:=Nat × Nat × Nat
noncomputable def Runs (xs:Array Keyed):Nat->List Pd->Nat->Prop
 | st,[],e=>st = e
 | st,(a,n,_) :: l,e=>a = st/\0 < n/\Sg xs st n/\Runs xs (st + n) l e
theorem Runs.len {xs:Array Keyed}:∀ {l:List Pd} {st e:Nat},Runs xs st l e->st + l.length<=e
 | [],st,e,h=>by have:st = e:=h;simp;omega
 | (a,n,p) :: l,st,e,h=>by have:=Runs.len h.2.2.2;have:=h.2.1;simp;omega
theorem Runs.app {xs:Array Keyed}:∀ {l m:List Pd} {st e:Nat},Runs xs st (l ++ m) e ↔ ∃ k,Runs xs st l k/\Runs xs k m e
 | [],m,st,e=>⟨fun h=>⟨st,rfl,h⟩,fun ⟨k,h1,h2⟩=>by have:st = k:=h1;subst this;exact h2⟩
 | (a,n,p) :: l,m,st,e=>by
  constructor
  ·rintro ⟨h1,h2,h3,h4⟩
   obtain ⟨k,g1,g2⟩:=Runs.app.mp h4
   exact ⟨k,⟨h1,h2,h3,g1⟩,g2⟩
  ·rintro ⟨k,⟨h1,h2,h3,g1⟩,g2⟩
   exact ⟨h1,h2,h3,Runs.app.mpr ⟨k,g1,g2⟩⟩
theorem Sg.congr {xs ys:Array Keyed} {lo:Nat} (h:Sg xs lo n) (he:∀ i,lo<=i->i < lo + n->ys[i]? = xs[i]?):Sg ys lo n:=by
 intro i j hij hj
 rw [K_congr (he (lo + i) (by omega) (by omega)),K_congr (he (lo + j) (by omega) (by omega))]
 exact h i j hij hj
theorem Runs.congr {xs ys:Array Keyed}:∀ {l:List Pd} {st e:Nat},Runs xs st l e->(∀ i,st<=i->i < e->ys[i]? = xs[i]?)->Runs ys st l e
 | [],st,e,h,_=>h
 | (a,n,p) :: l,st,e,h,he=>by
  have:=Runs.len h.2.2.2
  exact ⟨h.1,h.2.1,h.2.2.1.congr fun i h1 h2=>he i h1 (by omega),Runs.congr h.2.2.2 fun i h1 h2=>he i (by omega) h2⟩
theorem Runs.pw {xs:Array Keyed}:∀ {l m:List Pd} {st e:Nat},Runs xs st l e->l.map (fun x=>(x.1,x.2.1)) = m.map (fun x=>(x.1,x.2.1))->Runs xs st m e
 | [],[],st,e,h,_=>h
 | [],_ :: _,st,e,_,hm=>by simp at hm
 | _ :: _,[],st,e,_,hm=>by simp at hm
 | (a,n,p) :: l,(a',n',p') :: m,st,e,h,hm=>by
  simp only [map_cons,List.cons.injEq,Prod.mk.injEq] at hm
  obtain ⟨⟨rfl,rfl⟩,hm⟩:=hm
  exact ⟨h.1,h.2.1,h.2.2.1,Runs.pw h.2.2.2 hm⟩
theorem zdG {xs:Array Keyed} (h:i < xs.toList.length):K xs i = kof xs.toList[i]:=by
 unfold K
 rw [← Array.getElem?_toList,getElem?_pos _ i h]
theorem zaO {xs:Array Keyed} {lo:Nat} (h:Sg xs lo n):So ((xs.toList.drop lo).take n):=by
 refine pairwise_iff_getElem.mpr fun i j hi hj hij=>?_
 rw [Qn,length_drop] at hi hj
 have:=h i j (by omega) (by omega)
 rw [zdG (by omega),zdG (by omega)] at this
 simpa using this
theorem zc3 {xs:Array Keyed} {R S:List Keyed} (h:So R) (e:xs.toList = P ++ (R ++ S)):Sg xs P.length R.length:=by
 intro i j hij hj
 by_cases hi:i = j
 ·subst hi;exact Int.le_refl _
 ·have h1:xs.toList[P.length + i]? = some R[i]:=by
   rw [e,Q7 (by omega),Nat.add_sub_cancel_left,Q6 (by omega)];exact getElem?_pos ..
  have h2:xs.toList[P.length + j]? = some R[j]:=by
   rw [e,Q7 (by omega),Nat.add_sub_cancel_left,Q6 (by omega)];exact getElem?_pos ..
  unfold K
  rw [← Array.getElem?_toList,← Array.getElem?_toList,h1,h2]
  exact pairwise_iff_getElem.mp h i j (by omega) hj (by omega)
structure PI (a0:Array Keyed) (st:SortSt) (e:Nat):Prop where
 kind:kindOf st = oneType'
 failed:failedOf st = none
 perm:(arrOf st).Perm a0
 runs:Runs (arrOf st) 0 (pendingOf st).toList e
 le:e<=a0.size
section
variable {a0:Array Keyed}
theorem qZ {e:Nat} {Q:Bool->SortSt->Prop} (h0:IntKeys a0) (hB:PI a0 st e) (hi:i + 1 < (pendingOf st).size)
 (h:∀ st',PI a0 st' e->(pendingOf st').size + 1 = (pendingOf st).size->(∀ j,e<=j->(arrOf st')[j]? = (arrOf st)[j]?)->Q true st') :
  wpS (model prog w) A E s (mergeAt' i) Q st:=by
 have hl:(pendingOf st).toList.length = (pendingOf st).size:=by simp
 have hsz:(arrOf st).size = a0.size:=hB.perm.size_eq
 have hal:(arrOf st).toList.length = (arrOf st).size:=by simp
 obtain ⟨L1,⟨sa,na,pa⟩,⟨sb,nb,pb⟩,L2,hp,hL1⟩:∃ L1 x y L2,(pendingOf st).toList = L1 ++ x :: y :: L2/\L1.length = i:=by
  refine ⟨(pendingOf st).toList.take i,(pendingOf st).toList[i],(pendingOf st).toList[i + 1],(pendingOf st).toList.drop (i + 1 + 1),?_,by rw [Qn];omega⟩
  rw [← drop_eq_getElem_cons (by omega),← drop_eq_getElem_cons (by omega),take_append_drop]
 have hr:=hB.runs
 rw [hp] at hr
 obtain ⟨k,r1,r2⟩:=Runs.app.mp hr
 obtain ⟨rfl,pX,gX,rfl,pY,gY,r3⟩:=r2
 have hle:=r3.len
 have:=hB.le
 have hx1:(pendingOf st)[i]? = some (sa,na,pa):=by rw [← Array.getElem?_toList,hp,← hL1];simp
 have hx2:(pendingOf st)[i + 1]? = some (sa + na,nb,pb):=by rw [← Array.getElem?_toList,hp,← hL1];simp
 have lP:((arrOf st).toList.take sa).length = sa:=by rw [Qn];omega
 refine zbU (P:=(arrOf st).toList.take sa) (X:=((arrOf st).toList.drop sa).take na) (Y:=((arrOf st).toList.drop (sa + na)).take nb) (S:=(arrOf st).toList.drop (sa + na + nb))
  hB.kind hB.failed hx1 hx2 ?_ lP (by rw [Qn,length_drop];omega) (by rw [Qn,length_drop];omega) rfl pX pY ?_ (zaO gX) (zaO gY) ?_
 ·conv=>lhs;rw [← take_append_drop sa (arrOf st).toList,← take_append_drop na (List.drop sa (arrOf st).toList),drop_drop,← take_append_drop nb (List.drop (sa + na) (arrOf st).toList),drop_drop]
 ·intro p hpm
  exact h0 p ((Array.perm_iff_toList_perm.mp hB.perm).mem_iff.mp hpm)
 ·intro st' R hk hf hpd hal' hR hS
  have lR:R.length = na + nb:=by
   rw [hR.length_eq,Qk,Qn,Qn,length_drop,length_drop];omega
  have hpd':(pendingOf st').toList = L1 ++ (sa,na + nb,pa) :: L2:=by
   rw [hpd,Array.toList_eraseIdxIfInBounds,Array.toList_setIfInBounds,hp,← hL1,set_append_right _ _ (Q3 _),Nat.sub_self,
    List.eraseIdx_append_of_length_le (by omega),Nat.add_sub_cancel_left]
   rfl
  have low:∀ j,j < sa->(arrOf st')[j]? = (arrOf st)[j]?:=by
   intro j hj
   rw [← Array.getElem?_toList,← Array.getElem?_toList,hal',Q6 (by omega),getElem?_take,if_pos hj]
  have high:∀ j,sa + na + nb<=j->(arrOf st')[j]? = (arrOf st)[j]?:=by
   intro j hj
   rw [← Array.getElem?_toList,← Array.getElem?_toList,hal',Q7 (by omega),Q7 (by omega),getElem?_drop,lP,lR]
   congr 1;omega
  refine h st' ⟨hk,hf,?_,?_,hB.le⟩ ?_ fun j hj=>high j (by omega)
  ·refine Array.Perm.trans (Array.perm_iff_toList_perm.mpr ?_) hB.perm
   rw [hal']
   conv=>rhs;rw [← take_append_drop sa (arrOf st).toList,← take_append_drop na (List.drop sa (arrOf st).toList),drop_drop,← take_append_drop nb (List.drop (sa + na) (arrOf st).toList),drop_drop]
   refine List.Perm.append_left _ ?_
   rw [← append_assoc (List.take na _)]
   exact List.Perm.append_right _ hR
  ·rw [hpd']
   refine Runs.app.mpr ⟨sa,r1.congr fun j _ hj=>low j hj,rfl,by omega,?_,?_⟩
   ·have:=zc3 hS hal'
    rwa [lP,lR] at this
   ·rw [← Nat.add_assoc]
    exact r3.congr fun j hj _=>high j hj
  ·have e1:(pendingOf st').toList.length = (pendingOf st').size:=by simp
   rw [← e1,← hl,hpd',hp]
   simp;omega
theorem zd4 (c:Prop) [Decidable c] (n:Nat):(if c then n - 1 else n)<=n:=by split <;> omega
theorem zbi {Q:Unit->SortSt->Prop} (h0:IntKeys a0) (hB:SBase a0 st) (h2:2<=a0.size)
 (h:∀ st',(arrOf st').Perm a0->failedOf st' = none->SortedTo (arrOf st') a0.size->Q () st'):wpS (model prog w) A E s sortRuns' Q st:=by
 rw [sortRuns'_eq]
 refine wpS_bind (wpS_get ?_)
 dsimp only
 simp only [hB.size]
 generalize minRun' a0.size a0.size 0 = mr
 refine wpS_bind (wpS_mono (wpS_forRange (I:=fun x c st'=>∃ lo,c = (none,lo)/\x<=lo/\PI a0 st' lo) (Q:=fun c st'=>c = (none,a0.size)/\PI a0 st' a0.size) ?_ ?_
  ⟨0,rfl,Q3 _,hB.kind,hB.failed,hB.perm,by rw [hB.pend];rfl,by omega⟩) ?_)
 ·rintro x c st1 _ hx ⟨lo,rfl,hxl,hP1⟩
  dsimp only
  by_cases hge:lo ≥ a0.size
  ·rw [if_pos hge]
   have:lo = a0.size:=by have:=hP1.le;omega
   subst this
   exact wpS_pure ⟨rfl,hP1⟩
  rw [if_neg hge]
  have hI1:IntKeys (arrOf st1):=fun p hp=>h0 p ((Array.perm_iff_toList_perm.mp hP1.perm).mem_iff.mp hp)
  have hs1:(arrOf st1).size = a0.size:=hP1.perm.size_eq
  have of:∀ {st'},LB st1 lo st'->PI a0 st' lo:=fun hL=>⟨hL.kind,hL.failed,hL.perm.trans hP1.perm,by rw [hL.pend];exact hP1.runs.congr fun i _ hi=>hL.pre i hi,hP1.le⟩
  refine wpS_bind (zbr (st0:=st1) hI1 (by omega) (by omega) ⟨hP1.kind,hP1.failed,rfl,Array.Perm.refl _,fun _ _=>rfl⟩ fun m st2 hB2 hm1 hm2 hS2=>?_)
  dsimp only
  by_cases hlt:m < mr
  case' pos=>
   rw [if_pos hlt]
   refine wpS_bind (wpS_lift (wpAny_rule ⟨rfl,?_⟩))
   refine wpS_bind (zca (st0:=st1) hI1 (by omega) (by omega) hB2 hS2 fun st3 hB3 hS3=>?_)
   simp only [Bool.not_true,Bool.false_eq_true,if_false]
   have hn1:1<=min (a0.size - lo) mr:=by omega
   have hn2:lo + min (a0.size - lo) mr<=a0.size:=by omega
   generalize min (a0.size - lo) mr = n at *
  case' neg=>
   rw [if_neg hlt]
   have hB3:=hB2
   have hS3:=hS2
   have hn1:=hm1
   have hn2:lo + m<=a0.size:=by omega
   generalize st2 = st3 at *
   generalize m = n at *
  all_goals
   have hP3:=of hB3
   have push:∀ {st':SortSt},PI a0 st' lo->Sg (arrOf st') lo n->PI a0 (setPending st' ((pendingOf st').push (lo,n,0))) (lo + n):=by
    intro st' hP hS
    refine ⟨hP.kind,hP.failed,hP.perm,?_,hn2⟩
    show Runs (arrOf st') 0 ((pendingOf st').push (lo,n,0)).toList (lo + n)
    rw [Array.toList_push]
    exact Runs.app.mpr ⟨lo,hP.runs,rfl,by omega,hS,rfl⟩
   refine wpS_bind (wpS_get ?_)
   cases hb:(pendingOf st3).back? with
   | none=>exact wpS_bind (wpS_modify (wpS_pure ⟨_,rfl,by omega,push hP3 hS3⟩))
   | some b=>
    obtain ⟨s1,n1,p1⟩:=b
    dsimp only
    refine wpS_bind (wpS_mono (wpS_forRange (I:=fun x c st'=>c = (none,())/\PI a0 st' lo/\Sg (arrOf st') lo n) (Q:=fun c st'=>c = (none,())/\PI a0 st' lo/\Sg (arrOf st') lo n) ?_ (fun _ _ hh=>hh) ⟨rfl,hP3,hS3⟩) ?_)
    ·rintro y c st4 _ _ ⟨rfl,hP4,hS4⟩
     refine wpS_bind (wpS_get ?_)
     by_cases hz:(pendingOf st4).size > 1
     ·rw [if_pos hz]
      have e:(pendingOf st4)[(pendingOf st4).size - 2]? = some (pendingOf st4)[(pendingOf st4).size - 2]:=getElem?_pos ..
      rw [e]
      dsimp only
      split
      ·exact wpS_pure ⟨rfl,hP4,hS4⟩
      ·refine wpS_bind (qZ h0 hP4 (by omega) fun st5 hP5 _ hj5=>?_)
       exact wpS_pure ⟨rfl,hP5,hS4.congr fun i hi _=>hj5 i hi⟩
     ·rw [if_neg hz]
      exact wpS_pure ⟨rfl,hP4,hS4⟩
    ·rintro c st4 ⟨rfl,hP4,hS4⟩
     dsimp only
     refine wpS_bind (wpS_modify ?_)
     refine wpS_bind (wpS_modify (wpS_pure ⟨_,rfl,by omega,push ?_ ?_⟩))
     ·refine ⟨hP4.kind,hP4.failed,hP4.perm,hP4.runs.pw ?_,hP4.le⟩
      refine ext_getElem? fun i=>?_
      show _ = (List.map _ ((pendingOf st4).modify ((pendingOf st4).size - 1) fun x=>(x.1,x.2.1,power' a0.size (2 * s1 + n1) (2 * s1 + n1 + n1 + n) a0.size)).toList)[i]?
      simp only [Q9,Array.getElem?_toList,Array.getElem?_modify]
      split
      ·cases (pendingOf st4)[i]? <;> rfl
      ·rfl
     ·exact hS4
 ·rintro c st1 ⟨lo,rfl,hxl,hP1⟩
  have:lo = a0.size:=by have:=hP1.le;omega
  subst this
  exact ⟨rfl,hP1⟩
 ·rintro c st1 ⟨rfl,hP1⟩
  dsimp only
  have hl1:=hP1.runs.len
  have hq1:(pendingOf st1).toList.length = (pendingOf st1).size:=by simp
  refine wpS_bind (wpS_mono (wpS_forRange (I:=fun x c st'=>c = (none,())/\PI a0 st' a0.size/\(pendingOf st').size + x<=a0.size) (Q:=fun c st'=>c = (none,())/\PI a0 st' a0.size/\(pendingOf st').size<=1) ?_ ?_
   ⟨rfl,hP1,by omega⟩) ?_)
  ·rintro x c st2 _ hx ⟨rfl,hP2,hc2⟩
   refine wpS_bind (wpS_get ?_)
   by_cases hz:(pendingOf st2).size<=1
   ·rw [if_pos hz]
    exact wpS_pure ⟨rfl,hP2,hz⟩
   rw [if_neg hz]
   refine wpS_bind (qZ h0 hP2 ?_ fun st3 hP3 hc3 _=>wpS_pure ⟨rfl,hP3,by omega⟩)
   exact Nat.lt_of_le_of_lt (Nat.succ_le_succ (zd4 _ _)) (by omega)
  ·rintro c st2 ⟨rfl,hP2,hc2⟩
   exact ⟨rfl,hP2,by omega⟩
  ·rintro c st2 ⟨rfl,hP2,hc2⟩
   refine wpS_pure (h _ hP2.perm hP2.failed ?_)
   have hr:=hP2.runs
   have hq2:(pendingOf st2).toList.length = (pendingOf st2).size:=by simp
   match hp:(pendingOf st2).toList,hr with
   | [],hr=>have:0 = a0.size:=hr;omega
   | (a,n,p) :: l,hr=>
    have hll:l = []:=by
     have:l.length + 1 = (pendingOf st2).toList.length:=by rw [hp];rfl
     exact List.eq_nil_of_length_eq_zero (by omega)
    subst hll
    obtain ⟨_,_,hS,hz⟩:=hr
    have hz:0 + n = a0.size:=hz
    intro i j hij hj
    have:=hS i j hij (by omega)
    rwa [Nat.zero_add,Nat.zero_add] at this
end
end TS
namespace TS
open PySem PySem.Spec PyProof.Rows PySem.Calls
section
variable {prog:Program} {w:World} {A:Around} {E:Value->Shared->Prop} {s:Shared}
theorem zeI {a:Addr} {vs:List Value} {ns:List Int} {n:Nat} {P:Fin->Shared->Prop} (ho:s.heap.get? a = some (seqObj "list" vs.toArray n))
  (hI:IntsAre vs ns) (hz:vs.length<=sizeLine)
  (h:∀ (out:Array Value) (ns':List Int),IntsAre out.toList ns'->ns'.Perm ns->ns'.Pairwise (·<=·)->P (.done (.ret .none)) { s with heap:=sortedHeap s.heap a vs out }) :
  wpAny (model prog w) A (Builtin.«list.sort» ⟨[.ref a],[]⟩) P E s:=by
 by_cases h64:vs.length < 64
 ·exact list_sort_tree ho hI h64 h
 rw [list_sort_plain]
 have ha:a < s.heap.objs.size:=Qb ho
 have hsz:vs.toArray.size = vs.length:=by simp
 refine Q1 (listItems_at ho rfl ?_)
 refine Q1 (listUpdate_at ho rfl ?_ (by rw [hsz];exact hz) (Nat.zero_le _))
 obtain ⟨e1,ho1⟩:∃ e1,(s.heap.update a (Obj.mapSeq fun _=>#[])).get? a = some (seqObj "list" #[] e1):=⟨_,get?_update_seq ho (fun _=>#[])⟩
 refine Q1 (seqEpoch_at ho1 rfl ?_)
 refine Q1 (wpAny_newTuple ?_ (by simpa using hz))
 refine Q1 (wpAny_newList ?_)
 refine wpAny_holding ?_
 have ho6:(((s.heap.update a (Obj.mapSeq fun _=>#[])).push (seqObj "tuple" vs.toArray 0)).push (seqObj "list" #[] 0)).get? a = some (seqObj "list" #[] e1):=by
  rw [Heap.get?_push_ne _ _ _ (by rw [size_push',Heap.size_update];exact Qh (Nat.lt_succ_of_lt ha)),Heap.get?_push_ne _ _ _ (by rw [Heap.size_update];exact Qh ha)]
  exact ho1
 show wpAny (model prog w) A _ P E { s with heap:=((s.heap.update a (Obj.mapSeq fun _=>#[])).push (seqObj "tuple" vs.toArray 0)).push (seqObj "list" #[] 0) }
 dsimp only
 have h2:¬ vs.toArray.size < 2:=by omega
 rw [if_neg h2,if_neg h2]
 have hkk:keyKind' vs.toArray = pure oneType':=by
  match vs,h64,hI with
  | [],h64,_=>exact absurd (show (0:Nat) < 64 by decide) h64
  | [_],h64,_=>exact absurd (show (1:Nat) < 64 by decide) h64
  | v1 :: v2 :: rest,_,hI=>exact keyKind_ints hI
 rw [hkk]
 refine Q1 (Qc ?_)
 refine Q1 (Qd (zbi (a0:=pairsOf vs) (st:=SortSt.mk' oneType' (vs.toArray.zip vs.toArray) #[] 7 none)
  (Q:=fun _ st'=>(arrOf st').Perm (pairsOf vs)/\failedOf st' = none/\SortedTo (arrOf st') (pairsOf vs).size)
  hI.intKeys ⟨Array.Perm.refl _,rfl,rfl,rfl⟩ (by rw [pairsOf_size];omega) fun st' a1 a2 a3=>⟨a1,a2,a3⟩) ?_ fun _ _ e=>e)
 rintro ⟨⟨⟩,st'⟩ s' ⟨rfl,hp,hf,hs⟩
 dsimp only
 refine Q1 (seqEpoch_at ho6 rfl ?_)
 refine Q1 (listUpdate_at ho6 rfl ?_ (Nat.zero_le _) (by
  have e:(Array.map (fun x=>x.2) (arrOf st')).size = vs.length:=(Array.size_map ..).trans (hp.size_eq.trans (pairsOf_size _))
  show (Array.map (fun x=>x.2) (arrOf st')).size<=_
  omega))
 rw [hf]
 simp only [bne_self_eq_false,Bool.false_eq_true,if_false]
 obtain ⟨ns',b1,b2,b3⟩:=sorted_out hI hp hs
 exact Qc (h _ ns' b1 b2 b3)
end
end TS
namespace FT
open PySem PySem.Spec PyProof.Rows L2
section
variable {X:Cx} {XE:XK}
noncomputable def zoE (xs:List T) (k:Nat) (t:T):List T:=xs.take k ++ t :: xs.drop k
end
end FT
namespace L2
open PySem PySem.Spec PySem.W PyProof.Rows
def PEp (X:Cx) (e:Expr) (t:TE):Prop:=
 ∀ (pins:List (Addr × Obj)) (s:Shared) (σ:St) (H:Hp) (Q:VK),Inv X pins σ H s->0 < s.toks->t σ H Q->wpAny (model X.prog X.w) X.A (eval e X.env) (EP X pins σ Q) X.xe s
def PAp (X:Cx) (es:List Expr) (t:TA):Prop:=
 ∀ (pos:Pos) (pins:List (Addr × Obj)) (s:Shared) (σ:St) (H:Hp) (Q:List V->Hp->Prop),Inv X pins σ H s->0 < s.toks->t σ H Q->wpAny (model X.prog X.w) X.A (spliced (backTo pos (starEach es X.env))) (AP X pins σ Q) X.xe s
end L2
namespace TG
open PySem PyProof.Rows
class KO where
 kf:Keyed->Int
 ik:Keyed->Prop
 kq:SortKind
noncomputable abbrev kof [Z:KO] (p:Keyed):Int:=Z.kf p
noncomputable abbrev IK [Z:KO] (p:Keyed):Prop:=Z.ik p
noncomputable abbrev kd [Z:KO]:SortKind:=Z.kq
class Srt (prog:Program) (w:World) (A:Around) (E:Value->Shared->Prop) (s:Shared) [KO]:Prop where
 ltk:∀ {st:SortSt} {x y:Keyed} {Q:Option Bool->SortSt->Prop},kindOf st = kd->IK x->IK y->Q (some (decide (kof x < kof y))) st->wpS (model prog w) A E s (lt' x y) Q st
variable {A:Around} {Q:Option Bool->SortSt->Prop} {prog:Program} {s:Shared} {st:SortSt} {E:Value->Shared->Prop} {w:World}
theorem zah [KO] [Z:Srt prog w A E s] {x y:Keyed} (hk:kindOf st = kd) (hx:IK x) (hy:IK y) (h:Q (some (decide (kof x < kof y))) st):wpS (model prog w) A E s (lt' x y) Q st:=Z.ltk hk hx hy h
variable [KO]
noncomputable def K (xs:Array Keyed) (i:Nat):Int:=match xs[i]? with
 | some p=>kof p
 | none=>0
def SortedTo (xs:Array Keyed) (k:Nat):Prop:=∀ i j,i<=j->j < k->K xs i<=K xs j
def IntKeys (xs:Array Keyed):Prop:=∀ p,p ∈ xs.toList->IK p
structure SBase (a₀:Array Keyed) (st:SortSt):Prop where
 perm:(arrOf st).Perm a₀
 kind:kindOf st = kd
 failed:failedOf st = none
 pend:pendingOf st = #[]
variable {xs:Array Keyed} {i:Nat}
theorem K_congr {ys:Array Keyed} {j:Nat} (h:xs[i]? = ys[j]?):K xs i = K ys j:=by unfold K;rw [h]
theorem K_bubble {src d:Nat} (hs:src < xs.size) (hd:d<=src) (k:Nat) :
  K (bubble xs src d) k = if k = src - d then K xs src else if src - d < k/\k<=src then K xs (k - 1) else K xs k:=by
 have e:=getElem?_bubble hs d hd k
 split <;> rename_i h1
 ·rw [if_pos h1] at e;exact K_congr e
 ·rw [if_neg h1] at e
  split <;> rename_i h2
  ·rw [if_pos h2] at e;exact K_congr e
  ·rw [if_neg h2] at e;exact K_congr e
def So (l:List Keyed):Prop:=l.Pairwise fun x y=>kof x<=kof y
noncomputable def zd6:Bool->Keyed->Array Keyed->Nat->Nat->Nat->StateT SortSt Sem (Option Nat):=sortPriv% PySem.Builtin.gallop
noncomputable def zda:Array Keyed->Array Keyed->StateT SortSt Sem (Array Keyed):=sortPriv% PySem.Builtin.mergeLo
noncomputable def zdb:Array Keyed->Array Keyed->StateT SortSt Sem (Array Keyed):=sortPriv% PySem.Builtin.mergeHi
noncomputable def zbw:Nat->StateT SortSt Sem Unit:=sortPriv% PySem.Builtin.setMinGallop
variable {arr:Array Keyed} {p:Keyed}
section
variable {prog:Program} {w:World} {A:Around} {E:Value->Shared->Prop} {s:Shared} [Srt prog w A E s]
theorem zh {Q:Keyed->SortSt->Prop} (hi:arr.toList[i]? = some p) (h:Q p st) :
  wpS (model prog w) A E s (elem' arr i) Q st:=by
 rw [elem'_eq,← Array.getElem?_toList,hi];exact wpS_pure h
theorem zfO {left:Bool} {key:Keyed} (hk:kindOf st = kd)
 (hi:arr.toList[i]? = some p) (hp:IK p) (hkey:IK key) (h:Q (some (if left then decide (kof p < kof key) else decide (kof p<=kof key))) st) :
  wpS (model prog w) A E s (do
   let x ← elem' arr i
   if left = true then lt' x key else do
    let r ← lt' key x
    pure (Option.map (fun x=>!x) r)) Q st:=by
 refine wpS_bind (zh hi ?_)
 cases left with
 | true=>exact zah hk hp hkey h
 | false=>
  refine wpS_bind (zah hk hkey hp (wpS_pure ?_))
  have:(!decide (kof key < kof p)) = decide (kof p<=kof key):=by
   by_cases h1:kof key < kof p <;> simp [h1] <;> omega
  simpa [this] using h
end
end TG
namespace TG
open PySem PyProof.Rows
variable [KO]
variable {left:Bool} {key:Keyed}
section
variable {prog:Program} {w:World} {A:Around} {E:Value->Shared->Prop} {s:Shared} [Srt prog w A E s]
noncomputable def bq (left:Bool) (key p:Keyed):Bool:=if left then decide (kof p < kof key) else decide (kof p<=kof key)
theorem zeh {p q:Keyed} (h:kof p<=kof q) (hq:bq left key q = true):bq left key p = true:=by
 unfold bq at hq ⊢
 cases left <;> simp at hq ⊢ <;> omega
theorem qv {st:SortSt} {arr:Array Keyed} {base n hint:Nat} {L:List Keyed} {Q:Option Nat->SortSt->Prop}
 (hk:kindOf st = kd) (hkey:IK key) (hL:(arr.toList.drop base).take n = L) (hn:L.length = n) (hI:∀ p ∈ L,IK p) (hS:So L) (hh:hint < n)
 (h:∀ k,k<=n->(∀ p ∈ L.take k,bq left key p = true)->(∀ p ∈ L.drop k,bq left key p = false)->Q (some k) st) :
  wpS (model prog w) A E s (zd6 left key arr base n hint) Q st:=by
 have at_:∀ i,(hi:i < n)->arr.toList[base + i]? = some (L[i]'(by omega)):=by
  intro i hi
  have:L[i]? = some (L[i]'(by omega)):=getElem?_pos ..
  rw [← this,← hL,getElem?_take,if_pos hi,getElem?_drop]
 obtain ⟨b,hb⟩:∃ b:Nat->Bool,∀ i,(hi:i < n)->b i = bq left key (L[i]'(by omega)):=
  ⟨fun i=>if hi:i < n then bq left key (L[i]'(by omega)) else false,fun i hi=>by simp [hi]⟩
 have mono:∀ i j,i<=j->j < n->b j = true->b i = true:=by
  intro i j hij hj hbj
  by_cases e:i = j
  ·subst e;exact hbj
  ·rw [hb i (by omega)];rw [hb j hj] at hbj
   exact zeh (pairwise_iff_getElem.mp hS i j (by omega) (by omega) (by omega)) hbj
 have mono':∀ i j,i<=j->j < n->b i = false->b j = false:=by
  intro i j hij hj hbi
  cases e:b j with
  | false=>rfl
  | true=>rw [mono i j hij hj e] at hbi;cases hbi
 have bey:∀ {Q':Option Bool->SortSt->Prop} i,i < n->Q' (some (b i)) st->wpS (model prog w) A E s (do
   let x ← elem' arr (base + i)
   if left = true then lt' x key else do
    let r ← lt' key x
    pure (Option.map (fun x=>!x) r)) Q' st:=by
  intro Q' i hi h'
  refine zfO hk (at_ i hi) (hI _ (getElem_mem _)) hkey ?_
  rw [hb i hi] at h';exact h'
 have fin:∀ k,k<=n->(∀ i,i < k->b i = true)->(∀ i,k<=i->i < n->b i = false)->Q (some k) st:=by
  intro k hkn h1 h2
  refine h k hkn (fun p hp=>?_) (fun p hp=>?_)
  ·obtain ⟨i,hi,rfl⟩:=mem_iff_getElem.mp hp
   rw [Qn] at hi
   rw [List.getElem_take,← hb i (by omega)];exact h1 i (by omega)
  ·obtain ⟨i,hi,rfl⟩:=mem_iff_getElem.mp hp
   rw [length_drop] at hi
   rw [List.getElem_drop,← hb (k + i) (by omega)];exact h2 _ (by omega) (by omega)
 refine wpS_bind (bey hint hh ?_)
 dsimp only
 cases hbh:b hint with
 | true=>
  rw [if_pos rfl]
  refine wpS_bind (wpS_mono (wpS_forRange (I:=fun j c st'=>st' = st/\∃ l o,c = (none,l,o)/\l < o/\j + 1<=o/\hint + l < n/\b (hint + l) = true)
   (Q:=fun c st'=>st' = st/\∃ l o,c = (none,l,o)/\l < o/\hint + l < n/\b (hint + l) = true/\(n - hint<=o\/(hint + o < n/\b (hint + o) = false))) ?_ ?_
   ⟨rfl,0,1,rfl,by omega,by omega,by omega,hbh⟩) ?_)
  ·rintro i c st1 _ hi ⟨rfl,l,o,rfl,h1,h2,h3,h4⟩
   dsimp only
   by_cases ho:o ≥ n - hint
   ·rw [if_pos ho];exact wpS_pure ⟨rfl,l,o,rfl,h1,h3,h4,.inl ho⟩
   ·rw [if_neg ho]
    refine wpS_bind (bey (hint + o) (by omega) ?_)
    cases hbo:b (hint + o) with
    | false=>exact wpS_pure ⟨rfl,l,o,rfl,h1,h3,h4,.inr ⟨by omega,hbo⟩⟩
    | true=>exact wpS_pure ⟨rfl,o,2 * o + 1,rfl,by omega,by omega,by omega,hbo⟩
  ·rintro c st1 ⟨rfl,l,o,rfl,h1,h2,h3,h4⟩
   exact ⟨rfl,l,o,rfl,h1,h3,h4,.inl (by omega)⟩
  ·rintro c st1 ⟨rfl,l,o,rfl,h1,h3,h4,h5⟩
   dsimp only
   have f1:∀ i,i < hint + l + 1->b i = true:=fun i hi=>mono i (hint + l) (by omega) h3 h4
   have f2:∀ i,hint + min o (n - hint)<=i->i < n->b i = false:=by
    intro i hi1 hi2
    rcases h5 with h5 | ⟨h5,h6⟩
    ·omega
    ·exact mono' (hint + o) i (by omega) hi2 h6
   have f3:hint + l + 1<=hint + min o (n - hint):=by omega
   have f4:hint + min o (n - hint)<=n:=by omega
   generalize hint + l + 1 = lo at *
   generalize hint + min o (n - hint) = hi at *
   clear h1 h3 h4 h5
   refine wpS_bind (wpS_mono (wpS_forRange (I:=fun j c st'=>st' = st1/\∃ l r,c = (none,l,r)/\l<=r/\r<=n/\r - l<=n - j/\(∀ i,i < l->b i = true)/\(∀ i,r<=i->i < n->b i = false))
    (Q:=fun c st'=>st' = st1/\∃ l,c = (none,l,l)/\l<=n/\(∀ i,i < l->b i = true)/\(∀ i,l<=i->i < n->b i = false)) ?_ ?_
    ⟨rfl,lo,hi,rfl,f3,f4,by omega,f1,f2⟩) ?_)
   ·rintro i c st2 _ hin ⟨rfl,l,r,rfl,g1,g2,g3,g4,g5⟩
    dsimp only
    by_cases hlr:l ≥ r
    ·rw [if_pos hlr]
     have:l = r:=by omega
     subst this
     exact wpS_pure ⟨rfl,l,rfl,g2,g4,g5⟩
    ·rw [if_neg hlr]
     refine wpS_bind (bey (l + (r - l) / 2) (by omega) ?_)
     cases hbm:b (l + (r - l) / 2) with
     | true=>exact wpS_pure ⟨rfl,l + (r - l) / 2 + 1,r,rfl,by omega,g2,by omega,fun i hi=>mono i _ (by omega) (by omega) hbm,g5⟩
     | false=>exact wpS_pure ⟨rfl,l,l + (r - l) / 2,rfl,by omega,by omega,by omega,g4,fun i hi1 hi2=>mono' _ i hi1 hi2 hbm⟩
   ·rintro c st2 ⟨rfl,l,r,rfl,g1,g2,g3,g4,g5⟩
    have:l = r:=by omega
    subst this
    exact ⟨rfl,l,rfl,g2,g4,g5⟩
   ·rintro c st2 ⟨rfl,l,rfl,g2,g4,g5⟩
    exact wpS_pure (fin l g2 g4 g5)
 | false=>
  rw [if_neg (by decide)]
  refine wpS_bind (wpS_mono (wpS_forRange (I:=fun j c st'=>st' = st/\∃ l o,c = (none,l,o)/\l < o/\j + 1<=o/\l<=hint/\b (hint - l) = false)
   (Q:=fun c st'=>st' = st/\∃ l o,c = (none,l,o)/\l < o/\l<=hint/\b (hint - l) = false/\(hint + 1<=o\/(o<=hint/\b (hint - o) = true))) ?_ ?_
   ⟨rfl,0,1,rfl,by omega,by omega,by omega,hbh⟩) ?_)
  ·rintro i c st1 _ hi ⟨rfl,l,o,rfl,h1,h2,h3,h4⟩
   dsimp only
   by_cases ho:o ≥ hint + 1
   ·rw [if_pos ho];exact wpS_pure ⟨rfl,l,o,rfl,h1,h3,h4,.inl ho⟩
   ·rw [if_neg ho]
    refine wpS_bind (bey (hint - o) (by omega) ?_)
    cases hbo:b (hint - o) with
    | true=>exact wpS_pure ⟨rfl,l,o,rfl,h1,h3,h4,.inr ⟨by omega,hbo⟩⟩
    | false=>exact wpS_pure ⟨rfl,o,2 * o + 1,rfl,by omega,by omega,by omega,hbo⟩
  ·rintro c st1 ⟨rfl,l,o,rfl,h1,h2,h3,h4⟩
   exact ⟨rfl,l,o,rfl,h1,h3,h4,.inl (by omega)⟩
  ·rintro c st1 ⟨rfl,l,o,rfl,h1,h3,h4,h5⟩
   dsimp only
   have f1:∀ i,i < hint + 1 - min o (hint + 1)->b i = true:=by
    intro i hi
    rcases h5 with h5 | ⟨h5,h6⟩
    ·omega
    ·exact mono i (hint - o) (by omega) (by omega) h6
   have f2:∀ i,hint - l<=i->i < n->b i = false:=fun i hi1 hi2=>mono' (hint - l) i hi1 hi2 h4
   have f3:hint + 1 - min o (hint + 1)<=hint - l:=by omega
   have f4:hint - l<=n:=by omega
   generalize hint + 1 - min o (hint + 1) = lo at *
   generalize hint - l = hi at *
   clear h1 h3 h4 h5
   refine wpS_bind (wpS_mono (wpS_forRange (I:=fun j c st'=>st' = st1/\∃ l r,c = (none,l,r)/\l<=r/\r<=n/\r - l<=n - j/\(∀ i,i < l->b i = true)/\(∀ i,r<=i->i < n->b i = false))
    (Q:=fun c st'=>st' = st1/\∃ l,c = (none,l,l)/\l<=n/\(∀ i,i < l->b i = true)/\(∀ i,l<=i->i < n->b i = false)) ?_ ?_
    ⟨rfl,lo,hi,rfl,f3,f4,by omega,f1,f2⟩) ?_)
   ·rintro i c st2 _ hin ⟨rfl,l,r,rfl,g1,g2,g3,g4,g5⟩
    dsimp only
    by_cases hlr:l ≥ r
    ·rw [if_pos hlr]
     have:l = r:=by omega
     subst this
     exact wpS_pure ⟨rfl,l,rfl,g2,g4,g5⟩
    ·rw [if_neg hlr]
     refine wpS_bind (bey (l + (r - l) / 2) (by omega) ?_)
     cases hbm:b (l + (r - l) / 2) with
     | true=>exact wpS_pure ⟨rfl,l + (r - l) / 2 + 1,r,rfl,by omega,g2,by omega,fun i hi=>mono i _ (by omega) (by omega) hbm,g5⟩
     | false=>exact wpS_pure ⟨rfl,l,l + (r - l) / 2,rfl,by omega,by omega,by omega,g4,fun i hi1 hi2=>mono' _ i hi1 hi2 hbm⟩
   ·rintro c st2 ⟨rfl,l,r,rfl,g1,g2,g3,g4,g5⟩
    have:l = r:=by omega
    subst this
    exact ⟨rfl,l,rfl,g2,g4,g5⟩
   ·rintro c st2 ⟨rfl,l,rfl,g2,g4,g5⟩
    exact wpS_pure (fin l g2 g4 g5)
end
end TG
namespace TG
open PySem PyProof.Rows
variable [KO]
def le' (c d:List Keyed):Prop:=∀ x ∈ c,∀ y ∈ d,kof x<=kof y
variable {l m:List Keyed}
theorem zg:So (l ++ m) ↔ So l/\So m/\le' l m:=pairwise_append
variable {n:List Keyed}
theorem le_app:le' l (m ++ n) ↔ le' l m/\le' l n:=by
 unfold le'
 constructor
 ·intro h;exact ⟨fun x hx y hy=>h x hx y (mem_append_left _ hy),fun x hx y hy=>h x hx y (Qj _ hy)⟩
 ·rintro ⟨h1,h2⟩ x hx y hy
  rcases mem_append.mp hy with h | h
  ·exact h1 x hx y h
  ·exact h2 x hx y h
theorem z3:le' (l ++ m) n ↔ le' l n/\le' m n:=by
 unfold le'
 constructor
 ·intro h;exact ⟨fun x hx y hy=>h x (mem_append_left _ hx) y hy,fun x hx y hy=>h x (Qj _ hx) y hy⟩
 ·rintro ⟨h1,h2⟩ x hx y hy
  rcases mem_append.mp hx with h | h
  ·exact h1 x h y hy
  ·exact h2 x h y hy
theorem le_nil:le' l []:=fun _ _ _ h=>by cases h
theorem nil_le:le' [] l:=fun _ h=>by cases h
structure MI (T o xs ys:List Keyed):Prop where
 perm:(o ++ (xs ++ ys)).Perm T
 l:So (o ++ xs)
 r:So (o ++ ys)
structure Res (T r:List Keyed):Prop where
 perm:r.Perm T
 so:So r
variable {c o xs ys:List Keyed}
theorem MI.movL {T:List Keyed} (h:MI T o (c ++ xs) ys) (hc:le' c ys):MI T (o ++ c) xs ys:=by
 have h1:=h.l
 have h2:=h.r
 rw [zg,zg,le_app] at h1
 rw [zg] at h2
 refine ⟨by simpa [append_assoc] using h.perm,by simpa [append_assoc] using h.l,?_⟩
 rw [zg,zg,z3]
 exact ⟨⟨h1.1,h1.2.1.1,h1.2.2.1⟩,h2.2.1,h2.2.2,hc⟩
theorem MI.swap {T:List Keyed} (h:MI T o xs ys):MI T o ys xs:=
 ⟨(List.Perm.append_left o perm_append_comm).trans h.perm,h.r,h.l⟩
theorem MI.movR {T:List Keyed} (h:MI T o xs (c ++ ys)) (hc:le' c xs):MI T (o ++ c) xs ys:=(h.swap.movL hc).swap
theorem MI.fin {T:List Keyed} (h:MI T o xs ys) (hc:le' xs ys):Res T (o ++ (xs ++ ys)):=by
 have h1:=h.l
 have h2:=h.r
 rw [zg] at h1 h2
 refine ⟨h.perm,?_⟩
 rw [zg,zg,le_app]
 exact ⟨h1.1,⟨h1.2.1,h2.2.1,hc⟩,h1.2.2,h2.2.2⟩
structure MJ (T o xs ys:List Keyed):Prop where
 perm:((xs ++ ys) ++ o).Perm T
 l:So (xs ++ o)
 r:So (ys ++ o)
theorem MJ.swap {T:List Keyed} (h:MJ T o xs ys):MJ T o ys xs:=
 ⟨(List.Perm.append_right o perm_append_comm).trans h.perm,h.r,h.l⟩
theorem MJ.movR {T:List Keyed} (h:MJ T o xs (ys ++ c)) (hc:le' xs c):MJ T (c ++ o) xs ys:=by
 have h1:=h.l
 have h2:=h.r
 rw [zg] at h1
 rw [zg,zg,z3] at h2
 refine ⟨by simpa [append_assoc] using h.perm,?_,by simpa [append_assoc] using h.r⟩
 rw [zg,zg,le_app]
 exact ⟨h1.1,⟨h2.1.2.1,h2.2.1,h2.2.2.2⟩,hc,h1.2.2⟩
theorem MJ.movL {T:List Keyed} (h:MJ T o (xs ++ c) ys) (hc:le' ys c):MJ T (c ++ o) xs ys:=(h.swap.movR hc).swap
theorem MJ.fin {T:List Keyed} (h:MJ T o xs ys) (hc:le' xs ys):Res T ((xs ++ ys) ++ o):=by
 have h1:=h.l
 have h2:=h.r
 rw [zg] at h1 h2
 refine ⟨h.perm,?_⟩
 rw [zg,zg,z3]
 exact ⟨⟨h1.1,h2.1,hc⟩,h1.2.1,h1.2.2,h2.2.2⟩
theorem qP (h:So l) (n:Nat):So (l.drop n):=h.sublist (List.drop_sublist _ _)
theorem yP (h:So l) (n:Nat):So (l.take n):=h.sublist (List.take_sublist _ _)
theorem zdO (h:So l) {n:Nat} (hn:n < l.length):∀ y ∈ l.drop n,kof l[n]<=kof y:=by
 intro y hy
 rw [drop_eq_getElem_cons hn] at hy
 rcases mem_cons.mp hy with rfl | hy
 ·exact Int.le_refl _
 ·have:=qP h n
  rw [drop_eq_getElem_cons hn] at this
  exact List.rel_of_pairwise_cons this hy
theorem zdN (h:So l) {n:Nat} (hn:n < l.length):∀ y ∈ l.take (n + 1),kof y<=kof l[n]:=by
 intro y hy
 rw [List.take_succ_eq_append_getElem hn] at hy
 rcases mem_append.mp hy with hy | hy
 ·have:=yP h (n + 1)
  rw [List.take_succ_eq_append_getElem hn] at this
  exact (pairwise_append.mp this).2.2 y hy _ (by simp)
 ·simp at hy;subst hy;exact Int.le_refl _
theorem zab (a:Array Keyed) (i:Nat):(a.extract i).toList = a.toList.drop i:=by
 rw [Array.toList_extract,extract_eq_take_drop];exact take_of_length_le (by simp)
theorem ext2 (a:Array Keyed) (i k:Nat):(a.extract i (i + k)).toList = (a.toList.drop i).take k:=by
 rw [Array.toList_extract,extract_eq_take_drop];congr 1;omega
end TG
namespace TG
open PySem PyProof.Rows
variable [KO]
def Same (st st':SortSt):Prop:=kindOf st' = kindOf st/\arrOf st' = arrOf st/\pendingOf st' = pendingOf st/\failedOf st' = failedOf st
theorem Same.slf (st:SortSt):Same st st:=⟨rfl,rfl,rfl,rfl⟩
structure MC (a b:Array Keyed):Prop where
 ia:∀ p ∈ a.toList,IK p
 ib:∀ p ∈ b.toList,IK p
 sa:So a.toList
 sb:So b.toList
 na:0 < a.toList.length
 nb:0 < b.toList.length
 first:∀ y ∈ a.toList,kof (b.toList[0]'nb)<=kof y
 last:∀ y ∈ b.toList,kof y<=kof (a.toList[a.toList.length - 1]'(by omega))
noncomputable abbrev TT (a b:Array Keyed):List Keyed:=a.toList ++ b.toList
noncomputable abbrev ML (a b:Array Keyed) (o:List Keyed) (i j:Nat):Prop:=MI (TT a b) o (a.toList.drop i) (b.toList.drop j)
variable {out:Array Keyed} {p:Keyed} {l:List Keyed} {i:Nat}
section
variable {a b:Array Keyed} {o:List Keyed} {j k:Nat}
theorem ML.chA (h:ML a b o i j) (hc:le' ((a.toList.drop i).take k) (b.toList.drop j)):ML a b (o ++ (a.toList.drop i).take k) (i + k) j:=by
 unfold ML at h ⊢
 rw [← take_append_drop k (a.toList.drop i),drop_drop] at h
 exact h.movL hc
theorem ML.chB (h:ML a b o i j) (hc:le' ((b.toList.drop j).take k) (a.toList.drop i)):ML a b (o ++ (b.toList.drop j).take k) i (j + k):=by
 unfold ML at h ⊢
 rw [← take_append_drop k (b.toList.drop j),drop_drop] at h
 exact h.movR hc
theorem take1 (h:l[i]? = some p):(l.drop i).take 1 = [p]:=by
 obtain ⟨hi,rfl⟩:=List.getElem?_eq_some_iff.mp h
 rw [drop_eq_getElem_cons hi];rfl
theorem ML.psA (h:ML a b o i j) (hp:a.toList[i]? = some p) (hc:∀ y ∈ b.toList.drop j,kof p<=kof y):ML a b (o ++ [p]) (i + 1) j:=by
 have:=h.chA (k:=1) (by rw [take1 hp];intro x hx;simp at hx;subst hx;exact hc)
 rwa [take1 hp] at this
theorem ML.psB (h:ML a b o i j) (hp:b.toList[j]? = some p) (hc:∀ y ∈ a.toList.drop i,kof p<=kof y):ML a b (o ++ [p]) i (j + 1):=by
 have:=h.chB (k:=1) (by rw [take1 hp];intro x hx;simp at hx;subst hx;exact hc)
 rwa [take1 hp] at this
theorem ML.doneB (h:ML a b out.toList i j) (hj:j = b.size):Res (TT a b) (out ++ a.extract i ++ b.extract j).toList:=by
 have:b.toList.drop j = []:=drop_eq_nil_of_le (by simp [hj])
 rw [Array.toList_append,Array.toList_append,zab,zab,append_assoc]
 exact MI.fin h (by rw [this];exact le_nil)
theorem ML.doneA (h:ML a b out.toList i j) (hi:i = a.size):Res (TT a b) (out ++ a.extract i ++ b.extract j).toList:=by
 have:a.toList.drop i = []:=drop_eq_nil_of_le (by simp [hi])
 rw [Array.toList_append,Array.toList_append,zab,zab,append_assoc]
 exact MI.fin h (by rw [this];exact nil_le)
theorem ML.lastA (h:ML a b out.toList i j) (c:MC a b) (hi:i + 1 = a.size):Res (TT a b) (out ++ b.extract j ++ a.extract i).toList:=by
 rw [Array.toList_append,Array.toList_append,zab,zab,append_assoc]
 refine MI.fin h.swap (fun x hx y hy=>?_)
 have hl:=c.last x (mem_of_mem_drop hx)
 rw [drop_eq_getElem_cons (by simp;omega)] at hy
 have:a.toList.drop (i + 1) = []:=drop_eq_nil_of_le (by simp;omega)
 rw [this] at hy
 simp at hy;subst hy
 have e:a.toList.length - 1 = i:=by simp;omega
 simp only [e] at hl
 simpa using hl
theorem at' (h:i < l.length):∃ p,l[i]? = some p/\p ∈ l/\p ∈ l.drop i/\(So l->∀ y ∈ l.drop i,kof p<=kof y):=by
 refine ⟨l[i],getElem?_pos ..,getElem_mem _,?_,fun hs=>zdO hs h⟩
 rw [drop_eq_getElem_cons h];exact mem_cons_self
end
variable {st:SortSt}
section
variable {prog:Program} {w:World} {A:Around} {E:Value->Shared->Prop} {s:Shared} [Srt prog w A E s]
theorem qG {st0:SortSt} {g:Nat} {Q:Unit->SortSt->Prop} (h0:Same st0 st) (h:∀ st',Same st0 st'->Q () st'):wpS (model prog w) A E s (zbw g) Q st:=by
 unfold zbw
 exact wpS_modify (h _ h0)
theorem zbS {a b:Array Keyed} {Q:Array Keyed->SortSt->Prop} (hk:kindOf st = kd) (c:MC a b)
 (h:∀ r st',Same st st'->Res (TT a b) r.toList->Q r st'):wpS (model prog w) A E s (zda a b) Q st:=by
 have ea:a.toList.length = a.size:=by simp
 have eb:b.toList.length = b.size:=by simp
 have na:=c.na
 have nb:=c.nb
 refine wpS_bind (wpS_lift (wpAny_rule ⟨rfl,?_⟩))
 obtain ⟨p0,hp0,hm0,_,_⟩:=at' nb
 have hf:∀ y ∈ a.toList,kof p0<=kof y:=by
  have:=c.first
  obtain ⟨_,e⟩:=List.getElem?_eq_some_iff.mp hp0
  rw [e] at this;exact this
 refine wpS_bind (zh hp0 ?_)
 have M0:ML a b (#[p0]:Array Keyed).toList 0 1:=by
  have:ML a b [] 0 0:=⟨by simp [TT],by simpa using c.sa,by simpa using c.sb⟩
  simpa using this.psB hp0 (by simpa using hf)
 dsimp only
 by_cases h1:1 = b.size
 ·rw [if_pos (by simpa using h1)]
  exact wpS_pure (h _ _ (Same.slf _) (M0.doneB h1))
 rw [if_neg (by simpa using h1)]
 by_cases h2:0 + 1 = a.size
 ·rw [if_pos (by simpa using h2)]
  exact wpS_pure (h _ _ (Same.slf _) (M0.lastA c h2))
 rw [if_neg (by simpa using h2)]
 refine wpS_bind (wpS_get ?_)
 refine wpS_bind (wpS_mono (wpS_forRange (I:=fun x cc st'=>Same st st'/\∃ o i j g,cc = (none,o,i,j,g)/\i + 1 < a.size/\j < b.size/\x + 1<=i + j/\ML a b o.toList i j)
  (Q:=fun cc st'=>Same st st'/\∃ r y,cc = (some r,y)/\Res (TT a b) r.toList) ?_ ?_ ⟨Same.slf _,_,_,_,_,rfl,by omega,by omega,by omega,M0⟩) ?_)
 ·rintro x cc st1 _ hx ⟨hS1,o,i,j,g,rfl,hi,hj,hij,hM⟩
  dsimp only
  refine wpS_bind (wpS_mono (wpS_forRange (I:=fun y cc st'=>Same st st'/\∃ o' i' j' ac bc,cc = (none,o',i',j',ac,bc)/\i' + 1 < a.size/\j' < b.size/\i + j + y<=i' + j'/\ML a b o'.toList i' j')
   (Q:=fun cc st'=>Same st st'/\∃ r o' i' j' ac bc,cc = (r,o',i',j',ac,bc)/\((∃ r',r = some r'/\Res (TT a b) r'.toList) \/
    (r = none/\i' + 1 < a.size/\j' < b.size/\i + j + 1<=i' + j'/\ML a b o'.toList i' j'))) ?_ ?_ ⟨hS1,_,_,_,_,_,rfl,hi,hj,by omega,hM⟩) ?_)
  ·rintro y cc st2 _ hy ⟨hS2,o',i',j',ac,bc,rfl,hi',hj',hij',hM'⟩
   dsimp only
   have hk2:kindOf st2 = kd:=hS2.1.trans hk
   obtain ⟨p,hp,pm,pd,pl⟩:=at' (l:=b.toList) (i:=j') (by omega)
   obtain ⟨q,hq,qm,qd,ql⟩:=at' (l:=a.toList) (i:=i') (by omega)
   refine wpS_bind (zh hp (wpS_bind (zh hq (wpS_bind (zah hk2 (c.ib _ pm) (c.ia _ qm) ?_)))))
   by_cases hlt:kof p < kof q
   ·simp only [hlt,decide_true,if_true]
    refine wpS_bind (zh hp ?_)
    have M2:ML a b (o'.push p).toList i' (j' + 1):=by
     rw [Array.toList_push]
     exact hM'.psB hp fun y hy=>Int.le_trans (Int.le_of_lt hlt) (ql c.sa y hy)
    by_cases h3:j' + 1 = b.size
    ·rw [if_pos (by simpa using h3)]
     exact wpS_pure ⟨hS2,_,_,_,_,_,_,rfl,.inl ⟨_,rfl,M2.doneB h3⟩⟩
    ·rw [if_neg (by simpa using h3)]
     split
     ·exact wpS_pure ⟨hS2,_,_,_,_,_,_,rfl,.inr ⟨rfl,hi',by omega,by omega,M2⟩⟩
     ·exact wpS_pure ⟨hS2,_,_,_,_,_,rfl,hi',by omega,by omega,M2⟩
   ·simp only [hlt,decide_false,Bool.false_eq_true,if_false]
    refine wpS_bind (zh hq ?_)
    have M2:ML a b (o'.push q).toList (i' + 1) j':=by
     rw [Array.toList_push]
     exact hM'.psA hq fun y hy=>Int.le_trans (Int.not_lt.mp hlt) (pl c.sb y hy)
    by_cases h3:i' + 1 + 1 = a.size
    ·rw [if_pos (by simpa using h3)]
     exact wpS_pure ⟨hS2,_,_,_,_,_,_,rfl,.inl ⟨_,rfl,M2.lastA c h3⟩⟩
    ·rw [if_neg (by simpa using h3)]
     split
     ·exact wpS_pure ⟨hS2,_,_,_,_,_,_,rfl,.inr ⟨rfl,by omega,by omega,by omega,M2⟩⟩
     ·exact wpS_pure ⟨hS2,_,_,_,_,_,rfl,by omega,by omega,by omega,M2⟩
  ·rintro cc st2 ⟨hS2,o',i',j',ac,bc,rfl,hi',hj',hij',hM'⟩
   exact ⟨hS2,_,_,_,_,_,_,rfl,.inr ⟨rfl,hi',hj',by omega,hM'⟩⟩
  ·rintro cc st2 ⟨hS2,r,o',i',j',ac,bc,rfl,hor⟩
   dsimp only
   rcases hor with ⟨r',rfl,hR⟩ | ⟨rfl,hi',hj',hij',hM'⟩
   ·exact wpS_pure ⟨hS2,_,_,rfl,hR⟩
   dsimp only
   refine wpS_bind (wpS_lift (wpAny_rule ⟨rfl,?_⟩))
   refine wpS_bind (wpS_mono (wpS_forRange (I:=fun y cc st'=>Same st st'/\∃ o'' i'' j'' g ac bc,cc = (none,o'',i'',j'',g,ac,bc)/\i'' + 1 < a.size/\j'' < b.size/\i' + j'<=i'' + j''/\ML a b o''.toList i'' j'')
    (Q:=fun cc st'=>Same st st'/\∃ r o'' i'' j'' g ac bc,cc = (r,o'',i'',j'',g,ac,bc)/\((∃ r',r = some r'/\Res (TT a b) r'.toList) \/
     (r = none/\i'' + 1 < a.size/\j'' < b.size/\i' + j'<=i'' + j''/\ML a b o''.toList i'' j''))) ?_ ?_ ⟨hS2,_,_,_,_,_,_,rfl,hi',hj',by omega,hM'⟩) ?_)
   ·clear hM hM' hi hj hi' hj' hij hij'
    rintro y cc st3 _ hy ⟨hS3,o3,i3,j3,g3,ac3,bc3,rfl,hi3,hj3,hij3,hM3⟩
    dsimp only
    obtain ⟨p,hp,pm,pd,pl⟩:=at' (l:=b.toList) (i:=j3) (by omega)
    by_cases hg:g3 > 1
    case' pos=>rw [if_pos hg]
    case' neg=>rw [if_neg hg]
    all_goals
     refine wpS_bind (qG hS3 fun st4 hS4=>?_)
     have hk4:kindOf st4 = kd:=hS4.1.trans hk
     refine wpS_bind (zh hp (wpS_bind (qv (L:=a.toList.drop i3) hk4 (c.ib _ pm) (take_of_length_le (by simp)) (by simp) (fun x hx=>c.ia x (mem_of_mem_drop hx)) (qP c.sa _) (by omega) fun k hkn g1 g2=>?_)))
     dsimp only
     have MA:ML a b (o3 ++ a.extract i3 (i3 + k)).toList (i3 + k) j3:=by
      rw [Array.toList_append,ext2]
      exact hM3.chA fun x hx y hy=>Int.le_trans (by simpa [bq] using g1 x hx) (pl c.sb y hy)
     have gA:∀ y ∈ a.toList.drop (i3 + k),kof p<=kof y:=by
      intro y hy
      have:=g2 y (by rw [drop_drop];exact hy)
      simp [bq] at this;omega
     by_cases hk0:k > 0
     case' pos=>
      rw [if_pos hk0]
      by_cases e1:i3 + k + 1 = a.size
      ·rw [if_pos (by simpa using e1)]
       exact wpS_pure ⟨hS4,_,_,_,_,_,_,_,rfl,.inl ⟨_,rfl,MA.lastA c e1⟩⟩
      rw [if_neg (by simpa using e1)]
      by_cases e2:i3 + k = a.size
      ·rw [if_pos (by simpa using e2)]
       exact wpS_pure ⟨hS4,_,_,_,_,_,_,_,rfl,.inl ⟨_,rfl,MA.doneA e2⟩⟩
      rw [if_neg (by simpa using e2)]
      have hi4:i3 + k + 1 < a.size:=by omega
      have hij4:i' + j'<=i3 + k + j3:=by omega
      clear g1 g2
      generalize o3 ++ a.extract i3 (i3 + k) = o4 at *
      generalize i3 + k = i4 at *
     case' neg=>
      rw [if_neg hk0]
      have hz:k = 0:=by omega
      subst hz
      rw [Nat.add_zero] at gA
      clear MA g1 g2
      have MA:=hM3
      have hi4:=hi3
      have hij4:=hij3
      generalize o3 = o4 at *
      generalize i3 = i4 at *
     all_goals
      refine wpS_bind (zh hp ?_)
      have M5:ML a b (o4.push p).toList i4 (j3 + 1):=by rw [Array.toList_push];exact MA.psB hp gA
      by_cases e3:j3 + 1 = b.size
      ·rw [if_pos (by simpa using e3)]
       exact wpS_pure ⟨hS4,_,_,_,_,_,_,_,rfl,.inl ⟨_,rfl,M5.doneB e3⟩⟩
      rw [if_neg (by simpa using e3)]
      obtain ⟨q,hq,qm,qd,ql⟩:=at' (l:=a.toList) (i:=i4) (by omega)
      refine wpS_bind (zh hq (wpS_bind (qv (L:=b.toList.drop (j3 + 1)) hk4 (c.ia _ qm) (take_of_length_le (by simp)) (by simp) (fun x hx=>c.ib x (mem_of_mem_drop hx)) (qP c.sb _) (by omega) fun k' hkn' g1' g2'=>?_)))
      dsimp only
      have MB:ML a b (o4.push p ++ b.extract (j3 + 1) (j3 + 1 + k')).toList i4 (j3 + 1 + k'):=by
       rw [Array.toList_append,ext2]
       exact M5.chB fun x hx y hy=>Int.le_trans (by have:=g1' x hx;simp [bq] at this;omega) (ql c.sa y hy)
      have gB:∀ y ∈ b.toList.drop (j3 + 1 + k'),kof q<=kof y:=by
       intro y hy
       have:=g2' y (by rw [drop_drop];exact hy)
       simp [bq] at this;omega
      by_cases hk0':k' > 0
      case' pos=>
       rw [if_pos hk0']
       by_cases e4:j3 + 1 + k' = b.size
       ·rw [if_pos (by simpa using e4)]
        exact wpS_pure ⟨hS4,_,_,_,_,_,_,_,rfl,.inl ⟨_,rfl,MB.doneB e4⟩⟩
       rw [if_neg (by simpa using e4)]
       have hj6:j3 + 1 + k' < b.size:=by omega
       have hij6:i' + j'<=i4 + (j3 + 1 + k'):=by omega
       clear g1' g2'
       generalize o4.push p ++ b.extract (j3 + 1) (j3 + 1 + k') = o6 at *
       generalize j3 + 1 + k' = j6 at *
      case' neg=>
       rw [if_neg hk0']
       have hz:k' = 0:=by omega
       subst hz
       rw [Nat.add_zero] at gB
       clear MB g1' g2'
       have MB:=M5
       have hj6:j3 + 1 < b.size:=by omega
       have hij6:i' + j'<=i4 + (j3 + 1):=by omega
       generalize o4.push p = o6 at *
       generalize j3 + 1 = j6 at *
      all_goals
       refine wpS_bind (zh hq ?_)
       have M7:ML a b (o6.push q).toList (i4 + 1) j6:=by rw [Array.toList_push];exact MB.psA hq gB
       by_cases e5:i4 + 1 + 1 = a.size
       ·rw [if_pos (by simpa using e5)]
        exact wpS_pure ⟨hS4,_,_,_,_,_,_,_,rfl,.inl ⟨_,rfl,M7.lastA c e5⟩⟩
       rw [if_neg (by simpa using e5)]
       split
       ·exact wpS_pure ⟨hS4,_,_,_,_,_,_,_,rfl,.inr ⟨rfl,by omega,by omega,by omega,M7⟩⟩
       ·exact wpS_pure ⟨hS4,_,_,_,_,_,_,rfl,by omega,by omega,by omega,M7⟩
   ·rintro cc st3 ⟨hS3,o3,i3,j3,g3,ac3,bc3,rfl,hi3,hj3,hij3,hM3⟩
    exact ⟨hS3,_,_,_,_,_,_,_,rfl,.inr ⟨rfl,hi3,hj3,hij3,hM3⟩⟩
   ·rintro cc st3 ⟨hS3,r,o3,i3,j3,g3,ac3,bc3,rfl,hor⟩
    dsimp only
    rcases hor with ⟨r',rfl,hR⟩ | ⟨rfl,hi3,hj3,hij3,hM3⟩
    ·exact wpS_pure ⟨hS3,_,_,rfl,hR⟩
    ·refine wpS_bind (qG hS3 fun st4 hS4=>?_)
     exact wpS_pure ⟨hS4,_,_,_,_,rfl,hi3,hj3,by omega,hM3⟩
 ·rintro cc st1 ⟨hS1,o,i,j,g,rfl,hi,hj,hij,hM⟩
  omega
 ·rintro cc st1 ⟨hS1,r,y,rfl,hR⟩
  exact wpS_pure (h _ _ hS1 hR)
end
end TG
namespace TG
open PySem PyProof.Rows
variable [KO]
noncomputable abbrev MH (a b:Array Keyed) (o:List Keyed) (i j:Nat):Prop:=MJ (TT a b) o (a.toList.take i) (b.toList.take j)
variable {out:Array Keyed} {p:Keyed} {l:List Keyed} {i:Nat}
section
variable {a b:Array Keyed} {o:List Keyed} {j k:Nat}
theorem zcf (hk:k<=i):l.take i = l.take k ++ (l.take i).drop k:=by
 have:=take_append_drop k (l.take i)
 rw [take_take,Nat.min_eq_left hk] at this
 exact this.symm
theorem MH.chA (h:MH a b o i j) (hk:k<=i) (hc:le' (b.toList.take j) ((a.toList.take i).drop k)):MH a b ((a.toList.take i).drop k ++ o) k j:=by
 unfold MH at h ⊢
 rw [zcf hk] at h
 exact h.movL hc
theorem MH.chB (h:MH a b o i j) (hk:k<=j) (hc:le' (a.toList.take i) ((b.toList.take j).drop k)):MH a b ((b.toList.take j).drop k ++ o) i k:=by
 unfold MH at h ⊢
 rw [zcf hk] at h
 exact h.movR hc
theorem zaB (hi:0 < i) (h:l[i - 1]? = some p):(l.take i).drop (i - 1) = [p]:=by
 rw [drop_take,show i - (i - 1) = 1 by omega];exact take1 h
theorem MH.psA (h:MH a b o i j) (hi:0 < i) (hp:a.toList[i - 1]? = some p) (hc:∀ y ∈ b.toList.take j,kof y<=kof p):MH a b (p :: o) (i - 1) j:=by
 have:=h.chA (k:=i - 1) (by omega) (by rw [zaB hi hp];intro x hx y hy;simp at hy;subst hy;exact hc x hx)
 rwa [zaB hi hp] at this
theorem MH.psB (h:MH a b o i j) (hj:0 < j) (hp:b.toList[j - 1]? = some p) (hc:∀ y ∈ a.toList.take i,kof y<=kof p):MH a b (p :: o) i (j - 1):=by
 have:=h.chB (k:=j - 1) (by omega) (by rw [zaB hj hp];intro x hx y hy;simp at hy;subst hy;exact hc x hx)
 rwa [zaB hj hp] at this
theorem zac (a:Array Keyed) (i:Nat):(a.extract 0 i).toList = a.toList.take i:=by
 rw [Array.toList_extract,extract_eq_take_drop];simp
theorem ext3 (a:Array Keyed) (k i:Nat):(a.extract k i).toList = (a.toList.take i).drop k:=by
 rw [Array.toList_extract,extract_eq_take_drop,drop_take]
theorem MH.doneA (h:MH a b out.toList.reverse i j) (hi:i = 0):Res (TT a b) (a.extract 0 i ++ b.extract 0 j ++ out.reverse).toList:=by
 rw [Array.toList_append,Array.toList_append,zac,zac,Array.toList_reverse]
 exact MJ.fin h (by subst hi;exact nil_le)
theorem MH.doneB (h:MH a b out.toList.reverse i j) (hj:j = 0):Res (TT a b) (a.extract 0 i ++ b.extract 0 j ++ out.reverse).toList:=by
 rw [Array.toList_append,Array.toList_append,zac,zac,Array.toList_reverse]
 exact MJ.fin h (by subst hj;exact le_nil)
theorem MH.firstB (h:MH a b out.toList.reverse i j) (c:MC a b) (hj:j = 1):Res (TT a b) (b.extract 0 j ++ a.extract 0 i ++ out.reverse).toList:=by
 rw [Array.toList_append,Array.toList_append,zac,zac,Array.toList_reverse]
 refine MJ.fin h.swap (fun x hx y hy=>?_)
 subst hj
 have nb:=c.nb
 rw [List.take_succ_eq_append_getElem nb] at hx
 simp at hx;subst hx
 have:=c.first y (mem_of_mem_take hy)
 simpa using this
theorem at2 (h:i - 1 < l.length) (hi:0 < i):∃ p,l[i - 1]? = some p/\p ∈ l/\(So l->∀ y ∈ l.take i,kof y<=kof p):=by
 refine ⟨l[i - 1],getElem?_pos ..,getElem_mem _,fun hs=>?_⟩
 have:=zdN hs h
 rwa [show i - 1 + 1 = i by omega] at this
end
section
variable {prog:Program} {w:World} {A:Around} {E:Value->Shared->Prop} {s:Shared} [Srt prog w A E s]
theorem zbT {st:SortSt} {a b:Array Keyed} {Q:Array Keyed->SortSt->Prop} (hk:kindOf st = kd) (c:MC a b)
  (h:∀ r st',Same st st'->Res (TT a b) r.toList->Q r st'):wpS (model prog w) A E s (zdb a b) Q st:=by
 have ea:a.toList.length = a.size:=by simp
 have eb:b.toList.length = b.size:=by simp
 have na:=c.na
 have nb:=c.nb
 refine wpS_bind (wpS_lift (wpAny_rule ⟨rfl,?_⟩))
 obtain ⟨p0,hp0,hm0,_⟩:=at2 (l:=a.toList) (i:=a.size) (by omega) (by omega)
 have hf:∀ y ∈ b.toList,kof y<=kof p0:=by
  have:=c.last
  obtain ⟨_,e⟩:=List.getElem?_eq_some_iff.mp hp0
  simp only [ea,e] at this;exact this
 refine wpS_bind (zh hp0 ?_)
 have M0:MH a b (#[p0]:Array Keyed).toList.reverse (a.size - 1) b.size:=by
  have ta:a.toList.take a.size = a.toList:=take_of_length_le (by omega)
  have tb:b.toList.take b.size = b.toList:=take_of_length_le (by omega)
  have:MH a b [] a.size b.size:=⟨by rw [ta,tb,append_nil],by rw [ta,append_nil];exact c.sa,by rw [tb,append_nil];exact c.sb⟩
  exact this.psA (by omega) hp0 (by rw [tb];exact hf)
 dsimp only
 by_cases h1:a.size - 1 = 0
 ·rw [if_pos (by simpa using h1)]
  exact wpS_pure (h _ _ (Same.slf _) (M0.doneA h1))
 rw [if_neg (by simpa using h1)]
 by_cases h2:b.size = 1
 ·rw [if_pos (by simpa using h2)]
  exact wpS_pure (h _ _ (Same.slf _) (M0.firstB c h2))
 rw [if_neg (by simpa using h2)]
 refine wpS_bind (wpS_get ?_)
 refine wpS_bind (wpS_mono (wpS_forRange (I:=fun x cc st'=>Same st st'/\∃ i j o g,cc = (none,i,j,o,g)/\0 < i/\i<=a.size/\1 < j/\j<=b.size/\x + (i + j) + 1<=a.size + b.size/\MH a b o.toList.reverse i j)
  (Q:=fun cc st'=>Same st st'/\∃ r y,cc = (some r,y)/\Res (TT a b) r.toList) ?_ ?_ ⟨Same.slf _,_,_,_,_,rfl,by omega,by omega,by omega,by omega,by omega,M0⟩) ?_)
 ·rintro x cc st1 _ hx ⟨hS1,i,j,o,g,rfl,hi,hia,hj,hjb,hij,hM⟩
  dsimp only
  refine wpS_bind (wpS_mono (wpS_forRange (I:=fun y cc st'=>Same st st'/\∃ i' j' o' ac bc,cc = (none,i',j',o',ac,bc)/\0 < i'/\i'<=a.size/\1 < j'/\j'<=b.size/\i' + j' + y<=i + j/\MH a b o'.toList.reverse i' j')
   (Q:=fun cc st'=>Same st st'/\∃ r i' j' o' ac bc,cc = (r,i',j',o',ac,bc)/\((∃ r',r = some r'/\Res (TT a b) r'.toList) \/
    (r = none/\0 < i'/\i'<=a.size/\1 < j'/\j'<=b.size/\i' + j' + 1<=i + j/\MH a b o'.toList.reverse i' j'))) ?_ ?_ ⟨hS1,_,_,_,_,_,rfl,hi,hia,hj,hjb,by omega,hM⟩) ?_)
  ·rintro y cc st2 _ hy ⟨hS2,i',j',o',ac,bc,rfl,hi',hia',hj',hjb',hij',hM'⟩
   dsimp only
   have hk2:kindOf st2 = kd:=hS2.1.trans hk
   obtain ⟨p,hp,pm,pl⟩:=at2 (l:=b.toList) (i:=j') (by omega) (by omega)
   obtain ⟨q,hq,qm,ql⟩:=at2 (l:=a.toList) (i:=i') (by omega) (by omega)
   refine wpS_bind (zh hp (wpS_bind (zh hq (wpS_bind (zah hk2 (c.ib _ pm) (c.ia _ qm) ?_)))))
   by_cases hlt:kof p < kof q
   ·simp only [hlt,decide_true,if_true]
    refine wpS_bind (zh hq ?_)
    have M2:MH a b (o'.push q).toList.reverse (i' - 1) j':=by
     rw [Array.toList_push,reverse_append]
     exact hM'.psA hi' hq fun y hy=>Int.le_trans (pl c.sb y hy) (Int.le_of_lt hlt)
    by_cases h3:i' - 1 = 0
    ·rw [if_pos (by simpa using h3)]
     exact wpS_pure ⟨hS2,_,_,_,_,_,_,rfl,.inl ⟨_,rfl,M2.doneA h3⟩⟩
    ·rw [if_neg (by simpa using h3)]
     split
     ·exact wpS_pure ⟨hS2,_,_,_,_,_,_,rfl,.inr ⟨rfl,by omega,by omega,by omega,by omega,by omega,M2⟩⟩
     ·exact wpS_pure ⟨hS2,_,_,_,_,_,rfl,by omega,by omega,by omega,by omega,by omega,M2⟩
   ·simp only [hlt,decide_false,Bool.false_eq_true,if_false]
    refine wpS_bind (zh hp ?_)
    have M2:MH a b (o'.push p).toList.reverse i' (j' - 1):=by
     rw [Array.toList_push,reverse_append]
     exact hM'.psB (by omega) hp fun y hy=>Int.le_trans (ql c.sa y hy) (Int.not_lt.mp hlt)
    by_cases h3:j' - 1 = 1
    ·rw [if_pos (by simpa using h3)]
     exact wpS_pure ⟨hS2,_,_,_,_,_,_,rfl,.inl ⟨_,rfl,M2.firstB c h3⟩⟩
    ·rw [if_neg (by simpa using h3)]
     split
     ·exact wpS_pure ⟨hS2,_,_,_,_,_,_,rfl,.inr ⟨rfl,by omega,by omega,by omega,by omega,by omega,M2⟩⟩
     ·exact wpS_pure ⟨hS2,_,_,_,_,_,rfl,by omega,by omega,by omega,by omega,by omega,M2⟩
  ·rintro cc st2 ⟨hS2,i',j',o',ac,bc,rfl,hi',hia',hj',hjb',hij',hM'⟩
   exact ⟨hS2,_,_,_,_,_,_,rfl,.inr ⟨rfl,hi',hia',hj',hjb',by omega,hM'⟩⟩
  ·rintro cc st2 ⟨hS2,r,i',j',o',ac,bc,rfl,hor⟩
   dsimp only
   rcases hor with ⟨r',rfl,hR⟩ | ⟨rfl,hi',hia',hj',hjb',hij',hM'⟩
   ·exact wpS_pure ⟨hS2,_,_,rfl,hR⟩
   dsimp only
   refine wpS_bind (wpS_lift (wpAny_rule ⟨rfl,?_⟩))
   refine wpS_bind (wpS_mono (wpS_forRange (I:=fun y cc st'=>Same st st'/\∃ i'' j'' o'' g ac bc,cc = (none,i'',j'',o'',g,ac,bc)/\0 < i''/\i''<=a.size/\1 < j''/\j''<=b.size/\i'' + j''<=i' + j'/\MH a b o''.toList.reverse i'' j'')
    (Q:=fun cc st'=>Same st st'/\∃ r i'' j'' o'' g ac bc,cc = (r,i'',j'',o'',g,ac,bc)/\((∃ r',r = some r'/\Res (TT a b) r'.toList) \/
     (r = none/\0 < i''/\i''<=a.size/\1 < j''/\j''<=b.size/\i'' + j''<=i' + j'/\MH a b o''.toList.reverse i'' j''))) ?_ ?_ ⟨hS2,_,_,_,_,_,_,rfl,hi',hia',hj',hjb',by omega,hM'⟩) ?_)
   ·rintro y cc st3 _ hy ⟨hS3,i3,j3,o3,g3,ac3,bc3,rfl,hi3,hia3,hj3,hjb3,hij3,hM3⟩
    clear hM hM' hi hj hi' hj' hij hij' hia hjb hia' hjb'
    dsimp only
    obtain ⟨p,hp,pm,pl⟩:=at2 (l:=b.toList) (i:=j3) (by omega) (by omega)
    by_cases hg:g3 > 1
    case' pos=>rw [if_pos hg]
    case' neg=>rw [if_neg hg]
    all_goals
     refine wpS_bind (qG hS3 fun st4 hS4=>?_)
     have hk4:kindOf st4 = kd:=hS4.1.trans hk
     refine wpS_bind (zh hp (wpS_bind (qv (L:=a.toList.take i3) hk4 (c.ib _ pm) (by simp) (by simp;omega) (fun x hx=>c.ia x (mem_of_mem_take hx)) (yP c.sa _) (by omega) fun k hkn g1 g2=>?_)))
     dsimp only
     have MA:MH a b (o3 ++ (a.extract k i3).reverse).toList.reverse k j3:=by
      rw [Array.toList_append,Array.toList_reverse,reverse_append,reverse_reverse,ext3]
      refine hM3.chA hkn fun x hx y hy=>Int.le_trans (pl c.sb x hx) ?_
      have:=g2 y hy
      simp [bq] at this;omega
     have gA:∀ y ∈ a.toList.take k,kof y<=kof p:=by
      intro y hy
      have:=g1 y (by rw [take_take,Nat.min_eq_left hkn];exact hy)
      simpa [bq] using this
     by_cases hk0:i3 - k > 0
     case' pos=>
      rw [if_pos hk0]
      by_cases e1:k = 0
      ·rw [if_pos (by simpa using e1)]
       exact wpS_pure ⟨hS4,_,_,_,_,_,_,_,rfl,.inl ⟨_,rfl,MA.doneA e1⟩⟩
      rw [if_neg (by simpa using e1)]
      have hi4:0 < k:=by omega
      have hia4:k<=a.size:=by omega
      have hij4:k + j3<=i' + j':=by omega
      clear g1 g2
      generalize o3 ++ (a.extract k i3).reverse = o4 at *
      generalize i3 - k = kk at *
      generalize k = i4 at *
     case' neg=>
      rw [if_neg hk0]
      have hz:k = i3:=by omega
      subst hz
      clear MA g1 g2
      have MA:=hM3
      have hi4:=hi3
      have hia4:=hia3
      have hij4:=hij3
      generalize o3 = o4 at *
      generalize k - k = kk at *
      generalize k = i4 at *
     all_goals
      refine wpS_bind (zh hp ?_)
      have M5:MH a b (o4.push p).toList.reverse i4 (j3 - 1):=by
       rw [Array.toList_push,reverse_append];exact MA.psB (by omega) hp gA
      by_cases e3:j3 - 1 = 1
      ·rw [if_pos (by simpa using e3)]
       exact wpS_pure ⟨hS4,_,_,_,_,_,_,_,rfl,.inl ⟨_,rfl,M5.firstB c e3⟩⟩
      rw [if_neg (by simpa using e3)]
      obtain ⟨q,hq,qm,ql⟩:=at2 (l:=a.toList) (i:=i4) (by omega) (by omega)
      refine wpS_bind (zh hq (wpS_bind (qv (L:=b.toList.take (j3 - 1)) hk4 (c.ia _ qm) (by simp) (by simp;omega) (fun x hx=>c.ib x (mem_of_mem_take hx)) (yP c.sb _) (by omega) fun k' hkn' g1' g2'=>?_)))
      dsimp only
      have MB:MH a b (o4.push p ++ (b.extract k' (j3 - 1)).reverse).toList.reverse i4 k':=by
       rw [Array.toList_append,Array.toList_reverse,reverse_append,reverse_reverse,ext3]
       refine M5.chB hkn' fun x hx y hy=>Int.le_trans (ql c.sa x hx) ?_
       have:=g2' y hy
       simp [bq] at this;omega
      have gB:∀ y ∈ b.toList.take k',kof y<=kof q:=by
       intro y hy
       have:=g1' y (by rw [take_take,Nat.min_eq_left hkn'];exact hy)
       simp [bq] at this;omega
      by_cases hk0':j3 - 1 - k' > 0
      case' pos=>
       rw [if_pos hk0']
       by_cases e4:k' = 1
       ·rw [if_pos (by simpa using e4)]
        exact wpS_pure ⟨hS4,_,_,_,_,_,_,_,rfl,.inl ⟨_,rfl,MB.firstB c e4⟩⟩
       rw [if_neg (by simpa using e4)]
       by_cases e5:k' = 0
       ·rw [if_pos (by simpa using e5)]
        exact wpS_pure ⟨hS4,_,_,_,_,_,_,_,rfl,.inl ⟨_,rfl,MB.doneB e5⟩⟩
       rw [if_neg (by simpa using e5)]
       have hj6:1 < k':=by omega
       have hjb6:k'<=b.size:=by omega
       have hij6:i4 + k'<=i' + j':=by omega
       clear g1' g2'
       generalize o4.push p ++ (b.extract k' (j3 - 1)).reverse = o6 at *
       generalize j3 - 1 - k' = kk' at *
       generalize k' = j6 at *
      case' neg=>
       rw [if_neg hk0']
       have hz:k' = j3 - 1:=by omega
       subst hz
       clear MB g1' g2'
       have MB:=M5
       have hj6:1 < j3 - 1:=by omega
       have hjb6:j3 - 1<=b.size:=by omega
       have hij6:i4 + (j3 - 1)<=i' + j':=by omega
       generalize o4.push p = o6 at *
       generalize j3 - 1 - (j3 - 1) = kk' at *
       generalize j3 - 1 = j6 at *
      all_goals
       refine wpS_bind (zh hq ?_)
       have M7:MH a b (o6.push q).toList.reverse (i4 - 1) j6:=by
        rw [Array.toList_push,reverse_append];exact MB.psA (by omega) hq gB
       by_cases e5:i4 - 1 = 0
       ·rw [if_pos (by simpa using e5)]
        exact wpS_pure ⟨hS4,_,_,_,_,_,_,_,rfl,.inl ⟨_,rfl,M7.doneA e5⟩⟩
       rw [if_neg (by simpa using e5)]
       split
       ·exact wpS_pure ⟨hS4,_,_,_,_,_,_,_,rfl,.inr ⟨rfl,by omega,by omega,by omega,by omega,by omega,M7⟩⟩
       ·exact wpS_pure ⟨hS4,_,_,_,_,_,_,rfl,by omega,by omega,by omega,by omega,by omega,M7⟩
   ·rintro cc st3 ⟨hS3,i3,j3,o3,g3,ac3,bc3,rfl,hi3,hia3,hj3,hjb3,hij3,hM3⟩
    exact ⟨hS3,_,_,_,_,_,_,_,rfl,.inr ⟨rfl,hi3,hia3,hj3,hjb3,hij3,hM3⟩⟩
   ·rintro cc st3 ⟨hS3,r,i3,j3,o3,g3,ac3,bc3,rfl,hor⟩
    dsimp only
    rcases hor with ⟨r',rfl,hR⟩ | ⟨rfl,hi3,hia3,hj3,hjb3,hij3,hM3⟩
    ·exact wpS_pure ⟨hS3,_,_,rfl,hR⟩
    ·refine wpS_bind (qG hS3 fun st4 hS4=>?_)
     exact wpS_pure ⟨hS4,_,_,_,_,rfl,hi3,hia3,hj3,hjb3,by omega,hM3⟩
 ·rintro cc st1 ⟨hS1,i,j,o,g,rfl,hi,hia,hj,hjb,hij,hM⟩
  omega
 ·rintro cc st1 ⟨hS1,r,y,rfl,hR⟩
  exact wpS_pure (h _ _ hS1 hR)
end
end TG
namespace TG
open PySem PyProof.Rows
variable [KO]
theorem zaT {sa:Nat}:∀ (m:List Keyed) (n:Nat) (P X S:List Keyed) (arr:Array Keyed),arr.toList = P ++ (X ++ S)->P.length = sa + n->X.length = m.length->
  ((m.zipIdx n).foldl (fun a x=>match x with | (p,j)=>a.setIfInBounds (sa + j) p) arr).toList = P ++ (m ++ S)
 | [],n,P,X,S,arr,h,_,hX=>by
  have:X = []:=List.eq_nil_of_length_eq_zero hX
  subst this;exact h
 | p :: m,n,P,[],S,arr,h,hP,hX=>by simp at hX
 | p :: m,n,P,x :: X,S,arr,h,hP,hX=>by
  rw [zipIdx_cons,foldl_cons]
  have:=zaT (sa:=sa) m (n + 1) (P ++ [p]) X S (arr.setIfInBounds (sa + n) p) (by
   rw [Array.toList_setIfInBounds,h,← hP,set_append_right _ _ (Q3 _),Nat.sub_self]
   simp) (by simp;omega) (by simpa using hX)
  rw [this];simp
variable {P l:List Keyed}
theorem zaQ {A S:List Keyed} (h:l = P ++ (A ++ S)):(l.drop P.length).take A.length = A:=by
 subst h;simp
variable {X Y:List Keyed}
theorem le_trans' {p:Keyed} (h1:∀ x ∈ X,kof x<=kof p) (h2:∀ y ∈ Y,kof p<=kof y):le' X Y:=fun x hx y hy=>Int.le_trans (h1 x hx) (h2 y hy)
theorem zaN (h:So l) (k:Nat):So (l.take k)/\So (l.drop k)/\le' (l.take k) (l.drop k):=by
 rw [← zg,take_append_drop];exact h
variable {Z:List Keyed}
theorem zd2 (h:le' X Y) (hp:Z.Perm Y):le' X Z:=fun x hx y hy=>h x hx y (hp.mem_iff.mp hy)
theorem zdW (h:le' X Y) (hp:Z.Perm X):le' Z Y:=fun x hx y hy=>h x (hp.mem_iff.mp hx) y hy
section
variable {prog:Program} {w:World} {A:Around} {E:Value->Shared->Prop} {s:Shared} [Srt prog w A E s]
theorem zdI {σ:Type} {M:Model} {a:σ} {Q:PUnit->σ->Prop} {st:σ} (h:Q ⟨⟩ a):wpS M A E s (set a:StateT σ Sem PUnit) Q st:=by
 unfold wpS;rw [StateT.run_set];exact Qc ⟨rfl,h⟩
theorem zbU {st:SortSt} {i sa na pa sb nb pb:Nat} {S:List Keyed} {Q:Bool->SortSt->Prop} (hk:kindOf st = kd) (hf:failedOf st = none)
 (hp1:(pendingOf st)[i]? = some (sa,na,pa)) (hp2:(pendingOf st)[i + 1]? = some (sb,nb,pb)) (hal:(arrOf st).toList = P ++ (X ++ (Y ++ S)))
 (lP:P.length = sa) (lX:X.length = na) (lY:Y.length = nb) (hsb:sb = sa + na) (pX:0 < na) (pY:0 < nb) (hI:∀ p ∈ (arrOf st).toList,IK p) (sX:So X) (sY:So Y)
 (h:∀ st' R,kindOf st' = kd->failedOf st' = none->pendingOf st' = ((pendingOf st).setIfInBounds i (sa,na + nb,pa)).eraseIdxIfInBounds (i + 1)->
 (arrOf st').toList = P ++ (R ++ S)->R.Perm (X ++ Y)->So R->Q true st'):wpS (model prog w) A E s (mergeAt' i) Q st:=by
 have hIX:∀ p ∈ X,IK p:=fun p hp=>hI p (by rw [hal];simp [hp])
 have hIY:∀ p ∈ Y,IK p:=fun p hp=>hI p (by rw [hal];simp [hp])
 have segX:((arrOf st).toList.drop sa).take na = X:=by rw [← lP,← lX];exact zaQ hal
 have hal2:(arrOf st).toList = (P ++ X) ++ (Y ++ S):=by rw [hal,append_assoc]
 have segY:((arrOf st).toList.drop sb).take nb = Y:=by
  have:(P ++ X).length = sb:=by rw [Qk,lP,lX,hsb]
  rw [← this,← lY];exact zaQ hal2
 have plain:le' X Y->Q true (setPending st (((pendingOf st).setIfInBounds i (sa,na + nb,pa)).eraseIdxIfInBounds (i + 1))):=fun hl=>
  h _ (X ++ Y) hk hf rfl (by rw [append_assoc];exact hal) (List.Perm.refl _) (zg.mpr ⟨sX,sY,hl⟩)
 obtain ⟨y0,hy0,y0m,y0d,y0l⟩:=at' (l:=Y) (i:=0) (by omega)
 obtain ⟨x1,hx1,x1m,x1l⟩:=at2 (l:=X) (i:=na) (by omega) (by omega)
 have x1l':∀ y ∈ X,kof y<=kof x1:=by
  have:=x1l sX;rwa [take_of_length_le (by omega)] at this
 have y0l':∀ y ∈ Y,kof y0<=kof y:=by simpa using y0l sY
 have aty:(arrOf st).toList[sb]? = some y0:=by
  rw [← segY,getElem?_take,if_pos pY,getElem?_drop] at hy0;exact hy0
 have atx:(arrOf st).toList[sa + na - 1]? = some x1:=by
  rw [← segX,getElem?_take,if_pos (by omega),getElem?_drop] at hx1
  rw [← hx1];congr 1;omega
 refine wpS_bind (wpS_get ?_)
 rw [hp1,hp2]
 dsimp only
 refine wpS_bind (zdI ?_)
 refine wpS_bind (zh aty (wpS_bind (qv (L:=X) hk (hIY _ y0m) segX lX hIX sX (by omega) fun k hkn g1 g2=>?_)))
 dsimp only
 have xk1:∀ x ∈ X.take k,kof x<=kof y0:=fun x hx=>by simpa [bq] using g1 x hx
 have xk2:∀ x ∈ X.drop k,kof y0<=kof x:=fun x hx=>by have:=g2 x hx;simp [bq] at this;omega
 by_cases h1:na - k = 0
 ·rw [if_pos (by simpa using h1)]
  refine wpS_pure (plain (le_trans' ?_ y0l'))
  rwa [take_of_length_le (by omega)] at xk1
 rw [if_neg (by simpa using h1)]
 rw [show sa + k + (na - k) - 1 = sa + na - 1 by omega]
 refine wpS_bind (zh atx (wpS_bind (qv (L:=Y) hk (hIX _ x1m) segY lY hIY sY (by omega) fun k' hkn' g1' g2'=>?_)))
 dsimp only
 have yk1:∀ x ∈ Y.take k',kof x<=kof x1:=fun x hx=>by have:=g1' x hx;simp [bq] at this;omega
 have yk2:∀ x ∈ Y.drop k',kof x1<=kof x:=fun x hx=>by have:=g2' x hx;simp [bq] at this;omega
 by_cases h2:k' = 0
 ·rw [if_pos (by simpa using h2)]
  refine wpS_pure (plain (le_trans' x1l' ?_))
  rw [h2] at yk2;simpa using yk2
 rw [if_neg (by simpa using h2)]
 have eX:((arrOf st).extract (sa + k) sb).toList = X.drop k:=by
  rw [Array.toList_extract,extract_eq_take_drop,← segX,drop_take,drop_drop,hsb]
  congr 1;omega
 have eY:((arrOf st).extract sb (sb + k')).toList = Y.take k':=by
  rw [ext2,← segY,take_take,Nat.min_eq_left hkn']
 have c:MC ((arrOf st).extract (sa + k) sb) ((arrOf st).extract sb (sb + k')):=by
  constructor
  case na=>rw [eX,length_drop];omega
  case nb=>rw [eY,Qn];omega
  case ia=>rw [eX];exact fun p hp=>hIX p (mem_of_mem_drop hp)
  case ib=>rw [eY];exact fun p hp=>hIY p (mem_of_mem_take hp)
  case sa=>rw [eX];exact qP sX _
  case sb=>rw [eY];exact yP sY _
  case first=>
   intro y hy
   rw [eX] at hy
   have:((arrOf st).extract sb (sb + k')).toList[0]? = some y0:=by rw [eY,getElem?_take,if_pos (by omega)];exact hy0
   obtain ⟨_,e⟩:=List.getElem?_eq_some_iff.mp this
   rw [e];exact xk2 y hy
  case last=>
   intro y hy
   rw [eY] at hy
   have:((arrOf st).extract (sa + k) sb).toList[((arrOf st).extract (sa + k) sb).toList.length - 1]? = some x1:=by
    rw [eX,getElem?_drop,length_drop,← hx1];congr 1;omega
   obtain ⟨_,e⟩:=List.getElem?_eq_some_iff.mp this
   rw [e];exact yk1 y hy
 obtain ⟨sX1,sX2,sX3⟩:=zaN sX k
 obtain ⟨sY1,sY2,sY3⟩:=zaN sY k'
 have fin:∀ (r:Array Keyed) (st':SortSt),Same (setPending st (((pendingOf st).setIfInBounds i (sa,na + nb,pa)).eraseIdxIfInBounds (i + 1))) st'->
   Res (TT ((arrOf st).extract (sa + k) sb) ((arrOf st).extract sb (sb + k'))) r.toList->
   Q true (setArr st' (List.foldl (fun a x=>match x with | (p,j)=>a.setIfInBounds (sa + k + j) p) (arrOf st') r.toList.zipIdx))/\failedOf st' = none:=by
  intro r st' hS hR
  unfold TT at hR
  rw [eX,eY] at hR
  refine ⟨h _ (X.take k ++ (r.toList ++ Y.drop k')) (hS.1.trans hk) (hS.2.2.2.trans hf) hS.2.2.1 ?_ ?_ ?_,hS.2.2.2.trans hf⟩
  ·have e:(arrOf st').toList = (P ++ X.take k) ++ ((X.drop k ++ Y.take k') ++ (Y.drop k' ++ S)):=by
    rw [hS.2.1]
    show (arrOf st).toList = _
    rw [hal]
    conv=>lhs;rw [← take_append_drop k X,← take_append_drop k' Y]
    simp only [append_assoc]
   have:=zaT (sa:=sa + k) r.toList 0 _ _ _ _ e (by rw [Qk,Qn,lP];omega) hR.perm.length_eq.symm
   refine this.trans ?_
   simp only [append_assoc]
  ·have:(X.take k ++ (r.toList ++ Y.drop k')).Perm (X.take k ++ ((X.drop k ++ Y.take k') ++ Y.drop k')):=List.Perm.append_left _ (List.Perm.append_right _ hR.perm)
   refine this.trans (List.Perm.of_eq ?_)
   conv=>rhs;rw [← take_append_drop k X,← take_append_drop k' Y]
   simp only [append_assoc]
  ·rw [zg,zg,le_app]
   refine ⟨sX1,⟨hR.so,sY2,zdW ?_ hR.perm⟩,zd2 ?_ hR.perm,le_trans' xk1 fun y hy=>y0l' y (mem_of_mem_drop hy)⟩
   ·rw [z3];exact ⟨le_trans' (fun x hx=>x1l' x (mem_of_mem_drop hx)) yk2,sY3⟩
   ·rw [le_app];exact ⟨sX3,le_trans' xk1 fun y hy=>y0l' y (mem_of_mem_take hy)⟩
 by_cases h3:na - k<=k'
 case' pos=>rw [if_pos h3];refine wpS_bind (zbS hk c fun r st' hS hR=>?_)
 case' neg=>rw [if_neg h3];refine wpS_bind (zbT hk c fun r st' hS hR=>?_)
 all_goals
  obtain ⟨hQ,hfl⟩:=fin r st' hS hR
  refine wpS_bind (wpS_modify (wpS_bind (wpS_get (wpS_pure ?_))))
  have e:(failedOf st').isNone = true:=by rw [hfl];rfl
  rw [← e] at hQ
  exact hQ
end
end TG
namespace TG
open PySem PyProof.Rows
variable [KO]
structure LB (st0:SortSt) (lo:Nat) (st:SortSt):Prop where
 kind:kindOf st = kd
 failed:failedOf st = none
 pend:pendingOf st = pendingOf st0
 perm:(arrOf st).Perm (arrOf st0)
 pre:∀ i,i < lo->(arrOf st)[i]? = (arrOf st0)[i]?
def Sg (xs:Array Keyed) (lo n:Nat):Prop:=∀ i j,i<=j->j < n->K xs (lo + i)<=K xs (lo + j)
def Dg (xs:Array Keyed) (lo n:Nat):Prop:=∀ i j,i<=j->j < n->K xs (lo + j)<=K xs (lo + i)
variable {xs:Array Keyed} {n:Nat}
theorem Sg.step {lo:Nat} (h:Sg xs lo n) (h1:n = 0\/K xs (lo + n - 1)<=K xs (lo + n)):Sg xs lo (n + 1):=by
 intro i j hij hj
 by_cases hjn:j < n
 ·exact h i j hij hjn
 ·have e:j = n:=by omega
  subst e
  by_cases hi:i = j
  ·subst hi;exact Int.le_refl _
  ·rcases h1 with h1 | h1
   ·omega
   ·have:=h i (j - 1) (by omega) (by omega)
    rw [show lo + (j - 1) = lo + j - 1 by omega] at this
    exact Int.le_trans this h1
theorem Dg.step {lo:Nat} (h:Dg xs lo n) (h1:n = 0\/K xs (lo + n)<=K xs (lo + n - 1)):Dg xs lo (n + 1):=by
 intro i j hij hj
 by_cases hjn:j < n
 ·exact h i j hij hjn
 ·have e:j = n:=by omega
  subst e
  by_cases hi:i = j
  ·subst hi;exact Int.le_refl _
  ·rcases h1 with h1 | h1
   ·omega
   ·have:=h i (j - 1) (by omega) (by omega)
    rw [show lo + (j - 1) = lo + j - 1 by omega] at this
    exact Int.le_trans h1 this
variable {i j:Nat} {st:SortSt}
section
variable {prog:Program} {w:World} {A:Around} {E:Value->Shared->Prop} {s:Shared} [Srt prog w A E s] {st0:SortSt} {lo:Nat}
theorem ltL {Q:Option Bool->SortSt->Prop} (hB:LB st0 lo st) (h0:IntKeys (arrOf st0)) (hi:i < (arrOf st0).size) (hj:j < (arrOf st0).size)
 (h:Q (some (decide (K (arrOf st) i < K (arrOf st) j))) st):wpS (model prog w) A E s (ltAt' i j) Q st:=by
 have at_:∀ i,i < (arrOf st0).size->∃ p,(arrOf st).toList[i]? = some p/\IK p/\K (arrOf st) i = kof p:=by
  intro i hi
  have hi':i < (arrOf st).size:=by rw [hB.perm.size_eq];exact hi
  have e:(arrOf st)[i]? = some (arrOf st)[i]:=getElem?_pos _ i hi'
  refine ⟨(arrOf st)[i],by rw [Array.getElem?_toList];exact e,h0 _ ((Array.perm_iff_toList_perm.mp hB.perm).mem_iff.mp (by simp)),?_⟩
  unfold K
  rw [e]
 obtain ⟨p,e1,ip,kp⟩:=at_ i hi
 obtain ⟨q,e2,iq,kq⟩:=at_ j hj
 rw [kp,kq] at h
 rw [ltAt'_eq]
 refine wpS_bind (wpS_get ?_)
 refine wpS_bind (zh e1 (wpS_bind (zh e2 ?_)))
 exact zah hB.kind ip iq h
theorem K_mirror (hj:j<=xs.size) (k:Nat) :
  K (mirror xs i j ((j - i) / 2)) k = if i<=k/\k < j then K xs (i + j - 1 - k) else K xs k:=by
 have e:=getElem?_mirror_all (i:=i) hj k
 split <;> rename_i h1
 ·rw [if_pos h1] at e;exact K_congr e
 ·rw [if_neg h1] at e;exact K_congr e
theorem zbQ {Q:Unit->SortSt->Prop} (hB:LB st0 lo st) (hi:lo<=i) (hj:j<=(arrOf st0).size)
 (h:∀ st',LB st0 lo st'->(∀ k,K (arrOf st') k = if i<=k/\k < j then K (arrOf st) (i + j - 1 - k) else K (arrOf st) k)->Q () st') :
  wpS (model prog w) A E s (reverseSlice' i j) Q st:=by
 have hj':j<=(arrOf st).size:=by rw [hB.perm.size_eq];exact hj
 refine wpS_reverse (h _ ⟨hB.kind,hB.failed,hB.pend,(mirror_perm _ _ _ _).trans hB.perm,fun k hk=>?_⟩ fun k=>K_mirror hj' k)
 rw [← hB.pre k hk]
 show (mirror (arrOf st) i j ((j - i) / 2))[k]? = _
 rw [getElem?_mirror_all hj',if_neg (by omega)]
theorem zbr {nrem:Nat} {Q:Option Nat->SortSt->Prop} (h0:IntKeys (arrOf st0)) (hn:lo + nrem<=(arrOf st0).size) (h1:1<=nrem) (hB:LB st0 lo st)
 (h:∀ m st',LB st0 lo st'->1<=m->m<=nrem->Sg (arrOf st') lo m->Q (some m) st'):wpS (model prog w) A E s (countRun' lo nrem) Q st:=by
 rw [countRun'_eq]
 refine wpS_bind (wpS_mono (wpS_forRange (I:=fun x c st'=>st' = st/\c = (none,x)/\Sg (arrOf st) lo x)
  (Q:=fun c st'=>st' = st/\∃ n,c = (none,n)/\1<=n/\n<=nrem/\Sg (arrOf st) lo n/\(n = nrem\/K (arrOf st) (lo + n) < K (arrOf st) (lo + n - 1))) ?_ ?_
  ⟨rfl,rfl,fun i j hij hj=>by rw [show i = j by omega];exact Int.le_refl _⟩) ?_)
 ·rintro x c st' hx1 hx ⟨rfl,rfl,hS⟩
  dsimp only
  refine wpS_bind (ltL hB h0 (by omega) (by omega) ?_)
  by_cases hl:K (arrOf st') (lo + x) < K (arrOf st') (lo + x - 1)
  ·simp only [hl,decide_true,if_true]
   exact wpS_pure ⟨rfl,x,rfl,hx1,by omega,hS,.inr hl⟩
  ·simp only [hl,decide_false,Bool.false_eq_true,if_false]
   exact wpS_pure ⟨rfl,rfl,hS.step (.inr (Int.not_lt.mp hl))⟩
 ·rintro c st' ⟨rfl,rfl,hS⟩
  rw [show max 1 nrem = nrem by omega] at hS ⊢
  exact ⟨rfl,_,rfl,h1,Q3 _,hS,.inl rfl⟩
 ·rintro c st' ⟨rfl,n,rfl,hn1,hn2,hS,hor⟩
  dsimp only
  by_cases e:n = nrem
  ·rw [if_pos (by simpa using e)];exact wpS_pure (h n _ hB hn1 hn2 hS)
  rw [if_neg (by simpa using e)]
  have hdrop:=hor.resolve_left e
  by_cases hgt:n > 1
  case' pos=>
   rw [if_pos hgt]
   refine wpS_bind (ltL hB h0 (by omega) (by omega) ?_)
   by_cases hr:K (arrOf st') lo < K (arrOf st') (lo + n - 1)
   ·simp only [hr,decide_true,if_true]
    exact wpS_pure (h n _ hB hn1 hn2 hS)
   simp only [hr,decide_false,Bool.false_eq_true,if_false]
   refine wpS_bind (zbQ hB (Q3 _) (by omega) fun st2 hB2 hK2=>?_)
   have hD:Dg (arrOf st2) lo (n + 1):=by
    have hall:∀ k,k < n->K (arrOf st') (lo + k) = K (arrOf st') (lo + n - 1):=by
     intro k hk
     have a1:=hS 0 k (by omega) hk
     have a2:=hS k (n - 1) (by omega) (by omega)
     rw [show lo + (n - 1) = lo + n - 1 by omega] at a2
     rw [Nat.add_zero] at a1
     omega
    have hall2:∀ k,k < n->K (arrOf st2) (lo + k) = K (arrOf st') (lo + n - 1):=by
     intro k hk
     rw [hK2,if_pos (by omega),show lo + (lo + n) - 1 - (lo + k) = lo + (n - 1 - k) by omega]
     exact hall _ (by omega)
    have hb:Dg (arrOf st2) lo n:=fun i j hij hj=>by rw [hall2 i (by omega),hall2 j hj];exact Int.le_refl _
    refine hb.step (.inr ?_)
    have:=hall2 (n - 1) (by omega)
    rw [show lo + (n - 1) = lo + n - 1 by omega] at this
    rw [this,hK2,if_neg (by omega)]
    exact Int.le_of_lt hdrop
   clear hK2
  case' neg=>
   rw [if_neg hgt]
   have e1:n = 1:=by omega
   subst e1
   obtain ⟨st2,e2⟩:∃ st2,st2 = st':=⟨_,rfl⟩
   rw [← e2] at hB hdrop ⊢
   have hB2:=hB
   have hD:Dg (arrOf st2) lo (1 + 1):=by
    refine Dg.step (fun i j hij hj=>?_) (.inr (Int.le_of_lt hdrop))
    rw [show i = j by omega];exact Int.le_refl _
  all_goals
   refine wpS_bind (wpS_lift (wpAny_rule ⟨rfl,?_⟩))
   refine wpS_bind (wpS_mono (wpS_forRange (I:=fun x c st'=>∃ neq,c = (none,x,neq)/\LB st0 lo st'/\Dg (arrOf st') lo x/\neq + 1<=x/\(∀ i,x - (neq + 1)<=i->i < x->K (arrOf st') (lo + i) = K (arrOf st') (lo + x - 1)))
    (Q:=fun c st'=>∃ m neq,c = (none,m,neq)/\m<=nrem/\LB st0 lo st'/\Dg (arrOf st') lo m/\neq + 1<=m/\(∀ i,m - (neq + 1)<=i->i < m->K (arrOf st') (lo + i) = K (arrOf st') (lo + m - 1))) ?_ ?_
    ⟨0,rfl,hB2,hD,by omega,fun i h1 h2=>by congr 1;omega⟩) ?_)
   ·rintro x c st3 hx1 hx ⟨neq,rfl,hB3,hD3,hq,he⟩
    dsimp only
    refine wpS_bind (ltL hB3 h0 (by omega) (by omega) ?_)
    by_cases hl:K (arrOf st3) (lo + x) < K (arrOf st3) (lo + x - 1)
    ·simp only [hl,decide_true,if_true]
     by_cases hneq:neq > 0
     ·rw [if_pos hneq]
      refine wpS_bind (zbQ hB3 (by omega) (by omega) fun st4 hB4 hK4=>wpS_pure ⟨0,rfl,hB4,?_,by omega,fun i h1 h2=>by congr 1;omega⟩)
      have hsame:∀ k,K (arrOf st4) k = K (arrOf st3) k:=by
       intro k
       rw [hK4]
       split
       ·have a1:=he (lo + x - (neq + 1) + (lo + x) - 1 - k - lo) (by omega) (by omega)
        have a2:=he (k - lo) (by omega) (by omega)
        rw [show lo + (k - lo) = k by omega] at a2
        rw [show lo + (lo + x - (neq + 1) + (lo + x) - 1 - k - lo) = lo + x - (neq + 1) + (lo + x) - 1 - k by omega] at a1
        rw [a1,a2]
       ·rfl
      intro i j hij hj
      rw [hsame,hsame]
      exact hD3.step (.inr (Int.le_of_lt hl)) i j hij hj
     ·rw [if_neg hneq]
      exact wpS_pure ⟨0,rfl,hB3,hD3.step (.inr (Int.le_of_lt hl)),by omega,fun i h1 h2=>by congr 1;omega⟩
    ·simp only [hl,decide_false,Bool.false_eq_true,if_false]
     refine wpS_bind (ltL hB3 h0 (by omega) (by omega) ?_)
     by_cases hg:K (arrOf st3) (lo + x - 1) < K (arrOf st3) (lo + x)
     ·simp only [hg,decide_true,if_true]
      exact wpS_pure ⟨x,neq,rfl,by omega,hB3,hD3,hq,he⟩
     ·simp only [hg,decide_false,Bool.false_eq_true,if_false]
      have hx':K (arrOf st3) (lo + x) = K (arrOf st3) (lo + x - 1):=by omega
      refine wpS_pure ⟨neq + 1,rfl,hB3,hD3.step (.inr (Int.le_of_eq hx')),by omega,fun i h1 h2=>?_⟩
      rw [show lo + (x + 1) - 1 = lo + x by omega]
      by_cases hix:i = x
      ·subst hix;rfl
      ·rw [hx'];exact he i (by omega) (by omega)
   ·rintro c st3 ⟨neq,rfl,hB3,hD3,hq,he⟩
    exact ⟨_,neq,rfl,by omega,hB3,hD3,hq,he⟩
   ·rintro c st3 ⟨m,neq,rfl,hm,hB3,hD3,hq,he⟩
    dsimp only
    have tail:∀ {xs:Array Keyed} {st4:SortSt},(∀ k,K (arrOf st4) k = K xs k)->Dg xs lo m->Dg (arrOf st4) lo m:=fun hK hD i j hij hj=>by rw [hK,hK];exact hD i j hij hj
    by_cases hneq:neq > 0
    case' pos=>
     rw [if_pos hneq]
     refine wpS_bind (zbQ hB3 (by omega) (by omega) fun st4 hB4 hK4=>?_)
     have hD4:Dg (arrOf st4) lo m:=tail (fun k=>by
       rw [hK4]
       split
       ·have a1:=he (lo + m - (neq + 1) + (lo + m) - 1 - k - lo) (by omega) (by omega)
        have a2:=he (k - lo) (by omega) (by omega)
        rw [show lo + (k - lo) = k by omega] at a2
        rw [show lo + (lo + m - (neq + 1) + (lo + m) - 1 - k - lo) = lo + m - (neq + 1) + (lo + m) - 1 - k by omega] at a1
        rw [a1,a2]
       ·rfl) hD3
     clear hK4
    case' neg=>
     rw [if_neg hneq]
     have hB4:=hB3
     have hD4:=hD3
     generalize st3 = st4 at *
    all_goals
     refine wpS_bind (zbQ hB4 (Q3 _) (by omega) fun st5 hB5 hK5=>?_)
     have hS5:Sg (arrOf st5) lo m:=by
      intro i j hij hj
      rw [hK5,hK5,if_pos (by omega),if_pos (by omega),show lo + (lo + m) - 1 - (lo + i) = lo + (m - 1 - i) by omega,show lo + (lo + m) - 1 - (lo + j) = lo + (m - 1 - j) by omega]
      exact hD4 _ _ (by omega) (by omega)
     refine wpS_bind (wpS_mono (wpS_forRange (I:=fun x c st'=>st' = st5/\c = (none,x)/\Sg (arrOf st5) lo x)
      (Q:=fun c st'=>st' = st5/\∃ n,c = (none,n)/\1<=n/\n<=nrem/\Sg (arrOf st5) lo n) ?_ ?_ ⟨rfl,rfl,hS5⟩) ?_)
     ·rintro x c st6 hx1 hx ⟨rfl,rfl,hS6⟩
      dsimp only
      refine wpS_bind (ltL hB5 h0 (by omega) (by omega) ?_)
      by_cases hl:K (arrOf st6) (lo + x) < K (arrOf st6) (lo + x - 1)
      ·simp only [hl,decide_true,if_true]
       exact wpS_pure ⟨rfl,x,rfl,by omega,by omega,hS6⟩
      ·simp only [hl,decide_false,Bool.false_eq_true,if_false]
       exact wpS_pure ⟨rfl,rfl,hS6.step (.inr (Int.not_lt.mp hl))⟩
     ·rintro c st6 ⟨rfl,rfl,hS6⟩
      exact ⟨rfl,_,rfl,by omega,by omega,hS6⟩
     ·rintro c st6 ⟨rfl,n6,rfl,g1,g2,g3⟩
      exact wpS_pure (h n6 _ hB5 g1 g2 g3)
theorem zca {ok:Nat} {Q:Bool->SortSt->Prop} (h0:IntKeys (arrOf st0)) (hn:lo + n<=(arrOf st0).size) (hok:ok<=n) (hB:LB st0 lo st) (hs:Sg (arrOf st) lo ok)
 (h:∀ st',LB st0 lo st'->Sg (arrOf st') lo n->Q true st'):wpS (model prog w) A E s (binarySort' lo n ok) Q st:=by
 rw [binarySort'_eq]
 refine wpS_bind (wpS_mono (wpS_forRange (I:=fun k c st'=>c = (none,())/\LB st0 lo st'/\Sg (arrOf st') lo (min k n))
  (Q:=fun c st'=>c = (none,())/\LB st0 lo st'/\Sg (arrOf st') lo n) ?_ ?_ ?_) ?_)
 ·rintro k c st' hak hkn ⟨rfl,hB',hs'⟩
  rw [show min k n = k by omega] at hs'
  refine wpS_bind (wpS_mono (wpS_forRange (I:=fun x c st''=>st'' = st'/\∃ l r,c = (none,l,r)/\l<=r/\r<=k/\r - l<=k - x /\
    (∀ i,i < l->K (arrOf st') (lo + i)<=K (arrOf st') (lo + k))/\(∀ i,r<=i->i < k->K (arrOf st') (lo + k)<=K (arrOf st') (lo + i)))
   (Q:=fun c st''=>st'' = st'/\∃ l,c = (none,l,l)/\l<=k /\
    (∀ i,i < l->K (arrOf st') (lo + i)<=K (arrOf st') (lo + k))/\(∀ i,l<=i->i < k->K (arrOf st') (lo + k)<=K (arrOf st') (lo + i))) ?_ ?_
    ⟨rfl,0,k,rfl,by omega,by omega,by omega,fun i hi=>by omega,fun i h1 h2=>by omega⟩) ?_)
  ·rintro x c st2 _ hxk ⟨rfl,l,r,rfl,hlr,hrk,hm,hlo,hhi⟩
   dsimp only
   by_cases hge:l ≥ r
   ·rw [if_pos hge]
    have:l = r:=by omega
    subst this
    exact wpS_pure ⟨rfl,l,rfl,hrk,hlo,hhi⟩
   ·rw [if_neg hge]
    refine wpS_bind (ltL hB' h0 (by omega) (by omega) ?_)
    by_cases hl:K (arrOf st2) (lo + k) < K (arrOf st2) (lo + (l + r) / 2)
    ·simp only [hl,decide_true,if_true]
     exact wpS_pure ⟨rfl,l,(l + r) / 2,rfl,by omega,by omega,by omega,hlo,fun i h1 h2=>Int.le_trans (Int.le_of_lt hl) (hs' _ _ h1 h2)⟩
    ·simp only [hl,decide_false,Bool.false_eq_true,if_false]
     exact wpS_pure ⟨rfl,(l + r) / 2 + 1,r,rfl,by omega,by omega,by omega,fun i h1=>Int.le_trans (hs' i ((l + r) / 2) (by omega) (by omega)) (Int.not_lt.mp hl),hhi⟩
  ·rintro c st2 ⟨rfl,l,r,rfl,hlr,hrk,hm,hlo,hhi⟩
   have:l = r:=by omega
   subst this
   exact ⟨rfl,l,rfl,hrk,hlo,hhi⟩
  ·rintro c st2 ⟨rfl,l,rfl,hlk,hlo,hhi⟩
   have hks:lo + k < (arrOf st2).size:=by rw [hB'.perm.size_eq];omega
   show wpS _ _ _ _ (do moveDown' (lo + k) (lo + l);pure (ForInStep.yield (none,()))) _ _
   rw [moveDown'_eq]
   refine wpS_bind (wpS_modify (wpS_pure ⟨rfl,⟨hB'.kind,hB'.failed,hB'.pend,(bubble_perm _ _ _).trans hB'.perm,fun i hi=>?_⟩,?_⟩))
   ·rw [← hB'.pre i hi]
    show (bubble (arrOf st2) (lo + k) (lo + k - (lo + l)))[i]? = _
    rw [getElem?_bubble hks _ (by omega),if_neg (by omega),if_neg (by omega)]
   ·rw [show min (k + 1) n = k + 1 by omega]
    intro i j hij hj
    show K (bubble (arrOf st2) (lo + k) (lo + k - (lo + l))) (lo + i)<=K (bubble (arrOf st2) (lo + k) (lo + k - (lo + l))) (lo + j)
    rw [K_bubble hks (by omega),K_bubble hks (by omega),show lo + k - (lo + k - (lo + l)) = lo + l by omega]
    have hs2:∀ p q,lo<=p->p<=q->q < lo + k->K (arrOf st2) p<=K (arrOf st2) q:=by
     intro p q h1 h2 h3
     have:=hs' (p - lo) (q - lo) (by omega) (by omega)
     rwa [show lo + (p - lo) = p by omega,show lo + (q - lo) = q by omega] at this
    have hlo2:∀ p,lo<=p->p < lo + l->K (arrOf st2) p<=K (arrOf st2) (lo + k):=by
     intro p h1 h2
     have:=hlo (p - lo) (by omega)
     rwa [show lo + (p - lo) = p by omega] at this
    have hhi2:∀ p,lo + l<=p->p < lo + k->K (arrOf st2) (lo + k)<=K (arrOf st2) p:=by
     intro p h1 h2
     have:=hhi (p - lo) (by omega) (by omega)
     rwa [show lo + (p - lo) = p by omega] at this
    repeat' split
    all_goals first
     | (exfalso;omega)
     | exact Int.le_refl _
     | exact hlo2 _ (by omega) (by omega)
     | exact hhi2 _ (by omega) (by omega)
     | exact hs2 _ _ (by omega) (by omega) (by omega)
 ·rintro c st' ⟨hc,hB',hs'⟩
  refine ⟨hc,hB',?_⟩
  rwa [show min (max (max ok 1) n) n = n by omega] at hs'
 ·refine ⟨rfl,hB,fun i j hij hj=>?_⟩
  by_cases h1:ok = 0
  ·rw [show i = j by omega];exact Int.le_refl _
  ·exact hs i j hij (by omega)
 ·rintro c st' ⟨rfl,hB',hs'⟩
  exact wpS_pure (h st' hB' hs')
end
end TG
namespace TG
open PySem PyProof.Rows
variable [KO]
noncomputable abbrev Pd:=Nat × Nat × Nat
noncomputable def Runs (xs:Array Keyed):Nat->List Pd->Nat->Prop
 | st,[],e=>st = e
 | st,(a,n,_) :: l,e=>a = st/\0 < n/\Sg xs st n/\Runs xs (st + n) l e
theorem Runs.len {xs:Array Keyed}:∀ {l:List Pd} {st e:Nat},Runs xs st l e->st + l.length<=e
 | [],st,e,h=>by have:st = e:=h;simp;omega
 | (a,n,p) :: l,st,e,h=>by have:=Runs.len h.2.2.2;have:=h.2.1;simp;omega
theorem Runs.app {xs:Array Keyed}:∀ {l m:List Pd} {st e:Nat},Runs xs st (l ++ m) e ↔ ∃ k,Runs xs st l k/\Runs xs k m e
 | [],m,st,e=>⟨fun h=>⟨st,rfl,h⟩,fun ⟨k,h1,h2⟩=>by have:st = k:=h1;subst this;exact h2⟩
 | (a,n,p) :: l,m,st,e=>by
  constructor
  ·rintro ⟨h1,h2,h3,h4⟩
   obtain ⟨k,g1,g2⟩:=Runs.app.mp h4
   exact ⟨k,⟨h1,h2,h3,g1⟩,g2⟩
  ·rintro ⟨k,⟨h1,h2,h3,g1⟩,g2⟩
   exact ⟨h1,h2,h3,Runs.app.mpr ⟨k,g1,g2⟩⟩
variable {xs:Array Keyed} {n:Nat}
theorem Sg.congr {ys:Array Keyed} {lo:Nat} (h:Sg xs lo n) (he:∀ i,lo<=i->i < lo + n->ys[i]? = xs[i]?):Sg ys lo n:=by
 intro i j hij hj
 rw [K_congr (he (lo + i) (by omega) (by omega)),K_congr (he (lo + j) (by omega) (by omega))]
 exact h i j hij hj
theorem Runs.congr {xs ys:Array Keyed}:∀ {l:List Pd} {st e:Nat},Runs xs st l e->(∀ i,st<=i->i < e->ys[i]? = xs[i]?)->Runs ys st l e
 | [],st,e,h,_=>h
 | (a,n,p) :: l,st,e,h,he=>by
  have:=Runs.len h.2.2.2
  exact ⟨h.1,h.2.1,h.2.2.1.congr fun i h1 h2=>he i h1 (by omega),Runs.congr h.2.2.2 fun i h1 h2=>he i (by omega) h2⟩
theorem Runs.pw {xs:Array Keyed}:∀ {l m:List Pd} {st e:Nat},Runs xs st l e->l.map (fun x=>(x.1,x.2.1)) = m.map (fun x=>(x.1,x.2.1))->Runs xs st m e
 | [],[],st,e,h,_=>h
 | [],_ :: _,st,e,_,hm=>by simp at hm
 | _ :: _,[],st,e,_,hm=>by simp at hm
 | (a,n,p) :: l,(a',n',p') :: m,st,e,h,hm=>by
  simp only [map_cons,List.cons.injEq,Prod.mk.injEq] at hm
  obtain ⟨⟨rfl,rfl⟩,hm⟩:=hm
  exact ⟨h.1,h.2.1,h.2.2.1,Runs.pw h.2.2.2 hm⟩
variable {i:Nat}
theorem zdG (h:i < xs.toList.length):K xs i = kof xs.toList[i]:=by
 unfold K
 rw [← Array.getElem?_toList,getElem?_pos _ i h]
theorem zaO {lo:Nat} (h:Sg xs lo n):So ((xs.toList.drop lo).take n):=by
 refine pairwise_iff_getElem.mpr fun i j hi hj hij=>?_
 rw [Qn,length_drop] at hi hj
 have:=h i j (by omega) (by omega)
 rw [zdG (by omega),zdG (by omega)] at this
 simpa using this
theorem zc3 {P R S:List Keyed} (h:So R) (e:xs.toList = P ++ (R ++ S)):Sg xs P.length R.length:=by
 intro i j hij hj
 by_cases hi:i = j
 ·subst hi;exact Int.le_refl _
 ·have h1:xs.toList[P.length + i]? = some R[i]:=by
   rw [e,Q7 (by omega),Nat.add_sub_cancel_left,Q6 (by omega)];exact getElem?_pos ..
  have h2:xs.toList[P.length + j]? = some R[j]:=by
   rw [e,Q7 (by omega),Nat.add_sub_cancel_left,Q6 (by omega)];exact getElem?_pos ..
  unfold K
  rw [← Array.getElem?_toList,← Array.getElem?_toList,h1,h2]
  exact pairwise_iff_getElem.mp h i j (by omega) hj (by omega)
structure PI (a0:Array Keyed) (st:SortSt) (e:Nat):Prop where
 kind:kindOf st = kd
 failed:failedOf st = none
 perm:(arrOf st).Perm a0
 runs:Runs (arrOf st) 0 (pendingOf st).toList e
 le:e<=a0.size
variable {st:SortSt}
section
variable {prog:Program} {w:World} {A:Around} {E:Value->Shared->Prop} {s:Shared} [Srt prog w A E s] {a0:Array Keyed}
theorem qZ {e:Nat} {Q:Bool->SortSt->Prop} (h0:IntKeys a0) (hB:PI a0 st e) (hi:i + 1 < (pendingOf st).size)
 (h:∀ st',PI a0 st' e->(pendingOf st').size + 1 = (pendingOf st).size->(∀ j,e<=j->(arrOf st')[j]? = (arrOf st)[j]?)->Q true st') :
  wpS (model prog w) A E s (mergeAt' i) Q st:=by
 have hl:(pendingOf st).toList.length = (pendingOf st).size:=by simp
 have hsz:(arrOf st).size = a0.size:=hB.perm.size_eq
 have hal:(arrOf st).toList.length = (arrOf st).size:=by simp
 obtain ⟨L1,⟨sa,na,pa⟩,⟨sb,nb,pb⟩,L2,hp,hL1⟩:∃ L1 x y L2,(pendingOf st).toList = L1 ++ x :: y :: L2/\L1.length = i:=by
  refine ⟨(pendingOf st).toList.take i,(pendingOf st).toList[i],(pendingOf st).toList[i + 1],(pendingOf st).toList.drop (i + 1 + 1),?_,by rw [Qn];omega⟩
  rw [← drop_eq_getElem_cons (by omega),← drop_eq_getElem_cons (by omega),take_append_drop]
 have hr:=hB.runs
 rw [hp] at hr
 obtain ⟨k,r1,r2⟩:=Runs.app.mp hr
 obtain ⟨rfl,pX,gX,rfl,pY,gY,r3⟩:=r2
 have hle:=r3.len
 have:=hB.le
 have hx1:(pendingOf st)[i]? = some (sa,na,pa):=by rw [← Array.getElem?_toList,hp,← hL1];simp
 have hx2:(pendingOf st)[i + 1]? = some (sa + na,nb,pb):=by rw [← Array.getElem?_toList,hp,← hL1];simp
 have lP:((arrOf st).toList.take sa).length = sa:=by rw [Qn];omega
 refine zbU (P:=(arrOf st).toList.take sa) (X:=((arrOf st).toList.drop sa).take na) (Y:=((arrOf st).toList.drop (sa + na)).take nb) (S:=(arrOf st).toList.drop (sa + na + nb))
  hB.kind hB.failed hx1 hx2 ?_ lP (by rw [Qn,length_drop];omega) (by rw [Qn,length_drop];omega) rfl pX pY ?_ (zaO gX) (zaO gY) ?_
 ·conv=>lhs;rw [← take_append_drop sa (arrOf st).toList,← take_append_drop na (List.drop sa (arrOf st).toList),drop_drop,← take_append_drop nb (List.drop (sa + na) (arrOf st).toList),drop_drop]
 ·intro p hpm
  exact h0 p ((Array.perm_iff_toList_perm.mp hB.perm).mem_iff.mp hpm)
 ·intro st' R hk hf hpd hal' hR hS
  have lR:R.length = na + nb:=by
   rw [hR.length_eq,Qk,Qn,Qn,length_drop,length_drop];omega
  have hpd':(pendingOf st').toList = L1 ++ (sa,na + nb,pa) :: L2:=by
   rw [hpd,Array.toList_eraseIdxIfInBounds,Array.toList_setIfInBounds,hp,← hL1,set_append_right _ _ (Q3 _),Nat.sub_self,
    List.eraseIdx_append_of_length_le (by omega),Nat.add_sub_cancel_left]
   rfl
  have low:∀ j,j < sa->(arrOf st')[j]? = (arrOf st)[j]?:=by
   intro j hj
   rw [← Array.getElem?_toList,← Array.getElem?_toList,hal',Q6 (by omega),getElem?_take,if_pos hj]
  have high:∀ j,sa + na + nb<=j->(arrOf st')[j]? = (arrOf st)[j]?:=by
   intro j hj
   rw [← Array.getElem?_toList,← Array.getElem?_toList,hal',Q7 (by omega),Q7 (by omega),getElem?_drop,lP,lR]
   congr 1;omega
  refine h st' ⟨hk,hf,?_,?_,hB.le⟩ ?_ fun j hj=>high j (by omega)
  ·refine Array.Perm.trans (Array.perm_iff_toList_perm.mpr ?_) hB.perm
   rw [hal']
   conv=>rhs;rw [← take_append_drop sa (arrOf st).toList,← take_append_drop na (List.drop sa (arrOf st).toList),drop_drop,← take_append_drop nb (List.drop (sa + na) (arrOf st).toList),drop_drop]
   refine List.Perm.append_left _ ?_
   rw [← append_assoc (List.take na _)]
   exact List.Perm.append_right _ hR
  ·rw [hpd']
   refine Runs.app.mpr ⟨sa,r1.congr fun j _ hj=>low j hj,rfl,by omega,?_,?_⟩
   ·have:=zc3 hS hal'
    rwa [lP,lR] at this
   ·rw [← Nat.add_assoc]
    exact r3.congr fun j hj _=>high j hj
  ·have e1:(pendingOf st').toList.length = (pendingOf st').size:=by simp
   rw [← e1,← hl,hpd',hp]
   simp;omega
theorem zd4 (c:Prop) [Decidable c] (n:Nat):(if c then n - 1 else n)<=n:=by split <;> omega
theorem SBase.size {a₀:Array Keyed} (h:SBase a₀ st):(arrOf st).size = a₀.size:=h.perm.size_eq
theorem zbi {Q:Unit->SortSt->Prop} (h0:IntKeys a0) (hB:SBase a0 st) (h2:2<=a0.size)
 (h:∀ st',(arrOf st').Perm a0->failedOf st' = none->SortedTo (arrOf st') a0.size->Q () st'):wpS (model prog w) A E s sortRuns' Q st:=by
 rw [sortRuns'_eq]
 refine wpS_bind (wpS_get ?_)
 dsimp only
 simp only [hB.size]
 generalize minRun' a0.size a0.size 0 = mr
 refine wpS_bind (wpS_mono (wpS_forRange (I:=fun x c st'=>∃ lo,c = (none,lo)/\x<=lo/\PI a0 st' lo) (Q:=fun c st'=>c = (none,a0.size)/\PI a0 st' a0.size) ?_ ?_
  ⟨0,rfl,Q3 _,hB.kind,hB.failed,hB.perm,by rw [hB.pend];rfl,by omega⟩) ?_)
 ·rintro x c st1 _ hx ⟨lo,rfl,hxl,hP1⟩
  dsimp only
  by_cases hge:lo ≥ a0.size
  ·rw [if_pos hge]
   have:lo = a0.size:=by have:=hP1.le;omega
   subst this
   exact wpS_pure ⟨rfl,hP1⟩
  rw [if_neg hge]
  have hI1:IntKeys (arrOf st1):=fun p hp=>h0 p ((Array.perm_iff_toList_perm.mp hP1.perm).mem_iff.mp hp)
  have hs1:(arrOf st1).size = a0.size:=hP1.perm.size_eq
  have of:∀ {st'},LB st1 lo st'->PI a0 st' lo:=fun hL=>⟨hL.kind,hL.failed,hL.perm.trans hP1.perm,by rw [hL.pend];exact hP1.runs.congr fun i _ hi=>hL.pre i hi,hP1.le⟩
  refine wpS_bind (zbr (st0:=st1) hI1 (by omega) (by omega) ⟨hP1.kind,hP1.failed,rfl,Array.Perm.refl _,fun _ _=>rfl⟩ fun m st2 hB2 hm1 hm2 hS2=>?_)
  dsimp only
  by_cases hlt:m < mr
  case' pos=>
   rw [if_pos hlt]
   refine wpS_bind (wpS_lift (wpAny_rule ⟨rfl,?_⟩))
   refine wpS_bind (zca (st0:=st1) hI1 (by omega) (by omega) hB2 hS2 fun st3 hB3 hS3=>?_)
   simp only [Bool.not_true,Bool.false_eq_true,if_false]
   have hn1:1<=min (a0.size - lo) mr:=by omega
   have hn2:lo + min (a0.size - lo) mr<=a0.size:=by omega
   generalize min (a0.size - lo) mr = n at *
  case' neg=>
   rw [if_neg hlt]
   have hB3:=hB2
   have hS3:=hS2
   have hn1:=hm1
   have hn2:lo + m<=a0.size:=by omega
   generalize st2 = st3 at *
   generalize m = n at *
  all_goals
   have hP3:=of hB3
   have push:∀ {st':SortSt},PI a0 st' lo->Sg (arrOf st') lo n->PI a0 (setPending st' ((pendingOf st').push (lo,n,0))) (lo + n):=by
    intro st' hP hS
    refine ⟨hP.kind,hP.failed,hP.perm,?_,hn2⟩
    show Runs (arrOf st') 0 ((pendingOf st').push (lo,n,0)).toList (lo + n)
    rw [Array.toList_push]
    exact Runs.app.mpr ⟨lo,hP.runs,rfl,by omega,hS,rfl⟩
   refine wpS_bind (wpS_get ?_)
   cases hb:(pendingOf st3).back? with
   | none=>exact wpS_bind (wpS_modify (wpS_pure ⟨_,rfl,by omega,push hP3 hS3⟩))
   | some b=>
    obtain ⟨s1,n1,p1⟩:=b
    dsimp only
    refine wpS_bind (wpS_mono (wpS_forRange (I:=fun x c st'=>c = (none,())/\PI a0 st' lo/\Sg (arrOf st') lo n) (Q:=fun c st'=>c = (none,())/\PI a0 st' lo/\Sg (arrOf st') lo n) ?_ (fun _ _ hh=>hh) ⟨rfl,hP3,hS3⟩) ?_)
    ·rintro y c st4 _ _ ⟨rfl,hP4,hS4⟩
     refine wpS_bind (wpS_get ?_)
     by_cases hz:(pendingOf st4).size > 1
     ·rw [if_pos hz]
      have e:(pendingOf st4)[(pendingOf st4).size - 2]? = some (pendingOf st4)[(pendingOf st4).size - 2]:=getElem?_pos ..
      rw [e]
      dsimp only
      split
      ·exact wpS_pure ⟨rfl,hP4,hS4⟩
      ·refine wpS_bind (qZ h0 hP4 (by omega) fun st5 hP5 _ hj5=>?_)
       exact wpS_pure ⟨rfl,hP5,hS4.congr fun i hi _=>hj5 i hi⟩
     ·rw [if_neg hz]
      exact wpS_pure ⟨rfl,hP4,hS4⟩
    ·rintro c st4 ⟨rfl,hP4,hS4⟩
     dsimp only
     refine wpS_bind (wpS_modify ?_)
     refine wpS_bind (wpS_modify (wpS_pure ⟨_,rfl,by omega,push ?_ ?_⟩))
     ·refine ⟨hP4.kind,hP4.failed,hP4.perm,hP4.runs.pw ?_,hP4.le⟩
      refine ext_getElem? fun i=>?_
      show _ = (List.map _ ((pendingOf st4).modify ((pendingOf st4).size - 1) fun x=>(x.1,x.2.1,power' a0.size (2 * s1 + n1) (2 * s1 + n1 + n1 + n) a0.size)).toList)[i]?
      simp only [Q9,Array.getElem?_toList,Array.getElem?_modify]
      split
      ·cases (pendingOf st4)[i]? <;> rfl
      ·rfl
     ·exact hS4
 ·rintro c st1 ⟨lo,rfl,hxl,hP1⟩
  have:lo = a0.size:=by have:=hP1.le;omega
  subst this
  exact ⟨rfl,hP1⟩
 ·rintro c st1 ⟨rfl,hP1⟩
  dsimp only
  have hl1:=hP1.runs.len
  have hq1:(pendingOf st1).toList.length = (pendingOf st1).size:=by simp
  refine wpS_bind (wpS_mono (wpS_forRange (I:=fun x c st'=>c = (none,())/\PI a0 st' a0.size/\(pendingOf st').size + x<=a0.size) (Q:=fun c st'=>c = (none,())/\PI a0 st' a0.size/\(pendingOf st').size<=1) ?_ ?_
   ⟨rfl,hP1,by omega⟩) ?_)
  ·rintro x c st2 _ hx ⟨rfl,hP2,hc2⟩
   refine wpS_bind (wpS_get ?_)
   by_cases hz:(pendingOf st2).size<=1
   ·rw [if_pos hz]
    exact wpS_pure ⟨rfl,hP2,hz⟩
   rw [if_neg hz]
   refine wpS_bind (qZ h0 hP2 ?_ fun st3 hP3 hc3 _=>wpS_pure ⟨rfl,hP3,by omega⟩)
   exact Nat.lt_of_le_of_lt (Nat.succ_le_succ (zd4 _ _)) (by omega)
  ·rintro c st2 ⟨rfl,hP2,hc2⟩
   exact ⟨rfl,hP2,by omega⟩
  ·rintro c st2 ⟨rfl,hP2,hc2⟩
   refine wpS_pure (h _ hP2.perm hP2.failed ?_)
   have hr:=hP2.runs
   have hq2:(pendingOf st2).toList.length = (pendingOf st2).size:=by simp
   match hp:(pendingOf st2).toList,hr with
   | [],hr=>have:0 = a0.size:=hr;omega
   | (a,n,p) :: l,hr=>
    have hll:l = []:=by
     have:l.length + 1 = (pendingOf st2).toList.length:=by rw [hp];rfl
     exact List.eq_nil_of_length_eq_zero (by omega)
    subst hll
    obtain ⟨_,_,hS,hz⟩:=hr
    have hz:0 + n = a0.size:=hz
    intro i j hij hj
    have:=hS i j hij (by omega)
    rwa [Nat.zero_add,Nat.zero_add] at this
end
end TG
namespace FT
open PySem
noncomputable def cmL (f:T->T->Option Ordering):List T->List T->Option Ordering
 | [],[]=>some .eq
 | [],_ :: _=>some .lt
 | _ :: _,[]=>some .gt
 | x :: xs,y :: ys=>match f x y,cmL f xs ys with
  | some a,some b=>some (if a = .eq then b else a)
  | _,_=>none
noncomputable def cmI (a b:Int):Ordering:=if a < b then .lt else if b < a then .gt else .eq
noncomputable def cmT:Nat->T->T->Option Ordering
 | _,.int a,.int b=>some (cmI a b)
 | d + 1,.tup xs,.tup ys=>cmL (cmT d) xs ys
 | _,_,_=>none
noncomputable def zaD (f:T->List Int):List T->List Int
 | []=>[0]
 | t :: ts=>1 :: (f t ++ zaD f ts)
noncomputable def code:Nat->T->List Int
 | _,.int a=>[a]
 | d + 1,.tup ts=>zaD (code d) ts
 | _,_=>[]
noncomputable def lx:List Int->List Int->Ordering
 | [],[]=>.eq
 | [],_ :: _=>.lt
 | _ :: _,[]=>.gt
 | a :: l,b :: m=>if a < b then .lt else if b < a then .gt else lx l m
variable {o:Ordering}
theorem zb7 {f:T->T->Option Ordering} {x y:T} {xs ys:List T} (h:cmL f (x :: xs) (y :: ys) = some o):∃ a b,f x y = some a/\cmL f xs ys = some b/\o = if a = .eq then b else a:=by
 unfold cmL at h
 cases q1:f x y with
 | none=>rw [q1] at h;cases h
 | some a=>
  cases q2:cmL f xs ys with
  | none=>rw [q1,q2] at h;cases h
  | some b=>rw [q1,q2] at h;cases h;exact ⟨a,b,rfl,rfl,rfl⟩
variable {d:Nat} {t u:T}
theorem yK (h:cmT d t u = some o):(∃ a b,t = .int a/\u = .int b/\o = cmI a b)\/∃ e xs ys,d = e + 1/\t = .tup xs/\u = .tup ys/\cmL (cmT e) xs ys = some o:=by
 unfold cmT at h
 split at h
 ·cases h;exact .inl ⟨_,_,rfl,rfl,rfl⟩
 ·exact .inr ⟨_,_,_,rfl,rfl,rfl,h⟩
 ·cases h
theorem lxI (a b:Int) (r r':List Int):lx (a :: r) (b :: r') = if cmI a b = .eq then lx r r' else cmI a b:=by
 unfold cmI
 rw [lx]
 split
 ·rfl
 ·split <;> rfl
theorem zgz:∀ (d:Nat) {t u:T} {o:Ordering},cmT d t u = some o->(∀ r r',lx (code d t ++ r) (code d u ++ r') = if o = .eq then lx r r' else o)/\(o = .eq->t = u):=by
 have int:∀ (d:Nat) (a b:Int),(∀ r r',lx (code d (.int a) ++ r) (code d (.int b) ++ r') = if cmI a b = .eq then lx r r' else cmI a b)/\(cmI a b = .eq->T.int a = T.int b):=by
  intro d a b
  refine ⟨fun r r'=>?_,fun h=>?_⟩
  ·have e:∀ c:Int,code d (.int c) = [c]:=fun c=>by cases d <;> rfl
   rw [e,e]
   exact lxI a b r r'
  ·unfold cmI at h
   split at h
   ·cases h
   ·split at h
    ·cases h
    ·congr 1;omega
 intro d
 induction d with
 | zero=>
  intro t u o h
  rcases yK h with ⟨a,b,rfl,rfl,rfl⟩ | ⟨e,xs,ys,h1,_⟩
  ·exact int 0 a b
  ·cases h1
 | succ d ih=>
  intro t u o h
  rcases yK h with ⟨a,b,rfl,rfl,rfl⟩ | ⟨e,xs,ys,h1,rfl,rfl,hL⟩
  ·exact int _ a b
  ·cases h1
   have key:∀ (xs ys:List T) (o:Ordering),cmL (cmT d) xs ys = some o->(∀ r r',lx (zaD (code d) xs ++ r) (zaD (code d) ys ++ r') = if o = .eq then lx r r' else o)/\(o = .eq->xs = ys):=by
    intro xs
    induction xs with
    | nil=>
     intro ys o hL
     cases ys with
     | nil=>cases hL;exact ⟨fun r r'=>by simp [zaD,lx],fun _=>rfl⟩
     | cons y ys=>cases hL;exact ⟨fun r r'=>by simp [zaD,lx],fun h=>by cases h⟩
    | cons x xs ihL=>
     intro ys o hL
     cases ys with
     | nil=>cases hL;exact ⟨fun r r'=>by simp [zaD,lx],fun h=>by cases h⟩
     | cons y ys=>
      obtain ⟨a,b,q1,q2,rfl⟩:=zb7 hL
      obtain ⟨g1,g2⟩:=ih q1
      obtain ⟨k1,k2⟩:=ihL ys b q2
      refine ⟨fun r r'=>?_,fun h=>?_⟩
      ·show lx (1 :: ((code d x ++ zaD (code d) xs) ++ r)) (1 :: ((code d y ++ zaD (code d) ys) ++ r')) = _
       rw [lxI,if_pos (by decide),append_assoc,append_assoc,g1,k1]
       by_cases ha:a = .eq <;> simp [ha]
      ·by_cases ha:a = .eq
       ·rw [if_pos ha] at h
        rw [g2 ha,k2 h]
       ·rw [if_neg ha] at h;exact absurd h ha
   exact ⟨(key xs ys o hL).1,fun h=>by rw [(key xs ys o hL).2 h]⟩
theorem zd1:∀ l,lx l l = .eq
 | []=>rfl
 | a :: l=>by rw [lx,if_neg (Int.lt_irrefl _),if_neg (Int.lt_irrefl _)];exact zd1 l
theorem zbA:∀ l m,lx m l = (lx l m).swap
 | [],[]=>rfl
 | [],_ :: _=>rfl
 | _ :: _,[]=>rfl
 | a :: l,b :: m=>by
  rw [lx,lx]
  by_cases h1:a < b
  ·rw [if_neg (by omega),if_pos h1,if_pos h1];rfl
  ·by_cases h2:b < a
   ·rw [if_pos h2,if_neg h1,if_pos h2];rfl
   ·rw [if_neg h2,if_neg h1,if_neg h1,if_neg h2];exact zbA l m
theorem zeP:∀ {l m},lx l m = .eq->l = m
 | [],[],_=>rfl
 | [],_ :: _,h=>by cases h
 | _ :: _,[],h=>by cases h
 | a :: l,b :: m,h=>by
  rw [lx] at h
  split at h
  ·cases h
  ·split at h
   ·cases h
   ·rw [zeP h,show a = b by omega]
theorem zbW:∀ {l m n},lx l m = .lt->lx m n = .lt->lx l n = .lt
 | [],[],_,h,_=>by cases h
 | [],_ :: _,[],_,h=>by cases h
 | [],_ :: _,_ :: _,_,_=>rfl
 | _ :: _,[],_,h,_=>by cases h
 | _ :: _,_ :: _,[],_,h=>by cases h
 | a :: l,b :: m,c :: n,h1,h2=>by
  rw [lx] at h1 h2 ⊢
  split at h1
  ·split at h2
   ·rw [if_pos (by omega)]
   ·split at h2
    ·cases h2
    ·rw [if_pos (by omega)]
  ·split at h1
   ·cases h1
   ·split at h2
    ·rw [if_pos (by omega)]
    ·split at h2
     ·cases h2
     ·rw [if_neg (by omega),if_neg (by omega)];exact zbW h1 h2
noncomputable def qV (l m:List Int):Bool:=lx l m != .gt
theorem zg3 (l m n:List Int) (h1:qV l m = true) (h2:qV m n = true):qV l n = true:=by
 unfold qV at *
 cases q1:lx l m with
 | gt=>rw [q1] at h1;cases h1
 | eq=>rw [zeP q1];exact h2
 | lt=>
  cases q2:lx m n with
  | gt=>rw [q2] at h2;cases h2
  | eq=>rw [← zeP q2,q1];rfl
  | lt=>rw [zbW q1 q2];rfl
theorem zg4 (l m:List Int):(qV l m || qV m l) = true:=by
 unfold qV
 rw [zbA l m]
 cases lx l m <;> rfl
noncomputable def rnk (L:List (List Int)) (c:List Int):Int:=(L.countP fun b=>lx b c == .lt:Nat)
theorem zex {α:Type} {p q:α->Bool}:∀ {l:List α},(∀ x ∈ l,p x = true->q x = true)->(∃ x ∈ l,q x = true/\p x = false)->l.countP p < l.countP q
 | [],_,⟨x,h,_⟩=>by cases h
 | a :: l,h,⟨x,hx,hq,hp⟩=>by
  have h':=List.countP_mono_left (l:=l) fun x hx=>h x (mem_cons_of_mem _ hx)
  rw [List.countP_cons,List.countP_cons]
  rcases mem_cons.mp hx with rfl | hx
  ·rw [hp,hq];simp;omega
  ·have:=zex (l:=l) (fun x hx=>h x (mem_cons_of_mem _ hx)) ⟨x,hx,hq,hp⟩
   have h0:=h a (mem_cons_self ..)
   cases e:p a with
   | false=>simp;split <;> omega
   | true=>rw [h0 e];simp;omega
theorem zhG {L:List (List Int)} {c c':List Int} (hc:c ∈ L):decide (rnk L c < rnk L c') = (lx c c' == .lt):=by
 unfold rnk
 cases q:lx c c' with
 | lt=>
  have:L.countP (fun b=>lx b c == .lt) < L.countP (fun b=>lx b c' == .lt):=
   zex (fun x _ h=>by
    have h:lx x c = .lt:=by simpa using h
    show (lx x c' == .lt) = true
    rw [zbW h q];rfl) ⟨c,hc,by rw [q];rfl,by rw [zd1];rfl⟩
  rw [Qq (by omega)];rfl
 | eq=>rw [zeP q];simp
 | gt=>
  have q':lx c' c = .lt:=by rw [zbA c c',q];rfl
  have:L.countP (fun b=>lx b c' == .lt)<=L.countP (fun b=>lx b c == .lt):=
   List.countP_mono_left fun x _ h=>by
    have h:lx x c' = .lt:=by simpa using h
    show (lx x c == .lt) = true
    rw [zbW h q'];rfl
  rw [Qr (by omega)];rfl
theorem zhi (h:cmT d t u = some o):lx (code d t) (code d u) = o:=by
 have:=(zgz d h).1 [] []
 rw [append_nil,append_nil] at this
 rw [this]
 by_cases e:o = .eq
 ·rw [if_pos e,e];rfl
 ·rw [if_neg e]
theorem zk8 (h:cmT d t t = some o):o = .eq:=by rw [← zhi h,zd1]
noncomputable def zcg (d:Nat) (ts:List T):List T:=ts.mergeSort fun a b=>qV (code d a) (code d b)
theorem zjZ {ts ts':List T} (hc:∀ t ∈ ts,∀ u ∈ ts,(cmT d t u).isSome) (h:ts'.Perm ts) (p:ts'.Pairwise fun a b=>qV (code d a) (code d b) = true):ts' = zcg d ts:=by
 refine List.Perm.eq_of_pairwise (fun a b ha hb h1 h2=>?_) p (List.pairwise_mergeSort (le:=fun a b=>qV (code d a) (code d b)) (fun a b c=>zg3 (code d a) (code d b) (code d c)) (fun a b=>zg4 (code d a) (code d b)) ts) (h.trans (List.mergeSort_perm _ _).symm)
 obtain ⟨o,ho⟩:=Option.isSome_iff_exists.mp (hc a (h.mem_iff.mp ha) b ((List.mergeSort_perm _ _).mem_iff.mp hb))
 have e:=zhi ho
 have e2:=zbA (code d a) (code d b)
 unfold qV at h1 h2
 rw [e2,e] at h2
 rw [e] at h1
 cases o with
 | eq=>exact (zgz d ho).2 rfl
 | lt=>exact absurd h2 (by decide)
 | gt=>exact absurd h1 (by decide)
theorem za7 (d:Nat) (ts:List T):(zcg d ts).Perm ts:=List.mergeSort_perm _ _
end FT
namespace FT
open PySem PySem.Spec PyProof.Rows
inductive TV (h:Heap):T->Value->Prop
 | int (n:Int) (k:Tok):TV h (.int n) (.int n k)
 | tup {ts:List T} {a:Addr} {its:List Value} (ho:h.IsTuple a its.toArray) (hl:ts.length = its.length) (hr:∀ (i:Nat) t v,ts[i]? = some t->its[i]? = some v->TV h t v):TV h (.tup ts) (.ref a)
variable {h:Heap}
theorem zjV {a:Addr} {x y:List Value} (h1:h.IsTuple a x.toArray) (h2:h.IsTuple a y.toArray):x = y:=by
 obtain ⟨o,ho,_,n,hd⟩:=h1
 obtain ⟨o',ho',_,n',hd'⟩:=h2
 rw [ho] at ho'
 cases ho'
 rw [hd] at hd'
 injection hd' with e
 simpa using e
variable {t:T} {v:Value}
theorem TV.fn (r:TV h t v):∀ {u:T},TV h u v->t = u:=by
 induction r with
 | int n k=>intro u q;cases q;rfl
 | @tup ts a its ho hl hr ih=>
  intro u q
  cases q with
  | @tup us _ its2 ho2 hl2 hr2=>
   have:=zjV ho ho2
   subst this
   congr 1
   refine ext_getElem? fun i=>?_
   by_cases hi:i < its.length
   ·rw [Q0 (by omega),Q0 (by omega)]
    exact congrArg some (ih i _ _ (Q0 (by omega)) (Q0 hi) (hr2 i _ _ (Q0 (by omega)) (Q0 hi)))
   ·rw [List.getElem?_eq_none (by omega),List.getElem?_eq_none (by omega)]
theorem TV.mono {h':Heap} (hm:∀ b its,h.IsTuple b its->h'.IsTuple b its) (r:TV h t v):TV h' t v:=by
 induction r with
 | int n k=>exact .int n k
 | tup ho hl hr ih=>exact .tup (hm _ _ ho) hl ih
def zjA (A:Around) (s:Shared) (x y:Value) (b:Bool):Prop:=
 ∀ (prog:Program) (w:World) (E:Value->Shared->Prop) (Q:Value->Shared->Prop),Q (.bool b) s->wpAny (model prog w) A (richCompare .Lt x y) Q E s
def TVs (h:Heap) (ts:List T) (xs:List Value):Prop:=ts.length = xs.length/\∀ (i:Nat) t v,ts[i]? = some t->xs[i]? = some v->TV h t v
variable {ts:List T} {x:Value}
theorem TVs.cons {xs:List Value} (r:TVs h ts (x :: xs)):∃ t ts',ts = t :: ts'/\TV h t x/\TVs h ts' xs:=by
 obtain ⟨hl,hr⟩:=r
 cases ts with
 | nil=>cases hl
 | cons t ts=>
  refine ⟨t,ts,rfl,hr 0 t x rfl rfl,Nat.succ.inj hl,fun i u v h1 h2=>hr (i + 1) u v (by simpa using h1) (by simpa using h2)⟩
theorem TVs.nil (r:TVs h ts []):ts = []:=List.eq_nil_of_length_eq_zero r.1
theorem zfD {f:T->T->Option Ordering}:∀ {xs ys:List T} {o:Ordering},cmL f xs ys = some o->
  ∃ e:Nat->Ordering,(∀ (j:Nat) x y,xs[j]? = some x->ys[j]? = some y->f x y = some (e j))/\(o == .eq) = ((List.range (min xs.length ys.length)).all (fun j=>e j == .eq) && xs.length == ys.length)
 | [],[],o,h=>by cases h;exact ⟨fun _=>.eq,fun j x y e1=>by simp at e1,by simp⟩
 | [],_ :: _,o,h=>by cases h;exact ⟨fun _=>.eq,fun j x y e1=>by simp at e1,by simp⟩
 | _ :: _,[],o,h=>by cases h;exact ⟨fun _=>.eq,fun j x y _ e1=>by simp at e1,by simp⟩
 | x :: xs,y :: ys,o,h=>by
  obtain ⟨a,b,q1,q2,rfl⟩:=zb7 h
  obtain ⟨e,g1,g2⟩:=zfD q2
  refine ⟨fun j=>match j with | 0=>a | j + 1=>e j,fun j x' y' e1 e2=>?_,?_⟩
  ·cases j with
   | zero=>cases e1;cases e2;exact q1
   | succ j=>exact g1 j x' y' (by simpa using e1) (by simpa using e2)
  ·rw [Qm,Qm,Nat.succ_min_succ,List.range_succ_eq_map,all_cons,List.all_map]
   have e1:(xs.length + 1 == ys.length + 1) = (xs.length == ys.length):=by simp
   rw [e1]
   show _ = (((a == .eq) && (List.range (min xs.length ys.length)).all (fun j=>e j == .eq)) && _)
   rw [Bool.and_assoc,← g2]
   cases a <;> simp
variable {A:Around} {d:Nat} {o:Ordering} {prog:Program} {s:Shared} {E:Value->Shared->Prop} {w:World}
section
theorem zkF (ih:∀ {t u:T} {o:Ordering},cmT d t u = some o->∀ {x y:Value},TV s.heap t x->TV s.heap u y->SeqAt.EqAt A s x y (o == .eq)/\zjA A s x y (o == .lt))
 {P:PySem.Fin->Shared->Prop} {a b:Addr} {us:List T} {its its2:List Value} (hx:s.heap.IsTuple a its.toArray) (hy:s.heap.IsTuple b its2.toArray)
 (r1:TVs s.heap ts its) (r2:TVs s.heap us its2) (hc:cmL (cmT d) ts us = some o) (h:P (.done (.ret (.bool (o == .lt)))) s) :
  wpAny (model prog w) A (Builtin.«tuple.__lt__» ⟨[.ref a,.ref b],[]⟩) P E s:=by
 obtain ⟨oa,hoa,hca,na,hda⟩:=hx
 obtain ⟨ob,hob,hcb,nb,hdb⟩:=hy
 have hTb:s.TypeIs (.ref b) "tuple":=⟨ob,hob,hcb⟩
 show wpAny _ _ (isInstance (.ref b) (.type "tuple") >>= _) _ _ s
 refine Q1 (wpAny_isInstance hTb isSubtype_tuple_tuple ?_)
 simp only [Bool.not_true,Bool.false_eq_true,if_false]
 refine Q1 (wpAny_tupleItemsOf hoa hda ?_)
 refine Q1 (wpAny_tupleItemsOf hob hdb ?_)
 refine Q1 (wpAny_forIn_list _ (fun rest b s'=>b.1 = none/\s' = s/\∃ ts' us' xs ys,rest = List.zip xs ys/\TVs s.heap ts' xs/\TVs s.heap us' ys/\cmL (cmT d) ts' us' = some o/\its.length + ys.length = its2.length + xs.length) _ ?_ ?_ _ _ ⟨rfl,rfl,ts,us,its,its2,rfl,r1,r2,hc,by omega⟩)
 ·rintro ⟨x,y⟩ rest ⟨b1,b2⟩ s' ⟨hb,rfl,ts',us',xs,ys,hz,q1,q2,hc',hl⟩
  cases xs with
  | nil=>cases hz
  | cons x' xs=>
  cases ys with
  | nil=>cases hz
  | cons y' ys=>
  rw [zip_cons_cons] at hz
  injection hz with hxy hz
  cases hxy
  obtain ⟨t,ts'',rfl,k1,q1⟩:=q1.cons
  obtain ⟨u,us'',rfl,k2,q2⟩:=q2.cons
  obtain ⟨a1,b1',e1,e2,e3⟩:=zb7 hc'
  obtain ⟨g1,g2⟩:=ih e1 k1 k2
  refine Q1 (g1 prog w _ _ ?_)
  cases hb
  by_cases ha:a1 = .eq
  ·subst ha
   rw [if_pos rfl] at e3
   subst e3
   simp only [BEq.rfl,Bool.not_true,Bool.false_eq_true,if_false]
   exact Qc ⟨rfl,rfl,ts'',us'',xs,ys,hz,q1,q2,e2,by simp only [Qm] at hl;omega⟩
  ·have:(a1 == Ordering.eq) = false:=by simpa using ha
   rw [if_neg ha] at e3
   subst e3
   simp only [this,Bool.not_false,if_true]
   refine Q1 (wpAny_rule (Q1 (g2 prog w _ _ ?_)))
   exact Q1 (Qc (Qc (Qc h)))
 ·rintro ⟨b1,b2⟩ s' ⟨hb,rfl,ts',us',xs,ys,hz,q1,q2,hc',hl⟩
  cases hb
  have fin:(Builtin.Tuple.tupleCompareSizes .Lt its.toArray.size its2.toArray.size) = .bool (o == .lt):=by
   show Value.bool (decide (its.toArray.size < its2.toArray.size)) = _
   rw [Qf,Qf]
   cases xs with
   | nil=>
    rw [q1.nil] at hc'
    cases ys with
    | nil=>
     rw [q2.nil] at hc'
     cases hc'
     rw [Qr (by simp at hl;omega)];rfl
    | cons y ys=>
     obtain ⟨u,us'',rfl,_,_⟩:=q2.cons
     cases hc'
     rw [Qq (by simp only [Qm,length_nil] at hl;omega)];rfl
   | cons x xs=>
    obtain ⟨t,ts'',rfl,_,_⟩:=q1.cons
    cases ys with
    | nil=>
     rw [q2.nil] at hc'
     cases hc'
     rw [Qr (by simp only [Qm,length_nil] at hl;omega)];rfl
    | cons y ys=>rw [zip_cons_cons] at hz;cases hz
  dsimp only
  rw [fin]
  exact Qc h
theorem znq:∀ (d:Nat) {A:Around} {t u:T} {o:Ordering},A.units + d < cLine->cmT d t u = some o->∀ {x y:Value},TV s.heap t x->TV s.heap u y->SeqAt.EqAt A s x y (o == .eq)/\zjA A s x y (o == .lt):=by
 have int:∀ {A:Around} (a b:Int) {x y:Value},TV s.heap (.int a) x->TV s.heap (.int b) y->SeqAt.EqAt A s x y (cmI a b == .eq)/\zjA A s x y (cmI a b == .lt):=by
  intro A a b x y r1 r2
  cases r1
  cases r2
  refine ⟨fun prog w E Q h=>wpAny_eqBool_int ?_,fun prog w E Q h=>L2.int_lt ?_⟩
  ·have:(a == b) = (cmI a b == .eq):=by
    unfold cmI
    by_cases h1:a < b
    ·rw [if_pos h1];have:(a == b) = false:=by simpa using Int.ne_of_lt h1
     rw [this];rfl
    ·rw [if_neg h1]
     by_cases h2:b < a
     ·rw [if_pos h2];have:(a == b) = false:=by simpa using (Int.ne_of_lt h2).symm
      rw [this];rfl
     ·rw [if_neg h2,show a = b by omega];simp
   rw [this];exact h
  ·have:decide (a < b) = (cmI a b == .lt):=by
    unfold cmI
    by_cases h1:a < b
    ·rw [if_pos h1,Qq h1];rfl
    ·rw [if_neg h1,Qr h1]
     by_cases h2:b < a
     ·rw [if_pos h2];rfl
     ·rw [if_neg h2];rfl
   rw [this];exact h
 intro d
 induction d with
 | zero=>
  intro A t u o hu h x y r1 r2
  rcases yK h with ⟨a,b,rfl,rfl,rfl⟩ | ⟨e,xs,ys,h1,_⟩
  ·exact int a b r1 r2
  ·cases h1
 | succ d ih=>
  intro A t u o hu h x y r1 r2
  have same:=fun (z:t = u)=>zk8 (z ▸ h)
  rcases yK h with ⟨a,b,rfl,rfl,rfl⟩ | ⟨e,xs,ys,h1,rfl,rfl,hL⟩
  ·exact int a b r1 r2
  ·cases h1
   have r1':=r1
   have r2':=r2
   cases r1 with
   | @tup _ a its ho hl hr=>
   cases r2 with
   | @tup _ b its2 ho2 hl2 hr2=>
   have hu1:A.in1.units + d < cLine:=by show A.units + 1 + d < cLine;omega
   have ih1:=fun {t u:T} {o:Ordering} (q:cmT d t u = some o) {x y:Value} (k1:TV s.heap t x) (k2:TV s.heap u y)=>ih hu1 q k1 k2
   constructor
   ·by_cases hp:a = b
    ·subst hp
     rw [same (r1'.fn r2')]
     exact SeqAt.EqAt.same _
    ·obtain ⟨e,g1,g2⟩:=zfD hL
     rw [g2,hl,hl2]
     have:=SeqAt.RcAt.tuples (e:=fun j=>e j == .eq) ho ho2 (by omega) (A:=A) fun j h1 h2=>by
      have h1':j < its.length:=by simpa using h1
      have h2':j < its2.length:=by simpa using h2
      simp only [getElem_toArray]
      exact (ih1 (g1 j _ _ (Q0 (by omega)) (Q0 (by omega))) (hr j _ _ (Q0 (by omega)) (Q0 h1')) (hr2 j _ _ (Q0 (by omega)) (Q0 h2'))).1
     simp only [Qf] at this
     exact SeqAt.EqAt.of_refs hp this
   ·intro prog w E Q hQ
    have ta:s.TypeIs (.ref a) "tuple":=by obtain ⟨o,ho,hc,_⟩:=ho;exact ⟨o,ho,hc⟩
    have tb:s.TypeIs (.ref b) "tuple":=by obtain ⟨o,ho,hc,_⟩:=ho2;exact ⟨o,ho,hc⟩
    exact wpAny_richCompare_same_room (op:=.Lt) ta tb F.slot_tuple_lt (wpAny_call_entry F.slot_tuple_lt ta F.entry_tuple_lt (zkF ih1 ho ho2 ⟨hl,hr⟩ ⟨hl2,hr2⟩ hL ⟨_,rfl,(fun e=>nomatch e),hQ⟩) (F.args_tuple_lt_2 _ _)) (by omega)
end
noncomputable def zao (h:Heap) (v:Value):T:=@dite T (∃ t,TV h t v) (Classical.propDecidable _) (fun hx=>Classical.choose hx) fun _=>.non
theorem yB (r:TV h t v):zao h v = t:=by
 have hx:∃ t,TV h t v:=⟨t,r⟩
 unfold zao
 rw [dif_pos hx]
 exact (Classical.choose_spec hx).fn r
noncomputable def zd7 (b:Bool):T->Prop
 | .tup (.int _ :: _)=>b = true
 | .tup (.tup _ :: _)=>b = false
 | _=>False
theorem zg8 (b:Bool) (x y:Value):keyLt' (tuples' b) x y = (do
  let xs ← Builtin.List.listItems x;let ys ← Builtin.List.listItems y
  for ((p,q),i) in (xs.toList.zip ys.toList).zipIdx do
   if !(← eqBool p q) then return ← oneLt' (b && i == 0) p q
  return xs.size < ys.size):=rfl
theorem zif (v:Value):firstOfTuple' v = (do
  if (← typeOf v) != .type "tuple" then return none
  return (← Builtin.List.listItems v)[0]?):=rfl
section
theorem zdf {a:Addr} {its:Array Value} {Q:Array Value->Shared->Prop} (h:s.heap.IsTuple a its) (hQ:Q its s):wpAny (model prog w) A (Builtin.List.listItems (.ref a)) Q E s:=by
 obtain ⟨⟨cls,dd,data,sl⟩,ho,hc,n,hd⟩:=h
 simp only at hc hd
 subst hc hd
 exact listItems_at ho rfl hQ
theorem zdH {α:Type} {f:Value->Sem α} {R:Value->α->Prop}:∀ {l:List Value} {Q:List α->Shared->Prop},(∀ v ∈ l,∃ a,R v a/\∀ Q:α->Shared->Prop,Q a s->wpAny (model prog w) A (f v) Q E s)->
  (∀ as:List α,as.length = l.length->(∀ a ∈ as,∃ v ∈ l,R v a)->Q as s)->wpAny (model prog w) A (l.mapM f) Q E s
 | [],Q,_,h=>by rw [List.mapM_nil];exact Qc (h [] rfl fun a ha=>by cases ha)
 | v :: l,Q,hf,h=>by
  rw [List.mapM_cons]
  obtain ⟨a,ra,wa⟩:=hf v (mem_cons_self ..)
  refine Q1 (wa _ (Q1 (zdH (fun v hv=>hf v (mem_cons_of_mem _ hv)) fun as hl has=>Qc (h _ (by simp [hl]) fun b hb=>?_))))
  rcases mem_cons.mp hb with rfl | hb
  ·exact ⟨v,mem_cons_self ..,ra⟩
  ·obtain ⟨v',h1,h2⟩:=has b hb
   exact ⟨v',mem_cons_of_mem _ h1,h2⟩
noncomputable def tyB (b:Bool):Value:=if b then .type "int" else .type "tuple"
theorem zja {b:Bool} {vs:List Value} {Q:SortKind->Shared->Prop} (r:TVs s.heap ts vs) (hf:∀ t ∈ ts,zd7 b t) (hn:0 < vs.length) (h:Q (tuples' b) s):wpAny (model prog w) A (keyKind' vs.toArray) Q E s:=by
 rw [keyKind'_eq,List.mapM_toArray]
 refine Q1 (wpAny_map (zdH (R:=fun _ a=>∃ x,a = some x/\s.TypeIs x (if b then "int" else "tuple")) (fun v hv=>?_) fun as hl has=>?_))
 ·obtain ⟨i,hi⟩:=mem_iff_getElem?.mp hv
  have hi':=(List.getElem?_eq_some_iff.mp hi).1
  have et:ts[i]? = some (ts[i]'(by rw [r.1];exact hi')):=Q0 _
  have hb:=hf _ (Q8 et)
  have hv:=r.2 i _ _ et hi
  generalize ts[i]'(by rw [r.1];exact hi') = t at hb hv
  cases hv with
  | int n k=>cases hb
  | @tup us a its ho hl hr=>
   cases us with
   | nil=>cases hb
   | cons u us=>
    cases its with
    | nil=>cases hl
    | cons x its=>
     have hx:=hr 0 u x rfl rfl
     refine ⟨some x,⟨x,rfl,?_⟩,fun Q hQ=>?_⟩
     ·cases hx with
      | int n k=>have hb:b = true:=hb;subst hb;exact typeIs_int s n k
      | tup ho' _ _=>have hb:b = false:=hb;subst hb;obtain ⟨o,h1,h2,_⟩:=ho';exact ⟨o,h1,h2⟩
     ·rw [zif]
      refine Q1 (wpAny_typeOf (T:="tuple") (by obtain ⟨o,h1,h2,_⟩:=ho;exact ⟨o,h1,h2⟩) ?_)
      rw [if_neg (by decide)]
      exact Q1 (zdf ho (Qc hQ))
 ·have h1:as.toArray.all (fun x=>x.isSome) = true:=by
   simp only [List.all_toArray,all_eq_true]
   intro a ha
   obtain ⟨_,_,x,rfl,_⟩:=has a ha
   rfl
  rw [if_pos h1]
  refine Q1 (wpAny_rule ?_)
  refine Q1 ?_
  rw [oneTypeOnly'_eq,List.filterMap_toArray,List.mapM_toArray]
  refine Q1 (wpAny_map (zdH (R:=fun _ a=>a = tyB b) (fun v hv=>?_) fun as' hl' has'=>?_))
  ·obtain ⟨a,ha,e⟩:=mem_filterMap.mp hv
   obtain ⟨_,_,x,rfl,tx⟩:=has a ha
   cases e
   refine ⟨tyB b,rfl,fun Q hQ=>?_⟩
   cases b
   ·exact wpAny_typeOf (T:="tuple") tx hQ
   ·exact wpAny_typeOf (T:="int") tx hQ
  ·have hlen:as'.length = vs.length:=by
    rw [hl',← hl]
    have:∀ l:List (Option Value),(∀ a ∈ l,a.isSome = true)->(l.filterMap id).length = l.length:=by
     intro l
     induction l with
     | nil=>intro _;rfl
     | cons a l ih=>
      intro h
      have:=h a (mem_cons_self ..)
      cases a with
      | none=>cases this
      | some x=>simp [filterMap_cons,ih fun a ha=>h a (mem_cons_of_mem _ ha)]
    exact this as fun a ha=>by obtain ⟨_,_,x,rfl,_⟩:=has a ha;rfl
   have e0:as'.toArray[0]? = some (tyB b):=by
    cases as' with
    | nil=>simp at hlen;omega
    | cons a as'=>obtain ⟨_,_,e⟩:=has' a (mem_cons_self ..);simp [e]
   rw [e0]
   dsimp only
   have e1:(as'.toArray.all fun x=>x == tyB b) = true:=by
    simp only [List.all_toArray,all_eq_true]
    intro a ha
    obtain ⟨_,_,e⟩:=has' a ha
    rw [e];exact Qs _
   rw [if_pos e1]
   refine Qc (Qc ?_)
   have:(Option.any (fun x=>x != Value.type "tuple") (some (tyB b))) = b:=by cases b <;> rfl
   rw [this];exact h
theorem zhX {b:Bool} {u:T} {y:Value} {Q:Bool->Shared->Prop} (hu:A.units + d < cLine) (hc:cmT d t u = some o) (ft:zd7 b t) (r1:TV s.heap t x) (r2:TV s.heap u y)
 (h:Q (o == .lt) s):wpAny (model prog w) A (keyLt' (tuples' b) x y) Q E s:=by
 rcases yK hc with ⟨a,b,rfl,rfl,rfl⟩ | ⟨e,ts,us,rfl,rfl,rfl,hL⟩
 ·cases ft
 cases r1 with
 | @tup _ a its ho hl hr=>
 cases r2 with
 | @tup _ b' its2 ho2 hl2 hr2=>
 rw [zg8]
 refine Q1 (zdf ho (Q1 (zdf ho2 ?_)))
 refine Q1 (wpAny_forIn_list _ (fun rest c s'=>c.1 = none/\s' = s/\∃ (ts' us':List T) (xs ys:List Value) (i:Nat),rest = (List.zip xs ys).zipIdx i/\TVs s.heap ts' xs/\TVs s.heap us' ys/\cmL (cmT e) ts' us' = some o/\its.length + ys.length = its2.length + xs.length/\(i = 0->b = true->ts' = ts)) _ ?_ ?_ _ _ ⟨rfl,rfl,ts,us,its,its2,0,rfl,⟨hl,hr⟩,⟨hl2,hr2⟩,hL,by omega,fun _ _=>rfl⟩)
 ·rintro ⟨⟨x,y⟩,j⟩ rest ⟨b1,b2⟩ s' ⟨hb,rfl,ts',us',xs,ys,i,hz,q1,q2,hc',hl,h0⟩
  cases xs with
  | nil=>cases hz
  | cons x' xs=>
  cases ys with
  | nil=>cases hz
  | cons y' ys=>
  rw [zip_cons_cons,zipIdx_cons] at hz
  injection hz with hxy hz
  cases hxy
  obtain ⟨t,ts'',rfl,k1,q1⟩:=q1.cons
  obtain ⟨u,us'',rfl,k2,q2⟩:=q2.cons
  obtain ⟨a1,b1',e1,e2,e3⟩:=zb7 hc'
  obtain ⟨g1,g2⟩:=znq e (A:=A) (by omega) e1 k1 k2
  refine Q1 (g1 prog w _ _ ?_)
  cases hb
  by_cases ha:a1 = .eq
  ·subst ha
   rw [if_pos rfl] at e3
   subst e3
   simp only [BEq.rfl,Bool.not_true,Bool.false_eq_true,if_false]
   exact Qc ⟨rfl,rfl,ts'',us'',xs,ys,j + 1,hz,q1,q2,e2,by simp only [Qm] at hl;omega,fun h=>by omega⟩
  ·have:(a1 == Ordering.eq) = false:=by simpa using ha
   rw [if_neg ha] at e3
   subst e3
   simp only [this,Bool.not_false,if_true]
   refine Q1 ?_
   by_cases hi:(b && j == 0) = true
   ·rw [hi]
    have hi':b = true/\j = 0:=by simpa using hi
    have e4:=h0 hi'.2 hi'.1
    subst e4
    have hb:=hi'.1
    subst hb
    rcases yK e1 with ⟨m,n,rfl,rfl,rfl⟩ | ⟨e',ts3,us3,rfl,rfl,rfl,_⟩
    ·cases k1
     cases k2
     refine oneLt_int ?_
     refine Qc (Qc ?_)
     have:decide (m < n) = (cmI m n == .lt):=by
      unfold cmI
      by_cases h1:m < n
      ·rw [if_pos h1,Qq h1];rfl
      ·rw [if_neg h1,Qr h1]
       by_cases h2:n < m
       ·rw [if_pos h2];rfl
       ·rw [if_neg h2];rfl
     rw [this];exact h
    ·cases ft
   ·have hi':(b && j == 0) = false:=by simpa using hi
    rw [hi',oneLt'_eq]
    simp only [Bool.false_eq_true,if_false]
    refine Q1 (g2 prog w _ _ (wpAny_truthy_bool ?_))
    exact Qc (Qc h)
 ·rintro ⟨b1,b2⟩ s' ⟨hb,rfl,ts',us',xs,ys,i,hz,q1,q2,hc',hl,_⟩
  cases hb
  have fin:decide (its.toArray.size < its2.toArray.size) = (o == .lt):=by
   rw [Qf,Qf]
   cases xs with
   | nil=>
    rw [q1.nil] at hc'
    cases ys with
    | nil=>
     rw [q2.nil] at hc'
     cases hc'
     rw [Qr (by simp at hl;omega)];rfl
    | cons y ys=>
     obtain ⟨u,us'',rfl,_,_⟩:=q2.cons
     cases hc'
     rw [Qq (by simp only [Qm,length_nil] at hl;omega)];rfl
   | cons x xs=>
    obtain ⟨t,ts'',rfl,_,_⟩:=q1.cons
    cases ys with
    | nil=>
     rw [q2.nil] at hc'
     cases hc'
     rw [Qr (by simp only [Qm,length_nil] at hl;omega)];rfl
    | cons y ys=>rw [zip_cons_cons,zipIdx_cons] at hz;cases hz
  dsimp only
  rw [fin]
  exact Qc h
end
end FT
namespace FT
open PySem PySem.Spec PyProof.Rows PySem.Calls
variable {h:Heap} {ts:List T} {vs:List Value} {d:Nat}
section
variable {prog:Program} {w:World} {A:Around} {E:Value->Shared->Prop} {s:Shared}
theorem TVs.mono {h':Heap} (hm:∀ b its,h.IsTuple b its->h'.IsTuple b its) (r:TVs h ts vs):TVs h' ts vs:=⟨r.1,fun i t v h1 h2=>(r.2 i t v h1 h2).mono hm⟩
theorem TVs.mem (r:TVs h ts vs) {v:Value} (hv:v ∈ vs):∃ t ∈ ts,TV h t v:=by
 obtain ⟨i,hi⟩:=mem_iff_getElem?.mp hv
 have hi':=(List.getElem?_eq_some_iff.mp hi).1
 have et:ts[i]? = some (ts[i]'(by rw [r.1];exact hi')):=Q0 _
 exact ⟨_,Q8 et,r.2 i _ _ et hi⟩
theorem zeH {a:Addr} {n:Nat} {b:Bool} {P:PySem.Fin->Shared->Prop} (ho:s.heap.get? a = some (seqObj "list" vs.toArray n))
 (r:TVs s.heap ts vs) (hf:∀ t ∈ ts,zd7 b t) (hc:∀ t ∈ ts,∀ u ∈ ts,(cmT d t u).isSome) (hu:A.units + d < cLine) (hz:vs.length<=sizeLine)
 (h:∀ (out:Array Value),out.toList.Perm vs->out.toList.Pairwise (fun x y=>qV (code d (zao s.heap x)) (code d (zao s.heap y)) = true)->P (.done (.ret .none)) { s with heap:=sortedHeap s.heap a vs out }) :
  wpAny (model prog w) A (Builtin.«list.sort» ⟨[.ref a],[]⟩) P E s:=by
 rw [list_sort_plain]
 have ha:a < s.heap.objs.size:=Qb ho
 have hsz:vs.toArray.size = vs.length:=by simp
 refine Q1 (listItems_at ho rfl ?_)
 refine Q1 (listUpdate_at ho rfl ?_ (by rw [hsz];exact hz) (Nat.zero_le _))
 obtain ⟨e1,ho1⟩:∃ e1,(s.heap.update a (Obj.mapSeq fun _=>#[])).get? a = some (seqObj "list" #[] e1):=⟨_,get?_update_seq ho (fun _=>#[])⟩
 refine Q1 (seqEpoch_at ho1 rfl ?_)
 refine Q1 (wpAny_newTuple ?_ (by simpa using hz))
 refine Q1 (wpAny_newList ?_)
 refine wpAny_holding ?_
 have ho6:(((s.heap.update a (Obj.mapSeq fun _=>#[])).push (seqObj "tuple" vs.toArray 0)).push (seqObj "list" #[] 0)).get? a = some (seqObj "list" #[] e1):=by
  rw [Heap.get?_push_ne _ _ _ (by rw [size_push',Heap.size_update];exact Qh (Nat.lt_succ_of_lt ha)),Heap.get?_push_ne _ _ _ (by rw [Heap.size_update];exact Qh ha)]
  exact ho1
 have mono:∀ b its,s.heap.IsTuple b its->(((s.heap.update a (Obj.mapSeq fun _=>#[])).push (seqObj "tuple" vs.toArray 0)).push (seqObj "list" #[] 0)).IsTuple b its:=by
  rintro b its ⟨o,h1,h2,n',h3⟩
  have hb:=Qb h1
  have hne:b ≠ a:=by
   rintro rfl
   rw [ho] at h1
   cases h1
   exact absurd (Value.type.inj h2) (by decide)
  refine ⟨o,?_,h2,n',h3⟩
  rw [Heap.get?_push_ne _ _ _ (by rw [size_push',Heap.size_update];exact Qh (Nat.lt_succ_of_lt hb)),Heap.get?_push_ne _ _ _ (by rw [Heap.size_update];exact Qh hb),Heap.get?_update_ne _ _ _ _ hne]
  exact h1
 generalize hH:(((s.heap.update a (Obj.mapSeq fun _=>#[])).push (seqObj "tuple" vs.toArray 0)).push (seqObj "list" #[] 0)) = H2 at ho6 mono
 have r2:=r.mono mono
 have hfin:∀ (out:Array Value),out.toList.Perm vs->out.toList.Pairwise (fun x y=>qV (code d (zao H2 x)) (code d (zao H2 y)) = true)->P (.done (.ret .none)) { s with heap:=H2.update a (Obj.mapSeq fun _=>out) }:=by
  intro out hp hw
  have:=h out hp (hw.imp_of_mem fun {x y} hx hy hxy=>by
   obtain ⟨t,_,rt⟩:=r.mem (hp.mem_iff.mp hx)
   obtain ⟨u,_,ru⟩:=r.mem (hp.mem_iff.mp hy)
   rw [yB rt,yB ru]
   rwa [yB (rt.mono mono),yB (ru.mono mono)] at hxy)
  rw [← hH];exact this
 show wpAny (model prog w) A _ P E { s with heap:=H2 }
 dsimp only
 by_cases h2:vs.toArray.size < 2
 ·rw [if_pos h2,if_pos h2]
  refine Q1 (Qc ?_)
  refine Q1 (Qc ?_)
  dsimp only
  refine Q1 (seqEpoch_at ho6 rfl ?_)
  have e:Array.map (fun x=>x.2) (vs.toArray.zip vs.toArray) = vs.toArray:=by
   apply Array.toList_inj.mp
   simp [map_snd_zip]
  refine Q1 (listUpdate_at ho6 rfl ?_ (Nat.zero_le _) (by
   show (Array.map (fun x=>x.2) (vs.toArray.zip vs.toArray)).size<=_
   rw [e,hsz];exact Nat.le_succ_of_le hz))
  simp only [bne_self_eq_false,Bool.false_eq_true,if_false]
  refine Qc ?_
  show P _ { s with heap:=H2.update a (Obj.mapSeq fun _=>Array.map (fun x=>x.2) (vs.toArray.zip vs.toArray)) }
  rw [e]
  refine hfin _ (List.Perm.refl _) ?_
  match vs,h2 with
  | [],_=>exact List.Pairwise.nil
  | [_],_=>exact List.pairwise_singleton ..
  | _ :: _ :: l,h2=>exact absurd h2 (by simp)
 ·rw [if_neg h2,if_neg h2]
  refine Q1 (zja (s:={ s with heap:=H2 }) r2 hf (by omega) ?_)
  let _:TG.KO:={ kf:=fun p=>rnk (ts.map (code d)) (code d (zao H2 p.1)),ik:=fun p=>∃ t ∈ ts,TV H2 t p.1,kq:=tuples' b }
  have _:TG.Srt prog w A E { s with heap:=H2 }:=⟨fun {st x y Q} hk ⟨t,ht,rt⟩ ⟨u,hu',ru⟩ hQ=>by
   have hk:kindOf st = tuples' b:=hk
   obtain ⟨o,hcm⟩:=Option.isSome_iff_exists.mp (hc t ht u hu')
   rw [lt'_eq]
   refine wpS_bind (wpS_get ?_)
   rw [hk]
   refine wpS_bind (wpS_lift (wpAny_attempt (zhX hu hcm (hf t ht) rt ru ⟨rfl,?_⟩)))
   refine wpS_pure ?_
   have:decide (rnk (ts.map (code d)) (code d (zao H2 x.1)) < rnk (ts.map (code d)) (code d (zao H2 y.1))) = (o == .lt):=by
    rw [yB rt,yB ru,zhG (mem_map.mpr ⟨t,ht,rfl⟩),zhi hcm]
   rw [← this];exact hQ⟩
  refine Q1 (Qd (TG.zbi (a0:=pairsOf vs) (st:=SortSt.mk' (tuples' b) (vs.toArray.zip vs.toArray) #[] 7 none)
   (Q:=fun _ st'=>(arrOf st').Perm (pairsOf vs)/\failedOf st' = none/\TG.SortedTo (arrOf st') (pairsOf vs).size)
   (fun p hp=>by
    rw [pairsOf_toList] at hp
    exact r2.mem (mem_zip_self hp).2) ⟨Array.Perm.refl _,rfl,rfl,rfl⟩ (by rw [pairsOf_size];omega) fun st' a1 a2 a3=>⟨a1,a2,a3⟩) ?_ fun _ _ e=>e)
  rintro ⟨⟨⟩,st'⟩ s' ⟨rfl,hp,hfl,hs⟩
  dsimp only
  refine Q1 (seqEpoch_at ho6 rfl ?_)
  refine Q1 (listUpdate_at ho6 rfl ?_ (Nat.zero_le _) (by
   have e:(Array.map (fun x=>x.2) (arrOf st')).size = vs.length:=(Array.size_map ..).trans (hp.size_eq.trans (pairsOf_size _))
   show (Array.map (fun x=>x.2) (arrOf st')).size<=_
   omega))
  rw [hfl]
  simp only [bne_self_eq_false,Bool.false_eq_true,if_false]
  refine Qc (hfin _ ?_ ?_)
  ·have hl:(arrOf st').toList.Perm (vs.zip vs):=by rw [← pairsOf_toList];exact Array.perm_iff_toList_perm.mp hp
   have:=hl.map (·.2)
   rw [map_snd_zip (Q3 _)] at this
   rw [Array.toList_map];exact this
  ·have hl:(arrOf st').toList.Perm (vs.zip vs):=by rw [← pairsOf_toList];exact Array.perm_iff_toList_perm.mp hp
   rw [pairwise_iff_getElem]
   intro i j hi hj hij
   have hi':i < (arrOf st').size:=by simpa using hi
   have hj':j < (arrOf st').size:=by simpa using hj
   have h1:=hs i j (Nat.le_of_lt hij) (by rw [← hp.size_eq];exact hj')
   have kk:∀ k,(hk:k < (arrOf st').size)->TG.K (arrOf st') k = rnk (ts.map (code d)) (code d (zao H2 (arrOf st')[k].1)):=by
    intro k hk
    unfold TG.K
    rw [getElem?_pos _ k hk]
    rfl
   rw [kk i hi',kk j hj'] at h1
   have mm:∀ k,(hk:k < (arrOf st').size)->(arrOf st')[k].1 = (arrOf st')[k].2/\∃ t ∈ ts,TV H2 t (arrOf st')[k].1:=by
    intro k hk
    have:=mem_zip_self (hl.mem_iff.mp (show (arrOf st')[k] ∈ (arrOf st').toList by simp))
    exact ⟨this.1,r2.mem this.2⟩
   obtain ⟨m1,t,ht,rt⟩:=mm i hi'
   obtain ⟨m2,u,hu',ru⟩:=mm j hj'
   simp only [Array.toList_map,List.getElem_map,Array.getElem_toList]
   rw [← m1,← m2]
   rw [yB rt,yB ru] at h1 ⊢
   unfold qV
   rw [zbA (code d u) (code d t)]
   have h3:=zhG (c:=code d u) (c':=code d t) (L:=ts.map (code d)) (mem_map.mpr ⟨u,hu',rfl⟩)
   rw [Qr (by omega)] at h3
   cases q:lx (code d u) (code d t) with
   | lt=>rw [q] at h3;exact absurd h3 (by decide)
   | eq=>rfl
   | gt=>rfl
theorem zgL {l:Addr} {b:Bool} {Q:Value->Shared->Prop} (hl:s.heap.IsList l vs.toArray) (r:TVs s.heap ts vs) (hf:∀ t ∈ ts,zd7 b t) (hc:∀ t ∈ ts,∀ u ∈ ts,(cmT d t u).isSome) (hu:A.units + 2 + d < cLine) (hz:vs.length<=sizeLine)
 (h:∀ (out:Array Value),out.toList.Perm vs->out.toList.Pairwise (fun x y=>qV (code d (zao s.heap x)) (code d (zao s.heap y)) = true)->Q (.ref (s.heap.objs.size + 1)) { s with heap:=sortedAll s.heap vs out }) :
  wpAny (model prog w) A (call (.builtin "sorted") [.ref l]) Q E s:=by
 refine Calls.call_function_entry kind_sorted plain_sorted entry_sorted (args_sorted1 _) ?_
 unfold Builtin.«sorted»
 refine Q1 (m:=checkCount "sorted" 1 1 _) (Qc ?_)
 refine Q1 (collect_list hl ?_ hz)
 refine Q1 (wpAny_newList ?_ hz)
 have hsz:((s.heap.push (seqObj "list" #[] 0)).update s.heap.objs.size (Obj.mapSeq (· ++ vs.toArray))).objs.size = s.heap.objs.size + 1:=by
  rw [Heap.size_update,size_push']
 have hoL:(((s.heap.push (seqObj "list" #[] 0)).update s.heap.objs.size (Obj.mapSeq (· ++ vs.toArray))).push (seqObj "list" vs.toArray 0)).get? (s.heap.objs.size + 1) = some (seqObj "list" vs.toArray 0):=by
  rw [← hsz];exact Qi _ rfl
 have mono:∀ b its,s.heap.IsTuple b its->(((s.heap.push (seqObj "list" #[] 0)).update s.heap.objs.size (Obj.mapSeq (· ++ vs.toArray))).push (seqObj "list" vs.toArray 0)).IsTuple b its:=by
  rintro b its ⟨o,h1,h2,n',h3⟩
  have hb:=Qb h1
  refine ⟨o,?_,h2,n',h3⟩
  rw [Heap.get?_push_ne _ _ _ (by rw [hsz];exact Qh (Nat.lt_succ_of_lt hb)),Heap.get?_update_ne _ _ _ _ (Qh hb),Heap.get?_push_ne _ _ _ (Qh hb)]
  exact h1
 show wpAny _ _ _ _ _ { s with heap:=((s.heap.push (seqObj "list" #[] 0)).update s.heap.objs.size (Obj.mapSeq (· ++ vs.toArray))).push (seqObj "list" vs.toArray 0) }
 rw [hsz]
 refine Q1 (wpAny_holding (wpAny_call_entry slot_list_sort ⟨_,hoL,rfl⟩ entry_list_sort (zeH hoL (r.mono mono) hf hc ?_ hz fun out a1 a2=>⟨_,rfl,?_⟩) (args_list_sort _)))
 ·show A.units + 1 + 1 + d < cLine
  omega
 ·exact Qc ⟨_,rfl,h out a1 (a2.imp_of_mem fun {x y} hx hy hxy=>by
   obtain ⟨t,_,rt⟩:=r.mem (a1.mem_iff.mp hx)
   obtain ⟨u,_,ru⟩:=r.mem (a1.mem_iff.mp hy)
   rw [yB rt,yB ru]
   rwa [yB (rt.mono mono),yB (ru.mono mono)] at hxy)⟩
end
end FT
namespace L2
open PySem PySem.Spec PyProof.Rows
variable {l:Addr} {ss:List Nat} {its:List Value}
section
variable {prog:Program} {w:World} {A:Around} {I:Addr} {fp wr:List Addr} {G:Array GenState->Array GenState->Prop} {n:Nat} {P:Nat->Value->Prop} {St:Nat->Shared->Prop} {R:Result->Shared->Prop}
def SetN (w:World) (h:Heap) (a:Addr) (ks:List Nat):Prop:=∃ m,DSet w h a ks m
theorem SetN.keep {h h':Heap} {a:Addr} {ks:List Nat} (x:SetN w h a ks) (k:∀ o,h.get? a = some o->h'.get? a = some o):SetN w h' a ks:=by
 obtain ⟨m,o,es,ep,t,ho,r⟩:=x
 exact ⟨m,o,es,ep,t,k _ ho,r⟩
theorem zhU (W:WalksS prog w A.in1 I fp wr G ss.length P St) (S:Addr) (hS:S ∉ fp) (hP:∀ i v,P i v->∃ x t,ss[i]? = some x/\v = .int (x:Int) t) (hn:∀ n ∈ ss,n < 6) :
  ∀ (k i:Nat) (s:Shared),ss.length - i = k->i<=ss.length->St i s->SetN w s.heap S (zz [] (ss.take i))->
  (∀ s',Moved (S :: wr) G s s'->SetN w s'.heap S (zz [] ss)->R (.ok (.ret .none)) s')->
  codeAny (model prog w) A (.builtin "set.update.loop" ⟨[.ref S,.ref I],[]⟩) R s:=by
 have hDw:S ∉ wr:=fun h=>hS (W.sub _ h)
 have hsub:∀ b ∈ wr,b ∈ S :: wr:=fun b hb=>mem_cons_of_mem _ hb
 intro k
 induction k with
 | zero=>
  intro i s hk hi hst hD hR
  have hin:i = ss.length:=by omega
  subst hin
  refine codeAny_builtin F.entry_set_update_loop ?_
  rw [Around.under_plainId F.plain_set_update_loop _]
  show wpAny _ A.in1 (pyNext (.ref I) >>= _) _ _ s
  refine Q1 (W.done s _ _ hst fun s' hm=>?_)
  rw [take_length] at hD
  exact Qc (hR s' (hm.mono hsub) (hD.keep fun o e=>hm.heap S _ hDw e))
 | succ k ih=>
  intro i s hk hi hst hD hR
  have hlt:i < ss.length:=by omega
  refine codeAny_builtin F.entry_set_update_loop ?_
  rw [Around.under_plainId F.plain_set_update_loop _]
  show wpAny _ A.in1 (pyNext (.ref I) >>= _) _ _ s
  refine Q1 (W.item i s _ _ hlt hst fun v s' hPv hst' hm=>?_)
  obtain ⟨x,t,hx,rfl⟩:=hP i v hPv
  have hD':SetN w s'.heap S (zz [] (ss.take i)):=hD.keep fun o e=>hm.heap S _ hDw e
  dsimp only
  refine Q1 (wpAny_holding ?_)
  unfold setAdd
  have hx6:=hn x (Q8 hx)
  refine wpAny_holding (Q1 ((PySem.intKind prog w).pyHash (k:=(x:Int)) (by simp [PySem.intKind,Value.isInt]) ?_))
  show wpAny _ _ (setAddHashed S _ (hashInt (x:Int))) _ _ _
  rw [zaq hx6]
  obtain ⟨m,hD'⟩:=hD'
  refine zjs (s:={ s' with toks:=s'.toks + 1 }) hD' hx6 fun b h' m' hs hd=>?_
  refine Qc ⟨plainId_quiet F.plain_set_update_loop _,?_⟩
  have kp:∀ b o,b ∉ S :: wr->s'.heap.get? b = some o->h'.get? b = some o:=fun b o hb e=>(hs.2 b fun z=>hb (z ▸ mem_cons_self)).trans e
  have hd2:SetN w h' S (zz [] (ss.take (i + 1))):=⟨m',by rw [zf1 hx];exact hd⟩
  exact ih (i + 1) { s' with heap:=h',toks:=s'.toks + 1 } (by omega) hlt (W.frame _ s' _ _ hst' (Nat.le_succ _) fun b hb o e=>(hs.2 b fun z=>hS (z ▸ hb)).trans e) hd2 fun s2 hm2 hD3=>hR s2 (Moved.trans W.gtrans ((hm.mono hsub).then_heap (Nat.le_succ _) kp) hm2) hD3
variable {E:Value->Shared->Prop} {s:Shared}
theorem ziI {S:Addr} {nm:String} {Q:Unit->Shared->Prop} (hh:A.handled = none) (hl:s.heap.IsList l its.toArray) (hs:SetN w s.heap S []) (hlen:its.length = ss.length) (hv:∀ (i:Nat) v,its[i]? = some v->∃ x t,ss[i]? = some x/\v = .int (x:Int) t) (hn:∀ n ∈ ss,n < 6) (hSl:l ≠ S)
 (h:∀ h' tk,SetN w h' S (zz [] ss)->(∀ b o,b ≠ S->s.heap.get? b = some o->h'.get? b = some o)->Q () { s with heap:=h',toks:=tk }) :
  wpAny (model prog w) A (Builtin.Frozenset.updateFrom nm S (.ref l)) Q E s:=by
 obtain ⟨o,ho,hc,c⟩:=hl
 have hT:s.TypeIs (.ref l) "list":=⟨o,ho,hc⟩
 unfold Builtin.Frozenset.updateFrom
 refine Q1 (zf7 hT ?_)
 rw [if_neg (by simp)]
 refine Q1 (wpAny_typeOf hT ?_)
 rw [if_neg (by decide)]
 refine Q1 (wpAny_pyIter_list ⟨o,ho,hc,c⟩ ?_)
 have hllt:l < s.heap.objs.size:=Qb ho
 have hSlt:S < s.heap.objs.size:=by
  obtain ⟨_,hs⟩:=hs
  exact hs.lt
 have W:=(Walks.list (prog:=prog) (w:=w) (A:=A.in1) hh s.heap.objs.size l (Qh hllt) its.toArray).toS
 refine Q1 (wpAny_runValue ?_)
 rw [show its.toArray.size = ss.length by simpa using hlen] at W
 refine zhU (ss:=ss) (A:=A) (I:=s.heap.objs.size) W S (by
  intro z
  rcases mem_cons.mp z with z | z
  ·exact absurd z (Qh hSlt)
  ·exact hSl (mem_singleton.mp z).symm) (fun i v e=>hv i v (by simpa using e)) hn ss.length 0 _ (by omega) (Nat.zero_le _) ⟨⟨_,Qi _ rfl,rfl,rfl⟩,?_⟩ ?_ fun s' hm hd=>?_
 ·exact ⟨o,Q2 _ ho,hc,c⟩
 ·exact hs.keep fun o e=>Q2 _ e
 ·obtain ⟨h',g',d',tk',o'⟩:=s'
  have x1:g' = s.gens:=hm.gens
  have x2:d' = s.drawn:=hm.drawn
  have x3:o' = s.os:=hm.os
  subst x1 x2 x3
  refine Qc (h h' tk' hd fun b o hb e=>hm.heap b o (fun z=>?_) (Q2 _ e))
  rcases mem_cons.mp z with z | z
  ·exact hb z
  ·exact absurd (mem_singleton.mp z) (Qh (Qb e))
theorem ziM (h:Heap):SetN w (h.push (yX w)) h.objs.size []:=⟨7,zjr h⟩
set_option maxRecDepth 100000 in
set_option maxHeartbeats 3200000 in
theorem zis {Q:Value->Shared->Prop} (hh:A.handled = none) (hl:s.heap.IsList l its.toArray) (hlen:its.length = ss.length) (hv:∀ (i:Nat) v,its[i]? = some v->∃ x t,ss[i]? = some x/\v = .int (x:Int) t) (hn:∀ n ∈ ss,n < 6)
 (h:∀ h' tk,(∀ b o,s.heap.get? b = some o->h'.get? b = some o)->SetN w h' s.heap.objs.size (zz [] ss)->Q (.ref s.heap.objs.size) { s with heap:=h',toks:=tk }) :
  wpAny (model prog w) A (call (.type "set") [.ref l]) Q E s:=by
 obtain ⟨c,tl,hmro⟩:=PySem.F.called_set.mro
 have hmade:=PySem.F.called_set.made
 have hsub:=PySem.F.called_set.sub
 refine wpAny_call (codeAny_of_tree ?_)
 show wpAny _ _ (callAny (.type "set") _) _ _ _
 refine Qc ⟨Code.quiet_builtin _ (by decide +kernel),codeAny_builtin PySem.F.entry_type_call ?_⟩
 rw [Around.under_plain (weight_type_call_type "set" [.ref l] []) rfl]
 have h1:=PySem.F.called_set.notType
 have h2:=PySem.F.called_set.canCreate
 have hct:=PySem.F.typeCall_set_1 (.ref l)
 repeat (any_goals (first | assumption | wp_step))
 refine codeAny_mono (zhh (.ref l) (E:=E) (Q₁:=fun obj s₁=>obj = .ref s.heap.objs.size/\s₁ = { s with heap:=s.heap.push (yX w) }) ⟨rfl,rfl⟩) fun r s₁ hr=>?_
 cases r with
 | error e=>exact hr
 | ok fl=>
  cases fl with
  | ret obj=>
   obtain ⟨rfl,rfl⟩:=hr
   have hS:(s.heap.push (yX w)).get? s.heap.objs.size = some (yX w):=Qi _ rfl
   have hT:Shared.TypeIs { s with heap:=s.heap.push (yX w) } (.ref s.heap.objs.size) "set":=⟨_,hS,rfl⟩
   have hli:=PySem.F.called_set.init.lookup
   have hbi:=PySem.F.called_set.init.bind (.ref s.heap.objs.size)
   repeat (any_goals (first | assumption | wp_step))
   refine codeAny_mono (codeAny_call_builtin (R:=wants (fun r s₂=>r = .none/\∃ h' tk,s₂ = { s with heap:=h',toks:=tk }/\(∀ b o,s.heap.get? b = some o->h'.get? b = some o)/\SetN w h' s.heap.objs.size (zz [] ss)) E) PySem.F.called_set.init.plain PySem.F.entry_set_init (check_set_init_1 hT ?_)) fun r₂ s₂ hr₂=>?_
   ·have hl':(s.heap.push (yX w)).IsList l its.toArray:=by
     obtain ⟨o,ho,c⟩:=hl
     exact ⟨o,Q2 _ ho,c⟩
    have hne:l ≠ s.heap.objs.size:=by
     obtain ⟨o,ho,c⟩:=hl
     exact Qh (Qb ho)
    unfold Builtin.«set.__init__» noKeywords
    have hU:=fun A' Q' E' hA h'=>ziI (prog:=prog) (w:=w) (A:=A') (E:=E') (s:={ s with heap:=s.heap.push (yX w) }) (S:=s.heap.objs.size) (nm:="set.__init__") (Q:=Q') hA hl' (ziM s.heap) hlen hv hn hne h'
    generalize Builtin.Frozenset.updateFrom = U at hU ⊢
    wp_walk
    refine hU _ _ _ hh fun h' tk ds kp=>Qc ⟨rfl,h',tk,rfl,fun b o e=>kp b o (Qh (Qb e)) (Q2 _ e),ds⟩
   ·cases r₂ with
    | error e=>exact hr₂
    | ok fl₂=>
     cases fl₂ with
     | ret r=>
      obtain ⟨rfl,h',tk,rfl,k1,k3⟩:=hr₂
      repeat (any_goals (first | assumption | wp_step))
      exact h _ _ k1 k3
     | _=>exact hr₂.elim
  | _=>exact hr.elim
end
end L2
namespace L2
open PySem PySem.Spec PySem.W PyProof.Rows PySem.Calls
theorem zhN {α β:Type} {f:α->β} {l:List α} {m:List β} (h:m.Perm (l.map f)):∃ l':List α,l'.Perm l/\l'.map f = m:=by
 generalize e:l.map f = k at h
 induction h generalizing l with
 | nil=>exact ⟨[],by rw [List.map_eq_nil_iff.mp e],rfl⟩
 | cons x _ ih=>
  cases l with
  | nil=>cases e
  | cons a l=>
   injection e with e1 e2
   obtain ⟨l',h1,h2⟩:=ih e2
   exact ⟨a :: l',h1.cons a,by rw [map_cons,h2,e1]⟩
 | swap x y r=>
  cases l with
  | nil=>cases e
  | cons a l=>
   injection e with e1 e2
   cases l with
   | nil=>cases e2
   | cons b l=>
    injection e2 with e2 e3
    exact ⟨b :: a :: l,List.Perm.swap ..,by rw [map_cons,map_cons,e1,e2,e3]⟩
 | trans _ _ ih1 ih2=>
  obtain ⟨l1,h1,h2⟩:=ih2 e
  obtain ⟨l2,h3,h4⟩:=ih1 h2
  exact ⟨l2,h3.trans h1,h4⟩
section
variable {X:Cx}
theorem zhl (hc:X.calm = true):CallR X (.type "set") (fun xs H Q=>∃ (p:Addr) (ns:List Nat),xs = [.ref p]/\SqL X.K H p ((hsh ns).map V.int)/\(∀ n ∈ ns,n < 6)/\∀ c,H c = none->Q (.ref c) (upd H c (zeW X.w c (zz [] ns)))):=by
 intro pins s σ H xs us Q I r h
 obtain ⟨p,ss,rfl,hq,hl,q⟩:=h
 obtain ⟨u,rfl,rx⟩:=vals1 r
 cases rx
 obtain ⟨its,r',pl,hz⟩:=I.list hq
 have hlen:ss.length = its.length:=by
  have:=r'.length
  unfold hsh at this
  simpa using this
 refine zis (ss:=ss) (I.ok.hd hc) pl.isList hlen.symm (fun i v e=>?_) hl fun h' tk k1 ds=>?_
 ·have hi:i < ss.length:=by have:=(List.getElem?_eq_some_iff.mp e).1;omega
  have e2:((hsh ss).map V.int)[i]? = some (V.int (ss[i]:Nat)):=by rw [Q9,zme,Q0 hi];rfl
  obtain ⟨u,hu,t,ht⟩:=Vals.get r' e2
  rw [e] at hu
  cases hu
  exact ⟨ss[i],t,Q0 hi,ht⟩
 ·obtain ⟨m,ds⟩:=ds
  exact ⟨.ref s.heap.objs.size,_,I.laid (t':=tk) k1 (Q3 _) (ziN ds),rfl,q _ I.fresh⟩
noncomputable def zmJ (to:TE):TE:=fun σ H Q=>to σ H fun x H1=>∃ (p:Addr) (kvs:List (Key × V)) (ns:List Int),x = .ref p/\Rd H1 p (.dK kvs)/\kvs.map (·.1) = ns.map Sum.inl/\∀ (l:Addr) (ns':List Int),H1 l = none->ns'.Perm ns->ns'.Pairwise (·<=·)->Q (.ref l) (upd H1 l (.lst (ns'.map V.int)))
theorem zkm {o:Expr} {to:TE} {p pos apos cpos:Pos} (hc:X.calm = true) (hg:Gl X "sorted") (hm:X.mg "sorted" = none) (ho:PE X o to) (hbase:attributeBase o "keys" X.env (eval o X.env) = eval o X.env:=by rfl) (hline:(apos.endLine == cpos.line) = true:=by rfl)
  (he:starEach [.Call (.Attribute o "keys" apos) [] [] cpos] X.env = [(false,eval (.Call (.Attribute o "keys" apos) [] [] cpos) X.env)]:=by rfl):PE X (.Call (.Name "sorted" p) [.Call (.Attribute o "keys" apos) [] [] cpos] [] pos) (zmJ to):=by
 intro pins s σ H Q I h
 refine wpAny_Call_Name_kw (zaX I hg hm (show bootBuiltins "sorted" = some (.builtin "sorted") by decide +kernel) ?_ (by decide) (by decide))
 refine PyProof.Rows.callWith_builtin1 ?_ he rfl
 rw [he]
 refine Calls.spliced_cons ?_
 refine wpAny_Call_method0_late hbase hline (thn (ho pins s σ H _ I h) fun v s1 ⟨x,H1,I1,r1,q1⟩=>?_)
 obtain ⟨d,kvs,ns,rfl,hd,hns,q⟩:=q1
 obtain ⟨h1,h2⟩:=zhy I1 r1 (show tyV X.K "dict" (.ref d) H1 from .inr (.inr (.inl ⟨rfl,.inl ⟨kvs,hd⟩⟩)))
 cases r1
 refine ⟨"dict","dict.keys",PySem.F.plainAttrs_dict,PySem.F.slot_dict_keys,PySem.F.type_dict_keys,h1,h2,Calls.callWith_builtin rfl (PySem.evalArgs_none ?_)⟩
 obtain ⟨z,hsys,vs,rel,dd⟩:=zcK I1.hok hd
 obtain ⟨ep,da⟩:=dd.dictAt
 have hl:=rel.length
 have hln:kvs.length = ns.length:=by have:=congrArg List.length hns;simpa using this
 refine call_meetsIn PySem.F.slot_dict_keys dd.typeIs PySem.F.entry_dict_keys (PySem.F.args_dict_keys_1 _) (kdl_meets_keys (yv X.prog X.w) d hsys) ⟨⟨_,dd⟩,?_⟩
 refine Calls.spliced_nil ?_
 have da1:Heap.DictAt (yv X.prog X.w) (s1.heap.push { cls:=.type "dict_keys",data:=.fields #[.ref d] }) d vs ep:=da.at' fun o e=>Q2 _ e
 have I2:Inv X pins σ H1 { s1 with heap:=s1.heap.push { cls:=.type "dict_keys",data:=.fields #[.ref d] } }:=I1.kept (t':=s1.toks) fun b o e=>Q2 _ e
 refine PySem.Calls.call_function_entry kind_sorted plain_sorted entry_sorted (args_sorted1 _) (show wpAny _ _ (Builtin.«sorted» _) _ _ _ from ?_)
 unfold Builtin.«sorted»
 refine Q1 (m:=checkCount "sorted" 1 1 _) (Qc (Q1 (zdC (kdl_keys (ep:=ep) (kvs:=vs) (r:=s1.heap.objs.size) (d:=d)) (I.ok.hd hc) ⟨⟨_,Qi _ rfl,rfl,rfl⟩,da1⟩ (by rw [← hl];exact z) fun h' tk acc hk hsz hacc=>?_)))
 have hla:acc.toList.length = ns.length:=by rw [Array.length_toList,hacc.1,← hl,hln]
 have hlz:acc.toList.length<=sizeLine:=by rw [hla,← hln];exact z
 refine Q1 (wpAny_newList ?_ hlz)
 have hI:IntsAre acc.toList ns:=by
  refine zcr (zag (by rw [Qe,hla]) fun i v w e1 e2=>?_)
  obtain ⟨k,x,e3,e4⟩:=hacc.2 i w (by simpa using e2)
  have e5:(vs.map (·.1))[i]? = some k:=by simp [e3]
  rw [← rel.keys,hns,Q9] at e5
  rw [Q9] at e1
  cases e6:ns[i]? with
  | none=>rw [e6] at e5;cases e5
  | some n=>
   rw [e6] at e5 e1
   cases e5;cases e1
   exact zkJ (k:=.inl n) e4
 have hoL:(h'.push (seqObj "list" acc.toList.toArray 0)).get? h'.objs.size = some (seqObj "list" acc.toList.toArray 0):=Qi _ rfl
 refine Q1 (wpAny_holding (wpAny_call_entry slot_list_sort ⟨_,hoL,rfl⟩ entry_list_sort (TS.zeI hoL hI hlz fun out ns' a1 a2 a3=>⟨_,rfl,?_⟩) (args_list_sort _)))
 obtain ⟨e,he⟩:=sortedHeap_at (out:=out) hoL
 refine Qc ⟨_,rfl,?_⟩
 refine ⟨.ref h'.objs.size,_,I2.laid (t':=tk) (fun b o e=>?_) hsz (show ObjOk X.prog X.w _ _ _ (.lst (ns'.map V.int)) from ⟨?_,out.toList,e,zbI a1,?_⟩),rfl,q _ ns' (I2.hok.fresh hsz) a2 a3⟩
 ·have hb:=Qb (hk b o e)
  show (sortedHeap _ _ _ _).get? b = some o
  rw [sortedHeap_old (Qh hb) (by rw [size_push'];exact Nat.lt_succ_of_lt hb),Heap.get?_push_ne _ _ _ (Qh hb)]
  exact hk b o e
 ·have:=a2.length_eq
  rw [Qe,this,← hln]
  exact z
 ·rw [Array.toArray_toList];exact he
end
end L2
namespace FT
open PySem PySem.Spec PyProof.Rows L2
def OkS (xs:List T):Prop:=(∃ b,∀ x ∈ xs,zd7 b x)/\∀ x ∈ xs,∀ y ∈ xs,(cmT 4 x y).isSome = true
noncomputable def zX:List T->Mem->Out (List T):=fun ts M=>match ts with
 | [t]=>match yq t M with
  | some xs=>@ite _ (OkS xs) (Classical.propDecidable _) (.ok (zcg 4 xs) M) .bad
  | none=>.bad
 | _=>.bad
noncomputable def natN:List Int->Option (List Nat)
 | []=>some []
 | i :: ks=>if 0<=i/\i < 6 then (natN ks).map (i.toNat :: ·) else none
theorem zgp:∀ {ks:List Int} {ns:List Nat},natN ks = some ns->ks = hsh ns/\∀ n ∈ ns,n < 6
 | [],ns,h=>by cases h;exact ⟨rfl,fun _ h=>by cases h⟩
 | i :: ks,ns,h=>by
  unfold natN at h
  split at h
  ·rename_i hi
   cases q:natN ks with
   | none=>rw [q] at h;cases h
   | some ms=>
    rw [q] at h
    cases h
    obtain ⟨e,hm⟩:=zgp q
    refine ⟨?_,fun n hn=>?_⟩
    ·unfold hsh at e ⊢
     rw [map_cons,← e,show ((i.toNat:Nat):Int) = i by omega]
    ·rcases mem_cons.mp hn with rfl | hn
     ·omega
     ·exact hm n hn
  ·cases h
noncomputable def za9:T->Mem->Out (List T):=fun t M=>match yq t M with
 | some xs=>match zdg xs with
  | some is=>match natN is with
   | some ns=>.ok ((hsh (zz [] ns)).map .int) M
   | none=>.bad
  | none=>.bad
 | none=>.bad
noncomputable def lUn (o:T->Mem->Out (List T)) (f:Ev->Mem->Out T):Ev->Mem->Out (List T):=fun σ M=>(f σ M).bind fun x M1=>o x M1
noncomputable def zch:T->Mem->Out (List T):=fun t M=>match zbe t M with
 | some kvs=>match zde (kvs.map (·.1)) with
  | some ns=>.ok ((zci ns).map .int) M
  | none=>.bad
 | none=>.bad
variable {X:Cx} {f:Ev->Mem->Out T} {o:Expr} {apos cpos p p1 p2 pos q1 q4:Pos} {XE:XK}
section
theorem zlm {pins:List (Addr × Obj)} {s:Shared} {σ:L2.St} {S:Sit} (I:L2.Inv X pins σ S.H s):∀ (d:Nat) {t:T} {v:V} {x:Value},(cmT d t t).isSome = true->Rep X.K S t v->RelV v x->TV s.heap t x:=by
 intro d
 induction d with
 | zero=>
  intro t v x h r rx
  obtain ⟨o,ho⟩:=Option.isSome_iff_exists.mp h
  rcases yK ho with ⟨a,b,rfl,_,_⟩ | ⟨e,xs,ys,h1,_⟩
  ·cases r;obtain ⟨k,rfl⟩:=rx;exact .int a k
  ·cases h1
 | succ d ih=>
  intro t v x h r rx
  obtain ⟨o,ho⟩:=Option.isSome_iff_exists.mp h
  rcases yK ho with ⟨a,b,rfl,_,_⟩ | ⟨e,xs,ys,h1,rfl,h3,hL⟩
  ·cases r;obtain ⟨k,rfl⟩:=rx;exact .int a k
  ·cases h1
   cases h3
   cases r with
   | @tup _ p vs h1 l1 r1=>
   cases rx
   obtain ⟨its,ri,pl,_⟩:=I.tuple h1
   obtain ⟨e,g1,_⟩:=zfD hL
   have hl:=ri.length
   refine .tup pl (by omega) fun i t v e1 e2=>?_
   have hi:i < vs.length:=by have:=(List.getElem?_eq_some_iff.mp e1).1;omega
   have ev:vs[i]? = some vs[i]:=Q0 hi
   obtain ⟨u,eu,ru⟩:=Vals.get ri ev
   rw [e2] at eu
   cases eu
   exact ih (by rw [g1 i t t e1 e1];rfl) (r1 i t _ e1 ev) ru
theorem zcu (hu:X.A.units + 64 < cLine):CallR X (.builtin "sorted") (zg7 XE X.K zX):=by
 intro pins s σ H xs us Q I r ⟨S,ts,e,m,rs,fin⟩
 subst e
 replace fin:FinL XE X.K S (zX ts S.M) Q:=fin
 unfold zX at fin
 split at fin
 ·split at fin
  ·rename_i t ys q
   by_cases hO:OkS ys
   ·rw [if_pos hO] at fin
    obtain ⟨⟨b,hf⟩,hcm⟩:=hO
    obtain ⟨v,vs,rfl,r1,r2⟩:=rs.consT
    rw [r2.nilT] at r
    obtain ⟨p,ws,rfl,hq,rs2⟩:=zq m r1 q
    obtain ⟨u,rfl,rx⟩:=vals1 r
    cases rx
    obtain ⟨its,r',pl,hz⟩:=I.list hq
    have hl1:=r'.length
    have hl2:=rs2.1
    have tvs:TVs s.heap ys its:=⟨by omega,fun i t x e1 e2=>by
     have hi:i < ws.length:=by have:=(List.getElem?_eq_some_iff.mp e1).1;omega
     have ev:ws[i]? = some ws[i]:=Q0 hi
     obtain ⟨u,eu,ru⟩:=Vals.get r' ev
     rw [e2] at eu
     cases eu
     have ht:=Q8 e1
     exact zlm I 4 (hcm t ht t ht) (rs2.2 i t _ e1 ev) ru⟩
    refine zgL pl.isList tvs hf hcm (by omega) (by omega) fun out hp hw=>?_
    have z2:(ys.zip (ws.zip its)).map (fun z=>z.2.2) = its:=by
     have:(ys.zip (ws.zip its)).map (fun z=>z.2.2) = ((ys.zip (ws.zip its)).map Prod.snd).map Prod.snd:=by rw [map_map];rfl
     rw [this,map_snd_zip (by rw [length_zip];omega),map_snd_zip (by omega)]
    have z0:(ys.zip (ws.zip its)).map (fun z=>z.1) = ys:=List.map_fst_zip (by rw [length_zip];omega)
    rw [← z2] at hp
    obtain ⟨Z,hZ,hZo⟩:=zhN hp
    have zm:∀ z ∈ Z,∃ i:Nat,ys[i]? = some z.1/\ws[i]? = some z.2.1/\its[i]? = some z.2.2:=by
     intro z hz
     obtain ⟨i,hi⟩:=mem_iff_getElem?.mp (hZ.mem_iff.mp hz)
     rw [List.getElem?_zip_eq_some,List.getElem?_zip_eq_some] at hi
     exact ⟨i,hi.1,hi.2.1,hi.2.2⟩
    have zr:∀ z ∈ Z,Rep X.K S z.1 z.2.1/\RelV z.2.1 z.2.2/\TV s.heap z.1 z.2.2:=by
     intro z hz
     obtain ⟨i,e1,e2,e3⟩:=zm z hz
     obtain ⟨u,eu,ru⟩:=Vals.get r' e2
     rw [e3] at eu
     cases eu
     exact ⟨rs2.2 i _ _ e1 e2,ru,tvs.2 i _ _ e1 e3⟩
    have hsrt:Z.map (fun z=>z.1) = zcg 4 ys:=by
     refine zjZ hcm ?_ ?_
     ·have:=hZ.map (fun z=>z.1)
      rwa [z0] at this
     ·rw [← hZo,pairwise_map] at hw
      rw [pairwise_map]
      refine hw.imp_of_mem fun {x y} hx hy hxy=>?_
      rwa [yB (zr x hx).2.2,yB (zr y hy).2.2] at hxy
    have hlz:Z.length = its.length:=by
     have:=hZ.length_eq
     rw [length_zip,length_zip] at this
     omega
    rw [← hsrt] at fin
    obtain ⟨e,he⟩:=sortedAll_at s.heap its out
    have hn:S.H (s.heap.objs.size + 1) = none:=I.hok.fresh (Nat.le_succ _)
    refine ⟨.ref (s.heap.objs.size + 1),_,I.laid (t':=s.toks) (fun _ _=>sortedAll_old) (Nat.le_succ _) (show ObjOk X.prog X.w _ _ _ (.lst (Z.map fun z=>z.2.1)) from ⟨?_,out.toList,e,?_,?_⟩),rfl,?_⟩
    ·rw [Qe];omega
    ·rw [← hZo]
     refine zag (by rw [Qe,Qe]) fun i v w e1 e2=>?_
     rw [Q9] at e1 e2
     cases e3:Z[i]? with
     | none=>rw [e3] at e1;cases e1
     | some z=>
      rw [e3] at e1 e2
      cases e1
      cases e2
      exact (zr z (Q8 e3)).2.1
    ·rw [Array.toArray_toList];exact he
    ·refine zc9 m fin ⟨by rw [Qe,Qe],fun i t v e1 e2=>?_⟩ _ hn
     rw [Q9] at e1 e2
     cases e3:Z[i]? with
     | none=>rw [e3] at e1;cases e1
     | some z=>
      rw [e3] at e1 e2
      cases e1
      cases e2
      exact (zr z (Q8 e3)).1
   ·rw [if_neg hO] at fin;exact fin.elim
  ·exact fin.elim
 ·exact fin.elim
end
section
theorem ziE (hc:X.calm = true) (hg:Gl X "sorted") (hm:X.mg "sorted" = none) (ho:WE X XE o f) (hbase:attributeBase o "keys" X.env (eval o X.env) = eval o X.env:=by rfl) (hline:(apos.endLine == cpos.line) = true:=by rfl):WL X XE (.Call (.Name "sorted" p) [.Call (.Attribute o "keys" apos) [] [] cpos] [] pos) (lUn zch f):=by
 have ho:=ho.pe
 exact ⟨PE.imp (zkm hc hg hm ho hbase hline (qt rfl)) fun σ H Q ⟨S,στ,e,m,ev,fin⟩=>
  LN.mono (LNL.bind (f:=fun (_:Unit) σ M=>f σ M) (k:=fun _ x σ M1=>zch x M1) (RA:=UnR) (RB:=Rep X.K) ⟨S,στ,(),e,m,ev,trivial,fin⟩) fun v H1 h9=>by
   obtain ⟨S,στ,a,e,m,ev,ra,fin⟩:=h9
   subst e
   obtain ⟨a0,t⟩:=a
   replace ra:Rep X.K S t v:=ra.2
   replace fin:FinL XE X.K S (zch t S.M) Q:=fin
   unfold zch at fin
   split at fin
   ·rename_i kvs q
    split at fin
    ·rename_i ns q2
     obtain ⟨p,us,rfl,e4,rk⟩:=zbd m ra q
     refine ⟨p,us,ns,rfl,e4,by rw [← rk.1];exact zgs q2,fun l ns' hl hp hs=>?_⟩
     rw [zgc hp hs]
     exact zc9 m fin (.ints _) l hl
    ·exact fin.elim
   ·exact fin.elim⟩
theorem ziF {a:Expr} (hc:X.calm = true) (ha:WE X XE a f) (hgs:Gl X "sorted") (hms:X.mg "sorted" = none) (hgt:Gl X "set") (hmt:X.mg "set" = none) (na:noStar a = true:=by rfl):WL X XE (.Call (.Name "sorted" p1) [.Call (.Name "set" p2) [a] [] q1] [] q4) (lUn za9 f):=by
 have ha:=ha.pe
 refine ⟨?_⟩
 have bs:bootBuiltins "sorted" = some (.builtin "sorted"):=by decide +kernel
 have bt:bootBuiltins "set" = some (.type "set"):=by decide +kernel
 have P:=zc7 (x:="sorted") (p:=p1) (pos:=q4) (zir hc) hgs hms bs (zdX (zcp (x:="set") (p:=p2) (pos:=q1) (zhl hc) hgt hmt bt (zdX ha zfi (qt na)) (by decide) (by decide) (qt na) rfl) zfi) (by decide) (by decide)
 refine PE.imp P fun σ H Q hh=>?_
 obtain ⟨S,στ,e,m,ev,fin⟩:=hh
 refine LN.mono (LNL.bind (f:=fun (_:Unit) σ M=>f σ M) (k:=fun _ x σ M1=>za9 x M1) (RA:=UnR) (RB:=Rep X.K) ⟨S,στ,(),e,m,ev,trivial,fin⟩) fun v H1 ⟨S,στ,a,e,m,ev,ra,fin⟩=>?_
 subst e
 obtain ⟨a0,t⟩:=a
 replace ra:Rep X.K S t v:=ra.2
 replace fin:FinL XE X.K S (za9 t S.M) Q:=fin
 unfold za9 at fin
 split at fin
 ·rename_i xs q
  split at fin
  ·rename_i is q2
   split at fin
   ·rename_i ns q3
    obtain ⟨p,ws,rfl,hq,rs2⟩:=zq m ra q
    obtain ⟨en,hn⟩:=zgp q3
    rw [zft q2 rs2,en] at hq
    refine ⟨p,ns,rfl,hq,hn,fun c hc'=>⟨c,_,rfl,qo,fun l hl=>?_⟩⟩
    have e1:zan (upd S.H c (zeW X.w c (zz [] ns))) c = S.H:=by
     funext z
     unfold zan upd
     by_cases ez:z = c
     ·rw [if_pos ez,ez,hc']
     ·rw [if_neg ez,if_neg ez]
    rw [e1]
    have hn':S.H l = none:=by
     by_cases ez:l = c
     ·rw [ez];exact hc'
     ·rw [yf ez] at hl;exact hl
    exact zc9 m fin (.ints _) l hn'
   ·exact fin.elim
  ·exact fin.elim
 ·exact fin.elim
end
noncomputable def zR (f:List T->Mem->Out T):List T->Mem->Out T:=fun ts M=>match f ts M with
 | .ok (.ref a) M'=>match M'[a]? with
  | some (.lst xs)=>@ite _ (M'.take M.length = M/\M.length<=a/\∀ x ∈ xs,T.lt 0 x) (Classical.propDecidable _) (.ok (.lst xs) M) .bad
  | _=>.bad
 | .ok v M'=>@ite _ (M'.take M.length = M/\T.lt 0 v) (Classical.propDecidable _) (.ok v M) .bad
 | _=>.bad
theorem zb0 (f:List T->Mem->Out T):Refines (zR f) f:=by
 intro ts M t' M1 hM e
 unfold zR at e
 split at e
 ·rename_i a M' q
  refine zgx f ts M t' M1 hM ?_
  unfold zdi
  rw [q]
  exact e
 ·rename_i v M' _ q
  refine zjt f ts M t' M1 hM ?_
  unfold zhe
  rw [q]
  exact e
 ·cases e
theorem zb1 (f:List T->Mem->Out T):∀ ts M C fs M',zR f ts M ≠ .exn C fs M':=by
 intro ts M C fs M' e
 unfold zR at e
 split at e
 ·split at e
  ·split at e <;> cases e
  ·cases e
 ·split at e <;> cases e
 ·cases e
def Ok {β:Type} (o:Out β) (Q:β->Mem->Prop):Prop:=∃ b M,o = .ok b M/\Q b M
variable {M:Mem}
theorem Ok.ret {β:Type} {b:β} {Q:β->Mem->Prop} (h:Q b M):Ok (.ok b M) Q:=⟨b,M,rfl,h⟩
theorem Ok.bind {β γ:Type} {o:Out β} {k:β->Mem->Out γ} {P:β->Mem->Prop} {Q:γ->Mem->Prop} (h:Ok o P) (g:∀ b M,P b M->Ok (k b M) Q):Ok (o.bind k) Q:=by
 obtain ⟨b,M,e,p⟩:=h
 rw [e]
 exact g b M p
theorem Ok.mono {β:Type} {o:Out β} {P Q:β->Mem->Prop} (h:Ok o P) (g:∀ b M,P b M->Q b M):Ok o Q:=by
 obtain ⟨b,M,e,p⟩:=h
 exact ⟨b,M,e,g b M p⟩
theorem zb9 {β γ δ:Type} {o:Out β} {k:β->Mem->Out γ} {l:γ->Mem->Out δ}:(o.bind k).bind l = o.bind fun b M=>(k b M).bind l:=by cases o <;> rfl
theorem zn4 {β γ:Type} {p:Prop} [Decidable p] {x y:Out β} {k:β->Mem->Out γ}:(if p then x else y).bind k = if p then x.bind k else y.bind k:=by split <;> rfl
variable {t:T}
theorem zn3 {β γ:Type} {k:Bool->Mem->Out β} {l:β->Mem->Out γ}:(blT t M k).bind l = blT t M fun b M=>(k b M).bind l:=by cases t <;> rfl
noncomputable def zc6 (fl:Fl) (M:Mem):Out T:=match fl with
 | .rt t=>.ok t M
 | .nx _=>.ok .non M
 | _=>.bad
theorem zob:zc6 (.rt t) M = .ok t M:=rfl
variable {σ:Ev}
theorem zoc:zc6 (.nx σ) M = .ok .non M:=rfl
variable {g:Ev->Mem->Out Fl} {ts:List T} {n:Nat} {Q:T->Mem->Prop}
theorem zH {p:Nat} (h:ts.length = p) (k:Ok ((g (startT n ts) M).bind zc6) Q):Ok (zj p n g ts M) Q:=by
 obtain ⟨b,M1,e,q⟩:=k
 refine ⟨b,M1,?_,q⟩
 rw [zhF h]
 cases r:g (startT n ts) M with
 | bad=>rw [r] at e;cases e
 | exn C fs M'=>rw [r] at e;cases e
 | ok fl M'=>
  rw [r] at e
  cases fl with
  | rt t=>exact e
  | nx σ=>exact e
  | bk σ=>cases e
  | ct σ=>cases e
def Fr (S:List Nat) (M M':Mem):Prop:=M.length<=M'.length/\∀ i,i < M.length->i ∉ S->M'[i]? = M[i]?
theorem Fr.refl (S:List Nat) (M:Mem):Fr S M M:=⟨Q3 _,fun _ _ _=>rfl⟩
variable {A B C:Mem}
theorem Fr.trans {S:List Nat} (h:Fr S A B) (g:Fr S B C):Fr S A C:=⟨Qg h.1 g.1,fun i hi hs=>by rw [g.2 i (Q5 hi h.1) hs,h.2 i hi hs]⟩
variable {S':List Nat}
theorem Fr.tr {S:List Nat} (h:Fr S A B) (g:Fr S' B C) (s:∀ i ∈ S',i ∈ S\/A.length<=i):Fr S A C:=⟨Qg h.1 g.1,fun i hi hs=>by
 rw [g.2 i (Q5 hi h.1) (fun z=>by rcases s i z with a | a;exact hs a;omega),h.2 i hi hs]⟩
variable {c:Cell} {M':Mem} {i:Nat}
theorem Fr.get {S:List Nat} (h:Fr S M M') (e:M[i]? = some c) (hs:i ∉ S):M'[i]? = some c:=by
 rw [h.2 i (List.getElem?_eq_some_iff.mp e).1 hs];exact e
theorem Fr.get0 (h:Fr [] M M') (e:M[i]? = some c):M'[i]? = some c:=h.get e (by simp)
theorem Fr.sub {S:List Nat} (h:Fr S M M') (s:∀ i ∈ S,i ∈ S'\/M.length<=i):Fr S' M M':=⟨h.1,fun i hi hs=>h.2 i hi fun z=>by
 rcases s i z with a | a
 ·exact hs a
 ·omega⟩
theorem Fr.app (M:Mem) (l:List Cell):Fr [] M (M ++ l):=⟨by simp,fun i hi _=>by rw [Q6 hi]⟩
theorem Fr.set (M:Mem) (a:Nat) (c:Cell):Fr [a] M (M.set a c):=⟨by simp,fun i _ hs=>by rw [getElem?_set,if_neg (by simp at hs;omega)]⟩
theorem qR (e:M[i]? = some c):i < M.length:=(List.getElem?_eq_some_iff.mp e).1
theorem qr:(M ++ [c])[M.length]? = some c:=List.getElem?_concat_length
theorem get_set {a:Nat} {c':Cell} (e:M[a]? = some c):(M.set a c')[a]? = some c':=by
 rw [getElem?_set,if_pos rfl,if_pos (qR e)]
theorem Ok.loop {bd:T->Ev->Mem->Out Ev} {body:Ev->Mem->Out Fl} {α:Type} {r:α->T} (P:Nat->Ev->Mem->Prop) {R:T->Mem->Prop}:∀ (xs:List α) (i:Nat) {σ:Ev} {M:Mem},
  P i σ M->(∀ (k:Nat) x σ M,xs[k]? = some x->P (i + k) σ M->Ok ((bd (r x) σ M).bind fun σ1 M1=>body σ1 M1) fun fl M'=>(∃ σ',(fl = .nx σ'\/fl = .ct σ')/\P (i + k + 1) σ' M')\/(∃ σ',fl = .bk σ'/\P (i + xs.length) σ' M')\/∃ t,fl = .rt t/\R t M')->
  Ok (forL bd body (xs.map r) σ M) fun fl M'=>(∃ σ',fl = .nx σ'/\P (i + xs.length) σ' M')\/∃ t,fl = .rt t/\R t M'
 | [],i,σ,M,h,_=>⟨.nx σ,M,rfl,.inl ⟨σ,rfl,h⟩⟩
 | x :: xs,i,σ,M,h,t=>by
  obtain ⟨fl,M1,e1,h1⟩:=t 0 x σ M rfl h
  rw [map_cons,zid]
  cases q:bd (r x) σ M with
  | bad=>rw [q] at e1;cases e1
  | exn C fs M'=>rw [q] at e1;cases e1
  | ok σ3 M3=>
   rw [q] at e1
   replace e1:body σ3 M3 = .ok fl M1:=e1
   show Ok ((body σ3 M3).bind (qI (forL bd body (xs.map r)))) _
   rw [e1]
   have go:∀ σ1,P (i + 1) σ1 M1->Ok (forL bd body (xs.map r) σ1 M1) fun fl M'=>(∃ σ',fl = .nx σ'/\P (i + (x :: xs).length) σ' M')\/∃ t,fl = .rt t/\R t M':=fun σ1 h1=>by
    have ih:=Ok.loop (R:=R) P xs (i + 1) (bd:=bd) (body:=body) h1 (fun k y σ M hk hp=>by
     have:=t (k + 1) y σ M (by simpa using hk) (by rw [show i + (k + 1) = i + 1 + k by omega];exact hp)
     rw [show i + (k + 1) + 1 = i + 1 + k + 1 by omega,Qm,show i + (xs.length + 1) = i + 1 + xs.length by omega] at this
     exact this)
    rw [Qm,show i + (xs.length + 1) = i + 1 + xs.length by omega]
    exact ih
   rcases h1 with ⟨σ1,h1 | h1,h2⟩ | ⟨σ1,h1,h2⟩ | ⟨u,h1,h2⟩
   ·rw [h1];exact go σ1 h2
   ·rw [h1];exact go σ1 h2
   ·rw [h1];exact ⟨.nx σ1,M1,rfl,.inl ⟨σ1,rfl,h2⟩⟩
   ·rw [h1];exact ⟨.rt u,M1,rfl,.inr ⟨u,rfl,h2⟩⟩
variable {body:Ev->Mem->Out Fl} {bd:T->Ev->Mem->Out Ev}
theorem Ok.for {α:Type} {r:α->T} (P:Nat->Ev->Mem->Prop) {xs:List α} 
 (h:P 0 σ M) (t:∀ (k:Nat) x σ M,xs[k]? = some x->P k σ M->Ok ((bd (r x) σ M).bind fun σ1 M1=>body σ1 M1) fun fl M'=>∃ σ',fl = .nx σ'/\P (k + 1) σ' M') :
  Ok (forL bd body (xs.map r) σ M) fun fl M'=>∃ σ',fl = .nx σ'/\P xs.length σ' M':=by
 refine (Ok.loop (R:=fun _ _=>False) P xs 0 h (fun k x σ M hk hp=>?_)).mono ?_
 ·rw [Nat.zero_add] at hp
  refine (t k x σ M hk hp).mono ?_
  rintro fl M' ⟨σ',e,q⟩
  exact .inl ⟨σ',.inl e,by rw [Nat.zero_add];exact q⟩
 ·rintro fl M' (⟨σ',e,q⟩ | ⟨t,_,f⟩)
  ·exact ⟨σ',e,by rw [Nat.zero_add] at q;exact q⟩
  ·exact f.elim
theorem Ok.comp {bd:T->Ev->Mem->Out Ev} {cond:Ev->Mem->Out Bool} {el:Ev->Mem->Out T} {α:Type} {r:α->T} (P:Nat->List T->Ev->Mem->Prop):∀ (xs:List α) {σ:Ev} {M:Mem} (i:Nat) (acc:List T),
  P i acc σ M->acc.length + xs.length<=sizeLine->(∀ (k:Nat) x σ M acc,xs[k]? = some x->P (i + k) acc σ M->Ok ((bd (r x) σ M).bind fun σ1 M1=>(cond σ1 M1).bind fun b M2=>if b = true then (el σ1 M2).bind fun t M3=>.ok (some t,σ1) M3 else .ok (none,σ1) M2) fun o M'=>P (i + k + 1) (match o.1 with | some t=>acc ++ [t] | none=>acc) o.2 M')->
  Ok (zn bd cond el (xs.map r) σ M acc) fun ts M'=>∃ σ',P (i + xs.length) ts σ' M'
 | [],σ,M,i,acc,h,_,_=>⟨acc,M,by simp [zn],σ,h⟩
 | x :: xs,σ,M,i,acc,h,hl,t=>by
  obtain ⟨o,M1,e1,h1⟩:=t 0 x σ M acc rfl h
  rw [Qm] at hl
  rw [map_cons]
  unfold zn
  have go:∀ acc σ1 M1,acc.length + xs.length<=sizeLine->P (i + 1) acc σ1 M1->Ok (zn bd cond el (xs.map r) σ1 M1 acc) fun ts M'=>∃ σ',P (i + (x :: xs).length) ts σ' M':=fun acc σ1 M1 hl h1=>by
   have ih:=Ok.comp P xs (i + 1) acc (bd:=bd) (cond:=cond) (el:=el) h1 hl (fun k y σ M acc hk hp=>by
    have:=t (k + 1) y σ M acc (by simpa using hk) (by rw [show i + (k + 1) = i + 1 + k by omega];exact hp)
    rw [show i + (k + 1) + 1 = i + 1 + k + 1 by omega] at this
    exact this)
   rw [Qm,show i + (xs.length + 1) = i + 1 + xs.length by omega]
   exact ih
  cases q:bd (r x) σ M with
  | bad=>rw [q] at e1;cases e1
  | exn C fs M'=>rw [q] at e1;cases e1
  | ok σ3 M3=>
   rw [q] at e1
   replace e1:((cond σ3 M3).bind fun b M2=>if b = true then (el σ3 M2).bind fun t M3=>.ok (some t,σ3) M3 else .ok (none,σ3) M2) = .ok o M1:=e1
   show Ok ((cond σ3 M3).bind _) _
   cases q2:cond σ3 M3 with
   | bad=>rw [q2] at e1;cases e1
   | exn C fs M'=>rw [q2] at e1;cases e1
   | ok b M4=>
    rw [q2] at e1
    cases b with
    | false=>
     replace e1:(Out.ok (none,σ3) M4:Out (Option T × Ev)) = .ok o M1:=e1
     cases e1
     exact go acc σ3 _ (by omega) h1
    | true=>
     replace e1:((el σ3 M4).bind fun t M3=>.ok (some t,σ3) M3) = .ok o M1:=e1
     show Ok ((el σ3 M4).bind _) _
     cases q3:el σ3 M4 with
     | bad=>rw [q3] at e1;cases e1
     | exn C fs M'=>rw [q3] at e1;cases e1
     | ok u M5=>
      rw [q3] at e1
      replace e1:(Out.ok (some u,σ3) M5:Out (Option T × Ev)) = .ok o M1:=e1
      cases e1
      show Ok (if acc.length < sizeLine then _ else _) _
      rw [if_pos (by omega)]
      exact go (acc ++ [u]) σ3 _ (by rw [Qk,Qm,length_nil];omega) h1
theorem Ok.whileN {c:Ev->Mem->Out Bool} {body:Ev->Mem->Out Fl} (P:Ev->Mem->Prop) (μ:Ev->Mem->Nat) {Q:Ev->Mem->Prop} {R:T->Mem->Prop}
  (t:∀ σ M,P σ M->Ok (c σ M) fun b M1=>(b = true/\Ok (body σ M1) fun fl M2=>(∃ σ',(fl = .nx σ'\/fl = .ct σ')/\P σ' M2/\μ σ' M2 < μ σ M)\/(∃ σ',fl = .bk σ'/\Q σ' M2)\/∃ t,fl = .rt t/\R t M2)\/(b = false/\Q σ M1)) :
  ∀ (n:Nat) (σ:Ev) (M:Mem),μ σ M < n->P σ M->Ok (whileN c body n σ M) fun fl M'=>(∃ σ',fl = .nx σ'/\Q σ' M')\/∃ t,fl = .rt t/\R t M'
 | 0,_,_,hn,_=>absurd hn (by omega)
 | n + 1,σ,M,hn,h=>by
  obtain ⟨b,M1,e,r⟩:=t σ M h
  unfold FT.whileN
  rw [e]
  rcases r with ⟨rfl,fl,M2,e2,r⟩ | ⟨rfl,q⟩
  ·show Ok ((body σ M1).bind _) _
   rw [e2]
   rcases r with ⟨σ1,h1 | h1,h2,h3⟩ | ⟨σ1,h1,h2⟩ | ⟨u,h1,h2⟩
   ·rw [h1];exact Ok.whileN P μ t n σ1 M2 (by omega) h2
   ·rw [h1];exact Ok.whileN P μ t n σ1 M2 (by omega) h2
   ·rw [h1];exact ⟨.nx σ1,M2,rfl,.inl ⟨σ1,rfl,h2⟩⟩
   ·rw [h1];exact ⟨.rt u,M2,rfl,.inr ⟨u,rfl,h2⟩⟩
  ·exact ⟨.nx σ,M1,rfl,.inl ⟨σ,rfl,q⟩⟩
theorem Ok.while {c:Ev->Mem->Out Bool} (P:Ev->Mem->Prop) (μ:Ev->Mem->Nat) {Q:Ev->Mem->Prop} {R:T->Mem->Prop} (h:P σ M)
 (t:∀ σ M,P σ M->Ok (c σ M) fun b M1=>(b = true/\Ok (body σ M1) fun fl M2=>(∃ σ',(fl = .nx σ'\/fl = .ct σ')/\P σ' M2/\μ σ' M2 < μ σ M)\/(∃ σ',fl = .bk σ'/\Q σ' M2)\/∃ t,fl = .rt t/\R t M2)\/(b = false/\Q σ M1)) :
  Ok (zfa c body σ M) fun fl M'=>(∃ σ',fl = .nx σ'/\Q σ' M')\/∃ t,fl = .rt t/\R t M':=by
 obtain ⟨fl,M',e,r⟩:=Ok.whileN P μ t (μ σ M + 1) σ M (by omega) h
 exact ⟨fl,M',zhE _ e (by simp),r⟩
noncomputable def rgI (n:Nat):List Int:=(List.range n).map fun (k:Nat)=>(k:Int)
theorem zlt (n:Nat):(rgI n).Pairwise (· < ·):=by
 unfold rgI
 rw [pairwise_map]
 exact List.pairwise_lt_range.imp (fun h=>by omega)
variable {x:Int}
theorem zdT:x ∈ rgI n ↔ 0<=x/\x < n:=by
 unfold rgI
 rw [mem_map]
 constructor
 ·rintro ⟨k,hk,rfl⟩
  have:=mem_range.mp hk
  omega
 ·rintro ⟨h1,h2⟩
  exact ⟨x.toNat,mem_range.mpr (by omega),by omega⟩
theorem zcC (n:Nat):(rgI n).length = n:=by simp [rgI]
theorem zgf {k:Nat} (h:(rgI n)[k]? = some x):k < n/\x = k:=by
 unfold rgI at h
 rw [Q9] at h
 cases q:(List.range n)[k]? with
 | none=>rw [q] at h;cases h
 | some j=>
  rw [q] at h
  have hk:k < n:=by have:=(List.getElem?_eq_some_iff.mp q).1;simpa using this
  rw [getElem?_range hk] at q
  cases q
  exact ⟨hk,(Qa h).symm⟩
theorem ziP (n:Nat):zbm 0 n = (rgI n).map .int:=by
 unfold zbm rgI
 rw [map_map]
 congr 1
 funext k
 simp
variable {j:Int}
theorem zcB (h:-(2 ^ 62)<=j/\j < 2 ^ 62):zdR [.int j] M = .ok ((rgI j.toNat).map .int) M:=by rw [zls h,ziP]
noncomputable def rgF (lo:Int) (n:Nat):List Int:=(List.range n).map fun (k:Nat)=>lo + (k:Int)
theorem zgg (lo:Int) (n:Nat):(rgF lo n).length = n:=by simp [rgF]
theorem zgh {lo:Int} {k:Nat} (h:(rgF lo n)[k]? = some x):k < n/\x = lo + k:=by
 unfold rgF at h
 rw [Q9] at h
 cases q:(List.range n)[k]? with
 | none=>rw [q] at h;cases h
 | some j=>
  rw [q] at h
  have hk:k < n:=by have:=(List.getElem?_eq_some_iff.mp q).1;simpa using this
  rw [getElem?_range hk] at q
  cases q
  exact ⟨hk,(Qa h).symm⟩
theorem zge {i:Int} (h:(-(2 ^ 62)<=i/\i < 2 ^ 62)/\(-(2 ^ 62)<=j/\j < 2 ^ 62)):zbP [.int i,.int j] M = .ok ((rgF i (j - i).toNat).map .int) M:=by
 rw [show zbP [.int i,.int j] M = .ok (zbm i (j - i).toNat) M from if_pos h]
 unfold zbm rgF
 rw [map_map]
 rfl
variable {el:Ev->Mem->Out T}
theorem Ok.filt {cond:Ev->Mem->Out Bool} {α:Type} {r:α->T} (I:Ev->Prop) (c:α->Bool) (f:α->T) {xs:List α} (h:I σ) (hl:xs.length<=1000000)
 (t:∀ x σ,x ∈ xs->I σ->∃ σ1,bd (r x) σ M = .ok σ1 M/\I σ1/\cond σ1 M = .ok (c x) M/\(c x = true->el σ1 M = .ok (f x) M)):zn bd cond el (xs.map r) σ M [] = .ok ((xs.filter c).map f) M:=by
 have key:∀ (xs:List α) (σ:Ev) (acc:List T),(∀ x σ,x ∈ xs->I σ->∃ σ1,bd (r x) σ M = .ok σ1 M/\I σ1/\cond σ1 M = .ok (c x) M/\(c x = true->el σ1 M = .ok (f x) M))->I σ->acc.length + xs.length<=sizeLine->zn bd cond el (xs.map r) σ M acc = .ok (acc ++ (xs.filter c).map f) M:=by
  intro xs
  induction xs with
  | nil=>intro σ acc _ _ _;simp [zn]
  | cons x xs ih=>
   intro σ acc t h hl
   obtain ⟨σ1,e1,h1,e2,e3⟩:=t x σ (.head _) h
   rw [Qm] at hl
   rw [map_cons]
   unfold zn
   rw [e1]
   show ((cond σ1 M).bind _) = _
   rw [e2]
   cases hc:c x with
   | true=>
    have ih:=ih σ1 (acc ++ [f x]) (fun y σ hy=>t y σ (.tail _ hy)) h1 (by rw [Qk,Qm,length_nil];omega)
    show ((el σ1 M).bind _) = _
    rw [e3 hc]
    show (if acc.length < sizeLine then zn bd cond el (xs.map r) σ1 M (acc ++ [f x]) else .bad) = _
    rw [if_pos (by omega),ih,List.filter_cons_of_pos hc]
    simp
   | false=>
    have ih:=ih σ1 acc (fun y σ hy=>t y σ (.tail _ hy)) h1 (by omega)
    show zn bd cond el (xs.map r) σ1 M acc = _
    rw [ih,List.filter_cons_of_neg (by rw [hc];exact Q4)]
 have:=key xs σ [] t h (by rw [length_nil,Nat.zero_add];exact Qg hl (by decide))
 rw [this,nil_append]
theorem Ok.mapc {α:Type} {r:α->T} (I:Ev->Prop) (f:α->T) {xs:List α} (h:I σ) (hl:xs.length<=1000000)
 (t:∀ x σ,x ∈ xs->I σ->∃ σ1,bd (r x) σ M = .ok σ1 M/\I σ1/\el σ1 M = .ok (f x) M):zn bd y4 el (xs.map r) σ M [] = .ok (xs.map f) M:=by
 have:=Ok.filt (cond:=y4) I (fun _=>true) f h hl (fun x σ hx hs=>by
  obtain ⟨σ1,a,b,c⟩:=t x σ hx hs
  exact ⟨σ1,a,b,rfl,fun _=>c⟩)
 rw [this,List.filter_eq_self.mpr (fun _ _=>rfl)]
theorem zbb {a:Nat} {xs:List T} (e:M[a]? = some (.lst xs)):yq (.ref a) M = some xs:=by
 unfold yq
 simp only [e]
theorem Ok.loopG {G:Gd} {bd:T->Ev->Mem->Out Ev} {body:Ev->Mem->Out Fl} {α:Type} {r:α->T} (P:Nat->Ev->Mem->Prop) {R:T->Mem->Prop} (hG:∀ i σ M,P i σ M->zhb G M):∀ (xs:List α) (i:Nat) {σ:Ev} {M:Mem},
  P i σ M->(∀ (k:Nat) x σ M,xs[k]? = some x->P (i + k) σ M->Ok ((bd (r x) σ M).bind fun σ1 M1=>body σ1 M1) fun fl M'=>(∃ σ',(fl = .nx σ'\/fl = .ct σ')/\P (i + k + 1) σ' M')\/(∃ σ',fl = .bk σ'/\P (i + xs.length) σ' M')\/∃ t,fl = .rt t/\R t M')->
  Ok (zd8 G bd body (xs.map r) σ M) fun fl M'=>(∃ σ',fl = .nx σ'/\P (i + xs.length) σ' M')\/∃ t,fl = .rt t/\R t M'
 | [],i,σ,M,h,_=>⟨.nx σ,M,by rw [map_nil];unfold zd8;exact zia (hG _ _ _ h),.inl ⟨σ,rfl,h⟩⟩
 | x :: xs,i,σ,M,h,t=>by
  obtain ⟨fl,M1,e1,h1⟩:=t 0 x σ M rfl h
  rw [map_cons]
  unfold zd8
  rw [zia (hG _ _ _ h)]
  cases q:bd (r x) σ M with
  | bad=>rw [q] at e1;cases e1
  | exn C fs M'=>rw [q] at e1;cases e1
  | ok σ3 M3=>
   rw [q] at e1
   replace e1:body σ3 M3 = .ok fl M1:=e1
   show Ok ((body σ3 M3).bind (qI (zd8 G bd body (xs.map r)))) _
   rw [e1]
   have go:∀ σ1,P (i + 1) σ1 M1->Ok (zd8 G bd body (xs.map r) σ1 M1) fun fl M'=>(∃ σ',fl = .nx σ'/\P (i + (x :: xs).length) σ' M')\/∃ t,fl = .rt t/\R t M':=fun σ1 h1=>by
    have ih:=Ok.loopG (R:=R) P hG xs (i + 1) (bd:=bd) (body:=body) h1 (fun k y σ M hk hp=>by
     have:=t (k + 1) y σ M (by simpa using hk) (by rw [show i + (k + 1) = i + 1 + k by omega];exact hp)
     rw [show i + (k + 1) + 1 = i + 1 + k + 1 by omega,Qm,show i + (xs.length + 1) = i + 1 + xs.length by omega] at this
     exact this)
    rw [Qm,show i + (xs.length + 1) = i + 1 + xs.length by omega]
    exact ih
   rcases h1 with ⟨σ1,h1 | h1,h2⟩ | ⟨σ1,h1,h2⟩ | ⟨u,h1,h2⟩
   ·rw [h1];exact go σ1 h2
   ·rw [h1];exact go σ1 h2
   ·rw [h1];exact ⟨.nx σ1,M1,rfl,.inl ⟨σ1,rfl,h2⟩⟩
   ·rw [h1];exact ⟨.rt u,M1,rfl,.inr ⟨u,rfl,h2⟩⟩
def OkX {β:Type} (o:Out β) (Q:β->Mem->Prop) (E:Addr->List (Str × T)->Mem->Prop):Prop:=match o with
 | .ok b M=>Q b M
 | .exn C fs M=>E C fs M
 | .bad=>False
variable {E:Addr->List (Str × T)->Mem->Prop}
theorem OkX.ok {β:Type} {o:Out β} {Q:β->Mem->Prop} (h:Ok o Q):OkX o Q E:=by
 obtain ⟨b,M,rfl,q⟩:=h
 exact q
theorem OkX.bind {β γ:Type} {o:Out β} {k:β->Mem->Out γ} {P:β->Mem->Prop} {Q:γ->Mem->Prop} (h:OkX o P E) (g:∀ b M,P b M->OkX (k b M) Q E):OkX (o.bind k) Q E:=by
 cases o with
 | ok b M=>exact g b M h
 | exn C fs M=>exact h
 | bad=>exact h.elim
theorem zgP {p:Nat} (h:ts.length = p) (k:OkX ((g (startT n ts) M).bind zc6) Q E):OkX (zQ p n g ts M) Q E:=by
 unfold zQ
 rw [if_pos h]
 cases r:g (startT n ts) M with
 | bad=>rw [r] at k;exact k.elim
 | exn C fs M'=>rw [r] at k;exact k
 | ok fl M'=>
  rw [r] at k
  cases fl with
  | rt t=>exact k
  | nx σ=>exact k
  | bk σ=>exact k.elim
  | ct σ=>exact k.elim
theorem Ok.try {cs:List Addr} {gs:Ev->Mem->Out Fl} {Q:Fl->Mem->Prop} (h:OkX (g σ M) Q fun C _ M'=>cs.contains C = true/\Ok (gs σ M') Q):Ok (zfb cs g gs σ M) Q:=by
 unfold zfb
 cases r:g σ M with
 | ok b M1=>rw [r] at h;exact ⟨b,M1,rfl,h⟩
 | bad=>rw [r] at h;exact h.elim
 | exn C fs M1=>
  rw [r] at h
  obtain ⟨hc,b,M2,e,h⟩:=h
  show Ok (if cs.contains C = true then _ else _) _
  rw [if_pos hc,e]
  exact ⟨b,M2,rfl,h⟩
end FT
namespace My
open PySem L2 FT
noncomputable def top (i:Nat):Stmt:=PySem.Challenge.pw_tryweir_k45_places_of_nets.main.body.getD i (.Pass ⟨0,0,0,0⟩)
noncomputable abbrev zc5:Stmt:=top 14
noncomputable abbrev zcl:Stmt:=top 15
noncomputable abbrev zdQ:Stmt:=top 16
noncomputable abbrev zap:Stmt:=top 17
noncomputable abbrev zaS:Stmt:=top 18
noncomputable abbrev zaw:Stmt:=top 19
noncomputable abbrev zbN:Stmt:=top 20
noncomputable abbrev zc4:Stmt:=top 13
noncomputable abbrev zbk:Stmt:=top 5
noncomputable abbrev zbO:Stmt:=top 6
noncomputable abbrev z6:Stmt:=top 10
noncomputable abbrev qT:Stmt:=top 9
noncomputable abbrev zbj:Stmt:=top 11
noncomputable abbrev zgN:Stmt:=top 21
structure Txt (mg:Str->Option Value):Prop where
 n_range:mg "range" = none
 n_len:mg "len" = none
 n_enumerate:mg "enumerate" = none
 n_min:mg "min" = none
 n_int:mg "int" = none
 n_tuple:mg "tuple" = none
 n_sorted:mg "sorted" = none
 n_max:mg "max" = none
 n_set:mg "set" = none
 c_STANDS:∃ t,mg "STANDS" = some (.int (-1) t)
 c_MOST_PLACES:∃ t,mg "MOST_PLACES" = some (.int (100) t)
theorem boot_range:bootBuiltins "range" = some (.type "range"):=by decide +kernel
theorem boot_len:bootBuiltins "len" = some (.builtin "len"):=by decide +kernel
theorem boot_min:bootBuiltins "min" = some (.builtin "min"):=by decide +kernel
theorem boot_int:bootBuiltins "int" = some (.type "int"):=by decide +kernel
theorem boot_tuple:bootBuiltins "tuple" = some (.type "tuple"):=by decide +kernel
theorem boot_sorted:bootBuiltins "sorted" = some (.builtin "sorted"):=by decide +kernel
theorem boot_max:bootBuiltins "max" = some (.builtin "max"):=by decide +kernel
end My
theorem FT.nc_l {k:PySem.NameKind} {P:Prop} (e:(k == .cell || k == .free) = false) (h:k = .cell\/k = .free):P:=by
 rcases h with rfl | rfl
 ·exact absurd e (by decide)
 ·exact absurd e (by decide)
open PySem L2 FT in
local macro_rules | `(tactic| bv_omega) => `(tactic| exact ⟨rfl, rfl, by decide +kernel, rfl, by decide +kernel, by first | exact (fun _ _ h => h) | exact zfo (by repeat (first | exact True.intro | refine ⟨rfl, ?_⟩)), fun _ => zmf (by repeat (first | exact True.intro | (refine ⟨?_, ?_⟩; first | exact (fun _ => ⟨_, rfl⟩) | exact nc_l rfl | exact (fun h => h.elim (fun h => nomatch h) (fun h => nomatch h))))), by repeat (first | exact List.forall_mem_nil _ | refine List.forall_mem_cons.mpr ⟨⟨rfl, rfl, by first | exact .inl rfl | exact .inr rfl⟩, ?_⟩)⟩)
namespace My
open PySem L2 FT
noncomputable def zfy:Ev->Mem->Out Fl:=
 (zf (sIf (zJ (eOp gtI (eOp ixT (yc 0) (eC (.int 0))) (eC (.int 0)))) (zf (yk 2 (eOp zaU (eOp ixT (yc 0) (eC (.int 0))) (yc 1)))
 (zf (zfc (eOp zdk (eOp ixT (yc 0) (eC (.int 0))) (yc 1)) (zfR zcj (yc 0) (eC (.int 0))))
 (zI (yc 2)))) zbl)
 (zf (zfc (eOp zt (eOp ixT (yc 0) (eC (.int 2))) (eC (.int 1))) (zfR zcj (yc 0) (eC (.int 2))))
 (zf (yk 3 (eOp zaU (eOp zt (eOp ixT (yc 0) (eC (.int 1))) (eOp zO (eC (.int 6089)) (eOp ixT (yc 0) (eC (.int 2))))) (eC (.int 1000000007))))
 (zf (yk 4 (eOp zaU (eOp zO (eOp zt (yc 3) (eC (.int 17))) (eOp zt (yc 3) (eC (.int 60013)))) (eC (.int 998244353))))
 (zI (eOp zaU (eOp zdk (eOp zaU (eOp zO (yc 4) (yc 4)) (eC (.int 2147483647))) (eC (.int 16))) (yc 1)))))))
noncomputable def yp:List FT.T->Mem->Out FT.T:=zj 2 5 (zfy)
variable {base:Heap} {P:Program} {mg:Str->Option Value} {w:World}
section
variable {K:Frag}
theorem zba:FnScope ["pool","base","digit","mixed","stir"] ["pool","base"] (ze zc5):=by ac_rfl
theorem yj (D:Df K mg "_law_next" zc5 ["pool","base"]) (T:Txt mg)   :CalT P w K mg base 1 "_law_next" ["pool","base"] yp:=
 zG D zba rfl rfl (fun f cdv A outer s H E hr=>(zd (zaM (zF zdq (qf zp (zb (pv 0)) zc (fun _ _=>rfl)) zc (yD _)) (zd (yg (i:=2) zba.nd rfl (Or.inl rfl) (qg y6 (qf zp (zb (pv 0)) zc (fun _ _=>rfl)) (zb (pv 1))))
  (zd (zdJ (qg zgm (qf zp (zb (pv 0)) zc (fun _ _=>rfl)) (zb (pv 1))) (zdK (zb (pv 0)) zc zeL))
  (qe (zu (zb (pv 2)))))) qU)
  (zd (zdJ (qg yu (qf zp (zb (pv 0)) zc (fun _ _=>rfl)) zc) (zdK (zb (pv 0)) zc zeL))
  (zd (yg (i:=3) zba.nd rfl (Or.inl rfl) (qg y6 (qg yu (qf zp (zb (pv 0)) zc (fun _ _=>rfl)) (qg zaH zc (qf zp (zb (pv 0)) zc (fun _ _=>rfl)))) zc))
  (zd (yg (i:=4) zba.nd rfl (Or.inl rfl) (qg y6 (qg zaH (qg yu (zb (pv 3)) zc) (qg yu (zb (pv 3)) zc)) zc))
  (qe (zu (qg y6 (qg zgm (qg y6 (qg zaH (zb (pv 4)) (zb (pv 4))) zc) zc) (zb (pv 1))))))))))
end
noncomputable def zev:Ev->Mem->Out Fl:=
 (zf (yk 2 (ye yp (ya (yc 0) (ya (eC (.int 26)) qc))))
 (zf (yk 3 (eOp ixT (eFz (qp (ya (eC (.str "")) (ya (eC (.str "x")) (ya (eC (.str "ab")) (ya (eC (.str "seventh")) qc)))))) (ye yp (ya (yc 0) (ya (eC (.int 4)) qc)))))
 (zI (eFz (zaz (z9 (ya (yc 1) qc)) (yi 0) y4 (eOp zt (eOp ixS (eC (.str "abcdefghijklmnopqrstuvwxyz")) (eOp zaU (eOp zt (yc 1) (eOp zO (eC (.int 3)) (yc 0))) (eC (.int 26)))) (yc 2)) ["k"] [("first",2),("tail",3)])))))
noncomputable def zal:List FT.T->Mem->Out FT.T:=zj 2 4 (zev)
section
variable {K:Frag}
theorem zbL:FnScope ["pool","many","first","tail"] ["pool","many"] (ze zcl):=by ac_rfl
theorem yY (D:Df K mg "_law_names" zcl ["pool","many"]) (T:Txt mg)   (yj:CalT P w K mg base 1 "_law_next" ["pool","base"] yp):CalT P w K mg base 2 "_law_names" ["pool","many"] zal:=
 zG D zbL rfl rfl (fun f cdv A outer s H E hr=>(zd (yg (i:=2) zbL.nd rfl (Or.inr rfl) (zi yj (hr.mono (by decide)) rfl (za (zb (pv 0)) (za zc yb))))
  (zd (yg (i:=3) zbL.nd rfl (Or.inr rfl) (qf zp (yo (yh (za zB (za zB (za zB (za zB yb)))))) (zi yj (hr.mono (by decide)) rfl (za (zb (pv 0)) (za zc yb))) (fun _ _=>rfl)))
  (qe (zu (yo (y3 (tgs:=["k"]) (caps:=[("first",2),("tail",3)]) (zau rfl T.n_range (za (zb (pv 1)) yb)) (by bv_omega) (fun _ _ _=>(qh (qi (i:=0) (show (["k","first","tail"]:List Str).Nodup by decide +kernel) rfl (by first | exact Or.inl rfl | exact Or.inr rfl)))) (fun _ _ _=>zaL) (fun _ _ _=>(qg yu (qf znT zB (qg y6 (qg yu (zb (pv 1)) (qg zaH zc (zb (pv 0)))) zc) (fun _ _=>rfl)) (zb (pv 2)))))))))))
end
noncomputable def zgw:Ev->Mem->Out Fl:=
 (zf (yk 3 (eOp ixT (eFz (qp (ya (eC (.int 1)) (ya (eC (.int 1)) (ya (eC (.int 2)) (ya (eC (.int 2)) (ya (eC (.int 2)) (ya (eC (.int 3)) (ya (eC (.int 0)) (ya (eC (.int 4)) qc)))))))))) (ye yp (ya (yc 0) (ya (eC (.int 8)) qc)))))
 (zf (yk 4 (eOp ixT (eOp zt (eOp zt (eFz (qp (ya (eC .non) qc))) (yc 2)) (yc 2)) (ye yp (ya (yc 0) (ya (eOp zt (eC (.int 1)) (eOp zO (eC (.int 2)) (ye (yn yI) (ya (yc 2) qc)))) qc)))))
 (zf (yk 5 (eOp ixT (eFz (qp (ya (eC (.str "bad")) (ya (eC (.str "spent")) qc)))) (ye yp (ya (yc 0) (ya (eC (.int 2)) qc)))))
 (zI (qu (ya (eOp ixT (yc 1) (ye yp (ya (yc 0) (ya (ye (yn yI) (ya (yc 1) qc)) qc)))) (ya (yc 3) (ya (yc 4) (ya (yc 5) (ya (eOp eqA (ye yp (ya (yc 0) (ya (eC (.int 2)) qc))) (eC (.int 0))) (ya (eOp eqA (ye yp (ya (yc 0) (ya (eC (.int 2)) qc))) (eC (.int 0))) qc)))))))))))
noncomputable def zbD:List FT.T->Mem->Out FT.T:=zj 3 6 (zgw)
section
variable {K:Frag}
theorem zbM:FnScope ["pool","later","purses","tries","purse","word"] ["pool","later","purses"] (ze zdQ):=by ac_rfl
theorem zaK (D:Df K mg "_law_ask" zdQ ["pool","later","purses"]) (T:Txt mg)   (yj:CalT P w K mg base 1 "_law_next" ["pool","base"] yp):CalT P w K mg base 2 "_law_ask" ["pool","later","purses"] zbD:=
 zG D zbM rfl rfl (fun f cdv A outer s H E hr=>(zd (yg (i:=3) zbM.nd rfl (Or.inl rfl) (qf zp (yo (yh (za zc (za zc (za zc (za zc (za zc (za zc (za zc (za zc yb)))))))))) (zi yj (hr.mono (by decide)) rfl (za (zb (pv 0)) (za zc yb))) (fun _ _=>rfl)))
  (zd (yg (i:=4) zbM.nd rfl (Or.inl rfl) (qf zp (qg yu (qg yu (yo (yh (za zcw yb))) (zb (pv 2))) (zb (pv 2))) (zi yj (hr.mono (by decide)) rfl (za (zb (pv 0)) (za (qg yu zc (qg zaH zc (yt yy rfl T.n_len boot_len (za (zb (pv 2)) yb)))) yb))) (fun _ _=>rfl)))
  (zd (yg (i:=5) zbM.nd rfl (Or.inl rfl) (qf zp (yo (yh (za zB (za zB yb)))) (zi yj (hr.mono (by decide)) rfl (za (zb (pv 0)) (za zc yb))) (fun _ _=>rfl)))
  (qe (zu (ym (za (qf zp (zb (pv 1)) (zi yj (hr.mono (by decide)) rfl (za (zb (pv 0)) (za (yt yy rfl T.n_len boot_len (za (zb (pv 1)) yb)) yb))) (fun _ _=>rfl)) (za (zb (pv 3)) (za (zb (pv 4)) (za (zb (pv 5)) (za (zcx (zak hr.units) (zi yj (hr.mono (by decide)) rfl (za (zb (pv 0)) (za zc yb))) zc (yD _)) (za (zcx (zak hr.units) (zi yj (hr.mono (by decide)) rfl (za (zb (pv 0)) (za zc yb))) zc (yD _)) yb)))))))))))))
end
noncomputable def zbH:Ev->Mem->Out Fl:=
 (yV (zbc qW (eUn yJ (yc 7)) (ya (ye zbD (ya (yc 0) (ya (eSl (yc 1) (zeN (eOp zt (yc 5) (eC (.int 1)))) zeO) (ya (yc 2) qc)))) qc)))
noncomputable def zbF:Ev->Mem->Out Fl:=
 (zf (yk 7 (eTk (qp qc)))
 (zf (yL (z9 (ya (eOp zO (ye (call2 zgX) (ya (yc 4) (ya (eOp ixT (eFz (qp (ya (eC (.int 0)) (ya (eC (.int 1)) (ya (eC (.int 1)) (ya (eC (.int 1)) (ya (eC (.int 1)) (ya (eC (.int 2)) (ya (eC (.int 2)) (ya (eC (.int 3)) qc)))))))))) (ye yp (ya (yc 0) (ya (eC (.int 8)) qc)))) qc))) (ye (yn zfr) (ya (eOp ltI (eOp zt (yc 5) (eC (.int 1))) (ye (yn yI) (ya (yc 1) qc))) qc))) qc)) (yi 8) zbH)
 (zf (sIf (zcy (zJ (eOp eqA (yc 5) (eC (.int 0)))) (zcy (zJ (eOp eqA (yc 7) (eFz (qp qc)))) (zJ (eOp gtI (ye (yn yI) (ya (yc 1) qc)) (eC (.int 1)))))) (yV (zbc qW (eUn yJ (yc 7)) (ya (ye zbD (ya (yc 0) (ya (eSl (yc 1) (zeN (eC (.int 1))) zeO) (ya (yc 2) qc)))) qc))) zbl)
 (zf (yk 4 (eOp zdM (yc 4) (ye (yn yI) (ya (yc 7) qc))))
 (yV (zbc qW (eUn yJ (yc 3)) (ya (qu (ya (yc 6) (ya (ye (yn zN) (ya (yc 7) qc)) qc))) qc)))))))
noncomputable def zbE:Ev->Mem->Out Fl:=
 (yV (zbc qW (eUn yJ (yc 9)) (ya (qu (ya (yc 10) (ya (eOp ixT (eFz (qp (ya (eC (.str "first")) (ya (eC (.str "any")) qc)))) (ye yp (ya (yc 0) (ya (eC (.int 2)) qc)))) (ya (eOp zt (eC (.int 1)) (ye yp (ya (yc 0) (ya (eOp ixT (eFz (qp (ya (eC (.int 2)) (ya (eC (.int 3)) (ya (eC (.int 9)) qc))))) (ye yp (ya (yc 0) (ya (eC (.int 3)) qc)))) qc)))) qc)))) qc)))
noncomputable def zcd:Ev->Mem->Out Fl:=
 (zf (yk 1 (ye zal (ya (yc 0) (ya (eOp ixT (eFz (qp (ya (eC (.int 1)) (ya (eC (.int 2)) (ya (eC (.int 2)) (ya (eC (.int 2)) (ya (eC (.int 3)) (ya (eC (.int 3)) (ya (eC (.int 3)) (ya (eC (.int 4)) qc)))))))))) (ye yp (ya (yc 0) (ya (eC (.int 8)) qc)))) qc))))
 (zf (yk 2 (ye zal (ya (yc 0) (ya (eOp ixT (eFz (qp (ya (eC (.int 0)) (ya (eC (.int 1)) (ya (eC (.int 1)) (ya (eC (.int 2)) qc)))))) (ye yp (ya (yc 0) (ya (eC (.int 4)) qc)))) qc))))
 (zf (yk 3 (eTk (qp qc)))
 (zf (yk 4 (eC (.int 6)))
 (zf (yL (zdx (yc 1)) (zbt 2 (qE (yi 5) (qE (yi 6) zbu))) zbF)
 (zf (yk 9 (eTk (qp qc)))
 (zf (yL (yW (yc 2)) (yi 10) zbE)
 (zI (qu (ya (ye (yn zN) (ya (yc 3) qc)) (ya (ye (yn zN) (ya (yc 9) qc)) qc)))))))))))
noncomputable def yU:List FT.T->Mem->Out FT.T:=zj 1 11 (zcd)
section
variable {K:Frag}
theorem zk:FnScope ["pool","names","purses","houses","free","k","name","asks","j","kinds","purse"] ["pool"] (ze zap):=by ac_rfl
theorem yN (D:Df K mg "_law_drawn_net" zap ["pool"]) (T:Txt mg)   (yY:CalT P w K mg base 2 "_law_names" ["pool","many"] zal) (yj:CalT P w K mg base 1 "_law_next" ["pool","base"] yp) (zaK:CalT P w K mg base 2 "_law_ask" ["pool","later","purses"] zbD):CalT P w K mg base 3 "_law_drawn_net" ["pool"] yU:=
 zG D zk rfl rfl (fun f cdv A outer s H E hr=>(zd (yg (i:=1) zk.nd rfl (Or.inl rfl) (zi yY (hr.mono (by decide)) rfl (za (zb (pv 0)) (za (qf zp (yo (yh (za zc (za zc (za zc (za zc (za zc (za zc (za zc (za zc yb)))))))))) (zi yj (hr.mono (by decide)) rfl (za (zb (pv 0)) (za zc yb))) (fun _ _=>rfl)) yb))))
  (zd (yg (i:=2) zk.nd rfl (Or.inl rfl) (zi yY (hr.mono (by decide)) rfl (za (zb (pv 0)) (za (qf zp (yo (yh (za zc (za zc (za zc (za zc yb)))))) (zi yj (hr.mono (by decide)) rfl (za (zb (pv 0)) (za zc yb))) (fun _ _=>rfl)) yb))))
  (zd (yg (i:=3) zk.nd rfl (Or.inl rfl) (qO (yh yb)))
  (zd (yg (i:=4) zk.nd rfl (Or.inl rfl) zc)
  (zd (yz PassesOwn.never rfl (zhs rfl T.n_enumerate (zb (pv 1))) (zaE (zby rfl (WGs.pe (yx (qC (WG.pe (qh (qi (i:=5) zk.nd rfl (by first | exact Or.inl rfl | exact Or.inr rfl)))) (WGs.pe (yx (qC (WG.pe (qh (qi (i:=6) zk.nd rfl (by first | exact Or.inl rfl | exact Or.inr rfl)))) (WGs.pe z4))))))))) (zd (yg (i:=7) zk.nd rfl (Or.inl rfl) (qO (yh yb)))
  (zd (yz PassesOwn.never rfl (zau rfl T.n_range (za (qg zaH (yt (zit rfl) rfl T.n_min boot_min (za (zb (pv 4)) (za (qf zp (yo (yh (za zc (za zc (za zc (za zc (za zc (za zc (za zc (za zc yb)))))))))) (zi yj (hr.mono (by decide)) rfl (za (zb (pv 0)) (za zc yb))) (fun _ _=>rfl)) yb))) (zL zez rfl T.n_int boot_int (za (zcx zlV (qg yu (zb (pv 5)) zc) (yt yy rfl T.n_len boot_len (za (zb (pv 1)) yb)) (yD _)) yb))) yb)) (qh (qi (i:=8) zk.nd rfl (by first | exact Or.inl rfl | exact Or.inr rfl))) (qe (yF (zbv (yO PySem.F.plainAttrs_list PySem.F.slot_list_append PySem.F.type_list_append qX (WE.pe (zb (pv 7))) (WA.pe (za (zi zaK (hr.mono (by decide)) rfl (za (zb (pv 0)) (za (zht (zb (pv 1)) (zeX (qg yu (zb (pv 5)) zc)) zeY) (za (zb (pv 2)) yb)))) yb)))))))
  (zd (zaM (WW.gt (zcv (zF (zak hr.units) (zb (pv 5)) zc (yD _)) (zcv (zF (zak hr.units) (zb (pv 7)) (yo (yh yb)) (yD _)) (zcZ (zF zdq (yt yy rfl T.n_len boot_len (za (zb (pv 1)) yb)) zc (yD _)))))) (qe (yF (zbv (yO PySem.F.plainAttrs_list PySem.F.slot_list_append PySem.F.type_list_append qX (WE.pe (zb (pv 7))) (WA.pe (za (zi zaK (hr.mono (by decide)) rfl (za (zb (pv 0)) (za (zht (zb (pv 1)) (zeX zc) zeY) (za (zb (pv 2)) yb)))) yb)))))) qU)
  (zd (yg (i:=4) zk.nd rfl (Or.inl rfl) (qg zdZ (zb (pv 4)) (yt yy rfl T.n_len boot_len (za (zb (pv 7)) yb))))
  (qe (yF (zbv (yO PySem.F.plainAttrs_list PySem.F.slot_list_append PySem.F.type_list_append qX (WE.pe (zb (pv 3))) (WA.pe (za (ym (za (zb (pv 6)) (za (zL qS rfl T.n_tuple boot_tuple (za (zb (pv 7)) yb)) yb))) yb)))))))))))
  (zd (yg (i:=9) zk.nd rfl (Or.inl rfl) (qO (yh yb)))
  (zd (yz PassesOwn.never rfl (qF (zb (pv 2))) (qh (qi (i:=10) zk.nd rfl (by first | exact Or.inl rfl | exact Or.inr rfl))) (qe (yF (zbv (yO PySem.F.plainAttrs_list PySem.F.slot_list_append PySem.F.type_list_append qX (WE.pe (zb (pv 9))) (WA.pe (za (ym (za (zb (pv 10)) (za (qf zp (yo (yh (za zB (za zB yb)))) (zi yj (hr.mono (by decide)) rfl (za (zb (pv 0)) (za zc yb))) (fun _ _=>rfl)) (za (qg yu zc (zi yj (hr.mono (by decide)) rfl (za (zb (pv 0)) (za (qf zp (yo (yh (za zc (za zc (za zc yb))))) (zi yj (hr.mono (by decide)) rfl (za (zb (pv 0)) (za zc yb))) (fun _ _=>rfl)) yb)))) yb)))) yb)))))))
  (qe (zu (ym (za (zL qS rfl T.n_tuple boot_tuple (za (zb (pv 3)) yb)) (za (zL qS rfl T.n_tuple boot_tuple (za (zb (pv 9)) yb)) yb)))))))))))))
end
noncomputable def zcs:Ev->Mem->Out Fl:=
 (zI (zw qL zdh (eFz (zaz (yW (yc 0)) (yi 0) y4 (eOp ixT (yc 0) (eC (.int 0))) ["thing"] [])) (ya (yc 1) qc)))
noncomputable def qA:List FT.T->Mem->Out FT.T:=zj 2 2 (zcs)
section
variable {K:Frag}
theorem zeG:FnScope ["things","name"] ["things","name"] (ze zaS):=by ac_rfl
theorem yr (D:Df K mg "_law_place_of" zaS ["things","name"]) (T:Txt mg)   :CalT P w K mg base 1 "_law_place_of" ["things","name"] qA:=
 zG D zeG rfl rfl (fun f cdv A outer s H E hr=>(qe (zu (qK qY (yO PySem.F.plainAttrs_list PySem.F.slot_list_index PySem.F.type_list_index (zhT hr.units) (WE.pe (yo (y3 (tgs:=["thing"]) (caps:=[]) (qF (zb (pv 0))) (by bv_omega) (fun _ _ _=>(qh (qi (i:=0) (show (["thing"]:List Str).Nodup by decide +kernel) rfl (by first | exact Or.inl rfl | exact Or.inr rfl)))) (fun _ _ _=>zaL) (fun _ _ _=>(qf zp (zb (pv 0)) zc (fun _ _=>rfl)))))) (WA.pe (za (zb (pv 1)) yb)))))))
end
noncomputable def zcY (q_l_chains:List FT.T->Mem->Out FT.T):Ev->Mem->Out Fl:=
 (zf (yk 8 (qu (ya (yc 1) (ya (yc 4) (ya (yc 7) qc)))))
 (zf (yV (zbc qW (eUn yJ (yc 3)) (ya (qu (ya (qu (ya (yc 8) qc)) (ya (eUn zfk (eC (.int 1))) qc))) qc)))
 (yV (zw qL zas (yc 3) (ya (eFz (zaz (yW (yc 6)) (zbt 2 (qE (yi 0) (qE (yi 1) zbu))) y4 (qu (ya (eOp zt (qu (ya (yc 2) qc)) (yc 0)) (ya (yc 1) qc))) ["steps","at"] [("step",8)])) qc)))))
noncomputable def zcW (q_l_chains:List FT.T->Mem->Out FT.T):Ev->Mem->Out Fl:=
 (zf (yk 6 (ye q_l_chains (ya (yc 0) (ya (ye qA (ya (eOp ixT (yc 0) (eC (.int 0))) (ya (eOp ixT (yc 5) (eC (.int 0))) qc))) qc))))
 (yL (zcH (ya (eC (.int 1)) (ya (eOp zt (eC (.int 1)) (eOp ixT (eFz (qp (ya (eOp ixT (yc 5) (eC (.int 1))) (ya (eC (.int 2)) qc)))) (ye (yn zfr) (ya (eOp eqA (eOp ixT (yc 5) (eC (.int 1))) (eC (.int 0))) qc)))) qc))) (yi 7) (zcY q_l_chains)))
noncomputable def zaA (q_l_chains:List FT.T->Mem->Out FT.T):Ev->Mem->Out Fl:=
 (zf (yk 2 (eOp ixT (eOp ixT (eOp ixT (yc 0) (eC (.int 0))) (yc 1)) (eC (.int 1))))
 (zf (sIf (zJ (eOp eqA (yc 2) (qu qc))) (zI (eFz (qp (ya (qu (ya (qu qc) (ya (yc 1) qc))) qc)))) zbl)
 (zf (yk 3 (eTk (qp qc)))
 (zf (yL (zcI (yc 2)) (zbt 2 (qE (yi 4) (qE (yi 5) zbu))) (zcW q_l_chains))
 (zI (yc 3))))))
section
variable {K:Frag}
theorem yA:FnScope ["net","house","asks","found","i","ask","deeper","tries","step"] ["net","house"] (ze zaw):=by ac_rfl
theorem qM {L:Nat} {q_l_chains:List FT.T->Mem->Out FT.T} (hL:2<=L) (D:Df K mg "_law_chains" zaw ["net","house"]) (T:Txt mg) (qM:CalT P w K mg base L "_law_chains" ["net","house"] q_l_chains) (yr:CalT P w K mg base 1 "_law_place_of" ["things","name"] qA):CalT P w K mg base (L + 1) "_law_chains" ["net","house"] (zj 2 9 (zaA q_l_chains)):=
 zG D yA rfl rfl (fun f cdv A outer s H E hr=>(zd (yg (i:=2) yA.nd rfl (Or.inl rfl) (qf zp (qf zp (qf zp (zb (pv 0)) zc (fun _ _=>rfl)) (zb (pv 1)) (fun _ _=>rfl)) zc (fun _ _=>rfl)))
  (zd (zaM (zF (zak hr.units) (zb (pv 2)) (ym yb) (yD _)) (qe (zu (yo (yh (za (ym (za (ym yb) (za (zb (pv 1)) yb))) yb))))) qU)
  (zd (yg (i:=3) yA.nd rfl (Or.inl rfl) (qO (yh yb)))
  (zd (yz PassesOwn.never rfl (zeZ rfl T.n_enumerate (zb (pv 2))) (zaE (zby rfl (WGs.pe (yx (qC (WG.pe (qh (qi (i:=4) yA.nd rfl (by first | exact Or.inl rfl | exact Or.inr rfl)))) (WGs.pe (yx (qC (WG.pe (qh (qi (i:=5) yA.nd rfl (by first | exact Or.inl rfl | exact Or.inr rfl)))) (WGs.pe z4))))))))) (zd (yg (i:=6) yA.nd rfl (Or.inl rfl) (zi qM (hr.mono (by omega)) rfl (za (zb (pv 0)) (za (zi yr (hr.mono (by omega)) rfl (za (qf zp (zb (pv 0)) zc (fun _ _=>rfl)) (za (qf zp (zb (pv 5)) zc (fun _ _=>rfl)) yb))) yb))))
  (qe (yz PassesOwn.never rfl (zdn rfl T.n_range (za zc (za (qg yu zc (qf zp (yo (yh (za (qf zp (zb (pv 5)) zc (fun _ _=>rfl)) (za zc yb)))) (zL zez rfl T.n_int boot_int (za (zcx (zak hr.units) (qf zp (zb (pv 5)) zc (fun _ _=>rfl)) zc (yD _)) yb)) (fun _ _=>rfl))) yb))) (qh (qi (i:=7) yA.nd rfl (by first | exact Or.inl rfl | exact Or.inr rfl))) (zd (yg (i:=8) yA.nd rfl (Or.inr rfl) (ym (za (zb (pv 1)) (za (zb (pv 4)) (za (zb (pv 7)) yb)))))
  (zd (yF (zbv (yO PySem.F.plainAttrs_list PySem.F.slot_list_append PySem.F.type_list_append qX (WE.pe (zb (pv 3))) (WA.pe (za (ym (za (ym (za (zb (pv 8)) yb)) (za (zlj zjU zc) yb))) yb)))))
  (qe (yF (qK qY (yO PySem.F.plainAttrs_list PySem.F.slot_list_extend PySem.F.type_list_extend z8 (WE.pe (zb (pv 3))) (WA.pe (za (yo (y3 (tgs:=["steps","at"]) (caps:=[("step",8)]) (qF (zb (pv 6))) (by bv_omega) (fun _ _ _=>(zaE (zby rfl (WGs.pe (yx (qC (WG.pe (qh (qi (i:=0) (show (["steps","at","step"]:List Str).Nodup by decide +kernel) rfl (by first | exact Or.inl rfl | exact Or.inr rfl)))) (WGs.pe (yx (qC (WG.pe (qh (qi (i:=1) (show (["steps","at","step"]:List Str).Nodup by decide +kernel) rfl (by first | exact Or.inl rfl | exact Or.inr rfl)))) (WGs.pe z4)))))))))) (fun _ _ _=>zaL) (fun _ _ _=>(ym (za (qg yu (ym (za (zb (pv 2)) yb)) (zb (pv 0))) (za (zb (pv 1)) yb)))))) yb))))))))))))
  (qe (zu (zb (pv 3)))))))))
noncomputable def yZ:Nat->(List FT.T->Mem->Out FT.T)
 | 0=>(fun _ _=>.bad)
 | n + 1=>(zj 2 9 (zaA (zR ((yZ n)))))
noncomputable def zb3:List FT.T->Mem->Out FT.T:=zR ((yZ 12))
theorem zai (D_l_chains:Df K mg "_law_chains" zaw ["net","house"]) (T:Txt mg) (yr:CalT P w K mg base 1 "_law_place_of" ["things","name"] qA):∀ n,CalT P w K mg base (2 + n + 1) "_law_chains" ["net","house"] (yZ n)
 | 0=>CalT.bad D_l_chains yA
 | n + 1=>by
  have ih:=zai D_l_chains T yr n
  exact qM (by omega) D_l_chains T (CalT.refine ih (zb0 _) (zb1 _)) yr
end
noncomputable def zcX:Ev->Mem->Out Fl:=
 (sIf (zdo (zJ (eOp ixD (yc 4) (eC (.int 5))))) (zfc (eC (.bl true)) (zfR zdP (yc 1) (ye qA (ya (eOp ixD (yc 0) (eC (.int 0))) (ya (eOp ixD (yc 4) (eC (.int 0))) qc))))) zbl)
noncomputable def zcV:Ev->Mem->Out Fl:=
 (yL (yW (yc 3)) (yi 4) zcX)
noncomputable def zcU:Ev->Mem->Out Fl:=
 (yV (zw qL zas (yc 5) (ya (ye zb3 (ya (yc 0) (ya (yc 6) qc))) qc)))
noncomputable def zcT:Ev->Mem->Out Fl:=
 (yV (zw qL zas (yc 5) (ya (eFz (qp (ya (qu (ya (yc 7) (ya (eC (.str "shares")) qc))) (ya (qu (ya (yc 7) (ya (eC (.str "coins")) qc))) qc)))) qc)))
noncomputable def zdy:Ev->Mem->Out Fl:=
 (zf (yk 1 (zeT (eC (.int 0))))
 (zf (yL (yW (eOp ixD (yc 0) (eC (.int 0)))) (zbt 2 (qE (yi 2) (qE (yi 3) zbu))) zcV)
 (zf (yk 5 (eTk (qp qc)))
 (zf (yL (yW (eFz (lUn zch (yc 1)))) (yi 6) zcU)
 (zf (yk 5 (eTk (zcF zX (ya (yc 5) qc))))
 (zf (yL (z9 (ya (ye (yn zg5) (ya (eOp ixD (yc 0) (eC (.int 1))) qc)) qc)) (yi 7) zcT)
 (zI (yc 5))))))))
noncomputable def zb2:List FT.T->Mem->Out FT.T:=zj 1 8 (zdy)
noncomputable def zax:List FT.T->Mem->Out FT.T:=zdi (zb2)
section
variable {K:Frag}
theorem zA:FnScope ["net","begun","name","asks","ask","found","house","purse"] ["net"] (ze zbN):=by ac_rfl
theorem yM (D:Df K mg "_law_places" zbN ["net"]) (T:Txt mg)   (qM:CalT P w K mg base 15 "_law_chains" ["net","house"] zb3) (yr:CalT P w K mg base 1 "_law_place_of" ["things","name"] qA):CalT P w K mg base 16 "_law_places" ["net"] zb2:=
 zG D zA rfl rfl (fun f cdv A outer s H E hr=>(zd (yg (i:=1) zA.nd rfl (Or.inl rfl) zhu)
  (zd (yz PassesOwn.never rfl (qF (qf (zfp hr.units) (zb (pv 0)) zc (fun _ _=>rfl))) (zaE (zby rfl (WGs.pe (yx (qC (WG.pe (qh (qi (i:=2) zA.nd rfl (by first | exact Or.inl rfl | exact Or.inr rfl)))) (WGs.pe (yx (qC (WG.pe (qh (qi (i:=3) zA.nd rfl (by first | exact Or.inl rfl | exact Or.inr rfl)))) (WGs.pe z4))))))))) (qe (yz PassesOwn.never rfl (qF (zb (pv 3))) (qh (qi (i:=4) zA.nd rfl (by first | exact Or.inl rfl | exact Or.inr rfl))) (qe (zaM (zf9 (zf8 (qf (zfp hr.units) (zb (pv 4)) zc (fun _ _=>rfl)))) (qe (zdJ ze0 (zdK (zb (pv 1)) (zi yr (hr.mono (by decide)) rfl (za (qf (zfp hr.units) (zb (pv 0)) zc (fun _ _=>rfl)) (za (qf (zfp hr.units) (zb (pv 4)) zc (fun _ _=>rfl)) yb))) (zmP hr.units)))) qU)))))
  (zd (yg (i:=5) zA.nd rfl (Or.inl rfl) (qO (yh yb)))
  (zd (yz PassesOwn.never rfl (qF (yo (ziE rfl rfl T.n_sorted (zb (pv 1))))) (qh (qi (i:=6) zA.nd rfl (by first | exact Or.inl rfl | exact Or.inr rfl))) (qe (yF (qK qY (yO PySem.F.plainAttrs_list PySem.F.slot_list_extend PySem.F.type_list_extend z8 (WE.pe (zb (pv 5))) (WA.pe (za (zi qM (hr.mono (by decide)) rfl (za (zb (pv 0)) (za (zb (pv 6)) yb))) yb)))))))
  (zd (yg (i:=5) zA.nd rfl (Or.inl rfl) (qO (zen (zcu hr.units) rfl T.n_sorted boot_sorted (za (zb (pv 5)) yb))))
  (zd (yz PassesOwn.never rfl (zau rfl T.n_range (za (yt zix rfl T.n_len boot_len (za (qf (zfp hr.units) (zb (pv 0)) zc (fun _ _=>rfl)) yb)) yb)) (qh (qi (i:=7) zA.nd rfl (by first | exact Or.inl rfl | exact Or.inr rfl))) (qe (yF (qK qY (yO PySem.F.plainAttrs_list PySem.F.slot_list_extend PySem.F.type_list_extend z8 (WE.pe (zb (pv 5))) (WA.pe (za (yo (yh (za (ym (za (zb (pv 7)) (za zB yb))) (za (ym (za (zb (pv 7)) (za zB yb))) yb)))) yb)))))))
  (qe (zu (zb (pv 5)))))))))))
end
noncomputable def zfx:Ev->Mem->Out Fl:=
 (zf (yk 1 (eOp ixT (yc 0) (eOp zdM (ye (yn yI) (ya (yc 0) qc)) (eC (.int 1)))))
 (zI (eTk (qp (ya (ye (call2 zgY) (ya (eC (.int 0)) (ya (eOp zdM (yc 1) (eOp zgU (eC (.int 10)) (eC (.int 18)))) qc))) (ya (eOp zaU (yc 1) (eOp zgU (eC (.int 10)) (eC (.int 18)))) (ya (eC (.int 0)) qc)))))))
noncomputable def za1:List FT.T->Mem->Out FT.T:=zj 1 2 (zfx)
section
variable {K:Frag}
theorem zer:FnScope ["cells","cell"] ["cells"] (ze zc4):=by ac_rfl
theorem za3 (D:Df K mg "_law_pool" zc4 ["cells"]) (T:Txt mg)   :CalT P w K mg base 1 "_law_pool" ["cells"] za1:=
 zG D zer rfl rfl (fun f cdv A outer s H E hr=>(zd (yg (i:=1) zer.nd rfl (Or.inl rfl) (qf zp (zb (pv 0)) (qg zdZ (yt yy rfl T.n_len boot_len (za (zb (pv 0)) yb)) zc) (fun _ _=>rfl)))
  (qe (zu (qO (yh (za (yt (ziv rfl) rfl T.n_max boot_max (za zc (za (qg zdZ (zb (pv 1)) (qg zgl zc zc)) yb))) (za (qg y6 (zb (pv 1)) (qg zgl zc zc)) (za zc yb)))))))))
end
noncomputable def zcR:Ev->Mem->Out Fl:=
 (zI (zw qL zdh (eFz (zaz (yW (yc 0)) (yi 0) y4 (eOp ixT (yc 0) (eC (.int 0))) ["one"] [])) (ya (yc 1) qc)))
noncomputable def yS:List FT.T->Mem->Out FT.T:=zj 2 2 (zcR)
section
variable {K:Frag}
theorem ze9:FnScope ["named","name"] ["named","name"] (ze zbk):=by ac_rfl
theorem yT (D:Df K mg "number_of" zbk ["named","name"]) (T:Txt mg)   :CalT P w K mg base 1 "number_of" ["named","name"] yS:=
 zG D ze9 rfl rfl (fun f cdv A outer s H E hr=>(qe (zu (qK qY (yO PySem.F.plainAttrs_list PySem.F.slot_list_index PySem.F.type_list_index (zhT hr.units) (WE.pe (yo (y3 (tgs:=["one"]) (caps:=[]) (qF (zb (pv 0))) (by bv_omega) (fun _ _ _=>(qh (qi (i:=0) (show (["one"]:List Str).Nodup by decide +kernel) rfl (by first | exact Or.inl rfl | exact Or.inr rfl)))) (fun _ _ _=>zaL) (fun _ _ _=>(qf zp (zb (pv 0)) zc (fun _ _=>rfl)))))) (WA.pe (za (zb (pv 1)) yb)))))))
end
noncomputable def zdz:Ev->Mem->Out Fl:=
 (zI (ye yS (ya (eOp ixT (yc 0) (eC (.int 0))) (ya (eOp ixT (yc 1) (eC (.int 0))) qc))))
noncomputable def zE:List FT.T->Mem->Out FT.T:=zj 2 2 (zdz)
section
variable {K:Frag}
theorem zfV:FnScope ["net","ask"] ["net","ask"] (ze zbO):=by ac_rfl
theorem qw (D:Df K mg "asked_by" zbO ["net","ask"]) (T:Txt mg)   (yT:CalT P w K mg base 1 "number_of" ["named","name"] yS):CalT P w K mg base 2 "asked_by" ["net","ask"] zE:=
 zG D zfV rfl rfl (fun f cdv A outer s H E hr=>(qe (zu (zi yT (hr.mono (by decide)) rfl (za (qf zp (zb (pv 0)) zc (fun _ _=>rfl)) (za (qf zp (zb (pv 1)) zc (fun _ _=>rfl)) yb))))))
end
noncomputable def zbf:Ev->Mem->Out Fl:=
 (yV (zw qL zas (yc 1) (ya (eFz (zaz (yW (eOp ixT (yc 2) (eC (.int 1)))) (yi 0) (zdo (zJ (eOp ixT (yc 0) (eC (.int 5))))) (ye zE (ya (yc 1) (ya (yc 0) qc))) ["ask"] [("net",0)])) qc)))
noncomputable def zbC:Ev->Mem->Out Fl:=
 (zf (yk 1 (eTk (qp (ya (eC (.int 0)) qc))))
 (zf (yL (yW (eOp ixT (yc 0) (eC (.int 0)))) (yi 2) zbf)
 (zI (eFz (lUn za9 (yc 1))))))
noncomputable def qJ:List FT.T->Mem->Out FT.T:=zj 1 3 (zbC)
section
variable {K:Frag}
theorem zZ:FnScope ["net","found","house"] ["net"] (ze z6):=by ac_rfl
theorem zK (D:Df K mg "first_houses" z6 ["net"]) (T:Txt mg)   (qw:CalT P w K mg base 2 "asked_by" ["net","ask"] zE):CalT P w K mg base 3 "first_houses" ["net"] qJ:=
 zG D zZ rfl rfl (fun f cdv A outer s H E hr=>(zd (yg (i:=1) zZ.nd rfl (Or.inl rfl) (qO (yh (za zc yb))))
  (zd (yz PassesOwn.never rfl (qF (qf zp (zb (pv 0)) zc (fun _ _=>rfl))) (qh (qi (i:=2) zZ.nd rfl (by first | exact Or.inl rfl | exact Or.inr rfl))) (qe (yF (qK qY (yO PySem.F.plainAttrs_list PySem.F.slot_list_extend PySem.F.type_list_extend z8 (WE.pe (zb (pv 1))) (WA.pe (za (yo (y3 (tgs:=["ask"]) (caps:=[("net",0)]) (qF (qf zp (zb (pv 2)) zc (fun _ _=>rfl))) (by bv_omega) (fun _ _ _=>(qh (qi (i:=0) (show (["ask","net"]:List Str).Nodup by decide +kernel) rfl (by first | exact Or.inl rfl | exact Or.inr rfl)))) (fun _ _ _=>(ziD (zf9 (zf8 (qf zp (zb (pv 0)) zc (fun _ _=>rfl)))))) (fun _ _ _=>(zi qw (hr.mono (by decide)) rfl (za (zb (pv 1)) (za (zb (pv 0)) yb)))))) yb)))))))
  (qe (zu (yo (ziF rfl (zb (pv 1)) rfl T.n_sorted rfl T.n_set)))))))
end
noncomputable def zae (q_chains_from:List FT.T->Mem->Out FT.T):Ev->Mem->Out Fl:=
 (yV (zw qL zas (yc 3) (ya (eFz (zaz (yW (yc 6)) (zbt 2 (qE (yi 0) (qE (yi 1) zbu))) y4 (qu (ya (eOp zt (qu (ya (qu (ya (yc 2) (ya (yc 3) (ya (yc 4) qc)))) qc)) (yc 0)) (ya (yc 1) qc))) ["steps","end"] [("house",1),("at",4),("tried",7)])) qc)))
noncomputable def zbG (q_chains_from:List FT.T->Mem->Out FT.T):Ev->Mem->Out Fl:=
 (zf (yk 6 (eOp zt (eFz (qp (ya (qu (ya (qu qc) (ya (eC (.int (-1))) qc))) qc))) (ye q_chains_from (ya (yc 0) (ya (ye zE (ya (yc 0) (ya (yc 5) qc))) qc)))))
 (yL (zcH (ya (eC (.int 1)) (ya (eOp zt (eIf (zJ (eOp eqA (eOp ixT (yc 5) (eC (.int 1))) (eC (.int 0)))) (eC (.int 2)) (eOp ixT (yc 5) (eC (.int 1)))) (eC (.int 1))) qc))) (yi 7) (zae q_chains_from)))
noncomputable def zU (q_chains_from:List FT.T->Mem->Out FT.T):Ev->Mem->Out Fl:=
 (zf (yk 2 (eOp ixT (eOp ixT (eOp ixT (yc 0) (eC (.int 0))) (yc 1)) (eC (.int 1))))
 (zf (sIf (zJ (eOp eqA (ye (yn yI) (ya (yc 2) qc)) (eC (.int 0)))) (zI (eFz (qp (ya (qu (ya (qu qc) (ya (yc 1) qc))) qc)))) zbl)
 (zf (yk 3 (eTk (qp qc)))
 (zf (yL (zcI (yc 2)) (zbt 2 (qE (yi 4) (qE (yi 5) zbu))) (zbG q_chains_from))
 (zI (yc 3))))))
section
variable {K:Frag}
theorem zv:FnScope ["net","house","asks","chains","at","ask","beneath","tried"] ["net","house"] (ze qT):=by ac_rfl
theorem zD {L:Nat} {q_chains_from:List FT.T->Mem->Out FT.T} (hL:2<=L) (D:Df K mg "chains_from" qT ["net","house"]) (T:Txt mg) (zD:CalT P w K mg base L "chains_from" ["net","house"] q_chains_from) (qw:CalT P w K mg base 2 "asked_by" ["net","ask"] zE):CalT P w K mg base (L + 1) "chains_from" ["net","house"] (zj 2 8 (zU q_chains_from)):=
 zG D zv rfl rfl (fun f cdv A outer s H E hr=>(zd (yg (i:=2) zv.nd rfl (Or.inl rfl) (qf zp (qf zp (qf zp (zb (pv 0)) zc (fun _ _=>rfl)) (zb (pv 1)) (fun _ _=>rfl)) zc (fun _ _=>rfl)))
  (zd (zaM (zF (zak hr.units) (yt yy rfl T.n_len boot_len (za (zb (pv 2)) yb)) zc (yD _)) (qe (zu (yo (yh (za (ym (za (ym yb) (za (zb (pv 1)) yb))) yb))))) qU)
  (zd (yg (i:=3) zv.nd rfl (Or.inl rfl) (qO (yh yb)))
  (zd (yz PassesOwn.never rfl (zeZ rfl T.n_enumerate (zb (pv 2))) (zaE (zby rfl (WGs.pe (yx (qC (WG.pe (qh (qi (i:=4) zv.nd rfl (by first | exact Or.inl rfl | exact Or.inr rfl)))) (WGs.pe (yx (qC (WG.pe (qh (qi (i:=5) zv.nd rfl (by first | exact Or.inl rfl | exact Or.inr rfl)))) (WGs.pe z4))))))))) (zd (yg (i:=6) zv.nd rfl (Or.inl rfl) (qg yu (yo (yh (za (ym (za (ym yb) (za (zeo rfl T.c_STANDS) yb))) yb))) (zi zD (hr.mono (by omega)) rfl (za (zb (pv 0)) (za (zi qw (hr.mono (by omega)) rfl (za (zb (pv 0)) (za (zb (pv 5)) yb))) yb)))))
  (qe (yz PassesOwn.never rfl (zdn rfl T.n_range (za zc (za (qg yu (zlk (zF (zak hr.units) (qf zp (zb (pv 5)) zc (fun _ _=>rfl)) zc (yD _)) zc (qf zp (zb (pv 5)) zc (fun _ _=>rfl))) zc) yb))) (qh (qi (i:=7) zv.nd rfl (by first | exact Or.inl rfl | exact Or.inr rfl))) (qe (yF (qK qY (yO PySem.F.plainAttrs_list PySem.F.slot_list_extend PySem.F.type_list_extend z8 (WE.pe (zb (pv 3))) (WA.pe (za (yo (y3 (tgs:=["steps","end"]) (caps:=[("house",1),("at",4),("tried",7)]) (qF (zb (pv 6))) (by bv_omega) (fun _ _ _=>(zaE (zby rfl (WGs.pe (yx (qC (WG.pe (qh (qi (i:=0) (show (["steps","end","house","at","tried"]:List Str).Nodup by decide +kernel) rfl (by first | exact Or.inl rfl | exact Or.inr rfl)))) (WGs.pe (yx (qC (WG.pe (qh (qi (i:=1) (show (["steps","end","house","at","tried"]:List Str).Nodup by decide +kernel) rfl (by first | exact Or.inl rfl | exact Or.inr rfl)))) (WGs.pe z4)))))))))) (fun _ _ _=>zaL) (fun _ _ _=>(ym (za (qg yu (ym (za (ym (za (zb (pv 2)) (za (zb (pv 3)) (za (zb (pv 4)) yb)))) yb)) (zb (pv 0))) (za (zb (pv 1)) yb)))))) yb))))))))))
  (qe (zu (zb (pv 3)))))))))
noncomputable def yG:Nat->(List FT.T->Mem->Out FT.T)
 | 0=>(fun _ _=>.bad)
 | n + 1=>(zj 2 8 (zU (zR ((yG n)))))
noncomputable def zar:List FT.T->Mem->Out FT.T:=zR ((yG 12))
theorem qQ (D_chains_from:Df K mg "chains_from" qT ["net","house"]) (T:Txt mg) (qw:CalT P w K mg base 2 "asked_by" ["net","ask"] zE):∀ n,CalT P w K mg base (2 + n + 1) "chains_from" ["net","house"] (yG n)
 | 0=>CalT.bad D_chains_from zv
 | n + 1=>by
  have ih:=qQ D_chains_from T qw n
  exact zD (by omega) D_chains_from T (CalT.refine ih (zb0 _) (zb1 _)) qw
end
noncomputable def za5 (k_TooMany:Addr):Ev->Mem->Out Fl:=
 (yV (zw qL zas (yc 1) (ya (ye zar (ya (yc 0) (ya (yc 2) qc))) qc)))
noncomputable def za4 (k_TooMany:Addr):Ev->Mem->Out Fl:=
 (yV (zw qL zas (yc 3) (ya (eFz (qp (ya (qu (ya (yc 4) (ya (eC (.str "shares")) qc))) (ya (qu (ya (yc 4) (ya (eC (.str "coins")) qc))) qc)))) qc)))
noncomputable def zcQ (k_TooMany:Addr):Ev->Mem->Out Fl:=
 (zf (yk 1 (eTk (qp qc)))
 (zf (yL (yW (ye qJ (ya (yc 0) qc))) (yi 2) (za5 k_TooMany))
 (zf (yk 3 (eTk (zcF zX (ya (yc 1) qc))))
 (zf (yL (z9 (ya (ye (yn yI) (ya (eOp ixT (yc 0) (eC (.int 1))) qc)) qc)) (yi 4) (za4 k_TooMany))
 (zf (sIf (zJ (eOp gtI (ye (yn yI) (ya (yc 3) qc)) (eC (.int 100)))) (zcm (zaj k_TooMany) (ya (eC (.str "the net has too many places")) qc)) zbl)
 (zI (ye (yn zN) (ya (yc 3) qc))))))))
noncomputable def zS (k_TooMany:Addr):List FT.T->Mem->Out FT.T:=zQ 1 5 (zcQ k_TooMany)
variable {k_TooMany:Addr}
section
variable {K:Frag}
theorem zP:FnScope ["net","chains","house","places","purse"] ["net"] (ze zbj):=by ac_rfl
theorem zT (D:Df K mg "places_of" zbj ["net"]) (T:Txt mg) (x_TooMany:ExcAt K mg "TooMany" k_TooMany)  (zK:CalT P w K mg base 3 "first_houses" ["net"] qJ) (zD:CalT P w K mg base 15 "chains_from" ["net","house"] zar):CalX P w K mg base 16 "places_of" ["net"] (zS k_TooMany):=
 ziG D zP rfl rfl (fun f cdv A outer s H E hr=>(zd (yg (i:=1) zP.nd rfl (Or.inl rfl) (qO (yh yb)))
  (zd (yz PassesOwn.leaving rfl (qF (zi zK (hr.mono (by decide)) rfl (za (zb (pv 0)) yb))) (qh (qi (i:=2) zP.nd rfl (by first | exact Or.inl rfl | exact Or.inr rfl))) (qe (yF (qK qY (yO PySem.F.plainAttrs_list PySem.F.slot_list_extend PySem.F.type_list_extend z8 (WE.pe (zb (pv 1))) (WA.pe (za (zi zD (hr.mono (by decide)) rfl (za (zb (pv 0)) (za (zb (pv 2)) yb))) yb)))))))
  (zd (yg (i:=3) zP.nd rfl (Or.inl rfl) (qO (zen (zcu hr.units) rfl T.n_sorted boot_sorted (za (zb (pv 1)) yb))))
  (zd (yz PassesOwn.leaving rfl (zau rfl T.n_range (za (yt yy rfl T.n_len boot_len (za (qf zp (zb (pv 0)) zc (fun _ _=>rfl)) yb)) yb)) (qh (qi (i:=4) zP.nd rfl (by first | exact Or.inl rfl | exact Or.inr rfl))) (qe (yF (qK qY (yO PySem.F.plainAttrs_list PySem.F.slot_list_extend PySem.F.type_list_extend z8 (WE.pe (zb (pv 3))) (WA.pe (za (yo (yh (za (ym (za (zb (pv 4)) (za zB yb))) (za (ym (za (zb (pv 4)) (za zB yb))) yb)))) yb)))))))
  (zd (zaM (zF zdq (yt yy rfl T.n_len boot_len (za (zb (pv 3)) yb)) (zeo rfl T.c_MOST_PLACES) (yD _)) (qe (zgD x_TooMany (hr.mono (by decide)) rfl rfl rfl rfl rfl (za zB yb))) qU)
  (qe (zu (zL qS rfl T.n_tuple boot_tuple (za (zb (pv 3)) yb))))))))))
end
noncomputable def ziA (k_TooMany:Addr):Ev->Mem->Out Fl:=
 (zf (yk 2 (ye yU (ya (ye za1 (ya (eFz (qp (ya (yc 1) qc))) qc)) qc)))
 (zf (yk 3 (ye zax (ya (yc 2) qc)))
 (zf (yk 4 (eC .non))
 (zf (zfb [k_TooMany] (yk 4 (ye (zS k_TooMany) (ya (yc 2) qc))) (yk 4 (eC .non)))
 (sIf (ziK (zcy (zJ (eOp gtI (ye (yn yI) (ya (yc 3) qc)) (eC (.int 100)))) (zJ (eOp zdu (yc 4) (eC .non)))) (zcy (zJ (eOp leI (ye (yn yI) (ya (yc 3) qc)) (eC (.int 100)))) (zJ (eOp neA (yc 4) (ye (yn zN) (ya (yc 3) qc)))))) (zI (eC (.bl false))) zbl)))))
noncomputable def zjH (k_TooMany:Addr):Ev->Mem->Out Fl:=
 (zf (yL (yW (eOp zt (eFz (qp (ya (eC (.int 0)) qc))) (yc 0))) (yi 1) (ziA k_TooMany))
 (zI (eC (.bl true))))
noncomputable def zeS (k_TooMany:Addr):List FT.T->Mem->Out FT.T:=zj 1 5 (zjH k_TooMany)
section
variable {K:Frag}
theorem zaR:FnScope ["script","cell","net","due","found"] ["script"] (ze zgN):=by ac_rfl
theorem zl0 {f:Addr} {fd:FuncData} (D:Fun K "law" "law" zgN f fd) (T:Txt mg) (x_TooMany:ExcAt K mg "TooMany" k_TooMany)  (yN:CalT P w K mg base 3 "_law_drawn_net" ["pool"] yU) (yM:CalT P w K mg base 16 "_law_places" ["net"] zax) (za3:CalT P w K mg base 1 "_law_pool" ["cells"] za1) (zT:CalX P w K mg base 16 "places_of" ["net"] (zS k_TooMany)):FnOk P w K mg base CX0 17 f fd ["script"] (spT K (zeS k_TooMany)):=
 zjP D zaR rfl rfl (fun cdv A outer s H E hr=>(zd (yz PassesOwn.never rfl (qF (qg yu (yo (yh (za zc yb))) (zb (pv 0)))) (qh (qi (i:=1) zaR.nd rfl (by first | exact Or.inl rfl | exact Or.inr rfl))) (zd (yg (i:=2) zaR.nd rfl (Or.inl rfl) (zi yN (hr.mono (by decide)) rfl (za (zi za3 (hr.mono (by decide)) rfl (za (yo (yh (za (zb (pv 1)) yb))) yb)) yb)))
  (zd (yg (i:=3) zaR.nd rfl (Or.inl rfl) (zi yM (hr.mono (by decide)) rfl (za (zb (pv 2)) yb)))
  (zd (yg (i:=4) zaR.nd rfl (Or.inl rfl) zcw)
  (zd (zjS (cs:=[k_TooMany]) (zjQ (i:=4) zaR.nd rfl rfl zT (hr.mono (by decide)) rfl (fun _ _=>(za (zb (pv 2)) yb))) (List.forall_mem_cons.mpr ⟨zjY x_TooMany,List.forall_mem_nil _⟩) rfl rfl rfl rfl (fun _=>(qe (yg (i:=4) zaR.nd rfl (Or.inl rfl) zcw))))
  (qe (zaM (WW.gt (zli (WW.gt (zcv (zF zdq (yt yy rfl T.n_len boot_len (za (zb (pv 3)) yb)) zc (yD _)) (zcZ (zF zhP (zb (pv 4)) zcw (yD _))))) (zjR (WW.gt (zcv (zF zlW (yt yy rfl T.n_len boot_len (za (zb (pv 3)) yb)) zc (yD _)) (zcZ (zF (zlU hr.units) (zb (pv 4)) (zL qS rfl T.n_tuple boot_tuple (za (zb (pv 3)) yb)) (yD _)))))))) (qe (zu ze0)) qU)))))))
  (qe (zu ze0))))
end
end My
open Lean in
local macro_rules | `(tactic| simp_arith [$xs,*]) => do
  let ids := ("FT.zhF FT.zod FT.zoe FT.startT FT.zf FT.zI FT.yk FT.sIf FT.yV FT.zfc FT.zbl FT.yL FT.yc FT.eC FT.eOp FT.eUn FT.zoN FT.eOr FT.zoM FT.eIf FT.ye FT.qu FT.eFz FT.eTk FT.qp FT.zcF FT.zov FT.lOp FT.eSl FT.zeO FT.zeN FT.zjb FT.zed FT.zok FT.zoA FT.zbc FT.qc FT.ya FT.zJ FT.zcy FT.ziK FT.zdo FT.zox FT.zld FT.zn5 FT.yd FT.zns FT.znu FT.znt FT.znM FT.znL FT.znO FT.znN FT.yi FT.zfR FT.zbt FT.qE FT.zbu FT.yW FT.z9 FT.zcH FT.ze8 FT.ixT FT.zdY FT.zha FT.zoJ FT.zoI FT.zoH FT.zoG FT.zaz FT.zct FT.y4 Option.join_some Option.join_none FT.znP FT.znQ FT.zcj FT.zoD FT.zoC FT.zoB map_cons map_nil Qm length_nil List.cons_append nil_append List.getElem?_cons_zero List.getElem?_cons_succ List.set_cons_zero List.set_cons_succ List.replicate Nat.zero_add Nat.reduceAdd Nat.reduceSub FT.zoi FT.zoh FT.zoj FT.zgC Int.reduceBEq Int.reduceLT FT.zoa FT.zop FT.zoq FT.zos FT.zot FT.zon FT.zog FT.zou FT.zoo FT.zor FT.znU Bool.false_eq_true reduceIte Nat.reduceEqDiff Nat.succ.injEq Bool.not_true Bool.not_false FT.zkC FT.zof FT.zow Int.reduceToNat Int.reducePow ne_eq Int.reduceEq not_false_eq_true Int.reduceNeg Bool.bne_true Bool.bne_false Bool.true_bne Bool.false_bne decide_true decide_false FT.zb9 FT.zn4 FT.zn3 FT.zob FT.zoc".splitOn " ").toArray.map fun s => Lean.mkIdent s.toName
  `(tactic| simp (config := {decide := true}) only [$[$ids:term],*, $xs,*])
namespace My
open PySem L2 FT
structure Ask where
 to:Str
 tries:Int
 purse:Option Str
 word:Str
 hears:Bool
 sure:Bool
structure Hs where
 name:Str
 asks:List Ask
structure Pu where
 name:Str
 earns:Str
 per:Int
structure Net where
 hs:List Hs
 ps:List Pu
noncomputable def opS (o:Option Str):FT.T:=o.elim .non .str
noncomputable def zo (a:Ask):FT.T:=.tup [.str a.to,.int a.tries,opS a.purse,.str a.word,.bl a.hears,.bl a.sure]
noncomputable def hsT (h:Hs):FT.T:=.tup [.str h.name,.tup (h.asks.map zo)]
noncomputable def puT (p:Pu):FT.T:=.tup [.str p.name,.str p.earns,.int p.per]
noncomputable def qD (n:Net):FT.T:=.tup [.tup (n.hs.map hsT),.tup (n.ps.map puT)]
noncomputable abbrev nT (n:Nat):FT.T:=.int (n:Int)
variable {i:Nat}
theorem ziB {α:Type} {f:α->FT.T} {xs:List α} {x:α} (e:xs[i]? = some x):atI (xs.map f) (i:Int) = some (f x):=by rw [FT.zaf,Q9,e];rfl
noncomputable def zaZ (s:Str):List Str->Nat->Option Nat
 | [],_=>none
 | y :: ys,k=>if (y == s) = true then some k else zaZ s ys (k + 1)
theorem zh3 (s:Str):∀ (ys:List Str) (k:Nat),zd5 (.str s) (ys.map .str) k = zaZ s ys k
 | [],_=>rfl
 | y :: ys,k=>by
  show (if (y == s) = true then some k else zd5 (.str s) (ys.map .str) (k + 1)) = _
  rw [zh3 s ys (k + 1)]
  rfl
theorem zgv {s:Str}:∀ {ys:List Str} {k n:Nat},zaZ s ys k = some n->k<=n/\n < k + ys.length
 | [],_,_,h=>by cases h
 | y :: ys,k,n,h=>by
  unfold zaZ at h
  split at h
  ·cases h;simp
  ·have:=zgv h
   rw [Qm]
   omega
noncomputable def Net.hix (n:Net) (s:Str):Nat:=(zaZ s (n.hs.map (·.name)) 0).getD 0
noncomputable def Net.asks (n:Net) (h:Nat):List Ask:=((n.hs[h]?).map (·.asks)).getD []
structure WA (n:Net) (i:Nat) (a:Ask):Prop where
 to:zaZ a.to (n.hs.map (·.name)) 0 = some (n.hix a.to)
 up:i < n.hix a.to
 t0:0<=a.tries
 t4:a.tries<=4
structure WN (n:Net):Prop where
 hl:n.hs.length<=4
 h1:0 < n.hs.length
 pl:n.ps.length<=2
 al:∀ i,(n.asks i).length<=3
 as:∀ i a,a ∈ n.asks i->WA n i a
variable {n:Net}
theorem WA.lt {a:Ask} (h:WA n i a):n.hix a.to < n.hs.length:=by
 have:=zgv h.to
 simp at this
 exact this
variable {ys:List Str} {s:Str}
theorem zkM (nd:ys.Nodup) {j:Nat} (h:ys[j]? = some s):∀ k,zaZ s ys k = some (k + j):=by
 induction ys generalizing j with
 | nil=>simp at h
 | cons y ys ih=>
  intro k
  have nd':=nodup_cons.mp nd
  unfold zaZ
  cases j with
  | zero=>
   simp at h
   rw [h]
   simp
  | succ j=>
   simp at h
   have hne:¬ (y == s) = true:=fun z=>by
    have:y = s:=by simpa using z
    exact nd'.1 (this ▸ Q8 h)
   rw [if_neg hne,ih nd'.2 h (k + 1)]
   congr 1
   omega
theorem zfn {k:Nat} (h:s ∈ ys.drop k):∃ j,k<=j/\ys[j]? = some s:=by
 obtain ⟨i,hi⟩:=mem_iff_getElem?.mp h
 rw [getElem?_drop] at hi
 exact ⟨k + i,by omega,hi⟩
theorem zfv {α:Type} (xs:List α) (nm:α->Str) (tl:α->List FT.T) (hl:xs.length<=1000) (M:Mem):zn (yi 0) y4 (eOp ixT (yc 0) (eC (.int 0))) (xs.map fun x=>FT.T.tup (.str (nm x) :: tl x)) [none] M [] = .ok ((xs.map nm).map .str) M:=by
 rw [map_map]
 exact Ok.mapc (r:=fun x=>FT.T.tup (.str (nm x) :: tl x)) (fun σ=>∃ o,σ = [o]) _ ⟨_,rfl⟩ (by omega) (by
  rintro x σ hx ⟨o,rfl⟩
  exact ⟨[some (.tup (.str (nm x) :: tl x))],rfl,⟨_,rfl⟩,by simp_arith [and_self];rfl⟩)
theorem zh4 {n:Nat} (h:zaZ s ys 0 = some n) (M:Mem):zdh (.lst (ys.map .str)) [.str s] M = .ok (nT n) M:=by
 unfold zdh yq
 dsimp only
 rw [if_pos,zh3,h]
 rw [Qo]
 refine ⟨rfl,all_eq_true.mpr fun t ht=>?_⟩
 obtain ⟨y,_,rfl⟩:=mem_map.mp ht
 rfl
theorem zhS (wn:WN n) {k:Nat} (h:zaZ s (n.hs.map (·.name)) 0 = some k) (M:Mem):yS [.tup (n.hs.map hsT),.str s] M = .ok (nT k) M:=by
 unfold yS zcR
 have c:=zfv n.hs (·.name) (fun h=>[.tup (h.asks.map zo)]) (by have:=wn.hl;omega) M
 rw [show (n.hs.map fun h=>FT.T.tup (.str h.name :: [.tup (h.asks.map zo)])) = n.hs.map hsT from rfl] at c
 have i1:qL (.lst ((n.hs.map (·.name)).map .str)) M = true:=rfl
 simp_arith [c,zw,i1,zh4 h]
theorem zfh (wn:WN n) {k:Nat} (h:zaZ s (n.hs.map (·.name)) 0 = some k) (M:Mem):qA [.tup (n.hs.map hsT),.str s] M = .ok (nT k) M:=by
 unfold qA zcs
 have c:=zfv n.hs (·.name) (fun h=>[.tup (h.asks.map zo)]) (by have:=wn.hl;omega) M
 rw [show (n.hs.map fun h=>FT.T.tup (.str h.name :: [.tup (h.asks.map zo)])) = n.hs.map hsT from rfl] at c
 have i1:qL (.lst ((n.hs.map (·.name)).map .str)) M = true:=rfl
 simp_arith [c,zw,i1,zh4 h]
theorem zfT (wn:WN n) {a:Ask} (w:WA n i a) (M:Mem):zE [qD n,zo a] M = .ok (nT (n.hix a.to)) M:=by
 unfold zE zdz qD zo
 simp_arith [zhS wn w.to]
noncomputable def cel (x y z:Int):Cell:=.lst [.int x,.int y,.int z]
def PO (a:Nat) (M:Mem):Prop:=∃ x y z,M[a]? = some (cel x y z)
variable {M:Mem}
theorem PO.fr {a:Nat} {M':Mem} (h:PO a M) {S:List Nat} (f:Fr S M M') (hs:a ∉ S):PO a M':=by
 obtain ⟨x,y,z,e⟩:=h
 exact ⟨x,y,z,f.get e hs⟩
theorem zkh (c:Int) (M:Mem):∃ x y z,za1 [.lst [.int c]] M = .ok (.ref M.length) (M ++ [cel x y z]):=by
 unfold za1 zfx
 refine ⟨if c - 10 ^ 18 > 0 then c - 10 ^ 18 else 0,c.fmod (10 ^ 18),0,?_⟩
 simp_arith [and_self]
 rfl
theorem yC {a:Nat} {base:Int} (e:PO a M) (h:0 < base) (hb:base.natAbs < 10 ^ 100) :
  Ok (yp [.ref a,.int base] M) fun t M'=>∃ d:Int,t = .int d/\0<=d/\d < base/\PO a M'/\Fr [a] M M':=by
 obtain ⟨x,y,z,e⟩:=e
 unfold cel at e
 have ha:a < M.length:=qR e
 have hd:∀ i M,zdk (.int i) (.int base) M = .ok (.int (i.fdiv base)) M:=fun i M=>zeb (zjL 100 (by decide) (by omega) hb)
 have hm:∀ i M,zaU (.int i) (.int base) M = .ok (.int (i.fmod base)) M:=fun i M=>zkC (by omega)
 have lo:∀ i:Int,0<=i.fmod base/\i.fmod base < base:=fun i=>by
  rw [Int.fmod_eq_emod_of_nonneg _ (by omega)]
  exact ⟨Int.emod_nonneg _ (by omega),Int.emod_lt_of_pos _ h⟩
 refine zH rfl ?_
 unfold zfy
 by_cases hp:0 < x
 ·simp_arith [e,hd,hm,Qq hp]
  exact Ok.ret ⟨_,rfl,(lo _).1,(lo _).2,⟨_,_,_,get_set e⟩,Fr.set _ _ _⟩
 ·have hs:∀ c:Cell,(M.set a c)[a]? = some c:=fun c=>by rw [getElem?_set,if_pos rfl,if_pos ha]
  have h1:∀ j M,zO (.int 6089) (.int j) M = .ok (.int (6089 * j)) M:=fun j M=>zbz (by decide)
  have hx:∀ x:Int,0<=x.fmod 1000000007/\x.fmod 1000000007 < 1000000007:=fun x=>by rw [Int.fmod_eq_emod_of_nonneg _ (by decide)];omega
  have hy:∀ x:Int,0<=x.fmod 998244353/\x.fmod 998244353 < 998244353:=fun x=>by rw [Int.fmod_eq_emod_of_nonneg _ (by decide)];omega
  have h2:∀ (x y:Int) M,zO (.int (x.fmod 1000000007 + 17)) (.int y) M = .ok (.int ((x.fmod 1000000007 + 17) * y)) M:=fun x y M=>zbz (by have:=hx x;omega)
  have h3:∀ (x y:Int) M,zO (.int (x.fmod 998244353)) (.int y) M = .ok (.int (x.fmod 998244353 * y)) M:=fun x y M=>zbz (by have:=hy x;omega)
  have h16:∀ (i:Int) M,zdk (.int i) (.int 16) M = .ok (.int (i.fdiv 16)) M:=fun i M=>zeb (zjL 2 (by decide) (by decide) (by decide))
  simp_arith [e,hd,hm,Qr hp,hs,h1,h2,h3,h16]
  exact Ok.ret ⟨_,rfl,(lo _).1,(lo _).2,⟨_,_,_,get_set e⟩,Fr.set _ _ _⟩
variable {d:Int} {xs:List Int}
theorem pick (h0:0<=d) (h1:d < xs.length):∃ v ∈ xs,atI (xs.map FT.T.int) d = some (.int v):=by
 obtain ⟨x,h1,h2⟩:=zfS (xs:=xs.map FT.T.int) h0 (by simpa using h1)
 obtain ⟨v,hv,rfl⟩:=mem_map.mp h2
 exact ⟨v,hv,h1⟩
theorem zbx (lo hi:Int) (h0:0<=d) (h1:d < xs.length) (h:xs.all (fun v=>decide (lo<=v/\v<=hi)) = true):∃ v:Int,atI (xs.map FT.T.int) d = some (.int v)/\lo<=v/\v<=hi:=by
 obtain ⟨v,hv,e⟩:=pick h0 h1
 have:=all_eq_true.mp h v hv
 exact ⟨v,e,of_decide_eq_true this⟩
theorem zeM {xs:List Str} (h0:0<=d) (h1:d < xs.length):∃ v ∈ xs,atI (xs.map FT.T.str) d = some (.str v):=by
 obtain ⟨x,h1,h2⟩:=zfS (xs:=xs.map FT.T.str) h0 (by simpa using h1)
 obtain ⟨v,hv,rfl⟩:=mem_map.mp h2
 exact ⟨v,hv,h1⟩
end My
namespace FT
open PySem L2
variable {σ:Ev} {p q:Ev->Mem->Out Fl} {M:Mem}
theorem Ok.seqX {Q:Fl->Mem->Prop} (h:∀ X,X = qB q->Ok ((p σ M).bind X) Q):Ok (zf p q σ M) Q:=h _ rfl
theorem Ok.seqR {Q:T->Mem->Prop} (h:∀ X,X = (fun fl M=>(qB q fl M).bind zc6)->Ok ((p σ M).bind X) Q):Ok ((zf p q σ M).bind zc6) Q:=by
 have:=h _ rfl
 unfold zf
 rw [zb9]
 exact this
end FT
namespace My
open PySem L2 FT
noncomputable abbrev S (l:List Nat):Str:=⟨l.toArray⟩
theorem zjO (l:List Nat):(S l).length = l.length:=by simp [Str.length]
theorem zn8 (z:Str):z = S z.cps.toList:=by simp
theorem sz {n:Nat} (h:n<=10000):n<=sizeLine:=by rw [sizeLine_eq];omega
theorem adE {l m:List Nat} (h:l.length + m.length<=10000) (M:Mem):zt (.str (S l)) (.str (S m)) M = .ok (.str (S (l ++ m))) M:=by
 unfold zt
 dsimp only
 rw [if_pos (sz (by rw [zjO,zjO];exact h))]
 congr 2
 show Str.append _ _ = _
 unfold Str.append
 simp
theorem zjy {b:Int} (h:b.natAbs < 10):b.natAbs < 10 ^ 100:=Q5 h (show 10 ^ 1<=10 ^ 100 from Nat.pow_le_pow_right (by decide) (by decide))
theorem zmF:∀ n:Nat,n < 26->atI (Str.ofString "abcdefghijklmnopqrstuvwxyz").cps.toList (n:Int) = some (97 + n):=by decide +kernel
theorem zmd {n:Nat} (h:n < 26) (M:Mem):ixS (.str "abcdefghijklmnopqrstuvwxyz") (.int (n:Int)) M = .ok (.str (S [97 + n])) M:=by
 unfold ixS
 simp only [zmF n h]
 exact if_pos (sz (by decide))
noncomputable def nm (f:Nat) (tl:List Nat) (k:Nat):Str:=S ([97 + (f + 3 * k) % 26] ++ tl)
variable {M:Mem}
theorem zfm {a:Nat} (e:PO a M) {n:Nat} (hn:n<=4):Ok (zal [.ref a,.int (n:Int)] M) fun t M'=>∃ ws:List Str,t = .lst (ws.map .str)/\ws.length = n/\ws.Nodup/\PO a M'/\Fr [a] M M':=by
 refine zH rfl ?_
 unfold zev
 try simp_arith [and_self]
 refine Ok.bind (yC e (by decide) (by decide)) ?_
 rintro t M1 ⟨fv,rfl,f0,f1,p1,r1⟩
 obtain ⟨f,rfl⟩:∃ f:Nat,fv = f:=⟨fv.toNat,by omega⟩
 try simp_arith [and_self]
 refine Ok.bind (yC p1 (by decide) (by decide)) ?_
 rintro t M2 ⟨d,rfl,d0,d1,p2,r2⟩
 obtain ⟨z,hz,hat⟩:=zeM (xs:=["","x","ab","seventh"]) d0 (by simpa using d1)
 simp only [map_cons,map_nil] at hat
 obtain ⟨tl,rfl,htl⟩:∃ tl,z = S tl/\tl.length<=7:=by
  refine ⟨z.cps.toList,zn8 z,?_⟩
  simp only [mem_cons,not_mem_nil,or_false] at hz
  rcases hz with rfl | rfl | rfl | rfl <;> decide
 have cp:zn (yi 0) y4 (eOp zt (eOp ixS (eC (.str "abcdefghijklmnopqrstuvwxyz")) (eOp zaU (eOp zt (yc 1) (eOp zO (eC (.int 3)) (yc 0))) (eC (.int 26)))) (yc 2)) ((rgI n).map .int) [none,some (.int (f:Int)),some (.str (S tl))] M2 [] = .ok ((rgI n).map fun k=>.str (nm f tl k.toNat)) M2:=
  Ok.mapc (r:=FT.T.int) (fun σ=>∃ o,σ = [o,some (.int (f:Int)),some (.str (S tl))]) _ ⟨_,rfl⟩ (by rw [zcC];omega) (by
   rintro k σ hk ⟨o,rfl⟩
   refine ⟨[some (.int k),some (.int (f:Int)),some (.str (S tl))],rfl,⟨_,rfl⟩,?_⟩
   obtain ⟨j,rfl⟩:∃ j:Nat,k = j:=⟨k.toNat,by have:=zdT.mp hk;omega⟩
   have m1:∀ M,zO (.int 3) (.int (j:Int)) M = .ok (.int (3 * (j:Int))) M:=fun M=>zbz (by decide)
   have hd:((f:Int) + 3 * (j:Int)).fmod 26 = (((f + 3 * j) % 26:Nat):Int):=by rw [Int.fmod_eq_emod_of_nonneg _ (by decide)];omega
   simp_arith [m1,hd,zmd (n:=(f + 3 * j) % 26) (by omega),adE (l:=[97 + (f + 3 * j) % 26]) (m:=tl) (by simp;omega)]
   rfl)
 simp_arith [hat,zcB (show -(2 ^ 62)<=(n:Int)/\(n:Int) < 2 ^ 62 by omega),Int.toNat_natCast,cp]
 refine Ok.ret ⟨(rgI n).map fun k=>nm f tl k.toNat,by rw [map_map];rfl,by rw [Qe,zcC],?_,p2,r1.trans r2⟩
 refine pairwise_map.mpr (List.Pairwise.imp_of_mem ?_ (zlt n))
 intro i j hi hj hlt e
 have hi:=zdT.mp hi
 have hj:=zdT.mp hj
 have e:=congrArg (fun s:Str=>s.cps.toList) e
 have e:97 + (f + 3 * i.toNat) % 26 = 97 + (f + 3 * j.toNat) % 26:=by
  have:[97 + (f + 3 * i.toNat) % 26] ++ tl = [97 + (f + 3 * j.toNat) % 26] ++ tl:=by simpa [nm] using e
  have:=List.append_cancel_right this
  simpa using this
 omega
structure AO (later:List Str) (q:Ask):Prop where
 to:q.to ∈ later
 t0:0<=q.tries
 t4:q.tries<=4
theorem zh2 (b:Bool) (M:Mem):zfr (.bl b) M = .ok (.int (if b then 1 else 0)) M:=rfl
variable {i:Int}
theorem zkD {j:Int} :zgX (.int i) (.int j) M = .ok (.int (if j < i then j else i)) M:=rfl
variable {xs ys:List FT.T}
theorem zjz (h:xs.length + ys.length<=10000) (M:Mem):zt (.lst xs) (.lst ys) M = .ok (.lst (xs ++ ys)) M:=by
 unfold zt yq
 dsimp only
 rw [if_pos (sz h)]
theorem ziC {a:Nat} (e:PO a M) {later ps:List Str} (hl:later ≠ []) (hl4:later.length<=4) (hp:ps.length<=2) :
  Ok (zbD [.ref a,.lst (later.map .str),.lst (ps.map .str)] M) fun t M'=>∃ q:Ask,t = zo q/\AO later q/\PO a M'/\Fr [a] M M':=by
 refine zH rfl ?_
 unfold zgw
 rw [show startT 6 [.ref a,.lst (later.map FT.T.str),.lst (ps.map FT.T.str)] = [some (.ref a),some (.lst (later.map FT.T.str)),some (.lst (ps.map FT.T.str)),none,none,none] from rfl]
 have hll:=List.length_pos_iff.mpr hl
 refine Ok.seqR fun X hX=>?_
 simp_arith [and_self]
 refine Ok.bind (yC e (by decide) (by decide)) ?_
 rintro t M1 ⟨d,rfl,d0,d1,p1,r1⟩
 obtain ⟨tr,hat,t0,t4⟩:=zbx (xs:=[1,1,2,2,2,3,0,4]) 0 4 d0 (by simpa using d1) (by decide)
 simp only [map_cons,map_nil] at hat
 simp_arith [hat]
 rw [hX];clear hX;simp only [yd]
 refine Ok.seqR fun X hX=>?_
 have m2:∀ M,zO (.int 2) (.int (ps.length:Int)) M = .ok (.int (2 * (ps.length:Int))) M:=fun M=>zbz (by decide)
 simp_arith [zjz (xs:=[FT.T.non]) (ys:=ps.map FT.T.str) (by simp;omega),Qe,m2]
 rw [show FT.T.non :: ps.map FT.T.str = [FT.T.non] ++ ps.map FT.T.str from rfl] at *
 simp_arith [zjz (xs:=FT.T.non :: ps.map FT.T.str) (ys:=ps.map FT.T.str) (by simp;omega)]
 refine Ok.bind (yC p1 (by omega) (zjy (by omega))) ?_
 rintro t M2 ⟨d,rfl,d0,d1,p2,r2⟩
 obtain ⟨pv,hat2,hpv⟩:∃ o:Option Str,atI (FT.T.non :: (ps.map FT.T.str ++ ps.map FT.T.str)) d = some (opS o)/\True:=by
  obtain ⟨x,h1,h2⟩:=zfS (xs:=FT.T.non :: (ps.map FT.T.str ++ ps.map FT.T.str)) d0 (by simp;omega)
  rcases mem_cons.mp h2 with rfl | h2
  ·exact ⟨none,h1,trivial⟩
  ·have:x ∈ ps.map FT.T.str:=by rcases mem_append.mp h2 with h | h <;> exact h
   obtain ⟨v,_,rfl⟩:=mem_map.mp this
   exact ⟨some v,h1,trivial⟩
 simp_arith [hat2]
 rw [hX];clear hX;simp only [yd]
 refine Ok.seqR fun X hX=>?_
 simp_arith [and_self]
 refine Ok.bind (yC p2 (by decide) (by decide)) ?_
 rintro t M3 ⟨d,rfl,d0,d1,p3,r3⟩
 obtain ⟨wd,_,hat3⟩:=zeM (xs:=["bad","spent"]) d0 (by simpa using d1)
 simp only [map_cons,map_nil] at hat3
 simp_arith [hat3]
 rw [hX];clear hX;simp only [yd]
 simp_arith [Qe]
 refine Ok.bind (yC p3 (by omega) (zjy (by omega))) ?_
 rintro t M4 ⟨d,rfl,d0,d1,p4,r4⟩
 obtain ⟨to,hto,hat4⟩:=zeM (xs:=later) d0 d1
 simp_arith [hat4]
 refine Ok.bind (yC p4 (by decide) (by decide)) ?_
 rintro t M5 ⟨d5,rfl,d0,d1,p5,r5⟩
 simp_arith [and_self]
 refine Ok.bind (yC p5 (by decide) (by decide)) ?_
 rintro t M6 ⟨d6,rfl,d0,d1,p6,r6⟩
 simp_arith [sz (show 6<=10000 by decide)]
 exact Ok.ret ⟨⟨to,tr,pv,wd,d5 == 0,d6 == 0⟩,rfl,⟨hto,t0,t4⟩,p6,((((r1.trans r2).trans r3).trans r4).trans r5).trans r6⟩
theorem zfC {α:Type} (f:α->FT.T) (xs:List α) (k:Nat):zbq (xs.map f) (some (k:Int)) none = (xs.drop k).map f:=by
 unfold zbq
 rw [HT.zj4,HT.ziO,Qe,← map_drop,← map_take]
 congr 1
 by_cases h:k<=xs.length
 ·rw [Nat.min_eq_left h,take_of_length_le (by rw [length_drop];omega)]
 ·rw [Nat.min_eq_right (by omega),List.drop_of_length_le (Q3 _),List.drop_of_length_le (by omega)]
  simp
theorem zea {α:Type} (f:α->FT.T) (xs:List α):enT (xs.map f) = xs.zipIdx.map fun q=>FT.T.tup [nT q.2,f q.1]:=by
 unfold enT
 rw [List.mapIdx_eq_zipIdx_map,List.zipIdx_map,map_map]
 rfl
theorem zdm {α:Type} {xs:List α} {k:Nat} {q:α × Nat} (h:xs.zipIdx[k]? = some q):q.2 = k/\xs[k]? = some q.1:=by
 rw [List.getElem?_zipIdx] at h
 cases z:xs[k]? with
 | none=>rw [z] at h;cases h
 | some x=>rw [z] at h;cases h;exact ⟨Nat.zero_add k,rfl⟩
theorem eq_nil {a:Nat} (e:M[a]? = some (.lst xs)):eqA (.ref a) (.lst []) M = .ok (.bl xs.isEmpty) M:=by
 have l1:yq (.ref a) M = some xs:=zbb e
 have l2:yq (.lst []) M = some []:=rfl
 unfold eqA eqD
 simp only [l1,l2]
 cases xs with
 | nil=>rfl
 | cons x xs=>rfl
theorem zl2 {a:Nat} (e:PO a M):Ok (yU [.ref a] M) fun t M'=>∃ n:Net,t = qD n/\WN n:=by
 refine zH rfl ?_
 unfold zcd
 rw [show startT 11 [.ref a] = [some (.ref a),none,none,none,none,none,none,none,none,none,none] from rfl]
 refine Ok.seqR fun X hX=>?_
 simp_arith [and_self]
 refine Ok.bind (yC e (by decide) (by decide)) ?_
 rintro t M1 ⟨d,rfl,d0,d1,p1,_⟩
 obtain ⟨nv,hat,n1,n4⟩:=zbx (xs:=[1,2,2,2,3,3,3,4]) 1 4 d0 (by simpa using d1) (by decide)
 simp only [map_cons,map_nil] at hat
 obtain ⟨N,rfl⟩:∃ N:Nat,nv = N:=⟨nv.toNat,by omega⟩
 simp_arith [hat]
 refine Ok.bind (zfm p1 (by omega)) ?_
 rintro t M2 ⟨ws,rfl,hwl,hwn,p2,_⟩
 try simp_arith [and_self]
 rw [hX];clear hX;simp only [yd]
 refine Ok.seqR fun X hX=>?_
 simp_arith [and_self]
 refine Ok.bind (yC p2 (by decide) (by decide)) ?_
 rintro t M3 ⟨d,rfl,d0,d1,p3,_⟩
 obtain ⟨nv,hat,m0,m2⟩:=zbx (xs:=[0,1,1,2]) 0 2 d0 (by simpa using d1) (by decide)
 simp only [map_cons,map_nil] at hat
 obtain ⟨P,rfl⟩:∃ N:Nat,nv = N:=⟨nv.toNat,by omega⟩
 simp_arith [hat]
 refine Ok.bind (zfm p3 (by omega)) ?_
 rintro t M4 ⟨ps,rfl,hpl,hpn,p4,_⟩
 try simp_arith [and_self]
 rw [hX];clear hX;simp only [yd]
 refine Ok.seqR fun X hX=>?_
 simp_arith [and_self]
 rw [hX];clear hX;simp only [yd]
 refine Ok.seqR fun X hX=>?_
 simp_arith [and_self]
 rw [hX];clear hX;simp only [yd]
 have ha:a < M4.length:=by obtain ⟨x,y,z,e⟩:=p4;exact qR e
 have en:enT (ws.map FT.T.str) = ws.zipIdx.map fun q=>FT.T.tup [nT q.2,.str q.1]:=zea _ _
 refine Ok.seqR fun X hX=>?_
 simp_arith [zdx,en]
 refine Ok.bind (Ok.for (r:=fun q:Str × Nat=>FT.T.tup [nT q.2,.str q.1]) (xs:=ws.zipIdx) (fun k σ M'=>∃ (ss:List Hs) (fr:Int) (o5 o6 o7 o8:Option FT.T),σ = [some (.ref a),some (.lst (ws.map .str)),some (.lst (ps.map .str)),some (.ref M4.length),some (.int fr),o5,o6,o7,o8,none,none]/\6 - 3 * (k:Int)<=fr/\fr<=6/\M'[M4.length]? = some (.lst (ss.map hsT))/\ss.map (·.name) = ws.take k/\(∀ (i:Nat) h,ss[i]? = some h->h.asks.length<=3/\∀ q ∈ h.asks,AO (ws.drop (i + 1)) q)/\PO a M') ⟨[],6,none,none,none,none,rfl,by omega,by omega,qr,rfl,fun i h e=>by simp at e,p4.fr (Fr.app _ _) (by simp)⟩ ?_) ?_
 ·rintro k q σ M5 hq ⟨ss,fr,o5,o6,o7,o8,rfl,hf0,hf6,g5,hnm,hss,p5⟩
  obtain ⟨hqk,hqx⟩:=zdm hq
  have hk:k < ws.length:=(List.getElem?_eq_some_iff.mp hqx).1
  have hsl:ss.length = k:=by
   have:=congrArg List.length hnm
   rw [Qe,Qn] at this
   omega
  have l5:=qR g5
  simp_arith [hqk]
  unfold zbF
  refine Ok.seqX fun X hX=>?_
  simp_arith [and_self]
  rw [hX];clear hX;simp only [yd]
  have p6:PO a (M5 ++ [Cell.lst []]):=p5.fr (Fr.app _ _) (by simp)
  refine Ok.seqX fun X hX=>?_
  simp_arith [Qe]
  refine Ok.bind (yC p6 (by decide) (by decide)) ?_
  rintro t M7 ⟨d,rfl,d0,d1,p7,f7⟩
  obtain ⟨v,hat,v0,v3⟩:=zbx (xs:=[0,1,1,1,1,2,2,3]) 0 3 d0 (by simpa using d1) (by decide)
  simp only [map_cons,map_nil] at hat
  obtain ⟨c,hc,hc3,hck⟩:∃ c:Int,(if v < fr then v else fr) * (if (decide ((k:Int) + 1 < (ws.length:Int))) = true then 1 else 0) = c/\(-100<=c/\c<=3)/\(0 < c->k + 1 < ws.length):=by
   by_cases h:(k:Int) + 1 < (ws.length:Int)
   ·rw [Qq h,if_pos rfl,Int.mul_one]
    exact ⟨_,rfl,by split <;> omega,fun _=>by omega⟩
   ·rw [Qr h]
    simp only [Bool.false_eq_true,if_false,Int.mul_zero]
    exact ⟨0,rfl,by decide,fun h=>by omega⟩
  have ml:∀ (x y:Int) M,(x = if v < fr then v else fr)->zO (.int x) (.int y) M = .ok (.int (x * y)) M:=fun x y M h=>zbz (by rw [h];split <;> omega)
  simp_arith [hat,zkD,zh2,ml _ _ _ rfl,hc,zcB (M:=M7) (j:=c) (by omega)]
  have g7:M7[M4.length]? = some (.lst (ss.map hsT)):=f7.get ((Fr.app M5 [Cell.lst []]).get0 g5) (by simp;omega)
  have cu:zbq (ws.map FT.T.str) (some ((k:Int) + 1)) none = (ws.drop (k + 1)).map .str:=by
   rw [show (k:Int) + 1 = ((k + 1:Nat):Int) by omega,zfC]
  have cu0:zbq (ws.map FT.T.str) (some 1) none = (ws.drop 1).map .str:=zfC _ _ 1
  have ll:∀ M,yq (.lst (ws.map FT.T.str)) M = some (ws.map .str):=fun M=>rfl
  refine Ok.bind (Ok.for (r:=FT.T.int) (xs:=rgI c.toNat) (fun j σ M'=>∃ (as:List Ask) (o8:Option FT.T),σ = [some (.ref a),some (.lst (ws.map .str)),some (.lst (ps.map .str)),some (.ref M4.length),some (.int fr),some (nT k),some (.str q.1),some (.ref M5.length),o8,none,none]/\M'[M5.length]? = some (.lst (as.map zo))/\as.length = j/\(∀ q ∈ as,AO (ws.drop (k + 1)) q)/\M'[M4.length]? = some (.lst (ss.map hsT))/\PO a M') ⟨[],_,rfl,f7.get qr (by simp;omega),rfl,(fun q h=>by cases h),g7,p7⟩ ?_) ?_
  ·rintro j x σ M8 hx ⟨as,o8,rfl,g8,haj,hao,h8,p8⟩
   obtain ⟨hj,rfl⟩:=zgf hx
   unfold zbH
   simp_arith [y2 g8,ll,cu]
   refine Ok.bind (ziC p8 (later:=ws.drop (k + 1)) (ps:=ps) (fun z=>by have:=congrArg List.length z;rw [length_drop] at this;simp at this;omega) (by rw [length_drop];omega) (by omega)) ?_
   rintro t M9 ⟨q',rfl,hq',p9,f9⟩
   have l8:=qR g8
   have g9:M9[M5.length]? = some (.lst (as.map zo)):=f9.get g8 (by simp;omega)
   have ap:=za6 (t:=zo q') g9 (by rw [Qe,sizeLine_eq];omega)
   simp_arith [ap]
   refine Ok.ret ⟨_,rfl,as ++ [q'],_,rfl,by rw [map_append];exact get_set g9,by simp [haj],fun x hx=>?_,?_,p9.fr (Fr.set _ _ _) (by simp;omega)⟩
   ·rcases mem_append.mp hx with hx | hx
    ·exact hao x hx
    ·rw [mem_singleton.mp hx];exact hq'
   ·exact (Fr.set _ _ _).get (f9.get h8 (by simp;omega)) (by simp;omega)
  rintro fl M8 ⟨σ,rfl,as,o8',rfl,g8,haj,hao,h8,p8⟩
  rw [zcC] at haj
  rw [hX];clear hX;simp only [yd]
  refine Ok.seqX fun X hX=>?_
  have l8:=qR g8
  have key:∀ (as:List Ask) (M8:Mem),M8[M5.length]? = some (.lst (as.map zo))->as.length<=3->(∀ q ∈ as,AO (ws.drop (k + 1)) q)->M8[M4.length]? = some (.lst (ss.map hsT))->PO a M8->
    Ok ((zf (yk 4 (eOp zdM (yc 4) (ye (yn yI) (ya (yc 7) qc)))) (yV (zbc qW (eUn yJ (yc 3)) (ya (qu (ya (yc 6) (ya (ye (yn zN) (ya (yc 7) qc)) qc))) qc)))) [some (.ref a),some (.lst (ws.map .str)),some (.lst (ps.map .str)),some (.ref M4.length),some (.int fr),some (nT k),some (.str q.1),some (.ref M5.length),o8',none,none] M8) fun fl M'=>∃ σ,fl = .nx σ/\∃ (ss:List Hs) (fr:Int) (o5 o6 o7 o8:Option FT.T),σ = [some (.ref a),some (.lst (ws.map .str)),some (.lst (ps.map .str)),some (.ref M4.length),some (.int fr),o5,o6,o7,o8,none,none]/\6 - 3 * ((k + 1:Nat):Int)<=fr/\fr<=6/\M'[M4.length]? = some (.lst (ss.map hsT))/\ss.map (·.name) = ws.take (k + 1)/\(∀ (i:Nat) h,ss[i]? = some h->h.asks.length<=3/\∀ q ∈ h.asks,AO (ws.drop (i + 1)) q)/\PO a M':=by
   intro as M8 g8 ha3 hao h8 p8
   refine Ok.seqX fun X hX=>?_
   simp_arith [zdc g8]
   rw [hX];clear hX;simp only [yd]
   have ap:=za6 (t:=hsT ⟨q.1,as⟩) h8 (by rw [Qe,sizeLine_eq];omega)
   rw [show ss.map hsT ++ [hsT ⟨q.1,as⟩] = (ss ++ [(⟨q.1,as⟩:Hs)]).map hsT from by simp,show hsT ⟨q.1,as⟩ = .tup [.str q.1,.tup (as.map zo)] from rfl] at ap
   simp_arith [y2 h8,zav g8,ap,Qe]
   refine Ok.ret ⟨_,rfl,ss ++ [⟨q.1,as⟩],fr - as.length,_,_,_,_,rfl,by omega,by omega,get_set h8,?_,fun i h hi=>?_,p8.fr (Fr.set _ _ _) (by simp;omega)⟩
   ·rw [map_append,hnm,take_succ,hqx];rfl
   ·rw [List.getElem?_append] at hi
    split at hi
    ·exact hss i h hi
    ·have:i = k:=by
      have:=(List.getElem?_eq_some_iff.mp hi).1
      rw [length_singleton] at this
      omega
     subst this
     rw [hsl,Nat.sub_self] at hi
     cases hi
     exact ⟨ha3,hao⟩
  by_cases hk0:k = 0
  ·cases as with
   | cons x xs=>
    simp_arith [show (((k:Nat):Int) == 0) = true by simp [hk0],eq_nil g8,map_cons,List.isEmpty_cons]
    rw [hX];clear hX;simp only [yd]
    exact key (x :: xs) M8 g8 (by omega) hao h8 p8
   | nil=>
    by_cases h1:(1:Int) < (ws.length:Int)
    ·subst hk0
     simp_arith [show (((0:Nat):Int) == 0) = true from rfl,eq_nil g8,map_nil,isEmpty_nil,Qe,Qq h1,y2 g8,ll,cu0]
     refine Ok.bind (ziC p8 (later:=ws.drop 1) (ps:=ps) (fun z=>by have:=congrArg List.length z;rw [length_drop] at this;simp at this;omega) (by rw [length_drop];omega) (by omega)) ?_
     rintro t M9 ⟨q',rfl,hq',p9,f9⟩
     have g9:M9[M5.length]? = some (.lst (List.map zo [])):=f9.get g8 (by simp;omega)
     have ap:=za6 (t:=zo q') g9 (by simp [sizeLine_eq])
     simp_arith [ap]
     rw [hX];clear hX;simp only [yd]
     exact key [q'] _ (get_set g9) (by simp) (fun x hx=>by rw [mem_singleton.mp hx];exact hq') ((Fr.set _ _ _).get (f9.get h8 (by simp;omega)) (by simp;omega)) (p9.fr (Fr.set _ _ _) (by simp;omega))
    ·simp_arith [show (((k:Nat):Int) == 0) = true by simp [hk0],eq_nil g8,map_nil,isEmpty_nil,Qe,Qr h1]
     rw [hX];clear hX;simp only [yd]
     exact key [] M8 g8 (by simp) hao h8 p8
  ·simp_arith [show (((k:Nat):Int) == 0) = false by simp;omega]
   rw [hX];clear hX;simp only [yd]
   exact key as M8 g8 (by omega) hao h8 p8
 rintro fl M5 ⟨σ,rfl,ss,fr,o5,o6,o7,o8,rfl,_,_,g5,hnm,hss,p5⟩
 rw [length_zipIdx,take_length] at hnm
 rw [hX];clear hX;simp only [yd]
 refine Ok.seqR fun X hX=>?_
 simp_arith [and_self]
 rw [hX];clear hX;simp only [yd]
 have l5:=qR g5
 refine Ok.seqR fun X hX=>?_
 simp_arith [and_self]
 refine Ok.bind (Ok.for (r:=FT.T.str) (xs:=ps) (fun k σ M'=>∃ (us:List Pu) (o10:Option FT.T),σ = [some (.ref a),some (.lst (ws.map .str)),some (.lst (ps.map .str)),some (.ref M4.length),some (.int fr),o5,o6,o7,o8,some (.ref M5.length),o10]/\M'[M5.length]? = some (.lst (us.map puT))/\us.length = k/\M'[M4.length]? = some (.lst (ss.map hsT))/\PO a M') ⟨[],none,rfl,qr,rfl,(Fr.app M5 [Cell.lst []]).get0 g5,p5.fr (Fr.app _ _) (by simp)⟩ ?_) ?_
 ·rintro k x σ M7 hx ⟨us,o10,rfl,g7,hul,h7,p7⟩
  have hk:=(List.getElem?_eq_some_iff.mp hx).1
  unfold zbE
  simp_arith [y2 g7]
  refine Ok.bind (yC p7 (by decide) (by decide)) ?_
  rintro t M8 ⟨z,rfl,z0,z1,p8,f8⟩
  obtain ⟨ea,hea,hat⟩:=zeM (xs:=["first","any"]) z0 (by simpa using z1)
  simp only [map_cons,map_nil] at hat
  simp_arith [hat]
  refine Ok.bind (yC p8 (by decide) (by decide)) ?_
  rintro t M9 ⟨y,rfl,y0,y1,p9,f9⟩
  obtain ⟨b,hb,b0,b9⟩:=zbx (xs:=[2,3,9]) 2 9 y0 (by simpa using y1) (by decide)
  simp only [map_cons,map_nil] at hb
  simp_arith [hb]
  refine Ok.bind (yC p9 (by omega) (zjy (by omega))) ?_
  rintro t M10 ⟨u,rfl,u0,u1,p10,f10⟩
  have l7:=qR g7
  have fa:Fr [a] M7 M10:=(f8.trans f9).trans f10
  have g10:M10[M5.length]? = some (.lst (us.map puT)):=fa.get g7 (by simp;omega)
  have h10:M10[M4.length]? = some (.lst (ss.map hsT)):=fa.get h7 (by simp;omega)
  have ap:=za6 (t:=puT ⟨x,ea,1 + u⟩) g10 (by rw [Qe,sizeLine_eq];omega)
  rw [show us.map puT ++ [puT ⟨x,ea,1 + u⟩] = (us ++ [(⟨x,ea,1 + u⟩:Pu)]).map puT from by simp,show puT ⟨x,ea,1 + u⟩ = .tup [.str x,.str ea,.int (1 + u)] from rfl] at ap
  simp_arith [ap]
  exact Ok.ret ⟨_,rfl,us ++ [⟨x,ea,1 + u⟩],_,rfl,get_set g10,by simp [hul],(Fr.set _ _ _).get h10 (by simp;omega),p10.fr (Fr.set _ _ _) (by simp;omega)⟩
 rintro fl M7 ⟨σ,rfl,us,o10,rfl,g7,hul,h7,p7⟩
 rw [hX];clear hX;simp only [yd]
 simp_arith [zav g7,zav h7]
 refine Ok.ret ⟨⟨ss,us⟩,rfl,?_⟩
 have hsn:ss.length = ws.length:=by have:=congrArg List.length hnm;rwa [Qe] at this
 have asE:∀ i,(Net.mk ss us).asks i = ((ss[i]?).map (·.asks)).getD []:=fun _=>rfl
 refine ⟨by show ss.length<=4;omega,by show 0 < ss.length;omega,by show us.length<=2;omega,fun i=>?_,fun i q hq=>?_⟩
 ·rw [asE]
  cases e:ss[i]? with
  | none=>simp
  | some h=>exact (hss i h e).1
 ·rw [asE] at hq
  cases e:ss[i]? with
  | none=>rw [e] at hq;cases hq
  | some h=>
   rw [e] at hq
   have ao:=(hss i h e).2 q hq
   obtain ⟨j,hj,ej⟩:=zfn ao.to
   have qq:=zkM hwn ej 0
   rw [Nat.zero_add] at qq
   have nmE:(Net.mk ss us).hs.map (·.name) = ws:=hnm
   have qx:(Net.mk ss us).hix q.to = j:=by unfold Net.hix;rw [nmE,qq];rfl
   exact ⟨by rw [nmE,qq,qx],by omega,ao.t0,ao.t4⟩
noncomputable abbrev Ch:=List (Nat × Nat × Nat) × Int
noncomputable def stT (s:Nat × Nat × Nat):FT.T:=.tup [nT s.1,nT s.2.1,nT s.2.2]
noncomputable def chT (c:Ch):FT.T:=.tup [.tup (c.1.map stT),.int c.2]
noncomputable def trN (a:Ask):Nat:=if a.tries = 0 then 2 else a.tries.toNat
noncomputable def con (s:Nat × Nat × Nat) (c:Ch):Ch:=(s :: c.1,c.2)
noncomputable def chs (n:Net):Nat->Nat->List Ch
 | 0,_=>[]
 | k + 1,h=>if (n.asks h).isEmpty = true then [([],(h:Int))] else (n.asks h).zipIdx.flatMap fun q=>(List.range (trN q.1)).flatMap fun t=>(([],-1) :: chs n k (n.hix q.1.to)).map (con (h,q.2,t + 1))
noncomputable def bL:Nat->Nat
 | 0=>1
 | k + 1=>12 * (1 + bL k)
theorem bL4:∀ {k:Nat},k<=4->bL k<=43356
 | 0,_=>by decide
 | 1,_=>by decide
 | 2,_=>by decide
 | 3,_=>by decide
 | 4,_=>by decide
 | k + 5,h=>by omega
theorem y9 {α β:Type} (g:α->List β) (B:Nat):∀ (xs:List α),(∀ x ∈ xs,(g x).length<=B)->(xs.flatMap g).length<=xs.length * B
 | [],_=>by simp
 | x :: xs,h=>by
  rw [List.flatMap_cons,Qk,Qm,Nat.succ_mul]
  have:=h x (mem_cons_self ..)
  have:=y9 g B xs fun y hy=>h y (mem_cons_of_mem _ hy)
  omega
theorem zkE {α:Type} {xs:List α} {q:α × Nat} (h:q ∈ xs.zipIdx):q.1 ∈ xs:=by
 obtain ⟨k,hk⟩:=mem_iff_getElem?.mp h
 exact Q8 (zdm hk).2
variable {n:Net}
theorem ziJ {i:Nat} {a:Ask} (w:WA n i a):trN a<=4:=by
 have:=w.t4
 have:=w.t0
 unfold trN
 split <;> omega
theorem zaI {n:Net} (wn:WN n):∀ k h,(chs n k h).length<=bL k
 | 0,_=>by simp [chs,bL]
 | k + 1,h=>by
  unfold chs bL
  split
  ·simp;omega
  ·refine Qg (y9 _ (4 * (1 + bL k)) _ fun q hq=>?_) ?_
   ·have w:=wn.as h q.1 (zkE hq)
    refine Qg (y9 _ (1 + bL k) _ fun t _=>?_) ?_
    ·rw [Qe,Qm]
     have:=zaI wn k (n.hix q.1.to)
     omega
    ·rw [List.length_range]
     exact Nat.mul_le_mul_right _ (ziJ w)
   ·rw [length_zipIdx]
    have:=wn.al h
    have:(n.asks h).length * (4 * (1 + bL k))<=3 * (4 * (1 + bL k)):=Nat.mul_le_mul_right _ this
    omega
theorem zef (n:Net):∀ k h,∀ c ∈ chs n k h,c.1.length<=k
 | 0,_,c,hc=>by cases hc
 | k + 1,h,c,hc=>by
  unfold chs at hc
  split at hc
  ·rw [mem_singleton.mp hc];simp
  ·obtain ⟨q,_,hc⟩:=mem_flatMap.mp hc
   obtain ⟨t,_,hc⟩:=mem_flatMap.mp hc
   obtain ⟨c',hc',rfl⟩:=mem_map.mp hc
   show c'.1.length + 1<=k + 1
   rcases mem_cons.mp hc' with rfl | hc'
   ·simp
   ·have:=zef n k _ c' hc'
    omega
theorem zio (c:Ch):FT.T.lt 0 (chT c):=by
 refine .tup fun t ht=>?_
 simp only [mem_cons,not_mem_nil,or_false] at ht
 rcases ht with rfl | rfl
 ·refine .tup fun t ht=>?_
  obtain ⟨s,_,rfl⟩:=mem_map.mp ht
  refine .tup fun t ht=>?_
  simp only [mem_cons,not_mem_nil,or_false] at ht
  rcases ht with rfl | rfl | rfl <;> exact .int _
 ·exact .int _
variable {cs:List Ch}
theorem zic {f:List FT.T->Mem->Out FT.T} {ts:List FT.T} (h:Ok (f ts M) fun t M'=>(t = .lst (cs.map chT)/\M' = M)\/(t = .ref M.length/\M' = M ++ [.lst (cs.map chT)])):zR f ts M = .ok (.lst (cs.map chT)) M:=by
 have hl:∀ x ∈ cs.map chT,FT.T.lt 0 x:=fun x hx=>by
  obtain ⟨c,_,rfl⟩:=mem_map.mp hx
  exact zio c
 obtain ⟨t,M',e,⟨rfl,rfl⟩ | ⟨rfl,rfl⟩⟩:=h
 ·unfold zR
  rw [e]
  exact if_pos ⟨by simp,.lst hl⟩
 ·unfold zR
  rw [e]
  simp only [qr]
  exact if_pos ⟨by simp,Q3 _,hl⟩
theorem zaa {a:Nat} (e:M[a]? = some (.lst xs)) (h:xs.length + ys.length < 1000000):zas (.ref a) [.lst ys] M = .ok .non (M.set a (.lst (xs ++ ys))):=by
 unfold zas
 simp only [e,if_pos h]
theorem zcz {c d:Cell}:(M ++ [c]).set M.length d = M ++ [d]:=by simp
theorem y8 {a:Nat} (e:M[a]? = some (.lst xs)):qL (.ref a) M = true:=by
 unfold qL
 simp only [zbb e]
 rfl
theorem zy {α β:Type} (g:α->List β) {xs:List α} {k:Nat} {x:α} (h:xs[k]? = some x):(xs.take (k + 1)).flatMap g = (xs.take k).flatMap g ++ g x:=by
 rw [take_succ,h,flatMap_append]
 simp
theorem zbJ {α β:Type} (g:α->List β) (xs:List α) (k:Nat):((xs.take k).flatMap g).length<=(xs.flatMap g).length:=by
 conv=>rhs;rw [← take_append_drop k xs,flatMap_append,Qk]
 omega
theorem zfw {h:Nat} (hh:h < n.hs.length):∃ x,n.hs[h]? = some x/\x.asks = n.asks h:=by
 refine ⟨n.hs[h],Q0 hh,?_⟩
 unfold Net.asks
 rw [Q0 hh]
 rfl
theorem zdD (n:Net) (k h:Nat) (he:(n.asks h).isEmpty = false):chs n (k + 1) h = (n.asks h).zipIdx.flatMap fun q=>(List.range (trN q.1)).flatMap fun t=>(([],-1) :: chs n k (n.hix q.1.to)).map (con (h,q.2,t + 1)):=by
 rw [chs,if_neg (by rw [he];exact Q4)]
theorem zin {k:Nat} (hd:∀ c ∈ cs,c.1.length<=k) (hk:k<=4) (hl:cs.length<=1000000) (h i t:Nat) (M:Mem) :
  zn (zbt 2 (qE (yi 0) (qE (yi 1) zbu))) y4 (qu (ya (eOp zt (qu (ya (qu (ya (yc 2) (ya (yc 3) (ya (yc 4) qc)))) qc)) (yc 0)) (ya (yc 1) qc))) (cs.map chT) [none,none,some (nT h),some (nT i),some (nT t)] M [] = .ok ((cs.map (con (h,i,t))).map chT) M:=by
 rw [map_map]
 refine Ok.mapc (r:=chT) (fun σ=>∃ o o',σ = [o,o',some (nT h),some (nT i),some (nT t)]) _ ⟨_,_,rfl⟩ hl ?_
 rintro c σ hc ⟨o,o',rfl⟩
 refine ⟨[some (.tup (c.1.map stT)),some (.int c.2),some (nT h),some (nT i),some (nT t)],rfl,⟨_,_,rfl⟩,?_⟩
 have ad:=zgC (xs:=[stT (h,i,t)]) (ys:=c.1.map stT) (M:=M) (sz (by have:=hd c hc;simp;omega))
 rw [show stT (h,i,t) = .tup [nT h,nT i,nT t] from rfl] at ad
 simp_arith [ad,sz (show 3<=10000 by decide),sz (show 1<=10000 by decide),sz (show 2<=10000 by decide)]
 rfl
theorem zhg {k:Nat} (hd:∀ c ∈ cs,c.1.length<=k) (hk:k<=4) (hl:cs.length<=1000000) (s:Nat × Nat × Nat) (M:Mem) :
  zn (zbt 2 (qE (yi 0) (qE (yi 1) zbu))) y4 (qu (ya (eOp zt (qu (ya (yc 2) qc)) (yc 0)) (ya (yc 1) qc))) (cs.map chT) [none,none,some (stT s)] M [] = .ok ((cs.map (con s)).map chT) M:=by
 rw [map_map]
 refine Ok.mapc (r:=chT) (fun σ=>∃ o o',σ = [o,o',some (stT s)]) _ ⟨_,_,rfl⟩ hl ?_
 rintro c σ hc ⟨o,o',rfl⟩
 refine ⟨[some (.tup (c.1.map stT)),some (.int c.2),some (stT s)],rfl,⟨_,_,rfl⟩,?_⟩
 have ad:=zgC (xs:=[stT s]) (ys:=c.1.map stT) (M:=M) (sz (by have:=hd c hc;simp;omega))
 simp_arith [ad,sz (show 1<=10000 by decide),sz (show 2<=10000 by decide)]
 rfl
theorem zjC {i:Nat} {a:Ask} (w:WA n i a):(if (a.tries == 0) = true then (2:Int) else a.tries) = (trN a:Int):=by
 have:=w.t0
 unfold trN
 by_cases h:a.tries = 0
 ·simp [h]
 ·simp [h];omega
theorem zey {n:Net} (wn:WN n):∀ (k h f:Nat) (M:Mem),h < n.hs.length->n.hs.length<=h + k->k<=f->k<=4->zR (yG f) [qD n,nT h] M = .ok (.lst ((chs n k h).map chT)) M
 | 0,h,f,M,h1,h2,_,_=>by omega
 | k + 1,h,0,M,h1,h2,hf,hk=>by omega
 | k + 1,h,f + 1,M,h1,h2,hf,hk=>by
  have ih:=zey wn k
  have hb:=bL4 (k:=k) (by omega)
  have hb1:=bL4 (k:=k + 1) (by omega)
  obtain ⟨x,hx,hxa⟩:=zfw h1
  refine zic ?_
  show Ok (zj 2 8 (zU (zR (yG f))) [qD n,nT h] M) _
  refine zH rfl ?_
  unfold zU
  rw [show startT 8 [qD n,nT h] = [some (.tup [.tup (n.hs.map hsT),.tup (n.ps.map puT)]),some (nT h),none,none,none,none,none,none] from rfl]
  have ixh:atI (n.hs.map hsT) (h:Int) = some (hsT x):=ziB hx
  refine Ok.seqR fun X hX=>?_
  simp_arith [ixh,hsT,hxa]
  rw [hX];clear hX;simp only [yd]
  refine Ok.seqR fun X hX=>?_
  by_cases he:(n.asks h).isEmpty = true
  ·have e0:n.asks h = []:=List.isEmpty_iff.mp he
   simp_arith [e0,sz (show 0<=10000 by decide),sz (show 1<=10000 by decide),sz (show 2<=10000 by decide)]
   rw [hX];clear hX;simp only [yd]
   simp_arith [and_self]
   refine Ok.ret (.inl ⟨?_,rfl⟩)
   rw [chs,if_pos he]
   rfl
  ·have he':(n.asks h).isEmpty = false:=by simpa using he
   have hlen:0 < (n.asks h).length:=List.length_pos_iff.mpr fun z=>he (by rw [z];rfl)
   simp_arith [Qe,beq_false_of_ne (show ((n.asks h).length:Int) ≠ 0 by omega)]
   rw [hX];clear hX;simp only [yd]
   refine Ok.seqR fun X hX=>?_
   simp_arith [and_self]
   rw [hX];clear hX;simp only [yd]
   rw [zdD n k h he']
   have hlT:=zaI wn (k + 1) h
   rw [zdD n k h he'] at hlT
   generalize hg:(fun q:Ask × Nat=>(List.range (trN q.1)).flatMap fun t=>(([],-1) :: chs n k (n.hix q.1.to)).map (con (h,q.2,t + 1))) = g at hlT ⊢
   have en:enT ((n.asks h).map zo) = (n.asks h).zipIdx.map fun q=>FT.T.tup [nT q.2,zo q.1]:=zea _ _
   refine Ok.seqR fun X hX=>?_
   simp_arith [zcI,en]
   refine Ok.bind (Ok.for (r:=fun q:Ask × Nat=>FT.T.tup [nT q.2,zo q.1]) (xs:=(n.asks h).zipIdx) (fun i σ M'=>∃ o4 o5 o6 o7:Option FT.T,σ = [some (.tup [.tup (n.hs.map hsT),.tup (n.ps.map puT)]),some (nT h),some (.tup ((n.asks h).map zo)),some (.ref M.length),o4,o5,o6,o7]/\M' = M ++ [.lst ((((n.asks h).zipIdx.take i).flatMap g).map chT)]) ⟨none,none,none,none,rfl,rfl⟩ ?_) ?_
   ·rintro i q σ M2 hq ⟨o4,o5,o6,o7,rfl,rfl⟩
    obtain ⟨hqi,hqa⟩:=zdm hq
    have w:=wn.as h q.1 (Q8 hqa)
    have hup:=w.up
    have ihq:=fun M=>ih (n.hix q.1.to) f M w.lt (by omega) (by omega) (by omega)
    have aq:=fun M=>zfT wn w M
    unfold qD at ihq aq
    have lq:=zaI wn k (n.hix q.1.to)
    have dq:=zef n k (n.hix q.1.to)
    generalize hL:chs n k (n.hix q.1.to) = L at ihq lq dq
    obtain ⟨B,hB⟩:∃ B:List Ch,B = ([],-1) :: L:=⟨_,rfl⟩
    have lB:B.length = 1 + L.length:=by rw [hB,Qm];omega
    have dB:∀ c ∈ B,c.1.length<=k:=fun c hc=>by
     rw [hB] at hc
     rcases mem_cons.mp hc with rfl | hc
     ·exact Nat.zero_le _
     ·exact dq c hc
    have hgq:g q = (List.range (trN q.1)).flatMap fun t=>B.map (con (h,i,t + 1)):=by rw [← hg,hB,← hL,← hqi]
    simp_arith [hqi]
    unfold zbG
    refine Ok.seqX fun X hX=>?_
    have a1:zt (.lst [.tup [.tup [],.int (-1)]]) (.lst (L.map chT)) (M ++ [.lst ((((n.asks h).zipIdx.take i).flatMap g).map chT)]) = .ok (.lst (B.map chT)) (M ++ [.lst ((((n.asks h).zipIdx.take i).flatMap g).map chT)]):=by
     unfold zt yq
     dsimp only
     rw [if_pos (by rw [sizeLine_eq,Qe];simp;omega)]
     rw [hB]
     rfl
    simp_arith [aq,ihq,sz (show 0<=10000 by decide),sz (show 1<=10000 by decide),sz (show 2<=10000 by decide),a1]
    rw [hX];clear hX;simp only [yd]
    have ht:=zjC w
    have hi1:((if (q.1.tries == 0) = true then (FT.T.int 2) else (FT.T.int q.1.tries))) = .int (trN q.1:Int):=by rw [← ht];split <;> rfl
    have t4:=ziJ w
    have rg:∀ M,zbP [.int 1,.int ((trN q.1:Int) + 1)] M = .ok ((rgF 1 (trN q.1)).map .int) M:=fun M=>by
     rw [zge (by omega),show ((trN q.1:Int) + 1 - 1).toNat = trN q.1 by omega]
    have lp:=zbJ g (n.asks h).zipIdx (i + 1)
    rw [zy g hq,Qk,hgq] at lp
    rw [zy g hq,hgq]
    generalize ((n.asks h).zipIdx.take i).flatMap g = acc at lp ⊢
    have run:Ok (Out.bind (zbP [.int 1,.int ((trN q.1:Int) + 1)] (M ++ [.lst (acc.map chT)])) fun b M2=>forL (yi 7) (zae (zR (yG f))) b [some (.tup [.tup (n.hs.map hsT),.tup (n.ps.map puT)]),some (nT h),some (.tup ((n.asks h).map zo)),some (.ref M.length),some (nT i),some (zo q.1),some (.lst (B.map chT)),o7] M2) fun fl M'=>∃ σ,fl = .nx σ/\∃ o4 o5 o6 o7:Option FT.T,σ = [some (.tup [.tup (n.hs.map hsT),.tup (n.ps.map puT)]),some (nT h),some (.tup ((n.asks h).map zo)),some (.ref M.length),o4,o5,o6,o7]/\M' = M ++ [.lst ((acc ++ (List.range (trN q.1)).flatMap fun t=>B.map (con (h,i,t + 1))).map chT)]:=by
     rw [rg,zld]
     refine Ok.mono (Ok.for (r:=FT.T.int) (xs:=rgF 1 (trN q.1)) (fun j σ M'=>∃ o7:Option FT.T,σ = [some (.tup [.tup (n.hs.map hsT),.tup (n.ps.map puT)]),some (nT h),some (.tup ((n.asks h).map zo)),some (.ref M.length),some (nT i),some (zo q.1),some (.lst (B.map chT)),o7]/\M' = M ++ [.lst ((acc ++ (List.range j).flatMap fun t=>B.map (con (h,i,t + 1))).map chT)]) ⟨o7,rfl,by simp⟩ ?_) ?_
     ·rintro j y σ M3 hy ⟨o7',rfl,rfl⟩
      obtain ⟨hj,rfl⟩:=zgh hy
      have lj:((List.range j).flatMap fun t=>B.map (con (h,i,t + 1))).length + (1 + L.length)<=((List.range (trN q.1)).flatMap fun t=>B.map (con (h,i,t + 1))).length:=by
       have:=zbJ (fun t=>B.map (con (h,i,t + 1))) (List.range (trN q.1)) (j + 1)
       rw [zy _ (getElem?_range hj),List.take_range,Nat.min_eq_left (by omega),Qk,Qe] at this
       omega
      unfold zae
      have cc:=fun M=>zin (cs:=B) (k:=k) dB (by omega) (by omega) h i (j + 1) M
      have hy1:(1:Int) + (j:Int) = ((j + 1:Nat):Int):=by omega
      rw [show [none,none,some (nT h),some (nT i),some (nT (j + 1))] = [none,none,some (nT h),some (nT i),some (FT.T.int (1 + (j:Int)))] from by rw [hy1]] at cc
      have ex:=zaa (a:=M.length) (xs:=(acc ++ (List.range j).flatMap fun t=>B.map (con (h,i,t + 1))).map chT) (ys:=(B.map (con (h,i,j + 1))).map chT) (M:=M ++ [.lst ((acc ++ (List.range j).flatMap fun t=>B.map (con (h,i,t + 1))).map chT)]) qr (by simp only [Qe,Qk,Qm];omega)
      rw [zcz] at ex
      simp_arith [zw,y8 qr,cc,ex]
      refine Ok.ret ⟨_,rfl,_,rfl,?_⟩
      rw [range_succ,flatMap_append]
      simp
     ·rintro fl M3 ⟨σ,rfl,o7',rfl,rfl⟩
      rw [zgg]
      exact ⟨_,rfl,_,_,_,_,rfl,rfl⟩
    by_cases hz:(q.1.tries == 0) = true
    ·rw [hz] at ht
     have ht:(2:Int) = trN q.1:=ht
     rw [show FT.T.int ((trN q.1:Int) + 1) = FT.T.int (2 + 1) from by rw [← ht]] at run
     simp_arith [zo,hz]
     exact run
    ·have hz':(q.1.tries == 0) = false:=by simpa using hz
     rw [hz'] at ht
     have ht:q.1.tries = trN q.1:=ht
     rw [show FT.T.int ((trN q.1:Int) + 1) = FT.T.int (q.1.tries + 1) from by rw [← ht]] at run
     simp_arith [zo,hz']
     exact run
   rintro fl M2 ⟨σ,rfl,o4,o5,o6,o7,rfl,rfl⟩
   rw [hX];clear hX;simp only [yd]
   simp_arith [and_self]
   refine Ok.ret (.inr ⟨rfl,?_⟩)
   rw [length_zipIdx,take_of_length_le (by rw [length_zipIdx];omega)]
theorem zgy (xs:List FT.T) (M:Mem):eqA (.tup xs) (.tup []) M = .ok (.bl xs.isEmpty) M:=by
 cases xs <;> rfl
theorem zlJ {a:Ask} {i:Nat} (w:WA n i a):atI [FT.T.int a.tries,.int 2] (if (a.tries == 0) = true then 1 else 0) = some (.int (trN a:Int)):=by
 have h:=zjC w
 by_cases hz:(a.tries == 0) = true
 ·rw [if_pos hz] at h ⊢
  rw [← h];rfl
 ·rw [if_neg hz] at h ⊢
  rw [← h];rfl
theorem zdr {n:Net} (wn:WN n):∀ (k h f:Nat) (M:Mem),h < n.hs.length->n.hs.length<=h + k->k<=f->k<=4->zR (yZ f) [qD n,nT h] M = .ok (.lst ((chs n k h).map chT)) M
 | 0,h,f,M,h1,h2,_,_=>by omega
 | k + 1,h,0,M,h1,h2,hf,hk=>by omega
 | k + 1,h,f + 1,M,h1,h2,hf,hk=>by
  have ih:=zdr wn k
  have hb:=bL4 (k:=k) (by omega)
  have hb1:=bL4 (k:=k + 1) (by omega)
  obtain ⟨x,hx,hxa⟩:=zfw h1
  refine zic ?_
  show Ok (zj 2 9 (zaA (zR (yZ f))) [qD n,nT h] M) _
  refine zH rfl ?_
  unfold zaA
  rw [show startT 9 [qD n,nT h] = [some (.tup [.tup (n.hs.map hsT),.tup (n.ps.map puT)]),some (nT h),none,none,none,none,none,none,none] from rfl]
  have ixh:atI (n.hs.map hsT) (h:Int) = some (hsT x):=ziB hx
  refine Ok.seqR fun X hX=>?_
  simp_arith [ixh,hsT,hxa]
  rw [hX];clear hX;simp only [yd]
  refine Ok.seqR fun X hX=>?_
  by_cases he:(n.asks h).isEmpty = true
  ·have e0:n.asks h = []:=List.isEmpty_iff.mp he
   simp_arith [e0,zgy,isEmpty_nil,sz (show 0<=10000 by decide),sz (show 1<=10000 by decide),sz (show 2<=10000 by decide)]
   rw [hX];clear hX;simp only [yd]
   simp_arith [and_self]
   refine Ok.ret (.inl ⟨?_,rfl⟩)
   rw [chs,if_pos he]
   rfl
  ·have he':(n.asks h).isEmpty = false:=by simpa using he
   simp_arith [zgy,List.isEmpty_map,he',sz (show 0<=10000 by decide)]
   rw [hX];clear hX;simp only [yd]
   refine Ok.seqR fun X hX=>?_
   simp_arith [and_self]
   rw [hX];clear hX;simp only [yd]
   rw [zdD n k h he']
   have hlT:=zaI wn (k + 1) h
   rw [zdD n k h he'] at hlT
   generalize hg:(fun q:Ask × Nat=>(List.range (trN q.1)).flatMap fun t=>(([],-1) :: chs n k (n.hix q.1.to)).map (con (h,q.2,t + 1))) = g at hlT ⊢
   have en:enT ((n.asks h).map zo) = (n.asks h).zipIdx.map fun q=>FT.T.tup [nT q.2,zo q.1]:=zea _ _
   refine Ok.seqR fun X hX=>?_
   simp_arith [zcI,en]
   refine Ok.bind (Ok.for (r:=fun q:Ask × Nat=>FT.T.tup [nT q.2,zo q.1]) (xs:=(n.asks h).zipIdx) (fun i σ M'=>∃ o4 o5 o6 o7 o8:Option FT.T,σ = [some (.tup [.tup (n.hs.map hsT),.tup (n.ps.map puT)]),some (nT h),some (.tup ((n.asks h).map zo)),some (.ref M.length),o4,o5,o6,o7,o8]/\M' = M ++ [.lst ((((n.asks h).zipIdx.take i).flatMap g).map chT)]) ⟨none,none,none,none,none,rfl,rfl⟩ ?_) ?_
   ·rintro i q σ M2 hq ⟨o4,o5,o6,o7,o8,rfl,rfl⟩
    obtain ⟨hqi,hqa⟩:=zdm hq
    have w:=wn.as h q.1 (Q8 hqa)
    have hup:=w.up
    have ihq:=fun M=>ih (n.hix q.1.to) f M w.lt (by omega) (by omega) (by omega)
    have aq:=fun M=>zfh wn w.to M
    unfold qD at ihq
    have lq:=zaI wn k (n.hix q.1.to)
    have dq:=zef n k (n.hix q.1.to)
    generalize hL:chs n k (n.hix q.1.to) = L at ihq lq dq
    have hgq:g q = (List.range (trN q.1)).flatMap fun t=>(([],-1) :: L).map (con (h,i,t + 1)):=by rw [← hg,← hL,← hqi]
    simp_arith [hqi]
    unfold zcW
    have pk:=zlJ w
    have t4:=ziJ w
    refine Ok.seqX fun X hX=>?_
    simp_arith [zo,aq,ihq]
    rw [hX];clear hX;simp only [yd]
    have rg:∀ M,zbP [.int 1,.int (1 + (trN q.1:Int))] M = .ok ((rgF 1 (trN q.1)).map .int) M:=fun M=>by
     rw [zge (by omega),show (1 + (trN q.1:Int) - 1).toNat = trN q.1 by omega]
    have lp:=zbJ g (n.asks h).zipIdx (i + 1)
    rw [zy g hq,Qk,hgq] at lp
    rw [zy g hq,hgq]
    generalize ((n.asks h).zipIdx.take i).flatMap g = acc at lp ⊢
    simp_arith [zh2,pk,rg]
    refine Ok.mono (Ok.for (r:=FT.T.int) (xs:=rgF 1 (trN q.1)) (fun j σ M'=>∃ o7 o8:Option FT.T,σ = [some (.tup [.tup (n.hs.map hsT),.tup (n.ps.map puT)]),some (nT h),some (.tup ((n.asks h).map zo)),some (.ref M.length),some (nT i),some (.tup [.str q.1.to,.int q.1.tries,opS q.1.purse,.str q.1.word,.bl q.1.hears,.bl q.1.sure]),some (.lst (L.map chT)),o7,o8]/\M' = M ++ [.lst ((acc ++ (List.range j).flatMap fun t=>(([],-1) :: L).map (con (h,i,t + 1))).map chT)]) ⟨o7,o8,rfl,by simp⟩ ?_) ?_
    ·rintro j y σ M3 hy ⟨o7',o8',rfl,rfl⟩
     obtain ⟨hj,rfl⟩:=zgh hy
     have lj:((List.range j).flatMap fun t=>(([],-1) :: L).map (con (h,i,t + 1))).length + (1 + L.length)<=((List.range (trN q.1)).flatMap fun t=>(([],-1) :: L).map (con (h,i,t + 1))).length:=by
      have:=zbJ (fun t=>(([],(-1:Int)) :: L).map (con (h,i,t + 1))) (List.range (trN q.1)) (j + 1)
      rw [zy _ (getElem?_range hj),List.take_range,Nat.min_eq_left (by omega),Qk,Qe,Qm] at this
      omega
     have rs:(List.range (j + 1)).flatMap (fun t=>(([],(-1:Int)) :: L).map (con (h,i,t + 1))) = ((List.range j).flatMap fun t=>(([],-1) :: L).map (con (h,i,t + 1))) ++ ([(h,i,j + 1)],-1) :: L.map (con (h,i,j + 1)):=by
      rw [range_succ,flatMap_append]
      simp [con]
     rw [rs]
     generalize ((List.range j).flatMap fun t=>(([],-1) :: L).map (con (h,i,t + 1))) = A2 at lj ⊢
     have cc:=fun M=>zhg (cs:=L) (k:=k) dq (by omega) (by omega) (h,i,j + 1) M
     have hy1:(1:Int) + (j:Int) = ((j + 1:Nat):Int):=by omega
     simp_arith [hy1]
     unfold zcY
     refine Ok.seqX fun X hX=>?_
     simp_arith [sz (show 3<=10000 by decide)]
     rw [show FT.T.tup [nT h,nT i,FT.T.int ((j + 1:Nat):Int)] = stT (h,i,j + 1) from rfl]
     rw [hX];clear hX;simp only [yd]
     have ap:=za6 (a:=M.length) (xs:=(acc ++ A2).map chT) (t:=chT ([(h,i,j + 1)],-1)) (M:=M ++ [.lst ((acc ++ A2).map chT)]) qr (by rw [Qe,Qk,sizeLine_eq];omega)
     rw [zcz,show (acc ++ A2).map chT ++ [chT ([(h,i,j + 1)],-1)] = (acc ++ A2 ++ [([(h,i,j + 1)],-1)]).map chT from by simp,show chT ([(h,i,j + 1)],-1) = .tup [.tup [stT (h,i,j + 1)],.int (-1)] from rfl] at ap
     refine Ok.seqX fun X hX=>?_
     simp_arith [y2 (M:=M ++ [.lst ((acc ++ A2).map chT)]) qr,sz (show 1<=10000 by decide),sz (show 2<=10000 by decide),ap]
     rw [hX];clear hX;simp only [yd]
     have ex:=zaa (a:=M.length) (xs:=(acc ++ A2 ++ [([(h,i,j + 1)],-1)]).map chT) (ys:=(L.map (con (h,i,j + 1))).map chT) (M:=M ++ [.lst ((acc ++ A2 ++ [([(h,i,j + 1)],-1)]).map chT)]) qr (by simp only [Qe,Qk,Qm,length_nil];omega)
     rw [zcz] at ex
     simp_arith [zw,y8 (M:=M ++ [.lst ((acc ++ A2 ++ [([(h,i,j + 1)],-1)]).map chT)]) qr,cc,ex]
     refine Ok.ret ⟨_,rfl,_,_,rfl,?_⟩
     simp
    ·rintro fl M3 ⟨σ,rfl,o7',o8',rfl,rfl⟩
     rw [zgg]
     exact ⟨_,rfl,_,_,_,_,_,rfl,rfl⟩
   rintro fl M2 ⟨σ,rfl,o4,o5,o6,o7,o8,rfl,rfl⟩
   rw [hX];clear hX;simp only [yd]
   simp_arith [and_self]
   refine Ok.ret (.inr ⟨rfl,?_⟩)
   rw [length_zipIdx,take_of_length_le (by rw [length_zipIdx];omega)]
noncomputable def uns (n:Net) (as:List Ask):List Nat:=(as.filter fun a=>!a.sure).map fun a=>n.hix a.to
noncomputable def fH (n:Net):List Nat:=0 :: n.hs.flatMap fun h=>uns n h.asks
noncomputable def fl (n:Net):List Nat:=zz [] (fH n)
theorem zcL {k:Nat} {x:Hs} (h:n.hs[k]? = some x):n.asks k = x.asks:=by unfold Net.asks;rw [h];rfl
theorem zdL (n:Net) (as:List Ask):(uns n as).length<=as.length:=by
 unfold uns
 rw [Qe]
 exact List.length_filter_le _ _
theorem zhd (wn:WN n):∀ x ∈ fH n,x < n.hs.length:=by
 intro x hx
 rcases mem_cons.mp hx with rfl | hx
 ·exact wn.h1
 ·obtain ⟨h,hh,hx⟩:=mem_flatMap.mp hx
  obtain ⟨a,ha,rfl⟩:=mem_map.mp hx
  obtain ⟨k,hk⟩:=mem_iff_getElem?.mp hh
  exact (wn.as k a (by rw [zcL hk];exact (mem_filter.mp ha).1)).lt
theorem zig (wn:WN n) (k:Nat):((n.hs.take k).flatMap fun h=>uns n h.asks).length<=12:=by
 refine Qg (y9 _ 3 _ fun h hh=>?_) ?_
 ·obtain ⟨i,hi⟩:=mem_iff_getElem?.mp (mem_of_mem_take hh)
  have:=wn.al i
  rw [zcL hi] at this
  have:=zdL n h.asks
  omega
 ·rw [Qn]
  have:=wn.hl
  omega
theorem zfl:∀ {ns:List Nat},(∀ x ∈ ns,x < 6)->natN (ns.map fun x:Nat=>(x:Int)) = some ns
 | [],_=>rfl
 | x :: ns,h=>by
  rw [map_cons]
  unfold natN
  have hx:=h x (mem_cons_self ..)
  rw [if_pos (by omega),zfl fun y hy=>h y (mem_cons_of_mem _ hy)]
  simp
theorem zfu:∀ (ns:List Nat),zdg (ns.map nT) = some (ns.map fun x:Nat=>(x:Int))
 | []=>rfl
 | x :: ns=>by
  show (zdg (ns.map nT)).map _ = _
  rw [zfu ns];rfl
theorem zjo (wn:WN n) (M:Mem):Ok (qJ [qD n] M) fun t M'=>t = .lst ((fl n).map nT)/\Fr [] M M':=by
 refine zH rfl ?_
 unfold zbC
 rw [show startT 3 [qD n] = [some (.tup [.tup (n.hs.map hsT),.tup (n.ps.map puT)]),none,none] from rfl]
 have h4:=wn.hl
 refine Ok.seqR fun X hX=>?_
 simp_arith [sz (show 1<=10000 by decide)]
 rw [hX];clear hX;simp only [yd]
 refine Ok.seqR fun X hX=>?_
 simp_arith [and_self]
 refine Ok.bind (Ok.for (r:=hsT) (xs:=n.hs) (fun k σ M'=>∃ (o2:Option FT.T) (A:List Nat),σ = [some (.tup [.tup (n.hs.map hsT),.tup (n.ps.map puT)]),some (.ref M.length),o2]/\M' = M ++ [.lst (A.map nT)]/\A = 0 :: (n.hs.take k).flatMap fun h=>uns n h.asks) ⟨none,[0],rfl,rfl,rfl⟩ ?_) ?_
 ·rintro k x σ M2 hx ⟨o2,A,rfl,rfl,hA⟩
  have ax:=zcL hx
  have lk:=zig wn k
  have al:=wn.al k
  have ul:=zdL n x.asks
  rw [ax] at al
  have cp:∀ M,zn (yi 0) (zdo (zJ (eOp ixT (yc 0) (eC (.int 5))))) (ye zE (ya (yc 1) (ya (yc 0) qc))) (x.asks.map zo) [none,some (.tup [.tup (n.hs.map hsT),.tup (n.ps.map puT)])] M [] = .ok ((uns n x.asks).map nT) M:=fun M=>by
   unfold uns
   rw [map_map]
   refine Ok.filt (r:=zo) (fun σ=>∃ o,σ = [o,some (.tup [.tup (n.hs.map hsT),.tup (n.ps.map puT)])]) (fun a=>!a.sure) _ ⟨_,rfl⟩ (by omega) ?_
   rintro a σ ha ⟨o,rfl⟩
   have aq:=zfT wn (wn.as k a (by rw [ax];exact ha)) M
   refine ⟨[some (zo a),some (.tup [.tup (n.hs.map hsT),.tup (n.ps.map puT)])],rfl,⟨_,rfl⟩,?_,fun _=>?_⟩
   ·have i5:atI [FT.T.str a.to,.int a.tries,opS a.purse,.str a.word,.bl a.hears,.bl a.sure] 5 = some (.bl a.sure):=rfl
    simp_arith [zo,i5]
   ·unfold qD at aq
    simp_arith [aq]
    rfl
  have lA:A.length<=13:=by rw [hA,Qm];omega
  have ex:=zaa (a:=M.length) (xs:=A.map nT) (ys:=(uns n x.asks).map nT) (M:=M ++ [.lst (A.map nT)]) qr (by rw [Qe,Qe];omega)
  rw [zcz] at ex
  have il:=y8 (a:=M.length) (xs:=A.map nT) (M:=M ++ [.lst (A.map nT)]) qr
  unfold zbf
  simp_arith [zw,il,hsT,cp,ex]
  refine Ok.ret ⟨_,rfl,_,A ++ uns n x.asks,rfl,by rw [map_append],?_⟩
  rw [zy (fun h=>uns n h.asks) hx,hA,List.cons_append]
 rintro fl' M2 ⟨σ,rfl,o2,A,rfl,rfl,hA⟩
 rw [hX];clear hX;simp only [yd]
 rw [take_length] at hA
 have hA:A = fH n:=hA
 subst hA
 have e1:yq (.ref M.length) (M ++ [.lst ((fH n).map nT)]) = some ((fH n).map nT):=zbb qr
 have st:za9 (.ref M.length) (M ++ [.lst ((fH n).map nT)]) = .ok ((fl n).map nT) (M ++ [.lst ((fH n).map nT)]):=by
  unfold za9
  simp only [e1,zfu,zfl fun x hx=>Q5 (zhd wn x hx) (Qg h4 (by decide))]
  unfold fl hsh
  rw [map_map]
  rfl
 simp_arith [lUn,st]
 exact Ok.ret ⟨rfl,Fr.app _ _⟩
variable {D:List (Key × FT.T)} {ks:List Int}
theorem ziT (h:D.map (·.1) = ks.map Sum.inl) (i:Int) (v:FT.T):(zbp D (.inl i) v).map (·.1) = (if i ∈ ks then ks else ks ++ [i]).map Sum.inl:=by
 have an:(D.any fun kv=>decide (kv.1 = Sum.inl i)) = true ↔ i ∈ ks:=by
  rw [List.any_eq_true]
  constructor
  ·rintro ⟨kv,hk,e⟩
   have e:=of_decide_eq_true e
   have:kv.1 ∈ ks.map Sum.inl:=h ▸ mem_map_of_mem (f:=(·.1)) hk
   rw [e] at this
   obtain ⟨j,hj,ej⟩:=mem_map.mp this
   cases ej
   exact hj
  ·intro hi
   have:(Sum.inl i:Key) ∈ D.map (·.1):=by rw [h];exact mem_map_of_mem hi
   obtain ⟨kv,hk,e⟩:=mem_map.mp this
   exact ⟨kv,hk,Qq e⟩
 unfold zbp
 by_cases hi:i ∈ ks
 ·rw [if_pos (an.mpr hi),if_pos hi,map_map,← h]
  refine List.map_congr_left fun kv _=>?_
  show (if kv.1 = Sum.inl i then (kv.1,v) else kv).1 = kv.1
  split <;> rfl
 ·rw [if_neg (fun z=>hi (an.mp z)),if_neg hi,map_append,h,map_append]
  rfl
def DK (d:Nat) (fs:List Nat) (M:Mem):Prop:=∃ (kvs:List (Key × FT.T)) (ks:List Int),M[d]? = some (.dic kvs)/\kvs.map (·.1) = ks.map Sum.inl/\ks.Nodup/\(∀ x,x ∈ ks ↔ x ∈ hsh fs)/\ks.length<=fs.length
variable {t:FT.T}
theorem zj3 {s:Nat} (h:M[s]? = some (.dic D)) (hl:D.length<=100000):zdP (.ref s) (.int i) t M = .ok () (M.set s (.dic (zbp D (.inl i) t))):=by
 show (match M[s]? with | some (.dic kvs)=>if kvs.length < sizeLine then Out.ok () (M.set s (.dic (zbp kvs (.inl i) t))) else .bad | _=>zcj (.ref s) (.int i) t M) = _
 rw [h]
 dsimp only
 rw [if_pos (by rw [sizeLine_eq];omega)]
variable {d:Nat}
theorem DK.put {fs:List Nat} (h:DK d fs M) (hl:fs.length<=100) (x:Nat):∃ M',zdP (.ref d) (nT x) (.bl true) M = .ok () M'/\DK d (fs ++ [x]) M'/\Fr [d] M M':=by
 obtain ⟨kvs,ks,h1,h2,h3,h4,h5⟩:=h
 have hlen:kvs.length = ks.length:=by have:=congrArg List.length h2;simpa using this
 refine ⟨_,zj3 h1 (by omega),⟨_,_,get_set h1,ziT h2 _ _,?_,fun y=>?_,?_⟩,Fr.set _ _ _⟩
 ·split
  ·exact h3
  ·rename_i hi
   refine List.nodup_append.mpr ⟨h3,by simp,fun a ha b hb=>?_⟩
   rw [mem_singleton.mp hb]
   rintro rfl
   exact hi ha
 ·have e:hsh (fs ++ [x]) = hsh fs ++ [(x:Int)]:=by unfold hsh;simp
  rw [e,mem_append,mem_singleton,← h4]
  split
  ·rename_i hi
   constructor
   ·exact .inl
   ·rintro (z | z)
    ·exact z
    ·rw [z];exact hi
  ·rw [mem_append,mem_singleton]
 ·rw [Qk,length_singleton]
  split
  ·omega
  ·rw [Qk,length_singleton];omega
theorem zie (wn:WN n):fl n ∈ subs 6:=zdw (by decide) fun x hx=>Q5 (zhd wn x hx) (Qg wn.hl (by decide))
theorem zmB (wn:WN n) (nd:ks.Nodup) (hm:∀ x,x ∈ ks ↔ x ∈ hsh (fH n)):(zci ks).map FT.T.int = (fl n).map nT:=by
 have up:=zaG 6 (fl n) (zie wn)
 have pw:(hsh (fl n)).Pairwise (· < ·):=by
  unfold hsh
  exact pairwise_map.mpr (up.1.imp fun h=>by omega)
 have:hsh (fl n) = zci ks:=by
  refine zgc ((List.perm_ext_iff_of_nodup (pw.imp fun h=>Int.ne_of_lt h) nd).mpr fun x=>?_) (pw.imp fun h=>Int.le_of_lt h)
  rw [hm]
  unfold hsh
  simp only [mem_map]
  have mem:∀ y,y ∈ fl n ↔ y ∈ fH n:=fun y=>by unfold fl;rw [zbY];simp
  constructor
  ·rintro ⟨y,hy,rfl⟩;exact ⟨y,(mem y).mp hy,rfl⟩
  ·rintro ⟨y,hy,rfl⟩;exact ⟨y,(mem y).mpr hy,rfl⟩
 rw [← this]
 unfold hsh
 rw [map_map]
 rfl
noncomputable def zfU (n:Net):List Ch:=(fl n).flatMap (chs n 4)
noncomputable def puL (m:Nat):List FT.T:=(List.range m).flatMap fun p=>[.tup [nT p,.str "shares"],.tup [nT p,.str "coins"]]
noncomputable def plT (n:Net):List FT.T:=zcg 4 ((zfU n).map chT) ++ puL n.ps.length
theorem zmC (wn:WN n):(fl n).length<=6:=z5 (zie wn)
theorem zjJ (wn:WN n):∀ x ∈ fl n,x < n.hs.length:=fun x hx=>by
 refine zhd wn x ?_
 unfold fl at hx
 rw [zbY] at hx
 simpa using hx
theorem zcM (wn:WN n) (k:Nat):(((fl n).take k).flatMap (chs n 4)).length<=260136:=by
 refine Qg (y9 _ 43356 _ fun h _=>Qg (zaI wn 4 h) (bL4 (by decide))) ?_
 rw [Qn]
 have:=zmC wn
 omega
theorem zno (s u:Nat × Nat × Nat):(cmT 2 (stT s) (stT u)).isSome = true:=rfl
theorem zfE {f:FT.T->FT.T->Option Ordering}:∀ {xs ys:List FT.T},(∀ x ∈ xs,∀ y ∈ ys,(f x y).isSome = true)->(cmL f xs ys).isSome = true
 | [],[],_=>rfl
 | [],_ :: _,_=>rfl
 | _ :: _,[],_=>rfl
 | x :: xs,y :: ys,h=>by
  unfold cmL
  obtain ⟨a,ha⟩:=Option.isSome_iff_exists.mp (h x (mem_cons_self ..) y (mem_cons_self ..))
  obtain ⟨b,hb⟩:=Option.isSome_iff_exists.mp (zfE (xs:=xs) (ys:=ys) fun x hx y hy=>h x (mem_cons_of_mem _ hx) y (mem_cons_of_mem _ hy))
  rw [ha,hb]
  rfl
theorem znp (c d:Ch):(cmT 4 (chT c) (chT d)).isSome = true:=by
 have h1:(cmT 3 (.tup (c.1.map stT)) (.tup (d.1.map stT))).isSome = true:=zfE fun x hx y hy=>by
  obtain ⟨s,_,rfl⟩:=mem_map.mp hx
  obtain ⟨u,_,rfl⟩:=mem_map.mp hy
  exact zno s u
 obtain ⟨a,ha⟩:=Option.isSome_iff_exists.mp h1
 show (cmL (cmT 3) [.tup (c.1.map stT),.int c.2] [.tup (d.1.map stT),.int d.2]).isSome = true
 unfold cmL
 rw [ha]
 rfl
theorem okS (cs:List Ch):OkS (cs.map chT):=⟨⟨false,fun x hx=>by
 obtain ⟨c,_,rfl⟩:=mem_map.mp hx
 show zd7 false (.tup [.tup (c.1.map stT),.int c.2])
 rfl⟩,fun x hx y hy=>by
 obtain ⟨c,_,rfl⟩:=mem_map.mp hx
 obtain ⟨d,_,rfl⟩:=mem_map.mp hy
 exact znp c d⟩
theorem ze4 {a:Nat} (e:M[a]? = some (.lst (cs.map chT))):zX [.ref a] M = .ok (zcg 4 (cs.map chT)) M:=by
 unfold zX
 simp only [zbb e]
 exact if_pos (okS cs)
theorem zj7 (m:Nat):puL (m + 1) = puL m ++ [.tup [nT m,.str "shares"],.tup [nT m,.str "coins"]]:=by
 unfold puL
 rw [range_succ,flatMap_append]
 simp
theorem zj8 (m:Nat):(puL m).length<=m * 2:=by
 unfold puL
 have:=y9 (fun p=>[FT.T.tup [nT p,.str "shares"],.tup [nT p,.str "coins"]]) 2 (List.range m) fun _ _=>by simp
 rwa [List.length_range] at this
variable {kT:Addr}
section
theorem zhH {body:Ev->Mem->Out Fl} {bd:FT.T->Ev->Mem->Out Ev} {a m:Nat} {base:List FT.T} {σ0:Ev} (σf:Option FT.T->Ev) (h0:∃ o,σ0 = σf o) (hm:m<=2) (hl:base.length<=300000) (ga:M[a]? = some (.lst base))
 (hb:∀ (o:Option FT.T) (p:Nat) (xs:List FT.T) (M':Mem),M'[a]? = some (.lst xs)->xs.length<=300010->Ok ((bd (nT p) (σf o) M').bind body) fun fl M2=>∃ o',fl = .nx (σf o')/\M2 = M'.set a (.lst (xs ++ [.tup [nT p,.str "shares"],.tup [nT p,.str "coins"]]))) :
  Ok (forL bd body ((rgI m).map .int) σ0 M) fun fl M'=>∃ o,fl = .nx (σf o)/\M'[a]? = some (.lst (base ++ puL m))/\Fr [a] M M':=by
 obtain ⟨o0,rfl⟩:=h0
 refine Ok.mono (Ok.for (r:=FT.T.int) (xs:=rgI m) (fun k σ M'=>∃ o,σ = σf o/\M'[a]? = some (.lst (base ++ puL k))/\Fr [a] M M') ⟨o0,rfl,by simpa [puL] using ga,Fr.refl _ _⟩ ?_) ?_
 ·rintro k x σ M' hx ⟨o,rfl,g,f⟩
  obtain ⟨hk,rfl⟩:=zgf hx
  have:=zj8 k
  refine Ok.mono (hb o k _ M' g (by rw [Qk];omega)) ?_
  rintro fl M2 ⟨o',rfl,rfl⟩
  refine ⟨_,rfl,o',rfl,?_,f.trans (Fr.set _ _ _)⟩
  rw [get_set g,zj7,append_assoc]
 ·rintro fl M' ⟨σ,rfl,o,rfl,g,f⟩
  rw [zcC] at g
  exact ⟨o,rfl,g,f⟩
theorem zhK (wn:WN n) (M:Mem):OkX (zS kT [qD n] M) (fun t _=>(plT n).length<=100/\t = .tup (plT n)) (fun C _ _=>C = kT/\100 < (plT n).length):=by
 refine zgP rfl ?_
 unfold zcQ
 rw [show startT 5 [qD n] = [some (.tup [.tup (n.hs.map hsT),.tup (n.ps.map puT)]),none,none,none,none] from rfl]
 have h4:=wn.hl
 have key:Ok ((zf (yk 1 (eTk (qp qc))) (zf (yL (yW (ye qJ (ya (yc 0) qc))) (yi 2) (za5 kT)) (zf (yk 3 (eTk (zcF zX (ya (yc 1) qc)))) (yL (z9 (ya (ye (yn yI) (ya (eOp ixT (yc 0) (eC (.int 1))) qc)) qc)) (yi 4) (za4 kT))))) [some (.tup [.tup (n.hs.map hsT),.tup (n.ps.map puT)]),none,none,none,none] M) fun fl M'=>∃ a o1 o2 o4,fl = .nx [some (.tup [.tup (n.hs.map hsT),.tup (n.ps.map puT)]),o1,o2,some (.ref a),o4]/\M'[a]? = some (.lst (plT n)):=by
  refine Ok.seqX fun X hX=>?_
  simp_arith [and_self]
  rw [hX];clear hX;simp only [yd]
  refine Ok.seqX fun X hX=>?_
  have fo:=zjo wn (M ++ [.lst []])
  unfold qD at fo
  simp_arith [and_self]
  refine Ok.bind fo ?_
  rintro t M1 ⟨rfl,f1⟩
  simp_arith [and_self]
  have g1:M1[M.length]? = some (.lst []):=f1.get0 qr
  refine Ok.bind (Ok.for (r:=nT) (xs:=fl n) (fun k σ M'=>∃ o2:Option FT.T,σ = [some (.tup [.tup (n.hs.map hsT),.tup (n.ps.map puT)]),some (.ref M.length),o2,none,none]/\M'[M.length]? = some (.lst ((((fl n).take k).flatMap (chs n 4)).map chT))) ⟨none,rfl,g1⟩ ?_) ?_
  ·rintro k x σ M2 hx ⟨o2,rfl,g2⟩
   have hx4:=zjJ wn x (Q8 hx)
   have ce:=fun M=>zey wn 4 x 12 M hx4 (by omega) (by decide) (by decide)
   have la:=zcM wn (k + 1)
   rw [zy _ hx,Qk] at la
   have ex:=zaa (ys:=(chs n 4 x).map chT) g2 (by rw [Qe,Qe];omega)
   unfold qD at ce
   unfold za5 zar
   simp_arith [zw,y8 g2,ce,ex]
   refine Ok.ret ⟨_,rfl,_,rfl,?_⟩
   rw [get_set g2,zy _ hx,map_append]
  rintro fl' M2 ⟨σ,rfl,o2,rfl,g2⟩
  rw [take_length] at g2
  rw [hX];clear hX;simp only [yd]
  refine Ok.seqX fun X hX=>?_
  have g2:M2[M.length]? = some (.lst ((zfU n).map chT)):=g2
  simp_arith [ze4 g2]
  rw [hX];clear hX;simp only [yd]
  have lp:((n.ps.map puT).length:Int) = (n.ps.length:Int):=by rw [Qe]
  have pl:=wn.pl
  simp_arith [lp,zcB (show -(2 ^ 62)<=(n.ps.length:Int)/\(n.ps.length:Int) < 2 ^ 62 by omega),Int.toNat_natCast]
  have la:=zcM wn (fl n).length
  rw [take_length] at la
  refine Ok.mono (zhH (a:=M2.length) (base:=zcg 4 ((zfU n).map chT)) (fun o=>[some (.tup [.tup (n.hs.map hsT),.tup (n.ps.map puT)]),some (.ref M.length),o2,some (.ref M2.length),o]) ⟨none,rfl⟩ pl (by rw [(za7 _ _).length_eq,Qe];exact Qg la (by decide)) qr ?_) ?_
  ·intro o p xs M3 g3 hl
   have ex:=zaa (ys:=[.tup [nT p,.str "shares"],.tup [nT p,.str "coins"]]) g3 (by simp;omega)
   unfold za4
   simp_arith [zw,y8 g3,sz (show 2<=10000 by decide),ex]
   exact Ok.ret ⟨_,rfl,rfl⟩
  ·rintro f2 M3 ⟨o,rfl,g3,_⟩
   exact ⟨_,_,_,_,rfl,g3⟩
 have go:∀ (fl:Fl) (M':Mem),(∃ a o1 o2 o4,fl = .nx [some (.tup [.tup (n.hs.map hsT),.tup (n.ps.map puT)]),o1,o2,some (.ref a),o4]/\M'[a]? = some (.lst (plT n)))->OkX ((qB (zf (sIf (zJ (eOp gtI (ye (yn yI) (ya (yc 3) qc)) (eC (.int 100)))) (zcm (zaj kT) (ya (eC (.str "the net has too many places")) qc)) zbl) (zI (ye (yn zN) (ya (yc 3) qc)))) fl M').bind zc6) (fun t _=>(plT n).length<=100/\t = .tup (plT n)) (fun C _ _=>C = kT/\100 < (plT n).length):=by
  rintro fl M' ⟨a,o1,o2,o4,rfl,g⟩
  by_cases h:(plT n).length<=100
  ·refine OkX.ok ?_
   simp_arith [zdc g,Qr (show ¬ (100:Int) < ((plT n).length:Int) by omega),zav g]
   exact Ok.ret ⟨h,rfl⟩
  ·simp_arith [zdc g,Qq (show (100:Int) < ((plT n).length:Int) by omega),zcm,zaj,sz (show 1<=10000 by decide)]
   exact ⟨rfl,by omega⟩
 obtain ⟨fl,M',e,h⟩:=key
 have g:=go fl M' h
 have e2:∀ (p q r s t:Ev->Mem->Out Fl) (σ:Ev),zf p (zf q (zf r (zf s t))) σ M = ((zf p (zf q (zf r s))) σ M).bind (qB t):=by
  intro p q r s t σ
  unfold zf
  have th:∀ (a b:Ev->Mem->Out Fl) (f:Fl) (N:Mem),qB (fun σ M=>(a σ M).bind (qB b)) f N = (qB a f N).bind (qB b):=by
   intro a b f N
   cases f <;> rfl
  rw [zb9]
  congr 1
  funext f N
  rw [th]
  have th2:qB (fun σ M=>(q σ M).bind (qB fun σ M=>(r σ M).bind (qB s))) f N = (qB q f N).bind (qB fun σ M=>(r σ M).bind (qB s)):=th _ _ _ _
  rw [th2,zb9]
  congr 1
  funext f N
  rw [th,th,zb9]
  congr 1
  funext f N
  exact th _ _ _ _
 rw [e2,e]
 exact g
end
theorem zjW {M':Mem} (h:Fr [] M M'):M'.take M.length = M:=by
 refine ext_getElem? fun i=>?_
 rw [getElem?_take]
 split
 ·rename_i hi
  exact h.2 i hi (by simp)
 ·rw [List.getElem?_eq_none (by omega)]
theorem zcG:ixD (.tup xs) (.int i) M = ixT (.tup xs) (.int i) M:=rfl
theorem zi8:zg5 (.tup xs) M = .ok (.int xs.length) M:=rfl
theorem zlI (n:Net):∀ x ∈ plT n,FT.T.lt 0 x:=by
 intro x hx
 rcases mem_append.mp hx with hx | hx
 ·obtain ⟨c,_,rfl⟩:=mem_map.mp ((za7 _ _).mem_iff.mp hx)
  exact zio c
 ·obtain ⟨p,_,hx⟩:=mem_flatMap.mp hx
  simp only [mem_cons,not_mem_nil,or_false] at hx
  rcases hx with rfl | rfl <;>
  ·refine .tup fun t ht=>?_
   simp only [mem_cons,not_mem_nil,or_false] at ht
   rcases ht with rfl | rfl
   ·exact .int _
   ·exact .str _
theorem zg2 (wn:WN n) (M:Mem):zax [qD n] M = .ok (.lst (plT n)) M:=by
 have h4:=wn.hl
 have key:Ok (zb2 [qD n] M) fun t M'=>∃ a,t = .ref a/\M.length<=a/\M'[a]? = some (.lst (plT n))/\Fr [] M M':=by
  refine zH rfl ?_
  unfold zdy
  rw [show startT 8 [qD n] = [some (.tup [.tup (n.hs.map hsT),.tup (n.ps.map puT)]),none,none,none,none,none,none,none] from rfl]
  refine Ok.seqR fun X hX=>?_
  simp_arith [zeT,show zd3 (.int 0) = some (.inl 0) from rfl]
  rw [hX];clear hX;simp only [yd]
  refine Ok.seqR fun X hX=>?_
  simp_arith [zcG]
  refine Ok.bind (Ok.for (r:=hsT) (xs:=n.hs) (fun k σ M'=>∃ o2 o3 o4:Option FT.T,σ = [some (.tup [.tup (n.hs.map hsT),.tup (n.ps.map puT)]),some (.ref M.length),o2,o3,o4,none,none,none]/\DK M.length (0 :: (n.hs.take k).flatMap fun h=>uns n h.asks) M'/\Fr [M.length] (M ++ [.dic [(.inl 0,.bl true)]]) M') ⟨none,none,none,rfl,⟨_,[0],qr,rfl,by simp,fun x=>by simp [hsh],by simp⟩,Fr.refl _ _⟩ ?_) ?_
  ·rintro k x σ M1 hx ⟨o2,o3,o4,rfl,d1,f1⟩
   have ax:=zcL hx
   have al:=wn.al k
   rw [ax] at al
   have lk:=zig wn k
   rw [zy (fun h=>uns n h.asks) hx]
   unfold zcV
   simp_arith [hsT]
   refine Ok.mono (Ok.for (r:=zo) (xs:=x.asks) (fun j σ M'=>∃ o4:Option FT.T,σ = [some (.tup [.tup (n.hs.map hsT),.tup (n.ps.map puT)]),some (.ref M.length),some (.str x.name),some (.tup (x.asks.map zo)),o4,none,none,none]/\DK M.length ((0 :: (n.hs.take k).flatMap fun h=>uns n h.asks) ++ uns n (x.asks.take j)) M'/\Fr [M.length] (M ++ [.dic [(.inl 0,.bl true)]]) M') ⟨o4,rfl,by simpa [uns] using d1,f1⟩ ?_) ?_
   ·rintro j a σ M2 ha ⟨o4',rfl,d2,f2⟩
    have hm:=Q8 ha
    have w:=wn.as k a (by rw [ax];exact hm)
    have pl:=fun M=>zfh wn w.to M
    have i5:atI [FT.T.str a.to,.int a.tries,opS a.purse,.str a.word,.bl a.hears,.bl a.sure] 5 = some (.bl a.sure):=rfl
    have ut:uns n (x.asks.take (j + 1)) = uns n (x.asks.take j) ++ if a.sure = true then [] else [n.hix a.to]:=by
     unfold uns
     rw [take_succ,ha,List.filter_append,map_append]
     cases hs:a.sure <;> simp [hs]
    unfold zcX
    cases hs:a.sure with
    | true=>
     rw [hs] at ut i5
     simp_arith [zo,zcG,hs,i5]
     refine Ok.ret ⟨_,rfl,_,rfl,?_,f2⟩
     rw [ut]
     simpa using d2
    | false=>
     rw [hs] at ut i5
     have ul:=zdL n (x.asks.take j)
     rw [Qn] at ul
     obtain ⟨M3,e3,d3,f3⟩:=d2.put (by rw [Qk,Qm];omega) (n.hix a.to)
     simp_arith [zo,zcG,hs,i5,pl,e3]
     refine Ok.ret ⟨_,rfl,_,rfl,?_,f2.trans f3⟩
     rw [ut,if_neg Q4,← append_assoc]
     exact d3
   ·rintro f' M2 ⟨σ,rfl,o4',rfl,d2,f2⟩
    rw [take_length] at d2
    exact ⟨_,rfl,_,_,_,rfl,d2,f2⟩
  rintro f' M1 ⟨σ,rfl,o2,o3,o4,rfl,d1,f1⟩
  rw [take_length] at d1
  have d1:DK M.length (fH n) M1:=d1
  rw [hX];clear hX;simp only [yd]
  refine Ok.seqR fun X hX=>?_
  simp_arith [and_self]
  rw [hX];clear hX;simp only [yd]
  obtain ⟨kvs,ks,k1,k2,k3,k4,k5⟩:=d1
  have kI:∀ ks:List Int,zde (ks.map Sum.inl) = some ks:=by
   intro ks
   induction ks with
   | nil=>rfl
   | cons a ks ih=>show (zde (ks.map Sum.inl)).map _ = _;rw [ih];rfl
  have sk:zch (.ref M.length) (M1 ++ [.lst []]) = .ok ((fl n).map nT) (M1 ++ [.lst []]):=by
   have hd:zbe (.ref M.length) (M1 ++ [.lst []]) = some kvs:=by
    unfold zbe
    simp only [(Fr.app M1 [Cell.lst []]).get0 k1]
   unfold zch
   simp only [hd,k2,kI,zmB wn k3 k4]
  have l1:=qR k1
  refine Ok.seqR fun X hX=>?_
  simp_arith [lUn,sk]
  refine Ok.bind (Ok.for (r:=nT) (xs:=fl n) (fun k σ M'=>∃ o6:Option FT.T,σ = [some (.tup [.tup (n.hs.map hsT),.tup (n.ps.map puT)]),some (.ref M.length),o2,o3,o4,some (.ref M1.length),o6,none]/\M'[M1.length]? = some (.lst ((((fl n).take k).flatMap (chs n 4)).map chT))/\Fr [M1.length] (M1 ++ [.lst []]) M') ⟨none,rfl,qr,Fr.refl _ _⟩ ?_) ?_
  ·rintro k x σ M2 hx ⟨o6,rfl,g2,f2⟩
   have hx4:=zjJ wn x (Q8 hx)
   have ce:=fun M=>zdr wn 4 x 12 M hx4 (by omega) (by decide) (by decide)
   have la:=zcM wn (k + 1)
   rw [zy _ hx,Qk] at la
   have ex:=zaa (ys:=(chs n 4 x).map chT) g2 (by rw [Qe,Qe];omega)
   unfold qD at ce
   unfold zcU zb3
   simp_arith [zw,y8 g2,ce,ex]
   refine Ok.ret ⟨_,rfl,_,rfl,?_,f2.trans (Fr.set _ _ _)⟩
   rw [get_set g2,zy _ hx,map_append]
  rintro fl' M2 ⟨σ,rfl,o6,rfl,g2,f2⟩
  rw [take_length] at g2
  rw [hX];clear hX;simp only [yd]
  refine Ok.seqR fun X hX=>?_
  have g2:M2[M1.length]? = some (.lst ((zfU n).map chT)):=g2
  simp_arith [ze4 g2]
  rw [hX];clear hX;simp only [yd]
  have lp:((n.ps.map puT).length:Int) = (n.ps.length:Int):=by rw [Qe]
  have pl:=wn.pl
  refine Ok.seqR fun X hX=>?_
  simp_arith [zcG,zi8,lp,zcB (show -(2 ^ 62)<=(n.ps.length:Int)/\(n.ps.length:Int) < 2 ^ 62 by omega),Int.toNat_natCast]
  have la:=zcM wn (fl n).length
  rw [take_length] at la
  refine Ok.bind (zhH (a:=M2.length) (base:=zcg 4 ((zfU n).map chT)) (fun o=>[some (.tup [.tup (n.hs.map hsT),.tup (n.ps.map puT)]),some (.ref M.length),o2,o3,o4,some (.ref M2.length),o6,o]) ⟨none,rfl⟩ pl (by rw [(za7 _ _).length_eq,Qe];exact Qg la (by decide)) qr ?_) ?_
  ·intro o p xs M3 g3 hl
   have ex:=zaa (ys:=[.tup [nT p,.str "shares"],.tup [nT p,.str "coins"]]) g3 (by simp;omega)
   unfold zcT
   simp_arith [zw,y8 g3,sz (show 2<=10000 by decide),ex]
   exact Ok.ret ⟨_,rfl,rfl⟩
  rintro f3 M3 ⟨o,rfl,g3,f3⟩
  rw [hX];clear hX;simp only [yd]
  simp_arith [and_self]
  have l2:=qR g2
  refine Ok.ret ⟨_,rfl,by omega,g3,?_⟩
  have q1:Fr [] M M1:=((Fr.app M [Cell.dic [(.inl 0,.bl true)]]).tr f1 (by simp))
  have q2:Fr [] M M2:=(q1.tr (Fr.app M1 [Cell.lst []]) (by simp)).tr f2 (by simp;omega)
  exact (q2.tr (Fr.app M2 _) (by simp)).tr f3 (by simp;have:=f2.1;simp at this;omega)
 obtain ⟨t,M',e,a,rfl,ha,g,f⟩:=key
 unfold zax zdi
 rw [e]
 simp only [g]
 exact if_pos ⟨zjW f,ha,zlI n⟩
theorem zfA {f:FT.T->FT.T->Option Bool}:∀ {xs:List FT.T},(∀ x ∈ xs,f x x = some true)->eqL f xs xs = some true
 | [],_=>rfl
 | x :: xs,h=>by
  unfold eqL
  rw [h x (.head _),zfA fun y hy=>h y (.tail _ hy)]
  rfl
inductive RT:Nat->FT.T->Prop
 | int (d:Nat) (i:Int):RT d (.int i)
 | str (d:Nat) (s:Str):RT d (.str s)
 | tup {d:Nat} {xs:List FT.T} (h:∀ x ∈ xs,RT d x):RT (d + 1) (.tup xs)
theorem RT.eq (h:RT d t) (M:Mem):eqD M d t t = some true:=by
 induction h with
 | int d i=>
  rw [show eqD M d (.int i) (.int i) = some (i == i) by cases d <;> rfl,Qs]
 | str d s=>
  rw [show eqD M d (.str s) (.str s) = some (s == s) by cases d <;> rfl,Qs]
 | tup h ih=>exact zfA ih
theorem zmR (n:Net):RT 20 (.tup (plT n)):=by
 refine .tup fun x hx=>?_
 rcases mem_append.mp hx with hx | hx
 ·obtain ⟨c,_,rfl⟩:=mem_map.mp ((za7 _ _).mem_iff.mp hx)
  refine .tup fun t ht=>?_
  simp only [mem_cons,not_mem_nil,or_false] at ht
  rcases ht with rfl | rfl
  ·refine .tup fun t ht=>?_
   obtain ⟨s,_,rfl⟩:=mem_map.mp ht
   refine .tup fun t ht=>?_
   simp only [mem_cons,not_mem_nil,or_false] at ht
   rcases ht with rfl | rfl | rfl <;> exact .int _ _
  ·exact .int _ _
 ·obtain ⟨p,_,hx⟩:=mem_flatMap.mp hx
  simp only [mem_cons,not_mem_nil,or_false] at hx
  rcases hx with rfl | rfl <;>
  ·refine .tup fun t ht=>?_
   simp only [mem_cons,not_mem_nil,or_false] at ht
   rcases ht with rfl | rfl
   ·exact .int _ _
   ·exact .str _ _
theorem zm7 (n:Net) (M:Mem):neA (.tup (plT n)) (.tup (plT n)) M = .ok (.bl false) M:=by
 unfold neA
 rw [(zmR n).eq M]
 rfl
theorem zgJ:zN (.lst xs) M = .ok (.tup xs) M:=rfl
section
theorem law_true (kT:Addr) (ns:List Int) (hn:ns.length<=63):∃ M,zeS kT [.lst (ns.map .int)] [] = .ok (.bl true) M:=by
 have key:Ok (zeS kT [.lst (ns.map .int)] []) fun t _=>t = .bl true:=by
  refine zH rfl ?_
  unfold zjH
  have ad:zt (.lst [.int 0]) (.lst (ns.map FT.T.int)) [] = .ok (.lst ((0 :: ns).map FT.T.int)) []:=by
   rw [zjz (by simp;omega)]
   rfl
  rw [show startT 5 [FT.T.lst (ns.map FT.T.int)] = [some (.lst (ns.map FT.T.int)),none,none,none,none] from rfl]
  refine Ok.seqR fun X hX=>?_
  simp_arith [sz (show 1<=10000 by decide),ad]
  rw [show FT.T.int 0 :: ns.map FT.T.int = (0 :: ns).map FT.T.int from rfl]
  refine Ok.bind (Ok.for (r:=FT.T.int) (xs:=0 :: ns) (fun _ σ _=>∃ o1 o2 o3 o4:Option FT.T,σ = [some (.lst (ns.map FT.T.int)),o1,o2,o3,o4]) ⟨_,_,_,_,rfl⟩ ?_) ?_
  ·rintro k c σ M hx ⟨o1,o2,o3,o4,rfl⟩
   obtain ⟨x,y,z,hp⟩:=zkh c M
   simp_arith [and_self]
   unfold ziA
   refine Ok.seqX fun X hX=>?_
   simp_arith [sz (show 1<=10000 by decide),hp]
   refine Ok.bind (zl2 (a:=M.length) ⟨x,y,z,qr⟩) ?_
   rintro t M1 ⟨n,rfl,wn⟩
   try simp_arith [and_self]
   rw [hX];clear hX;simp only [yd]
   refine Ok.seqX fun X hX=>?_
   simp_arith [zg2 wn]
   rw [hX];clear hX;simp only [yd]
   refine Ok.seqX fun X hX=>?_
   simp_arith [and_self]
   rw [hX];clear hX;simp only [yd]
   refine Ok.seqX fun X hX=>?_
   have po:=zhK (kT:=kT) wn M1
   refine Ok.bind (P:=fun fl M'=>∃ t,fl = .nx [some (.lst (ns.map FT.T.int)),some (.int c),some (qD n),some (.lst (plT n)),some t]/\((plT n).length<=100/\t = .tup (plT n)\/100 < (plT n).length/\t = .non)) (Ok.try ?_) ?_
   ·cases q:zS kT [qD n] M1 with
    | bad=>rw [q] at po;exact po.elim
    | ok t M2=>
     rw [q] at po
     simp_arith [q]
     exact OkX.ok (Ok.ret ⟨_,rfl,.inl po⟩)
    | exn C fs M2=>
     rw [q] at po
     obtain ⟨rfl,hl⟩:C = kT/\100 < (plT n).length:=po
     simp_arith [q]
     refine ⟨by simp,?_⟩
     exact Ok.ret ⟨_,rfl,.inr ⟨hl,rfl⟩⟩
   rintro fl M2 ⟨t,rfl,⟨hl,rfl⟩ | ⟨hl,rfl⟩⟩
   ·rw [hX];clear hX;simp only [yd]
    simp_arith [Qr (show ¬ (100:Int) < ((plT n).length:Int) by omega),Qq (show ((plT n).length:Int)<=100 by omega),zgJ,zm7]
    exact Ok.ret ⟨_,rfl,_,_,_,_,rfl⟩
   ·rw [hX];clear hX;simp only [yd]
    simp_arith [Qq (show (100:Int) < ((plT n).length:Int) by omega),Qr (show ¬ ((plT n).length:Int)<=100 by omega),show ∀ M,zdu .non .non M = .ok (.bl false) M from fun _=>rfl]
    exact Ok.ret ⟨_,rfl,_,_,_,_,rfl⟩
  rintro fl M ⟨σ,rfl,o1,o2,o3,o4,rfl⟩
  rw [hX];clear hX;simp only [yd]
  simp_arith [and_self]
  exact Ok.ret rfl
 obtain ⟨t,M,e,rfl⟩:=key
 exact ⟨M,e⟩
end
end My
theorem My.e1 {α:Type} {P:List α->Prop} (h:∀ a,P [a]):∀ us:List α,us.length = 1->P us
 | [a],_=>h a
theorem My.e2 {α:Type} {P:List α->Prop} (h:∀ a b,P [a,b]):∀ us:List α,us.length = 2->P us
 | [a,b],_=>h a b
theorem My.e3 {α:Type} {P:List α->Prop} (h:∀ a b c,P [a,b,c]):∀ us:List α,us.length = 3->P us
 | [a,b,c],_=>h a b c
local macro_rules | `(tactic| rfl') => do
 let K:=Lean.mkIdent `KX
 let G:=Lean.mkIdent `G
 `(tactic| (dsimp only [L2.KOf];refine' L2.yQ $K $G ?a ?l ?c ?k ?b;(case a=>k_is);(case l=>k_is);(case c=>k_is);(case k=>k_is)))
open PySem PySem.W PyProof.Rows
set_option maxRecDepth 100000 in
set_option maxHeartbeats 0 in
theorem PySem.Challenge.cw_tryweir_k45_places_of_nets_holds : PySem.Challenge.rw_tryweir_k45_places_of_nets.Holds := by
 refine My.hdD.2 ?_
 dsimp only [My.hdD]
 k_fill
 refine L2.ziH (l:=PySem.Challenge.rw_tryweir_k45_places_of_nets) (n:=63) (k:=17) (x:="script") (CX:=L2.CX0) (sp:=fun K=>FT.spT K (My.zeS (FT.zee K "TooMany"))) rfl (by decide) rfl ⟨rfl,by decide,by decide⟩ (fun w h Y=>PySem.W.kIn_of Y) ?F ?S ?C
 case F=>
  intro w mg fa h KX G hmg
  have uq:L2.Df (L2.KOf KX) mg "_law_next" My.zc5 ["pool","base"]:=by rfl';exact fun _ _ _ _ _ _=>My.e2 fun _ _=>rfl
  have um:L2.Df (L2.KOf KX) mg "_law_names" My.zcl ["pool","many"]:=by rfl';exact fun _ _ _ _ _ _=>My.e2 fun _ _=>rfl
  have us:L2.Df (L2.KOf KX) mg "_law_ask" My.zdQ ["pool","later","purses"]:=by rfl';exact fun _ _ _ _ _ _=>My.e3 fun _ _ _=>rfl
  have uc:L2.Df (L2.KOf KX) mg "_law_drawn_net" My.zap ["pool"]:=by rfl';exact fun _ _ _ _ _ _=>My.e1 fun _=>rfl
  have ue:L2.Df (L2.KOf KX) mg "_law_place_of" My.zaS ["things","name"]:=by rfl';exact fun _ _ _ _ _ _=>My.e2 fun _ _=>rfl
  have uj:L2.Df (L2.KOf KX) mg "_law_chains" My.zaw ["net","house"]:=by rfl';exact fun _ _ _ _ _ _=>My.e2 fun _ _=>rfl
  have ui:L2.Df (L2.KOf KX) mg "_law_places" My.zbN ["net"]:=by rfl';exact fun _ _ _ _ _ _=>My.e1 fun _=>rfl
  have un:L2.Df (L2.KOf KX) mg "_law_pool" My.zc4 ["cells"]:=by rfl';exact fun _ _ _ _ _ _=>My.e1 fun _=>rfl
  have uh:L2.Df (L2.KOf KX) mg "number_of" My.zbk ["named","name"]:=by rfl';exact fun _ _ _ _ _ _=>My.e2 fun _ _=>rfl
  have uk:L2.Df (L2.KOf KX) mg "asked_by" My.zbO ["net","ask"]:=by rfl';exact fun _ _ _ _ _ _=>My.e2 fun _ _=>rfl
  have ua:L2.Df (L2.KOf KX) mg "first_houses" My.z6 ["net"]:=by rfl';exact fun _ _ _ _ _ _=>My.e1 fun _=>rfl
  have ub:L2.Df (L2.KOf KX) mg "chains_from" My.qT ["net","house"]:=by rfl';exact fun _ _ _ _ _ _=>My.e2 fun _ _=>rfl
  have uf:L2.Df (L2.KOf KX) mg "places_of" My.zbj ["net"]:=by rfl';exact fun _ _ _ _ _ _=>My.e1 fun _=>rfl
  have ur:mg "range" = none:=by refine' PySem.W.mg_none_of KX G ?z14;k_is
  have uw:mg "len" = none:=by refine' PySem.W.mg_none_of KX G ?z15;k_is
  have ug:mg "enumerate" = none:=by refine' PySem.W.mg_none_of KX G ?z16;k_is
  have uv:mg "min" = none:=by refine' PySem.W.mg_none_of KX G ?z17;k_is
  have uy:mg "int" = none:=by refine' PySem.W.mg_none_of KX G ?z18;k_is
  have ut:mg "tuple" = none:=by refine' PySem.W.mg_none_of KX G ?z19;k_is
  have uo:mg "sorted" = none:=by refine' PySem.W.mg_none_of KX G ?z20;k_is
  have ux:mg "max" = none:=by refine' PySem.W.mg_none_of KX G ?z21;k_is
  have uu:mg "set" = none:=by refine' PySem.W.mg_none_of KX G ?z22;k_is
  have up:∃ t,mg "STANDS" = some (.int (-1) t):=by
   have h:∃ v,mg "STANDS" = some v/\∃ t,v = .int (-1) t:=by
    refine' ⟨_,PySem.W.mg_of KX G ?z23,?y23⟩
    (case z23=>k_is)
    exact ⟨_,rfl⟩
   obtain ⟨v,h1,t,h2⟩:=h
   exact ⟨t,by rw [h1,h2]⟩
  have ud:∃ t,mg "MOST_PLACES" = some (.int (100) t):=by
   have h:∃ v,mg "MOST_PLACES" = some v/\∃ t,v = .int (100) t:=by
    refine' ⟨_,PySem.W.mg_of KX G ?z24,?y24⟩
    (case z24=>k_is)
    exact ⟨_,rfl⟩
   obtain ⟨v,h1,t,h2⟩:=h
   exact ⟨t,by rw [h1,h2]⟩
  have L:=by
   refine' L2.zl5 (st:=My.zgN) KX G ?la ?ll ?lc ?lk ?lb
   (case la=>k_is);(case ll=>k_is);(case lc=>k_is);(case lk=>k_is)
   exact fun _ _ _ _ _ _ s u=>.of_eq rfl
  obtain ⟨f,fd,F,g,hb⟩:=L
  have e:=hmg.symm.trans g
  cases e
  have T:My.Txt mg:=⟨ur,uw,ug,uv,uy,ut,uo,ux,uu,up,ud⟩
  refine ⟨fd,hb,fun base _ _=>?_⟩
  have ul:L2.ExcAt (L2.KOf KX) mg "TooMany" (FT.zee (L2.KOf KX) "TooMany"):=by
   dsimp only [L2.KOf]
   refine' FT.zlh KX G ?a25 ?l25 ?ln25 ?sk25 ?q25 ?lw25 ?lwn25 ?sl25 ?ni25
   (case a25=>k_is);(case l25=>k_is);(case ln25=>k_is);(case sk25=>exact rfl);(case q25=>k_is);(case lw25=>k_is);(case lwn25=>k_is);(case sl25=>exact rfl);(case ni25=>k_is)
  have yj:=My.yj (P:=My.pg) (w:=w) (base:=base) uq T
  have yY:=My.yY um T yj
  have zaK:=My.zaK us T yj
  have yN:=My.yN uc T yY yj zaK
  have yr:=My.yr (P:=My.pg) (w:=w) (base:=base) ue T
  have zai:=My.zai uj T yr 12
  have qM:=FT.CalT.refine zai (FT.zb0 _) (FT.zb1 _)
  have yM:=My.yM ui T qM yr
  replace yM:=FT.CalT.refine yM (FT.zgx _) (FT.zk5 _)
  have za3:=My.za3 (P:=My.pg) (w:=w) (base:=base) un T
  have yT:=My.yT (P:=My.pg) (w:=w) (base:=base) uh T
  have qw:=My.qw uk T yT
  have zK:=My.zK ua T qw
  have qQ:=My.qQ ub T qw 12
  have zD:=FT.CalT.refine qQ (FT.zb0 _) (FT.zb1 _)
  have zT:=My.zT uf T ul zK zD
  exact My.zl0 F T ul yN yM za3 zT
 case S=>
  intro K H a ns hl _ hS
  obtain ⟨M,h⟩:=My.law_true (FT.zee K "TooMany") ns hl
  exact FT.zkH hS h
 case C=>exact fun _ _ _ _ z=>z
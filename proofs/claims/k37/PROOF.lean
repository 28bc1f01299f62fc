import PyProof.Rows.All
import Wide.All
import OpenK.AllK
import Wide.FinOn
import Lean
import PyProof.EqAt
import PyProof.EqKinds
import PyProof.TupleCall
import PyProof.NeKinds
import PyProof.SumAny
import KE.KDictList
import KE.KDictOf
import PyProof.AttrMissHeap
import PyProof.Conv_int_bool
import PyProof.TupleOfStr
import PyProof.CollectIter
import PyProof.ListRange
import PyProof.DictWalks
import PyProof.ConsumeS
import PyProof.WalkInts
import PyProof.Draws
import PyProof.EnumFor
import PyProof.EnumStmt
import KE.KDictLaws
import KE.KRevIter
import KE.KDictSum
import PyProof.SeqRoads2
import PyProof.EqAt
import PyProof.EnumMake
import PyProof.ZipIter
import PyProof.InstStore
import PyProof.InstStoreFacts
import PyProof.ExcInit
import PyProof.ExcClass2
import PyProof.NsDelKeeps
import PyProof.ExcArgsOwn
import PyProof.Rows.SetFrom
import PyProof.SetRoads
import KE.KIsAll
import KE.IntTextText
import KE.KIntText
import PyProof.StrBlock2
import PyProof.FString5
import PyProof.CallStr
import PyProof.StrWalks
import PyProof.StrCalls
import PyProof.StrCalls2
import PyProof.SliceStr2
import PyProof.StrBlockI
import PyProof.Rows.StrJoin2
import PyProof.CallRoads3
import PyProof.TupleKey
import PyProof.Rows.Range3
import PyProof.AutoListH
import PyProof.Rows.SortShell
import PyProof.SetRoads
import PyProof.Rows.SetFrom
import PyProof.WalkInts
import PyProof.EqAt
import PySem.Challenge.RW_tryweir_k37_events_that_may_come
open PySem.W (Frag)
open List (mem_filter mem_range filterMap_cons mem_cons_self mem_cons_of_mem mem_cons mem_append mem_append_left mem_append_right length_cons map_cons length_map append_nil nodup_cons of_mem_zip length_take getElem?_append_right getElem?_append_left getElem?_map mem_of_getElem? length_append length_replicate size_toArray length_drop length_set all_cons any_cons replicate_succ flatten_cons append_assoc length_singleton map_nil find?_cons length_nil lookup_cons nil_append getElem?_set getElem_of_mem getElem?_eq_getElem mem_map getElem?_range all_eq_true getElem_toArray getElem_mem mem_singleton map_append map_take map_drop map_congr_left getElem?_cons_succ ext_getElem? getElem?_eq_none drop_zero take_of_length_le map_map mem_iff_getElem? set_append_right getD_eq_getElem?_getD not_mem_nil take_succ take_length range_succ length_range)
set_option Elab.async false
set_option linter.all false
set_option maxRecDepth 100000
local macro_rules | `(tactic| ac_rfl) => `(tactic| exact ⟨rfl, rfl, rfl, by decide +kernel, rfl, by decide +kernel, by decide +kernel⟩)
abbrev Q0:=@List.getElem?_eq_getElem
abbrev Q1:=@PySem.wpAny_bind
abbrev Q2:=@PySem.Heap.get?_push_of_some
abbrev Q3:=@Nat.le_refl
abbrev Q4:=@Bool.false_ne_true
abbrev Q5:=@Nat.lt_of_lt_of_le
abbrev Q6:=@List.getElem?_append_left
abbrev Q7:=@List.getD_eq_getElem?_getD
abbrev Q8:=@List.getElem?_append_right
abbrev Q9:=@Int.fmod_eq_emod_of_nonneg
abbrev Qa:=@List.mem_of_getElem?
abbrev Qb:=@List.getElem?_map
abbrev Qc:=@List.getElem?_set
abbrev Qd:=@Option.some.inj
abbrev Qe:=@PySem.Heap.lt_size
abbrev Qf:=@PySem.wpAny_pure
abbrev Qg:=@PySem.wpAny_mono
abbrev Qh:=@List.length_map
abbrev Qi:=@List.size_toArray
abbrev Qj:=@Nat.le_trans
abbrev Qk:=@Nat.ne_of_lt
abbrev Ql:=@PySem.Heap.get?_push_size
abbrev Qm:=@List.mem_append_right
abbrev Qn:=@List.length_append
abbrev Qo:=@Nat.lt_irrefl
abbrev Qp:=@List.length_cons
abbrev Qq:=@List.map_append
abbrev Qr:=@List.length_take
abbrev Qs:=@Bool.and_eq_true
abbrev Qt:=@List.length_singleton
abbrev Qu:=@Nat.sub_self
abbrev Qv:=@decide_eq_true
abbrev Qw:=@decide_eq_false
namespace My
open PySem
noncomputable def zrG:Stmt->Bool
 | .Assign [.Name x _] _ _=>!(x == "__name__")
 | _=>true
noncomputable abbrev pg:Program:=PySem.Challenge.rw_tryweir_k37_events_that_may_come.prog
noncomputable def vw:Program:={ pg with main:={ pg.main with body:=pg.main.body.filter zrG } }
end My
section
open PySem PySem.W PyProof.Rows in
local macro_rules | `(tactic| o_head $H) => `(tactic| refine holds_open (q := My.vw) (loose := []) (Xt := fun s => xlAt My.vw [] s && recOk (RowW.records (OpenRow.toRowW (OpenLaw.row PySem.Challenge.rw_tryweir_k37_events_that_may_come))) s) (XP := XL My.vw []) (Yf := Hook.obs $H) (Ya := Hook.val $H) (YP := Hook.says $H) (N := 40000) (by intro w; kernel_rfl) (Hook.of $H) (Hook.keeps $H) (fun s e => xl_of s (Bool.and_eq_true_iff.mp e).1) XL.keeps (by rfl) (by rfl) (by rfl) (fun s e => recFacts_of (Bool.and_eq_true_iff.mp e).2) (by rfl) (by first | assumption | decide +kernel) (by decide +kernel) ⟨rfl, rfl, rfl, rfl, rfl, by decide +kernel⟩ ?hw ?hc)
open PySem PySem.W PyProof.Rows in
set_option maxHeartbeats 0 in
noncomputable def My.hdD:Σ' P:Prop,P->PySem.Challenge.rw_tryweir_k37_events_that_may_come.Holds:=by
 refine ⟨?P,fun hc=>?_⟩
 rotate_left
 ·w_on;o_law;k_head;(case hw=>w_witness2)
  exact hc
end
namespace L2
open PySem PySem.Spec PyProof.Rows
noncomputable abbrev Key:=Sum Int Str
noncomputable def zeJ:Key->Value->Bool
 | .inl k,v=>Value.isInt k v
 | .inr x,v=>Value.isStrOf x v
noncomputable def zrE (w:World):Key->Int
 | .inl k=>hashInt k
 | .inr x=>hashStr w x
theorem zT:∀ {k:Key} {v:Value},zeJ k v = true->(∃ i t,k = Sum.inl i/\v = Value.int i t)\/(∃ x t,k = Sum.inr x/\v = Value.str x t)
 | .inl i,v,h=>by
  obtain ⟨t,e⟩:=Value.isInt_shape (k:=i) (v:=v) h
  exact .inl ⟨i,t,rfl,e⟩
 | .inr x,v,h=>by
  obtain ⟨t,e⟩:=Value.isStrOf_shape (x:=x) (v:=v) h
  exact .inr ⟨x,t,rfl,e⟩
theorem zkH (i:Int) (t:Tok):zeJ (.inl i) (.int i t) = true:=by simp [zeJ,Value.isInt]
theorem zkG (x:Str) (t:Tok):zeJ (.inr x) (.str x t) = true:=by simp [zeJ,Value.isStrOf]
theorem zpm (a b:Int):decide ((Sum.inl a:Key) = Sum.inl b) = (a == b):=by
 by_cases e:a = b
 ·subst e;simp
 ·have h:¬ (Sum.inl a:Key) = Sum.inl b:=fun q=>e (Sum.inl.inj q)
  rw [Qw h]
  exact (beq_eq_false_iff_ne.mpr e).symm
theorem zpj (a b:Str):decide ((Sum.inr a:Key) = Sum.inr b) = decide (a = b):=by
 by_cases e:a = b
 ·subst e;simp
 ·have h:¬ (Sum.inr a:Key) = Sum.inr b:=fun q=>e (Sum.inr.inj q)
  rw [Qw h,Qw e]
theorem zpl (a:Int) (b:Str):decide ((Sum.inl a:Key) = Sum.inr b) = false:=Qw (fun q=>nomatch q)
theorem zpk (a:Str) (b:Int):decide ((Sum.inr a:Key) = Sum.inl b) = false:=Qw (fun q=>nomatch q)
noncomputable def qZ (prog:Program) (w:World):PySem.KeyKind prog w Key where
 is:=zeJ
 hash:=zrE w
 inj:=fun v a b ha hb=>by
  rcases zT ha with ⟨i,t,rfl,rfl⟩ | ⟨x,t,rfl,rfl⟩
  ·rcases zT hb with ⟨j,u,rfl,e⟩ | ⟨y,u,rfl,e⟩
   ·injection e with e1 _;rw [e1]
   ·exact nomatch e
  ·rcases zT hb with ⟨j,u,rfl,e⟩ | ⟨y,u,rfl,e⟩
   ·exact nomatch e
   ·injection e with e1 _;rw [e1]
 byValue:=fun k v h=>by
  rcases zT h with ⟨i,t,rfl,rfl⟩ | ⟨x,t,rfl,rfl⟩ <;> rfl
 pyHash:=fun hv h=>by
  rcases zT hv with ⟨i,t,rfl,rfl⟩ | ⟨x,t,rfl,rfl⟩
  ·exact wpAny_pyHash_int h
  ·exact wpAny_pyHash_str h
 eqBool:=fun hu hv h=>by
  rcases zT hu with ⟨i,t,rfl,rfl⟩ | ⟨x,t,rfl,rfl⟩
  ·rcases zT hv with ⟨j,u,rfl,rfl⟩ | ⟨y,u,rfl,rfl⟩
   ·rw [zpm] at h;exact wpAny_eqBool_int h
   ·rw [zpl] at h;exact SeqAt.EqAt.int_str i t y u _ _ _ _ h
  ·rcases zT hv with ⟨j,u,rfl,rfl⟩ | ⟨y,u,rfl,rfl⟩
   ·rw [zpk] at h;exact SeqAt.EqAt.str_int x t j u _ _ _ _ h
   ·rw [zpj] at h;exact wpAny_eqBool_str h
 «strs»:=fun k x t v h=>by
  rcases zT h with ⟨i,u,rfl,e⟩ | ⟨y,u,rfl,e⟩
  ·exact nomatch e
  ·injection e with e1 _
   subst e1
   cases v <;> rfl
theorem ziF (prog:Program) (w:World) (i:Int) (t:Tok):(qZ prog w).is (.inl i) (.int i t) = true:=zkH i t
theorem ziE (prog:Program) (w:World) (x:Str) (t:Tok):(qZ prog w).is (.inr x) (.str x t) = true:=zkG x t
inductive V where
 | non | bl (b:Bool) | int (i:Int) | str (x:Str) | byt (b:Array UInt8) | flt (b:UInt64) | ref (a:Addr) | ty (n:String)
 deriving DecidableEq
noncomputable def RelV:V->Value->Prop
 | .non,u=>u = Value.none
 | .bl b,u=>u = Value.bool b
 | .int i,u=>∃ t,u = Value.int i t
 | .str x,u=>∃ t,u = Value.str x t
 | .byt b,u=>∃ t,u = Value.bytes b t
 | .flt b,u=>∃ t,u = Value.float b t
 | .ref a,u=>u = Value.ref a
 | .ty n,u=>u = Value.type n
noncomputable abbrev Vals:List V->List Value->Prop:=Paired RelV
variable {xs:List V} {us:List Value}
theorem Vals.length (r:Vals xs us):xs.length = us.length:=Paired.length r
theorem Vals.get:∀ {xs:List V} {us:List Value} {i:Nat} {x:V},Vals xs us->xs[i]? = some x->∃ u,us[i]? = some u/\RelV x u
 | _,_,_,_,.nil,e=>by simp at e
 | _,_,0,_,.cons r _,e=>by simp at e;subst e;exact ⟨_,rfl,r⟩
 | _,_,i + 1,x,.cons _ t,e=>by
  obtain ⟨u,h1,h2⟩:=Vals.get (i:=i) (x:=x) t (by simpa using e)
  exact ⟨u,by simpa using h1,h2⟩
theorem Vals.set {x:V} {u:Value} (r:RelV x u):∀ {xs:List V} {us:List Value} (i:Nat),Vals xs us->Vals (xs.set i x) (us.set i u)
 | _,_,_,.nil=>.nil
 | _,_,0,.cons _ t=>.cons r t
 | _,_,i + 1,.cons q t=>.cons q (Vals.set r i t)
theorem Vals.append:∀ {xs ys:List V} {us ws:List Value},Vals xs us->Vals ys ws->Vals (xs ++ ys) (us ++ ws)
 | _,_,_,_,.nil,s=>s
 | _,_,_,_,.cons r t,s=>.cons r (Vals.append t s)
theorem Vals.take:∀ {xs:List V} {us:List Value} (n:Nat),Vals xs us->Vals (xs.take n) (us.take n)
 | _,_,0,_=>.nil
 | _,_,_ + 1,.nil=>.nil
 | _,_,n + 1,.cons r t=>.cons r (Vals.take n t)
theorem Vals.drop:∀ {xs:List V} {us:List Value} (n:Nat),Vals xs us->Vals (xs.drop n) (us.drop n)
 | _,_,0,r=>r
 | _,_,_ + 1,.nil=>.nil
 | _,_,n + 1,.cons _ t=>Vals.drop n t
theorem Vals.none_of:∀ {xs:List V} {us:List Value} {i:Nat},Vals xs us->xs[i]? = none->us[i]? = none:=fun {xs us i} r e=>by
 have h1:=r.length
 have h2:xs.length<=i:=List.getElem?_eq_none_iff.mp e
 exact List.getElem?_eq_none_iff.mpr (by omega)
noncomputable def RelO:Option V->Option Value->Prop
 | some v,some u=>RelV v u
 | none,none=>True
 | _,_=>False
noncomputable def KV {κ:Type}:List (κ × V)->List (κ × Value)->Prop:=Paired fun (p:κ × V) (q:κ × Value)=>p.1 = q.1/\RelV p.2 q.2
noncomputable def kV:Key->V
 | .inl i=>.int i
 | .inr x=>.str x
inductive HO where
 | lst (xs:List V)
 | tup (xs:List V)
 | dK (kvs:List (Key × V)) | dT (kvs:List (List Key × V))
 | set (S:Int->Bool) (n:Nat)
 | ins (C dx:Addr) (fs:List (Str × V))
 | own (x:Addr)
 | xd (fs:List (Str × V))
 | met (f x:Addr)
 | rng (lo hi:Int)
 | frz (o:Obj) (u:HO)
 | tbl (ps:Array Value)
 | ext (φ:Heap->Prop)
noncomputable abbrev Hp:=Addr->Option HO
noncomputable def upd (H:Hp) (a:Addr) (o:HO):Hp:=fun b=>if b = a then some o else H b
variable {o:HO} {H:Hp}
theorem yF {a:Addr} :upd H a o a = some o:=by unfold upd;rw [if_pos rfl]
theorem zl {a b:Addr} (h:b ≠ a):upd H a o b = H b:=by unfold upd;rw [if_neg h]
theorem zda {a b:Addr} {u:HO} (h:H a = some o) (h':H b = some u) (d:o ≠ u):a ≠ b:=by
 intro e;subst e;rw [h] at h';exact d (Qd h')
theorem qE {a b:Addr} (h:H a = some o) (h':H b = none):a ≠ b:=by
 intro e;subst e;rw [h] at h';cases h'
def NoDict (h:Heap) (a:Addr):Prop:=∀ o,h.get? a = some o->o.dict = none
variable {h:Heap} {n:Nat}
theorem NoDict.new {its:Array Value} {n:Nat}:NoDict (h.push { cls:=.type "tuple",data:=.seq its n }) h.objs.size:=fun o e=>by
 rw [Ql _ rfl] at e;cases e;rfl
section
variable (P:Program) (w:World)
noncomputable def ObjOk (H:Hp) (h:Heap) (a:Addr):HO->Prop
 | .lst xs=>xs.length<=sizeLine/\∃ (its:List Value) (n:Nat),Vals xs its/\h.get? a = some { cls:=.type "list",data:=.seq its.toArray n }
 | .tup xs=>xs.length<=sizeLine/\∃ its:List Value,Vals xs its/\IsTup h a its.toArray/\NoDict h a
 | .dK kvs=>kvs.length<=sizeLine/\(a == sysModules) = false/\∃ vs,KV kvs vs/\h.DictOf (qZ P w) a vs
 | .dT kvs=>kvs.length<=sizeLine/\(a == sysModules) = false/\∃ xs:List (List Key × Addr × Value),
   Paired (fun (p:List Key × V) (q:List Key × Addr × Value)=>p.1 = q.1/\H q.2.1 = some (.tup (p.1.map kV))/\RelV p.2 q.2.2) kvs xs /\
   ∃ o es ep,h.get? a = some o/\o.ExactDict/\o.data = .dict es ep/\es.toList = xs.map (entryOfKey (tupleKind (qZ P w)))/\(xs.map (·.1)).Nodup
 | .set S n=>h.SetOf (intKind P w) a S n
 | .ins C dx fs=>H dx = some (.own a)/\fs.length<=1000/\dx ≠ a/\h.get? a = some (PySem.W.instObj C dx) /\
   ∃ mA,h.Ns1 dx mA/\(∀ f,RelO (fs.lookup f) (mA f))/\PySem.Within mA (fs.map (·.1))
 | .own _=>∃ o,h.get? a = some o
 | .xd fs=>∃ mA,h.Ns1 a mA/\∀ f,RelO (fs.lookup f) (mA f)
 | .rng lo hi=>∃ t u v,h.get? a = some { cls:=.type "range",data:=.fields #[.int lo t,.int hi u,.int 1 v] }
 | .frz o u=>h.get? a = some o/\ObjOk H h a u
 | .tbl ps=>h.get? a = some { cls:=.none,data:=.fields ps }
 | .met f x=>h.get? a = some (PySem.W.methodObj (.ref f) (.ref x))
 | .ext φ=>φ h/\(∃ o,h.get? a = some o)/\∀ h1 h2:Heap,φ h1->(∀ o,h1.get? a = some o->h2.get? a = some o)->φ h2
def HOk (H:Hp) (h:Heap):Prop:=∀ a o,H a = some o->ObjOk P w H h a o
end
variable {h':Heap} {H':Hp} {P:Program} {w:World}
section
variable {a:Addr}
theorem ObjOk.lt (x:ObjOk P w H h a o):a < h.objs.size:=by
 cases o with
 | lst xs=>obtain ⟨_,_,_,_,e⟩:=x;exact Qe e
 | tup xs=>obtain ⟨_,_,_,p,_⟩:=x;exact p.lt
 | dK kvs=>obtain ⟨_,_,_,_,o,_,_,e,_⟩:=x;exact Qe e
 | dT kvs=>obtain ⟨_,_,_,_,o,_,_,e,_⟩:=x;exact Qe e
 | set S n=>obtain ⟨o,_,_,_,e,_⟩:=x;exact Qe e
 | ins C dx fs=>obtain ⟨_,_,_,e,_⟩:=x;exact Qe e
 | own y=>obtain ⟨_,e⟩:=x;exact Qe e
 | xd fs=>obtain ⟨_,⟨_,_,_,e,_⟩,_⟩:=x;exact Qe e
 | rng lo hi=>obtain ⟨_,_,_,e⟩:=x;exact Qe e
 | frz ob u=>obtain ⟨e,_⟩:=x;exact Qe e
 | tbl ps=>exact Qe (show h.get? a = some _ from x)
 | met f y=>exact Qe (show h.get? a = some _ from x)
 | ext φ=>obtain ⟨_,⟨_,e⟩,_⟩:=x;exact Qe e
theorem Paired.mapP {α β:Type} {F G:α->β->Prop}:∀ {l₁:List α} {l₂:List β},Paired F l₁ l₂->(∀ a b,F a b->G a b)->Paired G l₁ l₂
 | _,_,.nil,_=>.nil
 | _,_,.cons r t,f=>.cons (f _ _ r) (Paired.mapP t f)
theorem ObjOk.stay (x:ObjOk P w H h a o) (k:∀ b u,(b = a\/H b = some (.own a))->h.get? b = some u->h'.get? b = some u)
  (ho:∀ b,H b = some (.own a)->H' b = some (.own a)) (ht:∀ b xs,H b = some (.tup xs)->H' b = some (.tup xs)):ObjOk P w H' h' a o:=by
 induction o with
 | lst xs=>obtain ⟨z,its,n,r,e⟩:=x;exact ⟨z,its,n,r,k _ _ (.inl rfl) e⟩
 | tup xs=>obtain ⟨z,its,r,⟨ob,e,c⟩,nd⟩:=x;exact ⟨z,its,r,⟨ob,k _ _ (.inl rfl) e,c⟩,fun o q=>nd o (by rw [k _ _ (.inl rfl) e] at q;rw [e];exact q)⟩
 | dK kvs=>obtain ⟨z,y,vs,r,ob,es,ep,e,c⟩:=x;exact ⟨z,y,vs,r,ob,es,ep,k _ _ (.inl rfl) e,c⟩
 | dT kvs=>
  obtain ⟨z,y,xs,r,ob,es,ep,e,c⟩:=x
  exact ⟨z,y,xs,Paired.mapP r fun p q z=>⟨z.1,ht _ _ z.2.1,z.2.2⟩,ob,es,ep,k _ _ (.inl rfl) e,c⟩
 | set S n=>obtain ⟨ob,es,ep,t,e,c⟩:=x;exact ⟨ob,es,ep,t,k _ _ (.inl rfl) e,c⟩
 | ins C dx fs=>
  obtain ⟨d,z,ne,e,mA,⟨od,es,ep,e2,c⟩,r⟩:=x
  exact ⟨ho _ d,z,ne,k _ _ (.inl rfl) e,mA,⟨od,es,ep,k _ _ (.inr d) e2,c⟩,r⟩
 | own y=>obtain ⟨ob,e⟩:=x;exact ⟨ob,k _ _ (.inl rfl) e⟩
 | xd fs=>obtain ⟨mA,⟨od,es,ep,e,c⟩,r⟩:=x;exact ⟨mA,⟨od,es,ep,k _ _ (.inl rfl) e,c⟩,r⟩
 | rng lo hi=>obtain ⟨t,u,v,e⟩:=x;exact ⟨t,u,v,k _ _ (.inl rfl) e⟩
 | frz ob u ih=>obtain ⟨e,q⟩:=x;exact ⟨k _ _ (.inl rfl) e,ih q⟩
 | tbl ps=>
  have e:h.get? a = some { cls:=.none,data:=.fields ps }:=x
  show h'.get? a = some { cls:=.none,data:=.fields ps }
  exact k a _ (.inl rfl) e
 | met f y=>
  have e:h.get? a = some (PySem.W.methodObj (.ref f) (.ref y)):=x
  show h'.get? a = some (PySem.W.methodObj (.ref f) (.ref y))
  exact k a _ (.inl rfl) e
 | ext φ=>obtain ⟨p,⟨o,e⟩,st⟩:=x;exact ⟨st _ _ p fun o q=>k _ _ (.inl rfl) q,⟨o,k _ _ (.inl rfl) e⟩,st⟩
theorem HOk.lt (x:HOk P w H h) (e:H a = some o):a < h.objs.size:=(x a o e).lt
theorem HOk.fresh (x:HOk P w H h) (e:h.objs.size<=a):H a = none:=by
 cases q:H a with
 | none=>rfl
 | some u=>exact absurd (Q5 (x.lt q) e) (Qo _)
theorem HOk.kept (x:HOk P w H h) (k:∀ b u,h.get? b = some u->h'.get? b = some u):HOk P w H h':=fun a o e=>
 (x a o e).stay (fun b u _ q=>k b u q) (fun _ q=>q) fun _ _ q=>q
theorem HOk.laid (x:HOk P w H h) (k:∀ b u,h.get? b = some u->h'.get? b = some u) (hp:h.objs.size<=a) (new:ObjOk P w (upd H a o) h' a o):HOk P w (upd H a o) h':=fun b u e=>by
 have hn:=x.fresh hp
 by_cases hb:b = a
 ·subst hb;rw [yF] at e;cases e;exact new
 ·rw [zl hb] at e
  exact (x b u e).stay (fun c v _ q=>k c v q) (fun c q=>by rw [zl (qE q hn)];exact q) fun c xs q=>by rw [zl (qE q hn)];exact q
end
def Rd (H:Hp) (a:Addr) (u:HO):Prop:=H a = some u\/∃ o,H a = some (.frz o u)
theorem Rd.ok {a:Addr} {u:HO} (r:Rd H a u) (x:HOk P w H h):ObjOk P w H h a u:=by
 rcases r with r | ⟨o,r⟩
 ·exact x a u r
 ·obtain ⟨_,q⟩:=x a _ r
  exact q
noncomputable def Mut:Option HO->Prop
 | some (.lst _)=>True
 | some (.dK _)=>True
 | some (.dT _)=>True
 | some (.set _ _)=>True
 | some (.ins _ _ _)=>True
 | some (.ext _)=>True
 | _=>False
section
variable {x e:Addr} {o':HO}
theorem HOk.write (ok:HOk P w H h) (mu:Mut (H x)) (he:e = x\/H e = some (.own x)) (k:∀ b u,b ≠ e->h.get? b = some u->h'.get? b = some u) (heo:∃ u,h'.get? e = some u)
  (new:ObjOk P w (upd H x o') h' x o'):HOk P w (upd H x o') h':=fun b u q=>by
 have nown:∀ c y,H c = some (.own y)->c ≠ x:=fun c y r z=>by subst z;rw [r] at mu;exact mu
 have ntup:∀ c xs,H c = some (.tup xs)->c ≠ x:=fun c xs r z=>by subst z;rw [r] at mu;exact mu
 by_cases hb:b = x
 ·subst hb;rw [yF] at q;cases q;exact new
 ·rw [zl hb] at q
  by_cases hbe:b = e
  ·have q':H b = some (.own x):=by
    rcases he with z | z
    ·exact absurd (hbe.trans z) hb
    ·rw [hbe];exact z
   rw [q] at q';cases q'
   obtain ⟨v,hv⟩:=heo
   exact ⟨v,by rw [hbe];exact hv⟩
  ·refine (ok b u q).stay (fun c v hc r=>k c v ?_ r) (fun c r=>by rw [zl (nown c b r)];exact r) fun c xs r=>by rw [zl (ntup c xs r)];exact r
   rcases hc with rfl | hc
   ·exact hbe
   ·rintro rfl
    rcases he with z | z
    ·exact nown c b hc z
    ·rw [hc] at z;cases z;exact hb rfl
end
structure Un (fs ex:List Addr) (H H':Hp) (h h':Heap):Prop where
 keep:∀ b o,h.get? b = some o->H b = none->b ∉ fs->b ∉ ex->h'.get? b = some o
 slot:∀ b o,h.get? b = some o->H b = none->b ∈ fs->b ∉ ex->∃ sl,h'.get? b = some { o with slots:=sl }
 free:∀ b o,h.get? b = some o->H b = none->b ∉ ex->H' b = none
 there:∀ b o,h.get? b = some o->b ∉ ex->∃ o',h'.get? b = some o'
 tups:∀ b xs,H b = some (.tup xs)->H' b = some (.tup xs)
 frzs:∀ b o u,H b = some (.frz o u)->H' b = some (.frz o u)
 tbls:∀ b ps,H b = some (.tbl ps)->∃ more,H' b = some (.tbl (ps ++ more))
section
variable {fs fs' ex ex':List Addr} {H1 H2:Hp} {h1 h2:Heap} {a x e:Addr}
theorem Un.any (u:Un fs ex H H1 h h1) {b:Addr} {ob:Obj} (q:h.get? b = some ob) (n:H b = none) (hx:b ∉ ex):∃ sl,h1.get? b = some { ob with slots:=sl }:=by
 by_cases hb:b ∈ fs
 ·exact u.slot b ob q n hb hx
 ·exact ⟨ob.slots,u.keep b ob q n hb hx⟩
theorem Un.kept (k:∀ b u,h.get? b = some u->h'.get? b = some u):Un fs ex H H h h':=
 ⟨fun b ob q _ _ _=>k b ob q,fun b ob q _ _ _=>⟨ob.slots,k b ob q⟩,fun _ _ _ n _=>n,fun b ob q _=>⟨ob,k b ob q⟩,fun _ _ q=>q,fun _ _ _ q=>q,fun _ ps q=>⟨#[],by rw [q];simp⟩⟩
theorem Un.refl:Un fs ex H H h h:=Un.kept fun _ _ q=>q
theorem Un.laid (k:∀ b u,h.get? b = some u->h'.get? b = some u) (hp:h.objs.size<=a) (hn:H a = none):Un fs ex H (upd H a o) h h' where
 keep:=fun b u q _ _ _=>k b u q
 slot:=fun b u q _ _ _=>⟨u.slots,k b u q⟩
 free:=fun b u q n _=>by rw [zl (Qk (Q5 (Qe q) hp))];exact n
 there:=fun b u q _=>⟨u,k b u q⟩
 tups:=fun b xs q=>by rw [zl (qE q hn)];exact q
 frzs:=fun b u xs q=>by rw [zl (qE q hn)];exact q
 tbls:=fun b ps q=>⟨#[],by rw [zl (qE q hn),q];simp⟩
theorem Un.write (mu:Mut (H x)) (he:e = x\/H e = some (.own x)) (k:∀ b u,b ≠ e->h.get? b = some u->h'.get? b = some u) (heo:∃ u,h'.get? e = some u):Un fs ex H (upd H x o) h h':=by
 have hx:∀ b,H b = none->b ≠ x:=fun b n z=>by subst z;rw [n] at mu;exact mu
 have hb:∀ b,H b = none->b ≠ e:=fun b n z=>by
  subst z
  rcases he with r | r
  ·exact hx b n r
  ·rw [n] at r;cases r
 have hm:∀ b u,H b = some u->¬ Mut (some u)->b ≠ x:=fun b u q nm z=>by subst z;rw [q] at mu;exact nm mu
 refine ⟨fun b u q n _ _=>k b u (hb b n) q,fun b u q n _ _=>⟨u.slots,k b u (hb b n) q⟩,fun b u q n _=>by rw [zl (hx b n)];exact n,fun b u q _=>?_,
  fun b xs q=>by rw [zl (hm b _ q fun z=>z)];exact q,fun b u xs q=>by rw [zl (hm b _ q fun z=>z)];exact q,fun b ps q=>⟨#[],by rw [zl (hm b _ q fun z=>z),q];simp⟩⟩
 by_cases hbe:b = e
 ·subst hbe;exact heo
 ·exact ⟨u,k b u hbe q⟩
end
noncomputable def trk (h:Heap) (H:Hp):List Addr:=(List.range h.objs.size).filter fun a=>(H a).isSome
noncomputable def zdY (h:Heap) (H:Hp):Heap:=PySem.W.hideAll h (trk h H)
theorem zkL (h:Heap) (H:Hp):(zdY h H).objs.size = h.objs.size:=PySem.W.hideAll_size _ _
theorem zlW {b:Addr} {o:Obj} (e:h.get? b = some o) (n:H b = none):(zdY h H).get? b = some o:=
 PySem.W.hideAll_get _ e fun hm=>by
  have q:(H b).isSome = true:=(mem_filter.mp hm).2
  rw [n] at q;simp at q
theorem znl {b:Addr} {o:Obj} (e:(zdY h H).get? b = some o):h.get? b = some o/\H b = none:=by
 have e':h.get? b = some o:=PySem.W.of_hideAll (trk h H) e
 refine ⟨e',?_⟩
 cases q:H b with
 | none=>rfl
 | some x=>
  have hm:b ∈ trk h H:=mem_filter.mpr ⟨mem_range.mpr (Qe e'),by simp [q]⟩
  have z:(zdY h H).get? b = none:=PySem.W.hideAll_none (trk h H) hm
  rw [z] at e;cases e
noncomputable def zoc (g h:Heap) (L:Addr):List (Addr × Obj):=(List.range h.objs.size).filterMap fun a=>if a = L\/(g.get? a).isSome = true then none else (h.get? a).map fun o=>(a,o)
noncomputable def rest (g h:Heap) (L d:Addr):List (Addr × Obj):=(zoc g h L).filter fun p=>decide (p.1 ≠ d)
structure Mod (K:Frag) (mg:Str->Option Value) (base:Heap):Prop where
 kin:K.In base
 glob:base.Ns mainGlobals mg
 blt:∃ mb,base.Ns builtinsNs mb/\∀ x:Str,x ≠ "__name__"->mb x = bootBuiltins x
 nolimit:base.NoLimit
structure Cx where
 prog:Program
 w:World
 K:Frag
 mg:Str->Option Value
 base:Heap
 A:Around
 N:List Str
 s₀:Shared
 H₀:Hp
 env:Env
 outer:List Env
 stack:List Env
 ex:List Addr
 fn:Str->Bool
 calm:Bool
 pn:List (Addr × Obj)
 xe:Value->Shared->Prop
noncomputable def frs (l:List Env):List Addr:=l.filterMap (·.frame)
noncomputable abbrev Cx.fs (X:Cx):List Addr:=frs X.outer
def Vis (sc:Scope) (x:Str):Prop:=sc.names.lookup x = some .local\/sc.names.lookup x = some .cell\/sc.names.lookup x = some .free
def Loc (sc:Scope) (x:Str):Prop:=sc.names.lookup x = some .local\/sc.names.lookup x = some .cell
def Look (env:Env) (h:Heap) (m:Str->Option Value) (x:Str) (u:Value):Prop:=
 (env.kindOf x = some .local/\m x = some u)\/((env.kindOf x = some .cell\/env.kindOf x = some .free)/\∃ c,env.cells.lookup x = some c/\h.IsCell c (some u))
structure Cx.Ok (X:Cx):Prop where
 mod:Mod X.K X.mg X.base
 kind:X.env.scope.kind = .function
 glob:X.env.globals = mainGlobals
 blt:X.env.builtins = builtinsNs
 above:X.s₀.heap.objs.size<=X.env.locals
 inj:∀ x y c,X.env.cells.lookup x = some c->X.env.cells.lookup y = some c->x = y
 has:∀ x,(X.env.kindOf x = some .cell\/X.env.kindOf x = some .free)->∃ c,X.env.cells.lookup x = some c
 cab:∀ x c,X.fn x = true->X.env.cells.lookup x = some c->X.s₀.heap.objs.size<=c
 hd:X.calm = true->X.A.handled = none
 frames:X.A.frames = some X.stack
 stk:X.stack = X.outer\/(X.stack = X.env :: X.outer/\X.env.frame = some X.env.locals)
 exf:∀ b ∈ X.ex,b ≠ X.env.locals/\∀ x c,X.env.cells.lookup x = some c->c ≠ b
 bs:∀ b o,X.base.get? b = some o->X.s₀.heap.get? b = some o/\X.H₀ b = none
 bsz:X.base.objs.size<=X.s₀.heap.objs.size
 noex:∀ b o,X.base.get? b = some o->b ∉ X.ex
 exfs:∀ b ∈ X.ex,b ∉ X.fs
 funs:X.s₀.heap.FunFrames X.base X.outer
 frf:∀ b ∈ X.fs,X.H₀ b = none
structure Inv (X:Cx) (pins:List (Addr × Obj)) (σ:List (Option V)) (H:Hp) (s:Shared):Prop where
 ok:X.Ok
 os:s.os = X.s₀.os
 bare:AllBare s.gens
 base:Un X.fs X.ex X.H₀ H X.s₀.heap s.heap
 loc:∃ m,s.heap.Ns X.env.locals m/\∀ (i:Nat) (x:Str) (v:V),X.N[i]? = some x->σ[i]? = some (some v)->Vis X.env.scope x->∃ u,RelV v u/\Look X.env s.heap m x u
 cell:∀ x c,X.env.cells.lookup x = some c->∃ v,s.heap.IsCell c v
 free:H X.env.locals = none
 freeC:∀ x c,X.env.cells.lookup x = some c->H c = none
 pin:∀ p ∈ X.pn ++ pins,s.heap.get? p.1 = some p.2/\H p.1 = none/\p.1 ≠ X.env.locals/\p.1 ∉ X.fs/\∀ v,p.2.data ≠ .cell v
 hok:HOk X.prog X.w H s.heap
 len:σ.length = X.N.length
variable {it:Addr} {A:Around} {g':Array GenState} {X:Cx} {d':Drawn} {pins:List (Addr × Obj)} {ch:List Addr} {N:List Str} {M:Model} {i j t':Nat} {s s':Shared} {x:Str} {v:V} {u:Value} {E:Value->Shared->Prop}
section
variable {σ:List (Option V)}
theorem Cx.Ok.nofr (ok:X.Ok) {b:Addr} {o:Obj} (e:X.base.get? b = some o):b ∉ X.fs:=fun hb=>by
 have:=(ok.funs.mem hb).1
 rw [e] at this;cases this
theorem Inv.bs (I:Inv X pins σ H s):∀ b o,X.base.get? b = some o->s.heap.get? b = some o/\H b = none:=fun b o e=>
 ⟨I.base.keep b o (I.ok.bs b o e).1 (I.ok.bs b o e).2 (I.ok.nofr e) (I.ok.noex b o e),I.base.free b o (I.ok.bs b o e).1 (I.ok.bs b o e).2 (I.ok.noex b o e)⟩
theorem Inv.bk (I:Inv X pins σ H s):∀ b o,X.base.get? b = some o->s.heap.get? b = some o:=fun b o e=>(I.bs b o e).1
theorem Inv.mod (I:Inv X pins σ H s):Mod X.K X.mg X.base:=I.ok.mod
theorem Inv.kIn (I:Inv X pins σ H s):X.K.In s.heap:=I.ok.mod.kin.keeps I.bk
theorem Inv.fr (I:Inv X pins σ H s):∃ m,Fr X.base X.env.locals s.heap m:=
 let ⟨m,hn,_⟩:=I.loc
 ⟨m,hn,I.bk,Qj I.ok.bsz I.ok.above⟩
theorem Inv.lt (I:Inv X pins σ H s):X.env.locals < s.heap.objs.size:=let ⟨_,hn,_⟩:=I.loc;hn.lt
theorem Inv.sz (I:Inv X pins σ H s):X.s₀.heap.objs.size<=s.heap.objs.size:=Qj I.ok.above (Nat.le_of_lt I.lt)
theorem Inv.nofs (I:Inv X pins σ H s) {a:Addr} (h:s.heap.objs.size<=a):a ∉ X.fs:=fun hb=>by
 obtain ⟨_,o,ho,_⟩:=I.ok.funs.mem hb
 exact absurd (Q5 (Qe ho) (Qj I.sz h)) (Qo _)
theorem Inv.cne (I:Inv X pins σ H s):∀ x c,X.env.cells.lookup x = some c->c ≠ X.env.locals:=fun x c e z=>by
 obtain ⟨v,o,ho,hd⟩:=I.cell x c e
 obtain ⟨m,⟨o',es,ep,ho',hd',_⟩,_⟩:=I.loc
 rw [z,ho'] at ho;cases ho;rw [hd'] at hd;cases hd
theorem Inv.funs (I:Inv X pins σ H s):s.heap.FunFrames X.base X.outer:=by
 have all:∀ (l:List Env),(∀ b ∈ frs l,b ∈ X.fs)->X.s₀.heap.FunFrames X.base l->s.heap.FunFrames X.base l:=by
  intro l
  induction l with
  | nil=>intro _ _;trivial
  | cons env r ih=>
   intro hs hl
   obtain ⟨hk,⟨L,o,hf,hn,ho,hd⟩,hr⟩:=hl
   have hL:L ∈ X.fs:=hs L (by unfold frs;rw [filterMap_cons,hf];exact mem_cons_self)
   obtain ⟨sl,e⟩:=I.base.slot L o ho (I.ok.frf L hL) hL fun z=>I.ok.exfs L z hL
   exact ⟨hk,⟨L,_,hf,hn,e,hd⟩,ih (fun b hb=>hs b (by unfold frs;rw [filterMap_cons,hf];exact mem_cons_of_mem _ hb)) hr⟩
 exact all X.outer (fun _ hb=>hb) I.ok.funs
theorem Inv.stack (I:Inv X pins σ H s):s.heap.FunFrames X.base X.stack:=by
 rcases I.ok.stk with e | ⟨e,hf⟩
 ·rw [e];exact I.funs
 ·rw [e]
  obtain ⟨m,hn,_⟩:=I.loc
  refine .cons (by rw [I.ok.kind];decide) hf hn ?_ I.funs
  exact Heap.get?_none_of_le (Qj I.ok.bsz I.ok.above)
theorem Inv.stkSub (I:Inv X pins σ H s):∀ b ∈ frs X.stack,b ∈ X.env.locals :: X.fs:=fun b hb=>by
 rcases I.ok.stk with e | ⟨e,hf⟩
 ·rw [e] at hb;exact mem_cons_of_mem _ hb
 ·rw [e] at hb
  unfold frs at hb
  rw [filterMap_cons,hf] at hb
  exact hb
theorem Inv.stkFree (I:Inv X pins σ H s):∀ b ∈ frs X.stack,H b = none:=fun b hb=>by
 rcases mem_cons.mp (I.stkSub b hb) with e | hb
 ·rw [e];exact I.free
 ·obtain ⟨_,o,ho,_⟩:=I.ok.funs.mem hb
  exact I.base.free b o ho (I.ok.frf b hb) fun z=>I.ok.exfs b z hb
theorem Inv.step {t':Nat} {d':Drawn} (I:Inv X pins σ H s)
 (hch:∀ b ∈ ch,(b ∈ X.ex\/X.s₀.heap.objs.size<=b)/\b ≠ X.env.locals/\(∀ x c,X.env.cells.lookup x = some c->c ≠ b)/\∀ p ∈ X.pn ++ pins,p.1 ≠ b)
 (keep:∀ b o,b ≠ X.env.locals->b ∉ X.fs->b ∉ ch->s.heap.get? b = some o->H b = none->h'.get? b = some o)
 (slot:∀ b o,b ≠ X.env.locals->b ∈ X.fs->b ∉ ch->s.heap.get? b = some o->H b = none->∃ sl,h'.get? b = some { o with slots:=sl }) (free:∀ b o,b ∉ ch->s.heap.get? b = some o->H b = none->H' b = none)
 (there:∀ b o,b ∉ ch->s.heap.get? b = some o->∃ o',h'.get? b = some o')
 (tups:∀ b xs,H b = some (.tup xs)->H' b = some (.tup xs)) (frzs:∀ b o u,H b = some (.frz o u)->H' b = some (.frz o u)) (tbls:∀ b ps,H b = some (.tbl ps)->∃ more,H' b = some (.tbl (ps ++ more)))
 (ns:∀ m,s.heap.Ns X.env.locals m->h'.Ns X.env.locals m) (hok:HOk X.prog X.w H' h') (hg:AllBare g') :
  Inv X pins σ H' { s with heap:=h',gens:=g',drawn:=d',toks:=t' }:=by
 have neL:∀ b o,X.s₀.heap.get? b = some o->b ≠ X.env.locals:=fun b o e=>Qk (Q5 (Qe e) I.ok.above)
 have neC:∀ b o,X.s₀.heap.get? b = some o->b ∉ X.ex->b ∉ ch:=fun b o e hx hb=>by
  rcases (hch b hb).1 with z | z
  ·exact hx z
  ·exact absurd (Q5 (Qe e) z) (Qo _)
 have cellK:∀ x c,X.env.cells.lookup x = some c->∀ v,s.heap.IsCell c v->h'.IsCell c v:=fun x c e v h9=>by
  obtain ⟨o,ho,hd⟩:=h9
  have nch:c ∉ ch:=fun z=>(hch c z).2.2.1 x c e rfl
  by_cases hc:c ∈ X.fs
  ·obtain ⟨sl,q⟩:=slot c o (I.cne x c e) hc nch ho (I.freeC x c e)
   exact ⟨_,q,hd⟩
  ·exact ⟨o,keep c o (I.cne x c e) hc nch ho (I.freeC x c e),hd⟩
 refine ⟨I.ok,I.os,hg,⟨fun b o e n hb hx=>?_,fun b o e n hb hx=>?_,fun b o e n hx=>?_,fun b o e hx=>?_,fun b xs e=>tups b xs (I.base.tups b xs e),fun b o xs e=>frzs b o xs (I.base.frzs b o xs e),fun b ps e=>?_⟩,?_,fun x c e=>?_,?_,fun x c e=>?_,fun p hp=>?_,hok,I.len⟩
 ·exact keep b o (neL b o e) hb (neC b o e hx) (I.base.keep b o e n hb hx) (I.base.free b o e n hx)
 ·obtain ⟨sl,e1⟩:=I.base.slot b o e n hb hx
  obtain ⟨sl',e2⟩:=slot b _ (neL b o e) hb (neC b o e hx) e1 (I.base.free b o e n hx)
  exact ⟨sl',e2⟩
 ·obtain ⟨o',e1⟩:=I.base.there b o e hx
  exact free b o' (neC b o e hx) e1 (I.base.free b o e n hx)
 ·obtain ⟨o',e1⟩:=I.base.there b o e hx
  exact there b o' (neC b o e hx) e1
 ·obtain ⟨m1,e1⟩:=I.base.tbls b ps e
  obtain ⟨m2,e2⟩:=tbls b _ e1
  exact ⟨m1 ++ m2,by rw [e2,Array.append_assoc]⟩
 ·obtain ⟨m,hn,hl⟩:=I.loc
  refine ⟨m,ns m hn,fun i x v e1 e2 e3=>?_⟩
  obtain ⟨u,r,l⟩:=hl i x v e1 e2 e3
  refine ⟨u,r,?_⟩
  rcases l with l | ⟨k,c,e,z⟩
  ·exact .inl l
  ·exact .inr ⟨k,c,e,cellK x c e _ z⟩
 ·obtain ⟨v,z⟩:=I.cell x c e
  exact ⟨v,cellK x c e v z⟩
 ·obtain ⟨m,⟨o,_,_,ho,_⟩,_⟩:=I.loc
  exact free _ o (fun z=>(hch _ z).2.1 rfl) ho I.free
 ·obtain ⟨v,o,ho,hd⟩:=I.cell x c e
  exact free c o (fun z=>(hch c z).2.2.1 x c e rfl) ho (I.freeC x c e)
 ·obtain ⟨e,n,ne,nf,d⟩:=I.pin p hp
  have nch:p.1 ∉ ch:=fun z=>(hch p.1 z).2.2.2 p hp rfl
  exact ⟨keep p.1 p.2 ne nf nch e n,free p.1 p.2 nch e n,ne,nf,d⟩
theorem Inv.un {t':Nat} (I:Inv X pins σ H s) (u:Un X.fs [] H H' s.heap h') (hok:HOk X.prog X.w H' h'):Inv X pins σ H' { s with heap:=h',toks:=t' }:=by
 obtain ⟨m,⟨o,es,ep,ho,r⟩,_⟩:=id I.loc
 obtain ⟨sl,hL⟩:=u.any ho I.free (by simp)
 exact I.step (g':=s.gens) (d':=s.drawn) (ch:=[]) (fun _ z=>nomatch z) (fun b o _ hb _ e n=>u.keep b o e n hb (by simp)) (fun b o _ hb _ e n=>u.slot b o e n hb (by simp)) (fun b o _ e n=>u.free b o e n (by simp)) (fun b o _ e=>u.there b o e (by simp)) u.tups u.frzs u.tbls (fun m' hm=>by
  obtain ⟨o',es',ep',ho',r'⟩:=hm
  rw [ho] at ho';cases ho'
  exact ⟨_,es',ep',hL,r'⟩) hok I.bare
theorem Inv.call {t':Nat} {d':Drawn} (I:Inv X pins σ H s) (u:Un (frs X.stack) ch H H' s.heap h') (hok:HOk X.prog X.w H' h') (hg:AllBare g')
 (hch:∀ b ∈ ch,(b ∈ X.ex\/X.s₀.heap.objs.size<=b)/\b ≠ X.env.locals/\(∀ x c,X.env.cells.lookup x = some c->c ≠ b)/\∀ p ∈ X.pn ++ pins,p.1 ≠ b) :
  Inv X pins σ H' { s with heap:=h',gens:=g',drawn:=d',toks:=t' }:=by
 obtain ⟨m,⟨o,es,ep,ho,r⟩,_⟩:=id I.loc
 obtain ⟨sl,hL⟩:=u.any ho I.free fun z=>(hch _ z).2.1 rfl
 exact I.step (ch:=ch) hch (fun b o hL hb hc e n=>u.keep b o e n (fun z=>(mem_cons.mp (I.stkSub b z)).elim hL hb) hc) (fun b o _ _ hc e n=>u.any e n hc) (fun b o hc e n=>u.free b o e n hc) (fun b o hc e=>u.there b o e hc) u.tups u.frzs u.tbls (fun m' hm=>by
  obtain ⟨o',es',ep',ho',r'⟩:=hm
  rw [ho] at ho';cases ho'
  exact ⟨_,es',ep',hL,r'⟩) hok hg
theorem Inv.turned {t':Nat} (I:Inv X pins σ H s) (k:∀ b o,b ≠ it->s.heap.get? b = some o->h'.get? b = some o) (hn:H it = none) (hL:it ≠ X.env.locals)
 (h1:it ∈ X.ex\/X.s₀.heap.objs.size<=it) (h2:∀ x c,X.env.cells.lookup x = some c->c ≠ it) (h3:∀ p ∈ X.pn ++ pins,p.1 ≠ it):Inv X pins σ H { s with heap:=h',toks:=t' }:=by
 have nit:∀ b u,H b = some u->b ≠ it:=fun b u e z=>by rw [z,hn] at e;cases e
 refine I.step (g':=s.gens) (d':=s.drawn) (ch:=[it]) (fun b hb=>?_) (fun b o _ _ hc e _=>k b o (fun z=>hc (by simp [z])) e) (fun b o _ _ hc e _=>⟨o.slots,k b o (fun z=>hc (by simp [z])) e⟩) (fun _ _ _ _ n=>n)
  (fun b o hc e=>⟨o,k b o (fun z=>hc (by simp [z])) e⟩) (fun _ _ e=>e) (fun _ _ _ e=>e) (fun b ps e=>⟨#[],by rw [e];simp⟩) (fun m hm=>?_) (fun b u e=>?_) I.bare
 ·have e:b = it:=by simpa using hb
  subst e
  exact ⟨h1,hL,h2,h3⟩
 ·obtain ⟨o,es,ep,ho,r⟩:=hm
  exact ⟨o,es,ep,k _ o (Ne.symm hL) ho,r⟩
 ·refine (I.hok b u e).stay (fun c v hc q=>k c v ?_ q) (fun _ q=>q) fun _ _ q=>q
  rcases hc with z | z
  ·rw [z];exact nit b u e
  ·exact nit c _ z
theorem Inv.tok (I:Inv X pins σ H s) (t:Nat):Inv X pins σ H { s with toks:=t }:=I.un (h':=s.heap) (t':=t) Un.refl I.hok
theorem Inv.kept {t':Nat} (I:Inv X pins σ H s) (k:∀ b u,s.heap.get? b = some u->h'.get? b = some u):Inv X pins σ H { s with heap:=h',toks:=t' }:=I.un (Un.kept k) (I.hok.kept k)
theorem Inv.laid {a:Addr} {t':Nat} (I:Inv X pins σ H s) (k:∀ b u,s.heap.get? b = some u->h'.get? b = some u) (hp:s.heap.objs.size<=a) (new:ObjOk X.prog X.w (upd H a o) h' a o) :
  Inv X pins σ (upd H a o) { s with heap:=h',toks:=t' }:=I.un (Un.laid k hp (I.hok.fresh hp)) (I.hok.laid k hp new)
theorem Inv.write {x e:Addr} {t':Nat} (I:Inv X pins σ H s) (mu:Mut (H x)) (he:e = x\/H e = some (.own x)) (k:∀ b u,b ≠ e->s.heap.get? b = some u->h'.get? b = some u) (heo:∃ u,h'.get? e = some u)
 (new:ObjOk X.prog X.w (upd H x o) h' x o):Inv X pins σ (upd H x o) { s with heap:=h',toks:=t' }:=I.un (Un.write mu he k heo) (I.hok.write mu he k heo new)
theorem Inv.pins_of {pins':List (Addr × Obj)} (I:Inv X pins σ H s) (h:∀ p ∈ pins',s.heap.get? p.1 = some p.2/\H p.1 = none/\p.1 ≠ X.env.locals/\p.1 ∉ X.fs/\∀ v,p.2.data ≠ .cell v):Inv X pins' σ H s:=
 ⟨I.ok,I.os,I.bare,I.base,I.loc,I.cell,I.free,I.freeC,fun p hp=>(mem_append.mp hp).elim (fun z=>I.pin p (mem_append_left _ z)) (h p),I.hok,I.len⟩
theorem zhM (hN:N.Nodup) (a:N[i]? = some x) (b:N[j]? = some x):i = j:=by
 obtain ⟨h1,e1⟩:=List.getElem?_eq_some_iff.mp a
 obtain ⟨h2,e2⟩:=List.getElem?_eq_some_iff.mp b
 exact (List.getElem_inj hN).mp (e1.trans e2.symm)
theorem zkf {Q:Unit->Shared->Prop} (I:Inv X pins σ H s) (hN:X.N.Nodup) (hi:X.N[i]? = some x) (hx:Loc X.env.scope x) (r:RelV v u)
 (h:∀ s',Inv X pins (σ.set i (some v)) H s'->(∃ a,Heap.SameBut a s.heap s'.heap/\(a = X.env.locals\/X.env.cells.lookup x = some a))->Q () s') (hf:X.fn x = true\/X.env.scope.names.lookup x = some .local:=by first | exact .inl rfl | exact .inr rfl | assumption):wpAny M A (storeName X.env x u) Q E s:=by
 obtain ⟨m,hn,hl⟩:=id I.loc
 have hcls:(X.env.scope.kind == .class || (X.env.scope.kind == .module && X.env.locals != X.env.globals)) = false:=by rw [I.ok.kind];rfl
 have hiσ:i < σ.length:=by rw [I.len];exact (List.getElem?_eq_some_iff.mp hi).1
 have cne:=I.cne
 have tracked:∀ {a:Addr} {h':Heap},(∃ o,s.heap.get? a = some o/\H a = none)->Heap.SameBut a s.heap h'->HOk X.prog X.w H h':=fun {a h'} ha hs b ob e=>by
  obtain ⟨_,_,hfree⟩:=ha
  refine (I.hok b ob e).stay (fun c w' hc q=>(hs.2 c ?_).trans q) (fun _ q=>q) fun _ _ q=>q
  rintro rfl
  rcases hc with rfl | hc
  ·rw [hfree] at e;cases e
  ·rw [hfree] at hc;cases hc
 rcases hx with hk | hk
 ·refine wpAny_storeName_local hk hn (fun h' hn' hs=>?_) hcls
  obtain ⟨oL,_,_,hoL,_⟩:=id hn
  refine h _ ⟨I.ok,I.os,I.bare,⟨fun b o e n hb hx=>?_,fun b o e n hb hx=>?_,I.base.free,fun b o e hx=>?_,I.base.tups,I.base.frzs,I.base.tbls⟩,⟨_,hn',fun j y v' e1 e2 e3=>?_⟩,fun y c e=>?_,I.free,I.freeC,fun p hp=>?_,tracked ⟨oL,hoL,I.free⟩ hs,by simpa using I.len⟩ ⟨_,hs,.inl rfl⟩
  ·exact (hs.2 b (Qk (Q5 (Qe e) I.ok.above))).trans (I.base.keep b o e n hb hx)
  ·obtain ⟨sl,e1⟩:=I.base.slot b o e n hb hx
   exact ⟨sl,(hs.2 b (Qk (Q5 (Qe e) I.ok.above))).trans e1⟩
  ·obtain ⟨o',e1⟩:=I.base.there b o e hx
   exact ⟨o',(hs.2 b (Qk (Q5 (Qe e) I.ok.above))).trans e1⟩
  ·by_cases hj:j = i
   ·subst hj
    rw [hi] at e1;cases e1
    rw [List.getElem?_set_self hiσ] at e2
    cases e2
    exact ⟨u,r,.inl ⟨hk,by simp⟩⟩
   ·rw [List.getElem?_set_ne (Ne.symm hj)] at e2
    obtain ⟨u',r',q⟩:=hl j y v' e1 e2 e3
    refine ⟨u',r',?_⟩
    rcases q with ⟨k,e⟩ | ⟨k,c,e,z⟩
    ·refine .inl ⟨k,?_⟩
     have:y ≠ x:=fun e=>hj (zhM hN e1 (e ▸ hi))
     simp [this,e]
    ·exact .inr ⟨k,c,e,z.sameBut hs (cne y c e)⟩
  ·obtain ⟨w',z⟩:=I.cell y c e
   exact ⟨w',z.sameBut hs (cne y c e)⟩
  ·obtain ⟨e,n,ne,nf,d⟩:=I.pin p hp
   exact ⟨(hs.2 p.1 ne).trans e,n,ne,nf,d⟩
 ·have hfn:X.fn x = true:=by
   rcases hf with z | z
   ·exact z
   ·rw [z] at hk;cases hk
  obtain ⟨c,hc⟩:=I.ok.has x (.inl hk)
  obtain ⟨w',z⟩:=I.cell x c hc
  refine wpAny_storeName_cell I.ok.kind hk hc z (fun h' hc' hs=>?_)
  obtain ⟨oc,hoc,hocd⟩:=id z
  refine h { s with heap:=h' } ⟨I.ok,I.os,I.bare,⟨fun b o e n hb hx=>?_,fun b o e n hb hx=>?_,I.base.free,fun b o e hx=>?_,I.base.tups,I.base.frzs,I.base.tbls⟩,⟨m,hn.sameBut hs (Ne.symm (cne x c hc)),fun j y v' e1 e2 e3=>?_⟩,fun y c' e=>?_,I.free,I.freeC,fun p hp=>?_,tracked ⟨oc,hoc,I.freeC x c hc⟩ hs,by simpa using I.len⟩ ⟨c,hs,.inr hc⟩
  ·exact (hs.2 b (Qk (Q5 (Qe e) (I.ok.cab x c hfn hc)))).trans (I.base.keep b o e n hb hx)
  ·obtain ⟨sl,e1⟩:=I.base.slot b o e n hb hx
   exact ⟨sl,(hs.2 b (Qk (Q5 (Qe e) (I.ok.cab x c hfn hc)))).trans e1⟩
  ·obtain ⟨o',e1⟩:=I.base.there b o e hx
   exact ⟨o',(hs.2 b (Qk (Q5 (Qe e) (I.ok.cab x c hfn hc)))).trans e1⟩
  ·by_cases hj:j = i
   ·subst hj
    rw [hi] at e1;cases e1
    rw [List.getElem?_set_self hiσ] at e2
    cases e2
    exact ⟨u,r,.inr ⟨.inl hk,c,hc,hc'⟩⟩
   ·rw [List.getElem?_set_ne (Ne.symm hj)] at e2
    obtain ⟨u',r',q⟩:=hl j y v' e1 e2 e3
    refine ⟨u',r',?_⟩
    rcases q with q | ⟨k,c',e,z'⟩
    ·exact .inl q
    ·refine .inr ⟨k,c',e,z'.sameBut hs ?_⟩
     rintro rfl
     exact hj (zhM hN e1 (I.ok.inj _ _ _ e hc ▸ hi))
  ·by_cases hcc:c' = c
   ·subst hcc;exact ⟨_,hc'⟩
   ·obtain ⟨w2,z2⟩:=I.cell y c' e
    exact ⟨w2,z2.sameBut hs hcc⟩
  ·obtain ⟨e,n,ne,nf,d⟩:=I.pin p hp
   refine ⟨(hs.2 p.1 ?_).trans e,n,ne,nf,d⟩
   intro q
   rw [q,hoc] at e
   have q':oc = p.2:=Qd e
   exact d w' (by rw [← q'];exact hocd)
theorem zhq {Q:Unit->Shared->Prop} (I:Inv X pins σ H s) (hN:X.N.Nodup) (hi:X.N[i]? = some x) (hx:Loc X.env.scope x) (r:RelV v u)
 (h:∀ s',Inv X pins (σ.set i (some v)) H s'->Q () s') (hf:X.fn x = true\/X.env.scope.names.lookup x = some .local:=by first | exact .inl rfl | exact .inr rfl | assumption):wpAny M A (storeName X.env x u) Q E s:=
 zkf I hN hi hx r (fun s' I' _=>h s' I') hf
theorem Inv.call' (I:Inv X pins σ H s) (ho:s'.os = s.os) (u:Un (frs X.stack) ch H H' s.heap s'.heap) (hok:HOk X.prog X.w H' s'.heap) (hg:AllBare s'.gens)
 (hch:∀ b ∈ ch,(b ∈ X.ex\/X.s₀.heap.objs.size<=b)/\b ≠ X.env.locals/\(∀ x c,X.env.cells.lookup x = some c->c ≠ b)/\∀ p ∈ X.pn ++ pins,p.1 ≠ b):Inv X pins σ H' s':=by
 obtain ⟨h',g',d',t',o'⟩:=s'
 have e:o' = s.os:=ho
 subst e
 exact I.call (g':=g') (t':=t') (d':=d') u hok hg hch
end
noncomputable abbrev XK:=Value->Option Addr->Hp->Prop
noncomputable abbrev St:=List (Option V)
noncomputable abbrev VK:=V->Hp->Prop
noncomputable abbrev TE:=St->Hp->VK->Prop
noncomputable abbrev TT:=St->Hp->(Bool->Hp->Prop)->Prop
noncomputable abbrev TA:=St->Hp->(List V->Hp->Prop)->Prop
structure Ends where
 nx:St->Hp->Prop
 rt:VK
 bk:St->Hp->Prop:=fun _ _=>False
 ct:St->Hp->Prop:=fun _ _=>False
noncomputable abbrev TS:=Ends->St->Hp->Prop
def EP (X:Cx) (pins:List (Addr × Obj)) (σ:St) (Q:VK) (u:Value) (s':Shared):Prop:=∃ v H',Inv X pins σ H' s'/\RelV v u/\Q v H'
def TP (X:Cx) (pins:List (Addr × Obj)) (σ:St) (Q:Bool->Hp->Prop) (b:Bool) (s':Shared):Prop:=∃ H',Inv X pins σ H' s'/\Q b H'
def AP (X:Cx) (pins:List (Addr × Obj)) (σ:St) (Q:List V->Hp->Prop) (us:List Value) (s':Shared):Prop:=∃ vs H',Inv X pins σ H' s'/\Vals vs us/\Q vs H'
def SP (X:Cx) (pins:List (Addr × Obj)) (D:Ends) (f:Flow) (s':Shared):Prop:=
 match f with
 | .next=>∃ σ' H',Inv X pins σ' H' s'/\D.nx σ' H'
 | .brk=>∃ σ' H',Inv X pins σ' H' s'/\D.bk σ' H'
 | .cont=>∃ σ' H',Inv X pins σ' H' s'/\D.ct σ' H'
 | .ret u=>∃ v σ' H',Inv X pins σ' H' s'/\RelV v u/\D.rt v H'
def PE (X:Cx) (e:Expr) (t:TE):Prop:=
 ∀ (pins:List (Addr × Obj)) (s:Shared) (σ:St) (H:Hp) (Q:VK),Inv X pins σ H s->t σ H Q->wpAny (model X.prog X.w) X.A (eval e X.env) (EP X pins σ Q) X.xe s
def PT (X:Cx) (e:Expr) (t:TT):Prop:=
 ∀ (pins:List (Addr × Obj)) (s:Shared) (σ:St) (H:Hp) (Q:Bool->Hp->Prop),Inv X pins σ H s->t σ H Q->wpAny (model X.prog X.w) X.A (isTrue e X.env (eval e X.env)) (TP X pins σ Q) X.xe s
def PW (X:Cx) (e:Expr) (t:TT):Prop:=
 ∀ (whole:Sem Value) (pins:List (Addr × Obj)) (s:Shared) (σ:St) (H:Hp) (Q:Bool->Hp->Prop),Inv X pins σ H s->t σ H Q->wpAny (model X.prog X.w) X.A (isTrue e X.env whole) (TP X pins σ Q) X.xe s
variable {e:Expr}
theorem PW.pt {t:TT} (h:PW X e t):PT X e t:=h _
def PA (X:Cx) (es:List Expr) (t:TA):Prop:=
 ∀ (pos:Pos) (pins:List (Addr × Obj)) (s:Shared) (σ:St) (H:Hp) (Q:List V->Hp->Prop),Inv X pins σ H s->t σ H Q->wpAny (model X.prog X.w) X.A (spliced (backTo pos (starEach es X.env))) (AP X pins σ Q) X.xe s
def PS (X:Cx) (st:Stmt) (t:TS):Prop:=
 ∀ (pins:List (Addr × Obj)) (s:Shared) (σ:St) (H:Hp) (D:Ends),Inv X pins σ H s->t D σ H->wpAny (model X.prog X.w) X.A (exec st X.env) (SP X pins D) X.xe s
def PSs (X:Cx) (st:List Stmt) (t:TS):Prop:=
 ∀ (pins:List (Addr × Obj)) (s:Shared) (σ:St) (H:Hp) (D:Ends),Inv X pins σ H s->t D σ H->wpAny (model X.prog X.w) X.A (execs st X.env) (SP X pins D) X.xe s
theorem thn {α:Type} {t:Sem α} {Q Q':α->Shared->Prop} (h:wpAny M A t Q E s) (hQ:∀ a s,Q a s->Q' a s):wpAny M A t Q' E s:=Qg h hQ fun _ _ x=>x
variable {op:CmpOp} {pos:Pos} {σ:St} {t ta tb:TE} {R:V->V->Hp->Prop} {Q:Value->Shared->Prop}
section
theorem bin {a b:Expr} (ha:PE X a ta) (hb:PE X b tb) (I:Inv X pins σ H s) (h:ta σ H fun x H1=>tb σ H1 fun y H2=>R x y H2)
 {α:Type} {Q:α->Shared->Prop} {f:Value->Value->Sem α}
 (hf:∀ v u s2 x y H2,Inv X pins σ H2 s2->RelV x v->RelV y u->R x y H2->wpAny (model X.prog X.w) X.A (f v u) Q X.xe s2) :
  wpAny (model X.prog X.w) X.A (eval a X.env) (fun v s₁=>wpAny (model X.prog X.w) X.A (eval b X.env) (fun u s₂=>wpAny (model X.prog X.w) X.A (f v u) Q X.xe s₂) X.xe s₁) X.xe s:=by
 refine thn (ha pins s σ H _ I h) fun v s1 ⟨x,H1,I1,r1,q1⟩=>?_
 refine thn (hb pins s1 σ H1 _ I1 q1) fun u s2 ⟨y,H2,I2,r2,q2⟩=>?_
 exact hf v u s2 x y H2 I2 r1 r2 q2
noncomputable def zjB (i:Nat):TE:=fun σ H Q=>∃ v,σ[i]? = some (some v)/\Q v H
noncomputable def tC (v:V):TE:=fun _ H Q=>Q v H
theorem zhH (hN:X.N[i]? = some x) (hv:Vis X.env.scope x) (hd:(x == ("__debug__":Str)) = false:=by decide) (hcd:(x == ("__classdict__":Str)) = false:=by decide):PE X (.Name x pos) (zjB i):=by
 intro pins s σ H Q I h
 obtain ⟨v,e,h⟩:=h
 obtain ⟨m,hn,hl⟩:=I.loc
 obtain ⟨u,r,l⟩:=hl i x v hN e hv
 have fin:EP X pins σ Q u s:=⟨v,H,I,r,h⟩
 rcases l with ⟨hk,hm⟩ | ⟨hk,c,hc,hcell⟩
 ·exact wpAny_Name (wpAny_loadName_local I.ok.kind hk hn hm fin) hd
 ·rcases hk with hk | hk
  ·exact wpAny_Name (wpAny_loadName_cell I.ok.kind hk hc hcell fin) hd
  ·exact wpAny_Name (wpAny_loadName_free I.ok.kind hk hc hcell fin hcd) hd
theorem zks {i j pos}:PE X (.Constant (.int i) j pos) (tC (.int i)):=fun _ _ _ H _ I h=>wpAny_Constant_int ⟨.int i,H,I.tok _,⟨_,rfl⟩,h⟩
theorem zqD {b j pos}:PE X (.Constant (.bool b) j pos) (tC (.bl b)):=fun _ _ _ H _ I h=>Constant_bool ⟨.bl b,H,I,rfl,h⟩
theorem zoP {j pos}:PE X (.Constant .none j pos) (tC .non):=fun _ _ _ H _ I h=>Constant_none ⟨.non,H,I,rfl,h⟩
theorem zoL {x j pos}:PE X (.Constant (.str x) j pos) (tC (.str x)):=fun _ _ _ H _ I h=>Calls.Constant_str ⟨.str x,H,I.tok _,⟨_,rfl⟩,h⟩
def Gl (X:Cx) (x:Str):Prop:=X.env.kindOf x = some .globalImplicit
theorem zgj (I:Inv X pins σ H s) (hg:Gl X x) (hm:X.mg x = some u) (h:Q u s)
 (hd:(x == ("__debug__":Str)) = false:=by decide):wpAny (model X.prog X.w) X.A (eval (.Name x pos) X.env) Q E s:=
 Calls.Name_function_global I.ok.kind hg (Calls.loadGlobal_global (by rw [I.ok.glob];exact I.mod.glob.keeps I.bk) hm h) hd
theorem zeq (I:Inv X pins σ H s) (hg:Gl X x) (hm:X.mg x = none) (hv:bootBuiltins x = some u) (h:Q u s)
 (hn:x ≠ "__name__":=by decide) (hd:(x == ("__debug__":Str)) = false:=by decide):wpAny (model X.prog X.w) X.A (eval (.Name x pos) X.env) Q E s:=by
 obtain ⟨mb,h1,h2⟩:=I.mod.blt
 exact Calls.Name_function_global I.ok.kind hg (Calls.loadGlobal_builtin (by rw [I.ok.glob];exact I.mod.glob.keeps I.bk) hm (by rw [I.ok.blt];exact h1.keeps I.bk) ((h2 x hn).trans hv) h) hd
theorem zm5 (hg:Gl X x) (hm:X.mg x = some u) (r:RelV v u) (hd:(x == ("__debug__":Str)) = false:=by decide):PE X (.Name x pos) (tC v):=
 fun _ _ _ H _ I h=>zgj I hg hm ⟨v,H,I,r,h⟩ hd
theorem zm9 (hg:Gl X x) (hm:X.mg x = none) (hv:bootBuiltins x = some u) (r:RelV v u) (hn:x ≠ "__name__":=by decide) (hd:(x == ("__debug__":Str)) = false:=by decide):PE X (.Name x pos) (tC v):=
 fun _ _ _ H _ I h=>zeq I hg hm hv ⟨v,H,I,r,h⟩ hn hd
variable {a b:Expr}
def PC (X:Cx) (op:CmpOp) (a b:Expr) (t:TE):Prop:=
 ∀ (pins:List (Addr × Obj)) (s:Shared) (σ:St) (H:Hp) (Q:VK),Inv X pins σ H s->t σ H Q->
  wpAny (model X.prog X.w) X.A (eval a X.env) (fun v s₁=>wpAny (model X.prog X.w) X.A (eval b X.env) (fun u s₂=>wpAny (model X.prog X.w) X.A (compareOp op v u) (EP X pins σ Q) X.xe s₂) X.xe s₁) X.xe s
theorem zlJ (b:Expr) (h:op ≠ .In) (h2:op ≠ .NotIn):behindInMarks op b = false:=by
 have e1:(op == CmpOp.In) = false:=by cases op <;> first | rfl | exact absurd rfl h
 have e2:(op == CmpOp.NotIn) = false:=by cases op <;> first | rfl | exact absurd rfl h2
 cases b <;> simp [behindInMarks,e1,e2]
noncomputable def tB (t:TE):TT:=fun σ H Q=>t σ H fun x H1=>∃ c,x = .bl c/\Q c H1
theorem zr6 (h:PC X op a b t) (h1:behindInMarks op b = false:=by first | exact zlJ _ (by decide) (by decide) | rfl):PT X (.Compare a [op] [b] pos) (tB t):=by
 intro pins s σ H Q I hw
 refine wpAny_isTrue_Compare1 (thn (h pins s σ H _ I hw) fun v s1 h1=>thn h1 fun u s2 h2=>thn h2 fun c s3 ⟨x,H1,I1,r1,q1⟩=>?_) h1
 obtain ⟨d,rfl,q⟩:=q1
 cases r1
 exact wpAny_truthy_bool ⟨H1,I1,q⟩
theorem zoB (h:PE X e t) (he:∀ whole,isTrue e X.env whole = (do let v ← whole;standAt e.pos;holding [v] (truthy v)):=by intro _;rfl):PT X e (tB t):=by
 intro pins s σ H Q I hw
 refine isTrue_plain (thn (h pins s σ H _ I hw) fun v s1 ⟨x,H1,I1,r1,q1⟩=>?_) (he _)
 obtain ⟨d,rfl,q⟩:=q1
 cases r1
 exact wpAny_truthy_bool ⟨H1,I1,q⟩
variable {tA tB':TT} {rest:List Expr}
noncomputable def zrm (t u:TT):TT:=fun σ H Q=>t σ H fun c H1=>if c = true then u σ H1 Q else Q false H1
noncomputable def tOr (t u:TT):TT:=fun σ H Q=>t σ H fun c H1=>if c = true then Q true H1 else u σ H1 Q
noncomputable def zrf (t:TT):TT:=fun σ H Q=>t σ H fun c H1=>Q (!c) H1
theorem zmR (ha:PT X a tA):PW X (.BoolOp .And [a] pos) tA:=by
 intro wh pins s σ H Q I h
 refine isTrue_and (thn (ha pins s σ H Q I h) fun c s1 e=>?_)
 cases c with
 | true=>exact isTrue_and_nil e
 | false=>exact e
theorem zoz (ha:PT X a tA):PW X (.BoolOp .Or [a] pos) tA:=by
 intro wh pins s σ H Q I h
 refine isTrue_or (thn (ha pins s σ H Q I h) fun c s1 e=>?_)
 cases c with
 | false=>exact isTrue_or_nil e
 | true=>exact e
theorem zoA (ha:PT X a tA) (hb:PW X (.BoolOp .And (b :: rest) pos) tB'):PW X (.BoolOp .And (a :: b :: rest) pos) (zrm tA tB'):=by
 intro wh pins s σ H Q I h
 refine isTrue_and (thn (ha pins s σ H _ I h) fun c s1 ⟨H1,I1,q1⟩=>?_)
 cases c with
 | true=>exact hb wh pins s1 σ H1 Q I1 q1
 | false=>exact ⟨H1,I1,q1⟩
theorem zqx (ha:PT X a tA) (hb:PW X (.BoolOp .Or (b :: rest) pos) tB'):PW X (.BoolOp .Or (a :: b :: rest) pos) (tOr tA tB'):=by
 intro wh pins s σ H Q I h
 refine isTrue_or (thn (ha pins s σ H _ I h) fun c s1 ⟨H1,I1,q1⟩=>?_)
 cases c with
 | true=>exact ⟨H1,I1,q1⟩
 | false=>exact hb wh pins s1 σ H1 Q I1 q1
theorem zoC (ha:PT X a tA):PT X (.UnaryOp .Not a pos) (zrf tA):=by
 intro pins s σ H Q I h
 exact isTrue_not (ha pins s σ H (fun c H1=>Q (!c) H1) I h)
noncomputable def zqn (ta tb:TE):TE:=fun σ H Q=>ta σ H fun x H1=>∃ c,x = .bl c/\if c = true then tb σ H1 Q else Q (.bl false) H1
noncomputable def zre (ta tb:TE):TE:=fun σ H Q=>ta σ H fun x H1=>∃ c,x = .bl c/\if c = true then Q (.bl true) H1 else tb σ H1 Q
noncomputable def zqh (ta:TE):TE:=fun σ H Q=>ta σ H fun x H1=>∃ c,x = .bl c/\Q (.bl (!c)) H1
theorem zoN {op} (h:PE X a t):PE X (.BoolOp op [a] pos) t:=fun pins s σ H Q I hw=>BoolOp_one (h pins s σ H Q I hw)
theorem zoU (ha:PE X a ta) (hb:PE X (.BoolOp .And (b :: rest) pos) tb):PE X (.BoolOp .And (a :: b :: rest) pos) (zqn ta tb):=by
 intro pins s σ H Q I h
 refine BoolOp_and (thn (ha pins s σ H _ I h) fun v s1 ⟨x,H1,I1,r1,q1⟩=>?_)
 obtain ⟨c,rfl,q1⟩:=q1
 cases r1
 refine wpAny_truthy_bool ?_
 cases c with
 | true=>exact hb pins s1 σ H1 Q I1 q1
 | false=>exact ⟨.bl false,H1,I1,rfl,q1⟩
theorem zqB (ha:PE X a ta) (hb:PE X (.BoolOp .Or (b :: rest) pos) tb):PE X (.BoolOp .Or (a :: b :: rest) pos) (zre ta tb):=by
 intro pins s σ H Q I h
 refine BoolOp_or (thn (ha pins s σ H _ I h) fun v s1 ⟨x,H1,I1,r1,q1⟩=>?_)
 obtain ⟨c,rfl,q1⟩:=q1
 cases r1
 refine wpAny_truthy_bool ?_
 cases c with
 | false=>exact hb pins s1 σ H1 Q I1 q1
 | true=>exact ⟨.bl true,H1,I1,rfl,q1⟩
theorem zoO (ha:PE X a ta):PE X (.UnaryOp .Not a pos) (zqh ta):=by
 intro pins s σ H Q I h
 refine UnaryOp_ (thn (ha pins s σ H _ I h) fun v s1 ⟨x,H1,I1,r1,q1⟩=>?_)
 obtain ⟨c,rfl,q1⟩:=q1
 cases r1
 exact not_of (wpAny_truthy_bool ⟨.bl (!c),H1,I1,rfl,q1⟩)
noncomputable def tIf (t:TT) (ta tb:TE):TE:=fun σ H Q=>t σ H fun c H1=>if c = true then ta σ H1 Q else tb σ H1 Q
theorem zlB {c:Expr} (hc:PT X c tA) (ha:PE X a ta) (hb:PE X b tb):PE X (.IfExp c a b pos) (tIf tA ta tb):=by
 intro pins s σ H Q I h
 refine wpAny_IfExp (thn (hc pins s σ H _ I h) fun d s1 ⟨H1,I1,q1⟩=>?_)
 cases d with
 | true=>exact ha pins s1 σ H1 Q I1 q1
 | false=>exact hb pins s1 σ H1 Q I1 q1
end
def SqL (K:Frag) (H:Hp) (a:Addr) (xs:List V):Prop:=
 Rd H a (.lst xs) \/
  ∃ (o:Obj) (its:Array Value) (n:Nat),K.lookup a = some o/\o.cls = .type "list"/\o.dict = none/\o.data = .seq its n/\its.size<=sizeLine/\Vals xs its.toList
def SqT (K:Frag) (H:Hp) (a:Addr) (xs:List V):Prop:=
 Rd H a (.tup xs) \/
  ∃ (o:Obj) (its:Array Value) (n:Nat),K.lookup a = some o/\o.cls = .type "tuple"/\o.dict = none/\o.data = .seq its n/\its.size<=sizeLine/\Vals xs its.toList
noncomputable def zrR:Value->Option V
 | .none=>some .non
 | .bool b=>some (.bl b)
 | .int i _=>some (.int i)
 | .str x _=>some (.str x)
 | .bytes b _=>some (.byt b)
 | .float b _=>some (.flt b)
 | .ref a=>some (.ref a)
 | .type n=>some (.ty n)
 | _=>none
theorem RelV.abs {x:V} (r:RelV x u):zrR u = some x:=by
 cases x with
 | non=>cases r;rfl
 | bl _=>cases r;rfl
 | int _=>obtain ⟨t,rfl⟩:=r;rfl
 | str _=>obtain ⟨t,rfl⟩:=r;rfl
 | byt _=>obtain ⟨t,rfl⟩:=r;rfl
 | flt _=>obtain ⟨t,rfl⟩:=r;rfl
 | ref _=>cases r;rfl
 | ty _=>cases r;rfl
variable {y:V}
theorem RelV.inj {x:V} (r:RelV x u) (q:RelV y u):x = y:=Qd (r.abs.symm.trans q.abs)
theorem Vals.inj:∀ {xs ys:List V} {us:List Value},Vals xs us->Vals ys us->xs = ys
 | _,_,_,.nil,.nil=>rfl
 | _,_,_,.cons r t,.cons r' t'=>by rw [r.inj r',Vals.inj t t']
section
variable {a:Addr} {ys:List V}
theorem Inv.list (I:Inv X pins σ H s) (h:SqL X.K H a xs):∃ its:List Value,Vals xs its/\PlainL s.heap a its.toArray/\xs.length<=sizeLine:=by
 rcases h with h | ⟨o,its,n,hk,hc,hd,hs,hz,r⟩
 ·obtain ⟨z,its,n,r,e⟩:=h.ok I.hok
  exact ⟨its,r,⟨_,n,e,rfl,rfl,rfl⟩,z⟩
 ·refine ⟨its.toList,r,⟨o,n,I.kIn a o hk,hc,hd,by simpa using hs⟩,?_⟩
  have e:=r.length
  simp only [Array.length_toList] at e
  omega
theorem Inv.tuple (I:Inv X pins σ H s) (h:SqT X.K H a xs):∃ its:List Value,Vals xs its/\IsTup s.heap a its.toArray/\xs.length<=sizeLine:=by
 rcases h with h | ⟨o,its,n,hk,hc,_,hs,hz,r⟩
 ·obtain ⟨z,its,r,p,_⟩:=h.ok I.hok
  exact ⟨its,r,p,z⟩
 ·refine ⟨its.toList,r,⟨o,I.kIn a o hk,hc,n,by simpa using hs⟩,?_⟩
  have e:=r.length
  simp only [Array.length_toList] at e
  omega
theorem Inv.list_inj (I:Inv X pins σ H s) (h:SqL X.K H a xs) (h':SqL X.K H a ys):xs = ys:=by
 obtain ⟨its,r,⟨o,n,e,_,_,d⟩,_⟩:=I.list h
 obtain ⟨its',r',⟨o',n',e',_,_,d'⟩,_⟩:=I.list h'
 rw [e] at e';cases e'
 rw [d] at d'
 injection d' with d1 _
 have:its = its':=by simpa using congrArg Array.toList d1
 subst this
 exact r.inj r'
theorem Inv.tuple_inj (I:Inv X pins σ H s) (h:SqT X.K H a xs) (h':SqT X.K H a ys):xs = ys:=by
 obtain ⟨its,r,⟨o,e,_,n,d⟩,_⟩:=I.tuple h
 obtain ⟨its',r',⟨o',e',_,n',d'⟩,_⟩:=I.tuple h'
 rw [e] at e';cases e'
 rw [d] at d'
 injection d' with d1 _
 have:its = its':=by simpa using congrArg Array.toList d1
 subst this
 exact r.inj r'
end
noncomputable abbrev Cx.wish (X:Cx) (E:Value->Shared->Prop):Cx:={ X with xe:=E }
noncomputable abbrev Cx.nox (X:Cx):Cx:=X.wish fun _ _=>False
theorem Cx.Ok.wish (ok:X.Ok) (E:Value->Shared->Prop):(X.wish E).Ok:=
 ⟨ok.mod,ok.kind,ok.glob,ok.blt,ok.above,ok.inj,ok.has,ok.cab,ok.hd,ok.frames,ok.stk,ok.exf,ok.bs,ok.bsz,ok.noex,ok.exfs,ok.funs,ok.frf⟩
theorem Cx.Ok.unwish (ok:(X.wish E).Ok):X.Ok:=
 ⟨ok.mod,ok.kind,ok.glob,ok.blt,ok.above,ok.inj,ok.has,ok.cab,ok.hd,ok.frames,ok.stk,ok.exf,ok.bs,ok.bsz,ok.noex,ok.exfs,ok.funs,ok.frf⟩
section
theorem Inv.wish (I:Inv X pins σ H s) (E:Value->Shared->Prop):Inv (X.wish E) pins σ H s:=⟨I.ok.wish E,I.os,I.bare,I.base,I.loc,I.cell,I.free,I.freeC,I.pin,I.hok,I.len⟩
theorem Inv.unwish (I:Inv (X.wish E) pins σ H s):Inv X pins σ H s:=⟨I.ok.unwish,I.os,I.bare,I.base,I.loc,I.cell,I.free,I.freeC,I.pin,I.hok,I.len⟩
theorem SP.unwish {D:Ends} {f:Flow} (h:SP (X.wish E) pins D f s'):SP X pins D f s':=by
 cases f with
 | next=>obtain ⟨σ',H',I,q⟩:=h;exact ⟨σ',H',I.unwish,q⟩
 | brk=>obtain ⟨σ',H',I,q⟩:=h;exact ⟨σ',H',I.unwish,q⟩
 | cont=>obtain ⟨σ',H',I,q⟩:=h;exact ⟨σ',H',I.unwish,q⟩
 | ret u=>obtain ⟨v,σ',H',I,r,q⟩:=h;exact ⟨v,σ',H',I.unwish,r,q⟩
theorem PE.nox (h:PE X.nox e t):PE X e t:=fun pins s σ H Q I hw=>
 Qg (h pins s σ H Q (I.wish _) hw) (fun _ _ ⟨v,H',I',r,q⟩=>⟨v,H',I'.unwish,r,q⟩) fun _ _ z=>False.elim z
theorem PT.nox {t:TT} (h:PT X.nox e t):PT X e t:=fun pins s σ H Q I hw=>
 Qg (h pins s σ H Q (I.wish _) hw) (fun _ _ ⟨H',I',q⟩=>⟨H',I'.unwish,q⟩) fun _ _ z=>False.elim z
theorem PSs.nox {st:List Stmt} {t:TS} (h:PSs X.nox st t):PSs X st t:=fun pins s σ H D I hw=>
 Qg (h pins s σ H D (I.wish _) hw) (fun _ _ q=>q.unwish) fun _ _ z=>False.elim z
end
variable {te:TE} {tc:TT}
section
variable {st:Stmt} {rest:List Stmt} {t u:TS}
noncomputable def zqi:TS:=fun D σ H=>D.nx σ H
noncomputable def zrc (t u:TS):TS:=fun D σ H=>t { D with nx:=u D } σ H
theorem zmX:PSs X [] zqi:=fun _ _ σ H _ I h=>wpAny_execs_nil ⟨σ,H,I,h⟩
theorem zly (h1:PS X st t) (h2:PSs X rest u):PSs X (st :: rest) (zrc t u):=by
 intro pins s σ H D I h
 refine wpAny_execs_cons (thn (h1 pins s σ H { D with nx:=u D } I h) fun f s1 q=>?_)
 cases f with
 | next=>
  obtain ⟨σ',H',I',q⟩:=q
  exact h2 pins s1 σ' H' D I' q
 | ret v=>exact q
 | brk=>exact q
 | cont=>exact q
theorem ziX (h1:PS X st t):PSs X [st] t:=by
 intro pins s σ H D I h
 refine wpAny_execs_cons (thn (h1 pins s σ H D I h) fun f s1 q=>?_)
 cases f with
 | next=>exact wpAny_execs_nil q
 | ret v=>exact q
 | brk=>exact q
 | cont=>exact q
theorem Inv.quiet (I:Inv X pins σ H s):interactive X.env = false:=by simp [interactive,I.ok.kind]
noncomputable def zqk (te:TE):TS:=fun D σ H=>te σ H fun _ H1=>D.nx σ H1
theorem zmY (he:PE X e te) (hs:swapsWith e none pos.line X.env = pure false:=by rfl):PS X (.Expr e pos) (zqk te):=by
 intro pins s σ H D I h
 exact wpAny_Expr_any (thn (he pins s σ H _ I h) fun v s1 ⟨x,H1,I1,r1,q1⟩=>⟨σ,H1,I1,q1⟩) I.quiet hs
noncomputable def zrd (te:TE):TS:=fun D σ H=>te σ H D.rt
theorem zoF (he:PE X e te):PS X (.Return (some e) pos) (zrd te):=by
 intro pins s σ H D I h
 exact wpAny_Return_some (thn (he pins s σ H _ I h) fun v s1 ⟨x,H1,I1,r1,q1⟩=>⟨x,σ,H1,I1,r1,q1⟩)
noncomputable def zri (c:TT) (t u:TS):TS:=fun D σ H=>c σ H fun b H1=>if b = true then t D σ H1 else u D σ H1
theorem zqy {c:Expr} {a b:List Stmt} (hc:PT X c tc) (ha:PSs X a t) (hb:PSs X b u):PS X (.If c a b pos) (zri tc t u):=by
 intro pins s σ H D I h
 refine wpAny_If (thn (hc pins s σ H _ I h) fun d s1 ⟨H1,I1,q1⟩=>?_)
 cases d with
 | true=>exact ha pins s1 σ H1 D I1 q1
 | false=>exact hb pins s1 σ H1 D I1 q1
end
noncomputable abbrev TG:=V->St->Hp->(St->Hp->Prop)->Prop
noncomputable abbrev TGs:=List V->St->Hp->(St->Hp->Prop)->Prop
def PG (X:Cx) (target:Expr) (t:TG):Prop:=
 ∀ (pins:List (Addr × Obj)) (s:Shared) (σ:St) (H:Hp) (v:V) (u:Value) (Q:St->Hp->Prop),Inv X pins σ H s->RelV v u->t v σ H Q->
  wpAny (model X.prog X.w) X.A (assign target X.env u) (fun _ s'=>∃ σ' H',Inv X pins σ' H' s'/\Q σ' H') X.xe s
def PGs (X:Cx) (ts:List Expr) (t:TGs):Prop:=
 ∀ (pins:List (Addr × Obj)) (s:Shared) (σ:St) (H:Hp) (vs:List V) (us:List Value) (Q:St->Hp->Prop),Inv X pins σ H s->Vals vs us->t vs σ H Q->
  wpAny (model X.prog X.w) X.A (assignInOrder ((assignEach ts X.env).map (·.2)) us) (fun _ s'=>∃ σ' H',Inv X pins σ' H' s'/\Q σ' H') X.xe s
noncomputable abbrev zgx:=V->V->V->Hp->(Hp->Prop)->Prop
def zd9 (X:Cx) (t:zgx):Prop:=
 ∀ (pins:List (Addr × Obj)) (s:Shared) (σ:St) (H:Hp) (o i v:V) (ov iv u:Value) (Q:Hp->Prop),Inv X pins σ H s->RelV o ov->RelV i iv->RelV v u->t o i v H Q->
  wpAny (model X.prog X.w) X.A (setItem ov iv u) (fun _ s'=>∃ H',Inv X pins σ H' s'/\Q H') X.xe s
noncomputable abbrev TIp:=V->V->Hp->VK->Prop
def PIp (X:Cx) (op:Operator) (t:TIp):Prop:=
 ∀ (pins:List (Addr × Obj)) (s:Shared) (σ:St) (H:Hp) (x y:V) (v u:Value) (Q:VK),Inv X pins σ H s->RelV x v->RelV y u->t x y H Q->
  wpAny (model X.prog X.w) X.A (inplaceOp op v u) (EP X pins σ Q) X.xe s
variable {tg:Expr} {es:List Expr} {pos' tpos:Pos} {ti to:TE} {g:TG}
section
noncomputable def zha (i:Nat):TG:=fun v σ H Q=>Q (σ.set i (some v)) H
theorem yt (hN:X.N.Nodup) (hi:X.N[i]? = some x) (hx:Loc X.env.scope x) (hf:X.fn x = true\/X.env.scope.names.lookup x = some .local:=by first | exact .inl rfl | exact .inr rfl | assumption):PG X (.Name x pos) (zha i):=by
 intro pins s σ H v u Q I r h
 exact wpAny_assign_Name (zhq I hN hi hx r (fun s' I'=>⟨_,H,I',h⟩) hf)
noncomputable def zrK:TGs:=fun vs σ H Q=>vs = []/\Q σ H
noncomputable def zjV (t:TG) (u:TGs):TGs:=fun vs σ H Q=>∃ v r,vs = v :: r/\t v σ H fun σ' H'=>u r σ' H' Q
theorem zm3:PGs X [] zrK:=by
 intro pins s σ H vs us Q I r h
 obtain ⟨e,h⟩:=h
 subst e
 cases r
 exact assignInOrder_nil ⟨σ,H,I,h⟩
theorem yJ {t:TG} {u:TGs} (h1:PG X e t) (h2:PGs X es u)
 (hs:(assignEach (e :: es) X.env).map (·.2) = assign e X.env :: (assignEach es X.env).map (·.2):=by rfl):PGs X (e :: es) (zjV t u):=by
 intro pins s σ H vs us Q I r h
 obtain ⟨v,vr,e1,h⟩:=h
 subst e1
 cases r with
 | cons r rr=>
  rw [hs]
  refine assignInOrder_cons (thn (h1 pins s σ H _ _ _ I r h) fun _ s1 ⟨σ1,H1,I1,q1⟩=>?_)
  exact h2 pins s1 σ1 H1 _ _ Q I1 rr q1
noncomputable def zl8 (K:Frag) (n:Nat) (t:TGs):TG:=fun v σ H Q=>∃ a xs,v = .ref a/\SqT K H a xs/\xs.length = n/\t xs σ H Q
theorem zfA {k:Nat} {t:TGs} (hc:X.calm = true) (h:PGs X es t)
 (hn:(assignEach es X.env).length = n:=by rfl) (hst:(assignEach es X.env).findIdx? (·.1) = none:=by rfl):PG X (.Tuple es k pos) (zl8 X.K n t):=by
 intro pins s σ H v u Q I r hw
 obtain ⟨a,xs,e1,hq,hl,hw⟩:=hw
 subst e1
 cases r
 obtain ⟨its,rv,ht,hz⟩:=I.tuple hq
 refine assign_Tuple_tuple (I.ok.hd hc) ht (by simp [hn,← hl,rv.length]) hst fun h' hx=>?_
 have I1:Inv X pins σ H { s with heap:=h' }:=I.kept (t':=s.toks) fun b o e=>hx b o (Qk (Qe e)) e
 exact h pins _ σ H xs _ Q I1 (by simpa using rv) hw
noncomputable def zrJ (to ti:TE) (t:zgx):TG:=fun v σ H Q=>to σ H fun o H1=>ti σ H1 fun i H2=>t o i v H2 fun H3=>Q σ H3
theorem zoJ {o i:Expr} {t:zgx} (ho:PE X o to) (hi:PE X i ti) (hs:zd9 X t)
 (ha:∀ v,assign (.Subscript o i pos) X.env v = (do
 let ov ← holding [v] (eval o X.env)
 let iv ← holding [v,ov] (eval i X.env)
 standAt pos
 holding [v,ov,iv] (setItem ov iv v)
 release [v,ov,iv] []):=by intro _;rfl):PG X (.Subscript o i pos) (zrJ to ti t):=by
 intro pins s σ H v u Q I r h
 rw [ha]
 refine Q1 (wpAny_holding (thn (ho pins s σ H _ I h) fun ov s1 ⟨x,H1,I1,r1,q1⟩=>?_))
 refine Q1 (wpAny_holding (thn (hi pins s1 σ H1 _ I1 q1) fun iv s2 ⟨y,H2,I2,r2,q2⟩=>?_))
 refine Q1 (wpAny_standAt (Q1 (wpAny_holding (thn (hs pins s2 σ H2 x y v ov iv u _ I2 r1 r2 r q2) fun _ s3 ⟨H3,I3,q3⟩=>?_))))
 exact wpAny_release ⟨σ,H3,I3,q3⟩
noncomputable def zol (te:TE) (g:TG):TS:=fun D σ H=>te σ H fun x H1=>g x σ H1 D.nx
theorem zoH (he:PE X e te) (hg:PG X tg g) (hs:swapsWithSole [tg] e pos.line X.env = pure false:=by rfl) (hw:swappedStores [tg] e X.env = pure none:=by rfl)
 (h1:(assignEach [tg] X.env).map (·.2) = [assign tg X.env]:=by rfl):PS X (.Assign [tg] e pos) (zol te g):=by
 intro pins s σ H D I h
 refine wpAny_Assign_stores (thn (he pins s σ H _ I h) fun v s1 ⟨x,H1,I1,r1,q1⟩=>?_) hs hw
 rw [h1]
 exact thn (hg pins s1 σ H1 x v _ I1 r1 q1) fun _ s2 q=>q
theorem zoE (hN:X.N.Nodup) (hi:X.N[i]? = some x) (hx:Loc X.env.scope x) (he:PE X e te) (hs:swapsWith e (some (.Name x pos')) pos.line X.env = pure false:=by rfl) (hf:X.fn x = true\/X.env.scope.names.lookup x = some .local:=by first | exact .inl rfl | exact .inr rfl | assumption) :
  PS X (.Assign [.Name x pos'] e pos) (zol te (zha i)):=by
 intro pins s σ H D I h
 refine wpAny_Assign_Name (thn (he pins s σ H _ I h) fun v s1 ⟨y,H1,I1,r1,q1⟩=>?_) hs
 exact zhq I1 hN hi hx r1 (fun s2 I2=>⟨_,H1,I2,q1⟩) hf
noncomputable def zqm (to ti te:TE) (tget:V->V->Hp->VK->Prop) (tip:TIp) (tset:zgx):TS:=fun D σ H=>to σ H fun o H1=>ti σ H1 fun i H2=>tget o i H2 fun x H3=>te σ H3 fun y H4=>tip x y H4 fun z H5=>tset o i z H5 fun H6=>D.nx σ H6
def zix (X:Cx) (t:V->V->Hp->VK->Prop):Prop:=
 ∀ (pins:List (Addr × Obj)) (s:Shared) (σ:St) (H:Hp) (o i:V) (ov iv:Value) (Q:VK),Inv X pins σ H s->RelV o ov->RelV i iv->t o i H Q->
  wpAny (model X.prog X.w) X.A (getItem ov iv) (EP X pins σ Q) X.xe s
theorem zmZ {o i:Expr} {tget:V->V->Hp->VK->Prop} {tip:TIp} {tset:zgx} {op:Operator} (ho:PE X o to) (hi:PE X i ti) (hg:zix X tget) (he:PE X e te) (hp:PIp X op tip) (hs:zd9 X tset)
 (ha:∀ ov iv new,augStore i ov iv new = (do holding [new,ov,iv] (setItem ov iv new);release [new,ov,iv] [];pure .next):=by intros;rfl):PS X (.AugAssign (.Subscript o i tpos) op e pos) (zqm to ti te tget tip tset):=by
 intro pins s σ H D I h
 refine wpAny_AugAssign_SubscriptAny (thn (ho pins s σ H _ I h) fun ov s1 ⟨x1,H1,I1,r1,q1⟩=>?_) ha
 refine thn (hi pins s1 σ H1 _ I1 q1) fun iv s2 ⟨x2,H2,I2,r2,q2⟩=>?_
 refine thn (hg pins s2 σ H2 x1 x2 ov iv _ I2 r1 r2 q2) fun old s3 ⟨x3,H3,I3,r3,q3⟩=>?_
 refine thn (he pins s3 σ H3 _ I3 q3) fun v s4 ⟨x4,H4,I4,r4,q4⟩=>?_
 refine thn (hp pins s4 σ H4 x3 x4 old v _ I4 r3 r4 q4) fun new s5 ⟨x5,H5,I5,r5,q5⟩=>?_
 exact thn (hs pins s5 σ H5 x1 x2 x5 ov iv new _ I5 r1 r2 r5 q5) fun _ s6 ⟨H6,I6,q6⟩=>⟨σ,H6,I6,q6⟩
noncomputable def ipI (f:Int->Int->Int):TIp:=fun x y H Q=>∃ i j,x = .int i/\y = .int j/\Q (.int (f i j)) H
theorem zpq:PIp X .Add (ipI fun i j=>i + j):=by
 intro pins s σ H x y v u Q I r1 r2 h
 obtain ⟨i,j,e1,e2,q⟩:=h
 subst e1;subst e2
 obtain ⟨t,rfl⟩:=r1
 obtain ⟨t',rfl⟩:=r2
 exact iadd_int ⟨.int _,H,I.tok _,⟨_,rfl⟩,q⟩
end
variable {body:List Stmt}
section
noncomputable def zoi (c:TT) (tb:TS):TS:=fun D σ H=>∃ W:Nat->St->Hp->Prop,(∃ m,W m σ H)/\∀ m σ H,W m σ H->
 c σ H fun b H1=>if b = true then ∃ N:St->Hp->Prop,(∀ σ' H',N σ' H'->∃ m',m' < m/\W m' σ' H')/\tb { D with nx:=N,ct:=N,bk:=D.nx } σ H1 else D.nx σ H1
theorem zlz {c:Expr} {tb:TS} (hp:PassesOwn (model X.prog X.w) X.A X.env X.xe) (hc:PT X c tc) (hb:PSs X body tb):PS X (.While c body [] pos) (zoi tc tb):=by
 intro pins s σ H D I h
 obtain ⟨W,⟨m0,w0⟩,turn⟩:=h
 refine wpAny_While (codeAny_whileLoop (fun n s'=>∃ σ' H',Inv X pins σ' H' s'/\W n σ' H') ?_ m0 ⟨σ,H,I,w0⟩)
 rintro n s1 ⟨σ1,H1,I1,w1⟩
 refine wpAny_passesOwn hp (thn (hc pins s1 σ1 H1 _ I1 (turn n σ1 H1 w1)) fun b s2 ⟨H2,I2,q2⟩=>?_)
 cases b with
 | true=>
  obtain ⟨N,hN,q2⟩:=q2
  rw [if_pos rfl]
  refine wpAny_passesOwn hp (thn (hb pins s2 σ1 H2 _ I2 q2) fun f s3 q3=>?_)
  cases f with
  | next=>
   obtain ⟨σ3,H3,I3,n3⟩:=q3
   obtain ⟨m',hm,w3⟩:=hN σ3 H3 n3
   exact ⟨m',hm,σ3,H3,I3,w3⟩
  | cont=>
   obtain ⟨σ3,H3,I3,n3⟩:=q3
   obtain ⟨m',hm,w3⟩:=hN σ3 H3 n3
   exact ⟨m',hm,σ3,H3,I3,w3⟩
  | brk=>exact q3
  | ret v=>exact q3
 | false=>
  rw [if_neg Q4]
  exact wpAny_execs_nil ⟨σ1,H2,I2,q2⟩
end
structure It where
 go:Nat->Hp->Prop
 yld:Nat->Hp->V->Hp->Prop
 stop:Nat->Hp->Prop
def zfr (X:Cx) (pins:List (Addr × Obj)) (H:Hp) (b:Addr):Prop:=
 H b = none/\b ≠ X.env.locals/\b ∉ X.fs/\(b ∈ X.ex\/X.s₀.heap.objs.size<=b)/\(∀ x c,X.env.cells.lookup x = some c->c ≠ b)/\∀ p ∈ X.pn ++ pins,p.1 ≠ b
theorem Inv.fpOk {b:Addr} (I:Inv X pins σ H s) (hb:s.heap.objs.size<=b) (hn:H' b = none):zfr X pins H' b:=by
 refine ⟨hn,Nat.ne_of_gt (Q5 I.lt hb),I.nofs hb,.inr (Qj I.sz hb),fun x c e z=>?_,fun p hp z=>?_⟩
 ·obtain ⟨v,q⟩:=I.cell x c e
  exact absurd (Q5 q.lt (by rw [z];exact hb)) (Qo _)
 ·exact absurd (Q5 (Qe (I.pin p hp).1) (by rw [z];exact hb)) (Qo _)
structure Turn (P:Program) (w:World) (K:Frag) (tg:Expr) (J:It) (fp:List Addr) (it:Addr) (tn:Nat->Heap->Prop):Prop where
 mem:it ∈ fp
 obj:∀ i h,tn i h->∀ b ∈ fp,∃ o,h.get? b = some o/\∀ v,o.data ≠ .cell v
 keep:∀ i h h',tn i h->(∀ b ∈ fp,∀ o,h.get? b = some o->h'.get? b = some o)->tn i h'
 item:∀ (X:Cx),X.prog = P->X.w = w->X.K = K->X.calm = true->∀ (i:Nat) (pins:List (Addr × Obj)) (s:Shared) (σ:St) (H:Hp) (E:Value->Shared->Prop),Inv X pins σ H s->(∀ b ∈ fp,zfr X pins H b)->tn i s.heap->J.go i H->
  wpAny (model P w) X.A (pyNext (.ref it)) (fun r s1=>∃ u,r = some u /\
   wpAny (model P w) X.A (letOwnedTupleGo tg (.ref it) u) (fun _ s2=>∃ x H',Inv X pins σ H' s2/\RelV x u/\J.yld i H x H'/\tn (i + 1) s2.heap/\∀ b ∈ fp,H' b = none) E s1) E s
 done:∀ (X:Cx),X.prog = P->X.w = w->X.K = K->X.calm = true->∀ (i:Nat) (pins:List (Addr × Obj)) (s:Shared) (σ:St) (H:Hp) (E:Value->Shared->Prop),Inv X pins σ H s->(∀ b ∈ fp,zfr X pins H b)->tn i s.heap->J.stop i H->
  wpAny (model P w) X.A (pyNext (.ref it)) (fun r s1=>r = none/\Inv X pins σ H s1) E s
 self:∀ (A:Around) (i:Nat) (s:Shared) (Q:Value->Shared->Prop) (E:Value->Shared->Prop),tn i s.heap->Q (.ref it) s->wpAny (model P w) A (pyIter (.ref it)) Q E s
noncomputable abbrev TI:=St->Hp->(It->Hp->Prop)->Prop
def PIE (X:Cx) (pins:List (Addr × Obj)) (σ:St) (tg:Expr) (R:It->Hp->Prop) (itv:Value) (s2:Shared):Prop:=
 ∃ (it:Addr) (fp:List Addr) (tn:Nat->Heap->Prop) (J:It) (H':Hp),itv = .ref it/\Inv X pins σ H' s2/\Turn X.prog X.w X.K tg J fp it tn/\tn 0 s2.heap/\(∀ b ∈ fp,zfr X pins H' b)/\R J H'
def PI (X:Cx) (tg iter:Expr) (wi:TI):Prop:=
 ∀ (pins:List (Addr × Obj)) (s:Shared) (σ:St) (H:Hp) (R:It->Hp->Prop),Inv X pins σ H s->wi σ H R->
  wpAny (model X.prog X.w) X.A (eval iter X.env) (fun v s1=>wpAny (model X.prog X.w) X.A (pyIter v) (PIE X pins σ tg R) X.xe s1) X.xe s
theorem zjT {o:Obj} {n:String} {vs:Array Value} {Q:Unit->Shared->Prop} (ho:s.heap.get? it = some o) (hc:o.cls = .type n) (hd:o.data = .fields vs)
 (hn:["enumerate","zip","dict_itemiterator","dict_reverseitemiterator","odict_iterator","itertools.zip_longest","itertools.pairwise"].contains n = false) (hQ:Q () s):wpAny M A (letOwnedTupleGo tg (.ref it) u) Q E s:=by
 unfold letOwnedTupleGo
 cases tg <;> first
  | exact Qf hQ
  | (cases u <;> first
    | exact Qf hQ
    | (refine Q1 (wpAny_load ho ?_)
       rw [hc,hd]
       show wpAny M A (if (["enumerate","zip","dict_itemiterator","dict_reverseitemiterator","odict_iterator","itertools.zip_longest","itertools.pairwise"].contains n && vs[0]? == some (rawInt _)) = true then _ else _) Q E s
       rw [if_neg (by intro h;rw [hn,Bool.false_and] at h;cases h)]
       exact Qf hQ))
noncomputable def Itl (K:Frag) (a:Addr):It:=
 ⟨fun i H=>∃ xs x,SqL K H a xs/\xs[i]? = some x,fun i H x H'=>H' = H/\∀ xs,SqL K H a xs->xs[i]? = some x,fun i H=>∃ xs,SqL K H a xs/\xs.length<=i⟩
noncomputable def Itt (K:Frag) (a:Addr):It:=
 ⟨fun i H=>∃ xs x,SqT K H a xs/\xs[i]? = some x,fun i H x H'=>H' = H/\∀ xs,SqT K H a xs->xs[i]? = some x,fun i H=>∃ xs,SqT K H a xs/\xs.length<=i⟩
noncomputable def Itr (lo:Int) (n:Nat):It:=⟨fun i _=>i < n,fun i H x H'=>H' = H/\x = .int (lo + i),fun i _=>n<=i⟩
variable {K:Frag}
theorem zkc (a it:Addr):Turn P w K tg (Itl K a) [it] it (fun i h=>h.IsListIter it a i) where
 mem:=by simp
 obj:=fun i h st b hb=>by
  have e:b = it:=by simpa using hb
  subst e
  obtain ⟨o,e,c,d⟩:=st
  exact ⟨o,e,fun v z=>by rw [d] at z;cases z⟩
 keep:=fun i h h' st k=>st.at fun o e=>k it (by simp) o e
 item:=by
  intro X hP hw hK hc i pins s σ H E I hf st hg
  subst hP hw hK
  obtain ⟨xs,x,hq,hx⟩:=hg
  obtain ⟨its,rv,p,hz⟩:=I.list hq
  obtain ⟨u,hu,ru⟩:=rv.get hx
  obtain ⟨f0,f1,f2,f3,f4,f5⟩:=hf it (by simp)
  refine wpAny_pyNext_list_item st p.isList (x:=u) (by simpa using hu) fun h' st' sb=>?_
  have I1:Inv X pins σ H { s with heap:=h' }:=I.turned (t':=s.toks) (fun b o hb e=>(sb.2 b hb).trans e) f0 f1 f3 f4 f5
  obtain ⟨o,e,c,d⟩:=id st'
  exact ⟨u,rfl,zjT (s:={ s with heap:=h' }) e c d (by decide) ⟨x,H,I1,ru,⟨rfl,fun ys hy=>by rw [I.list_inj hy hq];exact hx⟩,st',fun b hb=>(hf b hb).1⟩⟩
 done:=by
  intro X hP hw hK hc i pins s σ H E I hf st hg
  subst hP hw hK
  obtain ⟨xs,hq,hx⟩:=hg
  obtain ⟨its,rv,p,hz⟩:=I.list hq
  obtain ⟨f0,f1,f2,f3,f4,f5⟩:=hf it (by simp)
  have hl:=rv.length
  exact wpAny_pyNext_list_end (I.ok.hd hc) st p.isList (by simp;omega) fun h' eb=>⟨rfl,I.turned (t':=s.toks) (fun b o hb e=>eb b o hb e) f0 f1 f3 f4 f5⟩
 self:=fun _ _ _ _ _ st h=>wpAny_pyIter_listiter st h
theorem zjx (a it:Addr):Turn P w K tg (Itt K a) [it] it (fun i h=>h.IsTupleIter it a i) where
 mem:=by simp
 obj:=fun i h st b hb=>by
  have e:b = it:=by simpa using hb
  subst e
  obtain ⟨o,e,c,d⟩:=st
  exact ⟨o,e,fun v z=>by rw [d] at z;cases z⟩
 keep:=fun i h h' st k=>st.at fun o e=>k it (by simp) o e
 item:=by
  intro X hP hw hK hc i pins s σ H E I hf st hg
  subst hP hw hK
  obtain ⟨xs,x,hq,hx⟩:=hg
  obtain ⟨its,rv,p,hz⟩:=I.tuple hq
  obtain ⟨u,hu,ru⟩:=rv.get hx
  obtain ⟨f0,f1,f2,f3,f4,f5⟩:=hf it (by simp)
  refine wpAny_pyNext_tuple_item st (show s.heap.IsTuple a its.toArray from p) (x:=u) (by simpa using hu) fun h' st' sb=>?_
  have I1:Inv X pins σ H { s with heap:=h' }:=I.turned (t':=s.toks) (fun b o hb e=>(sb.2 b hb).trans e) f0 f1 f3 f4 f5
  obtain ⟨o,e,c,d⟩:=id st'
  exact ⟨u,rfl,zjT (s:={ s with heap:=h' }) e c d (by decide) ⟨x,H,I1,ru,⟨rfl,fun ys hy=>by rw [I.tuple_inj hy hq];exact hx⟩,st',fun b hb=>(hf b hb).1⟩⟩
 done:=by
  intro X hP hw hK hc i pins s σ H E I hf st hg
  subst hP hw hK
  obtain ⟨xs,hq,hx⟩:=hg
  obtain ⟨its,rv,p,hz⟩:=I.tuple hq
  obtain ⟨f0,f1,f2,f3,f4,f5⟩:=hf it (by simp)
  have hl:=rv.length
  exact wpAny_pyNext_tuple_end (I.ok.hd hc) st (show s.heap.IsTuple a its.toArray from p) (by simp;omega) fun h' eb=>⟨rfl,I.turned (t':=s.toks) (fun b o hb e=>eb b o hb e) f0 f1 f3 f4 f5⟩
 self:=fun _ _ _ _ _ st h=>wpAny_pyIter_tupleiter st h
theorem zjy (it:Addr) (lo:Int) (n:Nat):Turn P w K tg (Itr lo n) [it] it (fun i h=>IsRangeIter h it (lo + (i:Nat) * 1) ((n:Int) - (i:Nat)) 1) where
 mem:=by simp
 obj:=fun i h st b hb=>by
  have e:b = it:=by simpa using hb
  subst e
  exact ⟨_,st,fun v z=>by
   have z':Data.fields _ = Data.cell v:=z
   cases z'⟩
 keep:=fun i h h' st k=>k it (by simp) _ st
 item:=by
  intro X hP hw hK hc i pins s σ H E I hf st hg
  subst hP hw hK
  obtain ⟨f0,f1,f2,f3,f4,f5⟩:=hf it (by simp)
  have W:=Walks.range (prog:=X.prog) (w:=X.w) (I.ok.hd hc) it lo 1 n
  refine W.item i s _ _ hg st fun v h' tk hv st' kk=>?_
  obtain ⟨t,rfl⟩:=hv
  have I1:Inv X pins σ H { s with heap:=h',toks:=tk }:=I.turned (fun b o hb e=>kk b o (by simpa using hb) e) f0 f1 f3 f4 f5
  refine ⟨_,rfl,zjT (s:={ s with heap:=h',toks:=tk }) (n:="range_iterator") st' rfl rfl (by decide) ⟨.int (lo + i),H,I1,⟨t,?_⟩,⟨rfl,rfl⟩,st',fun b hb=>(hf b hb).1⟩⟩
  rw [Int.mul_one]
 done:=by
  intro X hP hw hK hc i pins s σ H E I hf st hg
  subst hP hw hK
  obtain ⟨f0,f1,f2,f3,f4,f5⟩:=hf it (by simp)
  exact wpAny_pyNext_range_end (I.ok.hd hc) st (by have:n<=i:=hg;omega) fun h' eb=>⟨rfl,I.turned (t':=s.toks) (fun b o hb e=>eb b o hb e) f0 f1 f3 f4 f5⟩
 self:=fun _ _ _ _ _ st h=>wpAny_pyIter_rangeiter st h
variable {l:Expr} {fp:List Addr} {p:Pos} {tl:TE}
section
noncomputable def zmu (K:Frag) (tl:TE):TI:=fun σ H R=>tl σ H fun x H1=>∃ a,x = .ref a/\(∃ xs,SqL K H1 a xs)/\R (Itl K a) H1
noncomputable def zrI (K:Frag) (tl:TE):TI:=fun σ H R=>tl σ H fun x H1=>∃ a,x = .ref a/\(∃ xs,SqT K H1 a xs)/\R (Itt K a) H1
theorem zf9 (hl:PE X l tl):PI X tg l (zmu X.K tl):=by
 intro pins s σ H R I h
 refine thn (hl pins s σ H _ I h) fun v s1 ⟨x,H1,I1,r1,q1⟩=>?_
 obtain ⟨a,e,⟨xs,hq⟩,q⟩:=q1
 subst e
 cases r1
 obtain ⟨its,rv,p,hz⟩:=I1.list hq
 refine wpAny_pyIter_list p.isList ?_
 refine ⟨s1.heap.objs.size,[s1.heap.objs.size],_,_,H1,rfl,I1.kept (t':=s1.toks) fun b o e=>Q2 _ e,zkc a _,⟨_,Ql _ rfl,rfl,rfl⟩,fun b hb=>?_,q⟩
 have e:b = s1.heap.objs.size:=by simpa using hb
 subst e
 exact I1.fpOk (Q3 _) (I1.hok.fresh (Q3 _))
theorem zko (hl:PE X l tl):PI X tg l (zrI X.K tl):=by
 intro pins s σ H R I h
 refine thn (hl pins s σ H _ I h) fun v s1 ⟨x,H1,I1,r1,q1⟩=>?_
 obtain ⟨a,e,⟨xs,hq⟩,q⟩:=q1
 subst e
 cases r1
 obtain ⟨its,rv,p,hz⟩:=I1.tuple hq
 refine wpAny_pyIter_tuple (show s1.heap.IsTuple a its.toArray from p) ?_
 refine ⟨s1.heap.objs.size,[s1.heap.objs.size],_,_,H1,rfl,I1.kept (t':=s1.toks) fun b o e=>Q2 _ e,zjx a _,⟨_,Ql _ rfl,rfl,rfl⟩,fun b hb=>?_,q⟩
 have e:b = s1.heap.objs.size:=by simpa using hb
 subst e
 exact I1.fpOk (Q3 _) (I1.hok.fresh (Q3 _))
theorem zhF {R:It->Hp->Prop} {lo hi:Int} {t u v:Tok} {tk:Nat} (I:Inv X pins σ H s) (h1:-(2 ^ 62)<=lo) (h2:lo < 2 ^ 62) (h3:-(2 ^ 62)<=hi) (h4:hi < 2 ^ 62)
 (q:R (Itr lo (hi - lo).toNat) H):wpAny (model X.prog X.w) X.A (pyIter (.ref s.heap.objs.size)) (PIE X pins σ tg R) E { s with heap:=s.heap.push { cls:=.type "range",data:=.fields #[.int lo t,.int hi u,.int 1 v] },toks:=tk }:=by
 refine wpAny_pyIter_range (IsRange.new ..) (small_one h1 h2 h3 h4) ?_
 have I1:Inv X pins σ H { s with heap:=s.heap.push { cls:=.type "range",data:=.fields #[.int lo t,.int hi u,.int 1 v] },toks:=tk }:=I.kept fun b o e=>Q2 _ e
 refine ⟨(s.heap.push { cls:=.type "range",data:=.fields #[.int lo t,.int hi u,.int 1 v] }).objs.size,[(s.heap.push { cls:=.type "range",data:=.fields #[.int lo t,.int hi u,.int 1 v] }).objs.size],_,_,H,rfl,
  I1.kept (t':=tk) fun b o e=>Q2 _ e,zjy _ lo (hi - lo).toNat,?_,fun b hb=>?_,q⟩
 ·have e1:lo + ((0:Nat):Int) * 1 = lo:=by simp
  have e2:(((hi - lo).toNat:Nat):Int) - ((0:Nat):Int) = Builtin.Range.rangeSize lo hi 1:=by rw [rangeSize_one];split <;> omega
  show IsRangeIter _ _ (lo + ((0:Nat):Int) * 1) ((((hi - lo).toNat:Nat):Int) - ((0:Nat):Int)) 1
  rw [e1,e2]
  exact Ql _ rfl
 ·have e:b = (s.heap.push { cls:=.type "range",data:=.fields #[.int lo t,.int hi u,.int 1 v] }).objs.size:=by simpa using hb
  subst e
  exact I1.fpOk (Q3 _) (I1.hok.fresh (Q3 _))
noncomputable def zqN (ta:TA):TI:=fun σ H R=>ta σ H fun vs H1=>∃ j:Int,vs = [.int j]/\-(2 ^ 62)<=j/\j < 2 ^ 62/\R (Itr 0 j.toNat) H1
noncomputable def zqM (ta:TA):TI:=fun σ H R=>ta σ H fun vs H1=>∃ i j:Int,vs = [.int i,.int j]/\(-(2 ^ 62)<=i/\i < 2 ^ 62/\-(2 ^ 62)<=j/\j < 2 ^ 62)/\R (Itr i (j - i).toNat) H1
theorem zkq {a:Expr} {ta:TA} (hg:Gl X "range") (hm:X.mg "range" = none) (ha:PA X [a] ta) (hs:starEach [a] X.env = [(false,eval a X.env)]:=by rfl):PI X tg (.Call (.Name "range" p) [a] [] pos) (zqN ta):=by
 intro pins s σ H R I h
 refine Call_ (zeq I hg hm boot_range (PyProof.Rows.callWith_type1 (thn (ha pos pins s σ H _ I h) fun us s1 ⟨vs,H1,I1,r1,q1⟩=>?_) hs rfl))
 obtain ⟨j,e,q1,q2,q⟩:=q1
 subst e
 cases r1 with
 | cons r rr=>
  cases rr
  obtain ⟨t,rfl⟩:=r
  exact call_range_1 (zhF I1 (by omega) (by omega) q1 q2 (by simpa using q))
theorem zkp {a b:Expr} {ta:TA} (hg:Gl X "range") (hm:X.mg "range" = none) (ha:PA X [a,b] ta) (hs:starEach [a,b] X.env = [(false,eval a X.env),(false,eval b X.env)]:=by rfl) (hs2:starEach [b] X.env = [(false,eval b X.env)]:=by rfl) :
  PI X tg (.Call (.Name "range" p) [a,b] [] pos) (zqM ta):=by
 intro pins s σ H R I h
 refine Call_ (zeq I hg hm boot_range (PyProof.Rows.callWith_type1 (thn (ha pos pins s σ H _ I h) fun us s1 ⟨vs,H1,I1,r1,q1⟩=>?_) (by rw [hs,hs2]) (by rw [hs2];rfl)))
 obtain ⟨i,j,e,⟨q1,q2,q3,q4⟩,q⟩:=q1
 subst e
 cases r1 with
 | cons r rr=>
  cases rr with
  | cons r' rr=>
   cases rr
   obtain ⟨t,rfl⟩:=r
   obtain ⟨t',rfl⟩:=r'
   exact call_range_2 (zhF I1 q1 q2 q3 q4 q)
noncomputable def zrj (wi:TI) (g:TG) (tb:TS):TS:=fun D σ H=>wi σ H fun J H1=>∃ W:Nat->Nat->St->Hp->Prop,(∃ m,W 0 m σ H1)/\∀ i m σ H,W i m σ H->
 (J.stop i H/\D.nx σ H)\/(J.go i H/\∃ N:St->Hp->Prop,(∀ σ' H',N σ' H'->∃ m',m' < m/\W (i + 1) m' σ' H')/\∀ x H',J.yld i H x H'->g x σ H' fun σ2 H2=>tb { D with nx:=N,ct:=N,bk:=D.nx } σ2 H2)
noncomputable def zen (fp:List Addr) (h:Heap):List (Addr × Obj):=fp.filterMap fun b=>(h.get? b).map fun o=>(b,o)
theorem zcI {b:Addr} {o:Obj} (hb:b ∈ fp) (e:h.get? b = some o):(b,o) ∈ zen fp h:=List.mem_filterMap.mpr ⟨b,hb,by rw [e];rfl⟩
theorem zkx {p:Addr × Obj} (hp:p ∈ zen fp h):p.1 ∈ fp/\h.get? p.1 = some p.2:=by
 obtain ⟨b,hb,e⟩:=List.mem_filterMap.mp hp
 cases q:h.get? b with
 | none=>rw [q] at e;cases e
 | some o=>
  rw [q] at e
  have e':(b,o) = p:=Qd e
  subst e'
  exact ⟨hb,q⟩
theorem Inv.pinned (I:Inv X pins σ H s) (hf:∀ b ∈ fp,zfr X pins H b) (ho:∀ b ∈ fp,∃ o,s.heap.get? b = some o/\∀ v,o.data ≠ .cell v):Inv X (pins ++ zen fp s.heap) σ H s:=
 I.pins_of fun p hp=>(mem_append.mp hp).elim (fun z=>I.pin p (Qm _ z)) fun z=>by
  obtain ⟨hb,e⟩:=zkx z
  obtain ⟨f0,f1,f2,_⟩:=hf p.1 hb
  obtain ⟨o,e',d⟩:=ho p.1 hb
  rw [e] at e';cases e'
  exact ⟨e,f0,f1,f2,d⟩
theorem Inv.unpinned {pl:List (Addr × Obj)} (I:Inv X (pins ++ pl) σ H s):Inv X pins σ H s:=I.pins_of fun p hp=>I.pin p (Qm _ (mem_append_left _ hp))
theorem zkl {iter:Expr} {wi:TI} {tb:TS} (hp:PassesOwn (model X.prog X.w) X.A X.env X.xe) (hc:X.calm = true) (hi:PI X tg iter wi) (hg:PG X tg g) (hb:PSs X body tb)
 (hs:∀ x,foldedSetIterable iter X.env x = pure x:=by intro _;rfl):PS X (.For tg iter body [] pos) (zrj wi g tb):=by
 intro pins s σ H D I h
 refine wpAny_For (thn (hi pins s σ H _ I h) fun v s1 h1=>thn h1 fun itv s2 h2=>?_) hs
 obtain ⟨it,fp,tn,J,H2,e,I2,T,st2,f2,W,⟨m0,w0⟩,turn⟩:=h2
 subst e
 -- what stays true of the iterator's objects through the loop
 have stat:∀ {H':Hp},(∀ b ∈ fp,H' b = none)->∀ b ∈ fp,zfr X pins H' b:=fun hn b hb=>⟨hn b hb,(f2 b hb).2⟩
 refine codeAny_forLoop_any (fun n s'=>∃ i σ' H',Inv X pins σ' H' s'/\tn i s'.heap/\(∀ b ∈ fp,H' b = none)/\W i n σ' H') ?_ m0 ⟨0,σ,H2,I2,st2,fun b hb=>(f2 b hb).1,w0⟩
 rintro n s3 ⟨i,σ3,H3,I3,st3,fr3,w3⟩
 rcases turn i n σ3 H3 w3 with ⟨stop,qn⟩ | ⟨go,N,hN,step⟩
 ·refine wpAny_passesOwn hp (thn (T.done X rfl rfl rfl hc i pins s3 σ3 H3 X.xe I3 (stat fr3) st3 stop) fun r s4 ⟨hr,I4⟩=>?_)
  subst hr
  exact wpAny_execs_nil ⟨σ3,H3,I4,qn⟩
 ·refine wpAny_passesOwn hp (thn (T.item X rfl rfl rfl hc i pins s3 σ3 H3 X.xe I3 (stat fr3) st3 go) fun r s4 ⟨u,hr,h4⟩=>?_)
  subst hr
  refine wpAny_passesOwn hp (thn h4 fun _ s5 ⟨x,H5,I5,r5,y5,st5,fr5⟩=>?_)
  have I5':=I5.pinned (stat fr5) (T.obj _ _ st5)
  refine wpAny_passesOwn hp (thn (hg _ s5 σ3 H5 x u _ I5' r5 (step x H5 y5)) fun _ s6 ⟨σ6,H6,I6,q6⟩=>?_)
  refine wpAny_passesOwn hp (thn (hb _ s6 σ6 H6 _ I6 q6) fun f s7 q7=>?_)
  have again:∀ {σ7:St} {H7:Hp},Inv X (pins ++ zen fp s5.heap) σ7 H7 s7->N σ7 H7->∃ m,m < n/\∃ i σ' H',Inv X pins σ' H' s7/\tn i s7.heap/\(∀ b ∈ fp,H' b = none)/\W i m σ' H':=fun {σ7 H7} I7 n7=>by
   obtain ⟨m',hm,w7⟩:=hN σ7 H7 n7
   refine ⟨m',hm,i + 1,σ7,H7,I7.unpinned,T.keep _ _ _ st5 fun b hb o e=>(I7.pin (b,o) (Qm _ (Qm _ (zcI hb e)))).1,fun b hb=>?_,w7⟩
   obtain ⟨o,e,d⟩:=T.obj _ _ st5 b hb
   exact (I7.pin (b,o) (Qm _ (Qm _ (zcI hb e)))).2.1
  cases f with
  | next=>obtain ⟨σ7,H7,I7,n7⟩:=q7;exact again I7 n7
  | cont=>obtain ⟨σ7,H7,I7,n7⟩:=q7;exact again I7 n7
  | brk=>obtain ⟨σ7,H7,I7,q7⟩:=q7;exact ⟨σ7,H7,I7.unpinned,q7⟩
  | ret v=>obtain ⟨x7,σ7,H7,I7,r7,q7⟩:=q7;exact ⟨x7,σ7,H7,I7.unpinned,r7,q7⟩
end
noncomputable abbrev R2:=V->V->Hp->VK->Prop
def OpR (X:Cx) (f:Value->Value->Sem Value) (r:R2):Prop:=
 ∀ (pins:List (Addr × Obj)) (s:Shared) (σ:St) (H:Hp) (x y:V) (v u:Value) (Q:VK),Inv X pins σ H s->RelV x v->RelV y u->r x y H Q->
  wpAny (model X.prog X.w) X.A (f v u) (EP X pins σ Q) X.xe s
def UnR (X:Cx) (f:Value->Sem Value) (r:V->Hp->VK->Prop):Prop:=
 ∀ (pins:List (Addr × Obj)) (s:Shared) (σ:St) (H:Hp) (x:V) (v:Value) (Q:VK),Inv X pins σ H s->RelV x v->r x H Q->
  wpAny (model X.prog X.w) X.A (f v) (EP X pins σ Q) X.xe s
def CallR (X:Cx) (f:Value) (r:List V->Hp->VK->Prop):Prop:=
 ∀ (pins:List (Addr × Obj)) (s:Shared) (σ:St) (H:Hp) (xs:List V) (us:List Value) (Q:VK),Inv X pins σ H s->Vals xs us->r xs H Q->
  wpAny (model X.prog X.w) X.A (call f us) (EP X pins σ Q) X.xe s
noncomputable def tOp (r:R2) (ta tb:TE):TE:=fun σ H Q=>ta σ H fun x H1=>tb σ H1 fun y H2=>r x y H2 Q
noncomputable def tUn (r:V->Hp->VK->Prop) (ta:TE):TE:=fun σ H Q=>ta σ H fun x H1=>r x H1 Q
noncomputable def rI (C:Int->Int->Prop) (g:Int->Int->V):R2:=fun x y H Q=>∃ i j,x = .int i/\y = .int j/\C i j/\Q (g i j) H
noncomputable def rI0 (g:Int->Int->V):R2:=fun x y H Q=>∃ i j,x = .int i/\y = .int j/\Q (g i j) H
noncomputable def rU (g:Int->V):V->Hp->VK->Prop:=fun x H Q=>∃ i,x = .int i/\Q (g i) H
variable {f:Value->Value->Sem Value}
section
variable {a b c:Expr} {tc:TE}
theorem zmj (ha:PE X a ta) (hb:PE X b tb) (I:Inv X pins σ H s)
 (h:ta σ H fun x H1=>tb σ H1 fun y H2=>R x y H2) 
 (hf:∀ v u s2 x y H2,Inv X pins σ H2 s2->RelV x v->RelV y u->R x y H2->wpAny (model X.prog X.w) X.A (f v u) Q X.xe s2) :
  wpAny (model X.prog X.w) X.A (eval a X.env) (fun v s₁=>wpAny (model X.prog X.w) X.A (eval b X.env) (fun u s₂=>wpAny (model X.prog X.w) X.A (f v u) Q X.xe s₂) X.xe s₁) X.xe s:=by
 refine thn (ha pins s σ H _ I h) fun v s1 ⟨x,H1,I1,r1,q1⟩=>?_
 refine thn (hb pins s1 σ H1 _ I1 q1) fun u s2 ⟨y,H2,I2,r2,q2⟩=>?_
 exact hf v u s2 x y H2 I2 r1 r2 q2
theorem zmq {op:Operator} {r:R2} (ho:OpR X (binaryOp op) r) (ha:PE X a ta) (hb:PE X b tb):PE X (.BinOp a op b pos) (tOp r ta tb):=by
 intro pins s σ H Q I h
 exact wpAny_BinOp (zmj ha hb I h fun v u s2 x y H2 I2 rx ry q=>ho pins s2 σ H2 x y v u Q I2 rx ry q)
theorem zqA {op:UnaryOp} {r:V->Hp->VK->Prop} (ho:UnR X (unaryOp op) r) (ha:PE X a ta):PE X (.UnaryOp op a pos) (tUn r ta):=by
 intro pins s σ H Q I h
 exact UnaryOp_ (thn (ha pins s σ H _ I h) fun v s1 ⟨x,H1,I1,r1,q1⟩=>ho pins s1 σ H1 x v Q I1 r1 q1)
theorem opI {C:Int->Int->Prop} {g:Int->Int->Int}
 (rule:∀ (i j:Int) (t u:Tok) (s:Shared) (Q:Value->Shared->Prop) (E:Value->Shared->Prop),C i j->Q (.int (g i j) s.toks) { s with toks:=s.toks + 1 }->wpAny (model X.prog X.w) X.A (f (.int i t) (.int j u)) Q E s) :
  OpR X f (rI C fun i j=>.int (g i j)):=by
 intro pins s σ H x y v u Q I rx ry h
 obtain ⟨i,j,rfl,rfl,hc,q⟩:=h
 obtain ⟨t,rfl⟩:=rx
 obtain ⟨t',rfl⟩:=ry
 exact rule i j t t' s _ _ hc ⟨.int (g i j),H,I.tok _,⟨_,rfl⟩,q⟩
theorem zo3 {g:Int->Int->Int}
 (rule:∀ (i j:Int) (t u:Tok) (s:Shared) (Q:Value->Shared->Prop) (E:Value->Shared->Prop),Q (.int (g i j) s.toks) { s with toks:=s.toks + 1 }->wpAny (model X.prog X.w) X.A (f (.int i t) (.int j u)) Q E s) :
  OpR X f (rI0 fun i j=>.int (g i j)):=by
 intro pins s σ H x y v u Q I rx ry h
 obtain ⟨i,j,rfl,rfl,q⟩:=h
 obtain ⟨t,rfl⟩:=rx
 obtain ⟨t',rfl⟩:=ry
 exact rule i j t t' s _ _ ⟨.int (g i j),H,I.tok _,⟨_,rfl⟩,q⟩
theorem zlG {g:Int->Int->Bool}
 (rule:∀ (i j:Int) (t u:Tok) (s:Shared) (Q:Value->Shared->Prop) (E:Value->Shared->Prop),Q (.bool (g i j)) s->wpAny (model X.prog X.w) X.A (f (.int i t) (.int j u)) Q E s) :
  OpR X f (rI0 fun i j=>.bl (g i j)):=by
 intro pins s σ H x y v u Q I rx ry h
 obtain ⟨i,j,rfl,rfl,q⟩:=h
 obtain ⟨t,rfl⟩:=rx
 obtain ⟨t',rfl⟩:=ry
 exact rule i j t t' s _ _ ⟨.bl (g i j),H,I,rfl,q⟩
def zrS (i j:Int):Prop:=0<=j/\j<=1000000/\i.natAbs < 2 ^ 64
def CMul (i j:Int):Prop:=(-(2 ^ 64) < i/\i < 2 ^ 64)\/(-(2 ^ 64) < j/\j < 2 ^ 64)
theorem CMul.ok {i j:Int} (h:CMul i j):IntMulOk i j:=by
 rcases h with ⟨h1,h2⟩ | ⟨h1,h2⟩
 ·exact .of_left (intBits_le_64 h1 h2)
 ·exact .of_right (intBits_le_64 h1 h2)
theorem zo2:OpR X (binaryOp .Add) (rI0 fun i j=>.int (i + j)):=zo3 fun _ _ _ _ _ _ _ q=>add_int q
theorem zoW:OpR X (binaryOp .Sub) (rI0 fun i j=>.int (i - j)):=zo3 fun _ _ _ _ _ _ _ q=>sub_int q
theorem zni:OpR X (binaryOp .Mod) (rI (fun _ j=>j ≠ 0) fun i j=>.int (i.fmod j)):=opI fun _ _ _ _ _ _ _ hc q=>mod_int' hc q
theorem zoX:OpR X (binaryOp .Pow) (rI zrS fun i j=>.int (i ^ j.toNat)):=opI fun _ _ _ _ _ _ _ hc q=>pow_int_small hc.1 hc.2.1 hc.2.2 q
theorem unI {f:Value->Sem Value} {g:Int->Int}
  (rule:∀ (i:Int) (t:Tok) (s:Shared) (Q:Value->Shared->Prop) (E:Value->Shared->Prop),Q (.int (g i) s.toks) { s with toks:=s.toks + 1 }->wpAny (model X.prog X.w) X.A (f (.int i t)) Q E s) :
  UnR X f (rU fun i=>.int (g i)):=by
 intro pins s σ H x v Q I rx h
 obtain ⟨i,rfl,q⟩:=h
 obtain ⟨t,rfl⟩:=rx
 exact rule i t s _ _ ⟨.int (g i),H,I.tok _,⟨_,rfl⟩,q⟩
theorem zoh:UnR X (unaryOp .USub) (rU fun i=>.int (-i)):=unI fun _ _ _ _ _ q=>neg_int q
end
section
variable {a b c:Expr} {tc:TE}
theorem zkW {Q:VK} {k k':Bool} (I:Inv X pins σ H s) (q:Q (.bl k) H) (e:k = k'):EP X pins σ Q (.bool k') s:=by
 subst e
 exact ⟨.bl k,H,I,rfl,q⟩
theorem zqE:OpR X (compareOp .Lt) (rI0 fun i j=>.bl (decide (i < j))):=zlG fun _ _ _ _ _ _ _ q=>lt_int q
theorem zqF:OpR X (compareOp .LtE) (rI0 fun i j=>.bl (decide (i<=j))):=zlG fun _ _ _ _ _ _ _ q=>le_int q
theorem zqG:OpR X (compareOp .Gt) (rI0 fun i j=>.bl (decide (j < i))):=zlG fun _ _ _ _ _ _ _ q=>gt_int q
theorem zoY:OpR X (compareOp .Is) (fun x y H Q=>y = .non/\Q (.bl (decide (x = .non))) H):=by
 intro pins s σ H x y v u Q I rx ry h
 obtain ⟨rfl,q⟩:=h
 cases ry
 refine is_none_gen (zkW I q ?_)
 cases x <;> first
  | (cases rx;rfl)
  | (obtain ⟨t,rfl⟩:=rx;rfl)
theorem zne:OpR X (compareOp .IsNot) (fun x y H Q=>y = .non/\Q (.bl (!decide (x = .non))) H):=by
 intro pins s σ H x y v u Q I rx ry h
 obtain ⟨rfl,q⟩:=h
 cases ry
 refine isnot_none_gen (zkW I q ?_)
 cases x <;> first
  | (cases rx;rfl)
  | (obtain ⟨t,rfl⟩:=rx;rfl)
theorem yj (b:Expr) (h:op ≠ .In:=by decide) (h2:op ≠ .NotIn:=by decide):behindInMarks op b = false:=by
 have e1:(op == CmpOp.In) = false:=by cases op <;> first | rfl | exact absurd rfl h
 have e2:(op == CmpOp.NotIn) = false:=by cases op <;> first | rfl | exact absurd rfl h2
 cases b <;> simp [behindInMarks,e1,e2]
theorem zm7 {r:R2} (ho:OpR X (compareOp op) r) (ha:PE X a ta) (hb:PE X b tb) (hm:behindInMarks op b = false):PE X (.Compare a [op] [b] pos) (tOp r ta tb):=by
 intro pins s σ H Q I h
 exact wpAny_Compare1 (zmj ha hb I h fun v u s2 x y H2 I2 rx ry q=>ho pins s2 σ H2 x y v u Q I2 rx ry q) hm
noncomputable def zqf (t:TE):TT:=fun σ H Q=>t σ H fun x H'=>∃ k,x = .bl k/\Q k H'
theorem zmW {r:R2} (ho:OpR X (compareOp op) r) (ha:PE X a ta) (hb:PE X b tb) (hm:behindInMarks op b = false):PT X (.Compare a [op] [b] pos) (zqf (tOp r ta tb)):=by
 intro pins s σ H Q I h
 refine wpAny_isTrue_Compare1 (thn (ha pins s σ H _ I h) fun v s1 ⟨x,H1,I1,r1,q1⟩=>thn (hb pins s1 σ H1 _ I1 q1) fun u s2 ⟨y,H2,I2,r2,q2⟩=>
  thn (ho pins s2 σ H2 x y v u _ I2 r1 r2 q2) fun c s3 ⟨z,H3,I3,r3,k,e,q3⟩=>?_) hm
 subst e
 cases r3
 exact wpAny_truthy_bool ⟨H3,I3,q3⟩
noncomputable def zke (r r':R2) (ta tb tc:TE):TE:=fun σ H Q=>ta σ H fun x H1=>tb σ H1 fun y H2=>r x y H2 fun z H3=>∃ k,z = .bl k /\
 (if k = true then tc σ H3 fun w' H4=>r' y w' H4 Q else Q (.bl false) H3)
theorem zlD {op':CmpOp} {r r':R2} (ho:OpR X (compareOp op) r) (ho':OpR X (compareOp op') r') (ha:PE X a ta) (hb:PE X b tb) (hc:PE X c tc)
 (hm:lastMarks [op,op'] [b,c] = false:=by with_unfolding_all rfl):PE X (.Compare a [op,op'] [b,c] pos) (zke r r' ta tb tc):=by
 intro pins s σ H Q I h
 refine Compare_chain (thn (ha pins s σ H _ I h) fun v s1 ⟨x,H1,I1,r1,q1⟩=>chain_link (thn (hb pins s1 σ H1 _ I1 q1) fun u s2 ⟨y,H2,I2,r2,q2⟩=>
  thn (ho pins s2 σ H2 x y v u _ I2 r1 r2 q2) fun d s3 ⟨z,H3,I3,r3,k,e,q3⟩=>?_)) hm
 subst e
 cases r3
 refine wpAny_truthy_bool ?_
 cases k with
 | false=>exact ite_ff ⟨.bl false,H3,I3,rfl,q3⟩
 | true=>exact ite_tt (chain_last (thn (hc pins s3 σ H3 _ I3 q3) fun w' s4 ⟨z',H4,I4,r4,q4⟩=>ho' pins s4 σ H4 y z' u w' Q I4 r2 r4 q4))
theorem zcq:(sizeLine:Nat) < 2 ^ 63:=by rw [sizeLine_eq];decide
theorem zjK:OpR X (binaryOp .Add) (fun x y H Q=>∃ i j,x = .str i/\y = .str j/\i.length + j.length<=sizeLine/\Q (.str (i ++ j)) H):=by
 intro pins s σ H x y v u Q I rx ry h
 obtain ⟨i,j,rfl,rfl,hz,q⟩:=h
 obtain ⟨t,rfl⟩:=rx
 obtain ⟨t',rfl⟩:=ry
 exact add_str (fun t' tk=>⟨.str (i ++ j),H,I.tok _,⟨_,rfl⟩,q⟩) hz
theorem vals1 {x:V} (r:Vals [x] us):∃ u,us = [u]/\RelV x u:=by
 cases r with
 | cons r1 r2=>cases r2;exact ⟨_,rfl,r1⟩
theorem vals2 {x:V} (r:Vals [x,y] us):∃ u w',us = [u,w']/\RelV x u/\RelV y w':=by
 cases r with
 | cons r1 r2=>
  cases r2 with
  | cons r3 r4=>cases r4;exact ⟨_,_,rfl,r1,r3⟩
theorem zlb (hc:X.calm = true):CallR X (.builtin "max") (fun xs H Q=>∃ i j,xs = [.int i,.int j]/\Q (.int (if j > i then j else i)) H):=by
 intro pins s σ H xs us Q I r h
 obtain ⟨i,j,rfl,q⟩:=h
 obtain ⟨u,w',rfl,⟨t,rfl⟩,⟨t',rfl⟩⟩:=vals2 r
 refine max_two_ints (I.ok.hd hc) fun h' tk k=>⟨_,H,I.kept k,?_,q⟩
 by_cases hj:j > i
 ·rw [if_pos hj,if_pos hj];exact ⟨_,rfl⟩
 ·rw [if_neg hj,if_neg hj];exact ⟨_,rfl⟩
theorem zla (hc:X.calm = true):CallR X (.builtin "min") (fun xs H Q=>∃ i j,xs = [.int i,.int j]/\Q (.int (if j < i then j else i)) H):=by
 intro pins s σ H xs us Q I r h
 obtain ⟨i,j,rfl,q⟩:=h
 obtain ⟨u,w',rfl,⟨t,rfl⟩,⟨t',rfl⟩⟩:=vals2 r
 refine min_two_ints (I.ok.hd hc) fun h' tk k=>⟨_,H,I.kept k,?_,q⟩
 by_cases hj:j < i
 ·rw [if_pos hj,if_pos hj];exact ⟨_,rfl⟩
 ·rw [if_neg hj,if_neg hj];exact ⟨_,rfl⟩
end
structure ObjM (h:Heap) (x dx C:Addr) (mA:Str->Option Value):Prop where
 obj:h.get? x = some (PySem.W.instObj C dx)
 ns:h.Ns1 dx mA
 ne:dx ≠ x
variable {dx:Addr} {mA:Str->Option Value}
theorem zkC (n:h.Ns1 dx mA):∃ od,h.get? dx = some od/\∀ name,PySem.W.lookIn name od = some (mA name):=by
 obtain ⟨o,es,ep,ho,hd,hk,_,hm⟩:=n
 refine ⟨o,ho,fun name=>?_⟩
 have e:=hm name
 unfold nsFind findBy at e
 rw [← Array.find?_toList] at e
 unfold PySem.W.lookIn
 rw [hd]
 dsimp only
 split
 ·rename_i y q
  rw [q] at e
  exact congrArg some e
 ·rename_i q
  rw [q] at e
  have a:es.toList.any (·.refKey) = false:=by
   rw [List.any_eq_false]
   intro y hy
   obtain ⟨z,t,hkey⟩:=hk y (Array.mem_toList_iff.mp hy)
   simp [DictEntry.refKey,hkey]
  have a':¬ es.toList.any (·.refKey) = true:=by rw [a];exact Q4
  rw [if_neg a']
  exact congrArg some e
variable {C:Addr}
theorem ObjM.look {x:Addr} (I:ObjM h x dx C mA):∃ od,PySem.W.InstAt h x (PySem.W.instObj C dx) C (some od)/\∀ name,PySem.W.lookIn name od = some (mA name):=
 let ⟨od,ho,hl⟩:=zkC I.ns
 ⟨od,⟨I.obj,rfl,rfl,ho⟩,hl⟩
variable {kw:List (Str × Value)} {prog:Program} {name:Str}
section
variable {x f:Addr} {v:Value}
theorem get_map {expr:Bool} (X:K.In s.heap) (I:ObjM s.heap x dx C mA) (hg:PySem.W.plainGet K C name = true) (hh:PySem.W.hasDictIn K C = true)
 (ha:PySem.W.findIn K (.ref C) name = some none) (hv:mA name = some v) (hv':PySem.W.handedIn v = true) (h:Q v { s with toks:=s.toks + 1 }) :
  wpAny (model prog w) A (getAttr (.ref x) name expr) Q E s:=by
 obtain ⟨od,J,hl⟩:=I.look
 exact PySem.W.get_value X J (PySem.W.plainGet_of hg).1 (PySem.W.findObj_own hh ha rfl (by rw [hl,hv])) hv' h
theorem zmL {ns:List Str} {Q:Unit->Shared->Prop} (X:K.In s.heap) (I:ObjM s.heap x dx C mA)
  (hs:PySem.W.findIn K (.ref C) "__setattr__" = some (some (.builtin "object.__setattr__"))) (hp:PySem.W.plainOver K C = true) (ht:PySem.W.takerIn K C name = some none) (hh:PySem.W.hasDictIn K C = true)
  (hw:PySem.Within mA ns) (hsz:ns.length<=sizeLine)
  (h:∀ h',ObjM h' x dx C (fun y=>if y = name then some v else mA y)->Heap.SameBut dx s.heap h'->Q () { s with heap:=h',toks:=s.toks + 2 }) :
  wpAny (model prog w) A (setAttr (.ref x) name v) Q E s:=by
 obtain ⟨od,J,hl⟩:=I.look
 refine PySem.W.set_plain X J hs (PySem.W.osa_open (s:={ s with toks:=s.toks + 1 }) (r:=none) X J hp ht fun b=>?_)
 obtain ⟨cd,hc,hd'⟩:=PySem.W.any_some hh
 have hx:s.heap.get? x = some ⟨.ref C,some dx,.plain,#[]⟩:=I.obj
 refine Q1 (Qf (Q1 (Q1 (wpAny_loadPart hx (Q1 (PySem.W.Looks.here (s:={ s with toks:=s.toks + 1 }) (PySem.W.looks_clsIn X hc) ?_))))))
 rw [hd']
 refine Qf (a:=some dx) (Q1 (Qf (Q1 ?_)))
 refine wpAny_nsSet1 (s:={ s with toks:=s.toks + 1 }) I.ns fun h' hn2 hs2=>?_
 obtain ⟨oD,esD,epD,hoD,hdD,hcD⟩:=hn2.count (PySem.Within.cons name v hw)
 refine Q1 (wpAny_lookBehind hoD (by rw [hdD];exact pastItsLine_dict (Qj hcD (by rw [Qp];omega))) ?_)
 exact Qf (h _ ⟨(hs2.2 _ (Ne.symm I.ne)).trans I.obj,hn2,I.ne⟩ hs2)
theorem zlM {R:Result->Shared->Prop} {vs:List Value} (X:K.In s.heap) (hm:PySem.W.makesIn K C = true)
 (hi:PySem.W.findIn K (.ref C) "__init__" = some (some (.ref f))) (hf:PySem.W.typeIn K (.ref f) = some (.type "function"))
 (h:codeAny (model prog w) (A.under (.builtin "type.__call__" ⟨.ref C :: vs,kw⟩)) (.call (.ref f) ⟨.ref (s.heap.objs.size + 1) :: vs,kw⟩) (PySem.W.InitBack (s.heap.objs.size + 1) R)
 { s with heap:=(s.heap.push PySem.W.emptyDict).push (PySem.W.instObj C s.heap.objs.size) }) :
  codeAny (model prog w) A (.call (.ref C) ⟨vs,kw⟩) R s:=by
 obtain ⟨hh,g,d,t,os⟩:=s
 exact PySem.W.make_core (PySem.W.makes_of X hm) (PySem.W.looks_findIn X hi) (fun self=>PySem.W.bind_fn X self hf) (.inl rfl) h
end
noncomputable def z5 (f:Str) (v:V):List (Str × V)->List (Str × V)
 | []=>[(f,v)]
 | (g,x) :: r=>if g = f then (g,v) :: r else (g,x) :: z5 f v r
theorem zeT (f g:Str) (v:V):∀ fs:List (Str × V),(z5 f v fs).lookup g = if g = f then some v else fs.lookup g
 | []=>by
  show List.lookup g [(f,v)] = _
  by_cases h:g = f
  ·have hb:(g == f) = true:=beq_iff_eq.mpr h
   simp only [List.lookup,hb,if_pos h]
  ·have hb:(g == f) = false:=beq_eq_false_iff_ne.mpr h
   simp only [List.lookup,hb,if_neg h]
 | (k,x) :: r=>by
  have ih:=zeT f g v r
  rw [show z5 f v ((k,x) :: r) = (if k = f then (k,v) :: r else (k,x) :: z5 f v r) from rfl]
  by_cases hk:k = f
  ·rw [if_pos hk]
   by_cases h:g = k
   ·have hb:(g == k) = true:=beq_iff_eq.mpr h
    simp only [List.lookup,hb,if_pos (h.trans hk)]
   ·have hb:(g == k) = false:=beq_eq_false_iff_ne.mpr h
    simp only [List.lookup,hb,if_neg (fun e:g = f=>h (e.trans hk.symm))]
  ·rw [if_neg hk]
   by_cases h:g = k
   ·have hb:(g == k) = true:=beq_iff_eq.mpr h
    simp only [List.lookup,hb,if_neg (fun e:g = f=>hk (h.symm.trans e))]
   ·have hb:(g == k) = false:=beq_eq_false_iff_ne.mpr h
    simp only [List.lookup,hb]
    exact ih
theorem zer (f:Str) (v:V):∀ fs:List (Str × V),f ∈ (z5 f v fs).map (·.1)/\∀ g,g ∈ fs.map (·.1)->g ∈ (z5 f v fs).map (·.1)
 | []=>⟨by simp [z5],fun g h=>by simp at h⟩
 | (k,x) :: r=>by
  obtain ⟨i1,i2⟩:=zer f v r
  rw [show z5 f v ((k,x) :: r) = (if k = f then (k,v) :: r else (k,x) :: z5 f v r) from rfl]
  by_cases hk:k = f
  ·rw [if_pos hk]
   subst hk
   exact ⟨by simp,fun g h=>by simpa using h⟩
  ·rw [if_neg hk]
   refine ⟨?_,fun g h=>?_⟩
   ·rw [map_cons]
    exact mem_cons_of_mem _ i1
   ·rw [map_cons] at h ⊢
    rcases mem_cons.mp h with e | e
    ·exact mem_cons.mpr (.inl e)
    ·exact mem_cons_of_mem _ (i2 g e)
theorem zeV (f:Str) (v:V):∀ fs:List (Str × V),(z5 f v fs).length<=fs.length + 1
 | []=>by simp [z5]
 | (k,x) :: r=>by
  have ih:=zeV f v r
  rw [show z5 f v ((k,x) :: r) = (if k = f then (k,v) :: r else (k,x) :: z5 f v r) from rfl]
  by_cases hk:k = f
  ·rw [if_pos hk,Qp,Qp];omega
  ·rw [if_neg hk,Qp,Qp];omega
theorem RelO.some_of {o:Option Value} (r:RelO (some v) o):∃ u,o = some u/\RelV v u:=by
 cases o with
 | none=>exact (show False from r).elim
 | some u=>exact ⟨u,rfl,r⟩
theorem zkM (r:RelV v u):PySem.W.handedIn u = true:=by
 cases v with
 | non=>cases (show u = Value.none from r);rfl
 | bl b=>cases (show u = Value.bool b from r);rfl
 | int i=>obtain ⟨t,e⟩:=(show ∃ t,u = Value.int i t from r);cases e;rfl
 | str x=>obtain ⟨t,e⟩:=(show ∃ t,u = Value.str x t from r);cases e;rfl
 | byt b=>obtain ⟨t,e⟩:=(show ∃ t,u = Value.bytes b t from r);cases e;rfl
 | flt b=>obtain ⟨t,e⟩:=(show ∃ t,u = Value.float b t from r);cases e;rfl
 | ref a=>cases (show u = Value.ref a from r);rfl
 | ty n=>cases (show u = Value.type n from r);rfl
section
variable {a:Addr} {fs fs':List (Str × V)}
theorem zi9 (hok:HOk P w H h) (e:H a = some (.ins C dx fs)):∃ mA,ObjM h a dx C mA/\(∀ f,RelO (fs.lookup f) (mA f))/\PySem.Within mA (fs.map (·.1))/\fs.length<=1000/\H dx = some (.own a):=by
 obtain ⟨d,z,ne,ob,mA,n,r,q⟩:=(show ObjOk P w H h a (.ins C dx fs) from hok a _ e)
 exact ⟨mA,⟨ob,n,ne⟩,r,q,z,d⟩
end
structure Cls (K:Frag) (C:Addr):Prop where
 pg:PySem.W.plainGet K C Str.empty = true
 hd:PySem.W.hasDictIn K C = true
 po:PySem.W.plainOver K C = true
 sa:PySem.W.findIn K (.ref C) "__setattr__" = some (some (.builtin "object.__setattr__"))
theorem Cls.get (c:Cls K C) (f:Str):PySem.W.plainGet K C f = true:=c.pg
def NoAttr (K:Frag) (C:Addr) (f:Str):Prop:=PySem.W.findIn K (.ref C) f = some none
theorem NoAttr.taker {f:Str} (n:NoAttr K C f):PySem.W.takerIn K C f = some none:=by
 unfold PySem.W.takerIn
 rw [show PySem.W.findIn K (.ref C) f = some none from n]
 rfl
structure Con (K:Frag) (C:Addr) (f:Str) (v:V) (u:Value):Prop where
 at_:PySem.W.findIn K (.ref C) f = some (some u)
 rel:RelV v u
 get:PySem.W.specialIn K u "__get__" = some none
 cp:PySem.W.copiedNames.contains f = false
structure Meth (K:Frag) (C:Addr) (m:Str) (f:Addr):Prop where
 at_:PySem.W.findIn K (.ref C) m = some (some (.ref f))
 fn:PySem.W.isFn K (.ref f) = true
 kp:PySem.W.keepIn K (.ref f) = true
section
variable {a:Addr} {fs:List (Str × V)} {f:Str}
theorem zfF {b:Bool} (I:Inv X pins σ H s) (e:H a = some (.ins C dx fs)) (c:Cls X.K C) (n:NoAttr X.K C f) (l:fs.lookup f = some v)
 (h:∀ u s',Inv X pins σ H s'->RelV v u->Q u s'):wpAny (model X.prog X.w) A (getAttr (.ref a) f b) Q E s:=by
 obtain ⟨mA,O,r,_,_,_⟩:=zi9 I.hok e
 obtain ⟨u,hu,ru⟩:=RelO.some_of (v:=v) (o:=mA f) (by rw [← l];exact r f)
 exact get_map I.kIn O (c.get f) c.hd n hu (zkM ru) (h u _ (I.tok _) ru)
theorem zfu {Q:Unit->Shared->Prop} (I:Inv X pins σ H s) (e:H a = some (.ins C dx fs)) (c:Cls X.K C) (n:NoAttr X.K C f) (hl:fs.length < 1000) (ry:RelV y u)
 (h:∀ s',Inv X pins σ (upd H a (.ins C dx (z5 f y fs))) s'->Q () s'):wpAny (model X.prog X.w) A (setAttr (.ref a) f u) Q E s:=by
 obtain ⟨mA,O,r,wi,_,ho⟩:=zi9 I.hok e
 have hz:(fs.map (·.1)).length<=sizeLine:=by rw [Qh,sizeLine_eq];omega
 refine zmL I.kIn O c.sa c.po n.taker c.hd wi hz fun h' O' sb=>h _ ?_
 have hd:∃ o,h'.get? dx = some o:=let ⟨o,_,_,e',_⟩:=O'.ns;⟨o,e'⟩
 refine I.write (x:=a) (e:=dx) (by rw [e];exact True.intro) (.inr ho) (fun b q hb z=>(sb.2 b hb).trans z) hd ?_
 refine ⟨by rw [zl O.ne];exact ho,?_,O.ne,O'.obj,_,O'.ns,fun g=>?_,fun g hg=>?_⟩
 ·have:=zeV f y fs;omega
 ·show RelO ((z5 f y fs).lookup g) (if g = f then some u else mA g)
  rw [zeT]
  by_cases q:g = f
  ·rw [if_pos q,if_pos q];exact ry
  ·rw [if_neg q,if_neg q];exact r g
 ·by_cases q:g = f
  ·rw [q];exact (zer f y fs).1
  ·refine (zer f y fs).2 g (wi g fun z=>hg ?_)
   show (if g = f then some u else mA g) = none
   rw [if_neg q];exact z
theorem Inv.made (I:Inv X pins σ H s):Inv X pins σ (upd (upd H s.heap.objs.size (.own (s.heap.objs.size + 1))) (s.heap.objs.size + 1) (.ins C s.heap.objs.size []))
  { s with heap:=(s.heap.push PySem.W.emptyDict).push (PySem.W.instObj C s.heap.objs.size) }:=by
 have e1:(s.heap.push PySem.W.emptyDict).get? s.heap.objs.size = some PySem.W.emptyDict:=Ql s.heap rfl
 have e2:((s.heap.push PySem.W.emptyDict).push (PySem.W.instObj C s.heap.objs.size)).get? (s.heap.objs.size + 1) = some (PySem.W.instObj C s.heap.objs.size):=by
  have:=Ql (s.heap.push PySem.W.emptyDict) (o:=PySem.W.instObj C s.heap.objs.size) rfl
  rwa [Heap.size_push] at this
 have e3:(s.heap.push PySem.W.emptyDict).Ns s.heap.objs.size (fun _=>none):=⟨PySem.W.emptyDict,#[],_,e1,rfl,(fun e he=>absurd he (by simp)),fun _=>rfl⟩
 have I1:=I.laid (a:=s.heap.objs.size) (o:=.own (s.heap.objs.size + 1)) (h':=s.heap.push PySem.W.emptyDict) (t':=s.toks) (fun b u q=>Q2 _ q) (Q3 _) ⟨_,e1⟩
 refine I1.laid (a:=s.heap.objs.size + 1) (o:=.ins C s.heap.objs.size []) (t':=s.toks) (fun b u q=>Q2 _ q) (Nat.le_of_eq (Heap.size_push _ _)) ?_
 have ne:s.heap.objs.size ≠ s.heap.objs.size + 1:=Qk (Nat.lt_succ_self _)
 refine ⟨by rw [zl ne,yF],Nat.zero_le _,ne,e2,fun _=>none,(Heap.Ns1.of_empty e3).at fun o q=>Q2 _ q,fun _=>True.intro,fun y hy=>absurd rfl hy⟩
theorem zoa {env:Env} (hb:attributeBase e f env (eval e env) = eval e env)
 (h:wpAny (model prog w) A (eval e env) (fun o s₁=>wpAny (model prog w) A (getAttr o f true) Q E s₁) E s):wpAny (model prog w) A (eval (.Attribute e f pos) env) Q E s:=
 Attribute_any_ h (by rw [arm_eval_Attribute,hb])
end
noncomputable def zrk (K:Frag) (ta:TE) (f:Str):TE:=fun σ H Q=>ta σ H fun x H1=>∃ a C dx fs v,x = .ref a/\H1 a = some (.ins C dx fs)/\Cls K C/\NoAttr K C f/\fs.lookup f = some v/\Q v H1
noncomputable def zro (K:Frag) (ta tv:TE) (f:Str):TS:=fun D σ H=>tv σ H fun y H1=>ta σ H1 fun x H2=>∃ a C dx fs,x = .ref a/\H2 a = some (.ins C dx fs)/\Cls K C/\NoAttr K C f/\fs.length < 1000 /\
 D.nx σ (upd H2 a (.ins C dx (z5 f y fs)))
def zqb (X:Cx) (op:Operator) (rd:V->V->Hp->VK->Prop):Prop:=
 ∀ (pins:List (Addr × Obj)) (s:Shared) (σ:St) (H:Hp) (x y:V) (u v:Value) (Q:VK),Inv X pins σ H s->RelV x u->RelV y v->rd x y H Q->wpAny (model X.prog X.w) X.A (inplaceOp op u v) (EP X pins σ Q) X.xe s
noncomputable def zmN (K:Frag) (ta tv:TE) (rd:V->V->Hp->VK->Prop) (f:Str):TS:=fun D σ H=>ta σ H fun x H1=>∃ a C dx fs v,x = .ref a/\H1 a = some (.ins C dx fs)/\Cls K C/\NoAttr K C f/\fs.lookup f = some v /\
 tv σ H1 fun y H2=>rd v y H2 fun z H3=>∃ dx' fs',H3 a = some (.ins C dx' fs')/\fs'.length < 1000/\D.nx σ (upd H3 a (.ins C dx' (z5 f z fs')))
section
variable {o value:Expr} {f:Str} {tv:TE}
theorem zoR (he:PE X e ta) (hb:attributeBase e f X.env (eval e X.env) = eval e X.env):PE X (.Attribute e f pos) (zrk X.K ta f):=by
 intro pins s σ H Q I h
 refine zoa hb (thn (he pins s σ H _ I h) fun u s1 ⟨x,H1,I1,rx,a,C,dx,fs,v,ex,ea,c,n,l,q⟩=>?_)
 subst ex
 obtain rfl:u = Value.ref a:=rx
 exact zfF I1 ea c n l fun u' s2 I2 ru=>⟨v,H1,I2,ru,q⟩
theorem zoG (ha:PE X o ta) (hv:PE X value tv) (hs:swapsWith value (some (.Attribute o f pos')) pos.line X.env = pure false):PS X (.Assign [.Attribute o f pos'] value pos) (zro X.K ta tv f):=by
 intro pins s σ H D I h
 refine plainObj_wpAny_Assign_Attribute (thn (hv pins s σ H _ I h) fun u s1 ⟨y,H1,I1,ry,q⟩=>thn (ha pins s1 σ H1 _ I1 q) fun ov s2 ⟨x,H2,I2,rx,a,C,dx,fs,ex,ea,c,n,l,q2⟩=>?_) hs
 subst ex
 obtain rfl:ov = Value.ref a:=rx
 exact zfu I2 ea c n l ry fun s3 I3=>⟨σ,_,I3,q2⟩
theorem zkm {op:Operator} {rd:V->V->Hp->VK->Prop} (ha:PE X o ta) (hv:PE X value tv) (hop:zqb X op rd):PS X (.AugAssign (.Attribute o f tpos) op value pos) (zmN X.K ta tv rd f):=by
 intro pins s σ H D I h
 refine wpAny_AugAssign_AttributeAny (thn (ha pins s σ H _ I h) fun ov s1 ⟨x,H1,I1,rx,a,C,dx,fs,v,ex,ea,c,n,l,q⟩=>?_)
 subst ex
 obtain rfl:ov = Value.ref a:=rx
 refine zfF I1 ea c n l fun u s2 I2 ru=>thn (hv pins s2 σ H1 _ I2 q) fun w3 s3 ⟨y,H2,I3,ry,q3⟩=>thn (hop pins s3 σ H2 v y u w3 _ I3 ru ry q3) fun w4 s4 ⟨z,H3,I4,rz,dx',fs',ea',l',q4⟩=>?_
 exact zfu I4 ea' c n l' rz fun s5 I5=>⟨σ,_,I5,q4⟩
noncomputable def zru:V->V->Hp->VK->Prop:=fun x y H Q=>∃ i j,x = .int i/\y = .int j/\Q (.int (i + j)) H
theorem zpt:zqb X .Add zru:=by
 rintro pins s σ H x y u v Q I rx ry ⟨i,j,rfl,rfl,q⟩
 obtain ⟨t,rfl⟩:=(show ∃ t,u = Value.int i t from rx)
 obtain ⟨t',rfl⟩:=(show ∃ t',v = Value.int j t' from ry)
 exact PyProof.Rows.iadd_int ⟨.int (i + j),H,I.tok _,⟨_,rfl⟩,q⟩
end
section
variable {c:Value} {b:Bool}
inductive TyOf (K:Frag) (H:Hp):V->Value->Prop where
 | non:TyOf K H .non (.type "NoneType")
 | bl (x:Bool):TyOf K H (.bl x) (.type "bool")
 | int (i:Int):TyOf K H (.int i) (.type "int")
 | str (x:Str):TyOf K H (.str x) (.type "str")
 | flt (x:UInt64):TyOf K H (.flt x) (.type "float")
 | lst {a:Addr} {xs:List V} (e:H a = some (.lst xs)):TyOf K H (.ref a) (.type "list")
 | frz {a:Addr} {o:Obj} {xs:List V} (e:H a = some (.frz o (.lst xs))):TyOf K H (.ref a) (.type "list")
 | tup {a:Addr} {xs:List V} (e:H a = some (.tup xs)):TyOf K H (.ref a) (.type "tuple")
 | dK {a:Addr} {kvs:List (Key × V)} (e:H a = some (.dK kvs)):TyOf K H (.ref a) (.type "dict")
 | dT {a:Addr} {kvs:List (List Key × V)} (e:H a = some (.dT kvs)):TyOf K H (.ref a) (.type "dict")
 | ins {a C dx:Addr} {fs:List (Str × V)} (e:H a = some (.ins C dx fs)) (cl:Cls K C) (ha:PySem.W.findIn K (.ref C) "__class__" = some (some (.builtin "object.__class__")))
   (hn:PySem.W.specialIn K (.builtin "object.__class__") "__get__" = some (some (.builtin "getset_descriptor.__get__"))) (htk:PySem.W.takesIn K (.builtin "object.__class__") = some true)
   (hm:PySem.W.mroIn K C (.type "object") = some true):TyOf K H (.ref a) (.ref C)
end
structure Room (k:Nat) (A:Around):Prop where
 hd:A.handled = none
 dp:A.depth + 3 * k + 5 < recursionLimit
 un:A.units + 16 * k + 200 < cLine
theorem Room.mono {k:Nat} (r:Room k A) (h:j<=k):Room j A:=⟨r.hd,by have:=r.dp;omega,by have:=r.un;omega⟩
theorem Room.deeper {k:Nat} (r:Room (k + 1) A) (env:Env):Room k (A.deeper env):=
 ⟨r.hd,by have:=r.dp;show A.depth + 1 + 3 * k + 5 < _;omega,by have:=r.un;show A.units + 3 + 16 * k + 200 < _;omega⟩
theorem Room.in1 {k:Nat} (r:Room (k + 1) A):Room k A.in1:=
 ⟨r.hd,by have:=r.dp;show A.depth + 3 * k + 5 < _;omega,by have:=r.un;show A.units + 1 + 16 * k + 200 < _;omega⟩
theorem zjO:(A.under (.builtin "type.__call__" ⟨.ref C :: us,kw⟩)).depth = A.depth + 1:=by
 first | rfl | simp [Around.under,Code.weight,Code.isCreation,Code.isGuard,Code.isCaller,Code.frames,Code.isFrame,guardIds]
theorem zjN:(A.under (.builtin "type.__call__" ⟨.ref C :: us,kw⟩)).units = A.units + 1:=by
 first | rfl | simp [Around.under,Code.cUnits,Code.frames,Code.isFrame]
theorem Room.make {k:Nat} (r:Room (k + 1) A) (C:Addr) (us:List Value) (kw:List (Str × Value)):Room k (A.under (.builtin "type.__call__" ⟨.ref C :: us,kw⟩)):=
 ⟨r.hd,by have:=r.dp;rw [zjO];omega,by have:=r.un;rw [zjN];omega⟩
theorem Room.depth {k:Nat} (r:Room k A):A.depth < recursionLimit:=by have:=r.dp;omega
theorem Room.units {k:Nat} (r:Room k A):A.units + 64 < cLine:=by have:=r.un;omega
theorem Room.units0 {k:Nat} (r:Room k A):A.units < cLine:=by have:=r.un;omega
noncomputable def zrg:TA:=fun _ H Q=>Q [] H
noncomputable def zql (ta:TE) (tr:TA):TA:=fun σ H Q=>ta σ H fun x H1=>tr σ H1 fun xs H2=>Q (x :: xs) H2
section
variable {t:TA}
theorem zoV:PA X [] zrg:=fun _ _ _ _ H Q I h=>Calls.spliced_nil ⟨[],H,I,.nil,h⟩
theorem zna (ha:PE X e te) (hr:PA X es t) (hs:starEach (e :: es) X.env = (false,eval e X.env) :: starEach es X.env:=by rfl):PA X (e :: es) (zql te t):=by
 intro pos pins s σ H Q I h
 rw [hs]
 show wpAny _ _ (spliced ((false,eval e X.env) :: backTo pos (starEach es X.env))) _ _ s
 refine Calls.spliced_cons (thn (ha pins s σ H _ I h) fun u s1 ⟨x,H1,I1,r1,q1⟩=>?_)
 exact thn (hr pos pins s1 σ H1 _ I1 q1) fun us s2 ⟨xs,H2,I2,r2,q2⟩=>⟨x :: xs,H2,I2,.cons r1 r2,q2⟩
noncomputable def zrb (t:TA):TE:=fun σ H Q=>t σ H fun xs H1=>xs.length<=sizeLine/\∀ p,H1 p = none->Q (.ref p) (upd H1 p (.tup xs))
noncomputable def zrh (t:TA):TE:=fun σ H Q=>t σ H fun xs H1=>xs.length<=sizeLine/\∀ p,H1 p = none->Q (.ref p) (upd H1 p (.lst xs))
theorem zoK {x1} (h:PA X es t):PE X (.Tuple es x1 pos) (zrb t):=by
 intro pins s σ H Q I hq
 refine wpAny_Tuple_spliced (thn (h pos pins s σ H _ I hq) fun us s1 ⟨xs,H1,I1,r,z,q⟩=>⟨by rw [← r.length];exact z,?_⟩)
 have hf:H1 s1.heap.objs.size = none:=I1.hok.fresh (Q3 _)
 refine ⟨.ref s1.heap.objs.size,upd H1 s1.heap.objs.size (.tup xs),I1.laid (t':=s1.toks) (fun b u e=>Q2 _ e) (Q3 _) ?_,rfl,q _ hf⟩
 exact ⟨z,us,r,⟨_,Ql _ rfl,rfl,_,rfl⟩,NoDict.new⟩
theorem zoQ (h:PA X es t):PE X (.List es pos) (zrh t):=by
 intro pins s σ H Q I hq
 refine wpAny_List_spliced (thn (h pos pins s σ H _ I hq) fun us s1 ⟨xs,H1,I1,r,z,q⟩=>⟨by rw [← r.length];exact z,?_⟩)
 have hf:H1 s1.heap.objs.size = none:=I1.hok.fresh (Q3 _)
 refine ⟨.ref s1.heap.objs.size,upd H1 s1.heap.objs.size (.lst xs),I1.laid (t':=s1.toks) (fun b u e=>Q2 _ e) (Q3 _) ?_,rfl,q _ hf⟩
 exact ⟨z,us,0,r,Ql _ rfl⟩
end
noncomputable abbrev Sp:=List V->Hp->VK->XK->Prop
noncomputable abbrev CXT:=List Env->Hp->Shared->XK->Value->Shared->Prop
structure Env0 (P:Program) (w:World) (K:Frag) (mg:Str->Option Value) (base:Heap) (A:Around) (outer:List Env) (s:Shared) (H:Hp):Prop where
 frames:A.frames = some outer
 mod:Mod K mg base
 bs:∀ b o,base.get? b = some o->s.heap.get? b = some o/\H b = none
 bsz:base.objs.size<=s.heap.objs.size
 funs:s.heap.FunFrames base outer
 frf:∀ b ∈ frs outer,H b = none
 hok:HOk P w H s.heap
 bare:AllBare s.gens
def CE (outer:List Env) (P:Program) (w:World) (H:Hp) (s:Shared) (Q:VK) (u:Value) (s':Shared):Prop:=
 ∃ v H',s'.os = s.os/\AllBare s'.gens/\Un (frs outer) [] H H' s.heap s'.heap/\HOk P w H' s'.heap/\RelV v u/\Q v H'
def CR (CX:CXT) (outer:List Env) (P:Program) (w:World) (H:Hp) (s:Shared) (Q:VK) (E:XK) (r:Result) (s':Shared):Prop:=
 match r with
 | .ok (.ret u)=>CE outer P w H s Q u s'
 | .ok _=>False
 | .error e=>CX outer H s E e s'
structure FnOk (P:Program) (w:World) (K:Frag) (mg:Str->Option Value) (base:Heap) (CX:CXT) (k:Nat) (f:Addr) (fd:FuncData) (ps:List Str) (sp:Sp):Prop where
 len:∀ vs H Q E,sp vs H Q E->vs.length = ps.length
 run:∀ (A:Around) (outer:List Env) (s:Shared) (H:Hp) (args:Args) (us:List Value) (vs:List V) (Q:VK) (E:XK),Room k A->Env0 P w K mg base A outer s H->BindsTo s fd args (ps.zip us)->Vals vs us->sp vs H Q E->
  codeAny (model P w) A (.call (.ref f) args) (CR CX outer P w H s Q E) s
variable {CX:CXT} {fd:FuncData} {base:Heap} {ps:List Str} {sp:Sp} {mg:Str->Option Value}
theorem FnOk.mono {k:Nat} {f:Addr} (F:FnOk P w K mg base CX j f fd ps sp) (h:j<=k) :
  FnOk P w K mg base CX k f fd ps sp:=⟨F.len,fun A outer s H args us vs Q E hr=>F.run A outer s H args us vs Q E (hr.mono h)⟩
variable {outer:List Env}
theorem Env0.make (e:Env0 P w K mg base A outer s H) (C:Addr) (us:List Value) (kw:List (Str × Value)) :
  Env0 P w K mg base (A.under (.builtin "type.__call__" ⟨.ref C :: us,kw⟩)) outer s H:=⟨by first | exact e.frames | (simpa [Around.under,Code.envs,Code.isFrame,pushEnvs] using e.frames),e.mod,e.bs,e.bsz,e.funs,e.frf,e.hok,e.bare⟩
section
theorem Inv.env0 (I:Inv X pins σ H s):Env0 X.prog X.w X.K X.mg X.base X.A X.stack s H:=
 ⟨I.ok.frames,I.ok.mod,I.bs,Qj I.ok.bsz I.sz,I.stack,I.stkFree,I.hok,I.bare⟩
theorem Inv.after {Q:VK} (I:Inv X pins σ H s) (h:CE X.stack X.prog X.w H s Q u s'):EP X pins σ Q u s':=by
 obtain ⟨v,H',os,bare,un,hok,r,q⟩:=h
 obtain ⟨hh,g,d,t,os'⟩:=s'
 obtain rfl:os' = s.os:=os
 exact ⟨v,H',I.call (h':=hh) (g':=g) (d':=d) (t':=t) (ch:=[]) un hok bare (fun b z=>absurd z (by simp)),r,q⟩
end
noncomputable def zmn (sp:Sp) (dvs:List V) (E:XK) (t:TA):TE:=fun σ H Q=>t σ H fun vs H1=>sp (vs ++ dvs) H1 Q E
noncomputable def zqj (C:Addr) (sp:Sp) (dvs:List V) (E:XK) (t:TA):TE:=fun σ H Q=>t σ H fun vs H1=>∀ x dx,H1 x = none->H1 dx = none->dx ≠ x->
 sp (.ref x :: (vs ++ dvs)) (upd (upd H1 dx (.own x)) x (.ins C dx [])) (fun v H2=>v = .non/\Q (.ref x) H2) E
def Binds (K:Frag) (fd:FuncData) (ps:List Str) (ds:List Value):Prop:=
 ∀ (s:Shared) (us:List Value),K.In s.heap->(us ++ ds).length = ps.length->BindsTo s fd ⟨us,[]⟩ (ps.zip (us ++ ds))
theorem Binds.all (h:∀ us:List Value,us.length = ps.length->bindArgs fd ⟨us,[]⟩ = pure (ps.zip us)):Binds K fd ps []:=fun s us _ hl=>by
 rw [append_nil] at hl ⊢
 exact .of_eq (h us hl)
def Passes (CX:CXT) (X:Cx) (E:XK):Prop:=∀ (pins:List (Addr × Obj)) (σ:St) (H:Hp) (s:Shared) (e:Value) (s':Shared),Inv X pins σ H s->CX X.stack H s E e s'->X.xe e s'
variable {vs:List V} {apos:Pos} {m:Str}
section
variable {k:Nat} {f:Addr} {dvs:List V} {ds:List Value} {E:XK} {o:Expr} {t:TA}
theorem zos {Q:VK} (F:FnOk X.prog X.w X.K X.mg X.base CX k f fd ps sp) (hr:Room k X.A) (hb:Binds X.K fd ps ds) (hd:Vals dvs ds) (hx:Passes CX X E)
 (I:Inv X pins σ H s) (r:Vals vs us) (h:sp (vs ++ dvs) H Q E):wpAny (model X.prog X.w) X.A (call (.ref f) us) (EP X pins σ Q) X.xe s:=by
 have r2:Vals (vs ++ dvs) (us ++ ds):=r.append hd
 have hl:(us ++ ds).length = ps.length:=by rw [← r2.length];exact F.len _ _ _ _ h
 refine wpAny_call (codeAny_mono (F.run X.A X.stack s H ⟨us,[]⟩ (us ++ ds) (vs ++ dvs) Q E hr I.env0 (hb s us I.kIn hl) r2 h) fun r s' hq=>?_)
 cases r with
 | error e=>exact hx pins σ H s e s' I hq
 | ok fl=>
  cases fl with
  | ret u=>exact I.after hq
  | next=>exact False.elim hq
  | brk=>exact False.elim hq
  | cont=>exact False.elim hq
theorem zm8 (F:FnOk X.prog X.w X.K X.mg X.base CX k f fd ps sp) (hr:Room k X.A) (hg:Gl X x) (hm:X.mg x = some (.ref f)) (hk:PySem.W.keepIn X.K (.ref f) = true) (hb:Binds X.K fd ps ds) (hd:Vals dvs ds) (hx:Passes CX X E)
  (ha:PA X (e :: es) t) (hdb:(x == ("__debug__":Str)) = false:=by decide) (he:starEach (e :: es) X.env = (false,eval e X.env) :: starEach es X.env:=by rfl) (hpl:(backTo pos (starEach es X.env)).any (·.1) = false:=by rfl) :
  PE X (.Call (.Name x p) (e :: es) [] pos) (zmn sp dvs E t):=by
 intro pins s σ H Q I h
 refine wpAny_Call_Name_kw (zgj I hg hm ?_ hdb)
 refine PySem.W.callWith_K (h₀:=X.base) I.ok.mod.kin hk (thn (ha pos pins s σ H _ I h) fun us s1 ⟨vs,H1,I1,r,q⟩=>⟨I1.kIn,?_⟩) he hpl
 exact zos F hr hb hd hx I1 r q
structure Mk (K:Frag) (C f:Addr):Prop where
 makes:PySem.W.makesIn K C = true
 init:PySem.W.findIn K (.ref C) "__init__" = some (some (.ref f))
 fn:PySem.W.isFn K (.ref f) = true
 kp:PySem.W.keepIn K (.ref C) = true
theorem zls {Q:VK} (M:Mk X.K C f) (F:FnOk X.prog X.w X.K X.mg X.base CX k f fd ps sp) (hr:Room (k + 1) X.A) (hb:Binds X.K fd ps ds) (hd:Vals dvs ds)
 (hx:Passes CX X E) (I:Inv X pins σ H s) (r:Vals vs us)
 (h:∀ x dx,H x = none->H dx = none->dx ≠ x->sp (.ref x :: (vs ++ dvs)) (upd (upd H dx (.own x)) x (.ins C dx [])) (fun v H2=>v = .non/\Q (.ref x) H2) E) :
  wpAny (model X.prog X.w) X.A (call (.ref C) us) (EP X pins σ Q) X.xe s:=by
 have hq:=h (s.heap.objs.size + 1) s.heap.objs.size (I.hok.fresh (Nat.le_succ _)) (I.hok.fresh (Q3 _)) (Qk (Nat.lt_succ_self _))
 have I2:=Inv.made (C:=C) I
 have r2:Vals (V.ref (s.heap.objs.size + 1) :: (vs ++ dvs)) (Value.ref (s.heap.objs.size + 1) :: (us ++ ds)):=.cons rfl (r.append hd)
 have hl:(Value.ref (s.heap.objs.size + 1) :: us ++ ds).length = ps.length:=by
  have e:=r2.length
  rw [F.len _ _ _ _ hq] at e
  exact e.symm
 refine wpAny_call (zlM (f:=f) I.kIn M.makes M.init (beq_iff_eq.mp M.fn) (codeAny_mono (F.run _ X.stack _ _ ⟨Value.ref (s.heap.objs.size + 1) :: us,[]⟩ (Value.ref (s.heap.objs.size + 1) :: (us ++ ds)) _ _ E (hr.make C us [])
  (I2.env0.make C us []) (hb _ (Value.ref (s.heap.objs.size + 1) :: us) I2.kIn hl) r2 hq) fun r s' hq'=>?_))
 cases r with
 | error e=>exact hx pins σ _ _ e s' I2 hq'
 | ok fl=>
  cases fl with
  | ret u=>
   obtain ⟨v,H',I3,rv,ev,q3⟩:=I2.after hq'
   subst ev
   exact ⟨rv,⟨V.ref (s.heap.objs.size + 1),H',I3,rfl,q3⟩⟩
  | next=>exact False.elim hq'
  | brk=>exact False.elim hq'
  | cont=>exact False.elim hq'
theorem zm4 (M:Mk X.K C f) (F:FnOk X.prog X.w X.K X.mg X.base CX k f fd ps sp) (hr:Room (k + 1) X.A) (hg:Gl X x) (hm:X.mg x = some (.ref C)) (hb:Binds X.K fd ps ds) (hd:Vals dvs ds) (hx:Passes CX X E)
  (ha:PA X (e :: es) t) (hdb:(x == ("__debug__":Str)) = false:=by decide) (he:starEach (e :: es) X.env = (false,eval e X.env) :: starEach es X.env:=by rfl) (hpl:(backTo pos (starEach es X.env)).any (·.1) = false:=by rfl) :
  PE X (.Call (.Name x p) (e :: es) [] pos) (zqj C sp dvs E t):=by
 intro pins s σ H Q I h
 refine wpAny_Call_Name_kw (zgj I hg hm ?_ hdb)
 refine PySem.W.callWith_K (h₀:=X.base) I.ok.mod.kin M.kp (thn (ha pos pins s σ H _ I h) fun us s1 ⟨vs,H1,I1,r,q⟩=>⟨I1.kIn,?_⟩) he hpl
 exact zls M F hr hb hd hx I1 r q
end
section
variable {k:Nat} {f:Addr} {ks:List Str} {E:XK} {kpos:Pos} {o:Expr} {kws:List Keyword} {t tk:TA} {nm:Option Str}
structure KBinds (K:Frag) (fd:FuncData) (ps ks:List Str) (g:List Value->List Value->List Value) (gV:List V->List V->List V):Prop where
 to:∀ (s:Shared) (us ws:List Value),K.In s.heap->(g us ws).length = ps.length->BindsTo s fd ⟨us,ks.zip ws⟩ (ps.zip (g us ws))
 rel:∀ {vs:List V} {us:List Value} {zs:List V} {ws:List Value},Vals vs us->Vals zs ws->Vals (gV vs zs) (g us ws)
end
structure FnScope (N P:List Str) (sc:Scope):Prop where
 kind:sc.kind = .function
 co:sc.isCoroutine = false
 gen:sc.isGenerator = false
 nd:N.Nodup
 pre:N.take P.length = P
 par:∀ x ∈ P,sc.names.lookup x = some .local\/sc.names.lookup x = some .cell
 nofree:∀ y ∈ sc.names,y.2 ≠ .free
theorem zgR {kindOf:Str->Option NameKind} {x:Str}:∀ {binds:List (Str × Value)} {m:Str->Option Value},(∀ v,(x,v) ∉ binds)->bindL kindOf binds m x = m x
 | [],_,_=>rfl
 | (n,v) :: r,m,h=>by
  unfold bindL
  rw [zgR fun w hw=>h w (mem_cons_of_mem _ hw)]
  split
  ·have:x ≠ n:=by rintro rfl;exact h v mem_cons_self
   simp [this]
  ·rfl
theorem zgT {kindOf:Str->Option NameKind} {x:Str}:∀ {binds:List (Str × Value)} {m:Str->Option Value},(∀ v,(x,v) ∉ binds)->bindC kindOf binds m x = m x
 | [],_,_=>rfl
 | (n,v) :: r,m,h=>by
  unfold bindC
  rw [zgT fun w hw=>h w (mem_cons_of_mem _ hw)]
  split
  ·rfl
  ·have:x ≠ n:=by rintro rfl;exact h v mem_cons_self
   simp [this]
theorem zgS {kindOf:Str->Option NameKind} {x:Str} {v:Value}:∀ {P:List Str} {vs:List Value} {i:Nat} {m:Str->Option Value},P.Nodup->P[i]? = some x->vs[i]? = some v->kindOf x = some .local->
  bindL kindOf (P.zip vs) m x = some v
 | [],_,_,_,_,h,_,_=>by simp at h
 | _ :: _,[],_,_,_,_,h,_=>by simp at h
 | p :: P,w :: vs,0,m,nd,h1,h2,hk=>by
  simp at h1 h2;subst h1;subst h2
  show bindL kindOf ((p,w) :: P.zip vs) m p = _
  unfold bindL
  rw [zgR fun v hv=>(nodup_cons.mp nd).1 (of_mem_zip hv).1,if_pos hk]
  simp
 | p :: P,w :: vs,i + 1,m,nd,h1,h2,hk=>by
  show bindL kindOf ((p,w) :: P.zip vs) m x = _
  unfold bindL
  exact zgS (i:=i) (nodup_cons.mp nd).2 (by simpa using h1) (by simpa using h2) hk
theorem zgU {kindOf:Str->Option NameKind} {x:Str} {v:Value}:∀ {P:List Str} {vs:List Value} {i:Nat} {m:Str->Option Value},P.Nodup->P[i]? = some x->vs[i]? = some v->kindOf x ≠ some .local->
  bindC kindOf (P.zip vs) m x = some v
 | [],_,_,_,_,h,_,_=>by simp at h
 | _ :: _,[],_,_,_,_,h,_=>by simp at h
 | p :: P,w :: vs,0,m,nd,h1,h2,hk=>by
  simp at h1 h2;subst h1;subst h2
  show bindC kindOf ((p,w) :: P.zip vs) m p = _
  unfold bindC
  rw [zgT fun v hv=>(nodup_cons.mp nd).1 (of_mem_zip hv).1,if_neg hk]
  simp
 | p :: P,w :: vs,i + 1,m,nd,h1,h2,hk=>by
  show bindC kindOf ((p,w) :: P.zip vs) m x = _
  unfold bindC
  exact zgU (i:=i) (nodup_cons.mp nd).2 (by simpa using h1) (by simpa using h2) hk
noncomputable def start (N:List Str) (vs:List V):St:=vs.map some ++ List.replicate (N.length - vs.length) none
noncomputable def zcf (CX:CXT) (P:Program) (w:World) (K:Frag) (mg:Str->Option Value) (base:Heap) (N:List Str) (qual:Str) (scope:Scope) (f:Addr) (cd:Value) (A:Around) (outer:List Env) (s:Shared) (H:Hp) (E:XK):Cx where
 prog:=P
 w:=w
 K:=K
 mg:=mg
 base:=base
 A:=A.deeper (envOfC qual scope s.heap.objs.size f cd)
 N:=N
 s₀:=s
 H₀:=H
 env:=envOfC qual scope s.heap.objs.size f cd
 outer:=outer
 stack:=envOfC qual scope s.heap.objs.size f cd :: outer
 ex:=[]
 calm:=true
 fn:=fun _=>true
 pn:=[]
 xe:=fun e s'=>wpAny (model P w) (A.deeper (envOfC qual scope s.heap.objs.size f cd)) (leaving (envOfC qual scope s.heap.objs.size f cd) e) (fun _ s''=>CX outer H s E e s'') (fun e' s''=>CX outer H s E e' s'') s'
theorem zin {sc:Scope} (h:sc.names.lookup x = some .cell):∃ c,(cellsFrom n sc.names []).lookup x = some c:=by
 have q:=PySem.W.cellsFrom_some sc.names n [] (.inl h)
 exact Option.isSome_iff_exists.mp q
variable {scope:Scope} {qual:Str}
theorem zkK {f:Addr} {cd:Value} {s1:Shared} {E:XK} 
 (S:FnScope N ps scope) (hd:A.handled = none) (e0:Env0 P w K mg base A outer s H) (hl:vs.length = ps.length) (r:Vals vs us)
 (x:InCallC s s.heap.objs.size (bindL (envOfC qual scope s.heap.objs.size f cd).kindOf (ps.zip us) fun _=>none) (cellsFrom (s.heap.objs.size + 1) scope.names []) (bindC (envOfC qual scope s.heap.objs.size f cd).kindOf (ps.zip us) fun _=>none) s1) :
  Inv (zcf CX P w K mg base N qual scope f cd A outer s H E) [] (start N vs) H s1:=by
 have hpl:ps.length<=N.length:=by have:=congrArg List.length S.pre;rw [Qr] at this;omega
 obtain ⟨h1,tk,rfl,hk⟩:=x.done
 have noA:∀ b:Addr,b ∉ (zcf CX P w K mg base N qual scope f cd A outer s H E).ex:=fun b z=>absurd (show b ∈ ([]:List Addr) from z) (by simp)
 refine ⟨⟨e0.mod,S.kind,rfl,rfl,Q3 _,fun y z c h1 h2=>?_,fun y hy=>?_,fun y c _ h=>?_,fun _=>hd,Around.frames_deeper e0.frames,.inr ⟨rfl,rfl⟩,fun b z=>absurd z (noA b),e0.bs,e0.bsz,fun b _ _=>noA b,fun b z=>absurd z (noA b),e0.funs,e0.frf⟩,
  rfl,e0.bare,Un.kept hk,⟨_,x.toInCall.ns,fun i y v h1 h2 h3=>?_⟩,fun y c h=>⟨_,x.cell y c h⟩,e0.hok.fresh (Q3 _),fun y c h=>?_,fun p hp=>absurd (show p ∈ ([]:List (Addr × Obj)) from hp) (by simp),e0.hok.kept hk,?_⟩
 ·exact name_of_addr x.apart (PySem.mem_of_lookup h1) (PySem.mem_of_lookup h2)
 ·have hy:scope.names.lookup y = some .cell\/scope.names.lookup y = some .free:=hy
  rcases hy with hy | hy
  ·exact zin hy
  ·exact absurd rfl (S.nofree _ (PySem.mem_of_lookup hy))
 ·exact Nat.le_of_lt (x.above y c (PySem.mem_of_lookup h))
 ·have hi:i < vs.length:=by
   unfold start at h2
   by_cases hi:i < vs.length
   ·exact hi
   ·rw [Q8 (by simpa using hi)] at h2
    rw [List.getElem?_replicate] at h2
    split at h2 <;> cases h2
  have ha:vs[i]? = some v:=by
   unfold start at h2
   rw [Q6 (by simpa using hi),Qb] at h2
   cases e:vs[i]? with
   | none=>rw [e] at h2;cases h2
   | some a=>rw [e] at h2;cases h2;rfl
  obtain ⟨u,hu,rv⟩:=r.get ha
  have hp:ps[i]? = some y:=by
   rw [← S.pre,List.getElem?_take_of_lt (by omega)];exact h1
  have ndP:ps.Nodup:=by rw [← S.pre];exact S.nd.sublist (List.take_sublist _ _)
  refine ⟨u,rv,?_⟩
  rcases S.par y (Qa hp) with k | k
  ·exact .inl ⟨k,zgS ndP hp hu k⟩
  ·obtain ⟨c,e⟩:=zin (n:=s.heap.objs.size + 1) k
   refine .inr ⟨.inl k,c,e,?_⟩
   have q:=x.cell y c e
   rw [zgU ndP hp hu (by show scope.names.lookup y ≠ _;rw [k];decide)] at q
   exact q
 ·exact e0.hok.fresh (Nat.le_of_lt (x.above y c (PySem.mem_of_lookup h)))
 ·unfold start
  show _ = N.length
  rw [Qn,Qh,length_replicate]
  omega
theorem zq2 {k:Nat} {f:Addr} {params:Arguments} {dV kV doc pm cdv ct oc:Value} {an od:Option Addr}
 {osl:Array (Option Value)} (lk:K.lookup f = some ⟨oc,od,.func (PySem.W.fnOf name qual params body scope dV kV doc pm an cdv ct),osl⟩) (hcd:PySem.W.codeIn K cdv qual = true) (S:FnScope N ps scope)
 (len:∀ vs H Q E,sp vs H Q E->vs.length = ps.length)
 (hbody:∀ (A:Around) (outer:List Env) (s:Shared) (H:Hp) (vs:List V) (Q:VK) (E:XK),Room k (A.deeper (envOfC qual scope s.heap.objs.size f cdv))->sp vs H Q E->
 ∃ t,PSs (zcf CX P w K mg base N qual scope f cdv A outer s H E) body t/\t { nx:=fun _ H'=>Q .non H',rt:=Q } (start N vs) H) :
  FnOk P w K mg base CX (k + 1) f (PySem.W.fnOf name qual params body scope dV kV doc pm an cdv ct) ps sp:=by
 refine ⟨len,fun A outer s H args us vs Q E hr e0 hb r hsp=>?_⟩
 have hl:=len _ _ _ _ hsp
 have KX:K.In s.heap:=e0.mod.kin.keeps fun b o e=>(e0.bs b o e).1
 have lim:s.heap.NoLimit:=e0.mod.nolimit.keeps fun b o e=>(e0.bs b o e).1
 have hkind:∀ y ∈ ps.zip us,scope.names.lookup y.1 = some .local\/(scope.names.lookup y.1 = some .cell/\((cellsFrom (s.heap.objs.size + 1) scope.names []).lookup y.1).isSome = true):=fun ⟨n,v⟩ hy=>by
  rcases S.par n (of_mem_zip hy).1 with q | q
  ·exact .inl q
  ·exact .inr ⟨q,PySem.W.cellsFrom_some _ _ _ (.inl q)⟩
 refine codeAny_call_function hr.depth (KX _ _ lk) rfl S.co S.gen rfl (PySem.W.codeRec_of KX hcd) (hb _ _ _ _ ?_)
 refine wpAny_newFunctionEnv_cells S.kind hkind fun env he s1 x=>?_
 subst he
 refine ⟨lim.keeps x.toInCall.keep,codeAny_func ?_⟩
 obtain ⟨t,ht,hq⟩:=hbody A outer s H vs Q E (hr.deeper _) hsp
 have I:Inv (zcf CX P w K mg base N qual scope f cdv A outer s H E) [] (start N vs) H s1:=zkK S hr.hd e0 hl r x
 refine Qg (ht [] s1 (start N vs) H _ I hq) (fun fl s' hs=>?_) fun e s' hs=>hs
 have fin:∀ {σ':St} {H':Hp} {v:V} {u:Value},Inv (zcf CX P w K mg base N qual scope f cdv A outer s H E) [] σ' H' s'->RelV v u->Q v H'->CE outer P w H s Q u s':=
  fun {σ' H' v u} J rv q=>⟨v,H',J.os,J.bare,J.base,J.hok,rv,q⟩
 cases fl with
 | ret u=>
  obtain ⟨v,σ',H',J,rv,q⟩:=hs
  exact fin J rv q
 | next=>
  obtain ⟨σ',H',J,q⟩:=hs
  exact fin (v:=V.non) (u:=Value.none) J rfl q
 | brk=>
  obtain ⟨_,_,_,q⟩:=hs
  exact False.elim q
 | cont=>
  obtain ⟨_,_,_,q⟩:=hs
  exact False.elim q
section
variable {t:TA} {id T:String} {r:List V->Hp->VK->Prop}
noncomputable def tCB (r:List V->Hp->VK->Prop) (t:TA):TE:=fun σ H Q=>t σ H fun vs H1=>r vs H1 Q
theorem zlE (hc:CallR X (.builtin id) r) (hg:Gl X x) (hm:X.mg x = none) (hv:bootBuiltins x = some (.builtin id)) (ha:PA X (e :: es) t) (hn:x ≠ "__name__":=by decide) (hdb:(x == ("__debug__":Str)) = false:=by decide)
  (he:starEach (e :: es) X.env = (false,eval e X.env) :: starEach es X.env:=by rfl) (hpl:(backTo pos (starEach es X.env)).any (·.1) = false:=by rfl):PE X (.Call (.Name x p) (e :: es) [] pos) (tCB r t):=by
 intro pins s σ H Q I h
 refine wpAny_Call_Name_kw (zeq I hg hm hv ?_ hn hdb)
 exact PyProof.Rows.callWith_builtin1 (thn (ha pos pins s σ H _ I h) fun us s1 ⟨vs,H1,I1,r1,q1⟩=>hc pins s1 σ H1 vs us Q I1 r1 q1) he hpl
theorem zkt (hc:CallR X (.type T) r) (hg:Gl X x) (hm:X.mg x = none) (hv:bootBuiltins x = some (.type T)) (ha:PA X (e :: es) t) (hn:x ≠ "__name__":=by decide) (hdb:(x == ("__debug__":Str)) = false:=by decide)
  (he:starEach (e :: es) X.env = (false,eval e X.env) :: starEach es X.env:=by rfl) (hpl:(backTo pos (starEach es X.env)).any (·.1) = false:=by rfl):PE X (.Call (.Name x p) (e :: es) [] pos) (tCB r t):=by
 intro pins s σ H Q I h
 refine wpAny_Call_Name_kw (zeq I hg hm hv ?_ hn hdb)
 exact PyProof.Rows.callWith_type1 (thn (ha pos pins s σ H _ I h) fun us s1 ⟨vs,H1,I1,r1,q1⟩=>hc pins s1 σ H1 vs us Q I1 r1 q1) he hpl
end
end L2
namespace HT
open PySem PyProof.Rows
variable {sl t:Addr} {vl vu:Value} {Q:Value->Shared->Prop}
section
variable {prog:Program} {w:World} {A:Around} {E:Value->Shared->Prop} {s:Shared}
theorem zn8 {b:Addr} {vs ws:List Value} (ht:IsTup s.heap t vs.toArray) (hb:IsTup s.heap b ws.toArray) (hv:vs ≠ [])
 (h1:ws = []->Q (.ref t) s) (h2:ws ≠ []->Q (.ref s.heap.objs.size) { s with heap:=s.heap.push { cls:=.type "tuple",data:=.seq (vs ++ ws).toArray } })
 (hsz:vs.length + ws.length<=sizeLine):wpAny (model prog w) A (binaryOp .Add (.ref t) (.ref b)) Q E s:=by
 obtain ⟨⟨cls,dd,data,sl⟩,ho,hc,n,hd⟩:=id ht
 obtain ⟨⟨cls2,dd2,data2,sl2⟩,ho2,hc2,n2,hd2⟩:=id hb
 simp only at hc hd hc2 hd2
 subst hc hd hc2 hd2
 have e:vs.toArray ++ ws.toArray = (vs ++ ws).toArray:=by simp
 by_cases hw:ws = []
 ·exact concat_meets ⟨_,ho,rfl⟩ ⟨_,ho2,rfl⟩ noFill_tuple_add seq_tuple_add PySem.F.slot_tuple_add PySem.F.entry_tuple_add (PySem.F.args_tuple_add_2 _ _)
   (tuple_addW1 t b vs.toArray ws.toArray n n2 dd dd2 sl sl2 (by simpa using hv) (by simp [hw])) ⟨ho,ho2,h1 hw⟩
 ·refine concat_meets ⟨_,ho,rfl⟩ ⟨_,ho2,rfl⟩ noFill_tuple_add seq_tuple_add PySem.F.slot_tuple_add PySem.F.entry_tuple_add (PySem.F.args_tuple_add_2 _ _)
   (tuple_addW2 t b vs.toArray ws.toArray n n2 dd dd2 sl sl2 (by simpa using hv) (by simpa using hw) (by rw [Qi,Qi];exact hsz)) ⟨ho,ho2,?_⟩
  rw [e]
  exact h2 hw
noncomputable def sIx (n d:Nat):Option Int->Nat
 | none=>d
 | some v=>if v < 0 then (v + (n:Int)).toNat else min v.toNat n
theorem zhD (n d:Nat):sIx n d none = d:=rfl
theorem ziV (n d k:Nat):sIx n d (some (k:Int)) = min k n:=by
 show (if (k:Int) < 0 then ((k:Int) + (n:Int)).toNat else min (k:Int).toNat n) = min k n
 rw [if_neg (by omega),Int.toNat_natCast]
theorem zoq (n d:Nat) (hd:d<=n) (o:Option Int):sIx n d o<=n:=by
 cases o with
 | none=>exact hd
 | some v=>
  show (if v < 0 then (v + (n:Int)).toNat else min v.toNat n)<=n
  by_cases hv:v < 0
  ·rw [if_pos hv];omega
  ·rw [if_neg hv];exact Nat.min_le_right _ _
theorem zjp (v:Int) (n d:Nat):(if v < 0 then max (v + (n:Int)) 0 else min v (n:Int)) = ((sIx n d (some v):Nat):Int):=by
 show (if v < 0 then max (v + (n:Int)) 0 else min v (n:Int)) = (((if v < 0 then (v + (n:Int)).toNat else min v.toNat n):Nat):Int)
 by_cases hv:v < 0
 ·simp only [if_pos hv];omega
 ·simp only [if_neg hv];omega
theorem zj4 (lo hi:Option Int) (n:Nat):Builtin.Slice.sliceAdjust lo hi 1 (n:Int) = (((sIx n 0 lo:Nat):Int),((sIx n n hi:Nat):Int)):=by
 have h1:¬ ((1:Int) < 0):=by omega
 unfold Builtin.Slice.sliceAdjust
 simp only [h1,if_false]
 refine Prod.ext ?_ ?_
 ·cases lo with
  | none=>rfl
  | some v=>exact zjp v n 0
 ·cases hi with
  | none=>rfl
  | some v=>exact zjp v n n
theorem zjI (i j:Nat):Builtin.Slice.slicePlaces (i:Int) (j:Int) 1 = j - i:=by
 unfold Builtin.Slice.slicePlaces
 have h1:(1:Int) > 0:=by omega
 simp only [h1,if_true,Int.ediv_one]
 split <;> omega
theorem zft {v:Value} {o:Option Int} {Q:Option Int->Shared->Prop} (p:IsPart v o) (h:Q o s):wpAny (model prog w) A (Builtin.Slice.slicePartIndex v) Q E s:=by
 cases p with
 | none=>exact slicePart_none h
 | int i t=>exact slicePart_int h
theorem zcR {lo hi:Option Int} {n:Nat} {Q:Int × Int × Nat->Shared->Prop} (hs:s.heap.IsSliceOf sl vl vu .none) (pl:IsPart vl lo) (pu:IsPart vu hi)
 (h:Q (((sIx n 0 lo:Nat):Int),1,sIx n n hi - sIx n 0 lo) s):wpAny (model prog w) A (Builtin.Slice.sliceApplied (.ref sl) (pure (n:Int))) Q E s:=by
 obtain ⟨os,hos,hcs,hds⟩:=id hs
 unfold Builtin.Slice.sliceApplied Builtin.Slice.sliceFields
 refine Q1 (Q1 (wpAny_field hos hds (x:=vl) rfl (Q1 (wpAny_field hos hds (x:=vu) rfl (Q1 (wpAny_field hos hds (x:=.none) rfl (Qf ?_)))))))
 refine Q1 (slicePart_none ?_)
 show wpAny _ _ (if ((1:Int) == 0) = true then _ else _) _ _ s
 rw [if_neg (by decide)]
 refine Q1 (zft pl (Q1 (zft pu (Q1 (Qf ?_)))))
 show wpAny _ _ (match Builtin.Slice.sliceAdjust lo hi 1 (n:Int) with | (lo,hi)=>pure (lo,(1:Int),Builtin.Slice.slicePlaces lo hi 1)) _ _ s
 rw [zj4 lo hi n]
 show wpAny _ _ (pure (((sIx n 0 lo:Nat):Int),(1:Int),Builtin.Slice.slicePlaces ((sIx n 0 lo:Nat):Int) ((sIx n n hi:Nat):Int) 1)) _ _ s
 rw [zjI]
 exact Qf h
theorem zlA (xs:Array Value) (i k:Nat):((List.range k).filterMap fun (m:Nat)=>xs[((i:Int) + (m:Int) * 1).toNat]?).toArray = ((xs.toList.drop i).take k).toArray:=by
 have e:(fun (m:Nat)=>xs[((i:Int) + (m:Int) * 1).toNat]?) = fun m=>xs[i + m]?:=by
  funext m
  have:((i:Int) + (m:Int) * 1).toNat = i + m:=by omega
  rw [this]
 rw [e]
 have:=pick_run xs i k
 rw [List.filterMap_map] at this
 have e2:((fun x=>xs[x]?) ∘ fun x=>i + x) = fun m=>xs[i + m]?:=rfl
 rw [e2] at this
 rw [this]
theorem zeR {items:Array Value} {lo hi:Option Int} (ht:IsTup s.heap t items) (hs:s.heap.IsSliceOf sl vl vu .none) (pl:IsPart vl lo) (pu:IsPart vu hi)
 (hw:¬ (sIx items.size 0 lo = 0/\sIx items.size items.size hi = items.size))
 (h:Q (.ref s.heap.objs.size) { s with heap:=s.heap.push { cls:=.type "tuple",data:=.seq ((items.toList.drop (sIx items.size 0 lo)).take (sIx items.size items.size hi - sIx items.size 0 lo)).toArray } })
 (hsz:items.size<=sizeLine):wpAny (model prog w) A (getItem (.ref t) (.ref sl)) Q E s:=by
 have htake:sizeOk (.seq ((items.toList.drop (sIx items.size 0 lo)).take (sIx items.size items.size hi - sIx items.size 0 lo)).toArray):=by
  show ((items.toList.drop (sIx items.size 0 lo)).take (sIx items.size items.size hi - sIx items.size 0 lo)).toArray.size<=sizeLine
  rw [Qi,Qr,length_drop,Array.length_toList]
  omega
 have hj:sIx items.size items.size hi<=items.size:=zoq _ _ (Q3 _) hi
 obtain ⟨os,hos,hcs,hds⟩:=id hs
 have hTs:s.TypeIs (.ref sl) "slice":=⟨os,hos,hcs⟩
 unfold getItem
 try with_reducible refine wpAny_holding ?_
 first | refine Q1 (Qf ?_) | skip
 refine Q1 (wpAny_sequenceKey ht.typeIs (by decide) ?_)
 refine Q1 (wpAny_callSpecial?_slot (name:=Str.ofString "__getitem__") ht.typeIs PyProof.Rows.slot_tuple_getitem
  (wpAny_call_entry PyProof.Rows.slot_tuple_getitem ht.typeIs entry_tuple_getitem ?_ (args_tuple_getitem _ _)))
 show wpAny _ _ (Builtin.Tuple.tupleItemsOf (.ref t) >>= _) _ _ s
 refine Q1 (tupleItemsOf_ ht ?_)
 refine Q1 (wpAny_typeOf hTs ?_)
 rw [if_pos (by decide)]
 refine Q1 (zcR hs pl pu ?_)
 have hno:¬ ((((sIx items.size 0 lo:Nat):Int) == 0 && (1:Int) == 1 && (sIx items.size items.size hi - sIx items.size 0 lo) == items.size) = true):=by
  intro q
  rw [Qs,Qs] at q
  have q1:((sIx items.size 0 lo:Nat):Int) = 0:=eq_of_beq q.1.1
  have q2:sIx items.size items.size hi - sIx items.size 0 lo = items.size:=eq_of_beq q.2
  exact hw ⟨by omega,by omega⟩
 show wpAny _ _ (if (((sIx items.size 0 lo:Nat):Int) == 0 && (1:Int) == 1 && (sIx items.size items.size hi - sIx items.size 0 lo) == items.size) = true then _ else _) _ _ s
 rw [if_neg hno,zlA]
 first
  | exact Q1 (m:=Builtin.Tuple.tupleExact _) (wpAny_newObj_type (Qf ⟨_,rfl,Qf h⟩) htake)
  | exact Q1 (m:=Builtin.Tuple.tupleExact _) (wpAny_newObj_type (Q1 (Qf (Qf ⟨_,rfl,Qf h⟩))) htake)
  | exact Q1 (Q1 (m:=Builtin.Tuple.tupleExact _) (wpAny_newObj_type (Qf (Qf ⟨_,rfl,Qf h⟩)) htake))
  | exact Q1 (Q1 (m:=Builtin.Tuple.tupleExact _) (wpAny_newObj_type (Qf ⟨_,rfl,Qf h⟩) htake))
end
end HT
namespace L2
open PySem PySem.Spec PyProof.Rows
noncomputable abbrev TO:=St->Hp->(Option Int->Hp->Prop)->Prop
def PO (X:Cx) (e:Option Expr) (t:TO):Prop:=
 ∀ (pins:List (Addr × Obj)) (s:Shared) (σ:St) (H:Hp) (Q:Option Int->Hp->Prop),Inv X pins σ H s->t σ H Q->
  wpAny (model X.prog X.w) X.A (evalPart e X.env) (fun u s'=>∃ o H',Inv X pins σ H' s'/\IsPart u o/\Q o H') X.xe s
noncomputable def zmI:TO:=fun _ H Q=>Q none H
noncomputable def zqg (t:TE):TO:=fun σ H Q=>t σ H fun x H1=>∃ i,x = .int i/\Q (some i) H1
variable {X:Cx} {e:Expr} {xs:List V} {us:List Value} {pos:Pos}
section
variable {te:TE} {lo hi:Option Expr} {tl th:TO} {p2:Pos}
theorem zm2:PO X none zmI:=by
 intro pins s σ H Q I h
 rw [evalPart_none]
 exact Qf ⟨none,H,I,.none,h⟩
theorem zm1 (h:PE X e te):PO X (some e) (zqg te):=by
 intro pins s σ H Q I hw
 rw [evalPart_some]
 refine thn (h pins s σ H _ I hw) fun u s1 ⟨x,H1,I1,r1,q1⟩=>?_
 obtain ⟨i,rfl,q⟩:=q1
 obtain ⟨t,rfl⟩:=r1
 exact ⟨some i,H1,I1,.int i t,q⟩
def SlR (X:Cx) (r:V->Option Int->Option Int->Hp->VK->Prop):Prop:=
 ∀ (pins:List (Addr × Obj)) (s:Shared) (σ:St) (H:Hp) (x:V) (v vl vu:Value) (lo hi:Option Int) (sl:Addr) (Q:VK),Inv X pins σ H s->RelV x v->s.heap.IsSliceOf sl vl vu .none->IsPart vl lo->IsPart vu hi->r x lo hi H Q->
  ∃ T id,typeLookup (.type T) "__getitem__" = pure (some (.builtin id))/\s.TypeIs v T/\wpAny (model X.prog X.w) X.A (getItem v (.ref sl)) (EP X pins σ Q) X.xe s
noncomputable def tSl (r:V->Option Int->Option Int->Hp->VK->Prop) (te:TE) (tl th:TO):TE:=fun σ H Q=>te σ H fun x H1=>tl σ H1 fun l H2=>th σ H2 fun u H3=>r x l u H3 Q
theorem zhI {r:V->Option Int->Option Int->Hp->VK->Prop} (hr:SlR X r) (he:PE X e te) (hl:PO X lo tl) (hu:PO X hi th):PE X (.Subscript e (.Slice lo hi none p2) pos) (tSl r te tl th):=by
 intro pins s σ H Q I h
 refine Subscript_ (thn (he pins s σ H _ I h) fun v s1 ⟨x,H1,I1,r1,q1⟩=>?_)
 refine wpAny_Slice (thn (hl pins s1 σ H1 _ I1 q1) fun vl s2 ⟨l,H2,I2,pl,q2⟩=>thn (hu pins s2 σ H2 _ I2 q2) fun vu s3 ⟨u,H3,I3,pu,q3⟩=>?_)
 rw [evalPart_none]
 refine Qf ?_
 have I4:Inv X pins σ H3 { s3 with heap:=s3.heap.push { cls:=.type "slice",data:=.fields #[vl,vu,.none] } }:=I3.kept (t':=s3.toks) fun b ob q=>Q2 _ q
 obtain ⟨T,id,hT,ht,hg⟩:=hr pins { s3 with heap:=s3.heap.push { cls:=.type "slice",data:=.fields #[vl,vu,.none] } } σ H3 x v vl vu l u s3.heap.objs.size Q I4 r1 (Heap.IsSliceOf.new ..) pl pu q3
 show wpAny (model X.prog X.w) X.A (subscriptTail e (.Slice lo hi none p2) v (.ref s3.heap.objs.size)) (EP X pins σ Q) X.xe { s3 with heap:=s3.heap.push { cls:=.type "slice",data:=.fields #[vl,vu,.none] } }
 exact tail_any (ops:=[.ref s3.heap.objs.size,v]) ht hT hg (by with_unfolding_all rfl)
noncomputable def cutV (xs:List V) (lo hi:Option Int):List V:=(xs.drop (HT.sIx xs.length 0 lo)).take (HT.sIx xs.length xs.length hi - HT.sIx xs.length 0 lo)
theorem ze1 (xs:List V) (lo hi:Option Int):(cutV xs lo hi).length<=xs.length:=by
 unfold cutV
 rw [Qr,length_drop]
 omega
noncomputable def zrp (K:Frag):V->Option Int->Option Int->Hp->VK->Prop:=fun x lo hi H Q=>∃ a xs,x = .ref a/\SqT K H a xs /\
 ¬ (HT.sIx xs.length 0 lo = 0/\HT.sIx xs.length xs.length hi = xs.length)/\∀ p,H p = none->Q (.ref p) (upd H p (.tup (cutV xs lo hi)))
theorem zon:SlR X (zrp X.K):=by
 intro pins s σ H x v vl vu lo hi sl Q I rx hs pl pu h
 obtain ⟨a,xs,rfl,hx,hw,q⟩:=h
 cases rx
 obtain ⟨its,r,ht,hz⟩:=I.tuple hx
 have hlen:its.toArray.size = xs.length:=by rw [Qi];exact r.length.symm
 refine ⟨"tuple",_,PyProof.Rows.slot_tuple_getitem.lookup,ht.typeIs,?_⟩
 refine HT.zeR ht hs pl pu (by rw [hlen];exact hw) ?_ (by rw [hlen];exact hz)
 rw [hlen]
 refine ⟨.ref s.heap.objs.size,_,I.laid (t':=s.toks) (o:=.tup (cutV xs lo hi)) (fun b ob q=>Q2 _ q) (Q3 _) ?_,rfl,q _ (I.hok.fresh (Q3 _))⟩
 exact ⟨Qj (ze1 xs lo hi) hz,_,(r.drop (HT.sIx xs.length 0 lo)).take (HT.sIx xs.length xs.length hi - HT.sIx xs.length 0 lo),IsTup.new _ _,NoDict.new⟩
noncomputable def zqu (K:Frag):R2:=fun x y H Q=>∃ a b xs ys,x = .ref a/\y = .ref b/\SqT K H a xs/\SqT K H b ys/\xs ≠ []/\xs.length + ys.length<=sizeLine /\
 (ys = []->Q (.ref a) H)/\(ys ≠ []->∀ p,H p = none->Q (.ref p) (upd H p (.tup (xs ++ ys))))
theorem Vals.nil_iff (r:Vals xs us):us = [] ↔ xs = []:=by
 cases r with
 | nil=>simp
 | cons _ _=>simp
theorem znj:OpR X (binaryOp .Add) (zqu X.K):=by
 intro pins s σ H x y v u Q I rx ry h
 obtain ⟨a,b,xs,ys,rfl,rfl,ha,hb,hx,hz,q1,q2⟩:=h
 cases rx
 cases ry
 obtain ⟨its,r1,p1,_⟩:=I.tuple ha
 obtain ⟨its2,r2,p2,_⟩:=I.tuple hb
 refine HT.zn8 p1 p2 (fun z=>hx (r1.nil_iff.mp z)) (fun z=>⟨.ref a,H,I,rfl,q1 (r2.nil_iff.mp z)⟩) (fun z=>?_) (by rw [← r1.length,← r2.length];exact hz)
 refine ⟨.ref s.heap.objs.size,_,I.laid (t':=s.toks) (o:=.tup (xs ++ ys)) (fun b ob q=>Q2 _ q) (Q3 _) ?_,rfl,q2 (fun w=>z (r2.nil_iff.mpr w)) _ (I.hok.fresh (Q3 _))⟩
 exact ⟨by rw [Qn];exact hz,_,r1.append r2,IsTup.new _ _,NoDict.new⟩
end
noncomputable def ixN (n:Nat) (i:Int):Option Nat:=if 0<=i then (if i < n then some i.toNat else none) else if -(n:Int)<=i then some (i + n).toNat else none
noncomputable def atI {α:Type} (xs:List α) (i:Int):Option α:=(ixN xs.length i).bind fun j=>xs[j]?
variable {i:Int} {j n:Nat}
theorem zi8 (h:ixN n i = some j):seqIndex? i n = some j/\j < n/\-(n:Int)<=i/\i < n:=by
 unfold ixN at h
 by_cases h0:0<=i
 ·rw [if_pos h0] at h
  by_cases h1:i < n
  ·rw [if_pos h1] at h
   have e:i.toNat = j:=Qd h
   exact ⟨by rw [seqIndex_of h0 h1,e],by omega,by omega,h1⟩
  ·rw [if_neg h1] at h;cases h
 ·rw [if_neg h0] at h
  by_cases h1:-(n:Int)<=i
  ·rw [if_pos h1] at h
   have e:(i + n).toNat = j:=Qd h
   exact ⟨by rw [seqIndex_neg (by omega) h1,e],by omega,h1,by omega⟩
  ·rw [if_neg h1] at h;cases h
theorem zeQ {α:Type} {xs:List α} {v:α} (h:atI xs i = some v):∃ j,seqIndex? i xs.length = some j/\xs[j]? = some v/\j < xs.length/\-(xs.length:Int)<=i/\i < xs.length:=by
 unfold atI at h
 cases e:ixN xs.length i with
 | none=>rw [e] at h;cases h
 | some j=>
  rw [e] at h
  obtain ⟨h1,h2,h3,h4⟩:=zi8 e
  exact ⟨j,h1,h,h2,h3,h4⟩
theorem zbh {α:Type} {xs:List α} {v:α} (h:xs[j]? = some v):atI xs (j:Int) = some v:=by
 have hj:j < xs.length:=(List.getElem?_eq_some_iff.mp h).1
 have e:ixN xs.length (j:Int) = some j:=by
  unfold ixN
  rw [if_pos (by omega),if_pos (by omega)];simp
 unfold atI;rw [e];exact h
def zgy (b:Expr):Prop:=∀ o i,subscripted b false o i = operate [o,i] (getItem o i)
def IxR (X:Cx) (r:R2):Prop:=
 ∀ (value slice:Expr) (pins:List (Addr × Obj)) (s:Shared) (σ:St) (H:Hp) (x y:V) (v u:Value) (Q:VK),Inv X pins σ H s->RelV x v->RelV y u->r x y H Q->
  subscripted slice false v u = operate [v,u] (getItem v u)->wpAny (model X.prog X.w) X.A (subscriptTail value slice v u) (EP X pins σ Q) X.xe s
def MtR (X:Cx) (id:String) (r:V->List V->Hp->VK->Prop):Prop:=
 ∀ (pins:List (Addr × Obj)) (s:Shared) (σ:St) (H:Hp) (x:V) (xs:List V) (v:Value) (us:List Value) (Q:VK),Inv X pins σ H s->RelV x v->Vals xs us->r x xs H Q->
  wpAny (model X.prog X.w) X.A (call (.builtin id) (v :: us)) (EP X pins σ Q) X.xe s
variable {p:Addr} {H:Hp} {pins:List (Addr × Obj)} {ys:List V} {its its':List Value} {s:Shared} {σ:St} {x y:V} {u:Value}
section
variable {a b:Expr} {ta tb:TE}
theorem IxR.or {r r':R2} (h:IxR X r) (h':IxR X r'):IxR X (fun x y H Q=>r x y H Q\/r' x y H Q):=by
 intro value slice pins s σ H x y v u Q I rx ry q hs
 rcases q with q | q
 ·exact h value slice pins s σ H x y v u Q I rx ry q hs
 ·exact h' value slice pins s σ H x y v u Q I rx ry q hs
theorem zqC {r:R2} (hr:IxR X r) (ha:PE X a ta) (hb:PE X b tb) (hs:zgy b):PE X (.Subscript a b pos) (tOp r ta tb):=by
 intro pins s σ H Q I h
 exact Subscript_ (zmj ha hb I h fun v u s2 x y H2 I2 rx ry q=>hr a b pins s2 σ H2 x y v u Q I2 rx ry q (hs _ _))
noncomputable def zlx (K:Frag):R2:=fun x y H Q=>∃ p xs i v,x = .ref p/\y = .int i/\SqL K H p xs/\atI xs i = some v/\Q v H
noncomputable def zov (K:Frag):R2:=fun x y H Q=>∃ p xs i v,x = .ref p/\y = .int i/\SqT K H p xs/\atI xs i = some v/\Q v H
noncomputable def zow:R2:=fun x y H Q=>∃ z i c,x = .str z/\y = .int i/\z.length<=sizeLine/\atI z.cps.toList i = some c/\Q (.str ⟨#[c]⟩) H
theorem znz:IxR X (zlx X.K):=by
 intro value slice pins s σ H x y v u Q I rx ry h hs
 obtain ⟨p,xs,i,z,rfl,rfl,hq,he,q⟩:=h
 cases rx
 obtain ⟨t,rfl⟩:=ry
 obtain ⟨its,r,pl,hz⟩:=I.list hq
 obtain ⟨j,h1,h2,h3,h4,h5⟩:=zeQ he
 obtain ⟨w,ew,rw'⟩:=r.get h2
 have hl:=r.length
 have hn:=zcq
 have fin:EP X pins σ Q w s:=⟨z,H,I,rw',q⟩
 by_cases h0:0<=i
 ·have hj:i.toNat = j:=by
   rw [seqIndex_of h0 h5] at h1
   exact Qd h1
  exact item_listR pl.isList h0 (by omega) (by rw [hj];simpa using ew) fin hs
 ·have hj:(i + (its.toArray.size:Int)).toNat = j:=by
   rw [seqIndex_neg (by omega) h4] at h1
   rw [Qi,← hl]
   exact Qd h1
  exact subscriptTail_builtinR (x:=w) pl.isList.typeIs slot_list_getitem.lookup
   (wpAny_getItem_list_neg (Q:=fun r s'=>r = w/\EP X pins σ Q r s') pl.isList (by omega) (by rw [Qi] <;> omega) (by omega) (by rw [hj];simpa using ew) ⟨rfl,fin⟩) hs
theorem zpn:IxR X (zov X.K):=by
 intro value slice pins s σ H x y v u Q I rx ry h hs
 obtain ⟨p,xs,i,z,rfl,rfl,hq,he,q⟩:=h
 cases rx
 obtain ⟨t,rfl⟩:=ry
 obtain ⟨its,r,pl,hz⟩:=I.tuple hq
 obtain ⟨j,h1,h2,h3,h4,h5⟩:=zeQ he
 obtain ⟨w,ew,rw'⟩:=r.get h2
 have hl:=r.length
 have hn:=zcq
 have fin:EP X pins σ Q w s:=⟨z,H,I,rw',q⟩
 exact subscriptTail_builtinR (x:=w) pl.typeIs slot_tuple_getitem.lookup
  (getItem_tuple (j:=j) (Q:=fun r s'=>r = w/\EP X pins σ Q r s') pl (by omega) (by omega) (by rw [Qi,← hl];exact h1) (by simpa using ew) ⟨rfl,fin⟩) hs
theorem zkI:IxR X zow:=by
 intro value slice pins s σ H x y v u Q I rx ry h hs
 obtain ⟨z,i,c,rfl,rfl,hz,he,q⟩:=h
 obtain ⟨t,rfl⟩:=rx
 obtain ⟨t',rfl⟩:=ry
 obtain ⟨j,h1,h2,h3,h4,h5⟩:=zeQ he
 have hl:z.cps.toList.length = z.length:=by simp [Str.length]
 rw [hl] at h1 h4 h5
 have hn:=zcq
 exact tail_any (typeIs_str s z t) slot_str_getitem.lookup (getItem_str (c:=c) (by
  have e1:decide (i < -(2 ^ 63:Int)) = false:=Qw (by omega)
  have e2:decide (i ≥ 2 ^ 63) = false:=Qw (by omega)
  rw [e1,e2,Bool.or_false]) (by rw [h1];simpa using h2) ⟨.str ⟨#[c]⟩,H,I.tok _,⟨_,rfl⟩,q⟩) hs
noncomputable def rIx (K:Frag):R2:=fun x y H Q=>zlx K x y H Q\/zov K x y H Q\/zow x y H Q
theorem zpo:IxR X (rIx X.K):=znz.or (zpn.or zkI)
theorem zjM (its:List Value) (n j:Nat) (u:Value):Obj.mapSeq (·.setIfInBounds j u) { cls:=.type "list",data:=.seq its.toArray n } = { cls:=.type "list",data:=.seq (its.set j u).toArray n }:=by
 simp [Obj.mapSeq]
theorem Inv.lst (I:Inv X pins σ H s) (h:H p = some (.lst xs)) :
  ∃ (its:List Value) (n:Nat),Vals xs its/\s.heap.get? p = some { cls:=.type "list",data:=.seq its.toArray n }/\xs.length<=sizeLine:=by
 obtain ⟨z,its,n,r,e⟩:=I.hok p _ h
 exact ⟨its,n,r,e,z⟩
theorem Inv.lstUpd {n':Nat} {f:Obj->Obj} (I:Inv X pins σ H s) (h:H p = some (.lst xs))
 (ho:s.heap.get? p = some { cls:=.type "list",data:=.seq its.toArray n }) (hf:f { cls:=.type "list",data:=.seq its.toArray n } = { cls:=.type "list",data:=.seq its'.toArray n' }) (r:Vals ys its') (hz:ys.length<=sizeLine) (t:Nat) :
  Inv X pins σ (upd H p (.lst ys)) { s with heap:=s.heap.update p f,toks:=t }:=by
 have e:(s.heap.update p f).get? p = some { cls:=.type "list",data:=.seq its'.toArray n' }:=by
  rw [Heap.get?_update_self f ho (by rw [hf] <;> rfl),hf]
 refine I.write (x:=p) (e:=p) (by rw [h];trivial) (.inl rfl) (fun b u hb q=>(Heap.get?_update_other _ _ (Ne.symm hb)).trans q) ⟨_,e⟩ ?_
 exact ⟨hz,its',n',r,e⟩
noncomputable def zqr:V->V->V->Hp->(Hp->Prop)->Prop:=fun o i v H Q=>∃ p xs k j,o = .ref p/\i = .int k/\H p = some (.lst xs)/\ixN xs.length k = some j/\Q (upd H p (.lst (xs.set j v)))
theorem set_list:zd9 X zqr:=by
 intro pins s σ H o i v ov iv u Q I ro ri rv h
 obtain ⟨p,xs,k,j,rfl,rfl,hp,hj,q⟩:=h
 cases ro
 obtain ⟨t,rfl⟩:=ri
 obtain ⟨its,n,r,ho,hz⟩:=I.lst hp
 obtain ⟨h1,h2,h3,h4⟩:=zi8 hj
 have hl:=r.length
 have hn:=zcq
 have I':Inv X pins σ (upd H p (.lst (xs.set j v))) { s with heap:=s.heap.update p (Obj.mapSeq (·.setIfInBounds j u)) }:=
  I.lstUpd hp ho (zjM its n j u) (r.set rv j) (by rw [length_set];exact hz) s.toks
 by_cases h0:0<=k
 ·have hk:k.toNat = j:=by
   rw [seqIndex_of h0 h4] at h1
   exact Qd h1
  exact PySem.W.ki_setAt ho h0 (by omega) (by rw [Qi,← hl];exact h4) (by rw [hk];exact ⟨_,I',q⟩)
 ·have hk:(k + (its.toArray.size:Int)).toNat = j:=by
   rw [seqIndex_neg (by omega) h3] at h1
   rw [Qi,← hl]
   exact Qd h1
  exact PySem.W.ki_setBack ho (by omega) (by rw [Qi,← hl];exact h3) (by omega) (by rw [hk];exact ⟨_,I',q⟩)
theorem zht (lo hi:Option Int) (n:Nat):(sliceBounds lo hi none n).1 = ((HT.sIx n 0 lo:Nat):Int)/\(sliceBounds lo hi none n).2.1 = ((HT.sIx n n hi:Nat):Int)/\(sliceBounds lo hi none n).2.2 = 1:=by
 refine ⟨?_,?_,rfl⟩
 ·cases lo with
  | none=>simp [sliceBounds,HT.sIx]
  | some i=>
   simp only [sliceBounds,HT.sIx,Option.getD_none,show (1:Int) > 0 by decide,if_true]
   by_cases h:i < 0
   ·simp only [h,if_true] <;> omega
   ·simp only [h,if_false] <;> omega
 ·cases hi with
  | none=>simp [sliceBounds,HT.sIx]
  | some i=>
   simp only [sliceBounds,HT.sIx,Option.getD_none,show (1:Int) > 0 by decide,if_true]
   by_cases h:i < 0
   ·simp only [h,if_true] <;> omega
   ·simp only [h,if_false] <;> omega
theorem zgZ (its:List Value) (lo hi:Option Int):slicePick its.toArray lo hi none = ((its.drop (HT.sIx its.length 0 lo)).take (HT.sIx its.length its.length hi - HT.sIx its.length 0 lo)).toArray:=by
 obtain ⟨h1,h2,h3⟩:=zht lo hi its.toArray.size
 unfold slicePick
 rw [h1,h2,h3]
 simp only [sliceRange_one,pick_run,Qi] <;> rfl
noncomputable def zrq (K:Frag):V->Option Int->Option Int->Hp->VK->Prop:=fun x lo hi H Q=>∃ a xs,x = .ref a/\SqL K H a xs/\∀ p,H p = none->Q (.ref p) (upd H p (.lst (cutV xs lo hi)))
theorem zmK:SlR X (zrq X.K):=by
 intro pins s σ H x v vl vu lo hi sl Q I rx hs pl pu h
 obtain ⟨a,xs,rfl,hx,q⟩:=h
 cases rx
 obtain ⟨its,r,ht,hz⟩:=I.list hx
 have hlen:=r.length
 refine ⟨"list",_,slot_list_getitem.lookup,ht.isList.typeIs,?_⟩
 refine wpAny_getItem_list_slice ht.isList hs pl pu .none (by simp) ?_ (by rw [Qi] <;> omega)
 rw [zgZ,← hlen]
 refine ⟨.ref s.heap.objs.size,_,I.laid (t':=s.toks) (o:=.lst (cutV xs lo hi)) (fun b ob q=>Q2 _ q) (Q3 _) ?_,rfl,q _ (I.hok.fresh (Q3 _))⟩
 exact ⟨Qj (ze1 xs lo hi) hz,_,0,(r.drop (HT.sIx xs.length 0 lo)).take (HT.sIx xs.length xs.length hi - HT.sIx xs.length 0 lo),Ql _ rfl⟩
noncomputable def zav:V->Bool
 | .non=>true
 | .bl _=>true
 | .int _=>true
 | .str _=>true
 | _=>false
noncomputable def eqV:V->V->Bool
 | .non,.non=>true
 | .bl a,.bl b=>a == b
 | .bl a,.int b=>(if a then 1 else 0) == b
 | .int a,.bl b=>a == (if b then 1 else 0)
 | .int a,.int b=>a == b
 | .str a,.str b=>a == b
 | _,_=>false
theorem zid {A:Around} {v:Value} (ry:RelV y u) (rx:RelV x v) (fy:zav y = true) (fx:zav x = true):SeqAt.EqAt A s u v (eqV y x):=by
 cases y with
 | non=>
  cases ry
  cases x with
  | non=>cases rx;exact SeqAt.EqAt.same _
  | bl b=>cases rx;exact SeqAt.EqAt.none_bool b
  | int b=>obtain ⟨t,rfl⟩:=rx;exact SeqAt.EqAt.none_int b t
  | str b=>obtain ⟨t,rfl⟩:=rx;exact SeqAt.EqAt.none_str b t
  | _=>exact absurd (show false = true from fx) Q4
 | bl a=>
  cases ry
  cases x with
  | non=>cases rx;exact SeqAt.EqAt.bool_none a
  | bl b=>cases rx;exact SeqAt.EqAt.bool_bool a b
  | int b=>obtain ⟨t,rfl⟩:=rx;exact SeqAt.EqAt.bool_int a b t
  | str b=>obtain ⟨t,rfl⟩:=rx;exact SeqAt.EqAt.bool_str a b t
  | _=>exact absurd (show false = true from fx) Q4
 | int a=>
  obtain ⟨t',rfl⟩:=ry
  cases x with
  | non=>cases rx;exact SeqAt.EqAt.int_none a t'
  | bl b=>cases rx;exact SeqAt.EqAt.int_bool a t' b
  | int b=>obtain ⟨t,rfl⟩:=rx;exact SeqAt.EqAt.int_int a t' b t
  | str b=>obtain ⟨t,rfl⟩:=rx;exact SeqAt.EqAt.int_str a t' b t
  | _=>exact absurd (show false = true from fx) Q4
 | str a=>
  obtain ⟨t',rfl⟩:=ry
  cases x with
  | non=>cases rx;exact SeqAt.EqAt.str_none a t'
  | bl b=>cases rx;exact SeqAt.EqAt.str_bool a t' b
  | int b=>obtain ⟨t,rfl⟩:=rx;exact SeqAt.EqAt.str_int a t' b t
  | str b=>obtain ⟨t,rfl⟩:=rx;exact SeqAt.EqAt.str_str a t' b t
  | _=>exact absurd (show false = true from fx) Q4
 | _=>exact absurd (show false = true from fy) Q4
noncomputable def eqU (x:V) (u:Value):Bool:=match u with
 | .none=>eqV .non x
 | .bool b=>eqV (.bl b) x
 | .int i _=>eqV (.int i) x
 | .str z _=>eqV (.str z) x
 | _=>false
theorem zic (r:RelV y u) (f:zav y = true):eqU x u = eqV y x:=by
 cases y with
 | non=>cases r;rfl
 | bl b=>cases r;rfl
 | int i=>obtain ⟨t,rfl⟩:=r;rfl
 | str z=>obtain ⟨t,rfl⟩:=r;rfl
 | _=>exact absurd (show false = true from f) Q4
theorem zdH {x:V}:∀ {xs:List V} {us:List Value},Vals xs us->xs.all zav = true->us.any (eqU x) = xs.any fun y=>eqV y x
 | _,_,.nil,_=>rfl
 | y :: xs,u :: us,.cons r t,f=>by
  rw [all_cons,Qs] at f
  rw [any_cons,any_cons,zic r f.1,zdH t f.2]
theorem zcb {A:Around} {s:Shared} {x:V} {v:Value} (rx:RelV x v) (fx:zav x = true):∀ {xs:List V} {us:List Value},Vals xs us->xs.all zav = true->∀ u ∈ us,SeqAt.EqAt A s u v (eqU x u)
 | _,_,.nil,_=>fun u hu=>by cases hu
 | y :: xs,u :: us,.cons r t,f=>fun u' hu=>by
  rw [all_cons,Qs] at f
  rcases mem_cons.mp hu with rfl | hu
  ·rw [zic r f.1];exact zid r rx f.1 fx
  ·exact zcb rx fx t f.2 u' hu
noncomputable def inV (x:V) (xs:List V):Bool:=xs.any fun y=>eqV y x
noncomputable def rIn (K:Frag) (neg:Bool):R2:=fun x y H Q=>∃ p xs,y = .ref p/\(SqL K H p xs\/SqT K H p xs)/\zav x = true/\xs.all zav = true/\Q (.bl (if neg then !inV x xs else inV x xs)) H
theorem zkv:OpR X (compareOp .In) (rIn X.K false):=by
 intro pins s σ H x y v u Q I rx ry h
 obtain ⟨p,xs,rfl,hq,fx,fs,q⟩:=h
 cases ry
 rcases hq with hq | hq
 ·obtain ⟨its,r,pl,hz⟩:=I.list hq
  refine SeqAt.in_listAt (eqU x) pl.isList (fun w hw=>zcb rx fx r fs w (by simpa using hw)) ⟨.bl _,H,I,rfl,?_⟩
  rw [show its.toArray.any (eqU x) = its.any (eqU x) by simp,zdH r fs]
  exact q
 ·obtain ⟨its,r,pl,hz⟩:=I.tuple hq
  refine SeqAt.in_tupleAt (eqU x) pl (fun w hw=>zcb rx fx r fs w (by simpa using hw)) ⟨.bl _,H,I,rfl,?_⟩
  rw [show its.toArray.any (eqU x) = its.any (eqU x) by simp,zdH r fs]
  exact q
theorem zhJ:OpR X (compareOp .NotIn) (rIn X.K true):=by
 intro pins s σ H x y v u Q I rx ry h
 obtain ⟨p,xs,rfl,hq,fx,fs,q⟩:=h
 cases ry
 rcases hq with hq | hq
 ·obtain ⟨its,r,pl,hz⟩:=I.list hq
  refine SeqAt.notIn_listAt (eqU x) pl.isList (fun w hw=>zcb rx fx r fs w (by simpa using hw)) ⟨.bl _,H,I,rfl,?_⟩
  rw [show its.toArray.any (eqU x) = its.any (eqU x) by simp,zdH r fs]
  exact q
 ·obtain ⟨its,r,pl,hz⟩:=I.tuple hq
  refine SeqAt.notIn_tupleAt (eqU x) pl (fun w hw=>zcb rx fx r fs w (by simpa using hw)) ⟨.bl _,H,I,rfl,?_⟩
  rw [show its.toArray.any (eqU x) = its.any (eqU x) by simp,zdH r fs]
  exact q
theorem ziq:CallR X (.builtin "len") (fun xs H Q=>∃ p ys,xs = [.ref p]/\(SqL X.K H p ys\/SqT X.K H p ys)/\Q (.int ys.length) H):=by
 intro pins s σ H xs us Q I r h
 obtain ⟨p,ys,rfl,hq,q⟩:=h
 obtain ⟨u,rfl,rx⟩:=vals1 r
 cases rx
 have hn:=zcq
 rcases hq with hq | hq
 ·obtain ⟨its,r',pl,hz⟩:=I.list hq
  have hlen:=r'.length
  exact Calls.call_len_list pl.isList (by simp only [Qi] <;> omega) ⟨.int ys.length,H,I.tok _,⟨s.toks + 1,by rw [Qi,hlen]⟩,q⟩
 ·obtain ⟨its,r',pl,hz⟩:=I.tuple hq
  have hlen:=r'.length
  exact len_tuple pl (by simp only [Qi] <;> omega) ⟨.int ys.length,H,I.tok _,⟨s.toks + 1,by rw [Qi,hlen]⟩,q⟩
theorem zio:CallR X (.builtin "len") (fun xs H Q=>∃ z,xs = [.str z]/\z.length<=sizeLine/\Q (.int z.length) H):=by
 intro pins s σ H xs us Q I r h
 obtain ⟨z,rfl,hz,q⟩:=h
 obtain ⟨u,rfl,t,rfl⟩:=vals1 r
 have hn:=zcq
 exact len_str (by omega) ⟨.int z.length,H,I.tok _,⟨_,rfl⟩,q⟩
theorem zg2:CallR X (.type "tuple") (fun xs H Q=>∃ p ys,xs = [.ref p]/\((SqL X.K H p ys/\∀ l,H l = none->Q (.ref l) (upd H l (.tup ys)))\/(SqT X.K H p ys/\Q (.ref p) H))):=by
 intro pins s σ H xs us Q I r h
 obtain ⟨p,ys,rfl,h⟩:=h
 obtain ⟨u,rfl,rx⟩:=vals1 r
 cases rx
 rcases h with ⟨hq,q⟩ | ⟨hq,q⟩
 ·obtain ⟨its,r',pl,hz⟩:=I.list hq
  have hlen:=r'.length
  refine call_tuple_list pl.isList (fun h' kp=>?_) (by simp only [Qi] <;> omega)
  have I1:Inv X pins σ H { s with heap:=h' }:=I.kept (t':=s.toks) kp
  have I2:Inv X pins σ (upd H h'.objs.size (.tup ys)) { s with heap:=h'.push { cls:=.type "tuple",data:=.seq its.toArray } }:=
   I1.laid (t':=s.toks) (fun b o e=>Q2 _ e) (Q3 _) (show ObjOk X.prog X.w _ _ _ (.tup ys) from ⟨hz,its,r',IsTup.new _ _,NoDict.new⟩)
  exact ⟨.ref h'.objs.size,_,I2,rfl,q _ (I1.hok.fresh (Q3 _))⟩
 ·obtain ⟨its,r',pl,hz⟩:=I.tuple hq
  exact call_tuple_same pl ⟨.ref p,H,I,rfl,q⟩
def tyV (K:Frag) (T:String) (x:V) (H:Hp):Prop:=match x with
 | .str _=>T = "str"
 | .int _=>T = "int"
 | .ref p=>(T = "list"/\∃ xs,SqL K H p xs)\/(T = "tuple"/\∃ o,K.lookup p = some o/\o.cls = .type "tuple"/\o.dict = none) \/
   (T = "dict"/\((∃ kvs,Rd H p (.dK kvs))\/∃ kvs,H p = some (.dT kvs)))\/(T = "set"/\∃ S n,H p = some (.set S n))
 | _=>False
theorem zkb {pins:List (Addr × Obj)} {σ:St} {H:Hp} {s:Shared} {T:String} {x:V} {v:Value} (I:Inv X pins σ H s) (r:RelV x v) (ty:tyV X.K T x H) :
  s.TypeIs v T/\∀ a,v = .ref a->∃ ob,s.heap.get? a = some ob/\ob.dict = none:=by
 cases x with
 | str z=>
  obtain ⟨t,rfl⟩:=r
  cases (show T = "str" from ty)
  exact ⟨typeIs_str s z t,fun _ e=>nomatch e⟩
 | int i=>
  obtain ⟨t,rfl⟩:=r
  cases (show T = "int" from ty)
  exact ⟨typeIs_int s i t,fun _ e=>nomatch e⟩
 | ref p=>
  cases r
  rcases ty with ⟨rfl,xs,hq⟩ | ⟨rfl,o,hk,hc,hd⟩ | ⟨rfl,hk⟩ | ⟨rfl,S,n,hk⟩
  ·obtain ⟨its,_,pl,_⟩:=I.list hq
   refine ⟨pl.isList.typeIs,fun a e=>?_⟩
   cases e
   obtain ⟨o,n,e,c,hd,_⟩:=pl
   exact ⟨o,e,hd⟩
  ·refine ⟨⟨o,I.kIn p o hk,hc⟩,fun a e=>?_⟩
   cases e
   exact ⟨o,I.kIn _ o hk,hd⟩
  ·have z:∃ o,s.heap.get? p = some o/\o.ExactDict:=by
    rcases hk with ⟨kvs,hk⟩ | ⟨kvs,hk⟩
    ·obtain ⟨_,_,_,_,o,_,_,e,ex,_⟩:=(show ObjOk X.prog X.w H s.heap p (.dK kvs) from hk.ok I.hok)
     exact ⟨o,e,ex⟩
    ·obtain ⟨_,_,_,_,o,_,_,e,ex,_⟩:=I.hok p _ hk
     exact ⟨o,e,ex⟩
   obtain ⟨o,e,ex⟩:=z
   refine ⟨⟨o,e,ex.1⟩,fun a e2=>?_⟩
   cases e2
   exact ⟨o,e,ex.2.1⟩
  ·obtain ⟨o,_,_,_,e,ex,_⟩:=I.hok p _ hk
   refine ⟨⟨o,e,ex.1⟩,fun a e2=>?_⟩
   cases e2
   exact ⟨o,e,ex.2.1⟩
 | _=>exact False.elim ty
noncomputable def zrl (K:Frag) (T:String) (r:V->List V->Hp->VK->Prop) (to:TE):TE:=fun σ H Q=>to σ H fun x H1=>tyV K T x H1/\r x [] H1 Q
noncomputable def tBM (K:Frag) (T:String) (r:V->List V->Hp->VK->Prop) (to:TE) (t:TA):TE:=fun σ H Q=>to σ H fun x H1=>tyV K T x H1/\t σ H1 fun xs H2=>r x xs H2 Q
variable {o:Expr} {es:List Expr} {to:TE} {t:TA} {name:Str} {apos cpos:Pos} {T id:String} {r:V->List V->Hp->VK->Prop}
theorem zoT (pa:PlainAttrs T) (slot:Slot T name id) (hty:typeOf (.builtin id) = pure (.type "method_descriptor")) (hm:MtR X id r) (ho:PE X o to)
  (hbase:attributeBase o name X.env (eval o X.env) = eval o X.env:=by rfl) (hline:(apos.endLine == cpos.line) = true:=by rfl):PE X (.Call (.Attribute o name apos) [] [] cpos) (zrl X.K T r to):=by
 intro pins s σ H Q I h
 refine wpAny_Call_method0_late hbase hline (thn (ho pins s σ H _ I h) fun v s1 ⟨x,H1,I1,r1,ty,q1⟩=>?_)
 obtain ⟨h1,h2⟩:=zkb I1 r1 ty
 exact ⟨T,id,pa,slot,hty,h1,h2,Calls.callWith_builtin rfl (PySem.evalArgs_none (hm pins s1 σ H1 x [] v [] Q I1 r1 .nil q1))⟩
theorem qO (pa:PlainAttrs T) (slot:Slot T name id) (hty:typeOf (.builtin id) = pure (.type "method_descriptor")) (hm:MtR X id r) (ho:PE X o to) (ha:PA X (e :: es) t)
  (hbase:attributeBase o name X.env (eval o X.env) = eval o X.env:=by rfl)
  (hfew:((backTo cpos (starEach (e :: es) X.env)).all (fun x=>!x.1) && (backToKw cpos (keywordEach [] X.env)).all (fun x=>x.1.isSome)
   && decide ((e :: es).length + ([]:List Keyword).length + (if ([]:List Keyword).isEmpty then 0 else 1) < 30)) = true:=by rfl)
  (hline:(apos.endLine == cpos.line) = true:=by rfl) (hs:starEach (e :: es) X.env = (false,eval e X.env) :: starEach es X.env:=by rfl) (hplain:(backTo cpos (starEach es X.env)).any (·.1) = false:=by rfl) :
  PE X (.Call (.Attribute o name apos) (e :: es) [] cpos) (tBM X.K T r to t):=by
 intro pins s σ H Q I h
 refine wpAny_Call_method_late hbase hfew hline rfl (thn (ho pins s σ H _ I h) fun v s1 ⟨x,H1,I1,r1,ty,q1⟩=>?_)
 obtain ⟨h1,h2⟩:=zkb I1 r1 ty
 refine ⟨T,id,pa,slot,hty,h1,h2,?_⟩
 have hA:=ha cpos pins s1 σ H1 _ I1 q1
 rw [hs] at hA ⊢
 refine Calls.callWith_builtin (by show (false || (backTo cpos (starEach es X.env)).any (·.1)) = false;rw [hplain] <;> rfl) (Calls.evalArgs_plain ?_)
 exact thn hA fun us s2 ⟨vs,H2,I2,r2,q2⟩=>hm pins s2 σ H2 x vs v us Q I2 r1 r2 q2
end
def MtM (X:Cx) (id:String) (r:V->List V->Hp->VK->Prop):Prop:=
 ∀ (pins:List (Addr × Obj)) (s:Shared) (σ:St) (H:Hp) (x:V) (xs:List V) (v:Value) (us:List Value) (Q:VK),Inv X pins σ H s->RelV x v->Vals xs us->r x xs H Q->
  wpAny (model X.prog X.w) X.A (call (.builtin id) (v :: us)) (EP X pins σ Q) X.xe s
theorem Vals.one:∀ {x:V} {us:List Value},Vals [x] us->∃ u,us = [u]/\RelV x u
 | _,_,.cons r .nil=>⟨_,rfl,r⟩
theorem Vals.two:∀ {x y:V} {us:List Value},Vals [x,y] us->∃ u v,us = [u,v]/\RelV x u/\RelV y v
 | _,_,_,.cons r (.cons q .nil)=>⟨_,_,rfl,r,q⟩
theorem Vals.zero:∀ {us:List Value},Vals [] us->us = []
 | _,.nil=>rfl
theorem Vals.dropLast (h:Vals xs us):Vals xs.dropLast us.dropLast:=by
 induction h with
 | nil=>exact .nil
 | cons r t ih=>
  cases t with
  | nil=>exact .nil
  | cons q t'=>exact .cons r ih
theorem Vals.eraseIdx:∀ {xs:List V} {us:List Value} (i:Nat),Vals xs us->Vals (xs.eraseIdx i) (us.eraseIdx i)
 | _,_,_,.nil=>.nil
 | _,_,0,.cons _ t=>t
 | _,_,i + 1,.cons r t=>.cons r (Vals.eraseIdx i t)
theorem Vals.reverse (h:Vals xs us):Vals xs.reverse us.reverse:=by
 induction h with
 | nil=>exact .nil
 | cons r t ih=>rw [List.reverse_cons,List.reverse_cons];exact Vals.append ih (.cons r .nil)
theorem Vals.rep {xs:List V} {us:List Value} (h:Vals xs us):∀ k:Nat,Vals (List.replicate k xs).flatten (List.replicate k us).flatten
 | 0=>.nil
 | k + 1=>by
  rw [replicate_succ,replicate_succ,flatten_cons,flatten_cons]
  exact Vals.append h (Vals.rep h k)
theorem zjW {α:Type} (l:List α):l.eraseIdx (l.length - 1) = l.dropLast:=by
 induction l with
 | nil=>rfl
 | cons a r ih=>
  cases r with
  | nil=>rfl
  | cons b r=>
   have e:(a :: b :: r).length - 1 = ((b :: r).length - 1) + 1:=by
    have h1:(a :: b :: r).length = r.length + 2:=rfl
    have h2:(b :: r).length = r.length + 1:=rfl
    omega
   rw [e,List.eraseIdx_cons_succ,ih]
   all_goals rfl
theorem foldl_rep (its:List Value):∀ (k:Nat) (acc:List Value),
  List.foldl (fun x1 x2=>x1 ++ x2) acc.toArray (List.replicate k its.toArray) = (acc ++ (List.replicate k its).flatten).toArray
 | 0,acc=>by simp
 | k + 1,acc=>by
  have e:acc.toArray ++ its.toArray = (acc ++ its).toArray:=by simp
  have e2:(acc ++ its) ++ (List.replicate k its).flatten = acc ++ (List.replicate (k + 1) its).flatten:=by
   rw [replicate_succ,flatten_cons,append_assoc]
  rw [← e2,← foldl_rep its k (acc ++ its),← e,replicate_succ,List.foldl_cons]
variable {t':Nat}
section
variable {l b:Addr} {zs:List V}
theorem Inv.lset {f:Array Value->Array Value} {t':Nat} (I:Inv X pins σ H s) (hH:H l = some (.lst xs))
 (e:s.heap.get? l = some { cls:=.type "list",data:=.seq its.toArray n }) (hf:f its.toArray = its'.toArray) (hv:Vals ys its') (hz:ys.length<=sizeLine) :
  Inv X pins σ (upd H l (.lst ys)) { s with heap:=s.heap.update l (Obj.mapSeq f),toks:=t' }:=by
 have q:=PySem.IsL.update e f
 rw [hf] at q
 refine I.write (x:=l) (e:=l) (by rw [hH];exact trivial) (.inl rfl) (fun b' u hb hu=>(Heap.get?_update_other s.heap (Obj.mapSeq f) (Ne.symm hb)).trans hu) ⟨_,q⟩ ?_
 exact ⟨hz,its',_,hv,q⟩
theorem Inv.lnew {t':Nat} (I:Inv X pins σ H s) (hv:Vals ys its) (hz:ys.length<=sizeLine) :
  Inv X pins σ (upd H s.heap.objs.size (.lst ys)) { s with heap:=s.heap.push { cls:=.type "list",data:=.seq its.toArray },toks:=t' }:=
 I.laid (fun _ _ q=>Q2 _ q) (Q3 _) ⟨hz,its,0,hv,Ql _ rfl⟩
theorem Inv.fresh (I:Inv X pins σ H s):H s.heap.objs.size = none:=I.hok.fresh (Q3 _)
theorem Inv.lstM (I:Inv X pins σ H s) (hH:H l = some (.lst xs)):xs.length<=sizeLine/\∃ (its:List Value) (n:Nat),Vals xs its/\xs.length = its.length/\s.heap.get? l = some { cls:=.type "list",data:=.seq its.toArray n }:=by
 obtain ⟨z,its,n,r,e⟩:=I.hok l _ hH
 exact ⟨z,its,n,r,r.length,e⟩
theorem zhK (h:n<=sizeLine):Builtin.List.listTooLong n = false:=by
 unfold Builtin.List.listTooLong
 exact Qw (by omega)
end
section
noncomputable def zf8:V->List V->Hp->VK->Prop:=fun x vs H Q=>∃ l xs y,x = .ref l/\vs = [y]/\H l = some (.lst xs)/\xs.length < sizeLine/\Q .non (upd H l (.lst (xs ++ [y])))
theorem zD:MtM X "list.append" zf8:=by
 intro pins s σ H x vs v us Q I rx rv h
 obtain ⟨l,xs,y,rfl,rfl,hH,hz,q⟩:=h
 cases rx
 obtain ⟨u,rfl,ru⟩:=rv.one
 obtain ⟨z,its,n,r,hl,e⟩:=I.lstM hH
 refine call_meets F.slot_list_append ⟨_,e,rfl⟩ F.entry_list_append (F.args_list_append_2 _ _) (PySem.list_append l its.toArray n u (by rw [Qi];omega)) ⟨e,?_⟩
 refine ⟨.non,_,I.lset (its':=its ++ [u]) hH e (by simp) (r.append (.cons ru .nil)) ?_,rfl,q⟩
 rw [Qn,Qt]
 omega
noncomputable def zrt:V->List V->Hp->VK->Prop:=fun x vs H Q=>∃ l xs y,x = .ref l/\vs = []/\H l = some (.lst xs)/\xs[xs.length - 1]? = some y/\Q y (upd H l (.lst xs.dropLast))
theorem zr9:MtM X "list.pop" zrt:=by
 intro pins s σ H x vs v us Q I rx rv h
 obtain ⟨l,xs,y,rfl,rfl,hH,hy,q⟩:=h
 cases rx
 have hus:=rv.zero
 subst hus
 obtain ⟨z,its,n,r,hl,e⟩:=I.lstM hH
 obtain ⟨u,hu,ru⟩:=r.get hy
 have hy':its.toArray[its.toArray.size - 1]? = some u:=by
  show its.toArray[its.length - 1]? = some u
  rw [← Array.getElem?_toList,← hl]
  exact hu
 refine call_meets F.slot_list_pop ⟨_,e,rfl⟩ F.entry_list_pop (F.args_list_pop_1 _) (MeetsSeq.list_pop_last l its.toArray n u hy' (by rw [Qi];omega)) ⟨e,?_⟩
 refine ⟨y,_,I.lset (its':=its.dropLast) hH e ?_ r.dropLast ?_,ru,q⟩
 ·show its.toArray.eraseIdxIfInBounds (its.toArray.size - 1) = its.dropLast.toArray
  rw [Qi,List.eraseIdxIfInBounds_toArray,zjW]
 ·rw [List.length_dropLast]
  omega
noncomputable def zox:V->List V->Hp->VK->Prop:=fun x vs H Q=>∃ l xs,x = .ref l/\vs = []/\H l = some (.lst xs)/\Q .non (upd H l (.lst []))
theorem zlL:MtM X "list.clear" zox:=by
 intro pins s σ H x vs v us Q I rx rv h
 obtain ⟨l,xs,rfl,rfl,hH,q⟩:=h
 cases rx
 have hus:=rv.zero
 subst hus
 obtain ⟨z,its,n,r,hl,e⟩:=I.lstM hH
 refine call_meets F.slot_list_clear ⟨_,e,rfl⟩ F.entry_list_clear (F.args_list_clear_1 _) (AutoSeq1.list_clear_list_0 l its.toArray n (by rw [Qi];omega)) ⟨e,?_⟩
 exact ⟨.non,_,I.lset (its':=[]) (ys:=[]) hH e rfl .nil (Nat.zero_le _),rfl,q⟩
theorem len_rep {α:Type} (xs:List α) (k:Nat):(List.replicate k xs).flatten.length = k * xs.length:=by
 induction k with
 | zero=>simp
 | succ k ih=>rw [replicate_succ,flatten_cons,Qn,ih,Nat.succ_mul,Nat.add_comm]
end
end L2
namespace Att
open PySem PySem.W PySem.Calls PyProof.Rows
variable {h:Heap} {P:Params}
theorem zfD:∀ (ns:List Int) (vs:List Value),WellAll P h vs (ns.map WData.int)->IntsAre vs ns:=by
 intro ns
 induction ns with
 | nil=>
  intro vs w
  rw [map_nil] at w
  cases w
  exact .nil
 | cons n ns ih=>
  intro vs w
  rw [map_cons] at w
  cases w with
  | cons a b=>
   cases a
   exact .cons _ _ (ih _ b)
variable {n:Nat} {l:OpenLaw}
theorem zkg (hn:l.most = some n) {args:List WData} {vals:List Value}
 (hpre:l.row.toRowW.claim.pre args = true) (hwl:WellAll P h vals args) :
  ∃ a vs ns,vals = [Value.ref a]/\args = [WData.list (ns.map WData.int)]/\h.get? a = some { cls:=.type "list",data:=.seq vs.toArray }/\IntsAre vs ns/\ns.length<=n:=by
 have hsh:WShape.hasAll [] args [.list .int] = true:=(pre_splitW hpre).1
 have hc:l.pre.holds [] { args:=args } = true:=(pre_splitW hpre).2
 obtain ⟨d,r,rfl,h1,h2⟩:=hasAllW_cons hsh
 obtain rfl:=hasAllW_nil h2
 obtain ⟨xs,rfl,h3⟩:=hasW_list h1
 obtain ⟨ns,rfl⟩:=items_int h3
 have hlen:ns.length<=n:=by
  unfold OpenLaw.pre at hc
  have h4:(WTm.not (.lt (.lit (.int (n:Int))) (.len (.arg 0)))).holds [] { args:=[.list (ns.map .int)] } = true:=by
   have h4:=(holds_andW hc).1
   rw [hn] at h4
   exact h4
  have h5:=condW_of h4 (w_not (w_lt w_lit (w_len_list (w_arg rfl))))
  rw [Qh] at h5
  refine Nat.le_of_not_lt fun q=>?_
  have q':(n:Int) < ((ns.length:Nat):Int):=by omega
  first
   | (rw [Qv q'] at h5;exact absurd h5 (by decide))
   | (simp at h5;omega)
 cases hwl with
 | cons w1 w2=>
  cases w2
  cases w1 with
  | list ho hall=>exact ⟨_,_,ns,rfl,rfl,ho,zfD ns _ hall,hlen⟩
theorem zkn (l:OpenLaw) (args:List WData):l.row.toRowW.claim.post args (.bool true) args = true:=
 postW_of (r:=l.row.toRowW) (X:=(true == true))
  (show WShape.has [] (.bool true) .bool = true by first | rfl | decide | simp [WShape.has,WShape.arms,WShape.armsAll])
  (show (WTm.eq .res (.lit (.bool true))).value [] { args:=args,res:=some (.bool true),after:=args } = some (.bool (true == true)) from w_eq_bool (w_res rfl) w_lit) rfl
theorem ziL {q:Program} {loose:List Str} {XP:(Str->Option Value)->Heap->Prop} {YP:World->Heap->Prop} {d:DefRec}
 (hn:l.most = some n) (hdf:d.params.defaults = [])
 (call:∀ (w:World) (s₀ s₁:Shared) (mg mb:Str->Option Value) (fa:Addr) (o:Obj) (pm cd doc:Value) (a:Addr) (vs:List Value) (ns:List Int),
 Ground q loose [] XP w s₀ mg mb s₁.heap->YP w s₁.heap->
 s₁.heap.get? fa = some o->o.data = .func (docDef d.name d.params d.body d.scope pm cd doc)->s₁.heap.CodeRec cd d.name->mg d.name = some (.ref fa)->
 s₁.heap.get? a = some { cls:=.type "list",data:=.seq vs.toArray }->IntsAre vs ns->ns.length<=n->s₁.gens = #[]->
 codeAny (model l.prog w) callerA (.call (.ref fa) ⟨[.ref a],[]⟩) (fun r s'=>r = .ok (.ret (.bool true))/\OldK s₁.heap s'.heap/\s'.os = s₁.os/\AllBare s'.gens) s₁) :
  WalkO q loose XP YP l.row.toRowW d [] (fun f vs=>PySem.call f vs):=by
 intro w s₀ s₁ mg mb G Y fa o pm cd doc dV kV ho hd hcd hD hmg hg args vals as hpre hlay hrd hwl hlo
 obtain rfl:dV = .none:=Dflts.none hD hdf
 obtain rfl:kV = .none:=Dflts.noKw hD
 obtain ⟨a,vs,ns,rfl,rfl,hobj,hints,hlen⟩:=zkg hn hpre hwl
 refine enter_call (codeAny_mono (call w s₀ s₁ mg mb fa o pm cd doc a vs ns G Y ho (fd_plain hd) hcd hmg hobj hints hlen hg) fun r s' hq=>?_)
 obtain ⟨rfl,h2,h3,h4⟩:=hq
 exact ⟨.inl ⟨.bool true,.bool true,[],rfl,fun _=>rfl,.bool true,zkn l _,fun _=>⟨List.Pairwise.nil,fun _ hm=>(nomatch hm)⟩⟩,h2,h3,h4⟩
end Att
namespace L2
open PySem PySem.Spec PyProof.Rows
theorem zgC:∀ {vs:List Value} {ns:List Int},IntsAre vs ns->Vals (ns.map V.int) vs
 | _,_,.nil=>.nil
 | _,_,.cons n t h=>.cons ⟨t,rfl⟩ (zgC h)
def zj5 (H:Hp):Prop:=∀ b,H b = none\/∃ o xs,H b = some (.frz o (.lst xs))
variable {CX:CXT} {K:Frag} {fd:FuncData} {P:Program} {sp:Sp} {x:Str} {mg:Str->Option Value} {w:World}
theorem zlQ {mb:Str->Option Value} {k:Nat} {fa a:Addr} {s₁:Shared} {vs:List Value} {ns:List Int}
 (KX:K.In s₁.heap) (hns:s₁.heap.Ns mainGlobals mg) (hb:s₁.heap.Ns builtinsNs mb) (hbb:∀ x:Str,x ≠ "__name__"->mb x = bootBuiltins x) (hlim:s₁.heap.NoLimit) (hg:s₁.gens = #[])
 (ha:s₁.heap.get? a = some { cls:=.type "list",data:=.seq vs.toArray }) (hi:IntsAre vs ns) (hl:ns.length<=sizeLine) (hr:Room k callerA)
 (F:∀ base:Heap,K.In base->base.Ns mainGlobals mg->FnOk P w K mg base CX k fa fd [x] sp) (hbind:∀ (s:Shared) (u:Value),BindsTo s fd ⟨[u],[]⟩ [(x,u)])
 (hsp:∀ H:Hp,zj5 H->SqL K H a (ns.map V.int)->sp [.ref a] H (fun v _=>v = .bl true) fun _ _ _=>False)
 (hCX:∀ H e s',CX [] H s₁ (fun _ _ _=>False) e s'->False) :
  codeAny (model P w) callerA (.call (.ref fa) ⟨[.ref a],[]⟩) (fun r s'=>r = .ok (.ret (.bool true))/\OldK s₁.heap s'.heap/\s'.os = s₁.os/\AllBare s'.gens) s₁:=by
 have rv:=zgC hi
 have lenV:=hi.length
 -- from an abstract heap in which nothing but the script may be tracked
 have core:∀ H:Hp,zj5 H->SqL K H a (ns.map V.int)->HOk P w H s₁.heap->(∀ b,H b ≠ none->b = a)->(H a ≠ none->K.lookup a = none)->
   codeAny (model P w) callerA (.call (.ref fa) ⟨[.ref a],[]⟩) (fun r s'=>r = .ok (.ret (.bool true))/\OldK s₁.heap s'.heap/\s'.os = s₁.os/\AllBare s'.gens) s₁:=by
  intro H hO hS hok hA hK
  have base_of:∀ {b:Addr} {o:Obj},s₁.heap.get? b = some o->H b = none->(zdY s₁.heap H).get? b = some o:=fun e n=>zlW e n
  have noA:∀ {b:Addr} {o:Obj} {es:Array DictEntry} {ep:Nat},s₁.heap.get? b = some o->o.data = .dict es ep->H b = none:=fun {b o es ep} e d=>by
   cases q:H b with
   | none=>rfl
   | some u=>
    have e':b = a:=hA b (by rw [q];simp)
    subst e'
    rw [ha] at e;cases e
    have d':Data.seq vs.toArray _ = Data.dict es ep:=d
    cases d'
  have nsK:∀ {b:Addr} {m:Str->Option Value},s₁.heap.Ns b m->(zdY s₁.heap H).Ns b m:=fun {b m} ⟨o,es,ep,e,d,r⟩=>⟨o,es,ep,base_of e (noA e d),d,r⟩
  have hKb:K.In (zdY s₁.heap H):=fun b o e=>base_of (KX b o e) (by
   cases q:H b with
   | none=>rfl
   | some u=>
    have e':b = a:=hA b (by rw [q];simp)
    subst e'
    rw [hK (by rw [q];simp)] at e;cases e)
  have hM:Mod K mg (zdY s₁.heap H):=⟨hKb,nsK hns,⟨mb,nsK hb,hbb⟩,let ⟨mc,h1,h2⟩:=hlim;⟨mc,nsK h1,h2⟩⟩
  have e0:Env0 P w K mg (zdY s₁.heap H) callerA [] s₁ H:=⟨rfl,hM,fun b o e=>znl e,Nat.le_of_eq (zkL _ _),trivial,fun b hb=>absurd (show b ∈ ([]:List Addr) from hb) (by simp),hok,.of_eq hg⟩
  refine codeAny_mono ((F _ hKb (nsK hns)).run callerA [] s₁ H ⟨[.ref a],[]⟩ [.ref a] [.ref a] _ _ hr e0 (hbind s₁ (.ref a)) (.cons rfl .nil) (hsp H hO hS)) fun r s' h=>?_
  cases r with
  | error e=>exact (hCX H e s' h).elim
  | ok fl=>
   cases fl with
   | next=>exact False.elim h
   | brk=>exact False.elim h
   | cont=>exact False.elim h
   | ret u=>
    obtain ⟨v,H',os,bare,un,hok',r',q⟩:=h
    have q':v = .bl true:=q
    subst q'
    obtain rfl:u = Value.bool true:=r'
    refine ⟨rfl,OldK.of_keep fun b o e=>?_,os,bare⟩
    cases q:H b with
    | none=>exact un.keep b o e q (by intro z;exact absurd (show b ∈ ([]:List Addr) from z) (by simp)) (by simp)
    | some u=>
     rcases hO b with z | ⟨ob,xs,z⟩
     ·rw [q] at z;cases z
     ·have z2:=un.frzs b ob _ z
      obtain ⟨e1,_⟩:=hok b _ z
      obtain ⟨e2,_⟩:=hok' b _ z2
      rw [e] at e1;cases e1
      exact e2
 cases hk:K.lookup a with
 | some o=>
  -- the script is one of the module's own objects
  have e:=KX a o hk
  rw [ha] at e
  cases e
  refine core (fun _=>none) (fun _=>.inl rfl) (.inr ⟨_,vs.toArray,_,hk,rfl,rfl,rfl,by rw [Qi,lenV];exact hl,by simpa using rv⟩) (fun b u z=>by have z':(none:Option HO) = some u:=z;cases z') (fun b z=>absurd rfl z) fun z=>absurd rfl z
 | none=>
  refine core (fun b=>if b = a then some (.frz { cls:=.type "list",data:=.seq vs.toArray } (.lst (ns.map V.int))) else none) (fun b=>?_) (.inl (.inr ⟨{ cls:=.type "list",data:=.seq vs.toArray },if_pos rfl⟩)) (fun b u z=>?_) (fun b z=>?_) fun _=>hk
  ·by_cases hb:b = a
   ·exact .inr ⟨_,_,if_pos hb⟩
   ·exact .inl (if_neg hb)
  ·by_cases hb:b = a
   ·have z':=(if_pos hb).symm.trans z
    cases z'
    subst hb
    exact ⟨ha,by rw [Qh];exact hl,vs,_,rv,ha⟩
   ·have z':=(if_neg hb).symm.trans z
    cases z'
  ·by_cases hb:b = a
   ·exact hb
   ·exact absurd (if_neg hb) z
noncomputable abbrev KOf {K:Frag} {h:Heap} (_:K.In h):Frag:=K
variable {XP:(Str->Option Value)->Heap->Prop} {d:DefRec} {loose:List Str} {n:Nat} {q:Program} {l:PySem.W.OpenLaw} {YP:World->Heap->Prop}
theorem zmC {k:Nat} {K:Params->Frag} {CX:World->CXT} {sp:World->Sp} 
 (hn:l.most = some n) (hn2:n<=sizeLine) (hdf:d.params.defaults = []) (hr:Room k callerA)
 (hY:∀ (w:World) (h:Heap),YP w h->(K w.params).In h)
 (F:∀ (w:World) (mg:Str->Option Value) (fa:Addr) (h:Heap),(K w.params).In h->h.Ns mainGlobals mg->mg d.name = some (.ref fa)->
 ∃ fd:FuncData,(∀ (s:Shared) (u:Value),BindsTo s fd ⟨[u],[]⟩ [(x,u)]) /\
 ∀ base:Heap,(K w.params).In base->base.Ns mainGlobals mg->FnOk l.prog w (K w.params) mg base (CX w) k fa fd [x] (sp w))
 (hsp:∀ (w:World) (H:Hp) (a:Addr) (ns:List Int),ns.length<=n->zj5 H->SqL (K w.params) H a (ns.map V.int)->sp w [.ref a] H (fun v _=>v = .bl true) fun _ _ _=>False)
 (hCX:∀ (w:World) (H:Hp) (s:Shared) (e:Value) (s':Shared),CX w [] H s (fun _ _ _=>False) e s'->False) :
  PySem.W.WalkO q loose XP YP l.row.toRowW d [] (fun f vs=>PySem.call f vs):=by
 refine Att.ziL hn hdf fun w s₀ s₁ mg mb fa o pm cd doc a vs ns G Y ho hd hcd hmg hobj hints hlen hg=>?_
 have KX:=hY w _ Y
 obtain ⟨fd,hb,hF⟩:=F w mg fa _ KX G.T.g hmg
 exact zlQ KX G.T.g G.T.b G.T.builtins G.T.nolimit hg hobj hints (Qj hlen hn2) hr hF hb (fun H hO hS=>hsp w H a ns hlen hO hS) fun H e s'=>hCX w H s₁ e s'
theorem zll {k:Nat} {K:Params->Frag} {sp:Frag->Sp} 
 (hn:l.most = some n) (hn2:n<=sizeLine) (hdf:d.params.defaults = []) (hr:Room k callerA)
 (hY:∀ (w:World) (h:Heap),YP w h->(K w.params).In h)
 (F:∀ (w:World) (mg:Str->Option Value) (fa:Addr) (h:Heap),(K w.params).In h->h.Ns mainGlobals mg->mg d.name = some (.ref fa)->
 ∃ fd:FuncData,(∀ (s:Shared) (u:Value),BindsTo s fd ⟨[u],[]⟩ [(x,u)]) /\
 ∀ base:Heap,(K w.params).In base->base.Ns mainGlobals mg->FnOk l.prog w (K w.params) mg base CX k fa fd [x] (sp (K w.params)))
 (hsp:∀ (K:Frag) (H:Hp) (a:Addr) (ns:List Int),ns.length<=n->zj5 H->SqL K H a (ns.map V.int)->sp K [.ref a] H (fun v _=>v = .bl true) fun _ _ _=>False)
 (hCX:∀ (H:Hp) (s:Shared) (e:Value) (s':Shared),CX [] H s (fun _ _ _=>False) e s'->False) :
  PySem.W.WalkO q loose XP YP l.row.toRowW d [] (fun f vs=>PySem.call f vs):=
 zmC (K:=K) (CX:=fun _=>CX) (sp:=fun w=>sp (K w.params)) hn hn2 hdf hr hY F (fun w H a ns h1 h2 h3=>hsp (K w.params) H a ns h1 h2 h3) fun _ H s e s'=>hCX H s e s'
noncomputable def inClass (s:Stmt) (j:Nat):Stmt:=match s with
 | .ClassDef _ _ _ body _ _ _ _ _ _ _=>body.getD j (.Pass ⟨0,0,0,0⟩)
 | _=>.Pass ⟨0,0,0,0⟩
noncomputable def zaG (s:Stmt):Arguments:=match s with
 | .FunctionDef _ a _ _ _ _ _ _ _ _=>a
 | _=>{ posonlyargs:=[],args:=[],vararg:=none,kwonlyargs:=[],kw_defaults:=[],kwarg:=none,defaults:=[] }
noncomputable def yK (s:Stmt):List Stmt:=match s with
 | .FunctionDef _ _ b _ _ _ _ _ _ _=>b
 | _=>[]
noncomputable def zg (s:Stmt):Scope:=match s with
 | .FunctionDef _ _ _ _ _ _ sc _ _ _=>sc
 | _=>{ kind:=.function,names:=[],isGenerator:=false,isCoroutine:=false }
noncomputable abbrev CX0:CXT:=fun _ _ _ _ _ _=>False
noncomputable abbrev E0:XK:=fun _ _ _=>False
variable {X:Cx}
theorem zmr:Passes CX0 X E0:=fun _ _ _ _ _ _ _ h=>h.elim
structure Fun (K:Frag) (x qual:Str) (st:Stmt) (f:Addr) (fd:FuncData):Prop where
 ex:∃ (oc:Value) (od:Option Addr) (kV doc pm:Value) (an:Option Addr) (cdv ct:Value) (osl:Array (Option Value)),
  fd = PySem.W.fnOf x qual (zaG st) (yK st) (zg st) .none kV doc pm an cdv ct/\K.lookup f = some ⟨oc,od,.func fd,osl⟩/\PySem.W.codeIn K cdv qual = true
 kp:PySem.W.keepIn K (.ref f) = true
variable {f:Addr} {ps:List Str} {st:Stmt} {qual:Str}
section
variable {base:Heap}
theorem Fun.ok {N:List Str} {k:Nat} (F:Fun K x qual st f fd) (S:FnScope N ps (zg st)) (len:∀ vs H Q E,sp vs H Q E->vs.length = ps.length)
 (hbody:∀ (cdv:Value) (A:Around) (outer:List Env) (s:Shared) (H:Hp) (vs:List V) (Q:VK) (E:XK),Room k (A.deeper (envOfC qual (zg st) s.heap.objs.size f cdv))->sp vs H Q E->
 ∃ t,PSs (zcf CX0 P w K mg base N qual (zg st) f cdv A outer s H E).nox (yK st) t/\t { nx:=fun _ H'=>Q .non H',rt:=Q } (start N vs) H):FnOk P w K mg base CX0 (k + 1) f fd ps sp:=by
 obtain ⟨oc,od,kV,doc,pm,an,cdv,ct,osl,rfl,lk,hcd⟩:=F.ex
 refine zq2 lk hcd S len fun A outer s H vs Q E hr hsp=>?_
 obtain ⟨t,h,q⟩:=hbody cdv A outer s H vs Q E hr hsp
 exact ⟨t,h.nox,q⟩
theorem Fun.binds (F:Fun K x qual st f fd)
 (h:∀ (kV doc pm:Value) (an:Option Addr) (cdv ct:Value) (us:List Value),us.length = ps.length->bindArgs (PySem.W.fnOf x qual (zaG st) (yK st) (zg st) .none kV doc pm an cdv ct) ⟨us,[]⟩ = pure (ps.zip us)):Binds K fd ps []:=by
 obtain ⟨oc,od,kV,doc,pm,an,cdv,ct,osl,rfl,lk,hcd⟩:=F.ex
 exact .all (h kV doc pm an cdv ct)
theorem zh8 {oc:Value} {od an:Option Addr} {osl:Array (Option Value)} {kV doc pm cdv ct:Value} (l:K.lookup f = some ⟨oc,od,.func (PySem.W.fnOf x qual (zaG st) (yK st) (zg st) .none kV doc pm an cdv ct),osl⟩)
 (c:PySem.W.codeIn K cdv qual = true) (k:PySem.W.keepIn K (.ref f) = true):Fun K x qual st f (PySem.W.fnOf x qual (zaG st) (yK st) (zg st) .none kV doc pm an cdv ct):=⟨⟨oc,od,kV,doc,pm,an,cdv,ct,osl,rfl,l,c⟩,k⟩
end
section
theorem pv (i:Nat) {pos:Pos} (hN:X.N[i]? = some x:=by rfl) (hv:Vis X.env.scope x:=by first | exact Or.inl rfl | exact Or.inr (Or.inl rfl) | exact Or.inr (Or.inr rfl)) (hd:(x == ("__debug__":Str)) = false:=by decide)
 (hcd:(x == ("__classdict__":Str)) = false:=by decide):PE X (.Name x pos) (zjB i):=zhH hN hv hd hcd
end
end L2
set_option maxHeartbeats 4000000
namespace L2
open PySem PySem.Spec PyProof.Rows
variable {o:Option V} {y:V} {u:Value}
section
variable {κ:Type} [DecidableEq κ]
noncomputable def zaH (kvs:List (κ × V)) (k:κ):Option V:=(kvs.find? fun kv=>decide (kv.1 = k)).map (·.2)
noncomputable def putK (kvs:List (κ × V)) (k:κ) (v:V):List (κ × V):=
 if (kvs.any fun kv=>decide (kv.1 = k)) = true then kvs.map (fun kv=>if kv.1 = k then (kv.1,v) else kv) else kvs ++ [(k,v)]
noncomputable def zsp (kvs:List (κ × V)) (k:κ):List (κ × V):=kvs.filter fun kv=>decide (kv.1 ≠ k)
theorem ze4 {p:κ × V} {r:List (κ × V)} {k:κ} (e:p.1 = k):zaH (p :: r) k = some p.2:=by simp [zaH,find?_cons,e]
theorem ze5 {p:κ × V} {r:List (κ × V)} {k:κ} (e:¬ p.1 = k):zaH (p :: r) k = zaH r k:=by simp [zaH,find?_cons,e]
theorem zhm (k:κ):∀ kvs:List (κ × V),(kvs.any fun kv=>decide (kv.1 = k)) = (zaH kvs k).isSome
 | []=>rfl
 | p :: r=>by
  rw [any_cons]
  by_cases e:p.1 = k
  ·simp only [ze4 e,Qv e,Bool.true_or,Option.isSome_some]
  ·rw [ze5 e,Qw e,Bool.false_or];exact zhm k r
theorem zeU (kvs:List (κ × V)) (k:κ) (v:V):(putK kvs k v).length<=kvs.length + 1:=by
 unfold putK
 split
 ·rw [Qh];omega
 ·rw [Qn,Qp,length_nil];omega
theorem RelO.isSome_eq {u:Option Value} (r:RelO o u):o.isSome = u.isSome:=by
 cases o with
 | none=>cases u with
  | none=>rfl
  | some _=>exact (show False from r).elim
 | some _=>cases u with
  | none=>exact (show False from r).elim
  | some _=>rfl
theorem KV.val {kvs:List (κ × V)} {vs:List (κ × Value)} (r:KV kvs vs) (k:κ):RelO (zaH kvs k) (valueAt vs k):=by
 unfold KV at r
 induction r with
 | nil=>exact True.intro
 | @cons p q ps qs h t ih=>
  obtain ⟨h1,h2⟩:=h
  by_cases e:p.1 = k
  ·have e':q.1 = k:=h1.symm.trans e
   have b:valueAt (q :: qs) k = some q.2:=by simp [valueAt,find?_cons,e']
   rw [ze4 e,b];exact h2
  ·have e':¬ q.1 = k:=fun z=>e (h1.trans z)
   have b:valueAt (q :: qs) k = valueAt qs k:=by simp [valueAt,find?_cons,e']
   rw [ze5 e,b];exact ih
theorem KV.any {kvs:List (κ × V)} {vs:List (κ × Value)} (r:KV kvs vs) (k:κ):(kvs.any fun kv=>decide (kv.1 = k)) = vs.any fun kv=>decide (kv.1 = k):=by
 unfold KV at r
 induction r with
 | nil=>rfl
 | cons h t ih=>rw [any_cons,any_cons,ih,h.1]
theorem KV.repl {kvs:List (κ × V)} {vs:List (κ × Value)} (r:KV kvs vs) (k:κ) (ry:RelV y u) :
  KV (kvs.map fun kv=>if kv.1 = k then (kv.1,y) else kv) (vs.map fun kv=>if kv.1 = k then (kv.1,u) else kv):=by
 unfold KV at r ⊢
 induction r with
 | nil=>exact .nil
 | @cons p q ps qs h t ih=>
  rw [map_cons,map_cons]
  refine .cons ?_ ih
  obtain ⟨h1,h2⟩:=h
  by_cases e:p.1 = k
  ·rw [if_pos e,if_pos (h1.symm.trans e)];exact ⟨h1,ry⟩
  ·rw [if_neg e,if_neg (fun z=>e (h1.trans z))];exact ⟨h1,h2⟩
theorem KV.put {kvs:List (κ × V)} {vs:List (κ × Value)} (r:KV kvs vs) (k:κ) (ry:RelV y u):KV (putK kvs k y) (stored vs k u):=by
 unfold putK stored
 rw [r.any k]
 by_cases e:(vs.any fun kv=>decide (kv.1 = k)) = true
 ·rw [if_pos e,if_pos e];exact r.repl k ry
 ·rw [if_neg e,if_neg e];exact Paired.snoc r ⟨rfl,ry⟩
theorem KV.length {kvs:List (κ × V)} {vs:List (κ × Value)} (r:KV kvs vs):kvs.length = vs.length:=Paired.length r
end
variable {P:Program} {w:World}
theorem zg8 {k:Key} (r:RelV (kV k) u):(qZ P w).is k u = true:=by
 cases k with
 | inl i=>obtain ⟨t,e⟩:=(show ∃ t,u = Value.int i t from r);subst e;exact ziF P w i t
 | inr x=>obtain ⟨t,e⟩:=(show ∃ t,u = Value.str x t from r);subst e;exact ziE P w x t
theorem zgE {P:Program} {w:World}:∀ {ks:List Key} {us:List Value},Vals (ks.map kV) us->ItemsAre (qZ P w) ks us
 | [],_,r=>by rw [map_nil] at r;cases r;exact .nil
 | k :: ks,_,r=>by
  rw [map_cons] at r
  cases r with
  | cons h t=>exact .cons (zg8 h) (zgE t)
noncomputable abbrev KT (H:Hp):List (List Key × V)->List (List Key × Addr × Value)->Prop:=Paired fun p q=>p.1 = q.1/\H q.2.1 = some (.tup (p.1.map kV))/\RelV p.2 q.2.2
variable {H:Hp} {xs:List (List Key × Addr × Value)} {kvs:List (List Key × V)}
theorem KT.val (r:KT H kvs xs) (k:List Key):RelO (zaH kvs k) ((atKey xs k).map (·.2)):=by
 induction r with
 | nil=>exact True.intro
 | @cons p q ps qs h t ih=>
  obtain ⟨h1,_,h2⟩:=h
  by_cases e:p.1 = k
  ·have e':q.1 = k:=h1.symm.trans e
   have b:atKey (q :: qs) k = some q.2:=by simp [atKey,find?_cons,e']
   rw [ze4 e,b];exact h2
  ·have e':¬ q.1 = k:=fun z=>e (h1.trans z)
   have b:atKey (q :: qs) k = atKey qs k:=by simp [atKey,find?_cons,e']
   rw [ze5 e,b];exact ih
theorem KT.repl (r:KT H kvs xs) (k:List Key) (ry:RelV y u) :
  KT H (kvs.map fun kv=>if kv.1 = k then (kv.1,y) else kv) (xs.map (putAt k u)):=by
 induction r with
 | nil=>exact .nil
 | @cons p q ps qs h t ih=>
  rw [map_cons,map_cons]
  refine .cons ?_ ih
  obtain ⟨h1,h2,h3⟩:=h
  unfold putAt
  by_cases e:p.1 = k
  ·rw [if_pos e,if_pos (h1.symm.trans e)];exact ⟨h1,h2,ry⟩
  ·rw [if_neg e,if_neg (fun z=>e (h1.trans z))];exact ⟨h1,h2,h3⟩
theorem KT.put (r:KT H kvs xs) (k:List Key) {b:Addr} (hb:H b = some (.tup (k.map kV))) (ry:RelV y u) :
  KT H (putK kvs k y) (storedH xs k b u):=by
 have e:(kvs.any fun kv=>decide (kv.1 = k)) = (atKey xs k).isSome:=by
  rw [zhm,(r.val k).isSome_eq,Option.isSome_map]
 unfold putK storedH
 rw [e]
 by_cases q:(atKey xs k).isSome = true
 ·rw [if_pos q,if_pos q];exact r.repl k ry
 ·rw [if_neg q,if_neg q];exact Paired.snoc r ⟨rfl,hb,ry⟩
variable {H':Hp}
theorem KT.keeps (r:KT H kvs xs) (ht:∀ b ys,H b = some (.tup ys)->H' b = some (.tup ys)):KT H' kvs xs:=
 Paired.mapP r fun _ _ z=>⟨z.1,ht _ _ z.2.1,z.2.2⟩
variable {h:Heap}
section
variable {a:Addr}
theorem zmo {u:HO} (ok:HOk P w H h) (e:Rd H a u):ObjOk P w H h a u:=e.ok ok
theorem zj0 {kvs:List (Key × V)} (ok:HOk P w H h) (e:Rd H a (.dK kvs)):kvs.length<=sizeLine/\(a == sysModules) = false/\∃ vs,KV kvs vs/\h.DictOf (qZ P w) a vs:=
 show ObjOk P w H h a (.dK kvs) from zmo ok e
theorem zq4 {kvs:List (Key × V)} (ok:HOk P w H h) (e:H a = some (.dK kvs)):kvs.length<=sizeLine/\(a == sysModules) = false/\∃ vs,KV kvs vs/\h.DictOf (qZ P w) a vs:=zj0 ok (.inl e)
theorem zfC {ks:List Key} (ok:HOk P w H h) (e:H a = some (.tup (ks.map kV))):(tupleKind (qZ P w)).is h ks a:=by
 obtain ⟨_,its,r,⟨o,h1,h2,n,h3⟩,_⟩:=(show ObjOk P w H h a (.tup (ks.map kV)) from ok a _ e)
 exact ⟨o,its.toArray,n,h1,h2,h3,by simpa using zgE r⟩
theorem zjZ (ok:HOk P w H h) (e:Rd H a (.dT kvs)):kvs.length<=sizeLine/\(a == sysModules) = false /\
  ∃ xs,KT H kvs xs/\h.DictOfH (tupleKind (qZ P w)) a xs:=by
 obtain ⟨z,y,xs,r,o,es,ep,h1,h2,h3,h4,h5⟩:=(show ObjOk P w H h a (.dT kvs) from zmo ok e)
 refine ⟨z,y,xs,r,o,es,ep,h1,h2,h3,h4,fun x hx=>?_,h5⟩
 have all:∀ {l:List (List Key × V)} {m:List (List Key × Addr × Value)},KT H l m->∀ x ∈ m,(tupleKind (qZ P w)).is h x.1 x.2.1:=by
  intro l m q
  induction q with
  | nil=>intro x hx;exact nomatch hx
  | @cons p q ps qs hq t ih=>
   intro x hx
   rcases mem_cons.mp hx with e | hx
   ·subst e
    exact zfC ok (by rw [← hq.1];exact hq.2.1)
   ·exact ih x hx
 exact all r x hx
theorem zq3 (ok:HOk P w H h) (e:H a = some (.dT kvs)):kvs.length<=sizeLine/\(a == sysModules) = false /\
  ∃ xs,KT H kvs xs/\h.DictOfH (tupleKind (qZ P w)) a xs:=zjZ ok (.inl e)
end
def DGet (H:Hp) (a:Addr) (y:V) (r:Option V):Prop:=
 (∃ kvs k,Rd H a (.dK kvs)/\y = kV k/\r = zaH kvs k)\/∃ kvs k b,Rd H a (.dT kvs)/\y = .ref b/\H b = some (.tup (k.map kV))/\r = zaH kvs k
def DPut (H:Hp) (a:Addr) (y v:V) (H':Hp):Prop:=
 (∃ kvs k,H a = some (.dK kvs)/\y = kV k/\kvs.length < sizeLine/\H' = upd H a (.dK (putK kvs k v))) \/
 ∃ kvs k b,H a = some (.dT kvs)/\y = .ref b/\H b = some (.tup (k.map kV))/\kvs.length < sizeLine/\H' = upd H a (.dT (putK kvs k v))
variable {v:V}
theorem DPut.k {a:Addr} {kvs:List (Key × V)} {k:Key} (e:H a = some (.dK kvs)) (hl:kvs.length < sizeLine):DPut H a (kV k) v (upd H a (.dK (putK kvs k v))):=.inl ⟨kvs,k,e,rfl,hl,rfl⟩
variable {A:Around} {X:Cx} {h':Heap} {pins:List (Addr × Obj)} {s:Shared} {σ:St} {E Q:Value->Shared->Prop}
section
variable {a:Addr} {r:Value}
theorem Inv.big (I:Inv X pins σ H s):sysModules < s.heap.objs.size:=by
 have h:mainGlobals < s.heap.objs.size:=(I.mod.glob.keeps I.bk).lt
 exact Nat.lt_trans (by decide) h
theorem zrM (hu:A.units + 1 < cLine) (I:Inv X pins σ H s) (g:DGet H a y o) (ry:RelV y u) (h:∀ s',Inv X pins σ H s'->Q (.bool o.isSome) s') :
  wpAny (model X.prog X.w) A (compareOp .In u (.ref a)) Q E s:=by
 rcases g with ⟨kvs,k,e,ey,l⟩ | ⟨kvs,k,b,e,ey,eb,l⟩
 ·subst ey
  obtain ⟨z,hd,vs,rel,dd⟩:=zj0 I.hok e
  refine wpAny_in_of (zg8 ry) hd dd.mapOf ?_
  rw [← (rel.val k).isSome_eq,← l]
  exact h _ (I.tok _)
 ·subst ey
  cases (show u = Value.ref b from ry)
  obtain ⟨z,hd,xs,rel,dd⟩:=zjZ I.hok e
  refine wpAny_in_heap (tupleKind_room_in1 hu) (zfC I.hok eb) hd dd ?_
  have q:=(rel.val k).isSome_eq
  rw [Option.isSome_map] at q
  rw [← q,← l]
  exact h _ (I.tok _)
theorem zn6 (hu:A.units + 1 < cLine) (I:Inv X pins σ H s) (g:DGet H a y o) (ry:RelV y u) (h:∀ s',Inv X pins σ H s'->Q (.bool (!o.isSome)) s') :
  wpAny (model X.prog X.w) A (compareOp .NotIn u (.ref a)) Q E s:=by
 rcases g with ⟨kvs,k,e,ey,l⟩ | ⟨kvs,k,b,e,ey,eb,l⟩
 ·subst ey
  obtain ⟨z,hd,vs,rel,dd⟩:=zj0 I.hok e
  refine wpAny_notIn_of (zg8 ry) hd dd.mapOf ?_
  rw [← (rel.val k).isSome_eq,← l]
  exact h _ (I.tok _)
 ·subst ey
  cases (show u = Value.ref b from ry)
  obtain ⟨z,hd,xs,rel,dd⟩:=zjZ I.hok e
  refine wpAny_notIn_heap (tupleKind_room_in1 hu) (zfC I.hok eb) hd dd ?_
  have q:=(rel.val k).isSome_eq
  rw [Option.isSome_map] at q
  rw [← q,← l]
  exact h _ (I.tok _)
theorem zjo {t':Nat} {ob:HO} (I:Inv X pins σ H s) (mu:Mut (H a)) (hs:Heap.SameBut a s.heap h') (he:∃ q,h'.get? a = some q) (new:ObjOk X.prog X.w (upd H a ob) h' a ob) :
  Inv X pins σ (upd H a ob) { s with heap:=h',toks:=t' }:=
 I.write (x:=a) (e:=a) mu (.inl rfl) (fun b q hb z=>(hs.2 b hb).trans z) he new
theorem zp2 {kvs:List (Key × V)} {vs:List (Key × Value)} (z:kvs.length<=sizeLine) (hd:(a == sysModules) = false) (rel:KV kvs vs) (dd:h'.DictOf (qZ P w) a vs) :
  ObjOk P w H' h' a (.dK kvs):=⟨z,hd,vs,rel,dd⟩
theorem zk2 {Q:Unit->Shared->Prop} (hu:A.units + 1 < cLine) (I:Inv X pins σ H s) (g:DPut H a y v H') (ry:RelV y u) (rv:RelV v r) (h:∀ s',Inv X pins σ H' s'->Q () s') :
  wpAny (model X.prog X.w) A (setItem (.ref a) u r) Q E s:=by
 rcases g with ⟨kvs,k,e,ey,l,eH⟩ | ⟨kvs,k,b,e,ey,eb,l,eH⟩
 ·subst ey eH
  obtain ⟨z,hd,vs,rel,dd⟩:=zq4 I.hok e
  have hz:vs.length<=sizeLine:=by rw [← rel.length];exact z
  have hl:(putK kvs k v).length<=sizeLine:=by have:=zeU kvs k v;omega
  refine wpAny_setItem_pairs (hsz:=hz) (zg8 ry) dd fun h' dd' hs=>h _ ?_
  have he:∃ q,h'.get? a = some q:=let ⟨q,_,_,hq,_⟩:=dd';⟨q,hq⟩
  exact zjo I (by rw [e];exact True.intro) hs he (zp2 hl hd (rel.put k rv) dd')
 ·subst ey eH
  cases (show u = Value.ref b from ry)
  obtain ⟨z,hd,xs,rel,dd⟩:=zq3 I.hok e
  have hz:xs.length<=sizeLine:=by rw [← Paired.length rel];exact z
  have hl:(putK kvs k v).length<=sizeLine:=by have:=zeU kvs k v;omega
  refine wpAny_setItem_heap (hsz:=hz) (tupleKind_room_in1 hu) (zfC I.hok eb) dd fun h' dd' hs=>h _ ?_
  obtain ⟨q,es,ep,hq,h2,h3,h4,_,h5⟩:=dd'
  refine zjo I (by rw [e];exact True.intro) hs ⟨q,hq⟩ ⟨hl,hd,_,(rel.put k eb rv).keeps fun c ys ec=>?_,q,es,ep,hq,h2,h3,h4,h5⟩
  rw [zl (zda ec e (fun z=>nomatch z))]
  exact ec
end
theorem zme (h:Heap) (hb:sysModules < h.objs.size):ObjOk P w H (h.push { cls:=.type "dict",data:=.dict #[] }) h.objs.size (.dK []):=
 ⟨Nat.zero_le _,beq_eq_false_iff_ne.mpr (Ne.symm (Qk hb)),[],.nil,Heap.DictOf.new h⟩
noncomputable def zok:TE:=fun _ H Q=>∀ p,H p = none->Q (.ref p) (upd H p (.dK []))
variable {pos:Pos}
section
theorem zlC:PE X (.Dict [] [] pos) zok:=fun pins s σ H Q I h=>
 wpAny_Dict_empty ⟨.ref s.heap.objs.size,_,I.laid (a:=s.heap.objs.size) (o:=.dK []) (t':=s.toks) (fun _ _ q=>Q2 _ q) (Q3 _) (zme s.heap I.big),rfl,h _ (I.hok.fresh (Q3 _))⟩
end
noncomputable def zkA (kvs more:List (Key × V)):List (Key × V):=more.foldl (fun acc kv=>putK acc kv.1 kv.2) kvs
structure M1 (X:Cx) (o:Expr) (m:Str) (apos:Pos) (e:Expr) (cpos:Pos):Prop where
 base:attributeBase o m X.env (eval o X.env) = eval o X.env
 few:((backTo cpos (starEach [e] X.env)).all (fun x=>!x.1) && (backToKw cpos (keywordEach [] X.env)).all (fun x=>x.1.isSome)
  && decide (([e]:List Expr).length + ([]:List Keyword).length + (if ([]:List Keyword).isEmpty then 0 else 1) < 30)) = true
 line:(apos.endLine == cpos.line) = true
 trees:backTo cpos (starEach [e] X.env) = [(false,eval e X.env)]
structure M2 (X:Cx) (o:Expr) (m:Str) (apos:Pos) (e f:Expr) (cpos:Pos):Prop where
 base:attributeBase o m X.env (eval o X.env) = eval o X.env
 few:((backTo cpos (starEach [e,f] X.env)).all (fun x=>!x.1) && (backToKw cpos (keywordEach [] X.env)).all (fun x=>x.1.isSome)
  && decide (([e,f]:List Expr).length + ([]:List Keyword).length + (if ([]:List Keyword).isEmpty then 0 else 1) < 30)) = true
 line:(apos.endLine == cpos.line) = true
 trees:backTo cpos (starEach [e,f] X.env) = [(false,eval e X.env),(false,eval f X.env)]
def Bnd (n:Nat) (i:Int):Prop:=i.natAbs < 10 ^ n
instance (n:Nat) (i:Int):Decidable (Bnd n i):=inferInstanceAs (Decidable (i.natAbs < 10 ^ n))
variable {i j:Int} {n:Nat}
theorem Bnd.add (h:Bnd n i) (k:Bnd n j):Bnd (n + 1) (i + j):=by
 unfold Bnd at *
 have h1:=Int.natAbs_add_le i j
 rw [Nat.pow_succ]
 omega
theorem Bnd.neg (h:Bnd n i):Bnd n (-i):=by
 unfold Bnd at *
 rw [Int.natAbs_neg];exact h
theorem zjs (h:Bnd n i) (hn:n<=3000):Builtin.Int.intBits i<=2 ^ 20:=by
 unfold Builtin.Int.intBits
 split
 ·exact Nat.zero_le _
 ·rename_i h0
  have h1:i.natAbs ≠ 0:=by
   intro z
   have:i = 0:=Int.natAbs_eq_zero.mp z
   subst this
   exact h0 rfl
  have h2:i.natAbs < 2 ^ (4 * n):=by
   have e:(2:Nat) ^ (4 * n) = 16 ^ n:=by rw [Nat.pow_mul]
   rw [e]
   exact Q5 h (Nat.pow_le_pow_left (by decide) n)
  have h3:i.natAbs.log2 < 4 * n:=(Nat.log2_lt h1).mpr h2
  have:(2:Nat) ^ 20 = 1048576:=by decide
  omega
def CMulB (i j:Int):Prop:=(∃ m n,Bnd m i/\Bnd n j/\m<=3000/\n<=3000)\/CMul i j
theorem CMulB.ok (h:CMulB i j):IntMulOk i j:=by
 rcases h with ⟨m,n,h1,h2,h3,h4⟩ | h
 ·exact IntMulOk.of_bits (zjs h1 h3) (zjs h2 h4)
 ·exact h.ok
section
theorem znh:OpR X (binaryOp .Mult) (rI CMulB fun i j=>.int (i * j)):=opI fun _ _ _ _ _ _ _ hc q=>mul_int q hc.ok
noncomputable def zqv (K:Frag):R2:=fun x y H Q=>∃ l b xs zs,x = .ref l/\y = .ref b/\SqL K H l xs/\SqL K H b zs/\xs.length + zs.length<=sizeLine/\∀ p,H p = none->Q (.ref p) (upd H p (.lst (xs ++ zs)))
theorem zi1:OpR X (binaryOp .Add) (zqv X.K):=by
 intro pins s σ H x y v u Q I rx ry h
 obtain ⟨l,b,xs,zs,rfl,rfl,hH,hB,hz,q⟩:=h
 cases rx
 cases ry
 obtain ⟨its,r,pl,z⟩:=I.list hH
 obtain ⟨its2,r2,pl2,z2⟩:=I.list hB
 obtain ⟨⟨cls,dd,data,sl⟩,n,ho,hc,hdi,hd⟩:=pl
 obtain ⟨⟨cls2,dd2,data2,sl2⟩,n2,ho2,hc2,hdi2,hd2⟩:=pl2
 simp only at hc hd hc2 hd2
 subst hc hd hc2 hd2
 have e1:=r.length
 have e2:=r2.length
 refine concat_meets ⟨_,ho,rfl⟩ ⟨_,ho2,rfl⟩ noFill_list_add seq_list_add PySem.F.slot_list_add PySem.F.entry_list_add (PySem.F.args_list_add_2 _ _) (list_addW l b its.toArray its2.toArray n n2 dd dd2 sl sl2 (by rw [Qi,Qi];omega)) ⟨ho,ho2,?_⟩
 have ea:its.toArray ++ its2.toArray = (its ++ its2).toArray:=by simp
 rw [ea]
 exact ⟨.ref _,_,I.lnew (t':=s.toks) (r.append r2) (by rw [Qn];omega),rfl,q _ I.fresh⟩
end
structure Df (K:Frag) (mg:Str->Option Value) (x:Str) (st:Stmt) (ps:List Str):Prop where
 ex:∃ (f:Addr) (fd:FuncData),Fun K x x st f fd/\Binds K fd ps []/\mg x = some (.ref f)
structure Cal (P:Program) (w:World) (K:Frag) (mg:Str->Option Value) (base:Heap) (k:Nat) (x:Str) (ps:List Str) (sp:Sp):Prop where
 ex:∃ (f:Addr) (fd:FuncData),FnOk P w K mg base CX0 k f fd ps sp/\PySem.W.keepIn K (.ref f) = true/\Binds K fd ps []/\mg x = some (.ref f)
variable {f:Addr} {sl:Array (Option Value)} {K:Frag} {ps:List Str} {an od:Option Addr} {sp:Sp} {st:Stmt} {x:Str} {mg:Str->Option Value} {cd ct dc oc pm:Value}
section
variable {base:Heap}
theorem Df.ok {N:List Str} {k:Nat} (D:Df K mg x st ps) (S:FnScope N ps (zg st)) (len:∀ vs H Q E,sp vs H Q E->vs.length = ps.length)
 (hbody:∀ (f:Addr) (cdv:Value) (A:Around) (outer:List Env) (s:Shared) (H:Hp) (vs:List V) (Q:VK) (E:XK),Room k (A.deeper (envOfC x (zg st) s.heap.objs.size f cdv))->sp vs H Q E->
 ∃ t,PSs (zcf CX0 P w K mg base N x (zg st) f cdv A outer s H E).nox (yK st) t/\t { nx:=fun _ H'=>Q .non H',rt:=Q } (start N vs) H):Cal P w K mg base (k + 1) x ps sp:=by
 obtain ⟨f,fd,F,b,g⟩:=D.ex
 exact ⟨⟨f,fd,F.ok S len (hbody f),F.kp,b,g⟩⟩
theorem zB (X:K.In h) (G:h.Ns mainGlobals mg) {kV:Value}
 (a:PySem.W.nsIn K mainGlobals x = some (some (.ref f)))
 (l:K.lookup f = some ⟨oc,od,.func (PySem.W.fnOf x x (zaG st) (yK st) (zg st) .none kV dc pm an cd ct),sl⟩) (c:PySem.W.codeIn K cd x = true) (k:PySem.W.keepIn K (.ref f) = true)
 (hb:∀ (kV doc pm:Value) (an:Option Addr) (cdv ct:Value) (us:List Value),us.length = ps.length->bindArgs (PySem.W.fnOf x x (zaG st) (yK st) (zg st) .none kV doc pm an cdv ct) ⟨us,[]⟩ = pure (ps.zip us)):Df K mg x st ps:=by
 have F:=zh8 (st:=st) l c k
 exact ⟨⟨f,_,F,F.binds hb,PySem.W.mg_of X G a⟩⟩
end
section
theorem zpf (X:K.In h) (G:h.Ns mainGlobals mg) {kV:Value}
 (a:PySem.W.nsIn K mainGlobals "law" = some (some (.ref f)))
 (l:K.lookup f = some ⟨oc,od,.func (PySem.W.fnOf "law" "law" (zaG st) (yK st) (zg st) .none kV dc pm an cd ct),sl⟩) (c:PySem.W.codeIn K cd "law" = true) (k:PySem.W.keepIn K (.ref f) = true)
 (hb:∀ (kV dc pm:Value) (an:Option Addr) (cd ct:Value) (s:Shared) (u:Value),BindsTo s (PySem.W.fnOf "law" "law" (zaG st) (yK st) (zg st) .none kV dc pm an cd ct) ⟨[u],[]⟩ [("script",u)]) :
  ∃ (f:Addr) (fd:FuncData),Fun K "law" "law" st f fd/\mg "law" = some (.ref f)/\∀ (s:Shared) (u:Value),BindsTo s fd ⟨[u],[]⟩ [("script",u)]:=
 ⟨f,_,zh8 (st:=st) l c k,PySem.W.mg_of X G a,fun s u=>hb _ _ _ _ _ _ s u⟩
end
section
variable {k:Nat} {p:Pos} {e:Expr} {es:List Expr} {t:TA}
theorem zoS (C:Cal X.prog X.w X.K X.mg X.base k x ps sp) (hr:Room k X.A) (hg:Gl X x) (ha:PA X (e :: es) t) (hdb:(x == ("__debug__":Str)) = false:=by decide)
  (he:starEach (e :: es) X.env = (false,eval e X.env) :: starEach es X.env:=by rfl) (hpl:(backTo pos (starEach es X.env)).any (·.1) = false:=by rfl) :
  PE X (.Call (.Name x p) (e :: es) [] pos) (zmn sp [] E0 t):=by
 obtain ⟨f,fd,F,kp,b,g⟩:=C.ex
 exact zm8 F hr hg g kp b .nil zmr ha hdb he hpl
end
theorem Bnd.of (h1:-(10 ^ n:Int) < i) (h2:i < 10 ^ n):Bnd n i:=by
 unfold Bnd
 have:((10 ^ n:Nat):Int) = (10:Int) ^ n:=by simp
 omega
theorem Bnd.hi (h:Bnd n i):i < 10 ^ n:=by
 unfold Bnd at h
 have:((10 ^ n:Nat):Int) = (10:Int) ^ n:=by simp
 omega
theorem Bnd.lo (h:Bnd n i):-(10 ^ n:Int) < i:=by
 unfold Bnd at h
 have:((10 ^ n:Nat):Int) = (10:Int) ^ n:=by simp
 omega
theorem Bnd.gcd {a b:Int} (h:0 < b) (k:Bnd n b):Bnd n ((Int.gcd a b:Nat):Int):=by
 unfold Bnd at *
 have h1:((Int.gcd a b:Nat):Int) ∣ b:=Int.gcd_dvd_right ..
 have h2:((Int.gcd a b:Nat):Int)<=b:=Int.le_of_dvd h h1
 omega
noncomputable abbrev zdt:List Value:=[.type "ValueError",.type "Exception",.type "BaseException",.type "object"]
structure ExcAt (K:Frag) (mg:Str->Option Value) (x:Str) (C:Addr):Prop where
 bound:mg x = some (.ref C)
 obj:∀ h:Heap,K.In h->∃ bm N nm q bs hdct sn sub ab col dd k0 k1 k2 k3 k5 mN,h.get? C = some (excClassObj nm q C N bs bm hdct sn sub ab col dd k0 k1 k2 k3 k5 "ValueError.__new__")/\h.Ns N mN/\mN "__init__" = none/\OwnTail h zdt bm
theorem ObjOk.there {a:Addr} {o:HO} (x:ObjOk P w H h a o):∃ u,h.get? a = some u:=by
 cases o with
 | lst xs=>obtain ⟨_,_,_,_,e⟩:=x;exact ⟨_,e⟩
 | tup xs=>obtain ⟨_,_,_,⟨ob,e,_⟩,_⟩:=x;exact ⟨_,e⟩
 | dK kvs=>obtain ⟨_,_,_,_,o,_,_,e,_⟩:=x;exact ⟨_,e⟩
 | dT kvs=>obtain ⟨_,_,_,_,o,_,_,e,_⟩:=x;exact ⟨_,e⟩
 | set S n=>obtain ⟨o,_,_,_,e,_⟩:=x;exact ⟨_,e⟩
 | ins C dx fs=>obtain ⟨_,_,_,e,_⟩:=x;exact ⟨_,e⟩
 | own y=>obtain ⟨_,e⟩:=x;exact ⟨_,e⟩
 | xd fs=>obtain ⟨_,⟨_,_,_,e,_⟩,_⟩:=x;exact ⟨_,e⟩
 | rng lo hi=>obtain ⟨_,_,_,e⟩:=x;exact ⟨_,e⟩
 | frz ob u=>obtain ⟨e,_⟩:=x;exact ⟨_,e⟩
 | tbl ps=>exact ⟨_,(show h.get? a = some _ from x)⟩
 | met f y=>exact ⟨_,(show h.get? a = some _ from x)⟩
 | ext φ=>obtain ⟨_,⟨_,e⟩,_⟩:=x;exact ⟨_,e⟩
noncomputable def CXC (P:Program) (w:World) (C:Addr):CXT:=fun l H s E ev s'=>∃ (e t:Addr) (B:Heap) (H':Hp),ev = .ref e/\Heap.FlyingW B l e (.ref C) (.ref t) s'.heap/\s'.os = s.os/\AllBare s'.gens /\
 Un (frs l) [] H H' s.heap s'.heap/\HOk P w H' s'.heap/\(∀ b o,s'.heap.get? b = some o->b ∉ frs l->(H' b ≠ none\/∃ o',s.heap.get? b = some o')->B.get? b = some o)/\(∀ b ∈ frs l,H' b = none)/\E (.ref C) none H'
noncomputable abbrev Cx.suite (X:Cx) (ev:Addr):Cx:={ X with A:=X.A.mark (some (.ref ev)),calm:=false,xe:=fun _ _=>False }
section
variable {ev:Addr}
theorem Inv.unsuite (ok:X.Ok) (I:Inv (X.suite ev) pins σ H s):Inv X pins σ H s:=⟨ok,I.os,I.bare,I.base,I.loc,I.cell,I.free,I.freeC,I.pin,I.hok,I.len⟩
end
theorem zmc (x:V) (f:zav x = true):eqV x x = true:=by
 cases x with
 | non=>rfl
 | bl b=>simp [eqV]
 | int i=>simp [eqV]
 | str z=>simp [eqV]
 | _=>exact absurd (show false = true from f) Q4
section
def CDivS (_ j:Int):Prop:=j ≠ 0/\∃ n,Bnd n j/\n<=2000
theorem CDivS.ok (h:CDivS i j):Builtin.divisionGoesByPylong i j = false:=by
 obtain ⟨h0,n,h1,h2⟩:=h
 refine PyProof.noPylong_of_log2 ?_
 have hz:j.natAbs ≠ 0:=by omega
 have e:(2:Nat) ^ (4 * n) = 16 ^ n:=by rw [Nat.pow_mul]
 have h3:j.natAbs < 2 ^ (4 * n):=by
  rw [e]
  exact Q5 h1 (Nat.pow_le_pow_left (by decide) n)
 have h4:j.natAbs.log2 < 4 * n:=(Nat.log2_lt hz).mpr h3
 omega
theorem zlF:OpR X (binaryOp .FloorDiv) (rI CDivS fun i j=>.int (i.fdiv j)):=opI fun _ _ _ _ _ _ _ hc q=>floordiv_int hc.1 q (.inl hc.ok)
end
structure CalX (P:Program) (w:World) (K:Frag) (mg:Str->Option Value) (base:Heap) (C:Addr) (k:Nat) (x:Str) (ps:List Str) (sp:Sp):Prop where
 ex:∃ (f:Addr) (fd:FuncData),FnOk P w K mg base (CXC P w C) k f fd ps sp/\PySem.W.keepIn K (.ref f) = true/\Binds K fd ps []/\mg x = some (.ref f)
theorem zcO {name:Str} {acc:List (Str × Addr)} {c:Addr} (e:((name,n) :: acc).lookup x = some c):(x = name/\c = n)\/acc.lookup x = some c:=by
 rw [lookup_cons] at e
 split at e
 ·rename_i h;cases e;exact .inl ⟨eq_of_beq h,rfl⟩
 ·exact .inr e
theorem zim:∀ (names:List (Str × NameKind)) (n:Nat) (acc:List (Str × Addr)),(∀ x y c,acc.lookup x = some c->acc.lookup y = some c->x = y)->(∀ x c,acc.lookup x = some c->c < n)->∀ x y c,(cellsFrom n names acc).lookup x = some c->(cellsFrom n names acc).lookup y = some c->x = y
 | [],_,_,h,_,x,y,c,e1,e2=>h x y c e1 e2
 | (name,kind) :: r,n,acc,h,lt,x,y,c,e1,e2=>by
  unfold cellsFrom at e1 e2
  split at e1
  ·rename_i hk
   rw [if_pos hk] at e2
   refine zim r (n + 1) ((name,n) :: acc) (fun x y c f1 f2=>?_) (fun x c f=>?_) x y c e1 e2
   ·rcases zcO f1 with ⟨g1,g2⟩ | g1 <;> rcases zcO f2 with ⟨g3,g4⟩ | g3
    ·rw [g1,g3]
    ·subst g2;exact absurd (lt _ _ g3) (Qo _)
    ·subst g4;exact absurd (lt _ _ g1) (Qo _)
    ·exact h x y c g1 g3
   ·rcases zcO f with ⟨g1,g2⟩ | g1
    ·subst g2;exact Nat.lt_succ_self _
    ·exact Nat.lt_succ_of_lt (lt _ _ g1)
  ·rename_i hk
   rw [if_neg hk] at e2
   exact zim r n acc h lt x y c e1 e2
theorem zj2 {x:Str} {c:Addr}:∀ (names:List (Str × NameKind)) (n:Nat) (acc:List (Str × Addr)),(cellsFrom n names acc).lookup x = some c->acc.lookup x = some c\/n<=c
 | [],_,_,e=>.inl e
 | (name,kind) :: r,n,acc,e=>by
  unfold cellsFrom at e
  split at e
  ·rcases zj2 r (n + 1) _ e with f | f
   ·rcases zcO f with ⟨_,g⟩ | g
    ·exact .inr (Nat.le_of_eq g.symm)
    ·exact .inl g
   ·exact .inr (by omega)
  ·exact zj2 r n acc e
theorem zj3 {x:Str} {c:Addr} {lo:Nat}:∀ (names:List (Str × NameKind)) (n:Nat) (acc:List (Str × Addr)),lo<=n->(∀ c,acc.lookup x = some c->lo<=c)->(cellsFrom n names acc).lookup x = some c->lo<=c
 | [],_,_,_,h,e=>h _ e
 | (name,kind) :: r,n,acc,hn,h,e=>by
  unfold cellsFrom at e
  split at e
  ·refine zj3 r (n + 1) _ (Nat.le_succ_of_le hn) (fun c f=>?_) e
   rcases zcO f with ⟨_,g⟩ | g
   ·subst g;exact hn
   ·exact h _ g
  ·exact zj3 r n acc hn h e
theorem zik {x:Str} {c:Addr}:∀ (names:List (Str × NameKind)) (n:Nat) (acc:List (Str × Addr)),names.lookup x = some .cell->(cellsFrom n names acc).lookup x = some c->n<=c
 | [],_,_,h,_=>by cases h
 | (name,kind) :: r,n,acc,h,e=>by
  unfold cellsFrom at e
  rw [lookup_cons] at h
  split at h
  ·rename_i hx
   cases h
   rw [if_pos (show (NameKind.cell == NameKind.cell) = true from rfl)] at e
   refine zj3 r (n + 1) _ (Nat.le_succ _) (fun c f=>?_) e
   rw [lookup_cons,hx] at f
   cases f;exact Q3 _
  ·split at e
   ·exact Nat.le_of_succ_le (zik r (n + 1) _ h e)
   ·exact zik r n acc h e
theorem zil {x:Str}:∀ (names:List (Str × NameKind)) (n:Nat) (acc:List (Str × Addr)),(∀ y ∈ names,y.2 = .cell->y.1 ≠ x)->(cellsFrom n names acc).lookup x = acc.lookup x
 | [],_,_,_=>rfl
 | (name,kind) :: r,n,acc,h=>by
  unfold cellsFrom
  split
  ·rename_i hk
   rw [zil r (n + 1) _ fun y hy=>h y (mem_cons_of_mem _ hy),lookup_cons]
   have:(x == name) = false:=by
    cases q:x == name with
    | false=>rfl
    | true=>exact absurd (eq_of_beq q).symm (h (name,kind) mem_cons_self (eq_of_beq hk))
   rw [this]
  ·exact zil r n acc fun y hy=>h y (mem_cons_of_mem _ hy)
theorem zgu:∀ (names:List (Str × NameKind)) (h:Heap) (acc:List (Str × Addr)),(∀ x c,acc.lookup x = some c->∃ v,h.IsCell c v)->∀ x c,(cellsFrom h.objs.size names acc).lookup x = some c->∃ v,(pushCells h names).IsCell c v
 | [],_,_,k,x,c,e=>k x c e
 | (name,kind) :: r,h,acc,k,x,c,e=>by
  unfold cellsFrom at e
  unfold pushCells
  split at e
  ·rename_i hk
   rw [if_pos hk]
   refine zgu r (h.push { cls:=.type "cell",data:=.cell none }) ((name,h.objs.size) :: acc) (fun x c f=>?_) x c (by rw [Heap.size_push];exact e)
   rcases zcO f with ⟨_,g⟩ | g
   ·subst g;exact ⟨none,_,Ql _ rfl,rfl⟩
   ·obtain ⟨v,q⟩:=k x c g
    exact ⟨v,q.keeps fun b o e=>Q2 _ e⟩
  ·rename_i hk
   rw [if_neg hk]
   exact zgu r h acc k x c e
variable {cl:List (Str × Addr)} {scope:Scope}
theorem zcv {M:Model} {globals:Addr} {qual:Str} {env:Env} {builtins:Addr} {Q:Env->Shared->Prop}
 (hQ:∀ h',h'.Ns s.heap.objs.size (fun _=>none)->h' = pushCells (s.heap.push { cls:=.type "dict",data:=.dict #[] }) scope.names->
 Q (newEnv scope s.heap.objs.size globals (cellsFrom (s.heap.objs.size + 1) scope.names cl) qual none .none (some env) builtins) { s with heap:=h' }) :
  wpAny M A (newFunctionEnv scope globals cl [] qual none .none (some env) builtins) Q E s:=by
 simp only [newFunctionEnv,Option.isSome_some,if_true]
 refine Q1 (wpAny_alloc ?_)
 refine Q1 (wpAny_layCells _ (fun name kind cells=>by cases hkc:kind == NameKind.cell <;> simp [hkc]) _ _ _ _ ?_)
 rw [show ({ s with heap:=s.heap.push { cls:=.type "dict",data:=.dict #[] } }:Shared).heap.objs.size = s.heap.objs.size + 1 from Heap.size_push ..]
 refine Q1 ?_
 rw [List.forIn_nil]
 exact Qf (Qf (hQ _ ((Heap.Ns.new s.heap (.type "dict")).keeps (pushCells_keeps _ _)) rfl))
noncomputable def zir (scope:Scope) (cl:List (Str × Addr)) (C:Addr) (env:Env):Env:={ compEnvC scope cl C env with cells:=cellsFrom (C + 1) scope.names cl }
noncomputable def Cx.block (X:Cx) (scope:Scope) (cl:List (Str × Addr)) (N:List Str) (ex:List Addr) (s0:Shared) (H0:Hp):Cx where
 prog:=X.prog
 w:=X.w
 K:=X.K
 mg:=X.mg
 base:=X.base
 A:=X.A
 N:=N
 s₀:=s0
 H₀:=H0
 env:=zir scope cl s0.heap.objs.size X.env
 outer:=X.stack
 stack:=X.stack
 ex:=ex
 fn:=fun x=>scope.names.lookup x == some .cell
 calm:=X.calm
 pn:=[]
 xe:=fun _ _=>False
def PTs (X:Cx) (ifs:List Expr) (t:TT):Prop:=
 ∀ (pins:List (Addr × Obj)) (s:Shared) (σ:St) (H:Hp) (Q:Bool->Hp->Prop),Inv X pins σ H s->t σ H Q->
  wpAny (model X.prog X.w) X.A (forIn ifs true fun c r=>if r = true then do let ok ← isTrue c X.env (eval c X.env);pure (ForInStep.yield ok) else pure (ForInStep.yield r)) (TP X pins σ Q) X.xe s
noncomputable def zqe:TT:=fun _ H Q=>Q true H
theorem zmV:PTs X [] zqe:=fun _ _ _ H _ I h=>wpAny_tests_nil ⟨H,I,h⟩
theorem zmU {c:Expr} {t:TT} (h:PT X c t):PTs X [c] t:=fun pins s σ H Q I hq=>wpAny_tests_one (h pins s σ H Q I hq)
noncomputable def zds (tgs:List Str) (caps:List (Str × Nat)) (σ:St):St:=tgs.map (fun _=>none) ++ caps.map fun c=>(σ[c.2]?).join
noncomputable def zmm (wi:TI) (g:TG) (tc:TT) (te:TE) (σ0:St->St):TE:=fun σ H Q=>wi σ H fun J H1=>∀ D,H1 D = none->∃ W:Nat->Nat->St->Hp->Prop,(∃ m,W 0 m (σ0 σ) (upd H1 D (.lst [])))/\∀ i m σ' H',W i m σ' H'->
 (J.stop i H'/\Q (.ref D) H')\/(J.go i H'/\∃ N:St->Hp->Prop,(∀ σ'' H'',N σ'' H''->∃ m',m' < m/\W (i + 1) m' σ'' H'')/\∀ x H2,J.yld i H' x H2->g x σ' H2 fun σ2 H3=>tc σ2 H3 fun b H4=>
  if b = true then te σ2 H4 fun v H5=>∃ ys,H5 D = some (.lst ys)/\ys.length < sizeLine/\N σ2 (upd H5 D (.lst (ys ++ [v]))) else N σ2 H4)
variable {elt iter:Expr} {ifs:List Expr}
theorem zd7 {prog:Program} {R:Result->Shared->Prop} {target:Expr} {it acc:Value} {env:Env} (I:Nat->Shared->Prop)
 (turn:∀ n s,I n s->wpAny (model prog w) A (pyNext it) (fun r s₁=>match r with
 | none=>R (.ok .next) s₁
 | some v=>wpAny (model prog w) A (letOwnedTupleGo target it v) (fun _ s₁'=>wpAny (model prog w) A (assign target env v) (fun _ s₂=>
 wpAny (model prog w) A (forIn ifs true fun c r=>if r = true then do let ok ← isTrue c env (eval c env);pure (ForInStep.yield ok) else pure (ForInStep.yield r)) (fun ok s₃=>
 if ok = true then wpAny (model prog w) A (eval elt env) (fun x s₄=>
 wpAny (model prog w) A (call (.builtin "list.append") [acc,x]) (fun _ s₅=>∃ m,m < n/\I m s₅) (notedBy (model prog w) A env fun e s'=>R (.error e) s') s₄) (notedBy (model prog w) A env fun e s'=>R (.error e) s') s₃
 else ∃ m,m < n/\I m s₃) (notedBy (model prog w) A env fun e s'=>R (.error e) s') s₂) (notedBy (model prog w) A env fun e s'=>R (.error e) s') s₁') (notedBy (model prog w) A env fun e s'=>R (.error e) s') s₁) (notedBy (model prog w) A env fun e s'=>R (.error e) s') s)
 (n:Nat) (h:I n s):codeAny (model prog w) A (.compLoop (.ListComp elt [⟨target,iter,ifs,0⟩] scope pos) 0 it acc env) R s:=by
 refine codeAny_loop rfl I (fun n s hI=>?_) n h
 show wpAny _ A ((compTurn (.ListComp elt [⟨target,iter,ifs,0⟩] scope pos) 0 it acc env).onRaise (fun x=>do noteFrame x env;theTreesLotGoes x)) _ _ s
 refine wpAny_noted ?_
 rw [compTurn_list]
 refine Q1 (wpAny_standAt (Q1 (Qg (turn n s hI) (fun r s₁ h₁=>?_) fun _ _ h'=>h')))
 cases r with
 | none=>exact Qf h₁
 | some v=>
  refine Q1 (Qg h₁ (fun _ s₁' h₁'=>?_) fun _ _ h'=>h')
  refine Q1 (Qg h₁' (fun _ s₂ h₂=>Q1 (Qg h₂ (fun ok s₃ h₃=>?_) fun _ _ h'=>h')) fun _ _ h'=>h')
  cases ok with
  | false=>exact Qf ⟨rfl,h₃⟩
  | true=>
   exact Q1 (Q1 (Qg h₃ (fun x s₄ h₄=>Q1 (Qg h₄ (fun _ s₅ h₅=>Qf (Qf ⟨rfl,h₅⟩)) fun _ _ h'=>h')) fun _ _ h'=>h'))
variable {tg:Expr} {wi:TI}
section
theorem zm6 {tgs:List Str} {caps:List (Str × Nat)} {g:TG} {tc:TT} {te:TE}
 (hc:X.calm = true) (hi:PI X tg iter wi) (hclos:closureFor scope X.env = pure cl) (hcell:∀ y ∈ scope.names,y.2 = .cell->y.1 ∉ caps.map (·.1)) (hkind:scope.kind = .function)
 (hnames:∀ y ∈ scope.names,y.2 = .local->scope.names.lookup y.1 = some .local)
 (hcl:∀ y c,cl.lookup y = some c->X.env.cells.lookup y = some c)
 (hhas:∀ n y,((relabel scope X.env).names.lookup y = some .cell\/(relabel scope X.env).names.lookup y = some .free)->∃ c,(cellsFrom n scope.names cl).lookup y = some c)
 (hcap:∀ c ∈ caps,X.N[c.2]? = some c.1/\X.env.kindOf c.1 = some .cell/\((relabel scope X.env).names.lookup c.1 = some .cell\/(relabel scope X.env).names.lookup c.1 = some .free))
 (hg:∀ ex s0 H0,PG (X.block scope cl (tgs ++ caps.map (·.1)) ex s0 H0) tg g) (hif:∀ ex s0 H0,PTs (X.block scope cl (tgs ++ caps.map (·.1)) ex s0 H0) ifs tc) (hel:∀ ex s0 H0,PE (X.block scope cl (tgs ++ caps.map (·.1)) ex s0 H0) elt te)
 (hs:∀ x,foldedSetIterable iter X.env x = pure x:=by intro _;rfl) :
  PE X (.ListComp elt [⟨tg,iter,ifs,0⟩] scope pos) (zmm wi g tc te (zds tgs caps)):=by
 intro pins s σ H Q I h
 rw [eval_ListComp]
 refine wpAny_comprehension_free (use:=none) rfl hs hclos hkind hnames (thn (hi pins s σ H _ I h) fun v s1 h1=>thn h1 fun itv s2 h2=>?_)
 obtain ⟨it,fp,tn,J,H2,e,I2,T,st2,f2,hrest⟩:=h2
 subst e
 -- the new list
 have hD:H2 s2.heap.objs.size = none:=I2.fresh
 obtain ⟨W,⟨m0,w0⟩,turn⟩:=hrest _ hD
 refine wpAny_newObj_type ?_ (by show 0<=sizeLine;decide)
 have I3:Inv X pins σ (upd H2 s2.heap.objs.size (.lst [])) { s2 with heap:=s2.heap.push { cls:=.type "list",data:=.seq ([]:List Value).toArray } }:=I2.lnew (t':=s2.toks) (ys:=[]) (its:=[]) .nil (by show 0<=sizeLine;decide)
 generalize hs3:({ s2 with heap:=s2.heap.push { cls:=.type "list",data:=.seq ([]:List Value).toArray } }:Shared) = s3 at I3
 have lt2:∀ b o,s2.heap.get? b = some o->s3.heap.get? b = some o:=fun b o e=>by rw [← hs3];exact Q2 _ e
 have sz3:s2.heap.objs.size < s3.heap.objs.size:=by rw [← hs3];show _ < (s2.heap.push _).objs.size;rw [Heap.size_push];exact Nat.lt_succ_self _
 have st3:tn 0 s3.heap:=T.keep 0 _ _ st2 fun b _ o e=>lt2 b o e
 have fplt:∀ b ∈ fp,b < s2.heap.objs.size:=fun b hb=>by
  obtain ⟨o,e,_⟩:=T.obj 0 _ st2 b hb
  exact Qe e
 generalize hH3:upd H2 s2.heap.objs.size (.lst []) = H3 at I3 w0
 have fr3:∀ b ∈ fp,H3 b = none:=fun b hb=>by rw [← hH3,zl (Qk (fplt b hb))];exact (f2 b hb).1
 have nstk:∀ b ∈ fp,b ∉ frs X.stack:=fun b hb z=>by
  obtain ⟨_,n1,n2,_⟩:=f2 b hb
  rcases mem_cons.mp (I2.stkSub b z) with z | z
  ·exact n1 z
  ·exact n2 z
 refine zcv fun h4 ns4 sb4=>?_
 have keep4:∀ b o,s3.heap.get? b = some o->h4.get? b = some o:=fun b o e=>by rw [sb4];exact pushCells_keeps _ _ b o (Q2 _ e)
 have clt:∀ x c,cl.lookup x = some c->c < s3.heap.objs.size:=fun x c e=>by
  obtain ⟨v,q⟩:=I3.cell x c (hcl x c e)
  exact q.lt
 have cor:∀ x c,(cellsFrom (s3.heap.objs.size + 1) scope.names cl).lookup x = some c->cl.lookup x = some c\/s3.heap.objs.size + 1<=c:=fun x c e=>zj2 _ _ _ e
 have cne:∀ b ∈ fp,∀ x c,(cellsFrom (s3.heap.objs.size + 1) scope.names cl).lookup x = some c->c ≠ b:=fun b hb x c e=>by
  rcases cor x c e with e | e
  ·exact (f2 b hb).2.2.2.2.1 x c (hcl x c e)
  ·exact Nat.ne_of_gt (Q5 (Nat.lt_trans (fplt b hb) sz3) (Nat.le_of_succ_le e))
 have neC:∀ b ∈ fp,b ≠ s3.heap.objs.size:=fun b hb=>Qk (Nat.lt_trans (fplt b hb) sz3)
 have ok':(X.block scope cl (tgs ++ caps.map (·.1)) fp s3 H3).Ok:=
  ⟨I.ok.mod,hkind,I.ok.glob,I.ok.blt,Q3 _,zim _ _ _ (fun x y c e1 e2=>I.ok.inj x y c (hcl x c e1) (hcl y c e2)) (fun x c e=>Nat.lt_succ_of_lt (clt x c e)),hhas _,(fun x c z e=>Nat.le_of_succ_le (zik _ _ _ (eq_of_beq z) e)),I.ok.hd,I.ok.frames,.inl rfl,
   fun b hb=>⟨neC b hb,cne b hb⟩,I3.bs,Qj I.ok.bsz I3.sz,fun b o e hb=>by
    rcases (f2 b hb).2.2.2.1 with z | z
    ·exact I.ok.noex b o e z
    ·exact absurd (Q5 (Qe e) (Qj I.ok.bsz z)) (Qo _),
   nstk,I3.stack,I3.stkFree⟩
 have I4:Inv (X.block scope cl (tgs ++ caps.map (·.1)) fp s3 H3) [] (zds tgs caps σ) H3 { s3 with heap:=h4 }:=by
  refine ⟨ok',rfl,I3.bare,Un.kept keep4,⟨_,ns4,fun i x v e1 e2 e3=>?_⟩,fun x c e=>?_,I3.hok.fresh (Q3 _),fun x c e=>(cor x c e).elim (fun e=>I3.freeC x c (hcl x c e)) (fun e=>I3.hok.fresh (Nat.le_of_succ_le e)),fun p hp=>by simp [Cx.block] at hp,I3.hok.kept keep4,by simp [zds,Cx.block]⟩
  ·-- a captured name
   have hlen:(tgs.map (fun _=>(none:Option V))).length = tgs.length:=by simp
   by_cases hi:i < tgs.length
   ·have:(zds tgs caps σ)[i]? = some none:=by
     unfold zds
     rw [Q6 (by simpa using hi)]
     simp [hi]
    rw [this] at e2
    cases e2
   ·have e1':(tgs ++ caps.map (·.1))[i]? = some x:=e1
    rw [Q8 (by omega),Qb] at e1'
    have e2':=e2
    unfold zds at e2'
    rw [Q8 (by simpa using hi),hlen,Qb] at e2'
    cases hcq:caps[i - tgs.length]? with
    | none=>rw [hcq] at e1';cases e1'
    | some cq=>
     rw [hcq] at e1' e2'
     have ex:cq.1 = x:=Qd e1'
     have ev:(σ[cq.2]?).join = some v:=Qd e2'
     obtain ⟨c1,c2,c3⟩:=hcap cq (Qa hcq)
     have ev':σ[cq.2]? = some (some v):=by
      cases q:σ[cq.2]? with
      | none=>rw [q] at ev;cases ev
      | some o=>rw [q] at ev;cases o with
       | none=>cases ev
       | some v'=>rw [show v' = v from Qd ev]
     obtain ⟨m,hn,hl⟩:=I3.loc
     obtain ⟨u,r,lk⟩:=hl cq.2 cq.1 v c1 ev' (.inr (.inl c2))
     rcases lk with ⟨k1,_⟩ | ⟨_,c,ec,icl⟩
     ·rw [c2] at k1;cases k1
     ·obtain ⟨c',ec'⟩:=hhas (s3.heap.objs.size + 1) cq.1 c3
      have ec2:=ec'
      rw [zil _ _ _ fun y hy hk hyx=>hcell y hy hk (by rw [hyx];exact List.mem_map_of_mem (Qa hcq))] at ec2
      have:=hcl _ _ ec2
      rw [ec] at this
      cases this
      refine ⟨u,r,.inr ⟨?_,c,?_,?_⟩⟩
      ·rw [← ex];exact c3
      ·rw [← ex];exact ec'
      ·obtain ⟨o,ho,hd⟩:=icl
       exact ⟨o,keep4 _ _ ho,hd⟩
  ·show ∃ v,h4.IsCell c v
   rw [sb4]
   refine zgu scope.names _ cl (fun x c f=>?_) x c (by rw [Heap.size_push];exact e)
   obtain ⟨v,o,ho,hd⟩:=I3.cell x c (hcl x c f)
   exact ⟨v,o,Q2 _ ho,hd⟩
 have stat:∀ {H':Hp},(∀ b ∈ fp,H' b = none)->∀ b ∈ fp,zfr (X.block scope cl (tgs ++ caps.map (·.1)) fp s3 H3) [] H' b:=fun hn b hb=>
  ⟨hn b hb,neC b hb,nstk b hb,.inl hb,cne b hb,fun p hp=>by simp [Cx.block] at hp⟩
 have st4:tn 0 h4:=T.keep 0 _ _ st3 fun b _ o e=>keep4 b o e
 have loop:codeAny (model X.prog X.w) X.A (.compLoop (.ListComp elt [⟨tg,iter,ifs,0⟩] scope pos) 0 (.ref it) (.ref s2.heap.objs.size) (zir scope cl s3.heap.objs.size X.env))
   (compPost (model X.prog X.w) X.A X.xe none (EP X pins σ Q) (.ref s2.heap.objs.size) s3.heap.objs.size) { s3 with heap:=h4 }:=by
  refine zd7 (fun n s'=>∃ i σ' H',Inv (X.block scope cl (tgs ++ caps.map (·.1)) fp s3 H3) [] σ' H' s'/\tn i s'.heap/\(∀ b ∈ fp,H' b = none)/\W i n σ' H') ?_ m0 ⟨0,_,H3,I4,st4,fr3,w0⟩
  rintro n s5 ⟨i,σ5,H5,I5,st5,fr5,w5⟩
  rcases turn i n σ5 H5 w5 with ⟨stop,qn⟩ | ⟨go,N,hN,step⟩
  ·refine Qg (T.done (X.block scope cl (tgs ++ caps.map (·.1)) fp s3 H3) rfl rfl rfl hc i [] s5 σ5 H5 (fun _ _=>False) I5 (stat fr5) st5 stop) (fun r s6 ⟨hr,I6⟩=>?_) fun _ _ z=>False.elim z
   subst hr
   obtain ⟨m6,hn6,_⟩:=I6.loc
   refine ⟨m6,hn6,fun h' sb=>?_⟩
   have nb:∀ b o,s3.heap.get? b = some o->b ≠ s3.heap.objs.size:=fun b o e=>Qk (Qe e)
   have eqb:∀ b,b ≠ s3.heap.objs.size->h'.get? b = s6.heap.get? b:=fun b hb=>sb.2 b hb
   have uX:Un (frs X.stack) fp H3 H5 s3.heap h':=by
    have u:=I6.base
    refine ⟨fun b o e a1 a2 a3=>?_,fun b o e a1 a2 a3=>?_,u.free,fun b o e a3=>?_,u.tups,u.frzs,u.tbls⟩
    ·rw [eqb b (nb b o e)];exact u.keep b o e a1 a2 a3
    ·rw [eqb b (nb b o e)];exact u.slot b o e a1 a2 a3
    ·rw [eqb b (nb b o e)];exact u.there b o e a3
   have hokX:HOk X.prog X.w H5 h':=fun a o e=>(I6.hok a o e).stay (fun b u hb eu=>by
    have hbC:b ≠ s3.heap.objs.size:=fun z=>by
     have hfC:H5 s3.heap.objs.size = none:=I6.free
     rcases hb with rfl | hb
     ·rw [z,hfC] at e;cases e
     ·rw [z,hfC] at hb;cases hb
    rw [eqb b hbC];exact eu) (fun _ q=>q) fun _ _ q=>q
   have os6:s6.os = s3.os:=I6.os
   exact ⟨.ref s2.heap.objs.size,H5,I3.call' (s':={ s6 with heap:=h' }) (ch:=fp) os6 uX hokX I6.bare (fun b hb=>⟨(f2 b hb).2.2.2.1,(f2 b hb).2.1,(f2 b hb).2.2.2.2.1,(f2 b hb).2.2.2.2.2⟩),rfl,qn⟩
  ·refine Qg (T.item (X.block scope cl (tgs ++ caps.map (·.1)) fp s3 H3) rfl rfl rfl hc i [] s5 σ5 H5 (fun _ _=>False) I5 (stat fr5) st5 go) (fun r s6 ⟨u,hr,h6⟩=>?_) fun _ _ z=>False.elim z
   subst hr
   refine Qg h6 (fun _ s7 ⟨x,H7,I7,r7,y7,st7,fr7⟩=>?_) fun _ _ z=>False.elim z
   have I7':=I7.pinned (stat fr7) (T.obj _ _ st7)
   have again:∀ {s9:Shared} {σ9:St} {H9:Hp},Inv (X.block scope cl (tgs ++ caps.map (·.1)) fp s3 H3) ([] ++ zen fp s7.heap) σ9 H9 s9->N σ9 H9->
     ∃ m,m < n/\∃ i σ' H',Inv (X.block scope cl (tgs ++ caps.map (·.1)) fp s3 H3) [] σ' H' s9/\tn i s9.heap/\(∀ b ∈ fp,H' b = none)/\W i m σ' H':=fun {s9 σ9 H9} I9 n9=>by
    obtain ⟨m',hm,w9⟩:=hN σ9 H9 n9
    refine ⟨m',hm,i + 1,σ9,H9,I9.unpinned,T.keep _ _ _ st7 fun b hb o e=>(I9.pin (b,o) (Qm _ (Qm _ (zcI hb e)))).1,fun b hb=>?_,w9⟩
    obtain ⟨o,e,d⟩:=T.obj _ _ st7 b hb
    exact (I9.pin (b,o) (Qm _ (Qm _ (zcI hb e)))).2.1
   refine Qg (hg fp s3 H3 _ s7 σ5 H7 x u _ I7' r7 (step x H7 y7)) (fun _ s8 ⟨σ8,H8,I8,q8⟩=>?_) fun _ _ z=>False.elim z
   refine Qg (hif fp s3 H3 _ s8 σ8 H8 _ I8 q8) (fun b s9 ⟨H9,I9,q9⟩=>?_) fun _ _ z=>False.elim z
   cases b with
   | false=>
    rw [if_neg Q4] at q9
    rw [if_neg Q4]
    exact again I9 q9
   | true=>
    rw [if_pos rfl] at q9
    rw [if_pos rfl]
    refine Qg (hel fp s3 H3 _ s9 σ8 H9 _ I9 q9) (fun xv s10 ⟨v,H10,I10,rv,ys,hy,hl,q10⟩=>?_) fun _ _ z=>False.elim z
    refine Qg (zD (X:=X.block scope cl (tgs ++ caps.map (·.1)) fp s3 H3) _ s10 σ8 H10 (.ref s2.heap.objs.size) [v] (.ref s2.heap.objs.size) [xv] (fun _ H11=>N σ8 H11) I10 rfl (.cons rv .nil) ⟨_,ys,v,rfl,rfl,hy,hl,q10⟩) (fun _ s11 ⟨_,H11,I11,_,q11⟩=>again I11 q11) fun _ _ z=>False.elim z
 exact codeAny_compStart_list loop (T.self _ 0 _ _ _ st4 loop)
end
noncomputable def Each {α:Type} (P:α->Prop):List α->Prop
 | []=>True
 | a :: l=>P a/\Each P l
theorem Each.of {α:Type} {P:α->Prop}:∀ {l:List α},Each P l->∀ a ∈ l,P a
 | _ :: _,⟨h,_⟩,_,.head _=>h
 | _ :: _,⟨_,h⟩,_,.tail _ m=>Each.of h _ m
variable {l:List (Str × NameKind)}
theorem lookup_mem {y:Str} {k:NameKind} (h:l.lookup y = some k):(y,k) ∈ l:=by
 induction l with
 | nil=>cases h
 | cons p l ih=>
  obtain ⟨n,k'⟩:=p
  rw [lookup_cons] at h
  cases e:y == n with
  | true=>
   rw [e] at h
   cases h
   rw [eq_of_beq e]
   exact .head _
  | false=>
   rw [e] at h
   exact .tail _ (ih h)
theorem zpu (h:Each (fun p=>(p.2 = .cell\/p.2 = .free)->∃ c,cl.lookup p.1 = some c) l) (y:Str) (q:l.lookup y = some .cell\/l.lookup y = some .free):∃ c,cl.lookup y = some c:=by
 rcases q with q | q
 ·exact h.of _ (lookup_mem q) (.inl rfl)
 ·exact h.of _ (lookup_mem q) (.inr rfl)
theorem PI.or {wi':TI} (h:PI X tg iter wi) (h':PI X tg iter wi'):PI X tg iter (fun σ H R=>wi σ H R\/wi' σ H R):=fun pins s σ H R I q=>q.elim (h pins s σ H R I) (h' pins s σ H R I)
section
noncomputable def zqw (K:Frag):R2:=fun x y H Q=>∃ a b xs ys,x = .ref a/\y = .ref b/\SqT K H a xs/\SqT K H b ys/\xs.length + ys.length<=sizeLine /\
 (xs = []->Q (.ref b) H)/\(xs ≠ []->ys = []->Q (.ref a) H)/\(xs ≠ []->ys ≠ []->∀ p,H p = none->Q (.ref p) (upd H p (.tup (xs ++ ys))))
theorem znk:OpR X (binaryOp .Add) (zqw X.K):=by
 intro pins s σ H x y v u Q I rx ry h
 obtain ⟨a,b,xs,ys,rfl,rfl,ha,hb,hz,q0,q1,q2⟩:=h
 by_cases hx:xs = []
 ·cases rx
  cases ry
  obtain ⟨its,r1,p1,_⟩:=I.tuple ha
  obtain ⟨its2,r2,p2,_⟩:=I.tuple hb
  obtain ⟨⟨cls,dd,data,sl⟩,ho,hc,n,hd⟩:=id p1
  obtain ⟨⟨cls2,dd2,data2,sl2⟩,ho2,hc2,n2,hd2⟩:=id p2
  simp only at hc hd hc2 hd2
  subst hc hd hc2 hd2
  have e:its = []:=r1.nil_iff.mpr hx
  exact concat_meets ⟨_,ho,rfl⟩ ⟨_,ho2,rfl⟩ noFill_tuple_add seq_tuple_add PySem.F.slot_tuple_add PySem.F.entry_tuple_add (PySem.F.args_tuple_add_2 _ _)
   (tuple_addW0 a b its.toArray its2.toArray n n2 dd dd2 sl sl2 (by simp [e])) ⟨ho,ho2,⟨.ref b,H,I,rfl,q0 hx⟩⟩
 ·exact znj pins s σ H _ _ v u Q I rx ry ⟨a,b,xs,ys,rfl,rfl,ha,hb,hx,hz,q1 hx,q2 hx⟩
end
end L2
namespace HT
open PySem PySem.Spec PyProof.Rows
section
variable {prog:Program} {w:World} {A:Around} {E:Value->Shared->Prop} {s:Shared}
theorem zec {t sl:Addr} {items:Array Value} {vl vu:Value} {lo hi:Option Int} {Q:Value->Shared->Prop} (ht:IsTup s.heap t items) (hs:s.heap.IsSliceOf sl vl vu .none) (pl:IsPart vl lo) (pu:IsPart vu hi)
  (hw:sIx items.size 0 lo = 0/\sIx items.size items.size hi = items.size) (h:Q (.ref t) s):wpAny (model prog w) A (getItem (.ref t) (.ref sl)) Q E s:=by
 obtain ⟨os,hos,hcs,hds⟩:=id hs
 have hTs:s.TypeIs (.ref sl) "slice":=⟨os,hos,hcs⟩
 unfold getItem
 try with_reducible refine wpAny_holding ?_
 first | refine Q1 (Qf ?_) | skip
 refine Q1 (wpAny_sequenceKey ht.typeIs (by decide) ?_)
 refine Q1 (wpAny_callSpecial?_slot (name:=Str.ofString "__getitem__") ht.typeIs PyProof.Rows.slot_tuple_getitem
  (wpAny_call_entry PyProof.Rows.slot_tuple_getitem ht.typeIs entry_tuple_getitem ?_ (args_tuple_getitem _ _)))
 show wpAny _ _ (Builtin.Tuple.tupleItemsOf (.ref t) >>= _) _ _ s
 refine Q1 (tupleItemsOf_ ht ?_)
 refine Q1 (wpAny_typeOf hTs ?_)
 rw [if_pos (by decide)]
 refine Q1 (zcR hs pl pu ?_)
 have hyes:(((sIx items.size 0 lo:Nat):Int) == 0 && (1:Int) == 1 && (sIx items.size items.size hi - sIx items.size 0 lo) == items.size) = true:=by
  rw [hw.1,hw.2];simp
 show wpAny _ _ (if (((sIx items.size 0 lo:Nat):Int) == 0 && (1:Int) == 1 && (sIx items.size items.size hi - sIx items.size 0 lo) == items.size) = true then _ else _) _ _ s
 rw [if_pos hyes]
 refine Q1 ?_
 unfold Builtin.Tuple.tupleIsExact
 refine Q1 (wpAny_typeOf ht.typeIs (Qf ?_))
 rw [if_pos (by decide)]
 exact Q1 (wpAny_rule (Qf ⟨_,rfl,Qf h⟩))
end
end HT
namespace L2
open PySem PySem.Spec PyProof.Rows
variable {X:Cx}
section
noncomputable def zrr (K:Frag):V->Option Int->Option Int->Hp->VK->Prop:=fun x lo hi H Q=>∃ a xs,x = .ref a/\SqT K H a xs /\
 ((HT.sIx xs.length 0 lo = 0/\HT.sIx xs.length xs.length hi = xs.length)->Q (.ref a) H)/\(¬ (HT.sIx xs.length 0 lo = 0/\HT.sIx xs.length xs.length hi = xs.length)->∀ p,H p = none->Q (.ref p) (upd H p (.tup (cutV xs lo hi))))
theorem zmJ:SlR X (zrr X.K):=by
 intro pins s σ H x v vl vu lo hi sl Q I rx hs pl pu h
 obtain ⟨a,xs,rfl,hx,q1,q2⟩:=h
 by_cases hw:HT.sIx xs.length 0 lo = 0/\HT.sIx xs.length xs.length hi = xs.length
 ·cases rx
  obtain ⟨its,r,ht,hz⟩:=I.tuple hx
  have hlen:its.toArray.size = xs.length:=by rw [Qi];exact r.length.symm
  refine ⟨"tuple",_,PyProof.Rows.slot_tuple_getitem.lookup,ht.typeIs,?_⟩
  refine HT.zec ht hs pl pu (by rw [hlen];exact hw) ⟨.ref a,H,I,rfl,q1 hw⟩
 ·exact zon pins s σ H _ v vl vu lo hi sl Q I rx hs pl pu ⟨a,xs,rfl,hx,hw,q2 hw⟩
theorem zfg:fillsNumberSlot (.type "tuple") "mul" = pure false:=
 PySem.fillsNumberSlot_seq (id:="tuple.__mul__") (r:=some (.builtin "tuple.__rmul__")) PySem.F.slot_tuple_mul.lookup (by decide +kernel) PySem.F.slot_tuple_rmul.lookup (by decide +kernel)
theorem zhE:seqRepeat? (.type "tuple") = pure (some (.builtin "tuple.__mul__")):=by
 unfold seqRepeat?
 rw [PySem.seqSlot_of (T:="tuple") (name:="__mul__") (id:="tuple.__mul__") PySem.F.slot_tuple_mul.lookup (by decide +kernel),PySem.seqSlot_of (T:="tuple") (name:="__rmul__") (id:="tuple.__rmul__") PySem.F.slot_tuple_rmul.lookup (by decide +kernel)]
 rfl
theorem zf6 (a:Int) (t:Tok) (l:Addr) (items:Array Value) (n:Nat) (dd:Option Addr) (sl:Array (Option Value)) :
  Meets (Builtin.«int.__rmul__» ⟨[.int a t,.ref l],[]⟩) (fun _ R s=>s.heap.get? l = some { cls:=.type "tuple",dict:=dd,data:=.seq items n,slots:=sl }/\R (.ok (.ret Value.notImplemented)) s):=
 .of_wp fun prog w A R s h=>by obtain ⟨hp,g,d,tk,os⟩:=s;obtain ⟨hl,h⟩:=h;wp_walk;exact ⟨_,rfl,h⟩
theorem zjz (l:Addr) (items:Array Value) (n:Nat) (x:Int) (u:Tok) (dd:Option Addr) (sl:Array (Option Value)) (h0:items.isEmpty = false) (h1:2<=x) (h2:x < 2 ^ 63) (h3:items.size * x.toNat<=sizeLine) :
  Meets (Builtin.«tuple.__mul__» ⟨[.ref l,.int x u],[]⟩) (fun _ R s=>s.heap.get? l = some { cls:=.type "tuple",dict:=dd,data:=.seq items n,slots:=sl }/\R (.ok (.ret (Value.ref s.heap.objs.size))) { s with heap:=s.heap.push { cls:=Value.type "tuple",data:=Data.seq (List.foldl (fun x1 x2=>x1 ++ x2) #[] (List.replicate x.toNat items)) },toks:=s.toks }):=
 .of_wp fun prog w A R s h=>by
  obtain ⟨hp,g,d,tk,os⟩:=s;obtain ⟨hl,h⟩:=h
  have f1:=AutoSeq1.idx_int
  have hA:¬(decide (x < -2 ^ 63) || decide (x ≥ 2 ^ 63)) = true:=by simp;omega
  have hB:¬(items.isEmpty || x == 1) = true:=by rw [h0];simp;omega
  have hC:¬(decide (x<=0) || items.isEmpty) = true:=by rw [h0];simp;omega
  have hm:((items.size:Nat):Int) * x = ((items.size * x.toNat:Nat):Int):=by
   rw [Int.natCast_mul,Int.toNat_of_nonneg (by omega)]
  have hs2:(sizeLine:Nat)<=(2 ^ 63 - 1) / 8:=by decide
  have hD:¬((items.size:Nat):Int) * x > (2 ^ 63 - 1) / 8:=by rw [hm];omega
  have hE:¬Builtin.Tuple.tupleTooMany (((items.size:Nat):Int) * x) = true:=by
   rw [hm]
   show ¬ decide (((items.size * x.toNat:Nat):Int) > ((sizeLine:Nat):Int)) = true
   rw [decide_eq_true_iff];omega
  have hT:IsTup hp l items:=⟨_,hl,rfl,n,rfl⟩
  wp_walk using wpAny_loadPart' hl
  rw [if_neg hA]
  refine Q1 (tupleItemsOf_ hT ?_)
  show wpAny _ _ (if (items.isEmpty || x == 1) = true then _ else _) _ _ _
  rw [if_neg hB]
  show wpAny _ _ (if (decide (x<=0) || items.isEmpty) = true then _ else _) _ _ _
  rw [if_neg hC]
  show wpAny _ _ (if ((items.size:Nat):Int) * x > (2 ^ 63 - 1) / 8 then _ else _) _ _ _
  rw [if_neg hD]
  show wpAny _ _ (if Builtin.Tuple.tupleTooMany (((items.size:Nat):Int) * x) = true then _ else _) _ _ _
  rw [if_neg hE]
  have hj:(List.foldl (fun x1 x2=>x1 ++ x2) #[] (List.replicate x.toNat items)).size<=sizeLine:=by
   have:=foldl_rep items.toList x.toNat []
   rw [nil_append,Array.toArray_toList] at this
   rw [this,Qi,len_rep,Nat.mul_comm,Array.length_toList]
   exact h3
  exact Q1 (m:=Builtin.Tuple.tupleExact _) (wpAny_newObj_type (Qf ⟨_,rfl,h⟩) hj)
noncomputable def zqs (K:Frag):R2:=fun x y H Q=>∃ l k xs,x = .ref l/\y = .int k/\SqT K H l xs/\xs ≠ []/\2<=k/\k < 2 ^ 63/\xs.length * k.toNat<=sizeLine /\
 ∀ p,H p = none->Q (.ref p) (upd H p (.tup (List.replicate k.toNat xs).flatten))
theorem znb:OpR X (binaryOp .Mult) (zqs X.K):=by
 intro pins s σ H x y v u Q I rx ry h
 obtain ⟨l,k,xs,rfl,rfl,hH,hx,h1,h2,hz,q⟩:=h
 cases rx
 obtain ⟨t,rfl⟩:=ry
 obtain ⟨its,r,pl,_⟩:=I.tuple hH
 have hl:=r.length
 obtain ⟨⟨cls,dd,data,sl⟩,ho,hc,n,hd⟩:=id pl
 simp only at hc hd
 subst hc hd
 have hlen:its.toArray.size * k.toNat<=sizeLine:=by rw [Qi,← hl];exact hz
 have hne:its.toArray.isEmpty = false:=by
  cases its with
  | nil=>exact absurd (r.nil_iff.mp rfl) hx
  | cons a b=>rfl
 have hnew:List.foldl (fun x1 x2=>x1 ++ x2) #[] (List.replicate k.toNat its.toArray) = (List.replicate k.toNat its).flatten.toArray:=by
  have:=foldl_rep its k.toNat []
  rw [nil_append] at this
  exact this
 refine wpAny_binaryOp_repeat_ref (T:="tuple") (U:="int") (by decide) ⟨_,ho,rfl⟩ (fun s'=>typeIs_int s' k t) zfg F.fills_int_mul F.slot_int_rmul zhE F.slot_int_index.lookup
  (call_meets F.slot_int_rmul (typeIs_int s k t) F.entry_int_rmul (F.args_int_rmul_2 _ _) (zf6 k t l its.toArray n dd sl)
   ⟨ho,rfl,⟨_,ho,rfl⟩,call_meets F.slot_tuple_mul ⟨_,ho,rfl⟩ F.entry_tuple_mul (F.args_tuple_mul_2 _ _) (zjz l its.toArray n k t dd sl hne h1 h2 hlen) ⟨ho,?_⟩⟩)
 rw [hnew]
 refine ⟨.ref s.heap.objs.size,_,I.laid (t':=s.toks) (o:=.tup (List.replicate k.toNat xs).flatten) (fun b ob q=>Q2 _ q) (Q3 _) ?_,rfl,q _ (I.hok.fresh (Q3 _))⟩
 exact ⟨by rw [len_rep,Nat.mul_comm];exact hz,_,r.rep k.toNat,IsTup.new _ _,NoDict.new⟩
end
section
theorem zl1:zix X (zlx X.K):=by
 intro pins s σ H x y v u Q I rx ry h
 obtain ⟨p,xs,i,z,rfl,rfl,hq,he,q⟩:=h
 cases rx
 obtain ⟨t,rfl⟩:=ry
 obtain ⟨its,r,pl,hz⟩:=I.list hq
 obtain ⟨j,h1,h2,h3,h4,h5⟩:=zeQ he
 obtain ⟨w,ew,rw'⟩:=r.get h2
 have hl:=r.length
 have hn:=zcq
 have fin:EP X pins σ Q w s:=⟨z,H,I,rw',q⟩
 by_cases h0:0<=i
 ·have hj:i.toNat = j:=by
   rw [seqIndex_of h0 h5] at h1
   exact Qd h1
  exact wpAny_getItem_list pl.isList h0 (by omega) (by rw [hj];simpa using ew) fin
 ·have hj:(i + (its.toArray.size:Int)).toNat = j:=by
   rw [seqIndex_neg (by omega) h4] at h1
   rw [Qi,← hl]
   exact Qd h1
  exact wpAny_getItem_list_neg pl.isList (by omega) (by rw [Qi] <;> omega) (by omega) (by rw [hj];simpa using ew) fin
end
end L2
namespace L2
open PySem PySem.Spec PyProof.Rows PySem.Builtin PySem.Builtin.ObjectAttr
inductive Tl (h:Heap) (bmB:List Value) (ns:List Str):List Value->Prop
 | base:Tl h bmB ns bmB
 | own {a:Addr} {c:Value} {dd:Option Addr} {cd:ClassData} {sl:Array (Option Value)} {mA:Str->Option Value} {tl:List Value} (e:h.get? a = some ⟨c,dd,.cls cd,sl⟩) (hn:h.Ns cd.ns mA) (no:∀ n ∈ ns,mA n = none) (t:Tl h bmB ns tl):Tl h bmB ns (.ref a :: tl)
variable {C N:Addr} {A:Around} {g:Array GenState} {ab:Bool} {d:Drawn} {h:Heap} {ns sn:List Str} {bm:List Value} {M:Model} {t:Nat} {dd:Option Addr} {col:Option Bool} {k0 k1 k2 k3 k5 y:Option Value} {Q:Option Value->Shared->Prop} {os:OsState} {n nm q:Str} {mN:Str->Option Value} {newId:String} {E:Value->Shared->Prop}
section
variable {h':Heap} {bmB tl:List Value}
theorem Tl.tail (T:Tl h bmB ns tl) (hi:("__init__":Str) ∈ ns):OwnTail h bmB tl:=by
 induction T with
 | base=>exact .base
 | own e hn no _ ih=>exact .own e hn (no _ hi) ih
theorem Tl.along (T:Tl h bmB ns tl) (hm:n ∈ ns) (hB:lookupAlong bmB n = pure y) (hq:Q y ⟨h,g,d,t,os⟩):wpAny M A (lookupAlong tl n) Q E ⟨h,g,d,t,os⟩:=by
 induction T with
 | base=>rw [hB];exact Qf hq
 | own e hn no _ ih=>
  rw [lookupAlong_cons]
  exact Q1 (wpAny_classOwn_cls e hn (by rw [no _ hm];exact ih))
variable {bs:List Value} {hdct:Bool} {sub:List Value} {B:String}
theorem zhU (hC:h.get? C = some (excClassObj nm q C N bs bm hdct sn sub ab col dd k0 k1 k2 k3 k5 newId)) (hn:h.Ns N mN) (T:Tl h bmB ns bm) (hm:n ∈ ns)
 (hbm:mroOf (.type B) = pure bmB) (hB:typeLookup (.type B) n = pure y) (hq:Q ((mN n).or y) ⟨h,g,d,t,os⟩):wpAny M A (typeLookup (.ref C) n) Q E ⟨h,g,d,t,os⟩:=by
 have hr:lookupAlong bmB n = pure y:=by rw [typeLookup_eq,hbm] at hB;exact hB
 rw [typeLookup_eq]
 refine Q1 (wpAny_mroOf_exc hC ?_)
 rw [lookupAlong_cons]
 refine Q1 (wpAny_classOwn_exc hC hn ?_)
 cases hv:mN n with
 | some v=>rw [hv] at hq;exact Qf hq
 | none=>rw [hv] at hq;exact T.along hm hr hq
end
variable {w:World}
section
variable {prog:Program}
variable {name:Str} {x:Addr} {bs:List Value} {sub:List Value} {v:Value} {o:Obj}
theorem zjv {u:Value} {Q:Unit->Shared->Prop} (hC:h.get? C = some (excClassObj nm q C N bs bm true sn sub ab col dd k0 k1 k2 k3 k5 newId)) (T:Tl h zdt ns bm) (hi:("__init__":Str) ∈ ns) (hx:h.get? x = some o) (hc:o.cls = .ref C) (hq:Q () ⟨h,g,d,t,os⟩) :
  wpAny M A (checkBuiltinCall "object.__setattr__" ⟨[.ref x,u,v],[]⟩) Q E ⟨h,g,d,t,os⟩:=by
 have hb:(Value.ref C :: bm).contains (.type "object") = true:=by rw [List.contains_cons,(T.tail hi).hasType PySem.F.store_ValueError.hasOwner,Bool.or_true]
 simp only [checkBuiltinCall,PySem.F.store_ValueError.kind,PySem.F.store_ValueError.split]
 refine Q1 ?_
 unfold isInstance
 repeat (first | (with_reducible refine wpAny_loadPart_at hx ?_;rw [hc]) | (with_reducible refine wpAny_isSubtype_exc hC ?_;rw [hb]) | wp_step)
 exact hq
theorem zju {tk:Tok} {Q:Fin->Shared->Prop} (hC:h.get? C = some (excClassObj nm q C N bs bm true sn sub ab col dd k0 k1 k2 k3 k5 newId)) (hn:h.Ns N mN) (T:Tl h zdt ns bm) (m2:mN name = none) (hm:name ∈ ns)
  (hB:typeLookup (.type "ValueError") name = pure none) (hx:h.get? x = some o) (hc:o.cls = .ref C) (hnc:∀ c,o.data ≠ .cls c) (hd:o.dict = none)
  (hq:∀ h' tk' dx,h.get? dx = none->dx ≠ x->h'.get? x = some { o with dict:=some dx }->h'.Ns1 dx (fun y=>if y = name then some v else none)->(∀ b ob,b ≠ x->h.get? b = some ob->h'.get? b = some ob)->Q (.done (.ret .none)) ⟨h',g,d,tk',os⟩) :
  wpAny (model prog w) A (Builtin.«object.__setattr__» ⟨[.ref x,.str name tk,v],[]⟩) Q E ⟨h,g,d,t,os⟩:=by
 have hp:∀ l,Tl h zdt ns l->refuseLoop (.ref x) "__setattr__" l = pure ():=by
  intro l T
  induction T with
  | base=>exact PySem.F.store_ValueError.passes (.ref x)
  | own _ _ _ _ ih=>rw [refuseLoop_ref];exact ih
 have hp:=hp bm T
 unfold Builtin.«object.__setattr__»
 repeat (first | rw [refuse_eq] | (rw [refuseLoop_ref,hp]) | (with_reducible refine wpAny_loadPart_at hx ?_;rw [hc]) | with_reducible refine wpAny_mroOf_exc hC ?_ | (with_reducible refine zhU hC hn T hm PySem.F.store_ValueError.mro hB ?_;rw [m2]) | wp_step)
 rw [hd,if_neg (by simp [typeHasDict])]
 have e1:(h.push ⟨.type "dict",none,.dict #[] 0,#[]⟩).get? x = some o:=Q2 _ hx
 have ne:x ≠ h.objs.size:=Qk (Qe hx)
 have hfr:=(Heap.get?_some_iff.mp hx).2
 have key:wpAny (model prog w) A (do let d ← alloc ⟨.type "dict",none,.dict #[] 0,#[]⟩;update x fun o=>{ o with dict:=some d };dictMade (.ref C) x d) (fun a s'=>wpAny (model prog w) A (match a with | some d=>storeInDict d (Value.str name tk) name v | none=>noDictFor (Value.ref x) (Value.ref C) name (none.or none:Option Value).isSome) Q E s') E ⟨h,g,d,t,os⟩:=by
  refine Q1 (wpAny_alloc' (Q1 (wpAny_update' e1 (Qf ?_))))
  generalize hg2:(h.push ⟨.type "dict",none,.dict #[] 0,#[]⟩).update x (fun o=>{ o with dict:=some h.objs.size }) = h2
  have gd:h2.get? h.objs.size = some ⟨.type "dict",none,.dict #[] 0,#[]⟩:=by
   rw [← hg2];exact (Heap.get?_update_ne _ _ _ _ ne.symm).trans (Heap.get?_push_at rfl rfl)
  have gx:h2.get? x = some { o with dict:=some h.objs.size }:=by
   rw [← hg2]
   refine Heap.get?_update_self _ e1 ?_
   obtain ⟨oc,od,odt,osl⟩:=o
   cases odt <;> first | rfl | exact hfr
  have nd:h2.Ns h.objs.size (fun _=>none):=⟨_,#[],_,gd,rfl,fun e he=>absurd he (by simp),fun _=>rfl⟩
  show wpAny _ _ (storeInDict h.objs.size (.str name tk) name v) _ _ _
  unfold storeInDict newKeyGuard
  refine Q1 (Qf (Q1 (wpAny_nsSet1 (Heap.Ns1.of_empty nd) fun h' n1 hs=>?_)))
  obtain ⟨oD,esD,epD,a1,a2,a3⟩:=n1.count (Within.cons name v Within.nil)
  refine Q1 (wpAny_lookBehind a1 (by rw [a2];exact pastItsLine_dict (Qj a3 (by rw [Qp,length_nil,sizeLine_eq];omega))) ?_)
  wp_walk
  refine hq h' _ h.objs.size (Heap.get?_none_of_le (Q3 _)) ne.symm ((hs.2 x ne).trans gx) n1 fun b ob hb e=>(hs.2 b (Qk (Qe e))).trans ?_
  rw [← hg2]
  exact (Heap.get?_update_ne _ _ _ _ hb).trans (Q2 _ e)
 cases hdt:o.data with
 | cls c=>exact absurd hdt (hnc c)
 | _=>exact key
theorem zq7 {Q:Unit->Shared->Prop} (hC:h.get? C = some (excClassObj nm q C N bs bm true sn sub ab col dd k0 k1 k2 k3 k5 newId)) (hn:h.Ns N mN) (T:Tl h zdt ns bm) (hi:("__init__":Str) ∈ ns) (m1:mN "__setattr__" = none) (hs:("__setattr__":Str) ∈ ns) (m2:mN name = none) (hm:name ∈ ns)
  (hB:typeLookup (.type "ValueError") name = pure none) (hx:h.get? x = some o) (hc:o.cls = .ref C) (hnc:∀ c,o.data ≠ .cls c) (hd:o.dict = none)
  (hq:∀ h' tk' dx,h.get? dx = none->dx ≠ x->h'.get? x = some { o with dict:=some dx }->h'.Ns1 dx (fun y=>if y = name then some v else none)->(∀ b ob,b ≠ x->h.get? b = some ob->h'.get? b = some ob)->Q () ⟨h',g,d,tk',os⟩) :
  wpAny (model prog w) A (setAttr (.ref x) name v) Q E ⟨h,g,d,t,os⟩:=by
 have f3:=PySem.F.store_ValueError.slot.bind (.ref x)
 unfold setAttr callSpecial? specialOf
 repeat (any_goals (first | assumption | (with_reducible refine wpAny_loadPart_at hx ?_;rw [hc]) | (with_reducible refine zhU hC hn T hs PySem.F.store_ValueError.mro PySem.F.store_ValueError.slot.lookup ?_;rw [m1]) | wp_step))
 refine codeAny_call_builtin PySem.F.store_ValueError.slot.plain PySem.F.store_ValueError.entry (zjv hC T hi hx hc (zju hC hn T m2 hm hB hx hc hnc hd fun h' tk' dx a1 a2 a3 a4 a5=>?_))
 repeat (any_goals (first | assumption | wp_step))
 exact hq h' tk' dx a1 a2 a3 a4 a5
end
noncomputable abbrev zkX (C:Addr) (t:Addr) (od:Option Addr):Obj:=⟨.ref C,od,.fields #[.ref t,.none,.none,.none,.bool false,.none],#[]⟩
noncomputable def ExO (e C:Addr) (od:Option Addr):Heap->Prop:=fun h=>∃ ob,h.get? e = some ob/\ob.cls = .ref C/\ob.dict = od/\∀ c,ob.data ≠ .cls c
noncomputable def ExN (e C t:Addr) (od:Option Addr):Heap->Prop:=fun h=>h.get? e = some (zkX C t od)
variable {e:Addr} {H:Hp} {P:Program}
theorem zpX {t:Addr} {od:Option Addr} (x:ExN e C t od h):ObjOk P w H h e (.ext (ExN e C t od)):=
 ⟨x,⟨_,x⟩,fun _ _ q k=>k _ q⟩
noncomputable def zhn (H:Hp) (e:Addr):Hp:=fun b=>if b = e then none else H b
theorem zcL {b:Addr} (h:b ≠ e):zhn H e b = H b:=if_neg h
theorem zka:zhn H e e = none:=if_pos rfl
variable {X:Cx} {pins:List (Addr × Obj)} {s:Shared} {σ:St}
section
theorem Inv.take {o:HO} (I:Inv X pins σ H s) (h0:X.s₀.heap.get? e = none) (hn:H e = none) (hl:e ≠ X.env.locals) (hc:∀ x c,X.env.cells.lookup x = some c->c ≠ e) (hp:∀ p ∈ X.pn ++ pins,p.1 ≠ e) (new:ObjOk X.prog X.w (upd H e o) s.heap e o):Inv X pins σ (upd H e o) s:=by
 have ne:∀ b ob,X.s₀.heap.get? b = some ob->b ≠ e:=fun b ob q z=>by rw [z,h0] at q;cases q
 have nh:∀ b u,H b = some u->b ≠ e:=fun b u q z=>by rw [z,hn] at q;cases q
 refine ⟨I.ok,I.os,I.bare,⟨I.base.keep,I.base.slot,fun b ob q n x=>by rw [zl (ne b ob q)];exact I.base.free b ob q n x,I.base.there,fun b xs q=>?_,fun b u xs q=>?_,fun b ps q=>?_⟩,I.loc,I.cell,by rw [zl hl.symm];exact I.free,fun x c q=>by rw [zl (hc x c q)];exact I.freeC x c q,fun p q=>?_,?_,I.len⟩
 ·have:=I.base.tups b xs q;rw [zl (nh b _ this)];exact this
 ·have:=I.base.frzs b u xs q;rw [zl (nh b _ this)];exact this
 ·obtain ⟨m,this⟩:=I.base.tbls b ps q;exact ⟨m,by rw [zl (nh b _ this)];exact this⟩
 ·obtain ⟨a,b,c⟩:=I.pin p q
  exact ⟨a,by rw [zl (hp p q)];exact b,c⟩
 ·intro b u q
  by_cases hb:b = e
  ·subst hb;rw [yF] at q;cases q;exact new
  ·rw [zl hb] at q
   exact (I.hok b u q).stay (fun _ _ _ z=>z) (fun c z=>by rw [zl (nh c _ z)];exact z) fun c xs z=>by rw [zl (nh c _ z)];exact z
theorem Inv.let {φ:Heap->Prop} (I:Inv X pins σ H s) (he:H e = some (.ext φ)):Inv X pins σ (zhn H e) s:=by
 have nh:∀ b u,H b = some u->(∀ ψ,u ≠ .ext ψ)->b ≠ e:=fun b u q n z=>by rw [z,he] at q;cases q;exact n φ rfl
 have nn:∀ b,H b = none->zhn H e b = none:=fun b q=>by
  unfold zhn
  split
  ·rfl
  ·exact q
 refine ⟨I.ok,I.os,I.bare,⟨I.base.keep,I.base.slot,fun b ob q n x=>nn b (I.base.free b ob q n x),I.base.there,fun b xs q=>?_,fun b u xs q=>?_,fun b ps q=>?_⟩,I.loc,I.cell,nn _ I.free,fun x c q=>nn _ (I.freeC x c q),fun p q=>?_,?_,I.len⟩
 ·have:=I.base.tups b xs q;rw [zcL (nh b _ this (fun _ z=>by cases z))];exact this
 ·have:=I.base.frzs b u xs q;rw [zcL (nh b _ this (fun _ z=>by cases z))];exact this
 ·obtain ⟨m,this⟩:=I.base.tbls b ps q;exact ⟨m,by rw [zcL (nh b _ this (fun _ z=>by cases z))];exact this⟩
 ·obtain ⟨a,b,c⟩:=I.pin p q
  exact ⟨a,nn _ b,c⟩
 ·intro b u q
  by_cases hb:b = e
  ·subst hb;rw [zka] at q;cases q
  ·rw [zcL hb] at q
   exact (I.hok b u q).stay (fun _ _ _ z=>z) (fun c z=>by rw [zcL (nh c _ z (fun _ y=>by cases y))];exact z) fun c xs z=>by rw [zcL (nh c _ z (fun _ y=>by cases y))];exact z
end
noncomputable def CXX (P:Program) (w:World):CXT:=fun l H s E ev s'=>∃ (e t C:Addr) (oe:Obj) (B:Heap) (H':Hp),ev = .ref e/\Heap.FlyingW B l e (.ref C) (.ref t) s'.heap/\s'.heap.get? e = some oe/\s'.os = s.os/\AllBare s'.gens /\
 Un (frs l) [] H H' s.heap s'.heap/\HOk P w H' s'.heap/\(∀ b o,s'.heap.get? b = some o->b ∉ frs l->(H' b ≠ none\/∃ o',s.heap.get? b = some o')->B.get? b = some o)/\(∀ b ∈ frs l,H' b = none)/\E (.ref C) oe.dict H'
noncomputable abbrev xns:List Str:=["__setattr__","at","__getattribute__","__getattr__"]
structure XcAt (K:Frag) (mg:Str->Option Value) (x:Str) (C fI:Addr):Prop where
 bound:mg x = some (.ref C)
 obj:∀ h:Heap,K.In h->∃ bm N nm q bs sn sub ab col dd k0 k1 k2 k3 k5 mN,h.get? C = some (excClassObj nm q C N bs bm true sn sub ab col dd k0 k1 k2 k3 k5 "ValueError.__new__")/\h.Ns N mN/\mN "__init__" = some (.ref fI)/\(∀ n ∈ xns,mN n = none)/\Tl h zdt ("__init__" :: xns) bm
 fn:∃ oI,K.lookup fI = some oI/\oI.cls = .type "function"
theorem znu:typeLookup (.type "ValueError") "at" = pure none:=by rw [typeLookup_type,builtinLookup_eq_fast];kernel_rfl
section
variable {E:XK} {o value:Expr} {ta tv:TE} {pos pos':Pos}
theorem Inv.new0 (I:Inv X pins σ H s) (hex:X.ex = []) (he:s.heap.get? e = none):X.s₀.heap.get? e = none/\H e = none/\e ≠ X.env.locals/\(∀ x c,X.env.cells.lookup x = some c->c ≠ e)/\∀ p ∈ X.pn ++ pins,p.1 ≠ e:=by
 refine ⟨?_,?_,fun z=>?_,fun x c q z=>?_,fun p q z=>?_⟩
 ·cases q:X.s₀.heap.get? e with
  | none=>rfl
  | some u=>
   obtain ⟨o',e'⟩:=I.base.there e u q (by rw [hex];simp)
   rw [he] at e';cases e'
 ·cases q:H e with
  | none=>rfl
  | some u=>
   obtain ⟨o',e'⟩:=(I.hok e u q).there
   rw [he] at e';cases e'
 ·obtain ⟨m,⟨ob,_,_,e',_⟩,_⟩:=I.loc
  rw [← z,he] at e';cases e'
 ·obtain ⟨v,ob,e',_⟩:=I.cell x c q
  rw [z,he] at e';cases e'
 ·have:=(I.pin p q).1
  rw [z,he] at this;cases this
theorem zoD (hex:X.ex = []) (ha:PE X o ta) (hv:PE X value tv) (hs:swapsWith value (some (.Attribute o "at" pos')) pos.line X.env = pure false:=by rfl):PS X (.Assign [.Attribute o "at" pos'] value pos)
  (fun D σ H=>tv σ H fun y H1=>ta σ H1 fun x H2=>∃ e C fI t nm,x = .ref e/\XcAt X.K X.mg nm C fI/\H2 e = some (.ext (ExN e C t none))/\∀ d,H2 d = none->d ≠ e->D.nx σ (upd (upd H2 e (.ext (ExN e C t (some d)))) d (.xd [("at",y)]))):=by
 intro pins s σ H D I h
 refine plainObj_wpAny_Assign_Attribute (thn (hv pins s σ H _ I h) fun u s1 ⟨y,H1,I1,ry,q⟩=>thn (ha pins s1 σ H1 _ I1 q) fun ov s2 ⟨x,H2,I2,rx,e,C,fI,t,nm,ex,O,ee,q2⟩=>?_) hs
 subst ex
 obtain rfl:ov = Value.ref e:=rx
 obtain ⟨bm,N,nm,q,bs,sn,sub,ab,col,dd,k0,k1,k2,k3,k5,mN,hC,hN,hi,hno,T⟩:=O.obj s2.heap I2.kIn
 obtain ⟨g0,_,_⟩:=I2.hok e _ ee
 have g0:s2.heap.get? e = some (zkX C t none):=g0
 obtain ⟨h2,ge,dr,tk,os⟩:=s2
 refine zq7 hC hN T (by decide) (hno _ (by decide)) (by decide) (hno _ (by decide)) (by decide) znu g0 rfl (fun c z=>by cases z) rfl fun h' tk' dx a1 a2 a3 a4 a5=>?_
 have I3:Inv X pins σ (upd H2 e (.ext (ExN e C t (some dx)))) ⟨h',ge,dr,tk',os⟩:=I2.write (t':=tk') (by rw [ee];trivial) (.inl rfl) (fun b u nb e'=>a5 b u nb e') ⟨_,a3⟩ (zpX a3)
 obtain ⟨b1,b2,b3,b4,b5⟩:=I2.new0 hex a1
 have I4:Inv X pins σ (upd (upd H2 e (.ext (ExN e C t (some dx)))) dx (.xd [("at",y)])) ⟨h',ge,dr,tk',os⟩:=I3.take b1 (by rw [zl a2];exact b2) b3 b4 b5 ⟨_,a4,fun f=>by
  by_cases hf:f = "at"
  ·subst hf;exact ry
  ·rw [if_neg hf]
   show RelO (List.lookup f [("at",y)]) none
   rw [lookup_cons]
   simp only [beq_eq_false_iff_ne.mpr hf,List.lookup_nil]
   trivial⟩
 exact ⟨σ,_,I4,q2 dx b2 a2⟩
end
theorem zja {K:Frag} {mg:Str->Option Value} {base:Heap} {x qual:Str} {st:Stmt} {f:Addr} {fd:FuncData} {p1 p2 p3 p4:Pos} (O:XcAt K mg x C f) (F:Fun K "__init__" qual st f fd) (S:FnScope ["self","at"] ["self","at"] (zg st))
 (hb:yK st = [.Assign [.Attribute (.Name "self" p1) "at" p2] (.Name "at" p3) p4]) (l1:(zg st).names.lookup ("self":Str) = some NameKind.local) (l2:(zg st).names.lookup ("at":Str) = some NameKind.local) :
  FnOk P w K mg base CX0 1 f fd ["self","at"] (fun vs H Q E=>(∃ e t v,vs = [.ref e,v]/\H e = some (.ext (ExN e C t none))/\∀ d,H d = none->d ≠ e->Q .non (upd (upd H e (.ext (ExN e C t (some d)))) d (.xd [("at",v)])))):=by
 refine F.ok S (fun vs H Q E ⟨e,t,v,h,_⟩=>by rw [h];rfl) fun cdv A outer s H vs Q E hr ⟨e,t,v,h1,h2,h3⟩=>?_
 subst h1
 rw [hb]
 refine ⟨_,ziX (zoD rfl (zhH (i:=0) rfl (.inl l1)) (zhH (i:=1) rfl (.inl l2))),?_⟩
 exact ⟨v,rfl,.ref e,rfl,e,C,f,t,x,rfl,O,h2,h3⟩
structure Sup (K:Frag) (mg:Str->Option Value) (y:Str) (C C':Addr):Prop where
 bound:mg y = some (.ref C)
 obj:∀ h:Heap,K.In h->(∃ bm N nm q bs hdct sn sub ab col dd k0 k1 k2 k3 k5,h.get? C = some (excClassObj nm q C N bs bm hdct sn sub ab col dd k0 k1 k2 k3 k5 "ValueError.__new__")/\bm.contains (.type "BaseException") = true) /\
  ∃ bm N nm q bs hdct sn sub ab col dd k0 k1 k2 k3 k5,h.get? C' = some (excClassObj nm q C' N bs bm hdct sn sub ab col dd k0 k1 k2 k3 k5 "ValueError.__new__")/\(Value.ref C' :: bm).contains (.ref C) = true
def PX (X:Cx) (sts:List Stmt) (t:XK->TS):Prop:=
 ∀ (E:XK) (pins:List (Addr × Obj)) (s:Shared) (σ:St) (H:Hp) (D:Ends),Inv X pins σ H s->t E D σ H->
  wpAny (model X.prog X.w) X.A (execs sts X.env) (SP X pins D) (fun ev s'=>∃ H1 s1,Inv X pins σ H1 s1/\CXX X.prog X.w X.stack H1 s1 E ev s') s
end L2
namespace FT
open PySem PySem.Spec PyProof.Rows L2
noncomputable def noStar:Expr->Bool
 | .Starred _ _=>false
 | _=>true
variable {e:Expr} {es:List Expr}
theorem zbE {env:PySem.Env} (h:noStar e = true):starEach (e :: es) env = (false,eval e env) :: starEach es env:=by
 cases e <;> first | rfl | cases h
variable {pos:Pos}
theorem zdK {env:PySem.Env} :∀ {es:List Expr},es.all noStar = true->(backTo pos (starEach es env)).any (·.1) = false:=by
 intro es h
 have h1:(starEach es env).any (·.1) = false:=by
  induction es with
  | nil=>rfl
  | cons e es ih=>
   rw [all_cons,Qs] at h
   rw [zbE h.1,any_cons,ih h.2]
   rfl
 have h2:∀ l:List (Bool × Sem Value),l.any (·.1) = false->(backTo pos l).any (·.1) = false:=by
  intro l hl
  unfold backTo
  rw [List.any_map]
  exact hl
 exact h2 _ h1
inductive T where
 | non | bl (b:Bool) | int (i:Int) | str (x:Str) | ty (n:String) | tup (xs:List T) | lst (xs:List T) | ref (a:Nat) | dct (kvs:List (Key × T)) | exc (C:Addr) (fs:List (Str × T))
inductive Cell where
 | lst (xs:List T) | dic (kvs:List (Key × T)) | ins (C:Addr) (fs:List (Str × T)) | dtu (kvs:List (List Key × T))
noncomputable abbrev Mem:=List Cell
noncomputable abbrev Ev:=List (Option T)
inductive Out (β:Type) where
 | ok (b:β) (M:Mem) | exn (C:Addr) (fs:List (Str × T)) (M:Mem) | bad
noncomputable def Out.bind {β γ:Type} (o:Out β) (k:β->Mem->Out γ):Out γ:=match o with
 | .ok b M=>k b M
 | .exn C fs M=>.exn C fs M
 | .bad=>.bad
theorem zr2 {β γ:Type} (b:β) (M:Mem) (k:β->Mem->Out γ):(Out.ok b M).bind k = k b M:=rfl
theorem zrP {β γ:Type} (k:β->Mem->Out γ):(Out.bad:Out β).bind k = .bad:=rfl
structure Sit where
 α:Nat->Addr
 M:Mem
 H:Hp
 hid:List Addr
def Sit.off (S:Sit) (p:Addr):Prop:=(∀ a,a < S.M.length->S.α a ≠ p)/\p ∉ S.hid
def KL (K:Frag) (a:Addr) (xs:List V):Prop:=
 ∃ (o:Obj) (its:Array Value) (n:Nat),K.lookup a = some o/\o.cls = .type "list"/\o.dict = none/\o.data = .seq its n/\its.size<=sizeLine/\Vals xs its.toList
inductive Rep (K:Frag) (S:Sit):T->V->Prop where
 | non:Rep K S .non .non
 | bl (b:Bool):Rep K S (.bl b) (.bl b)
 | int (i:Int):Rep K S (.int i) (.int i)
 | str (x:Str):Rep K S (.str x) (.str x)
 | ty (x:String):Rep K S (.ty x) (.ty x)
 | tup {ts:List T} {p:Addr} {vs:List V} (h:SqT K S.H p vs) (l:ts.length = vs.length) (r:∀ (i:Nat) t v,ts[i]? = some t->vs[i]? = some v->Rep K S t v):Rep K S (.tup ts) (.ref p)
 | lst {ts:List T} {p:Addr} {vs:List V} (h:(Rd S.H p (.lst vs)/\S.off p)\/KL K p vs) (l:ts.length = vs.length) (r:∀ (i:Nat) t v,ts[i]? = some t->vs[i]? = some v->Rep K S t v):Rep K S (.lst ts) (.ref p)
 | ref {a:Nat} (h:a < S.M.length):Rep K S (.ref a) (.ref (S.α a))
 | dct {kvs:List (Key × T)} {us:List (Key × V)} {p:Addr} {o:Obj} (h:S.H p = some (.frz o (.dK us))) (l:kvs.map (·.1) = us.map (·.1)) (r:∀ (i:Nat) t v,(kvs.map (·.2))[i]? = some t->(us.map (·.2))[i]? = some v->Rep K S t v):Rep K S (.dct kvs) (.ref p)
 | exc {C:Addr} {fs:List (Str × T)} {us:List (Str × V)} {p:Addr} {od:Option Addr} (h:S.H p = some (.ext (ExO p C od))) (hd:(od = none/\us = [])\/∃ d,od = some d/\S.H d = some (.xd us)) (l:fs.map (·.1) = us.map (·.1)) (r:∀ (i:Nat) t v,(fs.map (·.2))[i]? = some t->(us.map (·.2))[i]? = some v->Rep K S t v):Rep K S (.exc C fs) (.ref p)
def Reps (K:Frag) (S:Sit) (ts:List T) (vs:List V):Prop:=ts.length = vs.length/\∀ (i:Nat) t v,ts[i]? = some t->vs[i]? = some v->Rep K S t v
def RepF (K:Frag) (S:Sit) (fs:List (Str × T)) (us:List (Str × V)):Prop:=fs.map (·.1) = us.map (·.1)/\Reps K S (fs.map (·.2)) (us.map (·.2))
def RepK {κ:Type} (K:Frag) (S:Sit) (fs:List (κ × T)) (us:List (κ × V)):Prop:=fs.map (·.1) = us.map (·.1)/\Reps K S (fs.map (·.2)) (us.map (·.2))
noncomputable def CellOk (K:Frag) (S:Sit) (p:Addr):Cell->Prop
 | .lst ts=>∃ vs,S.H p = some (.lst vs)/\Reps K S ts vs
 | .dic kvs=>∃ us,S.H p = some (.dK us)/\RepK K S kvs us
 | .ins C fs=>∃ dx us,S.H p = some (.ins C dx us)/\RepF K S fs us
 | .dtu kvs=>∃ us,S.H p = some (.dT us)/\RepK K S kvs us
structure MemOk (K:Frag) (S:Sit):Prop where
 cell:∀ a c,S.M[a]? = some c->CellOk K S (S.α a) c
 inj:∀ a b,a < S.M.length->b < S.M.length->S.α a = S.α b->a = b
 hd:∀ p ∈ S.hid,(∀ a,a < S.M.length->S.α a ≠ p)/\∃ vs,S.H p = some (.lst vs)
structure Grow (S S':Sit):Prop where
 le:S.M.length<=S'.M.length
 al:∀ a,a < S.M.length->S'.α a = S.α a
 fr:∀ a,S.M.length<=a->a < S'.M.length->S.H (S'.α a) = none
 kp:∀ b o,S.H b = some o->S.off b->S'.H b = some o
 hk:∀ p ∈ S.hid,p ∈ S'.hid/\S'.H p = S.H p
 hf:∀ p ∈ S'.hid,p ∈ S.hid\/S.H p = none
structure Stp (K:Frag) (S S':Sit):Prop extends Grow S S' where
 mok:MemOk K S'
variable {p:Addr} {K:Frag} {ts:List T} {vs:List V} {S':Sit} {t:T} {v:V}
section
variable {S S'':Sit}
theorem MemOk.some (m:MemOk K S) {a:Nat} (h:a < S.M.length):∃ o,S.H (S.α a) = Option.some o/\Mut (Option.some o):=by
 have e:S.M[a]? = Option.some S.M[a]:=by simp [h]
 have c:=m.cell a _ e
 cases q:S.M[a] with
 | lst ts=>rw [q] at c;obtain ⟨vs,e,_⟩:=c;exact ⟨_,e,trivial⟩
 | dic ts=>rw [q] at c;obtain ⟨vs,e,_⟩:=c;exact ⟨_,e,trivial⟩
 | ins C fs=>rw [q] at c;obtain ⟨dx,vs,e,_⟩:=c;exact ⟨_,e,trivial⟩
 | dtu ts=>rw [q] at c;obtain ⟨vs,e,_⟩:=c;exact ⟨_,e,trivial⟩
theorem MemOk.off_of (m:MemOk K S) {o:Option HO} (e:S.H p = o) (h:¬ Mut o):S.off p:=by
 refine ⟨fun a ha z=>?_,fun z=>?_⟩
 ·obtain ⟨o',e',mu⟩:=m.some ha
  rw [z,e] at e'
  rw [e'] at h
  exact h mu
 ·obtain ⟨_,vs,q⟩:=m.hd p z
  rw [e] at q
  rw [q] at h
  exact h trivial
theorem MemOk.off_ext (m:MemOk K S) {φ:Heap->Prop} (e:S.H p = Option.some (.ext φ)):S.off p:=by
 refine ⟨fun a ha z=>?_,fun z=>?_⟩
 ·have ea:S.M[a]? = Option.some S.M[a]:=by simp [ha]
  have c:=m.cell a _ ea
  cases q:S.M[a] with
  | lst ts=>rw [q] at c;obtain ⟨vs,e',_⟩:=c;rw [z,e] at e';cases e'
  | dic ts=>rw [q] at c;obtain ⟨vs,e',_⟩:=c;rw [z,e] at e';cases e'
  | ins C fs=>rw [q] at c;obtain ⟨dx,vs,e',_⟩:=c;rw [z,e] at e';cases e'
  | dtu ts=>rw [q] at c;obtain ⟨vs,e',_⟩:=c;rw [z,e] at e';cases e'
 ·obtain ⟨_,vs,q⟩:=m.hd p z
  rw [e] at q;cases q
theorem MemOk.off_none (m:MemOk K S) (e:S.H p = none):S.off p:=m.off_of e (fun z=>z)
theorem Grow.tup (g:Grow S S') (m:MemOk K S) (h:SqT K S.H p vs):SqT K S'.H p vs:=by
 rcases h with (h | ⟨o,h⟩) | h
 ·exact .inl (.inl (g.kp _ _ h (m.off_of h (fun z=>z))))
 ·exact .inl (.inr ⟨o,g.kp _ _ h (m.off_of h (fun z=>z))⟩)
 ·exact .inr h
theorem Grow.off (g:Grow S S') {o:HO} (h:S.H p = some o) (f:S.off p):S'.off p:=by
 refine ⟨fun a ha z=>?_,fun z=>?_⟩
 ·by_cases hl:a < S.M.length
  ·rw [g.al a hl] at z;exact f.1 a hl z
  ·have:=g.fr a (Nat.le_of_not_lt hl) ha
   rw [z,h] at this
   cases this
 ·rcases g.hf p z with q | q
  ·exact f.2 q
  ·rw [h] at q;cases q
theorem Grow.rd (g:Grow S S') {u:HO} (h:Rd S.H p u) (f:S.off p):Rd S'.H p u/\S'.off p:=by
 rcases h with h | ⟨o,h⟩
 ·exact ⟨.inl (g.kp _ _ h f),g.off h f⟩
 ·exact ⟨.inr ⟨o,g.kp _ _ h f⟩,g.off h f⟩
theorem Rep.grow (m:MemOk K S) (g:Grow S S') (r:Rep K S t v):Rep K S' t v:=by
 induction r with
 | non=>exact .non
 | bl b=>exact .bl b
 | int b=>exact .int b
 | str b=>exact .str b
 | ty b=>exact .ty b
 | tup h l _ ih=>exact .tup (g.tup m h) l ih
 | lst h l _ ih=>
  refine .lst ?_ l ih
  rcases h with ⟨h,f⟩ | h
  ·exact .inl (g.rd h f)
  ·exact .inr h
 | ref h=>rw [← g.al _ h];exact .ref (Q5 h g.le)
 | dct h l _ ih=>exact .dct (g.kp _ _ h (m.off_of h (fun z=>z))) l ih
 | exc h hd l _ ih=>exact .exc (g.kp _ _ h (m.off_ext h)) (hd.imp (fun z=>z) fun ⟨d,a,b⟩=>⟨d,a,g.kp _ _ b (m.off_of b (fun z=>z))⟩) l ih
theorem Reps.grow (m:MemOk K S) (g:Grow S S') (r:Reps K S ts vs):Reps K S' ts vs:=⟨r.1,fun i t v e1 e2=>(r.2 i t v e1 e2).grow m g⟩
theorem RepF.grow (m:MemOk K S) (g:Grow S S') {ts:List (Str × T)} {vs:List (Str × V)} (r:RepF K S ts vs):RepF K S' ts vs:=⟨r.1,r.2.grow m g⟩
theorem RepK.grow {κ:Type} (m:MemOk K S) (g:Grow S S') {ts:List (κ × T)} {vs:List (κ × V)} (r:RepK K S ts vs):RepK K S' ts vs:=⟨r.1,r.2.grow m g⟩
theorem Reps.nil:Reps K S [] []:=⟨rfl,fun _ _ _ e _=>by simp at e⟩
theorem Reps.cons (r:Rep K S t v) (rs:Reps K S ts vs):Reps K S (t :: ts) (v :: vs):=by
 refine ⟨by simp [rs.1],fun i a b e1 e2=>?_⟩
 cases i with
 | zero=>simp at e1 e2;subst e1;subst e2;exact r
 | succ i=>exact rs.2 i a b (by simpa using e1) (by simpa using e2)
theorem Reps.nil_inv (r:Reps K S ts []):ts = []:=List.length_eq_zero_iff.mp (by rw [r.1];rfl)
theorem Reps.consT (r:Reps K S (t :: ts) vs):∃ v vs',vs = v :: vs'/\Rep K S t v/\Reps K S ts vs':=by
 cases vs with
 | nil=>have:=r.1;simp at this
 | cons v vs'=>exact ⟨v,vs',rfl,r.2 0 t v rfl rfl,by have:=r.1;simpa using this,fun i a b e1 e2=>r.2 (i + 1) a b (by simpa using e1) (by simpa using e2)⟩
theorem Reps.nilT (r:Reps K S [] vs):vs = []:=List.length_eq_zero_iff.mp (by rw [← r.1];rfl)
theorem Reps.app {ts':List T} {vs':List V} (r:Reps K S ts vs) (r':Reps K S ts' vs'):Reps K S (ts ++ ts') (vs ++ vs'):=by
 induction ts generalizing vs with
 | nil=>rw [r.nilT];exact r'
 | cons t ts ih=>
  obtain ⟨v,vs1,rfl,r1,r2⟩:=r.consT
  exact (ih r2).cons r1
theorem Reps.get (r:Reps K S ts vs) {i:Nat} (e:ts[i]? = some t):∃ v,vs[i]? = some v/\Rep K S t v:=by
 have hi:i < vs.length:=by rw [← r.1];exact (List.getElem?_eq_some_iff.mp e).1
 have e2:vs[i]? = some vs[i]:=by simp [hi]
 exact ⟨_,e2,r.2 i t _ e e2⟩
theorem Reps.set (r:Reps K S ts vs) (q:Rep K S t v) (j:Nat):Reps K S (ts.set j t) (vs.set j v):=by
 refine ⟨by simp [r.1],fun i a b e1 e2=>?_⟩
 rw [Qc] at e1 e2
 by_cases h:j = i
 ·subst h
  by_cases hl:j < ts.length
  ·rw [if_pos rfl,if_pos hl] at e1
   rw [if_pos rfl,if_pos (by rw [← r.1];exact hl)] at e2
   cases e1;cases e2;exact q
  ·rw [if_pos rfl,if_neg hl] at e1;cases e1
 ·rw [if_neg h] at e1 e2
  exact r.2 i a b e1 e2
theorem Reps.sub (r:Reps K S ts vs) (a b:Nat):Reps K S ((ts.drop a).take b) ((vs.drop a).take b):=by
 refine ⟨by simp [r.1],fun i x y e1 e2=>?_⟩
 rw [List.getElem?_take] at e1 e2
 split at e1
 ·rename_i h
  rw [if_pos h] at e2
  rw [List.getElem?_drop] at e1 e2
  exact r.2 _ x y e1 e2
 ·cases e1
theorem CellOk.grow (m:MemOk K S) (g:Grow S S') {c:Cell} (e:S'.H p = S.H p) (h:CellOk K S p c):CellOk K S' p c:=by
 cases c with
 | lst ts=>obtain ⟨vs,q,r⟩:=h;exact ⟨vs,by rw [e];exact q,r.grow m g⟩
 | dic ts=>obtain ⟨vs,q,r⟩:=h;exact ⟨vs,by rw [e];exact q,r.grow m g⟩
 | ins C ts=>obtain ⟨dx,vs,q,r⟩:=h;exact ⟨dx,vs,by rw [e];exact q,r.grow m g⟩
 | dtu ts=>obtain ⟨vs,q,r⟩:=h;exact ⟨vs,by rw [e];exact q,r.grow m g⟩
theorem Stp.refl (m:MemOk K S):Stp K S S:=⟨⟨Q3 _,fun _ _=>rfl,fun a h1 h2=>absurd (Q5 h2 h1) (Qo _),fun _ _ e _=>e,fun _ h=>⟨h,rfl⟩,fun _ h=>.inl h⟩,m⟩
theorem Stp.trans (a:Stp K S S') (b:Stp K S' S''):Stp K S S'':=by
 have nn:∀ p,S'.H p = none->S.H p = none:=fun p hn=>by
  cases q:S.H p with
  | none=>rfl
  | some o=>
   by_cases f:S.off p
   ·rw [a.kp _ _ q f] at hn;cases hn
   ·exfalso
    apply f
    refine ⟨fun c hc z=>?_,fun z=>?_⟩
    ·have h3:c < S'.M.length:=Q5 hc a.le
     obtain ⟨o',e',_⟩:=a.mok.some h3
     rw [a.al c hc,z,hn] at e'
     cases e'
    ·rw [(a.hk p z).2,q] at hn;cases hn
 refine ⟨⟨Qj a.le b.le,fun i hi=>(b.al i (Q5 hi a.le)).trans (a.al i hi),fun i h1 h2=>?_,fun p o e f=>b.kp _ _ (a.kp _ _ e f) (a.off e f),fun p h=>⟨(b.hk p (a.hk p h).1).1,(b.hk p (a.hk p h).1).2.trans (a.hk p h).2⟩,fun p h=>?_⟩,b.mok⟩
 ·by_cases hl:i < S'.M.length
  ·rw [b.al i hl];exact a.fr i h1 hl
  ·exact nn _ (b.fr i (Nat.le_of_not_lt hl) h2)
 ·rcases b.hf p h with q | q
  ·exact a.hf p q
  ·exact .inr (nn p q)
theorem Stp.new (m:MemOk K S) (hp:S.H p = none) (o:HO):Stp K S ⟨S.α,S.M,upd S.H p o,S.hid⟩:=by
 have g:Grow S ⟨S.α,S.M,upd S.H p o,S.hid⟩:=⟨Q3 _,fun _ _=>rfl,fun a h1 h2=>absurd (Q5 h2 h1) (Qo _),fun b u e _=>by show upd S.H p o b = _;rw [zl (qE e hp)];exact e,fun q h=>⟨h,by obtain ⟨_,vs,e⟩:=m.hd q h;exact zl (qE e hp)⟩,fun q h=>.inl h⟩
 refine ⟨g,⟨fun a c e=>?_,m.inj,fun q h=>?_⟩⟩
 rotate_left
 ·obtain ⟨h1,vs,e⟩:=m.hd q h
  exact ⟨h1,vs,(zl (qE e hp)).trans e⟩
 refine (m.cell a c e).grow m g ?_
 have ha:a < S.M.length:=(List.getElem?_eq_some_iff.mp e).1
 exact zl ((m.off_none hp).1 a ha)
noncomputable def Sit.more (S:Sit) (p:Addr) (o:HO) (c:Cell):Sit:=⟨fun a=>if a = S.M.length then p else S.α a,S.M ++ [c],upd S.H p o,S.hid⟩
theorem Grow.more (m:MemOk K S) (hp:S.H p = none) (o:HO) (c:Cell):Grow S (S.more p o c):=by
 refine ⟨by show _<=(S.M ++ [c]).length;simp,fun a h=>if_neg (Qk h),fun a h1 h2=>?_,fun b u e _=>?_,fun q h=>⟨h,by obtain ⟨_,vs,e⟩:=m.hd q h;exact zl (qE e hp)⟩,fun q h=>.inl h⟩
 ·have h3:a < (S.M ++ [c]).length:=h2
  have:a = S.M.length:=by simp at h3;omega
  show S.H (if a = S.M.length then p else S.α a) = none
  rw [if_pos this];exact hp
 ·show upd S.H p o b = _;rw [zl (qE e hp)];exact e
theorem Stp.more (m:MemOk K S) (hp:S.H p = none) (o:HO) (c:Cell) (hc:CellOk K (S.more p o c) p c):Stp K S (S.more p o c):=by
 have g:=Grow.more m hp o c
 refine ⟨g,⟨fun a d e=>?_,fun a b h1 h2 e=>?_,fun q h=>?_⟩⟩
 rotate_right
 ·obtain ⟨h1,vs,e⟩:=m.hd q h
  refine ⟨fun a ha z=>?_,vs,(zl (qE e hp)).trans e⟩
  have z':(if a = S.M.length then p else S.α a) = q:=z
  by_cases hl:a = S.M.length
  ·rw [if_pos hl] at z';rw [← z',hp] at e;cases e
  ·rw [if_neg hl] at z'
   have h3:a < (S.M ++ [c]).length:=ha
   exact h1 a (by simp at h3;omega) z'
 ·have e':(S.M ++ [c])[a]? = some d:=e
  by_cases ha:a < S.M.length
  ·rw [Q6 ha] at e'
   show CellOk K _ (if a = S.M.length then p else S.α a) d
   rw [if_neg (Qk ha)]
   exact (m.cell a d e').grow m g (zl ((m.off_none hp).1 a ha))
  ·rw [Q8 (Nat.le_of_not_lt ha)] at e'
   have h3:a - S.M.length = 0:=by
    cases q:a - S.M.length with
    | zero=>rfl
    | succ k=>rw [q] at e';simp at e'
   rw [h3] at e'
   cases e'
   show CellOk K _ (if a = S.M.length then p else S.α a) c
   rw [if_pos (by omega)]
   exact hc
 ·have h1':a < (S.M ++ [c]).length:=h1
  have h2':b < (S.M ++ [c]).length:=h2
  have e':(if a = S.M.length then p else S.α a) = (if b = S.M.length then p else S.α b):=e
  simp at h1' h2'
  by_cases ha:a = S.M.length
  ·by_cases hb:b = S.M.length
   ·omega
   ·rw [if_pos ha,if_neg hb] at e'
    exact absurd e'.symm ((m.off_none hp).1 b (by omega))
  ·by_cases hb:b = S.M.length
   ·rw [if_neg ha,if_pos hb] at e'
    exact absurd e' ((m.off_none hp).1 a (by omega))
   ·rw [if_neg ha,if_neg hb] at e'
    exact m.inj a b (by omega) (by omega) e'
noncomputable def Sit.put (S:Sit) (a:Nat) (o:HO) (c:Cell):Sit:=⟨S.α,S.M.set a c,upd S.H (S.α a) o,S.hid⟩
theorem Grow.put (m:MemOk K S) {a:Nat} (ha:a < S.M.length) (o:HO) (c:Cell):Grow S (S.put a o c):=by
 refine ⟨by show _<=(S.M.set a c).length;simp,fun _ _=>rfl,fun b h1 h2=>?_,fun b u e f=>?_,fun q h=>⟨h,zl (Ne.symm ((m.hd q h).1 a ha))⟩,fun q h=>.inl h⟩
 ·have h3:b < (S.M.set a c).length:=h2
  simp at h3
  exact absurd (Q5 h3 h1) (Qo _)
 ·show upd S.H (S.α a) o b = _
  rw [zl (Ne.symm (f.1 a ha))];exact e
theorem Stp.put (m:MemOk K S) {a:Nat} (ha:a < S.M.length) (o:HO) (c:Cell) (hc:CellOk K (S.put a o c) (S.α a) c):Stp K S (S.put a o c):=by
 have g:=Grow.put m ha o c
 refine ⟨g,⟨fun b d e=>?_,fun i j h1 h2 e=>?_,fun q h=>?_⟩⟩
 rotate_right
 ·obtain ⟨h1,vs,e⟩:=m.hd q h
  refine ⟨fun b hb z=>?_,vs,(zl (Ne.symm (h1 a ha))).trans e⟩
  have h3:b < (S.M.set a c).length:=hb
  simp at h3
  exact h1 b h3 z
 ·have e':(S.M.set a c)[b]? = some d:=e
  rw [Qc] at e'
  by_cases h:a = b
  ·subst h
   rw [if_pos rfl,if_pos ha] at e'
   cases e'
   exact hc
  ·rw [if_neg h] at e'
   refine (m.cell b d e').grow m g (zl fun z=>h ?_)
   exact (m.inj b a (List.getElem?_eq_some_iff.mp e').1 ha z).symm
 ·have h1':i < (S.M.set a c).length:=h1
  have h2':j < (S.M.set a c).length:=h2
  simp at h1' h2'
  exact m.inj i j h1' h2' e
end
def EvR (K:Frag) (S:Sit) (στ:Ev) (σ:L2.St):Prop:=στ.length = σ.length/\∀ (i:Nat) t,στ[i]? = some (some t)->∃ v,σ[i]? = some (some v)/\Rep K S t v
class Mo (K:Frag) {β γ:Type} (R:Sit->β->γ->Prop):Prop where
 mo:∀ {S S' b c},MemOk K S->Stp K S S'->R S b c->R S' b c
noncomputable def UnR:Sit->Unit->Unit->Prop:=fun _ _ _=>True
noncomputable def EqR {β:Type}:Sit->β->β->Prop:=fun _ b c=>b = c
noncomputable def PrR {A AV B BV:Type} (RA:Sit->A->AV->Prop) (RB:Sit->B->BV->Prop):Sit->A × B->AV × BV->Prop:=fun S a v=>RA S a.1 v.1/\RB S a.2 v.2
instance (K):Mo K (Rep K):=⟨fun m s r=>r.grow m s.toGrow⟩
instance (K):Mo K (Reps K):=⟨fun m s r=>r.grow m s.toGrow⟩
instance (K):Mo K (EvR K):=⟨fun m s r=>⟨r.1,fun i t e=>let ⟨v,e',q⟩:=r.2 i t e;⟨v,e',q.grow m s.toGrow⟩⟩⟩
instance (K):Mo K UnR:=⟨fun _ _ r=>r⟩
instance (K) {β:Type}:Mo K (EqR (β:=β)):=⟨fun _ _ r=>r⟩
instance (K) {A AV B BV:Type} (RA:Sit->A->AV->Prop) (RB:Sit->B->BV->Prop) [Mo K RA] [Mo K RB]:Mo K (PrR RA RB):=⟨fun m s r=>⟨Mo.mo m s r.1,Mo.mo m s r.2⟩⟩
def zp9 (K:Frag) (S:Sit) (fs:List (Str × T)) (od:Option Addr):Prop:=(fs = []/\od = none)\/∃ d us,od = some d/\S.H d = some (.xd us)/\RepF K S fs us
def Fin {β γ:Type} (XE:XK) (R:Sit->β->γ->Prop) (K:Frag) (S:Sit) (o:Out β) (Q:γ->Hp->Prop):Prop:=match o with
 | .ok b M'=>∀ S' c,S'.M = M'->Stp K S S'->R S' b c->Q c S'.H
 | .exn C fs M'=>∀ S' od,S'.M = M'->Stp K S S'->zp9 K S' fs od->XE (.ref C) od S'.H
 | .bad=>False
variable {S1:Sit} {XE:XK}
theorem Fin.later {β γ:Type} {R:Sit->β->γ->Prop} {S:Sit} {o:Out β} {Q:γ->Hp->Prop} (s:Stp K S S1) (h:Fin XE R K S o Q):Fin XE R K S1 o Q:=by
 cases o with
 | ok b M'=>exact fun S' c e s' r=>h S' c e (s.trans s') r
 | exn C fs M'=>exact fun S' c e s' r=>h S' c e (s.trans s') r
 | bad=>exact h
theorem Fin.mono {β γ:Type} {R:Sit->β->γ->Prop} {S:Sit} {o:Out β} {Q Q':γ->Hp->Prop} (i:∀ c H,Q c H->Q' c H) (h:Fin XE R K S o Q):Fin XE R K S o Q':=by
 cases o with
 | ok b M'=>exact fun S' c e s' r=>i _ _ (h S' c e s' r)
 | exn C fs M'=>exact h
 | bad=>exact h
def LN {A AV β γ:Type} (XE:XK) (R:Sit->β->γ->Prop) (K:Frag) (RA:Sit->A->AV->Prop) (k:A->Ev->Mem->Out β) (av:AV) (σ:L2.St) (H:Hp) (Q:γ->Hp->Prop):Prop:=
 ∃ (S:Sit) (στ:Ev) (a:A),S.H = H/\MemOk K S/\EvR K S στ σ/\RA S a av/\Fin XE R K S (k a στ S.M) Q
def L0 {A AV β γ:Type} (XE:XK) (R:Sit->β->γ->Prop) (K:Frag) (RA:Sit->A->AV->Prop) (k:A->Mem->Out β) (av:AV) (H:Hp) (Q:γ->Hp->Prop):Prop:=
 ∃ (S:Sit) (a:A),S.H = H/\MemOk K S/\RA S a av/\Fin XE R K S (k a S.M) Q
variable {H:Hp} {σ:L2.St}
section
theorem LN.bind {A AV B BV β γ:Type} {R:Sit->β->γ->Prop} {RA:Sit->A->AV->Prop} {RB:Sit->B->BV->Prop} [Mo K RA] {f:A->Ev->Mem->Out B} {k:A->B->Ev->Mem->Out β} {av:AV} {Q:γ->Hp->Prop}
 (h:LN XE R K RA (fun a σ M=>(f a σ M).bind fun b M1=>k a b σ M1) av σ H Q) :
  LN XE RB K RA f av σ H (fun bv H1=>LN XE R K (PrR RA RB) (fun ab=>k ab.1 ab.2) (av,bv) σ H1 Q):=by
 obtain ⟨S,στ,a,e,m,ev,ra,fin⟩:=h
 refine ⟨S,στ,a,e,m,ev,ra,?_⟩
 replace fin:Fin XE R K S ((f a στ S.M).bind fun b M1=>k a b στ M1) Q:=fin
 cases q:f a στ S.M with
 | bad=>rw [q] at fin;exact fin
 | exn C fs M'=>rw [q] at fin;exact fin
 | ok b M1=>
  rw [q] at fin
  intro S1 c e1 s1 r1
  refine ⟨S1,στ,(a,b),rfl,s1.mok,Mo.mo m s1 ev,⟨Mo.mo m s1 ra,r1⟩,?_⟩
  rw [e1]
  exact fin.later s1
theorem LN.l0 {A AV β γ:Type} {R:Sit->β->γ->Prop} {RA:Sit->A->AV->Prop} {k:A->Mem->Out β} {av:AV} {Q:γ->Hp->Prop} (h:LN XE R K RA (fun a _ M=>k a M) av σ H Q):L0 XE R K RA k av H Q:=by
 obtain ⟨S,στ,a,e,m,ev,ra,fin⟩:=h
 exact ⟨S,a,e,m,ra,fin⟩
theorem LN.mono {A AV β γ:Type} {R:Sit->β->γ->Prop} {RA:Sit->A->AV->Prop} {k:A->Ev->Mem->Out β} {av:AV} {Q Q':γ->Hp->Prop} (h:LN XE R K RA k av σ H Q) (i:∀ c H,Q c H->Q' c H):LN XE R K RA k av σ H Q':=by
 obtain ⟨S,στ,a,e,m,ev,ra,fin⟩:=h
 exact ⟨S,στ,a,e,m,ev,ra,fin.mono i⟩
theorem LN.env {A AV β γ:Type} {R:Sit->β->γ->Prop} {RA:Sit->A->AV->Prop} {f:Ev->Mem->Out β} {av:AV} {Q:γ->Hp->Prop} (h:LN XE R K RA (fun _ σ M=>f σ M) av σ H Q):LN XE R K UnR (fun _ σ M=>f σ M) () σ H Q:=by
 obtain ⟨S,στ,a,e,m,ev,ra,fin⟩:=h
 exact ⟨S,στ,(),e,m,ev,trivial,fin⟩
end
noncomputable def lE (XE:XK) (K:Frag) (f:Ev->Mem->Out T):TE:=fun σ H Q=>LN XE (Rep K) K UnR (fun _ σ M=>f σ M) () σ H Q
noncomputable def lT (XE:XK) (K:Frag) (f:Ev->Mem->Out Bool):TT:=fun σ H Q=>LN XE EqR K UnR (fun _ σ M=>f σ M) () σ H Q
noncomputable def lA (XE:XK) (K:Frag) (f:Ev->Mem->Out (List T)):TA:=fun σ H Q=>LN XE (Reps K) K UnR (fun _ σ M=>f σ M) () σ H Q
def GE (X:Cx) (XE:XK) (e:Expr) (f:Ev->Mem->Out T):Prop:=PE X e (lE XE X.K f)
def GT (X:Cx) (XE:XK) (e:Expr) (f:Ev->Mem->Out Bool):Prop:=PT X e (lT XE X.K f)
def GW (X:Cx) (XE:XK) (e:Expr) (f:Ev->Mem->Out Bool):Prop:=PW X e (lT XE X.K f)
def GA (X:Cx) (XE:XK) (es:List Expr) (f:Ev->Mem->Out (List T)):Prop:=PA X es (lA XE X.K f)
variable {X:Cx}
theorem PE.imp {t t':TE} (h:PE X e t) (i:∀ σ H Q,t' σ H Q->t σ H Q):PE X e t':=fun pins s σ H Q I q=>h pins s σ H Q I (i σ H Q q)
variable {t':TT}
theorem PT.imp {t:TT} (h:PT X e t) (i:∀ σ H Q,t' σ H Q->t σ H Q):PT X e t':=fun pins s σ H Q I q=>h pins s σ H Q I (i σ H Q q)
theorem PW.imp {t:TT} (h:PW X e t) (i:∀ σ H Q,t' σ H Q->t σ H Q):PW X e t':=fun whole pins s σ H Q I q=>h whole pins s σ H Q I (i σ H Q q)
theorem PA.imp {e:List Expr} {t t':TA} (h:PA X e t) (i:∀ σ H Q,t' σ H Q->t σ H Q):PA X e t':=fun pos pins s σ H Q I q=>h pos pins s σ H Q I (i σ H Q q)
theorem PS.imp {e:Stmt} {t t':TS} (h:PS X e t) (i:∀ D σ H,t' D σ H->t D σ H):PS X e t':=fun pins s σ H D I q=>h pins s σ H D I (i D σ H q)
theorem PSs.imp {e:List Stmt} {t t':TS} (h:PSs X e t) (i:∀ D σ H,t' D σ H->t D σ H):PSs X e t':=fun pins s σ H D I q=>h pins s σ H D I (i D σ H q)
noncomputable def yb (i:Nat):Ev->Mem->Out T:=fun σ M=>match σ[i]? with
 | some (some t)=>.ok t M
 | _=>.bad
noncomputable def eC (t:T):Ev->Mem->Out T:=fun _ M=>.ok t M
noncomputable def eOp (o:T->T->Mem->Out T) (f g:Ev->Mem->Out T):Ev->Mem->Out T:=fun σ M=>(f σ M).bind fun x M1=>(g σ M1).bind fun y M2=>o x y M2
noncomputable def eUn (o:T->Mem->Out T) (f:Ev->Mem->Out T):Ev->Mem->Out T:=fun σ M=>(f σ M).bind fun x M1=>o x M1
noncomputable def blT {β:Type} (t:T) (M:Mem) (k:Bool->Mem->Out β):Out β:=match t with
 | .bl b=>k b M
 | _=>.bad
noncomputable def yo (f:Ev->Mem->Out T):Ev->Mem->Out Bool:=fun σ M=>(f σ M).bind fun x M1=>blT x M1 fun b M2=>.ok b M2
noncomputable def zat (f g:Ev->Mem->Out Bool):Ev->Mem->Out Bool:=fun σ M=>(f σ M).bind fun c M1=>if c = true then g σ M1 else .ok false M1
noncomputable def zb7 (f g:Ev->Mem->Out Bool):Ev->Mem->Out Bool:=fun σ M=>(f σ M).bind fun c M1=>if c = true then .ok true M1 else g σ M1
noncomputable def zcG (f:Ev->Mem->Out Bool):Ev->Mem->Out Bool:=fun σ M=>(f σ M).bind fun c M1=>.ok (!c) M1
noncomputable def zih (f g:Ev->Mem->Out T):Ev->Mem->Out T:=fun σ M=>(f σ M).bind fun x M1=>blT x M1 fun b M2=>if b = true then g σ M2 else .ok (.bl false) M2
noncomputable def eOr (f g:Ev->Mem->Out T):Ev->Mem->Out T:=fun σ M=>(f σ M).bind fun x M1=>blT x M1 fun b M2=>if b = true then .ok (.bl true) M2 else g σ M2
noncomputable def zjX (f:Ev->Mem->Out T):Ev->Mem->Out T:=fun σ M=>(f σ M).bind fun x M1=>blT x M1 fun b M2=>.ok (.bl (!b)) M2
noncomputable def eIf (c:Ev->Mem->Out Bool) (f g:Ev->Mem->Out T):Ev->Mem->Out T:=fun σ M=>(c σ M).bind fun b M1=>if b = true then f σ M1 else g σ M1
noncomputable def ze:Ev->Mem->Out (List T):=fun _ M=>.ok [] M
noncomputable def zb (f:Ev->Mem->Out T) (g:Ev->Mem->Out (List T)):Ev->Mem->Out (List T):=fun σ M=>(f σ M).bind fun x M1=>(g σ M1).bind fun xs M2=>.ok (x :: xs) M2
noncomputable def yG (g:Ev->Mem->Out (List T)):Ev->Mem->Out T:=fun σ M=>(g σ M).bind fun xs M1=>if xs.length<=sizeLine then .ok (.tup xs) M1 else .bad
noncomputable def yw (g:Ev->Mem->Out (List T)):Ev->Mem->Out (List T):=fun σ M=>(g σ M).bind fun xs M1=>if xs.length<=sizeLine then .ok xs M1 else .bad
noncomputable def eFz (g:Ev->Mem->Out (List T)):Ev->Mem->Out T:=fun σ M=>(g σ M).bind fun xs M1=>.ok (.lst xs) M1
noncomputable def eTk (g:Ev->Mem->Out (List T)):Ev->Mem->Out T:=fun σ M=>(g σ M).bind fun xs M1=>.ok (.ref M1.length) (M1 ++ [.lst xs])
noncomputable def yf (f:List T->Mem->Out T) (g:Ev->Mem->Out (List T)):Ev->Mem->Out T:=fun σ M=>(g σ M).bind fun ts M1=>f ts M1
noncomputable def zfP (o o':T->T->Mem->Out T) (f g h:Ev->Mem->Out T):Ev->Mem->Out T:=fun σ M=>(f σ M).bind fun x M1=>(g σ M1).bind fun y M2=>(o x y M2).bind fun z M3=>blT z M3 fun b M4=>if b = true then (h σ M4).bind fun w M5=>o' y w M5 else .ok (.bl false) M4
noncomputable def lR2 (XE:XK) (K:Frag) (o:T->T->Mem->Out T):R2:=fun x y H Q=>L0 XE (Rep K) K (PrR (Rep K) (Rep K)) (fun a M=>o a.1 a.2 M) (x,y) H Q
noncomputable def lR1 (XE:XK) (K:Frag) (o:T->Mem->Out T):V->Hp->VK->Prop:=fun x H Q=>L0 XE (Rep K) K (Rep K) o x H Q
noncomputable def lRN (XE:XK) (K:Frag) (o:List T->Mem->Out T):List V->Hp->VK->Prop:=fun xs H Q=>L0 XE (Rep K) K (Reps K) o xs H Q
def FinL (XE:XK) (K:Frag) (S:Sit) (o:Out (List T)) (Q:VK):Prop:=match o with
 | .ok xs M'=>∀ S' p vs,S'.M = M'->Stp K S S'->S.H p = none->p ∈ S'.hid->S'.H p = some (.lst vs)->Reps K S' xs vs->Q (.ref p) S'.H
 | .exn C fs M'=>∀ S' od,S'.M = M'->Stp K S S'->zp9 K S' fs od->XE (.ref C) od S'.H
 | .bad=>False
variable {Q:VK}
theorem FinL.later {S:Sit} {o:Out (List T)} (s:Stp K S S1) (h:FinL XE K S o Q):FinL XE K S1 o Q:=by
 have nn:∀ p,S1.H p = none->S.H p = none:=fun p hn=>by
  cases q:S.H p with
  | none=>rfl
  | some o=>
   by_cases f:S.off p
   ·rw [s.kp _ _ q f] at hn;cases hn
   ·exfalso
    apply f
    refine ⟨fun c hc z=>?_,fun z=>?_⟩
    ·have h3:c < S1.M.length:=Q5 hc s.le
     obtain ⟨o',e',_⟩:=s.mok.some h3
     rw [s.al c hc,z,hn] at e'
     cases e'
    ·rw [(s.hk p z).2,q] at hn;cases hn
 cases o with
 | ok b M'=>exact fun S' p vs e s' f=>h S' p vs e (s.trans s') (nn p f)
 | exn C fs M'=>exact fun S' c e s' r=>h S' c e (s.trans s') r
 | bad=>exact h
noncomputable def lL (XE:XK) (K:Frag) (f:Ev->Mem->Out (List T)):TE:=fun σ H Q=>∃ (S:Sit) (στ:Ev),S.H = H/\MemOk K S/\EvR K S στ σ/\FinL XE K S (f στ S.M) Q
def GL (X:Cx) (XE:XK) (e:Expr) (f:Ev->Mem->Out (List T)):Prop:=PE X e (lL XE X.K f)
variable {q:Addr} {h hh:List Addr} {xs:List T}
section
variable {S:Sit}
noncomputable def Sit.show (S':Sit) (h:List Addr):Sit:=⟨S'.α,S'.M,S'.H,h⟩
theorem Rep.show (sub:∀ p ∈ h,p ∈ S'.hid) (r:Rep K S' t v):Rep K (S'.show h) t v:=by
 induction r with
 | non=>exact .non
 | bl b=>exact .bl b
 | int b=>exact .int b
 | str b=>exact .str b
 | ty b=>exact .ty b
 | tup h l _ ih=>exact .tup h l ih
 | lst h l _ ih=>
  refine .lst ?_ l ih
  rcases h with ⟨h,f⟩ | h
  ·exact .inl ⟨h,f.1,fun z=>f.2 (sub _ z)⟩
  ·exact .inr h
 | ref h=>exact .ref (S:=S'.show _) h
 | dct h l _ ih=>exact .dct h l ih
 | exc h hd l _ ih=>exact .exc h hd l ih
theorem Reps.show (sub:∀ p ∈ h,p ∈ S'.hid) (r:Reps K S' ts vs):Reps K (S'.show h) ts vs:=⟨r.1,fun i t v e1 e2=>(r.2 i t v e1 e2).show sub⟩
theorem CellOk.show (sub:∀ p ∈ h,p ∈ S'.hid) {c:Cell} (q:CellOk K S' p c):CellOk K (S'.show h) p c:=by
 cases c with
 | lst ts=>obtain ⟨vs,q,r⟩:=q;exact ⟨vs,q,r.show sub⟩
 | dic ts=>obtain ⟨vs,q,r⟩:=q;exact ⟨vs,q,r.1,r.2.show sub⟩
 | ins C ts=>obtain ⟨dx,vs,q,r⟩:=q;exact ⟨dx,vs,q,r.1,r.2.show sub⟩
 | dtu ts=>obtain ⟨vs,q,r⟩:=q;exact ⟨vs,q,r.1,r.2.show sub⟩
theorem Stp.show (s:Stp K S S'):Stp K S (S'.show S.hid):=by
 have sub:∀ p ∈ S.hid,p ∈ S'.hid:=fun p h=>(s.hk p h).1
 exact ⟨⟨s.le,s.al,s.fr,s.kp,fun p h=>⟨h,(s.hk p h).2⟩,fun p h=>.inl h⟩,⟨fun a c e=>(s.mok.cell a c e).show sub,s.mok.inj,fun p h=>s.mok.hd p (sub p h)⟩⟩
theorem znD (s:Stp K S S') (hn:S.H p = none) (m:MemOk K S) (hp:p ∈ S'.hid) (e:S'.H p = some (.lst vs)) (r:Reps K S' xs vs):Rep K (S'.show S.hid) (.lst xs) (.ref p):=by
 have sub:∀ p ∈ S.hid,p ∈ S'.hid:=fun p h=>(s.hk p h).1
 refine .lst (.inl ⟨.inl e,(s.mok.hd p hp).1,fun z=>?_⟩) r.1 (r.show sub).2
 obtain ⟨_,us,q⟩:=m.hd p z
 rw [hn] at q
 cases q
noncomputable def Sit.track (S':Sit) (p:Addr) (xs:List T) (h:List Addr):Sit:=⟨fun a=>if a = S'.M.length then p else S'.α a,S'.M ++ [.lst xs],S'.H,h⟩
theorem Rep.track (hp:p ∈ S'.hid) (sub:∀ p ∈ hh,p ∈ S'.hid) (r:Rep K S' t v):Rep K (S'.track p xs hh) t v:=by
 induction r with
 | non=>exact .non
 | bl b=>exact .bl b
 | int b=>exact .int b
 | str b=>exact .str b
 | ty b=>exact .ty b
 | tup h l _ ih=>exact .tup h l ih
 | lst h l _ ih=>
  refine .lst ?_ l ih
  rcases h with ⟨h,f⟩ | h
  ·refine .inl ⟨h,fun a ha z=>?_,fun z=>f.2 (sub _ z)⟩
   have z':(if a = S'.M.length then p else S'.α a) = _:=z
   by_cases hl:a = S'.M.length
   ·rw [if_pos hl] at z';rw [← z'] at f;exact f.2 hp
   ·rw [if_neg hl] at z'
    have h3:a < (S'.M ++ [Cell.lst xs]).length:=ha
    exact f.1 a (by simp at h3;omega) z'
  ·exact .inr h
 | @ref a h=>
  have:S'.α a = (S'.track p xs hh).α a:=(if_neg (Qk h)).symm
  rw [this]
  exact .ref (by show a < (S'.M ++ [Cell.lst xs]).length;simp;omega)
 | dct h l _ ih=>exact .dct h l ih
 | exc h hd l _ ih=>exact .exc h hd l ih
theorem Reps.track (hp:p ∈ S'.hid) (sub:∀ p ∈ h,p ∈ S'.hid) (r:Reps K S' ts vs):Reps K (S'.track p xs h) ts vs:=⟨r.1,fun i t v e1 e2=>(r.2 i t v e1 e2).track hp sub⟩
theorem CellOk.track (hp:p ∈ S'.hid) (sub:∀ p ∈ h,p ∈ S'.hid) {c:Cell} (o:CellOk K S' q c):CellOk K (S'.track p xs h) q c:=by
 cases c with
 | lst ts=>obtain ⟨vs,q,r⟩:=o;exact ⟨vs,q,r.track hp sub⟩
 | dic ts=>obtain ⟨vs,q,r⟩:=o;exact ⟨vs,q,r.1,r.2.track hp sub⟩
 | ins C ts=>obtain ⟨dx,vs,q,r⟩:=o;exact ⟨dx,vs,q,r.1,r.2.track hp sub⟩
 | dtu ts=>obtain ⟨vs,q,r⟩:=o;exact ⟨vs,q,r.1,r.2.track hp sub⟩
theorem Stp.track (s:Stp K S S') (m:MemOk K S) (hn:S.H p = none) (hp:p ∈ S'.hid) (e:S'.H p = some (.lst vs)) (r:Reps K S' xs vs):Stp K S (S'.track p xs S.hid):=by
 have sub:∀ p ∈ S.hid,p ∈ S'.hid:=fun p h=>(s.hk p h).1
 have lt:∀ a,a < S'.M.length->(S'.track p xs S.hid).α a = S'.α a:=fun a h=>if_neg (Qk h)
 refine ⟨⟨Qj s.le (by show _<=(S'.M ++ [Cell.lst xs]).length;simp),fun a h=>(lt a (Q5 h s.le)).trans (s.al a h),fun a h1 h2=>?_,s.kp,fun p h=>⟨h,(s.hk p h).2⟩,fun p h=>.inl h⟩,⟨fun a c e2=>?_,fun a b h1 h2 e2=>?_,fun q h=>?_⟩⟩
 ·by_cases hl:a < S'.M.length
  ·rw [lt a hl];exact s.fr a h1 hl
  ·have h3:a < (S'.M ++ [Cell.lst xs]).length:=h2
   have:a = S'.M.length:=by simp at h3;omega
   show S.H (if a = S'.M.length then p else S'.α a) = none
   rw [if_pos this];exact hn
 ·have e':(S'.M ++ [Cell.lst xs])[a]? = some c:=e2
  by_cases ha:a < S'.M.length
  ·rw [Q6 ha] at e'
   rw [lt a ha]
   exact (s.mok.cell a c e').track hp sub
  ·rw [Q8 (Nat.le_of_not_lt ha)] at e'
   have h3:a - S'.M.length = 0:=by
    cases q:a - S'.M.length with
    | zero=>rfl
    | succ k=>rw [q] at e';simp at e'
   rw [h3] at e'
   cases e'
   show CellOk K _ (if a = S'.M.length then p else S'.α a) _
   rw [if_pos (by omega)]
   exact ⟨vs,e,r.track hp sub⟩
 ·have h1':a < (S'.M ++ [Cell.lst xs]).length:=h1
  have h2':b < (S'.M ++ [Cell.lst xs]).length:=h2
  have e':(if a = S'.M.length then p else S'.α a) = (if b = S'.M.length then p else S'.α b):=e2
  simp at h1' h2'
  by_cases ha:a = S'.M.length
  ·by_cases hb:b = S'.M.length
   ·omega
   ·rw [if_pos ha,if_neg hb] at e'
    exact absurd e'.symm ((s.mok.hd p hp).1 b (by omega))
  ·by_cases hb:b = S'.M.length
   ·rw [if_neg ha,if_pos hb] at e'
    exact absurd e' ((s.mok.hd p hp).1 a (by omega))
   ·rw [if_neg ha,if_neg hb] at e'
    exact s.mok.inj a b (by omega) (by omega) e'
 ·obtain ⟨h1,us,q1⟩:=s.mok.hd q (sub q h)
  refine ⟨fun a ha z=>?_,us,q1⟩
  have z':(if a = S'.M.length then p else S'.α a) = q:=z
  have h3:a < (S'.M ++ [Cell.lst xs]).length:=ha
  by_cases hl:a = S'.M.length
  ·rw [if_pos hl] at z'
   obtain ⟨_,us2,q2⟩:=m.hd q h
   rw [← z',hn] at q2
   cases q2
  ·rw [if_neg hl] at z'
   exact h1 a (by simp at h3;omega) z'
noncomputable def Sit.hide (S:Sit) (p:Addr) (vs:List V):Sit:=⟨S.α,S.M,upd S.H p (.lst vs),p :: S.hid⟩
theorem Stp.hide (m:MemOk K S) (hp:S.H p = none) (vs:List V):Stp K S (S.hide p vs):=by
 have g:Grow S (S.hide p vs):=⟨Q3 _,fun _ _=>rfl,fun a h1 h2=>absurd (Q5 h2 h1) (Qo _),fun b u e _=>by show upd S.H p _ b = _;rw [zl (qE e hp)];exact e,fun q h=>⟨.tail _ h,by obtain ⟨_,vs,e⟩:=m.hd q h;exact zl (qE e hp)⟩,fun q h=>by
  cases h with
  | head=>exact .inr hp
  | tail _ h=>exact .inl h⟩
 refine ⟨g,⟨fun a c e=>?_,m.inj,fun q h=>?_⟩⟩
 ·have ha:a < S.M.length:=(List.getElem?_eq_some_iff.mp e).1
  exact (m.cell a c e).grow m g (zl ((m.off_none hp).1 a ha))
 ·cases h with
  | head=>exact ⟨(m.off_none hp).1,vs,yF⟩
  | tail _ h=>
   obtain ⟨h1,us,e⟩:=m.hd q h
   exact ⟨h1,us,(zl (qE e hp)).trans e⟩
end
variable {op:CmpOp} {ga:Ev->Mem->Out (List T)} {tf:Ev->Mem->Out Bool} {f g:Ev->Mem->Out T} {M:Mem} {x:Str} {o o':T->T->Mem->Out T}
section
variable {a b c:Expr} {h:Ev->Mem->Out T}
theorem zcc (h:PE X e (tC v)) (r:∀ S,Rep X.K S t v):GE X XE e (eC t):=PE.imp h fun σ H Q h9=>by
 obtain ⟨S,στ,_,e,m,ev,_,fin⟩:=h9
 show Q v H
 rw [← e];exact fin S v rfl (.refl m) (r S)
theorem zhd (h:lE XE K (eOp o f g) σ H Q):lE XE K f σ H fun x H1=>lE XE K g σ H1 fun y H2=>lR2 XE K o x y H2 Q:=
 LN.mono (LN.bind (f:=fun _ σ M=>f σ M) (k:=fun _ x σ M1=>(g σ M1).bind fun y M2=>o x y M2) (RB:=Rep K) h) fun v H1 h1=>
  LN.mono (LN.env (f:=g) (LN.bind (f:=fun _ σ M=>g σ M) (k:=fun (ax:Unit × T) y σ M2=>o ax.2 y M2) (RB:=Rep K) h1)) fun w H2 h2=>by
   obtain ⟨S,στ,a,e,m,ev,ra,fin⟩:=h2
   exact ⟨S,(a.1.2,a.2),e,m,⟨ra.1.2,ra.2⟩,fin⟩
theorem zhc {β γ:Type} {R:Sit->β->γ->Prop} {S:Sit} {k:Bool->Mem->Out β} {Q:γ->Hp->Prop} (r:Rep K S t v) (h:Fin XE R K S (blT t M k) Q):∃ b,v = .bl b/\t = .bl b/\Fin XE R K S (k b M) Q:=by
 cases r with
 | bl b=>exact ⟨b,rfl,rfl,h⟩
 | _=>exact h.elim
theorem tif {tg:Ev->Mem->Out Bool} {Q:Bool->Hp->Prop} {p:Bool->Ev->Mem->Out Bool} (h:LN XE EqR K UnR (fun _ σ M=>(tf σ M).bind fun c M1=>p c σ M1) () σ H Q):lT XE K tf σ H fun c H1=>lT XE K (fun σ M=>p c σ M) σ H1 Q:=
 LN.mono (LN.bind (f:=fun _ σ M=>tf σ M) (k:=fun _ c σ M1=>p c σ M1) (RB:=EqR) h) fun c H1 h2=>by
  obtain ⟨S,στ,a,e,m,ev,ra,fin⟩:=h2
  have:a.2 = c:=ra.2
  subst this
  exact ⟨S,στ,(),e,m,ev,trivial,fin⟩
theorem zg7 {Q:Bool->Hp->Prop} {d:Bool} (h:lT XE K (fun _ M=>.ok d M) σ H Q):Q d H:=by
 obtain ⟨S,στ,a,e,m,ev,ra,fin⟩:=h
 rw [← e];exact fin S d rfl (.refl m) rfl
theorem zjQ {d:T} (h:lE XE K (fun _ M=>.ok d M) σ H Q) (r:∀ S,Rep K S d v):Q v H:=by
 obtain ⟨S,στ,a,e,m,ev,ra,fin⟩:=h
 rw [← e];exact fin S v rfl (.refl m) (r S)
variable {tg:Ev->Mem->Out Bool} {rest:List Expr}
theorem GW.gt (h:GW X XE e tf):GT X XE e tf:=PW.pt h
theorem eif {p:Bool->Ev->Mem->Out T} (h:LN XE (Rep K) K UnR (fun _ σ M=>(f σ M).bind fun x M1=>blT x M1 fun b M2=>p b σ M2) () σ H Q):lE XE K f σ H fun x H1=>∃ c,x = .bl c/\lE XE K (fun σ M=>p c σ M) σ H1 Q:=
 LN.mono (LN.bind (f:=fun _ σ M=>f σ M) (k:=fun _ x σ M1=>blT x M1 fun b M2=>p b σ M2) (RB:=Rep K) h) fun c H1 h2=>by
  obtain ⟨S,στ,a,e,m,ev,ra,fin⟩:=h2
  obtain ⟨b,e1,e2,fin⟩:=zhc ra.2 fin
  exact ⟨b,e1,S,στ,(),e,m,ev,trivial,fin⟩
theorem chain (hh:lE XE K (zfP o o' f g h) σ H Q):zke (lR2 XE K o) (lR2 XE K o') (lE XE K f) (lE XE K g) (lE XE K h) σ H Q:=
 LN.mono (LN.bind (f:=fun _ σ M=>f σ M) (k:=fun _ x σ M1=>(g σ M1).bind fun y M2=>(o x y M2).bind fun z M3=>blT z M3 fun b M4=>if b = true then (h σ M4).bind fun w M5=>o' y w M5 else .ok (.bl false) M4) (RB:=Rep K) hh) fun x H1 h1=>
  LN.mono (LN.env (f:=g) (LN.bind (f:=fun _ σ M=>g σ M) (k:=fun (ax:Unit × T) y σ M2=>(o ax.2 y M2).bind fun z M3=>blT z M3 fun b M4=>if b = true then (h σ M4).bind fun w M5=>o' y w M5 else .ok (.bl false) M4) (RB:=Rep K) h1)) fun y H2 h2=>by
   have h3:=LN.bind (f:=fun (a:(Unit × T) × T) _ M=>o a.1.2 a.2 M) (k:=fun a z σ M3=>blT z M3 fun b M4=>if b = true then (h σ M4).bind fun w M5=>o' a.2 w M5 else .ok (.bl false) M4) (RB:=Rep K) h2
   obtain ⟨S,a,e,m,ra,fin⟩:=LN.l0 (k:=fun (a:(Unit × T) × T) M=>o a.1.2 a.2 M) h3
   refine ⟨S,(a.1.2,a.2),e,m,⟨ra.1.2,ra.2⟩,fin.mono fun z H3 h4=>?_⟩
   obtain ⟨S3,στ,a3,e3,m3,ev3,ra3,fin3⟩:=h4
   obtain ⟨b,e1,_,fin3⟩:=zhc ra3.2 fin3
   refine ⟨b,e1,?_⟩
   cases b with
   | false=>exact (if_neg Q4).mpr (by rw [← e3];exact fin3 S3 _ rfl (.refl m3) (.bl _))
   | true=>
    refine (if_pos rfl).mpr ?_
    have h5:LN XE (Rep K) K (Rep K) (fun y σ M4=>(h σ M4).bind fun w M5=>o' y w M5) y σ H3 Q:=⟨S3,στ,a3.1.2,e3,m3,ev3,ra3.1.2,fin3⟩
    refine LN.mono (LN.env (f:=h) (LN.bind (f:=fun _ σ M=>h σ M) (k:=fun y w σ M5=>o' y w M5) (RB:=Rep K) h5)) fun w H4 h6=>?_
    exact LN.l0 (k:=fun (a:T × T) M=>o' a.1 a.2 M) h6
end
inductive Fl where
 | nx (σ:Ev) | rt (t:T) | bk (σ:Ev) | ct (σ:Ev)
inductive FlV where
 | nx (σ:L2.St) | rt (v:V) | bk (σ:L2.St) | ct (σ:L2.St)
inductive FlR (K:Frag) (S:Sit):Fl->FlV->Prop where
 | nx {a b}:EvR K S a b->FlR K S (.nx a) (.nx b)
 | rt {a b}:Rep K S a b->FlR K S (.rt a) (.rt b)
 | bk {a b}:EvR K S a b->FlR K S (.bk a) (.bk b)
 | ct {a b}:EvR K S a b->FlR K S (.ct a) (.ct b)
noncomputable def qM (D:Ends):FlV->Hp->Prop
 | .nx σ,H=>D.nx σ H
 | .rt v,H=>D.rt v H
 | .bk σ,H=>D.bk σ H
 | .ct σ,H=>D.ct σ H
noncomputable def lS (XE:XK) (K:Frag) (g:Ev->Mem->Out Fl):TS:=fun D σ H=>LN XE (FlR K) K UnR (fun _ σ M=>g σ M) () σ H (qM D)
def GS (X:Cx) (XE:XK) (st:Stmt) (g:Ev->Mem->Out Fl):Prop:=PS X st (lS XE X.K g)
def GSs (X:Cx) (XE:XK) (st:List Stmt) (g:Ev->Mem->Out Fl):Prop:=PSs X st (lS XE X.K g)
variable {στ:Ev}
theorem EvR.set {S:Sit} (r:EvR K S στ σ) (q:Rep K S t v) (i:Nat):EvR K S (στ.set i (some t)) (σ.set i (some v)):=by
 refine ⟨by simp [r.1],fun j u e=>?_⟩
 rw [Qc] at e ⊢
 by_cases h:i = j
 ·subst h
  by_cases hl:i < στ.length
  ·rw [if_pos rfl,if_pos hl] at e
   cases e
   exact ⟨v,by rw [if_pos rfl,if_pos (by rw [← r.1];exact hl)],q⟩
  ·rw [if_pos rfl,if_neg hl] at e;cases e
 ·rw [if_neg h] at e
  obtain ⟨w,e2,q2⟩:=r.2 j u e
  exact ⟨w,by rw [if_neg h];exact e2,q2⟩
noncomputable def zH:Ev->Mem->Out Fl:=fun σ M=>.ok (.nx σ) M
noncomputable def zr5:Ev->Mem->Out Fl:=fun σ M=>.ok (.bk σ) M
noncomputable def zsk:Ev->Mem->Out Fl:=fun σ M=>.ok (.ct σ) M
noncomputable def zbL (k:Ev->Mem->Out Fl) (fl:Fl) (M:Mem):Out Fl:=match fl with
 | .nx σ=>k σ M
 | .rt t=>.ok (.rt t) M
 | .bk σ=>.ok (.bk σ) M
 | .ct σ=>.ok (.ct σ) M
noncomputable def yh (g h:Ev->Mem->Out Fl):Ev->Mem->Out Fl:=fun σ M=>(g σ M).bind (zbL h)
noncomputable def qF (f:Ev->Mem->Out T):Ev->Mem->Out Fl:=fun σ M=>(f σ M).bind fun t M1=>.ok (.rt t) M1
noncomputable def yB (f:Ev->Mem->Out T):Ev->Mem->Out Fl:=fun σ M=>(f σ M).bind fun _ M1=>.ok (.nx σ) M1
noncomputable def sIf (c:Ev->Mem->Out Bool) (g h:Ev->Mem->Out Fl):Ev->Mem->Out Fl:=fun σ M=>(c σ M).bind fun b M1=>if b = true then g σ M1 else h σ M1
noncomputable def qp (i:Nat) (f:Ev->Mem->Out T):Ev->Mem->Out Fl:=fun σ M=>(f σ M).bind fun t M1=>.ok (.nx (σ.set i (some t))) M1
noncomputable def lG (XE:XK) (K:Frag) (bd:T->Ev->Mem->Out Ev):TG:=fun v σ H Q=>LN XE (EvR K) K (Rep K) bd v σ H Q
noncomputable def lGs (XE:XK) (K:Frag) (bd:List T->Ev->Mem->Out Ev):TGs:=fun v σ H Q=>LN XE (EvR K) K (Reps K) bd v σ H Q
def GG (X:Cx) (XE:XK) (tg:Expr) (bd:T->Ev->Mem->Out Ev):Prop:=PG X tg (lG XE X.K bd)
def GGs (X:Cx) (XE:XK) (tg:List Expr) (bd:List T->Ev->Mem->Out Ev):Prop:=PGs X tg (lGs XE X.K bd)
noncomputable def yr (i:Nat):T->Ev->Mem->Out Ev:=fun t σ M=>.ok (σ.set i (some t)) M
noncomputable def zeD:List T->Ev->Mem->Out Ev:=fun ts σ M=>match ts with
 | []=>.ok σ M
 | _=>.bad
noncomputable def yY (b:T->Ev->Mem->Out Ev) (bs:List T->Ev->Mem->Out Ev):List T->Ev->Mem->Out Ev:=fun ts σ M=>match ts with
 | t :: r=>(b t σ M).bind fun σ1 M1=>bs r σ1 M1
 | _=>.bad
noncomputable def zgw (n:Nat) (bs:List T->Ev->Mem->Out Ev):T->Ev->Mem->Out Ev:=fun t σ M=>match t with
 | .tup xs=>if xs.length = n then bs xs σ M else .bad
 | _=>.bad
noncomputable def zaI (f:Ev->Mem->Out T) (b:T->Ev->Mem->Out Ev):Ev->Mem->Out Fl:=fun σ M=>(f σ M).bind fun t M1=>(b t σ M1).bind fun σ1 M2=>.ok (.nx σ1) M2
def zdw (K:Frag) (S:Sit) (items:List T) (J:It):Prop:=∀ S',Stp K S S'->
 (∀ (i:Nat) t,items[i]? = some t->J.go i S'.H/\∀ x H',J.yld i S'.H x H'->∃ S'',S''.H = H'/\S''.M = S'.M/\Stp K S' S''/\Rep K S'' t x)/\∀ i,items.length<=i->J.stop i S'.H
instance (K):Mo K (zdw K):=⟨fun _ s r=>fun S' s'=>r S' (s.trans s')⟩
noncomputable def lI (XE:XK) (K:Frag) (f:Ev->Mem->Out (List T)):TI:=fun σ H R=>LN XE (zdw K) K UnR (fun _ σ M=>f σ M) () σ H R
def GI (X:Cx) (XE:XK) (tg iter:Expr) (f:Ev->Mem->Out (List T)):Prop:=PI X tg iter (lI XE X.K f)
noncomputable def zV (k:Ev->Mem->Out Fl) (fl:Fl) (M:Mem):Out Fl:=match fl with
 | .nx σ=>k σ M
 | .ct σ=>k σ M
 | .bk σ=>.ok (.nx σ) M
 | .rt t=>.ok (.rt t) M
noncomputable def forL (bd:T->Ev->Mem->Out Ev) (body:Ev->Mem->Out Fl):List T->Ev->Mem->Out Fl
 | [],σ,M=>.ok (.nx σ) M
 | x :: xs,σ,M=>(bd x σ M).bind fun σ1 M1=>(body σ1 M1).bind (zV (forL bd body xs))
noncomputable def zbP (it:Ev->Mem->Out (List T)) (bd:T->Ev->Mem->Out Ev) (body:Ev->Mem->Out Fl):Ev->Mem->Out Fl:=fun σ M=>(it σ M).bind fun xs M1=>forL bd body xs σ M1
noncomputable def whileN (c:Ev->Mem->Out Bool) (body:Ev->Mem->Out Fl):Nat->Ev->Mem->Out Fl
 | 0,_,_=>.bad
 | n + 1,σ,M=>(c σ M).bind fun b M1=>if b = true then (body σ M1).bind (zV (whileN c body n)) else .ok (.nx σ) M1
open Classical in
noncomputable def zbO (c:Ev->Mem->Out Bool) (body:Ev->Mem->Out Fl):Ev->Mem->Out Fl:=fun σ M=>if h:∃ n,whileN c body n σ M ≠ .bad then whileN c body h.choose σ M else .bad
theorem zdh {c:Ev->Mem->Out Bool} {body:Ev->Mem->Out Fl}:∀ {n:Nat} {σ:Ev} {M:Mem} {r:Out Fl},whileN c body n σ M = r->r ≠ .bad->whileN c body (n + 1) σ M = r
 | 0,_,_,_,e,h=>absurd e.symm h
 | n + 1,σ,M,r,e,h=>by
  unfold whileN at e ⊢
  cases q:c σ M with
  | bad=>rw [q] at e;exact absurd e.symm h
  | exn C fs M'=>rw [q] at e;exact e
  | ok b M1=>
   rw [q] at e
   replace e:(if b = true then (body σ M1).bind (zV (whileN c body n)) else Out.ok (.nx σ) M1) = r:=e
   show (if b = true then (body σ M1).bind (zV (whileN c body (n + 1))) else Out.ok (.nx σ) M1) = r
   cases b with
   | false=>exact e
   | true=>
    rw [if_pos rfl] at e ⊢
    cases q2:body σ M1 with
    | bad=>rw [q2] at e;exact absurd e.symm h
    | exn C fs M'=>rw [q2] at e;exact e
    | ok fl M2=>
     rw [q2] at e
     cases fl with
     | nx σ2=>exact zdh (n:=n) e h
     | ct σ2=>exact zdh (n:=n) e h
     | bk σ2=>exact e
     | rt t=>exact e
variable {body:Ev->Mem->Out Fl} {n:Nat}
theorem zgz {c:Ev->Mem->Out Bool} {k:Nat} {σ:Ev} {r:Out Fl} (e:whileN c body n σ M = r) (h:r ≠ .bad):whileN c body (n + k) σ M = r:=by
 induction k with
 | zero=>exact e
 | succ k ih=>exact zdh ih h
theorem zki {c:Ev->Mem->Out Bool} {σ:Ev} {r:Out Fl} (n:Nat) (e:whileN c body n σ M = r) (h:r ≠ .bad):zbO c body σ M = r:=by
 have ex:∃ n,whileN c body n σ M ≠ .bad:=⟨n,by rw [e];exact h⟩
 unfold zbO
 rw [dif_pos ex]
 have h2:=ex.choose_spec
 have e1:=zgz (k:=ex.choose) e h
 have e2:=zgz (k:=n) rfl h2
 rw [Nat.add_comm] at e2
 rw [← e2,e1]
noncomputable def zgk (XE:XK) (K:Frag) (st:T->T->T->Mem->Out Unit):zgx:=fun o i v H Q=>L0 XE UnR K (PrR (PrR (Rep K) (Rep K)) (Rep K)) (fun a M=>st a.1.1 a.1.2 a.2 M) ((o,i),v) H (fun _ H'=>Q H')
noncomputable def za2 (st:T->T->T->Mem->Out Unit) (f g:Ev->Mem->Out T):T->Ev->Mem->Out Ev:=fun t σ M=>(f σ M).bind fun o M1=>(g σ M1).bind fun i M2=>(st o i t M2).bind fun _ M3=>.ok σ M3
noncomputable def zg4 (get op:T->T->Mem->Out T) (st:T->T->T->Mem->Out Unit) (f g h:Ev->Mem->Out T):Ev->Mem->Out Fl:=fun σ M=>
 (f σ M).bind fun o M1=>(g σ M1).bind fun i M2=>(get o i M2).bind fun x M3=>(h σ M3).bind fun y M4=>(op x y M4).bind fun z M5=>(st o i z M5).bind fun _ M6=>.ok (.nx σ) M6
variable {D:Ends} {iter tg:Expr} {st:Stmt} {bd:T->Ev->Mem->Out Ev}
section
variable {a b c:Expr} {h:Ev->Mem->Out T} {sts rest:List Stmt} {p q r:Ev->Mem->Out Fl}
theorem zpg (hh:lS XE K (yh p q) D σ H):lS XE K p { D with nx:=lS XE K q D } σ H:=by
 obtain ⟨S,στ,_,e,m,ev,_,fin⟩:=hh
 refine ⟨S,στ,(),e,m,ev,trivial,?_⟩
 show Fin XE (FlR K) K S (p στ S.M) _
 replace fin:Fin XE (FlR K) K S ((p στ S.M).bind (zbL q)) (qM D):=fin
 cases o:p στ S.M with
 | bad=>rw [o] at fin;exact fin
 | exn C fs M'=>rw [o] at fin;exact fin
 | ok fl M1=>
  rw [o] at fin
  intro S1 cc e1 s1 r1
  cases r1 with
  | nx r1=>exact ⟨S1,_,(),rfl,s1.mok,r1,trivial,by rw [e1];exact Fin.later s1 fin⟩
  | rt r1=>exact fin S1 _ e1 s1 (.rt r1)
  | bk r1=>exact fin S1 _ e1 s1 (.bk r1)
  | ct r1=>exact fin S1 _ e1 s1 (.ct r1)
theorem PG.imp {t t':TG} (h:PG X tg t) (i:∀ v σ H Q,t' v σ H Q->t v σ H Q):PG X tg t':=fun pins s σ H v u Q I r q=>h pins s σ H v u Q I r (i v σ H Q q)
theorem PGs.imp {tgs:List Expr} {t t':TGs} (h:PGs X tgs t) (i:∀ v σ H Q,t' v σ H Q->t v σ H Q):PGs X tgs t':=fun pins s σ H v u Q I r q=>h pins s σ H v u Q I r (i v σ H Q q)
theorem zqJ (hh:LN XE (FlR K) K (Rep K) (fun t σ M=>(bd t σ M).bind fun σ1 M2=>.ok (Fl.nx σ1) M2) v σ H (qM D)):lG XE K bd v σ H D.nx:=by
 obtain ⟨S,στ,t,e,m,ev,ra,fin⟩:=hh
 refine ⟨S,στ,t,e,m,ev,ra,?_⟩
 replace fin:Fin XE (FlR K) K S ((bd t στ S.M).bind fun σ1 M2=>.ok (Fl.nx σ1) M2) (qM D):=fin
 cases o:bd t στ S.M with
 | bad=>rw [o] at fin;exact fin
 | exn C fs M'=>rw [o] at fin;exact fin
 | ok σ1 M1=>
  rw [o] at fin
  intro S1 cc e1 s1 ev1
  exact fin S1 (.nx cc) e1 s1 (.nx ev1)
theorem PI.imp {t t':TI} (h:PI X tg iter t) (i:∀ σ H R,t' σ H R->t σ H R):PI X tg iter t':=fun pins s σ H R I q=>h pins s σ H R I (i σ H R q)
end
noncomputable def startT (n:Nat) (ts:List T):Ev:=ts.map some ++ List.replicate (n - ts.length) none
noncomputable def qi (p n:Nat) (g:Ev->Mem->Out Fl):List T->Mem->Out T:=fun ts M=>if ts.length = p then match g (startT n ts) M with
 | .ok (.rt t) M'=>.ok t M'
 | .ok (.nx _) M'=>.ok .non M'
 | _=>.bad else .bad
noncomputable def spT (K:Frag) (f:List T->Mem->Out T):Sp:=fun vs H Q E=>L0 E (Rep K) K (Reps K) f vs H Q
structure CalT (P:Program) (w:World) (K:Frag) (mg:Str->Option Value) (base:Heap) (k:Nat) (x:Str) (ps:List Str) (f:List T->Mem->Out T):Prop where
 cal:Cal P w K mg base k x ps (spT K f)
 nox:∀ ts M C fs M',f ts M ≠ .exn C fs M'
theorem zfz (p n:Nat) (g:Ev->Mem->Out Fl):∀ ts M C fs M',qi p n g ts M ≠ .exn C fs M':=by
 intro ts M C fs M' z
 unfold qi at z
 split at z
 ·split at z <;> cases z
 ·cases z
variable {N:List Str}
theorem EvR.start {S:Sit} (r:Reps K S ts vs) (hn:N.length = n):EvR K S (startT n ts) (L2.start N vs):=by
 subst hn
 refine ⟨by simp [startT,L2.start,r.1],fun i t e=>?_⟩
 unfold startT at e
 unfold L2.start
 by_cases hi:i < ts.length
 ·rw [Q6 (by simpa using hi)] at e
  rw [Q6 (by simpa [← r.1] using hi)]
  rw [Qb] at e ⊢
  cases q:ts[i]? with
  | none=>rw [q] at e;cases e
  | some t'=>
   rw [q] at e
   have:t' = t:=Qd (Qd e)
   subst this
   obtain ⟨v,e2,r2⟩:=r.get q
   exact ⟨v,by rw [e2];rfl,r2⟩
 ·rw [Q8 (by simpa using hi)] at e
  rw [List.getElem?_replicate] at e
  split at e <;> cases e
variable {base:Heap} {ps:List Str} {P:Program} {mg:Str->Option Value} {w:World}
section
theorem zfo {st:List Stmt} {g:Ev->Mem->Out Fl} {p:Nat} (hn:N.length = n) {E:XK} (hX:X.K = K) (h:spT K (qi p n g) vs H Q E) (hb:GSs X E0 st g) :
  ∃ t,PSs X st t/\t { nx:=fun _ H'=>Q .non H',rt:=Q } (start N vs) H:=by
 subst hX
 refine ⟨_,hb,?_⟩
 obtain ⟨S,ts,e,m,r,fin⟩:=h
 refine ⟨S,startT n ts,(),e,m,EvR.start r hn,trivial,?_⟩
 show Fin E0 (FlR X.K) X.K S (g (startT n ts) S.M) _
 unfold qi at fin
 by_cases hp:ts.length = p
 ·rw [if_pos hp] at fin
  cases o:g (startT n ts) S.M with
  | bad=>rw [o] at fin;exact fin
  | exn C fs M'=>rw [o] at fin;exact fin.elim
  | ok fl M1=>
   rw [o] at fin
   cases fl with
   | nx σ1=>
    intro S1 c e1 s1 r1
    cases r1 with
    | nx r1=>exact fin S1 .non e1 s1 .non
   | rt t=>
    intro S1 c e1 s1 r1
    cases r1 with
    | rt r1=>exact fin S1 _ e1 s1 r1
   | bk σ1=>exact fin.elim
   | ct σ1=>exact fin.elim
 ·rw [if_neg hp] at fin;exact fin.elim
theorem zhs {p:Nat} {g:Ev->Mem->Out Fl} (hp:ps.length = p):∀ vs H Q E,spT K (qi p n g) vs H Q E->vs.length = ps.length:=by
 intro vs H Q E ⟨S,ts,e,m,r,fin⟩
 rw [← r.1,hp]
 unfold qi at fin
 by_cases h:ts.length = p
 ·exact h
 ·rw [if_neg h] at fin;exact fin.elim
theorem zld {k p:Nat} {g:Ev->Mem->Out Fl} (D:Df K mg x st ps) (Sc:FnScope N ps (zg st)) (hp:ps.length = p) (hn:N.length = n)
 (hb:∀ (f:Addr) (cdv:Value) (A:Around) (outer:List PySem.Env) (s:Shared) (H:Hp) (E:XK),Room k (A.deeper (envOfC x (zg st) s.heap.objs.size f cdv))->GSs (zcf CX0 P w K mg base N x (zg st) f cdv A outer s H E).nox E0 (yK st) g) :
  CalT P w K mg base (k + 1) x ps (qi p n g):=
 ⟨D.ok Sc (zhs hp) fun f cdv A outer s H vs Q E hr h=>zfo hn rfl h (hb f cdv A outer s H E hr),zfz _ _ _⟩
theorem zpe {qual:Str} {f:Addr} {fd:FuncData} {k p:Nat} {g:Ev->Mem->Out Fl} (F:Fun K x qual st f fd) (Sc:FnScope N ps (zg st)) (hp:ps.length = p) (hn:N.length = n)
 (hb:∀ (cdv:Value) (A:Around) (outer:List PySem.Env) (s:Shared) (H:Hp) (E:XK),Room k (A.deeper (envOfC qual (zg st) s.heap.objs.size f cdv))->GSs (zcf CX0 P w K mg base N qual (zg st) f cdv A outer s H E).nox E0 (yK st) g) :
  FnOk P w K mg base CX0 (k + 1) f fd ps (spT K (qi p n g)):=
 F.ok Sc (zhs hp) fun cdv A outer s H vs Q E hr h=>zfo hn rfl h (hb cdv A outer s H E hr)
theorem znw {f:List T->Mem->Out T} {a:Addr} {ns:List Int} {M':Mem} (hS:SqL K H a (ns.map V.int)) (h:f [.lst (ns.map .int)] [] = .ok (.bl true) M'):spT K f [.ref a] H (fun v _=>v = .bl true) fun _ _ _=>False:=by
 refine ⟨⟨fun _=>0,[],H,[]⟩,[.lst (ns.map .int)],rfl,⟨fun a c e=>by simp at e,fun a b h=>absurd h (Nat.not_lt_zero _),fun p h=>by simp at h⟩,.cons (.lst (vs:=ns.map V.int) ?_ (by simp) ?_) .nil,?_⟩
 ·rcases hS with h | h
  ·exact .inl ⟨h,fun a h=>absurd h (Nat.not_lt_zero _),fun z=>by simp at z⟩
  ·exact .inr h
 ·intro i t v e1 e2
  rw [Qb] at e1 e2
  cases q:ns[i]? with
  | none=>rw [q] at e1;cases e1
  | some z=>rw [q] at e1 e2;cases e1;cases e2;exact .int z
 ·show Fin _ _ K _ (f [.lst (ns.map .int)] []) _
  rw [h]
  intro S' c e s r
  cases r
  rfl
end
section
variable {k:Nat} {p:Pos} {F:List T->Mem->Out T}
end
inductive T.lt (n:Nat):T->Prop where
 | non:T.lt n .non
 | bl (b:Bool):T.lt n (.bl b)
 | int (i:Int):T.lt n (.int i)
 | str (x:Str):T.lt n (.str x)
 | ty (x:String):T.lt n (.ty x)
 | tup {ts:List T} (h:∀ t ∈ ts,T.lt n t):T.lt n (.tup ts)
 | lst {ts:List T} (h:∀ t ∈ ts,T.lt n t):T.lt n (.lst ts)
 | ref {a:Nat} (h:a < n):T.lt n (.ref a)
 | dct {kvs:List (Key × T)} (h:∀ t ∈ kvs.map (·.2),T.lt n t):T.lt n (.dct kvs)
 | exc {C:Addr} {fs:List (Str × T)} (h:∀ t ∈ fs.map (·.2),T.lt n t):T.lt n (.exc C fs)
noncomputable def Cell.lt (n:Nat):Cell->Prop
 | .lst ts=>∀ t ∈ ts,T.lt n t
 | .dic kvs=>∀ k ∈ kvs,T.lt n k.2
 | .ins _ fs=>∀ k ∈ fs,T.lt n k.2
 | .dtu kvs=>∀ k ∈ kvs,T.lt n k.2
inductive Fz (M':Mem) (n:Nat):T->T->Prop where
 | same {t:T} (h:T.lt n t):Fz M' n t t
 | tup {ts us:List T} (l:ts.length = us.length) (h:∀ (i:Nat) t u,ts[i]? = some t->us[i]? = some u->Fz M' n t u):Fz M' n (.tup ts) (.tup us)
 | lst {ts us:List T} (l:ts.length = us.length) (h:∀ (i:Nat) t u,ts[i]? = some t->us[i]? = some u->Fz M' n t u):Fz M' n (.lst ts) (.lst us)
 | ref {a:Nat} {ts us:List T} (e:M'[a]? = some (.lst ts)) (g:n<=a) (l:ts.length = us.length) (h:∀ (i:Nat) t u,ts[i]? = some t->us[i]? = some u->Fz M' n t u):Fz M' n (.ref a) (.lst us)
theorem Rep.lt {S:Sit} (r:Rep K S t v):T.lt S.M.length t:=by
 induction r with
 | non=>exact .non
 | bl b=>exact .bl b
 | int b=>exact .int b
 | str b=>exact .str b
 | ty b=>exact .ty b
 | @tup ts p vs h l _ ih=>
  refine .tup fun t ht=>?_
  obtain ⟨i,hi,rfl⟩:=getElem_of_mem ht
  exact ih i _ vs[i] (by simp [hi]) (by simp [← l,hi])
 | @lst ts p vs h l _ ih=>
  refine .lst fun t ht=>?_
  obtain ⟨i,hi,rfl⟩:=getElem_of_mem ht
  exact ih i _ vs[i] (by simp [hi]) (by simp [← l,hi])
 | ref h=>exact .ref h
 | @dct kvs us p o h l _ ih=>
  refine .dct fun t ht=>?_
  obtain ⟨i,hi,rfl⟩:=getElem_of_mem ht
  have hl:i < us.length:=by have:=congrArg List.length l;simp at this hi;omega
  exact ih i _ (us[i]'hl).2 (Q0 hi) (by simp [hl])
 | @exc C fs us p od h hd l _ ih=>
  refine .exc fun t ht=>?_
  obtain ⟨i,hi,rfl⟩:=getElem_of_mem ht
  have hl:i < us.length:=by have:=congrArg List.length l;simp at this hi;omega
  exact ih i _ (us[i]'hl).2 (Q0 hi) (by simp [hl])
theorem Reps.lt {S:Sit} (r:Reps K S ts vs):∀ t ∈ ts,T.lt S.M.length t:=fun t ht=>by
 obtain ⟨i,hi,rfl⟩:=getElem_of_mem ht
 have hv:i < vs.length:=by rw [← r.1];exact hi
 exact (r.2 i _ vs[i] (by simp [hi]) (by simp [hv])).lt
theorem zgi {κ:Type} {fs:List (κ × T)} (h:∀ t ∈ fs.map (·.2),T.lt n t):∀ k ∈ fs,T.lt n k.2:=fun k hk=>h _ (List.mem_map_of_mem (f:=(·.2)) hk)
theorem CellOk.lt {S:Sit} {c:Cell} (h:CellOk K S p c):Cell.lt S.M.length c:=by
 cases c with
 | lst ts=>obtain ⟨vs,_,r⟩:=h;exact r.lt
 | dic ts=>obtain ⟨vs,_,r⟩:=h;exact zgi r.2.lt
 | ins C ts=>obtain ⟨dx,vs,_,r⟩:=h;exact zgi r.2.lt
 | dtu ts=>obtain ⟨vs,_,r⟩:=h;exact zgi r.2.lt
variable {m:Nat}
theorem T.lt.mono (h:n<=m) (r:T.lt n t):T.lt m t:=by
 induction r with
 | non=>exact .non
 | bl b=>exact .bl b
 | int b=>exact .int b
 | str b=>exact .str b
 | ty b=>exact .ty b
 | tup _ ih=>exact .tup ih
 | lst _ ih=>exact .lst ih
 | ref g=>exact .ref (Q5 g h)
 | dct _ ih=>exact .dct ih
 | exc _ ih=>exact .exc ih
noncomputable def Sit.cut (S:Sit) (n:Nat) (h:List Addr):Sit:=⟨S.α,S.M.take n,S.H,h⟩
variable {u:T}
section
variable {S:Sit}
theorem Rep.cut (hn:n<=S'.M.length) (sub:∀ p ∈ hh,p ∈ S'.hid) (r:Rep K S' t v) (l:T.lt n t):Rep K (S'.cut n hh) t v:=by
 have ln:(S'.cut n hh).M.length = n:=by show (S'.M.take n).length = n;simp;omega
 induction r with
 | non=>exact .non
 | bl b=>exact .bl b
 | int b=>exact .int b
 | str b=>exact .str b
 | ty b=>exact .ty b
 | @tup ts p vs h l2 _ ih=>
  cases l with
  | tup hl=>exact .tup h l2 fun i t v e1 e2=>ih i t v e1 e2 (hl t (Qa e1))
 | @lst ts p vs h l2 _ ih=>
  cases l with
  | lst hl=>
   refine .lst ?_ l2 fun i t v e1 e2=>ih i t v e1 e2 (hl t (Qa e1))
   rcases h with ⟨h,f⟩ | h
   ·exact .inl ⟨h,fun a ha z=>f.1 a (by rw [ln] at ha;omega) z,fun z=>f.2 (sub _ z)⟩
   ·exact .inr h
 | @ref a h=>
  cases l with
  | ref hl=>exact .ref (S:=S'.cut n hh) (by rw [ln];exact hl)
 | dct h l2 _ ih=>
  cases l with
  | dct hl=>exact .dct (S:=S'.cut n hh) h l2 fun i t v e1 e2=>ih i t v e1 e2 (hl t (Qa e1))
 | exc h hd l2 _ ih=>
  cases l with
  | exc hl=>exact .exc (S:=S'.cut n hh) h hd l2 fun i t v e1 e2=>ih i t v e1 e2 (hl t (Qa e1))
theorem Reps.cut (hn:n<=S'.M.length) (sub:∀ p ∈ hh,p ∈ S'.hid) {t:List T} {v:List V} (r:Reps K S' t v) (l:∀ x ∈ t,T.lt n x):Reps K (S'.cut n hh) t v:=⟨r.1,fun i t v e1 e2=>(r.2 i t v e1 e2).cut hn sub (l t (Qa e1))⟩
theorem CellOk.cut (hn:n<=S'.M.length) (sub:∀ p ∈ hh,p ∈ S'.hid) {c:Cell} (r:CellOk K S' p c) (l:Cell.lt n c):CellOk K (S'.cut n hh) p c:=by
 have ms:∀ {κ:Type} {fs:List (κ × T)},(∀ k ∈ fs,T.lt n k.2)->∀ t ∈ fs.map (·.2),T.lt n t:=fun h t ht=>by
  obtain ⟨k,hk,rfl⟩:=mem_map.mp ht
  exact h k hk
 cases c with
 | lst ts=>obtain ⟨vs,q,r⟩:=r;exact ⟨vs,q,r.cut hn sub l⟩
 | dic ts=>obtain ⟨vs,q,r⟩:=r;exact ⟨vs,q,r.1,r.2.cut hn sub (ms l)⟩
 | ins C ts=>obtain ⟨dx,vs,q,r⟩:=r;exact ⟨dx,vs,q,r.1,r.2.cut hn sub (ms l)⟩
 | dtu ts=>obtain ⟨vs,q,r⟩:=r;exact ⟨vs,q,r.1,r.2.cut hn sub (ms l)⟩
theorem Stp.cut (s:Stp K S S') (h1:S.M.length<=n) (h2:n<=S'.M.length) (hl:∀ (i:Nat) c,i < n->S'.M[i]? = some c->Cell.lt n c):Stp K S (S'.cut n S.hid):=by
 have sub:∀ p ∈ S.hid,p ∈ S'.hid:=fun p h=>(s.hk p h).1
 have ln:(S'.cut n S.hid).M.length = n:=by show (S'.M.take n).length = n;simp;omega
 refine ⟨⟨by rw [ln];exact h1,s.al,fun a g1 g2=>s.fr a g1 (by rw [ln] at g2;omega),s.kp,fun p h=>⟨h,(s.hk p h).2⟩,fun p h=>.inl h⟩,⟨fun a c e=>?_,fun a b g1 g2 e=>s.mok.inj a b (by rw [ln] at g1;omega) (by rw [ln] at g2;omega) e,fun p h=>?_⟩⟩
 ·have e':(S'.M.take n)[a]? = some c:=e
  rw [List.getElem?_take] at e'
  split at e'
  ·rename_i hi
   exact (s.mok.cell a c e').cut h2 sub (hl a c hi e')
  ·cases e'
 ·obtain ⟨g1,vs,g2⟩:=s.mok.hd p (sub p h)
  exact ⟨fun a ha z=>g1 a (by rw [ln] at ha;omega) z,vs,g2⟩
theorem Rep.fz (m:MemOk K S') (hn:n<=S'.M.length) (sub:∀ p ∈ hh,p ∈ S'.hid) (z:Fz S'.M n t u):∀ {v:V},Rep K S' t v->Rep K (S'.cut n hh) u v:=by
 have ln:(S'.cut n hh).M.length = n:=by show (S'.M.take n).length = n;simp;omega
 induction z with
 | same h=>exact fun r=>r.cut hn sub h
 | @tup ts us l _ ih=>
  intro v r
  cases r with
  | @tup _ p vs h l2 rr=>
   refine .tup h (by rw [← l];exact l2) fun i t v e1 e2=>?_
   have hi:i < ts.length:=by rw [l];exact (List.getElem?_eq_some_iff.mp e1).1
   exact ih i ts[i] t (by simp [hi]) e1 (rr i _ v (by simp [hi]) e2)
 | @lst ts us l _ ih=>
  intro v r
  cases r with
  | @lst _ p vs h l2 rr=>
   refine .lst ?_ (by rw [← l];exact l2) fun i t v e1 e2=>?_
   ·rcases h with ⟨h,f⟩ | h
    ·exact .inl ⟨h,fun a ha z=>f.1 a (by rw [ln] at ha;omega) z,fun z=>f.2 (sub _ z)⟩
    ·exact .inr h
   ·have hi:i < ts.length:=by rw [l];exact (List.getElem?_eq_some_iff.mp e1).1
    exact ih i ts[i] t (by simp [hi]) e1 (rr i _ v (by simp [hi]) e2)
 | @ref a ts us e g l _ ih=>
  intro v r
  cases r with
  | ref ha=>
   obtain ⟨vs,q,rr⟩:=m.cell a _ e
   refine .lst (vs:=vs) (.inl ⟨.inl q,fun b hb z=>?_,fun z=>?_⟩) (by rw [← l];exact rr.1) fun i t v e1 e2=>?_
   ·rw [ln] at hb
    have:=m.inj b a (by omega) ha z
    omega
   ·exact (m.hd _ (sub _ z)).1 a ha rfl
   ·have hi:i < ts.length:=by rw [l];exact (List.getElem?_eq_some_iff.mp e1).1
    exact ih i ts[i] t (by simp [hi]) e1 (rr.2 i _ v (by simp [hi]) e2)
end
def Refines (f g:List T->Mem->Out T):Prop:=∀ ts M t' M1,(∀ c ∈ M,Cell.lt M.length c)->f ts M = .ok t' M1->∃ t M',g ts M = .ok t M'/\M.length<=M1.length/\M1.length<=M'.length/\M1 = M'.take M1.length/\(∀ (i:Nat) c,M1[i]? = some c->M[i]? = some c\/Cell.lt M1.length c)/\Fz M' M1.length t t'
theorem Cell.lt.mono (h:n<=m) {c:Cell} (r:Cell.lt n c):Cell.lt m c:=by
 cases c with
 | lst ts=>exact fun t ht=>(r t ht).mono h
 | dic ts=>exact fun t ht=>(r t ht).mono h
 | ins C ts=>exact fun t ht=>(r t ht).mono h
 | dtu ts=>exact fun t ht=>(r t ht).mono h
theorem CalT.refine {k:Nat} {f g:List T->Mem->Out T} (C:CalT P w K mg base k x ps g) (h:Refines f g) (nox:∀ ts M C fs M',f ts M ≠ .exn C fs M'):CalT P w K mg base k x ps f:=by
 refine ⟨?_,nox⟩
 obtain ⟨⟨fa,fd,F,kp,b,gg⟩⟩:=C.cal
 have key:∀ vs H Q E,spT K f vs H Q E->spT K g vs H Q E:=by
  rintro vs H Q E ⟨S,ts,e,m,r,fin⟩
  refine ⟨S,ts,e,m,r,?_⟩
  have wf:∀ c ∈ S.M,Cell.lt S.M.length c:=fun c hc=>by
   obtain ⟨i,hi,rfl⟩:=getElem_of_mem hc
   exact (m.cell i _ (by simp [hi])).lt
  cases o:f ts S.M with
  | bad=>rw [o] at fin;exact fin.elim
  | exn C' fs M'=>exact absurd o (nox _ _ _ _ _)
  | ok t' M1=>
   rw [o] at fin
   obtain ⟨t,M',eg,l1,l2,eM,hc,z⟩:=h ts S.M t' M1 wf o
   rw [eg]
   intro S' v e1 s r1
   have hl:∀ (i:Nat) c,i < M1.length->S'.M[i]? = some c->Cell.lt M1.length c:=fun i c hi ec=>by
    have e2:M1[i]? = some c:=by
     rw [eM,List.getElem?_take,if_pos hi,← e1];exact ec
    rcases hc i c e2 with q | q
    ·exact (wf c (Qa q)).mono l1
    ·exact q
   have sc:=s.cut l1 (by rw [e1];exact l2) hl
   refine fin (S'.cut M1.length S.hid) v ?_ sc ?_
   ·show S'.M.take M1.length = M1
    rw [e1];exact eM.symm
   ·exact Rep.fz s.mok (by rw [e1];exact l2) (fun p h=>(s.hk p h).1) (by rw [e1];exact z) r1
 refine ⟨⟨fa,fd,⟨fun vs H Q E q=>F.len vs H Q E (key _ _ _ _ q),?_⟩,kp,b,gg⟩⟩
 intro A outer s H args us vs Q E hr h0 hb hv hq
 exact F.run A outer s H args us vs Q E hr h0 hb hv (key _ _ _ _ hq)
noncomputable def zq (t:T) (M:Mem):Option (List T):=match t with
 | .lst xs=>some xs
 | .ref a=>match M[a]? with
  | some (.lst xs)=>some xs
  | _=>none
 | _=>none
noncomputable def zhv (t:T):Option (List T):=match t with
 | .lst xs=>some xs
 | .tup xs=>some xs
 | _=>none
noncomputable def yS (t:T) (M:Mem):Option (List T):=match t with
 | .tup xs=>some xs
 | t=>zq t M
section
variable {S:Sit}
theorem zdC (h:(Rd S.H p (.lst vs)/\S.off p)\/KL K p vs):SqL K S.H p vs:=by
 rcases h with ⟨h,_⟩ | h
 ·exact .inl h
 ·exact .inr h
theorem zC (m:MemOk K S) (r:Rep K S t v) (e:zq t S.M = some xs):∃ p vs,v = .ref p/\SqL K S.H p vs/\Reps K S xs vs:=by
 cases r with
 | @lst ts p vs h l r=>cases e;exact ⟨p,vs,rfl,zdC h,l,r⟩
 | @ref a h=>
  unfold zq at e
  dsimp only at e
  split at e
  ·rename_i ys q
   cases e
   obtain ⟨vs,q2,r2⟩:=m.cell a _ q
   exact ⟨_,vs,rfl,.inl (.inl q2),r2⟩
  ·cases e
 | _=>cases e
theorem zcn (m:MemOk K S) (r:Rep K S t v) (e:yS t S.M = some xs):∃ p vs,v = .ref p/\(SqL K S.H p vs\/SqT K S.H p vs)/\Reps K S xs vs:=by
 cases t with
 | tup ts=>
  cases e
  cases r with
  | @tup _ p vs h l r=>exact ⟨p,vs,rfl,.inr h,l,r⟩
 | lst ts=>obtain ⟨p,vs,e1,h,r2⟩:=zC m r e;exact ⟨p,vs,e1,.inl h,r2⟩
 | ref a=>obtain ⟨p,vs,e1,h,r2⟩:=zC m r e;exact ⟨p,vs,e1,.inl h,r2⟩
 | _=>cases e
end
noncomputable def zcD (f:Ev->Mem->Out T):Ev->Mem->Out (List T):=fun σ M=>(f σ M).bind fun t M1=>match zhv t with
 | some xs=>.ok xs M1
 | none=>.bad
noncomputable def zdo (lo:Int) (n:Nat):List T:=(List.range n).map fun (k:Nat)=>T.int (lo + (k:Int))
noncomputable def zcA (ts:List T) (M1:Mem):Out (List T):=match ts with
 | [.int j]=>@ite _ (-(2 ^ 62)<=j/\j < 2 ^ 62) (Classical.propDecidable _) (.ok (zdo 0 j.toNat) M1) .bad
 | _=>.bad
noncomputable def zfe (ts:List T) (M1:Mem):Out (List T):=match ts with
 | [.int i,.int j]=>@ite _ ((-(2 ^ 62)<=i/\i < 2 ^ 62)/\(-(2 ^ 62)<=j/\j < 2 ^ 62)) (Classical.propDecidable _) (.ok (zdo i (j - i).toNat) M1) .bad
 | _=>.bad
noncomputable def yV (f:Ev->Mem->Out (List T)):Ev->Mem->Out (List T):=fun σ M=>(f σ M).bind fun ts M1=>zcA ts M1
noncomputable def zgn (f:Ev->Mem->Out (List T)):Ev->Mem->Out (List T):=fun σ M=>(f σ M).bind fun ts M1=>zfe ts M1
theorem zhY (K:Frag) (S:Sit) (lo:Int) (n:Nat):zdw K S (zdo lo n) (Itr lo n):=fun S' s=>by
 refine ⟨fun i t e=>?_,fun i h=>?_⟩
 ·unfold zdo at e
  rw [Qb] at e
  cases q:(List.range n)[i]? with
  | none=>rw [q] at e;cases e
  | some k=>
   rw [q] at e
   cases e
   have hi:i < n:=by have:=(List.getElem?_eq_some_iff.mp q).1;simpa using this
   have hk:k = i:=by rw [getElem?_range hi] at q;exact (Qd q).symm
   subst hk
   refine ⟨hi,fun x H' hy=>?_⟩
   obtain ⟨e1,e2⟩:=hy
   exact ⟨S',e1.symm,rfl,.refl s.mok,by rw [e2];exact .int _⟩
 ·show n<=i
  simpa [zdo] using h
section
variable {a b c:Expr} {h:Ev->Mem->Out T} {p:Pos}
theorem zpH (he:GE X XE e f):GI X XE tg e (zcD f):=PI.imp (PI.or (zf9 he) (zko he)) fun σ H R h9=>by
 obtain ⟨S,στ,_,e,m,ev,_,fin⟩:=h9
 replace fin:Fin XE (zdw X.K) X.K S ((f στ S.M).bind fun t M1=>match zhv t with | some xs=>.ok xs M1 | none=>.bad) R:=fin
 cases o:f στ S.M with
 | bad=>rw [o] at fin;exact fin.elim
 | exn C fs M'=>
  rw [o] at fin
  refine .inl ⟨S,στ,(),e,m,ev,trivial,?_⟩
  show Fin XE (Rep X.K) X.K S (f στ S.M) _
  rw [o];exact fin
 | ok t M1=>
  rw [o] at fin
  cases t with
  | lst ts=>
   refine .inl ⟨S,στ,(),e,m,ev,trivial,?_⟩
   show Fin XE (Rep X.K) X.K S (f στ S.M) _
   rw [o]
   intro S1 v e1 s1 r1
   cases r1 with
   | @lst _ p vs h l r=>
    have r1:Reps X.K S1 ts vs:=⟨l,r⟩
    refine ⟨p,rfl,⟨vs,zdC h⟩,fin S1 _ e1 s1 fun S3 s3=>?_⟩
    have g3:SqL X.K S3.H p vs:=by
     rcases h with ⟨h2,f2⟩ | h2
     ·exact .inl (s3.toGrow.rd h2 f2).1
     ·exact .inr h2
    refine ⟨fun i t et=>?_,fun i hi=>⟨vs,g3,by rw [← l];exact hi⟩⟩
    obtain ⟨v2,ev3,r3⟩:=r1.get et
    refine ⟨⟨vs,v2,g3,ev3⟩,fun x H' hy=>?_⟩
    obtain ⟨ey,hy⟩:=hy
    have:=hy vs g3
    rw [ev3] at this
    cases this
    exact ⟨S3,ey.symm,rfl,.refl s3.mok,r3.grow s1.mok s3.toGrow⟩
  | tup ts=>
   refine .inr ⟨S,στ,(),e,m,ev,trivial,?_⟩
   show Fin XE (Rep X.K) X.K S (f στ S.M) _
   rw [o]
   intro S1 v e1 s1 r1
   cases r1 with
   | @tup _ p vs h l r=>
    have r1:Reps X.K S1 ts vs:=⟨l,r⟩
    refine ⟨p,rfl,⟨vs,h⟩,fin S1 _ e1 s1 fun S3 s3=>?_⟩
    have g3:SqT X.K S3.H p vs:=s3.toGrow.tup s1.mok h
    refine ⟨fun i t et=>?_,fun i hi=>⟨vs,g3,by rw [← l];exact hi⟩⟩
    obtain ⟨v2,ev3,r3⟩:=r1.get et
    refine ⟨⟨vs,v2,g3,ev3⟩,fun x H' hy=>?_⟩
    obtain ⟨ey,hy⟩:=hy
    have:=hy vs g3
    rw [ev3] at this
    cases this
    exact ⟨S3,ey.symm,rfl,.refl s3.mok,r3.grow s1.mok s3.toGrow⟩
  | _=>exact fin.elim
end
noncomputable def qA (bd:T->Ev->Mem->Out Ev) (cond:Ev->Mem->Out Bool) (el:Ev->Mem->Out T):List T->Ev->Mem->List T->Out (List T)
 | [],_,M,acc=>.ok acc M
 | x :: xs,σ,M,acc=>(bd x σ M).bind fun σ1 M1=>(cond σ1 M1).bind fun b M2=>if b = true then (el σ1 M2).bind fun t M3=>if acc.length < sizeLine then qA bd cond el xs σ1 M3 (acc ++ [t]) else .bad else qA bd cond el xs σ1 M2 acc
noncomputable def zeA (tgs:List Str) (caps:List (Str × Nat)) (σ:Ev):Ev:=tgs.map (fun _=>none) ++ caps.map fun c=>(σ[c.2]?).join
noncomputable def zbc (it:Ev->Mem->Out (List T)) (bd:T->Ev->Mem->Out Ev) (cond:Ev->Mem->Out Bool) (el:Ev->Mem->Out T) (tgs:List Str) (caps:List (Str × Nat)):Ev->Mem->Out (List T):=fun σ M=>(it σ M).bind fun xs M1=>qA bd cond el xs (zeA tgs caps σ) M1 []
noncomputable def zX:Ev->Mem->Out Bool:=fun _ M=>.ok true M
theorem EvR.cap {S:Sit} (r:EvR K S στ σ) (tgs:List Str) (caps:List (Str × Nat)):EvR K S (zeA tgs caps στ) (zds tgs caps σ):=by
 refine ⟨by simp [zeA,zds],fun i t e=>?_⟩
 unfold zeA at e
 unfold zds
 by_cases hi:i < tgs.length
 ·rw [Q6 (by simpa using hi)] at e
  rw [Qb] at e
  cases q:tgs[i]? with
  | none=>rw [q] at e;cases e
  | some x=>rw [q] at e;cases e
 ·rw [Q8 (by simpa using hi),Qb] at e
  rw [Q8 (by simpa using hi),Qb]
  simp only [Qh] at e ⊢
  cases q:caps[i - tgs.length]? with
  | none=>rw [q] at e;cases e
  | some cq=>
   rw [q] at e
   have e2:(στ[cq.2]?).join = some t:=Qd e
   have e3:στ[cq.2]? = some (some t):=by
    cases q2:στ[cq.2]? with
    | none=>rw [q2] at e2;cases e2
    | some o=>rw [q2] at e2;cases o with
     | none=>cases e2
     | some v'=>rw [show v' = t from Qd e2]
   obtain ⟨v,e4,r4⟩:=r.2 _ _ e3
   exact ⟨v,by show some ((σ[cq.2]?).join) = _;rw [e4];rfl,r4⟩
noncomputable def Sit.hput (S:Sit) (p:Addr) (vs:List V):Sit:=⟨S.α,S.M,upd S.H p (.lst vs),S.hid⟩
section
variable {S S0:Sit} {us:List V}
theorem Rep.hput (m:MemOk K S) (hp:p ∈ S.hid) (r:Rep K S t v):Rep K (S.hput p us) t v:=by
 obtain ⟨_,ws,ew⟩:=m.hd p hp
 induction r with
 | non=>exact .non
 | bl b=>exact .bl b
 | int b=>exact .int b
 | str b=>exact .str b
 | ty b=>exact .ty b
 | @tup ts q vs h l _ ih=>
  refine .tup ?_ l ih
  rcases h with (h | ⟨o,h⟩) | h
  ·exact .inl (.inl ((zl (zda h ew (by intro z;cases z))).trans h))
  ·exact .inl (.inr ⟨o,(zl (zda h ew (by intro z;cases z))).trans h⟩)
  ·exact .inr h
 | @lst ts q vs h l _ ih=>
  refine .lst ?_ l ih
  rcases h with ⟨h,f⟩ | h
  ·have hne:q ≠ p:=fun z=>f.2 (by rw [z];exact hp)
   refine .inl ⟨?_,f⟩
   rcases h with h | ⟨o,h⟩
   ·exact .inl ((zl hne).trans h)
   ·exact .inr ⟨o,(zl hne).trans h⟩
  ·exact .inr h
 | ref h=>exact .ref (S:=S.hput p us) h
 | dct h l _ ih=>exact .dct (S:=S.hput p us) ((zl (zda h ew (by intro z;cases z))).trans h) l ih
 | exc h hd l _ ih=>exact .exc (S:=S.hput p us) ((zl (zda h ew (by intro z;cases z))).trans h) (hd.imp (fun z=>z) fun ⟨d,a,b⟩=>⟨d,a,(zl (zda b ew (by intro z;cases z))).trans b⟩) l ih
theorem Reps.hput (m:MemOk K S) (hp:p ∈ S.hid) {t:List T} {v:List V} (r:Reps K S t v):Reps K (S.hput p us) t v:=⟨r.1,fun i a b e1 e2=>(r.2 i a b e1 e2).hput m hp⟩
theorem CellOk.hput (m:MemOk K S) (hp:p ∈ S.hid) {c:Cell} (hq:q ≠ p) (r:CellOk K S q c):CellOk K (S.hput p us) q c:=by
 cases c with
 | lst ts=>obtain ⟨vs,q,r⟩:=r;exact ⟨vs,(zl hq).trans q,r.hput m hp⟩
 | dic ts=>obtain ⟨vs,q,r⟩:=r;exact ⟨vs,(zl hq).trans q,r.1,r.2.hput m hp⟩
 | ins C ts=>obtain ⟨dx,vs,q,r⟩:=r;exact ⟨dx,vs,(zl hq).trans q,r.1,r.2.hput m hp⟩
 | dtu ts=>obtain ⟨vs,q,r⟩:=r;exact ⟨vs,(zl hq).trans q,r.1,r.2.hput m hp⟩
theorem Stp.hput (s:Stp K S0 S) (hp:p ∈ S.hid) (hn:S0.H p = none) (m0:MemOk K S0):Stp K S0 (S.hput p us):=by
 refine ⟨⟨s.le,s.al,s.fr,fun b o e f=>(zl (qE e hn)).trans (s.kp b o e f),fun q h=>⟨(s.hk q h).1,?_⟩,s.hf⟩,⟨fun a c e=>?_,s.mok.inj,fun q h=>?_⟩⟩
 ·obtain ⟨_,vs,e⟩:=m0.hd q h
  exact (zl (qE e hn)).trans (s.hk q h).2
 ·exact (s.mok.cell a c e).hput s.mok hp ((s.mok.hd p hp).1 a (List.getElem?_eq_some_iff.mp e).1)
 ·obtain ⟨h1,vs,e⟩:=s.mok.hd q h
  refine ⟨h1,?_⟩
  by_cases z:q = p
  ·exact ⟨us,by show upd S.H p _ q = _;rw [z];exact yF⟩
  ·exact ⟨vs,(zl z).trans e⟩
end
structure CB (X:Cx) (scope:Scope) (cl:List (Str × Addr)) (caps:List (Str × Nat)):Prop where
 hc:X.calm = true
 hclos:closureFor scope X.env = pure cl
 hcell:∀ y ∈ scope.names,y.2 = .cell->y.1 ∉ caps.map (·.1)
 hkind:scope.kind = .function
 hnames:∀ y ∈ scope.names,y.2 = .local->scope.names.lookup y.1 = some .local
 hcl:∀ y c,cl.lookup y = some c->X.env.cells.lookup y = some c
 hhas:∀ n y,((relabel scope X.env).names.lookup y = some .cell\/(relabel scope X.env).names.lookup y = some .free)->∃ c,(cellsFrom n scope.names cl).lookup y = some c
 hcap:∀ c ∈ caps,X.N[c.2]? = some c.1/\X.env.kindOf c.1 = some .cell/\((relabel scope X.env).names.lookup c.1 = some .cell\/(relabel scope X.env).names.lookup c.1 = some .free)
variable {cond:Ev->Mem->Out Bool} {caps:List (Str × Nat)} {tgs:List Str}
section
theorem zmf (hh:lL XE X.K (zbc ga bd cond f tgs caps) σ H Q) :
  zmm (lI XE X.K ga) (lG XE X.K bd) (lT XE X.K cond) (lE XE X.K f) (zds tgs caps) σ H Q:=by
 obtain ⟨S,στ,e,m,ev,fin⟩:=hh
 replace fin:FinL XE X.K S ((ga στ S.M).bind fun xs M1=>qA bd cond f xs (zeA tgs caps στ) M1 []) Q:=fin
 refine ⟨S,στ,(),e,m,ev,trivial,?_⟩
 show Fin XE (zdw X.K) X.K S (ga στ S.M) _
 cases o:ga στ S.M with
 | bad=>rw [o] at fin;exact fin
 | exn C fs M'=>rw [o] at fin;exact fin
 | ok items M1=>
  rw [o] at fin
  replace fin:FinL XE X.K S (qA bd cond f items (zeA tgs caps στ) M1 []) Q:=fin
  intro S0 J e0 s0 it0 D hD
  have m0:=s0.mok
  have fin0:=fin.later s0
  have s1:=Stp.hide (K:=X.K) m0 hD []
  refine ⟨fun i n σ' H'=>∃ S στ acc vs,S.H = H'/\EvR X.K S στ σ'/\n = items.length - i/\i<=items.length/\D ∈ S.hid/\S.H D = some (.lst vs)/\Reps X.K S acc vs/\Stp X.K S0 S/\FinL XE X.K S0 (qA bd cond f (items.drop i) στ S.M acc) Q,
   ⟨items.length - 0,S0.hide D [],zeA tgs caps στ,[],[],rfl,(Mo.mo (K:=X.K) m0 s1 (Mo.mo (K:=X.K) m s0 ev)).cap tgs caps,rfl,Nat.zero_le _,.head _,yF,.nil,s1,by show FinL XE X.K S0 (qA bd cond f items (zeA tgs caps στ) S0.M []) Q;rw [e0];exact fin0⟩,?_⟩
  rintro i n σ1 H1 ⟨S2,στ2,acc,vs,e2,ev2,en,hi2,hid2,hD2,racc,s2,fin2⟩
  subst e2
  have m2:=s2.mok
  obtain ⟨itg,its⟩:=it0 S2 s2
  by_cases hl:i < items.length
  ·have eq:items.drop i = items[i] :: items.drop (i + 1):=List.drop_eq_getElem_cons hl
   rw [eq] at fin2
   obtain ⟨go,yl⟩:=itg i items[i] (by simp [hl])
   refine .inr ⟨go,fun σ' H'=>∃ S στ acc vs,S.H = H'/\EvR X.K S στ σ'/\D ∈ S.hid/\S.H D = some (.lst vs)/\Reps X.K S acc vs/\Stp X.K S0 S/\FinL XE X.K S0 (qA bd cond f (items.drop (i + 1)) στ S.M acc) Q,?_,fun x H' hy=>?_⟩
   ·rintro σ' H' ⟨S,στ,acc,vs,a1,a2,a3,a4,a5,a6,a7⟩
    exact ⟨items.length - (i + 1),by omega,S,στ,acc,vs,a1,a2,rfl,hl,a3,a4,a5,a6,a7⟩
   ·obtain ⟨S3,e3,eM,s3,r3⟩:=yl x H' hy
    replace fin2:FinL XE X.K S0 ((bd items[i] στ2 S2.M).bind fun σ1 M1=>(cond σ1 M1).bind fun b M2=>if b = true then (f σ1 M2).bind fun t M3=>if acc.length < sizeLine then qA bd cond f (items.drop (i + 1)) σ1 M3 (acc ++ [t]) else .bad else qA bd cond f (items.drop (i + 1)) σ1 M2 acc) Q:=fin2
    refine ⟨S3,στ2,items[i],e3,s3.mok,Mo.mo m2 s3 ev2,r3,?_⟩
    show Fin XE (EvR X.K) X.K S3 (bd items[i] στ2 S3.M) _
    rw [eM]
    cases o1:bd items[i] στ2 S2.M with
    | bad=>rw [o1] at fin2;exact fin2
    | exn C fs M'=>rw [o1] at fin2;exact fun S' od a1 a2 a3=>fin2 S' od a1 ((s2.trans s3).trans a2) a3
    | ok σ4 M4=>
     rw [o1] at fin2
     intro S4 σ4v e4 s4 ev4
     have t4:=s3.trans s4
     replace fin2:FinL XE X.K S0 ((cond σ4 M4).bind fun b M2=>if b = true then (f σ4 M2).bind fun t M3=>if acc.length < sizeLine then qA bd cond f (items.drop (i + 1)) σ4 M3 (acc ++ [t]) else .bad else qA bd cond f (items.drop (i + 1)) σ4 M2 acc) Q:=fin2
     refine ⟨S4,σ4,(),rfl,s4.mok,ev4,trivial,?_⟩
     show Fin XE EqR X.K S4 (cond σ4 S4.M) _
     rw [e4]
     cases o2:cond σ4 M4 with
     | bad=>rw [o2] at fin2;exact fin2
     | exn C fs M'=>rw [o2] at fin2;exact fun S' od a1 a2 a3=>fin2 S' od a1 ((s2.trans t4).trans a2) a3
     | ok b M5=>
      rw [o2] at fin2
      intro S5 b5 e5 s5 eb
      have eb':b = b5:=eb
      subst eb'
      have t5:=t4.trans s5
      replace fin2:FinL XE X.K S0 (if b = true then (f σ4 M5).bind fun t M3=>if acc.length < sizeLine then qA bd cond f (items.drop (i + 1)) σ4 M3 (acc ++ [t]) else .bad else qA bd cond f (items.drop (i + 1)) σ4 M5 acc) Q:=fin2
      cases b with
      | false=>
       rw [if_neg Q4] at fin2
       refine (if_neg Q4).mpr ⟨S5,σ4,acc,vs,rfl,Mo.mo s4.mok s5 ev4,(t5.hk D hid2).1,by rw [(t5.hk D hid2).2];exact hD2,racc.grow m2 t5.toGrow,s2.trans t5,by rw [e5];exact fin2⟩
      | true=>
       rw [if_pos rfl] at fin2
       refine (if_pos rfl).mpr ⟨S5,σ4,(),rfl,s5.mok,Mo.mo s4.mok s5 ev4,trivial,?_⟩
       show Fin XE (Rep X.K) X.K S5 (f σ4 S5.M) _
       rw [e5]
       cases o3:f σ4 M5 with
       | bad=>rw [o3] at fin2;exact fin2
       | exn C fs M'=>rw [o3] at fin2;exact fun S' od a1 a2 a3=>fin2 S' od a1 ((s2.trans t5).trans a2) a3
       | ok t M6=>
        rw [o3] at fin2
        replace fin2:FinL XE X.K S0 (if acc.length < sizeLine then qA bd cond f (items.drop (i + 1)) σ4 M6 (acc ++ [t]) else .bad) Q:=fin2
        intro S6 v6 e6 s6 r6
        have t6:=t5.trans s6
        have hz:acc.length < sizeLine:=by
         by_cases hz:acc.length < sizeLine
         ·exact hz
         ·rw [if_neg hz] at fin2;exact fin2.elim
        rw [if_pos hz] at fin2
        have hid6:=(t6.hk D hid2).1
        have hD6:S6.H D = some (.lst vs):=by rw [(t6.hk D hid2).2];exact hD2
        refine ⟨vs,hD6,by rw [← racc.1];exact hz,S6.hput D (vs ++ [v6]),σ4,acc ++ [t],vs ++ [v6],rfl,?_,hid6,yF,?_,(s2.trans t6).hput hid6 hD m0,by show FinL XE X.K S0 (qA bd cond f (items.drop (i + 1)) σ4 S6.M (acc ++ [t])) Q;rw [e6];exact fin2⟩
        ·have ev6:EvR X.K S6 σ4 σ4v:=Mo.mo s4.mok (s5.trans s6) ev4
         exact ⟨ev6.1,fun i t e=>let ⟨v,e',q⟩:=ev6.2 i t e;⟨v,e',q.hput s6.mok hid6⟩⟩
        ·exact ((racc.grow m2 t6.toGrow).app (.cons r6 .nil)).hput s6.mok hid6
  ·rw [List.drop_eq_nil_of_le (by omega)] at fin2
   refine .inl ⟨its i (by omega),?_⟩
   exact fin2 S2 D vs rfl s2 hD hid2 hD2 racc
theorem znG:PTs X [] (lT XE X.K zX):=fun pins s σ H Q I h=>zmV pins s σ H Q I (zg7 h)
theorem znF {c:Expr} (h:GT X XE c tf):PTs X [c] (lT XE X.K tf):=zmU h
end
def LNL {A AV:Type} (XE:XK) (K:Frag) (RA:Sit->A->AV->Prop) (k:A->Ev->Mem->Out (List T)) (av:AV) (σ:L2.St) (H:Hp) (Q:VK):Prop:=
 ∃ (S:Sit) (στ:Ev) (a:A),S.H = H/\MemOk K S/\EvR K S στ σ/\RA S a av/\FinL XE K S (k a στ S.M) Q
theorem LNL.bind {A AV B BV:Type} {RA:Sit->A->AV->Prop} {RB:Sit->B->BV->Prop} [Mo K RA] {f:A->Ev->Mem->Out B} {k:A->B->Ev->Mem->Out (List T)} {av:AV} 
 (h:LNL XE K RA (fun a σ M=>(f a σ M).bind fun b M1=>k a b σ M1) av σ H Q):LN XE RB K RA f av σ H (fun bv H1=>LNL XE K (PrR RA RB) (fun ab=>k ab.1 ab.2) (av,bv) σ H1 Q):=by
 obtain ⟨S,στ,a,e,m,ev,ra,fin⟩:=h
 refine ⟨S,στ,a,e,m,ev,ra,?_⟩
 replace fin:FinL XE K S ((f a στ S.M).bind fun b M1=>k a b στ M1) Q:=fin
 cases q:f a στ S.M with
 | bad=>rw [q] at fin;exact fin
 | exn C fs M'=>rw [q] at fin;exact fin
 | ok b M1=>
  rw [q] at fin
  intro S1 c e1 s1 r1
  refine ⟨S1,στ,(a,b),rfl,s1.mok,Mo.mo m s1 ev,⟨Mo.mo m s1 ra,r1⟩,?_⟩
  rw [e1]
  exact fin.later s1
def L0L {A AV:Type} (XE:XK) (K:Frag) (RA:Sit->A->AV->Prop) (k:A->Mem->Out (List T)) (av:AV) (H:Hp) (Q:VK):Prop:=∃ (S:Sit) (a:A),S.H = H/\MemOk K S/\RA S a av/\FinL XE K S (k a S.M) Q
noncomputable def zjP (XE:XK) (K:Frag) (o:T->T->Mem->Out (List T)):R2:=fun x y H Q=>L0L XE K (PrR (Rep K) (Rep K)) (fun a M=>o a.1 a.2 M) (x,y) H Q
noncomputable def lOp (o:T->T->Mem->Out (List T)) (f g:Ev->Mem->Out T):Ev->Mem->Out (List T):=fun σ M=>(f σ M).bind fun x M1=>(g σ M1).bind fun y M2=>o x y M2
noncomputable def zsl (F:List T->Mem->Out (List T)) (g:Ev->Mem->Out (List T)):Ev->Mem->Out (List T):=fun σ M=>(g σ M).bind fun ts M1=>F ts M1
theorem zhN {S:Sit} (m:MemOk K S) (fin:FinL XE K S (.ok xs S.M) Q) (r:Reps K S xs vs):∀ p,S.H p = none->Q (.ref p) (upd S.H p (.lst vs)):=fun p hp=>
 fin (S.hide p vs) p vs rfl (Stp.hide m hp vs) hp (.head _) yF (r.grow m (Stp.hide m hp vs).toGrow)
section
variable {a b:Expr} {p:Pos}
end
noncomputable def zaS (k:Int->Int->Mem->Out T) (x y:T) (M:Mem):Out T:=match x,y with
 | .int i,.int j=>k i j M
 | _,_=>.bad
def Mo64 (i j:Int):Prop:=(i.natAbs < 10 ^ 3000/\j.natAbs < 10 ^ 3000)\/(-(2 ^ 64) < i/\i < 2 ^ 64)\/(-(2 ^ 64) < j/\j < 2 ^ 64)
instance (i j:Int):Decidable (Mo64 i j):=inferInstanceAs (Decidable (_\/_))
variable {i j:Int}
theorem Mo64.ok (h:Mo64 i j):CMulB i j:=by
 rcases h with h | h
 ·exact .inl ⟨3000,3000,h.1,h.2,Q3 _,Q3 _⟩
 ·exact .inr h
noncomputable def zdv:T->T->Mem->Out T:=zaS fun i j M=>.ok (.int (i + j)) M
noncomputable def zee:T->T->Mem->Out T:=zaS fun i j M=>.ok (.int (i - j)) M
noncomputable def zex:T->T->Mem->Out T:=zaS fun i j M=>if j ≠ 0/\j.natAbs < 10 ^ 2000 then .ok (.int (i.fdiv j)) M else .bad
noncomputable def zbR:T->T->Mem->Out T:=zaS fun i j M=>if j ≠ 0 then .ok (.int (i.fmod j)) M else .bad
noncomputable def zjH:T->T->Mem->Out T:=zaS fun i j M=>if 0<=j/\j<=1000000/\i.natAbs < 2 ^ 64 then .ok (.int (i ^ j.toNat)) M else .bad
noncomputable def ltI:T->T->Mem->Out T:=zaS fun i j M=>.ok (.bl (decide (i < j))) M
noncomputable def leI:T->T->Mem->Out T:=zaS fun i j M=>.ok (.bl (decide (i<=j))) M
noncomputable def gtI:T->T->Mem->Out T:=zaS fun i j M=>.ok (.bl (decide (j < i))) M
noncomputable def geI:T->T->Mem->Out T:=zaS fun i j M=>.ok (.bl (decide (j<=i))) M
noncomputable def zhO:T->Mem->Out T:=fun x M=>match x with
 | .int i=>.ok (.int (-i)) M
 | _=>.bad
variable {y:V} {F:Value}
section
theorem ziW {S:Sit} (r:Rep K S (.int i) v):v = .int i:=by cases r;rfl
theorem zca {fn:Value->Value->Sem Value} {r:R2} {k:Int->Int->Mem->Out T} (ho:OpR X fn r)
  (h:∀ i j S Q,MemOk X.K S->Fin XE (Rep X.K) X.K S (k i j S.M) Q->r (.int i) (.int j) S.H Q):OpR X fn (lR2 XE X.K (zaS k)):=by
 intro pins s σ H x y v u Q I rx ry ⟨S,⟨tx,ty⟩,e,m,⟨r1,r2⟩,fin⟩
 replace fin:Fin XE (Rep X.K) X.K S (zaS k tx ty S.M) Q:=fin
 unfold zaS at fin
 split at fin
 ·have e1:=ziW r1
  have e2:=ziW r2
  dsimp only at e1 e2
  subst e1;subst e2;subst e
  exact ho pins s σ S.H _ _ v u Q I rx ry (h _ _ S Q m fin)
 ·exact fin.elim
theorem zcM:OpR X (binaryOp .Sub) (lR2 XE X.K zee):=zca zoW fun i j S Q m fin=>⟨i,j,rfl,rfl,fin S _ rfl (.refl m) (.int _)⟩
theorem zgc:OpR X (binaryOp .FloorDiv) (lR2 XE X.K zex):=zca zlF fun i j S Q m fin=>by
 by_cases h:j ≠ 0/\j.natAbs < 10 ^ 2000
 ·rw [if_pos h] at fin
  exact ⟨i,j,rfl,rfl,⟨h.1,2000,h.2,Q3 _⟩,fin S _ rfl (.refl m) (.int _)⟩
 ·rw [if_neg h] at fin;exact fin.elim
theorem zaF:OpR X (binaryOp .Mod) (lR2 XE X.K zbR):=zca zni fun i j S Q m fin=>by
 by_cases h:j ≠ 0
 ·rw [if_pos h] at fin
  exact ⟨i,j,rfl,rfl,h,fin S _ rfl (.refl m) (.int _)⟩
 ·rw [if_neg h] at fin;exact fin.elim
theorem ziZ:OpR X (binaryOp .Pow) (lR2 XE X.K zjH):=zca zoX fun i j S Q m fin=>by
 by_cases h:0<=j/\j<=1000000/\i.natAbs < 2 ^ 64
 ·rw [if_pos h] at fin
  exact ⟨i,j,rfl,rfl,h,fin S _ rfl (.refl m) (.int _)⟩
 ·rw [if_neg h] at fin;exact fin.elim
theorem zcY:OpR X (compareOp .Lt) (lR2 XE X.K ltI):=zca zqE fun i j S Q m fin=>⟨i,j,rfl,rfl,fin S _ rfl (.refl m) (.bl _)⟩
theorem zku:OpR X (compareOp .LtE) (lR2 XE X.K leI):=zca zqF fun i j S Q m fin=>⟨i,j,rfl,rfl,fin S _ rfl (.refl m) (.bl _)⟩
theorem zdB:OpR X (compareOp .Gt) (lR2 XE X.K gtI):=zca zqG fun i j S Q m fin=>⟨i,j,rfl,rfl,fin S _ rfl (.refl m) (.bl _)⟩
theorem zmD:L2.UnR X (unaryOp .USub) (lR1 XE X.K zhO):=by
 intro pins s σ H x v Q I rx ⟨S,t,e,m,r,fin⟩
 replace fin:Fin XE (Rep X.K) X.K S (zhO t S.M) Q:=fin
 unfold zhO at fin
 split at fin
 ·cases r
  subst e
  exact zoh pins s σ S.H _ v Q I rx ⟨_,rfl,fin S _ rfl (.refl m) (.int _)⟩
 ·exact fin.elim
noncomputable def isB:T->T->Mem->Out T:=fun x y M=>match x,y with
 | .bl a,.bl b=>.ok (.bl (a == b)) M
 | _,_=>.bad
noncomputable def zqL:T->T->Mem->Out T:=fun x y M=>match x,y with
 | .bl a,.bl b=>.ok (.bl (a != b)) M
 | _,_=>.bad
noncomputable def zlH:T->Bool
 | .non=>true
 | _=>false
noncomputable def isN:T->T->Mem->Out T:=fun x y M=>match y with
 | .non=>.ok (.bl (zlH x)) M
 | _=>.bad
noncomputable def y8:T->T->Mem->Out T:=fun x y M=>match y with
 | .non=>.ok (.bl (!zlH x)) M
 | _=>.bad
theorem zhL {S:Sit} (r:Rep K S t v):decide (v = .non) = zlH t:=by
 cases r <;> first | rfl | exact Qw (by intro z;cases z)
theorem zgb:OpR X (compareOp .Is) (lR2 XE X.K isN):=by
 intro pins s σ H x y v u Q I rx ry ⟨S,⟨tx,ty⟩,e,m,⟨r1,r2⟩,fin⟩
 replace fin:Fin XE (Rep X.K) X.K S (isN tx ty S.M) Q:=fin
 unfold isN at fin
 split at fin
 ·cases r2;subst e
  exact zoY pins s σ S.H _ _ v u Q I rx ry ⟨rfl,by rw [zhL r1];exact fin S _ rfl (.refl m) (.bl _)⟩
 ·exact fin.elim
theorem zcp:OpR X (compareOp .IsNot) (lR2 XE X.K y8):=by
 intro pins s σ H x y v u Q I rx ry ⟨S,⟨tx,ty⟩,e,m,⟨r1,r2⟩,fin⟩
 replace fin:Fin XE (Rep X.K) X.K S (y8 tx ty S.M) Q:=fin
 unfold y8 at fin
 split at fin
 ·cases r2;subst e
  exact zne pins s σ S.H _ _ v u Q I rx ry ⟨rfl,by rw [zhL r1];exact fin S _ rfl (.refl m) (.bl _)⟩
 ·exact fin.elim
noncomputable def zh2 (M:Mem):T->T->Option T
 | .tup xs,.int i=>atI xs i
 | .lst xs,.int i=>atI xs i
 | .ref a,.int i=>match M[a]? with
  | some (.lst xs)=>atI xs i
  | _=>none
 | _,_=>none
noncomputable def zff (o:Option T) (M:Mem):Out T:=match o with
 | some t=>.ok t M
 | none=>.bad
noncomputable def ixT:T->T->Mem->Out T:=fun x y M=>zff (zh2 M x y) M
theorem Reps.atI {S:Sit} (r:Reps K S ts vs) (e:L2.atI ts i = some t):∃ v,L2.atI vs i = some v/\Rep K S t v:=by
 unfold L2.atI at e ⊢
 rw [← r.1]
 cases q:ixN ts.length i with
 | none=>rw [q] at e;cases e
 | some j=>
  rw [q] at e
  obtain ⟨v,e2,r2⟩:=r.get (show ts[j]? = some t from e)
  exact ⟨v,e2,r2⟩
theorem znW {S:Sit} {tx ty:T} {x:V} (m:MemOk K S) (r1:Rep K S tx x) (r2:Rep K S ty y) (e:zh2 S.M tx ty = some t) :
  ∃ p vs i v,x = .ref p/\y = .int i/\(SqL K S.H p vs\/SqT K S.H p vs)/\L2.atI vs i = some v/\Rep K S t v:=by
 unfold zh2 at e
 split at e
 ·cases r2
  cases r1 with
  | @tup _ p vs h l r=>
   obtain ⟨v,e2,r3⟩:=Reps.atI ⟨l,r⟩ e
   exact ⟨p,vs,_,v,rfl,rfl,.inr h,e2,r3⟩
 ·cases r2
  cases r1 with
  | @lst _ p vs h l r=>
   obtain ⟨v,e2,r3⟩:=Reps.atI ⟨l,r⟩ e
   exact ⟨p,vs,_,v,rfl,rfl,.inl (zdC h),e2,r3⟩
 ·split at e
  ·rename_i q
   cases r2
   cases r1 with
   | ref h=>
    obtain ⟨vs,q2,r⟩:=m.cell _ _ q
    obtain ⟨v,e2,r3⟩:=Reps.atI r e
    exact ⟨_,vs,_,v,rfl,rfl,.inl (.inl (.inl q2)),e2,r3⟩
  ·cases e
 ·cases e
theorem zga {S:Sit} {o:Option T} (fin:Fin XE (Rep K) K S (zff o S.M) Q):∃ t,o = some t/\Fin XE (Rep K) K S (.ok t S.M) Q:=by
 unfold zff at fin
 split at fin
 ·exact ⟨_,rfl,fin⟩
 ·exact fin.elim
theorem zf:IxR X (lR2 XE X.K ixT):=by
 intro va sl pins s σ H x y v u Q I rx ry ⟨S,⟨tx,ty⟩,e,m,⟨r1,r2⟩,fin⟩ hs
 obtain ⟨t,et,fin⟩:=zga (show Fin XE (Rep X.K) X.K S (zff (zh2 S.M tx ty) S.M) Q from fin)
 obtain ⟨p,vs,i,w,e1,e2,hq,ea,r3⟩:=znW m r1 r2 et
 dsimp only at e1 e2
 subst e1;subst e2;subst e
 refine zpo va sl pins s σ S.H _ _ v u Q I rx ry ?_ hs
 rcases hq with hq | hq
 ·exact .inl ⟨p,vs,i,w,rfl,rfl,hq,ea,fin S w rfl (.refl m) r3⟩
 ·exact .inr (.inl ⟨p,vs,i,w,rfl,rfl,hq,ea,fin S w rfl (.refl m) r3⟩)
noncomputable def yz (k:T->Mem->Out T) (ts:List T) (M:Mem):Out T:=match ts with
 | [t]=>k t M
 | _=>.bad
noncomputable def call2 (k:T->T->Mem->Out T) (ts:List T) (M:Mem):Out T:=match ts with
 | [t,u]=>k t u M
 | _=>.bad
theorem zfn {k:T->Mem->Out T} (h:∀ (pins:List (Addr × Obj)) (s:Shared) (σ:L2.St) (S:Sit) (t:T) (x:V) (v:Value) (Q:VK),Inv X pins σ S.H s->RelV x v->MemOk X.K S->Rep X.K S t x->Fin XE (Rep X.K) X.K S (k t S.M) Q->wpAny (model X.prog X.w) X.A (call F [v]) (EP X pins σ Q) X.xe s):CallR X F (lRN XE X.K (yz k)):=by
 intro pins s σ H xs us Q I r ⟨S,ts,e,m,rs,fin⟩
 subst e
 replace fin:Fin XE (Rep X.K) X.K S (yz k ts S.M) Q:=fin
 unfold yz at fin
 split at fin
 ·obtain ⟨v,vs,rfl,r1,r2⟩:=rs.consT
  rw [r2.nilT] at r
  obtain ⟨u,rfl,rx⟩:=vals1 r
  exact h pins s σ S _ v u Q I rx m r1 fin
 ·exact fin.elim
theorem zfm {k:T->T->Mem->Out T} (h:∀ (pins:List (Addr × Obj)) (s:Shared) (σ:L2.St) (S:Sit) (t1 t2:T) (x1 x2:V) (v1 v2:Value) (Q:VK),Inv X pins σ S.H s->RelV x1 v1->RelV x2 v2->MemOk X.K S->Rep X.K S t1 x1->Rep X.K S t2 x2->Fin XE (Rep X.K) X.K S (k t1 t2 S.M) Q->wpAny (model X.prog X.w) X.A (call F [v1,v2]) (EP X pins σ Q) X.xe s):CallR X F (lRN XE X.K (call2 k)):=by
 intro pins s σ H xs us Q I r ⟨S,ts,e,m,rs,fin⟩
 subst e
 replace fin:Fin XE (Rep X.K) X.K S (call2 k ts S.M) Q:=fin
 unfold call2 at fin
 split at fin
 ·obtain ⟨v,vs,rfl,r1,r2⟩:=rs.consT
  obtain ⟨v2,vs2,rfl,r3,r4⟩:=r2.consT
  rw [r4.nilT] at r
  obtain ⟨u,w,rfl,rx,ry⟩:=vals2 r
  exact h pins s σ S _ _ v v2 u w Q I rx ry m r1 r3 fin
 ·exact fin.elim
noncomputable def yx:T->Mem->Out T:=fun t M=>match t with
 | .str z=>if z.length<=sizeLine then .ok (.int z.length) M else .bad
 | t=>match yS t M with
  | some xs=>.ok (.int xs.length) M
  | none=>.bad
theorem zr:CallR X (.builtin "len") (lRN XE X.K (yz yx)):=zfn fun pins s σ S t x v Q I rx m r fin=>by
 unfold yx at fin
 split at fin
 ·cases r
  split at fin
  ·rename_i hz
   exact zio pins s σ S.H _ _ Q I (.cons rx .nil) ⟨_,rfl,hz,fin S _ rfl (.refl m) (.int _)⟩
  ·exact fin.elim
 ·split at fin
  ·rename_i xs q
   obtain ⟨p,vs,rfl,hq,rs⟩:=zcn m r q
   exact ziq pins s σ S.H _ _ Q I (.cons rx .nil) ⟨p,vs,rfl,hq,by rw [← rs.1];exact fin S _ rfl (.refl m) (.int _)⟩
  ·exact fin.elim
noncomputable def zhS:T->T->Mem->Out T:=zaS fun i j M=>.ok (.int (if j > i then j else i)) M
noncomputable def zgh:T->T->Mem->Out T:=zaS fun i j M=>.ok (.int (if j < i then j else i)) M
theorem zgQ (hc:X.calm = true):CallR X (.builtin "max") (lRN XE X.K (call2 zhS)):=zfm fun pins s σ S t1 t2 x1 x2 v1 v2 Q I rx ry m r1 r2 fin=>by
 unfold zhS zaS at fin
 split at fin
 ·cases r1;cases r2
  exact zlb hc pins s σ S.H _ _ Q I (.cons rx (.cons ry .nil)) ⟨_,_,rfl,fin S _ rfl (.refl m) (.int _)⟩
 ·exact fin.elim
theorem zeB (hc:X.calm = true):CallR X (.builtin "min") (lRN XE X.K (call2 zgh)):=zfm fun pins s σ S t1 t2 x1 x2 v1 v2 Q I rx ry m r1 r2 fin=>by
 unfold zgh zaS at fin
 split at fin
 ·cases r1;cases r2
  exact zla hc pins s σ S.H _ _ Q I (.cons rx (.cons ry .nil)) ⟨_,_,rfl,fin S _ rfl (.refl m) (.int _)⟩
 ·exact fin.elim
noncomputable def z4:T->Mem->Out T:=fun t M=>match yS t M with
 | some xs=>.ok (.tup xs) M
 | none=>.bad
theorem zbq:CallR X (.type "tuple") (lRN XE X.K (yz z4)):=zfn fun pins s σ S t x v Q I rx m r fin=>by
 unfold z4 at fin
 split at fin
 ·rename_i xs q
  obtain ⟨p,vs,rfl,hq,rs⟩:=zcn m r q
  refine zg2 pins s σ S.H _ _ Q I (.cons rx .nil) ⟨p,vs,rfl,?_⟩
  rcases hq with hq | hq
  ·refine .inl ⟨hq,fun l hl=>?_⟩
   have s2:=Stp.new m hl (.tup vs)
   exact fin ⟨S.α,S.M,upd S.H l (.tup vs),S.hid⟩ (.ref l) rfl s2 (.tup (.inl (.inl yF)) rs.1 (rs.grow m s2.toGrow).2)
  ·exact .inr ⟨hq,fin S _ rfl (.refl m) (.tup hq rs.1 rs.2)⟩
 ·exact fin.elim
noncomputable def zez:T->T->Mem->Out (List T):=fun x y M=>match zq x M,zq y M with
 | some xs,some ys=>if xs.length + ys.length<=sizeLine then .ok (xs ++ ys) M else .bad
 | _,_=>.bad
theorem zi2:OpR X (binaryOp .Add) (zjP XE X.K zez):=by
 intro pins s σ H x y v u Q I rx ry ⟨S,⟨tx,ty⟩,e,m,⟨r1,r2⟩,fin⟩
 subst e
 replace fin:FinL XE X.K S (zez tx ty S.M) Q:=fin
 unfold zez at fin
 split at fin
 ·rename_i xs ys q1 q2
  split at fin
  ·rename_i hz
   obtain ⟨p,vs,e1,h1,s1⟩:=zC m r1 q1
   obtain ⟨p2,vs2,e2,h2,s2⟩:=zC m r2 q2
   dsimp only at e1 e2
   subst e1;subst e2
   exact zi1 pins s σ S.H _ _ v u Q I rx ry ⟨p,p2,vs,vs2,rfl,rfl,h1,h2,by rw [← s1.1,← s2.1];exact hz,zhN m fin (s1.app s2)⟩
  ·exact fin.elim
 ·exact fin.elim
noncomputable def zN (x:T) (ts:List T) (M:Mem):Out T:=match x,ts with
 | .ref a,[t]=>match M[a]? with
  | some (.lst xs)=>if xs.length < sizeLine then .ok .non (M.set a (.lst (xs ++ [t]))) else .bad
  | _=>.bad
 | _,_=>.bad
noncomputable def zaL (o i t:T) (M:Mem):Out Unit:=match o,i with
 | .ref a,.int k=>match M[a]? with
  | some (.lst xs)=>match ixN xs.length k with
   | some j=>.ok () (M.set a (.lst (xs.set j t)))
   | none=>.bad
  | _=>.bad
 | _,_=>.bad
theorem zdA {S:Sit} (m:MemOk K S) {a:Nat} {c:Cell} (e:S.M[a]? = some c) (r:Reps K S ts vs):Stp K S (S.put a (.lst vs) (.lst ts)):=by
 have ha:a < S.M.length:=(List.getElem?_eq_some_iff.mp e).1
 exact Stp.put m ha _ _ ⟨vs,yF,r.grow m (Grow.put m ha _ _)⟩
theorem zc7:zd9 X (zgk XE X.K zaL):=by
 intro pins s σ H o i v ov iv u Q I ro ri rv ⟨S,⟨⟨to,ti⟩,tv⟩,e,m,⟨⟨r1,r2⟩,r3⟩,fin⟩
 subst e
 replace fin:Fin XE UnR X.K S (zaL to ti tv S.M) (fun _ H'=>Q H'):=fin
 unfold zaL at fin
 split at fin
 ·split at fin
  ·rename_i a k _ xs q
   split at fin
   ·rename_i j qj
    cases r1
    cases r2
    obtain ⟨vs,q2,rs⟩:=m.cell _ _ q
    refine set_list pins s σ S.H _ _ v ov iv u Q I ro ri rv ⟨S.α a,vs,k,j,rfl,rfl,q2,by rw [← rs.1];exact qj,?_⟩
    exact fin (S.put a (.lst (vs.set j v)) (.lst (xs.set j tv))) () rfl (zdA m q (rs.set r3 j)) trivial
   ·exact fin.elim
  ·exact fin.elim
 ·exact fin.elim
noncomputable def yD (x:T) (M:Mem):Out T:=match zq x M with
 | some _=>.ok x M
 | none=>.bad
noncomputable def qT (F:T->List T->Mem->Out T) (f:Ev->Mem->Out T) (g:Ev->Mem->Out (List T)):Ev->Mem->Out T:=fun σ M=>(f σ M).bind fun x M1=>(g σ M1).bind fun ts M2=>F x ts M2
end
noncomputable def zcg (xs:List T) (lo hi:Option Int):List T:=(xs.drop (HT.sIx xs.length 0 lo)).take (HT.sIx xs.length xs.length hi - HT.sIx xs.length 0 lo)
theorem Reps.cutV {S:Sit} (r:Reps K S ts vs) (lo hi:Option Int):Reps K S (zcg ts lo hi) (L2.cutV vs lo hi):=by
 unfold zcg L2.cutV
 rw [← r.1]
 exact r.sub _ _
theorem zj1 {lo hi:Option Int} (h:HT.sIx xs.length 0 lo = 0/\HT.sIx xs.length xs.length hi = xs.length):zcg xs lo hi = xs:=by
 unfold zcg
 rw [h.1,h.2]
 simp
theorem zgd {S:Sit} (m:MemOk K S) (fin:Fin XE (Rep K) K S (.ok (.tup xs) S.M) Q) (r:Reps K S xs vs):∀ p,S.H p = none->Q (.ref p) (upd S.H p (.tup vs)):=fun p hp=>by
 have s2:=Stp.new m hp (.tup vs)
 exact fin ⟨S.α,S.M,upd S.H p (.tup vs),S.hid⟩ (.ref p) rfl s2 (.tup (.inl (.inl yF)) r.1 (r.grow m s2.toGrow).2)
theorem zge {S:Sit} (m:MemOk K S) (fin:Fin XE (Rep K) K S (.ok (.lst xs) S.M) Q) (r:Reps K S xs vs):∀ p,S.H p = none->Q (.ref p) (upd S.H p (.lst vs)):=fun p hp=>by
 have s2:=Stp.new m hp (.lst vs)
 exact fin ⟨S.α,S.M,upd S.H p (.lst vs),S.hid⟩ (.ref p) rfl s2 (.lst (.inl ⟨.inl yF,m.off_none hp⟩) r.1 (r.grow m s2.toGrow).2)
noncomputable def yN:T->T->Mem->Out T:=fun x y M=>match x,y with
 | .int i,.int j=>.ok (.int (i + j)) M
 | .str a,.str b=>if a.length + b.length<=sizeLine then .ok (.str (a ++ b)) M else .bad
 | .tup xs,.tup ys=>if xs.length + ys.length<=sizeLine then .ok (.tup (xs ++ ys)) M else .bad
 | x,y=>match zq x M,zq y M with
  | some xs,some ys=>if xs.length + ys.length<=sizeLine then .ok (.lst (xs ++ ys)) M else .bad
  | _,_=>.bad
noncomputable def z6:T->T->Mem->Out T:=fun x y M=>match x,y with
 | .int i,.int j=>if Mo64 i j then .ok (.int (i * j)) M else .bad
 | .tup xs,.int k=>if xs ≠ []/\2<=k/\k < 2 ^ 63/\xs.length * k.toNat<=sizeLine then .ok (.tup (List.replicate k.toNat xs).flatten) M else .bad
 | _,_=>.bad
variable {pins:List (Addr × Obj)} {s:Shared}
section
theorem zG:OpR X (binaryOp .Add) (lR2 XE X.K yN):=by
 intro pins s σ H x y v u Q I rx ry ⟨S,⟨tx,ty⟩,e,m,⟨r1,r2⟩,fin⟩
 subst e
 replace fin:Fin XE (Rep X.K) X.K S (yN tx ty S.M) Q:=fin
 unfold yN at fin
 split at fin
 ·cases r1;cases r2
  exact zo2 pins s σ S.H _ _ v u Q I rx ry ⟨_,_,rfl,rfl,fin S _ rfl (.refl m) (.int _)⟩
 ·cases r1;cases r2
  split at fin
  ·rename_i hz
   exact zjK pins s σ S.H _ _ v u Q I rx ry ⟨_,_,rfl,rfl,hz,fin S _ rfl (.refl m) (.str _)⟩
  ·exact fin.elim
 ·split at fin
  ·rename_i hz
   cases r1 with
   | @tup _ p vs h l r=>
   cases r2 with
   | @tup _ p2 vs2 h2 l2 rr2=>
   have r1:Reps X.K S _ vs:=⟨l,r⟩
   have r2:Reps X.K S _ vs2:=⟨l2,rr2⟩
   refine znk pins s σ S.H _ _ v u Q I rx ry ⟨p,p2,vs,vs2,rfl,rfl,h,h2,by rw [← l,← l2];exact hz,fun e=>?_,fun e1 e2=>?_,fun e1 e2=>zgd m fin (r1.app r2)⟩
   ·subst e
    rw [r1.nil_inv,nil_append] at fin
    exact fin S _ rfl (.refl m) (.tup h2 l2 rr2)
   ·subst e2
    rw [r2.nil_inv,append_nil] at fin
    exact fin S _ rfl (.refl m) (.tup h l r)
  ·exact fin.elim
 ·split at fin
  ·rename_i xs ys q1 q2
   split at fin
   ·rename_i hz
    obtain ⟨p,vs,e1,h1,s1⟩:=zC m r1 q1
    obtain ⟨p2,vs2,e2,h2,s2⟩:=zC m r2 q2
    dsimp only at e1 e2
    subst e1;subst e2
    exact zi1 pins s σ S.H _ _ v u Q I rx ry ⟨p,p2,vs,vs2,rfl,rfl,h1,h2,by rw [← s1.1,← s2.1];exact hz,zge m fin (s1.app s2)⟩
   ·exact fin.elim
  ·exact fin.elim
theorem Reps.rep {S:Sit} (r:Reps K S ts vs) (n:Nat):Reps K S (List.replicate n ts).flatten (List.replicate n vs).flatten:=by
 induction n with
 | zero=>exact .nil
 | succ n ih=>rw [replicate_succ,replicate_succ,flatten_cons,flatten_cons];exact r.app ih
theorem zbb:OpR X (binaryOp .Mult) (lR2 XE X.K z6):=by
 intro pins s σ H x y v u Q I rx ry ⟨S,⟨tx,ty⟩,e,m,⟨r1,r2⟩,fin⟩
 subst e
 replace fin:Fin XE (Rep X.K) X.K S (z6 tx ty S.M) Q:=fin
 unfold z6 at fin
 split at fin
 ·cases r1;cases r2
  split at fin
  ·rename_i h
   exact znh pins s σ S.H _ _ v u Q I rx ry ⟨_,_,rfl,rfl,h.ok,fin S _ rfl (.refl m) (.int _)⟩
  ·exact fin.elim
 ·split at fin
  ·rename_i h
   cases r2
   cases r1 with
   | @tup _ p vs hq l r=>
   have r1:Reps X.K S _ vs:=⟨l,r⟩
   exact znb pins s σ S.H _ _ v u Q I rx ry ⟨p,_,vs,rfl,rfl,hq,fun z=>h.1 (by subst z;exact r1.nil_inv),h.2.1,h.2.2.1,by rw [← l];exact h.2.2.2,zgd m fin (r1.rep _)⟩
  ·exact fin.elim
 ·exact fin.elim
noncomputable def lO (XE:XK) (K:Frag) (f:Ev->Mem->Out (Option Int)):TO:=fun σ H Q=>LN XE EqR K UnR (fun _ σ M=>f σ M) () σ H Q
def GO (X:Cx) (XE:XK) (e:Option Expr) (f:Ev->Mem->Out (Option Int)):Prop:=PO X e (lO XE X.K f)
noncomputable def zc9:Ev->Mem->Out (Option Int):=fun _ M=>.ok none M
noncomputable def zlT (x:T) (M:Mem):Out (Option Int):=match x with
 | .int i=>.ok (some i) M
 | _=>.bad
noncomputable def zcH (f:Ev->Mem->Out T):Ev->Mem->Out (Option Int):=fun σ M=>(f σ M).bind zlT
theorem PO.imp {e:Option Expr} {t t':TO} (h:PO X e t) (i:∀ σ H Q,t' σ H Q->t σ H Q):PO X e t':=fun pins s σ H Q I q=>h pins s σ H Q I (i σ H Q q)
noncomputable def zfk (x:T) (lo hi:Option Int) (M:Mem):Out T:=match x with
 | .tup xs=>.ok (.tup (zcg xs lo hi)) M
 | x=>match zq x M with
  | some xs=>.ok (.lst (zcg xs lo hi)) M
  | none=>.bad
noncomputable def eSl (f:Ev->Mem->Out T) (p q:Ev->Mem->Out (Option Int)):Ev->Mem->Out T:=fun σ M=>(f σ M).bind fun x M1=>(p σ M1).bind fun lo M2=>(q σ M2).bind fun hi M3=>zfk x lo hi M3
noncomputable def zrD (XE:XK) (K:Frag):V->Option Int->Option Int->Hp->VK->Prop:=fun x lo hi H Q=>∃ S t,S.H = H/\MemOk K S/\Rep K S t x/\Fin XE (Rep K) K S (zfk t lo hi S.M) Q
theorem zop:SlR X (zrD XE X.K):=by
 intro pins s σ H x v vl vu lo hi sl Q I rx hs pl pu ⟨S,t,e,m,r,fin⟩
 subst e
 unfold zfk at fin
 split at fin
 ·cases r with
  | @tup _ p vs h l r=>
  have r1:Reps X.K S _ vs:=⟨l,r⟩
  refine zmJ pins s σ S.H _ v vl vu lo hi sl Q I rx hs pl pu ⟨p,vs,rfl,h,fun w=>?_,fun w=>zgd m fin (r1.cutV lo hi)⟩
  rw [zj1 (by rw [l];exact w)] at fin
  exact fin S _ rfl (.refl m) (.tup h l r)
 ·split at fin
  ·rename_i xs q
   obtain ⟨p,vs,e1,h1,s1⟩:=zC m r q
   subst e1
   exact zmK pins s σ S.H _ v vl vu lo hi sl Q I rx hs pl pu ⟨p,vs,rfl,h1,zge m fin (s1.cutV lo hi)⟩
  ·exact fin.elim
noncomputable def zpi (T U:String):Option Bool:=if (Value.type T == Value.type U) = true then some true else if PySem.W.kitMeta U = true then (PySem.fastBuiltinMro T).map (·.contains (.type U)) else none
noncomputable def tyN (t:T) (M:Mem):Option String:=match t with
 | .non=>some "NoneType" | .bl _=>some "bool" | .int _=>some "int" | .str _=>some "str" | .tup _=>some "tuple" | .lst _=>some "list"
 | .ref a=>match M[a]? with
  | some (.lst _)=>some "list"
  | some (.dic _)=>some "dict"
  | _=>none
 | _=>none
noncomputable def zmt (n U:String):Bool:=n == U || (n == "bool" && U == "int")
noncomputable def zg3:List String:=["NoneType","bool","int","str","tuple","list","dict"]
theorem zny:∀ n ∈ zg3,∀ U ∈ zg3,U ≠ "NoneType"->zpi n U = some (zmt n U):=by decide +kernel
noncomputable def zan:T->T->Mem->Out T:=fun t u M=>match u with
 | .ty U=>match tyN t M with
  | some n=>if U ∈ zg3/\U ≠ "NoneType" then .ok (.bl (zmt n U)) M else .bad
  | none=>.bad
 | _=>.bad
theorem zmE {n:String} (h:tyN t M = some n):n ∈ zg3:=by
 unfold tyN at h
 split at h <;> first | (cases h;decide) | (split at h <;> first | (cases h;decide) | (cases h)) | cases h
theorem zlS {S:Sit} {x:V} {u:Value} {U n:String} {b:Bool} {Q:Value->Shared->Prop} {E:Value->Shared->Prop} (I:L2.Inv X pins σ S.H s) (m:MemOk X.K S) (rx:RelV x u) (r:Rep X.K S t x) (hn:tyN t S.M = some n) (e:zpi n U = some b) (h:∀ tk,Q (.bool b) { s with toks:=tk }) :
  wpAny (model X.prog X.w) X.A (call (.builtin "isinstance") [u,.type U]) Q E s:=by
 have e':PySem.W.kitOne X.K (.type n) (.type U) = some b:=e
 cases r with
 | non=>cases hn;cases (show u = Value.none from rx);exact PySem.W.kia_one PySem.W.kitx_none I.kIn True.intro e' (fun z=>nomatch z) h
 | bl y=>cases hn;cases (show u = Value.bool y from rx);exact PySem.W.kia_one PySem.W.kitx_bool I.kIn True.intro e' (fun z=>nomatch z) h
 | int i=>cases hn;obtain ⟨t,q⟩:=(show ∃ t,u = Value.int i t from rx);cases q;exact PySem.W.kia_one PySem.W.kitx_int I.kIn True.intro e' (fun z=>nomatch z) h
 | str y=>cases hn;obtain ⟨t,q⟩:=(show ∃ t,u = Value.str y t from rx);cases q;exact PySem.W.kia_one PySem.W.kitx_str I.kIn True.intro e' (fun z=>nomatch z) h
 | ty y=>cases hn
 | @tup ts p vs hq l r=>
  cases hn
  cases (show u = Value.ref p from rx)
  obtain ⟨its,_,pl,_⟩:=I.tuple hq
  obtain ⟨o,h1,h2,_⟩:=pl
  exact PySem.W.kia_one PySem.W.kitx_tuple I.kIn ⟨o,h1,h2⟩ e' (fun z=>nomatch z) h
 | @lst ts p vs hq l r=>
  cases hn
  cases (show u = Value.ref p from rx)
  obtain ⟨its,_,pl,_⟩:=I.list (zdC hq)
  obtain ⟨o,h1,h2⟩:=pl.isList
  exact PySem.W.kia_one PySem.W.kitx_list I.kIn ⟨o,h1,h2.1⟩ e' (fun z=>nomatch z) h
 | @ref a ha=>
  cases (show u = Value.ref _ from rx)
  unfold tyN at hn
  dsimp only at hn
  split at hn
  ·rename_i ts q
   cases hn
   obtain ⟨vs,q2,_⟩:=m.cell a _ q
   obtain ⟨_,_,n,_,h1⟩:=(show ObjOk X.prog X.w S.H s.heap (S.α a) (.lst vs) from I.hok _ _ q2)
   exact PySem.W.kia_one PySem.W.kitx_list I.kIn ⟨_,h1,rfl⟩ e' (fun z=>nomatch z) h
  ·rename_i ts q
   cases hn
   obtain ⟨vs,q2,_⟩:=m.cell a _ q
   obtain ⟨_,_,vs2,_,p⟩:=(show ObjOk X.prog X.w S.H s.heap (S.α a) (.dK vs) from I.hok _ _ q2)
   obtain ⟨o,es,ep,h1,h2,_⟩:=p
   exact PySem.W.kia_one PySem.W.kitx_dict I.kIn ⟨o,h1,h2.1⟩ e' (fun z=>nomatch z) h
  ·cases hn
 | dct h l r=>cases hn
 | exc h hd l r=>cases hn
theorem zbW:CallR X (.builtin "isinstance") (lRN XE X.K (call2 zan)):=zfm fun pins s σ S t1 t2 x1 x2 v1 v2 Q I rx ry m r1 r2 fin=>by
 unfold zan at fin
 split at fin
 ·rename_i U
  split at fin
  ·rename_i n hn
   split at fin
   ·rename_i hU
    cases r2
    cases ry
    exact zlS I m rx r1 hn (zny n (zmE hn) U hU.1 hU.2) fun tk=>⟨.bl _,S.H,I.tok tk,rfl,fin S _ rfl (.refl m) (.bl _)⟩
   ·exact fin.elim
  ·exact fin.elim
 ·exact fin.elim
end
noncomputable def zbi:T->Bool
 | .non=>true
 | .bl _=>true
 | .int _=>true
 | .str _=>true
 | _=>false
noncomputable def eqS:T->T->Bool
 | .non,.non=>true
 | .bl a,.bl b=>a == b
 | .bl a,.int b=>(if a then 1 else 0) == b
 | .int a,.bl b=>a == (if b then 1 else 0)
 | .int a,.int b=>a == b
 | .str a,.str b=>a == b
 | _,_=>false
noncomputable def eqL (f:T->T->Option Bool):List T->List T->Option Bool
 | [],[]=>some true
 | [],_ :: _=>some false
 | _ :: _,[]=>some false
 | x :: xs,y :: ys=>match f x y,eqL f xs ys with
  | some a,some b=>some (a && b)
  | _,_=>none
noncomputable def eqD (M:Mem):Nat->T->T->Option Bool
 | d,.tup xs,.tup ys=>match d with
  | 0=>none
  | d + 1=>eqL (eqD M d) xs ys
 | d,x,y=>if (zbi x && zbi y) = true then some (eqS x y) else match d,zq x M,zq y M with
  | d + 1,some xs,some ys=>if xs.length = ys.length then eqL (eqD M d) xs ys else some false
  | _,_,_=>none
noncomputable def eqA:T->T->Mem->Out T:=fun x y M=>match eqD M 20 x y with
 | some b=>.ok (.bl b) M
 | none=>.bad
noncomputable def neA:T->T->Mem->Out T:=fun x y M=>match eqD M 20 x y with
 | some b=>.ok (.bl (!b)) M
 | none=>.bad
theorem zd4 {f:T->T->Option Bool}:∀ {xs ys:List T} {b:Bool},eqL f xs ys = some b->
  ∃ e:Nat->Bool,(∀ j x y,xs[j]? = some x->ys[j]? = some y->f x y = some (e j))/\b = ((List.range (min xs.length ys.length)).all e && xs.length == ys.length)
 | [],[],b,h=>by cases h;exact ⟨fun _=>true,fun j x y e1=>by simp at e1,by simp⟩
 | [],_ :: _,b,h=>by cases h;exact ⟨fun _=>true,fun j x y e1=>by simp at e1,by simp⟩
 | _ :: _,[],b,h=>by cases h;exact ⟨fun _=>true,fun j x y _ e1=>by simp at e1,by simp⟩
 | x :: xs,y :: ys,b,h=>by
  unfold eqL at h
  cases q1:f x y with
  | none=>rw [q1] at h;cases h
  | some a=>
   cases q2:eqL f xs ys with
   | none=>rw [q1,q2] at h;cases h
   | some c=>
    rw [q1,q2] at h
    cases h
    obtain ⟨e,h1,h2⟩:=zd4 q2
    refine ⟨fun j=>match j with | 0=>a | j + 1=>e j,fun j u v e1 e2=>?_,?_⟩
    ·cases j with
     | zero=>simp at e1 e2;subst e1;subst e2;exact q1
     | succ j=>exact h1 j u v (by simpa using e1) (by simpa using e2)
    ·rw [h2]
     have:min (x :: xs).length (y :: ys).length = min xs.length ys.length + 1:=by simp only [Qp];omega
     rw [this,List.range_succ_eq_map,all_cons,List.all_map]
     simp [Bool.and_assoc,Function.comp_def]
variable {A:Around}
section
variable {S:Sit}
theorem yO (r:Rep K S t v) (h:zbi t = true):zav v = true:=by
 cases r <;> first | rfl | (exact absurd (show false = true from h) Q4)
theorem zeO {w:V} (r:Rep K S t v) (q:Rep K S u w) (h:zbi t = true) (h2:zbi u = true):eqS t u = eqV v w:=by
 cases r <;> first | (exact absurd (show false = true from h) Q4) | (cases q <;> first | rfl | (exact absurd (show false = true from h2) Q4))
theorem ziT (r:Rep K S t v) (q:Rep K S u v) (h:zbi t = true) (h2:zbi u = true):eqS t u = true:=by
 rw [zeO r q h h2]
 exact zmc v (yO r h)
theorem zmd (I:L2.Inv X pins σ S.H s) (m:MemOk X.K S):∀ (d:Nat) {t u:T} {v:V} {b:Bool},Rep X.K S t v->Rep X.K S u v->eqD S.M d t u = some b->b = true:=by
 intro d
 induction d with
 | zero=>
  intro t u v b r q h
  unfold eqD at h
  split at h
  ·cases h
  ·split at h
   ·rename_i hs
    rw [Qs] at hs
    cases h
    exact ziT r q hs.1 hs.2
   ·cases h
 | succ d ih=>
  have key:∀ {xs ys:List T} {vs:List V} {b:Bool},Reps X.K S xs vs->Reps X.K S ys vs->eqL (eqD S.M d) xs ys = some b->b = true:=by
   intro xs ys vs b r q h
   obtain ⟨e,h1,h2⟩:=zd4 h
   rw [h2,r.1,q.1]
   simp only [Nat.min_self,beq_self_eq_true,Bool.and_true,all_eq_true,mem_range]
   intro j hj
   have hx:j < xs.length:=by rw [r.1];exact hj
   have hy:j < ys.length:=by rw [q.1];exact hj
   have ex:xs[j]? = some xs[j]:=by simp [hx]
   have ey:ys[j]? = some ys[j]:=by simp [hy]
   have ev:vs[j]? = some vs[j]:=by simp [hj]
   exact ih (r.2 j _ _ ex ev) (q.2 j _ _ ey ev) (h1 j _ _ ex ey)
  intro t u v b r q h
  unfold eqD at h
  split at h
  ·cases r with
   | @tup _ p vs h1 l1 r1=>
   cases q with
   | @tup _ _ vs2 h2 l2 r2=>
   have:=I.tuple_inj h1 h2
   subst this
   exact key ⟨l1,r1⟩ ⟨l2,r2⟩ h
  ·split at h
   ·rename_i hs
    rw [Qs] at hs
    cases h
    exact ziT r q hs.1 hs.2
   ·split at h
    ·rename_i d' xs ys hd q1 q2
     cases hd
     obtain ⟨p,vs,e1,hq1,s1⟩:=zC m r q1
     obtain ⟨p2,vs2,e2,hq2,s2⟩:=zC m q q2
     rw [e1] at e2
     cases e2
     have:=I.list_inj hq1 hq2
     subst this
     rw [if_pos (by rw [s1.1,s2.1])] at h
     exact key s1 s2 h
    ·cases h
theorem zk0 (I:L2.Inv X pins σ S.H s) (m:MemOk X.K S):∀ (d:Nat) {A:Around} {t u:T} {v w:V} {x y:Value} {b:Bool},A.units + d < cLine->RelV v x->RelV w y->Rep X.K S t v->Rep X.K S u w->eqD S.M d t u = some b->SeqAt.EqAt A s x y b:=by
 intro d
 induction d with
 | zero=>
  intro A t u v w x y b hu rx ry r q h
  unfold eqD at h
  split at h
  ·cases h
  ·split at h
   ·rename_i hs
    rw [Qs] at hs
    cases h
    rw [zeO r q hs.1 hs.2]
    exact zid rx ry (yO r hs.1) (yO q hs.2)
   ·cases h
 | succ d ih=>
  have key:∀ {A:Around} {xs ys:List T} {vs ws:List V} {us zs:List Value} {b:Bool},A.units + d < cLine->Reps X.K S xs vs->Reps X.K S ys ws->Vals vs us->Vals ws zs->eqL (eqD S.M d) xs ys = some b->
    ∃ e:Nat->Bool,(∀ j (h1:j < us.toArray.size) (h2:j < zs.toArray.size),SeqAt.EqAt A s us.toArray[j] zs.toArray[j] (e j))/\b = ((List.range (min us.toArray.size zs.toArray.size)).all e && us.toArray.size == zs.toArray.size):=by
   intro A xs ys vs ws us zs b hu r q hv hw h
   obtain ⟨e,h1,h2⟩:=zd4 h
   have l1:us.length = xs.length:=by rw [← hv.length,r.1]
   have l2:zs.length = ys.length:=by rw [← hw.length,q.1]
   refine ⟨e,fun j g1 g2=>?_,by rw [h2,Qi,Qi,l1,l2]⟩
   have g1':j < us.length:=by simpa using g1
   have g2':j < zs.length:=by simpa using g2
   have ex:xs[j]? = some (xs[j]'(by omega)):=Q0 (by omega)
   have ey:ys[j]? = some (ys[j]'(by omega)):=Q0 (by omega)
   obtain ⟨v,ev,rv⟩:=r.get ex
   obtain ⟨w,ew,rw'⟩:=q.get ey
   obtain ⟨a,ea,ra⟩:=Vals.get hv ev
   obtain ⟨c,ec,rc⟩:=Vals.get hw ew
   have:us.toArray[j] = a:=by
    rw [getElem_toArray];rw [Q0 g1'] at ea;exact Qd ea
   rw [this]
   have:zs.toArray[j] = c:=by
    rw [getElem_toArray];rw [Q0 g2'] at ec;exact Qd ec
   rw [this]
   exact ih hu ra rc rv rw' (h1 j _ _ ex ey)
  intro A t u v w x y b hu rx ry r q h
  have hsame:v = w->b = true:=fun z=>by subst z;exact zmd I m (d + 1) r q h
  unfold eqD at h
  split at h
  ·cases r with
   | @tup _ p vs h1 l1 r1=>
   cases q with
   | @tup _ p2 vs2 h2 l2 r2=>
   cases rx
   cases ry
   by_cases hp:p = p2
   ·subst hp
    rw [hsame rfl]
    exact SeqAt.EqAt.same _
   ·obtain ⟨its,ri,pl,_⟩:=I.tuple h1
    obtain ⟨its2,ri2,pl2,_⟩:=I.tuple h2
    obtain ⟨e,he,eb⟩:=key (A:=A.in1) (by show A.units + 1 + d < cLine;omega) ⟨l1,r1⟩ ⟨l2,r2⟩ ri ri2 h
    rw [eb]
    exact SeqAt.EqAt.of_refs hp (SeqAt.RcAt.tuples pl pl2 (by omega) he)
  ·split at h
   ·rename_i hs
    rw [Qs] at hs
    cases h
    rw [zeO r q hs.1 hs.2]
    exact zid rx ry (yO r hs.1) (yO q hs.2)
   ·split at h
    ·rename_i d' xs ys hd q1 q2
     cases hd
     obtain ⟨p,vs,e1,hq1,s1⟩:=zC m r q1
     obtain ⟨p2,vs2,e2,hq2,s2⟩:=zC m q q2
     subst e1
     subst e2
     cases rx
     cases ry
     by_cases hp:p = p2
     ·subst hp
      rw [hsame rfl]
      exact SeqAt.EqAt.same _
     ·obtain ⟨its,ri,pl,_⟩:=I.list hq1
      obtain ⟨its2,ri2,pl2,_⟩:=I.list hq2
      have lz:its.length = xs.length:=by rw [← ri.length,s1.1]
      have lz2:its2.length = ys.length:=by rw [← ri2.length,s2.1]
      by_cases hl:xs.length = ys.length
      ·rw [if_pos hl] at h
       obtain ⟨e,he,eb⟩:=key (A:=A.in1) (by show A.units + 1 + d < cLine;omega) s1 s2 ri ri2 h
       have hsz:its.toArray.size = its2.toArray.size:=by simp [lz,lz2,hl]
       rw [eb,hsz,Nat.min_self,beq_self_eq_true,Bool.and_true,← hsz]
       exact SeqAt.EqAt.of_refs hp (SeqAt.RcAt.lists pl.isList pl2.isList hsz (by omega) he)
      ·rw [if_neg hl] at h
       cases h
       exact SeqAt.EqAt.of_refs hp (SeqAt.RcAt.lists_lengths pl.isList pl2.isList (by simp [lz,lz2,hl]) (by omega))
    ·cases h
theorem zou {x:V} {u v:Value} (ry:RelV y u) (rx:RelV x v) (fy:zav y = true) (fx:zav x = true):SeqAt.RcAt A s u v (eqV y x):=by
 cases y with
 | non=>
  cases ry
  cases x with
  | non=>cases rx;exact SeqAt.RcAt.none_none
  | bl b=>cases rx;exact SeqAt.RcAt.none_bool b
  | int b=>obtain ⟨t,rfl⟩:=rx;exact SeqAt.RcAt.none_int b t
  | str b=>obtain ⟨t,rfl⟩:=rx;exact SeqAt.RcAt.none_str b t
  | _=>exact absurd (show false = true from fx) Q4
 | bl a=>
  cases ry
  cases x with
  | non=>cases rx;exact SeqAt.RcAt.bool_none a
  | bl b=>cases rx;exact SeqAt.RcAt.bool_bool a b
  | int b=>obtain ⟨t,rfl⟩:=rx;exact SeqAt.RcAt.bool_int a b t
  | str b=>obtain ⟨t,rfl⟩:=rx;exact SeqAt.RcAt.bool_str a b t
  | _=>exact absurd (show false = true from fx) Q4
 | int a=>
  obtain ⟨t',rfl⟩:=ry
  cases x with
  | non=>cases rx;exact SeqAt.RcAt.int_none a t'
  | bl b=>cases rx;exact SeqAt.RcAt.int_bool a t' b
  | int b=>obtain ⟨t,rfl⟩:=rx;exact SeqAt.RcAt.int_int a t' b t
  | str b=>obtain ⟨t,rfl⟩:=rx;exact SeqAt.RcAt.int_str a t' b t
  | _=>exact absurd (show false = true from fx) Q4
 | str a=>
  obtain ⟨t',rfl⟩:=ry
  cases x with
  | non=>cases rx;exact SeqAt.RcAt.str_none a t'
  | bl b=>cases rx;exact SeqAt.RcAt.str_bool a t' b
  | int b=>obtain ⟨t,rfl⟩:=rx;exact SeqAt.RcAt.str_int a t' b t
  | str b=>obtain ⟨t,rfl⟩:=rx;exact SeqAt.RcAt.str_str a t' b t
  | _=>exact absurd (show false = true from fx) Q4
 | _=>exact absurd (show false = true from fy) Q4
theorem zlw {x:V} {u v:Value} (ry:RelV y u) (rx:RelV x v) (fy:zav y = true) (fx:zav x = true):SeqAt.RcNeAt A s u v (!eqV y x):=by
 cases y with
 | non=>
  cases ry
  cases x with
  | non=>cases rx;exact SeqAt.RcNeAt.none_none
  | bl b=>cases rx;exact SeqAt.RcNeAt.none_bool b
  | int b=>obtain ⟨t,rfl⟩:=rx;exact SeqAt.RcNeAt.none_int b t
  | str b=>obtain ⟨t,rfl⟩:=rx;exact SeqAt.RcNeAt.none_str b t
  | _=>exact absurd (show false = true from fx) Q4
 | bl a=>
  cases ry
  cases x with
  | non=>cases rx;exact SeqAt.RcNeAt.bool_none a
  | bl b=>cases rx;exact SeqAt.RcNeAt.bool_bool a b
  | int b=>obtain ⟨t,rfl⟩:=rx;exact SeqAt.RcNeAt.bool_int a b t
  | str b=>obtain ⟨t,rfl⟩:=rx;exact SeqAt.RcNeAt.bool_str a b t
  | _=>exact absurd (show false = true from fx) Q4
 | int a=>
  obtain ⟨t',rfl⟩:=ry
  cases x with
  | non=>cases rx;exact SeqAt.RcNeAt.int_none a t'
  | bl b=>cases rx;exact SeqAt.RcNeAt.int_bool a t' b
  | int b=>obtain ⟨t,rfl⟩:=rx;exact SeqAt.RcNeAt.int_int a t' b t
  | str b=>obtain ⟨t,rfl⟩:=rx;exact SeqAt.RcNeAt.int_str a t' b t
  | _=>exact absurd (show false = true from fx) Q4
 | str a=>
  obtain ⟨t',rfl⟩:=ry
  cases x with
  | non=>cases rx;exact SeqAt.RcNeAt.str_none a t'
  | bl b=>cases rx;exact SeqAt.RcNeAt.str_bool a t' b
  | int b=>obtain ⟨t,rfl⟩:=rx;exact SeqAt.RcNeAt.str_int a t' b t
  | str b=>obtain ⟨t,rfl⟩:=rx;exact SeqAt.RcNeAt.str_str a t' b t
  | _=>exact absurd (show false = true from fx) Q4
 | _=>exact absurd (show false = true from fy) Q4
theorem zkZ (I:L2.Inv X pins σ S.H s) (m:MemOk X.K S) (d:Nat) {w:V} {x y:Value} {b:Bool} (hu:A.units + d < cLine) (rx:RelV v x) (ry:RelV w y) (r:Rep X.K S t v) (q:Rep X.K S u w) (h:eqD S.M d t u = some b):SeqAt.RcAt A s x y b/\SeqAt.RcNeAt A s x y (!b):=by
 have at_:∀ {A:Around} {d:Nat} {xs ys:List T} {vs ws:List V} {us zs:List Value} {b:Bool},A.units + d < cLine->Reps X.K S xs vs->Reps X.K S ys ws->Vals vs us->Vals ws zs->eqL (eqD S.M d) xs ys = some b->
    ∃ e:Nat->Bool,(∀ j (h1:j < us.toArray.size) (h2:j < zs.toArray.size),SeqAt.EqAt A s us.toArray[j] zs.toArray[j] (e j))/\b = ((List.range (min us.toArray.size zs.toArray.size)).all e && us.toArray.size == zs.toArray.size):=by
  intro A d xs ys vs ws us zs b hu r q hv hw h
  obtain ⟨e,h1,h2⟩:=zd4 h
  have l1:us.length = xs.length:=by rw [← hv.length,r.1]
  have l2:zs.length = ys.length:=by rw [← hw.length,q.1]
  refine ⟨e,fun j g1 g2=>?_,by rw [h2,Qi,Qi,l1,l2]⟩
  have g1':j < us.length:=by simpa using g1
  have g2':j < zs.length:=by simpa using g2
  have ex:xs[j]? = some (xs[j]'(by omega)):=Q0 (by omega)
  have ey:ys[j]? = some (ys[j]'(by omega)):=Q0 (by omega)
  obtain ⟨v,ev,rv⟩:=r.get ex
  obtain ⟨w,ew,rw'⟩:=q.get ey
  obtain ⟨a,ea,ra⟩:=Vals.get hv ev
  obtain ⟨c,ec,rc⟩:=Vals.get hw ew
  have:us.toArray[j] = a:=by
   rw [getElem_toArray];rw [Q0 g1'] at ea;exact Qd ea
  rw [this]
  have:zs.toArray[j] = c:=by
   rw [getElem_toArray];rw [Q0 g2'] at ec;exact Qd ec
  rw [this]
  exact zk0 I m d hu ra rc rv rw' (h1 j _ _ ex ey)
 unfold eqD at h
 split at h
 ·split at h
  ·cases h
  ·rename_i d
   cases r with
   | @tup _ p vs h1 l1 r1=>
   cases q with
   | @tup _ p2 vs2 h2 l2 r2=>
   cases rx
   cases ry
   obtain ⟨its,ri,pl,_⟩:=I.tuple h1
   obtain ⟨its2,ri2,pl2,_⟩:=I.tuple h2
   obtain ⟨e,he,eb⟩:=at_ (A:=A.in1) (by show A.units + 1 + d < cLine;omega) ⟨l1,r1⟩ ⟨l2,r2⟩ ri ri2 h
   rw [eb]
   exact ⟨SeqAt.RcAt.tuples pl pl2 (by omega) he,SeqAt.RcNeAt.tuples pl pl2 (by omega) he⟩
 ·split at h
  ·rename_i hs
   rw [Qs] at hs
   cases h
   rw [zeO r q hs.1 hs.2]
   exact ⟨zou rx ry (yO r hs.1) (yO q hs.2),zlw rx ry (yO r hs.1) (yO q hs.2)⟩
  ·split at h
   ·rename_i d' xs ys q1 q2
    obtain ⟨p,vs,e1,hq1,s1⟩:=zC m r q1
    obtain ⟨p2,vs2,e2,hq2,s2⟩:=zC m q q2
    subst e1
    subst e2
    cases rx
    cases ry
    obtain ⟨its,ri,pl,_⟩:=I.list hq1
    obtain ⟨its2,ri2,pl2,_⟩:=I.list hq2
    have lz:its.length = xs.length:=by rw [← ri.length,s1.1]
    have lz2:its2.length = ys.length:=by rw [← ri2.length,s2.1]
    by_cases hl:xs.length = ys.length
    ·rw [if_pos hl] at h
     obtain ⟨e,he,eb⟩:=at_ (A:=A.in1) (by show A.units + 1 + d' < cLine;omega) s1 s2 ri ri2 h
     have hsz:its.toArray.size = its2.toArray.size:=by simp [lz,lz2,hl]
     rw [eb,hsz,Nat.min_self,beq_self_eq_true,Bool.and_true,← hsz]
     exact ⟨SeqAt.RcAt.lists pl.isList pl2.isList hsz (by omega) he,SeqAt.RcNeAt.lists pl.isList pl2.isList hsz (by omega) he⟩
    ·rw [if_neg hl] at h
     cases h
     exact ⟨SeqAt.RcAt.lists_lengths pl.isList pl2.isList (by simp [lz,lz2,hl]) (by omega),SeqAt.RcNeAt.lists_lengths pl.isList pl2.isList (by simp [lz,lz2,hl]) (by omega)⟩
   ·cases h
theorem qB (hu:X.A.units + 64 < cLine):OpR X (compareOp .Eq) (lR2 XE X.K eqA):=by
 intro pins s σ H x y v u Q I rx ry ⟨S,⟨tx,ty⟩,e,m,⟨r1,r2⟩,fin⟩
 subst e
 replace fin:Fin XE (Rep X.K) X.K S (eqA tx ty S.M) Q:=fin
 unfold eqA at fin
 split at fin
 ·rename_i b q
  exact (zkZ I m 20 (A:=X.A) (by omega) rx ry r1 r2 q).1 _ _ _ _ ⟨.bl b,S.H,I,rfl,fin S _ rfl (.refl m) (.bl _)⟩
 ·exact fin.elim
theorem zbn (hu:X.A.units + 64 < cLine):OpR X (compareOp .NotEq) (lR2 XE X.K neA):=by
 intro pins s σ H x y v u Q I rx ry ⟨S,⟨tx,ty⟩,e,m,⟨r1,r2⟩,fin⟩
 subst e
 replace fin:Fin XE (Rep X.K) X.K S (neA tx ty S.M) Q:=fin
 unfold neA at fin
 split at fin
 ·rename_i b q
  exact (zkZ I m 20 (A:=X.A) (by omega) rx ry r1 r2 q).2 _ _ _ _ ⟨.bl (!b),S.H,I,rfl,fin S _ rfl (.refl m) (.bl _)⟩
 ·exact fin.elim
noncomputable def inA:T->T->Mem->Out T:=fun x y M=>match yS y M with
 | some ys=>if (zbi x && ys.all zbi) = true then .ok (.bl (ys.any fun y=>eqS y x)) M else .bad
 | none=>.bad
noncomputable def zjL:T->T->Mem->Out T:=fun x y M=>match yS y M with
 | some ys=>if (zbi x && ys.all zbi) = true then .ok (.bl (!ys.any fun y=>eqS y x)) M else .bad
 | none=>.bad
theorem zhf {K:Frag} {x:T} {v:V} (rx:Rep K S x v) (hx:zbi x = true):∀ {ys:List T} {vs:List V},Reps K S ys vs->ys.all zbi = true->vs.all zav = true/\inV v vs = ys.any fun y=>eqS y x
 | [],vs,r,_=>by rw [r.nilT];exact ⟨rfl,rfl⟩
 | y :: ys,vs,r,h=>by
  obtain ⟨w,ws,rfl,r1,r2⟩:=r.consT
  rw [all_cons,Qs] at h
  obtain ⟨h1,h2⟩:=zhf rx hx r2 h.2
  refine ⟨by rw [all_cons,yO r1 h.1,h1];rfl,?_⟩
  unfold inV at h2 ⊢
  rw [any_cons,any_cons,h2,zeO r1 rx h.1 hx]
theorem zo1:OpR X (compareOp .In) (lR2 XE X.K inA):=by
 intro pins s σ H x y v u Q I rx ry ⟨S,⟨tx,ty⟩,e,m,⟨r1,r2⟩,fin⟩
 subst e
 replace fin:Fin XE (Rep X.K) X.K S (inA tx ty S.M) Q:=fin
 unfold inA at fin
 split at fin
 ·rename_i ys q
  split at fin
  ·rename_i hs
   rw [Qs] at hs
   obtain ⟨p,vs,e1,hq,rs⟩:=zcn m r2 q
   dsimp only at e1
   subst e1
   obtain ⟨a1,a2⟩:=zhf r1 hs.1 rs hs.2
   exact zkv pins s σ S.H _ _ v u Q I rx ry ⟨p,vs,rfl,hq,yO r1 hs.1,a1,by rw [a2];exact fin S _ rfl (.refl m) (.bl _)⟩
  ·exact fin.elim
 ·exact fin.elim
theorem znf:OpR X (compareOp .NotIn) (lR2 XE X.K zjL):=by
 intro pins s σ H x y v u Q I rx ry ⟨S,⟨tx,ty⟩,e,m,⟨r1,r2⟩,fin⟩
 subst e
 replace fin:Fin XE (Rep X.K) X.K S (zjL tx ty S.M) Q:=fin
 unfold zjL at fin
 split at fin
 ·rename_i ys q
  split at fin
  ·rename_i hs
   rw [Qs] at hs
   obtain ⟨p,vs,e1,hq,rs⟩:=zcn m r2 q
   dsimp only at e1
   subst e1
   obtain ⟨a1,a2⟩:=zhf r1 hs.1 rs hs.2
   exact zhJ pins s σ S.H _ _ v u Q I rx ry ⟨p,vs,rfl,hq,yO r1 hs.1,a1,by rw [if_pos rfl,a2];exact fin S _ rfl (.refl m) (.bl _)⟩
  ·exact fin.elim
 ·exact fin.elim
end
section
noncomputable def zrH:List T->Option (List Int)
 | []=>some []
 | .int b :: r=>(zrH r).map (b :: ·)
 | _=>none
noncomputable def getL:T->T->Mem->Out T:=fun x y M=>match y,zq x M with
 | .int i,some xs=>zff (atI xs i) M
 | _,_=>.bad
theorem zqS:zix X (lR2 XE X.K getL):=by
 intro pins s σ H x y v u Q I rx ry ⟨S,⟨tx,ty⟩,e,m,⟨r1,r2⟩,fin⟩
 subst e
 replace fin:Fin XE (Rep X.K) X.K S (getL tx ty S.M) Q:=fin
 unfold getL at fin
 split at fin
 ·rename_i i xs q
  obtain ⟨t,et,fin⟩:=zga fin
  obtain ⟨p,vs,e1,hq,rs⟩:=zC m r1 q
  dsimp only at e1
  subst e1
  cases r2
  obtain ⟨w,ew,rw'⟩:=rs.atI et
  exact zl1 pins s σ S.H _ _ v u Q I rx ry ⟨p,vs,i,w,rfl,rfl,hq,ew,fin S w rfl (.refl m) rw'⟩
 ·exact fin.elim
theorem znC:PIp X .Add (lR2 XE X.K zdv):=by
 intro pins s σ H x y v u Q I rx ry ⟨S,⟨tx,ty⟩,e,m,⟨r1,r2⟩,fin⟩
 subst e
 replace fin:Fin XE (Rep X.K) X.K S (zdv tx ty S.M) Q:=fin
 unfold zdv zaS at fin
 split at fin
 ·cases r1;cases r2
  exact zpq pins s σ S.H _ _ v u Q I rx ry ⟨_,_,rfl,rfl,fin S _ rfl (.refl m) (.int _)⟩
 ·exact fin.elim
end
noncomputable def zlv (o:Out Fl):Out T:=match o with
 | .ok (.rt t) M'=>.ok t M'
 | .ok (.nx _) M'=>.ok .non M'
 | _=>.bad
theorem zkj {p:Nat} {g:Ev->Mem->Out Fl} (h:ts.length = p):qi p n g ts M = zlv (g (startT n ts) M):=by
 unfold qi
 rw [if_pos h]
 rfl
theorem zrW:zlv (.ok (.rt t) M) = .ok t M:=rfl
theorem zrX {σ:Ev} :zlv (.ok (.nx σ) M) = .ok .non M:=rfl
theorem zsh {β:Type} {b:Bool} {k:Bool->Mem->Out β}:blT (.bl b) M k = k b M:=rfl
theorem qf {k:Ev->Mem->Out Fl} {σ:Ev} :zbL k (.nx σ) M = k σ M:=rfl
theorem zq8 {k:Ev->Mem->Out Fl} :zbL k (.rt t) M = .ok (.rt t) M:=rfl
theorem zra {k:Ev->Mem->Out Fl} {σ:Ev} :zbL k (.bk σ) M = .ok (.bk σ) M:=rfl
theorem zq9 {k:Ev->Mem->Out Fl} {σ:Ev} :zbL k (.ct σ) M = .ok (.ct σ) M:=rfl
theorem zrx {k:Ev->Mem->Out Fl} {σ:Ev} :zV k (.nx σ) M = k σ M:=rfl
theorem zrw {k:Ev->Mem->Out Fl} :zV k (.rt t) M = .ok (.rt t) M:=rfl
theorem zrz {k:Ev->Mem->Out Fl} {σ:Ev} :zV k (.bk σ) M = .ok (.nx σ) M:=rfl
theorem zry {k:Ev->Mem->Out Fl} {σ:Ev} :zV k (.ct σ) M = k σ M:=rfl
theorem zkU {x:T} {σ:Ev} :forL bd body (x :: xs) σ M = (bd x σ M).bind fun σ1 M1=>(body σ1 M1).bind (zV (forL bd body xs)):=rfl
theorem zr1 {k:T->Mem->Out T} :yz k [t] M = k t M:=rfl
theorem zr0 {k:T->T->Mem->Out T} :call2 k [t,u] M = k t u M:=rfl
theorem zr4:yN (.int i) (.int j) M = .ok (.int (i + j)) M:=rfl
theorem zrT:zee (.int i) (.int j) M = .ok (.int (i - j)) M:=rfl
theorem znn (h:Mo64 i j):z6 (.int i) (.int j) M = .ok (.int (i * j)) M:=if_pos h
theorem zgs (h:j ≠ 0/\j.natAbs < 10 ^ 2000):zex (.int i) (.int j) M = .ok (.int (i.fdiv j)) M:=if_pos h
theorem zi5 (h:j ≠ 0):zbR (.int i) (.int j) M = .ok (.int (i.fmod j)) M:=if_pos h
theorem zrY (h:0<=j/\j<=1000000/\i.natAbs < 2 ^ 64):zjH (.int i) (.int j) M = .ok (.int (i ^ j.toNat)) M:=if_pos h
theorem zsa:ltI (.int i) (.int j) M = .ok (.bl (decide (i < j))) M:=rfl
theorem zsb:leI (.int i) (.int j) M = .ok (.bl (decide (i<=j))) M:=rfl
theorem zsd:gtI (.int i) (.int j) M = .ok (.bl (decide (j < i))) M:=rfl
theorem zse:geI (.int i) (.int j) M = .ok (.bl (decide (j<=i))) M:=rfl
theorem zr7:zhO (.int i) M = .ok (.int (-i)) M:=rfl
theorem zrZ:zhS (.int i) (.int j) M = .ok (.int (if j > i then j else i)) M:=rfl
theorem zsf:eqA (.int i) (.int j) M = .ok (.bl (i == j)) M:=rfl
theorem zr8:neA (.int i) (.int j) M = .ok (.bl (!(i == j))) M:=rfl
theorem zsc {a b:Bool} :isB (.bl a) (.bl b) M = .ok (.bl (a == b)) M:=rfl
theorem zrF {a b:Bool} :zqL (.bl a) (.bl b) M = .ok (.bl (a != b)) M:=rfl
theorem zbh {α:Type} {xs:List α} :atI xs (n:Int) = xs[n]?:=by
 unfold atI ixN
 by_cases h:n < xs.length
 ·simp [h]
 ·simp [h]
theorem zq5 {α:Type} {x:α} {l:List α}:atI (x :: l) 0 = some x:=by have:=zbh (xs:=x :: l) (n:=0);exact this
theorem zss {α:Type} {x y:α} {l:List α}:atI (x :: y :: l) 1 = some y:=by have:=zbh (xs:=x :: y :: l) (n:=1);exact this
theorem zsr {α:Type} {x y z:α} {l:List α}:atI (x :: y :: z :: l) 2 = some z:=by have:=zbh (xs:=x :: y :: z :: l) (n:=2);exact this
theorem zsq {α:Type} {x y z w:α} {l:List α}:atI (x :: y :: z :: w :: l) 3 = some w:=by have:=zbh (xs:=x :: y :: z :: w :: l) (n:=3);exact this
theorem zso:ixN (n + 1) 0 = some 0:=by unfold ixN;simp
theorem zsn:ixN (n + 2) 1 = some 1:=by unfold ixN;simp;omega
theorem zsm:ixN (n + 3) 2 = some 2:=by unfold ixN;simp;omega
theorem zP {a:Nat} (e:M[a]? = some (.lst xs)) (h:xs.length < sizeLine):zN (.ref a) [t] M = .ok .non (M.set a (.lst (xs ++ [t]))):=by
 unfold zN
 simp only [e,if_pos h]
theorem zF {a:Nat} (e:M[a]? = some (.lst xs)):yD (.ref a) M = .ok (.ref a) M:=by
 unfold yD zq
 simp only [e]
theorem zdJ {a:Nat} (e:M[a]? = some (.lst xs)):z4 (.ref a) M = .ok (.tup xs) M:=by
 unfold z4 yS zq
 simp only [e]
theorem zot (h:-(2 ^ 62)<=j/\j < 2 ^ 62):zcA [.int j] M = .ok (zdo 0 j.toNat) M:=if_pos h
theorem zsg:zex (.int i) (.int 8) M = .ok (.int (i.fdiv 8)) M:=zgs ⟨by decide,Q5 (show (8:Int).natAbs < 10 ^ 1 by decide) (Nat.pow_le_pow_right (by decide) (by decide))⟩
theorem zbQ (h:-(2 ^ 64) < i/\i < 2 ^ 64):z6 (.int i) (.int j) M = .ok (.int (i * j)) M:=znn (.inr (.inl h))
theorem zmx (n:Nat) (hn:n<=2000) (h0:j ≠ 0) (h:j.natAbs < 10 ^ n):j ≠ 0/\j.natAbs < 10 ^ 2000:=⟨h0,Q5 h (Nat.pow_le_pow_right (by decide) hn)⟩
structure Po where
 a:Int
 b:Int
 c:Int
noncomputable def Po.cell (p:Po):Cell:=.lst [.int p.a,.int p.b,.int p.c]
noncomputable def Po.dig (p:Po) (base:Int):Int:=if 0 < p.a then p.a % base else
 let mixed:=(p.b + 7919 * (p.c + 1)) % 1000000007
 let stir:=(mixed + 11) * (mixed + 48271) % 998244353
 (stir * stir % 2147483647 / 8) % base
noncomputable def Po.nxt (p:Po) (base:Int):Po:=if 0 < p.a then ⟨p.a / base,p.b,p.c⟩ else ⟨p.a,p.b,p.c + 1⟩
noncomputable def Po.new (cell:Int):Po:=⟨if cell - 10 ^ 18 > 0 then cell - 10 ^ 18 else 0,cell % 10 ^ 18,0⟩
theorem Po.dig_lo (p:Po) {base:Int} (h:0 < base):0<=p.dig base:=by
 unfold Po.dig
 split
 ·exact Int.emod_nonneg _ (by omega)
 ·exact Int.emod_nonneg _ (by omega)
theorem Po.dig_hi (p:Po) {base:Int} (h:0 < base):p.dig base < base:=by
 unfold Po.dig
 split
 ·exact Int.emod_lt_of_pos _ h
 ·exact Int.emod_lt_of_pos _ h
theorem zrB:yx (.tup xs) M = .ok (.int xs.length) M:=rfl
theorem zlP:yx (.lst xs) M = .ok (.int xs.length) M:=rfl
theorem zfi {a:Nat} (e:M[a]? = some (.lst xs)):yx (.ref a) M = .ok (.int xs.length) M:=by
 unfold yx yS zq
 simp only [e]
theorem zlf {α:Type} {xs:List α} (h0:0<=i) (h1:i < xs.length):∃ x,atI xs i = some x/\x ∈ xs:=by
 obtain ⟨n,rfl⟩:∃ n:Nat,i = n:=⟨i.toNat,by omega⟩
 have hn:n < xs.length:=by omega
 exact ⟨xs[n],by rw [zbh];simp [hn],getElem_mem hn⟩
theorem zr3 {ys:List T} (h:xs.length + ys.length<=sizeLine):yN (.tup xs) (.tup ys) M = .ok (.tup (xs ++ ys)) M:=if_pos h
noncomputable def zhW:T->Option Key
 | .int i=>some (.inl i)
 | .str x=>some (.inr x)
 | _=>none
noncomputable def zfQ (t:T) (M:Mem):Option (List (Key × T)):=match t with
 | .ref a=>match M[a]? with
  | some (.dic kvs)=>some kvs
  | _=>none
 | .dct kvs=>some kvs
 | _=>none
noncomputable def zU {κ:Type} [DecidableEq κ] (kvs:List (κ × T)) (k:κ):Option T:=(kvs.find? fun kv=>decide (kv.1 = k)).map (·.2)
noncomputable def zaY {κ:Type} [DecidableEq κ] (kvs:List (κ × T)) (k:κ) (t:T):List (κ × T):=
 if (kvs.any fun kv=>decide (kv.1 = k)) = true then kvs.map (fun kv=>if kv.1 = k then (kv.1,t) else kv) else kvs ++ [(k,t)]
section
variable {S:Sit}
theorem zfj {k:Key} (r:Rep K S t v) (e:zhW t = some k):v = kV k:=by
 cases r with
 | int i=>have e':some (Sum.inl i) = some k:=e;cases e';rfl
 | str i=>have e':some (Sum.inr i) = some k:=e;cases e';rfl
 | non=>cases e
 | bl b=>cases e
 | ty b=>cases e
 | tup _ _ _=>cases e
 | lst _ _ _=>cases e
 | ref _=>cases e
 | dct _ _ _=>cases e
 | exc _ _ _ _=>cases e
section
variable {κ:Type} [DecidableEq κ]
theorem RepK.nilT {us:List (κ × V)} (r:RepK K S [] us):us = []:=by
 have:=r.1
 simpa using this.symm
theorem RepK.nil:RepK (κ:=κ) K S [] []:=⟨rfl,.nil⟩
theorem RepK.consT {p:κ × T} {kvs:List (κ × T)} {us:List (κ × V)} (r:RepK K S (p :: kvs) us):∃ u us',us = (p.1,u) :: us'/\Rep K S p.2 u/\RepK K S kvs us':=by
 cases us with
 | nil=>have:=r.1;simp at this
 | cons q us=>
  obtain ⟨h1,h2⟩:=r
  rw [map_cons,map_cons] at h1 h2
  injection h1 with e1 e2
  obtain ⟨v,vs,e3,r1,r2⟩:=h2.consT
  injection e3 with e3 e4
  refine ⟨q.2,us,?_,?_,e2,?_⟩
  ·rw [e1]
  ·rw [e3];exact r1
  ·rw [e4];exact r2
theorem RepK.cons {k:κ} {u:V} {kvs:List (κ × T)} {us:List (κ × V)} (q:Rep K S t u) (r:RepK K S kvs us):RepK K S ((k,t) :: kvs) ((k,u) :: us):=
 ⟨by rw [map_cons,map_cons,r.1],by rw [map_cons,map_cons];exact r.2.cons q⟩
theorem RepK.length {kvs:List (κ × T)} {us:List (κ × V)} (r:RepK K S kvs us):kvs.length = us.length:=by
 have:=congrArg List.length r.1
 simpa using this
theorem RepK.look (k:κ):∀ {kvs:List (κ × T)} {us:List (κ × V)},RepK K S kvs us->(zU kvs k = none/\zaH us k = none)\/∃ t v,zU kvs k = some t/\zaH us k = some v/\Rep K S t v
 | [],us,r=>by rw [r.nilT];exact .inl ⟨rfl,rfl⟩
 | p :: kvs,us,r=>by
  obtain ⟨u,us',rfl,r1,r2⟩:=r.consT
  by_cases h:p.1 = k
  ·refine .inr ⟨p.2,u,?_,?_,r1⟩
   ·simp [zU,find?_cons,h]
   ·simp [zaH,find?_cons,h]
  ·have e1:zU (p :: kvs) k = zU kvs k:=by simp [zU,find?_cons,h]
   have e2:zaH ((p.1,u) :: us') k = zaH us' k:=by simp [zaH,find?_cons,h]
   rw [e1,e2]
   exact RepK.look k r2
theorem RepK.any (k:κ):∀ {kvs:List (κ × T)} {us:List (κ × V)},RepK K S kvs us->(kvs.any fun kv=>decide (kv.1 = k)) = us.any fun kv=>decide (kv.1 = k)
 | [],us,r=>by rw [r.nilT];rfl
 | p :: kvs,us,r=>by
  obtain ⟨u,us',rfl,r1,r2⟩:=r.consT
  rw [any_cons,any_cons,RepK.any k r2]
theorem RepK.repl (k:κ) {t:T} {v:V} (q:Rep K S t v):∀ {kvs:List (κ × T)} {us:List (κ × V)},RepK K S kvs us->RepK K S (kvs.map (fun kv=>if kv.1 = k then (kv.1,t) else kv)) (us.map (fun kv=>if kv.1 = k then (kv.1,v) else kv))
 | [],us,r=>by rw [r.nilT];exact .nil
 | p :: kvs,us,r=>by
  obtain ⟨u,us',rfl,r1,r2⟩:=r.consT
  rw [map_cons,map_cons]
  by_cases h:p.1 = k
  ·rw [if_pos h,if_pos h]
   exact (RepK.repl k q r2).cons q
  ·rw [if_neg h,if_neg h]
   exact (RepK.repl k q r2).cons r1
theorem RepK.snoc (k:κ) {t:T} {v:V} (q:Rep K S t v):∀ {kvs:List (κ × T)} {us:List (κ × V)},RepK K S kvs us->RepK K S (kvs ++ [(k,t)]) (us ++ [(k,v)])
 | [],us,r=>by rw [r.nilT];exact RepK.nil.cons q
 | p :: kvs,us,r=>by
  obtain ⟨u,us',rfl,r1,r2⟩:=r.consT
  exact (RepK.snoc k q r2).cons r1
theorem RepK.put (k:κ) (q:Rep K S t v) {kvs:List (κ × T)} {us:List (κ × V)} (r:RepK K S kvs us):RepK K S (zaY kvs k t) (putK us k v):=by
 unfold zaY putK
 rw [r.any k]
 split
 ·exact r.repl k q
 ·exact r.snoc k q
end
theorem zgP (m:MemOk K S) {x:V} {kvs:List (Key × T)} (r:Rep K S t x) (e:zfQ t S.M = some kvs):∃ p us,x = .ref p/\Rd S.H p (.dK us)/\RepK K S kvs us:=by
 unfold zfQ at e
 split at e
 ·split at e
  ·rename_i a _ kvs' q
   cases e
   cases r
   obtain ⟨us,h1,h2⟩:=m.cell _ _ q
   exact ⟨_,us,rfl,.inl h1,h2⟩
  ·cases e
 ·cases e
  cases r with
  | dct h l rr=>
   refine ⟨_,_,rfl,.inr ⟨_,h⟩,l,?_,rr⟩
   have:=congrArg List.length l
   simpa using this
 ·cases e
theorem _root_.L2.DGet.r {a:Addr} {us:List (Key × V)} {k:Key} (e:Rd H a (.dK us)):DGet H a (kV k) (zaH us k):=.inl ⟨us,k,e,rfl,rfl⟩
theorem RepK.isSome {κ:Type} [DecidableEq κ] (k:κ) {kvs:List (κ × T)} {us:List (κ × V)} (r:RepK K S kvs us):(zaH us k).isSome = (zU kvs k).isSome:=by
 rcases r.look k with ⟨a,b⟩ | ⟨t,v,a,b,_⟩
 ·rw [a,b];rfl
 ·rw [a,b];rfl
theorem zmT (m:MemOk K S) {a:Nat} {c:Cell} (e:S.M[a]? = some c) {ts:List (Key × T)} {vs:List (Key × V)} (r:RepK K S ts vs):Stp K S (S.put a (.dK vs) (.dic ts)):=by
 have ha:a < S.M.length:=(List.getElem?_eq_some_iff.mp e).1
 exact Stp.put m ha _ _ ⟨vs,yF,r.grow m (Grow.put m ha _ _)⟩
end
section
noncomputable def inD:T->T->Mem->Out T:=fun x y M=>match zfQ y M with
 | some kvs=>match zhW x with
  | some k=>.ok (.bl (zU kvs k).isSome) M
  | none=>.bad
 | none=>inA x y M
noncomputable def zfh:T->T->Mem->Out T:=fun x y M=>match zfQ y M with
 | some kvs=>match zhW x with
  | some k=>.ok (.bl (!(zU kvs k).isSome)) M
  | none=>.bad
 | none=>zjL x y M
theorem zo0 (hu:X.A.units + 64 < cLine):OpR X (compareOp .In) (lR2 XE X.K inD):=by
 intro pins s σ H x y v u Q I rx ry ⟨S,⟨tx,ty⟩,e,m,⟨r1,r2⟩,fin⟩
 replace fin:Fin XE (Rep X.K) X.K S (inD tx ty S.M) Q:=fin
 unfold inD at fin
 split at fin
 ·subst e
  rename_i kvs q
  split at fin
  ·rename_i k qk
   obtain ⟨p,us,e3,e4,rk⟩:=zgP m r2 q
   dsimp only at e3
   subst e3
   cases (show u = Value.ref p from ry)
   have ek:=zfj r1 qk
   dsimp only at ek
   subst ek
   refine zrM (by omega) I (.r e4) rx fun s' I'=>⟨.bl _,S.H,I',rfl,?_⟩
   rw [rk.isSome k]
   exact fin S _ rfl (.refl m) (.bl _)
  ·exact fin.elim
 ·exact zo1 pins s σ H x y v u Q I rx ry ⟨S,⟨tx,ty⟩,e,m,⟨r1,r2⟩,fin⟩
theorem zi0 (hu:X.A.units + 64 < cLine):OpR X (compareOp .NotIn) (lR2 XE X.K zfh):=by
 intro pins s σ H x y v u Q I rx ry ⟨S,⟨tx,ty⟩,e,m,⟨r1,r2⟩,fin⟩
 replace fin:Fin XE (Rep X.K) X.K S (zfh tx ty S.M) Q:=fin
 unfold zfh at fin
 split at fin
 ·subst e
  rename_i kvs q
  split at fin
  ·rename_i k qk
   obtain ⟨p,us,e3,e4,rk⟩:=zgP m r2 q
   dsimp only at e3
   subst e3
   cases (show u = Value.ref p from ry)
   have ek:=zfj r1 qk
   dsimp only at ek
   subst ek
   refine zn6 (by omega) I (.r e4) rx fun s' I'=>⟨.bl _,S.H,I',rfl,?_⟩
   rw [rk.isSome k]
   exact fin S _ rfl (.refl m) (.bl _)
  ·exact fin.elim
 ·exact znf pins s σ H x y v u Q I rx ry ⟨S,⟨tx,ty⟩,e,m,⟨r1,r2⟩,fin⟩
noncomputable def zdi (o i t:T) (M:Mem):Out Unit:=match o,zhW i with
 | .ref a,some k=>match M[a]? with
  | some (.dic kvs)=>if kvs.length < sizeLine then .ok () (M.set a (.dic (zaY kvs k t))) else .bad
  | _=>zaL o i t M
 | _,_=>zaL o i t M
theorem zfv (hu:X.A.units + 64 < cLine):zd9 X (zgk XE X.K zdi):=by
 intro pins s σ H o i v ov iv u Q I ro ri rv ⟨S,⟨⟨to,ti⟩,tv⟩,e,m,⟨⟨r1,r2⟩,r3⟩,fin⟩
 replace fin:Fin XE UnR X.K S (zdi to ti tv S.M) (fun _ H'=>Q H'):=fin
 unfold zdi at fin
 split at fin
 ·split at fin
  ·rename_i a k qk _ kvs q
   split at fin
   ·rename_i hz
    subst e
    obtain ⟨us,h4,rk⟩:=m.cell _ _ q
    cases r1
    cases (show ov = Value.ref (S.α a) from ro)
    have ek:=zfj r2 qk
    dsimp only at ek
    subst ek
    refine zk2 (by omega) I (.k h4 (by rw [← rk.length];exact hz)) ri rv fun s' I'=>⟨_,I',?_⟩
    exact fin (S.put a (.dK (putK us k v)) (.dic (zaY kvs k tv))) () rfl (zmT m q (rk.put k r3)) trivial
   ·exact fin.elim
  ·exact zc7 pins s σ H o i v ov iv u Q I ro ri rv ⟨S,⟨⟨_,ti⟩,tv⟩,e,m,⟨⟨r1,r2⟩,r3⟩,fin⟩
 ·exact zc7 pins s σ H o i v ov iv u Q I ro ri rv ⟨S,⟨⟨_,ti⟩,tv⟩,e,m,⟨⟨r1,r2⟩,r3⟩,fin⟩
noncomputable def zjY:Ev->Mem->Out T:=fun _ M=>.ok (.ref M.length) (M ++ [.dic []])
noncomputable def lMt (XE:XK) (K:Frag) (F:T->List T->Mem->Out T):V->List V->Hp->VK->Prop:=fun x xs H Q=>L0 XE (Rep K) K (PrR (Rep K) (Reps K)) (fun a M=>F a.1 a.2 M) (x,xs) H Q
noncomputable def zaA (chk:T->Mem->Bool) (F:T->List T->Mem->Out T) (f:Ev->Mem->Out T) (g:Ev->Mem->Out (List T)):Ev->Mem->Out T:=fun σ M=>(f σ M).bind fun x M1=>if chk x M1 = true then (g σ M1).bind fun ts M2=>F x ts M2 else .bad
end
noncomputable def insI (x:Int):List Int->List Int
 | []=>[x]
 | y :: ys=>if x<=y then x :: y :: ys else y :: insI x ys
theorem insI_perm (x:Int):∀ ys,(insI x ys).Perm (x :: ys)
 | []=>.refl _
 | y :: ys=>by
  unfold insI
  split
  ·exact .refl _
  ·exact ((insI_perm x ys).cons y).trans (.swap x y ys)
theorem Reps.ints {K:Frag} {S:Sit}:∀ ns:List Int,Reps K S (ns.map T.int) (ns.map V.int)
 | []=>.nil
 | n :: ns=>(Reps.ints ns).cons (.int n)
noncomputable def tK:Key->T
 | .inl i=>.int i
 | .inr x=>.str x
theorem zoj {S:Sit} (k:Key):Rep K S (tK k) (kV k):=by
 cases k with
 | inl i=>exact .int i
 | inr x=>exact .str x
theorem Reps.keys {K:Frag} {S:Sit}:∀ ks:List Key,Reps K S (ks.map tK) (ks.map kV)
 | []=>.nil
 | k :: ks=>(Reps.keys ks).cons (zoj k)
section
noncomputable def zjR:T->Mem->Out T:=fun t M=>match t with
 | .bl b=>.ok (.int (if b then 1 else 0)) M
 | _=>.bad
theorem zlc:CallR X (.type "int") (lRN XE X.K (yz zjR)):=zfn fun pins s σ S t x v Q I rx m r fin=>by
 unfold zjR at fin
 split at fin
 ·cases r
  cases (show v = Value.bool _ from rx)
  exact call_int_bool ⟨.int _,S.H,I.tok _,⟨_,rfl⟩,fin S _ rfl (.refl m) (.int _)⟩
 ·exact fin.elim
end
noncomputable def SubL (m:List (Str × Addr)):List (Str × Addr)->Prop
 | []=>True
 | c :: l=>m.lookup c.1 = some c.2/\SubL m l
theorem zhT:∀ {l m:List (Str × Addr)},SubL m l->∀ x a,l.lookup x = some a->m.lookup x = some a
 | [],_,_,_,_,h=>by cases h
 | (y,b) :: l,m,g,x,a,h=>by
  rw [lookup_cons] at h
  split at h
  ·rename_i e
   cases h
   rw [eq_of_beq e]
   exact g.1
  ·exact zhT g.2 x a h
noncomputable def zk3 (kvs prs:List (Key × T)):List (Key × T):=prs.foldl (fun acc kv=>zaY acc kv.1 kv.2) kvs
theorem RepK.merge {K:Frag} {S:Sit}:∀ {prs:List (Key × T)} {us:List (Key × V)} {kvs:List (Key × T)} {ws:List (Key × V)},RepK K S prs us->RepK K S kvs ws->RepK K S (zk3 kvs prs) (zkA ws us)
 | [],us,kvs,ws,r,q=>by rw [r.nilT];exact q
 | p :: prs,us,kvs,ws,r,q=>by
  obtain ⟨u,us',rfl,r1,r2⟩:=r.consT
  show RepK K S (zk3 (zaY kvs p.1 p.2) prs) (zkA (putK ws p.1 u) us')
  exact RepK.merge r2 (q.put p.1 r1)
noncomputable def forR (bd:T->Ev->Mem->Out Ev) (body:Ev->Mem->Out Fl) (a:Nat):Nat->Nat->Ev->Mem->Out Fl
 | 0,i,σ,M=>match M[a]? with
  | some (.lst xs)=>if xs.length<=i then .ok (.nx σ) M else .bad
  | _=>.bad
 | n + 1,i,σ,M=>match M[a]? with
  | some (.lst xs)=>match xs[i]? with
   | some x=>(bd x σ M).bind fun σ1 M1=>(body σ1 M1).bind (zV (forR bd body a n (i + 1)))
   | none=>.ok (.nx σ) M
  | _=>.bad
noncomputable def zsi (bd:T->Ev->Mem->Out Ev) (body:Ev->Mem->Out Fl) (t:T) (σ:Ev) (M:Mem):Out Fl:=match t with
 | .ref a=>match M[a]? with
  | some (.lst xs)=>forR bd body a xs.length 0 σ M
  | _=>.bad
 | _=>.bad
theorem zl9 {bd:T->Ev->Mem->Out Ev} {body:Ev->Mem->Out Fl} {a:Nat} {xs:List T} (P:Nat->Ev->Mem->Prop) (hP:∀ k σ M,P k σ M->M[a]? = some (.lst xs))
  (t:∀ k x σ M,xs[k]? = some x->P k σ M->∃ σ' M',((bd x σ M).bind fun σ1 M1=>body σ1 M1) = .ok (.nx σ') M'/\P (k + 1) σ' M'):∀ n i,i + n = xs.length->∀ σ M,P i σ M->∃ σ' M',forR bd body a n i σ M = .ok (.nx σ') M'/\P xs.length σ' M'
 | 0,i,hi,σ,M,h=>by
  have hM:=hP i σ M h
  refine ⟨σ,M,?_,by rw [← hi];exact h⟩
  unfold forR
  rw [hM]
  exact if_pos (by omega)
 | n + 1,i,hi,σ,M,h=>by
  have hM:=hP i σ M h
  have hx:xs[i]? = some xs[i]:=by simp [show i < xs.length by omega]
  obtain ⟨σ1,M1,e1,h1⟩:=t i _ σ M hx h
  obtain ⟨σ2,M2,e2,h2⟩:=zl9 P hP t n (i + 1) (by omega) σ1 M1 h1
  refine ⟨σ2,M2,?_,h2⟩
  unfold forR
  rw [hM]
  simp only [hx]
  cases q:bd xs[i] σ M with
  | bad=>rw [q] at e1;cases e1
  | exn C fs M'=>rw [q] at e1;cases e1
  | ok σ3 M3=>
   rw [q] at e1
   replace e1:body σ3 M3 = .ok (.nx σ1) M1:=e1
   show (body σ3 M3).bind (zV (forR bd body a n (i + 1))) = _
   rw [e1]
   exact e2
noncomputable def zbw (t:T) (M:Mem):Bool:=(zq t M).isSome
theorem zed {K:Frag} {S:Sit} (m:MemOk K S) {t:T} {x:V} (r:Rep K S t x) (h:zbw t S.M = true):tyV K "list" x S.H:=by
 unfold zbw at h
 cases q:zq t S.M with
 | none=>rw [q] at h;cases h
 | some xs=>
  obtain ⟨p,vs,rfl,hq,_⟩:=zC m r q
  exact .inl ⟨rfl,vs,hq⟩
end FT
namespace L2
open PySem PySem.Spec PySem.W PyProof.Rows
theorem KV.get_val {κ:Type}:∀ {kvs:List (κ × V)} {vs:List (κ × Value)} {i:Nat} {k:κ} {v:Value},KV kvs vs->vs[i]? = some (k,v)->∃ u,(kvs.map (·.2))[i]? = some u/\RelV u v
 | _,_,_,_,_,.nil,e=>by simp at e
 | _,_,0,_,_,.cons r _,e=>by simp at e;subst e;exact ⟨_,rfl,r.2⟩
 | _,_,i + 1,k,v,.cons _ t,e=>by
  obtain ⟨u,h1,h2⟩:=KV.get_val (i:=i) (k:=k) (v:=v) t (by simpa using e)
  exact ⟨u,by simpa using h1,h2⟩
end L2
namespace FT
open PySem PySem.Spec PyProof.Rows L2
variable {ts:List T} {vs:List V}
theorem Reps.rev {K:Frag} {S:Sit} (r:Reps K S ts vs):Reps K S ts.reverse vs.reverse:=by
 refine ⟨by simp [r.1],fun i t v e1 e2=>?_⟩
 have h1:i < ts.length:=by have:=(List.getElem?_eq_some_iff.mp e1).1;simpa using this
 rw [List.getElem?_reverse h1] at e1
 rw [List.getElem?_reverse (by rw [← r.1];exact h1),← r.1] at e2
 exact r.2 _ t v e1 e2
noncomputable def zdd (M:Mem) (x:T):List T->Option (List Bool)
 | []=>some []
 | t :: ts=>match eqD M 20 t x,zdd M x ts with
  | some b,some bs=>some (b :: bs)
  | _,_=>none
noncomputable def inN:T->T->Mem->Out T:=fun x y M=>match yS y M with
 | some ys=>match zdd M x ys with
  | some bs=>.ok (.bl (bs.any id)) M
  | none=>.bad
 | none=>.bad
theorem zgO {M:Mem} {x:T}:∀ {ts:List T} {bs:List Bool},zdd M x ts = some bs->bs.length = ts.length/\∀ (i:Nat) t b,ts[i]? = some t->bs[i]? = some b->eqD M 20 t x = some b
 | [],bs,h=>by cases h;exact ⟨rfl,fun i t b e=>by simp at e⟩
 | t :: ts,bs,h=>by
  unfold zdd at h
  split at h
  ·rename_i b bs' q1 q2
   cases h
   obtain ⟨l,g⟩:=zgO q2
   refine ⟨by simp [l],fun i u c e1 e2=>?_⟩
   cases i with
   | zero=>cases (show some t = some u from e1);cases (show some b = some c from e2);exact q1
   | succ i=>exact g i u c (by simpa using e1) (by simpa using e2)
  ·cases h
section
variable {X:Cx} {XE:XK} {pins:List (Addr × Obj)} {s:Shared} {σ:L2.St} {S:Sit}
open Classical in
theorem zie (I:L2.Inv X pins σ S.H s) (m:MemOk X.K S) (hu:X.A.units + 64 < cLine) {x:T} {v:V} {u:Value} (rx:RelV v u) (r:Rep X.K S x v) {its:List Value} (rs:Reps X.K S ts vs) (rv:Vals vs its) {bs:List Bool} (h:zdd S.M x ts = some bs) :
  ∃ e:Value->Bool,(∀ y,y ∈ its.toArray->SeqAt.EqAt X.A.in1 s y u (e y))/\its.toArray.any e = bs.any id:=by
 obtain ⟨hl,g⟩:=zgO h
 have l1:its.length = bs.length:=by rw [← rv.length,← rs.1,hl]
 have at_:∀ (j:Nat) (y:Value) (b:Bool),its[j]? = some y->bs[j]? = some b->SeqAt.EqAt X.A.in1 s y u b:=fun j y b e1 e2=>by
  have hj:j < ts.length:=by rw [← hl];exact (List.getElem?_eq_some_iff.mp e2).1
  have et:ts[j]? = some ts[j]:=by simp [hj]
  obtain ⟨w,ew,rw'⟩:=rs.get et
  obtain ⟨y',ey,ry⟩:=rv.get ew
  rw [e1] at ey
  cases ey
  exact zk0 I m 20 (A:=X.A.in1) (by show X.A.units + 1 + 20 < cLine;omega) ry rx rw' r (g j _ b et e2)
 refine ⟨fun y=>decide (∃ j:Nat,its[j]? = some y/\bs[j]? = some true),fun y hy=>?_,?_⟩
 ·by_cases hc:∃ j:Nat,its[j]? = some y/\bs[j]? = some true
  ·show SeqAt.EqAt X.A.in1 s y u (decide (∃ j:Nat,its[j]? = some y/\bs[j]? = some true))
   rw [Qv hc]
   obtain ⟨j,e1,e2⟩:=hc
   exact at_ j y true e1 e2
  ·show SeqAt.EqAt X.A.in1 s y u (decide (∃ j:Nat,its[j]? = some y/\bs[j]? = some true))
   rw [Qw hc]
   obtain ⟨j,hj,e1⟩:=getElem_of_mem (show y ∈ its by simpa using hy)
   have ej:its[j]? = some y:=by rw [Q0 hj,e1]
   have hb:bs[j]? = some bs[j]:=by simp [show j < bs.length by omega]
   cases q:bs[j]'(by omega) with
   | true=>exact absurd ⟨j,ej,by rw [hb,q]⟩ hc
   | false=>exact at_ j y false ej (by rw [hb,q])
 ·rw [Bool.eq_iff_iff]
  simp only [List.any_toArray,List.any_eq_true,id,decide_eq_true_eq]
  constructor
  ·rintro ⟨y,_,j,_,e2⟩
   exact ⟨true,Qa e2,rfl⟩
  ·rintro ⟨b,hb,rfl⟩
   obtain ⟨j,hj,e1⟩:=getElem_of_mem hb
   have hj2:j < its.length:=by omega
   exact ⟨its[j],getElem_mem hj2,j,by simp [hj2],by simp [hj,e1]⟩
theorem zoZ (hu:X.A.units + 64 < cLine):OpR X (compareOp .In) (lR2 XE X.K inN):=by
 intro pins s σ H x y v u Q I rx ry ⟨S,⟨tx,ty⟩,e,m,⟨r1,r2⟩,fin⟩
 subst e
 replace fin:Fin XE (Rep X.K) X.K S (inN tx ty S.M) Q:=fin
 unfold inN at fin
 split at fin
 ·rename_i ys q
  split at fin
  ·rename_i bs qb
   obtain ⟨p,vs,e1,hq,rs⟩:=zcn m r2 q
   dsimp only at e1
   subst e1
   cases ry
   rcases hq with hq | hq
   ·obtain ⟨its,rv,pl,hz⟩:=I.list hq
    obtain ⟨e,h1,h2⟩:=zie I m hu rx r1 rs rv qb
    exact SeqAt.in_listAt e pl.isList h1 ⟨.bl _,S.H,I,rfl,by rw [h2];exact fin S _ rfl (.refl m) (.bl _)⟩
   ·obtain ⟨its,rv,pl,hz⟩:=I.tuple hq
    obtain ⟨e,h1,h2⟩:=zie I m hu rx r1 rs rv qb
    exact SeqAt.in_tupleAt e pl h1 ⟨.bl _,S.H,I,rfl,by rw [h2];exact fin S _ rfl (.refl m) (.bl _)⟩
  ·exact fin.elim
 ·exact fin.elim
end
end FT
namespace L2
open PySem PySem.Spec PySem.W PyProof.Rows
variable {X:Cx}
section
variable {pins:List (Addr × Obj)} {σ:St} {H:Hp} {s:Shared} {l:Addr} {us:List (Key × V)}
theorem Inv.freeze (I:Inv X pins σ H s) (e:H l = some (.dK us)):∃ ob,Inv X pins σ (upd H l (.frz ob (.dK us))) s:=by
 obtain ⟨z,hs,vs,rel,o,es,ep,ho,r⟩:=(show ObjOk X.prog X.w H s.heap l (.dK us) from I.hok l _ e)
 exact ⟨o,I.write (x:=l) (e:=l) (o:=.frz o (.dK us)) (h':=s.heap) (t':=s.toks) (by rw [e];trivial) (.inl rfl) (fun b u _ q=>q) ⟨o,ho⟩ ⟨ho,z,hs,vs,rel,o,es,ep,ho,r⟩⟩
end
noncomputable def zrL (Q:VK):VK:=fun v H'=>∃ l us,v = .ref l/\H' l = some (.dK us)/\∀ ob,Q v (upd H' l (.frz ob (.dK us)))
theorem CallR.frz {f:Value} {r:List V->Hp->VK->Prop} (h:CallR X f r):CallR X f (fun xs H Q=>r xs H (zrL Q)):=by
 intro pins s σ H xs us Q I rv hr
 refine Qg (h pins s σ H xs us _ I rv hr) (fun v s' ⟨x,H',I',r',l,us',ex,e,q⟩=>?_) fun _ _ z=>z
 obtain ⟨ob,I2⟩:=I'.freeze e
 exact ⟨x,_,I2,r',q ob⟩
end L2
namespace FT
open PySem PySem.Spec PyProof.Rows L2
noncomputable def zcX (f:Str) (v:T):List (Str × T)->List (Str × T)
 | []=>[(f,v)]
 | (g,x) :: r=>if g = f then (g,v) :: r else (g,x) :: zcX f v r
variable {K:Frag} {us:List (Str × V)} {t:T}
section
variable {S:Sit}
theorem RepF.nil:RepF K S [] []:=⟨rfl,.nil⟩
theorem RepF.nilT (r:RepF K S [] us):us = []:=by
 have:=r.1
 simpa using this.symm
theorem RepF.consT {p:Str × T} {fs:List (Str × T)} (r:RepF K S (p :: fs) us):∃ u us',us = (p.1,u) :: us'/\Rep K S p.2 u/\RepF K S fs us':=by
 cases us with
 | nil=>have:=r.1;simp at this
 | cons q us'=>
  have h1:=r.1
  simp only [map_cons,List.cons.injEq] at h1
  obtain ⟨v,vs,e,r1,r2⟩:=(show Reps K S (p.2 :: fs.map (·.2)) (q.2 :: us'.map (·.2)) from r.2).consT
  cases e
  exact ⟨q.2,us',by rw [h1.1],r1,h1.2,r2⟩
theorem RepF.cons {g:Str} {u:V} {fs:List (Str × T)} (q:Rep K S t u) (r:RepF K S fs us):RepF K S ((g,t) :: fs) ((g,u) :: us):=⟨by simp [r.1],r.2.cons q⟩
theorem RepF.look (f:Str):∀ {fs:List (Str × T)} {us:List (Str × V)},RepF K S fs us->∀ {t:T},fs.lookup f = some t->∃ v,us.lookup f = some v/\Rep K S t v
 | [],us,r,t,e=>by cases e
 | (g,x) :: fs,us,r,t,e=>by
  obtain ⟨u,us',rfl,r1,r2⟩:=r.consT
  rw [lookup_cons] at e ⊢
  cases h:f == g with
  | true=>rw [h] at e;cases e;exact ⟨u,rfl,r1⟩
  | false=>rw [h] at e;exact RepF.look f r2 e
theorem RepF.put (f:Str) {t:T} {v:V} (q:Rep K S t v):∀ {fs:List (Str × T)} {us:List (Str × V)},RepF K S fs us->RepF K S (zcX f t fs) (z5 f v us)
 | [],us,r=>by rw [r.nilT];exact RepF.cons q .nil
 | (g,x) :: fs,us,r=>by
  obtain ⟨u,us',rfl,r1,r2⟩:=r.consT
  unfold zcX z5
  by_cases h:g = f
  ·rw [if_pos h,if_pos h];exact RepF.cons q r2
  ·rw [if_neg h,if_neg h];exact RepF.cons r1 (RepF.put f q r2)
theorem RepF.len {fs:List (Str × T)} (r:RepF K S fs us):fs.length = us.length:=by
 have:=congrArg List.length r.1
 simpa using this
end
noncomputable def zaJ (Cs:List Addr) (f:Str) (x:T) (M:Mem):Out T:=match x with
 | .ref a=>match M[a]? with
  | some (.ins C fs)=>if C ∈ Cs then zff (fs.lookup f) M else .bad
  | _=>.bad
 | _=>.bad
noncomputable def zp (Cs:List Addr) (f:Str) (g:Ev->Mem->Out T):Ev->Mem->Out T:=fun σ M=>(g σ M).bind fun x M1=>zaJ Cs f x M1
noncomputable def zaM (Cs:List Addr) (f:Str) (x y:T) (M:Mem):Out Unit:=match x with
 | .ref a=>match M[a]? with
  | some (.ins C fs)=>if C ∈ Cs/\fs.length < 1000 then .ok () (M.set a (.ins C (zcX f y fs))) else .bad
  | _=>.bad
 | _=>.bad
noncomputable def yE (Cs:List Addr) (f:Str) (fo fv:Ev->Mem->Out T):Ev->Mem->Out Fl:=fun σ M=>(fv σ M).bind fun y M1=>(fo σ M1).bind fun x M2=>(zaM Cs f x y M2).bind fun _ M3=>.ok (.nx σ) M3
variable {X:Cx} {e:Expr} {pos:Pos} {f:Str} {XE:XK}
section
variable {Cs:List Addr}
end
structure MakT (P:Program) (w:World) (K:Frag) (mg:Str->Option Value) (base:Heap) (k:Nat) (x:Str) (C:Addr) (ps:List Str) (f:List T->Mem->Out T):Prop where
 ex:∃ (fI:Addr) (fd:FuncData),Mk K C fI/\FnOk P w K mg base CX0 k fI fd ps (spT K f)/\Binds K fd ps []/\mg x = some (.ref C)
 nox:∀ ts M C fs M',f ts M ≠ .exn C fs M'
structure Di (K:Frag) (mg:Str->Option Value) (x qual:Str) (C:Addr) (st:Stmt) (ps:List Str):Prop where
 ex:∃ (fI:Addr) (fd:FuncData),Mk K C fI/\Fun K "__init__" qual st fI fd/\Binds K fd ps []/\mg x = some (.ref C)
variable {C:Addr} {ps:List Str} {st:Stmt} {qual x:Str} {mg:Str->Option Value}
theorem zpb {P:Program} {w:World} {base:Heap} {N:List Str} {k p n:Nat} {g:Ev->Mem->Out Fl} (D:Di K mg x qual C st ps) (Sc:FnScope N ps (zg st)) (hp:ps.length = p) (hn:N.length = n)
 (hb:∀ (f:Addr) (cdv:Value) (A:Around) (outer:List PySem.Env) (s:Shared) (H:Hp) (E:XK),Room k (A.deeper (envOfC qual (zg st) s.heap.objs.size f cdv))->GSs (zcf CX0 P w K mg base N qual (zg st) f cdv A outer s H E).nox E0 (yK st) g) :
  MakT P w K mg base (k + 1) x C ps (qi p n g):=by
 obtain ⟨fI,fd,M,F,b,e⟩:=D.ex
 exact ⟨⟨fI,fd,M,F.ok Sc (zhs hp) fun cdv A outer s H vs Q E hr h=>zfo hn rfl h (hb fI cdv A outer s H E hr),b,e⟩,zfz _ _ _⟩
noncomputable def zlI (a:Nat) (t:T) (M:Mem):Out T:=match t with
 | .non=>.ok (.ref a) M
 | _=>.bad
noncomputable def zdf (C:Addr) (F:List T->Mem->Out T) (ga:Ev->Mem->Out (List T)):Ev->Mem->Out T:=fun σ M=>(ga σ M).bind fun ts M1=>(F (.ref M1.length :: ts) (M1 ++ [.ins C []])).bind fun t M2=>zlI M1.length t M2
variable {es:List Expr}
section
variable {k:Nat} {p:Pos} {ga:Ev->Mem->Out (List T)} {F:List T->Mem->Out T}
end
variable {P:Addr->Prop}
theorem qh:∀ C ∈ ([]:List Addr),P C:=fun C h=>by simp at h
theorem zh {a:Addr} {l:List Addr} (h:P a) (r:∀ C ∈ l,P C):∀ C ∈ a :: l,P C:=fun C hc=>by
 rcases mem_cons.mp hc with rfl | hc
 ·exact h
 ·exact r C hc
noncomputable def yR (K:Frag) (x:Str):Addr:=match PySem.W.nsIn K mainGlobals x with
 | some (some (.ref a))=>a
 | _=>0
theorem zgt (a:PySem.W.nsIn K mainGlobals x = some (some (.ref C))):yR K x = C:=by
 unfold yR
 rw [a]
theorem zbv (a:PySem.W.nsIn K mainGlobals x = some (some (.ref C))) (n:PySem.W.findIn K (.ref C) f = some none):NoAttr K (yR K x) f:=by
 rw [zgt a];exact n
theorem zk6 (a:PySem.W.nsIn K mainGlobals x = some (some (.ref C))) (pg:PySem.W.plainGet K C Str.empty = true) (hd:PySem.W.hasDictIn K C = true) (po:PySem.W.plainOver K C = true)
 (sa:PySem.W.findIn K (.ref C) "__setattr__" = some (some (.builtin "object.__setattr__"))):Cls K (yR K x):=by
 rw [zgt a];exact ⟨pg,hd,po,sa⟩
theorem zmy {h:Heap} (X:K.In h) (G:h.Ns mainGlobals mg) {fI:Addr} {od an:Option Addr} {sl:Array (Option Value)} {oc kV dc pm cd ct:Value}
 (a:PySem.W.nsIn K mainGlobals x = some (some (.ref C))) (a1:PySem.W.findIn K (.ref C) "__init__" = some (some (.ref fI))) (i1:PySem.W.isFn K (.ref fI) = true)
 (l1:K.lookup fI = some ⟨oc,od,.func (PySem.W.fnOf "__init__" qual (zaG st) (yK st) (zg st) .none kV dc pm an cd ct),sl⟩) (c1:PySem.W.codeIn K cd qual = true) (k1:PySem.W.keepIn K (.ref fI) = true) (mk:PySem.W.makesIn K C = true) (kc:PySem.W.keepIn K (.ref C) = true)
 (hb:∀ (kV doc pm:Value) (an:Option Addr) (cdv ct:Value) (us:List Value),us.length = ps.length->bindArgs (PySem.W.fnOf "__init__" qual (zaG st) (yK st) (zg st) .none kV doc pm an cdv ct) ⟨us,[]⟩ = pure (ps.zip us)):Di K mg x qual (yR K x) st ps:=by
 have F:=zh8 (st:=st) l1 c1 k1
 rw [zgt a]
 exact ⟨⟨fI,_,⟨mk,a1,i1,kc⟩,F,F.binds hb,PySem.W.mg_of X G a⟩⟩
section
theorem zkB {S1 S3:Sit} (s3:Stp K S1 S3) {p:Addr} {vs:List V} (h:(Rd S1.H p (.lst vs)/\S1.off p)\/KL K p vs):SqL K S3.H p vs:=by
 rcases h with ⟨h2,f2⟩ | h2
 ·exact .inl (s3.toGrow.rd h2 f2).1
 ·exact .inr h2
end
noncomputable abbrev Gd:=List (Nat × List T)
def zbS (G:Gd) (M:Mem):Prop:=∀ g ∈ G,M[g.1]? = some (.lst g.2)
noncomputable def gdK {β:Type} (G:Gd) (M:Mem) (o:Out β):Out β:=@ite _ (zbS G M) (Classical.propDecidable _) o .bad
variable {G:Gd} {M:Mem}
theorem zh3 {β:Type} {o:Out β} (h:zbS G M):gdK G M o = o:=if_pos h
theorem zl7 (M:Mem):zbS [] M:=fun g h=>by simp at h
variable {xs:List T}
theorem zl6 {a:Nat} (h:M[a]? = some (.lst xs)):zbS [(a,xs)] M:=fun g hg=>by rw [mem_singleton.mp hg];exact h
def ItG (K:Frag) (S:Sit) (items:List T × Gd) (J:It):Prop:=∀ S',Stp K S S'->zbS items.2 S'.M->
 (∀ (i:Nat) t,items.1[i]? = some t->J.go i S'.H/\∀ x H',J.yld i S'.H x H'->∃ S'',S''.H = H'/\S''.M = S'.M/\Stp K S' S''/\Rep K S'' t x)/\∀ i,items.1.length<=i->J.stop i S'.H
instance (K):Mo K (ItG K):=⟨fun _ s r=>fun S' s'=>r S' (s.trans s')⟩
noncomputable def lIG (XE:XK) (K:Frag) (f:Ev->Mem->Out (List T × Gd)):TI:=fun σ H R=>LN XE (ItG K) K UnR (fun _ σ M=>f σ M) () σ H R
def GIG (X:Cx) (XE:XK) (tg iter:Expr) (f:Ev->Mem->Out (List T × Gd)):Prop:=PI X tg iter (lIG XE X.K f)
noncomputable def forG (G:Gd) (bd:T->Ev->Mem->Out Ev) (body:Ev->Mem->Out Fl):List T->Ev->Mem->Out Fl
 | [],σ,M=>gdK G M (.ok (.nx σ) M)
 | x :: xs,σ,M=>gdK G M ((bd x σ M).bind fun σ1 M1=>(body σ1 M1).bind (zV (forG G bd body xs)))
noncomputable def zdU (it:Ev->Mem->Out (List T × Gd)) (bd:T->Ev->Mem->Out Ev) (body:Ev->Mem->Out Fl):Ev->Mem->Out Fl:=fun σ M=>(it σ M).bind fun xs M1=>forG xs.2 bd body xs.1 σ M1
theorem Fin.gd {β γ:Type} {R:Sit->β->γ->Prop} {S:Sit} {o:Out β} {Q:γ->Hp->Prop} (h:Fin XE R K S (gdK G M o) Q):zbS G M/\Fin XE R K S o Q:=by
 by_cases g:zbS G M
 ·rw [zh3 g] at h;exact ⟨g,h⟩
 ·rw [show gdK G M o = .bad from if_neg g] at h;exact h.elim
variable {p:Ev->Mem->Out Fl} {bd:T->Ev->Mem->Out Ev}
theorem zkV {S:Sit} {σ:Ev} {Q:FlV->Hp->Prop} (h:Fin XE (FlR K) K S (forG G bd p xs σ M) Q):zbS G M:=by
 cases xs with
 | nil=>exact (Fin.gd h).1
 | cons x xs=>exact (Fin.gd h).1
variable {tg:Expr}
section
variable {a b c iter:Expr} {pp:Pos} {sts:List Stmt} {ga:Ev->Mem->Out (List T × Gd)}
end
noncomputable def zcZ (t:T) (M:Mem):Option (List T × Gd):=match t with
 | .lst xs=>some (xs,[])
 | .ref a=>match M[a]? with
  | some (.lst xs)=>some (xs,[(a,xs)])
  | _=>none
 | _=>none
theorem zi7 {S:Sit} (m:MemOk K S) {v:V} (r:Rep K S t v) (e:zcZ t S.M = some (xs,G)):∃ p vs,v = .ref p/\SqL K S.H p vs/\∀ S3,Stp K S S3->zbS G S3.M->∃ vs3,SqL K S3.H p vs3/\Reps K S3 xs vs3:=by
 unfold zcZ at e
 split at e
 ·cases e
  cases r with
  | @lst _ p vs h l rr=>
   refine ⟨p,vs,rfl,zdC h,fun S3 s3 _=>⟨vs,zkB s3 h,?_⟩⟩
   exact (show Reps K S xs vs from ⟨l,rr⟩).grow m s3.toGrow
 ·rename_i a
  split at e
  ·rename_i ys q
   cases e
   cases r with
   | ref ha=>
    obtain ⟨vs,h1,r1⟩:=m.cell a _ q
    refine ⟨S.α a,vs,rfl,.inl (.inl h1),fun S3 s3 g=>?_⟩
    obtain ⟨vs3,h3,r3⟩:=s3.mok.cell a _ (g (a,xs) (.head _))
    rw [s3.al a ha] at h3
    exact ⟨vs3,.inl (.inl h3),r3⟩
  ·cases e
 ·cases e
noncomputable def zfE (f:Ev->Mem->Out T):Ev->Mem->Out (List T × Gd):=fun σ M=>(f σ M).bind fun t M1=>match zcZ t M1 with
 | some g=>.ok g M1
 | none=>.bad
section
end
end FT
namespace L2
open PySem PySem.Spec PySem.W PyProof.Rows
def SI (b:Bool) (h:Heap) (q t:Addr) (k:Nat):Prop:=match b with
 | true=>h.IsTupleIter q t k
 | false=>h.IsListIter q t k
def SS (b:Bool) (h:Heap) (t:Addr) (xs:Array Value):Prop:=match b with
 | true=>h.IsTuple t xs
 | false=>h.IsList t xs
def SqX (K:Frag) (H:Hp) (b:Bool) (a:Addr) (xs:List V):Prop:=match b with
 | true=>SqT K H a xs
 | false=>SqL K H a xs
end L2
namespace FT
open PySem PySem.Spec PyProof.Rows L2
noncomputable def ze9 (t:T) (M:Mem):Option (List T × Gd):=match t with
 | .tup xs=>some (xs,[])
 | t=>zcZ t M
noncomputable def zg9 (f:Ev->Mem->Out T):Ev->Mem->Out (List T × Gd):=fun σ M=>(f σ M).bind fun t M1=>match ze9 t M1 with
 | some g=>.ok g M1
 | none=>.bad
section
variable {X:Cx} {XE:XK}
end
end FT
namespace L2
open PySem PySem.Spec PyProof.Rows
noncomputable abbrev TSl:=V->Option Int->Option Int->V->Hp->(Hp->Prop)->Prop
end L2
namespace FT
open PySem PySem.Spec PyProof.Rows L2
structure CalX (P:Program) (w:World) (K:Frag) (mg:Str->Option Value) (base:Heap) (k:Nat) (x:Str) (ps:List Str) (f:List T->Mem->Out T):Prop where
 ex:∃ (fa:Addr) (fd:FuncData),FnOk P w K mg base (CXX P w) k fa fd ps (spT K f)/\PySem.W.keepIn K (.ref fa) = true/\Binds K fd ps []/\mg x = some (.ref fa)
variable {C:Addr} {K:Frag} {base:Heap} {P:Program} {x:Str} {mg:Str->Option Value} {w:World}
section
variable {X:Cx} {XE:XK} {k i j:Nat} {ps:List Str} {y v nm:Str} {p pos pos2 np hp tp vp cpos:Pos} {e:Expr} {es:List Expr} {ga:Ev->Mem->Out (List T)} {F:List T->Mem->Out T} {b0:Stmt} {suite sts:List Stmt} {g gs:Ev->Mem->Out Fl}
structure XcF (P:Program) (w:World) (K:Frag) (mg:Str->Option Value) (base:Heap) (x:Str) (C:Addr):Prop where
 ex:∃ f fd,XcAt K mg x C f/\FnOk P w K mg base CX0 1 f fd ["self","at"] (fun vs H Q E=>(∃ e t v,vs = [.ref e,v]/\H e = some (.ext (ExN e C t none))/\∀ d,H d = none->d ≠ e->Q .non (upd (upd H e (.ext (ExN e C t (some d)))) d (.xd [("at",v)]))))/\Binds K fd ["self","at"] []
theorem XcF.at (O:XcF P w K mg base x C):∃ nm fI,XcAt K mg nm C fI:=let ⟨f,_,h,_⟩:=O.ex;⟨x,f,h⟩
def GX (X:Cx) (sts:List Stmt) (g:Ev->Mem->Out Fl):Prop:=PX X sts fun E=>lS E X.K g
noncomputable def zlq:Ev->Mem->Out Fl:=fun _ _=>.bad
noncomputable def noX (o:Out Fl):Out Fl:=match o with
 | .exn _ _ _=>.bad
 | o=>o
noncomputable def zst (cs:List Addr) (g gs:Ev->Mem->Out Fl):Ev->Mem->Out Fl:=fun σ M=>match g σ M with
 | .exn C _ M'=>if cs.contains C = true then noX (gs σ M') else .bad
 | o=>o
noncomputable def clr (j:Nat) (fl:Fl) (M:Mem):Out Fl:=match fl with
 | .nx σ=>.ok (.nx (σ.set j none)) M
 | .rt t=>.ok (.rt t) M
 | .bk σ=>.ok (.bk (σ.set j none)) M
 | .ct σ=>.ok (.ct (σ.set j none)) M
noncomputable def zsj (j:Nat) (cs:List Addr) (g gs:Ev->Mem->Out Fl):Ev->Mem->Out Fl:=fun σ M=>match g σ M with
 | .exn C fs M'=>if cs.contains C = true then (noX (gs (σ.set j (some (.exc C fs))) M')).bind (clr j) else .bad
 | o=>o
end
theorem zlm {f:Addr} (O:XcAt K mg x C f):Sup K mg x C C:=⟨O.bound,fun h X=>by
 obtain ⟨bm,N,nm,q,bs,sn,sub,ab,col,dd,k0,k1,k2,k3,k5,mN,hC,_,_,_,T⟩:=O.obj h X
 exact ⟨⟨bm,N,nm,q,bs,true,sn,sub,ab,col,dd,k0,k1,k2,k3,k5,hC,(T.tail (by decide)).hasType PySem.F.excBase_ValueError.hasBase⟩,bm,N,nm,q,bs,true,sn,sub,ab,col,dd,k0,k1,k2,k3,k5,hC,by simp⟩⟩
theorem XcF.sup (O:XcF P w K mg base x C):Sup K mg x C C:=let ⟨_,_,h,_⟩:=O.ex;zlm h
end FT
namespace L2
open PySem
noncomputable def subs:Nat->List (List Nat)
 | 0=>[[]]
 | n + 1=>subs n ++ (subs n).map (· ++ [n])
theorem ziS:∀ (n:Nat) (ks:List Nat),ks ∈ subs n->ks.Pairwise (· < ·)/\∀ k ∈ ks,k < n
 | 0,ks,h=>by rw [show ks = [] from mem_singleton.mp h];exact ⟨.nil,fun _ h=>by cases h⟩
 | n + 1,ks,h=>by
  unfold subs at h
  rcases mem_append.mp h with h | h
  ·have:=ziS n ks h
   exact ⟨this.1,fun k hk=>Nat.lt_succ_of_lt (this.2 k hk)⟩
  ·obtain ⟨l,hl,rfl⟩:=mem_map.mp h
   have:=ziS n l hl
   refine ⟨List.pairwise_append.mpr ⟨this.1,List.pairwise_singleton _ _,fun a ha b hb=>by rw [mem_singleton.mp hb];exact this.2 a ha⟩,fun k hk=>?_⟩
   rcases mem_append.mp hk with hk | hk
   ·exact Nat.lt_succ_of_lt (this.2 k hk)
   ·rw [mem_singleton.mp hk];exact Nat.lt_succ_self _
noncomputable def zrQ:Bool:=(subs 6).all fun ks=>(List.range 7).all fun h=>SetTable.below ks.toArray h == (ks.filter (· < h)).length
theorem zn9:zrQ = true:=by decide +kernel
variable {ks:List Nat}
theorem zis (hk:ks ∈ subs 6) {h:Nat} (hh:h < 7):SetTable.below ks.toArray h = (ks.filter (· < h)).length:=by
 have:=all_eq_true.mp (all_eq_true.mp zn9 ks hk) h (mem_range.mpr hh)
 exact eq_of_beq this
noncomputable def zpd (mask:Nat) (hashes:Array Int):Option (List Nat × List Nat):=(SetTable.layClean mask hashes).map fun owner=>
 let live:=(List.range (mask + 1)).filterMap fun j=>(owner.getD j none).map (j,·)
 (live.map (·.1),live.map (·.2))
noncomputable def hsh (ks:List Nat):List Int:=ks.map fun k:Nat=>(k:Int)
noncomputable def layB:Bool:=(subs 6).all fun ks=>[7,15,31].all fun m=>zpd m (hsh ks).toArray == some (ks,List.range ks.length)
theorem znv:layB = true:=by decide +kernel
theorem znx (hk:ks ∈ subs 6) {m:Nat} (hm:m ∈ [7,15,31]) (f mv:Nat) (l p:Bool) :
  SetTable.laid m f mv l p (hsh ks).toArray = some ({ mask:=m,place:=ks.toArray,dummies:=#[],finger:=f,led:=l,moves:=mv,plain:=p },(List.range ks.length).toArray):=by
 have:=eq_of_beq (all_eq_true.mp (all_eq_true.mp znv ks hk) m hm)
 unfold zpd at this
 unfold SetTable.laid
 cases q:SetTable.layClean m (hsh ks).toArray with
 | none=>rw [q] at this;cases this
 | some owner=>
  rw [q] at this
  have h:=Prod.mk.inj (Qd this)
  show some _ = some _
  rw [h.1,h.2]
end L2
namespace L2
open PySem PySem.Spec
noncomputable def zqa (w:World):Bool:=w.params.followText "set-order"
structure DTab (w:World) (es:Array (Int × Value)) (t:SetTable) (ks:List Nat) (m:Nat):Prop where
 keys:es.toList.map (·.1) = hsh ks
 vals:∀ e ∈ es.toList,∃ tk,e.2 = .int e.1 tk
 mask:t.mask = m
 place:t.place = ks.toArray
 dumm:t.dummies = #[]
 plain:t.plain = true
 led:zqa w = true\/t.led = true
 sub:ks ∈ subs 6
 ms:m ∈ [7,15,31]
variable {es:Array (Int × Value)} {ks:List Nat} {m:Nat} {t:SetTable} {w:World}
theorem DTab.size (d:DTab w es t ks m):es.size = ks.length:=by
 have:=congrArg List.length d.keys
 unfold hsh at this
 simpa using this
theorem zho (h:ks ∈ subs 6):ks.length<=6:=by
 have:((subs 6).all fun ks=>ks.length<=6) = true:=by decide +kernel
 simpa using all_eq_true.mp this ks h
theorem DTab.fits (d:DTab w es t ks m):t.fits es.size = true:=by
 have:=zho d.sub
 have hm:=d.ms
 unfold SetTable.fits SetTable.fill
 rw [d.size,d.place,d.dumm,d.mask]
 simp at hm ⊢
 omega
theorem zod {k:Nat} (h:k < 6):hashInt (k:Int) = k:=by
 have:((List.range 6).all fun k:Nat=>hashInt (k:Int) == (k:Int)) = true:=by decide +kernel
 exact eq_of_beq (all_eq_true.mp this k (mem_range.mpr h))
section
variable {prog:Program} {A:Around} {E:Value->Shared->Prop} {s:Shared} {a:Addr}
noncomputable def zjS (k:Nat) (ks:List Nat):List Nat:=if k ∈ ks then ks else ks.take (ks.filter (· < k)).length ++ k :: ks.drop (ks.filter (· < k)).length
theorem zlU {k:Nat} (hk:k < 6) (h:ks ∈ subs 6):zjS k ks ∈ subs 6:=by
 have:((List.range 6).all fun k=>(subs 6).all fun ks=>(subs 6).contains (zjS k ks)) = true:=by decide +kernel
 have:=all_eq_true.mp (all_eq_true.mp this k (mem_range.mpr hk)) ks h
 simpa using this
theorem ziH {k:Nat} (hp:t.place = ks.toArray) (hd:t.dummies = #[]) (hm:k<=t.mask) (hs:k < 2 ^ 64) (hn:k ∉ ks):t.freeSlot (k:Int) = some (k,false):=by
 have hb:SetTable.bits (k:Int) = k:=by
  unfold SetTable.bits
  rw [Int.emod_eq_of_lt (by omega) (by omega)]
  rfl
 have hsl:t.slot k = .empty:=by
  unfold SetTable.slot SetTable.has
  rw [hp,hd]
  dsimp only
  rw [if_neg (by
   intro e
   have e:=eq_of_beq e
   rw [List.getElem?_toArray] at e
   exact hn (Qa e)),if_neg (by simp)]
 have hj:(t.probeStart (k:Int)).j = k/\(t.probeStart (k:Int)).dummy = none:=by
  unfold SetTable.probeStart
  rw [hb]
  exact ⟨Nat.mod_eq_of_lt (by omega),rfl⟩
 unfold SetTable.freeSlot SetTable.probe
 rw [show 10 * SetTable.turns t.mask = (10 * t.mask + 149) + 1 by unfold SetTable.turns;omega]
 unfold SetTable.probe.go
 rw [hj.1,hsl,hj.2]
 rfl
theorem DTab.ins {k:Nat} {tk:Tok} (d:DTab w es t ks m) (hk:k < 6) (hn:k ∉ ks):DTab w (SetTable.insertAt es (t.put k).2 ((k:Int),.int (k:Int) tk)) (t.put k).1 (zjS k ks) m:=by
 have hp:(t.put k).2 = (ks.filter (· < k)).length:=by
  unfold SetTable.put
  rw [d.place]
  exact zis d.sub (by omega)
 have hi:zjS k ks = ks.take (ks.filter (· < k)).length ++ k :: ks.drop (ks.filter (· < k)).length:=if_neg hn
 refine ⟨?_,?_,d.mask,?_,?_,d.plain,d.led,zlU hk d.sub,d.ms⟩
 ·rw [hp,SetTable.toList_insertAt,hi]
  unfold hsh
  rw [Qq,map_cons,Qq,map_cons,map_take,map_take,map_drop,map_drop]
  have:=d.keys
  unfold hsh at this
  rw [this]
 ·intro e he
  rw [SetTable.toList_insertAt] at he
  rcases mem_append.mp he with he | he
  ·exact d.vals e (List.mem_of_mem_take he)
  ·rcases mem_cons.mp he with rfl | he
   ·exact ⟨tk,rfl⟩
   ·exact d.vals e (List.mem_of_mem_drop he)
 ·show SetTable.insertAt t.place (SetTable.below t.place k) k = _
  rw [d.place,zis d.sub (by omega),hi]
  apply Array.toList_inj.mp
  rw [SetTable.toList_insertAt]
 ·show (if SetTable.has t.dummies k then _ else t.dummies) = #[]
  rw [d.dumm]
  rfl
theorem DTab.lay {k:Nat} {tk:Tok} (d:DTab w es t ks m) (hk:k < 6) (hn:k ∉ ks):layNew t es (k:Int) (.int (k:Int) tk) = (SetTable.insertAt es (t.put k).2 ((k:Int),.int (k:Int) tk),(t.put k).1,false,false):=by
 have hm:=d.ms
 have hf:=(d.ins (tk:=tk) hk hn).fits
 unfold layNew
 rw [ziH d.place d.dumm (by rw [d.mask];simp at hm;omega) (by omega) hn]
 dsimp only
 unfold SetTable.orStandIn
 rw [if_pos hf,hf]
 rfl
theorem DTab.full (d:DTab w es t ks m):∃ t' m',relayAll t es (SetTable.grown es.size) = (es,t',false)/\DTab w es t' ks m':=by
 have h6:=zho d.sub
 have hw:∀ n,n<=6->SetTable.sizeAbove (SetTable.grown n) - 1 ∈ [7,15,31]:=by decide +kernel
 have hms:=hw _ h6
 have e1:es.map (·.1) = (hsh ks).toArray:=by
  rw [← d.keys]
  apply Array.toList_inj.mp
  rw [Array.toList_map]
 have e3:Array.filterMap (fun x=>es[x]?) (List.range ks.length).toArray = es:=by
  apply Array.toList_inj.mp
  rw [← d.size]
  simpa using filterMap_getElem?_range es
 have hc:∀ n,n<=6->coversAll (List.range n).toArray n = true:=by decide +kernel
 have d':DTab w es { mask:=SetTable.sizeAbove (SetTable.grown es.size) - 1,place:=ks.toArray,dummies:=#[],finger:=t.finger,led:=t.led,moves:=t.movedTo (SetTable.sizeAbove (SetTable.grown es.size) - 1),plain:=t.plain } ks (SetTable.sizeAbove (SetTable.grown es.size) - 1):=⟨d.keys,d.vals,rfl,rfl,rfl,d.plain,d.led,d.sub,by rw [d.size];exact hms⟩
 refine ⟨_,_,?_,d'⟩
 unfold relayAll SetTable.relaid
 rw [e1,znx d.sub (by rw [d.size];exact hms)]
 dsimp only
 rw [e3,d'.fits,d.size,hc _ h6]
 rfl
end
end L2
namespace L2
open PySem PySem.Spec PyProof.Rows
section
variable {prog:Program} {w:World} {A:Around} {E:Value->Shared->Prop} {s:Shared} {a:Addr} {ks:List Nat} {m:Nat}
structure DictN (prog:Program) (w:World) (h:Heap) (d:Addr) (ns:List Nat) (od:Obj) (es:Array DictEntry) (ep:Nat):Prop where
 at_:h.get? d = some od
 exact_:od.ExactDict
 data:od.data = .dict es ep
 size:es.size = ns.length
 keys:∀ (i:Nat) n,ns[i]? = some n->∃ e tk,es[i]? = some e/\e.key = .int (n:Int) tk/\e.hash = (n:Int)
 small:∀ n ∈ ns,n < 6
end
theorem zkk (n:Nat):sliceRange (sliceBounds none none (some (-1)) n).1 (sliceBounds none none (some (-1)) n).2.1 (sliceBounds none none (some (-1)) n).2.2 = (List.range n).map fun k=>n - 1 - k:=by
 unfold sliceBounds sliceRange
 have h0:¬ ((-1:Int) > 0):=by decide
 simp only [Option.getD_some,h0,if_false]
 have hc:(if (n:Int) - 1 > -1 then ((n:Int) - 1 - -1 - -1 - 1) / (- -1) else 0).toNat = n:=by
  by_cases hn:(n:Int) - 1 > -1
  ·rw [if_pos hn]
   have:((n:Int) - 1 - -1 - -1 - 1) / (- -1) = n:=by
    have e:(- -1:Int) = 1:=by decide
    rw [e,Int.ediv_one];omega
   rw [this];simp
  ·rw [if_neg hn];omega
 rw [hc]
 apply map_congr_left
 intro k hk
 have hk':k < n:=mem_range.mp hk
 omega
theorem zlu {α:Type}:∀ xs:List α,((List.range xs.length).map fun k=>xs.length - 1 - k).filterMap (fun k=>xs[k]?) = xs.reverse:=fun xs=>by
 rw [List.filterMap_map]
 have:((List.range xs.length).filterMap fun k=>xs[xs.length - 1 - k]?) = (List.range xs.reverse.length).filterMap fun k=>xs.reverse[k]?:=by
  rw [List.length_reverse]
  have:∀ (ns:List Nat),(∀ k ∈ ns,k < xs.length)->(ns.filterMap fun k=>xs[xs.length - 1 - k]?) = ns.filterMap fun k=>xs.reverse[k]?:=by
   intro ns
   induction ns with
   | nil=>intro _;rfl
   | cons n ns ih=>
    intro h
    rw [filterMap_cons,filterMap_cons,ih fun k hk=>h k (.tail _ hk),List.getElem?_reverse (h n (.head _))]
  exact this _ fun k hk=>mem_range.mp hk
 show ((List.range xs.length).filterMap fun k=>xs[xs.length - 1 - k]?) = _
 rw [this]
 exact PySem.List.filterMap_getElem?_range_length _
theorem zgY (its:List Value):slicePick its.toArray none none (some (-1)) = its.reverse.toArray:=by
 unfold slicePick
 rw [Qi,zkk]
 have:=zlu its
 simp only [List.getElem?_toArray]
 rw [this]
section
variable {X:Cx}
noncomputable def tRv (r:V->Hp->VK->Prop) (te:TE) (ts:TO):TE:=fun σ H Q=>te σ H fun x H1=>ts σ H1 fun l H2=>l = some (-1)/\r x H2 Q
noncomputable def zrs (K:Frag):V->Hp->VK->Prop:=fun x H Q=>∃ a xs,x = .ref a/\SqL K H a xs/\∀ p,H p = none->Q (.ref p) (upd H p (.lst xs.reverse))
theorem zoM {e st:Expr} {te:TE} {ts:TO} {p2 pos:Pos} (he:PE X e te) (hs:PO X (some st) ts):PE X (.Subscript e (.Slice none none (some st) p2) pos) (tRv (zrs X.K) te ts):=by
 intro pins s σ H Q I h
 refine Subscript_ (thn (he pins s σ H _ I h) fun v s1 ⟨x,H1,I1,r1,q1⟩=>?_)
 refine wpAny_Slice ?_
 rw [evalPart_none]
 refine Qf (Qf (thn (hs pins s1 σ H1 _ I1 q1) fun vl s2 ⟨l,H2,I2,pl,q2⟩=>?_))
 obtain ⟨rfl,a,xs,rfl,hx,q⟩:=q2
 cases r1
 have I4:Inv X pins σ H2 { s2 with heap:=s2.heap.push { cls:=.type "slice",data:=.fields #[.none,.none,vl] } }:=I2.kept (t':=s2.toks) fun b ob q=>Q2 _ q
 obtain ⟨its,r,ht,hz⟩:=I4.list hx
 have hlen:=r.length
 refine tail_any (ops:=[.ref a,.ref s2.heap.objs.size]) ht.isList.typeIs slot_list_getitem.lookup ?_ (by with_unfolding_all rfl)
 refine wpAny_getItem_list_slice ht.isList (Heap.IsSliceOf.new ..) .none .none pl (by decide) ?_ (by rw [Qi] <;> omega)
 rw [zgY]
 refine ⟨.ref _,_,I4.laid (t':=s2.toks) (o:=.lst xs.reverse) (fun b ob q=>Q2 _ q) (Q3 _) ?_,rfl,q _ (I4.hok.fresh (Q3 _))⟩
 exact ⟨by rw [List.length_reverse];exact hz,_,0,r.reverse,Ql _ rfl⟩
end
end L2
namespace FT
open PySem PySem.Spec PyProof.Rows L2
noncomputable def rvX (x:T) (M:Mem):Out T:=match zq x M with
 | some xs=>.ok (.lst xs.reverse) M
 | none=>.bad
noncomputable def zf5 (x:T) (l:Option Int) (M:Mem):Out T:=if l = some (-1) then rvX x M else .bad
noncomputable def eRv (f:Ev->Mem->Out T) (p:Ev->Mem->Out (Option Int)):Ev->Mem->Out T:=fun σ M=>(f σ M).bind fun x M1=>(p σ M1).bind fun l M2=>zf5 x l M2
variable {X:Cx} {p:Ev->Mem->Out (Option Int)} {f:Ev->Mem->Out T} {e:Expr} {p2 pos:Pos} {XE:XK}
section
end
noncomputable def zev (f:List T->Mem->Out T):List T->Mem->Out T:=fun ts M=>match f ts M with
 | .ok (.ref a) M'=>match M'[a]? with
  | some (.lst xs)=>@ite _ (M'.take M.length = M/\M.length<=a/\∀ x ∈ xs,T.lt 0 x) (Classical.propDecidable _) (.ok (.lst xs) M) .bad
  | _=>.bad
 | _=>.bad
theorem zji (f:List T->Mem->Out T):Refines (zev f) f:=by
 intro ts M t' M1 _ e
 unfold zev at e
 split at e
 ·rename_i a M' q
  split at e
  ·rename_i xs qa
   split at e
   ·rename_i hc
    cases e
    have hl:M.length<=M'.length:=by
     have:=congrArg List.length hc.1
     rw [Qr] at this
     omega
    refine ⟨_,_,q,Q3 _,hl,hc.1.symm,fun i c e=>.inl e,.ref qa hc.2.1 rfl fun i t u e1 e2=>?_⟩
    rw [e1] at e2
    cases e2
    exact .same ((hc.2.2 t (Qa e1)).mono (Nat.zero_le _))
   ·cases e
  ·cases e
 ·cases e
theorem zjj (f:List T->Mem->Out T):∀ ts M C fs M',zev f ts M ≠ .exn C fs M':=by
 intro ts M C fs M' e
 unfold zev at e
 split at e
 ·split at e
  ·split at e <;> cases e
  ·cases e
 ·cases e
variable {K:Frag} {base:Heap} {N ps:List Str} {P:Program} {st:Stmt} {x:Str} {mg:Str->Option Value} {w:World}
section
theorem Refines.bad (g:List T->Mem->Out T):Refines (fun _ _=>.bad) g:=fun _ _ _ _ _ e=>by cases e
theorem CalT.bad {k:Nat} (D:Df K mg x st ps) (Sc:FnScope N ps (zg st)):CalT P w K mg base (k + 1) x ps (fun _ _=>.bad):=
 CalT.refine (g:=qi ps.length N.length (fun _ _=>.bad)) (zld D Sc rfl rfl fun f cdv A outer s H E hr=>fun _ _ _ _ _ _ ⟨_,_,_,_,_,_,_,fin⟩=>fin.elim) (Refines.bad _) (fun _ _ _ _ _ z=>by cases z)
end
def KTu (K:Frag) (a:Addr) (xs:List V):Prop:=∃ (o:Obj) (its:Array Value) (n:Nat),K.lookup a = some o/\o.cls = .type "tuple"/\o.dict = none/\o.data = .seq its n/\its.size<=sizeLine/\Vals xs its.toList
variable {n:Nat}
theorem zph {a:Addr} {t:Tok} {sl:Array (Option Value)} (h:K.lookup a = some ⟨.type "tuple",none,.seq #[.str x t] n,sl⟩):KTu K a [.str x]:=
 ⟨_,_,n,h,rfl,rfl,rfl,(by rw [sizeLine_eq];exact Nat.le_of_ble_eq_true rfl),.cons ⟨t,rfl⟩ .nil⟩
noncomputable def zfy (Cs:List Addr) (f:Str) (fo:Ev->Mem->Out T) (n:Int):Ev->Mem->Out Fl:=fun σ M=>(fo σ M).bind fun x M1=>(zaJ Cs f x M1).bind fun v M2=>(zdv v (.int n) M2).bind fun z M3=>(zaM Cs f x z M3).bind fun _ M4=>.ok (.nx σ) M4
noncomputable def zew:T->List T->Mem->Out T:=fun x ts M=>match x,ts with
 | .ref a,[.lst ys]=>match M[a]? with
  | some (.lst xs)=>if xs.length + ys.length < 1000000 then .ok .non (M.set a (.lst (xs ++ ys))) else .bad
  | _=>.bad
 | .ref a,[.ref b]=>match M[a]?,M[b]? with
  | some (.lst xs),some (.lst ys)=>if xs.length + ys.length < 1000000 then .ok .non (M.set a (.lst (xs ++ ys))) else .bad
  | _,_=>.bad
 | _,_=>.bad
noncomputable def zgl (x:T):List T->Nat->Option Nat
 | [],_=>none
 | y :: ys,n=>if eqS y x = true then some n else zgl x ys (n + 1)
noncomputable def zdX:T->List T->Mem->Out T:=fun x ts M=>match ts with
 | [y]=>match zq x M with
  | some xs=>if (zbi y && xs.all zbi) = true then (match zgl y xs 0 with
   | some n=>.ok (.int (n:Int)) M
   | none=>.bad) else .bad
  | none=>.bad
 | _=>.bad
theorem zgG {x:T}:∀ {ys:List T} {k n:Nat},zgl x ys k = some n->k<=n/\n - k < ys.length/\(∀ y,ys[n - k]? = some y->eqS y x = true)/\∀ (m:Nat) y,m < n - k->ys[m]? = some y->eqS y x = false
 | [],k,n,h=>by cases h
 | y :: ys,k,n,h=>by
  unfold zgl at h
  split at h
  ·rename_i e
   cases h
   refine ⟨Q3 _,by simp,fun z hz=>?_,fun m z hm=>absurd hm (by omega)⟩
   simp at hz
   rw [← hz];exact e
  ·rename_i e
   obtain ⟨h1,h2,h3,h4⟩:=zgG h
   refine ⟨by omega,by rw [Qp];omega,fun z hz=>?_,fun m z hm hz=>?_⟩
   ·rw [show n - k = n - (k + 1) + 1 by omega,getElem?_cons_succ] at hz
    exact h3 z hz
   ·cases m with
    | zero=>simp at hz;rw [← hz];simpa using e
    | succ m=>rw [getElem?_cons_succ] at hz;exact h4 m z (by omega) hz
variable {fo:Ev->Mem->Out T} {Cs:List Addr} {ss:List Str} {cpos tpos:Pos}
section
variable {f:Str}
theorem zkz (hu:X.A.units + 64 < cLine):MtR X "list.index" (lMt XE X.K zdX):=by
 intro pins s σ H x xs v us Q I rx rs ⟨S,⟨tx,ts⟩,e,m,⟨r1,r2⟩,fin⟩
 subst e
 replace r1:Rep X.K S tx x:=r1
 replace r2:Reps X.K S ts xs:=r2
 replace fin:Fin XE (Rep X.K) X.K S (zdX tx ts S.M) Q:=fin
 unfold zdX at fin
 split at fin
 ·rename_i y
  split at fin
  ·rename_i ys q
   split at fin
   ·rename_i hs
    split at fin
    ·rename_i n hn
     rw [Qs] at hs
     obtain ⟨p,vs,rfl,hq,rs'⟩:=zC m r1 q
     obtain ⟨w1,ws,rfl,h1,h2⟩:=r2.consT
     cases h2.nilT
     cases rs with | cons a1 a2=>
     cases a2
     cases rx
     obtain ⟨its,rv,pl,hz⟩:=I.list hq
     obtain ⟨i1,i2,i3,i4⟩:=zgG hn
     rw [Nat.sub_zero] at i2 i3 i4
     obtain ⟨b1,b2⟩:=zhf h1 hs.1 rs' hs.2
     have fx:=yO h1 hs.1
     have hlen:=rv.length
     have hys:=rs'.1
     have val:∀ (k:Nat) (hk:k < its.length),∃ y',ys[k]? = some y'/\eqU w1 its[k] = eqS y' y:=fun k hk=>by
      obtain ⟨y',hy'⟩:∃ y',ys[k]? = some y':=⟨ys[k],Q0 (by omega)⟩
      obtain ⟨v',hv',rv'⟩:=rs'.get hy'
      obtain ⟨u',hu',ru'⟩:=rv.get hv'
      rw [Q0 hk] at hu'
      cases hu'
      have sy:zbi y' = true:=all_eq_true.mp hs.2 y' (Qa hy')
      exact ⟨y',hy',by rw [zic ru' (yO rv' sy),zeO rv' h1 sy hs.1]⟩
     obtain ⟨o,c,ho,hcl,hdi,hda⟩:=pl
     obtain ⟨cls,dict,data,slots⟩:=o
     dsimp only at hcl hdi hda
     subst hcl;subst hdi;subst hda
     have hnl:n < its.length:=by omega
     refine call_meets PySem.F.slot_list_index ⟨_,ho,rfl⟩ PySem.F.entry_list_index (PySem.F.args_list_index_2 _ _) (SeqAt.list_indexAt p its.toArray c none slots _ (eqU w1) n (by simpa using hnl) (by have:=zcq;rw [hlen] at hz;omega) ?_ ?_) ⟨ho,fun w hw=>zcb a1 fx rv b1 w (by simpa using hw),⟨.int (n:Int),S.H,I.tok _,⟨_,rfl⟩,fin S _ rfl (.refl m) (.int _)⟩⟩
     ·obtain ⟨y',hy',e'⟩:=val n hnl
      simp only [getElem_toArray]
      rw [e'];exact i3 y' hy'
     ·intro k hk hk2
      have hk':k < its.length:=by simpa using hk
      obtain ⟨y',hy',e'⟩:=val k hk'
      simp only [getElem_toArray]
      rw [e'];exact i4 k y' hk2 hy'
    ·exact fin.elim
   ·exact fin.elim
  ·exact fin.elim
 ·exact fin.elim
end
theorem zkE (l:Addr) (items:Array Value) (n:Nat) (b:Addr) (items2:Array Value) (n2:Nat) (dd:Option Addr) (sl:Array (Option Value)) (hc0:¬(!items.isEmpty && Builtin.List.listTooLong (items.size + items2.size)) = true) (hc1:items.size<=sizeLine) (hs2:items.size + items2.size<=sizeLine + 1) :
  Meets (Builtin.«list.extend» ⟨[.ref l,.ref b],[]⟩) (fun _ R s=>s.heap.get? l = some { cls:=.type "list",dict:=none,data:=.seq items n,slots:=#[] }/\s.heap.get? b = some { cls:=.type "list",dict:=dd,data:=.seq items2 n2,slots:=sl }/\R (.ok (.ret Value.none)) { s with heap:=s.heap.update l (Obj.mapSeq fun x=>x ++ items2),toks:=s.toks }):=
 .of_wp fun prog w A R s h=>by
  obtain ⟨hp,g,d,tk,os⟩:=s;obtain ⟨hl,hb,h⟩:=h;have f1:=AutoSeq1.idx_int;have f2:=AutoSeq1.sub_tuple_tuple;have f3:=AutoSeq1.sub_list_list;have f4:=AutoSeq1.sub_tuple_list;have f5:=AutoSeq1.sub_list_tuple
  have hz':(items ++ items2).size<=sizeLine + 1:=by rw [Array.size_append];exact hs2
  wp_walk using (wpAny_updateSeq hl rfl (hz:=hc1) (_hz':=hz')),AutoSeq1.wpAny_loadPart' hl,AutoSeq1.wpAny_loadPart' hb;exact ⟨_,rfl,h⟩
section
noncomputable def zqt (K:Frag):V->List V->Hp->VK->Prop:=fun x vs H Q=>∃ l b xs zs,x = .ref l/\vs = [.ref b]/\H l = some (.lst xs)/\SqL K H b zs/\xs.length + zs.length<=sizeLine/\Q .non (upd H l (.lst (xs ++ zs)))
theorem zi4:MtM X "list.extend" (zqt X.K):=by
 intro pins s σ H x vs v us Q I rx rv h
 obtain ⟨l,b,xs,zs,rfl,rfl,hH,hB,hz,q⟩:=h
 cases rx
 obtain ⟨u,rfl,ru⟩:=rv.one
 cases ru
 obtain ⟨z,its,n,r,hl,e⟩:=I.lstM hH
 obtain ⟨its2,r2,pl2,z2⟩:=I.list hB
 obtain ⟨⟨cls2,dd2,data2,sl2⟩,n2,ho2,hc2,hdi2,hd2⟩:=pl2
 simp only at hc2 hd2
 subst hc2 hd2
 have hl2:=r2.length
 have hsz:its.toArray.size + its2.toArray.size<=sizeLine:=by rw [Qi,Qi];omega
 have hlong:¬ (!its.toArray.isEmpty && Builtin.List.listTooLong (its.toArray.size + its2.toArray.size)) = true:=by
  rw [zhK hsz,Bool.and_false]
  exact Q4
 refine call_meets F.slot_list_extend ⟨_,e,rfl⟩ F.entry_list_extend (F.args_list_extend_2 _ _)
  (zkE l its.toArray n b its2.toArray n2 dd2 sl2 hlong (by rw [Qi];omega) (by omega)) ⟨e,ho2,?_⟩
 refine ⟨.non,_,I.lset (its':=its ++ its2) hH e (by simp) (r.append r2) ?_,rfl,q⟩
 rw [Qn]
 omega
theorem zi3:MtR X "list.extend" (lMt XE X.K zew):=by
 intro pins s σ H x xs v us Q I rx rs ⟨S,⟨tx,ts⟩,e,m,⟨r1,r2⟩,fin⟩
 subst e
 replace r1:Rep X.K S tx x:=r1
 replace r2:Reps X.K S ts xs:=r2
 replace fin:Fin XE (Rep X.K) X.K S (zew tx ts S.M) Q:=fin
 have hsl:(1000000:Nat)<=sizeLine:=by rw [sizeLine_eq];exact Nat.le_of_ble_eq_true rfl
 unfold zew at fin
 split at fin
 ·rename_i a ys
  split at fin
  ·rename_i xs0 q
   split at fin
   ·rename_i hlt
    cases r1 with
    | ref ha=>
    obtain ⟨w1,ws,rfl,h1,h2⟩:=r2.consT
    cases h2.nilT
    obtain ⟨us4,h4,rr⟩:=m.cell _ _ q
    cases h1 with
    | @lst _ p vs h l r=>
    have rr2:Reps X.K S ys vs:=⟨l,r⟩
    have st:=zdA m q (rr.app rr2)
    refine zi4 pins s σ S.H (.ref (S.α a)) [.ref p] v us Q I rx rs ⟨S.α a,p,us4,vs,rfl,rfl,h4,zdC h,by rw [← rr.1,← l];omega,?_⟩
    exact fin (S.put a (.lst (us4 ++ vs)) (.lst (xs0 ++ ys))) .non rfl st .non
   ·exact fin.elim
  ·exact fin.elim
 ·rename_i a b
  split at fin
  ·rename_i xs0 ys q qb
   split at fin
   ·rename_i hlt
    cases r1 with
    | ref ha=>
    obtain ⟨w1,ws,rfl,h1,h2⟩:=r2.consT
    cases h2.nilT
    obtain ⟨us4,h4,rr⟩:=m.cell _ _ q
    obtain ⟨us5,h5,rr5⟩:=m.cell _ _ qb
    cases h1 with
    | ref hb=>
    have st:=zdA m q (rr.app rr5)
    refine zi4 pins s σ S.H (.ref (S.α a)) [.ref (S.α b)] v us Q I rx rs ⟨S.α a,S.α b,us4,us5,rfl,rfl,h4,.inl (.inl h5),by rw [← rr.1,← rr5.1];omega,?_⟩
    exact fin (S.put a (.lst (us4 ++ us5)) (.lst (xs0 ++ ys))) .non rfl st .non
   ·exact fin.elim
  ·exact fin.elim
 ·exact fin.elim
end
structure WE (X:Cx) (XE:XK) (e:Expr) (f:Ev->Mem->Out T):Prop where
 pe:GE X XE e f
structure WT (X:Cx) (XE:XK) (e:Expr) (f:Ev->Mem->Out Bool):Prop where
 pe:GT X XE e f
structure WW (X:Cx) (XE:XK) (e:Expr) (f:Ev->Mem->Out Bool):Prop where
 pe:GW X XE e f
structure WA (X:Cx) (XE:XK) (e:List Expr) (f:Ev->Mem->Out (List T)):Prop where
 pe:GA X XE e f
structure WSs (X:Cx) (XE:XK) (e:List Stmt) (f:Ev->Mem->Out Fl):Prop where
 pe:GSs X XE e f
structure WS (X:Cx) (XE:XK) (e:Stmt) (f:Ev->Mem->Out Fl):Prop where
 pe:GS X XE e f
structure WL (X:Cx) (XE:XK) (e:Expr) (f:Ev->Mem->Out (List T)):Prop where
 pe:GL X XE e f
structure WGs (X:Cx) (XE:XK) (e:List Expr) (f:List T->Ev->Mem->Out Ev):Prop where
 pe:GGs X XE e f
structure WG (X:Cx) (XE:XK) (e:Expr) (f:T->Ev->Mem->Out Ev):Prop where
 pe:GG X XE e f
structure WO (X:Cx) (XE:XK) (e:Option Expr) (f:Ev->Mem->Out (Option Int)):Prop where
 pe:GO X XE e f
structure WI (X:Cx) (XE:XK) (tg iter:Expr) (f:Ev->Mem->Out (List T)):Prop where
 pe:GI X XE tg iter f
structure WX (X:Cx) (e:List Stmt) (f:Ev->Mem->Out Fl):Prop where
 pe:GX X e f
structure WIG (X:Cx) (XE:XK) (tg iter:Expr) (f:Ev->Mem->Out (List T × Gd)):Prop where
 pe:GIG X XE tg iter f
variable {op:CmpOp} {ga:Ev->Mem->Out (List T)} {tf:Ev->Mem->Out Bool} {g h:Ev->Mem->Out T} {es:List Expr} {i:Nat} {o:T->T->Mem->Out T}
section
variable {a b c:Expr}
theorem za (h:PE X e (zjB i)):WE X XE e (yb i):=⟨PE.imp h fun σ H Q h9=>by
 obtain ⟨S,στ,_,e,m,ev,_,fin⟩:=h9
 replace fin:Fin XE (Rep X.K) X.K S (yb i στ S.M) Q:=fin
 unfold yb at fin
 cases q:στ[i]? with
 | none=>rw [q] at fin;exact fin.elim
 | some o=>
  cases o with
  | none=>rw [q] at fin;exact fin.elim
  | some t=>
   rw [q] at fin
   obtain ⟨v,e2,r⟩:=ev.2 i t q
   exact ⟨v,e2,by rw [← e];exact fin S v rfl (.refl m) r⟩⟩
theorem yc {i j}:WE X XE (.Constant (.int i) j pos) (eC (.int i)):=⟨zcc zks fun _=>.int _⟩
theorem z3 {i j}:WE X XE (.Constant (.bool i) j pos) (eC (.bl i)):=⟨zcc zqD fun _=>.bl _⟩
theorem qQ {j}:WE X XE (.Constant .none j pos) (eC .non):=⟨zcc zoP fun _=>.non⟩
theorem yi {i j}:WE X XE (.Constant (.str i) j pos) (eC (.str i)):=⟨zcc zoL fun _=>.str _⟩
theorem zdI {n:String} (hg:Gl X x) (hm:X.mg x = none) (hv:bootBuiltins x = some (.type n)) (hn:x ≠ "__name__":=by decide) (hd:(x == ("__debug__":Str)) = false:=by decide):WE X XE (.Name x pos) (eC (.ty n)):=⟨zcc (zm9 (v:=.ty n) hg hm hv rfl hn hd) fun _=>.ty _⟩
theorem zn {op:Operator} (ho:OpR X (binaryOp op) (lR2 XE X.K o)) (ha:WE X XE a f) (hb:WE X XE b g):WE X XE (.BinOp a op b pos) (eOp o f g):=by
 have ha:=ha.pe
 have hb:=hb.pe
 exact ⟨PE.imp (zmq ho ha hb) fun _ _ _ h=>zhd h⟩
theorem zaj (ho:OpR X (compareOp op) (lR2 XE X.K o)) (ha:WE X XE a f) (hb:WE X XE b g) (hm:behindInMarks op b = false):WE X XE (.Compare a [op] [b] pos) (eOp o f g):=by
 have ha:=ha.pe
 have hb:=hb.pe
 exact ⟨PE.imp (zm7 ho ha hb hm) fun _ _ _ h=>zhd h⟩
theorem zoe {op:UnaryOp} {o:T->Mem->Out T} (ho:L2.UnR X (unaryOp op) (lR1 XE X.K o)) (ha:WE X XE a f):WE X XE (.UnaryOp op a pos) (eUn o f):=by
 have ha:=ha.pe
 exact ⟨PE.imp (zqA ho ha) fun σ H Q h=>
  LN.mono (LN.bind (f:=fun _ σ M=>f σ M) (k:=fun _ x σ M1=>o x M1) (RB:=Rep X.K) h) fun v H1 h2=>by
   obtain ⟨S,στ,a,e,m,ev,ra,fin⟩:=h2
   exact ⟨S,a.2,e,m,ra.2,fin⟩⟩
theorem yd (ho:IxR X (lR2 XE X.K o)) (ha:WE X XE a f) (hb:WE X XE b g) (hs:zgy b):WE X XE (.Subscript a b pos) (eOp o f g):=by
 have ha:=ha.pe
 have hb:=hb.pe
 exact ⟨PE.imp (zqC ho ha hb hs) fun _ _ _ h=>zhd h⟩
theorem yQ (ha:WE X XE e f) (he:∀ whole,isTrue e X.env whole = (do let v ← whole;standAt e.pos;holding [v] (truthy v)):=by intro _;rfl):WT X XE e (yo f):=by
 have ha:=ha.pe
 exact ⟨PT.imp (zoB ha he) fun σ H Q h=>
  LN.mono (LN.bind (f:=fun _ σ M=>f σ M) (k:=fun _ x σ M1=>blT x M1 fun b M2=>.ok b M2) (RB:=Rep X.K) h) fun v H1 h2=>by
   obtain ⟨S,στ,a,e,m,ev,ra,fin⟩:=h2
   obtain ⟨b,e1,_,fin⟩:=zhc ra.2 fin
   exact ⟨b,e1,by rw [← e];exact fin S b rfl (.refl m) rfl⟩⟩
theorem zj (ho:OpR X (compareOp op) (lR2 XE X.K o)) (ha:WE X XE a f) (hb:WE X XE b g) (hm:behindInMarks op b = false):WT X XE (.Compare a [op] [b] pos) (yo (eOp o f g)):=by
 have ha:=ha.pe
 have hb:=hb.pe
 exact ⟨PT.imp (zmW ho ha hb hm) fun σ H Q h=>by
  have h1:=LN.bind (f:=fun _ σ M=>eOp o f g σ M) (k:=fun _ x σ M1=>blT x M1 fun b M2=>.ok b M2) (RB:=Rep X.K) h
  refine zhd (LN.mono h1 fun v H1 h2=>?_)
  obtain ⟨S,στ,a,e,m,ev,ra,fin⟩:=h2
  obtain ⟨b,e1,_,fin⟩:=zhc ra.2 fin
  exact ⟨b,e1,by rw [← e];exact fin S b rfl (.refl m) rfl⟩⟩
variable {tg:Ev->Mem->Out Bool} {rest:List Expr}
theorem qV (ha:WT X XE a tf):WW X XE (.BoolOp .And [a] pos) tf:=by
 have ha:=ha.pe
 exact ⟨zmR ha⟩
theorem zbD (ha:WT X XE a tf):WW X XE (.BoolOp .Or [a] pos) tf:=by
 have ha:=ha.pe
 exact ⟨zoz ha⟩
theorem yZ (ha:WT X XE a tf) (hb:WW X XE (.BoolOp .And (b :: rest) pos) tg):WW X XE (.BoolOp .And (a :: b :: rest) pos) (zat tf tg):=by
 have ha:=ha.pe
 have hb:=hb.pe
 exact ⟨PW.imp (zoA ha hb) fun σ H Q h=>
  LN.mono (tif (tf:=tf) (tg:=tg) (p:=fun c σ M1=>if c = true then tg σ M1 else .ok false M1) h) fun c H1 h1=>by
   cases c with
   | true=>exact (if_pos rfl).mpr h1
   | false=>exact (if_neg Q4).mpr (zg7 h1)⟩
theorem zbm (ha:WT X XE a tf) (hb:WW X XE (.BoolOp .Or (b :: rest) pos) tg):WW X XE (.BoolOp .Or (a :: b :: rest) pos) (zb7 tf tg):=by
 have ha:=ha.pe
 have hb:=hb.pe
 exact ⟨PW.imp (zqx ha hb) fun σ H Q h=>
  LN.mono (tif (tf:=tf) (tg:=tg) (p:=fun c σ M1=>if c = true then .ok true M1 else tg σ M1) h) fun c H1 h1=>by
   cases c with
   | true=>exact (if_pos rfl).mpr (zg7 h1)
   | false=>exact (if_neg Q4).mpr h1⟩
theorem WW.gt (h:WW X XE e tf):WT X XE e tf:=⟨GW.gt h.pe⟩
theorem zb3 (ha:WT X XE a tf):WT X XE (.UnaryOp .Not a pos) (zcG tf):=by
 have ha:=ha.pe
 exact ⟨PT.imp (zoC ha) fun σ H Q h=>
  LN.mono (tif (tf:=tf) (tg:=tf) (p:=fun c σ M1=>.ok (!c) M1) h) fun c H1 h1=>zg7 h1⟩
theorem zdx {op} (h:WE X XE a f):WE X XE (.BoolOp op [a] pos) f:=by
 have h:=h.pe
 exact ⟨zoN h⟩
theorem zfV (ha:WE X XE a f) (hb:WE X XE (.BoolOp .And (b :: rest) pos) g):WE X XE (.BoolOp .And (a :: b :: rest) pos) (zih f g):=by
 have ha:=ha.pe
 have hb:=hb.pe
 exact ⟨PE.imp (zoU ha hb) fun σ H Q h=>
  LN.mono (eif (f:=f) (p:=fun b σ M2=>if b = true then g σ M2 else .ok (.bl false) M2) h) fun x H1 ⟨c,e,h1⟩=>⟨c,e,by
   cases c with
   | true=>exact (if_pos rfl).mpr h1
   | false=>exact (if_neg Q4).mpr (zjQ h1 fun _=>.bl _)⟩⟩
theorem zj7 (ha:WE X XE a f) (hb:WE X XE (.BoolOp .Or (b :: rest) pos) g):WE X XE (.BoolOp .Or (a :: b :: rest) pos) (eOr f g):=by
 have ha:=ha.pe
 have hb:=hb.pe
 exact ⟨PE.imp (zqB ha hb) fun σ H Q h=>
  LN.mono (eif (f:=f) (p:=fun b σ M2=>if b = true then .ok (.bl true) M2 else g σ M2) h) fun x H1 ⟨c,e,h1⟩=>⟨c,e,by
   cases c with
   | true=>exact (if_pos rfl).mpr (zjQ h1 fun _=>.bl _)
   | false=>exact (if_neg Q4).mpr h1⟩⟩
theorem ziO (ha:WE X XE a f):WE X XE (.UnaryOp .Not a pos) (zjX f):=by
 have ha:=ha.pe
 exact ⟨PE.imp (zoO ha) fun σ H Q h=>
  LN.mono (eif (f:=f) (p:=fun b σ M2=>.ok (.bl (!b)) M2) h) fun x H1 ⟨c,e,h1⟩=>⟨c,e,zjQ h1 fun _=>.bl _⟩⟩
theorem zog (hc:WT X XE c tf) (ha:WE X XE a f) (hb:WE X XE b g):WE X XE (.IfExp c a b pos) (eIf tf f g):=by
 have hc:=hc.pe
 have ha:=ha.pe
 have hb:=hb.pe
 exact ⟨PE.imp (zlB hc ha hb) fun σ H Q h=>
  LN.mono (LN.bind (f:=fun _ σ M=>tf σ M) (k:=fun _ c σ M1=>if c = true then f σ M1 else g σ M1) (RB:=EqR) h) fun c H1 h2=>by
   obtain ⟨S,στ,a,e,m,ev,ra,fin⟩:=h2
   have:a.2 = c:=ra.2
   subst this
   replace fin:Fin XE (Rep X.K) X.K S (if a.2 = true then f στ S.M else g στ S.M) Q:=fin
   cases q:a.2 with
   | true=>exact (if_pos rfl).mpr ⟨S,στ,(),e,m,ev,trivial,by rw [q] at fin;exact fin⟩
   | false=>exact (if_neg Q4).mpr ⟨S,στ,(),e,m,ev,trivial,by rw [q] at fin;exact fin⟩⟩
theorem zd :WA X XE [] ze:=⟨PA.imp zoV fun σ H Q h9=>by
 obtain ⟨S,στ,_,e,m,ev,_,fin⟩:=h9
 show Q [] H
 rw [← e];exact fin S [] rfl (.refl m) .nil⟩
theorem ya (ha:WE X XE e f) (hr:WA X XE es ga) (hs:noStar e = true:=by rfl):WA X XE (e :: es) (zb f ga):=by
 have ha:=ha.pe
 have hr:=hr.pe
 exact ⟨PA.imp (zna ha hr (zbE hs)) fun σ H Q h=>
  LN.mono (LN.bind (f:=fun _ σ M=>f σ M) (k:=fun _ x σ M1=>(ga σ M1).bind fun xs M2=>.ok (x :: xs) M2) (RB:=Rep X.K) h) fun v H1 h1=>
   LN.mono (LN.env (f:=ga) (LN.bind (f:=fun _ σ M=>ga σ M) (k:=fun (ax:Unit × T) ys σ M2=>.ok (ax.2 :: ys) M2) (RB:=Reps X.K) h1)) fun w H2 h2=>by
    obtain ⟨S,στ,a,e,m,ev,ra,fin⟩:=h2
    show Q (v :: w) H2
    rw [← e]
    exact fin S _ rfl (.refl m) (Reps.cons ra.1.2 ra.2)⟩
theorem zx {x1} (h:WA X XE es ga):WE X XE (.Tuple es x1 pos) (yG ga):=by
 have h:=h.pe
 exact ⟨PE.imp (zoK h) fun σ H Q h=>
  LN.mono (LN.bind (f:=fun _ σ M=>ga σ M) (k:=fun _ xs σ M1=>if xs.length<=sizeLine then .ok (T.tup xs) M1 else .bad) (RB:=Reps X.K) h) fun v H1 h2=>by
   obtain ⟨S,στ,a,e,m,ev,ra,fin⟩:=h2
   by_cases hl:a.2.length<=sizeLine
   ·replace fin:Fin XE (Rep X.K) X.K S (if a.2.length<=sizeLine then .ok (.tup a.2) S.M else .bad) Q:=fin
    rw [if_pos hl] at fin
    refine ⟨by rw [← ra.2.1];exact hl,fun p hp=>?_⟩
    subst e
    have s:=Stp.new m hp (.tup v)
    exact fin ⟨S.α,S.M,upd S.H p (.tup v),S.hid⟩ (.ref p) rfl s (.tup (.inl (.inl yF)) ra.2.1 (ra.2.grow m s.toGrow).2)
   ·replace fin:Fin XE (Rep X.K) X.K S (if a.2.length<=sizeLine then .ok (.tup a.2) S.M else .bad) Q:=fin
    rw [if_neg hl] at fin
    exact fin.elim⟩
theorem qv (h:WA X XE es ga):WL X XE (.List es pos) (yw ga):=by
 have h:=h.pe
 exact ⟨PE.imp (zoQ h) fun σ H Q h9=>by
  obtain ⟨S,στ,e,m,ev,fin⟩:=h9
  replace fin:FinL XE X.K S ((ga στ S.M).bind fun xs M1=>if xs.length<=sizeLine then .ok xs M1 else .bad) Q:=fin
  refine ⟨S,στ,(),e,m,ev,trivial,?_⟩
  show Fin XE (Reps X.K) X.K S (ga στ S.M) _
  cases q:ga στ S.M with
  | bad=>rw [q] at fin;exact fin
  | exn C fs M'=>rw [q] at fin;exact fin
  | ok xs M1=>
   rw [q] at fin
   intro S1 vs e1 s1 r1
   by_cases hl:xs.length<=sizeLine
   ·replace fin:FinL XE X.K S (if xs.length<=sizeLine then .ok xs M1 else .bad) Q:=fin
    rw [if_pos hl] at fin
    refine ⟨by rw [← r1.1];exact hl,fun p hp=>?_⟩
    have s2:=Stp.hide s1.mok hp vs
    exact (fin.later s1) (S1.hide p vs) p vs e1 s2 hp (.head _) yF (r1.grow s1.mok s2.toGrow)
   ·replace fin:FinL XE X.K S (if xs.length<=sizeLine then .ok xs M1 else .bad) Q:=fin
    rw [if_neg hl] at fin
    exact fin.elim⟩
theorem zO (h:WL X XE e ga):WE X XE e (eFz ga):=by
 have h:=h.pe
 exact ⟨PE.imp h fun σ H Q ⟨S,στ,_,e,m,ev,_,fin⟩=>⟨S,στ,e,m,ev,by
  show FinL XE X.K S (ga στ S.M) Q
  replace fin:Fin XE (Rep X.K) X.K S ((ga στ S.M).bind fun xs M1=>.ok (.lst xs) M1) Q:=fin
  cases q:ga στ S.M with
  | bad=>rw [q] at fin;exact fin
  | exn C fs M'=>rw [q] at fin;exact fin
  | ok xs M1=>
   rw [q] at fin
   intro S1 p vs e1 s1 hn hp hv r
   exact fin (S1.show S.hid) (.ref p) e1 s1.show (znD s1 hn m hp hv r)⟩⟩
theorem qH (h:WL X XE e ga):WE X XE e (eTk ga):=by
 have h:=h.pe
 exact ⟨PE.imp h fun σ H Q ⟨S,στ,_,e,m,ev,_,fin⟩=>⟨S,στ,e,m,ev,by
  show FinL XE X.K S (ga στ S.M) Q
  replace fin:Fin XE (Rep X.K) X.K S ((ga στ S.M).bind fun xs M1=>.ok (.ref M1.length) (M1 ++ [.lst xs])) Q:=fin
  cases q:ga στ S.M with
  | bad=>rw [q] at fin;exact fin
  | exn C fs M'=>rw [q] at fin;exact fin
  | ok xs M1=>
   rw [q] at fin
   intro S1 p vs e1 s1 hn hp hv r
   refine fin (S1.track p xs S.hid) (.ref p) (by show S1.M ++ _ = _;rw [e1]) (s1.track m hn hp hv r) ?_
   have this:(S1.track p xs S.hid).α S1.M.length = p:=if_pos rfl
   rw [← e1]
   have hl:S1.M.length < (S1.track p xs S.hid).M.length:=by show _ < (S1.M ++ [Cell.lst xs]).length;simp
   have r2:Rep X.K (S1.track p xs S.hid) (.ref S1.M.length) (.ref ((S1.track p xs S.hid).α S1.M.length)):=.ref hl
   rw [this] at r2
   exact r2⟩⟩
theorem zj9 {op':CmpOp} {o':T->T->Mem->Out T} (ho:OpR X (compareOp op) (lR2 XE X.K o)) (ho':OpR X (compareOp op') (lR2 XE X.K o')) (ha:WE X XE a f) (hb:WE X XE b g) (hc:WE X XE c h) (hm:lastMarks [op,op'] [b,c] = false:=by with_unfolding_all rfl):WE X XE (.Compare a [op,op'] [b,c] pos) (zfP o o' f g h):=by
 have ha:=ha.pe
 have hb:=hb.pe
 have hc:=hc.pe
 exact ⟨PE.imp (zlD ho ho' ha hb hc hm) fun _ _ _ hh=>chain hh⟩
end
variable {iter tg:Expr} {sts:List Stmt} {pos':Pos} {bd:T->Ev->Mem->Out Ev}
section
variable {a b c:Expr} {rest:List Stmt} {p q r:Ev->Mem->Out Fl}
theorem qq :WSs X XE [] zH:=⟨PSs.imp zmX fun D σ H h9=>by
 obtain ⟨S,στ,_,e,m,ev,_,fin⟩:=h9
 show D.nx σ H
 rw [← e];exact fin S (.nx σ) rfl (.refl m) (.nx ev)⟩
theorem qd (h1:WS X XE st p) (h2:WSs X XE rest q):WSs X XE (st :: rest) (yh p q):=by
 have h1:=h1.pe
 have h2:=h2.pe
 exact ⟨PSs.imp (zly h1 h2) fun _ _ _ hh=>zpg hh⟩
theorem ye (h1:WS X XE st p):WSs X XE [st] p:=by
 have h1:=h1.pe
 exact ⟨ziX h1⟩
theorem qr (he:WE X XE e f):WS X XE (.Return (some e) pos) (qF f):=by
 have he:=he.pe
 exact ⟨PS.imp (zoF he) fun D σ H hh=>
  LN.mono (LN.bind (f:=fun _ σ M=>f σ M) (k:=fun _ t σ M1=>.ok (Fl.rt t) M1) (RB:=Rep X.K) hh) fun v H1 h9=>by
   obtain ⟨S,στ,a,e,m,ev,ra,fin⟩:=h9
   rw [← e];exact fin S (.rt v) rfl (.refl m) (.rt ra.2)⟩
theorem ym (he:WE X XE e f) (hs:swapsWith e none pos.line X.env = pure false:=by rfl):WS X XE (.Expr e pos) (yB f):=by
 have he:=he.pe
 exact ⟨PS.imp (zmY he hs) fun D σ H hh=>
  LN.mono (LN.bind (f:=fun _ σ M=>f σ M) (k:=fun _ t σ M1=>.ok (Fl.nx σ) M1) (RB:=Rep X.K) hh) fun v H1 h9=>by
   obtain ⟨S,στ,a,e,m,ev,ra,fin⟩:=h9
   show D.nx σ H1
   rw [← e];exact fin S (.nx σ) rfl (.refl m) (.nx ev)⟩
theorem qu (hc:WT X XE c tf) (ha:WSs X XE sts p) (hb:WSs X XE rest q):WS X XE (.If c sts rest pos) (sIf tf p q):=by
 have hc:=hc.pe
 have ha:=ha.pe
 have hb:=hb.pe
 exact ⟨PS.imp (zqy hc ha hb) fun D σ H hh=>
  LN.mono (LN.bind (f:=fun _ σ M=>tf σ M) (k:=fun _ c σ M1=>if c = true then p σ M1 else q σ M1) (RB:=EqR) hh) fun c H1 h2=>by
   obtain ⟨S,στ,a,e,m,ev,ra,fin⟩:=h2
   have:a.2 = c:=ra.2
   subst this
   replace fin:Fin XE (FlR X.K) X.K S (if a.2 = true then p στ S.M else q στ S.M) (qM D):=fin
   cases q:a.2 with
   | true=>exact (if_pos rfl).mpr ⟨S,στ,(),e,m,ev,trivial,by rw [q] at fin;exact fin⟩
   | false=>exact (if_neg Q4).mpr ⟨S,στ,(),e,m,ev,trivial,by rw [q] at fin;exact fin⟩⟩
theorem zi (hN:X.N.Nodup) (hi:X.N[i]? = some x) (hx:Loc X.env.scope x) (he:WE X XE e f) (hs:swapsWith e (some (.Name x pos')) pos.line X.env = pure false:=by rfl) (hf:X.fn x = true\/X.env.scope.names.lookup x = some .local:=by first | exact .inl rfl | exact .inr rfl | assumption):WS X XE (.Assign [.Name x pos'] e pos) (qp i f):=by
 have he:=he.pe
 exact ⟨PS.imp (zoE hN hi hx he hs hf) fun D σ H hh=>
  LN.mono (LN.bind (f:=fun _ σ M=>f σ M) (k:=fun _ t σ M1=>.ok (Fl.nx (σ.set i (some t))) M1) (RB:=Rep X.K) hh) fun v H1 h9=>by
   obtain ⟨S,στ,a,e,m,ev,ra,fin⟩:=h9
   show D.nx (σ.set i (some v)) H1
   rw [← e];exact fin S (.nx _) rfl (.refl m) (.nx (ev.set ra.2 i))⟩
theorem zo (h:PG X tg (zha i)):WG X XE tg (yr i):=⟨PG.imp h fun v σ H Q h9=>by
 obtain ⟨S,στ,t,e,m,ev,ra,fin⟩:=h9
 show Q (σ.set i (some v)) H
 rw [← e];exact fin S _ rfl (.refl m) (ev.set ra i)⟩
theorem zb6 :WGs X XE [] zeD:=⟨PGs.imp zm3 fun v σ H Q h9=>by
 obtain ⟨S,στ,t,e,m,ev,ra,fin⟩:=h9
 cases t with
 | nil=>exact ⟨ra.nilT,by rw [← e];exact fin S _ rfl (.refl m) ev⟩
 | cons t r=>exact fin.elim⟩
theorem qG {bs:List T->Ev->Mem->Out Ev} (h:PGs X (e :: es) (zjV (lG XE X.K bd) (lGs XE X.K bs))):WGs X XE (e :: es) (yY bd bs):=⟨PGs.imp h fun v σ H Q h9=>by
 obtain ⟨S,στ,t,e,m,ev,ra,fin⟩:=h9
 cases t with
 | nil=>exact fin.elim
 | cons t r=>
  obtain ⟨v1,vs,rfl,r1,r2⟩:=ra.consT
  refine ⟨v1,vs,rfl,?_⟩
  replace fin:Fin XE (EvR X.K) X.K S ((bd t στ S.M).bind fun σ1 M1=>bs r σ1 M1) Q:=fin
  refine ⟨S,στ,t,e,m,ev,r1,?_⟩
  show Fin XE (EvR X.K) X.K S (bd t στ S.M) _
  cases o:bd t στ S.M with
  | bad=>rw [o] at fin;exact fin
  | exn C fs M'=>rw [o] at fin;exact fin
  | ok σ1 M1=>
   rw [o] at fin
   intro S1 cc e1 s1 ev1
   exact ⟨S1,σ1,r,rfl,s1.mok,ev1,r2.grow m s1.toGrow,by rw [e1];exact Fin.later s1 fin⟩⟩
theorem zeE {bs:List T->Ev->Mem->Out Ev} (h:PG X tg (zl8 X.K n (lGs XE X.K bs))):WG X XE tg (zgw n bs):=⟨PG.imp h fun v σ H Q h9=>by
 obtain ⟨S,στ,t,e,m,ev,ra,fin⟩:=h9
 cases ra with
 | @tup ts p vs h l r=>
  replace fin:Fin XE (EvR X.K) X.K S (if ts.length = n then bs ts στ S.M else .bad) Q:=fin
  by_cases hn:ts.length = n
  ·rw [if_pos hn] at fin
   exact ⟨p,vs,rfl,by rw [← e];exact h,by rw [← l];exact hn,S,στ,ts,e,m,ev,⟨l,r⟩,fin⟩
  ·rw [if_neg hn] at fin;exact fin.elim
 | _=>exact fin.elim⟩
theorem yP (he:WE X XE e f) (hg:WG X XE tg bd) (hs:swapsWithSole [tg] e pos.line X.env = pure false:=by rfl) (hw:swappedStores [tg] e X.env = pure none:=by rfl) (h1:(assignEach [tg] X.env).map (·.2) = [assign tg X.env]:=by rfl):WS X XE (.Assign [tg] e pos) (zaI f bd):=by
 have he:=he.pe
 have hg:=hg.pe
 exact ⟨PS.imp (zoH he hg hs hw h1) fun D σ H hh=>
  LN.mono (LN.bind (f:=fun _ σ M=>f σ M) (k:=fun _ t σ M1=>(bd t σ M1).bind fun σ1 M2=>.ok (Fl.nx σ1) M2) (RB:=Rep X.K) hh) fun v H1 ⟨S,στ,a,e,m,ev,ra,fin⟩=>
   zqJ ⟨S,στ,a.2,e,m,ev,ra.2,fin⟩⟩
theorem zai (hp:PassesOwn (model X.prog X.w) X.A X.env X.xe) (hc:X.calm = true) (hi:WI X XE tg iter ga) (hg:WG X XE tg bd) (hb:WSs X XE sts p) (hs:∀ x,foldedSetIterable iter X.env x = pure x:=by intro _;rfl):WS X XE (.For tg iter sts [] pos) (zbP ga bd p):=by
 have hi:=hi.pe
 have hg:=hg.pe
 have hb:=hb.pe
 exact ⟨PS.imp (zkl hp hc hi hg hb hs) fun D σ H hh=>by
  refine LN.mono (LN.bind (f:=fun _ σ M=>ga σ M) (k:=fun _ xs σ M1=>forL bd p xs σ M1) (RB:=zdw X.K) hh) fun J H1 h1=>?_
  obtain ⟨S,στ,a,e,m,ev,ra,fin⟩:=h1
  refine ⟨fun i n σ H=>∃ S στ,S.H = H/\MemOk X.K S/\EvR X.K S στ σ/\zdw X.K S a.2 J/\n = a.2.length - i/\i<=a.2.length/\Fin XE (FlR X.K) X.K S (forL bd p (a.2.drop i) στ S.M) (qM D),⟨_,S,στ,e,m,ev,ra.2,rfl,Nat.zero_le _,fin⟩,?_⟩
  rintro i n σ1 H2 ⟨S1,στ1,e1,m1,ev1,it1,en,hi1,fin1⟩
  subst e1
  obtain ⟨it2,it3⟩:=it1 S1 (.refl m1)
  by_cases hl:i < a.2.length
  ·have eq:a.2.drop i = a.2[i] :: a.2.drop (i + 1):=List.drop_eq_getElem_cons hl
   rw [eq] at fin1
   obtain ⟨go,yl⟩:=it2 i a.2[i] (by simp [hl])
   refine .inr ⟨go,fun σ' H'=>∃ S στ,S.H = H'/\MemOk X.K S/\EvR X.K S στ σ'/\zdw X.K S a.2 J/\Fin XE (FlR X.K) X.K S (forL bd p (a.2.drop (i + 1)) στ S.M) (qM D),?_,fun x H' hy=>?_⟩
   ·rintro σ' H' ⟨S2,στ2,e2,m2,ev2,it4,fin2⟩
    exact ⟨a.2.length - (i + 1),by omega,S2,στ2,e2,m2,ev2,it4,rfl,hl,fin2⟩
   ·obtain ⟨S2,e2,eM,s2,r2⟩:=yl x H' hy
    replace fin1:Fin XE (FlR X.K) X.K S1 ((bd a.2[i] στ1 S1.M).bind fun σ1 M1=>(p σ1 M1).bind (zV (forL bd p (a.2.drop (i + 1))))) (qM D):=fin1
    refine ⟨S2,στ1,a.2[i],e2,s2.mok,Mo.mo m1 s2 ev1,r2,?_⟩
    rw [eM]
    cases o:bd a.2[i] στ1 S1.M with
    | bad=>rw [o] at fin1;exact fin1
    | exn C fs M'=>rw [o] at fin1;exact Fin.later s2 fin1
    | ok σ3 M3=>
     rw [o] at fin1
     intro S3 σ3v e3 s3 ev3
     have s13:=s2.trans s3
     refine ⟨S3,σ3,(),rfl,s3.mok,ev3,trivial,?_⟩
     show Fin XE (FlR X.K) X.K S3 (p σ3 S3.M) _
     rw [e3]
     replace fin1:Fin XE (FlR X.K) X.K S1 ((p σ3 M3).bind (zV (forL bd p (a.2.drop (i + 1))))) (qM D):=fin1
     cases o2:p σ3 M3 with
     | bad=>rw [o2] at fin1;exact fin1
     | exn C fs M'=>rw [o2] at fin1;exact Fin.later s13 fin1
     | ok fl M4=>
      rw [o2] at fin1
      intro S4 fv e4 s4 r4
      have s14:=s13.trans s4
      cases r4 with
      | nx r4=>exact ⟨S4,_,rfl,s4.mok,r4,Mo.mo m1 s14 it1,by rw [e4];exact Fin.later s14 fin1⟩
      | ct r4=>exact ⟨S4,_,rfl,s4.mok,r4,Mo.mo m1 s14 it1,by rw [e4];exact Fin.later s14 fin1⟩
      | bk r4=>exact fin1 S4 (.nx _) e4 s14 (.nx r4)
      | rt r4=>exact fin1 S4 (.rt _) e4 s14 (.rt r4)
  ·rw [List.drop_eq_nil_of_le (by omega)] at fin1
   refine .inl ⟨it3 i (by omega),?_⟩
   exact fin1 S1 (.nx σ1) rfl (.refl m1) (.nx ev1)⟩
theorem zgA (hp:PassesOwn (model X.prog X.w) X.A X.env X.xe) (hc:WT X XE c tf) (hb:WSs X XE sts p):WS X XE (.While c sts [] pos) (zbO tf p):=by
 have hc:=hc.pe
 have hb:=hb.pe
 exact ⟨PS.imp (zlz hp hc hb) fun D σ H hh=>by
  obtain ⟨S,στ,_,e,m,ev,_,fin⟩:=hh
  replace fin:Fin XE (FlR X.K) X.K S (zbO tf p στ S.M) (qM D):=fin
  have ex:∃ n,Fin XE (FlR X.K) X.K S (whileN tf p n στ S.M) (qM D):=by
   unfold zbO at fin
   split at fin
   ·exact ⟨_,fin⟩
   ·exact fin.elim
  obtain ⟨n,fin⟩:=ex
  refine ⟨fun n σ H=>∃ S στ,S.H = H/\MemOk X.K S/\EvR X.K S στ σ/\Fin XE (FlR X.K) X.K S (whileN tf p n στ S.M) (qM D),⟨n,S,στ,e,m,ev,fin⟩,?_⟩
  rintro n σ1 H1 ⟨S1,στ1,e1,m1,ev1,fin1⟩
  subst e1
  cases n with
  | zero=>exact fin1.elim
  | succ n=>
   replace fin1:Fin XE (FlR X.K) X.K S1 ((tf στ1 S1.M).bind fun b M1=>if b = true then (p στ1 M1).bind (zV (whileN tf p n)) else .ok (.nx στ1) M1) (qM D):=fin1
   refine ⟨S1,στ1,(),rfl,m1,ev1,trivial,?_⟩
   show Fin XE EqR X.K S1 (tf στ1 S1.M) _
   cases o:tf στ1 S1.M with
   | bad=>rw [o] at fin1;exact fin1
   | exn C fs M'=>rw [o] at fin1;exact fin1
   | ok b M2=>
    rw [o] at fin1
    intro S2 b2 e2 s2 eb
    have eb':b = b2:=eb
    subst eb'
    replace fin1:Fin XE (FlR X.K) X.K S1 (if b = true then (p στ1 M2).bind (zV (whileN tf p n)) else .ok (.nx στ1) M2) (qM D):=fin1
    cases b with
    | false=>exact (if_neg Q4).mpr (fin1 S2 (.nx σ1) e2 s2 (.nx (Mo.mo m1 s2 ev1)))
    | true=>
     refine (if_pos rfl).mpr ⟨fun σ' H'=>∃ S στ,S.H = H'/\MemOk X.K S/\EvR X.K S στ σ'/\Fin XE (FlR X.K) X.K S (whileN tf p n στ S.M) (qM D),fun σ' H' h=>⟨n,Nat.lt_succ_self _,h⟩,?_⟩
     rw [if_pos rfl] at fin1
     refine ⟨S2,στ1,(),rfl,s2.mok,Mo.mo m1 s2 ev1,trivial,?_⟩
     show Fin XE (FlR X.K) X.K S2 (p στ1 S2.M) _
     rw [e2]
     cases o2:p στ1 M2 with
     | bad=>rw [o2] at fin1;exact fin1
     | exn C fs M'=>rw [o2] at fin1;exact Fin.later s2 fin1
     | ok fl M4=>
      rw [o2] at fin1
      intro S4 fv e4 s4 r4
      have s14:=s2.trans s4
      cases r4 with
      | nx r4=>exact ⟨S4,_,rfl,s4.mok,r4,by rw [e4];exact Fin.later s14 fin1⟩
      | ct r4=>exact ⟨S4,_,rfl,s4.mok,r4,by rw [e4];exact Fin.later s14 fin1⟩
      | bk r4=>exact fin1 S4 (.nx _) e4 s14 (.nx r4)
      | rt r4=>exact fin1 S4 (.rt _) e4 s14 (.rt r4)⟩
end
variable {F:List T->Mem->Out T}
section
variable {k:Nat} {p:Pos}
theorem yg (C:CalT X.prog X.w X.K X.mg X.base k x ps F) (hr:Room k X.A) (hg:Gl X x) (ha:WA X XE (e :: es) ga) (hdb:(x == ("__debug__":Str)) = false:=by decide) (he:noStar e = true:=by rfl) (hpl:es.all noStar = true:=by rfl):WE X XE (.Call (.Name x p) (e :: es) [] pos) (yf F ga):=by
 have ha:=ha.pe
 exact ⟨PE.imp (zoS C.cal hr hg ha hdb (zbE he) (zdK hpl)) fun σ H Q hh=>
  LN.mono (LN.bind (f:=fun _ σ M=>ga σ M) (k:=fun _ ts σ M1=>F ts M1) (RB:=Reps X.K) hh) fun vs H1 h9=>by
   obtain ⟨S,στ,a,e,m,ev,ra,fin⟩:=h9
   rw [append_nil]
   refine ⟨S,a.2,e,m,ra.2,?_⟩
   show Fin E0 (Rep X.K) X.K S (F a.2 S.M) Q
   replace fin:Fin XE (Rep X.K) X.K S (F a.2 S.M) Q:=fin
   cases o:F a.2 S.M with
   | bad=>rw [o] at fin;exact fin
   | exn C' fs M'=>exact absurd o (C.nox _ _ _ _ _)
   | ok t M1=>rw [o] at fin;exact fin⟩
theorem yk {id:String} (hc:CallR X (.builtin id) (lRN XE X.K F)) (hg:Gl X x) (hm:X.mg x = none) (hv:bootBuiltins x = some (.builtin id)) (ha:WA X XE (e :: es) ga) (hn:x ≠ "__name__":=by decide) (hdb:(x == ("__debug__":Str)) = false:=by decide) (he:noStar e = true:=by rfl) (hpl:es.all noStar = true:=by rfl):WE X XE (.Call (.Name x p) (e :: es) [] pos) (yf F ga):=by
 have ha:=ha.pe
 exact ⟨PE.imp (zlE hc hg hm hv ha hn hdb (zbE he) (zdK hpl)) fun σ H Q hh=>
  LN.mono (LN.bind (f:=fun _ σ M=>ga σ M) (k:=fun _ ts σ M1=>F ts M1) (RB:=Reps X.K) hh) fun vs H1 ⟨S,στ,a,e,m,ev,ra,fin⟩=>⟨S,a.2,e,m,ra.2,fin⟩⟩
theorem za3 {id:String} (hc:CallR X (.type id) (lRN XE X.K F)) (hg:Gl X x) (hm:X.mg x = none) (hv:bootBuiltins x = some (.type id)) (ha:WA X XE (e :: es) ga) (hn:x ≠ "__name__":=by decide) (hdb:(x == ("__debug__":Str)) = false:=by decide) (he:noStar e = true:=by rfl) (hpl:es.all noStar = true:=by rfl):WE X XE (.Call (.Name x p) (e :: es) [] pos) (yf F ga):=by
 have ha:=ha.pe
 exact ⟨PE.imp (zkt hc hg hm hv ha hn hdb (zbE he) (zdK hpl)) fun σ H Q hh=>
  LN.mono (LN.bind (f:=fun _ σ M=>ga σ M) (k:=fun _ ts σ M1=>F ts M1) (RB:=Reps X.K) hh) fun vs H1 ⟨S,στ,a,e,m,ev,ra,fin⟩=>⟨S,a.2,e,m,ra.2,fin⟩⟩
end
section
variable {a b c:Expr} {p:Pos}
theorem zb5 (he:WE X XE e f):WI X XE tg e (zcD f):=⟨zpH he.pe⟩
theorem qN (hg:Gl X "range") (hm:X.mg "range" = none) (ha:WA X XE [a] ga) (hs:starEach [a] X.env = [(false,eval a X.env)]:=by rfl):WI X XE tg (.Call (.Name "range" p) [a] [] pos) (yV ga):=by
 have ha:=ha.pe
 exact ⟨PI.imp (zkq hg hm ha hs) fun σ H R hh=>
  LN.mono (LN.bind (f:=fun _ σ M=>ga σ M) (k:=fun _ ts σ M1=>zcA ts M1) (RB:=Reps X.K) hh) fun vs H1 h9=>by
   obtain ⟨S,στ,a,e,m,ev,ra,fin⟩:=h9
   obtain ⟨u,ts⟩:=a
   have rr:Reps X.K S ts vs:=ra.2
   replace fin:Fin XE (zdw X.K) X.K S (zcA ts S.M) R:=fin
   unfold zcA at fin
   split at fin
   ·rename_i j
    obtain ⟨v,vs',rfl,r1,r2⟩:=rr.consT
    cases r1
    rw [r2.nilT]
    split at fin
    ·rename_i hj
     exact ⟨j,rfl,hj.1,hj.2,by rw [← e];exact fin S _ rfl (.refl m) (zhY _ _ _ _)⟩
    ·exact fin.elim
   ·exact fin.elim⟩
theorem zjw (hg:Gl X "range") (hm:X.mg "range" = none) (ha:WA X XE [a,b] ga) (hs:starEach [a,b] X.env = [(false,eval a X.env),(false,eval b X.env)]:=by rfl) (hs2:starEach [b] X.env = [(false,eval b X.env)]:=by rfl):WI X XE tg (.Call (.Name "range" p) [a,b] [] pos) (zgn ga):=by
 have ha:=ha.pe
 exact ⟨PI.imp (zkp hg hm ha hs hs2) fun σ H R hh=>
  LN.mono (LN.bind (f:=fun _ σ M=>ga σ M) (k:=fun _ ts σ M1=>zfe ts M1) (RB:=Reps X.K) hh) fun vs H1 h9=>by
   obtain ⟨S,στ,a,e,m,ev,ra,fin⟩:=h9
   obtain ⟨u,ts⟩:=a
   have rr:Reps X.K S ts vs:=ra.2
   replace fin:Fin XE (zdw X.K) X.K S (zfe ts S.M) R:=fin
   unfold zfe at fin
   split at fin
   ·rename_i i j
    obtain ⟨v,vs',rfl,r1,r2⟩:=rr.consT
    obtain ⟨v2,vs2,rfl,r3,r4⟩:=r2.consT
    cases r1
    cases r3
    rw [r4.nilT]
    split at fin
    ·rename_i hj
     exact ⟨i,j,rfl,⟨hj.1.1,hj.1.2,hj.2.1,hj.2.2⟩,by rw [← e];exact fin S _ rfl (.refl m) (zhY _ _ _ _)⟩
    ·exact fin.elim
   ·exact fin.elim⟩
end
section
theorem zaK {elt:Expr} {ifs:List Expr} {scope:Scope} {cl:List (Str × Addr)} {tgs:List Str} {caps:List (Str × Nat)} {cond:Ev->Mem->Out Bool} (hi:WI X XE tg iter ga) (cb:CB X scope cl caps) (hg:∀ ex s0 H0,WG (X.block scope cl (tgs ++ caps.map (·.1)) ex s0 H0) XE tg bd) (hif:∀ ex s0 H0,PTs (X.block scope cl (tgs ++ caps.map (·.1)) ex s0 H0) ifs (lT XE X.K cond)) (hel:∀ ex s0 H0,WE (X.block scope cl (tgs ++ caps.map (·.1)) ex s0 H0) XE elt f) (hs:∀ x,foldedSetIterable iter X.env x = pure x:=by intro _;rfl):WL X XE (.ListComp elt [⟨tg,iter,ifs,0⟩] scope pos) (zbc ga bd cond f tgs caps):=by
 have hi:=hi.pe
 have hg:=fun ex s0 H0=>(hg ex s0 H0).pe
 have hel:=fun ex s0 H0=>(hel ex s0 H0).pe
 exact ⟨PE.imp (zm6 (tgs:=tgs) (g:=lG XE X.K bd) (tc:=lT XE X.K cond) (te:=lE XE X.K f) cb.hc hi cb.hclos cb.hcell cb.hkind cb.hnames cb.hcl cb.hhas cb.hcap hg hif hel hs) fun σ H Q hh=>zmf hh⟩
theorem zbx :PTs X [] (lT XE X.K zX):=znG 
theorem zlg {c:Expr} (h:WT X XE c tf):PTs X [c] (lT XE X.K tf):=znF h.pe
end
section
variable {a b:Expr} {p:Pos}
theorem zhj {op:Operator} {o:T->T->Mem->Out (List T)} (ho:OpR X (binaryOp op) (zjP XE X.K o)) (ha:WE X XE a f) (hb:WE X XE b g):WL X XE (.BinOp a op b pos) (lOp o f g):=by
 have ha:=ha.pe
 have hb:=hb.pe
 exact ⟨PE.imp (zmq ho ha hb) fun σ H Q ⟨S,στ,e,m,ev,fin⟩=>
  LN.mono (LNL.bind (f:=fun (_:Unit) σ M=>f σ M) (k:=fun _ x σ M1=>(g σ M1).bind fun y M2=>o x y M2) (RA:=UnR) (RB:=Rep X.K) ⟨S,στ,(),e,m,ev,trivial,fin⟩) fun v H1 h1=>
   LN.mono (LN.env (f:=g) (LNL.bind (f:=fun _ σ M=>g σ M) (k:=fun (ax:Unit × T) y σ M2=>o ax.2 y M2) (RB:=Rep X.K) h1)) fun w H2 h2=>by
    obtain ⟨S,στ,a,e,m,ev,ra,fin⟩:=h2
    exact ⟨S,(a.1.2,a.2),e,m,⟨ra.1.2,ra.2⟩,fin⟩⟩
end
section
theorem zaD {o i:Expr} {st:T->T->T->Mem->Out Unit} (ho:WE X XE o f) (hi:WE X XE i g) (hs:zd9 X (zgk XE X.K st)) (ha:∀ v,assign (.Subscript o i pos) X.env v = (do
 let ov ← holding [v] (eval o X.env)
 let iv ← holding [v,ov] (eval i X.env)
 standAt pos
 holding [v,ov,iv] (setItem ov iv v)
 release [v,ov,iv] []):=by intro _;rfl):WG X XE (.Subscript o i pos) (za2 st f g):=by
 have ho:=ho.pe
 have hi:=hi.pe
 exact ⟨PG.imp (zoJ ho hi hs ha) fun v σ H Q hh=>by
  have h1:LN XE (EvR X.K) X.K (Rep X.K) (fun t σ M=>(f σ M).bind fun o M1=>(g σ M1).bind fun i M2=>(st o i t M2).bind fun _ M3=>.ok σ M3) v σ H Q:=hh
  refine LN.mono (LN.env (f:=f) (LN.bind (f:=fun _ σ M=>f σ M) (k:=fun t o σ M1=>(g σ M1).bind fun i M2=>(st o i t M2).bind fun _ M3=>.ok σ M3) (RB:=Rep X.K) h1)) fun ov H1 h2=>?_
  refine LN.mono (LN.env (f:=g) (LN.bind (f:=fun _ σ M=>g σ M) (k:=fun (to:T × T) i σ M2=>(st to.2 i to.1 M2).bind fun _ M3=>.ok σ M3) (RB:=Rep X.K) h2)) fun iv H2 h3=>?_
  obtain ⟨S,στ,a,e,m,ev,ra,fin⟩:=h3
  refine ⟨S,((a.1.2,a.2),a.1.1),e,m,⟨⟨ra.1.2,ra.2⟩,ra.1.1⟩,?_⟩
  show Fin XE UnR X.K S (st a.1.2 a.2 a.1.1 S.M) _
  replace fin:Fin XE (EvR X.K) X.K S ((st a.1.2 a.2 a.1.1 S.M).bind fun _ M3=>.ok στ M3) Q:=fin
  cases o:st a.1.2 a.2 a.1.1 S.M with
  | bad=>rw [o] at fin;exact fin
  | exn C fs M'=>rw [o] at fin;exact fin
  | ok b M1=>
   rw [o] at fin
   intro S1 c e1 s1 _
   exact fin S1 σ e1 s1 (Mo.mo m s1 ev)⟩
theorem qL {o:Expr} {apos:Pos} (h:PE X (.Call (.Attribute o "append" apos) [e] [] cpos) (tBM X.K "list" zf8 (lE XE X.K f) (lA XE X.K ga))):WE X XE (.Call (.Attribute o "append" apos) [e] [] cpos) (qT zN (eUn yD f) ga):=⟨PE.imp h fun σ H Q hh=>by
 obtain ⟨S,στ,_,e0,m,ev,_,fin⟩:=hh
 replace fin:Fin XE (Rep X.K) X.K S (((f στ S.M).bind fun x M1=>yD x M1).bind fun x M1=>(ga στ M1).bind fun ts M2=>zN x ts M2) Q:=fin
 refine ⟨S,στ,(),e0,m,ev,trivial,?_⟩
 show Fin XE (Rep X.K) X.K S (f στ S.M) _
 cases o1:f στ S.M with
 | bad=>rw [o1] at fin;exact fin
 | exn C fs M'=>rw [o1] at fin;exact fin
 | ok x M1=>
  rw [o1] at fin
  intro S1 v e1 s1 r1
  replace fin:Fin XE (Rep X.K) X.K S ((yD x M1).bind fun x M1=>(ga στ M1).bind fun ts M2=>zN x ts M2) Q:=fin
  unfold yD at fin
  cases q:zq x M1 with
  | none=>rw [q] at fin;exact fin.elim
  | some xs=>
   rw [q] at fin
   replace fin:Fin XE (Rep X.K) X.K S ((ga στ M1).bind fun ts M2=>zN x ts M2) Q:=fin
   obtain ⟨p,vs,rfl,hq,_⟩:=zC s1.mok r1 (by rw [e1];exact q)
   refine ⟨.inl ⟨rfl,vs,hq⟩,S1,στ,(),rfl,s1.mok,Mo.mo m s1 ev,trivial,?_⟩
   show Fin XE (Reps X.K) X.K S1 (ga στ S1.M) _
   rw [e1]
   cases o2:ga στ M1 with
   | bad=>rw [o2] at fin;exact fin
   | exn C fs M'=>rw [o2] at fin;exact Fin.later s1 fin
   | ok ts M2=>
    rw [o2] at fin
    intro S2 ws e2 s2 r2
    replace fin:Fin XE (Rep X.K) X.K S (zN x ts M2) Q:=fin
    have fin2:=Fin.later (s1.trans s2) fin
    unfold zN at fin2
    split at fin2
    ·split at fin2
     ·rename_i a t _ ys qy
      split at fin2
      ·rename_i hz
       obtain ⟨w,ws',rfl,r3,r4⟩:=r2.consT
       rw [r4.nilT]
       have r1':=r1.grow s1.mok s2.toGrow
       cases r1' with
       | ref ha2=>
       obtain ⟨us,q3,rs⟩:=s2.mok.cell a _ (by rw [e2];exact qy)
       refine ⟨S2.α a,us,w,rfl,rfl,q3,by rw [← rs.1];exact hz,?_⟩
       exact fin2 (S2.put a (.lst (us ++ [w])) (.lst (ys ++ [t]))) .non (by show S2.M.set a _ = _;rw [e2]) (zdA s2.mok (by rw [e2];exact qy) (rs.app (.cons r3 .nil))) .non
      ·exact fin2.elim
     ·exact fin2.elim
    ·exact fin2.elim⟩
end
section
theorem zb4 :WO X XE none zc9:=⟨PO.imp zm2 fun σ H Q h9=>by
 obtain ⟨S,στ,_,e,m,ev,_,fin⟩:=h9
 show Q none H
 rw [← e];exact fin S none rfl (.refl m) rfl⟩
theorem zby (h:WE X XE e f):WO X XE (some e) (zcH f):=by
 have h:=h.pe
 exact ⟨PO.imp (zm1 h) fun σ H Q hh=>
  LN.mono (LN.bind (f:=fun _ σ M=>f σ M) (k:=fun _ x σ M1=>zlT x M1) (RB:=Rep X.K) hh) fun v H1 h9=>by
   obtain ⟨S,στ,a,e,m,ev,ra,fin⟩:=h9
   obtain ⟨u,t⟩:=a
   have r:Rep X.K S t v:=ra.2
   replace fin:Fin XE EqR X.K S (zlT t S.M) Q:=fin
   cases r with
   | int i=>exact ⟨i,rfl,by rw [← e];exact fin S (some i) rfl (.refl m) rfl⟩
   | _=>exact fin.elim⟩
theorem zfs {lo hi:Option Expr} {q:Ev->Mem->Out (Option Int)} (he:WE X XE e f) (hl:WO X XE lo p) (hu:WO X XE hi q):WE X XE (.Subscript e (.Slice lo hi none p2) pos) (eSl f p q):=by
 have he:=he.pe
 have hl:=hl.pe
 have hu:=hu.pe
 exact ⟨PE.imp (zhI zop he hl hu) fun σ H Q hh=>
  LN.mono (LN.bind (f:=fun _ σ M=>f σ M) (k:=fun _ x σ M1=>(p σ M1).bind fun lo M2=>(q σ M2).bind fun hi M3=>zfk x lo hi M3) (RB:=Rep X.K) hh) fun v H1 h1=>
   LN.mono (LN.env (f:=p) (LN.bind (f:=fun _ σ M=>p σ M) (k:=fun (ax:Unit × T) lo σ M2=>(q σ M2).bind fun hi M3=>zfk ax.2 lo hi M3) (RB:=EqR) h1)) fun l H2 h2=>
    LN.mono (LN.env (f:=q) (LN.bind (f:=fun _ σ M=>q σ M) (k:=fun (ax:(Unit × T) × Option Int) hi σ M3=>zfk ax.1.2 ax.2 hi M3) (RB:=EqR) h2)) fun w H3 h9=>by
     obtain ⟨S,στ,a,e,m,ev,ra,fin⟩:=h9
     have e1:a.1.2 = l:=ra.1.2
     have e2:a.2 = w:=ra.2
     exact ⟨S,a.1.1.2,e,m,ra.1.1.2,by rw [← e1,← e2];exact fin⟩⟩
end
section
theorem zli {o i:Expr} {get op:T->T->Mem->Out T} {st:T->T->T->Mem->Out Unit} {bop:Operator} (ho:WE X XE o f) (hi:WE X XE i g) (hg:zix X (lR2 XE X.K get)) (he:WE X XE e h) (hp:PIp X bop (lR2 XE X.K op)) (hs:zd9 X (zgk XE X.K st)) (ha:∀ ov iv new,augStore i ov iv new = (do holding [new,ov,iv] (setItem ov iv new);release [new,ov,iv] [];pure .next):=by intros;rfl):WS X XE (.AugAssign (.Subscript o i tpos) bop e pos) (zg4 get op st f g h):=by
 have ho:=ho.pe
 have hi:=hi.pe
 have he:=he.pe
 exact ⟨PS.imp (zmZ ho hi hg he hp hs ha) fun D σ H hh=>by
  refine LN.mono (LN.bind (f:=fun _ σ M=>f σ M) (k:=fun _ o σ M1=>(g σ M1).bind fun i M2=>(get o i M2).bind fun x M3=>(h σ M3).bind fun y M4=>(op x y M4).bind fun z M5=>(st o i z M5).bind fun _ M6=>.ok (Fl.nx σ) M6) (RB:=Rep X.K) hh) fun ov H1 h1=>?_
  refine LN.mono (LN.env (f:=g) (LN.bind (f:=fun _ σ M=>g σ M) (k:=fun (a:Unit × T) i σ M2=>(get a.2 i M2).bind fun x M3=>(h σ M3).bind fun y M4=>(op x y M4).bind fun z M5=>(st a.2 i z M5).bind fun _ M6=>.ok (Fl.nx σ) M6) (RB:=Rep X.K) h1)) fun iv H2 h2=>?_
  have h3:=LN.bind (f:=fun (a:(Unit × T) × T) _ M=>get a.1.2 a.2 M) (k:=fun a x σ M3=>(h σ M3).bind fun y M4=>(op x y M4).bind fun z M5=>(st a.1.2 a.2 z M5).bind fun _ M6=>.ok (Fl.nx σ) M6) (RB:=Rep X.K) h2
  obtain ⟨S,a,e,m,ra,fin⟩:=LN.l0 (k:=fun (a:(Unit × T) × T) M=>get a.1.2 a.2 M) h3
  refine ⟨S,(a.1.2,a.2),e,m,⟨ra.1.2,ra.2⟩,fin.mono fun xv H3 h4=>?_⟩
  refine LN.mono (LN.env (f:=h) (LN.bind (f:=fun _ σ M=>h σ M) (k:=fun (a:((Unit × T) × T) × T) y σ M4=>(op a.2 y M4).bind fun z M5=>(st a.1.1.2 a.1.2 z M5).bind fun _ M6=>.ok (Fl.nx σ) M6) (RB:=Rep X.K) h4)) fun yv H4 h5=>?_
  have h6:=LN.bind (f:=fun (a:(((Unit × T) × T) × T) × T) _ M=>op a.1.2 a.2 M) (k:=fun a z σ M5=>(st a.1.1.1.2 a.1.1.2 z M5).bind fun _ M6=>.ok (Fl.nx σ) M6) (RB:=Rep X.K) h5
  obtain ⟨S5,a5,e5,m5,ra5,fin5⟩:=LN.l0 (k:=fun (a:(((Unit × T) × T) × T) × T) M=>op a.1.2 a.2 M) h6
  refine ⟨S5,(a5.1.2,a5.2),e5,m5,⟨ra5.1.2,ra5.2⟩,fin5.mono fun zv H5 h7=>?_⟩
  obtain ⟨S6,στ,a6,e6,m6,ev6,ra6,fin6⟩:=h7
  refine ⟨S6,((a6.1.1.1.1.2,a6.1.1.1.2),a6.2),e6,m6,⟨⟨ra6.1.1.1.1.2,ra6.1.1.1.2⟩,ra6.2⟩,?_⟩
  show Fin XE UnR X.K S6 (st a6.1.1.1.1.2 a6.1.1.1.2 a6.2 S6.M) _
  replace fin6:Fin XE (FlR X.K) X.K S6 ((st a6.1.1.1.1.2 a6.1.1.1.2 a6.2 S6.M).bind fun _ M6=>.ok (Fl.nx στ) M6) (qM D):=fin6
  cases q:st a6.1.1.1.1.2 a6.1.1.1.2 a6.2 S6.M with
  | bad=>rw [q] at fin6;exact fin6
  | exn C fs M'=>rw [q] at fin6;exact fin6
  | ok b M1=>
   rw [q] at fin6
   intro S7 c e7 s7 _
   exact fin6 S7 (.nx σ) e7 s7 (.nx (Mo.mo m6 s7 ev6))⟩
end
section
theorem zmB:WE X XE (.Dict [] [] pos) zjY:=⟨PE.imp zlC fun σ H Q ⟨S,στ,_,e,m,ev,_,fin⟩ p hp=>by
 subst e
 have s1:Stp X.K S (S.more p (.dK []) (.dic [])):=Stp.more m hp _ _ ⟨[],yF,.nil⟩
 have r1:Rep X.K (S.more p (.dK []) (.dic [])) (.ref S.M.length) (.ref p):=by
  have h0:S.M.length < (S.M ++ [Cell.dic []]).length:=by simp
  have:=Rep.ref (K:=X.K) (S:=S.more p (.dK []) (.dic [])) (a:=S.M.length) h0
  have e1:(S.more p (.dK []) (.dic [])).α S.M.length = p:=if_pos rfl
  rw [e1] at this
  exact this
 exact fin (S.more p (.dK []) (.dic [])) (.ref p) rfl s1 r1⟩
theorem zcQ {o e:Expr} {es:List Expr} {n:Str} {Ty:String} {f:Ev->Mem->Out T} {ga:Ev->Mem->Out (List T)} {chk:T->Mem->Bool} {F:T->List T->Mem->Out T} {apos cpos:Pos} (hc:∀ {K:Frag} {S:Sit},MemOk K S->∀ {t:T} {x:V},Rep K S t x->chk t S.M = true->tyV K Ty x S.H) (h:PE X (.Call (.Attribute o n apos) (e :: es) [] cpos) (tBM X.K Ty (lMt XE X.K F) (lE XE X.K f) (lA XE X.K ga))):WE X XE (.Call (.Attribute o n apos) (e :: es) [] cpos) (zaA chk F f ga):=⟨PE.imp h fun σ H Q hh=>by
 obtain ⟨S,στ,_,e0,m,ev,_,fin⟩:=hh
 replace fin:Fin XE (Rep X.K) X.K S ((f στ S.M).bind fun x M1=>if chk x M1 = true then (ga στ M1).bind fun ts M2=>F x ts M2 else .bad) Q:=fin
 refine ⟨S,στ,(),e0,m,ev,trivial,?_⟩
 show Fin XE (Rep X.K) X.K S (f στ S.M) _
 cases o1:f στ S.M with
 | bad=>rw [o1] at fin;exact fin
 | exn C fs M'=>rw [o1] at fin;exact fin
 | ok x M1=>
  rw [o1] at fin
  intro S1 v e1 s1 r1
  replace fin:Fin XE (Rep X.K) X.K S (if chk x M1 = true then (ga στ M1).bind fun ts M2=>F x ts M2 else .bad) Q:=fin
  split at fin
  ·rename_i hk
   refine ⟨hc s1.mok r1 (by rw [e1];exact hk),S1,στ,(),rfl,s1.mok,Mo.mo m s1 ev,trivial,?_⟩
   show Fin XE (Reps X.K) X.K S1 (ga στ S1.M) _
   rw [e1]
   cases o2:ga στ M1 with
   | bad=>rw [o2] at fin;exact fin
   | exn C fs M'=>rw [o2] at fin;exact Fin.later s1 fin
   | ok ts M2=>
    rw [o2] at fin
    intro S2 ws e2 s2 r2
    replace fin:Fin XE (Rep X.K) X.K S (F x ts M2) Q:=fin
    have fin2:=Fin.later (s1.trans s2) fin
    exact ⟨S2,(x,ts),rfl,s2.mok,⟨r1.grow s1.mok s2.toGrow,r2⟩,by show Fin XE (Rep X.K) X.K S2 (F x ts S2.M) Q;rw [e2];exact fin2⟩
  ·exact fin.elim⟩
end
section
variable {f:Str}
theorem zm (hC:∀ C ∈ Cs,Cls X.K C/\NoAttr X.K C f) (he:WE X XE e g) (hb:attributeBase e f X.env (eval e X.env) = eval e X.env:=by rfl):WE X XE (.Attribute e f pos) (zp Cs f g):=by
 have he:=he.pe
 exact ⟨PE.imp (zoR he hb) fun σ H Q hh=>
  LN.mono (LN.bind (f:=fun _ σ M=>g σ M) (k:=fun _ x σ M1=>zaJ Cs f x M1) (RB:=Rep X.K) hh) fun v H1 h9=>by
   obtain ⟨S,στ,a,e,m,ev,ra,fin⟩:=h9
   obtain ⟨u0,t⟩:=a
   subst e
   have rt:Rep X.K S t v:=ra.2
   replace fin:Fin XE (Rep X.K) X.K S (zaJ Cs f t S.M) Q:=fin
   unfold zaJ at fin
   split at fin
   ·rename_i a
    split at fin
    ·rename_i C fs q
     split at fin
     ·rename_i hc
      obtain ⟨t,et,fin⟩:=zga fin
      cases rt
      obtain ⟨dx,us,h1,rf⟩:=m.cell _ _ q
      obtain ⟨w,ew,rw'⟩:=rf.look f et
      exact ⟨S.α a,C,dx,us,w,rfl,h1,(hC C hc).1,(hC C hc).2,ew,fin S w rfl (.refl m) rw'⟩
     ·exact fin.elim
    ·exact fin.elim
   ·exact fin.elim⟩
theorem yL {o value:Expr} {fv:Ev->Mem->Out T} (hC:∀ C ∈ Cs,Cls X.K C/\NoAttr X.K C f) (ho:WE X XE o fo) (hv:WE X XE value fv) (hs:swapsWith value (some (.Attribute o f pos')) pos.line X.env = pure false:=by rfl):WS X XE (.Assign [.Attribute o f pos'] value pos) (yE Cs f fo fv):=by
 have ho:=ho.pe
 have hv:=hv.pe
 exact ⟨PS.imp (zoG ho hv hs) fun D σ H hh=>by
  refine LN.mono (LN.bind (f:=fun _ σ M=>fv σ M) (k:=fun _ y σ M1=>(fo σ M1).bind fun x M2=>(zaM Cs f x y M2).bind fun _ M3=>.ok (Fl.nx σ) M3) (RB:=Rep X.K) hh) fun yv H1 h1=>?_
  refine LN.mono (LN.env (f:=fo) (LN.bind (f:=fun _ σ M=>fo σ M) (k:=fun (a:Unit × T) x σ M2=>(zaM Cs f x a.2 M2).bind fun _ M3=>.ok (Fl.nx σ) M3) (RB:=Rep X.K) h1)) fun xv H2 h2=>?_
  obtain ⟨S,στ,⟨⟨u0,y⟩,x⟩,e,m,ev,⟨⟨hu0,ry⟩,rx⟩,fin⟩:=h2
  subst e
  dsimp only at ry rx
  replace fin:Fin XE (FlR X.K) X.K S ((zaM Cs f x y S.M).bind fun _ M3=>.ok (Fl.nx στ) M3) (qM D):=fin
  unfold zaM at fin
  split at fin
  ·rename_i a
   split at fin
   ·rename_i C fs q
    split at fin
    ·rename_i hc
     cases rx
     obtain ⟨dx,us,h3,rf⟩:=m.cell _ _ q
     have ha:a < S.M.length:=(List.getElem?_eq_some_iff.mp q).1
     refine ⟨S.α a,C,dx,us,rfl,h3,(hC C hc.1).1,(hC C hc.1).2,by rw [← rf.len];exact hc.2,?_⟩
     have s1:=Stp.put m ha (.ins C dx (z5 f yv us)) (.ins C (zcX f y fs)) ⟨dx,_,yF,(rf.put f ry).grow m (Grow.put m ha _ _)⟩
     exact fin (S.put a (.ins C dx (z5 f yv us)) (.ins C (zcX f y fs))) (.nx σ) rfl s1 (.nx (Mo.mo m s1 ev))
    ·exact fin.elim
   ·exact fin.elim
  ·exact fin.elim⟩
end
variable {C:Addr}
section
variable {k:Nat} {p:Pos}
theorem zhl (M:MakT X.prog X.w X.K X.mg X.base k x C ps F) (hr:Room (k + 1) X.A) (hg:Gl X x) (ha:WA X XE (e :: es) ga) (hdb:(x == ("__debug__":Str)) = false:=by decide) (he:noStar e = true:=by rfl) (hpl:es.all noStar = true:=by rfl):WE X XE (.Call (.Name x p) (e :: es) [] pos) (zdf C F ga):=by
 have ha:=ha.pe
 refine ⟨?_⟩
 obtain ⟨fI,fd,Mk1,Fo,b,hm⟩:=M.ex
 refine PE.imp (zm4 Mk1 Fo hr hg hm b .nil zmr ha hdb (zbE he) (zdK hpl)) fun σ H Q hh=>?_
 refine LN.mono (LN.bind (f:=fun _ σ M=>ga σ M) (k:=fun _ ts σ M1=>(F (T.ref M1.length :: ts) (M1 ++ [Cell.ins C []])).bind fun t M2=>zlI M1.length t M2) (RB:=Reps X.K) (R:=Rep X.K) hh) fun vs H1 ⟨S,στ,a,e,m,ev,ra,fin⟩=>?_
 obtain ⟨u0,ts⟩:=a
 subst e
 intro y dx hy hdx hne
 rw [append_nil]
 replace ra:Reps X.K S ts vs:=ra.2
 replace fin:Fin XE (Rep X.K) X.K S ((F (.ref S.M.length :: ts) (S.M ++ [.ins C []])).bind fun t M2=>zlI S.M.length t M2) Q:=fin
 have s1:=Stp.new m hdx (.own y)
 have hy1:(upd S.H dx (.own y)) y = none:=by rw [zl (Ne.symm hne)];exact hy
 have s2:Stp X.K ⟨S.α,S.M,upd S.H dx (.own y),S.hid⟩ (Sit.more ⟨S.α,S.M,upd S.H dx (.own y),S.hid⟩ y (.ins C dx []) (.ins C [])):=Stp.more s1.mok hy1 _ _ ⟨dx,[],yF,.nil⟩
 have s12:=s1.trans s2
 have al:(Sit.more ⟨S.α,S.M,upd S.H dx (.own y),S.hid⟩ y (.ins C dx []) (.ins C [])).α S.M.length = y:=if_pos rfl
 have h0:S.M.length < (S.M ++ [Cell.ins C []]).length:=by simp
 have r0:Rep X.K (Sit.more ⟨S.α,S.M,upd S.H dx (.own y),S.hid⟩ y (.ins C dx []) (.ins C [])) (.ref S.M.length) (.ref y):=by
  have:=Rep.ref (K:=X.K) (S:=Sit.more ⟨S.α,S.M,upd S.H dx (.own y),S.hid⟩ y (.ins C dx []) (.ins C [])) (a:=S.M.length) h0
  rw [al] at this
  exact this
 refine ⟨_,.ref S.M.length :: ts,rfl,s2.mok,(ra.grow m s12.toGrow).cons r0,?_⟩
 show Fin E0 (Rep X.K) X.K _ (F (.ref S.M.length :: ts) (S.M ++ [.ins C []])) _
 cases o:F (.ref S.M.length :: ts) (S.M ++ [.ins C []]) with
 | bad=>rw [o] at fin;exact fin.elim
 | exn C' fs M'=>exact absurd o (M.nox _ _ _ _ _)
 | ok t M2=>
  rw [o] at fin
  intro S3 c e3 s3 r3
  cases t with
  | non=>
   cases r3
   exact ⟨rfl,fin S3 (.ref y) e3 (s12.trans s3) (r0.grow s2.mok s3.toGrow)⟩
  | _=>exact fin.elim
end
section
variable {a b c:Expr} {pp:Pos} {p:Ev->Mem->Out Fl} {ga:Ev->Mem->Out (List T × Gd)}
theorem zhi (hp:PassesOwn (model X.prog X.w) X.A X.env X.xe) (hc:X.calm = true) (hi:WIG X XE tg iter ga) (hg:WG X XE tg bd) (hb:WSs X XE sts p) (hs:∀ x,foldedSetIterable iter X.env x = pure x:=by intro _;rfl):WS X XE (.For tg iter sts [] pos) (zdU ga bd p):=by
 have hi:=hi.pe
 have hg:=hg.pe
 have hb:=hb.pe
 exact ⟨PS.imp (zkl hp hc hi hg hb hs) fun D σ H hh=>by
  refine LN.mono (LN.bind (f:=fun _ σ M=>ga σ M) (k:=fun _ xs σ M1=>forG xs.2 bd p xs.1 σ M1) (RB:=ItG X.K) hh) fun J H1 h1=>?_
  obtain ⟨S,στ,a,e,m,ev,ra,fin⟩:=h1
  refine ⟨fun i n σ H=>∃ S στ,S.H = H/\MemOk X.K S/\EvR X.K S στ σ/\ItG X.K S a.2 J/\n = a.2.1.length - i/\i<=a.2.1.length/\Fin XE (FlR X.K) X.K S (forG a.2.2 bd p (a.2.1.drop i) στ S.M) (qM D),⟨_,S,στ,e,m,ev,ra.2,rfl,Nat.zero_le _,fin⟩,?_⟩
  rintro i n σ1 H2 ⟨S1,στ1,e1,m1,ev1,it1,en,hi1,fin1⟩
  subst e1
  have hgd:=zkV fin1
  obtain ⟨it2,it3⟩:=it1 S1 (.refl m1) hgd
  by_cases hl:i < a.2.1.length
  ·have eq:a.2.1.drop i = a.2.1[i] :: a.2.1.drop (i + 1):=List.drop_eq_getElem_cons hl
   rw [eq] at fin1
   replace fin1:=(Fin.gd fin1).2
   obtain ⟨go,yl⟩:=it2 i a.2.1[i] (by simp [hl])
   refine .inr ⟨go,fun σ' H'=>∃ S στ,S.H = H'/\MemOk X.K S/\EvR X.K S στ σ'/\ItG X.K S a.2 J/\Fin XE (FlR X.K) X.K S (forG a.2.2 bd p (a.2.1.drop (i + 1)) στ S.M) (qM D),?_,fun x H' hy=>?_⟩
   ·rintro σ' H' ⟨S2,στ2,e2,m2,ev2,it4,fin2⟩
    exact ⟨a.2.1.length - (i + 1),by omega,S2,στ2,e2,m2,ev2,it4,rfl,hl,fin2⟩
   ·obtain ⟨S2,e2,eM,s2,r2⟩:=yl x H' hy
    replace fin1:Fin XE (FlR X.K) X.K S1 ((bd a.2.1[i] στ1 S1.M).bind fun σ1 M1=>(p σ1 M1).bind (zV (forG a.2.2 bd p (a.2.1.drop (i + 1))))) (qM D):=fin1
    refine ⟨S2,στ1,a.2.1[i],e2,s2.mok,Mo.mo m1 s2 ev1,r2,?_⟩
    rw [eM]
    cases o:bd a.2.1[i] στ1 S1.M with
    | bad=>rw [o] at fin1;exact fin1
    | exn C fs M'=>rw [o] at fin1;exact Fin.later s2 fin1
    | ok σ3 M3=>
     rw [o] at fin1
     intro S3 σ3v e3 s3 ev3
     have s13:=s2.trans s3
     refine ⟨S3,σ3,(),rfl,s3.mok,ev3,trivial,?_⟩
     show Fin XE (FlR X.K) X.K S3 (p σ3 S3.M) _
     rw [e3]
     replace fin1:Fin XE (FlR X.K) X.K S1 ((p σ3 M3).bind (zV (forG a.2.2 bd p (a.2.1.drop (i + 1))))) (qM D):=fin1
     cases o2:p σ3 M3 with
     | bad=>rw [o2] at fin1;exact fin1
     | exn C fs M'=>rw [o2] at fin1;exact Fin.later s13 fin1
     | ok fl M4=>
      rw [o2] at fin1
      intro S4 fv e4 s4 r4
      have s14:=s13.trans s4
      cases r4 with
      | nx r4=>exact ⟨S4,_,rfl,s4.mok,r4,Mo.mo m1 s14 it1,by rw [e4];exact Fin.later s14 fin1⟩
      | ct r4=>exact ⟨S4,_,rfl,s4.mok,r4,Mo.mo m1 s14 it1,by rw [e4];exact Fin.later s14 fin1⟩
      | bk r4=>exact fin1 S4 (.nx _) e4 s14 (.nx r4)
      | rt r4=>exact fin1 S4 (.rt _) e4 s14 (.rt r4)
  ·rw [List.drop_eq_nil_of_le (by omega)] at fin1
   replace fin1:=(Fin.gd fin1).2
   refine .inl ⟨it3 i (by omega),?_⟩
   exact fin1 S1 (.nx σ1) rfl (.refl m1) (.nx ev1)⟩
end
section
theorem zlk (he:WE X XE e f):WIG X XE tg e (zfE f):=by
 have he:=he.pe
 exact ⟨PI.imp (zf9 he) fun σ H R hh=>
  LN.mono (LN.bind (f:=fun _ σ M=>f σ M) (k:=fun _ t σ M1=>match zcZ t M1 with | some g=>.ok g M1 | none=>.bad) (RB:=Rep X.K) hh) fun v H1 h9=>by
   obtain ⟨S,στ,a,e,m,ev,ra,fin⟩:=h9
   obtain ⟨u,t⟩:=a
   subst e
   have rt:Rep X.K S t v:=ra.2
   replace fin:Fin XE (ItG X.K) X.K S (match zcZ t S.M with | some g=>.ok g S.M | none=>.bad) R:=fin
   cases q:zcZ t S.M with
   | none=>rw [q] at fin;exact fin.elim
   | some g=>
    rw [q] at fin
    obtain ⟨xs,G⟩:=g
    obtain ⟨p,vs,rfl,h1,h2⟩:=zi7 m rt q
    refine ⟨p,rfl,⟨vs,h1⟩,fin S _ rfl (.refl m) fun S3 s3 gd=>?_⟩
    obtain ⟨vs3,g3,r3⟩:=h2 S3 s3 gd
    refine ⟨fun i t et=>?_,fun i hi=>⟨vs3,g3,by rw [← r3.1];exact hi⟩⟩
    obtain ⟨v2,ev3,rv⟩:=r3.get et
    refine ⟨⟨vs3,v2,g3,ev3⟩,fun x H' hy=>?_⟩
    obtain ⟨ey,hy⟩:=hy
    have:=hy vs3 g3
    rw [ev3] at this
    cases this
    exact ⟨S3,ey.symm,rfl,.refl s3.mok,rv⟩⟩
end
section
theorem zlj (he:WE X XE e f):WIG X XE tg e (zg9 f):=by
 have he:=he.pe
 exact ⟨PI.imp (PI.or (zf9 he) (zko he)) fun σ H R h9=>by
  obtain ⟨S,στ,_,e,m,ev,_,fin⟩:=h9
  replace fin:Fin XE (ItG X.K) X.K S ((f στ S.M).bind fun t M1=>match ze9 t M1 with | some g=>.ok g M1 | none=>.bad) R:=fin
  cases o:f στ S.M with
  | bad=>rw [o] at fin;exact fin.elim
  | exn C fs M'=>
   rw [o] at fin
   refine .inl ⟨S,στ,(),e,m,ev,trivial,?_⟩
   show Fin XE (Rep X.K) X.K S (f στ S.M) _
   rw [o];exact fin
  | ok t M1=>
   rw [o] at fin
   replace fin:Fin XE (ItG X.K) X.K S (match ze9 t M1 with | some g=>.ok g M1 | none=>.bad) R:=fin
   have lists:(∀ g,ze9 t M1 = some g->zcZ t M1 = some g)->zmu X.K (lE XE X.K f) σ H R:=fun hg=>by
    refine ⟨S,στ,(),e,m,ev,trivial,?_⟩
    show Fin XE (Rep X.K) X.K S (f στ S.M) _
    rw [o]
    intro S1 v e1 s1 r1
    cases q:ze9 t M1 with
    | none=>rw [q] at fin;exact fin.elim
    | some g=>
     rw [q] at fin
     obtain ⟨xs,G⟩:=g
     obtain ⟨p,vs,rfl,h1,h2⟩:=zi7 s1.mok r1 (by rw [e1];exact hg _ q)
     refine ⟨p,rfl,⟨vs,h1⟩,fin S1 _ e1 s1 fun S3 s3 gd=>?_⟩
     obtain ⟨vs3,g3,r3⟩:=h2 S3 s3 gd
     refine ⟨fun i t et=>?_,fun i hi=>⟨vs3,g3,by rw [← r3.1];exact hi⟩⟩
     obtain ⟨v2,ev3,rv⟩:=r3.get et
     refine ⟨⟨vs3,v2,g3,ev3⟩,fun x H' hy=>?_⟩
     obtain ⟨ey,hy⟩:=hy
     have:=hy vs3 g3
     rw [ev3] at this
     cases this
     exact ⟨S3,ey.symm,rfl,.refl s3.mok,rv⟩
   cases t with
   | tup ts=>
    refine .inr ⟨S,στ,(),e,m,ev,trivial,?_⟩
    show Fin XE (Rep X.K) X.K S (f στ S.M) _
    rw [o]
    intro S1 v e1 s1 r1
    cases r1 with
    | @tup _ p vs h l r=>
     have r1:Reps X.K S1 ts vs:=⟨l,r⟩
     replace fin:Fin XE (ItG X.K) X.K S (.ok (ts,[]) M1) R:=fin
     refine ⟨p,rfl,⟨vs,h⟩,fin S1 _ e1 s1 fun S3 s3 gd=>?_⟩
     have g3:SqT X.K S3.H p vs:=s3.toGrow.tup s1.mok h
     refine ⟨fun i t et=>?_,fun i hi=>⟨vs,g3,by rw [← l];exact hi⟩⟩
     obtain ⟨v2,ev3,r3⟩:=r1.get et
     refine ⟨⟨vs,v2,g3,ev3⟩,fun x H' hy=>?_⟩
     obtain ⟨ey,hy⟩:=hy
     have:=hy vs g3
     rw [ev3] at this
     cases this
     exact ⟨S3,ey.symm,rfl,.refl s3.mok,r3.grow s1.mok s3.toGrow⟩
   | _=>exact .inl (lists fun g h=>h)⟩
end
section
variable {k j:Nat} {y v nm:Str} {p pos2 np hp tp vp:Pos} {b0:Stmt} {suite:List Stmt} {g gs:Ev->Mem->Out Fl}
theorem zmA:WS X XE st zlq:=⟨fun _ _ _ _ _ _ ⟨_,_,_,_,_,_,_,fin⟩=>fin.elim⟩
end
section
theorem zof {st:Expr} (he:WE X XE e f) (hs:WO X XE (some st) p):WE X XE (.Subscript e (.Slice none none (some st) p2) pos) (eRv f p):=by
 have he:=he.pe
 have hs:=hs.pe
 exact ⟨PE.imp (zoM he hs) fun σ H Q hh=>
  LN.mono (LN.bind (f:=fun _ σ M=>f σ M) (k:=fun _ x σ M1=>(p σ M1).bind fun l M2=>zf5 x l M2) (RB:=Rep X.K) hh) fun v H1 h1=>
   LN.mono (LN.env (f:=p) (LN.bind (f:=fun _ σ M=>p σ M) (k:=fun (ax:Unit × T) l σ M2=>zf5 ax.2 l M2) (RB:=EqR) h1)) fun l H2 h9=>by
    obtain ⟨S,στ,a,e,m,ev,ra,fin⟩:=h9
    have e1:a.2 = l:=ra.2
    have r:Rep X.K S a.1.2 v:=ra.1.2
    replace fin:Fin XE (Rep X.K) X.K S (zf5 a.1.2 a.2 S.M) Q:=fin
    rw [e1] at fin
    unfold zf5 rvX at fin
    split at fin
    ·rename_i hl
     split at fin
     ·rename_i xs q
      obtain ⟨b,vs,e2,h2,s2⟩:=zC m r q
      subst e
      refine ⟨hl,b,vs,e2,h2,zge m fin ?_⟩
      exact s2.rev
     ·exact fin.elim
    ·exact fin.elim⟩
end
variable {qual:Str}
section
theorem yp {k p:Nat} {g:Ev->Mem->Out Fl} (D:Df K mg x st ps) (Sc:FnScope N ps (zg st)) (hp:ps.length = p) (hn:N.length = n)
 (hb:∀ (f:Addr) (cdv:Value) (A:Around) (outer:List PySem.Env) (s:Shared) (H:Hp) (E:XK),Room k (A.deeper (envOfC x (zg st) s.heap.objs.size f cdv))->WSs (zcf CX0 P w K mg base N x (zg st) f cdv A outer s H E).nox E0 (yK st) g) :
  CalT P w K mg base (k + 1) x ps (qi p n g):=zld D Sc hp hn fun f cdv A outer s H E hr=>(hb f cdv A outer s H E hr).pe
theorem zmz {f:Addr} {fd:FuncData} {k p:Nat} {g:Ev->Mem->Out Fl} (F:Fun K x qual st f fd) (Sc:FnScope N ps (zg st)) (hp:ps.length = p) (hn:N.length = n)
 (hb:∀ (cdv:Value) (A:Around) (outer:List PySem.Env) (s:Shared) (H:Hp) (E:XK),Room k (A.deeper (envOfC qual (zg st) s.heap.objs.size f cdv))->WSs (zcf CX0 P w K mg base N qual (zg st) f cdv A outer s H E).nox E0 (yK st) g) :
  FnOk P w K mg base CX0 (k + 1) f fd ps (spT K (qi p n g)):=zpe F Sc hp hn fun cdv A outer s H E hr=>(hb cdv A outer s H E hr).pe
theorem ziM {k p:Nat} {g:Ev->Mem->Out Fl} (D:Di K mg x qual C st ps) (Sc:FnScope N ps (zg st)) (hp:ps.length = p) (hn:N.length = n)
 (hb:∀ (f:Addr) (cdv:Value) (A:Around) (outer:List PySem.Env) (s:Shared) (H:Hp) (E:XK),Room k (A.deeper (envOfC qual (zg st) s.heap.objs.size f cdv))->WSs (zcf CX0 P w K mg base N qual (zg st) f cdv A outer s H E).nox E0 (yK st) g) :
  MakT P w K mg base (k + 1) x C ps (qi p n g):=zpb D Sc hp hn fun f cdv A outer s H E hr=>(hb f cdv A outer s H E hr).pe
end
section
variable {f:Str}
theorem zgB (hg:Gl X x) (hm:∃ a,X.mg x = some (.ref a)/\KTu X.K a (ss.map .str)) (hd:(x == ("__debug__":Str)) = false:=by decide):WE X XE (.Name x pos) (eC (.tup (ss.map .str))):=by
 refine ⟨?_⟩
 obtain ⟨a,hm,o,its,n,h⟩:=hm
 refine zcc (zm5 (v:=.ref a) hg hm rfl hd) fun S=>.tup (.inr ⟨o,its,n,h⟩) (by simp) fun i t v e1 e2=>?_
 rw [Qb] at e1 e2
 cases q:ss[i]? with
 | none=>rw [q] at e1;cases e1
 | some z=>rw [q] at e1 e2;cases e1;cases e2;exact .str _
theorem zlh {o:Expr} {n:Int} {j} (hC:∀ C ∈ Cs,Cls X.K C/\NoAttr X.K C f) (ho:WE X XE o fo):WS X XE (.AugAssign (.Attribute o f tpos) .Add (.Constant (.int n) j cpos) pos) (zfy Cs f fo n):=by
 have ho:=ho.pe
 exact ⟨PS.imp (zkm ho zks zpt) fun D σ H hh=>by
  refine LN.mono (LN.bind (f:=fun _ σ M=>fo σ M) (k:=fun _ x σ M1=>(zaJ Cs f x M1).bind fun v M2=>(zdv v (.int n) M2).bind fun z M3=>(zaM Cs f x z M3).bind fun _ M4=>.ok (Fl.nx σ) M4) (RB:=Rep X.K) hh) fun xv H1 h1=>?_
  obtain ⟨S,στ,⟨u0,x⟩,e,m,ev,⟨hu0,rx⟩,fin⟩:=h1
  subst e
  dsimp only at rx
  replace fin:Fin XE (FlR X.K) X.K S ((zaJ Cs f x S.M).bind fun v M2=>(zdv v (.int n) M2).bind fun z M3=>(zaM Cs f x z M3).bind fun _ M4=>.ok (Fl.nx στ) M4) (qM D):=fin
  cases x with
  | ref a=>
   unfold zaJ at fin
   dsimp only at fin
   cases q:S.M[a]? with
   | none=>rw [q] at fin;exact fin.elim
   | some c=>
    rw [q] at fin
    cases c with
    | ins C fs=>
     dsimp only at fin
     by_cases hc:C ∈ Cs
     ·rw [if_pos hc] at fin
      cases l:fs.lookup f with
      | none=>rw [l] at fin;exact fin.elim
      | some v=>
       rw [l] at fin
       replace fin:Fin XE (FlR X.K) X.K S ((zdv v (.int n) S.M).bind fun z M3=>(zaM Cs f (.ref a) z M3).bind fun _ M4=>.ok (Fl.nx στ) M4) (qM D):=fin
       cases v with
       | int i=>
        replace fin:Fin XE (FlR X.K) X.K S ((zaM Cs f (.ref a) (.int (i + n)) S.M).bind fun _ M4=>.ok (Fl.nx στ) M4) (qM D):=fin
        unfold zaM at fin
        simp only [q] at fin
        split at fin
        ·rename_i hl
         cases rx
         obtain ⟨dx,us,h3,rf⟩:=m.cell _ _ q
         have ha:a < S.M.length:=(List.getElem?_eq_some_iff.mp q).1
         obtain ⟨w,ew,rw'⟩:=rf.look f l
         cases rw'
         refine ⟨S.α a,C,dx,us,_,rfl,h3,(hC C hc).1,(hC C hc).2,ew,?_⟩
         refine ⟨i,n,rfl,rfl,dx,us,h3,by rw [← rf.len];exact hl.2,?_⟩
         have s1:=Stp.put m ha (.ins C dx (z5 f (.int (i + n)) us)) (.ins C (zcX f (.int (i + n)) fs)) ⟨dx,_,yF,(rf.put f (.int _)).grow m (Grow.put m ha _ _)⟩
         exact fin (S.put a (.ins C dx (z5 f (.int (i + n)) us)) (.ins C (zcX f (.int (i + n)) fs))) (.nx σ) rfl s1 (.nx (Mo.mo m s1 ev))
        ·exact fin.elim
       | _=>exact fin.elim
     ·rw [if_neg hc] at fin;exact fin.elim
    | _=>exact fin.elim
  | _=>exact fin.elim⟩
end
end FT
namespace L2
open PySem PySem.Spec PyProof.Rows
section
variable {X:Cx}
theorem zjJ:OpR X (binaryOp .Mult) (fun x y H Q=>∃ i n,x = .str i/\y = .int n/\MulOk i n/\Q (.str (Txt.mul i n)) H):=by
 intro pins s σ H x y v u Q I rx ry h
 obtain ⟨i,n,rfl,rfl,hk,q⟩:=h
 obtain ⟨t,rfl⟩:=rx
 obtain ⟨t',rfl⟩:=ry
 exact SB.mul hk fun t' k=>⟨.str _,H,I.tok _,⟨_,rfl⟩,q⟩
end
end L2
namespace FT
open PySem PySem.Spec PyProof.Rows L2
noncomputable def leU:T->T->Mem->Out T:=fun x y M=>match x,y with
 | .int i,.int j=>.ok (.bl (decide (i<=j))) M
 | .str i,.str j=>.ok (.bl (!decide (j.cps.toList < i.cps.toList))) M
 | _,_=>.bad
noncomputable def zgf:T->T->Mem->Out T:=fun x y M=>match x,y with
 | .str i,.int n=>@ite _ (MulOk i n) (Classical.propDecidable _) (.ok (.str (Txt.mul i n)) M) .bad
 | _,_=>.bad
noncomputable def ixS:T->T->Mem->Out T:=fun x y M=>match x,y with
 | .str z,.int i=>match atI z.cps.toList i with
  | some c=>if z.length<=sizeLine then .ok (.str ⟨#[c]⟩) M else .bad
  | none=>.bad
 | _,_=>.bad
section
variable {X:Cx} {XE:XK}
theorem zng:OpR X (binaryOp .Mult) (lR2 XE X.K zgf):=by
 intro pins s σ H x y v u Q I rx ry ⟨S,⟨tx,ty⟩,e,m,⟨r1,r2⟩,fin⟩
 subst e
 replace fin:Fin XE (Rep X.K) X.K S (zgf tx ty S.M) Q:=fin
 unfold zgf at fin
 split at fin
 ·cases r1;cases r2
  split at fin
  ·rename_i hk
   exact zjJ pins s σ S.H _ _ v u Q I rx ry ⟨_,_,rfl,rfl,hk,fin S _ rfl (.refl m) (.str _)⟩
  ·exact fin.elim
 ·exact fin.elim
theorem zlR:IxR X (lR2 XE X.K ixS):=by
 intro va sl pins s σ H x y v u Q I rx ry ⟨S,⟨tx,ty⟩,e,m,⟨r1,r2⟩,fin⟩ hs
 subst e
 replace fin:Fin XE (Rep X.K) X.K S (ixS tx ty S.M) Q:=fin
 unfold ixS at fin
 split at fin
 ·cases r1;cases r2
  split at fin
  ·rename_i c hc
   split at fin
   ·rename_i hz
    exact zkI va sl pins s σ S.H _ _ v u Q I rx ry ⟨_,_,c,rfl,rfl,hz,hc,fin S _ rfl (.refl m) (.str _)⟩ hs
   ·exact fin.elim
  ·exact fin.elim
 ·exact fin.elim
end
end FT
namespace L2
open PySem PySem.Spec PyProof.Rows
section
variable {X:Cx} {tg:Expr}
theorem zoo:SlR X (fun x lo hi H Q=>∃ z,x = .str z/\z.length<=sizeLine/\Q (.str (Txt.slice z lo hi)) H):=by
 intro pins s σ H x v vl vu lo hi sl Q I rx hs pl pu ⟨z,e,hz,q⟩
 subst e
 obtain ⟨t,rfl⟩:=rx
 have part:∀ {v:Value} {o:Option Int},IsPart v o->∃ p:Option (Int × Tok),v = partValue p/\p.map (·.1) = o:=fun h=>by
  cases h with
  | none=>exact ⟨none,rfl,rfl⟩
  | int i t=>exact ⟨some (i,t),rfl,rfl⟩
 obtain ⟨l,rfl,rfl⟩:=part pl
 obtain ⟨u,rfl,rfl⟩:=part pu
 exact ⟨"str",_,PySem.F.slot_str_getitem.lookup,typeIs_str _ _ _,wpAny_getItem_str_slice (st:=none) hs rfl (post_val_or_str ⟨Qj (Txt.slice_le z _ _) hz,fun t' k=>⟨.str _,H,I.tok _,⟨_,rfl⟩,q⟩⟩)⟩
theorem zhp:∀ {zs:List Str} {its:List Value},Vals (zs.map V.str) its->StrsAre its zs
 | [],its,r=>by cases r;exact .nil
 | z :: zs,its,r=>by
  cases r with
  | cons a b=>
   obtain ⟨t,rfl⟩:=a
   exact .cons z t (zhp b)
theorem zno:MtR X "str.join" (fun x xs H Q=>∃ z p zs,x = .str z/\xs = [.ref p]/\SqL X.K H p (zs.map V.str)/\(zs.map (·.length)).sum + zs.length * z.length<=16777216/\Q (.str (Txt.join z zs)) H):=by
 intro pins s σ H x xs v us Q I rx rs ⟨z,p,zs,e1,e2,hq,hb,q⟩
 subst e1;subst e2
 obtain ⟨t,rfl⟩:=rx
 obtain ⟨u,rfl,ru⟩:=vals1 rs
 cases ru
 obtain ⟨its,r,pl,hz⟩:=I.list hq
 exact join_list pl.isList (zhp r) hb fun t' k=>⟨.str _,H,I.tok _,⟨_,rfl⟩,q⟩
end
end L2
namespace FT
open PySem PySem.Spec PyProof.Rows L2
noncomputable def sgT (z:Str):List T:=z.cps.toList.map fun c=>T.str ⟨#[c]⟩
noncomputable def iTx (f:Ev->Mem->Out T):Ev->Mem->Out (List T):=fun σ M=>(f σ M).bind fun t M1=>match t with
 | .str z=>.ok (sgT z) M1
 | _=>.bad
noncomputable def zdr (x:T) (lo hi:Option Int) (M:Mem):Out T:=match x with
 | .str z=>if z.length<=sizeLine then .ok (.str (Txt.slice z lo hi)) M else .bad
 | x=>zfk x lo hi M
noncomputable def zig (f:Ev->Mem->Out T) (p q:Ev->Mem->Out (Option Int)):Ev->Mem->Out T:=fun σ M=>(f σ M).bind fun x M1=>(p σ M1).bind fun lo M2=>(q σ M2).bind fun hi M3=>zdr x lo hi M3
noncomputable def ze8:List T->Option (List Str)
 | []=>some []
 | .str z :: ts=>(ze8 ts).map (z :: ·)
 | _ :: _=>none
theorem zhr:∀ {ts:List T} {zs:List Str},ze8 ts = some zs->ts = zs.map .str
 | [],zs,h=>by cases h;rfl
 | t :: ts,zs,h=>by
  unfold ze8 at h
  split at h
  ·rename_i e
   cases e
  ·rename_i e
   cases e
   cases q:ze8 ts with
   | none=>rw [q] at h;cases h
   | some ys=>
    rw [q] at h
    cases h
    rw [zhr q]
    rfl
  ·cases h
noncomputable def isStr (t:T) (_:Mem):Bool:=match t with
 | .str _=>true
 | _=>false
noncomputable def zeK (x:T) (ts:List T) (M:Mem):Out T:=match x,ts with
 | .str z,[t]=>match zq t M with
  | some xs=>match ze8 xs with
   | some zs=>if (zs.map (·.length)).sum + zs.length * z.length<=16777216 then .ok (.str (Txt.join z zs)) M else .bad
   | none=>.bad
  | none=>.bad
 | _,_=>.bad
variable {X:Cx} {XE:XK}
section
theorem ty_str {K:Frag} {S:Sit} (_:MemOk K S) {t:T} {x:V} (r:Rep K S t x) (h:isStr t S.M = true):tyV K "str" x S.H:=by
 cases r with
 | str z=>exact rfl
 | _=>cases h
theorem zlK:MtR X "str.join" (lMt XE X.K zeK):=by
 intro pins s σ H x xs v us Q I rx rs ⟨S,⟨tx,ts⟩,e,m,⟨r1,r2⟩,fin⟩
 subst e
 replace r1:Rep X.K S tx x:=r1
 replace r2:Reps X.K S ts xs:=r2
 replace fin:Fin XE (Rep X.K) X.K S (zeK tx ts S.M) Q:=fin
 unfold zeK at fin
 split at fin
 ·rename_i z t
  split at fin
  ·rename_i ys q
   split at fin
   ·rename_i zs qz
    split at fin
    ·rename_i hb
     obtain ⟨w1,ws,rfl,h1,h2⟩:=r2.consT
     cases h2.nilT
     obtain ⟨p,vs,rfl,hq,rs'⟩:=zC m h1 q
     cases r1
     have e:=zhr qz
     subst e
     have ev:vs = zs.map V.str:=by
      refine ext_getElem? fun i=>?_
      have l:=rs'.1
      rw [Qh] at l
      by_cases hi:i < zs.length
      ·have a1:vs[i]? = some (vs[i]'(by omega)):=Q0 _
       have a2:=rs'.2 i (.str zs[i]) _ (by rw [Qb,Q0 hi];rfl) a1
       rw [a1,Qb,Q0 hi]
       generalize vs[i]'(by omega) = w at a2
       cases a2
       rfl
      ·rw [getElem?_eq_none (by omega),getElem?_eq_none (by rw [Qh];omega)]
     rw [ev] at hq
     exact zno pins s σ S.H _ _ v us Q I rx rs ⟨z,p,zs,rfl,rfl,hq,hb,fin S _ rfl (.refl m) (.str _)⟩
    ·exact fin.elim
   ·exact fin.elim
  ·exact fin.elim
 ·exact fin.elim
end
noncomputable def zrC (XE:XK) (K:Frag):V->Option Int->Option Int->Hp->VK->Prop:=fun x lo hi H Q=>∃ S t,S.H = H/\MemOk K S/\Rep K S t x/\Fin XE (Rep K) K S (zdr t lo hi S.M) Q
variable {p q:Ev->Mem->Out (Option Int)} {f:Ev->Mem->Out T} {e:Expr} {p2 pos:Pos}
section
theorem zrn:SlR X (zrC XE X.K):=by
 intro pins s σ H x v vl vu lo hi sl Q I rx hs pl pu ⟨S,t,e,m,r,fin⟩
 unfold zdr at fin
 split at fin
 ·cases r
  split at fin
  ·rename_i hz
   subst e
   exact zoo pins s σ S.H _ v vl vu lo hi sl Q I rx hs pl pu ⟨_,rfl,hz,fin S _ rfl (.refl m) (.str _)⟩
  ·exact fin.elim
 ·exact zop pins s σ H x v vl vu lo hi sl Q I rx hs pl pu ⟨S,_,e,m,r,fin⟩
end
section
theorem ziN {lo hi:Option Expr} (he:WE X XE e f) (hl:WO X XE lo p) (hu:WO X XE hi q):WE X XE (.Subscript e (.Slice lo hi none p2) pos) (zig f p q):=by
 have he:=he.pe
 have hl:=hl.pe
 have hu:=hu.pe
 exact ⟨PE.imp (zhI zrn he hl hu) fun σ H Q hh=>
  LN.mono (LN.bind (f:=fun _ σ M=>f σ M) (k:=fun _ x σ M1=>(p σ M1).bind fun lo M2=>(q σ M2).bind fun hi M3=>zdr x lo hi M3) (RB:=Rep X.K) hh) fun v H1 h1=>
   LN.mono (LN.env (f:=p) (LN.bind (f:=fun _ σ M=>p σ M) (k:=fun (ax:Unit × T) lo σ M2=>(q σ M2).bind fun hi M3=>zdr ax.2 lo hi M3) (RB:=EqR) h1)) fun l H2 h2=>
    LN.mono (LN.env (f:=q) (LN.bind (f:=fun _ σ M=>q σ M) (k:=fun (ax:(Unit × T) × Option Int) hi σ M3=>zdr ax.1.2 ax.2 hi M3) (RB:=EqR) h2)) fun w H3 h9=>by
     obtain ⟨S,στ,a,e,m,ev,ra,fin⟩:=h9
     have e1:a.1.2 = l:=ra.1.2
     have e2:a.2 = w:=ra.2
     exact ⟨S,a.1.1.2,e,m,ra.1.1.2,by rw [← e1,← e2];exact fin⟩⟩
end
end FT
namespace L2
open PySem PySem.Spec PyProof.Rows
structure XiAt (K:Frag) (D:Addr):Prop where
 ga:PySem.W.findIn K (.ref D) "__getattribute__" = some (some (.builtin "BaseException.__getattribute__"))
 gt:PySem.W.findIn K (.ref D) "__getattr__" = some none
 c:(PySem.W.clsIn K D).isSome = true
 a:PySem.W.findIn K (.ref D) "__class__" = some (some (.builtin "object.__class__"))
 n:PySem.W.specialIn K (.builtin "object.__class__") "__get__" = some (some (.builtin "getset_descriptor.__get__"))
 t:PySem.W.takesIn K (.builtin "object.__class__") = some true
 m:PySem.W.mroIn K D (.type "object") = some true
 be:PySem.W.mroIn K D (.type "BaseException") = some true
end L2
namespace FT
open PySem PySem.Spec PyProof.Rows L2
structure IsAt (K:Frag) (mg:Str->Option Value) (y:Str) (g:Addr->Option Bool):Prop where
 ex:∃ (v:V) (c:Value),RelV v c/\(mg y = some c\/(mg y = none/\bootBuiltins y = some c))/\(∀ u,RelV v u->u = c)/\∀ C b,g C = some b->XiAt K C/\PySem.W.kitOne K (.ref C) c = some b
structure XmAt (K:Frag) (D W:Addr):Prop where
 ga:PySem.W.findIn K (.ref D) "__getattribute__" = some (some (.builtin "BaseException.__getattribute__"))
 gt:PySem.W.findIn K (.ref D) "__getattr__" = some none
 a:PySem.W.findIn K (.ref D) "__class__" = some (some (.builtin "object.__class__"))
 n:PySem.W.specialIn K (.builtin "object.__class__") "__get__" = some (some (.builtin "getset_descriptor.__get__"))
 t:PySem.W.takesIn K (.builtin "object.__class__") = some true
 mro:(PySem.W.clsIn K D).map (·.mro) = some (.ref D :: .ref W :: zdt)
 ty:PySem.W.typeIn K (.ref D) = some (.type "type")
section
variable {K:Frag} {mg:Str->Option Value} {C D W Y:Addr} {y:Str} {ks:List Addr}
theorem XmAt.in (x:XmAt K D W) (base:Value):PySem.W.mroIn K D base = some ((Value.ref D :: .ref W :: zdt).contains base):=by
 obtain ⟨cd,h,e⟩:=Option.map_eq_some_iff.mp x.mro
 unfold PySem.W.mroIn
 rw [h,Option.bind_some,e]
 rfl
theorem XmAt.cls (x:XmAt K D W):(PySem.W.clsIn K D).isSome = true:=by
 obtain ⟨cd,h,e⟩:=Option.map_eq_some_iff.mp x.mro
 rw [h]
 rfl
theorem zd6 (a b:Value) (l:List Value):(b :: l).contains a = (a == b || l.contains a):=List.contains_cons
theorem XmAt.xi (x:XmAt K D W):XiAt K D:=⟨x.ga,x.gt,x.cls,x.a,x.n,x.t,by rw [x.in,zd6,zd6,show zdt.contains (.type "object") = true by decide +kernel,Bool.or_true,Bool.or_true],by rw [x.in,zd6,zd6,show zdt.contains (.type "BaseException") = true by decide +kernel,Bool.or_true,Bool.or_true]⟩
end
end FT
namespace L2
open PySem PySem.Spec PyProof.Rows
noncomputable def zrv (a:List Str) (x:Str):List Str:=if x ∈ a then a else a ++ [x]
noncomputable def met (ss:List Str):List Str:=ss.foldl zrv []
set_option maxRecDepth 100000 in
theorem zkD (l:Addr) (items:Array Value) (n:Nat) (x:Int) (u:Tok) (dd:Option Addr) (sl:Array (Option Value)) (h1:¬(!Builtin.List.listFitsIndex x) = true) (h2:¬items.size * x.toNat > (2 ^ 63 - 1) / 8) (h3:¬Builtin.List.listTooLong (items.size * x.toNat) = true)
  (h4:¬ (List.foldl (fun x1 x2=>x1 ++ x2) #[] (List.replicate (if items.isEmpty = true then 0 else x.toNat) items)).size > sizeLine) :
  Meets (Builtin.«list.__mul__» ⟨[.ref l,.int x u],[]⟩) fun _ R s=>s.heap.get? l = some ⟨.type "list",dd,.seq items n,sl⟩ /\
   R (.ok (.ret (.ref s.heap.objs.size))) { s with heap:=s.heap.push { cls:=.type "list",data:=.seq (List.foldl (fun x1 x2=>x1 ++ x2) #[] (List.replicate (if items.isEmpty = true then 0 else x.toNat) items)) } }:=by
 intro prog w A R s ⟨e,q⟩
 unfold Builtin.«list.__mul__»
 wp_delta
 obtain ⟨h,g,d,t,os⟩:=s
 repeat (any_goals (first | assumption | wp_step))
 rw [if_neg h4]
 repeat (any_goals (first | assumption | wp_step))
set_option maxRecDepth 100000 in
theorem zqq (a:Int) (t:Tok) (l:Addr) (items:Array Value) (n:Nat) (dd:Option Addr) (sl:Array (Option Value)) :
  Meets (Builtin.«int.__rmul__» ⟨[.int a t,.ref l],[]⟩) fun _ R s=>s.heap.get? l = some ⟨.type "list",dd,.seq items n,sl⟩/\R (.ok (.ret .notImplemented)) s:=by
 intro prog w A R s ⟨e,q⟩
 unfold Builtin.«int.__rmul__»
 obtain ⟨h,g,d,t,os⟩:=s
 repeat (any_goals (first | assumption | wp_step))
theorem znc {X:Cx}:OpR X (binaryOp .Mult) (fun x y H Q=>∃ l k xs,x = .ref l/\y = .int k/\SqL X.K H l xs/\-(2 ^ 63)<=k/\k < 2 ^ 63/\xs.length * k.toNat<=sizeLine/\∀ p,H p = none->Q (.ref p) (upd H p (.lst (List.replicate k.toNat xs).flatten))):=by
 intro pins s σ H x y v u Q I rx ry h
 obtain ⟨l,k,xs,rfl,rfl,hH,h1,h2,hz,q⟩:=h
 cases rx
 obtain ⟨t,rfl⟩:=ry
 obtain ⟨its,r,pl,z⟩:=I.list hH
 have hl:=r.length
 obtain ⟨⟨cls,dd,data,sl⟩,n,e,hc,hdi,hd⟩:=pl
 simp only at hc hd
 subst hc hd
 have hlen:its.toArray.size * k.toNat<=sizeLine:=by rw [Qi,← hl];exact hz
 have hcap:¬ its.toArray.size * k.toNat > (2 ^ 63 - 1) / 8:=by
  have:(sizeLine:Nat)<=(2 ^ 63 - 1) / 8:=by decide
  omega
 have hfit:¬ (!Builtin.List.listFitsIndex k) = true:=by
  rw [fitsIndex_both h1 h2]
  exact Q4
 have hlong:¬ Builtin.List.listTooLong (its.toArray.size * k.toNat) = true:=by
  rw [zhK hlen]
  exact Q4
 have hnew:List.foldl (fun x1 x2=>x1 ++ x2) #[] (List.replicate (if its.toArray.isEmpty = true then 0 else k.toNat) its.toArray) = (List.replicate k.toNat its).flatten.toArray:=by
  have f0:∀ m:Nat,List.foldl (fun x1 x2=>x1 ++ x2) #[] (List.replicate m its.toArray) = (List.replicate m its).flatten.toArray:=fun m=>by
   have:=foldl_rep its m []
   rw [nil_append] at this
   exact this
  rw [f0]
  cases its with
  | nil=>simp
  | cons a r'=>rw [if_neg (by simp)]
 have hbig:¬ (List.foldl (fun x1 x2=>x1 ++ x2) #[] (List.replicate (if its.toArray.isEmpty = true then 0 else k.toNat) its.toArray)).size > sizeLine:=by
  rw [hnew,Qi,len_rep,Nat.mul_comm]
  rw [Qi] at hlen
  omega
 refine wpAny_binaryOp_repeat_ref (T:="list") (U:="int") (by decide) ⟨_,e,rfl⟩ (fun s'=>typeIs_int s' k t) noFill_list_mul F.fills_int_mul F.slot_int_rmul repeat_list F.slot_int_index.lookup
  (call_meets F.slot_int_rmul (typeIs_int s k t) F.entry_int_rmul (F.args_int_rmul_2 _ _) (zqq k t l its.toArray n dd sl)
   ⟨e,rfl,⟨_,e,rfl⟩,call_meets F.slot_list_mul ⟨_,e,rfl⟩ F.entry_list_mul (F.args_list_mul_2 _ _) (zkD l its.toArray n k t dd sl hfit hcap hlong hbig) ⟨e,?_⟩⟩)
 rw [hnew]
 exact ⟨.ref _,_,I.lnew (t':=s.toks) (r.rep k.toNat) (by rw [len_rep,Nat.mul_comm];exact hz),rfl,q _ I.fresh⟩
end L2
namespace FT
open PySem PySem.Spec PyProof.Rows L2
noncomputable def zf7:T->T->Mem->Out (List T):=fun x y M=>match zq x M,y with
 | some xs,.int k=>if 0<=k/\k<=8/\xs.length<=1000 then .ok (List.replicate k.toNat xs).flatten M else .bad
 | _,_=>.bad
variable {X:Cx} {XE:XK}
theorem znd:OpR X (binaryOp .Mult) (zjP XE X.K zf7):=by
 intro pins s σ H x y v u Q I rx ry ⟨S,⟨tx,ty⟩,e,m,⟨r1,r2⟩,fin⟩
 subst e
 replace fin:FinL XE X.K S (zf7 tx ty S.M) Q:=fin
 unfold zf7 at fin
 split at fin
 ·rename_i xs k q1
  split at fin
  ·rename_i hz
   obtain ⟨p,vs,e1,h1,s1⟩:=zC m r1 q1
   dsimp only at e1
   subst e1
   cases r2
   refine znc pins s σ S.H _ _ v u Q I rx ry ⟨p,k,vs,rfl,rfl,h1,by omega,by omega,?_,zhN m fin (s1.rep _)⟩
   rw [← s1.1,sizeLine_eq]
   exact Qj (Nat.mul_le_mul hz.2.2 (show k.toNat<=8 by omega)) (by decide)
  ·exact fin.elim
 ·exact fin.elim
noncomputable def zey:T->Mem->Out T:=fun x M=>match x with
 | .ref a=>match M[a]? with
  | some (.lst _)=>.ok .non (M.set a (.lst []))
  | _=>.bad
 | _=>.bad
variable {f:Ev->Mem->Out T} {o:Expr} {apos cpos:Pos}
section
end
section
theorem zj8 (ho:WE X XE o f) (hbase:attributeBase o "clear" X.env (eval o X.env) = eval o X.env:=by rfl) (hline:(apos.endLine == cpos.line) = true:=by rfl):WE X XE (.Call (.Attribute o "clear" apos) [] [] cpos) (eUn zey f):=by
 have ho:=ho.pe
 exact ⟨PE.imp (zoT PySem.F.plainAttrs_list PySem.F.slot_list_clear PySem.F.type_list_clear zlL ho hbase hline) fun σ H Q h=>
  LN.mono (LN.bind (f:=fun _ σ M=>f σ M) (k:=fun _ x σ M1=>zey x M1) (RB:=Rep X.K) h) fun v H1 h2=>by
   obtain ⟨S,στ,a,e,m,ev,ra,fin⟩:=h2
   have r:Rep X.K S a.2 v:=ra.2
   replace fin:Fin XE (Rep X.K) X.K S (zey a.2 S.M) Q:=fin
   generalize a.2 = t at r fin
   subst e
   unfold zey at fin
   split at fin
   ·rename_i b
    split at fin
    ·rename_i ts q
     have ty:=zed m r (by unfold zbw zq;dsimp only;rw [q];rfl)
     cases r
     obtain ⟨vs,h4,_⟩:=m.cell _ _ q
     refine ⟨ty,_,vs,rfl,rfl,h4,?_⟩
     exact fin (S.put b (.lst []) (.lst [])) .non rfl (zdA m q .nil) .non
    ·exact fin.elim
   ·exact fin.elim⟩
end
end FT
namespace L2
open PySem PySem.Spec PyProof.Rows
section
variable {prog:Program} {w:World} {A:Around} {E:Value->Shared->Prop} {s:Shared}
theorem ze6 {l:Addr} {items:Array Value} {Q:List Value->Shared->Prop} (hh:A.handled = none) (hl:s.heap.IsList l items) (hQ:∀ h':Heap,Heap.ExtBut s.heap.objs.size s.heap h'->Q items.toList { s with heap:=h' }) :
  wpAny (model prog w) A (unpackItems (.ref l) items.size none) Q E s:=by
 have hT:s.TypeIs (.ref l) "list":=by
  obtain ⟨o,ho,hc,_⟩:=hl
  exact ⟨o,ho,hc⟩
 have hlt:l < s.heap.objs.size:=by
  obtain ⟨o,ho,_⟩:=hl
  exact Qe ho
 unfold unpackItems
 refine Q1 ?_
 unfold notIterableAtAll
 refine Q1 (wpAny_specialOf hT PySem.F.slot_list_iter.lookup (Qf ?_))
 simp only [Bool.false_eq_true,if_false]
 refine Q1 (wpAny_holding (wpAny_pyIter_list hl ?_))
 have hl1:(s.heap.push { cls:=Value.type "list_iterator",data:=Data.fields #[Value.ref l,Value.int 0 0] }).IsList l items:=by
  obtain ⟨o,ho,r⟩:=hl
  exact ⟨o,Q2 _ ho,r⟩
 refine Q1 (wpAny_holding (W.kun_draw (it:=s.heap.objs.size) (l:=l) (items:=items) (Qk hlt) items.size 0 _ _ ⟨_,Ql _ rfl,rfl,rfl⟩ hl1 (by omega) fun h1 i1 sb=>?_))
 have e1:List.take items.size (List.drop 0 items.toList) = items.toList:=by rw [drop_zero,take_of_length_le (by simp)]
 rw [e1]
 rw [if_neg (by simp)]
 have hl2:h1.IsList l items:=by
  obtain ⟨o,ho,r⟩:=hl1
  exact ⟨o,by rw [sb.2 l (Qk hlt)];exact ho,r⟩
 rw [Nat.zero_add] at i1
 refine Q1 (wpAny_holding (wpAny_pyNext_list_end hh i1 hl2 (by simp) fun h2 x2=>?_))
 simp only [Option.isSome_none,Bool.false_eq_true,if_false]
 exact Qf (hQ h2 fun b o hb e=>x2 b o hb (by rw [sb.2 b hb];exact Q2 _ e))
end
section
variable {X:Cx} {pos:Pos}
noncomputable def zjU (K:Frag) (n:Nat) (t:TGs):TG:=fun v σ H Q=>∃ a xs,v = .ref a/\SqL K H a xs/\xs.length = n/\t xs σ H Q
theorem ziY {es:List Expr} {k:Nat} {t:TGs} {n:Nat} (hc:X.calm = true) (h:PGs X es t)
  (hn:(assignEach es X.env).length = n:=by rfl) (hst:(assignEach es X.env).findIdx? (·.1) = none:=by rfl):PG X (.Tuple es k pos) (zjU X.K n t):=by
 intro pins s σ H v u Q I r hw
 obtain ⟨a,xs,e1,hq,hl,hw⟩:=hw
 subst e1
 cases r
 obtain ⟨its,rv,ht,hz⟩:=I.list hq
 rw [assign_Tuple]
 refine Q1 (wpAny_standAt ?_)
 unfold unpack
 rw [hst,show (assignEach es X.env).length = its.toArray.size by rw [hn,← hl,rv.length,Qi]]
 refine Q1 (wpAny_holding (ze6 (I.ok.hd hc) ht.isList fun h' hx=>?_))
 have I1:Inv X pins σ H { s with heap:=h' }:=I.kept (t':=s.toks) fun b o e=>hx b o (Qk (Qe e)) e
 exact h pins _ σ H xs _ Q I1 (by simpa using rv) hw
end
end L2
namespace FT
open PySem PySem.Spec PyProof.Rows L2
noncomputable def zd8 (n:Nat) (bs:List T->Ev->Mem->Out Ev):T->Ev->Mem->Out Ev:=fun t σ M=>match zq t M with
 | some xs=>if xs.length = n then bs xs σ M else .bad
 | none=>.bad
variable {X:Cx} {tg:Expr} {n:Nat} {XE:XK}
section
end
section
theorem zhk {bs:List T->Ev->Mem->Out Ev} (h:PG X tg (zjU X.K n (lGs XE X.K bs))):WG X XE tg (zd8 n bs):=⟨PG.imp h fun v σ H Q h9=>by
 obtain ⟨S,στ,t,e,m,ev,ra,fin⟩:=h9
 replace fin:Fin XE (EvR X.K) X.K S (match zq t S.M with
  | some xs=>if xs.length = n then bs xs στ S.M else .bad
  | none=>.bad) Q:=fin
 cases q:zq t S.M with
 | none=>rw [q] at fin;exact fin.elim
 | some ts=>
  rw [q] at fin
  obtain ⟨p,vs,rfl,h1,rs⟩:=zC m ra q
  dsimp only at fin
  by_cases hn:ts.length = n
  ·rw [if_pos hn] at fin
   exact ⟨p,vs,rfl,by rw [← e];exact h1,by rw [← rs.1];exact hn,S,στ,ts,e,m,ev,rs,fin⟩
  ·rw [if_neg hn] at fin;exact fin.elim⟩
end
def Ok {β:Type} (o:Out β) (Q:β->Mem->Prop):Prop:=∃ b M,o = .ok b M/\Q b M
variable {M:Mem}
theorem Ok.ret {β:Type} {b:β} {Q:β->Mem->Prop} (h:Q b M):Ok (.ok b M) Q:=⟨b,M,rfl,h⟩
theorem Ok.of {β:Type} {o:Out β} {b:β} {Q:β->Mem->Prop} (e:o = .ok b M) (h:Q b M):Ok o Q:=⟨b,M,e,h⟩
theorem Ok.bind {β γ:Type} {o:Out β} {k:β->Mem->Out γ} {P:β->Mem->Prop} {Q:γ->Mem->Prop} (h:Ok o P) (g:∀ b M,P b M->Ok (k b M) Q):Ok (o.bind k) Q:=by
 obtain ⟨b,M,e,p⟩:=h
 rw [e]
 exact g b M p
theorem Ok.mono {β:Type} {o:Out β} {P Q:β->Mem->Prop} (h:Ok o P) (g:∀ b M,P b M->Q b M):Ok o Q:=by
 obtain ⟨b,M,e,p⟩:=h
 exact ⟨b,M,e,g b M p⟩
theorem zmi {β γ δ:Type} {o:Out β} {k:β->Mem->Out γ} {l:γ->Mem->Out δ}:(o.bind k).bind l = o.bind fun b M=>(k b M).bind l:=by cases o <;> rfl
theorem zrO {β γ:Type} {p:Prop} [Decidable p] {x y:Out β} {k:β->Mem->Out γ}:(if p then x else y).bind k = if p then x.bind k else y.bind k:=by split <;> rfl
variable {t:T}
theorem zrN {β γ:Type} {k:Bool->Mem->Out β} {l:β->Mem->Out γ}:(blT t M k).bind l = blT t M fun b M=>(k b M).bind l:=by cases t <;> rfl
noncomputable def zb9 (fl:Fl) (M:Mem):Out T:=match fl with
 | .rt t=>.ok t M
 | .nx _=>.ok .non M
 | _=>.bad
theorem zrU:zb9 (.rt t) M = .ok t M:=rfl
variable {σ:Ev}
theorem zrV:zb9 (.nx σ) M = .ok .non M:=rfl
theorem yy {p:Nat} {g:Ev->Mem->Out Fl} {ts:List T} {Q:T->Mem->Prop} (h:ts.length = p) (k:Ok ((g (startT n ts) M).bind zb9) Q):Ok (qi p n g ts M) Q:=by
 obtain ⟨b,M1,e,q⟩:=k
 refine ⟨b,M1,?_,q⟩
 rw [zkj h]
 cases r:g (startT n ts) M with
 | bad=>rw [r] at e;cases e
 | exn C fs M'=>rw [r] at e;cases e
 | ok fl M'=>
  rw [r] at e
  cases fl with
  | rt t=>exact e
  | nx σ=>exact e
  | bk σ=>cases e
  | ct σ=>cases e
def Fr (S:List Nat) (M M':Mem):Prop:=M.length<=M'.length/\∀ i,i < M.length->i ∉ S->M'[i]? = M[i]?
theorem Fr.refl (S:List Nat) (M:Mem):Fr S M M:=⟨Q3 _,fun _ _ _=>rfl⟩
variable {A B C:Mem}
theorem Fr.trans {S:List Nat} (h:Fr S A B) (g:Fr S B C):Fr S A C:=⟨Qj h.1 g.1,fun i hi hs=>by rw [g.2 i (Q5 hi h.1) hs,h.2 i hi hs]⟩
variable {S':List Nat}
theorem Fr.tr {S:List Nat} (h:Fr S A B) (g:Fr S' B C) (s:∀ i ∈ S',i ∈ S\/A.length<=i):Fr S A C:=⟨Qj h.1 g.1,fun i hi hs=>by
 rw [g.2 i (Q5 hi h.1) (fun z=>by rcases s i z with a | a;exact hs a;omega),h.2 i hi hs]⟩
variable {M':Mem} {i:Nat}
theorem Fr.get {S:List Nat} (h:Fr S M M') {c:Cell} (e:M[i]? = some c) (hs:i ∉ S):M'[i]? = some c:=by
 rw [h.2 i (List.getElem?_eq_some_iff.mp e).1 hs];exact e
theorem Fr.get0 (h:Fr [] M M') {c:Cell} (e:M[i]? = some c):M'[i]? = some c:=h.get e (by simp)
theorem Fr.sub {S:List Nat} (h:Fr S M M') (s:∀ i ∈ S,i ∈ S'\/M.length<=i):Fr S' M M':=⟨h.1,fun i hi hs=>h.2 i hi fun z=>by
 rcases s i z with a | a
 ·exact hs a
 ·omega⟩
theorem Fr.app (M:Mem) (l:List Cell):Fr [] M (M ++ l):=⟨by simp,fun i hi _=>by rw [Q6 hi]⟩
theorem Fr.set (M:Mem) (a:Nat) (c:Cell):Fr [a] M (M.set a c):=⟨by simp,fun i _ hs=>by rw [Qc,if_neg (by simp at hs;omega)]⟩
theorem Fr.mono {S:List Nat} (h:Fr [] M M'):Fr S M M':=h.sub (fun i hi=>by simp at hi)
theorem yA {c:Cell} (e:M[i]? = some c):i < M.length:=(List.getElem?_eq_some_iff.mp e).1
theorem yM {c:Cell}:(M ++ [c])[M.length]? = some c:=List.getElem?_concat_length
theorem get_set {a:Nat} {c c':Cell} (e:M[a]? = some c):(M.set a c')[a]? = some c':=by
 rw [Qc,if_pos rfl,if_pos (yA e)]
theorem Ok.loop {bd:T->Ev->Mem->Out Ev} {body:Ev->Mem->Out Fl} {α:Type} {r:α->T} (P:Nat->Ev->Mem->Prop) {R:T->Mem->Prop}:∀ (xs:List α) (i:Nat) {σ:Ev} {M:Mem},
  P i σ M->(∀ (k:Nat) x σ M,xs[k]? = some x->P (i + k) σ M->Ok ((bd (r x) σ M).bind fun σ1 M1=>body σ1 M1) fun fl M'=>(∃ σ',(fl = .nx σ'\/fl = .ct σ')/\P (i + k + 1) σ' M')\/(∃ σ',fl = .bk σ'/\P (i + xs.length) σ' M')\/∃ t,fl = .rt t/\R t M')->
  Ok (forL bd body (xs.map r) σ M) fun fl M'=>(∃ σ',fl = .nx σ'/\P (i + xs.length) σ' M')\/∃ t,fl = .rt t/\R t M'
 | [],i,σ,M,h,_=>⟨.nx σ,M,rfl,.inl ⟨σ,rfl,h⟩⟩
 | x :: xs,i,σ,M,h,t=>by
  obtain ⟨fl,M1,e1,h1⟩:=t 0 x σ M rfl h
  rw [map_cons,zkU]
  cases q:bd (r x) σ M with
  | bad=>rw [q] at e1;cases e1
  | exn C fs M'=>rw [q] at e1;cases e1
  | ok σ3 M3=>
   rw [q] at e1
   replace e1:body σ3 M3 = .ok fl M1:=e1
   show Ok ((body σ3 M3).bind (zV (forL bd body (xs.map r)))) _
   rw [e1]
   have go:∀ σ1,P (i + 1) σ1 M1->Ok (forL bd body (xs.map r) σ1 M1) fun fl M'=>(∃ σ',fl = .nx σ'/\P (i + (x :: xs).length) σ' M')\/∃ t,fl = .rt t/\R t M':=fun σ1 h1=>by
    have ih:=Ok.loop (R:=R) P xs (i + 1) (bd:=bd) (body:=body) h1 (fun k y σ M hk hp=>by
     have:=t (k + 1) y σ M (by simpa using hk) (by rw [show i + (k + 1) = i + 1 + k by omega];exact hp)
     rw [show i + (k + 1) + 1 = i + 1 + k + 1 by omega,Qp,show i + (xs.length + 1) = i + 1 + xs.length by omega] at this
     exact this)
    rw [Qp,show i + (xs.length + 1) = i + 1 + xs.length by omega]
    exact ih
   rcases h1 with ⟨σ1,h1 | h1,h2⟩ | ⟨σ1,h1,h2⟩ | ⟨u,h1,h2⟩
   ·rw [h1];exact go σ1 h2
   ·rw [h1];exact go σ1 h2
   ·rw [h1];exact ⟨.nx σ1,M1,rfl,.inl ⟨σ1,rfl,h2⟩⟩
   ·rw [h1];exact ⟨.rt u,M1,rfl,.inr ⟨u,rfl,h2⟩⟩
variable {body:Ev->Mem->Out Fl} {bd:T->Ev->Mem->Out Ev}
theorem Ok.for {α:Type} {r:α->T} (P:Nat->Ev->Mem->Prop) {xs:List α} 
 (h:P 0 σ M) (t:∀ (k:Nat) x σ M,xs[k]? = some x->P k σ M->Ok ((bd (r x) σ M).bind fun σ1 M1=>body σ1 M1) fun fl M'=>∃ σ',fl = .nx σ'/\P (k + 1) σ' M') :
  Ok (forL bd body (xs.map r) σ M) fun fl M'=>∃ σ',fl = .nx σ'/\P xs.length σ' M':=by
 refine (Ok.loop (R:=fun _ _=>False) P xs 0 h (fun k x σ M hk hp=>?_)).mono ?_
 ·rw [Nat.zero_add] at hp
  refine (t k x σ M hk hp).mono ?_
  rintro fl M' ⟨σ',e,q⟩
  exact .inl ⟨σ',.inl e,by rw [Nat.zero_add];exact q⟩
 ·rintro fl M' (⟨σ',e,q⟩ | ⟨t,_,f⟩)
  ·exact ⟨σ',e,by rw [Nat.zero_add] at q;exact q⟩
  ·exact f.elim
theorem Ok.comp {bd:T->Ev->Mem->Out Ev} {cond:Ev->Mem->Out Bool} {el:Ev->Mem->Out T} {α:Type} {r:α->T} (P:Nat->List T->Ev->Mem->Prop):∀ (xs:List α) {σ:Ev} {M:Mem} (i:Nat) (acc:List T),
  P i acc σ M->acc.length + xs.length<=sizeLine->(∀ (k:Nat) x σ M acc,xs[k]? = some x->P (i + k) acc σ M->Ok ((bd (r x) σ M).bind fun σ1 M1=>(cond σ1 M1).bind fun b M2=>if b = true then (el σ1 M2).bind fun t M3=>.ok (some t,σ1) M3 else .ok (none,σ1) M2) fun o M'=>P (i + k + 1) (match o.1 with | some t=>acc ++ [t] | none=>acc) o.2 M')->
  Ok (qA bd cond el (xs.map r) σ M acc) fun ts M'=>∃ σ',P (i + xs.length) ts σ' M'
 | [],σ,M,i,acc,h,_,_=>⟨acc,M,by simp [qA],σ,h⟩
 | x :: xs,σ,M,i,acc,h,hl,t=>by
  obtain ⟨o,M1,e1,h1⟩:=t 0 x σ M acc rfl h
  rw [Qp] at hl
  rw [map_cons]
  unfold qA
  have go:∀ acc σ1 M1,acc.length + xs.length<=sizeLine->P (i + 1) acc σ1 M1->Ok (qA bd cond el (xs.map r) σ1 M1 acc) fun ts M'=>∃ σ',P (i + (x :: xs).length) ts σ' M':=fun acc σ1 M1 hl h1=>by
   have ih:=Ok.comp P xs (i + 1) acc (bd:=bd) (cond:=cond) (el:=el) h1 hl (fun k y σ M acc hk hp=>by
    have:=t (k + 1) y σ M acc (by simpa using hk) (by rw [show i + (k + 1) = i + 1 + k by omega];exact hp)
    rw [show i + (k + 1) + 1 = i + 1 + k + 1 by omega] at this
    exact this)
   rw [Qp,show i + (xs.length + 1) = i + 1 + xs.length by omega]
   exact ih
  cases q:bd (r x) σ M with
  | bad=>rw [q] at e1;cases e1
  | exn C fs M'=>rw [q] at e1;cases e1
  | ok σ3 M3=>
   rw [q] at e1
   replace e1:((cond σ3 M3).bind fun b M2=>if b = true then (el σ3 M2).bind fun t M3=>.ok (some t,σ3) M3 else .ok (none,σ3) M2) = .ok o M1:=e1
   show Ok ((cond σ3 M3).bind _) _
   cases q2:cond σ3 M3 with
   | bad=>rw [q2] at e1;cases e1
   | exn C fs M'=>rw [q2] at e1;cases e1
   | ok b M4=>
    rw [q2] at e1
    cases b with
    | false=>
     replace e1:(Out.ok (none,σ3) M4:Out (Option T × Ev)) = .ok o M1:=e1
     cases e1
     exact go acc σ3 _ (by omega) h1
    | true=>
     replace e1:((el σ3 M4).bind fun t M3=>.ok (some t,σ3) M3) = .ok o M1:=e1
     show Ok ((el σ3 M4).bind _) _
     cases q3:el σ3 M4 with
     | bad=>rw [q3] at e1;cases e1
     | exn C fs M'=>rw [q3] at e1;cases e1
     | ok u M5=>
      rw [q3] at e1
      replace e1:(Out.ok (some u,σ3) M5:Out (Option T × Ev)) = .ok o M1:=e1
      cases e1
      show Ok (if acc.length < sizeLine then _ else _) _
      rw [if_pos (by omega)]
      exact go (acc ++ [u]) σ3 _ (by rw [Qn,Qp,length_nil];omega) h1
theorem Ok.whileN {c:Ev->Mem->Out Bool} {body:Ev->Mem->Out Fl} (P:Ev->Mem->Prop) (μ:Ev->Mem->Nat) {Q:Ev->Mem->Prop} {R:T->Mem->Prop}
  (t:∀ σ M,P σ M->Ok (c σ M) fun b M1=>(b = true/\Ok (body σ M1) fun fl M2=>(∃ σ',(fl = .nx σ'\/fl = .ct σ')/\P σ' M2/\μ σ' M2 < μ σ M)\/(∃ σ',fl = .bk σ'/\Q σ' M2)\/∃ t,fl = .rt t/\R t M2)\/(b = false/\Q σ M1)) :
  ∀ (n:Nat) (σ:Ev) (M:Mem),μ σ M < n->P σ M->Ok (whileN c body n σ M) fun fl M'=>(∃ σ',fl = .nx σ'/\Q σ' M')\/∃ t,fl = .rt t/\R t M'
 | 0,_,_,hn,_=>absurd hn (by omega)
 | n + 1,σ,M,hn,h=>by
  obtain ⟨b,M1,e,r⟩:=t σ M h
  unfold FT.whileN
  rw [e]
  rcases r with ⟨rfl,fl,M2,e2,r⟩ | ⟨rfl,q⟩
  ·show Ok ((body σ M1).bind _) _
   rw [e2]
   rcases r with ⟨σ1,h1 | h1,h2,h3⟩ | ⟨σ1,h1,h2⟩ | ⟨u,h1,h2⟩
   ·rw [h1];exact Ok.whileN P μ t n σ1 M2 (by omega) h2
   ·rw [h1];exact Ok.whileN P μ t n σ1 M2 (by omega) h2
   ·rw [h1];exact ⟨.nx σ1,M2,rfl,.inl ⟨σ1,rfl,h2⟩⟩
   ·rw [h1];exact ⟨.rt u,M2,rfl,.inr ⟨u,rfl,h2⟩⟩
  ·exact ⟨.nx σ,M1,rfl,.inl ⟨σ,rfl,q⟩⟩
theorem Ok.while {c:Ev->Mem->Out Bool} (P:Ev->Mem->Prop) (μ:Ev->Mem->Nat) {Q:Ev->Mem->Prop} {R:T->Mem->Prop} (h:P σ M)
 (t:∀ σ M,P σ M->Ok (c σ M) fun b M1=>(b = true/\Ok (body σ M1) fun fl M2=>(∃ σ',(fl = .nx σ'\/fl = .ct σ')/\P σ' M2/\μ σ' M2 < μ σ M)\/(∃ σ',fl = .bk σ'/\Q σ' M2)\/∃ t,fl = .rt t/\R t M2)\/(b = false/\Q σ M1)) :
  Ok (zbO c body σ M) fun fl M'=>(∃ σ',fl = .nx σ'/\Q σ' M')\/∃ t,fl = .rt t/\R t M':=by
 obtain ⟨fl,M',e,r⟩:=Ok.whileN P μ t (μ σ M + 1) σ M (by omega) h
 exact ⟨fl,M',zki _ e (by simp),r⟩
noncomputable def rgI (n:Nat):List Int:=(List.range n).map fun (k:Nat)=>(k:Int)
theorem zam (n:Nat):(rgI n).length = n:=by simp [rgI]
variable {x:Int}
theorem zaE {k:Nat} (h:(rgI n)[k]? = some x):k < n/\x = k:=by
 unfold rgI at h
 rw [Qb] at h
 cases q:(List.range n)[k]? with
 | none=>rw [q] at h;cases h
 | some j=>
  rw [q] at h
  have hk:k < n:=by have:=(List.getElem?_eq_some_iff.mp q).1;simpa using this
  rw [getElem?_range hk] at q
  cases q
  exact ⟨hk,(Qd h).symm⟩
theorem zlt (n:Nat):zdo 0 n = (rgI n).map .int:=by
 unfold zdo rgI
 rw [map_map]
 congr 1
 funext k
 simp
variable {j:Int}
theorem zal (h:-(2 ^ 62)<=j/\j < 2 ^ 62):zcA [.int j] M = .ok ((rgI j.toNat).map .int) M:=by rw [zot h,zlt]
noncomputable def rgF (lo:Int) (n:Nat):List Int:=(List.range n).map fun (k:Nat)=>lo + (k:Int)
theorem zmP (lo:Int) (n:Nat):(rgF lo n).length = n:=by simp [rgF]
theorem zmQ {lo:Int} {k:Nat} (h:(rgF lo n)[k]? = some x):k < n/\x = lo + k:=by
 unfold rgF at h
 rw [Qb] at h
 cases q:(List.range n)[k]? with
 | none=>rw [q] at h;cases h
 | some j=>
  rw [q] at h
  have hk:k < n:=by have:=(List.getElem?_eq_some_iff.mp q).1;simpa using this
  rw [getElem?_range hk] at q
  cases q
  exact ⟨hk,(Qd h).symm⟩
theorem zmO {i:Int} (h:(-(2 ^ 62)<=i/\i < 2 ^ 62)/\(-(2 ^ 62)<=j/\j < 2 ^ 62)):zfe [.int i,.int j] M = .ok ((rgF i (j - i).toNat).map .int) M:=by
 rw [show zfe [.int i,.int j] M = .ok (zdo i (j - i).toNat) M from if_pos h]
 unfold zdo rgF
 rw [map_map]
 rfl
theorem zpp (h:0<=x/\x < n):ixN n x = some x.toNat:=by
 unfold ixN
 rw [if_pos (by omega)]
 simp
 try omega
variable {el:Ev->Mem->Out T}
theorem Ok.filt {cond:Ev->Mem->Out Bool} {α:Type} {r:α->T} (I:Ev->Prop) (c:α->Bool) (f:α->T) {xs:List α} (h:I σ) (hl:xs.length<=1000000)
 (t:∀ x σ,x ∈ xs->I σ->∃ σ1,bd (r x) σ M = .ok σ1 M/\I σ1/\cond σ1 M = .ok (c x) M/\(c x = true->el σ1 M = .ok (f x) M)):qA bd cond el (xs.map r) σ M [] = .ok ((xs.filter c).map f) M:=by
 have key:∀ (xs:List α) (σ:Ev) (acc:List T),(∀ x σ,x ∈ xs->I σ->∃ σ1,bd (r x) σ M = .ok σ1 M/\I σ1/\cond σ1 M = .ok (c x) M/\(c x = true->el σ1 M = .ok (f x) M))->I σ->acc.length + xs.length<=sizeLine->qA bd cond el (xs.map r) σ M acc = .ok (acc ++ (xs.filter c).map f) M:=by
  intro xs
  induction xs with
  | nil=>intro σ acc _ _ _;simp [qA]
  | cons x xs ih=>
   intro σ acc t h hl
   obtain ⟨σ1,e1,h1,e2,e3⟩:=t x σ (.head _) h
   rw [Qp] at hl
   rw [map_cons]
   unfold qA
   rw [e1]
   show ((cond σ1 M).bind _) = _
   rw [e2]
   cases hc:c x with
   | true=>
    have ih:=ih σ1 (acc ++ [f x]) (fun y σ hy=>t y σ (.tail _ hy)) h1 (by rw [Qn,Qp,length_nil];omega)
    show ((el σ1 M).bind _) = _
    rw [e3 hc]
    show (if acc.length < sizeLine then qA bd cond el (xs.map r) σ1 M (acc ++ [f x]) else .bad) = _
    rw [if_pos (by omega),ih,List.filter_cons_of_pos hc]
    simp
   | false=>
    have ih:=ih σ1 acc (fun y σ hy=>t y σ (.tail _ hy)) h1 (by omega)
    show qA bd cond el (xs.map r) σ1 M acc = _
    rw [ih,List.filter_cons_of_neg (by rw [hc];exact Q4)]
 have:=key xs σ [] t h (by rw [length_nil,Nat.zero_add];exact Qj hl (by decide))
 rw [this,nil_append]
theorem Ok.mapc {α:Type} {r:α->T} (I:Ev->Prop) (f:α->T) {xs:List α} (h:I σ) (hl:xs.length<=1000000)
 (t:∀ x σ,x ∈ xs->I σ->∃ σ1,bd (r x) σ M = .ok σ1 M/\I σ1/\el σ1 M = .ok (f x) M):qA bd zX el (xs.map r) σ M [] = .ok (xs.map f) M:=by
 have:=Ok.filt (cond:=zX) I (fun _=>true) f h hl (fun x σ hx hs=>by
  obtain ⟨σ1,a,b,c⟩:=t x σ hx hs
  exact ⟨σ1,a,b,rfl,fun _=>c⟩)
 rw [this,List.filter_eq_self.mpr (fun _ _=>rfl)]
theorem zaa {a:Nat} {xs:List T} (e:M[a]? = some (.lst xs)):zq (.ref a) M = some xs:=by
 unfold zq
 simp only [e]
theorem Ok.loopG {G:Gd} {bd:T->Ev->Mem->Out Ev} {body:Ev->Mem->Out Fl} {α:Type} {r:α->T} (P:Nat->Ev->Mem->Prop) {R:T->Mem->Prop} (hG:∀ i σ M,P i σ M->zbS G M):∀ (xs:List α) (i:Nat) {σ:Ev} {M:Mem},
  P i σ M->(∀ (k:Nat) x σ M,xs[k]? = some x->P (i + k) σ M->Ok ((bd (r x) σ M).bind fun σ1 M1=>body σ1 M1) fun fl M'=>(∃ σ',(fl = .nx σ'\/fl = .ct σ')/\P (i + k + 1) σ' M')\/(∃ σ',fl = .bk σ'/\P (i + xs.length) σ' M')\/∃ t,fl = .rt t/\R t M')->
  Ok (forG G bd body (xs.map r) σ M) fun fl M'=>(∃ σ',fl = .nx σ'/\P (i + xs.length) σ' M')\/∃ t,fl = .rt t/\R t M'
 | [],i,σ,M,h,_=>⟨.nx σ,M,by rw [map_nil];unfold forG;exact zh3 (hG _ _ _ h),.inl ⟨σ,rfl,h⟩⟩
 | x :: xs,i,σ,M,h,t=>by
  obtain ⟨fl,M1,e1,h1⟩:=t 0 x σ M rfl h
  rw [map_cons]
  unfold forG
  rw [zh3 (hG _ _ _ h)]
  cases q:bd (r x) σ M with
  | bad=>rw [q] at e1;cases e1
  | exn C fs M'=>rw [q] at e1;cases e1
  | ok σ3 M3=>
   rw [q] at e1
   replace e1:body σ3 M3 = .ok fl M1:=e1
   show Ok ((body σ3 M3).bind (zV (forG G bd body (xs.map r)))) _
   rw [e1]
   have go:∀ σ1,P (i + 1) σ1 M1->Ok (forG G bd body (xs.map r) σ1 M1) fun fl M'=>(∃ σ',fl = .nx σ'/\P (i + (x :: xs).length) σ' M')\/∃ t,fl = .rt t/\R t M':=fun σ1 h1=>by
    have ih:=Ok.loopG (R:=R) P hG xs (i + 1) (bd:=bd) (body:=body) h1 (fun k y σ M hk hp=>by
     have:=t (k + 1) y σ M (by simpa using hk) (by rw [show i + (k + 1) = i + 1 + k by omega];exact hp)
     rw [show i + (k + 1) + 1 = i + 1 + k + 1 by omega,Qp,show i + (xs.length + 1) = i + 1 + xs.length by omega] at this
     exact this)
    rw [Qp,show i + (xs.length + 1) = i + 1 + xs.length by omega]
    exact ih
   rcases h1 with ⟨σ1,h1 | h1,h2⟩ | ⟨σ1,h1,h2⟩ | ⟨u,h1,h2⟩
   ·rw [h1];exact go σ1 h2
   ·rw [h1];exact go σ1 h2
   ·rw [h1];exact ⟨.nx σ1,M1,rfl,.inl ⟨σ1,rfl,h2⟩⟩
   ·rw [h1];exact ⟨.rt u,M1,rfl,.inr ⟨u,rfl,h2⟩⟩
theorem Ok.forG {G:Gd} {α:Type} {r:α->T} (P:Nat->Ev->Mem->Prop) {xs:List α} (hG:∀ i σ M,P i σ M->zbS G M)
 (h:P 0 σ M) (t:∀ (k:Nat) x σ M,xs[k]? = some x->P k σ M->Ok ((bd (r x) σ M).bind fun σ1 M1=>body σ1 M1) fun fl M'=>∃ σ',fl = .nx σ'/\P (k + 1) σ' M') :
  Ok (forG G bd body (xs.map r) σ M) fun fl M'=>∃ σ',fl = .nx σ'/\P xs.length σ' M':=by
 refine (Ok.loopG (R:=fun _ _=>False) P hG xs 0 h (fun k x σ M hk hp=>?_)).mono ?_
 ·rw [Nat.zero_add] at hp
  refine (t k x σ M hk hp).mono ?_
  rintro fl M' ⟨σ',e,q⟩
  exact .inl ⟨σ',.inl e,by rw [Nat.zero_add];exact q⟩
 ·rintro fl M' (⟨σ',e,q⟩ | ⟨t,_,f⟩)
  ·exact ⟨σ',e,by rw [Nat.zero_add] at q;exact q⟩
  ·exact f.elim
def OkX {β:Type} (o:Out β) (Q:β->Mem->Prop) (E:Addr->List (Str × T)->Mem->Prop):Prop:=match o with
 | .ok b M=>Q b M
 | .exn C fs M=>E C fs M
 | .bad=>False
variable {E:Addr->List (Str × T)->Mem->Prop}
theorem OkX.ok {β:Type} {o:Out β} {Q:β->Mem->Prop} (h:Ok o Q):OkX o Q E:=by
 obtain ⟨b,M,rfl,q⟩:=h
 exact q
theorem OkX.bind {β γ:Type} {o:Out β} {k:β->Mem->Out γ} {P:β->Mem->Prop} {Q:γ->Mem->Prop} (h:OkX o P E) (g:∀ b M,P b M->OkX (k b M) Q E):OkX (o.bind k) Q E:=by
 cases o with
 | ok b M=>exact g b M h
 | exn C fs M=>exact h
 | bad=>exact h.elim
end FT
namespace My
open PySem L2 FT
noncomputable def top (i:Nat):Stmt:=PySem.Challenge.pw_tryweir_k37_events_that_may_come.main.body.getD i (.Pass ⟨0,0,0,0⟩)
noncomputable abbrev zfb:Stmt:=top 39
noncomputable abbrev zeh:Stmt:=top 40
noncomputable abbrev zfd:Stmt:=top 41
noncomputable abbrev zf0:Stmt:=top 42
noncomputable abbrev zeg:Stmt:=top 43
noncomputable abbrev zf3:Stmt:=top 38
noncomputable abbrev zek:Stmt:=top 49
noncomputable abbrev zf1:Stmt:=top 50
noncomputable abbrev zei:Stmt:=top 44
noncomputable abbrev zej:Stmt:=top 45
noncomputable abbrev zel:Stmt:=top 46
noncomputable abbrev zfZ:Stmt:=top 47
noncomputable abbrev zf2:Stmt:=top 48
noncomputable abbrev zhC:Stmt:=top 51
noncomputable abbrev zfc:Stmt:=top 37
noncomputable abbrev zdO:Stmt:=top 52
noncomputable abbrev zdT:Stmt:=inClass (top 13) 0
noncomputable abbrev zem:Stmt:=top 14
noncomputable abbrev zcx:Stmt:=top 23
noncomputable abbrev zbz:Stmt:=top 24
noncomputable abbrev zbk:Stmt:=top 26
noncomputable abbrev zdl:Stmt:=top 8
noncomputable abbrev zdL:Stmt:=top 15
noncomputable abbrev zcV:Stmt:=top 16
noncomputable abbrev zcU:Stmt:=top 17
noncomputable abbrev zdQ:Stmt:=top 25
noncomputable abbrev zdn:Stmt:=top 27
noncomputable abbrev zdP:Stmt:=top 4
noncomputable abbrev zdm:Stmt:=top 6
noncomputable abbrev zdR:Stmt:=top 28
noncomputable abbrev zcy:Stmt:=top 33
noncomputable abbrev zdS:Stmt:=top 9
noncomputable abbrev zcz:Stmt:=inClass (top 12) 0
noncomputable abbrev zcj:Stmt:=top 19
noncomputable abbrev za8:Stmt:=top 20
noncomputable abbrev zbN:Stmt:=top 21
noncomputable abbrev zfx:Stmt:=top 22
noncomputable abbrev zhB:Stmt:=top 29
noncomputable abbrev zdk:Stmt:=top 18
noncomputable abbrev zdj:Stmt:=top 30
noncomputable abbrev zf4:Stmt:=top 31
noncomputable abbrev zdN:Stmt:=top 32
noncomputable abbrev zfa:Stmt:=top 34
noncomputable abbrev zdM:Stmt:=top 35
noncomputable abbrev zjG:Stmt:=top 53
structure Txt (K:Frag) (mg:Str->Option Value) (kE kR:Addr):Prop where
 cls_Errand:Cls K kE
 cls_Run:Cls K kR
 na_Errand_asked:NoAttr K kE "asked"
 na_Errand_caller:NoAttr K kE "caller"
 na_Errand_house:NoAttr K kE "house"
 na_Errand_is_lost:NoAttr K kE "is_lost"
 na_Errand_state:NoAttr K kE "state"
 na_Errand_stood:NoAttr K kE "stood"
 na_Run_came:NoAttr K kR "came"
 na_Run_errands:NoAttr K kR "errands"
 na_Run_net:NoAttr K kR "net"
 na_Run_payments:NoAttr K kR "payments"
 na_Run_puts:NoAttr K kR "puts"
 na_Run_taken:NoAttr K kR "taken"
 n_range:mg "range" = none
 n_len:mg "len" = none
 n_min:mg "min" = none
 n_int:mg "int" = none
 n_tuple:mg "tuple" = none
 n_max:mg "max" = none
 n_isinstance:mg "isinstance" = none
 n_bool:mg "bool" = none
 n_list:mg "list" = none
 c_FRESH:∃ a,mg "FRESH" = some (.ref a)/\KTu K a [.str "fresh"]
theorem boot_range:bootBuiltins "range" = some (.type "range"):=by decide +kernel
theorem boot_len:bootBuiltins "len" = some (.builtin "len"):=by decide +kernel
theorem boot_min:bootBuiltins "min" = some (.builtin "min"):=by decide +kernel
theorem boot_int:bootBuiltins "int" = some (.type "int"):=by decide +kernel
theorem boot_tuple:bootBuiltins "tuple" = some (.type "tuple"):=by decide +kernel
theorem boot_max:bootBuiltins "max" = some (.builtin "max"):=by decide +kernel
theorem boot_isinstance:bootBuiltins "isinstance" = some (.builtin "isinstance"):=by decide +kernel
theorem boot_bool:bootBuiltins "bool" = some (.type "bool"):=by decide +kernel
theorem boot_list:bootBuiltins "list" = some (.type "list"):=by decide +kernel
end My
theorem FT.nc_l {k:PySem.NameKind} {P:Prop} (e:(k == .cell || k == .free) = false) (h:k = .cell\/k = .free):P:=by
 rcases h with rfl | rfl
 ·exact absurd e (by decide)
 ·exact absurd e (by decide)
open PySem L2 FT in
local macro_rules | `(tactic| bv_omega) => `(tactic| exact ⟨rfl, rfl, by decide +kernel, rfl, by decide +kernel, by first | exact (fun _ _ h => h) | exact zhT (by repeat (first | exact True.intro | refine ⟨rfl, ?_⟩)), fun _ => zpu (by repeat (first | exact True.intro | (refine ⟨?_, ?_⟩; first | exact (fun _ => ⟨_, rfl⟩) | exact nc_l rfl | exact (fun h => h.elim (fun h => nomatch h) (fun h => nomatch h))))), by repeat (first | exact List.forall_mem_nil _ | refine List.forall_mem_cons.mpr ⟨⟨rfl, rfl, by first | exact .inl rfl | exact .inr rfl⟩, ?_⟩)⟩)
namespace My
open PySem L2 FT
noncomputable def zh5 (kE kR:Addr):Ev->Mem->Out Fl:=
 (yh (sIf (yo (eOp gtI (eOp ixT (yb 0) (eC (.int 0))) (eC (.int 0)))) (yh (qp 2 (eOp zbR (eOp ixT (yb 0) (eC (.int 0))) (yb 1)))
 (yh (zaI (eOp zex (eOp ixT (yb 0) (eC (.int 0))) (yb 1)) (za2 zaL (yb 0) (eC (.int 0))))
 (qF (yb 2)))) zH)
 (yh (zaI (eOp yN (eOp ixT (yb 0) (eC (.int 2))) (eC (.int 1))) (za2 zaL (yb 0) (eC (.int 2))))
 (yh (qp 3 (eOp zbR (eOp yN (eOp ixT (yb 0) (eC (.int 1))) (eOp z6 (eC (.int 7919)) (eOp ixT (yb 0) (eC (.int 2))))) (eC (.int 1000000007))))
 (yh (qp 4 (eOp zbR (eOp z6 (eOp yN (yb 3) (eC (.int 11))) (eOp yN (yb 3) (eC (.int 48271)))) (eC (.int 998244353))))
 (qF (eOp zbR (eOp zex (eOp zbR (eOp z6 (yb 4) (yb 4)) (eC (.int 2147483647))) (eC (.int 8))) (yb 1)))))))
noncomputable def zA (kE kR:Addr):List FT.T->Mem->Out FT.T:=qi 2 5 (zh5 kE kR)
variable {kE kR:Addr} {K:Frag} {base:Heap} {P:Program} {mg:Str->Option Value} {w:World}
section
theorem zc8:FnScope ["pool","base","digit","mark","stir"] ["pool","base"] (zg zfb):=by ac_rfl
theorem zy (D:Df K mg "_law_next" zfb ["pool","base"]) (T:Txt K mg kE kR)   :CalT P w K mg base 1 "_law_next" ["pool","base"] (zA kE kR):=
 yp D zc8 rfl rfl (fun f cdv A outer s H E hr=>(qd (qu (zj zdB (yd zf (za (pv 0)) yc (fun _ _=>rfl)) yc (yj _)) (qd (zi (i:=2) zc8.nd rfl (Or.inl rfl) (zn zaF (yd zf (za (pv 0)) yc (fun _ _=>rfl)) (za (pv 1))))
  (qd (yP (zn zgc (yd zf (za (pv 0)) yc (fun _ _=>rfl)) (za (pv 1))) (zaD (za (pv 0)) yc zc7))
  (ye (qr (za (pv 2)))))) qq)
  (qd (yP (zn zG (yd zf (za (pv 0)) yc (fun _ _=>rfl)) yc) (zaD (za (pv 0)) yc zc7))
  (qd (zi (i:=3) zc8.nd rfl (Or.inl rfl) (zn zaF (zn zG (yd zf (za (pv 0)) yc (fun _ _=>rfl)) (zn zbb yc (yd zf (za (pv 0)) yc (fun _ _=>rfl)))) yc))
  (qd (zi (i:=4) zc8.nd rfl (Or.inl rfl) (zn zaF (zn zbb (zn zG (za (pv 3)) yc) (zn zG (za (pv 3)) yc)) yc))
  (ye (qr (zn zaF (zn zgc (zn zaF (zn zbb (za (pv 4)) (za (pv 4))) yc) yc) (za (pv 1))))))))))
end
noncomputable def zfR (kE kR:Addr):Ev->Mem->Out Fl:=
 (yh (qp 8 (eOp yN (eOp yN (zig (yb 3) zc9 (zcH (yb 4))) (eOp ixS (yb 2) (eOp zbR (eOp yN (yb 5) (eOp z6 (eC (.int 5)) (yb 7))) (eC (.int 26))))) (zig (yb 3) (zcH (yb 4)) zc9)))
 (yB (qT zN (eUn yD (yb 6)) (zb (eOp yN (yb 8) (eOp zgf (eOp ixS (yb 2) (yb 5)) (eOp zbR (yb 7) (eC (.int 2))))) ze))))
noncomputable def zgI (kE kR:Addr):Ev->Mem->Out Fl:=
 (yh (qp 2 (eC (.str "abcdefghijklmnopqrstuvwxyz")))
 (yh (qp 3 (zaA isStr zeK (eC (.str "")) (zb (eFz (zbc (yV (zb (yf (zA kE kR) (zb (yb 0) (zb (eC (.int 7)) ze))) ze)) (yr 0) zX (eOp ixS (yb 1) (yf (zA kE kR) (zb (yb 2) (zb (eC (.int 26)) ze)))) ["k"] [("abc",2),("pool",0)])) ze)))
 (yh (qp 4 (yf (zA kE kR) (zb (yb 0) (zb (eOp yN (yf (yz yx) (zb (yb 3) ze)) (eC (.int 1))) ze))))
 (yh (qp 5 (yf (zA kE kR) (zb (yb 0) (zb (eC (.int 26)) ze))))
 (yh (qp 6 (eTk (yw ze)))
 (yh (zbP (yV (zb (yb 1) ze)) (yr 7) (zfR kE kR))
 (qF (yb 6))))))))
noncomputable def zcr (kE kR:Addr):List FT.T->Mem->Out FT.T:=qi 2 9 (zgI kE kR)
section
theorem y9:FnScope ["pool","many","abc","base","at","first","found","k","name"] ["pool","many"] (zg zeh):=by ac_rfl
theorem zbI (D:Df K mg "_law_words" zeh ["pool","many"]) (T:Txt K mg kE kR)   (zy:CalT P w K mg base 1 "_law_next" ["pool","base"] (zA kE kR)):CalT P w K mg base 2 "_law_words" ["pool","many"] (zcr kE kR):=
 yp D y9 rfl rfl (fun f cdv A outer s H E hr=>(qd (zi (i:=2) y9.nd rfl (Or.inr rfl) yi)
  (qd (zi (i:=3) y9.nd rfl (Or.inl rfl) (zcQ ty_str (qO PySem.F.plainAttrs_str PySem.F.slot_str_join PySem.F.type_str_join zlK (WE.pe yi) (WA.pe (ya (zO (zaK (tgs:=["k"]) (caps:=[("abc",2),("pool",0)]) (qN rfl T.n_range (ya (yg zy (hr.mono (by decide)) rfl (ya (za (pv 0)) (ya yc zd))) zd)) (by bv_omega) (fun _ _ _=>(zo (yt (i:=0) (show (["k","abc","pool"]:List Str).Nodup by decide +kernel) rfl (by first | exact Or.inl rfl | exact Or.inr rfl)))) (fun _ _ _=>zbx) (fun _ _ _=>(yd zlR (za (pv 1)) (yg zy (hr.mono (by decide)) rfl (ya (za (pv 2)) (ya yc zd))) (fun _ _=>rfl))))) zd)))))
  (qd (zi (i:=4) y9.nd rfl (Or.inl rfl) (yg zy (hr.mono (by decide)) rfl (ya (za (pv 0)) (ya (zn zG (yk zr rfl T.n_len boot_len (ya (za (pv 3)) zd)) yc) zd))))
  (qd (zi (i:=5) y9.nd rfl (Or.inl rfl) (yg zy (hr.mono (by decide)) rfl (ya (za (pv 0)) (ya yc zd))))
  (qd (zi (i:=6) y9.nd rfl (Or.inl rfl) (qH (qv zd)))
  (qd (zai PassesOwn.never rfl (qN rfl T.n_range (ya (za (pv 1)) zd)) (zo (yt (i:=7) y9.nd rfl (by first | exact Or.inl rfl | exact Or.inr rfl))) (qd (zi (i:=8) y9.nd rfl (Or.inl rfl) (zn zG (zn zG (ziN (za (pv 3)) zb4 (zby (za (pv 4)))) (yd zlR (za (pv 2)) (zn zaF (zn zG (za (pv 5)) (zn zbb yc (za (pv 7)))) yc) (fun _ _=>rfl))) (ziN (za (pv 3)) (zby (za (pv 4))) zb4)))
  (ye (ym (qL (qO PySem.F.plainAttrs_list PySem.F.slot_list_append PySem.F.type_list_append zD (WE.pe (za (pv 6))) (WA.pe (ya (zn zG (za (pv 8)) (zn zng (yd zlR (za (pv 2)) (za (pv 5)) (fun _ _=>rfl)) (zn zaF (za (pv 7)) yc))) zd))))))))
  (ye (qr (za (pv 6)))))))))))
end
noncomputable def zgW (kE kR:Addr):Ev->Mem->Out Fl:=
 (yh (qp 6 (eOp ixT (yb 1) (yf (zA kE kR) (zb (yb 0) (zb (yf (yz yx) (zb (yb 1) ze)) ze)))))
 (yh (qp 7 (eOp ixT (eFz (yw (zb (eC (.int 1)) (zb (eC (.int 2)) (zb (eC (.int 2)) (zb (eC (.int 3)) (zb (eC (.int 4)) (zb (eC (.int 0)) (zb (eC (.int 0)) (zb (eC (.int 1)) ze)))))))))) (yf (zA kE kR) (zb (yb 0) (zb (eC (.int 8)) ze)))))
 (yh (qp 8 (eOp ixT (eFz (lOp zez (eFz (yw (zb (eC .non) ze))) (eFz (lOp zf7 (yb 2) (eC (.int 2)))))) (yf (zA kE kR) (zb (yb 0) (zb (eOp yN (eC (.int 1)) (eOp z6 (eC (.int 2)) (yf (yz yx) (zb (yb 2) ze)))) ze)))))
 (yh (qp 9 (eOp ixT (eFz (yw (zb (eC (.str "bad")) (zb (eC (.str "bad")) (zb (eC (.str "spent")) ze))))) (yf (zA kE kR) (zb (yb 0) (zb (eC (.int 3)) ze)))))
 (yB (qT zN (eUn yD (yb 4)) (zb (yG (zb (yb 6) (zb (yb 7) (zb (yb 8) (zb (yb 9) (zb (eOp eqA (yf (zA kE kR) (zb (yb 0) (zb (eC (.int 2)) ze))) (eC (.int 0))) (zb (eOp eqA (yf (zA kE kR) (zb (yb 0) (zb (eC (.int 3)) ze))) (eC (.int 0))) ze))))))) ze)))))))
noncomputable def zh7 (kE kR:Addr):Ev->Mem->Out Fl:=
 (yh (qp 4 (eTk (yw ze)))
 (yh (zbP (yV (zb (eOp z6 (yf (call2 zgh) (zb (yb 3) (zb (eOp ixT (eFz (yw (zb (eC (.int 1)) (zb (eC (.int 1)) (zb (eC (.int 2)) (zb (eC (.int 2)) (zb (eC (.int 3)) (zb (eC (.int 0)) (zb (eC (.int 2)) (zb (eC (.int 1)) ze)))))))))) (yf (zA kE kR) (zb (yb 0) (zb (eC (.int 8)) ze)))) ze))) (yf (yz zjR) (zb (eOp neA (yb 1) (eFz (yw ze))) ze))) ze)) (yr 5) (zgW kE kR))
 (qF (yf (yz z4) (zb (yb 4) ze)))))
noncomputable def zd3 (kE kR:Addr):List FT.T->Mem->Out FT.T:=qi 4 10 (zh7 kE kR)
section
theorem zaO:FnScope ["pool","later","purses","most","found","k","to","tries","purse","word"] ["pool","later","purses","most"] (zg zfd):=by ac_rfl
theorem zc3 (D:Df K mg "_law_asks" zfd ["pool","later","purses","most"]) (T:Txt K mg kE kR)   (zy:CalT P w K mg base 1 "_law_next" ["pool","base"] (zA kE kR)):CalT P w K mg base 2 "_law_asks" ["pool","later","purses","most"] (zd3 kE kR):=
 yp D zaO rfl rfl (fun f cdv A outer s H E hr=>(qd (zi (i:=4) zaO.nd rfl (Or.inl rfl) (qH (qv zd)))
  (qd (zai PassesOwn.never rfl (qN rfl T.n_range (ya (zn zbb (yk (zeB rfl) rfl T.n_min boot_min (ya (za (pv 3)) (ya (yd zf (zO (qv (ya yc (ya yc (ya yc (ya yc (ya yc (ya yc (ya yc (ya yc zd)))))))))) (yg zy (hr.mono (by decide)) rfl (ya (za (pv 0)) (ya yc zd))) (fun _ _=>rfl)) zd))) (za3 zlc rfl T.n_int boot_int (ya (zaj (zbn hr.units) (za (pv 1)) (zO (qv zd)) (yj _)) zd))) zd)) (zo (yt (i:=5) zaO.nd rfl (by first | exact Or.inl rfl | exact Or.inr rfl))) (qd (zi (i:=6) zaO.nd rfl (Or.inl rfl) (yd zf (za (pv 1)) (yg zy (hr.mono (by decide)) rfl (ya (za (pv 0)) (ya (yk zr rfl T.n_len boot_len (ya (za (pv 1)) zd)) zd))) (fun _ _=>rfl)))
  (qd (zi (i:=7) zaO.nd rfl (Or.inl rfl) (yd zf (zO (qv (ya yc (ya yc (ya yc (ya yc (ya yc (ya yc (ya yc (ya yc zd)))))))))) (yg zy (hr.mono (by decide)) rfl (ya (za (pv 0)) (ya yc zd))) (fun _ _=>rfl)))
  (qd (zi (i:=8) zaO.nd rfl (Or.inl rfl) (yd zf (zO (zhj zi2 (zO (qv (ya qQ zd))) (zO (zhj znd (za (pv 2)) yc)))) (yg zy (hr.mono (by decide)) rfl (ya (za (pv 0)) (ya (zn zG yc (zn zbb yc (yk zr rfl T.n_len boot_len (ya (za (pv 2)) zd)))) zd))) (fun _ _=>rfl)))
  (qd (zi (i:=9) zaO.nd rfl (Or.inl rfl) (yd zf (zO (qv (ya yi (ya yi (ya yi zd))))) (yg zy (hr.mono (by decide)) rfl (ya (za (pv 0)) (ya yc zd))) (fun _ _=>rfl)))
  (ye (ym (qL (qO PySem.F.plainAttrs_list PySem.F.slot_list_append PySem.F.type_list_append zD (WE.pe (za (pv 4))) (WA.pe (ya (zx (ya (za (pv 6)) (ya (za (pv 7)) (ya (za (pv 8)) (ya (za (pv 9)) (ya (zaj (qB hr.units) (yg zy (hr.mono (by decide)) rfl (ya (za (pv 0)) (ya yc zd))) yc (yj _)) (ya (zaj (qB hr.units) (yg zy (hr.mono (by decide)) rfl (ya (za (pv 0)) (ya yc zd))) yc (yj _)) zd))))))) zd)))))))))))
  (ye (qr (za3 zbq rfl T.n_tuple boot_tuple (ya (za (pv 4)) zd)))))))
end
noncomputable def zfq (kE kR:Addr):Ev->Mem->Out Fl:=
 (yh (qp 6 (yf (zd3 kE kR) (zb (yb 0) (zb (eSl (yb 1) (zcH (eOp yN (yb 5) (eC (.int 1)))) zc9) (zb (yb 2) (zb (yf (call2 zgh) (zb (eC (.int 3)) (zb (yb 4) ze))) ze))))))
 (yh (qp 4 (eOp zee (yb 4) (yf (yz yx) (zb (yb 6) ze))))
 (yB (qT zN (eUn yD (yb 3)) (zb (yG (zb (eOp ixT (yb 1) (yb 5)) (zb (yb 6) ze))) ze)))))
noncomputable def zfp (kE kR:Addr):Ev->Mem->Out Fl:=
 (yh (qp 9 (eOp ixT (eFz (yw (zb (eC (.str "first")) (zb (eC (.str "any")) ze)))) (yf (zA kE kR) (zb (yb 0) (zb (eC (.int 2)) ze)))))
 (yB (qT zN (eUn yD (yb 7)) (zb (yG (zb (yb 8) (zb (yb 9) (zb (eOp ixT (eFz (yw (zb (eC (.int 1)) (zb (eC (.int 1)) (zb (eC (.int 2)) (zb (eC (.int 3)) (zb (eOp yN (eC (.int 1)) (yf (zA kE kR) (zb (yb 0) (zb (eC (.int 9)) ze)))) ze))))))) (yf (zA kE kR) (zb (yb 0) (zb (eC (.int 5)) ze)))) ze)))) ze))))
noncomputable def zjd (kE kR:Addr):Ev->Mem->Out Fl:=
 (yh (qp 1 (yf (zcr kE kR) (zb (yb 0) (zb (eOp ixT (eFz (yw (zb (eC (.int 2)) (zb (eC (.int 3)) (zb (eC (.int 3)) (zb (eC (.int 4)) (zb (eC (.int 4)) (zb (eC (.int 3)) (zb (eC (.int 2)) (zb (eC (.int 1)) ze)))))))))) (yf (zA kE kR) (zb (yb 0) (zb (eC (.int 8)) ze)))) ze))))
 (yh (qp 2 (yf (zcr kE kR) (zb (yb 0) (zb (eOp ixT (eFz (yw (zb (eC (.int 0)) (zb (eC (.int 1)) (zb (eC (.int 1)) (zb (eC (.int 2)) ze)))))) (yf (zA kE kR) (zb (yb 0) (zb (eC (.int 4)) ze)))) ze))))
 (yh (sIf (yo (eOp eqA (yf (zA kE kR) (zb (yb 0) (zb (eC (.int 8)) ze))) (eC (.int 0)))) (qp 2 (eSl (eRv (yb 1) (zcH (eUn zhO (eC (.int 1))))) zc9 (zcH (yf (yz yx) (zb (yb 2) ze))))) zH)
 (yh (qp 3 (eTk (yw ze)))
 (yh (qp 4 (eC (.int 6)))
 (yh (zbP (yV (zb (yf (yz yx) (zb (yb 1) ze)) ze)) (yr 5) (zfq kE kR))
 (yh (qp 7 (eTk (yw ze)))
 (yh (zdU (zfE (yb 2)) (yr 8) (zfp kE kR))
 (qF (yG (zb (yf (yz z4) (zb (yb 3) ze)) (zb (yf (yz z4) (zb (yb 7) ze)) ze))))))))))))
noncomputable def zeM (kE kR:Addr):List FT.T->Mem->Out FT.T:=qi 1 10 (zjd kE kR)
section
theorem zW:FnScope ["pool","houses","purses","some","room","k","asks","rows","name","which"] ["pool"] (zg zf0):=by ac_rfl
theorem zdF (D:Df K mg "_law_net" zf0 ["pool"]) (T:Txt K mg kE kR)   (zbI:CalT P w K mg base 2 "_law_words" ["pool","many"] (zcr kE kR)) (zy:CalT P w K mg base 1 "_law_next" ["pool","base"] (zA kE kR)) (zc3:CalT P w K mg base 2 "_law_asks" ["pool","later","purses","most"] (zd3 kE kR)):CalT P w K mg base 3 "_law_net" ["pool"] (zeM kE kR):=
 yp D zW rfl rfl (fun f cdv A outer s H E hr=>(qd (zi (i:=1) zW.nd rfl (Or.inl rfl) (yg zbI (hr.mono (by decide)) rfl (ya (za (pv 0)) (ya (yd zf (zO (qv (ya yc (ya yc (ya yc (ya yc (ya yc (ya yc (ya yc (ya yc zd)))))))))) (yg zy (hr.mono (by decide)) rfl (ya (za (pv 0)) (ya yc zd))) (fun _ _=>rfl)) zd))))
  (qd (zi (i:=2) zW.nd rfl (Or.inl rfl) (yg zbI (hr.mono (by decide)) rfl (ya (za (pv 0)) (ya (yd zf (zO (qv (ya yc (ya yc (ya yc (ya yc zd)))))) (yg zy (hr.mono (by decide)) rfl (ya (za (pv 0)) (ya yc zd))) (fun _ _=>rfl)) zd))))
  (qd (qu (zj (qB hr.units) (yg zy (hr.mono (by decide)) rfl (ya (za (pv 0)) (ya yc zd))) yc (yj _)) (ye (zi (i:=2) zW.nd rfl (Or.inl rfl) (zfs (zof (za (pv 1)) (zby (zoe zmD yc))) zb4 (zby (yk zr rfl T.n_len boot_len (ya (za (pv 2)) zd)))))) qq)
  (qd (zi (i:=3) zW.nd rfl (Or.inl rfl) (qH (qv zd)))
  (qd (zi (i:=4) zW.nd rfl (Or.inl rfl) yc)
  (qd (zai PassesOwn.never rfl (qN rfl T.n_range (ya (yk zr rfl T.n_len boot_len (ya (za (pv 1)) zd)) zd)) (zo (yt (i:=5) zW.nd rfl (by first | exact Or.inl rfl | exact Or.inr rfl))) (qd (zi (i:=6) zW.nd rfl (Or.inl rfl) (yg zc3 (hr.mono (by decide)) rfl (ya (za (pv 0)) (ya (zfs (za (pv 1)) (zby (zn zG (za (pv 5)) yc)) zb4) (ya (za (pv 2)) (ya (yk (zeB rfl) rfl T.n_min boot_min (ya yc (ya (za (pv 4)) zd))) zd))))))
  (qd (zi (i:=4) zW.nd rfl (Or.inl rfl) (zn zcM (za (pv 4)) (yk zr rfl T.n_len boot_len (ya (za (pv 6)) zd))))
  (ye (ym (qL (qO PySem.F.plainAttrs_list PySem.F.slot_list_append PySem.F.type_list_append zD (WE.pe (za (pv 3))) (WA.pe (ya (zx (ya (yd zf (za (pv 1)) (za (pv 5)) (fun _ _=>rfl)) (ya (za (pv 6)) zd))) zd)))))))))
  (qd (zi (i:=7) zW.nd rfl (Or.inl rfl) (qH (qv zd)))
  (qd (zhi PassesOwn.never rfl (zlk (za (pv 2))) (zo (yt (i:=8) zW.nd rfl (by first | exact Or.inl rfl | exact Or.inr rfl))) (qd (zi (i:=9) zW.nd rfl (Or.inl rfl) (yd zf (zO (qv (ya yi (ya yi zd)))) (yg zy (hr.mono (by decide)) rfl (ya (za (pv 0)) (ya yc zd))) (fun _ _=>rfl)))
  (ye (ym (qL (qO PySem.F.plainAttrs_list PySem.F.slot_list_append PySem.F.type_list_append zD (WE.pe (za (pv 7))) (WA.pe (ya (zx (ya (za (pv 8)) (ya (za (pv 9)) (ya (yd zf (zO (qv (ya yc (ya yc (ya yc (ya yc (ya (zn zG yc (yg zy (hr.mono (by decide)) rfl (ya (za (pv 0)) (ya yc zd)))) zd))))))) (yg zy (hr.mono (by decide)) rfl (ya (za (pv 0)) (ya yc zd))) (fun _ _=>rfl)) zd)))) zd))))))))
  (ye (qr (zx (ya (za3 zbq rfl T.n_tuple boot_tuple (ya (za (pv 3)) zd)) (ya (za3 zbq rfl T.n_tuple boot_tuple (ya (za (pv 7)) zd)) zd))))))))))))))
end
noncomputable def zgH (kE kR:Addr):Ev->Mem->Out Fl:=
 (qF (eTk (yw (zb (eTk (yw ze)) (zb zjY (zb (eTk (zbc (zcD (eOp ixT (yb 0) (eC (.int 1)))) (yr 0) zX (eTk (yw (zb (eTk (yw ze)) (zb (eTk (yw ze)) (zb (eC (.int 0)) ze))))) ["purse"] [])) (zb (eTk (yw ze)) ze)))))))
noncomputable def zbG (kE kR:Addr):List FT.T->Mem->Out FT.T:=qi 1 1 (zgH kE kR)
section
theorem zjD:FnScope ["net"] ["net"] (zg zeg):=by ac_rfl
theorem zap (D:Df K mg "_law_world" zeg ["net"]) (T:Txt K mg kE kR)   :CalT P w K mg base 1 "_law_world" ["net"] (zbG kE kR):=
 yp D zjD rfl rfl (fun f cdv A outer s H E hr=>(ye (qr (qH (qv (ya (qH (qv zd)) (ya zmB (ya (qH (zaK (tgs:=["purse"]) (caps:=[]) (zb5 (yd zf (za (pv 0)) yc (fun _ _=>rfl))) (by bv_omega) (fun _ _ _=>(zo (yt (i:=0) (show (["purse"]:List Str).Nodup by decide +kernel) rfl (by first | exact Or.inl rfl | exact Or.inr rfl)))) (fun _ _ _=>zbx) (fun _ _ _=>(qH (qv (ya (qH (qv zd)) (ya (qH (qv zd)) (ya yc zd)))))))) (ya (qH (qv zd)) zd)))))))))
end
noncomputable def zjg (kE kR:Addr):Ev->Mem->Out Fl:=
 (qF (eTk (yw (zb (yf (call2 zhS) (zb (eC (.int 0)) (zb (eOp zee (yb 0) (eOp zjH (eC (.int 10)) (eC (.int 18)))) ze))) (zb (eOp zbR (yb 0) (eOp zjH (eC (.int 10)) (eC (.int 18)))) (zb (eC (.int 0)) ze))))))
noncomputable def zcd (kE kR:Addr):List FT.T->Mem->Out FT.T:=qi 1 1 (zjg kE kR)
section
theorem zlo:FnScope ["cell"] ["cell"] (zg zf3):=by ac_rfl
theorem zbK (D:Df K mg "_law_dig" zf3 ["cell"]) (T:Txt K mg kE kR)   :CalT P w K mg base 1 "_law_dig" ["cell"] (zcd kE kR):=
 yp D zlo rfl rfl (fun f cdv A outer s H E hr=>(ye (qr (qH (qv (ya (yk (zgQ rfl) rfl T.n_max boot_max (ya yc (ya (zn zcM (za (pv 0)) (zn ziZ yc yc)) zd))) (ya (zn zaF (za (pv 0)) (zn ziZ yc yc)) (ya yc zd))))))))
end
noncomputable def zfT (kE kR:Addr):Ev->Mem->Out Fl:=
 (sIf (yo (eOp eqA (eOp ixT (eOp ixT (eOp ixT (yb 0) (eC (.int 1))) (yb 3)) (eC (.int 0))) (eOp ixT (yb 2) (eC (.int 2))))) (qF (eOp zee (yf (yz yx) (zb (eOp ixT (eOp ixT (eOp ixT (yb 1) (eC (.int 2))) (yb 3)) (eC (.int 1))) ze)) (eOp ixT (eOp ixT (eOp ixT (yb 1) (eC (.int 2))) (yb 3)) (eC (.int 2))))) zH)
noncomputable def zgL (kE kR:Addr):Ev->Mem->Out Fl:=
 (yh (zbP (yV (zb (yf (yz yx) (zb (eOp ixT (yb 0) (eC (.int 1))) ze)) ze)) (yr 3) (zfT kE kR))
 (qF (eC (.int 1))))
noncomputable def zdc (kE kR:Addr):List FT.T->Mem->Out FT.T:=qi 3 4 (zgL kE kR)
section
theorem zfw:FnScope ["net","world","ask","k"] ["net","world","ask"] (zg zek):=by ac_rfl
theorem zcu (D:Df K mg "_law_coins" zek ["net","world","ask"]) (T:Txt K mg kE kR)   :CalT P w K mg base 1 "_law_coins" ["net","world","ask"] (zdc kE kR):=
 yp D zfw rfl rfl (fun f cdv A outer s H E hr=>(qd (zai PassesOwn.never rfl (qN rfl T.n_range (ya (yk zr rfl T.n_len boot_len (ya (yd zf (za (pv 0)) yc (fun _ _=>rfl)) zd)) zd)) (zo (yt (i:=3) zfw.nd rfl (by first | exact Or.inl rfl | exact Or.inr rfl))) (ye (qu (zj (qB hr.units) (yd zf (yd zf (yd zf (za (pv 0)) yc (fun _ _=>rfl)) (za (pv 3)) (fun _ _=>rfl)) yc (fun _ _=>rfl)) (yd zf (za (pv 2)) yc (fun _ _=>rfl)) (yj _)) (ye (qr (zn zcM (yk zr rfl T.n_len boot_len (ya (yd zf (yd zf (yd zf (za (pv 1)) yc (fun _ _=>rfl)) (za (pv 3)) (fun _ _=>rfl)) yc (fun _ _=>rfl)) zd)) (yd zf (yd zf (yd zf (za (pv 1)) yc (fun _ _=>rfl)) (za (pv 3)) (fun _ _=>rfl)) yc (fun _ _=>rfl))))) qq)))
  (ye (qr yc))))
end
noncomputable def ziv (kE kR:Addr):Ev->Mem->Out Fl:=
 (yh (zaI (eOp ixT (eOp ixT (yb 1) (eC (.int 0))) (yb 3)) (zd8 3 (yY (yr 4) (yY (yr 5) (yY (yr 6) zeD)))))
 (yh (sIf (yo (eOp eqA (eOp ixT (yb 6) (eC (.int 0))) (eC (.str "works")))) (qp 2 (eTk (lOp zez (yb 2) (eFz (zbc (zcD (eFz (yw (zb (eC (.str "bad")) (zb (eC (.str "spent")) (zb (eC (.str "well")) ze)))))) (yr 0) zX (yG (zb (eC (.str "ends")) (zb (yb 1) (zb (yb 0) ze)))) ["word"] [("number",3)]))))) zH)
 (yh (sIf (zat (yo (eOp neA (eOp ixT (yb 6) (eC (.int 0))) (eC (.str "ended")))) (zat (yo (eOp y8 (yb 5) (eC .non))) (yo (eOp zfh (yb 3) (eOp ixT (yb 1) (eC (.int 1))))))) (sIf (zcG (yo (eOp ixT (eOp ixT (eOp ixT (eOp ixT (eOp ixT (yb 0) (eC (.int 0))) (eOp ixT (eOp ixT (eOp ixT (yb 1) (eC (.int 0))) (eOp ixT (yb 5) (eC (.int 0)))) (eC (.int 0)))) (eC (.int 1))) (eOp ixT (yb 5) (eC (.int 1)))) (eC (.int 5))))) (yB (qT zN (eUn yD (yb 2)) (zb (yG (zb (eC (.str "lost")) (zb (yb 3) ze))) ze))) zH) zH)
 (sIf (yo (eOp eqA (eOp ixT (yb 6) (eC (.int 0))) (eC (.str "stands")))) (yh (qp 7 (eOp ixT (eOp ixT (eOp ixT (eOp ixT (yb 0) (eC (.int 0))) (yb 4)) (eC (.int 1))) (eOp ixT (yb 6) (eC (.int 1)))))
 (yh (sIf (zat (zb7 (yo (eOp eqA (eOp ixT (yb 7) (eC (.int 1))) (eC (.int 0)))) (yo (eOp ltI (eOp ixT (yb 6) (eC (.int 2))) (eOp ixT (yb 7) (eC (.int 1)))))) (yo (eOp gtI (yf (zdc kE kR) (zb (yb 0) (zb (yb 1) (zb (yb 7) ze)))) (eC (.int 0))))) (yB (qT zN (eUn yD (yb 2)) (zb (yG (zb (eC (.str "again")) (zb (yb 3) ze))) ze))) zH)
 (yB (qT zN (eUn yD (yb 2)) (zb (yG (zb (eC (.str "up")) (zb (yb 3) ze))) ze))))) zH))))
noncomputable def zje (kE kR:Addr):Ev->Mem->Out Fl:=
 (yh (qp 2 (eTk (yw (zb (yG (zb (eC (.str "fresh")) ze)) ze))))
 (yh (zbP (yV (zb (yf (yz yx) (zb (eOp ixT (yb 1) (eC (.int 0))) ze)) ze)) (yr 3) (ziv kE kR))
 (qF (yb 2))))
noncomputable def zgp (kE kR:Addr):List FT.T->Mem->Out FT.T:=qi 2 8 (zje kE kR)
noncomputable def za9 (kE kR:Addr):List FT.T->Mem->Out FT.T:=zev (zgp kE kR)
section
theorem zaN:FnScope ["net","world","found","number","house","caller","state","ask"] ["net","world"] (zg zf1):=by ac_rfl
theorem z9 (D:Df K mg "_law_may" zf1 ["net","world"]) (T:Txt K mg kE kR)   (zcu:CalT P w K mg base 1 "_law_coins" ["net","world","ask"] (zdc kE kR)):CalT P w K mg base 2 "_law_may" ["net","world"] (zgp kE kR):=
 yp D zaN rfl rfl (fun f cdv A outer s H E hr=>(qd (zi (i:=2) zaN.nd rfl (Or.inl rfl) (qH (qv (ya (zx (ya yi zd)) zd))))
  (qd (zai PassesOwn.never rfl (qN rfl T.n_range (ya (yk zr rfl T.n_len boot_len (ya (yd zf (za (pv 1)) yc (fun _ _=>rfl)) zd)) zd)) (zo (yt (i:=3) zaN.nd rfl (by first | exact Or.inl rfl | exact Or.inr rfl))) (qd (yP (yd zf (yd zf (za (pv 1)) yc (fun _ _=>rfl)) (za (pv 3)) (fun _ _=>rfl)) (zhk (ziY rfl (WGs.pe (qG (yJ (WG.pe (zo (yt (i:=4) zaN.nd rfl (by first | exact Or.inl rfl | exact Or.inr rfl)))) (WGs.pe (qG (yJ (WG.pe (zo (yt (i:=5) zaN.nd rfl (by first | exact Or.inl rfl | exact Or.inr rfl)))) (WGs.pe (qG (yJ (WG.pe (zo (yt (i:=6) zaN.nd rfl (by first | exact Or.inl rfl | exact Or.inr rfl)))) (WGs.pe zb6)))))))))))))
  (qd (qu (zj (qB hr.units) (yd zf (za (pv 6)) yc (fun _ _=>rfl)) yi (yj _)) (ye (zi (i:=2) zaN.nd rfl (Or.inl rfl) (qH (zhj zi2 (za (pv 2)) (zO (zaK (tgs:=["word"]) (caps:=[("number",3)]) (zb5 (zO (qv (ya yi (ya yi (ya yi zd)))))) (by bv_omega) (fun _ _ _=>(zo (yt (i:=0) (show (["word","number"]:List Str).Nodup by decide +kernel) rfl (by first | exact Or.inl rfl | exact Or.inr rfl)))) (fun _ _ _=>zbx) (fun _ _ _=>(zx (ya yi (ya (za (pv 1)) (ya (za (pv 0)) zd))))))))))) qq)
  (qd (qu (WW.gt (yZ (zj (zbn hr.units) (yd zf (za (pv 6)) yc (fun _ _=>rfl)) yi (yj _)) (yZ (zj zcp (za (pv 5)) qQ (yj _)) (qV (zj (zi0 hr.units) (za (pv 3)) (yd zf (za (pv 1)) yc (fun _ _=>rfl)) rfl))))) (ye (qu (zb3 (yQ (yd zf (yd zf (yd zf (yd zf (yd zf (za (pv 0)) yc (fun _ _=>rfl)) (yd zf (yd zf (yd zf (za (pv 1)) yc (fun _ _=>rfl)) (yd zf (za (pv 5)) yc (fun _ _=>rfl)) (fun _ _=>rfl)) yc (fun _ _=>rfl)) (fun _ _=>rfl)) yc (fun _ _=>rfl)) (yd zf (za (pv 5)) yc (fun _ _=>rfl)) (fun _ _=>rfl)) yc (fun _ _=>rfl)))) (ye (ym (qL (qO PySem.F.plainAttrs_list PySem.F.slot_list_append PySem.F.type_list_append zD (WE.pe (za (pv 2))) (WA.pe (ya (zx (ya yi (ya (za (pv 3)) zd))) zd)))))) qq)) qq)
  (ye (qu (zj (qB hr.units) (yd zf (za (pv 6)) yc (fun _ _=>rfl)) yi (yj _)) (qd (zi (i:=7) zaN.nd rfl (Or.inl rfl) (yd zf (yd zf (yd zf (yd zf (za (pv 0)) yc (fun _ _=>rfl)) (za (pv 4)) (fun _ _=>rfl)) yc (fun _ _=>rfl)) (yd zf (za (pv 6)) yc (fun _ _=>rfl)) (fun _ _=>rfl)))
  (qd (qu (WW.gt (yZ (WW.gt (zbm (zj (qB hr.units) (yd zf (za (pv 7)) yc (fun _ _=>rfl)) yc (yj _)) (zbD (zj zcY (yd zf (za (pv 6)) yc (fun _ _=>rfl)) (yd zf (za (pv 7)) yc (fun _ _=>rfl)) (yj _))))) (qV (zj zdB (yg zcu (hr.mono (by decide)) rfl (ya (za (pv 0)) (ya (za (pv 1)) (ya (za (pv 7)) zd)))) yc (yj _))))) (ye (ym (qL (qO PySem.F.plainAttrs_list PySem.F.slot_list_append PySem.F.type_list_append zD (WE.pe (za (pv 2))) (WA.pe (ya (zx (ya yi (ya (za (pv 3)) zd))) zd)))))) qq)
  (ye (ym (qL (qO PySem.F.plainAttrs_list PySem.F.slot_list_append PySem.F.type_list_append zD (WE.pe (za (pv 2))) (WA.pe (ya (zx (ya yi (ya (za (pv 3)) zd))) zd)))))))) qq))))))
  (ye (qr (za (pv 2)))))))
end
noncomputable def zfS (kE kR:Addr):Ev->Mem->Out Fl:=
 (yh (zaI (eOp ixT (eOp ixT (yb 0) (eC (.int 1))) (yb 5)) (zgw 3 (yY (yr 6) (yY (yr 7) (yY (yr 8) zeD)))))
 (sIf (zat (yo (eOp eqA (yb 6) (eOp ixT (yb 2) (eC (.int 2))))) (zb7 (yo (yb 3)) (yo (eOp eqA (yb 7) (eC (.str "any")))))) (yh (qp 9 (eOp ixT (eOp ixT (yb 1) (eC (.int 2))) (yb 5)))
 (yh (yB (qT zN (eUn yD (eOp ixT (yb 9) (eC (.int 0)))) (zb (yb 4) ze)))
 (sIf (yo (eOp eqA (yf (yz yx) (zb (eOp ixT (yb 9) (eC (.int 0))) ze)) (yb 8))) (yh (yB (qT zN (eUn yD (eOp ixT (yb 9) (eC (.int 1)))) (zb (yf (yz z4) (zb (eOp ixT (yb 9) (eC (.int 0))) ze)) ze)))
 (zaI (eTk (yw ze)) (za2 zaL (yb 9) (eC (.int 0))))) zH))) zH))
noncomputable def zgJ (kE kR:Addr):Ev->Mem->Out Fl:=
 (zbP (yV (zb (yf (yz yx) (zb (eOp ixT (yb 0) (eC (.int 1))) ze)) ze)) (yr 5) (zfS kE kR))
noncomputable def zbH (kE kR:Addr):List FT.T->Mem->Out FT.T:=qi 5 10 (zgJ kE kR)
section
theorem za5:FnScope ["net","world","ask","first","errand","k","name","which","per","purse"] ["net","world","ask","first","errand"] (zg zei):=by ac_rfl
theorem zaq (D:Df K mg "_law_share" zei ["net","world","ask","first","errand"]) (T:Txt K mg kE kR)   :CalT P w K mg base 1 "_law_share" ["net","world","ask","first","errand"] (zbH kE kR):=
 yp D za5 rfl rfl (fun f cdv A outer s H E hr=>(ye (zai PassesOwn.never rfl (qN rfl T.n_range (ya (yk zr rfl T.n_len boot_len (ya (yd zf (za (pv 0)) yc (fun _ _=>rfl)) zd)) zd)) (zo (yt (i:=5) za5.nd rfl (by first | exact Or.inl rfl | exact Or.inr rfl))) (qd (yP (yd zf (yd zf (za (pv 0)) yc (fun _ _=>rfl)) (za (pv 5)) (fun _ _=>rfl)) (zeE (zfA rfl (WGs.pe (qG (yJ (WG.pe (zo (yt (i:=6) za5.nd rfl (by first | exact Or.inl rfl | exact Or.inr rfl)))) (WGs.pe (qG (yJ (WG.pe (zo (yt (i:=7) za5.nd rfl (by first | exact Or.inl rfl | exact Or.inr rfl)))) (WGs.pe (qG (yJ (WG.pe (zo (yt (i:=8) za5.nd rfl (by first | exact Or.inl rfl | exact Or.inr rfl)))) (WGs.pe zb6)))))))))))))
  (ye (qu (WW.gt (yZ (zj (qB hr.units) (za (pv 6)) (yd zf (za (pv 2)) yc (fun _ _=>rfl)) (yj _)) (qV (WW.gt (zbm (yQ (za (pv 3))) (zbD (zj (qB hr.units) (za (pv 7)) yi (yj _)))))))) (qd (zi (i:=9) za5.nd rfl (Or.inl rfl) (yd zf (yd zf (za (pv 1)) yc (fun _ _=>rfl)) (za (pv 5)) (fun _ _=>rfl)))
  (qd (ym (qL (qO PySem.F.plainAttrs_list PySem.F.slot_list_append PySem.F.type_list_append zD (WE.pe (yd zf (za (pv 9)) yc (fun _ _=>rfl))) (WA.pe (ya (za (pv 4)) zd)))))
  (ye (qu (zj (qB hr.units) (yk zr rfl T.n_len boot_len (ya (yd zf (za (pv 9)) yc (fun _ _=>rfl)) zd)) (za (pv 8)) (yj _)) (qd (ym (qL (qO PySem.F.plainAttrs_list PySem.F.slot_list_append PySem.F.type_list_append zD (WE.pe (yd zf (za (pv 9)) yc (fun _ _=>rfl))) (WA.pe (ya (za3 zbq rfl T.n_tuple boot_tuple (ya (yd zf (za (pv 9)) yc (fun _ _=>rfl)) zd)) zd)))))
  (ye (yP (qH (qv zd)) (zaD (za (pv 9)) yc zc7)))) qq)))) qq))))))
end
noncomputable def zgK (kE kR:Addr):Ev->Mem->Out Fl:=
 (qF (zaA zbw zdX (eFz (zbc (zcD (eOp ixT (yb 0) (eC (.int 0)))) (yr 0) zX (eOp ixT (yb 0) (eC (.int 0))) ["house"] [])) (zb (yb 1) ze)))
noncomputable def zaU (kE kR:Addr):List FT.T->Mem->Out FT.T:=qi 2 2 (zgK kE kR)
section
theorem zjE:FnScope ["net","name"] ["net","name"] (zg zej):=by ac_rfl
theorem zar (D:Df K mg "_law_house" zej ["net","name"]) (T:Txt K mg kE kR)   :CalT P w K mg base 1 "_law_house" ["net","name"] (zaU kE kR):=
 yp D zjE rfl rfl (fun f cdv A outer s H E hr=>(ye (qr (zcQ zed (qO PySem.F.plainAttrs_list PySem.F.slot_list_index PySem.F.type_list_index (zkz hr.units) (WE.pe (zO (zaK (tgs:=["house"]) (caps:=[]) (zb5 (yd zf (za (pv 0)) yc (fun _ _=>rfl))) (by bv_omega) (fun _ _ _=>(zo (yt (i:=0) (show (["house"]:List Str).Nodup by decide +kernel) rfl (by first | exact Or.inl rfl | exact Or.inr rfl)))) (fun _ _ _=>zbx) (fun _ _ _=>(yd zf (za (pv 0)) yc (fun _ _=>rfl)))))) (WA.pe (ya (za (pv 1)) zd)))))))
end
noncomputable def zfU (kE kR:Addr):Ev->Mem->Out Fl:=
 (yh (qp 5 (yf (yz yx) (zb (eOp ixT (yb 1) (eC (.int 0))) ze)))
 (yh (qp 4 (eOp ixT (eOp ixT (eOp ixT (yb 0) (eC (.int 0))) (yb 2)) (eC (.int 1))))
 (yh (yB (qT zN (eUn yD (eOp ixT (yb 1) (eC (.int 0)))) (zb (eTk (yw (zb (yb 2) (zb (yb 3) (zb (yG (zb (eC (.str "works")) ze)) ze))))) ze)))
 (sIf (yo (eOp neA (yb 4) (yG ze))) (yh (zaI (yG (zb (eC (.str "waits")) (zb (eC (.int 0)) (zb (eC (.int 1)) ze)))) (za2 zaL (eOp ixT (eOp ixT (yb 1) (eC (.int 0))) (yb 5)) (eC (.int 2))))
 (yh (yB (yf (zbH kE kR) (zb (yb 0) (zb (yb 1) (zb (eOp ixT (yb 4) (eC (.int 0))) (zb (eC (.bl true)) (zb (eOp yN (yb 5) (eC (.int 1))) ze)))))))
 (yh (qp 3 (yG (zb (yb 5) (zb (eC (.int 0)) (zb (eC (.int 1)) ze)))))
 (qp 2 (yf (zaU kE kR) (zb (yb 0) (zb (eOp ixT (eOp ixT (yb 4) (eC (.int 0))) (eC (.int 0))) ze))))))) zH))))
noncomputable def zb2 (kE kR:Addr):Ev->Mem->Out Bool:=
 (yo (eOp neA (yb 4) (yG ze)))
noncomputable def zgM (kE kR:Addr):Ev->Mem->Out Fl:=
 (yh (qp 4 (yG (zb (eC .non) ze)))
 (zbO (zb2 kE kR) (zfU kE kR)))
noncomputable def zaV (kE kR:Addr):List FT.T->Mem->Out FT.T:=qi 4 6 (zgM kE kR)
section
theorem za7:FnScope ["net","world","house","caller","asks","number"] ["net","world","house","caller"] (zg zel):=by ac_rfl
theorem zas (D:Df K mg "_law_begin" zel ["net","world","house","caller"]) (T:Txt K mg kE kR)   (zaq:CalT P w K mg base 1 "_law_share" ["net","world","ask","first","errand"] (zbH kE kR)) (zar:CalT P w K mg base 1 "_law_house" ["net","name"] (zaU kE kR)):CalT P w K mg base 2 "_law_begin" ["net","world","house","caller"] (zaV kE kR):=
 yp D za7 rfl rfl (fun f cdv A outer s H E hr=>(qd (zi (i:=4) za7.nd rfl (Or.inl rfl) (zx (ya qQ zd)))
  (ye (zgA PassesOwn.never (zj (zbn hr.units) (za (pv 4)) (zx zd) (yj _)) (qd (zi (i:=5) za7.nd rfl (Or.inl rfl) (yk zr rfl T.n_len boot_len (ya (yd zf (za (pv 1)) yc (fun _ _=>rfl)) zd)))
  (qd (zi (i:=4) za7.nd rfl (Or.inl rfl) (yd zf (yd zf (yd zf (za (pv 0)) yc (fun _ _=>rfl)) (za (pv 2)) (fun _ _=>rfl)) yc (fun _ _=>rfl)))
  (qd (ym (qL (qO PySem.F.plainAttrs_list PySem.F.slot_list_append PySem.F.type_list_append zD (WE.pe (yd zf (za (pv 1)) yc (fun _ _=>rfl))) (WA.pe (ya (qH (qv (ya (za (pv 2)) (ya (za (pv 3)) (ya (zx (ya yi zd)) zd))))) zd)))))
  (ye (qu (zj (zbn hr.units) (za (pv 4)) (zx zd) (yj _)) (qd (yP (zx (ya yi (ya yc (ya yc zd)))) (zaD (yd zf (yd zf (za (pv 1)) yc (fun _ _=>rfl)) (za (pv 5)) (fun _ _=>rfl)) yc zc7))
  (qd (ym (yg zaq (hr.mono (by decide)) rfl (ya (za (pv 0)) (ya (za (pv 1)) (ya (yd zf (za (pv 4)) yc (fun _ _=>rfl)) (ya z3 (ya (zn zG (za (pv 5)) yc) zd)))))))
  (qd (zi (i:=3) za7.nd rfl (Or.inl rfl) (zx (ya (za (pv 5)) (ya yc (ya yc zd)))))
  (ye (zi (i:=2) za7.nd rfl (Or.inl rfl) (yg zar (hr.mono (by decide)) rfl (ya (za (pv 0)) (ya (yd zf (yd zf (za (pv 4)) yc (fun _ _=>rfl)) yc (fun _ _=>rfl)) zd)))))))) qq)))))))))
end
noncomputable def zjc (kE kR:Addr):Ev->Mem->Out Fl:=
 (yh (qp 5 (eOp ixT (eOp ixT (eOp ixT (eOp ixT (yb 0) (eC (.int 0))) (eOp ixT (eOp ixT (eOp ixT (yb 1) (eC (.int 0))) (yb 2)) (eC (.int 0)))) (eC (.int 1))) (yb 3)))
 (yh (zaI (yG (zb (eC (.str "waits")) (zb (yb 3) (zb (yb 4) ze)))) (za2 zaL (eOp ixT (eOp ixT (yb 1) (eC (.int 0))) (yb 2)) (eC (.int 2))))
 (yh (yB (yf (zbH kE kR) (zb (yb 0) (zb (yb 1) (zb (yb 5) (zb (eOp eqA (yb 4) (eC (.int 1))) (zb (yf (yz yx) (zb (eOp ixT (yb 1) (eC (.int 0))) ze)) ze)))))))
 (yB (yf (zaV kE kR) (zb (yb 0) (zb (yb 1) (zb (yf (zaU kE kR) (zb (yb 0) (zb (eOp ixT (yb 5) (eC (.int 0))) ze))) (zb (yG (zb (yb 2) (zb (yb 3) (zb (yb 4) ze)))) ze)))))))))
noncomputable def zcN (kE kR:Addr):List FT.T->Mem->Out FT.T:=qi 5 6 (zjc kE kR)
section
theorem zhy:FnScope ["net","world","number","at","tries","ask"] ["net","world","number","at","tries"] (zg zfZ):=by ac_rfl
theorem zbJ (D:Df K mg "_law_try" zfZ ["net","world","number","at","tries"]) (T:Txt K mg kE kR)   (zaq:CalT P w K mg base 1 "_law_share" ["net","world","ask","first","errand"] (zbH kE kR)) (zas:CalT P w K mg base 2 "_law_begin" ["net","world","house","caller"] (zaV kE kR)) (zar:CalT P w K mg base 1 "_law_house" ["net","name"] (zaU kE kR)):CalT P w K mg base 3 "_law_try" ["net","world","number","at","tries"] (zcN kE kR):=
 yp D zhy rfl rfl (fun f cdv A outer s H E hr=>(qd (zi (i:=5) zhy.nd rfl (Or.inl rfl) (yd zf (yd zf (yd zf (yd zf (za (pv 0)) yc (fun _ _=>rfl)) (yd zf (yd zf (yd zf (za (pv 1)) yc (fun _ _=>rfl)) (za (pv 2)) (fun _ _=>rfl)) yc (fun _ _=>rfl)) (fun _ _=>rfl)) yc (fun _ _=>rfl)) (za (pv 3)) (fun _ _=>rfl)))
  (qd (yP (zx (ya yi (ya (za (pv 3)) (ya (za (pv 4)) zd)))) (zaD (yd zf (yd zf (za (pv 1)) yc (fun _ _=>rfl)) (za (pv 2)) (fun _ _=>rfl)) yc zc7))
  (qd (ym (yg zaq (hr.mono (by decide)) rfl (ya (za (pv 0)) (ya (za (pv 1)) (ya (za (pv 5)) (ya (zaj (qB hr.units) (za (pv 4)) yc (yj _)) (ya (yk zr rfl T.n_len boot_len (ya (yd zf (za (pv 1)) yc (fun _ _=>rfl)) zd)) zd)))))))
  (ye (ym (yg zas (hr.mono (by decide)) rfl (ya (za (pv 0)) (ya (za (pv 1)) (ya (yg zar (hr.mono (by decide)) rfl (ya (za (pv 0)) (ya (yd zf (za (pv 5)) yc (fun _ _=>rfl)) zd))) (ya (zx (ya (za (pv 2)) (ya (za (pv 3)) (ya (za (pv 4)) zd)))) zd)))))))))))
end
noncomputable def ziw (kE kR:Addr):Ev->Mem->Out Fl:=
 (yh (zaI (yG (zb (eC (.str "ended")) (zb (yb 3) ze))) (za2 zdi (eOp ixT (eOp ixT (yb 1) (eC (.int 0))) (yb 2)) (eC (.int 2))))
 (yh (qp 5 (eOp ixT (eOp ixT (eOp ixT (yb 1) (eC (.int 0))) (yb 2)) (eC (.int 1))))
 (yh (qp 4 (zih (eOp y8 (yb 5) (eC .non)) (eOp zfh (yb 2) (eOp ixT (yb 1) (eC (.int 1))))))
 (sIf (yo (yb 4)) (yh (zaI (yb 5) (zgw 3 (yY (yr 2) (yY (yr 6) (yY (yr 7) zeD)))))
 (yh (qp 8 (eOp ixT (eOp ixT (eOp ixT (yb 0) (eC (.int 0))) (eOp ixT (eOp ixT (eOp ixT (yb 1) (eC (.int 0))) (yb 2)) (eC (.int 0)))) (eC (.int 1))))
 (sIf (zat (yo (eOp eqA (yb 3) (eC (.str "well")))) (yo (eOp ltI (eOp yN (yb 6) (eC (.int 1))) (yf (yz yx) (zb (yb 8) ze))))) (yh (yB (yf (zcN kE kR) (zb (yb 0) (zb (yb 1) (zb (yb 2) (zb (eOp yN (yb 6) (eC (.int 1))) (zb (eC (.int 1)) ze)))))))
 (qp 4 (eC (.bl false)))) (sIf (zat (yo (eOp neA (yb 3) (eC (.str "well")))) (zcG (zat (yo (eOp eqA (yb 3) (eC (.str "spent")))) (yo (eOp ixT (eOp ixT (yb 8) (yb 6)) (eC (.int 4))))))) (yh (zaI (yG (zb (eC (.str "stands")) (zb (yb 6) (zb (yb 7) ze)))) (za2 zdi (eOp ixT (eOp ixT (yb 1) (eC (.int 0))) (yb 2)) (eC (.int 2))))
 (qp 4 (eC (.bl false)))) zH)))) zH))))
noncomputable def zc5 (kE kR:Addr):Ev->Mem->Out Bool:=
 (yo (yb 4))
noncomputable def zjf (kE kR:Addr):Ev->Mem->Out Fl:=
 (yh (qp 4 (eC (.bl true)))
 (zbO (zc5 kE kR) (ziw kE kR)))
noncomputable def zdD (kE kR:Addr):List FT.T->Mem->Out FT.T:=qi 4 9 (zjf kE kR)
section
theorem zac:FnScope ["net","world","number","word","going","caller","at","tries","asks"] ["net","world","number","word"] (zg zf2):=by ac_rfl
theorem zcP (D:Df K mg "_law_end" zf2 ["net","world","number","word"]) (T:Txt K mg kE kR)   (zbJ:CalT P w K mg base 3 "_law_try" ["net","world","number","at","tries"] (zcN kE kR)):CalT P w K mg base 4 "_law_end" ["net","world","number","word"] (zdD kE kR):=
 yp D zac rfl rfl (fun f cdv A outer s H E hr=>(qd (zi (i:=4) zac.nd rfl (Or.inl rfl) z3)
  (ye (zgA PassesOwn.never (yQ (za (pv 4))) (qd (yP (zx (ya yi (ya (za (pv 3)) zd))) (zaD (yd zf (yd zf (za (pv 1)) yc (fun _ _=>rfl)) (za (pv 2)) (fun _ _=>rfl)) yc (zfv hr.units)))
  (qd (zi (i:=5) zac.nd rfl (Or.inl rfl) (yd zf (yd zf (yd zf (za (pv 1)) yc (fun _ _=>rfl)) (za (pv 2)) (fun _ _=>rfl)) yc (fun _ _=>rfl)))
  (qd (zi (i:=4) zac.nd rfl (Or.inl rfl) (zfV (zaj zcp (za (pv 5)) qQ (yj _)) (zdx (zaj (zi0 hr.units) (za (pv 2)) (yd zf (za (pv 1)) yc (fun _ _=>rfl)) rfl))))
  (ye (qu (yQ (za (pv 4))) (qd (yP (za (pv 5)) (zeE (zfA rfl (WGs.pe (qG (yJ (WG.pe (zo (yt (i:=2) zac.nd rfl (by first | exact Or.inl rfl | exact Or.inr rfl)))) (WGs.pe (qG (yJ (WG.pe (zo (yt (i:=6) zac.nd rfl (by first | exact Or.inl rfl | exact Or.inr rfl)))) (WGs.pe (qG (yJ (WG.pe (zo (yt (i:=7) zac.nd rfl (by first | exact Or.inl rfl | exact Or.inr rfl)))) (WGs.pe zb6)))))))))))))
  (qd (zi (i:=8) zac.nd rfl (Or.inl rfl) (yd zf (yd zf (yd zf (za (pv 0)) yc (fun _ _=>rfl)) (yd zf (yd zf (yd zf (za (pv 1)) yc (fun _ _=>rfl)) (za (pv 2)) (fun _ _=>rfl)) yc (fun _ _=>rfl)) (fun _ _=>rfl)) yc (fun _ _=>rfl)))
  (ye (qu (WW.gt (yZ (zj (qB hr.units) (za (pv 3)) yi (yj _)) (qV (zj zcY (zn zG (za (pv 6)) yc) (yk zr rfl T.n_len boot_len (ya (za (pv 8)) zd)) (yj _))))) (qd (ym (yg zbJ (hr.mono (by decide)) rfl (ya (za (pv 0)) (ya (za (pv 1)) (ya (za (pv 2)) (ya (zn zG (za (pv 6)) yc) (ya yc zd)))))))
  (ye (zi (i:=4) zac.nd rfl (Or.inl rfl) z3))) (ye (qu (WW.gt (yZ (zj (zbn hr.units) (za (pv 3)) yi (yj _)) (qV (zb3 (WW.gt (yZ (zj (qB hr.units) (za (pv 3)) yi (yj _)) (qV (yQ (yd zf (yd zf (za (pv 8)) (za (pv 6)) (fun _ _=>rfl)) yc (fun _ _=>rfl)))))))))) (qd (yP (zx (ya yi (ya (za (pv 6)) (ya (za (pv 7)) zd)))) (zaD (yd zf (yd zf (za (pv 1)) yc (fun _ _=>rfl)) (za (pv 2)) (fun _ _=>rfl)) yc (zfv hr.units)))
  (ye (zi (i:=4) zac.nd rfl (Or.inl rfl) z3))) qq)))))) qq)))))))))
end
noncomputable def zjt (kE kR:Addr):Ev->Mem->Out Fl:=
 (sIf (yo (eOp eqA (eOp ixT (eOp ixT (eOp ixT (yb 0) (eC (.int 1))) (yb 10)) (eC (.int 0))) (eOp ixT (yb 9) (eC (.int 2))))) (yh (yB (qT zN (eUn yD (eOp ixT (yb 1) (eC (.int 3)))) (zb (yG (zb (yf (yz yx) (zb (eOp ixT (yb 1) (eC (.int 0))) ze)) (zb (yb 10) (zb (eOp ixT (eOp ixT (eOp ixT (yb 1) (eC (.int 2))) (yb 10)) (eC (.int 2))) ze)))) ze)))
 (zaI (eOp yN (eOp ixT (eOp ixT (eOp ixT (yb 1) (eC (.int 2))) (yb 10)) (eC (.int 2))) (eC (.int 1))) (za2 zdi (eOp ixT (eOp ixT (yb 1) (eC (.int 2))) (yb 10)) (eC (.int 2))))) zH)
noncomputable def zkT (kE kR:Addr):Ev->Mem->Out Fl:=
 (yh (sIf (yo (eOp eqA (eOp ixT (yb 2) (eC (.int 0))) (eC (.str "fresh")))) (yB (yf (zaV kE kR) (zb (yb 0) (zb (yb 1) (zb (eC (.int 0)) (zb (eC .non) ze)))))) zH)
 (yh (sIf (yo (eOp eqA (eOp ixT (yb 2) (eC (.int 0))) (eC (.str "ends")))) (yB (yf (zdD kE kR) (zb (yb 0) (zb (yb 1) (zb (eOp ixT (yb 2) (eC (.int 1))) (zb (eOp ixT (yb 2) (eC (.int 2))) ze)))))) zH)
 (yh (sIf (yo (eOp eqA (eOp ixT (yb 2) (eC (.int 0))) (eC (.str "lost")))) (yh (zaI (eC (.bl true)) (za2 zdi (eOp ixT (yb 1) (eC (.int 1))) (eOp ixT (yb 2) (eC (.int 1)))))
 (yh (zaI (eOp ixT (eOp ixT (eOp ixT (yb 1) (eC (.int 0))) (eOp ixT (yb 2) (eC (.int 1)))) (eC (.int 1))) (zgw 3 (yY (yr 3) (yY (yr 4) (yY (yr 5) zeD)))))
 (zaI (yG (zb (eC (.str "stands")) (zb (yb 4) (zb (yb 5) ze)))) (za2 zdi (eOp ixT (eOp ixT (yb 1) (eC (.int 0))) (yb 3)) (eC (.int 2)))))) zH)
 (sIf (yo (eOp inD (eOp ixT (yb 2) (eC (.int 0))) (eFz (yw (zb (eC (.str "again")) (zb (eC (.str "up")) ze)))))) (yh (zaI (eOp ixT (eOp ixT (yb 1) (eC (.int 0))) (eOp ixT (yb 2) (eC (.int 1)))) (zd8 3 (yY (yr 6) (yY (yr 7) (yY (yr 8) zeD)))))
 (yh (qp 9 (eOp ixT (eOp ixT (eOp ixT (eOp ixT (yb 0) (eC (.int 0))) (yb 6)) (eC (.int 1))) (eOp ixT (yb 8) (eC (.int 1)))))
 (sIf (yo (eOp eqA (eOp ixT (yb 2) (eC (.int 0))) (eC (.str "up")))) (yB (yf (zdD kE kR) (zb (yb 0) (zb (yb 1) (zb (eOp ixT (yb 2) (eC (.int 1))) (zb (eOp ixT (yb 9) (eC (.int 3))) ze)))))) (yh (zbP (yV (zb (yf (yz yx) (zb (eOp ixT (yb 0) (eC (.int 1))) ze)) ze)) (yr 10) (zjt kE kR))
 (yB (yf (zcN kE kR) (zb (yb 0) (zb (yb 1) (zb (eOp ixT (yb 2) (eC (.int 1))) (zb (eOp ixT (yb 8) (eC (.int 1))) (zb (eOp yN (eOp ixT (yb 8) (eC (.int 2))) (eC (.int 1))) ze))))))))))) zH))))
noncomputable def zcs (kE kR:Addr):List FT.T->Mem->Out FT.T:=qi 3 11 (zkT kE kR)
section
theorem za6:FnScope ["net","world","event","number","at","tries","house","caller","state","ask","k"] ["net","world","event"] (zg zhC):=by ac_rfl
theorem zct (D:Df K mg "_law_do" zhC ["net","world","event"]) (T:Txt K mg kE kR)   (zas:CalT P w K mg base 2 "_law_begin" ["net","world","house","caller"] (zaV kE kR)) (zcP:CalT P w K mg base 4 "_law_end" ["net","world","number","word"] (zdD kE kR)) (zbJ:CalT P w K mg base 3 "_law_try" ["net","world","number","at","tries"] (zcN kE kR)):CalT P w K mg base 5 "_law_do" ["net","world","event"] (zcs kE kR):=
 yp D za6 rfl rfl (fun f cdv A outer s H E hr=>(qd (qu (zj (qB hr.units) (yd zf (za (pv 2)) yc (fun _ _=>rfl)) yi (yj _)) (ye (ym (yg zas (hr.mono (by decide)) rfl (ya (za (pv 0)) (ya (za (pv 1)) (ya yc (ya qQ zd))))))) qq)
  (qd (qu (zj (qB hr.units) (yd zf (za (pv 2)) yc (fun _ _=>rfl)) yi (yj _)) (ye (ym (yg zcP (hr.mono (by decide)) rfl (ya (za (pv 0)) (ya (za (pv 1)) (ya (yd zf (za (pv 2)) yc (fun _ _=>rfl)) (ya (yd zf (za (pv 2)) yc (fun _ _=>rfl)) zd))))))) qq)
  (qd (qu (zj (qB hr.units) (yd zf (za (pv 2)) yc (fun _ _=>rfl)) yi (yj _)) (qd (yP z3 (zaD (yd zf (za (pv 1)) yc (fun _ _=>rfl)) (yd zf (za (pv 2)) yc (fun _ _=>rfl)) (zfv hr.units)))
  (qd (yP (yd zf (yd zf (yd zf (za (pv 1)) yc (fun _ _=>rfl)) (yd zf (za (pv 2)) yc (fun _ _=>rfl)) (fun _ _=>rfl)) yc (fun _ _=>rfl)) (zeE (zfA rfl (WGs.pe (qG (yJ (WG.pe (zo (yt (i:=3) za6.nd rfl (by first | exact Or.inl rfl | exact Or.inr rfl)))) (WGs.pe (qG (yJ (WG.pe (zo (yt (i:=4) za6.nd rfl (by first | exact Or.inl rfl | exact Or.inr rfl)))) (WGs.pe (qG (yJ (WG.pe (zo (yt (i:=5) za6.nd rfl (by first | exact Or.inl rfl | exact Or.inr rfl)))) (WGs.pe zb6)))))))))))))
  (ye (yP (zx (ya yi (ya (za (pv 4)) (ya (za (pv 5)) zd)))) (zaD (yd zf (yd zf (za (pv 1)) yc (fun _ _=>rfl)) (za (pv 3)) (fun _ _=>rfl)) yc (zfv hr.units)))))) qq)
  (ye (qu (zj (zo0 hr.units) (yd zf (za (pv 2)) yc (fun _ _=>rfl)) (zO (qv (ya yi (ya yi zd)))) rfl) (qd (yP (yd zf (yd zf (za (pv 1)) yc (fun _ _=>rfl)) (yd zf (za (pv 2)) yc (fun _ _=>rfl)) (fun _ _=>rfl)) (zhk (ziY rfl (WGs.pe (qG (yJ (WG.pe (zo (yt (i:=6) za6.nd rfl (by first | exact Or.inl rfl | exact Or.inr rfl)))) (WGs.pe (qG (yJ (WG.pe (zo (yt (i:=7) za6.nd rfl (by first | exact Or.inl rfl | exact Or.inr rfl)))) (WGs.pe (qG (yJ (WG.pe (zo (yt (i:=8) za6.nd rfl (by first | exact Or.inl rfl | exact Or.inr rfl)))) (WGs.pe zb6)))))))))))))
  (qd (zi (i:=9) za6.nd rfl (Or.inl rfl) (yd zf (yd zf (yd zf (yd zf (za (pv 0)) yc (fun _ _=>rfl)) (za (pv 6)) (fun _ _=>rfl)) yc (fun _ _=>rfl)) (yd zf (za (pv 8)) yc (fun _ _=>rfl)) (fun _ _=>rfl)))
  (ye (qu (zj (qB hr.units) (yd zf (za (pv 2)) yc (fun _ _=>rfl)) yi (yj _)) (ye (ym (yg zcP (hr.mono (by decide)) rfl (ya (za (pv 0)) (ya (za (pv 1)) (ya (yd zf (za (pv 2)) yc (fun _ _=>rfl)) (ya (yd zf (za (pv 9)) yc (fun _ _=>rfl)) zd))))))) (qd (zai PassesOwn.never rfl (qN rfl T.n_range (ya (yk zr rfl T.n_len boot_len (ya (yd zf (za (pv 0)) yc (fun _ _=>rfl)) zd)) zd)) (zo (yt (i:=10) za6.nd rfl (by first | exact Or.inl rfl | exact Or.inr rfl))) (ye (qu (zj (qB hr.units) (yd zf (yd zf (yd zf (za (pv 0)) yc (fun _ _=>rfl)) (za (pv 10)) (fun _ _=>rfl)) yc (fun _ _=>rfl)) (yd zf (za (pv 9)) yc (fun _ _=>rfl)) (yj _)) (qd (ym (qL (qO PySem.F.plainAttrs_list PySem.F.slot_list_append PySem.F.type_list_append zD (WE.pe (yd zf (za (pv 1)) yc (fun _ _=>rfl))) (WA.pe (ya (zx (ya (yk zr rfl T.n_len boot_len (ya (yd zf (za (pv 1)) yc (fun _ _=>rfl)) zd)) (ya (za (pv 10)) (ya (yd zf (yd zf (yd zf (za (pv 1)) yc (fun _ _=>rfl)) (za (pv 10)) (fun _ _=>rfl)) yc (fun _ _=>rfl)) zd)))) zd)))))
  (ye (yP (zn zG (yd zf (yd zf (yd zf (za (pv 1)) yc (fun _ _=>rfl)) (za (pv 10)) (fun _ _=>rfl)) yc (fun _ _=>rfl)) yc) (zaD (yd zf (yd zf (za (pv 1)) yc (fun _ _=>rfl)) (za (pv 10)) (fun _ _=>rfl)) yc (zfv hr.units))))) qq)))
  (ye (ym (yg zbJ (hr.mono (by decide)) rfl (ya (za (pv 0)) (ya (za (pv 1)) (ya (yd zf (za (pv 2)) yc (fun _ _=>rfl)) (ya (yd zf (za (pv 8)) yc (fun _ _=>rfl)) (ya (zn zG (yd zf (za (pv 8)) yc (fun _ _=>rfl)) yc) zd))))))))))))) qq))))))
end
noncomputable def zh6 (kE kR:Addr):Ev->Mem->Out Fl:=
 (yh (sIf (yo (eOp ltI (yb 1) (yf (yz yx) (zb (yb 0) ze)))) (qF (eOp ixT (yb 0) (yb 1))) zH)
 (qF (eOp yN (eOp z6 (eOp z6 (eC (.int 7919)) (yb 1)) (yb 1)) (eOp z6 (eC (.int 31)) (yb 1)))))
noncomputable def zbC (kE kR:Addr):List FT.T->Mem->Out FT.T:=qi 2 2 (zh6 kE kR)
section
theorem zkh:FnScope ["script","k"] ["script","k"] (zg zfc):=by ac_rfl
theorem za0 (D:Df K mg "_law_cell" zfc ["script","k"]) (T:Txt K mg kE kR)   :CalT P w K mg base 1 "_law_cell" ["script","k"] (zbC kE kR):=
 yp D zkh rfl rfl (fun f cdv A outer s H E hr=>(qd (qu (zj zcY (za (pv 1)) (yk zr rfl T.n_len boot_len (ya (za (pv 0)) zd)) (yj _)) (ye (qr (yd zf (za (pv 0)) (za (pv 1)) (fun _ _=>rfl)))) qq)
  (ye (qr (zn zG (zn zbb (zn zbb yc (za (pv 1))) (za (pv 1))) (zn zbb yc (za (pv 1))))))))
end
noncomputable def zdu (kE kR:Addr):Ev->Mem->Out Fl:=
 (yh (qp 8 (yf (za9 kE kR) (zb (yb 1) (zb (yb 3) ze))))
 (yh (sIf (zat (yo (eOp gtI (yf (yz yx) (zb (yb 8) ze)) (eC (.int 1)))) (yo (eOp gtI (yf (zA kE kR) (zb (yb 6) (zb (eC (.int 4)) ze))) (eC (.int 0))))) (qp 8 (eSl (yb 8) (zcH (eC (.int 1))) zc9)) zH)
 (yh (qp 9 (eOp ixT (yb 8) (yf (zA kE kR) (zb (yb 6) (zb (yf (yz yx) (zb (yb 8) ze)) ze)))))
 (yh (yB (qT zN (eUn yD (yb 4)) (zb (yb 9) ze)))
 (yB (yf (zcs kE kR) (zb (yb 1) (zb (yb 3) (zb (yb 9) ze)))))))))
noncomputable def ze2 (kE kR:Addr):Ev->Mem->Out Fl:=
 (yh (qp 6 (yf (zcd kE kR) (zb (eOp yN (yf (zbC kE kR) (zb (yb 0) (zb (yb 5) ze))) (yb 5)) ze)))
 (zbP (yV (zb (eOp yN (eC (.int 1)) (yf (zA kE kR) (zb (yb 6) (zb (yb 2) ze)))) ze)) (yr 7) (zdu kE kR)))
noncomputable def zfJ (kE kR:Addr):Ev->Mem->Out Fl:=
 (yh (qp 3 (yf (zbG kE kR) (zb (yb 1) ze)))
 (yh (qp 4 (eTk (yw ze)))
 (yh (zbP (zgn (zb (eC (.int 1)) (zb (yf (call2 zhS) (zb (eC (.int 12)) (zb (yf (call2 zgh) (zb (eC (.int 63)) (zb (yf (yz yx) (zb (yb 0) ze)) ze))) ze))) ze))) (yr 5) (ze2 kE kR))
 (qF (yG (zb (yb 4) (zb (yb 3) ze)))))))
noncomputable def zcK (kE kR:Addr):List FT.T->Mem->Out FT.T:=qi 3 10 (zfJ kE kR)
section
theorem qS:FnScope ["script","net","most","world","events","k","pool","turn","some","event"] ["script","net","most"] (zg zdO):=by ac_rfl
theorem zbY (D:Df K mg "_law_events" zdO ["script","net","most"]) (T:Txt K mg kE kR)   (zap:CalT P w K mg base 1 "_law_world" ["net"] (zbG kE kR)) (zbK:CalT P w K mg base 1 "_law_dig" ["cell"] (zcd kE kR)) (z9:CalT P w K mg base 2 "_law_may" ["net","world"] (za9 kE kR)) (zct:CalT P w K mg base 5 "_law_do" ["net","world","event"] (zcs kE kR)) (za0:CalT P w K mg base 1 "_law_cell" ["script","k"] (zbC kE kR)) (zy:CalT P w K mg base 1 "_law_next" ["pool","base"] (zA kE kR)):CalT P w K mg base 6 "_law_events" ["script","net","most"] (zcK kE kR):=
 yp D qS rfl rfl (fun f cdv A outer s H E hr=>(qd (zi (i:=3) qS.nd rfl (Or.inl rfl) (yg zap (hr.mono (by decide)) rfl (ya (za (pv 1)) zd)))
  (qd (zi (i:=4) qS.nd rfl (Or.inl rfl) (qH (qv zd)))
  (qd (zai PassesOwn.never rfl (zjw rfl T.n_range (ya yc (ya (yk (zgQ rfl) rfl T.n_max boot_max (ya yc (ya (yk (zeB rfl) rfl T.n_min boot_min (ya yc (ya (yk zr rfl T.n_len boot_len (ya (za (pv 0)) zd)) zd))) zd))) zd))) (zo (yt (i:=5) qS.nd rfl (by first | exact Or.inl rfl | exact Or.inr rfl))) (qd (zi (i:=6) qS.nd rfl (Or.inl rfl) (yg zbK (hr.mono (by decide)) rfl (ya (zn zG (yg za0 (hr.mono (by decide)) rfl (ya (za (pv 0)) (ya (za (pv 5)) zd))) (za (pv 5))) zd)))
  (ye (zai PassesOwn.never rfl (qN rfl T.n_range (ya (zn zG yc (yg zy (hr.mono (by decide)) rfl (ya (za (pv 6)) (ya (za (pv 2)) zd)))) zd)) (zo (yt (i:=7) qS.nd rfl (by first | exact Or.inl rfl | exact Or.inr rfl))) (qd (zi (i:=8) qS.nd rfl (Or.inl rfl) (yg z9 (hr.mono (by decide)) rfl (ya (za (pv 1)) (ya (za (pv 3)) zd))))
  (qd (qu (WW.gt (yZ (zj zdB (yk zr rfl T.n_len boot_len (ya (za (pv 8)) zd)) yc (yj _)) (qV (zj zdB (yg zy (hr.mono (by decide)) rfl (ya (za (pv 6)) (ya yc zd))) yc (yj _))))) (ye (zi (i:=8) qS.nd rfl (Or.inl rfl) (zfs (za (pv 8)) (zby yc) zb4))) qq)
  (qd (zi (i:=9) qS.nd rfl (Or.inl rfl) (yd zf (za (pv 8)) (yg zy (hr.mono (by decide)) rfl (ya (za (pv 6)) (ya (yk zr rfl T.n_len boot_len (ya (za (pv 8)) zd)) zd))) (fun _ _=>rfl)))
  (qd (ym (qL (qO PySem.F.plainAttrs_list PySem.F.slot_list_append PySem.F.type_list_append zD (WE.pe (za (pv 4))) (WA.pe (ya (za (pv 9)) zd)))))
  (ye (ym (yg zct (hr.mono (by decide)) rfl (ya (za (pv 1)) (ya (za (pv 3)) (ya (za (pv 9)) zd))))))))))))))
  (ye (qr (zx (ya (za (pv 4)) (ya (za (pv 3)) zd)))))))))
end
noncomputable def zfN (kE kR:Addr):Ev->Mem->Out Fl:=
 (yh (yE [kR] "net" (yb 0) (yb 1))
 (yh (yE [kR] "came" (yb 0) (eC (.int 0)))
 (yh (yE [kR] "errands" (yb 0) (eTk (yw ze)))
 (yh (yE [kR] "puts" (yb 0) (eTk (zbc (zcD (eOp ixT (yb 1) (eC (.int 1)))) (yr 0) zX (eTk (yw ze)) ["purse"] [])))
 (yh (yE [kR] "payments" (yb 0) (eTk (yw ze)))
 (yE [kR] "taken" (yb 0) (eTk (zbc (zcD (eOp ixT (yb 1) (eC (.int 1)))) (yr 0) zX (eC (.int 0)) ["purse"] []))))))))
noncomputable def zbg (kE kR:Addr):List FT.T->Mem->Out FT.T:=qi 2 2 (zfN kE kR)
section
theorem ziD:FnScope ["self","net"] ["self","net"] (zg zdT):=by ac_rfl
theorem zfB (D:Di K mg "Run" "Run.__init__" kR zdT ["self","net"]) (T:Txt K mg kE kR)   :MakT P w K mg base 1 "Run" kR ["self","net"] (zbg kE kR):=
 ziM D ziD rfl rfl (fun f cdv A outer s H E hr=>(qd (yL (zh ⟨T.cls_Run,T.na_Run_net⟩ qh) (za (pv 0)) (za (pv 1)))
  (qd (yL (zh ⟨T.cls_Run,T.na_Run_came⟩ qh) (za (pv 0)) yc)
  (qd (yL (zh ⟨T.cls_Run,T.na_Run_errands⟩ qh) (za (pv 0)) (qH (qv zd)))
  (qd (yL (zh ⟨T.cls_Run,T.na_Run_puts⟩ qh) (za (pv 0)) (qH (zaK (tgs:=["purse"]) (caps:=[]) (zb5 (yd zf (za (pv 1)) yc (fun _ _=>rfl))) (by bv_omega) (fun _ _ _=>(zo (yt (i:=0) (show (["purse"]:List Str).Nodup by decide +kernel) rfl (by first | exact Or.inl rfl | exact Or.inr rfl)))) (fun _ _ _=>zbx) (fun _ _ _=>(qH (qv zd))))))
  (qd (yL (zh ⟨T.cls_Run,T.na_Run_payments⟩ qh) (za (pv 0)) (qH (qv zd)))
  (ye (yL (zh ⟨T.cls_Run,T.na_Run_taken⟩ qh) (za (pv 0)) (qH (zaK (tgs:=["purse"]) (caps:=[]) (zb5 (yd zf (za (pv 1)) yc (fun _ _=>rfl))) (by bv_omega) (fun _ _ _=>(zo (yt (i:=0) (show (["purse"]:List Str).Nodup by decide +kernel) rfl (by first | exact Or.inl rfl | exact Or.inr rfl)))) (fun _ _ _=>zbx) (fun _ _ _=>yc)))))))))))
end
noncomputable def zgN (kE kR:Addr):Ev->Mem->Out Fl:=
 (qF (eOp ixT (eOp ixT (eOp ixT (zp [kR] "net" (yb 0)) (eC (.int 0))) (zp [kE] "house" (eOp ixT (zp [kR] "errands" (yb 0)) (yb 1)))) (eC (.int 1))))
noncomputable def yC (kE kR:Addr):List FT.T->Mem->Out FT.T:=qi 2 2 (zgN kE kR)
section
theorem zjF:FnScope ["run","number"] ["run","number"] (zg zem):=by ac_rfl
theorem yq (D:Df K mg "asks_of" zem ["run","number"]) (T:Txt K mg kE kR)   :CalT P w K mg base 1 "asks_of" ["run","number"] (yC kE kR):=
 yp D zjF rfl rfl (fun f cdv A outer s H E hr=>(ye (qr (yd zf (yd zf (yd zf (zm (zh ⟨T.cls_Run,T.na_Run_net⟩ qh) (za (pv 0))) yc (fun _ _=>rfl)) (zm (zh ⟨T.cls_Errand,T.na_Errand_house⟩ qh) (yd zf (zm (zh ⟨T.cls_Run,T.na_Run_errands⟩ qh) (za (pv 0))) (za (pv 1)) (fun _ _=>rfl))) (fun _ _=>rfl)) yc (fun _ _=>rfl)))))
end
noncomputable def zea (kE kR:Addr):Ev->Mem->Out Fl:=
 (yh (qp 2 (eOp ixT (zp [kR] "errands" (yb 0)) (yb 1)))
 (yh (sIf (zb7 (yo (eOp isN (zp [kE] "caller" (yb 2)) (eC .non))) (zb7 (yo (zp [kE] "is_lost" (yb 2))) (yo (eOp eqA (eOp ixT (zp [kE] "state" (yb 2)) (eC (.int 0))) (eC (.str "ended")))))) (qF (eC (.bl false))) zH)
 (qF (zjX (eOp ixT (eOp ixT (yf (yC kE kR) (zb (yb 0) (zb (eOp ixT (zp [kE] "caller" (yb 2)) (eC (.int 0))) ze))) (eOp ixT (zp [kE] "caller" (yb 2)) (eC (.int 1)))) (eC (.int 5)))))))
noncomputable def zaz (kE kR:Addr):List FT.T->Mem->Out FT.T:=qi 2 3 (zea kE kR)
section
theorem zdy:FnScope ["run","number","errand"] ["run","number"] (zg zcx):=by ac_rfl
theorem zaB (D:Df K mg "may_be_lost" zcx ["run","number"]) (T:Txt K mg kE kR)   (yq:CalT P w K mg base 1 "asks_of" ["run","number"] (yC kE kR)):CalT P w K mg base 2 "may_be_lost" ["run","number"] (zaz kE kR):=
 yp D zdy rfl rfl (fun f cdv A outer s H E hr=>(qd (zi (i:=2) zdy.nd rfl (Or.inl rfl) (yd zf (zm (zh ⟨T.cls_Run,T.na_Run_errands⟩ qh) (za (pv 0))) (za (pv 1)) (fun _ _=>rfl)))
  (qd (qu (WW.gt (zbm (zj zgb (zm (zh ⟨T.cls_Errand,T.na_Errand_caller⟩ qh) (za (pv 2))) qQ (yj _)) (zbm (yQ (zm (zh ⟨T.cls_Errand,T.na_Errand_is_lost⟩ qh) (za (pv 2)))) (zbD (zj (qB hr.units) (yd zf (zm (zh ⟨T.cls_Errand,T.na_Errand_state⟩ qh) (za (pv 2))) yc (fun _ _=>rfl)) yi (yj _)))))) (ye (qr z3)) qq)
  (ye (qr (ziO (yd zf (yd zf (yg yq (hr.mono (by decide)) rfl (ya (za (pv 0)) (ya (yd zf (zm (zh ⟨T.cls_Errand,T.na_Errand_caller⟩ qh) (za (pv 2))) yc (fun _ _=>rfl)) zd))) (yd zf (zm (zh ⟨T.cls_Errand,T.na_Errand_caller⟩ qh) (za (pv 2))) yc (fun _ _=>rfl)) (fun _ _=>rfl)) yc (fun _ _=>rfl))))))))
end
noncomputable def zc1 (kE kR:Addr):Ev->Mem->Out Fl:=
 (yh (qp 2 (zp [kE] "state" (eOp ixT (zp [kR] "errands" (yb 0)) (yb 1))))
 (yh (sIf (yo (eOp neA (eOp ixT (yb 2) (eC (.int 0))) (eC (.str "stands")))) (qF (eC (.bl false))) zH)
 (yh (qp 3 (eOp ixT (eOp ixT (yf (yC kE kR) (zb (yb 0) (zb (yb 1) ze))) (eOp ixT (yb 2) (eC (.int 1)))) (eC (.int 1))))
 (qF (eOr (eOp eqA (yb 3) (eC (.int 0))) (eOp ltI (eOp ixT (yb 2) (eC (.int 2))) (yb 3)))))))
noncomputable def y6 (kE kR:Addr):List FT.T->Mem->Out FT.T:=qi 2 4 (zc1 kE kR)
section
theorem zbj:FnScope ["run","number","state","tries"] ["run","number"] (zg zbz):=by ac_rfl
theorem z7 (D:Df K mg "has_tries_left" zbz ["run","number"]) (T:Txt K mg kE kR)   (yq:CalT P w K mg base 1 "asks_of" ["run","number"] (yC kE kR)):CalT P w K mg base 2 "has_tries_left" ["run","number"] (y6 kE kR):=
 yp D zbj rfl rfl (fun f cdv A outer s H E hr=>(qd (zi (i:=2) zbj.nd rfl (Or.inl rfl) (zm (zh ⟨T.cls_Errand,T.na_Errand_state⟩ qh) (yd zf (zm (zh ⟨T.cls_Run,T.na_Run_errands⟩ qh) (za (pv 0))) (za (pv 1)) (fun _ _=>rfl))))
  (qd (qu (zj (zbn hr.units) (yd zf (za (pv 2)) yc (fun _ _=>rfl)) yi (yj _)) (ye (qr z3)) qq)
  (qd (zi (i:=3) zbj.nd rfl (Or.inl rfl) (yd zf (yd zf (yg yq (hr.mono (by decide)) rfl (ya (za (pv 0)) (ya (za (pv 1)) zd))) (yd zf (za (pv 2)) yc (fun _ _=>rfl)) (fun _ _=>rfl)) yc (fun _ _=>rfl)))
  (ye (qr (zj7 (zaj (qB hr.units) (za (pv 3)) yc (yj _)) (zdx (zaj zcY (yd zf (za (pv 2)) yc (fun _ _=>rfl)) (za (pv 3)) (yj _))))))))))
end
noncomputable def zcF (kE kR:Addr):Ev->Mem->Out Fl:=
 (yh (qp 2 (eOp ixT (zp [kE] "state" (eOp ixT (zp [kR] "errands" (yb 0)) (yb 1))) (eC (.int 0))))
 (yh (qp 3 (eTk (yw ze)))
 (yh (sIf (yo (eOp eqA (yb 2) (eC (.str "works")))) (yB (zaA zbw zew (yb 3) (zb (eFz (yw (zb (yG (zb (eC (.str "ends")) (zb (yb 1) (zb (eC (.str "bad")) ze)))) (zb (yG (zb (eC (.str "ends")) (zb (yb 1) (zb (eC (.str "spent")) ze)))) (zb (yG (zb (eC (.str "ends")) (zb (yb 1) (zb (eC (.str "well")) ze)))) ze))))) ze))) zH)
 (yh (sIf (yo (yf (zaz kE kR) (zb (yb 0) (zb (yb 1) ze)))) (yB (qT zN (eUn yD (yb 3)) (zb (yG (zb (eC (.str "lost")) (zb (yb 1) ze))) ze))) zH)
 (yh (sIf (yo (yf (y6 kE kR) (zb (yb 0) (zb (yb 1) ze)))) (yB (qT zN (eUn yD (yb 3)) (zb (yG (zb (eC (.str "again")) (zb (yb 1) ze))) ze))) zH)
 (yh (sIf (yo (eOp eqA (yb 2) (eC (.str "stands")))) (yB (qT zN (eUn yD (yb 3)) (zb (yG (zb (eC (.str "up")) (zb (yb 1) ze))) ze))) zH)
 (qF (yb 3))))))))
noncomputable def zbl (kE kR:Addr):List FT.T->Mem->Out FT.T:=qi 2 4 (zcF kE kR)
noncomputable def zah (kE kR:Addr):List FT.T->Mem->Out FT.T:=zev (zbl kE kR)
section
theorem zaP:FnScope ["run","number","word","events"] ["run","number"] (zg zbk):=by ac_rfl
theorem qK (D:Df K mg "events_by_tries" zbk ["run","number"]) (T:Txt K mg kE kR)   (zaB:CalT P w K mg base 2 "may_be_lost" ["run","number"] (zaz kE kR)) (z7:CalT P w K mg base 2 "has_tries_left" ["run","number"] (y6 kE kR)):CalT P w K mg base 3 "events_by_tries" ["run","number"] (zbl kE kR):=
 yp D zaP rfl rfl (fun f cdv A outer s H E hr=>(qd (zi (i:=2) zaP.nd rfl (Or.inl rfl) (yd zf (zm (zh ⟨T.cls_Errand,T.na_Errand_state⟩ qh) (yd zf (zm (zh ⟨T.cls_Run,T.na_Run_errands⟩ qh) (za (pv 0))) (za (pv 1)) (fun _ _=>rfl))) yc (fun _ _=>rfl)))
  (qd (zi (i:=3) zaP.nd rfl (Or.inl rfl) (qH (qv zd)))
  (qd (qu (zj (qB hr.units) (za (pv 2)) yi (yj _)) (ye (ym (zcQ zed (qO PySem.F.plainAttrs_list PySem.F.slot_list_extend PySem.F.type_list_extend zi3 (WE.pe (za (pv 3))) (WA.pe (ya (zO (qv (ya (zx (ya yi (ya (za (pv 1)) (ya yi zd)))) (ya (zx (ya yi (ya (za (pv 1)) (ya yi zd)))) (ya (zx (ya yi (ya (za (pv 1)) (ya yi zd)))) zd))))) zd)))))) qq)
  (qd (qu (yQ (yg zaB (hr.mono (by decide)) rfl (ya (za (pv 0)) (ya (za (pv 1)) zd)))) (ye (ym (qL (qO PySem.F.plainAttrs_list PySem.F.slot_list_append PySem.F.type_list_append zD (WE.pe (za (pv 3))) (WA.pe (ya (zx (ya yi (ya (za (pv 1)) zd))) zd)))))) qq)
  (qd (qu (yQ (yg z7 (hr.mono (by decide)) rfl (ya (za (pv 0)) (ya (za (pv 1)) zd)))) (ye (ym (qL (qO PySem.F.plainAttrs_list PySem.F.slot_list_append PySem.F.type_list_append zD (WE.pe (za (pv 3))) (WA.pe (ya (zx (ya yi (ya (za (pv 1)) zd))) zd)))))) qq)
  (qd (qu (zj (qB hr.units) (za (pv 2)) yi (yj _)) (ye (ym (qL (qO PySem.F.plainAttrs_list PySem.F.slot_list_append PySem.F.type_list_append zD (WE.pe (za (pv 3))) (WA.pe (ya (zx (ya yi (ya (za (pv 1)) zd))) zd)))))) qq)
  (ye (qr (za (pv 3)))))))))))
end
noncomputable def zeY (kE kR:Addr):Ev->Mem->Out Fl:=
 (qF (zaA zbw zdX (eFz (zbc (zcD (yb 0)) (yr 0) zX (eOp ixT (yb 0) (eC (.int 0))) ["one"] [])) (zb (yb 1) ze)))
noncomputable def zad (kE kR:Addr):List FT.T->Mem->Out FT.T:=qi 2 2 (zeY kE kR)
section
theorem zhx:FnScope ["named","name"] ["named","name"] (zg zdl):=by ac_rfl
theorem qY (D:Df K mg "number_of" zdl ["named","name"]) (T:Txt K mg kE kR)   :CalT P w K mg base 1 "number_of" ["named","name"] (zad kE kR):=
 yp D zhx rfl rfl (fun f cdv A outer s H E hr=>(ye (qr (zcQ zed (qO PySem.F.plainAttrs_list PySem.F.slot_list_index PySem.F.type_list_index (zkz hr.units) (WE.pe (zO (zaK (tgs:=["one"]) (caps:=[]) (zb5 (za (pv 0))) (by bv_omega) (fun _ _ _=>(zo (yt (i:=0) (show (["one"]:List Str).Nodup by decide +kernel) rfl (by first | exact Or.inl rfl | exact Or.inr rfl)))) (fun _ _ _=>zbx) (fun _ _ _=>(yd zf (za (pv 0)) yc (fun _ _=>rfl)))))) (WA.pe (ya (za (pv 1)) zd)))))))
end
noncomputable def zfG (kE kR:Addr):Ev->Mem->Out Fl:=
 (qF (eIf (yo (eOp isN (eOp ixT (yb 1) (eC (.int 2))) (eC .non))) (eC .non) (yf (zad kE kR) (zb (eOp ixT (zp [kR] "net" (yb 0)) (eC (.int 1))) (zb (eOp ixT (yb 1) (eC (.int 2))) ze)))))
noncomputable def yT (kE kR:Addr):List FT.T->Mem->Out FT.T:=qi 2 2 (zfG kE kR)
section
theorem ziy:FnScope ["run","ask"] ["run","ask"] (zg zdL):=by ac_rfl
theorem yI (D:Df K mg "purse_of" zdL ["run","ask"]) (T:Txt K mg kE kR)   (qY:CalT P w K mg base 1 "number_of" ["named","name"] (zad kE kR)):CalT P w K mg base 2 "purse_of" ["run","ask"] (yT kE kR):=
 yp D ziy rfl rfl (fun f cdv A outer s H E hr=>(ye (qr (zog (zj zgb (yd zf (za (pv 1)) yc (fun _ _=>rfl)) qQ (yj _)) qQ (yg qY (hr.mono (by decide)) rfl (ya (yd zf (zm (zh ⟨T.cls_Run,T.na_Run_net⟩ qh) (za (pv 0))) yc (fun _ _=>rfl)) (ya (yd zf (za (pv 1)) yc (fun _ _=>rfl)) zd)))))))
end
noncomputable def zeu (kE kR:Addr):Ev->Mem->Out Fl:=
 (qF (eOp zex (yf (yz yx) (zb (eOp ixT (zp [kR] "puts" (yb 0)) (yb 1)) ze)) (eOp ixT (eOp ixT (eOp ixT (zp [kR] "net" (yb 0)) (eC (.int 1))) (yb 1)) (eC (.int 2)))))
noncomputable def zaX (kE kR:Addr):List FT.T->Mem->Out FT.T:=qi 2 2 (zeu kE kR)
section
theorem zg1:FnScope ["run","purse"] ["run","purse"] (zg zcV):=by ac_rfl
theorem za1 (D:Df K mg "coins_made" zcV ["run","purse"]) (T:Txt K mg kE kR)   :CalT P w K mg base 1 "coins_made" ["run","purse"] (zaX kE kR):=
 yp D zg1 rfl rfl (fun f cdv A outer s H E hr=>(ye (qr (zn zgc (yk zr rfl T.n_len boot_len (ya (yd zf (zm (zh ⟨T.cls_Run,T.na_Run_puts⟩ qh) (za (pv 0))) (za (pv 1)) (fun _ _=>rfl)) zd)) (yd zf (yd zf (yd zf (zm (zh ⟨T.cls_Run,T.na_Run_net⟩ qh) (za (pv 0))) yc (fun _ _=>rfl)) (za (pv 1)) (fun _ _=>rfl)) yc (fun _ _=>rfl))))))
end
noncomputable def zes (kE kR:Addr):Ev->Mem->Out Fl:=
 (qF (yG (zb (eOp zbR (yf (yz yx) (zb (eOp ixT (zp [kR] "puts" (yb 0)) (yb 1)) ze)) (eOp ixT (eOp ixT (eOp ixT (zp [kR] "net" (yb 0)) (eC (.int 1))) (yb 1)) (eC (.int 2)))) (zb (eOp zee (yf (zaX kE kR) (zb (yb 0) (zb (yb 1) ze))) (eOp ixT (zp [kR] "taken" (yb 0)) (yb 1))) ze))))
noncomputable def zaT (kE kR:Addr):List FT.T->Mem->Out FT.T:=qi 2 2 (zes kE kR)
section
theorem zg0:FnScope ["run","purse"] ["run","purse"] (zg zcU):=by ac_rfl
theorem zaZ (D:Df K mg "purse_told" zcU ["run","purse"]) (T:Txt K mg kE kR)   (za1:CalT P w K mg base 1 "coins_made" ["run","purse"] (zaX kE kR)):CalT P w K mg base 2 "purse_told" ["run","purse"] (zaT kE kR):=
 yp D zg0 rfl rfl (fun f cdv A outer s H E hr=>(ye (qr (zx (ya (zn zaF (yk zr rfl T.n_len boot_len (ya (yd zf (zm (zh ⟨T.cls_Run,T.na_Run_puts⟩ qh) (za (pv 0))) (za (pv 1)) (fun _ _=>rfl)) zd)) (yd zf (yd zf (yd zf (zm (zh ⟨T.cls_Run,T.na_Run_net⟩ qh) (za (pv 0))) yc (fun _ _=>rfl)) (za (pv 1)) (fun _ _=>rfl)) yc (fun _ _=>rfl))) (ya (zn zcM (yg za1 (hr.mono (by decide)) rfl (ya (za (pv 0)) (ya (za (pv 1)) zd))) (yd zf (zm (zh ⟨T.cls_Run,T.na_Run_taken⟩ qh) (za (pv 0))) (za (pv 1)) (fun _ _=>rfl))) zd))))))
end
noncomputable def zfL (kE kR:Addr):Ev->Mem->Out Fl:=
 (yh (qp 2 (yf (yT kE kR) (zb (yb 0) (zb (eOp ixT (yf (yC kE kR) (zb (yb 0) (zb (yb 1) ze))) (eOp ixT (zp [kE] "state" (eOp ixT (zp [kR] "errands" (yb 0)) (yb 1))) (eC (.int 1)))) ze))))
 (qF (eOr (eOp isN (yb 2) (eC .non)) (eOp gtI (eOp ixT (yf (zaT kE kR) (zb (yb 0) (zb (yb 2) ze))) (eC (.int 1))) (eC (.int 0))))))
noncomputable def zbf (kE kR:Addr):List FT.T->Mem->Out FT.T:=qi 2 3 (zfL kE kR)
section
theorem zeS:FnScope ["run","number","purse"] ["run","number"] (zg zdQ):=by ac_rfl
theorem zb0 (D:Df K mg "has_coin" zdQ ["run","number"]) (T:Txt K mg kE kR)   (yI:CalT P w K mg base 2 "purse_of" ["run","ask"] (yT kE kR)) (yq:CalT P w K mg base 1 "asks_of" ["run","number"] (yC kE kR)) (zaZ:CalT P w K mg base 2 "purse_told" ["run","purse"] (zaT kE kR)):CalT P w K mg base 3 "has_coin" ["run","number"] (zbf kE kR):=
 yp D zeS rfl rfl (fun f cdv A outer s H E hr=>(qd (zi (i:=2) zeS.nd rfl (Or.inl rfl) (yg yI (hr.mono (by decide)) rfl (ya (za (pv 0)) (ya (yd zf (yg yq (hr.mono (by decide)) rfl (ya (za (pv 0)) (ya (za (pv 1)) zd))) (yd zf (zm (zh ⟨T.cls_Errand,T.na_Errand_state⟩ qh) (yd zf (zm (zh ⟨T.cls_Run,T.na_Run_errands⟩ qh) (za (pv 0))) (za (pv 1)) (fun _ _=>rfl))) yc (fun _ _=>rfl)) (fun _ _=>rfl)) zd))))
  (ye (qr (zj7 (zaj zgb (za (pv 2)) qQ (yj _)) (zdx (zaj zdB (yd zf (yg zaZ (hr.mono (by decide)) rfl (ya (za (pv 0)) (ya (za (pv 2)) zd))) yc (fun _ _=>rfl)) yc (yj _))))))))
end
noncomputable def ze0 (kE kR:Addr):Ev->Mem->Out Fl:=
 (qF (eFz (zbc (zcD (yf (zah kE kR) (zb (yb 0) (zb (yb 1) ze)))) (yr 0) (zb7 (yo (eOp neA (eOp ixT (yb 0) (eC (.int 0))) (eC (.str "again")))) (yo (yf (zbf kE kR) (zb (yb 1) (zb (yb 2) ze))))) (yb 0) ["event"] [("run",0),("number",1)])))
noncomputable def zae (kE kR:Addr):List FT.T->Mem->Out FT.T:=qi 2 2 (ze0 kE kR)
section
theorem zhA:FnScope ["run","number"] ["run","number"] (zg zdn):=by ac_rfl
theorem zZ (D:Df K mg "events_at" zdn ["run","number"]) (T:Txt K mg kE kR)   (qK:CalT P w K mg base 3 "events_by_tries" ["run","number"] (zah kE kR)) (zb0:CalT P w K mg base 3 "has_coin" ["run","number"] (zbf kE kR)):CalT P w K mg base 4 "events_at" ["run","number"] (zae kE kR):=
 yp D zhA rfl rfl (fun f cdv A outer s H E hr=>(ye (qr (zO (zaK (tgs:=["event"]) (caps:=[("run",0),("number",1)]) (zb5 (yg qK (hr.mono (by decide)) rfl (ya (za (pv 0)) (ya (za (pv 1)) zd)))) (by bv_omega) (fun _ _ _=>(zo (yt (i:=0) (show (["event","run","number"]:List Str).Nodup by decide +kernel) rfl (by first | exact Or.inl rfl | exact Or.inr rfl)))) (fun _ _ _=>(zlg (WW.gt (zbm (zj (zbn hr.units) (yd zf (za (pv 0)) yc (fun _ _=>rfl)) yi (yj _)) (zbD (yQ (yg zb0 (hr.mono (by decide)) rfl (ya (za (pv 1)) (ya (za (pv 2)) zd))))))))) (fun _ _ _=>(za (pv 0))))))))
end
noncomputable def zfK (kE kR:Addr):Ev->Mem->Out Fl:=
 (qF (zih (yf (call2 zan) (zb (yb 0) (zb (eC (.ty "int")) ze))) (zjX (yf (call2 zan) (zb (yb 0) (zb (eC (.ty "bool")) ze))))))
noncomputable def zbV (kE kR:Addr):List FT.T->Mem->Out FT.T:=qi 1 1 (zfK kE kR)
section
theorem ziA:FnScope ["thing"] ["thing"] (zg zdP):=by ac_rfl
theorem zbZ (D:Df K mg "is_whole" zdP ["thing"]) (T:Txt K mg kE kR)   :CalT P w K mg base 1 "is_whole" ["thing"] (zbV kE kR):=
 yp D ziA rfl rfl (fun f cdv A outer s H E hr=>(ye (qr (zfV (yk zbW rfl T.n_isinstance boot_isinstance (ya (za (pv 0)) (ya (zdI rfl T.n_int boot_int) zd))) (zdx (ziO (yk zbW rfl T.n_isinstance boot_isinstance (ya (za (pv 0)) (ya (zdI rfl T.n_bool boot_bool) zd)))))))))
end
noncomputable def zeZ (kE kR:Addr):Ev->Mem->Out Fl:=
 (qF (zih (yf (zbV kE kR) (zb (yb 0) ze)) (zfP leI leI (yb 1) (yb 0) (yb 2))))
noncomputable def zbp (kE kR:Addr):List FT.T->Mem->Out FT.T:=qi 3 3 (zeZ kE kR)
section
theorem zhz:FnScope ["thing","low","high"] ["thing","low","high"] (zg zdm):=by ac_rfl
theorem zbt (D:Df K mg "is_within" zdm ["thing","low","high"]) (T:Txt K mg kE kR)   (zbZ:CalT P w K mg base 1 "is_whole" ["thing"] (zbV kE kR)):CalT P w K mg base 2 "is_within" ["thing","low","high"] (zbp kE kR):=
 yp D zhz rfl rfl (fun f cdv A outer s H E hr=>(ye (qr (zfV (yg zbZ (hr.mono (by decide)) rfl (ya (za (pv 0)) zd)) (zdx (zj9 zku zku (za (pv 1)) (za (pv 0)) (za (pv 2))))))))
end
noncomputable def zd0 (kE kR:Addr):Ev->Mem->Out Fl:=
 (yh (sIf (yo (eOp eqA (yb 1) (eC (.tup [.str "fresh"])))) (qF (eC (.bl true))) zH)
 (yh (sIf (zb7 (zcG (yo (yf (call2 zan) (zb (yb 1) (zb (eC (.ty "tuple")) ze))))) (zb7 (yo (eOp ltI (yf (yz yx) (zb (yb 1) ze)) (eC (.int 2)))) (zcG (yo (yf (zbp kE kR) (zb (eOp ixT (yb 1) (eC (.int 1))) (zb (eC (.int 0)) (zb (eOp zee (yf (yz yx) (zb (zp [kR] "errands" (yb 0)) ze)) (eC (.int 1))) ze)))))))) (qF (eC (.bl false))) zH)
 (qF (eOp inN (yb 1) (yf (zae kE kR) (zb (yb 0) (zb (eOp ixT (yb 1) (eC (.int 1))) ze)))))))
noncomputable def zaw (kE kR:Addr):List FT.T->Mem->Out FT.T:=qi 2 2 (zd0 kE kR)
section
theorem ziB:FnScope ["run","event"] ["run","event"] (zg zdR):=by ac_rfl
theorem zb1 (D:Df K mg "can_come" zdR ["run","event"]) (T:Txt K mg kE kR)   (zZ:CalT P w K mg base 4 "events_at" ["run","number"] (zae kE kR)) (zbt:CalT P w K mg base 2 "is_within" ["thing","low","high"] (zbp kE kR)):CalT P w K mg base 5 "can_come" ["run","event"] (zaw kE kR):=
 yp D ziB rfl rfl (fun f cdv A outer s H E hr=>(qd (qu (zj (qB hr.units) (za (pv 1)) (zgB (ss:=["fresh"]) rfl T.c_FRESH) (yj _)) (ye (qr z3)) qq)
  (qd (qu (WW.gt (zbm (zb3 (yQ (yk zbW rfl T.n_isinstance boot_isinstance (ya (za (pv 1)) (ya (zdI rfl T.n_tuple boot_tuple) zd))))) (zbm (zj zcY (yk zr rfl T.n_len boot_len (ya (za (pv 1)) zd)) yc (yj _)) (zbD (zb3 (yQ (yg zbt (hr.mono (by decide)) rfl (ya (yd zf (za (pv 1)) yc (fun _ _=>rfl)) (ya yc (ya (zn zcM (yk zr rfl T.n_len boot_len (ya (zm (zh ⟨T.cls_Run,T.na_Run_errands⟩ qh) (za (pv 0))) zd)) yc) zd)))))))))) (ye (qr z3)) qq)
  (ye (qr (zaj (zoZ hr.units) (za (pv 1)) (yg zZ (hr.mono (by decide)) rfl (ya (za (pv 0)) (ya (yd zf (za (pv 1)) yc (fun _ _=>rfl)) zd))) rfl))))))
end
noncomputable def zcE (kE kR:Addr):Ev->Mem->Out Fl:=
 (sIf (zcG (yo (yf (zaw kE kR) (zb (yb 0) (zb (yb 1) ze))))) zlq zH)
noncomputable def qP (kE kR:Addr):List FT.T->Mem->Out FT.T:=qi 2 2 (zcE kE kR)
section
theorem zfX:FnScope ["run","event"] ["run","event"] (zg zcy):=by ac_rfl
theorem zaC (D:Df K mg "check_event" zcy ["run","event"]) (T:Txt K mg kE kR)   (zb1:CalT P w K mg base 5 "can_come" ["run","event"] (zaw kE kR)):CalT P w K mg base 6 "check_event" ["run","event"] (qP kE kR):=
 yp D zfX rfl rfl (fun f cdv A outer s H E hr=>(ye (qu (zb3 (yQ (yg zb1 (hr.mono (by decide)) rfl (ya (za (pv 0)) (ya (za (pv 1)) zd))))) (ye zmA) qq)))
end
noncomputable def zfM (kE kR:Addr):Ev->Mem->Out Fl:=
 (qF (yf (zad kE kR) (zb (eOp ixT (yb 0) (eC (.int 0))) (zb (eOp ixT (yb 1) (eC (.int 0))) ze))))
noncomputable def zax (kE kR:Addr):List FT.T->Mem->Out FT.T:=qi 2 2 (zfM kE kR)
section
theorem ziC:FnScope ["net","ask"] ["net","ask"] (zg zdS):=by ac_rfl
theorem zab (D:Df K mg "asked_by" zdS ["net","ask"]) (T:Txt K mg kE kR)   (qY:CalT P w K mg base 1 "number_of" ["named","name"] (zad kE kR)):CalT P w K mg base 2 "asked_by" ["net","ask"] (zax kE kR):=
 yp D ziC rfl rfl (fun f cdv A outer s H E hr=>(ye (qr (yg qY (hr.mono (by decide)) rfl (ya (yd zf (za (pv 0)) yc (fun _ _=>rfl)) (ya (yd zf (za (pv 1)) yc (fun _ _=>rfl)) zd))))))
end
noncomputable def zeb (kE kR:Addr):Ev->Mem->Out Fl:=
 (yh (yE [kE] "house" (yb 0) (yb 1))
 (yh (yE [kE] "caller" (yb 0) (yb 2))
 (yh (yE [kE] "state" (yb 0) (yG (zb (eC (.str "works")) ze)))
 (yh (yE [kE] "is_lost" (yb 0) (eC (.bl false)))
 (yh (yE [kE] "asked" (yb 0) (eC .non))
 (yE [kE] "stood" (yb 0) (eC .non)))))))
noncomputable def yW (kE kR:Addr):List FT.T->Mem->Out FT.T:=qi 3 3 (zeb kE kR)
section
theorem zfY:FnScope ["self","house","caller"] ["self","house","caller"] (zg zcz):=by ac_rfl
theorem zaR (D:Di K mg "Errand" "Errand.__init__" kE zcz ["self","house","caller"]) (T:Txt K mg kE kR)   :MakT P w K mg base 1 "Errand" kE ["self","house","caller"] (yW kE kR):=
 ziM D zfY rfl rfl (fun f cdv A outer s H E hr=>(qd (yL (zh ⟨T.cls_Errand,T.na_Errand_house⟩ qh) (za (pv 0)) (za (pv 1)))
  (qd (yL (zh ⟨T.cls_Errand,T.na_Errand_caller⟩ qh) (za (pv 0)) (za (pv 2)))
  (qd (yL (zh ⟨T.cls_Errand,T.na_Errand_state⟩ qh) (za (pv 0)) (zx (ya yi zd)))
  (qd (yL (zh ⟨T.cls_Errand,T.na_Errand_is_lost⟩ qh) (za (pv 0)) z3)
  (qd (yL (zh ⟨T.cls_Errand,T.na_Errand_asked⟩ qh) (za (pv 0)) qQ)
  (ye (yL (zh ⟨T.cls_Errand,T.na_Errand_stood⟩ qh) (za (pv 0)) qQ))))))))
end
noncomputable def zbo (kE kR:Addr) (q_begin_try q_begin_errand:List FT.T->Mem->Out FT.T):Ev->Mem->Out Fl:=
 (yh (qp 4 (eOp ixT (yf (yC kE kR) (zb (yb 0) (zb (yb 1) ze))) (yb 2)))
 (yh (qp 5 (yf (yz yx) (zb (zp [kR] "errands" (yb 0)) ze)))
 (yh (yE [kE] "state" (eOp ixT (zp [kR] "errands" (yb 0)) (yb 1)) (yG (zb (eC (.str "waits")) (zb (yb 2) (zb (yb 3) ze)))))
 (yh (yE [kE] "asked" (eOp ixT (zp [kR] "errands" (yb 0)) (yb 1)) (yb 5))
 (yh (qp 6 (yf (yT kE kR) (zb (yb 0) (zb (yb 4) ze))))
 (yh (sIf (zat (yo (eOp y8 (yb 6) (eC .non))) (zb7 (yo (eOp eqA (yb 3) (eC (.int 1)))) (yo (eOp eqA (eOp ixT (eOp ixT (eOp ixT (zp [kR] "net" (yb 0)) (eC (.int 1))) (yb 6)) (eC (.int 1))) (eC (.str "any")))))) (yB (qT zN (eUn yD (eOp ixT (zp [kR] "puts" (yb 0)) (yb 6))) (zb (yb 5) ze))) zH)
 (yB (yf q_begin_errand (zb (yb 0) (zb (yf (zax kE kR) (zb (zp [kR] "net" (yb 0)) (zb (yb 4) ze))) (zb (yG (zb (yb 1) (zb (yb 2) (zb (yb 3) ze)))) ze)))))))))))
variable {L:Nat}
section
theorem zaQ:FnScope ["run","number","at","tried","ask","begun","purse"] ["run","number","at","tried"] (zg zcj):=by ac_rfl
theorem yH {q_begin_try q_begin_errand:List FT.T->Mem->Out FT.T} (hL:2<=L) (D:Df K mg "begin_try" zcj ["run","number","at","tried"]) (T:Txt K mg kE kR) (yI:CalT P w K mg base 2 "purse_of" ["run","ask"] (yT kE kR)) (qR:CalT P w K mg base L "begin_errand" ["run","house","caller"] q_begin_errand) (yq:CalT P w K mg base 1 "asks_of" ["run","number"] (yC kE kR)) (zab:CalT P w K mg base 2 "asked_by" ["net","ask"] (zax kE kR)):CalT P w K mg base (L + 1) "begin_try" ["run","number","at","tried"] (qi 4 7 (zbo kE kR q_begin_try q_begin_errand)):=
 yp D zaQ rfl rfl (fun f cdv A outer s H E hr=>(qd (zi (i:=4) zaQ.nd rfl (Or.inl rfl) (yd zf (yg yq (hr.mono (by omega)) rfl (ya (za (pv 0)) (ya (za (pv 1)) zd))) (za (pv 2)) (fun _ _=>rfl)))
  (qd (zi (i:=5) zaQ.nd rfl (Or.inl rfl) (yk zr rfl T.n_len boot_len (ya (zm (zh ⟨T.cls_Run,T.na_Run_errands⟩ qh) (za (pv 0))) zd)))
  (qd (yL (zh ⟨T.cls_Errand,T.na_Errand_state⟩ qh) (yd zf (zm (zh ⟨T.cls_Run,T.na_Run_errands⟩ qh) (za (pv 0))) (za (pv 1)) (fun _ _=>rfl)) (zx (ya yi (ya (za (pv 2)) (ya (za (pv 3)) zd)))))
  (qd (yL (zh ⟨T.cls_Errand,T.na_Errand_asked⟩ qh) (yd zf (zm (zh ⟨T.cls_Run,T.na_Run_errands⟩ qh) (za (pv 0))) (za (pv 1)) (fun _ _=>rfl)) (za (pv 5)))
  (qd (zi (i:=6) zaQ.nd rfl (Or.inl rfl) (yg yI (hr.mono (by omega)) rfl (ya (za (pv 0)) (ya (za (pv 4)) zd))))
  (qd (qu (WW.gt (yZ (zj zcp (za (pv 6)) qQ (yj _)) (qV (WW.gt (zbm (zj (qB hr.units) (za (pv 3)) yc (yj _)) (zbD (zj (qB hr.units) (yd zf (yd zf (yd zf (zm (zh ⟨T.cls_Run,T.na_Run_net⟩ qh) (za (pv 0))) yc (fun _ _=>rfl)) (za (pv 6)) (fun _ _=>rfl)) yc (fun _ _=>rfl)) yi (yj _)))))))) (ye (ym (qL (qO PySem.F.plainAttrs_list PySem.F.slot_list_append PySem.F.type_list_append zD (WE.pe (yd zf (zm (zh ⟨T.cls_Run,T.na_Run_puts⟩ qh) (za (pv 0))) (za (pv 6)) (fun _ _=>rfl))) (WA.pe (ya (za (pv 5)) zd)))))) qq)
  (ye (ym (yg qR (hr.mono (by omega)) rfl (ya (za (pv 0)) (ya (yg zab (hr.mono (by omega)) rfl (ya (zm (zh ⟨T.cls_Run,T.na_Run_net⟩ qh) (za (pv 0))) (ya (za (pv 4)) zd))) (ya (zx (ya (za (pv 1)) (ya (za (pv 2)) (ya (za (pv 3)) zd)))) zd)))))))))))))
end
noncomputable def zbd (kE kR:Addr) (q_begin_try q_begin_errand:List FT.T->Mem->Out FT.T):Ev->Mem->Out Fl:=
 (yh (yB (qT zN (eUn yD (zp [kR] "errands" (yb 0))) (zb (zdf kE (yW kE kR) (zb (yb 1) (zb (yb 2) ze))) ze)))
 (yh (qp 3 (eOp zee (yf (yz yx) (zb (zp [kR] "errands" (yb 0)) ze)) (eC (.int 1))))
 (sIf (yo (eOp gtI (yf (yz yx) (zb (yf (yC kE kR) (zb (yb 0) (zb (yb 3) ze))) ze)) (eC (.int 0)))) (yB (yf q_begin_try (zb (yb 0) (zb (yb 3) (zb (eC (.int 0)) (zb (eC (.int 1)) ze)))))) zH)))
section
theorem zbM:FnScope ["run","house","caller","number"] ["run","house","caller"] (zg za8):=by ac_rfl
theorem qR {q_begin_try q_begin_errand:List FT.T->Mem->Out FT.T} (hL:2<=L) (D:Df K mg "begin_errand" za8 ["run","house","caller"]) (T:Txt K mg kE kR) (zaR:MakT P w K mg base 1 "Errand" kE ["self","house","caller"] (yW kE kR)) (yH:CalT P w K mg base L "begin_try" ["run","number","at","tried"] q_begin_try) (yq:CalT P w K mg base 1 "asks_of" ["run","number"] (yC kE kR)):CalT P w K mg base (L + 1) "begin_errand" ["run","house","caller"] (qi 3 4 (zbd kE kR q_begin_try q_begin_errand)):=
 yp D zbM rfl rfl (fun f cdv A outer s H E hr=>(qd (ym (qL (qO PySem.F.plainAttrs_list PySem.F.slot_list_append PySem.F.type_list_append zD (WE.pe (zm (zh ⟨T.cls_Run,T.na_Run_errands⟩ qh) (za (pv 0)))) (WA.pe (ya (zhl zaR (hr.mono (by omega)) rfl (ya (za (pv 1)) (ya (za (pv 2)) zd))) zd)))))
  (qd (zi (i:=3) zbM.nd rfl (Or.inl rfl) (zn zcM (yk zr rfl T.n_len boot_len (ya (zm (zh ⟨T.cls_Run,T.na_Run_errands⟩ qh) (za (pv 0))) zd)) yc))
  (ye (qu (zj zdB (yk zr rfl T.n_len boot_len (ya (yg yq (hr.mono (by omega)) rfl (ya (za (pv 0)) (ya (za (pv 3)) zd))) zd)) yc (yj _)) (ye (ym (yg yH (hr.mono (by omega)) rfl (ya (za (pv 0)) (ya (za (pv 3)) (ya yc (ya yc zd))))))) qq)))))
noncomputable def zk (kE kR:Addr):Nat->(List FT.T->Mem->Out FT.T) × (List FT.T->Mem->Out FT.T)
 | 0=>(fun _ _=>.bad,fun _ _=>.bad)
 | n + 1=>(qi 4 7 (zbo kE kR (zk kE kR n).1 (zk kE kR n).2),qi 3 4 (zbd kE kR (zk kE kR n).1 (zk kE kR n).2))
noncomputable def zaf (kE kR:Addr):List FT.T->Mem->Out FT.T:=(zk kE kR 12).1
noncomputable def zce (kE kR:Addr):List FT.T->Mem->Out FT.T:=(zk kE kR 12).2
theorem zI (D_begin_try:Df K mg "begin_try" zcj ["run","number","at","tried"]) (D_begin_errand:Df K mg "begin_errand" za8 ["run","house","caller"]) (T:Txt K mg kE kR) (yI:CalT P w K mg base 2 "purse_of" ["run","ask"] (yT kE kR)) (yq:CalT P w K mg base 1 "asks_of" ["run","number"] (yC kE kR)) (zab:CalT P w K mg base 2 "asked_by" ["net","ask"] (zax kE kR)) (zaR:MakT P w K mg base 1 "Errand" kE ["self","house","caller"] (yW kE kR)):∀ n,CalT P w K mg base (2 + n + 1) "begin_try" ["run","number","at","tried"] (zk kE kR n).1/\CalT P w K mg base (2 + n + 1) "begin_errand" ["run","house","caller"] (zk kE kR n).2
 | 0=>⟨CalT.bad D_begin_try zaQ,CalT.bad D_begin_errand zbM⟩
 | n + 1=>by
  have ih:=zI D_begin_try D_begin_errand T yI yq zab zaR n
  exact ⟨yH (by omega) D_begin_try T yI ih.2 yq zab,qR (by omega) D_begin_errand T zaR ih.1 yq⟩
end
noncomputable def zbT (kE kR:Addr) (q_end_errand q_hear:List FT.T->Mem->Out FT.T):Ev->Mem->Out Fl:=
 (yh (qp 3 (eOp ixT (zp [kR] "errands" (yb 0)) (yb 1)))
 (yh (yE [kE] "state" (yb 3) (yG (zb (eC (.str "ended")) (zb (yb 2) ze))))
 (sIf (zat (yo (eOp y8 (zp [kE] "caller" (yb 3)) (eC .non))) (zcG (yo (zp [kE] "is_lost" (yb 3))))) (yB (yf q_hear (zb (yb 0) (zb (zp [kE] "caller" (yb 3)) (zb (yb 2) ze))))) zH)))
section
theorem zcw:FnScope ["run","number","word","errand"] ["run","number","word"] (zg zbN):=by ac_rfl
theorem zM {q_end_errand q_hear:List FT.T->Mem->Out FT.T} (hL:15<=L) (D:Df K mg "end_errand" zbN ["run","number","word"]) (T:Txt K mg kE kR) (zc4:CalT P w K mg base L "hear" ["run","caller","word"] q_hear):CalT P w K mg base (L + 1) "end_errand" ["run","number","word"] (qi 3 4 (zbT kE kR q_end_errand q_hear)):=
 yp D zcw rfl rfl (fun f cdv A outer s H E hr=>(qd (zi (i:=3) zcw.nd rfl (Or.inl rfl) (yd zf (zm (zh ⟨T.cls_Run,T.na_Run_errands⟩ qh) (za (pv 0))) (za (pv 1)) (fun _ _=>rfl)))
  (qd (yL (zh ⟨T.cls_Errand,T.na_Errand_state⟩ qh) (za (pv 3)) (zx (ya yi (ya (za (pv 2)) zd))))
  (ye (qu (WW.gt (yZ (zj zcp (zm (zh ⟨T.cls_Errand,T.na_Errand_caller⟩ qh) (za (pv 3))) qQ (yj _)) (qV (zb3 (yQ (zm (zh ⟨T.cls_Errand,T.na_Errand_is_lost⟩ qh) (za (pv 3)))))))) (ye (ym (yg zc4 (hr.mono (by omega)) rfl (ya (za (pv 0)) (ya (zm (zh ⟨T.cls_Errand,T.na_Errand_caller⟩ qh) (za (pv 3))) (ya (za (pv 2)) zd)))))) qq)))))
end
noncomputable def zet (kE kR:Addr) (q_end_errand q_hear:List FT.T->Mem->Out FT.T):Ev->Mem->Out Fl:=
 (yh (qp 3 (eOp ixT (yb 1) (eC (.int 0))))
 (yh (qp 4 (eOp ixT (yb 1) (eC (.int 1))))
 (yh (qp 5 (yf (yC kE kR) (zb (yb 0) (zb (yb 3) ze))))
 (sIf (zat (yo (eOp eqA (yb 2) (eC (.str "well")))) (yo (eOp ltI (eOp yN (yb 4) (eC (.int 1))) (yf (yz yx) (zb (yb 5) ze))))) (yB (yf (zaf kE kR) (zb (yb 0) (zb (yb 3) (zb (eOp yN (yb 4) (eC (.int 1))) (zb (eC (.int 1)) ze)))))) (sIf (zb7 (yo (eOp eqA (yb 2) (eC (.str "well")))) (zat (yo (eOp eqA (yb 2) (eC (.str "spent")))) (yo (eOp ixT (eOp ixT (yb 5) (yb 4)) (eC (.int 4)))))) (yB (yf q_end_errand (zb (yb 0) (zb (yb 3) (zb (yb 2) ze))))) (yh (yE [kE] "state" (eOp ixT (zp [kR] "errands" (yb 0)) (yb 3)) (yG (zb (eC (.str "stands")) (zb (yb 4) (zb (eOp ixT (yb 1) (eC (.int 2))) ze)))))
 (yE [kE] "stood" (eOp ixT (zp [kR] "errands" (yb 0)) (yb 3)) (zp [kR] "came" (yb 0)))))))))
section
theorem zdz:FnScope ["run","caller","word","number","at","asks"] ["run","caller","word"] (zg zfx):=by ac_rfl
theorem zc4 {q_end_errand q_hear:List FT.T->Mem->Out FT.T} (hL:15<=L) (D:Df K mg "hear" zfx ["run","caller","word"]) (T:Txt K mg kE kR) (yq:CalT P w K mg base 1 "asks_of" ["run","number"] (yC kE kR)) (yH:CalT P w K mg base 15 "begin_try" ["run","number","at","tried"] (zaf kE kR)) (zM:CalT P w K mg base L "end_errand" ["run","number","word"] q_end_errand):CalT P w K mg base (L + 1) "hear" ["run","caller","word"] (qi 3 6 (zet kE kR q_end_errand q_hear)):=
 yp D zdz rfl rfl (fun f cdv A outer s H E hr=>(qd (zi (i:=3) zdz.nd rfl (Or.inl rfl) (yd zf (za (pv 1)) yc (fun _ _=>rfl)))
  (qd (zi (i:=4) zdz.nd rfl (Or.inl rfl) (yd zf (za (pv 1)) yc (fun _ _=>rfl)))
  (qd (zi (i:=5) zdz.nd rfl (Or.inl rfl) (yg yq (hr.mono (by omega)) rfl (ya (za (pv 0)) (ya (za (pv 3)) zd))))
  (ye (qu (WW.gt (yZ (zj (qB hr.units) (za (pv 2)) yi (yj _)) (qV (zj zcY (zn zG (za (pv 4)) yc) (yk zr rfl T.n_len boot_len (ya (za (pv 5)) zd)) (yj _))))) (ye (ym (yg yH (hr.mono (by omega)) rfl (ya (za (pv 0)) (ya (za (pv 3)) (ya (zn zG (za (pv 4)) yc) (ya yc zd))))))) (ye (qu (WW.gt (zbm (zj (qB hr.units) (za (pv 2)) yi (yj _)) (zbD (WW.gt (yZ (zj (qB hr.units) (za (pv 2)) yi (yj _)) (qV (yQ (yd zf (yd zf (za (pv 5)) (za (pv 4)) (fun _ _=>rfl)) yc (fun _ _=>rfl))))))))) (ye (ym (yg zM (hr.mono (by omega)) rfl (ya (za (pv 0)) (ya (za (pv 3)) (ya (za (pv 2)) zd)))))) (qd (yL (zh ⟨T.cls_Errand,T.na_Errand_state⟩ qh) (yd zf (zm (zh ⟨T.cls_Run,T.na_Run_errands⟩ qh) (za (pv 0))) (za (pv 3)) (fun _ _=>rfl)) (zx (ya yi (ya (za (pv 4)) (ya (yd zf (za (pv 1)) yc (fun _ _=>rfl)) zd)))))
  (ye (yL (zh ⟨T.cls_Errand,T.na_Errand_stood⟩ qh) (yd zf (zm (zh ⟨T.cls_Run,T.na_Run_errands⟩ qh) (za (pv 0))) (za (pv 3)) (fun _ _=>rfl)) (zm (zh ⟨T.cls_Run,T.na_Run_came⟩ qh) (za (pv 0))))))))))))))
noncomputable def zu (kE kR:Addr):Nat->(List FT.T->Mem->Out FT.T) × (List FT.T->Mem->Out FT.T)
 | 0=>(fun _ _=>.bad,fun _ _=>.bad)
 | n + 1=>(qi 3 4 (zbT kE kR (zu kE kR n).1 (zu kE kR n).2),qi 3 6 (zet kE kR (zu kE kR n).1 (zu kE kR n).2))
noncomputable def zaW (kE kR:Addr):List FT.T->Mem->Out FT.T:=(zu kE kR 12).1
noncomputable def zh9 (kE kR:Addr):List FT.T->Mem->Out FT.T:=(zu kE kR 12).2
theorem qU (D_end_errand:Df K mg "end_errand" zbN ["run","number","word"]) (D_hear:Df K mg "hear" zfx ["run","caller","word"]) (T:Txt K mg kE kR) (yq:CalT P w K mg base 1 "asks_of" ["run","number"] (yC kE kR)) (yH:CalT P w K mg base 15 "begin_try" ["run","number","at","tried"] (zaf kE kR)):∀ n,CalT P w K mg base (15 + n + 1) "end_errand" ["run","number","word"] (zu kE kR n).1/\CalT P w K mg base (15 + n + 1) "hear" ["run","caller","word"] (zu kE kR n).2
 | 0=>⟨CalT.bad D_end_errand zcw,CalT.bad D_hear zdz⟩
 | n + 1=>by
  have ih:=qU D_end_errand D_hear T yq yH n
  exact ⟨zM (by omega) D_end_errand T ih.2,zc4 (by omega) D_hear T yq yH ih.1⟩
end
noncomputable def zkS (kE kR:Addr):Ev->Mem->Out Fl:=
 (yh (qp 2 (eOp ixT (zp [kR] "errands" (yb 0)) (yb 1)))
 (yh (yE [kE] "is_lost" (yb 2) (eC (.bl true)))
 (yB (yf (zh9 kE kR) (zb (yb 0) (zb (zp [kE] "caller" (yb 2)) (zb (eC (.str "bad")) ze)))))))
noncomputable def zfO (kE kR:Addr):List FT.T->Mem->Out FT.T:=qi 2 3 (zkS kE kR)
section
theorem ziU:FnScope ["run","number","errand"] ["run","number"] (zg zhB):=by ac_rfl
theorem zeC (D:Df K mg "lose" zhB ["run","number"]) (T:Txt K mg kE kR)   (zc4:CalT P w K mg base 28 "hear" ["run","caller","word"] (zh9 kE kR)):CalT P w K mg base 29 "lose" ["run","number"] (zfO kE kR):=
 yp D ziU rfl rfl (fun f cdv A outer s H E hr=>(qd (zi (i:=2) ziU.nd rfl (Or.inl rfl) (yd zf (zm (zh ⟨T.cls_Run,T.na_Run_errands⟩ qh) (za (pv 0))) (za (pv 1)) (fun _ _=>rfl)))
  (qd (yL (zh ⟨T.cls_Errand,T.na_Errand_is_lost⟩ qh) (za (pv 2)) z3)
  (ye (ym (yg zc4 (hr.mono (by decide)) rfl (ya (za (pv 0)) (ya (zm (zh ⟨T.cls_Errand,T.na_Errand_caller⟩ qh) (za (pv 2))) (ya yi zd)))))))))
end
noncomputable def zeX (kE kR:Addr):Ev->Mem->Out Fl:=
 (yh (yB (qT zN (eUn yD (zp [kR] "payments" (yb 0))) (zb (yG (zb (yf (yz yx) (zb (zp [kR] "errands" (yb 0)) ze)) (zb (yb 1) (zb (eOp ixT (zp [kR] "taken" (yb 0)) (yb 1)) ze)))) ze)))
 (zg4 getL zdv zaL (zp [kR] "taken" (yb 0)) (yb 1) (eC (.int 1))))
noncomputable def zcm (kE kR:Addr):List FT.T->Mem->Out FT.T:=qi 2 2 (zeX kE kR)
section
theorem zhw:FnScope ["run","purse"] ["run","purse"] (zg zdk):=by ac_rfl
theorem zbs (D:Df K mg "take_coin" zdk ["run","purse"]) (T:Txt K mg kE kR)   :CalT P w K mg base 1 "take_coin" ["run","purse"] (zcm kE kR):=
 yp D zhw rfl rfl (fun f cdv A outer s H E hr=>(qd (ym (qL (qO PySem.F.plainAttrs_list PySem.F.slot_list_append PySem.F.type_list_append zD (WE.pe (zm (zh ⟨T.cls_Run,T.na_Run_payments⟩ qh) (za (pv 0)))) (WA.pe (ya (zx (ya (yk zr rfl T.n_len boot_len (ya (zm (zh ⟨T.cls_Run,T.na_Run_errands⟩ qh) (za (pv 0))) zd)) (ya (za (pv 1)) (ya (yd zf (zm (zh ⟨T.cls_Run,T.na_Run_taken⟩ qh) (za (pv 0))) (za (pv 1)) (fun _ _=>rfl)) zd)))) zd)))))
  (ye (zli (zm (zh ⟨T.cls_Run,T.na_Run_taken⟩ qh) (za (pv 0))) (za (pv 1)) zqS yc znC zc7))))
end
noncomputable def zeW (kE kR:Addr):Ev->Mem->Out Fl:=
 (yh (qp 2 (zp [kE] "state" (eOp ixT (zp [kR] "errands" (yb 0)) (yb 1))))
 (yh (qp 3 (yf (yT kE kR) (zb (yb 0) (zb (eOp ixT (yf (yC kE kR) (zb (yb 0) (zb (yb 1) ze))) (eOp ixT (yb 2) (eC (.int 1)))) ze))))
 (yh (sIf (yo (eOp y8 (yb 3) (eC .non))) (yB (yf (zcm kE kR) (zb (yb 0) (zb (yb 3) ze)))) zH)
 (yB (yf (zaf kE kR) (zb (yb 0) (zb (yb 1) (zb (eOp ixT (yb 2) (eC (.int 1))) (zb (eOp yN (eOp ixT (yb 2) (eC (.int 2))) (eC (.int 1))) ze)))))))))
noncomputable def zcl (kE kR:Addr):List FT.T->Mem->Out FT.T:=qi 2 4 (zeW kE kR)
section
theorem zcS:FnScope ["run","number","state","purse"] ["run","number"] (zg zdj):=by ac_rfl
theorem zbr (D:Df K mg "try_again" zdj ["run","number"]) (T:Txt K mg kE kR)   (yI:CalT P w K mg base 2 "purse_of" ["run","ask"] (yT kE kR)) (yH:CalT P w K mg base 15 "begin_try" ["run","number","at","tried"] (zaf kE kR)) (zbs:CalT P w K mg base 1 "take_coin" ["run","purse"] (zcm kE kR)) (yq:CalT P w K mg base 1 "asks_of" ["run","number"] (yC kE kR)):CalT P w K mg base 16 "try_again" ["run","number"] (zcl kE kR):=
 yp D zcS rfl rfl (fun f cdv A outer s H E hr=>(qd (zi (i:=2) zcS.nd rfl (Or.inl rfl) (zm (zh ⟨T.cls_Errand,T.na_Errand_state⟩ qh) (yd zf (zm (zh ⟨T.cls_Run,T.na_Run_errands⟩ qh) (za (pv 0))) (za (pv 1)) (fun _ _=>rfl))))
  (qd (zi (i:=3) zcS.nd rfl (Or.inl rfl) (yg yI (hr.mono (by decide)) rfl (ya (za (pv 0)) (ya (yd zf (yg yq (hr.mono (by decide)) rfl (ya (za (pv 0)) (ya (za (pv 1)) zd))) (yd zf (za (pv 2)) yc (fun _ _=>rfl)) (fun _ _=>rfl)) zd))))
  (qd (qu (zj zcp (za (pv 3)) qQ (yj _)) (ye (ym (yg zbs (hr.mono (by decide)) rfl (ya (za (pv 0)) (ya (za (pv 3)) zd))))) qq)
  (ye (ym (yg yH (hr.mono (by decide)) rfl (ya (za (pv 0)) (ya (za (pv 1)) (ya (yd zf (za (pv 2)) yc (fun _ _=>rfl)) (ya (zn zG (yd zf (za (pv 2)) yc (fun _ _=>rfl)) yc) zd)))))))))))
end
noncomputable def zjh (kE kR:Addr):Ev->Mem->Out Fl:=
 (yB (yf (zaW kE kR) (zb (yb 0) (zb (yb 1) (zb (eOp ixT (eOp ixT (yf (yC kE kR) (zb (yb 0) (zb (yb 1) ze))) (eOp ixT (zp [kE] "state" (eOp ixT (zp [kR] "errands" (yb 0)) (yb 1))) (eC (.int 1)))) (eC (.int 3))) ze)))))
noncomputable def zeN (kE kR:Addr):List FT.T->Mem->Out FT.T:=qi 2 2 (zjh kE kR)
section
theorem zlp:FnScope ["run","number"] ["run","number"] (zg zf4):=by ac_rfl
theorem zdG (D:Df K mg "go_up" zf4 ["run","number"]) (T:Txt K mg kE kR)   (zM:CalT P w K mg base 28 "end_errand" ["run","number","word"] (zaW kE kR)) (yq:CalT P w K mg base 1 "asks_of" ["run","number"] (yC kE kR)):CalT P w K mg base 29 "go_up" ["run","number"] (zeN kE kR):=
 yp D zlp rfl rfl (fun f cdv A outer s H E hr=>(ye (ym (yg zM (hr.mono (by decide)) rfl (ya (za (pv 0)) (ya (za (pv 1)) (ya (yd zf (yd zf (yg yq (hr.mono (by decide)) rfl (ya (za (pv 0)) (ya (za (pv 1)) zd))) (yd zf (zm (zh ⟨T.cls_Errand,T.na_Errand_state⟩ qh) (yd zf (zm (zh ⟨T.cls_Run,T.na_Run_errands⟩ qh) (za (pv 0))) (za (pv 1)) (fun _ _=>rfl))) yc (fun _ _=>rfl)) (fun _ _=>rfl)) yc (fun _ _=>rfl)) zd)))))))
end
noncomputable def zfI (kE kR:Addr):Ev->Mem->Out Fl:=
 (yh (sIf (yo (eOp eqA (eOp ixT (yb 1) (eC (.int 0))) (eC (.str "fresh")))) (yB (yf (zce kE kR) (zb (yb 0) (zb (eC (.int 0)) (zb (eC .non) ze))))) (sIf (yo (eOp eqA (eOp ixT (yb 1) (eC (.int 0))) (eC (.str "ends")))) (yB (yf (zaW kE kR) (zb (yb 0) (zb (eOp ixT (yb 1) (eC (.int 1))) (zb (eOp ixT (yb 1) (eC (.int 2))) ze))))) (sIf (yo (eOp eqA (eOp ixT (yb 1) (eC (.int 0))) (eC (.str "lost")))) (yB (yf (zfO kE kR) (zb (yb 0) (zb (eOp ixT (yb 1) (eC (.int 1))) ze)))) (sIf (yo (eOp eqA (eOp ixT (yb 1) (eC (.int 0))) (eC (.str "again")))) (yB (yf (zcl kE kR) (zb (yb 0) (zb (eOp ixT (yb 1) (eC (.int 1))) ze)))) (yB (yf (zeN kE kR) (zb (yb 0) (zb (eOp ixT (yb 1) (eC (.int 1))) ze))))))))
 (zfy [kR] "came" (yb 0) 1))
noncomputable def zbU (kE kR:Addr):List FT.T->Mem->Out FT.T:=qi 2 2 (zfI kE kR)
section
theorem ziz:FnScope ["run","event"] ["run","event"] (zg zdN):=by ac_rfl
theorem zbX (D:Df K mg "let_come" zdN ["run","event"]) (T:Txt K mg kE kR)   (qR:CalT P w K mg base 15 "begin_errand" ["run","house","caller"] (zce kE kR)) (zM:CalT P w K mg base 28 "end_errand" ["run","number","word"] (zaW kE kR)) (zeC:CalT P w K mg base 29 "lose" ["run","number"] (zfO kE kR)) (zbr:CalT P w K mg base 16 "try_again" ["run","number"] (zcl kE kR)) (zdG:CalT P w K mg base 29 "go_up" ["run","number"] (zeN kE kR)):CalT P w K mg base 30 "let_come" ["run","event"] (zbU kE kR):=
 yp D ziz rfl rfl (fun f cdv A outer s H E hr=>(qd (qu (zj (qB hr.units) (yd zf (za (pv 1)) yc (fun _ _=>rfl)) yi (yj _)) (ye (ym (yg qR (hr.mono (by decide)) rfl (ya (za (pv 0)) (ya yc (ya qQ zd)))))) (ye (qu (zj (qB hr.units) (yd zf (za (pv 1)) yc (fun _ _=>rfl)) yi (yj _)) (ye (ym (yg zM (hr.mono (by decide)) rfl (ya (za (pv 0)) (ya (yd zf (za (pv 1)) yc (fun _ _=>rfl)) (ya (yd zf (za (pv 1)) yc (fun _ _=>rfl)) zd)))))) (ye (qu (zj (qB hr.units) (yd zf (za (pv 1)) yc (fun _ _=>rfl)) yi (yj _)) (ye (ym (yg zeC (hr.mono (by decide)) rfl (ya (za (pv 0)) (ya (yd zf (za (pv 1)) yc (fun _ _=>rfl)) zd))))) (ye (qu (zj (qB hr.units) (yd zf (za (pv 1)) yc (fun _ _=>rfl)) yi (yj _)) (ye (ym (yg zbr (hr.mono (by decide)) rfl (ya (za (pv 0)) (ya (yd zf (za (pv 1)) yc (fun _ _=>rfl)) zd))))) (ye (ym (yg zdG (hr.mono (by decide)) rfl (ya (za (pv 0)) (ya (yd zf (za (pv 1)) yc (fun _ _=>rfl)) zd))))))))))))
  (ye (zlh (zh ⟨T.cls_Run,T.na_Run_came⟩ qh) (za (pv 0))))))
end
noncomputable def zgV (kE kR:Addr):Ev->Mem->Out Fl:=
 (yh (yB (yf (qP kE kR) (zb (yb 2) (zb (yb 3) ze))))
 (yB (yf (zbU kE kR) (zb (yb 2) (zb (yb 3) ze)))))
noncomputable def zh4 (kE kR:Addr):Ev->Mem->Out Fl:=
 (yh (qp 2 (zdf kR (zbg kE kR) (zb (yb 0) ze)))
 (yh (zdU (zg9 (yb 1)) (yr 3) (zgV kE kR))
 (qF (yb 2))))
noncomputable def zd2 (kE kR:Addr):List FT.T->Mem->Out FT.T:=qi 2 4 (zh4 kE kR)
section
theorem zef:FnScope ["net","events","run","event"] ["net","events"] (zg zfa):=by ac_rfl
theorem zc2 (D:Df K mg "run_of" zfa ["net","events"]) (T:Txt K mg kE kR)   (zfB:MakT P w K mg base 1 "Run" kR ["self","net"] (zbg kE kR)) (zaC:CalT P w K mg base 6 "check_event" ["run","event"] (qP kE kR)) (zbX:CalT P w K mg base 30 "let_come" ["run","event"] (zbU kE kR)):CalT P w K mg base 31 "run_of" ["net","events"] (zd2 kE kR):=
 yp D zef rfl rfl (fun f cdv A outer s H E hr=>(qd (zi (i:=2) zef.nd rfl (Or.inl rfl) (zhl zfB (hr.mono (by decide)) rfl (ya (za (pv 0)) zd)))
  (qd (zhi PassesOwn.never rfl (zlj (za (pv 1))) (zo (yt (i:=3) zef.nd rfl (by first | exact Or.inl rfl | exact Or.inr rfl))) (qd (ym (yg zaC (hr.mono (by decide)) rfl (ya (za (pv 2)) (ya (za (pv 3)) zd))))
  (ye (ym (yg zbX (hr.mono (by decide)) rfl (ya (za (pv 2)) (ya (za (pv 3)) zd)))))))
  (ye (qr (za (pv 2)))))))
end
noncomputable def ze3 (kE kR:Addr):Ev->Mem->Out Fl:=
 (yB (zaA zbw zew (yb 3) (zb (yf (zae kE kR) (zb (yb 2) (zb (yb 4) ze))) ze)))
noncomputable def zfH (kE kR:Addr):Ev->Mem->Out Fl:=
 (yh (qp 2 (yf (zd2 kE kR) (zb (yb 0) (zb (yb 1) ze))))
 (yh (qp 3 (eTk (yw (zb (eC (.tup [.str "fresh"])) ze))))
 (yh (zbP (yV (zb (yf (yz yx) (zb (zp [kR] "errands" (yb 2)) ze)) ze)) (yr 4) (ze3 kE kR))
 (qF (yb 3)))))
noncomputable def zbe (kE kR:Addr):List FT.T->Mem->Out FT.T:=qi 2 5 (zfH kE kR)
section
theorem zci:FnScope ["net","events","run","told","number"] ["net","events"] (zg zdM):=by ac_rfl
theorem zay (D:Df K mg "may_come" zdM ["net","events"]) (T:Txt K mg kE kR)   (zc2:CalT P w K mg base 31 "run_of" ["net","events"] (zd2 kE kR)) (zZ:CalT P w K mg base 4 "events_at" ["run","number"] (zae kE kR)):CalT P w K mg base 32 "may_come" ["net","events"] (zbe kE kR):=
 yp D zci rfl rfl (fun f cdv A outer s H E hr=>(qd (zi (i:=2) zci.nd rfl (Or.inl rfl) (yg zc2 (hr.mono (by decide)) rfl (ya (za (pv 0)) (ya (za (pv 1)) zd))))
  (qd (zi (i:=3) zci.nd rfl (Or.inl rfl) (qH (qv (ya (zgB (ss:=["fresh"]) rfl T.c_FRESH) zd))))
  (qd (zai PassesOwn.never rfl (qN rfl T.n_range (ya (yk zr rfl T.n_len boot_len (ya (zm (zh ⟨T.cls_Run,T.na_Run_errands⟩ qh) (za (pv 2))) zd)) zd)) (zo (yt (i:=4) zci.nd rfl (by first | exact Or.inl rfl | exact Or.inr rfl))) (ye (ym (zcQ zed (qO PySem.F.plainAttrs_list PySem.F.slot_list_extend PySem.F.type_list_extend zi3 (WE.pe (za (pv 3))) (WA.pe (ya (yg zZ (hr.mono (by decide)) rfl (ya (za (pv 2)) (ya (za (pv 4)) zd))) zd)))))))
  (ye (qr (za (pv 3))))))))
end
noncomputable def zle (kE kR:Addr):Ev->Mem->Out Fl:=
 (yh (sIf (zat (yo (eOp ltI (eOp zbR (yb 5) (eC (.int 7))) (eC (.int 2)))) (yo (eOp neA (yf (zbe kE kR) (zb (yb 1) (zb (eSl (yb 2) zc9 (zcH (yb 5))) ze))) (yf (za9 kE kR) (zb (yb 1) (zb (yb 3) ze)))))) (qF (eC (.bl false))) zH)
 (yB (yf (zcs kE kR) (zb (yb 1) (zb (yb 3) (zb (eOp ixT (yb 2) (yb 5)) ze))))))
noncomputable def zmv (kE kR:Addr):Ev->Mem->Out Fl:=
 (yh (qp 1 (yf (zeM kE kR) (zb (yf (zcd kE kR) (zb (yf (zbC kE kR) (zb (yb 0) (zb (eC (.int 0)) ze))) ze)) ze)))
 (yh (zaI (yf (zcK kE kR) (zb (yb 0) (zb (yb 1) (zb (eC (.int 2)) ze)))) (zgw 2 (yY (yr 2) (yY (yr 3) zeD))))
 (yh (qp 4 (yf (zbe kE kR) (zb (yb 1) (zb (yb 2) ze))))
 (yh (sIf (zb7 (zcG (yo (yf (call2 zan) (zb (yb 4) (zb (eC (.ty "list")) ze))))) (yo (eOp neA (yb 4) (yf (za9 kE kR) (zb (yb 1) (zb (yb 3) ze)))))) (qF (eC (.bl false))) zH)
 (yh (yB (eUn zey (yb 4)))
 (yh (sIf (yo (eOp neA (yf (zbe kE kR) (zb (yb 1) (zb (yf (yz z4) (zb (yb 2) ze)) ze))) (yf (za9 kE kR) (zb (yb 1) (zb (yb 3) ze))))) (qF (eC (.bl false))) zH)
 (yh (qp 3 (yf (zbG kE kR) (zb (yb 1) ze)))
 (yh (zbP (yV (zb (yf (yz yx) (zb (yb 2) ze)) ze)) (yr 5) (zle kE kR))
 (qF (eC (.bl true)))))))))))
noncomputable def zhb (kE kR:Addr):List FT.T->Mem->Out FT.T:=qi 1 6 (zmv kE kR)
section
theorem zcT:FnScope ["script","net","events","world","found","at"] ["script"] (zg zjG):=by ac_rfl
theorem zo4 {f:Addr} {fd:FuncData} (D:Fun K "law" "law" zjG f fd) (T:Txt K mg kE kR)   (zdF:CalT P w K mg base 3 "_law_net" ["pool"] (zeM kE kR)) (zbY:CalT P w K mg base 6 "_law_events" ["script","net","most"] (zcK kE kR)) (zay:CalT P w K mg base 32 "may_come" ["net","events"] (zbe kE kR)) (zap:CalT P w K mg base 1 "_law_world" ["net"] (zbG kE kR)) (zbK:CalT P w K mg base 1 "_law_dig" ["cell"] (zcd kE kR)) (z9:CalT P w K mg base 2 "_law_may" ["net","world"] (za9 kE kR)) (zct:CalT P w K mg base 5 "_law_do" ["net","world","event"] (zcs kE kR)) (za0:CalT P w K mg base 1 "_law_cell" ["script","k"] (zbC kE kR)):FnOk P w K mg base CX0 33 f fd ["script"] (spT K (zhb kE kR)):=
 zmz D zcT rfl rfl (fun cdv A outer s H E hr=>(qd (zi (i:=1) zcT.nd rfl (Or.inl rfl) (yg zdF (hr.mono (by decide)) rfl (ya (yg zbK (hr.mono (by decide)) rfl (ya (yg za0 (hr.mono (by decide)) rfl (ya (za (pv 0)) (ya yc zd))) zd)) zd)))
  (qd (yP (yg zbY (hr.mono (by decide)) rfl (ya (za (pv 0)) (ya (za (pv 1)) (ya yc zd)))) (zeE (zfA rfl (WGs.pe (qG (yJ (WG.pe (zo (yt (i:=2) zcT.nd rfl (by first | exact Or.inl rfl | exact Or.inr rfl)))) (WGs.pe (qG (yJ (WG.pe (zo (yt (i:=3) zcT.nd rfl (by first | exact Or.inl rfl | exact Or.inr rfl)))) (WGs.pe zb6))))))))))
  (qd (zi (i:=4) zcT.nd rfl (Or.inl rfl) (yg zay (hr.mono (by decide)) rfl (ya (za (pv 1)) (ya (za (pv 2)) zd))))
  (qd (qu (WW.gt (zbm (zb3 (yQ (yk zbW rfl T.n_isinstance boot_isinstance (ya (za (pv 4)) (ya (zdI rfl T.n_list boot_list) zd))))) (zbD (zj (zbn hr.units) (za (pv 4)) (yg z9 (hr.mono (by decide)) rfl (ya (za (pv 1)) (ya (za (pv 3)) zd))) (yj _))))) (ye (qr z3)) qq)
  (qd (ym (zj8 (za (pv 4))))
  (qd (qu (zj (zbn hr.units) (yg zay (hr.mono (by decide)) rfl (ya (za (pv 1)) (ya (za3 zbq rfl T.n_tuple boot_tuple (ya (za (pv 2)) zd)) zd))) (yg z9 (hr.mono (by decide)) rfl (ya (za (pv 1)) (ya (za (pv 3)) zd))) (yj _)) (ye (qr z3)) qq)
  (qd (zi (i:=3) zcT.nd rfl (Or.inl rfl) (yg zap (hr.mono (by decide)) rfl (ya (za (pv 1)) zd)))
  (qd (zai PassesOwn.never rfl (qN rfl T.n_range (ya (yk zr rfl T.n_len boot_len (ya (za (pv 2)) zd)) zd)) (zo (yt (i:=5) zcT.nd rfl (by first | exact Or.inl rfl | exact Or.inr rfl))) (qd (qu (WW.gt (yZ (zj zcY (zn zaF (za (pv 5)) yc) yc (yj _)) (qV (zj (zbn hr.units) (yg zay (hr.mono (by decide)) rfl (ya (za (pv 1)) (ya (zfs (za (pv 2)) zb4 (zby (za (pv 5)))) zd))) (yg z9 (hr.mono (by decide)) rfl (ya (za (pv 1)) (ya (za (pv 3)) zd))) (yj _))))) (ye (qr z3)) qq)
  (ye (ym (yg zct (hr.mono (by decide)) rfl (ya (za (pv 1)) (ya (za (pv 3)) (ya (yd zf (za (pv 2)) (za (pv 5)) (fun _ _=>rfl)) zd))))))))
  (ye (qr z3)))))))))))
end
end My
open Lean in
local macro_rules | `(tactic| simp_arith [$xs,*]) => do
  let ids := ("FT.zkj FT.zrW FT.zrX FT.startT FT.yh FT.qF FT.qp FT.sIf FT.yB FT.zaI FT.zH FT.zbP FT.yb FT.eC FT.eOp FT.eUn FT.zih FT.eOr FT.zjX FT.eIf FT.yf FT.yG FT.eFz FT.eTk FT.yw FT.zsl FT.zfP FT.lOp FT.eSl FT.zc9 FT.zcH FT.zlT FT.zfk FT.zr5 FT.zsk FT.qT FT.ze FT.zb FT.yo FT.zat FT.zb7 FT.zcG FT.zsh FT.zr2 FT.zrP FT.qf FT.zq8 FT.zra FT.zq9 FT.zrx FT.zrw FT.zrz FT.zry FT.yr FT.za2 FT.zgw FT.yY FT.zeD FT.zcD FT.yV FT.zgn FT.zhv FT.ixT FT.zff FT.zh2 FT.zq5 FT.zss FT.zsr FT.zsq FT.zbc FT.zeA FT.zX Option.join_some Option.join_none FT.zrB FT.zlP FT.zaL FT.zso FT.zsn FT.zsm map_cons map_nil Qp length_nil List.cons_append nil_append List.getElem?_cons_zero getElem?_cons_succ List.set_cons_zero List.set_cons_succ List.replicate Nat.zero_add Nat.reduceAdd Nat.reduceSub FT.zr1 FT.zr0 FT.zr4 FT.zr3 Int.reduceBEq Int.reduceLT FT.zrT FT.zsa FT.zsb FT.zsd FT.zse FT.zr7 FT.zrZ FT.zsf FT.zr8 FT.zsc FT.zrF Bool.false_eq_true reduceIte Nat.reduceEqDiff Nat.succ.injEq Bool.not_true Bool.not_false FT.zi5 FT.zrY FT.zsg Int.reduceToNat Int.reducePow ne_eq Int.reduceEq not_false_eq_true Int.reduceNeg Bool.bne_true Bool.bne_false Bool.true_bne Bool.false_bne decide_true decide_false FT.zmi FT.zrO FT.zrN FT.zrU FT.zrV".splitOn " ").toArray.map fun s => Lean.mkIdent s.toName
  `(tactic| simp (config := {decide := true}) only [$[$ids:term],*, $xs,*])
namespace My
open PySem L2 FT
structure Ask where
 to:Str
 tries:Int
 purse:Option Str
 word:Str
 hears:Bool
 sure:Bool
structure Hs where
 name:Str
 asks:List Ask
structure Pu where
 name:Str
 earns:Str
 per:Int
structure Net where
 hs:List Hs
 ps:List Pu
noncomputable def opS (o:Option Str):FT.T:=o.elim .non .str
noncomputable def yu (a:Ask):FT.T:=.tup [.str a.to,.int a.tries,opS a.purse,.str a.word,.bl a.hears,.bl a.sure]
noncomputable def hsT (h:Hs):FT.T:=.tup [.str h.name,.tup (h.asks.map yu)]
noncomputable def puT (p:Pu):FT.T:=.tup [.str p.name,.str p.earns,.int p.per]
noncomputable def qg (n:Net):FT.T:=.tup [.tup (n.hs.map hsT),.tup (n.ps.map puT)]
inductive Ph where
 | works
 | waits (a t:Nat)
 | stands (a t:Nat)
 | ended (w:Str)
noncomputable def phT:Ph->FT.T
 | .works=>.tup [.str "works"]
 | .waits a t=>.tup [.str "waits",.int (a:Int),.int (t:Int)]
 | .stands a t=>.tup [.str "stands",.int (a:Int),.int (t:Int)]
 | .ended w=>.tup [.str "ended",.str w]
structure Er where
 house:Nat
 caller:Option (Nat × Nat × Nat)
 ph:Ph
 lost:Bool
 asked:Option Nat
 stood:Option Nat
noncomputable abbrev nT (n:Nat):FT.T:=.int (n:Int)
noncomputable def clT (o:Option (Nat × Nat × Nat)):FT.T:=o.elim .non fun c=>.tup [nT c.1,nT c.2.1,nT c.2.2]
noncomputable def onT (o:Option Nat):FT.T:=o.elim .non nT
noncomputable def erF (e:Er):List (Str × FT.T):=[("house",nT e.house),("caller",clT e.caller),("state",phT e.ph),("is_lost",.bl e.lost),("asked",onT e.asked),("stood",onT e.stood)]
structure Run where
 came:Nat
 es:List Er
 puts:List (List Nat)
 pays:List (Nat × Nat × Nat)
 taken:List Nat
noncomputable def zbA (p:Nat × Nat × Nat):FT.T:=.tup [nT p.1,nT p.2.1,nT p.2.2]
structure Lay where
 a:Nat
 p:Nat
 q:Nat
 t:Nat
 es:List Nat
 ps:List Nat
noncomputable def zb8 (nt:FT.T) (l:Lay) (R:Run):List (Str × FT.T):=[("net",nt),("came",nT R.came),("errands",.ref l.a),("puts",.ref l.p),("payments",.ref l.q),("taken",.ref l.t)]
variable {e:Er} {l:Lay} {u:List Nat} {M:Mem} {i x:Nat} {R:Run}
section
variable (kE kR:Addr)
noncomputable def ezC (es:List Nat) (rs:List Er):List (Nat × Cell):=List.zipWith (fun x e=>(x,Cell.ins kE (erF e))) es rs
noncomputable def pzC (ps:List Nat) (us:List (List Nat)):List (Nat × Cell):=List.zipWith (fun x u=>(x,Cell.lst (u.map nT))) ps us
noncomputable def cells (nt:FT.T) (r:Nat) (l:Lay) (R:Run):List (Nat × Cell):=
 (r,.ins kR (zb8 nt l R)) :: (l.a,.lst (l.es.map .ref)) :: (l.p,.lst (l.ps.map .ref)) :: (l.q,.lst (R.pays.map zbA)) :: (l.t,.lst (R.taken.map nT)) :: (ezC kE l.es R.es ++ pzC l.ps R.puts)
def Holds (M:Mem) (L:List (Nat × Cell)):Prop:=∀ p ∈ L,M[p.1]? = some p.2
theorem Holds.set {L:List (Nat × Cell)} (h:Holds M L) (nd:(L.map (·.1)).Nodup) {k:Nat} {p:Nat × Cell} (hk:L[k]? = some p) (c:Cell):Holds (M.set p.1 c) (L.set k (p.1,c)):=by
 intro q hq
 have hkl:=(List.getElem?_eq_some_iff.mp hk).1
 obtain ⟨i,hi⟩:=mem_iff_getElem?.mp hq
 rw [Qc] at hi
 by_cases e:k = i
 ·rw [if_pos e,if_pos hkl] at hi
  cases hi
  exact get_set (h p (Qa hk))
 ·rw [if_neg e] at hi
  have hne:p.1 ≠ q.1:=fun z=>by
   have h1:(L.map (·.1))[k]? = some p.1:=by rw [Qb,hk];rfl
   have h2:(L.map (·.1))[i]? = some q.1:=by rw [Qb,hi];rfl
   exact e ((List.getElem?_inj (by simpa using hkl) nd).mp (h1.trans (by rw [h2,z])))
  rw [Qc,if_neg hne]
  exact h q (Qa hi)
structure RunAt (nt:FT.T) (b r:Nat) (l:Lay) (M:Mem) (R:Run):Prop where
 ho:Holds M (cells kE kR nt r l R)
 nd:((cells kE kR nt r l R).map (·.1)).Nodup
 lo:∀ p ∈ cells kE kR nt r l R,b<=p.1
 el:l.es.length = R.es.length
 pl:l.ps.length = R.puts.length
 tl:R.taken.length = R.puts.length
def Kp (b:Nat) (M M':Mem):Prop:=M.length<=M'.length/\∀ i,i < b->M'[i]? = M[i]?
theorem Kp.refl (b:Nat) (M:Mem):Kp b M M:=⟨Q3 _,fun _ _=>rfl⟩
theorem Kp.trans {b:Nat} {A B C:Mem} (h:Kp b A B) (g:Kp b B C):Kp b A C:=⟨Qj h.1 g.1,fun i hi=>by rw [g.2 i hi,h.2 i hi]⟩
theorem Kp.set {b:Nat} (M:Mem) (c:Cell) (hx:b<=x):Kp b M (M.set x c):=⟨by simp,fun i hi=>by rw [Qc,if_neg (by omega)]⟩
theorem Kp.app {b:Nat} (M:Mem) (cs:List Cell) (hb:b<=M.length):Kp b M (M ++ cs):=⟨by simp,fun i hi=>Q6 (by omega)⟩
variable {kE kR} {nt:FT.T} {b r:Nat} {l:Lay} {M:Mem} {R:Run}
theorem zip_get {α β γ:Type} {f:α->β->γ} {as:List α} {bs:List β} {x:α} {y:β} (h1:as[i]? = some x) (h2:bs[i]? = some y):(List.zipWith f as bs)[i]? = some (f x y):=by
 rw [List.getElem?_zipWith,h1,h2]
theorem RunAt.run (h:RunAt kE kR nt b r l M R):M[r]? = some (.ins kR (zb8 nt l R)):=h.ho (r,_) (.head _)
theorem RunAt.er (h:RunAt kE kR nt b r l M R):M[l.a]? = some (.lst (l.es.map .ref)):=h.ho (l.a,_) (.tail _ (.head _))
theorem RunAt.pu (h:RunAt kE kR nt b r l M R):M[l.p]? = some (.lst (l.ps.map .ref)):=h.ho (l.p,_) (.tail _ (.tail _ (.head _)))
theorem RunAt.py (h:RunAt kE kR nt b r l M R):M[l.q]? = some (.lst (R.pays.map zbA)):=h.ho (l.q,_) (.tail _ (.tail _ (.tail _ (.head _))))
theorem RunAt.tk (h:RunAt kE kR nt b r l M R):M[l.t]? = some (.lst (R.taken.map nT)):=h.ho (l.t,_) (.tail _ (.tail _ (.tail _ (.tail _ (.head _)))))
theorem zpW {es:List Nat} {rs:List Er} (h1:es[i]? = some x) (h2:rs[i]? = some e):(ezC kE es rs)[i]? = some (x,.ins kE (erF e)):=zip_get h1 h2
theorem zoy {ps:List Nat} {us:List (List Nat)} (h1:ps[i]? = some x) (h2:us[i]? = some u):(pzC ps us)[i]? = some (x,.lst (u.map nT)):=zip_get h1 h2
theorem zdE (h:RunAt kE kR nt b r l M R):(ezC kE l.es R.es).length = R.es.length:=by unfold ezC;rw [List.length_zipWith,h.el,Nat.min_self]
theorem zk8 (h:RunAt kE kR nt b r l M R) (h1:l.es[i]? = some x) (h2:R.es[i]? = some e):(cells kE kR nt r l R)[5 + i]? = some (x,.ins kE (erF e)):=by
 have hi:=(List.getElem?_eq_some_iff.mp h2).1
 rw [Nat.add_comm]
 show (ezC kE l.es R.es ++ pzC l.ps R.puts)[i]? = _
 rw [Q6 (by rw [zdE h];exact hi)]
 exact zpW h1 h2
theorem zk7 (h:RunAt kE kR nt b r l M R) (h1:l.ps[i]? = some x) (h2:R.puts[i]? = some u):(cells kE kR nt r l R)[5 + (R.es.length + i)]? = some (x,.lst (u.map nT)):=by
 rw [Nat.add_comm 5]
 show (ezC kE l.es R.es ++ pzC l.ps R.puts)[R.es.length + i]? = _
 rw [Q8 (by rw [zdE h];omega),zdE h,show R.es.length + i - R.es.length = i by omega]
 exact zoy h1 h2
theorem RunAt.at_e (h:RunAt kE kR nt b r l M R) (h2:R.es[i]? = some e):∃ x,l.es[i]? = some x/\M[x]? = some (.ins kE (erF e)):=by
 have hi:=(List.getElem?_eq_some_iff.mp h2).1
 refine ⟨l.es[i]'(by rw [h.el];exact hi),Q0 _,?_⟩
 exact h.ho _ (Qa (zk8 h (Q0 (by rw [h.el];exact hi)) h2))
theorem RunAt.at_p (h:RunAt kE kR nt b r l M R) (h2:R.puts[i]? = some u):∃ x,l.ps[i]? = some x/\M[x]? = some (.lst (u.map nT)):=by
 have hi:=(List.getElem?_eq_some_iff.mp h2).1
 refine ⟨l.ps[i]'(by rw [h.pl];exact hi),Q0 _,?_⟩
 exact h.ho _ (Qa (zk7 h (Q0 (by rw [h.pl];exact hi)) h2))
theorem RunAt.write (h:RunAt kE kR nt b r l M R) {k:Nat} {c0 c:Cell} (hk:(cells kE kR nt r l R)[k]? = some (x,c0)) {R':Run} (e:cells kE kR nt r l R' = (cells kE kR nt r l R).set k (x,c)) (h1:R'.es.length = R.es.length) (h2:R'.puts.length = R.puts.length) (h3:R'.taken.length = R.taken.length):RunAt kE kR nt b r l (M.set x c) R'/\b<=x:=by
 have em:(cells kE kR nt r l R').map (·.1) = (cells kE kR nt r l R).map (·.1):=by
  rw [e,List.map_set]
  refine ext_getElem? fun i=>?_
  rw [Qc]
  by_cases z:k = i
  ·subst z
   have:=(List.getElem?_eq_some_iff.mp hk).1
   rw [if_pos rfl,if_pos (by simpa using this),Qb,hk]
   rfl
  ·rw [if_neg z]
 refine ⟨⟨by rw [e];exact h.ho.set h.nd hk c,by rw [em];exact h.nd,fun p hp=>?_,by rw [h1];exact h.el,by rw [h2];exact h.pl,by rw [h3,h2];exact h.tl⟩,h.lo _ (Qa hk)⟩
 have:p.1 ∈ (cells kE kR nt r l R').map (·.1):=mem_map.mpr ⟨p,hp,rfl⟩
 rw [em] at this
 obtain ⟨q,hq,eq⟩:=mem_map.mp this
 rw [← eq];exact h.lo q hq
theorem zfW {α β γ:Type} {f:α->β->γ}:∀ {as:List α} {bs:List β} {i:Nat} {x:α} (y:β),as[i]? = some x->List.zipWith f as (bs.set i y) = (List.zipWith f as bs).set i (f x y)
 | [],_,_,_,_,h=>by simp at h
 | a :: as,[],i,x,y,h=>by simp
 | a :: as,b :: bs,0,x,y,h=>by simp at h;simp [h]
 | a :: as,b :: bs,i + 1,x,y,h=>by simp at h;simp [zfW y h]
noncomputable def Run.setE (R:Run) (i:Nat) (e:Er):Run:={ R with es:=R.es.set i e }
theorem RunAt.setE (h:RunAt kE kR nt b r l M R) (h1:l.es[i]? = some x) (h2:R.es[i]? = some e) (e':Er):RunAt kE kR nt b r l (M.set x (.ins kE (erF e'))) (R.setE i e')/\b<=x:=by
 refine h.write (zk8 h h1 h2) ?_ (by simp [Run.setE]) rfl rfl
 have hi:=(List.getElem?_eq_some_iff.mp h2).1
 rw [Nat.add_comm 5]
 show _ = _ :: _ :: _ :: _ :: _ :: (ezC kE l.es R.es ++ pzC l.ps R.puts).set i (x,.ins kE (erF e'))
 rw [List.set_append_left _ _ (by rw [zdE h];exact hi),show (ezC kE l.es R.es).set i (x,.ins kE (erF e')) = ezC kE l.es (R.es.set i e') from (zfW e' h1).symm]
 rfl
noncomputable def Run.setP (R:Run) (i:Nat) (u:List Nat):Run:={ R with puts:=R.puts.set i u }
theorem RunAt.setP (h:RunAt kE kR nt b r l M R) (h1:l.ps[i]? = some x) (h2:R.puts[i]? = some u) (u':List Nat):RunAt kE kR nt b r l (M.set x (.lst (u'.map nT))) (R.setP i u')/\b<=x:=by
 refine h.write (zk7 h h1 h2) ?_ rfl (by simp [Run.setP]) rfl
 rw [Nat.add_comm 5]
 show _ = _ :: _ :: _ :: _ :: _ :: (ezC kE l.es R.es ++ pzC l.ps R.puts).set (R.es.length + i) (x,.lst (u'.map nT))
 rw [set_append_right _ _ (by rw [zdE h];omega),zdE h,show R.es.length + i - R.es.length = i by omega,show (pzC l.ps R.puts).set i (x,.lst (u'.map nT)) = pzC l.ps (R.puts.set i u') from (zfW u' h1).symm]
 rfl
theorem RunAt.setCame (h:RunAt kE kR nt b r l M R) (n:Nat):RunAt kE kR nt b r l (M.set r (.ins kR (zb8 nt l { R with came:=n }))) { R with came:=n }/\b<=r:=h.write (k:=0) rfl rfl rfl rfl rfl
theorem RunAt.setPays (h:RunAt kE kR nt b r l M R) (ps:List (Nat × Nat × Nat)):RunAt kE kR nt b r l (M.set l.q (.lst (ps.map zbA))) { R with pays:=ps }/\b<=l.q:=h.write (k:=3) rfl rfl rfl rfl rfl
theorem RunAt.setTaken (h:RunAt kE kR nt b r l M R) (ts:List Nat) (ht:ts.length = R.taken.length):RunAt kE kR nt b r l (M.set l.t (.lst (ts.map nT))) { R with taken:=ts }/\b<=l.t:=h.write (k:=4) rfl rfl rfl rfl ht
theorem RunAt.kept (h:RunAt kE kR nt b r l M R) {M':Mem} (k:∀ (i:Nat) c,M[i]? = some c->M'[i]? = some c):RunAt kE kR nt b r l M' R:=⟨fun p hp=>k _ _ (h.ho p hp),h.nd,h.lo,h.el,h.pl,h.tl⟩
theorem RunAt.app (h:RunAt kE kR nt b r l M R) (cs:List Cell):RunAt kE kR nt b r l (M ++ cs) R:=h.kept fun i c e=>by rw [Q6 (yA e)];exact e
noncomputable def Run.push (R:Run) (e:Er):Run:={ R with es:=R.es ++ [e] }
theorem RunAt.push (h:RunAt kE kR nt b r l M R) (hb:b<=M.length) (e:Er):RunAt kE kR nt b r { l with es:=l.es ++ [M.length] } ((M ++ [Cell.ins kE (erF e)]).set l.a (.lst ((l.es ++ [M.length]).map .ref))) (R.push e):=by
 have ez:ezC kE (l.es ++ [M.length]) (R.es ++ [e]) = ezC kE l.es R.es ++ [(M.length,.ins kE (erF e))]:=by
  unfold ezC
  rw [List.zipWith_append h.el]
  rfl
 have fresh:∀ p ∈ cells kE kR nt r l R,p.1 < M.length:=fun p hp=>yA (h.ho p hp)
 have hm:∀ p,p ∈ cells kE kR nt r { l with es:=l.es ++ [M.length] } (R.push e)->p = (l.a,.lst ((l.es ++ [M.length]).map .ref))\/p = (M.length,.ins kE (erF e))\/(p ∈ cells kE kR nt r l R/\p.1 ≠ l.a):=by
  intro p hp
  have nd:=h.nd
  have na:∀ q ∈ ezC kE l.es R.es ++ pzC l.ps R.puts,q.1 ≠ l.a:=fun q hq z=>by
   have h2:=(nodup_cons.mp (nodup_cons.mp nd).2).1
   exact h2 (mem_map.mpr ⟨q,.tail _ (.tail _ (.tail _ hq)),z⟩)
  have n0:r ≠ l.a:=fun z=>(nodup_cons.mp nd).1 (mem_map.mpr ⟨(l.a,_),.head _,z.symm⟩)
  have n2:l.p ≠ l.a:=fun z=>(nodup_cons.mp (nodup_cons.mp nd).2).1 (mem_map.mpr ⟨(l.p,_),.head _,z⟩)
  have n3:l.q ≠ l.a:=fun z=>(nodup_cons.mp (nodup_cons.mp nd).2).1 (mem_map.mpr ⟨(l.q,_),.tail _ (.head _),z⟩)
  have n4:l.t ≠ l.a:=fun z=>(nodup_cons.mp (nodup_cons.mp nd).2).1 (mem_map.mpr ⟨(l.t,_),.tail _ (.tail _ (.head _)),z⟩)
  unfold cells at hp
  rcases mem_cons.mp hp with rfl | hp
  ·exact .inr (.inr ⟨.head _,n0⟩)
  rcases mem_cons.mp hp with rfl | hp
  ·exact .inl rfl
  rcases mem_cons.mp hp with rfl | hp
  ·exact .inr (.inr ⟨.tail _ (.tail _ (.head _)),n2⟩)
  rcases mem_cons.mp hp with rfl | hp
  ·exact .inr (.inr ⟨.tail _ (.tail _ (.tail _ (.head _))),n3⟩)
  rcases mem_cons.mp hp with rfl | hp
  ·exact .inr (.inr ⟨.tail _ (.tail _ (.tail _ (.tail _ (.head _)))),n4⟩)
  replace hp:p ∈ ezC kE (l.es ++ [M.length]) (R.es ++ [e]) ++ pzC l.ps R.puts:=hp
  rw [ez] at hp
  rcases mem_append.mp hp with hp | hp
  ·rcases mem_append.mp hp with hp | hp
   ·exact .inr (.inr ⟨.tail _ (.tail _ (.tail _ (.tail _ (.tail _ (mem_append_left _ hp))))),na p (mem_append_left _ hp)⟩)
   ·exact .inr (.inl (mem_singleton.mp hp))
  ·exact .inr (.inr ⟨.tail _ (.tail _ (.tail _ (.tail _ (.tail _ (Qm _ hp))))),na p (Qm _ hp)⟩)
 have la:=h.er
 have hla:=yA la
 refine ⟨fun p hp=>?_,?_,fun p hp=>?_,by simp [Run.push,h.el],h.pl,h.tl⟩
 ·rcases hm p hp with rfl | rfl | ⟨hp,hne⟩
  ·exact get_set (by rw [Q6 hla];exact la)
  ·show (List.set _ _ _)[M.length]? = _
   rw [Qc,if_neg (by omega)];exact yM
  ·rw [Qc,if_neg (Ne.symm hne),Q6 (fresh p hp)];exact h.ho p hp
 ·have e2:(cells kE kR nt r { l with es:=l.es ++ [M.length] } (R.push e)).map (·.1) = r :: l.a :: l.p :: l.q :: l.t :: ((ezC kE l.es R.es).map (·.1) ++ [M.length] ++ (pzC l.ps R.puts).map (·.1)):=by
   show _ :: _ :: _ :: _ :: _ :: (ezC kE (l.es ++ [M.length]) (R.es ++ [e]) ++ pzC l.ps R.puts).map (·.1) = _
   rw [ez]
   simp
  have e1:(cells kE kR nt r l R).map (·.1) = r :: l.a :: l.p :: l.q :: l.t :: ((ezC kE l.es R.es).map (·.1) ++ (pzC l.ps R.puts).map (·.1)):=by
   show _ :: _ :: _ :: _ :: _ :: (ezC kE l.es R.es ++ pzC l.ps R.puts).map (·.1) = _
   rw [Qq]
  have pm:List.Perm ((cells kE kR nt r { l with es:=l.es ++ [M.length] } (R.push e)).map (·.1)) (M.length :: (cells kE kR nt r l R).map (·.1)):=by
   rw [e2,e1]
   have:List.Perm ((ezC kE l.es R.es).map (·.1) ++ [M.length] ++ (pzC l.ps R.puts).map (·.1)) (M.length :: ((ezC kE l.es R.es).map (·.1) ++ (pzC l.ps R.puts).map (·.1))):=by
    rw [append_assoc]
    exact List.perm_middle
   refine ((((((this.cons _).cons _).cons _).cons _).cons _).trans ?_)
   have sw:∀ (x y:Nat) (L:List Nat),List.Perm (x :: y :: L) (y :: x :: L):=fun x y L=>List.Perm.swap y x L
   refine ((((sw _ _ _).cons _).cons _).cons _).cons _ |>.trans ?_
   refine (((sw _ _ _).cons _).cons _).cons _ |>.trans ?_
   refine ((sw _ _ _).cons _).cons _ |>.trans ?_
   refine (sw _ _ _).cons _ |>.trans ?_
   exact sw _ _ _
  refine pm.nodup_iff.mpr (nodup_cons.mpr ⟨fun z=>?_,h.nd⟩)
  obtain ⟨q,hq,eq⟩:=mem_map.mp z
  have:=fresh q hq
  omega
 ·rcases hm p hp with rfl | rfl | ⟨hp,_⟩
  ·exact h.lo (l.a,.lst (l.es.map .ref)) (.tail _ (.head _))
  ·exact hb
  ·exact h.lo p hp
end
noncomputable def zcC (s:Str):List Str->Nat->Option Nat
 | [],_=>none
 | y :: ys,k=>if (y == s) = true then some k else zcC s ys (k + 1)
theorem zhZ (s:Str):∀ (ys:List Str) (k:Nat),zgl (.str s) (ys.map .str) k = zcC s ys k
 | [],_=>rfl
 | y :: ys,k=>by
  show (if (y == s) = true then some k else zgl (.str s) (ys.map .str) (k + 1)) = _
  rw [zhZ s ys (k + 1)]
  rfl
theorem zgm {s:Str}:∀ {ys:List Str} {k n:Nat},zcC s ys k = some n->k<=n/\n < k + ys.length
 | [],_,_,h=>by cases h
 | y :: ys,k,n,h=>by
  unfold zcC at h
  split at h
  ·cases h;simp
  ·have:=zgm h
   rw [Qp]
   omega
noncomputable def Net.hix (n:Net) (s:Str):Nat:=(zcC s (n.hs.map (·.name)) 0).getD 0
noncomputable def Net.pix (n:Net) (s:Str):Nat:=(zcC s (n.ps.map (·.name)) 0).getD 0
noncomputable def Net.asks (n:Net) (h:Nat):List Ask:=((n.hs[h]?).map (·.asks)).getD []
noncomputable def Net.pof (n:Net) (a:Ask):Option Nat:=a.purse.map n.pix
structure WA (n:Net) (i:Nat) (a:Ask):Prop where
 to:zcC a.to (n.hs.map (·.name)) 0 = some (n.hix a.to)
 up:i < n.hix a.to
 pu:∀ s,a.purse = some s->zcC s (n.ps.map (·.name)) 0 = some (n.pix s)
 tr:0<=a.tries
structure WN (n:Net):Prop where
 hl:n.hs.length<=4
 h1:0 < n.hs.length
 pl:n.ps.length<=100
 al:∀ h ∈ n.hs,h.asks.length<=100
 as:∀ i a,a ∈ n.asks i->WA n i a
 pr:∀ p ∈ n.ps,1<=p.per/\p.per<=1000000
variable {n:Net}
theorem WA.lt {a:Ask} (h:WA n i a):n.hix a.to < n.hs.length:=by
 have:=zgm h.to
 simp at this
 exact this
theorem WA.plt {a:Ask} (h:WA n i a) {k:Nat} (e:n.pof a = some k):k < n.ps.length:=by
 unfold Net.pof at e
 cases q:a.purse with
 | none=>rw [q] at e;cases e
 | some s=>
  rw [q] at e
  cases e
  have:=zgm (h.pu s q)
  simp at this
  exact this
variable {f:Str}
section
variable (kE kR:Addr)
theorem zgD {α:Type} (xs:List α) (nm:α->Str) (tl:α->List FT.T) {s:Str} {n:Nat} (h:zcC s (xs.map nm) 0 = some n) (hl:xs.length<=1000) (M:Mem):zad kE kR [.tup (xs.map fun x=>.tup (.str (nm x) :: tl x)),.str s] M = .ok (nT n) M:=by
 unfold zad zeY
 have c:qA (yr 0) zX (eOp ixT (yb 0) (eC (.int 0))) (xs.map fun x=>FT.T.tup (.str (nm x) :: tl x)) [none] M [] = .ok ((xs.map nm).map .str) M:=by
  rw [map_map]
  exact Ok.mapc (r:=fun x=>FT.T.tup (.str (nm x) :: tl x)) (fun σ=>∃ o,σ = [o]) _ ⟨_,rfl⟩ (by omega) (by
   rintro x σ hx ⟨o,rfl⟩
   exact ⟨[some (.tup (.str (nm x) :: tl x))],rfl,⟨_,rfl⟩,by simp_arith [and_self];rfl⟩)
 have k:zdX (.lst ((xs.map nm).map .str)) [.str s] M = .ok (nT n) M:=by
  unfold zdX zq
  dsimp only
  rw [if_pos,zhZ,h]
  ·rw [Qs]
   refine ⟨rfl,all_eq_true.mpr fun t ht=>?_⟩
   obtain ⟨y,_,rfl⟩:=mem_map.mp ht
   rfl
 have i1:zbw (.lst ((xs.map nm).map .str)) M = true:=rfl
 simp_arith [c,zaA,i1,k]
variable {kE kR}
theorem zmk (wn:WN n) {a:Ask} (w:WA n i a) (M:Mem):zax kE kR [qg n,yu a] M = .ok (nT (n.hix a.to)) M:=by
 unfold zax zfM qg yu
 have h:=fun M=>zgD kE kR n.hs (·.name) (fun h=>[.tup (h.asks.map yu)]) w.to (by have:=wn.hl;omega) M
 rw [show (n.hs.map fun h=>FT.T.tup (.str h.name :: [.tup (h.asks.map yu)])) = n.hs.map hsT from rfl] at h
 simp_arith [h]
variable {b r:Nat}
theorem zQ {k:Addr} {fs:List (Str × FT.T)} {t:FT.T} (h:M[x]? = some (.ins k fs)) (e:fs.lookup f = some t):zaJ [k] f (.ref x) M = .ok t M:=by
 unfold zaJ
 simp only [h]
 rw [if_pos (by simp),e]
 rfl
theorem za4 {k:Addr} {fs fs':List (Str × FT.T)} {y:FT.T} (h:M[x]? = some (.ins k fs)) (e:zcX f y fs = fs') (hl:fs.length < 1000):zaM [k] f (.ref x) y M = .ok () (M.set x (.ins k fs')):=by
 unfold zaM
 simp only [h]
 rw [if_pos ⟨by simp,hl⟩,e]
theorem RunAt.net (h:RunAt kE kR (qg n) b r l M R):zaJ [kR] "net" (.ref r) M = .ok (qg n) M:=zQ h.run rfl
theorem RunAt.came (h:RunAt kE kR (qg n) b r l M R):zaJ [kR] "came" (.ref r) M = .ok (nT R.came) M:=zQ h.run rfl
theorem RunAt.errands (h:RunAt kE kR (qg n) b r l M R):zaJ [kR] "errands" (.ref r) M = .ok (.ref l.a) M:=zQ h.run rfl
theorem RunAt.putsF (h:RunAt kE kR (qg n) b r l M R):zaJ [kR] "puts" (.ref r) M = .ok (.ref l.p) M:=zQ h.run rfl
theorem RunAt.payF (h:RunAt kE kR (qg n) b r l M R):zaJ [kR] "payments" (.ref r) M = .ok (.ref l.q) M:=zQ h.run rfl
theorem RunAt.takenF (h:RunAt kE kR (qg n) b r l M R):zaJ [kR] "taken" (.ref r) M = .ok (.ref l.t) M:=zQ h.run rfl
theorem qo {α:Type} {f:α->FT.T} {xs:List α} {x:α} (e:xs[i]? = some x):atI (xs.map f) (i:Int) = some (f x):=by rw [FT.zbh,Qb,e];rfl
theorem yU (h:RunAt kE kR (qg n) b r l M R) (he:R.es[i]? = some e) (hh:e.house < n.hs.length):yC kE kR [.ref r,nT i] M = .ok (.tup ((n.asks e.house).map yu)) M:=by
 unfold yC zgN
 obtain ⟨x,hx,hc⟩:=h.at_e he
 have h1:=zQ (f:="house") hc rfl
 have hn:n.hs[e.house]? = some n.hs[e.house]:=Q0 hh
 have h2:=qo (f:=hsT) hn
 have h3:n.asks e.house = (n.hs[e.house]).asks:=by unfold Net.asks;rw [hn];rfl
 rw [h3]
 have hnt:=h.net
 unfold qg at hnt
 simp_arith [zp,hnt,h.errands,h.er,qo (f:=FT.T.ref) hx,h1,h2]
 rw [show hsT n.hs[e.house] = .tup [.str n.hs[e.house].name,.tup (n.hs[e.house].asks.map yu)] from rfl]
 simp_arith [and_self]
theorem zdp (h:RunAt kE kR (qg n) b r l M R) (wn:WN n) {a:Ask} (w:WA n i a):yT kE kR [.ref r,yu a] M = .ok (onT (n.pof a)) M:=by
 unfold yT zfG yu
 have hnt:=h.net
 unfold qg at hnt
 cases q:a.purse with
 | none=>
  have i1:∀ M,isN (opS none) .non M = .ok (.bl true) M:=fun _=>rfl
  have e1:n.pof a = none:=by unfold Net.pof;rw [q];rfl
  rw [e1]
  simp_arith [eIf,i1]
  rfl
 | some s=>
  have i1:∀ M,isN (opS (some s)) .non M = .ok (.bl false) M:=fun _=>rfl
  have e1:n.pof a = some (n.pix s):=by unfold Net.pof;rw [q];rfl
  rw [e1]
  have hk:=zgD kE kR n.ps (·.name) (fun p=>[.str p.earns,.int p.per]) (w.pu s q) (by have:=wn.pl;omega) M
  rw [show (n.ps.map fun p=>FT.T.tup (.str p.name :: [.str p.earns,.int p.per])) = n.ps.map puT from rfl,show FT.T.str s = opS (some s) from rfl] at hk
  simp_arith [eIf,i1,zp,hnt,hk]
  rfl
noncomputable def Run.told (R:Run) (n:Net) (k:Nat):Int × Int:=((((R.puts.getD k []).length:Int) % (n.ps.getD k ⟨"","",1⟩).per),((R.puts.getD k []).length:Int) / (n.ps.getD k ⟨"","",1⟩).per - (R.taken.getD k 0:Nat))
theorem zmF (h:RunAt kE kR (qg n) b r l M R) (wn:WN n) (hp:R.puts.length = n.ps.length) {k:Nat} (hk:k < n.ps.length):zaT kE kR [.ref r,nT k] M = .ok (.tup [.int (R.told n k).1,.int (R.told n k).2]) M:=by
 unfold zaT zes
 have hpe:n.ps[k]? = some n.ps[k]:=Q0 hk
 have hu:R.puts[k]? = some (R.puts[k]'(by omega)):=Q0 _
 obtain ⟨x,hx,hc⟩:=h.at_p hu
 have ht:R.taken[k]? = some (R.taken[k]'(by have:=h.tl;omega)):=Q0 _
 have hper:=wn.pr n.ps[k] (getElem_mem _)
 have hnt:=h.net
 unfold qg at hnt
 have h2:atI (n.ps.map puT) (k:Int) = some (.tup [.str n.ps[k].name,.str n.ps[k].earns,.int n.ps[k].per]):=qo (f:=puT) hpe
 have ln:yx (.ref x) M = .ok (.int (((R.puts[k]'(by omega)).length:Nat):Int)) M:=by
  unfold yx yS zq
  simp only [hc]
  simp
 have dv:∀ i M,zex (.int i) (.int n.ps[k].per) M = .ok (.int (i.fdiv n.ps[k].per)) M:=fun i M=>zgs (zmx 100 (by decide) (by omega) (by
  refine Nat.lt_of_le_of_lt (show n.ps[k].per.natAbs<=10 ^ 7 from by simp only [Nat.reducePow];omega) (Nat.pow_lt_pow_right (by decide) (by decide))))
 have md:∀ i M,zbR (.int i) (.int n.ps[k].per) M = .ok (.int (i.fmod n.ps[k].per)) M:=fun i M=>zi5 (by omega)
 have cm:zaX kE kR [.ref r,nT k] M = .ok (.int ((((R.puts[k]'(by omega)).length:Nat):Int).fdiv n.ps[k].per)) M:=by
  unfold zaX zeu
  simp_arith [zp,h.putsF,h.pu,qo (f:=FT.T.ref) hx,ln,hnt,h2,dv]
 simp_arith [zp,h.putsF,h.pu,qo (f:=FT.T.ref) hx,ln,hnt,h2,md,cm,h.takenF,h.tk,qo (f:=nT) ht]
 unfold Run.told
 rw [Q7,Q7,Q7,hu,hpe,ht,Q9 _ (by omega),Int.fdiv_eq_ediv_of_nonneg _ (by omega)]
 rfl
end
noncomputable def yn (h:Nat) (c:Option (Nat × Nat × Nat)):Er:=⟨h,c,.works,false,none,none⟩
noncomputable def Net.any (n:Net) (k:Nat):Bool:=(n.ps.getD k ⟨"","",1⟩).earns == ("any":Str)
noncomputable def Run.share (R:Run) (n:Net) (a:Ask) (tr x:Nat):Run:=match n.pof a with
 | none=>R
 | some k=>if tr = 1\/n.any k = true then R.setP k (R.puts.getD k [] ++ [x]) else R
noncomputable def y4 (n:Net) (g:Run->Nat->Option (Nat × Nat × Nat)->Run) (R:Run) (num at' tr:Nat):Run:=match R.es[num]? with
 | none=>R
 | some e=>match (n.asks e.house)[at']? with
  | none=>R
  | some a=>g ((R.setE num { e with ph:=.waits at' tr,asked:=some R.es.length }).share n a tr R.es.length) (n.hix a.to) (some (num,at',tr))
noncomputable def qC (n:Net):Nat->Run->Nat->Option (Nat × Nat × Nat)->Run
 | 0,R,_,_=>R
 | f + 1,R,h,c=>if n.asks h = [] then R.push (yn h c) else y4 n (qC n f) (R.push (yn h c)) R.es.length 0 1
structure SB (B:Nat) (R:Run):Prop where
 es:R.es.length<=B
 pu:∀ u ∈ R.puts,u.length<=B
 py:R.pays.length<=B
 tk:∀ v ∈ R.taken,v<=B
variable {B:Nat}
theorem SB.mono {C:Nat} (h:SB B R) (hc:B<=C):SB C R:=⟨Qj h.es hc,fun u hu=>Qj (h.pu u hu) hc,Qj h.py hc,fun v hv=>Qj (h.tk v hv) hc⟩
theorem SB.push (h:SB B R) (e:Er):SB (B + 1) (R.push e):=⟨by simp [Run.push];exact h.es,fun u hu=>Nat.le_succ_of_le (h.pu u hu),Nat.le_succ_of_le h.py,fun v hv=>Nat.le_succ_of_le (h.tk v hv)⟩
theorem SB.setE (h:SB B R) (i:Nat) (e:Er):SB B (R.setE i e):=⟨by simp [Run.setE];exact h.es,h.pu,h.py,h.tk⟩
theorem mem_set {α:Type} {xs:List α} {k:Nat} {y v:α} (h:v ∈ xs.set k y):v ∈ xs\/v = y:=by
 obtain ⟨i,hi⟩:=mem_iff_getElem?.mp h
 rw [Qc] at hi
 split at hi
 ·split at hi
  ·exact .inr (by cases hi;rfl)
  ·cases hi
 ·exact .inl (Qa hi)
theorem SB.share (h:SB B R) (n:Net) (a:Ask) (tr x:Nat):SB (B + 1) (R.share n a tr x):=by
 unfold Run.share
 split
 ·exact h.mono (by omega)
 ·rename_i k _
  split
  ·refine ⟨Nat.le_succ_of_le h.es,fun u hu=>?_,Nat.le_succ_of_le h.py,fun v hv=>Nat.le_succ_of_le (h.tk v hv)⟩
   rcases mem_set hu with hu | rfl
   ·exact Nat.le_succ_of_le (h.pu u hu)
   ·rw [Qn,Qt]
    by_cases hk:k < R.puts.length
    ·have:=h.pu (R.puts.getD k []) (by rw [Q7,Q0 hk];exact getElem_mem _)
     omega
    ·rw [Q7,getElem?_eq_none (by omega)]
     simp
  ·exact h.mono (by omega)
theorem zbF (R:Run) (n:Net) (a:Ask) (tr x:Nat):(R.share n a tr x).es = R.es/\(R.share n a tr x).puts.length = R.puts.length/\(R.share n a tr x).taken = R.taken/\(R.share n a tr x).pays = R.pays/\(R.share n a tr x).came = R.came:=by
 unfold Run.share
 split
 ·exact ⟨rfl,rfl,rfl,rfl,rfl⟩
 ·split
  ·exact ⟨rfl,by simp [Run.setP],rfl,rfl,rfl⟩
  ·exact ⟨rfl,rfl,rfl,rfl,rfl⟩
variable {kE kR:Addr} {q1 q2:List FT.T->Mem->Out FT.T} {at':Nat} {g:Run->Nat->Option (Nat × Nat × Nat)->Run}
section
variable {b r:Nat}
noncomputable def Lv (kE kR:Addr) (n:Net) (b r:Nat) (R':Run) (M:Mem):FT.T->Mem->Prop:=fun t M'=>t = .non/\Kp b M M'/\∃ l',RunAt kE kR (qg n) b r l' M' R'
theorem any_eq {k:Nat} {p:Pu} (h:n.ps[k]? = some p) (M:Mem):eqA (.str p.earns) (.str "any") M = .ok (.bl (n.any k)) M:=by
 unfold Net.any
 rw [Q7,h]
 rfl
theorem zkd (wn:WN n) (hB:B < 100000) {num tr:Nat} {a:Ask} 
 (h:RunAt kE kR (qg n) b r l M R) (sb:SB B R) (hp:R.puts.length = n.ps.length) (he:R.es[num]? = some e) (hh:e.house < n.hs.length) (ha:(n.asks e.house)[at']? = some a)
 (hg:∀ (l:Lay) (M:Mem) (R':Run),R' = (R.setE num { e with ph:=.waits at' tr,asked:=some R.es.length }).share n a tr R.es.length->RunAt kE kR (qg n) b r l M R'->Ok (q2 [.ref r,nT (n.hix a.to),clT (some (num,at',tr))] M) (Lv kE kR n b r (g R' (n.hix a.to) (some (num,at',tr))) M)) :
  Ok (qi 4 7 (zbo kE kR q1 q2) [.ref r,nT num,nT at',nT tr] M) (Lv kE kR n b r (y4 n g R num at' tr) M):=by
 have w:=wn.as e.house a (Qa ha)
 have e0:y4 n g R num at' tr = g ((R.setE num { e with ph:=.waits at' tr,asked:=some R.es.length }).share n a tr R.es.length) (n.hix a.to) (some (num,at',tr)):=by
  unfold y4
  rw [he]
  dsimp only
  rw [ha]
 rw [e0]
 refine yy rfl ?_
 unfold zbo
 obtain ⟨x,hx,hc⟩:=h.at_e he
 have ln:yx (.ref l.a) M = .ok (nT R.es.length) M:=by
  unfold yx yS zq
  simp only [h.er]
  simp [h.el]
 obtain ⟨h1,bx⟩:=h.setE hx he { e with ph:=.waits at' tr }
 have s1:=za4 (f:="state") (y:=.tup [.str "waits",nT at',nT tr]) (fs':=erF { e with ph:=.waits at' tr }) hc rfl (by simp [erF])
 have he1:(R.setE num { e with ph:=.waits at' tr }).es[num]? = some { e with ph:=.waits at' tr }:=by
  show (R.es.set num _)[num]? = _
  rw [Qc,if_pos rfl,if_pos (List.getElem?_eq_some_iff.mp he).1]
 obtain ⟨h2,_⟩:=h1.setE hx he1 { e with ph:=.waits at' tr,asked:=some R.es.length }
 have ss:(R.setE num { e with ph:=.waits at' tr }).setE num { e with ph:=.waits at' tr,asked:=some R.es.length } = R.setE num { e with ph:=.waits at' tr,asked:=some R.es.length }:=by
  show ({ R with es:=(R.es.set num _).set num _ }:Run) = _
  rw [List.set_set]
  rfl
 rw [ss] at h2
 have hc1:(M.set x (.ins kE (erF { e with ph:=.waits at' tr })))[x]? = some (.ins kE (erF { e with ph:=.waits at' tr })):=get_set hc
 have s2:=za4 (f:="asked") (y:=nT R.es.length) (fs':=erF { e with ph:=.waits at' tr,asked:=some R.es.length }) hc1 rfl (by simp [erF])
 simp_arith [yU h he hh,qo (f:=yu) ha,zp,h.errands,ln,yE,h.er,qo (f:=FT.T.ref) hx,s1,h1.errands,h1.er,s2,zdp h2 wn w]
 generalize hM2:(M.set x (.ins kE (erF { e with ph:=.waits at' tr }))).set x (.ins kE (erF { e with ph:=.waits at' tr,asked:=some R.es.length })) = M2 at h2 ⊢
 have k2:Kp b M M2:=by rw [← hM2];exact (Kp.set _ _ bx).trans (Kp.set _ _ bx)
 have hnt:=h2.net
 have fin:∀ (l3:Lay) (M3:Mem),Kp b M M3->RunAt kE kR (qg n) b r l3 M3 ((R.setE num { e with ph:=.waits at' tr,asked:=some R.es.length }).share n a tr R.es.length)->
   Ok ((zax kE kR [qg n,yu a] M3).bind fun y M=>(q2 [.ref r,y,.tup [nT num,nT at',nT tr]] M).bind fun _ M=>.ok .non M) (Lv kE kR n b r (g ((R.setE num { e with ph:=.waits at' tr,asked:=some R.es.length }).share n a tr R.es.length) (n.hix a.to) (some (num,at',tr))) M):=by
  intro l3 M3 k3 h3
  rw [zmk wn w]
  simp_arith [and_self]
  refine Ok.bind (hg l3 M3 _ rfl h3) ?_
  rintro t M4 ⟨rfl,k4,l4,h4⟩
  try simp_arith [and_self]
  exact Ok.ret ⟨rfl,k3.trans k4,l4,h4⟩
 cases q:n.pof a with
 | none=>
  have i1:∀ M,y8 (onT none) .non M = .ok (.bl false) M:=fun _=>rfl
  have e1:(R.setE num { e with ph:=.waits at' tr,asked:=some R.es.length }).share n a tr R.es.length = R.setE num { e with ph:=.waits at' tr,asked:=some R.es.length }:=by unfold Run.share;rw [q]
  simp_arith [i1,hnt]
  exact fin l M2 k2 (by rw [e1];exact h2)
 | some k=>
  have hk:=w.plt q
  rw [show onT (some k) = .int (k:Int) from rfl]
  have i1:∀ M,y8 (.int (k:Int)) .non M = .ok (.bl true) M:=fun _=>rfl
  have hu:(R.setE num { e with ph:=.waits at' tr,asked:=some R.es.length }).puts[k]? = some (R.puts[k]'(by omega)):=Q0 (show k < R.puts.length by omega)
  obtain ⟨y,hy,hcy⟩:=h2.at_p hu
  have gd:R.puts.getD k [] = R.puts[k]'(by omega):=by rw [Q7,Q0 (show k < R.puts.length by omega)];rfl
  obtain ⟨h3,by3⟩:=h2.setP hy hu (R.puts.getD k [] ++ [R.es.length])
  have ap:=zP (t:=nT R.es.length) hcy (by rw [Qh,sizeLine_eq];have:=sb.pu _ (getElem_mem (show k < R.puts.length by omega));omega)
  have hps:n.ps[k]? = some n.ps[k]:=Q0 hk
  have hpa:atI (n.ps.map puT) (k:Int) = some (.tup [.str n.ps[k].name,.str n.ps[k].earns,.int n.ps[k].per]):=qo (f:=puT) hps
  have lc:yD (.ref y) M2 = .ok (.ref y) M2:=zF hcy
  unfold qg at hnt
  by_cases hs:tr = 1\/n.any k = true
  ·have e1:(R.setE num { e with ph:=.waits at' tr,asked:=some R.es.length }).share n a tr R.es.length = (R.setE num { e with ph:=.waits at' tr,asked:=some R.es.length }).setP k (R.puts.getD k [] ++ [R.es.length]):=by
    unfold Run.share
    rw [q]
    dsimp only
    rw [if_pos hs]
    rfl
   have h3':RunAt kE kR (qg n) b r l (M2.set y (.lst (((R.puts[k]'(by omega)).map nT) ++ [nT R.es.length]))) ((R.setE num { e with ph:=.waits at' tr,asked:=some R.es.length }).share n a tr R.es.length):=by
    rw [e1,gd]
    rw [gd,Qq] at h3
    exact h3
   have k3:Kp b M (M2.set y (.lst (((R.puts[k]'(by omega)).map nT) ++ [nT R.es.length]))):=k2.trans (Kp.set _ _ by3)
   have fn:=fin l _ k3 h3'
   have hn3:=h3'.net
   by_cases z:tr = 1
   ·have zt:((tr:Int) == 1) = true:=by rw [z];rfl
    simp_arith [i1,zt,h2.putsF,h2.pu,qo (f:=FT.T.ref) hy,lc,ap,hn3]
    exact fn
   ·have zt:((tr:Int) == 1) = false:=by simp;omega
    have ha':n.any k = true:=hs.resolve_left z
    simp_arith [i1,zt,hnt,hpa,any_eq hps,ha',h2.putsF,h2.pu,qo (f:=FT.T.ref) hy,lc,ap,hn3]
    exact fn
  ·have e1:(R.setE num { e with ph:=.waits at' tr,asked:=some R.es.length }).share n a tr R.es.length = R.setE num { e with ph:=.waits at' tr,asked:=some R.es.length }:=by
    unfold Run.share
    rw [q]
    dsimp only
    rw [if_neg hs]
   have zt:((tr:Int) == 1) = false:=by
    have:¬ tr = 1:=fun z=>hs (.inl z)
    simp;omega
   have ha':n.any k = false:=by
    cases z:n.any k with
    | false=>rfl
    | true=>exact absurd (.inr z) hs
   have fn:=fin l M2 k2 (by rw [e1];exact h2)
   unfold qg at fn
   simp_arith [i1,zt,hnt,hpa,any_eq hps,ha']
   exact fn
theorem zba (R:Run) (e:Er):(R.push e).es[R.es.length]? = some e:=List.getElem?_concat_length
theorem ziu (wn:WN n):∀ (f m:Nat),2 * f<=m->∀ {B:Nat} {h:Nat} {c:Option (Nat × Nat × Nat)} {l:Lay} {M:Mem} {R:Run},B + 2 * f < 100000->RunAt kE kR (qg n) b r l M R->b<=M.length->SB B R->R.puts.length = n.ps.length->h < n.hs.length->n.hs.length<=h + f->
  Ok ((zk kE kR m).2 [.ref r,nT h,clT c] M) (Lv kE kR n b r (qC n f R h c) M)
 | 0,m,_,B,h,c,l,M,R,_,_,_,_,_,hh,hf=>absurd hh (by omega)
 | f + 1,0,hm,B,h,c,l,M,R,_,_,_,_,_,hh,hf=>absurd hm (by omega)
 | f + 1,m + 1,hm,B,h,c,l,M,R,hB,ra,hbM,sb,hp,hh,hf=>by
  show Ok (qi 3 4 (zbd kE kR (zk kE kR m).1 (zk kE kR m).2) [.ref r,nT h,clT c] M) _
  refine yy rfl ?_
  unfold zbd
  have i0:yW kE kR [.ref M.length,nT h,clT c] (M ++ [.ins kE []]) = .ok .non (M ++ [.ins kE (erF (yn h c))]):=by
   unfold yW zeb
   have st:∀ (fs fs':List (Str × FT.T)) (f:Str) (y:FT.T),zcX f y fs = fs'->fs.length < 1000->zaM [kE] f (.ref M.length) y (M ++ [.ins kE fs]) = .ok () (M ++ [.ins kE fs']):=fun fs fs' f y e hl=>by
    rw [za4 (x:=M.length) yM e hl]
    congr 1
    rw [set_append_right _ _ (Q3 _),Qu]
    rfl
   simp_arith [yE,st [] [("house",nT h)] "house" (nT h) rfl (by simp),st [("house",nT h)] [("house",nT h),("caller",clT c)] "caller" (clT c) rfl (by simp),st [("house",nT h),("caller",clT c)] [("house",nT h),("caller",clT c),("state",.tup [.str "works"])] "state" (.tup [.str "works"]) rfl (by simp),st [("house",nT h),("caller",clT c),("state",.tup [.str "works"])] [("house",nT h),("caller",clT c),("state",.tup [.str "works"]),("is_lost",.bl false)] "is_lost" (.bl false) rfl (by simp),st [("house",nT h),("caller",clT c),("state",.tup [.str "works"]),("is_lost",.bl false)] [("house",nT h),("caller",clT c),("state",.tup [.str "works"]),("is_lost",.bl false),("asked",.non)] "asked" .non rfl (by simp),st [("house",nT h),("caller",clT c),("state",.tup [.str "works"]),("is_lost",.bl false),("asked",.non)] (erF (yn h c)) "stood" .non rfl (by simp)]
  have ra1:=ra.push hbM (yn h c)
  have er1:(M ++ [Cell.ins kE (erF (yn h c))])[l.a]? = some (.lst (l.es.map .ref)):=by rw [Q6 (yA ra.er)];exact ra.er
  have ap:=zP (t:=.ref M.length) er1 (by rw [Qh,sizeLine_eq,ra.el];have:=sb.es;omega)
  rw [show l.es.map FT.T.ref ++ [.ref M.length] = (l.es ++ [M.length]).map .ref from by simp] at ap
  have kp:Kp b M ((M ++ [Cell.ins kE (erF (yn h c))]).set l.a (.lst ((l.es ++ [M.length]).map .ref))):=(Kp.app _ _ hbM).trans (Kp.set _ _ (ra.lo (l.a,.lst (l.es.map .ref)) (.tail _ (.head _))))
  have mk:zdf kE (yW kE kR) (zb (yb 1) (zb (yb 2) ze)) [some (.ref r),some (nT h),some (clT c),none] M = .ok (.ref M.length) (M ++ [.ins kE (erF (yn h c))]):=by
   simp_arith [zdf,i0]
   rfl
  simp_arith [zp,ra.errands,zF ra.er,mk,ap]
  generalize hM1:(M ++ [Cell.ins kE (erF (yn h c))]).set l.a (.lst ((l.es ++ [M.length]).map .ref)) = M1 at ra1 kp ⊢
  have ln:yx (.ref l.a) M1 = .ok (.int ((R.es.length:Int) + 1)) M1:=by
   unfold yx yS zq
   have:=ra1.er
   simp only at this
   simp only [this]
   simp [ra.el]
  have sub1:(R.es.length:Int) + 1 - 1 = (R.es.length:Int):=by omega
  have hn1:(R.push (yn h c)).es[R.es.length]? = some (yn h c):=zba R _
  have as1:=yU ra1 hn1 hh
  simp_arith [ra1.errands,ln,sub1,as1]
  by_cases h0:n.asks h = []
  ·have e1:qC n (f + 1) R h c = R.push (yn h c):=by unfold qC;rw [if_pos h0]
   rw [e1]
   have:(yn h c).house = h:=rfl
   rw [this,h0]
   simp_arith [and_self]
   exact Ok.ret ⟨rfl,kp,_,ra1⟩
  ·have e1:qC n (f + 1) R h c = y4 n (qC n f) (R.push (yn h c)) R.es.length 0 1:=by rw [qC,if_neg h0]
   rw [e1]
   obtain ⟨a,as,hq⟩:=List.exists_cons_of_ne_nil h0
   have ha:(n.asks (yn h c).house)[0]? = some a:=by show (n.asks h)[0]? = _;rw [hq];rfl
   have w:=wn.as h a (by rw [hq];exact .head _)
   have hlen:decide ((0:Int) < (((n.asks (yn h c).house).map yu).length:Int)) = true:=Qv (by
    rw [Qh]
    show (0:Int) < ((n.asks h).length:Int)
    rw [hq];simp)
   simp_arith [hlen]
   obtain ⟨m',rfl⟩:∃ m',m = m' + 1:=⟨m - 1,by omega⟩
   refine Ok.bind (zkd wn (q1:=(zk kE kR m').1) (q2:=(zk kE kR m').2) (g:=qC n f) (B:=B + 1) (by omega) ra1 (sb.push _) hp hn1 hh ha ?_) ?_
   ·intro l3 M3 R3 e3 ra3
    have hM3:b<=M3.length:=Qj (ra3.lo _ (.head _)) (Nat.le_of_lt (yA ra3.run))
    have sl:=zbF ((R.push (yn h c)).setE R.es.length { yn h c with ph:=.waits 0 1,asked:=some (R.push (yn h c)).es.length }) n a 1 (R.push (yn h c)).es.length
    refine ziu wn f m' (by omega) (B:=B + 2) (by omega) ra3 hM3 ?_ ?_ (by exact w.lt) (by have:=w.up;omega)
    ·rw [e3]
     exact ((sb.push _).setE _ _).share n a 1 _
    ·rw [e3,sl.2.1]
     exact hp
   ·rintro t M2 ⟨rfl,k2,l2,h2⟩
    try simp_arith [and_self]
    exact Ok.ret ⟨rfl,kp.trans k2,l2,h2⟩
end
noncomputable def zau (n:Net) (g:Run->Nat->Str->Run) (R:Run) (c:Nat × Nat × Nat) (w:Str):Run:=match R.es[c.1]? with
 | none=>R
 | some e=>if (w == ("well":Str)) = true/\c.2.1 + 1 < (n.asks e.house).length then y4 n (qC n 4) R c.1 (c.2.1 + 1) 1
  else if (w == ("well":Str)) = true\/((w == ("spent":Str)) = true/\((n.asks e.house)[c.2.1]?).any (·.hears) = true) then g R c.1 w
  else R.setE c.1 { e with ph:=.stands c.2.1 c.2.2,stood:=some R.came }
noncomputable def zK (n:Net):Nat->Run->Nat->Str->Run
 | 0,R,_,_=>R
 | f + 1,R,i,w=>match R.es[i]? with
  | none=>R
  | some e=>match e.caller with
   | none=>R.setE i { e with ph:=.ended w }
   | some c=>if e.lost = true then R.setE i { e with ph:=.ended w } else zau n (zK n f) (R.setE i { e with ph:=.ended w }) c w
def zeo (n:Net) (e:Er):Prop:=match e.ph with
 | .waits a t=>a < (n.asks e.house).length/\1<=t
 | .stands a t=>a < (n.asks e.house).length/\e.stood.isSome = true/\1<=t
 | _=>True
structure RI (n:Net) (R:Run):Prop where
 hs:∀ (i:Nat) (e:Er),R.es[i]? = some e->e.house < n.hs.length
 cl:∀ (i:Nat) (e:Er) (c:Nat × Nat × Nat),R.es[i]? = some e->e.caller = some c->c.1 < i/\∃ ce,R.es[c.1]? = some ce/\ce.house < e.house/\c.2.1 < (n.asks ce.house).length
 ph:∀ (i:Nat) (e:Er),R.es[i]? = some e->zeo n e
 pl:R.puts.length = n.ps.length
variable {e' q:Er} {j:Nat}
theorem zak {es:List Er} (h:(es.set i e')[j]? = some q):(j = i/\q = e'/\i < es.length)\/(j ≠ i/\es[j]? = some q):=by
 rw [Qc] at h
 split at h
 ·rename_i z
  split at h
  ·cases h;exact .inl ⟨z.symm,rfl,by omega⟩
  ·cases h
 ·rename_i z
  exact .inr ⟨fun y=>z y.symm,h⟩
theorem RI.setE (h:RI n R) (he:R.es[i]? = some e) (h1:e'.house = e.house) (h2:e'.caller = e.caller) (h3:zeo n e'):RI n (R.setE i e'):=by
 have fwd:∀ {j:Nat} {q:Er},R.es[j]? = some q->∃ q',(R.setE i e').es[j]? = some q'/\q'.house = q.house:=fun {j q} hq=>by
  show ∃ q',(R.es.set i e')[j]? = some q'/\_
  rw [Qc]
  by_cases z:i = j
  ·rw [if_pos z,if_pos (List.getElem?_eq_some_iff.mp he).1]
   subst z
   rw [he] at hq
   cases hq
   exact ⟨e',rfl,h1⟩
  ·rw [if_neg z];exact ⟨q,hq,rfl⟩
 refine ⟨fun j q hq=>?_,fun j q c hq hc=>?_,fun j q hq=>?_,h.pl⟩
 ·rcases zak hq with ⟨rfl,rfl,_⟩ | ⟨_,hq⟩
  ·rw [h1];exact h.hs _ _ he
  ·exact h.hs _ _ hq
 ·rcases zak hq with ⟨rfl,rfl,_⟩ | ⟨_,hq⟩
  ·rw [h2] at hc
   obtain ⟨a,ce,b1,b2,b3⟩:=h.cl _ _ _ he hc
   obtain ⟨q',d1,d2⟩:=fwd b1
   exact ⟨a,q',d1,by rw [d2,h1];exact b2,by rw [d2];exact b3⟩
  ·obtain ⟨a,ce,b1,b2,b3⟩:=h.cl _ _ _ hq hc
   obtain ⟨q',d1,d2⟩:=fwd b1
   exact ⟨a,q',d1,by rw [d2];exact b2,by rw [d2];exact b3⟩
 ·rcases zak hq with ⟨rfl,rfl,_⟩ | ⟨_,hq⟩
  ·exact h3
  ·exact h.ph _ _ hq
section
variable {b r:Nat}
theorem zde (w s:Str) (M:Mem):eqA (.str w) (.str s) M = .ok (.bl (w == s)) M:=rfl
theorem zeI (w s:Str) (M:Mem):neA (.str w) (.str s) M = .ok (.bl (!(w == s))) M:=rfl
theorem ziR (wn:WN n) (hB:B < 90000) {num tr:Nat} {a:Ask} 
 (h:RunAt kE kR (qg n) b r l M R) (sb:SB B R) (hp:R.puts.length = n.ps.length) (he:R.es[num]? = some e) (hh:e.house < n.hs.length) (ha:(n.asks e.house)[at']? = some a) :
  Ok (zaf kE kR [.ref r,nT num,nT at',nT tr] M) (Lv kE kR n b r (y4 n (qC n 4) R num at' tr) M):=by
 show Ok (qi 4 7 (zbo kE kR (zk kE kR 11).1 (zk kE kR 11).2) [.ref r,nT num,nT at',nT tr] M) _
 have w:=wn.as e.house a (Qa ha)
 refine zkd wn (B:=B) (by omega) h sb hp he hh ha ?_
 intro l3 M3 R3 e3 ra3
 have hM3:b<=M3.length:=Qj (ra3.lo _ (.head _)) (Nat.le_of_lt (yA ra3.run))
 have sl:=zbF (R.setE num { e with ph:=.waits at' tr,asked:=some R.es.length }) n a tr R.es.length
 refine ziu wn 4 11 (by omega) (B:=B + 1) (by omega) ra3 hM3 (by rw [e3];exact (sb.setE _ _).share n a tr _) (by rw [e3,sl.2.1];exact hp) w.lt (by have:=wn.hl;omega)
theorem zjb (wn:WN n) {g:Run->Nat->Str->Run} (hB:B < 90000) {c:Nat × Nat × Nat} {w:Str} 
 (h:RunAt kE kR (qg n) b r l M R) (sb:SB B R) (ri:RI n R) (he:R.es[c.1]? = some e) (hat:c.2.1 < (n.asks e.house).length)
 (hg:Ok (q1 [.ref r,nT c.1,.str w] M) (Lv kE kR n b r (g R c.1 w) M)) :
  Ok (qi 3 6 (zet kE kR q1 q2) [.ref r,clT (some c),.str w] M) (Lv kE kR n b r (zau n g R c w) M):=by
 have hh:=ri.hs _ _ he
 generalize hR:zau n g R c w = R'
 have e0:R' = if (w == ("well":Str)) = true/\c.2.1 + 1 < (n.asks e.house).length then y4 n (qC n 4) R c.1 (c.2.1 + 1) 1
  else if (w == ("well":Str)) = true\/((w == ("spent":Str)) = true/\((n.asks e.house)[c.2.1]?).any (·.hears) = true) then g R c.1 w
  else R.setE c.1 { e with ph:=.stands c.2.1 c.2.2,stood:=some R.came }:=by
  rw [← hR]
  unfold zau
  rw [he]
 obtain ⟨x,hx,hc⟩:=h.at_e he
 have ha:(n.asks e.house)[c.2.1]? = some (n.asks e.house)[c.2.1]:=Q0 hat
 have haa:atI ((n.asks e.house).map yu) (c.2.1:Int) = some (.tup [.str (n.asks e.house)[c.2.1].to,.int (n.asks e.house)[c.2.1].tries,opS (n.asks e.house)[c.2.1].purse,.str (n.asks e.house)[c.2.1].word,.bl (n.asks e.house)[c.2.1].hears,.bl (n.asks e.house)[c.2.1].sure]):=qo (f:=yu) ha
 have a4:∀ (t0 t1 t2 t3 t4 t5:FT.T),atI [t0,t1,t2,t3,t4,t5] 4 = some t4:=fun _ _ _ _ _ _=>rfl
 refine yy rfl ?_
 unfold zet
 rw [show clT (some c) = .tup [nT c.1,nT c.2.1,nT c.2.2] from rfl]
 have hl:(((n.asks e.house).map yu).length:Int) = ((n.asks e.house).length:Int):=by rw [Qh]
 simp_arith [yU h he hh,zde,hl]
 have s1:=za4 (f:="state") (y:=.tup [.str "stands",nT c.2.1,nT c.2.2]) (fs':=erF { e with ph:=.stands c.2.1 c.2.2 }) hc rfl (by simp [erF])
 obtain ⟨h1,bx⟩:=h.setE hx he { e with ph:=.stands c.2.1 c.2.2 }
 have hc1:(M.set x (.ins kE (erF { e with ph:=.stands c.2.1 c.2.2 })))[x]? = some (.ins kE (erF { e with ph:=.stands c.2.1 c.2.2 })):=get_set hc
 have s2:=za4 (f:="stood") (y:=nT R.came) (fs':=erF { e with ph:=.stands c.2.1 c.2.2,stood:=some R.came }) hc1 rfl (by simp [erF])
 have he1:(R.setE c.1 { e with ph:=.stands c.2.1 c.2.2 }).es[c.1]? = some { e with ph:=.stands c.2.1 c.2.2 }:=by
  show (R.es.set c.1 _)[c.1]? = _
  rw [Qc,if_pos rfl,if_pos (List.getElem?_eq_some_iff.mp he).1]
 obtain ⟨h2,_⟩:=h1.setE hx he1 { e with ph:=.stands c.2.1 c.2.2,stood:=some R.came }
 have ss:(R.setE c.1 { e with ph:=.stands c.2.1 c.2.2 }).setE c.1 { e with ph:=.stands c.2.1 c.2.2,stood:=some R.came } = R.setE c.1 { e with ph:=.stands c.2.1 c.2.2,stood:=some R.came }:=by
  show ({ R with es:=(R.es.set c.1 _).set c.1 _ }:Run) = _
  rw [List.set_set]
  rfl
 rw [ss] at h2
 have k2:Kp b M ((M.set x (.ins kE (erF { e with ph:=.stands c.2.1 c.2.2 }))).set x (.ins kE (erF { e with ph:=.stands c.2.1 c.2.2,stood:=some R.came }))):=(Kp.set _ _ bx).trans (Kp.set _ _ bx)
 have ca:zaJ [kR] "came" (.ref r) (M.set x (.ins kE (erF { e with ph:=.stands c.2.1 c.2.2 }))) = .ok (nT R.came) (M.set x (.ins kE (erF { e with ph:=.stands c.2.1 c.2.2 }))):=h1.came
 by_cases hw:(w == ("well":Str)) = true
 ·by_cases hl2:c.2.1 + 1 < (n.asks e.house).length
  ·rw [if_pos ⟨hw,hl2⟩] at e0
   rw [e0]
   have d1:decide ((c.2.1:Int) + 1 < ((n.asks e.house).length:Int)) = true:=Qv (by omega)
   simp_arith [hw,d1]
   refine Ok.bind (ziR wn hB h sb ri.pl he hh (at':=c.2.1 + 1) (tr:=1) (Q0 hl2)) ?_
   rintro t M2 ⟨rfl,k2,l2,h2⟩
   try simp_arith [and_self]
   exact Ok.ret ⟨rfl,k2,l2,h2⟩
  ·rw [if_neg fun z=>hl2 z.2,if_pos (.inl hw)] at e0
   rw [e0]
   have d1:decide ((c.2.1:Int) + 1 < ((n.asks e.house).length:Int)) = false:=Qw (by omega)
   simp_arith [hw,d1]
   refine Ok.bind hg ?_
   rintro t M2 ⟨rfl,k2,l2,h2⟩
   try simp_arith [and_self]
   exact Ok.ret ⟨rfl,k2,l2,h2⟩
 ·have hw':(w == ("well":Str)) = false:=by simpa using hw
  rw [if_neg fun z=>hw z.1] at e0
  by_cases hs:(w == ("spent":Str)) = true
  ·by_cases hh2:(n.asks e.house)[c.2.1].hears = true
   ·rw [if_pos (.inr ⟨hs,by rw [ha];exact hh2⟩)] at e0
    rw [e0]
    simp_arith [hw',hs,haa,a4,hh2]
    refine Ok.bind hg ?_
    rintro t M2 ⟨rfl,k2,l2,h2⟩
    try simp_arith [and_self]
    exact Ok.ret ⟨rfl,k2,l2,h2⟩
   ·have hh3:(n.asks e.house)[c.2.1].hears = false:=by simpa using hh2
    rw [if_neg (by
     rintro (z | ⟨_,z⟩)
     ·exact hw z
     ·rw [ha] at z;exact hh2 z)] at e0
    rw [e0]
    simp_arith [hw',hs,haa,a4,hh3,yE,zp,h.errands,h.er,qo (f:=FT.T.ref) hx,s1,ca,h1.errands,h1.er,s2]
    exact Ok.ret ⟨rfl,k2,l,h2⟩
  ·have hs':(w == ("spent":Str)) = false:=by simpa using hs
   rw [if_neg (by
    rintro (z | ⟨z,_⟩)
    ·exact hw z
    ·exact hs z)] at e0
   rw [e0]
   simp_arith [hw',hs',yE,zp,h.errands,h.er,qo (f:=FT.T.ref) hx,s1,ca,h1.errands,h1.er,s2]
   exact Ok.ret ⟨rfl,k2,l,h2⟩
theorem zif (wn:WN n):∀ (f m:Nat),2 * f<=m->∀ {B i:Nat} {w:Str} {e:Er} {l:Lay} {M:Mem} {R:Run},B < 90000->RunAt kE kR (qg n) b r l M R->SB B R->RI n R->R.es[i]? = some e->e.house < f->
  Ok ((zu kE kR m).1 [.ref r,nT i,.str w] M) (Lv kE kR n b r (zK n f R i w) M)
 | 0,m,_,B,i,w,e,l,M,R,_,_,_,_,_,hf=>absurd hf (by omega)
 | f + 1,0,hm,B,i,w,e,l,M,R,_,_,_,_,_,hf=>absurd hm (by omega)
 | f + 1,m + 1,hm,B,i,w,e,l,M,R,hB,h,sb,ri,he,hf=>by
  show Ok (qi 3 4 (zbT kE kR (zu kE kR m).1 (zu kE kR m).2) [.ref r,nT i,.str w] M) _
  refine yy rfl ?_
  unfold zbT
  obtain ⟨x,hx,hc⟩:=h.at_e he
  have s1:=za4 (f:="state") (y:=.tup [.str "ended",.str w]) (fs':=erF { e with ph:=.ended w }) hc rfl (by simp [erF])
  obtain ⟨h1,bx⟩:=h.setE hx he { e with ph:=.ended w }
  have hc1:(M.set x (.ins kE (erF { e with ph:=.ended w })))[x]? = some (.ins kE (erF { e with ph:=.ended w })):=get_set hc
  have f1:=zQ (f:="caller") hc1 rfl
  have f2:=zQ (f:="is_lost") hc1 rfl
  have k1:Kp b M (M.set x (.ins kE (erF { e with ph:=.ended w }))):=Kp.set _ _ bx
  generalize hR:zK n (f + 1) R i w = R'
  simp_arith [zp,h.errands,h.er,qo (f:=FT.T.ref) hx,yE,s1,f1]
  generalize hM1:M.set x (.ins kE (erF { e with ph:=.ended w })) = M1 at h1 f1 f2 k1 ⊢
  cases q:e.caller with
  | none=>
   have e1:zK n (f + 1) R i w = R.setE i { e with ph:=.ended w }:=by unfold zK;rw [he];dsimp only;rw [q]
   have i1:∀ M,y8 (clT none) .non M = .ok (.bl false) M:=fun _=>rfl
   rw [← hR,e1]
   have q':({ e with ph:=.ended w }:Er).caller = none:=q
   rw [q] at f1
   simp_arith [i1]
   exact Ok.ret ⟨rfl,k1,l,h1⟩
  | some c=>
   have i1:∀ M,y8 (clT (some c)) .non M = .ok (.bl true) M:=fun _=>rfl
   cases ql:e.lost with
   | true=>
    have e1:zK n (f + 1) R i w = R.setE i { e with ph:=.ended w }:=by unfold zK;rw [he];dsimp only;rw [q];dsimp only;rw [if_pos ql]
    rw [← hR,e1]
    rw [ql] at f2
    simp_arith [i1,f2]
    exact Ok.ret ⟨rfl,k1,l,h1⟩
   | false=>
    have e1:zK n (f + 1) R i w = zau n (zK n f) (R.setE i { e with ph:=.ended w }) c w:=by rw [zK,he];dsimp only;rw [q];dsimp only;rw [if_neg (by rw [ql];simp)]
    rw [← hR,e1]
    rw [ql] at f2
    rw [q] at f1
    have ri1:RI n (R.setE i { e with ph:=.ended w }):=ri.setE he rfl rfl True.intro
    have hei:(R.setE i { e with ph:=.ended w }).es[i]? = some { e with ph:=.ended w }:=by
     show (R.es.set i _)[i]? = _
     rw [Qc,if_pos rfl,if_pos (List.getElem?_eq_some_iff.mp he).1]
    obtain ⟨_,ce,c1,c2,c3⟩:=ri1.cl i _ c hei q
    obtain ⟨m',rfl⟩:∃ m',m = m' + 1:=⟨m - 1,by omega⟩
    simp_arith [i1,f2,f1]
    refine Ok.bind (zjb wn (q1:=(zu kE kR m').1) (q2:=(zu kE kR m').2) (g:=zK n f) hB h1 (sb.setE _ _) ri1 c1 c3 ?_) ?_
    ·exact zif wn f m' (by omega) hB h1 (sb.setE _ _) ri1 c1 (by have c2':ce.house < e.house:=c2;omega)
    ·rintro t M2 ⟨rfl,k2,l2,h2⟩
     try simp_arith [and_self]
     exact Ok.ret ⟨rfl,k1.trans k2,l2,h2⟩
end
inductive Evt where
 | fresh
 | ends (i:Nat) (w:Str)
 | lost (i:Nat)
 | again (i:Nat)
 | up (i:Nat)
noncomputable def evT:Evt->FT.T
 | .fresh=>.tup [.str "fresh"]
 | .ends i w=>.tup [.str "ends",nT i,.str w]
 | .lost i=>.tup [.str "lost",nT i]
 | .again i=>.tup [.str "again",nT i]
 | .up i=>.tup [.str "up",nT i]
noncomputable def Ph.isW:Ph->Bool
 | .works=>true
 | _=>false
noncomputable def Ph.isS:Ph->Bool
 | .stands _ _=>true
 | _=>false
noncomputable def Ph.isE:Ph->Bool
 | .ended _=>true
 | _=>false
noncomputable def Ph.at1:Ph->Nat
 | .waits a _=>a
 | .stands a _=>a
 | _=>0
noncomputable def Ph.at2:Ph->Nat
 | .waits _ t=>t
 | .stands _ t=>t
 | _=>0
noncomputable def Run.er (R:Run) (i:Nat):Er:=R.es.getD i (yn 0 none)
theorem qX (h:R.es[i]? = some e):R.er i = e:=by unfold Run.er;rw [Q7,h];rfl
noncomputable def Net.ask (n:Net) (h k:Nat):Ask:=(n.asks h).getD k ⟨"",0,none,"",false,false⟩
theorem zbu {h k:Nat} {a:Ask} (e:(n.asks h)[k]? = some a):n.ask h k = a:=by unfold Net.ask;rw [Q7,e];rfl
noncomputable def zR (n:Net) (R:Run) (e:Er):Bool:=match e.caller with
 | none=>false
 | some c=>!(e.lost || e.ph.isE) && !(n.ask (R.er c.1).house c.2.1).sure
noncomputable def zJ (n:Net) (e:Er):Bool:=e.ph.isS && ((n.ask e.house e.ph.at1).tries == 0 || decide ((e.ph.at2:Int) < (n.ask e.house e.ph.at1).tries))
noncomputable def qW (n:Net) (R:Run) (e:Er):Bool:=match n.pof (n.ask e.house e.ph.at1) with
 | none=>true
 | some k=>decide (0 < (R.told n k).2)
noncomputable def zao (n:Net) (R:Run) (i:Nat):List Evt:=(if (R.er i).ph.isW = true then [.ends i "bad",.ends i "spent",.ends i "well"] else []) ++ (if zR n R (R.er i) = true then [.lost i] else []) ++ (if zJ n (R.er i) = true then [.again i] else []) ++ (if (R.er i).ph.isS = true then [.up i] else [])
noncomputable def Evt.isA:Evt->Bool
 | .again _=>true
 | _=>false
noncomputable def yX (n:Net) (R:Run) (i:Nat):List Evt:=(zao n R i).filter fun ev=>!ev.isA || qW n R (R.er i)
variable {xs:List FT.T}
section
variable {b r:Nat}
theorem phW (p:Ph) (M:Mem):∃ t ts,phT p = .tup (t :: ts)/\eqA t (.str "works") M = .ok (.bl p.isW) M/\eqA t (.str "stands") M = .ok (.bl p.isS) M/\neA t (.str "stands") M = .ok (.bl (!p.isS)) M/\eqA t (.str "ended") M = .ok (.bl p.isE) M:=by
 cases p with
 | works=>exact ⟨_,_,rfl,rfl,rfl,rfl,rfl⟩
 | waits a t=>exact ⟨_,_,rfl,rfl,rfl,rfl,rfl⟩
 | stands a t=>exact ⟨_,_,rfl,rfl,rfl,rfl,rfl⟩
 | ended w=>exact ⟨_,_,rfl,rfl,rfl,rfl,rfl⟩
theorem phS {p:Ph} (h:p.isS = true):phT p = .tup [.str "stands",nT p.at1,nT p.at2]:=by
 cases p with
 | stands a t=>rfl
 | _=>cases h
theorem zco (h:e.ph.isS = true) (k:zeo n e):e.ph.at1 < (n.asks e.house).length:=by
 unfold zeo at k
 cases q:e.ph with
 | stands a t=>rw [q] at k;exact k.1
 | _=>rw [q] at h;cases h
theorem ziG (h:RunAt kE kR (qg n) b r l M R) (ri:RI n R) (he:R.es[i]? = some e):zaz kE kR [.ref r,nT i] M = .ok (.bl (zR n R e)) M:=by
 unfold zaz zea
 obtain ⟨x,hx,hc⟩:=h.at_e he
 have f1:=zQ (f:="caller") hc rfl
 have f2:=zQ (f:="is_lost") hc rfl
 have f3:=zQ (f:="state") hc rfl
 obtain ⟨t,ts,p1,_,_,_,p4⟩:=phW e.ph M
 rw [p1] at f3
 unfold zR
 cases q:e.caller with
 | none=>
  rw [q] at f1
  have i1:∀ M,isN (clT none) .non M = .ok (.bl true) M:=fun _=>rfl
  simp_arith [zp,h.errands,h.er,qo (f:=FT.T.ref) hx,f1,i1]
 | some c=>
  rw [q] at f1
  have i1:∀ M,isN (.tup [nT c.1,nT c.2.1,nT c.2.2]) .non M = .ok (.bl false) M:=fun _=>rfl
  rw [show clT (some c) = .tup [nT c.1,nT c.2.1,nT c.2.2] from rfl] at f1
  obtain ⟨_,ce,c1,c2,c3⟩:=ri.cl i e c he q
  have ha:(n.asks ce.house)[c.2.1]? = some (n.asks ce.house)[c.2.1]:=Q0 c3
  have haa:atI ((n.asks ce.house).map yu) (c.2.1:Int) = some (.tup [.str (n.asks ce.house)[c.2.1].to,.int (n.asks ce.house)[c.2.1].tries,opS (n.asks ce.house)[c.2.1].purse,.str (n.asks ce.house)[c.2.1].word,.bl (n.asks ce.house)[c.2.1].hears,.bl (n.asks ce.house)[c.2.1].sure]):=qo (f:=yu) ha
  have a5:∀ (t0 t1 t2 t3 t4 t5:FT.T),atI [t0,t1,t2,t3,t4,t5] 5 = some t5:=fun _ _ _ _ _ _=>rfl
  dsimp only
  rw [qX c1,zbu ha]
  cases ql:e.lost with
  | true=>
   rw [ql] at f2
   simp_arith [zp,h.errands,h.er,qo (f:=FT.T.ref) hx,f1,i1,f2]
   rfl
  | false=>
   rw [ql] at f2
   cases qe:e.ph.isE with
   | true=>
    rw [qe] at p4
    simp_arith [zp,h.errands,h.er,qo (f:=FT.T.ref) hx,f1,i1,f2,f3,p4]
    rfl
   | false=>
    rw [qe] at p4
    simp_arith [zp,h.errands,h.er,qo (f:=FT.T.ref) hx,f1,i1,f2,f3,p4,yU h c1 (ri.hs _ _ c1),haa,a5]
    cases (n.asks ce.house)[c.2.1].sure <;> rfl
theorem zgX (h:RunAt kE kR (qg n) b r l M R) (ri:RI n R) (he:R.es[i]? = some e):y6 kE kR [.ref r,nT i] M = .ok (.bl (zJ n e)) M:=by
 unfold y6 zc1
 obtain ⟨x,hx,hc⟩:=h.at_e he
 have f3:=zQ (f:="state") hc rfl
 unfold zJ
 cases qs:e.ph.isS with
 | false=>
  obtain ⟨t,ts,p1,_,_,p3,_⟩:=phW e.ph M
  rw [p1] at f3
  rw [qs] at p3
  simp_arith [zp,h.errands,h.er,qo (f:=FT.T.ref) hx,f3,p3]
  rfl
 | true=>
  rw [phS qs] at f3
  have hl:=zco qs (ri.ph _ _ he)
  have ha:(n.asks e.house)[e.ph.at1]? = some (n.asks e.house)[e.ph.at1]:=Q0 hl
  have haa:atI ((n.asks e.house).map yu) (e.ph.at1:Int) = some (.tup [.str (n.asks e.house)[e.ph.at1].to,.int (n.asks e.house)[e.ph.at1].tries,opS (n.asks e.house)[e.ph.at1].purse,.str (n.asks e.house)[e.ph.at1].word,.bl (n.asks e.house)[e.ph.at1].hears,.bl (n.asks e.house)[e.ph.at1].sure]):=qo (f:=yu) ha
  rw [zbu ha]
  have ns:∀ M,neA (.str "stands") (.str "stands") M = .ok (.bl false) M:=fun _=>rfl
  cases q0:(n.asks e.house)[e.ph.at1].tries == 0 with
  | true=>
   simp_arith [zp,h.errands,h.er,qo (f:=FT.T.ref) hx,f3,ns,yU h he (ri.hs _ _ he),haa,q0]
   rfl
  | false=>
   simp_arith [zp,h.errands,h.er,qo (f:=FT.T.ref) hx,f3,ns,yU h he (ri.hs _ _ he),haa,q0]
   rfl
theorem zn7 (h:RunAt kE kR (qg n) b r l M R) (wn:WN n) (ri:RI n R) (he:R.es[i]? = some e) (qs:e.ph.isS = true):zbf kE kR [.ref r,nT i] M = .ok (.bl (qW n R e)) M:=by
 unfold zbf zfL
 obtain ⟨x,hx,hc⟩:=h.at_e he
 have f3:=zQ (f:="state") hc rfl
 rw [phS qs] at f3
 have hl:=zco qs (ri.ph _ _ he)
 have ha:(n.asks e.house)[e.ph.at1]? = some (n.asks e.house)[e.ph.at1]:=Q0 hl
 have haa:atI ((n.asks e.house).map yu) (e.ph.at1:Int) = some (yu (n.asks e.house)[e.ph.at1]):=qo (f:=yu) ha
 have w:=wn.as e.house _ (Qa ha)
 have po:=zdp h wn w
 unfold qW
 rw [zbu ha]
 cases q:n.pof (n.asks e.house)[e.ph.at1] with
 | none=>
  rw [q] at po
  have i1:∀ M,isN (onT none) .non M = .ok (.bl true) M:=fun _=>rfl
  simp_arith [zp,h.errands,h.er,qo (f:=FT.T.ref) hx,f3,yU h he (ri.hs _ _ he),haa,po,i1]
 | some k=>
  rw [q] at po
  have i1:∀ M,isN (onT (some k)) .non M = .ok (.bl false) M:=fun _=>rfl
  have te:=zmF h wn ri.pl (w.plt q)
  rw [show (nT k:FT.T) = onT (some k) from rfl] at te
  simp_arith [zp,h.errands,h.er,qo (f:=FT.T.ref) hx,f3,yU h he (ri.hs _ _ he),haa,po,i1,te]
theorem zjk {a:Nat} {ys:List FT.T} (h:M[a]? = some (.lst xs)) (hl:xs.length + ys.length < 1000000):zew (.ref a) [.lst ys] M = .ok .non (M.set a (.lst (xs ++ ys))):=by
 unfold zew
 simp only [h,if_pos hl]
theorem zgF {a:Nat} (h:M[a]? = some (.lst xs)):zbw (.ref a) M = true:=by
 unfold zbw zq
 simp only [h]
 rfl
theorem ziK (h:RunAt kE kR (qg n) b r l M R) (ri:RI n R) (he:R.es[i]? = some e):zah kE kR [.ref r,nT i] M = .ok (.lst ((zao n R i).map evT)) M:=by
 have key:Ok (zbl kE kR [.ref r,nT i] M) fun t M'=>t = .ref M.length/\M' = M ++ [.lst ((zao n R i).map evT)]:=by
  refine yy rfl ?_
  unfold zcF
  obtain ⟨x,hx,hc⟩:=h.at_e he
  have f3:=zQ (f:="state") hc rfl
  obtain ⟨t,ts,p1,p2,p3,_,_⟩:=phW e.ph M
  have p2':∀ M',eqA t (.str "works") M' = .ok (.bl e.ph.isW) M':=fun M'=>by
   obtain ⟨t',ts',q1,q2,_⟩:=phW e.ph M'
   rw [p1] at q1;cases q1;exact q2
  have p3':∀ M',eqA t (.str "stands") M' = .ok (.bl e.ph.isS) M':=fun M'=>by
   obtain ⟨t',ts',q1,_,q2,_⟩:=phW e.ph M'
   rw [p1] at q1;cases q1;exact q2
  rw [p1] at f3
  have ml:=fun cs=>ziG (h.app cs) ri he
  have tl:=fun cs=>zgX (h.app cs) ri he
  have lc:∀ (ys:List FT.T),yD (.ref M.length) (M ++ [.lst ys]) = .ok (.ref M.length) (M ++ [.lst ys]):=fun ys=>zF yM
  have ap:∀ (ys:List FT.T) (y:FT.T),ys.length < 100->zN (.ref M.length) [y] (M ++ [.lst ys]) = .ok .non (M ++ [.lst (ys ++ [y])]):=fun ys y hl=>by
   rw [zP yM (by rw [sizeLine_eq];omega),set_append_right _ _ (Q3 _),Qu]
   rfl
  have ex:∀ (zs:List FT.T),zs.length < 100->zew (.ref M.length) [.lst zs] (M ++ [.lst []]) = .ok .non (M ++ [.lst zs]):=fun zs hl=>by
   rw [zjk yM (by simp;omega),set_append_right _ _ (Q3 _),Qu]
   rfl
  have il:∀ (ys:List FT.T),zbw (.ref M.length) (M ++ [.lst ys]) = true:=fun ys=>zgF yM
  unfold zao
  rw [qX he]
  cases qw:e.ph.isW <;> cases qm:zR n R e <;> cases qt:zJ n e <;> cases qs:e.ph.isS <;> (simp_arith [zp,h.errands,h.er,qo (f:=FT.T.ref) hx,f3,p2',p3',qw,qs,ml,qm,tl,qt,zaA,il,ex,lc,ap,Nat.reduceLT];exact Ok.ret ⟨rfl,rfl⟩)
 obtain ⟨t,M',e1,rfl,rfl⟩:=key
 unfold zah zev
 rw [e1]
 dsimp only
 rw [yM]
 dsimp only
 rw [if_pos]
 refine ⟨by simp,Q3 _,fun y hy=>?_⟩
 obtain ⟨ev,_,rfl⟩:=mem_map.mp hy
 cases ev <;> exact .tup fun z hz=>by
  simp only [mem_cons,not_mem_nil,or_false] at hz
  rcases hz with rfl | rfl | rfl <;> first | exact .str _ | exact .int _
end
noncomputable def Evt.num:Evt->Nat
 | .fresh=>0
 | .ends i _=>i
 | .lost i=>i
 | .again i=>i
 | .up i=>i
noncomputable def Evt.isF:Evt->Bool
 | .fresh=>true
 | _=>false
variable {ev:Evt}
section
variable {b r:Nat}
theorem zkJ (h:ev ∈ zao n R i) (ha:ev.isA = true):(R.er i).ph.isS = true:=by
 unfold zao at h
 cases ev with
 | again j=>
  simp only [mem_append] at h
  rcases h with ((h | h) | h) | h
  ·split at h <;> simp at h
  ·split at h <;> simp at h
  ·split at h
   ·rename_i q
    unfold zJ at q
    rw [Qs] at q
    exact q.1
   ·simp at h
  ·split at h <;> simp at h
 | _=>cases ha
theorem zn1 (ev:Evt):∃ s ts,evT ev = .tup (.str s :: ts)/\(s == ("again":Str)) = ev.isA/\(s == ("fresh":Str)) = ev.isF:=by
 cases ev <;> exact ⟨_,_,rfl,rfl,rfl⟩
theorem zjr (i:Nat):(zao n R i).length<=10:=by
 unfold zao
 rw [Qn,Qn,Qn]
 have:∀ (c:Bool) (xs:List Evt),xs.length<=3->(if c = true then xs else []).length<=3:=fun c xs h=>by cases c <;> simp [h]
 have h1:=this (R.er i).ph.isW [.ends i "bad",.ends i "spent",.ends i "well"] (by simp)
 have h2:(if zR n R (R.er i) = true then [Evt.lost i] else []).length<=1:=by split <;> simp
 have h3:(if zJ n (R.er i) = true then [Evt.again i] else []).length<=1:=by split <;> simp
 have h4:(if (R.er i).ph.isS = true then [Evt.up i] else []).length<=1:=by split <;> simp
 omega
theorem zia (h:RunAt kE kR (qg n) b r l M R) (wn:WN n) (ri:RI n R) (he:R.es[i]? = some e):zae kE kR [.ref r,nT i] M = .ok (.lst ((yX n R i).map evT)) M:=by
 unfold zae ze0
 have c:qA (yr 0) (zb7 (yo (eOp neA (eOp ixT (yb 0) (eC (.int 0))) (eC (.str "again")))) (yo (yf (zbf kE kR) (zb (yb 1) (zb (yb 2) ze))))) (yb 0) ((zao n R i).map evT) [none,some (.ref r),some (nT i)] M [] = .ok ((yX n R i).map evT) M:=
  Ok.filt (r:=evT) (fun σ=>∃ o,σ = [o,some (.ref r),some (nT i)]) _ evT ⟨_,rfl⟩ (Qj (zjr i) (by decide)) (by
   rintro ev σ hev ⟨o,rfl⟩
   refine ⟨[some (evT ev),some (.ref r),some (nT i)],rfl,⟨_,rfl⟩,?_,fun _=>rfl⟩
   obtain ⟨s,ts,h1,h2,_⟩:=zn1 ev
   rw [h1]
   cases q:ev.isA with
   | false=>
    rw [q] at h2
    simp_arith [zeI,h2]
    rfl
   | true=>
    rw [q] at h2
    have hs:e.ph.isS = true:=by rw [← qX he];exact zkJ hev q
    simp_arith [zeI,h2,zn7 h wn ri he hs]
    rw [qX he]
    rfl)
 simp_arith [ziK h ri he,c]
theorem zpY (M:Mem) (x y:Evt):∃ q,eqD M 20 (evT x) (evT y) = some q/\(x = y->q = true):=by
 have hs:∀ w:Str,eqS (.str w) (.str w) = true:=fun w=>by show (w == w) = true;simp
 have hi:∀ i:Int,eqS (.int i) (.int i) = true:=fun w=>by show (w == w) = true;simp
 cases x <;> cases y <;> refine ⟨_,rfl,fun z=>?_⟩ <;> first | (cases z) | skip
 all_goals first | rfl | (simp [hs,hi]) | skip
theorem zps (M:Mem) {x:Evt}:∀ {ys:List Evt},x ∈ ys->∃ bs,zdd M (evT x) (ys.map evT) = some bs/\bs.any id = true:=by
 intro ys
 have all:∀ ys:List Evt,∃ bs,zdd M (evT x) (ys.map evT) = some bs/\(x ∈ ys->bs.any id = true):=by
  intro ys
  induction ys with
  | nil=>exact ⟨[],rfl,fun h=>by cases h⟩
  | cons y ys ih=>
   obtain ⟨bs,h1,h2⟩:=ih
   obtain ⟨q,q1,q2⟩:=zpY M y x
   refine ⟨q :: bs,?_,fun h=>?_⟩
   ·rw [map_cons]
    unfold zdd
    rw [q1,h1]
   ·rcases mem_cons.mp h with rfl | h
    ·rw [any_cons,q2 rfl];rfl
    ·rw [any_cons,h2 h,Bool.or_true]
 intro h
 obtain ⟨bs,h1,h2⟩:=all ys
 exact ⟨bs,h1,h2 h⟩
theorem zp7 (h:RunAt kE kR (qg n) b r l M R) (wn:WN n) (ri:RI n R) (hB:R.es.length < 1000000) (hf:ev.isF = false) (he:R.es[ev.num]? = some e) (hm:ev ∈ yX n R ev.num):qP kE kR [.ref r,evT ev] M = .ok .non M:=by
 have hl:=(List.getElem?_eq_some_iff.mp he).1
 have cc:zaw kE kR [.ref r,evT ev] M = .ok (.bl true) M:=by
  unfold zaw zd0
  obtain ⟨bs,b1,b2⟩:=zps M hm
  have iN:inN (evT ev) (.lst ((yX n R ev.num).map evT)) M = .ok (.bl true) M:=by
   unfold inN yS zq
   simp only [b1,b2]
  have ii:∀ (xs:List FT.T) M,zan (.tup xs) (.ty "tuple") M = .ok (.bl true) M:=fun _ _=>rfl
  have ln:yx (.ref l.a) M = .ok (nT R.es.length) M:=by
   unfold yx yS zq
   simp only [h.er]
   simp [h.el]
  have wi:zbp kE kR [nT ev.num,.int 0,.int ((R.es.length:Int) - 1)] M = .ok (.bl true) M:=by
   have wh:zbV kE kR [nT ev.num] M = .ok (.bl true) M:=by
    unfold zbV zfK
    have h1:zan (nT ev.num) (.ty "int") M = .ok (.bl true) M:=rfl
    have h2:zan (nT ev.num) (.ty "bool") M = .ok (.bl false) M:=rfl
    simp_arith [h1,h2]
   unfold zbp zeZ
   have d1:decide ((0:Int)<=(ev.num:Int)) = true:=Qv (by omega)
   have d2:decide ((ev.num:Int)<=(R.es.length:Int) - 1) = true:=Qv (by omega)
   simp_arith [wh,d1,d2]
  have ea:=zia h wn ri he
  have e0:∃ s ts,evT ev = .tup (.str s :: nT ev.num :: ts)/\eqA (evT ev) (.tup [.str "fresh"]) M = .ok (.bl false) M:=by
   cases ev with
   | fresh=>cases hf
   | ends i w=>exact ⟨_,_,rfl,rfl⟩
   | lost i=>exact ⟨_,_,rfl,rfl⟩
   | again i=>exact ⟨_,_,rfl,rfl⟩
   | up i=>exact ⟨_,_,rfl,rfl⟩
  obtain ⟨s,ts,e1,e2⟩:=e0
  rw [e1] at e2 iN ⊢
  have d3:decide (((FT.T.str s :: nT ev.num :: ts).length:Int) < 2) = false:=Qw (by simp;omega)
  simp only [Qp] at d3
  simp_arith [e2,ii,d3,zp,h.errands,ln,wi,ea,iN]
 unfold qP zcE
 simp_arith [cc]
theorem zk9 (h:RunAt kE kR (qg n) b r l M R):qP kE kR [.ref r,evT .fresh] M = .ok .non M:=by
 have cc:zaw kE kR [.ref r,evT .fresh] M = .ok (.bl true) M:=by
  unfold zaw zd0
  have e2:eqA (evT .fresh) (.tup [.str "fresh"]) M = .ok (.bl true) M:=rfl
  simp_arith [e2]
 unfold qP zcE
 simp_arith [cc]
end
noncomputable def zjA (R:Run) (k:Nat):Run:={ R with pays:=R.pays ++ [(R.es.length,k,R.taken.getD k 0)],taken:=R.taken.set k (R.taken.getD k 0 + 1) }
noncomputable def takeO (R:Run) (o:Option Nat):Run:=o.elim R (zjA R)
noncomputable def zc6 (n:Net) (R:Run) (i:Nat):Run:=y4 n (qC n 4) (takeO R (n.pof (n.ask (R.er i).house (R.er i).ph.at1))) i (R.er i).ph.at1 ((R.er i).ph.at2 + 1)
noncomputable def zcJ (n:Net) (R:Run) (i:Nat):Run:=(R.er i).caller.elim R fun c=>zau n (zK n 4) (R.setE i { R.er i with lost:=true }) c "bad"
noncomputable def upR (n:Net) (R:Run) (i:Nat):Run:=zK n 4 R i (n.ask (R.er i).house (R.er i).ph.at1).word
noncomputable def doR (n:Net) (R:Run):Evt->Run
 | .fresh=>qC n 4 R 0 none
 | .ends i w=>zK n 4 R i w
 | .lost i=>zcJ n R i
 | .again i=>zc6 n R i
 | .up i=>upR n R i
noncomputable def Run.tick (R:Run):Run:={ R with came:=R.came + 1 }
noncomputable def zag (n:Net) (R:Run) (ev:Evt):Run:=(doR n R ev).tick
section
variable {b r:Nat}
theorem SB.takeO (sb:SB B R) (o:Option Nat):SB (B + 1) (takeO R o):=by
 cases o with
 | none=>exact sb.mono (by omega)
 | some k=>
  refine ⟨Nat.le_succ_of_le sb.es,fun u hu=>Nat.le_succ_of_le (sb.pu u hu),?_,fun v hv=>?_⟩
  ·show (R.pays ++ _).length<=_
   rw [Qn,Qt]
   have:=sb.py
   omega
  ·rcases mem_set hv with hv | rfl
   ·exact Nat.le_succ_of_le (sb.tk v hv)
   ·by_cases hk:k < R.taken.length
    ·have:=sb.tk (R.taken.getD k 0) (by rw [Q7,Q0 hk];exact getElem_mem _)
     omega
    ·rw [Q7,getElem?_eq_none (by omega)]
     simp
theorem ze7 (R:Run) (o:Option Nat):(takeO R o).es = R.es/\(takeO R o).puts = R.puts/\(takeO R o).came = R.came:=by cases o <;> exact ⟨rfl,rfl,rfl⟩
theorem zmG (h:RunAt kE kR (qg n) b r l M R) (hB:B < 90000) (sb:SB B R) (hp:R.puts.length = n.ps.length) {k:Nat} (hk:k < n.ps.length):Ok (zcm kE kR [.ref r,nT k] M) (Lv kE kR n b r (zjA R k) M):=by
 refine yy rfl ?_
 unfold zeX
 have hkt:k < R.taken.length:=by have:=h.tl;omega
 have ht:R.taken[k]? = some R.taken[k]:=Q0 hkt
 have gd:R.taken.getD k 0 = R.taken[k]:=by rw [Q7,ht];rfl
 have ln:yx (.ref l.a) M = .ok (nT R.es.length) M:=by
  unfold yx yS zq
  simp only [h.er]
  simp [h.el]
 obtain ⟨h1,b1⟩:=h.setPays (R.pays ++ [(R.es.length,k,R.taken[k])])
 have ap:=zP (t:=.tup [nT R.es.length,nT k,nT R.taken[k]]) h.py (by rw [Qh,sizeLine_eq];have:=sb.py;omega)
 rw [show R.pays.map zbA ++ [.tup [nT R.es.length,nT k,nT R.taken[k]]] = (R.pays ++ [(R.es.length,k,R.taken[k])]).map zbA from by simp [zbA]] at ap
 simp_arith [zp,h.payF,zF h.py,h.errands,ln,h.takenF,h.tk,qo (f:=nT) ht,ap]
 generalize hM1:M.set l.q (.lst ((R.pays ++ [(R.es.length,k,R.taken[k])]).map zbA)) = M1 at h1 ⊢
 have k1:Kp b M M1:=by rw [← hM1];exact Kp.set _ _ b1
 obtain ⟨h2,b2⟩:=h1.setTaken (R.taken.set k (R.taken[k] + 1)) (by simp)
 have hix:ixN (R.taken.map nT).length (k:Int) = some k:=by
  rw [zpp (by rw [Qh];omega),Int.toNat_natCast]
 have tk1:M1[l.t]? = some (.lst (R.taken.map nT)):=h1.tk
 have ms:(R.taken.map nT).set k (.int ((R.taken[k]:Int) + 1)) = (R.taken.set k (R.taken[k] + 1)).map nT:=by
  rw [List.map_set];rfl
 have ad:∀ i j M,zdv (.int i) (.int j) M = .ok (.int (i + j)) M:=fun _ _ _=>rfl
 unfold zg4 getL
 simp_arith [zp,h1.takenF,zaa tk1,qo (f:=nT) ht,ad,tk1,hix,ms]
 refine Ok.ret ⟨rfl,k1.trans (Kp.set _ _ b2),l,?_⟩
 unfold zjA
 rw [gd]
 exact h2
theorem zqO (h:RunAt kE kR (qg n) b r l M R):b<=M.length:=Qj (h.lo _ (.head _)) (Nat.le_of_lt (yA h.run))
theorem zml (h:RunAt kE kR (qg n) b r l M R) (wn:WN n) (hB:B + 1 < 90000) (sb:SB B R) (ri:RI n R) (he:R.es[i]? = some e) (hs:e.ph.isS = true):Ok (zcl kE kR [.ref r,nT i] M) (Lv kE kR n b r (zc6 n R i) M):=by
 refine yy rfl ?_
 unfold zeW
 have hl:=zco hs (ri.ph _ _ he)
 have ha:(n.asks e.house)[e.ph.at1]? = some (n.asks e.house)[e.ph.at1]:=Q0 hl
 have haa:atI ((n.asks e.house).map yu) (e.ph.at1:Int) = some (yu (n.asks e.house)[e.ph.at1]):=qo (f:=yu) ha
 have w:=wn.as e.house _ (Qa ha)
 have po:=zdp h wn w
 obtain ⟨x,hx,hc⟩:=h.at_e he
 have f3:=zQ (f:="state") hc rfl
 rw [phS hs] at f3
 unfold zc6
 rw [qX he,zbu ha]
 simp_arith [zp,h.errands,h.er,qo (f:=FT.T.ref) hx,f3,yU h he (ri.hs _ _ he),haa,po]
 have go:∀ (l1:Lay) (M1:Mem) (o:Option Nat),Kp b M M1->RunAt kE kR (qg n) b r l1 M1 (takeO R o)->Ok ((zaf kE kR [.ref r,nT i,nT e.ph.at1,.int ((e.ph.at2:Int) + 1)] M1).bind fun _ M=>.ok FT.T.non M) (Lv kE kR n b r (y4 n (qC n 4) (takeO R o) i e.ph.at1 (e.ph.at2 + 1)) M):=by
  intro l1 M1 o k1 h1
  have te:=ze7 R o
  refine Ok.bind (ziR wn (B:=B + 1) (tr:=e.ph.at2 + 1) hB h1 (sb.takeO o) (by rw [te.2.1];exact ri.pl) (by rw [te.1];exact he) (ri.hs _ _ he) ha) ?_
  rintro t M2 ⟨rfl,k2,l2,h2⟩
  exact Ok.ret ⟨rfl,k1.trans k2,l2,h2⟩
 cases q:n.pof (n.asks e.house)[e.ph.at1] with
 | none=>
  have i1:∀ M,y8 (onT none) .non M = .ok (.bl false) M:=fun _=>rfl
  simp_arith [i1]
  exact go l M none (Kp.refl _ _) h
 | some k=>
  have i1:∀ M,y8 (onT (some k)) .non M = .ok (.bl true) M:=fun _=>rfl
  simp_arith [i1]
  rw [show onT (some k) = nT k from rfl]
  refine Ok.bind (zmG h (by omega) sb ri.pl (w.plt q)) ?_
  rintro t M1 ⟨rfl,k1,l1,h1⟩
  try simp_arith [and_self]
  exact go l1 M1 (some k) k1 h1
theorem zjn (h:RunAt kE kR (qg n) b r l M R) (wn:WN n) (hB:B < 90000) (sb:SB B R) (ri:RI n R) (he:R.es[i]? = some e) (w:Str):Ok (zaW kE kR [.ref r,nT i,.str w] M) (Lv kE kR n b r (zK n 4 R i w) M):=
 zif wn 4 12 (by omega) hB h sb ri he (by have:=ri.hs _ _ he;have:=wn.hl;omega)
theorem zqd (h:RunAt kE kR (qg n) b r l M R) (wn:WN n) (hB:B < 90000) (sb:SB B R) (ri:RI n R) (he:R.es[i]? = some e) (hs:e.ph.isS = true):Ok (zeN kE kR [.ref r,nT i] M) (Lv kE kR n b r (upR n R i) M):=by
 refine yy rfl ?_
 unfold zjh
 have hl:=zco hs (ri.ph _ _ he)
 have ha:(n.asks e.house)[e.ph.at1]? = some (n.asks e.house)[e.ph.at1]:=Q0 hl
 have haa:atI ((n.asks e.house).map yu) (e.ph.at1:Int) = some (.tup [.str (n.asks e.house)[e.ph.at1].to,.int (n.asks e.house)[e.ph.at1].tries,opS (n.asks e.house)[e.ph.at1].purse,.str (n.asks e.house)[e.ph.at1].word,.bl (n.asks e.house)[e.ph.at1].hears,.bl (n.asks e.house)[e.ph.at1].sure]):=qo (f:=yu) ha
 obtain ⟨x,hx,hc⟩:=h.at_e he
 have f3:=zQ (f:="state") hc rfl
 rw [phS hs] at f3
 unfold upR
 rw [qX he,zbu ha]
 simp_arith [zp,h.errands,h.er,qo (f:=FT.T.ref) hx,f3,yU h he (ri.hs _ _ he),haa]
 refine Ok.bind (zjn h wn hB sb ri he _) ?_
 rintro t M2 ⟨rfl,k2,l2,h2⟩
 try simp_arith [and_self]
 exact Ok.ret ⟨rfl,k2,l2,h2⟩
theorem znt (h:RunAt kE kR (qg n) b r l M R) (wn:WN n) (hB:B < 90000) (sb:SB B R) (ri:RI n R) (he:R.es[i]? = some e) {c:Nat × Nat × Nat} (hq:e.caller = some c):Ok (zfO kE kR [.ref r,nT i] M) (Lv kE kR n b r (zcJ n R i) M):=by
 refine yy rfl ?_
 unfold zkS
 obtain ⟨x,hx,hc⟩:=h.at_e he
 have s1:=za4 (f:="is_lost") (y:=.bl true) (fs':=erF { e with lost:=true }) hc rfl (by simp [erF])
 obtain ⟨h1,bx⟩:=h.setE hx he { e with lost:=true }
 have hc1:(M.set x (.ins kE (erF { e with lost:=true })))[x]? = some (.ins kE (erF { e with lost:=true })):=get_set hc
 have f1:=zQ (f:="caller") hc1 rfl
 have k1:Kp b M (M.set x (.ins kE (erF { e with lost:=true }))):=Kp.set _ _ bx
 have e0:zcJ n R i = zau n (zK n 4) (R.setE i { e with lost:=true }) c "bad":=by
  have el:∀ (o:Option (Nat × Nat × Nat)) (f:Nat × Nat × Nat->Run),o = some c->o.elim R f = f c:=fun o f h=>by rw [h];rfl
  unfold zcJ
  rw [qX he]
  exact el _ _ hq
 rw [e0]
 simp_arith [zp,h.errands,h.er,qo (f:=FT.T.ref) hx,yE,s1]
 generalize hM1:M.set x (.ins kE (erF { e with lost:=true })) = M1 at h1 f1 k1 ⊢
 replace f1:zaJ [kE] "caller" (.ref x) M1 = .ok (clT e.caller) M1:=f1
 rw [hq] at f1
 have ri1:RI n (R.setE i { e with lost:=true }):=ri.setE he rfl rfl (by have:=ri.ph _ _ he;unfold zeo at this ⊢;exact this)
 have hei:(R.setE i { e with lost:=true }).es[i]? = some { e with lost:=true }:=by
  show (R.es.set i _)[i]? = _
  rw [Qc,if_pos rfl,if_pos (List.getElem?_eq_some_iff.mp he).1]
 obtain ⟨_,ce,c1,c2,c3⟩:=ri1.cl i _ c hei hq
 simp_arith [f1]
 refine Ok.bind (show Ok (zh9 kE kR [.ref r,clT (some c),.str "bad"] M1) (Lv kE kR n b r (zau n (zK n 4) (R.setE i { e with lost:=true }) c "bad") M1) from ?_) ?_
 ·show Ok (qi 3 6 (zet kE kR (zu kE kR 11).1 (zu kE kR 11).2) [.ref r,clT (some c),.str "bad"] M1) _
  refine zjb wn hB h1 (sb.setE _ _) ri1 c1 c3 ?_
  exact zif wn 4 11 (by omega) hB h1 (sb.setE _ _) ri1 c1 (by have:=ri1.hs _ _ c1;have:=wn.hl;omega)
 ·rintro t M2 ⟨rfl,k2,l2,h2⟩
  try simp_arith [and_self]
  exact Ok.ret ⟨rfl,k1.trans k2,l2,h2⟩
noncomputable def zqc (R:Run):Evt->Prop
 | .fresh=>True
 | .ends i _=>∃ e,R.es[i]? = some e
 | .lost i=>∃ e c,R.es[i]? = some e/\e.caller = some c
 | .again i=>∃ e,R.es[i]? = some e/\e.ph.isS = true
 | .up i=>∃ e,R.es[i]? = some e/\e.ph.isS = true
theorem zpc (h:RunAt kE kR (qg n) b r l M R) (wn:WN n) (hB:B + 10 < 90000) (sb:SB B R) (ri:RI n R) (ho:zqc R ev):Ok (zbU kE kR [.ref r,evT ev] M) (Lv kE kR n b r (zag n R ev) M):=by
 refine yy rfl ?_
 unfold zfI
 have fin:∀ (M1:Mem),Lv kE kR n b r (doR n R ev) M .non M1->Ok ((zfy [kR] "came" (yb 0) 1 [some (.ref r),some (evT ev)] M1).bind zb9) (Lv kE kR n b r (zag n R ev) M):=by
  rintro M1 ⟨_,k1,l1,h1⟩
  obtain ⟨h2,b2⟩:=h1.setCame ((doR n R ev).came + 1)
  have s1:=za4 (f:="came") (y:=.int (((doR n R ev).came:Int) + 1)) (fs':=zb8 (qg n) l1 { (doR n R ev) with came:=(doR n R ev).came + 1 }) h1.run rfl (by simp [zb8])
  have ad:∀ i j M,zdv (.int i) (.int j) M = .ok (.int (i + j)) M:=fun _ _ _=>rfl
  simp_arith [zfy,h1.came,ad,s1]
  exact Ok.ret ⟨rfl,k1.trans (Kp.set _ _ b2),l1,h2⟩
 cases ev with
 | fresh=>
  have q:∀ M,eqA (.str "fresh") (.str "fresh") M = .ok (.bl true) M:=fun _=>rfl
  rw [show evT .fresh = .tup [.str "fresh"] from rfl] at fin ⊢
  simp_arith [q]
  refine Ok.bind (show Ok (zce kE kR [.ref r,.int 0,.non] M) (Lv kE kR n b r (qC n 4 R 0 none) M) from ziu wn 4 12 (by omega) (B:=B) (c:=none) (h:=0) (by omega) h (zqO h) sb ri.pl wn.h1 (by have:=wn.hl;omega)) ?_
  rintro t M1 ⟨rfl,k1,l1,h1⟩
  have:=fin M1 ⟨rfl,k1,l1,h1⟩
  try simp_arith [and_self]
  exact this
 | ends i w=>
  obtain ⟨e,he⟩:=ho
  have q0:∀ M,eqA (.str "ends") (.str "fresh") M = .ok (.bl false) M:=fun _=>rfl
  have q:∀ M,eqA (.str "ends") (.str "ends") M = .ok (.bl true) M:=fun _=>rfl
  rw [show evT (.ends i w) = .tup [.str "ends",nT i,.str w] from rfl] at fin ⊢
  simp_arith [q0,q]
  refine Ok.bind (zjn h wn (by omega) sb ri he w) ?_
  rintro t M1 ⟨rfl,k1,l1,h1⟩
  have:=fin M1 ⟨rfl,k1,l1,h1⟩
  try simp_arith [and_self]
  exact this
 | lost i=>
  obtain ⟨e,c,he,hq⟩:=ho
  have q0:∀ M,eqA (.str "lost") (.str "fresh") M = .ok (.bl false) M:=fun _=>rfl
  have q1:∀ M,eqA (.str "lost") (.str "ends") M = .ok (.bl false) M:=fun _=>rfl
  have q:∀ M,eqA (.str "lost") (.str "lost") M = .ok (.bl true) M:=fun _=>rfl
  rw [show evT (.lost i) = .tup [.str "lost",nT i] from rfl] at fin ⊢
  simp_arith [q0,q1,q]
  refine Ok.bind (znt h wn (by omega) sb ri he hq) ?_
  rintro t M1 ⟨rfl,k1,l1,h1⟩
  have:=fin M1 ⟨rfl,k1,l1,h1⟩
  try simp_arith [and_self]
  exact this
 | again i=>
  obtain ⟨e,he,hs⟩:=ho
  have q0:∀ M,eqA (.str "again") (.str "fresh") M = .ok (.bl false) M:=fun _=>rfl
  have q1:∀ M,eqA (.str "again") (.str "ends") M = .ok (.bl false) M:=fun _=>rfl
  have q2:∀ M,eqA (.str "again") (.str "lost") M = .ok (.bl false) M:=fun _=>rfl
  have q:∀ M,eqA (.str "again") (.str "again") M = .ok (.bl true) M:=fun _=>rfl
  rw [show evT (.again i) = .tup [.str "again",nT i] from rfl] at fin ⊢
  simp_arith [q0,q1,q2,q]
  refine Ok.bind (zml h wn (by omega) sb ri he hs) ?_
  rintro t M1 ⟨rfl,k1,l1,h1⟩
  have:=fin M1 ⟨rfl,k1,l1,h1⟩
  try simp_arith [and_self]
  exact this
 | up i=>
  obtain ⟨e,he,hs⟩:=ho
  have q0:∀ M,eqA (.str "up") (.str "fresh") M = .ok (.bl false) M:=fun _=>rfl
  have q1:∀ M,eqA (.str "up") (.str "ends") M = .ok (.bl false) M:=fun _=>rfl
  have q2:∀ M,eqA (.str "up") (.str "lost") M = .ok (.bl false) M:=fun _=>rfl
  have q:∀ M,eqA (.str "up") (.str "again") M = .ok (.bl false) M:=fun _=>rfl
  rw [show evT (.up i) = .tup [.str "up",nT i] from rfl] at fin ⊢
  simp_arith [q0,q1,q2,q]
  refine Ok.bind (zqd h wn (by omega) sb ri he hs) ?_
  rintro t M1 ⟨rfl,k1,l1,h1⟩
  have:=fin M1 ⟨rfl,k1,l1,h1⟩
  try simp_arith [and_self]
  exact this
end
variable {n:Net}
def lv (e:Er):Prop:=e.lost = false/\e.ph.isE = false
def WT (R:Run):Prop:=∀ (i:Nat) (e:Er) (c:Nat × Nat × Nat),R.es[i]? = some e->e.caller = some c->lv e->∃ ce,R.es[c.1]? = some ce/\ce.ph = .waits c.2.1 c.2.2/\ce.asked = some i
def NL (R:Run) (k:Nat):Prop:=∀ (i:Nat) (e:Er) (c:Nat × Nat × Nat),R.es[i]? = some e->e.caller = some c->c.1 = k->¬ lv e
def QS (R R':Run) (k:Nat):Prop:=∀ (i:Nat) (e':Er),R'.es[i]? = some e'->e'.ph.isS = true->(∃ e,R.es[i]? = some e/\e.ph = e'.ph/\e.stood = e'.stood)\/(e'.stood = some k/\∃ e a t,R.es[i]? = some e/\e.ph = .waits a t)
structure Inv' (n:Net) (R:Run):Prop where
 ri:RI n R
 wt:WT R
theorem zc0 (he:R.es[i]? = some e) (e':Er):(R.setE i e').es[i]? = some e':=by
 show (R.es.set i _)[i]? = _
 rw [Qc,if_pos rfl,if_pos (List.getElem?_eq_some_iff.mp he).1]
theorem zdZ (h:j ≠ i):(R.setE i e').es[j]? = R.es[j]?:=by
 show (R.es.set i _)[j]? = _
 rw [Qc,if_neg (Ne.symm h)]
theorem WT.setE (h:WT R) (he:R.es[i]? = some e) (h2:e'.caller = e.caller) (hv:lv e'->lv e) (nl:NL R i):WT (R.setE i e'):=by
 intro j q c hq hc lq
 have key:∀ q0,R.es[j]? = some q0->q0.caller = some c->lv q0->∃ ce,(R.setE i e').es[c.1]? = some ce/\ce.ph = .waits c.2.1 c.2.2/\ce.asked = some j:=fun q0 h0 hc0 l0=>by
  obtain ⟨ce,c1,c2,c3⟩:=h j q0 c h0 hc0 l0
  have:c.1 ≠ i:=fun z=>nl j q0 c h0 hc0 z l0
  exact ⟨ce,by rw [zdZ this];exact c1,c2,c3⟩
 rcases zak hq with ⟨rfl,rfl,_⟩ | ⟨_,hq⟩
 ·exact key e he (by rw [← h2];exact hc) (hv lq)
 ·exact key q hq hc lq
theorem RI.push (h:RI n R) {hh:Nat} {c:Option (Nat × Nat × Nat)} (h1:hh < n.hs.length) (hc:∀ c',c = some c'->∃ ce,R.es[c'.1]? = some ce/\ce.house < hh/\c'.2.1 < (n.asks ce.house).length):RI n (R.push (yn hh c)):=by
 have old:∀ {j:Nat} {q:Er},(R.push (yn hh c)).es[j]? = some q->(R.es[j]? = some q)\/(j = R.es.length/\q = yn hh c):=fun {j q} hq=>by
  replace hq:(R.es ++ [yn hh c])[j]? = some q:=hq
  by_cases z:j < R.es.length
  ·rw [Q6 z] at hq;exact .inl hq
  ·rw [Q8 (by omega)] at hq
   have:j - R.es.length = 0:=by
    have:=(List.getElem?_eq_some_iff.mp hq).1
    simp at this
    omega
   rw [this] at hq
   cases hq
   exact .inr ⟨by omega,rfl⟩
 have fwd:∀ {j:Nat} {q:Er},R.es[j]? = some q->(R.push (yn hh c)).es[j]? = some q:=fun {j q} hq=>by
  show (R.es ++ _)[j]? = _
  rw [Q6 (List.getElem?_eq_some_iff.mp hq).1];exact hq
 refine ⟨fun j q hq=>?_,fun j q c' hq hc'=>?_,fun j q hq=>?_,h.pl⟩
 ·rcases old hq with hq | ⟨_,rfl⟩
  ·exact h.hs _ _ hq
  ·exact h1
 ·rcases old hq with hq | ⟨rfl,rfl⟩
  ·obtain ⟨a,ce,b1,b2,b3⟩:=h.cl _ _ _ hq hc'
   exact ⟨a,ce,fwd b1,b2,b3⟩
  ·obtain ⟨ce,b1,b2,b3⟩:=hc c' hc'
   exact ⟨(List.getElem?_eq_some_iff.mp b1).1,ce,fwd b1,b2,b3⟩
 ·rcases old hq with hq | ⟨_,rfl⟩
  ·exact h.ph _ _ hq
  ·exact True.intro
theorem zhG {x:Er} (hq:(R.push x).es[j]? = some q):R.es[j]? = some q\/(j = R.es.length/\q = x):=by
 replace hq:(R.es ++ [x])[j]? = some q:=hq
 by_cases z:j < R.es.length
 ·rw [Q6 z] at hq;exact .inl hq
 ·rw [Q8 (by omega)] at hq
  have:j - R.es.length = 0:=by
   have:=(List.getElem?_eq_some_iff.mp hq).1
   simp at this
   omega
  rw [this] at hq
  cases hq
  exact .inr ⟨by omega,rfl⟩
theorem zdW {x:Er} (hq:R.es[j]? = some q):(R.push x).es[j]? = some q:=by
 show (R.es ++ _)[j]? = _
 rw [Q6 (List.getElem?_eq_some_iff.mp hq).1];exact hq
theorem RI.share (h:RI n R) (a:Ask) (tr x:Nat):RI n (R.share n a tr x):=by
 obtain ⟨s1,s2,_⟩:=zbF R n a tr x
 exact ⟨by rw [s1];exact h.hs,by rw [s1];exact h.cl,by rw [s1];exact h.ph,by rw [s2];exact h.pl⟩
def Old (R R':Run):Prop:=R.es.length<=R'.es.length/\R'.came = R.came/\(∀ (i:Nat) (e:Er),R.es[i]? = some e->R'.es[i]? = some e)/\∀ (i:Nat) (e:Er),R'.es[i]? = some e->R.es.length<=i->e.ph.isS = false
theorem zeF {num tr:Nat} {a:Ask} (he:R.es[num]? = some e) (ha:(n.asks e.house)[at']? = some a):y4 n g R num at' tr = g ((R.setE num { e with ph:=.waits at' tr,asked:=some R.es.length }).share n a tr R.es.length) (n.hix a.to) (some (num,at',tr)):=by
 unfold y4
 rw [he]
 dsimp only
 rw [ha]
theorem WT.share (h:WT R) (a:Ask) (tr x:Nat):WT (R.share n a tr x):=by
 intro i e c
 rw [(zbF R n a tr x).1]
 exact h i e c
theorem zgv (wn:WN n):∀ (f:Nat) {R:Run} {h:Nat} {c:Option (Nat × Nat × Nat)} {B:Nat},n.hs.length<=h + f->RI n R->WT R->SB B R->h < n.hs.length->
  (∀ c',c = some c'->∃ ce,R.es[c'.1]? = some ce/\ce.house < h/\c'.2.1 < (n.asks ce.house).length/\ce.ph = .waits c'.2.1 c'.2.2/\ce.asked = some R.es.length)->
  RI n (qC n f R h c)/\WT (qC n f R h c)/\SB (B + 2 * f) (qC n f R h c)/\Old R (qC n f R h c)
 | 0,R,h,c,B,hf,_,_,_,hh,_=>absurd hh (by omega)
 | f + 1,R,h,c,B,hf,ri,wt,sb,hh,hc=>by
  have ri1:RI n (R.push (yn h c)):=ri.push hh fun c' z=>by obtain ⟨ce,a1,a2,a3,_⟩:=hc c' z;exact ⟨ce,a1,a2,a3⟩
  have wt1:WT (R.push (yn h c)):=fun i e c' he hc' l=>by
   rcases zhG he with he | ⟨rfl,rfl⟩
   ·obtain ⟨ce,a1,a2,a3⟩:=wt i e c' he hc' l
    exact ⟨ce,zdW a1,a2,a3⟩
   ·obtain ⟨ce,a1,_,_,a4,a5⟩:=hc c' hc'
    exact ⟨ce,zdW a1,a4,a5⟩
  have od1:Old R (R.push (yn h c)):=⟨by simp [Run.push],rfl,fun i e he=>zdW he,fun i e he hi=>by
   rcases zhG he with he | ⟨rfl,rfl⟩
   ·exact absurd (List.getElem?_eq_some_iff.mp he).1 (by omega)
   ·rfl⟩
  by_cases h0:n.asks h = []
  ·have e1:qC n (f + 1) R h c = R.push (yn h c):=by unfold qC;rw [if_pos h0]
   rw [e1]
   exact ⟨ri1,wt1,(sb.push _).mono (by omega),od1⟩
  ·have e1:qC n (f + 1) R h c = y4 n (qC n f) (R.push (yn h c)) R.es.length 0 1:=by rw [qC,if_neg h0]
   obtain ⟨a,as,hq⟩:=List.exists_cons_of_ne_nil h0
   have ha:(n.asks (yn h c).house)[0]? = some a:=by show (n.asks h)[0]? = _;rw [hq];rfl
   have w:=wn.as h a (by rw [hq];exact .head _)
   rw [e1,zeF (zba R _) ha]
   have len1:(R.push (yn h c)).es.length = R.es.length + 1:=by simp [Run.push]
   have nl:NL (R.push (yn h c)) R.es.length:=fun i e c' he hc' z=>by
    have:=(ri1.cl i e c' he hc').1
    have:=(List.getElem?_eq_some_iff.mp he).1
    omega
   have ri2:RI n ((R.push (yn h c)).setE R.es.length { yn h c with ph:=.waits 0 1,asked:=some (R.push (yn h c)).es.length }):=ri1.setE (zba R _) rfl rfl (show 0 < (n.asks h).length/\1<=1 from ⟨by rw [hq];simp,Q3 _⟩)
   have wt2:WT ((R.push (yn h c)).setE R.es.length { yn h c with ph:=.waits 0 1,asked:=some (R.push (yn h c)).es.length }):=wt1.setE (zba R _) rfl (fun _=>⟨rfl,rfl⟩) nl
   have sb2:=((sb.push (yn h c)).setE R.es.length { yn h c with ph:=.waits 0 1,asked:=some (R.push (yn h c)).es.length }).share n a 1 (R.push (yn h c)).es.length
   obtain ⟨s1,s2,s3,s4,s5⟩:=zbF ((R.push (yn h c)).setE R.es.length { yn h c with ph:=.waits 0 1,asked:=some (R.push (yn h c)).es.length }) n a 1 (R.push (yn h c)).es.length
   obtain ⟨r1,r2,r3,r4⟩:=zgv wn f (h:=n.hix a.to) (c:=some (R.es.length,0,1)) (by have:=w.up;omega) (ri2.share a 1 _) (wt2.share a 1 _) sb2 w.lt (fun c' z=>by
    cases z
    rw [s1]
    refine ⟨_,zc0 (zba R _) _,w.up,?_,rfl,?_⟩
    ·show 0 < (n.asks h).length
     rw [hq];simp
    ·show some (R.push (yn h c)).es.length = some (List.length (List.set _ _ _))
     rw [length_set])
   refine ⟨r1,r2,r3.mono (by omega),?_,?_,fun i e he=>?_,fun i e he hi=>?_⟩
   ·have l2:((R.push (yn h c)).setE R.es.length { yn h c with ph:=.waits 0 1,asked:=some (R.push (yn h c)).es.length }).es.length = R.es.length + 1:=by simp [Run.setE,Run.push]
    have:=r4.1
    rw [s1,l2] at this
    exact Qj (Nat.le_succ _) this
   ·rw [r4.2.1,s5];rfl
   ·refine r4.2.2.1 i e ?_
    rw [s1,zdZ (by have:=(List.getElem?_eq_some_iff.mp he).1;omega)]
    exact zdW he
   ·by_cases z:i < R.es.length + 1
    ·have hi':i = R.es.length:=by omega
     subst hi'
     have:=r4.2.2.1 R.es.length { yn h c with ph:=.waits 0 1,asked:=some (R.push (yn h c)).es.length } (by rw [s1];exact zc0 (zba R _) _)
     rw [he] at this
     cases this
     rfl
    ·exact r4.2.2.2 i e he (by rw [s1];simp [Run.setE,Run.push];omega)
theorem ziQ (wn:WN n) {num tr:Nat} (ri:RI n R) (wt:WT R) (sb:SB B R) (he:R.es[num]? = some e) (hat:at' < (n.asks e.house).length) (hl:e.ph.isE = false) (nl:NL R num) (htr:1<=tr) :
  RI n (y4 n (qC n 4) R num at' tr)/\WT (y4 n (qC n 4) R num at' tr)/\SB (B + 9) (y4 n (qC n 4) R num at' tr)/\R.es.length<=(y4 n (qC n 4) R num at' tr).es.length/\(y4 n (qC n 4) R num at' tr).came = R.came /\
   (∀ (i:Nat) (q:Er),R.es[i]? = some q->i ≠ num->(y4 n (qC n 4) R num at' tr).es[i]? = some q)/\QS R (y4 n (qC n 4) R num at' tr) R.came:=by
 have ha:(n.asks e.house)[at']? = some (n.asks e.house)[at']:=Q0 hat
 have w:=wn.as e.house _ (Qa ha)
 rw [zeF he ha]
 have ri2:RI n (R.setE num { e with ph:=.waits at' tr,asked:=some R.es.length }):=ri.setE he rfl rfl (show at' < (n.asks e.house).length/\1<=tr from ⟨hat,htr⟩)
 have wt2:WT (R.setE num { e with ph:=.waits at' tr,asked:=some R.es.length }):=wt.setE he rfl (fun z=>⟨z.1,hl⟩) nl
 obtain ⟨s1,s2,s3,s4,s5⟩:=zbF (R.setE num { e with ph:=.waits at' tr,asked:=some R.es.length }) n (n.asks e.house)[at'] tr R.es.length
 have sb2:=(sb.setE num { e with ph:=.waits at' tr,asked:=some R.es.length }).share n (n.asks e.house)[at'] tr R.es.length
 obtain ⟨r1,r2,r3,r4⟩:=zgv wn 4 (h:=n.hix (n.asks e.house)[at'].to) (c:=some (num,at',tr)) (by have:=wn.hl;omega) (ri2.share _ tr _) (wt2.share _ tr _) sb2 w.lt (fun c' z=>by
  cases z
  rw [s1]
  refine ⟨_,zc0 he _,w.up,hat,rfl,?_⟩
  show some R.es.length = some (List.length (List.set _ _ _))
  rw [length_set])
 have ol:∀ (i:Nat) (q:Er),R.es[i]? = some q->i ≠ num->(qC n 4 ((R.setE num { e with ph:=.waits at' tr,asked:=some R.es.length }).share n (n.asks e.house)[at'] tr R.es.length) (n.hix (n.asks e.house)[at'].to) (some (num,at',tr))).es[i]? = some q:=fun i q hq hi=>r4.2.2.1 i q (by rw [s1,zdZ hi];exact hq)
 refine ⟨r1,r2,r3.mono (by omega),?_,by rw [r4.2.1,s5];rfl,ol,fun i e' h' hs=>?_⟩
 ·have l2:(R.setE num { e with ph:=.waits at' tr,asked:=some R.es.length }).es.length = R.es.length:=by simp [Run.setE]
  have:=r4.1
  rw [s1,l2] at this
  exact this
 ·by_cases z:i < R.es.length
  ·by_cases hi:i = num
   ·subst hi
    have:=r4.2.2.1 i { e with ph:=.waits at' tr,asked:=some R.es.length } (by rw [s1];exact zc0 he _)
    rw [h'] at this
    cases this
    cases hs
   ·have hq:R.es[i]? = some R.es[i]:=Q0 z
    have:=ol i _ hq hi
    rw [h'] at this
    cases this
    exact .inl ⟨_,hq,rfl,rfl⟩
  ·have:=r4.2.2.2 i e' h' (by rw [s1];simp [Run.setE];omega)
   rw [hs] at this
   cases this
end My
namespace My
open PySem L2 FT
variable {n:Net}
structure Res (n:Net) (R R':Run) (B:Nat):Prop where
 ri:RI n R'
 wt:WT R'
 sb:SB B R'
 le:R.es.length<=R'.es.length
 ca:R'.came = R.came
 qs:QS R R' R.came
variable {B:Nat} {R:Run}
theorem zh1 (wn:WN n) {g:Run->Nat->Str->Run} {c:Nat × Nat × Nat} {w:Str} {ce:Er} (ri:RI n R) (wt:WT R) (sb:SB B R) (he:R.es[c.1]? = some ce) (hat:c.2.1 < (n.asks ce.house).length) (hw:ce.ph = .waits c.2.1 c.2.2) (nl:NL R c.1) (hg:Res n R (g R c.1 w) (B + 9)):Res n R (zau n g R c w) (B + 9):=by
 unfold zau
 rw [he]
 dsimp only
 split
 ·rename_i h1
  obtain ⟨r1,r2,r3,r4,r5,_,r7⟩:=ziQ wn (tr:=1) ri wt sb he h1.2 (by rw [hw];rfl) nl (Q3 _)
  exact ⟨r1,r2,r3,r4,r5,r7⟩
 ·split
  ·exact hg
  ·have h1:1<=c.2.2:=by have:=ri.ph _ _ he;unfold zeo at this;rw [hw] at this;exact this.2
   refine ⟨ri.setE he rfl rfl (show c.2.1 < (n.asks ce.house).length/\(some R.came).isSome = true/\1<=c.2.2 from ⟨hat,rfl,h1⟩),wt.setE he rfl (fun z=>⟨z.1,by rw [hw];rfl⟩) nl,(sb.setE _ _).mono (by omega),by simp [Run.setE],rfl,fun i e' h' hs=>?_⟩
   rcases zak h' with ⟨rfl,rfl,_⟩ | ⟨_,h'⟩
   ·exact .inr ⟨rfl,ce,_,_,he,hw⟩
   ·exact .inl ⟨e',h',rfl,rfl⟩
theorem zeP (wn:WN n):∀ (f:Nat) {R:Run} {i:Nat} {w:Str} {e:Er} {B:Nat},RI n R->WT R->SB B R->R.es[i]? = some e->e.house < f->e.ph.isE = false->NL R i->Res n R (zK n f R i w) (B + 9)
 | 0,R,i,w,e,B,_,_,_,_,hf,_,_=>absurd hf (by omega)
 | f + 1,R,i,w,e,B,ri,wt,sb,he,hf,hl,nl=>by
  have ri1:RI n (R.setE i { e with ph:=.ended w }):=ri.setE he rfl rfl True.intro
  have wt1:WT (R.setE i { e with ph:=.ended w }):=wt.setE he rfl (fun z=>absurd z.2 (by show ¬ true = false;simp)) nl
  have back:∀ {j:Nat} {q:Er},(R.setE i { e with ph:=.ended w }).es[j]? = some q->q.ph.isE = false->R.es[j]? = some q:=fun {j q} hq hE=>by
   rcases zak hq with ⟨rfl,rfl,_⟩ | ⟨_,hq⟩
   ·cases hE
   ·exact hq
  have stop:Res n R (R.setE i { e with ph:=.ended w }) (B + 9):=⟨ri1,wt1,(sb.setE _ _).mono (by omega),by simp [Run.setE],rfl,fun j e' h' hs=>by
   rcases zak h' with ⟨rfl,rfl,_⟩ | ⟨_,h'⟩
   ·cases hs
   ·exact .inl ⟨e',h',rfl,rfl⟩⟩
  unfold zK
  rw [he]
  dsimp only
  cases q:e.caller with
  | none=>rw [q] at stop;exact stop
  | some c=>
   dsimp only
   cases ql:e.lost with
   | true=>rw [if_pos rfl];rw [q,ql] at stop;exact stop
   | false=>
    rw [if_neg (by simp)]
    have es:({ e with ph:=.ended w }:Er) = { house:=e.house,caller:=some c,ph:=.ended w,lost:=false,asked:=e.asked,stood:=e.stood }:=by rw [← q,← ql]
    rw [← es]
    obtain ⟨ce,c1,c2,c3⟩:=wt i e c he q ⟨ql,hl⟩
    obtain ⟨d1,ce',d2,d3,d4⟩:=ri.cl i e c he q
    rw [c1] at d2
    cases d2
    have hne:c.1 ≠ i:=by omega
    have c1':(R.setE i { e with ph:=.ended w }).es[c.1]? = some ce:=by rw [zdZ hne];exact c1
    have nl1:NL (R.setE i { e with ph:=.ended w }) c.1:=fun j e' cc h' hc' z l'=>by
     have h2:=back h' l'.2
     obtain ⟨x,x1,x2,x3⟩:=wt j e' cc h2 hc' l'
     rw [z,c1] at x1
     cases x1
     rw [c3] at x3
     cases x3
     rw [zc0 he] at h'
     cases h'
     cases l'.2
    have hend:=zeP wn f (w:=w) ri1 wt1 (sb.setE _ _) c1' (by omega) (by rw [c2];rfl) nl1
    have hh:=zh1 wn (w:=w) ri1 wt1 (sb.setE _ _) c1' d4 c2 nl1 hend
    refine ⟨hh.ri,hh.wt,hh.sb,by have:=hh.le;simp [Run.setE] at this;exact this,hh.ca,fun j e' h' hs=>?_⟩
    rcases hh.qs j e' h' hs with ⟨e1,a1,a2,a3⟩ | ⟨a1,e1,a,t,a2,a3⟩
    ·exact .inl ⟨e1,back a1 (by rw [a2];cases z:e'.ph <;> rw [z] at hs <;> first | rfl | cases hs),a2,a3⟩
    ·exact .inr ⟨a1,e1,a,t,back a2 (by rw [a3];rfl),a3⟩
variable {e:Er} {i:Nat}
theorem zj6 (wt:WT R) (he:R.es[i]? = some e) (hn:∀ a t,e.ph ≠ .waits a t):NL R i:=fun j e' c h' hc z l=>by
 obtain ⟨ce,a1,a2,_⟩:=wt j e' c h' hc l
 rw [z,he] at a1
 cases a1
 exact hn _ _ a2
noncomputable def EvC (n:Net) (R:Run):Evt->Prop
 | .fresh=>True
 | .ends i _=>∃ e,R.es[i]? = some e/\e.ph.isW = true
 | .lost i=>∃ e c,R.es[i]? = some e/\e.caller = some c/\lv e
 | .again i=>∃ e,R.es[i]? = some e/\e.ph.isS = true/\zJ n e = true
 | .up i=>∃ e,R.es[i]? = some e/\e.ph.isS = true
variable {ev:Evt}
theorem zgq (he:R.es[i]? = some e) (h:ev ∈ yX n R i):ev.isF = false/\ev.num = i/\EvC n R ev:=by
 have h:=(mem_filter.mp h).1
 unfold zao at h
 rw [qX he] at h
 simp only [mem_append] at h
 rcases h with ((h | h) | h) | h
 ·split at h
  ·rename_i q
   simp only [mem_cons,not_mem_nil,or_false] at h
   rcases h with rfl | rfl | rfl <;> exact ⟨rfl,rfl,e,he,q⟩
  ·cases h
 ·split at h
  ·rename_i q
   rw [mem_singleton.mp h]
   unfold zR at q
   split at q
   ·cases q
   ·rename_i c hc
    rw [Qs] at q
    have q1:=q.1
    refine ⟨rfl,rfl,e,c,he,hc,?_,?_⟩
    ·cases z:e.lost with
     | false=>rfl
     | true=>rw [z] at q1;cases q1
    ·cases z:e.ph.isE with
     | false=>rfl
     | true=>rw [z,Bool.or_true] at q1;cases q1
  ·cases h
 ·split at h
  ·rename_i q
   rw [mem_singleton.mp h]
   have q':=q
   unfold zJ at q'
   rw [Qs] at q'
   exact ⟨rfl,rfl,e,he,q'.1,q⟩
  ·cases h
 ·split at h
  ·rename_i q
   rw [mem_singleton.mp h]
   exact ⟨rfl,rfl,e,he,q⟩
  ·cases h
theorem EvC.ok (h:EvC n R ev):zqc R ev:=by
 cases ev with
 | fresh=>exact True.intro
 | ends i w=>obtain ⟨e,a,_⟩:=h;exact ⟨e,a⟩
 | lost i=>obtain ⟨e,c,a,b,_⟩:=h;exact ⟨e,c,a,b⟩
 | again i=>obtain ⟨e,a,b,_⟩:=h;exact ⟨e,a,b⟩
 | up i=>exact h
theorem zk1 (wn:WN n) (ri:RI n R) (wt:WT R) (sb:SB B R) (hc:EvC n R ev):Res n R (doR n R ev) (B + 10):=by
 have up10:∀ {R':Run},Res n R R' (B + 9)->Res n R R' (B + 10):=fun h=>⟨h.ri,h.wt,h.sb.mono (by omega),h.le,h.ca,h.qs⟩
 cases ev with
 | fresh=>
  obtain ⟨r1,r2,r3,r4⟩:=zgv wn 4 (h:=0) (c:=none) (by have:=wn.hl;omega) ri wt sb wn.h1 (fun c' z=>by cases z)
  refine ⟨r1,r2,r3.mono (by omega),r4.1,r4.2.1,fun i e' h' hs=>?_⟩
  by_cases z:i < R.es.length
  ·have hq:R.es[i]? = some R.es[i]:=Q0 z
   have:=r4.2.2.1 i _ hq
   rw [show doR n R .fresh = qC n 4 R 0 none from rfl,this] at h'
   cases h'
   exact .inl ⟨_,hq,rfl,rfl⟩
  ·have:=r4.2.2.2 i e' h' (by omega)
   rw [hs] at this
   cases this
 | ends i w=>
  obtain ⟨e,he,hw⟩:=hc
  have hp:e.ph = .works:=by
   cases q:e.ph with
   | works=>rfl
   | _=>rw [q] at hw;cases hw
  exact up10 (zeP wn 4 ri wt sb he (by have:=ri.hs _ _ he;have:=wn.hl;omega) (by rw [hp];rfl) (zj6 wt he fun a t z=>by rw [hp] at z;cases z))
 | up i=>
  obtain ⟨e,he,hs⟩:=hc
  exact up10 (zeP wn 4 ri wt sb he (by have:=ri.hs _ _ he;have:=wn.hl;omega) (by cases q:e.ph <;> rw [q] at hs <;> first | rfl | cases hs) (zj6 wt he fun a t z=>by rw [z] at hs;cases hs))
 | again i=>
  obtain ⟨e,he,hs,_⟩:=hc
  show Res n R (zc6 n R i) _
  unfold zc6
  rw [qX he]
  have te:=ze7 R (n.pof (n.ask e.house e.ph.at1))
  have ri1:RI n (takeO R (n.pof (n.ask e.house e.ph.at1))):=⟨by rw [te.1];exact ri.hs,by rw [te.1];exact ri.cl,by rw [te.1];exact ri.ph,by rw [te.2.1];exact ri.pl⟩
  have wt1:WT (takeO R (n.pof (n.ask e.house e.ph.at1))):=by intro j q c;rw [te.1];exact wt j q c
  have nl1:NL (takeO R (n.pof (n.ask e.house e.ph.at1))) i:=by intro j q c;rw [te.1];exact zj6 wt he (fun a t z=>by rw [z] at hs;cases hs) j q c
  obtain ⟨r1,r2,r3,r4,r5,_,r7⟩:=ziQ wn (at':=e.ph.at1) (tr:=e.ph.at2 + 1) ri1 wt1 (sb.takeO _) (by rw [te.1];exact he) (zco hs (ri.ph _ _ he)) (by cases q:e.ph <;> rw [q] at hs <;> first | rfl | cases hs) nl1 (by omega)
  refine ⟨r1,r2,r3.mono (by omega),by rw [te.1] at r4;exact r4,by rw [r5,te.2.2],?_⟩
  intro j e' h' hs'
  have:=r7 j e' h' hs'
  rw [te.1,te.2.2] at this
  exact this
 | lost i=>
  obtain ⟨e,c,he,hq,hlv⟩:=hc
  show Res n R (zcJ n R i) _
  have e0:zcJ n R i = zau n (zK n 4) (R.setE i { e with lost:=true }) c "bad":=by
   have el:∀ (o:Option (Nat × Nat × Nat)) (f:Nat × Nat × Nat->Run),o = some c->o.elim R f = f c:=fun o f h=>by rw [h];rfl
   unfold zcJ
   rw [qX he]
   exact el _ _ hq
  rw [e0]
  have ri1:RI n (R.setE i { e with lost:=true }):=ri.setE he rfl rfl (by have:=ri.ph _ _ he;unfold zeo at this ⊢;exact this)
  obtain ⟨ce,c1,c2,c3⟩:=wt i e c he hq hlv
  obtain ⟨d1,ce',d2,d3,d4⟩:=ri.cl i e c he hq
  rw [c1] at d2
  cases d2
  have hne:c.1 ≠ i:=by omega
  have c1':(R.setE i { e with lost:=true }).es[c.1]? = some ce:=by rw [zdZ hne];exact c1
  have wt1:WT (R.setE i { e with lost:=true }):=fun j q cc h' hc' l'=>by
   have key:∀ q0,R.es[j]? = some q0->q0.caller = some cc->lv q0->∃ ce,(R.setE i { e with lost:=true }).es[cc.1]? = some ce/\ce.ph = .waits cc.2.1 cc.2.2/\ce.asked = some j:=fun q0 h0 hc0 l0=>by
    obtain ⟨x,x1,x2,x3⟩:=wt j q0 cc h0 hc0 l0
    by_cases z:cc.1 = i
    ·rw [z] at x1 ⊢
     rw [he] at x1
     cases x1
     exact ⟨_,zc0 he _,x2,x3⟩
    ·exact ⟨x,by rw [zdZ z];exact x1,x2,x3⟩
   rcases zak h' with ⟨rfl,rfl,_⟩ | ⟨_,h'⟩
   ·cases l'.1
   ·exact key q h' hc' l'
  have nl1:NL (R.setE i { e with lost:=true }) c.1:=fun j e' cc h' hc' z l'=>by
   rcases zak h' with ⟨rfl,rfl,_⟩ | ⟨hji,h'⟩
   ·cases l'.1
   ·obtain ⟨x,x1,x2,x3⟩:=wt j e' cc h' hc' l'
    rw [z,c1] at x1
    cases x1
    rw [c3] at x3
    cases x3
    exact hji rfl
  have hend:=zeP wn 4 (w:="bad") ri1 wt1 (sb.setE _ _) c1' (by have:=ri1.hs _ _ c1';have:=wn.hl;omega) (by rw [c2];rfl) nl1
  have hh:=zh1 wn (w:="bad") ri1 wt1 (sb.setE _ _) c1' d4 c2 nl1 hend
  refine ⟨hh.ri,hh.wt,hh.sb.mono (by omega),by have:=hh.le;simp [Run.setE] at this;exact this,hh.ca,fun j e' h' hs=>?_⟩
  rcases hh.qs j e' h' hs with ⟨e1,a1,a2,a3⟩ | ⟨a1,e1,a,t,a2,a3⟩
  ·rcases zak a1 with ⟨rfl,rfl,_⟩ | ⟨_,a1⟩
   ·exact .inl ⟨e,he,a2,a3⟩
   ·exact .inl ⟨e1,a1,a2,a3⟩
  ·rcases zak a2 with ⟨rfl,rfl,_⟩ | ⟨_,a2⟩
   ·exact .inr ⟨a1,e,a,t,he,a3⟩
   ·exact .inr ⟨a1,e1,a,t,a2,a3⟩
end My
namespace My
open PySem L2 FT
noncomputable def Run.new (n:Net):Run:=⟨0,[],n.ps.map fun _=>[],[],n.ps.map fun _=>0⟩
noncomputable def qD (n:Net) (evs:List Evt):Run:=evs.foldl (zag n) (Run.new n)
def Can (n:Net) (R:Run) (ev:Evt):Prop:=ev.isF = true\/((∃ e,R.es[ev.num]? = some e)/\ev ∈ yX n R ev.num)
noncomputable def VEv (n:Net):Run->List Evt->Prop
 | _,[]=>True
 | R,ev :: evs=>Can n R ev/\VEv n (zag n R ev) evs
variable {ev:Evt} {n:Net} {R:Run}
theorem Can.c (h:Can n R ev):EvC n R ev:=by
 rcases h with h | ⟨⟨e,he⟩,hm⟩
 ·cases ev with
  | fresh=>exact True.intro
  | _=>cases h
 ·exact (zgq he hm).2.2
structure Good (n:Net) (R:Run) (B:Nat):Prop where
 ri:RI n R
 wt:WT R
 sb:SB B R
 sd:∀ (i:Nat) (e:Er) (k:Nat),R.es[i]? = some e->e.ph.isS = true->e.stood = some k->k < R.came
theorem zlZ (n:Net):Good n (Run.new n) 0:=⟨⟨fun i e h=>by simp [Run.new] at h,fun i e c h=>by simp [Run.new] at h,fun i e h=>by simp [Run.new] at h,by simp [Run.new]⟩,fun i e c h=>by simp [Run.new] at h,⟨Q3 _,fun u hu=>by
 obtain ⟨_,_,rfl⟩:=mem_map.mp hu
 exact Q3 _,Q3 _,fun v hv=>by
 obtain ⟨_,_,rfl⟩:=mem_map.mp hv
 exact Q3 _⟩,fun i e k h=>by simp [Run.new] at h⟩
variable {B:Nat}
theorem zkN (wn:WN n) (g:Good n R B) (hc:Can n R ev):Good n (zag n R ev) (B + 10):=by
 have r:=zk1 wn g.ri g.wt g.sb hc.c
 exact ⟨⟨r.ri.hs,r.ri.cl,r.ri.ph,r.ri.pl⟩,r.wt,⟨r.sb.es,r.sb.pu,r.sb.py,r.sb.tk⟩,fun i e k he hs hk=>by
  show k < (doR n R ev).came + 1
  rw [r.ca]
  rcases r.qs i e he hs with ⟨e1,a1,a2,a3⟩ | ⟨a1,_⟩
  ·have:=g.sd i e1 k a1 (by rw [a2];exact hs) (by rw [a3];exact hk)
   omega
  ·rw [a1] at hk
   cases hk
   omega⟩
variable {kE kR:Addr} {l:Lay} {M:Mem}
section
variable {b r:Nat}
theorem zlN {a:Nat} {xs:List FT.T} (h:M[a]? = some (.lst xs)):zcZ (.ref a) M = some (xs,[(a,xs)]):=by
 show (match M[a]? with | some (.lst xs)=>some (xs,[(a,xs)]) | _=>none) = _
 rw [h]
end
variable {t:FT.T} {evs:List Evt} {M' X:Mem}
section
theorem zi6 (M X:Mem) (c:Cell):(M ++ (c :: X))[M.length]? = some c:=by
 rw [Q8 (Q3 _),Qu];rfl
theorem znp (M X:Mem) (c d:Cell):(M ++ (c :: X)).set M.length d = M ++ (d :: X):=by
 rw [set_append_right _ _ (Q3 _),Qu];rfl
theorem zep {c d:Cell} {i:Nat} (h:X[i]? = some d):(M ++ (c :: X))[M.length + 1 + i]? = some d:=by
 rw [Q8 (by omega),show M.length + 1 + i - M.length = i + 1 by omega,getElem?_cons_succ];exact h
theorem setM {fs fs':List (Str × FT.T)} {f:Str} {y:FT.T} (e:zcX f y fs = fs') (hl:fs.length < 1000):zaM [kR] f (.ref M.length) y (M ++ (.ins kR fs :: X)) = .ok () (M ++ (.ins kR fs' :: X)):=by
 rw [za4 (zi6 M X _) e hl,znp]
noncomputable def puA (b p:Nat):List Nat:=(List.range p).map fun j=>b + 2 + j
noncomputable def newX (n:Net) (b:Nat):Mem:=(.lst [] :: List.replicate n.ps.length (.lst [])) ++ [.lst ((puA b n.ps.length).map .ref)] ++ [.lst []] ++ [.lst ((n.ps.map fun _=>0).map nT)]
noncomputable def zcB (n:Net) (b:Nat):Lay:=⟨b + 1,b + 2 + n.ps.length,b + 3 + n.ps.length,b + 4 + n.ps.length,[],puA b n.ps.length⟩
theorem znm (M:Mem):RunAt kE kR (qg n) M.length M.length (zcB n M.length) (M ++ (.ins kR (zb8 (qg n) (zcB n M.length) (Run.new n)) :: newX n M.length)) (Run.new n):=by
 have pz:pzC (puA M.length n.ps.length) (n.ps.map fun _=>[]) = (List.range n.ps.length).map fun j=>(M.length + 2 + j,Cell.lst []):=by
  unfold pzC puA
  refine ext_getElem? fun i=>?_
  rw [List.getElem?_zipWith,Qb,Qb,Qb]
  by_cases z:i < n.ps.length
  ·rw [getElem?_range z,Q0 z]
   rfl
  ·rw [getElem?_eq_none (by simpa using z)]
   rfl
 have cs:cells kE kR (qg n) M.length (zcB n M.length) (Run.new n) = (M.length,.ins kR (zb8 (qg n) (zcB n M.length) (Run.new n))) :: (M.length + 1,.lst []) :: (M.length + 2 + n.ps.length,.lst ((puA M.length n.ps.length).map .ref)) :: (M.length + 3 + n.ps.length,.lst []) :: (M.length + 4 + n.ps.length,.lst ((n.ps.map fun _=>0).map nT)) :: ((List.range n.ps.length).map fun j=>(M.length + 2 + j,Cell.lst [])):=by
  rw [← pz]
  rfl
 have xl:newX n M.length = Cell.lst [] :: (List.replicate n.ps.length (Cell.lst []) ++ [.lst ((puA M.length n.ps.length).map .ref),.lst [],.lst ((n.ps.map fun _=>0).map nT)]):=by
  unfold newX
  simp
 have ap:∀ (k:Nat) (d:Cell),[Cell.lst ((puA M.length n.ps.length).map FT.T.ref),.lst [],.lst ((n.ps.map fun _=>0).map nT)][k]? = some d->(newX n M.length)[n.ps.length + 1 + k]? = some d:=fun k d h=>by
  rw [xl,show n.ps.length + 1 + k = (n.ps.length + k) + 1 by omega,getElem?_cons_succ,Q8 (by rw [length_replicate];omega),length_replicate,show n.ps.length + k - n.ps.length = k by omega]
  exact h
 refine ⟨?_,?_,?_,rfl,by simp [zcB,puA,Run.new],by simp [Run.new]⟩
 ·rw [cs]
  intro p hp
  rcases mem_cons.mp hp with rfl | hp
  ·exact zi6 _ _ _
  rcases mem_cons.mp hp with rfl | hp
  ·exact zep (i:=0) (by rw [xl];rfl)
  rcases mem_cons.mp hp with rfl | hp
  ·have:=zep (M:=M) (c:=.ins kR (zb8 (qg n) (zcB n M.length) (Run.new n))) (ap 0 _ rfl)
   rw [show M.length + 1 + (n.ps.length + 1 + 0) = M.length + 2 + n.ps.length by omega] at this
   exact this
  rcases mem_cons.mp hp with rfl | hp
  ·have:=zep (M:=M) (c:=.ins kR (zb8 (qg n) (zcB n M.length) (Run.new n))) (ap 1 _ rfl)
   rw [show M.length + 1 + (n.ps.length + 1 + 1) = M.length + 3 + n.ps.length by omega] at this
   exact this
  rcases mem_cons.mp hp with rfl | hp
  ·have:=zep (M:=M) (c:=.ins kR (zb8 (qg n) (zcB n M.length) (Run.new n))) (ap 2 _ rfl)
   rw [show M.length + 1 + (n.ps.length + 1 + 2) = M.length + 4 + n.ps.length by omega] at this
   exact this
  ·obtain ⟨j,hj,rfl⟩:=mem_map.mp hp
   have hj:=mem_range.mp hj
   have:(newX n M.length)[1 + j]? = some (.lst []):=by
    rw [xl,Nat.add_comm 1 j,getElem?_cons_succ,Q6 (by rw [length_replicate];exact hj),List.getElem?_replicate,if_pos hj]
   have:=zep (M:=M) (c:=.ins kR (zb8 (qg n) (zcB n M.length) (Run.new n))) this
   rw [show M.length + 1 + (1 + j) = M.length + 2 + j by omega] at this
   exact this
 ·rw [cs]
  simp only [map_cons,map_map]
  have hm:∀ x,x ∈ (List.range n.ps.length).map ((fun p:Nat × Cell=>p.1) ∘ fun j=>(M.length + 2 + j,Cell.lst []))->M.length + 2<=x/\x < M.length + 2 + n.ps.length:=fun x hx=>by
   obtain ⟨j,hj,rfl⟩:=mem_map.mp hx
   have:=mem_range.mp hj
   simp only [Function.comp]
   omega
  refine nodup_cons.mpr ⟨?_,nodup_cons.mpr ⟨?_,nodup_cons.mpr ⟨?_,nodup_cons.mpr ⟨?_,nodup_cons.mpr ⟨?_,?_⟩⟩⟩⟩⟩
  ·intro z
   simp only [mem_cons] at z
   rcases z with z | z | z | z | z
   ·omega
   ·omega
   ·omega
   ·omega
   ·have:=hm _ z;omega
  ·intro z
   simp only [mem_cons] at z
   rcases z with z | z | z | z
   ·omega
   ·omega
   ·omega
   ·have:=hm _ z;omega
  ·intro z
   simp only [mem_cons] at z
   rcases z with z | z | z
   ·omega
   ·omega
   ·have:=hm _ z;omega
  ·intro z
   simp only [mem_cons] at z
   rcases z with z | z
   ·omega
   ·have:=hm _ z;omega
  ·intro z
   have:=hm _ z;omega
  ·rw [List.Nodup,List.pairwise_map]
   exact (List.nodup_range).imp fun h=>by simp only [Function.comp];omega
 ·rw [cs]
  intro p hp
  rcases mem_cons.mp hp with rfl | hp
  ·exact Q3 _
  rcases mem_cons.mp hp with rfl | hp
  ·exact Nat.le_succ _
  rcases mem_cons.mp hp with rfl | hp
  ·show M.length<=M.length + 2 + n.ps.length;omega
  rcases mem_cons.mp hp with rfl | hp
  ·show M.length<=M.length + 3 + n.ps.length;omega
  rcases mem_cons.mp hp with rfl | hp
  ·show M.length<=M.length + 4 + n.ps.length;omega
  ·obtain ⟨j,_,rfl⟩:=mem_map.mp hp
   show M.length<=M.length + 2 + j;omega
theorem zij:∀ (xs:List FT.T) (o:Option FT.T) (M:Mem) (acc:List FT.T),acc.length + xs.length<=100000->qA (yr 0) zX (eTk (yw ze)) xs [o] M acc = .ok (acc ++ (List.range xs.length).map fun j=>.ref (M.length + j)) (M ++ List.replicate xs.length (.lst []))
 | [],o,M,acc,_=>by simp [qA]
 | x :: xs,o,M,acc,hl=>by
  rw [Qp] at hl
  have ih:=zij xs (some x) (M ++ [.lst []]) (acc ++ [.ref M.length]) (by rw [Qn,Qt];omega)
  unfold qA
  show (if acc.length < sizeLine then qA (yr 0) zX (eTk (yw ze)) xs [some x] (M ++ [.lst []]) (acc ++ [.ref M.length]) else .bad) = _
  rw [if_pos (by rw [sizeLine_eq];omega),ih]
  congr 1
  ·rw [append_assoc,Qp,List.range_succ_eq_map,map_cons,map_map]
   congr 1
   show FT.T.ref M.length :: _ = FT.T.ref (M.length + 0) :: _
   congr 1
   refine map_congr_left fun j _=>?_
   simp
   omega
  ·rw [Qp,replicate_succ]
   simp
theorem zja (wn:WN n) (M:Mem):Ok (zbg kE kR [.ref M.length,qg n] (M ++ [.ins kR []])) fun t M'=>t = .non/\M' = M ++ (.ins kR (zb8 (qg n) (zcB n M.length) (Run.new n)) :: newX n M.length):=by
 refine yy rfl ?_
 unfold zfN
 have pl:=wn.pl
 have ap:∀ (X:Mem) (c d:Cell),M ++ c :: X ++ [d] = M ++ (c :: (X ++ [d])):=fun X c d=>by simp
 have ln:∀ (X:Mem) (c:Cell),(M ++ c :: X).length = M.length + 1 + X.length:=fun X c=>by simp;omega
 have s1:=setM (kR:=kR) (M:=M) (X:=[]) (fs:=[]) (f:="net") (y:=qg n) (fs':=[("net",qg n)]) rfl (by decide)
 have s2:=setM (kR:=kR) (M:=M) (X:=[]) (fs:=[("net",qg n)]) (f:="came") (y:=.int 0) (fs':=[("net",qg n),("came",.int 0)]) rfl (by simp)
 have s3:=setM (kR:=kR) (M:=M) (X:=[.lst []]) (fs:=[("net",qg n),("came",.int 0)]) (f:="errands") (y:=.ref (M.length + 1)) (fs':=[("net",qg n),("came",.int 0),("errands",.ref (M.length + 1))]) rfl (by simp)
 have it:zcD (eOp ixT (yb 1) (eC (.int 1))) [some (.ref M.length),some (qg n)] = fun M=>.ok (n.ps.map puT) M:=rfl
 have cp:∀ o,qA (yr 0) zX (eTk (yw ze)) (n.ps.map puT) [o] (M ++ (.ins kR [("net",qg n),("came",.int 0),("errands",.ref (M.length + 1))] :: [.lst []])) [] = .ok ((puA M.length n.ps.length).map .ref) (M ++ (.ins kR [("net",qg n),("came",.int 0),("errands",.ref (M.length + 1))] :: (.lst [] :: List.replicate n.ps.length (.lst [])))):=fun o=>by
  rw [zij _ _ _ _ (by rw [length_nil,Qh];omega),Qh,nil_append]
  congr 1
  ·unfold puA
   rw [map_map]
   refine map_congr_left fun j _=>?_
   simp
  ·simp
 have s4:=setM (kR:=kR) (M:=M) (X:=(.lst [] :: List.replicate n.ps.length (.lst [])) ++ [.lst ((puA M.length n.ps.length).map .ref)]) (fs:=[("net",qg n),("came",.int 0),("errands",.ref (M.length + 1))]) (f:="puts") (y:=.ref (M.length + 2 + n.ps.length)) (fs':=[("net",qg n),("came",.int 0),("errands",.ref (M.length + 1)),("puts",.ref (M.length + 2 + n.ps.length))]) rfl (by simp)
 have s5:=setM (kR:=kR) (M:=M) (X:=(.lst [] :: List.replicate n.ps.length (.lst [])) ++ [.lst ((puA M.length n.ps.length).map .ref)] ++ [.lst []]) (fs:=[("net",qg n),("came",.int 0),("errands",.ref (M.length + 1)),("puts",.ref (M.length + 2 + n.ps.length))]) (f:="payments") (y:=.ref (M.length + 3 + n.ps.length)) (fs':=[("net",qg n),("came",.int 0),("errands",.ref (M.length + 1)),("puts",.ref (M.length + 2 + n.ps.length)),("payments",.ref (M.length + 3 + n.ps.length))]) rfl (by simp)
 have s6:=setM (kR:=kR) (M:=M) (X:=newX n M.length) (fs:=[("net",qg n),("came",.int 0),("errands",.ref (M.length + 1)),("puts",.ref (M.length + 2 + n.ps.length)),("payments",.ref (M.length + 3 + n.ps.length))]) (f:="taken") (y:=.ref (M.length + 4 + n.ps.length)) (fs':=zb8 (qg n) (zcB n M.length) (Run.new n)) rfl (by simp)
 have ct:∀ o M',qA (yr 0) zX (eC (.int 0)) (n.ps.map puT) [o] M' [] = .ok ((n.ps.map fun _=>0).map nT) M':=fun o M'=>by
  rw [map_map]
  exact Ok.mapc (r:=puT) (fun σ=>∃ o,σ = [o]) _ ⟨_,rfl⟩ (by omega) (by
   rintro x σ hx ⟨o,rfl⟩
   exact ⟨[some (puT x)],rfl,⟨_,rfl⟩,rfl⟩)
 have l4:(M ++ Cell.ins kR [("net",qg n),("came",.int 0),("errands",.ref (M.length + 1))] :: (.lst [] :: List.replicate n.ps.length (Cell.lst []))).length = M.length + 2 + n.ps.length:=by simp;omega
 have l5:(M ++ Cell.ins kR [("net",qg n),("came",.int 0),("errands",.ref (M.length + 1)),("puts",.ref (M.length + 2 + n.ps.length))] :: ((.lst [] :: List.replicate n.ps.length (Cell.lst [])) ++ [.lst ((puA M.length n.ps.length).map .ref)])).length = M.length + 3 + n.ps.length:=by simp;omega
 have l6:(M ++ Cell.ins kR [("net",qg n),("came",.int 0),("errands",.ref (M.length + 1)),("puts",.ref (M.length + 2 + n.ps.length)),("payments",.ref (M.length + 3 + n.ps.length))] :: ((.lst [] :: List.replicate n.ps.length (Cell.lst [])) ++ [.lst ((puA M.length n.ps.length).map .ref)] ++ [.lst []])).length = M.length + 4 + n.ps.length:=by simp;omega
 have st:∀ (f:Str) (y:FT.T) (fv:Ev->Mem->Out FT.T) (M0 M1 M2:Mem),fv [some (.ref M.length),some (qg n)] M0 = .ok y M1->zaM [kR] f (.ref M.length) y M1 = .ok () M2->yE [kR] f (yb 0) fv [some (.ref M.length),some (qg n)] M0 = .ok (.nx [some (.ref M.length),some (qg n)]) M2:=fun f y fv M0 M1 M2 h1 h2=>by
  unfold yE
  rw [h1]
  show (zaM [kR] f (.ref M.length) y M1).bind _ = _
  rw [h2]
  rfl
 refine ⟨.non,_,?_,rfl,rfl⟩
 have t1:=st "net" (qg n) (yb 1) _ _ _ rfl s1
 have t2:=st "came" (.int 0) (eC (.int 0)) _ _ _ rfl s2
 have t3:=st "errands" (.ref (M.length + 1)) (eTk (yw ze)) (M ++ (.ins kR [("net",qg n),("came",.int 0)] :: [])) _ _ (by
  show Out.ok (FT.T.ref (M ++ [Cell.ins kR [("net",qg n),("came",.int 0)]]).length) (M ++ [Cell.ins kR [("net",qg n),("came",.int 0)]] ++ [.lst []]) = .ok (.ref (M.length + 1)) (M ++ (.ins kR [("net",qg n),("came",.int 0)] :: [.lst []]))
  simp) s3
 have t4:=st "puts" (.ref (M.length + 2 + n.ps.length)) (eTk (zbc (zcD (eOp ixT (yb 1) (eC (.int 1)))) (yr 0) zX (eTk (yw ze)) ["purse"] [])) (M ++ (.ins kR [("net",qg n),("came",.int 0),("errands",.ref (M.length + 1))] :: [.lst []])) _ _ (by
  show ((qA (yr 0) zX (eTk (yw ze)) (n.ps.map puT) [none] (M ++ (.ins kR [("net",qg n),("came",.int 0),("errands",.ref (M.length + 1))] :: [.lst []])) []).bind fun ts M1=>Out.ok (FT.T.ref M1.length) (M1 ++ [Cell.lst ts])) = _
  rw [cp]
  show Out.ok (FT.T.ref (List.length _)) _ = _
  rw [l4,ap]) s4
 have t5:=st "payments" (.ref (M.length + 3 + n.ps.length)) (eTk (yw ze)) (M ++ (.ins kR [("net",qg n),("came",.int 0),("errands",.ref (M.length + 1)),("puts",.ref (M.length + 2 + n.ps.length))] :: ((.lst [] :: List.replicate n.ps.length (.lst [])) ++ [.lst ((puA M.length n.ps.length).map .ref)]))) _ _ (by
  show Out.ok (FT.T.ref (List.length _)) _ = _
  rw [l5,ap]) s5
 have t6:=st "taken" (.ref (M.length + 4 + n.ps.length)) (eTk (zbc (zcD (eOp ixT (yb 1) (eC (.int 1)))) (yr 0) zX (eC (.int 0)) ["purse"] [])) (M ++ (.ins kR [("net",qg n),("came",.int 0),("errands",.ref (M.length + 1)),("puts",.ref (M.length + 2 + n.ps.length)),("payments",.ref (M.length + 3 + n.ps.length))] :: ((.lst [] :: List.replicate n.ps.length (.lst [])) ++ [.lst ((puA M.length n.ps.length).map .ref)] ++ [.lst []]))) _ _ (by
  show ((qA (yr 0) zX (eC (.int 0)) (n.ps.map puT) [none] _ []).bind fun ts M1=>Out.ok (FT.T.ref M1.length) (M1 ++ [Cell.lst ts])) = _
  rw [ct]
  show Out.ok (FT.T.ref (List.length _)) _ = _
  rw [l6,ap]
  rfl) s6
 rw [show startT 2 [.ref M.length,qg n] = [some (.ref M.length),some (qg n)] from rfl]
 unfold yh
 rw [t1]
 show ((((yE [kR] "came" (yb 0) (eC (.int 0)) [some (.ref M.length),some (qg n)] _).bind _)).bind zb9) = _
 rw [t2]
 show ((((yE [kR] "errands" (yb 0) (eTk (yw ze)) [some (.ref M.length),some (qg n)] _).bind _)).bind zb9) = _
 rw [t3]
 show ((((yE [kR] "puts" (yb 0) _ [some (.ref M.length),some (qg n)] _).bind _)).bind zb9) = _
 rw [t4]
 show ((((yE [kR] "payments" (yb 0) _ [some (.ref M.length),some (qg n)] _).bind _)).bind zb9) = _
 rw [t5]
 show (((yE [kR] "taken" (yb 0) _ [some (.ref M.length),some (qg n)] _)).bind zb9) = _
 rw [t6]
 rfl
theorem zo8 (wn:WN n) (M:Mem) {σ:Ev} (hσ:yb 0 σ = fun M=>.ok (qg n) M):∃ M',zdf kR (zbg kE kR) (zb (yb 0) ze) σ M = .ok (.ref M.length) M'/\RunAt kE kR (qg n) M.length M.length (zcB n M.length) M' (Run.new n)/\Kp M.length M M':=by
 obtain ⟨t,M',e,rfl,rfl⟩:=zja (kE:=kE) (kR:=kR) wn M
 refine ⟨_,?_,znm M,?_⟩
 ·unfold zdf zb ze
  rw [hσ]
  show ((zbg kE kR [.ref M.length,qg n] (M ++ [.ins kR []])).bind _) = _
  rw [e]
  rfl
 ·exact ⟨by simp,fun i hi=>Q6 hi⟩
def EvS (t:FT.T) (evs:List Evt) (M:Mem):Prop:=∃ G,ze9 t M = some (evs.map evT,G)/\zbS G M/\∀ g ∈ G,g.1 < M.length
theorem zdb {α β:Type} {f:β->α->β} {x:β} {xs:List α} {k:Nat} {y:α} (h:xs[k]? = some y):(xs.take (k + 1)).foldl f x = f ((xs.take k).foldl f x) y:=by
 rw [take_succ,h,List.foldl_append]
 rfl
theorem VEv.at_ {n:Net}:∀ {evs:List Evt} {R:Run} {k:Nat} {ev:Evt},VEv n R evs->evs[k]? = some ev->Can n ((evs.take k).foldl (zag n) R) ev
 | [],_,_,_,_,h=>by simp at h
 | e0 :: evs,R,0,ev,v,h=>by
  simp at h
  subst h
  exact v.1
 | e0 :: evs,R,k + 1,ev,v,h=>by
  simp at h
  exact VEv.at_ (k:=k) v.2 h
theorem zbB (wn:WN n) {evs:List Evt} (v:VEv n (Run.new n) evs):∀ k,k<=evs.length->Good n (qD n (evs.take k)) (10 * k)
 | 0,_=>zlZ n
 | k + 1,h=>by
  have hk:evs[k]? = some evs[k]:=Q0 (by omega)
  have g:=zbB wn v k (by omega)
  have c:=v.at_ hk
  unfold qD at g ⊢
  rw [zdb hk]
  have:=zkN wn g c
  exact ⟨this.ri,this.wt,this.sb.mono (by omega),this.sd⟩
theorem zkw (wn:WN n) {b r:Nat} (h:RunAt kE kR (qg n) b r l M R) (g:Good n R B) (hB:B + 10 < 90000) (hc:Can n R ev):qP kE kR [.ref r,evT ev] M = .ok .non M/\Ok (zbU kE kR [.ref r,evT ev] M) (Lv kE kR n b r (zag n R ev) M):=by
 refine ⟨?_,zpc h wn hB g.sb g.ri hc.c.ok⟩
 rcases hc with hf | ⟨⟨e,he⟩,hm⟩
 ·cases ev with
  | fresh=>exact zk9 h
  | _=>cases hf
 ·have:=zgq he hm
  exact zp7 h wn g.ri (by have:=g.sb.es;omega) this.1 he hm
theorem zor (wn:WN n) (ht:EvS t evs M) (v:VEv n (Run.new n) evs) (hl:evs.length<=2000):Ok (zd2 kE kR [qg n,t] M) fun u M'=>u = .ref M.length/\Kp M.length M M'/\∃ l,RunAt kE kR (qg n) M.length M.length l M' (qD n evs):=by
 obtain ⟨G,hs,hG,hlt⟩:=ht
 have cs:∀ {M':Mem},Kp M.length M M'->zbS G M':=fun k g hg=>by rw [k.2 g.1 (hlt g hg)];exact hG g hg
 refine yy rfl ?_
 unfold zh4
 obtain ⟨M1,e1,h1,k1⟩:=zo8 (kE:=kE) (kR:=kR) wn M (σ:=[some (qg n),some t,none,none]) rfl
 have hs1:ze9 t M1 = some (evs.map evT,G):=by
  cases t with
  | ref a=>
   have hs:(match M[a]? with
    | some (.lst xs)=>some (xs,[(a,xs)])
    | _=>none) = some (evs.map evT,G):=hs
   show (match M1[a]? with
    | some (.lst xs)=>some (xs,[(a,xs)])
    | _=>none) = _
   cases q:M[a]? with
   | none=>rw [q] at hs;cases hs
   | some c=>rw [k1.2 a (yA q)];exact hs
  | _=>exact hs
 simp_arith [e1,zdU,zg9,hs1]
 refine Ok.bind (Ok.forG (r:=evT) (xs:=evs) (fun k σ M'=>∃ o,σ = [some (qg n),some t,some (.ref M.length),o]/\Kp M.length M M'/\∃ l,RunAt kE kR (qg n) M.length M.length l M' (qD n (evs.take k))) (fun i σ M' h=>by obtain ⟨o,_,k,_⟩:=h;exact cs k) ⟨none,rfl,k1,_,h1⟩ ?_) ?_
 ·rintro k ev σ M2 hk ⟨o,rfl,k2,l2,h2⟩
  have hkl:=(List.getElem?_eq_some_iff.mp hk).1
  obtain ⟨c1,c2⟩:=zkw wn h2 (zbB wn v k (by omega)) (by omega) (v.at_ hk)
  unfold zgV
  simp_arith [c1]
  refine Ok.bind c2 ?_
  rintro u M3 ⟨rfl,k3,l3,h3⟩
  try simp_arith [and_self]
  refine Ok.ret ⟨_,rfl,_,rfl,k2.trans k3,l3,?_⟩
  unfold qD at h3 ⊢
  rw [zdb hk]
  exact h3
 ·rintro fl M' ⟨σ,rfl,o,rfl,k2,l2,h2⟩
  rw [take_length] at h2
  simp_arith [and_self]
  exact Ok.ret ⟨rfl,k2,l2,h2⟩
theorem zmH (h:Kp M.length M M'):M'.take M.length = M:=by
 refine ext_getElem? fun i=>?_
 by_cases z:i < M.length
 ·rw [List.getElem?_take_of_lt z];exact h.2 i z
 ·rw [getElem?_eq_none (by rw [Qr];omega),getElem?_eq_none (by omega)]
end
noncomputable def zdq (n:Net) (R:Run):List Evt:=.fresh :: (List.range R.es.length).flatMap (yX n R)
section
theorem zib (R:Run) (i:Nat):(yX n R i).length<=10:=Qj (List.length_filter_le _ _) (zjr i)
theorem zd1 (R:Run):∀ k,((List.range k).flatMap (yX n R)).length<=10 * k
 | 0=>by simp
 | k + 1=>by
  rw [range_succ,List.flatMap_append,Qn]
  have h1:=zd1 R k
  have h2:=zib (n:=n) R k
  have h3:([k].flatMap (yX n R)) = yX n R k:=by simp
  rw [h3]
  omega
theorem zqI (ev:Evt):FT.T.lt 0 (evT ev):=by
 cases ev with
 | fresh=>
  refine .tup fun u hu=>?_
  rw [mem_singleton.mp hu];exact .str _
 | ends i w=>
  refine .tup fun u hu=>?_
  simp only [mem_cons,not_mem_nil,or_false] at hu
  rcases hu with rfl | rfl | rfl
  ·exact .str _
  ·exact .int _
  ·exact .str _
 | lost i=>
  refine .tup fun u hu=>?_
  simp only [mem_cons,not_mem_nil,or_false] at hu
  rcases hu with rfl | rfl
  ·exact .str _
  ·exact .int _
 | again i=>
  refine .tup fun u hu=>?_
  simp only [mem_cons,not_mem_nil,or_false] at hu
  rcases hu with rfl | rfl
  ·exact .str _
  ·exact .int _
 | up i=>
  refine .tup fun u hu=>?_
  simp only [mem_cons,not_mem_nil,or_false] at hu
  rcases hu with rfl | rfl
  ·exact .str _
  ·exact .int _
theorem zhR (wn:WN n) (ht:EvS t evs M) (v:VEv n (Run.new n) evs) (hl:evs.length<=2000):Ok (zbe kE kR [qg n,t] M) fun u M'=>∃ a,u = .ref a/\M.length<=a/\M'[a]? = some (.lst ((zdq n (qD n evs)).map evT))/\Kp M.length M M':=by
 have g:=zbB wn v evs.length (Q3 _)
 rw [take_length] at g
 refine yy rfl ?_
 unfold zfH
 simp_arith [and_self]
 refine Ok.bind (zor wn ht v hl) ?_
 rintro u M1 ⟨rfl,k1,l1,h1⟩
 have hM1:=k1.1
 have ln:∀ cs,yx (.ref l1.a) (M1 ++ cs) = .ok (nT (qD n evs).es.length) (M1 ++ cs):=fun cs=>by
  unfold yx yS zq
  simp only [(h1.app cs).er]
  simp [h1.el]
 have rg:=fun (M:Mem)=>zal (M:=M) (j:=((qD n evs).es.length:Int)) (by have:=g.sb.es;omega)
 simp_arith [zp,(h1.app [.lst [.tup [.str "fresh"]]]).errands,ln,rg,Int.toNat_natCast]
 refine Ok.bind (Ok.for (r:=FT.T.int) (xs:=rgI (qD n evs).es.length) (fun k σ M'=>∃ o,σ = [some (qg n),some t,some (.ref M.length),some (.ref M1.length),o]/\M'[M1.length]? = some (.lst ((Evt.fresh :: (List.range k).flatMap (yX n (qD n evs))).map evT))/\RunAt kE kR (qg n) M.length M.length l1 M' (qD n evs)/\Kp M.length M M') ⟨none,rfl,yM,h1.app _,k1.trans (Kp.app _ _ hM1)⟩ ?_) ?_
 ·rintro k x σ M2 hx ⟨o,rfl,c2,h2,k2⟩
  obtain ⟨hk,rfl⟩:=zaE hx
  have he:(qD n evs).es[k]? = some (qD n evs).es[k]:=Q0 hk
  unfold ze3
  have ex:=zjk (ys:=(yX n (qD n evs) k).map evT) c2 (by
   rw [Qh,Qh,Qp]
   have:=zd1 (n:=n) (qD n evs) k
   have:=zib (n:=n) (qD n evs) k
   have:=g.sb.es
   omega)
  rw [← Qq,show (Evt.fresh :: (List.range k).flatMap (yX n (qD n evs))) ++ yX n (qD n evs) k = Evt.fresh :: (List.range (k + 1)).flatMap (yX n (qD n evs)) by rw [range_succ,List.flatMap_append];simp] at ex
  simp_arith [zaA,zgF c2,zia h2 wn g.ri he,ex]
  refine Ok.ret ⟨_,rfl,_,rfl,get_set c2,?_,k2.trans (Kp.set _ _ hM1)⟩
  refine ⟨fun p hp=>?_,h2.nd,h2.lo,h2.el,h2.pl,h2.tl⟩
  have:=h1.ho p hp
  have hlt:=yA this
  rw [Qc,if_neg (by omega)]
  exact h2.ho p hp
 ·rintro fl M2 ⟨σ,rfl,o,rfl,c2,h2,k2⟩
  rw [zam] at c2
  simp_arith [and_self]
  exact Ok.ret ⟨_,rfl,hM1,c2,k2⟩
theorem znq (h:ev ∈ zdq n R):Can n R ev:=by
 rcases mem_cons.mp h with rfl | h
 ·exact .inl rfl
 ·obtain ⟨i,hi,hm⟩:=List.mem_flatMap.mp h
  have hi:=mem_range.mp hi
  have he:R.es[i]? = some R.es[i]:=Q0 hi
  have:=zgq he hm
  exact .inr ⟨⟨_,by rw [this.2.1];exact he⟩,by rw [this.2.1];exact hm⟩
end
variable {d:Int} {xs:List Int}
section
theorem zhV (c:Int) (M:Mem):zcd kE kR [.int c] M = .ok (.ref M.length) (M ++ [(Po.new c).cell]):=by
 unfold zcd zjg
 simp_arith [and_self]
 rw [show Po.new c = ⟨if c - 10 ^ 18 > 0 then c - 10 ^ 18 else 0,c % 10 ^ 18,0⟩ from rfl,Q9 _ (by decide)]
 rfl
theorem zkF (p:Po) (a:Nat) (base:Int) (M:Mem) (e:M[a]? = some p.cell) (h:0 < base) (hb:base.natAbs < 10 ^ 100):zA kE kR [.ref a,.int base] M = .ok (.int (p.dig base)) (M.set a (p.nxt base).cell):=by
 unfold zA zh5
 have ha:a < M.length:=(List.getElem?_eq_some_iff.mp e).1
 have hd:∀ i M,zex (.int i) (.int base) M = .ok (.int (i.fdiv base)) M:=fun i M=>zgs (zmx 100 (by decide) (by omega) hb)
 have hm:∀ i M,zbR (.int i) (.int base) M = .ok (.int (i.fmod base)) M:=fun i M=>zi5 (by omega)
 by_cases hp:0 < p.a
 ·simp_arith [e,Po.cell,hd,hm,Qv hp]
  unfold Po.dig Po.nxt
  rw [if_pos hp,if_pos hp,Q9 _ (by omega),Int.fdiv_eq_ediv_of_nonneg _ (by omega)]
 ·have hs:∀ c:Cell,(M.set a c)[a]? = some c:=fun c=>by rw [Qc,if_pos rfl,if_pos ha]
  have h1:∀ j M,z6 (.int 7919) (.int j) M = .ok (.int (7919 * j)) M:=fun j M=>zbQ (by decide)
  have hx:∀ x:Int,0<=x.fmod 1000000007/\x.fmod 1000000007 < 1000000007:=fun x=>by rw [Q9 _ (by decide)];omega
  have hy:∀ x:Int,0<=x.fmod 998244353/\x.fmod 998244353 < 998244353:=fun x=>by rw [Q9 _ (by decide)];omega
  have h2:∀ (x y:Int) M,z6 (.int (x.fmod 1000000007 + 11)) (.int y) M = .ok (.int ((x.fmod 1000000007 + 11) * y)) M:=fun x y M=>zbQ (by have:=hx x;omega)
  have h3:∀ (x y:Int) M,z6 (.int (x.fmod 998244353)) (.int y) M = .ok (.int (x.fmod 998244353 * y)) M:=fun x y M=>zbQ (by have:=hy x;omega)
  simp_arith [e,Po.cell,hd,hm,Qw hp,hs,h1,h2,h3]
  unfold Po.dig Po.nxt
  rw [if_neg hp,if_neg hp]
  simp only [Q9 _ (show (0:Int)<=1000000007 by decide),Q9 _ (show (0:Int)<=998244353 by decide),Q9 _ (show (0:Int)<=2147483647 by decide),Int.fdiv_eq_ediv_of_nonneg _ (show (0:Int)<=8 by decide),Q9 _ (show (0:Int)<=base by omega)]
def PO (a:Nat) (M:Mem):Prop:=∃ p:Po,M[a]? = some p.cell
theorem PO.fr {a:Nat} (h:PO a M) {S:List Nat} (f:Fr S M M') (hs:a ∉ S):PO a M':=by
 obtain ⟨p,e⟩:=h
 exact ⟨p,f.get e hs⟩
theorem qI {a:Nat} {base:Int} (e:PO a M) (h:0 < base) (hb:base.natAbs < 10 ^ 100) :
  Ok (zA kE kR [.ref a,.int base] M) fun t M'=>∃ d:Int,t = .int d/\0<=d/\d < base/\PO a M'/\Fr [a] M M':=by
 obtain ⟨p,e⟩:=e
 exact Ok.of (zkF p a base M e h hb) ⟨_,rfl,p.dig_lo h,p.dig_hi h,⟨_,get_set e⟩,Fr.set _ _ _⟩
theorem PO.app {c:Int}:PO M.length (M ++ [(Po.new c).cell]):=⟨_,yM⟩
theorem zjq {ns:List Int} {n:Nat} (hn:n<=1000) (M:Mem):∃ c,zbC kE kR [.lst (ns.map .int),.int (n:Int)] M = .ok (.int c) M:=by
 unfold zbC zh6
 by_cases h:n < ns.length
 ·refine ⟨ns[n],?_⟩
  have a:atI (ns.map FT.T.int) (n:Int) = some (.int ns[n]):=by rw [FT.zbh];simp [h]
  have d:decide ((n:Int) < ((ns.map FT.T.int).length:Int)) = true:=Qv (by rw [Qh];omega)
  simp_arith [d,a]
 ·have d:decide ((n:Int) < ((ns.map FT.T.int).length:Int)) = false:=Qw (by rw [Qh];omega)
  have m1:∀ M,z6 (.int 7919) (.int (n:Int)) M = .ok (.int (7919 * (n:Int))) M:=fun M=>zbQ (by decide)
  have m2:∀ M,z6 (.int (7919 * (n:Int))) (.int (n:Int)) M = .ok (.int (7919 * (n:Int) * (n:Int))) M:=fun M=>zbQ (by omega)
  have m3:∀ M,z6 (.int 31) (.int (n:Int)) M = .ok (.int (31 * (n:Int))) M:=fun M=>zbQ (by decide)
  exact ⟨7919 * (n:Int) * (n:Int) + 31 * (n:Int),by simp_arith [d,m1,m2,m3]⟩
theorem pick (h0:0<=d) (h1:d < xs.length):∃ v ∈ xs,atI (xs.map FT.T.int) d = some (.int v):=by
 obtain ⟨x,h1,h2⟩:=zlf (xs:=xs.map FT.T.int) h0 (by simpa using h1)
 obtain ⟨v,hv,rfl⟩:=mem_map.mp h2
 exact ⟨v,hv,h1⟩
theorem zeG (lo hi:Int) (h0:0<=d) (h1:d < xs.length) (h:xs.all (fun v=>decide (lo<=v/\v<=hi)) = true):∃ v:Int,atI (xs.map FT.T.int) d = some (.int v)/\lo<=v/\v<=hi:=by
 obtain ⟨v,hv,e⟩:=pick h0 h1
 have:=all_eq_true.mp h v hv
 exact ⟨v,e,of_decide_eq_true this⟩
theorem zhe {b:Int} (h0:0 < b) (h:b<=10 ^ 40):b.natAbs < 10 ^ 100:=by
 refine Nat.lt_of_le_of_lt (show b.natAbs<=10 ^ 40 from ?_) (Nat.pow_lt_pow_right (by decide) (by decide))
 simp only [Int.reducePow] at h
 simp only [Nat.reducePow]
 omega
theorem zmp {xs:List Str} (h0:0<=d) (h1:d < xs.length):∃ v ∈ xs,atI (xs.map FT.T.str) d = some (.str v):=by
 obtain ⟨x,h1,h2⟩:=zlf (xs:=xs.map FT.T.str) h0 (by simpa using h1)
 obtain ⟨v,hv,rfl⟩:=mem_map.mp h2
 exact ⟨v,hv,h1⟩
theorem zqz {b:Int} (h0:0<=b) (h1:b < 3):∃ v:Str,(v = "bad"\/v = "spent")/\atI [FT.T.str "bad",.str "bad",.str "spent"] b = some (.str v):=by
 have:b = 0\/b = 1\/b = 2:=by omega
 rcases this with rfl | rfl | rfl
 ·exact ⟨_,.inl rfl,rfl⟩
 ·exact ⟨_,.inl rfl,rfl⟩
 ·exact ⟨_,.inr rfl,rfl⟩
end
end My
namespace FT
open PySem L2
variable {σ:Ev} {p q:Ev->Mem->Out Fl} {Q:Fl->Mem->Prop} {M:Mem}
theorem Ok.seqX (h:∀ X,X = zbL q->Ok ((p σ M).bind X) Q):Ok (yh p q σ M) Q:=h _ rfl
theorem Ok.seqR {Q:T->Mem->Prop} (h:∀ X,X = (fun fl M=>(zbL q fl M).bind zb9)->Ok ((p σ M).bind X) Q):Ok ((yh p q σ M).bind zb9) Q:=by
 have:=h _ rfl
 unfold yh
 rw [zmi]
 exact this
theorem Ok.seqP (P:Fl->Mem->Prop) (h:Ok (p σ M) P) (g:∀ fl M',P fl M'->Ok (zbL q fl M') Q):Ok (yh p q σ M) Q:=Ok.bind h g
end FT
namespace My
open PySem L2 FT
noncomputable abbrev S (l:List Nat):Str:=⟨l.toArray⟩
theorem zdg (l:List Nat):(S l).length = l.length:=by simp [Str.length]
theorem sz {n:Nat} (h:n<=10000):n<=sizeLine:=by rw [sizeLine_eq];omega
variable {l:List Nat}
theorem zrA (h:l.length<=10000) (M:Mem):yx (.str (S l)) M = .ok (.int (l.length:Int)) M:=by
 unfold yx
 dsimp only
 rw [zdg,if_pos (sz h)]
noncomputable def isL (c:Nat):Bool:=decide (97<=c/\c<=122)
noncomputable def isW (l:List Nat):Bool:=decide (1<=l.length/\l.length<=8) && l.all isL
theorem adE {m:List Nat} (h:l.length + m.length<=10000) (M:Mem):yN (.str (S l)) (.str (S m)) M = .ok (.str (S (l ++ m))) M:=by
 unfold yN
 dsimp only
 rw [if_pos (sz (by rw [zdg,zdg];exact h))]
 congr 2
 show Str.append _ _ = _
 unfold Str.append
 simp
theorem zom (zs:List Str):ze8 (zs.map FT.T.str) = some zs:=by
 induction zs with
 | nil=>rfl
 | cons z zs ih=>simp only [map_cons,ze8,ih,Option.map_some]
theorem znB (x:Str) (M:Mem):isStr (.str x) M = true:=rfl
theorem zkO:∀ (cs:List Nat) (acc:Array Nat),(cs.map fun c=>S [c]).foldl (fun acc p=>acc ++ (Str.ofString "").cps ++ p.cps) acc = acc ++ cs.toArray
 | [],acc=>by simp
 | c :: cs,acc=>by
  rw [map_cons,List.foldl_cons,zkO cs]
  simp [show (Str.ofString "").cps = #[] by decide]
theorem zqK (cs:List Nat):Txt.join "" (cs.map fun c=>S [c]) = S cs:=by
 unfold Txt.join Builtin.Str.glued
 cases cs with
 | nil=>rfl
 | cons c cs=>
  show Str.mk _ = _
  congr 1
  rw [map_cons,List.headD_cons,List.drop_succ_cons,drop_zero,zkO]
  simp
theorem join_eq {cs:List Nat} (h:cs.length<=10) (M:Mem):zeK (.str "") [.lst (cs.map fun c=>.str (S [c]))] M = .ok (.str (S cs)) M:=by
 have e:(cs.map fun c=>FT.T.str (S [c])) = (cs.map fun c=>S [c]).map FT.T.str:=by rw [map_map];rfl
 have hs:((cs.map fun c=>S [c]).map (·.length)).sum = cs.length:=by
  clear h e
  induction cs with
  | nil=>rfl
  | cons c cs ih=>simp only [map_cons,List.sum_cons,Qp,ih];show 1 + cs.length = _;omega
 rw [e]
 unfold zeK
 simp only [zq,zom]
 rw [if_pos (by rw [hs,show (Str.ofString "").length = 0 from rfl];omega),zqK]
theorem zqo:∀ n:Nat,n < 7->∀ a:Nat,a < n + 1->Builtin.Str.strSliceIndices none (some (a:Int)) 1 n = List.range a:=by decide +kernel
theorem zqp:∀ n:Nat,n < 7->∀ a:Nat,a < n + 1->Builtin.Str.strSliceIndices (some (a:Int)) none 1 n = (List.range (n - a)).map (· + a):=by decide +kernel
theorem zp8:∀ n:Nat,n < 26->atI (Str.ofString "abcdefghijklmnopqrstuvwxyz").cps.toList (n:Int) = some (97 + n):=by decide +kernel
theorem zdV (r:List Nat):∀ n,(List.range n).filterMap (fun k=>r[k]?) = r.take n
 | 0=>by simp
 | n + 1=>by
  rw [range_succ,List.filterMap_append,zdV r n,take_succ]
  congr 1
theorem zp5 (hl:l.length<=6) {a:Nat} (ha:a<=l.length) (M:Mem):zdr (.str (S l)) none (some (a:Int)) M = .ok (.str (S (l.take a))) M:=by
 have e:Txt.slice (S l) none (some (a:Int)) = S (l.take a):=by
  unfold Txt.slice
  rw [zdg,zqo _ (by omega) a (by omega),length_range]
  split
  ·rename_i h
   have:a = l.length:=by simpa using h
   rw [this,take_length]
  ·congr 1
   rw [show (fun x=>(S l).cps[x]?) = fun k=>l[k]? from by funext k;simp,zdV]
 unfold zdr
 dsimp only
 rw [if_pos (sz (by rw [zdg];omega)),e]
theorem zp6 (hl:l.length<=6) {a:Nat} (ha:a<=l.length) (M:Mem):zdr (.str (S l)) (some (a:Int)) none M = .ok (.str (S (l.drop a))) M:=by
 have e:Txt.slice (S l) (some (a:Int)) none = S (l.drop a):=by
  unfold Txt.slice
  rw [zdg,zqp _ (by omega) a (by omega),Qh,length_range]
  split
  ·rename_i h
   have:a = 0:=by simp at h;omega
   rw [this,drop_zero]
  ·congr 1
   rw [List.filterMap_map,show ((fun x=>(S l).cps[x]?) ∘ fun x=>x + a) = fun k=>(l.drop a)[k]? from by funext k;simp [Nat.add_comm],zdV]
   rw [take_of_length_le (by rw [length_drop];omega)]
 unfold zdr
 dsimp only
 rw [if_pos (sz (by rw [zdg];omega)),e]
theorem zhX {d:Int} (h0:0<=d) (h:d < 26) (M:Mem):ixS (.str "abcdefghijklmnopqrstuvwxyz") (.int d) M = .ok (.str (S [97 + d.toNat])) M:=by
 obtain ⟨n,rfl⟩:∃ n:Nat,d = n:=⟨d.toNat,by omega⟩
 unfold ixS
 simp only [zp8 n (by omega)]
 exact if_pos (sz (by decide))
theorem zpa (c:Nat) (k:Nat) (M:Mem):zgf (.str (S [c])) (.int ((k % 2:Nat):Int)) M = .ok (.str (S (if k % 2 = 1 then [c] else []))) M:=by
 have h:k % 2 = 0\/k % 2 = 1:=by omega
 unfold zgf
 dsimp only
 rcases h with h | h
 ·rw [h,if_pos (by refine ⟨by decide,fun z _=>absurd (by decide) z,fun z _=>absurd (by decide) z⟩)]
  rfl
 ·rw [h,if_pos (by refine ⟨by decide,fun _ h=>by simp at h,fun _ h=>by simp at h⟩)]
  rfl
noncomputable def nmL (b:List Nat) (a f k:Nat):List Nat:=b.take a ++ [97 + (f + 5 * k) % 26] ++ b.drop a ++ (if k % 2 = 1 then [97 + f] else [])
theorem zeH (b:List Nat) (a f k:Nat):(nmL b a f k).length = b.length + 1 + k % 2:=by
 have h:k % 2 = 0\/k % 2 = 1:=by omega
 unfold nmL
 rw [Qn,Qn,Qn,Qr,length_drop,Qt]
 rcases h with h | h <;> (rw [h];simp;omega)
variable {f:Nat}
theorem zqH {b:List Nat} (hb:b.all isL = true) (h6:b.length<=6) {a k:Nat} (hf:f < 26):isW (nmL b a f k) = true:=by
 unfold isW
 rw [zeH,Qs]
 refine ⟨Qv (by omega),all_eq_true.mpr fun c hc=>?_⟩
 have hb:=all_eq_true.mp hb
 unfold nmL at hc
 rcases mem_append.mp hc with hc | hc
 ·rcases mem_append.mp hc with hc | hc
  ·rcases mem_append.mp hc with hc | hc
   ·exact hb c (List.mem_of_mem_take hc)
   ·rw [mem_singleton.mp hc];exact Qv (by omega)
  ·exact hb c (List.mem_of_mem_drop hc)
 ·split at hc
  ·rw [mem_singleton.mp hc];exact Qv (by omega)
  ·cases hc
variable {i j:Nat}
theorem zo7 {b:List Nat} {a:Nat} (hf:f < 26) (hij:i < j) (hj:j < 4) (e:nmL b a f i = nmL b a f j):False:=by
 have hl:=congrArg List.length e
 rw [zeH,zeH] at hl
 unfold nmL at e
 rw [show i % 2 = j % 2 by omega] at e
 have e1:=List.append_cancel_right e
 have e2:=List.append_cancel_right e1
 have e3:=List.append_cancel_left e2
 have e4:97 + (f + 5 * i) % 26 = 97 + (f + 5 * j) % 26:=by simpa using e3
 have:j = i + 2:=by omega
 omega
noncomputable def nmS (b:List Nat) (a f n:Nat):List Str:=(List.range n).map fun k=>S (nmL b a f k)
theorem zo6 {b:List Nat} {a n:Nat} (hf:f < 26) (hn:n<=4):(nmS b a f n).Nodup:=by
 unfold nmS
 refine List.pairwise_map.mpr (List.Pairwise.imp_of_mem ?_ (List.pairwise_lt_range (n:=n)))
 intro i j hi hj hlt e
 have e:=congrArg (fun s:Str=>s.cps.toList) e
 simp at e
 exact zo7 hf hlt (by have:=mem_range.mp hj;omega) e
structure Nms (ws:List Str):Prop where
 nd:ws.Nodup
 w:∀ x ∈ ws,∃ l,x = S l/\isW l = true
 ln:∃ h,∀ x ∈ ws,x.length = h\/x.length = h + 1
theorem zo5 {b:List Nat} (hb:b.all isL = true) (h6:b.length<=6) {a n:Nat} (hf:f < 26) (hn:n<=4):Nms (nmS b a f n):=⟨zo6 hf hn,fun x hx=>by
 obtain ⟨k,_,rfl⟩:=mem_map.mp hx
 exact ⟨_,rfl,zqH hb h6 hf⟩,b.length + 1,fun x hx=>by
 obtain ⟨k,_,rfl⟩:=mem_map.mp hx
 rw [zdg,zeH]
 omega⟩
variable {kE kR:Addr} {M:Mem}
section
theorem zhh {a:Nat} (e:PO a M) {n:Nat} (hn:n<=4):Ok (zcr kE kR [.ref a,.int (n:Int)] M) fun t M'=>∃ w ws,t = .ref w/\M'[w]? = some (.lst (ws.map .str))/\M.length<=w/\Nms ws/\ws.length = n/\PO a M'/\Fr [a] M M':=by
 refine yy rfl ?_
 unfold zgI
 have ha:a < M.length:=by obtain ⟨p,e⟩:=e;exact yA e
 rw [show startT 9 [.ref a,.int (n:Int)] = [some (.ref a),some (.int (n:Int)),none,none,none,none,none,none,none] from rfl]
 refine Ok.seqR fun X hX=>?_
 simp_arith [and_self]
 rw [hX];clear hX;simp only [qf]
 refine Ok.seqR fun X hX=>?_
 simp_arith [zaA,znB]
 refine Ok.bind (qI e (by decide) (by decide)) ?_
 rintro t M1 ⟨m,rfl,m0,m1,p1,f1⟩
 simp_arith [zal (show -(2 ^ 62)<=m/\m < 2 ^ 62 by omega)]
 refine Ok.bind (Ok.comp (r:=FT.T.int) (fun i acc σ M'=>(∃ cs:List Nat,acc = cs.map (fun c=>.str (S [c]))/\cs.length = i/\cs.all isL = true)/\(∃ o,σ = [o,some (.str "abcdefghijklmnopqrstuvwxyz"),some (.ref a)])/\PO a M'/\Fr [a] M M') (rgI m.toNat) 0 [] ⟨⟨[],rfl,rfl,rfl⟩,⟨_,rfl⟩,p1,f1⟩ (by rw [zam];exact sz (by simp;omega)) ?_) ?_
 ·rintro k x σ M2 acc hk ⟨⟨cs,rfl,hz,h1⟩,⟨o,rfl⟩,p2,f2⟩
  simp_arith [and_self]
  refine Ok.bind (qI p2 (by decide) (by decide)) ?_
  rintro t M3 ⟨d,rfl,d0,d1,p3,f3⟩
  simp_arith [zhX d0 d1]
  refine Ok.ret ⟨⟨cs ++ [97 + d.toNat],by simp,by simp [hz],?_⟩,⟨_,rfl⟩,p3,f2.trans f3⟩
  rw [List.all_append,h1]
  simp only [all_cons,List.all_nil,Bool.true_and,Bool.and_true]
  exact Qv (by omega)
 rintro ts M2 ⟨σ,⟨b,rfl,hz,hb⟩,_,p2,f2⟩
 rw [Nat.zero_add,zam] at hz
 have hb6:b.length<=6:=by omega
 simp_arith [join_eq (cs:=b) (by omega)]
 rw [hX];clear hX;simp only [qf]
 refine Ok.seqR fun X hX=>?_
 simp_arith [zrA (l:=b) (by omega)]
 refine Ok.bind (qI p2 (by omega) (zhe (by omega) (by omega))) ?_
 rintro t M3 ⟨av,rfl,a0,a1,p3,f3⟩
 obtain ⟨at_,rfl⟩:∃ at_:Nat,av = at_:=⟨av.toNat,by omega⟩
 try simp_arith [and_self]
 rw [hX];clear hX;simp only [qf]
 refine Ok.seqR fun X hX=>?_
 simp_arith [and_self]
 refine Ok.bind (qI p3 (by decide) (by decide)) ?_
 rintro t M4 ⟨fv,rfl,f0,f1',p4,f4⟩
 obtain ⟨f,rfl⟩:∃ f:Nat,fv = f:=⟨fv.toNat,by omega⟩
 try simp_arith [and_self]
 rw [hX];clear hX;simp only [qf]
 refine Ok.seqR fun X hX=>?_
 simp_arith [and_self]
 rw [hX];clear hX;simp only [qf]
 have fr4:Fr [a] M M4:=(f2.trans f3).trans f4
 have l4:=fr4.1
 refine Ok.seqR fun X hX=>?_
 simp_arith [zal (M:=M4 ++ [.lst []]) (j:=(n:Int)) (by omega),Int.toNat_natCast]
 refine Ok.bind (Ok.for (r:=FT.T.int) (xs:=rgI n) (fun k σ M'=>(∃ o7 o8,σ = [some (.ref a),some (.int (n:Int)),some (.str "abcdefghijklmnopqrstuvwxyz"),some (.str (S b)),some (.int (at_:Int)),some (.int (f:Int)),some (.ref M4.length),o7,o8])/\M' = M4 ++ [.lst ((nmS b at_ f k).map .str)]) ⟨⟨none,none,rfl⟩,rfl⟩ ?_) ?_
 ·rintro k x σ M5 hx ⟨⟨o7,o8,rfl⟩,rfl⟩
  obtain ⟨hk,rfl⟩:=zaE hx
  unfold zfR
  have m1:∀ M,z6 (.int 5) (.int (k:Int)) M = .ok (.int (5 * (k:Int))) M:=fun M=>zbQ (by decide)
  have hd:((f:Int) + 5 * (k:Int)).fmod 26 = (((f + 5 * k) % 26:Nat):Int):=by rw [Q9 _ (by decide)];omega
  have hk2:((k:Int)).fmod 2 = ((k % 2:Nat):Int):=by rw [Q9 _ (by decide)];omega
  have c1:=fun M=>zp5 (l:=b) hb6 (a:=at_) (by omega) M
  have c2:=fun M=>zp6 (l:=b) hb6 (a:=at_) (by omega) M
  have x1:=fun M=>zhX (d:=(((f + 5 * k) % 26:Nat):Int)) (by omega) (by omega) M
  have x2:=fun M=>zhX (d:=(f:Int)) (by omega) (by omega) M
  rw [Int.toNat_natCast] at x1
  rw [Int.toNat_natCast] at x2
  have y1:=fun M=>adE (l:=b.take at_) (m:=[97 + (f + 5 * k) % 26]) (by rw [Qr,Qt];omega) M
  have y2:=fun M=>adE (l:=b.take at_ ++ [97 + (f + 5 * k) % 26]) (m:=b.drop at_) (by rw [Qn,Qr,Qt,length_drop];omega) M
  have y3:=fun M=>adE (l:=b.take at_ ++ [97 + (f + 5 * k) % 26] ++ b.drop at_) (m:=if k % 2 = 1 then [97 + f] else []) (by
   have:(if k % 2 = 1 then [97 + f] else []).length<=1:=by split <;> simp
   rw [Qn,Qn,Qr,Qt,length_drop];omega) M
  have z1:=fun M=>zpa (97 + f) k M
  have g:(M4 ++ [Cell.lst ((nmS b at_ f k).map .str)])[M4.length]? = some (.lst ((nmS b at_ f k).map .str)):=yM
  have hl:((nmS b at_ f k).map FT.T.str).length < sizeLine:=by
   unfold nmS
   rw [Qh,Qh,length_range,sizeLine_eq]
   omega
  refine Ok.seqX fun X hX=>?_
  simp_arith [zig,m1,hd,c1,c2,x1,y1,y2]
  rw [hX];clear hX;simp only [qf]
  simp_arith [zF g,x2,hk2,z1,y3,zP g hl]
  refine Ok.ret ⟨_,rfl,⟨_,_,rfl⟩,?_⟩
  rw [set_append_right _ _ (Q3 _),Qu]
  unfold nmS
  rw [range_succ,Qq,Qq]
  rfl
 rintro fl M5 ⟨σ,rfl,⟨o7,o8,rfl⟩,rfl⟩
 rw [zam]
 rw [hX];clear hX;simp only [qf]
 simp_arith [and_self]
 refine Ok.ret ⟨M4.length,nmS b at_ f n,rfl,yM,l4,zo5 hb hb6 (by omega) hn,by simp [nmS],p4.fr (Fr.app _ _) (by simp),fr4.tr (Fr.app _ _) (by simp)⟩
end
variable {P:FT.T} {pn:List Str}
section
def PV (P:FT.T) (pn:List Str) (a:Nat) (M:Mem):Prop:=P = .lst (pn.map .str)\/∃ w,P = .ref w/\w ≠ a/\M[w]? = some (.lst (pn.map .str))
theorem PV.lst {a:Nat} (h:PV P pn a M):zq P M = some (pn.map .str):=by
 rcases h with rfl | ⟨w,rfl,_,h3⟩
 ·rfl
 ·unfold zq;simp only [h3]
theorem PV.len {a:Nat} (h:PV P pn a M):yx P M = .ok (nT pn.length) M:=by
 rcases h with rfl | ⟨w,rfl,_,h3⟩
 ·rw [zlP,Qh]
 ·rw [zfi h3,Qh]
structure AO (later pn:List Str) (q:Ask):Prop where
 to:q.to ∈ later
 t0:0<=q.tries
 t4:q.tries<=4
 pu:∀ s,q.purse = some s->s ∈ pn
 wo:q.word = "bad"\/q.word = "spent"
theorem zky (l:List FT.T) (M:Mem):neA (.lst l) (.lst []) M = .ok (.bl (!l.isEmpty)) M:=by cases l <;> rfl
theorem zpr (b:Bool) (M:Mem):zjR (.bl b) M = .ok (.int (if b then 1 else 0)) M:=rfl
theorem zgg {i j:Int} :zgh (.int i) (.int j) M = .ok (.int (if j < i then j else i)) M:=rfl
theorem zob {a:Nat} (e:PO a M) {later:List Str} (hP:PV P pn a M) (hl:later.length<=4) (hp:pn.length<=2) {most:Nat} (hm:most<=3) :
  Ok (zd3 kE kR [.ref a,.lst (later.map .str),P,.int (most:Int)] M) fun t M'=>∃ as:List Ask,t = .tup (as.map yu)/\as.length<=most/\(∀ q ∈ as,AO later pn q)/\PO a M'/\Fr [a] M M':=by
 refine yy rfl ?_
 unfold zh7
 have ha:a < M.length:=by obtain ⟨p,e⟩:=e;exact yA e
 rw [show startT 10 [.ref a,.lst (later.map .str),P,.int (most:Int)] = [some (.ref a),some (.lst (later.map .str)),some P,some (.int (most:Int)),none,none,none,none,none,none] from rfl]
 refine Ok.seqR fun X hX=>?_
 simp_arith [and_self]
 rw [hX];clear hX;simp only [qf]
 have pf:Fr [a] M (M ++ [Cell.lst []]):=(Fr.app _ _).mono
 refine Ok.seqR fun X hX=>?_
 simp_arith [and_self]
 refine Ok.bind (qI (e.fr (Fr.app _ [Cell.lst []]) (by simp)) (by decide) (by decide)) ?_
 rintro t M1 ⟨d,rfl,d0,d1,p1,f1⟩
 obtain ⟨v,hv,v0,v3⟩:=zeG (xs:=[1,1,2,2,3,0,2,1]) 0 3 d0 d1 rfl
 simp only [map_cons,map_nil] at hv
 obtain ⟨n,hn,hnl,hn0⟩:∃ n:Nat,(if v < (most:Int) then v else (most:Int)) * (if (!(later.map FT.T.str).isEmpty) = true then 1 else 0) = (n:Int)/\n<=most/\(later = []->n = 0):=by
  cases later with
  | nil=>exact ⟨0,by simp,Nat.zero_le _,fun _=>rfl⟩
  | cons x xs=>
   simp only [map_cons,List.isEmpty_cons,Bool.not_false,if_true,Int.mul_one]
   refine ⟨(if v < (most:Int) then v else (most:Int)).toNat,?_,?_,fun h=>by cases h⟩
   ·split <;> omega
   ·split <;> omega
 have ml:∀ (x y:Int) M,(x = if v < (most:Int) then v else (most:Int))->z6 (.int x) (.int y) M = .ok (.int (x * y)) M:=fun x y M h=>zbQ (by rw [h];split <;> omega)
 simp_arith [hv,zgg,zky,zpr,ml _ _ _ rfl,hn,zal (M:=M1) (j:=(n:Int)) (by omega),Int.toNat_natCast]
 refine Ok.bind (Ok.for (r:=FT.T.int) (xs:=rgI n) (fun k σ M'=>(∃ o5 o6 o7 o8 o9,σ = [some (.ref a),some (.lst (later.map .str)),some P,some (.int (most:Int)),some (.ref M.length),o5,o6,o7,o8,o9])/\(∃ as:List Ask,M'[M.length]? = some (.lst (as.map yu))/\as.length = k/\∀ q ∈ as,AO later pn q)/\PO a M'/\Fr [a,M.length] (M ++ [Cell.lst []]) M') ⟨⟨_,_,_,_,_,rfl⟩,⟨[],f1.get yM (by simp;omega),rfl,fun q h=>by cases h⟩,p1,f1.sub (by simp)⟩ ?_) ?_
 ·rintro k x σ M2 hx ⟨⟨o5,o6,o7,o8,o9,rfl⟩,⟨as,g2,hk,hao⟩,p2,f2⟩
  obtain ⟨hkn,rfl⟩:=zaE hx
  have hlr:later ≠ []:=fun z=>by have:=hn0 z;omega
  have hl0:0 < later.length:=by cases later with | nil=>exact absurd rfl hlr | cons _ _=>simp
  have hPk:∀ {M'},Fr [a,M.length] (M ++ [Cell.lst []]) M'->PV P pn a M':=fun {M'} f=>by
   rcases hP with h | ⟨w,h1,h2,h3⟩
   ·exact .inl h
   ·have:=yA h3
    exact .inr ⟨w,h1,h2,f.get ((Fr.app M [Cell.lst []]).get0 h3) (by simp;omega)⟩
  unfold zgW
  refine Ok.seqX fun X hX=>?_
  simp_arith [Qh]
  refine Ok.bind (qI p2 (by omega) (zhe (by omega) (by omega))) ?_
  rintro t M3 ⟨w,rfl,w0,w1,p3,f3⟩
  obtain ⟨to,hto,hat⟩:=zmp (xs:=later) w0 w1
  simp_arith [hat]
  rw [hX];clear hX;simp only [qf]
  refine Ok.seqX fun X hX=>?_
  simp_arith [and_self]
  refine Ok.bind (qI p3 (by decide) (by decide)) ?_
  rintro t M4 ⟨w',rfl,w0',w1',p4,f4⟩
  obtain ⟨tr,htr,tr0,tr4⟩:=zeG (xs:=[1,2,2,3,4,0,0,1]) 0 4 w0' w1' rfl
  simp only [map_cons,map_nil] at htr
  simp_arith [htr]
  rw [hX];clear hX;simp only [qf]
  have f24:Fr [a,M.length] (M ++ [Cell.lst []]) M4:=(f2.tr f3 (by simp)).tr f4 (by simp)
  have P4:=hPk f24
  have rp:zf7 P (.int 2) M4 = .ok (pn.map FT.T.str ++ pn.map FT.T.str) M4:=by
   unfold zf7
   simp only [P4.lst]
   rw [if_pos ⟨by decide,by decide,by rw [Qh];omega⟩]
   simp [List.replicate]
  have ct:zez (.lst [.non]) (.lst (pn.map FT.T.str ++ pn.map FT.T.str)) M4 = .ok (.non :: (pn.map FT.T.str ++ pn.map FT.T.str)) M4:=by
   show (if _ then _ else _) = _
   rw [if_pos (by rw [Qn,Qh,Qt,sizeLine_eq];omega)]
   rfl
  have m2:∀ M,z6 (.int 2) (nT pn.length) M = .ok (.int (2 * (pn.length:Int))) M:=fun M=>zbQ (by decide)
  refine Ok.seqX fun X hX=>?_
  simp_arith [rp,ct,P4.len,m2]
  refine Ok.bind (qI p4 (by omega) (zhe (by omega) (by omega))) ?_
  rintro t M5 ⟨z,rfl,z0,z1,p5,f5⟩
  obtain ⟨pu,hpu,hpm⟩:∃ pu:Option Str,atI (FT.T.non :: (pn.map FT.T.str ++ pn.map FT.T.str)) z = some (opS pu)/\∀ s,pu = some s->s ∈ pn:=by
   obtain ⟨zz,rfl⟩:=Int.eq_ofNat_of_zero_le z0
   rw [FT.zbh]
   cases zz with
   | zero=>exact ⟨none,rfl,fun s h=>by cases h⟩
   | succ zz=>
    have hz:zz < (pn ++ pn).length:=by rw [Qn];omega
    rw [getElem?_cons_succ,← Qq,Qb,Q0 hz]
    exact ⟨some (pn ++ pn)[zz],rfl,fun s h=>by cases h;exact (mem_append.mp (getElem_mem hz)).elim id id⟩
  simp_arith [hpu]
  rw [hX];clear hX;simp only [qf]
  refine Ok.seqX fun X hX=>?_
  simp_arith [and_self]
  refine Ok.bind (qI p5 (by decide) (by decide)) ?_
  rintro t M6 ⟨y,rfl,y0,y1,p6,f6⟩
  obtain ⟨wo,hwo,hwa⟩:=zqz y0 y1
  simp_arith [hwa]
  rw [hX];clear hX;simp only [qf]
  have f26:Fr [a,M.length] (M ++ [Cell.lst []]) M6:=(f24.tr f5 (by simp)).tr f6 (by simp)
  have g6:M6[M.length]? = some (.lst (as.map yu)):=f6.get (f5.get (f4.get (f3.get g2 (by simp;omega)) (by simp;omega)) (by simp;omega)) (by simp;omega)
  simp_arith [zF g6]
  refine Ok.bind (qI p6 (by decide) (by decide)) ?_
  rintro t M7 ⟨b1,rfl,b10,b11,p7,f7⟩
  simp_arith [and_self]
  refine Ok.bind (qI p7 (by decide) (by decide)) ?_
  rintro t M8 ⟨b2,rfl,b20,b21,p8,f8⟩
  have g8:M8[M.length]? = some (.lst (as.map yu)):=f8.get (f7.get g6 (by simp;omega)) (by simp;omega)
  obtain ⟨q0,hq0⟩:∃ q0:Ask,q0 = ⟨to,tr,pu,wo,b1 == 0,b2 == 0⟩:=⟨_,rfl⟩
  have ap:=zP (t:=yu q0) g8 (by rw [Qh,sizeLine_eq];omega)
  rw [show as.map yu ++ [yu q0] = (as ++ [q0]).map yu from by simp,show yu q0 = .tup [.str to,.int tr,opS pu,.str wo,.bl (b1 == 0),.bl (b2 == 0)] from by rw [hq0];rfl] at ap
  simp_arith [ap]
  refine Ok.ret ⟨_,rfl,⟨_,_,_,_,_,rfl⟩,⟨as ++ [q0],get_set g8,by simp [hk],fun q hq=>?_⟩,p8.fr (Fr.set _ _ _) (by simp;omega),((f26.tr f7 (by simp)).tr f8 (by simp)).tr (Fr.set _ _ _) (by simp)⟩
  rcases mem_append.mp hq with hq | hq
  ·exact hao q hq
  ·rw [mem_singleton.mp hq,hq0]
   exact ⟨hto,tr0,tr4,hpm,hwo⟩
 rintro fl M2 ⟨σ,rfl,⟨o5,o6,o7,o8,o9,rfl⟩,⟨as,g2,hk,hao⟩,p2,f2⟩
 rw [zam] at hk
 rw [hX];clear hX;simp only [qf]
 simp_arith [zdJ g2]
 refine Ok.ret ⟨as,rfl,by omega,hao,p2,?_⟩
 exact ((Fr.app M [Cell.lst []]).mono (S:=[a])).tr f2 (by simp)
end
theorem zii {α:Type} (f:α->FT.T) (xs:List α) (k:Nat):zcg (xs.map f) (some (k:Int)) none = (xs.drop k).map f:=by
 unfold zcg
 rw [HT.ziV,HT.zhD,Qh,← map_drop,← map_take]
 congr 1
 by_cases h:k<=xs.length
 ·rw [Nat.min_eq_left h,take_of_length_le (by rw [length_drop];omega)]
 ·rw [Nat.min_eq_right (by omega),List.drop_of_length_le (Q3 _),List.drop_of_length_le (by omega)]
  simp
theorem zk4 {α:Type} (f:α->FT.T) (xs:List α) (k:Nat):zcg (xs.map f) none (some (k:Int)) = (xs.take k).map f:=by
 unfold zcg
 rw [HT.ziV,HT.zhD,Qh,drop_zero,Nat.sub_zero,← map_take]
 congr 1
 by_cases h:k<=xs.length
 ·rw [Nat.min_eq_left h]
 ·rw [Nat.min_eq_right (by omega),take_of_length_le (Q3 _),take_of_length_le (by omega)]
variable {ws:List Str}
theorem Nms.sub {us:List Str} (h:Nms ws) (s:us.Sublist ws):Nms us:=⟨h.nd.sublist s,fun x hx=>h.w x (s.subset hx),h.ln.imp fun k hk x hx=>hk x (s.subset hx)⟩
theorem Nms.rev (h:Nms ws):Nms ws.reverse:=⟨List.pairwise_reverse.mpr (h.nd.imp Ne.symm),fun x hx=>h.w x (List.mem_reverse.mp hx),h.ln.imp fun k hk x hx=>hk x (List.mem_reverse.mp hx)⟩
structure GN (n:Net):Prop where
 hn:Nms (n.hs.map (·.name))
 h1:1<=n.hs.length
 h4:n.hs.length<=4
 pn:Nms (n.ps.map (·.name))
 p2:n.ps.length<=2
 pe:∀ p ∈ n.ps,(p.earns = "first"\/p.earns = "any")/\1<=p.per/\p.per<=9
 a3:∀ h ∈ n.hs,h.asks.length<=3
 ao:∀ i h,n.hs[i]? = some h->∀ q ∈ h.asks,AO ((n.hs.map (·.name)).drop (i + 1)) (n.ps.map (·.name)) q
 a6:(n.hs.map (·.asks.length)).sum<=6
section
theorem zo9 {a:Nat} (e:PO a M):Ok (zeM kE kR [.ref a] M) fun t M'=>∃ n,t = qg n/\GN n/\PO a M'/\Fr [a] M M':=by
 refine yy rfl ?_
 unfold zjd
 have ha:a < M.length:=by obtain ⟨p,e⟩:=e;exact yA e
 rw [show startT 10 [.ref a] = [some (.ref a),none,none,none,none,none,none,none,none,none] from rfl]
 refine Ok.seqR fun X hX=>?_
 simp_arith [and_self]
 refine Ok.bind (qI e (by decide) (by decide)) ?_
 rintro t M1 ⟨d,rfl,d0,d1,p1,f1⟩
 obtain ⟨v,hv,v1,v4⟩:=zeG (xs:=[2,3,3,4,4,3,2,1]) 1 4 d0 d1 rfl
 simp only [map_cons,map_nil] at hv
 obtain ⟨nh,rfl⟩:∃ nh:Nat,v = nh:=⟨v.toNat,by omega⟩
 simp_arith [hv]
 refine Ok.bind (zhh p1 (n:=nh) (by omega)) ?_
 rintro t M2 ⟨w,hs,rfl,gw,hw,nmh,hlh,p2,f2⟩
 try simp_arith [and_self]
 rw [hX];clear hX;simp only [qf]
 refine Ok.seqR fun X hX=>?_
 simp_arith [and_self]
 refine Ok.bind (qI p2 (by decide) (by decide)) ?_
 rintro t M3 ⟨d',rfl,d0',d1',p3,f3⟩
 obtain ⟨v',hv',v1',v4'⟩:=zeG (xs:=[0,1,1,2]) 0 2 d0' d1' rfl
 simp only [map_cons,map_nil] at hv'
 obtain ⟨np,rfl⟩:∃ np:Nat,v' = np:=⟨v'.toNat,by omega⟩
 simp_arith [hv']
 refine Ok.bind (zhh p3 (n:=np) (by omega)) ?_
 rintro t M4 ⟨w',ps,rfl,gw',hw',nmp,hlp,p4,f4⟩
 try simp_arith [and_self]
 rw [hX];clear hX;simp only [qf]
 have wa:w ≠ a:=by have:=f1.1;omega
 have lw2:w < M2.length:=yA gw
 have l3:=f3.1
 have wa':w' ≠ a:=by have:=f1.1;have:=f2.1;omega
 have gw4:M4[w]? = some (.lst (hs.map .str)):=f4.get (f3.get gw (by simpa using wa)) (by simpa using wa)
 refine Ok.seqR fun X hX=>?_
 simp_arith [and_self]
 refine Ok.bind (qI p4 (by decide) (by decide)) ?_
 rintro t M5 ⟨c,rfl,c0,c1,p5,f5⟩
 have gw5:M5[w]? = some (.lst (hs.map .str)):=f5.get gw4 (by simpa using wa)
 have gw5':M5[w']? = some (.lst (ps.map .str)):=f5.get gw' (by simpa using wa')
 have fr5:Fr [a] M M5:=((((f1.trans f2).trans f3).trans f4).trans f5)
 -- the purses as they lie
 have key:∀ (P:FT.T) (pn:List Str),PV P pn a M5->Nms pn->pn.length<=2->(∀ w2,P = .ref w2->w2 < M5.length)->∀ (X:Fl->Mem->Out FT.T),(X = fun fl M=>(zbL (yh (qp 3 (eTk (yw ze)))
 (yh (qp 4 (eC (.int 6)))
 (yh (zbP (yV (zb (yf (yz yx) (zb (yb 1) ze)) ze)) (yr 5) (zfq kE kR))
 (yh (qp 7 (eTk (yw ze)))
 (yh (zdU (zfE (yb 2)) (yr 8) (zfp kE kR))
 (qF (yG (zb (yf (yz z4) (zb (yb 3) ze)) (zb (yf (yz z4) (zb (yb 7) ze)) ze))))))))) fl M).bind zb9)->
   Ok (X (.nx [some (.ref a),some (.ref w),some P,none,none,none,none,none,none,none]) M5) fun t M'=>∃ n,t = qg n/\GN n/\PO a M'/\Fr [a] M M':=by
  intro P pn hP nmP hpl hPl X hX
  rw [hX]
  clear hX
  simp only [qf]
  refine Ok.seqR fun X hX=>?_
  try simp_arith [and_self]
  rw [hX];clear hX;simp only [qf]
  refine Ok.seqR fun X hX=>?_
  try simp_arith [and_self]
  rw [hX];clear hX;simp only [qf]
  have lM5:=fr5.1
  have g6:(M5 ++ [Cell.lst []])[w]? = some (.lst (hs.map .str)):=(Fr.app M5 [Cell.lst []]).get0 gw5
  refine Ok.seqR fun X hX=>?_
  simp_arith [zfi g6,Qh,zal (M:=M5 ++ [Cell.lst []]) (j:=(hs.length:Int)) (by omega),Int.toNat_natCast]
  refine Ok.bind (Ok.for (r:=FT.T.int) (xs:=rgI hs.length) (fun k σ M'=>∃ (ss:List Hs) (o5 o6:Option FT.T),σ = [some (.ref a),some (.ref w),some P,some (.ref M5.length),some (.int (6 - ((ss.map (·.asks.length)).sum:Nat))),o5,o6,none,none,none]/\M'[M5.length]? = some (.lst (ss.map hsT))/\ss.map (·.name) = hs.take k/\(∀ h ∈ ss,h.asks.length<=3)/\(∀ i h,ss[i]? = some h->∀ q ∈ h.asks,AO (hs.drop (i + 1)) pn q)/\(ss.map (·.asks.length)).sum<=6/\PO a M'/\Fr [a,M5.length] (M5 ++ [Cell.lst []]) M') ⟨[],none,none,rfl,yM,rfl,(fun h hh=>by cases hh),(fun i h hh=>by simp at hh),by simp,p5.fr (Fr.app _ _) (by simp),Fr.refl _ _⟩ ?_) ?_
  ·rintro k x σ M6 hx ⟨ss,o5,o6,rfl,g3,hnm,ha3,hao,h6,p6,f6⟩
   obtain ⟨hk,rfl⟩:=zaE hx
   have hsl:ss.length = k:=by
    have:=congrArg List.length hnm
    rw [Qh,Qr] at this
    omega
   unfold zfq
   have gw6:M6[w]? = some (.lst (hs.map .str)):=f6.get g6 (by simp;have:=yA gw5;omega)
   have hP6:PV P pn a M6:=by
    rcases hP with h | ⟨w2,h1,h2,h3⟩
    ·exact .inl h
    ·exact .inr ⟨w2,h1,h2,f6.get ((Fr.app M5 [Cell.lst []]).get0 h3) (by simp;have:=yA h3;omega)⟩
   have lw:zq (.ref w) M6 = some (hs.map .str):=by unfold zq;simp only [gw6]
   have cu:zcg (hs.map FT.T.str) (some ((k:Int) + 1)) none = (hs.drop (k + 1)).map .str:=by
    rw [show (k:Int) + 1 = ((k + 1:Nat):Int) by omega,zii]
   obtain ⟨mo,hmo,hmo3,hmor⟩:∃ mo:Nat,(if 6 - (((ss.map (·.asks.length)).sum:Nat):Int) < 3 then 6 - (((ss.map (·.asks.length)).sum:Nat):Int) else 3) = (mo:Int)/\mo<=3/\mo + (ss.map (·.asks.length)).sum<=6:=by
    split
    ·exact ⟨(6 - (((ss.map (·.asks.length)).sum:Nat):Int)).toNat,by omega,by omega,by omega⟩
    ·exact ⟨3,rfl,by omega,by omega⟩
   refine Ok.seqX fun X hX=>?_
   simp_arith [lw,cu,zgg,hmo]
   refine Ok.bind (zob p6 hP6 (by rw [length_drop];omega) hpl hmo3) ?_
   rintro t M7 ⟨as,rfl,hal,haq,p7,f7⟩
   try simp_arith [and_self]
   rw [hX];clear hX;simp only [qf]
   refine Ok.seqX fun X hX=>?_
   simp_arith [Qh]
   rw [hX];clear hX;simp only [qf]
   have g37:M7[M5.length]? = some (.lst (ss.map hsT)):=f7.get g3 (by simp;omega)
   have gw7:M7[w]? = some (.lst (hs.map .str)):=f7.get gw6 (by simpa using wa)
   have hnk:hs[k]? = some (hs[k]'hk):=Q0 hk
   have ix:ixT (.ref w) (.int (k:Int)) M7 = .ok (.str (hs[k]'hk)) M7:=by
    unfold ixT zh2
    simp only [gw7,qo (f:=FT.T.str) hnk]
    rfl
   have ap:=zP (t:=hsT ⟨hs[k]'hk,as⟩) g37 (by rw [Qh,sizeLine_eq];omega)
   rw [show ss.map hsT ++ [hsT ⟨hs[k]'hk,as⟩] = (ss ++ [(⟨hs[k]'hk,as⟩:Hs)]).map hsT from by simp,show hsT ⟨hs[k]'hk,as⟩ = .tup [.str (hs[k]'hk),.tup (as.map yu)] from rfl] at ap
   have ix2:(zff (atI (hs.map FT.T.str) (k:Int)) M7) = .ok (.str (hs[k]'hk)) M7:=by rw [qo (f:=FT.T.str) hnk];rfl
   simp_arith [zF g37,gw7,qo (f:=FT.T.str) hnk,ap]
   have sm:((ss ++ [(⟨hs[k]'hk,as⟩:Hs)]).map (·.asks.length)).sum = (ss.map (·.asks.length)).sum + as.length:=by simp
   refine Ok.ret ⟨_,rfl,ss ++ [⟨hs[k]'hk,as⟩],some (.int (k:Int)),some (.tup (as.map yu)),?_,get_set g37,?_,fun h hh=>?_,fun i h hi q hq=>?_,?_,p7.fr (Fr.set _ _ _) (by simp;omega),(f6.tr f7 (by simp)).tr (Fr.set _ _ _) (by simp)⟩
   ·rw [sm,show (6:Int) - (((ss.map (·.asks.length)).sum + as.length:Nat):Int) = 6 - (((ss.map (·.asks.length)).sum:Nat):Int) - (as.length:Int) by omega]
   ·rw [Qq,hnm,take_succ,hnk];rfl
   ·rcases mem_append.mp hh with hh | hh
    ·exact ha3 h hh
    ·rw [mem_singleton.mp hh];show as.length<=3;omega
   ·rw [List.getElem?_append] at hi
    split at hi
    ·exact hao i h hi q hq
    ·have:i = k:=by
      have:=(List.getElem?_eq_some_iff.mp hi).1
      rw [Qt] at this
      omega
     subst this
     rw [hsl,Qu] at hi
     cases hi
     exact haq q hq
   ·rw [sm];omega
  rintro fl M6 ⟨σ,rfl,ss,o5,o6,rfl,g3,hnm,ha3,hao,h6,p6,f6⟩
  rw [zam,take_length] at hnm
  rw [hX];clear hX;simp only [qf]
  refine Ok.seqR fun X hX=>?_
  try simp_arith [and_self]
  rw [hX];clear hX;simp only [qf]
  have hP7:PV P pn a (M6 ++ [Cell.lst []]):=by
   rcases hP with h | ⟨w2,h1,h2,h3⟩
   ·exact .inl h
   ·exact .inr ⟨w2,h1,h2,(Fr.app M6 [Cell.lst []]).get0 (f6.get ((Fr.app M5 [Cell.lst []]).get0 h3) (by simp;have:=yA h3;omega))⟩
  have l6:M5.length < M6.length:=yA g3
  obtain ⟨G,hG,hGk⟩:∃ G,zcZ P (M6 ++ [Cell.lst []]) = some (pn.map .str,G)/\∀ M',Fr [a,M6.length] (M6 ++ [Cell.lst []]) M'->zbS G M':=by
   rcases hP7 with rfl | ⟨w2,rfl,h2,h3⟩
   ·exact ⟨[],rfl,fun M' f=>zl7 M'⟩
   ·refine ⟨[(w2,pn.map .str)],?_,fun M' f=>zl6 (f.get h3 ?_)⟩
    ·unfold zcZ
     simp only [h3]
    ·have:=hPl w2 rfl
     simp
     omega
  refine Ok.seqR fun X hX=>?_
  simp_arith [zdU,zfE,hG]
  refine Ok.bind (Ok.forG (G:=G) (r:=FT.T.str) (xs:=pn) (fun k σ M'=>∃ (us:List Pu) (o8 o9:Option FT.T),σ = [some (.ref a),some (.ref w),some P,some (.ref M5.length),some (.int (6 - ((ss.map (·.asks.length)).sum:Nat))),o5,o6,some (.ref M6.length),o8,o9]/\M'[M6.length]? = some (.lst (us.map puT))/\us.map (·.name) = pn.take k/\(∀ p ∈ us,(p.earns = "first"\/p.earns = "any")/\1<=p.per/\p.per<=9)/\PO a M'/\Fr [a,M6.length] (M6 ++ [Cell.lst []]) M') (fun i σ M' h=>by obtain ⟨_,_,_,_,_,_,_,_,f⟩:=h;exact hGk _ f) ⟨[],none,none,rfl,yM,rfl,(fun h hh=>by cases hh),p6.fr (Fr.app _ _) (by simp),Fr.refl _ _⟩ ?_) ?_
  ·rintro k x σ M7 hx ⟨us,o8,o9,rfl,g7,hun,hpe,p7,f7⟩
   have hk:=(List.getElem?_eq_some_iff.mp hx).1
   have hul:us.length = k:=by
    have:=congrArg List.length hun
    rw [Qh,Qr] at this
    omega
   unfold zfp
   refine Ok.seqX fun X hX=>?_
   simp_arith [and_self]
   refine Ok.bind (qI p7 (by decide) (by decide)) ?_
   rintro t M8 ⟨z,rfl,z0,z1,p8,f8⟩
   obtain ⟨ea,hea,hat⟩:=zmp (xs:=["first","any"]) z0 (by simpa using z1)
   simp only [map_cons,map_nil] at hat
   have hea:ea = "first"\/ea = "any":=by simpa using hea
   simp_arith [hat]
   rw [hX];clear hX;simp only [qf]
   have g8:M8[M6.length]? = some (.lst (us.map puT)):=f8.get g7 (by simp;omega)
   simp_arith [zF g8]
   refine Ok.bind (qI p8 (by decide) (by decide)) ?_
   rintro t M9 ⟨y,rfl,y0,y1,p9,f9⟩
   simp_arith [and_self]
   refine Ok.bind (qI p9 (by decide) (by decide)) ?_
   rintro t M10 ⟨u,rfl,u0,u1,p10,f10⟩
   obtain ⟨pr,hpr,hp1,hp9⟩:∃ pr:Int,atI [FT.T.int 1,.int 1,.int 2,.int 3,.int (1 + y)] u = some (.int pr)/\1<=pr/\pr<=9:=by
    have:u = 0\/u = 1\/u = 2\/u = 3\/u = 4:=by omega
    rcases this with rfl | rfl | rfl | rfl | rfl
    ·exact ⟨1,rfl,by decide,by decide⟩
    ·exact ⟨1,rfl,by decide,by decide⟩
    ·exact ⟨2,rfl,by decide,by decide⟩
    ·exact ⟨3,rfl,by decide,by decide⟩
    ·exact ⟨1 + y,rfl,by omega,by omega⟩
   have g10:M10[M6.length]? = some (.lst (us.map puT)):=f10.get (f9.get g8 (by simp;omega)) (by simp;omega)
   have ap:=zP (t:=puT ⟨x,ea,pr⟩) g10 (by rw [Qh,sizeLine_eq];omega)
   rw [show us.map puT ++ [puT ⟨x,ea,pr⟩] = (us ++ [(⟨x,ea,pr⟩:Pu)]).map puT from by simp,show puT ⟨x,ea,pr⟩ = .tup [.str x,.str ea,.int pr] from rfl] at ap
   simp_arith [hpr,ap]
   refine Ok.ret ⟨_,rfl,us ++ [⟨x,ea,pr⟩],_,_,rfl,get_set g10,by rw [Qq,hun,take_succ,hx];rfl,fun p hp=>?_,p10.fr (Fr.set _ _ _) (by simp;omega),(((f7.tr f8 (by simp)).tr f9 (by simp)).tr f10 (by simp)).tr (Fr.set _ _ _) (by simp)⟩
   rcases mem_append.mp hp with hp | hp
   ·exact hpe p hp
   ·rw [mem_singleton.mp hp];exact ⟨hea,hp1,hp9⟩
  rintro fl M7 ⟨σ,rfl,us,o8,o9,rfl,g7,hun,hpe,p7,f7⟩
  rw [take_length] at hun
  rw [hX];clear hX;simp only [qf]
  have g37:M7[M5.length]? = some (.lst (ss.map hsT)):=f7.get ((Fr.app M6 [Cell.lst []]).get0 g3) (by simp;omega)
  simp_arith [zdJ g37,zdJ g7]
  have hsn:ss.length = hs.length:=by have:=congrArg List.length hnm;rwa [Qh] at this
  have hun2:us.length = pn.length:=by have:=congrArg List.length hun;rwa [Qh] at this
  refine Ok.ret ⟨⟨ss,us⟩,rfl,⟨by rw [hnm];exact nmh,by show 1<=ss.length;omega,by show ss.length<=4;omega,by rw [hun];exact nmP,by show us.length<=2;omega,hpe,ha3,by rw [hnm,hun];exact hao,h6⟩,p7,?_⟩
  refine (fr5.tr (Fr.app M5 [Cell.lst []]) (by simp)).tr (f6.tr (((Fr.app M6 [Cell.lst []]).mono (S:=[a])).tr f7 (by simp)) ?_) ?_
  all_goals simp
  all_goals omega
 by_cases hc:c = 0
 ·have lw:zq (.ref w) M5 = some (hs.map .str):=by unfold zq;simp only [gw5]
  have rv:zf5 (.ref w) (some (-1)) M5 = .ok (.lst (hs.reverse.map .str)) M5:=by
   show (if (some (-1:Int)) = some (-1) then rvX (.ref w) M5 else .bad) = _
   rw [if_pos rfl]
   unfold rvX
   simp only [lw]
   rw [List.map_reverse]
  have ll:zq (.lst (hs.reverse.map FT.T.str)) M5 = some (hs.reverse.map .str):=rfl
  have cu:=zk4 FT.T.str hs.reverse ps.length
  subst hc
  simp_arith [eRv,rv,zfi gw5',Qh,ll,cu]
  exact key _ (hs.reverse.take ps.length) (.inl rfl) (nmh.rev.sub (List.take_sublist _ _)) (by rw [Qr];omega) (fun w2 z=>by cases z) _ hX
 ·simp_arith [show (c == 0) = false by simpa using hc]
  exact key _ ps (.inr ⟨w',rfl,wa',gw5'⟩) nmp (by omega) (fun w2 z=>by cases z;exact yA gw5') _ hX
end
variable {ys:List Str} {s:Str}
theorem zeL (nd:ys.Nodup) (h:ys[j]? = some s):∀ k,zcC s ys k = some (k + j):=by
 induction ys generalizing j with
 | nil=>simp at h
 | cons y ys ih=>
  intro k
  have nd':=nodup_cons.mp nd
  unfold zcC
  cases j with
  | zero=>
   simp at h
   rw [h]
   simp
  | succ j=>
   simp at h
   have hne:¬ (y == s) = true:=fun z=>by
    have:y = s:=by simpa using z
    exact nd'.1 (this ▸ Qa h)
   rw [if_neg hne,ih nd'.2 h (k + 1)]
   congr 1
   omega
theorem zhQ (nd:ys.Nodup) {k:Nat} (h:s ∈ ys.drop k):∃ j,k<=j/\ys[j]? = some s:=by
 obtain ⟨i,hi⟩:=mem_iff_getElem?.mp h
 rw [List.getElem?_drop] at hi
 exact ⟨k + i,by omega,hi⟩
variable {n:Net}
theorem GN.wn (h:GN n):WN n:=by
 refine ⟨h.h4,h.h1,by have:=h.p2;omega,fun x hx=>by have:=h.a3 x hx;omega,fun i a ha=>?_,fun p hp=>by have:=h.pe p hp;omega⟩
 unfold Net.asks at ha
 cases e:n.hs[i]? with
 | none=>rw [e] at ha;cases ha
 | some x=>
  rw [e] at ha
  have ao:=h.ao i x e a ha
  obtain ⟨j,hj,ej⟩:=zhQ h.hn.nd ao.to
  have q:=zeL h.hn.nd ej 0
  rw [Nat.zero_add] at q
  have qx:n.hix a.to = j:=by unfold Net.hix;rw [q];rfl
  refine ⟨by rw [q,qx],by omega,fun s hs=>?_,ao.t0⟩
  obtain ⟨k,ek⟩:=mem_iff_getElem?.mp (ao.pu s hs)
  have q:=zeL h.pn.nd ek 0
  unfold Net.pix
  rw [q]
  rfl
variable {p:Pu}
theorem zoI (gn:GN n) {k:Nat} (hk:n.ps[k]? = some p):n.pix p.name = k:=by
 have:(n.ps.map (·.name))[k]? = some p.name:=by rw [Qb,hk];rfl
 unfold Net.pix
 rw [zeL gn.pn.nd this 0,Nat.zero_add]
 rfl
variable {h:Nat}
theorem zm0 (gn:GN n) {a:Ask} (ha:a ∈ n.asks h) {k:Nat} (hk:n.ps[k]? = some p):n.pof a = some k ↔ a.purse = some p.name:=by
 unfold Net.pof
 constructor
 ·intro e
  cases q:a.purse with
  | none=>rw [q] at e;cases e
  | some s=>
   rw [q] at e
   have e:n.pix s = k:=Qd e
   unfold Net.asks at ha
   cases eh:n.hs[h]? with
   | none=>rw [eh] at ha;cases ha
   | some x=>
    rw [eh] at ha
    obtain ⟨j,hj⟩:=mem_iff_getElem?.mp ((gn.ao h x eh a ha).pu s q)
    have:=zeL gn.pn.nd hj 0
    unfold Net.pix at e
    rw [this,Nat.zero_add] at e
    have e:j = k:=e
    subst e
    rw [Qb,hk] at hj
    exact hj.symm
 ·intro e
  rw [e]
  exact congrArg some (zoI gn hk)
variable {σ:FT.Ev} {q:FT.Ev->Mem->Out Fl} {Q:Fl->Mem->Prop} {R:Run}
section
theorem _root_.FT.Ok.ifB {c:FT.Ev->Mem->Out Bool} {p:FT.Ev->Mem->Out Fl} (b:Bool) (hc:c σ M = .ok b M) (h:Ok (if b = true then p σ M else q σ M) Q):Ok (sIf c p q σ M) Q:=by
 unfold sIf
 rw [hc]
 exact h
theorem _root_.FT.Ok.ifP {c:FT.Ev->Mem->Out Bool} {p:FT.Ev->Mem->Out Fl} (P:Bool->Mem->Prop) (h:Ok (c σ M) P) (g:∀ b M1,P b M1->Ok (if b = true then p σ M1 else q σ M1) Q):Ok (sIf c p q σ M) Q:=Ok.bind h g
end
inductive Slot where
 | w | a | d | p | q
 | e (i:Nat)
 | k (k:Nat)
 | g (k:Nat)
 | c (k:Nat)
deriving DecidableEq
noncomputable def Net.per (n:Net) (k:Nat):Nat:=(n.ps.getD k ⟨"","",1⟩).per.toNat
noncomputable def zY (u:List Nat) (m:Nat):List (List Nat):=(List.range (u.length / m)).map fun j=>(u.drop (j * m)).take m
noncomputable def qJ (u:List Nat) (m:Nat):List Nat:=u.drop (u.length / m * m)
noncomputable def Slot.ok (n:Net) (R:Run):Slot->Prop
 | .e i=>i < R.es.length
 | .k j=>j < n.ps.length
 | .g j=>j < n.ps.length
 | .c j=>j < n.ps.length
 | _=>True
noncomputable def tuL (c:List Nat):FT.T:=.tup (c.map nT)
noncomputable def ctn (n:Net) (ad:Slot->Nat) (R:Run) (D:List (Key × FT.T)):Slot->Cell
 | .w=>.lst [.ref (ad .a),.ref (ad .d),.ref (ad .p),.ref (ad .q)]
 | .a=>.lst ((List.range R.es.length).map fun i=>.ref (ad (.e i)))
 | .d=>.dic D
 | .p=>.lst ((List.range n.ps.length).map fun j=>.ref (ad (.k j)))
 | .q=>.lst (R.pays.map zbA)
 | .e i=>.lst [nT (R.er i).house,clT (R.er i).caller,phT (R.er i).ph]
 | .k j=>.lst [.ref (ad (.g j)),.ref (ad (.c j)),nT (R.taken.getD j 0)]
 | .g j=>.lst ((qJ (R.puts.getD j []) (n.per j)).map nT)
 | .c j=>.lst ((zY (R.puts.getD j []) (n.per j)).map tuL)
noncomputable def zck (R:Run) (i:Nat):Bool:=((R.es[i]?).map (·.lost)).getD false
structure Wd (n:Net) (ad:Slot->Nat) (M:Mem) (R:Run) (D:List (Key × FT.T)):Prop where
 ho:∀ s,s.ok n R->M[ad s]? = some (ctn n ad R D s)
 inj:∀ s t,s.ok n R->t.ok n R->ad s = ad t->s = t
 dl:∀ i:Nat,(zU D (.inl (i:Int))).isSome = zck R i
 dk:D.length<=R.came
 pl:R.puts.length = n.ps.length
 tl:R.taken.length = n.ps.length
structure Wf2 (n:Net) (ad:Slot->Nat) (M:Mem) (R:Run) (ad':Slot->Nat) (M':Mem) (R':Run):Prop where
 le:M.length<=M'.length
 kp:∀ i,i < M.length->(∀ s,s.ok n R->ad s ≠ i)->M'[i]? = M[i]?
 nw:∀ s,s.ok n R'->(s.ok n R/\ad' s = ad s)\/M.length<=ad' s
 ww:ad' .w = ad .w
def Wst (n:Net) (ad:Slot->Nat) (M:Mem) (R R':Run) (M':Mem):Prop:=∃ ad' D',Wd n ad' M' R' D'/\Wf2 n ad M R ad' M' R'
variable {e e':Er} {D:List (Key × FT.T)} {M':Mem} {R':Run} {ad ad':Slot->Nat}
section
theorem Wf2.refl:Wf2 n ad M R ad M R:=⟨Q3 _,fun _ _ _=>rfl,fun _ h=>.inl ⟨h,rfl⟩,rfl⟩
theorem Wf2.trans {ad'':Slot->Nat} {M'':Mem} {R'':Run} (h:Wf2 n ad M R ad' M' R') (g:Wf2 n ad' M' R' ad'' M'' R''):Wf2 n ad M R ad'' M'' R'':=by
 refine ⟨Qj h.le g.le,fun i hi ho=>?_,fun s hs=>?_,g.ww.trans h.ww⟩
 ·rw [g.kp i (Q5 hi h.le) fun s hs z=>?_,h.kp i hi ho]
  rcases h.nw s hs with ⟨h1,h2⟩ | h2
  ·exact ho s h1 (h2.symm.trans z)
  ·omega
 ·rcases g.nw s hs with ⟨h1,h2⟩ | h2
  ·rcases h.nw s h1 with ⟨h3,h4⟩ | h4
   ·exact .inl ⟨h3,h2.trans h4⟩
   ·exact .inr (by omega)
  ·exact .inr (Qj h.le h2)
theorem Wst.trans' {R1 R2:Run} {M1 M2:Mem} {ad1:Slot->Nat} {D1:List (Key × FT.T)} (f:Wf2 n ad M R ad1 M1 R1) (h:Wst n ad1 M1 R1 R2 M2):Wst n ad M R R2 M2:=by
 obtain ⟨ad2,D2,h1,h2⟩:=h
 exact ⟨ad2,D2,h1,f.trans h2⟩
theorem Wd.write (h:Wd n ad M R D) {s:Slot} {c:Cell} {D':List (Key × FT.T)} (hs:s.ok n R) (hR:R'.es.length = R.es.length) (hc:ctn n ad R' D' s = c) (he:∀ t,t ≠ s->ctn n ad R' D' t = ctn n ad R D t)
 (dl:∀ i:Nat,(zU D' (.inl (i:Int))).isSome = zck R' i) (dk:D'.length<=R'.came) (pl:R'.puts.length = R.puts.length) (tl:R'.taken.length = R.taken.length):Wd n ad (M.set (ad s) c) R' D'/\Wf2 n ad M R ad (M.set (ad s) c) R':=by
 have ok:∀ t:Slot,t.ok n R' ↔ t.ok n R:=fun t=>by cases t <;> simp [Slot.ok,hR]
 have hl:=yA (h.ho s hs)
 refine ⟨⟨fun t ht=>?_,fun t u ht hu e=>h.inj t u ((ok t).mp ht) ((ok u).mp hu) e,dl,dk,by rw [pl];exact h.pl,by rw [tl];exact h.tl⟩,⟨by simp,fun i _ ho=>?_,fun t ht=>.inl ⟨(ok t).mp ht,rfl⟩,rfl⟩⟩
 ·by_cases z:t = s
  ·subst z
   rw [Qc,if_pos rfl,if_pos hl,hc]
  ·rw [Qc,if_neg fun y=>z (h.inj s t hs ((ok t).mp ht) y).symm,he t z]
   exact h.ho t ((ok t).mp ht)
 ·rw [Qc,if_neg (ho s hs)]
theorem Wd.at_w (h:Wd n ad M R D):M[ad .w]? = some (.lst [.ref (ad .a),.ref (ad .d),.ref (ad .p),.ref (ad .q)]):=h.ho .w trivial
theorem Wd.at_a (h:Wd n ad M R D):M[ad .a]? = some (.lst ((List.range R.es.length).map fun i=>.ref (ad (.e i)))):=h.ho .a trivial
theorem Wd.at_d (h:Wd n ad M R D):M[ad .d]? = some (.dic D):=h.ho .d trivial
theorem Wd.at_p (h:Wd n ad M R D):M[ad .p]? = some (.lst ((List.range n.ps.length).map fun j=>.ref (ad (.k j)))):=h.ho .p trivial
theorem Wd.at_q (h:Wd n ad M R D):M[ad .q]? = some (.lst (R.pays.map zbA)):=h.ho .q trivial
theorem Wd.at_e (h:Wd n ad M R D) (he:R.es[i]? = some e):M[ad (.e i)]? = some (.lst [nT e.house,clT e.caller,phT e.ph]):=by
 have:=h.ho (.e i) (List.getElem?_eq_some_iff.mp he).1
 simp only [ctn] at this
 rw [qX he] at this
 exact this
theorem Wd.at_k (h:Wd n ad M R D) (hj:j < n.ps.length):M[ad (.k j)]? = some (.lst [.ref (ad (.g j)),.ref (ad (.c j)),nT (R.taken.getD j 0)]):=h.ho (.k j) hj
theorem Wd.at_g (h:Wd n ad M R D) (hj:j < n.ps.length):M[ad (.g j)]? = some (.lst ((qJ (R.puts.getD j []) (n.per j)).map nT)):=h.ho (.g j) hj
theorem Wd.at_c (h:Wd n ad M R D) (hj:j < n.ps.length):M[ad (.c j)]? = some (.lst ((zY (R.puts.getD j []) (n.per j)).map tuL)):=h.ho (.c j) hj
theorem z8 {N:Nat} {f:Nat->FT.T} (h:i < N):atI ((List.range N).map f) (i:Int) = some (f i):=qo (getElem?_range h)
theorem zmw (h:j ≠ i):(R.setE i e').er j = R.er j:=by
 unfold Run.er
 rw [Q7,Q7,zdZ h]
theorem zjl (he:R.es[i]? = some e):(R.setE i e').er i = e':=qX (zc0 he e')
theorem Wd.setE (h:Wd n ad M R D) (he:R.es[i]? = some e) (e':Er) (h1:e'.house = e.house) (h2:e'.caller = e.caller) (h3:e'.lost = e.lost):Wd n ad (M.set (ad (.e i)) (.lst [nT e.house,clT e.caller,phT e'.ph])) (R.setE i e') D/\Wf2 n ad M R ad (M.set (ad (.e i)) (.lst [nT e.house,clT e.caller,phT e'.ph])) (R.setE i e'):=by
 have hi:=(List.getElem?_eq_some_iff.mp he).1
 have hl:(R.setE i e').es.length = R.es.length:=length_set ..
 refine h.write (s:=.e i) hi hl ?_ (fun t ht=>?_) (fun j=>?_) h.dk rfl rfl
 ·simp only [ctn]
  rw [zjl he,h1,h2]
 ·cases t with
  | a=>simp only [ctn];rw [hl]
  | e j=>simp only [ctn];rw [zmw fun z=>ht (by rw [z])]
  | _=>rfl
 ·rw [h.dl j]
  unfold zck
  by_cases z:j = i
  ·subst z
   rw [zc0 he,he]
   exact h3.symm
  ·rw [zdZ z]
theorem Wd.pushE (h:Wd n ad M R D) (hh:Nat) (c:Option (Nat × Nat × Nat)):Wd n (fun s=>if s = .e R.es.length then M.length else ad s) ((M ++ [Cell.lst [nT hh,clT c,.tup [.str "works"]]]).set (ad .a) (.lst (((List.range R.es.length).map fun i=>FT.T.ref (ad (.e i))) ++ [.ref M.length]))) (R.push (yn hh c)) D /\
  Wf2 n ad M R (fun s=>if s = .e R.es.length then M.length else ad s) ((M ++ [Cell.lst [nT hh,clT c,.tup [.str "works"]]]).set (ad .a) (.lst (((List.range R.es.length).map fun i=>FT.T.ref (ad (.e i))) ++ [.ref M.length]))) (R.push (yn hh c)):=by
 have lt:∀ s,s.ok n R->ad s < M.length:=fun s hs=>yA (h.ho s hs)
 have hl:(R.push (yn hh c)).es.length = R.es.length + 1:=by simp [Run.push]
 have ok:∀ s:Slot,s.ok n (R.push (yn hh c))->s = .e R.es.length\/(s ≠ .e R.es.length/\s.ok n R):=fun s hs=>by
  cases s with
  | e i=>
   have hs:i < (R.push (yn hh c)).es.length:=hs
   by_cases z:i = R.es.length
   ·exact .inl (by rw [z])
   ·exact .inr ⟨fun y=>z (Slot.e.inj y),show i < R.es.length by omega⟩
  | _=>exact .inr ⟨(fun y=>by cases y),hs⟩
 have old:∀ i,i < R.es.length->(R.push (yn hh c)).er i = R.er i:=fun i hi=>by
  unfold Run.er
  rw [Q7,Q7]
  show ((R.es ++ _)[i]?).getD _ = _
  rw [Q6 hi]
 have la:=lt .a trivial
 refine ⟨⟨fun s hs=>?_,fun s t hs ht e=>?_,fun i=>?_,h.dk,h.pl,h.tl⟩,⟨by simp,fun i hi ho=>?_,fun s hs=>?_,if_neg (fun y=>by cases y)⟩⟩
 ·rcases ok s hs with rfl | ⟨hne,hs'⟩
  ·rw [if_pos rfl,Qc,if_neg (by omega),Q8 (Q3 _),Qu]
   simp only [ctn]
   rw [show (R.push (yn hh c)).er R.es.length = yn hh c from qX (zba R _)]
   rfl
  ·rw [if_neg hne]
   have hlt:=lt s hs'
   by_cases z:s = .a
   ·subst z
    rw [Qc,if_pos rfl,if_pos (by simp;omega)]
    simp only [ctn]
    rw [hl,range_succ,Qq,List.map_singleton,if_pos rfl]
    congr 3
    refine map_congr_left fun i hi=>?_
    have:=mem_range.mp hi
    rw [if_neg fun y=>by have:=Slot.e.inj y;omega]
   ·rw [Qc,if_neg fun y=>z (h.inj .a s trivial hs' y).symm,Q6 hlt,h.ho s hs']
    cases s with
    | e i=>simp only [ctn];rw [old i hs']
    | a=>exact absurd rfl z
    | w=>rfl
    | d=>rfl
    | p=>rfl
    | q=>rfl
    | k j=>rfl
    | g j=>rfl
    | c j=>rfl
 ·rcases ok s hs with rfl | ⟨hne,hs'⟩
  ·rcases ok t ht with rfl | ⟨hnt,ht'⟩
   ·rfl
   ·rw [if_pos rfl,if_neg hnt] at e
    have:=lt t ht'
    omega
  ·rcases ok t ht with rfl | ⟨hnt,ht'⟩
   ·rw [if_neg hne,if_pos rfl] at e
    have:=lt s hs'
    omega
   ·rw [if_neg hne,if_neg hnt] at e
    exact h.inj s t hs' ht' e
 ·rw [h.dl i]
  unfold zck
  show _ = (((R.es ++ [yn hh c])[i]?).map (·.lost)).getD false
  by_cases z:i < R.es.length
  ·rw [Q6 z]
  ·rw [getElem?_eq_none (by omega)]
   by_cases y:i = R.es.length
   ·subst y
    rw [List.getElem?_concat_length]
    rfl
   ·rw [getElem?_eq_none (by rw [Qn,Qt];omega)]
 ·rw [Qc,if_neg (ho .a trivial),Q6 hi]
 ·rcases ok s hs with rfl | ⟨hne,hs'⟩
  ·exact .inr (by rw [if_pos rfl];exact Q3 _)
  ·exact .inl ⟨hs',if_neg hne⟩
end
variable {m:Nat}
theorem zp3 {l:Nat} (hm:1<=m) (h:l % m + 1 ≠ m):(l + 1) / m = l / m:=by
 have h1:=Nat.mod_lt l (show 0 < m by omega)
 have h2:=Nat.div_add_mod l m
 refine Nat.div_eq_of_lt_le ?_ ?_
 ·rw [Nat.mul_comm];omega
 ·rw [Nat.succ_mul,Nat.mul_comm];omega
theorem zp4 {l:Nat} (hm:1<=m) (h:l % m + 1 = m):(l + 1) / m = l / m + 1:=by
 have h2:=Nat.div_add_mod l m
 have e:l + 1 = m * (l / m + 1):=by rw [Nat.mul_succ];omega
 rw [e,Nat.mul_div_cancel_left _ (by omega)]
theorem zgo (u:List Nat) (m:Nat):(qJ u m).length = u.length % m:=by
 unfold qJ
 rw [length_drop]
 have:=Nat.div_add_mod u.length m
 rw [Nat.mul_comm] at this
 omega
variable {u:List Nat} {x:Nat}
theorem znQ (hm:1<=m) (h:u.length % m + 1 ≠ m):qJ (u ++ [x]) m = qJ u m ++ [x]/\zY (u ++ [x]) m = zY u m:=by
 have hq:=Nat.div_mul_le_self u.length m
 unfold qJ zY
 rw [Qn,Qt,zp3 hm h]
 refine ⟨List.drop_append_of_le_length hq,map_congr_left fun j hj=>?_⟩
 have hj:=mem_range.mp hj
 have h1:(j + 1) * m<=u.length:=(Nat.le_div_iff_mul_le (by omega)).mp hj
 rw [Nat.succ_mul] at h1
 rw [List.drop_append_of_le_length (by omega),List.take_append_of_le_length (by rw [length_drop];omega)]
theorem zmh (hm:1<=m) (h:u.length % m + 1 = m):qJ (u ++ [x]) m = []/\zY (u ++ [x]) m = zY u m ++ [qJ u m ++ [x]]:=by
 have hq:=Nat.div_mul_le_self u.length m
 have hg:=zgo u m
 have h2:=Nat.div_add_mod u.length m
 rw [Nat.mul_comm] at h2
 unfold qJ at hg
 unfold qJ zY
 rw [Qn,Qt,zp4 hm h]
 refine ⟨List.drop_of_length_le (by rw [Qn,Qt,Nat.succ_mul];omega),?_⟩
 rw [range_succ,Qq,List.map_singleton]
 congr 1
 ·refine map_congr_left fun j hj=>?_
  have hj:=mem_range.mp hj
  have h1:(j + 1) * m<=u.length:=(Nat.le_div_iff_mul_le (by omega)).mp hj
  rw [Nat.succ_mul] at h1
  rw [List.drop_append_of_le_length (by omega),List.take_append_of_le_length (by rw [length_drop];omega)]
 ·rw [List.drop_append_of_le_length hq,take_of_length_le]
  rw [Qn,Qt]
  omega
section
theorem zcW {k:Nat} (hk:k < R.puts.length) (u:List Nat):(R.setP k u).puts.getD j [] = if j = k then u else R.puts.getD j []:=by
 show (R.puts.set k u).getD j [] = _
 rw [Q7,Q7,Qc]
 by_cases h:k = j
 ·rw [if_pos h,if_pos hk,if_pos h.symm];rfl
 ·rw [if_neg h,if_neg (Ne.symm h)]
theorem Wd.giv (h:Wd n ad M R D) {k:Nat} (hk:k < n.ps.length) (hm:1<=n.per k) (hf:(R.puts.getD k []).length % n.per k + 1 ≠ n.per k) :
  Wd n ad (M.set (ad (.g k)) (.lst ((qJ (R.puts.getD k []) (n.per k) ++ [x]).map nT))) (R.setP k (R.puts.getD k [] ++ [x])) D/\Wf2 n ad M R ad (M.set (ad (.g k)) (.lst ((qJ (R.puts.getD k []) (n.per k) ++ [x]).map nT))) (R.setP k (R.puts.getD k [] ++ [x])):=by
 have hk':k < R.puts.length:=by rw [h.pl];exact hk
 obtain ⟨e1,e2⟩:=znQ (x:=x) hm hf
 refine h.write (s:=.g k) hk rfl ?_ (fun t ht=>?_) (fun i=>h.dl i) h.dk (length_set ..) rfl
 ·simp only [ctn]
  rw [zcW hk',if_pos rfl,e1]
 ·cases t with
  | g j=>
   simp only [ctn]
   rw [zcW hk',if_neg fun z=>ht (by rw [z])]
  | c j=>
   simp only [ctn]
   rw [zcW hk']
   split
   ·rename_i z
    rw [z,e2]
   ·rfl
  | _=>rfl
theorem Wd.coin (h:Wd n ad M R D) {k:Nat} (hk:k < n.ps.length) (hm:1<=n.per k) (hf:(R.puts.getD k []).length % n.per k + 1 = n.per k) {M1:Mem}
 (hM:M1 = (((M.set (ad (.g k)) (.lst ((qJ (R.puts.getD k []) (n.per k) ++ [x]).map nT))).set (ad (.c k)) (.lst ((zY (R.puts.getD k []) (n.per k) ++ [qJ (R.puts.getD k []) (n.per k) ++ [x]]).map tuL))) ++ [Cell.lst []]).set (ad (.k k)) (.lst [.ref M.length,.ref (ad (.c k)),nT (R.taken.getD k 0)])) :
  Wst n ad M R (R.setP k (R.puts.getD k [] ++ [x])) M1:=by
 have hk':k < R.puts.length:=by rw [h.pl];exact hk
 obtain ⟨e1,e2⟩:=zmh (x:=x) hm hf
 have lt:∀ s,s.ok n R->ad s < M.length:=fun s hs=>yA (h.ho s hs)
 have hlen:M1.length = M.length + 1:=by rw [hM];simp
 have ok:∀ s:Slot,s.ok n (R.setP k (R.puts.getD k [] ++ [x])) ↔ s.ok n R:=fun s=>by cases s <;> exact Iff.rfl
 have old:∀ i,i < M.length->M1[i]? = if ad (.k k) = i then some (.lst [.ref M.length,.ref (ad (.c k)),nT (R.taken.getD k 0)]) else if ad (.c k) = i then some (.lst ((zY (R.puts.getD k []) (n.per k) ++ [qJ (R.puts.getD k []) (n.per k) ++ [x]]).map tuL)) else if ad (.g k) = i then some (.lst ((qJ (R.puts.getD k []) (n.per k) ++ [x]).map nT)) else M[i]?:=fun i hi=>by
  rw [hM,Qc]
  split
  ·rw [if_pos (by simp;omega)]
  ·rw [Q6 (by simp;exact hi),Qc]
   split
   ·rw [if_pos (by simp;omega)]
   ·rw [Qc]
    split
    ·rw [if_pos (by omega)]
    ·rfl
 have new:M1[M.length]? = some (.lst []):=by
  have:=lt (.k k) hk
  rw [hM,Qc,if_neg (by omega),Q8 (by simp)]
  simp
 refine ⟨fun s=>if s = .g k then M.length else ad s,D,⟨fun s hs=>?_,fun s t hs ht e=>?_,fun i=>h.dl i,h.dk,by rw [← h.pl];exact length_set ..,h.tl⟩,⟨by omega,fun i hi ho=>?_,fun s hs=>?_,if_neg (fun y=>by cases y)⟩⟩
 ·replace hs:=(ok s).mp hs
  have hl:=lt s hs
  by_cases z:s = .g k
  ·subst z
   rw [if_pos rfl,new]
   simp only [ctn]
   rw [zcW hk',if_pos rfl,e1]
   rfl
  ·rw [if_neg z,old _ hl]
   by_cases y1:s = .k k
   ·subst y1
    rw [if_pos rfl]
    simp only [ctn]
    rw [if_pos trivial,if_neg (fun y=>by cases y)]
    rfl
   rw [if_neg fun y=>y1 (h.inj (.k k) _ hk hs y).symm]
   by_cases y2:s = .c k
   ·subst y2
    rw [if_pos rfl]
    simp only [ctn]
    rw [zcW hk',if_pos rfl,e2]
   rw [if_neg fun y=>y2 (h.inj (.c k) _ hk hs y).symm,if_neg fun y=>z (h.inj (.g k) _ hk hs y).symm,h.ho s hs]
   cases s with
   | g j=>
    simp only [ctn]
    rw [zcW hk',if_neg fun y=>z (by rw [y])]
   | c j=>
    simp only [ctn]
    rw [zcW hk',if_neg fun y=>y2 (by rw [y])]
   | k j=>
    simp only [ctn]
    rw [if_neg fun y=>y1 (by rw [Slot.g.inj y]),if_neg (fun y=>by cases y)]
    rfl
   | _=>rfl
 ·replace hs:=(ok s).mp hs
  replace ht:=(ok t).mp ht
  have h1:=lt s hs
  have h2:=lt t ht
  by_cases z:s = .g k
  ·by_cases y:t = .g k
   ·rw [z,y]
   ·rw [if_pos z,if_neg y] at e;omega
  ·by_cases y:t = .g k
   ·rw [if_neg z,if_pos y] at e;omega
   ·rw [if_neg z,if_neg y] at e
    exact h.inj s t hs ht e
 ·rw [old i hi,if_neg (ho (.k k) hk),if_neg (ho (.c k) hk),if_neg (ho (.g k) hk)]
 ·by_cases z:s = .g k
  ·exact .inr (by rw [if_pos z];exact Q3 _)
  ·exact .inl ⟨(ok s).mp hs,if_neg z⟩
end
theorem zgr (gn:GN n) {a:Ask} (ha:a ∈ n.asks h) {k:Nat} (hk:n.ps[k]? = some p) (M:Mem):eqA (.str p.name) (opS a.purse) M = .ok (.bl (decide (n.pof a = some k))) M:=by
 rw [show decide (n.pof a = some k) = decide (a.purse = some p.name) from decide_eq_decide.mpr (zm0 gn ha hk)]
 cases q:a.purse with
 | none=>rfl
 | some s=>
  show eqA (.str p.name) (.str s) M = _
  rw [zde]
  congr 2
  by_cases z:s = p.name
  ·rw [z];simp
  ·have z2:¬ (some s = some p.name):=fun y=>z (Qd y)
   rw [Qw z2]
   simpa using fun y=>z y.symm
variable {B hh:Nat}
section
theorem zkr (wn:WN n) {k:Nat} (hk:k < n.ps.length):(n.per k:Int) = n.ps[k].per/\1<=n.per k/\n.per k<=1000000:=by
 have h1:=wn.pr n.ps[k] (getElem_mem _)
 unfold Net.per
 rw [Q7,Q0 hk]
 show ((n.ps[k].per.toNat:Nat):Int) = _/\1<=n.ps[k].per.toNat/\n.ps[k].per.toNat<=_
 omega
theorem zln (R:Run) (n:Net) (a:Ask) (tr x:Nat) {k:Nat} (q:n.pof a = some k):R.share n a tr x = if tr = 1\/n.any k = true then R.setP k (R.puts.getD k [] ++ [x]) else R:=by unfold Run.share;rw [q]
theorem zhu (gn:GN n) (h:Wd n ad M R D) (sb:SB B R) (hB:B < 90000) {a:Ask} (ha:a ∈ n.asks hh) (tr x:Nat) {f:Bool} (hf:f = true ↔ tr = 1) :
  Ok (zbH kE kR [qg n,.ref (ad .w),yu a,.bl f,nT x] M) fun t M'=>t = .non/\Wst n ad M R (R.share n a tr x) M':=by
 have wn:=gn.wn
 refine yy rfl ?_
 unfold zgJ
 rw [show qg n = .tup [.tup (n.hs.map hsT),.tup (n.ps.map puT)] from rfl,show yu a = .tup [.str a.to,.int a.tries,opS a.purse,.str a.word,.bl a.hears,.bl a.sure] from rfl]
 have rg:∀ M,zcA [.int (n.ps.length:Int)] M = .ok ((rgI n.ps.length).map .int) M:=fun M=>zal (j:=(n.ps.length:Int)) (by have:=wn.pl;omega)
 simp_arith [Qh,rg,Int.toNat_natCast]
 refine Ok.bind (Ok.for (r:=FT.T.int) (xs:=rgI n.ps.length) (fun i σ M'=>∃ o5 o6 o7 o8 o9,σ = [some (.tup [.tup (n.hs.map hsT),.tup (n.ps.map puT)]),some (.ref (ad .w)),some (.tup [.str a.to,.int a.tries,opS a.purse,.str a.word,.bl a.hears,.bl a.sure]),some (.bl f),some (nT x),o5,o6,o7,o8,o9]/\Wst n ad M R (if (∃ k,k < i/\n.pof a = some k) then R.share n a tr x else R) M') ⟨none,none,none,none,none,rfl,by rw [if_neg fun z=>by obtain ⟨k,hk,_⟩:=z;omega];exact ⟨ad,D,h,.refl⟩⟩ ?_) ?_
 ·rintro i y σ M1 hy ⟨o5,o6,o7,o8,o9,rfl,ws⟩
  obtain ⟨hi,rfl⟩:=zaE hy
  have hps:n.ps[i]? = some n.ps[i]:=Q0 hi
  have hpa:atI (n.ps.map puT) (i:Int) = some (.tup [.str n.ps[i].name,.str n.ps[i].earns,.int n.ps[i].per]):=qo (f:=puT) hps
  have en:=zgr gn ha hps
  have any:=any_eq (n:=n) hps
  simp_arith [and_self]
  unfold zfS
  refine Ok.seqX fun X hX=>?_
  simp_arith [hpa]
  rw [hX];clear hX;simp only [qf]
  by_cases d:n.pof a = some i
  ·have d':decide (n.pof a = some i) = true:=Qv d
   rw [if_neg (fun z=>by obtain ⟨k,hk,e⟩:=z;rw [d] at e;cases e;omega)] at ws
   rw [if_pos ⟨i,Nat.lt_succ_self _,d⟩,zln R n a tr x d]
   by_cases c:tr = 1\/n.any i = true
   ·rw [if_pos c]
    obtain ⟨ad1,D1,w1,f1⟩:=ws
    rw [← f1.ww]
    refine Ok.ifB true ?_ ?_
    ·by_cases t1:tr = 1
     ·have:f = true:=hf.mpr t1
      simp_arith [en,d',this]
     ·have f0:f = false:=by
       cases z:f with
       | false=>rfl
       | true=>exact absurd (hf.mp z) t1
      have qa:n.any i = true:=c.resolve_left t1
      simp_arith [en,d',f0,any,qa]
    ·rw [if_pos rfl]
     obtain ⟨pe,pm1,pm2⟩:=zkr wn hi
     rw [← pe]
     have ga:=w1.at_g hi
     have ka:=w1.at_k hi
     have hul:(qJ (R.puts.getD i []) (n.per i)).length < 90000:=by
      rw [zgo]
      have:=Nat.mod_lt (R.puts.getD i []).length (show 0 < n.per i by omega)
      have:=Nat.mod_le (R.puts.getD i []).length (n.per i)
      have hb:(R.puts.getD i []).length<=B:=by
       have hp:i < R.puts.length:=by rw [w1.pl];exact hi
       rw [Q7,Q0 hp]
       exact sb.pu _ (getElem_mem _)
      omega
     have ap:=zP (t:=nT x) ga (by rw [Qh,sizeLine_eq];omega)
     rw [show (qJ (R.puts.getD i []) (n.per i)).map nT ++ [nT x] = (qJ (R.puts.getD i []) (n.per i) ++ [x]).map nT from by simp] at ap
     have ne1:ad1 (.g i) ≠ ad1 (.k i):=fun z=>by have:=w1.inj (.g i) (.k i) hi hi z;cases this
     have ne2:ad1 (.g i) ≠ ad1 (.c i):=fun z=>by have:=w1.inj (.g i) (.c i) hi hi z;cases this
     have ne3:ad1 (.c i) ≠ ad1 (.k i):=fun z=>by have:=w1.inj (.c i) (.k i) hi hi z;cases this
     refine Ok.seqX fun X hX=>?_
     simp_arith [w1.at_w,w1.at_p,z8 hi]
     rw [hX];clear hX;simp only [qf]
     refine Ok.seqX fun X hX=>?_
     simp_arith [ka,zF ga,ap]
     rw [hX];clear hX;simp only [qf]
     have kb:(M1.set (ad1 (.g i)) (.lst ((qJ (R.puts.getD i []) (n.per i) ++ [x]).map nT)))[ad1 (.k i)]? = some (.lst [.ref (ad1 (.g i)),.ref (ad1 (.c i)),nT (R.taken.getD i 0)]):=by rw [Qc,if_neg ne1];exact ka
     have gb:(M1.set (ad1 (.g i)) (.lst ((qJ (R.puts.getD i []) (n.per i) ++ [x]).map nT)))[ad1 (.g i)]? = some (.lst ((qJ (R.puts.getD i []) (n.per i) ++ [x]).map nT)):=get_set ga
     have cb:(M1.set (ad1 (.g i)) (.lst ((qJ (R.puts.getD i []) (n.per i) ++ [x]).map nT)))[ad1 (.c i)]? = some (.lst ((zY (R.puts.getD i []) (n.per i)).map tuL)):=by rw [Qc,if_neg ne2];exact w1.at_c hi
     have ln:yx (.ref (ad1 (.g i))) (M1.set (ad1 (.g i)) (.lst ((qJ (R.puts.getD i []) (n.per i) ++ [x]).map nT))) = .ok (nT ((R.puts.getD i []).length % n.per i + 1)) (M1.set (ad1 (.g i)) (.lst ((qJ (R.puts.getD i []) (n.per i) ++ [x]).map nT))):=by
      unfold yx yS zq
      simp only [gb]
      rw [Qh,Qn,zgo]
      rfl
     by_cases full:(R.puts.getD i []).length % n.per i + 1 = n.per i
     ·have z1:((((R.puts.getD i []).length % n.per i + 1:Nat):Int) == ((n.per i:Nat):Int)) = true:=by rw [full];exact beq_self_eq_true _
      have tl:z4 (.ref (ad1 (.g i))) (M1.set (ad1 (.g i)) (.lst ((qJ (R.puts.getD i []) (n.per i) ++ [x]).map nT))) = .ok (tuL (qJ (R.puts.getD i []) (n.per i) ++ [x])) (M1.set (ad1 (.g i)) (.lst ((qJ (R.puts.getD i []) (n.per i) ++ [x]).map nT))):=by
       unfold z4 yS zq
       simp only [gb]
       rfl
      have hcl:(zY (R.puts.getD i []) (n.per i)).length<=B:=by
       have hp:i < R.puts.length:=by rw [w1.pl];exact hi
       have hb:(R.puts.getD i []).length<=B:=by
        rw [Q7,Q0 hp]
        exact sb.pu _ (getElem_mem _)
       unfold zY
       rw [Qh,length_range]
       exact Qj (Nat.div_le_self _ _) hb
      have ap2:=zP (t:=tuL (qJ (R.puts.getD i []) (n.per i) ++ [x])) cb (by rw [Qh,sizeLine_eq];omega)
      rw [show (zY (R.puts.getD i []) (n.per i)).map tuL ++ [tuL (qJ (R.puts.getD i []) (n.per i) ++ [x])] = (zY (R.puts.getD i []) (n.per i) ++ [qJ (R.puts.getD i []) (n.per i) ++ [x]]).map tuL from by simp] at ap2
      have wc:=w1.coin (x:=x) hi pm1 full rfl
      refine Ok.ifB true (by simp_arith [kb,ln,z1]) ?_
      rw [if_pos rfl]
      refine Ok.seqX fun X hX=>?_
      simp_arith [kb,zF cb,tl,ap2]
      rw [hX];clear hX;simp only [qf]
      generalize hM2:(M1.set (ad1 (.g i)) (.lst ((qJ (R.puts.getD i []) (n.per i) ++ [x]).map nT))).set (ad1 (.c i)) (.lst ((zY (R.puts.getD i []) (n.per i) ++ [qJ (R.puts.getD i []) (n.per i) ++ [x]]).map tuL)) = M2 at wc
      have hl2:M2.length = M1.length:=by rw [← hM2];simp
      have kc:(M2 ++ [Cell.lst []])[ad1 (.k i)]? = some (.lst [.ref (ad1 (.g i)),.ref (ad1 (.c i)),nT (R.taken.getD i 0)]):=by
       rw [Q6 (by rw [hl2];exact yA ka),← hM2,Qc,if_neg ne3]
       exact kb
      rw [← hl2] at wc
      simp_arith [kc]
      refine Ok.ret ⟨_,rfl,_,_,_,_,_,rfl,?_⟩
      exact Wst.trans' (D1:=D1) f1 wc
     ·have z1:((((R.puts.getD i []).length % n.per i + 1:Nat):Int) == ((n.per i:Nat):Int)) = false:=by
       have:¬ (((R.puts.getD i []).length % n.per i + 1:Nat):Int) = ((n.per i:Nat):Int):=by omega
       simpa using this
      refine Ok.ifB false (by simp_arith [kb,ln,z1]) ?_
      rw [if_neg (by decide)]
      simp_arith [and_self]
      obtain ⟨g1,g2⟩:=w1.giv (x:=x) hi pm1 full
      exact Ok.ret ⟨_,rfl,_,_,_,_,_,rfl,Wst.trans' (D1:=D1) f1 ⟨ad1,D1,g1,g2⟩⟩
   ·rw [if_neg c]
    have f0:f = false:=by
     cases z:f with
     | false=>rfl
     | true=>exact absurd (.inl (hf.mp z)) c
    have qa:n.any i = false:=by
     cases z:n.any i with
     | false=>rfl
     | true=>exact absurd (.inr z) c
    refine Ok.ifB false (by simp_arith [en,d',f0,any,qa]) ?_
    rw [if_neg (by decide)]
    simp_arith [and_self]
    exact Ok.ret ⟨_,rfl,_,_,_,_,_,rfl,ws⟩
  ·have d':decide (n.pof a = some i) = false:=Qw d
   have e1:(∃ k,k < i + 1/\n.pof a = some k) ↔ ∃ k,k < i/\n.pof a = some k:=by
    constructor
    ·rintro ⟨k,h1,h2⟩
     refine ⟨k,?_,h2⟩
     have:k ≠ i:=fun z=>d (by rw [← z];exact h2)
     omega
    ·rintro ⟨k,h1,h2⟩
     exact ⟨k,by omega,h2⟩
   refine Ok.ifB false (by simp_arith [en,d']) ?_
   rw [if_neg (by decide)]
   simp_arith [and_self]
   refine Ok.ret ⟨_,rfl,_,_,_,_,_,rfl,?_⟩
   rw [show (if (∃ k,k < i + 1/\n.pof a = some k) then R.share n a tr x else R) = if (∃ k,k < i/\n.pof a = some k) then R.share n a tr x else R from by simp only [e1]]
   exact ws
 ·rintro fl M1 ⟨σ,rfl,o5,o6,o7,o8,o9,rfl,ws⟩
  rw [zam] at ws
  simp_arith [and_self]
  refine Ok.ret ⟨rfl,?_⟩
  split at ws
  ·exact ws
  ·rename_i z
   have e0:R.share n a tr x = R:=by
    unfold Run.share
    cases q:n.pof a with
    | none=>rfl
    | some k=>exact absurd ⟨k,(wn.as hh a ha).plt q,q⟩ z
   rw [e0]
   exact ws
end
section
theorem zh0 (wn:WN n) {k:Nat} (h:zcC s (n.hs.map (·.name)) 0 = some k) (M:Mem):zaU kE kR [qg n,.str s] M = .ok (nT k) M:=by
 unfold zaU zgK qg
 have c:qA (yr 0) zX (eOp ixT (yb 0) (eC (.int 0))) (n.hs.map hsT) [none] M [] = .ok ((n.hs.map (·.name)).map .str) M:=by
  rw [map_map]
  refine Ok.mapc (r:=hsT) (fun σ=>∃ o,σ = [o]) _ ⟨_,rfl⟩ (by have:=wn.hl;omega) ?_
  rintro x σ hx ⟨o,rfl⟩
  exact ⟨[some (.tup [.str x.name,.tup (x.asks.map yu)])],rfl,⟨_,rfl⟩,by simp_arith [and_self];rfl⟩
 have k:zdX (.lst ((n.hs.map (·.name)).map .str)) [.str s] M = .ok (nT k) M:=by
  unfold zdX zq
  dsimp only
  rw [if_pos,zhZ,h]
  rw [Qs]
  refine ⟨rfl,all_eq_true.mpr fun t ht=>?_⟩
  obtain ⟨y,_,rfl⟩:=mem_map.mp ht
  rfl
 have i1:zbw (.lst ((n.hs.map (·.name)).map .str)) M = true:=rfl
 simp_arith [c,zaA,i1,k]
theorem zg6 (h:Wd n ad M R D):yx (.ref (ad .a)) M = .ok (nT R.es.length) M:=by
 unfold yx yS zq
 simp only [h.at_a]
 simp
theorem zch (hh:Nat) (hl:hh < n.hs.length):atI (n.hs.map hsT) (hh:Int) = some (.tup [.str (n.hs[hh]).name,.tup ((n.asks hh).map yu)]):=by
 have hn:n.hs[hh]? = some n.hs[hh]:=Q0 hl
 have as:n.asks hh = (n.hs[hh]).asks:=by unfold Net.asks;rw [hn];rfl
 rw [as]
 exact qo (f:=hsT) hn
noncomputable def muB (σ:FT.Ev) (_:Mem):Nat:=match σ with
 | [_,_,some (.int h),_,some (.tup (_ :: _)),_]=>5 - h.toNat
 | _=>0
theorem zit (gn:GN n) (h:Wd n ad M R D) (sb:SB B R) (hB:B + 20 < 90000) (hl:hh < n.hs.length) (c:Option (Nat × Nat × Nat)) :
  Ok (zaV kE kR [qg n,.ref (ad .w),nT hh,clT c] M) fun t M'=>t = .non/\Wst n ad M R (qC n 4 R hh c) M':=by
 have wn:=gn.wn
 refine yy rfl ?_
 unfold zgM
 refine Ok.seqR fun X hX=>?_
 simp_arith [and_self]
 rw [hX];clear hX;simp only [qf]
 refine Ok.bind (Ok.while (R:=fun _ _=>False) (Q:=fun σ M'=>Wst n ad M R (qC n 4 R hh c) M') (fun σ M'=>∃ o5,(∃ f h1 c1 t ts ad1 D1 R1 B1,σ = [some (qg n),some (.ref (ad .w)),some (nT h1),some (clT c1),some (.tup (t :: ts)),o5]/\Wd n ad1 M' R1 D1/\Wf2 n ad M R ad1 M' R1/\qC n 4 R hh c = qC n f R1 h1 c1/\n.hs.length<=h1 + f/\h1 < n.hs.length/\SB B1 R1/\B1 + 2 * f<=B + 8)\/∃ o2 o3,σ = [some (qg n),some (.ref (ad .w)),o2,o3,some (.tup []),o5]/\Wst n ad M R (qC n 4 R hh c) M') muB ⟨none,.inl ⟨4,hh,c,_,_,ad,D,R,B,rfl,h,.refl,rfl,by have:=wn.hl;omega,hl,sb,by omega⟩⟩ ?_) ?_
 ·rintro σ M1 ⟨o5,⟨f,h1,c1,t,ts,ad1,D1,R1,B1,rfl,w1,f1,eb,hf,hl1,sb1,hB1⟩ | ⟨o2,o3,rfl,ws⟩⟩
  ·have nt:∀ M,neA (.tup (t :: ts)) (.tup []) M = .ok (.bl true) M:=fun _=>rfl
   obtain ⟨f,rfl⟩:∃ f',f = f' + 1:=⟨f - 1,by omega⟩
   have cc:Ok (zb2 kE kR [some (qg n),some (.ref (ad .w)),some (nT h1),some (clT c1),some (.tup (t :: ts)),o5] M1) fun b M2=>b = true/\M2 = M1:=by
    unfold zb2
    simp_arith [nt]
    exact Ok.ret ⟨rfl,rfl⟩
   refine cc.mono ?_
   rintro b M2 ⟨rfl,rfl⟩
   refine .inl ⟨rfl,?_⟩
   have mu1:muB [some (qg n),some (.ref (ad .w)),some (nT h1),some (clT c1),some (.tup (t :: ts)),o5] M2 = 5 - h1:=by
    show 5 - ((h1:Int)).toNat = _
    rw [Int.toNat_natCast]
   rw [mu1,← f1.ww]
   have h4:=wn.hl
   unfold zfU
   rw [show qg n = .tup [.tup (n.hs.map hsT),.tup (n.ps.map puT)] from rfl]
   have ha1:=zch h1 hl1
   obtain ⟨w2,f2⟩:=w1.pushE h1 c1
   have ap:=zP (a:=ad1 .a) (t:=.ref M2.length) (M:=M2 ++ [Cell.lst [nT h1,clT c1,.tup [.str "works"]]]) (by rw [Q6 (yA w1.at_a)];exact w1.at_a) (by rw [Qh,length_range,sizeLine_eq];have:=sb1.es;omega)
   have lc:yD (.ref (ad1 .a)) M2 = .ok (.ref (ad1 .a)) M2:=zF w1.at_a
   refine Ok.seqX fun X hX=>?_
   simp_arith [w1.at_w,zg6 w1]
   rw [hX];clear hX;simp only [qf]
   refine Ok.seqX fun X hX=>?_
   simp_arith [ha1]
   rw [hX];clear hX;simp only [qf]
   refine Ok.seqX fun X hX=>?_
   simp_arith [w1.at_w,lc,ap]
   rw [hX];clear hX;simp only [qf]
   generalize (M2 ++ [Cell.lst [nT h1,clT c1,.tup [.str "works"]]]).set (ad1 .a) (.lst (((List.range R1.es.length).map fun i=>FT.T.ref (ad1 (.e i))) ++ [.ref M2.length])) = M3 at w2 f2
   have hwa:(fun s=>if s = Slot.e R1.es.length then M2.length else ad1 s) .w = ad1 .w:=f2.ww
   have hpe:(R1.push (yn h1 c1)).es[R1.es.length]? = some (yn h1 c1):=zba R1 _
   cases q:n.asks h1 with
   | nil=>
    have n0:∀ M,neA (.tup []) (.tup []) M = .ok (.bl false) M:=fun _=>rfl
    have e1:qC n (f + 1) R1 h1 c1 = R1.push (yn h1 c1):=by unfold qC;rw [if_pos q]
    rw [map_nil]
    simp_arith [n0]
    refine Ok.ret (.inl ⟨_,.inl rfl,⟨_,.inr ⟨_,_,by rw [f1.ww],?_⟩⟩,?_⟩)
    ·rw [eb,e1]
     exact ⟨_,_,w2,f1.trans f2⟩
    ·show (0:Nat) < _
     omega
   | cons a as=>
    have h0:¬ n.asks h1 = []:=by rw [q];simp
    have n1:∀ M,neA (.tup (yu a :: as.map yu)) (.tup []) M = .ok (.bl true) M:=fun _=>rfl
    have ha:(n.asks h1)[0]? = some a:=by rw [q];rfl
    have hm:a ∈ n.asks h1:=by rw [q];exact .head _
    have w:=wn.as h1 a hm
    have e1:qC n (f + 1) R1 h1 c1 = qC n f (((R1.push (yn h1 c1)).setE R1.es.length { yn h1 c1 with ph:=.waits 0 1,asked:=some (R1.push (yn h1 c1)).es.length }).share n a 1 (R1.push (yn h1 c1)).es.length) (n.hix a.to) (some (R1.es.length,0,1)):=by
     rw [qC,if_neg h0,zeF (zba R1 _) ha]
    obtain ⟨w3,f3⟩:=w2.setE hpe { yn h1 c1 with ph:=.waits 0 1,asked:=some (R1.push (yn h1 c1)).es.length } rfl rfl rfl
    have pl:(R1.push (yn h1 c1)).es.length = R1.es.length + 1:=by simp [Run.push]
    have sbx:SB (B1 + 1) ((R1.push (yn h1 c1)).setE R1.es.length { yn h1 c1 with ph:=.waits 0 1,asked:=some (R1.push (yn h1 c1)).es.length }):=(sb1.push _).setE _ _
    rw [map_cons]
    refine Ok.ifB true (by simp_arith [n1]) ?_
    rw [if_pos rfl]
    have a0:=w2.at_a
    have ew:M3[M2.length]? = some (.lst [nT h1,clT c1,.tup [.str "works"]]):=by
     have:=w2.at_e hpe
     rw [if_pos rfl] at this
     exact this
    have ww2:=w2.at_w
    rw [if_neg (fun y=>by cases y),if_neg (fun y=>by cases y),if_neg (fun y=>by cases y),if_neg (fun y=>by cases y),if_neg (fun y=>by cases y)] at ww2
    rw [if_neg (fun y=>by cases y)] at a0
    have ar:atI ((List.range (R1.push (yn h1 c1)).es.length).map fun i=>FT.T.ref (if Slot.e i = Slot.e R1.es.length then M2.length else ad1 (.e i))) (R1.es.length:Int) = some (.ref M2.length):=by
     rw [z8 (by omega),if_pos rfl]
    rw [if_pos rfl] at w3 f3
    have so:=zhu (kE:=kE) (kR:=kR) gn w3 sbx (by omega) hm 1 (R1.push (yn h1 c1)).es.length (f:=true) ⟨fun _=>rfl,fun _=>rfl⟩
    rw [if_neg (fun y=>by cases y),pl,show nT (R1.es.length + 1) = .int ((R1.es.length:Int) + 1) from rfl,show qg n = .tup [.tup (n.hs.map hsT),.tup (n.ps.map puT)] from rfl] at so
    refine Ok.seqX fun X hX=>?_
    simp_arith [ww2,a0,ar,ew]
    rw [hX];clear hX;simp only [qf]
    refine Ok.seqX fun X hX=>?_
    rw [pl] at w3 f3 e1 sbx
    simp_arith [and_self]
    refine Ok.bind so ?_
    rintro t4 M4 ⟨rfl,ad4,D4,w4,f4⟩
    have hq:=zh0 (kE:=kE) (kR:=kR) wn w.to
    rw [show qg n = .tup [.tup (n.hs.map hsT),.tup (n.ps.map puT)] from rfl] at hq
    try simp_arith [and_self]
    rw [hX];clear hX;simp only [qf]
    refine Ok.seqX fun X hX=>?_
    simp_arith [and_self]
    rw [hX];clear hX;simp only [qf]
    rw [show yu a = .tup [.str a.to,.int a.tries,opS a.purse,.str a.word,.bl a.hears,.bl a.sure] from rfl]
    simp_arith [hq]
    refine Ok.ret (.inl ⟨_,.inl rfl,⟨_,.inl ⟨f,n.hix a.to,some (R1.es.length,0,1),_,_,ad4,D4,_,B1 + 2,by rw [f1.ww];rfl,w4,f1.trans (f2.trans (f3.trans f4)),by rw [eb,e1],by have:=w.up;omega,w.lt,sbx.share n a 1 _,by omega⟩⟩,?_⟩)
    show 5 - ((n.hix a.to:Int)).toNat < _
    rw [Int.toNat_natCast]
    have:=w.up
    omega
  ·have nt:∀ M,neA (.tup []) (.tup []) M = .ok (.bl false) M:=fun _=>rfl
   have cc:Ok (zb2 kE kR [some (qg n),some (.ref (ad .w)),o2,o3,some (.tup []),o5] M1) fun b M2=>b = false/\M2 = M1:=by
    unfold zb2
    simp_arith [nt]
    exact Ok.ret ⟨rfl,rfl⟩
   refine cc.mono ?_
   rintro b M2 ⟨rfl,rfl⟩
   exact .inr ⟨rfl,ws⟩
 ·rintro fl M1 (⟨σ,rfl,ws⟩ | ⟨t,_,z⟩)
  ·simp_arith [and_self]
   exact Ok.ret ⟨rfl,ws⟩
  ·exact z.elim
end
variable {t:FT.T}
section
theorem zjC {a b c:FT.T} (h:M[x]? = some (.lst [a,b,c])):zdi (.ref x) (.int 2) t M = .ok () (M.set x (.lst [a,b,t])):=by
 have e:zaL (.ref x) (.int 2) t M = .ok () (M.set x (.lst [a,b,t])):=by
  unfold zaL
  simp only [h]
  rfl
 show (match M[x]? with
  | some (.dic kvs)=>if kvs.length < sizeLine then Out.ok () (M.set x (.dic (zaY kvs (.inl 2) t))) else .bad
  | _=>zaL (.ref x) (.int 2) t M) = _
 rw [h]
 exact e
theorem zms (h:Wd n ad M R D) (i:Nat):zfh (.int (i:Int)) (.ref (ad .d)) M = .ok (.bl (!zck R i)) M:=by
 unfold zfh zfQ
 simp only [h.at_d,zhW,h.dl i]
theorem ziP (gn:GN n) (h:Wd n ad M R D) (sb:SB B R) (hB:B + 30 < 90000) (ri:RI n R) {num at' tr:Nat} (he:R.es[num]? = some e) (hat:at' < (n.asks e.house).length) :
  Ok (zcN kE kR [qg n,.ref (ad .w),nT num,nT at',nT tr] M) fun t M'=>t = .non/\Wst n ad M R (y4 n (qC n 4) R num at' tr) M':=by
 have wn:=gn.wn
 have hi:=(List.getElem?_eq_some_iff.mp he).1
 have ha:(n.asks e.house)[at']? = some (n.asks e.house)[at']:=Q0 hat
 have hm:=Qa ha
 have w:=wn.as e.house _ hm
 rw [zeF he ha]
 generalize (n.asks e.house)[at'] = a at ha hm w
 have hs1:=zch e.house (ri.hs _ _ he)
 have ha1:atI ((n.asks e.house).map yu) (at':Int) = some (yu a):=qo (f:=yu) ha
 obtain ⟨w1,f1⟩:=h.setE he { e with ph:=.waits at' tr,asked:=some R.es.length } rfl rfl rfl
 have ae:=h.at_e he
 have st:zaL (.ref (ad (.e num))) (.int 2) (.tup [.str "waits",nT at',nT tr]) M = .ok () (M.set (ad (.e num)) (.lst [nT e.house,clT e.caller,.tup [.str "waits",nT at',nT tr]])):=by
  unfold zaL
  simp only [ae]
  rfl
 have hl:(R.setE num { e with ph:=.waits at' tr,asked:=some R.es.length }).es.length = R.es.length:=length_set ..
 refine yy rfl ?_
 unfold zjc
 refine Ok.seqR fun X hX=>?_
 rw [show startT 6 [qg n,.ref (ad .w),nT num,nT at',nT tr] = [some (.tup [.tup (n.hs.map hsT),.tup (n.ps.map puT)]),some (.ref (ad .w)),some (nT num),some (nT at'),some (nT tr),none] from rfl]
 simp_arith [h.at_w,h.at_a,z8 hi,ae,hs1,ha1]
 rw [hX];clear hX;simp only [qf]
 refine Ok.seqR fun X hX=>?_
 have ai:atI ((List.range R.es.length).map fun i=>FT.T.ref (ad (.e i))) (num:Int) = some (.ref (ad (.e num))):=z8 hi
 unfold za2
 simp_arith [h.at_w,h.at_a,ai,ae]
 rw [hX];clear hX;simp only [qf]
 rw [show phT ({ e with ph:=.waits at' tr,asked:=some R.es.length }:Er).ph = .tup [.str "waits",nT at',nT tr] from rfl] at w1 f1
 have la:=zg6 w1
 rw [hl] at la
 have z1:∀ M,eqA (nT tr) (.int 1) M = .ok (.bl (((tr:Nat):Int) == 1)) M:=fun _=>rfl
 have hf:(((tr:Nat):Int) == 1) = true ↔ tr = 1:=by rw [beq_iff_eq];omega
 have so:=zhu (kE:=kE) (kR:=kR) gn w1 (sb.setE num _) (by omega) hm tr R.es.length hf
 rw [show qg n = .tup [.tup (n.hs.map hsT),.tup (n.ps.map puT)] from rfl] at so
 refine Ok.seqR fun X hX=>?_
 simp_arith [w1.at_w,la]
 refine Ok.bind so ?_
 rintro t2 M2 ⟨rfl,ad2,D2,w2,f2⟩
 try simp_arith [and_self]
 rw [hX];clear hX;simp only [qf]
 have hq:=zh0 (kE:=kE) (kR:=kR) wn w.to
 have bo:=zit (kE:=kE) (kR:=kR) gn w2 ((sb.setE num { e with ph:=.waits at' tr,asked:=some R.es.length }).share n a tr R.es.length) (by omega) w.lt (some (num,at',tr))
 rw [f2.ww] at bo
 rw [show qg n = .tup [.tup (n.hs.map hsT),.tup (n.ps.map puT)] from rfl] at hq bo
 rw [show yu a = .tup [.str a.to,.int a.tries,opS a.purse,.str a.word,.bl a.hears,.bl a.sure] from rfl]
 simp_arith [hq]
 refine Ok.bind bo ?_
 rintro t3 M3 ⟨rfl,ad3,D3,w3,f3⟩
 try simp_arith [and_self]
 exact Ok.ret ⟨rfl,ad3,D3,w3,f1.trans (f2.trans f3)⟩
end
section
noncomputable def muE (σ:FT.Ev) (_:Mem):Nat:=match σ with
 | [_,_,some (.int i),_,some (.bl true),_,_,_,_]=>i.toNat + 1
 | _=>0
theorem zjm (gn:GN n) (h:Wd n ad M R D) (sb:SB B R) (hB:B + 30 < 90000) (ri:RI n R) (he:R.es[i]? = some e) (w:Str) :
  Ok (zdD kE kR [qg n,.ref (ad .w),nT i,.str w] M) fun t M'=>t = .non/\Wst n ad M R (zK n 4 R i w) M':=by
 have wn:=gn.wn
 refine yy rfl ?_
 unfold zjf
 refine Ok.seqR fun X hX=>?_
 simp_arith [and_self]
 rw [hX];clear hX;simp only [qf]
 refine Ok.bind (Ok.while (R:=fun _ _=>False) (Q:=fun σ M'=>Wst n ad M R (zK n 4 R i w) M') (fun σ M'=>∃ o5 o6 o7 o8,(∃ f i1 e1 ad1 D1 R1,σ = [some (qg n),some (.ref (ad .w)),some (nT i1),some (.str w),some (.bl true),o5,o6,o7,o8]/\Wd n ad1 M' R1 D1/\Wf2 n ad M R ad1 M' R1/\zK n 4 R i w = zK n f R1 i1 w/\R1.es[i1]? = some e1/\e1.house < f/\RI n R1/\SB B R1)\/∃ o2,σ = [some (qg n),some (.ref (ad .w)),o2,some (.str w),some (.bl false),o5,o6,o7,o8]/\Wst n ad M R (zK n 4 R i w) M') muE ⟨none,none,none,none,.inl ⟨4,i,e,ad,D,R,rfl,h,.refl,rfl,he,by have:=ri.hs _ _ he;have:=wn.hl;omega,ri,sb⟩⟩ ?_) ?_
 ·rintro σ M1 ⟨o5,o6,o7,o8,⟨f,i1,e1,ad1,D1,R1,rfl,w1,f1,eb,he1,hf,ri1,sb1⟩ | ⟨o2,rfl,ws⟩⟩
  ·have cc:Ok (zc5 kE kR [some (qg n),some (.ref (ad .w)),some (nT i1),some (.str w),some (.bl true),o5,o6,o7,o8] M1) fun b M2=>b = true/\M2 = M1:=by
    unfold zc5
    simp_arith [and_self]
    exact Ok.ret ⟨rfl,rfl⟩
   refine cc.mono ?_
   rintro b M2 ⟨rfl,rfl⟩
   refine .inl ⟨rfl,?_⟩
   have mu1:muE [some (qg n),some (.ref (ad .w)),some (nT i1),some (.str w),some (.bl true),o5,o6,o7,o8] M2 = i1 + 1:=by
    show ((i1:Int)).toNat + 1 = _
    rw [Int.toNat_natCast]
   rw [mu1,← f1.ww]
   obtain ⟨f,rfl⟩:∃ f',f = f' + 1:=⟨f - 1,by omega⟩
   have hi1:=(List.getElem?_eq_some_iff.mp he1).1
   have ae:=w1.at_e he1
   obtain ⟨w2,f2⟩:=w1.setE he1 { e1 with ph:=.ended w } rfl rfl rfl
   rw [show phT ({ e1 with ph:=.ended w }:Er).ph = .tup [.str "ended",.str w] from rfl] at w2 f2
   have s3:=zjC (t:=.tup [.str "ended",.str w]) ae
   have ai:atI ((List.range R1.es.length).map fun i=>FT.T.ref (ad1 (.e i))) (i1:Int) = some (.ref (ad1 (.e i1))):=z8 hi1
   have hl2:(R1.setE i1 { e1 with ph:=.ended w }).es.length = R1.es.length:=length_set ..
   have he2:(R1.setE i1 { e1 with ph:=.ended w }).es[i1]? = some { e1 with ph:=.ended w }:=zc0 he1 _
   have ri2:RI n (R1.setE i1 { e1 with ph:=.ended w }):=ri1.setE he1 rfl rfl True.intro
   have nd:=zms w2 i1
   rw [show zck (R1.setE i1 { e1 with ph:=.ended w }) i1 = e1.lost from by unfold zck;rw [he2];rfl] at nd
   have ae2:=w2.at_e he2
   rw [show phT ({ e1 with ph:=.ended w }:Er).ph = .tup [.str "ended",.str w] from rfl] at ae2
   have a2:=w2.at_a
   rw [hl2] at a2
   unfold ziw
   refine Ok.seqX fun X hX=>?_
   simp_arith [za2,w1.at_w,w1.at_a,ai,s3]
   rw [hX];clear hX;simp only [qf]
   generalize M2.set (ad1 (.e i1)) (.lst [nT e1.house,clT e1.caller,.tup [.str "ended",.str w]]) = M3 at w2 f2 nd ae2 a2
   refine Ok.seqX fun X hX=>?_
   simp_arith [w2.at_w,a2,ai,ae2]
   rw [hX];clear hX;simp only [qf]
   cases q:e1.caller with
   | none=>
    have i0:∀ M,y8 (clT none) .non M = .ok (.bl false) M:=fun _=>rfl
    have ee:zK n (f + 1) R1 i1 w = R1.setE i1 { e1 with ph:=.ended w }:=by unfold zK;rw [he1];dsimp only;rw [q]
    refine Ok.seqX fun X hX=>?_
    simp_arith [i0]
    rw [hX];clear hX;simp only [qf]
    simp_arith [and_self]
    refine Ok.ret (.inl ⟨_,.inl rfl,⟨_,_,_,_,.inr ⟨_,by rw [f1.ww],?_⟩⟩,?_⟩)
    ·rw [eb,ee]
     exact ⟨_,_,w2,f1.trans f2⟩
    ·show (0:Nat) < _
     omega
   | some c=>
    have i0:∀ M,y8 (.tup [nT c.1,nT c.2.1,nT c.2.2]) .non M = .ok (.bl true) M:=fun _=>rfl
    rw [show clT (some c) = .tup [nT c.1,nT c.2.1,nT c.2.2] from rfl]
    cases ql:e1.lost with
    | true=>
     have ee:zK n (f + 1) R1 i1 w = R1.setE i1 { e1 with ph:=.ended w }:=by unfold zK;rw [he1];dsimp only;rw [q];dsimp only;rw [if_pos ql]
     rw [ql] at nd
     refine Ok.seqX fun X hX=>?_
     simp_arith [i0,w2.at_w,nd]
     rw [hX];clear hX;simp only [qf]
     simp_arith [and_self]
     refine Ok.ret (.inl ⟨_,.inl rfl,⟨_,_,_,_,.inr ⟨_,by rw [f1.ww],?_⟩⟩,?_⟩)
     ·rw [eb,ee]
      exact ⟨_,_,w2,f1.trans f2⟩
     ·show (0:Nat) < _
      omega
    | false=>
     have ee:zK n (f + 1) R1 i1 w = zau n (zK n f) (R1.setE i1 { e1 with ph:=.ended w }) c w:=by rw [zK,he1];dsimp only;rw [q];dsimp only;rw [if_neg (by rw [ql];simp)]
     rw [ql] at nd
     obtain ⟨d1,ce,c1,c2,c3⟩:=ri2.cl i1 _ c he2 q
     have c2:ce.house < e1.house:=c2
     have ec:zau n (zK n f) (R1.setE i1 { e1 with ph:=.ended w }) c w = if (w == ("well":Str)) = true/\c.2.1 + 1 < (n.asks ce.house).length then y4 n (qC n 4) (R1.setE i1 { e1 with ph:=.ended w }) c.1 (c.2.1 + 1) 1
       else if (w == ("well":Str)) = true\/((w == ("spent":Str)) = true/\((n.asks ce.house)[c.2.1]?).any (·.hears) = true) then zK n f (R1.setE i1 { e1 with ph:=.ended w }) c.1 w
       else (R1.setE i1 { e1 with ph:=.ended w }).setE c.1 { ce with ph:=.stands c.2.1 c.2.2,stood:=some (R1.setE i1 { e1 with ph:=.ended w }).came }:=by
      unfold zau
      rw [c1]
     rw [ee,ec] at eb
     clear ee ec
     have hc1:=(List.getElem?_eq_some_iff.mp c1).1
     have ace:=w2.at_e c1
     have ac:atI ((List.range R1.es.length).map fun i=>FT.T.ref (ad1 (.e i))) (c.1:Int) = some (.ref (ad1 (.e c.1))):=z8 (by omega)
     have hs1:=zch ce.house (ri2.hs _ _ c1)
     have ha:(n.asks ce.house)[c.2.1]? = some (n.asks ce.house)[c.2.1]:=Q0 c3
     have haa:atI ((n.asks ce.house).map yu) (c.2.1:Int) = some (.tup [.str (n.asks ce.house)[c.2.1].to,.int (n.asks ce.house)[c.2.1].tries,opS (n.asks ce.house)[c.2.1].purse,.str (n.asks ce.house)[c.2.1].word,.bl (n.asks ce.house)[c.2.1].hears,.bl (n.asks ce.house)[c.2.1].sure]):=qo (f:=yu) ha
     have a4:∀ (t0 t1 t2 t3 t4 t5:FT.T),atI [t0,t1,t2,t3,t4,t5] 4 = some t4:=fun _ _ _ _ _ _=>rfl
     have sb2:SB B (R1.setE i1 { e1 with ph:=.ended w }):=sb1.setE _ _
     have tk:=fun (hat:c.2.1 + 1 < (n.asks ce.house).length)=>ziP (kE:=kE) (kR:=kR) gn w2 sb2 hB ri2 (tr:=1) c1 hat
     have s4:=zjC (t:=.tup [.str "stands",nT c.2.1,nT c.2.2]) ace
     generalize hR2:R1.setE i1 { e1 with ph:=.ended w } = R2 at *
     rw [show qg n = .tup [.tup (n.hs.map hsT),.tup (n.ps.map puT)] from rfl] at tk ⊢
     refine Ok.seqX fun X hX=>?_
     simp_arith [i0,w2.at_w,nd]
     rw [hX];clear hX;simp only [qf]
     refine Ok.ifB true (by simp_arith [and_self]) ?_
     rw [if_pos rfl]
     refine Ok.seqX fun X hX=>?_
     simp_arith [and_self]
     rw [hX];clear hX;simp only [qf]
     refine Ok.seqX fun X hX=>?_
     simp_arith [w2.at_w,a2,ac,ace,hs1]
     rw [hX];clear hX;simp only [qf]
     by_cases hw:(w == ("well":Str)) = true
     ·by_cases hl3:c.2.1 + 1 < (n.asks ce.house).length
      ·have d2:decide ((c.2.1:Int) + 1 < ((n.asks ce.house).length:Int)) = true:=Qv (by omega)
       rw [if_pos ⟨hw,hl3⟩] at eb
       refine Ok.ifB true (by simp_arith [zde,hw,Qh,d2]) ?_
       rw [if_pos rfl]
       refine Ok.seqX fun X hX=>?_
       simp_arith [and_self]
       refine Ok.bind (tk hl3) ?_
       rintro t4 M4 ⟨rfl,ad4,D4,w4,f4⟩
       try simp_arith [and_self]
       rw [hX];clear hX;simp only [qf]
       simp_arith [and_self]
       refine Ok.ret (.inl ⟨_,.inl rfl,⟨_,_,_,_,.inr ⟨_,by rw [f1.ww],?_⟩⟩,?_⟩)
       ·rw [eb]
        exact ⟨_,_,w4,f1.trans (f2.trans f4)⟩
       ·show (0:Nat) < _
        omega
      ·have d2:decide ((c.2.1:Int) + 1 < ((n.asks ce.house).length:Int)) = false:=Qw (by omega)
       rw [if_neg fun z=>hl3 z.2,if_pos (.inl hw)] at eb
       refine Ok.ifB false (by simp_arith [zde,hw,Qh,d2]) ?_
       rw [if_neg (by decide)]
       refine Ok.ifB false (by simp_arith [zeI,hw]) ?_
       rw [if_neg (by decide)]
       simp_arith [and_self]
       refine Ok.ret (.inl ⟨_,.inl rfl,⟨_,_,_,_,.inl ⟨f,c.1,ce,ad1,D1,R2,by rw [f1.ww],w2,f1.trans f2,eb,c1,by omega,ri2,sb2⟩⟩,?_⟩)
       show ((c.1:Int)).toNat + 1 < _
       rw [Int.toNat_natCast]
       omega
     ·have hw':(w == ("well":Str)) = false:=by simpa using hw
      rw [if_neg fun z=>hw z.1] at eb
      refine Ok.ifB false (by simp_arith [zde,hw']) ?_
      rw [if_neg (by decide)]
      by_cases hsp:(w == ("spent":Str)) = true/\(n.asks ce.house)[c.2.1].hears = true
      ·rw [if_pos (.inr ⟨hsp.1,by rw [ha];exact hsp.2⟩)] at eb
       refine Ok.ifB false (by simp_arith [zeI,zde,hw',hsp.1,haa,a4,hsp.2]) ?_
       rw [if_neg (by decide)]
       simp_arith [and_self]
       refine Ok.ret (.inl ⟨_,.inl rfl,⟨_,_,_,_,.inl ⟨f,c.1,ce,ad1,D1,R2,by rw [f1.ww],w2,f1.trans f2,eb,c1,by omega,ri2,sb2⟩⟩,?_⟩)
       show ((c.1:Int)).toNat + 1 < _
       rw [Int.toNat_natCast]
       omega
      ·rw [if_neg (by
        rintro (z | ⟨z,y⟩)
        ·exact hw z
        ·rw [ha] at y
         exact hsp ⟨z,y⟩)] at eb
       obtain ⟨w5,f5⟩:=w2.setE c1 { ce with ph:=.stands c.2.1 c.2.2,stood:=some R2.came } rfl rfl rfl
       rw [show phT ({ ce with ph:=.stands c.2.1 c.2.2,stood:=some R2.came }:Er).ph = .tup [.str "stands",nT c.2.1,nT c.2.2] from rfl] at w5 f5
       refine Ok.ifB true ?_ ?_
       ·cases z:(w == ("spent":Str)) with
        | false=>simp_arith [zeI,zde,hw',z]
        | true=>
         have y:(n.asks ce.house)[c.2.1].hears = false:=by
          cases x:(n.asks ce.house)[c.2.1].hears with
          | false=>rfl
          | true=>exact absurd ⟨z,x⟩ hsp
         simp_arith [zeI,zde,hw',z,haa,a4,y]
       ·rw [if_pos rfl]
        refine Ok.seqX fun X hX=>?_
        simp_arith [za2,w2.at_w,a2,ac,s4]
        rw [hX];clear hX;simp only [qf]
        simp_arith [and_self]
        refine Ok.ret (.inl ⟨_,.inl rfl,⟨_,_,_,_,.inr ⟨_,by rw [f1.ww],?_⟩⟩,?_⟩)
        ·rw [eb]
         exact ⟨_,_,w5,f1.trans (f2.trans f5)⟩
        ·show (0:Nat) < _
         omega
  ·have cc:Ok (zc5 kE kR [some (qg n),some (.ref (ad .w)),o2,some (.str w),some (.bl false),o5,o6,o7,o8] M1) fun b M2=>b = false/\M2 = M1:=by
    unfold zc5
    simp_arith [and_self]
    exact Ok.ret ⟨rfl,rfl⟩
   refine cc.mono ?_
   rintro b M2 ⟨rfl,rfl⟩
   exact .inr ⟨rfl,ws⟩
 ·rintro fl M1 (⟨σ,rfl,ws⟩ | ⟨t,_,z⟩)
  ·simp_arith [and_self]
   exact Ok.ret ⟨rfl,ws⟩
  ·exact z.elim
end
theorem zmb (n:Net) (R:Run) (i:Nat):yX n R i = (if (R.er i).ph.isW = true then [.ends i "bad",.ends i "spent",.ends i "well"] else []) ++ (if zR n R (R.er i) = true then [.lost i] else []) ++ (if (zJ n (R.er i) && qW n R (R.er i)) = true then [.again i] else []) ++ (if (R.er i).ph.isS = true then [.up i] else []):=by
 unfold yX zao
 rw [List.filter_append,List.filter_append,List.filter_append]
 have h1:∀ c:Bool,((if c = true then [Evt.ends i "bad",.ends i "spent",.ends i "well"] else []).filter fun ev=>!ev.isA || qW n R (R.er i)) = if c = true then [.ends i "bad",.ends i "spent",.ends i "well"] else []:=fun c=>by cases c <;> rfl
 have h2:∀ c:Bool,((if c = true then [Evt.lost i] else []).filter fun ev=>!ev.isA || qW n R (R.er i)) = if c = true then [.lost i] else []:=fun c=>by cases c <;> rfl
 have h3:∀ c d:Bool,((if c = true then [Evt.again i] else []).filter fun ev=>!ev.isA || d) = if (c && d) = true then [.again i] else []:=fun c d=>by cases c <;> cases d <;> rfl
 have h4:∀ c:Bool,((if c = true then [Evt.up i] else []).filter fun ev=>!ev.isA || qW n R (R.er i)) = if c = true then [.up i] else []:=fun c=>by cases c <;> rfl
 rw [h1,h2,h3,h4]
noncomputable def cnV (n:Net) (R:Run) (a:Ask):Int:=match n.pof a with
 | none=>1
 | some k=>(R.told n k).2
section
theorem zmg (gn:GN n) (h:Wd n ad M R D) {a:Ask} (ha:a ∈ n.asks hh):Ok (zdc kE kR [qg n,.ref (ad .w),yu a] M) fun t M'=>t = .int (cnV n R a)/\M' = M:=by
 have wn:=gn.wn
 refine yy rfl ?_
 unfold zgL
 rw [show qg n = .tup [.tup (n.hs.map hsT),.tup (n.ps.map puT)] from rfl,show yu a = .tup [.str a.to,.int a.tries,opS a.purse,.str a.word,.bl a.hears,.bl a.sure] from rfl]
 have rg:zcA [.int (n.ps.length:Int)] M = .ok ((rgI n.ps.length).map .int) M:=zal (j:=(n.ps.length:Int)) (by have:=wn.pl;omega)
 refine Ok.seqR fun X hX=>?_
 simp_arith [Qh,rg,Int.toNat_natCast]
 refine Ok.bind (Ok.loop (r:=FT.T.int) (R:=fun t M'=>t = .int (cnV n R a)/\M' = M) (fun i σ M'=>M' = M/\∃ o3,σ = [some (.tup [.tup (n.hs.map hsT),.tup (n.ps.map puT)]),some (.ref (ad .w)),some (.tup [.str a.to,.int a.tries,opS a.purse,.str a.word,.bl a.hears,.bl a.sure]),o3]/\∀ k,k < i->n.pof a ≠ some k) (rgI n.ps.length) 0 ⟨rfl,none,rfl,fun k hk=>absurd hk (by omega)⟩ ?_) ?_
 ·rintro i y σ M1 hy ⟨rfl,o3,rfl,hp⟩
  rw [Nat.zero_add] at hp ⊢
  obtain ⟨hi,rfl⟩:=zaE hy
  have hps:n.ps[i]? = some n.ps[i]:=Q0 hi
  have hpa:atI (n.ps.map puT) (i:Int) = some (.tup [.str n.ps[i].name,.str n.ps[i].earns,.int n.ps[i].per]):=qo (f:=puT) hps
  have en:=zgr gn ha hps
  have ln:yx (.ref (ad (.c i))) M1 = .ok (nT (zY (R.puts.getD i []) (n.per i)).length) M1:=by
   unfold yx yS zq
   simp only [h.at_c hi]
   simp
  simp_arith [and_self]
  unfold zfT
  by_cases d:n.pof a = some i
  ·have d':decide (n.pof a = some i) = true:=Qv d
   refine Ok.ifB true (by simp_arith [hpa,en,d']) ?_
   rw [if_pos rfl]
   simp_arith [h.at_w,h.at_p,z8 hi,h.at_k hi,ln]
   refine Ok.ret (.inr (.inr ⟨_,rfl,?_,rfl⟩))
   obtain ⟨pe,_,_⟩:=zkr wn hi
   have e1:(n.ps.getD i ⟨"","",1⟩).per = (n.per i:Int):=by rw [pe,Q7,hps];rfl
   have e2:cnV n R a = (R.told n i).2:=by unfold cnV;rw [d]
   have e3:(R.told n i).2 = ((R.puts.getD i []).length:Int) / (n.ps.getD i ⟨"","",1⟩).per - (R.taken.getD i 0:Nat):=rfl
   rw [e2,e3,e1]
   unfold zY
   rw [Qh,length_range]
   rfl
  ·have d':decide (n.pof a = some i) = false:=Qw d
   refine Ok.ifB false (by simp_arith [hpa,en,d']) ?_
   rw [if_neg (by decide)]
   simp_arith [and_self]
   refine Ok.ret (.inl ⟨_,.inl rfl,rfl,_,rfl,fun k hk=>?_⟩)
   by_cases z:k = i
   ·rw [z];exact d
   ·exact hp k (by omega)
 ·rintro fl M1 (⟨σ,rfl,rfl,o3,rfl,hp⟩ | ⟨t,rfl,rfl,rfl⟩)
  ·try simp_arith [and_self]
   rw [hX];clear hX;simp only [qf]
   simp_arith [and_self]
   refine Ok.ret ⟨?_,rfl⟩
   unfold cnV
   cases q:n.pof a with
   | none=>rfl
   | some k=>
    rw [Nat.zero_add,zam] at hp
    exact absurd q (hp k ((wn.as hh a ha).plt q))
  ·rw [hX]
   simp_arith [zbL,zb9]
   exact Ok.ret ⟨rfl,rfl⟩
theorem Wd.kept (h:Wd n ad M R D) (k:Kp M.length M M'):Wd n ad M' R D:=⟨fun s hs=>by rw [k.2 _ (yA (h.ho s hs))];exact h.ho s hs,h.inj,h.dl,h.dk,h.pl,h.tl⟩
def Fd (M:Mem) (r:Nat) (xs:List Evt) (M':Mem):Prop:=M.length<=r/\M'[r]? = some (.lst (xs.map evT))/\Kp M.length M M'
theorem Fd.app {r:Nat} {xs:List Evt} (f:Fd M r xs M') (ev:Evt):Fd M r (xs ++ [ev]) (M'.set r (.lst ((xs ++ [ev]).map evT))):=⟨f.1,get_set f.2.1,f.2.2.trans (Kp.set _ _ f.1)⟩
theorem Fd.ap {r:Nat} {xs:List Evt} (f:Fd M r xs M') (hl:xs.length<=1000000) (ev:Evt):zN (.ref r) [evT ev] M' = .ok .non (M'.set r (.lst ((xs ++ [ev]).map evT))):=by
 rw [zP (t:=evT ev) f.2.1 (by rw [Qh,sizeLine_eq];omega)]
 simp
theorem zns (gn:GN n) (h:Wd n ad M R D) (sb:SB B R) (hB:B < 90000) (ri:RI n R):za9 kE kR [qg n,.ref (ad .w)] M = .ok (.lst ((zdq n R).map evT)) M:=by
 have wn:=gn.wn
 have key:Ok (zgp kE kR [qg n,.ref (ad .w)] M) fun t M'=>∃ r,t = .ref r/\Fd M r (zdq n R) M':=by
  refine yy rfl ?_
  unfold zje
  refine Ok.seqR fun X hX=>?_
  simp_arith [and_self]
  rw [hX];clear hX;simp only [qf]
  refine Ok.seqR fun X hX=>?_
  have w1:=h.kept (Kp.app M [Cell.lst [.tup [.str "fresh"]]] (Q3 _))
  have rg:∀ M,zcA [.int (R.es.length:Int)] M = .ok ((rgI R.es.length).map .int) M:=fun M=>zal (j:=(R.es.length:Int)) (by have:=sb.es;omega)
  simp_arith [w1.at_w,zg6 w1,rg,Int.toNat_natCast]
  refine Ok.bind (Ok.for (r:=FT.T.int) (xs:=rgI R.es.length) (fun i σ M'=>∃ r o3 o4 o5 o6 o7,σ = [some (qg n),some (.ref (ad .w)),some (.ref r),o3,o4,o5,o6,o7]/\Fd M r (.fresh :: (List.range i).flatMap (yX n R)) M') ⟨M.length,none,none,none,none,none,rfl,Q3 _,yM,Kp.app _ _ (Q3 _)⟩ ?_) ?_
  ·rintro i y σ M1 hy ⟨r,o3,o4,o5,o6,o7,rfl,fd⟩
   obtain ⟨hi,rfl⟩:=zaE hy
   have he:R.es[i]? = some R.es[i]:=Q0 hi
   generalize R.es[i] = e at he
   have hxl:(Evt.fresh :: (List.range i).flatMap (yX n R)).length<=10 * i + 1:=by
    rw [Qp]
    have:=zd1 (n:=n) R i
    omega
   have hnext:(Evt.fresh :: (List.range i).flatMap (yX n R)) ++ yX n R i = Evt.fresh :: (List.range (i + 1)).flatMap (yX n R):=by rw [range_succ,List.flatMap_append];simp
   rw [zmb,qX he] at hnext
   rw [← hnext]
   generalize Evt.fresh :: (List.range i).flatMap (yX n R) = xs at fd hxl
   clear hnext
   have hes:=sb.es
   have w2:=h.kept fd.2.2
   have ae:=w2.at_e he
   have lo:zq (.ref (ad (.e i))) M1 = some [nT e.house,clT e.caller,phT e.ph]:=zaa ae
   obtain ⟨p0,ps,ep,q1,q2,_,q4⟩:=phW e.ph M1
   simp_arith [and_self]
   unfold ziv
   refine Ok.seqX fun X hX=>?_
   simp_arith [w2.at_w,w2.at_a,z8 hi,zd8,lo]
   rw [hX];clear hX;simp only [qf]
   have hpz:∀ M,eqA p0 (.str "works") M = .ok (.bl e.ph.isW) M/\eqA p0 (.str "stands") M = .ok (.bl e.ph.isS) M/\neA p0 (.str "ended") M = .ok (.bl (!e.ph.isE)) M:=fun M=>by
    cases z:e.ph with
    | works=>rw [z] at ep;cases ep;exact ⟨rfl,rfl,rfl⟩
    | waits a t=>rw [z] at ep;cases ep;exact ⟨rfl,rfl,rfl⟩
    | stands a t=>rw [z] at ep;cases ep;exact ⟨rfl,rfl,rfl⟩
    | ended w=>rw [z] at ep;cases ep;exact ⟨rfl,rfl,rfl⟩
   have pz:atI (p0 :: ps) 0 = some p0:=zq5
   -- the ends
   refine Ok.seqP (fun fl M'=>∃ r',fl = .nx [some (qg n),some (.ref (ad .w)),some (.ref r'),some (.int (i:Int)),some (nT e.house),some (clT e.caller),some (phT e.ph),o7]/\Fd M r' (xs ++ if e.ph.isW = true then [.ends i "bad",.ends i "spent",.ends i "well"] else []) M') ?_ ?_
   ·rw [ep]
    cases zw:e.ph.isW with
    | false=>
     refine Ok.ifB false (by simp_arith [pz,hpz,zw]) ?_
     rw [if_neg (by decide)]
     simp_arith [and_self]
     exact Ok.ret ⟨r,rfl,by simpa using fd⟩
    | true=>
     refine Ok.ifB true (by simp_arith [pz,hpz,zw]) ?_
     rw [if_pos rfl]
     have cp:qA (yr 0) zX (yG (zb (eC (.str "ends")) (zb (yb 1) (zb (yb 0) ze)))) [FT.T.str "bad",.str "spent",.str "well"] [none,some (.int (i:Int))] M1 [] = .ok ([Evt.ends i "bad",.ends i "spent",.ends i "well"].map evT) M1:=
      Ok.mapc (r:=FT.T.str) (xs:=["bad","spent","well"]) (fun σ=>∃ o,σ = [o,some (.int (i:Int))]) (fun w=>.tup [.str "ends",nT i,.str w]) ⟨_,rfl⟩ (by simp) (by
       rintro w σ _ ⟨o,rfl⟩
       exact ⟨[some (.str w),some (.int (i:Int))],rfl,⟨_,rfl⟩,by simp_arith [and_self]⟩)
     have ct:zez (.ref r) (.lst [evT (.ends i "bad"),evT (.ends i "spent"),evT (.ends i "well")]) M1 = .ok ((xs ++ [Evt.ends i "bad",.ends i "spent",.ends i "well"]).map evT) M1:=by
      unfold zez
      rw [zaa fd.2.1]
      show (if (xs.map evT).length + _<=sizeLine then Out.ok _ M1 else .bad) = _
      rw [if_pos (by rw [Qh,sizeLine_eq];simp;omega),Qq]
      rfl
     simp_arith [cp,ct]
     have hMl:=fd.2.2.1
     exact Ok.ret ⟨M1.length,rfl,hMl,yM,fd.2.2.trans (Kp.app _ _ hMl)⟩
   rintro fl M2 ⟨r2,rfl,f2⟩
   rw [qf]
   generalize hx2:(xs ++ if e.ph.isW = true then [Evt.ends i "bad",.ends i "spent",.ends i "well"] else []) = x2 at f2
   have hl2:x2.length<=10 * i + 4:=by
    rw [← hx2,Qn]
    split <;> simp <;> omega
   have w3:=h.kept f2.2.2
   -- the loss
   refine Ok.seqP (fun fl M'=>fl = .nx [some (qg n),some (.ref (ad .w)),some (.ref r2),some (.int (i:Int)),some (nT e.house),some (clT e.caller),some (phT e.ph),o7]/\Fd M r2 (x2 ++ if zR n R e = true then [.lost i] else []) M') ?_ ?_
   ·rw [ep]
    have nd:=zms w3 i
    rw [show zck R i = e.lost from by unfold zck;rw [he];rfl] at nd
    cases qc:e.caller with
    | none=>
     have i1:∀ M,y8 (clT none) .non M = .ok (.bl false) M:=fun _=>rfl
     have ml:zR n R e = false:=by unfold zR;rw [qc]
     rw [ml,if_neg (by decide),append_nil]
     refine Ok.ifB false ?_ ?_
     ·cases zE:e.ph.isE with
      | true=>simp_arith [pz,hpz,zE]
      | false=>simp_arith [pz,hpz,zE,i1]
     ·rw [if_neg (by decide)]
      simp_arith [and_self]
      exact Ok.ret ⟨rfl,f2⟩
    | some c=>
     have i1:∀ M,y8 (.tup [nT c.1,nT c.2.1,nT c.2.2]) .non M = .ok (.bl true) M:=fun _=>rfl
     rw [show clT (some c) = .tup [nT c.1,nT c.2.1,nT c.2.2] from rfl]
     obtain ⟨hci,ce,c1,c2,c3⟩:=ri.cl i e c he qc
     have ha:(n.asks ce.house)[c.2.1]? = some (n.asks ce.house)[c.2.1]:=Q0 c3
     have ml:zR n R e = (!(e.lost || e.ph.isE) && !(n.asks ce.house)[c.2.1].sure):=by unfold zR;rw [qc];dsimp only;rw [qX c1,zbu ha]
     rw [ml]
     cases zE:e.ph.isE with
     | true=>
      refine Ok.ifB false (by simp_arith [pz,hpz,zE]) ?_
      rw [if_neg (by decide)]
      simp_arith [and_self]
      refine Ok.ret ⟨rfl,?_⟩
      rw [if_neg (by simp),append_nil]
      exact f2
     | false=>
      cases zL:e.lost with
      | true=>
       rw [zL] at nd
       refine Ok.ifB false (by simp_arith [pz,hpz,zE,i1,w3.at_w,nd]) ?_
       rw [if_neg (by decide)]
       simp_arith [and_self]
       refine Ok.ret ⟨rfl,?_⟩
       rw [if_neg (by simp),append_nil]
       exact f2
      | false=>
       rw [zL] at nd
       refine Ok.ifB true (by simp_arith [pz,hpz,zE,i1,w3.at_w,nd]) ?_
       rw [if_pos rfl]
       have hc1:=(List.getElem?_eq_some_iff.mp c1).1
       have ac:atI ((List.range R.es.length).map fun i=>FT.T.ref (ad (.e i))) (c.1:Int) = some (.ref (ad (.e c.1))):=z8 hc1
       have ace:=w3.at_e c1
       have hs1:=zch ce.house (ri.hs _ _ c1)
       have haa:atI ((n.asks ce.house).map yu) (c.2.1:Int) = some (.tup [.str (n.asks ce.house)[c.2.1].to,.int (n.asks ce.house)[c.2.1].tries,opS (n.asks ce.house)[c.2.1].purse,.str (n.asks ce.house)[c.2.1].word,.bl (n.asks ce.house)[c.2.1].hears,.bl (n.asks ce.house)[c.2.1].sure]):=qo (f:=yu) ha
       have a5:∀ (t0 t1 t2 t3 t4 t5:FT.T),atI [t0,t1,t2,t3,t4,t5] 5 = some t5:=fun _ _ _ _ _ _=>rfl
       have f3:=f2.app (.lost i)
       have ap:=f2.ap (by omega) (.lost i)
       rw [show evT (.lost i) = .tup [.str "lost",.int (i:Int)] from rfl] at ap
       rw [show qg n = .tup [.tup (n.hs.map hsT),.tup (n.ps.map puT)] from rfl]
       cases zS:(n.asks ce.house)[c.2.1].sure with
       | true=>
        rw [zS] at haa
        simp_arith [w3.at_w,w3.at_a,ac,ace,hs1,haa,a5]
        exact Ok.ret ⟨rfl,by simpa using f2⟩
       | false=>
        rw [zS] at haa
        simp_arith [w3.at_w,w3.at_a,ac,ace,hs1,haa,a5,zF f2.2.1,ap]
        exact Ok.ret ⟨rfl,f3⟩
   rintro fl M3 ⟨rfl,f3⟩
   rw [qf]
   generalize hx3:(x2 ++ if zR n R e = true then [Evt.lost i] else []) = x3 at f3
   have hl3:x3.length<=10 * i + 5:=by
    rw [← hx3,Qn]
    split <;> simp <;> omega
   have w4:=h.kept f3.2.2
   have goal:∀ M4,Fd M r2 (x3 ++ (if (zJ n e && qW n R e) = true then [.again i] else []) ++ if e.ph.isS = true then [.up i] else []) M4->Fd M r2 (xs ++ ((if e.ph.isW = true then [.ends i "bad",.ends i "spent",.ends i "well"] else []) ++ (if zR n R e = true then [.lost i] else []) ++ (if (zJ n e && qW n R e) = true then [.again i] else []) ++ if e.ph.isS = true then [.up i] else [])) M4:=fun M4 f=>by
    rw [← hx3,← hx2] at f
    simpa only [append_assoc] using f
   cases zs:e.ph.isS with
   | false=>
    have tl:zJ n e = false:=by unfold zJ;rw [zs];rfl
    rw [zs,tl] at goal
    rw [ep]
    refine Ok.ifB false (by simp_arith [pz,hpz,zs]) ?_
    rw [if_neg (by decide)]
    simp_arith [and_self]
    refine Ok.ret ⟨_,rfl,r2,_,_,_,_,_,rfl,?_⟩
    have:=goal M3 (by simpa using f3)
    rw [tl]
    exact this
   | true=>
    rw [zs] at goal
    have hl:=zco zs (ri.ph _ _ he)
    have ha:(n.asks e.house)[e.ph.at1]? = some (n.asks e.house)[e.ph.at1]:=Q0 hl
    have hm:=Qa ha
    have hs1:=zch e.house (ri.hs _ _ he)
    have tl:zJ n e = ((n.asks e.house)[e.ph.at1].tries == 0 || decide ((e.ph.at2:Int) < (n.asks e.house)[e.ph.at1].tries)):=by unfold zJ;rw [zs,zbu ha];rfl
    have cn:decide (0 < cnV n R (n.asks e.house)[e.ph.at1]) = qW n R e:=by
     unfold cnV qW
     rw [zbu ha]
     cases n.pof (n.asks e.house)[e.ph.at1] <;> rfl
    have haa:atI ((n.asks e.house).map yu) (e.ph.at1:Int) = some (yu (n.asks e.house)[e.ph.at1]):=qo (f:=yu) ha
    have co:=zmg (kE:=kE) (kR:=kR) gn w4 hm
    rw [tl] at goal ⊢
    generalize (n.asks e.house)[e.ph.at1] = a at haa co goal cn
    rw [show phT e.ph = .tup [.str "stands",nT e.ph.at1,nT e.ph.at2] from phS zs]
    have es:∀ M,eqA (.str "stands") (.str "stands") M = .ok (.bl true) M:=fun _=>rfl
    rw [show yu a = .tup [.str a.to,.int a.tries,opS a.purse,.str a.word,.bl a.hears,.bl a.sure] from rfl] at haa co
    rw [show qg n = .tup [.tup (n.hs.map hsT),.tup (n.ps.map puT)] from rfl] at co ⊢
    refine Ok.ifB true (by simp_arith [es]) ?_
    rw [if_pos rfl]
    refine Ok.seqX fun X hX=>?_
    simp_arith [hs1,haa]
    rw [hX];clear hX;simp only [qf]
    have ap:=f3.ap (by omega) (.again i)
    rw [show evT (.again i) = .tup [.str "again",.int (i:Int)] from rfl] at ap
    -- the last one
    have fin:∀ x4 M4,Fd M r2 x4 M4->x4.length<=10 * i + 6->x4 = x3 ++ (if ((a.tries == 0 || decide ((e.ph.at2:Int) < a.tries)) && qW n R e) = true then [.again i] else [])->Ok (yB (qT zN (eUn yD (yb 2)) (zb (yG (zb (eC (.str "up")) (zb (yb 3) ze))) ze)) [some (.tup [.tup (n.hs.map hsT),.tup (n.ps.map puT)]),some (.ref (ad .w)),some (.ref r2),some (.int (i:Int)),some (nT e.house),some (clT e.caller),some (.tup [.str "stands",nT e.ph.at1,nT e.ph.at2]),some (.tup [.str a.to,.int a.tries,opS a.purse,.str a.word,.bl a.hears,.bl a.sure])] M4) fun fl M'=>∃ σ',fl = .nx σ'/\∃ r o3 o4 o5 o6 o7,σ' = [some (.tup [.tup (n.hs.map hsT),.tup (n.ps.map puT)]),some (.ref (ad .w)),some (.ref r),o3,o4,o5,o6,o7]/\Fd M r (xs ++ ((if e.ph.isW = true then [.ends i "bad",.ends i "spent",.ends i "well"] else []) ++ (if zR n R e = true then [.lost i] else []) ++ (if ((a.tries == 0 || decide ((e.ph.at2:Int) < a.tries)) && qW n R e) = true then [.again i] else []) ++ if true = true then [.up i] else [])) M':=by
     rintro x4 M4 f4 hl4 rfl
     have ap:=f4.ap (by omega) (.up i)
     rw [show evT (.up i) = .tup [.str "up",.int (i:Int)] from rfl] at ap
     simp_arith [zF f4.2.1,ap]
     have f5:=f4.app (.up i)
     exact Ok.ret ⟨_,rfl,r2,_,_,_,_,_,rfl,goal _ (by rw [if_pos rfl];exact f5)⟩
    refine Ok.seqX fun X hX=>?_
    have z0:∀ M,eqA (.int a.tries) (.int 0) M = .ok (.bl (a.tries == 0)) M:=fun _=>rfl
    cases zt:(a.tries == 0 || decide ((e.ph.at2:Int) < a.tries)) with
    | false=>
     rw [zt] at fin
     rw [Bool.or_eq_false_iff] at zt
     simp_arith [zt.1,zt.2]
     rw [hX];clear hX;simp only [qf]
     exact fin x3 M3 f3 (by omega) (by simp)
    | true=>
     rw [zt] at fin
     refine Ok.bind (P:=fun fl M'=>∃ x4,fl = .nx [some (.tup [.tup (n.hs.map hsT),.tup (n.ps.map puT)]),some (.ref (ad .w)),some (.ref r2),some (.int (i:Int)),some (nT e.house),some (clT e.caller),some (.tup [.str "stands",nT e.ph.at1,nT e.ph.at2]),some (.tup [.str a.to,.int a.tries,opS a.purse,.str a.word,.bl a.hears,.bl a.sure])]/\Fd M r2 x4 M'/\x4.length<=10 * i + 6/\x4 = x3 ++ (if (true && qW n R e) = true then [.again i] else [])) (Ok.ifP (fun b M'=>b = qW n R e/\M' = M3) ?_ ?_) ?_
     ·by_cases y:(a.tries == 0) = true
      ·simp_arith [y]
       refine Ok.bind co ?_
       rintro t M4 ⟨rfl,rfl⟩
       simp_arith [cn]
       exact Ok.ret ⟨rfl,rfl⟩
      ·have y':(a.tries == 0) = false:=by simpa using y
       rw [y',Bool.false_or] at zt
       simp_arith [y',zt]
       refine Ok.bind co ?_
       rintro t M4 ⟨rfl,rfl⟩
       simp_arith [cn]
       exact Ok.ret ⟨rfl,rfl⟩
     ·rintro b M4 ⟨rfl,rfl⟩
      cases zc:qW n R e with
      | false=>
       rw [if_neg (by decide)]
       simp_arith [and_self]
       exact Ok.ret ⟨x3,rfl,f3,by omega,by simp⟩
      | true=>
       rw [if_pos rfl]
       simp_arith [zF f3.2.1,ap]
       exact Ok.ret ⟨_,rfl,f3.app _,by rw [Qn];simp;omega,by simp⟩
     ·rintro fl M4 ⟨x4,rfl,f4,hl4,e4⟩
      rw [hX]
      exact fin x4 M4 f4 hl4 e4
  ·rintro fl M1 ⟨σ,rfl,r,o3,o4,o5,o6,o7,rfl,fd⟩
   rw [zam] at fd
   try simp_arith [and_self]
   rw [hX];clear hX;simp only [qf]
   simp_arith [and_self]
   exact Ok.ret ⟨r,rfl,fd⟩
 obtain ⟨t,M',e,r,rfl,h1,h2,h3⟩:=key
 unfold za9 zev
 rw [e]
 dsimp only
 rw [h2]
 dsimp only
 rw [if_pos]
 refine ⟨zmH h3,h1,fun x hx=>?_⟩
 obtain ⟨ev,_,rfl⟩:=mem_map.mp hx
 exact zqI ev
end
variable {v:FT.T}
theorem ziI {k j:Key} (h:j ≠ k):((D.map fun kv=>if kv.1 = k then (kv.1,v) else kv).find? fun kv=>decide (kv.1 = j)).map (·.2) = (D.find? fun kv=>decide (kv.1 = j)).map (·.2):=by
 induction D with
 | nil=>rfl
 | cons kv D ih=>
  rw [map_cons,find?_cons,find?_cons]
  by_cases e:kv.1 = k
  ·rw [if_pos e]
   have:¬ kv.1 = j:=fun z=>h (z.symm.trans e)
   simp only [this,decide_false]
   exact ih
  ·rw [if_neg e]
   by_cases z:kv.1 = j
   ·simp only [z,decide_true]
   ·simp only [z,decide_false]
    exact ih
theorem zma {k j:Key} :zU (D ++ [(k,v)]) j = match zU D j with | some x=>some x | none=>if j = k then some v else none:=by
 unfold zU
 rw [List.find?_append]
 cases q:D.find? fun kv=>decide (kv.1 = j) with
 | some x=>rfl
 | none=>
  by_cases z:j = k
  ·subst z;simp
  ·have:¬ k = j:=fun x=>z x.symm
   simp [z,this]
theorem ziJ {k:Key} (h:(D.any fun kv=>decide (kv.1 = k)) = true):zU (D.map fun kv=>if kv.1 = k then (kv.1,v) else kv) k = some v:=by
 unfold zU
 induction D with
 | nil=>cases h
 | cons kv D ih=>
  rw [map_cons,find?_cons]
  by_cases e:kv.1 = k
  ·rw [if_pos e]
   simp only [e,decide_true]
   rfl
  ·rw [if_neg e]
   simp only [e,decide_false]
   refine ih ?_
   rw [any_cons] at h
   simpa [e] using h
theorem zlO (D:List (Key × FT.T)) (k j:Key) (v:FT.T):zU (zaY D k v) j = if j = k then some v else zU D j:=by
 unfold zaY
 split
 ·rename_i h
  by_cases z:j = k
  ·rw [if_pos z,z];exact ziJ h
  ·rw [if_neg z];exact ziI z
 ·rename_i h
  rw [zma]
  by_cases z:j = k
  ·rw [if_pos z,if_pos z,z]
   have:zU D k = none:=by
    unfold zU
    rw [show (D.find? fun kv=>decide (kv.1 = k)) = none from List.find?_eq_none.mpr fun x hx hz=>h (List.any_eq_true.mpr ⟨x,hx,hz⟩)]
    rfl
   rw [this]
  ·rw [if_neg z,if_neg z]
   cases zU D j <;> rfl
theorem zmS (D:List (Key × FT.T)) (k:Key) (v:FT.T):(zaY D k v).length<=D.length + 1:=by
 unfold zaY
 split
 ·rw [Qh];omega
 ·simp
theorem zmM {s:Nat} {i:Int} (h:M[s]? = some (.dic D)) (hl:D.length<=100000):zdi (.ref s) (.int i) t M = .ok () (M.set s (.dic (zaY D (.inl i) t))):=by
 show (match M[s]? with | some (.dic kvs)=>if kvs.length < sizeLine then Out.ok () (M.set s (.dic (zaY kvs (.inl i) t))) else .bad | _=>zaL (.ref s) (.int i) t M) = _
 rw [h]
 dsimp only
 rw [if_pos (by rw [sizeLine_eq];omega)]
variable {ev:Evt}
section
theorem Wd.tick (h:Wd n ad M R D):Wd n ad M R.tick D:=⟨fun s hs=>by cases s <;> exact h.ho _ hs,fun s t hs ht e=>h.inj s t (by cases s <;> exact hs) (by cases t <;> exact ht) e,h.dl,Nat.le_succ_of_le h.dk,h.pl,h.tl⟩
theorem Wf2.tick (f:Wf2 n ad M R ad' M' R'):Wf2 n ad M R ad' M' R'.tick:=⟨f.le,f.kp,fun s hs=>f.nw s (by cases s <;> exact hs),f.ww⟩
theorem Wst.tick (w:Wst n ad M R R' M'):Wst n ad M R R'.tick M':=by
 obtain ⟨ad',D',h1,h2⟩:=w
 exact ⟨ad',D',h1.tick,h2.tick⟩
theorem Wd.lose (h:Wd n ad M R D) (he:R.es[i]? = some e):Wd n ad (M.set (ad .d) (.dic (zaY D (.inl (i:Int)) (.bl true)))) (R.setE i { e with lost:=true }).tick (zaY D (.inl (i:Int)) (.bl true))/\Wf2 n ad M R ad (M.set (ad .d) (.dic (zaY D (.inl (i:Int)) (.bl true)))) (R.setE i { e with lost:=true }).tick:=by
 have hl:(R.setE i { e with lost:=true }).tick.es.length = R.es.length:=length_set ..
 refine h.write (s:=.d) trivial hl rfl (fun t ht=>?_) (fun j=>?_) (Qj (zmS ..) (Nat.succ_le_succ h.dk)) rfl rfl
 ·cases t with
  | d=>exact absurd rfl ht
  | a=>simp only [ctn];rw [hl]
  | e j=>
   simp only [ctn]
   by_cases z:j = i
   ·subst z
    rw [show (R.setE j { e with lost:=true }).tick.er j = { e with lost:=true } from zjl he,qX he]
   ·rw [show (R.setE i { e with lost:=true }).tick.er j = R.er j from zmw z]
  | _=>rfl
 ·rw [zlO]
  show _ = ((((R.setE i { e with lost:=true }).es)[j]?).map (·.lost)).getD false
  by_cases z:j = i
  ·subst z
   rw [if_pos rfl,zc0 he]
   rfl
  ·rw [if_neg (fun y=>z (by have:=Sum.inl.inj y;omega)),zdZ z,h.dl j]
   rfl
theorem Wd.pay (h:Wd n ad M R D) (p:Nat × Nat × Nat):Wd n ad (M.set (ad .q) (.lst ((R.pays ++ [p]).map zbA))) { R with pays:=R.pays ++ [p] } D/\Wf2 n ad M R ad (M.set (ad .q) (.lst ((R.pays ++ [p]).map zbA))) { R with pays:=R.pays ++ [p] }:=
 h.write (R':={ R with pays:=R.pays ++ [p] }) (D':=D) (s:=.q) trivial rfl rfl (fun t ht=>by cases t <;> first | rfl | exact absurd rfl ht) h.dl h.dk rfl rfl
theorem Wd.took (h:Wd n ad M R D) {k:Nat} (hk:k < n.ps.length) (v:Nat):Wd n ad (M.set (ad (.k k)) (.lst [.ref (ad (.g k)),.ref (ad (.c k)),nT v])) { R with taken:=R.taken.set k v } D/\Wf2 n ad M R ad (M.set (ad (.k k)) (.lst [.ref (ad (.g k)),.ref (ad (.c k)),nT v])) { R with taken:=R.taken.set k v }:=by
 have hk':k < R.taken.length:=by rw [h.tl];exact hk
 refine h.write (R':={ R with taken:=R.taken.set k v }) (D':=D) (s:=.k k) hk rfl ?_ (fun t ht=>?_) h.dl h.dk rfl (length_set ..)
 ·simp only [ctn]
  rw [Q7,Qc,if_pos rfl,if_pos hk']
  rfl
 ·cases t with
  | k j=>
   simp only [ctn]
   rw [Q7,Qc,if_neg (fun z=>ht (by rw [z])),Q7]
  | _=>rfl
theorem zp1 (gn:GN n) (h:Wd n ad M R D) (sb:SB B R) (hB:B + 40 < 90000) (hcm:R.came < 90000) (ri:RI n R) (hc:EvC n R ev) :
  Ok (zcs kE kR [qg n,.ref (ad .w),evT ev] M) fun t M'=>t = .non/\Wst n ad M R (zag n R ev) M':=by
 have wn:=gn.wn
 refine yy rfl ?_
 unfold zkT
 cases ev with
 | fresh=>
  have q0:∀ M,eqA (.str "fresh") (.str "fresh") M = .ok (.bl true) M:=fun _=>rfl
  have q1:∀ M,eqA (.str "fresh") (.str "ends") M = .ok (.bl false) M:=fun _=>rfl
  have q2:∀ M,eqA (.str "fresh") (.str "lost") M = .ok (.bl false) M:=fun _=>rfl
  have q3:∀ M,inD (.str "fresh") (.lst [.str "again",.str "up"]) M = .ok (.bl false) M:=fun _=>rfl
  rw [show evT .fresh = .tup [.str "fresh"] from rfl]
  refine Ok.seqR fun X hX=>?_
  simp_arith [q0]
  refine Ok.bind (show Ok (zaV kE kR [qg n,.ref (ad .w),.int 0,.non] M) (fun t M'=>t = .non/\Wst n ad M R (qC n 4 R 0 none) M') from zit gn h sb (by omega) wn.h1 none) ?_
  rintro t M1 ⟨rfl,ws⟩
  try simp_arith [and_self]
  rw [hX];clear hX;simp only [qf]
  simp_arith [q1,q2,q3]
  exact Ok.ret ⟨rfl,ws.tick⟩
 | ends i w=>
  obtain ⟨e,he,hw⟩:=hc
  have q0:∀ M,eqA (.str "ends") (.str "fresh") M = .ok (.bl false) M:=fun _=>rfl
  have q1:∀ M,eqA (.str "ends") (.str "ends") M = .ok (.bl true) M:=fun _=>rfl
  have q2:∀ M,eqA (.str "ends") (.str "lost") M = .ok (.bl false) M:=fun _=>rfl
  have q3:∀ M,inD (.str "ends") (.lst [.str "again",.str "up"]) M = .ok (.bl false) M:=fun _=>rfl
  rw [show evT (.ends i w) = .tup [.str "ends",nT i,.str w] from rfl]
  refine Ok.seqR fun X hX=>?_
  simp_arith [q0]
  rw [hX];clear hX;simp only [qf]
  refine Ok.seqR fun X hX=>?_
  simp_arith [q1]
  refine Ok.bind (zjm gn h sb (by omega) ri he w) ?_
  rintro t M1 ⟨rfl,ws⟩
  try simp_arith [and_self]
  rw [hX];clear hX;simp only [qf]
  simp_arith [q2,q3]
  exact Ok.ret ⟨rfl,ws.tick⟩
 | lost i=>
  obtain ⟨e,c,he,hq,_⟩:=hc
  have q0:∀ M,eqA (.str "lost") (.str "fresh") M = .ok (.bl false) M:=fun _=>rfl
  have q1:∀ M,eqA (.str "lost") (.str "ends") M = .ok (.bl false) M:=fun _=>rfl
  have q2:∀ M,eqA (.str "lost") (.str "lost") M = .ok (.bl true) M:=fun _=>rfl
  have q3:∀ M,inD (.str "lost") (.lst [.str "again",.str "up"]) M = .ok (.bl false) M:=fun _=>rfl
  rw [show evT (.lost i) = .tup [.str "lost",nT i] from rfl]
  refine Ok.seqR fun X hX=>?_
  simp_arith [q0]
  rw [hX];clear hX;simp only [qf]
  refine Ok.seqR fun X hX=>?_
  simp_arith [q1]
  rw [hX];clear hX;simp only [qf]
  obtain ⟨w1,f1⟩:=h.lose he
  have he1:(R.setE i { e with lost:=true }).tick.es[i]? = some { e with lost:=true }:=zc0 he _
  have ri1:RI n (R.setE i { e with lost:=true }):=ri.setE he rfl rfl (by have:=ri.ph _ _ he;unfold zeo at this ⊢;exact this)
  obtain ⟨c0,ce,c1,c2,c3⟩:=ri1.cl i _ c he1 hq
  have ae:=w1.at_e he1
  rw [show ({ e with lost:=true }:Er).caller = some c from hq,show clT (some c) = .tup [nT c.1,nT c.2.1,nT c.2.2] from rfl] at ae
  have ace:=w1.at_e (i:=c.1) c1
  have s4:=zjC (t:=.tup [.str "stands",nT c.2.1,nT c.2.2]) ace
  have hl:(R.setE i { e with lost:=true }).tick.es.length = R.es.length:=length_set ..
  have hi:=(List.getElem?_eq_some_iff.mp he).1
  have a1:=w1.at_a
  rw [hl] at a1
  have ai:atI ((List.range R.es.length).map fun i=>FT.T.ref (ad (.e i))) (i:Int) = some (.ref (ad (.e i))):=z8 hi
  have ac:atI ((List.range R.es.length).map fun i=>FT.T.ref (ad (.e i))) (c.1:Int) = some (.ref (ad (.e c.1))):=z8 (by omega)
  have sd:=zmM (i:=(i:Int)) (t:=.bl true) h.at_d (by have:=h.dk;omega)
  obtain ⟨w5,f5⟩:=w1.setE (i:=c.1) c1 { ce with ph:=.stands c.2.1 c.2.2,stood:=some R.came } rfl rfl rfl
  rw [show phT ({ ce with ph:=.stands c.2.1 c.2.2,stood:=some R.came }:Er).ph = .tup [.str "stands",nT c.2.1,nT c.2.2] from rfl] at w5 f5
  have e0:zag n R (.lost i) = (R.setE i { e with lost:=true }).tick.setE c.1 { ce with ph:=.stands c.2.1 c.2.2,stood:=some R.came }:=by
   have el:∀ (o:Option (Nat × Nat × Nat)) (f:Nat × Nat × Nat->Run),o = some c->o.elim R f = f c:=fun o f h=>by rw [h];rfl
   show (zcJ n R i).tick = _
   unfold zcJ
   rw [qX he,el _ _ hq]
   unfold zau
   rw [c1]
   rfl
  rw [e0]
  generalize (R.setE i { e with lost:=true }).tick = R1 at *
  refine Ok.seqR fun X hX=>?_
  simp_arith [q2,za2,h.at_w,sd]
  generalize M.set (ad .d) (.dic (zaY D (.inl (i:Int)) (.bl true))) = M1 at *
  simp_arith [w1.at_w,a1,ai,ae,ac,s4]
  rw [hX];clear hX;simp only [qf]
  simp_arith [q3]
  exact Ok.ret ⟨rfl,ad,_,w5,f1.trans f5⟩
 | up i=>
  obtain ⟨e,he,hs⟩:=hc
  have q0:∀ M,eqA (.str "up") (.str "fresh") M = .ok (.bl false) M:=fun _=>rfl
  have q1:∀ M,eqA (.str "up") (.str "ends") M = .ok (.bl false) M:=fun _=>rfl
  have q2:∀ M,eqA (.str "up") (.str "lost") M = .ok (.bl false) M:=fun _=>rfl
  have q3:∀ M,inD (.str "up") (.lst [.str "again",.str "up"]) M = .ok (.bl true) M:=fun _=>rfl
  have q4:∀ M,eqA (.str "up") (.str "up") M = .ok (.bl true) M:=fun _=>rfl
  rw [show evT (.up i) = .tup [.str "up",nT i] from rfl]
  refine Ok.seqR fun X hX=>?_
  simp_arith [q0]
  rw [hX];clear hX;simp only [qf]
  refine Ok.seqR fun X hX=>?_
  simp_arith [q1]
  rw [hX];clear hX;simp only [qf]
  refine Ok.seqR fun X hX=>?_
  simp_arith [q2]
  rw [hX];clear hX;simp only [qf]
  have hl:=zco hs (ri.ph _ _ he)
  have ha:(n.asks e.house)[e.ph.at1]? = some (n.asks e.house)[e.ph.at1]:=Q0 hl
  have haa:atI ((n.asks e.house).map yu) (e.ph.at1:Int) = some (yu (n.asks e.house)[e.ph.at1]):=qo (f:=yu) ha
  have hs1:=zch e.house (ri.hs _ _ he)
  have hi:=(List.getElem?_eq_some_iff.mp he).1
  have ae:=h.at_e he
  rw [show phT e.ph = .tup [.str "stands",nT e.ph.at1,nT e.ph.at2] from phS hs] at ae
  have lo:=zaa ae
  have eo:=zjm (kE:=kE) (kR:=kR) gn h sb (by omega) ri he (n.asks e.house)[e.ph.at1].word
  have e0:zag n R (.up i) = (zK n 4 R i (n.asks e.house)[e.ph.at1].word).tick:=by
   show (upR n R i).tick = _
   unfold upR
   rw [qX he,zbu ha]
  rw [e0]
  generalize (n.asks e.house)[e.ph.at1] = a at haa eo
  rw [show yu a = .tup [.str a.to,.int a.tries,opS a.purse,.str a.word,.bl a.hears,.bl a.sure] from rfl] at haa
  rw [show qg n = .tup [.tup (n.hs.map hsT),.tup (n.ps.map puT)] from rfl] at eo ⊢
  simp_arith [q3,zd8,h.at_w,h.at_a,z8 hi,lo,hs1,haa,q4]
  refine Ok.bind eo ?_
  rintro t M1 ⟨rfl,ws⟩
  try simp_arith [and_self]
  exact Ok.ret ⟨rfl,ws.tick⟩
 | again i=>
  obtain ⟨e,he,hs,_⟩:=hc
  have q0:∀ M,eqA (.str "again") (.str "fresh") M = .ok (.bl false) M:=fun _=>rfl
  have q1:∀ M,eqA (.str "again") (.str "ends") M = .ok (.bl false) M:=fun _=>rfl
  have q2:∀ M,eqA (.str "again") (.str "lost") M = .ok (.bl false) M:=fun _=>rfl
  have q3:∀ M,inD (.str "again") (.lst [.str "again",.str "up"]) M = .ok (.bl true) M:=fun _=>rfl
  have q4:∀ M,eqA (.str "again") (.str "up") M = .ok (.bl false) M:=fun _=>rfl
  rw [show evT (.again i) = .tup [.str "again",nT i] from rfl]
  refine Ok.seqR fun X hX=>?_
  simp_arith [q0]
  rw [hX];clear hX;simp only [qf]
  refine Ok.seqR fun X hX=>?_
  simp_arith [q1]
  rw [hX];clear hX;simp only [qf]
  refine Ok.seqR fun X hX=>?_
  simp_arith [q2]
  rw [hX];clear hX;simp only [qf]
  have hl:=zco hs (ri.ph _ _ he)
  have ha:(n.asks e.house)[e.ph.at1]? = some (n.asks e.house)[e.ph.at1]:=Q0 hl
  have hm:=Qa ha
  have haa:atI ((n.asks e.house).map yu) (e.ph.at1:Int) = some (yu (n.asks e.house)[e.ph.at1]):=qo (f:=yu) ha
  have hs1:=zch e.house (ri.hs _ _ he)
  have hi:=(List.getElem?_eq_some_iff.mp he).1
  have ae:=h.at_e he
  rw [show phT e.ph = .tup [.str "stands",nT e.ph.at1,nT e.ph.at2] from phS hs] at ae
  have lo:=zaa ae
  have e0:zag n R (.again i) = (y4 n (qC n 4) (takeO R (n.pof (n.asks e.house)[e.ph.at1])) i e.ph.at1 (e.ph.at2 + 1)).tick:=by
   show (zc6 n R i).tick = _
   unfold zc6
   rw [qX he,zbu ha]
  have w:=wn.as e.house _ hm
  rw [e0]
  generalize (n.asks e.house)[e.ph.at1] = a at haa hm w
  rw [show yu a = .tup [.str a.to,.int a.tries,opS a.purse,.str a.word,.bl a.hears,.bl a.sure] from rfl] at haa
  have rg:∀ M,zcA [.int (n.ps.length:Int)] M = .ok ((rgI n.ps.length).map .int) M:=fun M=>zal (j:=(n.ps.length:Int)) (by have:=wn.pl;omega)
  rw [show qg n = .tup [.tup (n.hs.map hsT),.tup (n.ps.map puT)] from rfl]
  simp_arith [q3,zd8,h.at_w,h.at_a,z8 hi,lo,hs1,haa,q4,Qh,rg,Int.toNat_natCast]
  refine Ok.bind (Ok.for (r:=FT.T.int) (xs:=rgI n.ps.length) (fun j σ M'=>∃ o3 o4 o5 o10,σ = [some (.tup [.tup (n.hs.map hsT),.tup (n.ps.map puT)]),some (.ref (ad .w)),some (.tup [.str "again",nT i]),o3,o4,o5,some (nT e.house),some (clT e.caller),some (.tup [.str "stands",nT e.ph.at1,nT e.ph.at2]),some (.tup [.str a.to,.int a.tries,opS a.purse,.str a.word,.bl a.hears,.bl a.sure]),o10]/\Wst n ad M R (if (∃ k,k < j/\n.pof a = some k) then takeO R (n.pof a) else R) M') ⟨none,none,none,none,rfl,by rw [if_neg fun z=>by obtain ⟨k,hk,_⟩:=z;omega];exact ⟨ad,D,h,.refl⟩⟩ ?_) ?_
  ·rintro j y σ M1 hy ⟨o3,o4,o5,o10,rfl,ws⟩
   obtain ⟨hj,rfl⟩:=zaE hy
   have hps:n.ps[j]? = some n.ps[j]:=Q0 hj
   have hpa:atI (n.ps.map puT) (j:Int) = some (.tup [.str n.ps[j].name,.str n.ps[j].earns,.int n.ps[j].per]):=qo (f:=puT) hps
   have en:=zgr gn hm hps
   simp_arith [and_self]
   unfold zjt
   by_cases d:n.pof a = some j
   ·have d':decide (n.pof a = some j) = true:=Qv d
    rw [if_neg (fun z=>by obtain ⟨k,hk,e⟩:=z;rw [d] at e;cases e;omega)] at ws
    rw [if_pos ⟨j,Nat.lt_succ_self _,d⟩,d]
    obtain ⟨ad1,D1,w1,f1⟩:=ws
    rw [← f1.ww]
    refine Ok.ifB true (by simp_arith [hpa,en,d']) ?_
    rw [if_pos rfl]
    obtain ⟨w2,f2⟩:=w1.pay (R.es.length,j,R.taken.getD j 0)
    obtain ⟨w3,f3⟩:=w2.took hj (R.taken.getD j 0 + 1)
    have ap:=zP (t:=.tup [nT R.es.length,nT j,nT (R.taken.getD j 0)]) w1.at_q (by rw [Qh,sizeLine_eq];have:=sb.py;omega)
    rw [show R.pays.map zbA ++ [.tup [nT R.es.length,nT j,nT (R.taken.getD j 0)]] = (R.pays ++ [(R.es.length,j,R.taken.getD j 0)]).map zbA from by simp [zbA]] at ap
    have la:=zg6 w1
    refine Ok.seqX fun X hX=>?_
    simp_arith [w1.at_w,zF w1.at_q,la,w1.at_p,z8 hj,w1.at_k hj,ap]
    rw [hX];clear hX;simp only [qf]
    generalize M1.set (ad1 .q) (.lst ((R.pays ++ [(R.es.length,j,R.taken.getD j 0)]).map zbA)) = M2 at *
    have ak:=w2.at_k hj
    have s4:=zjC (t:=.int ((R.taken.getD j 0:Int) + 1)) ak
    simp_arith [za2,w2.at_w,w2.at_p,z8 hj,ak,s4]
    exact Ok.ret ⟨_,rfl,_,_,_,_,rfl,ad1,D1,w3,f1.trans (f2.trans f3)⟩
   ·have d':decide (n.pof a = some j) = false:=Qw d
    refine Ok.ifB false (by simp_arith [hpa,en,d']) ?_
    rw [if_neg (by decide)]
    simp_arith [and_self]
    refine Ok.ret ⟨_,rfl,_,_,_,_,rfl,?_⟩
    have iff:(∃ k,k < j + 1/\n.pof a = some k) ↔ (∃ k,k < j/\n.pof a = some k):=by
     refine ⟨fun ⟨k,h1,h2⟩=>⟨k,?_,h2⟩,fun ⟨k,h1,h2⟩=>⟨k,by omega,h2⟩⟩
     by_cases z:k = j
     ·rw [z] at h2;exact absurd h2 d
     ·omega
    by_cases y:∃ k,k < j/\n.pof a = some k
    ·rw [if_pos y] at ws
     rw [if_pos (iff.mpr y)]
     exact ws
    ·rw [if_neg y] at ws
     rw [if_neg fun z=>y (iff.mp z)]
     exact ws
  ·rintro fl M1 ⟨σ,rfl,o3,o4,o5,o10,rfl,ws⟩
   rw [zam] at ws
   rw [show (if (∃ k,k < n.ps.length/\n.pof a = some k) then takeO R (n.pof a) else R) = takeO R (n.pof a) from by
    split
    ·rfl
    ·rename_i z
     cases q:n.pof a with
     | none=>rfl
     | some k=>exact absurd ⟨k,w.plt q,q⟩ z] at ws
   obtain ⟨ad1,D1,w1,f1⟩:=ws
   have te:=ze7 R (n.pof a)
   have ri1:RI n (takeO R (n.pof a)):=⟨by rw [te.1];exact ri.hs,by rw [te.1];exact ri.cl,by rw [te.1];exact ri.ph,by rw [te.2.1];exact ri.pl⟩
   have to:=ziP (kE:=kE) (kR:=kR) gn w1 (sb.takeO _) (by omega) ri1 (tr:=e.ph.at2 + 1) (by rw [te.1];exact he) hl
   rw [f1.ww,show qg n = .tup [.tup (n.hs.map hsT),.tup (n.ps.map puT)] from rfl,show nT (e.ph.at2 + 1) = .int ((e.ph.at2:Int) + 1) from rfl] at to
   simp_arith [and_self]
   refine Ok.bind to ?_
   rintro t M2 ⟨rfl,ad2,D2,w2,f2⟩
   try simp_arith [and_self]
   exact Ok.ret ⟨rfl,ad2,D2,w2.tick,(f1.trans f2).tick⟩
end
section
theorem zk5:∀ (xs:List FT.T) (o:Option FT.T) (M:Mem) (acc:List FT.T),acc.length + xs.length<=100000->∃ M',qA (yr 0) zX (eTk (yw (zb (eTk (yw ze)) (zb (eTk (yw ze)) (zb (eC (.int 0)) ze))))) xs [o] M acc = .ok (acc ++ (List.range xs.length).map fun j=>.ref (M.length + 3 * j + 2)) M'/\M'.length = M.length + 3 * xs.length/\(∀ i,i < M.length->M'[i]? = M[i]?)/\∀ j,j < xs.length->M'[M.length + 3 * j]? = some (.lst [])/\M'[M.length + 3 * j + 1]? = some (.lst [])/\M'[M.length + 3 * j + 2]? = some (.lst [.ref (M.length + 3 * j),.ref (M.length + 3 * j + 1),.int 0])
 | [],o,M,acc,_=>⟨M,by simp [qA],by simp,fun _ _=>rfl,fun j hj=>absurd hj (Nat.not_lt_zero _)⟩
 | x :: xs,o,M,acc,hl=>by
  rw [Qp] at hl
  obtain ⟨M',e,l,k,c⟩:=zk5 xs (some x) (M ++ [Cell.lst []] ++ [Cell.lst []] ++ [Cell.lst [.ref M.length,.ref (M.length + 1),.int 0]]) (acc ++ [.ref (M.length + 2)]) (by rw [Qn,Qt];omega)
  have hl3:(M ++ [Cell.lst []] ++ [Cell.lst []] ++ [Cell.lst [.ref M.length,.ref (M.length + 1),.int 0]]).length = M.length + 3:=by simp
  rw [hl3] at l k c e
  have g0:(M ++ [Cell.lst []] ++ [Cell.lst []] ++ [Cell.lst [.ref M.length,.ref (M.length + 1),.int 0]]) = M ++ [Cell.lst [],.lst [],.lst [.ref M.length,.ref (M.length + 1),.int 0]]:=by simp
  rw [g0] at k e
  refine ⟨M',?_,by rw [l,Qp];omega,fun i hi=>?_,fun j hj=>?_⟩
  ·unfold qA
   have l1:(M ++ [Cell.lst []]).length = M.length + 1:=by simp
   have l2:(M ++ [Cell.lst []] ++ [Cell.lst []]).length = M.length + 2:=by simp
   show (if acc.length < sizeLine then qA (yr 0) zX (eTk (yw (zb (eTk (yw ze)) (zb (eTk (yw ze)) (zb (eC (.int 0)) ze))))) xs [some x] (M ++ [Cell.lst []] ++ [Cell.lst []] ++ [Cell.lst [.ref M.length,.ref (M ++ [Cell.lst []]).length,.int 0]]) (acc ++ [.ref (M ++ [Cell.lst []] ++ [Cell.lst []]).length]) else .bad) = _
   rw [l1,l2,g0,if_pos (by rw [sizeLine_eq];omega),e]
   congr 1
   rw [append_assoc,Qp,List.range_succ_eq_map,map_cons,map_map]
   congr 1
   show FT.T.ref (M.length + 2) :: _ = FT.T.ref (M.length + 3 * 0 + 2) :: _
   congr 1
   refine map_congr_left fun j _=>?_
   show FT.T.ref _ = FT.T.ref _
   congr 1
   show M.length + 3 + 3 * j + 2 = M.length + 3 * (j + 1) + 2
   omega
  ·rw [k i (by omega),Q6 hi]
  ·cases j with
   | zero=>
    refine ⟨?_,?_,?_⟩ <;> (rw [k _ (by omega),Q8 (by omega)]) <;> simp
   | succ j=>
    rw [Qp] at hj
    obtain ⟨c1,c2,c3⟩:=c j (by omega)
    have e3:M.length + 3 + 3 * j = M.length + 3 * (j + 1):=by omega
    rw [e3] at c1 c2 c3
    exact ⟨c1,c2,c3⟩
noncomputable def adN (b P:Nat):Slot->Nat
 | .a=>b
 | .d=>b + 1
 | .p=>b + 2 + 3 * P
 | .q=>b + 2 + 3 * P + 1
 | .w=>b + 2 + 3 * P + 1 + 1
 | .e _=>0
 | .g j=>b + 2 + 3 * j
 | .c j=>b + 2 + 3 * j + 1
 | .k j=>b + 2 + 3 * j + 2
theorem zhg (wn:WN n) (M:Mem):Ok (zbG kE kR [qg n] M) fun t M'=>∃ ad,t = .ref (ad .w)/\Wd n ad M' (Run.new n) []/\(∀ s,s.ok n (Run.new n)->M.length<=ad s)/\Kp M.length M M':=by
 refine yy rfl ?_
 unfold zgH
 obtain ⟨M1,e1,l1,k1,c1⟩:=zk5 (n.ps.map puT) none (M ++ [.lst []] ++ [.dic []]) [] (by rw [Qh];have:=wn.pl;simp;omega)
 have l0:(M ++ [Cell.lst []] ++ [Cell.dic []]).length = M.length + 2:=by simp
 rw [l0,Qh] at l1 c1 e1
 rw [l0] at k1
 rw [nil_append] at e1
 rw [show qg n = .tup [.tup (n.hs.map hsT),.tup (n.ps.map puT)] from rfl]
 simp_arith [zjY,e1]
 have la:(M ++ [Cell.lst []]).length = M.length + 1:=by simp
 generalize hX:Cell.lst ((List.range n.ps.length).map fun j=>FT.T.ref (M.length + 2 + 3 * j + 2)) = Xp
 have lp:(M1 ++ [Xp]).length = M.length + 2 + 3 * n.ps.length + 1:=by rw [Qn,l1];rfl
 have lw:(M1 ++ [Xp] ++ [Cell.lst []]).length = M.length + 2 + 3 * n.ps.length + 1 + 1:=by rw [Qn,lp];rfl
 rw [la,lp,lw,l1]
 generalize hW:Cell.lst [FT.T.ref M.length,.ref (M.length + 1),.ref (M.length + 2 + 3 * n.ps.length),.ref (M.length + 2 + 3 * n.ps.length + 1)] = Xw
 have old:∀ i,i < M.length + 2 + 3 * n.ps.length->(M1 ++ [Xp] ++ [Cell.lst []] ++ [Xw])[i]? = M1[i]?:=fun i hi=>by
  rw [append_assoc,append_assoc,Q6 (by omega)]
 have new:∀ k,(M1 ++ [Xp] ++ [Cell.lst []] ++ [Xw])[M.length + 2 + 3 * n.ps.length + k]? = [Xp,.lst [],Xw][k]?:=fun k=>by
  rw [append_assoc,append_assoc,Q8 (by omega),show M.length + 2 + 3 * n.ps.length + k - M1.length = k by omega]
  rfl
 have t0:∀ j,(Run.new n).taken.getD j 0 = 0:=fun j=>by
  show (n.ps.map fun _=>0).getD j 0 = 0
  rw [Q7,Qb]
  cases n.ps[j]? <;> rfl
 have u0:∀ j,(Run.new n).puts.getD j [] = []:=fun j=>by
  show (n.ps.map fun _=>([]:List Nat)).getD j [] = []
  rw [Q7,Qb]
  cases n.ps[j]? <;> rfl
 refine Ok.ret ⟨adN M.length n.ps.length,rfl,⟨fun s hs=>?_,fun s t hs ht e=>?_,fun i=>?_,Q3 _,by simp [Run.new],by simp [Run.new]⟩,fun s hs=>?_,⟨?_,fun i hi=>?_⟩⟩
 ·cases s with
  | w=>exact (new 2).trans (by rw [← hW];rfl)
  | q=>exact new 1
  | p=>exact (new 0).trans (by rw [← hX];rfl)
  | a=>
   show (M1 ++ [Xp] ++ [Cell.lst []] ++ [Xw])[M.length]? = some (.lst [])
   rw [old _ (by omega),k1 _ (by omega),append_assoc,Q8 (Q3 _),Qu]
   rfl
  | d=>
   show (M1 ++ [Xp] ++ [Cell.lst []] ++ [Xw])[M.length + 1]? = some (.dic [])
   rw [old _ (by omega),k1 _ (by omega),append_assoc,Q8 (by omega),show M.length + 1 - M.length = 1 by omega]
   rfl
  | e i=>exact absurd (show i < 0 from hs) (Nat.not_lt_zero _)
  | k j=>
   have hj:j < n.ps.length:=hs
   show (M1 ++ [Xp] ++ [Cell.lst []] ++ [Xw])[M.length + 2 + 3 * j + 2]? = _
   rw [old _ (by omega),(c1 j hj).2.2]
   simp only [ctn]
   rw [t0]
   rfl
  | g j=>
   have hj:j < n.ps.length:=hs
   show (M1 ++ [Xp] ++ [Cell.lst []] ++ [Xw])[M.length + 2 + 3 * j]? = _
   rw [old _ (by omega),(c1 j hj).1]
   simp only [ctn]
   rw [u0]
   unfold qJ
   simp
  | c j=>
   have hj:j < n.ps.length:=hs
   show (M1 ++ [Xp] ++ [Cell.lst []] ++ [Xw])[M.length + 2 + 3 * j + 1]? = _
   rw [old _ (by omega),(c1 j hj).2.1]
   simp only [ctn]
   rw [u0]
   unfold zY
   simp
 ·cases s <;> cases t <;> simp only [adN,Slot.ok,Run.new,length_nil,Nat.not_lt_zero] at hs ht e <;> first | rfl | (congr 1;omega) | (exfalso;omega)
 ·unfold zck
  rw [show (Run.new n).es = [] from rfl]
  rfl
 ·cases s <;> simp only [adN,Slot.ok,Run.new,length_nil,Nat.not_lt_zero] at hs ⊢ <;> omega
 ·simp;omega
 ·rw [old _ (by omega),k1 _ (by omega),append_assoc,Q6 hi]
end
theorem VEv.snoc {n:Net}:∀ {evs:List Evt} {R:Run} {ev:Evt},VEv n R evs->Can n (evs.foldl (zag n) R) ev->VEv n R (evs ++ [ev])
 | [],_,_,_,c=>⟨c,True.intro⟩
 | _ :: _,_,_,v,c=>⟨v.1,VEv.snoc v.2 c⟩
theorem znr (R:Run):(zdq n R).length<=10 * R.es.length + 1:=by
 unfold zdq
 rw [Qp]
 have:=zd1 (n:=n) R R.es.length
 omega
variable {evs:List Evt} {x0:Nat}
section
theorem zfl (wn:WN n) {evs:List Evt} (v:VEv n (Run.new n) evs):∀ k,k<=evs.length->(qD n (evs.take k)).came = k
 | 0,_=>rfl
 | k + 1,h=>by
  have hk:evs[k]? = some evs[k]:=Q0 (by omega)
  have g:=zbB wn v k (by omega)
  have ih:=zfl wn v k (by omega)
  have c:=v.at_ hk
  unfold qD at g ih ⊢
  rw [zdb hk]
  have:=(zk1 wn g.ri g.wt g.sb c.c).ca
  show (doR n _ _).came + 1 = _
  rw [this,ih]
def EvI (n:Net) (x0:Nat) (S:List Nat) (M:Mem) (R:Run):Prop:=∃ ad D,ad .w = x0/\Wd n ad M R D/\∀ s,s.ok n R->ad s ∉ S
section
variable {S:List Nat}
theorem EvI.fr (h:EvI n x0 S M R) {T:List Nat} (f:Fr T M M') (hT:∀ x ∈ T,x ∈ S):EvI n x0 S M' R:=by
 obtain ⟨ad,D,e,w,av⟩:=h
 exact ⟨ad,D,e,⟨fun s hs=>f.get (w.ho s hs) (fun z=>av s hs (hT _ z)),w.inj,w.dl,w.dk,w.pl,w.tl⟩,av⟩
theorem EvI.kept (h:EvI n x0 S M R) (k:Kp M.length M M'):EvI n x0 S M' R:=by
 obtain ⟨ad,D,e,w,av⟩:=h
 exact ⟨ad,D,e,w.kept k,av⟩
theorem EvI.more (h:EvI n x0 S M R) (hx:M.length<=x):EvI n x0 (x :: S) M R:=by
 obtain ⟨ad,D,e,w,av⟩:=h
 refine ⟨ad,D,e,w,fun s hs z=>?_⟩
 have:=yA (w.ho s hs)
 rcases mem_cons.mp z with z | z
 ·omega
 ·exact av s hs z
theorem EvI.sub (h:EvI n x0 S M R) {T:List Nat} (hT:∀ x ∈ T,x ∈ S):EvI n x0 T M R:=by
 obtain ⟨ad,D,e,w,av⟩:=h
 exact ⟨ad,D,e,w,fun s hs z=>av s hs (hT _ z)⟩
theorem zg5 (gn:GN n) (h:EvI n x0 S M R) (g:Good n R B) (hB:B < 90000):za9 kE kR [qg n,.ref x0] M = .ok (.lst ((zdq n R).map evT)) M:=by
 obtain ⟨ad,D,rfl,w,av⟩:=h
 exact zns gn w g.sb hB g.ri
theorem zp0 (gn:GN n) (h:EvI n x0 S M R) (g:Good n R B) (hB:B + 40 < 90000) (hcm:R.came < 90000) (hS:∀ x ∈ S,x < M.length) (hc:Can n R ev) :
  Ok (zcs kE kR [qg n,.ref x0,evT ev] M) fun t M'=>t = .non/\EvI n x0 S M' (zag n R ev)/\M.length<=M'.length/\∀ x ∈ S,M'[x]? = M[x]?:=by
 obtain ⟨ad,D,rfl,w,av⟩:=h
 refine (zp1 gn w g.sb hB hcm g.ri hc.c).mono ?_
 rintro t M' ⟨rfl,ad',D',w',f⟩
 refine ⟨rfl,⟨ad',D',f.ww,w',fun s hs z=>?_⟩,f.le,fun x hx=>f.kp x (hS x hx) fun s hs e=>av s hs (by rw [e];exact hx)⟩
 rcases f.nw s hs with ⟨h1,h2⟩ | h2
 ·exact av s h1 (by rw [← h2];exact z)
 ·have:=hS _ z
  omega
end
theorem zlr (n:Net) (evs:List Evt) (ev:Evt):qD n (evs ++ [ev]) = zag n (qD n evs) ev:=by
 unfold qD
 rw [List.foldl_append]
 rfl
theorem zlV (gn:GN n) {a p:Nat} (h:EvI n x0 [a,p] M (qD n evs)) (c:M[a]? = some (.lst (evs.map evT))) (po:PO p M) (hap:a ≠ p) (v:VEv n (Run.new n) evs) (hl:evs.length<=800) (o0 o2 o5 o7 o8 o9:Option FT.T) :
  Ok (zdu kE kR [o0,some (qg n),o2,some (.ref x0),some (.ref a),o5,some (.ref p),o7,o8,o9] M) fun fl M'=>∃ ev o8 o9,fl = .nx [o0,some (qg n),o2,some (.ref x0),some (.ref a),o5,some (.ref p),o7,o8,o9]/\EvI n x0 [a,p] M' (qD n (evs ++ [ev]))/\M'[a]? = some (.lst ((evs ++ [ev]).map evT))/\PO p M'/\VEv n (Run.new n) (evs ++ [ev]):=by
 have wn:=gn.wn
 have gd:=zbB wn v evs.length (Q3 _)
 have ca:=zfl wn v evs.length (Q3 _)
 rw [take_length] at gd ca
 have me:=zg5 (kE:=kE) (kR:=kR) gn h gd (by omega)
 unfold zdu
 refine Ok.seqX fun X hX=>?_
 simp_arith [me]
 rw [hX];clear hX;simp only [qf]
 have ml:=znr (n:=n) (qD n evs)
 have hes:=gd.sb.es
 have mne:zdq n (qD n evs) ≠ []:=fun z=>by cases z
 have mem:=fun ev (h:ev ∈ zdq n (qD n evs))=>znq h
 generalize zdq n (qD n evs) = L at ml mne mem
 refine Ok.seqP (fun fl M'=>∃ L',L' ≠ []/\(∀ ev ∈ L',ev ∈ L)/\L'.length<=90000/\PO p M'/\Fr [p] M M'/\fl = .nx [o0,some (qg n),o2,some (.ref x0),some (.ref a),o5,some (.ref p),o7,some (.lst (L'.map evT)),o9]) ?_ ?_
 ·by_cases z:1 < L.length
  ·have z1:decide ((1:Int) < (L.length:Int)) = true:=Qv (by omega)
   simp_arith [Qh,z1]
   refine Ok.bind (qI po (by decide) (by decide)) ?_
   rintro t M4 ⟨d,rfl,d0,d1,p4,f4⟩
   by_cases y:0 < d
   ·have y1:decide ((0:Int) < d) = true:=Qv y
    have e0:zq (.lst (L.map evT)) M4 = some (L.map evT):=rfl
    have cu:zcg (L.map evT) (some 1) none = (L.drop 1).map evT:=zii evT L 1
    simp_arith [y1,e0,cu]
    exact Ok.ret ⟨L.drop 1,(fun q=>by have:=congrArg List.length q;rw [length_drop,length_nil] at this;omega),fun ev he=>List.mem_of_mem_drop he,by rw [length_drop];omega,p4,f4,rfl⟩
   ·have y1:decide ((0:Int) < d) = false:=Qw y
    simp_arith [y1]
    exact Ok.ret ⟨L,mne,fun ev he=>he,by omega,p4,f4,rfl⟩
  ·have z1:decide ((1:Int) < (L.length:Int)) = false:=Qw (by omega)
   simp_arith [Qh,z1]
   exact Ok.ret ⟨L,mne,fun ev he=>he,by omega,po,Fr.refl _ _,rfl⟩
 rintro fl M4 ⟨L',hne,hsub,hll,p4,f4,rfl⟩
 have c4:=f4.get c (by simpa using hap)
 have h4:=h.fr f4 (by simp)
 rw [qf]
 have hlp:0 < (L'.length:Int):=by have:=List.length_pos_iff.mpr hne;omega
 refine Ok.seqX fun X hX=>?_
 simp_arith [Qh]
 refine Ok.bind (qI p4 hlp (zhe hlp (by omega))) ?_
 rintro t M5 ⟨d,rfl,d0,d1,p5,f5⟩
 have c5:=f5.get c4 (by simpa using hap)
 have h5:=h4.fr f5 (by simp)
 obtain ⟨i,rfl⟩:∃ i:Nat,d = i:=⟨d.toNat,by omega⟩
 have hi:i < L'.length:=by omega
 have ha:atI (L'.map evT) (i:Int) = some (evT L'[i]):=qo (Q0 hi)
 have ap:=zP (t:=evT L'[i]) c5 (by rw [Qh,sizeLine_eq];omega)
 have hin:=hsub L'[i] (getElem_mem hi)
 generalize L'[i] = ev at ha ap hin
 rw [show evs.map evT ++ [evT ev] = (evs ++ [ev]).map evT from by simp] at ap
 simp_arith [ha]
 rw [hX];clear hX;simp only [qf]
 refine Ok.seqX fun X hX=>?_
 simp_arith [zF c5,ap]
 rw [hX];clear hX;simp only [qf]
 have h6:=h5.fr (Fr.set M5 a (.lst ((evs ++ [ev]).map evT))) (by simp)
 have c6:(M5.set a (.lst ((evs ++ [ev]).map evT)))[a]? = some (.lst ((evs ++ [ev]).map evT)):=get_set c5
 have p6:PO p (M5.set a (.lst ((evs ++ [ev]).map evT))):=p5.fr (Fr.set M5 a _) (by simpa using fun z=>hap z.symm)
 generalize M5.set a (.lst ((evs ++ [ev]).map evT)) = M6 at c6 h6 p6 ⊢
 have cn:=mem ev hin
 have l6:=yA c6
 obtain ⟨q,hq⟩:=p6
 have dd:=zp0 (kE:=kE) (kR:=kR) gn h6 gd (by omega) (by omega) (by
  intro x hx
  rcases mem_cons.mp hx with rfl | hx
  ·exact l6
  ·rw [mem_singleton.mp hx];exact yA hq) cn
 simp_arith [and_self]
 refine Ok.bind dd ?_
 rintro t M7 ⟨rfl,h7,hle,kp⟩
 try simp_arith [and_self]
 refine Ok.ret ⟨ev,_,_,rfl,?_,by rw [kp a (by simp)];exact c6,⟨q,by rw [kp p (by simp)];exact hq⟩,v.snoc cn⟩
 rw [zlr]
 exact h7
theorem zkY (gn:GN n) (ns:List Int) (hn:ns.length<=63) (M:Mem):Ok (zcK kE kR [.lst (ns.map .int),qg n,.int 2] M) fun t M'=>∃ x0 a evs,t = .tup [.ref a,.ref x0]/\EvI n x0 [a] M' (qD n evs)/\M'[a]? = some (.lst (evs.map evT))/\VEv n (Run.new n) evs/\evs.length<=200:=by
 have wn:=gn.wn
 refine yy rfl ?_
 unfold zfJ
 refine Ok.seqR fun X hX=>?_
 simp_arith [and_self]
 refine Ok.bind (zhg wn M) ?_
 rintro t M1 ⟨ad0,rfl,w1,lo1,k1⟩
 try simp_arith [and_self]
 rw [hX];clear hX;simp only [qf]
 refine Ok.seqR fun X hX=>?_
 simp_arith [and_self]
 rw [hX];clear hX;simp only [qf]
 refine Ok.seqR fun X hX=>?_
 have I1:EvI n (ad0 .w) [M1.length] (M1 ++ [.lst []]) (qD n []):=EvI.kept (M:=M1) (EvI.more ⟨ad0,[],rfl,w1,fun _ _ z=>by cases z⟩ (Q3 _)) (Kp.app _ _ (Q3 _))
 generalize ad0 .w = x0 at *
 have mm:∀ i:Int,0<=i->i<=63->∃ q:Nat,(if (if i < 63 then i else 63) > 12 then (if i < 63 then i else 63) else 12) = ((q:Nat):Int)/\1<=q/\q<=63:=fun i h0 h1=>by
  refine ⟨(if (if i < 63 then i else 63) > 12 then (if i < 63 then i else 63) else 12).toNat,?_,?_,?_⟩ <;> (split <;> split <;> omega)
 obtain ⟨q,hq,q1,q2⟩:=mm (ns.length:Int) (by omega) (by omega)
 have rg:∀ M,zfe [.int 1,.int (q:Int)] M = .ok ((rgF 1 (q - 1)).map .int) M:=fun M=>by
  rw [zmO (by omega),show ((q:Int) - 1).toNat = q - 1 by omega]
 simp_arith [Qh,zgg,hq,rg]
 refine Ok.bind (Ok.for (r:=FT.T.int) (xs:=rgF 1 (q - 1)) (fun k σ M=>∃ o5 o6 o7 o8 o9 evs,σ = [some (.lst (ns.map .int)),some (qg n),some (.int 2),some (.ref x0),some (.ref M1.length),o5,o6,o7,o8,o9]/\EvI n x0 [M1.length] M (qD n evs)/\M[M1.length]? = some (.lst (evs.map evT))/\VEv n (Run.new n) evs/\evs.length<=2 * k) ⟨none,none,none,none,none,[],rfl,I1,yM,True.intro,Q3 _⟩ ?_) ?_
 ·rintro k x σ M2 hx ⟨o5,o6,o7,o8,o9,evs,rfl,I2,c2,v2,l2⟩
  obtain ⟨hk,rfl⟩:=zmQ hx
  generalize M1.length = a at *
  have a2:=yA c2
  obtain ⟨cc,hcc⟩:=zjq (kE:=kE) (kR:=kR) (ns:=ns) (n:=1 + k) (by omega) M2
  rw [show (((1 + k:Nat):Int)) = 1 + (k:Int) from by omega] at hcc
  have c3:(M2 ++ [(Po.new (cc + (1 + (k:Int)))).cell])[a]? = some (.lst (evs.map evT)):=by rw [Q6 a2];exact c2
  have p3:PO M2.length (M2 ++ [(Po.new (cc + (1 + (k:Int)))).cell]):=PO.app
  have I3:EvI n x0 [a,M2.length] (M2 ++ [(Po.new (cc + (1 + (k:Int)))).cell]) (qD n evs):=((I2.more (Q3 _)).sub (by
   intro x hx
   rcases mem_cons.mp hx with rfl | hx
   ·simp
   ·rw [mem_singleton.mp hx];simp)).kept (Kp.app _ _ (Q3 _))
  simp_arith [and_self]
  unfold ze2
  refine Ok.seqX fun X hX=>?_
  simp_arith [hcc,zhV]
  rw [hX];clear hX;simp only [qf]
  generalize M2 ++ [(Po.new (cc + (1 + (k:Int)))).cell] = M3 at c3 p3 I3 ⊢
  have hap:a ≠ M2.length:=by omega
  generalize M2.length = p at *
  simp_arith [and_self]
  refine Ok.bind (qI p3 (by decide) (by decide)) ?_
  rintro t M4 ⟨d,rfl,d0,d1,p4,f4⟩
  have c4:=f4.get c3 (by simpa using hap)
  have I4:=I3.fr f4 (by simp)
  obtain ⟨m,rfl⟩:∃ m:Nat,d = m:=⟨d.toNat,by omega⟩
  have rg1:∀ M,zcA [.int (1 + (m:Int))] M = .ok ((rgI (1 + m)).map .int) M:=fun M=>by
   rw [zal (by omega),show (1 + (m:Int)).toNat = 1 + m by omega]
  simp_arith [rg1]
  refine (Ok.for (r:=FT.T.int) (xs:=rgI (1 + m)) (fun j σ M=>∃ o7 o8 o9 evs,σ = [some (.lst (ns.map .int)),some (qg n),some (.int 2),some (.ref x0),some (.ref a),some (.int (1 + (k:Int))),some (.ref p),o7,o8,o9]/\EvI n x0 [a,p] M (qD n evs)/\M[a]? = some (.lst (evs.map evT))/\PO p M/\VEv n (Run.new n) evs/\evs.length<=2 * k + j) ⟨o7,o8,o9,evs,rfl,I4,c4,p4,v2,l2⟩ ?_).mono ?_
  ·rintro j x σ M5 hx ⟨o7,o8,o9,evs,rfl,I5,c5,p5,v5,l5⟩
   obtain ⟨hj,rfl⟩:=zaE hx
   simp_arith [and_self]
   refine (zlV gn I5 c5 p5 hap v5 (by omega) _ _ _ _ _ _).mono ?_
   rintro fl M6 ⟨ev,o8,o9,rfl,I6,c6,p6,v6⟩
   exact ⟨_,rfl,_,_,_,_,rfl,I6,c6,p6,v6,by rw [Qn,Qt];omega⟩
  ·rintro fl M5 ⟨σ,rfl,o7,o8,o9,evs,rfl,I5,c5,p5,v5,l5⟩
   rw [zam] at l5
   exact ⟨_,rfl,_,_,_,_,_,evs,rfl,I5.sub (by simp),c5,v5,by omega⟩
 ·rintro fl M2 ⟨σ,rfl,o5,o6,o7,o8,o9,evs,rfl,I2,c2,v2,l2⟩
  rw [zmP] at l2
  try simp_arith [and_self]
  rw [hX];clear hX;simp only [qf]
  simp_arith [and_self]
  exact Ok.ret ⟨x0,_,evs,rfl,I2,c2,v2,by omega⟩
end
inductive RT:Nat->FT.T->Prop
 | int (d:Nat) (i:Int):RT d (.int i)
 | str (d:Nat) (s:Str):RT d (.str s)
 | non (d:Nat):RT d .non
 | tup {d:Nat} {xs:List FT.T} (h:∀ x ∈ xs,RT d x):RT (d + 1) (.tup xs)
 | lst {d:Nat} {xs:List FT.T} (h:∀ x ∈ xs,RT d x):RT (d + 1) (.lst xs)
theorem zd5 {f:FT.T->FT.T->Option Bool}:∀ {xs:List FT.T},(∀ x ∈ xs,f x x = some true)->eqL f xs xs = some true
 | [],_=>rfl
 | x :: xs,h=>by
  unfold eqL
  rw [h x (.head _),zd5 fun y hy=>h y (.tail _ hy)]
  rfl
variable {xs:List FT.T} {d:Nat}
theorem zpZ (h:∀ x ∈ xs,eqD M d x x = some true):eqD M (d + 1) (.lst xs) (.lst xs) = some true:=by
 rw [show eqD M (d + 1) (.lst xs) (.lst xs) = (if xs.length = xs.length then eqL (eqD M d) xs xs else some false) from rfl,if_pos rfl]
 exact zd5 h
theorem RT.eq (h:RT d t) (M:Mem):eqD M d t t = some true:=by
 induction h with
 | int d i=>
  rw [show eqD M d (.int i) (.int i) = some (i == i) by cases d <;> rfl,beq_self_eq_true]
 | str d s=>
  rw [show eqD M d (.str s) (.str s) = some (s == s) by cases d <;> rfl,beq_self_eq_true]
 | non d=>cases d <;> rfl
 | tup h ih=>exact zd5 ih
 | lst h ih=>exact zpZ ih
variable {y:FT.T}
theorem zn5 {a:Nat} (h1:M[a]? = some (.lst xs)) (h2:y = .lst xs\/∃ b,y = .ref b/\M[b]? = some (.lst xs)) (h:∀ x ∈ xs,RT 19 x):eqD M 20 (.ref a) y = some true:=by
 have hh:=zd5 (f:=eqD M 19) fun x hx=>(h x hx).eq M
 rcases h2 with rfl | ⟨b,rfl,h2⟩
 ·rw [show eqD M 20 (.ref a) (.lst xs) = (match zq (.ref a) M with | some zs=>(if zs.length = xs.length then eqL (eqD M 19) zs xs else some false) | none=>none) from by
   unfold eqD zq
   simp only [h1]
   rfl,zaa h1]
  dsimp only
  rw [if_pos rfl,hh]
 ·rw [show eqD M 20 (.ref a) (.ref b) = (match zq (.ref a) M,zq (.ref b) M with | some zs,some ys=>(if zs.length = ys.length then eqL (eqD M 19) zs ys else some false) | _,_=>none) from by
   unfold eqD zq
   simp only [h1,h2]
   rfl,zaa h1,zaa h2]
  dsimp only
  rw [if_pos rfl,hh]
theorem zda {x:FT.T} (h:eqD M 20 x y = some true):neA x y M = .ok (.bl false) M:=by unfold neA;rw [h];rfl
section
theorem zn3 {a:Nat} (h:M[a]? = some (.lst (evs.map evT))):EvS (.ref a) evs M:=⟨[(a,evs.map evT)],zlN h,by intro g hg;rw [mem_singleton.mp hg];exact h,by intro g hg;rw [mem_singleton.mp hg];exact yA h⟩
theorem zn2 (evs:List Evt) (M:Mem):EvS (.tup (evs.map evT)) evs M:=⟨[],rfl,(by intro g hg;cases hg),by intro g hg;cases hg⟩
theorem zn4 (evs:List Evt) (M:Mem):EvS (.lst (evs.map evT)) evs M:=⟨[],rfl,(by intro g hg;cases hg),by intro g hg;cases hg⟩
theorem zq6 (ev:Evt):RT 19 (evT ev):=by
 cases ev <;> (refine .tup (d:=18) fun x hx=>?_) <;> simp only [mem_cons,not_mem_nil,or_false] at hx
 ·rw [hx];exact .str _ _
 ·rcases hx with rfl | rfl | rfl
  ·exact .str _ _
  ·exact .int _ _
  ·exact .str _ _
 all_goals
  rcases hx with rfl | rfl
  ·exact .str _ _
  ·exact .int _ _
theorem zhP {a:Nat} (h:M[a]? = some (.lst (evs.map evT))):neA (.ref a) (.lst (evs.map evT)) M = .ok (.bl false) M:=zda (zn5 h (.inl rfl) fun x hx=>by
 obtain ⟨y,_,rfl⟩:=mem_map.mp hx
 exact zq6 y)
theorem znA {r:Nat} (h:M[r]? = some (.lst xs)):zan (.ref r) (.ty "list") M = .ok (.bl true) M:=by
 unfold zan tyN
 simp only [h]
 rfl
theorem VEv.take {n:Net}:∀ {evs:List Evt} {R:Run} (k:Nat),VEv n R evs->VEv n R (evs.take k)
 | [],_,_,_=>by rw [List.take_nil];exact True.intro
 | _ :: _,_,0,_=>True.intro
 | _ :: _,_,k + 1,v=>⟨v.1,VEv.take k v.2⟩
theorem law_true (kE kR:Addr) (ns:List Int) (hn:ns.length<=63):∃ M,zhb kE kR [.lst (ns.map .int)] [] = .ok (.bl true) M:=by
 have key:Ok (zhb kE kR [.lst (ns.map .int)] []) fun t _=>t = .bl true:=by
  refine yy rfl ?_
  unfold zmv
  obtain ⟨c,hc⟩:=zjq (kE:=kE) (kR:=kR) (ns:=ns) (n:=0) (by omega) []
  refine Ok.seqR fun X hX=>?_
  rw [show (FT.T.int ((0:Nat):Int)) = .int 0 from rfl] at hc
  simp_arith [hc,zhV]
  refine Ok.bind (zo9 (kE:=kE) (kR:=kR) (PO.app (M:=[]) (c:=c))) ?_
  rintro t M1 ⟨n,rfl,gn,p1,f1⟩
  have wn:=gn.wn
  try simp_arith [and_self]
  rw [hX];clear hX;simp only [qf]
  refine Ok.seqR fun X hX=>?_
  simp_arith [and_self]
  refine Ok.bind (zkY gn ns hn M1) ?_
  rintro t M2 ⟨x0,a,evs,rfl,I2,c2,v,hl⟩
  try simp_arith [and_self]
  rw [hX];clear hX;simp only [qf]
  have gd:=zbB wn v evs.length (Q3 _)
  rw [take_length] at gd
  refine Ok.seqR fun X hX=>?_
  simp_arith [and_self]
  refine Ok.bind (zhR wn (zn3 c2) v (by omega)) ?_
  rintro t M3 ⟨b,rfl,hb,c3,k3⟩
  try simp_arith [and_self]
  rw [hX];clear hX;simp only [qf]
  have I3:=I2.kept k3
  have m3:=zg5 (kE:=kE) (kR:=kR) gn I3 gd (by omega)
  refine Ok.seqR fun X hX=>?_
  simp_arith [znA c3,m3,zhP c3]
  rw [hX];clear hX;simp only [qf]
  -- found is emptied
  have cl:zey (.ref b) M3 = .ok .non (M3.set b (.lst [])):=by
   unfold zey
   simp only [c3]
  have hb2:=yA c2
  have kk:Kp M2.length M2 (M3.set b (.lst [])):=k3.trans (Kp.set _ _ hb)
  have I4:=I2.kept kk
  have c4:(M3.set b (.lst []))[a]? = some (.lst (evs.map evT)):=by rw [kk.2 _ hb2];exact c2
  refine Ok.seqR fun X hX=>?_
  simp_arith [cl]
  rw [hX];clear hX;simp only [qf]
  generalize M3.set b (.lst []) = M4 at I4 c4
  have tk:z4 (.ref a) M4 = .ok (.tup (evs.map evT)) M4:=by
   unfold z4 yS zq
   simp only [c4]
  refine Ok.seqR fun X hX=>?_
  simp_arith [tk]
  refine Ok.bind (zhR wn (zn2 evs M4) v (by omega)) ?_
  rintro t M5 ⟨b5,rfl,hb5,c5,k5⟩
  have I5:=I4.kept k5
  have m5:=zg5 (kE:=kE) (kR:=kR) gn I5 gd (by omega)
  simp_arith [m5,zhP c5]
  rw [hX];clear hX;simp only [qf]
  have c6:M5[a]? = some (.lst (evs.map evT)):=by rw [k5.2 _ (yA c4)];exact c4
  clear I5 m5 c5 I4 c4 k5 I2 c2 I3 m3 c3 cl kk
  refine Ok.seqR fun X hX=>?_
  simp_arith [and_self]
  refine Ok.bind (zhg wn M5) ?_
  rintro t M6 ⟨ad,rfl,w6,lo6,k6⟩
  try simp_arith [and_self]
  rw [hX];clear hX;simp only [qf]
  have h5:=yA c6
  have c7:M6[a]? = some (.lst (evs.map evT)):=by rw [k6.2 _ h5];exact c6
  have I7:EvI n (ad .w) [a] M6 (qD n (evs.take 0)):=⟨ad,[],rfl,w6,fun s hs z=>by have:=lo6 s hs;rw [mem_singleton.mp z] at this;omega⟩
  generalize ad .w = x1 at *
  have rg:∀ M,zcA [.int (evs.length:Int)] M = .ok ((rgI evs.length).map .int) M:=fun M=>zal (j:=(evs.length:Int)) (by omega)
  have ln:yx (.ref a) M6 = .ok (nT evs.length) M6:=by
   unfold yx yS zq
   simp only [c7]
   simp
  refine Ok.seqR fun X hX=>?_
  simp_arith [ln,rg,Int.toNat_natCast]
  refine Ok.bind (Ok.for (r:=FT.T.int) (xs:=rgI evs.length) (fun k σ M=>∃ o4 o5,σ = [some (.lst (ns.map .int)),some (qg n),some (.ref a),some (.ref x1),o4,o5]/\EvI n x1 [a] M (qD n (evs.take k))/\M[a]? = some (.lst (evs.map evT))) ⟨_,_,rfl,I7,c7⟩ ?_) ?_
  ·rintro k x σ M8 hx ⟨o4,o5,rfl,I8,c8⟩
   obtain ⟨hk,rfl⟩:=zaE hx
   have gk:=zbB wn v k (by omega)
   have ca:=zfl wn v k (by omega)
   have he:evs[k]? = some evs[k]:=Q0 hk
   have cn:=v.at_ he
   have ae:atI (evs.map evT) (k:Int) = some (evT evs[k]):=qo he
   have st:qD n (evs.take (k + 1)) = zag n (qD n (evs.take k)) evs[k]:=by unfold qD;exact zdb he
   rw [st]
   have fin:∀ M9,EvI n x1 [a] M9 (qD n (evs.take k))->M9[a]? = some (.lst (evs.map evT))->Ok (yB (yf (zcs kE kR) (zb (yb 1) (zb (yb 3) (zb (eOp ixT (yb 2) (yb 5)) ze)))) [some (.lst (ns.map .int)),some (qg n),some (.ref a),some (.ref x1),o4,some (.int (k:Int))] M9) fun fl M'=>∃ σ',fl = .nx σ'/\∃ o4 o5,σ' = [some (.lst (ns.map .int)),some (qg n),some (.ref a),some (.ref x1),o4,o5]/\EvI n x1 [a] M' (zag n (qD n (evs.take k)) evs[k])/\M'[a]? = some (.lst (evs.map evT)):=by
    intro M9 I9 c9
    have dd:=zp0 (kE:=kE) (kR:=kR) gn I9 gk (by omega) (by omega) (by
     intro x hx
     rw [mem_singleton.mp hx]
     exact yA c9) cn
    simp_arith [c9,ae]
    refine Ok.bind dd ?_
    rintro t M10 ⟨rfl,I10,_,kp⟩
    try simp_arith [and_self]
    exact Ok.ret ⟨_,rfl,_,_,rfl,I10,by rw [kp a (by simp)];exact c9⟩
   simp_arith [and_self]
   unfold zle
   refine Ok.seqX fun X hX=>?_
   by_cases z:(k:Int).fmod 7 < 2
   ·have z1:decide ((k:Int).fmod 7 < 2) = true:=Qv z
    have cu:zcg (evs.map evT) none (some (k:Int)) = (evs.take k).map evT:=zk4 evT evs k
    have l8:=zaa c8
    simp_arith [z1,l8,cu]
    refine Ok.bind (zhR wn (zn4 (evs.take k) M8) (v.take k) (by rw [Qr];omega)) ?_
    rintro t M9 ⟨b9,rfl,hb9,c9,k9⟩
    have I9:=I8.kept k9
    have m9:=zg5 (kE:=kE) (kR:=kR) gn I9 gk (by omega)
    simp_arith [m9,zhP c9]
    rw [hX];clear hX;simp only [qf]
    exact fin M9 I9 (by rw [k9.2 _ (yA c8)];exact c8)
   ·have z1:decide ((k:Int).fmod 7 < 2) = false:=Qw z
    simp_arith [z1]
    rw [hX];clear hX;simp only [qf]
    exact fin M8 I8 c8
  ·rintro fl M8 ⟨σ,rfl,o4,o5,rfl,I8,c8⟩
   try simp_arith [and_self]
   rw [hX];clear hX;simp only [qf]
   simp_arith [and_self]
   exact Ok.ret rfl
 obtain ⟨t,M,e,rfl⟩:=key
 exact ⟨M,e⟩
end
end My
theorem My.e1 {α:Type} {P:List α->Prop} (h:∀ a,P [a]):∀ us:List α,us.length = 1->P us
 | [a],_=>h a
theorem My.e2 {α:Type} {P:List α->Prop} (h:∀ a b,P [a,b]):∀ us:List α,us.length = 2->P us
 | [a,b],_=>h a b
theorem My.e3 {α:Type} {P:List α->Prop} (h:∀ a b c,P [a,b,c]):∀ us:List α,us.length = 3->P us
 | [a,b,c],_=>h a b c
theorem My.e4 {α:Type} {P:List α->Prop} (h:∀ a b c d,P [a,b,c,d]):∀ us:List α,us.length = 4->P us
 | [a,b,c,d],_=>h a b c d
theorem My.e5 {α:Type} {P:List α->Prop} (h:∀ a b c d e,P [a,b,c,d,e]):∀ us:List α,us.length = 5->P us
 | [a,b,c,d,e],_=>h a b c d e
local macro_rules | `(tactic| rfl') => do
 let K:=Lean.mkIdent `KX
 let G:=Lean.mkIdent `G
 `(tactic| (dsimp only [L2.KOf];refine' L2.zB $K $G ?a ?l ?c ?k ?b;(case a=>k_is);(case l=>k_is);(case c=>k_is);(case k=>k_is)))
local macro_rules | `(tactic| eq_refl) => `(tactic| (dsimp only [L2.KOf];refine' FT.zbv ?a ?n;(case a=>k_is);(case n=>k_is)))
open PySem PySem.W PyProof.Rows
set_option maxRecDepth 100000 in
set_option maxHeartbeats 0 in
theorem PySem.Challenge.cw_tryweir_k37_events_that_may_come_holds : PySem.Challenge.rw_tryweir_k37_events_that_may_come.Holds := by
 refine My.hdD.2 ?_
 dsimp only [My.hdD]
 k_fill
 refine L2.zll (l:=PySem.Challenge.rw_tryweir_k37_events_that_may_come) (n:=63) (k:=33) (x:="script") (CX:=L2.CX0) (sp:=fun K=>FT.spT K (My.zhb (FT.yR K "Errand") (FT.yR K "Run"))) rfl (by decide) rfl ⟨rfl,by decide,by decide⟩ (fun w h Y=>PySem.W.kIn_of Y) ?F ?S ?C
 case F=>
  intro w mg fa h KX G hmg
  have uT:L2.Df (L2.KOf KX) mg "_law_next" My.zfb ["pool","base"]:=by rfl';exact fun _ _ _ _ _ _=>My.e2 fun _ _=>rfl
  have uP:L2.Df (L2.KOf KX) mg "_law_words" My.zeh ["pool","many"]:=by rfl';exact fun _ _ _ _ _ _=>My.e2 fun _ _=>rfl
  have uU:L2.Df (L2.KOf KX) mg "_law_asks" My.zfd ["pool","later","purses","most"]:=by rfl';exact fun _ _ _ _ _ _=>My.e4 fun _ _ _ _=>rfl
  have uW:L2.Df (L2.KOf KX) mg "_law_net" My.zf0 ["pool"]:=by rfl';exact fun _ _ _ _ _ _=>My.e1 fun _=>rfl
  have uQ:L2.Df (L2.KOf KX) mg "_law_world" My.zeg ["net"]:=by rfl';exact fun _ _ _ _ _ _=>My.e1 fun _=>rfl
  have uX:L2.Df (L2.KOf KX) mg "_law_dig" My.zf3 ["cell"]:=by rfl';exact fun _ _ _ _ _ _=>My.e1 fun _=>rfl
  have uK:L2.Df (L2.KOf KX) mg "_law_coins" My.zek ["net","world","ask"]:=by rfl';exact fun _ _ _ _ _ _=>My.e3 fun _ _ _=>rfl
  have u3:L2.Df (L2.KOf KX) mg "_law_may" My.zf1 ["net","world"]:=by rfl';exact fun _ _ _ _ _ _=>My.e2 fun _ _=>rfl
  have uO:L2.Df (L2.KOf KX) mg "_law_share" My.zei ["net","world","ask","first","errand"]:=by rfl';exact fun _ _ _ _ _ _=>My.e5 fun _ _ _ _ _=>rfl
  have uM:L2.Df (L2.KOf KX) mg "_law_house" My.zej ["net","name"]:=by rfl';exact fun _ _ _ _ _ _=>My.e2 fun _ _=>rfl
  have uL:L2.Df (L2.KOf KX) mg "_law_begin" My.zel ["net","world","house","caller"]:=by rfl';exact fun _ _ _ _ _ _=>My.e4 fun _ _ _ _=>rfl
  have uZ:L2.Df (L2.KOf KX) mg "_law_try" My.zfZ ["net","world","number","at","tries"]:=by rfl';exact fun _ _ _ _ _ _=>My.e5 fun _ _ _ _ _=>rfl
  have uY:L2.Df (L2.KOf KX) mg "_law_end" My.zf2 ["net","world","number","word"]:=by rfl';exact fun _ _ _ _ _ _=>My.e4 fun _ _ _ _=>rfl
  have u6:L2.Df (L2.KOf KX) mg "_law_do" My.zhC ["net","world","event"]:=by rfl';exact fun _ _ _ _ _ _=>My.e3 fun _ _ _=>rfl
  have uS:L2.Df (L2.KOf KX) mg "_law_cell" My.zfc ["script","k"]:=by rfl';exact fun _ _ _ _ _ _=>My.e2 fun _ _=>rfl
  have uH:L2.Df (L2.KOf KX) mg "_law_events" My.zdO ["script","net","most"]:=by rfl';exact fun _ _ _ _ _ _=>My.e3 fun _ _ _=>rfl
  have ve:FT.Di (L2.KOf KX) mg "Run" "Run.__init__" (FT.yR (L2.KOf KX) "Run") My.zdT ["self","net"]:=by
   dsimp only [L2.KOf]
   refine' FT.zmy KX G ?a17 ?e17 ?i17 ?l17 ?c17 ?k17 ?m17 ?q17 ?b17
   (case a17=>k_is);(case e17=>k_is);(case i17=>k_is);(case l17=>k_is);(case c17=>k_is);(case k17=>k_is);(case m17=>k_is);(case q17=>k_is)
   exact fun _ _ _ _ _ _=>My.e2 fun _ _=>rfl
  have u1:L2.Cls (L2.KOf KX) (FT.yR (L2.KOf KX) "Run"):=by
   dsimp only [L2.KOf]
   refine' FT.zk6 ?a18 ?p18 ?h18 ?o18 ?s18
   (case a18=>k_is);(case p18=>k_is);(case h18=>k_is);(case o18=>k_is);(case s18=>k_is)
  have uy:L2.NoAttr (L2.KOf KX) (FT.yR (L2.KOf KX) "Run") "came":=by eq_refl
  have uk:L2.NoAttr (L2.KOf KX) (FT.yR (L2.KOf KX) "Run") "errands":=by eq_refl
  have uI:L2.NoAttr (L2.KOf KX) (FT.yR (L2.KOf KX) "Run") "net":=by eq_refl
  have uf:L2.NoAttr (L2.KOf KX) (FT.yR (L2.KOf KX) "Run") "payments":=by eq_refl
  have uz:L2.NoAttr (L2.KOf KX) (FT.yR (L2.KOf KX) "Run") "puts":=by eq_refl
  have uq:L2.NoAttr (L2.KOf KX) (FT.yR (L2.KOf KX) "Run") "taken":=by eq_refl
  have uN:L2.Df (L2.KOf KX) mg "asks_of" My.zem ["run","number"]:=by rfl';exact fun _ _ _ _ _ _=>My.e2 fun _ _=>rfl
  have ul:L2.Df (L2.KOf KX) mg "may_be_lost" My.zcx ["run","number"]:=by rfl';exact fun _ _ _ _ _ _=>My.e2 fun _ _=>rfl
  have ud:L2.Df (L2.KOf KX) mg "has_tries_left" My.zbz ["run","number"]:=by rfl';exact fun _ _ _ _ _ _=>My.e2 fun _ _=>rfl
  have ua:L2.Df (L2.KOf KX) mg "events_by_tries" My.zbk ["run","number"]:=by rfl';exact fun _ _ _ _ _ _=>My.e2 fun _ _=>rfl
  have uw:L2.Df (L2.KOf KX) mg "number_of" My.zdl ["named","name"]:=by rfl';exact fun _ _ _ _ _ _=>My.e2 fun _ _=>rfl
  have uD:L2.Df (L2.KOf KX) mg "purse_of" My.zdL ["run","ask"]:=by rfl';exact fun _ _ _ _ _ _=>My.e2 fun _ _=>rfl
  have up:L2.Df (L2.KOf KX) mg "coins_made" My.zcV ["run","purse"]:=by rfl';exact fun _ _ _ _ _ _=>My.e2 fun _ _=>rfl
  have ur:L2.Df (L2.KOf KX) mg "purse_told" My.zcU ["run","purse"]:=by rfl';exact fun _ _ _ _ _ _=>My.e2 fun _ _=>rfl
  have uE:L2.Df (L2.KOf KX) mg "has_coin" My.zdQ ["run","number"]:=by rfl';exact fun _ _ _ _ _ _=>My.e2 fun _ _=>rfl
  have uu:L2.Df (L2.KOf KX) mg "events_at" My.zdn ["run","number"]:=by rfl';exact fun _ _ _ _ _ _=>My.e2 fun _ _=>rfl
  have uG:L2.Df (L2.KOf KX) mg "is_whole" My.zdP ["thing"]:=by rfl';exact fun _ _ _ _ _ _=>My.e1 fun _=>rfl
  have ux:L2.Df (L2.KOf KX) mg "is_within" My.zdm ["thing","low","high"]:=by rfl';exact fun _ _ _ _ _ _=>My.e3 fun _ _ _=>rfl
  have uA:L2.Df (L2.KOf KX) mg "can_come" My.zdR ["run","event"]:=by rfl';exact fun _ _ _ _ _ _=>My.e2 fun _ _=>rfl
  have um:L2.Df (L2.KOf KX) mg "check_event" My.zcy ["run","event"]:=by rfl';exact fun _ _ _ _ _ _=>My.e2 fun _ _=>rfl
  have uB:L2.Df (L2.KOf KX) mg "asked_by" My.zdS ["net","ask"]:=by rfl';exact fun _ _ _ _ _ _=>My.e2 fun _ _=>rfl
  have uV:FT.Di (L2.KOf KX) mg "Errand" "Errand.__init__" (FT.yR (L2.KOf KX) "Errand") My.zcz ["self","house","caller"]:=by
   dsimp only [L2.KOf]
   refine' FT.zmy KX G ?a40 ?e40 ?i40 ?l40 ?c40 ?k40 ?m40 ?q40 ?b40
   (case a40=>k_is);(case e40=>k_is);(case i40=>k_is);(case l40=>k_is);(case c40=>k_is);(case k40=>k_is);(case m40=>k_is);(case q40=>k_is)
   exact fun _ _ _ _ _ _=>My.e3 fun _ _ _=>rfl
  have uF:L2.Cls (L2.KOf KX) (FT.yR (L2.KOf KX) "Errand"):=by
   dsimp only [L2.KOf]
   refine' FT.zk6 ?a41 ?p41 ?h41 ?o41 ?s41
   (case a41=>k_is);(case p41=>k_is);(case h41=>k_is);(case o41=>k_is);(case s41=>k_is)
  have ue:L2.NoAttr (L2.KOf KX) (FT.yR (L2.KOf KX) "Errand") "asked":=by eq_refl
  have uc:L2.NoAttr (L2.KOf KX) (FT.yR (L2.KOf KX) "Errand") "caller":=by eq_refl
  have ui:L2.NoAttr (L2.KOf KX) (FT.yR (L2.KOf KX) "Errand") "house":=by eq_refl
  have ub:L2.NoAttr (L2.KOf KX) (FT.yR (L2.KOf KX) "Errand") "is_lost":=by eq_refl
  have uh:L2.NoAttr (L2.KOf KX) (FT.yR (L2.KOf KX) "Errand") "state":=by eq_refl
  have ug:L2.NoAttr (L2.KOf KX) (FT.yR (L2.KOf KX) "Errand") "stood":=by eq_refl
  have uv:L2.Df (L2.KOf KX) mg "begin_try" My.zcj ["run","number","at","tried"]:=by rfl';exact fun _ _ _ _ _ _=>My.e4 fun _ _ _ _=>rfl
  have uj:L2.Df (L2.KOf KX) mg "begin_errand" My.za8 ["run","house","caller"]:=by rfl';exact fun _ _ _ _ _ _=>My.e3 fun _ _ _=>rfl
  have uo:L2.Df (L2.KOf KX) mg "end_errand" My.zbN ["run","number","word"]:=by rfl';exact fun _ _ _ _ _ _=>My.e3 fun _ _ _=>rfl
  have u8:L2.Df (L2.KOf KX) mg "hear" My.zfx ["run","caller","word"]:=by rfl';exact fun _ _ _ _ _ _=>My.e3 fun _ _ _=>rfl
  have u7:L2.Df (L2.KOf KX) mg "lose" My.zhB ["run","number"]:=by rfl';exact fun _ _ _ _ _ _=>My.e2 fun _ _=>rfl
  have ut:L2.Df (L2.KOf KX) mg "take_coin" My.zdk ["run","purse"]:=by rfl';exact fun _ _ _ _ _ _=>My.e2 fun _ _=>rfl
  have us:L2.Df (L2.KOf KX) mg "try_again" My.zdj ["run","number"]:=by rfl';exact fun _ _ _ _ _ _=>My.e2 fun _ _=>rfl
  have u5:L2.Df (L2.KOf KX) mg "go_up" My.zf4 ["run","number"]:=by rfl';exact fun _ _ _ _ _ _=>My.e2 fun _ _=>rfl
  have uC:L2.Df (L2.KOf KX) mg "let_come" My.zdN ["run","event"]:=by rfl';exact fun _ _ _ _ _ _=>My.e2 fun _ _=>rfl
  have uR:L2.Df (L2.KOf KX) mg "run_of" My.zfa ["net","events"]:=by rfl';exact fun _ _ _ _ _ _=>My.e2 fun _ _=>rfl
  have uJ:L2.Df (L2.KOf KX) mg "may_come" My.zdM ["net","events"]:=by rfl';exact fun _ _ _ _ _ _=>My.e2 fun _ _=>rfl
  have u0:mg "range" = none:=by refine' PySem.W.mg_none_of KX G ?z59;k_is
  have vf:mg "len" = none:=by refine' PySem.W.mg_none_of KX G ?z60;k_is
  have vb:mg "min" = none:=by refine' PySem.W.mg_none_of KX G ?z61;k_is
  have vc:mg "int" = none:=by refine' PySem.W.mg_none_of KX G ?z62;k_is
  have u2:mg "tuple" = none:=by refine' PySem.W.mg_none_of KX G ?z63;k_is
  have vd:mg "max" = none:=by refine' PySem.W.mg_none_of KX G ?z64;k_is
  have un:mg "isinstance" = none:=by refine' PySem.W.mg_none_of KX G ?z65;k_is
  have u9:mg "bool" = none:=by refine' PySem.W.mg_none_of KX G ?z66;k_is
  have va:mg "list" = none:=by refine' PySem.W.mg_none_of KX G ?z67;k_is
  have u4:∃ a,mg "FRESH" = some (.ref a)/\FT.KTu (L2.KOf KX) a [.str "fresh"]:=by
   dsimp only [L2.KOf]
   refine' ⟨_,PySem.W.mg_of KX G ?z68,FT.zph ?y68⟩
   (case z68=>k_is);(case y68=>k_is)
  have L:=by
   refine' L2.zpf (st:=My.zjG) KX G ?la ?ll ?lc ?lk ?lb
   (case la=>k_is);(case ll=>k_is);(case lc=>k_is);(case lk=>k_is)
   exact fun _ _ _ _ _ _ s u=>.of_eq rfl
  obtain ⟨f,fd,F,g,hb⟩:=L
  have e:=hmg.symm.trans g
  cases e
  have T:My.Txt (L2.KOf KX) mg (FT.yR (L2.KOf KX) "Errand") (FT.yR (L2.KOf KX) "Run"):=⟨uF,u1,ue,uc,ui,ub,uh,ug,uy,uk,uI,uf,uz,uq,u0,vf,vb,vc,u2,vd,un,u9,va,u4⟩
  refine ⟨fd,hb,fun base _ _=>?_⟩
  have zy:=My.zy (P:=My.pg) (w:=w) (base:=base) uT T
  have zbI:=My.zbI uP T zy
  have zc3:=My.zc3 uU T zy
  have zdF:=My.zdF uW T zbI zy zc3
  have zap:=My.zap (P:=My.pg) (w:=w) (base:=base) uQ T
  have zbK:=My.zbK (P:=My.pg) (w:=w) (base:=base) uX T
  have zcu:=My.zcu (P:=My.pg) (w:=w) (base:=base) uK T
  have z9:=My.z9 u3 T zcu
  replace z9:=FT.CalT.refine z9 (FT.zji _) (FT.zjj _)
  have zaq:=My.zaq (P:=My.pg) (w:=w) (base:=base) uO T
  have zar:=My.zar (P:=My.pg) (w:=w) (base:=base) uM T
  have zas:=My.zas uL T zaq zar
  have zbJ:=My.zbJ uZ T zaq zas zar
  have zcP:=My.zcP uY T zbJ
  have zct:=My.zct u6 T zas zcP zbJ
  have za0:=My.za0 (P:=My.pg) (w:=w) (base:=base) uS T
  have zbY:=My.zbY uH T zap zbK z9 zct za0 zy
  have zfB:=My.zfB (P:=My.pg) (w:=w) (base:=base) ve T
  have yq:=My.yq (P:=My.pg) (w:=w) (base:=base) uN T
  have zaB:=My.zaB ul T yq
  have z7:=My.z7 ud T yq
  have qK:=My.qK ua T zaB z7
  replace qK:=FT.CalT.refine qK (FT.zji _) (FT.zjj _)
  have qY:=My.qY (P:=My.pg) (w:=w) (base:=base) uw T
  have yI:=My.yI uD T qY
  have za1:=My.za1 (P:=My.pg) (w:=w) (base:=base) up T
  have zaZ:=My.zaZ ur T za1
  have zb0:=My.zb0 uE T yI yq zaZ
  have zZ:=My.zZ uu T qK zb0
  have zbZ:=My.zbZ (P:=My.pg) (w:=w) (base:=base) uG T
  have zbt:=My.zbt ux T zbZ
  have zb1:=My.zb1 uA T zZ zbt
  have zaC:=My.zaC um T zb1
  have zab:=My.zab uB T qY
  have zaR:=My.zaR (P:=My.pg) (w:=w) (base:=base) uV T
  have zI:=My.zI uv uj T yI yq zab zaR 12
  have yH:=zI.1
  have qR:=zI.2
  have qU:=My.qU uo u8 T yq yH 12
  have zM:=qU.1
  have zc4:=qU.2
  have zeC:=My.zeC u7 T zc4
  have zbs:=My.zbs (P:=My.pg) (w:=w) (base:=base) ut T
  have zbr:=My.zbr us T yI yH zbs yq
  have zdG:=My.zdG u5 T zM yq
  have zbX:=My.zbX uC T qR zM zeC zbr zdG
  have zc2:=My.zc2 uR T zfB zaC zbX
  have zay:=My.zay uJ T zc2 zZ
  exact My.zo4 F T zdF zbY zay zap zbK z9 zct za0
 case S=>
  intro K H a ns hl _ hS
  obtain ⟨M,h⟩:=My.law_true (FT.yR K "Errand") (FT.yR K "Run") ns hl
  exact FT.znw hS h
 case C=>exact fun _ _ _ _ z=>z
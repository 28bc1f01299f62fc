import PyProof.Rows.All
import Wide.All
import OpenK.AllK
import Wide.FinOn
import Lean
import PyProof.EqAt
import PyProof.EqKinds
import PyProof.TupleCall
import PyProof.NeKinds
import PyProof.SumAny
import KE.KDictList
import KE.KDictOf
import PyProof.AttrMissHeap
import PyProof.Conv_int_bool
import PyProof.TupleOfStr
import PyProof.CollectIter
import PyProof.ListRange
import PyProof.DictWalks
import PyProof.ConsumeS
import PyProof.WalkInts
import PyProof.Draws
import PyProof.EnumFor
import PyProof.EnumStmt
import KE.KDictLaws
import KE.KRevIter
import KE.KDictSum
import PyProof.SeqRoads2
import PyProof.EqAt
import PyProof.EnumMake
import PyProof.ZipIter
import PyProof.InstStore
import PyProof.InstStoreFacts
import PyProof.ExcInit
import PyProof.ExcClass2
import PyProof.NsDelKeeps
import PyProof.ExcArgsOwn
import PyProof.Rows.SetFrom
import PyProof.SetRoads
import KE.IntTextText
import KE.KIntText
import PyProof.StrBlock2
import PyProof.FString5
import PyProof.CallStr
import PyProof.StrWalks
import PyProof.StrCalls
import PyProof.StrCalls2
import PyProof.SliceStr2
import PyProof.StrBlockI
import PyProof.Rows.StrJoin2
import PyProof.CallRoads3
import PyProof.TupleKey
import KE.KIsAll
import PyProof.Rows.Range3
import PyProof.AutoListH
import PyProof.Rows.SortShell
import PySem.Challenge.RW_tryweir_k56_peaks
open PySem.W (Frag)
open List (mem_range mem_cons_self mem_cons_of_mem mem_cons mem_append mem_append_left mem_append_right append_nil nodup_cons of_mem_zip length_take getElem?_append_right getElem?_append_left getElem?_map mem_of_getElem? length_append length_map size_toArray length_drop all_cons any_cons replicate_succ flatten_cons append_assoc map_nil map_cons find?_cons length_cons length_nil lookup_cons all_eq_true getElem_of_mem getElem_mem nil_append mem_singleton getElem?_set getElem?_take getElem?_drop drop_eq_getElem_cons drop_eq_nil_of_le getElem?_eq_getElem mem_map getElem?_range getElem_toArray map_append map_take mem_of_mem_take mem_of_mem_drop extract_eq_take_drop take_of_length_le take_append_drop drop_drop take_take drop_take reverse_append map_map take_succ sum_cons map_congr_left)
set_option Elab.async false
set_option linter.all false
set_option maxRecDepth 100000
local macro_rules | `(tactic| ac_rfl) => `(tactic| exact ⟨rfl, rfl, rfl, by decide +kernel, rfl, by decide +kernel, by decide +kernel⟩)
abbrev Q0:=@List.getElem?_eq_getElem
abbrev Q1:=@PySem.wpAny_bind
abbrev Q2:=@PySem.Heap.get?_push_of_some
abbrev Q3:=@Nat.le_refl
abbrev Q4:=@Bool.false_ne_true
abbrev Q5:=@Nat.lt_of_lt_of_le
abbrev Q6:=@List.getElem?_append_left
abbrev Q7:=@List.getElem?_append_right
abbrev Q8:=@Int.fmod_eq_emod_of_nonneg
abbrev Q9:=@List.mem_of_getElem?
abbrev Qa:=@List.getElem?_map
abbrev Qb:=@List.getElem?_set
abbrev Qc:=@Option.some.inj
abbrev Qd:=@PySem.Heap.lt_size
abbrev Qe:=@PySem.wpAny_pure
abbrev Qf:=@PySem.wpAny_mono
abbrev Qg:=@List.length_map
abbrev Qh:=@List.size_toArray
abbrev Qi:=@Nat.le_trans
abbrev Qj:=@Nat.ne_of_lt
abbrev Qk:=@PySem.Heap.get?_push_size
abbrev Ql:=@List.mem_append_right
abbrev Qm:=@List.length_append
abbrev Qn:=@Nat.lt_irrefl
abbrev Qo:=@List.length_cons
abbrev Qp:=@List.length_take
abbrev Qq:=@Bool.and_eq_true
abbrev Qr:=@PySem.wpAny_newObj_type
abbrev Qs:=@decide_eq_true
abbrev Qt:=@decide_eq_false
namespace My
open PySem
noncomputable def zlV:Stmt->Bool
 | .Assign [.Name x _] _ _=>!(x == "__name__")
 | _=>true
noncomputable abbrev pg:Program:=PySem.Challenge.rw_tryweir_k56_peaks.prog
noncomputable def vw:Program:={ pg with main:={ pg.main with body:=pg.main.body.filter zlV } }
end My
section
open PySem PySem.W PyProof.Rows in
local macro_rules | `(tactic| o_head $H) => `(tactic| refine holds_open (q := My.vw) (loose := []) (Xt := fun s => xlAt My.vw [] s && recOk (RowW.records (OpenRow.toRowW (OpenLaw.row PySem.Challenge.rw_tryweir_k56_peaks))) s) (XP := XL My.vw []) (Yf := Hook.obs $H) (Ya := Hook.val $H) (YP := Hook.says $H) (N := 40000) (by intro w; kernel_rfl) (Hook.of $H) (Hook.keeps $H) (fun s e => xl_of s (Bool.and_eq_true_iff.mp e).1) XL.keeps (by rfl) (by rfl) (by rfl) (fun s e => recFacts_of (Bool.and_eq_true_iff.mp e).2) (by rfl) (by first | assumption | decide +kernel) (by decide +kernel) ⟨rfl, rfl, rfl, rfl, rfl, by decide +kernel⟩ ?hw ?hc)
open PySem PySem.W PyProof.Rows in
set_option maxHeartbeats 0 in
noncomputable def My.hdD:Σ' P:Prop,P->PySem.Challenge.rw_tryweir_k56_peaks.Holds:=by
 refine ⟨?P,fun hc=>?_⟩
 rotate_left
 ·w_on;o_law;k_head;(case hw=>w_witness2)
  exact hc
end
namespace L2
open PySem PySem.Spec PyProof.Rows
noncomputable abbrev Key:=Sum Int Str
noncomputable def zaQ:Key->Value->Bool
 | .inl k,v=>Value.isInt k v
 | .inr x,v=>Value.isStrOf x v
noncomputable def zlT (w:World):Key->Int
 | .inl k=>hashInt k
 | .inr x=>hashStr w x
theorem qo:∀ {k:Key} {v:Value},zaQ k v = true->(∃ i t,k = Sum.inl i/\v = Value.int i t)\/(∃ x t,k = Sum.inr x/\v = Value.str x t)
 | .inl i,v,h=>by
  obtain ⟨t,e⟩:=Value.isInt_shape (k:=i) (v:=v) h
  exact .inl ⟨i,t,rfl,e⟩
 | .inr x,v,h=>by
  obtain ⟨t,e⟩:=Value.isStrOf_shape (x:=x) (v:=v) h
  exact .inr ⟨x,t,rfl,e⟩
theorem zgC (i:Int) (t:Tok):zaQ (.inl i) (.int i t) = true:=by simp [zaQ,Value.isInt]
theorem zgB (x:Str) (t:Tok):zaQ (.inr x) (.str x t) = true:=by simp [zaQ,Value.isStrOf]
theorem zj9 (a b:Int):decide ((Sum.inl a:Key) = Sum.inl b) = (a == b):=by
 by_cases e:a = b
 ·subst e;simp
 ·have h:¬ (Sum.inl a:Key) = Sum.inl b:=fun q=>e (Sum.inl.inj q)
  rw [Qt h]
  exact (beq_eq_false_iff_ne.mpr e).symm
theorem zj6 (a b:Str):decide ((Sum.inr a:Key) = Sum.inr b) = decide (a = b):=by
 by_cases e:a = b
 ·subst e;simp
 ·have h:¬ (Sum.inr a:Key) = Sum.inr b:=fun q=>e (Sum.inr.inj q)
  rw [Qt h,Qt e]
theorem zj8 (a:Int) (b:Str):decide ((Sum.inl a:Key) = Sum.inr b) = false:=Qt (fun q=>nomatch q)
theorem zj7 (a:Str) (b:Int):decide ((Sum.inr a:Key) = Sum.inl b) = false:=Qt (fun q=>nomatch q)
noncomputable def yo (prog:Program) (w:World):PySem.KeyKind prog w Key where
 is:=zaQ
 hash:=zlT w
 inj:=fun v a b ha hb=>by
  rcases qo ha with ⟨i,t,rfl,rfl⟩ | ⟨x,t,rfl,rfl⟩
  ·rcases qo hb with ⟨j,u,rfl,e⟩ | ⟨y,u,rfl,e⟩
   ·injection e with e1 _;rw [e1]
   ·exact nomatch e
  ·rcases qo hb with ⟨j,u,rfl,e⟩ | ⟨y,u,rfl,e⟩
   ·exact nomatch e
   ·injection e with e1 _;rw [e1]
 byValue:=fun k v h=>by
  rcases qo h with ⟨i,t,rfl,rfl⟩ | ⟨x,t,rfl,rfl⟩ <;> rfl
 pyHash:=fun hv h=>by
  rcases qo hv with ⟨i,t,rfl,rfl⟩ | ⟨x,t,rfl,rfl⟩
  ·exact wpAny_pyHash_int h
  ·exact wpAny_pyHash_str h
 eqBool:=fun hu hv h=>by
  rcases qo hu with ⟨i,t,rfl,rfl⟩ | ⟨x,t,rfl,rfl⟩
  ·rcases qo hv with ⟨j,u,rfl,rfl⟩ | ⟨y,u,rfl,rfl⟩
   ·rw [zj9] at h;exact wpAny_eqBool_int h
   ·rw [zj8] at h;exact SeqAt.EqAt.int_str i t y u _ _ _ _ h
  ·rcases qo hv with ⟨j,u,rfl,rfl⟩ | ⟨y,u,rfl,rfl⟩
   ·rw [zj7] at h;exact SeqAt.EqAt.str_int x t j u _ _ _ _ h
   ·rw [zj6] at h;exact wpAny_eqBool_str h
 «strs»:=fun k x t v h=>by
  rcases qo h with ⟨i,u,rfl,e⟩ | ⟨y,u,rfl,e⟩
  ·exact nomatch e
  ·injection e with e1 _
   subst e1
   cases v <;> rfl
theorem zeG (prog:Program) (w:World) (i:Int) (t:Tok):(yo prog w).is (.inl i) (.int i t) = true:=zgC i t
theorem zeF (prog:Program) (w:World) (x:Str) (t:Tok):(yo prog w).is (.inr x) (.str x t) = true:=zgB x t
inductive V where
 | non | bl (b:Bool) | int (i:Int) | str (x:Str) | byt (b:Array UInt8) | flt (b:UInt64) | ref (a:Addr) | ty (n:String)
 deriving DecidableEq
noncomputable def RelV:V->Value->Prop
 | .non,u=>u = Value.none
 | .bl b,u=>u = Value.bool b
 | .int i,u=>∃ t,u = Value.int i t
 | .str x,u=>∃ t,u = Value.str x t
 | .byt b,u=>∃ t,u = Value.bytes b t
 | .flt b,u=>∃ t,u = Value.float b t
 | .ref a,u=>u = Value.ref a
 | .ty n,u=>u = Value.type n
noncomputable abbrev Vals:List V->List Value->Prop:=Paired RelV
variable {xs:List V} {us:List Value}
theorem Vals.length (r:Vals xs us):xs.length = us.length:=Paired.length r
theorem Vals.get:∀ {xs:List V} {us:List Value} {i:Nat} {x:V},Vals xs us->xs[i]? = some x->∃ u,us[i]? = some u/\RelV x u
 | _,_,_,_,.nil,e=>by simp at e
 | _,_,0,_,.cons r _,e=>by simp at e;subst e;exact ⟨_,rfl,r⟩
 | _,_,i + 1,x,.cons _ t,e=>by
  obtain ⟨u,h1,h2⟩:=Vals.get (i:=i) (x:=x) t (by simpa using e)
  exact ⟨u,by simpa using h1,h2⟩
theorem Vals.set {x:V} {u:Value} (r:RelV x u):∀ {xs:List V} {us:List Value} (i:Nat),Vals xs us->Vals (xs.set i x) (us.set i u)
 | _,_,_,.nil=>.nil
 | _,_,0,.cons _ t=>.cons r t
 | _,_,i + 1,.cons q t=>.cons q (Vals.set r i t)
theorem Vals.append:∀ {xs ys:List V} {us ws:List Value},Vals xs us->Vals ys ws->Vals (xs ++ ys) (us ++ ws)
 | _,_,_,_,.nil,s=>s
 | _,_,_,_,.cons r t,s=>.cons r (Vals.append t s)
theorem Vals.take:∀ {xs:List V} {us:List Value} (n:Nat),Vals xs us->Vals (xs.take n) (us.take n)
 | _,_,0,_=>.nil
 | _,_,_ + 1,.nil=>.nil
 | _,_,n + 1,.cons r t=>.cons r (Vals.take n t)
theorem Vals.drop:∀ {xs:List V} {us:List Value} (n:Nat),Vals xs us->Vals (xs.drop n) (us.drop n)
 | _,_,0,r=>r
 | _,_,_ + 1,.nil=>.nil
 | _,_,n + 1,.cons _ t=>Vals.drop n t
theorem Vals.none_of:∀ {xs:List V} {us:List Value} {i:Nat},Vals xs us->xs[i]? = none->us[i]? = none:=fun {xs us i} r e=>by
 have h1:=r.length
 have h2:xs.length<=i:=List.getElem?_eq_none_iff.mp e
 exact List.getElem?_eq_none_iff.mpr (by omega)
noncomputable def RelO:Option V->Option Value->Prop
 | some v,some u=>RelV v u
 | none,none=>True
 | _,_=>False
noncomputable def KV {κ:Type}:List (κ × V)->List (κ × Value)->Prop:=Paired fun (p:κ × V) (q:κ × Value)=>p.1 = q.1/\RelV p.2 q.2
noncomputable def kV:Key->V
 | .inl i=>.int i
 | .inr x=>.str x
inductive HO where
 | lst (xs:List V)
 | tup (xs:List V)
 | dK (kvs:List (Key × V)) | dT (kvs:List (List Key × V))
 | set (S:Int->Bool) (n:Nat)
 | ins (C dx:Addr) (fs:List (Str × V))
 | own (x:Addr)
 | xd (fs:List (Str × V))
 | met (f x:Addr)
 | rng (lo hi:Int)
 | frz (o:Obj) (u:HO)
 | tbl (ps:Array Value)
 | ext (φ:Heap->Prop)
noncomputable abbrev Hp:=Addr->Option HO
noncomputable def upd (H:Hp) (a:Addr) (o:HO):Hp:=fun b=>if b = a then some o else H b
variable {o:HO} {H:Hp}
theorem zn {a:Addr} :upd H a o a = some o:=by unfold upd;rw [if_pos rfl]
theorem qe {a b:Addr} (h:b ≠ a):upd H a o b = H b:=by unfold upd;rw [if_neg h]
theorem zbx {a b:Addr} {u:HO} (h:H a = some o) (h':H b = some u) (d:o ≠ u):a ≠ b:=by
 intro e;subst e;rw [h] at h';exact d (Qc h')
theorem zi {a b:Addr} (h:H a = some o) (h':H b = none):a ≠ b:=by
 intro e;subst e;rw [h] at h';cases h'
def NoDict (h:Heap) (a:Addr):Prop:=∀ o,h.get? a = some o->o.dict = none
variable {h:Heap} {n:Nat}
theorem NoDict.new {its:Array Value} {n:Nat}:NoDict (h.push { cls:=.type "tuple",data:=.seq its n }) h.objs.size:=fun o e=>by
 rw [Qk _ rfl] at e;cases e;rfl
section
variable (P:Program) (w:World)
noncomputable def ObjOk (H:Hp) (h:Heap) (a:Addr):HO->Prop
 | .lst xs=>xs.length<=sizeLine/\∃ (its:List Value) (n:Nat),Vals xs its/\h.get? a = some { cls:=.type "list",data:=.seq its.toArray n }
 | .tup xs=>xs.length<=sizeLine/\∃ its:List Value,Vals xs its/\IsTup h a its.toArray/\NoDict h a
 | .dK kvs=>kvs.length<=sizeLine/\(a == sysModules) = false/\∃ vs,KV kvs vs/\h.DictOf (yo P w) a vs
 | .dT kvs=>kvs.length<=sizeLine/\(a == sysModules) = false/\∃ xs:List (List Key × Addr × Value),
   Paired (fun (p:List Key × V) (q:List Key × Addr × Value)=>p.1 = q.1/\H q.2.1 = some (.tup (p.1.map kV))/\RelV p.2 q.2.2) kvs xs /\
   ∃ o es ep,h.get? a = some o/\o.ExactDict/\o.data = .dict es ep/\es.toList = xs.map (entryOfKey (tupleKind (yo P w)))/\(xs.map (·.1)).Nodup
 | .set S n=>h.SetOf (intKind P w) a S n
 | .ins C dx fs=>H dx = some (.own a)/\fs.length<=1000/\dx ≠ a/\h.get? a = some (PySem.W.instObj C dx) /\
   ∃ mA,h.Ns1 dx mA/\(∀ f,RelO (fs.lookup f) (mA f))/\PySem.Within mA (fs.map (·.1))
 | .own _=>∃ o,h.get? a = some o
 | .xd fs=>∃ mA,h.Ns1 a mA/\∀ f,RelO (fs.lookup f) (mA f)
 | .rng lo hi=>∃ t u v,h.get? a = some { cls:=.type "range",data:=.fields #[.int lo t,.int hi u,.int 1 v] }
 | .frz o u=>h.get? a = some o/\ObjOk H h a u
 | .tbl ps=>h.get? a = some { cls:=.none,data:=.fields ps }
 | .met f x=>h.get? a = some (PySem.W.methodObj (.ref f) (.ref x))
 | .ext φ=>φ h/\(∃ o,h.get? a = some o)/\∀ h1 h2:Heap,φ h1->(∀ o,h1.get? a = some o->h2.get? a = some o)->φ h2
def HOk (H:Hp) (h:Heap):Prop:=∀ a o,H a = some o->ObjOk P w H h a o
end
variable {h':Heap} {H':Hp} {P:Program} {w:World}
section
variable {a:Addr}
theorem ObjOk.lt (x:ObjOk P w H h a o):a < h.objs.size:=by
 cases o with
 | lst xs=>obtain ⟨_,_,_,_,e⟩:=x;exact Qd e
 | tup xs=>obtain ⟨_,_,_,p,_⟩:=x;exact p.lt
 | dK kvs=>obtain ⟨_,_,_,_,o,_,_,e,_⟩:=x;exact Qd e
 | dT kvs=>obtain ⟨_,_,_,_,o,_,_,e,_⟩:=x;exact Qd e
 | set S n=>obtain ⟨o,_,_,_,e,_⟩:=x;exact Qd e
 | ins C dx fs=>obtain ⟨_,_,_,e,_⟩:=x;exact Qd e
 | own y=>obtain ⟨_,e⟩:=x;exact Qd e
 | xd fs=>obtain ⟨_,⟨_,_,_,e,_⟩,_⟩:=x;exact Qd e
 | rng lo hi=>obtain ⟨_,_,_,e⟩:=x;exact Qd e
 | frz ob u=>obtain ⟨e,_⟩:=x;exact Qd e
 | tbl ps=>exact Qd (show h.get? a = some _ from x)
 | met f y=>exact Qd (show h.get? a = some _ from x)
 | ext φ=>obtain ⟨_,⟨_,e⟩,_⟩:=x;exact Qd e
theorem Paired.mapP {α β:Type} {F G:α->β->Prop}:∀ {l₁:List α} {l₂:List β},Paired F l₁ l₂->(∀ a b,F a b->G a b)->Paired G l₁ l₂
 | _,_,.nil,_=>.nil
 | _,_,.cons r t,f=>.cons (f _ _ r) (Paired.mapP t f)
theorem ObjOk.stay (x:ObjOk P w H h a o) (k:∀ b u,(b = a\/H b = some (.own a))->h.get? b = some u->h'.get? b = some u)
  (ho:∀ b,H b = some (.own a)->H' b = some (.own a)) (ht:∀ b xs,H b = some (.tup xs)->H' b = some (.tup xs)):ObjOk P w H' h' a o:=by
 induction o with
 | lst xs=>obtain ⟨z,its,n,r,e⟩:=x;exact ⟨z,its,n,r,k _ _ (.inl rfl) e⟩
 | tup xs=>obtain ⟨z,its,r,⟨ob,e,c⟩,nd⟩:=x;exact ⟨z,its,r,⟨ob,k _ _ (.inl rfl) e,c⟩,fun o q=>nd o (by rw [k _ _ (.inl rfl) e] at q;rw [e];exact q)⟩
 | dK kvs=>obtain ⟨z,y,vs,r,ob,es,ep,e,c⟩:=x;exact ⟨z,y,vs,r,ob,es,ep,k _ _ (.inl rfl) e,c⟩
 | dT kvs=>
  obtain ⟨z,y,xs,r,ob,es,ep,e,c⟩:=x
  exact ⟨z,y,xs,Paired.mapP r fun p q z=>⟨z.1,ht _ _ z.2.1,z.2.2⟩,ob,es,ep,k _ _ (.inl rfl) e,c⟩
 | set S n=>obtain ⟨ob,es,ep,t,e,c⟩:=x;exact ⟨ob,es,ep,t,k _ _ (.inl rfl) e,c⟩
 | ins C dx fs=>
  obtain ⟨d,z,ne,e,mA,⟨od,es,ep,e2,c⟩,r⟩:=x
  exact ⟨ho _ d,z,ne,k _ _ (.inl rfl) e,mA,⟨od,es,ep,k _ _ (.inr d) e2,c⟩,r⟩
 | own y=>obtain ⟨ob,e⟩:=x;exact ⟨ob,k _ _ (.inl rfl) e⟩
 | xd fs=>obtain ⟨mA,⟨od,es,ep,e,c⟩,r⟩:=x;exact ⟨mA,⟨od,es,ep,k _ _ (.inl rfl) e,c⟩,r⟩
 | rng lo hi=>obtain ⟨t,u,v,e⟩:=x;exact ⟨t,u,v,k _ _ (.inl rfl) e⟩
 | frz ob u ih=>obtain ⟨e,q⟩:=x;exact ⟨k _ _ (.inl rfl) e,ih q⟩
 | tbl ps=>
  have e:h.get? a = some { cls:=.none,data:=.fields ps }:=x
  show h'.get? a = some { cls:=.none,data:=.fields ps }
  exact k a _ (.inl rfl) e
 | met f y=>
  have e:h.get? a = some (PySem.W.methodObj (.ref f) (.ref y)):=x
  show h'.get? a = some (PySem.W.methodObj (.ref f) (.ref y))
  exact k a _ (.inl rfl) e
 | ext φ=>obtain ⟨p,⟨o,e⟩,st⟩:=x;exact ⟨st _ _ p fun o q=>k _ _ (.inl rfl) q,⟨o,k _ _ (.inl rfl) e⟩,st⟩
theorem HOk.lt (x:HOk P w H h) (e:H a = some o):a < h.objs.size:=(x a o e).lt
theorem HOk.fresh (x:HOk P w H h) (e:h.objs.size<=a):H a = none:=by
 cases q:H a with
 | none=>rfl
 | some u=>exact absurd (Q5 (x.lt q) e) (Qn _)
theorem HOk.kept (x:HOk P w H h) (k:∀ b u,h.get? b = some u->h'.get? b = some u):HOk P w H h':=fun a o e=>
 (x a o e).stay (fun b u _ q=>k b u q) (fun _ q=>q) fun _ _ q=>q
theorem HOk.laid (x:HOk P w H h) (k:∀ b u,h.get? b = some u->h'.get? b = some u) (hp:h.objs.size<=a) (new:ObjOk P w (upd H a o) h' a o):HOk P w (upd H a o) h':=fun b u e=>by
 have hn:=x.fresh hp
 by_cases hb:b = a
 ·subst hb;rw [zn] at e;cases e;exact new
 ·rw [qe hb] at e
  exact (x b u e).stay (fun c v _ q=>k c v q) (fun c q=>by rw [qe (zi q hn)];exact q) fun c xs q=>by rw [qe (zi q hn)];exact q
end
def Rd (H:Hp) (a:Addr) (u:HO):Prop:=H a = some u\/∃ o,H a = some (.frz o u)
theorem Rd.ok {a:Addr} {u:HO} (r:Rd H a u) (x:HOk P w H h):ObjOk P w H h a u:=by
 rcases r with r | ⟨o,r⟩
 ·exact x a u r
 ·obtain ⟨_,q⟩:=x a _ r
  exact q
noncomputable def Mut:Option HO->Prop
 | some (.lst _)=>True
 | some (.dK _)=>True
 | some (.dT _)=>True
 | some (.set _ _)=>True
 | some (.ins _ _ _)=>True
 | some (.ext _)=>True
 | _=>False
section
variable {x e:Addr} {o':HO}
theorem HOk.write (ok:HOk P w H h) (mu:Mut (H x)) (he:e = x\/H e = some (.own x)) (k:∀ b u,b ≠ e->h.get? b = some u->h'.get? b = some u) (heo:∃ u,h'.get? e = some u)
  (new:ObjOk P w (upd H x o') h' x o'):HOk P w (upd H x o') h':=fun b u q=>by
 have nown:∀ c y,H c = some (.own y)->c ≠ x:=fun c y r z=>by subst z;rw [r] at mu;exact mu
 have ntup:∀ c xs,H c = some (.tup xs)->c ≠ x:=fun c xs r z=>by subst z;rw [r] at mu;exact mu
 by_cases hb:b = x
 ·subst hb;rw [zn] at q;cases q;exact new
 ·rw [qe hb] at q
  by_cases hbe:b = e
  ·have q':H b = some (.own x):=by
    rcases he with z | z
    ·exact absurd (hbe.trans z) hb
    ·rw [hbe];exact z
   rw [q] at q';cases q'
   obtain ⟨v,hv⟩:=heo
   exact ⟨v,by rw [hbe];exact hv⟩
  ·refine (ok b u q).stay (fun c v hc r=>k c v ?_ r) (fun c r=>by rw [qe (nown c b r)];exact r) fun c xs r=>by rw [qe (ntup c xs r)];exact r
   rcases hc with rfl | hc
   ·exact hbe
   ·rintro rfl
    rcases he with z | z
    ·exact nown c b hc z
    ·rw [hc] at z;cases z;exact hb rfl
end
structure Un (fs ex:List Addr) (H H':Hp) (h h':Heap):Prop where
 keep:∀ b o,h.get? b = some o->H b = none->b ∉ fs->b ∉ ex->h'.get? b = some o
 slot:∀ b o,h.get? b = some o->H b = none->b ∈ fs->b ∉ ex->∃ sl,h'.get? b = some { o with slots:=sl }
 free:∀ b o,h.get? b = some o->H b = none->b ∉ ex->H' b = none
 there:∀ b o,h.get? b = some o->b ∉ ex->∃ o',h'.get? b = some o'
 tups:∀ b xs,H b = some (.tup xs)->H' b = some (.tup xs)
 frzs:∀ b o u,H b = some (.frz o u)->H' b = some (.frz o u)
 tbls:∀ b ps,H b = some (.tbl ps)->∃ more,H' b = some (.tbl (ps ++ more))
section
variable {fs fs' ex ex':List Addr} {H1 H2:Hp} {h1 h2:Heap} {a x e:Addr}
theorem Un.any (u:Un fs ex H H1 h h1) {b:Addr} {ob:Obj} (q:h.get? b = some ob) (n:H b = none) (hx:b ∉ ex):∃ sl,h1.get? b = some { ob with slots:=sl }:=by
 by_cases hb:b ∈ fs
 ·exact u.slot b ob q n hb hx
 ·exact ⟨ob.slots,u.keep b ob q n hb hx⟩
theorem Un.kept (k:∀ b u,h.get? b = some u->h'.get? b = some u):Un fs ex H H h h':=
 ⟨fun b ob q _ _ _=>k b ob q,fun b ob q _ _ _=>⟨ob.slots,k b ob q⟩,fun _ _ _ n _=>n,fun b ob q _=>⟨ob,k b ob q⟩,fun _ _ q=>q,fun _ _ _ q=>q,fun _ ps q=>⟨#[],by rw [q];simp⟩⟩
theorem Un.refl:Un fs ex H H h h:=Un.kept fun _ _ q=>q
theorem Un.laid (k:∀ b u,h.get? b = some u->h'.get? b = some u) (hp:h.objs.size<=a) (hn:H a = none):Un fs ex H (upd H a o) h h' where
 keep:=fun b u q _ _ _=>k b u q
 slot:=fun b u q _ _ _=>⟨u.slots,k b u q⟩
 free:=fun b u q n _=>by rw [qe (Qj (Q5 (Qd q) hp))];exact n
 there:=fun b u q _=>⟨u,k b u q⟩
 tups:=fun b xs q=>by rw [qe (zi q hn)];exact q
 frzs:=fun b u xs q=>by rw [qe (zi q hn)];exact q
 tbls:=fun b ps q=>⟨#[],by rw [qe (zi q hn),q];simp⟩
theorem Un.write (mu:Mut (H x)) (he:e = x\/H e = some (.own x)) (k:∀ b u,b ≠ e->h.get? b = some u->h'.get? b = some u) (heo:∃ u,h'.get? e = some u):Un fs ex H (upd H x o) h h':=by
 have hx:∀ b,H b = none->b ≠ x:=fun b n z=>by subst z;rw [n] at mu;exact mu
 have hb:∀ b,H b = none->b ≠ e:=fun b n z=>by
  subst z
  rcases he with r | r
  ·exact hx b n r
  ·rw [n] at r;cases r
 have hm:∀ b u,H b = some u->¬ Mut (some u)->b ≠ x:=fun b u q nm z=>by subst z;rw [q] at mu;exact nm mu
 refine ⟨fun b u q n _ _=>k b u (hb b n) q,fun b u q n _ _=>⟨u.slots,k b u (hb b n) q⟩,fun b u q n _=>by rw [qe (hx b n)];exact n,fun b u q _=>?_,
  fun b xs q=>by rw [qe (hm b _ q fun z=>z)];exact q,fun b u xs q=>by rw [qe (hm b _ q fun z=>z)];exact q,fun b ps q=>⟨#[],by rw [qe (hm b _ q fun z=>z),q];simp⟩⟩
 by_cases hbe:b = e
 ·subst hbe;exact heo
 ·exact ⟨u,k b u hbe q⟩
end
noncomputable def trk (h:Heap) (H:Hp):List Addr:=(List.range h.objs.size).filter fun a=>(H a).isSome
noncomputable def zaT (h:Heap) (H:Hp):Heap:=PySem.W.hideAll h (trk h H)
theorem zgE (h:Heap) (H:Hp):(zaT h H).objs.size = h.objs.size:=PySem.W.hideAll_size _ _
theorem zhB {b:Addr} {o:Obj} (e:h.get? b = some o) (n:H b = none):(zaT h H).get? b = some o:=
 PySem.W.hideAll_get _ e fun hm=>by
  have q:(H b).isSome = true:=(List.mem_filter.mp hm).2
  rw [n] at q;simp at q
theorem ziE {b:Addr} {o:Obj} (e:(zaT h H).get? b = some o):h.get? b = some o/\H b = none:=by
 have e':h.get? b = some o:=PySem.W.of_hideAll (trk h H) e
 refine ⟨e',?_⟩
 cases q:H b with
 | none=>rfl
 | some x=>
  have hm:b ∈ trk h H:=List.mem_filter.mpr ⟨mem_range.mpr (Qd e'),by simp [q]⟩
  have z:(zaT h H).get? b = none:=PySem.W.hideAll_none (trk h H) hm
  rw [z] at e;cases e
noncomputable def zjf (g h:Heap) (L:Addr):List (Addr × Obj):=(List.range h.objs.size).filterMap fun a=>if a = L\/(g.get? a).isSome = true then none else (h.get? a).map fun o=>(a,o)
noncomputable def rest (g h:Heap) (L d:Addr):List (Addr × Obj):=(zjf g h L).filter fun p=>decide (p.1 ≠ d)
structure Mod (K:Frag) (mg:Str->Option Value) (base:Heap):Prop where
 kin:K.In base
 glob:base.Ns mainGlobals mg
 blt:∃ mb,base.Ns builtinsNs mb/\∀ x:Str,x ≠ "__name__"->mb x = bootBuiltins x
 nolimit:base.NoLimit
structure Cx where
 prog:Program
 w:World
 K:Frag
 mg:Str->Option Value
 base:Heap
 A:Around
 N:List Str
 s₀:Shared
 H₀:Hp
 env:Env
 outer:List Env
 stack:List Env
 ex:List Addr
 fn:Str->Bool
 calm:Bool
 pn:List (Addr × Obj)
 xe:Value->Shared->Prop
noncomputable def frs (l:List Env):List Addr:=l.filterMap (·.frame)
noncomputable abbrev Cx.fs (X:Cx):List Addr:=frs X.outer
def Vis (sc:Scope) (x:Str):Prop:=sc.names.lookup x = some .local\/sc.names.lookup x = some .cell\/sc.names.lookup x = some .free
def Loc (sc:Scope) (x:Str):Prop:=sc.names.lookup x = some .local\/sc.names.lookup x = some .cell
def Look (env:Env) (h:Heap) (m:Str->Option Value) (x:Str) (u:Value):Prop:=
 (env.kindOf x = some .local/\m x = some u)\/((env.kindOf x = some .cell\/env.kindOf x = some .free)/\∃ c,env.cells.lookup x = some c/\h.IsCell c (some u))
structure Cx.Ok (X:Cx):Prop where
 mod:Mod X.K X.mg X.base
 kind:X.env.scope.kind = .function
 glob:X.env.globals = mainGlobals
 blt:X.env.builtins = builtinsNs
 above:X.s₀.heap.objs.size<=X.env.locals
 inj:∀ x y c,X.env.cells.lookup x = some c->X.env.cells.lookup y = some c->x = y
 has:∀ x,(X.env.kindOf x = some .cell\/X.env.kindOf x = some .free)->∃ c,X.env.cells.lookup x = some c
 cab:∀ x c,X.fn x = true->X.env.cells.lookup x = some c->X.s₀.heap.objs.size<=c
 hd:X.calm = true->X.A.handled = none
 frames:X.A.frames = some X.stack
 stk:X.stack = X.outer\/(X.stack = X.env :: X.outer/\X.env.frame = some X.env.locals)
 exf:∀ b ∈ X.ex,b ≠ X.env.locals/\∀ x c,X.env.cells.lookup x = some c->c ≠ b
 bs:∀ b o,X.base.get? b = some o->X.s₀.heap.get? b = some o/\X.H₀ b = none
 bsz:X.base.objs.size<=X.s₀.heap.objs.size
 noex:∀ b o,X.base.get? b = some o->b ∉ X.ex
 exfs:∀ b ∈ X.ex,b ∉ X.fs
 funs:X.s₀.heap.FunFrames X.base X.outer
 frf:∀ b ∈ X.fs,X.H₀ b = none
structure Inv (X:Cx) (pins:List (Addr × Obj)) (σ:List (Option V)) (H:Hp) (s:Shared):Prop where
 ok:X.Ok
 os:s.os = X.s₀.os
 bare:AllBare s.gens
 base:Un X.fs X.ex X.H₀ H X.s₀.heap s.heap
 loc:∃ m,s.heap.Ns X.env.locals m/\∀ (i:Nat) (x:Str) (v:V),X.N[i]? = some x->σ[i]? = some (some v)->Vis X.env.scope x->∃ u,RelV v u/\Look X.env s.heap m x u
 cell:∀ x c,X.env.cells.lookup x = some c->∃ v,s.heap.IsCell c v
 free:H X.env.locals = none
 freeC:∀ x c,X.env.cells.lookup x = some c->H c = none
 pin:∀ p ∈ X.pn ++ pins,s.heap.get? p.1 = some p.2/\H p.1 = none/\p.1 ≠ X.env.locals/\p.1 ∉ X.fs/\∀ v,p.2.data ≠ .cell v
 hok:HOk X.prog X.w H s.heap
 len:σ.length = X.N.length
variable {it:Addr} {A:Around} {g':Array GenState} {X:Cx} {d':Drawn} {pins:List (Addr × Obj)} {ch:List Addr} {N:List Str} {M:Model} {i j t':Nat} {s s':Shared} {x:Str} {v:V} {u:Value} {E:Value->Shared->Prop}
section
variable {σ:List (Option V)}
theorem Cx.Ok.nofr (ok:X.Ok) {b:Addr} {o:Obj} (e:X.base.get? b = some o):b ∉ X.fs:=fun hb=>by
 have:=(ok.funs.mem hb).1
 rw [e] at this;cases this
theorem Inv.bs (I:Inv X pins σ H s):∀ b o,X.base.get? b = some o->s.heap.get? b = some o/\H b = none:=fun b o e=>
 ⟨I.base.keep b o (I.ok.bs b o e).1 (I.ok.bs b o e).2 (I.ok.nofr e) (I.ok.noex b o e),I.base.free b o (I.ok.bs b o e).1 (I.ok.bs b o e).2 (I.ok.noex b o e)⟩
theorem Inv.bk (I:Inv X pins σ H s):∀ b o,X.base.get? b = some o->s.heap.get? b = some o:=fun b o e=>(I.bs b o e).1
theorem Inv.mod (I:Inv X pins σ H s):Mod X.K X.mg X.base:=I.ok.mod
theorem Inv.kIn (I:Inv X pins σ H s):X.K.In s.heap:=I.ok.mod.kin.keeps I.bk
theorem Inv.fr (I:Inv X pins σ H s):∃ m,Fr X.base X.env.locals s.heap m:=
 let ⟨m,hn,_⟩:=I.loc
 ⟨m,hn,I.bk,Qi I.ok.bsz I.ok.above⟩
theorem Inv.lt (I:Inv X pins σ H s):X.env.locals < s.heap.objs.size:=let ⟨_,hn,_⟩:=I.loc;hn.lt
theorem Inv.sz (I:Inv X pins σ H s):X.s₀.heap.objs.size<=s.heap.objs.size:=Qi I.ok.above (Nat.le_of_lt I.lt)
theorem Inv.nofs (I:Inv X pins σ H s) {a:Addr} (h:s.heap.objs.size<=a):a ∉ X.fs:=fun hb=>by
 obtain ⟨_,o,ho,_⟩:=I.ok.funs.mem hb
 exact absurd (Q5 (Qd ho) (Qi I.sz h)) (Qn _)
theorem Inv.cne (I:Inv X pins σ H s):∀ x c,X.env.cells.lookup x = some c->c ≠ X.env.locals:=fun x c e z=>by
 obtain ⟨v,o,ho,hd⟩:=I.cell x c e
 obtain ⟨m,⟨o',es,ep,ho',hd',_⟩,_⟩:=I.loc
 rw [z,ho'] at ho;cases ho;rw [hd'] at hd;cases hd
theorem Inv.funs (I:Inv X pins σ H s):s.heap.FunFrames X.base X.outer:=by
 have all:∀ (l:List Env),(∀ b ∈ frs l,b ∈ X.fs)->X.s₀.heap.FunFrames X.base l->s.heap.FunFrames X.base l:=by
  intro l
  induction l with
  | nil=>intro _ _;trivial
  | cons env r ih=>
   intro hs hl
   obtain ⟨hk,⟨L,o,hf,hn,ho,hd⟩,hr⟩:=hl
   have hL:L ∈ X.fs:=hs L (by unfold frs;rw [List.filterMap_cons,hf];exact mem_cons_self)
   obtain ⟨sl,e⟩:=I.base.slot L o ho (I.ok.frf L hL) hL fun z=>I.ok.exfs L z hL
   exact ⟨hk,⟨L,_,hf,hn,e,hd⟩,ih (fun b hb=>hs b (by unfold frs;rw [List.filterMap_cons,hf];exact mem_cons_of_mem _ hb)) hr⟩
 exact all X.outer (fun _ hb=>hb) I.ok.funs
theorem Inv.stack (I:Inv X pins σ H s):s.heap.FunFrames X.base X.stack:=by
 rcases I.ok.stk with e | ⟨e,hf⟩
 ·rw [e];exact I.funs
 ·rw [e]
  obtain ⟨m,hn,_⟩:=I.loc
  refine .cons (by rw [I.ok.kind];decide) hf hn ?_ I.funs
  exact Heap.get?_none_of_le (Qi I.ok.bsz I.ok.above)
theorem Inv.stkSub (I:Inv X pins σ H s):∀ b ∈ frs X.stack,b ∈ X.env.locals :: X.fs:=fun b hb=>by
 rcases I.ok.stk with e | ⟨e,hf⟩
 ·rw [e] at hb;exact mem_cons_of_mem _ hb
 ·rw [e] at hb
  unfold frs at hb
  rw [List.filterMap_cons,hf] at hb
  exact hb
theorem Inv.stkFree (I:Inv X pins σ H s):∀ b ∈ frs X.stack,H b = none:=fun b hb=>by
 rcases mem_cons.mp (I.stkSub b hb) with e | hb
 ·rw [e];exact I.free
 ·obtain ⟨_,o,ho,_⟩:=I.ok.funs.mem hb
  exact I.base.free b o ho (I.ok.frf b hb) fun z=>I.ok.exfs b z hb
theorem Inv.step {t':Nat} {d':Drawn} (I:Inv X pins σ H s)
 (hch:∀ b ∈ ch,(b ∈ X.ex\/X.s₀.heap.objs.size<=b)/\b ≠ X.env.locals/\(∀ x c,X.env.cells.lookup x = some c->c ≠ b)/\∀ p ∈ X.pn ++ pins,p.1 ≠ b)
 (keep:∀ b o,b ≠ X.env.locals->b ∉ X.fs->b ∉ ch->s.heap.get? b = some o->H b = none->h'.get? b = some o)
 (slot:∀ b o,b ≠ X.env.locals->b ∈ X.fs->b ∉ ch->s.heap.get? b = some o->H b = none->∃ sl,h'.get? b = some { o with slots:=sl }) (free:∀ b o,b ∉ ch->s.heap.get? b = some o->H b = none->H' b = none)
 (there:∀ b o,b ∉ ch->s.heap.get? b = some o->∃ o',h'.get? b = some o')
 (tups:∀ b xs,H b = some (.tup xs)->H' b = some (.tup xs)) (frzs:∀ b o u,H b = some (.frz o u)->H' b = some (.frz o u)) (tbls:∀ b ps,H b = some (.tbl ps)->∃ more,H' b = some (.tbl (ps ++ more)))
 (ns:∀ m,s.heap.Ns X.env.locals m->h'.Ns X.env.locals m) (hok:HOk X.prog X.w H' h') (hg:AllBare g') :
  Inv X pins σ H' { s with heap:=h',gens:=g',drawn:=d',toks:=t' }:=by
 have neL:∀ b o,X.s₀.heap.get? b = some o->b ≠ X.env.locals:=fun b o e=>Qj (Q5 (Qd e) I.ok.above)
 have neC:∀ b o,X.s₀.heap.get? b = some o->b ∉ X.ex->b ∉ ch:=fun b o e hx hb=>by
  rcases (hch b hb).1 with z | z
  ·exact hx z
  ·exact absurd (Q5 (Qd e) z) (Qn _)
 have cellK:∀ x c,X.env.cells.lookup x = some c->∀ v,s.heap.IsCell c v->h'.IsCell c v:=fun x c e v h9=>by
  obtain ⟨o,ho,hd⟩:=h9
  have nch:c ∉ ch:=fun z=>(hch c z).2.2.1 x c e rfl
  by_cases hc:c ∈ X.fs
  ·obtain ⟨sl,q⟩:=slot c o (I.cne x c e) hc nch ho (I.freeC x c e)
   exact ⟨_,q,hd⟩
  ·exact ⟨o,keep c o (I.cne x c e) hc nch ho (I.freeC x c e),hd⟩
 refine ⟨I.ok,I.os,hg,⟨fun b o e n hb hx=>?_,fun b o e n hb hx=>?_,fun b o e n hx=>?_,fun b o e hx=>?_,fun b xs e=>tups b xs (I.base.tups b xs e),fun b o xs e=>frzs b o xs (I.base.frzs b o xs e),fun b ps e=>?_⟩,?_,fun x c e=>?_,?_,fun x c e=>?_,fun p hp=>?_,hok,I.len⟩
 ·exact keep b o (neL b o e) hb (neC b o e hx) (I.base.keep b o e n hb hx) (I.base.free b o e n hx)
 ·obtain ⟨sl,e1⟩:=I.base.slot b o e n hb hx
  obtain ⟨sl',e2⟩:=slot b _ (neL b o e) hb (neC b o e hx) e1 (I.base.free b o e n hx)
  exact ⟨sl',e2⟩
 ·obtain ⟨o',e1⟩:=I.base.there b o e hx
  exact free b o' (neC b o e hx) e1 (I.base.free b o e n hx)
 ·obtain ⟨o',e1⟩:=I.base.there b o e hx
  exact there b o' (neC b o e hx) e1
 ·obtain ⟨m1,e1⟩:=I.base.tbls b ps e
  obtain ⟨m2,e2⟩:=tbls b _ e1
  exact ⟨m1 ++ m2,by rw [e2,Array.append_assoc]⟩
 ·obtain ⟨m,hn,hl⟩:=I.loc
  refine ⟨m,ns m hn,fun i x v e1 e2 e3=>?_⟩
  obtain ⟨u,r,l⟩:=hl i x v e1 e2 e3
  refine ⟨u,r,?_⟩
  rcases l with l | ⟨k,c,e,z⟩
  ·exact .inl l
  ·exact .inr ⟨k,c,e,cellK x c e _ z⟩
 ·obtain ⟨v,z⟩:=I.cell x c e
  exact ⟨v,cellK x c e v z⟩
 ·obtain ⟨m,⟨o,_,_,ho,_⟩,_⟩:=I.loc
  exact free _ o (fun z=>(hch _ z).2.1 rfl) ho I.free
 ·obtain ⟨v,o,ho,hd⟩:=I.cell x c e
  exact free c o (fun z=>(hch c z).2.2.1 x c e rfl) ho (I.freeC x c e)
 ·obtain ⟨e,n,ne,nf,d⟩:=I.pin p hp
  have nch:p.1 ∉ ch:=fun z=>(hch p.1 z).2.2.2 p hp rfl
  exact ⟨keep p.1 p.2 ne nf nch e n,free p.1 p.2 nch e n,ne,nf,d⟩
theorem Inv.un {t':Nat} (I:Inv X pins σ H s) (u:Un X.fs [] H H' s.heap h') (hok:HOk X.prog X.w H' h'):Inv X pins σ H' { s with heap:=h',toks:=t' }:=by
 obtain ⟨m,⟨o,es,ep,ho,r⟩,_⟩:=id I.loc
 obtain ⟨sl,hL⟩:=u.any ho I.free (by simp)
 exact I.step (g':=s.gens) (d':=s.drawn) (ch:=[]) (fun _ z=>nomatch z) (fun b o _ hb _ e n=>u.keep b o e n hb (by simp)) (fun b o _ hb _ e n=>u.slot b o e n hb (by simp)) (fun b o _ e n=>u.free b o e n (by simp)) (fun b o _ e=>u.there b o e (by simp)) u.tups u.frzs u.tbls (fun m' hm=>by
  obtain ⟨o',es',ep',ho',r'⟩:=hm
  rw [ho] at ho';cases ho'
  exact ⟨_,es',ep',hL,r'⟩) hok I.bare
theorem Inv.call {t':Nat} {d':Drawn} (I:Inv X pins σ H s) (u:Un (frs X.stack) ch H H' s.heap h') (hok:HOk X.prog X.w H' h') (hg:AllBare g')
 (hch:∀ b ∈ ch,(b ∈ X.ex\/X.s₀.heap.objs.size<=b)/\b ≠ X.env.locals/\(∀ x c,X.env.cells.lookup x = some c->c ≠ b)/\∀ p ∈ X.pn ++ pins,p.1 ≠ b) :
  Inv X pins σ H' { s with heap:=h',gens:=g',drawn:=d',toks:=t' }:=by
 obtain ⟨m,⟨o,es,ep,ho,r⟩,_⟩:=id I.loc
 obtain ⟨sl,hL⟩:=u.any ho I.free fun z=>(hch _ z).2.1 rfl
 exact I.step (ch:=ch) hch (fun b o hL hb hc e n=>u.keep b o e n (fun z=>(mem_cons.mp (I.stkSub b z)).elim hL hb) hc) (fun b o _ _ hc e n=>u.any e n hc) (fun b o hc e n=>u.free b o e n hc) (fun b o hc e=>u.there b o e hc) u.tups u.frzs u.tbls (fun m' hm=>by
  obtain ⟨o',es',ep',ho',r'⟩:=hm
  rw [ho] at ho';cases ho'
  exact ⟨_,es',ep',hL,r'⟩) hok hg
theorem Inv.turned {t':Nat} (I:Inv X pins σ H s) (k:∀ b o,b ≠ it->s.heap.get? b = some o->h'.get? b = some o) (hn:H it = none) (hL:it ≠ X.env.locals)
 (h1:it ∈ X.ex\/X.s₀.heap.objs.size<=it) (h2:∀ x c,X.env.cells.lookup x = some c->c ≠ it) (h3:∀ p ∈ X.pn ++ pins,p.1 ≠ it):Inv X pins σ H { s with heap:=h',toks:=t' }:=by
 have nit:∀ b u,H b = some u->b ≠ it:=fun b u e z=>by rw [z,hn] at e;cases e
 refine I.step (g':=s.gens) (d':=s.drawn) (ch:=[it]) (fun b hb=>?_) (fun b o _ _ hc e _=>k b o (fun z=>hc (by simp [z])) e) (fun b o _ _ hc e _=>⟨o.slots,k b o (fun z=>hc (by simp [z])) e⟩) (fun _ _ _ _ n=>n)
  (fun b o hc e=>⟨o,k b o (fun z=>hc (by simp [z])) e⟩) (fun _ _ e=>e) (fun _ _ _ e=>e) (fun b ps e=>⟨#[],by rw [e];simp⟩) (fun m hm=>?_) (fun b u e=>?_) I.bare
 ·have e:b = it:=by simpa using hb
  subst e
  exact ⟨h1,hL,h2,h3⟩
 ·obtain ⟨o,es,ep,ho,r⟩:=hm
  exact ⟨o,es,ep,k _ o (Ne.symm hL) ho,r⟩
 ·refine (I.hok b u e).stay (fun c v hc q=>k c v ?_ q) (fun _ q=>q) fun _ _ q=>q
  rcases hc with z | z
  ·rw [z];exact nit b u e
  ·exact nit c _ z
theorem Inv.tok (I:Inv X pins σ H s) (t:Nat):Inv X pins σ H { s with toks:=t }:=I.un (h':=s.heap) (t':=t) Un.refl I.hok
theorem Inv.kept {t':Nat} (I:Inv X pins σ H s) (k:∀ b u,s.heap.get? b = some u->h'.get? b = some u):Inv X pins σ H { s with heap:=h',toks:=t' }:=I.un (Un.kept k) (I.hok.kept k)
theorem Inv.laid {a:Addr} {t':Nat} (I:Inv X pins σ H s) (k:∀ b u,s.heap.get? b = some u->h'.get? b = some u) (hp:s.heap.objs.size<=a) (new:ObjOk X.prog X.w (upd H a o) h' a o) :
  Inv X pins σ (upd H a o) { s with heap:=h',toks:=t' }:=I.un (Un.laid k hp (I.hok.fresh hp)) (I.hok.laid k hp new)
theorem Inv.write {x e:Addr} {t':Nat} (I:Inv X pins σ H s) (mu:Mut (H x)) (he:e = x\/H e = some (.own x)) (k:∀ b u,b ≠ e->s.heap.get? b = some u->h'.get? b = some u) (heo:∃ u,h'.get? e = some u)
 (new:ObjOk X.prog X.w (upd H x o) h' x o):Inv X pins σ (upd H x o) { s with heap:=h',toks:=t' }:=I.un (Un.write mu he k heo) (I.hok.write mu he k heo new)
theorem Inv.pins_of {pins':List (Addr × Obj)} (I:Inv X pins σ H s) (h:∀ p ∈ pins',s.heap.get? p.1 = some p.2/\H p.1 = none/\p.1 ≠ X.env.locals/\p.1 ∉ X.fs/\∀ v,p.2.data ≠ .cell v):Inv X pins' σ H s:=
 ⟨I.ok,I.os,I.bare,I.base,I.loc,I.cell,I.free,I.freeC,fun p hp=>(mem_append.mp hp).elim (fun z=>I.pin p (mem_append_left _ z)) (h p),I.hok,I.len⟩
theorem zd5 (hN:N.Nodup) (a:N[i]? = some x) (b:N[j]? = some x):i = j:=by
 obtain ⟨h1,e1⟩:=List.getElem?_eq_some_iff.mp a
 obtain ⟨h2,e2⟩:=List.getElem?_eq_some_iff.mp b
 exact (List.getElem_inj hN).mp (e1.trans e2.symm)
theorem zc2 {Q:Unit->Shared->Prop} (I:Inv X pins σ H s) (hN:X.N.Nodup) (hi:X.N[i]? = some x) (hx:Loc X.env.scope x) (r:RelV v u)
 (h:∀ s',Inv X pins (σ.set i (some v)) H s'->(∃ a,Heap.SameBut a s.heap s'.heap/\(a = X.env.locals\/X.env.cells.lookup x = some a))->Q () s') (hf:X.fn x = true\/X.env.scope.names.lookup x = some .local:=by first | exact .inl rfl | exact .inr rfl | assumption):wpAny M A (storeName X.env x u) Q E s:=by
 obtain ⟨m,hn,hl⟩:=id I.loc
 have hcls:(X.env.scope.kind == .class || (X.env.scope.kind == .module && X.env.locals != X.env.globals)) = false:=by rw [I.ok.kind];rfl
 have hiσ:i < σ.length:=by rw [I.len];exact (List.getElem?_eq_some_iff.mp hi).1
 have cne:=I.cne
 have tracked:∀ {a:Addr} {h':Heap},(∃ o,s.heap.get? a = some o/\H a = none)->Heap.SameBut a s.heap h'->HOk X.prog X.w H h':=fun {a h'} ha hs b ob e=>by
  obtain ⟨_,_,hfree⟩:=ha
  refine (I.hok b ob e).stay (fun c w' hc q=>(hs.2 c ?_).trans q) (fun _ q=>q) fun _ _ q=>q
  rintro rfl
  rcases hc with rfl | hc
  ·rw [hfree] at e;cases e
  ·rw [hfree] at hc;cases hc
 rcases hx with hk | hk
 ·refine wpAny_storeName_local hk hn (fun h' hn' hs=>?_) hcls
  obtain ⟨oL,_,_,hoL,_⟩:=id hn
  refine h _ ⟨I.ok,I.os,I.bare,⟨fun b o e n hb hx=>?_,fun b o e n hb hx=>?_,I.base.free,fun b o e hx=>?_,I.base.tups,I.base.frzs,I.base.tbls⟩,⟨_,hn',fun j y v' e1 e2 e3=>?_⟩,fun y c e=>?_,I.free,I.freeC,fun p hp=>?_,tracked ⟨oL,hoL,I.free⟩ hs,by simpa using I.len⟩ ⟨_,hs,.inl rfl⟩
  ·exact (hs.2 b (Qj (Q5 (Qd e) I.ok.above))).trans (I.base.keep b o e n hb hx)
  ·obtain ⟨sl,e1⟩:=I.base.slot b o e n hb hx
   exact ⟨sl,(hs.2 b (Qj (Q5 (Qd e) I.ok.above))).trans e1⟩
  ·obtain ⟨o',e1⟩:=I.base.there b o e hx
   exact ⟨o',(hs.2 b (Qj (Q5 (Qd e) I.ok.above))).trans e1⟩
  ·by_cases hj:j = i
   ·subst hj
    rw [hi] at e1;cases e1
    rw [List.getElem?_set_self hiσ] at e2
    cases e2
    exact ⟨u,r,.inl ⟨hk,by simp⟩⟩
   ·rw [List.getElem?_set_ne (Ne.symm hj)] at e2
    obtain ⟨u',r',q⟩:=hl j y v' e1 e2 e3
    refine ⟨u',r',?_⟩
    rcases q with ⟨k,e⟩ | ⟨k,c,e,z⟩
    ·refine .inl ⟨k,?_⟩
     have:y ≠ x:=fun e=>hj (zd5 hN e1 (e ▸ hi))
     simp [this,e]
    ·exact .inr ⟨k,c,e,z.sameBut hs (cne y c e)⟩
  ·obtain ⟨w',z⟩:=I.cell y c e
   exact ⟨w',z.sameBut hs (cne y c e)⟩
  ·obtain ⟨e,n,ne,nf,d⟩:=I.pin p hp
   exact ⟨(hs.2 p.1 ne).trans e,n,ne,nf,d⟩
 ·have hfn:X.fn x = true:=by
   rcases hf with z | z
   ·exact z
   ·rw [z] at hk;cases hk
  obtain ⟨c,hc⟩:=I.ok.has x (.inl hk)
  obtain ⟨w',z⟩:=I.cell x c hc
  refine wpAny_storeName_cell I.ok.kind hk hc z (fun h' hc' hs=>?_)
  obtain ⟨oc,hoc,hocd⟩:=id z
  refine h { s with heap:=h' } ⟨I.ok,I.os,I.bare,⟨fun b o e n hb hx=>?_,fun b o e n hb hx=>?_,I.base.free,fun b o e hx=>?_,I.base.tups,I.base.frzs,I.base.tbls⟩,⟨m,hn.sameBut hs (Ne.symm (cne x c hc)),fun j y v' e1 e2 e3=>?_⟩,fun y c' e=>?_,I.free,I.freeC,fun p hp=>?_,tracked ⟨oc,hoc,I.freeC x c hc⟩ hs,by simpa using I.len⟩ ⟨c,hs,.inr hc⟩
  ·exact (hs.2 b (Qj (Q5 (Qd e) (I.ok.cab x c hfn hc)))).trans (I.base.keep b o e n hb hx)
  ·obtain ⟨sl,e1⟩:=I.base.slot b o e n hb hx
   exact ⟨sl,(hs.2 b (Qj (Q5 (Qd e) (I.ok.cab x c hfn hc)))).trans e1⟩
  ·obtain ⟨o',e1⟩:=I.base.there b o e hx
   exact ⟨o',(hs.2 b (Qj (Q5 (Qd e) (I.ok.cab x c hfn hc)))).trans e1⟩
  ·by_cases hj:j = i
   ·subst hj
    rw [hi] at e1;cases e1
    rw [List.getElem?_set_self hiσ] at e2
    cases e2
    exact ⟨u,r,.inr ⟨.inl hk,c,hc,hc'⟩⟩
   ·rw [List.getElem?_set_ne (Ne.symm hj)] at e2
    obtain ⟨u',r',q⟩:=hl j y v' e1 e2 e3
    refine ⟨u',r',?_⟩
    rcases q with q | ⟨k,c',e,z'⟩
    ·exact .inl q
    ·refine .inr ⟨k,c',e,z'.sameBut hs ?_⟩
     rintro rfl
     exact hj (zd5 hN e1 (I.ok.inj _ _ _ e hc ▸ hi))
  ·by_cases hcc:c' = c
   ·subst hcc;exact ⟨_,hc'⟩
   ·obtain ⟨w2,z2⟩:=I.cell y c' e
    exact ⟨w2,z2.sameBut hs hcc⟩
  ·obtain ⟨e,n,ne,nf,d⟩:=I.pin p hp
   refine ⟨(hs.2 p.1 ?_).trans e,n,ne,nf,d⟩
   intro q
   rw [q,hoc] at e
   have q':oc = p.2:=Qc e
   exact d w' (by rw [← q'];exact hocd)
theorem zbT {Q:Unit->Shared->Prop} (I:Inv X pins σ H s) (hN:X.N.Nodup) (hi:X.N[i]? = some x) (hx:Loc X.env.scope x) (r:RelV v u)
 (h:∀ s',Inv X pins (σ.set i (some v)) H s'->Q () s') (hf:X.fn x = true\/X.env.scope.names.lookup x = some .local:=by first | exact .inl rfl | exact .inr rfl | assumption):wpAny M A (storeName X.env x u) Q E s:=
 zc2 I hN hi hx r (fun s' I' _=>h s' I') hf
theorem Inv.call' (I:Inv X pins σ H s) (ho:s'.os = s.os) (u:Un (frs X.stack) ch H H' s.heap s'.heap) (hok:HOk X.prog X.w H' s'.heap) (hg:AllBare s'.gens)
 (hch:∀ b ∈ ch,(b ∈ X.ex\/X.s₀.heap.objs.size<=b)/\b ≠ X.env.locals/\(∀ x c,X.env.cells.lookup x = some c->c ≠ b)/\∀ p ∈ X.pn ++ pins,p.1 ≠ b):Inv X pins σ H' s':=by
 obtain ⟨h',g',d',t',o'⟩:=s'
 have e:o' = s.os:=ho
 subst e
 exact I.call (g':=g') (t':=t') (d':=d') u hok hg hch
end
noncomputable abbrev XK:=Value->Option Addr->Hp->Prop
noncomputable abbrev St:=List (Option V)
noncomputable abbrev VK:=V->Hp->Prop
noncomputable abbrev TE:=St->Hp->VK->Prop
noncomputable abbrev TT:=St->Hp->(Bool->Hp->Prop)->Prop
noncomputable abbrev TA:=St->Hp->(List V->Hp->Prop)->Prop
structure Ends where
 nx:St->Hp->Prop
 rt:VK
 bk:St->Hp->Prop:=fun _ _=>False
 ct:St->Hp->Prop:=fun _ _=>False
noncomputable abbrev TS:=Ends->St->Hp->Prop
def EP (X:Cx) (pins:List (Addr × Obj)) (σ:St) (Q:VK) (u:Value) (s':Shared):Prop:=∃ v H',Inv X pins σ H' s'/\RelV v u/\Q v H'
def TP (X:Cx) (pins:List (Addr × Obj)) (σ:St) (Q:Bool->Hp->Prop) (b:Bool) (s':Shared):Prop:=∃ H',Inv X pins σ H' s'/\Q b H'
def AP (X:Cx) (pins:List (Addr × Obj)) (σ:St) (Q:List V->Hp->Prop) (us:List Value) (s':Shared):Prop:=∃ vs H',Inv X pins σ H' s'/\Vals vs us/\Q vs H'
def SP (X:Cx) (pins:List (Addr × Obj)) (D:Ends) (f:Flow) (s':Shared):Prop:=
 match f with
 | .next=>∃ σ' H',Inv X pins σ' H' s'/\D.nx σ' H'
 | .brk=>∃ σ' H',Inv X pins σ' H' s'/\D.bk σ' H'
 | .cont=>∃ σ' H',Inv X pins σ' H' s'/\D.ct σ' H'
 | .ret u=>∃ v σ' H',Inv X pins σ' H' s'/\RelV v u/\D.rt v H'
def PE (X:Cx) (e:Expr) (t:TE):Prop:=
 ∀ (pins:List (Addr × Obj)) (s:Shared) (σ:St) (H:Hp) (Q:VK),Inv X pins σ H s->t σ H Q->wpAny (model X.prog X.w) X.A (eval e X.env) (EP X pins σ Q) X.xe s
def PT (X:Cx) (e:Expr) (t:TT):Prop:=
 ∀ (pins:List (Addr × Obj)) (s:Shared) (σ:St) (H:Hp) (Q:Bool->Hp->Prop),Inv X pins σ H s->t σ H Q->wpAny (model X.prog X.w) X.A (isTrue e X.env (eval e X.env)) (TP X pins σ Q) X.xe s
def PW (X:Cx) (e:Expr) (t:TT):Prop:=
 ∀ (whole:Sem Value) (pins:List (Addr × Obj)) (s:Shared) (σ:St) (H:Hp) (Q:Bool->Hp->Prop),Inv X pins σ H s->t σ H Q->wpAny (model X.prog X.w) X.A (isTrue e X.env whole) (TP X pins σ Q) X.xe s
variable {e:Expr}
theorem PW.pt {t:TT} (h:PW X e t):PT X e t:=h _
def PA (X:Cx) (es:List Expr) (t:TA):Prop:=
 ∀ (pos:Pos) (pins:List (Addr × Obj)) (s:Shared) (σ:St) (H:Hp) (Q:List V->Hp->Prop),Inv X pins σ H s->t σ H Q->wpAny (model X.prog X.w) X.A (spliced (backTo pos (starEach es X.env))) (AP X pins σ Q) X.xe s
def PS (X:Cx) (st:Stmt) (t:TS):Prop:=
 ∀ (pins:List (Addr × Obj)) (s:Shared) (σ:St) (H:Hp) (D:Ends),Inv X pins σ H s->t D σ H->wpAny (model X.prog X.w) X.A (exec st X.env) (SP X pins D) X.xe s
def PSs (X:Cx) (st:List Stmt) (t:TS):Prop:=
 ∀ (pins:List (Addr × Obj)) (s:Shared) (σ:St) (H:Hp) (D:Ends),Inv X pins σ H s->t D σ H->wpAny (model X.prog X.w) X.A (execs st X.env) (SP X pins D) X.xe s
theorem thn {α:Type} {t:Sem α} {Q Q':α->Shared->Prop} (h:wpAny M A t Q E s) (hQ:∀ a s,Q a s->Q' a s):wpAny M A t Q' E s:=Qf h hQ fun _ _ x=>x
variable {op:CmpOp} {pos:Pos} {σ:St} {t ta tb:TE} {R:V->V->Hp->Prop} {Q:Value->Shared->Prop}
section
theorem bin {a b:Expr} (ha:PE X a ta) (hb:PE X b tb) (I:Inv X pins σ H s) (h:ta σ H fun x H1=>tb σ H1 fun y H2=>R x y H2)
 {α:Type} {Q:α->Shared->Prop} {f:Value->Value->Sem α}
 (hf:∀ v u s2 x y H2,Inv X pins σ H2 s2->RelV x v->RelV y u->R x y H2->wpAny (model X.prog X.w) X.A (f v u) Q X.xe s2) :
  wpAny (model X.prog X.w) X.A (eval a X.env) (fun v s₁=>wpAny (model X.prog X.w) X.A (eval b X.env) (fun u s₂=>wpAny (model X.prog X.w) X.A (f v u) Q X.xe s₂) X.xe s₁) X.xe s:=by
 refine thn (ha pins s σ H _ I h) fun v s1 ⟨x,H1,I1,r1,q1⟩=>?_
 refine thn (hb pins s1 σ H1 _ I1 q1) fun u s2 ⟨y,H2,I2,r2,q2⟩=>?_
 exact hf v u s2 x y H2 I2 r1 r2 q2
noncomputable def zfu (i:Nat):TE:=fun σ H Q=>∃ v,σ[i]? = some (some v)/\Q v H
noncomputable def tC (v:V):TE:=fun _ H Q=>Q v H
theorem zjG (hN:X.N[i]? = some x) (hv:Vis X.env.scope x) (hd:(x == ("__debug__":Str)) = false:=by decide) (hcd:(x == ("__classdict__":Str)) = false:=by decide):PE X (.Name x pos) (zfu i):=by
 intro pins s σ H Q I h
 obtain ⟨v,e,h⟩:=h
 obtain ⟨m,hn,hl⟩:=I.loc
 obtain ⟨u,r,l⟩:=hl i x v hN e hv
 have fin:EP X pins σ Q u s:=⟨v,H,I,r,h⟩
 rcases l with ⟨hk,hm⟩ | ⟨hk,c,hc,hcell⟩
 ·exact wpAny_Name (wpAny_loadName_local I.ok.kind hk hn hm fin) hd
 ·rcases hk with hk | hk
  ·exact wpAny_Name (wpAny_loadName_cell I.ok.kind hk hc hcell fin) hd
  ·exact wpAny_Name (wpAny_loadName_free I.ok.kind hk hc hcell fin hcd) hd
theorem zjL {i j pos}:PE X (.Constant (.int i) j pos) (tC (.int i)):=fun _ _ _ H _ I h=>wpAny_Constant_int ⟨.int i,H,I.tok _,⟨_,rfl⟩,h⟩
theorem zk5 {b j pos}:PE X (.Constant (.bool b) j pos) (tC (.bl b)):=fun _ _ _ H _ I h=>Constant_bool ⟨.bl b,H,I,rfl,h⟩
def Gl (X:Cx) (x:Str):Prop:=X.env.kindOf x = some .globalImplicit
theorem ziJ (I:Inv X pins σ H s) (hg:Gl X x) (hm:X.mg x = some u) (h:Q u s)
 (hd:(x == ("__debug__":Str)) = false:=by decide):wpAny (model X.prog X.w) X.A (eval (.Name x pos) X.env) Q E s:=
 Calls.Name_function_global I.ok.kind hg (Calls.loadGlobal_global (by rw [I.ok.glob];exact I.mod.glob.keeps I.bk) hm h) hd
theorem zbe (I:Inv X pins σ H s) (hg:Gl X x) (hm:X.mg x = none) (hv:bootBuiltins x = some u) (h:Q u s)
 (hn:x ≠ "__name__":=by decide) (hd:(x == ("__debug__":Str)) = false:=by decide):wpAny (model X.prog X.w) X.A (eval (.Name x pos) X.env) Q E s:=by
 obtain ⟨mb,h1,h2⟩:=I.mod.blt
 exact Calls.Name_function_global I.ok.kind hg (Calls.loadGlobal_builtin (by rw [I.ok.glob];exact I.mod.glob.keeps I.bk) hm (by rw [I.ok.blt];exact h1.keeps I.bk) ((h2 x hn).trans hv) h) hd
theorem ziw (hg:Gl X x) (hm:X.mg x = none) (hv:bootBuiltins x = some u) (r:RelV v u) (hn:x ≠ "__name__":=by decide) (hd:(x == ("__debug__":Str)) = false:=by decide):PE X (.Name x pos) (tC v):=
 fun _ _ _ H _ I h=>zbe I hg hm hv ⟨v,H,I,r,h⟩ hn hd
variable {a b:Expr}
def PC (X:Cx) (op:CmpOp) (a b:Expr) (t:TE):Prop:=
 ∀ (pins:List (Addr × Obj)) (s:Shared) (σ:St) (H:Hp) (Q:VK),Inv X pins σ H s->t σ H Q->
  wpAny (model X.prog X.w) X.A (eval a X.env) (fun v s₁=>wpAny (model X.prog X.w) X.A (eval b X.env) (fun u s₂=>wpAny (model X.prog X.w) X.A (compareOp op v u) (EP X pins σ Q) X.xe s₂) X.xe s₁) X.xe s
theorem zhn (b:Expr) (h:op ≠ .In) (h2:op ≠ .NotIn):behindInMarks op b = false:=by
 have e1:(op == CmpOp.In) = false:=by cases op <;> first | rfl | exact absurd rfl h
 have e2:(op == CmpOp.NotIn) = false:=by cases op <;> first | rfl | exact absurd rfl h2
 cases b <;> simp [behindInMarks,e1,e2]
noncomputable def tB (t:TE):TT:=fun σ H Q=>t σ H fun x H1=>∃ c,x = .bl c/\Q c H1
theorem zml (h:PC X op a b t) (h1:behindInMarks op b = false:=by first | exact zhn _ (by decide) (by decide) | rfl):PT X (.Compare a [op] [b] pos) (tB t):=by
 intro pins s σ H Q I hw
 refine wpAny_isTrue_Compare1 (thn (h pins s σ H _ I hw) fun v s1 h1=>thn h1 fun u s2 h2=>thn h2 fun c s3 ⟨x,H1,I1,r1,q1⟩=>?_) h1
 obtain ⟨d,rfl,q⟩:=q1
 cases r1
 exact wpAny_truthy_bool ⟨H1,I1,q⟩
theorem zjy (h:PE X e t) (he:∀ whole,isTrue e X.env whole = (do let v ← whole;standAt e.pos;holding [v] (truthy v)):=by intro _;rfl):PT X e (tB t):=by
 intro pins s σ H Q I hw
 refine isTrue_plain (thn (h pins s σ H _ I hw) fun v s1 ⟨x,H1,I1,r1,q1⟩=>?_) (he _)
 obtain ⟨d,rfl,q⟩:=q1
 cases r1
 exact wpAny_truthy_bool ⟨H1,I1,q⟩
variable {tA tB':TT} {rest:List Expr}
noncomputable def zlE (t u:TT):TT:=fun σ H Q=>t σ H fun c H1=>if c = true then u σ H1 Q else Q false H1
noncomputable def tOr (t u:TT):TT:=fun σ H Q=>t σ H fun c H1=>if c = true then Q true H1 else u σ H1 Q
noncomputable def zly (t:TT):TT:=fun σ H Q=>t σ H fun c H1=>Q (!c) H1
theorem zih (ha:PT X a tA):PW X (.BoolOp .And [a] pos) tA:=by
 intro wh pins s σ H Q I h
 refine isTrue_and (thn (ha pins s σ H Q I h) fun c s1 e=>?_)
 cases c with
 | true=>exact isTrue_and_nil e
 | false=>exact e
theorem zjw (ha:PT X a tA):PW X (.BoolOp .Or [a] pos) tA:=by
 intro wh pins s σ H Q I h
 refine isTrue_or (thn (ha pins s σ H Q I h) fun c s1 e=>?_)
 cases c with
 | false=>exact isTrue_or_nil e
 | true=>exact e
theorem zjx (ha:PT X a tA) (hb:PW X (.BoolOp .And (b :: rest) pos) tB'):PW X (.BoolOp .And (a :: b :: rest) pos) (zlE tA tB'):=by
 intro wh pins s σ H Q I h
 refine isTrue_and (thn (ha pins s σ H _ I h) fun c s1 ⟨H1,I1,q1⟩=>?_)
 cases c with
 | true=>exact hb wh pins s1 σ H1 Q I1 q1
 | false=>exact ⟨H1,I1,q1⟩
theorem zk1 (ha:PT X a tA) (hb:PW X (.BoolOp .Or (b :: rest) pos) tB'):PW X (.BoolOp .Or (a :: b :: rest) pos) (tOr tA tB'):=by
 intro wh pins s σ H Q I h
 refine isTrue_or (thn (ha pins s σ H _ I h) fun c s1 ⟨H1,I1,q1⟩=>?_)
 cases c with
 | true=>exact ⟨H1,I1,q1⟩
 | false=>exact hb wh pins s1 σ H1 Q I1 q1
theorem zjz (ha:PT X a tA):PT X (.UnaryOp .Not a pos) (zly tA):=by
 intro pins s σ H Q I h
 exact isTrue_not (ha pins s σ H (fun c H1=>Q (!c) H1) I h)
noncomputable def zkT (ta tb:TE):TE:=fun σ H Q=>ta σ H fun x H1=>∃ c,x = .bl c/\if c = true then tb σ H1 Q else Q (.bl false) H1
noncomputable def zkP (ta:TE):TE:=fun σ H Q=>ta σ H fun x H1=>∃ c,x = .bl c/\Q (.bl (!c)) H1
theorem zjI {op} (h:PE X a t):PE X (.BoolOp op [a] pos) t:=fun pins s σ H Q I hw=>BoolOp_one (h pins s σ H Q I hw)
theorem zjN (ha:PE X a ta) (hb:PE X (.BoolOp .And (b :: rest) pos) tb):PE X (.BoolOp .And (a :: b :: rest) pos) (zkT ta tb):=by
 intro pins s σ H Q I h
 refine BoolOp_and (thn (ha pins s σ H _ I h) fun v s1 ⟨x,H1,I1,r1,q1⟩=>?_)
 obtain ⟨c,rfl,q1⟩:=q1
 cases r1
 refine wpAny_truthy_bool ?_
 cases c with
 | true=>exact hb pins s1 σ H1 Q I1 q1
 | false=>exact ⟨.bl false,H1,I1,rfl,q1⟩
theorem zjJ (ha:PE X a ta):PE X (.UnaryOp .Not a pos) (zkP ta):=by
 intro pins s σ H Q I h
 refine UnaryOp_ (thn (ha pins s σ H _ I h) fun v s1 ⟨x,H1,I1,r1,q1⟩=>?_)
 obtain ⟨c,rfl,q1⟩:=q1
 cases r1
 exact not_of (wpAny_truthy_bool ⟨.bl (!c),H1,I1,rfl,q1⟩)
end
def SqL (K:Frag) (H:Hp) (a:Addr) (xs:List V):Prop:=
 Rd H a (.lst xs) \/
  ∃ (o:Obj) (its:Array Value) (n:Nat),K.lookup a = some o/\o.cls = .type "list"/\o.dict = none/\o.data = .seq its n/\its.size<=sizeLine/\Vals xs its.toList
def SqT (K:Frag) (H:Hp) (a:Addr) (xs:List V):Prop:=
 Rd H a (.tup xs) \/
  ∃ (o:Obj) (its:Array Value) (n:Nat),K.lookup a = some o/\o.cls = .type "tuple"/\o.dict = none/\o.data = .seq its n/\its.size<=sizeLine/\Vals xs its.toList
noncomputable def zl6:Value->Option V
 | .none=>some .non
 | .bool b=>some (.bl b)
 | .int i _=>some (.int i)
 | .str x _=>some (.str x)
 | .bytes b _=>some (.byt b)
 | .float b _=>some (.flt b)
 | .ref a=>some (.ref a)
 | .type n=>some (.ty n)
 | _=>none
theorem RelV.abs {x:V} (r:RelV x u):zl6 u = some x:=by
 cases x with
 | non=>cases r;rfl
 | bl _=>cases r;rfl
 | int _=>obtain ⟨t,rfl⟩:=r;rfl
 | str _=>obtain ⟨t,rfl⟩:=r;rfl
 | byt _=>obtain ⟨t,rfl⟩:=r;rfl
 | flt _=>obtain ⟨t,rfl⟩:=r;rfl
 | ref _=>cases r;rfl
 | ty _=>cases r;rfl
variable {y:V}
theorem RelV.inj {x:V} (r:RelV x u) (q:RelV y u):x = y:=Qc (r.abs.symm.trans q.abs)
theorem Vals.inj:∀ {xs ys:List V} {us:List Value},Vals xs us->Vals ys us->xs = ys
 | _,_,_,.nil,.nil=>rfl
 | _,_,_,.cons r t,.cons r' t'=>by rw [r.inj r',Vals.inj t t']
section
variable {a:Addr} {ys:List V}
theorem Inv.list (I:Inv X pins σ H s) (h:SqL X.K H a xs):∃ its:List Value,Vals xs its/\PlainL s.heap a its.toArray/\xs.length<=sizeLine:=by
 rcases h with h | ⟨o,its,n,hk,hc,hd,hs,hz,r⟩
 ·obtain ⟨z,its,n,r,e⟩:=h.ok I.hok
  exact ⟨its,r,⟨_,n,e,rfl,rfl,rfl⟩,z⟩
 ·refine ⟨its.toList,r,⟨o,n,I.kIn a o hk,hc,hd,by simpa using hs⟩,?_⟩
  have e:=r.length
  simp only [Array.length_toList] at e
  omega
theorem Inv.tuple (I:Inv X pins σ H s) (h:SqT X.K H a xs):∃ its:List Value,Vals xs its/\IsTup s.heap a its.toArray/\xs.length<=sizeLine:=by
 rcases h with h | ⟨o,its,n,hk,hc,_,hs,hz,r⟩
 ·obtain ⟨z,its,r,p,_⟩:=h.ok I.hok
  exact ⟨its,r,p,z⟩
 ·refine ⟨its.toList,r,⟨o,I.kIn a o hk,hc,n,by simpa using hs⟩,?_⟩
  have e:=r.length
  simp only [Array.length_toList] at e
  omega
theorem Inv.list_inj (I:Inv X pins σ H s) (h:SqL X.K H a xs) (h':SqL X.K H a ys):xs = ys:=by
 obtain ⟨its,r,⟨o,n,e,_,_,d⟩,_⟩:=I.list h
 obtain ⟨its',r',⟨o',n',e',_,_,d'⟩,_⟩:=I.list h'
 rw [e] at e';cases e'
 rw [d] at d'
 injection d' with d1 _
 have:its = its':=by simpa using congrArg Array.toList d1
 subst this
 exact r.inj r'
theorem Inv.tuple_inj (I:Inv X pins σ H s) (h:SqT X.K H a xs) (h':SqT X.K H a ys):xs = ys:=by
 obtain ⟨its,r,⟨o,e,_,n,d⟩,_⟩:=I.tuple h
 obtain ⟨its',r',⟨o',e',_,n',d'⟩,_⟩:=I.tuple h'
 rw [e] at e';cases e'
 rw [d] at d'
 injection d' with d1 _
 have:its = its':=by simpa using congrArg Array.toList d1
 subst this
 exact r.inj r'
end
noncomputable abbrev Cx.wish (X:Cx) (E:Value->Shared->Prop):Cx:={ X with xe:=E }
noncomputable abbrev Cx.nox (X:Cx):Cx:=X.wish fun _ _=>False
theorem Cx.Ok.wish (ok:X.Ok) (E:Value->Shared->Prop):(X.wish E).Ok:=
 ⟨ok.mod,ok.kind,ok.glob,ok.blt,ok.above,ok.inj,ok.has,ok.cab,ok.hd,ok.frames,ok.stk,ok.exf,ok.bs,ok.bsz,ok.noex,ok.exfs,ok.funs,ok.frf⟩
theorem Cx.Ok.unwish (ok:(X.wish E).Ok):X.Ok:=
 ⟨ok.mod,ok.kind,ok.glob,ok.blt,ok.above,ok.inj,ok.has,ok.cab,ok.hd,ok.frames,ok.stk,ok.exf,ok.bs,ok.bsz,ok.noex,ok.exfs,ok.funs,ok.frf⟩
section
theorem Inv.wish (I:Inv X pins σ H s) (E:Value->Shared->Prop):Inv (X.wish E) pins σ H s:=⟨I.ok.wish E,I.os,I.bare,I.base,I.loc,I.cell,I.free,I.freeC,I.pin,I.hok,I.len⟩
theorem Inv.unwish (I:Inv (X.wish E) pins σ H s):Inv X pins σ H s:=⟨I.ok.unwish,I.os,I.bare,I.base,I.loc,I.cell,I.free,I.freeC,I.pin,I.hok,I.len⟩
theorem SP.unwish {D:Ends} {f:Flow} (h:SP (X.wish E) pins D f s'):SP X pins D f s':=by
 cases f with
 | next=>obtain ⟨σ',H',I,q⟩:=h;exact ⟨σ',H',I.unwish,q⟩
 | brk=>obtain ⟨σ',H',I,q⟩:=h;exact ⟨σ',H',I.unwish,q⟩
 | cont=>obtain ⟨σ',H',I,q⟩:=h;exact ⟨σ',H',I.unwish,q⟩
 | ret u=>obtain ⟨v,σ',H',I,r,q⟩:=h;exact ⟨v,σ',H',I.unwish,r,q⟩
theorem PE.nox (h:PE X.nox e t):PE X e t:=fun pins s σ H Q I hw=>
 Qf (h pins s σ H Q (I.wish _) hw) (fun _ _ ⟨v,H',I',r,q⟩=>⟨v,H',I'.unwish,r,q⟩) fun _ _ z=>False.elim z
theorem PT.nox {t:TT} (h:PT X.nox e t):PT X e t:=fun pins s σ H Q I hw=>
 Qf (h pins s σ H Q (I.wish _) hw) (fun _ _ ⟨H',I',q⟩=>⟨H',I'.unwish,q⟩) fun _ _ z=>False.elim z
theorem PSs.nox {st:List Stmt} {t:TS} (h:PSs X.nox st t):PSs X st t:=fun pins s σ H D I hw=>
 Qf (h pins s σ H D (I.wish _) hw) (fun _ _ q=>q.unwish) fun _ _ z=>False.elim z
end
variable {c:Expr} {te:TE}
section
variable {st:Stmt} {rest:List Stmt} {t u:TS}
noncomputable def zkQ:TS:=fun D σ H=>D.nx σ H
noncomputable def zlw (t u:TS):TS:=fun D σ H=>t { D with nx:=u D } σ H
theorem zim:PSs X [] zkQ:=fun _ _ σ H _ I h=>wpAny_execs_nil ⟨σ,H,I,h⟩
theorem zhg (h1:PS X st t) (h2:PSs X rest u):PSs X (st :: rest) (zlw t u):=by
 intro pins s σ H D I h
 refine wpAny_execs_cons (thn (h1 pins s σ H { D with nx:=u D } I h) fun f s1 q=>?_)
 cases f with
 | next=>
  obtain ⟨σ',H',I',q⟩:=q
  exact h2 pins s1 σ' H' D I' q
 | ret v=>exact q
 | brk=>exact q
 | cont=>exact q
theorem zil (h1:PS X st t):PSs X [st] t:=by
 intro pins s σ H D I h
 refine wpAny_execs_cons (thn (h1 pins s σ H D I h) fun f s1 q=>?_)
 cases f with
 | next=>exact wpAny_execs_nil q
 | ret v=>exact q
 | brk=>exact q
 | cont=>exact q
theorem Inv.quiet (I:Inv X pins σ H s):interactive X.env = false:=by simp [interactive,I.ok.kind]
noncomputable def zkR (te:TE):TS:=fun D σ H=>te σ H fun _ H1=>D.nx σ H1
theorem zin (he:PE X e te) (hs:swapsWith e none pos.line X.env = pure false:=by rfl):PS X (.Expr e pos) (zkR te):=by
 intro pins s σ H D I h
 exact wpAny_Expr_any (thn (he pins s σ H _ I h) fun v s1 ⟨x,H1,I1,r1,q1⟩=>⟨σ,H1,I1,q1⟩) I.quiet hs
noncomputable def zlx (te:TE):TS:=fun D σ H=>te σ H D.rt
theorem zjB (he:PE X e te):PS X (.Return (some e) pos) (zlx te):=by
 intro pins s σ H D I h
 exact wpAny_Return_some (thn (he pins s σ H _ I h) fun v s1 ⟨x,H1,I1,r1,q1⟩=>⟨x,σ,H1,I1,r1,q1⟩)
noncomputable def zlB (c:TT) (t u:TS):TS:=fun D σ H=>c σ H fun b H1=>if b = true then t D σ H1 else u D σ H1
theorem zk2 {a b:List Stmt} {tc:TT} (hc:PT X c tc) (ha:PSs X a t) (hb:PSs X b u):PS X (.If c a b pos) (zlB tc t u):=by
 intro pins s σ H D I h
 refine wpAny_If (thn (hc pins s σ H _ I h) fun d s1 ⟨H1,I1,q1⟩=>?_)
 cases d with
 | true=>exact ha pins s1 σ H1 D I1 q1
 | false=>exact hb pins s1 σ H1 D I1 q1
end
noncomputable abbrev TG:=V->St->Hp->(St->Hp->Prop)->Prop
noncomputable abbrev TGs:=List V->St->Hp->(St->Hp->Prop)->Prop
def PG (X:Cx) (target:Expr) (t:TG):Prop:=
 ∀ (pins:List (Addr × Obj)) (s:Shared) (σ:St) (H:Hp) (v:V) (u:Value) (Q:St->Hp->Prop),Inv X pins σ H s->RelV v u->t v σ H Q->
  wpAny (model X.prog X.w) X.A (assign target X.env u) (fun _ s'=>∃ σ' H',Inv X pins σ' H' s'/\Q σ' H') X.xe s
def PGs (X:Cx) (ts:List Expr) (t:TGs):Prop:=
 ∀ (pins:List (Addr × Obj)) (s:Shared) (σ:St) (H:Hp) (vs:List V) (us:List Value) (Q:St->Hp->Prop),Inv X pins σ H s->Vals vs us->t vs σ H Q->
  wpAny (model X.prog X.w) X.A (assignInOrder ((assignEach ts X.env).map (·.2)) us) (fun _ s'=>∃ σ' H',Inv X pins σ' H' s'/\Q σ' H') X.xe s
noncomputable abbrev zf3:=V->V->V->Hp->(Hp->Prop)->Prop
def zcZ (X:Cx) (t:zf3):Prop:=
 ∀ (pins:List (Addr × Obj)) (s:Shared) (σ:St) (H:Hp) (o i v:V) (ov iv u:Value) (Q:Hp->Prop),Inv X pins σ H s->RelV o ov->RelV i iv->RelV v u->t o i v H Q->
  wpAny (model X.prog X.w) X.A (setItem ov iv u) (fun _ s'=>∃ H',Inv X pins σ H' s'/\Q H') X.xe s
noncomputable abbrev TIp:=V->V->Hp->VK->Prop
def PIp (X:Cx) (op:Operator) (t:TIp):Prop:=
 ∀ (pins:List (Addr × Obj)) (s:Shared) (σ:St) (H:Hp) (x y:V) (v u:Value) (Q:VK),Inv X pins σ H s->RelV x v->RelV y u->t x y H Q->
  wpAny (model X.prog X.w) X.A (inplaceOp op v u) (EP X pins σ Q) X.xe s
variable {tg:Expr} {es:List Expr} {pos':Pos} {g:TG}
section
noncomputable def zdx (i:Nat):TG:=fun v σ H Q=>Q (σ.set i (some v)) H
theorem zm (hN:X.N.Nodup) (hi:X.N[i]? = some x) (hx:Loc X.env.scope x) (hf:X.fn x = true\/X.env.scope.names.lookup x = some .local:=by first | exact .inl rfl | exact .inr rfl | assumption):PG X (.Name x pos) (zdx i):=by
 intro pins s σ H v u Q I r h
 exact wpAny_assign_Name (zbT I hN hi hx r (fun s' I'=>⟨_,H,I',h⟩) hf)
noncomputable def zlY:TGs:=fun vs σ H Q=>vs = []/\Q σ H
noncomputable def zfV (t:TG) (u:TGs):TGs:=fun vs σ H Q=>∃ v r,vs = v :: r/\t v σ H fun σ' H'=>u r σ' H' Q
theorem zir:PGs X [] zlY:=by
 intro pins s σ H vs us Q I r h
 obtain ⟨e,h⟩:=h
 subst e
 cases r
 exact assignInOrder_nil ⟨σ,H,I,h⟩
theorem yH {t:TG} {u:TGs} (h1:PG X e t) (h2:PGs X es u)
 (hs:(assignEach (e :: es) X.env).map (·.2) = assign e X.env :: (assignEach es X.env).map (·.2):=by rfl):PGs X (e :: es) (zfV t u):=by
 intro pins s σ H vs us Q I r h
 obtain ⟨v,vr,e1,h⟩:=h
 subst e1
 cases r with
 | cons r rr=>
  rw [hs]
  refine assignInOrder_cons (thn (h1 pins s σ H _ _ _ I r h) fun _ s1 ⟨σ1,H1,I1,q1⟩=>?_)
  exact h2 pins s1 σ1 H1 _ _ Q I1 rr q1
noncomputable def zhH (K:Frag) (n:Nat) (t:TGs):TG:=fun v σ H Q=>∃ a xs,v = .ref a/\SqT K H a xs/\xs.length = n/\t xs σ H Q
theorem zck {k:Nat} {t:TGs} (hc:X.calm = true) (h:PGs X es t)
 (hn:(assignEach es X.env).length = n:=by rfl) (hst:(assignEach es X.env).findIdx? (·.1) = none:=by rfl):PG X (.Tuple es k pos) (zhH X.K n t):=by
 intro pins s σ H v u Q I r hw
 obtain ⟨a,xs,e1,hq,hl,hw⟩:=hw
 subst e1
 cases r
 obtain ⟨its,rv,ht,hz⟩:=I.tuple hq
 refine assign_Tuple_tuple (I.ok.hd hc) ht (by simp [hn,← hl,rv.length]) hst fun h' hx=>?_
 have I1:Inv X pins σ H { s with heap:=h' }:=I.kept (t':=s.toks) fun b o e=>hx b o (Qj (Qd e)) e
 exact h pins _ σ H xs _ Q I1 (by simpa using rv) hw
noncomputable def zlX (to ti:TE) (t:zf3):TG:=fun v σ H Q=>to σ H fun o H1=>ti σ H1 fun i H2=>t o i v H2 fun H3=>Q σ H3
theorem zjF {o i:Expr} {to ti:TE} {t:zf3} (ho:PE X o to) (hi:PE X i ti) (hs:zcZ X t)
  (ha:∀ v,assign (.Subscript o i pos) X.env v = (do
   let ov ← holding [v] (eval o X.env)
   let iv ← holding [v,ov] (eval i X.env)
   standAt pos
   holding [v,ov,iv] (setItem ov iv v)
   release [v,ov,iv] []):=by intro _;rfl):PG X (.Subscript o i pos) (zlX to ti t):=by
 intro pins s σ H v u Q I r h
 rw [ha]
 refine Q1 (wpAny_holding (thn (ho pins s σ H _ I h) fun ov s1 ⟨x,H1,I1,r1,q1⟩=>?_))
 refine Q1 (wpAny_holding (thn (hi pins s1 σ H1 _ I1 q1) fun iv s2 ⟨y,H2,I2,r2,q2⟩=>?_))
 refine Q1 (wpAny_standAt (Q1 (wpAny_holding (thn (hs pins s2 σ H2 x y v ov iv u _ I2 r1 r2 r q2) fun _ s3 ⟨H3,I3,q3⟩=>?_))))
 exact wpAny_release ⟨σ,H3,I3,q3⟩
noncomputable def zjm (te:TE) (g:TG):TS:=fun D σ H=>te σ H fun x H1=>g x σ H1 D.nx
theorem zjD (he:PE X e te) (hg:PG X tg g) (hs:swapsWithSole [tg] e pos.line X.env = pure false:=by rfl) (hw:swappedStores [tg] e X.env = pure none:=by rfl)
 (h1:(assignEach [tg] X.env).map (·.2) = [assign tg X.env]:=by rfl):PS X (.Assign [tg] e pos) (zjm te g):=by
 intro pins s σ H D I h
 refine wpAny_Assign_stores (thn (he pins s σ H _ I h) fun v s1 ⟨x,H1,I1,r1,q1⟩=>?_) hs hw
 rw [h1]
 exact thn (hg pins s1 σ H1 x v _ I1 r1 q1) fun _ s2 q=>q
theorem zjA (hN:X.N.Nodup) (hi:X.N[i]? = some x) (hx:Loc X.env.scope x) (he:PE X e te) (hs:swapsWith e (some (.Name x pos')) pos.line X.env = pure false:=by rfl) (hf:X.fn x = true\/X.env.scope.names.lookup x = some .local:=by first | exact .inl rfl | exact .inr rfl | assumption) :
  PS X (.Assign [.Name x pos'] e pos) (zjm te (zdx i)):=by
 intro pins s σ H D I h
 refine wpAny_Assign_Name (thn (he pins s σ H _ I h) fun v s1 ⟨y,H1,I1,r1,q1⟩=>?_) hs
 exact zbT I1 hN hi hx r1 (fun s2 I2=>⟨_,H1,I2,q1⟩) hf
noncomputable def zlD (i:Nat) (te:TE) (ti:TIp):TS:=fun D σ H=>∃ x,σ[i]? = some (some x)/\te σ H fun y H1=>ti x y H1 fun z H2=>D.nx (σ.set i (some z)) H2
theorem zjC {op:Operator} {ti:TIp} (hN:X.N.Nodup) (hi:X.N[i]? = some x) (hx:Loc X.env.scope x) (he:PE X e te) (ho:PIp X op ti) (hf:X.fn x = true\/X.env.scope.names.lookup x = some .local:=by first | exact .inl rfl | exact .inr rfl | assumption) :
  PS X (.AugAssign (.Name x pos') op e pos) (zlD i te ti):=by
 intro pins s σ H D I h
 obtain ⟨v,e1,h⟩:=h
 obtain ⟨m,hn,hl⟩:=I.loc
 have vis:Vis X.env.scope x:=by rcases hx with k | k;exact .inl k;exact .inr (.inl k)
 obtain ⟨u,r,l⟩:=hl i x v hi e1 vis
 refine wpAny_AugAssign_Name ?_
 have go:wpAny (model X.prog X.w) X.A (eval e X.env) (fun w s₂=>wpAny (model X.prog X.w) X.A (inplaceOp op u w) (fun r s₃=>wpAny (model X.prog X.w) X.A (storeName X.env x r) (fun _=>SP X pins D .next) X.xe s₃) X.xe s₂) X.xe s:=by
  refine thn (he pins s σ H _ I h) fun w s1 ⟨y,H1,I1,r1,q1⟩=>?_
  refine thn (ho pins s1 σ H1 v y u w _ I1 r r1 q1) fun z s2 ⟨zv,H2,I2,r2,q2⟩=>?_
  exact zbT I2 hN hi hx r2 (fun s3 I3=>⟨_,H2,I3,q2⟩) hf
 rcases l with ⟨hk,hm⟩ | ⟨hk,c,hc,hcell⟩
 ·exact wpAny_loadName_local I.ok.kind hk hn hm go
 ·rcases hk with hk | hk
  ·exact wpAny_loadName_cell I.ok.kind hk hc hcell go
  ·rcases hx with k | k
   ·have:X.env.scope.names.lookup x = some .free:=hk
    rw [k] at this;cases this
   ·have:X.env.scope.names.lookup x = some .free:=hk
    rw [k] at this;cases this
end
structure It where
 go:Nat->Hp->Prop
 yld:Nat->Hp->V->Hp->Prop
 stop:Nat->Hp->Prop
def zbp (X:Cx) (pins:List (Addr × Obj)) (H:Hp) (b:Addr):Prop:=
 H b = none/\b ≠ X.env.locals/\b ∉ X.fs/\(b ∈ X.ex\/X.s₀.heap.objs.size<=b)/\(∀ x c,X.env.cells.lookup x = some c->c ≠ b)/\∀ p ∈ X.pn ++ pins,p.1 ≠ b
theorem Inv.fpOk {b:Addr} (I:Inv X pins σ H s) (hb:s.heap.objs.size<=b) (hn:H' b = none):zbp X pins H' b:=by
 refine ⟨hn,Nat.ne_of_gt (Q5 I.lt hb),I.nofs hb,.inr (Qi I.sz hb),fun x c e z=>?_,fun p hp z=>?_⟩
 ·obtain ⟨v,q⟩:=I.cell x c e
  exact absurd (Q5 q.lt (by rw [z];exact hb)) (Qn _)
 ·exact absurd (Q5 (Qd (I.pin p hp).1) (by rw [z];exact hb)) (Qn _)
structure Turn (P:Program) (w:World) (K:Frag) (tg:Expr) (J:It) (fp:List Addr) (it:Addr) (tn:Nat->Heap->Prop):Prop where
 mem:it ∈ fp
 obj:∀ i h,tn i h->∀ b ∈ fp,∃ o,h.get? b = some o/\∀ v,o.data ≠ .cell v
 keep:∀ i h h',tn i h->(∀ b ∈ fp,∀ o,h.get? b = some o->h'.get? b = some o)->tn i h'
 item:∀ (X:Cx),X.prog = P->X.w = w->X.K = K->X.calm = true->∀ (i:Nat) (pins:List (Addr × Obj)) (s:Shared) (σ:St) (H:Hp) (E:Value->Shared->Prop),Inv X pins σ H s->(∀ b ∈ fp,zbp X pins H b)->tn i s.heap->J.go i H->
  wpAny (model P w) X.A (pyNext (.ref it)) (fun r s1=>∃ u,r = some u /\
   wpAny (model P w) X.A (letOwnedTupleGo tg (.ref it) u) (fun _ s2=>∃ x H',Inv X pins σ H' s2/\RelV x u/\J.yld i H x H'/\tn (i + 1) s2.heap/\∀ b ∈ fp,H' b = none) E s1) E s
 done:∀ (X:Cx),X.prog = P->X.w = w->X.K = K->X.calm = true->∀ (i:Nat) (pins:List (Addr × Obj)) (s:Shared) (σ:St) (H:Hp) (E:Value->Shared->Prop),Inv X pins σ H s->(∀ b ∈ fp,zbp X pins H b)->tn i s.heap->J.stop i H->
  wpAny (model P w) X.A (pyNext (.ref it)) (fun r s1=>r = none/\Inv X pins σ H s1) E s
 self:∀ (A:Around) (i:Nat) (s:Shared) (Q:Value->Shared->Prop) (E:Value->Shared->Prop),tn i s.heap->Q (.ref it) s->wpAny (model P w) A (pyIter (.ref it)) Q E s
noncomputable abbrev TI:=St->Hp->(It->Hp->Prop)->Prop
def PIE (X:Cx) (pins:List (Addr × Obj)) (σ:St) (tg:Expr) (R:It->Hp->Prop) (itv:Value) (s2:Shared):Prop:=
 ∃ (it:Addr) (fp:List Addr) (tn:Nat->Heap->Prop) (J:It) (H':Hp),itv = .ref it/\Inv X pins σ H' s2/\Turn X.prog X.w X.K tg J fp it tn/\tn 0 s2.heap/\(∀ b ∈ fp,zbp X pins H' b)/\R J H'
def PI (X:Cx) (tg iter:Expr) (wi:TI):Prop:=
 ∀ (pins:List (Addr × Obj)) (s:Shared) (σ:St) (H:Hp) (R:It->Hp->Prop),Inv X pins σ H s->wi σ H R->
  wpAny (model X.prog X.w) X.A (eval iter X.env) (fun v s1=>wpAny (model X.prog X.w) X.A (pyIter v) (PIE X pins σ tg R) X.xe s1) X.xe s
theorem zfS {o:Obj} {n:String} {vs:Array Value} {Q:Unit->Shared->Prop} (ho:s.heap.get? it = some o) (hc:o.cls = .type n) (hd:o.data = .fields vs)
 (hn:["enumerate","zip","dict_itemiterator","dict_reverseitemiterator","odict_iterator","itertools.zip_longest","itertools.pairwise"].contains n = false) (hQ:Q () s):wpAny M A (letOwnedTupleGo tg (.ref it) u) Q E s:=by
 unfold letOwnedTupleGo
 cases tg <;> first
  | exact Qe hQ
  | (cases u <;> first
    | exact Qe hQ
    | (refine Q1 (wpAny_load ho ?_)
       rw [hc,hd]
       show wpAny M A (if (["enumerate","zip","dict_itemiterator","dict_reverseitemiterator","odict_iterator","itertools.zip_longest","itertools.pairwise"].contains n && vs[0]? == some (rawInt _)) = true then _ else _) Q E s
       rw [if_neg (by intro h;rw [hn,Bool.false_and] at h;cases h)]
       exact Qe hQ))
noncomputable def Itl (K:Frag) (a:Addr):It:=
 ⟨fun i H=>∃ xs x,SqL K H a xs/\xs[i]? = some x,fun i H x H'=>H' = H/\∀ xs,SqL K H a xs->xs[i]? = some x,fun i H=>∃ xs,SqL K H a xs/\xs.length<=i⟩
noncomputable def Itt (K:Frag) (a:Addr):It:=
 ⟨fun i H=>∃ xs x,SqT K H a xs/\xs[i]? = some x,fun i H x H'=>H' = H/\∀ xs,SqT K H a xs->xs[i]? = some x,fun i H=>∃ xs,SqT K H a xs/\xs.length<=i⟩
noncomputable def Itr (lo:Int) (n:Nat):It:=⟨fun i _=>i < n,fun i H x H'=>H' = H/\x = .int (lo + i),fun i _=>n<=i⟩
variable {K:Frag}
theorem zf8 (a it:Addr):Turn P w K tg (Itl K a) [it] it (fun i h=>h.IsListIter it a i) where
 mem:=by simp
 obj:=fun i h st b hb=>by
  have e:b = it:=by simpa using hb
  subst e
  obtain ⟨o,e,c,d⟩:=st
  exact ⟨o,e,fun v z=>by rw [d] at z;cases z⟩
 keep:=fun i h h' st k=>st.at fun o e=>k it (by simp) o e
 item:=by
  intro X hP hw hK hc i pins s σ H E I hf st hg
  subst hP hw hK
  obtain ⟨xs,x,hq,hx⟩:=hg
  obtain ⟨its,rv,p,hz⟩:=I.list hq
  obtain ⟨u,hu,ru⟩:=rv.get hx
  obtain ⟨f0,f1,f2,f3,f4,f5⟩:=hf it (by simp)
  refine wpAny_pyNext_list_item st p.isList (x:=u) (by simpa using hu) fun h' st' sb=>?_
  have I1:Inv X pins σ H { s with heap:=h' }:=I.turned (t':=s.toks) (fun b o hb e=>(sb.2 b hb).trans e) f0 f1 f3 f4 f5
  obtain ⟨o,e,c,d⟩:=id st'
  exact ⟨u,rfl,zfS (s:={ s with heap:=h' }) e c d (by decide) ⟨x,H,I1,ru,⟨rfl,fun ys hy=>by rw [I.list_inj hy hq];exact hx⟩,st',fun b hb=>(hf b hb).1⟩⟩
 done:=by
  intro X hP hw hK hc i pins s σ H E I hf st hg
  subst hP hw hK
  obtain ⟨xs,hq,hx⟩:=hg
  obtain ⟨its,rv,p,hz⟩:=I.list hq
  obtain ⟨f0,f1,f2,f3,f4,f5⟩:=hf it (by simp)
  have hl:=rv.length
  exact wpAny_pyNext_list_end (I.ok.hd hc) st p.isList (by simp;omega) fun h' eb=>⟨rfl,I.turned (t':=s.toks) (fun b o hb e=>eb b o hb e) f0 f1 f3 f4 f5⟩
 self:=fun _ _ _ _ _ st h=>wpAny_pyIter_listiter st h
theorem zfo (a it:Addr):Turn P w K tg (Itt K a) [it] it (fun i h=>h.IsTupleIter it a i) where
 mem:=by simp
 obj:=fun i h st b hb=>by
  have e:b = it:=by simpa using hb
  subst e
  obtain ⟨o,e,c,d⟩:=st
  exact ⟨o,e,fun v z=>by rw [d] at z;cases z⟩
 keep:=fun i h h' st k=>st.at fun o e=>k it (by simp) o e
 item:=by
  intro X hP hw hK hc i pins s σ H E I hf st hg
  subst hP hw hK
  obtain ⟨xs,x,hq,hx⟩:=hg
  obtain ⟨its,rv,p,hz⟩:=I.tuple hq
  obtain ⟨u,hu,ru⟩:=rv.get hx
  obtain ⟨f0,f1,f2,f3,f4,f5⟩:=hf it (by simp)
  refine wpAny_pyNext_tuple_item st (show s.heap.IsTuple a its.toArray from p) (x:=u) (by simpa using hu) fun h' st' sb=>?_
  have I1:Inv X pins σ H { s with heap:=h' }:=I.turned (t':=s.toks) (fun b o hb e=>(sb.2 b hb).trans e) f0 f1 f3 f4 f5
  obtain ⟨o,e,c,d⟩:=id st'
  exact ⟨u,rfl,zfS (s:={ s with heap:=h' }) e c d (by decide) ⟨x,H,I1,ru,⟨rfl,fun ys hy=>by rw [I.tuple_inj hy hq];exact hx⟩,st',fun b hb=>(hf b hb).1⟩⟩
 done:=by
  intro X hP hw hK hc i pins s σ H E I hf st hg
  subst hP hw hK
  obtain ⟨xs,hq,hx⟩:=hg
  obtain ⟨its,rv,p,hz⟩:=I.tuple hq
  obtain ⟨f0,f1,f2,f3,f4,f5⟩:=hf it (by simp)
  have hl:=rv.length
  exact wpAny_pyNext_tuple_end (I.ok.hd hc) st (show s.heap.IsTuple a its.toArray from p) (by simp;omega) fun h' eb=>⟨rfl,I.turned (t':=s.toks) (fun b o hb e=>eb b o hb e) f0 f1 f3 f4 f5⟩
 self:=fun _ _ _ _ _ st h=>wpAny_pyIter_tupleiter st h
theorem zfp (it:Addr) (lo:Int) (n:Nat):Turn P w K tg (Itr lo n) [it] it (fun i h=>IsRangeIter h it (lo + (i:Nat) * 1) ((n:Int) - (i:Nat)) 1) where
 mem:=by simp
 obj:=fun i h st b hb=>by
  have e:b = it:=by simpa using hb
  subst e
  exact ⟨_,st,fun v z=>by
   have z':Data.fields _ = Data.cell v:=z
   cases z'⟩
 keep:=fun i h h' st k=>k it (by simp) _ st
 item:=by
  intro X hP hw hK hc i pins s σ H E I hf st hg
  subst hP hw hK
  obtain ⟨f0,f1,f2,f3,f4,f5⟩:=hf it (by simp)
  have W:=Walks.range (prog:=X.prog) (w:=X.w) (I.ok.hd hc) it lo 1 n
  refine W.item i s _ _ hg st fun v h' tk hv st' kk=>?_
  obtain ⟨t,rfl⟩:=hv
  have I1:Inv X pins σ H { s with heap:=h',toks:=tk }:=I.turned (fun b o hb e=>kk b o (by simpa using hb) e) f0 f1 f3 f4 f5
  refine ⟨_,rfl,zfS (s:={ s with heap:=h',toks:=tk }) (n:="range_iterator") st' rfl rfl (by decide) ⟨.int (lo + i),H,I1,⟨t,?_⟩,⟨rfl,rfl⟩,st',fun b hb=>(hf b hb).1⟩⟩
  rw [Int.mul_one]
 done:=by
  intro X hP hw hK hc i pins s σ H E I hf st hg
  subst hP hw hK
  obtain ⟨f0,f1,f2,f3,f4,f5⟩:=hf it (by simp)
  exact wpAny_pyNext_range_end (I.ok.hd hc) st (by have:n<=i:=hg;omega) fun h' eb=>⟨rfl,I.turned (t':=s.toks) (fun b o hb e=>eb b o hb e) f0 f1 f3 f4 f5⟩
 self:=fun _ _ _ _ _ st h=>wpAny_pyIter_rangeiter st h
variable {l:Expr} {fp:List Addr} {body:List Stmt} {p:Pos} {tl:TE}
section
noncomputable def zle (K:Frag) (tl:TE):TI:=fun σ H R=>tl σ H fun x H1=>∃ a,x = .ref a/\(∃ xs,SqL K H1 a xs)/\R (Itl K a) H1
noncomputable def zlW (K:Frag) (tl:TE):TI:=fun σ H R=>tl σ H fun x H1=>∃ a,x = .ref a/\(∃ xs,SqT K H1 a xs)/\R (Itt K a) H1
theorem ze0 (hl:PE X l tl):PI X tg l (zle X.K tl):=by
 intro pins s σ H R I h
 refine thn (hl pins s σ H _ I h) fun v s1 ⟨x,H1,I1,r1,q1⟩=>?_
 obtain ⟨a,e,⟨xs,hq⟩,q⟩:=q1
 subst e
 cases r1
 obtain ⟨its,rv,p,hz⟩:=I1.list hq
 refine wpAny_pyIter_list p.isList ?_
 refine ⟨s1.heap.objs.size,[s1.heap.objs.size],_,_,H1,rfl,I1.kept (t':=s1.toks) fun b o e=>Q2 _ e,zf8 a _,⟨_,Qk _ rfl,rfl,rfl⟩,fun b hb=>?_,q⟩
 have e:b = s1.heap.objs.size:=by simpa using hb
 subst e
 exact I1.fpOk (Q3 _) (I1.hok.fresh (Q3 _))
theorem zjE (hl:PE X l tl):PI X tg l (zlW X.K tl):=by
 intro pins s σ H R I h
 refine thn (hl pins s σ H _ I h) fun v s1 ⟨x,H1,I1,r1,q1⟩=>?_
 obtain ⟨a,e,⟨xs,hq⟩,q⟩:=q1
 subst e
 cases r1
 obtain ⟨its,rv,p,hz⟩:=I1.tuple hq
 refine wpAny_pyIter_tuple (show s1.heap.IsTuple a its.toArray from p) ?_
 refine ⟨s1.heap.objs.size,[s1.heap.objs.size],_,_,H1,rfl,I1.kept (t':=s1.toks) fun b o e=>Q2 _ e,zfo a _,⟨_,Qk _ rfl,rfl,rfl⟩,fun b hb=>?_,q⟩
 have e:b = s1.heap.objs.size:=by simpa using hb
 subst e
 exact I1.fpOk (Q3 _) (I1.hok.fresh (Q3 _))
theorem zd1 {R:It->Hp->Prop} {lo hi:Int} {t u v:Tok} {tk:Nat} (I:Inv X pins σ H s) (h1:-(2 ^ 62)<=lo) (h2:lo < 2 ^ 62) (h3:-(2 ^ 62)<=hi) (h4:hi < 2 ^ 62)
 (q:R (Itr lo (hi - lo).toNat) H):wpAny (model X.prog X.w) X.A (pyIter (.ref s.heap.objs.size)) (PIE X pins σ tg R) E { s with heap:=s.heap.push { cls:=.type "range",data:=.fields #[.int lo t,.int hi u,.int 1 v] },toks:=tk }:=by
 refine wpAny_pyIter_range (IsRange.new ..) (small_one h1 h2 h3 h4) ?_
 have I1:Inv X pins σ H { s with heap:=s.heap.push { cls:=.type "range",data:=.fields #[.int lo t,.int hi u,.int 1 v] },toks:=tk }:=I.kept fun b o e=>Q2 _ e
 refine ⟨(s.heap.push { cls:=.type "range",data:=.fields #[.int lo t,.int hi u,.int 1 v] }).objs.size,[(s.heap.push { cls:=.type "range",data:=.fields #[.int lo t,.int hi u,.int 1 v] }).objs.size],_,_,H,rfl,
  I1.kept (t':=tk) fun b o e=>Q2 _ e,zfp _ lo (hi - lo).toNat,?_,fun b hb=>?_,q⟩
 ·have e1:lo + ((0:Nat):Int) * 1 = lo:=by simp
  have e2:(((hi - lo).toNat:Nat):Int) - ((0:Nat):Int) = Builtin.Range.rangeSize lo hi 1:=by rw [rangeSize_one];split <;> omega
  show IsRangeIter _ _ (lo + ((0:Nat):Int) * 1) ((((hi - lo).toNat:Nat):Int) - ((0:Nat):Int)) 1
  rw [e1,e2]
  exact Qk _ rfl
 ·have e:b = (s.heap.push { cls:=.type "range",data:=.fields #[.int lo t,.int hi u,.int 1 v] }).objs.size:=by simpa using hb
  subst e
  exact I1.fpOk (Q3 _) (I1.hok.fresh (Q3 _))
noncomputable def zld (ta:TA):TI:=fun σ H R=>ta σ H fun vs H1=>∃ j:Int,vs = [.int j]/\-(2 ^ 62)<=j/\j < 2 ^ 62/\R (Itr 0 j.toNat) H1
noncomputable def zlc (ta:TA):TI:=fun σ H R=>ta σ H fun vs H1=>∃ i j:Int,vs = [.int i,.int j]/\(-(2 ^ 62)<=i/\i < 2 ^ 62/\-(2 ^ 62)<=j/\j < 2 ^ 62)/\R (Itr i (j - i).toNat) H1
theorem zgo {a:Expr} {ta:TA} (hg:Gl X "range") (hm:X.mg "range" = none) (ha:PA X [a] ta) (hs:starEach [a] X.env = [(false,eval a X.env)]:=by rfl):PI X tg (.Call (.Name "range" p) [a] [] pos) (zld ta):=by
 intro pins s σ H R I h
 refine Call_ (zbe I hg hm boot_range (PyProof.Rows.callWith_type1 (thn (ha pos pins s σ H _ I h) fun us s1 ⟨vs,H1,I1,r1,q1⟩=>?_) hs rfl))
 obtain ⟨j,e,q1,q2,q⟩:=q1
 subst e
 cases r1 with
 | cons r rr=>
  cases rr
  obtain ⟨t,rfl⟩:=r
  exact call_range_1 (zd1 I1 (by omega) (by omega) q1 q2 (by simpa using q))
theorem zgn {a b:Expr} {ta:TA} (hg:Gl X "range") (hm:X.mg "range" = none) (ha:PA X [a,b] ta) (hs:starEach [a,b] X.env = [(false,eval a X.env),(false,eval b X.env)]:=by rfl) (hs2:starEach [b] X.env = [(false,eval b X.env)]:=by rfl) :
  PI X tg (.Call (.Name "range" p) [a,b] [] pos) (zlc ta):=by
 intro pins s σ H R I h
 refine Call_ (zbe I hg hm boot_range (PyProof.Rows.callWith_type1 (thn (ha pos pins s σ H _ I h) fun us s1 ⟨vs,H1,I1,r1,q1⟩=>?_) (by rw [hs,hs2]) (by rw [hs2];rfl)))
 obtain ⟨i,j,e,⟨q1,q2,q3,q4⟩,q⟩:=q1
 subst e
 cases r1 with
 | cons r rr=>
  cases rr with
  | cons r' rr=>
   cases rr
   obtain ⟨t,rfl⟩:=r
   obtain ⟨t',rfl⟩:=r'
   exact call_range_2 (zd1 I1 q1 q2 q3 q4 q)
noncomputable def zlC (wi:TI) (g:TG) (tb:TS):TS:=fun D σ H=>wi σ H fun J H1=>∃ W:Nat->Nat->St->Hp->Prop,(∃ m,W 0 m σ H1)/\∀ i m σ H,W i m σ H->
 (J.stop i H/\D.nx σ H)\/(J.go i H/\∃ N:St->Hp->Prop,(∀ σ' H',N σ' H'->∃ m',m' < m/\W (i + 1) m' σ' H')/\∀ x H',J.yld i H x H'->g x σ H' fun σ2 H2=>tb { D with nx:=N,ct:=N,bk:=D.nx } σ2 H2)
noncomputable def zaw (fp:List Addr) (h:Heap):List (Addr × Obj):=fp.filterMap fun b=>(h.get? b).map fun o=>(b,o)
theorem yK {b:Addr} {o:Obj} (hb:b ∈ fp) (e:h.get? b = some o):(b,o) ∈ zaw fp h:=List.mem_filterMap.mpr ⟨b,hb,by rw [e];rfl⟩
theorem zgs {p:Addr × Obj} (hp:p ∈ zaw fp h):p.1 ∈ fp/\h.get? p.1 = some p.2:=by
 obtain ⟨b,hb,e⟩:=List.mem_filterMap.mp hp
 cases q:h.get? b with
 | none=>rw [q] at e;cases e
 | some o=>
  rw [q] at e
  have e':(b,o) = p:=Qc e
  subst e'
  exact ⟨hb,q⟩
theorem Inv.pinned (I:Inv X pins σ H s) (hf:∀ b ∈ fp,zbp X pins H b) (ho:∀ b ∈ fp,∃ o,s.heap.get? b = some o/\∀ v,o.data ≠ .cell v):Inv X (pins ++ zaw fp s.heap) σ H s:=
 I.pins_of fun p hp=>(mem_append.mp hp).elim (fun z=>I.pin p (Ql _ z)) fun z=>by
  obtain ⟨hb,e⟩:=zgs z
  obtain ⟨f0,f1,f2,_⟩:=hf p.1 hb
  obtain ⟨o,e',d⟩:=ho p.1 hb
  rw [e] at e';cases e'
  exact ⟨e,f0,f1,f2,d⟩
theorem Inv.unpinned {pl:List (Addr × Obj)} (I:Inv X (pins ++ pl) σ H s):Inv X pins σ H s:=I.pins_of fun p hp=>I.pin p (Ql _ (mem_append_left _ hp))
theorem zgl {iter:Expr} {wi:TI} {tb:TS} (hp:PassesOwn (model X.prog X.w) X.A X.env X.xe) (hc:X.calm = true) (hi:PI X tg iter wi) (hg:PG X tg g) (hb:PSs X body tb)
 (hs:∀ x,foldedSetIterable iter X.env x = pure x:=by intro _;rfl):PS X (.For tg iter body [] pos) (zlC wi g tb):=by
 intro pins s σ H D I h
 refine wpAny_For (thn (hi pins s σ H _ I h) fun v s1 h1=>thn h1 fun itv s2 h2=>?_) hs
 obtain ⟨it,fp,tn,J,H2,e,I2,T,st2,f2,W,⟨m0,w0⟩,turn⟩:=h2
 subst e
 -- what stays true of the iterator's objects through the loop
 have stat:∀ {H':Hp},(∀ b ∈ fp,H' b = none)->∀ b ∈ fp,zbp X pins H' b:=fun hn b hb=>⟨hn b hb,(f2 b hb).2⟩
 refine codeAny_forLoop_any (fun n s'=>∃ i σ' H',Inv X pins σ' H' s'/\tn i s'.heap/\(∀ b ∈ fp,H' b = none)/\W i n σ' H') ?_ m0 ⟨0,σ,H2,I2,st2,fun b hb=>(f2 b hb).1,w0⟩
 rintro n s3 ⟨i,σ3,H3,I3,st3,fr3,w3⟩
 rcases turn i n σ3 H3 w3 with ⟨stop,qn⟩ | ⟨go,N,hN,step⟩
 ·refine wpAny_passesOwn hp (thn (T.done X rfl rfl rfl hc i pins s3 σ3 H3 X.xe I3 (stat fr3) st3 stop) fun r s4 ⟨hr,I4⟩=>?_)
  subst hr
  exact wpAny_execs_nil ⟨σ3,H3,I4,qn⟩
 ·refine wpAny_passesOwn hp (thn (T.item X rfl rfl rfl hc i pins s3 σ3 H3 X.xe I3 (stat fr3) st3 go) fun r s4 ⟨u,hr,h4⟩=>?_)
  subst hr
  refine wpAny_passesOwn hp (thn h4 fun _ s5 ⟨x,H5,I5,r5,y5,st5,fr5⟩=>?_)
  have I5':=I5.pinned (stat fr5) (T.obj _ _ st5)
  refine wpAny_passesOwn hp (thn (hg _ s5 σ3 H5 x u _ I5' r5 (step x H5 y5)) fun _ s6 ⟨σ6,H6,I6,q6⟩=>?_)
  refine wpAny_passesOwn hp (thn (hb _ s6 σ6 H6 _ I6 q6) fun f s7 q7=>?_)
  have again:∀ {σ7:St} {H7:Hp},Inv X (pins ++ zaw fp s5.heap) σ7 H7 s7->N σ7 H7->∃ m,m < n/\∃ i σ' H',Inv X pins σ' H' s7/\tn i s7.heap/\(∀ b ∈ fp,H' b = none)/\W i m σ' H':=fun {σ7 H7} I7 n7=>by
   obtain ⟨m',hm,w7⟩:=hN σ7 H7 n7
   refine ⟨m',hm,i + 1,σ7,H7,I7.unpinned,T.keep _ _ _ st5 fun b hb o e=>(I7.pin (b,o) (Ql _ (Ql _ (yK hb e)))).1,fun b hb=>?_,w7⟩
   obtain ⟨o,e,d⟩:=T.obj _ _ st5 b hb
   exact (I7.pin (b,o) (Ql _ (Ql _ (yK hb e)))).2.1
  cases f with
  | next=>obtain ⟨σ7,H7,I7,n7⟩:=q7;exact again I7 n7
  | cont=>obtain ⟨σ7,H7,I7,n7⟩:=q7;exact again I7 n7
  | brk=>obtain ⟨σ7,H7,I7,q7⟩:=q7;exact ⟨σ7,H7,I7.unpinned,q7⟩
  | ret v=>obtain ⟨x7,σ7,H7,I7,r7,q7⟩:=q7;exact ⟨x7,σ7,H7,I7.unpinned,r7,q7⟩
end
noncomputable abbrev R2:=V->V->Hp->VK->Prop
def OpR (X:Cx) (f:Value->Value->Sem Value) (r:R2):Prop:=
 ∀ (pins:List (Addr × Obj)) (s:Shared) (σ:St) (H:Hp) (x y:V) (v u:Value) (Q:VK),Inv X pins σ H s->RelV x v->RelV y u->r x y H Q->
  wpAny (model X.prog X.w) X.A (f v u) (EP X pins σ Q) X.xe s
def UnR (X:Cx) (f:Value->Sem Value) (r:V->Hp->VK->Prop):Prop:=
 ∀ (pins:List (Addr × Obj)) (s:Shared) (σ:St) (H:Hp) (x:V) (v:Value) (Q:VK),Inv X pins σ H s->RelV x v->r x H Q->
  wpAny (model X.prog X.w) X.A (f v) (EP X pins σ Q) X.xe s
def CallR (X:Cx) (f:Value) (r:List V->Hp->VK->Prop):Prop:=
 ∀ (pins:List (Addr × Obj)) (s:Shared) (σ:St) (H:Hp) (xs:List V) (us:List Value) (Q:VK),Inv X pins σ H s->Vals xs us->r xs H Q->
  wpAny (model X.prog X.w) X.A (call f us) (EP X pins σ Q) X.xe s
noncomputable def tOp (r:R2) (ta tb:TE):TE:=fun σ H Q=>ta σ H fun x H1=>tb σ H1 fun y H2=>r x y H2 Q
noncomputable def rI (C:Int->Int->Prop) (g:Int->Int->V):R2:=fun x y H Q=>∃ i j,x = .int i/\y = .int j/\C i j/\Q (g i j) H
noncomputable def rI0 (g:Int->Int->V):R2:=fun x y H Q=>∃ i j,x = .int i/\y = .int j/\Q (g i j) H
variable {tc:TE} {f:Value->Value->Sem Value}
section
variable {a b:Expr}
theorem zhM (ha:PE X a ta) (hb:PE X b tb) (I:Inv X pins σ H s)
 (h:ta σ H fun x H1=>tb σ H1 fun y H2=>R x y H2) 
 (hf:∀ v u s2 x y H2,Inv X pins σ H2 s2->RelV x v->RelV y u->R x y H2->wpAny (model X.prog X.w) X.A (f v u) Q X.xe s2) :
  wpAny (model X.prog X.w) X.A (eval a X.env) (fun v s₁=>wpAny (model X.prog X.w) X.A (eval b X.env) (fun u s₂=>wpAny (model X.prog X.w) X.A (f v u) Q X.xe s₂) X.xe s₁) X.xe s:=by
 refine thn (ha pins s σ H _ I h) fun v s1 ⟨x,H1,I1,r1,q1⟩=>?_
 refine thn (hb pins s1 σ H1 _ I1 q1) fun u s2 ⟨y,H2,I2,r2,q2⟩=>?_
 exact hf v u s2 x y H2 I2 r1 r2 q2
theorem zk3 {op:Operator} {r:R2} (ho:OpR X (binaryOp op) r) (ha:PE X a ta) (hb:PE X b tb):PE X (.BinOp a op b pos) (tOp r ta tb):=by
 intro pins s σ H Q I h
 exact wpAny_BinOp (zhM ha hb I h fun v u s2 x y H2 I2 rx ry q=>ho pins s2 σ H2 x y v u Q I2 rx ry q)
theorem opI {C:Int->Int->Prop} {g:Int->Int->Int}
 (rule:∀ (i j:Int) (t u:Tok) (s:Shared) (Q:Value->Shared->Prop) (E:Value->Shared->Prop),C i j->Q (.int (g i j) s.toks) { s with toks:=s.toks + 1 }->wpAny (model X.prog X.w) X.A (f (.int i t) (.int j u)) Q E s) :
  OpR X f (rI C fun i j=>.int (g i j)):=by
 intro pins s σ H x y v u Q I rx ry h
 obtain ⟨i,j,rfl,rfl,hc,q⟩:=h
 obtain ⟨t,rfl⟩:=rx
 obtain ⟨t',rfl⟩:=ry
 exact rule i j t t' s _ _ hc ⟨.int (g i j),H,I.tok _,⟨_,rfl⟩,q⟩
theorem zjU {g:Int->Int->Int}
 (rule:∀ (i j:Int) (t u:Tok) (s:Shared) (Q:Value->Shared->Prop) (E:Value->Shared->Prop),Q (.int (g i j) s.toks) { s with toks:=s.toks + 1 }->wpAny (model X.prog X.w) X.A (f (.int i t) (.int j u)) Q E s) :
  OpR X f (rI0 fun i j=>.int (g i j)):=by
 intro pins s σ H x y v u Q I rx ry h
 obtain ⟨i,j,rfl,rfl,q⟩:=h
 obtain ⟨t,rfl⟩:=rx
 obtain ⟨t',rfl⟩:=ry
 exact rule i j t t' s _ _ ⟨.int (g i j),H,I.tok _,⟨_,rfl⟩,q⟩
theorem zhl {g:Int->Int->Bool}
 (rule:∀ (i j:Int) (t u:Tok) (s:Shared) (Q:Value->Shared->Prop) (E:Value->Shared->Prop),Q (.bool (g i j)) s->wpAny (model X.prog X.w) X.A (f (.int i t) (.int j u)) Q E s) :
  OpR X f (rI0 fun i j=>.bl (g i j)):=by
 intro pins s σ H x y v u Q I rx ry h
 obtain ⟨i,j,rfl,rfl,q⟩:=h
 obtain ⟨t,rfl⟩:=rx
 obtain ⟨t',rfl⟩:=ry
 exact rule i j t t' s _ _ ⟨.bl (g i j),H,I,rfl,q⟩
def zl7 (i j:Int):Prop:=0<=j/\j<=1000000/\i.natAbs < 2 ^ 64
def CMul (i j:Int):Prop:=(-(2 ^ 64) < i/\i < 2 ^ 64)\/(-(2 ^ 64) < j/\j < 2 ^ 64)
theorem CMul.ok {i j:Int} (h:CMul i j):IntMulOk i j:=by
 rcases h with ⟨h1,h2⟩ | ⟨h1,h2⟩
 ·exact .of_left (intBits_le_64 h1 h2)
 ·exact .of_right (intBits_le_64 h1 h2)
theorem zjT:OpR X (binaryOp .Add) (rI0 fun i j=>.int (i + j)):=zjU fun _ _ _ _ _ _ _ q=>add_int q
theorem zjP:OpR X (binaryOp .Sub) (rI0 fun i j=>.int (i - j)):=zjU fun _ _ _ _ _ _ _ q=>sub_int q
theorem ziA:OpR X (binaryOp .Mod) (rI (fun _ j=>j ≠ 0) fun i j=>.int (i.fmod j)):=opI fun _ _ _ _ _ _ _ hc q=>mod_int' hc q
theorem zjQ:OpR X (binaryOp .Pow) (rI zl7 fun i j=>.int (i ^ j.toNat)):=opI fun _ _ _ _ _ _ _ hc q=>pow_int_small hc.1 hc.2.1 hc.2.2 q
end
section
variable {a b:Expr}
theorem zk7:OpR X (compareOp .Lt) (rI0 fun i j=>.bl (decide (i < j))):=zhl fun _ _ _ _ _ _ _ q=>lt_int q
theorem zk8:OpR X (compareOp .LtE) (rI0 fun i j=>.bl (decide (i<=j))):=zhl fun _ _ _ _ _ _ _ q=>le_int q
theorem zk9:OpR X (compareOp .Gt) (rI0 fun i j=>.bl (decide (j < i))):=zhl fun _ _ _ _ _ _ _ q=>gt_int q
theorem qH (b:Expr) (h:op ≠ .In:=by decide) (h2:op ≠ .NotIn:=by decide):behindInMarks op b = false:=by
 have e1:(op == CmpOp.In) = false:=by cases op <;> first | rfl | exact absurd rfl h
 have e2:(op == CmpOp.NotIn) = false:=by cases op <;> first | rfl | exact absurd rfl h2
 cases b <;> simp [behindInMarks,e1,e2]
theorem ziu {r:R2} (ho:OpR X (compareOp op) r) (ha:PE X a ta) (hb:PE X b tb) (hm:behindInMarks op b = false):PE X (.Compare a [op] [b] pos) (tOp r ta tb):=by
 intro pins s σ H Q I h
 exact wpAny_Compare1 (zhM ha hb I h fun v u s2 x y H2 I2 rx ry q=>ho pins s2 σ H2 x y v u Q I2 rx ry q) hm
noncomputable def zhO (t:TE):TT:=fun σ H Q=>t σ H fun x H'=>∃ k,x = .bl k/\Q k H'
theorem zik {r:R2} (ho:OpR X (compareOp op) r) (ha:PE X a ta) (hb:PE X b tb) (hm:behindInMarks op b = false):PT X (.Compare a [op] [b] pos) (zhO (tOp r ta tb)):=by
 intro pins s σ H Q I h
 refine wpAny_isTrue_Compare1 (thn (ha pins s σ H _ I h) fun v s1 ⟨x,H1,I1,r1,q1⟩=>thn (hb pins s1 σ H1 _ I1 q1) fun u s2 ⟨y,H2,I2,r2,q2⟩=>
  thn (ho pins s2 σ H2 x y v u _ I2 r1 r2 q2) fun c s3 ⟨z,H3,I3,r3,k,e,q3⟩=>?_) hm
 subst e
 cases r3
 exact wpAny_truthy_bool ⟨H3,I3,q3⟩
noncomputable def zgb (r r':R2) (ta tb tc:TE):TE:=fun σ H Q=>ta σ H fun x H1=>tb σ H1 fun y H2=>r x y H2 fun z H3=>∃ k,z = .bl k /\
 (if k = true then tc σ H3 fun w' H4=>r' y w' H4 Q else Q (.bl false) H3)
theorem zhf {op':CmpOp} {r r':R2} (ho:OpR X (compareOp op) r) (ho':OpR X (compareOp op') r') (ha:PE X a ta) (hb:PE X b tb) (hc:PE X c tc)
 (hm:lastMarks [op,op'] [b,c] = false:=by with_unfolding_all rfl):PT X (.Compare a [op,op'] [b,c] pos) (zhO (zgb r r' ta tb tc)):=by
 intro pins s σ H Q I h
 refine isTrue_chain (thn (ha pins s σ H _ I h) fun v s1 ⟨x,H1,I1,r1,q1⟩=>test_link (thn (hb pins s1 σ H1 _ I1 q1) fun u s2 ⟨y,H2,I2,r2,q2⟩=>
  thn (ho pins s2 σ H2 x y v u _ I2 r1 r2 q2) fun d s3 ⟨z,H3,I3,r3,k,e,q3⟩=>?_)) hm
 subst e
 cases r3
 refine wpAny_truthy_bool ?_
 cases k with
 | false=>
  obtain ⟨k',e',q'⟩:=q3
  cases e'
  exact ite_ff ⟨H3,I3,q'⟩
 | true=>
  refine ite_tt (test_last (thn (hc pins s3 σ H3 _ I3 q3) fun w' s4 ⟨z',H4,I4,r4,q4⟩=>thn (ho' pins s4 σ H4 y z' u w' _ I4 r2 r4 q4) fun d' s5 ⟨z2,H5,I5,r5,k2,e2,q5⟩=>?_))
  subst e2
  cases r5
  exact wpAny_truthy_bool ⟨H5,I5,q5⟩
theorem zay:(sizeLine:Nat) < 2 ^ 63:=by rw [sizeLine_eq];decide
theorem zfI:OpR X (binaryOp .Add) (fun x y H Q=>∃ i j,x = .str i/\y = .str j/\i.length + j.length<=sizeLine/\Q (.str (i ++ j)) H):=by
 intro pins s σ H x y v u Q I rx ry h
 obtain ⟨i,j,rfl,rfl,hz,q⟩:=h
 obtain ⟨t,rfl⟩:=rx
 obtain ⟨t',rfl⟩:=ry
 exact add_str (fun t' tk=>⟨.str (i ++ j),H,I.tok _,⟨_,rfl⟩,q⟩) hz
theorem vals1 {x:V} (r:Vals [x] us):∃ u,us = [u]/\RelV x u:=by
 cases r with
 | cons r1 r2=>cases r2;exact ⟨_,rfl,r1⟩
theorem vals2 {x:V} (r:Vals [x,y] us):∃ u w',us = [u,w']/\RelV x u/\RelV y w':=by
 cases r with
 | cons r1 r2=>
  cases r2 with
  | cons r3 r4=>cases r4;exact ⟨_,_,rfl,r1,r3⟩
theorem zgW (hc:X.calm = true):CallR X (.builtin "max") (fun xs H Q=>∃ i j,xs = [.int i,.int j]/\Q (.int (if j > i then j else i)) H):=by
 intro pins s σ H xs us Q I r h
 obtain ⟨i,j,rfl,q⟩:=h
 obtain ⟨u,w',rfl,⟨t,rfl⟩,⟨t',rfl⟩⟩:=vals2 r
 refine max_two_ints (I.ok.hd hc) fun h' tk k=>⟨_,H,I.kept k,?_,q⟩
 by_cases hj:j > i
 ·rw [if_pos hj,if_pos hj];exact ⟨_,rfl⟩
 ·rw [if_neg hj,if_neg hj];exact ⟨_,rfl⟩
theorem zgV (hc:X.calm = true):CallR X (.builtin "min") (fun xs H Q=>∃ i j,xs = [.int i,.int j]/\Q (.int (if j < i then j else i)) H):=by
 intro pins s σ H xs us Q I r h
 obtain ⟨i,j,rfl,q⟩:=h
 obtain ⟨u,w',rfl,⟨t,rfl⟩,⟨t',rfl⟩⟩:=vals2 r
 refine min_two_ints (I.ok.hd hc) fun h' tk k=>⟨_,H,I.kept k,?_,q⟩
 by_cases hj:j < i
 ·rw [if_pos hj,if_pos hj];exact ⟨_,rfl⟩
 ·rw [if_neg hj,if_neg hj];exact ⟨_,rfl⟩
end
structure ObjM (h:Heap) (x dx C:Addr) (mA:Str->Option Value):Prop where
 obj:h.get? x = some (PySem.W.instObj C dx)
 ns:h.Ns1 dx mA
 ne:dx ≠ x
variable {dx:Addr} {mA:Str->Option Value}
theorem zgu (n:h.Ns1 dx mA):∃ od,h.get? dx = some od/\∀ name,PySem.W.lookIn name od = some (mA name):=by
 obtain ⟨o,es,ep,ho,hd,hk,_,hm⟩:=n
 refine ⟨o,ho,fun name=>?_⟩
 have e:=hm name
 unfold nsFind findBy at e
 rw [← Array.find?_toList] at e
 unfold PySem.W.lookIn
 rw [hd]
 dsimp only
 split
 ·rename_i y q
  rw [q] at e
  exact congrArg some e
 ·rename_i q
  rw [q] at e
  have a:es.toList.any (·.refKey) = false:=by
   rw [List.any_eq_false]
   intro y hy
   obtain ⟨z,t,hkey⟩:=hk y (Array.mem_toList_iff.mp hy)
   simp [DictEntry.refKey,hkey]
  have a':¬ es.toList.any (·.refKey) = true:=by rw [a];exact Q4
  rw [if_neg a']
  exact congrArg some e
variable {C:Addr}
theorem ObjM.look {x:Addr} (I:ObjM h x dx C mA):∃ od,PySem.W.InstAt h x (PySem.W.instObj C dx) C (some od)/\∀ name,PySem.W.lookIn name od = some (mA name):=
 let ⟨od,ho,hl⟩:=zgu I.ns
 ⟨od,⟨I.obj,rfl,rfl,ho⟩,hl⟩
noncomputable def zhe (f:Str) (v:V):List (Str × V)->List (Str × V)
 | []=>[(f,v)]
 | (g,x) :: r=>if g = f then (g,v) :: r else (g,x) :: zhe f v r
theorem RelO.some_of {o:Option Value} (r:RelO (some v) o):∃ u,o = some u/\RelV v u:=by
 cases o with
 | none=>exact (show False from r).elim
 | some u=>exact ⟨u,rfl,r⟩
structure Cls (K:Frag) (C:Addr):Prop where
 pg:PySem.W.plainGet K C Str.empty = true
 hd:PySem.W.hasDictIn K C = true
 po:PySem.W.plainOver K C = true
 sa:PySem.W.findIn K (.ref C) "__setattr__" = some (some (.builtin "object.__setattr__"))
structure Con (K:Frag) (C:Addr) (f:Str) (v:V) (u:Value):Prop where
 at_:PySem.W.findIn K (.ref C) f = some (some u)
 rel:RelV v u
 get:PySem.W.specialIn K u "__get__" = some none
 cp:PySem.W.copiedNames.contains f = false
structure Meth (K:Frag) (C:Addr) (m:Str) (f:Addr):Prop where
 at_:PySem.W.findIn K (.ref C) m = some (some (.ref f))
 fn:PySem.W.isFn K (.ref f) = true
 kp:PySem.W.keepIn K (.ref f) = true
section
variable {c:Value} {b:Bool}
inductive TyOf (K:Frag) (H:Hp):V->Value->Prop where
 | non:TyOf K H .non (.type "NoneType")
 | bl (x:Bool):TyOf K H (.bl x) (.type "bool")
 | int (i:Int):TyOf K H (.int i) (.type "int")
 | str (x:Str):TyOf K H (.str x) (.type "str")
 | flt (x:UInt64):TyOf K H (.flt x) (.type "float")
 | lst {a:Addr} {xs:List V} (e:H a = some (.lst xs)):TyOf K H (.ref a) (.type "list")
 | frz {a:Addr} {o:Obj} {xs:List V} (e:H a = some (.frz o (.lst xs))):TyOf K H (.ref a) (.type "list")
 | tup {a:Addr} {xs:List V} (e:H a = some (.tup xs)):TyOf K H (.ref a) (.type "tuple")
 | dK {a:Addr} {kvs:List (Key × V)} (e:H a = some (.dK kvs)):TyOf K H (.ref a) (.type "dict")
 | dT {a:Addr} {kvs:List (List Key × V)} (e:H a = some (.dT kvs)):TyOf K H (.ref a) (.type "dict")
 | ins {a C dx:Addr} {fs:List (Str × V)} (e:H a = some (.ins C dx fs)) (cl:Cls K C) (ha:PySem.W.findIn K (.ref C) "__class__" = some (some (.builtin "object.__class__")))
   (hn:PySem.W.specialIn K (.builtin "object.__class__") "__get__" = some (some (.builtin "getset_descriptor.__get__"))) (htk:PySem.W.takesIn K (.builtin "object.__class__") = some true)
   (hm:PySem.W.mroIn K C (.type "object") = some true):TyOf K H (.ref a) (.ref C)
end
structure Room (k:Nat) (A:Around):Prop where
 hd:A.handled = none
 dp:A.depth + 3 * k + 5 < recursionLimit
 un:A.units + 16 * k + 200 < cLine
theorem Room.mono {k:Nat} (r:Room k A) (h:j<=k):Room j A:=⟨r.hd,by have:=r.dp;omega,by have:=r.un;omega⟩
theorem Room.deeper {k:Nat} (r:Room (k + 1) A) (env:Env):Room k (A.deeper env):=
 ⟨r.hd,by have:=r.dp;show A.depth + 1 + 3 * k + 5 < _;omega,by have:=r.un;show A.units + 3 + 16 * k + 200 < _;omega⟩
theorem Room.in1 {k:Nat} (r:Room (k + 1) A):Room k A.in1:=
 ⟨r.hd,by have:=r.dp;show A.depth + 3 * k + 5 < _;omega,by have:=r.un;show A.units + 1 + 16 * k + 200 < _;omega⟩
variable {kw:List (Str × Value)}
theorem zfO:(A.under (.builtin "type.__call__" ⟨.ref C :: us,kw⟩)).depth = A.depth + 1:=by
 first | rfl | simp [Around.under,Code.weight,Code.isCreation,Code.isGuard,Code.isCaller,Code.frames,Code.isFrame,guardIds]
theorem zfN:(A.under (.builtin "type.__call__" ⟨.ref C :: us,kw⟩)).units = A.units + 1:=by
 first | rfl | simp [Around.under,Code.cUnits,Code.frames,Code.isFrame]
theorem Room.make {k:Nat} (r:Room (k + 1) A) (C:Addr) (us:List Value) (kw:List (Str × Value)):Room k (A.under (.builtin "type.__call__" ⟨.ref C :: us,kw⟩)):=
 ⟨r.hd,by have:=r.dp;rw [zfO];omega,by have:=r.un;rw [zfN];omega⟩
theorem Room.depth {k:Nat} (r:Room k A):A.depth < recursionLimit:=by have:=r.dp;omega
theorem Room.units {k:Nat} (r:Room k A):A.units + 64 < cLine:=by have:=r.un;omega
theorem Room.units0 {k:Nat} (r:Room k A):A.units < cLine:=by have:=r.un;omega
noncomputable def zlz:TA:=fun _ H Q=>Q [] H
noncomputable def zkS (ta:TE) (tr:TA):TA:=fun σ H Q=>ta σ H fun x H1=>tr σ H1 fun xs H2=>Q (x :: xs) H2
section
variable {t:TA}
theorem zjO:PA X [] zlz:=fun _ _ _ _ H Q I h=>Calls.spliced_nil ⟨[],H,I,.nil,h⟩
theorem zix (ha:PE X e te) (hr:PA X es t) (hs:starEach (e :: es) X.env = (false,eval e X.env) :: starEach es X.env:=by rfl):PA X (e :: es) (zkS te t):=by
 intro pos pins s σ H Q I h
 rw [hs]
 show wpAny _ _ (spliced ((false,eval e X.env) :: backTo pos (starEach es X.env))) _ _ s
 refine Calls.spliced_cons (thn (ha pins s σ H _ I h) fun u s1 ⟨x,H1,I1,r1,q1⟩=>?_)
 exact thn (hr pos pins s1 σ H1 _ I1 q1) fun us s2 ⟨xs,H2,I2,r2,q2⟩=>⟨x :: xs,H2,I2,.cons r1 r2,q2⟩
noncomputable def zlv (t:TA):TE:=fun σ H Q=>t σ H fun xs H1=>xs.length<=sizeLine/\∀ p,H1 p = none->Q (.ref p) (upd H1 p (.tup xs))
noncomputable def zlA (t:TA):TE:=fun σ H Q=>t σ H fun xs H1=>xs.length<=sizeLine/\∀ p,H1 p = none->Q (.ref p) (upd H1 p (.lst xs))
theorem zjH {x1} (h:PA X es t):PE X (.Tuple es x1 pos) (zlv t):=by
 intro pins s σ H Q I hq
 refine wpAny_Tuple_spliced (thn (h pos pins s σ H _ I hq) fun us s1 ⟨xs,H1,I1,r,z,q⟩=>⟨by rw [← r.length];exact z,?_⟩)
 have hf:H1 s1.heap.objs.size = none:=I1.hok.fresh (Q3 _)
 refine ⟨.ref s1.heap.objs.size,upd H1 s1.heap.objs.size (.tup xs),I1.laid (t':=s1.toks) (fun b u e=>Q2 _ e) (Q3 _) ?_,rfl,q _ hf⟩
 exact ⟨z,us,r,⟨_,Qk _ rfl,rfl,_,rfl⟩,NoDict.new⟩
theorem zjK (h:PA X es t):PE X (.List es pos) (zlA t):=by
 intro pins s σ H Q I hq
 refine wpAny_List_spliced (thn (h pos pins s σ H _ I hq) fun us s1 ⟨xs,H1,I1,r,z,q⟩=>⟨by rw [← r.length];exact z,?_⟩)
 have hf:H1 s1.heap.objs.size = none:=I1.hok.fresh (Q3 _)
 refine ⟨.ref s1.heap.objs.size,upd H1 s1.heap.objs.size (.lst xs),I1.laid (t':=s1.toks) (fun b u e=>Q2 _ e) (Q3 _) ?_,rfl,q _ hf⟩
 exact ⟨z,us,0,r,Qk _ rfl⟩
end
noncomputable abbrev Sp:=List V->Hp->VK->XK->Prop
noncomputable abbrev CXT:=List Env->Hp->Shared->XK->Value->Shared->Prop
structure Env0 (P:Program) (w:World) (K:Frag) (mg:Str->Option Value) (base:Heap) (A:Around) (outer:List Env) (s:Shared) (H:Hp):Prop where
 frames:A.frames = some outer
 mod:Mod K mg base
 bs:∀ b o,base.get? b = some o->s.heap.get? b = some o/\H b = none
 bsz:base.objs.size<=s.heap.objs.size
 funs:s.heap.FunFrames base outer
 frf:∀ b ∈ frs outer,H b = none
 hok:HOk P w H s.heap
 bare:AllBare s.gens
def CE (outer:List Env) (P:Program) (w:World) (H:Hp) (s:Shared) (Q:VK) (u:Value) (s':Shared):Prop:=
 ∃ v H',s'.os = s.os/\AllBare s'.gens/\Un (frs outer) [] H H' s.heap s'.heap/\HOk P w H' s'.heap/\RelV v u/\Q v H'
def CR (CX:CXT) (outer:List Env) (P:Program) (w:World) (H:Hp) (s:Shared) (Q:VK) (E:XK) (r:Result) (s':Shared):Prop:=
 match r with
 | .ok (.ret u)=>CE outer P w H s Q u s'
 | .ok _=>False
 | .error e=>CX outer H s E e s'
structure FnOk (P:Program) (w:World) (K:Frag) (mg:Str->Option Value) (base:Heap) (CX:CXT) (k:Nat) (f:Addr) (fd:FuncData) (ps:List Str) (sp:Sp):Prop where
 len:∀ vs H Q E,sp vs H Q E->vs.length = ps.length
 run:∀ (A:Around) (outer:List Env) (s:Shared) (H:Hp) (args:Args) (us:List Value) (vs:List V) (Q:VK) (E:XK),Room k A->Env0 P w K mg base A outer s H->BindsTo s fd args (ps.zip us)->Vals vs us->sp vs H Q E->
  codeAny (model P w) A (.call (.ref f) args) (CR CX outer P w H s Q E) s
variable {CX:CXT} {fd:FuncData} {base:Heap} {ps:List Str} {sp:Sp} {mg:Str->Option Value}
theorem FnOk.mono {k:Nat} {f:Addr} (F:FnOk P w K mg base CX j f fd ps sp) (h:j<=k) :
  FnOk P w K mg base CX k f fd ps sp:=⟨F.len,fun A outer s H args us vs Q E hr=>F.run A outer s H args us vs Q E (hr.mono h)⟩
section
theorem Inv.env0 (I:Inv X pins σ H s):Env0 X.prog X.w X.K X.mg X.base X.A X.stack s H:=
 ⟨I.ok.frames,I.ok.mod,I.bs,Qi I.ok.bsz I.sz,I.stack,I.stkFree,I.hok,I.bare⟩
theorem Inv.after {Q:VK} (I:Inv X pins σ H s) (h:CE X.stack X.prog X.w H s Q u s'):EP X pins σ Q u s':=by
 obtain ⟨v,H',os,bare,un,hok,r,q⟩:=h
 obtain ⟨hh,g,d,t,os'⟩:=s'
 obtain rfl:os' = s.os:=os
 exact ⟨v,H',I.call (h':=hh) (g':=g) (d':=d) (t':=t) (ch:=[]) un hok bare (fun b z=>absurd z (by simp)),r,q⟩
end
noncomputable def zhP (sp:Sp) (dvs:List V) (E:XK) (t:TA):TE:=fun σ H Q=>t σ H fun vs H1=>sp (vs ++ dvs) H1 Q E
def Binds (K:Frag) (fd:FuncData) (ps:List Str) (ds:List Value):Prop:=
 ∀ (s:Shared) (us:List Value),K.In s.heap->(us ++ ds).length = ps.length->BindsTo s fd ⟨us,[]⟩ (ps.zip (us ++ ds))
theorem Binds.all (h:∀ us:List Value,us.length = ps.length->bindArgs fd ⟨us,[]⟩ = pure (ps.zip us)):Binds K fd ps []:=fun s us _ hl=>by
 rw [append_nil] at hl ⊢
 exact .of_eq (h us hl)
def Passes (CX:CXT) (X:Cx) (E:XK):Prop:=∀ (pins:List (Addr × Obj)) (σ:St) (H:Hp) (s:Shared) (e:Value) (s':Shared),Inv X pins σ H s->CX X.stack H s E e s'->X.xe e s'
variable {vs:List V} {apos:Pos} {m:Str}
section
variable {k:Nat} {f:Addr} {dvs:List V} {ds:List Value} {E:XK} {o:Expr} {t:TA}
theorem zjq {Q:VK} (F:FnOk X.prog X.w X.K X.mg X.base CX k f fd ps sp) (hr:Room k X.A) (hb:Binds X.K fd ps ds) (hd:Vals dvs ds) (hx:Passes CX X E)
 (I:Inv X pins σ H s) (r:Vals vs us) (h:sp (vs ++ dvs) H Q E):wpAny (model X.prog X.w) X.A (call (.ref f) us) (EP X pins σ Q) X.xe s:=by
 have r2:Vals (vs ++ dvs) (us ++ ds):=r.append hd
 have hl:(us ++ ds).length = ps.length:=by rw [← r2.length];exact F.len _ _ _ _ h
 refine wpAny_call (codeAny_mono (F.run X.A X.stack s H ⟨us,[]⟩ (us ++ ds) (vs ++ dvs) Q E hr I.env0 (hb s us I.kIn hl) r2 h) fun r s' hq=>?_)
 cases r with
 | error e=>exact hx pins σ H s e s' I hq
 | ok fl=>
  cases fl with
  | ret u=>exact I.after hq
  | next=>exact False.elim hq
  | brk=>exact False.elim hq
  | cont=>exact False.elim hq
theorem ziv (F:FnOk X.prog X.w X.K X.mg X.base CX k f fd ps sp) (hr:Room k X.A) (hg:Gl X x) (hm:X.mg x = some (.ref f)) (hk:PySem.W.keepIn X.K (.ref f) = true) (hb:Binds X.K fd ps ds) (hd:Vals dvs ds) (hx:Passes CX X E)
  (ha:PA X (e :: es) t) (hdb:(x == ("__debug__":Str)) = false:=by decide) (he:starEach (e :: es) X.env = (false,eval e X.env) :: starEach es X.env:=by rfl) (hpl:(backTo pos (starEach es X.env)).any (·.1) = false:=by rfl) :
  PE X (.Call (.Name x p) (e :: es) [] pos) (zhP sp dvs E t):=by
 intro pins s σ H Q I h
 refine wpAny_Call_Name_kw (ziJ I hg hm ?_ hdb)
 refine PySem.W.callWith_K (h₀:=X.base) I.ok.mod.kin hk (thn (ha pos pins s σ H _ I h) fun us s1 ⟨vs,H1,I1,r,q⟩=>⟨I1.kIn,?_⟩) he hpl
 exact zjq F hr hb hd hx I1 r q
structure Mk (K:Frag) (C f:Addr):Prop where
 makes:PySem.W.makesIn K C = true
 init:PySem.W.findIn K (.ref C) "__init__" = some (some (.ref f))
 fn:PySem.W.isFn K (.ref f) = true
 kp:PySem.W.keepIn K (.ref C) = true
end
section
variable {k:Nat} {f:Addr} {ks:List Str} {E:XK} {kpos:Pos} {o:Expr} {kws:List Keyword} {t tk:TA} {nm:Option Str}
structure KBinds (K:Frag) (fd:FuncData) (ps ks:List Str) (g:List Value->List Value->List Value) (gV:List V->List V->List V):Prop where
 to:∀ (s:Shared) (us ws:List Value),K.In s.heap->(g us ws).length = ps.length->BindsTo s fd ⟨us,ks.zip ws⟩ (ps.zip (g us ws))
 rel:∀ {vs:List V} {us:List Value} {zs:List V} {ws:List Value},Vals vs us->Vals zs ws->Vals (gV vs zs) (g us ws)
end
structure FnScope (N P:List Str) (sc:Scope):Prop where
 kind:sc.kind = .function
 co:sc.isCoroutine = false
 gen:sc.isGenerator = false
 nd:N.Nodup
 pre:N.take P.length = P
 par:∀ x ∈ P,sc.names.lookup x = some .local\/sc.names.lookup x = some .cell
 nofree:∀ y ∈ sc.names,y.2 ≠ .free
theorem zdf {kindOf:Str->Option NameKind} {x:Str}:∀ {binds:List (Str × Value)} {m:Str->Option Value},(∀ v,(x,v) ∉ binds)->bindL kindOf binds m x = m x
 | [],_,_=>rfl
 | (n,v) :: r,m,h=>by
  unfold bindL
  rw [zdf fun w hw=>h w (mem_cons_of_mem _ hw)]
  split
  ·have:x ≠ n:=by rintro rfl;exact h v mem_cons_self
   simp [this]
  ·rfl
theorem zdh {kindOf:Str->Option NameKind} {x:Str}:∀ {binds:List (Str × Value)} {m:Str->Option Value},(∀ v,(x,v) ∉ binds)->bindC kindOf binds m x = m x
 | [],_,_=>rfl
 | (n,v) :: r,m,h=>by
  unfold bindC
  rw [zdh fun w hw=>h w (mem_cons_of_mem _ hw)]
  split
  ·rfl
  ·have:x ≠ n:=by rintro rfl;exact h v mem_cons_self
   simp [this]
theorem zdg {kindOf:Str->Option NameKind} {x:Str} {v:Value}:∀ {P:List Str} {vs:List Value} {i:Nat} {m:Str->Option Value},P.Nodup->P[i]? = some x->vs[i]? = some v->kindOf x = some .local->
  bindL kindOf (P.zip vs) m x = some v
 | [],_,_,_,_,h,_,_=>by simp at h
 | _ :: _,[],_,_,_,_,h,_=>by simp at h
 | p :: P,w :: vs,0,m,nd,h1,h2,hk=>by
  simp at h1 h2;subst h1;subst h2
  show bindL kindOf ((p,w) :: P.zip vs) m p = _
  unfold bindL
  rw [zdf fun v hv=>(nodup_cons.mp nd).1 (of_mem_zip hv).1,if_pos hk]
  simp
 | p :: P,w :: vs,i + 1,m,nd,h1,h2,hk=>by
  show bindL kindOf ((p,w) :: P.zip vs) m x = _
  unfold bindL
  exact zdg (i:=i) (nodup_cons.mp nd).2 (by simpa using h1) (by simpa using h2) hk
theorem zdi {kindOf:Str->Option NameKind} {x:Str} {v:Value}:∀ {P:List Str} {vs:List Value} {i:Nat} {m:Str->Option Value},P.Nodup->P[i]? = some x->vs[i]? = some v->kindOf x ≠ some .local->
  bindC kindOf (P.zip vs) m x = some v
 | [],_,_,_,_,h,_,_=>by simp at h
 | _ :: _,[],_,_,_,_,h,_=>by simp at h
 | p :: P,w :: vs,0,m,nd,h1,h2,hk=>by
  simp at h1 h2;subst h1;subst h2
  show bindC kindOf ((p,w) :: P.zip vs) m p = _
  unfold bindC
  rw [zdh fun v hv=>(nodup_cons.mp nd).1 (of_mem_zip hv).1,if_neg hk]
  simp
 | p :: P,w :: vs,i + 1,m,nd,h1,h2,hk=>by
  show bindC kindOf ((p,w) :: P.zip vs) m x = _
  unfold bindC
  exact zdi (i:=i) (nodup_cons.mp nd).2 (by simpa using h1) (by simpa using h2) hk
noncomputable def start (N:List Str) (vs:List V):St:=vs.map some ++ List.replicate (N.length - vs.length) none
noncomputable def y8 (CX:CXT) (P:Program) (w:World) (K:Frag) (mg:Str->Option Value) (base:Heap) (N:List Str) (qual:Str) (scope:Scope) (f:Addr) (cd:Value) (A:Around) (outer:List Env) (s:Shared) (H:Hp) (E:XK):Cx where
 prog:=P
 w:=w
 K:=K
 mg:=mg
 base:=base
 A:=A.deeper (envOfC qual scope s.heap.objs.size f cd)
 N:=N
 s₀:=s
 H₀:=H
 env:=envOfC qual scope s.heap.objs.size f cd
 outer:=outer
 stack:=envOfC qual scope s.heap.objs.size f cd :: outer
 ex:=[]
 calm:=true
 fn:=fun _=>true
 pn:=[]
 xe:=fun e s'=>wpAny (model P w) (A.deeper (envOfC qual scope s.heap.objs.size f cd)) (leaving (envOfC qual scope s.heap.objs.size f cd) e) (fun _ s''=>CX outer H s E e s'') (fun e' s''=>CX outer H s E e' s'') s'
theorem zem {sc:Scope} (h:sc.names.lookup x = some .cell):∃ c,(cellsFrom n sc.names []).lookup x = some c:=by
 have q:=PySem.W.cellsFrom_some sc.names n [] (.inl h)
 exact Option.isSome_iff_exists.mp q
variable {scope:Scope} {qual:Str}
theorem zgD {f:Addr} {cd:Value} {outer:List Env} {s1:Shared} {E:XK} 
 (S:FnScope N ps scope) (hd:A.handled = none) (e0:Env0 P w K mg base A outer s H) (hl:vs.length = ps.length) (r:Vals vs us)
 (x:InCallC s s.heap.objs.size (bindL (envOfC qual scope s.heap.objs.size f cd).kindOf (ps.zip us) fun _=>none) (cellsFrom (s.heap.objs.size + 1) scope.names []) (bindC (envOfC qual scope s.heap.objs.size f cd).kindOf (ps.zip us) fun _=>none) s1) :
  Inv (y8 CX P w K mg base N qual scope f cd A outer s H E) [] (start N vs) H s1:=by
 have hpl:ps.length<=N.length:=by have:=congrArg List.length S.pre;rw [Qp] at this;omega
 obtain ⟨h1,tk,rfl,hk⟩:=x.done
 have noA:∀ b:Addr,b ∉ (y8 CX P w K mg base N qual scope f cd A outer s H E).ex:=fun b z=>absurd (show b ∈ ([]:List Addr) from z) (by simp)
 refine ⟨⟨e0.mod,S.kind,rfl,rfl,Q3 _,fun y z c h1 h2=>?_,fun y hy=>?_,fun y c _ h=>?_,fun _=>hd,Around.frames_deeper e0.frames,.inr ⟨rfl,rfl⟩,fun b z=>absurd z (noA b),e0.bs,e0.bsz,fun b _ _=>noA b,fun b z=>absurd z (noA b),e0.funs,e0.frf⟩,
  rfl,e0.bare,Un.kept hk,⟨_,x.toInCall.ns,fun i y v h1 h2 h3=>?_⟩,fun y c h=>⟨_,x.cell y c h⟩,e0.hok.fresh (Q3 _),fun y c h=>?_,fun p hp=>absurd (show p ∈ ([]:List (Addr × Obj)) from hp) (by simp),e0.hok.kept hk,?_⟩
 ·exact name_of_addr x.apart (PySem.mem_of_lookup h1) (PySem.mem_of_lookup h2)
 ·have hy:scope.names.lookup y = some .cell\/scope.names.lookup y = some .free:=hy
  rcases hy with hy | hy
  ·exact zem hy
  ·exact absurd rfl (S.nofree _ (PySem.mem_of_lookup hy))
 ·exact Nat.le_of_lt (x.above y c (PySem.mem_of_lookup h))
 ·have hi:i < vs.length:=by
   unfold start at h2
   by_cases hi:i < vs.length
   ·exact hi
   ·rw [Q7 (by simpa using hi)] at h2
    rw [List.getElem?_replicate] at h2
    split at h2 <;> cases h2
  have ha:vs[i]? = some v:=by
   unfold start at h2
   rw [Q6 (by simpa using hi),Qa] at h2
   cases e:vs[i]? with
   | none=>rw [e] at h2;cases h2
   | some a=>rw [e] at h2;cases h2;rfl
  obtain ⟨u,hu,rv⟩:=r.get ha
  have hp:ps[i]? = some y:=by
   rw [← S.pre,List.getElem?_take_of_lt (by omega)];exact h1
  have ndP:ps.Nodup:=by rw [← S.pre];exact S.nd.sublist (List.take_sublist _ _)
  refine ⟨u,rv,?_⟩
  rcases S.par y (Q9 hp) with k | k
  ·exact .inl ⟨k,zdg ndP hp hu k⟩
  ·obtain ⟨c,e⟩:=zem (n:=s.heap.objs.size + 1) k
   refine .inr ⟨.inl k,c,e,?_⟩
   have q:=x.cell y c e
   rw [zdi ndP hp hu (by show scope.names.lookup y ≠ _;rw [k];decide)] at q
   exact q
 ·exact e0.hok.fresh (Nat.le_of_lt (x.above y c (PySem.mem_of_lookup h)))
 ·unfold start
  show _ = N.length
  rw [Qm,Qg,List.length_replicate]
  omega
theorem zln {k:Nat} {f:Addr} {name:Str} {params:Arguments} {dV kV doc pm cdv ct oc:Value} {an od:Option Addr}
 {osl:Array (Option Value)} (lk:K.lookup f = some ⟨oc,od,.func (PySem.W.fnOf name qual params body scope dV kV doc pm an cdv ct),osl⟩) (hcd:PySem.W.codeIn K cdv qual = true) (S:FnScope N ps scope)
 (len:∀ vs H Q E,sp vs H Q E->vs.length = ps.length)
 (hbody:∀ (A:Around) (outer:List Env) (s:Shared) (H:Hp) (vs:List V) (Q:VK) (E:XK),Room k (A.deeper (envOfC qual scope s.heap.objs.size f cdv))->sp vs H Q E->
 ∃ t,PSs (y8 CX P w K mg base N qual scope f cdv A outer s H E) body t/\t { nx:=fun _ H'=>Q .non H',rt:=Q } (start N vs) H) :
  FnOk P w K mg base CX (k + 1) f (PySem.W.fnOf name qual params body scope dV kV doc pm an cdv ct) ps sp:=by
 refine ⟨len,fun A outer s H args us vs Q E hr e0 hb r hsp=>?_⟩
 have hl:=len _ _ _ _ hsp
 have KX:K.In s.heap:=e0.mod.kin.keeps fun b o e=>(e0.bs b o e).1
 have lim:s.heap.NoLimit:=e0.mod.nolimit.keeps fun b o e=>(e0.bs b o e).1
 have hkind:∀ y ∈ ps.zip us,scope.names.lookup y.1 = some .local\/(scope.names.lookup y.1 = some .cell/\((cellsFrom (s.heap.objs.size + 1) scope.names []).lookup y.1).isSome = true):=fun ⟨n,v⟩ hy=>by
  rcases S.par n (of_mem_zip hy).1 with q | q
  ·exact .inl q
  ·exact .inr ⟨q,PySem.W.cellsFrom_some _ _ _ (.inl q)⟩
 refine codeAny_call_function hr.depth (KX _ _ lk) rfl S.co S.gen rfl (PySem.W.codeRec_of KX hcd) (hb _ _ _ _ ?_)
 refine wpAny_newFunctionEnv_cells S.kind hkind fun env he s1 x=>?_
 subst he
 refine ⟨lim.keeps x.toInCall.keep,codeAny_func ?_⟩
 obtain ⟨t,ht,hq⟩:=hbody A outer s H vs Q E (hr.deeper _) hsp
 have I:Inv (y8 CX P w K mg base N qual scope f cdv A outer s H E) [] (start N vs) H s1:=zgD S hr.hd e0 hl r x
 refine Qf (ht [] s1 (start N vs) H _ I hq) (fun fl s' hs=>?_) fun e s' hs=>hs
 have fin:∀ {σ':St} {H':Hp} {v:V} {u:Value},Inv (y8 CX P w K mg base N qual scope f cdv A outer s H E) [] σ' H' s'->RelV v u->Q v H'->CE outer P w H s Q u s':=
  fun {σ' H' v u} J rv q=>⟨v,H',J.os,J.bare,J.base,J.hok,rv,q⟩
 cases fl with
 | ret u=>
  obtain ⟨v,σ',H',J,rv,q⟩:=hs
  exact fin J rv q
 | next=>
  obtain ⟨σ',H',J,q⟩:=hs
  exact fin (v:=V.non) (u:=Value.none) J rfl q
 | brk=>
  obtain ⟨_,_,_,q⟩:=hs
  exact False.elim q
 | cont=>
  obtain ⟨_,_,_,q⟩:=hs
  exact False.elim q
section
variable {t:TA} {id T:String} {r:List V->Hp->VK->Prop}
noncomputable def tCB (r:List V->Hp->VK->Prop) (t:TA):TE:=fun σ H Q=>t σ H fun vs H1=>r vs H1 Q
theorem zd3 (hc:CallR X (.builtin id) r) (hg:Gl X x) (hm:X.mg x = none) (hv:bootBuiltins x = some (.builtin id)) (ha:PA X (e :: es) t) (hn:x ≠ "__name__":=by decide) (hdb:(x == ("__debug__":Str)) = false:=by decide)
  (he:starEach (e :: es) X.env = (false,eval e X.env) :: starEach es X.env:=by rfl) (hpl:(backTo pos (starEach es X.env)).any (·.1) = false:=by rfl):PE X (.Call (.Name x p) (e :: es) [] pos) (tCB r t):=by
 intro pins s σ H Q I h
 refine wpAny_Call_Name_kw (zbe I hg hm hv ?_ hn hdb)
 exact PyProof.Rows.callWith_builtin1 (thn (ha pos pins s σ H _ I h) fun us s1 ⟨vs,H1,I1,r1,q1⟩=>hc pins s1 σ H1 vs us Q I1 r1 q1) he hpl
theorem zc5 (hc:CallR X (.type T) r) (hg:Gl X x) (hm:X.mg x = none) (hv:bootBuiltins x = some (.type T)) (ha:PA X (e :: es) t) (hn:x ≠ "__name__":=by decide) (hdb:(x == ("__debug__":Str)) = false:=by decide)
  (he:starEach (e :: es) X.env = (false,eval e X.env) :: starEach es X.env:=by rfl) (hpl:(backTo pos (starEach es X.env)).any (·.1) = false:=by rfl):PE X (.Call (.Name x p) (e :: es) [] pos) (tCB r t):=by
 intro pins s σ H Q I h
 refine wpAny_Call_Name_kw (zbe I hg hm hv ?_ hn hdb)
 exact PyProof.Rows.callWith_type1 (thn (ha pos pins s σ H _ I h) fun us s1 ⟨vs,H1,I1,r1,q1⟩=>hc pins s1 σ H1 vs us Q I1 r1 q1) he hpl
end
end L2
namespace HT
open PySem PyProof.Rows
variable {sl t:Addr} {vl vu:Value} {Q:Value->Shared->Prop}
section
variable {prog:Program} {w:World} {A:Around} {E:Value->Shared->Prop} {s:Shared}
theorem zja {b:Addr} {vs ws:List Value} (ht:IsTup s.heap t vs.toArray) (hb:IsTup s.heap b ws.toArray) (hv:vs ≠ [])
 (h1:ws = []->Q (.ref t) s) (h2:ws ≠ []->Q (.ref s.heap.objs.size) { s with heap:=s.heap.push { cls:=.type "tuple",data:=.seq (vs ++ ws).toArray } })
 (hsz:vs.length + ws.length<=sizeLine):wpAny (model prog w) A (binaryOp .Add (.ref t) (.ref b)) Q E s:=by
 obtain ⟨⟨cls,dd,data,sl⟩,ho,hc,n,hd⟩:=id ht
 obtain ⟨⟨cls2,dd2,data2,sl2⟩,ho2,hc2,n2,hd2⟩:=id hb
 simp only at hc hd hc2 hd2
 subst hc hd hc2 hd2
 have e:vs.toArray ++ ws.toArray = (vs ++ ws).toArray:=by simp
 by_cases hw:ws = []
 ·exact concat_meets ⟨_,ho,rfl⟩ ⟨_,ho2,rfl⟩ noFill_tuple_add seq_tuple_add PySem.F.slot_tuple_add PySem.F.entry_tuple_add (PySem.F.args_tuple_add_2 _ _)
   (tuple_addW1 t b vs.toArray ws.toArray n n2 dd dd2 sl sl2 (by simpa using hv) (by simp [hw])) ⟨ho,ho2,h1 hw⟩
 ·refine concat_meets ⟨_,ho,rfl⟩ ⟨_,ho2,rfl⟩ noFill_tuple_add seq_tuple_add PySem.F.slot_tuple_add PySem.F.entry_tuple_add (PySem.F.args_tuple_add_2 _ _)
   (tuple_addW2 t b vs.toArray ws.toArray n n2 dd dd2 sl sl2 (by simpa using hv) (by simpa using hw) (by rw [Qh,Qh];exact hsz)) ⟨ho,ho2,?_⟩
  rw [e]
  exact h2 hw
noncomputable def sIx (n d:Nat):Option Int->Nat
 | none=>d
 | some v=>if v < 0 then (v + (n:Int)).toNat else min v.toNat n
theorem zg7 (n d:Nat):sIx n d none = d:=rfl
theorem zie (n d k:Nat):sIx n d (some (k:Int)) = min k n:=by
 show (if (k:Int) < 0 then ((k:Int) + (n:Int)).toNat else min (k:Int).toNat n) = min k n
 rw [if_neg (by omega),Int.toNat_natCast]
theorem zjp (n d:Nat) (hd:d<=n) (o:Option Int):sIx n d o<=n:=by
 cases o with
 | none=>exact hd
 | some v=>
  show (if v < 0 then (v + (n:Int)).toNat else min v.toNat n)<=n
  by_cases hv:v < 0
  ·rw [if_pos hv];omega
  ·rw [if_neg hv];exact Nat.min_le_right _ _
theorem zfj (v:Int) (n d:Nat):(if v < 0 then max (v + (n:Int)) 0 else min v (n:Int)) = ((sIx n d (some v):Nat):Int):=by
 show (if v < 0 then max (v + (n:Int)) 0 else min v (n:Int)) = (((if v < 0 then (v + (n:Int)).toNat else min v.toNat n):Nat):Int)
 by_cases hv:v < 0
 ·simp only [if_pos hv];omega
 ·simp only [if_neg hv];omega
theorem zf2 (lo hi:Option Int) (n:Nat):Builtin.Slice.sliceAdjust lo hi 1 (n:Int) = (((sIx n 0 lo:Nat):Int),((sIx n n hi:Nat):Int)):=by
 have h1:¬ ((1:Int) < 0):=by omega
 unfold Builtin.Slice.sliceAdjust
 simp only [h1,if_false]
 refine Prod.ext ?_ ?_
 ·cases lo with
  | none=>rfl
  | some v=>exact zfj v n 0
 ·cases hi with
  | none=>rfl
  | some v=>exact zfj v n n
theorem zfH (i j:Nat):Builtin.Slice.slicePlaces (i:Int) (j:Int) 1 = j - i:=by
 unfold Builtin.Slice.slicePlaces
 have h1:(1:Int) > 0:=by omega
 simp only [h1,if_true,Int.ediv_one]
 split <;> omega
theorem zch {v:Value} {o:Option Int} {Q:Option Int->Shared->Prop} (p:IsPart v o) (h:Q o s):wpAny (model prog w) A (Builtin.Slice.slicePartIndex v) Q E s:=by
 cases p with
 | none=>exact slicePart_none h
 | int i t=>exact slicePart_int h
theorem yZ {lo hi:Option Int} {n:Nat} {Q:Int × Int × Nat->Shared->Prop} (hs:s.heap.IsSliceOf sl vl vu .none) (pl:IsPart vl lo) (pu:IsPart vu hi)
 (h:Q (((sIx n 0 lo:Nat):Int),1,sIx n n hi - sIx n 0 lo) s):wpAny (model prog w) A (Builtin.Slice.sliceApplied (.ref sl) (pure (n:Int))) Q E s:=by
 obtain ⟨os,hos,hcs,hds⟩:=id hs
 unfold Builtin.Slice.sliceApplied Builtin.Slice.sliceFields
 refine Q1 (Q1 (wpAny_field hos hds (x:=vl) rfl (Q1 (wpAny_field hos hds (x:=vu) rfl (Q1 (wpAny_field hos hds (x:=.none) rfl (Qe ?_)))))))
 refine Q1 (slicePart_none ?_)
 show wpAny _ _ (if ((1:Int) == 0) = true then _ else _) _ _ s
 rw [if_neg (by decide)]
 refine Q1 (zch pl (Q1 (zch pu (Q1 (Qe ?_)))))
 show wpAny _ _ (match Builtin.Slice.sliceAdjust lo hi 1 (n:Int) with | (lo,hi)=>pure (lo,(1:Int),Builtin.Slice.slicePlaces lo hi 1)) _ _ s
 rw [zf2 lo hi n]
 show wpAny _ _ (pure (((sIx n 0 lo:Nat):Int),(1:Int),Builtin.Slice.slicePlaces ((sIx n 0 lo:Nat):Int) ((sIx n n hi:Nat):Int) 1)) _ _ s
 rw [zfH]
 exact Qe h
theorem zhh (xs:Array Value) (i k:Nat):((List.range k).filterMap fun (m:Nat)=>xs[((i:Int) + (m:Int) * 1).toNat]?).toArray = ((xs.toList.drop i).take k).toArray:=by
 have e:(fun (m:Nat)=>xs[((i:Int) + (m:Int) * 1).toNat]?) = fun m=>xs[i + m]?:=by
  funext m
  have:((i:Int) + (m:Int) * 1).toNat = i + m:=by omega
  rw [this]
 rw [e]
 have:=pick_run xs i k
 rw [List.filterMap_map] at this
 have e2:((fun x=>xs[x]?) ∘ fun x=>i + x) = fun m=>xs[i + m]?:=rfl
 rw [e2] at this
 rw [this]
theorem zbF {items:Array Value} {lo hi:Option Int} (ht:IsTup s.heap t items) (hs:s.heap.IsSliceOf sl vl vu .none) (pl:IsPart vl lo) (pu:IsPart vu hi)
 (hw:¬ (sIx items.size 0 lo = 0/\sIx items.size items.size hi = items.size))
 (h:Q (.ref s.heap.objs.size) { s with heap:=s.heap.push { cls:=.type "tuple",data:=.seq ((items.toList.drop (sIx items.size 0 lo)).take (sIx items.size items.size hi - sIx items.size 0 lo)).toArray } })
 (hsz:items.size<=sizeLine):wpAny (model prog w) A (getItem (.ref t) (.ref sl)) Q E s:=by
 have htake:sizeOk (.seq ((items.toList.drop (sIx items.size 0 lo)).take (sIx items.size items.size hi - sIx items.size 0 lo)).toArray):=by
  show ((items.toList.drop (sIx items.size 0 lo)).take (sIx items.size items.size hi - sIx items.size 0 lo)).toArray.size<=sizeLine
  rw [Qh,Qp,length_drop,Array.length_toList]
  omega
 have hj:sIx items.size items.size hi<=items.size:=zjp _ _ (Q3 _) hi
 obtain ⟨os,hos,hcs,hds⟩:=id hs
 have hTs:s.TypeIs (.ref sl) "slice":=⟨os,hos,hcs⟩
 unfold getItem
 try with_reducible refine wpAny_holding ?_
 first | refine Q1 (Qe ?_) | skip
 refine Q1 (wpAny_sequenceKey ht.typeIs (by decide) ?_)
 refine Q1 (wpAny_callSpecial?_slot (name:=Str.ofString "__getitem__") ht.typeIs PyProof.Rows.slot_tuple_getitem
  (wpAny_call_entry PyProof.Rows.slot_tuple_getitem ht.typeIs entry_tuple_getitem ?_ (args_tuple_getitem _ _)))
 show wpAny _ _ (Builtin.Tuple.tupleItemsOf (.ref t) >>= _) _ _ s
 refine Q1 (tupleItemsOf_ ht ?_)
 refine Q1 (wpAny_typeOf hTs ?_)
 rw [if_pos (by decide)]
 refine Q1 (yZ hs pl pu ?_)
 have hno:¬ ((((sIx items.size 0 lo:Nat):Int) == 0 && (1:Int) == 1 && (sIx items.size items.size hi - sIx items.size 0 lo) == items.size) = true):=by
  intro q
  rw [Qq,Qq] at q
  have q1:((sIx items.size 0 lo:Nat):Int) = 0:=eq_of_beq q.1.1
  have q2:sIx items.size items.size hi - sIx items.size 0 lo = items.size:=eq_of_beq q.2
  exact hw ⟨by omega,by omega⟩
 show wpAny _ _ (if (((sIx items.size 0 lo:Nat):Int) == 0 && (1:Int) == 1 && (sIx items.size items.size hi - sIx items.size 0 lo) == items.size) = true then _ else _) _ _ s
 rw [if_neg hno,zhh]
 first
  | exact Q1 (m:=Builtin.Tuple.tupleExact _) (Qr (Qe ⟨_,rfl,Qe h⟩) htake)
  | exact Q1 (m:=Builtin.Tuple.tupleExact _) (Qr (Q1 (Qe (Qe ⟨_,rfl,Qe h⟩))) htake)
  | exact Q1 (Q1 (m:=Builtin.Tuple.tupleExact _) (Qr (Qe (Qe ⟨_,rfl,Qe h⟩)) htake))
  | exact Q1 (Q1 (m:=Builtin.Tuple.tupleExact _) (Qr (Qe ⟨_,rfl,Qe h⟩) htake))
end
end HT
namespace L2
open PySem PySem.Spec PyProof.Rows
noncomputable abbrev TO:=St->Hp->(Option Int->Hp->Prop)->Prop
def PO (X:Cx) (e:Option Expr) (t:TO):Prop:=
 ∀ (pins:List (Addr × Obj)) (s:Shared) (σ:St) (H:Hp) (Q:Option Int->Hp->Prop),Inv X pins σ H s->t σ H Q->
  wpAny (model X.prog X.w) X.A (evalPart e X.env) (fun u s'=>∃ o H',Inv X pins σ H' s'/\IsPart u o/\Q o H') X.xe s
noncomputable def zh9:TO:=fun _ H Q=>Q none H
noncomputable def zkO (t:TE):TO:=fun σ H Q=>t σ H fun x H1=>∃ i,x = .int i/\Q (some i) H1
variable {X:Cx} {e:Expr} {xs:List V} {pos:Pos}
section
variable {te:TE} {lo hi:Option Expr} {tl th:TO} {p2:Pos}
theorem ziq:PO X none zh9:=by
 intro pins s σ H Q I h
 rw [evalPart_none]
 exact Qe ⟨none,H,I,.none,h⟩
theorem zio (h:PE X e te):PO X (some e) (zkO te):=by
 intro pins s σ H Q I hw
 rw [evalPart_some]
 refine thn (h pins s σ H _ I hw) fun u s1 ⟨x,H1,I1,r1,q1⟩=>?_
 obtain ⟨i,rfl,q⟩:=q1
 obtain ⟨t,rfl⟩:=r1
 exact ⟨some i,H1,I1,.int i t,q⟩
def SlR (X:Cx) (r:V->Option Int->Option Int->Hp->VK->Prop):Prop:=
 ∀ (pins:List (Addr × Obj)) (s:Shared) (σ:St) (H:Hp) (x:V) (v vl vu:Value) (lo hi:Option Int) (sl:Addr) (Q:VK),Inv X pins σ H s->RelV x v->s.heap.IsSliceOf sl vl vu .none->IsPart vl lo->IsPart vu hi->r x lo hi H Q->
  ∃ T id,typeLookup (.type T) "__getitem__" = pure (some (.builtin id))/\s.TypeIs v T/\wpAny (model X.prog X.w) X.A (getItem v (.ref sl)) (EP X pins σ Q) X.xe s
noncomputable def tSl (r:V->Option Int->Option Int->Hp->VK->Prop) (te:TE) (tl th:TO):TE:=fun σ H Q=>te σ H fun x H1=>tl σ H1 fun l H2=>th σ H2 fun u H3=>r x l u H3 Q
theorem zhi {r:V->Option Int->Option Int->Hp->VK->Prop} (hr:SlR X r) (he:PE X e te) (hl:PO X lo tl) (hu:PO X hi th):PE X (.Subscript e (.Slice lo hi none p2) pos) (tSl r te tl th):=by
 intro pins s σ H Q I h
 refine Subscript_ (thn (he pins s σ H _ I h) fun v s1 ⟨x,H1,I1,r1,q1⟩=>?_)
 refine wpAny_Slice (thn (hl pins s1 σ H1 _ I1 q1) fun vl s2 ⟨l,H2,I2,pl,q2⟩=>thn (hu pins s2 σ H2 _ I2 q2) fun vu s3 ⟨u,H3,I3,pu,q3⟩=>?_)
 rw [evalPart_none]
 refine Qe ?_
 have I4:Inv X pins σ H3 { s3 with heap:=s3.heap.push { cls:=.type "slice",data:=.fields #[vl,vu,.none] } }:=I3.kept (t':=s3.toks) fun b ob q=>Q2 _ q
 obtain ⟨T,id,hT,ht,hg⟩:=hr pins { s3 with heap:=s3.heap.push { cls:=.type "slice",data:=.fields #[vl,vu,.none] } } σ H3 x v vl vu l u s3.heap.objs.size Q I4 r1 (Heap.IsSliceOf.new ..) pl pu q3
 show wpAny (model X.prog X.w) X.A (subscriptTail e (.Slice lo hi none p2) v (.ref s3.heap.objs.size)) (EP X pins σ Q) X.xe { s3 with heap:=s3.heap.push { cls:=.type "slice",data:=.fields #[vl,vu,.none] } }
 exact tail_any (ops:=[.ref s3.heap.objs.size,v]) ht hT hg (by with_unfolding_all rfl)
noncomputable def cutV (xs:List V) (lo hi:Option Int):List V:=(xs.drop (HT.sIx xs.length 0 lo)).take (HT.sIx xs.length xs.length hi - HT.sIx xs.length 0 lo)
theorem zbL (xs:List V) (lo hi:Option Int):(cutV xs lo hi).length<=xs.length:=by
 unfold cutV
 rw [Qp,length_drop]
 omega
noncomputable def zlH (K:Frag):V->Option Int->Option Int->Hp->VK->Prop:=fun x lo hi H Q=>∃ a xs,x = .ref a/\SqT K H a xs /\
 ¬ (HT.sIx xs.length 0 lo = 0/\HT.sIx xs.length xs.length hi = xs.length)/\∀ p,H p = none->Q (.ref p) (upd H p (.tup (cutV xs lo hi)))
theorem zjo:SlR X (zlH X.K):=by
 intro pins s σ H x v vl vu lo hi sl Q I rx hs pl pu h
 obtain ⟨a,xs,rfl,hx,hw,q⟩:=h
 cases rx
 obtain ⟨its,r,ht,hz⟩:=I.tuple hx
 have hlen:its.toArray.size = xs.length:=by rw [Qh];exact r.length.symm
 refine ⟨"tuple",_,PyProof.Rows.slot_tuple_getitem.lookup,ht.typeIs,?_⟩
 refine HT.zbF ht hs pl pu (by rw [hlen];exact hw) ?_ (by rw [hlen];exact hz)
 rw [hlen]
 refine ⟨.ref s.heap.objs.size,_,I.laid (t':=s.toks) (o:=.tup (cutV xs lo hi)) (fun b ob q=>Q2 _ q) (Q3 _) ?_,rfl,q _ (I.hok.fresh (Q3 _))⟩
 exact ⟨Qi (zbL xs lo hi) hz,_,(r.drop (HT.sIx xs.length 0 lo)).take (HT.sIx xs.length xs.length hi - HT.sIx xs.length 0 lo),IsTup.new _ _,NoDict.new⟩
noncomputable def zkY (K:Frag):R2:=fun x y H Q=>∃ a b xs ys,x = .ref a/\y = .ref b/\SqT K H a xs/\SqT K H b ys/\xs ≠ []/\xs.length + ys.length<=sizeLine /\
 (ys = []->Q (.ref a) H)/\(ys ≠ []->∀ p,H p = none->Q (.ref p) (upd H p (.tup (xs ++ ys))))
theorem Vals.nil_iff {us:List Value} (r:Vals xs us):us = [] ↔ xs = []:=by
 cases r with
 | nil=>simp
 | cons _ _=>simp
theorem ziB:OpR X (binaryOp .Add) (zkY X.K):=by
 intro pins s σ H x y v u Q I rx ry h
 obtain ⟨a,b,xs,ys,rfl,rfl,ha,hb,hx,hz,q1,q2⟩:=h
 cases rx
 cases ry
 obtain ⟨its,r1,p1,_⟩:=I.tuple ha
 obtain ⟨its2,r2,p2,_⟩:=I.tuple hb
 refine HT.zja p1 p2 (fun z=>hx (r1.nil_iff.mp z)) (fun z=>⟨.ref a,H,I,rfl,q1 (r2.nil_iff.mp z)⟩) (fun z=>?_) (by rw [← r1.length,← r2.length];exact hz)
 refine ⟨.ref s.heap.objs.size,_,I.laid (t':=s.toks) (o:=.tup (xs ++ ys)) (fun b ob q=>Q2 _ q) (Q3 _) ?_,rfl,q2 (fun w=>z (r2.nil_iff.mpr w)) _ (I.hok.fresh (Q3 _))⟩
 exact ⟨by rw [Qm];exact hz,_,r1.append r2,IsTup.new _ _,NoDict.new⟩
end
noncomputable def ixN (n:Nat) (i:Int):Option Nat:=if 0<=i then (if i < n then some i.toNat else none) else if -(n:Int)<=i then some (i + n).toNat else none
noncomputable def atI {α:Type} (xs:List α) (i:Int):Option α:=(ixN xs.length i).bind fun j=>xs[j]?
variable {i:Int} {j n:Nat}
theorem zfd (h:ixN n i = some j):seqIndex? i n = some j/\j < n/\-(n:Int)<=i/\i < n:=by
 unfold ixN at h
 by_cases h0:0<=i
 ·rw [if_pos h0] at h
  by_cases h1:i < n
  ·rw [if_pos h1] at h
   have e:i.toNat = j:=Qc h
   exact ⟨by rw [seqIndex_of h0 h1,e],by omega,by omega,h1⟩
  ·rw [if_neg h1] at h;cases h
 ·rw [if_neg h0] at h
  by_cases h1:-(n:Int)<=i
  ·rw [if_pos h1] at h
   have e:(i + n).toNat = j:=Qc h
   exact ⟨by rw [seqIndex_neg (by omega) h1,e],by omega,h1,by omega⟩
  ·rw [if_neg h1] at h;cases h
theorem zcV {α:Type} {xs:List α} {v:α} (h:atI xs i = some v):∃ j,seqIndex? i xs.length = some j/\xs[j]? = some v/\j < xs.length/\-(xs.length:Int)<=i/\i < xs.length:=by
 unfold atI at h
 cases e:ixN xs.length i with
 | none=>rw [e] at h;cases h
 | some j=>
  rw [e] at h
  obtain ⟨h1,h2,h3,h4⟩:=zfd e
  exact ⟨j,h1,h,h2,h3,h4⟩
theorem yR {α:Type} {xs:List α} {v:α} (h:xs[j]? = some v):atI xs (j:Int) = some v:=by
 have hj:j < xs.length:=(List.getElem?_eq_some_iff.mp h).1
 have e:ixN xs.length (j:Int) = some j:=by
  unfold ixN
  rw [if_pos (by omega),if_pos (by omega)];simp
 unfold atI;rw [e];exact h
def zcY (b:Expr):Prop:=∀ o i,subscripted b false o i = operate [o,i] (getItem o i)
def IxR (X:Cx) (r:R2):Prop:=
 ∀ (value slice:Expr) (pins:List (Addr × Obj)) (s:Shared) (σ:St) (H:Hp) (x y:V) (v u:Value) (Q:VK),Inv X pins σ H s->RelV x v->RelV y u->r x y H Q->
  subscripted slice false v u = operate [v,u] (getItem v u)->wpAny (model X.prog X.w) X.A (subscriptTail value slice v u) (EP X pins σ Q) X.xe s
def MtR (X:Cx) (id:String) (r:V->List V->Hp->VK->Prop):Prop:=
 ∀ (pins:List (Addr × Obj)) (s:Shared) (σ:St) (H:Hp) (x:V) (xs:List V) (v:Value) (us:List Value) (Q:VK),Inv X pins σ H s->RelV x v->Vals xs us->r x xs H Q->
  wpAny (model X.prog X.w) X.A (call (.builtin id) (v :: us)) (EP X pins σ Q) X.xe s
variable {p:Addr} {H:Hp} {pins:List (Addr × Obj)} {ys:List V} {its its':List Value} {s:Shared} {σ:St} {x y:V} {u:Value}
section
variable {a b:Expr} {ta tb:TE}
theorem IxR.or {r r':R2} (h:IxR X r) (h':IxR X r'):IxR X (fun x y H Q=>r x y H Q\/r' x y H Q):=by
 intro value slice pins s σ H x y v u Q I rx ry q hs
 rcases q with q | q
 ·exact h value slice pins s σ H x y v u Q I rx ry q hs
 ·exact h' value slice pins s σ H x y v u Q I rx ry q hs
theorem zk4 {r:R2} (hr:IxR X r) (ha:PE X a ta) (hb:PE X b tb) (hs:zcY b):PE X (.Subscript a b pos) (tOp r ta tb):=by
 intro pins s σ H Q I h
 exact Subscript_ (zhM ha hb I h fun v u s2 x y H2 I2 rx ry q=>hr a b pins s2 σ H2 x y v u Q I2 rx ry q (hs _ _))
noncomputable def zjv (K:Frag):R2:=fun x y H Q=>∃ p xs i v,x = .ref p/\y = .int i/\SqL K H p xs/\atI xs i = some v/\Q v H
noncomputable def zjt (K:Frag):R2:=fun x y H Q=>∃ p xs i v,x = .ref p/\y = .int i/\SqT K H p xs/\atI xs i = some v/\Q v H
noncomputable def zju:R2:=fun x y H Q=>∃ z i c,x = .str z/\y = .int i/\z.length<=sizeLine/\atI z.cps.toList i = some c/\Q (.str ⟨#[c]⟩) H
theorem ziR:IxR X (zjv X.K):=by
 intro value slice pins s σ H x y v u Q I rx ry h hs
 obtain ⟨p,xs,i,z,rfl,rfl,hq,he,q⟩:=h
 cases rx
 obtain ⟨t,rfl⟩:=ry
 obtain ⟨its,r,pl,hz⟩:=I.list hq
 obtain ⟨j,h1,h2,h3,h4,h5⟩:=zcV he
 obtain ⟨w,ew,rw'⟩:=r.get h2
 have hl:=r.length
 have hn:=zay
 have fin:EP X pins σ Q w s:=⟨z,H,I,rw',q⟩
 by_cases h0:0<=i
 ·have hj:i.toNat = j:=by
   rw [seqIndex_of h0 h5] at h1
   exact Qc h1
  exact item_listR pl.isList h0 (by omega) (by rw [hj];simpa using ew) fin hs
 ·have hj:(i + (its.toArray.size:Int)).toNat = j:=by
   rw [seqIndex_neg (by omega) h4] at h1
   rw [Qh,← hl]
   exact Qc h1
  exact subscriptTail_builtinR (x:=w) pl.isList.typeIs slot_list_getitem.lookup
   (wpAny_getItem_list_neg (Q:=fun r s'=>r = w/\EP X pins σ Q r s') pl.isList (by omega) (by rw [Qh] <;> omega) (by omega) (by rw [hj];simpa using ew) ⟨rfl,fin⟩) hs
theorem zka:IxR X (zjt X.K):=by
 intro value slice pins s σ H x y v u Q I rx ry h hs
 obtain ⟨p,xs,i,z,rfl,rfl,hq,he,q⟩:=h
 cases rx
 obtain ⟨t,rfl⟩:=ry
 obtain ⟨its,r,pl,hz⟩:=I.tuple hq
 obtain ⟨j,h1,h2,h3,h4,h5⟩:=zcV he
 obtain ⟨w,ew,rw'⟩:=r.get h2
 have hl:=r.length
 have hn:=zay
 have fin:EP X pins σ Q w s:=⟨z,H,I,rw',q⟩
 exact subscriptTail_builtinR (x:=w) pl.typeIs slot_tuple_getitem.lookup
  (getItem_tuple (j:=j) (Q:=fun r s'=>r = w/\EP X pins σ Q r s') pl (by omega) (by omega) (by rw [Qh,← hl];exact h1) (by simpa using ew) ⟨rfl,fin⟩) hs
theorem zkb:IxR X zju:=by
 intro value slice pins s σ H x y v u Q I rx ry h hs
 obtain ⟨z,i,c,rfl,rfl,hz,he,q⟩:=h
 obtain ⟨t,rfl⟩:=rx
 obtain ⟨t',rfl⟩:=ry
 obtain ⟨j,h1,h2,h3,h4,h5⟩:=zcV he
 have hl:z.cps.toList.length = z.length:=by simp [Str.length]
 rw [hl] at h1 h4 h5
 have hn:=zay
 exact tail_any (typeIs_str s z t) slot_str_getitem.lookup (getItem_str (c:=c) (by
  have e1:decide (i < -(2 ^ 63:Int)) = false:=Qt (by omega)
  have e2:decide (i ≥ 2 ^ 63) = false:=Qt (by omega)
  rw [e1,e2,Bool.or_false]) (by rw [h1];simpa using h2) ⟨.str ⟨#[c]⟩,H,I.tok _,⟨_,rfl⟩,q⟩) hs
noncomputable def rIx (K:Frag):R2:=fun x y H Q=>zjv K x y H Q\/zjt K x y H Q\/zju x y H Q
theorem zkc:IxR X (rIx X.K):=ziR.or (zka.or zkb)
theorem zfM (its:List Value) (n j:Nat) (u:Value):Obj.mapSeq (·.setIfInBounds j u) { cls:=.type "list",data:=.seq its.toArray n } = { cls:=.type "list",data:=.seq (its.set j u).toArray n }:=by
 simp [Obj.mapSeq]
theorem Inv.lst (I:Inv X pins σ H s) (h:H p = some (.lst xs)) :
  ∃ (its:List Value) (n:Nat),Vals xs its/\s.heap.get? p = some { cls:=.type "list",data:=.seq its.toArray n }/\xs.length<=sizeLine:=by
 obtain ⟨z,its,n,r,e⟩:=I.hok p _ h
 exact ⟨its,n,r,e,z⟩
theorem Inv.lstUpd {n':Nat} {f:Obj->Obj} (I:Inv X pins σ H s) (h:H p = some (.lst xs))
 (ho:s.heap.get? p = some { cls:=.type "list",data:=.seq its.toArray n }) (hf:f { cls:=.type "list",data:=.seq its.toArray n } = { cls:=.type "list",data:=.seq its'.toArray n' }) (r:Vals ys its') (hz:ys.length<=sizeLine) (t:Nat) :
  Inv X pins σ (upd H p (.lst ys)) { s with heap:=s.heap.update p f,toks:=t }:=by
 have e:(s.heap.update p f).get? p = some { cls:=.type "list",data:=.seq its'.toArray n' }:=by
  rw [Heap.get?_update_self f ho (by rw [hf] <;> rfl),hf]
 refine I.write (x:=p) (e:=p) (by rw [h];trivial) (.inl rfl) (fun b u hb q=>(Heap.get?_update_other _ _ (Ne.symm hb)).trans q) ⟨_,e⟩ ?_
 exact ⟨hz,its',n',r,e⟩
noncomputable def zkV:V->V->V->Hp->(Hp->Prop)->Prop:=fun o i v H Q=>∃ p xs k j,o = .ref p/\i = .int k/\H p = some (.lst xs)/\ixN xs.length k = some j/\Q (upd H p (.lst (xs.set j v)))
theorem set_list:zcZ X zkV:=by
 intro pins s σ H o i v ov iv u Q I ro ri rv h
 obtain ⟨p,xs,k,j,rfl,rfl,hp,hj,q⟩:=h
 cases ro
 obtain ⟨t,rfl⟩:=ri
 obtain ⟨its,n,r,ho,hz⟩:=I.lst hp
 obtain ⟨h1,h2,h3,h4⟩:=zfd hj
 have hl:=r.length
 have hn:=zay
 have I':Inv X pins σ (upd H p (.lst (xs.set j v))) { s with heap:=s.heap.update p (Obj.mapSeq (·.setIfInBounds j u)) }:=
  I.lstUpd hp ho (zfM its n j u) (r.set rv j) (by rw [List.length_set];exact hz) s.toks
 by_cases h0:0<=k
 ·have hk:k.toNat = j:=by
   rw [seqIndex_of h0 h4] at h1
   exact Qc h1
  exact PySem.W.ki_setAt ho h0 (by omega) (by rw [Qh,← hl];exact h4) (by rw [hk];exact ⟨_,I',q⟩)
 ·have hk:(k + (its.toArray.size:Int)).toNat = j:=by
   rw [seqIndex_neg (by omega) h3] at h1
   rw [Qh,← hl]
   exact Qc h1
  exact PySem.W.ki_setBack ho (by omega) (by rw [Qh,← hl];exact h3) (by omega) (by rw [hk];exact ⟨_,I',q⟩)
theorem zdR (lo hi:Option Int) (n:Nat):(sliceBounds lo hi none n).1 = ((HT.sIx n 0 lo:Nat):Int)/\(sliceBounds lo hi none n).2.1 = ((HT.sIx n n hi:Nat):Int)/\(sliceBounds lo hi none n).2.2 = 1:=by
 refine ⟨?_,?_,rfl⟩
 ·cases lo with
  | none=>simp [sliceBounds,HT.sIx]
  | some i=>
   simp only [sliceBounds,HT.sIx,Option.getD_none,show (1:Int) > 0 by decide,if_true]
   by_cases h:i < 0
   ·simp only [h,if_true] <;> omega
   ·simp only [h,if_false] <;> omega
 ·cases hi with
  | none=>simp [sliceBounds,HT.sIx]
  | some i=>
   simp only [sliceBounds,HT.sIx,Option.getD_none,show (1:Int) > 0 by decide,if_true]
   by_cases h:i < 0
   ·simp only [h,if_true] <;> omega
   ·simp only [h,if_false] <;> omega
theorem zdm (its:List Value) (lo hi:Option Int):slicePick its.toArray lo hi none = ((its.drop (HT.sIx its.length 0 lo)).take (HT.sIx its.length its.length hi - HT.sIx its.length 0 lo)).toArray:=by
 obtain ⟨h1,h2,h3⟩:=zdR lo hi its.toArray.size
 unfold slicePick
 rw [h1,h2,h3]
 simp only [sliceRange_one,pick_run,Qh] <;> rfl
noncomputable def zlI (K:Frag):V->Option Int->Option Int->Hp->VK->Prop:=fun x lo hi H Q=>∃ a xs,x = .ref a/\SqL K H a xs/\∀ p,H p = none->Q (.ref p) (upd H p (.lst (cutV xs lo hi)))
theorem zid:SlR X (zlI X.K):=by
 intro pins s σ H x v vl vu lo hi sl Q I rx hs pl pu h
 obtain ⟨a,xs,rfl,hx,q⟩:=h
 cases rx
 obtain ⟨its,r,ht,hz⟩:=I.list hx
 have hlen:=r.length
 refine ⟨"list",_,slot_list_getitem.lookup,ht.isList.typeIs,?_⟩
 refine wpAny_getItem_list_slice ht.isList hs pl pu .none (by simp) ?_ (by rw [Qh] <;> omega)
 rw [zdm,← hlen]
 refine ⟨.ref s.heap.objs.size,_,I.laid (t':=s.toks) (o:=.lst (cutV xs lo hi)) (fun b ob q=>Q2 _ q) (Q3 _) ?_,rfl,q _ (I.hok.fresh (Q3 _))⟩
 exact ⟨Qi (zbL xs lo hi) hz,_,0,(r.drop (HT.sIx xs.length 0 lo)).take (HT.sIx xs.length xs.length hi - HT.sIx xs.length 0 lo),Qk _ rfl⟩
noncomputable def qD:V->Bool
 | .non=>true
 | .bl _=>true
 | .int _=>true
 | .str _=>true
 | _=>false
noncomputable def eqV:V->V->Bool
 | .non,.non=>true
 | .bl a,.bl b=>a == b
 | .bl a,.int b=>(if a then 1 else 0) == b
 | .int a,.bl b=>a == (if b then 1 else 0)
 | .int a,.int b=>a == b
 | .str a,.str b=>a == b
 | _,_=>false
theorem zej {A:Around} {v:Value} (ry:RelV y u) (rx:RelV x v) (fy:qD y = true) (fx:qD x = true):SeqAt.EqAt A s u v (eqV y x):=by
 cases y with
 | non=>
  cases ry
  cases x with
  | non=>cases rx;exact SeqAt.EqAt.same _
  | bl b=>cases rx;exact SeqAt.EqAt.none_bool b
  | int b=>obtain ⟨t,rfl⟩:=rx;exact SeqAt.EqAt.none_int b t
  | str b=>obtain ⟨t,rfl⟩:=rx;exact SeqAt.EqAt.none_str b t
  | _=>exact absurd (show false = true from fx) Q4
 | bl a=>
  cases ry
  cases x with
  | non=>cases rx;exact SeqAt.EqAt.bool_none a
  | bl b=>cases rx;exact SeqAt.EqAt.bool_bool a b
  | int b=>obtain ⟨t,rfl⟩:=rx;exact SeqAt.EqAt.bool_int a b t
  | str b=>obtain ⟨t,rfl⟩:=rx;exact SeqAt.EqAt.bool_str a b t
  | _=>exact absurd (show false = true from fx) Q4
 | int a=>
  obtain ⟨t',rfl⟩:=ry
  cases x with
  | non=>cases rx;exact SeqAt.EqAt.int_none a t'
  | bl b=>cases rx;exact SeqAt.EqAt.int_bool a t' b
  | int b=>obtain ⟨t,rfl⟩:=rx;exact SeqAt.EqAt.int_int a t' b t
  | str b=>obtain ⟨t,rfl⟩:=rx;exact SeqAt.EqAt.int_str a t' b t
  | _=>exact absurd (show false = true from fx) Q4
 | str a=>
  obtain ⟨t',rfl⟩:=ry
  cases x with
  | non=>cases rx;exact SeqAt.EqAt.str_none a t'
  | bl b=>cases rx;exact SeqAt.EqAt.str_bool a t' b
  | int b=>obtain ⟨t,rfl⟩:=rx;exact SeqAt.EqAt.str_int a t' b t
  | str b=>obtain ⟨t,rfl⟩:=rx;exact SeqAt.EqAt.str_str a t' b t
  | _=>exact absurd (show false = true from fx) Q4
 | _=>exact absurd (show false = true from fy) Q4
noncomputable def eqU (x:V) (u:Value):Bool:=match u with
 | .none=>eqV .non x
 | .bool b=>eqV (.bl b) x
 | .int i _=>eqV (.int i) x
 | .str z _=>eqV (.str z) x
 | _=>false
theorem zgM (r:RelV y u) (f:qD y = true):eqU x u = eqV y x:=by
 cases y with
 | non=>cases r;rfl
 | bl b=>cases r;rfl
 | int i=>obtain ⟨t,rfl⟩:=r;rfl
 | str z=>obtain ⟨t,rfl⟩:=r;rfl
 | _=>exact absurd (show false = true from f) Q4
theorem zcW {x:V}:∀ {xs:List V} {us:List Value},Vals xs us->xs.all qD = true->us.any (eqU x) = xs.any fun y=>eqV y x
 | _,_,.nil,_=>rfl
 | y :: xs,u :: us,.cons r t,f=>by
  rw [all_cons,Qq] at f
  rw [any_cons,any_cons,zgM r f.1,zcW t f.2]
theorem zb6 {A:Around} {s:Shared} {x:V} {v:Value} (rx:RelV x v) (fx:qD x = true):∀ {xs:List V} {us:List Value},Vals xs us->xs.all qD = true->∀ u ∈ us,SeqAt.EqAt A s u v (eqU x u)
 | _,_,.nil,_=>fun u hu=>by cases hu
 | y :: xs,u :: us,.cons r t,f=>fun u' hu=>by
  rw [all_cons,Qq] at f
  rcases mem_cons.mp hu with rfl | hu
  ·rw [zgM r f.1];exact zej r rx f.1 fx
  ·exact zb6 rx fx t f.2 u' hu
noncomputable def inV (x:V) (xs:List V):Bool:=xs.any fun y=>eqV y x
noncomputable def rIn (K:Frag) (neg:Bool):R2:=fun x y H Q=>∃ p xs,y = .ref p/\(SqL K H p xs\/SqT K H p xs)/\qD x = true/\xs.all qD = true/\Q (.bl (if neg then !inV x xs else inV x xs)) H
theorem zgq:OpR X (compareOp .In) (rIn X.K false):=by
 intro pins s σ H x y v u Q I rx ry h
 obtain ⟨p,xs,rfl,hq,fx,fs,q⟩:=h
 cases ry
 rcases hq with hq | hq
 ·obtain ⟨its,r,pl,hz⟩:=I.list hq
  refine SeqAt.in_listAt (eqU x) pl.isList (fun w hw=>zb6 rx fx r fs w (by simpa using hw)) ⟨.bl _,H,I,rfl,?_⟩
  rw [show its.toArray.any (eqU x) = its.any (eqU x) by simp,zcW r fs]
  exact q
 ·obtain ⟨its,r,pl,hz⟩:=I.tuple hq
  refine SeqAt.in_tupleAt (eqU x) pl (fun w hw=>zb6 rx fx r fs w (by simpa using hw)) ⟨.bl _,H,I,rfl,?_⟩
  rw [show its.toArray.any (eqU x) = its.any (eqU x) by simp,zcW r fs]
  exact q
theorem zep:CallR X (.builtin "len") (fun xs H Q=>∃ p ys,xs = [.ref p]/\(SqL X.K H p ys\/SqT X.K H p ys)/\Q (.int ys.length) H):=by
 intro pins s σ H xs us Q I r h
 obtain ⟨p,ys,rfl,hq,q⟩:=h
 obtain ⟨u,rfl,rx⟩:=vals1 r
 cases rx
 have hn:=zay
 rcases hq with hq | hq
 ·obtain ⟨its,r',pl,hz⟩:=I.list hq
  have hlen:=r'.length
  exact Calls.call_len_list pl.isList (by simp only [Qh] <;> omega) ⟨.int ys.length,H,I.tok _,⟨s.toks + 1,by rw [Qh,hlen]⟩,q⟩
 ·obtain ⟨its,r',pl,hz⟩:=I.tuple hq
  have hlen:=r'.length
  exact len_tuple pl (by simp only [Qh] <;> omega) ⟨.int ys.length,H,I.tok _,⟨s.toks + 1,by rw [Qh,hlen]⟩,q⟩
theorem zeo:CallR X (.builtin "len") (fun xs H Q=>∃ z,xs = [.str z]/\z.length<=sizeLine/\Q (.int z.length) H):=by
 intro pins s σ H xs us Q I r h
 obtain ⟨z,rfl,hz,q⟩:=h
 obtain ⟨u,rfl,t,rfl⟩:=vals1 r
 have hn:=zay
 exact len_str (by omega) ⟨.int z.length,H,I.tok _,⟨_,rfl⟩,q⟩
theorem zdp:CallR X (.type "tuple") (fun xs H Q=>∃ p ys,xs = [.ref p]/\((SqL X.K H p ys/\∀ l,H l = none->Q (.ref l) (upd H l (.tup ys)))\/(SqT X.K H p ys/\Q (.ref p) H))):=by
 intro pins s σ H xs us Q I r h
 obtain ⟨p,ys,rfl,h⟩:=h
 obtain ⟨u,rfl,rx⟩:=vals1 r
 cases rx
 rcases h with ⟨hq,q⟩ | ⟨hq,q⟩
 ·obtain ⟨its,r',pl,hz⟩:=I.list hq
  have hlen:=r'.length
  refine call_tuple_list pl.isList (fun h' kp=>?_) (by simp only [Qh] <;> omega)
  have I1:Inv X pins σ H { s with heap:=h' }:=I.kept (t':=s.toks) kp
  have I2:Inv X pins σ (upd H h'.objs.size (.tup ys)) { s with heap:=h'.push { cls:=.type "tuple",data:=.seq its.toArray } }:=
   I1.laid (t':=s.toks) (fun b o e=>Q2 _ e) (Q3 _) (show ObjOk X.prog X.w _ _ _ (.tup ys) from ⟨hz,its,r',IsTup.new _ _,NoDict.new⟩)
  exact ⟨.ref h'.objs.size,_,I2,rfl,q _ (I1.hok.fresh (Q3 _))⟩
 ·obtain ⟨its,r',pl,hz⟩:=I.tuple hq
  exact call_tuple_same pl ⟨.ref p,H,I,rfl,q⟩
def tyV (K:Frag) (T:String) (x:V) (H:Hp):Prop:=match x with
 | .str _=>T = "str"
 | .int _=>T = "int"
 | .ref p=>(T = "list"/\∃ xs,SqL K H p xs)\/(T = "tuple"/\∃ o,K.lookup p = some o/\o.cls = .type "tuple"/\o.dict = none) \/
   (T = "dict"/\((∃ kvs,Rd H p (.dK kvs))\/∃ kvs,H p = some (.dT kvs)))\/(T = "set"/\∃ S n,H p = some (.set S n))
 | _=>False
theorem zjj {pins:List (Addr × Obj)} {σ:St} {H:Hp} {s:Shared} {T:String} {x:V} {v:Value} (I:Inv X pins σ H s) (r:RelV x v) (ty:tyV X.K T x H) :
  s.TypeIs v T/\∀ a,v = .ref a->∃ ob,s.heap.get? a = some ob/\ob.dict = none:=by
 cases x with
 | str z=>
  obtain ⟨t,rfl⟩:=r
  cases (show T = "str" from ty)
  exact ⟨typeIs_str s z t,fun _ e=>nomatch e⟩
 | int i=>
  obtain ⟨t,rfl⟩:=r
  cases (show T = "int" from ty)
  exact ⟨typeIs_int s i t,fun _ e=>nomatch e⟩
 | ref p=>
  cases r
  rcases ty with ⟨rfl,xs,hq⟩ | ⟨rfl,o,hk,hc,hd⟩ | ⟨rfl,hk⟩ | ⟨rfl,S,n,hk⟩
  ·obtain ⟨its,_,pl,_⟩:=I.list hq
   refine ⟨pl.isList.typeIs,fun a e=>?_⟩
   cases e
   obtain ⟨o,n,e,c,hd,_⟩:=pl
   exact ⟨o,e,hd⟩
  ·refine ⟨⟨o,I.kIn p o hk,hc⟩,fun a e=>?_⟩
   cases e
   exact ⟨o,I.kIn _ o hk,hd⟩
  ·have z:∃ o,s.heap.get? p = some o/\o.ExactDict:=by
    rcases hk with ⟨kvs,hk⟩ | ⟨kvs,hk⟩
    ·obtain ⟨_,_,_,_,o,_,_,e,ex,_⟩:=(show ObjOk X.prog X.w H s.heap p (.dK kvs) from hk.ok I.hok)
     exact ⟨o,e,ex⟩
    ·obtain ⟨_,_,_,_,o,_,_,e,ex,_⟩:=I.hok p _ hk
     exact ⟨o,e,ex⟩
   obtain ⟨o,e,ex⟩:=z
   refine ⟨⟨o,e,ex.1⟩,fun a e2=>?_⟩
   cases e2
   exact ⟨o,e,ex.2.1⟩
  ·obtain ⟨o,_,_,_,e,ex,_⟩:=I.hok p _ hk
   refine ⟨⟨o,e,ex.1⟩,fun a e2=>?_⟩
   cases e2
   exact ⟨o,e,ex.2.1⟩
 | _=>exact False.elim ty
noncomputable def tBM (K:Frag) (T:String) (r:V->List V->Hp->VK->Prop) (to:TE) (t:TA):TE:=fun σ H Q=>to σ H fun x H1=>tyV K T x H1/\t σ H1 fun xs H2=>r x xs H2 Q
variable {o:Expr} {es:List Expr} {to:TE} {t:TA} {name:Str} {apos cpos:Pos} {T id:String} {r:V->List V->Hp->VK->Prop}
theorem zdu (pa:PlainAttrs T) (slot:Slot T name id) (hty:typeOf (.builtin id) = pure (.type "method_descriptor")) (hm:MtR X id r) (ho:PE X o to) (ha:PA X (e :: es) t)
  (hbase:attributeBase o name X.env (eval o X.env) = eval o X.env:=by rfl)
  (hfew:((backTo cpos (starEach (e :: es) X.env)).all (fun x=>!x.1) && (backToKw cpos (keywordEach [] X.env)).all (fun x=>x.1.isSome)
   && decide ((e :: es).length + ([]:List Keyword).length + (if ([]:List Keyword).isEmpty then 0 else 1) < 30)) = true:=by rfl)
  (hline:(apos.endLine == cpos.line) = true:=by rfl) (hs:starEach (e :: es) X.env = (false,eval e X.env) :: starEach es X.env:=by rfl) (hplain:(backTo cpos (starEach es X.env)).any (·.1) = false:=by rfl) :
  PE X (.Call (.Attribute o name apos) (e :: es) [] cpos) (tBM X.K T r to t):=by
 intro pins s σ H Q I h
 refine wpAny_Call_method_late hbase hfew hline rfl (thn (ho pins s σ H _ I h) fun v s1 ⟨x,H1,I1,r1,ty,q1⟩=>?_)
 obtain ⟨h1,h2⟩:=zjj I1 r1 ty
 refine ⟨T,id,pa,slot,hty,h1,h2,?_⟩
 have hA:=ha cpos pins s1 σ H1 _ I1 q1
 rw [hs] at hA ⊢
 refine Calls.callWith_builtin (by show (false || (backTo cpos (starEach es X.env)).any (·.1)) = false;rw [hplain] <;> rfl) (Calls.evalArgs_plain ?_)
 exact thn hA fun us s2 ⟨vs,H2,I2,r2,q2⟩=>hm pins s2 σ H2 x vs v us Q I2 r1 r2 q2
end
def MtM (X:Cx) (id:String) (r:V->List V->Hp->VK->Prop):Prop:=
 ∀ (pins:List (Addr × Obj)) (s:Shared) (σ:St) (H:Hp) (x:V) (xs:List V) (v:Value) (us:List Value) (Q:VK),Inv X pins σ H s->RelV x v->Vals xs us->r x xs H Q->
  wpAny (model X.prog X.w) X.A (call (.builtin id) (v :: us)) (EP X pins σ Q) X.xe s
theorem Vals.one:∀ {x:V} {us:List Value},Vals [x] us->∃ u,us = [u]/\RelV x u
 | _,_,.cons r .nil=>⟨_,rfl,r⟩
theorem Vals.two:∀ {x y:V} {us:List Value},Vals [x,y] us->∃ u v,us = [u,v]/\RelV x u/\RelV y v
 | _,_,_,.cons r (.cons q .nil)=>⟨_,_,rfl,r,q⟩
theorem Vals.zero:∀ {us:List Value},Vals [] us->us = []
 | _,.nil=>rfl
theorem Vals.eraseIdx:∀ {xs:List V} {us:List Value} (i:Nat),Vals xs us->Vals (xs.eraseIdx i) (us.eraseIdx i)
 | _,_,_,.nil=>.nil
 | _,_,0,.cons _ t=>t
 | _,_,i + 1,.cons r t=>.cons r (Vals.eraseIdx i t)
theorem Vals.rep {xs:List V} {us:List Value} (h:Vals xs us):∀ k:Nat,Vals (List.replicate k xs).flatten (List.replicate k us).flatten
 | 0=>.nil
 | k + 1=>by
  rw [replicate_succ,replicate_succ,flatten_cons,flatten_cons]
  exact Vals.append h (Vals.rep h k)
theorem foldl_rep (its:List Value):∀ (k:Nat) (acc:List Value),
  List.foldl (fun x1 x2=>x1 ++ x2) acc.toArray (List.replicate k its.toArray) = (acc ++ (List.replicate k its).flatten).toArray
 | 0,acc=>by simp
 | k + 1,acc=>by
  have e:acc.toArray ++ its.toArray = (acc ++ its).toArray:=by simp
  have e2:(acc ++ its) ++ (List.replicate k its).flatten = acc ++ (List.replicate (k + 1) its).flatten:=by
   rw [replicate_succ,flatten_cons,append_assoc]
  rw [← e2,← foldl_rep its k (acc ++ its),← e,replicate_succ,List.foldl_cons]
variable {t':Nat}
section
variable {l b:Addr} {zs:List V}
theorem Inv.lset {f:Array Value->Array Value} {t':Nat} (I:Inv X pins σ H s) (hH:H l = some (.lst xs))
 (e:s.heap.get? l = some { cls:=.type "list",data:=.seq its.toArray n }) (hf:f its.toArray = its'.toArray) (hv:Vals ys its') (hz:ys.length<=sizeLine) :
  Inv X pins σ (upd H l (.lst ys)) { s with heap:=s.heap.update l (Obj.mapSeq f),toks:=t' }:=by
 have q:=PySem.IsL.update e f
 rw [hf] at q
 refine I.write (x:=l) (e:=l) (by rw [hH];exact trivial) (.inl rfl) (fun b' u hb hu=>(Heap.get?_update_other s.heap (Obj.mapSeq f) (Ne.symm hb)).trans hu) ⟨_,q⟩ ?_
 exact ⟨hz,its',_,hv,q⟩
theorem Inv.lnew {t':Nat} (I:Inv X pins σ H s) (hv:Vals ys its) (hz:ys.length<=sizeLine) :
  Inv X pins σ (upd H s.heap.objs.size (.lst ys)) { s with heap:=s.heap.push { cls:=.type "list",data:=.seq its.toArray },toks:=t' }:=
 I.laid (fun _ _ q=>Q2 _ q) (Q3 _) ⟨hz,its,0,hv,Qk _ rfl⟩
theorem Inv.fresh (I:Inv X pins σ H s):H s.heap.objs.size = none:=I.hok.fresh (Q3 _)
theorem Inv.lstM (I:Inv X pins σ H s) (hH:H l = some (.lst xs)):xs.length<=sizeLine/\∃ (its:List Value) (n:Nat),Vals xs its/\xs.length = its.length/\s.heap.get? l = some { cls:=.type "list",data:=.seq its.toArray n }:=by
 obtain ⟨z,its,n,r,e⟩:=I.hok l _ hH
 exact ⟨z,its,n,r,r.length,e⟩
theorem zhm (h:n<=sizeLine):Builtin.List.listTooLong n = false:=by
 unfold Builtin.List.listTooLong
 exact Qt (by omega)
end
section
noncomputable def zcM:V->List V->Hp->VK->Prop:=fun x vs H Q=>∃ l xs y,x = .ref l/\vs = [y]/\H l = some (.lst xs)/\xs.length < sizeLine/\Q .non (upd H l (.lst (xs ++ [y])))
theorem zal:MtM X "list.append" zcM:=by
 intro pins s σ H x vs v us Q I rx rv h
 obtain ⟨l,xs,y,rfl,rfl,hH,hz,q⟩:=h
 cases rx
 obtain ⟨u,rfl,ru⟩:=rv.one
 obtain ⟨z,its,n,r,hl,e⟩:=I.lstM hH
 refine call_meets F.slot_list_append ⟨_,e,rfl⟩ F.entry_list_append (F.args_list_append_2 _ _) (PySem.list_append l its.toArray n u (by rw [Qh];omega)) ⟨e,?_⟩
 refine ⟨.non,_,I.lset (its':=its ++ [u]) hH e (by simp) (r.append (.cons ru .nil)) ?_,rfl,q⟩
 rw [Qm,List.length_singleton]
 omega
theorem len_rep {α:Type} (xs:List α) (k:Nat):(List.replicate k xs).flatten.length = k * xs.length:=by
 induction k with
 | zero=>simp
 | succ k ih=>rw [replicate_succ,flatten_cons,Qm,ih,Nat.succ_mul,Nat.add_comm]
end
end L2
namespace Att
open PySem PySem.W PySem.Calls PyProof.Rows
variable {h:Heap} {P:Params}
theorem zcs:∀ (ns:List Int) (vs:List Value),WellAll P h vs (ns.map WData.int)->IntsAre vs ns:=by
 intro ns
 induction ns with
 | nil=>
  intro vs w
  rw [map_nil] at w
  cases w
  exact .nil
 | cons n ns ih=>
  intro vs w
  rw [map_cons] at w
  cases w with
  | cons a b=>
   cases a
   exact .cons _ _ (ih _ b)
variable {n:Nat} {l:OpenLaw}
theorem zge (hn:l.most = some n) {args:List WData} {vals:List Value}
 (hpre:l.row.toRowW.claim.pre args = true) (hwl:WellAll P h vals args) :
  ∃ a vs ns,vals = [Value.ref a]/\args = [WData.list (ns.map WData.int)]/\h.get? a = some { cls:=.type "list",data:=.seq vs.toArray }/\IntsAre vs ns/\ns.length<=n:=by
 have hsh:WShape.hasAll [] args [.list .int] = true:=(pre_splitW hpre).1
 have hc:l.pre.holds [] { args:=args } = true:=(pre_splitW hpre).2
 obtain ⟨d,r,rfl,h1,h2⟩:=hasAllW_cons hsh
 obtain rfl:=hasAllW_nil h2
 obtain ⟨xs,rfl,h3⟩:=hasW_list h1
 obtain ⟨ns,rfl⟩:=items_int h3
 have hlen:ns.length<=n:=by
  unfold OpenLaw.pre at hc
  have h4:(WTm.not (.lt (.lit (.int (n:Int))) (.len (.arg 0)))).holds [] { args:=[.list (ns.map .int)] } = true:=by
   have h4:=(holds_andW hc).1
   rw [hn] at h4
   exact h4
  have h5:=condW_of h4 (w_not (w_lt w_lit (w_len_list (w_arg rfl))))
  rw [Qg] at h5
  refine Nat.le_of_not_lt fun q=>?_
  have q':(n:Int) < ((ns.length:Nat):Int):=by omega
  first
   | (rw [Qs q'] at h5;exact absurd h5 (by decide))
   | (simp at h5;omega)
 cases hwl with
 | cons w1 w2=>
  cases w2
  cases w1 with
  | list ho hall=>exact ⟨_,_,ns,rfl,rfl,ho,zcs ns _ hall,hlen⟩
theorem zgm (l:OpenLaw) (args:List WData):l.row.toRowW.claim.post args (.bool true) args = true:=
 postW_of (r:=l.row.toRowW) (X:=(true == true))
  (show WShape.has [] (.bool true) .bool = true by first | rfl | decide | simp [WShape.has,WShape.arms,WShape.armsAll])
  (show (WTm.eq .res (.lit (.bool true))).value [] { args:=args,res:=some (.bool true),after:=args } = some (.bool (true == true)) from w_eq_bool (w_res rfl) w_lit) rfl
theorem zeM {q:Program} {loose:List Str} {XP:(Str->Option Value)->Heap->Prop} {YP:World->Heap->Prop} {d:DefRec}
 (hn:l.most = some n) (hdf:d.params.defaults = [])
 (call:∀ (w:World) (s₀ s₁:Shared) (mg mb:Str->Option Value) (fa:Addr) (o:Obj) (pm cd doc:Value) (a:Addr) (vs:List Value) (ns:List Int),
 Ground q loose [] XP w s₀ mg mb s₁.heap->YP w s₁.heap->
 s₁.heap.get? fa = some o->o.data = .func (docDef d.name d.params d.body d.scope pm cd doc)->s₁.heap.CodeRec cd d.name->mg d.name = some (.ref fa)->
 s₁.heap.get? a = some { cls:=.type "list",data:=.seq vs.toArray }->IntsAre vs ns->ns.length<=n->s₁.gens = #[]->
 codeAny (model l.prog w) callerA (.call (.ref fa) ⟨[.ref a],[]⟩) (fun r s'=>r = .ok (.ret (.bool true))/\OldK s₁.heap s'.heap/\s'.os = s₁.os/\AllBare s'.gens) s₁) :
  WalkO q loose XP YP l.row.toRowW d [] (fun f vs=>PySem.call f vs):=by
 intro w s₀ s₁ mg mb G Y fa o pm cd doc dV kV ho hd hcd hD hmg hg args vals as hpre hlay hrd hwl hlo
 obtain rfl:dV = .none:=Dflts.none hD hdf
 obtain rfl:kV = .none:=Dflts.noKw hD
 obtain ⟨a,vs,ns,rfl,rfl,hobj,hints,hlen⟩:=zge hn hpre hwl
 refine enter_call (codeAny_mono (call w s₀ s₁ mg mb fa o pm cd doc a vs ns G Y ho (fd_plain hd) hcd hmg hobj hints hlen hg) fun r s' hq=>?_)
 obtain ⟨rfl,h2,h3,h4⟩:=hq
 exact ⟨.inl ⟨.bool true,.bool true,[],rfl,fun _=>rfl,.bool true,zgm l _,fun _=>⟨List.Pairwise.nil,fun _ hm=>(nomatch hm)⟩⟩,h2,h3,h4⟩
end Att
namespace L2
open PySem PySem.Spec PyProof.Rows
theorem zc1:∀ {vs:List Value} {ns:List Int},IntsAre vs ns->Vals (ns.map V.int) vs
 | _,_,.nil=>.nil
 | _,_,.cons n t h=>.cons ⟨t,rfl⟩ (zc1 h)
def zf4 (H:Hp):Prop:=∀ b,H b = none\/∃ o xs,H b = some (.frz o (.lst xs))
variable {CX:CXT} {K:Frag} {fd:FuncData} {P:Program} {sp:Sp} {x:Str} {mg:Str->Option Value} {w:World}
theorem zhv {mb:Str->Option Value} {k:Nat} {fa a:Addr} {s₁:Shared} {vs:List Value} {ns:List Int}
 (KX:K.In s₁.heap) (hns:s₁.heap.Ns mainGlobals mg) (hb:s₁.heap.Ns builtinsNs mb) (hbb:∀ x:Str,x ≠ "__name__"->mb x = bootBuiltins x) (hlim:s₁.heap.NoLimit) (hg:s₁.gens = #[])
 (ha:s₁.heap.get? a = some { cls:=.type "list",data:=.seq vs.toArray }) (hi:IntsAre vs ns) (hl:ns.length<=sizeLine) (hr:Room k callerA)
 (F:∀ base:Heap,K.In base->base.Ns mainGlobals mg->FnOk P w K mg base CX k fa fd [x] sp) (hbind:∀ (s:Shared) (u:Value),BindsTo s fd ⟨[u],[]⟩ [(x,u)])
 (hsp:∀ H:Hp,zf4 H->SqL K H a (ns.map V.int)->sp [.ref a] H (fun v _=>v = .bl true) fun _ _ _=>False)
 (hCX:∀ H e s',CX [] H s₁ (fun _ _ _=>False) e s'->False) :
  codeAny (model P w) callerA (.call (.ref fa) ⟨[.ref a],[]⟩) (fun r s'=>r = .ok (.ret (.bool true))/\OldK s₁.heap s'.heap/\s'.os = s₁.os/\AllBare s'.gens) s₁:=by
 have rv:=zc1 hi
 have lenV:=hi.length
 -- from an abstract heap in which nothing but the script may be tracked
 have core:∀ H:Hp,zf4 H->SqL K H a (ns.map V.int)->HOk P w H s₁.heap->(∀ b,H b ≠ none->b = a)->(H a ≠ none->K.lookup a = none)->
   codeAny (model P w) callerA (.call (.ref fa) ⟨[.ref a],[]⟩) (fun r s'=>r = .ok (.ret (.bool true))/\OldK s₁.heap s'.heap/\s'.os = s₁.os/\AllBare s'.gens) s₁:=by
  intro H hO hS hok hA hK
  have base_of:∀ {b:Addr} {o:Obj},s₁.heap.get? b = some o->H b = none->(zaT s₁.heap H).get? b = some o:=fun e n=>zhB e n
  have noA:∀ {b:Addr} {o:Obj} {es:Array DictEntry} {ep:Nat},s₁.heap.get? b = some o->o.data = .dict es ep->H b = none:=fun {b o es ep} e d=>by
   cases q:H b with
   | none=>rfl
   | some u=>
    have e':b = a:=hA b (by rw [q];simp)
    subst e'
    rw [ha] at e;cases e
    have d':Data.seq vs.toArray _ = Data.dict es ep:=d
    cases d'
  have nsK:∀ {b:Addr} {m:Str->Option Value},s₁.heap.Ns b m->(zaT s₁.heap H).Ns b m:=fun {b m} ⟨o,es,ep,e,d,r⟩=>⟨o,es,ep,base_of e (noA e d),d,r⟩
  have hKb:K.In (zaT s₁.heap H):=fun b o e=>base_of (KX b o e) (by
   cases q:H b with
   | none=>rfl
   | some u=>
    have e':b = a:=hA b (by rw [q];simp)
    subst e'
    rw [hK (by rw [q];simp)] at e;cases e)
  have hM:Mod K mg (zaT s₁.heap H):=⟨hKb,nsK hns,⟨mb,nsK hb,hbb⟩,let ⟨mc,h1,h2⟩:=hlim;⟨mc,nsK h1,h2⟩⟩
  have e0:Env0 P w K mg (zaT s₁.heap H) callerA [] s₁ H:=⟨rfl,hM,fun b o e=>ziE e,Nat.le_of_eq (zgE _ _),trivial,fun b hb=>absurd (show b ∈ ([]:List Addr) from hb) (by simp),hok,.of_eq hg⟩
  refine codeAny_mono ((F _ hKb (nsK hns)).run callerA [] s₁ H ⟨[.ref a],[]⟩ [.ref a] [.ref a] _ _ hr e0 (hbind s₁ (.ref a)) (.cons rfl .nil) (hsp H hO hS)) fun r s' h=>?_
  cases r with
  | error e=>exact (hCX H e s' h).elim
  | ok fl=>
   cases fl with
   | next=>exact False.elim h
   | brk=>exact False.elim h
   | cont=>exact False.elim h
   | ret u=>
    obtain ⟨v,H',os,bare,un,hok',r',q⟩:=h
    have q':v = .bl true:=q
    subst q'
    obtain rfl:u = Value.bool true:=r'
    refine ⟨rfl,OldK.of_keep fun b o e=>?_,os,bare⟩
    cases q:H b with
    | none=>exact un.keep b o e q (by intro z;exact absurd (show b ∈ ([]:List Addr) from z) (by simp)) (by simp)
    | some u=>
     rcases hO b with z | ⟨ob,xs,z⟩
     ·rw [q] at z;cases z
     ·have z2:=un.frzs b ob _ z
      obtain ⟨e1,_⟩:=hok b _ z
      obtain ⟨e2,_⟩:=hok' b _ z2
      rw [e] at e1;cases e1
      exact e2
 cases hk:K.lookup a with
 | some o=>
  -- the script is one of the module's own objects
  have e:=KX a o hk
  rw [ha] at e
  cases e
  refine core (fun _=>none) (fun _=>.inl rfl) (.inr ⟨_,vs.toArray,_,hk,rfl,rfl,rfl,by rw [Qh,lenV];exact hl,by simpa using rv⟩) (fun b u z=>by have z':(none:Option HO) = some u:=z;cases z') (fun b z=>absurd rfl z) fun z=>absurd rfl z
 | none=>
  refine core (fun b=>if b = a then some (.frz { cls:=.type "list",data:=.seq vs.toArray } (.lst (ns.map V.int))) else none) (fun b=>?_) (.inl (.inr ⟨{ cls:=.type "list",data:=.seq vs.toArray },if_pos rfl⟩)) (fun b u z=>?_) (fun b z=>?_) fun _=>hk
  ·by_cases hb:b = a
   ·exact .inr ⟨_,_,if_pos hb⟩
   ·exact .inl (if_neg hb)
  ·by_cases hb:b = a
   ·have z':=(if_pos hb).symm.trans z
    cases z'
    subst hb
    exact ⟨ha,by rw [Qg];exact hl,vs,_,rv,ha⟩
   ·have z':=(if_neg hb).symm.trans z
    cases z'
  ·by_cases hb:b = a
   ·exact hb
   ·exact absurd (if_neg hb) z
noncomputable abbrev KOf {K:Frag} {h:Heap} (_:K.In h):Frag:=K
variable {XP:(Str->Option Value)->Heap->Prop} {d:DefRec} {loose:List Str} {n:Nat} {q:Program} {l:PySem.W.OpenLaw} {YP:World->Heap->Prop}
theorem zh4 {k:Nat} {K:Params->Frag} {CX:World->CXT} {sp:World->Sp} 
 (hn:l.most = some n) (hn2:n<=sizeLine) (hdf:d.params.defaults = []) (hr:Room k callerA)
 (hY:∀ (w:World) (h:Heap),YP w h->(K w.params).In h)
 (F:∀ (w:World) (mg:Str->Option Value) (fa:Addr) (h:Heap),(K w.params).In h->h.Ns mainGlobals mg->mg d.name = some (.ref fa)->
 ∃ fd:FuncData,(∀ (s:Shared) (u:Value),BindsTo s fd ⟨[u],[]⟩ [(x,u)]) /\
 ∀ base:Heap,(K w.params).In base->base.Ns mainGlobals mg->FnOk l.prog w (K w.params) mg base (CX w) k fa fd [x] (sp w))
 (hsp:∀ (w:World) (H:Hp) (a:Addr) (ns:List Int),ns.length<=n->zf4 H->SqL (K w.params) H a (ns.map V.int)->sp w [.ref a] H (fun v _=>v = .bl true) fun _ _ _=>False)
 (hCX:∀ (w:World) (H:Hp) (s:Shared) (e:Value) (s':Shared),CX w [] H s (fun _ _ _=>False) e s'->False) :
  PySem.W.WalkO q loose XP YP l.row.toRowW d [] (fun f vs=>PySem.call f vs):=by
 refine Att.zeM hn hdf fun w s₀ s₁ mg mb fa o pm cd doc a vs ns G Y ho hd hcd hmg hobj hints hlen hg=>?_
 have KX:=hY w _ Y
 obtain ⟨fd,hb,hF⟩:=F w mg fa _ KX G.T.g hmg
 exact zhv KX G.T.g G.T.b G.T.builtins G.T.nolimit hg hobj hints (Qi hlen hn2) hr hF hb (fun H hO hS=>hsp w H a ns hlen hO hS) fun H e s'=>hCX w H s₁ e s'
theorem zg3 {k:Nat} {K:Params->Frag} {sp:Frag->Sp} 
 (hn:l.most = some n) (hn2:n<=sizeLine) (hdf:d.params.defaults = []) (hr:Room k callerA)
 (hY:∀ (w:World) (h:Heap),YP w h->(K w.params).In h)
 (F:∀ (w:World) (mg:Str->Option Value) (fa:Addr) (h:Heap),(K w.params).In h->h.Ns mainGlobals mg->mg d.name = some (.ref fa)->
 ∃ fd:FuncData,(∀ (s:Shared) (u:Value),BindsTo s fd ⟨[u],[]⟩ [(x,u)]) /\
 ∀ base:Heap,(K w.params).In base->base.Ns mainGlobals mg->FnOk l.prog w (K w.params) mg base CX k fa fd [x] (sp (K w.params)))
 (hsp:∀ (K:Frag) (H:Hp) (a:Addr) (ns:List Int),ns.length<=n->zf4 H->SqL K H a (ns.map V.int)->sp K [.ref a] H (fun v _=>v = .bl true) fun _ _ _=>False)
 (hCX:∀ (H:Hp) (s:Shared) (e:Value) (s':Shared),CX [] H s (fun _ _ _=>False) e s'->False) :
  PySem.W.WalkO q loose XP YP l.row.toRowW d [] (fun f vs=>PySem.call f vs):=
 zh4 (K:=K) (CX:=fun _=>CX) (sp:=fun w=>sp (K w.params)) hn hn2 hdf hr hY F (fun w H a ns h1 h2 h3=>hsp (K w.params) H a ns h1 h2 h3) fun _ H s e s'=>hCX H s e s'
noncomputable def zN (s:Stmt):Arguments:=match s with
 | .FunctionDef _ a _ _ _ _ _ _ _ _=>a
 | _=>{ posonlyargs:=[],args:=[],vararg:=none,kwonlyargs:=[],kw_defaults:=[],kwarg:=none,defaults:=[] }
noncomputable def yt (s:Stmt):List Stmt:=match s with
 | .FunctionDef _ _ b _ _ _ _ _ _ _=>b
 | _=>[]
noncomputable def yd (s:Stmt):Scope:=match s with
 | .FunctionDef _ _ _ _ _ _ sc _ _ _=>sc
 | _=>{ kind:=.function,names:=[],isGenerator:=false,isCoroutine:=false }
noncomputable abbrev CX0:CXT:=fun _ _ _ _ _ _=>False
noncomputable abbrev E0:XK:=fun _ _ _=>False
variable {X:Cx}
theorem zk6:Passes CX0 X E0:=fun _ _ _ _ _ _ _ h=>h.elim
structure Fun (K:Frag) (x qual:Str) (st:Stmt) (f:Addr) (fd:FuncData):Prop where
 ex:∃ (oc:Value) (od:Option Addr) (kV doc pm:Value) (an:Option Addr) (cdv ct:Value) (osl:Array (Option Value)),
  fd = PySem.W.fnOf x qual (zN st) (yt st) (yd st) .none kV doc pm an cdv ct/\K.lookup f = some ⟨oc,od,.func fd,osl⟩/\PySem.W.codeIn K cdv qual = true
 kp:PySem.W.keepIn K (.ref f) = true
variable {f:Addr} {ps:List Str} {st:Stmt} {qual:Str}
section
variable {base:Heap}
theorem Fun.ok {N:List Str} {k:Nat} (F:Fun K x qual st f fd) (S:FnScope N ps (yd st)) (len:∀ vs H Q E,sp vs H Q E->vs.length = ps.length)
 (hbody:∀ (cdv:Value) (A:Around) (outer:List Env) (s:Shared) (H:Hp) (vs:List V) (Q:VK) (E:XK),Room k (A.deeper (envOfC qual (yd st) s.heap.objs.size f cdv))->sp vs H Q E->
 ∃ t,PSs (y8 CX0 P w K mg base N qual (yd st) f cdv A outer s H E).nox (yt st) t/\t { nx:=fun _ H'=>Q .non H',rt:=Q } (start N vs) H):FnOk P w K mg base CX0 (k + 1) f fd ps sp:=by
 obtain ⟨oc,od,kV,doc,pm,an,cdv,ct,osl,rfl,lk,hcd⟩:=F.ex
 refine zln lk hcd S len fun A outer s H vs Q E hr hsp=>?_
 obtain ⟨t,h,q⟩:=hbody cdv A outer s H vs Q E hr hsp
 exact ⟨t,h.nox,q⟩
theorem Fun.binds (F:Fun K x qual st f fd)
 (h:∀ (kV doc pm:Value) (an:Option Addr) (cdv ct:Value) (us:List Value),us.length = ps.length->bindArgs (PySem.W.fnOf x qual (zN st) (yt st) (yd st) .none kV doc pm an cdv ct) ⟨us,[]⟩ = pure (ps.zip us)):Binds K fd ps []:=by
 obtain ⟨oc,od,kV,doc,pm,an,cdv,ct,osl,rfl,lk,hcd⟩:=F.ex
 exact .all (h kV doc pm an cdv ct)
theorem zgL {oc:Value} {od an:Option Addr} {osl:Array (Option Value)} {kV doc pm cdv ct:Value} (l:K.lookup f = some ⟨oc,od,.func (PySem.W.fnOf x qual (zN st) (yt st) (yd st) .none kV doc pm an cdv ct),osl⟩)
 (c:PySem.W.codeIn K cdv qual = true) (k:PySem.W.keepIn K (.ref f) = true):Fun K x qual st f (PySem.W.fnOf x qual (zN st) (yt st) (yd st) .none kV doc pm an cdv ct):=⟨⟨oc,od,kV,doc,pm,an,cdv,ct,osl,rfl,l,c⟩,k⟩
end
theorem yx (h:n<=1000):n < sizeLine:=Nat.lt_of_le_of_lt h (by decide)
section
theorem pv (i:Nat) {pos:Pos} (hN:X.N[i]? = some x:=by rfl) (hv:Vis X.env.scope x:=by first | exact Or.inl rfl | exact Or.inr (Or.inl rfl) | exact Or.inr (Or.inr rfl)) (hd:(x == ("__debug__":Str)) = false:=by decide)
 (hcd:(x == ("__classdict__":Str)) = false:=by decide):PE X (.Name x pos) (zfu i):=zjG hN hv hd hcd
end
def Same (H H':Hp):Prop:=∀ b o,H b = some o->H' b = some o
end L2
set_option maxHeartbeats 4000000
namespace L2
open PySem PySem.Spec PyProof.Rows
variable {o:Option V} {d y:V} {u:Value}
section
variable {κ:Type} [DecidableEq κ]
noncomputable def qC (kvs:List (κ × V)) (k:κ):Option V:=(kvs.find? fun kv=>decide (kv.1 = k)).map (·.2)
noncomputable def putK (kvs:List (κ × V)) (k:κ) (v:V):List (κ × V):=
 if (kvs.any fun kv=>decide (kv.1 = k)) = true then kvs.map (fun kv=>if kv.1 = k then (kv.1,v) else kv) else kvs ++ [(k,v)]
noncomputable def zmD (kvs:List (κ × V)) (k:κ):List (κ × V):=kvs.filter fun kv=>decide (kv.1 ≠ k)
theorem zbQ {p:κ × V} {r:List (κ × V)} {k:κ} (e:p.1 = k):qC (p :: r) k = some p.2:=by simp [qC,find?_cons,e]
theorem zbR {p:κ × V} {r:List (κ × V)} {k:κ} (e:¬ p.1 = k):qC (p :: r) k = qC r k:=by simp [qC,find?_cons,e]
theorem zdH (k:κ):∀ kvs:List (κ × V),(kvs.any fun kv=>decide (kv.1 = k)) = (qC kvs k).isSome
 | []=>rfl
 | p :: r=>by
  rw [any_cons]
  by_cases e:p.1 = k
  ·simp only [zbQ e,Qs e,Bool.true_or,Option.isSome_some]
  ·rw [zbR e,Qt e,Bool.false_or];exact zdH k r
theorem zbJ (kvs:List (κ × V)) (k:κ) (v:V):(putK kvs k v).length<=kvs.length + 1:=by
 unfold putK
 split
 ·rw [Qg];omega
 ·rw [Qm,Qo,length_nil];omega
theorem RelO.isSome_eq {u:Option Value} (r:RelO o u):o.isSome = u.isSome:=by
 cases o with
 | none=>cases u with
  | none=>rfl
  | some _=>exact (show False from r).elim
 | some _=>cases u with
  | none=>exact (show False from r).elim
  | some _=>rfl
theorem RelO.getD {u:Option Value} {d':Value} (r:RelO o u) (rd:RelV d d'):RelV (o.getD d) (u.getD d'):=by
 cases o with
 | none=>cases u with
  | none=>exact rd
  | some _=>exact (show False from r).elim
 | some _=>cases u with
  | none=>exact (show False from r).elim
  | some _=>exact r
theorem KV.val {kvs:List (κ × V)} {vs:List (κ × Value)} (r:KV kvs vs) (k:κ):RelO (qC kvs k) (valueAt vs k):=by
 unfold KV at r
 induction r with
 | nil=>exact True.intro
 | @cons p q ps qs h t ih=>
  obtain ⟨h1,h2⟩:=h
  by_cases e:p.1 = k
  ·have e':q.1 = k:=h1.symm.trans e
   have b:valueAt (q :: qs) k = some q.2:=by simp [valueAt,find?_cons,e']
   rw [zbQ e,b];exact h2
  ·have e':¬ q.1 = k:=fun z=>e (h1.trans z)
   have b:valueAt (q :: qs) k = valueAt qs k:=by simp [valueAt,find?_cons,e']
   rw [zbR e,b];exact ih
theorem KV.any {kvs:List (κ × V)} {vs:List (κ × Value)} (r:KV kvs vs) (k:κ):(kvs.any fun kv=>decide (kv.1 = k)) = vs.any fun kv=>decide (kv.1 = k):=by
 unfold KV at r
 induction r with
 | nil=>rfl
 | cons h t ih=>rw [any_cons,any_cons,ih,h.1]
theorem KV.repl {kvs:List (κ × V)} {vs:List (κ × Value)} (r:KV kvs vs) (k:κ) (ry:RelV y u) :
  KV (kvs.map fun kv=>if kv.1 = k then (kv.1,y) else kv) (vs.map fun kv=>if kv.1 = k then (kv.1,u) else kv):=by
 unfold KV at r ⊢
 induction r with
 | nil=>exact .nil
 | @cons p q ps qs h t ih=>
  rw [map_cons,map_cons]
  refine .cons ?_ ih
  obtain ⟨h1,h2⟩:=h
  by_cases e:p.1 = k
  ·rw [if_pos e,if_pos (h1.symm.trans e)];exact ⟨h1,ry⟩
  ·rw [if_neg e,if_neg (fun z=>e (h1.trans z))];exact ⟨h1,h2⟩
theorem KV.put {kvs:List (κ × V)} {vs:List (κ × Value)} (r:KV kvs vs) (k:κ) (ry:RelV y u):KV (putK kvs k y) (stored vs k u):=by
 unfold putK stored
 rw [r.any k]
 by_cases e:(vs.any fun kv=>decide (kv.1 = k)) = true
 ·rw [if_pos e,if_pos e];exact r.repl k ry
 ·rw [if_neg e,if_neg e];exact Paired.snoc r ⟨rfl,ry⟩
theorem KV.keys {kvs:List (κ × V)} {vs:List (κ × Value)} (r:KV kvs vs):kvs.map (·.1) = vs.map (·.1):=by
 unfold KV at r
 induction r with
 | nil=>rfl
 | cons h t ih=>rw [map_cons,map_cons,ih,h.1]
theorem KV.length {kvs:List (κ × V)} {vs:List (κ × Value)} (r:KV kvs vs):kvs.length = vs.length:=Paired.length r
end
variable {P:Program} {w:World}
theorem zbA {k:Key} (r:RelV (kV k) u):(yo P w).is k u = true:=by
 cases k with
 | inl i=>obtain ⟨t,e⟩:=(show ∃ t,u = Value.int i t from r);subst e;exact zeG P w i t
 | inr x=>obtain ⟨t,e⟩:=(show ∃ t,u = Value.str x t from r);subst e;exact zeF P w x t
theorem zc9 {P:Program} {w:World}:∀ {ks:List Key} {us:List Value},Vals (ks.map kV) us->ItemsAre (yo P w) ks us
 | [],_,r=>by rw [map_nil] at r;cases r;exact .nil
 | k :: ks,_,r=>by
  rw [map_cons] at r
  cases r with
  | cons h t=>exact .cons (zbA h) (zc9 t)
noncomputable abbrev KT (H:Hp):List (List Key × V)->List (List Key × Addr × Value)->Prop:=Paired fun p q=>p.1 = q.1/\H q.2.1 = some (.tup (p.1.map kV))/\RelV p.2 q.2.2
variable {H:Hp} {xs:List (List Key × Addr × Value)} {kvs:List (List Key × V)}
theorem KT.val (r:KT H kvs xs) (k:List Key):RelO (qC kvs k) ((atKey xs k).map (·.2)):=by
 induction r with
 | nil=>exact True.intro
 | @cons p q ps qs h t ih=>
  obtain ⟨h1,_,h2⟩:=h
  by_cases e:p.1 = k
  ·have e':q.1 = k:=h1.symm.trans e
   have b:atKey (q :: qs) k = some q.2:=by simp [atKey,find?_cons,e']
   rw [zbQ e,b];exact h2
  ·have e':¬ q.1 = k:=fun z=>e (h1.trans z)
   have b:atKey (q :: qs) k = atKey qs k:=by simp [atKey,find?_cons,e']
   rw [zbR e,b];exact ih
theorem KT.repl (r:KT H kvs xs) (k:List Key) (ry:RelV y u) :
  KT H (kvs.map fun kv=>if kv.1 = k then (kv.1,y) else kv) (xs.map (putAt k u)):=by
 induction r with
 | nil=>exact .nil
 | @cons p q ps qs h t ih=>
  rw [map_cons,map_cons]
  refine .cons ?_ ih
  obtain ⟨h1,h2,h3⟩:=h
  unfold putAt
  by_cases e:p.1 = k
  ·rw [if_pos e,if_pos (h1.symm.trans e)];exact ⟨h1,h2,ry⟩
  ·rw [if_neg e,if_neg (fun z=>e (h1.trans z))];exact ⟨h1,h2,h3⟩
theorem KT.put (r:KT H kvs xs) (k:List Key) {b:Addr} (hb:H b = some (.tup (k.map kV))) (ry:RelV y u) :
  KT H (putK kvs k y) (storedH xs k b u):=by
 have e:(kvs.any fun kv=>decide (kv.1 = k)) = (atKey xs k).isSome:=by
  rw [zdH,(r.val k).isSome_eq,Option.isSome_map]
 unfold putK storedH
 rw [e]
 by_cases q:(atKey xs k).isSome = true
 ·rw [if_pos q,if_pos q];exact r.repl k ry
 ·rw [if_neg q,if_neg q];exact Paired.snoc r ⟨rfl,hb,ry⟩
variable {H':Hp}
theorem KT.keeps (r:KT H kvs xs) (ht:∀ b ys,H b = some (.tup ys)->H' b = some (.tup ys)):KT H' kvs xs:=
 Paired.mapP r fun _ _ z=>⟨z.1,ht _ _ z.2.1,z.2.2⟩
variable {h:Heap}
section
variable {a:Addr}
theorem zhQ {u:HO} (ok:HOk P w H h) (e:Rd H a u):ObjOk P w H h a u:=e.ok ok
theorem zaX {kvs:List (Key × V)} (ok:HOk P w H h) (e:Rd H a (.dK kvs)):kvs.length<=sizeLine/\(a == sysModules) = false/\∃ vs,KV kvs vs/\h.DictOf (yo P w) a vs:=
 show ObjOk P w H h a (.dK kvs) from zhQ ok e
theorem zlp {kvs:List (Key × V)} (ok:HOk P w H h) (e:H a = some (.dK kvs)):kvs.length<=sizeLine/\(a == sysModules) = false/\∃ vs,KV kvs vs/\h.DictOf (yo P w) a vs:=zaX ok (.inl e)
theorem zaz {ks:List Key} (ok:HOk P w H h) (e:H a = some (.tup (ks.map kV))):(tupleKind (yo P w)).is h ks a:=by
 obtain ⟨_,its,r,⟨o,h1,h2,n,h3⟩,_⟩:=(show ObjOk P w H h a (.tup (ks.map kV)) from ok a _ e)
 exact ⟨o,its.toArray,n,h1,h2,h3,by simpa using zc9 r⟩
theorem zbB (ok:HOk P w H h) (e:Rd H a (.dT kvs)):kvs.length<=sizeLine/\(a == sysModules) = false /\
  ∃ xs,KT H kvs xs/\h.DictOfH (tupleKind (yo P w)) a xs:=by
 obtain ⟨z,y,xs,r,o,es,ep,h1,h2,h3,h4,h5⟩:=(show ObjOk P w H h a (.dT kvs) from zhQ ok e)
 refine ⟨z,y,xs,r,o,es,ep,h1,h2,h3,h4,fun x hx=>?_,h5⟩
 have all:∀ {l:List (List Key × V)} {m:List (List Key × Addr × Value)},KT H l m->∀ x ∈ m,(tupleKind (yo P w)).is h x.1 x.2.1:=by
  intro l m q
  induction q with
  | nil=>intro x hx;exact nomatch hx
  | @cons p q ps qs hq t ih=>
   intro x hx
   rcases mem_cons.mp hx with e | hx
   ·subst e
    exact zaz ok (by rw [← hq.1];exact hq.2.1)
   ·exact ih x hx
 exact all r x hx
theorem zlo (ok:HOk P w H h) (e:H a = some (.dT kvs)):kvs.length<=sizeLine/\(a == sysModules) = false /\
  ∃ xs,KT H kvs xs/\h.DictOfH (tupleKind (yo P w)) a xs:=zbB ok (.inl e)
end
def DGet (H:Hp) (a:Addr) (y:V) (r:Option V):Prop:=
 (∃ kvs k,Rd H a (.dK kvs)/\y = kV k/\r = qC kvs k)\/∃ kvs k b,Rd H a (.dT kvs)/\y = .ref b/\H b = some (.tup (k.map kV))/\r = qC kvs k
def DPut (H:Hp) (a:Addr) (y v:V) (H':Hp):Prop:=
 (∃ kvs k,H a = some (.dK kvs)/\y = kV k/\kvs.length < sizeLine/\H' = upd H a (.dK (putK kvs k v))) \/
 ∃ kvs k b,H a = some (.dT kvs)/\y = .ref b/\H b = some (.tup (k.map kV))/\kvs.length < sizeLine/\H' = upd H a (.dT (putK kvs k v))
variable {v:V}
theorem DPut.k {a:Addr} {kvs:List (Key × V)} {k:Key} (e:H a = some (.dK kvs)) (hl:kvs.length < sizeLine):DPut H a (kV k) v (upd H a (.dK (putK kvs k v))):=.inl ⟨kvs,k,e,rfl,hl,rfl⟩
variable {A:Around} {X:Cx} {h':Heap} {pins:List (Addr × Obj)} {s:Shared} {σ:St} {E Q:Value->Shared->Prop}
section
variable {a:Addr} {r:Value}
theorem Inv.big (I:Inv X pins σ H s):sysModules < s.heap.objs.size:=by
 have h:mainGlobals < s.heap.objs.size:=(I.mod.glob.keeps I.bk).lt
 exact Nat.lt_trans (by decide) h
theorem zgR (hu:A.units + 1 < cLine) (I:Inv X pins σ H s) (g:DGet H a y (some v)) (ry:RelV y u) (h:∀ w' s',Inv X pins σ H s'->RelV v w'->Q w' s') :
  wpAny (model X.prog X.w) A (getItem (.ref a) u) Q E s:=by
 rcases g with ⟨kvs,k,e,ey,l⟩ | ⟨kvs,k,b,e,ey,eb,l⟩
 ·subst ey
  obtain ⟨z,hd,vs,rel,dd⟩:=zaX I.hok e
  obtain ⟨w',hw,rw'⟩:=RelO.some_of (v:=v) (o:=valueAt vs k) (by rw [l];exact rel.val k)
  exact wpAny_getItem_of (zbA ry) dd.mapOf hw (h w' _ (I.tok _) rw')
 ·subst ey
  cases (show u = Value.ref b from ry)
  obtain ⟨z,hd,xs,rel,dd⟩:=zbB I.hok e
  obtain ⟨w',hw,rw'⟩:=RelO.some_of (v:=v) (o:=(atKey xs k).map (·.2)) (by rw [l];exact rel.val k)
  obtain ⟨p,hp,hp2⟩:=Option.map_eq_some_iff.mp hw
  refine wpAny_getItem_heap (tupleKind_room_in1 hu) (zaz I.hok eb) dd hp ?_
  rw [hp2]
  exact h w' _ (I.tok _) rw'
theorem zl0 (hu:A.units + 1 < cLine) (I:Inv X pins σ H s) (g:DGet H a y o) (ry:RelV y u) (h:∀ s',Inv X pins σ H s'->Q (.bool o.isSome) s') :
  wpAny (model X.prog X.w) A (compareOp .In u (.ref a)) Q E s:=by
 rcases g with ⟨kvs,k,e,ey,l⟩ | ⟨kvs,k,b,e,ey,eb,l⟩
 ·subst ey
  obtain ⟨z,hd,vs,rel,dd⟩:=zaX I.hok e
  refine wpAny_in_of (zbA ry) hd dd.mapOf ?_
  rw [← (rel.val k).isSome_eq,← l]
  exact h _ (I.tok _)
 ·subst ey
  cases (show u = Value.ref b from ry)
  obtain ⟨z,hd,xs,rel,dd⟩:=zbB I.hok e
  refine wpAny_in_heap (tupleKind_room_in1 hu) (zaz I.hok eb) hd dd ?_
  have q:=(rel.val k).isSome_eq
  rw [Option.isSome_map] at q
  rw [← q,← l]
  exact h _ (I.tok _)
theorem zfi {t':Nat} {ob:HO} (I:Inv X pins σ H s) (mu:Mut (H a)) (hs:Heap.SameBut a s.heap h') (he:∃ q,h'.get? a = some q) (new:ObjOk X.prog X.w (upd H a ob) h' a ob) :
  Inv X pins σ (upd H a ob) { s with heap:=h',toks:=t' }:=
 I.write (x:=a) (e:=a) mu (.inl rfl) (fun b q hb z=>(hs.2 b hb).trans z) he new
theorem zkF {kvs:List (Key × V)} {vs:List (Key × Value)} (z:kvs.length<=sizeLine) (hd:(a == sysModules) = false) (rel:KV kvs vs) (dd:h'.DictOf (yo P w) a vs) :
  ObjOk P w H' h' a (.dK kvs):=⟨z,hd,vs,rel,dd⟩
theorem zgQ {Q:Unit->Shared->Prop} (hu:A.units + 1 < cLine) (I:Inv X pins σ H s) (g:DPut H a y v H') (ry:RelV y u) (rv:RelV v r) (h:∀ s',Inv X pins σ H' s'->Q () s') :
  wpAny (model X.prog X.w) A (setItem (.ref a) u r) Q E s:=by
 rcases g with ⟨kvs,k,e,ey,l,eH⟩ | ⟨kvs,k,b,e,ey,eb,l,eH⟩
 ·subst ey eH
  obtain ⟨z,hd,vs,rel,dd⟩:=zlp I.hok e
  have hz:vs.length<=sizeLine:=by rw [← rel.length];exact z
  have hl:(putK kvs k v).length<=sizeLine:=by have:=zbJ kvs k v;omega
  refine wpAny_setItem_pairs (hsz:=hz) (zbA ry) dd fun h' dd' hs=>h _ ?_
  have he:∃ q,h'.get? a = some q:=let ⟨q,_,_,hq,_⟩:=dd';⟨q,hq⟩
  exact zfi I (by rw [e];exact True.intro) hs he (zkF hl hd (rel.put k rv) dd')
 ·subst ey eH
  cases (show u = Value.ref b from ry)
  obtain ⟨z,hd,xs,rel,dd⟩:=zlo I.hok e
  have hz:xs.length<=sizeLine:=by rw [← Paired.length rel];exact z
  have hl:(putK kvs k v).length<=sizeLine:=by have:=zbJ kvs k v;omega
  refine wpAny_setItem_heap (hsz:=hz) (tupleKind_room_in1 hu) (zaz I.hok eb) dd fun h' dd' hs=>h _ ?_
  obtain ⟨q,es,ep,hq,h2,h3,h4,_,h5⟩:=dd'
  refine zfi I (by rw [e];exact True.intro) hs ⟨q,hq⟩ ⟨hl,hd,_,(rel.put k eb rv).keeps fun c ys ec=>?_,q,es,ep,hq,h2,h3,h4,h5⟩
  rw [qe (zbx ec e (fun z=>nomatch z))]
  exact ec
end
theorem zeJ {a:Addr} (I:Inv X pins σ H s) (g:DGet H a y o):s.TypeIs (.ref a) "dict":=by
 rcases g with ⟨kvs,k,e,_,_⟩ | ⟨kvs,k,b,e,_,_,_⟩
 ·obtain ⟨_,_,vs,_,dd⟩:=zaX I.hok e
  exact dd.typeIs
 ·obtain ⟨_,_,xs,_,dd⟩:=zbB I.hok e
  exact dd.typeIs
theorem zhL (h:Heap) (hb:sysModules < h.objs.size):ObjOk P w H (h.push { cls:=.type "dict",data:=.dict #[] }) h.objs.size (.dK []):=
 ⟨Nat.zero_le _,beq_eq_false_iff_ne.mpr (Ne.symm (Qj hb)),[],.nil,Heap.DictOf.new h⟩
noncomputable def zjl:TE:=fun _ H Q=>∀ p,H p = none->Q (.ref p) (upd H p (.dK []))
variable {pos:Pos}
section
theorem zhj:PE X (.Dict [] [] pos) zjl:=fun pins s σ H Q I h=>
 wpAny_Dict_empty ⟨.ref s.heap.objs.size,_,I.laid (a:=s.heap.objs.size) (o:=.dK []) (t':=s.toks) (fun _ _ q=>Q2 _ q) (Q3 _) (zhL s.heap I.big),rfl,h _ (I.hok.fresh (Q3 _))⟩
end
noncomputable def zgt (kvs more:List (Key × V)):List (Key × V):=more.foldl (fun acc kv=>putK acc kv.1 kv.2) kvs
structure M1 (X:Cx) (o:Expr) (m:Str) (apos:Pos) (e:Expr) (cpos:Pos):Prop where
 base:attributeBase o m X.env (eval o X.env) = eval o X.env
 few:((backTo cpos (starEach [e] X.env)).all (fun x=>!x.1) && (backToKw cpos (keywordEach [] X.env)).all (fun x=>x.1.isSome)
  && decide (([e]:List Expr).length + ([]:List Keyword).length + (if ([]:List Keyword).isEmpty then 0 else 1) < 30)) = true
 line:(apos.endLine == cpos.line) = true
 trees:backTo cpos (starEach [e] X.env) = [(false,eval e X.env)]
structure M2 (X:Cx) (o:Expr) (m:Str) (apos:Pos) (e f:Expr) (cpos:Pos):Prop where
 base:attributeBase o m X.env (eval o X.env) = eval o X.env
 few:((backTo cpos (starEach [e,f] X.env)).all (fun x=>!x.1) && (backToKw cpos (keywordEach [] X.env)).all (fun x=>x.1.isSome)
  && decide (([e,f]:List Expr).length + ([]:List Keyword).length + (if ([]:List Keyword).isEmpty then 0 else 1) < 30)) = true
 line:(apos.endLine == cpos.line) = true
 trees:backTo cpos (starEach [e,f] X.env) = [(false,eval e X.env),(false,eval f X.env)]
section
variable {a:Addr} {r:Value}
theorem zkH (hu:A.units + 1 < cLine) (I:Inv X pins σ H s) (g:DGet H a y o) (ry:RelV y u) (h:∀ w' s',Inv X pins σ H s'->RelV (o.getD .non) w'->Q w' s') :
  wpAny (model X.prog X.w) A (call (.builtin "dict.get") [.ref a,u]) Q E s:=by
 rcases g with ⟨kvs,k,e,ey,l⟩ | ⟨kvs,k,b,e,ey,eb,l⟩
 ·subst ey
  obtain ⟨z,hd,vs,rel,dd⟩:=zaX I.hok e
  refine call_meetsIn PySem.F.slot_dict_get dd.typeIs PySem.F.entry_dict_get (PySem.F.args_dict_get_2 _ _) (meets_dict_get (yo X.prog X.w) a (zbA ry) hd) ⟨_,dd.mapOf,h _ _ (I.tok _) ?_⟩
  rw [l]
  exact (rel.val k).getD rfl
 ·subst ey
  cases (show u = Value.ref b from ry)
  obtain ⟨z,hd,xs,rel,dd⟩:=zbB I.hok e
  refine call_meetsIn PySem.F.slot_dict_get dd.typeIs PySem.F.entry_dict_get (PySem.F.args_dict_get_2 _ _) (meetsH_dict_get (tupleKind (yo X.prog X.w)) a b hd) ⟨tupleKind_room_in1 hu,k,xs,zaz I.hok eb,dd,h _ _ (I.tok _) ?_⟩
  rw [l]
  exact (rel.val k).getD rfl
theorem zkG (hu:A.units + 1 < cLine) (I:Inv X pins σ H s) (g:DGet H a y o) (ry:RelV y u) (rd:RelV d r) (h:∀ w' s',Inv X pins σ H s'->RelV (o.getD d) w'->Q w' s') :
  wpAny (model X.prog X.w) A (call (.builtin "dict.get") [.ref a,u,r]) Q E s:=by
 rcases g with ⟨kvs,k,e,ey,l⟩ | ⟨kvs,k,b,e,ey,eb,l⟩
 ·subst ey
  obtain ⟨z,hd,vs,rel,dd⟩:=zaX I.hok e
  refine call_meetsIn PySem.F.slot_dict_get dd.typeIs PySem.F.entry_dict_get (PySem.F.args_dict_get_3 _ _ _) (meets_dict_get_default (yo X.prog X.w) a (zbA ry) hd r) ⟨_,dd.mapOf,h _ _ (I.tok _) ?_⟩
  rw [l]
  exact (rel.val k).getD rd
 ·subst ey
  cases (show u = Value.ref b from ry)
  obtain ⟨z,hd,xs,rel,dd⟩:=zbB I.hok e
  refine call_meetsIn PySem.F.slot_dict_get dd.typeIs PySem.F.entry_dict_get (PySem.F.args_dict_get_3 _ _ _) (meetsH_dict_get_default (tupleKind (yo X.prog X.w)) a b hd r) ⟨tupleKind_room_in1 hu,k,xs,zaz I.hok eb,dd,h _ _ (I.tok _) ?_⟩
  rw [l]
  exact (rel.val k).getD rd
end
def Bnd (n:Nat) (i:Int):Prop:=i.natAbs < 10 ^ n
instance (n:Nat) (i:Int):Decidable (Bnd n i):=inferInstanceAs (Decidable (i.natAbs < 10 ^ n))
variable {i j:Int} {n:Nat}
theorem Bnd.add (h:Bnd n i) (k:Bnd n j):Bnd (n + 1) (i + j):=by
 unfold Bnd at *
 have h1:=Int.natAbs_add_le i j
 rw [Nat.pow_succ]
 omega
theorem Bnd.neg (h:Bnd n i):Bnd n (-i):=by
 unfold Bnd at *
 rw [Int.natAbs_neg];exact h
theorem zfk (h:Bnd n i) (hn:n<=3000):Builtin.Int.intBits i<=2 ^ 20:=by
 unfold Builtin.Int.intBits
 split
 ·exact Nat.zero_le _
 ·rename_i h0
  have h1:i.natAbs ≠ 0:=by
   intro z
   have:i = 0:=Int.natAbs_eq_zero.mp z
   subst this
   exact h0 rfl
  have h2:i.natAbs < 2 ^ (4 * n):=by
   have e:(2:Nat) ^ (4 * n) = 16 ^ n:=by rw [Nat.pow_mul]
   rw [e]
   exact Q5 h (Nat.pow_le_pow_left (by decide) n)
  have h3:i.natAbs.log2 < 4 * n:=(Nat.log2_lt h1).mpr h2
  have:(2:Nat) ^ 20 = 1048576:=by decide
  omega
def CMulB (i j:Int):Prop:=(∃ m n,Bnd m i/\Bnd n j/\m<=3000/\n<=3000)\/CMul i j
theorem CMulB.ok (h:CMulB i j):IntMulOk i j:=by
 rcases h with ⟨m,n,h1,h2,h3,h4⟩ | h
 ·exact IntMulOk.of_bits (zfk h1 h3) (zfk h2 h4)
 ·exact h.ok
section
theorem ziz:OpR X (binaryOp .Mult) (rI CMulB fun i j=>.int (i * j)):=opI fun _ _ _ _ _ _ _ hc q=>mul_int q hc.ok
noncomputable def zkZ (K:Frag):R2:=fun x y H Q=>∃ l b xs zs,x = .ref l/\y = .ref b/\SqL K H l xs/\SqL K H b zs/\xs.length + zs.length<=sizeLine/\∀ p,H p = none->Q (.ref p) (upd H p (.lst (xs ++ zs)))
theorem ziC:OpR X (binaryOp .Add) (zkZ X.K):=by
 intro pins s σ H x y v u Q I rx ry h
 obtain ⟨l,b,xs,zs,rfl,rfl,hH,hB,hz,q⟩:=h
 cases rx
 cases ry
 obtain ⟨its,r,pl,z⟩:=I.list hH
 obtain ⟨its2,r2,pl2,z2⟩:=I.list hB
 obtain ⟨⟨cls,dd,data,sl⟩,n,ho,hc,hdi,hd⟩:=pl
 obtain ⟨⟨cls2,dd2,data2,sl2⟩,n2,ho2,hc2,hdi2,hd2⟩:=pl2
 simp only at hc hd hc2 hd2
 subst hc hd hc2 hd2
 have e1:=r.length
 have e2:=r2.length
 refine concat_meets ⟨_,ho,rfl⟩ ⟨_,ho2,rfl⟩ noFill_list_add seq_list_add PySem.F.slot_list_add PySem.F.entry_list_add (PySem.F.args_list_add_2 _ _) (list_addW l b its.toArray its2.toArray n n2 dd dd2 sl sl2 (by rw [Qh,Qh];omega)) ⟨ho,ho2,?_⟩
 have ea:its.toArray ++ its2.toArray = (its ++ its2).toArray:=by simp
 rw [ea]
 exact ⟨.ref _,_,I.lnew (t':=s.toks) (r.append r2) (by rw [Qm];omega),rfl,q _ I.fresh⟩
end
structure Df (K:Frag) (mg:Str->Option Value) (x:Str) (st:Stmt) (ps:List Str):Prop where
 ex:∃ (f:Addr) (fd:FuncData),Fun K x x st f fd/\Binds K fd ps []/\mg x = some (.ref f)
structure Cal (P:Program) (w:World) (K:Frag) (mg:Str->Option Value) (base:Heap) (k:Nat) (x:Str) (ps:List Str) (sp:Sp):Prop where
 ex:∃ (f:Addr) (fd:FuncData),FnOk P w K mg base CX0 k f fd ps sp/\PySem.W.keepIn K (.ref f) = true/\Binds K fd ps []/\mg x = some (.ref f)
variable {f:Addr} {sl:Array (Option Value)} {K:Frag} {ps:List Str} {an od:Option Addr} {sp:Sp} {st:Stmt} {x:Str} {mg:Str->Option Value} {cd ct dc oc pm:Value}
section
variable {base:Heap}
theorem Df.ok {N:List Str} {k:Nat} (D:Df K mg x st ps) (S:FnScope N ps (yd st)) (len:∀ vs H Q E,sp vs H Q E->vs.length = ps.length)
 (hbody:∀ (f:Addr) (cdv:Value) (A:Around) (outer:List Env) (s:Shared) (H:Hp) (vs:List V) (Q:VK) (E:XK),Room k (A.deeper (envOfC x (yd st) s.heap.objs.size f cdv))->sp vs H Q E->
 ∃ t,PSs (y8 CX0 P w K mg base N x (yd st) f cdv A outer s H E).nox (yt st) t/\t { nx:=fun _ H'=>Q .non H',rt:=Q } (start N vs) H):Cal P w K mg base (k + 1) x ps sp:=by
 obtain ⟨f,fd,F,b,g⟩:=D.ex
 exact ⟨⟨f,fd,F.ok S len (hbody f),F.kp,b,g⟩⟩
theorem zz (X:K.In h) (G:h.Ns mainGlobals mg) {kV:Value}
 (a:PySem.W.nsIn K mainGlobals x = some (some (.ref f)))
 (l:K.lookup f = some ⟨oc,od,.func (PySem.W.fnOf x x (zN st) (yt st) (yd st) .none kV dc pm an cd ct),sl⟩) (c:PySem.W.codeIn K cd x = true) (k:PySem.W.keepIn K (.ref f) = true)
 (hb:∀ (kV doc pm:Value) (an:Option Addr) (cdv ct:Value) (us:List Value),us.length = ps.length->bindArgs (PySem.W.fnOf x x (zN st) (yt st) (yd st) .none kV doc pm an cdv ct) ⟨us,[]⟩ = pure (ps.zip us)):Df K mg x st ps:=by
 have F:=zgL (st:=st) l c k
 exact ⟨⟨f,_,F,F.binds hb,PySem.W.mg_of X G a⟩⟩
end
section
theorem zj1 (X:K.In h) (G:h.Ns mainGlobals mg) {kV:Value}
 (a:PySem.W.nsIn K mainGlobals "law" = some (some (.ref f)))
 (l:K.lookup f = some ⟨oc,od,.func (PySem.W.fnOf "law" "law" (zN st) (yt st) (yd st) .none kV dc pm an cd ct),sl⟩) (c:PySem.W.codeIn K cd "law" = true) (k:PySem.W.keepIn K (.ref f) = true)
 (hb:∀ (kV dc pm:Value) (an:Option Addr) (cd ct:Value) (s:Shared) (u:Value),BindsTo s (PySem.W.fnOf "law" "law" (zN st) (yt st) (yd st) .none kV dc pm an cd ct) ⟨[u],[]⟩ [("script",u)]) :
  ∃ (f:Addr) (fd:FuncData),Fun K "law" "law" st f fd/\mg "law" = some (.ref f)/\∀ (s:Shared) (u:Value),BindsTo s fd ⟨[u],[]⟩ [("script",u)]:=
 ⟨f,_,zgL (st:=st) l c k,PySem.W.mg_of X G a,fun s u=>hb _ _ _ _ _ _ s u⟩
end
section
variable {k:Nat} {p:Pos} {e:Expr} {es:List Expr} {t:TA}
theorem zjM (C:Cal X.prog X.w X.K X.mg X.base k x ps sp) (hr:Room k X.A) (hg:Gl X x) (ha:PA X (e :: es) t) (hdb:(x == ("__debug__":Str)) = false:=by decide)
  (he:starEach (e :: es) X.env = (false,eval e X.env) :: starEach es X.env:=by rfl) (hpl:(backTo pos (starEach es X.env)).any (·.1) = false:=by rfl) :
  PE X (.Call (.Name x p) (e :: es) [] pos) (zhP sp [] E0 t):=by
 obtain ⟨f,fd,F,kp,b,g⟩:=C.ex
 exact ziv F hr hg g kp b .nil zk6 ha hdb he hpl
end
def But (p:Addr) (H H':Hp):Prop:=∀ b o,H b = some o->b ≠ p->H' b = some o
theorem Bnd.of (h1:-(10 ^ n:Int) < i) (h2:i < 10 ^ n):Bnd n i:=by
 unfold Bnd
 have:((10 ^ n:Nat):Int) = (10:Int) ^ n:=by simp
 omega
theorem Bnd.hi (h:Bnd n i):i < 10 ^ n:=by
 unfold Bnd at h
 have:((10 ^ n:Nat):Int) = (10:Int) ^ n:=by simp
 omega
theorem Bnd.lo (h:Bnd n i):-(10 ^ n:Int) < i:=by
 unfold Bnd at h
 have:((10 ^ n:Nat):Int) = (10:Int) ^ n:=by simp
 omega
theorem Bnd.gcd {a b:Int} (h:0 < b) (k:Bnd n b):Bnd n ((Int.gcd a b:Nat):Int):=by
 unfold Bnd at *
 have h1:((Int.gcd a b:Nat):Int) ∣ b:=Int.gcd_dvd_right ..
 have h2:((Int.gcd a b:Nat):Int)<=b:=Int.le_of_dvd h h1
 omega
noncomputable abbrev zcU:List Value:=[.type "ValueError",.type "Exception",.type "BaseException",.type "object"]
structure ExcAt (K:Frag) (mg:Str->Option Value) (x:Str) (C:Addr):Prop where
 bound:mg x = some (.ref C)
 obj:∀ h:Heap,K.In h->∃ bm N nm q bs hdct sn sub ab col dd k0 k1 k2 k3 k5 mN,h.get? C = some (excClassObj nm q C N bs bm hdct sn sub ab col dd k0 k1 k2 k3 k5 "ValueError.__new__")/\h.Ns N mN/\mN "__init__" = none/\OwnTail h zcU bm
theorem ObjOk.there {a:Addr} {o:HO} (x:ObjOk P w H h a o):∃ u,h.get? a = some u:=by
 cases o with
 | lst xs=>obtain ⟨_,_,_,_,e⟩:=x;exact ⟨_,e⟩
 | tup xs=>obtain ⟨_,_,_,⟨ob,e,_⟩,_⟩:=x;exact ⟨_,e⟩
 | dK kvs=>obtain ⟨_,_,_,_,o,_,_,e,_⟩:=x;exact ⟨_,e⟩
 | dT kvs=>obtain ⟨_,_,_,_,o,_,_,e,_⟩:=x;exact ⟨_,e⟩
 | set S n=>obtain ⟨o,_,_,_,e,_⟩:=x;exact ⟨_,e⟩
 | ins C dx fs=>obtain ⟨_,_,_,e,_⟩:=x;exact ⟨_,e⟩
 | own y=>obtain ⟨_,e⟩:=x;exact ⟨_,e⟩
 | xd fs=>obtain ⟨_,⟨_,_,_,e,_⟩,_⟩:=x;exact ⟨_,e⟩
 | rng lo hi=>obtain ⟨_,_,_,e⟩:=x;exact ⟨_,e⟩
 | frz ob u=>obtain ⟨e,_⟩:=x;exact ⟨_,e⟩
 | tbl ps=>exact ⟨_,(show h.get? a = some _ from x)⟩
 | met f y=>exact ⟨_,(show h.get? a = some _ from x)⟩
 | ext φ=>obtain ⟨_,⟨_,e⟩,_⟩:=x;exact ⟨_,e⟩
noncomputable def CXC (P:Program) (w:World) (C:Addr):CXT:=fun l H s E ev s'=>∃ (e t:Addr) (B:Heap) (H':Hp),ev = .ref e/\Heap.FlyingW B l e (.ref C) (.ref t) s'.heap/\s'.os = s.os/\AllBare s'.gens /\
 Un (frs l) [] H H' s.heap s'.heap/\HOk P w H' s'.heap/\(∀ b o,s'.heap.get? b = some o->b ∉ frs l->(H' b ≠ none\/∃ o',s.heap.get? b = some o')->B.get? b = some o)/\(∀ b ∈ frs l,H' b = none)/\E (.ref C) none H'
noncomputable abbrev Cx.suite (X:Cx) (ev:Addr):Cx:={ X with A:=X.A.mark (some (.ref ev)),calm:=false,xe:=fun _ _=>False }
section
variable {ev:Addr}
theorem Inv.unsuite (ok:X.Ok) (I:Inv (X.suite ev) pins σ H s):Inv X pins σ H s:=⟨ok,I.os,I.bare,I.base,I.loc,I.cell,I.free,I.freeC,I.pin,I.hok,I.len⟩
end
theorem zhI (x:V) (f:qD x = true):eqV x x = true:=by
 cases x with
 | non=>rfl
 | bl b=>simp [eqV]
 | int i=>simp [eqV]
 | str z=>simp [eqV]
 | _=>exact absurd (show false = true from f) Q4
section
def CDivS (_ j:Int):Prop:=j ≠ 0/\∃ n,Bnd n j/\n<=2000
theorem CDivS.ok (h:CDivS i j):Builtin.divisionGoesByPylong i j = false:=by
 obtain ⟨h0,n,h1,h2⟩:=h
 refine PyProof.noPylong_of_log2 ?_
 have hz:j.natAbs ≠ 0:=by omega
 have e:(2:Nat) ^ (4 * n) = 16 ^ n:=by rw [Nat.pow_mul]
 have h3:j.natAbs < 2 ^ (4 * n):=by
  rw [e]
  exact Q5 h1 (Nat.pow_le_pow_left (by decide) n)
 have h4:j.natAbs.log2 < 4 * n:=(Nat.log2_lt hz).mpr h3
 omega
theorem zhk:OpR X (binaryOp .FloorDiv) (rI CDivS fun i j=>.int (i.fdiv j)):=opI fun _ _ _ _ _ _ _ hc q=>floordiv_int hc.1 q (.inl hc.ok)
end
structure CalX (P:Program) (w:World) (K:Frag) (mg:Str->Option Value) (base:Heap) (C:Addr) (k:Nat) (x:Str) (ps:List Str) (sp:Sp):Prop where
 ex:∃ (f:Addr) (fd:FuncData),FnOk P w K mg base (CXC P w C) k f fd ps sp/\PySem.W.keepIn K (.ref f) = true/\Binds K fd ps []/\mg x = some (.ref f)
theorem qX {name:Str} {acc:List (Str × Addr)} {c:Addr} (e:((name,n) :: acc).lookup x = some c):(x = name/\c = n)\/acc.lookup x = some c:=by
 rw [lookup_cons] at e
 split at e
 ·rename_i h;cases e;exact .inl ⟨eq_of_beq h,rfl⟩
 ·exact .inr e
theorem zcz:∀ (names:List (Str × NameKind)) (n:Nat) (acc:List (Str × Addr)),(∀ x y c,acc.lookup x = some c->acc.lookup y = some c->x = y)->(∀ x c,acc.lookup x = some c->c < n)->∀ x y c,(cellsFrom n names acc).lookup x = some c->(cellsFrom n names acc).lookup y = some c->x = y
 | [],_,_,h,_,x,y,c,e1,e2=>h x y c e1 e2
 | (name,kind) :: r,n,acc,h,lt,x,y,c,e1,e2=>by
  unfold cellsFrom at e1 e2
  split at e1
  ·rename_i hk
   rw [if_pos hk] at e2
   refine zcz r (n + 1) ((name,n) :: acc) (fun x y c f1 f2=>?_) (fun x c f=>?_) x y c e1 e2
   ·rcases qX f1 with ⟨g1,g2⟩ | g1 <;> rcases qX f2 with ⟨g3,g4⟩ | g3
    ·rw [g1,g3]
    ·subst g2;exact absurd (lt _ _ g3) (Qn _)
    ·subst g4;exact absurd (lt _ _ g1) (Qn _)
    ·exact h x y c g1 g3
   ·rcases qX f with ⟨g1,g2⟩ | g1
    ·subst g2;exact Nat.lt_succ_self _
    ·exact Nat.lt_succ_of_lt (lt _ _ g1)
  ·rename_i hk
   rw [if_neg hk] at e2
   exact zcz r n acc h lt x y c e1 e2
theorem zdB {x:Str} {c:Addr}:∀ (names:List (Str × NameKind)) (n:Nat) (acc:List (Str × Addr)),(cellsFrom n names acc).lookup x = some c->acc.lookup x = some c\/n<=c
 | [],_,_,e=>.inl e
 | (name,kind) :: r,n,acc,e=>by
  unfold cellsFrom at e
  split at e
  ·rcases zdB r (n + 1) _ e with f | f
   ·rcases qX f with ⟨_,g⟩ | g
    ·exact .inr (Nat.le_of_eq g.symm)
    ·exact .inl g
   ·exact .inr (by omega)
  ·exact zdB r n acc e
theorem zf0 {x:Str} {c:Addr} {lo:Nat}:∀ (names:List (Str × NameKind)) (n:Nat) (acc:List (Str × Addr)),lo<=n->(∀ c,acc.lookup x = some c->lo<=c)->(cellsFrom n names acc).lookup x = some c->lo<=c
 | [],_,_,_,h,e=>h _ e
 | (name,kind) :: r,n,acc,hn,h,e=>by
  unfold cellsFrom at e
  split at e
  ·refine zf0 r (n + 1) _ (Nat.le_succ_of_le hn) (fun c f=>?_) e
   rcases qX f with ⟨_,g⟩ | g
   ·subst g;exact hn
   ·exact h _ g
  ·exact zf0 r n acc hn h e
theorem zcx {x:Str} {c:Addr}:∀ (names:List (Str × NameKind)) (n:Nat) (acc:List (Str × Addr)),names.lookup x = some .cell->(cellsFrom n names acc).lookup x = some c->n<=c
 | [],_,_,h,_=>by cases h
 | (name,kind) :: r,n,acc,h,e=>by
  unfold cellsFrom at e
  rw [lookup_cons] at h
  split at h
  ·rename_i hx
   cases h
   rw [if_pos (show (NameKind.cell == NameKind.cell) = true from rfl)] at e
   refine zf0 r (n + 1) _ (Nat.le_succ _) (fun c f=>?_) e
   rw [lookup_cons,hx] at f
   cases f;exact Q3 _
  ·split at e
   ·exact Nat.le_of_succ_le (zcx r (n + 1) _ h e)
   ·exact zcx r n acc h e
theorem zcy {x:Str}:∀ (names:List (Str × NameKind)) (n:Nat) (acc:List (Str × Addr)),(∀ y ∈ names,y.2 = .cell->y.1 ≠ x)->(cellsFrom n names acc).lookup x = acc.lookup x
 | [],_,_,_=>rfl
 | (name,kind) :: r,n,acc,h=>by
  unfold cellsFrom
  split
  ·rename_i hk
   rw [zcy r (n + 1) _ fun y hy=>h y (mem_cons_of_mem _ hy),lookup_cons]
   have:(x == name) = false:=by
    cases q:x == name with
    | false=>rfl
    | true=>exact absurd (eq_of_beq q).symm (h (name,kind) mem_cons_self (eq_of_beq hk))
   rw [this]
  ·exact zcy r n acc fun y hy=>h y (mem_cons_of_mem _ hy)
theorem zbE:∀ (names:List (Str × NameKind)) (h:Heap) (acc:List (Str × Addr)),(∀ x c,acc.lookup x = some c->∃ v,h.IsCell c v)->∀ x c,(cellsFrom h.objs.size names acc).lookup x = some c->∃ v,(pushCells h names).IsCell c v
 | [],_,_,k,x,c,e=>k x c e
 | (name,kind) :: r,h,acc,k,x,c,e=>by
  unfold cellsFrom at e
  unfold pushCells
  split at e
  ·rename_i hk
   rw [if_pos hk]
   refine zbE r (h.push { cls:=.type "cell",data:=.cell none }) ((name,h.objs.size) :: acc) (fun x c f=>?_) x c (by rw [Heap.size_push];exact e)
   rcases qX f with ⟨_,g⟩ | g
   ·subst g;exact ⟨none,_,Qk _ rfl,rfl⟩
   ·obtain ⟨v,q⟩:=k x c g
    exact ⟨v,q.keeps fun b o e=>Q2 _ e⟩
  ·rename_i hk
   rw [if_neg hk]
   exact zbE r h acc k x c e
variable {cl:List (Str × Addr)} {scope:Scope}
theorem zE {M:Model} {globals:Addr} {qual:Str} {env:Env} {builtins:Addr} {Q:Env->Shared->Prop}
 (hQ:∀ h',h'.Ns s.heap.objs.size (fun _=>none)->h' = pushCells (s.heap.push { cls:=.type "dict",data:=.dict #[] }) scope.names->
 Q (newEnv scope s.heap.objs.size globals (cellsFrom (s.heap.objs.size + 1) scope.names cl) qual none .none (some env) builtins) { s with heap:=h' }) :
  wpAny M A (newFunctionEnv scope globals cl [] qual none .none (some env) builtins) Q E s:=by
 simp only [newFunctionEnv,Option.isSome_some,if_true]
 refine Q1 (wpAny_alloc ?_)
 refine Q1 (wpAny_layCells _ (fun name kind cells=>by cases hkc:kind == NameKind.cell <;> simp [hkc]) _ _ _ _ ?_)
 rw [show ({ s with heap:=s.heap.push { cls:=.type "dict",data:=.dict #[] } }:Shared).heap.objs.size = s.heap.objs.size + 1 from Heap.size_push ..]
 refine Q1 ?_
 rw [List.forIn_nil]
 exact Qe (Qe (hQ _ ((Heap.Ns.new s.heap (.type "dict")).keeps (pushCells_keeps _ _)) rfl))
noncomputable def zcc (scope:Scope) (cl:List (Str × Addr)) (C:Addr) (env:Env):Env:={ compEnvC scope cl C env with cells:=cellsFrom (C + 1) scope.names cl }
noncomputable def Cx.block (X:Cx) (scope:Scope) (cl:List (Str × Addr)) (N:List Str) (ex:List Addr) (s0:Shared) (H0:Hp):Cx where
 prog:=X.prog
 w:=X.w
 K:=X.K
 mg:=X.mg
 base:=X.base
 A:=X.A
 N:=N
 s₀:=s0
 H₀:=H0
 env:=zcc scope cl s0.heap.objs.size X.env
 outer:=X.stack
 stack:=X.stack
 ex:=ex
 fn:=fun x=>scope.names.lookup x == some .cell
 calm:=X.calm
 pn:=[]
 xe:=fun _ _=>False
def PTs (X:Cx) (ifs:List Expr) (t:TT):Prop:=
 ∀ (pins:List (Addr × Obj)) (s:Shared) (σ:St) (H:Hp) (Q:Bool->Hp->Prop),Inv X pins σ H s->t σ H Q->
  wpAny (model X.prog X.w) X.A (forIn ifs true fun c r=>if r = true then do let ok ← isTrue c X.env (eval c X.env);pure (ForInStep.yield ok) else pure (ForInStep.yield r)) (TP X pins σ Q) X.xe s
noncomputable def zkN:TT:=fun _ H Q=>Q true H
theorem zij:PTs X [] zkN:=fun _ _ _ H _ I h=>wpAny_tests_nil ⟨H,I,h⟩
noncomputable def zL (tgs:List Str) (caps:List (Str × Nat)) (σ:St):St:=tgs.map (fun _=>none) ++ caps.map fun c=>(σ[c.2]?).join
noncomputable def zfv (wi:TI) (g:TG) (tc:TT) (te:TE) (σ0:St->St):TE:=fun σ H Q=>wi σ H fun J H1=>∀ D,H1 D = none->∃ W:Nat->Nat->St->Hp->Prop,(∃ m,W 0 m (σ0 σ) (upd H1 D (.lst [])))/\∀ i m σ' H',W i m σ' H'->
 (J.stop i H'/\Q (.ref D) H')\/(J.go i H'/\∃ N:St->Hp->Prop,(∀ σ'' H'',N σ'' H''->∃ m',m' < m/\W (i + 1) m' σ'' H'')/\∀ x H2,J.yld i H' x H2->g x σ' H2 fun σ2 H3=>tc σ2 H3 fun b H4=>
  if b = true then te σ2 H4 fun v H5=>∃ ys,H5 D = some (.lst ys)/\ys.length < sizeLine/\N σ2 (upd H5 D (.lst (ys ++ [v]))) else N σ2 H4)
variable {elt iter:Expr} {ifs:List Expr}
theorem qO {prog:Program} {R:Result->Shared->Prop} {target:Expr} {it acc:Value} {env:Env} (I:Nat->Shared->Prop)
 (turn:∀ n s,I n s->wpAny (model prog w) A (pyNext it) (fun r s₁=>match r with
 | none=>R (.ok .next) s₁
 | some v=>wpAny (model prog w) A (letOwnedTupleGo target it v) (fun _ s₁'=>wpAny (model prog w) A (assign target env v) (fun _ s₂=>
 wpAny (model prog w) A (forIn ifs true fun c r=>if r = true then do let ok ← isTrue c env (eval c env);pure (ForInStep.yield ok) else pure (ForInStep.yield r)) (fun ok s₃=>
 if ok = true then wpAny (model prog w) A (eval elt env) (fun x s₄=>
 wpAny (model prog w) A (call (.builtin "list.append") [acc,x]) (fun _ s₅=>∃ m,m < n/\I m s₅) (notedBy (model prog w) A env fun e s'=>R (.error e) s') s₄) (notedBy (model prog w) A env fun e s'=>R (.error e) s') s₃
 else ∃ m,m < n/\I m s₃) (notedBy (model prog w) A env fun e s'=>R (.error e) s') s₂) (notedBy (model prog w) A env fun e s'=>R (.error e) s') s₁') (notedBy (model prog w) A env fun e s'=>R (.error e) s') s₁) (notedBy (model prog w) A env fun e s'=>R (.error e) s') s)
 (n:Nat) (h:I n s):codeAny (model prog w) A (.compLoop (.ListComp elt [⟨target,iter,ifs,0⟩] scope pos) 0 it acc env) R s:=by
 refine codeAny_loop rfl I (fun n s hI=>?_) n h
 show wpAny _ A ((compTurn (.ListComp elt [⟨target,iter,ifs,0⟩] scope pos) 0 it acc env).onRaise (fun x=>do noteFrame x env;theTreesLotGoes x)) _ _ s
 refine wpAny_noted ?_
 rw [compTurn_list]
 refine Q1 (wpAny_standAt (Q1 (Qf (turn n s hI) (fun r s₁ h₁=>?_) fun _ _ h'=>h')))
 cases r with
 | none=>exact Qe h₁
 | some v=>
  refine Q1 (Qf h₁ (fun _ s₁' h₁'=>?_) fun _ _ h'=>h')
  refine Q1 (Qf h₁' (fun _ s₂ h₂=>Q1 (Qf h₂ (fun ok s₃ h₃=>?_) fun _ _ h'=>h')) fun _ _ h'=>h')
  cases ok with
  | false=>exact Qe ⟨rfl,h₃⟩
  | true=>
   exact Q1 (Q1 (Qf h₃ (fun x s₄ h₄=>Q1 (Qf h₄ (fun _ s₅ h₅=>Qe (Qe ⟨rfl,h₅⟩)) fun _ _ h'=>h')) fun _ _ h'=>h'))
variable {tg:Expr} {wi:TI}
section
theorem zit {tgs:List Str} {caps:List (Str × Nat)} {g:TG} {tc:TT} {te:TE}
 (hc:X.calm = true) (hi:PI X tg iter wi) (hclos:closureFor scope X.env = pure cl) (hcell:∀ y ∈ scope.names,y.2 = .cell->y.1 ∉ caps.map (·.1)) (hkind:scope.kind = .function)
 (hnames:∀ y ∈ scope.names,y.2 = .local->scope.names.lookup y.1 = some .local)
 (hcl:∀ y c,cl.lookup y = some c->X.env.cells.lookup y = some c)
 (hhas:∀ n y,((relabel scope X.env).names.lookup y = some .cell\/(relabel scope X.env).names.lookup y = some .free)->∃ c,(cellsFrom n scope.names cl).lookup y = some c)
 (hcap:∀ c ∈ caps,X.N[c.2]? = some c.1/\X.env.kindOf c.1 = some .cell/\((relabel scope X.env).names.lookup c.1 = some .cell\/(relabel scope X.env).names.lookup c.1 = some .free))
 (hg:∀ ex s0 H0,PG (X.block scope cl (tgs ++ caps.map (·.1)) ex s0 H0) tg g) (hif:∀ ex s0 H0,PTs (X.block scope cl (tgs ++ caps.map (·.1)) ex s0 H0) ifs tc) (hel:∀ ex s0 H0,PE (X.block scope cl (tgs ++ caps.map (·.1)) ex s0 H0) elt te)
 (hs:∀ x,foldedSetIterable iter X.env x = pure x:=by intro _;rfl) :
  PE X (.ListComp elt [⟨tg,iter,ifs,0⟩] scope pos) (zfv wi g tc te (zL tgs caps)):=by
 intro pins s σ H Q I h
 rw [eval_ListComp]
 refine wpAny_comprehension_free (use:=none) rfl hs hclos hkind hnames (thn (hi pins s σ H _ I h) fun v s1 h1=>thn h1 fun itv s2 h2=>?_)
 obtain ⟨it,fp,tn,J,H2,e,I2,T,st2,f2,hrest⟩:=h2
 subst e
 -- the new list
 have hD:H2 s2.heap.objs.size = none:=I2.fresh
 obtain ⟨W,⟨m0,w0⟩,turn⟩:=hrest _ hD
 refine Qr ?_ (by show 0<=sizeLine;decide)
 have I3:Inv X pins σ (upd H2 s2.heap.objs.size (.lst [])) { s2 with heap:=s2.heap.push { cls:=.type "list",data:=.seq ([]:List Value).toArray } }:=I2.lnew (t':=s2.toks) (ys:=[]) (its:=[]) .nil (by show 0<=sizeLine;decide)
 generalize hs3:({ s2 with heap:=s2.heap.push { cls:=.type "list",data:=.seq ([]:List Value).toArray } }:Shared) = s3 at I3
 have lt2:∀ b o,s2.heap.get? b = some o->s3.heap.get? b = some o:=fun b o e=>by rw [← hs3];exact Q2 _ e
 have sz3:s2.heap.objs.size < s3.heap.objs.size:=by rw [← hs3];show _ < (s2.heap.push _).objs.size;rw [Heap.size_push];exact Nat.lt_succ_self _
 have st3:tn 0 s3.heap:=T.keep 0 _ _ st2 fun b _ o e=>lt2 b o e
 have fplt:∀ b ∈ fp,b < s2.heap.objs.size:=fun b hb=>by
  obtain ⟨o,e,_⟩:=T.obj 0 _ st2 b hb
  exact Qd e
 generalize hH3:upd H2 s2.heap.objs.size (.lst []) = H3 at I3 w0
 have fr3:∀ b ∈ fp,H3 b = none:=fun b hb=>by rw [← hH3,qe (Qj (fplt b hb))];exact (f2 b hb).1
 have nstk:∀ b ∈ fp,b ∉ frs X.stack:=fun b hb z=>by
  obtain ⟨_,n1,n2,_⟩:=f2 b hb
  rcases mem_cons.mp (I2.stkSub b z) with z | z
  ·exact n1 z
  ·exact n2 z
 refine zE fun h4 ns4 sb4=>?_
 have keep4:∀ b o,s3.heap.get? b = some o->h4.get? b = some o:=fun b o e=>by rw [sb4];exact pushCells_keeps _ _ b o (Q2 _ e)
 have clt:∀ x c,cl.lookup x = some c->c < s3.heap.objs.size:=fun x c e=>by
  obtain ⟨v,q⟩:=I3.cell x c (hcl x c e)
  exact q.lt
 have cor:∀ x c,(cellsFrom (s3.heap.objs.size + 1) scope.names cl).lookup x = some c->cl.lookup x = some c\/s3.heap.objs.size + 1<=c:=fun x c e=>zdB _ _ _ e
 have cne:∀ b ∈ fp,∀ x c,(cellsFrom (s3.heap.objs.size + 1) scope.names cl).lookup x = some c->c ≠ b:=fun b hb x c e=>by
  rcases cor x c e with e | e
  ·exact (f2 b hb).2.2.2.2.1 x c (hcl x c e)
  ·exact Nat.ne_of_gt (Q5 (Nat.lt_trans (fplt b hb) sz3) (Nat.le_of_succ_le e))
 have neC:∀ b ∈ fp,b ≠ s3.heap.objs.size:=fun b hb=>Qj (Nat.lt_trans (fplt b hb) sz3)
 have ok':(X.block scope cl (tgs ++ caps.map (·.1)) fp s3 H3).Ok:=
  ⟨I.ok.mod,hkind,I.ok.glob,I.ok.blt,Q3 _,zcz _ _ _ (fun x y c e1 e2=>I.ok.inj x y c (hcl x c e1) (hcl y c e2)) (fun x c e=>Nat.lt_succ_of_lt (clt x c e)),hhas _,(fun x c z e=>Nat.le_of_succ_le (zcx _ _ _ (eq_of_beq z) e)),I.ok.hd,I.ok.frames,.inl rfl,
   fun b hb=>⟨neC b hb,cne b hb⟩,I3.bs,Qi I.ok.bsz I3.sz,fun b o e hb=>by
    rcases (f2 b hb).2.2.2.1 with z | z
    ·exact I.ok.noex b o e z
    ·exact absurd (Q5 (Qd e) (Qi I.ok.bsz z)) (Qn _),
   nstk,I3.stack,I3.stkFree⟩
 have I4:Inv (X.block scope cl (tgs ++ caps.map (·.1)) fp s3 H3) [] (zL tgs caps σ) H3 { s3 with heap:=h4 }:=by
  refine ⟨ok',rfl,I3.bare,Un.kept keep4,⟨_,ns4,fun i x v e1 e2 e3=>?_⟩,fun x c e=>?_,I3.hok.fresh (Q3 _),fun x c e=>(cor x c e).elim (fun e=>I3.freeC x c (hcl x c e)) (fun e=>I3.hok.fresh (Nat.le_of_succ_le e)),fun p hp=>by simp [Cx.block] at hp,I3.hok.kept keep4,by simp [zL,Cx.block]⟩
  ·-- a captured name
   have hlen:(tgs.map (fun _=>(none:Option V))).length = tgs.length:=by simp
   by_cases hi:i < tgs.length
   ·have:(zL tgs caps σ)[i]? = some none:=by
     unfold zL
     rw [Q6 (by simpa using hi)]
     simp [hi]
    rw [this] at e2
    cases e2
   ·have e1':(tgs ++ caps.map (·.1))[i]? = some x:=e1
    rw [Q7 (by omega),Qa] at e1'
    have e2':=e2
    unfold zL at e2'
    rw [Q7 (by simpa using hi),hlen,Qa] at e2'
    cases hcq:caps[i - tgs.length]? with
    | none=>rw [hcq] at e1';cases e1'
    | some cq=>
     rw [hcq] at e1' e2'
     have ex:cq.1 = x:=Qc e1'
     have ev:(σ[cq.2]?).join = some v:=Qc e2'
     obtain ⟨c1,c2,c3⟩:=hcap cq (Q9 hcq)
     have ev':σ[cq.2]? = some (some v):=by
      cases q:σ[cq.2]? with
      | none=>rw [q] at ev;cases ev
      | some o=>rw [q] at ev;cases o with
       | none=>cases ev
       | some v'=>rw [show v' = v from Qc ev]
     obtain ⟨m,hn,hl⟩:=I3.loc
     obtain ⟨u,r,lk⟩:=hl cq.2 cq.1 v c1 ev' (.inr (.inl c2))
     rcases lk with ⟨k1,_⟩ | ⟨_,c,ec,icl⟩
     ·rw [c2] at k1;cases k1
     ·obtain ⟨c',ec'⟩:=hhas (s3.heap.objs.size + 1) cq.1 c3
      have ec2:=ec'
      rw [zcy _ _ _ fun y hy hk hyx=>hcell y hy hk (by rw [hyx];exact List.mem_map_of_mem (Q9 hcq))] at ec2
      have:=hcl _ _ ec2
      rw [ec] at this
      cases this
      refine ⟨u,r,.inr ⟨?_,c,?_,?_⟩⟩
      ·rw [← ex];exact c3
      ·rw [← ex];exact ec'
      ·obtain ⟨o,ho,hd⟩:=icl
       exact ⟨o,keep4 _ _ ho,hd⟩
  ·show ∃ v,h4.IsCell c v
   rw [sb4]
   refine zbE scope.names _ cl (fun x c f=>?_) x c (by rw [Heap.size_push];exact e)
   obtain ⟨v,o,ho,hd⟩:=I3.cell x c (hcl x c f)
   exact ⟨v,o,Q2 _ ho,hd⟩
 have stat:∀ {H':Hp},(∀ b ∈ fp,H' b = none)->∀ b ∈ fp,zbp (X.block scope cl (tgs ++ caps.map (·.1)) fp s3 H3) [] H' b:=fun hn b hb=>
  ⟨hn b hb,neC b hb,nstk b hb,.inl hb,cne b hb,fun p hp=>by simp [Cx.block] at hp⟩
 have st4:tn 0 h4:=T.keep 0 _ _ st3 fun b _ o e=>keep4 b o e
 have loop:codeAny (model X.prog X.w) X.A (.compLoop (.ListComp elt [⟨tg,iter,ifs,0⟩] scope pos) 0 (.ref it) (.ref s2.heap.objs.size) (zcc scope cl s3.heap.objs.size X.env))
   (compPost (model X.prog X.w) X.A X.xe none (EP X pins σ Q) (.ref s2.heap.objs.size) s3.heap.objs.size) { s3 with heap:=h4 }:=by
  refine qO (fun n s'=>∃ i σ' H',Inv (X.block scope cl (tgs ++ caps.map (·.1)) fp s3 H3) [] σ' H' s'/\tn i s'.heap/\(∀ b ∈ fp,H' b = none)/\W i n σ' H') ?_ m0 ⟨0,_,H3,I4,st4,fr3,w0⟩
  rintro n s5 ⟨i,σ5,H5,I5,st5,fr5,w5⟩
  rcases turn i n σ5 H5 w5 with ⟨stop,qn⟩ | ⟨go,N,hN,step⟩
  ·refine Qf (T.done (X.block scope cl (tgs ++ caps.map (·.1)) fp s3 H3) rfl rfl rfl hc i [] s5 σ5 H5 (fun _ _=>False) I5 (stat fr5) st5 stop) (fun r s6 ⟨hr,I6⟩=>?_) fun _ _ z=>False.elim z
   subst hr
   obtain ⟨m6,hn6,_⟩:=I6.loc
   refine ⟨m6,hn6,fun h' sb=>?_⟩
   have nb:∀ b o,s3.heap.get? b = some o->b ≠ s3.heap.objs.size:=fun b o e=>Qj (Qd e)
   have eqb:∀ b,b ≠ s3.heap.objs.size->h'.get? b = s6.heap.get? b:=fun b hb=>sb.2 b hb
   have uX:Un (frs X.stack) fp H3 H5 s3.heap h':=by
    have u:=I6.base
    refine ⟨fun b o e a1 a2 a3=>?_,fun b o e a1 a2 a3=>?_,u.free,fun b o e a3=>?_,u.tups,u.frzs,u.tbls⟩
    ·rw [eqb b (nb b o e)];exact u.keep b o e a1 a2 a3
    ·rw [eqb b (nb b o e)];exact u.slot b o e a1 a2 a3
    ·rw [eqb b (nb b o e)];exact u.there b o e a3
   have hokX:HOk X.prog X.w H5 h':=fun a o e=>(I6.hok a o e).stay (fun b u hb eu=>by
    have hbC:b ≠ s3.heap.objs.size:=fun z=>by
     have hfC:H5 s3.heap.objs.size = none:=I6.free
     rcases hb with rfl | hb
     ·rw [z,hfC] at e;cases e
     ·rw [z,hfC] at hb;cases hb
    rw [eqb b hbC];exact eu) (fun _ q=>q) fun _ _ q=>q
   have os6:s6.os = s3.os:=I6.os
   exact ⟨.ref s2.heap.objs.size,H5,I3.call' (s':={ s6 with heap:=h' }) (ch:=fp) os6 uX hokX I6.bare (fun b hb=>⟨(f2 b hb).2.2.2.1,(f2 b hb).2.1,(f2 b hb).2.2.2.2.1,(f2 b hb).2.2.2.2.2⟩),rfl,qn⟩
  ·refine Qf (T.item (X.block scope cl (tgs ++ caps.map (·.1)) fp s3 H3) rfl rfl rfl hc i [] s5 σ5 H5 (fun _ _=>False) I5 (stat fr5) st5 go) (fun r s6 ⟨u,hr,h6⟩=>?_) fun _ _ z=>False.elim z
   subst hr
   refine Qf h6 (fun _ s7 ⟨x,H7,I7,r7,y7,st7,fr7⟩=>?_) fun _ _ z=>False.elim z
   have I7':=I7.pinned (stat fr7) (T.obj _ _ st7)
   have again:∀ {s9:Shared} {σ9:St} {H9:Hp},Inv (X.block scope cl (tgs ++ caps.map (·.1)) fp s3 H3) ([] ++ zaw fp s7.heap) σ9 H9 s9->N σ9 H9->
     ∃ m,m < n/\∃ i σ' H',Inv (X.block scope cl (tgs ++ caps.map (·.1)) fp s3 H3) [] σ' H' s9/\tn i s9.heap/\(∀ b ∈ fp,H' b = none)/\W i m σ' H':=fun {s9 σ9 H9} I9 n9=>by
    obtain ⟨m',hm,w9⟩:=hN σ9 H9 n9
    refine ⟨m',hm,i + 1,σ9,H9,I9.unpinned,T.keep _ _ _ st7 fun b hb o e=>(I9.pin (b,o) (Ql _ (Ql _ (yK hb e)))).1,fun b hb=>?_,w9⟩
    obtain ⟨o,e,d⟩:=T.obj _ _ st7 b hb
    exact (I9.pin (b,o) (Ql _ (Ql _ (yK hb e)))).2.1
   refine Qf (hg fp s3 H3 _ s7 σ5 H7 x u _ I7' r7 (step x H7 y7)) (fun _ s8 ⟨σ8,H8,I8,q8⟩=>?_) fun _ _ z=>False.elim z
   refine Qf (hif fp s3 H3 _ s8 σ8 H8 _ I8 q8) (fun b s9 ⟨H9,I9,q9⟩=>?_) fun _ _ z=>False.elim z
   cases b with
   | false=>
    rw [if_neg Q4] at q9
    rw [if_neg Q4]
    exact again I9 q9
   | true=>
    rw [if_pos rfl] at q9
    rw [if_pos rfl]
    refine Qf (hel fp s3 H3 _ s9 σ8 H9 _ I9 q9) (fun xv s10 ⟨v,H10,I10,rv,ys,hy,hl,q10⟩=>?_) fun _ _ z=>False.elim z
    refine Qf (zal (X:=X.block scope cl (tgs ++ caps.map (·.1)) fp s3 H3) _ s10 σ8 H10 (.ref s2.heap.objs.size) [v] (.ref s2.heap.objs.size) [xv] (fun _ H11=>N σ8 H11) I10 rfl (.cons rv .nil) ⟨_,ys,v,rfl,rfl,hy,hl,q10⟩) (fun _ s11 ⟨_,H11,I11,_,q11⟩=>again I11 q11) fun _ _ z=>False.elim z
 exact codeAny_compStart_list loop (T.self _ 0 _ _ _ st4 loop)
end
noncomputable def Each {α:Type} (P:α->Prop):List α->Prop
 | []=>True
 | a :: l=>P a/\Each P l
theorem Each.of {α:Type} {P:α->Prop}:∀ {l:List α},Each P l->∀ a ∈ l,P a
 | _ :: _,⟨h,_⟩,_,.head _=>h
 | _ :: _,⟨_,h⟩,_,.tail _ m=>Each.of h _ m
variable {l:List (Str × NameKind)}
theorem lookup_mem {y:Str} {k:NameKind} (h:l.lookup y = some k):(y,k) ∈ l:=by
 induction l with
 | nil=>cases h
 | cons p l ih=>
  obtain ⟨n,k'⟩:=p
  rw [lookup_cons] at h
  cases e:y == n with
  | true=>
   rw [e] at h
   cases h
   rw [eq_of_beq e]
   exact .head _
  | false=>
   rw [e] at h
   exact .tail _ (ih h)
theorem zke (h:Each (fun p=>(p.2 = .cell\/p.2 = .free)->∃ c,cl.lookup p.1 = some c) l) (y:Str) (q:l.lookup y = some .cell\/l.lookup y = some .free):∃ c,cl.lookup y = some c:=by
 rcases q with q | q
 ·exact h.of _ (lookup_mem q) (.inl rfl)
 ·exact h.of _ (lookup_mem q) (.inr rfl)
theorem PI.or {wi':TI} (h:PI X tg iter wi) (h':PI X tg iter wi'):PI X tg iter (fun σ H R=>wi σ H R\/wi' σ H R):=fun pins s σ H R I q=>q.elim (h pins s σ H R I) (h' pins s σ H R I)
theorem zjc {bs:List Bool} {its:List Value} (r:Vals (bs.map V.bl) its) {i:Nat} {v:Value} (e:its[i]? = some v):∃ b,bs[i]? = some b/\v = .bool b:=by
 have hl:=r.length
 rw [Qg] at hl
 have hi:i < its.length:=(List.getElem?_eq_some_iff.mp e).1
 have eb:bs[i]? = some bs[i]:=by simp [show i < bs.length by omega]
 have em:(bs.map V.bl)[i]? = some (V.bl bs[i]):=by rw [Qa,eb];rfl
 obtain ⟨u,e2,q⟩:=Vals.get r em
 rw [e] at e2
 cases e2
 exact ⟨_,eb,q⟩
theorem range_all (bs:List Bool):(List.range bs.length).all (fun i=>bs.getD i false) = bs.all id:=by
 rw [Bool.eq_iff_iff,all_eq_true,all_eq_true]
 constructor
 ·intro h b hb
  obtain ⟨i,hi,rfl⟩:=getElem_of_mem hb
  have:=h i (mem_range.mpr hi)
  simpa [List.getD,hi] using this
 ·intro h i hi
  have hi':=mem_range.mp hi
  have:=h bs[i] (getElem_mem hi')
  simpa [List.getD,hi'] using this
section
theorem zgY (hc:X.calm = true):CallR X (.builtin "all") (fun xs H Q=>∃ (p:Addr) (bs:List Bool),xs = [.ref p]/\SqL X.K H p (bs.map V.bl)/\Q (.bl (bs.all id)) H):=by
 intro pins s σ H xs us Q I r h
 obtain ⟨p,bs,rfl,hq,q⟩:=h
 obtain ⟨u,rfl,rx⟩:=vals1 r
 cases rx
 obtain ⟨its,r',pl,hz⟩:=I.list hq
 have hlen:=r'.length
 rw [Qg] at hlen
 refine call_all_walk (wpAny_pyIter_list pl.isList ?_)
 have hlt:p < s.heap.objs.size:=by
  obtain ⟨o,n,ho,_⟩:=pl
  exact Qd ho
 refine ⟨s.heap.objs.size,_,_,_,_,_,fun i=>bs.getD i false,rfl,Walks.list (by exact I.ok.hd hc) _ p (Qj hlt) its.toArray,⟨⟨_,Qk _ rfl,rfl,rfl⟩,?_⟩,?_,fun h' tk hk=>?_⟩
 ·obtain ⟨o,ho,c⟩:=pl.isList
  exact ⟨o,Q2 _ ho,c⟩
 ·intro i v s' Q' E' e hq'
  obtain ⟨b,eb,rfl⟩:=zjc r' (show its[i]? = some v by simpa using e)
  have:bs.getD i false = b:=by simp [List.getD,eb]
  have hq2:Q' (bs.getD i false) s':=hq'
  rw [this] at hq2
  exact wpAny_truthy_bool hq2
 ·have e:(List.range its.toArray.size).all (fun i=>bs.getD i false) = bs.all id:=by
   rw [← range_all bs,show its.toArray.size = bs.length by simp [hlen]]
  rw [e]
  refine ⟨.bl (bs.all id),H,I.kept (t':=tk) (fun b o eb=>hk b o (fun z=>?_) (Q2 _ eb)),rfl,q⟩
  have z':b = s.heap.objs.size:=by simpa using z
  exact absurd (Qd eb) (by rw [z'];exact Qn _)
end
section
noncomputable def zk0 (K:Frag):R2:=fun x y H Q=>∃ a b xs ys,x = .ref a/\y = .ref b/\SqT K H a xs/\SqT K H b ys/\xs.length + ys.length<=sizeLine /\
 (xs = []->Q (.ref b) H)/\(xs ≠ []->ys = []->Q (.ref a) H)/\(xs ≠ []->ys ≠ []->∀ p,H p = none->Q (.ref p) (upd H p (.tup (xs ++ ys))))
theorem ziD:OpR X (binaryOp .Add) (zk0 X.K):=by
 intro pins s σ H x y v u Q I rx ry h
 obtain ⟨a,b,xs,ys,rfl,rfl,ha,hb,hz,q0,q1,q2⟩:=h
 by_cases hx:xs = []
 ·cases rx
  cases ry
  obtain ⟨its,r1,p1,_⟩:=I.tuple ha
  obtain ⟨its2,r2,p2,_⟩:=I.tuple hb
  obtain ⟨⟨cls,dd,data,sl⟩,ho,hc,n,hd⟩:=id p1
  obtain ⟨⟨cls2,dd2,data2,sl2⟩,ho2,hc2,n2,hd2⟩:=id p2
  simp only at hc hd hc2 hd2
  subst hc hd hc2 hd2
  have e:its = []:=r1.nil_iff.mpr hx
  exact concat_meets ⟨_,ho,rfl⟩ ⟨_,ho2,rfl⟩ noFill_tuple_add seq_tuple_add PySem.F.slot_tuple_add PySem.F.entry_tuple_add (PySem.F.args_tuple_add_2 _ _)
   (tuple_addW0 a b its.toArray its2.toArray n n2 dd dd2 sl sl2 (by simp [e])) ⟨ho,ho2,⟨.ref b,H,I,rfl,q0 hx⟩⟩
 ·exact ziB pins s σ H _ _ v u Q I rx ry ⟨a,b,xs,ys,rfl,rfl,ha,hb,hx,hz,q1 hx,q2 hx⟩
end
end L2
namespace HT
open PySem PySem.Spec PyProof.Rows
section
variable {prog:Program} {w:World} {A:Around} {E:Value->Shared->Prop} {s:Shared}
theorem za2 {t sl:Addr} {items:Array Value} {vl vu:Value} {lo hi:Option Int} {Q:Value->Shared->Prop} (ht:IsTup s.heap t items) (hs:s.heap.IsSliceOf sl vl vu .none) (pl:IsPart vl lo) (pu:IsPart vu hi)
  (hw:sIx items.size 0 lo = 0/\sIx items.size items.size hi = items.size) (h:Q (.ref t) s):wpAny (model prog w) A (getItem (.ref t) (.ref sl)) Q E s:=by
 obtain ⟨os,hos,hcs,hds⟩:=id hs
 have hTs:s.TypeIs (.ref sl) "slice":=⟨os,hos,hcs⟩
 unfold getItem
 try with_reducible refine wpAny_holding ?_
 first | refine Q1 (Qe ?_) | skip
 refine Q1 (wpAny_sequenceKey ht.typeIs (by decide) ?_)
 refine Q1 (wpAny_callSpecial?_slot (name:=Str.ofString "__getitem__") ht.typeIs PyProof.Rows.slot_tuple_getitem
  (wpAny_call_entry PyProof.Rows.slot_tuple_getitem ht.typeIs entry_tuple_getitem ?_ (args_tuple_getitem _ _)))
 show wpAny _ _ (Builtin.Tuple.tupleItemsOf (.ref t) >>= _) _ _ s
 refine Q1 (tupleItemsOf_ ht ?_)
 refine Q1 (wpAny_typeOf hTs ?_)
 rw [if_pos (by decide)]
 refine Q1 (yZ hs pl pu ?_)
 have hyes:(((sIx items.size 0 lo:Nat):Int) == 0 && (1:Int) == 1 && (sIx items.size items.size hi - sIx items.size 0 lo) == items.size) = true:=by
  rw [hw.1,hw.2];simp
 show wpAny _ _ (if (((sIx items.size 0 lo:Nat):Int) == 0 && (1:Int) == 1 && (sIx items.size items.size hi - sIx items.size 0 lo) == items.size) = true then _ else _) _ _ s
 rw [if_pos hyes]
 refine Q1 ?_
 unfold Builtin.Tuple.tupleIsExact
 refine Q1 (wpAny_typeOf ht.typeIs (Qe ?_))
 rw [if_pos (by decide)]
 exact Q1 (wpAny_rule (Qe ⟨_,rfl,Qe h⟩))
end
end HT
namespace L2
open PySem PySem.Spec PyProof.Rows
variable {X:Cx}
section
noncomputable def zlJ (K:Frag):V->Option Int->Option Int->Hp->VK->Prop:=fun x lo hi H Q=>∃ a xs,x = .ref a/\SqT K H a xs /\
 ((HT.sIx xs.length 0 lo = 0/\HT.sIx xs.length xs.length hi = xs.length)->Q (.ref a) H)/\(¬ (HT.sIx xs.length 0 lo = 0/\HT.sIx xs.length xs.length hi = xs.length)->∀ p,H p = none->Q (.ref p) (upd H p (.tup (cutV xs lo hi))))
theorem zic:SlR X (zlJ X.K):=by
 intro pins s σ H x v vl vu lo hi sl Q I rx hs pl pu h
 obtain ⟨a,xs,rfl,hx,q1,q2⟩:=h
 by_cases hw:HT.sIx xs.length 0 lo = 0/\HT.sIx xs.length xs.length hi = xs.length
 ·cases rx
  obtain ⟨its,r,ht,hz⟩:=I.tuple hx
  have hlen:its.toArray.size = xs.length:=by rw [Qh];exact r.length.symm
  refine ⟨"tuple",_,PyProof.Rows.slot_tuple_getitem.lookup,ht.typeIs,?_⟩
  refine HT.za2 ht hs pl pu (by rw [hlen];exact hw) ⟨.ref a,H,I,rfl,q1 hw⟩
 ·exact zjo pins s σ H _ v vl vu lo hi sl Q I rx hs pl pu ⟨a,xs,rfl,hx,hw,q2 hw⟩
theorem zb5:fillsNumberSlot (.type "tuple") "mul" = pure false:=
 PySem.fillsNumberSlot_seq (id:="tuple.__mul__") (r:=some (.builtin "tuple.__rmul__")) PySem.F.slot_tuple_mul.lookup (by decide +kernel) PySem.F.slot_tuple_rmul.lookup (by decide +kernel)
theorem zd0:seqRepeat? (.type "tuple") = pure (some (.builtin "tuple.__mul__")):=by
 unfold seqRepeat?
 rw [PySem.seqSlot_of (T:="tuple") (name:="__mul__") (id:="tuple.__mul__") PySem.F.slot_tuple_mul.lookup (by decide +kernel),PySem.seqSlot_of (T:="tuple") (name:="__rmul__") (id:="tuple.__rmul__") PySem.F.slot_tuple_rmul.lookup (by decide +kernel)]
 rfl
theorem zcL (a:Int) (t:Tok) (l:Addr) (items:Array Value) (n:Nat) (dd:Option Addr) (sl:Array (Option Value)) :
  Meets (Builtin.«int.__rmul__» ⟨[.int a t,.ref l],[]⟩) (fun _ R s=>s.heap.get? l = some { cls:=.type "tuple",dict:=dd,data:=.seq items n,slots:=sl }/\R (.ok (.ret Value.notImplemented)) s):=
 .of_wp fun prog w A R s h=>by obtain ⟨hp,g,d,tk,os⟩:=s;obtain ⟨hl,h⟩:=h;wp_walk;exact ⟨_,rfl,h⟩
theorem zfq (l:Addr) (items:Array Value) (n:Nat) (x:Int) (u:Tok) (dd:Option Addr) (sl:Array (Option Value)) (h0:items.isEmpty = false) (h1:2<=x) (h2:x < 2 ^ 63) (h3:items.size * x.toNat<=sizeLine) :
  Meets (Builtin.«tuple.__mul__» ⟨[.ref l,.int x u],[]⟩) (fun _ R s=>s.heap.get? l = some { cls:=.type "tuple",dict:=dd,data:=.seq items n,slots:=sl }/\R (.ok (.ret (Value.ref s.heap.objs.size))) { s with heap:=s.heap.push { cls:=Value.type "tuple",data:=Data.seq (List.foldl (fun x1 x2=>x1 ++ x2) #[] (List.replicate x.toNat items)) },toks:=s.toks }):=
 .of_wp fun prog w A R s h=>by
  obtain ⟨hp,g,d,tk,os⟩:=s;obtain ⟨hl,h⟩:=h
  have f1:=AutoSeq1.idx_int
  have hA:¬(decide (x < -2 ^ 63) || decide (x ≥ 2 ^ 63)) = true:=by simp;omega
  have hB:¬(items.isEmpty || x == 1) = true:=by rw [h0];simp;omega
  have hC:¬(decide (x<=0) || items.isEmpty) = true:=by rw [h0];simp;omega
  have hm:((items.size:Nat):Int) * x = ((items.size * x.toNat:Nat):Int):=by
   rw [Int.natCast_mul,Int.toNat_of_nonneg (by omega)]
  have hs2:(sizeLine:Nat)<=(2 ^ 63 - 1) / 8:=by decide
  have hD:¬((items.size:Nat):Int) * x > (2 ^ 63 - 1) / 8:=by rw [hm];omega
  have hE:¬Builtin.Tuple.tupleTooMany (((items.size:Nat):Int) * x) = true:=by
   rw [hm]
   show ¬ decide (((items.size * x.toNat:Nat):Int) > ((sizeLine:Nat):Int)) = true
   rw [decide_eq_true_iff];omega
  have hT:IsTup hp l items:=⟨_,hl,rfl,n,rfl⟩
  wp_walk using wpAny_loadPart' hl
  rw [if_neg hA]
  refine Q1 (tupleItemsOf_ hT ?_)
  show wpAny _ _ (if (items.isEmpty || x == 1) = true then _ else _) _ _ _
  rw [if_neg hB]
  show wpAny _ _ (if (decide (x<=0) || items.isEmpty) = true then _ else _) _ _ _
  rw [if_neg hC]
  show wpAny _ _ (if ((items.size:Nat):Int) * x > (2 ^ 63 - 1) / 8 then _ else _) _ _ _
  rw [if_neg hD]
  show wpAny _ _ (if Builtin.Tuple.tupleTooMany (((items.size:Nat):Int) * x) = true then _ else _) _ _ _
  rw [if_neg hE]
  have hj:(List.foldl (fun x1 x2=>x1 ++ x2) #[] (List.replicate x.toNat items)).size<=sizeLine:=by
   have:=foldl_rep items.toList x.toNat []
   rw [nil_append,Array.toArray_toList] at this
   rw [this,Qh,len_rep,Nat.mul_comm,Array.length_toList]
   exact h3
  exact Q1 (m:=Builtin.Tuple.tupleExact _) (Qr (Qe ⟨_,rfl,h⟩) hj)
noncomputable def zkW (K:Frag):R2:=fun x y H Q=>∃ l k xs,x = .ref l/\y = .int k/\SqT K H l xs/\xs ≠ []/\2<=k/\k < 2 ^ 63/\xs.length * k.toNat<=sizeLine /\
 ∀ p,H p = none->Q (.ref p) (upd H p (.tup (List.replicate k.toNat xs).flatten))
theorem ziy:OpR X (binaryOp .Mult) (zkW X.K):=by
 intro pins s σ H x y v u Q I rx ry h
 obtain ⟨l,k,xs,rfl,rfl,hH,hx,h1,h2,hz,q⟩:=h
 cases rx
 obtain ⟨t,rfl⟩:=ry
 obtain ⟨its,r,pl,_⟩:=I.tuple hH
 have hl:=r.length
 obtain ⟨⟨cls,dd,data,sl⟩,ho,hc,n,hd⟩:=id pl
 simp only at hc hd
 subst hc hd
 have hlen:its.toArray.size * k.toNat<=sizeLine:=by rw [Qh,← hl];exact hz
 have hne:its.toArray.isEmpty = false:=by
  cases its with
  | nil=>exact absurd (r.nil_iff.mp rfl) hx
  | cons a b=>rfl
 have hnew:List.foldl (fun x1 x2=>x1 ++ x2) #[] (List.replicate k.toNat its.toArray) = (List.replicate k.toNat its).flatten.toArray:=by
  have:=foldl_rep its k.toNat []
  rw [nil_append] at this
  exact this
 refine wpAny_binaryOp_repeat_ref (T:="tuple") (U:="int") (by decide) ⟨_,ho,rfl⟩ (fun s'=>typeIs_int s' k t) zb5 F.fills_int_mul F.slot_int_rmul zd0 F.slot_int_index.lookup
  (call_meets F.slot_int_rmul (typeIs_int s k t) F.entry_int_rmul (F.args_int_rmul_2 _ _) (zcL k t l its.toArray n dd sl)
   ⟨ho,rfl,⟨_,ho,rfl⟩,call_meets F.slot_tuple_mul ⟨_,ho,rfl⟩ F.entry_tuple_mul (F.args_tuple_mul_2 _ _) (zfq l its.toArray n k t dd sl hne h1 h2 hlen) ⟨ho,?_⟩⟩)
 rw [hnew]
 refine ⟨.ref s.heap.objs.size,_,I.laid (t':=s.toks) (o:=.tup (List.replicate k.toNat xs).flatten) (fun b ob q=>Q2 _ q) (Q3 _) ?_,rfl,q _ (I.hok.fresh (Q3 _))⟩
 exact ⟨by rw [len_rep,Nat.mul_comm];exact hz,_,r.rep k.toNat,IsTup.new _ _,NoDict.new⟩
end
section
theorem zfG {i0:Nat} {y0:Str} {py spos:Pos} {tg elt iter:Expr} {ifs:List Expr} {scope:Scope} {cl:List (Str × Addr)} {pos:Pos} {tgs:List Str} {caps:List (Str × Nat)} {wi:TI} {g:TG} {tc:TT} {te:TE}
  (hc:X.calm = true) (hi:PI X tg iter wi) (hclos:closureFor scope X.env = pure cl) (hcell:∀ y ∈ scope.names,y.2 = .cell->y.1 ∉ caps.map (·.1)) (hkind:scope.kind = .function)
  (hnames:∀ y ∈ scope.names,y.2 = .local->scope.names.lookup y.1 = some .local)
  (hcl:∀ y c,cl.lookup y = some c->X.env.cells.lookup y = some c)
  (hhas:∀ n y,((relabel scope X.env).names.lookup y = some .cell\/(relabel scope X.env).names.lookup y = some .free)->∃ c,(cellsFrom n scope.names cl).lookup y = some c)
  (hcap:∀ c ∈ caps,X.N[c.2]? = some c.1/\X.env.kindOf c.1 = some .cell/\((relabel scope X.env).names.lookup c.1 = some .cell\/(relabel scope X.env).names.lookup c.1 = some .free))
  (hg:∀ ex s0 H0,PG (X.block scope cl (tgs ++ caps.map (·.1)) ex s0 H0) tg g) (hif:∀ ex s0 H0,PTs (X.block scope cl (tgs ++ caps.map (·.1)) ex s0 H0) ifs tc) (hel:∀ ex s0 H0,PE (X.block scope cl (tgs ++ caps.map (·.1)) ex s0 H0) elt te)
  (hN0:X.N.Nodup) (hi0:X.N[i0]? = some y0) (hx0:Loc X.env.scope y0)
  (hsw:swapsWith (.ListComp elt [⟨tg,iter,ifs,0⟩] scope pos) (some (.Name y0 py)) spos.line X.env = pure true:=by rfl)
  (hf0:X.fn y0 = true\/X.env.scope.names.lookup y0 = some .local:=by first | exact .inl rfl | exact .inr rfl | assumption)
  (hs:∀ x,foldedSetIterable iter X.env x = pure x:=by intro _;rfl) :
  PS X (.Assign [.Name y0 py] (.ListComp elt [⟨tg,iter,ifs,0⟩] scope pos) spos) (fun D σ H=>zfv wi g tc te (zL tgs caps) σ H fun v H'=>D.nx (σ.set i0 (some v)) H'):=by
 intro pins s σ H DD I h
 rw [exec_Assign_Name_used _ _ _ _ hsw]
 refine Q1 (wpAny_standAt (Q1 ?_))
 show wpAny _ X.A (do let _ ← comprehension (.ListComp elt [⟨tg,iter,ifs,0⟩] scope pos) scope X.env _ (newList []) false (eval iter X.env) (some (assign (.Name y0 py) X.env))) _ _ s
 refine Q1 (Qf (wpAny_comprehension_free (use:=some (assign (.Name y0 py) X.env)) (Q:=fun _ s'=>SP X pins DD .next s') rfl hs hclos hkind hnames
  (thn (hi pins s σ H _ I h) fun v s1 h1=>thn h1 fun itv s2 h2=>?_)) (fun _ s' hq=>Qe (Qe hq)) fun _ _ e=>e)
 obtain ⟨it,fp,tn,J,H2,e,I2,T,st2,f2,hrest⟩:=h2
 subst e
 -- the new list
 have hD:H2 s2.heap.objs.size = none:=I2.fresh
 obtain ⟨W,⟨m0,w0⟩,turn⟩:=hrest _ hD
 refine Qr ?_ (by show 0<=sizeLine;decide)
 have I3:Inv X pins σ (upd H2 s2.heap.objs.size (.lst [])) { s2 with heap:=s2.heap.push { cls:=.type "list",data:=.seq ([]:List Value).toArray } }:=I2.lnew (t':=s2.toks) (ys:=[]) (its:=[]) .nil (by show 0<=sizeLine;decide)
 generalize hs3:({ s2 with heap:=s2.heap.push { cls:=.type "list",data:=.seq ([]:List Value).toArray } }:Shared) = s3 at I3
 have lt2:∀ b o,s2.heap.get? b = some o->s3.heap.get? b = some o:=fun b o e=>by rw [← hs3];exact Q2 _ e
 have sz3:s2.heap.objs.size < s3.heap.objs.size:=by rw [← hs3];show _ < (s2.heap.push _).objs.size;rw [Heap.size_push];exact Nat.lt_succ_self _
 have st3:tn 0 s3.heap:=T.keep 0 _ _ st2 fun b _ o e=>lt2 b o e
 have fplt:∀ b ∈ fp,b < s2.heap.objs.size:=fun b hb=>by
  obtain ⟨o,e,_⟩:=T.obj 0 _ st2 b hb
  exact Qd e
 generalize hH3:upd H2 s2.heap.objs.size (.lst []) = H3 at I3 w0
 have fr3:∀ b ∈ fp,H3 b = none:=fun b hb=>by rw [← hH3,qe (Qj (fplt b hb))];exact (f2 b hb).1
 have nstk:∀ b ∈ fp,b ∉ frs X.stack:=fun b hb z=>by
  obtain ⟨_,n1,n2,_⟩:=f2 b hb
  rcases mem_cons.mp (I2.stkSub b z) with z | z
  ·exact n1 z
  ·exact n2 z
 refine zE fun h4 ns4 sb4=>?_
 have keep4:∀ b o,s3.heap.get? b = some o->h4.get? b = some o:=fun b o e=>by rw [sb4];exact pushCells_keeps _ _ b o (Q2 _ e)
 have clt:∀ x c,cl.lookup x = some c->c < s3.heap.objs.size:=fun x c e=>by
  obtain ⟨v,q⟩:=I3.cell x c (hcl x c e)
  exact q.lt
 have cor:∀ x c,(cellsFrom (s3.heap.objs.size + 1) scope.names cl).lookup x = some c->cl.lookup x = some c\/s3.heap.objs.size + 1<=c:=fun x c e=>zdB _ _ _ e
 have cne:∀ b ∈ fp,∀ x c,(cellsFrom (s3.heap.objs.size + 1) scope.names cl).lookup x = some c->c ≠ b:=fun b hb x c e=>by
  rcases cor x c e with e | e
  ·exact (f2 b hb).2.2.2.2.1 x c (hcl x c e)
  ·exact Nat.ne_of_gt (Q5 (Nat.lt_trans (fplt b hb) sz3) (Nat.le_of_succ_le e))
 have neC:∀ b ∈ fp,b ≠ s3.heap.objs.size:=fun b hb=>Qj (Nat.lt_trans (fplt b hb) sz3)
 have ok':(X.block scope cl (tgs ++ caps.map (·.1)) fp s3 H3).Ok:=
  ⟨I.ok.mod,hkind,I.ok.glob,I.ok.blt,Q3 _,zcz _ _ _ (fun x y c e1 e2=>I.ok.inj x y c (hcl x c e1) (hcl y c e2)) (fun x c e=>Nat.lt_succ_of_lt (clt x c e)),hhas _,(fun x c z e=>Nat.le_of_succ_le (zcx _ _ _ (eq_of_beq z) e)),I.ok.hd,I.ok.frames,.inl rfl,
   fun b hb=>⟨neC b hb,cne b hb⟩,I3.bs,Qi I.ok.bsz I3.sz,fun b o e hb=>by
    rcases (f2 b hb).2.2.2.1 with z | z
    ·exact I.ok.noex b o e z
    ·exact absurd (Q5 (Qd e) (Qi I.ok.bsz z)) (Qn _),
   nstk,I3.stack,I3.stkFree⟩
 have I4:Inv (X.block scope cl (tgs ++ caps.map (·.1)) fp s3 H3) [] (zL tgs caps σ) H3 { s3 with heap:=h4 }:=by
  refine ⟨ok',rfl,I3.bare,Un.kept keep4,⟨_,ns4,fun i x v e1 e2 e3=>?_⟩,fun x c e=>?_,I3.hok.fresh (Q3 _),fun x c e=>(cor x c e).elim (fun e=>I3.freeC x c (hcl x c e)) (fun e=>I3.hok.fresh (Nat.le_of_succ_le e)),fun p hp=>by simp [Cx.block] at hp,I3.hok.kept keep4,by simp [zL,Cx.block]⟩
  ·-- a captured name
   have hlen:(tgs.map (fun _=>(none:Option V))).length = tgs.length:=by simp
   by_cases hi:i < tgs.length
   ·have:(zL tgs caps σ)[i]? = some none:=by
     unfold zL
     rw [Q6 (by simpa using hi)]
     simp [hi]
    rw [this] at e2
    cases e2
   ·have e1':(tgs ++ caps.map (·.1))[i]? = some x:=e1
    rw [Q7 (by omega),Qa] at e1'
    have e2':=e2
    unfold zL at e2'
    rw [Q7 (by simpa using hi),hlen,Qa] at e2'
    cases hcq:caps[i - tgs.length]? with
    | none=>rw [hcq] at e1';cases e1'
    | some cq=>
     rw [hcq] at e1' e2'
     have ex:cq.1 = x:=Qc e1'
     have ev:(σ[cq.2]?).join = some v:=Qc e2'
     obtain ⟨c1,c2,c3⟩:=hcap cq (Q9 hcq)
     have ev':σ[cq.2]? = some (some v):=by
      cases q:σ[cq.2]? with
      | none=>rw [q] at ev;cases ev
      | some o=>rw [q] at ev;cases o with
       | none=>cases ev
       | some v'=>rw [show v' = v from Qc ev]
     obtain ⟨m,hn,hl⟩:=I3.loc
     obtain ⟨u,r,lk⟩:=hl cq.2 cq.1 v c1 ev' (.inr (.inl c2))
     rcases lk with ⟨k1,_⟩ | ⟨_,c,ec,icl⟩
     ·rw [c2] at k1;cases k1
     ·obtain ⟨c',ec'⟩:=hhas (s3.heap.objs.size + 1) cq.1 c3
      have ec2:=ec'
      rw [zcy _ _ _ fun y hy hk hyx=>hcell y hy hk (by rw [hyx];exact List.mem_map_of_mem (Q9 hcq))] at ec2
      have:=hcl _ _ ec2
      rw [ec] at this
      cases this
      refine ⟨u,r,.inr ⟨?_,c,?_,?_⟩⟩
      ·rw [← ex];exact c3
      ·rw [← ex];exact ec'
      ·obtain ⟨o,ho,hd⟩:=icl
       exact ⟨o,keep4 _ _ ho,hd⟩
  ·show ∃ v,h4.IsCell c v
   rw [sb4]
   refine zbE scope.names _ cl (fun x c f=>?_) x c (by rw [Heap.size_push];exact e)
   obtain ⟨v,o,ho,hd⟩:=I3.cell x c (hcl x c f)
   exact ⟨v,o,Q2 _ ho,hd⟩
 have stat:∀ {H':Hp},(∀ b ∈ fp,H' b = none)->∀ b ∈ fp,zbp (X.block scope cl (tgs ++ caps.map (·.1)) fp s3 H3) [] H' b:=fun hn b hb=>
  ⟨hn b hb,neC b hb,nstk b hb,.inl hb,cne b hb,fun p hp=>by simp [Cx.block] at hp⟩
 have st4:tn 0 h4:=T.keep 0 _ _ st3 fun b _ o e=>keep4 b o e
 have loop:codeAny (model X.prog X.w) X.A (.compLoop (.ListComp elt [⟨tg,iter,ifs,0⟩] scope pos) 0 (.ref it) (.ref s2.heap.objs.size) (zcc scope cl s3.heap.objs.size X.env))
   (compPost (model X.prog X.w) X.A X.xe (some (assign (.Name y0 py) X.env)) (fun _ s'=>SP X pins DD .next s') (.ref s2.heap.objs.size) s3.heap.objs.size) { s3 with heap:=h4 }:=by
  refine qO (fun n s'=>∃ i σ' H',Inv (X.block scope cl (tgs ++ caps.map (·.1)) fp s3 H3) [] σ' H' s'/\tn i s'.heap/\(∀ b ∈ fp,H' b = none)/\W i n σ' H') ?_ m0 ⟨0,_,H3,I4,st4,fr3,w0⟩
  rintro n s5 ⟨i,σ5,H5,I5,st5,fr5,w5⟩
  rcases turn i n σ5 H5 w5 with ⟨stop,qn⟩ | ⟨go,N,hN,step⟩
  ·refine Qf (T.done (X.block scope cl (tgs ++ caps.map (·.1)) fp s3 H3) rfl rfl rfl hc i [] s5 σ5 H5 (fun _ _=>False) I5 (stat fr5) st5 stop) (fun r s6 ⟨hr,I6⟩=>?_) fun _ _ z=>False.elim z
   subst hr
   obtain ⟨m6,hn6,_⟩:=I6.loc
   have nb:∀ b o,s3.heap.get? b = some o->b ≠ s3.heap.objs.size:=fun b o e=>Qj (Qd e)
   have uX:Un (frs X.stack) fp H3 H5 s3.heap s6.heap:=I6.base
   have os6:s6.os = s3.os:=I6.os
   have I6X:Inv X pins σ H5 s6:=I3.call' (s':=s6) (ch:=fp) os6 uX I6.hok I6.bare (fun b hb=>⟨(f2 b hb).2.2.2.1,(f2 b hb).2.1,(f2 b hb).2.2.2.2.1,(f2 b hb).2.2.2.2.2⟩)
   have hfC:H5 s3.heap.objs.size = none:=I6.free
   show wpAny _ X.A (assign (.Name y0 py) X.env (.ref s2.heap.objs.size)) _ _ s6
   refine wpAny_assign_Name (zc2 I6X hN0 hi0 hx0 (v:=.ref s2.heap.objs.size) rfl (fun s7 I7 ⟨a,sa,ha⟩=>?_) hf0)
   have aC:s3.heap.objs.size ≠ a:=fun z=>by
    rcases ha with ha | ha
    ·have h3:=I3.lt
     rw [ha] at z
     rw [← z] at h3
     exact Qn _ h3
    ·obtain ⟨v,q⟩:=I3.cell _ _ ha
     have:=q.lt
     rw [← z] at this
     exact Qn _ this
   refine ⟨m6,hn6.sameBut sa aC,fun h' sb=>?_⟩
   have eqb:∀ b,b ≠ s3.heap.objs.size->h'.get? b = s7.heap.get? b:=fun b hb=>sb.2 b hb
   have uY:Un (frs X.stack) [s3.heap.objs.size] H5 H5 s7.heap h':=by
    refine ⟨fun b o e a1 a2 a3=>?_,fun b o e a1 a2 a3=>?_,fun _ _ _ q _=>q,fun b o e a3=>?_,fun _ _ q=>q,fun _ _ _ q=>q,fun b ps q=>⟨#[],by simpa using q⟩⟩
    ·rw [eqb b (fun z=>a3 (by rw [z];exact .head _))];exact e
    ·exact ⟨o.slots,by rw [eqb b (fun z=>a3 (by rw [z];exact .head _))];exact e⟩
    ·exact ⟨o,by rw [eqb b (fun z=>a3 (by rw [z];exact .head _))];exact e⟩
   have hokY:HOk X.prog X.w H5 h':=fun a o e=>(I7.hok a o e).stay (fun b u hb eu=>by
    have hbC:b ≠ s3.heap.objs.size:=fun z=>by
     rcases hb with rfl | hb
     ·rw [z,hfC] at e;cases e
     ·rw [z,hfC] at hb;cases hb
    rw [eqb b hbC];exact eu) (fun _ q=>q) fun _ _ q=>q
   refine ⟨σ.set i0 (some (.ref s2.heap.objs.size)),H5,I7.call' (s':={ s7 with heap:=h' }) (ch:=[s3.heap.objs.size]) rfl uY hokY I7.bare (fun b hb=>?_),qn⟩
   rw [mem_singleton.mp hb]
   refine ⟨.inr I3.sz,Nat.ne_of_gt I3.lt,fun x c e z=>?_,fun p hp z=>?_⟩
   ·obtain ⟨v,q⟩:=I3.cell x c e
    have:=q.lt
    rw [z] at this
    exact Qn _ this
   ·have:=Qd (I3.pin p hp).1
    rw [z] at this
    exact Qn _ this
  ·refine Qf (T.item (X.block scope cl (tgs ++ caps.map (·.1)) fp s3 H3) rfl rfl rfl hc i [] s5 σ5 H5 (fun _ _=>False) I5 (stat fr5) st5 go) (fun r s6 ⟨u,hr,h6⟩=>?_) fun _ _ z=>False.elim z
   subst hr
   refine Qf h6 (fun _ s7 ⟨x,H7,I7,r7,y7,st7,fr7⟩=>?_) fun _ _ z=>False.elim z
   have I7':=I7.pinned (stat fr7) (T.obj _ _ st7)
   have again:∀ {s9:Shared} {σ9:St} {H9:Hp},Inv (X.block scope cl (tgs ++ caps.map (·.1)) fp s3 H3) ([] ++ zaw fp s7.heap) σ9 H9 s9->N σ9 H9->
     ∃ m,m < n/\∃ i σ' H',Inv (X.block scope cl (tgs ++ caps.map (·.1)) fp s3 H3) [] σ' H' s9/\tn i s9.heap/\(∀ b ∈ fp,H' b = none)/\W i m σ' H':=fun {s9 σ9 H9} I9 n9=>by
    obtain ⟨m',hm,w9⟩:=hN σ9 H9 n9
    refine ⟨m',hm,i + 1,σ9,H9,I9.unpinned,T.keep _ _ _ st7 fun b hb o e=>(I9.pin (b,o) (Ql _ (Ql _ (yK hb e)))).1,fun b hb=>?_,w9⟩
    obtain ⟨o,e,d⟩:=T.obj _ _ st7 b hb
    exact (I9.pin (b,o) (Ql _ (Ql _ (yK hb e)))).2.1
   refine Qf (hg fp s3 H3 _ s7 σ5 H7 x u _ I7' r7 (step x H7 y7)) (fun _ s8 ⟨σ8,H8,I8,q8⟩=>?_) fun _ _ z=>False.elim z
   refine Qf (hif fp s3 H3 _ s8 σ8 H8 _ I8 q8) (fun b s9 ⟨H9,I9,q9⟩=>?_) fun _ _ z=>False.elim z
   cases b with
   | false=>
    rw [if_neg Q4] at q9
    rw [if_neg Q4]
    exact again I9 q9
   | true=>
    rw [if_pos rfl] at q9
    rw [if_pos rfl]
    refine Qf (hel fp s3 H3 _ s9 σ8 H9 _ I9 q9) (fun xv s10 ⟨v,H10,I10,rv,ys,hy,hl,q10⟩=>?_) fun _ _ z=>False.elim z
    refine Qf (zal (X:=X.block scope cl (tgs ++ caps.map (·.1)) fp s3 H3) _ s10 σ8 H10 (.ref s2.heap.objs.size) [v] (.ref s2.heap.objs.size) [xv] (fun _ H11=>N σ8 H11) I10 rfl (.cons rv .nil) ⟨_,ys,v,rfl,rfl,hy,hl,q10⟩) (fun _ s11 ⟨_,H11,I11,_,q11⟩=>again I11 q11) fun _ _ z=>False.elim z
 exact codeAny_compStart_list loop (T.self _ 0 _ _ _ st4 loop)
end
theorem zbI (ns:List Int):∀ j,j<=ns.length->preSum (fun i=>ns.getD i 0) j = (ns.take j).sum
 | 0,_=>by simp [preSum]
 | j + 1,h=>by
  have hj:j < ns.length:=h
  unfold preSum
  rw [zbI ns j (Nat.le_of_lt hj),show ns.take (j + 1) = ns.take j ++ [ns[j]] from (by rw [List.take_succ_eq_append_getElem hj]),List.sum_append]
  simp [List.getD,hj]
theorem ints_get {ns:List Int} {its:List Value} (r:Vals (ns.map V.int) its) {i:Nat} {v:Value} (e:its[i]? = some v):∃ t,v = .int (ns.getD i 0) t:=by
 have hl:=r.length
 rw [Qg] at hl
 have hi:i < its.length:=(List.getElem?_eq_some_iff.mp e).1
 have eb:ns[i]? = some ns[i]:=by simp [show i < ns.length by omega]
 have em:(ns.map V.int)[i]? = some (V.int ns[i]):=by rw [Qa,eb];rfl
 obtain ⟨u,e2,t,q⟩:=Vals.get r em
 rw [e] at e2
 cases e2
 exact ⟨t,by rw [q];simp [List.getD,eb]⟩
section
theorem zgU (hc:X.calm = true):CallR X (.builtin "sum") (fun xs H Q=>∃ (p:Addr) (ns:List Int),xs = [.ref p]/\SqL X.K H p (ns.map V.int)/\Q (.int ns.sum) H):=by
 intro pins s σ H xs us Q I r h
 obtain ⟨p,ns,rfl,hq,q⟩:=h
 obtain ⟨u,rfl,rx⟩:=vals1 r
 cases rx
 obtain ⟨its,r',pl,hz⟩:=I.list hq
 have hlen:=r'.length
 rw [Qg] at hlen
 refine call_sum_walkAnyS (wpAny_pyIter_list pl.isList ?_)
 have hlt:p < s.heap.objs.size:=by
  obtain ⟨o,n,ho,_⟩:=pl
  exact Qd ho
 refine ⟨s.heap.objs.size,_,_,_,_,_,_,fun i=>ns.getD i 0,rfl,(Walks.list (by exact I.ok.hd hc) _ p (Qj hlt) its.toArray).toS,⟨⟨_,Qk _ rfl,rfl,rfl⟩,?_⟩,?_,fun i v e=>ints_get r' (show its[i]? = some v by simpa using e),fun s' t' hm=>?_⟩
 ·obtain ⟨o,ho,c⟩:=pl.isList
  exact ⟨o,Q2 _ ho,c⟩
 ·intro b hb
  rw [show ({ s with heap:=s.heap.push _ }:Shared).heap.objs.size = s.heap.objs.size + 1 from Heap.size_push ..]
  rcases mem_cons.mp hb with rfl | hb
  ·exact Nat.lt_succ_self _
  ·rw [mem_singleton.mp hb];exact Nat.lt_succ_of_lt hlt
 ·obtain ⟨h',g',d',tk,o'⟩:=s'
  have e1:g' = s.gens:=hm.gens
  have e2:d' = s.drawn:=hm.drawn
  have e3:o' = s.os:=hm.os
  subst e1;subst e2;subst e3
  have e:preSum (fun i=>ns.getD i 0) its.toArray.size = ns.sum:=by
   rw [show its.toArray.size = ns.length by simp [hlen],zbI ns _ (Q3 _),List.take_length]
  rw [e]
  refine ⟨.int ns.sum,H,I.kept (t':=tk) (fun b o eb=>hm.heap b o (fun z=>?_) (Q2 _ eb)),⟨t',rfl⟩,q⟩
  have z':b = s.heap.objs.size:=by simpa using z
  exact absurd (Qd eb) (by rw [z'];exact Qn _)
end
end L2
namespace L2
open PySem PySem.Spec PyProof.Rows PySem.Builtin PySem.Builtin.ObjectAttr
inductive Tl (h:Heap) (bmB:List Value) (ns:List Str):List Value->Prop
 | base:Tl h bmB ns bmB
 | own {a:Addr} {c:Value} {dd:Option Addr} {cd:ClassData} {sl:Array (Option Value)} {mA:Str->Option Value} {tl:List Value} (e:h.get? a = some ⟨c,dd,.cls cd,sl⟩) (hn:h.Ns cd.ns mA) (no:∀ n ∈ ns,mA n = none) (t:Tl h bmB ns tl):Tl h bmB ns (.ref a :: tl)
section
variable {h h':Heap} {bmB tl:List Value} {ns:List Str}
theorem Tl.tail (T:Tl h bmB ns tl) (hi:("__init__":Str) ∈ ns):OwnTail h bmB tl:=by
 induction T with
 | base=>exact .base
 | own e hn no _ ih=>exact .own e hn (no _ hi) ih
end
noncomputable abbrev zkD (C:Addr) (t:Addr) (od:Option Addr):Obj:=⟨.ref C,od,.fields #[.ref t,.none,.none,.none,.bool false,.none],#[]⟩
noncomputable def ExO (e C:Addr) (od:Option Addr):Heap->Prop:=fun h=>∃ ob,h.get? e = some ob/\ob.cls = .ref C/\ob.dict = od/\∀ c,ob.data ≠ .cls c
noncomputable def ExN (e C t:Addr) (od:Option Addr):Heap->Prop:=fun h=>h.get? e = some (zkD C t od)
noncomputable def zdI (H:Hp) (e:Addr):Hp:=fun b=>if b = e then none else H b
variable {e:Addr} {H:Hp}
theorem yW {b:Addr} (h:b ≠ e):zdI H e b = H b:=if_neg h
theorem zf7:zdI H e e = none:=if_pos rfl
section
variable {X:Cx} {pins:List (Addr × Obj)} {σ:St} {s:Shared}
theorem Inv.let {φ:Heap->Prop} (I:Inv X pins σ H s) (he:H e = some (.ext φ)):Inv X pins σ (zdI H e) s:=by
 have nh:∀ b u,H b = some u->(∀ ψ,u ≠ .ext ψ)->b ≠ e:=fun b u q n z=>by rw [z,he] at q;cases q;exact n φ rfl
 have nn:∀ b,H b = none->zdI H e b = none:=fun b q=>by
  unfold zdI
  split
  ·rfl
  ·exact q
 refine ⟨I.ok,I.os,I.bare,⟨I.base.keep,I.base.slot,fun b ob q n x=>nn b (I.base.free b ob q n x),I.base.there,fun b xs q=>?_,fun b u xs q=>?_,fun b ps q=>?_⟩,I.loc,I.cell,nn _ I.free,fun x c q=>nn _ (I.freeC x c q),fun p q=>?_,?_,I.len⟩
 ·have:=I.base.tups b xs q;rw [yW (nh b _ this (fun _ z=>by cases z))];exact this
 ·have:=I.base.frzs b u xs q;rw [yW (nh b _ this (fun _ z=>by cases z))];exact this
 ·obtain ⟨m,this⟩:=I.base.tbls b ps q;exact ⟨m,by rw [yW (nh b _ this (fun _ z=>by cases z))];exact this⟩
 ·obtain ⟨a,b,c⟩:=I.pin p q
  exact ⟨a,nn _ b,c⟩
 ·intro b u q
  by_cases hb:b = e
  ·subst hb;rw [zf7] at q;cases q
  ·rw [yW hb] at q
   exact (I.hok b u q).stay (fun _ _ _ z=>z) (fun c z=>by rw [yW (nh c _ z (fun _ y=>by cases y))];exact z) fun c xs z=>by rw [yW (nh c _ z (fun _ y=>by cases y))];exact z
end
noncomputable def CXX (P:Program) (w:World):CXT:=fun l H s E ev s'=>∃ (e t C:Addr) (oe:Obj) (B:Heap) (H':Hp),ev = .ref e/\Heap.FlyingW B l e (.ref C) (.ref t) s'.heap/\s'.heap.get? e = some oe/\s'.os = s.os/\AllBare s'.gens /\
 Un (frs l) [] H H' s.heap s'.heap/\HOk P w H' s'.heap/\(∀ b o,s'.heap.get? b = some o->b ∉ frs l->(H' b ≠ none\/∃ o',s.heap.get? b = some o')->B.get? b = some o)/\(∀ b ∈ frs l,H' b = none)/\E (.ref C) oe.dict H'
noncomputable abbrev xns:List Str:=["__setattr__","at","__getattribute__","__getattr__"]
structure XcAt (K:Frag) (mg:Str->Option Value) (x:Str) (C fI:Addr):Prop where
 bound:mg x = some (.ref C)
 obj:∀ h:Heap,K.In h->∃ bm N nm q bs sn sub ab col dd k0 k1 k2 k3 k5 mN,h.get? C = some (excClassObj nm q C N bs bm true sn sub ab col dd k0 k1 k2 k3 k5 "ValueError.__new__")/\h.Ns N mN/\mN "__init__" = some (.ref fI)/\(∀ n ∈ xns,mN n = none)/\Tl h zcU ("__init__" :: xns) bm
 fn:∃ oI,K.lookup fI = some oI/\oI.cls = .type "function"
structure Sup (K:Frag) (mg:Str->Option Value) (y:Str) (C C':Addr):Prop where
 bound:mg y = some (.ref C)
 obj:∀ h:Heap,K.In h->(∃ bm N nm q bs hdct sn sub ab col dd k0 k1 k2 k3 k5,h.get? C = some (excClassObj nm q C N bs bm hdct sn sub ab col dd k0 k1 k2 k3 k5 "ValueError.__new__")/\bm.contains (.type "BaseException") = true) /\
  ∃ bm N nm q bs hdct sn sub ab col dd k0 k1 k2 k3 k5,h.get? C' = some (excClassObj nm q C' N bs bm hdct sn sub ab col dd k0 k1 k2 k3 k5 "ValueError.__new__")/\(Value.ref C' :: bm).contains (.ref C) = true
def PX (X:Cx) (sts:List Stmt) (t:XK->TS):Prop:=
 ∀ (E:XK) (pins:List (Addr × Obj)) (s:Shared) (σ:St) (H:Hp) (D:Ends),Inv X pins σ H s->t E D σ H->
  wpAny (model X.prog X.w) X.A (execs sts X.env) (SP X pins D) (fun ev s'=>∃ H1 s1,Inv X pins σ H1 s1/\CXX X.prog X.w X.stack H1 s1 E ev s') s
end L2
namespace FT
open PySem PySem.Spec PyProof.Rows L2
noncomputable def noStar:Expr->Bool
 | .Starred _ _=>false
 | _=>true
variable {e:Expr} {es:List Expr}
theorem zG {env:PySem.Env} (h:noStar e = true):starEach (e :: es) env = (false,eval e env) :: starEach es env:=by
 cases e <;> first | rfl | cases h
variable {pos:Pos}
theorem zZ {env:PySem.Env} :∀ {es:List Expr},es.all noStar = true->(backTo pos (starEach es env)).any (·.1) = false:=by
 intro es h
 have h1:(starEach es env).any (·.1) = false:=by
  induction es with
  | nil=>rfl
  | cons e es ih=>
   rw [all_cons,Qq] at h
   rw [zG h.1,any_cons,ih h.2]
   rfl
 have h2:∀ l:List (Bool × Sem Value),l.any (·.1) = false->(backTo pos l).any (·.1) = false:=by
  intro l hl
  unfold backTo
  rw [List.any_map]
  exact hl
 exact h2 _ h1
inductive T where
 | non | bl (b:Bool) | int (i:Int) | str (x:Str) | ty (n:String) | tup (xs:List T) | lst (xs:List T) | ref (a:Nat) | dct (kvs:List (Key × T)) | exc (C:Addr) (fs:List (Str × T))
inductive Cell where
 | lst (xs:List T) | dic (kvs:List (Key × T)) | ins (C:Addr) (fs:List (Str × T))
noncomputable abbrev Mem:=List Cell
noncomputable abbrev Ev:=List (Option T)
inductive Out (β:Type) where
 | ok (b:β) (M:Mem) | exn (C:Addr) (fs:List (Str × T)) (M:Mem) | bad
noncomputable def Out.bind {β γ:Type} (o:Out β) (k:β->Mem->Out γ):Out γ:=match o with
 | .ok b M=>k b M
 | .exn C fs M=>.exn C fs M
 | .bad=>.bad
theorem zmh {β γ:Type} (b:β) (M:Mem) (k:β->Mem->Out γ):(Out.ok b M).bind k = k b M:=rfl
theorem zl3 {β γ:Type} (k:β->Mem->Out γ):(Out.bad:Out β).bind k = .bad:=rfl
structure Sit where
 α:Nat->Addr
 M:Mem
 H:Hp
 hid:List Addr
def Sit.off (S:Sit) (p:Addr):Prop:=(∀ a,a < S.M.length->S.α a ≠ p)/\p ∉ S.hid
def KL (K:Frag) (a:Addr) (xs:List V):Prop:=
 ∃ (o:Obj) (its:Array Value) (n:Nat),K.lookup a = some o/\o.cls = .type "list"/\o.dict = none/\o.data = .seq its n/\its.size<=sizeLine/\Vals xs its.toList
inductive Rep (K:Frag) (S:Sit):T->V->Prop where
 | non:Rep K S .non .non
 | bl (b:Bool):Rep K S (.bl b) (.bl b)
 | int (i:Int):Rep K S (.int i) (.int i)
 | str (x:Str):Rep K S (.str x) (.str x)
 | ty (x:String):Rep K S (.ty x) (.ty x)
 | tup {ts:List T} {p:Addr} {vs:List V} (h:SqT K S.H p vs) (l:ts.length = vs.length) (r:∀ (i:Nat) t v,ts[i]? = some t->vs[i]? = some v->Rep K S t v):Rep K S (.tup ts) (.ref p)
 | lst {ts:List T} {p:Addr} {vs:List V} (h:(Rd S.H p (.lst vs)/\S.off p)\/KL K p vs) (l:ts.length = vs.length) (r:∀ (i:Nat) t v,ts[i]? = some t->vs[i]? = some v->Rep K S t v):Rep K S (.lst ts) (.ref p)
 | ref {a:Nat} (h:a < S.M.length):Rep K S (.ref a) (.ref (S.α a))
 | dct {kvs:List (Key × T)} {us:List (Key × V)} {p:Addr} {o:Obj} (h:S.H p = some (.frz o (.dK us))) (l:kvs.map (·.1) = us.map (·.1)) (r:∀ (i:Nat) t v,(kvs.map (·.2))[i]? = some t->(us.map (·.2))[i]? = some v->Rep K S t v):Rep K S (.dct kvs) (.ref p)
 | exc {C:Addr} {fs:List (Str × T)} {us:List (Str × V)} {p:Addr} {od:Option Addr} (h:S.H p = some (.ext (ExO p C od))) (hd:(od = none/\us = [])\/∃ d,od = some d/\S.H d = some (.xd us)) (l:fs.map (·.1) = us.map (·.1)) (r:∀ (i:Nat) t v,(fs.map (·.2))[i]? = some t->(us.map (·.2))[i]? = some v->Rep K S t v):Rep K S (.exc C fs) (.ref p)
def Reps (K:Frag) (S:Sit) (ts:List T) (vs:List V):Prop:=ts.length = vs.length/\∀ (i:Nat) t v,ts[i]? = some t->vs[i]? = some v->Rep K S t v
def RepF (K:Frag) (S:Sit) (fs:List (Str × T)) (us:List (Str × V)):Prop:=fs.map (·.1) = us.map (·.1)/\Reps K S (fs.map (·.2)) (us.map (·.2))
def RepK (K:Frag) (S:Sit) (fs:List (Key × T)) (us:List (Key × V)):Prop:=fs.map (·.1) = us.map (·.1)/\Reps K S (fs.map (·.2)) (us.map (·.2))
noncomputable def CellOk (K:Frag) (S:Sit) (p:Addr):Cell->Prop
 | .lst ts=>∃ vs,S.H p = some (.lst vs)/\Reps K S ts vs
 | .dic kvs=>∃ us,S.H p = some (.dK us)/\RepK K S kvs us
 | .ins C fs=>∃ dx us,S.H p = some (.ins C dx us)/\RepF K S fs us
structure MemOk (K:Frag) (S:Sit):Prop where
 cell:∀ a c,S.M[a]? = some c->CellOk K S (S.α a) c
 inj:∀ a b,a < S.M.length->b < S.M.length->S.α a = S.α b->a = b
 hd:∀ p ∈ S.hid,(∀ a,a < S.M.length->S.α a ≠ p)/\∃ vs,S.H p = some (.lst vs)
structure Grow (S S':Sit):Prop where
 le:S.M.length<=S'.M.length
 al:∀ a,a < S.M.length->S'.α a = S.α a
 fr:∀ a,S.M.length<=a->a < S'.M.length->S.H (S'.α a) = none
 kp:∀ b o,S.H b = some o->S.off b->S'.H b = some o
 hk:∀ p ∈ S.hid,p ∈ S'.hid/\S'.H p = S.H p
 hf:∀ p ∈ S'.hid,p ∈ S.hid\/S.H p = none
structure Stp (K:Frag) (S S':Sit):Prop extends Grow S S' where
 mok:MemOk K S'
variable {p:Addr} {c:Cell} {K:Frag} {ts:List T} {vs:List V} {S S':Sit} {t:T} {v:V}
section
variable {S'':Sit}
theorem MemOk.some (m:MemOk K S) {a:Nat} (h:a < S.M.length):∃ o,S.H (S.α a) = Option.some o/\Mut (Option.some o):=by
 have e:S.M[a]? = Option.some S.M[a]:=by simp [h]
 have c:=m.cell a _ e
 cases q:S.M[a] with
 | lst ts=>rw [q] at c;obtain ⟨vs,e,_⟩:=c;exact ⟨_,e,trivial⟩
 | dic ts=>rw [q] at c;obtain ⟨vs,e,_⟩:=c;exact ⟨_,e,trivial⟩
 | ins C fs=>rw [q] at c;obtain ⟨dx,vs,e,_⟩:=c;exact ⟨_,e,trivial⟩
theorem MemOk.off_of (m:MemOk K S) {o:Option HO} (e:S.H p = o) (h:¬ Mut o):S.off p:=by
 refine ⟨fun a ha z=>?_,fun z=>?_⟩
 ·obtain ⟨o',e',mu⟩:=m.some ha
  rw [z,e] at e'
  rw [e'] at h
  exact h mu
 ·obtain ⟨_,vs,q⟩:=m.hd p z
  rw [e] at q
  rw [q] at h
  exact h trivial
theorem MemOk.off_ext (m:MemOk K S) {φ:Heap->Prop} (e:S.H p = Option.some (.ext φ)):S.off p:=by
 refine ⟨fun a ha z=>?_,fun z=>?_⟩
 ·have ea:S.M[a]? = Option.some S.M[a]:=by simp [ha]
  have c:=m.cell a _ ea
  cases q:S.M[a] with
  | lst ts=>rw [q] at c;obtain ⟨vs,e',_⟩:=c;rw [z,e] at e';cases e'
  | dic ts=>rw [q] at c;obtain ⟨vs,e',_⟩:=c;rw [z,e] at e';cases e'
  | ins C fs=>rw [q] at c;obtain ⟨dx,vs,e',_⟩:=c;rw [z,e] at e';cases e'
 ·obtain ⟨_,vs,q⟩:=m.hd p z
  rw [e] at q;cases q
theorem MemOk.off_none (m:MemOk K S) (e:S.H p = none):S.off p:=m.off_of e (fun z=>z)
theorem Grow.tup (g:Grow S S') (m:MemOk K S) (h:SqT K S.H p vs):SqT K S'.H p vs:=by
 rcases h with (h | ⟨o,h⟩) | h
 ·exact .inl (.inl (g.kp _ _ h (m.off_of h (fun z=>z))))
 ·exact .inl (.inr ⟨o,g.kp _ _ h (m.off_of h (fun z=>z))⟩)
 ·exact .inr h
theorem Grow.off (g:Grow S S') {o:HO} (h:S.H p = some o) (f:S.off p):S'.off p:=by
 refine ⟨fun a ha z=>?_,fun z=>?_⟩
 ·by_cases hl:a < S.M.length
  ·rw [g.al a hl] at z;exact f.1 a hl z
  ·have:=g.fr a (Nat.le_of_not_lt hl) ha
   rw [z,h] at this
   cases this
 ·rcases g.hf p z with q | q
  ·exact f.2 q
  ·rw [h] at q;cases q
theorem Grow.rd (g:Grow S S') {u:HO} (h:Rd S.H p u) (f:S.off p):Rd S'.H p u/\S'.off p:=by
 rcases h with h | ⟨o,h⟩
 ·exact ⟨.inl (g.kp _ _ h f),g.off h f⟩
 ·exact ⟨.inr ⟨o,g.kp _ _ h f⟩,g.off h f⟩
theorem Rep.grow (m:MemOk K S) (g:Grow S S') (r:Rep K S t v):Rep K S' t v:=by
 induction r with
 | non=>exact .non
 | bl b=>exact .bl b
 | int b=>exact .int b
 | str b=>exact .str b
 | ty b=>exact .ty b
 | tup h l _ ih=>exact .tup (g.tup m h) l ih
 | lst h l _ ih=>
  refine .lst ?_ l ih
  rcases h with ⟨h,f⟩ | h
  ·exact .inl (g.rd h f)
  ·exact .inr h
 | ref h=>rw [← g.al _ h];exact .ref (Q5 h g.le)
 | dct h l _ ih=>exact .dct (g.kp _ _ h (m.off_of h (fun z=>z))) l ih
 | exc h hd l _ ih=>exact .exc (g.kp _ _ h (m.off_ext h)) (hd.imp (fun z=>z) fun ⟨d,a,b⟩=>⟨d,a,g.kp _ _ b (m.off_of b (fun z=>z))⟩) l ih
theorem Reps.grow (m:MemOk K S) (g:Grow S S') (r:Reps K S ts vs):Reps K S' ts vs:=⟨r.1,fun i t v e1 e2=>(r.2 i t v e1 e2).grow m g⟩
theorem RepF.grow (m:MemOk K S) (g:Grow S S') {ts:List (Str × T)} {vs:List (Str × V)} (r:RepF K S ts vs):RepF K S' ts vs:=⟨r.1,r.2.grow m g⟩
theorem RepK.grow (m:MemOk K S) (g:Grow S S') {ts:List (Key × T)} {vs:List (Key × V)} (r:RepK K S ts vs):RepK K S' ts vs:=⟨r.1,r.2.grow m g⟩
theorem Reps.nil:Reps K S [] []:=⟨rfl,fun _ _ _ e _=>by simp at e⟩
theorem Reps.cons (r:Rep K S t v) (rs:Reps K S ts vs):Reps K S (t :: ts) (v :: vs):=by
 refine ⟨by simp [rs.1],fun i a b e1 e2=>?_⟩
 cases i with
 | zero=>simp at e1 e2;subst e1;subst e2;exact r
 | succ i=>exact rs.2 i a b (by simpa using e1) (by simpa using e2)
theorem Reps.nil_inv (r:Reps K S ts []):ts = []:=List.length_eq_zero_iff.mp (by rw [r.1];rfl)
theorem Reps.consT (r:Reps K S (t :: ts) vs):∃ v vs',vs = v :: vs'/\Rep K S t v/\Reps K S ts vs':=by
 cases vs with
 | nil=>have:=r.1;simp at this
 | cons v vs'=>exact ⟨v,vs',rfl,r.2 0 t v rfl rfl,by have:=r.1;simpa using this,fun i a b e1 e2=>r.2 (i + 1) a b (by simpa using e1) (by simpa using e2)⟩
theorem Reps.nilT (r:Reps K S [] vs):vs = []:=List.length_eq_zero_iff.mp (by rw [← r.1];rfl)
theorem Reps.app {ts':List T} {vs':List V} (r:Reps K S ts vs) (r':Reps K S ts' vs'):Reps K S (ts ++ ts') (vs ++ vs'):=by
 induction ts generalizing vs with
 | nil=>rw [r.nilT];exact r'
 | cons t ts ih=>
  obtain ⟨v,vs1,rfl,r1,r2⟩:=r.consT
  exact (ih r2).cons r1
theorem Reps.get (r:Reps K S ts vs) {i:Nat} (e:ts[i]? = some t):∃ v,vs[i]? = some v/\Rep K S t v:=by
 have hi:i < vs.length:=by rw [← r.1];exact (List.getElem?_eq_some_iff.mp e).1
 have e2:vs[i]? = some vs[i]:=by simp [hi]
 exact ⟨_,e2,r.2 i t _ e e2⟩
theorem Reps.set (r:Reps K S ts vs) (q:Rep K S t v) (j:Nat):Reps K S (ts.set j t) (vs.set j v):=by
 refine ⟨by simp [r.1],fun i a b e1 e2=>?_⟩
 rw [Qb] at e1 e2
 by_cases h:j = i
 ·subst h
  by_cases hl:j < ts.length
  ·rw [if_pos rfl,if_pos hl] at e1
   rw [if_pos rfl,if_pos (by rw [← r.1];exact hl)] at e2
   cases e1;cases e2;exact q
  ·rw [if_pos rfl,if_neg hl] at e1;cases e1
 ·rw [if_neg h] at e1 e2
  exact r.2 i a b e1 e2
theorem Reps.sub (r:Reps K S ts vs) (a b:Nat):Reps K S ((ts.drop a).take b) ((vs.drop a).take b):=by
 refine ⟨by simp [r.1],fun i x y e1 e2=>?_⟩
 rw [getElem?_take] at e1 e2
 split at e1
 ·rename_i h
  rw [if_pos h] at e2
  rw [getElem?_drop] at e1 e2
  exact r.2 _ x y e1 e2
 ·cases e1
theorem CellOk.grow (m:MemOk K S) (g:Grow S S') (e:S'.H p = S.H p) (h:CellOk K S p c):CellOk K S' p c:=by
 cases c with
 | lst ts=>obtain ⟨vs,q,r⟩:=h;exact ⟨vs,by rw [e];exact q,r.grow m g⟩
 | dic ts=>obtain ⟨vs,q,r⟩:=h;exact ⟨vs,by rw [e];exact q,r.grow m g⟩
 | ins C ts=>obtain ⟨dx,vs,q,r⟩:=h;exact ⟨dx,vs,by rw [e];exact q,r.grow m g⟩
theorem Stp.refl (m:MemOk K S):Stp K S S:=⟨⟨Q3 _,fun _ _=>rfl,fun a h1 h2=>absurd (Q5 h2 h1) (Qn _),fun _ _ e _=>e,fun _ h=>⟨h,rfl⟩,fun _ h=>.inl h⟩,m⟩
theorem Stp.trans (a:Stp K S S') (b:Stp K S' S''):Stp K S S'':=by
 have nn:∀ p,S'.H p = none->S.H p = none:=fun p hn=>by
  cases q:S.H p with
  | none=>rfl
  | some o=>
   by_cases f:S.off p
   ·rw [a.kp _ _ q f] at hn;cases hn
   ·exfalso
    apply f
    refine ⟨fun c hc z=>?_,fun z=>?_⟩
    ·have h3:c < S'.M.length:=Q5 hc a.le
     obtain ⟨o',e',_⟩:=a.mok.some h3
     rw [a.al c hc,z,hn] at e'
     cases e'
    ·rw [(a.hk p z).2,q] at hn;cases hn
 refine ⟨⟨Qi a.le b.le,fun i hi=>(b.al i (Q5 hi a.le)).trans (a.al i hi),fun i h1 h2=>?_,fun p o e f=>b.kp _ _ (a.kp _ _ e f) (a.off e f),fun p h=>⟨(b.hk p (a.hk p h).1).1,(b.hk p (a.hk p h).1).2.trans (a.hk p h).2⟩,fun p h=>?_⟩,b.mok⟩
 ·by_cases hl:i < S'.M.length
  ·rw [b.al i hl];exact a.fr i h1 hl
  ·exact nn _ (b.fr i (Nat.le_of_not_lt hl) h2)
 ·rcases b.hf p h with q | q
  ·exact a.hf p q
  ·exact .inr (nn p q)
theorem Stp.new (m:MemOk K S) (hp:S.H p = none) (o:HO):Stp K S ⟨S.α,S.M,upd S.H p o,S.hid⟩:=by
 have g:Grow S ⟨S.α,S.M,upd S.H p o,S.hid⟩:=⟨Q3 _,fun _ _=>rfl,fun a h1 h2=>absurd (Q5 h2 h1) (Qn _),fun b u e _=>by show upd S.H p o b = _;rw [qe (zi e hp)];exact e,fun q h=>⟨h,by obtain ⟨_,vs,e⟩:=m.hd q h;exact qe (zi e hp)⟩,fun q h=>.inl h⟩
 refine ⟨g,⟨fun a c e=>?_,m.inj,fun q h=>?_⟩⟩
 rotate_left
 ·obtain ⟨h1,vs,e⟩:=m.hd q h
  exact ⟨h1,vs,(qe (zi e hp)).trans e⟩
 refine (m.cell a c e).grow m g ?_
 have ha:a < S.M.length:=(List.getElem?_eq_some_iff.mp e).1
 exact qe ((m.off_none hp).1 a ha)
noncomputable def Sit.more (S:Sit) (p:Addr) (o:HO) (c:Cell):Sit:=⟨fun a=>if a = S.M.length then p else S.α a,S.M ++ [c],upd S.H p o,S.hid⟩
theorem Grow.more (m:MemOk K S) (hp:S.H p = none) (o:HO) (c:Cell):Grow S (S.more p o c):=by
 refine ⟨by show _<=(S.M ++ [c]).length;simp,fun a h=>if_neg (Qj h),fun a h1 h2=>?_,fun b u e _=>?_,fun q h=>⟨h,by obtain ⟨_,vs,e⟩:=m.hd q h;exact qe (zi e hp)⟩,fun q h=>.inl h⟩
 ·have h3:a < (S.M ++ [c]).length:=h2
  have:a = S.M.length:=by simp at h3;omega
  show S.H (if a = S.M.length then p else S.α a) = none
  rw [if_pos this];exact hp
 ·show upd S.H p o b = _;rw [qe (zi e hp)];exact e
theorem Stp.more (m:MemOk K S) (hp:S.H p = none) (o:HO) (c:Cell) (hc:CellOk K (S.more p o c) p c):Stp K S (S.more p o c):=by
 have g:=Grow.more m hp o c
 refine ⟨g,⟨fun a d e=>?_,fun a b h1 h2 e=>?_,fun q h=>?_⟩⟩
 rotate_right
 ·obtain ⟨h1,vs,e⟩:=m.hd q h
  refine ⟨fun a ha z=>?_,vs,(qe (zi e hp)).trans e⟩
  have z':(if a = S.M.length then p else S.α a) = q:=z
  by_cases hl:a = S.M.length
  ·rw [if_pos hl] at z';rw [← z',hp] at e;cases e
  ·rw [if_neg hl] at z'
   have h3:a < (S.M ++ [c]).length:=ha
   exact h1 a (by simp at h3;omega) z'
 ·have e':(S.M ++ [c])[a]? = some d:=e
  by_cases ha:a < S.M.length
  ·rw [Q6 ha] at e'
   show CellOk K _ (if a = S.M.length then p else S.α a) d
   rw [if_neg (Qj ha)]
   exact (m.cell a d e').grow m g (qe ((m.off_none hp).1 a ha))
  ·rw [Q7 (Nat.le_of_not_lt ha)] at e'
   have h3:a - S.M.length = 0:=by
    cases q:a - S.M.length with
    | zero=>rfl
    | succ k=>rw [q] at e';simp at e'
   rw [h3] at e'
   cases e'
   show CellOk K _ (if a = S.M.length then p else S.α a) c
   rw [if_pos (by omega)]
   exact hc
 ·have h1':a < (S.M ++ [c]).length:=h1
  have h2':b < (S.M ++ [c]).length:=h2
  have e':(if a = S.M.length then p else S.α a) = (if b = S.M.length then p else S.α b):=e
  simp at h1' h2'
  by_cases ha:a = S.M.length
  ·by_cases hb:b = S.M.length
   ·omega
   ·rw [if_pos ha,if_neg hb] at e'
    exact absurd e'.symm ((m.off_none hp).1 b (by omega))
  ·by_cases hb:b = S.M.length
   ·rw [if_neg ha,if_pos hb] at e'
    exact absurd e' ((m.off_none hp).1 a (by omega))
   ·rw [if_neg ha,if_neg hb] at e'
    exact m.inj a b (by omega) (by omega) e'
noncomputable def Sit.put (S:Sit) (a:Nat) (o:HO) (c:Cell):Sit:=⟨S.α,S.M.set a c,upd S.H (S.α a) o,S.hid⟩
theorem Grow.put (m:MemOk K S) {a:Nat} (ha:a < S.M.length) (o:HO) (c:Cell):Grow S (S.put a o c):=by
 refine ⟨by show _<=(S.M.set a c).length;simp,fun _ _=>rfl,fun b h1 h2=>?_,fun b u e f=>?_,fun q h=>⟨h,qe (Ne.symm ((m.hd q h).1 a ha))⟩,fun q h=>.inl h⟩
 ·have h3:b < (S.M.set a c).length:=h2
  simp at h3
  exact absurd (Q5 h3 h1) (Qn _)
 ·show upd S.H (S.α a) o b = _
  rw [qe (Ne.symm (f.1 a ha))];exact e
theorem Stp.put (m:MemOk K S) {a:Nat} (ha:a < S.M.length) (o:HO) (c:Cell) (hc:CellOk K (S.put a o c) (S.α a) c):Stp K S (S.put a o c):=by
 have g:=Grow.put m ha o c
 refine ⟨g,⟨fun b d e=>?_,fun i j h1 h2 e=>?_,fun q h=>?_⟩⟩
 rotate_right
 ·obtain ⟨h1,vs,e⟩:=m.hd q h
  refine ⟨fun b hb z=>?_,vs,(qe (Ne.symm (h1 a ha))).trans e⟩
  have h3:b < (S.M.set a c).length:=hb
  simp at h3
  exact h1 b h3 z
 ·have e':(S.M.set a c)[b]? = some d:=e
  rw [Qb] at e'
  by_cases h:a = b
  ·subst h
   rw [if_pos rfl,if_pos ha] at e'
   cases e'
   exact hc
  ·rw [if_neg h] at e'
   refine (m.cell b d e').grow m g (qe fun z=>h ?_)
   exact (m.inj b a (List.getElem?_eq_some_iff.mp e').1 ha z).symm
 ·have h1':i < (S.M.set a c).length:=h1
  have h2':j < (S.M.set a c).length:=h2
  simp at h1' h2'
  exact m.inj i j h1' h2' e
end
def EvR (K:Frag) (S:Sit) (στ:Ev) (σ:L2.St):Prop:=στ.length = σ.length/\∀ (i:Nat) t,στ[i]? = some (some t)->∃ v,σ[i]? = some (some v)/\Rep K S t v
class Mo (K:Frag) {β γ:Type} (R:Sit->β->γ->Prop):Prop where
 mo:∀ {S S' b c},MemOk K S->Stp K S S'->R S b c->R S' b c
noncomputable def UnR:Sit->Unit->Unit->Prop:=fun _ _ _=>True
noncomputable def EqR {β:Type}:Sit->β->β->Prop:=fun _ b c=>b = c
noncomputable def PrR {A AV B BV:Type} (RA:Sit->A->AV->Prop) (RB:Sit->B->BV->Prop):Sit->A × B->AV × BV->Prop:=fun S a v=>RA S a.1 v.1/\RB S a.2 v.2
instance (K):Mo K (Rep K):=⟨fun m s r=>r.grow m s.toGrow⟩
instance (K):Mo K (Reps K):=⟨fun m s r=>r.grow m s.toGrow⟩
instance (K):Mo K (EvR K):=⟨fun m s r=>⟨r.1,fun i t e=>let ⟨v,e',q⟩:=r.2 i t e;⟨v,e',q.grow m s.toGrow⟩⟩⟩
instance (K):Mo K UnR:=⟨fun _ _ r=>r⟩
instance (K) {β:Type}:Mo K (EqR (β:=β)):=⟨fun _ _ r=>r⟩
instance (K) {A AV B BV:Type} (RA:Sit->A->AV->Prop) (RB:Sit->B->BV->Prop) [Mo K RA] [Mo K RB]:Mo K (PrR RA RB):=⟨fun m s r=>⟨Mo.mo m s r.1,Mo.mo m s r.2⟩⟩
def zkK (K:Frag) (S:Sit) (fs:List (Str × T)) (od:Option Addr):Prop:=(fs = []/\od = none)\/∃ d us,od = some d/\S.H d = some (.xd us)/\RepF K S fs us
def Fin {β γ:Type} (XE:XK) (R:Sit->β->γ->Prop) (K:Frag) (S:Sit) (o:Out β) (Q:γ->Hp->Prop):Prop:=match o with
 | .ok b M'=>∀ S' c,S'.M = M'->Stp K S S'->R S' b c->Q c S'.H
 | .exn C fs M'=>∀ S' od,S'.M = M'->Stp K S S'->zkK K S' fs od->XE (.ref C) od S'.H
 | .bad=>False
variable {S1:Sit} {XE:XK}
theorem Fin.later {β γ:Type} {R:Sit->β->γ->Prop} {o:Out β} {Q:γ->Hp->Prop} (s:Stp K S S1) (h:Fin XE R K S o Q):Fin XE R K S1 o Q:=by
 cases o with
 | ok b M'=>exact fun S' c e s' r=>h S' c e (s.trans s') r
 | exn C fs M'=>exact fun S' c e s' r=>h S' c e (s.trans s') r
 | bad=>exact h
theorem Fin.mono {β γ:Type} {R:Sit->β->γ->Prop} {o:Out β} {Q Q':γ->Hp->Prop} (i:∀ c H,Q c H->Q' c H) (h:Fin XE R K S o Q):Fin XE R K S o Q':=by
 cases o with
 | ok b M'=>exact fun S' c e s' r=>i _ _ (h S' c e s' r)
 | exn C fs M'=>exact h
 | bad=>exact h
def LN {A AV β γ:Type} (XE:XK) (R:Sit->β->γ->Prop) (K:Frag) (RA:Sit->A->AV->Prop) (k:A->Ev->Mem->Out β) (av:AV) (σ:L2.St) (H:Hp) (Q:γ->Hp->Prop):Prop:=
 ∃ (S:Sit) (στ:Ev) (a:A),S.H = H/\MemOk K S/\EvR K S στ σ/\RA S a av/\Fin XE R K S (k a στ S.M) Q
def L0 {A AV β γ:Type} (XE:XK) (R:Sit->β->γ->Prop) (K:Frag) (RA:Sit->A->AV->Prop) (k:A->Mem->Out β) (av:AV) (H:Hp) (Q:γ->Hp->Prop):Prop:=
 ∃ (S:Sit) (a:A),S.H = H/\MemOk K S/\RA S a av/\Fin XE R K S (k a S.M) Q
variable {H:Hp} {σ:L2.St}
section
theorem LN.bind {A AV B BV β γ:Type} {R:Sit->β->γ->Prop} {RA:Sit->A->AV->Prop} {RB:Sit->B->BV->Prop} [Mo K RA] {f:A->Ev->Mem->Out B} {k:A->B->Ev->Mem->Out β} {av:AV} {Q:γ->Hp->Prop}
 (h:LN XE R K RA (fun a σ M=>(f a σ M).bind fun b M1=>k a b σ M1) av σ H Q) :
  LN XE RB K RA f av σ H (fun bv H1=>LN XE R K (PrR RA RB) (fun ab=>k ab.1 ab.2) (av,bv) σ H1 Q):=by
 obtain ⟨S,στ,a,e,m,ev,ra,fin⟩:=h
 refine ⟨S,στ,a,e,m,ev,ra,?_⟩
 replace fin:Fin XE R K S ((f a στ S.M).bind fun b M1=>k a b στ M1) Q:=fin
 cases q:f a στ S.M with
 | bad=>rw [q] at fin;exact fin
 | exn C fs M'=>rw [q] at fin;exact fin
 | ok b M1=>
  rw [q] at fin
  intro S1 c e1 s1 r1
  refine ⟨S1,στ,(a,b),rfl,s1.mok,Mo.mo m s1 ev,⟨Mo.mo m s1 ra,r1⟩,?_⟩
  rw [e1]
  exact fin.later s1
theorem LN.l0 {A AV β γ:Type} {R:Sit->β->γ->Prop} {RA:Sit->A->AV->Prop} {k:A->Mem->Out β} {av:AV} {Q:γ->Hp->Prop} (h:LN XE R K RA (fun a _ M=>k a M) av σ H Q):L0 XE R K RA k av H Q:=by
 obtain ⟨S,στ,a,e,m,ev,ra,fin⟩:=h
 exact ⟨S,a,e,m,ra,fin⟩
theorem LN.mono {A AV β γ:Type} {R:Sit->β->γ->Prop} {RA:Sit->A->AV->Prop} {k:A->Ev->Mem->Out β} {av:AV} {Q Q':γ->Hp->Prop} (h:LN XE R K RA k av σ H Q) (i:∀ c H,Q c H->Q' c H):LN XE R K RA k av σ H Q':=by
 obtain ⟨S,στ,a,e,m,ev,ra,fin⟩:=h
 exact ⟨S,στ,a,e,m,ev,ra,fin.mono i⟩
theorem LN.env {A AV β γ:Type} {R:Sit->β->γ->Prop} {RA:Sit->A->AV->Prop} {f:Ev->Mem->Out β} {av:AV} {Q:γ->Hp->Prop} (h:LN XE R K RA (fun _ σ M=>f σ M) av σ H Q):LN XE R K UnR (fun _ σ M=>f σ M) () σ H Q:=by
 obtain ⟨S,στ,a,e,m,ev,ra,fin⟩:=h
 exact ⟨S,στ,(),e,m,ev,trivial,fin⟩
end
noncomputable def lE (XE:XK) (K:Frag) (f:Ev->Mem->Out T):TE:=fun σ H Q=>LN XE (Rep K) K UnR (fun _ σ M=>f σ M) () σ H Q
noncomputable def lT (XE:XK) (K:Frag) (f:Ev->Mem->Out Bool):TT:=fun σ H Q=>LN XE EqR K UnR (fun _ σ M=>f σ M) () σ H Q
noncomputable def lA (XE:XK) (K:Frag) (f:Ev->Mem->Out (List T)):TA:=fun σ H Q=>LN XE (Reps K) K UnR (fun _ σ M=>f σ M) () σ H Q
def GE (X:Cx) (XE:XK) (e:Expr) (f:Ev->Mem->Out T):Prop:=PE X e (lE XE X.K f)
def GT (X:Cx) (XE:XK) (e:Expr) (f:Ev->Mem->Out Bool):Prop:=PT X e (lT XE X.K f)
def GW (X:Cx) (XE:XK) (e:Expr) (f:Ev->Mem->Out Bool):Prop:=PW X e (lT XE X.K f)
def GA (X:Cx) (XE:XK) (es:List Expr) (f:Ev->Mem->Out (List T)):Prop:=PA X es (lA XE X.K f)
variable {X:Cx}
theorem PE.imp {t t':TE} (h:PE X e t) (i:∀ σ H Q,t' σ H Q->t σ H Q):PE X e t':=fun pins s σ H Q I q=>h pins s σ H Q I (i σ H Q q)
variable {t':TT}
theorem PT.imp {t:TT} (h:PT X e t) (i:∀ σ H Q,t' σ H Q->t σ H Q):PT X e t':=fun pins s σ H Q I q=>h pins s σ H Q I (i σ H Q q)
theorem PW.imp {t:TT} (h:PW X e t) (i:∀ σ H Q,t' σ H Q->t σ H Q):PW X e t':=fun whole pins s σ H Q I q=>h whole pins s σ H Q I (i σ H Q q)
theorem PA.imp {e:List Expr} {t t':TA} (h:PA X e t) (i:∀ σ H Q,t' σ H Q->t σ H Q):PA X e t':=fun pos pins s σ H Q I q=>h pos pins s σ H Q I (i σ H Q q)
theorem PS.imp {e:Stmt} {t t':TS} (h:PS X e t) (i:∀ D σ H,t' D σ H->t D σ H):PS X e t':=fun pins s σ H D I q=>h pins s σ H D I (i D σ H q)
theorem PSs.imp {e:List Stmt} {t t':TS} (h:PSs X e t) (i:∀ D σ H,t' D σ H->t D σ H):PSs X e t':=fun pins s σ H D I q=>h pins s σ H D I (i D σ H q)
noncomputable def zb (i:Nat):Ev->Mem->Out T:=fun σ M=>match σ[i]? with
 | some (some t)=>.ok t M
 | _=>.bad
noncomputable def eC (t:T):Ev->Mem->Out T:=fun _ M=>.ok t M
noncomputable def eOp (o:T->T->Mem->Out T) (f g:Ev->Mem->Out T):Ev->Mem->Out T:=fun σ M=>(f σ M).bind fun x M1=>(g σ M1).bind fun y M2=>o x y M2
noncomputable def eUn (o:T->Mem->Out T) (f:Ev->Mem->Out T):Ev->Mem->Out T:=fun σ M=>(f σ M).bind fun x M1=>o x M1
noncomputable def blT {β:Type} (t:T) (M:Mem) (k:Bool->Mem->Out β):Out β:=match t with
 | .bl b=>k b M
 | _=>.bad
noncomputable def zD (f:Ev->Mem->Out T):Ev->Mem->Out Bool:=fun σ M=>(f σ M).bind fun x M1=>blT x M1 fun b M2=>.ok b M2
noncomputable def zfw (f g:Ev->Mem->Out Bool):Ev->Mem->Out Bool:=fun σ M=>(f σ M).bind fun c M1=>if c = true then g σ M1 else .ok false M1
noncomputable def zdJ (f g:Ev->Mem->Out Bool):Ev->Mem->Out Bool:=fun σ M=>(f σ M).bind fun c M1=>if c = true then .ok true M1 else g σ M1
noncomputable def zcg (f:Ev->Mem->Out Bool):Ev->Mem->Out Bool:=fun σ M=>(f σ M).bind fun c M1=>.ok (!c) M1
noncomputable def zek (f g:Ev->Mem->Out T):Ev->Mem->Out T:=fun σ M=>(f σ M).bind fun x M1=>blT x M1 fun b M2=>if b = true then g σ M2 else .ok (.bl false) M2
noncomputable def eOr (f g:Ev->Mem->Out T):Ev->Mem->Out T:=fun σ M=>(f σ M).bind fun x M1=>blT x M1 fun b M2=>if b = true then .ok (.bl true) M2 else g σ M2
noncomputable def zhK (f:Ev->Mem->Out T):Ev->Mem->Out T:=fun σ M=>(f σ M).bind fun x M1=>blT x M1 fun b M2=>.ok (.bl (!b)) M2
noncomputable def eIf (c:Ev->Mem->Out Bool) (f g:Ev->Mem->Out T):Ev->Mem->Out T:=fun σ M=>(c σ M).bind fun b M1=>if b = true then f σ M1 else g σ M1
noncomputable def zd:Ev->Mem->Out (List T):=fun _ M=>.ok [] M
noncomputable def qa (f:Ev->Mem->Out T) (g:Ev->Mem->Out (List T)):Ev->Mem->Out (List T):=fun σ M=>(f σ M).bind fun x M1=>(g σ M1).bind fun xs M2=>.ok (x :: xs) M2
noncomputable def zca (g:Ev->Mem->Out (List T)):Ev->Mem->Out T:=fun σ M=>(g σ M).bind fun xs M1=>if xs.length<=sizeLine then .ok (.tup xs) M1 else .bad
noncomputable def qF (g:Ev->Mem->Out (List T)):Ev->Mem->Out (List T):=fun σ M=>(g σ M).bind fun xs M1=>if xs.length<=sizeLine then .ok xs M1 else .bad
noncomputable def eFz (g:Ev->Mem->Out (List T)):Ev->Mem->Out T:=fun σ M=>(g σ M).bind fun xs M1=>.ok (.lst xs) M1
noncomputable def eTk (g:Ev->Mem->Out (List T)):Ev->Mem->Out T:=fun σ M=>(g σ M).bind fun xs M1=>.ok (.ref M1.length) (M1 ++ [.lst xs])
noncomputable def ze (f:List T->Mem->Out T) (g:Ev->Mem->Out (List T)):Ev->Mem->Out T:=fun σ M=>(g σ M).bind fun ts M1=>f ts M1
noncomputable def zbk (o o':T->T->Mem->Out T) (f g h:Ev->Mem->Out T):Ev->Mem->Out T:=fun σ M=>(f σ M).bind fun x M1=>(g σ M1).bind fun y M2=>(o x y M2).bind fun z M3=>blT z M3 fun b M4=>if b = true then (h σ M4).bind fun w M5=>o' y w M5 else .ok (.bl false) M4
noncomputable def lR2 (XE:XK) (K:Frag) (o:T->T->Mem->Out T):R2:=fun x y H Q=>L0 XE (Rep K) K (PrR (Rep K) (Rep K)) (fun a M=>o a.1 a.2 M) (x,y) H Q
noncomputable def lRN (XE:XK) (K:Frag) (o:List T->Mem->Out T):List V->Hp->VK->Prop:=fun xs H Q=>L0 XE (Rep K) K (Reps K) o xs H Q
def FinL (XE:XK) (K:Frag) (S:Sit) (o:Out (List T)) (Q:VK):Prop:=match o with
 | .ok xs M'=>∀ S' p vs,S'.M = M'->Stp K S S'->S.H p = none->p ∈ S'.hid->S'.H p = some (.lst vs)->Reps K S' xs vs->Q (.ref p) S'.H
 | .exn C fs M'=>∀ S' od,S'.M = M'->Stp K S S'->zkK K S' fs od->XE (.ref C) od S'.H
 | .bad=>False
variable {Q:VK}
theorem FinL.later {o:Out (List T)} (s:Stp K S S1) (h:FinL XE K S o Q):FinL XE K S1 o Q:=by
 have nn:∀ p,S1.H p = none->S.H p = none:=fun p hn=>by
  cases q:S.H p with
  | none=>rfl
  | some o=>
   by_cases f:S.off p
   ·rw [s.kp _ _ q f] at hn;cases hn
   ·exfalso
    apply f
    refine ⟨fun c hc z=>?_,fun z=>?_⟩
    ·have h3:c < S1.M.length:=Q5 hc s.le
     obtain ⟨o',e',_⟩:=s.mok.some h3
     rw [s.al c hc,z,hn] at e'
     cases e'
    ·rw [(s.hk p z).2,q] at hn;cases hn
 cases o with
 | ok b M'=>exact fun S' p vs e s' f=>h S' p vs e (s.trans s') (nn p f)
 | exn C fs M'=>exact fun S' c e s' r=>h S' c e (s.trans s') r
 | bad=>exact h
noncomputable def lL (XE:XK) (K:Frag) (f:Ev->Mem->Out (List T)):TE:=fun σ H Q=>∃ (S:Sit) (στ:Ev),S.H = H/\MemOk K S/\EvR K S στ σ/\FinL XE K S (f στ S.M) Q
def GL (X:Cx) (XE:XK) (e:Expr) (f:Ev->Mem->Out (List T)):Prop:=PE X e (lL XE X.K f)
variable {q:Addr} {h hh:List Addr} {xs:List T}
section
noncomputable def Sit.show (S':Sit) (h:List Addr):Sit:=⟨S'.α,S'.M,S'.H,h⟩
theorem Rep.show (sub:∀ p ∈ h,p ∈ S'.hid) (r:Rep K S' t v):Rep K (S'.show h) t v:=by
 induction r with
 | non=>exact .non
 | bl b=>exact .bl b
 | int b=>exact .int b
 | str b=>exact .str b
 | ty b=>exact .ty b
 | tup h l _ ih=>exact .tup h l ih
 | lst h l _ ih=>
  refine .lst ?_ l ih
  rcases h with ⟨h,f⟩ | h
  ·exact .inl ⟨h,f.1,fun z=>f.2 (sub _ z)⟩
  ·exact .inr h
 | ref h=>exact .ref (S:=S'.show _) h
 | dct h l _ ih=>exact .dct h l ih
 | exc h hd l _ ih=>exact .exc h hd l ih
theorem Reps.show (sub:∀ p ∈ h,p ∈ S'.hid) (r:Reps K S' ts vs):Reps K (S'.show h) ts vs:=⟨r.1,fun i t v e1 e2=>(r.2 i t v e1 e2).show sub⟩
theorem CellOk.show (sub:∀ p ∈ h,p ∈ S'.hid) (q:CellOk K S' p c):CellOk K (S'.show h) p c:=by
 cases c with
 | lst ts=>obtain ⟨vs,q,r⟩:=q;exact ⟨vs,q,r.show sub⟩
 | dic ts=>obtain ⟨vs,q,r⟩:=q;exact ⟨vs,q,r.1,r.2.show sub⟩
 | ins C ts=>obtain ⟨dx,vs,q,r⟩:=q;exact ⟨dx,vs,q,r.1,r.2.show sub⟩
theorem Stp.show (s:Stp K S S'):Stp K S (S'.show S.hid):=by
 have sub:∀ p ∈ S.hid,p ∈ S'.hid:=fun p h=>(s.hk p h).1
 exact ⟨⟨s.le,s.al,s.fr,s.kp,fun p h=>⟨h,(s.hk p h).2⟩,fun p h=>.inl h⟩,⟨fun a c e=>(s.mok.cell a c e).show sub,s.mok.inj,fun p h=>s.mok.hd p (sub p h)⟩⟩
theorem zfg (s:Stp K S S') (hn:S.H p = none) (m:MemOk K S) (hp:p ∈ S'.hid) (e:S'.H p = some (.lst vs)) (r:Reps K S' xs vs):Rep K (S'.show S.hid) (.lst xs) (.ref p):=by
 have sub:∀ p ∈ S.hid,p ∈ S'.hid:=fun p h=>(s.hk p h).1
 refine .lst (.inl ⟨.inl e,(s.mok.hd p hp).1,fun z=>?_⟩) r.1 (r.show sub).2
 obtain ⟨_,us,q⟩:=m.hd p z
 rw [hn] at q
 cases q
noncomputable def Sit.track (S':Sit) (p:Addr) (xs:List T) (h:List Addr):Sit:=⟨fun a=>if a = S'.M.length then p else S'.α a,S'.M ++ [.lst xs],S'.H,h⟩
theorem Rep.track (hp:p ∈ S'.hid) (sub:∀ p ∈ hh,p ∈ S'.hid) (r:Rep K S' t v):Rep K (S'.track p xs hh) t v:=by
 induction r with
 | non=>exact .non
 | bl b=>exact .bl b
 | int b=>exact .int b
 | str b=>exact .str b
 | ty b=>exact .ty b
 | tup h l _ ih=>exact .tup h l ih
 | lst h l _ ih=>
  refine .lst ?_ l ih
  rcases h with ⟨h,f⟩ | h
  ·refine .inl ⟨h,fun a ha z=>?_,fun z=>f.2 (sub _ z)⟩
   have z':(if a = S'.M.length then p else S'.α a) = _:=z
   by_cases hl:a = S'.M.length
   ·rw [if_pos hl] at z';rw [← z'] at f;exact f.2 hp
   ·rw [if_neg hl] at z'
    have h3:a < (S'.M ++ [Cell.lst xs]).length:=ha
    exact f.1 a (by simp at h3;omega) z'
  ·exact .inr h
 | @ref a h=>
  have:S'.α a = (S'.track p xs hh).α a:=(if_neg (Qj h)).symm
  rw [this]
  exact .ref (by show a < (S'.M ++ [Cell.lst xs]).length;simp;omega)
 | dct h l _ ih=>exact .dct h l ih
 | exc h hd l _ ih=>exact .exc h hd l ih
theorem Reps.track (hp:p ∈ S'.hid) (sub:∀ p ∈ h,p ∈ S'.hid) (r:Reps K S' ts vs):Reps K (S'.track p xs h) ts vs:=⟨r.1,fun i t v e1 e2=>(r.2 i t v e1 e2).track hp sub⟩
theorem CellOk.track (hp:p ∈ S'.hid) (sub:∀ p ∈ h,p ∈ S'.hid) (o:CellOk K S' q c):CellOk K (S'.track p xs h) q c:=by
 cases c with
 | lst ts=>obtain ⟨vs,q,r⟩:=o;exact ⟨vs,q,r.track hp sub⟩
 | dic ts=>obtain ⟨vs,q,r⟩:=o;exact ⟨vs,q,r.1,r.2.track hp sub⟩
 | ins C ts=>obtain ⟨dx,vs,q,r⟩:=o;exact ⟨dx,vs,q,r.1,r.2.track hp sub⟩
theorem Stp.track (s:Stp K S S') (m:MemOk K S) (hn:S.H p = none) (hp:p ∈ S'.hid) (e:S'.H p = some (.lst vs)) (r:Reps K S' xs vs):Stp K S (S'.track p xs S.hid):=by
 have sub:∀ p ∈ S.hid,p ∈ S'.hid:=fun p h=>(s.hk p h).1
 have lt:∀ a,a < S'.M.length->(S'.track p xs S.hid).α a = S'.α a:=fun a h=>if_neg (Qj h)
 refine ⟨⟨Qi s.le (by show _<=(S'.M ++ [Cell.lst xs]).length;simp),fun a h=>(lt a (Q5 h s.le)).trans (s.al a h),fun a h1 h2=>?_,s.kp,fun p h=>⟨h,(s.hk p h).2⟩,fun p h=>.inl h⟩,⟨fun a c e2=>?_,fun a b h1 h2 e2=>?_,fun q h=>?_⟩⟩
 ·by_cases hl:a < S'.M.length
  ·rw [lt a hl];exact s.fr a h1 hl
  ·have h3:a < (S'.M ++ [Cell.lst xs]).length:=h2
   have:a = S'.M.length:=by simp at h3;omega
   show S.H (if a = S'.M.length then p else S'.α a) = none
   rw [if_pos this];exact hn
 ·have e':(S'.M ++ [Cell.lst xs])[a]? = some c:=e2
  by_cases ha:a < S'.M.length
  ·rw [Q6 ha] at e'
   rw [lt a ha]
   exact (s.mok.cell a c e').track hp sub
  ·rw [Q7 (Nat.le_of_not_lt ha)] at e'
   have h3:a - S'.M.length = 0:=by
    cases q:a - S'.M.length with
    | zero=>rfl
    | succ k=>rw [q] at e';simp at e'
   rw [h3] at e'
   cases e'
   show CellOk K _ (if a = S'.M.length then p else S'.α a) _
   rw [if_pos (by omega)]
   exact ⟨vs,e,r.track hp sub⟩
 ·have h1':a < (S'.M ++ [Cell.lst xs]).length:=h1
  have h2':b < (S'.M ++ [Cell.lst xs]).length:=h2
  have e':(if a = S'.M.length then p else S'.α a) = (if b = S'.M.length then p else S'.α b):=e2
  simp at h1' h2'
  by_cases ha:a = S'.M.length
  ·by_cases hb:b = S'.M.length
   ·omega
   ·rw [if_pos ha,if_neg hb] at e'
    exact absurd e'.symm ((s.mok.hd p hp).1 b (by omega))
  ·by_cases hb:b = S'.M.length
   ·rw [if_neg ha,if_pos hb] at e'
    exact absurd e' ((s.mok.hd p hp).1 a (by omega))
   ·rw [if_neg ha,if_neg hb] at e'
    exact s.mok.inj a b (by omega) (by omega) e'
 ·obtain ⟨h1,us,q1⟩:=s.mok.hd q (sub q h)
  refine ⟨fun a ha z=>?_,us,q1⟩
  have z':(if a = S'.M.length then p else S'.α a) = q:=z
  have h3:a < (S'.M ++ [Cell.lst xs]).length:=ha
  by_cases hl:a = S'.M.length
  ·rw [if_pos hl] at z'
   obtain ⟨_,us2,q2⟩:=m.hd q h
   rw [← z',hn] at q2
   cases q2
  ·rw [if_neg hl] at z'
   exact h1 a (by simp at h3;omega) z'
noncomputable def Sit.hide (S:Sit) (p:Addr) (vs:List V):Sit:=⟨S.α,S.M,upd S.H p (.lst vs),p :: S.hid⟩
theorem Stp.hide (m:MemOk K S) (hp:S.H p = none) (vs:List V):Stp K S (S.hide p vs):=by
 have g:Grow S (S.hide p vs):=⟨Q3 _,fun _ _=>rfl,fun a h1 h2=>absurd (Q5 h2 h1) (Qn _),fun b u e _=>by show upd S.H p _ b = _;rw [qe (zi e hp)];exact e,fun q h=>⟨.tail _ h,by obtain ⟨_,vs,e⟩:=m.hd q h;exact qe (zi e hp)⟩,fun q h=>by
  cases h with
  | head=>exact .inr hp
  | tail _ h=>exact .inl h⟩
 refine ⟨g,⟨fun a c e=>?_,m.inj,fun q h=>?_⟩⟩
 ·have ha:a < S.M.length:=(List.getElem?_eq_some_iff.mp e).1
  exact (m.cell a c e).grow m g (qe ((m.off_none hp).1 a ha))
 ·cases h with
  | head=>exact ⟨(m.off_none hp).1,vs,zn⟩
  | tail _ h=>
   obtain ⟨h1,us,e⟩:=m.hd q h
   exact ⟨h1,us,(qe (zi e hp)).trans e⟩
end
variable {op:CmpOp} {ga:Ev->Mem->Out (List T)} {tf:Ev->Mem->Out Bool} {f:Ev->Mem->Out T} {M:Mem} {x:Str} {o o':T->T->Mem->Out T}
section
variable {a b c:Expr} {g h:Ev->Mem->Out T}
theorem zb9 (h:PE X e (tC v)) (r:∀ S,Rep X.K S t v):GE X XE e (eC t):=PE.imp h fun σ H Q h9=>by
 obtain ⟨S,στ,_,e,m,ev,_,fin⟩:=h9
 show Q v H
 rw [← e];exact fin S v rfl (.refl m) (r S)
theorem zdC (h:lE XE K (eOp o f g) σ H Q):lE XE K f σ H fun x H1=>lE XE K g σ H1 fun y H2=>lR2 XE K o x y H2 Q:=
 LN.mono (LN.bind (f:=fun _ σ M=>f σ M) (k:=fun _ x σ M1=>(g σ M1).bind fun y M2=>o x y M2) (RB:=Rep K) h) fun v H1 h1=>
  LN.mono (LN.env (f:=g) (LN.bind (f:=fun _ σ M=>g σ M) (k:=fun (ax:Unit × T) y σ M2=>o ax.2 y M2) (RB:=Rep K) h1)) fun w H2 h2=>by
   obtain ⟨S,στ,a,e,m,ev,ra,fin⟩:=h2
   exact ⟨S,(a.1.2,a.2),e,m,⟨ra.1.2,ra.2⟩,fin⟩
theorem zcA {β γ:Type} {R:Sit->β->γ->Prop} {k:Bool->Mem->Out β} {Q:γ->Hp->Prop} (r:Rep K S t v) (h:Fin XE R K S (blT t M k) Q):∃ b,v = .bl b/\t = .bl b/\Fin XE R K S (k b M) Q:=by
 cases r with
 | bl b=>exact ⟨b,rfl,rfl,h⟩
 | _=>exact h.elim
theorem tif {tg:Ev->Mem->Out Bool} {Q:Bool->Hp->Prop} {p:Bool->Ev->Mem->Out Bool} (h:LN XE EqR K UnR (fun _ σ M=>(tf σ M).bind fun c M1=>p c σ M1) () σ H Q):lT XE K tf σ H fun c H1=>lT XE K (fun σ M=>p c σ M) σ H1 Q:=
 LN.mono (LN.bind (f:=fun _ σ M=>tf σ M) (k:=fun _ c σ M1=>p c σ M1) (RB:=EqR) h) fun c H1 h2=>by
  obtain ⟨S,στ,a,e,m,ev,ra,fin⟩:=h2
  have:a.2 = c:=ra.2
  subst this
  exact ⟨S,στ,(),e,m,ev,trivial,fin⟩
theorem zdw {Q:Bool->Hp->Prop} {d:Bool} (h:lT XE K (fun _ M=>.ok d M) σ H Q):Q d H:=by
 obtain ⟨S,στ,a,e,m,ev,ra,fin⟩:=h
 rw [← e];exact fin S d rfl (.refl m) rfl
theorem zhS {d:T} (h:lE XE K (fun _ M=>.ok d M) σ H Q) (r:∀ S,Rep K S d v):Q v H:=by
 obtain ⟨S,στ,a,e,m,ev,ra,fin⟩:=h
 rw [← e];exact fin S v rfl (.refl m) (r S)
variable {tg:Ev->Mem->Out Bool} {rest:List Expr}
theorem GW.gt (h:GW X XE e tf):GT X XE e tf:=PW.pt h
theorem eif {p:Bool->Ev->Mem->Out T} (h:LN XE (Rep K) K UnR (fun _ σ M=>(f σ M).bind fun x M1=>blT x M1 fun b M2=>p b σ M2) () σ H Q):lE XE K f σ H fun x H1=>∃ c,x = .bl c/\lE XE K (fun σ M=>p c σ M) σ H1 Q:=
 LN.mono (LN.bind (f:=fun _ σ M=>f σ M) (k:=fun _ x σ M1=>blT x M1 fun b M2=>p b σ M2) (RB:=Rep K) h) fun c H1 h2=>by
  obtain ⟨S,στ,a,e,m,ev,ra,fin⟩:=h2
  obtain ⟨b,e1,e2,fin⟩:=zcA ra.2 fin
  exact ⟨b,e1,S,στ,(),e,m,ev,trivial,fin⟩
theorem chain (hh:lE XE K (zbk o o' f g h) σ H Q):zgb (lR2 XE K o) (lR2 XE K o') (lE XE K f) (lE XE K g) (lE XE K h) σ H Q:=
 LN.mono (LN.bind (f:=fun _ σ M=>f σ M) (k:=fun _ x σ M1=>(g σ M1).bind fun y M2=>(o x y M2).bind fun z M3=>blT z M3 fun b M4=>if b = true then (h σ M4).bind fun w M5=>o' y w M5 else .ok (.bl false) M4) (RB:=Rep K) hh) fun x H1 h1=>
  LN.mono (LN.env (f:=g) (LN.bind (f:=fun _ σ M=>g σ M) (k:=fun (ax:Unit × T) y σ M2=>(o ax.2 y M2).bind fun z M3=>blT z M3 fun b M4=>if b = true then (h σ M4).bind fun w M5=>o' y w M5 else .ok (.bl false) M4) (RB:=Rep K) h1)) fun y H2 h2=>by
   have h3:=LN.bind (f:=fun (a:(Unit × T) × T) _ M=>o a.1.2 a.2 M) (k:=fun a z σ M3=>blT z M3 fun b M4=>if b = true then (h σ M4).bind fun w M5=>o' a.2 w M5 else .ok (.bl false) M4) (RB:=Rep K) h2
   obtain ⟨S,a,e,m,ra,fin⟩:=LN.l0 (k:=fun (a:(Unit × T) × T) M=>o a.1.2 a.2 M) h3
   refine ⟨S,(a.1.2,a.2),e,m,⟨ra.1.2,ra.2⟩,fin.mono fun z H3 h4=>?_⟩
   obtain ⟨S3,στ,a3,e3,m3,ev3,ra3,fin3⟩:=h4
   obtain ⟨b,e1,_,fin3⟩:=zcA ra3.2 fin3
   refine ⟨b,e1,?_⟩
   cases b with
   | false=>exact (if_neg Q4).mpr (by rw [← e3];exact fin3 S3 _ rfl (.refl m3) (.bl _))
   | true=>
    refine (if_pos rfl).mpr ?_
    have h5:LN XE (Rep K) K (Rep K) (fun y σ M4=>(h σ M4).bind fun w M5=>o' y w M5) y σ H3 Q:=⟨S3,στ,a3.1.2,e3,m3,ev3,ra3.1.2,fin3⟩
    refine LN.mono (LN.env (f:=h) (LN.bind (f:=fun _ σ M=>h σ M) (k:=fun y w σ M5=>o' y w M5) (RB:=Rep K) h5)) fun w H4 h6=>?_
    exact LN.l0 (k:=fun (a:T × T) M=>o' a.1 a.2 M) h6
end
inductive Fl where
 | nx (σ:Ev) | rt (t:T) | bk (σ:Ev) | ct (σ:Ev)
inductive FlV where
 | nx (σ:L2.St) | rt (v:V) | bk (σ:L2.St) | ct (σ:L2.St)
inductive FlR (K:Frag) (S:Sit):Fl->FlV->Prop where
 | nx {a b}:EvR K S a b->FlR K S (.nx a) (.nx b)
 | rt {a b}:Rep K S a b->FlR K S (.rt a) (.rt b)
 | bk {a b}:EvR K S a b->FlR K S (.bk a) (.bk b)
 | ct {a b}:EvR K S a b->FlR K S (.ct a) (.ct b)
noncomputable def yy (D:Ends):FlV->Hp->Prop
 | .nx σ,H=>D.nx σ H
 | .rt v,H=>D.rt v H
 | .bk σ,H=>D.bk σ H
 | .ct σ,H=>D.ct σ H
noncomputable def lS (XE:XK) (K:Frag) (g:Ev->Mem->Out Fl):TS:=fun D σ H=>LN XE (FlR K) K UnR (fun _ σ M=>g σ M) () σ H (yy D)
def GS (X:Cx) (XE:XK) (st:Stmt) (g:Ev->Mem->Out Fl):Prop:=PS X st (lS XE X.K g)
def GSs (X:Cx) (XE:XK) (st:List Stmt) (g:Ev->Mem->Out Fl):Prop:=PSs X st (lS XE X.K g)
variable {στ:Ev}
theorem EvR.set (r:EvR K S στ σ) (q:Rep K S t v) (i:Nat):EvR K S (στ.set i (some t)) (σ.set i (some v)):=by
 refine ⟨by simp [r.1],fun j u e=>?_⟩
 rw [Qb] at e ⊢
 by_cases h:i = j
 ·subst h
  by_cases hl:i < στ.length
  ·rw [if_pos rfl,if_pos hl] at e
   cases e
   exact ⟨v,by rw [if_pos rfl,if_pos (by rw [← r.1];exact hl)],q⟩
  ·rw [if_pos rfl,if_neg hl] at e;cases e
 ·rw [if_neg h] at e
  obtain ⟨w,e2,q2⟩:=r.2 j u e
  exact ⟨w,by rw [if_neg h];exact e2,q2⟩
noncomputable def z4:Ev->Mem->Out Fl:=fun σ M=>.ok (.nx σ) M
noncomputable def zmk:Ev->Mem->Out Fl:=fun σ M=>.ok (.bk σ) M
noncomputable def zmy:Ev->Mem->Out Fl:=fun σ M=>.ok (.ct σ) M
noncomputable def zbs (k:Ev->Mem->Out Fl) (fl:Fl) (M:Mem):Out Fl:=match fl with
 | .nx σ=>k σ M
 | .rt t=>.ok (.rt t) M
 | .bk σ=>.ok (.bk σ) M
 | .ct σ=>.ok (.ct σ) M
noncomputable def qf (g h:Ev->Mem->Out Fl):Ev->Mem->Out Fl:=fun σ M=>(g σ M).bind (zbs h)
noncomputable def yq (f:Ev->Mem->Out T):Ev->Mem->Out Fl:=fun σ M=>(f σ M).bind fun t M1=>.ok (.rt t) M1
noncomputable def zdW (f:Ev->Mem->Out T):Ev->Mem->Out Fl:=fun σ M=>(f σ M).bind fun _ M1=>.ok (.nx σ) M1
noncomputable def sIf (c:Ev->Mem->Out Bool) (g h:Ev->Mem->Out Fl):Ev->Mem->Out Fl:=fun σ M=>(c σ M).bind fun b M1=>if b = true then g σ M1 else h σ M1
noncomputable def zk (i:Nat) (f:Ev->Mem->Out T):Ev->Mem->Out Fl:=fun σ M=>(f σ M).bind fun t M1=>.ok (.nx (σ.set i (some t))) M1
noncomputable def lG (XE:XK) (K:Frag) (bd:T->Ev->Mem->Out Ev):TG:=fun v σ H Q=>LN XE (EvR K) K (Rep K) bd v σ H Q
noncomputable def lGs (XE:XK) (K:Frag) (bd:List T->Ev->Mem->Out Ev):TGs:=fun v σ H Q=>LN XE (EvR K) K (Reps K) bd v σ H Q
def GG (X:Cx) (XE:XK) (tg:Expr) (bd:T->Ev->Mem->Out Ev):Prop:=PG X tg (lG XE X.K bd)
def GGs (X:Cx) (XE:XK) (tg:List Expr) (bd:List T->Ev->Mem->Out Ev):Prop:=PGs X tg (lGs XE X.K bd)
noncomputable def zg (i:Nat):T->Ev->Mem->Out Ev:=fun t σ M=>.ok (σ.set i (some t)) M
noncomputable def qU:List T->Ev->Mem->Out Ev:=fun ts σ M=>match ts with
 | []=>.ok σ M
 | _=>.bad
noncomputable def zq (b:T->Ev->Mem->Out Ev) (bs:List T->Ev->Mem->Out Ev):List T->Ev->Mem->Out Ev:=fun ts σ M=>match ts with
 | t :: r=>(b t σ M).bind fun σ1 M1=>bs r σ1 M1
 | _=>.bad
noncomputable def yU (n:Nat) (bs:List T->Ev->Mem->Out Ev):T->Ev->Mem->Out Ev:=fun t σ M=>match t with
 | .tup xs=>if xs.length = n then bs xs σ M else .bad
 | _=>.bad
noncomputable def zdX (f:Ev->Mem->Out T) (b:T->Ev->Mem->Out Ev):Ev->Mem->Out Fl:=fun σ M=>(f σ M).bind fun t M1=>(b t σ M1).bind fun σ1 M2=>.ok (.nx σ1) M2
def zas (K:Frag) (S:Sit) (items:List T) (J:It):Prop:=∀ S',Stp K S S'->
 (∀ (i:Nat) t,items[i]? = some t->J.go i S'.H/\∀ x H',J.yld i S'.H x H'->∃ S'',S''.H = H'/\S''.M = S'.M/\Stp K S' S''/\Rep K S'' t x)/\∀ i,items.length<=i->J.stop i S'.H
instance (K):Mo K (zas K):=⟨fun _ s r=>fun S' s'=>r S' (s.trans s')⟩
noncomputable def lI (XE:XK) (K:Frag) (f:Ev->Mem->Out (List T)):TI:=fun σ H R=>LN XE (zas K) K UnR (fun _ σ M=>f σ M) () σ H R
def GI (X:Cx) (XE:XK) (tg iter:Expr) (f:Ev->Mem->Out (List T)):Prop:=PI X tg iter (lI XE X.K f)
noncomputable def zw (k:Ev->Mem->Out Fl) (fl:Fl) (M:Mem):Out Fl:=match fl with
 | .nx σ=>k σ M
 | .ct σ=>k σ M
 | .bk σ=>.ok (.nx σ) M
 | .rt t=>.ok (.rt t) M
noncomputable def forL (bd:T->Ev->Mem->Out Ev) (body:Ev->Mem->Out Fl):List T->Ev->Mem->Out Fl
 | [],σ,M=>.ok (.nx σ) M
 | x :: xs,σ,M=>(bd x σ M).bind fun σ1 M1=>(body σ1 M1).bind (zw (forL bd body xs))
noncomputable def qT (it:Ev->Mem->Out (List T)) (bd:T->Ev->Mem->Out Ev) (body:Ev->Mem->Out Fl):Ev->Mem->Out Fl:=fun σ M=>(it σ M).bind fun xs M1=>forL bd body xs σ M1
noncomputable def whileN (c:Ev->Mem->Out Bool) (body:Ev->Mem->Out Fl):Nat->Ev->Mem->Out Fl
 | 0,_,_=>.bad
 | n + 1,σ,M=>(c σ M).bind fun b M1=>if b = true then (body σ M1).bind (zw (whileN c body n)) else .ok (.nx σ) M1
open Classical in
noncomputable def zdV (c:Ev->Mem->Out Bool) (body:Ev->Mem->Out Fl):Ev->Mem->Out Fl:=fun σ M=>if h:∃ n,whileN c body n σ M ≠ .bad then whileN c body h.choose σ M else .bad
theorem zan {c:Ev->Mem->Out Bool} {body:Ev->Mem->Out Fl}:∀ {n:Nat} {σ:Ev} {M:Mem} {r:Out Fl},whileN c body n σ M = r->r ≠ .bad->whileN c body (n + 1) σ M = r
 | 0,_,_,_,e,h=>absurd e.symm h
 | n + 1,σ,M,r,e,h=>by
  unfold whileN at e ⊢
  cases q:c σ M with
  | bad=>rw [q] at e;exact absurd e.symm h
  | exn C fs M'=>rw [q] at e;exact e
  | ok b M1=>
   rw [q] at e
   replace e:(if b = true then (body σ M1).bind (zw (whileN c body n)) else Out.ok (.nx σ) M1) = r:=e
   show (if b = true then (body σ M1).bind (zw (whileN c body (n + 1))) else Out.ok (.nx σ) M1) = r
   cases b with
   | false=>exact e
   | true=>
    rw [if_pos rfl] at e ⊢
    cases q2:body σ M1 with
    | bad=>rw [q2] at e;exact absurd e.symm h
    | exn C fs M'=>rw [q2] at e;exact e
    | ok fl M2=>
     rw [q2] at e
     cases fl with
     | nx σ2=>exact zan (n:=n) e h
     | ct σ2=>exact zan (n:=n) e h
     | bk σ2=>exact e
     | rt t=>exact e
variable {body:Ev->Mem->Out Fl} {n:Nat}
theorem zc0 {c:Ev->Mem->Out Bool} {k:Nat} {σ:Ev} {r:Out Fl} (e:whileN c body n σ M = r) (h:r ≠ .bad):whileN c body (n + k) σ M = r:=by
 induction k with
 | zero=>exact e
 | succ k ih=>exact zan ih h
theorem zgi {c:Ev->Mem->Out Bool} {σ:Ev} {r:Out Fl} (n:Nat) (e:whileN c body n σ M = r) (h:r ≠ .bad):zdV c body σ M = r:=by
 have ex:∃ n,whileN c body n σ M ≠ .bad:=⟨n,by rw [e];exact h⟩
 unfold zdV
 rw [dif_pos ex]
 have h2:=ex.choose_spec
 have e1:=zc0 (k:=ex.choose) e h
 have e2:=zc0 (k:=n) rfl h2
 rw [Nat.add_comm] at e2
 rw [← e2,e1]
noncomputable def zfP (XE:XK) (K:Frag) (st:T->T->T->Mem->Out Unit):zf3:=fun o i v H Q=>L0 XE UnR K (PrR (PrR (Rep K) (Rep K)) (Rep K)) (fun a M=>st a.1.1 a.1.2 a.2 M) ((o,i),v) H (fun _ H'=>Q H')
noncomputable def zeu (st:T->T->T->Mem->Out Unit) (f g:Ev->Mem->Out T):T->Ev->Mem->Out Ev:=fun t σ M=>(f σ M).bind fun o M1=>(g σ M1).bind fun i M2=>(st o i t M2).bind fun _ M3=>.ok σ M3
noncomputable def zfD (i:Nat) (o:T->T->Mem->Out T) (f:Ev->Mem->Out T):Ev->Mem->Out Fl:=fun σ M=>(zb i σ M).bind fun x M0=>(f σ M0).bind fun y M1=>(o x y M1).bind fun z M2=>.ok (.nx (σ.set i (some z))) M2
variable {D:Ends} {iter tg:Expr} {st:Stmt} {bd:T->Ev->Mem->Out Ev}
section
variable {a b c:Expr} {g h:Ev->Mem->Out T} {sts rest:List Stmt} {p q r:Ev->Mem->Out Fl}
theorem zj2 (hh:lS XE K (qf p q) D σ H):lS XE K p { D with nx:=lS XE K q D } σ H:=by
 obtain ⟨S,στ,_,e,m,ev,_,fin⟩:=hh
 refine ⟨S,στ,(),e,m,ev,trivial,?_⟩
 show Fin XE (FlR K) K S (p στ S.M) _
 replace fin:Fin XE (FlR K) K S ((p στ S.M).bind (zbs q)) (yy D):=fin
 cases o:p στ S.M with
 | bad=>rw [o] at fin;exact fin
 | exn C fs M'=>rw [o] at fin;exact fin
 | ok fl M1=>
  rw [o] at fin
  intro S1 cc e1 s1 r1
  cases r1 with
  | nx r1=>exact ⟨S1,_,(),rfl,s1.mok,r1,trivial,by rw [e1];exact Fin.later s1 fin⟩
  | rt r1=>exact fin S1 _ e1 s1 (.rt r1)
  | bk r1=>exact fin S1 _ e1 s1 (.bk r1)
  | ct r1=>exact fin S1 _ e1 s1 (.ct r1)
theorem PG.imp {t t':TG} (h:PG X tg t) (i:∀ v σ H Q,t' v σ H Q->t v σ H Q):PG X tg t':=fun pins s σ H v u Q I r q=>h pins s σ H v u Q I r (i v σ H Q q)
theorem PGs.imp {tgs:List Expr} {t t':TGs} (h:PGs X tgs t) (i:∀ v σ H Q,t' v σ H Q->t v σ H Q):PGs X tgs t':=fun pins s σ H v u Q I r q=>h pins s σ H v u Q I r (i v σ H Q q)
theorem zla (hh:LN XE (FlR K) K (Rep K) (fun t σ M=>(bd t σ M).bind fun σ1 M2=>.ok (Fl.nx σ1) M2) v σ H (yy D)):lG XE K bd v σ H D.nx:=by
 obtain ⟨S,στ,t,e,m,ev,ra,fin⟩:=hh
 refine ⟨S,στ,t,e,m,ev,ra,?_⟩
 replace fin:Fin XE (FlR K) K S ((bd t στ S.M).bind fun σ1 M2=>.ok (Fl.nx σ1) M2) (yy D):=fin
 cases o:bd t στ S.M with
 | bad=>rw [o] at fin;exact fin
 | exn C fs M'=>rw [o] at fin;exact fin
 | ok σ1 M1=>
  rw [o] at fin
  intro S1 cc e1 s1 ev1
  exact fin S1 (.nx cc) e1 s1 (.nx ev1)
theorem PI.imp {t t':TI} (h:PI X tg iter t) (i:∀ σ H R,t' σ H R->t σ H R):PI X tg iter t':=fun pins s σ H R I q=>h pins s σ H R I (i σ H R q)
end
noncomputable def startT (n:Nat) (ts:List T):Ev:=ts.map some ++ List.replicate (n - ts.length) none
noncomputable def yg (p n:Nat) (g:Ev->Mem->Out Fl):List T->Mem->Out T:=fun ts M=>if ts.length = p then match g (startT n ts) M with
 | .ok (.rt t) M'=>.ok t M'
 | .ok (.nx _) M'=>.ok .non M'
 | _=>.bad else .bad
noncomputable def spT (K:Frag) (f:List T->Mem->Out T):Sp:=fun vs H Q E=>L0 E (Rep K) K (Reps K) f vs H Q
structure CalT (P:Program) (w:World) (K:Frag) (mg:Str->Option Value) (base:Heap) (k:Nat) (x:Str) (ps:List Str) (f:List T->Mem->Out T):Prop where
 cal:Cal P w K mg base k x ps (spT K f)
 nox:∀ ts M C fs M',f ts M ≠ .exn C fs M'
theorem zfE (p n:Nat) (g:Ev->Mem->Out Fl):∀ ts M C fs M',yg p n g ts M ≠ .exn C fs M':=by
 intro ts M C fs M' z
 unfold yg at z
 split at z
 ·split at z <;> cases z
 ·cases z
variable {N:List Str}
theorem EvR.start (r:Reps K S ts vs) (hn:N.length = n):EvR K S (startT n ts) (L2.start N vs):=by
 subst hn
 refine ⟨by simp [startT,L2.start,r.1],fun i t e=>?_⟩
 unfold startT at e
 unfold L2.start
 by_cases hi:i < ts.length
 ·rw [Q6 (by simpa using hi)] at e
  rw [Q6 (by simpa [← r.1] using hi)]
  rw [Qa] at e ⊢
  cases q:ts[i]? with
  | none=>rw [q] at e;cases e
  | some t'=>
   rw [q] at e
   have:t' = t:=Qc (Qc e)
   subst this
   obtain ⟨v,e2,r2⟩:=r.get q
   exact ⟨v,by rw [e2];rfl,r2⟩
 ·rw [Q7 (by simpa using hi)] at e
  rw [List.getElem?_replicate] at e
  split at e <;> cases e
variable {g:Ev->Mem->Out Fl} {base:Heap} {ps:List Str} {P:Program} {mg:Str->Option Value}
section
variable {w:World}
theorem zeq {st:List Stmt} {p:Nat} (hn:N.length = n) {E:XK} (hX:X.K = K) (h:spT K (yg p n g) vs H Q E) (hb:GSs X E0 st g) :
  ∃ t,PSs X st t/\t { nx:=fun _ H'=>Q .non H',rt:=Q } (start N vs) H:=by
 subst hX
 refine ⟨_,hb,?_⟩
 obtain ⟨S,ts,e,m,r,fin⟩:=h
 refine ⟨S,startT n ts,(),e,m,EvR.start r hn,trivial,?_⟩
 show Fin E0 (FlR X.K) X.K S (g (startT n ts) S.M) _
 unfold yg at fin
 by_cases hp:ts.length = p
 ·rw [if_pos hp] at fin
  cases o:g (startT n ts) S.M with
  | bad=>rw [o] at fin;exact fin
  | exn C fs M'=>rw [o] at fin;exact fin.elim
  | ok fl M1=>
   rw [o] at fin
   cases fl with
   | nx σ1=>
    intro S1 c e1 s1 r1
    cases r1 with
    | nx r1=>exact fin S1 .non e1 s1 .non
   | rt t=>
    intro S1 c e1 s1 r1
    cases r1 with
    | rt r1=>exact fin S1 _ e1 s1 r1
   | bk σ1=>exact fin.elim
   | ct σ1=>exact fin.elim
 ·rw [if_neg hp] at fin;exact fin.elim
theorem zgc {p:Nat} (hp:ps.length = p):∀ vs H Q E,spT K (yg p n g) vs H Q E->vs.length = ps.length:=by
 intro vs H Q E ⟨S,ts,e,m,r,fin⟩
 rw [← r.1,hp]
 unfold yg at fin
 by_cases h:ts.length = p
 ·exact h
 ·rw [if_neg h] at fin;exact fin.elim
theorem zgZ {k p:Nat} (D:Df K mg x st ps) (Sc:FnScope N ps (yd st)) (hp:ps.length = p) (hn:N.length = n)
 (hb:∀ (f:Addr) (cdv:Value) (A:Around) (outer:List PySem.Env) (s:Shared) (H:Hp) (E:XK),Room k (A.deeper (envOfC x (yd st) s.heap.objs.size f cdv))->GSs (y8 CX0 P w K mg base N x (yd st) f cdv A outer s H E).nox E0 (yt st) g) :
  CalT P w K mg base (k + 1) x ps (yg p n g):=
 ⟨D.ok Sc (zgc hp) fun f cdv A outer s H vs Q E hr h=>zeq hn rfl h (hb f cdv A outer s H E hr),zfE _ _ _⟩
theorem zj0 {qual:Str} {f:Addr} {fd:FuncData} {k p:Nat} (F:Fun K x qual st f fd) (Sc:FnScope N ps (yd st)) (hp:ps.length = p) (hn:N.length = n)
 (hb:∀ (cdv:Value) (A:Around) (outer:List PySem.Env) (s:Shared) (H:Hp) (E:XK),Room k (A.deeper (envOfC qual (yd st) s.heap.objs.size f cdv))->GSs (y8 CX0 P w K mg base N qual (yd st) f cdv A outer s H E).nox E0 (yt st) g) :
  FnOk P w K mg base CX0 (k + 1) f fd ps (spT K (yg p n g)):=
 F.ok Sc (zgc hp) fun cdv A outer s H vs Q E hr h=>zeq hn rfl h (hb cdv A outer s H E hr)
theorem ziN {f:List T->Mem->Out T} {a:Addr} {ns:List Int} {M':Mem} (hS:SqL K H a (ns.map V.int)) (h:f [.lst (ns.map .int)] [] = .ok (.bl true) M'):spT K f [.ref a] H (fun v _=>v = .bl true) fun _ _ _=>False:=by
 refine ⟨⟨fun _=>0,[],H,[]⟩,[.lst (ns.map .int)],rfl,⟨fun a c e=>by simp at e,fun a b h=>absurd h (Nat.not_lt_zero _),fun p h=>by simp at h⟩,.cons (.lst (vs:=ns.map V.int) ?_ (by simp) ?_) .nil,?_⟩
 ·rcases hS with h | h
  ·exact .inl ⟨h,fun a h=>absurd h (Nat.not_lt_zero _),fun z=>by simp at z⟩
  ·exact .inr h
 ·intro i t v e1 e2
  rw [Qa] at e1 e2
  cases q:ns[i]? with
  | none=>rw [q] at e1;cases e1
  | some z=>rw [q] at e1 e2;cases e1;cases e2;exact .int z
 ·show Fin _ _ K _ (f [.lst (ns.map .int)] []) _
  rw [h]
  intro S' c e s r
  cases r
  rfl
end
section
variable {k:Nat} {p:Pos} {F:List T->Mem->Out T}
end
inductive T.lt (n:Nat):T->Prop where
 | non:T.lt n .non
 | bl (b:Bool):T.lt n (.bl b)
 | int (i:Int):T.lt n (.int i)
 | str (x:Str):T.lt n (.str x)
 | ty (x:String):T.lt n (.ty x)
 | tup {ts:List T} (h:∀ t ∈ ts,T.lt n t):T.lt n (.tup ts)
 | lst {ts:List T} (h:∀ t ∈ ts,T.lt n t):T.lt n (.lst ts)
 | ref {a:Nat} (h:a < n):T.lt n (.ref a)
 | dct {kvs:List (Key × T)} (h:∀ t ∈ kvs.map (·.2),T.lt n t):T.lt n (.dct kvs)
 | exc {C:Addr} {fs:List (Str × T)} (h:∀ t ∈ fs.map (·.2),T.lt n t):T.lt n (.exc C fs)
noncomputable def Cell.lt (n:Nat):Cell->Prop
 | .lst ts=>∀ t ∈ ts,T.lt n t
 | .dic kvs=>∀ k ∈ kvs,T.lt n k.2
 | .ins _ fs=>∀ k ∈ fs,T.lt n k.2
inductive Fz (M':Mem) (n:Nat):T->T->Prop where
 | same {t:T} (h:T.lt n t):Fz M' n t t
 | tup {ts us:List T} (l:ts.length = us.length) (h:∀ (i:Nat) t u,ts[i]? = some t->us[i]? = some u->Fz M' n t u):Fz M' n (.tup ts) (.tup us)
 | lst {ts us:List T} (l:ts.length = us.length) (h:∀ (i:Nat) t u,ts[i]? = some t->us[i]? = some u->Fz M' n t u):Fz M' n (.lst ts) (.lst us)
 | ref {a:Nat} {ts us:List T} (e:M'[a]? = some (.lst ts)) (g:n<=a) (l:ts.length = us.length) (h:∀ (i:Nat) t u,ts[i]? = some t->us[i]? = some u->Fz M' n t u):Fz M' n (.ref a) (.lst us)
theorem Rep.lt (r:Rep K S t v):T.lt S.M.length t:=by
 induction r with
 | non=>exact .non
 | bl b=>exact .bl b
 | int b=>exact .int b
 | str b=>exact .str b
 | ty b=>exact .ty b
 | @tup ts p vs h l _ ih=>
  refine .tup fun t ht=>?_
  obtain ⟨i,hi,rfl⟩:=getElem_of_mem ht
  exact ih i _ vs[i] (by simp [hi]) (by simp [← l,hi])
 | @lst ts p vs h l _ ih=>
  refine .lst fun t ht=>?_
  obtain ⟨i,hi,rfl⟩:=getElem_of_mem ht
  exact ih i _ vs[i] (by simp [hi]) (by simp [← l,hi])
 | ref h=>exact .ref h
 | @dct kvs us p o h l _ ih=>
  refine .dct fun t ht=>?_
  obtain ⟨i,hi,rfl⟩:=getElem_of_mem ht
  have hl:i < us.length:=by have:=congrArg List.length l;simp at this hi;omega
  exact ih i _ (us[i]'hl).2 (Q0 hi) (by simp [hl])
 | @exc C fs us p od h hd l _ ih=>
  refine .exc fun t ht=>?_
  obtain ⟨i,hi,rfl⟩:=getElem_of_mem ht
  have hl:i < us.length:=by have:=congrArg List.length l;simp at this hi;omega
  exact ih i _ (us[i]'hl).2 (Q0 hi) (by simp [hl])
theorem Reps.lt (r:Reps K S ts vs):∀ t ∈ ts,T.lt S.M.length t:=fun t ht=>by
 obtain ⟨i,hi,rfl⟩:=getElem_of_mem ht
 have hv:i < vs.length:=by rw [← r.1];exact hi
 exact (r.2 i _ vs[i] (by simp [hi]) (by simp [hv])).lt
theorem ze9 {κ:Type} {fs:List (κ × T)} (h:∀ t ∈ fs.map (·.2),T.lt n t):∀ k ∈ fs,T.lt n k.2:=fun k hk=>h _ (List.mem_map_of_mem (f:=(·.2)) hk)
theorem CellOk.lt (h:CellOk K S p c):Cell.lt S.M.length c:=by
 cases c with
 | lst ts=>obtain ⟨vs,_,r⟩:=h;exact r.lt
 | dic ts=>obtain ⟨vs,_,r⟩:=h;exact ze9 r.2.lt
 | ins C ts=>obtain ⟨dx,vs,_,r⟩:=h;exact ze9 r.2.lt
variable {m:Nat}
theorem T.lt.mono (h:n<=m) (r:T.lt n t):T.lt m t:=by
 induction r with
 | non=>exact .non
 | bl b=>exact .bl b
 | int b=>exact .int b
 | str b=>exact .str b
 | ty b=>exact .ty b
 | tup _ ih=>exact .tup ih
 | lst _ ih=>exact .lst ih
 | ref g=>exact .ref (Q5 g h)
 | dct _ ih=>exact .dct ih
 | exc _ ih=>exact .exc ih
noncomputable def Sit.cut (S:Sit) (n:Nat) (h:List Addr):Sit:=⟨S.α,S.M.take n,S.H,h⟩
variable {u:T}
section
theorem Rep.cut (hn:n<=S'.M.length) (sub:∀ p ∈ hh,p ∈ S'.hid) (r:Rep K S' t v) (l:T.lt n t):Rep K (S'.cut n hh) t v:=by
 have ln:(S'.cut n hh).M.length = n:=by show (S'.M.take n).length = n;simp;omega
 induction r with
 | non=>exact .non
 | bl b=>exact .bl b
 | int b=>exact .int b
 | str b=>exact .str b
 | ty b=>exact .ty b
 | @tup ts p vs h l2 _ ih=>
  cases l with
  | tup hl=>exact .tup h l2 fun i t v e1 e2=>ih i t v e1 e2 (hl t (Q9 e1))
 | @lst ts p vs h l2 _ ih=>
  cases l with
  | lst hl=>
   refine .lst ?_ l2 fun i t v e1 e2=>ih i t v e1 e2 (hl t (Q9 e1))
   rcases h with ⟨h,f⟩ | h
   ·exact .inl ⟨h,fun a ha z=>f.1 a (by rw [ln] at ha;omega) z,fun z=>f.2 (sub _ z)⟩
   ·exact .inr h
 | @ref a h=>
  cases l with
  | ref hl=>exact .ref (S:=S'.cut n hh) (by rw [ln];exact hl)
 | dct h l2 _ ih=>
  cases l with
  | dct hl=>exact .dct (S:=S'.cut n hh) h l2 fun i t v e1 e2=>ih i t v e1 e2 (hl t (Q9 e1))
 | exc h hd l2 _ ih=>
  cases l with
  | exc hl=>exact .exc (S:=S'.cut n hh) h hd l2 fun i t v e1 e2=>ih i t v e1 e2 (hl t (Q9 e1))
theorem Reps.cut (hn:n<=S'.M.length) (sub:∀ p ∈ hh,p ∈ S'.hid) {t:List T} {v:List V} (r:Reps K S' t v) (l:∀ x ∈ t,T.lt n x):Reps K (S'.cut n hh) t v:=⟨r.1,fun i t v e1 e2=>(r.2 i t v e1 e2).cut hn sub (l t (Q9 e1))⟩
theorem CellOk.cut (hn:n<=S'.M.length) (sub:∀ p ∈ hh,p ∈ S'.hid) (r:CellOk K S' p c) (l:Cell.lt n c):CellOk K (S'.cut n hh) p c:=by
 have ms:∀ {κ:Type} {fs:List (κ × T)},(∀ k ∈ fs,T.lt n k.2)->∀ t ∈ fs.map (·.2),T.lt n t:=fun h t ht=>by
  obtain ⟨k,hk,rfl⟩:=mem_map.mp ht
  exact h k hk
 cases c with
 | lst ts=>obtain ⟨vs,q,r⟩:=r;exact ⟨vs,q,r.cut hn sub l⟩
 | dic ts=>obtain ⟨vs,q,r⟩:=r;exact ⟨vs,q,r.1,r.2.cut hn sub (ms l)⟩
 | ins C ts=>obtain ⟨dx,vs,q,r⟩:=r;exact ⟨dx,vs,q,r.1,r.2.cut hn sub (ms l)⟩
theorem Stp.cut (s:Stp K S S') (h1:S.M.length<=n) (h2:n<=S'.M.length) (hl:∀ (i:Nat) c,i < n->S'.M[i]? = some c->Cell.lt n c):Stp K S (S'.cut n S.hid):=by
 have sub:∀ p ∈ S.hid,p ∈ S'.hid:=fun p h=>(s.hk p h).1
 have ln:(S'.cut n S.hid).M.length = n:=by show (S'.M.take n).length = n;simp;omega
 refine ⟨⟨by rw [ln];exact h1,s.al,fun a g1 g2=>s.fr a g1 (by rw [ln] at g2;omega),s.kp,fun p h=>⟨h,(s.hk p h).2⟩,fun p h=>.inl h⟩,⟨fun a c e=>?_,fun a b g1 g2 e=>s.mok.inj a b (by rw [ln] at g1;omega) (by rw [ln] at g2;omega) e,fun p h=>?_⟩⟩
 ·have e':(S'.M.take n)[a]? = some c:=e
  rw [getElem?_take] at e'
  split at e'
  ·rename_i hi
   exact (s.mok.cell a c e').cut h2 sub (hl a c hi e')
  ·cases e'
 ·obtain ⟨g1,vs,g2⟩:=s.mok.hd p (sub p h)
  exact ⟨fun a ha z=>g1 a (by rw [ln] at ha;omega) z,vs,g2⟩
theorem Rep.fz (m:MemOk K S') (hn:n<=S'.M.length) (sub:∀ p ∈ hh,p ∈ S'.hid) (z:Fz S'.M n t u):∀ {v:V},Rep K S' t v->Rep K (S'.cut n hh) u v:=by
 have ln:(S'.cut n hh).M.length = n:=by show (S'.M.take n).length = n;simp;omega
 induction z with
 | same h=>exact fun r=>r.cut hn sub h
 | @tup ts us l _ ih=>
  intro v r
  cases r with
  | @tup _ p vs h l2 rr=>
   refine .tup h (by rw [← l];exact l2) fun i t v e1 e2=>?_
   have hi:i < ts.length:=by rw [l];exact (List.getElem?_eq_some_iff.mp e1).1
   exact ih i ts[i] t (by simp [hi]) e1 (rr i _ v (by simp [hi]) e2)
 | @lst ts us l _ ih=>
  intro v r
  cases r with
  | @lst _ p vs h l2 rr=>
   refine .lst ?_ (by rw [← l];exact l2) fun i t v e1 e2=>?_
   ·rcases h with ⟨h,f⟩ | h
    ·exact .inl ⟨h,fun a ha z=>f.1 a (by rw [ln] at ha;omega) z,fun z=>f.2 (sub _ z)⟩
    ·exact .inr h
   ·have hi:i < ts.length:=by rw [l];exact (List.getElem?_eq_some_iff.mp e1).1
    exact ih i ts[i] t (by simp [hi]) e1 (rr i _ v (by simp [hi]) e2)
 | @ref a ts us e g l _ ih=>
  intro v r
  cases r with
  | ref ha=>
   obtain ⟨vs,q,rr⟩:=m.cell a _ e
   refine .lst (vs:=vs) (.inl ⟨.inl q,fun b hb z=>?_,fun z=>?_⟩) (by rw [← l];exact rr.1) fun i t v e1 e2=>?_
   ·rw [ln] at hb
    have:=m.inj b a (by omega) ha z
    omega
   ·exact (m.hd _ (sub _ z)).1 a ha rfl
   ·have hi:i < ts.length:=by rw [l];exact (List.getElem?_eq_some_iff.mp e1).1
    exact ih i ts[i] t (by simp [hi]) e1 (rr.2 i _ v (by simp [hi]) e2)
end
def Refines (f g:List T->Mem->Out T):Prop:=∀ ts M t' M1,(∀ c ∈ M,Cell.lt M.length c)->f ts M = .ok t' M1->∃ t M',g ts M = .ok t M'/\M.length<=M1.length/\M1.length<=M'.length/\M1 = M'.take M1.length/\(∀ (i:Nat) c,M1[i]? = some c->M[i]? = some c\/Cell.lt M1.length c)/\Fz M' M1.length t t'
theorem Cell.lt.mono (h:n<=m) (r:Cell.lt n c):Cell.lt m c:=by
 cases c with
 | lst ts=>exact fun t ht=>(r t ht).mono h
 | dic ts=>exact fun t ht=>(r t ht).mono h
 | ins C ts=>exact fun t ht=>(r t ht).mono h
theorem CalT.refine {w:World} {k:Nat} {f g:List T->Mem->Out T} (C:CalT P w K mg base k x ps g) (h:Refines f g) (nox:∀ ts M C fs M',f ts M ≠ .exn C fs M'):CalT P w K mg base k x ps f:=by
 refine ⟨?_,nox⟩
 obtain ⟨⟨fa,fd,F,kp,b,gg⟩⟩:=C.cal
 have key:∀ vs H Q E,spT K f vs H Q E->spT K g vs H Q E:=by
  rintro vs H Q E ⟨S,ts,e,m,r,fin⟩
  refine ⟨S,ts,e,m,r,?_⟩
  have wf:∀ c ∈ S.M,Cell.lt S.M.length c:=fun c hc=>by
   obtain ⟨i,hi,rfl⟩:=getElem_of_mem hc
   exact (m.cell i _ (by simp [hi])).lt
  cases o:f ts S.M with
  | bad=>rw [o] at fin;exact fin.elim
  | exn C' fs M'=>exact absurd o (nox _ _ _ _ _)
  | ok t' M1=>
   rw [o] at fin
   obtain ⟨t,M',eg,l1,l2,eM,hc,z⟩:=h ts S.M t' M1 wf o
   rw [eg]
   intro S' v e1 s r1
   have hl:∀ (i:Nat) c,i < M1.length->S'.M[i]? = some c->Cell.lt M1.length c:=fun i c hi ec=>by
    have e2:M1[i]? = some c:=by
     rw [eM,getElem?_take,if_pos hi,← e1];exact ec
    rcases hc i c e2 with q | q
    ·exact (wf c (Q9 q)).mono l1
    ·exact q
   have sc:=s.cut l1 (by rw [e1];exact l2) hl
   refine fin (S'.cut M1.length S.hid) v ?_ sc ?_
   ·show S'.M.take M1.length = M1
    rw [e1];exact eM.symm
   ·exact Rep.fz s.mok (by rw [e1];exact l2) (fun p h=>(s.hk p h).1) (by rw [e1];exact z) r1
 refine ⟨⟨fa,fd,⟨fun vs H Q E q=>F.len vs H Q E (key _ _ _ _ q),?_⟩,kp,b,gg⟩⟩
 intro A outer s H args us vs Q E hr h0 hb hv hq
 exact F.run A outer s H args us vs Q E hr h0 hb hv (key _ _ _ _ hq)
noncomputable def qp (t:T) (M:Mem):Option (List T):=match t with
 | .lst xs=>some xs
 | .ref a=>match M[a]? with
  | some (.lst xs)=>some xs
  | _=>none
 | _=>none
noncomputable def zdS (t:T):Option (List T):=match t with
 | .lst xs=>some xs
 | .tup xs=>some xs
 | _=>none
noncomputable def zci (t:T) (M:Mem):Option (List T):=match t with
 | .tup xs=>some xs
 | t=>qp t M
section
theorem zbd (h:(Rd S.H p (.lst vs)/\S.off p)\/KL K p vs):SqL K S.H p vs:=by
 rcases h with ⟨h,_⟩ | h
 ·exact .inl h
 ·exact .inr h
theorem yk (m:MemOk K S) (r:Rep K S t v) (e:qp t S.M = some xs):∃ p vs,v = .ref p/\SqL K S.H p vs/\Reps K S xs vs:=by
 cases r with
 | @lst ts p vs h l r=>cases e;exact ⟨p,vs,rfl,zbd h,l,r⟩
 | @ref a h=>
  unfold qp at e
  dsimp only at e
  split at e
  ·rename_i ys q
   cases e
   obtain ⟨vs,q2,r2⟩:=m.cell a _ q
   exact ⟨_,vs,rfl,.inl (.inl q2),r2⟩
  ·cases e
 | _=>cases e
theorem za9 (m:MemOk K S) (r:Rep K S t v) (e:zci t S.M = some xs):∃ p vs,v = .ref p/\(SqL K S.H p vs\/SqT K S.H p vs)/\Reps K S xs vs:=by
 cases t with
 | tup ts=>
  cases e
  cases r with
  | @tup _ p vs h l r=>exact ⟨p,vs,rfl,.inr h,l,r⟩
 | lst ts=>obtain ⟨p,vs,e1,h,r2⟩:=yk m r e;exact ⟨p,vs,e1,.inl h,r2⟩
 | ref a=>obtain ⟨p,vs,e1,h,r2⟩:=yk m r e;exact ⟨p,vs,e1,.inl h,r2⟩
 | _=>cases e
end
noncomputable def zU (f:Ev->Mem->Out T):Ev->Mem->Out (List T):=fun σ M=>(f σ M).bind fun t M1=>match zdS t with
 | some xs=>.ok xs M1
 | none=>.bad
noncomputable def yw (lo:Int) (n:Nat):List T:=(List.range n).map fun (k:Nat)=>T.int (lo + (k:Int))
noncomputable def zcK (ts:List T) (M1:Mem):Out (List T):=match ts with
 | [.int j]=>@ite _ (-(2 ^ 62)<=j/\j < 2 ^ 62) (Classical.propDecidable _) (.ok (yw 0 j.toNat) M1) .bad
 | _=>.bad
noncomputable def zb4 (ts:List T) (M1:Mem):Out (List T):=match ts with
 | [.int i,.int j]=>@ite _ ((-(2 ^ 62)<=i/\i < 2 ^ 62)/\(-(2 ^ 62)<=j/\j < 2 ^ 62)) (Classical.propDecidable _) (.ok (yw i (j - i).toNat) M1) .bad
 | _=>.bad
noncomputable def yX (f:Ev->Mem->Out (List T)):Ev->Mem->Out (List T):=fun σ M=>(f σ M).bind fun ts M1=>zcK ts M1
noncomputable def zaA (f:Ev->Mem->Out (List T)):Ev->Mem->Out (List T):=fun σ M=>(f σ M).bind fun ts M1=>zb4 ts M1
theorem zeb (K:Frag) (S:Sit) (lo:Int) (n:Nat):zas K S (yw lo n) (Itr lo n):=fun S' s=>by
 refine ⟨fun i t e=>?_,fun i h=>?_⟩
 ·unfold yw at e
  rw [Qa] at e
  cases q:(List.range n)[i]? with
  | none=>rw [q] at e;cases e
  | some k=>
   rw [q] at e
   cases e
   have hi:i < n:=by have:=(List.getElem?_eq_some_iff.mp q).1;simpa using this
   have hk:k = i:=by rw [getElem?_range hi] at q;exact (Qc q).symm
   subst hk
   refine ⟨hi,fun x H' hy=>?_⟩
   obtain ⟨e1,e2⟩:=hy
   exact ⟨S',e1.symm,rfl,.refl s.mok,by rw [e2];exact .int _⟩
 ·show n<=i
  simpa [yw] using h
section
variable {a b c:Expr} {g h:Ev->Mem->Out T} {p:Pos}
theorem zkq (he:GE X XE e f):GI X XE tg e (zU f):=PI.imp (PI.or (ze0 he) (zjE he)) fun σ H R h9=>by
 obtain ⟨S,στ,_,e,m,ev,_,fin⟩:=h9
 replace fin:Fin XE (zas X.K) X.K S ((f στ S.M).bind fun t M1=>match zdS t with | some xs=>.ok xs M1 | none=>.bad) R:=fin
 cases o:f στ S.M with
 | bad=>rw [o] at fin;exact fin.elim
 | exn C fs M'=>
  rw [o] at fin
  refine .inl ⟨S,στ,(),e,m,ev,trivial,?_⟩
  show Fin XE (Rep X.K) X.K S (f στ S.M) _
  rw [o];exact fin
 | ok t M1=>
  rw [o] at fin
  cases t with
  | lst ts=>
   refine .inl ⟨S,στ,(),e,m,ev,trivial,?_⟩
   show Fin XE (Rep X.K) X.K S (f στ S.M) _
   rw [o]
   intro S1 v e1 s1 r1
   cases r1 with
   | @lst _ p vs h l r=>
    have r1:Reps X.K S1 ts vs:=⟨l,r⟩
    refine ⟨p,rfl,⟨vs,zbd h⟩,fin S1 _ e1 s1 fun S3 s3=>?_⟩
    have g3:SqL X.K S3.H p vs:=by
     rcases h with ⟨h2,f2⟩ | h2
     ·exact .inl (s3.toGrow.rd h2 f2).1
     ·exact .inr h2
    refine ⟨fun i t et=>?_,fun i hi=>⟨vs,g3,by rw [← l];exact hi⟩⟩
    obtain ⟨v2,ev3,r3⟩:=r1.get et
    refine ⟨⟨vs,v2,g3,ev3⟩,fun x H' hy=>?_⟩
    obtain ⟨ey,hy⟩:=hy
    have:=hy vs g3
    rw [ev3] at this
    cases this
    exact ⟨S3,ey.symm,rfl,.refl s3.mok,r3.grow s1.mok s3.toGrow⟩
  | tup ts=>
   refine .inr ⟨S,στ,(),e,m,ev,trivial,?_⟩
   show Fin XE (Rep X.K) X.K S (f στ S.M) _
   rw [o]
   intro S1 v e1 s1 r1
   cases r1 with
   | @tup _ p vs h l r=>
    have r1:Reps X.K S1 ts vs:=⟨l,r⟩
    refine ⟨p,rfl,⟨vs,h⟩,fin S1 _ e1 s1 fun S3 s3=>?_⟩
    have g3:SqT X.K S3.H p vs:=s3.toGrow.tup s1.mok h
    refine ⟨fun i t et=>?_,fun i hi=>⟨vs,g3,by rw [← l];exact hi⟩⟩
    obtain ⟨v2,ev3,r3⟩:=r1.get et
    refine ⟨⟨vs,v2,g3,ev3⟩,fun x H' hy=>?_⟩
    obtain ⟨ey,hy⟩:=hy
    have:=hy vs g3
    rw [ev3] at this
    cases this
    exact ⟨S3,ey.symm,rfl,.refl s3.mok,r3.grow s1.mok s3.toGrow⟩
  | _=>exact fin.elim
end
noncomputable def yh (bd:T->Ev->Mem->Out Ev) (cond:Ev->Mem->Out Bool) (el:Ev->Mem->Out T):List T->Ev->Mem->List T->Out (List T)
 | [],_,M,acc=>.ok acc M
 | x :: xs,σ,M,acc=>(bd x σ M).bind fun σ1 M1=>(cond σ1 M1).bind fun b M2=>if b = true then (el σ1 M2).bind fun t M3=>if acc.length < sizeLine then yh bd cond el xs σ1 M3 (acc ++ [t]) else .bad else yh bd cond el xs σ1 M2 acc
noncomputable def zbn (tgs:List Str) (caps:List (Str × Nat)) (σ:Ev):Ev:=tgs.map (fun _=>none) ++ caps.map fun c=>(σ[c.2]?).join
noncomputable def yD (it:Ev->Mem->Out (List T)) (bd:T->Ev->Mem->Out Ev) (cond:Ev->Mem->Out Bool) (el:Ev->Mem->Out T) (tgs:List Str) (caps:List (Str × Nat)):Ev->Mem->Out (List T):=fun σ M=>(it σ M).bind fun xs M1=>yh bd cond el xs (zbn tgs caps σ) M1 []
noncomputable def zO:Ev->Mem->Out Bool:=fun _ M=>.ok true M
theorem EvR.cap (r:EvR K S στ σ) (tgs:List Str) (caps:List (Str × Nat)):EvR K S (zbn tgs caps στ) (zL tgs caps σ):=by
 refine ⟨by simp [zbn,zL],fun i t e=>?_⟩
 unfold zbn at e
 unfold zL
 by_cases hi:i < tgs.length
 ·rw [Q6 (by simpa using hi)] at e
  rw [Qa] at e
  cases q:tgs[i]? with
  | none=>rw [q] at e;cases e
  | some x=>rw [q] at e;cases e
 ·rw [Q7 (by simpa using hi),Qa] at e
  rw [Q7 (by simpa using hi),Qa]
  simp only [Qg] at e ⊢
  cases q:caps[i - tgs.length]? with
  | none=>rw [q] at e;cases e
  | some cq=>
   rw [q] at e
   have e2:(στ[cq.2]?).join = some t:=Qc e
   have e3:στ[cq.2]? = some (some t):=by
    cases q2:στ[cq.2]? with
    | none=>rw [q2] at e2;cases e2
    | some o=>rw [q2] at e2;cases o with
     | none=>cases e2
     | some v'=>rw [show v' = t from Qc e2]
   obtain ⟨v,e4,r4⟩:=r.2 _ _ e3
   exact ⟨v,by show some ((σ[cq.2]?).join) = _;rw [e4];rfl,r4⟩
noncomputable def Sit.hput (S:Sit) (p:Addr) (vs:List V):Sit:=⟨S.α,S.M,upd S.H p (.lst vs),S.hid⟩
section
variable {S0:Sit} {us:List V}
theorem Rep.hput (m:MemOk K S) (hp:p ∈ S.hid) (r:Rep K S t v):Rep K (S.hput p us) t v:=by
 obtain ⟨_,ws,ew⟩:=m.hd p hp
 induction r with
 | non=>exact .non
 | bl b=>exact .bl b
 | int b=>exact .int b
 | str b=>exact .str b
 | ty b=>exact .ty b
 | @tup ts q vs h l _ ih=>
  refine .tup ?_ l ih
  rcases h with (h | ⟨o,h⟩) | h
  ·exact .inl (.inl ((qe (zbx h ew (by intro z;cases z))).trans h))
  ·exact .inl (.inr ⟨o,(qe (zbx h ew (by intro z;cases z))).trans h⟩)
  ·exact .inr h
 | @lst ts q vs h l _ ih=>
  refine .lst ?_ l ih
  rcases h with ⟨h,f⟩ | h
  ·have hne:q ≠ p:=fun z=>f.2 (by rw [z];exact hp)
   refine .inl ⟨?_,f⟩
   rcases h with h | ⟨o,h⟩
   ·exact .inl ((qe hne).trans h)
   ·exact .inr ⟨o,(qe hne).trans h⟩
  ·exact .inr h
 | ref h=>exact .ref (S:=S.hput p us) h
 | dct h l _ ih=>exact .dct (S:=S.hput p us) ((qe (zbx h ew (by intro z;cases z))).trans h) l ih
 | exc h hd l _ ih=>exact .exc (S:=S.hput p us) ((qe (zbx h ew (by intro z;cases z))).trans h) (hd.imp (fun z=>z) fun ⟨d,a,b⟩=>⟨d,a,(qe (zbx b ew (by intro z;cases z))).trans b⟩) l ih
theorem Reps.hput (m:MemOk K S) (hp:p ∈ S.hid) {t:List T} {v:List V} (r:Reps K S t v):Reps K (S.hput p us) t v:=⟨r.1,fun i a b e1 e2=>(r.2 i a b e1 e2).hput m hp⟩
theorem CellOk.hput (m:MemOk K S) (hp:p ∈ S.hid) (hq:q ≠ p) (r:CellOk K S q c):CellOk K (S.hput p us) q c:=by
 cases c with
 | lst ts=>obtain ⟨vs,q,r⟩:=r;exact ⟨vs,(qe hq).trans q,r.hput m hp⟩
 | dic ts=>obtain ⟨vs,q,r⟩:=r;exact ⟨vs,(qe hq).trans q,r.1,r.2.hput m hp⟩
 | ins C ts=>obtain ⟨dx,vs,q,r⟩:=r;exact ⟨dx,vs,(qe hq).trans q,r.1,r.2.hput m hp⟩
theorem Stp.hput (s:Stp K S0 S) (hp:p ∈ S.hid) (hn:S0.H p = none) (m0:MemOk K S0):Stp K S0 (S.hput p us):=by
 refine ⟨⟨s.le,s.al,s.fr,fun b o e f=>(qe (zi e hn)).trans (s.kp b o e f),fun q h=>⟨(s.hk q h).1,?_⟩,s.hf⟩,⟨fun a c e=>?_,s.mok.inj,fun q h=>?_⟩⟩
 ·obtain ⟨_,vs,e⟩:=m0.hd q h
  exact (qe (zi e hn)).trans (s.hk q h).2
 ·exact (s.mok.cell a c e).hput s.mok hp ((s.mok.hd p hp).1 a (List.getElem?_eq_some_iff.mp e).1)
 ·obtain ⟨h1,vs,e⟩:=s.mok.hd q h
  refine ⟨h1,?_⟩
  by_cases z:q = p
  ·exact ⟨us,by show upd S.H p _ q = _;rw [z];exact zn⟩
  ·exact ⟨vs,(qe z).trans e⟩
end
structure CB (X:Cx) (scope:Scope) (cl:List (Str × Addr)) (caps:List (Str × Nat)):Prop where
 hc:X.calm = true
 hclos:closureFor scope X.env = pure cl
 hcell:∀ y ∈ scope.names,y.2 = .cell->y.1 ∉ caps.map (·.1)
 hkind:scope.kind = .function
 hnames:∀ y ∈ scope.names,y.2 = .local->scope.names.lookup y.1 = some .local
 hcl:∀ y c,cl.lookup y = some c->X.env.cells.lookup y = some c
 hhas:∀ n y,((relabel scope X.env).names.lookup y = some .cell\/(relabel scope X.env).names.lookup y = some .free)->∃ c,(cellsFrom n scope.names cl).lookup y = some c
 hcap:∀ c ∈ caps,X.N[c.2]? = some c.1/\X.env.kindOf c.1 = some .cell/\((relabel scope X.env).names.lookup c.1 = some .cell\/(relabel scope X.env).names.lookup c.1 = some .free)
variable {cond:Ev->Mem->Out Bool} {elt:Expr} {cl:List (Str × Addr)} {caps:List (Str × Nat)} {ifs:List Expr} {tgs:List Str} {scope:Scope}
section
theorem zel (hh:lL XE X.K (yD ga bd cond f tgs caps) σ H Q) :
  zfv (lI XE X.K ga) (lG XE X.K bd) (lT XE X.K cond) (lE XE X.K f) (zL tgs caps) σ H Q:=by
 obtain ⟨S,στ,e,m,ev,fin⟩:=hh
 replace fin:FinL XE X.K S ((ga στ S.M).bind fun xs M1=>yh bd cond f xs (zbn tgs caps στ) M1 []) Q:=fin
 refine ⟨S,στ,(),e,m,ev,trivial,?_⟩
 show Fin XE (zas X.K) X.K S (ga στ S.M) _
 cases o:ga στ S.M with
 | bad=>rw [o] at fin;exact fin
 | exn C fs M'=>rw [o] at fin;exact fin
 | ok items M1=>
  rw [o] at fin
  replace fin:FinL XE X.K S (yh bd cond f items (zbn tgs caps στ) M1 []) Q:=fin
  intro S0 J e0 s0 it0 D hD
  have m0:=s0.mok
  have fin0:=fin.later s0
  have s1:=Stp.hide (K:=X.K) m0 hD []
  refine ⟨fun i n σ' H'=>∃ S στ acc vs,S.H = H'/\EvR X.K S στ σ'/\n = items.length - i/\i<=items.length/\D ∈ S.hid/\S.H D = some (.lst vs)/\Reps X.K S acc vs/\Stp X.K S0 S/\FinL XE X.K S0 (yh bd cond f (items.drop i) στ S.M acc) Q,
   ⟨items.length - 0,S0.hide D [],zbn tgs caps στ,[],[],rfl,(Mo.mo (K:=X.K) m0 s1 (Mo.mo (K:=X.K) m s0 ev)).cap tgs caps,rfl,Nat.zero_le _,.head _,zn,.nil,s1,by show FinL XE X.K S0 (yh bd cond f items (zbn tgs caps στ) S0.M []) Q;rw [e0];exact fin0⟩,?_⟩
  rintro i n σ1 H1 ⟨S2,στ2,acc,vs,e2,ev2,en,hi2,hid2,hD2,racc,s2,fin2⟩
  subst e2
  have m2:=s2.mok
  obtain ⟨itg,its⟩:=it0 S2 s2
  by_cases hl:i < items.length
  ·have eq:items.drop i = items[i] :: items.drop (i + 1):=drop_eq_getElem_cons hl
   rw [eq] at fin2
   obtain ⟨go,yl⟩:=itg i items[i] (by simp [hl])
   refine .inr ⟨go,fun σ' H'=>∃ S στ acc vs,S.H = H'/\EvR X.K S στ σ'/\D ∈ S.hid/\S.H D = some (.lst vs)/\Reps X.K S acc vs/\Stp X.K S0 S/\FinL XE X.K S0 (yh bd cond f (items.drop (i + 1)) στ S.M acc) Q,?_,fun x H' hy=>?_⟩
   ·rintro σ' H' ⟨S,στ,acc,vs,a1,a2,a3,a4,a5,a6,a7⟩
    exact ⟨items.length - (i + 1),by omega,S,στ,acc,vs,a1,a2,rfl,hl,a3,a4,a5,a6,a7⟩
   ·obtain ⟨S3,e3,eM,s3,r3⟩:=yl x H' hy
    replace fin2:FinL XE X.K S0 ((bd items[i] στ2 S2.M).bind fun σ1 M1=>(cond σ1 M1).bind fun b M2=>if b = true then (f σ1 M2).bind fun t M3=>if acc.length < sizeLine then yh bd cond f (items.drop (i + 1)) σ1 M3 (acc ++ [t]) else .bad else yh bd cond f (items.drop (i + 1)) σ1 M2 acc) Q:=fin2
    refine ⟨S3,στ2,items[i],e3,s3.mok,Mo.mo m2 s3 ev2,r3,?_⟩
    show Fin XE (EvR X.K) X.K S3 (bd items[i] στ2 S3.M) _
    rw [eM]
    cases o1:bd items[i] στ2 S2.M with
    | bad=>rw [o1] at fin2;exact fin2
    | exn C fs M'=>rw [o1] at fin2;exact fun S' od a1 a2 a3=>fin2 S' od a1 ((s2.trans s3).trans a2) a3
    | ok σ4 M4=>
     rw [o1] at fin2
     intro S4 σ4v e4 s4 ev4
     have t4:=s3.trans s4
     replace fin2:FinL XE X.K S0 ((cond σ4 M4).bind fun b M2=>if b = true then (f σ4 M2).bind fun t M3=>if acc.length < sizeLine then yh bd cond f (items.drop (i + 1)) σ4 M3 (acc ++ [t]) else .bad else yh bd cond f (items.drop (i + 1)) σ4 M2 acc) Q:=fin2
     refine ⟨S4,σ4,(),rfl,s4.mok,ev4,trivial,?_⟩
     show Fin XE EqR X.K S4 (cond σ4 S4.M) _
     rw [e4]
     cases o2:cond σ4 M4 with
     | bad=>rw [o2] at fin2;exact fin2
     | exn C fs M'=>rw [o2] at fin2;exact fun S' od a1 a2 a3=>fin2 S' od a1 ((s2.trans t4).trans a2) a3
     | ok b M5=>
      rw [o2] at fin2
      intro S5 b5 e5 s5 eb
      have eb':b = b5:=eb
      subst eb'
      have t5:=t4.trans s5
      replace fin2:FinL XE X.K S0 (if b = true then (f σ4 M5).bind fun t M3=>if acc.length < sizeLine then yh bd cond f (items.drop (i + 1)) σ4 M3 (acc ++ [t]) else .bad else yh bd cond f (items.drop (i + 1)) σ4 M5 acc) Q:=fin2
      cases b with
      | false=>
       rw [if_neg Q4] at fin2
       refine (if_neg Q4).mpr ⟨S5,σ4,acc,vs,rfl,Mo.mo s4.mok s5 ev4,(t5.hk D hid2).1,by rw [(t5.hk D hid2).2];exact hD2,racc.grow m2 t5.toGrow,s2.trans t5,by rw [e5];exact fin2⟩
      | true=>
       rw [if_pos rfl] at fin2
       refine (if_pos rfl).mpr ⟨S5,σ4,(),rfl,s5.mok,Mo.mo s4.mok s5 ev4,trivial,?_⟩
       show Fin XE (Rep X.K) X.K S5 (f σ4 S5.M) _
       rw [e5]
       cases o3:f σ4 M5 with
       | bad=>rw [o3] at fin2;exact fin2
       | exn C fs M'=>rw [o3] at fin2;exact fun S' od a1 a2 a3=>fin2 S' od a1 ((s2.trans t5).trans a2) a3
       | ok t M6=>
        rw [o3] at fin2
        replace fin2:FinL XE X.K S0 (if acc.length < sizeLine then yh bd cond f (items.drop (i + 1)) σ4 M6 (acc ++ [t]) else .bad) Q:=fin2
        intro S6 v6 e6 s6 r6
        have t6:=t5.trans s6
        have hz:acc.length < sizeLine:=by
         by_cases hz:acc.length < sizeLine
         ·exact hz
         ·rw [if_neg hz] at fin2;exact fin2.elim
        rw [if_pos hz] at fin2
        have hid6:=(t6.hk D hid2).1
        have hD6:S6.H D = some (.lst vs):=by rw [(t6.hk D hid2).2];exact hD2
        refine ⟨vs,hD6,by rw [← racc.1];exact hz,S6.hput D (vs ++ [v6]),σ4,acc ++ [t],vs ++ [v6],rfl,?_,hid6,zn,?_,(s2.trans t6).hput hid6 hD m0,by show FinL XE X.K S0 (yh bd cond f (items.drop (i + 1)) σ4 S6.M (acc ++ [t])) Q;rw [e6];exact fin2⟩
        ·have ev6:EvR X.K S6 σ4 σ4v:=Mo.mo s4.mok (s5.trans s6) ev4
         exact ⟨ev6.1,fun i t e=>let ⟨v,e',q⟩:=ev6.2 i t e;⟨v,e',q.hput s6.mok hid6⟩⟩
        ·exact ((racc.grow m2 t6.toGrow).app (.cons r6 .nil)).hput s6.mok hid6
  ·rw [drop_eq_nil_of_le (by omega)] at fin2
   refine .inl ⟨its i (by omega),?_⟩
   exact fin2 S2 D vs rfl s2 hD hid2 hD2 racc
theorem ziV:PTs X [] (lT XE X.K zO):=fun pins s σ H Q I h=>zij pins s σ H Q I (zdw h)
end
def LNL {A AV:Type} (XE:XK) (K:Frag) (RA:Sit->A->AV->Prop) (k:A->Ev->Mem->Out (List T)) (av:AV) (σ:L2.St) (H:Hp) (Q:VK):Prop:=
 ∃ (S:Sit) (στ:Ev) (a:A),S.H = H/\MemOk K S/\EvR K S στ σ/\RA S a av/\FinL XE K S (k a στ S.M) Q
theorem LNL.bind {A AV B BV:Type} {RA:Sit->A->AV->Prop} {RB:Sit->B->BV->Prop} [Mo K RA] {f:A->Ev->Mem->Out B} {k:A->B->Ev->Mem->Out (List T)} {av:AV} 
 (h:LNL XE K RA (fun a σ M=>(f a σ M).bind fun b M1=>k a b σ M1) av σ H Q):LN XE RB K RA f av σ H (fun bv H1=>LNL XE K (PrR RA RB) (fun ab=>k ab.1 ab.2) (av,bv) σ H1 Q):=by
 obtain ⟨S,στ,a,e,m,ev,ra,fin⟩:=h
 refine ⟨S,στ,a,e,m,ev,ra,?_⟩
 replace fin:FinL XE K S ((f a στ S.M).bind fun b M1=>k a b στ M1) Q:=fin
 cases q:f a στ S.M with
 | bad=>rw [q] at fin;exact fin
 | exn C fs M'=>rw [q] at fin;exact fin
 | ok b M1=>
  rw [q] at fin
  intro S1 c e1 s1 r1
  refine ⟨S1,στ,(a,b),rfl,s1.mok,Mo.mo m s1 ev,⟨Mo.mo m s1 ra,r1⟩,?_⟩
  rw [e1]
  exact fin.later s1
def L0L {A AV:Type} (XE:XK) (K:Frag) (RA:Sit->A->AV->Prop) (k:A->Mem->Out (List T)) (av:AV) (H:Hp) (Q:VK):Prop:=∃ (S:Sit) (a:A),S.H = H/\MemOk K S/\RA S a av/\FinL XE K S (k a S.M) Q
noncomputable def zfQ (XE:XK) (K:Frag) (o:List T->Mem->Out (List T)):List V->Hp->VK->Prop:=fun xs H Q=>L0L XE K (Reps K) o xs H Q
noncomputable def lOp (o:T->T->Mem->Out (List T)) (f g:Ev->Mem->Out T):Ev->Mem->Out (List T):=fun σ M=>(f σ M).bind fun x M1=>(g σ M1).bind fun y M2=>o x y M2
noncomputable def zbz (F:List T->Mem->Out (List T)) (g:Ev->Mem->Out (List T)):Ev->Mem->Out (List T):=fun σ M=>(g σ M).bind fun ts M1=>F ts M1
theorem zd6 (m:MemOk K S) (fin:FinL XE K S (.ok xs S.M) Q) (r:Reps K S xs vs):∀ p,S.H p = none->Q (.ref p) (upd S.H p (.lst vs)):=fun p hp=>
 fin (S.hide p vs) p vs rfl (Stp.hide m hp vs) hp (.head _) zn (r.grow m (Stp.hide m hp vs).toGrow)
variable {F:List T->Mem->Out (List T)}
section
variable {a b:Expr} {g:Ev->Mem->Out T} {p:Pos}
theorem zlq {id:String} (hc:CallR X (.type id) (zfQ XE X.K F)) (hg:Gl X x) (hm:X.mg x = none) (hv:bootBuiltins x = some (.type id)) (ha:GA X XE (e :: es) ga) (hn:x ≠ "__name__":=by decide) (hdb:(x == ("__debug__":Str)) = false:=by decide)
 (he:noStar e = true:=by rfl) (hpl:es.all noStar = true:=by rfl) :
  GL X XE (.Call (.Name x p) (e :: es) [] pos) (zbz F ga):=PE.imp (zc5 hc hg hm hv ha hn hdb (zG he) (zZ hpl)) fun σ H Q ⟨S,στ,e,m,ev,fin⟩=>
 LN.mono (LNL.bind (f:=fun (_:Unit) σ M=>ga σ M) (k:=fun _ ts σ M1=>F ts M1) (RA:=UnR) (RB:=Reps X.K) ⟨S,στ,(),e,m,ev,trivial,fin⟩) fun vs H1 ⟨S,στ,a,e,m,ev,ra,fin⟩=>⟨S,a.2,e,m,ra.2,fin⟩
end
noncomputable def yI (k:Int->Int->Mem->Out T) (x y:T) (M:Mem):Out T:=match x,y with
 | .int i,.int j=>k i j M
 | _,_=>.bad
def Mo64 (i j:Int):Prop:=(i.natAbs < 10 ^ 3000/\j.natAbs < 10 ^ 3000)\/(-(2 ^ 64) < i/\i < 2 ^ 64)\/(-(2 ^ 64) < j/\j < 2 ^ 64)
instance (i j:Int):Decidable (Mo64 i j):=inferInstanceAs (Decidable (_\/_))
variable {i j:Int}
theorem Mo64.ok (h:Mo64 i j):CMulB i j:=by
 rcases h with h | h
 ·exact .inl ⟨3000,3000,h.1,h.2,Q3 _,Q3 _⟩
 ·exact .inr h
noncomputable def qY:T->T->Mem->Out T:=yI fun i j M=>.ok (.int (i - j)) M
noncomputable def zd7:T->T->Mem->Out T:=yI fun i j M=>if Mo64 i j then .ok (.int (i * j)) M else .bad
noncomputable def z8:T->T->Mem->Out T:=yI fun i j M=>if j ≠ 0/\j.natAbs < 10 ^ 2000 then .ok (.int (i.fdiv j)) M else .bad
noncomputable def yQ:T->T->Mem->Out T:=yI fun i j M=>if j ≠ 0 then .ok (.int (i.fmod j)) M else .bad
noncomputable def y4:T->T->Mem->Out T:=yI fun i j M=>if 0<=j/\j<=1000000/\i.natAbs < 2 ^ 64 then .ok (.int (i ^ j.toNat)) M else .bad
noncomputable def ltI:T->T->Mem->Out T:=yI fun i j M=>.ok (.bl (decide (i < j))) M
noncomputable def leI:T->T->Mem->Out T:=yI fun i j M=>.ok (.bl (decide (i<=j))) M
noncomputable def gtI:T->T->Mem->Out T:=yI fun i j M=>.ok (.bl (decide (j < i))) M
noncomputable def geI:T->T->Mem->Out T:=yI fun i j M=>.ok (.bl (decide (j<=i))) M
noncomputable def zlL:T->Mem->Out T:=fun x M=>match x with
 | .int i=>.ok (.int (-i)) M
 | _=>.bad
variable {y:V}
section
theorem zeZ (r:Rep K S (.int i) v):v = .int i:=by cases r;rfl
theorem zQ {fn:Value->Value->Sem Value} {r:R2} {k:Int->Int->Mem->Out T} (ho:OpR X fn r)
  (h:∀ i j S Q,MemOk X.K S->Fin XE (Rep X.K) X.K S (k i j S.M) Q->r (.int i) (.int j) S.H Q):OpR X fn (lR2 XE X.K (yI k)):=by
 intro pins s σ H x y v u Q I rx ry ⟨S,⟨tx,ty⟩,e,m,⟨r1,r2⟩,fin⟩
 replace fin:Fin XE (Rep X.K) X.K S (yI k tx ty S.M) Q:=fin
 unfold yI at fin
 split at fin
 ·have e1:=zeZ r1
  have e2:=zeZ r2
  dsimp only at e1 e2
  subst e1;subst e2;subst e
  exact ho pins s σ S.H _ _ v u Q I rx ry (h _ _ S Q m fin)
 ·exact fin.elim
theorem yJ:OpR X (binaryOp .Sub) (lR2 XE X.K qY):=zQ zjP fun i j S Q m fin=>⟨i,j,rfl,rfl,fin S _ rfl (.refl m) (.int _)⟩
theorem zax:OpR X (binaryOp .FloorDiv) (lR2 XE X.K z8):=zQ zhk fun i j S Q m fin=>by
 by_cases h:j ≠ 0/\j.natAbs < 10 ^ 2000
 ·rw [if_pos h] at fin
  exact ⟨i,j,rfl,rfl,⟨h.1,2000,h.2,Q3 _⟩,fin S _ rfl (.refl m) (.int _)⟩
 ·rw [if_neg h] at fin;exact fin.elim
theorem zK:OpR X (binaryOp .Mod) (lR2 XE X.K yQ):=zQ ziA fun i j S Q m fin=>by
 by_cases h:j ≠ 0
 ·rw [if_pos h] at fin
  exact ⟨i,j,rfl,rfl,h,fin S _ rfl (.refl m) (.int _)⟩
 ·rw [if_neg h] at fin;exact fin.elim
theorem qJ:OpR X (binaryOp .Pow) (lR2 XE X.K y4):=zQ zjQ fun i j S Q m fin=>by
 by_cases h:0<=j/\j<=1000000/\i.natAbs < 2 ^ 64
 ·rw [if_pos h] at fin
  exact ⟨i,j,rfl,rfl,h,fin S _ rfl (.refl m) (.int _)⟩
 ·rw [if_neg h] at fin;exact fin.elim
theorem zcl:OpR X (compareOp .Lt) (lR2 XE X.K ltI):=zQ zk7 fun i j S Q m fin=>⟨i,j,rfl,rfl,fin S _ rfl (.refl m) (.bl _)⟩
theorem zjR:OpR X (compareOp .LtE) (lR2 XE X.K leI):=zQ zk8 fun i j S Q m fin=>⟨i,j,rfl,rfl,fin S _ rfl (.refl m) (.bl _)⟩
theorem zcm:OpR X (compareOp .Gt) (lR2 XE X.K gtI):=zQ zk9 fun i j S Q m fin=>⟨i,j,rfl,rfl,fin S _ rfl (.refl m) (.bl _)⟩
noncomputable def isB:T->T->Mem->Out T:=fun x y M=>match x,y with
 | .bl a,.bl b=>.ok (.bl (a == b)) M
 | _,_=>.bad
noncomputable def zlb:T->T->Mem->Out T:=fun x y M=>match x,y with
 | .bl a,.bl b=>.ok (.bl (a != b)) M
 | _,_=>.bad
noncomputable def zfT (M:Mem):T->T->Option T
 | .tup xs,.int i=>atI xs i
 | .lst xs,.int i=>atI xs i
 | .ref a,.int i=>match M[a]? with
  | some (.lst xs)=>atI xs i
  | _=>none
 | _,_=>none
noncomputable def zd4 (o:Option T) (M:Mem):Out T:=match o with
 | some t=>.ok t M
 | none=>.bad
noncomputable def ixT:T->T->Mem->Out T:=fun x y M=>zd4 (zfT M x y) M
theorem Reps.atI (r:Reps K S ts vs) (e:L2.atI ts i = some t):∃ v,L2.atI vs i = some v/\Rep K S t v:=by
 unfold L2.atI at e ⊢
 rw [← r.1]
 cases q:ixN ts.length i with
 | none=>rw [q] at e;cases e
 | some j=>
  rw [q] at e
  obtain ⟨v,e2,r2⟩:=r.get (show ts[j]? = some t from e)
  exact ⟨v,e2,r2⟩
theorem zi5 {tx ty:T} {x:V} (m:MemOk K S) (r1:Rep K S tx x) (r2:Rep K S ty y) (e:zfT S.M tx ty = some t) :
  ∃ p vs i v,x = .ref p/\y = .int i/\(SqL K S.H p vs\/SqT K S.H p vs)/\L2.atI vs i = some v/\Rep K S t v:=by
 unfold zfT at e
 split at e
 ·cases r2
  cases r1 with
  | @tup _ p vs h l r=>
   obtain ⟨v,e2,r3⟩:=Reps.atI ⟨l,r⟩ e
   exact ⟨p,vs,_,v,rfl,rfl,.inr h,e2,r3⟩
 ·cases r2
  cases r1 with
  | @lst _ p vs h l r=>
   obtain ⟨v,e2,r3⟩:=Reps.atI ⟨l,r⟩ e
   exact ⟨p,vs,_,v,rfl,rfl,.inl (zbd h),e2,r3⟩
 ·split at e
  ·rename_i q
   cases r2
   cases r1 with
   | ref h=>
    obtain ⟨vs,q2,r⟩:=m.cell _ _ q
    obtain ⟨v,e2,r3⟩:=Reps.atI r e
    exact ⟨_,vs,_,v,rfl,rfl,.inl (.inl (.inl q2)),e2,r3⟩
  ·cases e
 ·cases e
theorem ze3 {o:Option T} (fin:Fin XE (Rep K) K S (zd4 o S.M) Q):∃ t,o = some t/\Fin XE (Rep K) K S (.ok t S.M) Q:=by
 unfold zd4 at fin
 split at fin
 ·exact ⟨_,rfl,fin⟩
 ·exact fin.elim
theorem qr:IxR X (lR2 XE X.K ixT):=by
 intro va sl pins s σ H x y v u Q I rx ry ⟨S,⟨tx,ty⟩,e,m,⟨r1,r2⟩,fin⟩ hs
 obtain ⟨t,et,fin⟩:=ze3 (show Fin XE (Rep X.K) X.K S (zd4 (zfT S.M tx ty) S.M) Q from fin)
 obtain ⟨p,vs,i,w,e1,e2,hq,ea,r3⟩:=zi5 m r1 r2 et
 dsimp only at e1 e2
 subst e1;subst e2;subst e
 refine zkc va sl pins s σ S.H _ _ v u Q I rx ry ?_ hs
 rcases hq with hq | hq
 ·exact .inl ⟨p,vs,i,w,rfl,rfl,hq,ea,fin S w rfl (.refl m) r3⟩
 ·exact .inr (.inl ⟨p,vs,i,w,rfl,rfl,hq,ea,fin S w rfl (.refl m) r3⟩)
noncomputable def yr (k:T->Mem->Out T) (ts:List T) (M:Mem):Out T:=match ts with
 | [t]=>k t M
 | _=>.bad
noncomputable def call2 (k:T->T->Mem->Out T) (ts:List T) (M:Mem):Out T:=match ts with
 | [t,u]=>k t u M
 | _=>.bad
theorem zaZ {F:Value} {k:T->Mem->Out T} (h:∀ (pins:List (Addr × Obj)) (s:Shared) (σ:L2.St) (S:Sit) (t:T) (x:V) (v:Value) (Q:VK),Inv X pins σ S.H s->RelV x v->MemOk X.K S->Rep X.K S t x->Fin XE (Rep X.K) X.K S (k t S.M) Q->wpAny (model X.prog X.w) X.A (call F [v]) (EP X pins σ Q) X.xe s):CallR X F (lRN XE X.K (yr k)):=by
 intro pins s σ H xs us Q I r ⟨S,ts,e,m,rs,fin⟩
 subst e
 replace fin:Fin XE (Rep X.K) X.K S (yr k ts S.M) Q:=fin
 unfold yr at fin
 split at fin
 ·obtain ⟨v,vs,rfl,r1,r2⟩:=rs.consT
  rw [r2.nilT] at r
  obtain ⟨u,rfl,rx⟩:=vals1 r
  exact h pins s σ S _ v u Q I rx m r1 fin
 ·exact fin.elim
theorem zcb {F:Value} {k:T->T->Mem->Out T} (h:∀ (pins:List (Addr × Obj)) (s:Shared) (σ:L2.St) (S:Sit) (t1 t2:T) (x1 x2:V) (v1 v2:Value) (Q:VK),Inv X pins σ S.H s->RelV x1 v1->RelV x2 v2->MemOk X.K S->Rep X.K S t1 x1->Rep X.K S t2 x2->Fin XE (Rep X.K) X.K S (k t1 t2 S.M) Q->wpAny (model X.prog X.w) X.A (call F [v1,v2]) (EP X pins σ Q) X.xe s):CallR X F (lRN XE X.K (call2 k)):=by
 intro pins s σ H xs us Q I r ⟨S,ts,e,m,rs,fin⟩
 subst e
 replace fin:Fin XE (Rep X.K) X.K S (call2 k ts S.M) Q:=fin
 unfold call2 at fin
 split at fin
 ·obtain ⟨v,vs,rfl,r1,r2⟩:=rs.consT
  obtain ⟨v2,vs2,rfl,r3,r4⟩:=r2.consT
  rw [r4.nilT] at r
  obtain ⟨u,w,rfl,rx,ry⟩:=vals2 r
  exact h pins s σ S _ _ v v2 u w Q I rx ry m r1 r3 fin
 ·exact fin.elim
noncomputable def zar:T->Mem->Out T:=fun t M=>match t with
 | .str z=>if z.length<=sizeLine then .ok (.int z.length) M else .bad
 | t=>match zci t M with
  | some xs=>.ok (.int xs.length) M
  | none=>.bad
theorem yN:CallR X (.builtin "len") (lRN XE X.K (yr zar)):=zaZ fun pins s σ S t x v Q I rx m r fin=>by
 unfold zar at fin
 split at fin
 ·cases r
  split at fin
  ·rename_i hz
   exact zeo pins s σ S.H _ _ Q I (.cons rx .nil) ⟨_,rfl,hz,fin S _ rfl (.refl m) (.int _)⟩
  ·exact fin.elim
 ·split at fin
  ·rename_i xs q
   obtain ⟨p,vs,rfl,hq,rs⟩:=za9 m r q
   exact zep pins s σ S.H _ _ Q I (.cons rx .nil) ⟨p,vs,rfl,hq,by rw [← rs.1];exact fin S _ rfl (.refl m) (.int _)⟩
  ·exact fin.elim
noncomputable def zd9:T->T->Mem->Out T:=yI fun i j M=>.ok (.int (if j > i then j else i)) M
noncomputable def zd8:T->T->Mem->Out T:=yI fun i j M=>.ok (.int (if j < i then j else i)) M
theorem zde (hc:X.calm = true):CallR X (.builtin "max") (lRN XE X.K (call2 zd9)):=zcb fun pins s σ S t1 t2 x1 x2 v1 v2 Q I rx ry m r1 r2 fin=>by
 unfold zd9 yI at fin
 split at fin
 ·cases r1;cases r2
  exact zgW hc pins s σ S.H _ _ Q I (.cons rx (.cons ry .nil)) ⟨_,_,rfl,fin S _ rfl (.refl m) (.int _)⟩
 ·exact fin.elim
theorem zdd (hc:X.calm = true):CallR X (.builtin "min") (lRN XE X.K (call2 zd8)):=zcb fun pins s σ S t1 t2 x1 x2 v1 v2 Q I rx ry m r1 r2 fin=>by
 unfold zd8 yI at fin
 split at fin
 ·cases r1;cases r2
  exact zgV hc pins s σ S.H _ _ Q I (.cons rx (.cons ry .nil)) ⟨_,_,rfl,fin S _ rfl (.refl m) (.int _)⟩
 ·exact fin.elim
noncomputable def zcd:List T->Option (List Bool)
 | []=>some []
 | .bl b :: r=>(zcd r).map (b :: ·)
 | _=>none
theorem zer {K:Frag} {S:Sit}:∀ {ts:List T} {vs:List V} {bs:List Bool},zcd ts = some bs->Reps K S ts vs->vs = bs.map V.bl
 | [],vs,bs,e,r=>by cases e;exact r.nilT
 | .bl b :: ts,vs,bs,e,r=>by
  unfold zcd at e
  obtain ⟨v,vs',rfl,r1,r2⟩:=r.consT
  cases q:zcd ts with
  | none=>rw [q] at e;cases e
  | some bs'=>
   rw [q] at e
   cases e
   cases r1
   rw [zer q r2];rfl
 | .non :: _,_,_,e,_=>by cases e
 | .int _ :: _,_,_,e,_=>by cases e
 | .str _ :: _,_,_,e,_=>by cases e
 | .ty _ :: _,_,_,e,_=>by cases e
 | .tup _ :: _,_,_,e,_=>by cases e
 | .lst _ :: _,_,_,e,_=>by cases e
 | .ref _ :: _,_,_,e,_=>by cases e
noncomputable def zez:T->Mem->Out T:=fun t M=>match qp t M with
 | some xs=>match zcd xs with
  | some bs=>.ok (.bl (bs.all id)) M
  | none=>.bad
 | none=>.bad
theorem zgX (hc:X.calm = true):CallR X (.builtin "all") (lRN XE X.K (yr zez)):=zaZ fun pins s σ S t x v Q I rx m r fin=>by
 unfold zez at fin
 split at fin
 ·rename_i xs q
  split at fin
  ·rename_i bs q2
   obtain ⟨p,vs,rfl,hq,rs⟩:=yk m r q
   rw [zer q2 rs] at hq
   exact zgY hc pins s σ S.H _ _ Q I (.cons rx .nil) ⟨p,bs,rfl,hq,fin S _ rfl (.refl m) (.bl _)⟩
  ·exact fin.elim
 ·exact fin.elim
noncomputable def za4:T->Mem->Out T:=fun t M=>match zci t M with
 | some xs=>.ok (.tup xs) M
 | none=>.bad
theorem zeL:CallR X (.type "tuple") (lRN XE X.K (yr za4)):=zaZ fun pins s σ S t x v Q I rx m r fin=>by
 unfold za4 at fin
 split at fin
 ·rename_i xs q
  obtain ⟨p,vs,rfl,hq,rs⟩:=za9 m r q
  refine zdp pins s σ S.H _ _ Q I (.cons rx .nil) ⟨p,vs,rfl,?_⟩
  rcases hq with hq | hq
  ·refine .inl ⟨hq,fun l hl=>?_⟩
   have s2:=Stp.new m hl (.tup vs)
   exact fin ⟨S.α,S.M,upd S.H l (.tup vs),S.hid⟩ (.ref l) rfl s2 (.tup (.inl (.inl zn)) rs.1 (rs.grow m s2.toGrow).2)
  ·exact .inr ⟨hq,fin S _ rfl (.refl m) (.tup hq rs.1 rs.2)⟩
 ·exact fin.elim
noncomputable def zag (x:T) (ts:List T) (M:Mem):Out T:=match x,ts with
 | .ref a,[t]=>match M[a]? with
  | some (.lst xs)=>if xs.length < sizeLine then .ok .non (M.set a (.lst (xs ++ [t]))) else .bad
  | _=>.bad
 | _,_=>.bad
noncomputable def zbX (o i t:T) (M:Mem):Out Unit:=match o,i with
 | .ref a,.int k=>match M[a]? with
  | some (.lst xs)=>match ixN xs.length k with
   | some j=>.ok () (M.set a (.lst (xs.set j t)))
   | none=>.bad
  | _=>.bad
 | _,_=>.bad
theorem zbw (m:MemOk K S) {a:Nat} (e:S.M[a]? = some c) (r:Reps K S ts vs):Stp K S (S.put a (.lst vs) (.lst ts)):=by
 have ha:a < S.M.length:=(List.getElem?_eq_some_iff.mp e).1
 exact Stp.put m ha _ _ ⟨vs,zn,r.grow m (Grow.put m ha _ _)⟩
theorem zds:zcZ X (zfP XE X.K zbX):=by
 intro pins s σ H o i v ov iv u Q I ro ri rv ⟨S,⟨⟨to,ti⟩,tv⟩,e,m,⟨⟨r1,r2⟩,r3⟩,fin⟩
 subst e
 replace fin:Fin XE UnR X.K S (zbX to ti tv S.M) (fun _ H'=>Q H'):=fin
 unfold zbX at fin
 split at fin
 ·split at fin
  ·rename_i a k _ xs q
   split at fin
   ·rename_i j qj
    cases r1
    cases r2
    obtain ⟨vs,q2,rs⟩:=m.cell _ _ q
    refine set_list pins s σ S.H _ _ v ov iv u Q I ro ri rv ⟨S.α a,vs,k,j,rfl,rfl,q2,by rw [← rs.1];exact qj,?_⟩
    exact fin (S.put a (.lst (vs.set j v)) (.lst (xs.set j tv))) () rfl (zbw m q (rs.set r3 j)) trivial
   ·exact fin.elim
  ·exact fin.elim
 ·exact fin.elim
noncomputable def yO (x:T) (M:Mem):Out T:=match qp x M with
 | some _=>.ok x M
 | none=>.bad
noncomputable def zdz (F:T->List T->Mem->Out T) (f:Ev->Mem->Out T) (g:Ev->Mem->Out (List T)):Ev->Mem->Out T:=fun σ M=>(f σ M).bind fun x M1=>(g σ M1).bind fun ts M2=>F x ts M2
end
noncomputable def z9 (xs:List T) (lo hi:Option Int):List T:=(xs.drop (HT.sIx xs.length 0 lo)).take (HT.sIx xs.length xs.length hi - HT.sIx xs.length 0 lo)
theorem Reps.cutV (r:Reps K S ts vs) (lo hi:Option Int):Reps K S (z9 ts lo hi) (L2.cutV vs lo hi):=by
 unfold z9 L2.cutV
 rw [← r.1]
 exact r.sub _ _
theorem zfY {lo hi:Option Int} (h:HT.sIx xs.length 0 lo = 0/\HT.sIx xs.length xs.length hi = xs.length):z9 xs lo hi = xs:=by
 unfold z9
 rw [h.1,h.2]
 simp
theorem zcN (m:MemOk K S) (fin:Fin XE (Rep K) K S (.ok (.tup xs) S.M) Q) (r:Reps K S xs vs):∀ p,S.H p = none->Q (.ref p) (upd S.H p (.tup vs)):=fun p hp=>by
 have s2:=Stp.new m hp (.tup vs)
 exact fin ⟨S.α,S.M,upd S.H p (.tup vs),S.hid⟩ (.ref p) rfl s2 (.tup (.inl (.inl zn)) r.1 (r.grow m s2.toGrow).2)
theorem ze4 (m:MemOk K S) (fin:Fin XE (Rep K) K S (.ok (.lst xs) S.M) Q) (r:Reps K S xs vs):∀ p,S.H p = none->Q (.ref p) (upd S.H p (.lst vs)):=fun p hp=>by
 have s2:=Stp.new m hp (.lst vs)
 exact fin ⟨S.α,S.M,upd S.H p (.lst vs),S.hid⟩ (.ref p) rfl s2 (.lst (.inl ⟨.inl zn,m.off_none hp⟩) r.1 (r.grow m s2.toGrow).2)
noncomputable def ym:T->T->Mem->Out T:=fun x y M=>match x,y with
 | .int i,.int j=>.ok (.int (i + j)) M
 | .str a,.str b=>if a.length + b.length<=sizeLine then .ok (.str (a ++ b)) M else .bad
 | .tup xs,.tup ys=>if xs.length + ys.length<=sizeLine then .ok (.tup (xs ++ ys)) M else .bad
 | x,y=>match qp x M,qp y M with
  | some xs,some ys=>if xs.length + ys.length<=sizeLine then .ok (.lst (xs ++ ys)) M else .bad
  | _,_=>.bad
noncomputable def zI:T->T->Mem->Out T:=fun x y M=>match x,y with
 | .int i,.int j=>if Mo64 i j then .ok (.int (i * j)) M else .bad
 | .tup xs,.int k=>if xs ≠ []/\2<=k/\k < 2 ^ 63/\xs.length * k.toNat<=sizeLine then .ok (.tup (List.replicate k.toNat xs).flatten) M else .bad
 | _,_=>.bad
variable {pins:List (Addr × Obj)} {s:Shared}
section
theorem zh:OpR X (binaryOp .Add) (lR2 XE X.K ym):=by
 intro pins s σ H x y v u Q I rx ry ⟨S,⟨tx,ty⟩,e,m,⟨r1,r2⟩,fin⟩
 subst e
 replace fin:Fin XE (Rep X.K) X.K S (ym tx ty S.M) Q:=fin
 unfold ym at fin
 split at fin
 ·cases r1;cases r2
  exact zjT pins s σ S.H _ _ v u Q I rx ry ⟨_,_,rfl,rfl,fin S _ rfl (.refl m) (.int _)⟩
 ·cases r1;cases r2
  split at fin
  ·rename_i hz
   exact zfI pins s σ S.H _ _ v u Q I rx ry ⟨_,_,rfl,rfl,hz,fin S _ rfl (.refl m) (.str _)⟩
  ·exact fin.elim
 ·split at fin
  ·rename_i hz
   cases r1 with
   | @tup _ p vs h l r=>
   cases r2 with
   | @tup _ p2 vs2 h2 l2 rr2=>
   have r1:Reps X.K S _ vs:=⟨l,r⟩
   have r2:Reps X.K S _ vs2:=⟨l2,rr2⟩
   refine ziD pins s σ S.H _ _ v u Q I rx ry ⟨p,p2,vs,vs2,rfl,rfl,h,h2,by rw [← l,← l2];exact hz,fun e=>?_,fun e1 e2=>?_,fun e1 e2=>zcN m fin (r1.app r2)⟩
   ·subst e
    rw [r1.nil_inv,nil_append] at fin
    exact fin S _ rfl (.refl m) (.tup h2 l2 rr2)
   ·subst e2
    rw [r2.nil_inv,append_nil] at fin
    exact fin S _ rfl (.refl m) (.tup h l r)
  ·exact fin.elim
 ·split at fin
  ·rename_i xs ys q1 q2
   split at fin
   ·rename_i hz
    obtain ⟨p,vs,e1,h1,s1⟩:=yk m r1 q1
    obtain ⟨p2,vs2,e2,h2,s2⟩:=yk m r2 q2
    dsimp only at e1 e2
    subst e1;subst e2
    exact ziC pins s σ S.H _ _ v u Q I rx ry ⟨p,p2,vs,vs2,rfl,rfl,h1,h2,by rw [← s1.1,← s2.1];exact hz,ze4 m fin (s1.app s2)⟩
   ·exact fin.elim
  ·exact fin.elim
theorem Reps.rep (r:Reps K S ts vs) (n:Nat):Reps K S (List.replicate n ts).flatten (List.replicate n vs).flatten:=by
 induction n with
 | zero=>exact .nil
 | succ n ih=>rw [replicate_succ,replicate_succ,flatten_cons,flatten_cons];exact r.app ih
theorem qW:OpR X (binaryOp .Mult) (lR2 XE X.K zI):=by
 intro pins s σ H x y v u Q I rx ry ⟨S,⟨tx,ty⟩,e,m,⟨r1,r2⟩,fin⟩
 subst e
 replace fin:Fin XE (Rep X.K) X.K S (zI tx ty S.M) Q:=fin
 unfold zI at fin
 split at fin
 ·cases r1;cases r2
  split at fin
  ·rename_i h
   exact ziz pins s σ S.H _ _ v u Q I rx ry ⟨_,_,rfl,rfl,h.ok,fin S _ rfl (.refl m) (.int _)⟩
  ·exact fin.elim
 ·split at fin
  ·rename_i h
   cases r2
   cases r1 with
   | @tup _ p vs hq l r=>
   have r1:Reps X.K S _ vs:=⟨l,r⟩
   exact ziy pins s σ S.H _ _ v u Q I rx ry ⟨p,_,vs,rfl,rfl,hq,fun z=>h.1 (by subst z;exact r1.nil_inv),h.2.1,h.2.2.1,by rw [← l];exact h.2.2.2,zcN m fin (r1.rep _)⟩
  ·exact fin.elim
 ·exact fin.elim
noncomputable def lO (XE:XK) (K:Frag) (f:Ev->Mem->Out (Option Int)):TO:=fun σ H Q=>LN XE EqR K UnR (fun _ σ M=>f σ M) () σ H Q
def GO (X:Cx) (XE:XK) (e:Option Expr) (f:Ev->Mem->Out (Option Int)):Prop:=PO X e (lO XE X.K f)
noncomputable def zaN:Ev->Mem->Out (Option Int):=fun _ M=>.ok none M
noncomputable def zhz (x:T) (M:Mem):Out (Option Int):=match x with
 | .int i=>.ok (some i) M
 | _=>.bad
noncomputable def zaM (f:Ev->Mem->Out T):Ev->Mem->Out (Option Int):=fun σ M=>(f σ M).bind zhz
theorem PO.imp {e:Option Expr} {t t':TO} (h:PO X e t) (i:∀ σ H Q,t' σ H Q->t σ H Q):PO X e t':=fun pins s σ H Q I q=>h pins s σ H Q I (i σ H Q q)
noncomputable def zcT (x:T) (lo hi:Option Int) (M:Mem):Out T:=match x with
 | .tup xs=>.ok (.tup (z9 xs lo hi)) M
 | x=>match qp x M with
  | some xs=>.ok (.lst (z9 xs lo hi)) M
  | none=>.bad
noncomputable def eSl (f:Ev->Mem->Out T) (p q:Ev->Mem->Out (Option Int)):Ev->Mem->Out T:=fun σ M=>(f σ M).bind fun x M1=>(p σ M1).bind fun lo M2=>(q σ M2).bind fun hi M3=>zcT x lo hi M3
noncomputable def zlS (XE:XK) (K:Frag):V->Option Int->Option Int->Hp->VK->Prop:=fun x lo hi H Q=>∃ S t,S.H = H/\MemOk K S/\Rep K S t x/\Fin XE (Rep K) K S (zcT t lo hi S.M) Q
theorem zlG:SlR X (zlS XE X.K):=by
 intro pins s σ H x v vl vu lo hi sl Q I rx hs pl pu ⟨S,t,e,m,r,fin⟩
 subst e
 unfold zcT at fin
 split at fin
 ·cases r with
  | @tup _ p vs h l r=>
  have r1:Reps X.K S _ vs:=⟨l,r⟩
  refine zic pins s σ S.H _ v vl vu lo hi sl Q I rx hs pl pu ⟨p,vs,rfl,h,fun w=>?_,fun w=>zcN m fin (r1.cutV lo hi)⟩
  rw [zfY (by rw [l];exact w)] at fin
  exact fin S _ rfl (.refl m) (.tup h l r)
 ·split at fin
  ·rename_i xs q
   obtain ⟨p,vs,e1,h1,s1⟩:=yk m r q
   subst e1
   exact zid pins s σ S.H _ v vl vu lo hi sl Q I rx hs pl pu ⟨p,vs,rfl,h1,ze4 m fin (s1.cutV lo hi)⟩
  ·exact fin.elim
noncomputable def zj5 (T U:String):Option Bool:=if (Value.type T == Value.type U) = true then some true else if PySem.W.kitMeta U = true then (PySem.fastBuiltinMro T).map (·.contains (.type U)) else none
noncomputable def tyN (t:T) (M:Mem):Option String:=match t with
 | .non=>some "NoneType" | .bl _=>some "bool" | .int _=>some "int" | .str _=>some "str" | .tup _=>some "tuple" | .lst _=>some "list"
 | .ref a=>match M[a]? with
  | some (.lst _)=>some "list"
  | some (.dic _)=>some "dict"
  | _=>none
 | _=>none
noncomputable def zhT (n U:String):Bool:=n == U || (n == "bool" && U == "int")
noncomputable def zdr:List String:=["NoneType","bool","int","str","tuple","list","dict"]
theorem ziP:∀ n ∈ zdr,∀ U ∈ zdr,U ≠ "NoneType"->zj5 n U = some (zhT n U):=by decide +kernel
noncomputable def zX:T->T->Mem->Out T:=fun t u M=>match u with
 | .ty U=>match tyN t M with
  | some n=>if U ∈ zdr/\U ≠ "NoneType" then .ok (.bl (zhT n U)) M else .bad
  | none=>.bad
 | _=>.bad
theorem zh5 {n:String} (h:tyN t M = some n):n ∈ zdr:=by
 unfold tyN at h
 split at h <;> first | (cases h;decide) | (split at h <;> first | (cases h;decide) | (cases h)) | cases h
theorem zhx {x:V} {u:Value} {U n:String} {b:Bool} {Q:Value->Shared->Prop} {E:Value->Shared->Prop} (I:L2.Inv X pins σ S.H s) (m:MemOk X.K S) (rx:RelV x u) (r:Rep X.K S t x) (hn:tyN t S.M = some n) (e:zj5 n U = some b) (h:∀ tk,Q (.bool b) { s with toks:=tk }) :
  wpAny (model X.prog X.w) X.A (call (.builtin "isinstance") [u,.type U]) Q E s:=by
 have e':PySem.W.kitOne X.K (.type n) (.type U) = some b:=e
 cases r with
 | non=>cases hn;cases (show u = Value.none from rx);exact PySem.W.kia_one PySem.W.kitx_none I.kIn True.intro e' (fun z=>nomatch z) h
 | bl y=>cases hn;cases (show u = Value.bool y from rx);exact PySem.W.kia_one PySem.W.kitx_bool I.kIn True.intro e' (fun z=>nomatch z) h
 | int i=>cases hn;obtain ⟨t,q⟩:=(show ∃ t,u = Value.int i t from rx);cases q;exact PySem.W.kia_one PySem.W.kitx_int I.kIn True.intro e' (fun z=>nomatch z) h
 | str y=>cases hn;obtain ⟨t,q⟩:=(show ∃ t,u = Value.str y t from rx);cases q;exact PySem.W.kia_one PySem.W.kitx_str I.kIn True.intro e' (fun z=>nomatch z) h
 | ty y=>cases hn
 | @tup ts p vs hq l r=>
  cases hn
  cases (show u = Value.ref p from rx)
  obtain ⟨its,_,pl,_⟩:=I.tuple hq
  obtain ⟨o,h1,h2,_⟩:=pl
  exact PySem.W.kia_one PySem.W.kitx_tuple I.kIn ⟨o,h1,h2⟩ e' (fun z=>nomatch z) h
 | @lst ts p vs hq l r=>
  cases hn
  cases (show u = Value.ref p from rx)
  obtain ⟨its,_,pl,_⟩:=I.list (zbd hq)
  obtain ⟨o,h1,h2⟩:=pl.isList
  exact PySem.W.kia_one PySem.W.kitx_list I.kIn ⟨o,h1,h2.1⟩ e' (fun z=>nomatch z) h
 | @ref a ha=>
  cases (show u = Value.ref _ from rx)
  unfold tyN at hn
  dsimp only at hn
  split at hn
  ·rename_i ts q
   cases hn
   obtain ⟨vs,q2,_⟩:=m.cell a _ q
   obtain ⟨_,_,n,_,h1⟩:=(show ObjOk X.prog X.w S.H s.heap (S.α a) (.lst vs) from I.hok _ _ q2)
   exact PySem.W.kia_one PySem.W.kitx_list I.kIn ⟨_,h1,rfl⟩ e' (fun z=>nomatch z) h
  ·rename_i ts q
   cases hn
   obtain ⟨vs,q2,_⟩:=m.cell a _ q
   obtain ⟨_,_,vs2,_,p⟩:=(show ObjOk X.prog X.w S.H s.heap (S.α a) (.dK vs) from I.hok _ _ q2)
   obtain ⟨o,es,ep,h1,h2,_⟩:=p
   exact PySem.W.kia_one PySem.W.kitx_dict I.kIn ⟨o,h1,h2.1⟩ e' (fun z=>nomatch z) h
  ·cases hn
 | dct h l r=>cases hn
 | exc h hd l r=>cases hn
theorem zaa:CallR X (.builtin "isinstance") (lRN XE X.K (call2 zX)):=zcb fun pins s σ S t1 t2 x1 x2 v1 v2 Q I rx ry m r1 r2 fin=>by
 unfold zX at fin
 split at fin
 ·rename_i U
  split at fin
  ·rename_i n hn
   split at fin
   ·rename_i hU
    cases r2
    cases ry
    exact zhx I m rx r1 hn (ziP n (zh5 hn) U hU.1 hU.2) fun tk=>⟨.bl _,S.H,I.tok tk,rfl,fin S _ rfl (.refl m) (.bl _)⟩
   ·exact fin.elim
  ·exact fin.elim
 ·exact fin.elim
end
noncomputable def qZ:T->Bool
 | .non=>true
 | .bl _=>true
 | .int _=>true
 | .str _=>true
 | _=>false
noncomputable def eqS:T->T->Bool
 | .non,.non=>true
 | .bl a,.bl b=>a == b
 | .bl a,.int b=>(if a then 1 else 0) == b
 | .int a,.bl b=>a == (if b then 1 else 0)
 | .int a,.int b=>a == b
 | .str a,.str b=>a == b
 | _,_=>false
noncomputable def eqL (f:T->T->Option Bool):List T->List T->Option Bool
 | [],[]=>some true
 | [],_ :: _=>some false
 | _ :: _,[]=>some false
 | x :: xs,y :: ys=>match f x y,eqL f xs ys with
  | some a,some b=>some (a && b)
  | _,_=>none
noncomputable def eqD (M:Mem):Nat->T->T->Option Bool
 | d,.tup xs,.tup ys=>match d with
  | 0=>none
  | d + 1=>eqL (eqD M d) xs ys
 | d,x,y=>if (qZ x && qZ y) = true then some (eqS x y) else match d,qp x M,qp y M with
  | d + 1,some xs,some ys=>if xs.length = ys.length then eqL (eqD M d) xs ys else some false
  | _,_,_=>none
noncomputable def eqA:T->T->Mem->Out T:=fun x y M=>match eqD M 20 x y with
 | some b=>.ok (.bl b) M
 | none=>.bad
noncomputable def neA:T->T->Mem->Out T:=fun x y M=>match eqD M 20 x y with
 | some b=>.ok (.bl (!b)) M
 | none=>.bad
theorem zaW {f:T->T->Option Bool}:∀ {xs ys:List T} {b:Bool},eqL f xs ys = some b->
  ∃ e:Nat->Bool,(∀ j x y,xs[j]? = some x->ys[j]? = some y->f x y = some (e j))/\b = ((List.range (min xs.length ys.length)).all e && xs.length == ys.length)
 | [],[],b,h=>by cases h;exact ⟨fun _=>true,fun j x y e1=>by simp at e1,by simp⟩
 | [],_ :: _,b,h=>by cases h;exact ⟨fun _=>true,fun j x y e1=>by simp at e1,by simp⟩
 | _ :: _,[],b,h=>by cases h;exact ⟨fun _=>true,fun j x y _ e1=>by simp at e1,by simp⟩
 | x :: xs,y :: ys,b,h=>by
  unfold eqL at h
  cases q1:f x y with
  | none=>rw [q1] at h;cases h
  | some a=>
   cases q2:eqL f xs ys with
   | none=>rw [q1,q2] at h;cases h
   | some c=>
    rw [q1,q2] at h
    cases h
    obtain ⟨e,h1,h2⟩:=zaW q2
    refine ⟨fun j=>match j with | 0=>a | j + 1=>e j,fun j u v e1 e2=>?_,?_⟩
    ·cases j with
     | zero=>simp at e1 e2;subst e1;subst e2;exact q1
     | succ j=>exact h1 j u v (by simpa using e1) (by simpa using e2)
    ·rw [h2]
     have:min (x :: xs).length (y :: ys).length = min xs.length ys.length + 1:=by simp only [Qo];omega
     rw [this,List.range_succ_eq_map,all_cons,List.all_map]
     simp [Bool.and_assoc,Function.comp_def]
variable {A:Around} {w:V}
section
theorem qv (r:Rep K S t v) (h:qZ t = true):qD v = true:=by
 cases r <;> first | rfl | (exact absurd (show false = true from h) Q4)
theorem zcw (r:Rep K S t v) (q:Rep K S u w) (h:qZ t = true) (h2:qZ u = true):eqS t u = eqV v w:=by
 cases r <;> first | (exact absurd (show false = true from h) Q4) | (cases q <;> first | rfl | (exact absurd (show false = true from h2) Q4))
theorem zeU (r:Rep K S t v) (q:Rep K S u v) (h:qZ t = true) (h2:qZ u = true):eqS t u = true:=by
 rw [zcw r q h h2]
 exact zhI v (qv r h)
theorem zhJ (I:L2.Inv X pins σ S.H s) (m:MemOk X.K S):∀ (d:Nat) {t u:T} {v:V} {b:Bool},Rep X.K S t v->Rep X.K S u v->eqD S.M d t u = some b->b = true:=by
 intro d
 induction d with
 | zero=>
  intro t u v b r q h
  unfold eqD at h
  split at h
  ·cases h
  ·split at h
   ·rename_i hs
    rw [Qq] at hs
    cases h
    exact zeU r q hs.1 hs.2
   ·cases h
 | succ d ih=>
  have key:∀ {xs ys:List T} {vs:List V} {b:Bool},Reps X.K S xs vs->Reps X.K S ys vs->eqL (eqD S.M d) xs ys = some b->b = true:=by
   intro xs ys vs b r q h
   obtain ⟨e,h1,h2⟩:=zaW h
   rw [h2,r.1,q.1]
   simp only [Nat.min_self,beq_self_eq_true,Bool.and_true,all_eq_true,mem_range]
   intro j hj
   have hx:j < xs.length:=by rw [r.1];exact hj
   have hy:j < ys.length:=by rw [q.1];exact hj
   have ex:xs[j]? = some xs[j]:=by simp [hx]
   have ey:ys[j]? = some ys[j]:=by simp [hy]
   have ev:vs[j]? = some vs[j]:=by simp [hj]
   exact ih (r.2 j _ _ ex ev) (q.2 j _ _ ey ev) (h1 j _ _ ex ey)
  intro t u v b r q h
  unfold eqD at h
  split at h
  ·cases r with
   | @tup _ p vs h1 l1 r1=>
   cases q with
   | @tup _ _ vs2 h2 l2 r2=>
   have:=I.tuple_inj h1 h2
   subst this
   exact key ⟨l1,r1⟩ ⟨l2,r2⟩ h
  ·split at h
   ·rename_i hs
    rw [Qq] at hs
    cases h
    exact zeU r q hs.1 hs.2
   ·split at h
    ·rename_i d' xs ys hd q1 q2
     cases hd
     obtain ⟨p,vs,e1,hq1,s1⟩:=yk m r q1
     obtain ⟨p2,vs2,e2,hq2,s2⟩:=yk m q q2
     rw [e1] at e2
     cases e2
     have:=I.list_inj hq1 hq2
     subst this
     rw [if_pos (by rw [s1.1,s2.1])] at h
     exact key s1 s2 h
    ·cases h
theorem zkE (I:L2.Inv X pins σ S.H s) (m:MemOk X.K S):∀ (d:Nat) {A:Around} {t u:T} {v w:V} {x y:Value} {b:Bool},A.units + d < cLine->RelV v x->RelV w y->Rep X.K S t v->Rep X.K S u w->eqD S.M d t u = some b->SeqAt.EqAt A s x y b:=by
 intro d
 induction d with
 | zero=>
  intro A t u v w x y b hu rx ry r q h
  unfold eqD at h
  split at h
  ·cases h
  ·split at h
   ·rename_i hs
    rw [Qq] at hs
    cases h
    rw [zcw r q hs.1 hs.2]
    exact zej rx ry (qv r hs.1) (qv q hs.2)
   ·cases h
 | succ d ih=>
  have key:∀ {A:Around} {xs ys:List T} {vs ws:List V} {us zs:List Value} {b:Bool},A.units + d < cLine->Reps X.K S xs vs->Reps X.K S ys ws->Vals vs us->Vals ws zs->eqL (eqD S.M d) xs ys = some b->
    ∃ e:Nat->Bool,(∀ j (h1:j < us.toArray.size) (h2:j < zs.toArray.size),SeqAt.EqAt A s us.toArray[j] zs.toArray[j] (e j))/\b = ((List.range (min us.toArray.size zs.toArray.size)).all e && us.toArray.size == zs.toArray.size):=by
   intro A xs ys vs ws us zs b hu r q hv hw h
   obtain ⟨e,h1,h2⟩:=zaW h
   have l1:us.length = xs.length:=by rw [← hv.length,r.1]
   have l2:zs.length = ys.length:=by rw [← hw.length,q.1]
   refine ⟨e,fun j g1 g2=>?_,by rw [h2,Qh,Qh,l1,l2]⟩
   have g1':j < us.length:=by simpa using g1
   have g2':j < zs.length:=by simpa using g2
   have ex:xs[j]? = some (xs[j]'(by omega)):=Q0 (by omega)
   have ey:ys[j]? = some (ys[j]'(by omega)):=Q0 (by omega)
   obtain ⟨v,ev,rv⟩:=r.get ex
   obtain ⟨w,ew,rw'⟩:=q.get ey
   obtain ⟨a,ea,ra⟩:=Vals.get hv ev
   obtain ⟨c,ec,rc⟩:=Vals.get hw ew
   have:us.toArray[j] = a:=by
    rw [getElem_toArray];rw [Q0 g1'] at ea;exact Qc ea
   rw [this]
   have:zs.toArray[j] = c:=by
    rw [getElem_toArray];rw [Q0 g2'] at ec;exact Qc ec
   rw [this]
   exact ih hu ra rc rv rw' (h1 j _ _ ex ey)
  intro A t u v w x y b hu rx ry r q h
  have hsame:v = w->b = true:=fun z=>by subst z;exact zhJ I m (d + 1) r q h
  unfold eqD at h
  split at h
  ·cases r with
   | @tup _ p vs h1 l1 r1=>
   cases q with
   | @tup _ p2 vs2 h2 l2 r2=>
   cases rx
   cases ry
   by_cases hp:p = p2
   ·subst hp
    rw [hsame rfl]
    exact SeqAt.EqAt.same _
   ·obtain ⟨its,ri,pl,_⟩:=I.tuple h1
    obtain ⟨its2,ri2,pl2,_⟩:=I.tuple h2
    obtain ⟨e,he,eb⟩:=key (A:=A.in1) (by show A.units + 1 + d < cLine;omega) ⟨l1,r1⟩ ⟨l2,r2⟩ ri ri2 h
    rw [eb]
    exact SeqAt.EqAt.of_refs hp (SeqAt.RcAt.tuples pl pl2 (by omega) he)
  ·split at h
   ·rename_i hs
    rw [Qq] at hs
    cases h
    rw [zcw r q hs.1 hs.2]
    exact zej rx ry (qv r hs.1) (qv q hs.2)
   ·split at h
    ·rename_i d' xs ys hd q1 q2
     cases hd
     obtain ⟨p,vs,e1,hq1,s1⟩:=yk m r q1
     obtain ⟨p2,vs2,e2,hq2,s2⟩:=yk m q q2
     subst e1
     subst e2
     cases rx
     cases ry
     by_cases hp:p = p2
     ·subst hp
      rw [hsame rfl]
      exact SeqAt.EqAt.same _
     ·obtain ⟨its,ri,pl,_⟩:=I.list hq1
      obtain ⟨its2,ri2,pl2,_⟩:=I.list hq2
      have lz:its.length = xs.length:=by rw [← ri.length,s1.1]
      have lz2:its2.length = ys.length:=by rw [← ri2.length,s2.1]
      by_cases hl:xs.length = ys.length
      ·rw [if_pos hl] at h
       obtain ⟨e,he,eb⟩:=key (A:=A.in1) (by show A.units + 1 + d < cLine;omega) s1 s2 ri ri2 h
       have hsz:its.toArray.size = its2.toArray.size:=by simp [lz,lz2,hl]
       rw [eb,hsz,Nat.min_self,beq_self_eq_true,Bool.and_true,← hsz]
       exact SeqAt.EqAt.of_refs hp (SeqAt.RcAt.lists pl.isList pl2.isList hsz (by omega) he)
      ·rw [if_neg hl] at h
       cases h
       exact SeqAt.EqAt.of_refs hp (SeqAt.RcAt.lists_lengths pl.isList pl2.isList (by simp [lz,lz2,hl]) (by omega))
    ·cases h
theorem zjs {x:V} {u v:Value} (ry:RelV y u) (rx:RelV x v) (fy:qD y = true) (fx:qD x = true):SeqAt.RcAt A s u v (eqV y x):=by
 cases y with
 | non=>
  cases ry
  cases x with
  | non=>cases rx;exact SeqAt.RcAt.none_none
  | bl b=>cases rx;exact SeqAt.RcAt.none_bool b
  | int b=>obtain ⟨t,rfl⟩:=rx;exact SeqAt.RcAt.none_int b t
  | str b=>obtain ⟨t,rfl⟩:=rx;exact SeqAt.RcAt.none_str b t
  | _=>exact absurd (show false = true from fx) Q4
 | bl a=>
  cases ry
  cases x with
  | non=>cases rx;exact SeqAt.RcAt.bool_none a
  | bl b=>cases rx;exact SeqAt.RcAt.bool_bool a b
  | int b=>obtain ⟨t,rfl⟩:=rx;exact SeqAt.RcAt.bool_int a b t
  | str b=>obtain ⟨t,rfl⟩:=rx;exact SeqAt.RcAt.bool_str a b t
  | _=>exact absurd (show false = true from fx) Q4
 | int a=>
  obtain ⟨t',rfl⟩:=ry
  cases x with
  | non=>cases rx;exact SeqAt.RcAt.int_none a t'
  | bl b=>cases rx;exact SeqAt.RcAt.int_bool a t' b
  | int b=>obtain ⟨t,rfl⟩:=rx;exact SeqAt.RcAt.int_int a t' b t
  | str b=>obtain ⟨t,rfl⟩:=rx;exact SeqAt.RcAt.int_str a t' b t
  | _=>exact absurd (show false = true from fx) Q4
 | str a=>
  obtain ⟨t',rfl⟩:=ry
  cases x with
  | non=>cases rx;exact SeqAt.RcAt.str_none a t'
  | bl b=>cases rx;exact SeqAt.RcAt.str_bool a t' b
  | int b=>obtain ⟨t,rfl⟩:=rx;exact SeqAt.RcAt.str_int a t' b t
  | str b=>obtain ⟨t,rfl⟩:=rx;exact SeqAt.RcAt.str_str a t' b t
  | _=>exact absurd (show false = true from fx) Q4
 | _=>exact absurd (show false = true from fy) Q4
theorem zhc {x:V} {u v:Value} (ry:RelV y u) (rx:RelV x v) (fy:qD y = true) (fx:qD x = true):SeqAt.RcNeAt A s u v (!eqV y x):=by
 cases y with
 | non=>
  cases ry
  cases x with
  | non=>cases rx;exact SeqAt.RcNeAt.none_none
  | bl b=>cases rx;exact SeqAt.RcNeAt.none_bool b
  | int b=>obtain ⟨t,rfl⟩:=rx;exact SeqAt.RcNeAt.none_int b t
  | str b=>obtain ⟨t,rfl⟩:=rx;exact SeqAt.RcNeAt.none_str b t
  | _=>exact absurd (show false = true from fx) Q4
 | bl a=>
  cases ry
  cases x with
  | non=>cases rx;exact SeqAt.RcNeAt.bool_none a
  | bl b=>cases rx;exact SeqAt.RcNeAt.bool_bool a b
  | int b=>obtain ⟨t,rfl⟩:=rx;exact SeqAt.RcNeAt.bool_int a b t
  | str b=>obtain ⟨t,rfl⟩:=rx;exact SeqAt.RcNeAt.bool_str a b t
  | _=>exact absurd (show false = true from fx) Q4
 | int a=>
  obtain ⟨t',rfl⟩:=ry
  cases x with
  | non=>cases rx;exact SeqAt.RcNeAt.int_none a t'
  | bl b=>cases rx;exact SeqAt.RcNeAt.int_bool a t' b
  | int b=>obtain ⟨t,rfl⟩:=rx;exact SeqAt.RcNeAt.int_int a t' b t
  | str b=>obtain ⟨t,rfl⟩:=rx;exact SeqAt.RcNeAt.int_str a t' b t
  | _=>exact absurd (show false = true from fx) Q4
 | str a=>
  obtain ⟨t',rfl⟩:=ry
  cases x with
  | non=>cases rx;exact SeqAt.RcNeAt.str_none a t'
  | bl b=>cases rx;exact SeqAt.RcNeAt.str_bool a t' b
  | int b=>obtain ⟨t,rfl⟩:=rx;exact SeqAt.RcNeAt.str_int a t' b t
  | str b=>obtain ⟨t,rfl⟩:=rx;exact SeqAt.RcNeAt.str_str a t' b t
  | _=>exact absurd (show false = true from fx) Q4
 | _=>exact absurd (show false = true from fy) Q4
theorem zgN (I:L2.Inv X pins σ S.H s) (m:MemOk X.K S) (d:Nat) {x y:Value} {b:Bool} (hu:A.units + d < cLine) (rx:RelV v x) (ry:RelV w y) (r:Rep X.K S t v) (q:Rep X.K S u w) (h:eqD S.M d t u = some b):SeqAt.RcAt A s x y b/\SeqAt.RcNeAt A s x y (!b):=by
 have at_:∀ {A:Around} {d:Nat} {xs ys:List T} {vs ws:List V} {us zs:List Value} {b:Bool},A.units + d < cLine->Reps X.K S xs vs->Reps X.K S ys ws->Vals vs us->Vals ws zs->eqL (eqD S.M d) xs ys = some b->
    ∃ e:Nat->Bool,(∀ j (h1:j < us.toArray.size) (h2:j < zs.toArray.size),SeqAt.EqAt A s us.toArray[j] zs.toArray[j] (e j))/\b = ((List.range (min us.toArray.size zs.toArray.size)).all e && us.toArray.size == zs.toArray.size):=by
  intro A d xs ys vs ws us zs b hu r q hv hw h
  obtain ⟨e,h1,h2⟩:=zaW h
  have l1:us.length = xs.length:=by rw [← hv.length,r.1]
  have l2:zs.length = ys.length:=by rw [← hw.length,q.1]
  refine ⟨e,fun j g1 g2=>?_,by rw [h2,Qh,Qh,l1,l2]⟩
  have g1':j < us.length:=by simpa using g1
  have g2':j < zs.length:=by simpa using g2
  have ex:xs[j]? = some (xs[j]'(by omega)):=Q0 (by omega)
  have ey:ys[j]? = some (ys[j]'(by omega)):=Q0 (by omega)
  obtain ⟨v,ev,rv⟩:=r.get ex
  obtain ⟨w,ew,rw'⟩:=q.get ey
  obtain ⟨a,ea,ra⟩:=Vals.get hv ev
  obtain ⟨c,ec,rc⟩:=Vals.get hw ew
  have:us.toArray[j] = a:=by
   rw [getElem_toArray];rw [Q0 g1'] at ea;exact Qc ea
  rw [this]
  have:zs.toArray[j] = c:=by
   rw [getElem_toArray];rw [Q0 g2'] at ec;exact Qc ec
  rw [this]
  exact zkE I m d hu ra rc rv rw' (h1 j _ _ ex ey)
 unfold eqD at h
 split at h
 ·split at h
  ·cases h
  ·rename_i d
   cases r with
   | @tup _ p vs h1 l1 r1=>
   cases q with
   | @tup _ p2 vs2 h2 l2 r2=>
   cases rx
   cases ry
   obtain ⟨its,ri,pl,_⟩:=I.tuple h1
   obtain ⟨its2,ri2,pl2,_⟩:=I.tuple h2
   obtain ⟨e,he,eb⟩:=at_ (A:=A.in1) (by show A.units + 1 + d < cLine;omega) ⟨l1,r1⟩ ⟨l2,r2⟩ ri ri2 h
   rw [eb]
   exact ⟨SeqAt.RcAt.tuples pl pl2 (by omega) he,SeqAt.RcNeAt.tuples pl pl2 (by omega) he⟩
 ·split at h
  ·rename_i hs
   rw [Qq] at hs
   cases h
   rw [zcw r q hs.1 hs.2]
   exact ⟨zjs rx ry (qv r hs.1) (qv q hs.2),zhc rx ry (qv r hs.1) (qv q hs.2)⟩
  ·split at h
   ·rename_i d' xs ys q1 q2
    obtain ⟨p,vs,e1,hq1,s1⟩:=yk m r q1
    obtain ⟨p2,vs2,e2,hq2,s2⟩:=yk m q q2
    subst e1
    subst e2
    cases rx
    cases ry
    obtain ⟨its,ri,pl,_⟩:=I.list hq1
    obtain ⟨its2,ri2,pl2,_⟩:=I.list hq2
    have lz:its.length = xs.length:=by rw [← ri.length,s1.1]
    have lz2:its2.length = ys.length:=by rw [← ri2.length,s2.1]
    by_cases hl:xs.length = ys.length
    ·rw [if_pos hl] at h
     obtain ⟨e,he,eb⟩:=at_ (A:=A.in1) (by show A.units + 1 + d' < cLine;omega) s1 s2 ri ri2 h
     have hsz:its.toArray.size = its2.toArray.size:=by simp [lz,lz2,hl]
     rw [eb,hsz,Nat.min_self,beq_self_eq_true,Bool.and_true,← hsz]
     exact ⟨SeqAt.RcAt.lists pl.isList pl2.isList hsz (by omega) he,SeqAt.RcNeAt.lists pl.isList pl2.isList hsz (by omega) he⟩
    ·rw [if_neg hl] at h
     cases h
     exact ⟨SeqAt.RcAt.lists_lengths pl.isList pl2.isList (by simp [lz,lz2,hl]) (by omega),SeqAt.RcNeAt.lists_lengths pl.isList pl2.isList (by simp [lz,lz2,hl]) (by omega)⟩
   ·cases h
theorem zgr (hu:X.A.units + 64 < cLine):OpR X (compareOp .Eq) (lR2 XE X.K eqA):=by
 intro pins s σ H x y v u Q I rx ry ⟨S,⟨tx,ty⟩,e,m,⟨r1,r2⟩,fin⟩
 subst e
 replace fin:Fin XE (Rep X.K) X.K S (eqA tx ty S.M) Q:=fin
 unfold eqA at fin
 split at fin
 ·rename_i b q
  exact (zgN I m 20 (A:=X.A) (by omega) rx ry r1 r2 q).1 _ _ _ _ ⟨.bl b,S.H,I,rfl,fin S _ rfl (.refl m) (.bl _)⟩
 ·exact fin.elim
theorem zgp (hu:X.A.units + 64 < cLine):OpR X (compareOp .NotEq) (lR2 XE X.K neA):=by
 intro pins s σ H x y v u Q I rx ry ⟨S,⟨tx,ty⟩,e,m,⟨r1,r2⟩,fin⟩
 subst e
 replace fin:Fin XE (Rep X.K) X.K S (neA tx ty S.M) Q:=fin
 unfold neA at fin
 split at fin
 ·rename_i b q
  exact (zgN I m 20 (A:=X.A) (by omega) rx ry r1 r2 q).2 _ _ _ _ ⟨.bl (!b),S.H,I,rfl,fin S _ rfl (.refl m) (.bl _)⟩
 ·exact fin.elim
noncomputable def inA:T->T->Mem->Out T:=fun x y M=>match zci y M with
 | some ys=>if (qZ x && ys.all qZ) = true then .ok (.bl (ys.any fun y=>eqS y x)) M else .bad
 | none=>.bad
theorem zhV {K:Frag} {x:T} {v:V} (rx:Rep K S x v) (hx:qZ x = true):∀ {ys:List T} {vs:List V},Reps K S ys vs->ys.all qZ = true->vs.all qD = true/\inV v vs = ys.any fun y=>eqS y x
 | [],vs,r,_=>by rw [r.nilT];exact ⟨rfl,rfl⟩
 | y :: ys,vs,r,h=>by
  obtain ⟨w,ws,rfl,r1,r2⟩:=r.consT
  rw [all_cons,Qq] at h
  obtain ⟨h1,h2⟩:=zhV rx hx r2 h.2
  refine ⟨by rw [all_cons,qv r1 h.1,h1];rfl,?_⟩
  unfold inV at h2 ⊢
  rw [any_cons,any_cons,h2,zcw r1 rx h.1 hx]
theorem zjS:OpR X (compareOp .In) (lR2 XE X.K inA):=by
 intro pins s σ H x y v u Q I rx ry ⟨S,⟨tx,ty⟩,e,m,⟨r1,r2⟩,fin⟩
 subst e
 replace fin:Fin XE (Rep X.K) X.K S (inA tx ty S.M) Q:=fin
 unfold inA at fin
 split at fin
 ·rename_i ys q
  split at fin
  ·rename_i hs
   rw [Qq] at hs
   obtain ⟨p,vs,e1,hq,rs⟩:=za9 m r2 q
   dsimp only at e1
   subst e1
   obtain ⟨a1,a2⟩:=zhV r1 hs.1 rs hs.2
   exact zgq pins s σ S.H _ _ v u Q I rx ry ⟨p,vs,rfl,hq,qv r1 hs.1,a1,by rw [a2];exact fin S _ rfl (.refl m) (.bl _)⟩
  ·exact fin.elim
 ·exact fin.elim
end
section
noncomputable def zaS:List T->Option (List Int)
 | []=>some []
 | .int b :: r=>(zaS r).map (b :: ·)
 | _=>none
theorem zb8 {K:Frag} {S:Sit}:∀ {ts:List T} {vs:List V} {bs:List Int},zaS ts = some bs->Reps K S ts vs->vs = bs.map V.int
 | [],vs,bs,e,r=>by cases e;exact r.nilT
 | .int b :: ts,vs,bs,e,r=>by
  unfold zaS at e
  obtain ⟨v,vs',rfl,r1,r2⟩:=r.consT
  cases q:zaS ts with
  | none=>rw [q] at e;cases e
  | some bs'=>
   rw [q] at e
   cases e
   cases r1
   rw [zb8 q r2];rfl
 | .non :: _,_,_,e,_=>by cases e
 | .bl _ :: _,_,_,e,_=>by cases e
 | .str _ :: _,_,_,e,_=>by cases e
 | .ty _ :: _,_,_,e,_=>by cases e
 | .tup _ :: _,_,_,e,_=>by cases e
 | .lst _ :: _,_,_,e,_=>by cases e
 | .ref _ :: _,_,_,e,_=>by cases e
noncomputable def sumK:T->Mem->Out T:=fun t M=>match qp t M with
 | some xs=>match zaS xs with
  | some bs=>.ok (.int bs.sum) M
  | none=>.bad
 | none=>.bad
theorem zbo (hc:X.calm = true):CallR X (.builtin "sum") (lRN XE X.K (yr sumK)):=zaZ fun pins s σ S t x v Q I rx m r fin=>by
 unfold sumK at fin
 split at fin
 ·rename_i xs q
  split at fin
  ·rename_i bs q2
   obtain ⟨p,vs,rfl,hq,rs⟩:=yk m r q
   rw [zb8 q2 rs] at hq
   exact zgU hc pins s σ S.H _ _ Q I (.cons rx .nil) ⟨p,bs,rfl,hq,fin S _ rfl (.refl m) (.int _)⟩
  ·exact fin.elim
 ·exact fin.elim
end
noncomputable def zhb (o:Out Fl):Out T:=match o with
 | .ok (.rt t) M'=>.ok t M'
 | .ok (.nx _) M'=>.ok .non M'
 | _=>.bad
theorem zgj {p:Nat} (h:ts.length = p):yg p n g ts M = zhb (g (startT n ts) M):=by
 unfold yg
 rw [if_pos h]
 rfl
theorem zmb:zhb (.ok (.rt t) M) = .ok t M:=rfl
theorem zmc {σ:Ev} :zhb (.ok (.nx σ) M) = .ok .non M:=rfl
theorem zmw {β:Type} {b:Bool} {k:Bool->Mem->Out β}:blT (.bl b) M k = k b M:=rfl
theorem zls {k:Ev->Mem->Out Fl} {σ:Ev} :zbs k (.nx σ) M = k σ M:=rfl
theorem zlr {k:Ev->Mem->Out Fl} :zbs k (.rt t) M = .ok (.rt t) M:=rfl
theorem zlu {k:Ev->Mem->Out Fl} {σ:Ev} :zbs k (.bk σ) M = .ok (.bk σ) M:=rfl
theorem zlt {k:Ev->Mem->Out Fl} {σ:Ev} :zbs k (.ct σ) M = .ok (.ct σ) M:=rfl
theorem zlO {k:Ev->Mem->Out Fl} {σ:Ev} :zw k (.nx σ) M = k σ M:=rfl
theorem zlN {k:Ev->Mem->Out Fl} :zw k (.rt t) M = .ok (.rt t) M:=rfl
theorem zlQ {k:Ev->Mem->Out Fl} {σ:Ev} :zw k (.bk σ) M = .ok (.nx σ) M:=rfl
theorem zlP {k:Ev->Mem->Out Fl} {σ:Ev} :zw k (.ct σ) M = k σ M:=rfl
theorem zbi {x:T} {σ:Ev} :forL bd body (x :: xs) σ M = (bd x σ M).bind fun σ1 M1=>(body σ1 M1).bind (zw (forL bd body xs)):=rfl
theorem zmg {k:T->Mem->Out T} :yr k [t] M = k t M:=rfl
theorem zmf {k:T->T->Mem->Out T} :call2 k [t,u] M = k t u M:=rfl
theorem zmj:ym (.int i) (.int j) M = .ok (.int (i + j)) M:=rfl
theorem zl8:qY (.int i) (.int j) M = .ok (.int (i - j)) M:=rfl
theorem ze5 (h:Mo64 i j):zI (.int i) (.int j) M = .ok (.int (i * j)) M:=if_pos h
theorem zbC (h:j ≠ 0/\j.natAbs < 10 ^ 2000):z8 (.int i) (.int j) M = .ok (.int (i.fdiv j)) M:=if_pos h
theorem zby (h:j ≠ 0):yQ (.int i) (.int j) M = .ok (.int (i.fmod j)) M:=if_pos h
theorem zmd (h:0<=j/\j<=1000000/\i.natAbs < 2 ^ 64):y4 (.int i) (.int j) M = .ok (.int (i ^ j.toNat)) M:=if_pos h
theorem zmp:ltI (.int i) (.int j) M = .ok (.bl (decide (i < j))) M:=rfl
theorem zmq:leI (.int i) (.int j) M = .ok (.bl (decide (i<=j))) M:=rfl
theorem zms:gtI (.int i) (.int j) M = .ok (.bl (decide (j < i))) M:=rfl
theorem zmt:geI (.int i) (.int j) M = .ok (.bl (decide (j<=i))) M:=rfl
theorem zmn:zlL (.int i) M = .ok (.int (-i)) M:=rfl
theorem zme:zd9 (.int i) (.int j) M = .ok (.int (if j > i then j else i)) M:=rfl
theorem zmu:eqA (.int i) (.int j) M = .ok (.bl (i == j)) M:=rfl
theorem zmo:neA (.int i) (.int j) M = .ok (.bl (!(i == j))) M:=rfl
theorem zmr {a b:Bool} :isB (.bl a) (.bl b) M = .ok (.bl (a == b)) M:=rfl
theorem zlU {a b:Bool} :zlb (.bl a) (.bl b) M = .ok (.bl (a != b)) M:=rfl
theorem yR {α:Type} {xs:List α} :atI xs (n:Int) = xs[n]?:=by
 unfold atI ixN
 by_cases h:n < xs.length
 ·simp [h]
 ·simp [h]
theorem zmH {α:Type} {x:α} {l:List α}:atI (x :: l) 0 = some x:=by have:=yR (xs:=x :: l) (n:=0);exact this
theorem zmG {α:Type} {x y:α} {l:List α}:atI (x :: y :: l) 1 = some y:=by have:=yR (xs:=x :: y :: l) (n:=1);exact this
theorem zmF {α:Type} {x y z:α} {l:List α}:atI (x :: y :: z :: l) 2 = some z:=by have:=yR (xs:=x :: y :: z :: l) (n:=2);exact this
theorem zmE {α:Type} {x y z w:α} {l:List α}:atI (x :: y :: z :: w :: l) 3 = some w:=by have:=yR (xs:=x :: y :: z :: w :: l) (n:=3);exact this
theorem zmB:ixN (n + 1) 0 = some 0:=by unfold ixN;simp
theorem zmA:ixN (n + 2) 1 = some 1:=by unfold ixN;simp;omega
theorem zmz:ixN (n + 3) 2 = some 2:=by unfold ixN;simp;omega
theorem zey {a:Nat} (e:M[a]? = some (.lst xs)) (h:xs.length < sizeLine):zag (.ref a) [t] M = .ok .non (M.set a (.lst (xs ++ [t]))):=by
 unfold zag
 simp only [e,if_pos h]
theorem zcp {a:Nat} (e:M[a]? = some (.lst xs)):yO (.ref a) M = .ok (.ref a) M:=by
 unfold yO qp
 simp only [e]
theorem zfr {a:Nat} (e:M[a]? = some (.lst xs)):za4 (.ref a) M = .ok (.tup xs) M:=by
 unfold za4 zci qp
 simp only [e]
theorem zdZ (h:-(2 ^ 62)<=j/\j < 2 ^ 62):zcK [.int j] M = .ok (yw 0 j.toNat) M:=if_pos h
theorem zmv:z8 (.int i) (.int 8) M = .ok (.int (i.fdiv 8)) M:=zbC ⟨by decide,Q5 (show (8:Int).natAbs < 10 ^ 1 by decide) (Nat.pow_le_pow_right (by decide) (by decide))⟩
theorem zcn (h:-(2 ^ 64) < i/\i < 2 ^ 64):zI (.int i) (.int j) M = .ok (.int (i * j)) M:=ze5 (.inr (.inl h))
theorem zjW (h:-(2 ^ 64) < j/\j < 2 ^ 64):zI (.int i) (.int j) M = .ok (.int (i * j)) M:=ze5 (.inr (.inr h))
theorem zfX (n:Nat) (hn:n<=2000) (h0:j ≠ 0) (h:j.natAbs < 10 ^ n):j ≠ 0/\j.natAbs < 10 ^ 2000:=⟨h0,Q5 h (Nat.pow_le_pow_right (by decide) hn)⟩
structure Po where
 a:Int
 b:Int
 c:Int
noncomputable def Po.cell (p:Po):Cell:=.lst [.int p.a,.int p.b,.int p.c]
noncomputable def Po.dig (p:Po) (base:Int):Int:=if 0 < p.a then p.a % base else
 let mixed:=(p.b + 7919 * (p.c + 1)) % 1000000007
 let stir:=(mixed + 11) * (mixed + 48271) % 998244353
 (stir * stir % 2147483647 / 8) % base
noncomputable def Po.nxt (p:Po) (base:Int):Po:=if 0 < p.a then ⟨p.a / base,p.b,p.c⟩ else ⟨p.a,p.b,p.c + 1⟩
noncomputable def Po.new (cell:Int):Po:=⟨if cell - 10 ^ 18 > 0 then cell - 10 ^ 18 else 0,cell % 10 ^ 18,0⟩
theorem Po.dig_lo (p:Po) {base:Int} (h:0 < base):0<=p.dig base:=by
 unfold Po.dig
 split
 ·exact Int.emod_nonneg _ (by omega)
 ·exact Int.emod_nonneg _ (by omega)
theorem Po.dig_hi (p:Po) {base:Int} (h:0 < base):p.dig base < base:=by
 unfold Po.dig
 split
 ·exact Int.emod_lt_of_pos _ h
 ·exact Int.emod_lt_of_pos _ h
theorem zaU {bd:T->Ev->Mem->Out Ev} {body:Ev->Mem->Out Fl} (P:Nat->Ev->Mem->Prop):∀ (xs:List T) (i:Nat),
  (∀ k x σ M,xs[k]? = some x->P (i + k) σ M->∃ σ' M',((bd x σ M).bind fun σ1 M1=>body σ1 M1) = .ok (.nx σ') M'/\P (i + k + 1) σ' M')->∀ σ M,P i σ M->∃ σ' M',forL bd body xs σ M = .ok (.nx σ') M'/\P (i + xs.length) σ' M'
 | [],i,_,σ,M,h=>⟨σ,M,rfl,h⟩
 | x :: xs,i,t,σ,M,h=>by
  obtain ⟨σ1,M1,e1,h1⟩:=t 0 x σ M rfl h
  obtain ⟨σ2,M2,e2,h2⟩:=zaU P xs (i + 1) (fun k y σ M hk hp=>by
   have:=t (k + 1) y σ M (by simpa using hk) (by rw [show i + (k + 1) = i + 1 + k by omega];exact hp)
   rw [show i + (k + 1) + 1 = i + 1 + k + 1 by omega] at this
   exact this) σ1 M1 h1
  refine ⟨σ2,M2,?_,by rw [Qo,show i + (xs.length + 1) = i + 1 + xs.length by omega];exact h2⟩
  rw [zbi]
  cases q:bd x σ M with
  | bad=>rw [q] at e1;cases e1
  | exn C fs M'=>rw [q] at e1;cases e1
  | ok σ3 M3=>
   rw [q] at e1
   replace e1:body σ3 M3 = .ok (.nx σ1) M1:=e1
   show (body σ3 M3).bind (zw (forL bd body xs)) = _
   rw [e1]
   exact e2
theorem zeE (lo:Int) (n:Nat):(yw lo n).length = n:=by simp [yw]
theorem zdY {lo:Int} {k:Nat} {x:T} (h:(yw lo n)[k]? = some x):k < n/\x = .int (lo + k):=by
 unfold yw at h
 rw [Qa] at h
 cases q:(List.range n)[k]? with
 | none=>rw [q] at h;cases h
 | some j=>
  rw [q] at h
  have hk:k < n:=by have:=(List.getElem?_eq_some_iff.mp q).1;simpa using this
  rw [getElem?_range hk] at q
  cases q
  exact ⟨hk,(Qc h).symm⟩
theorem zes {α:Type} (f:α->Bool):∀ xs:List α,zcd (xs.map fun x=>T.bl (f x)) = some (xs.map f)
 | []=>rfl
 | x :: xs=>by
  show (zcd (xs.map fun x=>T.bl (f x))).map (f x :: ·) = _
  rw [zes f xs]
  rfl
theorem zhN {α:Type} (f:α->Bool) (xs:List α) (M:Mem):zez (.lst (xs.map fun x=>T.bl (f x))) M = .ok (.bl (xs.all f)) M:=by
 unfold zez qp
 simp only [zes]
 rw [List.all_map]
 rfl
theorem zhq:zar (.tup xs) M = .ok (.int xs.length) M:=rfl
theorem zlR:zar (.lst xs) M = .ok (.int xs.length) M:=rfl
theorem zex {α:Type} {xs:List α} (h0:0<=i) (h1:i < xs.length):∃ x,atI xs i = some x/\x ∈ xs:=by
 obtain ⟨n,rfl⟩:∃ n:Nat,i = n:=⟨i.toNat,by omega⟩
 have hn:n < xs.length:=by omega
 exact ⟨xs[n],by rw [yR];simp [hn],getElem_mem hn⟩
variable {ys:List T}
theorem zmi (h:xs.length + ys.length<=sizeLine):ym (.tup xs) (.tup ys) M = .ok (.tup (xs ++ ys)) M:=if_pos h
theorem zcX (h:xs.length + ys.length<=sizeLine):ym (.lst xs) (.lst ys) M = .ok (.lst (xs ++ ys)) M:=if_pos h
noncomputable def zaP:T->Option Key
 | .int i=>some (.inl i)
 | .str x=>some (.inr x)
 | _=>none
noncomputable def qK (t:T) (M:Mem):Option (List (Key × T)):=match t with
 | .ref a=>match M[a]? with
  | some (.dic kvs)=>some kvs
  | _=>none
 | .dct kvs=>some kvs
 | _=>none
noncomputable def yz (kvs:List (Key × T)) (k:Key):Option T:=(kvs.find? fun kv=>decide (kv.1 = k)).map (·.2)
noncomputable def zbl (kvs:List (Key × T)) (k:Key) (t:T):List (Key × T):=
 if (kvs.any fun kv=>decide (kv.1 = k)) = true then kvs.map (fun kv=>if kv.1 = k then (kv.1,t) else kv) else kvs ++ [(k,t)]
variable {kvs:List (Key × T)} {us:List (Key × V)}
section
theorem z5 {k:Key} (r:Rep K S t v) (e:zaP t = some k):v = kV k:=by
 cases r with
 | int i=>have e':some (Sum.inl i) = some k:=e;cases e';rfl
 | str i=>have e':some (Sum.inr i) = some k:=e;cases e';rfl
 | non=>cases e
 | bl b=>cases e
 | ty b=>cases e
 | tup _ _ _=>cases e
 | lst _ _ _=>cases e
 | ref _=>cases e
 | dct _ _ _=>cases e
 | exc _ _ _ _=>cases e
theorem RepK.nilT (r:RepK K S [] us):us = []:=by
 have:=r.1
 simpa using this.symm
theorem RepK.nil:RepK K S [] []:=⟨rfl,.nil⟩
theorem RepK.consT {p:Key × T} (r:RepK K S (p :: kvs) us):∃ u us',us = (p.1,u) :: us'/\Rep K S p.2 u/\RepK K S kvs us':=by
 cases us with
 | nil=>have:=r.1;simp at this
 | cons q us=>
  obtain ⟨h1,h2⟩:=r
  rw [map_cons,map_cons] at h1 h2
  injection h1 with e1 e2
  obtain ⟨v,vs,e3,r1,r2⟩:=h2.consT
  injection e3 with e3 e4
  refine ⟨q.2,us,?_,?_,e2,?_⟩
  ·rw [e1]
  ·rw [e3];exact r1
  ·rw [e4];exact r2
theorem RepK.cons {k:Key} {u:V} (q:Rep K S t u) (r:RepK K S kvs us):RepK K S ((k,t) :: kvs) ((k,u) :: us):=
 ⟨by rw [map_cons,map_cons,r.1],by rw [map_cons,map_cons];exact r.2.cons q⟩
theorem RepK.length (r:RepK K S kvs us):kvs.length = us.length:=by
 have:=congrArg List.length r.1
 simpa using this
theorem RepK.look (k:Key):∀ {kvs:List (Key × T)} {us:List (Key × V)},RepK K S kvs us->(yz kvs k = none/\qC us k = none)\/∃ t v,yz kvs k = some t/\qC us k = some v/\Rep K S t v
 | [],us,r=>by rw [r.nilT];exact .inl ⟨rfl,rfl⟩
 | p :: kvs,us,r=>by
  obtain ⟨u,us',rfl,r1,r2⟩:=r.consT
  by_cases h:p.1 = k
  ·refine .inr ⟨p.2,u,?_,?_,r1⟩
   ·simp [yz,find?_cons,h]
   ·simp [qC,find?_cons,h]
  ·have e1:yz (p :: kvs) k = yz kvs k:=by simp [yz,find?_cons,h]
   have e2:qC ((p.1,u) :: us') k = qC us' k:=by simp [qC,find?_cons,h]
   rw [e1,e2]
   exact RepK.look k r2
theorem RepK.any (k:Key):∀ {kvs:List (Key × T)} {us:List (Key × V)},RepK K S kvs us->(kvs.any fun kv=>decide (kv.1 = k)) = us.any fun kv=>decide (kv.1 = k)
 | [],us,r=>by rw [r.nilT];rfl
 | p :: kvs,us,r=>by
  obtain ⟨u,us',rfl,r1,r2⟩:=r.consT
  rw [any_cons,any_cons,RepK.any k r2]
theorem RepK.repl (k:Key) {t:T} {v:V} (q:Rep K S t v):∀ {kvs:List (Key × T)} {us:List (Key × V)},RepK K S kvs us->RepK K S (kvs.map (fun kv=>if kv.1 = k then (kv.1,t) else kv)) (us.map (fun kv=>if kv.1 = k then (kv.1,v) else kv))
 | [],us,r=>by rw [r.nilT];exact .nil
 | p :: kvs,us,r=>by
  obtain ⟨u,us',rfl,r1,r2⟩:=r.consT
  rw [map_cons,map_cons]
  by_cases h:p.1 = k
  ·rw [if_pos h,if_pos h]
   exact (RepK.repl k q r2).cons q
  ·rw [if_neg h,if_neg h]
   exact (RepK.repl k q r2).cons r1
theorem RepK.snoc (k:Key) {t:T} {v:V} (q:Rep K S t v):∀ {kvs:List (Key × T)} {us:List (Key × V)},RepK K S kvs us->RepK K S (kvs ++ [(k,t)]) (us ++ [(k,v)])
 | [],us,r=>by rw [r.nilT];exact RepK.nil.cons q
 | p :: kvs,us,r=>by
  obtain ⟨u,us',rfl,r1,r2⟩:=r.consT
  exact (RepK.snoc k q r2).cons r1
theorem RepK.put (k:Key) (q:Rep K S t v) (r:RepK K S kvs us):RepK K S (zbl kvs k t) (putK us k v):=by
 unfold zbl putK
 rw [r.any k]
 split
 ·exact r.repl k q
 ·exact r.snoc k q
theorem qM (m:MemOk K S) {x:V} (r:Rep K S t x) (e:qK t S.M = some kvs):∃ p us,x = .ref p/\Rd S.H p (.dK us)/\RepK K S kvs us:=by
 unfold qK at e
 split at e
 ·split at e
  ·rename_i a _ kvs' q
   cases e
   cases r
   obtain ⟨us,h1,h2⟩:=m.cell _ _ q
   exact ⟨_,us,rfl,.inl h1,h2⟩
  ·cases e
 ·cases e
  cases r with
  | dct h l rr=>
   refine ⟨_,_,rfl,.inr ⟨_,h⟩,l,?_,rr⟩
   have:=congrArg List.length l
   simpa using this
 ·cases e
theorem _root_.L2.DGet.r {a:Addr} {k:Key} (e:Rd H a (.dK us)):DGet H a (kV k) (qC us k):=.inl ⟨us,k,e,rfl,rfl⟩
theorem RepK.isSome (k:Key) (r:RepK K S kvs us):(qC us k).isSome = (yz kvs k).isSome:=by
 rcases r.look k with ⟨a,b⟩ | ⟨t,v,a,b,_⟩
 ·rw [a,b];rfl
 ·rw [a,b];rfl
theorem zii (m:MemOk K S) {a:Nat} (e:S.M[a]? = some c) {ts:List (Key × T)} {vs:List (Key × V)} (r:RepK K S ts vs):Stp K S (S.put a (.dK vs) (.dic ts)):=by
 have ha:a < S.M.length:=(List.getElem?_eq_some_iff.mp e).1
 exact Stp.put m ha _ _ ⟨vs,zn,r.grow m (Grow.put m ha _ _)⟩
end
section
noncomputable def inD:T->T->Mem->Out T:=fun x y M=>match qK y M with
 | some kvs=>match zaP x with
  | some k=>.ok (.bl (yz kvs k).isSome) M
  | none=>.bad
 | none=>inA x y M
theorem zmm (hu:X.A.units + 64 < cLine):OpR X (compareOp .In) (lR2 XE X.K inD):=by
 intro pins s σ H x y v u Q I rx ry ⟨S,⟨tx,ty⟩,e,m,⟨r1,r2⟩,fin⟩
 replace fin:Fin XE (Rep X.K) X.K S (inD tx ty S.M) Q:=fin
 unfold inD at fin
 split at fin
 ·subst e
  rename_i kvs q
  split at fin
  ·rename_i k qk
   obtain ⟨p,us,e3,e4,rk⟩:=qM m r2 q
   dsimp only at e3
   subst e3
   cases (show u = Value.ref p from ry)
   have ek:=z5 r1 qk
   dsimp only at ek
   subst ek
   refine zl0 (by omega) I (.r e4) rx fun s' I'=>⟨.bl _,S.H,I',rfl,?_⟩
   rw [rk.isSome k]
   exact fin S _ rfl (.refl m) (.bl _)
  ·exact fin.elim
 ·exact zjS pins s σ H x y v u Q I rx ry ⟨S,⟨tx,ty⟩,e,m,⟨r1,r2⟩,fin⟩
noncomputable def zcJ (o i t:T) (M:Mem):Out Unit:=match o,zaP i with
 | .ref a,some k=>match M[a]? with
  | some (.dic kvs)=>if kvs.length < sizeLine then .ok () (M.set a (.dic (zbl kvs k t))) else .bad
  | _=>zbX o i t M
 | _,_=>zbX o i t M
theorem zkU (hu:X.A.units + 64 < cLine):zcZ X (zfP XE X.K zcJ):=by
 intro pins s σ H o i v ov iv u Q I ro ri rv ⟨S,⟨⟨to,ti⟩,tv⟩,e,m,⟨⟨r1,r2⟩,r3⟩,fin⟩
 replace fin:Fin XE UnR X.K S (zcJ to ti tv S.M) (fun _ H'=>Q H'):=fin
 unfold zcJ at fin
 split at fin
 ·split at fin
  ·rename_i a k qk _ kvs q
   split at fin
   ·rename_i hz
    subst e
    obtain ⟨us,h4,rk⟩:=m.cell _ _ q
    cases r1
    cases (show ov = Value.ref (S.α a) from ro)
    have ek:=z5 r2 qk
    dsimp only at ek
    subst ek
    refine zgQ (by omega) I (.k h4 (by rw [← rk.length];exact hz)) ri rv fun s' I'=>⟨_,I',?_⟩
    exact fin (S.put a (.dK (putK us k v)) (.dic (zbl kvs k tv))) () rfl (zii m q (rk.put k r3)) trivial
   ·exact fin.elim
  ·exact zds pins s σ H o i v ov iv u Q I ro ri rv ⟨S,⟨⟨_,ti⟩,tv⟩,e,m,⟨⟨r1,r2⟩,r3⟩,fin⟩
 ·exact zds pins s σ H o i v ov iv u Q I ro ri rv ⟨S,⟨⟨_,ti⟩,tv⟩,e,m,⟨⟨r1,r2⟩,r3⟩,fin⟩
noncomputable def ixD:T->T->Mem->Out T:=fun x y M=>match qK x M with
 | some kvs=>match zaP y with
  | some k=>zd4 (yz kvs k) M
  | none=>.bad
 | none=>ixT x y M
theorem zhw (hu:X.A.units + 64 < cLine):IxR X (lR2 XE X.K ixD):=by
 intro va sl pins s σ H x y v u Q I rx ry ⟨S,⟨tx,ty⟩,e,m,⟨r1,r2⟩,fin⟩ hs
 replace fin:Fin XE (Rep X.K) X.K S (ixD tx ty S.M) Q:=fin
 unfold ixD at fin
 split at fin
 ·subst e
  rename_i kvs q
  split at fin
  ·rename_i k qk
   obtain ⟨t,et,fin⟩:=ze3 fin
   obtain ⟨p,us,e3,e4,rk⟩:=qM m r1 q
   dsimp only at e3
   subst e3
   cases (show v = Value.ref p from rx)
   have ek:=z5 r2 qk
   dsimp only at ek
   subst ek
   rcases rk.look k with ⟨a1,_⟩ | ⟨t',w,a1,b1,rw'⟩
   ·rw [a1] at et;cases et
   ·rw [a1] at et
    cases et
    have hT:=zeJ I (DGet.r (k:=k) e4)
    have h2:wpAny (model X.prog X.w) X.A (getItem (.ref p) u) (EP X pins σ Q) X.xe s:=zgR (by omega) I (b1 ▸ DGet.r e4) ry fun w' s3 I3 rw2=>⟨w,S.H,I3,rw2,fin S w rfl (.refl m) rw'⟩
    unfold subscriptTail
    refine Q1 ?_
    rw [getitemInPython_of_ne hT.not_modules]
    refine Q1 (wpAny_specialOf hT PySem.F.slot_dict_getitem.lookup ?_)
    have f2:wpAny (model X.prog X.w) X.A (subscripted sl false (.ref p) u) (fun r s₃=>wpAny (model X.prog X.w) X.A (letTemporaryGo va (.ref p) r >>= fun _=>pure r) (EP X pins σ Q) X.xe s₃) X.xe s:=by
     rw [hs]
     exact wpAny_operating (Qf h2 (fun r s₃ h₃=>Q1 (wpAny_letTemporaryGo (Qe h₃))) fun _ _ x=>x)
    first
     | exact Qe (Q1 f2)
     | exact Q1 (Qe (Q1 f2))
     | exact Q1 f2
  ·exact fin.elim
 ·exact qr va sl pins s σ H x y v u Q I rx ry ⟨S,⟨tx,ty⟩,e,m,⟨r1,r2⟩,fin⟩ hs
noncomputable def zfW:Ev->Mem->Out T:=fun _ M=>.ok (.ref M.length) (M ++ [.dic []])
noncomputable def lMt (XE:XK) (K:Frag) (F:T->List T->Mem->Out T):V->List V->Hp->VK->Prop:=fun x xs H Q=>L0 XE (Rep K) K (PrR (Rep K) (Reps K)) (fun a M=>F a.1 a.2 M) (x,xs) H Q
noncomputable def zaC (chk:T->Mem->Bool) (F:T->List T->Mem->Out T) (f:Ev->Mem->Out T) (g:Ev->Mem->Out (List T)):Ev->Mem->Out T:=fun σ M=>(f σ M).bind fun x M1=>if chk x M1 = true then (g σ M1).bind fun ts M2=>F x ts M2 else .bad
noncomputable def zcr (t:T) (M:Mem):Bool:=(qK t M).isSome
theorem zji {K:Frag} {S:Sit} (m:MemOk K S) {t:T} {x:V} (r:Rep K S t x) (h:zcr t S.M = true):tyV K "dict" x S.H:=by
 unfold zcr at h
 cases q:qK t S.M with
 | none=>rw [q] at h;cases h
 | some kvs=>
  obtain ⟨p,us,rfl,e4,_⟩:=qM m r q
  exact .inr (.inr (.inl ⟨rfl,.inl ⟨us,e4⟩⟩))
noncomputable def zbD:T->List T->Mem->Out T:=fun d ts M=>match qK d M,ts with
 | some kvs,[y]=>match zaP y with
  | some k=>.ok ((yz kvs k).getD .non) M
  | none=>.bad
 | some kvs,[y,z]=>match zaP y with
  | some k=>.ok ((yz kvs k).getD z) M
  | none=>.bad
 | _,_=>.bad
theorem RepK.getD (r:RepK K S kvs us) (k:Key) {z:T} (q:Rep K S z w):Rep K S ((yz kvs k).getD z) ((qC us k).getD w):=by
 rcases r.look k with ⟨a,b⟩ | ⟨t,v,a,b,h⟩
 ·rw [a,b];exact q
 ·rw [a,b];exact h
theorem ziG (hu:X.A.units + 64 < cLine):MtR X "dict.get" (lMt XE X.K zbD):=by
 intro pins s σ H x xs v us Q I rx rs ⟨S,⟨tx,ts⟩,e,m,⟨r1,r2⟩,fin⟩
 subst e
 replace r1:Rep X.K S tx x:=r1
 replace r2:Reps X.K S ts xs:=r2
 replace fin:Fin XE (Rep X.K) X.K S (zbD tx ts S.M) Q:=fin
 unfold zbD at fin
 split at fin
 ·rename_i kvs y q
  split at fin
  ·rename_i k qk
   obtain ⟨p,ks,rfl,e4,rk⟩:=qM m r1 q
   obtain ⟨w1,ws,rfl,h1,h2⟩:=r2.consT
   cases h2.nilT
   cases rs with | cons a1 a2=>
   cases a2
   cases (show v = Value.ref p from rx)
   cases z5 h1 qk
   exact zkH (by omega) I (.r e4) a1 fun w' s' I' rw'=>⟨_,S.H,I',rw',fin S _ rfl (.refl m) (rk.getD k .non)⟩
  ·exact fin.elim
 ·rename_i kvs y z q
  split at fin
  ·rename_i k qk
   obtain ⟨p,ks,rfl,e4,rk⟩:=qM m r1 q
   obtain ⟨w1,ws,rfl,h1,h2⟩:=r2.consT
   obtain ⟨w2,ws,rfl,h3,h4⟩:=h2.consT
   cases h4.nilT
   cases rs with | cons a1 a2=>
   cases a2 with | cons a2 a3=>
   cases a3
   cases (show v = Value.ref p from rx)
   cases z5 h1 qk
   exact zkG (by omega) I (.r e4) a1 a2 fun w' s' I' rw'=>⟨_,S.H,I',rw',fin S _ rfl (.refl m) (rk.getD k h3)⟩
  ·exact fin.elim
 ·exact fin.elim
end
end FT
namespace L2
open PySem PySem.Spec PySem.W PyProof.Rows
theorem ziQ {k:Key} {v:Value} (h:zaQ k v = true):RelV (kV k) v:=by
 rcases qo h with ⟨i,t,rfl,rfl⟩ | ⟨x,t,rfl,rfl⟩
 ·exact ⟨t,rfl⟩
 ·exact ⟨t,rfl⟩
theorem zbf:∀ {ns:List Int} {us:List Value},Vals (ns.map V.int) us->IntsAre us ns
 | [],_,r=>by cases r;exact .nil
 | n :: ns,_,r=>by
  rw [map_cons] at r
  cases r with
  | cons h t=>
   obtain ⟨k,rfl⟩:=h
   exact .cons n k (zbf t)
theorem zaH:∀ {us:List Value} {ns:List Int},IntsAre us ns->Vals (ns.map V.int) us
 | _,_,.nil=>.nil
 | _,_,.cons n t h=>.cons ⟨t,rfl⟩ (zaH h)
theorem zbG:∀ {xs:List V} {us:List Value},xs.length = us.length->(∀ (i:Nat) v w,xs[i]? = some v->us[i]? = some w->RelV v w)->Vals xs us
 | [],[],_,_=>.nil
 | [],_ :: _,h,_=>by simp at h
 | _ :: _,[],h,_=>by simp at h
 | x :: xs,u :: us,h,g=>.cons (g 0 x u rfl rfl) (zbG (by simpa using h) fun i v w e1 e2=>g (i + 1) v w (by simpa using e1) (by simpa using e2))
end L2
namespace FT
open PySem PySem.Spec PyProof.Rows L2
noncomputable def insI (x:Int):List Int->List Int
 | []=>[x]
 | y :: ys=>if x<=y then x :: y :: ys else y :: insI x ys
noncomputable def yA:List Int->List Int
 | []=>[]
 | x :: xs=>insI x (yA xs)
theorem insI_perm (x:Int):∀ ys,(insI x ys).Perm (x :: ys)
 | []=>.refl _
 | y :: ys=>by
  unfold insI
  split
  ·exact .refl _
  ·exact ((insI_perm x ys).cons y).trans (.swap x y ys)
theorem za5:∀ xs,(yA xs).Perm xs
 | []=>.refl _
 | x :: xs=>(insI_perm x (yA xs)).trans ((za5 xs).cons x)
theorem zff (x:Int):∀ {ys:List Int},ys.Pairwise (·<=·)->(insI x ys).Pairwise (·<=·)
 | [],_=>by simp [insI]
 | y :: ys,h=>by
  unfold insI
  have h':=List.pairwise_cons.mp h
  split
  ·rename_i hx
   refine List.pairwise_cons.mpr ⟨fun z hz=>?_,h⟩
   rcases mem_cons.mp hz with rfl | hz
   ·exact hx
   ·exact Int.le_trans hx (h'.1 z hz)
  ·rename_i hx
   refine List.pairwise_cons.mpr ⟨fun z hz=>?_,zff x h'.2⟩
   rcases mem_cons.mp ((insI_perm x ys).mem_iff.mp hz) with rfl | hz
   ·omega
   ·exact h'.1 z hz
theorem zcI:∀ xs:List Int,(yA xs).Pairwise (·<=·)
 | []=>.nil
 | x :: xs=>zff x (zcI xs)
theorem zbt {ns ns':List Int} (h:ns'.Perm ns) (p:ns'.Pairwise (·<=·)):ns' = yA ns:=
 List.Perm.eq_of_pairwise (le:=(·<=·)) (fun _ _ _ _ h1 h2=>Int.le_antisymm h1 h2) p (zcI ns) (h.trans (za5 ns).symm)
theorem Reps.ints {K:Frag} {S:Sit}:∀ ns:List Int,Reps K S (ns.map T.int) (ns.map V.int)
 | []=>.nil
 | n :: ns=>(Reps.ints ns).cons (.int n)
noncomputable def tK:Key->T
 | .inl i=>.int i
 | .inr x=>.str x
theorem zjk {K:Frag} {S:Sit} (k:Key):Rep K S (tK k) (kV k):=by
 cases k with
 | inl i=>exact .int i
 | inr x=>exact .str x
theorem Reps.keys {K:Frag} {S:Sit}:∀ ks:List Key,Reps K S (ks.map tK) (ks.map kV)
 | []=>.nil
 | k :: ks=>(Reps.keys ks).cons (zjk k)
noncomputable def SubL (m:List (Str × Addr)):List (Str × Addr)->Prop
 | []=>True
 | c :: l=>m.lookup c.1 = some c.2/\SubL m l
theorem zea:∀ {l m:List (Str × Addr)},SubL m l->∀ x a,l.lookup x = some a->m.lookup x = some a
 | [],_,_,_,_,h=>by cases h
 | (y,b) :: l,m,g,x,a,h=>by
  rw [lookup_cons] at h
  split at h
  ·rename_i e
   cases h
   rw [eq_of_beq e]
   exact g.1
  ·exact zea g.2 x a h
noncomputable def zgS (kvs prs:List (Key × T)):List (Key × T):=prs.foldl (fun acc kv=>zbl acc kv.1 kv.2) kvs
theorem RepK.merge {K:Frag} {S:Sit}:∀ {prs:List (Key × T)} {us:List (Key × V)} {kvs:List (Key × T)} {ws:List (Key × V)},RepK K S prs us->RepK K S kvs ws->RepK K S (zgS kvs prs) (zgt ws us)
 | [],us,kvs,ws,r,q=>by rw [r.nilT];exact q
 | p :: prs,us,kvs,ws,r,q=>by
  obtain ⟨u,us',rfl,r1,r2⟩:=r.consT
  show RepK K S (zgS (zbl kvs p.1 p.2) prs) (zgt (putK ws p.1 u) us')
  exact RepK.merge r2 (q.put p.1 r1)
variable {X:Cx} {f:Ev->Mem->Out T} {e:Expr} {pos:Pos} {XE:XK}
section
theorem ziT:PIp X .Mult (lR2 XE X.K zd7):=by
 intro pins s σ H x y v u Q I rx ry ⟨S,⟨tx,ty⟩,e,m,⟨r1,r2⟩,fin⟩
 subst e
 replace fin:Fin XE (Rep X.K) X.K S (zd7 tx ty S.M) Q:=fin
 unfold zd7 yI at fin
 split at fin
 ·rename_i i j
  cases r1;cases r2
  replace fin:Fin XE (Rep X.K) X.K S (if Mo64 i j then .ok (.int (i * j)) S.M else .bad) Q:=fin
  by_cases h:Mo64 i j
  ·rw [if_pos h] at fin
   obtain ⟨t,rfl⟩:=rx
   obtain ⟨t',rfl⟩:=ry
   exact imul_int ⟨.int _,S.H,I.tok _,⟨_,rfl⟩,fin S _ rfl (.refl m) (.int _)⟩ h.ok.ok
  ·rw [if_neg h] at fin;exact fin.elim
 ·exact fin.elim
end
noncomputable def forR (bd:T->Ev->Mem->Out Ev) (body:Ev->Mem->Out Fl) (a:Nat):Nat->Nat->Ev->Mem->Out Fl
 | 0,i,σ,M=>match M[a]? with
  | some (.lst xs)=>if xs.length<=i then .ok (.nx σ) M else .bad
  | _=>.bad
 | n + 1,i,σ,M=>match M[a]? with
  | some (.lst xs)=>match xs[i]? with
   | some x=>(bd x σ M).bind fun σ1 M1=>(body σ1 M1).bind (zw (forR bd body a n (i + 1)))
   | none=>.ok (.nx σ) M
  | _=>.bad
noncomputable def zbr (bd:T->Ev->Mem->Out Ev) (body:Ev->Mem->Out Fl) (t:T) (σ:Ev) (M:Mem):Out Fl:=match t with
 | .ref a=>match M[a]? with
  | some (.lst xs)=>forR bd body a xs.length 0 σ M
  | _=>.bad
 | _=>.bad
noncomputable def zdt (f:Ev->Mem->Out T) (bd:T->Ev->Mem->Out Ev) (body:Ev->Mem->Out Fl):Ev->Mem->Out Fl:=fun σ M=>(f σ M).bind fun t M1=>zbr bd body t σ M1
section
variable {tg:Expr} {sts:List Stmt} {p:Ev->Mem->Out Fl}
end
theorem zei {bd:T->Ev->Mem->Out Ev} {body:Ev->Mem->Out Fl} {a:Nat} {xs:List T} (P:Nat->Ev->Mem->Prop) (hP:∀ k σ M,P k σ M->M[a]? = some (.lst xs))
  (t:∀ k x σ M,xs[k]? = some x->P k σ M->∃ σ' M',((bd x σ M).bind fun σ1 M1=>body σ1 M1) = .ok (.nx σ') M'/\P (k + 1) σ' M'):∀ n i,i + n = xs.length->∀ σ M,P i σ M->∃ σ' M',forR bd body a n i σ M = .ok (.nx σ') M'/\P xs.length σ' M'
 | 0,i,hi,σ,M,h=>by
  have hM:=hP i σ M h
  refine ⟨σ,M,?_,by rw [← hi];exact h⟩
  unfold forR
  rw [hM]
  exact if_pos (by omega)
 | n + 1,i,hi,σ,M,h=>by
  have hM:=hP i σ M h
  have hx:xs[i]? = some xs[i]:=by simp [show i < xs.length by omega]
  obtain ⟨σ1,M1,e1,h1⟩:=t i _ σ M hx h
  obtain ⟨σ2,M2,e2,h2⟩:=zei P hP t n (i + 1) (by omega) σ1 M1 h1
  refine ⟨σ2,M2,?_,h2⟩
  unfold forR
  rw [hM]
  simp only [hx]
  cases q:bd xs[i] σ M with
  | bad=>rw [q] at e1;cases e1
  | exn C fs M'=>rw [q] at e1;cases e1
  | ok σ3 M3=>
   rw [q] at e1
   replace e1:body σ3 M3 = .ok (.nx σ1) M1:=e1
   show (body σ3 M3).bind (zw (forR bd body a n (i + 1))) = _
   rw [e1]
   exact e2
noncomputable def zcq (t:T) (M:Mem):Bool:=(qp t M).isSome
theorem zjh {K:Frag} {S:Sit} (m:MemOk K S) {t:T} {x:V} (r:Rep K S t x) (h:zcq t S.M = true):tyV K "list" x S.H:=by
 unfold zcq at h
 cases q:qp t S.M with
 | none=>rw [q] at h;cases h
 | some xs=>
  obtain ⟨p,vs,rfl,hq,_⟩:=yk m r q
  exact .inl ⟨rfl,vs,hq⟩
end FT
namespace L2
open PySem PySem.Spec PySem.W PyProof.Rows
theorem KV.get_val {κ:Type}:∀ {kvs:List (κ × V)} {vs:List (κ × Value)} {i:Nat} {k:κ} {v:Value},KV kvs vs->vs[i]? = some (k,v)->∃ u,(kvs.map (·.2))[i]? = some u/\RelV u v
 | _,_,_,_,_,.nil,e=>by simp at e
 | _,_,0,_,_,.cons r _,e=>by simp at e;subst e;exact ⟨_,rfl,r.2⟩
 | _,_,i + 1,k,v,.cons _ t,e=>by
  obtain ⟨u,h1,h2⟩:=KV.get_val (i:=i) (k:=k) (v:=v) t (by simpa using e)
  exact ⟨u,by simpa using h1,h2⟩
end L2
namespace L2
open PySem PySem.Spec PySem.W PyProof.Rows PySem.Calls
section
variable {prog:Program} {w:World} {A:Around} {E:Value->Shared->Prop} {s:Shared} {T:String} {r d:Addr} {n:Nat} {P:Nat->Value->Prop} {OK:Heap->Prop}
theorem zfZ {R:List Value->Shared->Prop} (K:KdlSrc prog w T r d n P OK) (hh:A.handled = none) (hok:OK s.heap) (hn:n<=sizeLine)
  (go:∀ (g:Heap) (tk:Nat) (acc:Array Value),(∀ b o,s.heap.get? b = some o->g.get? b = some o)->s.heap.objs.size<=g.objs.size->ItemsOf P acc n->R acc.toList { s with heap:=g,toks:=tk }) :
  wpAny (model prog w) A (collect (.ref r)) R E s:=by
 have lt2:=K.there _ hok
 unfold collect
 refine Q1 (wpAny_runValue (codeAny_builtin entry_proto_collect' (?go)))
 case go=>
  rw [Around.under_plainId PySem.F.plain_proto_collect _];show wpAny _ A.in1 (newList [] >>= fun l=>again (.builtin "list.__iadd__" ⟨[l,.ref r],[]⟩)) _ _ s;refine Q1 (Qr (Qe ⟨plainId_quiet PySem.F.plain_list_iadd _,codeAny_builtin entry_list_iadd' (?_)⟩))
  rw [Around.under_plainId PySem.F.plain_list_iadd _];show wpAny _ A.in1 (Builtin.List.listExtendWith (.ref s.heap.objs.size) (.ref r) (.ref s.heap.objs.size)) _ _ _
  have at0:(s.heap.push { cls:=.type "list",data:=.seq ([]:List Value).toArray }).get? s.heap.objs.size = some { cls:=.type "list",data:=.seq #[] }:=Qk _ rfl
  have ext:=kdl_extend (A:=A) (s:={ s with heap:=s.heap.push { cls:=.type "list",data:=.seq ([]:List Value).toArray } }) (R:=fun (q:Result) (s':Shared)=>∃ (g:Heap) (tk:Nat) (acc:Array Value) (c:Nat),q = .ok (.ret (.ref s.heap.objs.size))/\s' = { s with heap:=g,toks:=tk }/\(∀ b o,s.heap.get? b = some o->g.get? b = some o)/\g.get? s.heap.objs.size = some { cls:=.type "list",dict:=none,data:=.seq acc c,slots:=#[] }/\ItemsOf P acc n) K hh (K.keep _ _ hok fun b _ o e=>Q2 _ e) s.heap.objs.size (Nat.ne_of_gt lt2.1) (Nat.ne_of_gt lt2.2) (.ref s.heap.objs.size) 0 at0 (fun g tk acc c hk hS hacc=>⟨g,tk,acc,c,rfl,rfl,fun b o e=>hk b o (Qj (Qd e)) (Q2 _ e),hS,hacc⟩) hn
  refine Qf ext (fun fin s' x=>?_) fun e s' x=>(by obtain ⟨_,_,_,_,e',_⟩:=x;cases e')
  cases fin with
  | done f=>
   obtain ⟨g,tk,acc,c,e,rfl,hk,hS,hacc⟩:=x;cases e
   show wpAny _ A (load s.heap.objs.size >>= _) _ _ _;exact Q1 (wpAny_load hS (Qe (go g tk acc hk (Nat.le_of_lt (Qd hS)) hacc)))
  | again c₁=>
   refine ⟨x.1,codeAny_mono x.2 fun q s₂ y=>?_⟩;obtain ⟨g,tk,acc,c,rfl,rfl,hk,hS,hacc⟩:=y
   show wpAny _ A (load s.heap.objs.size >>= _) _ _ _;exact Q1 (wpAny_load hS (Qe (go g tk acc hk (Nat.le_of_lt (Qd hS)) hacc)))
end
end L2
namespace FT
open PySem PySem.Spec PyProof.Rows L2
noncomputable def zb7:List Key->Option (List Int)
 | []=>some []
 | .inl n :: ks=>(zb7 ks).map (n :: ·)
 | _ :: _=>none
theorem zfc:∀ {ks:List Key} {ns:List Int},zb7 ks = some ns->ks = ns.map Sum.inl
 | [],ns,h=>by cases h;rfl
 | .inl n :: ks,ns,h=>by
  unfold zb7 at h
  cases q:zb7 ks with
  | none=>rw [q] at h;cases h
  | some ms=>rw [q] at h;cases h;rw [zfc q];rfl
 | .inr _ :: ks,ns,h=>by cases h
theorem zc8:∀ ns:List Int,zb7 (ns.map Sum.inl) = some ns
 | []=>rfl
 | n :: ns=>by
  show (zb7 (ns.map Sum.inl)).map (n :: ·) = _
  rw [zc8 ns];rfl
end FT
namespace L2
open PySem PySem.Spec PySem.W PyProof.Rows
variable {X:Cx}
section
variable {pins:List (Addr × Obj)} {σ:St} {H:Hp} {s:Shared} {l:Addr} {us:List (Key × V)}
theorem Inv.freeze (I:Inv X pins σ H s) (e:H l = some (.dK us)):∃ ob,Inv X pins σ (upd H l (.frz ob (.dK us))) s:=by
 obtain ⟨z,hs,vs,rel,o,es,ep,ho,r⟩:=(show ObjOk X.prog X.w H s.heap l (.dK us) from I.hok l _ e)
 exact ⟨o,I.write (x:=l) (e:=l) (o:=.frz o (.dK us)) (h':=s.heap) (t':=s.toks) (by rw [e];trivial) (.inl rfl) (fun b u _ q=>q) ⟨o,ho⟩ ⟨ho,z,hs,vs,rel,o,es,ep,ho,r⟩⟩
end
noncomputable def zlZ (Q:VK):VK:=fun v H'=>∃ l us,v = .ref l/\H' l = some (.dK us)/\∀ ob,Q v (upd H' l (.frz ob (.dK us)))
theorem CallR.frz {f:Value} {r:List V->Hp->VK->Prop} (h:CallR X f r):CallR X f (fun xs H Q=>r xs H (zlZ Q)):=by
 intro pins s σ H xs us Q I rv hr
 refine Qf (h pins s σ H xs us _ I rv hr) (fun v s' ⟨x,H',I',r',l,us',ex,e,q⟩=>?_) fun _ _ z=>z
 obtain ⟨ob,I2⟩:=I'.freeze e
 exact ⟨x,_,I2,r',q ob⟩
end L2
namespace FT
open PySem PySem.Spec PyProof.Rows L2
noncomputable def zhd (f:Str) (v:T):List (Str × T)->List (Str × T)
 | []=>[(f,v)]
 | (g,x) :: r=>if g = f then (g,v) :: r else (g,x) :: zhd f v r
variable {us:List (Str × V)}
section
variable {K:Frag} {S:Sit}
theorem RepF.nil:RepF K S [] []:=⟨rfl,.nil⟩
theorem RepF.nilT (r:RepF K S [] us):us = []:=by
 have:=r.1
 simpa using this.symm
theorem RepF.consT {p:Str × T} {fs:List (Str × T)} (r:RepF K S (p :: fs) us):∃ u us',us = (p.1,u) :: us'/\Rep K S p.2 u/\RepF K S fs us':=by
 cases us with
 | nil=>have:=r.1;simp at this
 | cons q us'=>
  have h1:=r.1
  simp only [map_cons,List.cons.injEq] at h1
  obtain ⟨v,vs,e,r1,r2⟩:=(show Reps K S (p.2 :: fs.map (·.2)) (q.2 :: us'.map (·.2)) from r.2).consT
  cases e
  exact ⟨q.2,us',by rw [h1.1],r1,h1.2,r2⟩
theorem RepF.cons {g:Str} {t:T} {u:V} {fs:List (Str × T)} (q:Rep K S t u) (r:RepF K S fs us):RepF K S ((g,t) :: fs) ((g,u) :: us):=⟨by simp [r.1],r.2.cons q⟩
theorem RepF.look (f:Str):∀ {fs:List (Str × T)} {us:List (Str × V)},RepF K S fs us->∀ {t:T},fs.lookup f = some t->∃ v,us.lookup f = some v/\Rep K S t v
 | [],us,r,t,e=>by cases e
 | (g,x) :: fs,us,r,t,e=>by
  obtain ⟨u,us',rfl,r1,r2⟩:=r.consT
  rw [lookup_cons] at e ⊢
  cases h:f == g with
  | true=>rw [h] at e;cases e;exact ⟨u,rfl,r1⟩
  | false=>rw [h] at e;exact RepF.look f r2 e
theorem RepF.put (f:Str) {t:T} {v:V} (q:Rep K S t v):∀ {fs:List (Str × T)} {us:List (Str × V)},RepF K S fs us->RepF K S (zhd f t fs) (zhe f v us)
 | [],us,r=>by rw [r.nilT];exact RepF.cons q .nil
 | (g,x) :: fs,us,r=>by
  obtain ⟨u,us',rfl,r1,r2⟩:=r.consT
  unfold zhd zhe
  by_cases h:g = f
  ·rw [if_pos h,if_pos h];exact RepF.cons q r2
  ·rw [if_neg h,if_neg h];exact RepF.cons r1 (RepF.put f q r2)
end
structure MakT (P:Program) (w:World) (K:Frag) (mg:Str->Option Value) (base:Heap) (k:Nat) (x:Str) (C:Addr) (ps:List Str) (f:List T->Mem->Out T):Prop where
 ex:∃ (fI:Addr) (fd:FuncData),Mk K C fI/\FnOk P w K mg base CX0 k fI fd ps (spT K f)/\Binds K fd ps []/\mg x = some (.ref C)
 nox:∀ ts M C fs M',f ts M ≠ .exn C fs M'
structure Di (K:Frag) (mg:Str->Option Value) (x qual:Str) (C:Addr) (st:Stmt) (ps:List Str):Prop where
 ex:∃ (fI:Addr) (fd:FuncData),Mk K C fI/\Fun K "__init__" qual st fI fd/\Binds K fd ps []/\mg x = some (.ref C)
noncomputable abbrev Gd:=List (Nat × List T)
def zfU (G:Gd) (M:Mem):Prop:=∀ g ∈ G,M[g.1]? = some (.lst g.2)
noncomputable def gdK {β:Type} (G:Gd) (M:Mem) (o:Out β):Out β:=@ite _ (zfU G M) (Classical.propDecidable _) o .bad
theorem zgI {β:Type} {G:Gd} {M:Mem} {o:Out β} (h:zfU G M):gdK G M o = o:=if_pos h
def ItG (K:Frag) (S:Sit) (items:List T × Gd) (J:It):Prop:=∀ S',Stp K S S'->zfU items.2 S'.M->
 (∀ (i:Nat) t,items.1[i]? = some t->J.go i S'.H/\∀ x H',J.yld i S'.H x H'->∃ S'',S''.H = H'/\S''.M = S'.M/\Stp K S' S''/\Rep K S'' t x)/\∀ i,items.1.length<=i->J.stop i S'.H
instance (K):Mo K (ItG K):=⟨fun _ s r=>fun S' s'=>r S' (s.trans s')⟩
noncomputable def lIG (XE:XK) (K:Frag) (f:Ev->Mem->Out (List T × Gd)):TI:=fun σ H R=>LN XE (ItG K) K UnR (fun _ σ M=>f σ M) () σ H R
def GIG (X:Cx) (XE:XK) (tg iter:Expr) (f:Ev->Mem->Out (List T × Gd)):Prop:=PI X tg iter (lIG XE X.K f)
noncomputable def zcP (G:Gd) (bd:T->Ev->Mem->Out Ev) (body:Ev->Mem->Out Fl):List T->Ev->Mem->Out Fl
 | [],σ,M=>gdK G M (.ok (.nx σ) M)
 | x :: xs,σ,M=>gdK G M ((bd x σ M).bind fun σ1 M1=>(body σ1 M1).bind (zw (zcP G bd body xs)))
end FT
namespace L2
open PySem PySem.Spec PySem.W PyProof.Rows
def SI (b:Bool) (h:Heap) (q t:Addr) (k:Nat):Prop:=match b with
 | true=>h.IsTupleIter q t k
 | false=>h.IsListIter q t k
def SS (b:Bool) (h:Heap) (t:Addr) (xs:Array Value):Prop:=match b with
 | true=>h.IsTuple t xs
 | false=>h.IsList t xs
def SqX (K:Frag) (H:Hp) (b:Bool) (a:Addr) (xs:List V):Prop:=match b with
 | true=>SqT K H a xs
 | false=>SqL K H a xs
noncomputable abbrev TSl:=V->Option Int->Option Int->V->Hp->(Hp->Prop)->Prop
end L2
namespace FT
open PySem PySem.Spec PyProof.Rows L2
structure CalX (P:Program) (w:World) (K:Frag) (mg:Str->Option Value) (base:Heap) (k:Nat) (x:Str) (ps:List Str) (f:List T->Mem->Out T):Prop where
 ex:∃ (fa:Addr) (fd:FuncData),FnOk P w K mg base (CXX P w) k fa fd ps (spT K f)/\PySem.W.keepIn K (.ref fa) = true/\Binds K fd ps []/\mg x = some (.ref fa)
variable {C:Addr} {K:Frag} {base:Heap} {P:Program} {x:Str} {mg:Str->Option Value} {w:World}
section
variable {X:Cx} {XE:XK} {k i j:Nat} {ps:List Str} {y v nm:Str} {p pos pos2 np hp tp vp cpos:Pos} {e:Expr} {es:List Expr} {ga:Ev->Mem->Out (List T)} {F:List T->Mem->Out T} {b0:Stmt} {suite sts:List Stmt} {g gs:Ev->Mem->Out Fl}
structure XcF (P:Program) (w:World) (K:Frag) (mg:Str->Option Value) (base:Heap) (x:Str) (C:Addr):Prop where
 ex:∃ f fd,XcAt K mg x C f/\FnOk P w K mg base CX0 1 f fd ["self","at"] (fun vs H Q E=>(∃ e t v,vs = [.ref e,v]/\H e = some (.ext (ExN e C t none))/\∀ d,H d = none->d ≠ e->Q .non (upd (upd H e (.ext (ExN e C t (some d)))) d (.xd [("at",v)]))))/\Binds K fd ["self","at"] []
theorem XcF.at (O:XcF P w K mg base x C):∃ nm fI,XcAt K mg nm C fI:=let ⟨f,_,h,_⟩:=O.ex;⟨x,f,h⟩
def GX (X:Cx) (sts:List Stmt) (g:Ev->Mem->Out Fl):Prop:=PX X sts fun E=>lS E X.K g
noncomputable def noX (o:Out Fl):Out Fl:=match o with
 | .exn _ _ _=>.bad
 | o=>o
noncomputable def zmI (cs:List Addr) (g gs:Ev->Mem->Out Fl):Ev->Mem->Out Fl:=fun σ M=>match g σ M with
 | .exn C _ M'=>if cs.contains C = true then noX (gs σ M') else .bad
 | o=>o
noncomputable def clr (j:Nat) (fl:Fl) (M:Mem):Out Fl:=match fl with
 | .nx σ=>.ok (.nx (σ.set j none)) M
 | .rt t=>.ok (.rt t) M
 | .bk σ=>.ok (.bk (σ.set j none)) M
 | .ct σ=>.ok (.ct (σ.set j none)) M
noncomputable def zmx (j:Nat) (cs:List Addr) (g gs:Ev->Mem->Out Fl):Ev->Mem->Out Fl:=fun σ M=>match g σ M with
 | .exn C fs M'=>if cs.contains C = true then (noX (gs (σ.set j (some (.exc C fs))) M')).bind (clr j) else .bad
 | o=>o
end
theorem zg4 {f:Addr} (O:XcAt K mg x C f):Sup K mg x C C:=⟨O.bound,fun h X=>by
 obtain ⟨bm,N,nm,q,bs,sn,sub,ab,col,dd,k0,k1,k2,k3,k5,mN,hC,_,_,_,T⟩:=O.obj h X
 exact ⟨⟨bm,N,nm,q,bs,true,sn,sub,ab,col,dd,k0,k1,k2,k3,k5,hC,(T.tail (by decide)).hasType PySem.F.excBase_ValueError.hasBase⟩,bm,N,nm,q,bs,true,sn,sub,ab,col,dd,k0,k1,k2,k3,k5,hC,by simp⟩⟩
theorem XcF.sup (O:XcF P w K mg base x C):Sup K mg x C C:=let ⟨_,_,h,_⟩:=O.ex;zg4 h
end FT
namespace L2
open PySem
noncomputable def subs:Nat->List (List Nat)
 | 0=>[[]]
 | n + 1=>subs n ++ (subs n).map (· ++ [n])
theorem zeR:∀ (n:Nat) (ks:List Nat),ks ∈ subs n->ks.Pairwise (· < ·)/\∀ k ∈ ks,k < n
 | 0,ks,h=>by rw [show ks = [] from mem_singleton.mp h];exact ⟨.nil,fun _ h=>by cases h⟩
 | n + 1,ks,h=>by
  unfold subs at h
  rcases mem_append.mp h with h | h
  ·have:=zeR n ks h
   exact ⟨this.1,fun k hk=>Nat.lt_succ_of_lt (this.2 k hk)⟩
  ·obtain ⟨l,hl,rfl⟩:=mem_map.mp h
   have:=zeR n l hl
   refine ⟨List.pairwise_append.mpr ⟨this.1,List.pairwise_singleton _ _,fun a ha b hb=>by rw [mem_singleton.mp hb];exact this.2 a ha⟩,fun k hk=>?_⟩
   rcases mem_append.mp hk with hk | hk
   ·exact Nat.lt_succ_of_lt (this.2 k hk)
   ·rw [mem_singleton.mp hk];exact Nat.lt_succ_self _
noncomputable def zl5:Bool:=(subs 6).all fun ks=>(List.range 7).all fun h=>SetTable.below ks.toArray h == (ks.filter (· < h)).length
theorem zjd:zl5 = true:=by decide +kernel
variable {ks:List Nat}
theorem zet (hk:ks ∈ subs 6) {h:Nat} (hh:h < 7):SetTable.below ks.toArray h = (ks.filter (· < h)).length:=by
 have:=all_eq_true.mp (all_eq_true.mp zjd ks hk) h (mem_range.mpr hh)
 exact eq_of_beq this
noncomputable def zjZ (mask:Nat) (hashes:Array Int):Option (List Nat × List Nat):=(SetTable.layClean mask hashes).map fun owner=>
 let live:=(List.range (mask + 1)).filterMap fun j=>(owner.getD j none).map (j,·)
 (live.map (·.1),live.map (·.2))
noncomputable def hsh (ks:List Nat):List Int:=ks.map fun k:Nat=>(k:Int)
noncomputable def layB:Bool:=(subs 6).all fun ks=>[7,15,31].all fun m=>zjZ m (hsh ks).toArray == some (ks,List.range ks.length)
theorem ziM:layB = true:=by decide +kernel
theorem ziO (hk:ks ∈ subs 6) {m:Nat} (hm:m ∈ [7,15,31]) (f mv:Nat) (l p:Bool) :
  SetTable.laid m f mv l p (hsh ks).toArray = some ({ mask:=m,place:=ks.toArray,dummies:=#[],finger:=f,led:=l,moves:=mv,plain:=p },(List.range ks.length).toArray):=by
 have:=eq_of_beq (all_eq_true.mp (all_eq_true.mp ziM ks hk) m hm)
 unfold zjZ at this
 unfold SetTable.laid
 cases q:SetTable.layClean m (hsh ks).toArray with
 | none=>rw [q] at this;cases this
 | some owner=>
  rw [q] at this
  have h:=Prod.mk.inj (Qc this)
  show some _ = some _
  rw [h.1,h.2]
end L2
namespace L2
open PySem PySem.Spec
noncomputable def zkL (w:World):Bool:=w.params.followText "set-order"
structure DTab (w:World) (es:Array (Int × Value)) (t:SetTable) (ks:List Nat) (m:Nat):Prop where
 keys:es.toList.map (·.1) = hsh ks
 vals:∀ e ∈ es.toList,∃ tk,e.2 = .int e.1 tk
 mask:t.mask = m
 place:t.place = ks.toArray
 dumm:t.dummies = #[]
 plain:t.plain = true
 led:zkL w = true\/t.led = true
 sub:ks ∈ subs 6
 ms:m ∈ [7,15,31]
variable {es:Array (Int × Value)} {ks:List Nat} {m:Nat} {t:SetTable} {w:World}
theorem DTab.size (d:DTab w es t ks m):es.size = ks.length:=by
 have:=congrArg List.length d.keys
 unfold hsh at this
 simpa using this
theorem zdL (h:ks ∈ subs 6):ks.length<=6:=by
 have:((subs 6).all fun ks=>ks.length<=6) = true:=by decide +kernel
 simpa using all_eq_true.mp this ks h
theorem DTab.fits (d:DTab w es t ks m):t.fits es.size = true:=by
 have:=zdL d.sub
 have hm:=d.ms
 unfold SetTable.fits SetTable.fill
 rw [d.size,d.place,d.dumm,d.mask]
 simp at hm ⊢
 omega
theorem zjg {k:Nat} (h:k < 6):hashInt (k:Int) = k:=by
 have:((List.range 6).all fun k:Nat=>hashInt (k:Int) == (k:Int)) = true:=by decide +kernel
 exact eq_of_beq (all_eq_true.mp this k (mem_range.mpr h))
section
variable {prog:Program} {A:Around} {E:Value->Shared->Prop} {s:Shared} {a:Addr}
noncomputable def zfR (k:Nat) (ks:List Nat):List Nat:=if k ∈ ks then ks else ks.take (ks.filter (· < k)).length ++ k :: ks.drop (ks.filter (· < k)).length
theorem zhA {k:Nat} (hk:k < 6) (h:ks ∈ subs 6):zfR k ks ∈ subs 6:=by
 have:((List.range 6).all fun k=>(subs 6).all fun ks=>(subs 6).contains (zfR k ks)) = true:=by decide +kernel
 have:=all_eq_true.mp (all_eq_true.mp this k (mem_range.mpr hk)) ks h
 simpa using this
theorem zeI {k:Nat} (hp:t.place = ks.toArray) (hd:t.dummies = #[]) (hm:k<=t.mask) (hs:k < 2 ^ 64) (hn:k ∉ ks):t.freeSlot (k:Int) = some (k,false):=by
 have hb:SetTable.bits (k:Int) = k:=by
  unfold SetTable.bits
  rw [Int.emod_eq_of_lt (by omega) (by omega)]
  rfl
 have hsl:t.slot k = .empty:=by
  unfold SetTable.slot SetTable.has
  rw [hp,hd]
  dsimp only
  rw [if_neg (by
   intro e
   have e:=eq_of_beq e
   rw [List.getElem?_toArray] at e
   exact hn (Q9 e)),if_neg (by simp)]
 have hj:(t.probeStart (k:Int)).j = k/\(t.probeStart (k:Int)).dummy = none:=by
  unfold SetTable.probeStart
  rw [hb]
  exact ⟨Nat.mod_eq_of_lt (by omega),rfl⟩
 unfold SetTable.freeSlot SetTable.probe
 rw [show 10 * SetTable.turns t.mask = (10 * t.mask + 149) + 1 by unfold SetTable.turns;omega]
 unfold SetTable.probe.go
 rw [hj.1,hsl,hj.2]
 rfl
theorem DTab.ins {k:Nat} {tk:Tok} (d:DTab w es t ks m) (hk:k < 6) (hn:k ∉ ks):DTab w (SetTable.insertAt es (t.put k).2 ((k:Int),.int (k:Int) tk)) (t.put k).1 (zfR k ks) m:=by
 have hp:(t.put k).2 = (ks.filter (· < k)).length:=by
  unfold SetTable.put
  rw [d.place]
  exact zet d.sub (by omega)
 have hi:zfR k ks = ks.take (ks.filter (· < k)).length ++ k :: ks.drop (ks.filter (· < k)).length:=if_neg hn
 refine ⟨?_,?_,d.mask,?_,?_,d.plain,d.led,zhA hk d.sub,d.ms⟩
 ·rw [hp,SetTable.toList_insertAt,hi]
  unfold hsh
  rw [map_append,map_cons,map_append,map_cons,map_take,map_take,List.map_drop,List.map_drop]
  have:=d.keys
  unfold hsh at this
  rw [this]
 ·intro e he
  rw [SetTable.toList_insertAt] at he
  rcases mem_append.mp he with he | he
  ·exact d.vals e (mem_of_mem_take he)
  ·rcases mem_cons.mp he with rfl | he
   ·exact ⟨tk,rfl⟩
   ·exact d.vals e (mem_of_mem_drop he)
 ·show SetTable.insertAt t.place (SetTable.below t.place k) k = _
  rw [d.place,zet d.sub (by omega),hi]
  apply Array.toList_inj.mp
  rw [SetTable.toList_insertAt]
 ·show (if SetTable.has t.dummies k then _ else t.dummies) = #[]
  rw [d.dumm]
  rfl
theorem DTab.lay {k:Nat} {tk:Tok} (d:DTab w es t ks m) (hk:k < 6) (hn:k ∉ ks):layNew t es (k:Int) (.int (k:Int) tk) = (SetTable.insertAt es (t.put k).2 ((k:Int),.int (k:Int) tk),(t.put k).1,false,false):=by
 have hm:=d.ms
 have hf:=(d.ins (tk:=tk) hk hn).fits
 unfold layNew
 rw [zeI d.place d.dumm (by rw [d.mask];simp at hm;omega) (by omega) hn]
 dsimp only
 unfold SetTable.orStandIn
 rw [if_pos hf,hf]
 rfl
theorem DTab.full (d:DTab w es t ks m):∃ t' m',relayAll t es (SetTable.grown es.size) = (es,t',false)/\DTab w es t' ks m':=by
 have h6:=zdL d.sub
 have hw:∀ n,n<=6->SetTable.sizeAbove (SetTable.grown n) - 1 ∈ [7,15,31]:=by decide +kernel
 have hms:=hw _ h6
 have e1:es.map (·.1) = (hsh ks).toArray:=by
  rw [← d.keys]
  apply Array.toList_inj.mp
  rw [Array.toList_map]
 have e3:Array.filterMap (fun x=>es[x]?) (List.range ks.length).toArray = es:=by
  apply Array.toList_inj.mp
  rw [← d.size]
  simpa using filterMap_getElem?_range es
 have hc:∀ n,n<=6->coversAll (List.range n).toArray n = true:=by decide +kernel
 have d':DTab w es { mask:=SetTable.sizeAbove (SetTable.grown es.size) - 1,place:=ks.toArray,dummies:=#[],finger:=t.finger,led:=t.led,moves:=t.movedTo (SetTable.sizeAbove (SetTable.grown es.size) - 1),plain:=t.plain } ks (SetTable.sizeAbove (SetTable.grown es.size) - 1):=⟨d.keys,d.vals,rfl,rfl,rfl,d.plain,d.led,d.sub,by rw [d.size];exact hms⟩
 refine ⟨_,_,?_,d'⟩
 unfold relayAll SetTable.relaid
 rw [e1,ziO d.sub (by rw [d.size];exact hms)]
 dsimp only
 rw [e3,d'.fits,d.size,hc _ h6]
 rfl
end
end L2
namespace L2
open PySem PySem.Spec PyProof.Rows
section
variable {prog:Program} {w:World} {A:Around} {E:Value->Shared->Prop} {s:Shared} {a:Addr} {ks:List Nat} {m:Nat}
structure DictN (prog:Program) (w:World) (h:Heap) (d:Addr) (ns:List Nat) (od:Obj) (es:Array DictEntry) (ep:Nat):Prop where
 at_:h.get? d = some od
 exact_:od.ExactDict
 data:od.data = .dict es ep
 size:es.size = ns.length
 keys:∀ (i:Nat) n,ns[i]? = some n->∃ e tk,es[i]? = some e/\e.key = .int (n:Int) tk/\e.hash = (n:Int)
 small:∀ n ∈ ns,n < 6
end
end L2
namespace FT
open PySem PySem.Spec PyProof.Rows L2
variable {K:Frag} {base:Heap} {N ps:List Str} {P:Program} {st:Stmt} {x:Str} {mg:Str->Option Value} {w:World}
section
theorem Refines.bad (g:List T->Mem->Out T):Refines (fun _ _=>.bad) g:=fun _ _ _ _ _ e=>by cases e
theorem CalT.bad {k:Nat} (D:Df K mg x st ps) (Sc:FnScope N ps (yd st)):CalT P w K mg base (k + 1) x ps (fun _ _=>.bad):=
 CalT.refine (g:=yg ps.length N.length (fun _ _=>.bad)) (zgZ D Sc rfl rfl fun f cdv A outer s H E hr=>fun _ _ _ _ _ _ ⟨_,_,_,_,_,_,_,fin⟩=>fin.elim) (Refines.bad _) (fun _ _ _ _ _ z=>by cases z)
end
noncomputable def zcQ:T->List T->Mem->Out T:=fun x ts M=>match x,ts with
 | .ref a,[.lst ys]=>match M[a]? with
  | some (.lst xs)=>if xs.length + ys.length < 1000000 then .ok .non (M.set a (.lst (xs ++ ys))) else .bad
  | _=>.bad
 | .ref a,[.ref b]=>match M[a]?,M[b]? with
  | some (.lst xs),some (.lst ys)=>if xs.length + ys.length < 1000000 then .ok .non (M.set a (.lst (xs ++ ys))) else .bad
  | _,_=>.bad
 | _,_=>.bad
theorem zgv (l:Addr) (items:Array Value) (n:Nat) (b:Addr) (items2:Array Value) (n2:Nat) (dd:Option Addr) (sl:Array (Option Value)) (hc0:¬(!items.isEmpty && Builtin.List.listTooLong (items.size + items2.size)) = true) (hc1:items.size<=sizeLine) (hs2:items.size + items2.size<=sizeLine + 1) :
  Meets (Builtin.«list.extend» ⟨[.ref l,.ref b],[]⟩) (fun _ R s=>s.heap.get? l = some { cls:=.type "list",dict:=none,data:=.seq items n,slots:=#[] }/\s.heap.get? b = some { cls:=.type "list",dict:=dd,data:=.seq items2 n2,slots:=sl }/\R (.ok (.ret Value.none)) { s with heap:=s.heap.update l (Obj.mapSeq fun x=>x ++ items2),toks:=s.toks }):=
 .of_wp fun prog w A R s h=>by
  obtain ⟨hp,g,d,tk,os⟩:=s;obtain ⟨hl,hb,h⟩:=h;have f1:=AutoSeq1.idx_int;have f2:=AutoSeq1.sub_tuple_tuple;have f3:=AutoSeq1.sub_list_list;have f4:=AutoSeq1.sub_tuple_list;have f5:=AutoSeq1.sub_list_tuple
  have hz':(items ++ items2).size<=sizeLine + 1:=by rw [Array.size_append];exact hs2
  wp_walk using (wpAny_updateSeq hl rfl (hz:=hc1) (_hz':=hz')),AutoSeq1.wpAny_loadPart' hl,AutoSeq1.wpAny_loadPart' hb;exact ⟨_,rfl,h⟩
variable {X:Cx} {XE:XK}
section
noncomputable def zkX (K:Frag):V->List V->Hp->VK->Prop:=fun x vs H Q=>∃ l b xs zs,x = .ref l/\vs = [.ref b]/\H l = some (.lst xs)/\SqL K H b zs/\xs.length + zs.length<=sizeLine/\Q .non (upd H l (.lst (xs ++ zs)))
theorem ze6:MtM X "list.extend" (zkX X.K):=by
 intro pins s σ H x vs v us Q I rx rv h
 obtain ⟨l,b,xs,zs,rfl,rfl,hH,hB,hz,q⟩:=h
 cases rx
 obtain ⟨u,rfl,ru⟩:=rv.one
 cases ru
 obtain ⟨z,its,n,r,hl,e⟩:=I.lstM hH
 obtain ⟨its2,r2,pl2,z2⟩:=I.list hB
 obtain ⟨⟨cls2,dd2,data2,sl2⟩,n2,ho2,hc2,hdi2,hd2⟩:=pl2
 simp only at hc2 hd2
 subst hc2 hd2
 have hl2:=r2.length
 have hsz:its.toArray.size + its2.toArray.size<=sizeLine:=by rw [Qh,Qh];omega
 have hlong:¬ (!its.toArray.isEmpty && Builtin.List.listTooLong (its.toArray.size + its2.toArray.size)) = true:=by
  rw [zhm hsz,Bool.and_false]
  exact Q4
 refine call_meets F.slot_list_extend ⟨_,e,rfl⟩ F.entry_list_extend (F.args_list_extend_2 _ _)
  (zgv l its.toArray n b its2.toArray n2 dd2 sl2 hlong (by rw [Qh];omega) (by omega)) ⟨e,ho2,?_⟩
 refine ⟨.non,_,I.lset (its':=its ++ its2) hH e (by simp) (r.append r2) ?_,rfl,q⟩
 rw [Qm]
 omega
theorem ziF:MtR X "list.extend" (lMt XE X.K zcQ):=by
 intro pins s σ H x xs v us Q I rx rs ⟨S,⟨tx,ts⟩,e,m,⟨r1,r2⟩,fin⟩
 subst e
 replace r1:Rep X.K S tx x:=r1
 replace r2:Reps X.K S ts xs:=r2
 replace fin:Fin XE (Rep X.K) X.K S (zcQ tx ts S.M) Q:=fin
 have hsl:(1000000:Nat)<=sizeLine:=by rw [sizeLine_eq];exact Nat.le_of_ble_eq_true rfl
 unfold zcQ at fin
 split at fin
 ·rename_i a ys
  split at fin
  ·rename_i xs0 q
   split at fin
   ·rename_i hlt
    cases r1 with
    | ref ha=>
    obtain ⟨w1,ws,rfl,h1,h2⟩:=r2.consT
    cases h2.nilT
    obtain ⟨us4,h4,rr⟩:=m.cell _ _ q
    cases h1 with
    | @lst _ p vs h l r=>
    have rr2:Reps X.K S ys vs:=⟨l,r⟩
    have st:=zbw m q (rr.app rr2)
    refine ze6 pins s σ S.H (.ref (S.α a)) [.ref p] v us Q I rx rs ⟨S.α a,p,us4,vs,rfl,rfl,h4,zbd h,by rw [← rr.1,← l];omega,?_⟩
    exact fin (S.put a (.lst (us4 ++ vs)) (.lst (xs0 ++ ys))) .non rfl st .non
   ·exact fin.elim
  ·exact fin.elim
 ·rename_i a b
  split at fin
  ·rename_i xs0 ys q qb
   split at fin
   ·rename_i hlt
    cases r1 with
    | ref ha=>
    obtain ⟨w1,ws,rfl,h1,h2⟩:=r2.consT
    cases h2.nilT
    obtain ⟨us4,h4,rr⟩:=m.cell _ _ q
    obtain ⟨us5,h5,rr5⟩:=m.cell _ _ qb
    cases h1 with
    | ref hb=>
    have st:=zbw m q (rr.app rr5)
    refine ze6 pins s σ S.H (.ref (S.α a)) [.ref (S.α b)] v us Q I rx rs ⟨S.α a,S.α b,us4,us5,rfl,rfl,h4,.inl (.inl h5),by rw [← rr.1,← rr5.1];omega,?_⟩
    exact fin (S.put a (.lst (us4 ++ us5)) (.lst (xs0 ++ ys))) .non rfl st .non
   ·exact fin.elim
  ·exact fin.elim
 ·exact fin.elim
end
structure WE (X:Cx) (XE:XK) (e:Expr) (f:Ev->Mem->Out T):Prop where
 pe:GE X XE e f
structure WT (X:Cx) (XE:XK) (e:Expr) (f:Ev->Mem->Out Bool):Prop where
 pe:GT X XE e f
structure WW (X:Cx) (XE:XK) (e:Expr) (f:Ev->Mem->Out Bool):Prop where
 pe:GW X XE e f
structure WA (X:Cx) (XE:XK) (e:List Expr) (f:Ev->Mem->Out (List T)):Prop where
 pe:GA X XE e f
structure WSs (X:Cx) (XE:XK) (e:List Stmt) (f:Ev->Mem->Out Fl):Prop where
 pe:GSs X XE e f
structure WS (X:Cx) (XE:XK) (e:Stmt) (f:Ev->Mem->Out Fl):Prop where
 pe:GS X XE e f
structure WL (X:Cx) (XE:XK) (e:Expr) (f:Ev->Mem->Out (List T)):Prop where
 pe:GL X XE e f
structure WGs (X:Cx) (XE:XK) (e:List Expr) (f:List T->Ev->Mem->Out Ev):Prop where
 pe:GGs X XE e f
structure WG (X:Cx) (XE:XK) (e:Expr) (f:T->Ev->Mem->Out Ev):Prop where
 pe:GG X XE e f
structure WO (X:Cx) (XE:XK) (e:Option Expr) (f:Ev->Mem->Out (Option Int)):Prop where
 pe:GO X XE e f
structure WI (X:Cx) (XE:XK) (tg iter:Expr) (f:Ev->Mem->Out (List T)):Prop where
 pe:GI X XE tg iter f
structure WX (X:Cx) (e:List Stmt) (f:Ev->Mem->Out Fl):Prop where
 pe:GX X e f
structure WIG (X:Cx) (XE:XK) (tg iter:Expr) (f:Ev->Mem->Out (List T × Gd)):Prop where
 pe:GIG X XE tg iter f
variable {op:CmpOp} {ga:Ev->Mem->Out (List T)} {tf:Ev->Mem->Out Bool} {f g h:Ev->Mem->Out T} {c e:Expr} {es:List Expr} {i:Nat} {pos:Pos} {o:T->T->Mem->Out T}
section
variable {a b:Expr}
theorem ya (h:PE X e (zfu i)):WE X XE e (zb i):=⟨PE.imp h fun σ H Q h9=>by
 obtain ⟨S,στ,_,e,m,ev,_,fin⟩:=h9
 replace fin:Fin XE (Rep X.K) X.K S (zb i στ S.M) Q:=fin
 unfold zb at fin
 cases q:στ[i]? with
 | none=>rw [q] at fin;exact fin.elim
 | some o=>
  cases o with
  | none=>rw [q] at fin;exact fin.elim
  | some t=>
   rw [q] at fin
   obtain ⟨v,e2,r⟩:=ev.2 i t q
   exact ⟨v,e2,by rw [← e];exact fin S v rfl (.refl m) r⟩⟩
theorem yb {i j}:WE X XE (.Constant (.int i) j pos) (eC (.int i)):=⟨zb9 zjL fun _=>.int _⟩
theorem zcf {i j}:WE X XE (.Constant (.bool i) j pos) (eC (.bl i)):=⟨zb9 zk5 fun _=>.bl _⟩
theorem zbP {n:String} (hg:Gl X x) (hm:X.mg x = none) (hv:bootBuiltins x = some (.type n)) (hn:x ≠ "__name__":=by decide) (hd:(x == ("__debug__":Str)) = false:=by decide):WE X XE (.Name x pos) (eC (.ty n)):=⟨zb9 (ziw (v:=.ty n) hg hm hv rfl hn hd) fun _=>.ty _⟩
theorem qc {op:Operator} (ho:OpR X (binaryOp op) (lR2 XE X.K o)) (ha:WE X XE a f) (hb:WE X XE b g):WE X XE (.BinOp a op b pos) (eOp o f g):=by
 have ha:=ha.pe
 have hb:=hb.pe
 exact ⟨PE.imp (zk3 ho ha hb) fun _ _ _ h=>zdC h⟩
theorem zh3 (ho:OpR X (compareOp op) (lR2 XE X.K o)) (ha:WE X XE a f) (hb:WE X XE b g) (hm:behindInMarks op b = false):WE X XE (.Compare a [op] [b] pos) (eOp o f g):=by
 have ha:=ha.pe
 have hb:=hb.pe
 exact ⟨PE.imp (ziu ho ha hb hm) fun _ _ _ h=>zdC h⟩
theorem qh (ho:IxR X (lR2 XE X.K o)) (ha:WE X XE a f) (hb:WE X XE b g) (hs:zcY b):WE X XE (.Subscript a b pos) (eOp o f g):=by
 have ha:=ha.pe
 have hb:=hb.pe
 exact ⟨PE.imp (zk4 ho ha hb hs) fun _ _ _ h=>zdC h⟩
theorem zeN (ha:WE X XE e f) (he:∀ whole,isTrue e X.env whole = (do let v ← whole;standAt e.pos;holding [v] (truthy v)):=by intro _;rfl):WT X XE e (zD f):=by
 have ha:=ha.pe
 exact ⟨PT.imp (zjy ha he) fun σ H Q h=>
  LN.mono (LN.bind (f:=fun _ σ M=>f σ M) (k:=fun _ x σ M1=>blT x M1 fun b M2=>.ok b M2) (RB:=Rep X.K) h) fun v H1 h2=>by
   obtain ⟨S,στ,a,e,m,ev,ra,fin⟩:=h2
   obtain ⟨b,e1,_,fin⟩:=zcA ra.2 fin
   exact ⟨b,e1,by rw [← e];exact fin S b rfl (.refl m) rfl⟩⟩
theorem qE (ho:OpR X (compareOp op) (lR2 XE X.K o)) (ha:WE X XE a f) (hb:WE X XE b g) (hm:behindInMarks op b = false):WT X XE (.Compare a [op] [b] pos) (zD (eOp o f g)):=by
 have ha:=ha.pe
 have hb:=hb.pe
 exact ⟨PT.imp (zik ho ha hb hm) fun σ H Q h=>by
  have h1:=LN.bind (f:=fun _ σ M=>eOp o f g σ M) (k:=fun _ x σ M1=>blT x M1 fun b M2=>.ok b M2) (RB:=Rep X.K) h
  refine zdC (LN.mono h1 fun v H1 h2=>?_)
  obtain ⟨S,στ,a,e,m,ev,ra,fin⟩:=h2
  obtain ⟨b,e1,_,fin⟩:=zcA ra.2 fin
  exact ⟨b,e1,by rw [← e];exact fin S b rfl (.refl m) rfl⟩⟩
variable {tg:Ev->Mem->Out Bool} {rest:List Expr}
theorem zg1 (ha:WT X XE a tf):WW X XE (.BoolOp .And [a] pos) tf:=by
 have ha:=ha.pe
 exact ⟨zih ha⟩
theorem zcC (ha:WT X XE a tf):WW X XE (.BoolOp .Or [a] pos) tf:=by
 have ha:=ha.pe
 exact ⟨zjw ha⟩
theorem zhZ (ha:WT X XE a tf) (hb:WW X XE (.BoolOp .And (b :: rest) pos) tg):WW X XE (.BoolOp .And (a :: b :: rest) pos) (zfw tf tg):=by
 have ha:=ha.pe
 have hb:=hb.pe
 exact ⟨PW.imp (zjx ha hb) fun σ H Q h=>
  LN.mono (tif (tf:=tf) (tg:=tg) (p:=fun c σ M1=>if c = true then tg σ M1 else .ok false M1) h) fun c H1 h1=>by
   cases c with
   | true=>exact (if_pos rfl).mpr h1
   | false=>exact (if_neg Q4).mpr (zdw h1)⟩
theorem zdD (ha:WT X XE a tf) (hb:WW X XE (.BoolOp .Or (b :: rest) pos) tg):WW X XE (.BoolOp .Or (a :: b :: rest) pos) (zdJ tf tg):=by
 have ha:=ha.pe
 have hb:=hb.pe
 exact ⟨PW.imp (zk1 ha hb) fun σ H Q h=>
  LN.mono (tif (tf:=tf) (tg:=tg) (p:=fun c σ M1=>if c = true then .ok true M1 else tg σ M1) h) fun c H1 h1=>by
   cases c with
   | true=>exact (if_pos rfl).mpr (zdw h1)
   | false=>exact (if_neg Q4).mpr h1⟩
theorem WW.gt (h:WW X XE e tf):WT X XE e tf:=⟨GW.gt h.pe⟩
theorem zcD (ha:WT X XE a tf):WT X XE (.UnaryOp .Not a pos) (zcg tf):=by
 have ha:=ha.pe
 exact ⟨PT.imp (zjz ha) fun σ H Q h=>
  LN.mono (tif (tf:=tf) (tg:=tf) (p:=fun c σ M1=>.ok (!c) M1) h) fun c H1 h1=>zdw h1⟩
theorem zeO {op} (h:WE X XE a f):WE X XE (.BoolOp op [a] pos) f:=by
 have h:=h.pe
 exact ⟨zjI h⟩
theorem zcH (ha:WE X XE a f) (hb:WE X XE (.BoolOp .And (b :: rest) pos) g):WE X XE (.BoolOp .And (a :: b :: rest) pos) (zek f g):=by
 have ha:=ha.pe
 have hb:=hb.pe
 exact ⟨PE.imp (zjN ha hb) fun σ H Q h=>
  LN.mono (eif (f:=f) (p:=fun b σ M2=>if b = true then g σ M2 else .ok (.bl false) M2) h) fun x H1 ⟨c,e,h1⟩=>⟨c,e,by
   cases c with
   | true=>exact (if_pos rfl).mpr h1
   | false=>exact (if_neg Q4).mpr (zhS h1 fun _=>.bl _)⟩⟩
theorem zh1 (ha:WE X XE a f):WE X XE (.UnaryOp .Not a pos) (zhK f):=by
 have ha:=ha.pe
 exact ⟨PE.imp (zjJ ha) fun σ H Q h=>
  LN.mono (eif (f:=f) (p:=fun b σ M2=>.ok (.bl (!b)) M2) h) fun x H1 ⟨c,e,h1⟩=>⟨c,e,zhS h1 fun _=>.bl _⟩⟩
theorem zc :WA X XE [] zd:=⟨PA.imp zjO fun σ H Q h9=>by
 obtain ⟨S,στ,_,e,m,ev,_,fin⟩:=h9
 show Q [] H
 rw [← e];exact fin S [] rfl (.refl m) .nil⟩
theorem za (ha:WE X XE e f) (hr:WA X XE es ga) (hs:noStar e = true:=by rfl):WA X XE (e :: es) (qa f ga):=by
 have ha:=ha.pe
 have hr:=hr.pe
 exact ⟨PA.imp (zix ha hr (zG hs)) fun σ H Q h=>
  LN.mono (LN.bind (f:=fun _ σ M=>f σ M) (k:=fun _ x σ M1=>(ga σ M1).bind fun xs M2=>.ok (x :: xs) M2) (RB:=Rep X.K) h) fun v H1 h1=>
   LN.mono (LN.env (f:=ga) (LN.bind (f:=fun _ σ M=>ga σ M) (k:=fun (ax:Unit × T) ys σ M2=>.ok (ax.2 :: ys) M2) (RB:=Reps X.K) h1)) fun w H2 h2=>by
    obtain ⟨S,στ,a,e,m,ev,ra,fin⟩:=h2
    show Q (v :: w) H2
    rw [← e]
    exact fin S _ rfl (.refl m) (Reps.cons ra.1.2 ra.2)⟩
theorem zat {x1} (h:WA X XE es ga):WE X XE (.Tuple es x1 pos) (zca ga):=by
 have h:=h.pe
 exact ⟨PE.imp (zjH h) fun σ H Q h=>
  LN.mono (LN.bind (f:=fun _ σ M=>ga σ M) (k:=fun _ xs σ M1=>if xs.length<=sizeLine then .ok (T.tup xs) M1 else .bad) (RB:=Reps X.K) h) fun v H1 h2=>by
   obtain ⟨S,στ,a,e,m,ev,ra,fin⟩:=h2
   by_cases hl:a.2.length<=sizeLine
   ·replace fin:Fin XE (Rep X.K) X.K S (if a.2.length<=sizeLine then .ok (.tup a.2) S.M else .bad) Q:=fin
    rw [if_pos hl] at fin
    refine ⟨by rw [← ra.2.1];exact hl,fun p hp=>?_⟩
    subst e
    have s:=Stp.new m hp (.tup v)
    exact fin ⟨S.α,S.M,upd S.H p (.tup v),S.hid⟩ (.ref p) rfl s (.tup (.inl (.inl zn)) ra.2.1 (ra.2.grow m s.toGrow).2)
   ·replace fin:Fin XE (Rep X.K) X.K S (if a.2.length<=sizeLine then .ok (.tup a.2) S.M else .bad) Q:=fin
    rw [if_neg hl] at fin
    exact fin.elim⟩
theorem qt (h:WA X XE es ga):WL X XE (.List es pos) (qF ga):=by
 have h:=h.pe
 exact ⟨PE.imp (zjK h) fun σ H Q h9=>by
  obtain ⟨S,στ,e,m,ev,fin⟩:=h9
  replace fin:FinL XE X.K S ((ga στ S.M).bind fun xs M1=>if xs.length<=sizeLine then .ok xs M1 else .bad) Q:=fin
  refine ⟨S,στ,(),e,m,ev,trivial,?_⟩
  show Fin XE (Reps X.K) X.K S (ga στ S.M) _
  cases q:ga στ S.M with
  | bad=>rw [q] at fin;exact fin
  | exn C fs M'=>rw [q] at fin;exact fin
  | ok xs M1=>
   rw [q] at fin
   intro S1 vs e1 s1 r1
   by_cases hl:xs.length<=sizeLine
   ·replace fin:FinL XE X.K S (if xs.length<=sizeLine then .ok xs M1 else .bad) Q:=fin
    rw [if_pos hl] at fin
    refine ⟨by rw [← r1.1];exact hl,fun p hp=>?_⟩
    have s2:=Stp.hide s1.mok hp vs
    exact (fin.later s1) (S1.hide p vs) p vs e1 s2 hp (.head _) zn (r1.grow s1.mok s2.toGrow)
   ·replace fin:FinL XE X.K S (if xs.length<=sizeLine then .ok xs M1 else .bad) Q:=fin
    rw [if_neg hl] at fin
    exact fin.elim⟩
theorem qu (h:WL X XE e ga):WE X XE e (eFz ga):=by
 have h:=h.pe
 exact ⟨PE.imp h fun σ H Q ⟨S,στ,_,e,m,ev,_,fin⟩=>⟨S,στ,e,m,ev,by
  show FinL XE X.K S (ga στ S.M) Q
  replace fin:Fin XE (Rep X.K) X.K S ((ga στ S.M).bind fun xs M1=>.ok (.lst xs) M1) Q:=fin
  cases q:ga στ S.M with
  | bad=>rw [q] at fin;exact fin
  | exn C fs M'=>rw [q] at fin;exact fin
  | ok xs M1=>
   rw [q] at fin
   intro S1 p vs e1 s1 hn hp hv r
   exact fin (S1.show S.hid) (.ref p) e1 s1.show (zfg s1 hn m hp hv r)⟩⟩
theorem zce (h:WL X XE e ga):WE X XE e (eTk ga):=by
 have h:=h.pe
 exact ⟨PE.imp h fun σ H Q ⟨S,στ,_,e,m,ev,_,fin⟩=>⟨S,στ,e,m,ev,by
  show FinL XE X.K S (ga στ S.M) Q
  replace fin:Fin XE (Rep X.K) X.K S ((ga στ S.M).bind fun xs M1=>.ok (.ref M1.length) (M1 ++ [.lst xs])) Q:=fin
  cases q:ga στ S.M with
  | bad=>rw [q] at fin;exact fin
  | exn C fs M'=>rw [q] at fin;exact fin
  | ok xs M1=>
   rw [q] at fin
   intro S1 p vs e1 s1 hn hp hv r
   refine fin (S1.track p xs S.hid) (.ref p) (by show S1.M ++ _ = _;rw [e1]) (s1.track m hn hp hv r) ?_
   have this:(S1.track p xs S.hid).α S1.M.length = p:=if_pos rfl
   rw [← e1]
   have hl:S1.M.length < (S1.track p xs S.hid).M.length:=by show _ < (S1.M ++ [Cell.lst xs]).length;simp
   have r2:Rep X.K (S1.track p xs S.hid) (.ref S1.M.length) (.ref ((S1.track p xs S.hid).α S1.M.length)):=.ref hl
   rw [this] at r2
   exact r2⟩⟩
theorem zf6 {op':CmpOp} {o':T->T->Mem->Out T} (ho:OpR X (compareOp op) (lR2 XE X.K o)) (ho':OpR X (compareOp op') (lR2 XE X.K o')) (ha:WE X XE a f) (hb:WE X XE b g) (hc:WE X XE c h) (hm:lastMarks [op,op'] [b,c] = false:=by with_unfolding_all rfl):WT X XE (.Compare a [op,op'] [b,c] pos) (zD (zbk o o' f g h)):=by
 have ha:=ha.pe
 have hb:=hb.pe
 have hc:=hc.pe
 exact ⟨PT.imp (zhf ho ho' ha hb hc hm) fun σ H Q hh=>by
  have h1:=LN.bind (f:=fun _ σ M=>zbk o o' f g h σ M) (k:=fun _ x σ M1=>blT x M1 fun b M2=>.ok b M2) (RB:=Rep X.K) hh
  refine chain (LN.mono h1 fun v H1 h2=>?_)
  obtain ⟨S,στ,a,e,m,ev,ra,fin⟩:=h2
  obtain ⟨b,e1,_,fin⟩:=zcA ra.2 fin
  exact ⟨b,e1,by rw [← e];exact fin S b rfl (.refl m) rfl⟩⟩
end
variable {iter tg:Expr} {sts:List Stmt} {n:Nat} {pos':Pos} {bd:T->Ev->Mem->Out Ev}
section
variable {a b:Expr} {rest:List Stmt} {p q r:Ev->Mem->Out Fl}
theorem yC :WSs X XE [] z4:=⟨PSs.imp zim fun D σ H h9=>by
 obtain ⟨S,στ,_,e,m,ev,_,fin⟩:=h9
 show D.nx σ H
 rw [← e];exact fin S (.nx σ) rfl (.refl m) (.nx ev)⟩
theorem yc (h1:WS X XE st p) (h2:WSs X XE rest q):WSs X XE (st :: rest) (qf p q):=by
 have h1:=h1.pe
 have h2:=h2.pe
 exact ⟨PSs.imp (zhg h1 h2) fun _ _ _ hh=>zj2 hh⟩
theorem ye (h1:WS X XE st p):WSs X XE [st] p:=by
 have h1:=h1.pe
 exact ⟨zil h1⟩
theorem qg (he:WE X XE e f):WS X XE (.Return (some e) pos) (yq f):=by
 have he:=he.pe
 exact ⟨PS.imp (zjB he) fun D σ H hh=>
  LN.mono (LN.bind (f:=fun _ σ M=>f σ M) (k:=fun _ t σ M1=>.ok (Fl.rt t) M1) (RB:=Rep X.K) hh) fun v H1 h9=>by
   obtain ⟨S,στ,a,e,m,ev,ra,fin⟩:=h9
   rw [← e];exact fin S (.rt v) rfl (.refl m) (.rt ra.2)⟩
theorem zcE (he:WE X XE e f) (hs:swapsWith e none pos.line X.env = pure false:=by rfl):WS X XE (.Expr e pos) (zdW f):=by
 have he:=he.pe
 exact ⟨PS.imp (zin he hs) fun D σ H hh=>
  LN.mono (LN.bind (f:=fun _ σ M=>f σ M) (k:=fun _ t σ M1=>.ok (Fl.nx σ) M1) (RB:=Rep X.K) hh) fun v H1 h9=>by
   obtain ⟨S,στ,a,e,m,ev,ra,fin⟩:=h9
   show D.nx σ H1
   rw [← e];exact fin S (.nx σ) rfl (.refl m) (.nx ev)⟩
theorem qN (hc:WT X XE c tf) (ha:WSs X XE sts p) (hb:WSs X XE rest q):WS X XE (.If c sts rest pos) (sIf tf p q):=by
 have hc:=hc.pe
 have ha:=ha.pe
 have hb:=hb.pe
 exact ⟨PS.imp (zk2 hc ha hb) fun D σ H hh=>
  LN.mono (LN.bind (f:=fun _ σ M=>tf σ M) (k:=fun _ c σ M1=>if c = true then p σ M1 else q σ M1) (RB:=EqR) hh) fun c H1 h2=>by
   obtain ⟨S,στ,a,e,m,ev,ra,fin⟩:=h2
   have:a.2 = c:=ra.2
   subst this
   replace fin:Fin XE (FlR X.K) X.K S (if a.2 = true then p στ S.M else q στ S.M) (yy D):=fin
   cases q:a.2 with
   | true=>exact (if_pos rfl).mpr ⟨S,στ,(),e,m,ev,trivial,by rw [q] at fin;exact fin⟩
   | false=>exact (if_neg Q4).mpr ⟨S,στ,(),e,m,ev,trivial,by rw [q] at fin;exact fin⟩⟩
theorem yf (hN:X.N.Nodup) (hi:X.N[i]? = some x) (hx:Loc X.env.scope x) (he:WE X XE e f) (hs:swapsWith e (some (.Name x pos')) pos.line X.env = pure false:=by rfl) (hf:X.fn x = true\/X.env.scope.names.lookup x = some .local:=by first | exact .inl rfl | exact .inr rfl | assumption):WS X XE (.Assign [.Name x pos'] e pos) (zk i f):=by
 have he:=he.pe
 exact ⟨PS.imp (zjA hN hi hx he hs hf) fun D σ H hh=>
  LN.mono (LN.bind (f:=fun _ σ M=>f σ M) (k:=fun _ t σ M1=>.ok (Fl.nx (σ.set i (some t))) M1) (RB:=Rep X.K) hh) fun v H1 h9=>by
   obtain ⟨S,στ,a,e,m,ev,ra,fin⟩:=h9
   show D.nx (σ.set i (some v)) H1
   rw [← e];exact fin S (.nx _) rfl (.refl m) (.nx (ev.set ra.2 i))⟩
theorem yi (h:PG X tg (zdx i)):WG X XE tg (zg i):=⟨PG.imp h fun v σ H Q h9=>by
 obtain ⟨S,στ,t,e,m,ev,ra,fin⟩:=h9
 show Q (σ.set i (some v)) H
 rw [← e];exact fin S _ rfl (.refl m) (ev.set ra i)⟩
theorem zaG :WGs X XE [] qU:=⟨PGs.imp zir fun v σ H Q h9=>by
 obtain ⟨S,στ,t,e,m,ev,ra,fin⟩:=h9
 cases t with
 | nil=>exact ⟨ra.nilT,by rw [← e];exact fin S _ rfl (.refl m) ev⟩
 | cons t r=>exact fin.elim⟩
theorem qB {bs:List T->Ev->Mem->Out Ev} (h:PGs X (e :: es) (zfV (lG XE X.K bd) (lGs XE X.K bs))):WGs X XE (e :: es) (zq bd bs):=⟨PGs.imp h fun v σ H Q h9=>by
 obtain ⟨S,στ,t,e,m,ev,ra,fin⟩:=h9
 cases t with
 | nil=>exact fin.elim
 | cons t r=>
  obtain ⟨v1,vs,rfl,r1,r2⟩:=ra.consT
  refine ⟨v1,vs,rfl,?_⟩
  replace fin:Fin XE (EvR X.K) X.K S ((bd t στ S.M).bind fun σ1 M1=>bs r σ1 M1) Q:=fin
  refine ⟨S,στ,t,e,m,ev,r1,?_⟩
  show Fin XE (EvR X.K) X.K S (bd t στ S.M) _
  cases o:bd t στ S.M with
  | bad=>rw [o] at fin;exact fin
  | exn C fs M'=>rw [o] at fin;exact fin
  | ok σ1 M1=>
   rw [o] at fin
   intro S1 cc e1 s1 ev1
   exact ⟨S1,σ1,r,rfl,s1.mok,ev1,r2.grow m s1.toGrow,by rw [e1];exact Fin.later s1 fin⟩⟩
theorem zbq {bs:List T->Ev->Mem->Out Ev} (h:PG X tg (zhH X.K n (lGs XE X.K bs))):WG X XE tg (yU n bs):=⟨PG.imp h fun v σ H Q h9=>by
 obtain ⟨S,στ,t,e,m,ev,ra,fin⟩:=h9
 cases ra with
 | @tup ts p vs h l r=>
  replace fin:Fin XE (EvR X.K) X.K S (if ts.length = n then bs ts στ S.M else .bad) Q:=fin
  by_cases hn:ts.length = n
  ·rw [if_pos hn] at fin
   exact ⟨p,vs,rfl,by rw [← e];exact h,by rw [← l];exact hn,S,στ,ts,e,m,ev,⟨l,r⟩,fin⟩
  ·rw [if_neg hn] at fin;exact fin.elim
 | _=>exact fin.elim⟩
theorem zcF (he:WE X XE e f) (hg:WG X XE tg bd) (hs:swapsWithSole [tg] e pos.line X.env = pure false:=by rfl) (hw:swappedStores [tg] e X.env = pure none:=by rfl) (h1:(assignEach [tg] X.env).map (·.2) = [assign tg X.env]:=by rfl):WS X XE (.Assign [tg] e pos) (zdX f bd):=by
 have he:=he.pe
 have hg:=hg.pe
 exact ⟨PS.imp (zjD he hg hs hw h1) fun D σ H hh=>
  LN.mono (LN.bind (f:=fun _ σ M=>f σ M) (k:=fun _ t σ M1=>(bd t σ M1).bind fun σ1 M2=>.ok (Fl.nx σ1) M2) (RB:=Rep X.K) hh) fun v H1 ⟨S,στ,a,e,m,ev,ra,fin⟩=>
   zla ⟨S,στ,a.2,e,m,ev,ra.2,fin⟩⟩
theorem zF (hp:PassesOwn (model X.prog X.w) X.A X.env X.xe) (hc:X.calm = true) (hi:WI X XE tg iter ga) (hg:WG X XE tg bd) (hb:WSs X XE sts p) (hs:∀ x,foldedSetIterable iter X.env x = pure x:=by intro _;rfl):WS X XE (.For tg iter sts [] pos) (qT ga bd p):=by
 have hi:=hi.pe
 have hg:=hg.pe
 have hb:=hb.pe
 exact ⟨PS.imp (zgl hp hc hi hg hb hs) fun D σ H hh=>by
  refine LN.mono (LN.bind (f:=fun _ σ M=>ga σ M) (k:=fun _ xs σ M1=>forL bd p xs σ M1) (RB:=zas X.K) hh) fun J H1 h1=>?_
  obtain ⟨S,στ,a,e,m,ev,ra,fin⟩:=h1
  refine ⟨fun i n σ H=>∃ S στ,S.H = H/\MemOk X.K S/\EvR X.K S στ σ/\zas X.K S a.2 J/\n = a.2.length - i/\i<=a.2.length/\Fin XE (FlR X.K) X.K S (forL bd p (a.2.drop i) στ S.M) (yy D),⟨_,S,στ,e,m,ev,ra.2,rfl,Nat.zero_le _,fin⟩,?_⟩
  rintro i n σ1 H2 ⟨S1,στ1,e1,m1,ev1,it1,en,hi1,fin1⟩
  subst e1
  obtain ⟨it2,it3⟩:=it1 S1 (.refl m1)
  by_cases hl:i < a.2.length
  ·have eq:a.2.drop i = a.2[i] :: a.2.drop (i + 1):=drop_eq_getElem_cons hl
   rw [eq] at fin1
   obtain ⟨go,yl⟩:=it2 i a.2[i] (by simp [hl])
   refine .inr ⟨go,fun σ' H'=>∃ S στ,S.H = H'/\MemOk X.K S/\EvR X.K S στ σ'/\zas X.K S a.2 J/\Fin XE (FlR X.K) X.K S (forL bd p (a.2.drop (i + 1)) στ S.M) (yy D),?_,fun x H' hy=>?_⟩
   ·rintro σ' H' ⟨S2,στ2,e2,m2,ev2,it4,fin2⟩
    exact ⟨a.2.length - (i + 1),by omega,S2,στ2,e2,m2,ev2,it4,rfl,hl,fin2⟩
   ·obtain ⟨S2,e2,eM,s2,r2⟩:=yl x H' hy
    replace fin1:Fin XE (FlR X.K) X.K S1 ((bd a.2[i] στ1 S1.M).bind fun σ1 M1=>(p σ1 M1).bind (zw (forL bd p (a.2.drop (i + 1))))) (yy D):=fin1
    refine ⟨S2,στ1,a.2[i],e2,s2.mok,Mo.mo m1 s2 ev1,r2,?_⟩
    rw [eM]
    cases o:bd a.2[i] στ1 S1.M with
    | bad=>rw [o] at fin1;exact fin1
    | exn C fs M'=>rw [o] at fin1;exact Fin.later s2 fin1
    | ok σ3 M3=>
     rw [o] at fin1
     intro S3 σ3v e3 s3 ev3
     have s13:=s2.trans s3
     refine ⟨S3,σ3,(),rfl,s3.mok,ev3,trivial,?_⟩
     show Fin XE (FlR X.K) X.K S3 (p σ3 S3.M) _
     rw [e3]
     replace fin1:Fin XE (FlR X.K) X.K S1 ((p σ3 M3).bind (zw (forL bd p (a.2.drop (i + 1))))) (yy D):=fin1
     cases o2:p σ3 M3 with
     | bad=>rw [o2] at fin1;exact fin1
     | exn C fs M'=>rw [o2] at fin1;exact Fin.later s13 fin1
     | ok fl M4=>
      rw [o2] at fin1
      intro S4 fv e4 s4 r4
      have s14:=s13.trans s4
      cases r4 with
      | nx r4=>exact ⟨S4,_,rfl,s4.mok,r4,Mo.mo m1 s14 it1,by rw [e4];exact Fin.later s14 fin1⟩
      | ct r4=>exact ⟨S4,_,rfl,s4.mok,r4,Mo.mo m1 s14 it1,by rw [e4];exact Fin.later s14 fin1⟩
      | bk r4=>exact fin1 S4 (.nx _) e4 s14 (.nx r4)
      | rt r4=>exact fin1 S4 (.rt _) e4 s14 (.rt r4)
  ·rw [drop_eq_nil_of_le (by omega)] at fin1
   refine .inl ⟨it3 i (by omega),?_⟩
   exact fin1 S1 (.nx σ1) rfl (.refl m1) (.nx ev1)⟩
end
variable {p:Pos}
section
variable {k:Nat} {F:List T->Mem->Out T}
theorem zf (C:CalT X.prog X.w X.K X.mg X.base k x ps F) (hr:Room k X.A) (hg:Gl X x) (ha:WA X XE (e :: es) ga) (hdb:(x == ("__debug__":Str)) = false:=by decide) (he:noStar e = true:=by rfl) (hpl:es.all noStar = true:=by rfl):WE X XE (.Call (.Name x p) (e :: es) [] pos) (ze F ga):=by
 have ha:=ha.pe
 exact ⟨PE.imp (zjM C.cal hr hg ha hdb (zG he) (zZ hpl)) fun σ H Q hh=>
  LN.mono (LN.bind (f:=fun _ σ M=>ga σ M) (k:=fun _ ts σ M1=>F ts M1) (RB:=Reps X.K) hh) fun vs H1 h9=>by
   obtain ⟨S,στ,a,e,m,ev,ra,fin⟩:=h9
   rw [append_nil]
   refine ⟨S,a.2,e,m,ra.2,?_⟩
   show Fin E0 (Rep X.K) X.K S (F a.2 S.M) Q
   replace fin:Fin XE (Rep X.K) X.K S (F a.2 S.M) Q:=fin
   cases o:F a.2 S.M with
   | bad=>rw [o] at fin;exact fin
   | exn C' fs M'=>exact absurd o (C.nox _ _ _ _ _)
   | ok t M1=>rw [o] at fin;exact fin⟩
theorem zj {id:String} (hc:CallR X (.builtin id) (lRN XE X.K F)) (hg:Gl X x) (hm:X.mg x = none) (hv:bootBuiltins x = some (.builtin id)) (ha:WA X XE (e :: es) ga) (hn:x ≠ "__name__":=by decide) (hdb:(x == ("__debug__":Str)) = false:=by decide) (he:noStar e = true:=by rfl) (hpl:es.all noStar = true:=by rfl):WE X XE (.Call (.Name x p) (e :: es) [] pos) (ze F ga):=by
 have ha:=ha.pe
 exact ⟨PE.imp (zd3 hc hg hm hv ha hn hdb (zG he) (zZ hpl)) fun σ H Q hh=>
  LN.mono (LN.bind (f:=fun _ σ M=>ga σ M) (k:=fun _ ts σ M1=>F ts M1) (RB:=Reps X.K) hh) fun vs H1 ⟨S,στ,a,e,m,ev,ra,fin⟩=>⟨S,a.2,e,m,ra.2,fin⟩⟩
theorem zfn {id:String} (hc:CallR X (.type id) (lRN XE X.K F)) (hg:Gl X x) (hm:X.mg x = none) (hv:bootBuiltins x = some (.type id)) (ha:WA X XE (e :: es) ga) (hn:x ≠ "__name__":=by decide) (hdb:(x == ("__debug__":Str)) = false:=by decide) (he:noStar e = true:=by rfl) (hpl:es.all noStar = true:=by rfl):WE X XE (.Call (.Name x p) (e :: es) [] pos) (ze F ga):=by
 have ha:=ha.pe
 exact ⟨PE.imp (zc5 hc hg hm hv ha hn hdb (zG he) (zZ hpl)) fun σ H Q hh=>
  LN.mono (LN.bind (f:=fun _ σ M=>ga σ M) (k:=fun _ ts σ M1=>F ts M1) (RB:=Reps X.K) hh) fun vs H1 ⟨S,στ,a,e,m,ev,ra,fin⟩=>⟨S,a.2,e,m,ra.2,fin⟩⟩
end
section
variable {a b:Expr}
theorem qL (he:WE X XE e f):WI X XE tg e (zU f):=⟨zkq he.pe⟩
theorem yV (hg:Gl X "range") (hm:X.mg "range" = none) (ha:WA X XE [a] ga) (hs:starEach [a] X.env = [(false,eval a X.env)]:=by rfl):WI X XE tg (.Call (.Name "range" p) [a] [] pos) (yX ga):=by
 have ha:=ha.pe
 exact ⟨PI.imp (zgo hg hm ha hs) fun σ H R hh=>
  LN.mono (LN.bind (f:=fun _ σ M=>ga σ M) (k:=fun _ ts σ M1=>zcK ts M1) (RB:=Reps X.K) hh) fun vs H1 h9=>by
   obtain ⟨S,στ,a,e,m,ev,ra,fin⟩:=h9
   obtain ⟨u,ts⟩:=a
   have rr:Reps X.K S ts vs:=ra.2
   replace fin:Fin XE (zas X.K) X.K S (zcK ts S.M) R:=fin
   unfold zcK at fin
   split at fin
   ·rename_i j
    obtain ⟨v,vs',rfl,r1,r2⟩:=rr.consT
    cases r1
    rw [r2.nilT]
    split at fin
    ·rename_i hj
     exact ⟨j,rfl,hj.1,hj.2,by rw [← e];exact fin S _ rfl (.refl m) (zeb _ _ _ _)⟩
    ·exact fin.elim
   ·exact fin.elim⟩
theorem zaF (hg:Gl X "range") (hm:X.mg "range" = none) (ha:WA X XE [a,b] ga) (hs:starEach [a,b] X.env = [(false,eval a X.env),(false,eval b X.env)]:=by rfl) (hs2:starEach [b] X.env = [(false,eval b X.env)]:=by rfl):WI X XE tg (.Call (.Name "range" p) [a,b] [] pos) (zaA ga):=by
 have ha:=ha.pe
 exact ⟨PI.imp (zgn hg hm ha hs hs2) fun σ H R hh=>
  LN.mono (LN.bind (f:=fun _ σ M=>ga σ M) (k:=fun _ ts σ M1=>zb4 ts M1) (RB:=Reps X.K) hh) fun vs H1 h9=>by
   obtain ⟨S,στ,a,e,m,ev,ra,fin⟩:=h9
   obtain ⟨u,ts⟩:=a
   have rr:Reps X.K S ts vs:=ra.2
   replace fin:Fin XE (zas X.K) X.K S (zb4 ts S.M) R:=fin
   unfold zb4 at fin
   split at fin
   ·rename_i i j
    obtain ⟨v,vs',rfl,r1,r2⟩:=rr.consT
    obtain ⟨v2,vs2,rfl,r3,r4⟩:=r2.consT
    cases r1
    cases r3
    rw [r4.nilT]
    split at fin
    ·rename_i hj
     exact ⟨i,j,rfl,⟨hj.1.1,hj.1.2,hj.2.1,hj.2.2⟩,by rw [← e];exact fin S _ rfl (.refl m) (zeb _ _ _ _)⟩
    ·exact fin.elim
   ·exact fin.elim⟩
end
variable {cond:Ev->Mem->Out Bool} {elt:Expr} {cl:List (Str × Addr)} {caps:List (Str × Nat)} {ifs:List Expr} {tgs:List Str} {scope:Scope}
section
theorem zaE (hi:WI X XE tg iter ga) (cb:CB X scope cl caps) (hg:∀ ex s0 H0,WG (X.block scope cl (tgs ++ caps.map (·.1)) ex s0 H0) XE tg bd) (hif:∀ ex s0 H0,PTs (X.block scope cl (tgs ++ caps.map (·.1)) ex s0 H0) ifs (lT XE X.K cond)) (hel:∀ ex s0 H0,WE (X.block scope cl (tgs ++ caps.map (·.1)) ex s0 H0) XE elt f) (hs:∀ x,foldedSetIterable iter X.env x = pure x:=by intro _;rfl):WL X XE (.ListComp elt [⟨tg,iter,ifs,0⟩] scope pos) (yD ga bd cond f tgs caps):=by
 have hi:=hi.pe
 have hg:=fun ex s0 H0=>(hg ex s0 H0).pe
 have hel:=fun ex s0 H0=>(hel ex s0 H0).pe
 exact ⟨PE.imp (zit (tgs:=tgs) (g:=lG XE X.K bd) (tc:=lT XE X.K cond) (te:=lE XE X.K f) cb.hc hi cb.hclos cb.hcell cb.hkind cb.hnames cb.hcl cb.hhas cb.hcap hg hif hel hs) fun σ H Q hh=>zel hh⟩
theorem zdE {i0:Nat} {y0:Str} {py spos:Pos} (hi:WI X XE tg iter ga) (cb:CB X scope cl caps) (hg:∀ ex s0 H0,WG (X.block scope cl (tgs ++ caps.map (·.1)) ex s0 H0) XE tg bd) (hif:∀ ex s0 H0,PTs (X.block scope cl (tgs ++ caps.map (·.1)) ex s0 H0) ifs (lT XE X.K cond)) (hel:∀ ex s0 H0,WE (X.block scope cl (tgs ++ caps.map (·.1)) ex s0 H0) XE elt f) (hN0:X.N.Nodup) (hi0:X.N[i0]? = some y0) (hx0:Loc X.env.scope y0) (hsw:swapsWith (.ListComp elt [⟨tg,iter,ifs,0⟩] scope pos) (some (.Name y0 py)) spos.line X.env = pure true:=by rfl) (hf0:X.fn y0 = true\/X.env.scope.names.lookup y0 = some .local:=by first | exact .inl rfl | exact .inr rfl | assumption) (hs:∀ x,foldedSetIterable iter X.env x = pure x:=by intro _;rfl):WS X XE (.Assign [.Name y0 py] (.ListComp elt [⟨tg,iter,ifs,0⟩] scope pos) spos) (zk i0 (eFz (yD ga bd cond f tgs caps))):=by
 have hi:=hi.pe
 have hg:=fun ex s0 H0=>(hg ex s0 H0).pe
 have hel:=fun ex s0 H0=>(hel ex s0 H0).pe
 exact ⟨PS.imp (zfG (tgs:=tgs) (g:=lG XE X.K bd) (tc:=lT XE X.K cond) (te:=lE XE X.K f) cb.hc hi cb.hclos cb.hcell cb.hkind cb.hnames cb.hcl cb.hhas cb.hcap hg hif hel hN0 hi0 hx0 hsw hf0 hs) fun D σ H ⟨S,στ,_,e,m,ev,_,fin⟩=>zel ⟨S,στ,e,m,ev,by
  show FinL XE X.K S (yD ga bd cond f tgs caps στ S.M) _
  replace fin:Fin XE (FlR X.K) X.K S (((yD ga bd cond f tgs caps στ S.M).bind fun xs M1=>.ok (T.lst xs) M1).bind fun t M1=>.ok (.nx (στ.set i0 (some t))) M1) (yy D):=fin
  cases q:yD ga bd cond f tgs caps στ S.M with
  | bad=>rw [q] at fin;exact fin
  | exn C fs M'=>rw [q] at fin;exact fin
  | ok xs M1=>
   rw [q] at fin
   intro S1 p vs e1 s1 hn hp hv r
   exact fin (S1.show S.hid) (.nx (σ.set i0 (some (.ref p)))) e1 s1.show (.nx ((Mo.mo (K:=X.K) m s1.show ev).set (zfg s1 hn m hp hv r) i0))⟩⟩
theorem zY :PTs X [] (lT XE X.K zO):=ziV 
end
section
variable {a b:Expr}
theorem za3 {id:String} {F:List T->Mem->Out (List T)} (hc:CallR X (.builtin id) (zfQ XE X.K F)) (hg:Gl X x) (hm:X.mg x = none) (hv:bootBuiltins x = some (.builtin id)) (ha:WA X XE (e :: es) ga) (hn:x ≠ "__name__":=by decide) (hdb:(x == ("__debug__":Str)) = false:=by decide) (he:noStar e = true:=by rfl) (hpl:es.all noStar = true:=by rfl):WL X XE (.Call (.Name x p) (e :: es) [] pos) (zbz F ga):=by
 have ha:=ha.pe
 exact ⟨PE.imp (zd3 hc hg hm hv ha hn hdb (zG he) (zZ hpl)) fun σ H Q ⟨S,στ,e,m,ev,fin⟩=>
  LN.mono (LNL.bind (f:=fun (_:Unit) σ M=>ga σ M) (k:=fun _ ts σ M1=>F ts M1) (RA:=UnR) (RB:=Reps X.K) ⟨S,στ,(),e,m,ev,trivial,fin⟩) fun vs H1 ⟨S,στ,a,e,m,ev,ra,fin⟩=>⟨S,a.2,e,m,ra.2,fin⟩⟩
end
section
theorem zcG {o i:Expr} {st:T->T->T->Mem->Out Unit} (ho:WE X XE o f) (hi:WE X XE i g) (hs:zcZ X (zfP XE X.K st)) (ha:∀ v,assign (.Subscript o i pos) X.env v = (do
 let ov ← holding [v] (eval o X.env)
 let iv ← holding [v,ov] (eval i X.env)
 standAt pos
 holding [v,ov,iv] (setItem ov iv v)
 release [v,ov,iv] []):=by intro _;rfl):WG X XE (.Subscript o i pos) (zeu st f g):=by
 have ho:=ho.pe
 have hi:=hi.pe
 exact ⟨PG.imp (zjF ho hi hs ha) fun v σ H Q hh=>by
  have h1:LN XE (EvR X.K) X.K (Rep X.K) (fun t σ M=>(f σ M).bind fun o M1=>(g σ M1).bind fun i M2=>(st o i t M2).bind fun _ M3=>.ok σ M3) v σ H Q:=hh
  refine LN.mono (LN.env (f:=f) (LN.bind (f:=fun _ σ M=>f σ M) (k:=fun t o σ M1=>(g σ M1).bind fun i M2=>(st o i t M2).bind fun _ M3=>.ok σ M3) (RB:=Rep X.K) h1)) fun ov H1 h2=>?_
  refine LN.mono (LN.env (f:=g) (LN.bind (f:=fun _ σ M=>g σ M) (k:=fun (to:T × T) i σ M2=>(st to.2 i to.1 M2).bind fun _ M3=>.ok σ M3) (RB:=Rep X.K) h2)) fun iv H2 h3=>?_
  obtain ⟨S,στ,a,e,m,ev,ra,fin⟩:=h3
  refine ⟨S,((a.1.2,a.2),a.1.1),e,m,⟨⟨ra.1.2,ra.2⟩,ra.1.1⟩,?_⟩
  show Fin XE UnR X.K S (st a.1.2 a.2 a.1.1 S.M) _
  replace fin:Fin XE (EvR X.K) X.K S ((st a.1.2 a.2 a.1.1 S.M).bind fun _ M3=>.ok στ M3) Q:=fin
  cases o:st a.1.2 a.2 a.1.1 S.M with
  | bad=>rw [o] at fin;exact fin
  | exn C fs M'=>rw [o] at fin;exact fin
  | ok b M1=>
   rw [o] at fin
   intro S1 c e1 s1 _
   exact fin S1 σ e1 s1 (Mo.mo m s1 ev)⟩
theorem zeP {o:Expr} {apos cpos:Pos} (h:PE X (.Call (.Attribute o "append" apos) [e] [] cpos) (tBM X.K "list" zcM (lE XE X.K f) (lA XE X.K ga))):WE X XE (.Call (.Attribute o "append" apos) [e] [] cpos) (zdz zag (eUn yO f) ga):=⟨PE.imp h fun σ H Q hh=>by
 obtain ⟨S,στ,_,e0,m,ev,_,fin⟩:=hh
 replace fin:Fin XE (Rep X.K) X.K S (((f στ S.M).bind fun x M1=>yO x M1).bind fun x M1=>(ga στ M1).bind fun ts M2=>zag x ts M2) Q:=fin
 refine ⟨S,στ,(),e0,m,ev,trivial,?_⟩
 show Fin XE (Rep X.K) X.K S (f στ S.M) _
 cases o1:f στ S.M with
 | bad=>rw [o1] at fin;exact fin
 | exn C fs M'=>rw [o1] at fin;exact fin
 | ok x M1=>
  rw [o1] at fin
  intro S1 v e1 s1 r1
  replace fin:Fin XE (Rep X.K) X.K S ((yO x M1).bind fun x M1=>(ga στ M1).bind fun ts M2=>zag x ts M2) Q:=fin
  unfold yO at fin
  cases q:qp x M1 with
  | none=>rw [q] at fin;exact fin.elim
  | some xs=>
   rw [q] at fin
   replace fin:Fin XE (Rep X.K) X.K S ((ga στ M1).bind fun ts M2=>zag x ts M2) Q:=fin
   obtain ⟨p,vs,rfl,hq,_⟩:=yk s1.mok r1 (by rw [e1];exact q)
   refine ⟨.inl ⟨rfl,vs,hq⟩,S1,στ,(),rfl,s1.mok,Mo.mo m s1 ev,trivial,?_⟩
   show Fin XE (Reps X.K) X.K S1 (ga στ S1.M) _
   rw [e1]
   cases o2:ga στ M1 with
   | bad=>rw [o2] at fin;exact fin
   | exn C fs M'=>rw [o2] at fin;exact Fin.later s1 fin
   | ok ts M2=>
    rw [o2] at fin
    intro S2 ws e2 s2 r2
    replace fin:Fin XE (Rep X.K) X.K S (zag x ts M2) Q:=fin
    have fin2:=Fin.later (s1.trans s2) fin
    unfold zag at fin2
    split at fin2
    ·split at fin2
     ·rename_i a t _ ys qy
      split at fin2
      ·rename_i hz
       obtain ⟨w,ws',rfl,r3,r4⟩:=r2.consT
       rw [r4.nilT]
       have r1':=r1.grow s1.mok s2.toGrow
       cases r1' with
       | ref ha2=>
       obtain ⟨us,q3,rs⟩:=s2.mok.cell a _ (by rw [e2];exact qy)
       refine ⟨S2.α a,us,w,rfl,rfl,q3,by rw [← rs.1];exact hz,?_⟩
       exact fin2 (S2.put a (.lst (us ++ [w])) (.lst (ys ++ [t]))) .non (by show S2.M.set a _ = _;rw [e2]) (zbw s2.mok (by rw [e2];exact qy) (rs.app (.cons r3 .nil))) .non
      ·exact fin2.elim
     ·exact fin2.elim
    ·exact fin2.elim⟩
end
section
theorem zbO :WO X XE none zaN:=⟨PO.imp ziq fun σ H Q h9=>by
 obtain ⟨S,στ,_,e,m,ev,_,fin⟩:=h9
 show Q none H
 rw [← e];exact fin S none rfl (.refl m) rfl⟩
theorem zbN (h:WE X XE e f):WO X XE (some e) (zaM f):=by
 have h:=h.pe
 exact ⟨PO.imp (zio h) fun σ H Q hh=>
  LN.mono (LN.bind (f:=fun _ σ M=>f σ M) (k:=fun _ x σ M1=>zhz x M1) (RB:=Rep X.K) hh) fun v H1 h9=>by
   obtain ⟨S,στ,a,e,m,ev,ra,fin⟩:=h9
   obtain ⟨u,t⟩:=a
   have r:Rep X.K S t v:=ra.2
   replace fin:Fin XE EqR X.K S (zhz t S.M) Q:=fin
   cases r with
   | int i=>exact ⟨i,rfl,by rw [← e];exact fin S (some i) rfl (.refl m) rfl⟩
   | _=>exact fin.elim⟩
theorem zdF {lo hi:Option Expr} {p q:Ev->Mem->Out (Option Int)} {p2:Pos} (he:WE X XE e f) (hl:WO X XE lo p) (hu:WO X XE hi q):WE X XE (.Subscript e (.Slice lo hi none p2) pos) (eSl f p q):=by
 have he:=he.pe
 have hl:=hl.pe
 have hu:=hu.pe
 exact ⟨PE.imp (zhi zlG he hl hu) fun σ H Q hh=>
  LN.mono (LN.bind (f:=fun _ σ M=>f σ M) (k:=fun _ x σ M1=>(p σ M1).bind fun lo M2=>(q σ M2).bind fun hi M3=>zcT x lo hi M3) (RB:=Rep X.K) hh) fun v H1 h1=>
   LN.mono (LN.env (f:=p) (LN.bind (f:=fun _ σ M=>p σ M) (k:=fun (ax:Unit × T) lo σ M2=>(q σ M2).bind fun hi M3=>zcT ax.2 lo hi M3) (RB:=EqR) h1)) fun l H2 h2=>
    LN.mono (LN.env (f:=q) (LN.bind (f:=fun _ σ M=>q σ M) (k:=fun (ax:(Unit × T) × Option Int) hi σ M3=>zcT ax.1.2 ax.2 hi M3) (RB:=EqR) h2)) fun w H3 h9=>by
     obtain ⟨S,στ,a,e,m,ev,ra,fin⟩:=h9
     have e1:a.1.2 = l:=ra.1.2
     have e2:a.2 = w:=ra.2
     exact ⟨S,a.1.1.2,e,m,ra.1.1.2,by rw [← e1,← e2];exact fin⟩⟩
end
section
theorem zh2:WE X XE (.Dict [] [] pos) zfW:=⟨PE.imp zhj fun σ H Q ⟨S,στ,_,e,m,ev,_,fin⟩ p hp=>by
 subst e
 have s1:Stp X.K S (S.more p (.dK []) (.dic [])):=Stp.more m hp _ _ ⟨[],zn,.nil⟩
 have r1:Rep X.K (S.more p (.dK []) (.dic [])) (.ref S.M.length) (.ref p):=by
  have h0:S.M.length < (S.M ++ [Cell.dic []]).length:=by simp
  have:=Rep.ref (K:=X.K) (S:=S.more p (.dK []) (.dic [])) (a:=S.M.length) h0
  have e1:(S.more p (.dK []) (.dic [])).α S.M.length = p:=if_pos rfl
  rw [e1] at this
  exact this
 exact fin (S.more p (.dK []) (.dic [])) (.ref p) rfl s1 r1⟩
theorem zdG {o e:Expr} {es:List Expr} {n:Str} {Ty:String} {f:Ev->Mem->Out T} {ga:Ev->Mem->Out (List T)} {chk:T->Mem->Bool} {F:T->List T->Mem->Out T} {apos cpos:Pos} (hc:∀ {K:Frag} {S:Sit},MemOk K S->∀ {t:T} {x:V},Rep K S t x->chk t S.M = true->tyV K Ty x S.H) (h:PE X (.Call (.Attribute o n apos) (e :: es) [] cpos) (tBM X.K Ty (lMt XE X.K F) (lE XE X.K f) (lA XE X.K ga))):WE X XE (.Call (.Attribute o n apos) (e :: es) [] cpos) (zaC chk F f ga):=⟨PE.imp h fun σ H Q hh=>by
 obtain ⟨S,στ,_,e0,m,ev,_,fin⟩:=hh
 replace fin:Fin XE (Rep X.K) X.K S ((f στ S.M).bind fun x M1=>if chk x M1 = true then (ga στ M1).bind fun ts M2=>F x ts M2 else .bad) Q:=fin
 refine ⟨S,στ,(),e0,m,ev,trivial,?_⟩
 show Fin XE (Rep X.K) X.K S (f στ S.M) _
 cases o1:f στ S.M with
 | bad=>rw [o1] at fin;exact fin
 | exn C fs M'=>rw [o1] at fin;exact fin
 | ok x M1=>
  rw [o1] at fin
  intro S1 v e1 s1 r1
  replace fin:Fin XE (Rep X.K) X.K S (if chk x M1 = true then (ga στ M1).bind fun ts M2=>F x ts M2 else .bad) Q:=fin
  split at fin
  ·rename_i hk
   refine ⟨hc s1.mok r1 (by rw [e1];exact hk),S1,στ,(),rfl,s1.mok,Mo.mo m s1 ev,trivial,?_⟩
   show Fin XE (Reps X.K) X.K S1 (ga στ S1.M) _
   rw [e1]
   cases o2:ga στ M1 with
   | bad=>rw [o2] at fin;exact fin
   | exn C fs M'=>rw [o2] at fin;exact Fin.later s1 fin
   | ok ts M2=>
    rw [o2] at fin
    intro S2 ws e2 s2 r2
    replace fin:Fin XE (Rep X.K) X.K S (F x ts M2) Q:=fin
    have fin2:=Fin.later (s1.trans s2) fin
    exact ⟨S2,(x,ts),rfl,s2.mok,⟨r1.grow s1.mok s2.toGrow,r2⟩,by show Fin XE (Rep X.K) X.K S2 (F x ts S2.M) Q;rw [e2];exact fin2⟩
  ·exact fin.elim⟩
end
section
theorem zh0 {op:T->T->Mem->Out T} {bop:Operator} (hN:X.N.Nodup) (hi:X.N[i]? = some x) (hx:Loc X.env.scope x) (he:WE X XE e f) (ho:PIp X bop (lR2 XE X.K op)) (hf:X.fn x = true\/X.env.scope.names.lookup x = some .local:=by first | exact .inl rfl | exact .inr rfl | assumption):WS X XE (.AugAssign (.Name x pos') bop e pos) (zfD i op f):=by
 have he:=he.pe
 exact ⟨PS.imp (zjC hN hi hx he ho hf) fun D σ H hh=>by
  obtain ⟨S,στ,_,e,m,ev,_,fin⟩:=hh
  replace fin:Fin XE (FlR X.K) X.K S ((zb i στ S.M).bind fun x M0=>(f στ M0).bind fun y M1=>(op x y M1).bind fun z M2=>.ok (Fl.nx (στ.set i (some z))) M2) (yy D):=fin
  unfold zb at fin
  split at fin
  case h_2=>exact fin.elim
  rename_i t et
  obtain ⟨v,e2,rv⟩:=ev.2 i t et
  refine ⟨v,e2,?_⟩
  have h1:LN XE (FlR X.K) X.K (Rep X.K) (fun t σ M=>(f σ M).bind fun y M1=>(op t y M1).bind fun z M2=>.ok (Fl.nx (σ.set i (some z))) M2) v σ H (yy D):=⟨S,στ,t,e,m,ev,rv,fin⟩
  refine LN.mono (LN.env (f:=f) (LN.bind (f:=fun _ σ M=>f σ M) (k:=fun (a:T) y σ M1=>(op a y M1).bind fun z M2=>.ok (Fl.nx (σ.set i (some z))) M2) (RB:=Rep X.K) h1)) fun yv H1 h2=>?_
  have h6:=LN.bind (f:=fun (a:T × T) _ M=>op a.1 a.2 M) (k:=fun a z σ M2=>.ok (Fl.nx (σ.set i (some z))) M2) (RB:=Rep X.K) h2
  obtain ⟨S5,a5,e5,m5,ra5,fin5⟩:=LN.l0 (k:=fun (a:T × T) M=>op a.1 a.2 M) h6
  refine ⟨S5,(a5.1,a5.2),e5,m5,⟨ra5.1,ra5.2⟩,fin5.mono fun zv H2 h7=>?_⟩
  obtain ⟨S6,στ6,a6,e6,m6,ev6,ra6,fin6⟩:=h7
  show D.nx (σ.set i (some zv)) H2
  rw [← e6];exact fin6 S6 (.nx _) rfl (.refl m6) (.nx (ev6.set ra6.2 i))⟩
end
section
variable {p:Ev->Mem->Out Fl}
theorem zg2 (hp:PassesOwn (model X.prog X.w) X.A X.env X.xe) (hc:X.calm = true) (he:WE X XE e f) (hg:WG X XE tg bd) (hb:WSs X XE sts p) (hs:∀ x,foldedSetIterable e X.env x = pure x:=by intro _;rfl):WS X XE (.For tg e sts [] pos) (zdt f bd p):=by
 have he:=he.pe
 have hg:=hg.pe
 have hb:=hb.pe
 exact ⟨PS.imp (zgl hp hc (ze0 he) hg hb hs) fun D σ H hh=>by
  refine LN.mono (LN.bind (f:=fun _ σ M=>f σ M) (k:=fun _ t σ M1=>zbr bd p t σ M1) (RB:=Rep X.K) hh) fun v H1 h1=>?_
  obtain ⟨S,στ,a,e,m,ev,ra,fin⟩:=h1
  replace fin:Fin XE (FlR X.K) X.K S (zbr bd p a.2 στ S.M) (yy D):=fin
  have r2:Rep X.K S a.2 v:=ra.2
  generalize a.2 = t at fin r2
  unfold zbr at fin
  split at fin
  case h_2=>exact fin.elim
  rename_i b
  split at fin
  case h_2=>exact fin.elim
  rename_i xs q
  cases r2 with
  | ref hb=>
  obtain ⟨vs,q2,rs⟩:=m.cell b _ q
  refine ⟨S.α b,rfl,⟨vs,by rw [← e];exact .inl (.inl q2)⟩,fun i n σ H=>∃ S1 στ,S1.H = H/\MemOk X.K S1/\EvR X.K S1 στ σ/\b < S1.M.length/\S1.α b = S.α b/\Fin XE (FlR X.K) X.K S1 (forR bd p b n i στ S1.M) (yy D),⟨_,S,στ,e,m,ev,hb,rfl,fin⟩,?_⟩
  rintro i n σ1 H2 ⟨S1,στ1,e1,m1,ev1,b1,al1,fin1⟩
  subst e1
  have stopped:∀ ys,S1.M[b]? = some (.lst ys)->ys.length<=i->Fin XE (FlR X.K) X.K S1 (.ok (.nx στ1) S1.M) (yy D)->(Itl X.K (S.α b)).stop i S1.H/\D.nx σ1 S1.H:=fun ys qy hl fin=>by
   obtain ⟨us,q3,rs3⟩:=m1.cell b _ qy
   rw [al1] at q3
   exact ⟨⟨us,.inl (.inl q3),by rw [← rs3.1];exact hl⟩,fin S1 (.nx σ1) rfl (.refl m1) (.nx ev1)⟩
  cases n with
  | zero=>
   unfold forR at fin1
   split at fin1
   case h_2=>exact fin1.elim
   rename_i ys qy
   by_cases hl:ys.length<=i
   ·rw [if_pos hl] at fin1;exact .inl (stopped ys qy hl fin1)
   ·rw [if_neg hl] at fin1;exact fin1.elim
  | succ n=>
   unfold forR at fin1
   split at fin1
   case h_2=>exact fin1.elim
   rename_i ys qy
   split at fin1
   case h_2=>
    rename_i qn
    exact .inl (stopped ys qy (List.getElem?_eq_none_iff.mp qn) fin1)
   rename_i x qx
   obtain ⟨us,q3,rs3⟩:=m1.cell b _ qy
   rw [al1] at q3
   obtain ⟨u,eu,ru⟩:=rs3.get qx
   refine .inr ⟨⟨us,u,.inl (.inl q3),eu⟩,fun σ' H'=>∃ S2 στ,S2.H = H'/\MemOk X.K S2/\EvR X.K S2 στ σ'/\b < S2.M.length/\S2.α b = S.α b/\Fin XE (FlR X.K) X.K S2 (forR bd p b n (i + 1) στ S2.M) (yy D),?_,fun y H' hy=>?_⟩
   ·rintro σ' H' ⟨S2,στ2,e2,m2,ev2,b2,al2,fin2⟩
    exact ⟨n,Nat.lt_succ_self _,S2,στ2,e2,m2,ev2,b2,al2,fin2⟩
   ·obtain ⟨ey,hy⟩:=hy
    have:=hy us (.inl (.inl q3))
    rw [eu] at this
    cases this
    subst ey
    refine ⟨S1,στ1,x,rfl,m1,ev1,ru,?_⟩
    cases o:bd x στ1 S1.M with
    | bad=>rw [o] at fin1;exact fin1
    | exn C fs M'=>rw [o] at fin1;exact fin1
    | ok σ3 M3=>
     rw [o] at fin1
     intro S3 σ3v e3 s3 ev3
     refine ⟨S3,σ3,(),rfl,s3.mok,ev3,trivial,?_⟩
     show Fin XE (FlR X.K) X.K S3 (p σ3 S3.M) _
     rw [e3]
     replace fin1:Fin XE (FlR X.K) X.K S1 ((p σ3 M3).bind (zw (forR bd p b n (i + 1)))) (yy D):=fin1
     cases o2:p σ3 M3 with
     | bad=>rw [o2] at fin1;exact fin1
     | exn C fs M'=>rw [o2] at fin1;exact Fin.later s3 fin1
     | ok fl M4=>
      rw [o2] at fin1
      intro S4 fv e4 s4 r4
      have s14:=s3.trans s4
      have b4:b < S4.M.length:=Q5 b1 s14.le
      have al4:S4.α b = S.α b:=by rw [s14.al b b1];exact al1
      cases r4 with
      | nx r4=>exact ⟨S4,_,rfl,s4.mok,r4,b4,al4,by rw [e4];exact Fin.later s14 fin1⟩
      | ct r4=>exact ⟨S4,_,rfl,s4.mok,r4,b4,al4,by rw [e4];exact Fin.later s14 fin1⟩
      | bk r4=>exact fin1 S4 (.nx _) e4 s14 (.nx r4)
      | rt r4=>exact fin1 S4 (.rt _) e4 s14 (.rt r4)⟩
end
section
theorem yn {k p:Nat} {g:Ev->Mem->Out Fl} (D:Df K mg x st ps) (Sc:FnScope N ps (yd st)) (hp:ps.length = p) (hn:N.length = n)
 (hb:∀ (f:Addr) (cdv:Value) (A:Around) (outer:List PySem.Env) (s:Shared) (H:Hp) (E:XK),Room k (A.deeper (envOfC x (yd st) s.heap.objs.size f cdv))->WSs (y8 CX0 P w K mg base N x (yd st) f cdv A outer s H E).nox E0 (yt st) g) :
  CalT P w K mg base (k + 1) x ps (yg p n g):=zgZ D Sc hp hn fun f cdv A outer s H E hr=>(hb f cdv A outer s H E hr).pe
theorem zhY {qual:Str} {f:Addr} {fd:FuncData} {k p:Nat} {g:Ev->Mem->Out Fl} (F:Fun K x qual st f fd) (Sc:FnScope N ps (yd st)) (hp:ps.length = p) (hn:N.length = n)
 (hb:∀ (cdv:Value) (A:Around) (outer:List PySem.Env) (s:Shared) (H:Hp) (E:XK),Room k (A.deeper (envOfC qual (yd st) s.heap.objs.size f cdv))->WSs (y8 CX0 P w K mg base N qual (yd st) f cdv A outer s H E).nox E0 (yt st) g) :
  FnOk P w K mg base CX0 (k + 1) f fd ps (spT K (yg p n g)):=zj0 F Sc hp hn fun cdv A outer s H E hr=>(hb cdv A outer s H E hr).pe
end
end FT
namespace L2
open PySem PySem.Spec PyProof.Rows
structure XiAt (K:Frag) (D:Addr):Prop where
 ga:PySem.W.findIn K (.ref D) "__getattribute__" = some (some (.builtin "BaseException.__getattribute__"))
 gt:PySem.W.findIn K (.ref D) "__getattr__" = some none
 c:(PySem.W.clsIn K D).isSome = true
 a:PySem.W.findIn K (.ref D) "__class__" = some (some (.builtin "object.__class__"))
 n:PySem.W.specialIn K (.builtin "object.__class__") "__get__" = some (some (.builtin "getset_descriptor.__get__"))
 t:PySem.W.takesIn K (.builtin "object.__class__") = some true
 m:PySem.W.mroIn K D (.type "object") = some true
 be:PySem.W.mroIn K D (.type "BaseException") = some true
end L2
namespace FT
open PySem PySem.Spec PyProof.Rows L2
structure IsAt (K:Frag) (mg:Str->Option Value) (y:Str) (g:Addr->Option Bool):Prop where
 ex:∃ (v:V) (c:Value),RelV v c/\(mg y = some c\/(mg y = none/\bootBuiltins y = some c))/\(∀ u,RelV v u->u = c)/\∀ C b,g C = some b->XiAt K C/\PySem.W.kitOne K (.ref C) c = some b
structure XmAt (K:Frag) (D W:Addr):Prop where
 ga:PySem.W.findIn K (.ref D) "__getattribute__" = some (some (.builtin "BaseException.__getattribute__"))
 gt:PySem.W.findIn K (.ref D) "__getattr__" = some none
 a:PySem.W.findIn K (.ref D) "__class__" = some (some (.builtin "object.__class__"))
 n:PySem.W.specialIn K (.builtin "object.__class__") "__get__" = some (some (.builtin "getset_descriptor.__get__"))
 t:PySem.W.takesIn K (.builtin "object.__class__") = some true
 mro:(PySem.W.clsIn K D).map (·.mro) = some (.ref D :: .ref W :: zcU)
 ty:PySem.W.typeIn K (.ref D) = some (.type "type")
section
variable {K:Frag} {mg:Str->Option Value} {C D W Y:Addr} {y:Str} {ks:List Addr}
theorem XmAt.in (x:XmAt K D W) (base:Value):PySem.W.mroIn K D base = some ((Value.ref D :: .ref W :: zcU).contains base):=by
 obtain ⟨cd,h,e⟩:=Option.map_eq_some_iff.mp x.mro
 unfold PySem.W.mroIn
 rw [h,Option.bind_some,e]
 rfl
theorem XmAt.cls (x:XmAt K D W):(PySem.W.clsIn K D).isSome = true:=by
 obtain ⟨cd,h,e⟩:=Option.map_eq_some_iff.mp x.mro
 rw [h]
 rfl
theorem zaY (a b:Value) (l:List Value):(b :: l).contains a = (a == b || l.contains a):=List.contains_cons
theorem XmAt.xi (x:XmAt K D W):XiAt K D:=⟨x.ga,x.gt,x.cls,x.a,x.n,x.t,by rw [x.in,zaY,zaY,show zcU.contains (.type "object") = true by decide +kernel,Bool.or_true,Bool.or_true],by rw [x.in,zaY,zaY,show zcU.contains (.type "BaseException") = true by decide +kernel,Bool.or_true,Bool.or_true]⟩
end
end FT
namespace L2
open PySem PySem.Spec PyProof.Rows
noncomputable def zlM (a:List Str) (x:Str):List Str:=if x ∈ a then a else a ++ [x]
noncomputable def met (ss:List Str):List Str:=ss.foldl zlM []
end L2
namespace TS
open PySem PyProof.Rows
noncomputable abbrev kof (p:Keyed):Int:=numOf p.1
def IK (p:Keyed):Prop:=∃ n t,p.1 = .int n t
def So (l:List Keyed):Prop:=l.Pairwise fun x y=>kof x<=kof y
noncomputable def zi8:Bool->Keyed->Array Keyed->Nat->Nat->Nat->StateT SortSt Sem (Option Nat):=sortPriv% PySem.Builtin.gallop
noncomputable def zho:Array Keyed->Array Keyed->StateT SortSt Sem (Array Keyed):=sortPriv% PySem.Builtin.mergeLo
noncomputable def zhp:Array Keyed->Array Keyed->StateT SortSt Sem (Array Keyed):=sortPriv% PySem.Builtin.mergeHi
noncomputable def zeT:Nat->StateT SortSt Sem Unit:=sortPriv% PySem.Builtin.setMinGallop
variable {A:Around} {arr:Array Keyed} {left:Bool} {key p:Keyed} {i:Nat} {Q:Option Bool->SortSt->Prop} {prog:Program} {s:Shared} {st:SortSt} {E:Value->Shared->Prop} {w:World}
section
theorem zdv {x y:Keyed} (hk:kindOf st = oneType') (hx:IK x) (hy:IK y)
 (h:Q (some (decide (kof x < kof y))) st):wpS (model prog w) A E s (lt' x y) Q st:=by
 obtain ⟨a,t,e1⟩:=hx
 obtain ⟨b,u,e2⟩:=hy
 have h':Q (some (decide (a < b))) st:=by
  have:decide (kof x < kof y) = decide (a < b):=by simp [kof,e1,e2,numOf]
  rwa [this] at h
 rw [lt'_eq]
 refine wpS_bind (wpS_get ?_)
 rw [hk,keyLt'_oneType,e1,e2]
 refine wpS_bind (wpS_lift (wpAny_attempt (oneLt_int ⟨rfl,?_⟩)))
 exact wpS_pure h'
theorem zr {Q:Keyed->SortSt->Prop} (hi:arr.toList[i]? = some p) (h:Q p st) :
  wpS (model prog w) A E s (elem' arr i) Q st:=by
 rw [elem'_eq,← Array.getElem?_toList,hi];exact wpS_pure h
theorem zkJ (hk:kindOf st = oneType')
 (hi:arr.toList[i]? = some p) (hp:IK p) (hkey:IK key) (h:Q (some (if left then decide (kof p < kof key) else decide (kof p<=kof key))) st) :
  wpS (model prog w) A E s (do
   let x ← elem' arr i
   if left = true then lt' x key else do
    let r ← lt' key x
    pure (Option.map (fun x=>!x) r)) Q st:=by
 refine wpS_bind (zr hi ?_)
 cases left with
 | true=>exact zdv hk hp hkey h
 | false=>
  refine wpS_bind (zdv hk hkey hp (wpS_pure ?_))
  have:(!decide (kof key < kof p)) = decide (kof p<=kof key):=by
   by_cases h1:kof key < kof p <;> simp [h1] <;> omega
  simpa [this] using h
end
variable {n:Nat}
section
noncomputable def bq (left:Bool) (key p:Keyed):Bool:=if left then decide (kof p < kof key) else decide (kof p<=kof key)
theorem zjb {q:Keyed} (h:kof p<=kof q) (hq:bq left key q = true):bq left key p = true:=by
 unfold bq at hq ⊢
 cases left <;> simp at hq ⊢ <;> omega
theorem zM {base hint:Nat} {L:List Keyed} {Q:Option Nat->SortSt->Prop}
 (hk:kindOf st = oneType') (hkey:IK key) (hL:(arr.toList.drop base).take n = L) (hn:L.length = n) (hI:∀ p ∈ L,IK p) (hS:So L) (hh:hint < n)
 (h:∀ k,k<=n->(∀ p ∈ L.take k,bq left key p = true)->(∀ p ∈ L.drop k,bq left key p = false)->Q (some k) st) :
  wpS (model prog w) A E s (zi8 left key arr base n hint) Q st:=by
 have at_:∀ i,(hi:i < n)->arr.toList[base + i]? = some (L[i]'(by omega)):=by
  intro i hi
  have:L[i]? = some (L[i]'(by omega)):=getElem?_pos ..
  rw [← this,← hL,getElem?_take,if_pos hi,getElem?_drop]
 obtain ⟨b,hb⟩:∃ b:Nat->Bool,∀ i,(hi:i < n)->b i = bq left key (L[i]'(by omega)):=
  ⟨fun i=>if hi:i < n then bq left key (L[i]'(by omega)) else false,fun i hi=>by simp [hi]⟩
 have mono:∀ i j,i<=j->j < n->b j = true->b i = true:=by
  intro i j hij hj hbj
  by_cases e:i = j
  ·subst e;exact hbj
  ·rw [hb i (by omega)];rw [hb j hj] at hbj
   exact zjb (List.pairwise_iff_getElem.mp hS i j (by omega) (by omega) (by omega)) hbj
 have mono':∀ i j,i<=j->j < n->b i = false->b j = false:=by
  intro i j hij hj hbi
  cases e:b j with
  | false=>rfl
  | true=>rw [mono i j hij hj e] at hbi;cases hbi
 have bey:∀ {Q':Option Bool->SortSt->Prop} i,i < n->Q' (some (b i)) st->wpS (model prog w) A E s (do
   let x ← elem' arr (base + i)
   if left = true then lt' x key else do
    let r ← lt' key x
    pure (Option.map (fun x=>!x) r)) Q' st:=by
  intro Q' i hi h'
  refine zkJ hk (at_ i hi) (hI _ (getElem_mem _)) hkey ?_
  rw [hb i hi] at h';exact h'
 have fin:∀ k,k<=n->(∀ i,i < k->b i = true)->(∀ i,k<=i->i < n->b i = false)->Q (some k) st:=by
  intro k hkn h1 h2
  refine h k hkn (fun p hp=>?_) (fun p hp=>?_)
  ·obtain ⟨i,hi,rfl⟩:=List.mem_iff_getElem.mp hp
   rw [Qp] at hi
   rw [List.getElem_take,← hb i (by omega)];exact h1 i (by omega)
  ·obtain ⟨i,hi,rfl⟩:=List.mem_iff_getElem.mp hp
   rw [length_drop] at hi
   rw [List.getElem_drop,← hb (k + i) (by omega)];exact h2 _ (by omega) (by omega)
 refine wpS_bind (bey hint hh ?_)
 dsimp only
 cases hbh:b hint with
 | true=>
  rw [if_pos rfl]
  refine wpS_bind (wpS_mono (wpS_forRange (I:=fun j c st'=>st' = st/\∃ l o,c = (none,l,o)/\l < o/\j + 1<=o/\hint + l < n/\b (hint + l) = true)
   (Q:=fun c st'=>st' = st/\∃ l o,c = (none,l,o)/\l < o/\hint + l < n/\b (hint + l) = true/\(n - hint<=o\/(hint + o < n/\b (hint + o) = false))) ?_ ?_
   ⟨rfl,0,1,rfl,by omega,by omega,by omega,hbh⟩) ?_)
  ·rintro i c st1 _ hi ⟨rfl,l,o,rfl,h1,h2,h3,h4⟩
   dsimp only
   by_cases ho:o ≥ n - hint
   ·rw [if_pos ho];exact wpS_pure ⟨rfl,l,o,rfl,h1,h3,h4,.inl ho⟩
   ·rw [if_neg ho]
    refine wpS_bind (bey (hint + o) (by omega) ?_)
    cases hbo:b (hint + o) with
    | false=>exact wpS_pure ⟨rfl,l,o,rfl,h1,h3,h4,.inr ⟨by omega,hbo⟩⟩
    | true=>exact wpS_pure ⟨rfl,o,2 * o + 1,rfl,by omega,by omega,by omega,hbo⟩
  ·rintro c st1 ⟨rfl,l,o,rfl,h1,h2,h3,h4⟩
   exact ⟨rfl,l,o,rfl,h1,h3,h4,.inl (by omega)⟩
  ·rintro c st1 ⟨rfl,l,o,rfl,h1,h3,h4,h5⟩
   dsimp only
   have f1:∀ i,i < hint + l + 1->b i = true:=fun i hi=>mono i (hint + l) (by omega) h3 h4
   have f2:∀ i,hint + min o (n - hint)<=i->i < n->b i = false:=by
    intro i hi1 hi2
    rcases h5 with h5 | ⟨h5,h6⟩
    ·omega
    ·exact mono' (hint + o) i (by omega) hi2 h6
   have f3:hint + l + 1<=hint + min o (n - hint):=by omega
   have f4:hint + min o (n - hint)<=n:=by omega
   generalize hint + l + 1 = lo at *
   generalize hint + min o (n - hint) = hi at *
   clear h1 h3 h4 h5
   refine wpS_bind (wpS_mono (wpS_forRange (I:=fun j c st'=>st' = st1/\∃ l r,c = (none,l,r)/\l<=r/\r<=n/\r - l<=n - j/\(∀ i,i < l->b i = true)/\(∀ i,r<=i->i < n->b i = false))
    (Q:=fun c st'=>st' = st1/\∃ l,c = (none,l,l)/\l<=n/\(∀ i,i < l->b i = true)/\(∀ i,l<=i->i < n->b i = false)) ?_ ?_
    ⟨rfl,lo,hi,rfl,f3,f4,by omega,f1,f2⟩) ?_)
   ·rintro i c st2 _ hin ⟨rfl,l,r,rfl,g1,g2,g3,g4,g5⟩
    dsimp only
    by_cases hlr:l ≥ r
    ·rw [if_pos hlr]
     have:l = r:=by omega
     subst this
     exact wpS_pure ⟨rfl,l,rfl,g2,g4,g5⟩
    ·rw [if_neg hlr]
     refine wpS_bind (bey (l + (r - l) / 2) (by omega) ?_)
     cases hbm:b (l + (r - l) / 2) with
     | true=>exact wpS_pure ⟨rfl,l + (r - l) / 2 + 1,r,rfl,by omega,g2,by omega,fun i hi=>mono i _ (by omega) (by omega) hbm,g5⟩
     | false=>exact wpS_pure ⟨rfl,l,l + (r - l) / 2,rfl,by omega,by omega,by omega,g4,fun i hi1 hi2=>mono' _ i hi1 hi2 hbm⟩
   ·rintro c st2 ⟨rfl,l,r,rfl,g1,g2,g3,g4,g5⟩
    have:l = r:=by omega
    subst this
    exact ⟨rfl,l,rfl,g2,g4,g5⟩
   ·rintro c st2 ⟨rfl,l,rfl,g2,g4,g5⟩
    exact wpS_pure (fin l g2 g4 g5)
 | false=>
  rw [if_neg (by decide)]
  refine wpS_bind (wpS_mono (wpS_forRange (I:=fun j c st'=>st' = st/\∃ l o,c = (none,l,o)/\l < o/\j + 1<=o/\l<=hint/\b (hint - l) = false)
   (Q:=fun c st'=>st' = st/\∃ l o,c = (none,l,o)/\l < o/\l<=hint/\b (hint - l) = false/\(hint + 1<=o\/(o<=hint/\b (hint - o) = true))) ?_ ?_
   ⟨rfl,0,1,rfl,by omega,by omega,by omega,hbh⟩) ?_)
  ·rintro i c st1 _ hi ⟨rfl,l,o,rfl,h1,h2,h3,h4⟩
   dsimp only
   by_cases ho:o ≥ hint + 1
   ·rw [if_pos ho];exact wpS_pure ⟨rfl,l,o,rfl,h1,h3,h4,.inl ho⟩
   ·rw [if_neg ho]
    refine wpS_bind (bey (hint - o) (by omega) ?_)
    cases hbo:b (hint - o) with
    | true=>exact wpS_pure ⟨rfl,l,o,rfl,h1,h3,h4,.inr ⟨by omega,hbo⟩⟩
    | false=>exact wpS_pure ⟨rfl,o,2 * o + 1,rfl,by omega,by omega,by omega,hbo⟩
  ·rintro c st1 ⟨rfl,l,o,rfl,h1,h2,h3,h4⟩
   exact ⟨rfl,l,o,rfl,h1,h3,h4,.inl (by omega)⟩
  ·rintro c st1 ⟨rfl,l,o,rfl,h1,h3,h4,h5⟩
   dsimp only
   have f1:∀ i,i < hint + 1 - min o (hint + 1)->b i = true:=by
    intro i hi
    rcases h5 with h5 | ⟨h5,h6⟩
    ·omega
    ·exact mono i (hint - o) (by omega) (by omega) h6
   have f2:∀ i,hint - l<=i->i < n->b i = false:=fun i hi1 hi2=>mono' (hint - l) i hi1 hi2 h4
   have f3:hint + 1 - min o (hint + 1)<=hint - l:=by omega
   have f4:hint - l<=n:=by omega
   generalize hint + 1 - min o (hint + 1) = lo at *
   generalize hint - l = hi at *
   clear h1 h3 h4 h5
   refine wpS_bind (wpS_mono (wpS_forRange (I:=fun j c st'=>st' = st1/\∃ l r,c = (none,l,r)/\l<=r/\r<=n/\r - l<=n - j/\(∀ i,i < l->b i = true)/\(∀ i,r<=i->i < n->b i = false))
    (Q:=fun c st'=>st' = st1/\∃ l,c = (none,l,l)/\l<=n/\(∀ i,i < l->b i = true)/\(∀ i,l<=i->i < n->b i = false)) ?_ ?_
    ⟨rfl,lo,hi,rfl,f3,f4,by omega,f1,f2⟩) ?_)
   ·rintro i c st2 _ hin ⟨rfl,l,r,rfl,g1,g2,g3,g4,g5⟩
    dsimp only
    by_cases hlr:l ≥ r
    ·rw [if_pos hlr]
     have:l = r:=by omega
     subst this
     exact wpS_pure ⟨rfl,l,rfl,g2,g4,g5⟩
    ·rw [if_neg hlr]
     refine wpS_bind (bey (l + (r - l) / 2) (by omega) ?_)
     cases hbm:b (l + (r - l) / 2) with
     | true=>exact wpS_pure ⟨rfl,l + (r - l) / 2 + 1,r,rfl,by omega,g2,by omega,fun i hi=>mono i _ (by omega) (by omega) hbm,g5⟩
     | false=>exact wpS_pure ⟨rfl,l,l + (r - l) / 2,rfl,by omega,by omega,by omega,g4,fun i hi1 hi2=>mono' _ i hi1 hi2 hbm⟩
   ·rintro c st2 ⟨rfl,l,r,rfl,g1,g2,g3,g4,g5⟩
    have:l = r:=by omega
    subst this
    exact ⟨rfl,l,rfl,g2,g4,g5⟩
   ·rintro c st2 ⟨rfl,l,rfl,g2,g4,g5⟩
    exact wpS_pure (fin l g2 g4 g5)
end
def le' (c d:List Keyed):Prop:=∀ x ∈ c,∀ y ∈ d,kof x<=kof y
variable {l m:List Keyed}
theorem zo:So (l ++ m) ↔ So l/\So m/\le' l m:=List.pairwise_append
theorem le_app {n:List Keyed}:le' l (m ++ n) ↔ le' l m/\le' l n:=by
 unfold le'
 constructor
 ·intro h;exact ⟨fun x hx y hy=>h x hx y (mem_append_left _ hy),fun x hx y hy=>h x hx y (Ql _ hy)⟩
 ·rintro ⟨h1,h2⟩ x hx y hy
  rcases mem_append.mp hy with h | h
  ·exact h1 x hx y h
  ·exact h2 x hx y h
theorem zcB {n:List Keyed}:le' (l ++ m) n ↔ le' l n/\le' m n:=by
 unfold le'
 constructor
 ·intro h;exact ⟨fun x hx y hy=>h x (mem_append_left _ hx) y hy,fun x hx y hy=>h x (Ql _ hx) y hy⟩
 ·rintro ⟨h1,h2⟩ x hx y hy
  rcases mem_append.mp hx with h | h
  ·exact h1 x h y hy
  ·exact h2 x h y hy
theorem le_nil:le' l []:=fun _ _ _ h=>by cases h
theorem nil_le:le' [] l:=fun _ h=>by cases h
structure MI (T o xs ys:List Keyed):Prop where
 perm:(o ++ (xs ++ ys)).Perm T
 l:So (o ++ xs)
 r:So (o ++ ys)
structure Res (T r:List Keyed):Prop where
 perm:r.Perm T
 so:So r
variable {c o xs ys:List Keyed}
theorem MI.movL {T:List Keyed} (h:MI T o (c ++ xs) ys) (hc:le' c ys):MI T (o ++ c) xs ys:=by
 have h1:=h.l
 have h2:=h.r
 rw [zo,zo,le_app] at h1
 rw [zo] at h2
 refine ⟨by simpa [append_assoc] using h.perm,by simpa [append_assoc] using h.l,?_⟩
 rw [zo,zo,zcB]
 exact ⟨⟨h1.1,h1.2.1.1,h1.2.2.1⟩,h2.2.1,h2.2.2,hc⟩
theorem MI.swap {T:List Keyed} (h:MI T o xs ys):MI T o ys xs:=
 ⟨(List.Perm.append_left o List.perm_append_comm).trans h.perm,h.r,h.l⟩
theorem MI.movR {T:List Keyed} (h:MI T o xs (c ++ ys)) (hc:le' c xs):MI T (o ++ c) xs ys:=(h.swap.movL hc).swap
theorem MI.fin {T:List Keyed} (h:MI T o xs ys) (hc:le' xs ys):Res T (o ++ (xs ++ ys)):=by
 have h1:=h.l
 have h2:=h.r
 rw [zo] at h1 h2
 refine ⟨h.perm,?_⟩
 rw [zo,zo,le_app]
 exact ⟨h1.1,⟨h1.2.1,h2.2.1,hc⟩,h1.2.2,h2.2.2⟩
structure MJ (T o xs ys:List Keyed):Prop where
 perm:((xs ++ ys) ++ o).Perm T
 l:So (xs ++ o)
 r:So (ys ++ o)
theorem MJ.swap {T:List Keyed} (h:MJ T o xs ys):MJ T o ys xs:=
 ⟨(List.Perm.append_right o List.perm_append_comm).trans h.perm,h.r,h.l⟩
theorem MJ.movR {T:List Keyed} (h:MJ T o xs (ys ++ c)) (hc:le' xs c):MJ T (c ++ o) xs ys:=by
 have h1:=h.l
 have h2:=h.r
 rw [zo] at h1
 rw [zo,zo,zcB] at h2
 refine ⟨by simpa [append_assoc] using h.perm,?_,by simpa [append_assoc] using h.r⟩
 rw [zo,zo,le_app]
 exact ⟨h1.1,⟨h2.1.2.1,h2.2.1,h2.2.2.2⟩,hc,h1.2.2⟩
theorem MJ.movL {T:List Keyed} (h:MJ T o (xs ++ c) ys) (hc:le' ys c):MJ T (c ++ o) xs ys:=(h.swap.movR hc).swap
theorem MJ.fin {T:List Keyed} (h:MJ T o xs ys) (hc:le' xs ys):Res T ((xs ++ ys) ++ o):=by
 have h1:=h.l
 have h2:=h.r
 rw [zo] at h1 h2
 refine ⟨h.perm,?_⟩
 rw [zo,zo,zcB]
 exact ⟨⟨h1.1,h2.1,hc⟩,h1.2.1,h1.2.2,h2.2.2⟩
theorem zbv (h:So l) (n:Nat):So (l.drop n):=h.sublist (List.drop_sublist _ _)
theorem zbu (h:So l) (n:Nat):So (l.take n):=h.sublist (List.take_sublist _ _)
theorem zib (h:So l) (hn:n < l.length):∀ y ∈ l.drop n,kof l[n]<=kof y:=by
 intro y hy
 rw [drop_eq_getElem_cons hn] at hy
 rcases mem_cons.mp hy with rfl | hy
 ·exact Int.le_refl _
 ·have:=zbv h n
  rw [drop_eq_getElem_cons hn] at this
  exact List.rel_of_pairwise_cons this hy
theorem zia (h:So l) (hn:n < l.length):∀ y ∈ l.take (n + 1),kof y<=kof l[n]:=by
 intro y hy
 rw [List.take_succ_eq_append_getElem hn] at hy
 rcases mem_append.mp hy with hy | hy
 ·have:=zbu h (n + 1)
  rw [List.take_succ_eq_append_getElem hn] at this
  exact (List.pairwise_append.mp this).2.2 y hy _ (by simp)
 ·simp at hy;subst hy;exact Int.le_refl _
theorem zcR (a:Array Keyed) (i:Nat):(a.extract i).toList = a.toList.drop i:=by
 rw [Array.toList_extract,extract_eq_take_drop];exact take_of_length_le (by simp)
theorem ext2 (a:Array Keyed) (i k:Nat):(a.extract i (i + k)).toList = (a.toList.drop i).take k:=by
 rw [Array.toList_extract,extract_eq_take_drop];congr 1;omega
def Same (st st':SortSt):Prop:=kindOf st' = kindOf st/\arrOf st' = arrOf st/\pendingOf st' = pendingOf st/\failedOf st' = failedOf st
theorem Same.slf (st:SortSt):Same st st:=⟨rfl,rfl,rfl,rfl⟩
structure MC (a b:Array Keyed):Prop where
 ia:∀ p ∈ a.toList,IK p
 ib:∀ p ∈ b.toList,IK p
 sa:So a.toList
 sb:So b.toList
 na:0 < a.toList.length
 nb:0 < b.toList.length
 first:∀ y ∈ a.toList,kof (b.toList[0]'nb)<=kof y
 last:∀ y ∈ b.toList,kof y<=kof (a.toList[a.toList.length - 1]'(by omega))
noncomputable abbrev TT (a b:Array Keyed):List Keyed:=a.toList ++ b.toList
noncomputable abbrev ML (a b:Array Keyed) (o:List Keyed) (i j:Nat):Prop:=MI (TT a b) o (a.toList.drop i) (b.toList.drop j)
variable {out:Array Keyed} {j:Nat}
section
variable {a b:Array Keyed} {k:Nat}
theorem ML.chA (h:ML a b o i j) (hc:le' ((a.toList.drop i).take k) (b.toList.drop j)):ML a b (o ++ (a.toList.drop i).take k) (i + k) j:=by
 unfold ML at h ⊢
 rw [← take_append_drop k (a.toList.drop i),drop_drop] at h
 exact h.movL hc
theorem ML.chB (h:ML a b o i j) (hc:le' ((b.toList.drop j).take k) (a.toList.drop i)):ML a b (o ++ (b.toList.drop j).take k) i (j + k):=by
 unfold ML at h ⊢
 rw [← take_append_drop k (b.toList.drop j),drop_drop] at h
 exact h.movR hc
theorem take1 (h:l[i]? = some p):(l.drop i).take 1 = [p]:=by
 obtain ⟨hi,rfl⟩:=List.getElem?_eq_some_iff.mp h
 rw [drop_eq_getElem_cons hi];rfl
theorem ML.psA (h:ML a b o i j) (hp:a.toList[i]? = some p) (hc:∀ y ∈ b.toList.drop j,kof p<=kof y):ML a b (o ++ [p]) (i + 1) j:=by
 have:=h.chA (k:=1) (by rw [take1 hp];intro x hx;simp at hx;subst hx;exact hc)
 rwa [take1 hp] at this
theorem ML.psB (h:ML a b o i j) (hp:b.toList[j]? = some p) (hc:∀ y ∈ a.toList.drop i,kof p<=kof y):ML a b (o ++ [p]) i (j + 1):=by
 have:=h.chB (k:=1) (by rw [take1 hp];intro x hx;simp at hx;subst hx;exact hc)
 rwa [take1 hp] at this
theorem ML.doneB (h:ML a b out.toList i j) (hj:j = b.size):Res (TT a b) (out ++ a.extract i ++ b.extract j).toList:=by
 have:b.toList.drop j = []:=drop_eq_nil_of_le (by simp [hj])
 rw [Array.toList_append,Array.toList_append,zcR,zcR,append_assoc]
 exact MI.fin h (by rw [this];exact le_nil)
theorem ML.doneA (h:ML a b out.toList i j) (hi:i = a.size):Res (TT a b) (out ++ a.extract i ++ b.extract j).toList:=by
 have:a.toList.drop i = []:=drop_eq_nil_of_le (by simp [hi])
 rw [Array.toList_append,Array.toList_append,zcR,zcR,append_assoc]
 exact MI.fin h (by rw [this];exact nil_le)
theorem ML.lastA (h:ML a b out.toList i j) (c:MC a b) (hi:i + 1 = a.size):Res (TT a b) (out ++ b.extract j ++ a.extract i).toList:=by
 rw [Array.toList_append,Array.toList_append,zcR,zcR,append_assoc]
 refine MI.fin h.swap (fun x hx y hy=>?_)
 have hl:=c.last x (mem_of_mem_drop hx)
 rw [drop_eq_getElem_cons (by simp;omega)] at hy
 have:a.toList.drop (i + 1) = []:=drop_eq_nil_of_le (by simp;omega)
 rw [this] at hy
 simp at hy;subst hy
 have e:a.toList.length - 1 = i:=by simp;omega
 simp only [e] at hl
 simpa using hl
theorem at' (h:i < l.length):∃ p,l[i]? = some p/\p ∈ l/\p ∈ l.drop i/\(So l->∀ y ∈ l.drop i,kof p<=kof y):=by
 refine ⟨l[i],getElem?_pos ..,getElem_mem _,?_,fun hs=>zib hs h⟩
 rw [drop_eq_getElem_cons h];exact mem_cons_self
end
variable {st0:SortSt}
section
theorem zah {g:Nat} {Q:Unit->SortSt->Prop} (h0:Same st0 st) (h:∀ st',Same st0 st'->Q () st'):wpS (model prog w) A E s (zeT g) Q st:=by
 unfold zeT
 exact wpS_modify (h _ h0)
theorem zfJ {a b:Array Keyed} {Q:Array Keyed->SortSt->Prop} (hk:kindOf st = oneType') (c:MC a b)
 (h:∀ r st',Same st st'->Res (TT a b) r.toList->Q r st'):wpS (model prog w) A E s (zho a b) Q st:=by
 have ea:a.toList.length = a.size:=by simp
 have eb:b.toList.length = b.size:=by simp
 have na:=c.na
 have nb:=c.nb
 refine wpS_bind (wpS_lift (wpAny_rule ⟨rfl,?_⟩))
 obtain ⟨p0,hp0,hm0,_,_⟩:=at' nb
 have hf:∀ y ∈ a.toList,kof p0<=kof y:=by
  have:=c.first
  obtain ⟨_,e⟩:=List.getElem?_eq_some_iff.mp hp0
  rw [e] at this;exact this
 refine wpS_bind (zr hp0 ?_)
 have M0:ML a b (#[p0]:Array Keyed).toList 0 1:=by
  have:ML a b [] 0 0:=⟨by simp [TT],by simpa using c.sa,by simpa using c.sb⟩
  simpa using this.psB hp0 (by simpa using hf)
 dsimp only
 by_cases h1:1 = b.size
 ·rw [if_pos (by simpa using h1)]
  exact wpS_pure (h _ _ (Same.slf _) (M0.doneB h1))
 rw [if_neg (by simpa using h1)]
 by_cases h2:0 + 1 = a.size
 ·rw [if_pos (by simpa using h2)]
  exact wpS_pure (h _ _ (Same.slf _) (M0.lastA c h2))
 rw [if_neg (by simpa using h2)]
 refine wpS_bind (wpS_get ?_)
 refine wpS_bind (wpS_mono (wpS_forRange (I:=fun x cc st'=>Same st st'/\∃ o i j g,cc = (none,o,i,j,g)/\i + 1 < a.size/\j < b.size/\x + 1<=i + j/\ML a b o.toList i j)
  (Q:=fun cc st'=>Same st st'/\∃ r y,cc = (some r,y)/\Res (TT a b) r.toList) ?_ ?_ ⟨Same.slf _,_,_,_,_,rfl,by omega,by omega,by omega,M0⟩) ?_)
 ·rintro x cc st1 _ hx ⟨hS1,o,i,j,g,rfl,hi,hj,hij,hM⟩
  dsimp only
  refine wpS_bind (wpS_mono (wpS_forRange (I:=fun y cc st'=>Same st st'/\∃ o' i' j' ac bc,cc = (none,o',i',j',ac,bc)/\i' + 1 < a.size/\j' < b.size/\i + j + y<=i' + j'/\ML a b o'.toList i' j')
   (Q:=fun cc st'=>Same st st'/\∃ r o' i' j' ac bc,cc = (r,o',i',j',ac,bc)/\((∃ r',r = some r'/\Res (TT a b) r'.toList) \/
    (r = none/\i' + 1 < a.size/\j' < b.size/\i + j + 1<=i' + j'/\ML a b o'.toList i' j'))) ?_ ?_ ⟨hS1,_,_,_,_,_,rfl,hi,hj,by omega,hM⟩) ?_)
  ·rintro y cc st2 _ hy ⟨hS2,o',i',j',ac,bc,rfl,hi',hj',hij',hM'⟩
   dsimp only
   have hk2:kindOf st2 = oneType':=hS2.1.trans hk
   obtain ⟨p,hp,pm,pd,pl⟩:=at' (l:=b.toList) (i:=j') (by omega)
   obtain ⟨q,hq,qm,qd,ql⟩:=at' (l:=a.toList) (i:=i') (by omega)
   refine wpS_bind (zr hp (wpS_bind (zr hq (wpS_bind (zdv hk2 (c.ib _ pm) (c.ia _ qm) ?_)))))
   by_cases hlt:kof p < kof q
   ·simp only [hlt,decide_true,if_true]
    refine wpS_bind (zr hp ?_)
    have M2:ML a b (o'.push p).toList i' (j' + 1):=by
     rw [Array.toList_push]
     exact hM'.psB hp fun y hy=>Int.le_trans (Int.le_of_lt hlt) (ql c.sa y hy)
    by_cases h3:j' + 1 = b.size
    ·rw [if_pos (by simpa using h3)]
     exact wpS_pure ⟨hS2,_,_,_,_,_,_,rfl,.inl ⟨_,rfl,M2.doneB h3⟩⟩
    ·rw [if_neg (by simpa using h3)]
     split
     ·exact wpS_pure ⟨hS2,_,_,_,_,_,_,rfl,.inr ⟨rfl,hi',by omega,by omega,M2⟩⟩
     ·exact wpS_pure ⟨hS2,_,_,_,_,_,rfl,hi',by omega,by omega,M2⟩
   ·simp only [hlt,decide_false,Bool.false_eq_true,if_false]
    refine wpS_bind (zr hq ?_)
    have M2:ML a b (o'.push q).toList (i' + 1) j':=by
     rw [Array.toList_push]
     exact hM'.psA hq fun y hy=>Int.le_trans (Int.not_lt.mp hlt) (pl c.sb y hy)
    by_cases h3:i' + 1 + 1 = a.size
    ·rw [if_pos (by simpa using h3)]
     exact wpS_pure ⟨hS2,_,_,_,_,_,_,rfl,.inl ⟨_,rfl,M2.lastA c h3⟩⟩
    ·rw [if_neg (by simpa using h3)]
     split
     ·exact wpS_pure ⟨hS2,_,_,_,_,_,_,rfl,.inr ⟨rfl,by omega,by omega,by omega,M2⟩⟩
     ·exact wpS_pure ⟨hS2,_,_,_,_,_,rfl,by omega,by omega,by omega,M2⟩
  ·rintro cc st2 ⟨hS2,o',i',j',ac,bc,rfl,hi',hj',hij',hM'⟩
   exact ⟨hS2,_,_,_,_,_,_,rfl,.inr ⟨rfl,hi',hj',by omega,hM'⟩⟩
  ·rintro cc st2 ⟨hS2,r,o',i',j',ac,bc,rfl,hor⟩
   dsimp only
   rcases hor with ⟨r',rfl,hR⟩ | ⟨rfl,hi',hj',hij',hM'⟩
   ·exact wpS_pure ⟨hS2,_,_,rfl,hR⟩
   dsimp only
   refine wpS_bind (wpS_lift (wpAny_rule ⟨rfl,?_⟩))
   refine wpS_bind (wpS_mono (wpS_forRange (I:=fun y cc st'=>Same st st'/\∃ o'' i'' j'' g ac bc,cc = (none,o'',i'',j'',g,ac,bc)/\i'' + 1 < a.size/\j'' < b.size/\i' + j'<=i'' + j''/\ML a b o''.toList i'' j'')
    (Q:=fun cc st'=>Same st st'/\∃ r o'' i'' j'' g ac bc,cc = (r,o'',i'',j'',g,ac,bc)/\((∃ r',r = some r'/\Res (TT a b) r'.toList) \/
     (r = none/\i'' + 1 < a.size/\j'' < b.size/\i' + j'<=i'' + j''/\ML a b o''.toList i'' j''))) ?_ ?_ ⟨hS2,_,_,_,_,_,_,rfl,hi',hj',by omega,hM'⟩) ?_)
   ·clear hM hM' hi hj hi' hj' hij hij'
    rintro y cc st3 _ hy ⟨hS3,o3,i3,j3,g3,ac3,bc3,rfl,hi3,hj3,hij3,hM3⟩
    dsimp only
    obtain ⟨p,hp,pm,pd,pl⟩:=at' (l:=b.toList) (i:=j3) (by omega)
    by_cases hg:g3 > 1
    case' pos=>rw [if_pos hg]
    case' neg=>rw [if_neg hg]
    all_goals
     refine wpS_bind (zah hS3 fun st4 hS4=>?_)
     have hk4:kindOf st4 = oneType':=hS4.1.trans hk
     refine wpS_bind (zr hp (wpS_bind (zM (L:=a.toList.drop i3) hk4 (c.ib _ pm) (take_of_length_le (by simp)) (by simp) (fun x hx=>c.ia x (mem_of_mem_drop hx)) (zbv c.sa _) (by omega) fun k hkn g1 g2=>?_)))
     dsimp only
     have MA:ML a b (o3 ++ a.extract i3 (i3 + k)).toList (i3 + k) j3:=by
      rw [Array.toList_append,ext2]
      exact hM3.chA fun x hx y hy=>Int.le_trans (by simpa [bq] using g1 x hx) (pl c.sb y hy)
     have gA:∀ y ∈ a.toList.drop (i3 + k),kof p<=kof y:=by
      intro y hy
      have:=g2 y (by rw [drop_drop];exact hy)
      simp [bq] at this;omega
     by_cases hk0:k > 0
     case' pos=>
      rw [if_pos hk0]
      by_cases e1:i3 + k + 1 = a.size
      ·rw [if_pos (by simpa using e1)]
       exact wpS_pure ⟨hS4,_,_,_,_,_,_,_,rfl,.inl ⟨_,rfl,MA.lastA c e1⟩⟩
      rw [if_neg (by simpa using e1)]
      by_cases e2:i3 + k = a.size
      ·rw [if_pos (by simpa using e2)]
       exact wpS_pure ⟨hS4,_,_,_,_,_,_,_,rfl,.inl ⟨_,rfl,MA.doneA e2⟩⟩
      rw [if_neg (by simpa using e2)]
      have hi4:i3 + k + 1 < a.size:=by omega
      have hij4:i' + j'<=i3 + k + j3:=by omega
      clear g1 g2
      generalize o3 ++ a.extract i3 (i3 + k) = o4 at *
      generalize i3 + k = i4 at *
     case' neg=>
      rw [if_neg hk0]
      have hz:k = 0:=by omega
      subst hz
      rw [Nat.add_zero] at gA
      clear MA g1 g2
      have MA:=hM3
      have hi4:=hi3
      have hij4:=hij3
      generalize o3 = o4 at *
      generalize i3 = i4 at *
     all_goals
      refine wpS_bind (zr hp ?_)
      have M5:ML a b (o4.push p).toList i4 (j3 + 1):=by rw [Array.toList_push];exact MA.psB hp gA
      by_cases e3:j3 + 1 = b.size
      ·rw [if_pos (by simpa using e3)]
       exact wpS_pure ⟨hS4,_,_,_,_,_,_,_,rfl,.inl ⟨_,rfl,M5.doneB e3⟩⟩
      rw [if_neg (by simpa using e3)]
      obtain ⟨q,hq,qm,qd,ql⟩:=at' (l:=a.toList) (i:=i4) (by omega)
      refine wpS_bind (zr hq (wpS_bind (zM (L:=b.toList.drop (j3 + 1)) hk4 (c.ia _ qm) (take_of_length_le (by simp)) (by simp) (fun x hx=>c.ib x (mem_of_mem_drop hx)) (zbv c.sb _) (by omega) fun k' hkn' g1' g2'=>?_)))
      dsimp only
      have MB:ML a b (o4.push p ++ b.extract (j3 + 1) (j3 + 1 + k')).toList i4 (j3 + 1 + k'):=by
       rw [Array.toList_append,ext2]
       exact M5.chB fun x hx y hy=>Int.le_trans (by have:=g1' x hx;simp [bq] at this;omega) (ql c.sa y hy)
      have gB:∀ y ∈ b.toList.drop (j3 + 1 + k'),kof q<=kof y:=by
       intro y hy
       have:=g2' y (by rw [drop_drop];exact hy)
       simp [bq] at this;omega
      by_cases hk0':k' > 0
      case' pos=>
       rw [if_pos hk0']
       by_cases e4:j3 + 1 + k' = b.size
       ·rw [if_pos (by simpa using e4)]
        exact wpS_pure ⟨hS4,_,_,_,_,_,_,_,rfl,.inl ⟨_,rfl,MB.doneB e4⟩⟩
       rw [if_neg (by simpa using e4)]
       have hj6:j3 + 1 + k' < b.size:=by omega
       have hij6:i' + j'<=i4 + (j3 + 1 + k'):=by omega
       clear g1' g2'
       generalize o4.push p ++ b.extract (j3 + 1) (j3 + 1 + k') = o6 at *
       generalize j3 + 1 + k' = j6 at *
      case' neg=>
       rw [if_neg hk0']
       have hz:k' = 0:=by omega
       subst hz
       rw [Nat.add_zero] at gB
       clear MB g1' g2'
       have MB:=M5
       have hj6:j3 + 1 < b.size:=by omega
       have hij6:i' + j'<=i4 + (j3 + 1):=by omega
       generalize o4.push p = o6 at *
       generalize j3 + 1 = j6 at *
      all_goals
       refine wpS_bind (zr hq ?_)
       have M7:ML a b (o6.push q).toList (i4 + 1) j6:=by rw [Array.toList_push];exact MB.psA hq gB
       by_cases e5:i4 + 1 + 1 = a.size
       ·rw [if_pos (by simpa using e5)]
        exact wpS_pure ⟨hS4,_,_,_,_,_,_,_,rfl,.inl ⟨_,rfl,M7.lastA c e5⟩⟩
       rw [if_neg (by simpa using e5)]
       split
       ·exact wpS_pure ⟨hS4,_,_,_,_,_,_,_,rfl,.inr ⟨rfl,by omega,by omega,by omega,M7⟩⟩
       ·exact wpS_pure ⟨hS4,_,_,_,_,_,_,rfl,by omega,by omega,by omega,M7⟩
   ·rintro cc st3 ⟨hS3,o3,i3,j3,g3,ac3,bc3,rfl,hi3,hj3,hij3,hM3⟩
    exact ⟨hS3,_,_,_,_,_,_,_,rfl,.inr ⟨rfl,hi3,hj3,hij3,hM3⟩⟩
   ·rintro cc st3 ⟨hS3,r,o3,i3,j3,g3,ac3,bc3,rfl,hor⟩
    dsimp only
    rcases hor with ⟨r',rfl,hR⟩ | ⟨rfl,hi3,hj3,hij3,hM3⟩
    ·exact wpS_pure ⟨hS3,_,_,rfl,hR⟩
    ·refine wpS_bind (zah hS3 fun st4 hS4=>?_)
     exact wpS_pure ⟨hS4,_,_,_,_,rfl,hi3,hj3,by omega,hM3⟩
 ·rintro cc st1 ⟨hS1,o,i,j,g,rfl,hi,hj,hij,hM⟩
  omega
 ·rintro cc st1 ⟨hS1,r,y,rfl,hR⟩
  exact wpS_pure (h _ _ hS1 hR)
end
noncomputable abbrev MH (a b:Array Keyed) (o:List Keyed) (i j:Nat):Prop:=MJ (TT a b) o (a.toList.take i) (b.toList.take j)
section
variable {a b:Array Keyed} {k:Nat}
theorem zf9 (hk:k<=i):l.take i = l.take k ++ (l.take i).drop k:=by
 have:=take_append_drop k (l.take i)
 rw [take_take,Nat.min_eq_left hk] at this
 exact this.symm
theorem MH.chA (h:MH a b o i j) (hk:k<=i) (hc:le' (b.toList.take j) ((a.toList.take i).drop k)):MH a b ((a.toList.take i).drop k ++ o) k j:=by
 unfold MH at h ⊢
 rw [zf9 hk] at h
 exact h.movL hc
theorem MH.chB (h:MH a b o i j) (hk:k<=j) (hc:le' (a.toList.take i) ((b.toList.take j).drop k)):MH a b ((b.toList.take j).drop k ++ o) i k:=by
 unfold MH at h ⊢
 rw [zf9 hk] at h
 exact h.movR hc
theorem zdA (hi:0 < i) (h:l[i - 1]? = some p):(l.take i).drop (i - 1) = [p]:=by
 rw [drop_take,show i - (i - 1) = 1 by omega];exact take1 h
theorem MH.psA (h:MH a b o i j) (hi:0 < i) (hp:a.toList[i - 1]? = some p) (hc:∀ y ∈ b.toList.take j,kof y<=kof p):MH a b (p :: o) (i - 1) j:=by
 have:=h.chA (k:=i - 1) (by omega) (by rw [zdA hi hp];intro x hx y hy;simp at hy;subst hy;exact hc x hx)
 rwa [zdA hi hp] at this
theorem MH.psB (h:MH a b o i j) (hj:0 < j) (hp:b.toList[j - 1]? = some p) (hc:∀ y ∈ a.toList.take i,kof y<=kof p):MH a b (p :: o) i (j - 1):=by
 have:=h.chB (k:=j - 1) (by omega) (by rw [zdA hj hp];intro x hx y hy;simp at hy;subst hy;exact hc x hx)
 rwa [zdA hj hp] at this
theorem zcS (a:Array Keyed) (i:Nat):(a.extract 0 i).toList = a.toList.take i:=by
 rw [Array.toList_extract,extract_eq_take_drop];simp
theorem ext3 (a:Array Keyed) (k i:Nat):(a.extract k i).toList = (a.toList.take i).drop k:=by
 rw [Array.toList_extract,extract_eq_take_drop,drop_take]
theorem MH.doneA (h:MH a b out.toList.reverse i j) (hi:i = 0):Res (TT a b) (a.extract 0 i ++ b.extract 0 j ++ out.reverse).toList:=by
 rw [Array.toList_append,Array.toList_append,zcS,zcS,Array.toList_reverse]
 exact MJ.fin h (by subst hi;exact nil_le)
theorem MH.doneB (h:MH a b out.toList.reverse i j) (hj:j = 0):Res (TT a b) (a.extract 0 i ++ b.extract 0 j ++ out.reverse).toList:=by
 rw [Array.toList_append,Array.toList_append,zcS,zcS,Array.toList_reverse]
 exact MJ.fin h (by subst hj;exact le_nil)
theorem MH.firstB (h:MH a b out.toList.reverse i j) (c:MC a b) (hj:j = 1):Res (TT a b) (b.extract 0 j ++ a.extract 0 i ++ out.reverse).toList:=by
 rw [Array.toList_append,Array.toList_append,zcS,zcS,Array.toList_reverse]
 refine MJ.fin h.swap (fun x hx y hy=>?_)
 subst hj
 have nb:=c.nb
 rw [List.take_succ_eq_append_getElem nb] at hx
 simp at hx;subst hx
 have:=c.first y (mem_of_mem_take hy)
 simpa using this
theorem at2 (h:i - 1 < l.length) (hi:0 < i):∃ p,l[i - 1]? = some p/\p ∈ l/\(So l->∀ y ∈ l.take i,kof y<=kof p):=by
 refine ⟨l[i - 1],getElem?_pos ..,getElem_mem _,fun hs=>?_⟩
 have:=zia hs h
 rwa [show i - 1 + 1 = i by omega] at this
end
section
theorem zfK {a b:Array Keyed} {Q:Array Keyed->SortSt->Prop} (hk:kindOf st = oneType') (c:MC a b)
 (h:∀ r st',Same st st'->Res (TT a b) r.toList->Q r st'):wpS (model prog w) A E s (zhp a b) Q st:=by
 have ea:a.toList.length = a.size:=by simp
 have eb:b.toList.length = b.size:=by simp
 have na:=c.na
 have nb:=c.nb
 refine wpS_bind (wpS_lift (wpAny_rule ⟨rfl,?_⟩))
 obtain ⟨p0,hp0,hm0,_⟩:=at2 (l:=a.toList) (i:=a.size) (by omega) (by omega)
 have hf:∀ y ∈ b.toList,kof y<=kof p0:=by
  have:=c.last
  obtain ⟨_,e⟩:=List.getElem?_eq_some_iff.mp hp0
  simp only [ea,e] at this;exact this
 refine wpS_bind (zr hp0 ?_)
 have M0:MH a b (#[p0]:Array Keyed).toList.reverse (a.size - 1) b.size:=by
  have ta:a.toList.take a.size = a.toList:=take_of_length_le (by omega)
  have tb:b.toList.take b.size = b.toList:=take_of_length_le (by omega)
  have:MH a b [] a.size b.size:=⟨by rw [ta,tb,append_nil],by rw [ta,append_nil];exact c.sa,by rw [tb,append_nil];exact c.sb⟩
  exact this.psA (by omega) hp0 (by rw [tb];exact hf)
 dsimp only
 by_cases h1:a.size - 1 = 0
 ·rw [if_pos (by simpa using h1)]
  exact wpS_pure (h _ _ (Same.slf _) (M0.doneA h1))
 rw [if_neg (by simpa using h1)]
 by_cases h2:b.size = 1
 ·rw [if_pos (by simpa using h2)]
  exact wpS_pure (h _ _ (Same.slf _) (M0.firstB c h2))
 rw [if_neg (by simpa using h2)]
 refine wpS_bind (wpS_get ?_)
 refine wpS_bind (wpS_mono (wpS_forRange (I:=fun x cc st'=>Same st st'/\∃ i j o g,cc = (none,i,j,o,g)/\0 < i/\i<=a.size/\1 < j/\j<=b.size/\x + (i + j) + 1<=a.size + b.size/\MH a b o.toList.reverse i j)
  (Q:=fun cc st'=>Same st st'/\∃ r y,cc = (some r,y)/\Res (TT a b) r.toList) ?_ ?_ ⟨Same.slf _,_,_,_,_,rfl,by omega,by omega,by omega,by omega,by omega,M0⟩) ?_)
 ·rintro x cc st1 _ hx ⟨hS1,i,j,o,g,rfl,hi,hia,hj,hjb,hij,hM⟩
  dsimp only
  refine wpS_bind (wpS_mono (wpS_forRange (I:=fun y cc st'=>Same st st'/\∃ i' j' o' ac bc,cc = (none,i',j',o',ac,bc)/\0 < i'/\i'<=a.size/\1 < j'/\j'<=b.size/\i' + j' + y<=i + j/\MH a b o'.toList.reverse i' j')
   (Q:=fun cc st'=>Same st st'/\∃ r i' j' o' ac bc,cc = (r,i',j',o',ac,bc)/\((∃ r',r = some r'/\Res (TT a b) r'.toList) \/
    (r = none/\0 < i'/\i'<=a.size/\1 < j'/\j'<=b.size/\i' + j' + 1<=i + j/\MH a b o'.toList.reverse i' j'))) ?_ ?_ ⟨hS1,_,_,_,_,_,rfl,hi,hia,hj,hjb,by omega,hM⟩) ?_)
  ·rintro y cc st2 _ hy ⟨hS2,i',j',o',ac,bc,rfl,hi',hia',hj',hjb',hij',hM'⟩
   dsimp only
   have hk2:kindOf st2 = oneType':=hS2.1.trans hk
   obtain ⟨p,hp,pm,pl⟩:=at2 (l:=b.toList) (i:=j') (by omega) (by omega)
   obtain ⟨q,hq,qm,ql⟩:=at2 (l:=a.toList) (i:=i') (by omega) (by omega)
   refine wpS_bind (zr hp (wpS_bind (zr hq (wpS_bind (zdv hk2 (c.ib _ pm) (c.ia _ qm) ?_)))))
   by_cases hlt:kof p < kof q
   ·simp only [hlt,decide_true,if_true]
    refine wpS_bind (zr hq ?_)
    have M2:MH a b (o'.push q).toList.reverse (i' - 1) j':=by
     rw [Array.toList_push,reverse_append]
     exact hM'.psA hi' hq fun y hy=>Int.le_trans (pl c.sb y hy) (Int.le_of_lt hlt)
    by_cases h3:i' - 1 = 0
    ·rw [if_pos (by simpa using h3)]
     exact wpS_pure ⟨hS2,_,_,_,_,_,_,rfl,.inl ⟨_,rfl,M2.doneA h3⟩⟩
    ·rw [if_neg (by simpa using h3)]
     split
     ·exact wpS_pure ⟨hS2,_,_,_,_,_,_,rfl,.inr ⟨rfl,by omega,by omega,by omega,by omega,by omega,M2⟩⟩
     ·exact wpS_pure ⟨hS2,_,_,_,_,_,rfl,by omega,by omega,by omega,by omega,by omega,M2⟩
   ·simp only [hlt,decide_false,Bool.false_eq_true,if_false]
    refine wpS_bind (zr hp ?_)
    have M2:MH a b (o'.push p).toList.reverse i' (j' - 1):=by
     rw [Array.toList_push,reverse_append]
     exact hM'.psB (by omega) hp fun y hy=>Int.le_trans (ql c.sa y hy) (Int.not_lt.mp hlt)
    by_cases h3:j' - 1 = 1
    ·rw [if_pos (by simpa using h3)]
     exact wpS_pure ⟨hS2,_,_,_,_,_,_,rfl,.inl ⟨_,rfl,M2.firstB c h3⟩⟩
    ·rw [if_neg (by simpa using h3)]
     split
     ·exact wpS_pure ⟨hS2,_,_,_,_,_,_,rfl,.inr ⟨rfl,by omega,by omega,by omega,by omega,by omega,M2⟩⟩
     ·exact wpS_pure ⟨hS2,_,_,_,_,_,rfl,by omega,by omega,by omega,by omega,by omega,M2⟩
  ·rintro cc st2 ⟨hS2,i',j',o',ac,bc,rfl,hi',hia',hj',hjb',hij',hM'⟩
   exact ⟨hS2,_,_,_,_,_,_,rfl,.inr ⟨rfl,hi',hia',hj',hjb',by omega,hM'⟩⟩
  ·rintro cc st2 ⟨hS2,r,i',j',o',ac,bc,rfl,hor⟩
   dsimp only
   rcases hor with ⟨r',rfl,hR⟩ | ⟨rfl,hi',hia',hj',hjb',hij',hM'⟩
   ·exact wpS_pure ⟨hS2,_,_,rfl,hR⟩
   dsimp only
   refine wpS_bind (wpS_lift (wpAny_rule ⟨rfl,?_⟩))
   refine wpS_bind (wpS_mono (wpS_forRange (I:=fun y cc st'=>Same st st'/\∃ i'' j'' o'' g ac bc,cc = (none,i'',j'',o'',g,ac,bc)/\0 < i''/\i''<=a.size/\1 < j''/\j''<=b.size/\i'' + j''<=i' + j'/\MH a b o''.toList.reverse i'' j'')
    (Q:=fun cc st'=>Same st st'/\∃ r i'' j'' o'' g ac bc,cc = (r,i'',j'',o'',g,ac,bc)/\((∃ r',r = some r'/\Res (TT a b) r'.toList) \/
     (r = none/\0 < i''/\i''<=a.size/\1 < j''/\j''<=b.size/\i'' + j''<=i' + j'/\MH a b o''.toList.reverse i'' j''))) ?_ ?_ ⟨hS2,_,_,_,_,_,_,rfl,hi',hia',hj',hjb',by omega,hM'⟩) ?_)
   ·rintro y cc st3 _ hy ⟨hS3,i3,j3,o3,g3,ac3,bc3,rfl,hi3,hia3,hj3,hjb3,hij3,hM3⟩
    clear hM hM' hi hj hi' hj' hij hij' hia hjb hia' hjb'
    dsimp only
    obtain ⟨p,hp,pm,pl⟩:=at2 (l:=b.toList) (i:=j3) (by omega) (by omega)
    by_cases hg:g3 > 1
    case' pos=>rw [if_pos hg]
    case' neg=>rw [if_neg hg]
    all_goals
     refine wpS_bind (zah hS3 fun st4 hS4=>?_)
     have hk4:kindOf st4 = oneType':=hS4.1.trans hk
     refine wpS_bind (zr hp (wpS_bind (zM (L:=a.toList.take i3) hk4 (c.ib _ pm) (by simp) (by simp;omega) (fun x hx=>c.ia x (mem_of_mem_take hx)) (zbu c.sa _) (by omega) fun k hkn g1 g2=>?_)))
     dsimp only
     have MA:MH a b (o3 ++ (a.extract k i3).reverse).toList.reverse k j3:=by
      rw [Array.toList_append,Array.toList_reverse,reverse_append,List.reverse_reverse,ext3]
      refine hM3.chA hkn fun x hx y hy=>Int.le_trans (pl c.sb x hx) ?_
      have:=g2 y hy
      simp [bq] at this;omega
     have gA:∀ y ∈ a.toList.take k,kof y<=kof p:=by
      intro y hy
      have:=g1 y (by rw [take_take,Nat.min_eq_left hkn];exact hy)
      simpa [bq] using this
     by_cases hk0:i3 - k > 0
     case' pos=>
      rw [if_pos hk0]
      by_cases e1:k = 0
      ·rw [if_pos (by simpa using e1)]
       exact wpS_pure ⟨hS4,_,_,_,_,_,_,_,rfl,.inl ⟨_,rfl,MA.doneA e1⟩⟩
      rw [if_neg (by simpa using e1)]
      have hi4:0 < k:=by omega
      have hia4:k<=a.size:=by omega
      have hij4:k + j3<=i' + j':=by omega
      clear g1 g2
      generalize o3 ++ (a.extract k i3).reverse = o4 at *
      generalize i3 - k = kk at *
      generalize k = i4 at *
     case' neg=>
      rw [if_neg hk0]
      have hz:k = i3:=by omega
      subst hz
      clear MA g1 g2
      have MA:=hM3
      have hi4:=hi3
      have hia4:=hia3
      have hij4:=hij3
      generalize o3 = o4 at *
      generalize k - k = kk at *
      generalize k = i4 at *
     all_goals
      refine wpS_bind (zr hp ?_)
      have M5:MH a b (o4.push p).toList.reverse i4 (j3 - 1):=by
       rw [Array.toList_push,reverse_append];exact MA.psB (by omega) hp gA
      by_cases e3:j3 - 1 = 1
      ·rw [if_pos (by simpa using e3)]
       exact wpS_pure ⟨hS4,_,_,_,_,_,_,_,rfl,.inl ⟨_,rfl,M5.firstB c e3⟩⟩
      rw [if_neg (by simpa using e3)]
      obtain ⟨q,hq,qm,ql⟩:=at2 (l:=a.toList) (i:=i4) (by omega) (by omega)
      refine wpS_bind (zr hq (wpS_bind (zM (L:=b.toList.take (j3 - 1)) hk4 (c.ia _ qm) (by simp) (by simp;omega) (fun x hx=>c.ib x (mem_of_mem_take hx)) (zbu c.sb _) (by omega) fun k' hkn' g1' g2'=>?_)))
      dsimp only
      have MB:MH a b (o4.push p ++ (b.extract k' (j3 - 1)).reverse).toList.reverse i4 k':=by
       rw [Array.toList_append,Array.toList_reverse,reverse_append,List.reverse_reverse,ext3]
       refine M5.chB hkn' fun x hx y hy=>Int.le_trans (ql c.sa x hx) ?_
       have:=g2' y hy
       simp [bq] at this;omega
      have gB:∀ y ∈ b.toList.take k',kof y<=kof q:=by
       intro y hy
       have:=g1' y (by rw [take_take,Nat.min_eq_left hkn'];exact hy)
       simp [bq] at this;omega
      by_cases hk0':j3 - 1 - k' > 0
      case' pos=>
       rw [if_pos hk0']
       by_cases e4:k' = 1
       ·rw [if_pos (by simpa using e4)]
        exact wpS_pure ⟨hS4,_,_,_,_,_,_,_,rfl,.inl ⟨_,rfl,MB.firstB c e4⟩⟩
       rw [if_neg (by simpa using e4)]
       by_cases e5:k' = 0
       ·rw [if_pos (by simpa using e5)]
        exact wpS_pure ⟨hS4,_,_,_,_,_,_,_,rfl,.inl ⟨_,rfl,MB.doneB e5⟩⟩
       rw [if_neg (by simpa using e5)]
       have hj6:1 < k':=by omega
       have hjb6:k'<=b.size:=by omega
       have hij6:i4 + k'<=i' + j':=by omega
       clear g1' g2'
       generalize o4.push p ++ (b.extract k' (j3 - 1)).reverse = o6 at *
       generalize j3 - 1 - k' = kk' at *
       generalize k' = j6 at *
      case' neg=>
       rw [if_neg hk0']
       have hz:k' = j3 - 1:=by omega
       subst hz
       clear MB g1' g2'
       have MB:=M5
       have hj6:1 < j3 - 1:=by omega
       have hjb6:j3 - 1<=b.size:=by omega
       have hij6:i4 + (j3 - 1)<=i' + j':=by omega
       generalize o4.push p = o6 at *
       generalize j3 - 1 - (j3 - 1) = kk' at *
       generalize j3 - 1 = j6 at *
      all_goals
       refine wpS_bind (zr hq ?_)
       have M7:MH a b (o6.push q).toList.reverse (i4 - 1) j6:=by
        rw [Array.toList_push,reverse_append];exact MB.psA (by omega) hq gB
       by_cases e5:i4 - 1 = 0
       ·rw [if_pos (by simpa using e5)]
        exact wpS_pure ⟨hS4,_,_,_,_,_,_,_,rfl,.inl ⟨_,rfl,M7.doneA e5⟩⟩
       rw [if_neg (by simpa using e5)]
       split
       ·exact wpS_pure ⟨hS4,_,_,_,_,_,_,_,rfl,.inr ⟨rfl,by omega,by omega,by omega,by omega,by omega,M7⟩⟩
       ·exact wpS_pure ⟨hS4,_,_,_,_,_,_,rfl,by omega,by omega,by omega,by omega,by omega,M7⟩
   ·rintro cc st3 ⟨hS3,i3,j3,o3,g3,ac3,bc3,rfl,hi3,hia3,hj3,hjb3,hij3,hM3⟩
    exact ⟨hS3,_,_,_,_,_,_,_,rfl,.inr ⟨rfl,hi3,hia3,hj3,hjb3,hij3,hM3⟩⟩
   ·rintro cc st3 ⟨hS3,r,i3,j3,o3,g3,ac3,bc3,rfl,hor⟩
    dsimp only
    rcases hor with ⟨r',rfl,hR⟩ | ⟨rfl,hi3,hia3,hj3,hjb3,hij3,hM3⟩
    ·exact wpS_pure ⟨hS3,_,_,rfl,hR⟩
    ·refine wpS_bind (zah hS3 fun st4 hS4=>?_)
     exact wpS_pure ⟨hS4,_,_,_,_,rfl,hi3,hia3,hj3,hjb3,by omega,hM3⟩
 ·rintro cc st1 ⟨hS1,i,j,o,g,rfl,hi,hia,hj,hjb,hij,hM⟩
  omega
 ·rintro cc st1 ⟨hS1,r,y,rfl,hR⟩
  exact wpS_pure (h _ _ hS1 hR)
end
theorem zd2 {sa:Nat}:∀ (m:List Keyed) (n:Nat) (P X S:List Keyed) (arr:Array Keyed),arr.toList = P ++ (X ++ S)->P.length = sa + n->X.length = m.length->
  ((m.zipIdx n).foldl (fun a x=>match x with | (p,j)=>a.setIfInBounds (sa + j) p) arr).toList = P ++ (m ++ S)
 | [],n,P,X,S,arr,h,_,hX=>by
  have:X = []:=List.eq_nil_of_length_eq_zero hX
  subst this;exact h
 | p :: m,n,P,[],S,arr,h,hP,hX=>by simp at hX
 | p :: m,n,P,x :: X,S,arr,h,hP,hX=>by
  rw [List.zipIdx_cons,List.foldl_cons]
  have:=zd2 (sa:=sa) m (n + 1) (P ++ [p]) X S (arr.setIfInBounds (sa + n) p) (by
   rw [Array.toList_setIfInBounds,h,← hP,List.set_append_right _ _ (Q3 _),Nat.sub_self]
   simp) (by simp;omega) (by simpa using hX)
  rw [this];simp
variable {P S:List Keyed}
theorem zdT {A:List Keyed} (h:l = P ++ (A ++ S)):(l.drop P.length).take A.length = A:=by
 subst h;simp
variable {X Y:List Keyed}
theorem le_trans' (h1:∀ x ∈ X,kof x<=kof p) (h2:∀ y ∈ Y,kof p<=kof y):le' X Y:=fun x hx y hy=>Int.le_trans (h1 x hx) (h2 y hy)
theorem zdP (h:So l) (k:Nat):So (l.take k)/\So (l.drop k)/\le' (l.take k) (l.drop k):=by
 rw [← zo,take_append_drop];exact h
variable {Z:List Keyed}
theorem ziH (h:le' X Y) (hp:Z.Perm Y):le' X Z:=fun x hx y hy=>h x hx y (hp.mem_iff.mp hy)
theorem zis (h:le' X Y) (hp:Z.Perm X):le' Z Y:=fun x hx y hy=>h x (hp.mem_iff.mp hx) y hy
section
theorem zhX {σ:Type} {M:Model} {a:σ} {Q:PUnit->σ->Prop} {st:σ} (h:Q ⟨⟩ a):wpS M A E s (set a:StateT σ Sem PUnit) Q st:=by
 unfold wpS;rw [StateT.run_set];exact Qe ⟨rfl,h⟩
theorem zfL {sa na pa sb nb pb:Nat} {Q:Bool->SortSt->Prop} (hk:kindOf st = oneType') (hf:failedOf st = none)
 (hp1:(pendingOf st)[i]? = some (sa,na,pa)) (hp2:(pendingOf st)[i + 1]? = some (sb,nb,pb)) (hal:(arrOf st).toList = P ++ (X ++ (Y ++ S)))
 (lP:P.length = sa) (lX:X.length = na) (lY:Y.length = nb) (hsb:sb = sa + na) (pX:0 < na) (pY:0 < nb) (hI:∀ p ∈ (arrOf st).toList,IK p) (sX:So X) (sY:So Y)
 (h:∀ st' R,kindOf st' = oneType'->failedOf st' = none->pendingOf st' = ((pendingOf st).setIfInBounds i (sa,na + nb,pa)).eraseIdxIfInBounds (i + 1)->
 (arrOf st').toList = P ++ (R ++ S)->R.Perm (X ++ Y)->So R->Q true st'):wpS (model prog w) A E s (mergeAt' i) Q st:=by
 have hIX:∀ p ∈ X,IK p:=fun p hp=>hI p (by rw [hal];simp [hp])
 have hIY:∀ p ∈ Y,IK p:=fun p hp=>hI p (by rw [hal];simp [hp])
 have segX:((arrOf st).toList.drop sa).take na = X:=by rw [← lP,← lX];exact zdT hal
 have hal2:(arrOf st).toList = (P ++ X) ++ (Y ++ S):=by rw [hal,append_assoc]
 have segY:((arrOf st).toList.drop sb).take nb = Y:=by
  have:(P ++ X).length = sb:=by rw [Qm,lP,lX,hsb]
  rw [← this,← lY];exact zdT hal2
 have plain:le' X Y->Q true (setPending st (((pendingOf st).setIfInBounds i (sa,na + nb,pa)).eraseIdxIfInBounds (i + 1))):=fun hl=>
  h _ (X ++ Y) hk hf rfl (by rw [append_assoc];exact hal) (List.Perm.refl _) (zo.mpr ⟨sX,sY,hl⟩)
 obtain ⟨y0,hy0,y0m,y0d,y0l⟩:=at' (l:=Y) (i:=0) (by omega)
 obtain ⟨x1,hx1,x1m,x1l⟩:=at2 (l:=X) (i:=na) (by omega) (by omega)
 have x1l':∀ y ∈ X,kof y<=kof x1:=by
  have:=x1l sX;rwa [take_of_length_le (by omega)] at this
 have y0l':∀ y ∈ Y,kof y0<=kof y:=by simpa using y0l sY
 have aty:(arrOf st).toList[sb]? = some y0:=by
  rw [← segY,getElem?_take,if_pos pY,getElem?_drop] at hy0;exact hy0
 have atx:(arrOf st).toList[sa + na - 1]? = some x1:=by
  rw [← segX,getElem?_take,if_pos (by omega),getElem?_drop] at hx1
  rw [← hx1];congr 1;omega
 refine wpS_bind (wpS_get ?_)
 rw [hp1,hp2]
 dsimp only
 refine wpS_bind (zhX ?_)
 refine wpS_bind (zr aty (wpS_bind (zM (L:=X) hk (hIY _ y0m) segX lX hIX sX (by omega) fun k hkn g1 g2=>?_)))
 dsimp only
 have xk1:∀ x ∈ X.take k,kof x<=kof y0:=fun x hx=>by simpa [bq] using g1 x hx
 have xk2:∀ x ∈ X.drop k,kof y0<=kof x:=fun x hx=>by have:=g2 x hx;simp [bq] at this;omega
 by_cases h1:na - k = 0
 ·rw [if_pos (by simpa using h1)]
  refine wpS_pure (plain (le_trans' ?_ y0l'))
  rwa [take_of_length_le (by omega)] at xk1
 rw [if_neg (by simpa using h1)]
 rw [show sa + k + (na - k) - 1 = sa + na - 1 by omega]
 refine wpS_bind (zr atx (wpS_bind (zM (L:=Y) hk (hIX _ x1m) segY lY hIY sY (by omega) fun k' hkn' g1' g2'=>?_)))
 dsimp only
 have yk1:∀ x ∈ Y.take k',kof x<=kof x1:=fun x hx=>by have:=g1' x hx;simp [bq] at this;omega
 have yk2:∀ x ∈ Y.drop k',kof x1<=kof x:=fun x hx=>by have:=g2' x hx;simp [bq] at this;omega
 by_cases h2:k' = 0
 ·rw [if_pos (by simpa using h2)]
  refine wpS_pure (plain (le_trans' x1l' ?_))
  rw [h2] at yk2;simpa using yk2
 rw [if_neg (by simpa using h2)]
 have eX:((arrOf st).extract (sa + k) sb).toList = X.drop k:=by
  rw [Array.toList_extract,extract_eq_take_drop,← segX,drop_take,drop_drop,hsb]
  congr 1;omega
 have eY:((arrOf st).extract sb (sb + k')).toList = Y.take k':=by
  rw [ext2,← segY,take_take,Nat.min_eq_left hkn']
 have c:MC ((arrOf st).extract (sa + k) sb) ((arrOf st).extract sb (sb + k')):=by
  constructor
  case na=>rw [eX,length_drop];omega
  case nb=>rw [eY,Qp];omega
  case ia=>rw [eX];exact fun p hp=>hIX p (mem_of_mem_drop hp)
  case ib=>rw [eY];exact fun p hp=>hIY p (mem_of_mem_take hp)
  case sa=>rw [eX];exact zbv sX _
  case sb=>rw [eY];exact zbu sY _
  case first=>
   intro y hy
   rw [eX] at hy
   have:((arrOf st).extract sb (sb + k')).toList[0]? = some y0:=by rw [eY,getElem?_take,if_pos (by omega)];exact hy0
   obtain ⟨_,e⟩:=List.getElem?_eq_some_iff.mp this
   rw [e];exact xk2 y hy
  case last=>
   intro y hy
   rw [eY] at hy
   have:((arrOf st).extract (sa + k) sb).toList[((arrOf st).extract (sa + k) sb).toList.length - 1]? = some x1:=by
    rw [eX,getElem?_drop,length_drop,← hx1];congr 1;omega
   obtain ⟨_,e⟩:=List.getElem?_eq_some_iff.mp this
   rw [e];exact yk1 y hy
 obtain ⟨sX1,sX2,sX3⟩:=zdP sX k
 obtain ⟨sY1,sY2,sY3⟩:=zdP sY k'
 have fin:∀ (r:Array Keyed) (st':SortSt),Same (setPending st (((pendingOf st).setIfInBounds i (sa,na + nb,pa)).eraseIdxIfInBounds (i + 1))) st'->
   Res (TT ((arrOf st).extract (sa + k) sb) ((arrOf st).extract sb (sb + k'))) r.toList->
   Q true (setArr st' (List.foldl (fun a x=>match x with | (p,j)=>a.setIfInBounds (sa + k + j) p) (arrOf st') r.toList.zipIdx))/\failedOf st' = none:=by
  intro r st' hS hR
  unfold TT at hR
  rw [eX,eY] at hR
  refine ⟨h _ (X.take k ++ (r.toList ++ Y.drop k')) (hS.1.trans hk) (hS.2.2.2.trans hf) hS.2.2.1 ?_ ?_ ?_,hS.2.2.2.trans hf⟩
  ·have e:(arrOf st').toList = (P ++ X.take k) ++ ((X.drop k ++ Y.take k') ++ (Y.drop k' ++ S)):=by
    rw [hS.2.1]
    show (arrOf st).toList = _
    rw [hal]
    conv=>lhs;rw [← take_append_drop k X,← take_append_drop k' Y]
    simp only [append_assoc]
   have:=zd2 (sa:=sa + k) r.toList 0 _ _ _ _ e (by rw [Qm,Qp,lP];omega) hR.perm.length_eq.symm
   refine this.trans ?_
   simp only [append_assoc]
  ·have:(X.take k ++ (r.toList ++ Y.drop k')).Perm (X.take k ++ ((X.drop k ++ Y.take k') ++ Y.drop k')):=List.Perm.append_left _ (List.Perm.append_right _ hR.perm)
   refine this.trans (List.Perm.of_eq ?_)
   conv=>rhs;rw [← take_append_drop k X,← take_append_drop k' Y]
   simp only [append_assoc]
  ·rw [zo,zo,le_app]
   refine ⟨sX1,⟨hR.so,sY2,zis ?_ hR.perm⟩,ziH ?_ hR.perm,le_trans' xk1 fun y hy=>y0l' y (mem_of_mem_drop hy)⟩
   ·rw [zcB];exact ⟨le_trans' (fun x hx=>x1l' x (mem_of_mem_drop hx)) yk2,sY3⟩
   ·rw [le_app];exact ⟨sX3,le_trans' xk1 fun y hy=>y0l' y (mem_of_mem_take hy)⟩
 by_cases h3:na - k<=k'
 case' pos=>rw [if_pos h3];refine wpS_bind (zfJ hk c fun r st' hS hR=>?_)
 case' neg=>rw [if_neg h3];refine wpS_bind (zfK hk c fun r st' hS hR=>?_)
 all_goals
  obtain ⟨hQ,hfl⟩:=fin r st' hS hR
  refine wpS_bind (wpS_modify (wpS_bind (wpS_get (wpS_pure ?_))))
  have e:(failedOf st').isNone = true:=by rw [hfl];rfl
  rw [← e] at hQ
  exact hQ
end
structure LB (st0:SortSt) (lo:Nat) (st:SortSt):Prop where
 kind:kindOf st = oneType'
 failed:failedOf st = none
 pend:pendingOf st = pendingOf st0
 perm:(arrOf st).Perm (arrOf st0)
 pre:∀ i,i < lo->(arrOf st)[i]? = (arrOf st0)[i]?
def Sg (xs:Array Keyed) (lo n:Nat):Prop:=∀ i j,i<=j->j < n->K xs (lo + i)<=K xs (lo + j)
def Dg (xs:Array Keyed) (lo n:Nat):Prop:=∀ i j,i<=j->j < n->K xs (lo + j)<=K xs (lo + i)
theorem Sg.step {xs:Array Keyed} {lo:Nat} (h:Sg xs lo n) (h1:n = 0\/K xs (lo + n - 1)<=K xs (lo + n)):Sg xs lo (n + 1):=by
 intro i j hij hj
 by_cases hjn:j < n
 ·exact h i j hij hjn
 ·have e:j = n:=by omega
  subst e
  by_cases hi:i = j
  ·subst hi;exact Int.le_refl _
  ·rcases h1 with h1 | h1
   ·omega
   ·have:=h i (j - 1) (by omega) (by omega)
    rw [show lo + (j - 1) = lo + j - 1 by omega] at this
    exact Int.le_trans this h1
theorem Dg.step {xs:Array Keyed} {lo:Nat} (h:Dg xs lo n) (h1:n = 0\/K xs (lo + n)<=K xs (lo + n - 1)):Dg xs lo (n + 1):=by
 intro i j hij hj
 by_cases hjn:j < n
 ·exact h i j hij hjn
 ·have e:j = n:=by omega
  subst e
  by_cases hi:i = j
  ·subst hi;exact Int.le_refl _
  ·rcases h1 with h1 | h1
   ·omega
   ·have:=h i (j - 1) (by omega) (by omega)
    rw [show lo + (j - 1) = lo + j - 1 by omega] at this
    exact Int.le_trans h1 this
section
variable {lo:Nat}
theorem LB.at (h:LB st0 lo st) (h0:IntKeys (arrOf st0)) (hi:i < (arrOf st0).size) :
  ∃ t q,(arrOf st)[i]? = some (.int (K (arrOf st) i) t,q):=by
 have hi':i < (arrOf st).size:=by rw [h.perm.size_eq];exact hi
 obtain ⟨n,t,hn⟩:=h0 (arrOf st)[i] ((Array.perm_iff_toList_perm.mp h.perm).mem_iff.mp (by simp))
 have e:(arrOf st)[i]? = some (.int n t,(arrOf st)[i].2):=by
  rw [getElem?_pos _ i hi'];exact congrArg some (Prod.ext hn rfl)
 refine ⟨t,(arrOf st)[i].2,?_⟩
 unfold K
 rw [e];rfl
theorem ltL (hB:LB st0 lo st) (h0:IntKeys (arrOf st0)) (hi:i < (arrOf st0).size) (hj:j < (arrOf st0).size)
 (h:Q (some (decide (K (arrOf st) i < K (arrOf st) j))) st):wpS (model prog w) A E s (ltAt' i j) Q st:=by
 obtain ⟨t,p,e1⟩:=hB.at h0 hi
 obtain ⟨u,q,e2⟩:=hB.at h0 hj
 exact wpS_ltAt hB.kind e1 e2 h
theorem zfF {Q:Unit->SortSt->Prop} (hB:LB st0 lo st) (hi:lo<=i) (hj:j<=(arrOf st0).size)
 (h:∀ st',LB st0 lo st'->(∀ k,K (arrOf st') k = if i<=k/\k < j then K (arrOf st) (i + j - 1 - k) else K (arrOf st) k)->Q () st') :
  wpS (model prog w) A E s (reverseSlice' i j) Q st:=by
 have hj':j<=(arrOf st).size:=by rw [hB.perm.size_eq];exact hj
 refine wpS_reverse (h _ ⟨hB.kind,hB.failed,hB.pend,(mirror_perm _ _ _ _).trans hB.perm,fun k hk=>?_⟩ fun k=>K_mirror hj' k)
 rw [← hB.pre k hk]
 show (mirror (arrOf st) i j ((j - i) / 2))[k]? = _
 rw [getElem?_mirror_all hj',if_neg (by omega)]
theorem zeK {nrem:Nat} {Q:Option Nat->SortSt->Prop} (h0:IntKeys (arrOf st0)) (hn:lo + nrem<=(arrOf st0).size) (h1:1<=nrem) (hB:LB st0 lo st)
 (h:∀ m st',LB st0 lo st'->1<=m->m<=nrem->Sg (arrOf st') lo m->Q (some m) st'):wpS (model prog w) A E s (countRun' lo nrem) Q st:=by
 rw [countRun'_eq]
 refine wpS_bind (wpS_mono (wpS_forRange (I:=fun x c st'=>st' = st/\c = (none,x)/\Sg (arrOf st) lo x)
  (Q:=fun c st'=>st' = st/\∃ n,c = (none,n)/\1<=n/\n<=nrem/\Sg (arrOf st) lo n/\(n = nrem\/K (arrOf st) (lo + n) < K (arrOf st) (lo + n - 1))) ?_ ?_
  ⟨rfl,rfl,fun i j hij hj=>by rw [show i = j by omega];exact Int.le_refl _⟩) ?_)
 ·rintro x c st' hx1 hx ⟨rfl,rfl,hS⟩
  dsimp only
  refine wpS_bind (ltL hB h0 (by omega) (by omega) ?_)
  by_cases hl:K (arrOf st') (lo + x) < K (arrOf st') (lo + x - 1)
  ·simp only [hl,decide_true,if_true]
   exact wpS_pure ⟨rfl,x,rfl,hx1,by omega,hS,.inr hl⟩
  ·simp only [hl,decide_false,Bool.false_eq_true,if_false]
   exact wpS_pure ⟨rfl,rfl,hS.step (.inr (Int.not_lt.mp hl))⟩
 ·rintro c st' ⟨rfl,rfl,hS⟩
  rw [show max 1 nrem = nrem by omega] at hS ⊢
  exact ⟨rfl,_,rfl,h1,Q3 _,hS,.inl rfl⟩
 ·rintro c st' ⟨rfl,n,rfl,hn1,hn2,hS,hor⟩
  dsimp only
  by_cases e:n = nrem
  ·rw [if_pos (by simpa using e)];exact wpS_pure (h n _ hB hn1 hn2 hS)
  rw [if_neg (by simpa using e)]
  have hdrop:=hor.resolve_left e
  by_cases hgt:n > 1
  case' pos=>
   rw [if_pos hgt]
   refine wpS_bind (ltL hB h0 (by omega) (by omega) ?_)
   by_cases hr:K (arrOf st') lo < K (arrOf st') (lo + n - 1)
   ·simp only [hr,decide_true,if_true]
    exact wpS_pure (h n _ hB hn1 hn2 hS)
   simp only [hr,decide_false,Bool.false_eq_true,if_false]
   refine wpS_bind (zfF hB (Q3 _) (by omega) fun st2 hB2 hK2=>?_)
   have hD:Dg (arrOf st2) lo (n + 1):=by
    have hall:∀ k,k < n->K (arrOf st') (lo + k) = K (arrOf st') (lo + n - 1):=by
     intro k hk
     have a1:=hS 0 k (by omega) hk
     have a2:=hS k (n - 1) (by omega) (by omega)
     rw [show lo + (n - 1) = lo + n - 1 by omega] at a2
     rw [Nat.add_zero] at a1
     omega
    have hall2:∀ k,k < n->K (arrOf st2) (lo + k) = K (arrOf st') (lo + n - 1):=by
     intro k hk
     rw [hK2,if_pos (by omega),show lo + (lo + n) - 1 - (lo + k) = lo + (n - 1 - k) by omega]
     exact hall _ (by omega)
    have hb:Dg (arrOf st2) lo n:=fun i j hij hj=>by rw [hall2 i (by omega),hall2 j hj];exact Int.le_refl _
    refine hb.step (.inr ?_)
    have:=hall2 (n - 1) (by omega)
    rw [show lo + (n - 1) = lo + n - 1 by omega] at this
    rw [this,hK2,if_neg (by omega)]
    exact Int.le_of_lt hdrop
   clear hK2
  case' neg=>
   rw [if_neg hgt]
   have e1:n = 1:=by omega
   subst e1
   obtain ⟨st2,e2⟩:∃ st2,st2 = st':=⟨_,rfl⟩
   rw [← e2] at hB hdrop ⊢
   have hB2:=hB
   have hD:Dg (arrOf st2) lo (1 + 1):=by
    refine Dg.step (fun i j hij hj=>?_) (.inr (Int.le_of_lt hdrop))
    rw [show i = j by omega];exact Int.le_refl _
  all_goals
   refine wpS_bind (wpS_lift (wpAny_rule ⟨rfl,?_⟩))
   refine wpS_bind (wpS_mono (wpS_forRange (I:=fun x c st'=>∃ neq,c = (none,x,neq)/\LB st0 lo st'/\Dg (arrOf st') lo x/\neq + 1<=x/\(∀ i,x - (neq + 1)<=i->i < x->K (arrOf st') (lo + i) = K (arrOf st') (lo + x - 1)))
    (Q:=fun c st'=>∃ m neq,c = (none,m,neq)/\m<=nrem/\LB st0 lo st'/\Dg (arrOf st') lo m/\neq + 1<=m/\(∀ i,m - (neq + 1)<=i->i < m->K (arrOf st') (lo + i) = K (arrOf st') (lo + m - 1))) ?_ ?_
    ⟨0,rfl,hB2,hD,by omega,fun i h1 h2=>by congr 1;omega⟩) ?_)
   ·rintro x c st3 hx1 hx ⟨neq,rfl,hB3,hD3,hq,he⟩
    dsimp only
    refine wpS_bind (ltL hB3 h0 (by omega) (by omega) ?_)
    by_cases hl:K (arrOf st3) (lo + x) < K (arrOf st3) (lo + x - 1)
    ·simp only [hl,decide_true,if_true]
     by_cases hneq:neq > 0
     ·rw [if_pos hneq]
      refine wpS_bind (zfF hB3 (by omega) (by omega) fun st4 hB4 hK4=>wpS_pure ⟨0,rfl,hB4,?_,by omega,fun i h1 h2=>by congr 1;omega⟩)
      have hsame:∀ k,K (arrOf st4) k = K (arrOf st3) k:=by
       intro k
       rw [hK4]
       split
       ·have a1:=he (lo + x - (neq + 1) + (lo + x) - 1 - k - lo) (by omega) (by omega)
        have a2:=he (k - lo) (by omega) (by omega)
        rw [show lo + (k - lo) = k by omega] at a2
        rw [show lo + (lo + x - (neq + 1) + (lo + x) - 1 - k - lo) = lo + x - (neq + 1) + (lo + x) - 1 - k by omega] at a1
        rw [a1,a2]
       ·rfl
      intro i j hij hj
      rw [hsame,hsame]
      exact hD3.step (.inr (Int.le_of_lt hl)) i j hij hj
     ·rw [if_neg hneq]
      exact wpS_pure ⟨0,rfl,hB3,hD3.step (.inr (Int.le_of_lt hl)),by omega,fun i h1 h2=>by congr 1;omega⟩
    ·simp only [hl,decide_false,Bool.false_eq_true,if_false]
     refine wpS_bind (ltL hB3 h0 (by omega) (by omega) ?_)
     by_cases hg:K (arrOf st3) (lo + x - 1) < K (arrOf st3) (lo + x)
     ·simp only [hg,decide_true,if_true]
      exact wpS_pure ⟨x,neq,rfl,by omega,hB3,hD3,hq,he⟩
     ·simp only [hg,decide_false,Bool.false_eq_true,if_false]
      have hx':K (arrOf st3) (lo + x) = K (arrOf st3) (lo + x - 1):=by omega
      refine wpS_pure ⟨neq + 1,rfl,hB3,hD3.step (.inr (Int.le_of_eq hx')),by omega,fun i h1 h2=>?_⟩
      rw [show lo + (x + 1) - 1 = lo + x by omega]
      by_cases hix:i = x
      ·subst hix;rfl
      ·rw [hx'];exact he i (by omega) (by omega)
   ·rintro c st3 ⟨neq,rfl,hB3,hD3,hq,he⟩
    exact ⟨_,neq,rfl,by omega,hB3,hD3,hq,he⟩
   ·rintro c st3 ⟨m,neq,rfl,hm,hB3,hD3,hq,he⟩
    dsimp only
    have tail:∀ {xs:Array Keyed} {st4:SortSt},(∀ k,K (arrOf st4) k = K xs k)->Dg xs lo m->Dg (arrOf st4) lo m:=fun hK hD i j hij hj=>by rw [hK,hK];exact hD i j hij hj
    by_cases hneq:neq > 0
    case' pos=>
     rw [if_pos hneq]
     refine wpS_bind (zfF hB3 (by omega) (by omega) fun st4 hB4 hK4=>?_)
     have hD4:Dg (arrOf st4) lo m:=tail (fun k=>by
       rw [hK4]
       split
       ·have a1:=he (lo + m - (neq + 1) + (lo + m) - 1 - k - lo) (by omega) (by omega)
        have a2:=he (k - lo) (by omega) (by omega)
        rw [show lo + (k - lo) = k by omega] at a2
        rw [show lo + (lo + m - (neq + 1) + (lo + m) - 1 - k - lo) = lo + m - (neq + 1) + (lo + m) - 1 - k by omega] at a1
        rw [a1,a2]
       ·rfl) hD3
     clear hK4
    case' neg=>
     rw [if_neg hneq]
     have hB4:=hB3
     have hD4:=hD3
     generalize st3 = st4 at *
    all_goals
     refine wpS_bind (zfF hB4 (Q3 _) (by omega) fun st5 hB5 hK5=>?_)
     have hS5:Sg (arrOf st5) lo m:=by
      intro i j hij hj
      rw [hK5,hK5,if_pos (by omega),if_pos (by omega),show lo + (lo + m) - 1 - (lo + i) = lo + (m - 1 - i) by omega,show lo + (lo + m) - 1 - (lo + j) = lo + (m - 1 - j) by omega]
      exact hD4 _ _ (by omega) (by omega)
     refine wpS_bind (wpS_mono (wpS_forRange (I:=fun x c st'=>st' = st5/\c = (none,x)/\Sg (arrOf st5) lo x)
      (Q:=fun c st'=>st' = st5/\∃ n,c = (none,n)/\1<=n/\n<=nrem/\Sg (arrOf st5) lo n) ?_ ?_ ⟨rfl,rfl,hS5⟩) ?_)
     ·rintro x c st6 hx1 hx ⟨rfl,rfl,hS6⟩
      dsimp only
      refine wpS_bind (ltL hB5 h0 (by omega) (by omega) ?_)
      by_cases hl:K (arrOf st6) (lo + x) < K (arrOf st6) (lo + x - 1)
      ·simp only [hl,decide_true,if_true]
       exact wpS_pure ⟨rfl,x,rfl,by omega,by omega,hS6⟩
      ·simp only [hl,decide_false,Bool.false_eq_true,if_false]
       exact wpS_pure ⟨rfl,rfl,hS6.step (.inr (Int.not_lt.mp hl))⟩
     ·rintro c st6 ⟨rfl,rfl,hS6⟩
      exact ⟨rfl,_,rfl,by omega,by omega,hS6⟩
     ·rintro c st6 ⟨rfl,n6,rfl,g1,g2,g3⟩
      exact wpS_pure (h n6 _ hB5 g1 g2 g3)
theorem zf1 {ok:Nat} {Q:Bool->SortSt->Prop} (h0:IntKeys (arrOf st0)) (hn:lo + n<=(arrOf st0).size) (hok:ok<=n) (hB:LB st0 lo st) (hs:Sg (arrOf st) lo ok)
 (h:∀ st',LB st0 lo st'->Sg (arrOf st') lo n->Q true st'):wpS (model prog w) A E s (binarySort' lo n ok) Q st:=by
 rw [binarySort'_eq]
 refine wpS_bind (wpS_mono (wpS_forRange (I:=fun k c st'=>c = (none,())/\LB st0 lo st'/\Sg (arrOf st') lo (min k n))
  (Q:=fun c st'=>c = (none,())/\LB st0 lo st'/\Sg (arrOf st') lo n) ?_ ?_ ?_) ?_)
 ·rintro k c st' hak hkn ⟨rfl,hB',hs'⟩
  rw [show min k n = k by omega] at hs'
  refine wpS_bind (wpS_mono (wpS_forRange (I:=fun x c st''=>st'' = st'/\∃ l r,c = (none,l,r)/\l<=r/\r<=k/\r - l<=k - x /\
    (∀ i,i < l->K (arrOf st') (lo + i)<=K (arrOf st') (lo + k))/\(∀ i,r<=i->i < k->K (arrOf st') (lo + k)<=K (arrOf st') (lo + i)))
   (Q:=fun c st''=>st'' = st'/\∃ l,c = (none,l,l)/\l<=k /\
    (∀ i,i < l->K (arrOf st') (lo + i)<=K (arrOf st') (lo + k))/\(∀ i,l<=i->i < k->K (arrOf st') (lo + k)<=K (arrOf st') (lo + i))) ?_ ?_
    ⟨rfl,0,k,rfl,by omega,by omega,by omega,fun i hi=>by omega,fun i h1 h2=>by omega⟩) ?_)
  ·rintro x c st2 _ hxk ⟨rfl,l,r,rfl,hlr,hrk,hm,hlo,hhi⟩
   dsimp only
   by_cases hge:l ≥ r
   ·rw [if_pos hge]
    have:l = r:=by omega
    subst this
    exact wpS_pure ⟨rfl,l,rfl,hrk,hlo,hhi⟩
   ·rw [if_neg hge]
    refine wpS_bind (ltL hB' h0 (by omega) (by omega) ?_)
    by_cases hl:K (arrOf st2) (lo + k) < K (arrOf st2) (lo + (l + r) / 2)
    ·simp only [hl,decide_true,if_true]
     exact wpS_pure ⟨rfl,l,(l + r) / 2,rfl,by omega,by omega,by omega,hlo,fun i h1 h2=>Int.le_trans (Int.le_of_lt hl) (hs' _ _ h1 h2)⟩
    ·simp only [hl,decide_false,Bool.false_eq_true,if_false]
     exact wpS_pure ⟨rfl,(l + r) / 2 + 1,r,rfl,by omega,by omega,by omega,fun i h1=>Int.le_trans (hs' i ((l + r) / 2) (by omega) (by omega)) (Int.not_lt.mp hl),hhi⟩
  ·rintro c st2 ⟨rfl,l,r,rfl,hlr,hrk,hm,hlo,hhi⟩
   have:l = r:=by omega
   subst this
   exact ⟨rfl,l,rfl,hrk,hlo,hhi⟩
  ·rintro c st2 ⟨rfl,l,rfl,hlk,hlo,hhi⟩
   have hks:lo + k < (arrOf st2).size:=by rw [hB'.perm.size_eq];omega
   show wpS _ _ _ _ (do moveDown' (lo + k) (lo + l);pure (ForInStep.yield (none,()))) _ _
   rw [moveDown'_eq]
   refine wpS_bind (wpS_modify (wpS_pure ⟨rfl,⟨hB'.kind,hB'.failed,hB'.pend,(bubble_perm _ _ _).trans hB'.perm,fun i hi=>?_⟩,?_⟩))
   ·rw [← hB'.pre i hi]
    show (bubble (arrOf st2) (lo + k) (lo + k - (lo + l)))[i]? = _
    rw [getElem?_bubble hks _ (by omega),if_neg (by omega),if_neg (by omega)]
   ·rw [show min (k + 1) n = k + 1 by omega]
    intro i j hij hj
    show K (bubble (arrOf st2) (lo + k) (lo + k - (lo + l))) (lo + i)<=K (bubble (arrOf st2) (lo + k) (lo + k - (lo + l))) (lo + j)
    rw [K_bubble hks (by omega),K_bubble hks (by omega),show lo + k - (lo + k - (lo + l)) = lo + l by omega]
    have hs2:∀ p q,lo<=p->p<=q->q < lo + k->K (arrOf st2) p<=K (arrOf st2) q:=by
     intro p q h1 h2 h3
     have:=hs' (p - lo) (q - lo) (by omega) (by omega)
     rwa [show lo + (p - lo) = p by omega,show lo + (q - lo) = q by omega] at this
    have hlo2:∀ p,lo<=p->p < lo + l->K (arrOf st2) p<=K (arrOf st2) (lo + k):=by
     intro p h1 h2
     have:=hlo (p - lo) (by omega)
     rwa [show lo + (p - lo) = p by omega] at this
    have hhi2:∀ p,lo + l<=p->p < lo + k->K (arrOf st2) (lo + k)<=K (arrOf st2) p:=by
     intro p h1 h2
     have:=hhi (p - lo) (by omega) (by omega)
     rwa [show lo + (p - lo) = p by omega] at this
    repeat' split
    all_goals first
     | (exfalso;omega)
     | exact Int.le_refl _
     | exact hlo2 _ (by omega) (by omega)
     | exact hhi2 _ (by omega) (by omega)
     | exact hs2 _ _ (by omega) (by omega) (by omega)
 ·rintro c st' ⟨hc,hB',hs'⟩
  refine ⟨hc,hB',?_⟩
  rwa [show min (max (max ok 1) n) n = n by omega] at hs'
 ·refine ⟨rfl,hB,fun i j hij hj=>?_⟩
  by_cases h1:ok = 0
  ·rw [show i = j by omega];exact Int.le_refl _
  ·exact hs i j hij (by omega)
 ·rintro c st' ⟨rfl,hB',hs'⟩
  exact wpS_pure (h st' hB' hs')
end
noncomputable abbrev Pd:=Nat × Nat × Nat
noncomputable def Runs (xs:Array Keyed):Nat->List Pd->Nat->Prop
 | st,[],e=>st = e
 | st,(a,n,_) :: l,e=>a = st/\0 < n/\Sg xs st n/\Runs xs (st + n) l e
theorem Runs.len {xs:Array Keyed}:∀ {l:List Pd} {st e:Nat},Runs xs st l e->st + l.length<=e
 | [],st,e,h=>by have:st = e:=h;simp;omega
 | (a,n,p) :: l,st,e,h=>by have:=Runs.len h.2.2.2;have:=h.2.1;simp;omega
theorem Runs.app {xs:Array Keyed}:∀ {l m:List Pd} {st e:Nat},Runs xs st (l ++ m) e ↔ ∃ k,Runs xs st l k/\Runs xs k m e
 | [],m,st,e=>⟨fun h=>⟨st,rfl,h⟩,fun ⟨k,h1,h2⟩=>by have:st = k:=h1;subst this;exact h2⟩
 | (a,n,p) :: l,m,st,e=>by
  constructor
  ·rintro ⟨h1,h2,h3,h4⟩
   obtain ⟨k,g1,g2⟩:=Runs.app.mp h4
   exact ⟨k,⟨h1,h2,h3,g1⟩,g2⟩
  ·rintro ⟨k,⟨h1,h2,h3,g1⟩,g2⟩
   exact ⟨h1,h2,h3,Runs.app.mpr ⟨k,g1,g2⟩⟩
theorem Sg.congr {xs ys:Array Keyed} {lo:Nat} (h:Sg xs lo n) (he:∀ i,lo<=i->i < lo + n->ys[i]? = xs[i]?):Sg ys lo n:=by
 intro i j hij hj
 rw [K_congr (he (lo + i) (by omega) (by omega)),K_congr (he (lo + j) (by omega) (by omega))]
 exact h i j hij hj
theorem Runs.congr {xs ys:Array Keyed}:∀ {l:List Pd} {st e:Nat},Runs xs st l e->(∀ i,st<=i->i < e->ys[i]? = xs[i]?)->Runs ys st l e
 | [],st,e,h,_=>h
 | (a,n,p) :: l,st,e,h,he=>by
  have:=Runs.len h.2.2.2
  exact ⟨h.1,h.2.1,h.2.2.1.congr fun i h1 h2=>he i h1 (by omega),Runs.congr h.2.2.2 fun i h1 h2=>he i (by omega) h2⟩
theorem Runs.pw {xs:Array Keyed}:∀ {l m:List Pd} {st e:Nat},Runs xs st l e->l.map (fun x=>(x.1,x.2.1)) = m.map (fun x=>(x.1,x.2.1))->Runs xs st m e
 | [],[],st,e,h,_=>h
 | [],_ :: _,st,e,_,hm=>by simp at hm
 | _ :: _,[],st,e,_,hm=>by simp at hm
 | (a,n,p) :: l,(a',n',p') :: m,st,e,h,hm=>by
  simp only [map_cons,List.cons.injEq,Prod.mk.injEq] at hm
  obtain ⟨⟨rfl,rfl⟩,hm⟩:=hm
  exact ⟨h.1,h.2.1,h.2.2.1,Runs.pw h.2.2.2 hm⟩
theorem zhW {xs:Array Keyed} (h:i < xs.toList.length):K xs i = kof xs.toList[i]:=by
 unfold K
 rw [← Array.getElem?_toList,getElem?_pos _ i h]
theorem zdQ {xs:Array Keyed} {lo:Nat} (h:Sg xs lo n):So ((xs.toList.drop lo).take n):=by
 refine List.pairwise_iff_getElem.mpr fun i j hi hj hij=>?_
 rw [Qp,length_drop] at hi hj
 have:=h i j (by omega) (by omega)
 rw [zhW (by omega),zhW (by omega)] at this
 simpa using this
theorem zg6 {xs:Array Keyed} {R:List Keyed} (h:So R) (e:xs.toList = P ++ (R ++ S)):Sg xs P.length R.length:=by
 intro i j hij hj
 by_cases hi:i = j
 ·subst hi;exact Int.le_refl _
 ·have h1:xs.toList[P.length + i]? = some R[i]:=by
   rw [e,Q7 (by omega),Nat.add_sub_cancel_left,Q6 (by omega)];exact getElem?_pos ..
  have h2:xs.toList[P.length + j]? = some R[j]:=by
   rw [e,Q7 (by omega),Nat.add_sub_cancel_left,Q6 (by omega)];exact getElem?_pos ..
  unfold K
  rw [← Array.getElem?_toList,← Array.getElem?_toList,h1,h2]
  exact List.pairwise_iff_getElem.mp h i j (by omega) hj (by omega)
structure PI (a0:Array Keyed) (st:SortSt) (e:Nat):Prop where
 kind:kindOf st = oneType'
 failed:failedOf st = none
 perm:(arrOf st).Perm a0
 runs:Runs (arrOf st) 0 (pendingOf st).toList e
 le:e<=a0.size
section
variable {a0:Array Keyed}
theorem zco {e:Nat} {Q:Bool->SortSt->Prop} (h0:IntKeys a0) (hB:PI a0 st e) (hi:i + 1 < (pendingOf st).size)
 (h:∀ st',PI a0 st' e->(pendingOf st').size + 1 = (pendingOf st).size->(∀ j,e<=j->(arrOf st')[j]? = (arrOf st)[j]?)->Q true st') :
  wpS (model prog w) A E s (mergeAt' i) Q st:=by
 have hl:(pendingOf st).toList.length = (pendingOf st).size:=by simp
 have hsz:(arrOf st).size = a0.size:=hB.perm.size_eq
 have hal:(arrOf st).toList.length = (arrOf st).size:=by simp
 obtain ⟨L1,⟨sa,na,pa⟩,⟨sb,nb,pb⟩,L2,hp,hL1⟩:∃ L1 x y L2,(pendingOf st).toList = L1 ++ x :: y :: L2/\L1.length = i:=by
  refine ⟨(pendingOf st).toList.take i,(pendingOf st).toList[i],(pendingOf st).toList[i + 1],(pendingOf st).toList.drop (i + 1 + 1),?_,by rw [Qp];omega⟩
  rw [← drop_eq_getElem_cons (by omega),← drop_eq_getElem_cons (by omega),take_append_drop]
 have hr:=hB.runs
 rw [hp] at hr
 obtain ⟨k,r1,r2⟩:=Runs.app.mp hr
 obtain ⟨rfl,pX,gX,rfl,pY,gY,r3⟩:=r2
 have hle:=r3.len
 have:=hB.le
 have hx1:(pendingOf st)[i]? = some (sa,na,pa):=by rw [← Array.getElem?_toList,hp,← hL1];simp
 have hx2:(pendingOf st)[i + 1]? = some (sa + na,nb,pb):=by rw [← Array.getElem?_toList,hp,← hL1];simp
 have lP:((arrOf st).toList.take sa).length = sa:=by rw [Qp];omega
 refine zfL (P:=(arrOf st).toList.take sa) (X:=((arrOf st).toList.drop sa).take na) (Y:=((arrOf st).toList.drop (sa + na)).take nb) (S:=(arrOf st).toList.drop (sa + na + nb))
  hB.kind hB.failed hx1 hx2 ?_ lP (by rw [Qp,length_drop];omega) (by rw [Qp,length_drop];omega) rfl pX pY ?_ (zdQ gX) (zdQ gY) ?_
 ·conv=>lhs;rw [← take_append_drop sa (arrOf st).toList,← take_append_drop na (List.drop sa (arrOf st).toList),drop_drop,← take_append_drop nb (List.drop (sa + na) (arrOf st).toList),drop_drop]
 ·intro p hpm
  exact h0 p ((Array.perm_iff_toList_perm.mp hB.perm).mem_iff.mp hpm)
 ·intro st' R hk hf hpd hal' hR hS
  have lR:R.length = na + nb:=by
   rw [hR.length_eq,Qm,Qp,Qp,length_drop,length_drop];omega
  have hpd':(pendingOf st').toList = L1 ++ (sa,na + nb,pa) :: L2:=by
   rw [hpd,Array.toList_eraseIdxIfInBounds,Array.toList_setIfInBounds,hp,← hL1,List.set_append_right _ _ (Q3 _),Nat.sub_self,
    List.eraseIdx_append_of_length_le (by omega),Nat.add_sub_cancel_left]
   rfl
  have low:∀ j,j < sa->(arrOf st')[j]? = (arrOf st)[j]?:=by
   intro j hj
   rw [← Array.getElem?_toList,← Array.getElem?_toList,hal',Q6 (by omega),getElem?_take,if_pos hj]
  have high:∀ j,sa + na + nb<=j->(arrOf st')[j]? = (arrOf st)[j]?:=by
   intro j hj
   rw [← Array.getElem?_toList,← Array.getElem?_toList,hal',Q7 (by omega),Q7 (by omega),getElem?_drop,lP,lR]
   congr 1;omega
  refine h st' ⟨hk,hf,?_,?_,hB.le⟩ ?_ fun j hj=>high j (by omega)
  ·refine Array.Perm.trans (Array.perm_iff_toList_perm.mpr ?_) hB.perm
   rw [hal']
   conv=>rhs;rw [← take_append_drop sa (arrOf st).toList,← take_append_drop na (List.drop sa (arrOf st).toList),drop_drop,← take_append_drop nb (List.drop (sa + na) (arrOf st).toList),drop_drop]
   refine List.Perm.append_left _ ?_
   rw [← append_assoc (List.take na _)]
   exact List.Perm.append_right _ hR
  ·rw [hpd']
   refine Runs.app.mpr ⟨sa,r1.congr fun j _ hj=>low j hj,rfl,by omega,?_,?_⟩
   ·have:=zg6 hS hal'
    rwa [lP,lR] at this
   ·rw [← Nat.add_assoc]
    exact r3.congr fun j hj _=>high j hj
  ·have e1:(pendingOf st').toList.length = (pendingOf st').size:=by simp
   rw [← e1,← hl,hpd',hp]
   simp;omega
theorem ziS (c:Prop) [Decidable c] (n:Nat):(if c then n - 1 else n)<=n:=by split <;> omega
theorem zeB {Q:Unit->SortSt->Prop} (h0:IntKeys a0) (hB:SBase a0 st) (h2:2<=a0.size)
 (h:∀ st',(arrOf st').Perm a0->failedOf st' = none->SortedTo (arrOf st') a0.size->Q () st'):wpS (model prog w) A E s sortRuns' Q st:=by
 rw [sortRuns'_eq]
 refine wpS_bind (wpS_get ?_)
 dsimp only
 simp only [hB.size]
 generalize minRun' a0.size a0.size 0 = mr
 refine wpS_bind (wpS_mono (wpS_forRange (I:=fun x c st'=>∃ lo,c = (none,lo)/\x<=lo/\PI a0 st' lo) (Q:=fun c st'=>c = (none,a0.size)/\PI a0 st' a0.size) ?_ ?_
  ⟨0,rfl,Q3 _,hB.kind,hB.failed,hB.perm,by rw [hB.pend];rfl,by omega⟩) ?_)
 ·rintro x c st1 _ hx ⟨lo,rfl,hxl,hP1⟩
  dsimp only
  by_cases hge:lo ≥ a0.size
  ·rw [if_pos hge]
   have:lo = a0.size:=by have:=hP1.le;omega
   subst this
   exact wpS_pure ⟨rfl,hP1⟩
  rw [if_neg hge]
  have hI1:IntKeys (arrOf st1):=fun p hp=>h0 p ((Array.perm_iff_toList_perm.mp hP1.perm).mem_iff.mp hp)
  have hs1:(arrOf st1).size = a0.size:=hP1.perm.size_eq
  have of:∀ {st'},LB st1 lo st'->PI a0 st' lo:=fun hL=>⟨hL.kind,hL.failed,hL.perm.trans hP1.perm,by rw [hL.pend];exact hP1.runs.congr fun i _ hi=>hL.pre i hi,hP1.le⟩
  refine wpS_bind (zeK (st0:=st1) hI1 (by omega) (by omega) ⟨hP1.kind,hP1.failed,rfl,Array.Perm.refl _,fun _ _=>rfl⟩ fun m st2 hB2 hm1 hm2 hS2=>?_)
  dsimp only
  by_cases hlt:m < mr
  case' pos=>
   rw [if_pos hlt]
   refine wpS_bind (wpS_lift (wpAny_rule ⟨rfl,?_⟩))
   refine wpS_bind (zf1 (st0:=st1) hI1 (by omega) (by omega) hB2 hS2 fun st3 hB3 hS3=>?_)
   simp only [Bool.not_true,Bool.false_eq_true,if_false]
   have hn1:1<=min (a0.size - lo) mr:=by omega
   have hn2:lo + min (a0.size - lo) mr<=a0.size:=by omega
   generalize min (a0.size - lo) mr = n at *
  case' neg=>
   rw [if_neg hlt]
   have hB3:=hB2
   have hS3:=hS2
   have hn1:=hm1
   have hn2:lo + m<=a0.size:=by omega
   generalize st2 = st3 at *
   generalize m = n at *
  all_goals
   have hP3:=of hB3
   have push:∀ {st':SortSt},PI a0 st' lo->Sg (arrOf st') lo n->PI a0 (setPending st' ((pendingOf st').push (lo,n,0))) (lo + n):=by
    intro st' hP hS
    refine ⟨hP.kind,hP.failed,hP.perm,?_,hn2⟩
    show Runs (arrOf st') 0 ((pendingOf st').push (lo,n,0)).toList (lo + n)
    rw [Array.toList_push]
    exact Runs.app.mpr ⟨lo,hP.runs,rfl,by omega,hS,rfl⟩
   refine wpS_bind (wpS_get ?_)
   cases hb:(pendingOf st3).back? with
   | none=>exact wpS_bind (wpS_modify (wpS_pure ⟨_,rfl,by omega,push hP3 hS3⟩))
   | some b=>
    obtain ⟨s1,n1,p1⟩:=b
    dsimp only
    refine wpS_bind (wpS_mono (wpS_forRange (I:=fun x c st'=>c = (none,())/\PI a0 st' lo/\Sg (arrOf st') lo n) (Q:=fun c st'=>c = (none,())/\PI a0 st' lo/\Sg (arrOf st') lo n) ?_ (fun _ _ hh=>hh) ⟨rfl,hP3,hS3⟩) ?_)
    ·rintro y c st4 _ _ ⟨rfl,hP4,hS4⟩
     refine wpS_bind (wpS_get ?_)
     by_cases hz:(pendingOf st4).size > 1
     ·rw [if_pos hz]
      have e:(pendingOf st4)[(pendingOf st4).size - 2]? = some (pendingOf st4)[(pendingOf st4).size - 2]:=getElem?_pos ..
      rw [e]
      dsimp only
      split
      ·exact wpS_pure ⟨rfl,hP4,hS4⟩
      ·refine wpS_bind (zco h0 hP4 (by omega) fun st5 hP5 _ hj5=>?_)
       exact wpS_pure ⟨rfl,hP5,hS4.congr fun i hi _=>hj5 i hi⟩
     ·rw [if_neg hz]
      exact wpS_pure ⟨rfl,hP4,hS4⟩
    ·rintro c st4 ⟨rfl,hP4,hS4⟩
     dsimp only
     refine wpS_bind (wpS_modify ?_)
     refine wpS_bind (wpS_modify (wpS_pure ⟨_,rfl,by omega,push ?_ ?_⟩))
     ·refine ⟨hP4.kind,hP4.failed,hP4.perm,hP4.runs.pw ?_,hP4.le⟩
      refine List.ext_getElem? fun i=>?_
      show _ = (List.map _ ((pendingOf st4).modify ((pendingOf st4).size - 1) fun x=>(x.1,x.2.1,power' a0.size (2 * s1 + n1) (2 * s1 + n1 + n1 + n) a0.size)).toList)[i]?
      simp only [Qa,Array.getElem?_toList,Array.getElem?_modify]
      split
      ·cases (pendingOf st4)[i]? <;> rfl
      ·rfl
     ·exact hS4
 ·rintro c st1 ⟨lo,rfl,hxl,hP1⟩
  have:lo = a0.size:=by have:=hP1.le;omega
  subst this
  exact ⟨rfl,hP1⟩
 ·rintro c st1 ⟨rfl,hP1⟩
  dsimp only
  have hl1:=hP1.runs.len
  have hq1:(pendingOf st1).toList.length = (pendingOf st1).size:=by simp
  refine wpS_bind (wpS_mono (wpS_forRange (I:=fun x c st'=>c = (none,())/\PI a0 st' a0.size/\(pendingOf st').size + x<=a0.size) (Q:=fun c st'=>c = (none,())/\PI a0 st' a0.size/\(pendingOf st').size<=1) ?_ ?_
   ⟨rfl,hP1,by omega⟩) ?_)
  ·rintro x c st2 _ hx ⟨rfl,hP2,hc2⟩
   refine wpS_bind (wpS_get ?_)
   by_cases hz:(pendingOf st2).size<=1
   ·rw [if_pos hz]
    exact wpS_pure ⟨rfl,hP2,hz⟩
   rw [if_neg hz]
   refine wpS_bind (zco h0 hP2 ?_ fun st3 hP3 hc3 _=>wpS_pure ⟨rfl,hP3,by omega⟩)
   exact Nat.lt_of_le_of_lt (Nat.succ_le_succ (ziS _ _)) (by omega)
  ·rintro c st2 ⟨rfl,hP2,hc2⟩
   exact ⟨rfl,hP2,by omega⟩
  ·rintro c st2 ⟨rfl,hP2,hc2⟩
   refine wpS_pure (h _ hP2.perm hP2.failed ?_)
   have hr:=hP2.runs
   have hq2:(pendingOf st2).toList.length = (pendingOf st2).size:=by simp
   match hp:(pendingOf st2).toList,hr with
   | [],hr=>have:0 = a0.size:=hr;omega
   | (a,n,p) :: l,hr=>
    have hll:l = []:=by
     have:l.length + 1 = (pendingOf st2).toList.length:=by rw [hp];rfl
     exact List.eq_nil_of_length_eq_zero (by omega)
    subst hll
    obtain ⟨_,_,hS,hz⟩:=hr
    have hz:0 + n = a0.size:=hz
    intro i j hij hj
    have:=hS i j hij (by omega)
    rwa [Nat.zero_add,Nat.zero_add] at this
end
end TS
namespace TS
open PySem PySem.Spec PyProof.Rows PySem.Calls
variable {ns:List Int} {vs:List Value}
section
variable {prog:Program} {w:World} {A:Around} {E:Value->Shared->Prop} {s:Shared}
theorem za0 {a:Addr} {n:Nat} {P:Fin->Shared->Prop} (ho:s.heap.get? a = some (seqObj "list" vs.toArray n))
 (hI:IntsAre vs ns) (hz:vs.length<=sizeLine)
 (h:∀ (out:Array Value) (ns':List Int),IntsAre out.toList ns'->ns'.Perm ns->ns'.Pairwise (·<=·)->P (.done (.ret .none)) { s with heap:=sortedHeap s.heap a vs out }) :
  wpAny (model prog w) A (Builtin.«list.sort» ⟨[.ref a],[]⟩) P E s:=by
 by_cases h64:vs.length < 64
 ·exact list_sort_tree ho hI h64 h
 rw [list_sort_plain]
 have ha:a < s.heap.objs.size:=Qd ho
 have hsz:vs.toArray.size = vs.length:=by simp
 refine Q1 (listItems_at ho rfl ?_)
 refine Q1 (listUpdate_at ho rfl ?_ (by rw [hsz];exact hz) (Nat.zero_le _))
 obtain ⟨e1,ho1⟩:∃ e1,(s.heap.update a (Obj.mapSeq fun _=>#[])).get? a = some (seqObj "list" #[] e1):=⟨_,get?_update_seq ho (fun _=>#[])⟩
 refine Q1 (seqEpoch_at ho1 rfl ?_)
 refine Q1 (wpAny_newTuple ?_ (by simpa using hz))
 refine Q1 (wpAny_newList ?_)
 refine wpAny_holding ?_
 have ho6:(((s.heap.update a (Obj.mapSeq fun _=>#[])).push (seqObj "tuple" vs.toArray 0)).push (seqObj "list" #[] 0)).get? a = some (seqObj "list" #[] e1):=by
  rw [Heap.get?_push_ne _ _ _ (by rw [size_push',Heap.size_update];exact Qj (Nat.lt_succ_of_lt ha)),Heap.get?_push_ne _ _ _ (by rw [Heap.size_update];exact Qj ha)]
  exact ho1
 show wpAny (model prog w) A _ P E { s with heap:=((s.heap.update a (Obj.mapSeq fun _=>#[])).push (seqObj "tuple" vs.toArray 0)).push (seqObj "list" #[] 0) }
 dsimp only
 have h2:¬ vs.toArray.size < 2:=by omega
 rw [if_neg h2,if_neg h2]
 have hkk:keyKind' vs.toArray = pure oneType':=by
  match vs,h64,hI with
  | [],h64,_=>exact absurd (show (0:Nat) < 64 by decide) h64
  | [_],h64,_=>exact absurd (show (1:Nat) < 64 by decide) h64
  | v1 :: v2 :: rest,_,hI=>exact keyKind_ints hI
 rw [hkk]
 refine Q1 (Qe ?_)
 refine Q1 (Qf (zeB (a0:=pairsOf vs) (st:=SortSt.mk' oneType' (vs.toArray.zip vs.toArray) #[] 7 none)
  (Q:=fun _ st'=>(arrOf st').Perm (pairsOf vs)/\failedOf st' = none/\SortedTo (arrOf st') (pairsOf vs).size)
  hI.intKeys ⟨Array.Perm.refl _,rfl,rfl,rfl⟩ (by rw [pairsOf_size];omega) fun st' a1 a2 a3=>⟨a1,a2,a3⟩) ?_ fun _ _ e=>e)
 rintro ⟨⟨⟩,st'⟩ s' ⟨rfl,hp,hf,hs⟩
 dsimp only
 refine Q1 (seqEpoch_at ho6 rfl ?_)
 refine Q1 (listUpdate_at ho6 rfl ?_ (Nat.zero_le _) (by
  have e:(Array.map (fun x=>x.2) (arrOf st')).size = vs.length:=(Array.size_map ..).trans (hp.size_eq.trans (pairsOf_size _))
  show (Array.map (fun x=>x.2) (arrOf st')).size<=_
  omega))
 rw [hf]
 simp only [bne_self_eq_false,Bool.false_eq_true,if_false]
 obtain ⟨ns',b1,b2,b3⟩:=sorted_out hI hp hs
 exact Qe (h _ ns' b1 b2 b3)
theorem zfx {l:Addr} {Q:Value->Shared->Prop} (hl:s.heap.IsList l vs.toArray) (hI:IntsAre vs ns) (hz:vs.length<=sizeLine)
 (h:∀ (out:Array Value) (ns':List Int),IntsAre out.toList ns'->ns'.Perm ns->ns'.Pairwise (·<=·)->Q (.ref (s.heap.objs.size + 1)) { s with heap:=sortedAll s.heap vs out }) :
  wpAny (model prog w) A (call (.builtin "sorted") [.ref l]) Q E s:=by
 refine Calls.call_function_entry kind_sorted plain_sorted entry_sorted (args_sorted1 _) ?_
 unfold Builtin.«sorted»
 refine Q1 (m:=checkCount "sorted" 1 1 _) (Qe ?_)
 refine Q1 (collect_list hl ?_ hz)
 refine Q1 (wpAny_newList ?_ hz)
 have hsz:((s.heap.push (seqObj "list" #[] 0)).update s.heap.objs.size (Obj.mapSeq (· ++ vs.toArray))).objs.size = s.heap.objs.size + 1:=by
  rw [Heap.size_update,size_push']
 have hoL:(((s.heap.push (seqObj "list" #[] 0)).update s.heap.objs.size (Obj.mapSeq (· ++ vs.toArray))).push (seqObj "list" vs.toArray 0)).get? (s.heap.objs.size + 1) = some (seqObj "list" vs.toArray 0):=by
  rw [← hsz];exact Qk _ rfl
 show wpAny _ _ _ _ _ { s with heap:=((s.heap.push (seqObj "list" #[] 0)).update s.heap.objs.size (Obj.mapSeq (· ++ vs.toArray))).push (seqObj "list" vs.toArray 0) }
 rw [hsz]
 refine Q1 (wpAny_holding (wpAny_call_entry slot_list_sort ⟨_,hoL,rfl⟩ entry_list_sort (za0 hoL hI hz fun out ns' a1 a2 a3=>⟨_,rfl,?_⟩) (args_list_sort _)))
 exact Qe ⟨_,rfl,h out ns' a1 a2 a3⟩
end
end TS
namespace L2
open PySem PySem.Spec PySem.W PyProof.Rows PySem.Calls
section
variable {X:Cx}
theorem zen:CallR X (.builtin "sorted") (fun xs H Q=>∃ (p:Addr) (ns:List Int),xs = [.ref p]/\SqL X.K H p (ns.map V.int)/\∀ (l:Addr) (ns':List Int),H l = none->ns'.Perm ns->ns'.Pairwise (·<=·)->Q (.ref l) (upd H l (.lst (ns'.map V.int)))):=by
 intro pins s σ H xs us Q I r h
 obtain ⟨p,ns,rfl,hq,q⟩:=h
 obtain ⟨u,rfl,rx⟩:=vals1 r
 cases rx
 obtain ⟨its,r',pl,hz⟩:=I.list hq
 have hlen:=r'.length
 rw [Qg] at hlen hz
 refine TS.zfx pl.isList (zbf r') (by omega) fun out ns' a1 a2 a3=>?_
 obtain ⟨e,he⟩:=sortedAll_at s.heap its out
 have hn:H (s.heap.objs.size + 1) = none:=I.hok.fresh (Nat.le_succ _)
 refine ⟨.ref (s.heap.objs.size + 1),_,I.laid (t':=s.toks) (fun _ _=>sortedAll_old) (Nat.le_succ _) (show ObjOk X.prog X.w _ _ _ (.lst (ns'.map V.int)) from ⟨?_,out.toList,e,zaH a1,?_⟩),rfl,q _ ns' hn a2 a3⟩
 ·have:=a2.length_eq
  rw [Qg]
  omega
 ·rw [Array.toArray_toList];exact he
theorem zdq (hc:X.calm = true):CallR X (.builtin "sorted") (fun xs H Q=>∃ (p:Addr) (kvs:List (Key × V)) (ns:List Int),xs = [.ref p]/\Rd H p (.dK kvs)/\kvs.map (·.1) = ns.map Sum.inl/\∀ (l:Addr) (ns':List Int),H l = none->ns'.Perm ns->ns'.Pairwise (·<=·)->Q (.ref l) (upd H l (.lst (ns'.map V.int)))):=by
 intro pins s σ H xs us Q I r h
 obtain ⟨p,kvs,ns,rfl,hq,hns,q⟩:=h
 obtain ⟨u,rfl,rx⟩:=vals1 r
 cases rx
 obtain ⟨z,hd,vs,rel,dd⟩:=zaX I.hok hq
 obtain ⟨ep,da⟩:=dd.dictAt
 have hl:=rel.length
 have hln:kvs.length = ns.length:=by have:=congrArg List.length hns;simpa using this
 refine PySem.Calls.call_function_entry kind_sorted plain_sorted entry_sorted (args_sorted1 _) (show wpAny _ _ (Builtin.«sorted» _) _ _ _ from ?_)
 unfold Builtin.«sorted»
 refine Q1 (m:=checkCount "sorted" 1 1 _) (Qe (Q1 (zfZ (kdl_dict (ep:=ep) (kvs:=vs) hd) (I.ok.hd hc) da (by rw [← hl];exact z) fun h' tk acc hk hsz hacc=>?_)))
 have hla:acc.toList.length = ns.length:=by rw [Array.length_toList,hacc.1,← hl,hln]
 have hlz:acc.toList.length<=sizeLine:=by rw [hla,← hln];exact z
 refine Q1 (wpAny_newList ?_ hlz)
 have hI:IntsAre acc.toList ns:=by
  refine zbf (zbG (by rw [Qg,hla]) fun i v w e1 e2=>?_)
  obtain ⟨k,x,e3,e4⟩:=hacc.2 i w (by simpa using e2)
  have e5:(vs.map (·.1))[i]? = some k:=by simp [e3]
  rw [← rel.keys,hns,Qa] at e5
  rw [Qa] at e1
  cases e6:ns[i]? with
  | none=>rw [e6] at e5;cases e5
  | some n=>
   rw [e6] at e5 e1
   cases e5;cases e1
   exact ziQ (k:=.inl n) e4
 have hoL:(h'.push (seqObj "list" acc.toList.toArray 0)).get? h'.objs.size = some (seqObj "list" acc.toList.toArray 0):=Qk _ rfl
 refine Q1 (wpAny_holding (wpAny_call_entry slot_list_sort ⟨_,hoL,rfl⟩ entry_list_sort (TS.za0 hoL hI hlz fun out ns' a1 a2 a3=>⟨_,rfl,?_⟩) (args_list_sort _)))
 obtain ⟨e,he⟩:=sortedHeap_at (out:=out) hoL
 refine Qe ⟨_,rfl,?_⟩
 refine ⟨.ref h'.objs.size,_,I.laid (t':=tk) (fun b o e=>?_) hsz (show ObjOk X.prog X.w _ _ _ (.lst (ns'.map V.int)) from ⟨?_,out.toList,e,zaH a1,?_⟩),rfl,q _ ns' (I.hok.fresh hsz) a2 a3⟩
 ·have hb:=Qd (hk b o e)
  show (sortedHeap _ _ _ _).get? b = some o
  rw [sortedHeap_old (Qj hb) (by rw [size_push'];exact Nat.lt_succ_of_lt hb),Heap.get?_push_ne _ _ _ (Qj hb)]
  exact hk b o e
 ·have:=a2.length_eq
  rw [Qg,this,← hln]
  exact z
 ·rw [Array.toArray_toList];exact he
end
end L2
namespace FT
open PySem PySem.Spec PyProof.Rows L2
noncomputable def qw:List T->Mem->Out (List T):=fun ts M=>match ts with
 | [t]=>match qK t M with
  | some kvs=>match zb7 (kvs.map (·.1)) with
   | some ns=>.ok ((yA ns).map .int) M
   | none=>.bad
  | none=>match qp t M with
   | some xs=>match zaS xs with
    | some ns=>.ok ((yA ns).map .int) M
    | none=>.bad
   | none=>.bad
 | _=>.bad
variable {X:Cx} {XE:XK}
section
theorem y9 (hc:X.calm = true):CallR X (.builtin "sorted") (zfQ XE X.K qw):=by
 intro pins s σ H xs us Q I r ⟨S,ts,e,m,rs,fin⟩
 subst e
 replace fin:FinL XE X.K S (qw ts S.M) Q:=fin
 unfold qw at fin
 split at fin
 ·split at fin
  ·rename_i t kvs q
   split at fin
   ·rename_i ns qn
    obtain ⟨v,vs,rfl,r1,r2⟩:=rs.consT
    rw [r2.nilT] at r
    obtain ⟨p,ks,rfl,e4,rk⟩:=qM m r1 q
    refine zdq hc pins s σ S.H _ us Q I r ⟨p,ks,ns,rfl,e4,by rw [← rk.1];exact zfc qn,fun l ns' hl hp hs=>?_⟩
    rw [zbt hp hs]
    exact zd6 m fin (.ints _) l hl
   ·exact fin.elim
  ·split at fin
   ·rename_i t _ ys q
    split at fin
    ·rename_i ns qn
     obtain ⟨v,vs,rfl,r1,r2⟩:=rs.consT
     rw [r2.nilT] at r
     obtain ⟨p,ws,rfl,hq,rs2⟩:=yk m r1 q
     rw [zb8 qn rs2] at hq
     refine zen pins s σ S.H _ us Q I r ⟨p,ns,rfl,hq,fun l ns' hl hp hs=>?_⟩
     rw [zbt hp hs]
     exact zd6 m fin (.ints _) l hl
    ·exact fin.elim
   ·exact fin.elim
 ·exact fin.elim
end
section
noncomputable def zmC (xs:List T) (k:Nat) (t:T):List T:=xs.take k ++ t :: xs.drop k
end
def Ok {β:Type} (o:Out β) (Q:β->Mem->Prop):Prop:=∃ b M,o = .ok b M/\Q b M
variable {M:Mem}
theorem Ok.ret {β:Type} {b:β} {Q:β->Mem->Prop} (h:Q b M):Ok (.ok b M) Q:=⟨b,M,rfl,h⟩
theorem Ok.of {β:Type} {o:Out β} {b:β} {Q:β->Mem->Prop} (e:o = .ok b M) (h:Q b M):Ok o Q:=⟨b,M,e,h⟩
theorem Ok.bind {β γ:Type} {o:Out β} {k:β->Mem->Out γ} {P:β->Mem->Prop} {Q:γ->Mem->Prop} (h:Ok o P) (g:∀ b M,P b M->Ok (k b M) Q):Ok (o.bind k) Q:=by
 obtain ⟨b,M,e,p⟩:=h
 rw [e]
 exact g b M p
theorem Ok.mono {β:Type} {o:Out β} {P Q:β->Mem->Prop} (h:Ok o P) (g:∀ b M,P b M->Q b M):Ok o Q:=by
 obtain ⟨b,M,e,p⟩:=h
 exact ⟨b,M,e,g b M p⟩
theorem zl4 {β γ δ:Type} {o:Out β} {k:β->Mem->Out γ} {l:γ->Mem->Out δ}:(o.bind k).bind l = o.bind fun b M=>(k b M).bind l:=by cases o <;> rfl
theorem zl2 {β γ:Type} {p:Prop} [Decidable p] {x y:Out β} {k:β->Mem->Out γ}:(if p then x else y).bind k = if p then x.bind k else y.bind k:=by split <;> rfl
variable {t:T}
theorem zl1 {β γ:Type} {k:Bool->Mem->Out β} {l:β->Mem->Out γ}:(blT t M k).bind l = blT t M fun b M=>(k b M).bind l:=by cases t <;> rfl
noncomputable def zha (fl:Fl) (M:Mem):Out T:=match fl with
 | .rt t=>.ok t M
 | .nx _=>.ok .non M
 | _=>.bad
theorem zl9:zha (.rt t) M = .ok t M:=rfl
variable {σ:Ev}
theorem zma:zha (.nx σ) M = .ok .non M:=rfl
variable {n:Nat}
theorem zak {p:Nat} {g:Ev->Mem->Out Fl} {ts:List T} {Q:T->Mem->Prop} (h:ts.length = p) (k:Ok ((g (startT n ts) M).bind zha) Q):Ok (yg p n g ts M) Q:=by
 obtain ⟨b,M1,e,q⟩:=k
 refine ⟨b,M1,?_,q⟩
 rw [zgj h]
 cases r:g (startT n ts) M with
 | bad=>rw [r] at e;cases e
 | exn C fs M'=>rw [r] at e;cases e
 | ok fl M'=>
  rw [r] at e
  cases fl with
  | rt t=>exact e
  | nx σ=>exact e
  | bk σ=>cases e
  | ct σ=>cases e
def Fr (S:List Nat) (M M':Mem):Prop:=M.length<=M'.length/\∀ i,i < M.length->i ∉ S->M'[i]? = M[i]?
variable {S:List Nat} {A B C:Mem}
theorem Fr.trans (h:Fr S A B) (g:Fr S B C):Fr S A C:=⟨Qi h.1 g.1,fun i hi hs=>by rw [g.2 i (Q5 hi h.1) hs,h.2 i hi hs]⟩
variable {S':List Nat}
theorem Fr.tr (h:Fr S A B) (g:Fr S' B C) (s:∀ i ∈ S',i ∈ S\/A.length<=i):Fr S A C:=⟨Qi h.1 g.1,fun i hi hs=>by
 rw [g.2 i (Q5 hi h.1) (fun z=>by rcases s i z with a | a;exact hs a;omega),h.2 i hi hs]⟩
variable {c:Cell} {M':Mem} {i:Nat}
theorem Fr.get (h:Fr S M M') (e:M[i]? = some c) (hs:i ∉ S):M'[i]? = some c:=by
 rw [h.2 i (List.getElem?_eq_some_iff.mp e).1 hs];exact e
theorem Fr.get0 (h:Fr [] M M') (e:M[i]? = some c):M'[i]? = some c:=h.get e (by simp)
theorem Fr.sub (h:Fr S M M') (s:∀ i ∈ S,i ∈ S'\/M.length<=i):Fr S' M M':=⟨h.1,fun i hi hs=>h.2 i hi fun z=>by
 rcases s i z with a | a
 ·exact hs a
 ·omega⟩
theorem Fr.app (M:Mem) (l:List Cell):Fr [] M (M ++ l):=⟨by simp,fun i hi _=>by rw [Q6 hi]⟩
theorem Fr.set (M:Mem) (a:Nat) (c:Cell):Fr [a] M (M.set a c):=⟨by simp,fun i _ hs=>by rw [Qb,if_neg (by simp at hs;omega)]⟩
theorem zaB (e:M[i]? = some c):i < M.length:=(List.getElem?_eq_some_iff.mp e).1
theorem zfh:(M ++ [c])[M.length]? = some c:=List.getElem?_concat_length
theorem get_set {a:Nat} {c':Cell} (e:M[a]? = some c):(M.set a c')[a]? = some c':=by
 rw [Qb,if_pos rfl,if_pos (zaB e)]
theorem Ok.loop {bd:T->Ev->Mem->Out Ev} {body:Ev->Mem->Out Fl} {α:Type} {r:α->T} (P:Nat->Ev->Mem->Prop) {R:T->Mem->Prop}:∀ (xs:List α) (i:Nat) {σ:Ev} {M:Mem},
  P i σ M->(∀ (k:Nat) x σ M,xs[k]? = some x->P (i + k) σ M->Ok ((bd (r x) σ M).bind fun σ1 M1=>body σ1 M1) fun fl M'=>(∃ σ',(fl = .nx σ'\/fl = .ct σ')/\P (i + k + 1) σ' M')\/(∃ σ',fl = .bk σ'/\P (i + xs.length) σ' M')\/∃ t,fl = .rt t/\R t M')->
  Ok (forL bd body (xs.map r) σ M) fun fl M'=>(∃ σ',fl = .nx σ'/\P (i + xs.length) σ' M')\/∃ t,fl = .rt t/\R t M'
 | [],i,σ,M,h,_=>⟨.nx σ,M,rfl,.inl ⟨σ,rfl,h⟩⟩
 | x :: xs,i,σ,M,h,t=>by
  obtain ⟨fl,M1,e1,h1⟩:=t 0 x σ M rfl h
  rw [map_cons,zbi]
  cases q:bd (r x) σ M with
  | bad=>rw [q] at e1;cases e1
  | exn C fs M'=>rw [q] at e1;cases e1
  | ok σ3 M3=>
   rw [q] at e1
   replace e1:body σ3 M3 = .ok fl M1:=e1
   show Ok ((body σ3 M3).bind (zw (forL bd body (xs.map r)))) _
   rw [e1]
   have go:∀ σ1,P (i + 1) σ1 M1->Ok (forL bd body (xs.map r) σ1 M1) fun fl M'=>(∃ σ',fl = .nx σ'/\P (i + (x :: xs).length) σ' M')\/∃ t,fl = .rt t/\R t M':=fun σ1 h1=>by
    have ih:=Ok.loop (R:=R) P xs (i + 1) (bd:=bd) (body:=body) h1 (fun k y σ M hk hp=>by
     have:=t (k + 1) y σ M (by simpa using hk) (by rw [show i + (k + 1) = i + 1 + k by omega];exact hp)
     rw [show i + (k + 1) + 1 = i + 1 + k + 1 by omega,Qo,show i + (xs.length + 1) = i + 1 + xs.length by omega] at this
     exact this)
    rw [Qo,show i + (xs.length + 1) = i + 1 + xs.length by omega]
    exact ih
   rcases h1 with ⟨σ1,h1 | h1,h2⟩ | ⟨σ1,h1,h2⟩ | ⟨u,h1,h2⟩
   ·rw [h1];exact go σ1 h2
   ·rw [h1];exact go σ1 h2
   ·rw [h1];exact ⟨.nx σ1,M1,rfl,.inl ⟨σ1,rfl,h2⟩⟩
   ·rw [h1];exact ⟨.rt u,M1,rfl,.inr ⟨u,rfl,h2⟩⟩
variable {body:Ev->Mem->Out Fl} {bd:T->Ev->Mem->Out Ev}
theorem Ok.for {α:Type} {r:α->T} (P:Nat->Ev->Mem->Prop) {xs:List α} 
 (h:P 0 σ M) (t:∀ (k:Nat) x σ M,xs[k]? = some x->P k σ M->Ok ((bd (r x) σ M).bind fun σ1 M1=>body σ1 M1) fun fl M'=>∃ σ',fl = .nx σ'/\P (k + 1) σ' M') :
  Ok (forL bd body (xs.map r) σ M) fun fl M'=>∃ σ',fl = .nx σ'/\P xs.length σ' M':=by
 refine (Ok.loop (R:=fun _ _=>False) P xs 0 h (fun k x σ M hk hp=>?_)).mono ?_
 ·rw [Nat.zero_add] at hp
  refine (t k x σ M hk hp).mono ?_
  rintro fl M' ⟨σ',e,q⟩
  exact .inl ⟨σ',.inl e,by rw [Nat.zero_add];exact q⟩
 ·rintro fl M' (⟨σ',e,q⟩ | ⟨t,_,f⟩)
  ·exact ⟨σ',e,by rw [Nat.zero_add] at q;exact q⟩
  ·exact f.elim
theorem Ok.comp {bd:T->Ev->Mem->Out Ev} {cond:Ev->Mem->Out Bool} {el:Ev->Mem->Out T} {α:Type} {r:α->T} (P:Nat->List T->Ev->Mem->Prop):∀ (xs:List α) {σ:Ev} {M:Mem} (i:Nat) (acc:List T),
  P i acc σ M->acc.length + xs.length<=sizeLine->(∀ (k:Nat) x σ M acc,xs[k]? = some x->P (i + k) acc σ M->Ok ((bd (r x) σ M).bind fun σ1 M1=>(cond σ1 M1).bind fun b M2=>if b = true then (el σ1 M2).bind fun t M3=>.ok (some t,σ1) M3 else .ok (none,σ1) M2) fun o M'=>P (i + k + 1) (match o.1 with | some t=>acc ++ [t] | none=>acc) o.2 M')->
  Ok (yh bd cond el (xs.map r) σ M acc) fun ts M'=>∃ σ',P (i + xs.length) ts σ' M'
 | [],σ,M,i,acc,h,_,_=>⟨acc,M,by simp [yh],σ,h⟩
 | x :: xs,σ,M,i,acc,h,hl,t=>by
  obtain ⟨o,M1,e1,h1⟩:=t 0 x σ M acc rfl h
  rw [Qo] at hl
  rw [map_cons]
  unfold yh
  have go:∀ acc σ1 M1,acc.length + xs.length<=sizeLine->P (i + 1) acc σ1 M1->Ok (yh bd cond el (xs.map r) σ1 M1 acc) fun ts M'=>∃ σ',P (i + (x :: xs).length) ts σ' M':=fun acc σ1 M1 hl h1=>by
   have ih:=Ok.comp P xs (i + 1) acc (bd:=bd) (cond:=cond) (el:=el) h1 hl (fun k y σ M acc hk hp=>by
    have:=t (k + 1) y σ M acc (by simpa using hk) (by rw [show i + (k + 1) = i + 1 + k by omega];exact hp)
    rw [show i + (k + 1) + 1 = i + 1 + k + 1 by omega] at this
    exact this)
   rw [Qo,show i + (xs.length + 1) = i + 1 + xs.length by omega]
   exact ih
  cases q:bd (r x) σ M with
  | bad=>rw [q] at e1;cases e1
  | exn C fs M'=>rw [q] at e1;cases e1
  | ok σ3 M3=>
   rw [q] at e1
   replace e1:((cond σ3 M3).bind fun b M2=>if b = true then (el σ3 M2).bind fun t M3=>.ok (some t,σ3) M3 else .ok (none,σ3) M2) = .ok o M1:=e1
   show Ok ((cond σ3 M3).bind _) _
   cases q2:cond σ3 M3 with
   | bad=>rw [q2] at e1;cases e1
   | exn C fs M'=>rw [q2] at e1;cases e1
   | ok b M4=>
    rw [q2] at e1
    cases b with
    | false=>
     replace e1:(Out.ok (none,σ3) M4:Out (Option T × Ev)) = .ok o M1:=e1
     cases e1
     exact go acc σ3 _ (by omega) h1
    | true=>
     replace e1:((el σ3 M4).bind fun t M3=>.ok (some t,σ3) M3) = .ok o M1:=e1
     show Ok ((el σ3 M4).bind _) _
     cases q3:el σ3 M4 with
     | bad=>rw [q3] at e1;cases e1
     | exn C fs M'=>rw [q3] at e1;cases e1
     | ok u M5=>
      rw [q3] at e1
      replace e1:(Out.ok (some u,σ3) M5:Out (Option T × Ev)) = .ok o M1:=e1
      cases e1
      show Ok (if acc.length < sizeLine then _ else _) _
      rw [if_pos (by omega)]
      exact go (acc ++ [u]) σ3 _ (by rw [Qm,Qo,length_nil];omega) h1
theorem Ok.whileN {c:Ev->Mem->Out Bool} {body:Ev->Mem->Out Fl} (P:Ev->Mem->Prop) (μ:Ev->Mem->Nat) {Q:Ev->Mem->Prop} {R:T->Mem->Prop}
  (t:∀ σ M,P σ M->Ok (c σ M) fun b M1=>(b = true/\Ok (body σ M1) fun fl M2=>(∃ σ',(fl = .nx σ'\/fl = .ct σ')/\P σ' M2/\μ σ' M2 < μ σ M)\/(∃ σ',fl = .bk σ'/\Q σ' M2)\/∃ t,fl = .rt t/\R t M2)\/(b = false/\Q σ M1)) :
  ∀ (n:Nat) (σ:Ev) (M:Mem),μ σ M < n->P σ M->Ok (whileN c body n σ M) fun fl M'=>(∃ σ',fl = .nx σ'/\Q σ' M')\/∃ t,fl = .rt t/\R t M'
 | 0,_,_,hn,_=>absurd hn (by omega)
 | n + 1,σ,M,hn,h=>by
  obtain ⟨b,M1,e,r⟩:=t σ M h
  unfold FT.whileN
  rw [e]
  rcases r with ⟨rfl,fl,M2,e2,r⟩ | ⟨rfl,q⟩
  ·show Ok ((body σ M1).bind _) _
   rw [e2]
   rcases r with ⟨σ1,h1 | h1,h2,h3⟩ | ⟨σ1,h1,h2⟩ | ⟨u,h1,h2⟩
   ·rw [h1];exact Ok.whileN P μ t n σ1 M2 (by omega) h2
   ·rw [h1];exact Ok.whileN P μ t n σ1 M2 (by omega) h2
   ·rw [h1];exact ⟨.nx σ1,M2,rfl,.inl ⟨σ1,rfl,h2⟩⟩
   ·rw [h1];exact ⟨.rt u,M2,rfl,.inr ⟨u,rfl,h2⟩⟩
  ·exact ⟨.nx σ,M1,rfl,.inl ⟨σ,rfl,q⟩⟩
theorem Ok.while {c:Ev->Mem->Out Bool} (P:Ev->Mem->Prop) (μ:Ev->Mem->Nat) {Q:Ev->Mem->Prop} {R:T->Mem->Prop} (h:P σ M)
 (t:∀ σ M,P σ M->Ok (c σ M) fun b M1=>(b = true/\Ok (body σ M1) fun fl M2=>(∃ σ',(fl = .nx σ'\/fl = .ct σ')/\P σ' M2/\μ σ' M2 < μ σ M)\/(∃ σ',fl = .bk σ'/\Q σ' M2)\/∃ t,fl = .rt t/\R t M2)\/(b = false/\Q σ M1)) :
  Ok (zdV c body σ M) fun fl M'=>(∃ σ',fl = .nx σ'/\Q σ' M')\/∃ t,fl = .rt t/\R t M':=by
 obtain ⟨fl,M',e,r⟩:=Ok.whileN P μ t (μ σ M + 1) σ M (by omega) h
 exact ⟨fl,M',zgi _ e (by simp),r⟩
noncomputable def rgI (n:Nat):List Int:=(List.range n).map fun (k:Nat)=>(k:Int)
variable {x:Int}
theorem zif:x ∈ rgI n ↔ 0<=x/\x < n:=by
 unfold rgI
 rw [mem_map]
 constructor
 ·rintro ⟨k,hk,rfl⟩
  have:=mem_range.mp hk
  omega
 ·rintro ⟨h1,h2⟩
  exact ⟨x.toNat,mem_range.mpr (by omega),by omega⟩
theorem zav (n:Nat):(rgI n).length = n:=by simp [rgI]
theorem zig {k:Nat} (h:(rgI n)[k]? = some x):k < n/\x = k:=by
 unfold rgI at h
 rw [Qa] at h
 cases q:(List.range n)[k]? with
 | none=>rw [q] at h;cases h
 | some j=>
  rw [q] at h
  have hk:k < n:=by have:=(List.getElem?_eq_some_iff.mp q).1;simpa using this
  rw [getElem?_range hk] at q
  cases q
  exact ⟨hk,(Qc h).symm⟩
theorem zg8 (n:Nat):yw 0 n = (rgI n).map .int:=by
 unfold yw rgI
 rw [map_map]
 congr 1
 funext k
 simp
variable {j:Int}
theorem zeW (h:-(2 ^ 62)<=j/\j < 2 ^ 62):zcK [.int j] M = .ok ((rgI j.toNat).map .int) M:=by rw [zdZ h,zg8]
noncomputable def rgF (lo:Int) (n:Nat):List Int:=(List.range n).map fun (k:Nat)=>lo + (k:Int)
theorem zeX (lo:Int) (n:Nat):(rgF lo n).length = n:=by simp [rgF]
theorem zeY {lo:Int} {k:Nat} (h:(rgF lo n)[k]? = some x):k < n/\x = lo + k:=by
 unfold rgF at h
 rw [Qa] at h
 cases q:(List.range n)[k]? with
 | none=>rw [q] at h;cases h
 | some j=>
  rw [q] at h
  have hk:k < n:=by have:=(List.getElem?_eq_some_iff.mp q).1;simpa using this
  rw [getElem?_range hk] at q
  cases q
  exact ⟨hk,(Qc h).symm⟩
theorem zeV {i:Int} (h:(-(2 ^ 62)<=i/\i < 2 ^ 62)/\(-(2 ^ 62)<=j/\j < 2 ^ 62)):zb4 [.int i,.int j] M = .ok ((rgF i (j - i).toNat).map .int) M:=by
 rw [show zb4 [.int i,.int j] M = .ok (yw i (j - i).toNat) M from if_pos h]
 unfold yw rgF
 rw [map_map]
 rfl
variable {el:Ev->Mem->Out T}
theorem Ok.filt {cond:Ev->Mem->Out Bool} {α:Type} {r:α->T} (I:Ev->Prop) (c:α->Bool) (f:α->T) {xs:List α} (h:I σ) (hl:xs.length<=1000000)
 (t:∀ x σ,x ∈ xs->I σ->∃ σ1,bd (r x) σ M = .ok σ1 M/\I σ1/\cond σ1 M = .ok (c x) M/\(c x = true->el σ1 M = .ok (f x) M)):yh bd cond el (xs.map r) σ M [] = .ok ((xs.filter c).map f) M:=by
 have key:∀ (xs:List α) (σ:Ev) (acc:List T),(∀ x σ,x ∈ xs->I σ->∃ σ1,bd (r x) σ M = .ok σ1 M/\I σ1/\cond σ1 M = .ok (c x) M/\(c x = true->el σ1 M = .ok (f x) M))->I σ->acc.length + xs.length<=sizeLine->yh bd cond el (xs.map r) σ M acc = .ok (acc ++ (xs.filter c).map f) M:=by
  intro xs
  induction xs with
  | nil=>intro σ acc _ _ _;simp [yh]
  | cons x xs ih=>
   intro σ acc t h hl
   obtain ⟨σ1,e1,h1,e2,e3⟩:=t x σ (.head _) h
   rw [Qo] at hl
   rw [map_cons]
   unfold yh
   rw [e1]
   show ((cond σ1 M).bind _) = _
   rw [e2]
   cases hc:c x with
   | true=>
    have ih:=ih σ1 (acc ++ [f x]) (fun y σ hy=>t y σ (.tail _ hy)) h1 (by rw [Qm,Qo,length_nil];omega)
    show ((el σ1 M).bind _) = _
    rw [e3 hc]
    show (if acc.length < sizeLine then yh bd cond el (xs.map r) σ1 M (acc ++ [f x]) else .bad) = _
    rw [if_pos (by omega),ih,List.filter_cons_of_pos hc]
    simp
   | false=>
    have ih:=ih σ1 acc (fun y σ hy=>t y σ (.tail _ hy)) h1 (by omega)
    show yh bd cond el (xs.map r) σ1 M acc = _
    rw [ih,List.filter_cons_of_neg (by rw [hc];exact Q4)]
 have:=key xs σ [] t h (by rw [length_nil,Nat.zero_add];exact Qi hl (by decide))
 rw [this,nil_append]
theorem Ok.mapc {α:Type} {r:α->T} (I:Ev->Prop) (f:α->T) {xs:List α} (h:I σ) (hl:xs.length<=1000000)
 (t:∀ x σ,x ∈ xs->I σ->∃ σ1,bd (r x) σ M = .ok σ1 M/\I σ1/\el σ1 M = .ok (f x) M):yh bd zO el (xs.map r) σ M [] = .ok (xs.map f) M:=by
 have:=Ok.filt (cond:=zO) I (fun _=>true) f h hl (fun x σ hx hs=>by
  obtain ⟨σ1,a,b,c⟩:=t x σ hx hs
  exact ⟨σ1,a,b,rfl,fun _=>c⟩)
 rw [this,List.filter_eq_self.mpr (fun _ _=>rfl)]
theorem zeQ (M:Mem) (d:Nat):∀ (xs ys:List Int),eqL (eqD M (d + 1)) (xs.map .int) (ys.map .int) = some (decide (xs = ys))
 | [],[]=>by simp [eqL]
 | [],y :: ys=>by simp [eqL]
 | x :: xs,[]=>by simp [eqL]
 | x :: xs,y :: ys=>by
  have ih:=zeQ M d xs ys
  rw [map_cons,map_cons]
  unfold eqL
  rw [show eqD M (d + 1) (.int x) (.int y) = some (x == y) from rfl]
  by_cases e:x = y
  ·simp [e,ih]
  ·simp [e,ih]
theorem Ok.forR {α:Type} {r:α->T} {a:Nat} {xs:List α} (P:Nat->Ev->Mem->Prop) (hP:∀ k σ M,P k σ M->M[a]? = some (.lst (xs.map r)))
 (h:P 0 σ M) (t:∀ (k:Nat) x σ M,xs[k]? = some x->P k σ M->Ok ((bd (r x) σ M).bind fun σ1 M1=>body σ1 M1) fun fl M'=>∃ σ',fl = .nx σ'/\P (k + 1) σ' M') :
  Ok (zbr bd body (.ref a) σ M) fun fl M'=>∃ σ',fl = .nx σ'/\P xs.length σ' M':=by
 have e0:=hP 0 σ M h
 obtain ⟨σ',M',e,p⟩:=zei (bd:=bd) (body:=body) (a:=a) (xs:=xs.map r) P hP (fun k x σ M hx hp=>by
  rw [Qa] at hx
  cases q:xs[k]? with
  | none=>rw [q] at hx;cases hx
  | some y=>
   rw [q] at hx
   cases hx
   obtain ⟨fl,M1,e,σ1,rfl,p⟩:=t k y σ M q hp
   exact ⟨σ1,M1,e,p⟩) xs.length 0 (by simp) σ M h
 refine ⟨.nx σ',M',?_,σ',rfl,by simpa using p⟩
 unfold zbr
 simp only [e0,Qg]
 exact e
theorem Ok.loopG {G:Gd} {bd:T->Ev->Mem->Out Ev} {body:Ev->Mem->Out Fl} {α:Type} {r:α->T} (P:Nat->Ev->Mem->Prop) {R:T->Mem->Prop} (hG:∀ i σ M,P i σ M->zfU G M):∀ (xs:List α) (i:Nat) {σ:Ev} {M:Mem},
  P i σ M->(∀ (k:Nat) x σ M,xs[k]? = some x->P (i + k) σ M->Ok ((bd (r x) σ M).bind fun σ1 M1=>body σ1 M1) fun fl M'=>(∃ σ',(fl = .nx σ'\/fl = .ct σ')/\P (i + k + 1) σ' M')\/(∃ σ',fl = .bk σ'/\P (i + xs.length) σ' M')\/∃ t,fl = .rt t/\R t M')->
  Ok (zcP G bd body (xs.map r) σ M) fun fl M'=>(∃ σ',fl = .nx σ'/\P (i + xs.length) σ' M')\/∃ t,fl = .rt t/\R t M'
 | [],i,σ,M,h,_=>⟨.nx σ,M,by rw [map_nil];unfold zcP;exact zgI (hG _ _ _ h),.inl ⟨σ,rfl,h⟩⟩
 | x :: xs,i,σ,M,h,t=>by
  obtain ⟨fl,M1,e1,h1⟩:=t 0 x σ M rfl h
  rw [map_cons]
  unfold zcP
  rw [zgI (hG _ _ _ h)]
  cases q:bd (r x) σ M with
  | bad=>rw [q] at e1;cases e1
  | exn C fs M'=>rw [q] at e1;cases e1
  | ok σ3 M3=>
   rw [q] at e1
   replace e1:body σ3 M3 = .ok fl M1:=e1
   show Ok ((body σ3 M3).bind (zw (zcP G bd body (xs.map r)))) _
   rw [e1]
   have go:∀ σ1,P (i + 1) σ1 M1->Ok (zcP G bd body (xs.map r) σ1 M1) fun fl M'=>(∃ σ',fl = .nx σ'/\P (i + (x :: xs).length) σ' M')\/∃ t,fl = .rt t/\R t M':=fun σ1 h1=>by
    have ih:=Ok.loopG (R:=R) P hG xs (i + 1) (bd:=bd) (body:=body) h1 (fun k y σ M hk hp=>by
     have:=t (k + 1) y σ M (by simpa using hk) (by rw [show i + (k + 1) = i + 1 + k by omega];exact hp)
     rw [show i + (k + 1) + 1 = i + 1 + k + 1 by omega,Qo,show i + (xs.length + 1) = i + 1 + xs.length by omega] at this
     exact this)
    rw [Qo,show i + (xs.length + 1) = i + 1 + xs.length by omega]
    exact ih
   rcases h1 with ⟨σ1,h1 | h1,h2⟩ | ⟨σ1,h1,h2⟩ | ⟨u,h1,h2⟩
   ·rw [h1];exact go σ1 h2
   ·rw [h1];exact go σ1 h2
   ·rw [h1];exact ⟨.nx σ1,M1,rfl,.inl ⟨σ1,rfl,h2⟩⟩
   ·rw [h1];exact ⟨.rt u,M1,rfl,.inr ⟨u,rfl,h2⟩⟩
def OkX {β:Type} (o:Out β) (Q:β->Mem->Prop) (E:Addr->List (Str × T)->Mem->Prop):Prop:=match o with
 | .ok b M=>Q b M
 | .exn C fs M=>E C fs M
 | .bad=>False
variable {E:Addr->List (Str × T)->Mem->Prop}
theorem OkX.ok {β:Type} {o:Out β} {Q:β->Mem->Prop} (h:Ok o Q):OkX o Q E:=by
 obtain ⟨b,M,rfl,q⟩:=h
 exact q
theorem OkX.bind {β γ:Type} {o:Out β} {k:β->Mem->Out γ} {P:β->Mem->Prop} {Q:γ->Mem->Prop} (h:OkX o P E) (g:∀ b M,P b M->OkX (k b M) Q E):OkX (o.bind k) Q E:=by
 cases o with
 | ok b M=>exact g b M h
 | exn C fs M=>exact h
 | bad=>exact h.elim
end FT
namespace My
open PySem L2 FT
noncomputable def top (i:Nat):Stmt:=PySem.Challenge.pw_tryweir_k56_peaks.main.body.getD i (.Pass ⟨0,0,0,0⟩)
noncomputable abbrev zb2:Stmt:=top 10
noncomputable abbrev zb1:Stmt:=top 11
noncomputable abbrev y3:Stmt:=top 13
noncomputable abbrev zaJ:Stmt:=top 2
noncomputable abbrev zaq:Stmt:=top 1
noncomputable abbrev zba:Stmt:=top 3
noncomputable abbrev zaK:Stmt:=top 6
noncomputable abbrev yT:Stmt:=top 4
noncomputable abbrev y1:Stmt:=top 5
noncomputable abbrev zdU:Stmt:=top 7
noncomputable abbrev zb3:Stmt:=top 9
noncomputable abbrev zbY:Stmt:=top 12
noncomputable abbrev zaL:Stmt:=top 14
noncomputable abbrev zbb:Stmt:=top 16
noncomputable abbrev zb0:Stmt:=top 18
noncomputable abbrev zbc:Stmt:=top 15
noncomputable abbrev zbZ:Stmt:=top 17
noncomputable abbrev zfC:Stmt:=top 19
structure Txt (mg:Str->Option Value):Prop where
 n_max:mg "max" = none
 n_range:mg "range" = none
 n_tuple:mg "tuple" = none
 n_sum:mg "sum" = none
 n_len:mg "len" = none
 n_sorted:mg "sorted" = none
 n_int:mg "int" = none
 n_isinstance:mg "isinstance" = none
 n_bool:mg "bool" = none
 n_all:mg "all" = none
 n_min:mg "min" = none
theorem boot_max:bootBuiltins "max" = some (.builtin "max"):=by decide +kernel
theorem boot_range:bootBuiltins "range" = some (.type "range"):=by decide +kernel
theorem boot_tuple:bootBuiltins "tuple" = some (.type "tuple"):=by decide +kernel
theorem boot_sum:bootBuiltins "sum" = some (.builtin "sum"):=by decide +kernel
theorem boot_len:bootBuiltins "len" = some (.builtin "len"):=by decide +kernel
theorem boot_sorted:bootBuiltins "sorted" = some (.builtin "sorted"):=by decide +kernel
theorem boot_int:bootBuiltins "int" = some (.type "int"):=by decide +kernel
theorem boot_isinstance:bootBuiltins "isinstance" = some (.builtin "isinstance"):=by decide +kernel
theorem boot_bool:bootBuiltins "bool" = some (.type "bool"):=by decide +kernel
theorem boot_all:bootBuiltins "all" = some (.builtin "all"):=by decide +kernel
theorem boot_min:bootBuiltins "min" = some (.builtin "min"):=by decide +kernel
end My
theorem FT.nc_l {k:PySem.NameKind} {P:Prop} (e:(k == .cell || k == .free) = false) (h:k = .cell\/k = .free):P:=by
 rcases h with rfl | rfl
 ·exact absurd e (by decide)
 ·exact absurd e (by decide)
open PySem L2 FT in
local macro_rules | `(tactic| bv_omega) => `(tactic| exact ⟨rfl, rfl, by decide +kernel, rfl, by decide +kernel, by first | exact (fun _ _ h => h) | exact zea (by repeat (first | exact True.intro | refine ⟨rfl, ?_⟩)), fun _ => zke (by repeat (first | exact True.intro | (refine ⟨?_, ?_⟩; first | exact (fun _ => ⟨_, rfl⟩) | exact nc_l rfl | exact (fun h => h.elim (fun h => nomatch h) (fun h => nomatch h))))), by repeat (first | exact List.forall_mem_nil _ | refine List.forall_mem_cons.mpr ⟨⟨rfl, rfl, by first | exact .inl rfl | exact .inr rfl⟩, ?_⟩)⟩)
namespace My
open PySem L2 FT
noncomputable def zeg:Ev->Mem->Out Fl:=
 (yq (eTk (qF (qa (ze (call2 zd9) (qa (eC (.int 0)) (qa (eOp qY (zb 0) (eOp y4 (eC (.int 10)) (eC (.int 18)))) zd))) (qa (eOp yQ (zb 0) (eOp y4 (eC (.int 10)) (eC (.int 18)))) (qa (eC (.int 0)) zd))))))
noncomputable def y6:List FT.T->Mem->Out FT.T:=yg 1 1 (zeg)
variable {K:Frag} {base:Heap} {P:Program} {mg:Str->Option Value} {w:World}
section
theorem zgg:FnScope ["cell"] ["cell"] (yd zb2):=by ac_rfl
theorem zad (D:Df K mg "_law_left" zb2 ["cell"]) (T:Txt mg)   :CalT P w K mg base 1 "_law_left" ["cell"] y6:=
 yn D zgg rfl rfl (fun f cdv A outer s H E hr=>(ye (qg (zce (qt (za (zj (zde rfl) rfl T.n_max boot_max (za yb (za (qc yJ (ya (pv 0)) (qc qJ yb yb)) zc))) (za (qc zK (ya (pv 0)) (qc qJ yb yb)) (za yb zc))))))))
end
noncomputable def zef:Ev->Mem->Out Fl:=
 (qf (sIf (zD (eOp gtI (eOp ixT (zb 0) (eC (.int 0))) (eC (.int 0)))) (qf (zk 2 (eOp yQ (eOp ixT (zb 0) (eC (.int 0))) (zb 1)))
 (qf (zdX (eOp z8 (eOp ixT (zb 0) (eC (.int 0))) (zb 1)) (zeu zbX (zb 0) (eC (.int 0))))
 (yq (zb 2)))) z4)
 (qf (zdX (eOp ym (eOp ixT (zb 0) (eC (.int 2))) (eC (.int 1))) (zeu zbX (zb 0) (eC (.int 2))))
 (qf (zk 3 (eOp yQ (eOp ym (eOp ixT (zb 0) (eC (.int 1))) (eOp zI (eC (.int 7919)) (eOp ixT (zb 0) (eC (.int 2))))) (eC (.int 1000000007))))
 (qf (zk 4 (eOp yQ (eOp zI (eOp ym (zb 3) (eC (.int 11))) (eOp ym (zb 3) (eC (.int 48271)))) (eC (.int 998244353))))
 (yq (eOp yQ (eOp z8 (eOp yQ (eOp zI (zb 4) (zb 4)) (eC (.int 2147483647))) (eC (.int 8))) (zb 1)))))))
noncomputable def zl:List FT.T->Mem->Out FT.T:=yg 2 5 (zef)
section
theorem zaj:FnScope ["pool","base","digit","mixed","stir"] ["pool","base"] (yd zb1):=by ac_rfl
theorem qi (D:Df K mg "_law_next" zb1 ["pool","base"]) (T:Txt mg)   :CalT P w K mg base 1 "_law_next" ["pool","base"] zl:=
 yn D zaj rfl rfl (fun f cdv A outer s H E hr=>(yc (qN (qE zcm (qh qr (ya (pv 0)) yb (fun _ _=>rfl)) yb (qH _)) (yc (yf (i:=2) zaj.nd rfl (Or.inl rfl) (qc zK (qh qr (ya (pv 0)) yb (fun _ _=>rfl)) (ya (pv 1))))
  (yc (zcF (qc zax (qh qr (ya (pv 0)) yb (fun _ _=>rfl)) (ya (pv 1))) (zcG (ya (pv 0)) yb zds))
  (ye (qg (ya (pv 2)))))) yC)
  (yc (zcF (qc zh (qh qr (ya (pv 0)) yb (fun _ _=>rfl)) yb) (zcG (ya (pv 0)) yb zds))
  (yc (yf (i:=3) zaj.nd rfl (Or.inl rfl) (qc zK (qc zh (qh qr (ya (pv 0)) yb (fun _ _=>rfl)) (qc qW yb (qh qr (ya (pv 0)) yb (fun _ _=>rfl)))) yb))
  (yc (yf (i:=4) zaj.nd rfl (Or.inl rfl) (qc zK (qc qW (qc zh (ya (pv 3)) yb) (qc zh (ya (pv 3)) yb)) yb))
  (ye (qg (qc zK (qc zax (qc zK (qc qW (ya (pv 4)) (ya (pv 4))) yb) yb) (ya (pv 1))))))))))
end
noncomputable def zV:Ev->Mem->Out Fl:=
 (qf (zk 3 (ze zl (qa (zb 0) (qa (eOp ixT (eFz (qF (qa (eC (.int 1)) (qa (eC (.int 3)) (qa (eC (.int 12)) (qa (eC (.int 200)) (qa (eOp ym (eOp y4 (eC (.int 10)) (eC (.int 6))) (eC (.int 1))) zd))))))) (ze zl (qa (zb 0) (qa (eC (.int 5)) zd)))) zd))))
 (zdW (zdz zag (eUn yO (zb 1)) (qa (zca (qa (zb 3) (qa (eOp ym (eC (.int 1)) (ze zl (qa (zb 0) (qa (eOp ixT (eFz (qF (qa (eC (.int 1)) (qa (eC (.int 2)) (qa (eC (.int 4)) (qa (eC (.int 12)) (qa (eC (.int 1000)) zd))))))) (ze zl (qa (zb 0) (qa (eC (.int 5)) zd)))) zd)))) zd))) zd))))
noncomputable def zbh:Ev->Mem->Out Fl:=
 (qf (zk 1 (eTk (qF zd)))
 (qf (qT (yX (qa (eOp ym (eC (.int 1)) (ze zl (qa (zb 0) (qa (eC (.int 6)) zd)))) zd)) (zg 2) zV)
 (yq (ze (yr za4) (qa (zb 1) zd)))))
noncomputable def qI:List FT.T->Mem->Out FT.T:=yg 1 4 (zbh)
section
theorem yL:FnScope ["pool","found","k","wait"] ["pool"] (yd y3):=by ac_rfl
theorem zJ (D:Df K mg "_law_strewing" y3 ["pool"]) (T:Txt mg)   (qi:CalT P w K mg base 1 "_law_next" ["pool","base"] zl):CalT P w K mg base 2 "_law_strewing" ["pool"] qI:=
 yn D yL rfl rfl (fun f cdv A outer s H E hr=>(yc (yf (i:=1) yL.nd rfl (Or.inl rfl) (zce (qt zc)))
  (yc (zF PassesOwn.never rfl (yV rfl T.n_range (za (qc zh yb (zf qi (hr.mono (by decide)) rfl (za (ya (pv 0)) (za yb zc)))) zc)) (yi (zm (i:=2) yL.nd rfl (by first | exact Or.inl rfl | exact Or.inr rfl))) (yc (yf (i:=3) yL.nd rfl (Or.inl rfl) (zf qi (hr.mono (by decide)) rfl (za (ya (pv 0)) (za (qh qr (qu (qt (za yb (za yb (za yb (za yb (za (qc zh (qc qJ yb yb) yb) zc))))))) (zf qi (hr.mono (by decide)) rfl (za (ya (pv 0)) (za yb zc))) (fun _ _=>rfl)) zc))))
  (ye (zcE (zeP (zdu PySem.F.plainAttrs_list PySem.F.slot_list_append PySem.F.type_list_append zal (WE.pe (ya (pv 1))) (WA.pe (za (zat (za (ya (pv 3)) (za (qc zh yb (zf qi (hr.mono (by decide)) rfl (za (ya (pv 0)) (za (qh qr (qu (qt (za yb (za yb (za yb (za yb (za yb zc))))))) (zf qi (hr.mono (by decide)) rfl (za (ya (pv 0)) (za yb zc))) (fun _ _=>rfl)) zc)))) zc))) zc))))))))
  (ye (qg (zfn zeL rfl T.n_tuple boot_tuple (za (ya (pv 1)) zc)))))))
end
noncomputable def zct:Ev->Mem->Out Fl:=
 (yq (ze (yr sumK) (qa (eFz (yD (zU (eSl (zb 0) zaN (zaM (zb 1)))) (yU 2 (zq (zg 0) (zq (zg 1) qU))) zO (zb 0) ["wait","width"] [])) zd)))
noncomputable def zu:List FT.T->Mem->Out FT.T:=yg 2 2 (zct)
section
theorem zeC:FnScope ["strewing","j"] ["strewing","j"] (yd zaJ):=by ac_rfl
theorem yp (D:Df K mg "start_of" zaJ ["strewing","j"]) (T:Txt mg)   :CalT P w K mg base 1 "start_of" ["strewing","j"] zu:=
 yn D zeC rfl rfl (fun f cdv A outer s H E hr=>(ye (qg (zj (zbo rfl) rfl T.n_sum boot_sum (za (qu (zaE (tgs:=["wait","width"]) (caps:=[]) (qL (zdF (ya (pv 0)) zbO (zbN (ya (pv 1))))) (by bv_omega) (fun _ _ _=>(zbq (zck rfl (WGs.pe (qB (yH (WG.pe (yi (zm (i:=0) (show (["wait","width"]:List Str).Nodup by decide +kernel) rfl (by first | exact Or.inl rfl | exact Or.inr rfl)))) (WGs.pe (qB (yH (WG.pe (yi (zm (i:=1) (show (["wait","width"]:List Str).Nodup by decide +kernel) rfl (by first | exact Or.inl rfl | exact Or.inr rfl)))) (WGs.pe zaG)))))))))) (fun _ _ _=>zY) (fun _ _ _=>(ya (pv 0))))) zc)))))
end
noncomputable def zaf:Ev->Mem->Out Fl:=
 (zfD 2 zd7 (zb 4))
noncomputable def zbK:Ev->Mem->Out Fl:=
 (qf (zk 2 (eC (.int 1)))
 (qf (qT (zU (eSl (zb 0) zaN (zaM (zb 1)))) (yU 2 (zq (zg 3) (zq (zg 4) qU))) zaf)
 (yq (zb 2))))
noncomputable def qA:List FT.T->Mem->Out FT.T:=yg 2 5 (zbK)
section
theorem qG:FnScope ["strewing","j","spread","wait","width"] ["strewing","j"] (yd zaq):=by ac_rfl
theorem yu (D:Df K mg "spread_of" zaq ["strewing","j"]) (T:Txt mg)   :CalT P w K mg base 1 "spread_of" ["strewing","j"] qA:=
 yn D qG rfl rfl (fun f cdv A outer s H E hr=>(yc (yf (i:=2) qG.nd rfl (Or.inl rfl) yb)
  (yc (zF PassesOwn.never rfl (qL (zdF (ya (pv 0)) zbO (zbN (ya (pv 1))))) (zbq (zck rfl (WGs.pe (qB (yH (WG.pe (yi (zm (i:=3) qG.nd rfl (by first | exact Or.inl rfl | exact Or.inr rfl)))) (WGs.pe (qB (yH (WG.pe (yi (zm (i:=4) qG.nd rfl (by first | exact Or.inl rfl | exact Or.inr rfl)))) (WGs.pe zaG))))))))) (ye (zh0 (i:=2) qG.nd rfl (Or.inl rfl) (ya (pv 4)) ziT)))
  (ye (qg (ya (pv 2)))))))
end
noncomputable def zda:Ev->Mem->Out Fl:=
 (yq (eOp ym (ze zu (qa (zb 0) (qa (zb 2) zd))) (eOp yQ (zb 1) (ze qA (qa (zb 0) (qa (zb 2) zd))))))
noncomputable def yM:List FT.T->Mem->Out FT.T:=yg 3 3 (zda)
section
theorem zfA:FnScope ["strewing","errand","j"] ["strewing","errand","j"] (yd zba):=by ac_rfl
theorem yS (D:Df K mg "tick_of" zba ["strewing","errand","j"]) (T:Txt mg)   (yp:CalT P w K mg base 1 "start_of" ["strewing","j"] zu) (yu:CalT P w K mg base 1 "spread_of" ["strewing","j"] qA):CalT P w K mg base 2 "tick_of" ["strewing","errand","j"] yM:=
 yn D zfA rfl rfl (fun f cdv A outer s H E hr=>(ye (qg (qc zh (zf yp (hr.mono (by decide)) rfl (za (ya (pv 0)) (za (ya (pv 2)) zc))) (qc zK (ya (pv 1)) (zf yu (hr.mono (by decide)) rfl (za (ya (pv 0)) (za (ya (pv 2)) zc))))))))
end
noncomputable def zbM:Ev->Mem->Out Fl:=
 (zdW (zaC zcq zcQ (zb 2) (qa (eFz (qF (qa (ze zu (qa (zb 0) (qa (zb 3) zd))) (qa (ze yM (qa (zb 0) (qa (zb 1) (qa (zb 3) zd)))) zd)))) zd)))
noncomputable def zcu:Ev->Mem->Out Fl:=
 (qf (zk 2 (eTk (qF zd)))
 (qf (qT (zaA (qa (eC (.int 1)) (qa (eOp ym (ze (yr zar) (qa (zb 0) zd)) (eC (.int 1))) zd))) (zg 3) zbM)
 (yq (eFz (zbz qw (qa (zb 2) zd))))))
noncomputable def qV:List FT.T->Mem->Out FT.T:=yg 2 4 (zcu)
section
theorem zap:FnScope ["strewing","low","ticks","j"] ["strewing","low"] (yd zaK):=by ac_rfl
theorem zP (D:Df K mg "rises_of" zaK ["strewing","low"]) (T:Txt mg)   (yp:CalT P w K mg base 1 "start_of" ["strewing","j"] zu) (yS:CalT P w K mg base 2 "tick_of" ["strewing","errand","j"] yM):CalT P w K mg base 3 "rises_of" ["strewing","low"] qV:=
 yn D zap rfl rfl (fun f cdv A outer s H E hr=>(yc (yf (i:=2) zap.nd rfl (Or.inl rfl) (zce (qt zc)))
  (yc (zF PassesOwn.never rfl (zaF rfl T.n_range (za yb (za (qc zh (zj yN rfl T.n_len boot_len (za (ya (pv 0)) zc)) yb) zc))) (yi (zm (i:=3) zap.nd rfl (by first | exact Or.inl rfl | exact Or.inr rfl))) (ye (zcE (zdG zjh (zdu PySem.F.plainAttrs_list PySem.F.slot_list_extend PySem.F.type_list_extend ziF (WE.pe (ya (pv 2))) (WA.pe (za (qu (qt (za (zf yp (hr.mono (by decide)) rfl (za (ya (pv 0)) (za (ya (pv 3)) zc))) (za (zf yS (hr.mono (by decide)) rfl (za (ya (pv 0)) (za (ya (pv 1)) (za (ya (pv 3)) zc)))) zc)))) zc)))))))
  (ye (qg (qu (za3 (y9 rfl) rfl T.n_sorted boot_sorted (za (ya (pv 2)) zc))))))))
end
noncomputable def za1:Ev->Mem->Out Fl:=
 (qf (zk 5 (ze qA (qa (zb 0) (qa (zb 4) zd))))
 (qf (zk 6 (eOp qY (zb 3) (ze zu (qa (zb 0) (qa (zb 4) zd)))))
 (qf (sIf (zcg (zD (zbk leI ltI (eC (.int 0)) (zb 6) (zb 5)))) (yq (eC (.int 0))) z4)
 (yq (eOp qY (eOp z8 (eOp qY (eOp qY (zb 2) (eC (.int 1))) (zb 6)) (zb 5)) (eOp z8 (eOp qY (eOp qY (zb 1) (eC (.int 1))) (zb 6)) (zb 5)))))))
noncomputable def zx:List FT.T->Mem->Out FT.T:=yg 5 7 (za1)
section
theorem qP:FnScope ["strewing","low","high","tick","j","spread","rest"] ["strewing","low","high","tick","j"] (yd yT):=by ac_rfl
theorem yE (D:Df K mg "load_of_one" yT ["strewing","low","high","tick","j"]) (T:Txt mg)   (yu:CalT P w K mg base 1 "spread_of" ["strewing","j"] qA) (yp:CalT P w K mg base 1 "start_of" ["strewing","j"] zu):CalT P w K mg base 2 "load_of_one" ["strewing","low","high","tick","j"] zx:=
 yn D qP rfl rfl (fun f cdv A outer s H E hr=>(yc (yf (i:=5) qP.nd rfl (Or.inl rfl) (zf yu (hr.mono (by decide)) rfl (za (ya (pv 0)) (za (ya (pv 4)) zc))))
  (yc (yf (i:=6) qP.nd rfl (Or.inl rfl) (qc yJ (ya (pv 3)) (zf yp (hr.mono (by decide)) rfl (za (ya (pv 0)) (za (ya (pv 4)) zc)))))
  (yc (qN (zcD (zf6 zjR zcl yb (ya (pv 6)) (ya (pv 5)))) (ye (qg yb)) yC)
  (ye (qg (qc yJ (qc zax (qc yJ (qc yJ (ya (pv 2)) yb) (ya (pv 6))) (ya (pv 5))) (qc zax (qc yJ (qc yJ (ya (pv 1)) yb) (ya (pv 6))) (ya (pv 5))))))))))
end
noncomputable def zbg:Ev->Mem->Out Fl:=
 (yq (ze (yr sumK) (qa (eFz (yD (zaA (qa (eC (.int 1)) (qa (eOp ym (ze (yr zar) (qa (zb 0) zd)) (eC (.int 1))) zd))) (zg 0) zO (ze zx (qa (zb 1) (qa (zb 2) (qa (zb 3) (qa (zb 4) (qa (zb 0) zd)))))) ["j"] [("strewing",0),("low",1),("high",2),("tick",3)])) zd)))
noncomputable def zt:List FT.T->Mem->Out FT.T:=yg 4 4 (zbg)
section
theorem zdn:FnScope ["strewing","low","high","tick"] ["strewing","low","high","tick"] (yd y1):=by ac_rfl
theorem zp (D:Df K mg "strew_load" y1 ["strewing","low","high","tick"]) (T:Txt mg)   (yE:CalT P w K mg base 2 "load_of_one" ["strewing","low","high","tick","j"] zx):CalT P w K mg base 3 "strew_load" ["strewing","low","high","tick"] zt:=
 yn D zdn rfl rfl (fun f cdv A outer s H E hr=>(ye (qg (zj (zbo rfl) rfl T.n_sum boot_sum (za (qu (zaE (tgs:=["j"]) (caps:=[("strewing",0),("low",1),("high",2),("tick",3)]) (zaF rfl T.n_range (za yb (za (qc zh (zj yN rfl T.n_len boot_len (za (ya (pv 0)) zc)) yb) zc))) (by bv_omega) (fun _ _ _=>(yi (zm (i:=0) (show (["j","strewing","low","high","tick"]:List Str).Nodup by decide +kernel) rfl (by first | exact Or.inl rfl | exact Or.inr rfl)))) (fun _ _ _=>zY) (fun _ _ _=>(zf yE (hr.mono (by decide)) rfl (za (ya (pv 1)) (za (ya (pv 2)) (za (ya (pv 3)) (za (ya (pv 4)) (za (ya (pv 0)) zc))))))))) zc)))))
end
noncomputable def zfl:Ev->Mem->Out Fl:=
 (qf (zk 5 (ze zt (qa (zb 0) (qa (zb 1) (qa (zb 2) (qa (zb 4) zd))))))
 (sIf (zD (eOp gtI (zb 5) (eOp ixT (zb 3) (eC (.int 0))))) (zk 3 (zca (qa (zb 5) (qa (zb 4) zd)))) z4))
noncomputable def zgJ:Ev->Mem->Out Fl:=
 (qf (zk 3 (zca (qa (eC (.int 0)) (qa (eC (.int 0)) zd))))
 (qf (qT (zU (ze qV (qa (zb 0) (qa (zb 1) zd)))) (zg 4) zfl)
 (yq (zb 3))))
noncomputable def zbj:List FT.T->Mem->Out FT.T:=yg 3 6 (zgJ)
section
theorem zau:FnScope ["strewing","low","high","greatest","tick","load"] ["strewing","low","high"] (yd zdU):=by ac_rfl
theorem zaD (D:Df K mg "peak" zdU ["strewing","low","high"]) (T:Txt mg)   (zP:CalT P w K mg base 3 "rises_of" ["strewing","low"] qV) (zp:CalT P w K mg base 3 "strew_load" ["strewing","low","high","tick"] zt):CalT P w K mg base 4 "peak" ["strewing","low","high"] zbj:=
 yn D zau rfl rfl (fun f cdv A outer s H E hr=>(yc (yf (i:=3) zau.nd rfl (Or.inl rfl) (zat (za yb (za yb zc))))
  (yc (zF PassesOwn.never rfl (qL (zf zP (hr.mono (by decide)) rfl (za (ya (pv 0)) (za (ya (pv 1)) zc)))) (yi (zm (i:=4) zau.nd rfl (by first | exact Or.inl rfl | exact Or.inr rfl))) (yc (yf (i:=5) zau.nd rfl (Or.inl rfl) (zf zp (hr.mono (by decide)) rfl (za (ya (pv 0)) (za (ya (pv 1)) (za (ya (pv 2)) (za (ya (pv 4)) zc))))))
  (ye (qN (qE zcm (ya (pv 5)) (qh qr (ya (pv 3)) yb (fun _ _=>rfl)) (qH _)) (ye (yf (i:=3) zau.nd rfl (Or.inl rfl) (zat (za (ya (pv 5)) (za (ya (pv 4)) zc))))) yC))))
  (ye (qg (ya (pv 3)))))))
end
noncomputable def zeh:Ev->Mem->Out Fl:=
 (qf (sIf (zD (eOp ltI (zb 1) (ze (yr zar) (qa (zb 0) zd)))) (yq (eOp ixT (zb 0) (zb 1))) z4)
 (yq (eC (.int 0))))
noncomputable def z7:List FT.T->Mem->Out FT.T:=yg 2 2 (zeh)
section
theorem zgh:FnScope ["script","k"] ["script","k"] (yd zb3):=by ac_rfl
theorem zae (D:Df K mg "_law_cell" zb3 ["script","k"]) (T:Txt mg)   :CalT P w K mg base 1 "_law_cell" ["script","k"] z7:=
 yn D zgh rfl rfl (fun f cdv A outer s H E hr=>(yc (qN (qE zcl (ya (pv 1)) (zj yN rfl T.n_len boot_len (za (ya (pv 0)) zc)) (qH _)) (ye (qg (qh qr (ya (pv 0)) (ya (pv 1)) (fun _ _=>rfl)))) yC)
  (ye (qg yb))))
end
noncomputable def zam:Ev->Mem->Out Fl:=
 (zk 2 (eOp ym (eOp zI (zb 2) (eOp y4 (eC (.int 2)) (eC (.int 28)))) (ze zl (qa (zb 0) (qa (eOp y4 (eC (.int 2)) (eC (.int 28))) zd)))))
noncomputable def zec:Ev->Mem->Out Fl:=
 (qf (sIf (zD (eOp ltI (zb 1) (eOp y4 (eC (.int 10)) (eC (.int 8))))) (yq (ze zl (qa (zb 0) (qa (zb 1) zd)))) z4)
 (qf (zk 2 (eC (.int 0)))
 (qf (qT (yX (qa (eC (.int 4)) zd)) (zg 3) zam)
 (yq (eOp yQ (zb 2) (zb 1))))))
noncomputable def z6:List FT.T->Mem->Out FT.T:=yg 2 4 (zec)
section
theorem zai:FnScope ["pool","base","found","k"] ["pool","base"] (yd zbY):=by ac_rfl
theorem zab (D:Df K mg "_law_wide" zbY ["pool","base"]) (T:Txt mg)   (qi:CalT P w K mg base 1 "_law_next" ["pool","base"] zl):CalT P w K mg base 2 "_law_wide" ["pool","base"] z6:=
 yn D zai rfl rfl (fun f cdv A outer s H E hr=>(yc (qN (qE zcl (ya (pv 1)) (qc qJ yb yb) (qH _)) (ye (qg (zf qi (hr.mono (by decide)) rfl (za (ya (pv 0)) (za (ya (pv 1)) zc))))) yC)
  (yc (yf (i:=2) zai.nd rfl (Or.inl rfl) yb)
  (yc (zF PassesOwn.never rfl (yV rfl T.n_range (za yb zc)) (yi (zm (i:=3) zai.nd rfl (by first | exact Or.inl rfl | exact Or.inr rfl))) (ye (yf (i:=2) zai.nd rfl (Or.inl rfl) (qc zh (qc qW (ya (pv 2)) (qc qJ yb yb)) (zf qi (hr.mono (by decide)) rfl (za (ya (pv 0)) (za (qc qJ yb yb) zc)))))))
  (ye (qg (qc zK (ya (pv 2)) (ya (pv 1)))))))))
end
noncomputable def zcv:Ev->Mem->Out Fl:=
 (yq (ze z6 (qa (zb 0) (qa (eOp ixT (eFz (qF (qa (eC (.int 10)) (qa (eC (.int 100)) (qa (eOp y4 (eC (.int 10)) (eC (.int 6))) (qa (eOp ym (eOp y4 (eC (.int 10)) (eC (.int 12))) (eC (.int 1))) zd)))))) (ze zl (qa (zb 0) (qa (eC (.int 4)) zd)))) zd))))
noncomputable def zy:List FT.T->Mem->Out FT.T:=yg 1 1 (zcv)
section
theorem zeD:FnScope ["pool"] ["pool"] (yd zaL):=by ac_rfl
theorem zA (D:Df K mg "_law_errand" zaL ["pool"]) (T:Txt mg)   (zab:CalT P w K mg base 2 "_law_wide" ["pool","base"] z6) (qi:CalT P w K mg base 1 "_law_next" ["pool","base"] zl):CalT P w K mg base 3 "_law_errand" ["pool"] zy:=
 yn D zeD rfl rfl (fun f cdv A outer s H E hr=>(ye (qg (zf zab (hr.mono (by decide)) rfl (za (ya (pv 0)) (za (qh qr (qu (qt (za yb (za yb (za (qc qJ yb yb) (za (qc zh (qc qJ yb yb) yb) zc)))))) (zf qi (hr.mono (by decide)) rfl (za (ya (pv 0)) (za yb zc))) (fun _ _=>rfl)) zc))))))
end
noncomputable def zgK:Ev->Mem->Out Fl:=
 (yq (zek (ze (call2 zX) (qa (zb 0) (qa (eC (.ty "int")) zd))) (zhK (ze (call2 zX) (qa (zb 0) (qa (eC (.ty "bool")) zd))))))
noncomputable def zS:List FT.T->Mem->Out FT.T:=yg 1 1 (zgK)
section
theorem zfB:FnScope ["thing"] ["thing"] (yd zbb):=by ac_rfl
theorem qS (D:Df K mg "_law_whole" zbb ["thing"]) (T:Txt mg)   :CalT P w K mg base 1 "_law_whole" ["thing"] zS:=
 yn D zfB rfl rfl (fun f cdv A outer s H E hr=>(ye (qg (zcH (zj zaa rfl T.n_isinstance boot_isinstance (za (ya (pv 0)) (za (zbP rfl T.n_int boot_int) zc))) (zeO (zh1 (zj zaa rfl T.n_isinstance boot_isinstance (za (ya (pv 0)) (za (zbP rfl T.n_bool boot_bool) zc)))))))))
end
noncomputable def zee:Ev->Mem->Out Fl:=
 (yq (zek (ze (call2 zX) (qa (zb 0) (qa (eC (.ty "tuple")) zd))) (zek (eOp eqA (ze (yr zar) (qa (zb 0) zd)) (eC (.int 2))) (ze (yr zez) (qa (eFz (yD (zU (zb 0)) (zg 0) zO (ze zS (qa (zb 0) zd)) ["part"] [])) zd)))))
noncomputable def qQ:List FT.T->Mem->Out FT.T:=yg 1 1 (zee)
section
theorem zgf:FnScope ["found"] ["found"] (yd zb0):=by ac_rfl
theorem zR (D:Df K mg "_law_pair" zb0 ["found"]) (T:Txt mg)   (qS:CalT P w K mg base 1 "_law_whole" ["thing"] zS):CalT P w K mg base 2 "_law_pair" ["found"] qQ:=
 yn D zgf rfl rfl (fun f cdv A outer s H E hr=>(ye (qg (zcH (zj zaa rfl T.n_isinstance boot_isinstance (za (ya (pv 0)) (za (zbP rfl T.n_tuple boot_tuple) zc))) (zcH (zh3 (zgr hr.units) (zj yN rfl T.n_len boot_len (za (ya (pv 0)) zc)) yb (qH _)) (zeO (zj (zgX rfl) rfl T.n_all boot_all (za (qu (zaE (tgs:=["part"]) (caps:=[]) (qL (ya (pv 0))) (by bv_omega) (fun _ _ _=>(yi (zm (i:=0) (show (["part"]:List Str).Nodup by decide +kernel) rfl (by first | exact Or.inl rfl | exact Or.inr rfl)))) (fun _ _ _=>zY) (fun _ _ _=>(zf qS (hr.mono (by decide)) rfl (za (ya (pv 0)) zc))))) zc))))))))
end
noncomputable def zW:Ev->Mem->Out Fl:=
 (qf (zk 4 (eOp ym (eOp ym (zb 4) (zb 6)) (eOp zI (zb 3) (eOp yQ (zb 2) (zb 7)))))
 (qf (zk 2 (eOp z8 (zb 2) (zb 7)))
 (qf (zk 3 (eOp zI (zb 3) (zb 7)))
 (zdW (zdz zag (eUn yO (zb 5)) (qa (zb 4) zd))))))
noncomputable def zdb:Ev->Mem->Out Fl:=
 (qf (zk 2 (zb 1))
 (qf (zk 3 (eC (.int 1)))
 (qf (zk 4 (eC (.int 0)))
 (qf (zk 5 (eTk (qF zd)))
 (qf (qT (zU (zb 0)) (yU 2 (zq (zg 6) (zq (zg 7) qU))) zW)
 (yq (zb 5)))))))
noncomputable def zC:List FT.T->Mem->Out FT.T:=yg 2 8 (zdb)
section
theorem qq:FnScope ["strewing","errand","rest","ahead","tick","found","wait","width"] ["strewing","errand"] (yd zbc):=by ac_rfl
theorem qz (D:Df K mg "_law_ticks" zbc ["strewing","errand"]) (T:Txt mg)   :CalT P w K mg base 1 "_law_ticks" ["strewing","errand"] zC:=
 yn D qq rfl rfl (fun f cdv A outer s H E hr=>(yc (yf (i:=2) qq.nd rfl (Or.inl rfl) (ya (pv 1)))
  (yc (yf (i:=3) qq.nd rfl (Or.inl rfl) yb)
  (yc (yf (i:=4) qq.nd rfl (Or.inl rfl) yb)
  (yc (yf (i:=5) qq.nd rfl (Or.inl rfl) (zce (qt zc)))
  (yc (zF PassesOwn.never rfl (qL (ya (pv 0))) (zbq (zck rfl (WGs.pe (qB (yH (WG.pe (yi (zm (i:=6) qq.nd rfl (by first | exact Or.inl rfl | exact Or.inr rfl)))) (WGs.pe (qB (yH (WG.pe (yi (zm (i:=7) qq.nd rfl (by first | exact Or.inl rfl | exact Or.inr rfl)))) (WGs.pe zaG))))))))) (yc (yf (i:=4) qq.nd rfl (Or.inl rfl) (qc zh (qc zh (ya (pv 4)) (ya (pv 6))) (qc qW (ya (pv 3)) (qc zK (ya (pv 2)) (ya (pv 7))))))
  (yc (yf (i:=2) qq.nd rfl (Or.inl rfl) (qc zax (ya (pv 2)) (ya (pv 7))))
  (yc (yf (i:=3) qq.nd rfl (Or.inl rfl) (qc qW (ya (pv 3)) (ya (pv 7))))
  (ye (zcE (zeP (zdu PySem.F.plainAttrs_list PySem.F.slot_list_append PySem.F.type_list_append zal (WE.pe (ya (pv 5))) (WA.pe (za (ya (pv 4)) zc))))))))))
  (ye (qg (ya (pv 5))))))))))
end
noncomputable def zdl:Ev->Mem->Out Fl:=
 (zdX (eOp ym (zaC zcr zbD (zb 3) (qa (zb 5) (qa (eC (.int 0)) zd))) (eC (.int 1))) (zeu zcJ (zb 3) (zb 5)))
noncomputable def zdk:Ev->Mem->Out Fl:=
 (zdt (ze zC (qa (zb 0) (qa (zb 4) zd))) (zg 5) zdl)
noncomputable def zdj:Ev->Mem->Out Fl:=
 (sIf (zD (eOp gtI (eOp ixD (zb 3) (zb 5)) (eOp ixD (zb 6) (eC (.int 0))))) (zk 6 (zca (qa (eOp ixD (zb 3) (zb 5)) (qa (zb 5) zd)))) z4)
noncomputable def zed:Ev->Mem->Out Fl:=
 (qf (zk 3 zfW)
 (qf (qT (zaA (qa (zb 1) (qa (zb 2) zd))) (zg 4) zdk)
 (qf (zk 6 (zca (qa (eC (.int 0)) (qa (eC (.int 0)) zd))))
 (qf (qT (zU (eFz (zbz qw (qa (zb 3) zd)))) (zg 5) zdj)
 (yq (zb 6))))))
noncomputable def zaV:List FT.T->Mem->Out FT.T:=yg 3 7 (zed)
section
theorem zH:FnScope ["strewing","low","high","counts","errand","tick","best"] ["strewing","low","high"] (yd zbZ):=by ac_rfl
theorem zac (D:Df K mg "_law_peak" zbZ ["strewing","low","high"]) (T:Txt mg)   (qz:CalT P w K mg base 1 "_law_ticks" ["strewing","errand"] zC):CalT P w K mg base 2 "_law_peak" ["strewing","low","high"] zaV:=
 yn D zH rfl rfl (fun f cdv A outer s H E hr=>(yc (yf (i:=3) zH.nd rfl (Or.inl rfl) zh2)
  (yc (zF PassesOwn.never rfl (zaF rfl T.n_range (za (ya (pv 1)) (za (ya (pv 2)) zc))) (yi (zm (i:=4) zH.nd rfl (by first | exact Or.inl rfl | exact Or.inr rfl))) (ye (zg2 PassesOwn.never rfl (zf qz (hr.mono (by decide)) rfl (za (ya (pv 0)) (za (ya (pv 4)) zc))) (yi (zm (i:=5) zH.nd rfl (by first | exact Or.inl rfl | exact Or.inr rfl))) (ye (zcF (qc zh (zdG zji (zdu PySem.F.plainAttrs_dict PySem.F.slot_dict_get PySem.F.type_dict_get (ziG hr.units) (WE.pe (ya (pv 3))) (WA.pe (za (ya (pv 5)) (za yb zc))))) yb) (zcG (ya (pv 3)) (ya (pv 5)) (zkU hr.units)))))))
  (yc (yf (i:=6) zH.nd rfl (Or.inl rfl) (zat (za yb (za yb zc))))
  (yc (zF PassesOwn.never rfl (qL (qu (za3 (y9 rfl) rfl T.n_sorted boot_sorted (za (ya (pv 3)) zc)))) (yi (zm (i:=5) zH.nd rfl (by first | exact Or.inl rfl | exact Or.inr rfl))) (ye (qN (qE zcm (qh (zhw hr.units) (ya (pv 3)) (ya (pv 5)) (fun _ _=>rfl)) (qh (zhw hr.units) (ya (pv 6)) yb (fun _ _=>rfl)) (qH _)) (ye (yf (i:=6) zH.nd rfl (Or.inl rfl) (zat (za (qh (zhw hr.units) (ya (pv 3)) (ya (pv 5)) (fun _ _=>rfl)) (za (ya (pv 5)) zc))))) yC)))
  (ye (qg (ya (pv 6)))))))))
end
noncomputable def zew:Ev->Mem->Out Fl:=
 (qf (zk 10 (ze zt (qa (zb 3) (qa (eOp ixT (zb 7) (eC (.int 0))) (qa (eOp ixT (zb 7) (eC (.int 1))) (qa (zb 9) zd))))))
 (sIf (zdJ (zD (eOp gtI (zb 10) (eOp ixT (zb 6) (eC (.int 0))))) (zfw (zD (eOp ltI (zb 9) (eOp ixT (zb 6) (eC (.int 1))))) (zD (eOp eqA (zb 10) (eOp ixT (zb 6) (eC (.int 0))))))) (yq (eC (.bl false))) z4))
noncomputable def zev:Ev->Mem->Out Fl:=
 (qf (zk 2 (ze y6 (qa (ze z7 (qa (eOp ym (eFz (qF (qa (eC (.int 0)) zd))) (zb 0)) (qa (zb 1) zd))) zd)))
 (qf (zk 3 (ze qI (qa (zb 2) zd)))
 (qf (zk 4 (ze (call2 zd8) (qa (ze zy (qa (zb 2) zd)) (qa (eOp qY (eOp y4 (eC (.int 10)) (eC (.int 12))) (eC (.int 60))) zd))))
 (qf (zk 5 (eOp ym (zb 4) (ze zl (qa (zb 2) (qa (eC (.int 61)) zd)))))
 (qf (zk 6 (ze zbj (qa (zb 3) (qa (zb 4) (qa (zb 5) zd)))))
 (qf (sIf (zdJ (zcg (zD (ze qQ (qa (zb 6) zd)))) (zD (eOp neA (zb 6) (ze zaV (qa (zb 3) (qa (zb 4) (qa (zb 5) zd))))))) (yq (eC (.bl false))) z4)
 (qf (zk 7 (eFz (zbz qw (qa (eFz (qF (qa (ze zy (qa (zb 2) zd)) (qa (ze zy (qa (zb 2) zd)) zd)))) zd))))
 (qf (zk 6 (ze zbj (qa (zb 3) (qa (eOp ixT (zb 7) (eC (.int 0))) (qa (eOp ixT (zb 7) (eC (.int 1))) zd)))))
 (qf (sIf (zdJ (zcg (zD (ze qQ (qa (zb 6) zd)))) (zD (eOp neA (ze zt (qa (zb 3) (qa (eOp ixT (zb 7) (eC (.int 0))) (qa (eOp ixT (zb 7) (eC (.int 1))) (qa (eOp ixT (zb 6) (eC (.int 1))) zd))))) (eOp ixT (zb 6) (eC (.int 0)))))) (yq (eC (.bl false))) z4)
 (qf (zk 8 (eFz (yD (yX (qa (ze (yr zar) (qa (zb 3) zd)) zd)) (zg 0) zO (ze (yr sumK) (qa (eFz (yD (zU (eSl (zb 1) zaN (zaM (eOp ym (zb 0) (eC (.int 1)))))) (yU 2 (zq (zg 0) (zq (zg 1) qU))) zO (zb 0) ["wait","width"] [])) zd)) ["j"] [("strewing",3)])))
 (qf (zk 8 (eOp ym (eOp ym (eOp ym (zb 8) (ze zC (qa (zb 3) (qa (eOp ixT (zb 7) (eC (.int 0))) zd)))) (ze zC (qa (zb 3) (qa (ze zy (qa (zb 2) zd)) zd)))) (eFz (qF (qa (ze (call2 zd9) (qa (eC (.int 0)) (qa (eOp qY (eOp ixT (zb 6) (eC (.int 1))) (eC (.int 1))) zd))) zd)))))
 (qT (zU (eOp ym (zb 8) (eFz (qF (qa (ze zl (qa (zb 2) (qa (eOp ym (eOp ixT (zb 6) (eC (.int 1))) (eC (.int 1))) zd))) (qa (eC (.int 0)) zd)))))) (zg 9) zew))))))))))))
noncomputable def zhU:Ev->Mem->Out Fl:=
 (qf (qT (yX (qa (eOp ym (eC (.int 1)) (ze (call2 zd8) (qa (ze (yr zar) (qa (zb 0) zd)) (qa (eC (.int 30)) zd)))) zd)) (zg 1) zev)
 (yq (eC (.bl true))))
noncomputable def zdy:List FT.T->Mem->Out FT.T:=yg 1 11 (zhU)
section
theorem yB:FnScope ["script","k","pool","strewing","low","high","found","ends","some","tick","load"] ["script"] (yd zfC):=by ac_rfl
theorem zjV {f:Addr} {fd:FuncData} (D:Fun K "law" "law" zfC f fd) (T:Txt mg)   (zad:CalT P w K mg base 1 "_law_left" ["cell"] y6) (zJ:CalT P w K mg base 2 "_law_strewing" ["pool"] qI) (zaD:CalT P w K mg base 4 "peak" ["strewing","low","high"] zbj) (zae:CalT P w K mg base 1 "_law_cell" ["script","k"] z7) (zA:CalT P w K mg base 3 "_law_errand" ["pool"] zy) (qi:CalT P w K mg base 1 "_law_next" ["pool","base"] zl) (zp:CalT P w K mg base 3 "strew_load" ["strewing","low","high","tick"] zt) (zR:CalT P w K mg base 2 "_law_pair" ["found"] qQ) (zac:CalT P w K mg base 2 "_law_peak" ["strewing","low","high"] zaV) (qz:CalT P w K mg base 1 "_law_ticks" ["strewing","errand"] zC):FnOk P w K mg base CX0 5 f fd ["script"] (spT K zdy):=
 zhY D yB rfl rfl (fun cdv A outer s H E hr=>(yc (zF PassesOwn.never rfl (yV rfl T.n_range (za (qc zh yb (zj (zdd rfl) rfl T.n_min boot_min (za (zj yN rfl T.n_len boot_len (za (ya (pv 0)) zc)) (za yb zc)))) zc)) (yi (zm (i:=1) yB.nd rfl (by first | exact Or.inl rfl | exact Or.inr rfl))) (yc (yf (i:=2) yB.nd rfl (Or.inl rfl) (zf zad (hr.mono (by decide)) rfl (za (zf zae (hr.mono (by decide)) rfl (za (qc zh (qu (qt (za yb zc))) (ya (pv 0))) (za (ya (pv 1)) zc))) zc)))
  (yc (yf (i:=3) yB.nd rfl (Or.inr rfl) (zf zJ (hr.mono (by decide)) rfl (za (ya (pv 2)) zc)))
  (yc (yf (i:=4) yB.nd rfl (Or.inl rfl) (zj (zdd rfl) rfl T.n_min boot_min (za (zf zA (hr.mono (by decide)) rfl (za (ya (pv 2)) zc)) (za (qc yJ (qc qJ yb yb) yb) zc))))
  (yc (yf (i:=5) yB.nd rfl (Or.inl rfl) (qc zh (ya (pv 4)) (zf qi (hr.mono (by decide)) rfl (za (ya (pv 2)) (za yb zc)))))
  (yc (yf (i:=6) yB.nd rfl (Or.inl rfl) (zf zaD (hr.mono (by decide)) rfl (za (ya (pv 3)) (za (ya (pv 4)) (za (ya (pv 5)) zc)))))
  (yc (qN (WW.gt (zdD (zcD (zeN (zf zR (hr.mono (by decide)) rfl (za (ya (pv 6)) zc)))) (zcC (qE (zgp hr.units) (ya (pv 6)) (zf zac (hr.mono (by decide)) rfl (za (ya (pv 3)) (za (ya (pv 4)) (za (ya (pv 5)) zc)))) (qH _))))) (ye (qg zcf)) yC)
  (yc (yf (i:=7) yB.nd rfl (Or.inl rfl) (qu (za3 (y9 rfl) rfl T.n_sorted boot_sorted (za (qu (qt (za (zf zA (hr.mono (by decide)) rfl (za (ya (pv 2)) zc)) (za (zf zA (hr.mono (by decide)) rfl (za (ya (pv 2)) zc)) zc)))) zc))))
  (yc (yf (i:=6) yB.nd rfl (Or.inl rfl) (zf zaD (hr.mono (by decide)) rfl (za (ya (pv 3)) (za (qh qr (ya (pv 7)) yb (fun _ _=>rfl)) (za (qh qr (ya (pv 7)) yb (fun _ _=>rfl)) zc)))))
  (yc (qN (WW.gt (zdD (zcD (zeN (zf zR (hr.mono (by decide)) rfl (za (ya (pv 6)) zc)))) (zcC (qE (zgp hr.units) (zf zp (hr.mono (by decide)) rfl (za (ya (pv 3)) (za (qh qr (ya (pv 7)) yb (fun _ _=>rfl)) (za (qh qr (ya (pv 7)) yb (fun _ _=>rfl)) (za (qh qr (ya (pv 6)) yb (fun _ _=>rfl)) zc))))) (qh qr (ya (pv 6)) yb (fun _ _=>rfl)) (qH _))))) (ye (qg zcf)) yC)
  (yc (zdE (i0:=8) (tgs:=["j"]) (caps:=[("strewing",3)]) (yV rfl T.n_range (za (zj yN rfl T.n_len boot_len (za (ya (pv 3)) zc)) zc)) (by bv_omega) (fun _ _ _=>(yi (zm (i:=0) (show (["j","strewing"]:List Str).Nodup by decide +kernel) rfl (by first | exact Or.inl rfl | exact Or.inr rfl)))) (fun _ _ _=>zY) (fun _ _ _=>(zj (zbo rfl) rfl T.n_sum boot_sum (za (qu (zaE (tgs:=["wait","width"]) (caps:=[]) (qL (zdF (ya (pv 1)) zbO (zbN (qc zh (ya (pv 0)) yb)))) (by bv_omega) (fun _ _ _=>(zbq (zck rfl (WGs.pe (qB (yH (WG.pe (yi (zm (i:=0) (show (["wait","width"]:List Str).Nodup by decide +kernel) rfl (by first | exact Or.inl rfl | exact Or.inr rfl)))) (WGs.pe (qB (yH (WG.pe (yi (zm (i:=1) (show (["wait","width"]:List Str).Nodup by decide +kernel) rfl (by first | exact Or.inl rfl | exact Or.inr rfl)))) (WGs.pe zaG)))))))))) (fun _ _ _=>zY) (fun _ _ _=>(ya (pv 0))))) zc))) yB.nd rfl (Or.inl rfl))
  (yc (yf (i:=8) yB.nd rfl (Or.inl rfl) (qc zh (qc zh (qc zh (ya (pv 8)) (zf qz (hr.mono (by decide)) rfl (za (ya (pv 3)) (za (qh qr (ya (pv 7)) yb (fun _ _=>rfl)) zc)))) (zf qz (hr.mono (by decide)) rfl (za (ya (pv 3)) (za (zf zA (hr.mono (by decide)) rfl (za (ya (pv 2)) zc)) zc)))) (qu (qt (za (zj (zde rfl) rfl T.n_max boot_max (za yb (za (qc yJ (qh qr (ya (pv 6)) yb (fun _ _=>rfl)) yb) zc))) zc)))))
  (ye (zF PassesOwn.never rfl (qL (qc zh (ya (pv 8)) (qu (qt (za (zf qi (hr.mono (by decide)) rfl (za (ya (pv 2)) (za (qc zh (qh qr (ya (pv 6)) yb (fun _ _=>rfl)) yb) zc))) (za yb zc)))))) (yi (zm (i:=9) yB.nd rfl (by first | exact Or.inl rfl | exact Or.inr rfl))) (yc (yf (i:=10) yB.nd rfl (Or.inl rfl) (zf zp (hr.mono (by decide)) rfl (za (ya (pv 3)) (za (qh qr (ya (pv 7)) yb (fun _ _=>rfl)) (za (qh qr (ya (pv 7)) yb (fun _ _=>rfl)) (za (ya (pv 9)) zc))))))
  (ye (qN (WW.gt (zdD (qE zcm (ya (pv 10)) (qh qr (ya (pv 6)) yb (fun _ _=>rfl)) (qH _)) (zcC (WW.gt (zhZ (qE zcl (ya (pv 9)) (qh qr (ya (pv 6)) yb (fun _ _=>rfl)) (qH _)) (zg1 (qE (zgr hr.units) (ya (pv 10)) (qh qr (ya (pv 6)) yb (fun _ _=>rfl)) (qH _)))))))) (ye (qg zcf)) yC)))))))))))))))))
  (ye (qg zcf))))
end
end My
open Lean in
local macro_rules | `(tactic| simp_arith [$xs,*]) => do
  let ids := ("FT.zgj FT.zmb FT.zmc FT.startT FT.qf FT.yq FT.zk FT.sIf FT.zdW FT.zdX FT.z4 FT.qT FT.zb FT.eC FT.eOp FT.eUn FT.zek FT.eOr FT.zhK FT.eIf FT.ze FT.zca FT.eFz FT.eTk FT.qF FT.zbz FT.zbk FT.lOp FT.eSl FT.zaN FT.zaM FT.zhz FT.zcT FT.zmk FT.zmy FT.zdz FT.zd FT.qa FT.zD FT.zfw FT.zdJ FT.zcg FT.zmw FT.zmh FT.zl3 FT.zls FT.zlr FT.zlu FT.zlt FT.zlO FT.zlN FT.zlQ FT.zlP FT.zg FT.zeu FT.yU FT.zq FT.qU FT.zU FT.yX FT.zaA FT.zdS FT.ixT FT.zd4 FT.zfT FT.zmH FT.zmG FT.zmF FT.zmE FT.yD FT.zbn FT.zO Option.join_some Option.join_none FT.zhq FT.zlR FT.zbX FT.zmB FT.zmA FT.zmz map_cons map_nil Qo length_nil List.cons_append nil_append List.getElem?_cons_zero List.getElem?_cons_succ List.set_cons_zero List.set_cons_succ List.replicate Nat.zero_add Nat.reduceAdd Nat.reduceSub FT.zmg FT.zmf FT.zmj FT.zmi Int.reduceBEq Int.reduceLT FT.zl8 FT.zmp FT.zmq FT.zms FT.zmt FT.zmn FT.zme FT.zmu FT.zmo FT.zmr FT.zlU Bool.false_eq_true reduceIte Nat.reduceEqDiff Nat.succ.injEq Bool.not_true Bool.not_false FT.zby FT.zmd FT.zmv Int.reduceToNat Int.reducePow ne_eq Int.reduceEq not_false_eq_true Int.reduceNeg Bool.bne_true Bool.bne_false Bool.true_bne Bool.false_bne decide_true decide_false FT.zl4 FT.zl2 FT.zl1 FT.zl9 FT.zma".splitOn " ").toArray.map fun s => Lean.mkIdent s.toName
  `(tactic| simp (config := {decide := true}) only [$[$ids:term],*, $xs,*])
namespace My
open PySem L2 FT
theorem zgz (c:Int) (M:Mem):y6 [.int c] M = .ok (.ref M.length) (M ++ [(Po.new c).cell]):=by
 unfold y6 zeg
 simp_arith [and_self]
 rw [show Po.new c = ⟨if c - 10 ^ 18 > 0 then c - 10 ^ 18 else 0,c % 10 ^ 18,0⟩ from rfl,Q8 _ (by decide)]
 rfl
theorem zgy (p:Po) (a:Nat) (base:Int) (M:Mem) (e:M[a]? = some p.cell) (h:0 < base) (hb:base.natAbs < 10 ^ 100):zl [.ref a,.int base] M = .ok (.int (p.dig base)) (M.set a (p.nxt base).cell):=by
 unfold zl zef
 have ha:a < M.length:=(List.getElem?_eq_some_iff.mp e).1
 have hd:∀ i M,z8 (.int i) (.int base) M = .ok (.int (i.fdiv base)) M:=fun i M=>zbC (zfX 100 (by decide) (by omega) hb)
 have hm:∀ i M,yQ (.int i) (.int base) M = .ok (.int (i.fmod base)) M:=fun i M=>zby (by omega)
 by_cases hp:0 < p.a
 ·simp_arith [e,Po.cell,hd,hm,Qs hp]
  unfold Po.dig Po.nxt
  rw [if_pos hp,if_pos hp,Q8 _ (by omega),Int.fdiv_eq_ediv_of_nonneg _ (by omega)]
 ·have hs:∀ c:Cell,(M.set a c)[a]? = some c:=fun c=>by rw [Qb,if_pos rfl,if_pos ha]
  have h1:∀ j M,zI (.int 7919) (.int j) M = .ok (.int (7919 * j)) M:=fun j M=>zcn (by decide)
  have hx:∀ x:Int,0<=x.fmod 1000000007/\x.fmod 1000000007 < 1000000007:=fun x=>by rw [Q8 _ (by decide)];omega
  have hy:∀ x:Int,0<=x.fmod 998244353/\x.fmod 998244353 < 998244353:=fun x=>by rw [Q8 _ (by decide)];omega
  have h2:∀ (x y:Int) M,zI (.int (x.fmod 1000000007 + 11)) (.int y) M = .ok (.int ((x.fmod 1000000007 + 11) * y)) M:=fun x y M=>zcn (by have:=hx x;omega)
  have h3:∀ (x y:Int) M,zI (.int (x.fmod 998244353)) (.int y) M = .ok (.int (x.fmod 998244353 * y)) M:=fun x y M=>zcn (by have:=hy x;omega)
  simp_arith [e,Po.cell,hd,hm,Qt hp,hs,h1,h2,h3]
  unfold Po.dig Po.nxt
  rw [if_neg hp,if_neg hp]
  simp only [Q8 _ (show (0:Int)<=1000000007 by decide),Q8 _ (show (0:Int)<=998244353 by decide),Q8 _ (show (0:Int)<=2147483647 by decide),Int.fdiv_eq_ediv_of_nonneg _ (show (0:Int)<=8 by decide),Q8 _ (show (0:Int)<=base by omega)]
variable {base:Int} {M:Mem}
theorem yF {p:Po} {a:Nat} (e:M[a]? = some p.cell) (h:0 < base) (hb:base.natAbs < 10 ^ 100) :
  ∃ d M' p',zl [.ref a,.int base] M = .ok (.int d) M'/\0<=d/\d < base/\M'[a]? = some (Po.cell p')/\∀ i,i ≠ a->M'[i]? = M[i]?:=by
 refine ⟨_,_,p.nxt base,zgy p a base M e h hb,p.dig_lo h,p.dig_hi h,?_,fun i hi=>?_⟩
 ·rw [Qb,if_pos rfl,if_pos (List.getElem?_eq_some_iff.mp e).1]
 ·rw [Qb,if_neg (Ne.symm hi)]
theorem zf5 {p:Po} {a:Nat} {b f:Int} {o:Option FT.T} (k:Int) (e:M[a]? = some p.cell) (h0:0<=f):∃ d M' p',(zg 3 (.int k) [some (.ref a),some (.int b),some (.int f),o] M).bind zam = .ok (.nx [some (.ref a),some (.int b),some (.int (f * 2 ^ 28 + d)),some (.int k)]) M'/\0<=d/\M'[a]? = some (Po.cell p')/\∀ i,i ≠ a->M'[i]? = M[i]?:=by
 obtain ⟨d,M1,p1,n1,d0,d1,f1,k1⟩:=yF (base:=2 ^ 28) e (by decide) (by decide)
 have h1:∀ M,zI (.int f) (.int (2 ^ 28)) M = .ok (.int (f * 2 ^ 28)) M:=fun M=>zjW (by decide)
 rw [show (2:Int) ^ 28 = 268435456 from by decide] at n1 h1 ⊢
 refine ⟨d,M1,p1,?_,d0,f1,k1⟩
 unfold zam
 simp_arith [h1,n1]
theorem zgw {p:Po} {a:Nat} (e:M[a]? = some p.cell) (h:0 < base) (hb:base.natAbs < 10 ^ 100) :
  ∃ d M' p',z6 [.ref a,.int base] M = .ok (.int d) M'/\0<=d/\d < base/\M'[a]? = some (Po.cell p')/\∀ i,i ≠ a->M'[i]? = M[i]?:=by
 unfold z6 zec
 by_cases h8:base < 100000000
 ·obtain ⟨d,M1,p1,n1,d0,d1,f1,k1⟩:=yF e h hb
  exact ⟨d,M1,p1,by simp_arith [n1,Qs h8],d0,d1,f1,k1⟩
 ·obtain ⟨σ',M',e1,c,p',o,rfl,h1,h2,h3⟩:=zaU (bd:=zg 3) (body:=zam) (fun _ σ M2=>∃ f p' o,σ = [some (.ref a),some (.int base),some (.int f),o]/\0<=f/\M2[a]? = some (Po.cell p')/\∀ i,i ≠ a->M2[i]? = M[i]?) (yw 0 4) 0
   (by
    rintro k x σ M2 hx ⟨f,p2,o,rfl,hf,e2,k2⟩
    obtain ⟨hk,rfl⟩:=zdY hx
    obtain ⟨d,M3,p3,t,d0,e3,k3⟩:=zf5 (b:=base) (o:=o) (0 + (k:Int)) e2 hf
    exact ⟨_,M3,t,_,p3,_,rfl,by omega,e3,fun i hi=>by rw [k3 i hi];exact k2 i hi⟩)
   [some (.ref a),some (.int base),some (.int 0),none] M ⟨0,p,none,rfl,by omega,e,fun _ _=>rfl⟩
  refine ⟨c.fmod base,M',p',?_,?_,?_,h2,h3⟩
  ·have r1:=zdZ (j:=4) (M:=M) (by decide)
   have m1:=zby (i:=c) (j:=base) (M:=M') (by omega)
   rw [show Int.toNat 4 = 4 from rfl] at r1
   simp_arith [r1,e1,m1,Qt h8]
  ·rw [Q8 _ (by omega)];exact Int.emod_nonneg _ (by omega)
  ·rw [Q8 _ (by omega)];exact Int.emod_lt_of_pos _ h
theorem qR {p:Po} {a:Nat} (e:M[a]? = some p.cell) :
  ∃ d M' p',zy [.ref a] M = .ok (.int d) M'/\0<=d/\d<=10 ^ 12/\M'[a]? = some (Po.cell p')/\∀ i,i ≠ a->M'[i]? = M[i]?:=by
 obtain ⟨d1,M1,p1,n1,d10,d11,f1,k1⟩:=yF (base:=4) e (by decide) (by decide)
 obtain ⟨b,hb,hb2⟩:∃ v:Int,atI [FT.T.int 10,.int 100,.int 1000000,.int 1000000000001] d1 = some (.int v)/\(v = 10\/v = 100\/v = 1000000\/v = 1000000000001):=by
  obtain ⟨x,h1,h2⟩:=zex (xs:=[FT.T.int 10,.int 100,.int 1000000,.int 1000000000001]) d10 (by simpa using d11)
  simp at h2
  rcases h2 with rfl | rfl | rfl | rfl
  ·exact ⟨_,h1,.inl rfl⟩
  ·exact ⟨_,h1,.inr (.inl rfl)⟩
  ·exact ⟨_,h1,.inr (.inr (.inl rfl))⟩
  ·exact ⟨_,h1,.inr (.inr (.inr rfl))⟩
 obtain ⟨d2,M2,p2,n2,d20,d21,f2,k2⟩:=zgw (base:=b) f1 (by omega) (by rcases hb2 with rfl | rfl | rfl | rfl <;> decide)
 refine ⟨d2,M2,p2,?_,d20,by omega,f2,fun i hi=>by rw [k2 i hi,k1 i hi]⟩
 unfold zy zcv
 simp_arith [n1,Int.reduceAdd,hb,n2]
noncomputable def pT (p:Int × Int):FT.T:=.tup [.int p.1,.int p.2]
noncomputable def stT (ps:List (Int × Int)):List FT.T:=ps.map pT
def yj (p:Int × Int):Prop:=0<=p.1/\p.1<=1000000/\1<=p.2/\p.2<=1000
theorem zdo {p:Po} {a:Nat} (e:M[a]? = some p.cell) :
  ∃ ps M' p',qI [.ref a] M = .ok (.tup (stT ps)) M'/\1<=ps.length/\ps.length<=6/\(∀ p ∈ ps,yj p)/\M'[a]? = some (Po.cell p')/\∀ i,i ≠ a->i < M.length->M'[i]? = M[i]?:=by
 have ha:a < M.length:=(List.getElem?_eq_some_iff.mp e).1
 have hne:M.length ≠ a:=by omega
 have e':(M ++ [Cell.lst []])[a]? = some p.cell:=by rw [Q6 ha];exact e
 obtain ⟨d0,M0,p0,n0,d00,d01,f0,k0⟩:=yF (base:=6) e' (by decide) (by decide)
 obtain ⟨σ',M',e1,o2,o3,ps,p',rfl,h1,h2,h3,h4,h5⟩:=zaU (bd:=zg 2) (body:=zV) (fun k σ M2=>∃ o2 o3 ps p',σ = [some (.ref a),some (.ref M.length),o2,o3]/\M2[a]? = some (Po.cell p')/\M2[M.length]? = some (.lst (stT ps))/\ps.length = k/\(∀ p ∈ ps,yj p)/\∀ i,i ≠ a->i < M.length->M2[i]? = M[i]?) (yw 0 (1 + d0).toNat) 0
  (by
   rintro k x σ M2 hx ⟨o2,o3,ps,p2,rfl,e2,e3,h6,h7,h8⟩
   obtain ⟨hk,rfl⟩:=zdY hx
   rw [Nat.zero_add] at h6 ⊢
   unfold zV
   obtain ⟨d3,M3,p3,n3,d30,d31,f3,k3⟩:=yF (base:=5) e2 (by decide) (by decide)
   obtain ⟨v,hv,hv2⟩:∃ v:Int,atI [FT.T.int 1,.int 3,.int 12,.int 200,.int 1000001] d3 = some (.int v)/\(v = 1\/v = 3\/v = 12\/v = 200\/v = 1000001):=by
    obtain ⟨x,h1,h2⟩:=zex (xs:=[FT.T.int 1,.int 3,.int 12,.int 200,.int 1000001]) d30 (by simpa using d31)
    simp at h2
    rcases h2 with rfl | rfl | rfl | rfl | rfl <;> exact ⟨_,h1,by simp⟩
   obtain ⟨d4,M4,p4,n4,d40,d41,f4,k4⟩:=yF (base:=v) f3 (by omega) (by rcases hv2 with rfl | rfl | rfl | rfl | rfl <;> decide)
   obtain ⟨d5,M5,p5,n5,d50,d51,f5,k5⟩:=yF (base:=5) f4 (by decide) (by decide)
   obtain ⟨w,hw,hw2⟩:∃ v:Int,atI [FT.T.int 1,.int 2,.int 4,.int 12,.int 1000] d5 = some (.int v)/\(v = 1\/v = 2\/v = 4\/v = 12\/v = 1000):=by
    obtain ⟨x,h1,h2⟩:=zex (xs:=[FT.T.int 1,.int 2,.int 4,.int 12,.int 1000]) d50 (by simpa using d51)
    simp at h2
    rcases h2 with rfl | rfl | rfl | rfl | rfl <;> exact ⟨_,h1,by simp⟩
   obtain ⟨d6,M6,p6,n6,d60,d61,f6,k6⟩:=yF (base:=w) f5 (by omega) (by rcases hw2 with rfl | rfl | rfl | rfl | rfl <;> decide)
   have e4:M4[M.length]? = some (.lst (stT ps)):=by rw [k4 _ hne,k3 _ hne];exact e3
   have e6:M6[M.length]? = some (.lst (stT ps)):=by rw [k6 _ hne,k5 _ hne];exact e4
   have l1:=zcp e4
   have l2:=zey (t:=pT (d4,1 + d6)) e6 (yx (by rw [stT,Qg];omega))
   have l3:stT ps ++ [pT (d4,1 + d6)] = stT (ps ++ [(d4,1 + d6)]):=by simp [stT]
   rw [l3] at l2
   refine ⟨_,M6.set M.length (.lst (stT (ps ++ [(d4,1 + d6)]))),?_,some (.int (0 + (k:Int))),some (.int d4),ps ++ [(d4,1 + d6)],p6,rfl,?_,?_,by simp;omega,?_,?_⟩
   ·rw [show pT (d4,1 + d6) = FT.T.tup [.int d4,.int (1 + d6)] from rfl] at l2
    simp_arith [n3,Int.reduceAdd,hv,n4,n5,hw,n6,l1,l2]
   ·rw [Qb,if_neg hne];exact f6
   ·rw [Qb,if_pos rfl,if_pos (List.getElem?_eq_some_iff.mp e6).1]
   ·intro q hq
    rcases mem_append.mp hq with hq | hq
    ·exact h7 q hq
    ·rw [mem_singleton.mp hq]
     exact ⟨d40,by show d4<=_;omega,by show 1<=1 + d6;omega,by show 1 + d6<=_;omega⟩
   ·intro i hi hl
    rw [Qb,if_neg (by omega),k6 i hi,k5 i hi,k4 i hi,k3 i hi]
    exact h8 i hi hl)
  [some (.ref a),some (.ref M.length),none,none] M0 ⟨none,none,[],p0,rfl,f0,by rw [k0 _ hne];simp [stT],rfl,fun q hq=>by simp at hq,fun i hi hl=>by rw [k0 i hi,Q6 hl]⟩
 rw [zeE,Nat.zero_add] at h3
 refine ⟨ps,M',p',?_,by omega,by omega,h4,h1,h5⟩
 unfold qI zbh
 have r1:=zdZ (j:=1 + d0) (M:=M0) (by omega)
 simp_arith [n0,r1,e1,zfr h2]
noncomputable def za8 (acc:Int) (ps:List (Int × Int)):Int:=ps.foldl (fun a p=>a * p.2) acc
noncomputable def spr (ps:List (Int × Int)):Int:=za8 1 ps
noncomputable def sta (ps:List (Int × Int)):Int:=(ps.map (·.1)).sum
def Wd (ps:List (Int × Int)):Prop:=∀ p ∈ ps,1<=p.2/\p.2 < 2 ^ 64
variable {ps:List (Int × Int)}
theorem Wd.of (h:∀ p ∈ ps,yj p):Wd ps:=fun p hp=>⟨(h p hp).2.2.1,by have:=(h p hp).2.2.2;omega⟩
theorem Wd.take (h:Wd ps) (n:Nat):Wd (ps.take n):=fun p hp=>h p (mem_of_mem_take hp)
theorem zdO:∀ (ps:List (Int × Int)) (acc:Int),1<=acc->Wd ps->1<=za8 acc ps
 | [],acc,h,_=>h
 | p :: ps,acc,h,w=>zdO ps (acc * p.2) (by
   have:=(w p (.head _)).1
   have:=Int.mul_le_mul h this (by decide) (by omega)
   simpa using this) (fun q hq=>w q (.tail _ hq))
theorem yP (w:Wd ps):1<=spr ps:=zdO ps 1 (by decide) w
theorem zeS:∀ (ps:List (Int × Int)) (acc:Int),0<=acc->(∀ p ∈ ps,yj p)->za8 acc ps<=acc * 1000 ^ ps.length
 | [],acc,h,_=>by simp [za8]
 | p :: ps,acc,h,w=>by
  obtain ⟨_,_,h1,h2⟩:=w p (.head _)
  have i:=zeS ps (acc * p.2) (Int.mul_nonneg h (by omega)) (fun q hq=>w q (.tail _ hq))
  refine Int.le_trans i ?_
  rw [Qo,Int.pow_succ,Int.mul_assoc]
  refine Int.mul_le_mul_of_nonneg_left ?_ h
  rw [Int.mul_comm]
  exact Int.mul_le_mul_of_nonneg_left h2 (Int.pow_nonneg (by decide))
variable {p:Int × Int}
theorem zbW {k:Nat} (h:ps[k]? = some p):spr (ps.take (k + 1)) = spr (ps.take k) * p.2:=by
 rw [take_succ,h]
 simp [spr,za8]
theorem zg5 {k:Nat} (h:ps[k]? = some p):sta (ps.take (k + 1)) = sta (ps.take k) + p.1:=by
 rw [take_succ,h]
 simp [sta]
theorem zbm (xs:List FT.T) (n:Nat):z9 xs none (some (n:Int)) = xs.take n:=by
 unfold z9
 rw [HT.zg7,HT.zie,Nat.sub_zero,List.drop_zero]
 by_cases h:n<=xs.length
 ·rw [Nat.min_eq_left h]
 ·rw [Nat.min_eq_right (by omega),take_of_length_le (Q3 _),take_of_length_le (by omega)]
theorem zbH (s j:Option FT.T) (M:Mem):∀ (ps:List (Int × Int)) (acc:Int) (o3 o4:Option FT.T),Wd ps->∃ o3' o4',forL (yU 2 (zq (zg 3) (zq (zg 4) qU))) zaf (stT ps) [s,j,some (.int acc),o3,o4] M = .ok (.nx [s,j,some (.int (za8 acc ps)),o3',o4']) M
 | [],acc,o3,o4,_=>⟨o3,o4,rfl⟩
 | p :: ps,acc,o3,o4,w=>by
  obtain ⟨o3',o4',ih⟩:=zbH s j M ps (acc * p.2) (some (.int p.1)) (some (.int p.2)) (fun q hq=>w q (.tail _ hq))
  have m1:zd7 (.int acc) (.int p.2) M = .ok (.int (acc * p.2)) M:=if_pos (.inr (.inr ⟨by have:=(w p (.head _)).1;omega,(w p (.head _)).2⟩))
  refine ⟨o3',o4',?_⟩
  rw [show stT (p :: ps) = FT.T.tup [.int p.1,.int p.2] :: stT ps from rfl,zbi]
  unfold zaf at ih ⊢
  simp_arith [zfD,m1]
  exact ih
theorem za6 (ps:List (Int × Int)) (n:Nat) (M:Mem) (w:Wd ps):qA [.tup (stT ps),.int (n:Int)] M = .ok (.int (spr (ps.take n))) M:=by
 obtain ⟨o3,o4,h⟩:=zbH (some (.tup (stT ps))) (some (.int (n:Int))) M (ps.take n) 1 none none (w.take n)
 unfold qA zbK
 have c:z9 (stT ps) none (some (n:Int)) = stT (ps.take n):=by rw [zbm,stT,stT,map_take]
 simp_arith [c,h]
 rfl
theorem zaI (M:Mem):∀ (ps:List (Int × Int)) (o0 o1:Option FT.T) (acc:List FT.T),acc.length + ps.length<=1000->yh (yU 2 (zq (zg 0) (zq (zg 1) qU))) zO (zb 0) (stT ps) [o0,o1] M acc = .ok (acc ++ ps.map fun p=>.int p.1) M
 | [],o0,o1,acc,_=>by simp [yh,stT]
 | p :: ps,o0,o1,acc,h=>by
  rw [Qo] at h
  have ih:=zaI M ps (some (.int p.1)) (some (.int p.2)) (acc ++ [.int p.1]) (by rw [Qm];simp;omega)
  rw [show stT (p :: ps) = FT.T.tup [.int p.1,.int p.2] :: stT ps from rfl]
  unfold yh
  simp_arith [if_pos (yx (show acc.length<=1000 by omega)),ih]
  simp
theorem zaR:∀ xs:List Int,zaS (xs.map FT.T.int) = some xs
 | []=>rfl
 | x :: xs=>by
  show (zaS (xs.map FT.T.int)).map (x :: ·) = _
  rw [zaR xs];rfl
theorem zbS (xs:List Int) (M:Mem):sumK (.lst (xs.map FT.T.int)) M = .ok (.int xs.sum) M:=by
 unfold sumK qp
 simp only [zaR]
theorem zao (ps:List (Int × Int)) (n:Nat) (M:Mem) (hl:ps.length<=1000):zu [.tup (stT ps),.int (n:Int)] M = .ok (.int (sta (ps.take n))) M:=by
 have h:=zaI M (ps.take n) none none [] (by rw [Qp];simp;omega)
 unfold zu zct
 have c:z9 (stT ps) none (some (n:Int)) = stT (ps.take n):=by rw [zbm,stT,stT,map_take]
 have s1:=zbS ((ps.take n).map (·.1)) M
 rw [map_map,show (FT.T.int ∘ fun p:Int × Int=>p.1) = fun p=>FT.T.int p.1 from rfl] at s1
 rw [nil_append] at h
 simp_arith [c,h,s1]
 rfl
theorem zgA (ns:List Int) (n:Nat) (M:Mem):∃ c,z7 [.lst (ns.map .int),.int (n:Int)] M = .ok (.int c) M:=by
 unfold z7 zeh
 by_cases h:n < ns.length
 ·refine ⟨ns[n],?_⟩
  have a:atI (ns.map FT.T.int) (n:Int) = some (.int ns[n]):=by rw [FT.yR];simp [h]
  have d:decide ((n:Int) < ((ns.map FT.T.int).length:Int)) = true:=Qs (by rw [Qg];omega)
  simp_arith [d,a]
 ·have d:decide ((n:Int) < ((ns.map FT.T.int).length:Int)) = false:=Qt (by rw [Qg];omega)
  exact ⟨0,by simp_arith [d]⟩
variable {i j:Int}
theorem zjr (h:(-(2 ^ 62)<=i/\i < 2 ^ 62)/\(-(2 ^ 62)<=j/\j < 2 ^ 62)):zb4 [.int i,.int j] M = .ok (yw i (j - i).toNat) M:=if_pos h
theorem zft (ps:List (Int × Int)) (e:Int) (n:Nat) (M:Mem) (hl:ps.length<=1000) (w:Wd ps):yM [.tup (stT ps),.int e,.int (n:Int)] M = .ok (.int (sta (ps.take n) + e % spr (ps.take n))) M:=by
 have hp:=yP (w.take n)
 unfold yM zda
 have m1:=zby (i:=e) (j:=spr (ps.take n)) (M:=M) (by omega)
 simp_arith [zao ps n M hl,za6 ps n M w,m1]
 rw [Q8 _ (by omega)]
theorem ze8:zd8 (.int i) (.int j) M = .ok (.int (if j < i then j else i)) M:=rfl
variable {P e w:Int}
theorem zgO (he:0<=e) (hP:1<=P) (hw:1<=w):e % (P * w) = e % P + P * (e / P % w):=by
 obtain ⟨n,rfl⟩:=Int.eq_ofNat_of_zero_le he
 obtain ⟨a,rfl⟩:=Int.eq_ofNat_of_zero_le (show 0<=P by omega)
 obtain ⟨b,rfl⟩:=Int.eq_ofNat_of_zero_le (show 0<=w by omega)
 exact_mod_cast @Nat.mod_mul a b n
theorem zgP (he:0<=e) (hP:1<=P) (hw:1<=w):e / P / w = e / (P * w):=by
 obtain ⟨n,rfl⟩:=Int.eq_ofNat_of_zero_le he
 obtain ⟨a,rfl⟩:=Int.eq_ofNat_of_zero_le (show 0<=P by omega)
 obtain ⟨b,rfl⟩:=Int.eq_ofNat_of_zero_le (show 0<=w by omega)
 exact_mod_cast Nat.div_div_eq_div_mul n a b
theorem za7 (h:∀ p ∈ ps,yj p) (hl:ps.length<=6) (n:Nat):1<=spr (ps.take n)/\spr (ps.take n)<=10 ^ 18:=by
 refine ⟨yP ((Wd.of h).take n),?_⟩
 have h1:=zeS (ps.take n) 1 (by decide) (fun p hp=>h p (mem_of_mem_take hp))
 refine Int.le_trans h1 ?_
 have hk:(ps.take n).length<=6:=by rw [Qp];omega
 generalize (ps.take n).length = k at hk
 rw [Int.one_mul]
 match k,hk with
 | 0,_=>decide
 | 1,_=>decide
 | 2,_=>decide
 | 3,_=>decide
 | 4,_=>decide
 | 5,_=>decide
 | 6,_=>decide
noncomputable def tk (ps:List (Int × Int)) (e:Int) (k:Nat):Int:=sta (ps.take k) + e % spr (ps.take k)
theorem zh6 (ps:List (Int × Int)) (e:Int):tk ps e 0 = 0:=by simp [tk,sta,spr,za8]
theorem zh7 (h:∀ p ∈ ps,yj p) (he:0<=e) {k:Nat} (hp:ps[k]? = some p):tk ps e (k + 1) = tk ps e k + p.1 + spr (ps.take k) * (e / spr (ps.take k) % p.2):=by
 have g:=h p (Q9 hp)
 unfold tk
 rw [zbW hp,zg5 hp,zgO he (yP ((Wd.of h).take k)) g.2.2.1]
 omega
theorem zfs (h:∀ p ∈ ps,yj p) (hl:ps.length<=6) (he:0<=e) {k:Nat} (hp:ps[k]? = some p) {a:Nat} (s0:Option FT.T) (o6 o7:Option FT.T) (hM:M[a]? = some (.lst ((List.range k).map fun i=>FT.T.int (tk ps e (i + 1))))) :
  (yU 2 (zq (zg 6) (zq (zg 7) qU)) (.tup [.int p.1,.int p.2]) [s0,some (.int e),some (.int (e / spr (ps.take k))),some (.int (spr (ps.take k))),some (.int (tk ps e k)),some (.ref a),o6,o7] M).bind zW = .ok (.nx [s0,some (.int e),some (.int (e / spr (ps.take (k + 1)))),some (.int (spr (ps.take (k + 1)))),some (.int (tk ps e (k + 1))),some (.ref a),some (.int p.1),some (.int p.2)]) (M.set a (.lst ((List.range (k + 1)).map fun i=>FT.T.int (tk ps e (i + 1))))):=by
 have g:=h p (Q9 hp)
 have sp:=za7 h hl k
 have hk:k < ps.length:=(List.getElem?_eq_some_iff.mp hp).1
 have g2:=g.2.2.1
 have g3:=g.2.2.2
 have m1:∀ i M,yQ (.int i) (.int p.2) M = .ok (.int (i % p.2)) M:=fun i M=>by rw [zby (by omega),Q8 _ (by omega)]
 have m2:∀ i M,z8 (.int i) (.int p.2) M = .ok (.int (i / p.2)) M:=fun i M=>by
  rw [zbC (zfX 100 (by decide) (by omega) (Q5 (show p.2.natAbs < 10 ^ 4 by omega) (Nat.pow_le_pow_right (by decide) (by decide)))),Int.fdiv_eq_ediv_of_nonneg _ (by omega)]
 have m3:∀ i M,zI (.int (spr (ps.take k))) (.int i) M = .ok (.int (spr (ps.take k) * i)) M:=fun i M=>zcn (by omega)
 have l1:=zcp hM
 have l2:=zey (t:=.int (tk ps e (k + 1))) hM (yx (by simp;omega))
 rw [show ((List.range k).map fun i=>FT.T.int (tk ps e (i + 1))) ++ [FT.T.int (tk ps e (k + 1))] = (List.range (k + 1)).map fun i=>FT.T.int (tk ps e (i + 1)) from by rw [List.range_succ,map_append];rfl] at l2
 have t:=zh7 h he hp
 have d:=zgP he sp.1 g.2.2.1
 rw [← zbW hp] at d
 unfold zW
 simp_arith [m1,m2,m3,l1,← t,l2,d,← zbW hp]
theorem zaO (h:∀ p ∈ ps,yj p) (hl:ps.length<=6) (he:0<=e) (M:Mem) :
  ∃ M',zC [.tup (stT ps),.int e] M = .ok (.ref M.length) M'/\M'[M.length]? = some (.lst ((List.range ps.length).map fun i=>FT.T.int (tk ps e (i + 1))))/\∀ i,i < M.length->M'[i]? = M[i]?:=by
 obtain ⟨σ',M',e1,h1⟩:=zaU (bd:=yU 2 (zq (zg 6) (zq (zg 7) qU))) (body:=zW) (fun k σ M2=>∃ o6 o7,σ = [some (.tup (stT ps)),some (.int e),some (.int (e / spr (ps.take k))),some (.int (spr (ps.take k))),some (.int (tk ps e k)),some (.ref M.length),o6,o7]/\M2[M.length]? = some (.lst ((List.range k).map fun i=>FT.T.int (tk ps e (i + 1))))/\∀ i,i < M.length->M2[i]? = M[i]?) (stT ps) 0
  (by
   rintro k x σ M2 hx ⟨o6,o7,rfl,e2,k2⟩
   rw [Nat.zero_add] at e2 ⊢
   rw [stT,Qa] at hx
   obtain ⟨p,hp,rfl⟩:=Option.map_eq_some_iff.mp hx
   exact ⟨_,_,zfs h hl he hp _ o6 o7 e2,_,_,rfl,by rw [Qb,if_pos rfl,if_pos (List.getElem?_eq_some_iff.mp e2).1],fun i hi=>by rw [Qb,if_neg (by omega)];exact k2 i hi⟩)
  [some (.tup (stT ps)),some (.int e),some (.int e),some (.int 1),some (.int 0),some (.ref M.length),none,none] (M ++ [.lst []]) ⟨none,none,by rw [show e / spr (ps.take 0) = e from by simp [spr,za8],zh6];rfl,by simp,fun i hi=>Q6 hi⟩
 obtain ⟨o6,o7,rfl,e2,k2⟩:=h1
 rw [Nat.zero_add,stT,Qg] at e2
 refine ⟨M',?_,e2,k2⟩
 unfold zC zdb
 simp_arith [e1]
theorem zg0 (i:Int) (M:Mem):zS [.int i] M = .ok (.bl true) M:=rfl
noncomputable def ldP (P r low high:Int):Int:=(high - 1 - r) / P - (low - 1 - r) / P
noncomputable def ld (ps:List (Int × Int)) (low high tick:Int) (j:Nat):Int:=if 0<=tick - sta (ps.take j)/\tick - sta (ps.take j) < spr (ps.take j) then ldP (spr (ps.take j)) (tick - sta (ps.take j)) low high else 0
noncomputable def ldS (ps:List (Int × Int)) (low high tick:Int):Int:=((List.range ps.length).map fun i=>ld ps low high tick (i + 1)).sum
variable {x:Int}
theorem zbU (hP:1<=P):x / P - (x - 1) / P = if x % P = 0 then 1 else 0:=by
 have e:=Int.mul_ediv_add_emod x P
 have h0:=Int.emod_nonneg x (show P ≠ 0 by omega)
 have h1:=Int.emod_lt_of_pos x (show 0 < P by omega)
 split
 ·rename_i h
  have u:=(Int.ediv_emod_unique (a:=x - 1) (b:=P) (r:=P - 1) (q:=x / P - 1) (by omega)).mpr ⟨by rw [Int.mul_sub,Int.mul_one];omega,by omega,by omega⟩
  rw [u.1];omega
 ·rename_i h
  have u:=(Int.ediv_emod_unique (a:=x - 1) (b:=P) (r:=x % P - 1) (q:=x / P) (by omega)).mpr ⟨by omega,by omega,by omega⟩
  rw [u.1];omega
theorem ze7 {h r:Int} (hP:1<=P) (h0:0<=r) (h1:r < P):(h - r) % P = 0 ↔ h % P = r:=by
 have e:r % P = r:=Int.emod_eq_of_lt h0 h1
 have:=Int.emod_emod_of_dvd
 constructor
 ·intro h2
  have h3:=Int.emod_eq_emod_iff_emod_sub_eq_zero.mpr h2
  rw [h3,e]
 ·intro h2
  exact Int.emod_eq_emod_iff_emod_sub_eq_zero.mp (by rw [h2,e])
theorem ziI (h:∀ p ∈ ps,yj p) (low high tick:Int) (j:Nat):ld ps low (high + 1) tick j = ld ps low high tick j + if tk ps high j = tick then 1 else 0:=by
 have sp:=yP ((Wd.of h).take j)
 unfold ld tk
 generalize spr (ps.take j) = P at sp
 generalize sta (ps.take j) = s
 have m0:=Int.emod_nonneg high (show P ≠ 0 by omega)
 have m1:=Int.emod_lt_of_pos high (show 0 < P by omega)
 by_cases hr:0<=tick - s/\tick - s < P
 ·rw [if_pos hr,if_pos hr]
  have a:=zbU (x:=high - (tick - s)) sp
  have b:=ze7 (h:=high) sp hr.1 hr.2
  unfold ldP
  rw [show high + 1 - 1 - (tick - s) = high - (tick - s) by omega,show high - 1 - (tick - s) = high - (tick - s) - 1 by omega]
  by_cases hc:high % P = tick - s
  ·rw [if_pos (b.mpr hc)] at a
   rw [if_pos (by omega)];omega
  ·rw [if_neg (fun z=>hc (b.mp z))] at a
   rw [if_neg (by omega)];omega
 ·rw [if_neg hr,if_neg hr,if_neg (by omega)];rfl
theorem sum_add (f g:Nat->Int):∀ l:List Nat,(l.map fun i=>f i + g i).sum = (l.map f).sum + (l.map g).sum
 | []=>rfl
 | x :: l=>by
  rw [map_cons,map_cons,map_cons,sum_cons,sum_cons,sum_cons,sum_add f g l];omega
theorem zdc (f:Nat->Int) (t:Int):∀ l:List Nat,(((l.map f).count t:Nat):Int) = (l.map fun i=>if f i = t then (1:Int) else 0).sum
 | []=>rfl
 | x :: l=>by
  rw [map_cons,map_cons,sum_cons,List.count_cons,← zdc f t l]
  by_cases h:f x = t
  ·simp [h];omega
  ·simp [h]
noncomputable def cnt (ps:List (Int × Int)) (tick e:Int):Int:=((((List.range ps.length).map fun i=>tk ps e (i + 1)).count tick:Nat):Int)
theorem zhr (h:∀ p ∈ ps,yj p) (low high tick:Int):ldS ps low (high + 1) tick = ldS ps low high tick + cnt ps tick high:=by
 unfold ldS cnt
 rw [zdc,← sum_add]
 congr 1
 apply map_congr_left
 intro i _
 exact ziI h low high tick (i + 1)
theorem yY {α:Type} (f:α->Int):∀ l:List α,(∀ x ∈ l,f x = 0)->(l.map f).sum = 0
 | [],_=>rfl
 | x :: l,h=>by rw [map_cons,sum_cons,h x (.head _),yY f l (fun y hy=>h y (.tail _ hy))];rfl
theorem ziL (ps:List (Int × Int)) (low tick:Int):ldS ps low low tick = 0:=yY _ _ fun i _=>by
 unfold ld ldP
 split
 ·omega
 ·rfl
theorem zcO (h:∀ p ∈ ps,yj p) (hl:ps.length<=6) (low high tick:Int) (j:Nat) (M:Mem):zx [.tup (stT ps),.int low,.int high,.int tick,.int (j:Int)] M = .ok (.int (ld ps low high tick j)) M:=by
 have s1:=za6 ps j M (Wd.of h)
 have s2:=zao ps j M (by omega)
 have sp:=za7 h hl j
 unfold zx za1
 unfold ld
 generalize spr (ps.take j) = P at sp s1
 generalize sta (ps.take j) = s at s2
 have m2:∀ i M,z8 (.int i) (.int P) M = .ok (.int (i / P)) M:=fun i M=>by
  rw [zbC (zfX 100 (by decide) (by omega) (Q5 (show P.natAbs < 10 ^ 19 by omega) (Nat.pow_le_pow_right (by decide) (by decide)))),Int.fdiv_eq_ediv_of_nonneg _ (by omega)]
 by_cases h1:0<=tick - s
 ·by_cases h2:tick - s < P
  ·rw [if_pos ⟨h1,h2⟩]
   simp_arith [s1,s2,Qs h1,Qs h2,m2]
   rfl
  ·rw [if_neg (fun z=>h2 z.2)]
   simp_arith [s1,s2,Qs h1,Qt h2]
 ·rw [if_neg (fun z=>h1 z.1)]
  simp_arith [s1,s2,Qt h1]
theorem zgk (lo:Int) (n:Nat):yw lo (n + 1) = .int lo :: yw (lo + 1) n:=by
 unfold yw
 rw [List.range_succ_eq_map,map_cons,map_map]
 congr 1
 ·simp
 ·apply map_congr_left
  intro x _
  show FT.T.int _ = FT.T.int _
  congr 1
  simp
  omega
theorem map_range {α:Type} (f:Nat->α) (n:Nat):(List.range (n + 1)).map f = f 0 :: (List.range n).map fun i=>f (i + 1):=by
 rw [List.range_succ_eq_map,map_cons,map_map];rfl
theorem zc6 {ps:List (Int × Int)} (h:∀ p ∈ ps,yj p) (hl:ps.length<=6) (low high tick:Int) (M:Mem):∀ (n j:Nat) (o:Option FT.T) (acc:List FT.T),acc.length + n<=1000->yh (zg 0) zO (ze zx (qa (zb 1) (qa (zb 2) (qa (zb 3) (qa (zb 4) (qa (zb 0) zd)))))) (yw (j:Int) n) [o,some (.tup (stT ps)),some (.int low),some (.int high),some (.int tick)] M acc = .ok (acc ++ ((List.range n).map fun i=>ld ps low high tick (i + j)).map .int) M
 | 0,j,o,acc,_=>by simp [yw,yh]
 | n + 1,j,o,acc,hz=>by
  have ih:=zc6 h hl low high tick M n (j + 1) (some (.int (j:Int))) (acc ++ [.int (ld ps low high tick j)]) (by simp;omega)
  rw [zgk,map_range,Nat.zero_add,map_cons]
  rw [show (fun i=>ld ps low high tick (i + (j + 1))) = fun i=>ld ps low high tick (i + 1 + j) from funext fun i=>by rw [Nat.add_assoc,Nat.add_comm 1 j]] at ih
  unfold yh
  rw [show (j:Int) + 1 = ((j + 1:Nat):Int) by omega]
  simp_arith [zcO h hl,if_pos (yx (show acc.length<=1000 by omega)),ih]
  rw [append_assoc]
  rfl
theorem zT (h:∀ p ∈ ps,yj p) (hl:ps.length<=6) (low high tick:Int) (M:Mem):zt [.tup (stT ps),.int low,.int high,.int tick] M = .ok (.int (ldS ps low high tick)) M:=by
 have c:=zc6 h hl low high tick M ps.length 1 none [] (by simp;omega)
 rw [nil_append,show ((1:Nat):Int) = 1 from rfl] at c
 have r1:=zjr (i:=1) (j:=((stT ps).length:Int) + 1) (M:=M) (by rw [stT,Qg];omega)
 rw [show (((stT ps).length:Int) + 1 - 1).toNat = ps.length from by rw [stT,Qg];omega] at r1
 have s1:=zbS ((List.range ps.length).map fun i=>ld ps low high tick (i + 1)) M
 rw [show ((List.range ps.length).map fun i=>ld ps low high tick (i + 1)).sum = ldS ps low high tick from rfl] at s1
 generalize ldS ps low high tick = V at s1
 unfold zt zbg
 simp_arith [r1,c,s1]
variable {high low:Int}
theorem zjY {r:Int} (hP:1<=P) (h:low<=high):0<=ldP P r low high:=by
 unfold ldP
 have:=Int.ediv_le_ediv (show 0 < P by omega) (show low - 1 - r<=high - 1 - r by omega)
 omega
theorem zhu {r:Int} (hP:1<=P) (h0:0<=r) (h1:r < P) (hr:r ≠ low % P):ldP P r low high<=ldP P (r - 1) low high:=by
 unfold ldP
 have a:=zbU (x:=low - r) hP
 have b:=zbU (x:=high - r) hP
 rw [if_neg (fun z=>hr ((ze7 hP h0 h1).mp z).symm)] at a
 rw [show low - r - 1 = low - 1 - r by omega] at a
 rw [show high - r - 1 = high - 1 - r by omega] at b
 rw [show low - 1 - (r - 1) = low - r by omega,show high - 1 - (r - 1) = high - r by omega]
 split at b <;> omega
theorem zhR (h:∀ p ∈ ps,yj p) (hlh:low<=high) (t:Int) (j:Nat):0<=ld ps low high t j:=by
 unfold ld
 split
 ·exact zjY (yP ((Wd.of h).take j)) hlh
 ·exact Int.le_refl _
variable {t:Int}
theorem ziK (h:∀ p ∈ ps,yj p) (hlh:low<=high) {j:Nat} (h1:t ≠ sta (ps.take j)) (h2:t ≠ tk ps low j):ld ps low high t j<=ld ps low high (t - 1) j:=by
 have hP:=yP ((Wd.of h).take j)
 have nn:=zhR h hlh (t - 1) j
 unfold tk at h2
 unfold ld at nn ⊢
 by_cases hc:0<=t - sta (ps.take j)/\t - sta (ps.take j) < spr (ps.take j)
 ·rw [if_pos hc,if_pos ⟨by omega,by omega⟩]
  have:=zhu (low:=low) (high:=high) hP hc.1 hc.2 (by omega)
  rwa [show t - sta (ps.take j) - 1 = t - 1 - sta (ps.take j) by omega] at this
 ·rw [if_neg hc]
  exact nn
theorem zdM (h:∀ p ∈ ps,yj p):0<=sta ps:=by
 induction ps with
 | nil=>exact Int.le_refl _
 | cons p ps ih=>
  have e:sta (p :: ps) = p.1 + sta ps:=by simp [sta]
  have:=ih fun q hq=>h q (.tail _ hq)
  have:=(h p (.head _)).1
  omega
theorem zdK {α:Type} (f g:α->Int):∀ l:List α,(∀ x ∈ l,f x<=g x)->(l.map f).sum<=(l.map g).sum
 | [],_=>Int.le_refl _
 | x :: l,h=>by
  have:=zdK f g l fun y hy=>h y (.tail _ hy)
  have:=h x (.head _)
  simp only [map_cons,sum_cons]
  omega
noncomputable def zB (ps:List (Int × Int)) (low:Int) (n:Nat):List Int:=((List.range n).map fun i=>[sta (ps.take (i + 1)),tk ps low (i + 1)]).flatten
variable {n:Nat}
theorem zc3:x ∈ zB ps low n ↔ ∃ i,i < n/\(x = sta (ps.take (i + 1))\/x = tk ps low (i + 1)):=by
 unfold zB
 simp only [List.mem_flatten,mem_map,mem_range]
 constructor
 ·rintro ⟨l,⟨i,hi,rfl⟩,hx⟩
  simp at hx
  exact ⟨i,hi,hx⟩
 ·rintro ⟨i,hi,hx⟩
  exact ⟨_,⟨i,hi,rfl⟩,by simpa using hx⟩
theorem zjX (h:∀ p ∈ ps,yj p) (hlh:low<=high) (t:Int):0<=ldS ps low high t:=by
 have:=zdK (fun _=>(0:Int)) (fun i=>ld ps low high t (i + 1)) (List.range ps.length) fun i _=>zhR h hlh t (i + 1)
 rw [yY (fun _=>(0:Int)) _ fun _ _=>rfl] at this
 exact this
theorem zht (h:∀ p ∈ ps,yj p) (hlh:low<=high) (ht:t ∉ zB ps low ps.length):ldS ps low high t<=ldS ps low high (t - 1):=
 zdK _ _ _ fun i hi=>ziK h hlh (fun e=>ht (zc3.mpr ⟨i,mem_range.mp hi,.inl e⟩)) fun e=>ht (zc3.mpr ⟨i,mem_range.mp hi,.inr e⟩)
theorem zfa (h:∀ p ∈ ps,yj p) (ht:t < 0):ldS ps low high t = 0:=yY _ _ fun i _=>by
 have:=zdM fun p (hp:p ∈ ps.take (i + 1))=>h p (mem_of_mem_take hp)
 unfold ld
 rw [if_neg (by omega)]
theorem zc7 {ps:List (Int × Int)} (h:∀ p ∈ ps,yj p) {low high:Int} (hlh:low<=high):∀ (n:Nat) (t:Int),t < n->ldS ps low high t<=0\/∃ r ∈ zB ps low ps.length,r<=t/\ldS ps low high t<=ldS ps low high r
 | 0,t,ht=>.inl (Int.le_of_eq (zfa h ht))
 | n + 1,t,ht=>by
  by_cases hr:t ∈ zB ps low ps.length
  ·exact .inr ⟨t,hr,Int.le_refl _,Int.le_refl _⟩
  ·have f:=zht h hlh hr
   rcases zc7 h hlh n (t - 1) (by omega) with g | ⟨r,g1,g2,g3⟩
   ·exact .inl (by omega)
   ·exact .inr ⟨r,g1,by omega,by omega⟩
def Pk (f:Int->Int) (g t:Int):Prop:=(g = 0/\t = 0/\∀ x,f x<=0)\/(0 < g/\f t = g/\∀ x,f x<=g/\(x < t->f x < g))
variable {g:Int} {f:Int->Int}
theorem Pk.same {g' t':Int} (h:Pk f g t) (h':Pk f g' t'):g = g'/\t = t':=by
 rcases h with ⟨a1,a2,a3⟩ | ⟨a1,a2,a3⟩ <;> rcases h' with ⟨b1,b2,b3⟩ | ⟨b1,b2,b3⟩
 ·omega
 ·have:=a3 t';omega
 ·have:=b3 t;omega
 ·have e:g = g':=by have:=a3 t';have:=b3 t;omega
  refine ⟨e,?_⟩
  rcases Int.lt_trichotomy t t' with z | z | z
  ·have:=(b3 t).2 z;omega
  ·exact z
  ·have:=(a3 t').2 z;omega
def Bst (f:Int->Int) (l:List Int) (g t:Int):Prop:=(g = 0/\t = 0/\∀ x ∈ l,f x<=0)\/(0 < g/\f t = g/\∀ x ∈ l,f x<=g/\(x < t->f x < g))
theorem Bst.nil (f:Int->Int):Bst f [] 0 0:=.inl ⟨rfl,rfl,fun x hx=>by simp at hx⟩
variable {l:List Int}
theorem Bst.up {r:Int} (h:Bst f l g t) (hr:∀ x ∈ l,x<=r) (hf:f r > g):Bst f (l ++ [r]) (f r) r:=by
 refine .inr ⟨by rcases h with ⟨a,_⟩ | ⟨a,_⟩ <;> omega,rfl,fun x hx=>?_⟩
 rcases mem_append.mp hx with hx | hx
 ·rcases h with ⟨a,_,b⟩ | ⟨a,_,b⟩
  ·have:=b x hx;omega
  ·have:=(b x hx).1;omega
 ·rw [mem_singleton.mp hx];omega
theorem Bst.keep {r:Int} (h:Bst f l g t) (hr:∀ x ∈ l,x<=r) (ht:g = 0\/t ∈ l) (hf:¬ f r > g):Bst f (l ++ [r]) g t:=by
 rcases h with ⟨a,b,c⟩ | ⟨a,b,c⟩
 ·refine .inl ⟨a,b,fun x hx=>?_⟩
  rcases mem_append.mp hx with hx | hx
  ·exact c x hx
  ·rw [mem_singleton.mp hx];omega
 ·refine .inr ⟨a,b,fun x hx=>?_⟩
  rcases mem_append.mp hx with hx | hx
  ·exact c x hx
  ·rw [mem_singleton.mp hx]
   have:=hr t (ht.resolve_left (by omega))
   omega
theorem Bst.pk (h:Bst f l g t) (hl:∀ x,f x<=0\/∃ r ∈ l,r<=x/\f x<=f r):Pk f g t:=by
 rcases h with ⟨a,b,c⟩ | ⟨a,b,c⟩
 ·refine .inl ⟨a,b,fun x=>?_⟩
  rcases hl x with z | ⟨r,z1,_,z2⟩
  ·exact z
  ·have:=c r z1;omega
 ·refine .inr ⟨a,b,fun x=>?_⟩
  rcases hl x with z | ⟨r,z1,z2,z3⟩
  ·omega
  ·have:=c r z1
   exact ⟨by omega,fun hx=>by have:=this.2 (by omega);omega⟩
theorem zh8 (h:∀ p ∈ ps,yj p) (hl:ps.length<=6) (e:Int) (n:Nat) (M:Mem):yM [.tup (stT ps),.int e,.int (n:Int)] M = .ok (.int (tk ps e n)) M:=zft ps e n M (by omega) (Wd.of h)
theorem zhy {a:Nat} {xs:List FT.T} (e:M[a]? = some (.lst xs)):zcq (.ref a) M = true:=by
 unfold zcq
 simp [e,qp]
variable {xs:List Int}
theorem zfz {a:Nat} (e:M[a]? = some (.lst (xs.map .int))):qw [.ref a] M = .ok ((yA xs).map .int) M:=by
 unfold qw qK qp
 simp only [e,zaR]
theorem zeA:qw [.lst (xs.map .int)] M = .ok ((yA xs).map .int) M:=by
 show (match zaS (xs.map FT.T.int) with | some ns=>_ | none=>_) = _
 rw [zaR]
theorem zkC {a:Nat} {xs ys:List FT.T} (e:M[a]? = some (.lst xs)) (h:xs.length + ys.length < 1000):zcQ (.ref a) [.lst ys] M = .ok .non (M.set a (.lst (xs ++ ys))):=by
 unfold zcQ
 simp only [e]
 rw [if_pos (by omega)]
theorem zcj (ps:List (Int × Int)) (low:Int) (k:Nat):zB ps low (k + 1) = zB ps low k ++ [sta (ps.take (k + 1)),tk ps low (k + 1)]:=by
 unfold zB
 rw [List.range_succ,map_append,List.flatten_append]
 simp
theorem zc4 (ps:List (Int × Int)) (low:Int):∀ k,(zB ps low k).length = 2 * k
 | 0=>rfl
 | k + 1=>by rw [zcj,Qm,zc4];simp;omega
theorem zg9 (h:∀ p ∈ ps,yj p) (hl:ps.length<=6) (low:Int) (M:Mem) :
  Ok (qV [.tup (stT ps),.int low] M) fun t M'=>Fr [] M M'/\t = .lst ((yA (zB ps low ps.length)).map .int):=by
 refine zak rfl ?_
 unfold zcu
 have r1:=zeV (i:=1) (j:=((stT ps).length:Int) + 1) (M:=M ++ [.lst []]) (by rw [stT,Qg];omega)
 rw [show (((stT ps).length:Int) + 1 - 1).toNat = ps.length from by rw [stT,Qg];omega] at r1
 simp_arith [zhq,r1]
 refine Ok.bind (Ok.for (r:=FT.T.int) (P:=fun k σ M'=>∃ o,σ = [some (.tup (stT ps)),some (.int low),some (.ref M.length),o]/\Fr [] M M'/\M'[M.length]? = some (.lst ((zB ps low k).map .int))) (xs:=rgF 1 ps.length) ⟨_,rfl,Fr.app _ _,zfh⟩ ?_) ?_
 ·rintro k x σ M' hx ⟨o,rfl,fr,e⟩
  obtain ⟨hk,rfl⟩:=zeY hx
  have s1:=zao ps (k + 1) M' (by omega)
  have s2:=zh8 h hl low (k + 1) M'
  rw [show ((k + 1:Nat):Int) = 1 + (k:Int) by omega] at s1 s2
  have x1:=zkC (ys:=[.int (sta (ps.take (k + 1))),.int (tk ps low (k + 1))]) e (by rw [Qg,zc4];simp;omega)
  rw [show (zB ps low k).map FT.T.int ++ [.int (sta (ps.take (k + 1))),.int (tk ps low (k + 1))] = (zB ps low (k + 1)).map FT.T.int from by rw [zcj,map_append];rfl] at x1
  unfold zbM
  simp_arith [zaC,zhy e,s1,s2,x1]
  exact Ok.ret ⟨_,rfl,_,rfl,fr.tr (Fr.set _ _ _) (fun i hi=>.inr (by simp at hi;omega)),get_set e⟩
 ·rintro fl M' ⟨σ,rfl,o,rfl,fr,e⟩
  rw [zeX] at e
  simp_arith [zfz e]
  exact Ok.ret ⟨fr,rfl⟩
theorem zdN {k:Nat} (h:(yA xs)[k]? = some x):∀ y ∈ (yA xs).take k,y<=x:=by
 intro y hy
 obtain ⟨hk,rfl⟩:=List.getElem?_eq_some_iff.mp h
 obtain ⟨i,hi,rfl⟩:=List.mem_iff_getElem.mp hy
 rw [Qp] at hi
 rw [List.getElem_take]
 exact List.pairwise_iff_getElem.mp (zcI xs) i k (by omega) hk (by omega)
theorem take_snoc {k:Nat} (h:xs[k]? = some x):xs.take (k + 1) = xs.take k ++ [x]:=by
 rw [take_succ,h];rfl
theorem zbV:x ∈ yA xs ↔ x ∈ xs:=(za5 xs).mem_iff
theorem ze1 (h:∀ p ∈ ps,yj p) (hl:ps.length<=6) (hlh:low<=high) (M:Mem) :
  Ok (zbj [.tup (stT ps),.int low,.int high] M) fun t M'=>Fr [] M M'/\∃ g tt,t = .tup [.int g,.int tt]/\Pk (ldS ps low high) g tt:=by
 refine zak rfl ?_
 unfold zgJ
 obtain ⟨_,M1,e1,fr1,rfl⟩:=zg9 h hl low M
 simp_arith [e1]
 refine Ok.bind (Ok.for (r:=FT.T.int) (P:=fun k σ M'=>∃ g t o4 o5,σ = [some (.tup (stT ps)),some (.int low),some (.int high),some (.tup [.int g,.int t]),o4,o5]/\M' = M1/\Bst (ldS ps low high) ((yA (zB ps low ps.length)).take k) g t/\(g = 0\/t ∈ (yA (zB ps low ps.length)).take k)) (xs:=yA (zB ps low ps.length)) ⟨_,_,_,_,rfl,rfl,Bst.nil _,.inl rfl⟩ ?_) ?_
 ·rintro k x σ M' hx ⟨g,t,o4,o5,rfl,rfl,b1,b2⟩
  have s1:=zT h hl low high x M'
  have st:=zdN hx
  unfold zfl
  rw [take_snoc hx]
  by_cases hg:ldS ps low high x > g
  ·simp_arith [s1,Qs hg]
   exact Ok.ret ⟨_,rfl,_,_,_,_,rfl,rfl,b1.up st hg,.inr (by simp)⟩
  ·simp_arith [s1,Qt hg]
   exact Ok.ret ⟨_,rfl,_,_,_,_,rfl,rfl,b1.keep st b2 hg,b2.imp id fun z=>mem_append_left _ z⟩
 ·rintro fl M' ⟨σ,rfl,g,t,o4,o5,rfl,rfl,b1,b2⟩
  rw [take_of_length_le (Q3 _)] at b1
  simp_arith [and_self]
  refine Ok.ret ⟨fr1,g,t,rfl,b1.pk fun x=>?_⟩
  rcases zc7 h hlh (x + 1).toNat x (by omega) with z | ⟨r,z1,z2,z3⟩
  ·exact .inl z
  ·exact .inr ⟨r,zbV.mpr z1,z2,z3⟩
noncomputable def kv (ks:List Int) (f:Int->Int):List (Key × FT.T):=ks.map fun k=>(.inl k,.int (f k))
theorem zj4 (x:Int) (ks:List Int) (f:Int->Int):((kv ks f).any fun p=>decide (p.1 = .inl x)) = decide (x ∈ ks):=by
 induction ks with
 | nil=>rfl
 | cons k ks ih=>
  rw [show kv (k :: ks) f = (.inl k,.int (f k)) :: kv ks f from rfl,any_cons,ih]
  by_cases h:k = x
  ·subst h;simp
  ·have:x ≠ k:=fun z=>h z.symm
   simp [h,this]
theorem zfb (x:Int) (ks:List Int) (f:Int->Int):yz (kv ks f) (.inl x) = if x ∈ ks then some (.int (f x)) else none:=by
 induction ks with
 | nil=>rfl
 | cons k ks ih=>
  by_cases h:k = x
  ·subst h
   simp [yz,kv,find?_cons]
  ·have h2:x ≠ k:=fun z=>h z.symm
   rw [show yz (kv (k :: ks) f) (.inl x) = yz (kv ks f) (.inl x) from by simp [yz,kv,find?_cons,h],ih]
   simp [h2]
theorem zj3 (x v:Int) (ks:List Int) (f g:Int->Int) (hg:∀ k,k ≠ x->g k = f k) (hx:g x = v):zbl (kv ks f) (.inl x) (.int v) = kv (if x ∈ ks then ks else ks ++ [x]) g:=by
 unfold zbl
 rw [zj4]
 by_cases h:x ∈ ks
 ·rw [if_pos (by simpa using h),if_pos h]
  unfold kv
  rw [map_map]
  apply map_congr_left
  intro k _
  show (if _ then _ else _) = _
  by_cases hk:k = x
  ·subst hk;rw [if_pos rfl,hx]
  ·rw [if_neg (fun z=>hk (by cases z;rfl)),hg k hk]
 ·rw [if_neg (by simpa using h),if_neg h]
  unfold kv
  rw [map_append]
  congr 1
  ·apply map_congr_left
   intro k hk
   show _ = _
   rw [hg k (fun z=>h (z ▸ hk))]
  ·show [(Sum.inl x,FT.T.int v)] = [(Sum.inl x,FT.T.int (g x))]
   rw [hx]
noncomputable def cf (pr:List Int) (k:Int):Int:=(pr.count k:Nat)
variable {ks:List Int}
theorem zlK {a:Nat} {pr:List Int} (e:M[a]? = some (.dic (kv ks (cf pr)))) (hk:∀ k,k ∈ ks ↔ k ∈ pr) (hl:ks.length<=900) (t:Int) :
  ∃ ks1,zbD (.ref a) [.int t,.int 0] M = .ok (.int (cf pr t)) M/\zcJ (.ref a) (.int t) (.int (cf pr t + 1)) M = .ok () (M.set a (.dic (kv ks1 (cf (pr ++ [t])))))/\(∀ k,k ∈ ks1 ↔ k ∈ pr ++ [t])/\(ks.Nodup->ks1.Nodup)/\ks1.length<=ks.length + 1/\zcr (.ref a) M = true:=by
 obtain ⟨ks1,h1⟩:∃ ks1,ks1 = (if t ∈ ks then ks else ks ++ [t]):=⟨_,rfl⟩
 have lk:=zfb t ks (cf pr)
 refine ⟨ks1,?_,?_,fun k=>?_,fun hn=>?_,by rw [h1];split <;> simp,by unfold zcr qK;simp only [e];rfl⟩
 ·unfold zbD qK
  simp only [e,zaP]
  rw [lk]
  split
  ·rfl
  ·rename_i ht
   have:cf pr t = 0:=by
    have:t ∉ pr:=fun z=>ht ((hk t).mpr z)
    simp [cf,List.count_eq_zero.mpr this]
   rw [this];rfl
 ·have p1:=zj3 t (cf pr t + 1) ks (cf pr) (cf (pr ++ [t])) (fun k hk=>by
   unfold cf
   rw [List.count_append,List.count_singleton,if_neg (by simpa using fun z=>hk z.symm)]
   simp) (by
   unfold cf
   rw [List.count_append,List.count_singleton,if_pos (by simp)]
   simp)
  rw [← h1] at p1
  unfold zcJ
  simp only [zaP,e]
  rw [if_pos (yx (by simp [kv];omega)),p1]
 ·rw [h1,mem_append,mem_singleton,← hk]
  split
  ·rename_i ht
   exact ⟨.inl,fun z=>z.elim id (fun z=>z ▸ ht)⟩
  ·simp
 ·rw [h1]
  split
  ·exact hn
  ·rename_i ht
   rw [List.nodup_append]
   exact ⟨hn,by simp,fun x hx y hy=>by rw [mem_singleton.mp hy];intro z;exact ht (z ▸ hx)⟩
theorem zfy {a:Nat} (e:M[a]? = some (.dic (kv ks f))):qw [.ref a] M = .ok ((yA ks).map .int) M:=by
 unfold qw qK
 simp only [e]
 rw [show (kv ks f).map (·.1) = ks.map Sum.inl from by simp [kv],zc8]
theorem zkd {a:Nat} (e:M[a]? = some (.dic (kv ks f))) (h:x ∈ ks):ixD (.ref a) (.int x) M = .ok (.int (f x)) M:=by
 unfold ixD qK
 simp only [e,zaP,zfb]
 rw [if_pos h]
 rfl
theorem zfe {xs:List FT.T} :ixD (.tup xs) (.int i) M = ixT (.tup xs) (.int i) M:=rfl
theorem zkI (pr ts:List Int) (x:Int):cf (pr ++ ts) x = cf pr x + cf ts x:=by
 unfold cf
 rw [List.count_append];omega
noncomputable def tks (ps:List (Int × Int)) (e:Int):List Int:=(List.range ps.length).map fun i=>tk ps e (i + 1)
theorem zgx (h:∀ p ∈ ps,yj p) (hl:ps.length<=6) (h0:0<=low) (h1:low<=10 ^ 12) (hn:n<=60) (M:Mem) :
  Ok (zaV [.tup (stT ps),.int low,.int (low + n)] M) fun t M'=>Fr [] M M'/\∃ g tt,t = .tup [.int g,.int tt]/\Pk (ldS ps low (low + n)) g tt:=by
 refine zak rfl ?_
 unfold zed
 have r1:=zeV (i:=low) (j:=low + n) (M:=M ++ [.dic []]) (by omega)
 rw [show (low + n - low).toNat = n by omega] at r1
 simp_arith [zfW,r1]
 refine Ok.bind (Ok.for (r:=FT.T.int) (P:=fun k σ M'=>∃ o4 o5 pr ks,σ = [some (.tup (stT ps)),some (.int low),some (.int (low + n)),some (.ref M.length),o4,o5,none]/\M'[M.length]? = some (.dic (kv ks (cf pr)))/\(∀ x,x ∈ ks ↔ x ∈ pr)/\ks.Nodup/\(∀ x,cf pr x = ldS ps low (low + k) x)/\ks.length<=6 * k/\Fr [] M M') (xs:=rgF low n)
  ⟨_,_,[],[],rfl,zfh,fun _=>Iff.rfl,List.nodup_nil,fun x=>by rw [show low + ((0:Nat):Int) = low by omega,ziL];rfl,by simp,Fr.app _ _⟩ ?_) ?_
 ·rintro k e σ M' hx ⟨o4,o5,pr,ks,rfl,c1,c2,c3,c4,c5,fr⟩
  obtain ⟨hk,rfl⟩:=zeY hx
  obtain ⟨M2,n1,f1,k1⟩:=zaO h hl (show 0<=low + (k:Int) by omega) M'
  have hlt:=zaB c1
  have hlt2:=zaB f1
  have fr2:Fr [] M' M2:=⟨by omega,fun i hi _=>k1 i hi⟩
  have f1':M2[M'.length]? = some (.lst ((tks ps (low + k)).map .int)):=by rw [f1];unfold tks;rw [map_map];rfl
  have lt:(tks ps (low + k)).length = ps.length:=by simp [tks]
  unfold zdk
  simp_arith [zdt,n1]
  refine (Ok.forR (r:=FT.T.int) (a:=M'.length) (xs:=tks ps (low + k)) (P:=fun j σ M3=>∃ o5 ks3,σ = [some (.tup (stT ps)),some (.int low),some (.int (low + n)),some (.ref M.length),some (.int (low + k)),o5,none]/\M3[M'.length]? = some (.lst ((tks ps (low + k)).map .int))/\M3[M.length]? = some (.dic (kv ks3 (cf (pr ++ (tks ps (low + k)).take j))))/\(∀ x,x ∈ ks3 ↔ x ∈ pr ++ (tks ps (low + k)).take j)/\ks3.Nodup/\ks3.length<=6 * k + j/\Fr [] M M3)
   (fun j σ M3 hP=>by obtain ⟨_,_,_,z,_⟩:=hP;exact z) ⟨_,ks,rfl,f1',by rw [List.take_zero,append_nil];exact fr2.get0 c1,by rw [List.take_zero,append_nil];exact c2,c3,by omega,fr.trans fr2⟩ ?_).mono ?_
  ·rintro j t σ M3 hj ⟨o5,ks3,rfl,d1,d2,d3,d4,d5,d6⟩
   have hj2:=(List.getElem?_eq_some_iff.mp hj).1
   obtain ⟨ks4,g1,s1,m1,nd,l1,i1⟩:=zlK d2 d3 (by omega) t
   rw [append_assoc,← take_snoc hj] at s1 m1
   unfold zdl
   simp_arith [zaC,i1,g1,s1]
   exact Ok.ret ⟨_,rfl,_,ks4,rfl,(Fr.set _ _ _).get d1 (by simp;omega),get_set d2,m1,nd d4,by omega,d6.tr (Fr.set _ _ _) (fun i hi=>.inr (by simp at hi;omega))⟩
  ·rintro fl M3 ⟨σ,rfl,o5,ks3,rfl,d1,d2,d3,d4,d5,d6⟩
   rw [take_of_length_le (Q3 _)] at d2 d3
   refine ⟨_,rfl,_,_,_,ks3,rfl,d2,d3,d4,fun x=>?_,by omega,d6⟩
   rw [zkI,c4,show low + ((k + 1:Nat):Int) = low + k + 1 by omega,zhr h]
   rfl
 ·rintro fl M' ⟨σ,rfl,o4,o5,pr,ks,rfl,c1,c2,c3,c4,c5,fr⟩
  rw [zeX] at c4 c5
  have so:=zfy c1
  simp_arith [so]
  refine Ok.bind (Ok.for (r:=FT.T.int) (P:=fun k σ M2=>∃ g t o5,σ = [some (.tup (stT ps)),some (.int low),some (.int (low + n)),some (.ref M.length),o4,o5,some (.tup [.int g,.int t])]/\M2 = M'/\Bst (ldS ps low (low + n)) ((yA ks).take k) g t/\(g = 0\/t ∈ (yA ks).take k)) (xs:=yA ks) ⟨_,_,_,rfl,rfl,Bst.nil _,.inl rfl⟩ ?_) ?_
  ·rintro k x σ M2 hx ⟨g,t,o5,rfl,rfl,b1,b2⟩
   have st:=zdN hx
   have i1:=zkd c1 (zbV.mp (Q9 hx))
   rw [c4] at i1
   unfold zdj
   rw [take_snoc hx]
   by_cases hg:ldS ps low (low + n) x > g
   ·simp_arith [i1,zfe,Qs hg]
    exact Ok.ret ⟨_,rfl,_,_,_,rfl,rfl,b1.up st hg,.inr (by simp)⟩
   ·simp_arith [i1,zfe,Qt hg]
    exact Ok.ret ⟨_,rfl,_,_,_,rfl,rfl,b1.keep st b2 hg,b2.imp id fun z=>mem_append_left _ z⟩
  ·rintro fl M2 ⟨σ,rfl,g,t,o5,rfl,rfl,b1,b2⟩
   rw [take_of_length_le (Q3 _)] at b1
   simp_arith [and_self]
   refine Ok.ret ⟨fr,g,t,rfl,b1.pk fun x=>?_⟩
   by_cases hz:ldS ps low (low + n) x<=0
   ·exact .inl hz
   ·refine .inr ⟨x,zbV.mpr ((c2 x).mpr ?_),Int.le_refl _,Int.le_refl _⟩
    rw [← c4] at hz
    exact List.count_pos_iff.mp (by unfold cf at hz;omega)
theorem zjn (h:∀ p ∈ ps,yj p):sta ps<=1000000 * ps.length:=by
 induction ps with
 | nil=>exact Int.le_refl _
 | cons p ps ih=>
  have e:sta (p :: ps) = p.1 + sta ps:=by simp [sta]
  have:=ih fun q hq=>h q (.tail _ hq)
  have:=(h p (.head _)).2.1
  simp only [Qo]
  omega
theorem zhs (h:∀ p ∈ ps,yj p) (hl:ps.length<=6) (ht:10 ^ 19<=t):ldS ps low high t = 0:=yY _ _ fun i _=>by
 have a:=zjn fun p (hp:p ∈ ps.take (i + 1))=>h p (mem_of_mem_take hp)
 have b:=(za7 h hl (i + 1)).2
 rw [Qp] at a
 unfold ld
 rw [if_neg (by omega)]
theorem Pk.tick (h:∀ p ∈ ps,yj p) (hl:ps.length<=6) (hp:Pk (ldS ps low high) g t):0<=t/\t < 10 ^ 19:=by
 rcases hp with ⟨_,rfl,_⟩ | ⟨a,b,_⟩
 ·exact ⟨by decide,by decide⟩
 ·constructor
  ·rcases Int.lt_or_le t 0 with z | z
   ·rw [zfa h z] at b;omega
   ·exact z
  ·rcases Int.lt_or_le t (10 ^ 19) with z | z
   ·exact z
   ·rw [zhs h hl z] at b;omega
theorem Pk.val (h:∀ p ∈ ps,yj p) (hlh:low<=high) (hp:Pk (ldS ps low high) g t):ldS ps low high t = g:=by
 rcases hp with ⟨a,b,c⟩ | ⟨_,b,_⟩
 ·have:=c t
  have:=zjX h hlh t
  omega
 ·exact b
theorem Pk.fine (hp:Pk f g t) (hx:0<=x):¬ f x > g/\¬ (x < t/\f x = g):=by
 rcases hp with ⟨a,b,c⟩ | ⟨a,b,c⟩
 ·have:=c x
  omega
 ·have:=c x
  exact ⟨by omega,fun z=>by have:=this.2 z.1;omega⟩
theorem zlF (x y:Int):∃ a b,yA [x,y] = [a,b]/\a<=b/\(a = x\/a = y):=by
 by_cases hxy:x<=y
 ·exact ⟨x,y,(zbt (List.Perm.refl _) (by simp [hxy])).symm,hxy,.inl rfl⟩
 ·exact ⟨y,x,(zbt (List.Perm.swap _ _ _) (by simp;omega)).symm,by omega,.inr rfl⟩
theorem ze2 (g t:Int) (M:Mem):qQ [.tup [.int g,.int t]] M = .ok (.bl true) M:=by
 have c:=Ok.mapc (bd:=zg 0) (el:=ze zS (qa (zb 0) zd)) (M:=M) (r:=FT.T.int) (fun σ=>∃ o,σ = [o]) (fun _=>FT.T.bl true) (xs:=[g,t]) (σ:=[none]) ⟨_,rfl⟩ (by simp)
  (by
   rintro x σ hx ⟨o,rfl⟩
   exact ⟨_,rfl,⟨_,rfl⟩,by simp_arith [zg0]⟩)
 have al:=zhN (fun _:Int=>true) [g,t] M
 unfold qQ zee
 have e1:zX (.tup [.int g,.int t]) (.ty "tuple") M = .ok (.bl true) M:=rfl
 simp_arith [e1,c,al]
 rfl
theorem zgd (hl:ps.length<=6) (M:Mem):yh (zg 0) zO (ze (yr sumK) (qa (eFz (yD (zU (eSl (zb 1) zaN (zaM (eOp ym (zb 0) (eC (.int 1)))))) (yU 2 (zq (zg 0) (zq (zg 1) qU))) zO (zb 0) ["wait","width"] [])) zd)) ((rgI ps.length).map .int) [none,some (.tup (stT ps))] M [] = .ok (((rgI ps.length).map fun j=>sta (ps.take (j + 1).toNat)).map .int) M:=by
 have c:=Ok.mapc (bd:=zg 0) (el:=ze (yr sumK) (qa (eFz (yD (zU (eSl (zb 1) zaN (zaM (eOp ym (zb 0) (eC (.int 1)))))) (yU 2 (zq (zg 0) (zq (zg 1) qU))) zO (zb 0) ["wait","width"] [])) zd)) (M:=M) (r:=FT.T.int) (fun σ=>∃ o,σ = [o,some (.tup (stT ps))]) (fun j=>FT.T.int (sta (ps.take (j + 1).toNat))) (xs:=rgI ps.length) (σ:=[none,some (.tup (stT ps))]) ⟨_,rfl⟩ (by rw [zav];omega)
  (by
   rintro x σ hx ⟨o,rfl⟩
   have hx2:=zif.mp hx
   refine ⟨_,rfl,⟨_,rfl⟩,?_⟩
   have h:=zaI M (ps.take (x + 1).toNat) none none [] (by rw [Qp];simp;omega)
   have c:z9 (stT ps) none (some (x + 1)) = stT (ps.take (x + 1).toNat):=by
    rw [show x + 1 = ((x + 1).toNat:Int) by omega,zbm,stT,stT,map_take];rfl
   have s1:=zbS ((ps.take (x + 1).toNat).map (·.1)) M
   rw [map_map,show (FT.T.int ∘ fun p:Int × Int=>p.1) = fun p=>FT.T.int p.1 from rfl] at s1
   rw [nil_append] at h
   simp_arith [c,h,s1]
   rfl)
 rw [c,map_map]
 rfl
theorem zfm {r:Nat} {ys:List Int} (e:M[r]? = some (.lst (ys.map .int))) (h:xs.length + ys.length<=1000):ym (.lst (xs.map .int)) (.ref r) M = .ok (.lst ((xs ++ ys).map .int)) M:=by
 unfold ym
 simp only [qp,e]
 rw [if_pos (Nat.le_of_lt (yx (by simp;omega))),map_append]
theorem zkM (h:∀ p ∈ ps,yj p) (e:Int) (k:Nat):0<=tk ps e k:=by
 have a:=zdM fun p (hp:p ∈ ps.take k)=>h p (mem_of_mem_take hp)
 have b:=yP ((Wd.of h).take k)
 have:=Int.emod_nonneg e (show spr (ps.take k) ≠ 0 by omega)
 unfold tk
 omega
theorem zga (h:∀ p ∈ ps,yj p) (e:Int):∀ x ∈ tks ps e,0<=x:=by
 intro x hx
 obtain ⟨i,_,rfl⟩:=mem_map.mp hx
 exact zkM h e _
theorem zje (h:∀ p ∈ ps,yj p) (hl:ps.length<=6) {lo hi:Int} (hp:Pk (ldS ps lo hi) g t) (hx:0<=x) (s0 s1 s2 s4 s5 s8 o10:Option FT.T) (M:Mem) :
  zew [s0,s1,s2,some (.tup (stT ps)),s4,s5,some (.tup [.int g,.int t]),some (.lst [.int lo,.int hi]),s8,some (.int x),o10] M = .ok (.nx [s0,s1,s2,some (.tup (stT ps)),s4,s5,some (.tup [.int g,.int t]),some (.lst [.int lo,.int hi]),s8,some (.int x),some (.int (ldS ps lo hi x))]) M:=by
 have s1:=zT h hl lo hi x M
 obtain ⟨f1,f2⟩:=hp.fine hx
 unfold zew
 by_cases hlt:x < t
 ·have ne:(ldS ps lo hi x == g) = false:=by rw [beq_eq_false_iff_ne];exact fun z=>f2 ⟨hlt,z⟩
  simp_arith [s1,Qt f1,Qs hlt,ne]
 ·simp_arith [s1,Qt f1,Qt hlt]
theorem yG {f g:Ev->Mem->Out Fl} {σ σ':Ev} {M':Mem} {Q:Fl->Mem->Prop} (e:f σ M = .ok (.nx σ') M') (h:Ok (g σ' M') Q):Ok (qf f g σ M) Q:=by
 unfold qf
 rw [e]
 exact h
theorem zgT (ns:List Int) (hn:ns.length<=63) (k:Nat) (M:Mem) (o2 o3 o4 o5 o6 o7 o8 o9 o10:Option FT.T):Ok (zev [some (.lst (ns.map .int)),some (.int (k:Int)),o2,o3,o4,o5,o6,o7,o8,o9,o10] M) fun fl _=>∃ σ',fl = .nx (some (.lst (ns.map .int)) :: σ')/\σ'.length = 10:=by
 obtain ⟨c,hc⟩:=zgA (0 :: ns) k M
 have e0:(M ++ [(Po.new c).cell])[M.length]? = some (Po.new c).cell:=List.getElem?_concat_length
 obtain ⟨ps,M1,p1,n1,l1,l6,hg,f1,k1⟩:=zdo e0
 obtain ⟨x,M2,p2,n2,x0,x1,f2,k2⟩:=qR f1
 obtain ⟨low,hlow,hlow2⟩:∃ m:Int,m = (if (999999999940:Int) < x then 999999999940 else x)/\0<=m/\m<=10 ^ 12:=⟨_,rfl,by split <;> omega,by split <;> omega⟩
 obtain ⟨d,M3,p3,n3,d0,d1,f3,k3⟩:=yF (base:=61) f2 (by decide) (by decide)
 obtain ⟨n,rfl⟩:∃ n:Nat,d = n:=⟨d.toNat,by omega⟩
 obtain ⟨_,M4,e4,fr4,g,t,rfl,pk1⟩:=ze1 hg l6 (show low<=low + (n:Int) by omega) M3
 obtain ⟨_,M5,e5,fr5,g2,t2,rfl,pk2⟩:=zgx hg l6 hlow2.1 hlow2.2 (n:=n) (by omega) M4
 obtain ⟨rfl,rfl⟩:=pk2.same pk1
 have f5:=fr5.get0 (fr4.get0 f3)
 obtain ⟨x2,M6,p6,n6,x20,x21,f6,k6⟩:=qR f5
 obtain ⟨y2,M7,p7,n7,y20,y21,f7,k7⟩:=qR f6
 obtain ⟨lo,hi,so,slh,sor⟩:=zlF x2 y2
 have lo0:0<=lo:=by rcases sor with rfl | rfl <;> omega
 have s7:=zeA (xs:=[x2,y2]) (M:=M7)
 rw [so] at s7
 obtain ⟨_,M8,e8,fr8,g3,t3,rfl,pk3⟩:=ze1 hg l6 slh M7
 have f8:=fr8.get0 f7
 have sl:=zT hg l6 lo hi t3 M8
 rw [pk3.val hg slh] at sl
 have r1:=zeW (j:=((stT ps).length:Int)) (M:=M8) (by rw [stT,Qg];omega)
 rw [show (((stT ps).length:Int)).toNat = ps.length from by rw [stT,Qg];omega] at r1
 have sc:=zgd l6 M8
 obtain ⟨M9,n9,f9,k9⟩:=zaO hg l6 lo0 M8
 have f9':M9[M8.length]? = some (.lst ((tks ps lo).map .int)):=by rw [f9];unfold tks;rw [map_map];rfl
 have h8:=zaB f8
 have h9:=zaB f9
 have a9:=zfm (xs:=(rgI ps.length).map fun j=>sta (ps.take (j + 1).toNat)) f9' (by rw [Qg,zav];simp [tks];omega)
 obtain ⟨z,M10,p10,n10,z0,z1,f10,k10⟩:=qR (p:=p7) (a:=M.length) (M:=M9) (by rw [k9 _ h8];exact f8)
 have h10:=zaB f10
 obtain ⟨M11,n11,f11,k11⟩:=zaO hg l6 z0 M10
 have f11':M11[M10.length]? = some (.lst ((tks ps z).map .int)):=by rw [f11];unfold tks;rw [map_map];rfl
 have a11:=zfm (xs:=((rgI ps.length).map fun j=>sta (ps.take (j + 1).toNat)) ++ tks ps lo) f11' (by rw [Qm,Qg,zav];simp [tks];omega)
 obtain ⟨mx,hmx,mx0⟩:∃ m:Int,m = (if t3 - 1 > 0 then t3 - 1 else 0)/\0<=m:=⟨_,rfl,by split <;> omega⟩
 have a12:=zcX (xs:=(((rgI ps.length).map fun j=>sta (ps.take (j + 1).toNat)) ++ tks ps lo ++ tks ps z).map FT.T.int) (ys:=[.int mx]) (M:=M11) (Nat.le_of_lt (yx (by simp [tks,zav];omega)))
 have tb:=pk3.tick hg l6
 obtain ⟨q,M12,p12,n12,q0,q1,f12,k12⟩:=yF (p:=p10) (a:=M.length) (M:=M11) (base:=t3 + 1) (by rw [k11 _ h10];exact f10) (by omega) (Q5 (show (t3 + 1).natAbs < 10 ^ 20 by omega) (Nat.pow_le_pow_right (by decide) (by decide)))
 obtain ⟨L,hL⟩:∃ L:List Int,L = ((rgI ps.length).map fun j=>sta (ps.take (j + 1).toNat)) ++ tks ps lo ++ tks ps z ++ [mx]:=⟨_,rfl⟩
 have eL:(((rgI ps.length).map fun j=>sta (ps.take (j + 1).toNat)) ++ tks ps lo ++ tks ps z).map FT.T.int ++ [.int mx] = L.map .int:=by rw [hL];simp
 have lL:L.length<=30:=by rw [hL];simp [tks,zav];omega
 have nL:∀ x ∈ L ++ [q,0],0<=x:=by
  intro x hx
  rw [hL] at hx
  simp only [mem_append,mem_cons,mem_map,List.not_mem_nil,or_false] at hx
  rcases hx with (((⟨j,_,rfl⟩ | hx) | hx) | rfl) | rfl | rfl
  ·exact zdM fun p hp=>hg p (mem_of_mem_take hp)
  ·exact zga hg _ x hx
  ·exact zga hg _ x hx
  ·exact mx0
  ·exact q0
  ·decide
 rw [eL] at a12
 have a13:=zcX (xs:=L.map FT.T.int) (ys:=[.int q,.int 0]) (M:=M12) (Nat.le_of_lt (yx (by rw [Qg];simp;omega)))
 rw [show L.map FT.T.int ++ [.int q,.int 0] = (L ++ [q,0]).map .int from by simp] at a13
 have a1:=zcX (xs:=[.int 0]) (ys:=ns.map .int) (M:=M) (Nat.le_of_lt (yx (by rw [Qg];show 1 + _<=1000;omega)))
 rw [show ([FT.T.int 0] ++ ns.map .int) = ((0 :: ns).map .int) from rfl] at a1
 have pe:=ze2 g2 t2 M4
 have pe2:=ze2 g3 t3 M8
 have ne1:neA (.tup [.int g2,.int t2]) (.tup [.int g2,.int t2]) M5 = .ok (.bl false) M5:=by
  have:=zeQ M5 18 [g2,t2] [g2,t2]
  rw [Qs rfl] at this
  have e:eqD M5 20 (.tup [.int g2,.int t2]) (.tup [.int g2,.int t2]) = some true:=this
  unfold neA
  rw [e];rfl
 have s7':qw [.lst [.int x2,.int y2]] M7 = .ok [.int lo,.int hi] M7:=s7
 unfold zev
 generalize (0 :: ns).map FT.T.int = L0 at a1 hc
 refine yG (σ':=[some (.lst (ns.map .int)),some (.int (k:Int)),some (.ref M.length),o3,o4,o5,o6,o7,o8,o9,o10]) (M':=M ++ [(Po.new c).cell]) (by simp_arith [a1,hc,zgz]) ?_
 refine yG (σ':=[some (.lst (ns.map .int)),some (.int (k:Int)),some (.ref M.length),some (.tup (stT ps)),o4,o5,o6,o7,o8,o9,o10]) (M':=M1) (by simp_arith [n1]) ?_
 refine yG (σ':=[some (.lst (ns.map .int)),some (.int (k:Int)),some (.ref M.length),some (.tup (stT ps)),some (.int low),o5,o6,o7,o8,o9,o10]) (M':=M2) (by simp_arith [n2,ze8,Int.reduceSub,← hlow]) ?_
 refine yG (σ':=[some (.lst (ns.map .int)),some (.int (k:Int)),some (.ref M.length),some (.tup (stT ps)),some (.int low),some (.int (low + n)),o6,o7,o8,o9,o10]) (M':=M3) (by simp_arith [n3]) ?_
 refine yG (σ':=[some (.lst (ns.map .int)),some (.int (k:Int)),some (.ref M.length),some (.tup (stT ps)),some (.int low),some (.int (low + n)),some (.tup [.int g2,.int t2]),o7,o8,o9,o10]) (M':=M4) (by simp_arith [e4]) ?_
 refine yG (σ':=[some (.lst (ns.map .int)),some (.int (k:Int)),some (.ref M.length),some (.tup (stT ps)),some (.int low),some (.int (low + n)),some (.tup [.int g2,.int t2]),o7,o8,o9,o10]) (M':=M5) (by simp_arith [pe,e5,ne1]) ?_
 refine yG (σ':=[some (.lst (ns.map .int)),some (.int (k:Int)),some (.ref M.length),some (.tup (stT ps)),some (.int low),some (.int (low + n)),some (.tup [.int g2,.int t2]),some (.lst [.int lo,.int hi]),o8,o9,o10]) (M':=M7) (by simp_arith [n6,n7,s7']) ?_
 refine yG (σ':=[some (.lst (ns.map .int)),some (.int (k:Int)),some (.ref M.length),some (.tup (stT ps)),some (.int low),some (.int (low + n)),some (.tup [.int g3,.int t3]),some (.lst [.int lo,.int hi]),o8,o9,o10]) (M':=M8) (by simp_arith [e8]) ?_
 refine yG (σ':=[some (.lst (ns.map .int)),some (.int (k:Int)),some (.ref M.length),some (.tup (stT ps)),some (.int low),some (.int (low + n)),some (.tup [.int g3,.int t3]),some (.lst [.int lo,.int hi]),o8,o9,o10]) (M':=M8) (by simp_arith [pe2,sl,beq_self_eq_true]) ?_
 refine yG (σ':=[some (.lst (ns.map .int)),some (.int (k:Int)),some (.ref M.length),some (.tup (stT ps)),some (.int low),some (.int (low + n)),some (.tup [.int g3,.int t3]),some (.lst [.int lo,.int hi]),some (.lst (((rgI ps.length).map fun j=>sta (ps.take (j + 1).toNat)).map .int)),o9,o10]) (M':=M8) (by simp_arith [r1,sc]) ?_
 refine yG (σ':=[some (.lst (ns.map .int)),some (.int (k:Int)),some (.ref M.length),some (.tup (stT ps)),some (.int low),some (.int (low + n)),some (.tup [.int g3,.int t3]),some (.lst [.int lo,.int hi]),some (.lst (L.map .int)),o9,o10]) (M':=M11) (by simp_arith [n9,a9,n10,n11,a11,← hmx,a12]) ?_
 simp_arith [n12,a13]
 refine (Ok.for (r:=FT.T.int) (P:=fun _ σ M'=>∃ o9 o10,σ = [some (.lst (ns.map .int)),some (.int (k:Int)),some (.ref M.length),some (.tup (stT ps)),some (.int low),some (.int (low + n)),some (.tup [.int g3,.int t3]),some (.lst [.int lo,.int hi]),some (.lst (L.map .int)),o9,o10]) (xs:=L ++ [q,0]) ⟨_,_,rfl⟩ ?_).mono ?_
 ·rintro j x σ M' hx ⟨o9,o10,rfl⟩
  have:=zje hg l6 pk3 (nL x (Q9 hx)) (some (.lst (ns.map .int))) (some (.int (k:Int))) (some (.ref M.length)) (some (.int low)) (some (.int (low + n))) (some (.lst (L.map .int))) o10 M'
  exact Ok.of this ⟨_,rfl,_,_,rfl⟩
 ·rintro fl M' ⟨σ,rfl,o9,o10,rfl⟩
  exact ⟨_,rfl,rfl⟩
theorem law_true (ns:List Int) (hl:ns.length<=63):∃ M,zdy [.lst (ns.map .int)] [] = .ok (.bl true) M:=by
 have:Ok (zdy [.lst (ns.map .int)] []) fun t _=>t = .bl true:=by
  refine zak rfl ?_
  unfold zhU
  obtain ⟨m,hm,hm2⟩:∃ m:Int,m = (if (30:Int) < (ns.length:Int) then 30 else (ns.length:Int))/\0<=m/\m<=30:=⟨_,rfl,by split <;> omega,by split <;> omega⟩
  have r1:=zeW (j:=1 + m) (M:=[]) (by omega)
  simp_arith [ze8,Qg,← hm,r1]
  refine Ok.bind (Ok.for (r:=FT.T.int) (P:=fun _ σ M'=>∃ σ2,σ = some (.lst (ns.map .int)) :: σ2/\σ2.length = 10) (xs:=rgI (1 + m).toNat) ⟨_,rfl,rfl⟩ ?_) ?_
  ·rintro j x σ M' hx ⟨σ2,rfl,h10⟩
   obtain ⟨hk,rfl⟩:=zig hx
   match σ2,h10 with
   | [o1,o2,o3,o4,o5,o6,o7,o8,o9,o10],_=>
    refine (zgT ns hl j M' o2 o3 o4 o5 o6 o7 o8 o9 o10).mono ?_
    rintro fl M2 ⟨σ',rfl,h⟩
    exact ⟨_,rfl,_,rfl,h⟩
  ·rintro fl M' ⟨σ,rfl,σ2,rfl,h10⟩
   match σ2,h10 with
   | [o1,o2,o3,o4,o5,o6,o7,o8,o9,o10],_=>
    simp_arith [and_self]
    exact Ok.ret rfl
 obtain ⟨_,M,e,rfl⟩:=this
 exact ⟨M,e⟩
end My
theorem My.e1 {α:Type} {P:List α->Prop} (h:∀ a,P [a]):∀ us:List α,us.length = 1->P us
 | [a],_=>h a
theorem My.e2 {α:Type} {P:List α->Prop} (h:∀ a b,P [a,b]):∀ us:List α,us.length = 2->P us
 | [a,b],_=>h a b
theorem My.e3 {α:Type} {P:List α->Prop} (h:∀ a b c,P [a,b,c]):∀ us:List α,us.length = 3->P us
 | [a,b,c],_=>h a b c
theorem My.e4 {α:Type} {P:List α->Prop} (h:∀ a b c d,P [a,b,c,d]):∀ us:List α,us.length = 4->P us
 | [a,b,c,d],_=>h a b c d
theorem My.e5 {α:Type} {P:List α->Prop} (h:∀ a b c d e,P [a,b,c,d,e]):∀ us:List α,us.length = 5->P us
 | [a,b,c,d,e],_=>h a b c d e
local macro_rules | `(tactic| rfl') => do
 let K:=Lean.mkIdent `KX
 let G:=Lean.mkIdent `G
 `(tactic| (dsimp only [L2.KOf];refine' L2.zz $K $G ?a ?l ?c ?k ?b;(case a=>k_is);(case l=>k_is);(case c=>k_is);(case k=>k_is)))
open PySem PySem.W PyProof.Rows
set_option maxRecDepth 100000 in
set_option maxHeartbeats 0 in
theorem PySem.Challenge.cw_tryweir_k56_peaks_holds : PySem.Challenge.rw_tryweir_k56_peaks.Holds := by
 refine My.hdD.2 ?_
 dsimp only [My.hdD]
 k_fill
 refine L2.zg3 (l:=PySem.Challenge.rw_tryweir_k56_peaks) (n:=63) (k:=5) (x:="script") (CX:=L2.CX0) (sp:=fun K=>FT.spT K My.zdy) rfl (by decide) rfl ⟨rfl,by decide,by decide⟩ (fun w h Y=>PySem.W.kIn_of Y) ?F ?S ?C
 case F=>
  intro w mg fa h KX G hmg
  have un:L2.Df (L2.KOf KX) mg "_law_left" My.zb2 ["cell"]:=by rfl';exact fun _ _ _ _ _ _=>My.e1 fun _=>rfl
  have uo:L2.Df (L2.KOf KX) mg "_law_next" My.zb1 ["pool","base"]:=by rfl';exact fun _ _ _ _ _ _=>My.e2 fun _ _=>rfl
  have ud:L2.Df (L2.KOf KX) mg "_law_strewing" My.y3 ["pool"]:=by rfl';exact fun _ _ _ _ _ _=>My.e1 fun _=>rfl
  have uf:L2.Df (L2.KOf KX) mg "start_of" My.zaJ ["strewing","j"]:=by rfl';exact fun _ _ _ _ _ _=>My.e2 fun _ _=>rfl
  have ue:L2.Df (L2.KOf KX) mg "spread_of" My.zaq ["strewing","j"]:=by rfl';exact fun _ _ _ _ _ _=>My.e2 fun _ _=>rfl
  have uk:L2.Df (L2.KOf KX) mg "tick_of" My.zba ["strewing","errand","j"]:=by rfl';exact fun _ _ _ _ _ _=>My.e3 fun _ _ _=>rfl
  have uh:L2.Df (L2.KOf KX) mg "rises_of" My.zaK ["strewing","low"]:=by rfl';exact fun _ _ _ _ _ _=>My.e2 fun _ _=>rfl
  have ua:L2.Df (L2.KOf KX) mg "load_of_one" My.yT ["strewing","low","high","tick","j"]:=by rfl';exact fun _ _ _ _ _ _=>My.e5 fun _ _ _ _ _=>rfl
  have ub:L2.Df (L2.KOf KX) mg "strew_load" My.y1 ["strewing","low","high","tick"]:=by rfl';exact fun _ _ _ _ _ _=>My.e4 fun _ _ _ _=>rfl
  have uv:L2.Df (L2.KOf KX) mg "peak" My.zdU ["strewing","low","high"]:=by rfl';exact fun _ _ _ _ _ _=>My.e3 fun _ _ _=>rfl
  have ur:L2.Df (L2.KOf KX) mg "_law_cell" My.zb3 ["script","k"]:=by rfl';exact fun _ _ _ _ _ _=>My.e2 fun _ _=>rfl
  have up:L2.Df (L2.KOf KX) mg "_law_wide" My.zbY ["pool","base"]:=by rfl';exact fun _ _ _ _ _ _=>My.e2 fun _ _=>rfl
  have ug:L2.Df (L2.KOf KX) mg "_law_errand" My.zaL ["pool"]:=by rfl';exact fun _ _ _ _ _ _=>My.e1 fun _=>rfl
  have ui:L2.Df (L2.KOf KX) mg "_law_whole" My.zbb ["thing"]:=by rfl';exact fun _ _ _ _ _ _=>My.e1 fun _=>rfl
  have uq:L2.Df (L2.KOf KX) mg "_law_pair" My.zb0 ["found"]:=by rfl';exact fun _ _ _ _ _ _=>My.e1 fun _=>rfl
  have uj:L2.Df (L2.KOf KX) mg "_law_ticks" My.zbc ["strewing","errand"]:=by rfl';exact fun _ _ _ _ _ _=>My.e2 fun _ _=>rfl
  have um:L2.Df (L2.KOf KX) mg "_law_peak" My.zbZ ["strewing","low","high"]:=by rfl';exact fun _ _ _ _ _ _=>My.e3 fun _ _ _=>rfl
  have ux:mg "max" = none:=by refine' PySem.W.mg_none_of KX G ?z18;k_is
  have ut:mg "range" = none:=by refine' PySem.W.mg_none_of KX G ?z19;k_is
  have us:mg "tuple" = none:=by refine' PySem.W.mg_none_of KX G ?z20;k_is
  have uA:mg "sum" = none:=by refine' PySem.W.mg_none_of KX G ?z21;k_is
  have uw:mg "len" = none:=by refine' PySem.W.mg_none_of KX G ?z22;k_is
  have ul:mg "sorted" = none:=by refine' PySem.W.mg_none_of KX G ?z23;k_is
  have uz:mg "int" = none:=by refine' PySem.W.mg_none_of KX G ?z24;k_is
  have uc:mg "isinstance" = none:=by refine' PySem.W.mg_none_of KX G ?z25;k_is
  have uu:mg "bool" = none:=by refine' PySem.W.mg_none_of KX G ?z26;k_is
  have uB:mg "all" = none:=by refine' PySem.W.mg_none_of KX G ?z27;k_is
  have uy:mg "min" = none:=by refine' PySem.W.mg_none_of KX G ?z28;k_is
  have L:=by
   refine' L2.zj1 (st:=My.zfC) KX G ?la ?ll ?lc ?lk ?lb
   (case la=>k_is);(case ll=>k_is);(case lc=>k_is);(case lk=>k_is)
   exact fun _ _ _ _ _ _ s u=>.of_eq rfl
  obtain ⟨f,fd,F,g,hb⟩:=L
  have e:=hmg.symm.trans g
  cases e
  have T:My.Txt mg:=⟨ux,ut,us,uA,uw,ul,uz,uc,uu,uB,uy⟩
  refine ⟨fd,hb,fun base _ _=>?_⟩
  have zad:=My.zad (P:=My.pg) (w:=w) (base:=base) un T
  have qi:=My.qi (P:=My.pg) (w:=w) (base:=base) uo T
  have zJ:=My.zJ ud T qi
  have yp:=My.yp (P:=My.pg) (w:=w) (base:=base) uf T
  have yu:=My.yu (P:=My.pg) (w:=w) (base:=base) ue T
  have yS:=My.yS uk T yp yu
  have zP:=My.zP uh T yp yS
  have yE:=My.yE ua T yu yp
  have zp:=My.zp ub T yE
  have zaD:=My.zaD uv T zP zp
  have zae:=My.zae (P:=My.pg) (w:=w) (base:=base) ur T
  have zab:=My.zab up T qi
  have zA:=My.zA ug T zab qi
  have qS:=My.qS (P:=My.pg) (w:=w) (base:=base) ui T
  have zR:=My.zR uq T qS
  have qz:=My.qz (P:=My.pg) (w:=w) (base:=base) uj T
  have zac:=My.zac um T qz
  exact My.zjV F T zad zJ zaD zae zA qi zp zR zac qz
 case S=>
  intro K H a ns hl _ hS
  obtain ⟨M,h⟩:=My.law_true ns hl
  exact FT.ziN hS h
 case C=>exact fun _ _ _ _ z=>z